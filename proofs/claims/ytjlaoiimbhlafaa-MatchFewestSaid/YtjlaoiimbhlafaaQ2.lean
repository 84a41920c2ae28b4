import Derived.Test.YtjlaoiimbhlafaaQ1
set_option linter.unusedVariables false
set_option linter.unusedSimpArgs false
namespace Go.Proofs.Ytjlaoiimbhlafaa
open Go.RowKit Go.Shelf

open MW
attribute [local go_sem] Oper.semAt_some run_store_func
attribute [local go_sem ↓] Go.wp_at_zero Go.wp_at_succ
attribute [local go_sem] guard55 guard24 neq55 eql24 neq24
attribute [-go_sem] run_eql_struct run_neq_struct
theorem PrsIn.at {p : Option Addr} {c : Nat} {l : List (Nat × Nat)} {w : World} (h : PrsIn (.slice p l.length c) l w) : ∀ W, Gr w W → ∀ i x, l[i]? = some x → ∃ b o, p = some ⟨b, o, none⟩ ∧ b < W.heap.size ∧ W.cell? ⟨b, o + i * 2, none⟩ = some (.int .i64 x.1) ∧ W.cell? ⟨b, o + i * 2 + 1, none⟩ = some (.int .i64 x.2) := fun W hg i x hx => by
  obtain ⟨p', c', hv, h⟩ := PrsIn.grow h hg
  cases hv
  exact h i x hx
/-- where the other pairs first differ they come behind -/
theorem best_two {r : Rr} (h0 : r.ways ≠ []) {p : List (Nat × Nat)} (hp : Chn r.fitm r.L.length r.R.length p) (hl : p.length = r.best.length) {i : Nat} {a b : Nat × Nat}
    (hj : ∀ j, j < i → p[j]? = r.best[j]?) (ha : p[i]? = some a) (hb : r.best[i]? = some b) (hne : a ≠ b) :
    (b.1 < a.1) ∨ (a.1 = b.1 ∧ b.2 < a.2) := by
  have h := Rr.best_at h0 hp hl hj ha hb hne
  rcases Nat.lt_trichotomy a.1 b.1 with h1 | h1 | h1
  · exact absurd (Or.inl h1) h
  · rcases Nat.lt_trichotomy a.2 b.2 with h2 | h2 | h2
    · exact absurd (Or.inr ⟨h1, h2⟩) h
    · exact absurd (Prod.ext h1 h2) hne
    · exact .inr ⟨h1, h2⟩
  · exact .inl h1
set_option maxRecDepth 100000 in
set_option maxHeartbeats 8000000 in
theorem lfew_cmp (r : Rr) (q : List (Nat × Nat)) (nf : Nat) (pa po : Option Addr) (ka ko : Nat) (w wb : World) (hok : r.ok = true) (h0 : r.ways ≠ []) (hB : Box wb w.heap.size r.cs 26) (hG : Gr w wb) (hML : MksAt r.L r.lp wb) (hMR : MksAt r.R r.rp wb) (hA : PrsIn (.slice pa r.best.length ka) r.best wb) (hQ : PrsIn (.slice po q.length ko) q wb) (hC : Chn r.fitm r.L.length r.R.length q) (hbl : r.best.length ≤ 1000)
    (hend : ∀ W, Gr wb W → ∀ {s0 s1 s3 s4 s5 s7 s8 s9 s10 s11 s12 s13 s14 s15 s16 s17 s18 s19 s20 s21 s22 s23 s24 s25 s26 s27 s28 s29 s30 s31 s32 s33 s34 s35 s36 s37 s38 s39 s40 s41 s42 s43 s44 s45 s46 s47 s48 s49 s50 s51 s52 s53 s54 s55 s56 s57 s58 s59 s60 s61 s62 s63 s64 s65 s66 s67 s68 s69 s70 s71 s72 s73 s74 s75 s76 s77 s78 s79 s80 s81 s82 s83 s84 s85 s86 s87 s88 s89 s90 s91 s92 s93 s94 s95 s96 s97 s98 s99 s100 s101 s102 s103 s104 s105 s106 s107 s108 s109 s110 s111 s112 s113 s114 s115 s116 s117 s118 s119 s120 s121 s122 s123 s124 s125 s126 s127 s128 s129 s130 s131 s132 s133 s134 s135 s136 s137 s138 s139 s140 s141 s142 s143 s144 s145 s146 s147 s148 s149 s150 s151 s152 s153 s154 s155 s156 s157 s158 s159 s160 s161 s162 s163 s164 s165 s166 s167 s168 s169 s170 s171 s172 s173 s174 s175 s176 s177 s178 s179 s180 s181 s182 s183 s184 s185 s186 s187 s188 s189 s190 s191 s192 s193 s194 s195 s196 s197 s198 s199 s200 s201 s202 s203 s204 s205 s206 s207 s208 s209 s210 s211 s212 s213 s214 s215 s216 s217 s218 s219 s220 s221 s222 s223 s224 s225 s226 s227 s228 s229 s230 s231 s232 s233 s234 s235 s236 s237 s238 s239 s240 s241 s242 s243 s244 s245 s246 s247 s248 s249 s250 s251 s252 s253 s254 s255 s256 s257 s258 s259 s260 s261 s262 s263 s264 s265 s266 s267 s268 s269 s270 s271 s272 s273 s274 s275 s276 s277 s278 s279 s280 s281 s282 s283 s284 s285 s286 s287 s288 s289 s290 s291 s292 s293 s294 s295 s296 s297 s298 s299 s300 s301 s302 s303 s304 s305 s306 s307 s308 s309 s310 s311 s312 s313 s314 s315 s316 : Value}, (Code.snd2 (Code.snd2 (Code.snd2 (Code.snd2 (Code.snd2 (Code.snd2 (Code.snd2 (Code.snd2 (Code.snd2 (Code.snd2 (Code.snd2 (Code.snd2 (Try.f8.body.getD .skip))))))))))))).wp Try.prog (bodyPost Try.prog Try.f8 fun e w' => e = .returned (.bool true) ∧ Below w.heap.size w w') { tmps := #[s0, s1, .pointer (some ⟨w.heap.size, 0, none⟩), s3, s4, s5, .int .i64 nf, s7, s8, s9, s10, s11, s12, s13, s14, s15, s16, s17, s18, s19, s20, s21, s22, s23, s24, s25, s26, s27, s28, s29, s30, s31, s32, s33, s34, s35, s36, s37, s38, s39, s40, s41, s42, s43, s44, s45, s46, s47, s48, s49, s50, s51, s52, s53, s54, s55, s56, s57, s58, s59, s60, s61, s62, s63, s64, s65, s66, s67, s68, s69, s70, s71, s72, s73, s74, s75, s76, s77, s78, s79, s80, s81, s82, s83, s84, s85, s86, s87, s88, s89, s90, s91, s92, s93, s94, s95, s96, s97, s98, s99, s100, s101, s102, s103, s104, s105, s106, s107, s108, s109, s110, s111, s112, s113, s114, s115, s116, s117, s118, s119, s120, s121, s122, s123, s124, s125, s126, s127, s128, s129, s130, s131, s132, s133, s134, s135, s136, s137, s138, s139, s140, s141, s142, s143, s144, s145, s146, s147, s148, s149, s150, s151, s152, s153, s154, s155, s156, s157, s158, s159, s160, s161, s162, s163, s164, s165, s166, s167, s168, s169, s170, s171, s172, s173, s174, s175, s176, s177, s178, s179, s180, s181, s182, s183, s184, s185, s186, s187, s188, s189, s190, s191, s192, s193, s194, s195, s196, s197, s198, s199, s200, s201, s202, s203, s204, s205, s206, s207, s208, s209, s210, s211, s212, s213, s214, s215, s216, s217, s218, s219, s220, s221, s222, s223, s224, s225, s226, s227, s228, s229, s230, s231, s232, s233, s234, s235, s236, s237, s238, s239, s240, s241, s242, s243, s244, s245, s246, s247, s248, s249, s250, s251, s252, s253, s254, s255, s256, s257, s258, s259, s260, s261, s262, s263, s264, s265, s266, s267, s268, s269, s270, s271, s272, s273, s274, s275, s276, s277, s278, s279, s280, s281, s282, s283, s284, s285, s286, s287, s288, s289, s290, s291, s292, s293, s294, s295, s296, s297, s298, s299, s300, s301, s302, s303, s304, s305, s306, s307, s308, s309, s310, s311, s312, s313, s314, s315, s316], defers := [] } W) {s0 s1 s3 s4 s7 s8 s9 s10 s11 s12 s13 s15 s16 s17 s18 s19 s20 s21 s22 s23 s24 s25 s26 s27 s28 s29 s30 s31 s32 s33 s34 s35 s36 s37 s38 s39 s40 s41 s42 s43 s44 s45 s46 s47 s48 s49 s50 s51 s52 s53 s54 s55 s56 s57 s58 s59 s60 s61 s62 s63 s64 s65 s66 s67 s68 s69 s70 s71 s72 s73 s74 s75 s76 s77 s78 s79 s80 s81 s82 s83 s84 s85 s86 s87 s88 s89 s90 s91 s92 s93 s94 s95 s96 s97 s98 s99 s100 s101 s102 s103 s104 s105 s106 s107 s108 s109 s110 s111 s112 s113 s114 s115 s116 s117 s118 s119 s120 s121 s122 s123 s124 s125 s126 s127 s128 s129 s130 s131 s132 s133 s134 s135 s136 s137 s138 s139 s140 s141 s142 s143 s144 s145 s146 s147 s148 s149 s150 s151 s152 s153 s154 s155 s156 s157 s158 s159 s160 s161 s162 s163 s164 s165 s166 s167 s168 s169 s170 s171 s172 s173 s174 s175 s176 s177 s178 s179 s180 s181 s182 s183 s184 s185 s186 s187 s188 s189 s190 s191 s192 s193 s194 s195 s196 s197 s198 s199 s200 s201 s202 s203 s204 s205 s206 s207 s208 s209 s210 s211 s212 s213 s214 s215 s216 s217 s218 s219 s220 s221 s222 s223 s224 s225 s226 s227 s228 s229 s230 s231 s232 s233 s234 s235 s236 s237 s238 s239 s240 s241 s242 s243 s244 s245 s246 s247 s248 s249 s250 s251 s252 s253 s254 s255 s256 s257 s258 s259 s260 s261 s262 s263 s264 s265 s266 s267 s268 s269 s270 s271 s272 s273 s274 s275 s276 s277 s278 s279 s280 s281 s282 s283 s284 s285 s286 s287 s288 s289 s290 s291 s292 s293 s294 s295 s296 s297 s298 s299 s300 s301 s302 s303 s304 s305 s306 s307 s308 s309 s310 s311 s312 s313 s314 s315 s316 : Value} :
    (Code.snd2 (Code.snd2 (Code.snd2 (Code.snd2 (Code.snd2 (Code.snd2 (Code.snd2 (Code.snd2 (Code.snd2 (Code.snd2 (Try.f8.body.getD .skip))))))))))).wp Try.prog (bodyPost Try.prog Try.f8 fun e w' => e = .returned (.bool true) ∧ Below w.heap.size w w') { tmps := #[s0, s1, .pointer (some ⟨w.heap.size, 0, none⟩), s3, s4, .slice pa r.best.length ka, .int .i64 nf, s7, s8, s9, s10, s11, s12, s13, .slice po q.length ko, s15, s16, s17, s18, s19, s20, s21, s22, s23, s24, s25, s26, s27, s28, s29, s30, s31, s32, s33, s34, s35, s36, s37, s38, s39, s40, s41, s42, s43, s44, s45, s46, s47, s48, s49, s50, s51, s52, s53, s54, s55, s56, s57, s58, s59, s60, s61, s62, s63, s64, s65, s66, s67, s68, s69, s70, s71, s72, s73, s74, s75, s76, s77, s78, s79, s80, s81, s82, s83, s84, s85, s86, s87, s88, s89, s90, s91, s92, s93, s94, s95, s96, s97, s98, s99, s100, s101, s102, s103, s104, s105, s106, s107, s108, s109, s110, s111, s112, s113, s114, s115, s116, s117, s118, s119, s120, s121, s122, s123, s124, s125, s126, s127, s128, s129, s130, s131, s132, s133, s134, s135, s136, s137, s138, s139, s140, s141, s142, s143, s144, s145, s146, s147, s148, s149, s150, s151, s152, s153, s154, s155, s156, s157, s158, s159, s160, s161, s162, s163, s164, s165, s166, s167, s168, s169, s170, s171, s172, s173, s174, s175, s176, s177, s178, s179, s180, s181, s182, s183, s184, s185, s186, s187, s188, s189, s190, s191, s192, s193, s194, s195, s196, s197, s198, s199, s200, s201, s202, s203, s204, s205, s206, s207, s208, s209, s210, s211, s212, s213, s214, s215, s216, s217, s218, s219, s220, s221, s222, s223, s224, s225, s226, s227, s228, s229, s230, s231, s232, s233, s234, s235, s236, s237, s238, s239, s240, s241, s242, s243, s244, s245, s246, s247, s248, s249, s250, s251, s252, s253, s254, s255, s256, s257, s258, s259, s260, s261, s262, s263, s264, s265, s266, s267, s268, s269, s270, s271, s272, s273, s274, s275, s276, s277, s278, s279, s280, s281, s282, s283, s284, s285, s286, s287, s288, s289, s290, s291, s292, s293, s294, s295, s296, s297, s298, s299, s300, s301, s302, s303, s304, s305, s306, s307, s308, s309, s310, s311, s312, s313, s314, s315, s316], defers := [] } wb := by
  conv => arg 2; whnf
  have hm := Rr.best_max h0 hC
  have HA := Lib.hid (PrsIn.at hA)
  have HQ := Lib.hid (PrsIn.at hQ)
  have HEND := Lib.hid hend
  have HTW := Lib.hid (fun (hl : q.length = r.best.length) i a b hj ha hb hne => best_two h0 hC hl (i := i) (a := a) (b := b) hj ha hb hne)
  clear hok h0 hB hG hML hMR hA hQ hC hend
  have e1 : decide ((r.best.length : Int) < q.length) = false := by simp; omega
  apply wp_seq_k
  intro KA hKA
  have HKA := Lib.hid hKA
  clear hKA
  go_wp2_with fail
  refine HKA.out _ _ ?_
  clear HKA
  apply wp_seq_k
  intro KB hKB
  have HKB := Lib.hid hKB
  clear hKB
  go_wp2_with fail
  go_loopw [227] (fun t wr => ∃ c : Nat, c ≤ q.length ∧ t = .int .i64 c ∧ Hid (Gr wb wr) ∧ Hid (q.length = r.best.length → ∀ j, j < c → q[j]? = r.best[j]?)) (fun t _ => (2000 - intOf t).toNat)
  case atStart => exact ⟨0, Nat.zero_le _, rfl, Lib.hid (Gr.same _), Lib.hid (fun _ j hj => absurd hj (by omega))⟩
  case round =>
    obtain ⟨c, hc, rfl, HR, HJ⟩ := hrel
    by_cases hlt : c < q.length
    · have g1 : (c : Int) < q.length := by omega
      obtain ⟨x, hx⟩ : ∃ x, q[c]? = some x := ⟨q[c], List.getElem?_eq_getElem hlt⟩
      obtain ⟨y, hy⟩ : ∃ y, r.best[c]? = some y := ⟨r.best[c], List.getElem?_eq_getElem (by omega)⟩
      obtain ⟨bq, oq, hpq, hbq, q1, q2⟩ := HQ.out _ HR.out c x hx
      obtain ⟨ba, oa, hpa, hba, a1, a2⟩ := HA.out _ HR.out c y hy
      subst hpq hpa
      have HX := Lib.hid hx
      have HY := Lib.hid hy
      clear hx hy
      by_cases hl : q.length = r.best.length
      · have g2 : (c : Int) < r.best.length := by omega
        have e2 : ((q.length : Int) == r.best.length) = true := by simp; omega
        by_cases hxy : x = y
        · have e3 : (!((x.1 : Int) == y.1 && (x.2 : Int) == y.2)) = false := by rw [hxy]; simp
          have HXY := Lib.hid hxy
          have HL := Lib.hid hl
          clear hxy hl
          go_wp2_with fail
          go_quiet (fail)
          go_wp2_with fail
          exact ⟨⟨c + 1, by omega, by go_num, Lib.hid (by first | exact HR.out | exact Gr.tr HR.out (Gr.drewN _ _)), Lib.hid (fun h j hj => by
            by_cases hjc : j = c
            · rw [hjc, HX.out, HY.out, HXY.out]
            · exact HJ.out h j (by omega))⟩, by simp [intOf]; omega⟩
        · have e3 : (!((x.1 : Int) == y.1 && (x.2 : Int) == y.2)) = true := by
            simp only [Bool.not_eq_true', Bool.and_eq_false_iff, beq_eq_false_iff_ne]
            by_cases h1 : x.1 = y.1
            · right; intro h2; exact hxy (Prod.ext h1 (by omega))
            · left; omega
          have ht := HTW.out hl c x y (HJ.out hl) HX.out HY.out hxy
          clear hxy
          rcases ht with ht | ⟨ht, ht2⟩
          · have e4 : decide ((x.1 : Int) < y.1) = false := by simp; omega
            have e5 : ((x.1 : Int) == y.1) = false := by rw [beq_eq_false_iff_ne]; omega
            have e7 : ¬ x.1 < y.1 := by omega
            have e8 : ¬ x.1 = y.1 := by omega
            clear ht
            go_wp2_with fail
            go_quiet (fail)
            go_wp2_with fail
            go_quiet (fail)
            go_wp2_with fail
            exact HKB.out _ _ (HEND.out _ (by first | exact HR.out | exact Gr.tr HR.out (Gr.drewN _ _) | exact Gr.tr (Gr.tr HR.out (Gr.drewN _ _)) (Gr.drewN _ _)))
          · have e4 : decide ((x.1 : Int) < y.1) = false := by simp; omega
            have e5 : ((x.1 : Int) == y.1) = true := by rw [beq_iff_eq]; omega
            have e5' : decide (x.1 = y.1) = true := by simp; omega
            have e6 : decide ((x.2 : Int) < y.2) = false := by simp; omega
            have e7 : ¬ x.1 < y.1 := by omega
            have e9 : ¬ x.2 < y.2 := by omega
            have e10 : ((x.2 : Int) == y.2) = false := by rw [beq_eq_false_iff_ne]; omega
            have e11 : ¬ x.2 = y.2 := by omega
            clear ht ht2
            go_wp2_with fail
            go_quiet (fail)
            go_wp2_with fail
            go_quiet (fail)
            go_wp2_with fail
            exact HKB.out _ _ (HEND.out _ (by first | exact HR.out | exact Gr.tr HR.out (Gr.drewN _ _) | exact Gr.tr (Gr.tr HR.out (Gr.drewN _ _)) (Gr.drewN _ _)))
      · have e2 : ((q.length : Int) == r.best.length) = false := by rw [beq_eq_false_iff_ne]; omega
        have HL := Lib.hid hl
        clear hl
        go_wp2_with fail
        go_quiet (fail)
        go_wp2_with fail
        exact ⟨⟨c + 1, by omega, by go_num, Lib.hid (by first | exact HR.out | exact Gr.tr HR.out (Gr.drewN _ _)), Lib.hid (fun h => absurd h HL.out)⟩, by simp [intOf]; omega⟩
    · have hcn : c = q.length := by omega
      subst hcn
      go_wp2_with fail
      exact HKB.out _ _ (HEND.out _ HR.out)

end Go.Proofs.Ytjlaoiimbhlafaa
