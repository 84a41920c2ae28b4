import Derived.Test.YtjlaoiimbhlafaaQ1
set_option linter.unusedVariables false
set_option linter.unusedSimpArgs false
namespace Go.Proofs.Ytjlaoiimbhlafaa
open Go.RowKit Go.Shelf

open MW
attribute [local go_sem] Oper.semAt_some run_store_func
attribute [local go_sem ↓] Go.wp_at_zero Go.wp_at_succ
attribute [local go_sem] guard55 guard24 neq55 eql24 neq24
attribute [-go_sem] run_eql_struct run_neq_struct
/-- A slice of bytes that came in. -/
def U8s (p : Option Addr) (n : Nat) (W : World) : Prop := n ≤ maxLen ∧ ∀ i, i < n → ∃ b o, ∃ z : Int, p = some ⟨b, o, none⟩ ∧ b < W.heap.size ∧ 0 ≤ z ∧ z ≤ 255 ∧ W.cell? ⟨b, o + i, none⟩ = some (.int .u8 z)
theorem U8s.grow {p : Option Addr} {n : Nat} {w w' : World} (h : U8s p n w) (hg : Gr w w') : U8s p n w' := ⟨h.1, fun i hi => by
  obtain ⟨b, o, z, h1, h2, h3, h4, h5⟩ := h.2 i hi
  exact ⟨b, o, z, h1, (bcell hg).2.2 _ h2, h3, h4, by rw [(bcell hg).1 _ _ h2]; exact h5⟩⟩
theorem info55q : (Try.prog.info? 55).map (fun i => (i.zero, i.size, i.bytes)) = some (some (.agg #[.int .i64 0, .int .i64 0]), 2, 16) := by kernel_rfl
set_option maxRecDepth 100000 in
set_option maxHeartbeats 8000000 in
theorem lfew_by (r : Rr) (nf ny cy : Nat) (pa py : Option Addr) (ka : Nat) (w wb : World) (hok : r.ok = true) (h0 : r.ways ≠ []) (hB : Box wb w.heap.size r.cs 26) (hG : Gr w wb) (hML : MksAt r.L r.lp wb) (hMR : MksAt r.R r.rp wb) (hA : PrsIn (.slice pa r.best.length ka) r.best wb) (hU : U8s py ny wb) (hbl : r.best.length ≤ 1000)
    (hend : ∀ W, Gr wb W → ∀ (q : List (Nat × Nat)) (po : Option Addr) (ko : Nat), PrsIn (.slice po q.length ko) q W → Chn r.fitm r.L.length r.R.length q → ∀ {s0 s1 s3 s4 s7 s8 s9 s10 s11 s12 s13 s15 s16 s17 s18 s19 s20 s21 s22 s23 s24 s25 s26 s27 s28 s29 s30 s31 s32 s33 s34 s35 s36 s37 s38 s39 s40 s41 s42 s43 s44 s45 s46 s47 s48 s49 s50 s51 s52 s53 s54 s55 s56 s57 s58 s59 s60 s61 s62 s63 s64 s65 s66 s67 s68 s69 s70 s71 s72 s73 s74 s75 s76 s77 s78 s79 s80 s81 s82 s83 s84 s85 s86 s87 s88 s89 s90 s91 s92 s93 s94 s95 s96 s97 s98 s99 s100 s101 s102 s103 s104 s105 s106 s107 s108 s109 s110 s111 s112 s113 s114 s115 s116 s117 s118 s119 s120 s121 s122 s123 s124 s125 s126 s127 s128 s129 s130 s131 s132 s133 s134 s135 s136 s137 s138 s139 s140 s141 s142 s143 s144 s145 s146 s147 s148 s149 s150 s151 s152 s153 s154 s155 s156 s157 s158 s159 s160 s161 s162 s163 s164 s165 s166 s167 s168 s169 s170 s171 s172 s173 s174 s175 s176 s177 s178 s179 s180 s181 s182 s183 s184 s185 s186 s187 s188 s189 s190 s191 s192 s193 s194 s195 s196 s197 s198 s199 s200 s201 s202 s203 s204 s205 s206 s207 s208 s209 s210 s211 s212 s213 s214 s215 s216 s217 s218 s219 s220 s221 s222 s223 s224 s225 s226 s227 s228 s229 s230 s231 s232 s233 s234 s235 s236 s237 s238 s239 s240 s241 s242 s243 s244 s245 s246 s247 s248 s249 s250 s251 s252 s253 s254 s255 s256 s257 s258 s259 s260 s261 s262 s263 s264 s265 s266 s267 s268 s269 s270 s271 s272 s273 s274 s275 s276 s277 s278 s279 s280 s281 s282 s283 s284 s285 s286 s287 s288 s289 s290 s291 s292 s293 s294 s295 s296 s297 s298 s299 s300 s301 s302 s303 s304 s305 s306 s307 s308 s309 s310 s311 s312 s313 s314 s315 s316 : Value}, (Code.snd2 (Code.snd2 (Code.snd2 (Code.snd2 (Code.snd2 (Code.snd2 (Code.snd2 (Code.snd2 (Code.snd2 (Code.snd2 (Try.f8.body.getD .skip))))))))))).wp Try.prog (bodyPost Try.prog Try.f8 fun e w' => e = .returned (.bool true) ∧ Below w.heap.size w w') { tmps := #[s0, s1, .pointer (some ⟨w.heap.size, 0, none⟩), s3, s4, .slice pa r.best.length ka, .int .i64 nf, s7, s8, s9, s10, s11, s12, s13, .slice po q.length ko, s15, s16, s17, s18, s19, s20, s21, s22, s23, s24, s25, s26, s27, s28, s29, s30, s31, s32, s33, s34, s35, s36, s37, s38, s39, s40, s41, s42, s43, s44, s45, s46, s47, s48, s49, s50, s51, s52, s53, s54, s55, s56, s57, s58, s59, s60, s61, s62, s63, s64, s65, s66, s67, s68, s69, s70, s71, s72, s73, s74, s75, s76, s77, s78, s79, s80, s81, s82, s83, s84, s85, s86, s87, s88, s89, s90, s91, s92, s93, s94, s95, s96, s97, s98, s99, s100, s101, s102, s103, s104, s105, s106, s107, s108, s109, s110, s111, s112, s113, s114, s115, s116, s117, s118, s119, s120, s121, s122, s123, s124, s125, s126, s127, s128, s129, s130, s131, s132, s133, s134, s135, s136, s137, s138, s139, s140, s141, s142, s143, s144, s145, s146, s147, s148, s149, s150, s151, s152, s153, s154, s155, s156, s157, s158, s159, s160, s161, s162, s163, s164, s165, s166, s167, s168, s169, s170, s171, s172, s173, s174, s175, s176, s177, s178, s179, s180, s181, s182, s183, s184, s185, s186, s187, s188, s189, s190, s191, s192, s193, s194, s195, s196, s197, s198, s199, s200, s201, s202, s203, s204, s205, s206, s207, s208, s209, s210, s211, s212, s213, s214, s215, s216, s217, s218, s219, s220, s221, s222, s223, s224, s225, s226, s227, s228, s229, s230, s231, s232, s233, s234, s235, s236, s237, s238, s239, s240, s241, s242, s243, s244, s245, s246, s247, s248, s249, s250, s251, s252, s253, s254, s255, s256, s257, s258, s259, s260, s261, s262, s263, s264, s265, s266, s267, s268, s269, s270, s271, s272, s273, s274, s275, s276, s277, s278, s279, s280, s281, s282, s283, s284, s285, s286, s287, s288, s289, s290, s291, s292, s293, s294, s295, s296, s297, s298, s299, s300, s301, s302, s303, s304, s305, s306, s307, s308, s309, s310, s311, s312, s313, s314, s315, s316], defers := [] } W) {s0 s3 s4 s7 s8 s9 s10 s11 s12 s13 s14 s15 s16 s17 s18 s19 s20 s21 s22 s23 s24 s25 s26 s27 s28 s29 s30 s31 s32 s33 s34 s35 s36 s37 s38 s39 s40 s41 s42 s43 s44 s45 s46 s47 s48 s49 s50 s51 s52 s53 s54 s55 s56 s57 s58 s59 s60 s61 s62 s63 s64 s65 s66 s67 s68 s69 s70 s71 s72 s73 s74 s75 s76 s77 s78 s79 s80 s81 s82 s83 s84 s85 s86 s87 s88 s89 s90 s91 s92 s93 s94 s95 s96 s97 s98 s99 s100 s101 s102 s103 s104 s105 s106 s107 s108 s109 s110 s111 s112 s113 s114 s115 s116 s117 s118 s119 s120 s121 s122 s123 s124 s125 s126 s127 s128 s129 s130 s131 s132 s133 s134 s135 s136 s137 s138 s139 s140 s141 s142 s143 s144 s145 s146 s147 s148 s149 s150 s151 s152 s153 s154 s155 s156 s157 s158 s159 s160 s161 s162 s163 s164 s165 s166 s167 s168 s169 s170 s171 s172 s173 s174 s175 s176 s177 s178 s179 s180 s181 s182 s183 s184 s185 s186 s187 s188 s189 s190 s191 s192 s193 s194 s195 s196 s197 s198 s199 s200 s201 s202 s203 s204 s205 s206 s207 s208 s209 s210 s211 s212 s213 s214 s215 s216 s217 s218 s219 s220 s221 s222 s223 s224 s225 s226 s227 s228 s229 s230 s231 s232 s233 s234 s235 s236 s237 s238 s239 s240 s241 s242 s243 s244 s245 s246 s247 s248 s249 s250 s251 s252 s253 s254 s255 s256 s257 s258 s259 s260 s261 s262 s263 s264 s265 s266 s267 s268 s269 s270 s271 s272 s273 s274 s275 s276 s277 s278 s279 s280 s281 s282 s283 s284 s285 s286 s287 s288 s289 s290 s291 s292 s293 s294 s295 s296 s297 s298 s299 s300 s301 s302 s303 s304 s305 s306 s307 s308 s309 s310 s311 s312 s313 s314 s315 s316 : Value} :
    (Code.snd2 (Code.snd2 (Code.snd2 (Code.snd2 (Code.snd2 (Code.snd2 (Code.snd2 (Try.f8.body.getD .skip)))))))).wp Try.prog (bodyPost Try.prog Try.f8 fun e w' => e = .returned (.bool true) ∧ Below w.heap.size w w') { tmps := #[s0, .slice py ny cy, .pointer (some ⟨w.heap.size, 0, none⟩), s3, s4, .slice pa r.best.length ka, .int .i64 nf, s7, s8, s9, s10, s11, s12, s13, s14, s15, s16, s17, s18, s19, s20, s21, s22, s23, s24, s25, s26, s27, s28, s29, s30, s31, s32, s33, s34, s35, s36, s37, s38, s39, s40, s41, s42, s43, s44, s45, s46, s47, s48, s49, s50, s51, s52, s53, s54, s55, s56, s57, s58, s59, s60, s61, s62, s63, s64, s65, s66, s67, s68, s69, s70, s71, s72, s73, s74, s75, s76, s77, s78, s79, s80, s81, s82, s83, s84, s85, s86, s87, s88, s89, s90, s91, s92, s93, s94, s95, s96, s97, s98, s99, s100, s101, s102, s103, s104, s105, s106, s107, s108, s109, s110, s111, s112, s113, s114, s115, s116, s117, s118, s119, s120, s121, s122, s123, s124, s125, s126, s127, s128, s129, s130, s131, s132, s133, s134, s135, s136, s137, s138, s139, s140, s141, s142, s143, s144, s145, s146, s147, s148, s149, s150, s151, s152, s153, s154, s155, s156, s157, s158, s159, s160, s161, s162, s163, s164, s165, s166, s167, s168, s169, s170, s171, s172, s173, s174, s175, s176, s177, s178, s179, s180, s181, s182, s183, s184, s185, s186, s187, s188, s189, s190, s191, s192, s193, s194, s195, s196, s197, s198, s199, s200, s201, s202, s203, s204, s205, s206, s207, s208, s209, s210, s211, s212, s213, s214, s215, s216, s217, s218, s219, s220, s221, s222, s223, s224, s225, s226, s227, s228, s229, s230, s231, s232, s233, s234, s235, s236, s237, s238, s239, s240, s241, s242, s243, s244, s245, s246, s247, s248, s249, s250, s251, s252, s253, s254, s255, s256, s257, s258, s259, s260, s261, s262, s263, s264, s265, s266, s267, s268, s269, s270, s271, s272, s273, s274, s275, s276, s277, s278, s279, s280, s281, s282, s283, s284, s285, s286, s287, s288, s289, s290, s291, s292, s293, s294, s295, s296, s297, s298, s299, s300, s301, s302, s303, s304, s305, s306, s307, s308, s309, s310, s311, s312, s313, s314, s315, s316], defers := [] } wb := by
  conv => arg 2; whnf
  obtain ⟨p1, p2, -⟩ := Rr.ok_parts hok
  have HU := Lib.hid hU
  have HEND := Lib.hid hend
  have HB := Lib.hid hB
  have H16 := Lib.hid (fun W (hg : Gr wb W) i j hi hj => fits16_yes r W (hML.grow hg) (hMR.grow hg) hok i j hi hj)
  unfold Rr.val at H16
  have hmx : ny ≤ 9223372036854775807 := by have := hU.1; unfold maxLen at this; omega
  have HBM := Lib.hid (fun q (hq : Chn r.fitm r.L.length r.R.length q) => Rr.best_max h0 hq)
  clear hok h0 hB hG hML hMR hA hU hend
  unfold Rr.cs at HB
  obtain ⟨i0, ii0, iz0, iz1, iz2⟩ := infoP info55q
  have II0 := Lib.hid ii0
  have IZ0 := Lib.hid iz0
  have IZ1 := Lib.hid iz1
  have IZ2 := Lib.hid iz2
  clear ii0 iz0 iz1 iz2
  obtain ⟨r0, r1, r2, r3, r4⟩ := cells5 HB.out
  have rl := HB.out.lt
  apply wp_seq_k
  intro KA hKA
  have HKA := Lib.hid hKA
  clear hKA
  go_wp2_with fail
  refine HKA.out _ _ ?_
  clear HKA
  apply wp_seq_k
  intro KA hKA
  have HKA := Lib.hid hKA
  clear hKA
  go_wp2_with fail
  refine HKA.out _ _ ?_
  clear HKA
  apply wp_seq_k
  intro KB hKB
  have HKB := Lib.hid hKB
  clear hKB
  go_wp2_with fail
  clear r0 r1 r2 r3 r4 rl
  go_loopw [170, 15, 16, 14] (fun t i k v wr => ∃ (c i0 k0 : Nat) (q : List (Nat × Nat)), c ≤ ny ∧ i0 ≤ r.L.length ∧ k0 ≤ r.R.length ∧ t = .int .i64 c ∧ i = .int .i64 i0 ∧ k = .int .i64 k0 ∧ Hid (Gr wb wr) ∧ Hid (wr.ownsRow wb.heap.size 55 2 v q.length (q.flatMap pv)) ∧ Hid (Chn r.fitm r.L.length r.R.length q) ∧ Hid (∀ x ∈ q, x.1 < i0 ∧ x.2 < k0)) (fun t _ _ _ _ => ((ny : Int) - intOf t).toNat)
  case atStart => exact ⟨0, 0, 0, [], Nat.zero_le _, Nat.zero_le _, Nat.zero_le _, rfl, rfl, rfl, Lib.hid (Gr.same _), Lib.hid (World.ownsRow_nil _ _ _ _), Lib.hid (Chn.nil _ _ _), Lib.hid (by simp)⟩
  case round =>
    obtain ⟨c, i, k, q, hc, hi, hk, rfl, rfl, rfl, HR, HO, HC, HQ⟩ := hrel
    obtain ⟨r0, r1, r2, r3, r4⟩ := cells5 (HB.out.grow HR.out)
    have rl := (HB.out.grow HR.out).lt
    by_cases hlt : c < ny
    · have g1 : (c : Int) < ny := by omega
      obtain ⟨by_, oy, z, hpy, hby, z0, z255, hcy⟩ := (HU.out.grow HR.out).2 c hlt
      subst hpy
      by_cases hi1 : i < r.L.length
      · have g2 : (i : Int) < r.L.length := by omega
        have g2' : decide ((r.L.length : Int) ≤ i) = false := by simp; omega
        have g2n : ¬ r.L.length ≤ i := by omega
        by_cases hk1 : k < r.R.length
        · have g3 : (k : Int) < r.R.length := by omega
          have g3' : decide ((r.R.length : Int) ≤ k) = false := by simp; omega
          have g3n : ¬ r.R.length ≤ k := by omega
          have H6 := Lib.hid (fun W (hg : Gr wb W) => H16.out W hg i k hi1 hk1)
          cases hf : r.fitm i k with
          | false =>
            rw [hf] at H6
            clear hf
            go_wp2_with fail
            · exact ⟨⟨c + 1, i + 1, k, q, by omega, by omega, by omega, by go_num, by go_num, rfl, HR, HO, HC, Lib.hid (fun x hx => by have := HQ.out x hx; omega)⟩, by simp [intOf]; omega⟩
            · exact ⟨⟨c + 1, i, k + 1, q, by omega, by omega, by omega, by go_num, rfl, by go_num, HR, HO, HC, Lib.hid (fun x hx => by have := HQ.out x hx; omega)⟩, by simp [intOf]; omega⟩
            · (with_reducible refine (H6.out _ HR.out).mono ?_)
              rintro e w6 ⟨rfl, hb⟩
              have HR6 := Lib.hid (HR.out.tr hb)
              have HO6 := Lib.hid (own_gr HO.out hb)
              clear r0 r1 r2 r3 r4 rl hb
              dsimp only
              go_wp2_with fail
              exact ⟨⟨c + 1, i, k, q, by omega, by omega, by omega, by go_num, rfl, rfl, HR6, HO6, HC, Lib.hid (fun x hx => by have := HQ.out x hx; omega)⟩, by simp [intOf]; omega⟩
          | true =>
            rw [hf] at H6
            have HF := Lib.hid hf
            clear hf
            go_wp2_with fail
            · exact ⟨⟨c + 1, i + 1, k, q, by omega, by omega, by omega, by go_num, by go_num, rfl, HR, HO, HC, Lib.hid (fun x hx => by have := HQ.out x hx; omega)⟩, by simp [intOf]; omega⟩
            · exact ⟨⟨c + 1, i, k + 1, q, by omega, by omega, by omega, by go_num, rfl, by go_num, HR, HO, HC, Lib.hid (fun x hx => by have := HQ.out x hx; omega)⟩, by simp [intOf]; omega⟩
            · (with_reducible refine (H6.out _ HR.out).mono ?_)
              rintro e w6 ⟨rfl, hb⟩
              have HR6 := Lib.hid (HR.out.tr hb)
              have HO6 := Lib.hid (own_gr HO.out hb)
              clear r0 r1 r2 r3 r4 rl hb
              dsimp only
              go_wp2_with (first | (at_builtin; refine wpList_append_own _ rfl _ _ 34 rfl wb.heap.size 55 i0 _ 2 16 Try.underlying34 II0.out IZ0.out IZ1.out IZ2.out rfl (by decide) _ _ _ rfl (own_gr HO6.out (Gr.alloc w6 (Obj.cells #[.int .i64 i, .int .i64 k] 55))) ⟨w6.heap.size, 0, none⟩ 1 1 [.int .i64 i, .int .i64 k] rfl rfl ?c1 ?c2 ?c3 ?c4 ?c5 ?_))
              case c1 =>
                intro j u hu
                rw [addz]
                exact (Box.fresh w6 [.int .i64 i, .int .i64 k] 55).cell hu
              case c2 =>
                intro u hu
                simp only [List.mem_cons, List.not_mem_nil, or_false] at hu
                rcases hu with rfl | rfl <;> rfl
              case c3 => have := HBM.out q HC.out; unfold maxLen; omega
              case c4 => have := HBM.out q HC.out; omega
              case c5 => have := HR6.out.size; simp; omega
              intro v' w7 hown hgrow hnil
              replace hgrow : (w6.alloc (Obj.cells #[.int .i64 i, .int .i64 k] 55)).grownBy w7 u14.ownBlock := hgrow
              clear hnil
              have HR7 := Lib.hid (show Gr wb w7 from (show Below wb.heap.size wb (w6.alloc (Obj.cells #[.int .i64 i, .int .i64 k] 55)) from HR6.out.tr (Gr.alloc _ _)).grown hgrow (by have := HR6.out.size; simp; omega) (fun q e => (own_blk HO6.out e.symm).1))
              have HO7 := Lib.hid (show w7.ownsRow wb.heap.size 55 2 v' (q ++ [(i, k)]).length ((q ++ [(i, k)]).flatMap pv) by simpa [pv] using hown)
              clear hown hgrow
              go_wp2_with fail
              exact ⟨⟨c + 1, i + 1, k + 1, q ++ [(i, k)], by omega, by omega, by omega, by go_num, by go_num, by go_num, HR7, HO7, Lib.hid (HC.out.snoc HQ.out hi1 hk1 HF.out), Lib.hid (fun x hx => by
                rcases List.mem_append.1 hx with hx | hx
                · have := HQ.out x hx; omega
                · rw [List.mem_singleton.1 hx]; exact ⟨Nat.lt_succ_self i, Nat.lt_succ_self k⟩)⟩, by simp [intOf]; omega⟩
        · have g3 : ¬ (k : Int) < r.R.length := by omega
          have g3' : decide ((r.R.length : Int) ≤ k) = true := by simp; omega
          have g3n : r.R.length ≤ k := by omega
          go_wp2_with fail
          exact ⟨⟨c + 1, i, k, q, by omega, by omega, by omega, by go_num, rfl, rfl, HR, HO, HC, Lib.hid (fun x hx => by have := HQ.out x hx; omega)⟩, by simp [intOf]; omega⟩
      · have g2 : ¬ (i : Int) < r.L.length := by omega
        have g2' : decide ((r.L.length : Int) ≤ i) = true := by simp; omega
        have g2n : r.L.length ≤ i := by omega
        go_wp2_with fail
        exact ⟨⟨c + 1, i, k, q, by omega, by omega, by omega, by go_num, rfl, rfl, HR, HO, HC, Lib.hid (fun x hx => by have := HQ.out x hx; omega)⟩, by simp [intOf]; omega⟩
    · have hcn : c = ny := by omega
      subst hcn
      obtain ⟨vp, cap, rfl⟩ := own_slice HO.out
      have HP := Lib.hid (PrsIn.of_own HO.out)
      go_wp2_with fail
      exact HKB.out _ _ (HEND.out _ HR.out q vp cap HP.out HC.out)

end Go.Proofs.Ytjlaoiimbhlafaa
