import Derived.Test.YtjlaoiimbhlafaaT1
import Derived.Laws.StructEq
import Derived.Deep.CutBlock
import Derived.Deep.DeepCutAuto
set_option linter.unusedVariables false
set_option linter.unusedSimpArgs false
namespace Go.Proofs.Ytjlaoiimbhlafaa
open Go.RowKit Go.Shelf

open MW
attribute [local go_sem] Oper.semAt_some run_store_func
attribute [local go_sem ↓] Go.wp_at_zero Go.wp_at_succ
attribute [local go_sem] guard55 guard24 neq55 eql24 neq24
attribute [-go_sem] run_eql_struct run_neq_struct
theorem eq24n (n : Nat) (hn : n = 9998 ∨ n = 9999) (a b c d : Int) (W : World) : (Op.equalIn (n + 1) 24 (.agg #[.int .i64 a, .int .i64 b]) (.agg #[.int .i64 c, .int .i64 d])).run Try.prog W = .ok (a == c && b == d) W := by
  rcases hn with rfl | rfl
  all_goals
    rw [run_equalIn_struct (P := Try.prog) W _ 24 _ _ (by kernel_rfl) (by kernel_rfl)]
    simp only [Program.fieldsOf, Try.underlying24]
    simp [go_sem]
    by_cases h1 : a = c <;> by_cases h2 : b = d <;> simp [h1, h2]
theorem eq65s (a b c d : Int) (W : World) : (Op.equalIn 10000 65 (.agg #[.int .i64 a, .int .i64 b, .int .i64 c, .int .i64 d]) (.agg #[.int .i64 a, .int .i64 b, .int .i64 c, .int .i64 d])).run Try.prog W = .ok true W := by
  rw [run_equalIn_struct (P := Try.prog) W 9999 65 _ _ (by kernel_rfl) (by kernel_rfl)]
  simp only [Program.fieldsOf, Try.underlying65]
  have h := fun a b c d => eq24n 9998 (.inl rfl) a b c d W
  simp [go_sem, h, cells24]
theorem guard65 (op : BinOp) (x y : Operand) (xs ys : Array Value) (W : World) : (eqGuard op 65 x y (.agg xs) (.agg ys)).run Try.prog W = .ok () W := run_eqGuard_agg W op 65 x y xs ys (by kernel_rfl)
theorem neq65s (a b c d : Int) (W : World) : (binOp .neq 65 (.agg #[.int .i64 a, .int .i64 b, .int .i64 c, .int .i64 d]) (.agg #[.int .i64 a, .int .i64 b, .int .i64 c, .int .i64 d])).run Try.prog W = .ok (.bool false) W := by rw [run_neq_struct, eq65s]; rfl
attribute [local go_sem] guard65 neq65s
set_option maxRecDepth 100000 in
set_option maxHeartbeats 8000000 in
theorem lturn_cmp_zero (r : Rr) (pl pr pc pb : Option Addr) (cl cr kc kb : Nat) (w wb : World) (hok : r.ok = true) (hB : Box wb w.heap.size r.cs 26) (hG : Gr w wb) (hML : MksAt r.L r.lp wb) (hMR : MksAt r.R r.rp wb) (hCL : MksAt r.L pl wb) (hCR : MksAt r.R pr wb) {s0 s2 s3 s4 s5 s8 s9 s10 s11 s12 s13 s14 s15 s17 s18 s19 s20 s21 s22 s23 s24 s25 s27 s29 s30 s31 s32 s33 s34 s35 s36 s37 s38 s39 s40 s41 s42 s43 s44 s45 s46 s47 s48 s49 s50 s51 s52 s53 s54 s55 s56 s57 s58 s59 s60 s61 s62 s63 s64 s65 s66 s67 s68 s69 s70 s71 s72 s73 s74 s75 s76 s77 s78 s79 s80 s81 s82 s83 s84 s85 s86 s87 s88 s89 s90 s91 s92 s93 s94 s95 s96 s97 s98 s99 s100 s101 s102 s103 s104 s105 s106 s107 s108 s109 s110 s111 s112 s113 s114 s115 s116 s117 s118 s119 s120 s121 s122 s123 s124 s125 s126 s127 s128 s129 s130 s131 s132 s133 s134 s135 s136 s137 s138 s139 s140 s141 s142 s143 s144 s145 s146 s147 s148 s149 s150 s151 s152 s153 s154 s155 s156 s157 s158 s159 s160 s161 s162 s163 s164 s165 s166 s167 s168 s169 s170 s171 s172 s173 s174 s175 s176 s177 s178 s179 s180 s181 s182 s183 s184 s185 s186 s187 s188 s189 s190 s191 s192 s193 s194 s195 s196 s197 s198 s199 s200 s201 s202 s203 s204 s205 s206 s207 s208 s209 s210 s211 s212 s213 s214 s215 s216 s217 s218 s219 s220 s221 s222 s223 s224 s225 s226 s227 s228 s229 s230 s231 s232 s233 s234 s235 s236 s237 s238 s239 s240 s241 s242 s243 s244 s245 s246 s247 s248 s249 s250 s251 s252 s253 s254 s255 s256 s257 s258 s259 s260 s261 s262 s263 s264 s265 s266 s267 s268 s269 s270 s271 s272 s273 s274 s275 s276 s277 s278 s279 s280 s281 s282 s283 s284 s285 s286 s287 s288 s289 s290 s291 s292 s293 s294 : Value} :
    (Code.snd2 (Code.snd2 (Code.snd2 (Code.snd2 (Code.snd2 (Code.snd2 (Code.snd2 (Code.snd2 (Code.snd2 (Code.snd2 (Code.snd2 (Code.snd2 (Code.snd2 (Code.snd2 (Code.snd2 (Code.snd2 (Code.snd2 (Code.snd2 (Code.snd2 (Code.snd2 (Try.f12.body.getD .skip))))))))))))))))))))).wp Try.prog (bodyPost Try.prog Try.f12 fun e w' => e = .returned (.bool true) ∧ Below w.heap.size w w') { tmps := #[s0, .pointer (some ⟨w.heap.size, 0, none⟩), s2, s3, s4, s5, .slice pl r.L.length cl, .slice pr r.R.length cr, s8, s9, s10, s11, s12, s13, s14, s15, .int .i64 4, s17, s18, s19, s20, s21, s22, s23, s24, s25, .slice pc 0 kc, s27, .slice pb 0 kb, s29, s30, s31, s32, s33, s34, s35, s36, s37, s38, s39, s40, s41, s42, s43, s44, s45, s46, s47, s48, s49, s50, s51, s52, s53, s54, s55, s56, s57, s58, s59, s60, s61, s62, s63, s64, s65, s66, s67, s68, s69, s70, s71, s72, s73, s74, s75, s76, s77, s78, s79, s80, s81, s82, s83, s84, s85, s86, s87, s88, s89, s90, s91, s92, s93, s94, s95, s96, s97, s98, s99, s100, s101, s102, s103, s104, s105, s106, s107, s108, s109, s110, s111, s112, s113, s114, s115, s116, s117, s118, s119, s120, s121, s122, s123, s124, s125, s126, s127, s128, s129, s130, s131, s132, s133, s134, s135, s136, s137, s138, s139, s140, s141, s142, s143, s144, s145, s146, s147, s148, s149, s150, s151, s152, s153, s154, s155, s156, s157, s158, s159, s160, s161, s162, s163, s164, s165, s166, s167, s168, s169, s170, s171, s172, s173, s174, s175, s176, s177, s178, s179, s180, s181, s182, s183, s184, s185, s186, s187, s188, s189, s190, s191, s192, s193, s194, s195, s196, s197, s198, s199, s200, s201, s202, s203, s204, s205, s206, s207, s208, s209, s210, s211, s212, s213, s214, s215, s216, s217, s218, s219, s220, s221, s222, s223, s224, s225, s226, s227, s228, s229, s230, s231, s232, s233, s234, s235, s236, s237, s238, s239, s240, s241, s242, s243, s244, s245, s246, s247, s248, s249, s250, s251, s252, s253, s254, s255, s256, s257, s258, s259, s260, s261, s262, s263, s264, s265, s266, s267, s268, s269, s270, s271, s272, s273, s274, s275, s276, s277, s278, s279, s280, s281, s282, s283, s284, s285, s286, s287, s288, s289, s290, s291, s292, s293, s294], defers := [] } wb := by
  conv => arg 2; whnf
  obtain ⟨p1, p2, -⟩ := Rr.ok_parts hok
  have HOK := Lib.hid hok
  have HB := Lib.hid hB
  have HG := Lib.hid hG
  have HML := Lib.hid hML
  have HMR := Lib.hid hMR
  have HCL := Lib.hid hCL
  have HCR := Lib.hid hCR
  clear hok hB hG hML hMR hCL hCR
  unfold Rr.cs at HB
  have HBB := HB
  have HGG := HG
  have HR := Lib.hid (Gr.same wb)
  clear HB HG
  go_wp2_with fail
  go_loopw [210] (fun t wr => ∃ c : Nat, c ≤ r.L.length ∧ t = .int .i64 c ∧ Hid (Gr wb wr)) (fun t _ => (20 - intOf t).toNat)
  case atStart => exact ⟨0, Nat.zero_le _, rfl, HR⟩
  case round =>
    clear HR
    obtain ⟨c, hc, rfl, HR⟩ := hrel
    obtain ⟨r0, r1, r2, r3, r4⟩ := cells5 (HBB.out.grow HR.out)
    have rl := (HBB.out.grow HR.out).lt
    by_cases hlt : c < r.L.length
    · obtain ⟨m, hm⟩ : ∃ m, r.L[c]? = some m := ⟨_, List.getElem?_eq_getElem hlt⟩
      obtain ⟨bx, ox, hpx⟩ := mk_at HML.out hm
      obtain ⟨by_, oy, hpy⟩ := mk_at HCL.out hm
      have g1 : (c : Int) < r.L.length := by omega
      obtain ⟨lb, k0, k1, k2, k3⟩ := mk_cells (HML.out.grow HR.out) hm hpx
      obtain ⟨lc, j0, j1, j2, j3⟩ := mk_cells (HCL.out.grow HR.out) hm hpy
      rw [hpx] at r0
      (try rw [hpy])
      clear hm
      go_wp2_with fail
      go_region
      go_wp2_with fail
      exact ⟨⟨c + 1, by omega, by go_num, Lib.hid (by first | exact HR.out | exact Gr.tr HR.out (Gr.drew _))⟩, by simp [intOf]; omega⟩
    · have hcn : c = r.L.length := by omega
      subst hcn
      go_wp2_with fail
      go_loopw [226] (fun t wr => ∃ c : Nat, c ≤ r.R.length ∧ t = .int .i64 c ∧ Hid (Gr wb wr)) (fun t _ => (20 - intOf t).toNat)
      case atStart => exact ⟨0, Nat.zero_le _, rfl, HR⟩
      case round =>
        clear HR
        obtain ⟨c, hc, rfl, HR⟩ := hrel
        obtain ⟨r0, r1, r2, r3, r4⟩ := cells5 (HBB.out.grow HR.out)
        have rl := (HBB.out.grow HR.out).lt
        by_cases hlt : c < r.R.length
        · obtain ⟨m, hm⟩ : ∃ m, r.R[c]? = some m := ⟨_, List.getElem?_eq_getElem hlt⟩
          obtain ⟨bx, ox, hpx⟩ := mk_at HMR.out hm
          obtain ⟨by_, oy, hpy⟩ := mk_at HCR.out hm
          have g1 : (c : Int) < r.R.length := by omega
          obtain ⟨lb, k0, k1, k2, k3⟩ := mk_cells (HMR.out.grow HR.out) hm hpx
          obtain ⟨lc, j0, j1, j2, j3⟩ := mk_cells (HCR.out.grow HR.out) hm hpy
          rw [hpx] at r1
          (try rw [hpy])
          clear hm
          go_wp2_with fail
          go_region
          go_wp2_with fail
          exact ⟨⟨c + 1, by omega, by go_num, Lib.hid (by first | exact HR.out | exact Gr.tr HR.out (Gr.drew _))⟩, by simp [intOf]; omega⟩
        · have hcn : c = r.R.length := by omega
          subst hcn
          have HG := Lib.hid (HGG.out.tr HR.out)
          have HB := Lib.hid (HBB.out.grow HR.out)
          go_wp2_with (first | (go_at_call 15; (with_reducible refine (alive_any _).mono ?_); rintro e wa ⟨rfl, hb⟩; have HG := Lib.hid (show Gr w wa from by first | exact Gr.tr HG.out hb | exact Gr.tr (HG.out.tr (Gr.alloc _ _)) hb | exact Gr.tr (HG.out.tr ((Gr.alloc _ _).tr (Gr.alloc _ _))) hb | exact Gr.tr (HG.out.tr (Gr.drew _)) hb); have HB := Lib.hid (HB.out.grow (by first | exact hb | exact Gr.tr (Gr.alloc _ _) hb | exact Gr.tr ((Gr.alloc _ _).tr (Gr.alloc _ _)) hb | exact Gr.tr (Gr.drew _) hb)); clear r0 r1 r2 r3 r4 rl; obtain ⟨r0, r1, r2, r3, r4⟩ := cells5 HB.out; have rl := HB.out.lt; clear hb))
          go_ret
          exact ⟨rfl, HG.out⟩
set_option maxRecDepth 100000 in
set_option maxHeartbeats 8000000 in
theorem lturn_cmp_yes (r : Rr) (pl pr pc pb : Option Addr) (cl cr kc kb : Nat) (w wb : World) (hok : r.ok = true) (hB : Box wb w.heap.size r.cs 26) (hG : Gr w wb) (hML : MksAt r.L r.lp wb) (hMR : MksAt r.R r.rp wb) (hCL : MksAt r.L pl wb) (hCR : MksAt r.R pr wb) (hC : InsF pc r.L.length (fun j => (r.lkd.ptn j : Int)) wb) (hD : InsF pb r.R.length (fun j => (r.swap.lkd.ptn j : Int)) wb) {s0 s2 s3 s4 s5 s8 s9 s10 s11 s12 s13 s14 s15 s17 s18 s19 s20 s21 s22 s23 s24 s25 s27 s29 s30 s31 s32 s33 s34 s35 s36 s37 s38 s39 s40 s41 s42 s43 s44 s45 s46 s47 s48 s49 s50 s51 s52 s53 s54 s55 s56 s57 s58 s59 s60 s61 s62 s63 s64 s65 s66 s67 s68 s69 s70 s71 s72 s73 s74 s75 s76 s77 s78 s79 s80 s81 s82 s83 s84 s85 s86 s87 s88 s89 s90 s91 s92 s93 s94 s95 s96 s97 s98 s99 s100 s101 s102 s103 s104 s105 s106 s107 s108 s109 s110 s111 s112 s113 s114 s115 s116 s117 s118 s119 s120 s121 s122 s123 s124 s125 s126 s127 s128 s129 s130 s131 s132 s133 s134 s135 s136 s137 s138 s139 s140 s141 s142 s143 s144 s145 s146 s147 s148 s149 s150 s151 s152 s153 s154 s155 s156 s157 s158 s159 s160 s161 s162 s163 s164 s165 s166 s167 s168 s169 s170 s171 s172 s173 s174 s175 s176 s177 s178 s179 s180 s181 s182 s183 s184 s185 s186 s187 s188 s189 s190 s191 s192 s193 s194 s195 s196 s197 s198 s199 s200 s201 s202 s203 s204 s205 s206 s207 s208 s209 s210 s211 s212 s213 s214 s215 s216 s217 s218 s219 s220 s221 s222 s223 s224 s225 s226 s227 s228 s229 s230 s231 s232 s233 s234 s235 s236 s237 s238 s239 s240 s241 s242 s243 s244 s245 s246 s247 s248 s249 s250 s251 s252 s253 s254 s255 s256 s257 s258 s259 s260 s261 s262 s263 s264 s265 s266 s267 s268 s269 s270 s271 s272 s273 s274 s275 s276 s277 s278 s279 s280 s281 s282 s283 s284 s285 s286 s287 s288 s289 s290 s291 s292 s293 s294 : Value} :
    (Code.snd2 (Code.snd2 (Code.snd2 (Code.snd2 (Code.snd2 (Code.snd2 (Code.snd2 (Code.snd2 (Code.snd2 (Code.snd2 (Code.snd2 (Code.snd2 (Code.snd2 (Code.snd2 (Code.snd2 (Code.snd2 (Code.snd2 (Code.snd2 (Code.snd2 (Code.snd2 (Try.f12.body.getD .skip))))))))))))))))))))).wp Try.prog (bodyPost Try.prog Try.f12 fun e w' => e = .returned (.bool true) ∧ Below w.heap.size w w') { tmps := #[s0, .pointer (some ⟨w.heap.size, 0, none⟩), s2, s3, s4, s5, .slice pl r.L.length cl, .slice pr r.R.length cr, s8, s9, s10, s11, s12, s13, s14, s15, .int .i64 0, s17, s18, s19, s20, s21, s22, s23, s24, s25, .slice pc r.L.length kc, s27, .slice pb r.R.length kb, s29, s30, s31, s32, s33, s34, s35, s36, s37, s38, s39, s40, s41, s42, s43, s44, s45, s46, s47, s48, s49, s50, s51, s52, s53, s54, s55, s56, s57, s58, s59, s60, s61, s62, s63, s64, s65, s66, s67, s68, s69, s70, s71, s72, s73, s74, s75, s76, s77, s78, s79, s80, s81, s82, s83, s84, s85, s86, s87, s88, s89, s90, s91, s92, s93, s94, s95, s96, s97, s98, s99, s100, s101, s102, s103, s104, s105, s106, s107, s108, s109, s110, s111, s112, s113, s114, s115, s116, s117, s118, s119, s120, s121, s122, s123, s124, s125, s126, s127, s128, s129, s130, s131, s132, s133, s134, s135, s136, s137, s138, s139, s140, s141, s142, s143, s144, s145, s146, s147, s148, s149, s150, s151, s152, s153, s154, s155, s156, s157, s158, s159, s160, s161, s162, s163, s164, s165, s166, s167, s168, s169, s170, s171, s172, s173, s174, s175, s176, s177, s178, s179, s180, s181, s182, s183, s184, s185, s186, s187, s188, s189, s190, s191, s192, s193, s194, s195, s196, s197, s198, s199, s200, s201, s202, s203, s204, s205, s206, s207, s208, s209, s210, s211, s212, s213, s214, s215, s216, s217, s218, s219, s220, s221, s222, s223, s224, s225, s226, s227, s228, s229, s230, s231, s232, s233, s234, s235, s236, s237, s238, s239, s240, s241, s242, s243, s244, s245, s246, s247, s248, s249, s250, s251, s252, s253, s254, s255, s256, s257, s258, s259, s260, s261, s262, s263, s264, s265, s266, s267, s268, s269, s270, s271, s272, s273, s274, s275, s276, s277, s278, s279, s280, s281, s282, s283, s284, s285, s286, s287, s288, s289, s290, s291, s292, s293, s294], defers := [] } wb := by
  conv => arg 2; whnf
  obtain ⟨p1, p2, -⟩ := Rr.ok_parts hok
  have HOK := Lib.hid hok
  have HB := Lib.hid hB
  have HG := Lib.hid hG
  have HML := Lib.hid hML
  have HMR := Lib.hid hMR
  have HCL := Lib.hid hCL
  have HCR := Lib.hid hCR
  have HC := Lib.hid hC
  have HD := Lib.hid hD
  clear hok hB hG hML hMR hCL hCR hC hD
  unfold Rr.cs at HB
  have HBB := HB
  have HGG := HG
  have HR := Lib.hid (Gr.same wb)
  clear HB HG
  apply wp_seq_k
  intro KA hKA
  have HKA := Lib.hid hKA
  clear hKA
  go_wp2_with fail
  go_loopw [210] (fun t wr => ∃ c : Nat, c ≤ r.L.length ∧ t = .int .i64 c ∧ Hid (Gr wb wr)) (fun t _ => (20 - intOf t).toNat)
  case atStart => exact ⟨0, Nat.zero_le _, rfl, HR⟩
  case round =>
    clear HR
    obtain ⟨c, hc, rfl, HR⟩ := hrel
    obtain ⟨r0, r1, r2, r3, r4⟩ := cells5 (HBB.out.grow HR.out)
    have rl := (HBB.out.grow HR.out).lt
    by_cases hlt : c < r.L.length
    · obtain ⟨m, hm⟩ : ∃ m, r.L[c]? = some m := ⟨_, List.getElem?_eq_getElem hlt⟩
      obtain ⟨bx, ox, hpx⟩ := mk_at HML.out hm
      obtain ⟨by_, oy, hpy⟩ := mk_at HCL.out hm
      have g1 : (c : Int) < r.L.length := by omega
      obtain ⟨lb, k0, k1, k2, k3⟩ := mk_cells (HML.out.grow HR.out) hm hpx
      obtain ⟨lc, j0, j1, j2, j3⟩ := mk_cells (HCL.out.grow HR.out) hm hpy
      rw [hpx] at r0
      (try rw [hpy])
      clear hm
      go_wp2_with fail
      go_region
      go_wp2_with fail
      exact ⟨⟨c + 1, by omega, by go_num, Lib.hid (by first | exact HR.out | exact Gr.tr HR.out (Gr.drew _))⟩, by simp [intOf]; omega⟩
    · have hcn : c = r.L.length := by omega
      subst hcn
      go_wp2_with fail
      refine HKA.out _ _ ?_
      apply wp_seq_k
      intro KB hKB
      have HKB := Lib.hid hKB
      clear hKB
      go_wp2_with fail
      go_loopw [226] (fun t wr => ∃ c : Nat, c ≤ r.R.length ∧ t = .int .i64 c ∧ Hid (Gr wb wr)) (fun t _ => (20 - intOf t).toNat)
      case atStart => exact ⟨0, Nat.zero_le _, rfl, HR⟩
      case round =>
        clear HR
        obtain ⟨c, hc, rfl, HR⟩ := hrel
        obtain ⟨r0, r1, r2, r3, r4⟩ := cells5 (HBB.out.grow HR.out)
        have rl := (HBB.out.grow HR.out).lt
        by_cases hlt : c < r.R.length
        · obtain ⟨m, hm⟩ : ∃ m, r.R[c]? = some m := ⟨_, List.getElem?_eq_getElem hlt⟩
          obtain ⟨bx, ox, hpx⟩ := mk_at HMR.out hm
          obtain ⟨by_, oy, hpy⟩ := mk_at HCR.out hm
          have g1 : (c : Int) < r.R.length := by omega
          obtain ⟨lb, k0, k1, k2, k3⟩ := mk_cells (HMR.out.grow HR.out) hm hpx
          obtain ⟨lc, j0, j1, j2, j3⟩ := mk_cells (HCR.out.grow HR.out) hm hpy
          rw [hpx] at r1
          (try rw [hpy])
          clear hm
          go_wp2_with fail
          go_region
          go_wp2_with fail
          exact ⟨⟨c + 1, by omega, by go_num, Lib.hid (by first | exact HR.out | exact Gr.tr HR.out (Gr.drew _))⟩, by simp [intOf]; omega⟩
        · have hcn : c = r.R.length := by omega
          subst hcn
          go_wp2_with fail
          exact HKB.out _ _ (lturn_end r pc pb kc kb w _ HOK.out (HBB.out.grow HR.out) (HGG.out.tr HR.out) (HC.out.grow HR.out) (HD.out.grow HR.out))

end Go.Proofs.Ytjlaoiimbhlafaa
