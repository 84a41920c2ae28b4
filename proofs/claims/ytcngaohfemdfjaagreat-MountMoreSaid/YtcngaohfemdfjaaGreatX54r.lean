import Derived.Test.YtcngaohfemdfjaaGreatY34
import Derived.Test.YtcngaohfemdfjaaGreatY33
import Derived.Test.YtcngaohfemdfjaaGreatX54
import Derived.Test.YtcngaohfemdfjaaGreatXg
import Derived.RegionTactic
import Derived.Deep.CutBlock
import Derived.Deep.DeepCutAuto
set_option linter.unusedVariables false
set_option linter.unusedSimpArgs false
namespace Go.Proofs.YtcngaohfemdfjaaGreat
open Go.RowKit
def Code.snd' : Code → Code
  | .seq _ b => b
  | c => c
set_option maxRecDepth 100000 in
set_option maxHeartbeats 60000000 in
theorem mmore_rest (k x : Cd) (u : Cu) (z : Int) (w w3 : World) (bx : Nat) (hT : ThingsAt k.p.l (.slice k.sp k.p.l.length k.cap) w) (hn : k.cuts ≤ 20) (hk : k.okc = true) (hok : k.p.ok = true) (hL : k.Less x) (hxk : x.okc = true) (hxs : x.sp = k.sp) (hxc : x.cap = k.cap) (hB3 : Box w3 w.heap.size k.cs 28) (hX3 : Box w3 bx x.cs 28) (hU3 : Box w3 (w.heap.size + 1) [.int .i64 u.a, .int .i64 u.b, .int .i64 u.c, .int .i64 u.d] 30) (hG3 : Gr w w3) (s0 s1 s2 s5 s9 s10 s11 s12 s13 s14 s15 s16 s17 s18 s19 s20 s21 s22 s23 s24 s25 s26 s27 s28 s29 s30 s31 s32 s33 s34 s35 s36 s37 s38 s39 s40 s41 s42 s43 s44 s45 s46 s47 s48 s49 s50 s51 s52 s53 s54 s55 s56 s57 s58 s59 s60 s61 s62 s63 s64 s65 s66 s67 s68 s69 s70 s71 s72 s73 s74 s75 s76 s77 s78 s79 s80 s81 s82 s83 s84 s85 s86 s87 s88 s89 s90 s91 s92 s93 s94 s95 s96 s97 s98 s99 s100 s101 s102 s103 s104 s105 s106 s107 s108 s109 s110 s111 s112 s113 s114 s115 s116 s117 s118 s119 s120 s121 s122 s123 s124 s125 s126 s127 s128 s129 s130 s131 s132 s133 s134 s135 s136 s137 s138 s139 s140 s141 s142 s143 s144 s145 s146 s147 s148 s149 s150 s151 s152 s153 s154 s155 s156 s157 s158 s159 s160 s161 s162 s163 s164 s165 s166 s167 s168 s169 s170 s171 s172 s173 s174 s175 s176 s177 s178 s179 s180 s181 s182 s183 s184 s185 s186 s187 s188 s189 s190 s191 s192 s193 s194 s195 s196 s197 s198 s199 s200 s201 s202 s203 s204 s205 s206 s207 s208 s209 s210 s211 s212 s213 s214 s215 s216 s217 s218 s219 s220 s221 s222 s223 s224 s225 s226 s227 s228 s229 s230 s231 s232 s233 s234 s235 s236 s237 s238 s239 s240 s241 s242 s243 s244 s245 s246 s247 s248 s249 s250 s251 s252 s253 s254 s255 s256 s257 : Value) :
    (Code.snd' (Code.snd' (Code.snd' (Code.snd' (Tryz.f10.body.getD .skip))))).wp Tryz.prog (bodyPost Tryz.prog Tryz.f10 fun e w' => e = .returned (.bool true) ∧ Below w.heap.size w w') { tmps := #[s0, s1, s2, .pointer (some ⟨w.heap.size, 0, none⟩), .pointer (some ⟨w.heap.size + 1, 0, none⟩), s5, .bool false, .pointer (some ⟨bx, 0, none⟩), .int .i64 z, s9, s10, s11, s12, s13, s14, s15, s16, s17, s18, s19, s20, s21, s22, s23, s24, s25, s26, s27, s28, s29, s30, s31, s32, s33, s34, s35, s36, s37, s38, s39, s40, s41, s42, s43, s44, s45, s46, s47, s48, s49, s50, s51, s52, s53, s54, s55, s56, s57, s58, s59, s60, s61, s62, s63, s64, s65, s66, s67, s68, s69, s70, s71, s72, s73, s74, s75, s76, s77, s78, s79, s80, s81, s82, s83, s84, s85, s86, s87, s88, s89, s90, s91, s92, s93, s94, s95, s96, s97, s98, s99, s100, s101, s102, s103, s104, s105, s106, s107, s108, s109, s110, s111, s112, s113, s114, s115, s116, s117, s118, s119, s120, s121, s122, s123, s124, s125, s126, s127, s128, s129, s130, s131, s132, s133, s134, s135, s136, s137, s138, s139, s140, s141, s142, s143, s144, s145, s146, s147, s148, s149, s150, s151, s152, s153, s154, s155, s156, s157, s158, s159, s160, s161, s162, s163, s164, s165, s166, s167, s168, s169, s170, s171, s172, s173, s174, s175, s176, s177, s178, s179, s180, s181, s182, s183, s184, s185, s186, s187, s188, s189, s190, s191, s192, s193, s194, s195, s196, s197, s198, s199, s200, s201, s202, s203, s204, s205, s206, s207, s208, s209, s210, s211, s212, s213, s214, s215, s216, s217, s218, s219, s220, s221, s222, s223, s224, s225, s226, s227, s228, s229, s230, s231, s232, s233, s234, s235, s236, s237, s238, s239, s240, s241, s242, s243, s244, s245, s246, s247, s248, s249, s250, s251, s252, s253, s254, s255, s256, s257], defers := [] } w3 := by
    have HT := Lib.hid hT
    have HTX := Lib.hid (show ThingsAt x.p.l (.slice x.sp x.p.l.length x.cap) w by rw [hL.p, hxs, hxc]; exact hT)
    have HX3 := Lib.hid hX3
    have HB3 := Lib.hid hB3
    have HU3 := Lib.hid hU3
    have HG3 := Lib.hid hG3
    have hxk2 := (okc_cuts hxk).2
    have hkc := (okc_cuts hk).1
    have hcl : x.cuts ≤ 20 := by have := hL.cuts; omega
    clear hX3 hB3 hU3 hG3 hT hxs hxc
    conv => arg 2; whnf
    rcases more_ways hk hok hxk hL u with ⟨e1, e2⟩ | ⟨t, v, e, f, e1, e2, ht, hv, e4, f4, hw, hrest⟩
    · have E1 := Lib.hid e1
      have E2 := Lib.hid e2
      clear e1 e2
      go_wp2_with (first | (with_reducible refine wpList_stopLoad (ty := 28) rfl ?_; unfold Stop; first | refine wpList_loadBox row28 rfl (HB3.out) rfl rfl rfl ?_ | refine wpList_loadBox row28 rfl (HX3.out) rfl rfl rfl ?_))
      refine (mtrim_is E1.out (ThingsAt.lasts _ _ _ _ HT.out HG3.out)).mono ?_
      rintro e w4 ⟨rfl, hb4⟩
      have hga := Gr.tr hb4 (Gr.alloc w4 (Obj.cells #[.int .i64 0, .int .i64 0, .int .i64 0, .int .i64 0] 30))
      have HG4 := Lib.hid (HG3.out.tr hga)
      have HB4 := Lib.hid (HB3.out.grow hga)
      have HX4 := Lib.hid (HX3.out.grow hga)
      have HU4 := Lib.hid (HU3.out.grow hga)
      have HP4 := Lib.hid (Box.fresh w4 [.int .i64 0, .int .i64 0, .int .i64 0, .int .i64 0] 30)
      clear hb4 hga
      go_wp2_with (first | (with_reducible refine wpList_stopLoad (ty := 28) rfl ?_; unfold Stop; first | refine wpList_loadBox row28 rfl (HB4.out) rfl rfl rfl ?_ | refine wpList_loadBox row28 rfl (HX4.out) rfl rfl rfl ?_))
      refine (mtrim_is E2.out (ThingsAt.lasts _ _ _ _ HTX.out HG4.out)).mono ?_
      rintro e w5 ⟨rfl, hb5⟩
      have hga := Gr.tr hb5 (Gr.alloc w5 (Obj.cells #[.int .i64 0, .int .i64 0, .int .i64 0, .int .i64 0] 30))
      have HG5 := Lib.hid (HG4.out.tr hga)
      have HB5 := Lib.hid (HB4.out.grow hga)
      have HX5 := Lib.hid (HX4.out.grow hga)
      have HU5 := Lib.hid (HU4.out.grow hga)
      have HP5 := Lib.hid (HP4.out.grow hga)
      have HV5 := Lib.hid (Box.fresh w5 [.int .i64 0, .int .i64 0, .int .i64 0, .int .i64 0] 30)
      clear hb5 hga
      go_wp2_with fail
      refine (awake_any _).mono ?_
      rintro e wz ⟨rfl, hbz⟩
      go_wp2
      exact bodyPost_ret (v := .bool true) (by simp [results, Tryz.results10, go_sem]) rfl ⟨rfl, Gr.tr HG5.out hbz⟩
    · have E1 := Lib.hid e1
      have E2 := Lib.hid e2
      have HR := Lib.hid hrest
      have HW := Lib.hid hw
      clear e1 e2 hrest hw
      go_wp2_with (first | (with_reducible refine wpList_stopLoad (ty := 28) rfl ?_; unfold Stop; first | refine wpList_loadBox row28 rfl (HB3.out) rfl rfl rfl ?_ | refine wpList_loadBox row28 rfl (HX3.out) rfl rfl rfl ?_))
      refine (mtrim_is E1.out (ThingsAt.lasts _ _ _ _ HT.out HG3.out)).mono ?_
      rintro e w4 ⟨rfl, hb4⟩
      have hga := Gr.tr hb4 (Gr.alloc w4 (Obj.cells #[.int .i64 t.a, .int .i64 t.b, .int .i64 t.c, .int .i64 t.d] 30))
      have HG4 := Lib.hid (HG3.out.tr hga)
      have HB4 := Lib.hid (HB3.out.grow hga)
      have HX4 := Lib.hid (HX3.out.grow hga)
      have HU4 := Lib.hid (HU3.out.grow hga)
      have HP4 := Lib.hid (Box.fresh w4 [.int .i64 t.a, .int .i64 t.b, .int .i64 t.c, .int .i64 t.d] 30)
      clear hb4 hga
      go_wp2_with (first | (with_reducible refine wpList_stopLoad (ty := 28) rfl ?_; unfold Stop; first | refine wpList_loadBox row28 rfl (HB4.out) rfl rfl rfl ?_ | refine wpList_loadBox row28 rfl (HX4.out) rfl rfl rfl ?_))
      refine (mtrim_is E2.out (ThingsAt.lasts _ _ _ _ HTX.out HG4.out)).mono ?_
      rintro e w5 ⟨rfl, hb5⟩
      have hga := Gr.tr hb5 (Gr.alloc w5 (Obj.cells #[.int .i64 v.a, .int .i64 v.b, .int .i64 v.c, .int .i64 v.d] 30))
      have HG5 := Lib.hid (HG4.out.tr hga)
      have HB5 := Lib.hid (HB4.out.grow hga)
      have HX5 := Lib.hid (HX4.out.grow hga)
      have HU5 := Lib.hid (HU4.out.grow hga)
      have HP5 := Lib.hid (HP4.out.grow hga)
      have HV5 := Lib.hid (Box.fresh w5 [.int .i64 v.a, .int .i64 v.b, .int .i64 v.c, .int .i64 v.d] 30)
      clear hb5 hga
      go_upto_region 20 with fail
      generalize w5.alloc (Obj.cells #[.int .i64 v.a, .int .i64 v.b, .int .i64 v.c, .int .i64 v.d] 30) = W6 at *
      have htl := isT_leM ht
      have hvl := isT_leM hv
      go_cut [151] (fun b' wx => b' = .bool false ∧ Gr W6 wx)
      case first =>
        have hp := HP5.out
        have hq := HV5.out
        have p0 := hp.cell (i := 0) rfl
        have p1' := hp.cell (i := 1) rfl
        have p2' := hp.cell (i := 2) rfl
        have p3' := hp.cell (i := 3) rfl
        have pl := hp.lt
        have v0 := hq.cell (i := 0) rfl
        have v1 := hq.cell (i := 1) rfl
        have v2 := hq.cell (i := 2) rfl
        have v3 := hq.cell (i := 3) rfl
        have vl := hq.lt
        clear hp hq
        rcases HW.out with ⟨rfl, rfl, hlt⟩ | rfl
        · obtain ⟨SX, hSX⟩ : ∃ s, v.a + v.b + v.c + v.d = s := ⟨_, rfl⟩
          obtain ⟨ST, hST⟩ : ∃ s, t.a + t.b + t.c + t.d = s := ⟨_, rfl⟩
          rw [hSX, hST] at hlt
          have S1 := Lib.hid (fun W => (show Calls Tryz.prog 34 #[.agg #[.int .i64 v.a, .int .i64 v.b, .int .i64 v.c, .int .i64 v.d]] W fun e w' => e = .returned (.int .i64 SX) ∧ Below W.heap.size W w' by have := rsum_any v W (by omega) (by omega) (by omega) (by omega); rw [hSX] at this; exact this))
          have S2 := Lib.hid (fun W => (show Calls Tryz.prog 34 #[.agg #[.int .i64 t.a, .int .i64 t.b, .int .i64 t.c, .int .i64 t.d]] W fun e w' => e = .returned (.int .i64 ST) ∧ Below W.heap.size W w' by have := rsum_any t W (by omega) (by omega) (by omega) (by omega); rw [hST] at this; exact this))
          clear hSX hST
          refine region2 20 ?_ ?_ ?_
          · kernel_rfl
          · kernel_rfl
          simp only [List.take_succ_cons, List.take_zero, List.drop_succ_cons, List.drop_zero]
          apply chain_eq (D := [(12, none)]) rfl (by kernel_rfl)
          · intro ρ W ⟨p1, p2, p3⟩ hG hF K hK; (try simp [FactsD] at hF); have ⟨hc, hf, hz⟩ := bcell (Gr.tr (Gr.drew _) hG); go_simp; exact hK _ (gives_val)
          apply chain_eq (D := [(131, some 0)]) rfl (by kernel_rfl)
          · intro ρ W ⟨p1, p2, p3⟩ hG hF K hK; (try simp [FactsD] at hF); have ⟨hc, hf, hz⟩ := bcell (Gr.tr (Gr.drew _) hG); go_simp; exact hK _ (gives_val)
          apply chain_eq (D := [(132, some 0)]) rfl (by kernel_rfl)
          · intro ρ W ⟨p1, p2, p3⟩ hG hF K hK; (try simp [FactsD] at hF); have ⟨hc, hf, hz⟩ := bcell (Gr.tr (Gr.drew _) hG); go_simp; exact hK _ (gives_val)
          apply chain_leq (D := [(10, none), (133, some 0)]) (by kernel_rfl)
          · intro ρ W hF; (try simp [FactsD] at hF); simp [Lets, *]
          · intro ρ W ⟨p1, p2, p3⟩ hG hF K hK; (try simp [FactsD] at hF); have ⟨hc, hf, hz⟩ := bcell (Gr.tr (Gr.drew _) hG); go_simp; exact hK _ (gives_val)
          apply chain_leq (D := [(134, some 0), (133, some 1)]) (by kernel_rfl)
          · intro ρ W hF; (try simp [FactsD] at hF); simp [Lets, *]
          · intro ρ W ⟨p1, p2, p3⟩ hG hF K hK; (try simp [FactsD] at hF); have ⟨hc, hf, hz⟩ := bcell (Gr.tr (Gr.drew _) hG); go_simp; exact hK _ (gives_val)
          apply chain_leq (D := [(135, some 0), (133, some 2)]) (by kernel_rfl)
          · intro ρ W hF; (try simp [FactsD] at hF); simp [Lets, *]
          · intro ρ W ⟨p1, p2, p3⟩ hG hF K hK; (try simp [FactsD] at hF); have ⟨hc, hf, hz⟩ := bcell (Gr.tr (Gr.drew _) hG); go_simp; exact hK _ (gives_val)
          apply chain_leq (D := [(11, none), (136, some 0)]) (by kernel_rfl)
          · intro ρ W hF; (try simp [FactsD] at hF); simp [Lets, *]
          · intro ρ W ⟨p1, p2, p3⟩ hG hF K hK; (try simp [FactsD] at hF); have ⟨hc, hf, hz⟩ := bcell (Gr.tr (Gr.drew _) hG); go_simp; exact hK _ (gives_val)
          apply chain_leq (D := [(137, some 0), (136, some 1)]) (by kernel_rfl)
          · intro ρ W hF; (try simp [FactsD] at hF); simp [Lets, *]
          · intro ρ W ⟨p1, p2, p3⟩ hG hF K hK; (try simp [FactsD] at hF); have ⟨hc, hf, hz⟩ := bcell (Gr.tr (Gr.drew _) hG); go_simp; exact hK _ (gives_call (S1.out _))
          apply chain_leq (D := [(9, none), (136, some 2)]) (by kernel_rfl)
          · intro ρ W hF; (try simp [FactsD] at hF); simp [Lets, *]
          · intro ρ W ⟨p1, p2, p3⟩ hG hF K hK; (try simp [FactsD] at hF); have ⟨hc, hf, hz⟩ := bcell (Gr.tr (Gr.drew _) hG); go_simp; exact hK _ (gives_val)
          apply chain_leq (D := [(139, some 0), (136, some 3)]) (by kernel_rfl)
          · intro ρ W hF; (try simp [FactsD] at hF); simp [Lets, *]
          · intro ρ W ⟨p1, p2, p3⟩ hG hF K hK; (try simp [FactsD] at hF); have ⟨hc, hf, hz⟩ := bcell (Gr.tr (Gr.drew _) hG); go_simp; exact hK _ (gives_call (S2.out _))
          apply chain_leq (D := [(138, some 2), (140, some 0), (136, some 4)]) (by kernel_rfl)
          · intro ρ W hF; (try simp [FactsD] at hF); simp [Lets, *]
          · intro ρ W ⟨p1, p2, p3⟩ hG hF K hK; (try simp [FactsD] at hF); have ⟨hc, hf, hz⟩ := bcell (Gr.tr (Gr.drew _) hG); go_simp; exact hK _ (gives_val)
          apply chain_leq (D := [(136, some 5), (141, some 0), (133, some 8)]) (by kernel_rfl)
          · intro ρ W hF; (try simp [FactsD] at hF); simp [Lets, *]
          · intro ρ W ⟨p1, p2, p3⟩ hG hF K hK; (try simp [FactsD] at hF); have ⟨hc, hf, hz⟩ := bcell (Gr.tr (Gr.drew _) hG); go_simp; exact hK _ (gives_val)
          apply chain_eq (D := [(133, some 9), (142, some 0)]) rfl (by kernel_rfl)
          · intro ρ W ⟨p1, p2, p3⟩ hG hF K hK; (try simp [FactsD] at hF); have ⟨hc, hf, hz⟩ := bcell (Gr.tr (Gr.drew _) hG); go_simp; exact hK _ (gives_val)
          apply chain_eq (D := [(143, some 0)]) rfl (by kernel_rfl)
          · intro ρ W ⟨p1, p2, p3⟩ hG hF K hK; (try simp [FactsD] at hF); have ⟨hc, hf, hz⟩ := bcell (Gr.tr (Gr.drew _) hG); go_simp; exact hK _ (gives_val)
          apply chain_leq (D := [(12, none), (144, some 0)]) (by kernel_rfl)
          · intro ρ W hF; (try simp [FactsD] at hF); simp [Lets, *]
          · intro ρ W ⟨p1, p2, p3⟩ hG hF K hK; (try simp [FactsD] at hF); have ⟨hc, hf, hz⟩ := bcell (Gr.tr (Gr.drew _) hG); go_simp; exact hK _ (gives_val)
          apply chain_leq (D := [(145, some 0), (144, some 1)]) (by kernel_rfl)
          · intro ρ W hF; (try simp [FactsD] at hF); simp [Lets, *]
          · intro ρ W ⟨p1, p2, p3⟩ hG hF K hK; (try simp [FactsD] at hF); have ⟨hc, hf, hz⟩ := bcell (Gr.tr (Gr.drew _) hG); go_simp; exact hK _ (gives_val)
          apply chain_leq (D := [(146, some 0), (144, some 2)]) (by kernel_rfl)
          · intro ρ W hF; (try simp [FactsD] at hF); simp [Lets, *]
          · intro ρ W ⟨p1, p2, p3⟩ hG hF K hK; (try simp [FactsD] at hF); have ⟨hc, hf, hz⟩ := bcell (Gr.tr (Gr.drew _) hG); go_simp; exact hK _ (gives_val)
          refine chain_skip (D := [(12, none), (147, some 0)]) (by kernel_rfl) ?_ ?_
          · intro ρ W hF; (try simp [FactsD] at hF); simp [Lets, *]
          refine chain_skip (D := [(148, some 0), (147, some 1)]) (by kernel_rfl) ?_ ?_
          · intro ρ W hF; (try simp [FactsD] at hF); simp [Lets, *]
          apply chain_leq (D := [(147, some 2), (149, some 0), (144, some 5)]) (by kernel_rfl)
          · intro ρ W hF; (try simp [FactsD] at hF); simp [Lets, *]
          · intro ρ W ⟨p1, p2, p3⟩ hG hF K hK; (try simp [FactsD] at hF); have ⟨hc, hf, hz⟩ := bcell (Gr.tr (Gr.drew _) hG); go_simp; exact hK _ (gives_val)
          refine chain_done ?_
          intro vs W hG hV
          obtain ⟨e19, -, -, -, -, -, e13, -⟩ := hV
          simp only [Nat.reduceSub] at e13
          simp only [Nat.reduceSub] at e19
          simp only [lay, Act.put, List.getElem?_toArray, List.getElem?_cons_succ, List.getElem?_cons_zero, Option.bind_some, List.setIfInBounds_toArray, List.set_cons_succ, List.set_cons_zero]
          generalize vs 0 = v0
          generalize vs 1 = v1
          generalize vs 2 = v2
          generalize vs 3 = v3
          generalize vs 4 = v4
          generalize vs 5 = v5
          generalize vs 6 = v6
          generalize vs 7 = v7
          generalize vs 8 = v8
          generalize vs 9 = v9
          generalize vs 10 = v10
          generalize vs 11 = v11
          generalize vs 12 = v12
          generalize vs 13 = v13 at *
          generalize vs 14 = v14
          generalize vs 15 = v15
          generalize vs 16 = v16
          generalize vs 17 = v17
          generalize vs 18 = v18
          generalize vs 19 = v19 at *
          subst e13
          subst e19
          obtain ⟨hc, hf, hz⟩ := bcell hG
          have HGW := Lib.hid hG
          go_wp2_with fail
          go_meet
          case rel => exact ⟨rfl, HGW.out⟩
        · refine region2 20 ?_ ?_ ?_
          · kernel_rfl
          · kernel_rfl
          simp only [List.take_succ_cons, List.take_zero, List.drop_succ_cons, List.drop_zero]
          apply chain_eq (D := [(12, none)]) rfl (by kernel_rfl)
          · intro ρ W ⟨p1, p2, p3⟩ hG hF K hK; (try simp [FactsD] at hF); have ⟨hc, hf, hz⟩ := bcell (Gr.tr (Gr.drew _) hG); go_simp; exact hK _ (gives_val)
          apply chain_eq (D := [(131, some 0)]) rfl (by kernel_rfl)
          · intro ρ W ⟨p1, p2, p3⟩ hG hF K hK; (try simp [FactsD] at hF); have ⟨hc, hf, hz⟩ := bcell (Gr.tr (Gr.drew _) hG); go_simp; exact hK _ (gives_val)
          apply chain_eq (D := [(132, some 0)]) rfl (by kernel_rfl)
          · intro ρ W ⟨p1, p2, p3⟩ hG hF K hK; (try simp [FactsD] at hF); have ⟨hc, hf, hz⟩ := bcell (Gr.tr (Gr.drew _) hG); go_simp; exact hK _ (gives_val)
          refine chain_skip (D := [(10, none), (133, some 0)]) (by kernel_rfl) ?_ ?_
          · intro ρ W hF; (try simp [FactsD] at hF); simp [Lets, *, undef]
          refine chain_skip (D := [(134, some 0), (133, some 1)]) (by kernel_rfl) ?_ ?_
          · intro ρ W hF; (try simp [FactsD] at hF); simp [Lets, *, undef]
          refine chain_skip (D := [(135, some 0), (133, some 2)]) (by kernel_rfl) ?_ ?_
          · intro ρ W hF; (try simp [FactsD] at hF); simp [Lets, *, undef]
          refine chain_skip (D := [(11, none), (136, some 0)]) (by kernel_rfl) ?_ ?_
          · intro ρ W hF; (try simp [FactsD] at hF); simp [Lets, *, undef]
          refine chain_skip (D := [(137, some 0), (136, some 1)]) (by kernel_rfl) ?_ ?_
          · intro ρ W hF; (try simp [FactsD] at hF); simp [Lets, *, undef]
          refine chain_skip (D := [(9, none), (136, some 2)]) (by kernel_rfl) ?_ ?_
          · intro ρ W hF; (try simp [FactsD] at hF); simp [Lets, *, undef]
          refine chain_skip (D := [(139, some 0), (136, some 3)]) (by kernel_rfl) ?_ ?_
          · intro ρ W hF; (try simp [FactsD] at hF); simp [Lets, *, undef]
          refine chain_skip (D := [(138, some 2), (140, some 0), (136, some 4)]) (by kernel_rfl) ?_ ?_
          · intro ρ W hF; (try simp [FactsD] at hF); simp [Lets, *, undef]
          refine chain_skip (D := [(136, some 5), (141, some 0), (133, some 8)]) (by kernel_rfl) ?_ ?_
          · intro ρ W hF; (try simp [FactsD] at hF); simp [Lets, *, undef]
          apply chain_eq (D := [(133, some 9), (142, some 0)]) rfl (by kernel_rfl)
          · intro ρ W ⟨p1, p2, p3⟩ hG hF K hK; (try simp [FactsD] at hF); have ⟨hc, hf, hz⟩ := bcell (Gr.tr (Gr.drew _) hG); go_simp; exact hK _ (gives_val)
          apply chain_eq (D := [(143, some 0)]) rfl (by kernel_rfl)
          · intro ρ W ⟨p1, p2, p3⟩ hG hF K hK; (try simp [FactsD] at hF); have ⟨hc, hf, hz⟩ := bcell (Gr.tr (Gr.drew _) hG); go_simp; exact hK _ (gives_val)
          apply chain_leq (D := [(12, none), (144, some 0)]) (by kernel_rfl)
          · intro ρ W hF; (try simp [FactsD] at hF); simp [Lets, *, undef]
          · intro ρ W ⟨p1, p2, p3⟩ hG hF K hK; (try simp [FactsD] at hF); have ⟨hc, hf, hz⟩ := bcell (Gr.tr (Gr.drew _) hG); go_simp; exact hK _ (gives_val)
          apply chain_leq (D := [(145, some 0), (144, some 1)]) (by kernel_rfl)
          · intro ρ W hF; (try simp [FactsD] at hF); simp [Lets, *, undef]
          · intro ρ W ⟨p1, p2, p3⟩ hG hF K hK; (try simp [FactsD] at hF); have ⟨hc, hf, hz⟩ := bcell (Gr.tr (Gr.drew _) hG); go_simp; exact hK _ (gives_val)
          apply chain_leq (D := [(146, some 0), (144, some 2)]) (by kernel_rfl)
          · intro ρ W hF; (try simp [FactsD] at hF); simp [Lets, *, undef]
          · intro ρ W ⟨p1, p2, p3⟩ hG hF K hK; (try simp [FactsD] at hF); have ⟨hc, hf, hz⟩ := bcell (Gr.tr (Gr.drew _) hG); go_simp; exact hK _ (gives_val)
          apply chain_leq (D := [(12, none), (147, some 0)]) (by kernel_rfl)
          · intro ρ W hF; (try simp [FactsD] at hF); simp [Lets, *, undef]
          · intro ρ W ⟨p1, p2, p3⟩ hG hF K hK; (try simp [FactsD] at hF); have ⟨hc, hf, hz⟩ := bcell (Gr.tr (Gr.drew _) hG); go_simp; exact hK _ (gives_val)
          apply chain_leq (D := [(148, some 0), (147, some 1)]) (by kernel_rfl)
          · intro ρ W hF; (try simp [FactsD] at hF); simp [Lets, *, undef]
          · intro ρ W ⟨p1, p2, p3⟩ hG hF K hK; (try simp [FactsD] at hF); have ⟨hc, hf, hz⟩ := bcell (Gr.tr (Gr.drew _) hG); go_simp; exact hK _ (gives_val)
          apply chain_leq (D := [(147, some 2), (149, some 0), (144, some 5)]) (by kernel_rfl)
          · intro ρ W hF; (try simp [FactsD] at hF); simp [Lets, *, undef]
          · intro ρ W ⟨p1, p2, p3⟩ hG hF K hK; (try simp [FactsD] at hF); have ⟨hc, hf, hz⟩ := bcell (Gr.tr (Gr.drew _) hG); go_simp; exact hK _ (gives_val)
          refine chain_done ?_
          intro vs W hG hV
          obtain ⟨e19, -, -, -, -, -, e13, -⟩ := hV
          simp only [Nat.reduceSub] at e13
          simp only [Nat.reduceSub] at e19
          simp only [lay, Act.put, List.getElem?_toArray, List.getElem?_cons_succ, List.getElem?_cons_zero, Option.bind_some, List.setIfInBounds_toArray, List.set_cons_succ, List.set_cons_zero]
          generalize vs 0 = v0
          generalize vs 1 = v1
          generalize vs 2 = v2
          generalize vs 3 = v3
          generalize vs 4 = v4
          generalize vs 5 = v5
          generalize vs 6 = v6
          generalize vs 7 = v7
          generalize vs 8 = v8
          generalize vs 9 = v9
          generalize vs 10 = v10
          generalize vs 11 = v11
          generalize vs 12 = v12
          generalize vs 13 = v13 at *
          generalize vs 14 = v14
          generalize vs 15 = v15
          generalize vs 16 = v16
          generalize vs 17 = v17
          generalize vs 18 = v18
          generalize vs 19 = v19 at *
          subst e13
          subst e19
          obtain ⟨hc, hf, hz⟩ := bcell hG
          have HGW := Lib.hid hG
          go_wp2_with fail
          go_meet
          case rel => exact ⟨rfl, HGW.out⟩
      case rest =>
        obtain ⟨rfl, hg20⟩ := hcut
        rename World => w6
        have HG6 := Lib.hid (HG5.out.tr hg20)
        have HB6 := Lib.hid (HB5.out.grow hg20)
        have HX6 := Lib.hid (HX5.out.grow hg20)
        have hu6 := HU5.out.grow hg20
        have HU6 := Lib.hid hu6
        have u0 := hu6.cell (i := 0) rfl
        have u1 := hu6.cell (i := 1) rfl
        have u2 := hu6.cell (i := 2) rfl
        have u3 := hu6.cell (i := 3) rfl
        have ul := hu6.lt
        clear hu6 hg20 HW htl hvl ht hv
        go_wp2_with (first | (with_reducible refine wpList_stopLoad (ty := 28) rfl ?_; unfold Stop; first | refine wpList_loadBox row28 rfl (HB6.out) rfl rfl rfl ?_ | refine wpList_loadBox row28 rfl (HX6.out) rfl rfl rfl ?_))
        refine (rtrimming_any x u _ (by omega)).mono ?_
        rintro e w7 ⟨rfl, hb7⟩
        have HG7 := Lib.hid (HG6.out.tr hb7)
        have HB7 := Lib.hid (HB6.out.grow hb7)
        have HX7 := Lib.hid (HX6.out.grow hb7)
        have hu7 := HU6.out.grow hb7
        have HU7 := Lib.hid hu7
        have u0 := hu7.cell (i := 0) rfl
        have u1 := hu7.cell (i := 1) rfl
        have u2 := hu7.cell (i := 2) rfl
        have u3 := hu7.cell (i := 3) rfl
        have ul := hu7.lt
        clear hb7 hu7
        rcases HR.out with hT0 | ⟨hT1, eu1, eu2⟩
        · rw [hT0]
          go_wp2_with fail
          refine (awake_any _).mono ?_
          rintro e wz ⟨rfl, hbz⟩
          go_wp2
          exact bodyPost_ret (v := .bool true) (by simp [results, Tryz.results10, go_sem]) rfl ⟨rfl, Gr.tr HG7.out hbz⟩
        · rw [hT1]
          obtain ⟨a1, a2, ae, b1, b2, be, r1, r2, re, s1, s2, se, d1, d2, de, g1, g2, ge, m1, m2, m, o1, o2, oe, A1, A2, A3, A4, A5, A6, A7, A8, WE, WR, WD, WH⟩ := more_answers hL hok eu1 eu2
          have A1 := Lib.hid A1
          have A2 := Lib.hid A2
          have A3 := Lib.hid A3
          have A4 := Lib.hid A4
          have A5 := Lib.hid A5
          have A6 := Lib.hid A6
          have A7 := Lib.hid A7
          have A8 := Lib.hid A8
          have WE := Lib.hid WE
          have WR := Lib.hid WR
          have WD := Lib.hid WD
          have WH := Lib.hid WH
          go_wp2_with (first | (with_reducible refine wpList_stopLoad (ty := 28) rfl ?_; unfold Stop; first | refine wpList_loadBox row28 rfl (HB7.out) rfl rfl rfl ?_ | refine wpList_loadBox row28 rfl (HX7.out) rfl rfl rfl ?_))
          refine (eyes_is A1.out (ThingsAt.lasts _ _ _ _ HT.out HG7.out)).mono ?_
          rintro e w8 ⟨rfl, hb⟩
          have hga := Gr.tr hb (Gr.alloc w8 (Obj.cells #[.int .i64 a1, .int .i64 a2] 23))
          have HG8 := Lib.hid (HG7.out.tr hga)
          have HB8 := Lib.hid (HB7.out.grow hga)
          have HX8 := Lib.hid (HX7.out.grow hga)
          have HU8 := Lib.hid (HU7.out.grow hga)
          have HSa18 := Lib.hid (Box.fresh w8 [.int .i64 a1, .int .i64 a2] 23)
          clear hb hga
          have hu := HU8.out
          have u0 := hu.cell (i := 0) rfl
          have u1 := hu.cell (i := 1) rfl
          have u2 := hu.cell (i := 2) rfl
          have u3 := hu.cell (i := 3) rfl
          have ul := hu.lt
          clear hu
          go_wp2_with (first | (with_reducible refine wpList_stopLoad (ty := 28) rfl ?_; unfold Stop; first | refine wpList_loadBox row28 rfl (HB8.out) rfl rfl rfl ?_ | refine wpList_loadBox row28 rfl (HX8.out) rfl rfl rfl ?_))
          refine (eyes_is A2.out (ThingsAt.lasts _ _ _ _ HTX.out HG8.out)).mono ?_
          rintro e w9 ⟨rfl, hb⟩
          have hga := Gr.tr hb (Gr.alloc w9 (Obj.cells #[.int .i64 b1, .int .i64 b2] 23))
          have HG9 := Lib.hid (HG8.out.tr hga)
          have HB9 := Lib.hid (HB8.out.grow hga)
          have HX9 := Lib.hid (HX8.out.grow hga)
          have HU9 := Lib.hid (HU8.out.grow hga)
          have HSa19 := Lib.hid (HSa18.out.grow hga)
          have HSb19 := Lib.hid (Box.fresh w9 [.int .i64 b1, .int .i64 b2] 23)
          clear hb hga
          have hu := HU9.out
          have u0 := hu.cell (i := 0) rfl
          have u1 := hu.cell (i := 1) rfl
          have u2 := hu.cell (i := 2) rfl
          have u3 := hu.cell (i := 3) rfl
          have ul := hu.lt
          clear hu
          go_wp2_with (first | (with_reducible refine wpList_stopLoad (ty := 28) rfl ?_; unfold Stop; first | refine wpList_loadBox row28 rfl (HB9.out) rfl rfl rfl ?_ | refine wpList_loadBox row28 rfl (HX9.out) rfl rfl rfl ?_))
          refine (mroom_is A3.out (ThingsAt.lasts _ _ _ _ HT.out HG9.out)).mono ?_
          rintro e w10 ⟨rfl, hb⟩
          have hga := Gr.tr hb (Gr.alloc w10 (Obj.cells #[.int .i64 r1, .int .i64 r2] 23))
          have HG10 := Lib.hid (HG9.out.tr hga)
          have HB10 := Lib.hid (HB9.out.grow hga)
          have HX10 := Lib.hid (HX9.out.grow hga)
          have HU10 := Lib.hid (HU9.out.grow hga)
          have HSa110 := Lib.hid (HSa19.out.grow hga)
          have HSb110 := Lib.hid (HSb19.out.grow hga)
          have HSr110 := Lib.hid (Box.fresh w10 [.int .i64 r1, .int .i64 r2] 23)
          clear hb hga
          have hu := HU10.out
          have u0 := hu.cell (i := 0) rfl
          have u1 := hu.cell (i := 1) rfl
          have u2 := hu.cell (i := 2) rfl
          have u3 := hu.cell (i := 3) rfl
          have ul := hu.lt
          clear hu
          go_wp2_with (first | (with_reducible refine wpList_stopLoad (ty := 28) rfl ?_; unfold Stop; first | refine wpList_loadBox row28 rfl (HB10.out) rfl rfl rfl ?_ | refine wpList_loadBox row28 rfl (HX10.out) rfl rfl rfl ?_))
          refine (mroom_is A4.out (ThingsAt.lasts _ _ _ _ HTX.out HG10.out)).mono ?_
          rintro e w11 ⟨rfl, hb⟩
          have hga := Gr.tr hb (Gr.alloc w11 (Obj.cells #[.int .i64 s1, .int .i64 s2] 23))
          have HG11 := Lib.hid (HG10.out.tr hga)
          have HB11 := Lib.hid (HB10.out.grow hga)
          have HX11 := Lib.hid (HX10.out.grow hga)
          have HU11 := Lib.hid (HU10.out.grow hga)
          have HSa111 := Lib.hid (HSa110.out.grow hga)
          have HSb111 := Lib.hid (HSb110.out.grow hga)
          have HSr111 := Lib.hid (HSr110.out.grow hga)
          have HSs111 := Lib.hid (Box.fresh w11 [.int .i64 s1, .int .i64 s2] 23)
          clear hb hga
          have hu := HU11.out
          have u0 := hu.cell (i := 0) rfl
          have u1 := hu.cell (i := 1) rfl
          have u2 := hu.cell (i := 2) rfl
          have u3 := hu.cell (i := 3) rfl
          have ul := hu.lt
          clear hu
          go_wp2_with (first | (with_reducible refine wpList_stopLoad (ty := 28) rfl ?_; unfold Stop; first | refine wpList_loadBox row28 rfl (HB11.out) rfl rfl rfl ?_ | refine wpList_loadBox row28 rfl (HX11.out) rfl rfl rfl ?_))
          refine (mdeep_is A5.out (ThingsAt.lasts _ _ _ _ HT.out HG11.out)).mono ?_
          rintro e w12 ⟨rfl, hb⟩
          have hga := Gr.tr hb (Gr.alloc w12 (Obj.cells #[.int .i64 d1, .int .i64 d2] 23))
          have HG12 := Lib.hid (HG11.out.tr hga)
          have HB12 := Lib.hid (HB11.out.grow hga)
          have HX12 := Lib.hid (HX11.out.grow hga)
          have HU12 := Lib.hid (HU11.out.grow hga)
          have HSa112 := Lib.hid (HSa111.out.grow hga)
          have HSb112 := Lib.hid (HSb111.out.grow hga)
          have HSr112 := Lib.hid (HSr111.out.grow hga)
          have HSs112 := Lib.hid (HSs111.out.grow hga)
          have HSd112 := Lib.hid (Box.fresh w12 [.int .i64 d1, .int .i64 d2] 23)
          clear hb hga
          have hu := HU12.out
          have u0 := hu.cell (i := 0) rfl
          have u1 := hu.cell (i := 1) rfl
          have u2 := hu.cell (i := 2) rfl
          have u3 := hu.cell (i := 3) rfl
          have ul := hu.lt
          clear hu
          go_wp2_with (first | (with_reducible refine wpList_stopLoad (ty := 28) rfl ?_; unfold Stop; first | refine wpList_loadBox row28 rfl (HB12.out) rfl rfl rfl ?_ | refine wpList_loadBox row28 rfl (HX12.out) rfl rfl rfl ?_))
          refine (mdeep_is A6.out (ThingsAt.lasts _ _ _ _ HTX.out HG12.out)).mono ?_
          rintro e w13 ⟨rfl, hb⟩
          have hga := Gr.tr hb (Gr.alloc w13 (Obj.cells #[.int .i64 g1, .int .i64 g2] 23))
          have HG13 := Lib.hid (HG12.out.tr hga)
          have HB13 := Lib.hid (HB12.out.grow hga)
          have HX13 := Lib.hid (HX12.out.grow hga)
          have HU13 := Lib.hid (HU12.out.grow hga)
          have HSa113 := Lib.hid (HSa112.out.grow hga)
          have HSb113 := Lib.hid (HSb112.out.grow hga)
          have HSr113 := Lib.hid (HSr112.out.grow hga)
          have HSs113 := Lib.hid (HSs112.out.grow hga)
          have HSd113 := Lib.hid (HSd112.out.grow hga)
          have HSg113 := Lib.hid (Box.fresh w13 [.int .i64 g1, .int .i64 g2] 23)
          clear hb hga
          have hu := HU13.out
          have u0 := hu.cell (i := 0) rfl
          have u1 := hu.cell (i := 1) rfl
          have u2 := hu.cell (i := 2) rfl
          have u3 := hu.cell (i := 3) rfl
          have ul := hu.lt
          clear hu
          go_wp2_with (first | (with_reducible refine wpList_stopLoad (ty := 28) rfl ?_; unfold Stop; first | refine wpList_loadBox row28 rfl (HB13.out) rfl rfl rfl ?_ | refine wpList_loadBox row28 rfl (HX13.out) rfl rfl rfl ?_))
          refine (hurts_is A7.out (ThingsAt.lasts _ _ _ _ HT.out HG13.out)).mono ?_
          rintro e w14 ⟨rfl, hb⟩
          have hga : Gr _ w14 := hb
          have HG14 := Lib.hid (HG13.out.tr hga)
          have HB14 := Lib.hid (HB13.out.grow hga)
          have HX14 := Lib.hid (HX13.out.grow hga)
          have HU14 := Lib.hid (HU13.out.grow hga)
          have HSa114 := Lib.hid (HSa113.out.grow hga)
          have HSb114 := Lib.hid (HSb113.out.grow hga)
          have HSr114 := Lib.hid (HSr113.out.grow hga)
          have HSs114 := Lib.hid (HSs113.out.grow hga)
          have HSd114 := Lib.hid (HSd113.out.grow hga)
          have HSg114 := Lib.hid (HSg113.out.grow hga)
          clear hb hga
          have hu := HU14.out
          have u0 := hu.cell (i := 0) rfl
          have u1 := hu.cell (i := 1) rfl
          have u2 := hu.cell (i := 2) rfl
          have u3 := hu.cell (i := 3) rfl
          have ul := hu.lt
          clear hu
          go_wp2_with (first | (with_reducible refine wpList_stopLoad (ty := 28) rfl ?_; unfold Stop; first | refine wpList_loadBox row28 rfl (HB14.out) rfl rfl rfl ?_ | refine wpList_loadBox row28 rfl (HX14.out) rfl rfl rfl ?_))
          refine (hurts_is A8.out (ThingsAt.lasts _ _ _ _ HTX.out HG14.out)).mono ?_
          rintro e w15 ⟨rfl, hb⟩
          have hga : Gr _ w15 := hb
          have HG15 := Lib.hid (HG14.out.tr hga)
          have HB15 := Lib.hid (HB14.out.grow hga)
          have HX15 := Lib.hid (HX14.out.grow hga)
          have HU15 := Lib.hid (HU14.out.grow hga)
          have HSa115 := Lib.hid (HSa114.out.grow hga)
          have HSb115 := Lib.hid (HSb114.out.grow hga)
          have HSr115 := Lib.hid (HSr114.out.grow hga)
          have HSs115 := Lib.hid (HSs114.out.grow hga)
          have HSd115 := Lib.hid (HSd114.out.grow hga)
          have HSg115 := Lib.hid (HSg114.out.grow hga)
          clear hb hga
          have hu := HU15.out
          have u0 := hu.cell (i := 0) rfl
          have u1 := hu.cell (i := 1) rfl
          have u2 := hu.cell (i := 2) rfl
          have u3 := hu.cell (i := 3) rfl
          have ul := hu.lt
          clear hu
          clear u0 u1 u2 u3 ul HB8 HX8 HU8 HB9 HX9 HU9 HB10 HX10 HU10 HB11 HX11 HU11 HB12 HX12 HU12 HB13 HX13 HU13 HB14 HX14 HU14 HB15 HX15 HU15
          have hs := HSa115.out
          have za10 := hs.cell (i := 0) rfl
          have za11 := hs.cell (i := 1) rfl
          have za1l := hs.lt
          clear hs
          have hs := HSb115.out
          have zb10 := hs.cell (i := 0) rfl
          have zb11 := hs.cell (i := 1) rfl
          have zb1l := hs.lt
          clear hs
          have hs := HSr115.out
          have zr10 := hs.cell (i := 0) rfl
          have zr11 := hs.cell (i := 1) rfl
          have zr1l := hs.lt
          clear hs
          have hs := HSs115.out
          have zs10 := hs.cell (i := 0) rfl
          have zs11 := hs.cell (i := 1) rfl
          have zs1l := hs.lt
          clear hs
          have hs := HSd115.out
          have zd10 := hs.cell (i := 0) rfl
          have zd11 := hs.cell (i := 1) rfl
          have zd1l := hs.lt
          clear hs
          have hs := HSg115.out
          have zg10 := hs.cell (i := 0) rfl
          have zg11 := hs.cell (i := 1) rfl
          have zg1l := hs.lt
          clear hs
          rcases WE.out with k0 | ⟨k0, l0, q0⟩
          · rcases WR.out with k1 | ⟨k1, l1, q1⟩
            · rcases WD.out with k2 | ⟨k2, l2, q2⟩
              · rcases WH.out with g | ⟨g, g'⟩
                all_goals
                  go_wp2_with fail
                  refine (awake_any _).mono ?_
                  rintro e wz ⟨rfl, hbz⟩
                  go_wp2
                  exact bodyPost_ret (v := .bool true) (by simp [results, Tryz.results10, go_sem]) rfl ⟨rfl, Gr.tr HG15.out hbz⟩
              · go_wp2_with fail
                refine (mspanin_is q2).mono ?_
                rintro e w16 ⟨rfl, hb⟩
                have HG16 := Lib.hid (HG15.out.tr hb)
                have HSa116 := Lib.hid (HSa115.out.grow hb)
                have HSb116 := Lib.hid (HSb115.out.grow hb)
                have HSr116 := Lib.hid (HSr115.out.grow hb)
                have HSs116 := Lib.hid (HSs115.out.grow hb)
                have HSd116 := Lib.hid (HSd115.out.grow hb)
                have HSg116 := Lib.hid (HSg115.out.grow hb)
                clear hb
                have hs := HSa116.out
                have za10 := hs.cell (i := 0) rfl
                have za11 := hs.cell (i := 1) rfl
                have za1l := hs.lt
                clear hs
                have hs := HSb116.out
                have zb10 := hs.cell (i := 0) rfl
                have zb11 := hs.cell (i := 1) rfl
                have zb1l := hs.lt
                clear hs
                have hs := HSr116.out
                have zr10 := hs.cell (i := 0) rfl
                have zr11 := hs.cell (i := 1) rfl
                have zr1l := hs.lt
                clear hs
                have hs := HSs116.out
                have zs10 := hs.cell (i := 0) rfl
                have zs11 := hs.cell (i := 1) rfl
                have zs1l := hs.lt
                clear hs
                have hs := HSd116.out
                have zd10 := hs.cell (i := 0) rfl
                have zd11 := hs.cell (i := 1) rfl
                have zd1l := hs.lt
                clear hs
                have hs := HSg116.out
                have zg10 := hs.cell (i := 0) rfl
                have zg11 := hs.cell (i := 1) rfl
                have zg1l := hs.lt
                clear hs
                rcases WH.out with g | ⟨g, g'⟩
                all_goals
                  go_wp2_with fail
                  refine (awake_any _).mono ?_
                  rintro e wz ⟨rfl, hbz⟩
                  go_wp2
                  exact bodyPost_ret (v := .bool true) (by simp [results, Tryz.results10, go_sem]) rfl ⟨rfl, Gr.tr HG16.out hbz⟩
            · go_wp2_with fail
              refine (mspanin_is q1).mono ?_
              rintro e w16 ⟨rfl, hb⟩
              have HG16 := Lib.hid (HG15.out.tr hb)
              have HSa116 := Lib.hid (HSa115.out.grow hb)
              have HSb116 := Lib.hid (HSb115.out.grow hb)
              have HSr116 := Lib.hid (HSr115.out.grow hb)
              have HSs116 := Lib.hid (HSs115.out.grow hb)
              have HSd116 := Lib.hid (HSd115.out.grow hb)
              have HSg116 := Lib.hid (HSg115.out.grow hb)
              clear hb
              have hs := HSa116.out
              have za10 := hs.cell (i := 0) rfl
              have za11 := hs.cell (i := 1) rfl
              have za1l := hs.lt
              clear hs
              have hs := HSb116.out
              have zb10 := hs.cell (i := 0) rfl
              have zb11 := hs.cell (i := 1) rfl
              have zb1l := hs.lt
              clear hs
              have hs := HSr116.out
              have zr10 := hs.cell (i := 0) rfl
              have zr11 := hs.cell (i := 1) rfl
              have zr1l := hs.lt
              clear hs
              have hs := HSs116.out
              have zs10 := hs.cell (i := 0) rfl
              have zs11 := hs.cell (i := 1) rfl
              have zs1l := hs.lt
              clear hs
              have hs := HSd116.out
              have zd10 := hs.cell (i := 0) rfl
              have zd11 := hs.cell (i := 1) rfl
              have zd1l := hs.lt
              clear hs
              have hs := HSg116.out
              have zg10 := hs.cell (i := 0) rfl
              have zg11 := hs.cell (i := 1) rfl
              have zg1l := hs.lt
              clear hs
              rcases WD.out with k2 | ⟨k2, l2, q2⟩
              · rcases WH.out with g | ⟨g, g'⟩
                all_goals
                  go_wp2_with fail
                  refine (awake_any _).mono ?_
                  rintro e wz ⟨rfl, hbz⟩
                  go_wp2
                  exact bodyPost_ret (v := .bool true) (by simp [results, Tryz.results10, go_sem]) rfl ⟨rfl, Gr.tr HG16.out hbz⟩
              · go_wp2_with fail
                refine (mspanin_is q2).mono ?_
                rintro e w17 ⟨rfl, hb⟩
                have HG17 := Lib.hid (HG16.out.tr hb)
                have HSa117 := Lib.hid (HSa116.out.grow hb)
                have HSb117 := Lib.hid (HSb116.out.grow hb)
                have HSr117 := Lib.hid (HSr116.out.grow hb)
                have HSs117 := Lib.hid (HSs116.out.grow hb)
                have HSd117 := Lib.hid (HSd116.out.grow hb)
                have HSg117 := Lib.hid (HSg116.out.grow hb)
                clear hb
                have hs := HSa117.out
                have za10 := hs.cell (i := 0) rfl
                have za11 := hs.cell (i := 1) rfl
                have za1l := hs.lt
                clear hs
                have hs := HSb117.out
                have zb10 := hs.cell (i := 0) rfl
                have zb11 := hs.cell (i := 1) rfl
                have zb1l := hs.lt
                clear hs
                have hs := HSr117.out
                have zr10 := hs.cell (i := 0) rfl
                have zr11 := hs.cell (i := 1) rfl
                have zr1l := hs.lt
                clear hs
                have hs := HSs117.out
                have zs10 := hs.cell (i := 0) rfl
                have zs11 := hs.cell (i := 1) rfl
                have zs1l := hs.lt
                clear hs
                have hs := HSd117.out
                have zd10 := hs.cell (i := 0) rfl
                have zd11 := hs.cell (i := 1) rfl
                have zd1l := hs.lt
                clear hs
                have hs := HSg117.out
                have zg10 := hs.cell (i := 0) rfl
                have zg11 := hs.cell (i := 1) rfl
                have zg1l := hs.lt
                clear hs
                rcases WH.out with g | ⟨g, g'⟩
                all_goals
                  go_wp2_with fail
                  refine (awake_any _).mono ?_
                  rintro e wz ⟨rfl, hbz⟩
                  go_wp2
                  exact bodyPost_ret (v := .bool true) (by simp [results, Tryz.results10, go_sem]) rfl ⟨rfl, Gr.tr HG17.out hbz⟩
          · go_wp2_with fail
            refine (mspanin_is q0).mono ?_
            rintro e w16 ⟨rfl, hb⟩
            have HG16 := Lib.hid (HG15.out.tr hb)
            have HSa116 := Lib.hid (HSa115.out.grow hb)
            have HSb116 := Lib.hid (HSb115.out.grow hb)
            have HSr116 := Lib.hid (HSr115.out.grow hb)
            have HSs116 := Lib.hid (HSs115.out.grow hb)
            have HSd116 := Lib.hid (HSd115.out.grow hb)
            have HSg116 := Lib.hid (HSg115.out.grow hb)
            clear hb
            have hs := HSa116.out
            have za10 := hs.cell (i := 0) rfl
            have za11 := hs.cell (i := 1) rfl
            have za1l := hs.lt
            clear hs
            have hs := HSb116.out
            have zb10 := hs.cell (i := 0) rfl
            have zb11 := hs.cell (i := 1) rfl
            have zb1l := hs.lt
            clear hs
            have hs := HSr116.out
            have zr10 := hs.cell (i := 0) rfl
            have zr11 := hs.cell (i := 1) rfl
            have zr1l := hs.lt
            clear hs
            have hs := HSs116.out
            have zs10 := hs.cell (i := 0) rfl
            have zs11 := hs.cell (i := 1) rfl
            have zs1l := hs.lt
            clear hs
            have hs := HSd116.out
            have zd10 := hs.cell (i := 0) rfl
            have zd11 := hs.cell (i := 1) rfl
            have zd1l := hs.lt
            clear hs
            have hs := HSg116.out
            have zg10 := hs.cell (i := 0) rfl
            have zg11 := hs.cell (i := 1) rfl
            have zg1l := hs.lt
            clear hs
            rcases WR.out with k1 | ⟨k1, l1, q1⟩
            · rcases WD.out with k2 | ⟨k2, l2, q2⟩
              · rcases WH.out with g | ⟨g, g'⟩
                all_goals
                  go_wp2_with fail
                  refine (awake_any _).mono ?_
                  rintro e wz ⟨rfl, hbz⟩
                  go_wp2
                  exact bodyPost_ret (v := .bool true) (by simp [results, Tryz.results10, go_sem]) rfl ⟨rfl, Gr.tr HG16.out hbz⟩
              · go_wp2_with fail
                refine (mspanin_is q2).mono ?_
                rintro e w17 ⟨rfl, hb⟩
                have HG17 := Lib.hid (HG16.out.tr hb)
                have HSa117 := Lib.hid (HSa116.out.grow hb)
                have HSb117 := Lib.hid (HSb116.out.grow hb)
                have HSr117 := Lib.hid (HSr116.out.grow hb)
                have HSs117 := Lib.hid (HSs116.out.grow hb)
                have HSd117 := Lib.hid (HSd116.out.grow hb)
                have HSg117 := Lib.hid (HSg116.out.grow hb)
                clear hb
                have hs := HSa117.out
                have za10 := hs.cell (i := 0) rfl
                have za11 := hs.cell (i := 1) rfl
                have za1l := hs.lt
                clear hs
                have hs := HSb117.out
                have zb10 := hs.cell (i := 0) rfl
                have zb11 := hs.cell (i := 1) rfl
                have zb1l := hs.lt
                clear hs
                have hs := HSr117.out
                have zr10 := hs.cell (i := 0) rfl
                have zr11 := hs.cell (i := 1) rfl
                have zr1l := hs.lt
                clear hs
                have hs := HSs117.out
                have zs10 := hs.cell (i := 0) rfl
                have zs11 := hs.cell (i := 1) rfl
                have zs1l := hs.lt
                clear hs
                have hs := HSd117.out
                have zd10 := hs.cell (i := 0) rfl
                have zd11 := hs.cell (i := 1) rfl
                have zd1l := hs.lt
                clear hs
                have hs := HSg117.out
                have zg10 := hs.cell (i := 0) rfl
                have zg11 := hs.cell (i := 1) rfl
                have zg1l := hs.lt
                clear hs
                rcases WH.out with g | ⟨g, g'⟩
                all_goals
                  go_wp2_with fail
                  refine (awake_any _).mono ?_
                  rintro e wz ⟨rfl, hbz⟩
                  go_wp2
                  exact bodyPost_ret (v := .bool true) (by simp [results, Tryz.results10, go_sem]) rfl ⟨rfl, Gr.tr HG17.out hbz⟩
            · go_wp2_with fail
              refine (mspanin_is q1).mono ?_
              rintro e w17 ⟨rfl, hb⟩
              have HG17 := Lib.hid (HG16.out.tr hb)
              have HSa117 := Lib.hid (HSa116.out.grow hb)
              have HSb117 := Lib.hid (HSb116.out.grow hb)
              have HSr117 := Lib.hid (HSr116.out.grow hb)
              have HSs117 := Lib.hid (HSs116.out.grow hb)
              have HSd117 := Lib.hid (HSd116.out.grow hb)
              have HSg117 := Lib.hid (HSg116.out.grow hb)
              clear hb
              have hs := HSa117.out
              have za10 := hs.cell (i := 0) rfl
              have za11 := hs.cell (i := 1) rfl
              have za1l := hs.lt
              clear hs
              have hs := HSb117.out
              have zb10 := hs.cell (i := 0) rfl
              have zb11 := hs.cell (i := 1) rfl
              have zb1l := hs.lt
              clear hs
              have hs := HSr117.out
              have zr10 := hs.cell (i := 0) rfl
              have zr11 := hs.cell (i := 1) rfl
              have zr1l := hs.lt
              clear hs
              have hs := HSs117.out
              have zs10 := hs.cell (i := 0) rfl
              have zs11 := hs.cell (i := 1) rfl
              have zs1l := hs.lt
              clear hs
              have hs := HSd117.out
              have zd10 := hs.cell (i := 0) rfl
              have zd11 := hs.cell (i := 1) rfl
              have zd1l := hs.lt
              clear hs
              have hs := HSg117.out
              have zg10 := hs.cell (i := 0) rfl
              have zg11 := hs.cell (i := 1) rfl
              have zg1l := hs.lt
              clear hs
              rcases WD.out with k2 | ⟨k2, l2, q2⟩
              · rcases WH.out with g | ⟨g, g'⟩
                all_goals
                  go_wp2_with fail
                  refine (awake_any _).mono ?_
                  rintro e wz ⟨rfl, hbz⟩
                  go_wp2
                  exact bodyPost_ret (v := .bool true) (by simp [results, Tryz.results10, go_sem]) rfl ⟨rfl, Gr.tr HG17.out hbz⟩
              · go_wp2_with fail
                refine (mspanin_is q2).mono ?_
                rintro e w18 ⟨rfl, hb⟩
                have HG18 := Lib.hid (HG17.out.tr hb)
                have HSa118 := Lib.hid (HSa117.out.grow hb)
                have HSb118 := Lib.hid (HSb117.out.grow hb)
                have HSr118 := Lib.hid (HSr117.out.grow hb)
                have HSs118 := Lib.hid (HSs117.out.grow hb)
                have HSd118 := Lib.hid (HSd117.out.grow hb)
                have HSg118 := Lib.hid (HSg117.out.grow hb)
                clear hb
                have hs := HSa118.out
                have za10 := hs.cell (i := 0) rfl
                have za11 := hs.cell (i := 1) rfl
                have za1l := hs.lt
                clear hs
                have hs := HSb118.out
                have zb10 := hs.cell (i := 0) rfl
                have zb11 := hs.cell (i := 1) rfl
                have zb1l := hs.lt
                clear hs
                have hs := HSr118.out
                have zr10 := hs.cell (i := 0) rfl
                have zr11 := hs.cell (i := 1) rfl
                have zr1l := hs.lt
                clear hs
                have hs := HSs118.out
                have zs10 := hs.cell (i := 0) rfl
                have zs11 := hs.cell (i := 1) rfl
                have zs1l := hs.lt
                clear hs
                have hs := HSd118.out
                have zd10 := hs.cell (i := 0) rfl
                have zd11 := hs.cell (i := 1) rfl
                have zd1l := hs.lt
                clear hs
                have hs := HSg118.out
                have zg10 := hs.cell (i := 0) rfl
                have zg11 := hs.cell (i := 1) rfl
                have zg1l := hs.lt
                clear hs
                rcases WH.out with g | ⟨g, g'⟩
                all_goals
                  go_wp2_with fail
                  refine (awake_any _).mono ?_
                  rintro e wz ⟨rfl, hbz⟩
                  go_wp2
                  exact bodyPost_ret (v := .bool true) (by simp [results, Tryz.results10, go_sem]) rfl ⟨rfl, Gr.tr HG18.out hbz⟩
end Go.Proofs.YtcngaohfemdfjaaGreat
