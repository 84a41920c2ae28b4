import Derived.Test.YtjlaoiimbhlafaaU4b
import Derived.Deep.CutBlock
import Derived.Deep.DeepCutAuto
set_option linter.unusedVariables false
set_option linter.unusedSimpArgs false
namespace Go.Proofs.Ytjlaoiimbhlafaa
open Go.RowKit Go.Shelf

open MW
attribute [local go_sem] Oper.semAt_some run_store_func
attribute [local go_sem ↓] Go.wp_at_zero Go.wp_at_succ
attribute [local go_sem] guard55 guard24 neq55 eql24 neq24
attribute [-go_sem] run_eql_struct run_neq_struct
set_option maxRecDepth 100000 in
set_option maxHeartbeats 8000000 in
theorem ltop_30y (r : Rr) (b1 bs os ks bt b17 xi xk : Nat) (wy m1 m2 sa sb su : Int) (w : World) (hB : Box w b1 r.cs 26) (hT : Box w bt [.int .i64 xi, .int .i64 xk] 55) (h17 : Box w b17 [.int .i64 sa, .int .i64 sb] 24) (hs3 : w.cell? ⟨bs, os + xi, none⟩ = some (.int .i64 su)) (hsl : bs < w.heap.size) (x1 : xi < r.L.length) (h1 : wy ≠ 1) (h2 : 0 ≤ r.s → wy ≠ 2) (n1 : m1 ≤ m2) (n2 : m1 = sa) (n3 : m2 = sb) (hsu : su = xk) {s0 s2 s3 s4 s5 s6 s7 s9 s10 s11 s12 s13 s15 s23 s24 s25 s26 s27 s28 s29 s30 s31 s32 s33 s34 s35 s36 s37 s38 s39 s40 s41 s42 s43 s44 s45 s46 s47 s48 s49 s50 s51 s52 s53 s54 s55 s56 s57 s58 s59 s60 s61 s62 s63 s64 s65 s66 s67 s68 s69 s70 s71 s72 s73 s74 s75 s76 s77 s78 s79 s80 s81 s82 s83 s84 s85 s86 s87 s88 s89 s90 s91 s92 s93 s94 s95 s96 s97 s98 s99 s100 s101 s102 s103 s104 s105 s106 s107 s108 s109 s110 s111 s112 s113 s114 s115 s116 s117 s118 s119 s120 s121 s122 s123 s124 s125 s126 s127 s128 s129 s130 s131 s132 s133 s134 s135 s136 s137 s138 s139 s140 s141 s142 s143 s144 s145 s146 s147 s148 s149 s150 s151 s152 s153 s154 s155 s156 s157 s158 s159 s160 s161 s162 s163 s164 s165 s166 s167 s168 s169 s170 s171 s172 s173 s174 s175 s176 s177 s178 s179 s180 s181 s182 s183 s184 s185 s186 s187 s188 s189 s190 s191 s192 s193 s194 s195 s196 s197 s198 s199 s200 s201 s202 s203 s204 s205 s206 s207 s208 s209 s210 s211 s212 s213 s214 s215 s216 s217 s218 s219 s220 s221 s222 s223 s224 s225 s226 s227 s228 s229 s230 s231 s232 s233 s234 s235 s236 s237 s238 s239 s240 s241 s242 s243 s244 s245 s246 s247 s248 s249 s250 : Value} {Q : Exit → Act → World → Prop}
    (hQ : ∀ W, Gr w W → ∀ {z193 z194 z195 z196 z197 z198 z199 z200 z201 z202 z203 z204 z205 z206 z207 z208 z209 z210 z211 z212 z213 z214 z215 z216 z217 z218 z219 z220 z221 z222 z223 z224 z225 z226 z227 z228 z229 z230 z231 z232 z233 z234 z235 z236 z237 z238 z239 z240 z241 z242 z243 z244 z245 z246 z247 z248 : Value}, Q .normal { tmps := #[s0, .pointer (some ⟨b1, 0, none⟩), s2, s3, s4, s5, s6, s7, .slice (some ⟨bs, os, none⟩) r.L.length ks, s9, s10, s11, s12, s13, .pointer (some ⟨bt, 0, none⟩), s15, .int .i64 0, .pointer (some ⟨b17, 0, none⟩), .int .i64 0, .int .i64 wy, .int .i64 0, .int .i64 m1, .int .i64 m2, s23, s24, s25, s26, s27, s28, s29, s30, s31, s32, s33, s34, s35, s36, s37, s38, s39, s40, s41, s42, s43, s44, s45, s46, s47, s48, s49, s50, s51, s52, s53, s54, s55, s56, s57, s58, s59, s60, s61, s62, s63, s64, s65, s66, s67, s68, s69, s70, s71, s72, s73, s74, s75, s76, s77, s78, s79, s80, s81, s82, s83, s84, s85, s86, s87, s88, s89, s90, s91, s92, s93, s94, s95, s96, s97, s98, s99, s100, s101, s102, s103, s104, s105, s106, s107, s108, s109, s110, s111, s112, s113, s114, s115, s116, s117, s118, s119, s120, s121, s122, s123, s124, s125, s126, s127, s128, s129, s130, s131, s132, s133, s134, s135, s136, s137, s138, s139, s140, s141, s142, s143, s144, s145, s146, s147, s148, s149, s150, s151, s152, s153, s154, s155, s156, s157, s158, s159, s160, s161, s162, s163, s164, s165, s166, s167, s168, s169, s170, s171, s172, s173, s174, s175, s176, s177, s178, s179, s180, s181, s182, s183, s184, s185, s186, s187, s188, s189, s190, s191, s192, z193, z194, z195, z196, z197, z198, z199, z200, z201, z202, z203, z204, z205, z206, z207, z208, z209, z210, z211, z212, z213, z214, z215, z216, z217, z218, z219, z220, z221, z222, z223, z224, z225, z226, z227, z228, z229, z230, z231, z232, z233, z234, z235, z236, z237, z238, z239, z240, z241, z242, z243, z244, z245, z246, z247, z248, s249, s250], defers := [] } W) :
    (Code.rgt (Code.rgt (Code.rgt (Code.rgt (Code.rgt (Code.lft (Code.lft (Code.rgt (Code.rgt (Code.lft (Code.lft (Code.rgt (Code.lft (Code.rgt (Code.rgt (Code.rgt (Code.rgt (Code.rgt (Code.rgt (Code.rgt (Code.rgt (Code.rgt (Try.f13.body.getD .skip))))))))))))))))))))))).wp Try.prog Q { tmps := #[s0, .pointer (some ⟨b1, 0, none⟩), s2, s3, s4, s5, s6, s7, .slice (some ⟨bs, os, none⟩) r.L.length ks, s9, s10, s11, s12, s13, .pointer (some ⟨bt, 0, none⟩), s15, .int .i64 0, .pointer (some ⟨b17, 0, none⟩), .int .i64 0, .int .i64 wy, .int .i64 0, .int .i64 m1, .int .i64 m2, s23, s24, s25, s26, s27, s28, s29, s30, s31, s32, s33, s34, s35, s36, s37, s38, s39, s40, s41, s42, s43, s44, s45, s46, s47, s48, s49, s50, s51, s52, s53, s54, s55, s56, s57, s58, s59, s60, s61, s62, s63, s64, s65, s66, s67, s68, s69, s70, s71, s72, s73, s74, s75, s76, s77, s78, s79, s80, s81, s82, s83, s84, s85, s86, s87, s88, s89, s90, s91, s92, s93, s94, s95, s96, s97, s98, s99, s100, s101, s102, s103, s104, s105, s106, s107, s108, s109, s110, s111, s112, s113, s114, s115, s116, s117, s118, s119, s120, s121, s122, s123, s124, s125, s126, s127, s128, s129, s130, s131, s132, s133, s134, s135, s136, s137, s138, s139, s140, s141, s142, s143, s144, s145, s146, s147, s148, s149, s150, s151, s152, s153, s154, s155, s156, s157, s158, s159, s160, s161, s162, s163, s164, s165, s166, s167, s168, s169, s170, s171, s172, s173, s174, s175, s176, s177, s178, s179, s180, s181, s182, s183, s184, s185, s186, s187, s188, s189, s190, s191, s192, s193, s194, s195, s196, s197, s198, s199, s200, s201, s202, s203, s204, s205, s206, s207, s208, s209, s210, s211, s212, s213, s214, s215, s216, s217, s218, s219, s220, s221, s222, s223, s224, s225, s226, s227, s228, s229, s230, s231, s232, s233, s234, s235, s236, s237, s238, s239, s240, s241, s242, s243, s244, s245, s246, s247, s248, s249, s250], defers := [] } w := by
  conv => arg 2; whnf
  have HB2 := Lib.hid hB
  have HT := Lib.hid hT
  have H17 := Lib.hid h17
  have T56 := Lib.hid (show wy ≠ 1 ∧ (0 ≤ r.s → wy ≠ 2) from ⟨h1, h2⟩)
  have HQQ := Lib.hid hQ
  clear hB hT h17 h1 h2 hQ
  have HBU := HB2
  unfold Rr.cs at HBU
  obtain ⟨r0, r1, r2, r3, r4⟩ := cells5 HBU.out
  have rl := HBU.out.lt
  obtain ⟨y0, y1, yf0, yf1, yl⟩ := HT.out.two
  obtain ⟨o0, o1, of0, of1, ol⟩ := H17.out.two
  have gi : (xi : Int) < r.L.length := by omega
  clear HBU
  apply wp_seq_k
  intro K2 hK2
  have HK2 := Lib.hid hK2
  clear hK2
  subst n2 n3 hsu
  have n4 : ¬ m2 < m1 := by omega
  go_wp2_with fail
  refine region2 44 ?_ ?_ ?_
  · kernel_rfl
  · kernel_rfl
  simp only [List.take_succ_cons, List.take_zero, List.drop_succ_cons, List.drop_zero]
  apply chain_eq (D := [(16, none)]) rfl (by kernel_rfl)
  · intro ρ W ⟨p1, p2, p3⟩ hG hF K hK; (try simp [FactsD] at hF); have ⟨hc, hf, hz⟩ := bcell (Gr.tr (Gr.drew _) hG); go_simp; exact hK _ (gives_val)
  apply chain_eq (D := [(193, some 0)]) rfl (by kernel_rfl)
  · intro ρ W ⟨p1, p2, p3⟩ hG hF K hK; (try simp [FactsD] at hF); have ⟨hc, hf, hz⟩ := bcell (Gr.tr (Gr.drew _) hG); go_simp; exact hK _ (gives_val)
  apply chain_eq (D := [(194, some 0)]) rfl (by kernel_rfl)
  · intro ρ W ⟨p1, p2, p3⟩ hG hF K hK; (try simp [FactsD] at hF); have ⟨hc, hf, hz⟩ := bcell (Gr.tr (Gr.drew _) hG); go_simp; exact hK _ (gives_val)
  apply chain_leq (D := [(18, none), (195, some 0)]) (by kernel_rfl)
  · intro ρ W hF; (try simp [FactsD] at hF); simp [Lets, *]
  · intro ρ W ⟨p1, p2, p3⟩ hG hF K hK; (try simp [FactsD] at hF); have ⟨hc, hf, hz⟩ := bcell (Gr.tr (Gr.drew _) hG); go_simp; exact hK _ (gives_val)
  apply chain_leq (D := [(196, some 0), (195, some 1)]) (by kernel_rfl)
  · intro ρ W hF; (try simp [FactsD] at hF); simp [Lets, *]
  · intro ρ W ⟨p1, p2, p3⟩ hG hF K hK; (try simp [FactsD] at hF); have ⟨hc, hf, hz⟩ := bcell (Gr.tr (Gr.drew _) hG); go_simp; exact hK _ (gives_val)
  apply chain_eq (D := [(195, some 2), (197, some 0)]) rfl (by kernel_rfl)
  · intro ρ W ⟨p1, p2, p3⟩ hG hF K hK; (try simp [FactsD] at hF); have ⟨hc, hf, hz⟩ := bcell (Gr.tr (Gr.drew _) hG); go_simp; exact hK _ (gives_val)
  apply chain_eq (D := [(198, some 0)]) rfl (by kernel_rfl)
  · intro ρ W ⟨p1, p2, p3⟩ hG hF K hK; (try simp [FactsD] at hF); have ⟨hc, hf, hz⟩ := bcell (Gr.tr (Gr.drew _) hG); go_simp; exact hK _ (gives_val)
  apply chain_leq (D := [(20, none), (199, some 0)]) (by kernel_rfl)
  · intro ρ W hF; (try simp [FactsD] at hF); simp [Lets, *]
  · intro ρ W ⟨p1, p2, p3⟩ hG hF K hK; (try simp [FactsD] at hF); have ⟨hc, hf, hz⟩ := bcell (Gr.tr (Gr.drew _) hG); go_simp; exact hK _ (gives_val)
  apply chain_leq (D := [(200, some 0), (199, some 1)]) (by kernel_rfl)
  · intro ρ W hF; (try simp [FactsD] at hF); simp [Lets, *]
  · intro ρ W ⟨p1, p2, p3⟩ hG hF K hK; (try simp [FactsD] at hF); have ⟨hc, hf, hz⟩ := bcell (Gr.tr (Gr.drew _) hG); go_simp; exact hK _ (gives_val)
  apply chain_eq (D := [(199, some 2), (201, some 0)]) rfl (by kernel_rfl)
  · intro ρ W ⟨p1, p2, p3⟩ hG hF K hK; (try simp [FactsD] at hF); have ⟨hc, hf, hz⟩ := bcell (Gr.tr (Gr.drew _) hG); go_simp; exact hK _ (gives_val)
  apply chain_eq (D := [(202, some 0)]) rfl (by kernel_rfl)
  · intro ρ W ⟨p1, p2, p3⟩ hG hF K hK; (try simp [FactsD] at hF); have ⟨hc, hf, hz⟩ := bcell (Gr.tr (Gr.drew _) hG); go_simp; exact hK _ (gives_val)
  apply chain_leq (D := [(21, none), (203, some 0)]) (by kernel_rfl)
  · intro ρ W hF; (try simp [FactsD] at hF); simp [Lets, *]
  · intro ρ W ⟨p1, p2, p3⟩ hG hF K hK; (try simp [FactsD] at hF); have ⟨hc, hf, hz⟩ := bcell (Gr.tr (Gr.drew _) hG); go_simp; exact hK _ (gives_val)
  apply chain_leq (D := [(22, none), (203, some 1)]) (by kernel_rfl)
  · intro ρ W hF; (try simp [FactsD] at hF); simp [Lets, *]
  · intro ρ W ⟨p1, p2, p3⟩ hG hF K hK; (try simp [FactsD] at hF); have ⟨hc, hf, hz⟩ := bcell (Gr.tr (Gr.drew _) hG); go_simp; exact hK _ (gives_val)
  apply chain_leq (D := [(204, some 1), (205, some 0), (203, some 2)]) (by kernel_rfl)
  · intro ρ W hF; (try simp [FactsD] at hF); simp [Lets, *]
  · intro ρ W ⟨p1, p2, p3⟩ hG hF K hK; (try simp [FactsD] at hF); have ⟨hc, hf, hz⟩ := bcell (Gr.tr (Gr.drew _) hG); go_simp; exact hK _ (gives_val)
  apply chain_eq (D := [(203, some 3), (206, some 0)]) rfl (by kernel_rfl)
  · intro ρ W ⟨p1, p2, p3⟩ hG hF K hK; (try simp [FactsD] at hF); have ⟨hc, hf, hz⟩ := bcell (Gr.tr (Gr.drew _) hG); go_simp; exact hK _ (gives_val)
  apply chain_eq (D := [(207, some 0)]) rfl (by kernel_rfl)
  · intro ρ W ⟨p1, p2, p3⟩ hG hF K hK; (try simp [FactsD] at hF); have ⟨hc, hf, hz⟩ := bcell (Gr.tr (Gr.drew _) hG); go_simp; exact hK _ (gives_val)
  apply chain_leq (D := [(21, none), (208, some 0)]) (by kernel_rfl)
  · intro ρ W hF; (try simp [FactsD] at hF); simp [Lets, *]
  · intro ρ W ⟨p1, p2, p3⟩ hG hF K hK; (try simp [FactsD] at hF); have ⟨hc, hf, hz⟩ := bcell (Gr.tr (Gr.drew _) hG); go_simp; exact hK _ (gives_val)
  apply chain_leq (D := [(17, none), (208, some 1)]) (by kernel_rfl)
  · intro ρ W hF; (try simp [FactsD] at hF); simp [Lets, *]
  · intro ρ W ⟨p1, p2, p3⟩ hG hF K hK; (try simp [FactsD] at hF); have ⟨hc, hf, hz⟩ := bcell (Gr.tr (Gr.drew _) hG); go_simp; exact hK _ (gives_val)
  apply chain_leq (D := [(210, some 0), (208, some 2)]) (by kernel_rfl)
  · intro ρ W hF; (try simp [FactsD] at hF); simp [Lets, *]
  · intro ρ W ⟨p1, p2, p3⟩ hG hF K hK; (try simp [FactsD] at hF); have ⟨hc, hf, hz⟩ := bcell (Gr.tr (Gr.drew _) hG); go_simp; exact hK _ (gives_val)
  apply chain_leq (D := [(209, some 2), (211, some 0), (208, some 3)]) (by kernel_rfl)
  · intro ρ W hF; (try simp [FactsD] at hF); simp [Lets, *]
  · intro ρ W ⟨p1, p2, p3⟩ hG hF K hK; (try simp [FactsD] at hF); have ⟨hc, hf, hz⟩ := bcell (Gr.tr (Gr.drew _) hG); go_simp; exact hK _ (gives_val)
  apply chain_eq (D := [(208, some 4), (212, some 0)]) rfl (by kernel_rfl)
  · intro ρ W ⟨p1, p2, p3⟩ hG hF K hK; (try simp [FactsD] at hF); have ⟨hc, hf, hz⟩ := bcell (Gr.tr (Gr.drew _) hG); go_simp; exact hK _ (gives_val)
  apply chain_eq (D := [(213, some 0)]) rfl (by kernel_rfl)
  · intro ρ W ⟨p1, p2, p3⟩ hG hF K hK; (try simp [FactsD] at hF); have ⟨hc, hf, hz⟩ := bcell (Gr.tr (Gr.drew _) hG); go_simp; exact hK _ (gives_val)
  apply chain_leq (D := [(22, none), (214, some 0)]) (by kernel_rfl)
  · intro ρ W hF; (try simp [FactsD] at hF); simp [Lets, *]
  · intro ρ W ⟨p1, p2, p3⟩ hG hF K hK; (try simp [FactsD] at hF); have ⟨hc, hf, hz⟩ := bcell (Gr.tr (Gr.drew _) hG); go_simp; exact hK _ (gives_val)
  apply chain_leq (D := [(17, none), (214, some 1)]) (by kernel_rfl)
  · intro ρ W hF; (try simp [FactsD] at hF); simp [Lets, *]
  · intro ρ W ⟨p1, p2, p3⟩ hG hF K hK; (try simp [FactsD] at hF); have ⟨hc, hf, hz⟩ := bcell (Gr.tr (Gr.drew _) hG); go_simp; exact hK _ (gives_val)
  apply chain_leq (D := [(216, some 0), (214, some 2)]) (by kernel_rfl)
  · intro ρ W hF; (try simp [FactsD] at hF); simp [Lets, *]
  · intro ρ W ⟨p1, p2, p3⟩ hG hF K hK; (try simp [FactsD] at hF); have ⟨hc, hf, hz⟩ := bcell (Gr.tr (Gr.drew _) hG); go_simp; exact hK _ (gives_val)
  apply chain_leq (D := [(215, some 2), (217, some 0), (214, some 3)]) (by kernel_rfl)
  · intro ρ W hF; (try simp [FactsD] at hF); simp [Lets, *]
  · intro ρ W ⟨p1, p2, p3⟩ hG hF K hK; (try simp [FactsD] at hF); have ⟨hc, hf, hz⟩ := bcell (Gr.tr (Gr.drew _) hG); go_simp; exact hK _ (gives_val)
  apply chain_eq (D := [(214, some 4), (218, some 0)]) rfl (by kernel_rfl)
  · intro ρ W ⟨p1, p2, p3⟩ hG hF K hK; (try simp [FactsD] at hF); have ⟨hc, hf, hz⟩ := bcell (Gr.tr (Gr.drew _) hG); go_simp; exact hK _ (gives_val)
  apply chain_eq (D := [(219, some 0)]) rfl (by kernel_rfl)
  · intro ρ W ⟨p1, p2, p3⟩ hG hF K hK; (try simp [FactsD] at hF); have ⟨hc, hf, hz⟩ := bcell (Gr.tr (Gr.drew _) hG); go_simp; exact hK _ (gives_val)
  apply chain_leq (D := [(8, none), (220, some 0)]) (by kernel_rfl)
  · intro ρ W hF; (try simp [FactsD] at hF); simp [Lets, *]
  · intro ρ W ⟨p1, p2, p3⟩ hG hF K hK; (try simp [FactsD] at hF); have ⟨hc, hf, hz⟩ := bcell (Gr.tr (Gr.drew _) hG); go_simp; exact hK _ (gives_val)
  apply chain_leq (D := [(14, none), (220, some 1)]) (by kernel_rfl)
  · intro ρ W hF; (try simp [FactsD] at hF); simp [Lets, *]
  · intro ρ W ⟨p1, p2, p3⟩ hG hF K hK; (try simp [FactsD] at hF); have ⟨hc, hf, hz⟩ := bcell (Gr.tr (Gr.drew _) hG); go_simp; exact hK _ (gives_val)
  apply chain_leq (D := [(222, some 0), (220, some 2)]) (by kernel_rfl)
  · intro ρ W hF; (try simp [FactsD] at hF); simp [Lets, *]
  · intro ρ W ⟨p1, p2, p3⟩ hG hF K hK; (try simp [FactsD] at hF); have ⟨hc, hf, hz⟩ := bcell (Gr.tr (Gr.drew _) hG); go_simp; exact hK _ (gives_val)
  apply chain_leq (D := [(221, some 2), (223, some 0), (220, some 3)]) (by kernel_rfl)
  · intro ρ W hF; (try simp [FactsD] at hF); simp [Lets, *]
  · intro ρ W ⟨p1, p2, p3⟩ hG hF K hK; (try simp [FactsD] at hF); have ⟨hc, hf, hz⟩ := bcell (Gr.tr (Gr.drew _) hG); go_simp; exact hK _ (gives_val)
  apply chain_leq (D := [(224, some 0), (220, some 4)]) (by kernel_rfl)
  · intro ρ W hF; (try simp [FactsD] at hF); simp [Lets, *]
  · intro ρ W ⟨p1, p2, p3⟩ hG hF K hK; (try simp [FactsD] at hF); have ⟨hc, hf, hz⟩ := bcell (Gr.tr (Gr.drew _) hG); go_simp; exact hK _ (gives_val)
  apply chain_leq (D := [(14, none), (220, some 5)]) (by kernel_rfl)
  · intro ρ W hF; (try simp [FactsD] at hF); simp [Lets, *]
  · intro ρ W ⟨p1, p2, p3⟩ hG hF K hK; (try simp [FactsD] at hF); have ⟨hc, hf, hz⟩ := bcell (Gr.tr (Gr.drew _) hG); go_simp; exact hK _ (gives_val)
  apply chain_leq (D := [(226, some 0), (220, some 6)]) (by kernel_rfl)
  · intro ρ W hF; (try simp [FactsD] at hF); simp [Lets, *]
  · intro ρ W ⟨p1, p2, p3⟩ hG hF K hK; (try simp [FactsD] at hF); have ⟨hc, hf, hz⟩ := bcell (Gr.tr (Gr.drew _) hG); go_simp; exact hK _ (gives_val)
  apply chain_leq (D := [(225, some 2), (227, some 0), (220, some 7)]) (by kernel_rfl)
  · intro ρ W hF; (try simp [FactsD] at hF); simp [Lets, *]
  · intro ρ W ⟨p1, p2, p3⟩ hG hF K hK; (try simp [FactsD] at hF); have ⟨hc, hf, hz⟩ := bcell (Gr.tr (Gr.drew _) hG); go_simp; exact hK _ (gives_val)
  apply chain_leq (D := [(228, some 0), (220, some 8)]) (by kernel_rfl)
  · intro ρ W hF; (try simp [FactsD] at hF); simp [Lets, *]
  · intro ρ W ⟨p1, p2, p3⟩ hG hF K hK; (try simp [FactsD] at hF); have ⟨hc, hf, hz⟩ := bcell (Gr.tr (Gr.drew _) hG); go_simp; exact hK _ (gives_val)
  apply chain_leq (D := [(17, none), (229, some 0)]) (by kernel_rfl)
  · intro ρ W hF; (try simp [FactsD] at hF); simp [Lets, *]
  · intro ρ W ⟨p1, p2, p3⟩ hG hF K hK; (try simp [FactsD] at hF); have ⟨hc, hf, hz⟩ := bcell (Gr.tr (Gr.drew _) hG); go_simp; exact hK _ (gives_val)
  apply chain_leq (D := [(21, none), (229, some 1)]) (by kernel_rfl)
  · intro ρ W hF; (try simp [FactsD] at hF); simp [Lets, *]
  · intro ρ W ⟨p1, p2, p3⟩ hG hF K hK; (try simp [FactsD] at hF); have ⟨hc, hf, hz⟩ := bcell (Gr.tr (Gr.drew _) hG); go_simp; exact hK _ (gives_val)
  apply chain_leq (D := [(22, none), (229, some 2)]) (by kernel_rfl)
  · intro ρ W hF; (try simp [FactsD] at hF); simp [Lets, *]
  · intro ρ W ⟨p1, p2, p3⟩ hG hF K hK; (try simp [FactsD] at hF); have ⟨hc, hf, hz⟩ := bcell (Gr.tr (Gr.drew _) hG); go_simp; exact hK _ (gives_val)
  apply chain_leq (D := [(231, some 1), (232, some 0), (229, some 3)]) (by kernel_rfl)
  · intro ρ W hF; (try simp [FactsD] at hF); simp [Lets, *]
  · intro ρ W ⟨p1, p2, p3⟩ hG hF K hK; (try simp [FactsD] at hF); have ⟨hc, hf, hz⟩ := bcell (Gr.tr (Gr.drew _) hG); go_simp; exact hK _ (gives_call (span47_any m1 m2 _))
  apply chain_leq (D := [(230, some 3), (233, some 0), (229, some 4)]) (by kernel_rfl)
  · intro ρ W hF; (try simp [FactsD] at hF); simp [Lets, *]
  · intro ρ W ⟨p1, p2, p3⟩ hG hF K hK; (try simp [FactsD] at hF); have ⟨hc, hf, hz⟩ := bcell (Gr.tr (Gr.drew _) hG); go_simp; exact hK _ (gives_val)
  apply chain_leq (D := [(229, some 5), (234, some 0), (220, some 14)]) (by kernel_rfl)
  · intro ρ W hF; (try simp [FactsD] at hF); simp [Lets, *]
  · intro ρ W ⟨p1, p2, p3⟩ hG hF K hK; (try simp [FactsD] at hF); have ⟨hc, hf, hz⟩ := bcell (Gr.tr (Gr.drew _) hG); go_simp; exact hK _ (gives_val)
  apply chain_eq (D := [(220, some 15), (235, some 0)]) rfl (by kernel_rfl)
  · intro ρ W ⟨p1, p2, p3⟩ hG hF K hK; (try simp [FactsD] at hF); have ⟨hc, hf, hz⟩ := bcell (Gr.tr (Gr.drew _) hG); go_simp; exact hK _ (gives_val)
  refine chain_done ?_
  intro vs W hG hV
  obtain ⟨e43, -⟩ := hV
  simp only [Nat.reduceSub] at e43
  set_option maxRecDepth 100000 in
  simp only [lay, Act.put, List.getElem?_toArray, List.getElem?_cons_succ, List.getElem?_cons_zero, Option.bind_some, List.setIfInBounds_toArray, List.set_cons_succ, List.set_cons_zero]
  generalize vs 0 = v0
  generalize vs 1 = v1
  generalize vs 2 = v2
  generalize vs 3 = v3
  generalize vs 4 = v4
  generalize vs 5 = v5
  generalize vs 6 = v6
  generalize vs 7 = v7
  generalize vs 8 = v8
  generalize vs 9 = v9
  generalize vs 10 = v10
  generalize vs 11 = v11
  generalize vs 12 = v12
  generalize vs 13 = v13
  generalize vs 14 = v14
  generalize vs 15 = v15
  generalize vs 16 = v16
  generalize vs 17 = v17
  generalize vs 18 = v18
  generalize vs 19 = v19
  generalize vs 20 = v20
  generalize vs 21 = v21
  generalize vs 22 = v22
  generalize vs 23 = v23
  generalize vs 24 = v24
  generalize vs 25 = v25
  generalize vs 26 = v26
  generalize vs 27 = v27
  generalize vs 28 = v28
  generalize vs 29 = v29
  generalize vs 30 = v30
  generalize vs 31 = v31
  generalize vs 32 = v32
  generalize vs 33 = v33
  generalize vs 34 = v34
  generalize vs 35 = v35
  generalize vs 36 = v36
  generalize vs 37 = v37
  generalize vs 38 = v38
  generalize vs 39 = v39
  generalize vs 40 = v40
  generalize vs 41 = v41
  generalize vs 42 = v42
  generalize vs 43 = v43 at *
  subst e43
  obtain ⟨hc, hf, hz⟩ := bcell hG
  have HG3 := Lib.hid hG
  have HB3 := Lib.hid (show Box W b1 r.cs 26 from HB2.out.grow hG)
  clear hG hc hf hz r0 r1 r2 r3 r4 rl y0 y1 yf0 yf1 yl o0 o1 of0 of1 ol HT H17 HB2 hs3
  go_wp2_with fail
  exact HK2.out _ _ (ltop_32 r b1 wy _ HB3.out T56.out.1 T56.out.2 (HQQ.out _ HG3.out))

end Go.Proofs.Ytjlaoiimbhlafaa
