import Derived.Test.YtjlaoiimbhlafaaA10
set_option linter.unusedVariables false
set_option linter.unusedSimpArgs false
namespace Go.Proofs.Ytjlaoiimbhlafaa
open Go.RowKit Go.Shelf

open MW
attribute [local go_sem] Oper.semAt_some run_store_func
attribute [local go_sem ↓] Go.wp_at_zero Go.wp_at_succ
attribute [local go_sem] guard55 guard24 neq55 eql24 neq24
attribute [-go_sem] run_eql_struct run_neq_struct
set_option maxRecDepth 100000 in
set_option maxHeartbeats 8000000 in
theorem ltrue_row (r : Rr) (P : List (Nat × Nat)) (S : List Int) (b3 kpp kpi kc ks : Nat) (pp pi pc ps : Option Addr) (w wa wb : World) (hok : r.ok = true) (hP : P ∈ r.ways) (hlen : S.length = P.length) (hsh : ∀ (k : Nat) (x : Nat × Nat) (v : Int), P[k]? = some x → S[k]? = some v → (r.shv x.1 x.2).1 ≤ v ∧ v ≤ (r.shv x.1 x.2).2) (hB : Box wa b3 r.cs 26) (hG : Gr w wa) (hML : MksAt r.L r.lp wa) (hMR : MksAt r.R r.rp wa) (hPP : PrsIn (.slice pp P.length kpp) P wa) (hPI : IntsIn (.slice pi S.length kpi) S wa)
    (hC : InsF pc r.L.length (fun j => (r.lkd.ptn j : Int)) wa) (hS : InsF ps r.L.length (fun j => r.lkd.surTo j r.lkd.nR) wa) {s0 s1 s2 s6 s7 s8 s9 s10 s12 s14 s17 s18 s19 s20 s21 s22 s23 s24 s25 s26 s27 s28 s29 s30 s31 s32 s33 s34 s35 s36 s37 s38 s39 s40 s41 s42 s43 s44 s45 s46 s47 s48 s49 s50 s51 s52 s53 s54 s55 s56 s57 s58 s59 s60 s61 s62 s63 s64 s65 s66 s67 s68 s69 s70 s71 s72 s73 s74 s75 s76 s77 s78 s79 s80 s81 s82 s83 s84 s85 s86 s87 s88 s89 s90 s91 s92 s93 s94 s95 s96 s97 s98 s99 s100 s101 s102 s103 s104 s105 s106 s107 s108 s109 s110 s111 s112 s113 s114 s115 s116 s117 s118 s119 s120 s121 s122 s123 s124 s125 s126 s127 s128 s129 s130 s131 s132 s133 s134 s135 s136 s137 s138 s139 s140 s141 s142 s143 s144 s145 s146 s147 s148 s149 s150 s151 s152 s153 s154 s155 s156 s157 s158 s159 s160 s161 s162 s163 s164 s165 s166 s167 s168 s169 s170 s171 s172 s173 s174 s175 s176 s177 s178 s179 s180 s181 s182 s183 s184 s185 s186 s187 s188 s189 s190 s191 s192 s193 s194 s195 s196 s197 s198 s199 s200 s201 s202 s203 s204 s205 s206 s207 s208 s209 s210 s211 s212 s213 s214 s215 s216 s217 s218 s219 s220 s221 s222 s223 s224 s225 s226 s227 s228 s229 s230 s231 s232 s233 s234 s235 s236 s237 s238 s239 s240 s241 s242 s243 s244 s245 s246 s247 s248 s249 s250 s251 s252 s253 s254 s255 s256 s257 s258 s259 s260 s261 s262 : Value} :
    (Code.snd7 (Code.snd7 (Code.snd7 (Code.snd7 (Code.snd7 (Code.snd7 (Code.snd7 (Code.snd7 (Code.snd7 (Code.snd7 (Try.f7.body.getD .skip))))))))))).wp Try.prog (bodyPost Try.prog Try.f7 fun e w' => e = .returned (.bool true) ∧ Below w.heap.size w w') { tmps := #[s0, s1, s2, .pointer (some ⟨b3, 0, none⟩), .slice pp P.length kpp, .slice pi S.length kpi, s6, s7, s8, s9, s10, .slice pc r.L.length kc, s12, .slice ps r.L.length ks, s14, .int .i64 (r.hdL : Nat), .int .i64 (r.hdR : Nat), s17, s18, s19, s20, s21, s22, s23, s24, s25, s26, s27, s28, s29, s30, s31, s32, s33, s34, s35, s36, s37, s38, s39, s40, s41, s42, s43, s44, s45, s46, s47, s48, s49, s50, s51, s52, s53, s54, s55, s56, s57, s58, s59, s60, s61, s62, s63, s64, s65, s66, s67, s68, s69, s70, s71, s72, s73, s74, s75, s76, s77, s78, s79, s80, s81, s82, s83, s84, s85, s86, s87, s88, s89, s90, s91, s92, s93, s94, s95, s96, s97, s98, s99, s100, s101, s102, s103, s104, s105, s106, s107, s108, s109, s110, s111, s112, s113, s114, s115, s116, s117, s118, s119, s120, s121, s122, s123, s124, s125, s126, s127, s128, s129, s130, s131, s132, s133, s134, s135, s136, s137, s138, s139, s140, s141, s142, s143, s144, s145, s146, s147, s148, s149, s150, s151, s152, s153, s154, s155, s156, s157, s158, s159, s160, s161, s162, s163, s164, s165, s166, s167, s168, s169, s170, s171, s172, s173, s174, s175, s176, s177, s178, s179, s180, s181, s182, s183, s184, s185, s186, s187, s188, s189, s190, s191, s192, s193, s194, s195, s196, s197, s198, s199, s200, s201, s202, s203, s204, s205, s206, s207, s208, s209, s210, s211, s212, s213, s214, s215, s216, s217, s218, s219, s220, s221, s222, s223, s224, s225, s226, s227, s228, s229, s230, s231, s232, s233, s234, s235, s236, s237, s238, s239, s240, s241, s242, s243, s244, s245, s246, s247, s248, s249, s250, s251, s252, s253, s254, s255, s256, s257, s258, s259, s260, s261, s262], defers := [] } wa := by
  conv => arg 2; whnf
  obtain ⟨p1, p2, -⟩ := Rr.ok_parts hok
  have HALL := Lib.hid (show (r.ok = true ∧ P ∈ r.ways ∧ S.length = P.length) ∧ (∀ (k : Nat) (x : Nat × Nat) (v : Int), P[k]? = some x → S[k]? = some v → (r.shv x.1 x.2).1 ≤ v ∧ v ≤ (r.shv x.1 x.2).2) ∧ (Gr w wa ∧ MksAt r.L r.lp wa ∧ MksAt r.R r.rp wa) ∧ (PrsIn (.slice pp P.length kpp) P wa ∧ IntsIn (.slice pi S.length kpi) S wa ∧ InsF pc r.L.length (fun j => (r.lkd.ptn j : Int)) wa ∧ InsF ps r.L.length (fun j => r.lkd.surTo j r.lkd.nR) wa) from ⟨⟨hok, hP, hlen⟩, hsh, ⟨hG, hML, hMR⟩, ⟨hPP, hPI, hC, hS⟩⟩)
  have HB := Lib.hid hB
  clear hok hP hlen hsh hB hG hML hMR hPP hPI hC hS
  obtain ⟨i0, ii0, iz0, iz1, iz2⟩ := infoP info3r
  have II0 := Lib.hid ii0
  have IZ0 := Lib.hid iz0
  have IZ1 := Lib.hid iz1
  have IZ2 := Lib.hid iz2
  have hby : i0.bytes * r.L.length ≤ 281474976710656 := by rw [iz2]; omega
  have hb63 : r.L.length ≤ 9223372036854775807 := by omega
  clear ii0 iz0 iz1 iz2
  have HB' := HB
  unfold Rr.cs at HB'
  obtain ⟨r0, r1, r2, r3, r4⟩ := cells5 HB'.out
  have rl := HB'.out.lt
  obtain ⟨F, hF⟩ : ∃ F : Nat → Int, F = (fun _ => -1) := ⟨_, rfl⟩
  have HF := Lib.hid hF
  clear hF
  apply wp_seq_k
  intro KA hKA
  have HKA := Lib.hid hKA
  clear hKA
  go_wp2_with (first | (at_make; refine wpList_make_row _ rfl _ _ 39 rfl 3 i0 (.int .i64 0) Try.underlying39 II0.out IZ0.out IZ1.out rfl .i64 .i64 r.L.length rfl rfl hby hb63 ?_))
  rw [vls_zero F]
  have HV := Lib.hid (Box.fresh wa (vls F 0 r.L.length) 3)
  have HG := Lib.hid (show Gr wa (wa.alloc (Obj.cells (vls F 0 r.L.length).toArray 3)) from Gr.alloc _ _)
  generalize wa.alloc (Obj.cells (vls F 0 r.L.length).toArray 3) = w3 at *
  generalize hg2 : wa.heap.size = g at *
  have hgw : wa.heap.size ≤ g := by omega
  clear hg2 r0 r1 r2 r3 r4 rl hby
  refine HKA.out _ _ ?_
  clear HKA
  apply wp_seq_k
  intro KA hKA
  have HKA := Lib.hid hKA
  clear hKA
  go_wp2_with fail
  go_loopw [129] (fun t wr => ∃ i : Nat, i ≤ r.L.length ∧ t = .int .i64 i ∧ Hid (Box wr g (vls F i r.L.length) 3) ∧ Hid (Gr wa wr)) (fun t _ => (20 - intOf t).toNat)
  case atStart => exact ⟨0, Nat.zero_le _, rfl, HV, HG⟩
  case round =>
    clear HV HG
    obtain ⟨i, hi, rfl, HV, HG⟩ := hrel
    by_cases hlt : i < r.L.length
    · have h1 : (i : Int) < r.L.length := by omega
      have f4 := HV.out.free i
      have z4 := HV.out.cell (vls_at F hlt)
      have l4 := HV.out.lt
      have hv := HV.out.put i (.int .i64 (F i))
      rw [vls_set F hlt] at hv
      have hFi : F i = -1 := by rw [HF.out]
      rw [hFi] at hv
      have HV2 := Lib.hid hv
      clear hv hFi
      go_wp2_with fail
      exact ⟨⟨i + 1, by omega, by go_num, HV2, Lib.hid (Below.setCell HG.out hgw _)⟩, by simp [intOf]; omega⟩
    · have hin : i = r.L.length := by omega
      subst hin
      have g1 : ¬ ((r.L.length : Nat) : Int) < r.L.length := by omega
      have hfin : vls F r.L.length r.L.length = ivs ((List.range r.L.length).map (par [])) := by
        rw [vls_full, HF.out]
        rfl
      rw [hfin] at HV
      go_wp2_with fail
      exact HKA.out _ _ (ltrue_pairs r P S b3 g kpp kpi kc ks r.L.length pp pi pc ps w wa wr HALL.out.1.1 HALL.out.1.2.1 HALL.out.1.2.2 HALL.out.2.1 HB.out HALL.out.2.2.1.1 HG.out HALL.out.2.2.1.2.1 HALL.out.2.2.1.2.2 HALL.out.2.2.2.1 HALL.out.2.2.2.2.1 HALL.out.2.2.2.2.2.1 HALL.out.2.2.2.2.2.2 hgw HV.out)

end Go.Proofs.Ytjlaoiimbhlafaa
