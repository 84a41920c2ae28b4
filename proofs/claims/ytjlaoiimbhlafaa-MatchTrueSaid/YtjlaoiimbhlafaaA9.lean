import Derived.Test.YtjlaoiimbhlafaaA8
set_option linter.unusedVariables false
set_option linter.unusedSimpArgs false
namespace Go.Proofs.Ytjlaoiimbhlafaa
open Go.RowKit Go.Shelf

open MW
attribute [local go_sem] Oper.semAt_some run_store_func
attribute [local go_sem ↓] Go.wp_at_zero Go.wp_at_succ
attribute [local go_sem] guard55 guard24 neq55 eql24 neq24
attribute [-go_sem] run_eql_struct run_neq_struct
def Code.snd7 : Code → Code
  | .seq _ b => b
  | c => c
set_option maxRecDepth 100000 in
set_option maxHeartbeats 8000000 in
theorem ltrue_right (r : Rr) (sn b3 : Nat) (w wb : World) (hok : r.ok = true) (hB : Box wb b3 r.cs 26) (hG : Gr w wb) (hsn : sn < 1024) (hs : ∀ k, k < r.R.length → sn.testBit k = true ∨ r.hdR.testBit k = true) {s0 s1 s2 s4 s5 s6 s7 s8 s9 s10 s11 s12 s13 s14 s15 s17 s18 s19 s20 s22 s23 s24 s25 s26 s27 s28 s29 s30 s31 s32 s33 s34 s35 s36 s37 s38 s39 s40 s41 s42 s43 s44 s45 s46 s47 s48 s49 s50 s51 s52 s53 s54 s55 s56 s57 s58 s59 s60 s61 s62 s63 s64 s65 s66 s67 s68 s69 s70 s71 s72 s73 s74 s75 s76 s77 s78 s79 s80 s81 s82 s83 s84 s85 s86 s87 s88 s89 s90 s91 s92 s93 s94 s95 s96 s97 s98 s99 s100 s101 s102 s103 s104 s105 s106 s107 s108 s109 s110 s111 s112 s113 s114 s115 s116 s117 s118 s119 s120 s121 s122 s123 s124 s125 s126 s127 s128 s129 s130 s131 s132 s133 s134 s135 s136 s137 s138 s139 s140 s141 s142 s143 s144 s145 s146 s147 s148 s149 s150 s151 s152 s153 s154 s155 s156 s157 s158 s159 s160 s161 s162 s163 s164 s165 s166 s167 s168 s169 s170 s171 s172 s173 s174 s175 s176 s177 s178 s179 s180 s181 s182 s183 s184 s185 s186 s187 s188 s189 s190 s191 s192 s193 s194 s195 s196 s197 s198 s199 s200 s201 s202 s203 s204 s205 s206 s207 s208 s209 s210 s211 s212 s213 s214 s215 s216 s217 s218 s219 s220 s221 s222 s223 s224 s225 s226 s227 s228 s229 s230 s231 s232 s233 s234 s235 s236 s237 s238 s239 s240 s241 s242 s243 s244 s245 s246 s247 s248 s249 s250 s251 s252 s253 s254 s255 s256 s257 s258 s259 s260 s261 s262 : Value} :
    (Code.snd7 (Code.snd7 (Code.snd7 (Code.snd7 (Code.snd7 (Code.snd7 (Code.snd7 (Code.snd7 (Code.snd7 (Code.snd7 (Code.snd7 (Code.snd7 (Code.snd7 (Code.snd7 (Code.snd7 (Try.f7.body.getD .skip)))))))))))))))).wp Try.prog (bodyPost Try.prog Try.f7 fun e w' => e = .returned (.bool true) ∧ Below w.heap.size w w') { tmps := #[s0, s1, s2, .pointer (some ⟨b3, 0, none⟩), s4, s5, s6, s7, s8, s9, s10, s11, s12, s13, s14, s15, .int .i64 (r.hdR : Nat), s17, s18, s19, s20, .int .i64 (sn : Nat), s22, s23, s24, s25, s26, s27, s28, s29, s30, s31, s32, s33, s34, s35, s36, s37, s38, s39, s40, s41, s42, s43, s44, s45, s46, s47, s48, s49, s50, s51, s52, s53, s54, s55, s56, s57, s58, s59, s60, s61, s62, s63, s64, s65, s66, s67, s68, s69, s70, s71, s72, s73, s74, s75, s76, s77, s78, s79, s80, s81, s82, s83, s84, s85, s86, s87, s88, s89, s90, s91, s92, s93, s94, s95, s96, s97, s98, s99, s100, s101, s102, s103, s104, s105, s106, s107, s108, s109, s110, s111, s112, s113, s114, s115, s116, s117, s118, s119, s120, s121, s122, s123, s124, s125, s126, s127, s128, s129, s130, s131, s132, s133, s134, s135, s136, s137, s138, s139, s140, s141, s142, s143, s144, s145, s146, s147, s148, s149, s150, s151, s152, s153, s154, s155, s156, s157, s158, s159, s160, s161, s162, s163, s164, s165, s166, s167, s168, s169, s170, s171, s172, s173, s174, s175, s176, s177, s178, s179, s180, s181, s182, s183, s184, s185, s186, s187, s188, s189, s190, s191, s192, s193, s194, s195, s196, s197, s198, s199, s200, s201, s202, s203, s204, s205, s206, s207, s208, s209, s210, s211, s212, s213, s214, s215, s216, s217, s218, s219, s220, s221, s222, s223, s224, s225, s226, s227, s228, s229, s230, s231, s232, s233, s234, s235, s236, s237, s238, s239, s240, s241, s242, s243, s244, s245, s246, s247, s248, s249, s250, s251, s252, s253, s254, s255, s256, s257, s258, s259, s260, s261, s262], defers := [] } wb := by
  conv => arg 2; whnf
  obtain ⟨-, p2, -⟩ := Rr.ok_parts hok
  have hR : r.hdR < 1024 := lt_4096 r.hdR_lt p2
  have HG := Lib.hid hG
  have HB := Lib.hid hB
  have HS := Lib.hid hs
  clear hok hB hG hs
  unfold Rr.cs at HB
  generalize r.hdR = hr at *
  obtain ⟨r0, r1, r2, r3, r4⟩ := cells5 HB.out
  have rl := HB.out.lt
  apply wp_seq_k
  intro KA hKA
  have HKA := Lib.hid hKA
  clear hKA
  go_wp2_with fail
  clear r0 r1 r2 r3 r4 rl
  go_loopw [246] (fun t wr => ∃ k : Nat, k ≤ r.R.length ∧ t = .int .i64 k ∧ wb = wr) (fun t _ => (20 - intOf t).toNat)
  case atStart => exact ⟨0, Nat.zero_le _, rfl, rfl⟩
  case round =>
    obtain ⟨k, hk, rfl, rfl⟩ := hrel
    by_cases hlt : k < r.R.length
    · have g1 : (k : Int) < r.R.length := by omega
      cases hb : sn.testBit k with
      | true =>
        have e1 := bit_1 (m := sn) (k := k) (by omega) hb
        clear hb
        go_wp2_with fail
        exact ⟨⟨k + 1, by omega, by go_num, by trivial⟩, by simp [intOf]; omega⟩
      | false =>
        have e1 := bit_0 (m := sn) (k := k) (by omega) hb
        have hb2 : hr.testBit k = true := by
          rcases HS.out k hlt with h | h
          · rw [hb] at h; cases h
          · exact h
        have e2 := bit_1 (m := hr) (k := k) (by omega) hb2
        clear hb hb2
        go_wp2_with fail
        exact ⟨⟨k + 1, by omega, by go_num, by trivial⟩, by simp [intOf]; omega⟩
    · have g1 : ¬ (k : Int) < r.R.length := by omega
      go_wp2_with fail
      refine HKA.out _ _ ?_
      clear HKA
      go_wp2_with (first | (go_at_call 15; (with_reducible refine (alive_any _).mono ?_); rintro e wa ⟨rfl, hb⟩; have HGA := Lib.hid (Gr.tr HG.out hb); clear hb))
      go_ret
      exact ⟨rfl, HGA.out⟩
set_option maxRecDepth 100000 in
set_option maxHeartbeats 8000000 in
theorem ltrue_left (r : Rr) (P : List (Nat × Nat)) (sn b3 bp ks kp : Nat) (ps : Option Addr) (w wb : World) (hok : r.ok = true) (hP : P ∈ r.ways) (hB : Box wb b3 r.cs 26) (hG : Gr w wb) (hsn : sn < 1024) (hs : ∀ k, k < r.R.length → sn.testBit k = true ∨ r.hdR.testBit k = true)
    (hS : InsF ps r.L.length (fun j => r.lkd.surTo j r.lkd.nR) wb) (hPB : Box wb bp (ivs ((List.range r.L.length).map (par P))) 3) {s0 s1 s2 s4 s5 s6 s7 s8 s9 s10 s11 s12 s14 s17 s18 s20 s22 s23 s24 s25 s26 s27 s28 s29 s30 s31 s32 s33 s34 s35 s36 s37 s38 s39 s40 s41 s42 s43 s44 s45 s46 s47 s48 s49 s50 s51 s52 s53 s54 s55 s56 s57 s58 s59 s60 s61 s62 s63 s64 s65 s66 s67 s68 s69 s70 s71 s72 s73 s74 s75 s76 s77 s78 s79 s80 s81 s82 s83 s84 s85 s86 s87 s88 s89 s90 s91 s92 s93 s94 s95 s96 s97 s98 s99 s100 s101 s102 s103 s104 s105 s106 s107 s108 s109 s110 s111 s112 s113 s114 s115 s116 s117 s118 s119 s120 s121 s122 s123 s124 s125 s126 s127 s128 s129 s130 s131 s132 s133 s134 s135 s136 s137 s138 s139 s140 s141 s142 s143 s144 s145 s146 s147 s148 s149 s150 s151 s152 s153 s154 s155 s156 s157 s158 s159 s160 s161 s162 s163 s164 s165 s166 s167 s168 s169 s170 s171 s172 s173 s174 s175 s176 s177 s178 s179 s180 s181 s182 s183 s184 s185 s186 s187 s188 s189 s190 s191 s192 s193 s194 s195 s196 s197 s198 s199 s200 s201 s202 s203 s204 s205 s206 s207 s208 s209 s210 s211 s212 s213 s214 s215 s216 s217 s218 s219 s220 s221 s222 s223 s224 s225 s226 s227 s228 s229 s230 s231 s232 s233 s234 s235 s236 s237 s238 s239 s240 s241 s242 s243 s244 s245 s246 s247 s248 s249 s250 s251 s252 s253 s254 s255 s256 s257 s258 s259 s260 s261 s262 : Value} :
    (Code.snd7 (Code.snd7 (Code.snd7 (Code.snd7 (Code.snd7 (Code.snd7 (Code.snd7 (Code.snd7 (Code.snd7 (Code.snd7 (Code.snd7 (Code.snd7 (Code.snd7 (Code.snd7 (Try.f7.body.getD .skip))))))))))))))).wp Try.prog (bodyPost Try.prog Try.f7 fun e w' => e = .returned (.bool true) ∧ Below w.heap.size w w') { tmps := #[s0, s1, s2, .pointer (some ⟨b3, 0, none⟩), s4, s5, s6, s7, s8, s9, s10, s11, s12, .slice ps r.L.length ks, s14, .int .i64 (r.hdL : Nat), .int .i64 (r.hdR : Nat), s17, s18, .slice (some ⟨bp, 0, none⟩) r.L.length kp, s20, .int .i64 (sn : Nat), s22, s23, s24, s25, s26, s27, s28, s29, s30, s31, s32, s33, s34, s35, s36, s37, s38, s39, s40, s41, s42, s43, s44, s45, s46, s47, s48, s49, s50, s51, s52, s53, s54, s55, s56, s57, s58, s59, s60, s61, s62, s63, s64, s65, s66, s67, s68, s69, s70, s71, s72, s73, s74, s75, s76, s77, s78, s79, s80, s81, s82, s83, s84, s85, s86, s87, s88, s89, s90, s91, s92, s93, s94, s95, s96, s97, s98, s99, s100, s101, s102, s103, s104, s105, s106, s107, s108, s109, s110, s111, s112, s113, s114, s115, s116, s117, s118, s119, s120, s121, s122, s123, s124, s125, s126, s127, s128, s129, s130, s131, s132, s133, s134, s135, s136, s137, s138, s139, s140, s141, s142, s143, s144, s145, s146, s147, s148, s149, s150, s151, s152, s153, s154, s155, s156, s157, s158, s159, s160, s161, s162, s163, s164, s165, s166, s167, s168, s169, s170, s171, s172, s173, s174, s175, s176, s177, s178, s179, s180, s181, s182, s183, s184, s185, s186, s187, s188, s189, s190, s191, s192, s193, s194, s195, s196, s197, s198, s199, s200, s201, s202, s203, s204, s205, s206, s207, s208, s209, s210, s211, s212, s213, s214, s215, s216, s217, s218, s219, s220, s221, s222, s223, s224, s225, s226, s227, s228, s229, s230, s231, s232, s233, s234, s235, s236, s237, s238, s239, s240, s241, s242, s243, s244, s245, s246, s247, s248, s249, s250, s251, s252, s253, s254, s255, s256, s257, s258, s259, s260, s261, s262], defers := [] } wb := by
  conv => arg 2; whnf
  obtain ⟨p1, -, -⟩ := Rr.ok_parts hok
  have hL : r.hdL < 1024 := lt_4096 r.hdL_lt p1
  have HPV := Lib.hid (fun i (hi : i < r.L.length) => show (par P i = -1 → r.hdL.testBit i = true) ∧ (r.lkd.surTo i r.lkd.nR = -1 ∨ r.lkd.surTo i r.lkd.nR = par P i) from ⟨fun h => Rr.tr_hdL hok hP hi (par_none.1 h), Rr.tr_sur hok hP hi⟩)
  have HALL := Lib.hid (show r.ok = true ∧ Box wb b3 r.cs 26 ∧ Gr w wb ∧ sn < 1024 ∧ (∀ k, k < r.R.length → sn.testBit k = true ∨ r.hdR.testBit k = true) from ⟨hok, hB, hG, hsn, hs⟩)
  have HPC := Lib.hid (fun i (hi : i < r.L.length) => show wb.cell? ⟨bp, i, none⟩ = some (.int .i64 (par P i)) from hPB.cell (by unfold ivs; simp [hi]))
  have hpl := hPB.lt
  have HSC := Lib.hid hS
  clear hok hP hB hG hsn hs hS hPB
  apply wp_seq_k
  intro KA hKA
  have HKA := Lib.hid hKA
  clear hKA
  go_wp2_with fail
  go_loopw [213] (fun t wr => ∃ k : Nat, k ≤ r.L.length ∧ t = .int .i64 k ∧ wb = wr) (fun t _ => (20 - intOf t).toNat)
  case atStart => exact ⟨0, Nat.zero_le _, rfl, rfl⟩
  case round =>
    obtain ⟨k, hk, rfl, rfl⟩ := hrel
    by_cases hlt : k < r.L.length
    · have g1 : (k : Int) < r.L.length := by omega
      have c1 := HPC.out k hlt
      obtain ⟨bs, os, hps, hbs, hcs⟩ := HSC.out k hlt
      obtain ⟨q1, q2⟩ := HPV.out k hlt
      subst hps
      dsimp only at hcs
      generalize par P k = pk at *
      generalize r.lkd.surTo k r.lkd.nR = sk at *
      by_cases hp : pk = -1
      · have e1 := bit_1 (m := r.hdL) (k := k) (by omega) (q1 hp)
        subst hp
        have hsk : sk = -1 := by omega
        subst hsk
        clear q1 q2
        generalize r.hdL = hl at *
        go_wp2_with fail
        exact ⟨⟨k + 1, by omega, by go_num, by trivial⟩, by simp [intOf]; omega⟩
      · by_cases hs1 : sk = -1
        · subst hs1
          clear q1 q2
          go_wp2_with fail
          exact ⟨⟨k + 1, by omega, by go_num, by trivial⟩, by simp [intOf]; omega⟩
        · have hsk : sk = pk := by omega
          subst hsk
          clear q1 q2
          go_wp2_with fail
          exact ⟨⟨k + 1, by omega, by go_num, by trivial⟩, by simp [intOf]; omega⟩
    · have g1 : ¬ (k : Int) < r.L.length := by omega
      go_wp2_with fail
      exact HKA.out _ _ (ltrue_right r sn b3 w wb HALL.out.1 HALL.out.2.1 HALL.out.2.2.1 HALL.out.2.2.2.1 HALL.out.2.2.2.2)

end Go.Proofs.Ytjlaoiimbhlafaa
