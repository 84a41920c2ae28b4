import Derived.Test.YtjlaoiimbhlafaaU4c
import Derived.Test.YtjlaoiimbhlafaaU4d
import Derived.Deep.CutBlock
import Derived.Deep.DeepCutAuto
import Derived.BigQuiet
import Derived.Deep.QuietTactic
set_option linter.unusedVariables false
set_option linter.unusedSimpArgs false
namespace Go.Proofs.Ytjlaoiimbhlafaa
open Go.RowKit Go.Shelf

open MW
attribute [local go_sem] Oper.semAt_some run_store_func
attribute [local go_sem ↓] Go.wp_at_zero Go.wp_at_succ
attribute [local go_sem] guard55 guard24 neq55 eql24 neq24
attribute [-go_sem] run_eql_struct run_neq_struct
theorem acells8 {W : World} {b : Nat} {x0 x1 x2 x3 x4 x5 x6 x7 : Value} {T : TypeId} (h : Box W b [x0, x1, x2, x3, x4, x5, x6, x7] T) : W.cell? ⟨b, 0, none⟩ = some x0 ∧ W.cell? ⟨b, 1, none⟩ = some x1 ∧ W.cell? ⟨b, 2, none⟩ = some x2 ∧ W.cell? ⟨b, 3, none⟩ = some x3 ∧ W.cell? ⟨b, 4, none⟩ = some x4 ∧ W.cell? ⟨b, 5, none⟩ = some x5 ∧ W.cell? ⟨b, 6, none⟩ = some x6 ∧ W.cell? ⟨b, 7, none⟩ = some x7 :=
  ⟨h.cell (i := 0) rfl, h.cell (i := 1) rfl, h.cell (i := 2) rfl, h.cell (i := 3) rfl, h.cell (i := 4) rfl, h.cell (i := 5) rfl, h.cell (i := 6) rfl, h.cell (i := 7) rfl⟩
theorem Gr_drewN (w : World) (n : Nat) : Gr w (w.drewN n) := (Below.refl _ _).trans ⟨rfl, rfl, rfl, Nat.le_refl _, fun _ _ => rfl⟩
theorem ThingsAt.gro {l : List Pq.Th} {v : Value} {w w' : World} (h : Pq.ThingsAt l v w) (hg : Gr w w') : Pq.ThingsAt l v w' := Pq.ThingsAt.lasts l v w w' h hg
set_option maxRecDepth 100000 in
set_option maxHeartbeats 8000000 in
theorem ltop_tell (r : Rr) (P : List (Nat × Nat)) (b1 b10 kpp ks : Nat) (pp ps : Option Addr) (tv : Value) (w wb : World) (hok : r.ok = true) (hP : P ∈ r.ways) (hpl : r.plate) (hB : Box wb b1 r.cs 26) (hG : Gr w wb) (hML : MksAt r.L r.lp wb) (hMR : MksAt r.R r.rp wb) (hPP : PrsIn (.slice pp P.length kpp) P wb) (hS : InsF ps r.L.length (fun j => r.lkd.surTo j r.lkd.nR) wb)
    (hBP : Box wb b10 [.int .i64 9000, .int .i64 9000, .int .i64 65, .int .i64 66, .int .i64 5, .int .i64 2000, .int .i64 100000, tv] 71) (hT : Pq.ThingsAt (P.map r.thg) tv wb) {s0 s2 s3 s4 s6 s7 s9 s11 s12 s13 s14 s15 s16 s17 s18 s19 s20 s21 s22 s23 s24 s25 s26 s27 s28 s29 s30 s31 s32 s33 s34 s35 s36 s37 s38 s39 s40 s41 s42 s43 s44 s45 s46 s47 s48 s49 s50 s51 s52 s53 s54 s55 s56 s57 s58 s59 s60 s61 s62 s63 s64 s65 s66 s67 s68 s69 s70 s71 s72 s73 s74 s75 s76 s77 s78 s79 s80 s81 s82 s83 s84 s85 s86 s87 s88 s89 s90 s91 s92 s93 s94 s95 s96 s97 s98 s99 s100 s101 s102 s103 s104 s105 s106 s107 s108 s109 s110 s111 s112 s113 s114 s115 s116 s117 s118 s119 s120 s121 s122 s123 s124 s125 s126 s127 s128 s129 s130 s131 s132 s133 s134 s135 s136 s137 s138 s139 s140 s141 s142 s143 s144 s145 s146 s147 s148 s149 s150 s151 s152 s153 s154 s155 s156 s157 s158 s159 s160 s161 s162 s163 s164 s165 s166 s167 s168 s169 s170 s171 s172 s173 s174 s175 s176 s177 s178 s179 s180 s181 s182 s183 s184 s185 s186 s187 s188 s189 s190 s191 s192 s193 s194 s195 s196 s197 s198 s199 s200 s201 s202 s203 s204 s205 s206 s207 s208 s209 s210 s211 s212 s213 s214 s215 s216 s217 s218 s219 s220 s221 s222 s223 s224 s225 s226 s227 s228 s229 s230 s231 s232 s233 s234 s235 s236 s237 s238 s239 s240 s241 s242 s243 s244 s245 s246 s247 s248 s249 s250 : Value} :
    (Code.snd13 (Code.snd13 (Code.snd13 (Code.snd13 (Code.snd13 (Code.snd13 (Code.snd13 (Code.snd13 (Code.snd13 (Try.f13.body.getD .skip)))))))))).wp Try.prog (bodyPost Try.prog Try.f13 fun e w' => e = .returned (.bool true) ∧ Below w.heap.size w w') { tmps := #[s0, .pointer (some ⟨b1, 0, none⟩), s2, s3, s4, .slice pp P.length kpp, s6, s7, .slice ps r.L.length ks, s9, .pointer (some ⟨b10, 0, none⟩), s11, s12, s13, s14, s15, s16, s17, s18, s19, s20, s21, s22, s23, s24, s25, s26, s27, s28, s29, s30, s31, s32, s33, s34, s35, s36, s37, s38, s39, s40, s41, s42, s43, s44, s45, s46, s47, s48, s49, s50, s51, s52, s53, s54, s55, s56, s57, s58, s59, s60, s61, s62, s63, s64, s65, s66, s67, s68, s69, s70, s71, s72, s73, s74, s75, s76, s77, s78, s79, s80, s81, s82, s83, s84, s85, s86, s87, s88, s89, s90, s91, s92, s93, s94, s95, s96, s97, s98, s99, s100, s101, s102, s103, s104, s105, s106, s107, s108, s109, s110, s111, s112, s113, s114, s115, s116, s117, s118, s119, s120, s121, s122, s123, s124, s125, s126, s127, s128, s129, s130, s131, s132, s133, s134, s135, s136, s137, s138, s139, s140, s141, s142, s143, s144, s145, s146, s147, s148, s149, s150, s151, s152, s153, s154, s155, s156, s157, s158, s159, s160, s161, s162, s163, s164, s165, s166, s167, s168, s169, s170, s171, s172, s173, s174, s175, s176, s177, s178, s179, s180, s181, s182, s183, s184, s185, s186, s187, s188, s189, s190, s191, s192, s193, s194, s195, s196, s197, s198, s199, s200, s201, s202, s203, s204, s205, s206, s207, s208, s209, s210, s211, s212, s213, s214, s215, s216, s217, s218, s219, s220, s221, s222, s223, s224, s225, s226, s227, s228, s229, s230, s231, s232, s233, s234, s235, s236, s237, s238, s239, s240, s241, s242, s243, s244, s245, s246, s247, s248, s249, s250], defers := [] } wb := by
  conv => arg 2; whnf
  obtain ⟨p1, p2, -⟩ := Rr.ok_parts hok
  have hpl2 := way_len hP
  have HB := Lib.hid hB
  have H10 := Lib.hid hBP
  unfold Rr.cs at HB
  have HG := Lib.hid hG
  have H30 := Lib.hid (fun i W (hi : i < r.L.length) (hs : (r.shE i).s = true) (hg : Gr wb W) => shift30_some r W (hML.grow hg) (hMR.grow hg) hok (Rr.way_all0 hok hP) i hi hs)
  unfold Rr.val at H30
  have H45 := Lib.hid (fun (k : Nat) (x y : Int) W (h : (r.pr P).shift k = (x, y, 0)) (hg : Gr wb W) => Pq.shift_is (v := tv) h (ThingsAt.gro hT hg))
  have H46 := Lib.hid (fun (k : Nat) (x : Int) W (h : (r.pr P).why k = (x, 0)) (hg : Gr wb W) => Pq.why_is (v := tv) h (ThingsAt.gro hT hg))
  have HPT := Lib.hid (fun (c i k : Nat) (hx : P[c]? = some (i, k)) => show (i < r.L.length ∧ k < r.R.length) ∧ ((r.shE i).s = true ∧ (r.shE i).a ≤ (r.shv i k).1 ∧ (r.shv i k).2 ≤ (r.shE i).b) ∧ (r.shv i k).1 ≤ (r.shv i k).2 ∧ (r.lkd.surTo i r.lkd.nR = k → (r.shE i).a = (r.shv i k).1 ∧ (r.shE i).b = (r.shv i k).2) from by
    have hm := List.mem_of_getElem? hx
    have hf := Rr.way_fit hP hm
    have hle := Rr.shv_le hf.2.2
    have h1 := Rr.tr_sh hok hP hm (s := (r.shv i k).1) (Int.le_refl _) hle
    have h2 := Rr.tr_sh hok hP hm (s := (r.shv i k).2) hle (Int.le_refl _)
    exact ⟨⟨hf.1, hf.2.1⟩, ⟨h1.1, h1.2.1, h2.2.2⟩, hle, fun hs => Rr.sure_sh hok hP hm hs⟩)
  have HTL := Lib.hid (fun (c i k : Nat) (hx : P[c]? = some (i, k)) => Rr.pr_tells hok hP hpl hx)
  obtain ⟨pp', kpp', hpp, hPP⟩ := hPP
  cases hpp
  have HPP := Lib.hid hPP
  have HS := Lib.hid hS
  clear hok hP hpl hB hG hML hMR hPP hS hBP hT
  apply wp_seq_k
  intro KA hKA
  have HKA := Lib.hid hKA
  clear hKA
  go_wp2_with fail
  go_loopw [157] (fun t wr => ∃ c : Nat, c ≤ P.length ∧ t = .int .i64 c ∧ Hid (Gr wb wr)) (fun t _ => (20 - intOf t).toNat)
  case atStart => exact ⟨0, Nat.zero_le _, rfl, Lib.hid (Gr.same _)⟩
  case round =>
    obtain ⟨c, hc, rfl, HR⟩ := hrel
    by_cases hlt : c < P.length
    · have g1 : (c : Int) < P.length := by omega
      obtain ⟨⟨xi, xk⟩, hx⟩ : ∃ x, P[c]? = some x := ⟨_, List.getElem?_eq_getElem hlt⟩
      obtain ⟨⟨x1, x2⟩, ⟨hss, hsa, hsb⟩, hle, hsure⟩ := HPT.out c xi xk hx
      obtain ⟨lo, hi, wy, t1, t2, t3, t4, t5, t6, t7⟩ := HTL.out c xi xk hx
      obtain ⟨bq, oq, hq1, hq2, hq3, hq4⟩ := HPP.out c _ hx
      obtain ⟨bs, os, hs1, hs2, hs3⟩ := HS.out xi x1
      subst hq1 hs1
      dsimp only at hq3 hq4 hs3
      have H45' := Lib.hid (fun W => H45.out c lo hi W t1)
      have H46' := Lib.hid (fun W => H46.out c wy W t2)
      have H30' := Lib.hid (fun W => H30.out xi W x1 hss)
      unfold Rr.pr at H45' H46'
      dsimp only at H45' H46'
      generalize hm1 : (r.shv xi xk).1 = m1 at *
      generalize hm2 : (r.shv xi xk).2 = m2 at *
      generalize (r.shE xi).a = sa at *
      generalize (r.shE xi).b = sb at *
      generalize r.lkd.surTo xi r.lkd.nR = su at *
      have HSU := Lib.hid hsure
      have t3' := t3.symm
      have t4' := t4.symm
      have T56 := Lib.hid (show wy ≠ 1 ∧ (0 ≤ r.s → wy ≠ 2) from ⟨t5, t6⟩)
      clear hx hss HPT HTL HPP HS H45 H46 H30 t1 t2 t3 t4 t5 t6 hsure hm1 hm2
      obtain ⟨hbc, hbf, hbz⟩ := bcell HR.out
      have q3 := (hbc _ _ hq2).trans hq3
      have q4 := (hbc _ _ hq2).trans hq4
      have ql := hbz _ hq2
      have HT := Lib.hid (Box.fresh wr [.int .i64 xi, .int .i64 xk] 55)
      clear hbc hbf hbz
      go_upto_region 26 with fail
      have HR := Lib.hid (HR.out.tr (Gr.alloc wr (Obj.cells #[.int .i64 xi, .int .i64 xk] 55)))
      generalize hbt : wr.heap.size = bt at *
      generalize wr.alloc (Obj.cells #[.int .i64 xi, .int .i64 xk] 55) = wx at *
      clear q3 q4 ql hbt
      obtain ⟨r0, r1, r2, r3, r4⟩ := cells5 (HB.out.grow HR.out)
      have rl := (HB.out.grow HR.out).lt
      obtain ⟨z0, z1, z2, z3, z4, z5, z6, z7⟩ := acells8 (H10.out.grow HR.out)
      have zl := (H10.out.grow HR.out).lt
      go_upto_region 27 with (first | (go_at_call 45; (with_reducible refine (H45'.out _ HR.out).mono ?_); rintro e w5 ⟨rfl, hb⟩; dsimp only))
      have HT := Lib.hid (HT.out.grow (Gr.tr hb (Gr.alloc w5 (Obj.cells #[.int .i64 lo, .int .i64 hi] 24))))
      have HR := Lib.hid (HR.out.tr (Gr.tr hb (Gr.alloc w5 (Obj.cells #[.int .i64 lo, .int .i64 hi] 24))))
      have H15 := Lib.hid (Box.fresh w5 [.int .i64 lo, .int .i64 hi] 24)
      clear r0 r1 r2 r3 r4 rl z0 z1 z2 z3 z4 z5 z6 z7 zl hb
      generalize hb15 : w5.heap.size = b15 at *
      generalize w5.alloc (Obj.cells #[.int .i64 lo, .int .i64 hi] 24) = wx2 at *
      clear hb15
      obtain ⟨r0, r1, r2, r3, r4⟩ := cells5 (HB.out.grow HR.out)
      have rl := (HB.out.grow HR.out).lt
      obtain ⟨z0, z1, z2, z3, z4, z5, z6, z7⟩ := acells8 (H10.out.grow HR.out)
      have zl := (H10.out.grow HR.out).lt
      obtain ⟨y0, y1, yf0, yf1, yl⟩ := HT.out.two
      go_upto_region 28 with (first | (go_at_call 30; (with_reducible refine (H30'.out _ HR.out).mono ?_); rintro e w6 ⟨rfl, hb⟩; dsimp only))
      have HT := Lib.hid (HT.out.grow (Gr.tr hb (Gr.alloc w6 (Obj.cells #[.int .i64 sa, .int .i64 sb] 24))))
      have H15 := Lib.hid (H15.out.grow (Gr.tr hb (Gr.alloc w6 (Obj.cells #[.int .i64 sa, .int .i64 sb] 24))))
      have HR := Lib.hid (HR.out.tr (Gr.tr hb (Gr.alloc w6 (Obj.cells #[.int .i64 sa, .int .i64 sb] 24))))
      have H17 := Lib.hid (Box.fresh w6 [.int .i64 sa, .int .i64 sb] 24)
      clear r0 r1 r2 r3 r4 rl z0 z1 z2 z3 z4 z5 z6 z7 zl hb y0 y1 yf0 yf1 yl
      generalize hb17 : w6.heap.size = b17 at *
      generalize w6.alloc (Obj.cells #[.int .i64 sa, .int .i64 sb] 24) = wx3 at *
      clear hb17
      obtain ⟨r0, r1, r2, r3, r4⟩ := cells5 (HB.out.grow HR.out)
      have rl := (HB.out.grow HR.out).lt
      obtain ⟨z0, z1, z2, z3, z4, z5, z6, z7⟩ := acells8 (H10.out.grow HR.out)
      have zl := (H10.out.grow HR.out).lt
      go_upto_region 29 with (first | (go_at_call 46; (with_reducible refine (H46'.out _ HR.out).mono ?_); rintro e w7 ⟨rfl, hb⟩; dsimp only))
      have HT := Lib.hid (HT.out.grow hb)
      have H15 := Lib.hid (H15.out.grow hb)
      have H17 := Lib.hid (H17.out.grow hb)
      have HR := Lib.hid (HR.out.tr hb)
      clear r0 r1 r2 r3 r4 rl z0 z1 z2 z3 z4 z5 z6 z7 zl hb H45' H46' H30'
      obtain ⟨r0, r1, r2, r3, r4⟩ := cells5 (HB.out.grow HR.out)
      have rl := (HB.out.grow HR.out).lt
      obtain ⟨z0, z1, z2, z3, z4, z5, z6, z7⟩ := acells8 (H10.out.grow HR.out)
      have zl := (H10.out.grow HR.out).lt
      obtain ⟨u0, u1, uf0, uf1, ul⟩ := H15.out.two
      rename ∀ (a : Act) (w : World), _ → _ => hKK
      have HKK := Lib.hid hKK
      clear hKK
      go_region
      refine HKK.out _ _ ?_
      clear HKK
      have HB2 := Lib.hid (show Box w7.drew b1 r.cs 26 from (HB.out.grow HR.out).grow (Gr.drew w7))
      have H17 := Lib.hid (H17.out.grow (Gr.drew w7))
      have HT := Lib.hid (HT.out.grow (Gr.drew w7))
      have HR := Lib.hid (HR.out.tr (Gr.drew w7))
      clear r0 r1 r2 r3 r4 rl z0 z1 z2 z3 z4 z5 z6 z7 zl u0 u1 uf0 uf1 ul H15 t3' t4'
      generalize w7.drew = wz at *
      obtain ⟨hbc, hbf, hbz⟩ := bcell HR.out
      have hs3' := (hbc _ _ hs2).trans hs3
      have hsl' := hbz _ hs2
      clear hbc hbf hbz
      by_cases hsu : su = (xk : Int)
      · obtain ⟨e1, e2⟩ := HSU.out hsu
        refine ltop_30y r b1 bs os ks bt b17 xi xk wy m1 m2 sa sb su wz HB2.out HT.out H17.out hs3' hsl' x1 T56.out.1 T56.out.2 hle e1.symm e2.symm hsu ?_
        intro W hW z193 z194 z195 z196 z197 z198 z199 z200 z201 z202 z203 z204 z205 z206 z207 z208 z209 z210 z211 z212 z213 z214 z215 z216 z217 z218 z219 z220 z221 z222 z223 z224 z225 z226 z227 z228 z229 z230 z231 z232 z233 z234 z235 z236 z237 z238 z239 z240 z241 z242 z243 z244 z245 z246 z247 z248
        have HR3 := Lib.hid (HR.out.tr hW)
        clear hW hs3' hsl' e1 e2 hsu
        go_wp2_with fail
        exact ⟨⟨c + 1, by omega, by go_num, HR3⟩, by simp [intOf]; omega⟩
      · refine ltop_30n r b1 bs os ks bt b17 xi xk wy m1 m2 sa sb su wz HB2.out HT.out H17.out hs3' hsl' x1 T56.out.1 T56.out.2 hle hsa hsb hsu ?_
        intro W hW z193 z194 z195 z196 z197 z198 z199 z200 z201 z202 z203 z204 z205 z206 z207 z208 z209 z210 z211 z212 z213 z214 z215 z216 z217 z218 z219 z220 z221 z222 z223 z224 z225 z226 z227 z228 z229 z230 z231 z232 z233 z234 z235 z236 z237 z238 z239 z240 z241 z242 z243 z244 z245 z246 z247 z248
        have HR3 := Lib.hid (HR.out.tr hW)
        clear hW hs3' hsl' hsu
        go_wp2_with fail
        exact ⟨⟨c + 1, by omega, by go_num, HR3⟩, by simp [intOf]; omega⟩
    · have g1 : ¬ (c : Int) < P.length := by omega
      go_wp2_with fail
      refine HKA.out _ _ ?_
      clear HKA
      go_wp2_with (first | (go_at_call 43; (with_reducible refine (alive02_any _).mono ?_); rintro e wa ⟨rfl, hb⟩; have HGA := Lib.hid (Gr.tr (HG.out.tr HR.out) hb); clear hb))
      go_ret
      exact ⟨rfl, HGA.out⟩

end Go.Proofs.Ytjlaoiimbhlafaa
