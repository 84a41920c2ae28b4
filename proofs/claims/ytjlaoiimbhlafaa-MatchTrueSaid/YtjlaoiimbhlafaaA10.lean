import Derived.Test.YtjlaoiimbhlafaaA9
set_option linter.unusedVariables false
set_option linter.unusedSimpArgs false
namespace Go.Proofs.Ytjlaoiimbhlafaa
open Go.RowKit Go.Shelf

open MW
attribute [local go_sem] Oper.semAt_some run_store_func
attribute [local go_sem ↓] Go.wp_at_zero Go.wp_at_succ
attribute [local go_sem] guard55 guard24 neq55 eql24 neq24
attribute [-go_sem] run_eql_struct run_neq_struct
theorem par_snoc {P : List (Nat × Nat)} (hp : P.Pairwise fun x y => x.1 < y.1 ∧ x.2 < y.2) {c : Nat} {x : Nat × Nat} (hx : P[c]? = some x) (j : Nat) : par (P.take (c + 1)) j = if j = x.1 then (x.2 : Int) else par (P.take c) j := by
  have hc := (List.getElem?_eq_some_iff.1 hx).1
  have ht : P.take (c + 1) = P.take c ++ [x] := by
    rw [List.take_succ_eq_append_getElem hc]
    congr 2
    exact (List.getElem?_eq_some_iff.1 hx).2
  have hp1 : (P.take (c + 1)).Pairwise fun x y => x.1 < y.1 ∧ x.2 < y.2 := hp.sublist (List.take_sublist _ _)
  split
  · next h =>
    subst h
    rw [par_some hp1, ht]
    simp
  · next h =>
    rw [ht]
    unfold par
    rw [List.find?_append]
    cases hf : (P.take c).find? (fun x => x.1 == j) with
    | some y => rfl
    | none =>
      have : (x.1 == j) = false := by simp; exact fun e => h e.symm
      simp [this]
theorem par_set {P : List (Nat × Nat)} (hp : P.Pairwise fun x y => x.1 < y.1 ∧ x.2 < y.2) {c n : Nat} {x : Nat × Nat} (hx : P[c]? = some x) : (ivs ((List.range n).map (par (P.take c)))).set x.1 (.int .i64 x.2) = ivs ((List.range n).map (par (P.take (c + 1)))) := by
  apply List.ext_getElem?
  intro j
  unfold ivs
  simp only [List.getElem?_map, List.getElem?_set, List.length_map, List.length_range]
  by_cases hj : j < n
  · rw [List.getElem?_range hj]
    simp only [Option.map_some]
    rw [par_snoc hp hx]
    by_cases h : x.1 = j
    · rw [if_pos h, if_pos h.symm, if_pos (by omega)]
    · rw [if_neg h, if_neg (fun e => h e.symm)]
  · rw [List.getElem?_eq_none (by simp; omega)]
    by_cases h : x.1 = j
    · rw [if_pos h, if_neg (by omega)]; rfl
    · rw [if_neg h]; rfl
theorem agr_drewN (w : World) (n : Nat) : Gr w (w.drewN n) := (Below.refl _ _).trans ⟨rfl, rfl, rfl, Nat.le_refl _, fun _ _ => rfl⟩
def sec (P : List (Nat × Nat)) (j : Nat) : Nat := match P[j]? with
  | some x => 2 ^ x.2
  | none => 0
theorem sec_lt {P : List (Nat × Nat)} (h : ∀ x ∈ P, x.2 < 10) (j : Nat) : sec P j < 2 ^ 10 := by
  unfold sec
  split
  · next x hx => exact Nat.pow_lt_pow_right (by omega) (h x (List.mem_of_getElem? hx))
  · omega
theorem seen_bit {r : Rr} {P : List (Nat × Nat)} (hok : r.ok = true) (hP : P ∈ r.ways) {k : Nat} (hk : k < r.R.length) : (orTo (sec P) P.length).testBit k = true ∨ r.hdR.testBit k = true := by
  by_cases h : ∃ x ∈ P, x.2 = k
  · obtain ⟨x, hx, rfl⟩ := h
    obtain ⟨j, hj⟩ := List.mem_iff_getElem?.1 hx
    left
    refine (orTo_bit _ _ _).2 ⟨j, (List.getElem?_eq_some_iff.1 hj).1, ?_⟩
    unfold sec
    rw [hj]
    simp
  · right
    exact Rr.tr_hdR hok hP hk fun x hx e => h ⟨x, hx, e⟩
theorem or_sh (m k : Nat) (hm : m < 1024) (hk : k < 10) : bits BinOp.or IntKind.i64 (m : Int) (wrap64 (2 ^ k)) = ((m ||| 2 ^ k : Nat) : Int) := by
  rw [sh_in k (by omega)]
  exact or_n m (2 ^ k) (by omega) (pow11 k (by omega)).1
set_option maxRecDepth 100000 in
set_option maxHeartbeats 8000000 in
theorem ltrue_pairs (r : Rr) (P : List (Nat × Nat)) (S : List Int) (b3 bp kpp kpi kc ks kp : Nat) (pp pi pc ps : Option Addr) (w wa wb : World) (hok : r.ok = true) (hP : P ∈ r.ways) (hlen : S.length = P.length) (hsh : ∀ (k : Nat) (x : Nat × Nat) (v : Int), P[k]? = some x → S[k]? = some v → (r.shv x.1 x.2).1 ≤ v ∧ v ≤ (r.shv x.1 x.2).2) (hB : Box wa b3 r.cs 26) (hG : Gr w wa) (hGb : Gr wa wb) (hML : MksAt r.L r.lp wa) (hMR : MksAt r.R r.rp wa) (hPP : PrsIn (.slice pp P.length kpp) P wa) (hPI : IntsIn (.slice pi S.length kpi) S wa)
    (hC : InsF pc r.L.length (fun j => (r.lkd.ptn j : Int)) wa) (hS : InsF ps r.L.length (fun j => r.lkd.surTo j r.lkd.nR) wa) (hbp : wa.heap.size ≤ bp) (hPB : Box wb bp (ivs ((List.range r.L.length).map (par []))) 3) {s0 s1 s2 s6 s7 s8 s9 s10 s12 s14 s17 s18 s20 s21 s22 s23 s24 s25 s26 s27 s28 s29 s30 s31 s32 s33 s34 s35 s36 s37 s38 s39 s40 s41 s42 s43 s44 s45 s46 s47 s48 s49 s50 s51 s52 s53 s54 s55 s56 s57 s58 s59 s60 s61 s62 s63 s64 s65 s66 s67 s68 s69 s70 s71 s72 s73 s74 s75 s76 s77 s78 s79 s80 s81 s82 s83 s84 s85 s86 s87 s88 s89 s90 s91 s92 s93 s94 s95 s96 s97 s98 s99 s100 s101 s102 s103 s104 s105 s106 s107 s108 s109 s110 s111 s112 s113 s114 s115 s116 s117 s118 s119 s120 s121 s122 s123 s124 s125 s126 s127 s128 s129 s130 s131 s132 s133 s134 s135 s136 s137 s138 s139 s140 s141 s142 s143 s144 s145 s146 s147 s148 s149 s150 s151 s152 s153 s154 s155 s156 s157 s158 s159 s160 s161 s162 s163 s164 s165 s166 s167 s168 s169 s170 s171 s172 s173 s174 s175 s176 s177 s178 s179 s180 s181 s182 s183 s184 s185 s186 s187 s188 s189 s190 s191 s192 s193 s194 s195 s196 s197 s198 s199 s200 s201 s202 s203 s204 s205 s206 s207 s208 s209 s210 s211 s212 s213 s214 s215 s216 s217 s218 s219 s220 s221 s222 s223 s224 s225 s226 s227 s228 s229 s230 s231 s232 s233 s234 s235 s236 s237 s238 s239 s240 s241 s242 s243 s244 s245 s246 s247 s248 s249 s250 s251 s252 s253 s254 s255 s256 s257 s258 s259 s260 s261 s262 : Value} :
    (Code.snd7 (Code.snd7 (Code.snd7 (Code.snd7 (Code.snd7 (Code.snd7 (Code.snd7 (Code.snd7 (Code.snd7 (Code.snd7 (Code.snd7 (Code.snd7 (Try.f7.body.getD .skip))))))))))))).wp Try.prog (bodyPost Try.prog Try.f7 fun e w' => e = .returned (.bool true) ∧ Below w.heap.size w w') { tmps := #[s0, s1, s2, .pointer (some ⟨b3, 0, none⟩), .slice pp P.length kpp, .slice pi S.length kpi, s6, s7, s8, s9, s10, .slice pc r.L.length kc, s12, .slice ps r.L.length ks, s14, .int .i64 (r.hdL : Nat), .int .i64 (r.hdR : Nat), s17, s18, .slice (some ⟨bp, 0, none⟩) r.L.length kp, s20, s21, s22, s23, s24, s25, s26, s27, s28, s29, s30, s31, s32, s33, s34, s35, s36, s37, s38, s39, s40, s41, s42, s43, s44, s45, s46, s47, s48, s49, s50, s51, s52, s53, s54, s55, s56, s57, s58, s59, s60, s61, s62, s63, s64, s65, s66, s67, s68, s69, s70, s71, s72, s73, s74, s75, s76, s77, s78, s79, s80, s81, s82, s83, s84, s85, s86, s87, s88, s89, s90, s91, s92, s93, s94, s95, s96, s97, s98, s99, s100, s101, s102, s103, s104, s105, s106, s107, s108, s109, s110, s111, s112, s113, s114, s115, s116, s117, s118, s119, s120, s121, s122, s123, s124, s125, s126, s127, s128, s129, s130, s131, s132, s133, s134, s135, s136, s137, s138, s139, s140, s141, s142, s143, s144, s145, s146, s147, s148, s149, s150, s151, s152, s153, s154, s155, s156, s157, s158, s159, s160, s161, s162, s163, s164, s165, s166, s167, s168, s169, s170, s171, s172, s173, s174, s175, s176, s177, s178, s179, s180, s181, s182, s183, s184, s185, s186, s187, s188, s189, s190, s191, s192, s193, s194, s195, s196, s197, s198, s199, s200, s201, s202, s203, s204, s205, s206, s207, s208, s209, s210, s211, s212, s213, s214, s215, s216, s217, s218, s219, s220, s221, s222, s223, s224, s225, s226, s227, s228, s229, s230, s231, s232, s233, s234, s235, s236, s237, s238, s239, s240, s241, s242, s243, s244, s245, s246, s247, s248, s249, s250, s251, s252, s253, s254, s255, s256, s257, s258, s259, s260, s261, s262], defers := [] } wb := by
  conv => arg 2; whnf
  obtain ⟨p1, p2, -⟩ := Rr.ok_parts hok
  have hord : P.Pairwise fun x y => x.1 < y.1 ∧ x.2 < y.2 := All_one hP
  have hpl : P.length ≤ 10 := by
    have aux : ∀ (Q : List (Nat × Nat)), (Q.Pairwise fun x y => x.1 < y.1 ∧ x.2 < y.2) → ∀ (a u : Nat), a ≤ u → (∀ x ∈ Q, a ≤ x.1 ∧ x.1 < u) → Q.length + a ≤ u := by
      intro Q
      induction Q with
      | nil => intros; simp; omega
      | cons q Q ih =>
        intro hp a u ha hx
        have hp' := List.pairwise_cons.1 hp
        have hq := hx q (by simp)
        have := ih hp'.2 (q.1 + 1) u (by omega) fun x hx2 => ⟨(hp'.1 x hx2).1, (hx x (by simp [hx2])).2⟩
        rw [List.length_cons]
        omega
    have := aux P hord 0 r.L.length (by omega) fun x hx => ⟨Nat.zero_le _, (Rr.way_fit hP hx).1⟩
    omega
  have HORD := Lib.hid (fun (n c : Nat) (x : Nat × Nat) (hx : P[c]? = some x) => par_set (n := n) hord hx)
  have HSEC := Lib.hid (fun c => orTo_lt (sec P) 10 (fun j => sec_lt (fun x hx => by have := (Rr.way_fit hP hx).2.1; omega) j) c)
  have HALL := Lib.hid (show r.ok = true ∧ P ∈ r.ways from ⟨hok, hP⟩)
  have HPT := Lib.hid (fun (c : Nat) (x : Nat × Nat) (v : Int) (hx : P[c]? = some x) (hv : S[c]? = some v) => show (x.1 < r.L.length ∧ x.2 < r.R.length) ∧ r.fitm x.1 x.2 = true ∧ (r.lkd.ptn x.1).testBit x.2 = true ∧ ((r.shE x.1).s = true ∧ (r.shE x.1).a ≤ v ∧ v ≤ (r.shE x.1).b) from by
    have hm := List.mem_of_getElem? hx
    have hf := Rr.way_fit hP hm
    have hs := hsh c x v hx hv
    exact ⟨⟨hf.1, hf.2.1⟩, hf.2.2, Rr.tr_ptn hok hP hm, Rr.tr_sh hok hP hm hs.1 hs.2⟩)
  have H16 := Lib.hid (fun i j W (hi : i < r.L.length) (hj : j < r.R.length) (hg : Gr wa W) => fits16_yes r W (hML.grow hg) (hMR.grow hg) hok i j hi hj)
  have H30 := Lib.hid (fun i W (hi : i < r.L.length) (hs : (r.shE i).s = true) (hg : Gr wa W) => shift30_some r W (hML.grow hg) (hMR.grow hg) hok (Rr.way_all0 hok hP) i hi hs)
  unfold Rr.val at H16 H30
  have HB := Lib.hid hB
  have HG := Lib.hid hG
  have HGB := Lib.hid hGb
  obtain ⟨pp', kpp', hpp, hPP⟩ := hPP
  cases hpp
  obtain ⟨pi', kpi', hpi, hPI⟩ := hPI
  cases hpi
  have HPP := Lib.hid hPP
  have HPI := Lib.hid hPI
  have HC := Lib.hid hC
  have HS := Lib.hid hS
  have HPB := Lib.hid hPB
  have HM4 := Lib.hid (fun i => lt_4096 (Rr.ptn_lt (r := r) i) p2)
  clear hok hP hsh hB hG hGb hML hMR hPP hPI hC hS hPB hord
  apply wp_seq_k
  intro KA hKA
  have HKA := Lib.hid hKA
  clear hKA
  go_wp2_with fail
  refine HKA.out _ _ ?_
  clear HKA
  apply wp_seq_k
  intro KA hKA
  have HKA := Lib.hid hKA
  clear hKA
  go_wp2_with fail
  go_loopw [138, 21] (fun t sn wr => ∃ c : Nat, c ≤ P.length ∧ t = .int .i64 c ∧ sn = .int .i64 (orTo (sec P) c : Nat) ∧ Hid (Gr wa wr) ∧ Hid (Box wr bp (ivs ((List.range r.L.length).map (par (P.take c)))) 3)) (fun t _ _ => (20 - intOf t).toNat)
  case atStart => exact ⟨0, Nat.zero_le _, rfl, rfl, HGB, HPB⟩
  case round =>
    obtain ⟨c, hc, rfl, rfl, HR, HBP⟩ := hrel
    by_cases hlt : c < P.length
    · have g1 : (c : Int) < P.length := by omega
      obtain ⟨x, hx⟩ : ∃ x, P[c]? = some x := ⟨_, List.getElem?_eq_getElem hlt⟩
      obtain ⟨v, hv⟩ : ∃ v, S[c]? = some v := ⟨_, List.getElem?_eq_getElem (by omega)⟩
      obtain ⟨⟨x1, x2⟩, hfit, hptn, hss, hsa, hsb⟩ := HPT.out c x v hx hv
      obtain ⟨bq, oq, hq1, hq2, hq3, hq4⟩ := HPP.out c x hx
      obtain ⟨bv, ov, hv1, hv2, hv3⟩ := HPI.out c v hv
      obtain ⟨bc, oc, hc1, hc2, hc3⟩ := HC.out x.1 x1
      subst hq1 hv1 hc1
      have HSET := Lib.hid (HORD.out r.L.length c x hx)
      have HOR := Lib.hid (or_sh (orTo (sec P) c) x.2 (HSEC.out c) (by omega))
      have HOR2 := Lib.hid (show orTo (sec P) (c + 1) = orTo (sec P) c ||| 2 ^ x.2 by show _ ||| sec P c = _; unfold sec; rw [hx])
      have H16' := Lib.hid (fun W => H16.out x.1 x.2 W x1 x2)
      rw [hfit] at H16'
      have H30' := Lib.hid (fun W => H30.out x.1 W x1 hss)
      have hm4 := HM4.out x.1
      dsimp only at hc3
      generalize r.lkd.ptn x.1 = pt at *
      generalize (r.shE x.1).a = sa at *
      generalize (r.shE x.1).b = sb at *
      have hlp : (ivs ((List.range r.L.length).map (par (P.take c)))).length = r.L.length := by simp [ivs]
      generalize ivs ((List.range r.L.length).map (par (P.take c))) = vp at *
      generalize hv2e : ivs ((List.range r.L.length).map (par (P.take (c + 1)))) = vp2 at *
      have HV2E := Lib.hid hv2e
      clear hv2e
      generalize orTo (sec P) c = sn at *
      generalize hs2e : orTo (sec P) (c + 1) = sn2 at *
      have HS2E := Lib.hid hs2e
      clear hs2e
      clear hx hv hfit hss HPT HPP HPI HC HORD H16 H30 HM4 HSEC
      obtain ⟨xi, xk⟩ := x
      dsimp only at *
      have e1 := bit_1 (m := pt) (k := xk) (by omega) hptn
      clear hptn
      obtain ⟨hbc, hbf, hbz⟩ := bcell HR.out
      have q3 := (hbc _ _ hq2).trans hq3
      have q4 := (hbc _ _ hq2).trans hq4
      have v3 := (hbc _ _ hv2).trans hv3
      have c3 := (hbc _ _ hc2).trans hc3
      have ql := hbz _ hq2
      have vl := hbz _ hv2
      have cl := hbz _ hc2
      have hb0 := HBP.out.cell (i := xi) (List.getElem?_eq_getElem (by omega))
      have hbf0 := HBP.out.free xi
      have hbl := HBP.out.lt
      generalize vp[xi] = ve at *
      go_wp2_with fail
      go_region
      rw [HOR.out, ← HOR2.out]
      have HR := Lib.hid (show Gr wa (((wr.setCell ⟨bp, xi, none⟩ (.int .i64 xk)).alloc (Obj.cells #[.int .i64 xi, .int .i64 xk] 55)).drew) from ((show Gr wa (wr.setCell ⟨bp, xi, none⟩ (.int .i64 xk)) from Below.setCell HR.out hbp _).tr (Gr.alloc _ _)).tr (Gr.drew _))
      have HBP := Lib.hid (show Box (((wr.setCell ⟨bp, xi, none⟩ (.int .i64 xk)).alloc (Obj.cells #[.int .i64 xi, .int .i64 xk] 55)).drew) bp vp2 3 from HSET.out ▸ (((HBP.out.put xi (.int .i64 xk)).grow (Gr.alloc _ _)).grow (Gr.drew _)))
      have HT := Lib.hid (show Box (((wr.setCell ⟨bp, xi, none⟩ (.int .i64 xk)).alloc (Obj.cells #[.int .i64 xi, .int .i64 xk] 55)).drew) wr.heap.size [.int .i64 xi, .int .i64 xk] 55 from by
        have := (Box.fresh (wr.setCell ⟨bp, xi, none⟩ (.int .i64 xk)) [.int .i64 xi, .int .i64 xk] 55).grow (Gr.drew _)
        simpa using this)
      generalize ((wr.setCell ⟨bp, xi, none⟩ (.int .i64 xk)).alloc (Obj.cells #[.int .i64 xi, .int .i64 xk] 55)).drew = wx at *
      generalize wr.heap.size = bt at *
      clear HOR HOR2 HSET hb0 hbf0 hbl q3 q4 v3 c3 ql vl cl hbc hbf hbz
      obtain ⟨t0, t1, tf0, tf1, tl⟩ := HT.out.two
      obtain ⟨r0, r1, r2, r3, r4⟩ := cells5 (HB.out.grow HR.out)
      have rl := (HB.out.grow HR.out).lt
      go_wp2_with fail
      refine (H16'.out _ HR.out).mono ?_
      rintro e w5 ⟨rfl, hb⟩
      have HR := Lib.hid (HR.out.tr hb)
      have HBP := Lib.hid (HBP.out.grow hb)
      have HT := Lib.hid (HT.out.grow hb)
      clear hb t0 t1 tf0 tf1 tl r0 r1 r2 r3 r4 rl
      dsimp only
      obtain ⟨t0, t1, tf0, tf1, tl⟩ := HT.out.two
      obtain ⟨r0, r1, r2, r3, r4⟩ := cells5 (HB.out.grow HR.out)
      have rl := (HB.out.grow HR.out).lt
      go_wp2_with fail
      refine (H30'.out _ HR.out).mono ?_
      rintro e w6 ⟨rfl, hb⟩
      have HR := Lib.hid (HR.out.tr hb)
      have HBP := Lib.hid (HBP.out.grow hb)
      have HT := Lib.hid (HT.out.grow hb)
      clear hb t0 t1 tf0 tf1 tl r0 r1 r2 r3 r4 rl
      dsimp only
      obtain ⟨t0, t1, tf0, tf1, tl⟩ := HT.out.two
      obtain ⟨hbc, hbf, hbz⟩ := bcell HR.out
      have v3 := (hbc _ _ hv2).trans hv3
      have c3 := (hbc _ _ hc2).trans hc3
      have vl := hbz _ hv2
      have cl := hbz _ hc2
      clear hbc hbf hbz
      have n1 : ¬ v < sa := by omega
      have n2 : ¬ sb < v := by omega
      have n1' : decide (v < sa) = false := by simp; omega
      have n2' : decide (sb < v) = false := by simp; omega
      go_wp2_with fail
      go_quiet (fail)
      go_wp2_with fail
      have hA : Gr w6 ((w6.alloc (Obj.cells #[.int .i64 sa, .int .i64 sb] 24)).drewN nq) := (Gr.alloc _ _).tr (agr_drewN _ _)
      exact ⟨⟨c + 1, by omega, by go_num, by rw [HS2E.out], Lib.hid (HR.out.tr hA), Lib.hid (by rw [HV2E.out]; exact HBP.out.grow hA)⟩, by simp [intOf]; omega⟩
    · have hce : c = P.length := by omega
      subst hce
      have g1 : ¬ ((P.length : Nat) : Int) < P.length := by omega
      rw [List.take_length] at HBP
      have hsl := HSEC.out P.length
      go_wp2_with fail
      exact HKA.out _ _ (ltrue_left r P (orTo (sec P) P.length) b3 bp ks kp ps w wr HALL.out.1 HALL.out.2 (HB.out.grow HR.out) (HG.out.tr HR.out) hsl (fun k hk => seen_bit HALL.out.1 HALL.out.2 hk) (HS.out.grow HR.out) HBP.out)

end Go.Proofs.Ytjlaoiimbhlafaa
