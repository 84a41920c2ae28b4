import Derived.Test.YtjlaoiimbhlafaaU4
import Derived.Deep.CutBlock
import Derived.Deep.DeepCutAuto
set_option linter.unusedVariables false
set_option linter.unusedSimpArgs false
namespace Go.Proofs.Ytjlaoiimbhlafaa
open Go.RowKit Go.Shelf

open MW
attribute [local go_sem] Oper.semAt_some run_store_func
attribute [local go_sem ↓] Go.wp_at_zero Go.wp_at_succ
attribute [local go_sem] guard55 guard24 neq55 eql24 neq24
attribute [-go_sem] run_eql_struct run_neq_struct
theorem flat9 : ∀ (l : List Pq.Th) (i : Nat) (t : Pq.Th), l[i]? = some t → ∀ (j : Nat) (x : Value), t.vals[j]? = some x → (l.flatMap Pq.Th.vals)[i * 9 + j]? = some x
  | [], i, t, h, j, x, hx => by cases h
  | a :: l, 0, t, h, j, x, hx => by
    cases h
    rw [List.flatMap_cons, List.getElem?_append_left (by
      have := (List.getElem?_eq_some_iff.1 hx).1
      omega)]
    simpa using hx
  | a :: l, i + 1, t, h, j, x, hx => by
    have := flat9 l i t h j x hx
    rw [List.flatMap_cons, List.getElem?_append_right (by show a.vals.length ≤ _; show 9 ≤ _; omega), show (i + 1) * 9 + j - a.vals.length = i * 9 + j by show (i + 1) * 9 + j - 9 = _; omega]
    exact this
theorem things_own {w : World} {base n : Nat} {v : Value} {l : List Pq.Th} (h : w.ownsRow base 76 9 v n (l.flatMap Pq.Th.vals)) (hn : n = l.length) (hl : l.length ≤ 1000) : Pq.ThingsAt l v w := by
  subst hn
  have h0 := h
  obtain ⟨-, h1⟩ := h
  rcases h1 with ⟨rfl, hn⟩ | ⟨g, cap, cur, rfl, hg, hb, -, -, -, ht⟩
  · exact ⟨hl, .inl ⟨List.eq_nil_of_length_eq_zero hn, rfl⟩⟩
  · refine ⟨hl, .inr ⟨g, 0, cap, rfl, (Array.getElem?_eq_some_iff.1 hb).1, fun i t hi => ?_⟩⟩
    have hbx : Box w g cur.toList 76 := by unfold Box; simpa using hb
    refine Pq.CellsFrom.mk fun j x hx => ?_
    have hc := flat9 l i t hi j x hx
    have hj : j < 9 := by have := (List.getElem?_eq_some_iff.1 hx).1; exact this
    have hil := (List.getElem?_eq_some_iff.1 hi).1
    rw [← ht, List.getElem?_take_of_lt (by omega)] at hc
    rw [Nat.zero_add]
    exact hbx.cell hc
theorem info76a : (Try.prog.info? 76).map (fun i => (i.zero, i.size, i.bytes)) = some (some (.agg #[.int .i64 0, .int .i64 0, .int .i64 0, .int .i64 0, .int .i64 0, .int .i64 0, .int .i64 0, .int .i64 0, .int .i64 0]), 9, 72) := by kernel_rfl
theorem box_news9 {W : World} {bn : Nat} {vs : List Value} {T : TypeId} (h : Box W bn vs T) : ∀ j u, vs[j]? = some u → W.cell? ((⟨bn, 0, none⟩ : Addr).add j) = some u := fun j u hj => by
  have hadd : (⟨bn, 0, none⟩ : Addr).add j = ⟨bn, j, none⟩ := by unfold Addr.add; split <;> simp_all
  rw [hadd]; exact h.cell hj
theorem one9 (t : Pq.Th) : ∀ u ∈ t.vals, u.oneCell' = true := by
  intro u hu
  unfold Pq.Th.vals at hu
  simp only [List.mem_cons, List.not_mem_nil, or_false] at hu
  rcases hu with rfl | rfl | rfl | rfl | rfl | rfl | rfl | rfl | rfl <;> rfl
set_option maxRecDepth 100000 in
set_option maxHeartbeats 8000000 in
theorem ltop_make (r : Rr) (P : List (Nat × Nat)) (b1 b10 kpp ks : Nat) (pp ps : Option Addr) (w wa wb : World) (hok : r.ok = true) (hP : P ∈ r.ways) (hpl : r.plate) (hB : Box wa b1 r.cs 26) (hG : Gr w wa) (hML : MksAt r.L r.lp wa) (hMR : MksAt r.R r.rp wa) (hPP : PrsIn (.slice pp P.length kpp) P wa) (hS : InsF ps r.L.length (fun j => r.lkd.surTo j r.lkd.nR) wa)
    (hGb : Gr wa wb) (h10 : wa.heap.size ≤ b10) (hBP : Box wb b10 [.int .i64 9000, .int .i64 9000, .int .i64 65, .int .i64 66, .int .i64 5, .int .i64 2000, .int .i64 100000, .slice none 0 0] 71) {s0 s2 s3 s4 s6 s7 s9 s11 s12 s13 s14 s15 s16 s17 s18 s19 s20 s21 s22 s23 s24 s25 s26 s27 s28 s29 s30 s31 s32 s33 s34 s35 s36 s37 s38 s39 s40 s41 s42 s43 s44 s45 s46 s47 s48 s49 s50 s51 s52 s53 s54 s55 s56 s57 s58 s59 s60 s61 s62 s63 s64 s65 s66 s67 s68 s69 s70 s71 s72 s73 s74 s75 s76 s77 s78 s79 s80 s81 s82 s83 s84 s85 s86 s87 s88 s89 s90 s91 s92 s93 s94 s95 s96 s97 s98 s99 s100 s101 s102 s103 s104 s105 s106 s107 s108 s109 s110 s111 s112 s113 s114 s115 s116 s117 s118 s119 s120 s121 s122 s123 s124 s125 s126 s127 s128 s129 s130 s131 s132 s133 s134 s135 s136 s137 s138 s139 s140 s141 s142 s143 s144 s145 s146 s147 s148 s149 s150 s151 s152 s153 s154 s155 s156 s157 s158 s159 s160 s161 s162 s163 s164 s165 s166 s167 s168 s169 s170 s171 s172 s173 s174 s175 s176 s177 s178 s179 s180 s181 s182 s183 s184 s185 s186 s187 s188 s189 s190 s191 s192 s193 s194 s195 s196 s197 s198 s199 s200 s201 s202 s203 s204 s205 s206 s207 s208 s209 s210 s211 s212 s213 s214 s215 s216 s217 s218 s219 s220 s221 s222 s223 s224 s225 s226 s227 s228 s229 s230 s231 s232 s233 s234 s235 s236 s237 s238 s239 s240 s241 s242 s243 s244 s245 s246 s247 s248 s249 s250 : Value} :
    (Code.snd13 (Code.snd13 (Code.snd13 (Code.snd13 (Code.snd13 (Code.snd13 (Code.snd13 (Code.snd13 (Try.f13.body.getD .skip))))))))).wp Try.prog (bodyPost Try.prog Try.f13 fun e w' => e = .returned (.bool true) ∧ Below w.heap.size w w') { tmps := #[s0, .pointer (some ⟨b1, 0, none⟩), s2, s3, s4, .slice pp P.length kpp, s6, s7, .slice ps r.L.length ks, s9, .pointer (some ⟨b10, 0, none⟩), s11, s12, s13, s14, s15, s16, s17, s18, s19, s20, s21, s22, s23, s24, s25, s26, s27, s28, s29, s30, s31, s32, s33, s34, s35, s36, s37, s38, s39, s40, s41, s42, s43, s44, s45, s46, s47, s48, s49, s50, s51, s52, s53, s54, s55, s56, s57, s58, s59, s60, s61, s62, s63, s64, s65, s66, s67, s68, s69, s70, s71, s72, s73, s74, s75, s76, s77, s78, s79, s80, s81, s82, s83, s84, s85, s86, s87, s88, s89, s90, s91, s92, s93, s94, s95, s96, s97, s98, s99, s100, s101, s102, s103, s104, s105, s106, s107, s108, s109, s110, s111, s112, s113, s114, s115, s116, s117, s118, s119, s120, s121, s122, s123, s124, s125, s126, s127, s128, s129, s130, s131, s132, s133, s134, s135, s136, s137, s138, s139, s140, s141, s142, s143, s144, s145, s146, s147, s148, s149, s150, s151, s152, s153, s154, s155, s156, s157, s158, s159, s160, s161, s162, s163, s164, s165, s166, s167, s168, s169, s170, s171, s172, s173, s174, s175, s176, s177, s178, s179, s180, s181, s182, s183, s184, s185, s186, s187, s188, s189, s190, s191, s192, s193, s194, s195, s196, s197, s198, s199, s200, s201, s202, s203, s204, s205, s206, s207, s208, s209, s210, s211, s212, s213, s214, s215, s216, s217, s218, s219, s220, s221, s222, s223, s224, s225, s226, s227, s228, s229, s230, s231, s232, s233, s234, s235, s236, s237, s238, s239, s240, s241, s242, s243, s244, s245, s246, s247, s248, s249, s250], defers := [] } wb := by
  conv => arg 2; whnf
  obtain ⟨p1, p2, p3, p4, -⟩ := Rr.ok_parts hok
  have hpl2 := way_len hP
  have HALL := Lib.hid (show (r.ok = true ∧ P ∈ r.ways ∧ r.plate) ∧ Box wa b1 r.cs 26 ∧ Gr w wa ∧ PrsIn (.slice pp P.length kpp) P wa ∧ InsF ps r.L.length (fun j => r.lkd.surTo j r.lkd.nR) wa from ⟨⟨hok, hP, hpl⟩, hB, hG, hPP, hS⟩)
  have HML := Lib.hid hML
  have HMR := Lib.hid hMR
  have HB := Lib.hid hB
  unfold Rr.cs at HB
  have HPT := Lib.hid (fun (c i k : Nat) (hx : P[c]? = some (i, k)) => show i < r.L.length ∧ k < r.R.length from by
    have hf := Rr.way_fit hP (List.mem_of_getElem? hx)
    exact ⟨hf.1, hf.2.1⟩)
  have HPO := Lib.hid (fun m hm => p3 m hm)
  have HPR := Lib.hid (fun m hm => p4 m hm)
  obtain ⟨pp', kpp', hpp, hPP⟩ := hPP
  cases hpp
  have HPP := Lib.hid hPP
  have HGB := Lib.hid hGb
  have HBP := Lib.hid hBP
  have hb10 := hBP.lt
  obtain ⟨i0, ii0, iz0, iz1, iz2⟩ := infoP info76a
  have II0 := Lib.hid ii0
  have IZ0 := Lib.hid iz0
  have IZ1 := Lib.hid iz1
  have IZ2 := Lib.hid iz2
  clear hok hP hpl hB hG hML hMR hPP hS hGb hBP p3 p4 ii0 iz0 iz1 iz2
  apply wp_seq_k
  intro KA hKA
  have HKA := Lib.hid hKA
  clear hKA
  go_wp2_with fail
  go_loopw [104] (fun t wr => ∃ (c : Nat) (tv : Value), c ≤ P.length ∧ t = .int .i64 c ∧ Hid (Gr wa wr) ∧ Hid (Box wr b10 [.int .i64 9000, .int .i64 9000, .int .i64 65, .int .i64 66, .int .i64 5, .int .i64 2000, .int .i64 100000, tv] 71) ∧ Hid (wr.ownsRow wb.heap.size 76 9 tv c (((P.map r.thg).take c).flatMap Pq.Th.vals)) ∧ wb.heap.size ≤ wr.heap.size) (fun t _ => (20 - intOf t).toNat)
  case atStart => exact ⟨0, _, Nat.zero_le _, rfl, HGB, HBP, Lib.hid (World.ownsRow_nil _ _ _ _), Nat.le_refl _⟩
  case round =>
    obtain ⟨c, tv, hc, rfl, HR, H10, HO, hsz⟩ := hrel
    by_cases hlt : c < P.length
    · have g1 : (c : Int) < P.length := by omega
      obtain ⟨⟨xi, xk⟩, hx⟩ : ∃ x, P[c]? = some x := ⟨_, List.getElem?_eq_getElem hlt⟩
      obtain ⟨x1, x2⟩ := HPT.out c xi xk hx
      obtain ⟨x, hxi⟩ : ∃ x, r.L[xi]? = some x := ⟨_, List.getElem?_eq_getElem x1⟩
      obtain ⟨y, hyk⟩ : ∃ y, r.R[xk]? = some y := ⟨_, List.getElem?_eq_getElem x2⟩
      obtain ⟨bq, oq, hq1, hq2, hq3, hq4⟩ := HPP.out c _ hx
      subst hq1
      dsimp only at hq3 hq4
      obtain ⟨bL, oL, hpL⟩ := mk_at HML.out hxi
      obtain ⟨bR, oR, hpR⟩ := mk_at HMR.out hyk
      have hTK : (((P.map r.thg).take (c + 1)).flatMap Pq.Th.vals) = (((P.map r.thg).take c).flatMap Pq.Th.vals) ++ [.int .i64 x.a, .int .i64 x.b, .int .i64 0, .int .i64 0, .int .i64 y.a, .int .i64 y.b, .int .i64 0, .int .i64 0, .int .i64 0] := by
        have hlt2 : c < (P.map r.thg).length := by simpa using hlt
        rw [List.take_succ_eq_append_getElem hlt2, List.flatMap_append]
        congr 1
        have he : (P.map r.thg)[c] = tth x y := by
          rw [List.getElem_map, (List.getElem?_eq_some_iff.1 hx).2, Rr.thg_at hxi hyk]
        rw [he]
        rfl
      have HTK := Lib.hid hTK
      obtain ⟨ptv, ctv, rfl⟩ := own_slice HO.out
      have n1 : ¬ (xi : Int) < 0 := by omega
      have n2 : ¬ (r.L.length : Int) ≤ xi := by omega
      have n3 : ¬ (xk : Int) < 0 := by omega
      have n4 : ¬ (r.R.length : Int) ≤ xk := by omega
      obtain ⟨hbc, hbf, hbz⟩ := bcell HR.out
      have q3 := (hbc _ _ hq2).trans hq3
      have q4 := (hbc _ _ hq2).trans hq4
      have ql := hbz _ hq2
      obtain ⟨r0, r1, r2, r3, r4⟩ := cells5 (HB.out.grow HR.out)
      have rl := (HB.out.grow HR.out).lt
      have HT := Lib.hid (Box.fresh wr [.int .i64 xi, .int .i64 xk] 55)
      clear hTK hbc hbf hbz hq2 hq3 hq4 HPT HPP
      go_upto_region 21 with fail
      have hga : Gr wr (wr.alloc (Obj.cells #[.int .i64 xi, .int .i64 xk] 55)) := Gr.alloc _ _
      have HR := Lib.hid (HR.out.tr hga)
      have H10 := Lib.hid (H10.out.grow hga)
      have HO := Lib.hid (own_gr HO.out hga)
      have hsz2 : wb.heap.size ≤ (wr.alloc (Obj.cells #[.int .i64 xi, .int .i64 xk] 55)).heap.size := Nat.le_trans hsz hga.size
      clear hga q3 q4 ql r0 r1 r2 r3 r4 rl hsz
      generalize hbt : wr.heap.size = bt at *
      generalize wr.alloc (Obj.cells #[.int .i64 xi, .int .i64 xk] 55) = wx at *
      clear hbt
      have HBx := Lib.hid (HB.out.grow HR.out)
      obtain ⟨r0, r1, r2, r3, r4⟩ := cells5 HBx.out
      have rl := HBx.out.lt
      obtain ⟨z0, z1, z2, z3, z4, z5, z6, z7⟩ := acells8 H10.out
      have zl := H10.out.lt
      obtain ⟨y0, y1, yf0, yf1, yl⟩ := HT.out.two
      obtain ⟨lL, k0, k1, k2, k3⟩ := mk_cells (HML.out.grow HR.out) hxi hpL
      obtain ⟨lR, j0, j1, j2, j3⟩ := mk_cells (HMR.out.grow HR.out) hyk hpR
      rw [hpL] at r0
      rw [hpR] at r1
      have gi : (xi : Int) < r.L.length := by omega
      have gk : (xk : Int) < r.R.length := by omega
      clear hx hxi hyk
      refine region2 20 ?_ ?_ ?_
      · kernel_rfl
      · kernel_rfl
      simp only [List.take_succ_cons, List.take_zero, List.drop_succ_cons, List.drop_zero]
      apply chain_eq (D := [(10, none)]) rfl (by kernel_rfl)
      · intro ρ W ⟨p1, p2, p3⟩ hG hF K hK; (try simp [FactsD] at hF); have ⟨hc, hf, hz⟩ := bcell (Gr.tr (Gr.drew _) hG); go_simp; exact hK _ (gives_val)
      apply chain_eq (D := [(132, some 0)]) rfl (by kernel_rfl)
      · intro ρ W ⟨p1, p2, p3⟩ hG hF K hK; (try simp [FactsD] at hF); have ⟨hc, hf, hz⟩ := bcell (Gr.tr (Gr.drew _) hG); go_simp; exact hK _ (gives_val)
      apply chain_eq (D := [(1, none)]) rfl (by kernel_rfl)
      · intro ρ W ⟨p1, p2, p3⟩ hG hF K hK; (try simp [FactsD] at hF); have ⟨hc, hf, hz⟩ := bcell (Gr.tr (Gr.drew _) hG); go_simp; exact hK _ (gives_val)
      apply chain_eq (D := [(134, some 0)]) rfl (by kernel_rfl)
      · intro ρ W ⟨p1, p2, p3⟩ hG hF K hK; (try simp [FactsD] at hF); have ⟨hc, hf, hz⟩ := bcell (Gr.tr (Gr.drew _) hG); go_simp; exact hK _ (gives_val)
      apply chain_eq (D := [(12, none)]) rfl (by kernel_rfl)
      · intro ρ W ⟨p1, p2, p3⟩ hG hF K hK; (try simp [FactsD] at hF); have ⟨hc, hf, hz⟩ := bcell (Gr.tr (Gr.drew _) hG); go_simp; exact hK _ (gives_val)
      apply chain_eq (D := [(136, some 0)]) rfl (by kernel_rfl)
      · intro ρ W ⟨p1, p2, p3⟩ hG hF K hK; (try simp [FactsD] at hF); have ⟨hc, hf, hz⟩ := bcell (Gr.tr (Gr.drew _) hG); go_simp; exact hK _ (gives_val)
      apply chain_eq (D := [(135, some 2), (137, some 0)]) rfl (by kernel_rfl)
      · intro ρ W ⟨p1, p2, p3⟩ hG hF K hK; (try simp [FactsD] at hF); have ⟨hc, hf, hz⟩ := bcell (Gr.tr (Gr.drew _) hG); go_simp; exact hK _ (gives_val)
      apply chain_eq (D := [(138, some 0)]) rfl (by kernel_rfl)
      · intro ρ W ⟨p1, p2, p3⟩ hG hF K hK; (try simp [FactsD] at hF); have ⟨hc, hf, hz⟩ := bcell (Gr.tr (Gr.drew _) hG); go_simp; exact hK _ (gives_val)
      apply chain_eq (D := [(139, some 0)]) rfl (by kernel_rfl)
      · intro ρ W ⟨p1, p2, p3⟩ hG hF K hK; (try simp [FactsD] at hF); have ⟨hc, hf, hz⟩ := bcell (Gr.tr (Gr.drew _) hG); go_simp; exact hK _ (gives_val)
      apply chain_eq (D := [(140, some 0)]) rfl (by kernel_rfl)
      · intro ρ W ⟨p1, p2, p3⟩ hG hF K hK; (try simp [FactsD] at hF); have ⟨hc, hf, hz⟩ := bcell (Gr.tr (Gr.drew _) hG); go_simp; exact hK _ (gives_val)
      apply chain_eq (D := [(1, none)]) rfl (by kernel_rfl)
      · intro ρ W ⟨p1, p2, p3⟩ hG hF K hK; (try simp [FactsD] at hF); have ⟨hc, hf, hz⟩ := bcell (Gr.tr (Gr.drew _) hG); go_simp; exact hK _ (gives_val)
      apply chain_eq (D := [(142, some 0)]) rfl (by kernel_rfl)
      · intro ρ W ⟨p1, p2, p3⟩ hG hF K hK; (try simp [FactsD] at hF); have ⟨hc, hf, hz⟩ := bcell (Gr.tr (Gr.drew _) hG); go_simp; exact hK _ (gives_val)
      apply chain_eq (D := [(12, none)]) rfl (by kernel_rfl)
      · intro ρ W ⟨p1, p2, p3⟩ hG hF K hK; (try simp [FactsD] at hF); have ⟨hc, hf, hz⟩ := bcell (Gr.tr (Gr.drew _) hG); go_simp; exact hK _ (gives_val)
      apply chain_eq (D := [(144, some 0)]) rfl (by kernel_rfl)
      · intro ρ W ⟨p1, p2, p3⟩ hG hF K hK; (try simp [FactsD] at hF); have ⟨hc, hf, hz⟩ := bcell (Gr.tr (Gr.drew _) hG); go_simp; exact hK _ (gives_val)
      apply chain_eq (D := [(143, some 2), (145, some 0)]) rfl (by kernel_rfl)
      · intro ρ W ⟨p1, p2, p3⟩ hG hF K hK; (try simp [FactsD] at hF); have ⟨hc, hf, hz⟩ := bcell (Gr.tr (Gr.drew _) hG); go_simp; exact hK _ (gives_val)
      apply chain_eq (D := [(146, some 0)]) rfl (by kernel_rfl)
      · intro ρ W ⟨p1, p2, p3⟩ hG hF K hK; (try simp [FactsD] at hF); have ⟨hc, hf, hz⟩ := bcell (Gr.tr (Gr.drew _) hG); go_simp; exact hK _ (gives_val)
      apply chain_eq (D := [(147, some 0)]) rfl (by kernel_rfl)
      · intro ρ W ⟨p1, p2, p3⟩ hG hF K hK; (try simp [FactsD] at hF); have ⟨hc, hf, hz⟩ := bcell (Gr.tr (Gr.drew _) hG); go_simp; exact hK _ (gives_val)
      apply chain_eq (D := [(148, some 0)]) rfl (by kernel_rfl)
      · intro ρ W ⟨p1, p2, p3⟩ hG hF K hK; (try simp [FactsD] at hF); have ⟨hc, hf, hz⟩ := bcell (Gr.tr (Gr.drew _) hG); go_simp; exact hK _ (gives_val)
      apply chain_eq (D := [(141, some 8), (149, some 0)]) rfl (by kernel_rfl)
      · intro ρ W ⟨p1, p2, p3⟩ hG hF K hK; (try simp [FactsD] at hF); have ⟨hc, hf, hz⟩ := bcell (Gr.tr (Gr.drew _) hG); go_simp; exact hK _ (gives_val)
      refine chain_any (V := (fun v W' => ∃ bn : Nat, v = .slice (some ⟨bn, 0, none⟩) 1 1 ∧ Box W' bn [.int .i64 x.a, .int .i64 x.b, .int .i64 0, .int .i64 0, .int .i64 y.a, .int .i64 y.b, .int .i64 0, .int .i64 0, .int .i64 0] 76)) (D := [(150, some 0)]) rfl (by kernel_rfl) (fun v W W' ⟨bn, h1, h2⟩ hg => ⟨bn, h1, h2.grow hg⟩) ?_ ?_
      · intro ρ W ⟨p1, p2, p3⟩ hG hF K hK; (try simp [FactsD] at hF); have ⟨hc, hf, hz⟩ := bcell (Gr.tr (Gr.drew _) hG); go_simp; exact hK _ (⟨⟨_, rfl, Box.fresh W [.int .i64 x.a, .int .i64 x.b, .int .i64 0, .int .i64 0, .int .i64 y.a, .int .i64 y.b, .int .i64 0, .int .i64 0, .int .i64 0] 76⟩, Gr.alloc _ _⟩)
      refine chain_done ?_
      intro vs W hG hV
      obtain ⟨e19, -, -, -, -, -, -, -, -, -, -, -, -, -, -, -, -, -, e1, -⟩ := hV
      simp only [Nat.reduceSub] at e1
      simp only [Nat.reduceSub] at e19
      simp only [lay, Act.put, List.getElem?_toArray, List.getElem?_cons_succ, List.getElem?_cons_zero, Option.bind_some, List.setIfInBounds_toArray, List.set_cons_succ, List.set_cons_zero]
      generalize vs 0 = v0
      generalize vs 1 = v1 at *
      generalize vs 2 = v2
      generalize vs 3 = v3
      generalize vs 4 = v4
      generalize vs 5 = v5
      generalize vs 6 = v6
      generalize vs 7 = v7
      generalize vs 8 = v8
      generalize vs 9 = v9
      generalize vs 10 = v10
      generalize vs 11 = v11
      generalize vs 12 = v12
      generalize vs 13 = v13
      generalize vs 14 = v14
      generalize vs 15 = v15
      generalize vs 16 = v16
      generalize vs 17 = v17
      generalize vs 18 = v18
      generalize vs 19 = v19 at *
      subst e1
      obtain ⟨hc, hf, hz⟩ := bcell hG
      obtain ⟨bn, rfl, hbn⟩ := e19
      have HGW := Lib.hid hG
      have HOW := Lib.hid (own_gr HO.out hG)
      have HNW := Lib.hid (box_news9 hbn)
      have h10w := (H10.out.grow hG)
      have l10 := h10w.lt
      have f10 := h10w.free 7
      have H10W := Lib.hid h10w
      have hszw : wb.heap.size ≤ W.heap.size := Nat.le_trans hsz2 hG.size
      have HON := Lib.hid (one9 (tth x y))
      unfold tth Pq.Th.vals at HON
      dsimp only at HON
      clear hbn hf hz hG h10w
      go_wp2_with (first | (at_builtin; refine wpList_append_lies _ rfl _ _ 69 rfl wb.heap.size 76 i0 _ 9 72 Try.underlying69 II0.out IZ0.out IZ1.out IZ2.out rfl (by decide) _ _ _ rfl HOW.out ⟨bn, 0, none⟩ 1 1 [.int .i64 x.a, .int .i64 x.b, .int .i64 0, .int .i64 0, .int .i64 y.a, .int .i64 y.b, .int .i64 0, .int .i64 0, .int .i64 0] rfl rfl HNW.out HON.out ?c1 ?c2 ?c3 ?c4 _ rfl ?_))
      case c2 => unfold maxLen; omega
      case c3 => omega
      intro g cap' w5 hown hgrow hat hlt5
      have hblk : ∀ q, some q = (Value.slice ptv c ctv).ownBlock → wb.heap.size ≤ q := fun q e => (own_blk HOW.out e).1
      have hab : wa.heap.size ≤ wb.heap.size := HGB.out.size
      have hW : Gr wa W := HR.out.tr HGW.out
      have HR5 := Lib.hid (show Gr wa w5 from (show Below wa.heap.size wa W from hW).grown hgrow hW.size (fun q e => by have := hblk q e.symm; omega))
      have H5 := Lib.hid (H10W.out.grown hgrow (fun e => by have := hblk _ e; omega))
      have hs5 : wb.heap.size ≤ w5.heap.size := Nat.le_trans hszw hgrow.size
      have HO5 := Lib.hid hown
      clear hown hgrow hat hlt5 hblk hW l10 f10
      have l10 := H5.out.lt
      have f10 := H5.out.free 7
      have c10 := H5.out.cell (i := 7) rfl
      go_wp2_with fail
      have hput := H5.out.put 7 (.slice (some ⟨g, 0, none⟩) (c + 1) cap')
      simp only [List.set_cons_zero, List.set_cons_succ] at hput
      exact ⟨⟨c + 1, .slice (some ⟨g, 0, none⟩) (c + 1) cap', by omega, by go_num, Lib.hid (Below.setCell HR5.out h10 _), Lib.hid hput, Lib.hid (by rw [HTK.out]; exact ownsRow_setCell_below HO5.out (a := ⟨b10, 7, none⟩) hb10 _), by simpa using hs5⟩, by simp [intOf]; omega⟩
    · have hce : c = P.length := by omega
      subst hce
      have g1 : ¬ ((P.length : Nat) : Int) < P.length := by omega
      rw [show (P.map r.thg).take P.length = P.map r.thg from List.take_of_length_le (by simp)] at HO
      go_wp2_with fail
      exact HKA.out _ _ (ltop_tell r P b1 b10 kpp ks _ ps tv w wr HALL.out.1.1 HALL.out.1.2.1 HALL.out.1.2.2 (HALL.out.2.1.grow HR.out) (HALL.out.2.2.1.tr HR.out) (HML.out.grow HR.out) (HMR.out.grow HR.out) (PrsIn.grow HALL.out.2.2.2.1 HR.out) (HALL.out.2.2.2.2.grow HR.out) H10.out (things_own HO.out (by simp) (by simp; omega)))

end Go.Proofs.Ytjlaoiimbhlafaa
