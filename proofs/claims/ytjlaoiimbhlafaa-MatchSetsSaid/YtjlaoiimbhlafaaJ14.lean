import Derived.Test.YtjlaoiimbhlafaaJ13
import Derived.Laws.StructEq
set_option linter.unusedVariables false
set_option linter.unusedSimpArgs false
namespace Go.Proofs.Ytjlaoiimbhlafaa
open Go.RowKit Go.Shelf

open MW
attribute [local go_sem] Oper.semAt_some run_store_func
attribute [local go_sem ↓] Go.wp_at_zero Go.wp_at_succ
theorem shS_snoc (l : List (List (Nat × Nat))) (q : List (Nat × Nat)) (i : Nat) (sh : Nat → Int × Int) : shS (l ++ [q]) i sh = if par q i = -1 then shS l i sh else shS l i sh ++ [sh (par q i).toNat] := by
  unfold shS
  rw [List.filter_append, List.map_append]
  by_cases h : par q i = -1
  · simp [h]
  · have : (par q i != -1) = true := by simpa using h
    simp [this, h]
/-- what is told of a mark's shift -/
def shAns (o : Option (Int × Int)) : Int × Int × Int := match o with
  | none => (0, 0, 4)
  | some q => (q.1, q.2, 0)
theorem Rr.shift_ref {r : Rr} (hok : r.ok = true) {i : Nat} (hi : i < r.L.length) (hz : r.ways ≠ []) : r.shift i = shAns (tks (shS r.ways i (r.shv i))) := by
  have h1 : r.lkd.all0 ≠ 0 := by rw [Rr.all0_is hok]; exact fun h => hz (List.length_eq_zero_iff.1 h)
  have hm : isM (i : Int) r.L.length = true := by unfold isM; simp; omega
  unfold Rr.shift
  rw [if_pos hok, hm, if_pos rfl, if_neg h1, Int.toNat_natCast, Rr.shE_is hok hi]
  cases tks (shS r.ways i (r.shv i)) with
  | none => rfl
  | some q => rfl
theorem tk_none (s : Int × Int) : tk none s = some s := rfl
set_option maxRecDepth 100000 in
set_option maxHeartbeats 8000000 in
theorem rshift_yes (r : Rr) (i : Nat) (w : World) (hl : MksAt r.L r.lp w) (hr : MksAt r.R r.rp w) (hok : r.ok = true) (hi : i < r.L.length) (hz : r.ways ≠ []) (hn : r.ways.length ≤ 1000000) :
    Calls Try.prog 31 #[r.val, .int .i64 i] w fun e w' => e = .returned (.tuple #[.agg #[.int .i64 (shAns (tks (shS r.ways i (r.shv i)))).1, .int .i64 (shAns (tks (shS r.ways i (r.shv i)))).2.1], .int .i64 (shAns (tks (shS r.ways i (r.shv i)))).2.2]) ∧ Below w.heap.size w w' := by
  have hm : isM (i : Int) r.L.length = true := by unfold isM; simp; omega
  obtain ⟨b1, b2, h3, h4, -⟩ := Rr.ok_parts hok
  have H57 := Lib.hid (show ∀ W, Gr w W → Calls Try.prog 57 #[r.val, .bool (decide (0 ≤ (i : Int)) && decide ((i : Int) ≤ (r.L.length : Int) - 1))] W fun e w' => (∃ o, e = .returned (.tuple #[o, .int .i64 0]) ∧ WsIn o r.ways w') ∧ Below W.heap.size W w' from fun W hg => by rw [isM_in, hm]; exact opn57_yes r W (hl.grow hg) (hr.grow hg) hok hz hn)
  have HLN := Lib.hid (fun q (hq : q ∈ r.ways) => show q.length ≤ 1000 ∧ ∀ x ∈ q, x.1 < 1000 ∧ x.2 < 1000 from ⟨by have := (Rr.way_len hok hq).1; omega, fun x hx => by have := (Rr.way_len hok hq).2 x hx; omega⟩)
  have H39A := Lib.hid (fun q (hq : q ∈ r.ways) (k : Nat) (hk : par q i = k) => show k < 10 ∧ (r.shv i k).1 ≤ (r.shv i k).2 ∧ ∀ W, Gr w W → Calls Try.prog 39 #[r.val, .int .i64 i, .int .i64 k] W fun e w' => e = .returned (.agg #[.int .i64 (r.shv i k).1, .int .i64 (r.shv i k).2]) ∧ Below W.heap.size W w' by
    have hw := mem_All_way.1 hq
    have hm := hw.2.1 (i, k) ((par_some hw.1).1 hk)
    obtain ⟨x, hx⟩ : ∃ x, r.L[i]? = some x := ⟨_, List.getElem?_eq_getElem hm.1⟩
    obtain ⟨y, hy⟩ : ∃ y, r.R[k]? = some y := ⟨_, List.getElem?_eq_getElem hm.2.1⟩
    refine ⟨Nat.lt_of_lt_of_le hm.2.1 b2, Rr.shv_le hm.2.2, fun W hg => ?_⟩
    have := shiftOf_any r i k x y W (hl.grow hg) (hr.grow hg) hx hy (Mrk.in_of_ok (h3 x (List.mem_of_getElem? hx))) (Mrk.in_of_ok (h4 y (List.mem_of_getElem? hy)))
    rw [Rr.shOf_shv hx hy hm.2.2] at this
    exact this)
  unfold Rr.val at H39A
  clear hl hr hok hm hz h3 h4
  generalize r.ways = ws at *
  have HB := Lib.hid ((Box.fresh w r.cs 26).grow (Gr.alloc _ (Obj.cells #[.int .i64 0, .int .i64 0] 24)))
  have HS4 := Lib.hid (show Box ((w.alloc (Obj.cells r.cs.toArray 26)).alloc (Obj.cells #[.int .i64 0, .int .i64 0] 24)) (w.heap.size + 1) [.int .i64 0, .int .i64 0] 24 by
    have := Box.fresh (w.alloc (Obj.cells r.cs.toArray 26)) [.int .i64 0, .int .i64 0] 24
    simpa using this)
  have HG := Lib.hid (show Gr w ((w.alloc (Obj.cells r.cs.toArray 26)).alloc (Obj.cells #[.int .i64 0, .int .i64 0] 24)) from (Gr.alloc _ _).tr (Gr.alloc _ _))
  unfold Rr.cs at HB HG HS4
  unfold Rr.val at *
  go_enter Try.func31, Try.ntmps31
  apply wp_seq_k
  intro K1 hK1
  have HK1 := Lib.hid hK1
  clear hK1
  go_wp2_with fail
  refine HK1.out _ _ ?_
  clear HK1
  have hL1000 : r.L.length ≤ 1000 := by omega
  generalize ((w.alloc (Obj.cells #[.slice r.lp r.L.length r.lc, .slice r.rp r.R.length r.rc, .int .i64 r.s, .int .i64 r.t, .int .i64 r.h] 26)).alloc (Obj.cells #[.int .i64 0, .int .i64 0] 24)) = w1 at *
  apply wp_seq_k
  intro K1 hK1
  have HK1 := Lib.hid hK1
  clear hK1
  go_wp2_with fail
  have H57 := Lib.hid (fun W (h : Gr w1 W) => H57.out W (HG.out.tr h))
  have hwx : IntKind.i64.wrap ((r.L.length : Int) - 1) = (r.L.length : Int) - 1 := IntWalk.i64_in _ (by omega)
  refine region2 13 ?_ ?_ ?_
  · kernel_rfl
  · kernel_rfl
  simp only [List.take_succ_cons, List.take_zero, List.drop_succ_cons, List.drop_zero]
  apply chain_eq (D := [(2, none)]) rfl (by kernel_rfl)
  · intro ρ W ⟨p1, p2, p3⟩ hG hF K hK; (try simp [FactsD] at hF); have ⟨hc, hf, hz⟩ := bcell (Gr.tr (Gr.drew _) hG); have HBW := HB.out.grow (Gr.tr (Gr.drew _) hG); obtain ⟨z0, z1, z2, z3, z4⟩ := cells5 HBW; have zl := HBW.lt; go_simp; exact hK _ (gives_val)
  apply chain_eq (D := [(1, none)]) rfl (by kernel_rfl)
  · intro ρ W ⟨p1, p2, p3⟩ hG hF K hK; (try simp [FactsD] at hF); have ⟨hc, hf, hz⟩ := bcell (Gr.tr (Gr.drew _) hG); go_simp; exact hK _ (gives_val)
  apply chain_eq (D := [(2, none)]) rfl (by kernel_rfl)
  · intro ρ W ⟨p1, p2, p3⟩ hG hF K hK; (try simp [FactsD] at hF); have ⟨hc, hf, hz⟩ := bcell (Gr.tr (Gr.drew _) hG); have HBW := HB.out.grow (Gr.tr (Gr.drew _) hG); obtain ⟨z0, z1, z2, z3, z4⟩ := cells5 HBW; have zl := HBW.lt; go_simp; exact hK _ (gives_val)
  apply chain_eq (D := [(16, some 0)]) rfl (by kernel_rfl)
  · intro ρ W ⟨p1, p2, p3⟩ hG hF K hK; (try simp [FactsD] at hF); have ⟨hc, hf, hz⟩ := bcell (Gr.tr (Gr.drew _) hG); have HBW := HB.out.grow (Gr.tr (Gr.drew _) hG); obtain ⟨z0, z1, z2, z3, z4⟩ := cells5 HBW; have zl := HBW.lt; go_simp; exact hK _ (gives_val)
  apply chain_eq (D := [(17, some 0)]) rfl (by kernel_rfl)
  · intro ρ W ⟨p1, p2, p3⟩ hG hF K hK; (try simp [FactsD] at hF); have ⟨hc, hf, hz⟩ := bcell (Gr.tr (Gr.drew _) hG); have HBW := HB.out.grow (Gr.tr (Gr.drew _) hG); obtain ⟨z0, z1, z2, z3, z4⟩ := cells5 HBW; have zl := HBW.lt; go_simp; exact hK _ (gives_val)
  apply chain_eq (D := [(18, some 0)]) rfl (by kernel_rfl)
  · intro ρ W ⟨p1, p2, p3⟩ hG hF K hK; (try simp [FactsD] at hF); have ⟨hc, hf, hz⟩ := bcell (Gr.tr (Gr.drew _) hG); go_simp; exact hK _ (gives_val)
  apply chain_eq (D := [(15, some 4), (19, some 0)]) rfl (by kernel_rfl)
  · intro ρ W ⟨p1, p2, p3⟩ hG hF K hK; (try simp [FactsD] at hF); have ⟨hc, hf, hz⟩ := bcell (Gr.tr (Gr.drew _) hG); go_simp; exact hK _ (gives_call (in72_any _ _ _ _))
  refine chain_any (V := (fun v W' => ∃ p c, v = .tuple #[.slice p (ws).length c, .int .i64 0] ∧ WsIn (.slice p (ws).length c) (ws) W')) (D := [(14, some 6), (20, some 0)]) rfl (by kernel_rfl) (fun v W W' ⟨p, c, h1, h2⟩ hg => ⟨p, c, h1, h2.grow hg⟩) ?_ ?_
  · intro ρ W ⟨p1, p2, p3⟩ hG hF K hK; (try simp [FactsD] at hF); have ⟨hc, hf, hz⟩ := bcell (Gr.tr (Gr.drew _) hG); go_simp; exact hK _ (gives_rel ((H57.out _ (Gr.tr (Gr.drew _) hG)).mono fun e W' ⟨⟨o, h1, h2⟩, h3⟩ => by obtain ⟨p, c, rfl, -⟩ := id h2; exact ⟨⟨_, h1, p, c, rfl, h2⟩, h3⟩))
  refine chain_any (V := (fun v W' => ∃ p c, v = .tuple #[.slice p (ws).length c, .int .i64 0] ∧ WsIn (.slice p (ws).length c) (ws) W')) (D := [(21, some 0)]) rfl (by kernel_rfl) (fun v W W' ⟨p, c, h1, h2⟩ hg => ⟨p, c, h1, h2.grow hg⟩) ?_ ?_
  · intro ρ W ⟨p1, p2, p3⟩ hG hF K hK; (try simp [FactsD] at hF); have ⟨hc, hf, hz⟩ := bcell (Gr.tr (Gr.drew _) hG); obtain ⟨p', c', hv, hw⟩ := hF; go_simp; exact hK _ (⟨⟨p', c', rfl, hw⟩, Gr.same _⟩)
  refine chain_any (V := (fun v W' => ∃ p c, v = .slice p (ws).length c ∧ WsIn (.slice p (ws).length c) (ws) W')) (D := [(13, some 0)]) rfl (by kernel_rfl) (fun v W W' ⟨p, c, h1, h2⟩ hg => ⟨p, c, h1, h2.grow hg⟩) ?_ ?_
  · intro ρ W ⟨p1, p2, p3⟩ hG hF K hK; (try simp [FactsD] at hF); have ⟨hc, hf, hz⟩ := bcell (Gr.tr (Gr.drew _) hG); obtain ⟨p', c', hv, hw⟩ := hF; go_simp; exact hK _ (⟨⟨p', c', rfl, hw⟩, Gr.same _⟩)
  apply chain_eq (D := [(13, some 1)]) rfl (by kernel_rfl)
  · intro ρ W ⟨p1, p2, p3⟩ hG hF K hK; (try simp [FactsD] at hF); have ⟨hc, hf, hz⟩ := bcell (Gr.tr (Gr.drew _) hG); obtain ⟨p', c', hv, hw⟩ := hF; go_simp; exact hK _ (gives_val)
  refine chain_any (V := (fun v W' => ∃ p c, v = .slice p (ws).length c ∧ WsIn (.slice p (ws).length c) (ws) W')) (D := [(22, some 1)]) rfl (by kernel_rfl) (fun v W W' ⟨p, c, h1, h2⟩ hg => ⟨p, c, h1, h2.grow hg⟩) ?_ ?_
  · intro ρ W ⟨p1, p2, p3⟩ hG hF K hK; (try simp [FactsD] at hF); have ⟨hc, hf, hz⟩ := bcell (Gr.tr (Gr.drew _) hG); obtain ⟨p', c', hv, hw⟩ := hF; go_simp; exact hK _ (⟨⟨p', c', rfl, hw⟩, Gr.same _⟩)
  apply chain_eq (D := [(23, some 1)]) rfl (by kernel_rfl)
  · intro ρ W ⟨p1, p2, p3⟩ hG hF K hK; (try simp [FactsD] at hF); have ⟨hc, hf, hz⟩ := bcell (Gr.tr (Gr.drew _) hG); go_simp; exact hK _ (gives_val)
  refine chain_done ?_
  intro vs W hG hV
  obtain ⟨e12, e11, -⟩ := hV
  simp only [Nat.reduceSub] at e11
  simp only [Nat.reduceSub] at e12
  simp only [lay, Act.put, List.getElem?_toArray, List.getElem?_cons_succ, List.getElem?_cons_zero, Option.bind_some, List.setIfInBounds_toArray, List.set_cons_succ, List.set_cons_zero]
  generalize vs 0 = v0
  generalize vs 1 = v1
  generalize vs 2 = v2
  generalize vs 3 = v3
  generalize vs 4 = v4
  generalize vs 5 = v5
  generalize vs 6 = v6
  generalize vs 7 = v7
  generalize vs 8 = v8
  generalize vs 9 = v9
  generalize vs 10 = v10
  generalize vs 11 = v11 at *
  generalize vs 12 = v12 at *
  subst e12
  obtain ⟨hc, hf, hz⟩ := bcell hG
  clear hwx
  obtain ⟨po, co, rfl, hwo⟩ := e11
  have HGW := Lib.hid (show Gr w1 W from hG)
  have HO := Lib.hid hwo
  have HS5 := Lib.hid (HS4.out.grow HGW.out)
  clear hG hwo hc hf hz HS4
  go_wp2_with fail
  refine HK1.out _ _ ?_
  clear HK1
  obtain ⟨y0, y1, yf0, yf1, yl⟩ := HS5.out.two
  have HGA := Lib.hid (HG.out.tr HGW.out)
  have HBA := Lib.hid (HB.out.grow HGW.out)
  clear HB HG
  go_wp2_with fail
  have HAT := Lib.hid (WsIn.at HO.out)
  have HX0 := Lib.hid (Box.fresh W [.int .i64 0, .int .i64 0] 24)
  have HW0 := Lib.hid (Gr.alloc W (Obj.cells #[.int .i64 0, .int .i64 0] 24))
  clear HGW HO y0 y1 yf0 yf1 yl
  generalize (W.alloc (Obj.cells #[.int .i64 0, .int .i64 0] 24)) = w3 at *
  obtain ⟨bS, hbS⟩ : ∃ bS, bS = W.heap.size := ⟨_, rfl⟩
  rw [← hbS] at HX0 ⊢
  have hgs : W.heap.size ≤ bS := by omega
  clear hbS
  go_loopw [10, 9] (fun t u wr => ∃ (c : Nat) (o : Option (Int × Int)), c ≤ ws.length ∧ t = .int .i64 c ∧ u = .bool o.isSome ∧ Hid (Box wr bS [.int .i64 (wLo o), .int .i64 (wHi o)] 24) ∧ Hid (o = tks (shS (ws.take c) i (r.shv i))) ∧ Hid (Gr W wr)) (fun t _ _ => ((ws.length : Int) - intOf t).toNat)
  case atStart => exact ⟨0, none, Nat.zero_le _, rfl, rfl, HX0, Lib.hid rfl, HW0⟩
  case round =>
    clear HX0 HW0
    obtain ⟨c, o, hc, rfl, rfl, HBS, HT, HR⟩ := hrel
    obtain ⟨r0, r1, r2, r3, r4⟩ := cells5 (HBA.out.grow HR.out)
    have rl := (HBA.out.grow HR.out).lt
    by_cases hlt : c < ws.length
    · have g1 : (c : Int) < ws.length := by omega
      obtain ⟨q, hq⟩ : ∃ q, ws[c]? = some q := ⟨_, List.getElem?_eq_getElem hlt⟩
      obtain ⟨bo, pq, cq, hpo, hbo, o1, o2⟩ := HAT.out _ HR.out c q hq
      cases hpo
      have hqm := HLN.out q (List.mem_of_getElem? hq)
      have H62 := Lib.hid (partner62_any _ q i _ o2 hqm.1 hqm.2)
      have HSN := Lib.hid (show tks (shS (ws.take (c + 1)) i (r.shv i)) = if par q i = -1 then o else tk o (r.shv i (par q i).toNat) by
        rw [take_succ hq, shS_snoc, HT.out]
        split
        · rfl
        · rw [tks_snoc])
      have HQM := Lib.hid (List.mem_of_getElem? hq)
      clear hq hqm o2
      by_cases hp : par q i = -1
      · rw [hp] at H62
        have HS2 := Lib.hid (show o = tks (shS (ws.take (c + 1)) i (r.shv i)) by rw [HSN.out, if_pos hp])
        clear hp HSN HQM
        go_wp2_with (first | (go_at_call 62; (with_reducible refine (H62.out).mono ?_); rintro e w6 ⟨rfl, hb⟩; have HR6 := Lib.hid (HR.out.tr hb); have HB6 := Lib.hid (HBS.out.grow hb); clear hb o1 r0 r1 r2 r3 r4 rl; obtain ⟨r0, r1, r2, r3, r4⟩ := cells5 (HBA.out.grow HR6.out); have rl := (HBA.out.grow HR6.out).lt; dsimp only))
        exact ⟨⟨c + 1, o, by omega, by go_num, rfl, HB6, HS2, HR6⟩, by simp [intOf]; omega⟩
      · obtain ⟨k, hk⟩ := par_nat hp
        have h39 := H39A.out q HQM.out k hk
        rw [hk] at H62
        have HS2 := Lib.hid (show tk o (r.shv i k) = tks (shS (ws.take (c + 1)) i (r.shv i)) by rw [HSN.out, if_neg hp, hk, Int.toNat_natCast])
        have hk10 := h39.1
        have hab := h39.2.1
        have H39 := Lib.hid (fun W' (h : Gr W W') => h39.2.2 W' (HGA.out.tr h))
        have e1 : ((k : Int) == -1) = false := by first | (simp; done) | (simp; omega)
        clear hp hk HSN HQM h39
        rcases hsv : r.shv i k with ⟨sa, sb⟩
        rw [hsv] at H39 hab HS2
        clear hsv
        dsimp only at H39 hab
        rcases o with - | ⟨a, b⟩
        · go_wp2_with (first | (go_at_call 62; (with_reducible refine (H62.out).mono ?_); rintro e w6 ⟨rfl, hb⟩; have HR6 := Lib.hid (HR.out.tr hb); have HB6 := Lib.hid (HBS.out.grow hb); clear hb o1 r0 r1 r2 r3 r4 rl; obtain ⟨r0, r1, r2, r3, r4⟩ := cells5 (HBA.out.grow HR6.out); have rl := (HBA.out.grow HR6.out).lt; dsimp only) | (go_at_call 39; (with_reducible refine (H39.out _ HR6.out).mono ?_); rintro e w7 ⟨rfl, hb⟩; have HR7 := Lib.hid (HR6.out.tr hb); have HB7 := Lib.hid (HB6.out.grow hb); clear hb r0 r1 r2 r3 r4 rl; obtain ⟨x0, x1, xf0, xf1, xl⟩ := (HB7.out.grow (Gr.alloc w7 (Obj.cells #[.int .i64 sa, .int .i64 sb] 24))).two; have hT := Box.fresh w7 [.int .i64 sa, .int .i64 sb] 24; obtain ⟨t0, t1, -, -, tl⟩ := hT.two; have hne := Nat.ne_of_lt HB7.out.lt; have hne2 := Ne.symm hne; clear hT; dsimp only))
          exact ⟨⟨c + 1, some (sa, sb), by omega, by go_num, rfl, Lib.hid (((((HB7.out.grow (Gr.alloc w7 (Obj.cells #[.int .i64 sa, .int .i64 sb] 24))).put 0 (.int .i64 sa)).put 1 (.int .i64 sb)).put 0 (.int .i64 sa)).put 1 (.int .i64 sb)), HS2, Lib.hid (((((HR7.out.tr (Gr.alloc w7 (Obj.cells #[.int .i64 sa, .int .i64 sb] 24))).stc2 hgs).stc2 hgs).stc2 hgs).stc2 hgs)⟩, by simp [intOf]; omega⟩
        · go_wp2_with (first | (go_at_call 62; (with_reducible refine (H62.out).mono ?_); rintro e w6 ⟨rfl, hb⟩; have HR6 := Lib.hid (HR.out.tr hb); have HB6 := Lib.hid (HBS.out.grow hb); clear hb o1 r0 r1 r2 r3 r4 rl; obtain ⟨r0, r1, r2, r3, r4⟩ := cells5 (HBA.out.grow HR6.out); have rl := (HBA.out.grow HR6.out).lt; dsimp only) | (go_at_call 39; (with_reducible refine (H39.out _ HR6.out).mono ?_); rintro e w7 ⟨rfl, hb⟩; have HR7 := Lib.hid (HR6.out.tr hb); have HB7 := Lib.hid (HB6.out.grow hb); clear hb r0 r1 r2 r3 r4 rl; obtain ⟨x0, x1, xf0, xf1, xl⟩ := (HB7.out.grow (Gr.alloc w7 (Obj.cells #[.int .i64 sa, .int .i64 sb] 24))).two; dsimp only))
          exact ⟨⟨c + 1, some ((if sa < a then sa else a), (if b < sb then sb else b)), by omega, by go_num, rfl, Lib.hid (((HB7.out.grow (Gr.alloc w7 (Obj.cells #[.int .i64 sa, .int .i64 sb] 24))).put 0 (.int .i64 (if sa < a then sa else a))).put 1 (.int .i64 (if b < sb then sb else b))), HS2, Lib.hid (((HR7.out.tr (Gr.alloc w7 (Obj.cells #[.int .i64 sa, .int .i64 sb] 24))).stc2 hgs).stc2 hgs)⟩, by simp [intOf]; omega⟩
    · have hcn : c = ws.length := by omega
      subst hcn
      rw [List.take_length] at HT
      have HS6 := Lib.hid (HS5.out.grow HR.out)
      obtain ⟨y0, y1, yf0, yf1, yl⟩ := HS6.out.two
      obtain ⟨x0, x1, xf0, xf1, xl⟩ := HBS.out.two
      rcases o with - | ⟨a, b⟩
      · go_wp2_with fail
        exact bodyPost_ret (v := .tuple #[.agg #[.int .i64 0, .int .i64 0], .int .i64 4]) (by simp [results, Try.f31, go_sem, wLo, wHi, *]) rfl ⟨by rw [← HT.out]; rfl, ((HGA.out.tr HR.out).stc2 (by omega)).stc2 (by omega)⟩
      · go_wp2_with fail
        exact bodyPost_ret (v := .tuple #[.agg #[.int .i64 a, .int .i64 b], .int .i64 0]) (by simp [results, Try.f31, go_sem, wLo, wHi, *]) rfl ⟨by rw [← HT.out]; rfl, ((HGA.out.tr HR.out).stc2 (by omega)).stc2 (by omega)⟩

end Go.Proofs.Ytjlaoiimbhlafaa
