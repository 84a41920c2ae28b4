import Derived.Test.YtjlaoiimbhlafaaJ8
import Derived.Laws.StructEq
set_option linter.unusedVariables false
set_option linter.unusedSimpArgs false
namespace Go.Proofs.Ytjlaoiimbhlafaa
open Go.RowKit Go.Shelf

open MW
attribute [local go_sem] Oper.semAt_some run_store_func
attribute [local go_sem ↓] Go.wp_at_zero Go.wp_at_succ
theorem Gr.stc2 {w w' : World} {b i : Nat} {x : Value} (h : Gr w w') (hb : w.heap.size ≤ b) : Gr w (w'.setCell ⟨b, i, none⟩ x) := Below.setCell h hb _
theorem canW_snoc (i : Nat) (x : Nat × Nat) : ∀ (p : List (Nat × Nat)) (s : Nat), canW i (p ++ [x]) s = if x.1 = i then wi (canW i p s) x.2 else canW i p s
  | [], s => rfl
  | y :: p, s => canW_snoc i x p _
theorem canS_snoc (i : Nat) (p : List (Nat × Nat)) (l : List (List (Nat × Nat))) (s : Nat) : canS i (l ++ [p]) s = canW i p (canS i l s) := by
  unfold canS
  rw [List.foldl_append]
  rfl
theorem wi_lt {s n : Nat} (hs : s < 1024) (hn : n < 10) : wi s n < 1024 := by
  rw [wi_or]
  exact Nat.or_lt_two_pow (n := 10) hs (Nat.pow_lt_pow_right (by omega) hn)
theorem canW_lt (i : Nat) : ∀ (p : List (Nat × Nat)) (s : Nat), s < 1024 → (∀ x ∈ p, x.2 < 10) → canW i p s < 1024
  | [], s, hs, _ => hs
  | x :: p, s, hs, h => by
    refine canW_lt i p _ ?_ fun y hy => h y (List.mem_cons_of_mem _ hy)
    show (if x.1 = i then wi s x.2 else s) < 1024
    split
    · exact wi_lt hs (h x (by simp))
    · exact hs
theorem canS_lt (i : Nat) : ∀ (l : List (List (Nat × Nat))) (s : Nat), s < 1024 → (∀ p ∈ l, ∀ x ∈ p, x.2 < 10) → canS i l s < 1024
  | [], s, hs, _ => hs
  | p :: l, s, hs, h => canS_lt i l _ (canW_lt i p s hs (h p (by simp))) fun q hq => h q (List.mem_cons_of_mem _ hq)
def fvs (S : Nat → Nat) (n : Nat) : List Value := (List.range n).map fun j => .int .i64 (S j)
theorem fvs_at (S : Nat → Nat) {n j : Nat} (h : j < n) : (fvs S n)[j]? = some (.int .i64 (S j)) := by unfold fvs; simp [h]
theorem fvs_len (S : Nat → Nat) (n : Nat) : (fvs S n).length = n := by unfold fvs; simp
theorem fvs_set (S T : Nat → Nat) {a n : Nat} (h : a < n) (hT : ∀ j, j < n → j ≠ a → T j = S j) : (fvs S n).set a (.int .i64 (T a)) = fvs T n := by
  apply List.ext_getElem?
  intro j
  rw [List.getElem?_set]
  by_cases hij : a = j
  · subst hij
    rw [if_pos rfl, if_pos (by rw [fvs_len]; exact h), fvs_at T h]
  · rw [if_neg hij]
    by_cases hj : j < n
    · rw [fvs_at S hj, fvs_at T hj, hT j hj (fun e => hij e.symm)]
    · unfold fvs; simp [hj]
theorem fvs_zero (n : Nat) : (madeCells #[Value.int .i64 0] n) = (fvs (fun _ => 0) n).toArray := by
  rw [vls_zero (fun _ => 0) n]
  congr 1
theorem InsF.of_box {w : World} {g n : Nat} {S : Nat → Nat} (h : Box w g (fvs S n) 3) : InsF (some ⟨g, 0, none⟩) n (fun j => (S j : Int)) w := fun i hi => ⟨g, 0, rfl, h.lt, by rw [Nat.zero_add]; exact h.cell (fvs_at S hi)⟩
set_option maxRecDepth 100000 in
set_option maxHeartbeats 8000000 in
theorem rcan_no (r : Rr) (w : World) (hl : MksAt r.L r.lp w) (hr : MksAt r.R r.rp w) (hok : r.ok = false) :
    Calls Try.prog 24 #[r.val] w fun e w' => e = .returned (.tuple #[.slice none 0 0, .int .i64 1]) ∧ Below w.heap.size w w' := by
  have H57 := Lib.hid (fun W (hg : Gr w W) => opn57_no r W (hl.grow hg) (hr.grow hg) true hok)
  clear hl hr hok
  have HB := Lib.hid (Box.fresh w r.cs 26)
  have HG := Lib.hid (show Gr w (w.alloc (Obj.cells r.cs.toArray 26)) from Gr.alloc _ _)
  unfold Rr.cs at HB HG
  unfold Rr.val at *
  obtain ⟨r0, r1, r2, r3, r4⟩ := cells5 HB.out
  have rl := HB.out.lt
  go_enter Try.func24, Try.ntmps24
  go_wp2_with (first | (go_at_call 57; (with_reducible refine (H57.out _ (by first | exact HG.out | exact Gr.tr HG.out (Gr.alloc _ _) | exact Gr.tr HG.out ((Gr.alloc _ _).tr (Gr.alloc _ _)) | exact Gr.tr HG.out (Gr.drew _))).mono ?_); rintro e wo ⟨⟨o, rfl, ho⟩, hb⟩; have HG := Lib.hid (show Gr w wo from by first | exact Gr.tr HG.out hb | exact Gr.tr (HG.out.tr (Gr.alloc _ _)) hb | exact Gr.tr (HG.out.tr ((Gr.alloc _ _).tr (Gr.alloc _ _))) hb | exact Gr.tr (HG.out.tr (Gr.drew _)) hb); have HB := Lib.hid (HB.out.grow (by first | exact hb | exact Gr.tr (Gr.alloc _ _) hb | exact Gr.tr ((Gr.alloc _ _).tr (Gr.alloc _ _)) hb | exact Gr.tr (Gr.drew _) hb)); clear r0 r1 r2 r3 r4 rl; obtain ⟨r0, r1, r2, r3, r4⟩ := cells5 HB.out; have rl := HB.out.lt; obtain ⟨po, co, rfl, -⟩ := id ho; have HO := Lib.hid ho; clear ho; dsimp only; clear hb))
  exact bodyPost_ret (v := .tuple #[.slice none 0 0, .int .i64 1]) (by simp [results, Try.f24, go_sem]) rfl ⟨rfl, HG.out⟩
set_option maxRecDepth 100000 in
set_option maxHeartbeats 8000000 in
theorem rcan_zero (r : Rr) (w : World) (hl : MksAt r.L r.lp w) (hr : MksAt r.R r.rp w) (hok : r.ok = true) (hz : r.ways = []) :
    Calls Try.prog 24 #[r.val] w fun e w' => e = .returned (.tuple #[.slice none 0 0, .int .i64 4]) ∧ Below w.heap.size w w' := by
  have H57 := Lib.hid (fun W (hg : Gr w W) => opn57_zero r W (hl.grow hg) (hr.grow hg) hok hz)
  clear hl hr hok hz
  have HB := Lib.hid (Box.fresh w r.cs 26)
  have HG := Lib.hid (show Gr w (w.alloc (Obj.cells r.cs.toArray 26)) from Gr.alloc _ _)
  unfold Rr.cs at HB HG
  unfold Rr.val at *
  obtain ⟨r0, r1, r2, r3, r4⟩ := cells5 HB.out
  have rl := HB.out.lt
  go_enter Try.func24, Try.ntmps24
  go_wp2_with (first | (go_at_call 57; (with_reducible refine (H57.out _ (by first | exact HG.out | exact Gr.tr HG.out (Gr.alloc _ _) | exact Gr.tr HG.out ((Gr.alloc _ _).tr (Gr.alloc _ _)) | exact Gr.tr HG.out (Gr.drew _))).mono ?_); rintro e wo ⟨⟨o, rfl, ho⟩, hb⟩; have HG := Lib.hid (show Gr w wo from by first | exact Gr.tr HG.out hb | exact Gr.tr (HG.out.tr (Gr.alloc _ _)) hb | exact Gr.tr (HG.out.tr ((Gr.alloc _ _).tr (Gr.alloc _ _))) hb | exact Gr.tr (HG.out.tr (Gr.drew _)) hb); have HB := Lib.hid (HB.out.grow (by first | exact hb | exact Gr.tr (Gr.alloc _ _) hb | exact Gr.tr ((Gr.alloc _ _).tr (Gr.alloc _ _)) hb | exact Gr.tr (Gr.drew _) hb)); clear r0 r1 r2 r3 r4 rl; obtain ⟨r0, r1, r2, r3, r4⟩ := cells5 HB.out; have rl := HB.out.lt; obtain ⟨po, co, rfl, -⟩ := id ho; have HO := Lib.hid ho; clear ho; dsimp only; clear hb))
  exact bodyPost_ret (v := .tuple #[.slice none 0 0, .int .i64 4]) (by simp [results, Try.f24, go_sem]) rfl ⟨rfl, HG.out⟩
set_option maxRecDepth 100000 in
set_option maxHeartbeats 8000000 in
theorem rcan_yes (r : Rr) (w : World) (hl : MksAt r.L r.lp w) (hr : MksAt r.R r.rp w) (hok : r.ok = true) (hz : r.ways ≠ []) (hn : r.ways.length ≤ 1000000) :
    Calls Try.prog 24 #[r.val] w fun e w' => (∃ p k, e = .returned (.tuple #[.slice p r.L.length k, .int .i64 0]) ∧ InsF p r.L.length (fun j => (canS j r.ways 0 : Int)) w') ∧ Below w.heap.size w w' := by
  obtain ⟨b1, b2, -⟩ := Rr.ok_parts hok
  have H57 := Lib.hid (fun W (hg : Gr w W) => opn57_yes r W (hl.grow hg) (hr.grow hg) hok hz hn)
  have HLN := Lib.hid (fun q (hq : q ∈ r.ways) => Rr.way_len hok hq)
  clear hl hr hok hz
  generalize r.ways = ws at *
  obtain ⟨i0, ii0, iz0, iz1, iz2⟩ := infoP info3r
  have II0 := Lib.hid ii0
  have IZ0 := Lib.hid iz0
  have IZ1 := Lib.hid iz1
  have hby : i0.bytes * r.L.length ≤ 281474976710656 := by rw [iz2]; omega
  have hb63 : r.L.length ≤ 9223372036854775807 := by omega
  clear ii0 iz0 iz1 iz2
  have HB := Lib.hid (Box.fresh w r.cs 26)
  have HG := Lib.hid (show Gr w (w.alloc (Obj.cells r.cs.toArray 26)) from Gr.alloc _ _)
  unfold Rr.cs at HB HG
  unfold Rr.val at *
  obtain ⟨r0, r1, r2, r3, r4⟩ := cells5 HB.out
  have rl := HB.out.lt
  go_enter Try.func24, Try.ntmps24
  apply wp_seq_k
  intro K1 hK1
  have HK1 := Lib.hid hK1
  clear hK1
  go_wp2_with fail
  refine HK1.out _ _ ?_
  clear HK1
  apply wp_seq_k
  intro K1 hK1
  have HK1 := Lib.hid hK1
  clear hK1
  go_wp2_with (first | (go_at_call 57; (with_reducible refine (H57.out _ (by first | exact HG.out | exact Gr.tr HG.out (Gr.alloc _ _) | exact Gr.tr HG.out ((Gr.alloc _ _).tr (Gr.alloc _ _)) | exact Gr.tr HG.out (Gr.drew _))).mono ?_); rintro e wo ⟨⟨o, rfl, ho⟩, hb⟩; have HG := Lib.hid (show Gr w wo from by first | exact Gr.tr HG.out hb | exact Gr.tr (HG.out.tr (Gr.alloc _ _)) hb | exact Gr.tr (HG.out.tr ((Gr.alloc _ _).tr (Gr.alloc _ _))) hb | exact Gr.tr (HG.out.tr (Gr.drew _)) hb); have HB := Lib.hid (HB.out.grow (by first | exact hb | exact Gr.tr (Gr.alloc _ _) hb | exact Gr.tr ((Gr.alloc _ _).tr (Gr.alloc _ _)) hb | exact Gr.tr (Gr.drew _) hb)); clear r0 r1 r2 r3 r4 rl; obtain ⟨r0, r1, r2, r3, r4⟩ := cells5 HB.out; have rl := HB.out.lt; obtain ⟨po, co, rfl, -⟩ := id ho; have HO := Lib.hid ho; clear ho; dsimp only; clear hb))
  refine HK1.out _ _ ?_
  clear HK1
  go_wp2_with (first | (at_make; refine wpList_make_row _ rfl _ _ 39 rfl 3 i0 (.int .i64 0) Try.underlying39 II0.out IZ0.out IZ1.out rfl .i64 .i64 r.L.length rfl rfl hby hb63 ?_))
  have HAT0 := Lib.hid (WsIn.at HO.out)
  rw [fvs_zero]
  have HX0 := Lib.hid (Box.fresh wo (fvs (fun _ => 0) r.L.length) 3)
  have HW0 := Lib.hid (Gr.alloc wo (Obj.cells (fvs (fun _ => 0) r.L.length).toArray 3))
  have HGO := Lib.hid HG.out
  clear r0 r1 r2 r3 r4 rl HB
  generalize wo.alloc (Obj.cells (fvs (fun _ => 0) r.L.length).toArray 3) = w3 at *
  have hgo : wo.heap.size ≤ wo.heap.size := Nat.le_refl _
  obtain ⟨w2, hw2⟩ : ∃ w2, w2 = wo := ⟨_, rfl⟩
  rw [← hw2] at HAT0 HX0 HW0 HGO ⊢
  obtain ⟨g, hgg⟩ : ∃ g, g = w2.heap.size := ⟨_, rfl⟩
  rw [← hgg] at HX0 ⊢
  have hgs : w2.heap.size ≤ g := by omega
  clear hgo hw2 hgg HO HG
  go_loopw [7] (fun t wr => ∃ c : Nat, c ≤ ws.length ∧ t = .int .i64 c ∧ Hid (Gr w2 wr) ∧ Hid (Box wr g (fvs (fun j => canS j (ws.take c) 0) r.L.length) 3)) (fun t _ => ((ws.length : Int) - intOf t).toNat)
  case atStart => exact ⟨0, Nat.zero_le _, rfl, HW0, HX0⟩
  case round =>
    clear HX0 HW0
    obtain ⟨c, hc, rfl, HR, HS⟩ := hrel
    by_cases hlt : c < ws.length
    · have g1 : (c : Int) < ws.length := by omega
      obtain ⟨q, hq⟩ : ∃ q, ws[c]? = some q := ⟨_, List.getElem?_eq_getElem hlt⟩
      have hqm := List.mem_of_getElem? hq
      have HAQ := Lib.hid (fun W (h : Gr w2 W) => HAT0.out W h c q hq)
      have HQL := Lib.hid (HLN.out q hqm)
      have HTK := Lib.hid (take_succ hq)
      have hql := HQL.out.1
      have HC0 := Lib.hid (fun j => canS_lt j (ws.take c) 0 (by omega) fun p hp x hx => Nat.lt_of_lt_of_le ((HLN.out p (List.mem_of_mem_take hp)).2 x hx).2 b2)
      clear hq hqm
      go_wp2_with fail
      go_loopw [8] (fun t wr => ∃ d : Nat, d ≤ q.length ∧ t = .int .i64 d ∧ Hid (Gr w2 wr) ∧ Hid (Box wr g (fvs (fun j => canW j (q.take d) (canS j (ws.take c) 0)) r.L.length) 3)) (fun t _ => (20 - intOf t).toNat)
      case atStart => exact ⟨0, Nat.zero_le _, rfl, HR, HS⟩
      case round =>
        clear HR HS
        obtain ⟨d, hd, rfl, HR, HS⟩ := hrel
        obtain ⟨bo, pq, cq, hpo, hbo, o1, o2⟩ := HAQ.out _ HR.out
        cases hpo
        have HPQ := Lib.hid (PrsIn.at2 o2)
        clear o2
        by_cases hld : d < q.length
        · have g2 : (d : Int) < q.length := by omega
          obtain ⟨x, hx⟩ : ∃ x, q[d]? = some x := ⟨_, List.getElem?_eq_getElem hld⟩
          have hxm := HQL.out.2 x (List.mem_of_getElem? hx)
          obtain ⟨bp, op, hpp, hbp, x1, x2⟩ := HPQ.out _ (Gr.same _) d x hx
          cases hpp
          have HXK := Lib.hid (take_succ hx)
          clear hx
          go_wp2_with fail
          have HT := Lib.hid (show (fun j => canW j (q.take (d + 1)) (canS j (ws.take c) 0)) = fun j => if x.1 = j then wi (canW j (q.take d) (canS j (ws.take c) 0)) x.2 else canW j (q.take d) (canS j (ws.take c) 0) by
            funext j
            rw [HXK.out, canW_snoc])
          have hsv := canW_lt x.1 (q.take d) _ (HC0.out x.1) fun y hy => Nat.lt_of_lt_of_le (HQL.out.2 y (List.mem_of_mem_take hy)).2 b2
          obtain ⟨T', hTP⟩ : ∃ T' : Nat → Nat, T' = fun j => canW j (q.take (d + 1)) (canS j (ws.take c) 0) := ⟨_, rfl⟩
          rw [← hTP] at HT
          have HTP := Lib.hid hTP
          clear hTP
          obtain ⟨T, hTT⟩ : ∃ T : Nat → Nat, T = fun j => canW j (q.take d) (canS j (ws.take c) 0) := ⟨_, rfl⟩
          have HTX := Lib.hid (show canW x.1 (q.take d) (canS x.1 (ws.take c) 0) = T x.1 by rw [hTT])
          rw [← hTT] at HS
          have HT2 := Lib.hid (show ∀ j, T' j = if x.1 = j then wi (T j) x.2 else T j by
            intro j
            rw [HT.out, hTT])
          rw [HTX.out] at hsv
          have HW := Lib.hid (fun W => with60_any (T x.1) x.2 W (by omega) (by omega))
          have HBX := Lib.hid (Box.fresh wr [.int .i64 x.1, .int .i64 x.2] 55)
          have HSX := Lib.hid (HS.out.grow (Gr.alloc wr (Obj.cells #[.int .i64 x.1, .int .i64 x.2] 55)))
          have HSA := Lib.hid (fvs_at T hxm.1)
          have HR7 := Lib.hid (HR.out.tr (Gr.alloc wr (Obj.cells #[.int .i64 x.1, .int .i64 x.2] 55)))
          have hx1 : (x.1 : Int) < r.L.length := by omega
          clear HT hTT HTX HS x1 x2 o1 hbp hbo
          generalize wr.alloc (Obj.cells #[.int .i64 x.1, .int .i64 x.2] 55) = wa at *
          generalize wr.heap.size = bw at *
          have HSV : ∃ sv, sv = T x.1 := ⟨_, rfl⟩
          obtain ⟨sv, hsve⟩ := HSV
          rw [← hsve] at hsv HW HSA
          have HSVE := Lib.hid hsve
          clear hsve
          go_wp2_with fail
          refine region2 12 ?_ ?_ ?_
          · kernel_rfl
          · kernel_rfl
          simp only [List.take_succ_cons, List.take_zero, List.drop_succ_cons, List.drop_zero]
          apply chain_eq (D := [(6, none)]) rfl (by kernel_rfl)
          · intro ρ W ⟨p1, p2, p3⟩ hG hF K hK; (try simp [FactsD] at hF); have ⟨hc, hf, hz⟩ := bcell (Gr.tr (Gr.drew _) hG); go_simp; exact hK _ (gives_val)
          apply chain_eq (D := [(9, none)]) rfl (by kernel_rfl)
          · intro ρ W ⟨p1, p2, p3⟩ hG hF K hK; (try simp [FactsD] at hF); have ⟨hc, hf, hz⟩ := bcell (Gr.tr (Gr.drew _) hG); have HBW := HBX.out.grow (Gr.tr (Gr.drew _) hG); have z0 := HBW.cell (i := 0) rfl; have z1 := HBW.cell (i := 1) rfl; have zl := HBW.lt; go_simp; exact hK _ (gives_val)
          apply chain_eq (D := [(45, some 0)]) rfl (by kernel_rfl)
          · intro ρ W ⟨p1, p2, p3⟩ hG hF K hK; (try simp [FactsD] at hF); have ⟨hc, hf, hz⟩ := bcell (Gr.tr (Gr.drew _) hG); have HBW := HBX.out.grow (Gr.tr (Gr.drew _) hG); have z0 := HBW.cell (i := 0) rfl; have z1 := HBW.cell (i := 1) rfl; have zl := HBW.lt; go_simp; exact hK _ (gives_val)
          apply chain_eq (D := [(6, none)]) rfl (by kernel_rfl)
          · intro ρ W ⟨p1, p2, p3⟩ hG hF K hK; (try simp [FactsD] at hF); have ⟨hc, hf, hz⟩ := bcell (Gr.tr (Gr.drew _) hG); go_simp; exact hK _ (gives_val)
          apply chain_eq (D := [(9, none)]) rfl (by kernel_rfl)
          · intro ρ W ⟨p1, p2, p3⟩ hG hF K hK; (try simp [FactsD] at hF); have ⟨hc, hf, hz⟩ := bcell (Gr.tr (Gr.drew _) hG); have HBW := HBX.out.grow (Gr.tr (Gr.drew _) hG); have z0 := HBW.cell (i := 0) rfl; have z1 := HBW.cell (i := 1) rfl; have zl := HBW.lt; go_simp; exact hK _ (gives_val)
          apply chain_eq (D := [(48, some 0)]) rfl (by kernel_rfl)
          · intro ρ W ⟨p1, p2, p3⟩ hG hF K hK; (try simp [FactsD] at hF); have ⟨hc, hf, hz⟩ := bcell (Gr.tr (Gr.drew _) hG); have HBW := HBX.out.grow (Gr.tr (Gr.drew _) hG); have z0 := HBW.cell (i := 0) rfl; have z1 := HBW.cell (i := 1) rfl; have zl := HBW.lt; go_simp; exact hK _ (gives_val)
          apply chain_eq (D := [(47, some 2), (49, some 0)]) rfl (by kernel_rfl)
          · intro ρ W ⟨p1, p2, p3⟩ hG hF K hK; (try simp [FactsD] at hF); have ⟨hc, hf, hz⟩ := bcell (Gr.tr (Gr.drew _) hG); have HSW := HSX.out.grow (Gr.tr (Gr.drew _) hG); have y0 := HSW.cell (HSA.out); have yl := HSW.lt; go_simp; exact hK _ (gives_val)
          apply chain_eq (D := [(50, some 0)]) rfl (by kernel_rfl)
          · intro ρ W ⟨p1, p2, p3⟩ hG hF K hK; (try simp [FactsD] at hF); have ⟨hc, hf, hz⟩ := bcell (Gr.tr (Gr.drew _) hG); have HSW := HSX.out.grow (Gr.tr (Gr.drew _) hG); have y0 := HSW.cell (HSA.out); have yl := HSW.lt; go_simp; exact hK _ (gives_val)
          apply chain_eq (D := [(9, none)]) rfl (by kernel_rfl)
          · intro ρ W ⟨p1, p2, p3⟩ hG hF K hK; (try simp [FactsD] at hF); have ⟨hc, hf, hz⟩ := bcell (Gr.tr (Gr.drew _) hG); have HBW := HBX.out.grow (Gr.tr (Gr.drew _) hG); have z0 := HBW.cell (i := 0) rfl; have z1 := HBW.cell (i := 1) rfl; have zl := HBW.lt; go_simp; exact hK _ (gives_val)
          apply chain_eq (D := [(52, some 0)]) rfl (by kernel_rfl)
          · intro ρ W ⟨p1, p2, p3⟩ hG hF K hK; (try simp [FactsD] at hF); have ⟨hc, hf, hz⟩ := bcell (Gr.tr (Gr.drew _) hG); have HBW := HBX.out.grow (Gr.tr (Gr.drew _) hG); have z0 := HBW.cell (i := 0) rfl; have z1 := HBW.cell (i := 1) rfl; have zl := HBW.lt; go_simp; exact hK _ (gives_val)
          apply chain_eq (D := [(51, some 2), (53, some 0)]) rfl (by kernel_rfl)
          · intro ρ W ⟨p1, p2, p3⟩ hG hF K hK; (try simp [FactsD] at hF); have ⟨hc, hf, hz⟩ := bcell (Gr.tr (Gr.drew _) hG); go_simp; exact hK _ (gives_call (HW.out _))
          apply chain_eq (D := [(44, some 10), (46, some 8)]) rfl (by kernel_rfl)
          · intro ρ W ⟨p1, p2, p3⟩ hG hF K hK; (try simp [FactsD] at hF); have ⟨hc, hf, hz⟩ := bcell (Gr.tr (Gr.drew _) hG); have HSW := HSX.out.grow (Gr.tr (Gr.drew _) hG); have y0 := HSW.cell (HSA.out); have yl := HSW.lt; go_simp; exact hK _ (gives_val)
          refine chain_done ?_
          intro vs W hG hV
          obtain ⟨e11, e10, e9, e8, e7, e6, e5, e4, e3, e2, e1, e0, -⟩ := hV
          simp only [Nat.reduceSub] at e0
          simp only [Nat.reduceSub] at e1
          simp only [Nat.reduceSub] at e2
          simp only [Nat.reduceSub] at e3
          simp only [Nat.reduceSub] at e4
          simp only [Nat.reduceSub] at e5
          simp only [Nat.reduceSub] at e6
          simp only [Nat.reduceSub] at e7
          simp only [Nat.reduceSub] at e8
          simp only [Nat.reduceSub] at e9
          simp only [Nat.reduceSub] at e10
          simp only [Nat.reduceSub] at e11
          simp only [lay, Act.put, List.getElem?_toArray, List.getElem?_cons_succ, List.getElem?_cons_zero, Option.bind_some, List.setIfInBounds_toArray, List.set_cons_succ, List.set_cons_zero]
          generalize vs 0 = v0 at *
          generalize vs 1 = v1 at *
          generalize vs 2 = v2 at *
          generalize vs 3 = v3 at *
          generalize vs 4 = v4 at *
          generalize vs 5 = v5 at *
          generalize vs 6 = v6 at *
          generalize vs 7 = v7 at *
          generalize vs 8 = v8 at *
          generalize vs 9 = v9 at *
          generalize vs 10 = v10 at *
          generalize vs 11 = v11 at *
          subst e0
          subst e1
          subst e2
          subst e3
          subst e4
          subst e5
          subst e6
          subst e7
          subst e8
          subst e9
          subst e10
          subst e11
          obtain ⟨hc, hf, hz⟩ := bcell hG
          have HR8 := Lib.hid (HR7.out.tr hG)
          have HSW := Lib.hid (HSX.out.grow hG)
          have y0 := HSW.out.cell (HSA.out)
          have yf := HSW.out.free x.1
          have yl := HSW.out.lt
          clear hc hf hz hG
          go_wp2_with fail
          exact ⟨⟨d + 1, by omega, by go_num, Lib.hid (HR8.out.stc2 hgs), Lib.hid (by
            have h := HSW.out.put x.1 (.int .i64 (wi sv x.2))
            have e : (fvs T r.L.length).set x.1 (.int .i64 (wi sv x.2)) = fvs T' r.L.length := by
              rw [show wi sv x.2 = T' x.1 by rw [HT2.out, if_pos rfl, HSVE.out]]
              exact fvs_set T T' hxm.1 (fun j _ hj => by rw [HT2.out, if_neg (fun e => hj e.symm)])
            rw [e, HTP.out] at h
            exact h)⟩, by simp [intOf]; omega⟩
        · have hdq : d = q.length := by omega
          subst hdq
          rw [List.take_length] at HS
          go_wp2_with fail
          exact ⟨⟨c + 1, by omega, by go_num, HR, by simp only [HTK.out, canS_snoc]; exact HS⟩, by simp [intOf]; omega⟩
    · have hcn : c = ws.length := by omega
      subst hcn
      rw [List.take_length] at HS
      go_wp2_with fail
      exact bodyPost_ret (v := .tuple #[.slice (some ⟨g, 0, none⟩) r.L.length r.L.length, .int .i64 0]) (by simp [results, Try.f24, go_sem]) rfl ⟨⟨_, _, rfl, InsF.of_box HS.out⟩, HGO.out.tr HR.out⟩

end Go.Proofs.Ytjlaoiimbhlafaa
