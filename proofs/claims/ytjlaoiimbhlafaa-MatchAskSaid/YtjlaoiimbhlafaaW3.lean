import Derived.Test.YtjlaoiimbhlafaaL1
import Derived.IntWalk
import Derived.Deep.CutBlock
import Derived.Deep.DeepCutAuto
set_option linter.unusedVariables false
set_option linter.unusedSimpArgs false
namespace Go.Proofs.Ytjlaoiimbhlafaa
open Go.RowKit Go.Shelf

open MW
attribute [local go_sem] Oper.semAt_some run_store_func
/-- Marks of which n are there, that are mirrored. -/
theorem mirL_take {l : List Mrk} {i : Nat} {m : Mrk} (hi : i < l.length) (hm : l[l.length - 1 - i]? = some m) : (mirL l).take (i + 1) = (mirL l).take i ++ [m.mir] := by
  have hl : i < (mirL l).length := by rw [mirL_len]; exact hi
  rw [List.take_succ_eq_append_getElem hl]
  congr 2
  have := mirL_at hi
  rw [hm, List.getElem?_eq_getElem hl] at this
  exact Option.some.inj this
theorem own_marks {W : World} {base n : Nat} {v : Value} {l : List Mrk} (h : W.ownsRow base 65 4 v n (l.flatMap Mrk.cs)) (hn : n = l.length) (hl : l.length ≤ 1000) : ∃ p c, v = .slice p l.length c ∧ MksAt l p W := by
  obtain ⟨-, h1⟩ := h
  rcases h1 with ⟨rfl, h0⟩ | ⟨g, cap, cur, rfl, -, hcur, -, -, -, hct⟩
  · have hl0 : l = [] := List.length_eq_zero_iff.1 (by omega)
    subst hl0
    exact ⟨none, 0, rfl, by simp, fun i m hm => by cases hm⟩
  · refine ⟨some ⟨g, 0, none⟩, cap, by rw [hn], ?_⟩
    exact MkBox.at ⟨cur.toList, by unfold Box; simpa using hcur, by rw [← hn]; exact hct⟩ hl
set_option maxRecDepth 100000 in
set_option maxHeartbeats 8000000 in
theorem mirror42_any (l : List Mrk) (p : Option Addr) (cap : Nat) (w : World) (hl : MksAt l p w) (h10 : l.length ≤ 10) (hok : ∀ m ∈ l, m.ok = true) :
    Calls Try.prog 42 #[.slice p l.length cap] w fun e w' => (∃ q c, e = .returned (.slice q l.length c) ∧ MksAt (mirL l) q w') ∧ Below w.heap.size w w' := by
  have HL := Lib.hid hl
  have HOK := Lib.hid hok
  have HLN := Lib.hid (mirL_len l)
  obtain ⟨i0, ii0, iz0, iz1, iz2⟩ := infoP info65p
  have II0 := Lib.hid ii0
  have IZ0 := Lib.hid iz0
  have IZ1 := Lib.hid iz1
  have IZ2 := Lib.hid iz2
  clear hl hok ii0 iz0 iz1 iz2
  go_enter Try.func42, Try.ntmps42
  go_wp2_with fail
  go_loopw [7, 2] (fun t o wr => ∃ i : Nat, i ≤ l.length ∧ t = .int .i64 i ∧ Hid (wr.ownsRow w.heap.size 65 4 o i (((mirL l).take i).flatMap Mrk.cs)) ∧ Hid (Gr w wr)) (fun t _ _ => (20 - intOf t).toNat)
  case atStart => exact ⟨0, Nat.zero_le _, rfl, Lib.hid (World.ownsRow_nil _ _ _ _), Lib.hid (Gr.same _)⟩
  case round =>
    obtain ⟨i, hi, rfl, HOWN, HG⟩ := hrel
    by_cases hlt : i < l.length
    · obtain ⟨m, hm⟩ : ∃ m, l[l.length - 1 - i]? = some m := ⟨_, List.getElem?_eq_getElem (by omega)⟩
      obtain ⟨bL, oL, hp⟩ := mk_at HL.out hm
      subst hp
      have hmo := HOK.out m (List.mem_of_getElem? hm)
      unfold Mrk.ok okS at hmo
      simp only [Bool.and_eq_true, decide_eq_true_eq] at hmo
      obtain ⟨⟨xa1, xa2, xa3⟩, xc1, xc2, xc3⟩ := hmo
      obtain ⟨lb, k0, k1, k2, k3⟩ := mk_cells (HL.out.grow HG.out) hm rfl
      have HTK := Lib.hid (mirL_take hlt hm)
      have hii : ((l.length : Int) - 1 - (i : Int)) = ((l.length - 1 - i : Nat) : Int) := by omega
      have e0 : (0 : Int) ≤ (l.length : Int) - 1 - (i : Int) := by omega
      have e1 : (l.length : Int) - 1 - (i : Int) < (l.length : Int) := by omega
      have e2 : ((l.length : Int) - 1 - (i : Int)).toNat = l.length - 1 - i := by omega
      have g1 : (i : Int) < l.length := by omega
      clear hm hii
      have HMB := Lib.hid (Box.fresh wr [.int .i64 m.a, .int .i64 m.b, .int .i64 m.c, .int .i64 m.d] 65)
      go_upto_region 5 with fail
      have HGA := Lib.hid (HG.out.tr (Gr.alloc wr (Obj.cells #[.int .i64 m.a, .int .i64 m.b, .int .i64 m.c, .int .i64 m.d] 65)))
      have HOA := Lib.hid (own_gr HOWN.out (Gr.alloc wr (Obj.cells #[.int .i64 m.a, .int .i64 m.b, .int .i64 m.c, .int .i64 m.d] 65)))
      clear k0 k1 k2 k3 lb e0 e1 e2
      have hw1 : IntKind.i64.wrap (65536 - m.b) = 65536 - m.b := IntWalk.i64_in _ (by omega)
      have hw2 : IntKind.i64.wrap (65536 - m.a) = 65536 - m.a := IntWalk.i64_in _ (by omega)
      refine region2 14 ?_ ?_ ?_
      · kernel_rfl
      · kernel_rfl
      simp only [List.take_succ_cons, List.take_zero, List.drop_succ_cons, List.drop_zero]
      apply chain_eq (D := [(2, none)]) rfl (by kernel_rfl)
      · intro ρ W ⟨p1, p2, p3⟩ hG hF K hK; (try simp [FactsD] at hF); have ⟨hc, hf, hz⟩ := bcell (Gr.tr (Gr.drew _) hG); go_simp; exact hK _ (gives_val)
      apply chain_eq (D := [(4, none)]) rfl (by kernel_rfl)
      · intro ρ W ⟨p1, p2, p3⟩ hG hF K hK; (try simp [FactsD] at hF); have ⟨hc, hf, hz⟩ := bcell (Gr.tr (Gr.drew _) hG); go_simp; exact hK _ (gives_val)
      apply chain_eq (D := [(19, some 0)]) rfl (by kernel_rfl)
      · intro ρ W ⟨p1, p2, p3⟩ hG hF K hK; (try simp [FactsD] at hF); have ⟨hc, hf, hz⟩ := bcell (Gr.tr (Gr.drew _) hG); go_simp; exact hK _ (gives_val)
      apply chain_eq (D := [(20, some 0)]) rfl (by kernel_rfl)
      · intro ρ W ⟨p1, p2, p3⟩ hG hF K hK; (try simp [FactsD] at hF); have ⟨hc, hf, hz⟩ := bcell (Gr.tr (Gr.drew _) hG); have hmb := HMB.out.grow (Gr.tr (Gr.drew _) hG); have z0 := hmb.cell (i := 0) rfl; have z1 := hmb.cell (i := 1) rfl; have z2 := hmb.cell (i := 2) rfl; have z3 := hmb.cell (i := 3) rfl; have zl := hmb.lt; go_simp; exact hK _ (gives_val)
      apply chain_eq (D := [(21, some 0)]) rfl (by kernel_rfl)
      · intro ρ W ⟨p1, p2, p3⟩ hG hF K hK; (try simp [FactsD] at hF); have ⟨hc, hf, hz⟩ := bcell (Gr.tr (Gr.drew _) hG); go_simp; exact hK _ (gives_val)
      apply chain_eq (D := [(4, none)]) rfl (by kernel_rfl)
      · intro ρ W ⟨p1, p2, p3⟩ hG hF K hK; (try simp [FactsD] at hF); have ⟨hc, hf, hz⟩ := bcell (Gr.tr (Gr.drew _) hG); go_simp; exact hK _ (gives_val)
      apply chain_eq (D := [(23, some 0)]) rfl (by kernel_rfl)
      · intro ρ W ⟨p1, p2, p3⟩ hG hF K hK; (try simp [FactsD] at hF); have ⟨hc, hf, hz⟩ := bcell (Gr.tr (Gr.drew _) hG); go_simp; exact hK _ (gives_val)
      apply chain_eq (D := [(24, some 0)]) rfl (by kernel_rfl)
      · intro ρ W ⟨p1, p2, p3⟩ hG hF K hK; (try simp [FactsD] at hF); have ⟨hc, hf, hz⟩ := bcell (Gr.tr (Gr.drew _) hG); have hmb := HMB.out.grow (Gr.tr (Gr.drew _) hG); have z0 := hmb.cell (i := 0) rfl; have z1 := hmb.cell (i := 1) rfl; have z2 := hmb.cell (i := 2) rfl; have z3 := hmb.cell (i := 3) rfl; have zl := hmb.lt; go_simp; exact hK _ (gives_val)
      apply chain_eq (D := [(25, some 0)]) rfl (by kernel_rfl)
      · intro ρ W ⟨p1, p2, p3⟩ hG hF K hK; (try simp [FactsD] at hF); have ⟨hc, hf, hz⟩ := bcell (Gr.tr (Gr.drew _) hG); go_simp; exact hK _ (gives_val)
      apply chain_eq (D := [(22, some 4), (26, some 0)]) rfl (by kernel_rfl)
      · intro ρ W ⟨p1, p2, p3⟩ hG hF K hK; (try simp [FactsD] at hF); have ⟨hc, hf, hz⟩ := bcell (Gr.tr (Gr.drew _) hG); go_simp; exact hK _ (gives_call (span35_any (65536 - m.b) (65536 - m.a) _))
      apply chain_eq (D := [(4, none)]) rfl (by kernel_rfl)
      · intro ρ W ⟨p1, p2, p3⟩ hG hF K hK; (try simp [FactsD] at hF); have ⟨hc, hf, hz⟩ := bcell (Gr.tr (Gr.drew _) hG); go_simp; exact hK _ (gives_val)
      apply chain_eq (D := [(28, some 0)]) rfl (by kernel_rfl)
      · intro ρ W ⟨p1, p2, p3⟩ hG hF K hK; (try simp [FactsD] at hF); have ⟨hc, hf, hz⟩ := bcell (Gr.tr (Gr.drew _) hG); have hmb := HMB.out.grow (Gr.tr (Gr.drew _) hG); have z0 := hmb.cell (i := 0) rfl; have z1 := hmb.cell (i := 1) rfl; have z2 := hmb.cell (i := 2) rfl; have z3 := hmb.cell (i := 3) rfl; have zl := hmb.lt; go_simp; exact hK _ (gives_val)
      apply chain_eq (D := [(27, some 2), (29, some 0)]) rfl (by kernel_rfl)
      · intro ρ W ⟨p1, p2, p3⟩ hG hF K hK; (try simp [FactsD] at hF); have ⟨hc, hf, hz⟩ := bcell (Gr.tr (Gr.drew _) hG); go_simp; exact hK _ (gives_val)
      refine chain_any (V := (fun v W' => ∃ bn : Nat, v = .slice (some ⟨bn, 0, none⟩) 1 1 ∧ Box W' bn [.int .i64 (65536 - m.b), .int .i64 (65536 - m.a), .int .i64 m.c, .int .i64 m.d] 65)) (D := [(30, some 0)]) rfl (by kernel_rfl) (fun v W W' ⟨bn, h1, h2⟩ hg => ⟨bn, h1, h2.grow hg⟩) ?_ ?_
      · intro ρ W ⟨p1, p2, p3⟩ hG hF K hK; (try simp [FactsD] at hF); have ⟨hc, hf, hz⟩ := bcell (Gr.tr (Gr.drew _) hG); go_simp; exact hK _ (⟨⟨_, rfl, Box.fresh W [.int .i64 (65536 - m.b), .int .i64 (65536 - m.a), .int .i64 m.c, .int .i64 m.d] 65⟩, Gr.alloc _ _⟩)
      refine chain_done ?_
      intro vs W hG hV
      obtain ⟨e13, -, -, -, -, -, -, -, -, -, -, -, -, e0, -⟩ := hV
      simp only [Nat.reduceSub] at e0
      simp only [Nat.reduceSub] at e13
      simp only [lay, Act.put, List.getElem?_toArray, List.getElem?_cons_succ, List.getElem?_cons_zero, Option.bind_some, List.setIfInBounds_toArray, List.set_cons_succ, List.set_cons_zero]
      generalize vs 0 = v0 at *
      generalize vs 1 = v1
      generalize vs 2 = v2
      generalize vs 3 = v3
      generalize vs 4 = v4
      generalize vs 5 = v5
      generalize vs 6 = v6
      generalize vs 7 = v7
      generalize vs 8 = v8
      generalize vs 9 = v9
      generalize vs 10 = v10
      generalize vs 11 = v11
      generalize vs 12 = v12
      generalize vs 13 = v13 at *
      subst e0
      obtain ⟨hc, hf, hz⟩ := bcell hG
      obtain ⟨bn, rfl, hbn⟩ := e13
      have HGW := Lib.hid (HGA.out.tr hG)
      have HOW := Lib.hid (own_gr HOA.out hG)
      have HNW := Lib.hid (show ∀ j u, ([.int .i64 (65536 - m.b), .int .i64 (65536 - m.a), .int .i64 m.c, .int .i64 m.d] : List Value)[j]? = some u → W.cell? ((⟨bn, 0, none⟩ : Addr).add j) = some u from fun j u hj => by rw [addz]; exact hbn.cell hj)
      have hbs : w.heap.size ≤ W.heap.size := HGW.out.size
      have HON := Lib.hid (show ∀ u ∈ ([.int .i64 (65536 - m.b), .int .i64 (65536 - m.a), .int .i64 m.c, .int .i64 m.d] : List Value), u.oneCell' = true by
        intro u hu
        simp only [List.mem_cons, List.not_mem_nil, or_false] at hu
        rcases hu with rfl | rfl | rfl | rfl <;> rfl)
      clear hbn hc hf hz hG
      go_wp2_with (first | (at_builtin; refine wpList_append_lies _ rfl _ _ 22 rfl w.heap.size 65 i0 _ 4 32 Try.underlying22 II0.out IZ0.out IZ1.out IZ2.out rfl (by decide) _ _ _ rfl HOW.out ⟨bn, 0, none⟩ 1 1 [.int .i64 (65536 - m.b), .int .i64 (65536 - m.a), .int .i64 m.c, .int .i64 m.d] rfl rfl HNW.out HON.out ?c1 ?c2 ?c3 ?c4 _ rfl ?_))
      case c1 => omega
      case c2 => unfold maxLen; omega
      case c3 => omega
      case c4 => exact hbs
      intro g cap' w5 hown5 hgrow hat hlt5
      have HO5 := Lib.hid hown5
      have HG5 := Lib.hid (show Gr w w5 from (show Below w.heap.size w W from HGW.out).grown hgrow hbs (fun q e => (own_blk HOW.out e.symm).1))
      clear hown5 hgrow hat hlt5 hw1 hw2
      go_wp2_with fail
      exact ⟨⟨i + 1, by omega, by go_num, Lib.hid (by rw [HTK.out, List.flatMap_append]; exact HO5.out), HG5⟩, by simp [intOf]; omega⟩
    · have hin : i = l.length := by omega
      subst hin
      have HF := Lib.hid (show wr.ownsRow w.heap.size 65 4 u2 l.length ((mirL l).flatMap Mrk.cs) by
        have := HOWN.out
        rwa [List.take_of_length_le (by rw [HLN.out]; exact Nat.le_refl _)] at this)
      obtain ⟨q, c, hv, hq⟩ := own_marks HF.out HLN.out.symm (by rw [HLN.out]; omega)
      subst hv
      have HQ := Lib.hid hq
      go_wp2_with fail
      go_ret
      exact ⟨⟨q, c, by rw [← HLN.out]; rfl, HQ.out⟩, HG.out⟩

end Go.Proofs.Ytjlaoiimbhlafaa
