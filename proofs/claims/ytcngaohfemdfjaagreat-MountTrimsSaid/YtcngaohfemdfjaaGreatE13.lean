import Derived.Test.YtcngaohfemdfjaaGreatE07
set_option linter.unusedVariables false
set_option linter.unusedSimpArgs false
set_option maxRecDepth 100000
set_option maxHeartbeats 60000000
namespace Go.Proofs.YtcngaohfemdfjaaGreat
open Go.RowKit
theorem Only.gr {b : Nat} {u w w' : World} (h : Only b w w') (hg : Gr u w) (hb : u.heap.size ≤ b) : Gr u w' := hg.trans (h.low.mono hb)
theorem distance_far (t : Tm) (h : t.ok) (s : Int) (hs : -100000 ≤ s ∧ s ≤ 100000) (w : World) : Calls Tryz.prog 97 #[.agg t.cs.toArray, .int .i64 s] w fun e w' => e = .returned (.int .i64 (t.dist s)) ∧ Below w.heap.size w w' := by
  have := h.b; have := h.c; have := h.half; have h1 := h.bc
  exact distance_any' t s w (by omega) (by omega) (by omega) (by omega)
def sayTo (b : Nat) : Value := .func (.func 96) #[.pointer (some ⟨b, 0, none⟩)] #[]
theorem tellRoom_ok (t : Tm) (h : t.ok) (b : Nat) (x y : Int) (w : World) (hb : Box w b [.int .i64 x, .int .i64 y] 136) :
    Calls Tryz.prog 98 #[.agg t.cs.toArray, sayTo b] w fun e w' => e = .returned (.tuple #[]) ∧ Box w' b [.int .i64 (imax (imax x (t.dist (t.k.elo + t.k.prism))) (t.win - t.k.deep)), .int .i64 (imin (imin y (t.dist (t.k.ehi - t.k.squeeze))) (t.win + t.k.front))] 136 ∧ Only b w w' := by
  have HD := Lib.hid (fun W => distances_ok t h W)
  have HS := Lib.hid (fun W => shifts_ok t h W)
  have HA := Lib.hid (fun W => distance_far t h (t.k.elo + t.k.prism) (by have := h.elo; have := h.prism; omega) W)
  have HE := Lib.hid (fun W => distance_far t h (t.k.ehi - t.k.squeeze) (by have := h.ehi; have := h.squeeze; omega) W)
  clear h
  have hbl := hb.lt
  have HX := Lib.hid hb
  clear hb
  have HB := Lib.hid (Box.fresh w t.cs 83)
  have hl : t.cs.length = 22 := rfl
  unfold sayTo
  go_enter Tryz.func98, Tryz.ntmps98
  go_wp2
  refine regionB 6 ?_ ?_ ?_
  · kernel_rfl
  · kernel_rfl
  simp only [List.take_succ_cons, List.take_zero, List.drop_succ_cons, List.drop_zero]
  apply cbe (D := [(2, none)]) rfl (by kernel_rfl)
  · intro ρ W ⟨p1,p2,p3⟩ hG hF K hK; (try simp [FD, exB] at hF); rw [xlb row83 t.cs_len (HB.out.grow (Gr.tr (Gr.drew _) hG)) rfl hF]; exact hK _ gv
  apply cbe (D := [(6, some 0)]) rfl (by kernel_rfl)
  · intro ρ W ⟨p1,p2,p3⟩ hG hF K hK; (try simp [FD, exB] at hF); have ⟨hc, hf, hz⟩ := bdr hG; go_simp; exact hK _ (gc (HD.out _))
  apply cbe (D := [(2, none)]) rfl (by kernel_rfl)
  · intro ρ W ⟨p1,p2,p3⟩ hG hF K hK; (try simp [FD, exB] at hF); rw [xlb row83 t.cs_len (HB.out.grow (Gr.tr (Gr.drew _) hG)) rfl hF]; exact hK _ gv
  apply cbe (D := [(8, some 0)]) rfl (by kernel_rfl)
  · intro ρ W ⟨p1,p2,p3⟩ hG hF K hK; (try simp [FD, exB] at hF); have ⟨hc, hf, hz⟩ := bdr hG; go_simp; exact hK _ (gc (HS.out _))
  refine chainB_any (V := fun p v W' => NewB [.int .i64 0, .int .i64 0] 23 p v W' ∧ w.heap.size + 1 ≤ p.1) (D := []) rfl (by kernel_rfl) (fun p v A B h hg => ⟨NewB.lasts _ _ p v A B h.1 hg, h.2⟩) ?_ ?_
  · intro ρ W ⟨p1,p2,p3⟩ hG hF K hK; (try simp [FD, exB] at hF); have ⟨hc, hf, hz⟩ := bdr hG; go_simp; exact hK _ (⟨⟨NewB.new _ _ _, by have := hG.size; simpa using this⟩, Gr.alloc _ _⟩)
  refine chainB_any (V := fun p v W' => NewB [.int .i64 0, .int .i64 0] 23 p v W' ∧ w.heap.size + 1 ≤ p.1) (D := []) rfl (by kernel_rfl) (fun p v A B h hg => ⟨NewB.lasts _ _ p v A B h.1 hg, h.2⟩) ?_ ?_
  · intro ρ W ⟨p1,p2,p3⟩ hG hF K hK; (try simp [FD, exB] at hF); have ⟨hc, hf, hz⟩ := bdr hG; go_simp; exact hK _ (⟨⟨NewB.new _ _ _, by have := hG.size; simpa using this⟩, Gr.alloc _ _⟩)
  refine chainB_done ?_
  intro vs bs W hG hV hdj
  obtain ⟨e5, e4, e3, -, e1, -⟩ := hV
  simp only [Nat.reduceSub] at e1 e3
  simp only [Nat.reduceSub] at e4 e5
  have hd45 := hdj 4 5 (by omega) (by omega) (by omega)
  clear hdj
  simp only [lay, Act.put, List.getElem?_toArray, List.getElem?_cons_succ, List.getElem?_cons_zero, Option.bind_some, List.setIfInBounds_toArray, List.set_cons_succ, List.set_cons_zero]
  generalize vs 0 = v0
  generalize vs 1 = v1 at *
  generalize vs 2 = v2
  generalize vs 3 = v3 at *
  generalize vs 4 = v4 at *
  generalize vs 5 = v5 at *
  subst e1
  subst e3
  obtain ⟨hc, hf, hz⟩ := bcell hG
  obtain ⟨⟨b8, rfl, hb8, hb8', hB8⟩, hb8n⟩ := e4
  obtain ⟨⟨b9, rfl, hb9, hb9', hB9⟩, hb9n⟩ := e5
  have hne : ¬ b8 = b9 := by omega
  have hne' : ¬ b9 = b8 := by omega
  have hl8 : w.heap.size < b8 := by omega
  have hl9 : w.heap.size < b9 := by omega
  have hl8' : b < b8 := by omega
  have hl9' : b < b9 := by omega
  obtain ⟨y0, y1, yf0, yf1, yl⟩ := hB8.two
  obtain ⟨z0, z1, zf0, zf1, zl⟩ := hB9.two
  have HW := Lib.hid (show Gr w W from (Gr.alloc _ _).tr hG)
  have HB8 := Lib.hid hB8
  have HB9 := Lib.hid hB9
  have HB1 := Lib.hid (HB.out.grow hG)
  clear hB8 hB9 hG hb8 hb8' hb9 hb9' hd45 hb8n hb9n hc hf hz
  go_wp2
  have hK8 : Box ((((W.setCell ⟨b8, 0, none⟩ (.int .i64 (t.k.ehi - t.k.squeeze))).setCell ⟨b8, 1, none⟩ (.int .i64 (t.k.elo + t.k.prism))).setCell ⟨b9, 0, none⟩ (.int .i64 (t.win - t.k.deep))).setCell ⟨b9, 1, none⟩ (.int .i64 (t.win + t.k.front))) b8 [.int .i64 (t.k.ehi - t.k.squeeze), .int .i64 (t.k.elo + t.k.prism)] 23 := (((HB8.out.put 0 _).put 1 _).other (by omega) _ _).other (by omega) _ _
  have hK9 : Box ((((W.setCell ⟨b8, 0, none⟩ (.int .i64 (t.k.ehi - t.k.squeeze))).setCell ⟨b8, 1, none⟩ (.int .i64 (t.k.elo + t.k.prism))).setCell ⟨b9, 0, none⟩ (.int .i64 (t.win - t.k.deep))).setCell ⟨b9, 1, none⟩ (.int .i64 (t.win + t.k.front))) b9 [.int .i64 (t.win - t.k.deep), .int .i64 (t.win + t.k.front)] 23 := ((((HB9.out.other (by omega) _ _).other (by omega) _ _).put 0 _).put 1 _)
  have hK1 : Box ((((W.setCell ⟨b8, 0, none⟩ (.int .i64 (t.k.ehi - t.k.squeeze))).setCell ⟨b8, 1, none⟩ (.int .i64 (t.k.elo + t.k.prism))).setCell ⟨b9, 0, none⟩ (.int .i64 (t.win - t.k.deep))).setCell ⟨b9, 1, none⟩ (.int .i64 (t.win + t.k.front))) w.heap.size t.cs 83 := (((HB1.out.other (by omega) _ _).other (by omega) _ _).other (by omega) _ _).other (by omega) _ _
  have hKX : Box ((((W.setCell ⟨b8, 0, none⟩ (.int .i64 (t.k.ehi - t.k.squeeze))).setCell ⟨b8, 1, none⟩ (.int .i64 (t.k.elo + t.k.prism))).setCell ⟨b9, 0, none⟩ (.int .i64 (t.win - t.k.deep))).setCell ⟨b9, 1, none⟩ (.int .i64 (t.win + t.k.front))) b [.int .i64 x, .int .i64 y] 136 := ((((HX.out.grow HW.out).other (by omega) _ _).other (by omega) _ _).other (by omega) _ _).other (by omega) _ _
  have hXG : Gr w ((((W.setCell ⟨b8, 0, none⟩ (.int .i64 (t.k.ehi - t.k.squeeze))).setCell ⟨b8, 1, none⟩ (.int .i64 (t.k.elo + t.k.prism))).setCell ⟨b9, 0, none⟩ (.int .i64 (t.win - t.k.deep))).setCell ⟨b9, 1, none⟩ (.int .i64 (t.win + t.k.front))) := (((HW.out.setCell (by simp; omega) _).setCell (by simp; omega) _).setCell (by simp; omega) _).setCell (by simp; omega) _
  generalize ((((W.setCell ⟨b8, 0, none⟩ (.int .i64 (t.k.ehi - t.k.squeeze))).setCell ⟨b8, 1, none⟩ (.int .i64 (t.k.elo + t.k.prism))).setCell ⟨b9, 0, none⟩ (.int .i64 (t.win - t.k.deep))).setCell ⟨b9, 1, none⟩ (.int .i64 (t.win + t.k.front))) = Wa at *
  clear y0 y1 yf0 yf1 z0 z1 zf0 zf1 HB8 HB9 HB1
  obtain ⟨y0, y1, -, -, yl⟩ := hK8.two
  obtain ⟨z0, z1, -, -, zl⟩ := hK9.two
  have xl := hKX.lt
  have HK9 := Lib.hid hK9
  have HK1 := Lib.hid hK1
  have HKX := Lib.hid hKX
  have HXG := Lib.hid hXG
  clear hK8 hK9 hK1 hKX hXG
  refine region2 9 ?_ ?_ ?_
  · kernel_rfl
  · kernel_rfl
  simp only [List.take_succ_cons, List.take_zero, List.drop_succ_cons, List.drop_zero]
  apply ceq (D := [(1, none)]) rfl (by kernel_rfl)
  · intro ρ W ⟨p1,p2,p3⟩ hG hF K hK; (try simp [FD] at hF); have ⟨hc, hf, hz⟩ := bdr hG; go_simp; exact hK _ gv
  apply ceq (D := [(2, none)]) rfl (by kernel_rfl)
  · intro ρ W ⟨p1,p2,p3⟩ hG hF K hK; (try simp [FD] at hF); rw [xlb row83 t.cs_len (HK1.out.grow (Gr.tr (Gr.drew _) hG)) rfl hF]; exact hK _ gv
  apply ceq (D := [(4, none)]) rfl (by kernel_rfl)
  · intro ρ W ⟨p1,p2,p3⟩ hG hF K hK; (try simp [FD] at hF); have ⟨hc, hf, hz⟩ := bdr hG; go_simp; exact hK _ gv
  apply ceq (D := [(12, some 0)]) rfl (by kernel_rfl)
  · intro ρ W ⟨p1,p2,p3⟩ hG hF K hK; (try simp [FD] at hF); have ⟨hc, hf, hz⟩ := bdr hG; go_simp; exact hK _ gv
  apply ceq (D := [(11, some 2), (13, some 0)]) rfl (by kernel_rfl)
  · intro ρ W ⟨p1,p2,p3⟩ hG hF K hK; (try simp [FD] at hF); have ⟨hc, hf, hz⟩ := bdr hG; go_simp; exact hK _ (gc (HA.out _))
  apply ceq (D := [(2, none)]) rfl (by kernel_rfl)
  · intro ρ W ⟨p1,p2,p3⟩ hG hF K hK; (try simp [FD] at hF); rw [xlb row83 t.cs_len (HK1.out.grow (Gr.tr (Gr.drew _) hG)) rfl hF]; exact hK _ gv
  apply ceq (D := [(4, none)]) rfl (by kernel_rfl)
  · intro ρ W ⟨p1,p2,p3⟩ hG hF K hK; (try simp [FD] at hF); have ⟨hc, hf, hz⟩ := bdr hG; go_simp; exact hK _ gv
  apply ceq (D := [(16, some 0)]) rfl (by kernel_rfl)
  · intro ρ W ⟨p1,p2,p3⟩ hG hF K hK; (try simp [FD] at hF); have ⟨hc, hf, hz⟩ := bdr hG; go_simp; exact hK _ gv
  apply ceq (D := [(15, some 2), (17, some 0)]) rfl (by kernel_rfl)
  · intro ρ W ⟨p1,p2,p3⟩ hG hF K hK; (try simp [FD] at hF); have ⟨hc, hf, hz⟩ := bdr hG; go_simp; exact hK _ (gc (HE.out _))
  refine cdn ?_
  intro vs W hG hV
  obtain ⟨e8, -, -, -, e4, -, -, -, e0, -⟩ := hV
  simp only [Nat.reduceSub] at e0 e4
  simp only [Nat.reduceSub] at e8
  simp only [lay, Act.put, List.getElem?_toArray, List.getElem?_cons_succ, List.getElem?_cons_zero, Option.bind_some, List.setIfInBounds_toArray, List.set_cons_succ, List.set_cons_zero]
  generalize vs 0 = v0 at *
  generalize vs 1 = v1, vs 2 = v2, vs 3 = v3
  generalize vs 4 = v4 at *
  generalize vs 5 = v5, vs 6 = v6, vs 7 = v7
  generalize vs 8 = v8 at *
  subst e0
  subst e4
  subst e8
  obtain ⟨hc, hf, hz⟩ := bcell hG
  have HGb := Lib.hid hG
  have hk : Box W b [.int .i64 x, .int .i64 y] 136 := HKX.out.grow hG
  clear hG hc hf hz
  go_wp2_with fail
  refine (mnarrow_any b x y _ _ _ hk).mono ?_
  rintro e w3 ⟨rfl, hk3, ho3⟩
  have hz9 := ho3.box (HK9.out.grow HGb.out) (by omega)
  obtain ⟨u0, u1, -, -, ul⟩ := hz9.two
  have HO3 := Lib.hid ho3
  have HN3 := Lib.hid hk3
  clear z0 z1 y0 y1 hk hz9 ho3 hk3
  go_wp2_with fail
  refine (mnarrow_any b _ _ _ _ _ HN3.out).mono ?_
  rintro e w4 ⟨rfl, hk4, ho4⟩
  have ho3 := HO3.out
  go_wp2
  go_end0
  exact ⟨rfl, hk4, ((Only.of hbl (HXG.out.tr HGb.out)).tr ho3).tr ho4⟩
end Go.Proofs.YtcngaohfemdfjaaGreat
