import Derived.Test.YtcngaohfemdfjaaGreatK9
import Derived.Test.YtcngaohfemdfjaaGreatY33
import Derived.Test.YtcngaohfemdfjaaGreatK3
import Derived.Test.YtcngaohfemdfjaaGreatK0
import Derived.RegionTactic
import Derived.Deep.CutBlock
import Derived.Deep.DeepCutAuto
import Derived.Deep.AppendLies
import Derived.OwnWalk
set_option linter.unusedVariables false
set_option linter.unusedSimpArgs false
namespace Go.Proofs.YtcngaohfemdfjaaGreat
open Go.RowKit
set_option maxRecDepth 100000 in
set_option maxHeartbeats 60000000 in
theorem known_main (k : Cd) (z y : Int) (w : World) (tb tof : Nat) (hspe : k.sp = some ⟨tb, tof, none⟩) (htb : tb < w.heap.size) (hcs : Hid (∀ i t, k.p.l[i]? = some t → CellsFrom w tb (tof + i * 9) t.vals)) (hl0 : k.p.l.length ≠ 0) (hl : k.p.l.length ≤ 40) (hT : ThingsAt k.p.l (.slice (some ⟨tb, tof, none⟩) k.p.l.length k.cap) w) (hc : Hid ((k.okc && k.p.ok) = true)) (hn : k.cuts ≤ 20) (hz : 0 ≤ z ∧ z ≤ 255) (i : Nat) (hi : i < k.p.l.length) (hrem : z.tmod (k.p.l.length : Int) = (i : Int)) (hk : k.okc = true) (hok : k.p.ok = true) (hy : 0 ≤ y ∧ y ≤ 4294967295) (a b : Int) (hd : Hid (k.p.distance i = (a, b, 0))) (hab : k.p.ne ≤ a ∧ a ≤ b ∧ b ≤ k.p.fa) (hnf : 2000 ≤ k.p.ne ∧ k.p.fa ≤ 1073741824) (t : Th) (ht : k.p.l[i]? = some t) (P Q : Int) (dz : Int) (hdd : a + y % (b - a + 1) = dz) (hQ : Hid ((k.p.marked i dz).power = (P, Q, 0))) :
    Calls Tryz.prog 12 #[.agg k.cs.toArray, .int .u8 z, .int .u32 y] w fun e w' => e = .returned (.bool true) ∧ Below w.heap.size w w' := by
  have HCS := Lib.hid hcs
  have HTT := Lib.hid ht
  have HDD := Lib.hid hdd
  obtain ⟨y0, y9⟩ := hy
  have hq0 : 0 ≤ y % (b - a + 1) := Int.emod_nonneg _ (by omega)
  have hq1 : y % (b - a + 1) < b - a + 1 := Int.emod_lt_of_pos _ (by omega)
  have Y1 : IntKind.i64.wrap y = y := IntWalk.i64_in _ ⟨by omega, by omega⟩
  have Y2 : IntKind.i64.wrap (b - a) = b - a := IntWalk.i64_in _ ⟨by omega, by omega⟩
  have Y3 : IntKind.i64.wrap (b - a + 1) = b - a + 1 := IntWalk.i64_in _ ⟨by omega, by omega⟩
  have Y4 : (b - a + 1 = 0) = False := eq_false (by omega)
  have Y5 : y.tmod (b - a + 1) = y % (b - a + 1) := Int.tmod_eq_emod_of_nonneg y0
  have Y6 : IntKind.i64.wrap (y % (b - a + 1)) = y % (b - a + 1) := IntWalk.i64_in _ ⟨by omega, by omega⟩
  have Y7 : IntKind.i64.wrap (a + y % (b - a + 1)) = dz := by rw [hdd]; exact IntWalk.i64_in _ ⟨by omega, by omega⟩
  have Y8 : IntKind.i64.wrap (y.tmod (b - a + 1)) = y % (b - a + 1) := by rw [Y5]; exact Y6
  have HFL := Lib.hid (show (k.p.l.flatMap Th.vals).length = k.p.l.length * 9 from th_flat_len k.p.l)
  have HONE := Lib.hid (things_flat (l := k.p.l))
  obtain ⟨i0, ii0, iz0, iz1, iz2⟩ := info_parts Tryz.info52
  have II0 := Lib.hid ii0
  have IZ0 := Lib.hid iz0
  have IZ1 := Lib.hid iz1
  have IZ2 := Lib.hid iz2
  clear hcs ht hdd ii0 iz0 iz1 iz2
  have x1 : ((k.p.l.length : Int) == 0) = false := beq_eq_false_iff_ne.2 (by omega)
  have x2 : (k.p.l.length == 0) = false := beq_eq_false_iff_ne.2 (by omega)
  have x3 : ¬ k.p.l = [] := fun h => by rw [h] at x2; cases x2
  have d : decide (40 < (k.p.l.length : Int)) = false := by simp; omega
  have d' : decide (40 < k.p.l.length) = false := by simp; omega
  have y1 : decide (20 < k.cuts) = false := by simpa using hn
  have W1 : IntKind.i64.wrap z = z := IntWalk.i64_in _ ⟨by omega, by omega⟩
  have W2 : ((k.p.l.length : Int) = 0) = False := eq_false (by omega)
  have W3 : IntKind.i64.wrap (i : Int) = (i : Int) := IntWalk.i64_in _ ⟨by omega, by omega⟩
  have HT := Lib.hid hT
  have HL := Lib.hid hl
  have HT' := Lib.hid (show ThingsAt k.p.l (.slice k.sp k.p.l.length k.cap) w by rw [hspe]; exact hT)
  clear hT
  have p7 : ∀ h : 7 < k.cs.length, k.cs[7] = .slice k.sp k.p.l.length k.cap := fun _ => rfl
  have p10 : ∀ h : 10 < k.cs.length, k.cs[10] = .int .i64 k.cuts := fun _ => rfl
  have hl : k.cs.length = 17 := rfl
  have HB := Lib.hid (Box.fresh w k.cs 28)
  go_enter Tryz.func12, Tryz.ntmps12
  go_wp2_with (first | (with_reducible refine wpList_stopLoad (ty := 28) rfl ?_; unfold Stop; first | refine wpList_loadBox row28 rfl (HB.out) rfl rfl rfl ?_ | refine wpList_loadPartG row28 rfl (HB.out) (Cd.whole k) rfl rfl rfl ?_))
  refine (card_is (b := true) hc.out (ThingsAt.lasts _ _ _ _ HT'.out (Gr.alloc _ _))).mono ?_
  rintro e w1 ⟨rfl, hb1⟩
  have HG1 := Lib.hid ((Gr.alloc w (Obj.cells k.cs.toArray 28)).tr hb1)
  have HB1 := Lib.hid (HB.out.grow hb1)
  clear hb1
  have c10 := HB1.out.cell (i := 10) rfl
  have ccl := HB1.out.lt
  go_wp2_with (first | (with_reducible refine wpList_stopLoad (ty := 26) rfl ?_; unfold Stop; refine wpList_loadPart row26 rfl (HB1.out) (Cd.part26 k) rfl rfl rfl ?_))
  refine (distance_is hd.out (ThingsAt.lasts _ _ _ _ HT'.out HG1.out)).mono ?_
  rintro e w2 ⟨rfl, hb2⟩
  have hga := Gr.tr hb2 (Gr.alloc w2 (Obj.cells #[.int .i64 a, .int .i64 b] 23))
  have HG2 := Lib.hid (HG1.out.tr hga)
  have HB2 := Lib.hid (HB1.out.grow hga)
  have HZ2 := Lib.hid (Box.fresh w2 [.int .i64 a, .int .i64 b] 23)
  have hbw : w.heap.size < w2.heap.size := Nat.lt_of_lt_of_le HB1.out.lt (show w1.heap.size ≤ w2.heap.size from hb2.size)
  have c5 := HB2.out.cell (i := 5) rfl
  have c6 := HB2.out.cell (i := 6) rfl
  have cc2 := HB2.out.lt
  have z0 := HZ2.out.cell (i := 0) rfl
  have z1 := HZ2.out.cell (i := 1) rfl
  have zl := HZ2.out.lt
  have r1 : decide (a < k.p.ne) = false := by simp; omega
  have r2 : decide (b < a) = false := by simp; omega
  have r3 : decide (k.p.fa < b) = false := by simp; omega
  clear hb2 hga c10 ccl
  go_upto_region 10 with fail
  clear c5 c6 cc2 z0 z1 zl
  have hVs : w2.heap.size < (w2.alloc (Obj.cells #[.int .i64 a, .int .i64 b] 23)).heap.size := by simp
  generalize (w2.alloc (Obj.cells #[.int .i64 a, .int .i64 b] 23)) = V2 at *
  generalize w2.heap.size = bz at *
  obtain ⟨W3, hst2, hB2, hr2⟩ := store_card V2 k.cs rfl rfl
  obtain ⟨bx, hbx0⟩ : ∃ q, V2.heap.size = q := ⟨_, rfl⟩
  rw [hbx0] at hVs hB2
  have hst3 := hst2
  rw [hbx0] at hst3
  have hG3 : Gr V2 W3 := hr2
  have hbxl := hB2.lt
  have c7 := (HB2.out.grow hG3).cell (i := 7) rfl
  have cl7 := (HB2.out.grow hG3).lt
  obtain ⟨B3, hB3⟩ : ∃ q, W3.heap.size = q := ⟨_, rfl⟩
  have hG4 : Gr V2 (W3.alloc (.cells #[] 52)) := hG3.tr (Gr.alloc _ _)
  have HN := Lib.hid (news_things (w := W3.alloc (.cells #[] 52)) fun i t hi => (HCS.out i t hi).grow htb (HG2.out.tr hG4))
  have HOWN := Lib.hid (show (W3.alloc (.cells #[] 52)).ownsRow B3 52 9 (.slice (some ⟨B3, 0, none⟩) 0 0) 0 [] by have := own_none W3; rwa [hB3] at this)
  have HX4 := Lib.hid (hB2.grow (Gr.alloc W3 (.cells #[] 52)))
  have HB4 := Lib.hid (HB2.out.grow hG4)
  have HZ4 := Lib.hid (HZ2.out.grow hG4)
  have HG4 := Lib.hid (HG2.out.tr hG4)
  have hs4 : (W3.alloc (.cells #[] 52)).heap.size = B3 + 1 := by simp; omega
  have hbxB : bx < B3 := by rw [← hB3]; exact hbxl
  have cl7b : w.heap.size < B3 := by rw [← hB3]; exact cl7
  have c7b := HB4.out.cell (i := 7) rfl
  have htbB : tb < B3 := by have := hr2.size; have := HG2.out.size; omega
  clear hr2 hG3 hG4 hB2 hbxl
  go_wp2_with (first | (with_reducible refine wpList_stopLoad (ty := 28) rfl ?_; unfold Stop; first | refine wpList_loadBox row28 rfl (HB2.out) rfl rfl rfl ?_ | refine wpList_loadPartG row28 rfl (HB2.out) (Cd.whole k) rfl rfl rfl ?_) | (at_builtin; refine wpList_append_lies _ rfl _ _ 24 rfl B3 52 i0 _ 9 72 Tryz.underlying24 II0.out IZ0.out IZ1.out IZ2.out rfl (by decide) _ _ _ rfl HOWN.out ⟨tb, tof, none⟩ k.p.l.length k.cap (k.p.l.flatMap Th.vals) rfl HFL.out HN.out HONE.out ?c1 ?c2 ?c3 ?c4 _ rfl ?_))
  case c1 => omega
  case c2 => unfold maxLen; omega
  case c3 => omega
  case c4 => first | (simp; done) | (simp; omega) | omega
  intro g cap' w5 hown5 hgrow hat hlt
  try simp only [Nat.zero_add, List.nil_append] at hown5
  obtain ⟨-, hown5⟩ := hown5
  rcases hown5 with ⟨hv, -⟩ | ⟨g', cap'', cur, hv, hge, hcur, hcc, hcm, hcs', hct⟩
  · cases hv
  obtain ⟨rfl, -, rfl⟩ : g = g' ∧ k.p.l.length = k.p.l.length ∧ cap' = cap'' := by simpa using hv
  have nbx : some bx ≠ (Value.slice (some ⟨B3, 0, none⟩) 0 0).ownBlock := by simp [Value.ownBlock]; omega
  have nbw : some w.heap.size ≠ (Value.slice (some ⟨B3, 0, none⟩) 0 0).ownBlock := by simp [Value.ownBlock]; omega
  have nbz : some bz ≠ (Value.slice (some ⟨B3, 0, none⟩) 0 0).ownBlock := by simp [Value.ownBlock]; omega
  have hgB : B3 ≤ g := hge
  have hx5 := HX4.out.grown hgrow nbx
  have x7 := hx5.cell (i := 7) rfl
  have xl := hx5.lt
  have f7 := hx5.free 7
  have HX6 := Lib.hid (show Box (w5.setCell ⟨bx, 7, none⟩ (.slice (some ⟨g, 0, none⟩) k.p.l.length cap')) bx [.int .i64 k.p.fl, .int .i64 k.p.fh, .int .i64 k.p.bl, .int .i64 k.p.bh, .int .i64 k.p.ti, .int .i64 k.p.ne, .int .i64 k.p.fa, (.slice (some ⟨g, 0, none⟩) k.p.l.length cap'), .int .i64 k.half, .int .i64 k.step, .int .i64 k.cuts, .int .i64 k.elo, .int .i64 k.ehi, .int .i64 k.prism, .int .i64 k.squeeze, .int .i64 k.front, .int .i64 k.deep] 28 from hx5.put 7 (.slice (some ⟨g, 0, none⟩) k.p.l.length cap'))
  have HBG6 := Lib.hid (show Box (w5.setCell ⟨bx, 7, none⟩ (.slice (some ⟨g, 0, none⟩) k.p.l.length cap')) g cur.toList 52 from (show Box w5 g cur.toList 52 by unfold Box; simpa using hcur).other (by omega) 7 _)
  have HB6 := Lib.hid ((HB4.out.grown hgrow nbw).other (show w.heap.size ≠ bx by omega) 7 (.slice (some ⟨g, 0, none⟩) k.p.l.length cap'))
  have HZ6 := Lib.hid ((HZ4.out.grown hgrow nbz).other (show bz ≠ bx by omega) 7 (.slice (some ⟨g, 0, none⟩) k.p.l.length cap'))
  have HG6 := Lib.hid (show Below w.heap.size w (w5.setCell ⟨bx, 7, none⟩ (.slice (some ⟨g, 0, none⟩) k.p.l.length cap')) from ((show Below w.heap.size w (W3.alloc (.cells #[] 52)) from HG4.out).grown hgrow (show w.heap.size ≤ (W3.alloc (.cells #[] 52)).heap.size by omega) (fun q e => by simp [Value.ownBlock] at e; omega)).setCell (show w.heap.size ≤ bx by omega) _)
  have HCT := Lib.hid hct
  clear hv hcur hcc hcm hcs' hct hgrow hat hge hx5 nbx nbw nbz HN HOWN HX4 HB4 HZ4 HG4 hs4
  go_wp2_with fail
  clear x7 f7 xl c7 c7b cl7 cl7b hst2 hst3
  generalize (w5.setCell ⟨bx, 7, none⟩ (.slice (some ⟨g, 0, none⟩) k.p.l.length cap')) = W6 at *
  have x7 := HX6.out.cell (i := 7) rfl
  have xl := HX6.out.lt
  have z0 := HZ6.out.cell (i := 0) rfl
  have z1 := HZ6.out.cell (i := 1) rfl
  have zl := HZ6.out.lt
  refine region2 16 ?_ ?_ ?_
  · kernel_rfl
  · kernel_rfl
  simp only [List.take_succ_cons, List.take_zero, List.drop_succ_cons, List.drop_zero]
  apply chain_eq (D := [(11, none)]) rfl (by kernel_rfl)
  · intro ρ W ⟨p1, p2, p3⟩ hG hF K hK; (try simp [FactsD] at hF); have ⟨hc, hf, hz⟩ := bcell (Gr.tr (Gr.drew _) hG); go_simp; exact hK _ (gives_val)
  apply chain_eq (D := [(111, some 0)]) rfl (by kernel_rfl)
  · intro ρ W ⟨p1, p2, p3⟩ hG hF K hK; (try simp [FactsD] at hF); have ⟨hc, hf, hz⟩ := bcell (Gr.tr (Gr.drew _) hG); go_simp; exact hK _ (gives_val)
  apply chain_eq (D := [(112, some 0)]) rfl (by kernel_rfl)
  · intro ρ W ⟨p1, p2, p3⟩ hG hF K hK; (try simp [FactsD] at hF); have ⟨hc, hf, hz⟩ := bcell (Gr.tr (Gr.drew _) hG); go_simp; exact hK _ (gives_val)
  apply chain_eq (D := [(8, none)]) rfl (by kernel_rfl)
  · intro ρ W ⟨p1, p2, p3⟩ hG hF K hK; (try simp [FactsD] at hF); have ⟨hc, hf, hz⟩ := bcell (Gr.tr (Gr.drew _) hG); go_simp; exact hK _ (gives_val)
  apply chain_eq (D := [(9, none)]) rfl (by kernel_rfl)
  · intro ρ W ⟨p1, p2, p3⟩ hG hF K hK; (try simp [FactsD] at hF); have ⟨hc, hf, hz⟩ := bcell (Gr.tr (Gr.drew _) hG); go_simp; exact hK _ (gives_val)
  apply chain_eq (D := [(115, some 0)]) rfl (by kernel_rfl)
  · intro ρ W ⟨p1, p2, p3⟩ hG hF K hK; (try simp [FactsD] at hF); have ⟨hc, hf, hz⟩ := bcell (Gr.tr (Gr.drew _) hG); go_simp; exact hK _ (gives_val)
  apply chain_eq (D := [(2, none)]) rfl (by kernel_rfl)
  · intro ρ W ⟨p1, p2, p3⟩ hG hF K hK; (try simp [FactsD] at hF); have ⟨hc, hf, hz⟩ := bcell (Gr.tr (Gr.drew _) hG); go_simp; exact hK _ (gives_val)
  apply chain_eq (D := [(117, some 0)]) rfl (by kernel_rfl)
  · intro ρ W ⟨p1, p2, p3⟩ hG hF K hK; (try simp [FactsD] at hF); have ⟨hc, hf, hz⟩ := bcell (Gr.tr (Gr.drew _) hG); go_simp; exact hK _ (gives_val)
  apply chain_eq (D := [(9, none)]) rfl (by kernel_rfl)
  · intro ρ W ⟨p1, p2, p3⟩ hG hF K hK; (try simp [FactsD] at hF); have ⟨hc, hf, hz⟩ := bcell (Gr.tr (Gr.drew _) hG); go_simp; exact hK _ (gives_val)
  apply chain_eq (D := [(119, some 0)]) rfl (by kernel_rfl)
  · intro ρ W ⟨p1, p2, p3⟩ hG hF K hK; (try simp [FactsD] at hF); have ⟨hc, hf, hz⟩ := bcell (Gr.tr (Gr.drew _) hG); go_simp; exact hK _ (gives_val)
  apply chain_eq (D := [(9, none)]) rfl (by kernel_rfl)
  · intro ρ W ⟨p1, p2, p3⟩ hG hF K hK; (try simp [FactsD] at hF); have ⟨hc, hf, hz⟩ := bcell (Gr.tr (Gr.drew _) hG); go_simp; exact hK _ (gives_val)
  apply chain_eq (D := [(121, some 0)]) rfl (by kernel_rfl)
  · intro ρ W ⟨p1, p2, p3⟩ hG hF K hK; (try simp [FactsD] at hF); have ⟨hc, hf, hz⟩ := bcell (Gr.tr (Gr.drew _) hG); go_simp; exact hK _ (gives_val)
  apply chain_eq (D := [(120, some 2), (122, some 0)]) rfl (by kernel_rfl)
  · intro ρ W ⟨p1, p2, p3⟩ hG hF K hK; (try simp [FactsD] at hF); have ⟨hc, hf, hz⟩ := bcell (Gr.tr (Gr.drew _) hG); go_simp; exact hK _ (gives_val)
  apply chain_eq (D := [(123, some 0)]) rfl (by kernel_rfl)
  · intro ρ W ⟨p1, p2, p3⟩ hG hF K hK; (try simp [FactsD] at hF); have ⟨hc, hf, hz⟩ := bcell (Gr.tr (Gr.drew _) hG); go_simp; exact hK _ (gives_val)
  apply chain_eq (D := [(118, some 6), (124, some 0)]) rfl (by kernel_rfl)
  · intro ρ W ⟨p1, p2, p3⟩ hG hF K hK; (try simp [FactsD] at hF); have ⟨hc, hf, hz⟩ := bcell (Gr.tr (Gr.drew _) hG); go_simp; exact hK _ (gives_val)
  apply chain_eq (D := [(116, some 9), (125, some 0)]) rfl (by kernel_rfl)
  · intro ρ W ⟨p1, p2, p3⟩ hG hF K hK; (try simp [FactsD] at hF); have ⟨hc, hf, hz⟩ := bcell (Gr.tr (Gr.drew _) hG); go_simp; exact hK _ (gives_val)
  refine chain_done ?_
  intro vs W hG hV
  obtain ⟨e15, -, -, -, -, -, -, -, -, -, -, -, e3, e2, -⟩ := hV
  simp only [Nat.reduceSub] at e2
  simp only [Nat.reduceSub] at e3
  simp only [Nat.reduceSub] at e15
  simp only [lay, Act.put, List.getElem?_toArray, List.getElem?_cons_succ, List.getElem?_cons_zero, Option.bind_some, List.setIfInBounds_toArray, List.set_cons_succ, List.set_cons_zero]
  generalize vs 0 = v0
  generalize vs 1 = v1
  generalize vs 2 = v2 at *
  generalize vs 3 = v3 at *
  generalize vs 4 = v4
  generalize vs 5 = v5
  generalize vs 6 = v6
  generalize vs 7 = v7
  generalize vs 8 = v8
  generalize vs 9 = v9
  generalize vs 10 = v10
  generalize vs 11 = v11
  generalize vs 12 = v12
  generalize vs 13 = v13
  generalize vs 14 = v14
  generalize vs 15 = v15 at *
  subst e2
  subst e3
  subst e15
  obtain ⟨hc, hf, hz⟩ := bcell hG
  have htz : cur.toList[i * 9 + 8]? = some (.int .i64 t.z) := flat_take HCT.out HTT.out rfl
  have hg7 := HBG6.out.grow hG
  have hcz := hg7.cell htz
  have hfz := hg7.free (i * 9 + 8)
  have hgl := hg7.lt
  have HBG7 := Lib.hid (hg7.put (i * 9 + 8) (.int .i64 dz))
  have HX7 := Lib.hid ((HX6.out.grow hG).other (show bx ≠ g by omega) (i * 9 + 8) (.int .i64 dz))
  have HB7 := Lib.hid ((HB6.out.grow hG).other (show w.heap.size ≠ g by omega) (i * 9 + 8) (.int .i64 dz))
  have HG7 := Lib.hid (show Below w.heap.size w (W.setCell ⟨g, i * 9 + 8, none⟩ (.int .i64 dz)) from (show Below w.heap.size w W from bgr HG6.out HG6.out.size hG).setCell (show w.heap.size ≤ g by omega) _)
  clear hc hf hz hG hg7 x7 xl z0 z1 zl
  go_upto_region 13 with fail
  generalize (W.setCell ⟨g, i * 9 + 8, none⟩ (.int .i64 dz)) = W7 at *
  clear htz hcz hfz hgl
  obtain ⟨x, hx⟩ : ∃ x : Cd, x = { k with p := k.p.marked i dz, sp := some ⟨g, 0, none⟩, cap := cap' } := ⟨_, rfl⟩
  have hm : k.p.marked i dz = { k.p with l := k.p.l.set i (t.at dz) } := by unfold Pr.marked; rw [HTT.out]
  have hxcs : x.cs = [.int .i64 k.p.fl, .int .i64 k.p.fh, .int .i64 k.p.bl, .int .i64 k.p.bh, .int .i64 k.p.ti, .int .i64 k.p.ne, .int .i64 k.p.fa, (.slice (some ⟨g, 0, none⟩) k.p.l.length cap'), .int .i64 k.half, .int .i64 k.step, .int .i64 k.cuts, .int .i64 k.elo, .int .i64 k.ehi, .int .i64 k.prism, .int .i64 k.squeeze, .int .i64 k.front, .int .i64 k.deep] := by
    rw [hx]
    unfold Cd.cs
    rw [hm]
    simp
  have hxp : x.p = k.p.marked i dz := by rw [hx]
  have hxcu : x.cuts = k.cuts := by rw [hx]
  have HTX := Lib.hid (show ThingsAt x.p.l (.slice x.sp x.p.l.length x.cap) W7 by
    rw [hx]
    show ThingsAt (k.p.marked i dz).l (.slice (some ⟨g, 0, none⟩) (k.p.marked i dz).l.length cap') W7
    rw [hm]
    exact ThingsAt.boxp (T := 52) HBG7.out (by have := HL.out; simp; omega) (set_last HCT.out HTT.out))
  have HX7' := Lib.hid (show Box W7 bx x.cs 28 by rw [hxcs]; exact HX7.out)
  have HTP := Lib.hid (ThingsAt.lasts _ _ _ _ HT'.out (show Gr w W7 from HG7.out))
  have hdz : a ≤ dz ∧ dz ≤ b := by have := HDD.out; omega
  obtain ⟨hKn, -⟩ := known_of hok HTT.out hd.out hdz.1 hdz.2
  have hp0 : k.p.pw.1 ≤ k.p.pw.2 := by have := hKn.lo; have := hKn.mid; have := hKn.hi; omega
  have herr : k.err [] = 0 := by simp [Cd.err, hk, hok, hp0]
  have hxerr : x.err [] = 0 := by rw [hx]; exact hKn.err0 _ _ hk
  obtain ⟨m, hmm⟩ : ∃ m, m = setTo k.p.sees := ⟨_, rfl⟩
  obtain ⟨m', hmm'⟩ : ∃ m, m = setTo x.p.sees := ⟨_, rfl⟩
  have A1 : k.seenA = (((m : Nat) : Int), 0) := by unfold Cd.seenA; rw [if_pos herr, hmm]
  have A2 : x.seenA = (((m' : Nat) : Int), 0) := by unfold Cd.seenA; rw [if_pos hxerr, hmm']
  have hi12 : i < 12 := by have := (k.p.bounds hok).len; omega
  have hsub : ∀ r ∈ x.p.sees, r ∈ k.p.sees := fun r hr => hKn.sees (by rw [hxp] at hr; exact hr)
  have hm1 : m < 4096 := by rw [hmm]; exact sees_small2 hok
  have hm2 : m' < 4096 := by rw [hmm']; exact sees_small2 (by rw [hxp]; exact hKn.ok)
  have b1 : m.testBit i = true := by
    obtain ⟨v, hv⟩ := hKn.at_p
    rw [hmm]
    exact (setTo_bit _ _).2 ⟨_, Pr.sees_at hi hv, by simp⟩
  have b2 : m'.testBit i = true := by
    obtain ⟨v, hv⟩ := hKn.at_q
    rw [hmm', hxp]
    exact (setTo_bit _ _).2 ⟨_, Pr.sees_at (by rw [hKn.len]; exact hi) hv, by simp⟩
  have S1 : bits BinOp.and IntKind.i64 ((m : Int) / 2 ^ i) 1 = 1 := (bit_shr m i hm1 hi12).2 b1
  have S2 : bits BinOp.and IntKind.i64 ((m' : Int) / 2 ^ i) 1 = 1 := (bit_shr m' i hm2 hi12).2 b2
  have S3 : bits .andNot .i64 (m' : Int) (m : Int) = 0 := andNot_zero m' m hm2 hm1 fun j hj => by
    rw [hmm'] at hj
    rw [hmm]
    exact setTo_sub hsub j hj
  have hi64 : (0 : Int) ≤ (i : Int) ∧ (i : Int) ≤ 64 := by omega
  obtain ⟨hi641, hi642⟩ := hi64
  obtain ⟨t', v, e, f, A5, A6, hways⟩ := known_ways hKn hk hok (some ⟨g, 0, none⟩) cap'
  rw [← hx] at A6
  have HW := Lib.hid hways
  have HQ := Lib.hid (show x.p.power = (P, Q, 0) by rw [hxp]; exact hQ.out)
  have A1 := Lib.hid A1
  have A2 := Lib.hid A2
  have A5 := Lib.hid A5
  have A6 := Lib.hid A6
  have HX := Lib.hid hx
  have HCU := Lib.hid hxcu
  clear hx hm hxcs hxp hxcu hdz hKn hp0 herr hxerr hmm hmm' hsub hm1 hm2 b1 b2 hways HBG7 HX7 hi12
  clear Y1 Y2 Y3 Y4 Y5 Y6 Y7 Y8 hq0 hq1
  have HV7 := Lib.hid (show Gr W7 W7 from Gr.same W7)
  have HX7 := HX7'
  clear HX7'
  go_wp2_with (first | (with_reducible refine wpList_stopLoad (ty := 28) rfl ?_; unfold Stop; first | refine wpList_loadBox row28 rfl (HB7.out) rfl rfl rfl ?_ | refine wpList_loadBox row28 rfl (HX7.out) rfl rfl rfl ?_) | (with_reducible refine wpList_stopLoad (ty := 26) rfl ?_; unfold Stop; refine wpList_loadPart row26 rfl (HX7.out) (Cd.part26 x) rfl rfl rfl ?_))
  refine (power_is (p := x.p) HQ.out (ThingsAt.lasts _ _ _ _ HTX.out HV7.out)).mono ?_
  rintro e_ w8 ⟨rfl, hb⟩
  have hga := Gr.tr hb (Gr.alloc w8 (Obj.cells #[.int .i64 P, .int .i64 Q] 23))
  have HV8 := Lib.hid (Gr.tr HV7.out hga)
  have HB8 := Lib.hid (HB7.out.grow hga)
  have HX8 := Lib.hid (HX7.out.grow hga)
  clear HB7 HX7 HV7 
  clear hb hga
  go_wp2_with (first | (with_reducible refine wpList_stopLoad (ty := 28) rfl ?_; unfold Stop; first | refine wpList_loadBox row28 rfl (HB8.out) rfl rfl rfl ?_ | refine wpList_loadBox row28 rfl (HX8.out) rfl rfl rfl ?_) | (with_reducible refine wpList_stopLoad (ty := 26) rfl ?_; unfold Stop; refine wpList_loadPart row26 rfl (HX8.out) (Cd.part26 x) rfl rfl rfl ?_))
  refine (seen_is A1.out (ThingsAt.lasts _ _ _ _ HTP.out HV8.out)).mono ?_
  rintro e_ w9 ⟨rfl, hb⟩
  have hga : Gr _ w9 := hb
  have HV9 := Lib.hid (Gr.tr HV8.out hga)
  have HB9 := Lib.hid (HB8.out.grow hga)
  have HX9 := Lib.hid (HX8.out.grow hga)
  clear HB8 HX8 HV8 
  clear hb hga
  go_wp2_with (first | (with_reducible refine wpList_stopLoad (ty := 28) rfl ?_; unfold Stop; first | refine wpList_loadBox row28 rfl (HB9.out) rfl rfl rfl ?_ | refine wpList_loadBox row28 rfl (HX9.out) rfl rfl rfl ?_) | (with_reducible refine wpList_stopLoad (ty := 26) rfl ?_; unfold Stop; refine wpList_loadPart row26 rfl (HX9.out) (Cd.part26 x) rfl rfl rfl ?_))
  refine (seen_is A2.out (ThingsAt.lasts _ _ _ _ HTX.out HV9.out)).mono ?_
  rintro e_ w10 ⟨rfl, hb⟩
  have hga : Gr _ w10 := hb
  have HV10 := Lib.hid (Gr.tr HV9.out hga)
  have HB10 := Lib.hid (HB9.out.grow hga)
  have HX10 := Lib.hid (HX9.out.grow hga)
  clear HB9 HX9 HV9 
  clear hb hga
  go_wp2_with (first | (with_reducible refine wpList_stopLoad (ty := 28) rfl ?_; unfold Stop; first | refine wpList_loadBox row28 rfl (HB10.out) rfl rfl rfl ?_ | refine wpList_loadBox row28 rfl (HX10.out) rfl rfl rfl ?_) | (with_reducible refine wpList_stopLoad (ty := 26) rfl ?_; unfold Stop; refine wpList_loadPart row26 rfl (HX10.out) (Cd.part26 x) rfl rfl rfl ?_))
  refine (mtrim_is A5.out (ThingsAt.lasts _ _ _ _ HTP.out HV10.out)).mono ?_
  rintro e_ w11 ⟨rfl, hb⟩
  have hga := Gr.tr hb (Gr.alloc w11 (Obj.cells #[.int .i64 t'.a, .int .i64 t'.b, .int .i64 t'.c, .int .i64 t'.d] 30))
  have HV11 := Lib.hid (Gr.tr HV10.out hga)
  have HB11 := Lib.hid (HB10.out.grow hga)
  have HX11 := Lib.hid (HX10.out.grow hga)
  clear HB10 HX10 HV10 
  have HSA5_11 := Lib.hid (Box.fresh w11 [.int .i64 t'.a, .int .i64 t'.b, .int .i64 t'.c, .int .i64 t'.d] 30)
  clear hb hga
  have hsz11 : w11.heap.size < (w11.alloc (Obj.cells #[.int .i64 t'.a, .int .i64 t'.b, .int .i64 t'.c, .int .i64 t'.d] 30)).heap.size := by simp
  go_wp2_with (first | (with_reducible refine wpList_stopLoad (ty := 28) rfl ?_; unfold Stop; first | refine wpList_loadBox row28 rfl (HB11.out) rfl rfl rfl ?_ | refine wpList_loadBox row28 rfl (HX11.out) rfl rfl rfl ?_) | (with_reducible refine wpList_stopLoad (ty := 26) rfl ?_; unfold Stop; refine wpList_loadPart row26 rfl (HX11.out) (Cd.part26 x) rfl rfl rfl ?_))
  refine (mtrim_is A6.out (ThingsAt.lasts _ _ _ _ HTX.out HV11.out)).mono ?_
  rintro e_ w12 ⟨rfl, hb⟩
  have hga := Gr.tr hb (Gr.alloc w12 (Obj.cells #[.int .i64 v.a, .int .i64 v.b, .int .i64 v.c, .int .i64 v.d] 30))
  have HV12 := Lib.hid (Gr.tr HV11.out hga)
  have HB12 := Lib.hid (HB11.out.grow hga)
  have HX12 := Lib.hid (HX11.out.grow hga)
  have HSA5_12 := Lib.hid (HSA5_11.out.grow hga)
  clear HB11 HX11 HV11 HSA5_11
  have HSA6_12 := Lib.hid (Box.fresh w12 [.int .i64 v.a, .int .i64 v.b, .int .i64 v.c, .int .i64 v.d] 30)
  clear hb hga
  have hsz12 : w12.heap.size < (w12.alloc (Obj.cells #[.int .i64 v.a, .int .i64 v.b, .int .i64 v.c, .int .i64 v.d] 30)).heap.size := by simp
  rcases HW.out with ⟨rfl, hf⟩ | ⟨rfl, rfl, ht', hv', hsum, A8, a1, a2, b1, b2, A9, A10, hab1, hab2, d1, d2, de, g1, g2, ge, A11, A12, hways⟩
  · have HF := Lib.hid hf
    clear hf
    rcases HF.out with rfl | rfl
    all_goals
      go_wp2_with fail
      refine (awake03_any _).mono ?_
      rintro e wz ⟨rfl, hbz⟩
      go_wp2
      exact bodyPost_ret (v := .bool true) (by simp [results, Tryz.results12, go_sem]) rfl ⟨rfl, Gr.tr (show Gr w _ from Gr.tr HG7.out HV12.out) hbz⟩
  · have A8 := Lib.hid A8
    have A9 := Lib.hid A9
    have A10 := Lib.hid A10
    have A11 := Lib.hid A11
    have A12 := Lib.hid A12
    rw [← HX.out] at A8 A10 A12
    have HWW := Lib.hid hways
    have HAB1 := Lib.hid hab1
    have HAB2 := Lib.hid hab2
    have htl := isT_leM2 ht'
    have hvl := isT_leM2 hv'
    have T1 := Lib.hid (fun W => (show Calls Tryz.prog 29 #[.agg k.cs.toArray, .agg #[.int .i64 t'.a, .int .i64 t'.b, .int .i64 t'.c, .int .i64 t'.d]] W fun e w' => e = .returned (.bool true) ∧ Below W.heap.size W w' by have := rtrimming_any k t' W (by omega); rwa [ht'] at this))
    have T2 := Lib.hid (fun W => (show Calls Tryz.prog 29 #[.agg x.cs.toArray, .agg #[.int .i64 v.a, .int .i64 v.b, .int .i64 v.c, .int .i64 v.d]] W fun e w' => e = .returned (.bool true) ∧ Below W.heap.size W w' by have := rtrimming_any x v W (by rw [HCU.out]; omega); rwa [HCU.out, hv'] at this))
    obtain ⟨ST, hST⟩ : ∃ s, t'.a + t'.b + t'.c + t'.d = s := ⟨_, rfl⟩
    obtain ⟨SV, hSV⟩ : ∃ s, v.a + v.b + v.c + v.d = s := ⟨_, rfl⟩
    rw [hST, hSV] at hsum
    have S5 := Lib.hid (fun W => (show Calls Tryz.prog 34 #[.agg #[.int .i64 t'.a, .int .i64 t'.b, .int .i64 t'.c, .int .i64 t'.d]] W fun e w' => e = .returned (.int .i64 ST) ∧ Below W.heap.size W w' by have := rsum_any t' W (by omega) (by omega) (by omega) (by omega); rwa [hST] at this))
    have S6 := Lib.hid (fun W => (show Calls Tryz.prog 34 #[.agg #[.int .i64 v.a, .int .i64 v.b, .int .i64 v.c, .int .i64 v.d]] W fun e w' => e = .returned (.int .i64 SV) ∧ Below W.heap.size W w' by have := rsum_any v W (by omega) (by omega) (by omega) (by omega); rwa [hSV] at this))
    have hsd : decide (ST < SV) = false := by simpa using hsum
    clear hST hSV hsum htl hvl ht' hv' hways hab1 hab2
    go_upto_region 24 with fail
    generalize (w12.alloc (Obj.cells #[.int .i64 v.a, .int .i64 v.b, .int .i64 v.c, .int .i64 v.d] 30)) = V12 at *
    generalize w12.heap.size = bq at *
    have zA5_0 := HSA5_12.out.cell (i := 0) rfl
    have zA5_1 := HSA5_12.out.cell (i := 1) rfl
    have zA5_2 := HSA5_12.out.cell (i := 2) rfl
    have zA5_3 := HSA5_12.out.cell (i := 3) rfl
    have zA6_0 := HSA6_12.out.cell (i := 0) rfl
    have zA6_1 := HSA6_12.out.cell (i := 1) rfl
    have zA6_2 := HSA6_12.out.cell (i := 2) rfl
    have zA6_3 := HSA6_12.out.cell (i := 3) rfl
    have zA5_l := HSA5_12.out.lt
    have zA6_l := HSA6_12.out.lt
    refine region2 16 ?_ ?_ ?_
    · kernel_rfl
    · kernel_rfl
    simp only [List.take_succ_cons, List.take_zero, List.drop_succ_cons, List.drop_zero]
    apply chain_eq (D := [(3, none)]) rfl (by kernel_rfl)
    · intro ρ W ⟨p1, p2, p3⟩ hG hF K hK; (try simp [FactsD] at hF); rw [exec_loadBox row28 rfl (HB12.out.grow (Gr.tr (Gr.drew _) hG)) rfl hF]; exact hK _ gives_val
    apply chain_eq (D := [(18, none)]) rfl (by kernel_rfl)
    · intro ρ W ⟨p1, p2, p3⟩ hG hF K hK; (try simp [FactsD] at hF); have ⟨hc, hf, hz⟩ := bcell (Gr.tr (Gr.drew _) hG); go_simp; exact hK _ (gives_val)
    apply chain_eq (D := [(210, some 1), (211, some 0)]) rfl (by kernel_rfl)
    · intro ρ W ⟨p1, p2, p3⟩ hG hF K hK; (try simp [FactsD] at hF); have ⟨hc, hf, hz⟩ := bcell (Gr.tr (Gr.drew _) hG); go_simp; exact hK _ (gives_call (T1.out _))
    apply chain_eq (D := [(212, some 0)]) rfl (by kernel_rfl)
    · intro ρ W ⟨p1, p2, p3⟩ hG hF K hK; (try simp [FactsD] at hF); have ⟨hc, hf, hz⟩ := bcell (Gr.tr (Gr.drew _) hG); go_simp; exact hK _ (gives_val)
    apply chain_eq (D := [(213, some 0)]) rfl (by kernel_rfl)
    · intro ρ W ⟨p1, p2, p3⟩ hG hF K hK; (try simp [FactsD] at hF); have ⟨hc, hf, hz⟩ := bcell (Gr.tr (Gr.drew _) hG); go_simp; exact hK _ (gives_val)
    apply chain_leq (D := [(11, none), (214, some 0)]) (by kernel_rfl)
    · intro ρ W hF; (try simp [FactsD] at hF); simp [Lets, *]
    · intro ρ W ⟨p1, p2, p3⟩ hG hF K hK; (try simp [FactsD] at hF); rw [exec_loadBox row28 rfl (HX12.out.grow (Gr.tr (Gr.drew _) hG)) rfl hF.1]; exact hK _ gives_val
    apply chain_leq (D := [(20, none), (214, some 1)]) (by kernel_rfl)
    · intro ρ W hF; (try simp [FactsD] at hF); simp [Lets, *]
    · intro ρ W ⟨p1, p2, p3⟩ hG hF K hK; (try simp [FactsD] at hF); have ⟨hc, hf, hz⟩ := bcell (Gr.tr (Gr.drew _) hG); go_simp; exact hK _ (gives_val)
    apply chain_leq (D := [(215, some 1), (216, some 0), (214, some 2)]) (by kernel_rfl)
    · intro ρ W hF; (try simp [FactsD] at hF); simp [Lets, *]
    · intro ρ W ⟨p1, p2, p3⟩ hG hF K hK; (try simp [FactsD] at hF); have ⟨hc, hf, hz⟩ := bcell (Gr.tr (Gr.drew _) hG); go_simp; exact hK _ (gives_call (T2.out _))
    apply chain_leq (D := [(217, some 0), (214, some 3)]) (by kernel_rfl)
    · intro ρ W hF; (try simp [FactsD] at hF); simp [Lets, *]
    · intro ρ W ⟨p1, p2, p3⟩ hG hF K hK; (try simp [FactsD] at hF); have ⟨hc, hf, hz⟩ := bcell (Gr.tr (Gr.drew _) hG); go_simp; exact hK _ (gives_val)
    apply chain_eq (D := [(214, some 4), (218, some 0)]) rfl (by kernel_rfl)
    · intro ρ W ⟨p1, p2, p3⟩ hG hF K hK; (try simp [FactsD] at hF); have ⟨hc, hf, hz⟩ := bcell (Gr.tr (Gr.drew _) hG); go_simp; exact hK _ (gives_val)
    apply chain_eq (D := [(219, some 0)]) rfl (by kernel_rfl)
    · intro ρ W ⟨p1, p2, p3⟩ hG hF K hK; (try simp [FactsD] at hF); have ⟨hc, hf, hz⟩ := bcell (Gr.tr (Gr.drew _) hG); go_simp; exact hK _ (gives_val)
    apply chain_leq (D := [(20, none), (220, some 0)]) (by kernel_rfl)
    · intro ρ W hF; (try simp [FactsD] at hF); simp [Lets, *]
    · intro ρ W ⟨p1, p2, p3⟩ hG hF K hK; (try simp [FactsD] at hF); have ⟨hc, hf, hz⟩ := bcell (Gr.tr (Gr.drew _) hG); go_simp; exact hK _ (gives_val)
    apply chain_leq (D := [(221, some 0), (220, some 1)]) (by kernel_rfl)
    · intro ρ W hF; (try simp [FactsD] at hF); simp [Lets, *]
    · intro ρ W ⟨p1, p2, p3⟩ hG hF K hK; (try simp [FactsD] at hF); have ⟨hc, hf, hz⟩ := bcell (Gr.tr (Gr.drew _) hG); go_simp; exact hK _ (gives_call (S6.out _))
    apply chain_leq (D := [(18, none), (220, some 2)]) (by kernel_rfl)
    · intro ρ W hF; (try simp [FactsD] at hF); simp [Lets, *]
    · intro ρ W ⟨p1, p2, p3⟩ hG hF K hK; (try simp [FactsD] at hF); have ⟨hc, hf, hz⟩ := bcell (Gr.tr (Gr.drew _) hG); go_simp; exact hK _ (gives_val)
    apply chain_leq (D := [(223, some 0), (220, some 3)]) (by kernel_rfl)
    · intro ρ W hF; (try simp [FactsD] at hF); simp [Lets, *]
    · intro ρ W ⟨p1, p2, p3⟩ hG hF K hK; (try simp [FactsD] at hF); have ⟨hc, hf, hz⟩ := bcell (Gr.tr (Gr.drew _) hG); go_simp; exact hK _ (gives_call (S5.out _))
    apply chain_leq (D := [(222, some 2), (224, some 0), (220, some 4)]) (by kernel_rfl)
    · intro ρ W hF; (try simp [FactsD] at hF); simp [Lets, *]
    · intro ρ W ⟨p1, p2, p3⟩ hG hF K hK; (try simp [FactsD] at hF); have ⟨hc, hf, hz⟩ := bcell (Gr.tr (Gr.drew _) hG); go_simp; exact hK _ (gives_val)
    refine chain_done ?_
    intro vs W hG hV
    obtain ⟨e15, -, -, -, -, e10, -⟩ := hV
    simp only [Nat.reduceSub] at e10
    simp only [Nat.reduceSub] at e15
    simp only [lay, Act.put, List.getElem?_toArray, List.getElem?_cons_succ, List.getElem?_cons_zero, Option.bind_some, List.setIfInBounds_toArray, List.set_cons_succ, List.set_cons_zero]
    generalize vs 0 = v0
    generalize vs 1 = v1
    generalize vs 2 = v2
    generalize vs 3 = v3
    generalize vs 4 = v4
    generalize vs 5 = v5
    generalize vs 6 = v6
    generalize vs 7 = v7
    generalize vs 8 = v8
    generalize vs 9 = v9
    generalize vs 10 = v10 at *
    generalize vs 11 = v11
    generalize vs 12 = v12
    generalize vs 13 = v13
    generalize vs 14 = v14
    generalize vs 15 = v15 at *
    subst e10
    subst e15
    obtain ⟨hc, hf, hz⟩ := bcell hG
    clear hc hf hz
    clear zA5_0 zA5_1 zA5_2 zA5_3 zA5_l zA6_0 zA6_1 zA6_2 zA6_3 zA6_l
    have HV13 := Lib.hid (Gr.tr HV12.out hG)
    have HB13 := Lib.hid (HB12.out.grow hG)
    have HX13 := Lib.hid (HX12.out.grow hG)
    have HSA5_13 := Lib.hid (HSA5_12.out.grow hG)
    clear hG HB12 HX12 HV12 HSA5_12 HSA6_12
    have zA5_0 := HSA5_13.out.cell (i := 0) rfl
    have zA5_1 := HSA5_13.out.cell (i := 1) rfl
    have zA5_2 := HSA5_13.out.cell (i := 2) rfl
    have zA5_3 := HSA5_13.out.cell (i := 3) rfl
    have zA5_l := HSA5_13.out.lt
    go_wp2_with (first | (with_reducible refine wpList_stopLoad (ty := 28) rfl ?_; unfold Stop; first | refine wpList_loadBox row28 rfl (HB13.out) rfl rfl rfl ?_ | refine wpList_loadBox row28 rfl (HX13.out) rfl rfl rfl ?_) | (with_reducible refine wpList_stopLoad (ty := 26) rfl ?_; unfold Stop; refine wpList_loadPart row26 rfl (HX13.out) (Cd.part26 x) rfl rfl rfl ?_))
    refine (hurts_is A8.out (ThingsAt.lasts _ _ _ _ HTX.out HV13.out)).mono ?_
    rintro e_ w14 ⟨rfl, hb⟩
    clear zA5_0 zA5_1 zA5_2 zA5_3 zA5_l
    have hga : Gr _ w14 := hb
    have HV14 := Lib.hid (Gr.tr HV13.out hga)
    have HB14 := Lib.hid (HB13.out.grow hga)
    have HX14 := Lib.hid (HX13.out.grow hga)
    have HSA5_14 := Lib.hid (HSA5_13.out.grow hga)
    clear HB13 HX13 HV13 HSA5_13
    clear hb hga
    have zA5_0 := HSA5_14.out.cell (i := 0) rfl
    have zA5_1 := HSA5_14.out.cell (i := 1) rfl
    have zA5_2 := HSA5_14.out.cell (i := 2) rfl
    have zA5_3 := HSA5_14.out.cell (i := 3) rfl
    have zA5_l := HSA5_14.out.lt
    go_wp2_with (first | (with_reducible refine wpList_stopLoad (ty := 28) rfl ?_; unfold Stop; first | refine wpList_loadBox row28 rfl (HB14.out) rfl rfl rfl ?_ | refine wpList_loadBox row28 rfl (HX14.out) rfl rfl rfl ?_) | (with_reducible refine wpList_stopLoad (ty := 26) rfl ?_; unfold Stop; refine wpList_loadPart row26 rfl (HX14.out) (Cd.part26 x) rfl rfl rfl ?_))
    refine (eyes_is A9.out (ThingsAt.lasts _ _ _ _ HTP.out HV14.out)).mono ?_
    rintro e_ w15 ⟨rfl, hb⟩
    clear zA5_0 zA5_1 zA5_2 zA5_3 zA5_l
    have hga := Gr.tr hb (Gr.alloc w15 (Obj.cells #[.int .i64 a1, .int .i64 a2] 23))
    have HV15 := Lib.hid (Gr.tr HV14.out hga)
    have HB15 := Lib.hid (HB14.out.grow hga)
    have HX15 := Lib.hid (HX14.out.grow hga)
    have HSA5_15 := Lib.hid (HSA5_14.out.grow hga)
    clear HB14 HX14 HV14 HSA5_14
    have HSA9_15 := Lib.hid (Box.fresh w15 [.int .i64 a1, .int .i64 a2] 23)
    clear hb hga
    have hsz15 : w15.heap.size < (w15.alloc (Obj.cells #[.int .i64 a1, .int .i64 a2] 23)).heap.size := by simp
    have zA5_0 := HSA5_15.out.cell (i := 0) rfl
    have zA5_1 := HSA5_15.out.cell (i := 1) rfl
    have zA5_2 := HSA5_15.out.cell (i := 2) rfl
    have zA5_3 := HSA5_15.out.cell (i := 3) rfl
    have zA5_l := HSA5_15.out.lt
    go_wp2_with (first | (with_reducible refine wpList_stopLoad (ty := 28) rfl ?_; unfold Stop; first | refine wpList_loadBox row28 rfl (HB15.out) rfl rfl rfl ?_ | refine wpList_loadBox row28 rfl (HX15.out) rfl rfl rfl ?_) | (with_reducible refine wpList_stopLoad (ty := 26) rfl ?_; unfold Stop; refine wpList_loadPart row26 rfl (HX15.out) (Cd.part26 x) rfl rfl rfl ?_))
    refine (eyes_is A10.out (ThingsAt.lasts _ _ _ _ HTX.out HV15.out)).mono ?_
    rintro e_ w16 ⟨rfl, hb⟩
    clear zA5_0 zA5_1 zA5_2 zA5_3 zA5_l
    have hga := Gr.tr hb (Gr.alloc w16 (Obj.cells #[.int .i64 b1, .int .i64 b2] 23))
    have HV16 := Lib.hid (Gr.tr HV15.out hga)
    have HB16 := Lib.hid (HB15.out.grow hga)
    have HX16 := Lib.hid (HX15.out.grow hga)
    have HSA5_16 := Lib.hid (HSA5_15.out.grow hga)
    have HSA9_16 := Lib.hid (HSA9_15.out.grow hga)
    clear HB15 HX15 HV15 HSA5_15 HSA9_15
    have HSA10_16 := Lib.hid (Box.fresh w16 [.int .i64 b1, .int .i64 b2] 23)
    clear hb hga
    have hsz16 : w16.heap.size < (w16.alloc (Obj.cells #[.int .i64 b1, .int .i64 b2] 23)).heap.size := by simp
    have zA5_0 := HSA5_16.out.cell (i := 0) rfl
    have zA5_1 := HSA5_16.out.cell (i := 1) rfl
    have zA5_2 := HSA5_16.out.cell (i := 2) rfl
    have zA5_3 := HSA5_16.out.cell (i := 3) rfl
    have zA5_l := HSA5_16.out.lt
    go_wp2_with (first | (with_reducible refine wpList_stopLoad (ty := 28) rfl ?_; unfold Stop; first | refine wpList_loadBox row28 rfl (HB16.out) rfl rfl rfl ?_ | refine wpList_loadBox row28 rfl (HX16.out) rfl rfl rfl ?_) | (with_reducible refine wpList_stopLoad (ty := 26) rfl ?_; unfold Stop; refine wpList_loadPart row26 rfl (HX16.out) (Cd.part26 x) rfl rfl rfl ?_))
    refine (mdeep_is A11.out (ThingsAt.lasts _ _ _ _ HTP.out HV16.out)).mono ?_
    rintro e_ w17 ⟨rfl, hb⟩
    clear zA5_0 zA5_1 zA5_2 zA5_3 zA5_l
    have hga := Gr.tr hb (Gr.alloc w17 (Obj.cells #[.int .i64 d1, .int .i64 d2] 23))
    have HV17 := Lib.hid (Gr.tr HV16.out hga)
    have HB17 := Lib.hid (HB16.out.grow hga)
    have HX17 := Lib.hid (HX16.out.grow hga)
    have HSA5_17 := Lib.hid (HSA5_16.out.grow hga)
    have HSA9_17 := Lib.hid (HSA9_16.out.grow hga)
    have HSA10_17 := Lib.hid (HSA10_16.out.grow hga)
    clear HB16 HX16 HV16 HSA5_16 HSA9_16 HSA10_16
    have HSA11_17 := Lib.hid (Box.fresh w17 [.int .i64 d1, .int .i64 d2] 23)
    clear hb hga
    have hsz17 : w17.heap.size < (w17.alloc (Obj.cells #[.int .i64 d1, .int .i64 d2] 23)).heap.size := by simp
    have zA5_0 := HSA5_17.out.cell (i := 0) rfl
    have zA5_1 := HSA5_17.out.cell (i := 1) rfl
    have zA5_2 := HSA5_17.out.cell (i := 2) rfl
    have zA5_3 := HSA5_17.out.cell (i := 3) rfl
    have zA5_l := HSA5_17.out.lt
    go_wp2_with (first | (with_reducible refine wpList_stopLoad (ty := 28) rfl ?_; unfold Stop; first | refine wpList_loadBox row28 rfl (HB17.out) rfl rfl rfl ?_ | refine wpList_loadBox row28 rfl (HX17.out) rfl rfl rfl ?_) | (with_reducible refine wpList_stopLoad (ty := 26) rfl ?_; unfold Stop; refine wpList_loadPart row26 rfl (HX17.out) (Cd.part26 x) rfl rfl rfl ?_))
    refine (mdeep_is A12.out (ThingsAt.lasts _ _ _ _ HTX.out HV17.out)).mono ?_
    rintro e_ w18 ⟨rfl, hb⟩
    clear zA5_0 zA5_1 zA5_2 zA5_3 zA5_l
    have hga := Gr.tr hb (Gr.alloc w18 (Obj.cells #[.int .i64 g1, .int .i64 g2] 23))
    have HV18 := Lib.hid (Gr.tr HV17.out hga)
    have HB18 := Lib.hid (HB17.out.grow hga)
    have HX18 := Lib.hid (HX17.out.grow hga)
    have HSA5_18 := Lib.hid (HSA5_17.out.grow hga)
    have HSA9_18 := Lib.hid (HSA9_17.out.grow hga)
    have HSA10_18 := Lib.hid (HSA10_17.out.grow hga)
    have HSA11_18 := Lib.hid (HSA11_17.out.grow hga)
    clear HB17 HX17 HV17 HSA5_17 HSA9_17 HSA10_17 HSA11_17
    have HSA12_18 := Lib.hid (Box.fresh w18 [.int .i64 g1, .int .i64 g2] 23)
    clear hb hga
    have hsz18 : w18.heap.size < (w18.alloc (Obj.cells #[.int .i64 g1, .int .i64 g2] 23)).heap.size := by simp
    clear HB18 HX18 HSA5_18
    have zA9_0 := HSA9_18.out.cell (i := 0) rfl
    have zA9_1 := HSA9_18.out.cell (i := 1) rfl
    have zA10_0 := HSA10_18.out.cell (i := 0) rfl
    have zA10_1 := HSA10_18.out.cell (i := 1) rfl
    have zA11_0 := HSA11_18.out.cell (i := 0) rfl
    have zA11_1 := HSA11_18.out.cell (i := 1) rfl
    have zA12_0 := HSA12_18.out.cell (i := 0) rfl
    have zA12_1 := HSA12_18.out.cell (i := 1) rfl
    have zA9_l := HSA9_18.out.lt
    have zA10_l := HSA10_18.out.lt
    have zA11_l := HSA11_18.out.lt
    have zA12_l := HSA12_18.out.lt
    go_upto_region 34 with fail
    generalize (w18.alloc (Obj.cells #[.int .i64 g1, .int .i64 g2] 23)) = V18 at *
    generalize w18.heap.size = bq18 at *
    rcases HWW.out with hde | ⟨rfl, rfl, hg1, hg2⟩
    · have hde1 : (de == 0) = false := by simpa using hde
      have hde2 : (de != 0) = true := by simpa using hde
      go_wp2_with fail
      refine (kspanin_yes HAB1.out HAB2.out).mono ?_
      rintro e_ w19 ⟨rfl, hb⟩
      have HV19 := Lib.hid (Gr.tr HV18.out hb)
      have HSA9_19 := Lib.hid (HSA9_18.out.grow hb)
      have HSA10_19 := Lib.hid (HSA10_18.out.grow hb)
      have HSA11_19 := Lib.hid (HSA11_18.out.grow hb)
      have HSA12_19 := Lib.hid (HSA12_18.out.grow hb)
      clear hb HSA9_18 HSA10_18 HSA11_18 HSA12_18
      clear zA9_0 zA9_1 zA9_l zA10_0 zA10_1 zA10_l zA11_0 zA11_1 zA11_l zA12_0 zA12_1 zA12_l
      have zA9_0 := HSA9_19.out.cell (i := 0) rfl
      have zA9_1 := HSA9_19.out.cell (i := 1) rfl
      have zA10_0 := HSA10_19.out.cell (i := 0) rfl
      have zA10_1 := HSA10_19.out.cell (i := 1) rfl
      have zA11_0 := HSA11_19.out.cell (i := 0) rfl
      have zA11_1 := HSA11_19.out.cell (i := 1) rfl
      have zA12_0 := HSA12_19.out.cell (i := 0) rfl
      have zA12_1 := HSA12_19.out.cell (i := 1) rfl
      have zA9_l := HSA9_19.out.lt
      have zA10_l := HSA10_19.out.lt
      have zA11_l := HSA11_19.out.lt
      have zA12_l := HSA12_19.out.lt
      go_wp2_with fail
      refine (awake03_any _).mono ?_
      rintro e wz ⟨rfl, hbz⟩
      go_wp2
      exact bodyPost_ret (v := .bool true) (by simp [results, Tryz.results12, go_sem]) rfl ⟨rfl, Gr.tr (show Gr w _ from Gr.tr HG7.out HV19.out) hbz⟩
    · go_wp2_with fail
      refine (kspanin_yes HAB1.out HAB2.out).mono ?_
      rintro e_ w19 ⟨rfl, hb⟩
      have HV19 := Lib.hid (Gr.tr HV18.out hb)
      have HSA9_19 := Lib.hid (HSA9_18.out.grow hb)
      have HSA10_19 := Lib.hid (HSA10_18.out.grow hb)
      have HSA11_19 := Lib.hid (HSA11_18.out.grow hb)
      have HSA12_19 := Lib.hid (HSA12_18.out.grow hb)
      clear hb HSA9_18 HSA10_18 HSA11_18 HSA12_18
      clear zA9_0 zA9_1 zA9_l zA10_0 zA10_1 zA10_l zA11_0 zA11_1 zA11_l zA12_0 zA12_1 zA12_l
      have zA9_0 := HSA9_19.out.cell (i := 0) rfl
      have zA9_1 := HSA9_19.out.cell (i := 1) rfl
      have zA10_0 := HSA10_19.out.cell (i := 0) rfl
      have zA10_1 := HSA10_19.out.cell (i := 1) rfl
      have zA11_0 := HSA11_19.out.cell (i := 0) rfl
      have zA11_1 := HSA11_19.out.cell (i := 1) rfl
      have zA12_0 := HSA12_19.out.cell (i := 0) rfl
      have zA12_1 := HSA12_19.out.cell (i := 1) rfl
      have zA9_l := HSA9_19.out.lt
      have zA10_l := HSA10_19.out.lt
      have zA11_l := HSA11_19.out.lt
      have zA12_l := HSA12_19.out.lt
      go_wp2_with fail
      refine (kspanin_yes hg1 hg2).mono ?_
      rintro e_ w20 ⟨rfl, hb⟩
      have HV20 := Lib.hid (Gr.tr HV19.out hb)
      have HSA9_20 := Lib.hid (HSA9_19.out.grow hb)
      have HSA10_20 := Lib.hid (HSA10_19.out.grow hb)
      have HSA11_20 := Lib.hid (HSA11_19.out.grow hb)
      have HSA12_20 := Lib.hid (HSA12_19.out.grow hb)
      clear hb HSA9_19 HSA10_19 HSA11_19 HSA12_19
      clear zA9_0 zA9_1 zA9_l zA10_0 zA10_1 zA10_l zA11_0 zA11_1 zA11_l zA12_0 zA12_1 zA12_l
      go_wp2_with fail
      refine (awake03_any _).mono ?_
      rintro e wz ⟨rfl, hbz⟩
      go_wp2
      exact bodyPost_ret (v := .bool true) (by simp [results, Tryz.results12, go_sem]) rfl ⟨rfl, Gr.tr (show Gr w _ from Gr.tr HG7.out HV20.out) hbz⟩
end Go.Proofs.YtcngaohfemdfjaaGreat
