import Derived.Test.YtcngaohfemdfjaaGreatY34
import Derived.Test.YtcngaohfemdfjaaGreatY33
import Derived.Test.YtcngaohfemdfjaaGreatX57
import Derived.Test.YtcngaohfemdfjaaGreatXg
import Derived.RegionTactic
import Derived.Deep.CutBlock
import Derived.Deep.DeepCutAuto
import Derived.Deep.AppendLies
import Derived.OwnWalk
set_option linter.unusedVariables false
set_option linter.unusedSimpArgs false
namespace Go.Proofs.YtcngaohfemdfjaaGreat
open Go.RowKit
set_option maxRecDepth 100000 in
set_option maxHeartbeats 60000000 in
theorem mturned_main (k : Cd) (u : Cu) (w : World) (sp : Option Addr) (hspe : k.sp = sp) (hl : k.p.l.length ≤ 40) (hT : ThingsAt k.p.l (.slice sp k.p.l.length k.cap) w) (hc : Hid ((k.okc && k.p.ok) = true)) (hn : k.cuts ≤ 20) (hk : k.okc = true) (hok : k.p.ok = true) :
    Calls Tryz.prog 11 #[.agg k.cs.toArray, u.val] w fun e w' => e = .returned (.bool true) ∧ Below w.heap.size w w' := by
  have d : decide (40 < (k.p.l.length : Int)) = false := by simp; omega
  have d' : decide (40 < k.p.l.length) = false := by simp; omega
  have y1 : decide (20 < k.cuts) = false := by simpa using hn
  have hkc := (okc_cuts hk).1
  have HT := Lib.hid hT
  have HBD := Lib.hid (k.p.bounds hok)
  have HT' := Lib.hid (show ThingsAt k.p.l (.slice k.sp k.p.l.length k.cap) w by rw [hspe]; exact hT)
  obtain ⟨i0, ii0, iz0, iz1, iz2⟩ := info_parts Tryz.info52
  have II0 := Lib.hid ii0
  have IZ0 := Lib.hid iz0
  have IZ1 := Lib.hid iz1
  have IZ2 := Lib.hid iz2
  have HL := Lib.hid hl
  clear hT ii0 iz0 iz1 iz2
  have p7 : ∀ h : 7 < k.cs.length, k.cs[7] = .slice k.sp k.p.l.length k.cap := fun _ => rfl
  have p10 : ∀ h : 10 < k.cs.length, k.cs[10] = .int .i64 k.cuts := fun _ => rfl
  have hl : k.cs.length = 17 := rfl
  have HB := Lib.hid (show Box ((w.alloc (Obj.cells k.cs.toArray 28)).alloc (Obj.cells #[.int .i64 u.a, .int .i64 u.b, .int .i64 u.c, .int .i64 u.d] 30)) w.heap.size k.cs 28 from (Box.fresh w k.cs 28).grow (Gr.alloc _ _))
  have HU := Lib.hid (show Box ((w.alloc (Obj.cells k.cs.toArray 28)).alloc (Obj.cells #[.int .i64 u.a, .int .i64 u.b, .int .i64 u.c, .int .i64 u.d] 30)) (w.heap.size + 1) [.int .i64 u.a, .int .i64 u.b, .int .i64 u.c, .int .i64 u.d] 30 by simpa using Box.fresh (w.alloc (Obj.cells k.cs.toArray 28)) [.int .i64 u.a, .int .i64 u.b, .int .i64 u.c, .int .i64 u.d] 30)
  have HG0 := Lib.hid (show Gr w ((w.alloc (Obj.cells k.cs.toArray 28)).alloc (Obj.cells #[.int .i64 u.a, .int .i64 u.b, .int .i64 u.c, .int .i64 u.d] 30)) from (Gr.alloc _ _).tr (Gr.alloc _ _))
  unfold Cu.val
  go_enter Tryz.func11, Tryz.ntmps11
  go_wp2_with (first | (with_reducible refine wpList_stopLoad (ty := 28) rfl ?_; unfold Stop; first | refine wpList_loadBox row28 rfl (HB.out) rfl rfl rfl ?_ | refine wpList_loadPartG row28 rfl (HB.out) (Cd.whole k) rfl rfl rfl ?_))
  refine (card_is (b := true) hc.out (ThingsAt.lasts _ _ _ _ HT'.out HG0.out)).mono ?_
  rintro e w1 ⟨rfl, hb1⟩
  have HG1 := Lib.hid (HG0.out.tr hb1)
  have HB1 := Lib.hid (HB.out.grow hb1)
  have HU1 := Lib.hid (HU.out.grow hb1)
  clear hb1
  have c10 := HB1.out.cell (i := 10) rfl
  have ccl := HB1.out.lt
  obtain ⟨W2, hst2, hB2, hr2⟩ := store_card w1 k.cs rfl rfl
  have hub := HU1.out.lt
  obtain ⟨bx, hbx0⟩ : ∃ b, w1.heap.size = b := ⟨_, rfl⟩
  rw [hbx0] at hub ccl hB2
  have hst3 := hst2
  rw [hbx0] at hst3
  have hr3 : Below bx w1 W2 := hbx0 ▸ (show Below w1.heap.size w1 W2 from hr2)
  have c7 := (HB1.out.grow hr2).cell (i := 7) rfl
  have cl7 := (HB1.out.grow hr2).lt
  have d7 := hB2.cell (i := 7) rfl
  have dl7 := hB2.lt
  have df7 := hB2.free
  have nbb : ¬ w.heap.size = bx := by omega
  have nbb' : ¬ bx = w.heap.size := by omega
  have HX3 := Lib.hid (show Box (W2.setCell ⟨bx, 7, none⟩ (.slice none 0 0)) bx [.int .i64 k.p.fl, .int .i64 k.p.fh, .int .i64 k.p.bl, .int .i64 k.p.bh, .int .i64 k.p.ti, .int .i64 k.p.ne, .int .i64 k.p.fa, .slice none 0 0, .int .i64 k.half, .int .i64 k.step, .int .i64 k.cuts, .int .i64 k.elo, .int .i64 k.ehi, .int .i64 k.prism, .int .i64 k.squeeze, .int .i64 k.front, .int .i64 k.deep] 28 from hB2.put 7 (.slice none 0 0))
  have HW3 := Lib.hid (show Below bx w1 (W2.setCell ⟨bx, 7, none⟩ (.slice none 0 0)) from hr3.setCell (Nat.le_refl _) _)
  have HS3 := Lib.hid (show (W2.setCell ⟨bx, 7, none⟩ (.slice none 0 0)).heap.size = W2.heap.size by simp)
  have HT1 := Lib.hid (ThingsAt.lasts _ _ _ _ HT.out HG1.out)
  have HBX0 := Lib.hid hbx0
  clear hr2 hB2 hr3
  go_wp2_with (first | (with_reducible refine wpList_stopLoad (ty := 28) rfl ?_; unfold Stop; first | refine wpList_loadBox row28 rfl (HB1.out) rfl rfl rfl ?_ | refine wpList_loadPartG row28 rfl (HB1.out) (Cd.whole k) rfl rfl rfl ?_))
  clear c7 cl7 d7 df7 hst2 hst3
  have HDL := Lib.hid dl7
  generalize (W2.setCell ⟨bx, 7, none⟩ (.slice none 0 0)) = W3 at *
  generalize W2.heap.size = B1 at *
  clear hbx0 c10 dl7
  go_loopw [59] (fun i wr => ∃ n : Nat, n ≤ k.p.l.length ∧ i = .int .i64 n ∧ Below bx w1 wr ∧ B1 ≤ wr.heap.size ∧ ∃ xv, Box wr bx [.int .i64 k.p.fl, .int .i64 k.p.fh, .int .i64 k.p.bl, .int .i64 k.p.bh, .int .i64 k.p.ti, .int .i64 k.p.ne, .int .i64 k.p.fa, xv, .int .i64 k.half, .int .i64 k.step, .int .i64 k.cuts, .int .i64 k.elo, .int .i64 k.ehi, .int .i64 k.prism, .int .i64 k.squeeze, .int .i64 k.front, .int .i64 k.deep] 28 ∧ wr.ownsRow B1 52 9 xv n (((k.p.l.take n).map Th.mir).flatMap Th.vals)) (fun i _ => k.p.l.length - (intOf i).toNat)
  case atStart => exact ⟨0, Nat.zero_le _, rfl, HW3.out, by rw [HS3.out]; exact Nat.le_refl _, _, HX3.out, World.ownsRow_nil _ _ _ _⟩
  case round =>
    obtain ⟨n, hnn, rfl, hg, hgs, xv, hbx, hox⟩ := hrel
    obtain ⟨xp, xn, xc, rfl⟩ := own_slice hox
    have HG := Lib.hid hg
    have HKX := Lib.hid hbx
    have HOX := Lib.hid hox
    have hth := ThingsAt.below HT1.out HBX0.out HG.out
    clear hg hbx hox
    by_cases hlt : n < k.p.l.length
    · obtain ⟨t, htk⟩ : ∃ t, k.p.l[n]? = some t := ⟨k.p.l[n]'hlt, List.getElem?_eq_getElem _⟩
      obtain ⟨-, hth⟩ := hth
      rcases hth with ⟨e, -⟩ | ⟨b, o, cap', hsp, hb, hc'⟩
      · rw [e] at htk; cases htk
      have X := CellsFrom.nine (hc' n t htk)
      have hsp1 : sp = some ⟨b, o, none⟩ := by simp at hsp; exact hsp.1
      subst hsp1
      clear hc' hsp
      have htl : k.p.l.take (n + 1) = k.p.l.take n ++ [t] := by rw [List.take_add_one, htk]; rfl
      have HTL := Lib.hid htl
      obtain ⟨⟨ba0, ba1⟩, ⟨bb0, bb1⟩, ⟨bc0, bc1⟩, ⟨bd0, bd1⟩, ⟨be0, be1⟩, ⟨bf0, bf1⟩, ⟨bg0, bg1⟩, ⟨bh0, bh1⟩⟩ := (HBD.out.things t (List.mem_of_getElem? htk)).1
      clear htk htl
      obtain ⟨xa, xb, xcc, xd, xe, xf, xg, xh, xz⟩ := t
      simp only at X ba0 ba1 bb0 bb1 bc0 bc1 bd0 bd1 be0 be1 bf0 bf1 bg0 bg1 bh0 bh1
      go_wp2_with fail
      have g6 : Gr wr (wr.alloc (.cells #[.int .i64 xa, .int .i64 xb, .int .i64 xcc, .int .i64 xd, .int .i64 xe, .int .i64 xf, .int .i64 xg, .int .i64 xh, .int .i64 xz] 52)) := Gr.alloc _ _
      have ht6 : Box (wr.alloc (.cells #[.int .i64 xa, .int .i64 xb, .int .i64 xcc, .int .i64 xd, .int .i64 xe, .int .i64 xf, .int .i64 xg, .int .i64 xh, .int .i64 xz] 52)) wr.heap.size [.int .i64 xa, .int .i64 xb, .int .i64 xcc, .int .i64 xd, .int .i64 xe, .int .i64 xf, .int .i64 xg, .int .i64 xh, .int .i64 xz] 52 := Box.fresh wr _ _
      have hx6 := HKX.out.grow g6
      have hox6 := own_gr HOX.out g6
      have hw6 : Below bx w1 (wr.alloc (.cells #[.int .i64 xa, .int .i64 xb, .int .i64 xcc, .int .i64 xd, .int .i64 xe, .int .i64 xf, .int .i64 xg, .int .i64 xh, .int .i64 xz] 52)) := bgr HG.out (by have := HG.out.size; have := HBX0.out; omega) g6
      have hs6 : wr.heap.size < (wr.alloc (.cells #[.int .i64 xa, .int .i64 xb, .int .i64 xcc, .int .i64 xd, .int .i64 xe, .int .i64 xf, .int .i64 xg, .int .i64 xh, .int .i64 xz] 52)).heap.size := by simp
      have HRX := Lib.hid (fun q hq => HOX.out.lt q hq)
      clear X g6 HKX HOX HG
      generalize (wr.alloc (.cells #[.int .i64 xa, .int .i64 xb, .int .i64 xcc, .int .i64 xd, .int .i64 xe, .int .i64 xf, .int .i64 xg, .int .i64 xh, .int .i64 xz] 52)) = W6 at *
      generalize wr.heap.size = bt at *
      have C3 := hx6.facts
      have CT := ht6.facts
      simp only [CellsFrom, Nat.zero_add, Nat.reduceAdd, and_true] at C3 CT
      have HX6 := Lib.hid hx6
      have HOX6 := Lib.hid hox6
      have HW6 := Lib.hid hw6
      clear ht6 hx6 hox6 hw6
      have HBK := Lib.hid mback_any
      refine region2 25 ?_ ?_ ?_
      · kernel_rfl
      · kernel_rfl
      simp only [List.take_succ_cons, List.take_zero, List.drop_succ_cons, List.drop_zero]
      apply chain_eq (D := [(6, none)]) rfl (by kernel_rfl)
      · intro ρ W ⟨p1, p2, p3⟩ hG hF K hK; (try simp [FactsD] at hF); have ⟨hc, hf, hz⟩ := bcell (Gr.tr (Gr.drew _) hG); go_simp; exact hK _ (gives_val)
      apply chain_eq (D := [(63, some 0)]) rfl (by kernel_rfl)
      · intro ρ W ⟨p1, p2, p3⟩ hG hF K hK; (try simp [FactsD] at hF); have ⟨hc, hf, hz⟩ := bcell (Gr.tr (Gr.drew _) hG); go_simp; exact hK _ (gives_val)
      apply chain_eq (D := [(64, some 0)]) rfl (by kernel_rfl)
      · intro ρ W ⟨p1, p2, p3⟩ hG hF K hK; (try simp [FactsD] at hF); have ⟨hc, hf, hz⟩ := bcell (Gr.tr (Gr.drew _) hG); go_simp; exact hK _ (gives_val)
      apply chain_eq (D := [(5, none)]) rfl (by kernel_rfl)
      · intro ρ W ⟨p1, p2, p3⟩ hG hF K hK; (try simp [FactsD] at hF); have ⟨hc, hf, hz⟩ := bcell (Gr.tr (Gr.drew _) hG); go_simp; exact hK _ (gives_val)
      apply chain_eq (D := [(8, none)]) rfl (by kernel_rfl)
      · intro ρ W ⟨p1, p2, p3⟩ hG hF K hK; (try simp [FactsD] at hF); have ⟨hc, hf, hz⟩ := bcell (Gr.tr (Gr.drew _) hG); go_simp; exact hK _ (gives_val)
      apply chain_eq (D := [(67, some 0)]) rfl (by kernel_rfl)
      · intro ρ W ⟨p1, p2, p3⟩ hG hF K hK; (try simp [FactsD] at hF); have ⟨hc, hf, hz⟩ := bcell (Gr.tr (Gr.drew _) hG); go_simp; exact hK _ (gives_val)
      apply chain_eq (D := [(68, some 0)]) rfl (by kernel_rfl)
      · intro ρ W ⟨p1, p2, p3⟩ hG hF K hK; (try simp [FactsD] at hF); have ⟨hc, hf, hz⟩ := bcell (Gr.tr (Gr.drew _) hG); go_simp; exact hK _ (gives_val)
      apply chain_eq (D := [(66, some 3), (69, some 0)]) rfl (by kernel_rfl)
      · intro ρ W ⟨p1, p2, p3⟩ hG hF K hK; (try simp [FactsD] at hF); have ⟨hc, hf, hz⟩ := bcell (Gr.tr (Gr.drew _) hG); go_simp; exact hK _ (gives_call (HBK.out xe xf _ be0 be1 bf0 bf1))
      apply chain_eq (D := [(8, none)]) rfl (by kernel_rfl)
      · intro ρ W ⟨p1, p2, p3⟩ hG hF K hK; (try simp [FactsD] at hF); have ⟨hc, hf, hz⟩ := bcell (Gr.tr (Gr.drew _) hG); go_simp; exact hK _ (gives_val)
      apply chain_eq (D := [(71, some 0)]) rfl (by kernel_rfl)
      · intro ρ W ⟨p1, p2, p3⟩ hG hF K hK; (try simp [FactsD] at hF); have ⟨hc, hf, hz⟩ := bcell (Gr.tr (Gr.drew _) hG); go_simp; exact hK _ (gives_val)
      apply chain_eq (D := [(72, some 0)]) rfl (by kernel_rfl)
      · intro ρ W ⟨p1, p2, p3⟩ hG hF K hK; (try simp [FactsD] at hF); have ⟨hc, hf, hz⟩ := bcell (Gr.tr (Gr.drew _) hG); go_simp; exact hK _ (gives_val)
      apply chain_eq (D := [(70, some 3), (73, some 0)]) rfl (by kernel_rfl)
      · intro ρ W ⟨p1, p2, p3⟩ hG hF K hK; (try simp [FactsD] at hF); have ⟨hc, hf, hz⟩ := bcell (Gr.tr (Gr.drew _) hG); go_simp; exact hK _ (gives_val)
      apply chain_eq (D := [(5, none)]) rfl (by kernel_rfl)
      · intro ρ W ⟨p1, p2, p3⟩ hG hF K hK; (try simp [FactsD] at hF); have ⟨hc, hf, hz⟩ := bcell (Gr.tr (Gr.drew _) hG); go_simp; exact hK _ (gives_val)
      apply chain_eq (D := [(8, none)]) rfl (by kernel_rfl)
      · intro ρ W ⟨p1, p2, p3⟩ hG hF K hK; (try simp [FactsD] at hF); have ⟨hc, hf, hz⟩ := bcell (Gr.tr (Gr.drew _) hG); go_simp; exact hK _ (gives_val)
      apply chain_eq (D := [(76, some 0)]) rfl (by kernel_rfl)
      · intro ρ W ⟨p1, p2, p3⟩ hG hF K hK; (try simp [FactsD] at hF); have ⟨hc, hf, hz⟩ := bcell (Gr.tr (Gr.drew _) hG); go_simp; exact hK _ (gives_val)
      apply chain_eq (D := [(77, some 0)]) rfl (by kernel_rfl)
      · intro ρ W ⟨p1, p2, p3⟩ hG hF K hK; (try simp [FactsD] at hF); have ⟨hc, hf, hz⟩ := bcell (Gr.tr (Gr.drew _) hG); go_simp; exact hK _ (gives_val)
      apply chain_eq (D := [(75, some 3), (78, some 0)]) rfl (by kernel_rfl)
      · intro ρ W ⟨p1, p2, p3⟩ hG hF K hK; (try simp [FactsD] at hF); have ⟨hc, hf, hz⟩ := bcell (Gr.tr (Gr.drew _) hG); go_simp; exact hK _ (gives_call (HBK.out xa xb _ ba0 ba1 bb0 bb1))
      apply chain_eq (D := [(8, none)]) rfl (by kernel_rfl)
      · intro ρ W ⟨p1, p2, p3⟩ hG hF K hK; (try simp [FactsD] at hF); have ⟨hc, hf, hz⟩ := bcell (Gr.tr (Gr.drew _) hG); go_simp; exact hK _ (gives_val)
      apply chain_eq (D := [(80, some 0)]) rfl (by kernel_rfl)
      · intro ρ W ⟨p1, p2, p3⟩ hG hF K hK; (try simp [FactsD] at hF); have ⟨hc, hf, hz⟩ := bcell (Gr.tr (Gr.drew _) hG); go_simp; exact hK _ (gives_val)
      apply chain_eq (D := [(81, some 0)]) rfl (by kernel_rfl)
      · intro ρ W ⟨p1, p2, p3⟩ hG hF K hK; (try simp [FactsD] at hF); have ⟨hc, hf, hz⟩ := bcell (Gr.tr (Gr.drew _) hG); go_simp; exact hK _ (gives_val)
      apply chain_eq (D := [(79, some 3), (82, some 0)]) rfl (by kernel_rfl)
      · intro ρ W ⟨p1, p2, p3⟩ hG hF K hK; (try simp [FactsD] at hF); have ⟨hc, hf, hz⟩ := bcell (Gr.tr (Gr.drew _) hG); go_simp; exact hK _ (gives_val)
      apply chain_eq (D := [(8, none)]) rfl (by kernel_rfl)
      · intro ρ W ⟨p1, p2, p3⟩ hG hF K hK; (try simp [FactsD] at hF); have ⟨hc, hf, hz⟩ := bcell (Gr.tr (Gr.drew _) hG); go_simp; exact hK _ (gives_val)
      apply chain_eq (D := [(84, some 0)]) rfl (by kernel_rfl)
      · intro ρ W ⟨p1, p2, p3⟩ hG hF K hK; (try simp [FactsD] at hF); have ⟨hc, hf, hz⟩ := bcell (Gr.tr (Gr.drew _) hG); go_simp; exact hK _ (gives_val)
      apply chain_eq (D := [(74, some 11), (83, some 2), (85, some 0)]) rfl (by kernel_rfl)
      · intro ρ W ⟨p1, p2, p3⟩ hG hF K hK; (try simp [FactsD] at hF); have ⟨hc, hf, hz⟩ := bcell (Gr.tr (Gr.drew _) hG); go_simp; exact hK _ (gives_val)
      refine chain_any (V := OneAt [.int .i64 (-xf), .int .i64 (-xe), .int .i64 xg, .int .i64 xh, .int .i64 (-xb), .int .i64 (-xa), .int .i64 xcc, .int .i64 xd, .int .i64 xz] 52) (D := [(86, some 0)]) rfl (by kernel_rfl) (OneAt.lasts _ _) ?_ ?_
      · intro ρ W ⟨p1, p2, p3⟩ hG hF K hK; (try simp [FactsD] at hF); have ⟨hc, hf, hz⟩ := bcell (Gr.tr (Gr.drew _) hG); go_simp; exact hK _ (⟨OneAt.new _ _ _, Gr.alloc _ _⟩)
      refine chain_done ?_
      intro vs W hG hV
      obtain ⟨e24, -, -, -, -, -, -, -, -, -, -, -, -, -, -, -, -, -, -, -, -, -, e2, -⟩ := hV
      simp only [Nat.reduceSub] at e2
      simp only [Nat.reduceSub] at e24
      simp only [lay, Act.put, List.getElem?_toArray, List.getElem?_cons_succ, List.getElem?_cons_zero, Option.bind_some, List.setIfInBounds_toArray, List.set_cons_succ, List.set_cons_zero]
      generalize vs 0 = v0
      generalize vs 1 = v1
      generalize vs 2 = v2 at *
      generalize vs 3 = v3
      generalize vs 4 = v4
      generalize vs 5 = v5
      generalize vs 6 = v6
      generalize vs 7 = v7
      generalize vs 8 = v8
      generalize vs 9 = v9
      generalize vs 10 = v10
      generalize vs 11 = v11
      generalize vs 12 = v12
      generalize vs 13 = v13
      generalize vs 14 = v14
      generalize vs 15 = v15
      generalize vs 16 = v16
      generalize vs 17 = v17
      generalize vs 18 = v18
      generalize vs 19 = v19
      generalize vs 20 = v20
      generalize vs 21 = v21
      generalize vs 22 = v22
      generalize vs 23 = v23
      generalize vs 24 = v24 at *
      subst e2
      obtain ⟨hc, hf, hz⟩ := bcell hG
      obtain ⟨bn, rfl, hbn⟩ := e24
      have HBN := Lib.hid hbn
      have HOX7 := Lib.hid (own_gr HOX6.out hG)
      have HX7 := Lib.hid (HX6.out.grow hG)
      have hsz7 : W6.heap.size ≤ W.heap.size := hG.size
      have HW7 := Lib.hid (bgr HW6.out (by have := HW6.out.size; have := HBX0.out; omega) hG)
      have HDL2 := HDL.out
      clear hc hf hz hG hbn C3 CT HX6 HOX6 HW6
      go_wp2_with (at_builtin; refine wpList_append_lies _ rfl _ _ 24 rfl B1 52 i0 _ 9 72 Tryz.underlying24 II0.out IZ0.out IZ1.out IZ2.out rfl (by decide) _ _ _ rfl HOX7.out ⟨bn, 0, none⟩ 1 1 [.int .i64 (-xf), .int .i64 (-xe), .int .i64 xg, .int .i64 xh, .int .i64 (-xb), .int .i64 (-xa), .int .i64 xcc, .int .i64 xd, .int .i64 xz] rfl rfl ?c1 ?c2 ?c3 ?c4 ?c5 ?c6 _ rfl ?_)
      case c1 => exact World.news_of_block (cs := #[.int .i64 (-xf), .int .i64 (-xe), .int .i64 xg, .int .i64 xh, .int .i64 (-xb), .int .i64 (-xa), .int .i64 xcc, .int .i64 xd, .int .i64 xz]) (t := 52) (fr := (0, 0)) HBN.out
      case c2 => simp [Value.oneCell']
      case c3 => omega
      case c4 => unfold maxLen; omega
      case c5 => omega
      case c6 => omega
      intro g capx w3 hown3 hgrow3 hat3 hlt3
      have nbx : some bx ≠ (Value.slice xp xn xc).ownBlock := fun h => by have := (HRX.out bx h.symm).1; omega
      have hsz3 : W.heap.size ≤ w3.heap.size := hgrow3.size
      have hx3 := HX7.out.grown hgrow3 nbx
      have hx8 := hx3.put 7 (.slice (some ⟨g, 0, none⟩) (n + 1) capx)
      have hox8 := ownsRow_setCell_below hown3 (a := ⟨bx, 7, none⟩) (show bx < B1 by omega) (.slice (some ⟨g, 0, none⟩) (n + 1) capx)
      have hw8 : Below bx w1 (w3.setCell ⟨bx, 7, none⟩ (.slice (some ⟨g, 0, none⟩) (n + 1) capx)) := (HW7.out.grown hgrow3 (by have := HW7.out.size; have := HBX0.out; omega) (fun q e => by have := (HRX.out q e).1; omega)).setCell (Nat.le_refl _) _
      have x7 := hx3.cell (i := 7) rfl
      have f7 := hx3.free 7
      have HX8 := Lib.hid hx8
      have HOX8 := Lib.hid hox8
      have HW8 := Lib.hid hw8
      clear hx3 hx8 hox8 hw8 nbx hown3 hgrow3 hat3 HX7 HOX7 HW7 HBN
      go_wp2
      have exx : (((k.p.l.take (n + 1)).map Th.mir).flatMap Th.vals) = List.flatMap Th.vals (List.take n (List.map Th.mir k.p.l)) ++ [.int .i64 (-xf), .int .i64 (-xe), .int .i64 xg, .int .i64 xh, .int .i64 (-xb), .int .i64 (-xa), .int .i64 xcc, .int .i64 xd, .int .i64 xz] := by rw [HTL.out]; simp [Th.mir, Th.vals, List.map_take]
      exact ⟨⟨n + 1, by omega, by go_num, HW8.out, by simp; omega, _, HX8.out, by rw [exx]; exact HOX8.out⟩, by simp [intOf]; omega⟩
    · have hkl : n = k.p.l.length := by omega
      subst hkl
      have hxt : ThingsAt (k.p.l.map Th.mir) (.slice xp xn xc) wr := by
        have := HOX.out
        rw [List.take_length] at this
        exact ThingsAt.own this (by simp) (by simp; have := HL.out; omega)
      obtain ⟨xp', xc', hxv, hxl⟩ := hxt.len
      obtain ⟨rfl, rfl, rfl⟩ : xp = xp' ∧ xn = (k.p.l.map Th.mir).length ∧ xc = xc' := by simpa using hxv
      obtain ⟨x, hx⟩ : ∃ x, x = k.mir xp xc := ⟨_, rfl⟩
      have HBX := Lib.hid (show Box wr bx x.cs 28 by rw [hx]; exact HKX.out)
      have HTX := Lib.hid (show ThingsAt x.p.l (.slice x.sp x.p.l.length x.cap) wr by rw [hx]; exact hxt)
      have HTP := Lib.hid (show ThingsAt k.p.l (.slice k.sp k.p.l.length k.cap) wr by rw [hspe]; exact hth)
      have HBK := Lib.hid ((HB1.out.below HG.out (by omega)))
      have HUK := Lib.hid ((HU1.out.below HG.out (by omega)))
      have HGK := Lib.hid (show Below w.heap.size w wr from Below.trans (show Below w.heap.size w w1 from HG1.out) (HG.out.mono (by omega)))
      have hlt51 : decide ((k.p.l.length : Int) < (k.p.l.length : Int)) = false := by simp
      clear hxv hxl hxt hth HOX HKX HG
      obtain ⟨t, v, te, A5, A6, ht, hv, hsum⟩ := mir_trimA k xp xc hk hok
      obtain ⟨s1, se, A1⟩ : ∃ s e, k.seenA = (s, e) := ⟨_, _, rfl⟩
      obtain ⟨n1, n2, ne, A3⟩ : ∃ a b e, k.hurtsA u = (a, b, e) := ⟨_, _, _, rfl⟩
      obtain ⟨y1, y2, ye, A7⟩ : ∃ a b e, k.eyesA u = (a, b, e) := ⟨_, _, _, rfl⟩
      obtain ⟨r1, r2, re, A9⟩ : ∃ a b e, k.roomA u = (a, b, e) := ⟨_, _, _, rfl⟩
      obtain ⟨d1, d2, de, A11⟩ : ∃ a b e, k.deepA u = (a, b, e) := ⟨_, _, _, rfl⟩
      have A2 := (mir_seenA k xp xc hok).trans A1
      have A4 := (mir_hurtsA k xp xc hok u).trans A3
      have A8 := (mir_eyesA k xp xc hok u).trans A7
      have A10 := (mir_roomA k xp xc hok u).trans A9
      have A12 := (mir_deepA k xp xc hok u).trans A11
      rw [← hx] at A2 A4 A6 A8 A10 A12
      have A1 := Lib.hid A1
      have A2 := Lib.hid A2
      have A3 := Lib.hid A3
      have A4 := Lib.hid A4
      have A5 := Lib.hid A5
      have A6 := Lib.hid A6
      have A7 := Lib.hid A7
      have A8 := Lib.hid A8
      have A9 := Lib.hid A9
      have A10 := Lib.hid A10
      have A11 := Lib.hid A11
      have A12 := Lib.hid A12
      have hvl := isT_leM2 hv
      have htl := isT_leM2 ht
      have S1 := Lib.hid (fun W => (show Calls Tryz.prog 34 #[.agg #[.int .i64 t.a, .int .i64 t.b, .int .i64 t.c, .int .i64 t.d]] W fun e w' => e = .returned (.int .i64 (t.a + t.b + t.c + t.d)) ∧ Below W.heap.size W w' from rsum_any t W (by omega) (by omega) (by omega) (by omega)))
      have S2 := Lib.hid (fun W => (show Calls Tryz.prog 34 #[.agg #[.int .i64 v.a, .int .i64 v.b, .int .i64 v.c, .int .i64 v.d]] W fun e w' => e = .returned (.int .i64 (t.a + t.b + t.c + t.d)) ∧ Below W.heap.size W w' by have := rsum_any v W (by omega) (by omega) (by omega) (by omega); rwa [hsum] at this))
      clear hx hvl htl ht hv hsum HBD II0 IZ0 IZ1 IZ2
      generalize hS0 : t.a + t.b + t.c + t.d = S0 at *
      clear hS0
      have heq := @eq23
      have heg := @eqg23
      have u0 := HUK.out.cell (i := 0) rfl
      have u1 := HUK.out.cell (i := 1) rfl
      have u2 := HUK.out.cell (i := 2) rfl
      have u3 := HUK.out.cell (i := 3) rfl
      have ul := HUK.out.lt
      go_wp2_with fail
      refine (lcuts_any _ _ _ _ _).mono ?_
      rintro e w4 ⟨rfl, hb4⟩
      have hga := Gr.tr hb4 (Gr.alloc w4 (Obj.cells #[.int .i64 u.d, .int .i64 u.c, .int .i64 u.b, .int .i64 u.a] 30))
      have HG4 := Lib.hid (show Gr wr _ from hga)
      have HB4 := Lib.hid (HBK.out.grow hga)
      have HX4 := Lib.hid (HBX.out.grow hga)
      have HU4 := Lib.hid (HUK.out.grow hga)
      have HM4 := Lib.hid (Box.fresh w4 [.int .i64 u.d, .int .i64 u.c, .int .i64 u.b, .int .i64 u.a] 30)
      clear u0 u1 u2 u3 ul hb4 hga HBK HBX HUK
      go_wp2_with (first | (with_reducible refine wpList_stopLoad (ty := 28) rfl ?_; unfold Stop; first | refine wpList_loadBox row28 rfl (HB4.out) rfl rfl rfl ?_ | refine wpList_loadBox row28 rfl (HX4.out) rfl rfl rfl ?_))
      refine (seen_is A1.out (ThingsAt.lasts _ _ _ _ HTP.out HG4.out)).mono ?_
      rintro e w5 ⟨rfl, hb⟩
      have hga : Gr _ w5 := hb
      have HG5 := Lib.hid (HG4.out.tr hga)
      have HB5 := Lib.hid (HB4.out.grow hga)
      have HX5 := Lib.hid (HX4.out.grow hga)
      have HU5 := Lib.hid (HU4.out.grow hga)
      have HM5 := Lib.hid (HM4.out.grow hga)
      clear hb hga HB4 HX4 HU4 HM4 HG4
      go_wp2_with (first | (with_reducible refine wpList_stopLoad (ty := 28) rfl ?_; unfold Stop; first | refine wpList_loadBox row28 rfl (HB5.out) rfl rfl rfl ?_ | refine wpList_loadBox row28 rfl (HX5.out) rfl rfl rfl ?_))
      refine (seen_is A2.out (ThingsAt.lasts _ _ _ _ HTX.out HG5.out)).mono ?_
      rintro e w6 ⟨rfl, hb⟩
      have hga : Gr _ w6 := hb
      have HG6 := Lib.hid (HG5.out.tr hga)
      have HB6 := Lib.hid (HB5.out.grow hga)
      have HX6 := Lib.hid (HX5.out.grow hga)
      have HU6 := Lib.hid (HU5.out.grow hga)
      have HM6 := Lib.hid (HM5.out.grow hga)
      clear hb hga HB5 HX5 HU5 HM5 HG5
      have u0 := HU6.out.cell (i := 0) rfl
      have u1 := HU6.out.cell (i := 1) rfl
      have u2 := HU6.out.cell (i := 2) rfl
      have u3 := HU6.out.cell (i := 3) rfl
      have m0 := HM6.out.cell (i := 0) rfl
      have m1 := HM6.out.cell (i := 1) rfl
      have m2 := HM6.out.cell (i := 2) rfl
      have m3 := HM6.out.cell (i := 3) rfl
      have ul := HU6.out.lt
      have ml := HM6.out.lt
      go_wp2_with (first | (with_reducible refine wpList_stopLoad (ty := 28) rfl ?_; unfold Stop; first | refine wpList_loadBox row28 rfl (HB6.out) rfl rfl rfl ?_ | refine wpList_loadBox row28 rfl (HX6.out) rfl rfl rfl ?_))
      refine (hurts_is A3.out (ThingsAt.lasts _ _ _ _ HTP.out HG6.out)).mono ?_
      rintro e w7 ⟨rfl, hb⟩
      clear u0 u1 u2 u3 ul m0 m1 m2 m3 ml
      have hga : Gr _ w7 := hb
      have HG7 := Lib.hid (HG6.out.tr hga)
      have HB7 := Lib.hid (HB6.out.grow hga)
      have HX7 := Lib.hid (HX6.out.grow hga)
      have HU7 := Lib.hid (HU6.out.grow hga)
      have HM7 := Lib.hid (HM6.out.grow hga)
      clear hb hga HB6 HX6 HU6 HM6 HG6
      have u0 := HU7.out.cell (i := 0) rfl
      have u1 := HU7.out.cell (i := 1) rfl
      have u2 := HU7.out.cell (i := 2) rfl
      have u3 := HU7.out.cell (i := 3) rfl
      have m0 := HM7.out.cell (i := 0) rfl
      have m1 := HM7.out.cell (i := 1) rfl
      have m2 := HM7.out.cell (i := 2) rfl
      have m3 := HM7.out.cell (i := 3) rfl
      have ul := HU7.out.lt
      have ml := HM7.out.lt
      go_wp2_with (first | (with_reducible refine wpList_stopLoad (ty := 28) rfl ?_; unfold Stop; first | refine wpList_loadBox row28 rfl (HB7.out) rfl rfl rfl ?_ | refine wpList_loadBox row28 rfl (HX7.out) rfl rfl rfl ?_))
      refine (hurts_is A4.out (ThingsAt.lasts _ _ _ _ HTX.out HG7.out)).mono ?_
      rintro e w8 ⟨rfl, hb⟩
      clear u0 u1 u2 u3 ul m0 m1 m2 m3 ml
      have hga : Gr _ w8 := hb
      have HG8 := Lib.hid (HG7.out.tr hga)
      have HB8 := Lib.hid (HB7.out.grow hga)
      have HX8 := Lib.hid (HX7.out.grow hga)
      have HU8 := Lib.hid (HU7.out.grow hga)
      have HM8 := Lib.hid (HM7.out.grow hga)
      clear hb hga HB7 HX7 HU7 HM7 HG7
      go_wp2_with (first | (with_reducible refine wpList_stopLoad (ty := 28) rfl ?_; unfold Stop; first | refine wpList_loadBox row28 rfl (HB8.out) rfl rfl rfl ?_ | refine wpList_loadBox row28 rfl (HX8.out) rfl rfl rfl ?_))
      refine (mtrim_is A5.out (ThingsAt.lasts _ _ _ _ HTP.out HG8.out)).mono ?_
      rintro e w9 ⟨rfl, hb⟩
      have hga := Gr.tr hb (Gr.alloc w9 (Obj.cells #[.int .i64 t.a, .int .i64 t.b, .int .i64 t.c, .int .i64 t.d] 30))
      have HG9 := Lib.hid (HG8.out.tr hga)
      have HB9 := Lib.hid (HB8.out.grow hga)
      have HX9 := Lib.hid (HX8.out.grow hga)
      have HU9 := Lib.hid (HU8.out.grow hga)
      have HM9 := Lib.hid (HM8.out.grow hga)
      have HSA5_9 := Lib.hid (Box.fresh w9 [.int .i64 t.a, .int .i64 t.b, .int .i64 t.c, .int .i64 t.d] 30)
      clear hb hga HB8 HX8 HU8 HM8 HG8
      go_wp2_with (first | (with_reducible refine wpList_stopLoad (ty := 28) rfl ?_; unfold Stop; first | refine wpList_loadBox row28 rfl (HB9.out) rfl rfl rfl ?_ | refine wpList_loadBox row28 rfl (HX9.out) rfl rfl rfl ?_))
      refine (mtrim_is A6.out (ThingsAt.lasts _ _ _ _ HTX.out HG9.out)).mono ?_
      rintro e w10 ⟨rfl, hb⟩
      have hga := Gr.tr hb (Gr.alloc w10 (Obj.cells #[.int .i64 v.a, .int .i64 v.b, .int .i64 v.c, .int .i64 v.d] 30))
      have HG10 := Lib.hid (HG9.out.tr hga)
      have HB10 := Lib.hid (HB9.out.grow hga)
      have HX10 := Lib.hid (HX9.out.grow hga)
      have HU10 := Lib.hid (HU9.out.grow hga)
      have HM10 := Lib.hid (HM9.out.grow hga)
      have HSA5_10 := Lib.hid (HSA5_9.out.grow hga)
      have HSA6_10 := Lib.hid (Box.fresh w10 [.int .i64 v.a, .int .i64 v.b, .int .i64 v.c, .int .i64 v.d] 30)
      clear hb hga HB9 HX9 HU9 HM9 HG9 HSA5_9
      have u0 := HU10.out.cell (i := 0) rfl
      have u1 := HU10.out.cell (i := 1) rfl
      have u2 := HU10.out.cell (i := 2) rfl
      have u3 := HU10.out.cell (i := 3) rfl
      have m0 := HM10.out.cell (i := 0) rfl
      have m1 := HM10.out.cell (i := 1) rfl
      have m2 := HM10.out.cell (i := 2) rfl
      have m3 := HM10.out.cell (i := 3) rfl
      have ul := HU10.out.lt
      have ml := HM10.out.lt
      go_wp2_with (first | (with_reducible refine wpList_stopLoad (ty := 28) rfl ?_; unfold Stop; first | refine wpList_loadBox row28 rfl (HB10.out) rfl rfl rfl ?_ | refine wpList_loadBox row28 rfl (HX10.out) rfl rfl rfl ?_))
      refine (eyes_is A7.out (ThingsAt.lasts _ _ _ _ HTP.out HG10.out)).mono ?_
      rintro e w11 ⟨rfl, hb⟩
      clear u0 u1 u2 u3 ul m0 m1 m2 m3 ml
      have hga := Gr.tr hb (Gr.alloc w11 (Obj.cells #[.int .i64 y1, .int .i64 y2] 23))
      have HG11 := Lib.hid (HG10.out.tr hga)
      have HB11 := Lib.hid (HB10.out.grow hga)
      have HX11 := Lib.hid (HX10.out.grow hga)
      have HU11 := Lib.hid (HU10.out.grow hga)
      have HM11 := Lib.hid (HM10.out.grow hga)
      have HSA5_11 := Lib.hid (HSA5_10.out.grow hga)
      have HSA6_11 := Lib.hid (HSA6_10.out.grow hga)
      have HSA7_11 := Lib.hid (Box.fresh w11 [.int .i64 y1, .int .i64 y2] 23)
      clear hb hga HB10 HX10 HU10 HM10 HG10 HSA5_10 HSA6_10
      have u0 := HU11.out.cell (i := 0) rfl
      have u1 := HU11.out.cell (i := 1) rfl
      have u2 := HU11.out.cell (i := 2) rfl
      have u3 := HU11.out.cell (i := 3) rfl
      have m0 := HM11.out.cell (i := 0) rfl
      have m1 := HM11.out.cell (i := 1) rfl
      have m2 := HM11.out.cell (i := 2) rfl
      have m3 := HM11.out.cell (i := 3) rfl
      have ul := HU11.out.lt
      have ml := HM11.out.lt
      go_wp2_with (first | (with_reducible refine wpList_stopLoad (ty := 28) rfl ?_; unfold Stop; first | refine wpList_loadBox row28 rfl (HB11.out) rfl rfl rfl ?_ | refine wpList_loadBox row28 rfl (HX11.out) rfl rfl rfl ?_))
      refine (eyes_is A8.out (ThingsAt.lasts _ _ _ _ HTX.out HG11.out)).mono ?_
      rintro e w12 ⟨rfl, hb⟩
      clear u0 u1 u2 u3 ul m0 m1 m2 m3 ml
      have hga := Gr.tr hb (Gr.alloc w12 (Obj.cells #[.int .i64 y1, .int .i64 y2] 23))
      have HG12 := Lib.hid (HG11.out.tr hga)
      have HB12 := Lib.hid (HB11.out.grow hga)
      have HX12 := Lib.hid (HX11.out.grow hga)
      have HU12 := Lib.hid (HU11.out.grow hga)
      have HM12 := Lib.hid (HM11.out.grow hga)
      have HSA5_12 := Lib.hid (HSA5_11.out.grow hga)
      have HSA6_12 := Lib.hid (HSA6_11.out.grow hga)
      have HSA7_12 := Lib.hid (HSA7_11.out.grow hga)
      have HSA8_12 := Lib.hid (Box.fresh w12 [.int .i64 y1, .int .i64 y2] 23)
      clear hb hga HB11 HX11 HU11 HM11 HG11 HSA5_11 HSA6_11 HSA7_11
      have u0 := HU12.out.cell (i := 0) rfl
      have u1 := HU12.out.cell (i := 1) rfl
      have u2 := HU12.out.cell (i := 2) rfl
      have u3 := HU12.out.cell (i := 3) rfl
      have m0 := HM12.out.cell (i := 0) rfl
      have m1 := HM12.out.cell (i := 1) rfl
      have m2 := HM12.out.cell (i := 2) rfl
      have m3 := HM12.out.cell (i := 3) rfl
      have ul := HU12.out.lt
      have ml := HM12.out.lt
      go_wp2_with (first | (with_reducible refine wpList_stopLoad (ty := 28) rfl ?_; unfold Stop; first | refine wpList_loadBox row28 rfl (HB12.out) rfl rfl rfl ?_ | refine wpList_loadBox row28 rfl (HX12.out) rfl rfl rfl ?_))
      refine (mroom_is A9.out (ThingsAt.lasts _ _ _ _ HTP.out HG12.out)).mono ?_
      rintro e w13 ⟨rfl, hb⟩
      clear u0 u1 u2 u3 ul m0 m1 m2 m3 ml
      have hga := Gr.tr hb (Gr.alloc w13 (Obj.cells #[.int .i64 r1, .int .i64 r2] 23))
      have HG13 := Lib.hid (HG12.out.tr hga)
      have HB13 := Lib.hid (HB12.out.grow hga)
      have HX13 := Lib.hid (HX12.out.grow hga)
      have HU13 := Lib.hid (HU12.out.grow hga)
      have HM13 := Lib.hid (HM12.out.grow hga)
      have HSA5_13 := Lib.hid (HSA5_12.out.grow hga)
      have HSA6_13 := Lib.hid (HSA6_12.out.grow hga)
      have HSA7_13 := Lib.hid (HSA7_12.out.grow hga)
      have HSA8_13 := Lib.hid (HSA8_12.out.grow hga)
      have HSA9_13 := Lib.hid (Box.fresh w13 [.int .i64 r1, .int .i64 r2] 23)
      clear hb hga HB12 HX12 HU12 HM12 HG12 HSA5_12 HSA6_12 HSA7_12 HSA8_12
      have u0 := HU13.out.cell (i := 0) rfl
      have u1 := HU13.out.cell (i := 1) rfl
      have u2 := HU13.out.cell (i := 2) rfl
      have u3 := HU13.out.cell (i := 3) rfl
      have m0 := HM13.out.cell (i := 0) rfl
      have m1 := HM13.out.cell (i := 1) rfl
      have m2 := HM13.out.cell (i := 2) rfl
      have m3 := HM13.out.cell (i := 3) rfl
      have ul := HU13.out.lt
      have ml := HM13.out.lt
      go_wp2_with (first | (with_reducible refine wpList_stopLoad (ty := 28) rfl ?_; unfold Stop; first | refine wpList_loadBox row28 rfl (HB13.out) rfl rfl rfl ?_ | refine wpList_loadBox row28 rfl (HX13.out) rfl rfl rfl ?_))
      refine (mroom_is A10.out (ThingsAt.lasts _ _ _ _ HTX.out HG13.out)).mono ?_
      rintro e w14 ⟨rfl, hb⟩
      clear u0 u1 u2 u3 ul m0 m1 m2 m3 ml
      have hga := Gr.tr hb (Gr.alloc w14 (Obj.cells #[.int .i64 r1, .int .i64 r2] 23))
      have HG14 := Lib.hid (HG13.out.tr hga)
      have HB14 := Lib.hid (HB13.out.grow hga)
      have HX14 := Lib.hid (HX13.out.grow hga)
      have HU14 := Lib.hid (HU13.out.grow hga)
      have HM14 := Lib.hid (HM13.out.grow hga)
      have HSA5_14 := Lib.hid (HSA5_13.out.grow hga)
      have HSA6_14 := Lib.hid (HSA6_13.out.grow hga)
      have HSA7_14 := Lib.hid (HSA7_13.out.grow hga)
      have HSA8_14 := Lib.hid (HSA8_13.out.grow hga)
      have HSA9_14 := Lib.hid (HSA9_13.out.grow hga)
      have HSA10_14 := Lib.hid (Box.fresh w14 [.int .i64 r1, .int .i64 r2] 23)
      clear hb hga HB13 HX13 HU13 HM13 HG13 HSA5_13 HSA6_13 HSA7_13 HSA8_13 HSA9_13
      have u0 := HU14.out.cell (i := 0) rfl
      have u1 := HU14.out.cell (i := 1) rfl
      have u2 := HU14.out.cell (i := 2) rfl
      have u3 := HU14.out.cell (i := 3) rfl
      have m0 := HM14.out.cell (i := 0) rfl
      have m1 := HM14.out.cell (i := 1) rfl
      have m2 := HM14.out.cell (i := 2) rfl
      have m3 := HM14.out.cell (i := 3) rfl
      have ul := HU14.out.lt
      have ml := HM14.out.lt
      go_wp2_with (first | (with_reducible refine wpList_stopLoad (ty := 28) rfl ?_; unfold Stop; first | refine wpList_loadBox row28 rfl (HB14.out) rfl rfl rfl ?_ | refine wpList_loadBox row28 rfl (HX14.out) rfl rfl rfl ?_))
      refine (mdeep_is A11.out (ThingsAt.lasts _ _ _ _ HTP.out HG14.out)).mono ?_
      rintro e w15 ⟨rfl, hb⟩
      clear u0 u1 u2 u3 ul m0 m1 m2 m3 ml
      have hga := Gr.tr hb (Gr.alloc w15 (Obj.cells #[.int .i64 d1, .int .i64 d2] 23))
      have HG15 := Lib.hid (HG14.out.tr hga)
      have HB15 := Lib.hid (HB14.out.grow hga)
      have HX15 := Lib.hid (HX14.out.grow hga)
      have HU15 := Lib.hid (HU14.out.grow hga)
      have HM15 := Lib.hid (HM14.out.grow hga)
      have HSA5_15 := Lib.hid (HSA5_14.out.grow hga)
      have HSA6_15 := Lib.hid (HSA6_14.out.grow hga)
      have HSA7_15 := Lib.hid (HSA7_14.out.grow hga)
      have HSA8_15 := Lib.hid (HSA8_14.out.grow hga)
      have HSA9_15 := Lib.hid (HSA9_14.out.grow hga)
      have HSA10_15 := Lib.hid (HSA10_14.out.grow hga)
      have HSA11_15 := Lib.hid (Box.fresh w15 [.int .i64 d1, .int .i64 d2] 23)
      clear hb hga HB14 HX14 HU14 HM14 HG14 HSA5_14 HSA6_14 HSA7_14 HSA8_14 HSA9_14 HSA10_14
      have u0 := HU15.out.cell (i := 0) rfl
      have u1 := HU15.out.cell (i := 1) rfl
      have u2 := HU15.out.cell (i := 2) rfl
      have u3 := HU15.out.cell (i := 3) rfl
      have m0 := HM15.out.cell (i := 0) rfl
      have m1 := HM15.out.cell (i := 1) rfl
      have m2 := HM15.out.cell (i := 2) rfl
      have m3 := HM15.out.cell (i := 3) rfl
      have ul := HU15.out.lt
      have ml := HM15.out.lt
      go_wp2_with (first | (with_reducible refine wpList_stopLoad (ty := 28) rfl ?_; unfold Stop; first | refine wpList_loadBox row28 rfl (HB15.out) rfl rfl rfl ?_ | refine wpList_loadBox row28 rfl (HX15.out) rfl rfl rfl ?_))
      refine (mdeep_is A12.out (ThingsAt.lasts _ _ _ _ HTX.out HG15.out)).mono ?_
      rintro e w16 ⟨rfl, hb⟩
      clear u0 u1 u2 u3 ul m0 m1 m2 m3 ml
      have hga := Gr.tr hb (Gr.alloc w16 (Obj.cells #[.int .i64 d1, .int .i64 d2] 23))
      have HG16 := Lib.hid (HG15.out.tr hga)
      have HB16 := Lib.hid (HB15.out.grow hga)
      have HX16 := Lib.hid (HX15.out.grow hga)
      have HU16 := Lib.hid (HU15.out.grow hga)
      have HM16 := Lib.hid (HM15.out.grow hga)
      have HSA5_16 := Lib.hid (HSA5_15.out.grow hga)
      have HSA6_16 := Lib.hid (HSA6_15.out.grow hga)
      have HSA7_16 := Lib.hid (HSA7_15.out.grow hga)
      have HSA8_16 := Lib.hid (HSA8_15.out.grow hga)
      have HSA9_16 := Lib.hid (HSA9_15.out.grow hga)
      have HSA10_16 := Lib.hid (HSA10_15.out.grow hga)
      have HSA11_16 := Lib.hid (HSA11_15.out.grow hga)
      have HSA12_16 := Lib.hid (Box.fresh w16 [.int .i64 d1, .int .i64 d2] 23)
      clear hb hga HB15 HX15 HU15 HM15 HG15 HSA5_15 HSA6_15 HSA7_15 HSA8_15 HSA9_15 HSA10_15 HSA11_15
      have zA5_0 := HSA5_16.out.cell (i := 0) rfl
      have zA5_1 := HSA5_16.out.cell (i := 1) rfl
      have zA5_2 := HSA5_16.out.cell (i := 2) rfl
      have zA5_3 := HSA5_16.out.cell (i := 3) rfl
      have zA6_0 := HSA6_16.out.cell (i := 0) rfl
      have zA6_1 := HSA6_16.out.cell (i := 1) rfl
      have zA6_2 := HSA6_16.out.cell (i := 2) rfl
      have zA6_3 := HSA6_16.out.cell (i := 3) rfl
      have zA7_0 := HSA7_16.out.cell (i := 0) rfl
      have zA7_1 := HSA7_16.out.cell (i := 1) rfl
      have zA8_0 := HSA8_16.out.cell (i := 0) rfl
      have zA8_1 := HSA8_16.out.cell (i := 1) rfl
      have zA9_0 := HSA9_16.out.cell (i := 0) rfl
      have zA9_1 := HSA9_16.out.cell (i := 1) rfl
      have zA10_0 := HSA10_16.out.cell (i := 0) rfl
      have zA10_1 := HSA10_16.out.cell (i := 1) rfl
      have zA11_0 := HSA11_16.out.cell (i := 0) rfl
      have zA11_1 := HSA11_16.out.cell (i := 1) rfl
      have zA12_0 := HSA12_16.out.cell (i := 0) rfl
      have zA12_1 := HSA12_16.out.cell (i := 1) rfl
      have zA5_l := HSA5_16.out.lt
      have zA6_l := HSA6_16.out.lt
      have zA7_l := HSA7_16.out.lt
      have zA8_l := HSA8_16.out.lt
      have zA9_l := HSA9_16.out.lt
      have zA10_l := HSA10_16.out.lt
      have zA11_l := HSA11_16.out.lt
      have zA12_l := HSA12_16.out.lt
      go_wp2_with fail
      clear A1 A2 A3 A4 A5 A6 A7 A8 A9 A10 A11 A12 HTP HTX HB16 HX16 HU16 HM16
      try clear HB1
      try clear HU1
      try clear HG1
      try clear HBX0
      try clear HX3
      try clear HW3
      try clear HS3
      try clear HT1
      try clear HT'
      try clear HT
      try clear HB
      try clear HU
      try clear HG0
      try clear HL
      try clear hc
      try clear HRX
      try clear HDL
      generalize (w16.alloc (Obj.cells #[.int .i64 d1, .int .i64 d2] 23)) = VZ at *
      generalize w16.heap.size = bq at *
      refine region2 68 ?_ ?_ ?_
      · kernel_rfl
      · kernel_rfl
      simp only [List.take_succ_cons, List.take_zero, List.drop_succ_cons, List.drop_zero]
      apply chain_eq (D := [(10, none)]) rfl (by kernel_rfl)
      · intro ρ W ⟨p1, p2, p3⟩ hG hF K hK; (try simp [FactsD] at hF); have ⟨hc, hf, hz⟩ := bcell (Gr.tr (Gr.drew _) hG); go_simp; exact hK _ (gives_val)
      apply chain_eq (D := [(12, none)]) rfl (by kernel_rfl)
      · intro ρ W ⟨p1, p2, p3⟩ hG hF K hK; (try simp [FactsD] at hF); have ⟨hc, hf, hz⟩ := bcell (Gr.tr (Gr.drew _) hG); go_simp; exact hK _ (gives_val)
      apply chain_eq (D := [(171, some 1), (172, some 0)]) rfl (by kernel_rfl)
      · intro ρ W ⟨p1, p2, p3⟩ hG hF K hK; (try simp [FactsD] at hF); have ⟨hc, hf, hz⟩ := bcell (Gr.tr (Gr.drew _) hG); go_simp; exact hK _ (gives_val)
      apply chain_eq (D := [(173, some 0)]) rfl (by kernel_rfl)
      · intro ρ W ⟨p1, p2, p3⟩ hG hF K hK; (try simp [FactsD] at hF); have ⟨hc, hf, hz⟩ := bcell (Gr.tr (Gr.drew _) hG); go_simp; exact hK _ (gives_val)
      apply chain_leq (D := [(11, none), (174, some 0)]) (by kernel_rfl)
      · intro ρ W hF; (try simp [FactsD] at hF); simp [Lets, *]
      · intro ρ W ⟨p1, p2, p3⟩ hG hF K hK; (try simp [FactsD] at hF); have ⟨hc, hf, hz⟩ := bcell (Gr.tr (Gr.drew _) hG); go_simp; exact hK _ (gives_val)
      apply chain_leq (D := [(13, none), (174, some 1)]) (by kernel_rfl)
      · intro ρ W hF; (try simp [FactsD] at hF); simp [Lets, *]
      · intro ρ W ⟨p1, p2, p3⟩ hG hF K hK; (try simp [FactsD] at hF); have ⟨hc, hf, hz⟩ := bcell (Gr.tr (Gr.drew _) hG); go_simp; exact hK _ (gives_val)
      apply chain_leq (D := [(175, some 1), (176, some 0), (174, some 2)]) (by kernel_rfl)
      · intro ρ W hF; (try simp [FactsD] at hF); simp [Lets, *]
      · intro ρ W ⟨p1, p2, p3⟩ hG hF K hK; (try simp [FactsD] at hF); have ⟨hc, hf, hz⟩ := bcell (Gr.tr (Gr.drew _) hG); go_simp; exact hK _ (gives_val)
      apply chain_eq (D := [(174, some 3), (177, some 0)]) rfl (by kernel_rfl)
      · intro ρ W ⟨p1, p2, p3⟩ hG hF K hK; (try simp [FactsD] at hF); have ⟨hc, hf, hz⟩ := bcell (Gr.tr (Gr.drew _) hG); go_simp; exact hK _ (gives_val)
      apply chain_eq (D := [(178, some 0)]) rfl (by kernel_rfl)
      · intro ρ W ⟨p1, p2, p3⟩ hG hF K hK; (try simp [FactsD] at hF); have ⟨hc, hf, hz⟩ := bcell (Gr.tr (Gr.drew _) hG); go_simp; exact hK _ (gives_val)
      apply chain_leq (D := [(14, none), (179, some 0)]) (by kernel_rfl)
      · intro ρ W hF; (try simp [FactsD] at hF); simp [Lets, *]
      · intro ρ W ⟨p1, p2, p3⟩ hG hF K hK; (try simp [FactsD] at hF); have ⟨hc, hf, hz⟩ := bcell (Gr.tr (Gr.drew _) hG); go_simp; exact hK _ (gives_val)
      apply chain_leq (D := [(17, none), (179, some 1)]) (by kernel_rfl)
      · intro ρ W hF; (try simp [FactsD] at hF); simp [Lets, *]
      · intro ρ W ⟨p1, p2, p3⟩ hG hF K hK; (try simp [FactsD] at hF); have ⟨hc, hf, hz⟩ := bcell (Gr.tr (Gr.drew _) hG); go_simp; exact hK _ (gives_val)
      apply chain_leq (D := [(180, some 1), (181, some 0), (179, some 2)]) (by kernel_rfl)
      · intro ρ W hF; (try simp [FactsD] at hF); simp [Lets, *]
      · intro ρ W ⟨p1, p2, p3⟩ hG hF K hK; (try simp [FactsD] at hF); have ⟨hc, hf, hz⟩ := bcell (Gr.tr (Gr.drew _) hG); go_simp; exact hK _ (gives_val)
      apply chain_eq (D := [(179, some 3), (182, some 0)]) rfl (by kernel_rfl)
      · intro ρ W ⟨p1, p2, p3⟩ hG hF K hK; (try simp [FactsD] at hF); have ⟨hc, hf, hz⟩ := bcell (Gr.tr (Gr.drew _) hG); go_simp; exact hK _ (gives_val)
      apply chain_eq (D := [(183, some 0)]) rfl (by kernel_rfl)
      · intro ρ W ⟨p1, p2, p3⟩ hG hF K hK; (try simp [FactsD] at hF); have ⟨hc, hf, hz⟩ := bcell (Gr.tr (Gr.drew _) hG); go_simp; exact hK _ (gives_val)
      apply chain_leq (D := [(15, none), (184, some 0)]) (by kernel_rfl)
      · intro ρ W hF; (try simp [FactsD] at hF); simp [Lets, *]
      · intro ρ W ⟨p1, p2, p3⟩ hG hF K hK; (try simp [FactsD] at hF); have ⟨hc, hf, hz⟩ := bcell (Gr.tr (Gr.drew _) hG); go_simp; exact hK _ (gives_val)
      apply chain_leq (D := [(18, none), (184, some 1)]) (by kernel_rfl)
      · intro ρ W hF; (try simp [FactsD] at hF); simp [Lets, *]
      · intro ρ W ⟨p1, p2, p3⟩ hG hF K hK; (try simp [FactsD] at hF); have ⟨hc, hf, hz⟩ := bcell (Gr.tr (Gr.drew _) hG); go_simp; exact hK _ (gives_val)
      apply chain_leq (D := [(185, some 1), (186, some 0), (184, some 2)]) (by kernel_rfl)
      · intro ρ W hF; (try simp [FactsD] at hF); simp [Lets, *]
      · intro ρ W ⟨p1, p2, p3⟩ hG hF K hK; (try simp [FactsD] at hF); have ⟨hc, hf, hz⟩ := bcell (Gr.tr (Gr.drew _) hG); go_simp; exact hK _ (gives_val)
      apply chain_eq (D := [(184, some 3), (187, some 0)]) rfl (by kernel_rfl)
      · intro ρ W ⟨p1, p2, p3⟩ hG hF K hK; (try simp [FactsD] at hF); have ⟨hc, hf, hz⟩ := bcell (Gr.tr (Gr.drew _) hG); go_simp; exact hK _ (gives_val)
      apply chain_eq (D := [(188, some 0)]) rfl (by kernel_rfl)
      · intro ρ W ⟨p1, p2, p3⟩ hG hF K hK; (try simp [FactsD] at hF); have ⟨hc, hf, hz⟩ := bcell (Gr.tr (Gr.drew _) hG); go_simp; exact hK _ (gives_val)
      apply chain_leq (D := [(16, none), (189, some 0)]) (by kernel_rfl)
      · intro ρ W hF; (try simp [FactsD] at hF); simp [Lets, *]
      · intro ρ W ⟨p1, p2, p3⟩ hG hF K hK; (try simp [FactsD] at hF); have ⟨hc, hf, hz⟩ := bcell (Gr.tr (Gr.drew _) hG); go_simp; exact hK _ (gives_val)
      apply chain_leq (D := [(19, none), (189, some 1)]) (by kernel_rfl)
      · intro ρ W hF; (try simp [FactsD] at hF); simp [Lets, *]
      · intro ρ W ⟨p1, p2, p3⟩ hG hF K hK; (try simp [FactsD] at hF); have ⟨hc, hf, hz⟩ := bcell (Gr.tr (Gr.drew _) hG); go_simp; exact hK _ (gives_val)
      apply chain_leq (D := [(190, some 1), (191, some 0), (189, some 2)]) (by kernel_rfl)
      · intro ρ W hF; (try simp [FactsD] at hF); simp [Lets, *]
      · intro ρ W ⟨p1, p2, p3⟩ hG hF K hK; (try simp [FactsD] at hF); have ⟨hc, hf, hz⟩ := bcell (Gr.tr (Gr.drew _) hG); go_simp; exact hK _ (gives_val)
      apply chain_eq (D := [(189, some 3), (192, some 0)]) rfl (by kernel_rfl)
      · intro ρ W ⟨p1, p2, p3⟩ hG hF K hK; (try simp [FactsD] at hF); have ⟨hc, hf, hz⟩ := bcell (Gr.tr (Gr.drew _) hG); go_simp; exact hK _ (gives_val)
      apply chain_eq (D := [(193, some 0)]) rfl (by kernel_rfl)
      · intro ρ W ⟨p1, p2, p3⟩ hG hF K hK; (try simp [FactsD] at hF); have ⟨hc, hf, hz⟩ := bcell (Gr.tr (Gr.drew _) hG); go_simp; exact hK _ (gives_val)
      apply chain_leq (D := [(20, none), (194, some 0)]) (by kernel_rfl)
      · intro ρ W hF; (try simp [FactsD] at hF); simp [Lets, *]
      · intro ρ W ⟨p1, p2, p3⟩ hG hF K hK; (try simp [FactsD] at hF); have ⟨hc, hf, hz⟩ := bcell (Gr.tr (Gr.drew _) hG); go_simp; exact hK _ (gives_val)
      apply chain_leq (D := [(195, some 0), (194, some 1)]) (by kernel_rfl)
      · intro ρ W hF; (try simp [FactsD] at hF); simp [Lets, *]
      · intro ρ W ⟨p1, p2, p3⟩ hG hF K hK; (try simp [FactsD] at hF); have ⟨hc, hf, hz⟩ := bcell (Gr.tr (Gr.drew _) hG); go_simp; exact hK _ (gives_call (S1.out _))
      apply chain_leq (D := [(22, none), (194, some 2)]) (by kernel_rfl)
      · intro ρ W hF; (try simp [FactsD] at hF); simp [Lets, *]
      · intro ρ W ⟨p1, p2, p3⟩ hG hF K hK; (try simp [FactsD] at hF); have ⟨hc, hf, hz⟩ := bcell (Gr.tr (Gr.drew _) hG); go_simp; exact hK _ (gives_val)
      apply chain_leq (D := [(197, some 0), (194, some 3)]) (by kernel_rfl)
      · intro ρ W hF; (try simp [FactsD] at hF); simp [Lets, *]
      · intro ρ W ⟨p1, p2, p3⟩ hG hF K hK; (try simp [FactsD] at hF); have ⟨hc, hf, hz⟩ := bcell (Gr.tr (Gr.drew _) hG); go_simp; exact hK _ (gives_call (S2.out _))
      apply chain_leq (D := [(196, some 2), (198, some 0), (194, some 4)]) (by kernel_rfl)
      · intro ρ W hF; (try simp [FactsD] at hF); simp [Lets, *]
      · intro ρ W ⟨p1, p2, p3⟩ hG hF K hK; (try simp [FactsD] at hF); have ⟨hc, hf, hz⟩ := bcell (Gr.tr (Gr.drew _) hG); go_simp; exact hK _ (gives_val)
      apply chain_eq (D := [(194, some 5), (199, some 0)]) rfl (by kernel_rfl)
      · intro ρ W ⟨p1, p2, p3⟩ hG hF K hK; (try simp [FactsD] at hF); have ⟨hc, hf, hz⟩ := bcell (Gr.tr (Gr.drew _) hG); go_simp; exact hK _ (gives_val)
      apply chain_eq (D := [(200, some 0)]) rfl (by kernel_rfl)
      · intro ρ W ⟨p1, p2, p3⟩ hG hF K hK; (try simp [FactsD] at hF); have ⟨hc, hf, hz⟩ := bcell (Gr.tr (Gr.drew _) hG); go_simp; exact hK _ (gives_val)
      apply chain_leq (D := [(21, none), (201, some 0)]) (by kernel_rfl)
      · intro ρ W hF; (try simp [FactsD] at hF); simp [Lets, *]
      · intro ρ W ⟨p1, p2, p3⟩ hG hF K hK; (try simp [FactsD] at hF); have ⟨hc, hf, hz⟩ := bcell (Gr.tr (Gr.drew _) hG); go_simp; exact hK _ (gives_val)
      apply chain_leq (D := [(23, none), (201, some 1)]) (by kernel_rfl)
      · intro ρ W hF; (try simp [FactsD] at hF); simp [Lets, *]
      · intro ρ W ⟨p1, p2, p3⟩ hG hF K hK; (try simp [FactsD] at hF); have ⟨hc, hf, hz⟩ := bcell (Gr.tr (Gr.drew _) hG); go_simp; exact hK _ (gives_val)
      apply chain_leq (D := [(202, some 1), (203, some 0), (201, some 2)]) (by kernel_rfl)
      · intro ρ W hF; (try simp [FactsD] at hF); simp [Lets, *]
      · intro ρ W ⟨p1, p2, p3⟩ hG hF K hK; (try simp [FactsD] at hF); have ⟨hc, hf, hz⟩ := bcell (Gr.tr (Gr.drew _) hG); go_simp; exact hK _ (gives_val)
      apply chain_eq (D := [(201, some 3), (204, some 0)]) rfl (by kernel_rfl)
      · intro ρ W ⟨p1, p2, p3⟩ hG hF K hK; (try simp [FactsD] at hF); have ⟨hc, hf, hz⟩ := bcell (Gr.tr (Gr.drew _) hG); go_simp; exact hK _ (gives_val)
      apply chain_eq (D := [(205, some 0)]) rfl (by kernel_rfl)
      · intro ρ W ⟨p1, p2, p3⟩ hG hF K hK; (try simp [FactsD] at hF); have ⟨hc, hf, hz⟩ := bcell (Gr.tr (Gr.drew _) hG); go_simp; exact hK _ (gives_val)
      apply chain_leq (D := [(24, none), (206, some 0)]) (by kernel_rfl)
      · intro ρ W hF; (try simp [FactsD] at hF); simp [Lets, *]
      · intro ρ W ⟨p1, p2, p3⟩ hG hF K hK; (try simp [FactsD] at hF); have ⟨hc, hf, hz⟩ := bcell (Gr.tr (Gr.drew _) hG); go_simp; exact hK _ (gives_val)
      apply chain_leq (D := [(26, none), (206, some 1)]) (by kernel_rfl)
      · intro ρ W hF; (try simp [FactsD] at hF); simp [Lets, *]
      · intro ρ W ⟨p1, p2, p3⟩ hG hF K hK; (try simp [FactsD] at hF); have ⟨hc, hf, hz⟩ := bcell (Gr.tr (Gr.drew _) hG); go_simp; exact hK _ (gives_val)
      apply chain_leq (D := [(207, some 1), (208, some 0), (206, some 2)]) (by kernel_rfl)
      · intro ρ W hF; (try simp [FactsD] at hF); simp [Lets, *]
      · intro ρ W ⟨p1, p2, p3⟩ hG hF K hK; (try simp [FactsD] at hF); have ⟨hc, hf, hz⟩ := bcell (Gr.tr (Gr.drew _) hG); go_simp; exact hK _ (gives_val)
      apply chain_eq (D := [(206, some 3), (209, some 0)]) rfl (by kernel_rfl)
      · intro ρ W ⟨p1, p2, p3⟩ hG hF K hK; (try simp [FactsD] at hF); have ⟨hc, hf, hz⟩ := bcell (Gr.tr (Gr.drew _) hG); go_simp; exact hK _ (gives_val)
      apply chain_eq (D := [(210, some 0)]) rfl (by kernel_rfl)
      · intro ρ W ⟨p1, p2, p3⟩ hG hF K hK; (try simp [FactsD] at hF); have ⟨hc, hf, hz⟩ := bcell (Gr.tr (Gr.drew _) hG); go_simp; exact hK _ (gives_val)
      apply chain_leq (D := [(25, none), (211, some 0)]) (by kernel_rfl)
      · intro ρ W hF; (try simp [FactsD] at hF); simp [Lets, *]
      · intro ρ W ⟨p1, p2, p3⟩ hG hF K hK; (try simp [FactsD] at hF); have ⟨hc, hf, hz⟩ := bcell (Gr.tr (Gr.drew _) hG); go_simp; exact hK _ (gives_val)
      apply chain_leq (D := [(27, none), (211, some 1)]) (by kernel_rfl)
      · intro ρ W hF; (try simp [FactsD] at hF); simp [Lets, *]
      · intro ρ W ⟨p1, p2, p3⟩ hG hF K hK; (try simp [FactsD] at hF); have ⟨hc, hf, hz⟩ := bcell (Gr.tr (Gr.drew _) hG); go_simp; exact hK _ (gives_val)
      apply chain_leq (D := [(212, some 1), (213, some 0), (211, some 2)]) (by kernel_rfl)
      · intro ρ W hF; (try simp [FactsD] at hF); simp [Lets, *]
      · intro ρ W ⟨p1, p2, p3⟩ hG hF K hK; (try simp [FactsD] at hF); have ⟨hc, hf, hz⟩ := bcell (Gr.tr (Gr.drew _) hG); go_simp; exact hK _ (gives_val)
      apply chain_eq (D := [(211, some 3), (214, some 0)]) rfl (by kernel_rfl)
      · intro ρ W ⟨p1, p2, p3⟩ hG hF K hK; (try simp [FactsD] at hF); have ⟨hc, hf, hz⟩ := bcell (Gr.tr (Gr.drew _) hG); go_simp; exact hK _ (gives_val)
      apply chain_eq (D := [(215, some 0)]) rfl (by kernel_rfl)
      · intro ρ W ⟨p1, p2, p3⟩ hG hF K hK; (try simp [FactsD] at hF); have ⟨hc, hf, hz⟩ := bcell (Gr.tr (Gr.drew _) hG); go_simp; exact hK _ (gives_val)
      apply chain_leq (D := [(28, none), (216, some 0)]) (by kernel_rfl)
      · intro ρ W hF; (try simp [FactsD] at hF); simp [Lets, *]
      · intro ρ W ⟨p1, p2, p3⟩ hG hF K hK; (try simp [FactsD] at hF); have ⟨hc, hf, hz⟩ := bcell (Gr.tr (Gr.drew _) hG); go_simp; exact hK _ (gives_val)
      apply chain_leq (D := [(30, none), (216, some 1)]) (by kernel_rfl)
      · intro ρ W hF; (try simp [FactsD] at hF); simp [Lets, *]
      · intro ρ W ⟨p1, p2, p3⟩ hG hF K hK; (try simp [FactsD] at hF); have ⟨hc, hf, hz⟩ := bcell (Gr.tr (Gr.drew _) hG); go_simp; exact hK _ (gives_val)
      apply chain_leq (D := [(217, some 1), (218, some 0), (216, some 2)]) (by kernel_rfl)
      · intro ρ W hF; (try simp [FactsD] at hF); simp [Lets, *]
      · intro ρ W ⟨p1, p2, p3⟩ hG hF K hK; (try simp [FactsD] at hF); have ⟨hc, hf, hz⟩ := bcell (Gr.tr (Gr.drew _) hG); go_simp; exact hK _ (gives_val)
      apply chain_eq (D := [(216, some 3), (219, some 0)]) rfl (by kernel_rfl)
      · intro ρ W ⟨p1, p2, p3⟩ hG hF K hK; (try simp [FactsD] at hF); have ⟨hc, hf, hz⟩ := bcell (Gr.tr (Gr.drew _) hG); go_simp; exact hK _ (gives_val)
      apply chain_eq (D := [(220, some 0)]) rfl (by kernel_rfl)
      · intro ρ W ⟨p1, p2, p3⟩ hG hF K hK; (try simp [FactsD] at hF); have ⟨hc, hf, hz⟩ := bcell (Gr.tr (Gr.drew _) hG); go_simp; exact hK _ (gives_val)
      apply chain_leq (D := [(29, none), (221, some 0)]) (by kernel_rfl)
      · intro ρ W hF; (try simp [FactsD] at hF); simp [Lets, *]
      · intro ρ W ⟨p1, p2, p3⟩ hG hF K hK; (try simp [FactsD] at hF); have ⟨hc, hf, hz⟩ := bcell (Gr.tr (Gr.drew _) hG); go_simp; exact hK _ (gives_val)
      apply chain_leq (D := [(31, none), (221, some 1)]) (by kernel_rfl)
      · intro ρ W hF; (try simp [FactsD] at hF); simp [Lets, *]
      · intro ρ W ⟨p1, p2, p3⟩ hG hF K hK; (try simp [FactsD] at hF); have ⟨hc, hf, hz⟩ := bcell (Gr.tr (Gr.drew _) hG); go_simp; exact hK _ (gives_val)
      apply chain_leq (D := [(222, some 1), (223, some 0), (221, some 2)]) (by kernel_rfl)
      · intro ρ W hF; (try simp [FactsD] at hF); simp [Lets, *]
      · intro ρ W ⟨p1, p2, p3⟩ hG hF K hK; (try simp [FactsD] at hF); have ⟨hc, hf, hz⟩ := bcell (Gr.tr (Gr.drew _) hG); go_simp; exact hK _ (gives_val)
      apply chain_eq (D := [(221, some 3), (224, some 0)]) rfl (by kernel_rfl)
      · intro ρ W ⟨p1, p2, p3⟩ hG hF K hK; (try simp [FactsD] at hF); have ⟨hc, hf, hz⟩ := bcell (Gr.tr (Gr.drew _) hG); go_simp; exact hK _ (gives_val)
      apply chain_eq (D := [(225, some 0)]) rfl (by kernel_rfl)
      · intro ρ W ⟨p1, p2, p3⟩ hG hF K hK; (try simp [FactsD] at hF); have ⟨hc, hf, hz⟩ := bcell (Gr.tr (Gr.drew _) hG); go_simp; exact hK _ (gives_val)
      apply chain_leq (D := [(32, none), (226, some 0)]) (by kernel_rfl)
      · intro ρ W hF; (try simp [FactsD] at hF); simp [Lets, *]
      · intro ρ W ⟨p1, p2, p3⟩ hG hF K hK; (try simp [FactsD] at hF); have ⟨hc, hf, hz⟩ := bcell (Gr.tr (Gr.drew _) hG); go_simp; exact hK _ (gives_val)
      apply chain_leq (D := [(34, none), (226, some 1)]) (by kernel_rfl)
      · intro ρ W hF; (try simp [FactsD] at hF); simp [Lets, *]
      · intro ρ W ⟨p1, p2, p3⟩ hG hF K hK; (try simp [FactsD] at hF); have ⟨hc, hf, hz⟩ := bcell (Gr.tr (Gr.drew _) hG); go_simp; exact hK _ (gives_val)
      apply chain_leq (D := [(227, some 1), (228, some 0), (226, some 2)]) (by kernel_rfl)
      · intro ρ W hF; (try simp [FactsD] at hF); simp [Lets, *]
      · intro ρ W ⟨p1, p2, p3⟩ hG hF K hK; (try simp [FactsD] at hF); have ⟨hc, hf, hz⟩ := bcell (Gr.tr (Gr.drew _) hG); go_simp; exact hK _ (gives_val)
      apply chain_eq (D := [(226, some 3), (229, some 0)]) rfl (by kernel_rfl)
      · intro ρ W ⟨p1, p2, p3⟩ hG hF K hK; (try simp [FactsD] at hF); have ⟨hc, hf, hz⟩ := bcell (Gr.tr (Gr.drew _) hG); go_simp; exact hK _ (gives_val)
      apply chain_eq (D := [(230, some 0)]) rfl (by kernel_rfl)
      · intro ρ W ⟨p1, p2, p3⟩ hG hF K hK; (try simp [FactsD] at hF); have ⟨hc, hf, hz⟩ := bcell (Gr.tr (Gr.drew _) hG); go_simp; exact hK _ (gives_val)
      apply chain_leq (D := [(33, none), (231, some 0)]) (by kernel_rfl)
      · intro ρ W hF; (try simp [FactsD] at hF); simp [Lets, *]
      · intro ρ W ⟨p1, p2, p3⟩ hG hF K hK; (try simp [FactsD] at hF); have ⟨hc, hf, hz⟩ := bcell (Gr.tr (Gr.drew _) hG); go_simp; exact hK _ (gives_val)
      apply chain_leq (D := [(35, none), (231, some 1)]) (by kernel_rfl)
      · intro ρ W hF; (try simp [FactsD] at hF); simp [Lets, *]
      · intro ρ W ⟨p1, p2, p3⟩ hG hF K hK; (try simp [FactsD] at hF); have ⟨hc, hf, hz⟩ := bcell (Gr.tr (Gr.drew _) hG); go_simp; exact hK _ (gives_val)
      apply chain_leq (D := [(232, some 1), (233, some 0), (231, some 2)]) (by kernel_rfl)
      · intro ρ W hF; (try simp [FactsD] at hF); simp [Lets, *]
      · intro ρ W ⟨p1, p2, p3⟩ hG hF K hK; (try simp [FactsD] at hF); have ⟨hc, hf, hz⟩ := bcell (Gr.tr (Gr.drew _) hG); go_simp; exact hK _ (gives_val)
      apply chain_eq (D := [(231, some 3), (234, some 0)]) rfl (by kernel_rfl)
      · intro ρ W ⟨p1, p2, p3⟩ hG hF K hK; (try simp [FactsD] at hF); have ⟨hc, hf, hz⟩ := bcell (Gr.tr (Gr.drew _) hG); go_simp; exact hK _ (gives_val)
      apply chain_eq (D := [(235, some 0)]) rfl (by kernel_rfl)
      · intro ρ W ⟨p1, p2, p3⟩ hG hF K hK; (try simp [FactsD] at hF); have ⟨hc, hf, hz⟩ := bcell (Gr.tr (Gr.drew _) hG); go_simp; exact hK _ (gives_val)
      apply chain_leq (D := [(236, some 0)]) (by kernel_rfl)
      · intro ρ W hF; (try simp [FactsD] at hF); simp [Lets, *]
      · intro ρ W ⟨p1, p2, p3⟩ hG hF K hK; (try simp [FactsD] at hF); have ⟨hc, hf, hz⟩ := bcell (Gr.tr (Gr.drew _) hG); go_simp; exact hK _ (gives_call (awake_any _))
      apply chain_eq (D := [(236, some 1), (237, some 0)]) rfl (by kernel_rfl)
      · intro ρ W ⟨p1, p2, p3⟩ hG hF K hK; (try simp [FactsD] at hF); have ⟨hc, hf, hz⟩ := bcell (Gr.tr (Gr.drew _) hG); go_simp; exact hK _ (gives_val)
      refine chain_done ?_
      intro vs W hG hV
      obtain ⟨e67, -⟩ := hV
      simp only [Nat.reduceSub] at e67
      have HGW := Lib.hid (Gr.tr HGK.out (HG16.out.tr hG))
      clear hG
      refine lay_tail (i := 67) (t := 238) (d := 4) (x := .bool true) rfl rfl rfl (by decide) (by kernel_rfl) (Nat.le_of_ble_eq_true (n := 239) (by kernel_rfl)) (by kernel_rfl) e67 ?_
      intro B hBd hBs
      go_wp2_with fail
      refine bodyPost_ret (v := .bool true) (by simp [results, Tryz.results11, Act.put, hBs, go_sem]) (by simp [Act.put, hBd]) ⟨rfl, HGW.out⟩
end Go.Proofs.YtcngaohfemdfjaaGreat
