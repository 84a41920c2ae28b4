import Derived.Test.YtofdoadpaedogaaFd
namespace Go.Proofs.Ytofdoadpaedogaa
open Go.RowKit

set_option maxRecDepth 100000 in
set_option maxHeartbeats 4000000 in
theorem rdist_err (p : Pr) (sp : Option Addr) (len cap : Nat) (n : Int) (b : Bool) (x y er : Int) (w : World) (hT : ThingsAt p.l (.slice sp len cap) w) (hl : len ≤ 1000) (hk : Hid ((decide (0 ≤ n) && decide (n < (len : Int))) = b)) (ho : Hid (p.ropen b = (x, y, er))) (he : (er != 0) = true) :
    Calls Try.prog 24 #[.agg #[.int .i64 p.fl, .int .i64 p.fh, .int .i64 p.bl, .int .i64 p.bh, .int .i64 p.ti, .int .i64 p.ne, .int .i64 p.fa, .slice sp len cap], .int .i64 n] w fun e w' => e = .returned (.tuple #[.agg #[.int .i64 0, .int .i64 0], .int .i64 er]) ∧ Below w.heap.size w w' := by
  have TH := Lib.hid (fun (W : World) (hg : Gr ((w.alloc (.cells #[.int .i64 p.fl, .int .i64 p.fh, .int .i64 p.bl, .int .i64 p.bh, .int .i64 p.ti, .int .i64 p.ne, .int .i64 p.fa, .slice sp len cap] 26)).alloc (.cells #[.int .i64 0, .int .i64 0] 23)) W) => ThingsAt.lasts p.l _ _ _ hT (((Gr.alloc _ _).tr (Gr.alloc _ _)).tr hg))
  have hal := @cal
  clear hT
  go_enter Try.func24, Try.ntmps24
  go_wp2_with fail
  refine regionL 9 7 ?_ ?_ ?_
  · kernel_rfl
  · kernel_rfl
  simp only [List.take_succ_cons, List.take_zero, List.drop_succ_cons, List.drop_zero]
  apply chainB_eq (D := [(2, none)]) rfl (by kernel_rfl)
  · intro ρ W ⟨p1, p2, p3⟩ hG hF K hK; (try simp [FactsD] at hF); have ⟨hc, hf, hz⟩ := bcell (Gr.tr (Gr.drew _) hG); go_simp; exact hK _ (gives_val)
  apply chainB_eq (D := [(2, none)]) rfl (by kernel_rfl)
  · intro ρ W ⟨p1, p2, p3⟩ hG hF K hK; (try simp [FactsD] at hF); have ⟨hc, hf, hz⟩ := bcell (Gr.tr (Gr.drew _) hG); go_simp; exact hK _ (gives_val)
  apply chainB_eq (D := [(1, none)]) rfl (by kernel_rfl)
  · intro ρ W ⟨p1, p2, p3⟩ hG hF K hK; (try simp [FactsD] at hF); have ⟨hc, hf, hz⟩ := bcell (Gr.tr (Gr.drew _) hG); go_simp; exact hK _ (gives_val)
  apply chainB_eq (D := [(13, some 1), (14, some 0)]) rfl (by kernel_rfl)
  · intro ρ W ⟨p1, p2, p3⟩ hG hF K hK; (try simp [FactsD, exB] at hF); have ⟨hc, hf, hz⟩ := bcell (Gr.tr (Gr.drew _) hG); go_simp; exact hK _ (gives_call (rthing_is hl hk.out))
  apply chainB_eq (D := [(12, some 3), (15, some 0)]) rfl (by kernel_rfl)
  · intro ρ W ⟨p1, p2, p3⟩ hG hF K hK; (try simp [FactsD, exB] at hF); have ⟨hc, hf, hz⟩ := bcell (Gr.tr (Gr.drew _) hG); go_simp; exact hK _ (gives_call (ropen_is ho.out (TH.out _ ((Gr.drew _).tr hG))))
  apply chainB_eq (D := [(16, some 0)]) rfl (by kernel_rfl)
  · intro ρ W ⟨p1, p2, p3⟩ hG hF K hK; (try simp [FactsD, exB] at hF); have ⟨hc, hf, hz⟩ := bcell (Gr.tr (Gr.drew _) hG); go_simp; exact hK _ (gives_val)
  apply chainB_eq (D := [(11, some 0)]) rfl (by kernel_rfl)
  · intro ρ W ⟨p1, p2, p3⟩ hG hF K hK; (try simp [FactsD, exB] at hF); have ⟨hc, hf, hz⟩ := bcell (Gr.tr (Gr.drew _) hG); go_simp; exact hK _ (gives_val)
  apply chainB_eq (D := [(11, some 1)]) rfl (by kernel_rfl)
  · intro ρ W ⟨p1, p2, p3⟩ hG hF K hK; (try simp [FactsD, exB] at hF); have ⟨hc, hf, hz⟩ := bcell (Gr.tr (Gr.drew _) hG); go_simp; exact hK _ (gives_val)
  refine chainB_any (V := fun p v W' => NewB [.int .i64 0, .int .i64 0] 23 p v W' ∧ w.heap.size + 1 + 1 ≤ p.1) (D := []) rfl (by kernel_rfl) (fun p v A B h hg => ⟨NewB.lasts _ _ p v A B h.1 hg, h.2⟩) ?_ ?_
  · intro ρ W ⟨p1, p2, p3⟩ hG hF K hK; (try simp [FactsD] at hF); have ⟨hc, hf, hz⟩ := bcell (Gr.tr (Gr.drew _) hG); go_simp; exact hK _ (⟨⟨NewB.new _ _ _, by have := hG.size; simpa using this⟩, Gr.alloc _ _⟩)
  refine chainB_done ⟨?_, ?_⟩
  · intro vs bs W hG hV hdj
    obtain ⟨e8, e7, e6, -⟩ := hV
    simp only [Nat.reduceSub] at e6
    simp only [Nat.reduceSub] at e7
    simp only [Nat.reduceSub] at e8
    clear hdj
    simp only [lay, Act.put, List.getElem?_toArray, List.getElem?_cons_succ, List.getElem?_cons_zero, Option.bind_some, List.setIfInBounds_toArray, List.set_cons_succ, List.set_cons_zero]
    generalize vs 0 = v0
    generalize vs 1 = v1
    generalize vs 2 = v2
    generalize vs 3 = v3
    generalize vs 4 = v4
    generalize vs 5 = v5
    generalize vs 6 = v6 at *
    generalize vs 7 = v7 at *
    generalize vs 8 = v8 at *
    subst e6
    subst e7
    obtain ⟨hc, hf, hz⟩ := bcell hG
    obtain ⟨⟨b8, rfl, hb8, hb8', hB8⟩, hb8n⟩ := e8
    have hl1 : w.heap.size + 1 < b8 := by omega
    have hl0 : w.heap.size < b8 := by omega
    have m0 := Nat.ne_of_lt hl0
    have m1 := (Nat.ne_of_lt hl0).symm
    have m2 := Nat.ne_of_lt hl1
    have m3 := (Nat.ne_of_lt hl1).symm
    have hgW : Gr ((w.alloc (.cells #[.int .i64 p.fl, .int .i64 p.fh, .int .i64 p.bl, .int .i64 p.bh, .int .i64 p.ti, .int .i64 p.ne, .int .i64 p.fa, .slice sp len cap] 26)).alloc (.cells #[.int .i64 0, .int .i64 0] 23)) W := hG
    have hP0 : Box W w.heap.size [.int .i64 p.fl, .int .i64 p.fh, .int .i64 p.bl, .int .i64 p.bh, .int .i64 p.ti, .int .i64 p.ne, .int .i64 p.fa, .slice sp len cap] 26 := ((Box.fresh w [.int .i64 p.fl, .int .i64 p.fh, .int .i64 p.bl, .int .i64 p.bh, .int .i64 p.ti, .int .i64 p.ne, .int .i64 p.fa, .slice sp len cap] 26).grow (Gr.alloc _ (.cells #[.int .i64 0, .int .i64 0] 23))).grow hgW
    have hR0 : Box W (w.heap.size + 1) [.int .i64 0, .int .i64 0] 23 := by
      have := (Box.fresh (w.alloc (.cells #[.int .i64 p.fl, .int .i64 p.fh, .int .i64 p.bl, .int .i64 p.bh, .int .i64 p.ti, .int .i64 p.ne, .int .i64 p.fa, .slice sp len cap] 26)) [.int .i64 0, .int .i64 0] 23).grow hgW
      simpa using this
    have P0 := hP0.facts
    have R0 := hR0.facts
    simp only [CellsFrom, Nat.zero_add, Nat.reduceAdd, and_true] at P0 R0
    have RF := hR0.free
    obtain ⟨y0_, y1_, yf0, yf1, yl⟩ := hB8.two
    have HP0 := Lib.hid hP0
    have HR0 := Lib.hid hR0
    have HGW := Lib.hid hgW
    have HB8 := Lib.hid hB8
    clear hP0 hR0 hB8 hb8 hb8' hb8n hgW hG hc hf hz
    go_wp2
    exact bodyPost_ret (v := .tuple #[.agg #[.int .i64 0, .int .i64 0], .int .i64 er]) (by simp [results, Try.results24, go_sem, *]) rfl ⟨rfl, (((((show Below w.heap.size w W from ((Gr.alloc _ _).tr (Gr.alloc _ _)).tr HGW.out).setCell (by first | (simp; done) | (simp; omega) | omega) _).setCell (by first | (simp; done) | (simp; omega) | omega) _).setCell (by first | (simp; done) | (simp; omega) | omega) _).setCell (by first | (simp; done) | (simp; omega) | omega) _)⟩
  · intro vs bs W hG hV hdj
    obtain ⟨e8, -, e6, e5, -⟩ := hV
    simp only [Nat.reduceSub, Nat.reduceEqDiff, if_false] at e5
    simp only [Nat.reduceSub, Nat.reduceEqDiff, if_false] at e6
    simp only [Nat.reduceSub, Nat.reduceEqDiff, if_false] at e8
    clear hdj
    refine wpOp_two rfl rfl ?_
    simp only [layL, Nat.reduceEqDiff, if_false, if_true, Act.put, List.getElem?_toArray, List.getElem?_cons_succ, List.getElem?_cons_zero, Option.bind_some, List.setIfInBounds_toArray, List.set_cons_succ, List.set_cons_zero, List.drop_succ_cons, List.drop_zero]
    generalize vs 0 = v0
    generalize vs 1 = v1
    generalize vs 2 = v2
    generalize vs 3 = v3
    generalize vs 4 = v4
    generalize vs 5 = v5 at *
    generalize vs 6 = v6 at *
    generalize vs 8 = v8 at *
    subst e5
    subst e6
    obtain ⟨hc, hf, hz⟩ := bcell hG
    obtain ⟨⟨b8, rfl, hb8, hb8', hB8⟩, hb8n⟩ := e8
    have hl1 : w.heap.size + 1 < b8 := by omega
    have hl0 : w.heap.size < b8 := by omega
    have m0 := Nat.ne_of_lt hl0
    have m1 := (Nat.ne_of_lt hl0).symm
    have m2 := Nat.ne_of_lt hl1
    have m3 := (Nat.ne_of_lt hl1).symm
    have hgW : Gr ((w.alloc (.cells #[.int .i64 p.fl, .int .i64 p.fh, .int .i64 p.bl, .int .i64 p.bh, .int .i64 p.ti, .int .i64 p.ne, .int .i64 p.fa, .slice sp len cap] 26)).alloc (.cells #[.int .i64 0, .int .i64 0] 23)) W := hG
    have hP0 : Box W w.heap.size [.int .i64 p.fl, .int .i64 p.fh, .int .i64 p.bl, .int .i64 p.bh, .int .i64 p.ti, .int .i64 p.ne, .int .i64 p.fa, .slice sp len cap] 26 := ((Box.fresh w [.int .i64 p.fl, .int .i64 p.fh, .int .i64 p.bl, .int .i64 p.bh, .int .i64 p.ti, .int .i64 p.ne, .int .i64 p.fa, .slice sp len cap] 26).grow (Gr.alloc _ (.cells #[.int .i64 0, .int .i64 0] 23))).grow hgW
    have hR0 : Box W (w.heap.size + 1) [.int .i64 0, .int .i64 0] 23 := by
      have := (Box.fresh (w.alloc (.cells #[.int .i64 p.fl, .int .i64 p.fh, .int .i64 p.bl, .int .i64 p.bh, .int .i64 p.ti, .int .i64 p.ne, .int .i64 p.fa, .slice sp len cap] 26)) [.int .i64 0, .int .i64 0] 23).grow hgW
      simpa using this
    have P0 := hP0.facts
    have R0 := hR0.facts
    simp only [CellsFrom, Nat.zero_add, Nat.reduceAdd, and_true] at P0 R0
    have RF := hR0.free
    obtain ⟨y0_, y1_, yf0, yf1, yl⟩ := hB8.two
    have HP0 := Lib.hid hP0
    have HR0 := Lib.hid hR0
    have HGW := Lib.hid hgW
    have HB8 := Lib.hid hB8
    clear hP0 hR0 hB8 hb8 hb8' hb8n hgW hG hc hf hz
    go_wp2
    exact bodyPost_ret (v := .tuple #[.agg #[.int .i64 0, .int .i64 0], .int .i64 er]) (by simp [results, Try.results24, go_sem, *]) rfl ⟨rfl, (((((show Below w.heap.size w W from ((Gr.alloc _ _).tr (Gr.alloc _ _)).tr HGW.out).setCell (by first | (simp; done) | (simp; omega) | omega) _).setCell (by first | (simp; done) | (simp; omega) | omega) _).setCell (by first | (simp; done) | (simp; omega) | omega) _).setCell (by first | (simp; done) | (simp; omega) | omega) _)⟩
set_option maxRecDepth 100000 in
set_option maxHeartbeats 4000000 in
theorem rdist_refuse (p : Pr) (sp : Option Addr) (len cap : Nat) (n : Nat) (xa xb xc xd xe xf xg xh xz x y q1 q2 : Int) (w : World) (hT : ThingsAt p.l (.slice sp len cap) w) (hl : len ≤ 1000) (hk : Hid ((decide (0 ≤ (n : Int)) && decide ((n : Int) < (len : Int))) = true)) (hkl : n < len) (HK : Hid (p.l[n]? = some ⟨xa, xb, xc, xd, xe, xf, xg, xh, xz⟩)) (ho : Hid (p.ropen true = (x, y, 0))) (HPT : Hid (∀ (v : Value) (w : World), Calls Try.prog 59 #[.agg #[.int .i64 p.fl, .int .i64 p.fh, .int .i64 p.bl, .int .i64 p.bh, .int .i64 p.ti, .int .i64 p.ne, .int .i64 p.fa, v], .agg #[.int .i64 xa, .int .i64 xb, .int .i64 xc, .int .i64 xd, .int .i64 xe, .int .i64 xf, .int .i64 xg, .int .i64 xh, .int .i64 xz]] w fun e w' => e = .returned (.agg #[.int .i64 q1, .int .i64 q2]) ∧ Below w.heap.size w w')) (hem : decide ((ovl (x, y) (q1, q2)).2 < (ovl (x, y) (q1, q2)).1) = true) :
    Calls Try.prog 24 #[.agg #[.int .i64 p.fl, .int .i64 p.fh, .int .i64 p.bl, .int .i64 p.bh, .int .i64 p.ti, .int .i64 p.ne, .int .i64 p.fa, .slice sp len cap], .int .i64 n] w fun e w' => e = .returned (.tuple #[.agg #[.int .i64 0, .int .i64 0], .int .i64 11]) ∧ Below w.heap.size w w' := by
  have TH := Lib.hid (fun (W : World) (hg : Gr ((w.alloc (.cells #[.int .i64 p.fl, .int .i64 p.fh, .int .i64 p.bl, .int .i64 p.bh, .int .i64 p.ti, .int .i64 p.ne, .int .i64 p.fa, .slice sp len cap] 26)).alloc (.cells #[.int .i64 0, .int .i64 0] 23)) W) => ThingsAt.lasts p.l _ _ _ hT (((Gr.alloc _ _).tr (Gr.alloc _ _)).tr hg))
  have hal := @cal
  have hT2 := hT.2
  rcases hT2 with ⟨e, -⟩ | ⟨b, o, cap', hsp, hb, hcx⟩
  · have := HK.out; rw [e] at this; cases this
  obtain ⟨hsp1, -, -⟩ : sp = some ⟨b, o, none⟩ ∧ len = p.l.length ∧ cap = cap' := by simpa using hsp
  subst hsp1
  have HX0 := Lib.hid (hcx n _ HK.out)
  obtain ⟨o1, o2, hov⟩ : ∃ o1 o2, ovl (x, y) (q1, q2) = (o1, o2) := ⟨_, _, rfl⟩
  have HC : Hid (∀ W : World, Calls Try.prog 58 #[.agg #[.int .i64 x, .int .i64 y], .agg #[.int .i64 q1, .int .i64 q2]] W fun e w' => e = .returned (.agg #[.int .i64 o1, .int .i64 o2]) ∧ Below W.heap.size W w') := Lib.hid fun W => by
    have := rcommon_any x y q1 q2 W
    rwa [hov] at this
  rw [hov] at hem
  simp only at hem
  have hem2 := hem
  simp only [decide_eq_true_eq] at hem2
  clear hT hcx hsp hov
  go_enter Try.func24, Try.ntmps24
  go_wp2_with fail
  refine regionL 9 7 ?_ ?_ ?_
  · kernel_rfl
  · kernel_rfl
  simp only [List.take_succ_cons, List.take_zero, List.drop_succ_cons, List.drop_zero]
  apply chainB_eq (D := [(2, none)]) rfl (by kernel_rfl)
  · intro ρ W ⟨p1, p2, p3⟩ hG hF K hK; (try simp [FactsD] at hF); have ⟨hc, hf, hz⟩ := bcell (Gr.tr (Gr.drew _) hG); go_simp; exact hK _ (gives_val)
  apply chainB_eq (D := [(2, none)]) rfl (by kernel_rfl)
  · intro ρ W ⟨p1, p2, p3⟩ hG hF K hK; (try simp [FactsD] at hF); have ⟨hc, hf, hz⟩ := bcell (Gr.tr (Gr.drew _) hG); go_simp; exact hK _ (gives_val)
  apply chainB_eq (D := [(1, none)]) rfl (by kernel_rfl)
  · intro ρ W ⟨p1, p2, p3⟩ hG hF K hK; (try simp [FactsD] at hF); have ⟨hc, hf, hz⟩ := bcell (Gr.tr (Gr.drew _) hG); go_simp; exact hK _ (gives_val)
  apply chainB_eq (D := [(13, some 1), (14, some 0)]) rfl (by kernel_rfl)
  · intro ρ W ⟨p1, p2, p3⟩ hG hF K hK; (try simp [FactsD, exB] at hF); have ⟨hc, hf, hz⟩ := bcell (Gr.tr (Gr.drew _) hG); go_simp; exact hK _ (gives_call (rthing_is hl hk.out))
  apply chainB_eq (D := [(12, some 3), (15, some 0)]) rfl (by kernel_rfl)
  · intro ρ W ⟨p1, p2, p3⟩ hG hF K hK; (try simp [FactsD, exB] at hF); have ⟨hc, hf, hz⟩ := bcell (Gr.tr (Gr.drew _) hG); go_simp; exact hK _ (gives_call (ropen_is ho.out (TH.out _ ((Gr.drew _).tr hG))))
  apply chainB_eq (D := [(16, some 0)]) rfl (by kernel_rfl)
  · intro ρ W ⟨p1, p2, p3⟩ hG hF K hK; (try simp [FactsD, exB] at hF); have ⟨hc, hf, hz⟩ := bcell (Gr.tr (Gr.drew _) hG); go_simp; exact hK _ (gives_val)
  apply chainB_eq (D := [(11, some 0)]) rfl (by kernel_rfl)
  · intro ρ W ⟨p1, p2, p3⟩ hG hF K hK; (try simp [FactsD, exB] at hF); have ⟨hc, hf, hz⟩ := bcell (Gr.tr (Gr.drew _) hG); go_simp; exact hK _ (gives_val)
  apply chainB_eq (D := [(11, some 1)]) rfl (by kernel_rfl)
  · intro ρ W ⟨p1, p2, p3⟩ hG hF K hK; (try simp [FactsD, exB] at hF); have ⟨hc, hf, hz⟩ := bcell (Gr.tr (Gr.drew _) hG); go_simp; exact hK _ (gives_val)
  refine chainB_any (V := fun p v W' => NewB [.int .i64 0, .int .i64 0] 23 p v W' ∧ w.heap.size + 1 + 1 ≤ p.1) (D := []) rfl (by kernel_rfl) (fun p v A B h hg => ⟨NewB.lasts _ _ p v A B h.1 hg, h.2⟩) ?_ ?_
  · intro ρ W ⟨p1, p2, p3⟩ hG hF K hK; (try simp [FactsD] at hF); have ⟨hc, hf, hz⟩ := bcell (Gr.tr (Gr.drew _) hG); go_simp; exact hK _ (⟨⟨NewB.new _ _ _, by have := hG.size; simpa using this⟩, Gr.alloc _ _⟩)
  refine chainB_done ⟨?_, ?_⟩
  · intro vs bs W hG hV hdj
    obtain ⟨e8, e7, e6, -⟩ := hV
    simp only [Nat.reduceSub] at e6
    simp only [Nat.reduceSub] at e7
    simp only [Nat.reduceSub] at e8
    clear hdj
    simp only [lay, Act.put, List.getElem?_toArray, List.getElem?_cons_succ, List.getElem?_cons_zero, Option.bind_some, List.setIfInBounds_toArray, List.set_cons_succ, List.set_cons_zero]
    generalize vs 0 = v0
    generalize vs 1 = v1
    generalize vs 2 = v2
    generalize vs 3 = v3
    generalize vs 4 = v4
    generalize vs 5 = v5
    generalize vs 6 = v6 at *
    generalize vs 7 = v7 at *
    generalize vs 8 = v8 at *
    subst e6
    subst e7
    obtain ⟨hc, hf, hz⟩ := bcell hG
    obtain ⟨⟨b8, rfl, hb8, hb8', hB8⟩, hb8n⟩ := e8
    have hl1 : w.heap.size + 1 < b8 := by omega
    have hl0 : w.heap.size < b8 := by omega
    have m0 := Nat.ne_of_lt hl0
    have m1 := (Nat.ne_of_lt hl0).symm
    have m2 := Nat.ne_of_lt hl1
    have m3 := (Nat.ne_of_lt hl1).symm
    have hgW : Gr ((w.alloc (.cells #[.int .i64 p.fl, .int .i64 p.fh, .int .i64 p.bl, .int .i64 p.bh, .int .i64 p.ti, .int .i64 p.ne, .int .i64 p.fa, .slice (some ⟨b, o, none⟩) len cap] 26)).alloc (.cells #[.int .i64 0, .int .i64 0] 23)) W := hG
    have hP0 : Box W w.heap.size [.int .i64 p.fl, .int .i64 p.fh, .int .i64 p.bl, .int .i64 p.bh, .int .i64 p.ti, .int .i64 p.ne, .int .i64 p.fa, .slice (some ⟨b, o, none⟩) len cap] 26 := ((Box.fresh w [.int .i64 p.fl, .int .i64 p.fh, .int .i64 p.bl, .int .i64 p.bh, .int .i64 p.ti, .int .i64 p.ne, .int .i64 p.fa, .slice (some ⟨b, o, none⟩) len cap] 26).grow (Gr.alloc _ (.cells #[.int .i64 0, .int .i64 0] 23))).grow hgW
    have hR0 : Box W (w.heap.size + 1) [.int .i64 0, .int .i64 0] 23 := by
      have := (Box.fresh (w.alloc (.cells #[.int .i64 p.fl, .int .i64 p.fh, .int .i64 p.bl, .int .i64 p.bh, .int .i64 p.ti, .int .i64 p.ne, .int .i64 p.fa, .slice (some ⟨b, o, none⟩) len cap] 26)) [.int .i64 0, .int .i64 0] 23).grow hgW
      simpa using this
    have P0 := hP0.facts
    have R0 := hR0.facts
    simp only [CellsFrom, Nat.zero_add, Nat.reduceAdd, and_true] at P0 R0
    have RF := hR0.free
    obtain ⟨y0_, y1_, yf0, yf1, yl⟩ := hB8.two
    have HP0 := Lib.hid hP0
    have HR0 := Lib.hid hR0
    have HGW := Lib.hid hgW
    have HB8 := Lib.hid hB8
    clear hP0 hR0 hB8 hb8 hb8' hb8n hgW hG hc hf hz
    have X := CellsFrom.nine (HX0.out.grow hb (((Gr.alloc _ _).tr (Gr.alloc _ _)).tr HGW.out))
    simp only at X
    have hne8 : ¬ b = b8 := by omega
    have hne8' : ¬ b8 = b := by omega
    have hbW : b < W.heap.size := by have := HGW.out.size; simp at this; omega
    go_wp2_with fail
    have h8 : Box (((W.setCell ⟨b8, 0, none⟩ (.int .i64 x)).setCell ⟨b8, 1, none⟩ (.int .i64 y)).alloc (.cells #[.int .i64 xa, .int .i64 xb, .int .i64 xc, .int .i64 xd, .int .i64 xe, .int .i64 xf, .int .i64 xg, .int .i64 xh, .int .i64 xz] 47)) b8 [.int .i64 x, .int .i64 y] 23 := ((HB8.out.put 0 _).put 1 _).grow (Gr.alloc _ _)
    have hp5 : Box (((W.setCell ⟨b8, 0, none⟩ (.int .i64 x)).setCell ⟨b8, 1, none⟩ (.int .i64 y)).alloc (.cells #[.int .i64 xa, .int .i64 xb, .int .i64 xc, .int .i64 xd, .int .i64 xe, .int .i64 xf, .int .i64 xg, .int .i64 xh, .int .i64 xz] 47)) w.heap.size [.int .i64 p.fl, .int .i64 p.fh, .int .i64 p.bl, .int .i64 p.bh, .int .i64 p.ti, .int .i64 p.ne, .int .i64 p.fa, .slice (some ⟨b, o, none⟩) len cap] 26 := ((HP0.out.other m0 _ _).other m0 _ _).grow (Gr.alloc _ _)
    have hr5 : Box (((W.setCell ⟨b8, 0, none⟩ (.int .i64 x)).setCell ⟨b8, 1, none⟩ (.int .i64 y)).alloc (.cells #[.int .i64 xa, .int .i64 xb, .int .i64 xc, .int .i64 xd, .int .i64 xe, .int .i64 xf, .int .i64 xg, .int .i64 xh, .int .i64 xz] 47)) (w.heap.size + 1) [.int .i64 0, .int .i64 0] 23 := ((HR0.out.other m2 _ _).other m2 _ _).grow (Gr.alloc _ _)
    have ht5 : Box (((W.setCell ⟨b8, 0, none⟩ (.int .i64 x)).setCell ⟨b8, 1, none⟩ (.int .i64 y)).alloc (.cells #[.int .i64 xa, .int .i64 xb, .int .i64 xc, .int .i64 xd, .int .i64 xe, .int .i64 xf, .int .i64 xg, .int .i64 xh, .int .i64 xz] 47)) W.heap.size [.int .i64 xa, .int .i64 xb, .int .i64 xc, .int .i64 xd, .int .i64 xe, .int .i64 xf, .int .i64 xg, .int .i64 xh, .int .i64 xz] 47 := by
      have := Box.fresh ((W.setCell ⟨b8, 0, none⟩ (.int .i64 x)).setCell ⟨b8, 1, none⟩ (.int .i64 y)) [.int .i64 xa, .int .i64 xb, .int .i64 xc, .int .i64 xd, .int .i64 xe, .int .i64 xf, .int .i64 xg, .int .i64 xh, .int .i64 xz] 47
      simpa using this
    have hw5 : Below w.heap.size w (((W.setCell ⟨b8, 0, none⟩ (.int .i64 x)).setCell ⟨b8, 1, none⟩ (.int .i64 y)).alloc (.cells #[.int .i64 xa, .int .i64 xb, .int .i64 xc, .int .i64 xd, .int .i64 xe, .int .i64 xf, .int .i64 xg, .int .i64 xh, .int .i64 xz] 47)) := (((show Below w.heap.size w W from ((Gr.alloc _ _).tr (Gr.alloc _ _)).tr HGW.out).setCell (by first | (simp; done) | (simp; omega) | omega) _).setCell (by first | (simp; done) | (simp; omega) | omega) _).alloc (by first | (simp; done) | (simp; omega) | omega) _
    clear X hbW y0_ y1_ yf0 yf1 yl P0 R0 RF HP0 HR0 HB8 HGW
    generalize (((W.setCell ⟨b8, 0, none⟩ (.int .i64 x)).setCell ⟨b8, 1, none⟩ (.int .i64 y)).alloc (.cells #[.int .i64 xa, .int .i64 xb, .int .i64 xc, .int .i64 xd, .int .i64 xe, .int .i64 xf, .int .i64 xg, .int .i64 xh, .int .i64 xz] 47)) = W5 at *
    generalize W.heap.size = bt at *
    have C8 := h8.facts
    have CP := hp5.facts
    have CT := ht5.facts
    simp only [CellsFrom, Nat.zero_add, Nat.reduceAdd, and_true] at C8 CP CT
    have H8 := Lib.hid h8
    have HP5 := Lib.hid hp5
    have HR5 := Lib.hid hr5
    have HT5 := Lib.hid ht5
    have HW5 := Lib.hid hw5
    clear h8 hp5 hr5 ht5 hw5
    refine region2 6 ?_ ?_ ?_
    · kernel_rfl
    · kernel_rfl
    simp only [List.take_succ_cons, List.take_zero, List.drop_succ_cons, List.drop_zero]
    apply chain_eq (D := [(6, none)]) rfl (by kernel_rfl)
    · intro ρ W ⟨p1, p2, p3⟩ hG hF K hK; (try simp [FactsD] at hF); have ⟨hc, hf, hz⟩ := bcell (Gr.tr (Gr.drew _) hG); go_simp; exact hK _ (gives_val)
    apply chain_eq (D := [(2, none)]) rfl (by kernel_rfl)
    · intro ρ W ⟨p1, p2, p3⟩ hG hF K hK; (try simp [FactsD] at hF); have ⟨hc, hf, hz⟩ := bcell (Gr.tr (Gr.drew _) hG); go_simp; exact hK _ (gives_val)
    apply chain_eq (D := [(8, none)]) rfl (by kernel_rfl)
    · intro ρ W ⟨p1, p2, p3⟩ hG hF K hK; (try simp [FactsD] at hF); have ⟨hc, hf, hz⟩ := bcell (Gr.tr (Gr.drew _) hG); go_simp; exact hK _ (gives_val)
    apply chain_eq (D := [(29, some 1), (30, some 0)]) rfl (by kernel_rfl)
    · intro ρ W ⟨p1, p2, p3⟩ hG hF K hK; (try simp [FactsD] at hF); have ⟨hc, hf, hz⟩ := bcell (Gr.tr (Gr.drew _) hG); go_simp; exact hK _ (gives_call (HPT.out _ _))
    apply chain_eq (D := [(28, some 3), (31, some 0)]) rfl (by kernel_rfl)
    · intro ρ W ⟨p1, p2, p3⟩ hG hF K hK; (try simp [FactsD] at hF); have ⟨hc, hf, hz⟩ := bcell (Gr.tr (Gr.drew _) hG); go_simp; exact hK _ (gives_call (HC.out _))
    apply chain_eq (D := [(32, some 0)]) rfl (by kernel_rfl)
    · intro ρ W ⟨p1, p2, p3⟩ hG hF K hK; (try simp [FactsD] at hF); have ⟨hc, hf, hz⟩ := bcell (Gr.tr (Gr.drew _) hG); go_simp; exact hK _ (gives_call (rempty_any _ _ _))
    refine chain_done ?_
    intro vs W hG hV
    obtain ⟨e5, -⟩ := hV
    simp only [Nat.reduceSub] at e5
    simp only [lay, Act.put, List.getElem?_toArray, List.getElem?_cons_succ, List.getElem?_cons_zero, Option.bind_some, List.setIfInBounds_toArray, List.set_cons_succ, List.set_cons_zero]
    generalize vs 0 = v0
    generalize vs 1 = v1
    generalize vs 2 = v2
    generalize vs 3 = v3
    generalize vs 4 = v4
    generalize vs 5 = v5 at *
    subst e5
    obtain ⟨hc, hf, hz⟩ := bcell hG
    have C8 := (H8.out.grow hG).facts
    have CP := (HP5.out.grow hG).facts
    have CR := (HR5.out.grow hG).facts
    have FR := (HR5.out.grow hG).free
    have CT := (HT5.out.grow hG).facts
    simp only [CellsFrom, Nat.zero_add, Nat.reduceAdd, and_true] at C8 CP CR CT
    have HW6 := Lib.hid (bgr HW5.out HW5.out.size hG)
    have HG6 := Lib.hid hG
    clear hc hf hz hG
    go_wp2
    exact bodyPost_ret (v := .tuple #[.agg #[.int .i64 0, .int .i64 0], .int .i64 11]) (by simp [results, Try.results24, go_sem, *]) rfl ⟨rfl, (((show Below w.heap.size w W from HW6.out).setCell (by first | (simp; done) | (simp; omega) | omega) _).setCell (by first | (simp; done) | (simp; omega) | omega) _)⟩
  · intro vs bs W hG hV hdj
    obtain ⟨e8, -, e6, e5, -⟩ := hV
    simp only [Nat.reduceSub, Nat.reduceEqDiff, if_false] at e5
    simp only [Nat.reduceSub, Nat.reduceEqDiff, if_false] at e6
    simp only [Nat.reduceSub, Nat.reduceEqDiff, if_false] at e8
    clear hdj
    refine wpOp_two rfl rfl ?_
    simp only [layL, Nat.reduceEqDiff, if_false, if_true, Act.put, List.getElem?_toArray, List.getElem?_cons_succ, List.getElem?_cons_zero, Option.bind_some, List.setIfInBounds_toArray, List.set_cons_succ, List.set_cons_zero, List.drop_succ_cons, List.drop_zero]
    generalize vs 0 = v0
    generalize vs 1 = v1
    generalize vs 2 = v2
    generalize vs 3 = v3
    generalize vs 4 = v4
    generalize vs 5 = v5 at *
    generalize vs 6 = v6 at *
    generalize vs 8 = v8 at *
    subst e5
    subst e6
    obtain ⟨hc, hf, hz⟩ := bcell hG
    obtain ⟨⟨b8, rfl, hb8, hb8', hB8⟩, hb8n⟩ := e8
    have hl1 : w.heap.size + 1 < b8 := by omega
    have hl0 : w.heap.size < b8 := by omega
    have m0 := Nat.ne_of_lt hl0
    have m1 := (Nat.ne_of_lt hl0).symm
    have m2 := Nat.ne_of_lt hl1
    have m3 := (Nat.ne_of_lt hl1).symm
    have hgW : Gr ((w.alloc (.cells #[.int .i64 p.fl, .int .i64 p.fh, .int .i64 p.bl, .int .i64 p.bh, .int .i64 p.ti, .int .i64 p.ne, .int .i64 p.fa, .slice (some ⟨b, o, none⟩) len cap] 26)).alloc (.cells #[.int .i64 0, .int .i64 0] 23)) W := hG
    have hP0 : Box W w.heap.size [.int .i64 p.fl, .int .i64 p.fh, .int .i64 p.bl, .int .i64 p.bh, .int .i64 p.ti, .int .i64 p.ne, .int .i64 p.fa, .slice (some ⟨b, o, none⟩) len cap] 26 := ((Box.fresh w [.int .i64 p.fl, .int .i64 p.fh, .int .i64 p.bl, .int .i64 p.bh, .int .i64 p.ti, .int .i64 p.ne, .int .i64 p.fa, .slice (some ⟨b, o, none⟩) len cap] 26).grow (Gr.alloc _ (.cells #[.int .i64 0, .int .i64 0] 23))).grow hgW
    have hR0 : Box W (w.heap.size + 1) [.int .i64 0, .int .i64 0] 23 := by
      have := (Box.fresh (w.alloc (.cells #[.int .i64 p.fl, .int .i64 p.fh, .int .i64 p.bl, .int .i64 p.bh, .int .i64 p.ti, .int .i64 p.ne, .int .i64 p.fa, .slice (some ⟨b, o, none⟩) len cap] 26)) [.int .i64 0, .int .i64 0] 23).grow hgW
      simpa using this
    have P0 := hP0.facts
    have R0 := hR0.facts
    simp only [CellsFrom, Nat.zero_add, Nat.reduceAdd, and_true] at P0 R0
    have RF := hR0.free
    obtain ⟨y0_, y1_, yf0, yf1, yl⟩ := hB8.two
    have HP0 := Lib.hid hP0
    have HR0 := Lib.hid hR0
    have HGW := Lib.hid hgW
    have HB8 := Lib.hid hB8
    clear hP0 hR0 hB8 hb8 hb8' hb8n hgW hG hc hf hz
    have X := CellsFrom.nine (HX0.out.grow hb (((Gr.alloc _ _).tr (Gr.alloc _ _)).tr HGW.out))
    simp only at X
    have hne8 : ¬ b = b8 := by omega
    have hne8' : ¬ b8 = b := by omega
    have hbW : b < W.heap.size := by have := HGW.out.size; simp at this; omega
    go_wp2_with fail
    have h8 : Box (((W.setCell ⟨b8, 0, none⟩ (.int .i64 x)).setCell ⟨b8, 1, none⟩ (.int .i64 y)).alloc (.cells #[.int .i64 xa, .int .i64 xb, .int .i64 xc, .int .i64 xd, .int .i64 xe, .int .i64 xf, .int .i64 xg, .int .i64 xh, .int .i64 xz] 47)) b8 [.int .i64 x, .int .i64 y] 23 := ((HB8.out.put 0 _).put 1 _).grow (Gr.alloc _ _)
    have hp5 : Box (((W.setCell ⟨b8, 0, none⟩ (.int .i64 x)).setCell ⟨b8, 1, none⟩ (.int .i64 y)).alloc (.cells #[.int .i64 xa, .int .i64 xb, .int .i64 xc, .int .i64 xd, .int .i64 xe, .int .i64 xf, .int .i64 xg, .int .i64 xh, .int .i64 xz] 47)) w.heap.size [.int .i64 p.fl, .int .i64 p.fh, .int .i64 p.bl, .int .i64 p.bh, .int .i64 p.ti, .int .i64 p.ne, .int .i64 p.fa, .slice (some ⟨b, o, none⟩) len cap] 26 := ((HP0.out.other m0 _ _).other m0 _ _).grow (Gr.alloc _ _)
    have hr5 : Box (((W.setCell ⟨b8, 0, none⟩ (.int .i64 x)).setCell ⟨b8, 1, none⟩ (.int .i64 y)).alloc (.cells #[.int .i64 xa, .int .i64 xb, .int .i64 xc, .int .i64 xd, .int .i64 xe, .int .i64 xf, .int .i64 xg, .int .i64 xh, .int .i64 xz] 47)) (w.heap.size + 1) [.int .i64 0, .int .i64 0] 23 := ((HR0.out.other m2 _ _).other m2 _ _).grow (Gr.alloc _ _)
    have ht5 : Box (((W.setCell ⟨b8, 0, none⟩ (.int .i64 x)).setCell ⟨b8, 1, none⟩ (.int .i64 y)).alloc (.cells #[.int .i64 xa, .int .i64 xb, .int .i64 xc, .int .i64 xd, .int .i64 xe, .int .i64 xf, .int .i64 xg, .int .i64 xh, .int .i64 xz] 47)) W.heap.size [.int .i64 xa, .int .i64 xb, .int .i64 xc, .int .i64 xd, .int .i64 xe, .int .i64 xf, .int .i64 xg, .int .i64 xh, .int .i64 xz] 47 := by
      have := Box.fresh ((W.setCell ⟨b8, 0, none⟩ (.int .i64 x)).setCell ⟨b8, 1, none⟩ (.int .i64 y)) [.int .i64 xa, .int .i64 xb, .int .i64 xc, .int .i64 xd, .int .i64 xe, .int .i64 xf, .int .i64 xg, .int .i64 xh, .int .i64 xz] 47
      simpa using this
    have hw5 : Below w.heap.size w (((W.setCell ⟨b8, 0, none⟩ (.int .i64 x)).setCell ⟨b8, 1, none⟩ (.int .i64 y)).alloc (.cells #[.int .i64 xa, .int .i64 xb, .int .i64 xc, .int .i64 xd, .int .i64 xe, .int .i64 xf, .int .i64 xg, .int .i64 xh, .int .i64 xz] 47)) := (((show Below w.heap.size w W from ((Gr.alloc _ _).tr (Gr.alloc _ _)).tr HGW.out).setCell (by first | (simp; done) | (simp; omega) | omega) _).setCell (by first | (simp; done) | (simp; omega) | omega) _).alloc (by first | (simp; done) | (simp; omega) | omega) _
    clear X hbW y0_ y1_ yf0 yf1 yl P0 R0 RF HP0 HR0 HB8 HGW
    generalize (((W.setCell ⟨b8, 0, none⟩ (.int .i64 x)).setCell ⟨b8, 1, none⟩ (.int .i64 y)).alloc (.cells #[.int .i64 xa, .int .i64 xb, .int .i64 xc, .int .i64 xd, .int .i64 xe, .int .i64 xf, .int .i64 xg, .int .i64 xh, .int .i64 xz] 47)) = W5 at *
    generalize W.heap.size = bt at *
    have C8 := h8.facts
    have CP := hp5.facts
    have CT := ht5.facts
    simp only [CellsFrom, Nat.zero_add, Nat.reduceAdd, and_true] at C8 CP CT
    have H8 := Lib.hid h8
    have HP5 := Lib.hid hp5
    have HR5 := Lib.hid hr5
    have HT5 := Lib.hid ht5
    have HW5 := Lib.hid hw5
    clear h8 hp5 hr5 ht5 hw5
    refine region2 6 ?_ ?_ ?_
    · kernel_rfl
    · kernel_rfl
    simp only [List.take_succ_cons, List.take_zero, List.drop_succ_cons, List.drop_zero]
    apply chain_eq (D := [(6, none)]) rfl (by kernel_rfl)
    · intro ρ W ⟨p1, p2, p3⟩ hG hF K hK; (try simp [FactsD] at hF); have ⟨hc, hf, hz⟩ := bcell (Gr.tr (Gr.drew _) hG); go_simp; exact hK _ (gives_val)
    apply chain_eq (D := [(2, none)]) rfl (by kernel_rfl)
    · intro ρ W ⟨p1, p2, p3⟩ hG hF K hK; (try simp [FactsD] at hF); have ⟨hc, hf, hz⟩ := bcell (Gr.tr (Gr.drew _) hG); go_simp; exact hK _ (gives_val)
    apply chain_eq (D := [(8, none)]) rfl (by kernel_rfl)
    · intro ρ W ⟨p1, p2, p3⟩ hG hF K hK; (try simp [FactsD] at hF); have ⟨hc, hf, hz⟩ := bcell (Gr.tr (Gr.drew _) hG); go_simp; exact hK _ (gives_val)
    apply chain_eq (D := [(29, some 1), (30, some 0)]) rfl (by kernel_rfl)
    · intro ρ W ⟨p1, p2, p3⟩ hG hF K hK; (try simp [FactsD] at hF); have ⟨hc, hf, hz⟩ := bcell (Gr.tr (Gr.drew _) hG); go_simp; exact hK _ (gives_call (HPT.out _ _))
    apply chain_eq (D := [(28, some 3), (31, some 0)]) rfl (by kernel_rfl)
    · intro ρ W ⟨p1, p2, p3⟩ hG hF K hK; (try simp [FactsD] at hF); have ⟨hc, hf, hz⟩ := bcell (Gr.tr (Gr.drew _) hG); go_simp; exact hK _ (gives_call (HC.out _))
    apply chain_eq (D := [(32, some 0)]) rfl (by kernel_rfl)
    · intro ρ W ⟨p1, p2, p3⟩ hG hF K hK; (try simp [FactsD] at hF); have ⟨hc, hf, hz⟩ := bcell (Gr.tr (Gr.drew _) hG); go_simp; exact hK _ (gives_call (rempty_any _ _ _))
    refine chain_done ?_
    intro vs W hG hV
    obtain ⟨e5, -⟩ := hV
    simp only [Nat.reduceSub] at e5
    simp only [lay, Act.put, List.getElem?_toArray, List.getElem?_cons_succ, List.getElem?_cons_zero, Option.bind_some, List.setIfInBounds_toArray, List.set_cons_succ, List.set_cons_zero]
    generalize vs 0 = v0
    generalize vs 1 = v1
    generalize vs 2 = v2
    generalize vs 3 = v3
    generalize vs 4 = v4
    generalize vs 5 = v5 at *
    subst e5
    obtain ⟨hc, hf, hz⟩ := bcell hG
    have C8 := (H8.out.grow hG).facts
    have CP := (HP5.out.grow hG).facts
    have CR := (HR5.out.grow hG).facts
    have FR := (HR5.out.grow hG).free
    have CT := (HT5.out.grow hG).facts
    simp only [CellsFrom, Nat.zero_add, Nat.reduceAdd, and_true] at C8 CP CR CT
    have HW6 := Lib.hid (bgr HW5.out HW5.out.size hG)
    have HG6 := Lib.hid hG
    clear hc hf hz hG
    go_wp2
    exact bodyPost_ret (v := .tuple #[.agg #[.int .i64 0, .int .i64 0], .int .i64 11]) (by simp [results, Try.results24, go_sem, *]) rfl ⟨rfl, (((show Below w.heap.size w W from HW6.out).setCell (by first | (simp; done) | (simp; omega) | omega) _).setCell (by first | (simp; done) | (simp; omega) | omega) _)⟩
set_option maxRecDepth 100000 in
set_option maxHeartbeats 4000000 in
theorem rdist_mark (p : Pr) (sp : Option Addr) (len cap : Nat) (n : Nat) (xa xb xc xd xe xf xg xh xz x y q1 q2 : Int) (w : World) (hT : ThingsAt p.l (.slice sp len cap) w) (hl : len ≤ 1000) (hk : Hid ((decide (0 ≤ (n : Int)) && decide ((n : Int) < (len : Int))) = true)) (hkl : n < len) (HK : Hid (p.l[n]? = some ⟨xa, xb, xc, xd, xe, xf, xg, xh, xz⟩)) (ho : Hid (p.ropen true = (x, y, 0))) (HPT : Hid (∀ (v : Value) (w : World), Calls Try.prog 59 #[.agg #[.int .i64 p.fl, .int .i64 p.fh, .int .i64 p.bl, .int .i64 p.bh, .int .i64 p.ti, .int .i64 p.ne, .int .i64 p.fa, v], .agg #[.int .i64 xa, .int .i64 xb, .int .i64 xc, .int .i64 xd, .int .i64 xe, .int .i64 xf, .int .i64 xg, .int .i64 xh, .int .i64 xz]] w fun e w' => e = .returned (.agg #[.int .i64 q1, .int .i64 q2]) ∧ Below w.heap.size w w')) (hem : decide ((ovl (x, y) (q1, q2)).2 < (ovl (x, y) (q1, q2)).1) = false) (hz0 : (xz != 0) = true) :
    Calls Try.prog 24 #[.agg #[.int .i64 p.fl, .int .i64 p.fh, .int .i64 p.bl, .int .i64 p.bh, .int .i64 p.ti, .int .i64 p.ne, .int .i64 p.fa, .slice sp len cap], .int .i64 n] w fun e w' => e = .returned (.tuple #[.agg #[.int .i64 xz, .int .i64 xz], .int .i64 0]) ∧ Below w.heap.size w w' := by
  have TH := Lib.hid (fun (W : World) (hg : Gr ((w.alloc (.cells #[.int .i64 p.fl, .int .i64 p.fh, .int .i64 p.bl, .int .i64 p.bh, .int .i64 p.ti, .int .i64 p.ne, .int .i64 p.fa, .slice sp len cap] 26)).alloc (.cells #[.int .i64 0, .int .i64 0] 23)) W) => ThingsAt.lasts p.l _ _ _ hT (((Gr.alloc _ _).tr (Gr.alloc _ _)).tr hg))
  have hal := @cal
  have hT2 := hT.2
  rcases hT2 with ⟨e, -⟩ | ⟨b, o, cap', hsp, hb, hcx⟩
  · have := HK.out; rw [e] at this; cases this
  obtain ⟨hsp1, -, -⟩ : sp = some ⟨b, o, none⟩ ∧ len = p.l.length ∧ cap = cap' := by simpa using hsp
  subst hsp1
  have HX0 := Lib.hid (hcx n _ HK.out)
  obtain ⟨o1, o2, hov⟩ : ∃ o1 o2, ovl (x, y) (q1, q2) = (o1, o2) := ⟨_, _, rfl⟩
  have HC : Hid (∀ W : World, Calls Try.prog 58 #[.agg #[.int .i64 x, .int .i64 y], .agg #[.int .i64 q1, .int .i64 q2]] W fun e w' => e = .returned (.agg #[.int .i64 o1, .int .i64 o2]) ∧ Below W.heap.size W w') := Lib.hid fun W => by
    have := rcommon_any x y q1 q2 W
    rwa [hov] at this
  rw [hov] at hem
  simp only at hem
  have hem2 := hem
  simp only [decide_eq_false_iff_not] at hem2
  clear hT hcx hsp hov
  go_enter Try.func24, Try.ntmps24
  go_wp2_with fail
  refine regionL 9 7 ?_ ?_ ?_
  · kernel_rfl
  · kernel_rfl
  simp only [List.take_succ_cons, List.take_zero, List.drop_succ_cons, List.drop_zero]
  apply chainB_eq (D := [(2, none)]) rfl (by kernel_rfl)
  · intro ρ W ⟨p1, p2, p3⟩ hG hF K hK; (try simp [FactsD] at hF); have ⟨hc, hf, hz⟩ := bcell (Gr.tr (Gr.drew _) hG); go_simp; exact hK _ (gives_val)
  apply chainB_eq (D := [(2, none)]) rfl (by kernel_rfl)
  · intro ρ W ⟨p1, p2, p3⟩ hG hF K hK; (try simp [FactsD] at hF); have ⟨hc, hf, hz⟩ := bcell (Gr.tr (Gr.drew _) hG); go_simp; exact hK _ (gives_val)
  apply chainB_eq (D := [(1, none)]) rfl (by kernel_rfl)
  · intro ρ W ⟨p1, p2, p3⟩ hG hF K hK; (try simp [FactsD] at hF); have ⟨hc, hf, hz⟩ := bcell (Gr.tr (Gr.drew _) hG); go_simp; exact hK _ (gives_val)
  apply chainB_eq (D := [(13, some 1), (14, some 0)]) rfl (by kernel_rfl)
  · intro ρ W ⟨p1, p2, p3⟩ hG hF K hK; (try simp [FactsD, exB] at hF); have ⟨hc, hf, hz⟩ := bcell (Gr.tr (Gr.drew _) hG); go_simp; exact hK _ (gives_call (rthing_is hl hk.out))
  apply chainB_eq (D := [(12, some 3), (15, some 0)]) rfl (by kernel_rfl)
  · intro ρ W ⟨p1, p2, p3⟩ hG hF K hK; (try simp [FactsD, exB] at hF); have ⟨hc, hf, hz⟩ := bcell (Gr.tr (Gr.drew _) hG); go_simp; exact hK _ (gives_call (ropen_is ho.out (TH.out _ ((Gr.drew _).tr hG))))
  apply chainB_eq (D := [(16, some 0)]) rfl (by kernel_rfl)
  · intro ρ W ⟨p1, p2, p3⟩ hG hF K hK; (try simp [FactsD, exB] at hF); have ⟨hc, hf, hz⟩ := bcell (Gr.tr (Gr.drew _) hG); go_simp; exact hK _ (gives_val)
  apply chainB_eq (D := [(11, some 0)]) rfl (by kernel_rfl)
  · intro ρ W ⟨p1, p2, p3⟩ hG hF K hK; (try simp [FactsD, exB] at hF); have ⟨hc, hf, hz⟩ := bcell (Gr.tr (Gr.drew _) hG); go_simp; exact hK _ (gives_val)
  apply chainB_eq (D := [(11, some 1)]) rfl (by kernel_rfl)
  · intro ρ W ⟨p1, p2, p3⟩ hG hF K hK; (try simp [FactsD, exB] at hF); have ⟨hc, hf, hz⟩ := bcell (Gr.tr (Gr.drew _) hG); go_simp; exact hK _ (gives_val)
  refine chainB_any (V := fun p v W' => NewB [.int .i64 0, .int .i64 0] 23 p v W' ∧ w.heap.size + 1 + 1 ≤ p.1) (D := []) rfl (by kernel_rfl) (fun p v A B h hg => ⟨NewB.lasts _ _ p v A B h.1 hg, h.2⟩) ?_ ?_
  · intro ρ W ⟨p1, p2, p3⟩ hG hF K hK; (try simp [FactsD] at hF); have ⟨hc, hf, hz⟩ := bcell (Gr.tr (Gr.drew _) hG); go_simp; exact hK _ (⟨⟨NewB.new _ _ _, by have := hG.size; simpa using this⟩, Gr.alloc _ _⟩)
  refine chainB_done ⟨?_, ?_⟩
  · intro vs bs W hG hV hdj
    obtain ⟨e8, e7, e6, -⟩ := hV
    simp only [Nat.reduceSub] at e6
    simp only [Nat.reduceSub] at e7
    simp only [Nat.reduceSub] at e8
    clear hdj
    simp only [lay, Act.put, List.getElem?_toArray, List.getElem?_cons_succ, List.getElem?_cons_zero, Option.bind_some, List.setIfInBounds_toArray, List.set_cons_succ, List.set_cons_zero]
    generalize vs 0 = v0
    generalize vs 1 = v1
    generalize vs 2 = v2
    generalize vs 3 = v3
    generalize vs 4 = v4
    generalize vs 5 = v5
    generalize vs 6 = v6 at *
    generalize vs 7 = v7 at *
    generalize vs 8 = v8 at *
    subst e6
    subst e7
    obtain ⟨hc, hf, hz⟩ := bcell hG
    obtain ⟨⟨b8, rfl, hb8, hb8', hB8⟩, hb8n⟩ := e8
    have hl1 : w.heap.size + 1 < b8 := by omega
    have hl0 : w.heap.size < b8 := by omega
    have m0 := Nat.ne_of_lt hl0
    have m1 := (Nat.ne_of_lt hl0).symm
    have m2 := Nat.ne_of_lt hl1
    have m3 := (Nat.ne_of_lt hl1).symm
    have hgW : Gr ((w.alloc (.cells #[.int .i64 p.fl, .int .i64 p.fh, .int .i64 p.bl, .int .i64 p.bh, .int .i64 p.ti, .int .i64 p.ne, .int .i64 p.fa, .slice (some ⟨b, o, none⟩) len cap] 26)).alloc (.cells #[.int .i64 0, .int .i64 0] 23)) W := hG
    have hP0 : Box W w.heap.size [.int .i64 p.fl, .int .i64 p.fh, .int .i64 p.bl, .int .i64 p.bh, .int .i64 p.ti, .int .i64 p.ne, .int .i64 p.fa, .slice (some ⟨b, o, none⟩) len cap] 26 := ((Box.fresh w [.int .i64 p.fl, .int .i64 p.fh, .int .i64 p.bl, .int .i64 p.bh, .int .i64 p.ti, .int .i64 p.ne, .int .i64 p.fa, .slice (some ⟨b, o, none⟩) len cap] 26).grow (Gr.alloc _ (.cells #[.int .i64 0, .int .i64 0] 23))).grow hgW
    have hR0 : Box W (w.heap.size + 1) [.int .i64 0, .int .i64 0] 23 := by
      have := (Box.fresh (w.alloc (.cells #[.int .i64 p.fl, .int .i64 p.fh, .int .i64 p.bl, .int .i64 p.bh, .int .i64 p.ti, .int .i64 p.ne, .int .i64 p.fa, .slice (some ⟨b, o, none⟩) len cap] 26)) [.int .i64 0, .int .i64 0] 23).grow hgW
      simpa using this
    have P0 := hP0.facts
    have R0 := hR0.facts
    simp only [CellsFrom, Nat.zero_add, Nat.reduceAdd, and_true] at P0 R0
    have RF := hR0.free
    obtain ⟨y0_, y1_, yf0, yf1, yl⟩ := hB8.two
    have HP0 := Lib.hid hP0
    have HR0 := Lib.hid hR0
    have HGW := Lib.hid hgW
    have HB8 := Lib.hid hB8
    clear hP0 hR0 hB8 hb8 hb8' hb8n hgW hG hc hf hz
    have X := CellsFrom.nine (HX0.out.grow hb (((Gr.alloc _ _).tr (Gr.alloc _ _)).tr HGW.out))
    simp only at X
    have hne8 : ¬ b = b8 := by omega
    have hne8' : ¬ b8 = b := by omega
    have hbW : b < W.heap.size := by have := HGW.out.size; simp at this; omega
    go_wp2_with fail
    have h8 : Box (((W.setCell ⟨b8, 0, none⟩ (.int .i64 x)).setCell ⟨b8, 1, none⟩ (.int .i64 y)).alloc (.cells #[.int .i64 xa, .int .i64 xb, .int .i64 xc, .int .i64 xd, .int .i64 xe, .int .i64 xf, .int .i64 xg, .int .i64 xh, .int .i64 xz] 47)) b8 [.int .i64 x, .int .i64 y] 23 := ((HB8.out.put 0 _).put 1 _).grow (Gr.alloc _ _)
    have hp5 : Box (((W.setCell ⟨b8, 0, none⟩ (.int .i64 x)).setCell ⟨b8, 1, none⟩ (.int .i64 y)).alloc (.cells #[.int .i64 xa, .int .i64 xb, .int .i64 xc, .int .i64 xd, .int .i64 xe, .int .i64 xf, .int .i64 xg, .int .i64 xh, .int .i64 xz] 47)) w.heap.size [.int .i64 p.fl, .int .i64 p.fh, .int .i64 p.bl, .int .i64 p.bh, .int .i64 p.ti, .int .i64 p.ne, .int .i64 p.fa, .slice (some ⟨b, o, none⟩) len cap] 26 := ((HP0.out.other m0 _ _).other m0 _ _).grow (Gr.alloc _ _)
    have hr5 : Box (((W.setCell ⟨b8, 0, none⟩ (.int .i64 x)).setCell ⟨b8, 1, none⟩ (.int .i64 y)).alloc (.cells #[.int .i64 xa, .int .i64 xb, .int .i64 xc, .int .i64 xd, .int .i64 xe, .int .i64 xf, .int .i64 xg, .int .i64 xh, .int .i64 xz] 47)) (w.heap.size + 1) [.int .i64 0, .int .i64 0] 23 := ((HR0.out.other m2 _ _).other m2 _ _).grow (Gr.alloc _ _)
    have ht5 : Box (((W.setCell ⟨b8, 0, none⟩ (.int .i64 x)).setCell ⟨b8, 1, none⟩ (.int .i64 y)).alloc (.cells #[.int .i64 xa, .int .i64 xb, .int .i64 xc, .int .i64 xd, .int .i64 xe, .int .i64 xf, .int .i64 xg, .int .i64 xh, .int .i64 xz] 47)) W.heap.size [.int .i64 xa, .int .i64 xb, .int .i64 xc, .int .i64 xd, .int .i64 xe, .int .i64 xf, .int .i64 xg, .int .i64 xh, .int .i64 xz] 47 := by
      have := Box.fresh ((W.setCell ⟨b8, 0, none⟩ (.int .i64 x)).setCell ⟨b8, 1, none⟩ (.int .i64 y)) [.int .i64 xa, .int .i64 xb, .int .i64 xc, .int .i64 xd, .int .i64 xe, .int .i64 xf, .int .i64 xg, .int .i64 xh, .int .i64 xz] 47
      simpa using this
    have hw5 : Below w.heap.size w (((W.setCell ⟨b8, 0, none⟩ (.int .i64 x)).setCell ⟨b8, 1, none⟩ (.int .i64 y)).alloc (.cells #[.int .i64 xa, .int .i64 xb, .int .i64 xc, .int .i64 xd, .int .i64 xe, .int .i64 xf, .int .i64 xg, .int .i64 xh, .int .i64 xz] 47)) := (((show Below w.heap.size w W from ((Gr.alloc _ _).tr (Gr.alloc _ _)).tr HGW.out).setCell (by first | (simp; done) | (simp; omega) | omega) _).setCell (by first | (simp; done) | (simp; omega) | omega) _).alloc (by first | (simp; done) | (simp; omega) | omega) _
    clear X hbW y0_ y1_ yf0 yf1 yl P0 R0 RF HP0 HR0 HB8 HGW
    generalize (((W.setCell ⟨b8, 0, none⟩ (.int .i64 x)).setCell ⟨b8, 1, none⟩ (.int .i64 y)).alloc (.cells #[.int .i64 xa, .int .i64 xb, .int .i64 xc, .int .i64 xd, .int .i64 xe, .int .i64 xf, .int .i64 xg, .int .i64 xh, .int .i64 xz] 47)) = W5 at *
    generalize W.heap.size = bt at *
    have C8 := h8.facts
    have CP := hp5.facts
    have CT := ht5.facts
    simp only [CellsFrom, Nat.zero_add, Nat.reduceAdd, and_true] at C8 CP CT
    have H8 := Lib.hid h8
    have HP5 := Lib.hid hp5
    have HR5 := Lib.hid hr5
    have HT5 := Lib.hid ht5
    have HW5 := Lib.hid hw5
    clear h8 hp5 hr5 ht5 hw5
    refine region2 6 ?_ ?_ ?_
    · kernel_rfl
    · kernel_rfl
    simp only [List.take_succ_cons, List.take_zero, List.drop_succ_cons, List.drop_zero]
    apply chain_eq (D := [(6, none)]) rfl (by kernel_rfl)
    · intro ρ W ⟨p1, p2, p3⟩ hG hF K hK; (try simp [FactsD] at hF); have ⟨hc, hf, hz⟩ := bcell (Gr.tr (Gr.drew _) hG); go_simp; exact hK _ (gives_val)
    apply chain_eq (D := [(2, none)]) rfl (by kernel_rfl)
    · intro ρ W ⟨p1, p2, p3⟩ hG hF K hK; (try simp [FactsD] at hF); have ⟨hc, hf, hz⟩ := bcell (Gr.tr (Gr.drew _) hG); go_simp; exact hK _ (gives_val)
    apply chain_eq (D := [(8, none)]) rfl (by kernel_rfl)
    · intro ρ W ⟨p1, p2, p3⟩ hG hF K hK; (try simp [FactsD] at hF); have ⟨hc, hf, hz⟩ := bcell (Gr.tr (Gr.drew _) hG); go_simp; exact hK _ (gives_val)
    apply chain_eq (D := [(29, some 1), (30, some 0)]) rfl (by kernel_rfl)
    · intro ρ W ⟨p1, p2, p3⟩ hG hF K hK; (try simp [FactsD] at hF); have ⟨hc, hf, hz⟩ := bcell (Gr.tr (Gr.drew _) hG); go_simp; exact hK _ (gives_call (HPT.out _ _))
    apply chain_eq (D := [(28, some 3), (31, some 0)]) rfl (by kernel_rfl)
    · intro ρ W ⟨p1, p2, p3⟩ hG hF K hK; (try simp [FactsD] at hF); have ⟨hc, hf, hz⟩ := bcell (Gr.tr (Gr.drew _) hG); go_simp; exact hK _ (gives_call (HC.out _))
    apply chain_eq (D := [(32, some 0)]) rfl (by kernel_rfl)
    · intro ρ W ⟨p1, p2, p3⟩ hG hF K hK; (try simp [FactsD] at hF); have ⟨hc, hf, hz⟩ := bcell (Gr.tr (Gr.drew _) hG); go_simp; exact hK _ (gives_call (rempty_any _ _ _))
    refine chain_done ?_
    intro vs W hG hV
    obtain ⟨e5, -⟩ := hV
    simp only [Nat.reduceSub] at e5
    simp only [lay, Act.put, List.getElem?_toArray, List.getElem?_cons_succ, List.getElem?_cons_zero, Option.bind_some, List.setIfInBounds_toArray, List.set_cons_succ, List.set_cons_zero]
    generalize vs 0 = v0
    generalize vs 1 = v1
    generalize vs 2 = v2
    generalize vs 3 = v3
    generalize vs 4 = v4
    generalize vs 5 = v5 at *
    subst e5
    obtain ⟨hc, hf, hz⟩ := bcell hG
    have C8 := (H8.out.grow hG).facts
    have CP := (HP5.out.grow hG).facts
    have CR := (HR5.out.grow hG).facts
    have FR := (HR5.out.grow hG).free
    have CT := (HT5.out.grow hG).facts
    simp only [CellsFrom, Nat.zero_add, Nat.reduceAdd, and_true] at C8 CP CR CT
    have HW6 := Lib.hid (bgr HW5.out HW5.out.size hG)
    have HG6 := Lib.hid hG
    clear hc hf hz hG
    go_wp2
    exact bodyPost_ret (v := .tuple #[.agg #[.int .i64 xz, .int .i64 xz], .int .i64 0]) (by simp [results, Try.results24, go_sem, *]) rfl ⟨rfl, (((show Below w.heap.size w W from HW6.out).setCell (by first | (simp; done) | (simp; omega) | omega) _).setCell (by first | (simp; done) | (simp; omega) | omega) _)⟩
  · intro vs bs W hG hV hdj
    obtain ⟨e8, -, e6, e5, -⟩ := hV
    simp only [Nat.reduceSub, Nat.reduceEqDiff, if_false] at e5
    simp only [Nat.reduceSub, Nat.reduceEqDiff, if_false] at e6
    simp only [Nat.reduceSub, Nat.reduceEqDiff, if_false] at e8
    clear hdj
    refine wpOp_two rfl rfl ?_
    simp only [layL, Nat.reduceEqDiff, if_false, if_true, Act.put, List.getElem?_toArray, List.getElem?_cons_succ, List.getElem?_cons_zero, Option.bind_some, List.setIfInBounds_toArray, List.set_cons_succ, List.set_cons_zero, List.drop_succ_cons, List.drop_zero]
    generalize vs 0 = v0
    generalize vs 1 = v1
    generalize vs 2 = v2
    generalize vs 3 = v3
    generalize vs 4 = v4
    generalize vs 5 = v5 at *
    generalize vs 6 = v6 at *
    generalize vs 8 = v8 at *
    subst e5
    subst e6
    obtain ⟨hc, hf, hz⟩ := bcell hG
    obtain ⟨⟨b8, rfl, hb8, hb8', hB8⟩, hb8n⟩ := e8
    have hl1 : w.heap.size + 1 < b8 := by omega
    have hl0 : w.heap.size < b8 := by omega
    have m0 := Nat.ne_of_lt hl0
    have m1 := (Nat.ne_of_lt hl0).symm
    have m2 := Nat.ne_of_lt hl1
    have m3 := (Nat.ne_of_lt hl1).symm
    have hgW : Gr ((w.alloc (.cells #[.int .i64 p.fl, .int .i64 p.fh, .int .i64 p.bl, .int .i64 p.bh, .int .i64 p.ti, .int .i64 p.ne, .int .i64 p.fa, .slice (some ⟨b, o, none⟩) len cap] 26)).alloc (.cells #[.int .i64 0, .int .i64 0] 23)) W := hG
    have hP0 : Box W w.heap.size [.int .i64 p.fl, .int .i64 p.fh, .int .i64 p.bl, .int .i64 p.bh, .int .i64 p.ti, .int .i64 p.ne, .int .i64 p.fa, .slice (some ⟨b, o, none⟩) len cap] 26 := ((Box.fresh w [.int .i64 p.fl, .int .i64 p.fh, .int .i64 p.bl, .int .i64 p.bh, .int .i64 p.ti, .int .i64 p.ne, .int .i64 p.fa, .slice (some ⟨b, o, none⟩) len cap] 26).grow (Gr.alloc _ (.cells #[.int .i64 0, .int .i64 0] 23))).grow hgW
    have hR0 : Box W (w.heap.size + 1) [.int .i64 0, .int .i64 0] 23 := by
      have := (Box.fresh (w.alloc (.cells #[.int .i64 p.fl, .int .i64 p.fh, .int .i64 p.bl, .int .i64 p.bh, .int .i64 p.ti, .int .i64 p.ne, .int .i64 p.fa, .slice (some ⟨b, o, none⟩) len cap] 26)) [.int .i64 0, .int .i64 0] 23).grow hgW
      simpa using this
    have P0 := hP0.facts
    have R0 := hR0.facts
    simp only [CellsFrom, Nat.zero_add, Nat.reduceAdd, and_true] at P0 R0
    have RF := hR0.free
    obtain ⟨y0_, y1_, yf0, yf1, yl⟩ := hB8.two
    have HP0 := Lib.hid hP0
    have HR0 := Lib.hid hR0
    have HGW := Lib.hid hgW
    have HB8 := Lib.hid hB8
    clear hP0 hR0 hB8 hb8 hb8' hb8n hgW hG hc hf hz
    have X := CellsFrom.nine (HX0.out.grow hb (((Gr.alloc _ _).tr (Gr.alloc _ _)).tr HGW.out))
    simp only at X
    have hne8 : ¬ b = b8 := by omega
    have hne8' : ¬ b8 = b := by omega
    have hbW : b < W.heap.size := by have := HGW.out.size; simp at this; omega
    go_wp2_with fail
    have h8 : Box (((W.setCell ⟨b8, 0, none⟩ (.int .i64 x)).setCell ⟨b8, 1, none⟩ (.int .i64 y)).alloc (.cells #[.int .i64 xa, .int .i64 xb, .int .i64 xc, .int .i64 xd, .int .i64 xe, .int .i64 xf, .int .i64 xg, .int .i64 xh, .int .i64 xz] 47)) b8 [.int .i64 x, .int .i64 y] 23 := ((HB8.out.put 0 _).put 1 _).grow (Gr.alloc _ _)
    have hp5 : Box (((W.setCell ⟨b8, 0, none⟩ (.int .i64 x)).setCell ⟨b8, 1, none⟩ (.int .i64 y)).alloc (.cells #[.int .i64 xa, .int .i64 xb, .int .i64 xc, .int .i64 xd, .int .i64 xe, .int .i64 xf, .int .i64 xg, .int .i64 xh, .int .i64 xz] 47)) w.heap.size [.int .i64 p.fl, .int .i64 p.fh, .int .i64 p.bl, .int .i64 p.bh, .int .i64 p.ti, .int .i64 p.ne, .int .i64 p.fa, .slice (some ⟨b, o, none⟩) len cap] 26 := ((HP0.out.other m0 _ _).other m0 _ _).grow (Gr.alloc _ _)
    have hr5 : Box (((W.setCell ⟨b8, 0, none⟩ (.int .i64 x)).setCell ⟨b8, 1, none⟩ (.int .i64 y)).alloc (.cells #[.int .i64 xa, .int .i64 xb, .int .i64 xc, .int .i64 xd, .int .i64 xe, .int .i64 xf, .int .i64 xg, .int .i64 xh, .int .i64 xz] 47)) (w.heap.size + 1) [.int .i64 0, .int .i64 0] 23 := ((HR0.out.other m2 _ _).other m2 _ _).grow (Gr.alloc _ _)
    have ht5 : Box (((W.setCell ⟨b8, 0, none⟩ (.int .i64 x)).setCell ⟨b8, 1, none⟩ (.int .i64 y)).alloc (.cells #[.int .i64 xa, .int .i64 xb, .int .i64 xc, .int .i64 xd, .int .i64 xe, .int .i64 xf, .int .i64 xg, .int .i64 xh, .int .i64 xz] 47)) W.heap.size [.int .i64 xa, .int .i64 xb, .int .i64 xc, .int .i64 xd, .int .i64 xe, .int .i64 xf, .int .i64 xg, .int .i64 xh, .int .i64 xz] 47 := by
      have := Box.fresh ((W.setCell ⟨b8, 0, none⟩ (.int .i64 x)).setCell ⟨b8, 1, none⟩ (.int .i64 y)) [.int .i64 xa, .int .i64 xb, .int .i64 xc, .int .i64 xd, .int .i64 xe, .int .i64 xf, .int .i64 xg, .int .i64 xh, .int .i64 xz] 47
      simpa using this
    have hw5 : Below w.heap.size w (((W.setCell ⟨b8, 0, none⟩ (.int .i64 x)).setCell ⟨b8, 1, none⟩ (.int .i64 y)).alloc (.cells #[.int .i64 xa, .int .i64 xb, .int .i64 xc, .int .i64 xd, .int .i64 xe, .int .i64 xf, .int .i64 xg, .int .i64 xh, .int .i64 xz] 47)) := (((show Below w.heap.size w W from ((Gr.alloc _ _).tr (Gr.alloc _ _)).tr HGW.out).setCell (by first | (simp; done) | (simp; omega) | omega) _).setCell (by first | (simp; done) | (simp; omega) | omega) _).alloc (by first | (simp; done) | (simp; omega) | omega) _
    clear X hbW y0_ y1_ yf0 yf1 yl P0 R0 RF HP0 HR0 HB8 HGW
    generalize (((W.setCell ⟨b8, 0, none⟩ (.int .i64 x)).setCell ⟨b8, 1, none⟩ (.int .i64 y)).alloc (.cells #[.int .i64 xa, .int .i64 xb, .int .i64 xc, .int .i64 xd, .int .i64 xe, .int .i64 xf, .int .i64 xg, .int .i64 xh, .int .i64 xz] 47)) = W5 at *
    generalize W.heap.size = bt at *
    have C8 := h8.facts
    have CP := hp5.facts
    have CT := ht5.facts
    simp only [CellsFrom, Nat.zero_add, Nat.reduceAdd, and_true] at C8 CP CT
    have H8 := Lib.hid h8
    have HP5 := Lib.hid hp5
    have HR5 := Lib.hid hr5
    have HT5 := Lib.hid ht5
    have HW5 := Lib.hid hw5
    clear h8 hp5 hr5 ht5 hw5
    refine region2 6 ?_ ?_ ?_
    · kernel_rfl
    · kernel_rfl
    simp only [List.take_succ_cons, List.take_zero, List.drop_succ_cons, List.drop_zero]
    apply chain_eq (D := [(6, none)]) rfl (by kernel_rfl)
    · intro ρ W ⟨p1, p2, p3⟩ hG hF K hK; (try simp [FactsD] at hF); have ⟨hc, hf, hz⟩ := bcell (Gr.tr (Gr.drew _) hG); go_simp; exact hK _ (gives_val)
    apply chain_eq (D := [(2, none)]) rfl (by kernel_rfl)
    · intro ρ W ⟨p1, p2, p3⟩ hG hF K hK; (try simp [FactsD] at hF); have ⟨hc, hf, hz⟩ := bcell (Gr.tr (Gr.drew _) hG); go_simp; exact hK _ (gives_val)
    apply chain_eq (D := [(8, none)]) rfl (by kernel_rfl)
    · intro ρ W ⟨p1, p2, p3⟩ hG hF K hK; (try simp [FactsD] at hF); have ⟨hc, hf, hz⟩ := bcell (Gr.tr (Gr.drew _) hG); go_simp; exact hK _ (gives_val)
    apply chain_eq (D := [(29, some 1), (30, some 0)]) rfl (by kernel_rfl)
    · intro ρ W ⟨p1, p2, p3⟩ hG hF K hK; (try simp [FactsD] at hF); have ⟨hc, hf, hz⟩ := bcell (Gr.tr (Gr.drew _) hG); go_simp; exact hK _ (gives_call (HPT.out _ _))
    apply chain_eq (D := [(28, some 3), (31, some 0)]) rfl (by kernel_rfl)
    · intro ρ W ⟨p1, p2, p3⟩ hG hF K hK; (try simp [FactsD] at hF); have ⟨hc, hf, hz⟩ := bcell (Gr.tr (Gr.drew _) hG); go_simp; exact hK _ (gives_call (HC.out _))
    apply chain_eq (D := [(32, some 0)]) rfl (by kernel_rfl)
    · intro ρ W ⟨p1, p2, p3⟩ hG hF K hK; (try simp [FactsD] at hF); have ⟨hc, hf, hz⟩ := bcell (Gr.tr (Gr.drew _) hG); go_simp; exact hK _ (gives_call (rempty_any _ _ _))
    refine chain_done ?_
    intro vs W hG hV
    obtain ⟨e5, -⟩ := hV
    simp only [Nat.reduceSub] at e5
    simp only [lay, Act.put, List.getElem?_toArray, List.getElem?_cons_succ, List.getElem?_cons_zero, Option.bind_some, List.setIfInBounds_toArray, List.set_cons_succ, List.set_cons_zero]
    generalize vs 0 = v0
    generalize vs 1 = v1
    generalize vs 2 = v2
    generalize vs 3 = v3
    generalize vs 4 = v4
    generalize vs 5 = v5 at *
    subst e5
    obtain ⟨hc, hf, hz⟩ := bcell hG
    have C8 := (H8.out.grow hG).facts
    have CP := (HP5.out.grow hG).facts
    have CR := (HR5.out.grow hG).facts
    have FR := (HR5.out.grow hG).free
    have CT := (HT5.out.grow hG).facts
    simp only [CellsFrom, Nat.zero_add, Nat.reduceAdd, and_true] at C8 CP CR CT
    have HW6 := Lib.hid (bgr HW5.out HW5.out.size hG)
    have HG6 := Lib.hid hG
    clear hc hf hz hG
    go_wp2
    exact bodyPost_ret (v := .tuple #[.agg #[.int .i64 xz, .int .i64 xz], .int .i64 0]) (by simp [results, Try.results24, go_sem, *]) rfl ⟨rfl, (((show Below w.heap.size w W from HW6.out).setCell (by first | (simp; done) | (simp; omega) | omega) _).setCell (by first | (simp; done) | (simp; omega) | omega) _)⟩

set_option maxRecDepth 100000 in
set_option maxHeartbeats 4000000 in
theorem rdist_far0 (p : Pr) (sp : Option Addr) (len cap : Nat) (n : Nat) (xa xb xc xd xe xf xg xh xz x y q1 q2 : Int) (w : World) (hT : ThingsAt p.l (.slice sp len cap) w) (hl : len ≤ 1000) (hk : Hid ((decide (0 ≤ (n : Int)) && decide ((n : Int) < (len : Int))) = true)) (hkl : n < len) (HK : Hid (p.l[n]? = some ⟨xa, xb, xc, xd, xe, xf, xg, xh, xz⟩)) (ho : Hid (p.ropen true = (x, y, 0))) (HPT : Hid (∀ (v : Value) (w : World), Calls Try.prog 59 #[.agg #[.int .i64 p.fl, .int .i64 p.fh, .int .i64 p.bl, .int .i64 p.bh, .int .i64 p.ti, .int .i64 p.ne, .int .i64 p.fa, v], .agg #[.int .i64 xa, .int .i64 xb, .int .i64 xc, .int .i64 xd, .int .i64 xe, .int .i64 xf, .int .i64 xg, .int .i64 xh, .int .i64 xz]] w fun e w' => e = .returned (.agg #[.int .i64 q1, .int .i64 q2]) ∧ Below w.heap.size w w')) (hem : decide ((ovl (x, y) (q1, q2)).2 < (ovl (x, y) (q1, q2)).1) = false) (hz0 : (xz != 0) = false) (ba : -4000 ≤ xa ∧ xa ≤ 4000) (bb : -4000 ≤ xb ∧ xb ≤ 4000) (be : -4000 ≤ xe ∧ xe ≤ 4000) (bf : -4000 ≤ xf ∧ xf ≤ 4000) (x0 : 0 ≤ x) (x1 : x ≤ 4398046511104) (_y0 : 0 ≤ y) (_y1 : y ≤ 4398046511104) (s1 s2 : Int) (hs : ovl (xa - xf, xb - xe) (0, 2000) = (s1, s2)) (c0 : 0 ≤ s2) (c1 : s2 ≤ 2000) (u0 : s1 = 0) :
    Calls Try.prog 24 #[.agg #[.int .i64 p.fl, .int .i64 p.fh, .int .i64 p.bl, .int .i64 p.bh, .int .i64 p.ti, .int .i64 p.ne, .int .i64 p.fa, .slice sp len cap], .int .i64 n] w fun e w' => e = .returned (.tuple #[.agg #[.int .i64 (imax p.ne (x / (s2 + 1) + 1)), .int .i64 p.fa], .int .i64 0]) ∧ Below w.heap.size w w' := by
  have TH := Lib.hid (fun (W : World) (hg : Gr ((w.alloc (.cells #[.int .i64 p.fl, .int .i64 p.fh, .int .i64 p.bl, .int .i64 p.bh, .int .i64 p.ti, .int .i64 p.ne, .int .i64 p.fa, .slice sp len cap] 26)).alloc (.cells #[.int .i64 0, .int .i64 0] 23)) W) => ThingsAt.lasts p.l _ _ _ hT (((Gr.alloc _ _).tr (Gr.alloc _ _)).tr hg))
  have hal := @cal
  have HCM : Hid (∀ W : World, Calls Try.prog 58 #[.agg #[.int .i64 (xa - xf), .int .i64 (xb - xe)], .agg #[.int .i64 0, .int .i64 2000]] W fun e w' => e = .returned (.agg #[.int .i64 s1, .int .i64 s2]) ∧ Below W.heap.size W w') := Lib.hid fun W => by
    have := rcommon_any (xa - xf) (xb - xe) 0 2000 W
    rwa [hs] at this
  have HOF := Lib.hid (fun w => rof_any xa xb xc xd xe xf xg xh xz w ba bb be bf)
  obtain ⟨d0, d1⟩ := quo_le (b := s2 + 1) x0 x1 (by omega)
  have e1 : IntKind.i64.wrap (x.tdiv (s2 + 1)) = x / (s2 + 1) := by rw [Int.tdiv_eq_ediv_of_nonneg x0]; exact wraps_i64 _ d0 (by omega)
  have ew : IntKind.i64.wrap (s2 + 1) = s2 + 1 := wraps_i64 _ (by omega) (by omega)
  have ew2 : IntKind.i64.wrap (x / (s2 + 1) + 1) = x / (s2 + 1) + 1 := wraps_i64 _ (by omega) (by omega)
  have z1 : ¬ s2 + 1 = 0 := by omega
  have hmx : ∀ (x y : Int), (if x < y then y else x) = imax x y := fun _ _ => rfl
  have hu : decide (0 < s1) = false := by rw [u0]; rfl
  clear u0
  clear hs ba bb be bf
  have hT2 := hT.2
  rcases hT2 with ⟨e, -⟩ | ⟨b, o, cap', hsp, hb, hcx⟩
  · have := HK.out; rw [e] at this; cases this
  obtain ⟨hsp1, -, -⟩ : sp = some ⟨b, o, none⟩ ∧ len = p.l.length ∧ cap = cap' := by simpa using hsp
  subst hsp1
  have HX0 := Lib.hid (hcx n _ HK.out)
  obtain ⟨o1, o2, hov⟩ : ∃ o1 o2, ovl (x, y) (q1, q2) = (o1, o2) := ⟨_, _, rfl⟩
  have HC : Hid (∀ W : World, Calls Try.prog 58 #[.agg #[.int .i64 x, .int .i64 y], .agg #[.int .i64 q1, .int .i64 q2]] W fun e w' => e = .returned (.agg #[.int .i64 o1, .int .i64 o2]) ∧ Below W.heap.size W w') := Lib.hid fun W => by
    have := rcommon_any x y q1 q2 W
    rwa [hov] at this
  rw [hov] at hem
  simp only at hem
  have hem2 := hem
  simp only [decide_eq_false_iff_not] at hem2
  clear hT hcx hsp hov
  go_enter Try.func24, Try.ntmps24
  go_wp2_with fail
  refine regionL 9 7 ?_ ?_ ?_
  · kernel_rfl
  · kernel_rfl
  simp only [List.take_succ_cons, List.take_zero, List.drop_succ_cons, List.drop_zero]
  apply chainB_eq (D := [(2, none)]) rfl (by kernel_rfl)
  · intro ρ W ⟨p1, p2, p3⟩ hG hF K hK; (try simp [FactsD] at hF); have ⟨hc, hf, hz⟩ := bcell (Gr.tr (Gr.drew _) hG); go_simp; exact hK _ (gives_val)
  apply chainB_eq (D := [(2, none)]) rfl (by kernel_rfl)
  · intro ρ W ⟨p1, p2, p3⟩ hG hF K hK; (try simp [FactsD] at hF); have ⟨hc, hf, hz⟩ := bcell (Gr.tr (Gr.drew _) hG); go_simp; exact hK _ (gives_val)
  apply chainB_eq (D := [(1, none)]) rfl (by kernel_rfl)
  · intro ρ W ⟨p1, p2, p3⟩ hG hF K hK; (try simp [FactsD] at hF); have ⟨hc, hf, hz⟩ := bcell (Gr.tr (Gr.drew _) hG); go_simp; exact hK _ (gives_val)
  apply chainB_eq (D := [(13, some 1), (14, some 0)]) rfl (by kernel_rfl)
  · intro ρ W ⟨p1, p2, p3⟩ hG hF K hK; (try simp [FactsD, exB] at hF); have ⟨hc, hf, hz⟩ := bcell (Gr.tr (Gr.drew _) hG); go_simp; exact hK _ (gives_call (rthing_is hl hk.out))
  apply chainB_eq (D := [(12, some 3), (15, some 0)]) rfl (by kernel_rfl)
  · intro ρ W ⟨p1, p2, p3⟩ hG hF K hK; (try simp [FactsD, exB] at hF); have ⟨hc, hf, hz⟩ := bcell (Gr.tr (Gr.drew _) hG); go_simp; exact hK _ (gives_call (ropen_is ho.out (TH.out _ ((Gr.drew _).tr hG))))
  apply chainB_eq (D := [(16, some 0)]) rfl (by kernel_rfl)
  · intro ρ W ⟨p1, p2, p3⟩ hG hF K hK; (try simp [FactsD, exB] at hF); have ⟨hc, hf, hz⟩ := bcell (Gr.tr (Gr.drew _) hG); go_simp; exact hK _ (gives_val)
  apply chainB_eq (D := [(11, some 0)]) rfl (by kernel_rfl)
  · intro ρ W ⟨p1, p2, p3⟩ hG hF K hK; (try simp [FactsD, exB] at hF); have ⟨hc, hf, hz⟩ := bcell (Gr.tr (Gr.drew _) hG); go_simp; exact hK _ (gives_val)
  apply chainB_eq (D := [(11, some 1)]) rfl (by kernel_rfl)
  · intro ρ W ⟨p1, p2, p3⟩ hG hF K hK; (try simp [FactsD, exB] at hF); have ⟨hc, hf, hz⟩ := bcell (Gr.tr (Gr.drew _) hG); go_simp; exact hK _ (gives_val)
  refine chainB_any (V := fun p v W' => NewB [.int .i64 0, .int .i64 0] 23 p v W' ∧ w.heap.size + 1 + 1 ≤ p.1) (D := []) rfl (by kernel_rfl) (fun p v A B h hg => ⟨NewB.lasts _ _ p v A B h.1 hg, h.2⟩) ?_ ?_
  · intro ρ W ⟨p1, p2, p3⟩ hG hF K hK; (try simp [FactsD] at hF); have ⟨hc, hf, hz⟩ := bcell (Gr.tr (Gr.drew _) hG); go_simp; exact hK _ (⟨⟨NewB.new _ _ _, by have := hG.size; simpa using this⟩, Gr.alloc _ _⟩)
  refine chainB_done ⟨?_, ?_⟩
  · intro vs bs W hG hV hdj
    obtain ⟨e8, e7, e6, -⟩ := hV
    simp only [Nat.reduceSub] at e6
    simp only [Nat.reduceSub] at e7
    simp only [Nat.reduceSub] at e8
    clear hdj
    simp only [lay, Act.put, List.getElem?_toArray, List.getElem?_cons_succ, List.getElem?_cons_zero, Option.bind_some, List.setIfInBounds_toArray, List.set_cons_succ, List.set_cons_zero]
    generalize vs 0 = v0
    generalize vs 1 = v1
    generalize vs 2 = v2
    generalize vs 3 = v3
    generalize vs 4 = v4
    generalize vs 5 = v5
    generalize vs 6 = v6 at *
    generalize vs 7 = v7 at *
    generalize vs 8 = v8 at *
    subst e6
    subst e7
    obtain ⟨hc, hf, hz⟩ := bcell hG
    obtain ⟨⟨b8, rfl, hb8, hb8', hB8⟩, hb8n⟩ := e8
    have hl1 : w.heap.size + 1 < b8 := by omega
    have hl0 : w.heap.size < b8 := by omega
    have m0 := Nat.ne_of_lt hl0
    have m1 := (Nat.ne_of_lt hl0).symm
    have m2 := Nat.ne_of_lt hl1
    have m3 := (Nat.ne_of_lt hl1).symm
    have hgW : Gr ((w.alloc (.cells #[.int .i64 p.fl, .int .i64 p.fh, .int .i64 p.bl, .int .i64 p.bh, .int .i64 p.ti, .int .i64 p.ne, .int .i64 p.fa, .slice (some ⟨b, o, none⟩) len cap] 26)).alloc (.cells #[.int .i64 0, .int .i64 0] 23)) W := hG
    have hP0 : Box W w.heap.size [.int .i64 p.fl, .int .i64 p.fh, .int .i64 p.bl, .int .i64 p.bh, .int .i64 p.ti, .int .i64 p.ne, .int .i64 p.fa, .slice (some ⟨b, o, none⟩) len cap] 26 := ((Box.fresh w [.int .i64 p.fl, .int .i64 p.fh, .int .i64 p.bl, .int .i64 p.bh, .int .i64 p.ti, .int .i64 p.ne, .int .i64 p.fa, .slice (some ⟨b, o, none⟩) len cap] 26).grow (Gr.alloc _ (.cells #[.int .i64 0, .int .i64 0] 23))).grow hgW
    have hR0 : Box W (w.heap.size + 1) [.int .i64 0, .int .i64 0] 23 := by
      have := (Box.fresh (w.alloc (.cells #[.int .i64 p.fl, .int .i64 p.fh, .int .i64 p.bl, .int .i64 p.bh, .int .i64 p.ti, .int .i64 p.ne, .int .i64 p.fa, .slice (some ⟨b, o, none⟩) len cap] 26)) [.int .i64 0, .int .i64 0] 23).grow hgW
      simpa using this
    have P0 := hP0.facts
    have R0 := hR0.facts
    simp only [CellsFrom, Nat.zero_add, Nat.reduceAdd, and_true] at P0 R0
    have RF := hR0.free
    obtain ⟨y0_, y1_, yf0, yf1, yl⟩ := hB8.two
    have HP0 := Lib.hid hP0
    have HR0 := Lib.hid hR0
    have HGW := Lib.hid hgW
    have HB8 := Lib.hid hB8
    clear hP0 hR0 hB8 hb8 hb8' hb8n hgW hG hc hf hz
    have X := CellsFrom.nine (HX0.out.grow hb (((Gr.alloc _ _).tr (Gr.alloc _ _)).tr HGW.out))
    simp only at X
    have hne8 : ¬ b = b8 := by omega
    have hne8' : ¬ b8 = b := by omega
    have hbW : b < W.heap.size := by have := HGW.out.size; simp at this; omega
    go_wp2_with fail
    have h8 : Box (((W.setCell ⟨b8, 0, none⟩ (.int .i64 x)).setCell ⟨b8, 1, none⟩ (.int .i64 y)).alloc (.cells #[.int .i64 xa, .int .i64 xb, .int .i64 xc, .int .i64 xd, .int .i64 xe, .int .i64 xf, .int .i64 xg, .int .i64 xh, .int .i64 xz] 47)) b8 [.int .i64 x, .int .i64 y] 23 := ((HB8.out.put 0 _).put 1 _).grow (Gr.alloc _ _)
    have hp5 : Box (((W.setCell ⟨b8, 0, none⟩ (.int .i64 x)).setCell ⟨b8, 1, none⟩ (.int .i64 y)).alloc (.cells #[.int .i64 xa, .int .i64 xb, .int .i64 xc, .int .i64 xd, .int .i64 xe, .int .i64 xf, .int .i64 xg, .int .i64 xh, .int .i64 xz] 47)) w.heap.size [.int .i64 p.fl, .int .i64 p.fh, .int .i64 p.bl, .int .i64 p.bh, .int .i64 p.ti, .int .i64 p.ne, .int .i64 p.fa, .slice (some ⟨b, o, none⟩) len cap] 26 := ((HP0.out.other m0 _ _).other m0 _ _).grow (Gr.alloc _ _)
    have hr5 : Box (((W.setCell ⟨b8, 0, none⟩ (.int .i64 x)).setCell ⟨b8, 1, none⟩ (.int .i64 y)).alloc (.cells #[.int .i64 xa, .int .i64 xb, .int .i64 xc, .int .i64 xd, .int .i64 xe, .int .i64 xf, .int .i64 xg, .int .i64 xh, .int .i64 xz] 47)) (w.heap.size + 1) [.int .i64 0, .int .i64 0] 23 := ((HR0.out.other m2 _ _).other m2 _ _).grow (Gr.alloc _ _)
    have ht5 : Box (((W.setCell ⟨b8, 0, none⟩ (.int .i64 x)).setCell ⟨b8, 1, none⟩ (.int .i64 y)).alloc (.cells #[.int .i64 xa, .int .i64 xb, .int .i64 xc, .int .i64 xd, .int .i64 xe, .int .i64 xf, .int .i64 xg, .int .i64 xh, .int .i64 xz] 47)) W.heap.size [.int .i64 xa, .int .i64 xb, .int .i64 xc, .int .i64 xd, .int .i64 xe, .int .i64 xf, .int .i64 xg, .int .i64 xh, .int .i64 xz] 47 := by
      have := Box.fresh ((W.setCell ⟨b8, 0, none⟩ (.int .i64 x)).setCell ⟨b8, 1, none⟩ (.int .i64 y)) [.int .i64 xa, .int .i64 xb, .int .i64 xc, .int .i64 xd, .int .i64 xe, .int .i64 xf, .int .i64 xg, .int .i64 xh, .int .i64 xz] 47
      simpa using this
    have hw5 : Below w.heap.size w (((W.setCell ⟨b8, 0, none⟩ (.int .i64 x)).setCell ⟨b8, 1, none⟩ (.int .i64 y)).alloc (.cells #[.int .i64 xa, .int .i64 xb, .int .i64 xc, .int .i64 xd, .int .i64 xe, .int .i64 xf, .int .i64 xg, .int .i64 xh, .int .i64 xz] 47)) := (((show Below w.heap.size w W from ((Gr.alloc _ _).tr (Gr.alloc _ _)).tr HGW.out).setCell (by first | (simp; done) | (simp; omega) | omega) _).setCell (by first | (simp; done) | (simp; omega) | omega) _).alloc (by first | (simp; done) | (simp; omega) | omega) _
    clear X hbW y0_ y1_ yf0 yf1 yl P0 R0 RF HP0 HR0 HB8 HGW
    generalize (((W.setCell ⟨b8, 0, none⟩ (.int .i64 x)).setCell ⟨b8, 1, none⟩ (.int .i64 y)).alloc (.cells #[.int .i64 xa, .int .i64 xb, .int .i64 xc, .int .i64 xd, .int .i64 xe, .int .i64 xf, .int .i64 xg, .int .i64 xh, .int .i64 xz] 47)) = W5 at *
    generalize W.heap.size = bt at *
    have C8 := h8.facts
    have CP := hp5.facts
    have CT := ht5.facts
    simp only [CellsFrom, Nat.zero_add, Nat.reduceAdd, and_true] at C8 CP CT
    have H8 := Lib.hid h8
    have HP5 := Lib.hid hp5
    have HR5 := Lib.hid hr5
    have HT5 := Lib.hid ht5
    have HW5 := Lib.hid hw5
    clear h8 hp5 hr5 ht5 hw5
    refine region2 6 ?_ ?_ ?_
    · kernel_rfl
    · kernel_rfl
    simp only [List.take_succ_cons, List.take_zero, List.drop_succ_cons, List.drop_zero]
    apply chain_eq (D := [(6, none)]) rfl (by kernel_rfl)
    · intro ρ W ⟨p1, p2, p3⟩ hG hF K hK; (try simp [FactsD] at hF); have ⟨hc, hf, hz⟩ := bcell (Gr.tr (Gr.drew _) hG); go_simp; exact hK _ (gives_val)
    apply chain_eq (D := [(2, none)]) rfl (by kernel_rfl)
    · intro ρ W ⟨p1, p2, p3⟩ hG hF K hK; (try simp [FactsD] at hF); have ⟨hc, hf, hz⟩ := bcell (Gr.tr (Gr.drew _) hG); go_simp; exact hK _ (gives_val)
    apply chain_eq (D := [(8, none)]) rfl (by kernel_rfl)
    · intro ρ W ⟨p1, p2, p3⟩ hG hF K hK; (try simp [FactsD] at hF); have ⟨hc, hf, hz⟩ := bcell (Gr.tr (Gr.drew _) hG); go_simp; exact hK _ (gives_val)
    apply chain_eq (D := [(29, some 1), (30, some 0)]) rfl (by kernel_rfl)
    · intro ρ W ⟨p1, p2, p3⟩ hG hF K hK; (try simp [FactsD] at hF); have ⟨hc, hf, hz⟩ := bcell (Gr.tr (Gr.drew _) hG); go_simp; exact hK _ (gives_call (HPT.out _ _))
    apply chain_eq (D := [(28, some 3), (31, some 0)]) rfl (by kernel_rfl)
    · intro ρ W ⟨p1, p2, p3⟩ hG hF K hK; (try simp [FactsD] at hF); have ⟨hc, hf, hz⟩ := bcell (Gr.tr (Gr.drew _) hG); go_simp; exact hK _ (gives_call (HC.out _))
    apply chain_eq (D := [(32, some 0)]) rfl (by kernel_rfl)
    · intro ρ W ⟨p1, p2, p3⟩ hG hF K hK; (try simp [FactsD] at hF); have ⟨hc, hf, hz⟩ := bcell (Gr.tr (Gr.drew _) hG); go_simp; exact hK _ (gives_call (rempty_any _ _ _))
    refine chain_done ?_
    intro vs W hG hV
    obtain ⟨e5, -⟩ := hV
    simp only [Nat.reduceSub] at e5
    simp only [lay, Act.put, List.getElem?_toArray, List.getElem?_cons_succ, List.getElem?_cons_zero, Option.bind_some, List.setIfInBounds_toArray, List.set_cons_succ, List.set_cons_zero]
    generalize vs 0 = v0
    generalize vs 1 = v1
    generalize vs 2 = v2
    generalize vs 3 = v3
    generalize vs 4 = v4
    generalize vs 5 = v5 at *
    subst e5
    obtain ⟨hc, hf, hz⟩ := bcell hG
    have C8 := (H8.out.grow hG).facts
    have CP := (HP5.out.grow hG).facts
    have CR := (HR5.out.grow hG).facts
    have FR := (HR5.out.grow hG).free
    have CT := (HT5.out.grow hG).facts
    simp only [CellsFrom, Nat.zero_add, Nat.reduceAdd, and_true] at C8 CP CR CT
    have HW6 := Lib.hid (bgr HW5.out HW5.out.size hG)
    have HG6 := Lib.hid hG
    clear hc hf hz hG
    go_wp2_with fail
    refine (HOF.out _).mono ?_
    rintro e w7 ⟨rfl, hb7⟩
    go_wp2_with fail
    refine (HCM.out _).mono ?_
    rintro e w8 ⟨rfl, hb8⟩
    have G8 := (HG6.out.tr hb7).tr hb8
    have HS9 : Box (w8.alloc (.cells #[.int .i64 s1, .int .i64 s2] 23)) w8.heap.size [.int .i64 s1, .int .i64 s2] 23 := Box.fresh w8 _ _
    have G9 := G8.tr (Gr.alloc w8 (.cells #[.int .i64 s1, .int .i64 s2] 23))
    have hw9 := bgr HW5.out HW5.out.size G9
    have hb8l : b8 < w8.heap.size := (H8.out.grow G8).lt
    have hpl : w.heap.size + 1 < w8.heap.size := (HR5.out.grow G8).lt
    have HW8S := Lib.hid (show w8.heap.size < (w8.alloc (.cells #[.int .i64 s1, .int .i64 s2] 23)).heap.size by simp)
    clear C8 CP CR FR CT hb7 hb8 G8
    go_wp2_with fail
    generalize w8.alloc (.cells #[.int .i64 s1, .int .i64 s2] 23) = W9 at *
    generalize w8.heap.size = b9 at *
    have C8 := (H8.out.grow G9).facts
    have CP := (HP5.out.grow G9).facts
    have CR := (HR5.out.grow G9).facts
    have FR := (HR5.out.grow G9).free
    simp only [CellsFrom, Nat.zero_add, Nat.reduceAdd, and_true] at C8 CP CR
    have C9 := HS9.facts
    simp only [CellsFrom, Nat.zero_add, and_true] at C9
    have H9 := Lib.hid HS9
    have HG9 := Lib.hid G9
    have HW9 := Lib.hid hw9
    have hb9 := HW8S.out
    clear HS9 G9 hw9
    refine regionB 14 ?_ ?_ ?_
    · kernel_rfl
    · kernel_rfl
    simp only [List.take_succ_cons, List.take_zero, List.drop_succ_cons, List.drop_zero]
    apply chainB_eq (D := [(2, none)]) rfl (by kernel_rfl)
    · intro ρ W ⟨p1, p2, p3⟩ hG hF K hK; (try simp [FactsD] at hF); have ⟨hc, hf, hz⟩ := bcell (Gr.tr (Gr.drew _) hG); go_simp; exact hK _ (gives_val)
    apply chainB_eq (D := [(47, some 0)]) rfl (by kernel_rfl)
    · intro ρ W ⟨p1, p2, p3⟩ hG hF K hK; (try simp [FactsD, exB] at hF); have ⟨hc, hf, hz⟩ := bcell (Gr.tr (Gr.drew _) hG); go_simp; exact hK _ (gives_val)
    apply chainB_eq (D := [(6, none)]) rfl (by kernel_rfl)
    · intro ρ W ⟨p1, p2, p3⟩ hG hF K hK; (try simp [FactsD] at hF); have ⟨hc, hf, hz⟩ := bcell (Gr.tr (Gr.drew _) hG); go_simp; exact hK _ (gives_val)
    apply chainB_eq (D := [(49, some 0)]) rfl (by kernel_rfl)
    · intro ρ W ⟨p1, p2, p3⟩ hG hF K hK; (try simp [FactsD, exB] at hF); have ⟨hc, hf, hz⟩ := bcell (Gr.tr (Gr.drew _) hG); go_simp; exact hK _ (gives_val)
    apply chainB_eq (D := [(9, none)]) rfl (by kernel_rfl)
    · intro ρ W ⟨p1, p2, p3⟩ hG hF K hK; (try simp [FactsD] at hF); have ⟨hc, hf, hz⟩ := bcell (Gr.tr (Gr.drew _) hG); go_simp; exact hK _ (gives_val)
    apply chainB_eq (D := [(51, some 0)]) rfl (by kernel_rfl)
    · intro ρ W ⟨p1, p2, p3⟩ hG hF K hK; (try simp [FactsD, exB] at hF); have ⟨hc, hf, hz⟩ := bcell (Gr.tr (Gr.drew _) hG); go_simp; exact hK _ (gives_val)
    apply chainB_eq (D := [(52, some 0)]) rfl (by kernel_rfl)
    · intro ρ W ⟨p1, p2, p3⟩ hG hF K hK; (try simp [FactsD, exB] at hF); have ⟨hc, hf, hz⟩ := bcell (Gr.tr (Gr.drew _) hG); go_simp; exact hK _ (gives_val)
    apply chainB_eq (D := [(50, some 3), (53, some 0)]) rfl (by kernel_rfl)
    · intro ρ W ⟨p1, p2, p3⟩ hG hF K hK; (try simp [FactsD, exB] at hF); have ⟨hc, hf, hz⟩ := bcell (Gr.tr (Gr.drew _) hG); go_simp; exact hK _ (gives_val)
    apply chainB_eq (D := [(54, some 0)]) rfl (by kernel_rfl)
    · intro ρ W ⟨p1, p2, p3⟩ hG hF K hK; (try simp [FactsD, exB] at hF); have ⟨hc, hf, hz⟩ := bcell (Gr.tr (Gr.drew _) hG); go_simp; exact hK _ (gives_val)
    apply chainB_eq (D := [(48, some 7), (55, some 0)]) rfl (by kernel_rfl)
    · intro ρ W ⟨p1, p2, p3⟩ hG hF K hK; (try simp [FactsD, exB] at hF); have ⟨hc, hf, hz⟩ := bcell (Gr.tr (Gr.drew _) hG); go_simp; exact hK _ (gives_val)
    apply chainB_eq (D := [(2, none)]) rfl (by kernel_rfl)
    · intro ρ W ⟨p1, p2, p3⟩ hG hF K hK; (try simp [FactsD] at hF); have ⟨hc, hf, hz⟩ := bcell (Gr.tr (Gr.drew _) hG); go_simp; exact hK _ (gives_val)
    apply chainB_eq (D := [(57, some 0)]) rfl (by kernel_rfl)
    · intro ρ W ⟨p1, p2, p3⟩ hG hF K hK; (try simp [FactsD, exB] at hF); have ⟨hc, hf, hz⟩ := bcell (Gr.tr (Gr.drew _) hG); go_simp; exact hK _ (gives_val)
    apply chainB_eq (D := [(56, some 2), (58, some 0)]) rfl (by kernel_rfl)
    · intro ρ W ⟨p1, p2, p3⟩ hG hF K hK; (try simp [FactsD, exB] at hF); have ⟨hc, hf, hz⟩ := bcell (Gr.tr (Gr.drew _) hG); go_simp; exact hK _ (gives_val)
    refine chainB_any (V := fun p v W' => NewB [.int .i64 0, .int .i64 0] 23 p v W' ∧ W9.heap.size ≤ p.1) (D := []) rfl (by kernel_rfl) (fun p v A B h hg => ⟨NewB.lasts _ _ p v A B h.1 hg, h.2⟩) ?_ ?_
    · intro ρ W ⟨p1, p2, p3⟩ hG hF K hK; (try simp [FactsD] at hF); have ⟨hc, hf, hz⟩ := bcell (Gr.tr (Gr.drew _) hG); go_simp; exact hK _ (⟨⟨NewB.new _ _ _, by have := hG.size; simpa using this⟩, Gr.alloc _ _⟩)
    refine chainB_done ?_
    intro vs bs W hG hV hdj
    obtain ⟨e13, e12, -⟩ := hV
    simp only [Nat.reduceSub] at e12
    simp only [Nat.reduceSub] at e13
    clear hdj
    simp only [lay, Act.put, List.getElem?_toArray, List.getElem?_cons_succ, List.getElem?_cons_zero, Option.bind_some, List.setIfInBounds_toArray, List.set_cons_succ, List.set_cons_zero]
    generalize vs 0 = v0
    generalize vs 1 = v1
    generalize vs 2 = v2
    generalize vs 3 = v3
    generalize vs 4 = v4
    generalize vs 5 = v5
    generalize vs 6 = v6
    generalize vs 7 = v7
    generalize vs 8 = v8
    generalize vs 9 = v9
    generalize vs 10 = v10
    generalize vs 11 = v11
    generalize vs 12 = v12 at *
    generalize vs 13 = v13 at *
    subst e12
    obtain ⟨hc, hf, hz⟩ := bcell hG
    obtain ⟨⟨b10, rfl, hq1, hq2, hB10⟩, hq3⟩ := e13
    have l9 : b9 < b10 := by omega
    have l8 : b8 < b10 := by omega
    have l1 : w.heap.size + 1 < b10 := by omega
    have l0 : w.heap.size < b10 := by omega
    have n9 := Nat.ne_of_lt l9
    have n9' := (Nat.ne_of_lt l9).symm
    have n8 := Nat.ne_of_lt l8
    have n8' := (Nat.ne_of_lt l8).symm
    have n1 := Nat.ne_of_lt l1
    have n1' := (Nat.ne_of_lt l1).symm
    have n0 := Nat.ne_of_lt l0
    have n0' := (Nat.ne_of_lt l0).symm
    have T0 := hB10.facts
    have TF := hB10.free
    have C9 := (H9.out.grow hG).facts
    have C8 := ((H8.out.grow HG9.out).grow hG).facts
    have CP := ((HP5.out.grow HG9.out).grow hG).facts
    have CR := ((HR5.out.grow HG9.out).grow hG).facts
    have FR := ((HR5.out.grow HG9.out).grow hG).free
    simp only [CellsFrom, Nat.zero_add, Nat.reduceAdd, and_true] at T0 C9 C8 CP CR
    have HWW := Lib.hid (bgr HW9.out HW9.out.size hG)
    have HB10 := Lib.hid hB10
    have HG10 := Lib.hid hG
    clear hc hf hz hG hB10 hq1 hq2 hq3
    go_wp2_with fail
    exact bodyPost_ret (v := .tuple #[.agg #[.int .i64 (imax p.ne (x / (s2 + 1) + 1)), .int .i64 p.fa], .int .i64 0]) (by simp [results, Try.results24, go_sem, *]) rfl ⟨rfl, (((((show Below w.heap.size w W from HWW.out).setCell (by first | (simp; done) | (simp; omega) | omega) _).setCell (by first | (simp; done) | (simp; omega) | omega) _).setCell (by first | (simp; done) | (simp; omega) | omega) _).setCell (by first | (simp; done) | (simp; omega) | omega) _)⟩
  · intro vs bs W hG hV hdj
    obtain ⟨e8, -, e6, e5, -⟩ := hV
    simp only [Nat.reduceSub, Nat.reduceEqDiff, if_false] at e5
    simp only [Nat.reduceSub, Nat.reduceEqDiff, if_false] at e6
    simp only [Nat.reduceSub, Nat.reduceEqDiff, if_false] at e8
    clear hdj
    refine wpOp_two rfl rfl ?_
    simp only [layL, Nat.reduceEqDiff, if_false, if_true, Act.put, List.getElem?_toArray, List.getElem?_cons_succ, List.getElem?_cons_zero, Option.bind_some, List.setIfInBounds_toArray, List.set_cons_succ, List.set_cons_zero, List.drop_succ_cons, List.drop_zero]
    generalize vs 0 = v0
    generalize vs 1 = v1
    generalize vs 2 = v2
    generalize vs 3 = v3
    generalize vs 4 = v4
    generalize vs 5 = v5 at *
    generalize vs 6 = v6 at *
    generalize vs 8 = v8 at *
    subst e5
    subst e6
    obtain ⟨hc, hf, hz⟩ := bcell hG
    obtain ⟨⟨b8, rfl, hb8, hb8', hB8⟩, hb8n⟩ := e8
    have hl1 : w.heap.size + 1 < b8 := by omega
    have hl0 : w.heap.size < b8 := by omega
    have m0 := Nat.ne_of_lt hl0
    have m1 := (Nat.ne_of_lt hl0).symm
    have m2 := Nat.ne_of_lt hl1
    have m3 := (Nat.ne_of_lt hl1).symm
    have hgW : Gr ((w.alloc (.cells #[.int .i64 p.fl, .int .i64 p.fh, .int .i64 p.bl, .int .i64 p.bh, .int .i64 p.ti, .int .i64 p.ne, .int .i64 p.fa, .slice (some ⟨b, o, none⟩) len cap] 26)).alloc (.cells #[.int .i64 0, .int .i64 0] 23)) W := hG
    have hP0 : Box W w.heap.size [.int .i64 p.fl, .int .i64 p.fh, .int .i64 p.bl, .int .i64 p.bh, .int .i64 p.ti, .int .i64 p.ne, .int .i64 p.fa, .slice (some ⟨b, o, none⟩) len cap] 26 := ((Box.fresh w [.int .i64 p.fl, .int .i64 p.fh, .int .i64 p.bl, .int .i64 p.bh, .int .i64 p.ti, .int .i64 p.ne, .int .i64 p.fa, .slice (some ⟨b, o, none⟩) len cap] 26).grow (Gr.alloc _ (.cells #[.int .i64 0, .int .i64 0] 23))).grow hgW
    have hR0 : Box W (w.heap.size + 1) [.int .i64 0, .int .i64 0] 23 := by
      have := (Box.fresh (w.alloc (.cells #[.int .i64 p.fl, .int .i64 p.fh, .int .i64 p.bl, .int .i64 p.bh, .int .i64 p.ti, .int .i64 p.ne, .int .i64 p.fa, .slice (some ⟨b, o, none⟩) len cap] 26)) [.int .i64 0, .int .i64 0] 23).grow hgW
      simpa using this
    have P0 := hP0.facts
    have R0 := hR0.facts
    simp only [CellsFrom, Nat.zero_add, Nat.reduceAdd, and_true] at P0 R0
    have RF := hR0.free
    obtain ⟨y0_, y1_, yf0, yf1, yl⟩ := hB8.two
    have HP0 := Lib.hid hP0
    have HR0 := Lib.hid hR0
    have HGW := Lib.hid hgW
    have HB8 := Lib.hid hB8
    clear hP0 hR0 hB8 hb8 hb8' hb8n hgW hG hc hf hz
    have X := CellsFrom.nine (HX0.out.grow hb (((Gr.alloc _ _).tr (Gr.alloc _ _)).tr HGW.out))
    simp only at X
    have hne8 : ¬ b = b8 := by omega
    have hne8' : ¬ b8 = b := by omega
    have hbW : b < W.heap.size := by have := HGW.out.size; simp at this; omega
    go_wp2_with fail
    have h8 : Box (((W.setCell ⟨b8, 0, none⟩ (.int .i64 x)).setCell ⟨b8, 1, none⟩ (.int .i64 y)).alloc (.cells #[.int .i64 xa, .int .i64 xb, .int .i64 xc, .int .i64 xd, .int .i64 xe, .int .i64 xf, .int .i64 xg, .int .i64 xh, .int .i64 xz] 47)) b8 [.int .i64 x, .int .i64 y] 23 := ((HB8.out.put 0 _).put 1 _).grow (Gr.alloc _ _)
    have hp5 : Box (((W.setCell ⟨b8, 0, none⟩ (.int .i64 x)).setCell ⟨b8, 1, none⟩ (.int .i64 y)).alloc (.cells #[.int .i64 xa, .int .i64 xb, .int .i64 xc, .int .i64 xd, .int .i64 xe, .int .i64 xf, .int .i64 xg, .int .i64 xh, .int .i64 xz] 47)) w.heap.size [.int .i64 p.fl, .int .i64 p.fh, .int .i64 p.bl, .int .i64 p.bh, .int .i64 p.ti, .int .i64 p.ne, .int .i64 p.fa, .slice (some ⟨b, o, none⟩) len cap] 26 := ((HP0.out.other m0 _ _).other m0 _ _).grow (Gr.alloc _ _)
    have hr5 : Box (((W.setCell ⟨b8, 0, none⟩ (.int .i64 x)).setCell ⟨b8, 1, none⟩ (.int .i64 y)).alloc (.cells #[.int .i64 xa, .int .i64 xb, .int .i64 xc, .int .i64 xd, .int .i64 xe, .int .i64 xf, .int .i64 xg, .int .i64 xh, .int .i64 xz] 47)) (w.heap.size + 1) [.int .i64 0, .int .i64 0] 23 := ((HR0.out.other m2 _ _).other m2 _ _).grow (Gr.alloc _ _)
    have ht5 : Box (((W.setCell ⟨b8, 0, none⟩ (.int .i64 x)).setCell ⟨b8, 1, none⟩ (.int .i64 y)).alloc (.cells #[.int .i64 xa, .int .i64 xb, .int .i64 xc, .int .i64 xd, .int .i64 xe, .int .i64 xf, .int .i64 xg, .int .i64 xh, .int .i64 xz] 47)) W.heap.size [.int .i64 xa, .int .i64 xb, .int .i64 xc, .int .i64 xd, .int .i64 xe, .int .i64 xf, .int .i64 xg, .int .i64 xh, .int .i64 xz] 47 := by
      have := Box.fresh ((W.setCell ⟨b8, 0, none⟩ (.int .i64 x)).setCell ⟨b8, 1, none⟩ (.int .i64 y)) [.int .i64 xa, .int .i64 xb, .int .i64 xc, .int .i64 xd, .int .i64 xe, .int .i64 xf, .int .i64 xg, .int .i64 xh, .int .i64 xz] 47
      simpa using this
    have hw5 : Below w.heap.size w (((W.setCell ⟨b8, 0, none⟩ (.int .i64 x)).setCell ⟨b8, 1, none⟩ (.int .i64 y)).alloc (.cells #[.int .i64 xa, .int .i64 xb, .int .i64 xc, .int .i64 xd, .int .i64 xe, .int .i64 xf, .int .i64 xg, .int .i64 xh, .int .i64 xz] 47)) := (((show Below w.heap.size w W from ((Gr.alloc _ _).tr (Gr.alloc _ _)).tr HGW.out).setCell (by first | (simp; done) | (simp; omega) | omega) _).setCell (by first | (simp; done) | (simp; omega) | omega) _).alloc (by first | (simp; done) | (simp; omega) | omega) _
    clear X hbW y0_ y1_ yf0 yf1 yl P0 R0 RF HP0 HR0 HB8 HGW
    generalize (((W.setCell ⟨b8, 0, none⟩ (.int .i64 x)).setCell ⟨b8, 1, none⟩ (.int .i64 y)).alloc (.cells #[.int .i64 xa, .int .i64 xb, .int .i64 xc, .int .i64 xd, .int .i64 xe, .int .i64 xf, .int .i64 xg, .int .i64 xh, .int .i64 xz] 47)) = W5 at *
    generalize W.heap.size = bt at *
    have C8 := h8.facts
    have CP := hp5.facts
    have CT := ht5.facts
    simp only [CellsFrom, Nat.zero_add, Nat.reduceAdd, and_true] at C8 CP CT
    have H8 := Lib.hid h8
    have HP5 := Lib.hid hp5
    have HR5 := Lib.hid hr5
    have HT5 := Lib.hid ht5
    have HW5 := Lib.hid hw5
    clear h8 hp5 hr5 ht5 hw5
    refine region2 6 ?_ ?_ ?_
    · kernel_rfl
    · kernel_rfl
    simp only [List.take_succ_cons, List.take_zero, List.drop_succ_cons, List.drop_zero]
    apply chain_eq (D := [(6, none)]) rfl (by kernel_rfl)
    · intro ρ W ⟨p1, p2, p3⟩ hG hF K hK; (try simp [FactsD] at hF); have ⟨hc, hf, hz⟩ := bcell (Gr.tr (Gr.drew _) hG); go_simp; exact hK _ (gives_val)
    apply chain_eq (D := [(2, none)]) rfl (by kernel_rfl)
    · intro ρ W ⟨p1, p2, p3⟩ hG hF K hK; (try simp [FactsD] at hF); have ⟨hc, hf, hz⟩ := bcell (Gr.tr (Gr.drew _) hG); go_simp; exact hK _ (gives_val)
    apply chain_eq (D := [(8, none)]) rfl (by kernel_rfl)
    · intro ρ W ⟨p1, p2, p3⟩ hG hF K hK; (try simp [FactsD] at hF); have ⟨hc, hf, hz⟩ := bcell (Gr.tr (Gr.drew _) hG); go_simp; exact hK _ (gives_val)
    apply chain_eq (D := [(29, some 1), (30, some 0)]) rfl (by kernel_rfl)
    · intro ρ W ⟨p1, p2, p3⟩ hG hF K hK; (try simp [FactsD] at hF); have ⟨hc, hf, hz⟩ := bcell (Gr.tr (Gr.drew _) hG); go_simp; exact hK _ (gives_call (HPT.out _ _))
    apply chain_eq (D := [(28, some 3), (31, some 0)]) rfl (by kernel_rfl)
    · intro ρ W ⟨p1, p2, p3⟩ hG hF K hK; (try simp [FactsD] at hF); have ⟨hc, hf, hz⟩ := bcell (Gr.tr (Gr.drew _) hG); go_simp; exact hK _ (gives_call (HC.out _))
    apply chain_eq (D := [(32, some 0)]) rfl (by kernel_rfl)
    · intro ρ W ⟨p1, p2, p3⟩ hG hF K hK; (try simp [FactsD] at hF); have ⟨hc, hf, hz⟩ := bcell (Gr.tr (Gr.drew _) hG); go_simp; exact hK _ (gives_call (rempty_any _ _ _))
    refine chain_done ?_
    intro vs W hG hV
    obtain ⟨e5, -⟩ := hV
    simp only [Nat.reduceSub] at e5
    simp only [lay, Act.put, List.getElem?_toArray, List.getElem?_cons_succ, List.getElem?_cons_zero, Option.bind_some, List.setIfInBounds_toArray, List.set_cons_succ, List.set_cons_zero]
    generalize vs 0 = v0
    generalize vs 1 = v1
    generalize vs 2 = v2
    generalize vs 3 = v3
    generalize vs 4 = v4
    generalize vs 5 = v5 at *
    subst e5
    obtain ⟨hc, hf, hz⟩ := bcell hG
    have C8 := (H8.out.grow hG).facts
    have CP := (HP5.out.grow hG).facts
    have CR := (HR5.out.grow hG).facts
    have FR := (HR5.out.grow hG).free
    have CT := (HT5.out.grow hG).facts
    simp only [CellsFrom, Nat.zero_add, Nat.reduceAdd, and_true] at C8 CP CR CT
    have HW6 := Lib.hid (bgr HW5.out HW5.out.size hG)
    have HG6 := Lib.hid hG
    clear hc hf hz hG
    go_wp2_with fail
    refine (HOF.out _).mono ?_
    rintro e w7 ⟨rfl, hb7⟩
    go_wp2_with fail
    refine (HCM.out _).mono ?_
    rintro e w8 ⟨rfl, hb8⟩
    have G8 := (HG6.out.tr hb7).tr hb8
    have HS9 : Box (w8.alloc (.cells #[.int .i64 s1, .int .i64 s2] 23)) w8.heap.size [.int .i64 s1, .int .i64 s2] 23 := Box.fresh w8 _ _
    have G9 := G8.tr (Gr.alloc w8 (.cells #[.int .i64 s1, .int .i64 s2] 23))
    have hw9 := bgr HW5.out HW5.out.size G9
    have hb8l : b8 < w8.heap.size := (H8.out.grow G8).lt
    have hpl : w.heap.size + 1 < w8.heap.size := (HR5.out.grow G8).lt
    have HW8S := Lib.hid (show w8.heap.size < (w8.alloc (.cells #[.int .i64 s1, .int .i64 s2] 23)).heap.size by simp)
    clear C8 CP CR FR CT hb7 hb8 G8
    go_wp2_with fail
    generalize w8.alloc (.cells #[.int .i64 s1, .int .i64 s2] 23) = W9 at *
    generalize w8.heap.size = b9 at *
    have C8 := (H8.out.grow G9).facts
    have CP := (HP5.out.grow G9).facts
    have CR := (HR5.out.grow G9).facts
    have FR := (HR5.out.grow G9).free
    simp only [CellsFrom, Nat.zero_add, Nat.reduceAdd, and_true] at C8 CP CR
    have C9 := HS9.facts
    simp only [CellsFrom, Nat.zero_add, and_true] at C9
    have H9 := Lib.hid HS9
    have HG9 := Lib.hid G9
    have HW9 := Lib.hid hw9
    have hb9 := HW8S.out
    clear HS9 G9 hw9
    refine regionB 14 ?_ ?_ ?_
    · kernel_rfl
    · kernel_rfl
    simp only [List.take_succ_cons, List.take_zero, List.drop_succ_cons, List.drop_zero]
    apply chainB_eq (D := [(2, none)]) rfl (by kernel_rfl)
    · intro ρ W ⟨p1, p2, p3⟩ hG hF K hK; (try simp [FactsD] at hF); have ⟨hc, hf, hz⟩ := bcell (Gr.tr (Gr.drew _) hG); go_simp; exact hK _ (gives_val)
    apply chainB_eq (D := [(47, some 0)]) rfl (by kernel_rfl)
    · intro ρ W ⟨p1, p2, p3⟩ hG hF K hK; (try simp [FactsD, exB] at hF); have ⟨hc, hf, hz⟩ := bcell (Gr.tr (Gr.drew _) hG); go_simp; exact hK _ (gives_val)
    apply chainB_eq (D := [(6, none)]) rfl (by kernel_rfl)
    · intro ρ W ⟨p1, p2, p3⟩ hG hF K hK; (try simp [FactsD] at hF); have ⟨hc, hf, hz⟩ := bcell (Gr.tr (Gr.drew _) hG); go_simp; exact hK _ (gives_val)
    apply chainB_eq (D := [(49, some 0)]) rfl (by kernel_rfl)
    · intro ρ W ⟨p1, p2, p3⟩ hG hF K hK; (try simp [FactsD, exB] at hF); have ⟨hc, hf, hz⟩ := bcell (Gr.tr (Gr.drew _) hG); go_simp; exact hK _ (gives_val)
    apply chainB_eq (D := [(9, none)]) rfl (by kernel_rfl)
    · intro ρ W ⟨p1, p2, p3⟩ hG hF K hK; (try simp [FactsD] at hF); have ⟨hc, hf, hz⟩ := bcell (Gr.tr (Gr.drew _) hG); go_simp; exact hK _ (gives_val)
    apply chainB_eq (D := [(51, some 0)]) rfl (by kernel_rfl)
    · intro ρ W ⟨p1, p2, p3⟩ hG hF K hK; (try simp [FactsD, exB] at hF); have ⟨hc, hf, hz⟩ := bcell (Gr.tr (Gr.drew _) hG); go_simp; exact hK _ (gives_val)
    apply chainB_eq (D := [(52, some 0)]) rfl (by kernel_rfl)
    · intro ρ W ⟨p1, p2, p3⟩ hG hF K hK; (try simp [FactsD, exB] at hF); have ⟨hc, hf, hz⟩ := bcell (Gr.tr (Gr.drew _) hG); go_simp; exact hK _ (gives_val)
    apply chainB_eq (D := [(50, some 3), (53, some 0)]) rfl (by kernel_rfl)
    · intro ρ W ⟨p1, p2, p3⟩ hG hF K hK; (try simp [FactsD, exB] at hF); have ⟨hc, hf, hz⟩ := bcell (Gr.tr (Gr.drew _) hG); go_simp; exact hK _ (gives_val)
    apply chainB_eq (D := [(54, some 0)]) rfl (by kernel_rfl)
    · intro ρ W ⟨p1, p2, p3⟩ hG hF K hK; (try simp [FactsD, exB] at hF); have ⟨hc, hf, hz⟩ := bcell (Gr.tr (Gr.drew _) hG); go_simp; exact hK _ (gives_val)
    apply chainB_eq (D := [(48, some 7), (55, some 0)]) rfl (by kernel_rfl)
    · intro ρ W ⟨p1, p2, p3⟩ hG hF K hK; (try simp [FactsD, exB] at hF); have ⟨hc, hf, hz⟩ := bcell (Gr.tr (Gr.drew _) hG); go_simp; exact hK _ (gives_val)
    apply chainB_eq (D := [(2, none)]) rfl (by kernel_rfl)
    · intro ρ W ⟨p1, p2, p3⟩ hG hF K hK; (try simp [FactsD] at hF); have ⟨hc, hf, hz⟩ := bcell (Gr.tr (Gr.drew _) hG); go_simp; exact hK _ (gives_val)
    apply chainB_eq (D := [(57, some 0)]) rfl (by kernel_rfl)
    · intro ρ W ⟨p1, p2, p3⟩ hG hF K hK; (try simp [FactsD, exB] at hF); have ⟨hc, hf, hz⟩ := bcell (Gr.tr (Gr.drew _) hG); go_simp; exact hK _ (gives_val)
    apply chainB_eq (D := [(56, some 2), (58, some 0)]) rfl (by kernel_rfl)
    · intro ρ W ⟨p1, p2, p3⟩ hG hF K hK; (try simp [FactsD, exB] at hF); have ⟨hc, hf, hz⟩ := bcell (Gr.tr (Gr.drew _) hG); go_simp; exact hK _ (gives_val)
    refine chainB_any (V := fun p v W' => NewB [.int .i64 0, .int .i64 0] 23 p v W' ∧ W9.heap.size ≤ p.1) (D := []) rfl (by kernel_rfl) (fun p v A B h hg => ⟨NewB.lasts _ _ p v A B h.1 hg, h.2⟩) ?_ ?_
    · intro ρ W ⟨p1, p2, p3⟩ hG hF K hK; (try simp [FactsD] at hF); have ⟨hc, hf, hz⟩ := bcell (Gr.tr (Gr.drew _) hG); go_simp; exact hK _ (⟨⟨NewB.new _ _ _, by have := hG.size; simpa using this⟩, Gr.alloc _ _⟩)
    refine chainB_done ?_
    intro vs bs W hG hV hdj
    obtain ⟨e13, e12, -⟩ := hV
    simp only [Nat.reduceSub] at e12
    simp only [Nat.reduceSub] at e13
    clear hdj
    simp only [lay, Act.put, List.getElem?_toArray, List.getElem?_cons_succ, List.getElem?_cons_zero, Option.bind_some, List.setIfInBounds_toArray, List.set_cons_succ, List.set_cons_zero]
    generalize vs 0 = v0
    generalize vs 1 = v1
    generalize vs 2 = v2
    generalize vs 3 = v3
    generalize vs 4 = v4
    generalize vs 5 = v5
    generalize vs 6 = v6
    generalize vs 7 = v7
    generalize vs 8 = v8
    generalize vs 9 = v9
    generalize vs 10 = v10
    generalize vs 11 = v11
    generalize vs 12 = v12 at *
    generalize vs 13 = v13 at *
    subst e12
    obtain ⟨hc, hf, hz⟩ := bcell hG
    obtain ⟨⟨b10, rfl, hq1, hq2, hB10⟩, hq3⟩ := e13
    have l9 : b9 < b10 := by omega
    have l8 : b8 < b10 := by omega
    have l1 : w.heap.size + 1 < b10 := by omega
    have l0 : w.heap.size < b10 := by omega
    have n9 := Nat.ne_of_lt l9
    have n9' := (Nat.ne_of_lt l9).symm
    have n8 := Nat.ne_of_lt l8
    have n8' := (Nat.ne_of_lt l8).symm
    have n1 := Nat.ne_of_lt l1
    have n1' := (Nat.ne_of_lt l1).symm
    have n0 := Nat.ne_of_lt l0
    have n0' := (Nat.ne_of_lt l0).symm
    have T0 := hB10.facts
    have TF := hB10.free
    have C9 := (H9.out.grow hG).facts
    have C8 := ((H8.out.grow HG9.out).grow hG).facts
    have CP := ((HP5.out.grow HG9.out).grow hG).facts
    have CR := ((HR5.out.grow HG9.out).grow hG).facts
    have FR := ((HR5.out.grow HG9.out).grow hG).free
    simp only [CellsFrom, Nat.zero_add, Nat.reduceAdd, and_true] at T0 C9 C8 CP CR
    have HWW := Lib.hid (bgr HW9.out HW9.out.size hG)
    have HB10 := Lib.hid hB10
    have HG10 := Lib.hid hG
    clear hc hf hz hG hB10 hq1 hq2 hq3
    go_wp2_with fail
    exact bodyPost_ret (v := .tuple #[.agg #[.int .i64 (imax p.ne (x / (s2 + 1) + 1)), .int .i64 p.fa], .int .i64 0]) (by simp [results, Try.results24, go_sem, *]) rfl ⟨rfl, (((((show Below w.heap.size w W from HWW.out).setCell (by first | (simp; done) | (simp; omega) | omega) _).setCell (by first | (simp; done) | (simp; omega) | omega) _).setCell (by first | (simp; done) | (simp; omega) | omega) _).setCell (by first | (simp; done) | (simp; omega) | omega) _)⟩

set_option maxRecDepth 100000 in
set_option maxHeartbeats 4000000 in
theorem rdist_far1 (p : Pr) (sp : Option Addr) (len cap : Nat) (n : Nat) (xa xb xc xd xe xf xg xh xz x y q1 q2 : Int) (w : World) (hT : ThingsAt p.l (.slice sp len cap) w) (hl : len ≤ 1000) (hk : Hid ((decide (0 ≤ (n : Int)) && decide ((n : Int) < (len : Int))) = true)) (hkl : n < len) (HK : Hid (p.l[n]? = some ⟨xa, xb, xc, xd, xe, xf, xg, xh, xz⟩)) (ho : Hid (p.ropen true = (x, y, 0))) (HPT : Hid (∀ (v : Value) (w : World), Calls Try.prog 59 #[.agg #[.int .i64 p.fl, .int .i64 p.fh, .int .i64 p.bl, .int .i64 p.bh, .int .i64 p.ti, .int .i64 p.ne, .int .i64 p.fa, v], .agg #[.int .i64 xa, .int .i64 xb, .int .i64 xc, .int .i64 xd, .int .i64 xe, .int .i64 xf, .int .i64 xg, .int .i64 xh, .int .i64 xz]] w fun e w' => e = .returned (.agg #[.int .i64 q1, .int .i64 q2]) ∧ Below w.heap.size w w')) (hem : decide ((ovl (x, y) (q1, q2)).2 < (ovl (x, y) (q1, q2)).1) = false) (hz0 : (xz != 0) = false) (ba : -4000 ≤ xa ∧ xa ≤ 4000) (bb : -4000 ≤ xb ∧ xb ≤ 4000) (be : -4000 ≤ xe ∧ xe ≤ 4000) (bf : -4000 ≤ xf ∧ xf ≤ 4000) (x0 : 0 ≤ x) (x1 : x ≤ 4398046511104) (y0 : 0 ≤ y) (y1 : y ≤ 4398046511104) (s1 s2 : Int) (hs : ovl (xa - xf, xb - xe) (0, 2000) = (s1, s2)) (c0 : 0 ≤ s2) (c1 : s2 ≤ 2000) (u0 : 0 < s1) :
    Calls Try.prog 24 #[.agg #[.int .i64 p.fl, .int .i64 p.fh, .int .i64 p.bl, .int .i64 p.bh, .int .i64 p.ti, .int .i64 p.ne, .int .i64 p.fa, .slice sp len cap], .int .i64 n] w fun e w' => e = .returned (.tuple #[.agg #[.int .i64 (imax p.ne (x / (s2 + 1) + 1)), .int .i64 (imin p.fa (y / s1))], .int .i64 0]) ∧ Below w.heap.size w w' := by
  have TH := Lib.hid (fun (W : World) (hg : Gr ((w.alloc (.cells #[.int .i64 p.fl, .int .i64 p.fh, .int .i64 p.bl, .int .i64 p.bh, .int .i64 p.ti, .int .i64 p.ne, .int .i64 p.fa, .slice sp len cap] 26)).alloc (.cells #[.int .i64 0, .int .i64 0] 23)) W) => ThingsAt.lasts p.l _ _ _ hT (((Gr.alloc _ _).tr (Gr.alloc _ _)).tr hg))
  have hal := @cal
  have HCM : Hid (∀ W : World, Calls Try.prog 58 #[.agg #[.int .i64 (xa - xf), .int .i64 (xb - xe)], .agg #[.int .i64 0, .int .i64 2000]] W fun e w' => e = .returned (.agg #[.int .i64 s1, .int .i64 s2]) ∧ Below W.heap.size W w') := Lib.hid fun W => by
    have := rcommon_any (xa - xf) (xb - xe) 0 2000 W
    rwa [hs] at this
  have HOF := Lib.hid (fun w => rof_any xa xb xc xd xe xf xg xh xz w ba bb be bf)
  obtain ⟨d0, d1⟩ := quo_le (b := s2 + 1) x0 x1 (by omega)
  have e1 : IntKind.i64.wrap (x.tdiv (s2 + 1)) = x / (s2 + 1) := by rw [Int.tdiv_eq_ediv_of_nonneg x0]; exact wraps_i64 _ d0 (by omega)
  have ew : IntKind.i64.wrap (s2 + 1) = s2 + 1 := wraps_i64 _ (by omega) (by omega)
  have ew2 : IntKind.i64.wrap (x / (s2 + 1) + 1) = x / (s2 + 1) + 1 := wraps_i64 _ (by omega) (by omega)
  have z1 : ¬ s2 + 1 = 0 := by omega
  have hmx : ∀ (x y : Int), (if x < y then y else x) = imax x y := fun _ _ => rfl
  obtain ⟨d2, d3⟩ := quo_le (b := s1) y0 y1 (by omega)
  have e2 : IntKind.i64.wrap (y.tdiv s1) = y / s1 := by rw [Int.tdiv_eq_ediv_of_nonneg y0]; exact wraps_i64 _ d2 (by omega)
  have z2 : ¬ s1 = 0 := by omega
  have hu : decide (0 < s1) = true := decide_eq_true u0
  have hmn : ∀ (x y : Int), (if y < x then y else x) = imin x y := fun _ _ => rfl
  clear hs ba bb be bf
  have hT2 := hT.2
  rcases hT2 with ⟨e, -⟩ | ⟨b, o, cap', hsp, hb, hcx⟩
  · have := HK.out; rw [e] at this; cases this
  obtain ⟨hsp1, -, -⟩ : sp = some ⟨b, o, none⟩ ∧ len = p.l.length ∧ cap = cap' := by simpa using hsp
  subst hsp1
  have HX0 := Lib.hid (hcx n _ HK.out)
  obtain ⟨o1, o2, hov⟩ : ∃ o1 o2, ovl (x, y) (q1, q2) = (o1, o2) := ⟨_, _, rfl⟩
  have HC : Hid (∀ W : World, Calls Try.prog 58 #[.agg #[.int .i64 x, .int .i64 y], .agg #[.int .i64 q1, .int .i64 q2]] W fun e w' => e = .returned (.agg #[.int .i64 o1, .int .i64 o2]) ∧ Below W.heap.size W w') := Lib.hid fun W => by
    have := rcommon_any x y q1 q2 W
    rwa [hov] at this
  rw [hov] at hem
  simp only at hem
  have hem2 := hem
  simp only [decide_eq_false_iff_not] at hem2
  clear hT hcx hsp hov
  go_enter Try.func24, Try.ntmps24
  go_wp2_with fail
  refine regionL 9 7 ?_ ?_ ?_
  · kernel_rfl
  · kernel_rfl
  simp only [List.take_succ_cons, List.take_zero, List.drop_succ_cons, List.drop_zero]
  apply chainB_eq (D := [(2, none)]) rfl (by kernel_rfl)
  · intro ρ W ⟨p1, p2, p3⟩ hG hF K hK; (try simp [FactsD] at hF); have ⟨hc, hf, hz⟩ := bcell (Gr.tr (Gr.drew _) hG); go_simp; exact hK _ (gives_val)
  apply chainB_eq (D := [(2, none)]) rfl (by kernel_rfl)
  · intro ρ W ⟨p1, p2, p3⟩ hG hF K hK; (try simp [FactsD] at hF); have ⟨hc, hf, hz⟩ := bcell (Gr.tr (Gr.drew _) hG); go_simp; exact hK _ (gives_val)
  apply chainB_eq (D := [(1, none)]) rfl (by kernel_rfl)
  · intro ρ W ⟨p1, p2, p3⟩ hG hF K hK; (try simp [FactsD] at hF); have ⟨hc, hf, hz⟩ := bcell (Gr.tr (Gr.drew _) hG); go_simp; exact hK _ (gives_val)
  apply chainB_eq (D := [(13, some 1), (14, some 0)]) rfl (by kernel_rfl)
  · intro ρ W ⟨p1, p2, p3⟩ hG hF K hK; (try simp [FactsD, exB] at hF); have ⟨hc, hf, hz⟩ := bcell (Gr.tr (Gr.drew _) hG); go_simp; exact hK _ (gives_call (rthing_is hl hk.out))
  apply chainB_eq (D := [(12, some 3), (15, some 0)]) rfl (by kernel_rfl)
  · intro ρ W ⟨p1, p2, p3⟩ hG hF K hK; (try simp [FactsD, exB] at hF); have ⟨hc, hf, hz⟩ := bcell (Gr.tr (Gr.drew _) hG); go_simp; exact hK _ (gives_call (ropen_is ho.out (TH.out _ ((Gr.drew _).tr hG))))
  apply chainB_eq (D := [(16, some 0)]) rfl (by kernel_rfl)
  · intro ρ W ⟨p1, p2, p3⟩ hG hF K hK; (try simp [FactsD, exB] at hF); have ⟨hc, hf, hz⟩ := bcell (Gr.tr (Gr.drew _) hG); go_simp; exact hK _ (gives_val)
  apply chainB_eq (D := [(11, some 0)]) rfl (by kernel_rfl)
  · intro ρ W ⟨p1, p2, p3⟩ hG hF K hK; (try simp [FactsD, exB] at hF); have ⟨hc, hf, hz⟩ := bcell (Gr.tr (Gr.drew _) hG); go_simp; exact hK _ (gives_val)
  apply chainB_eq (D := [(11, some 1)]) rfl (by kernel_rfl)
  · intro ρ W ⟨p1, p2, p3⟩ hG hF K hK; (try simp [FactsD, exB] at hF); have ⟨hc, hf, hz⟩ := bcell (Gr.tr (Gr.drew _) hG); go_simp; exact hK _ (gives_val)
  refine chainB_any (V := fun p v W' => NewB [.int .i64 0, .int .i64 0] 23 p v W' ∧ w.heap.size + 1 + 1 ≤ p.1) (D := []) rfl (by kernel_rfl) (fun p v A B h hg => ⟨NewB.lasts _ _ p v A B h.1 hg, h.2⟩) ?_ ?_
  · intro ρ W ⟨p1, p2, p3⟩ hG hF K hK; (try simp [FactsD] at hF); have ⟨hc, hf, hz⟩ := bcell (Gr.tr (Gr.drew _) hG); go_simp; exact hK _ (⟨⟨NewB.new _ _ _, by have := hG.size; simpa using this⟩, Gr.alloc _ _⟩)
  refine chainB_done ⟨?_, ?_⟩
  · intro vs bs W hG hV hdj
    obtain ⟨e8, e7, e6, -⟩ := hV
    simp only [Nat.reduceSub] at e6
    simp only [Nat.reduceSub] at e7
    simp only [Nat.reduceSub] at e8
    clear hdj
    simp only [lay, Act.put, List.getElem?_toArray, List.getElem?_cons_succ, List.getElem?_cons_zero, Option.bind_some, List.setIfInBounds_toArray, List.set_cons_succ, List.set_cons_zero]
    generalize vs 0 = v0
    generalize vs 1 = v1
    generalize vs 2 = v2
    generalize vs 3 = v3
    generalize vs 4 = v4
    generalize vs 5 = v5
    generalize vs 6 = v6 at *
    generalize vs 7 = v7 at *
    generalize vs 8 = v8 at *
    subst e6
    subst e7
    obtain ⟨hc, hf, hz⟩ := bcell hG
    obtain ⟨⟨b8, rfl, hb8, hb8', hB8⟩, hb8n⟩ := e8
    have hl1 : w.heap.size + 1 < b8 := by omega
    have hl0 : w.heap.size < b8 := by omega
    have m0 := Nat.ne_of_lt hl0
    have m1 := (Nat.ne_of_lt hl0).symm
    have m2 := Nat.ne_of_lt hl1
    have m3 := (Nat.ne_of_lt hl1).symm
    have hgW : Gr ((w.alloc (.cells #[.int .i64 p.fl, .int .i64 p.fh, .int .i64 p.bl, .int .i64 p.bh, .int .i64 p.ti, .int .i64 p.ne, .int .i64 p.fa, .slice (some ⟨b, o, none⟩) len cap] 26)).alloc (.cells #[.int .i64 0, .int .i64 0] 23)) W := hG
    have hP0 : Box W w.heap.size [.int .i64 p.fl, .int .i64 p.fh, .int .i64 p.bl, .int .i64 p.bh, .int .i64 p.ti, .int .i64 p.ne, .int .i64 p.fa, .slice (some ⟨b, o, none⟩) len cap] 26 := ((Box.fresh w [.int .i64 p.fl, .int .i64 p.fh, .int .i64 p.bl, .int .i64 p.bh, .int .i64 p.ti, .int .i64 p.ne, .int .i64 p.fa, .slice (some ⟨b, o, none⟩) len cap] 26).grow (Gr.alloc _ (.cells #[.int .i64 0, .int .i64 0] 23))).grow hgW
    have hR0 : Box W (w.heap.size + 1) [.int .i64 0, .int .i64 0] 23 := by
      have := (Box.fresh (w.alloc (.cells #[.int .i64 p.fl, .int .i64 p.fh, .int .i64 p.bl, .int .i64 p.bh, .int .i64 p.ti, .int .i64 p.ne, .int .i64 p.fa, .slice (some ⟨b, o, none⟩) len cap] 26)) [.int .i64 0, .int .i64 0] 23).grow hgW
      simpa using this
    have P0 := hP0.facts
    have R0 := hR0.facts
    simp only [CellsFrom, Nat.zero_add, Nat.reduceAdd, and_true] at P0 R0
    have RF := hR0.free
    obtain ⟨y0_, y1_, yf0, yf1, yl⟩ := hB8.two
    have HP0 := Lib.hid hP0
    have HR0 := Lib.hid hR0
    have HGW := Lib.hid hgW
    have HB8 := Lib.hid hB8
    clear hP0 hR0 hB8 hb8 hb8' hb8n hgW hG hc hf hz
    have X := CellsFrom.nine (HX0.out.grow hb (((Gr.alloc _ _).tr (Gr.alloc _ _)).tr HGW.out))
    simp only at X
    have hne8 : ¬ b = b8 := by omega
    have hne8' : ¬ b8 = b := by omega
    have hbW : b < W.heap.size := by have := HGW.out.size; simp at this; omega
    go_wp2_with fail
    have h8 : Box (((W.setCell ⟨b8, 0, none⟩ (.int .i64 x)).setCell ⟨b8, 1, none⟩ (.int .i64 y)).alloc (.cells #[.int .i64 xa, .int .i64 xb, .int .i64 xc, .int .i64 xd, .int .i64 xe, .int .i64 xf, .int .i64 xg, .int .i64 xh, .int .i64 xz] 47)) b8 [.int .i64 x, .int .i64 y] 23 := ((HB8.out.put 0 _).put 1 _).grow (Gr.alloc _ _)
    have hp5 : Box (((W.setCell ⟨b8, 0, none⟩ (.int .i64 x)).setCell ⟨b8, 1, none⟩ (.int .i64 y)).alloc (.cells #[.int .i64 xa, .int .i64 xb, .int .i64 xc, .int .i64 xd, .int .i64 xe, .int .i64 xf, .int .i64 xg, .int .i64 xh, .int .i64 xz] 47)) w.heap.size [.int .i64 p.fl, .int .i64 p.fh, .int .i64 p.bl, .int .i64 p.bh, .int .i64 p.ti, .int .i64 p.ne, .int .i64 p.fa, .slice (some ⟨b, o, none⟩) len cap] 26 := ((HP0.out.other m0 _ _).other m0 _ _).grow (Gr.alloc _ _)
    have hr5 : Box (((W.setCell ⟨b8, 0, none⟩ (.int .i64 x)).setCell ⟨b8, 1, none⟩ (.int .i64 y)).alloc (.cells #[.int .i64 xa, .int .i64 xb, .int .i64 xc, .int .i64 xd, .int .i64 xe, .int .i64 xf, .int .i64 xg, .int .i64 xh, .int .i64 xz] 47)) (w.heap.size + 1) [.int .i64 0, .int .i64 0] 23 := ((HR0.out.other m2 _ _).other m2 _ _).grow (Gr.alloc _ _)
    have ht5 : Box (((W.setCell ⟨b8, 0, none⟩ (.int .i64 x)).setCell ⟨b8, 1, none⟩ (.int .i64 y)).alloc (.cells #[.int .i64 xa, .int .i64 xb, .int .i64 xc, .int .i64 xd, .int .i64 xe, .int .i64 xf, .int .i64 xg, .int .i64 xh, .int .i64 xz] 47)) W.heap.size [.int .i64 xa, .int .i64 xb, .int .i64 xc, .int .i64 xd, .int .i64 xe, .int .i64 xf, .int .i64 xg, .int .i64 xh, .int .i64 xz] 47 := by
      have := Box.fresh ((W.setCell ⟨b8, 0, none⟩ (.int .i64 x)).setCell ⟨b8, 1, none⟩ (.int .i64 y)) [.int .i64 xa, .int .i64 xb, .int .i64 xc, .int .i64 xd, .int .i64 xe, .int .i64 xf, .int .i64 xg, .int .i64 xh, .int .i64 xz] 47
      simpa using this
    have hw5 : Below w.heap.size w (((W.setCell ⟨b8, 0, none⟩ (.int .i64 x)).setCell ⟨b8, 1, none⟩ (.int .i64 y)).alloc (.cells #[.int .i64 xa, .int .i64 xb, .int .i64 xc, .int .i64 xd, .int .i64 xe, .int .i64 xf, .int .i64 xg, .int .i64 xh, .int .i64 xz] 47)) := (((show Below w.heap.size w W from ((Gr.alloc _ _).tr (Gr.alloc _ _)).tr HGW.out).setCell (by first | (simp; done) | (simp; omega) | omega) _).setCell (by first | (simp; done) | (simp; omega) | omega) _).alloc (by first | (simp; done) | (simp; omega) | omega) _
    clear X hbW y0_ y1_ yf0 yf1 yl P0 R0 RF HP0 HR0 HB8 HGW
    generalize (((W.setCell ⟨b8, 0, none⟩ (.int .i64 x)).setCell ⟨b8, 1, none⟩ (.int .i64 y)).alloc (.cells #[.int .i64 xa, .int .i64 xb, .int .i64 xc, .int .i64 xd, .int .i64 xe, .int .i64 xf, .int .i64 xg, .int .i64 xh, .int .i64 xz] 47)) = W5 at *
    generalize W.heap.size = bt at *
    have C8 := h8.facts
    have CP := hp5.facts
    have CT := ht5.facts
    simp only [CellsFrom, Nat.zero_add, Nat.reduceAdd, and_true] at C8 CP CT
    have H8 := Lib.hid h8
    have HP5 := Lib.hid hp5
    have HR5 := Lib.hid hr5
    have HT5 := Lib.hid ht5
    have HW5 := Lib.hid hw5
    clear h8 hp5 hr5 ht5 hw5
    refine region2 6 ?_ ?_ ?_
    · kernel_rfl
    · kernel_rfl
    simp only [List.take_succ_cons, List.take_zero, List.drop_succ_cons, List.drop_zero]
    apply chain_eq (D := [(6, none)]) rfl (by kernel_rfl)
    · intro ρ W ⟨p1, p2, p3⟩ hG hF K hK; (try simp [FactsD] at hF); have ⟨hc, hf, hz⟩ := bcell (Gr.tr (Gr.drew _) hG); go_simp; exact hK _ (gives_val)
    apply chain_eq (D := [(2, none)]) rfl (by kernel_rfl)
    · intro ρ W ⟨p1, p2, p3⟩ hG hF K hK; (try simp [FactsD] at hF); have ⟨hc, hf, hz⟩ := bcell (Gr.tr (Gr.drew _) hG); go_simp; exact hK _ (gives_val)
    apply chain_eq (D := [(8, none)]) rfl (by kernel_rfl)
    · intro ρ W ⟨p1, p2, p3⟩ hG hF K hK; (try simp [FactsD] at hF); have ⟨hc, hf, hz⟩ := bcell (Gr.tr (Gr.drew _) hG); go_simp; exact hK _ (gives_val)
    apply chain_eq (D := [(29, some 1), (30, some 0)]) rfl (by kernel_rfl)
    · intro ρ W ⟨p1, p2, p3⟩ hG hF K hK; (try simp [FactsD] at hF); have ⟨hc, hf, hz⟩ := bcell (Gr.tr (Gr.drew _) hG); go_simp; exact hK _ (gives_call (HPT.out _ _))
    apply chain_eq (D := [(28, some 3), (31, some 0)]) rfl (by kernel_rfl)
    · intro ρ W ⟨p1, p2, p3⟩ hG hF K hK; (try simp [FactsD] at hF); have ⟨hc, hf, hz⟩ := bcell (Gr.tr (Gr.drew _) hG); go_simp; exact hK _ (gives_call (HC.out _))
    apply chain_eq (D := [(32, some 0)]) rfl (by kernel_rfl)
    · intro ρ W ⟨p1, p2, p3⟩ hG hF K hK; (try simp [FactsD] at hF); have ⟨hc, hf, hz⟩ := bcell (Gr.tr (Gr.drew _) hG); go_simp; exact hK _ (gives_call (rempty_any _ _ _))
    refine chain_done ?_
    intro vs W hG hV
    obtain ⟨e5, -⟩ := hV
    simp only [Nat.reduceSub] at e5
    simp only [lay, Act.put, List.getElem?_toArray, List.getElem?_cons_succ, List.getElem?_cons_zero, Option.bind_some, List.setIfInBounds_toArray, List.set_cons_succ, List.set_cons_zero]
    generalize vs 0 = v0
    generalize vs 1 = v1
    generalize vs 2 = v2
    generalize vs 3 = v3
    generalize vs 4 = v4
    generalize vs 5 = v5 at *
    subst e5
    obtain ⟨hc, hf, hz⟩ := bcell hG
    have C8 := (H8.out.grow hG).facts
    have CP := (HP5.out.grow hG).facts
    have CR := (HR5.out.grow hG).facts
    have FR := (HR5.out.grow hG).free
    have CT := (HT5.out.grow hG).facts
    simp only [CellsFrom, Nat.zero_add, Nat.reduceAdd, and_true] at C8 CP CR CT
    have HW6 := Lib.hid (bgr HW5.out HW5.out.size hG)
    have HG6 := Lib.hid hG
    clear hc hf hz hG
    go_wp2_with fail
    refine (HOF.out _).mono ?_
    rintro e w7 ⟨rfl, hb7⟩
    go_wp2_with fail
    refine (HCM.out _).mono ?_
    rintro e w8 ⟨rfl, hb8⟩
    have G8 := (HG6.out.tr hb7).tr hb8
    have HS9 : Box (w8.alloc (.cells #[.int .i64 s1, .int .i64 s2] 23)) w8.heap.size [.int .i64 s1, .int .i64 s2] 23 := Box.fresh w8 _ _
    have G9 := G8.tr (Gr.alloc w8 (.cells #[.int .i64 s1, .int .i64 s2] 23))
    have hw9 := bgr HW5.out HW5.out.size G9
    have hb8l : b8 < w8.heap.size := (H8.out.grow G8).lt
    have hpl : w.heap.size + 1 < w8.heap.size := (HR5.out.grow G8).lt
    have HW8S := Lib.hid (show w8.heap.size < (w8.alloc (.cells #[.int .i64 s1, .int .i64 s2] 23)).heap.size by simp)
    clear C8 CP CR FR CT hb7 hb8 G8
    go_wp2_with fail
    generalize w8.alloc (.cells #[.int .i64 s1, .int .i64 s2] 23) = W9 at *
    generalize w8.heap.size = b9 at *
    have C8 := (H8.out.grow G9).facts
    have CP := (HP5.out.grow G9).facts
    have CR := (HR5.out.grow G9).facts
    have FR := (HR5.out.grow G9).free
    simp only [CellsFrom, Nat.zero_add, Nat.reduceAdd, and_true] at C8 CP CR
    have C9 := HS9.facts
    simp only [CellsFrom, Nat.zero_add, and_true] at C9
    have H9 := Lib.hid HS9
    have HG9 := Lib.hid G9
    have HW9 := Lib.hid hw9
    have hb9 := HW8S.out
    clear HS9 G9 hw9
    refine regionB 14 ?_ ?_ ?_
    · kernel_rfl
    · kernel_rfl
    simp only [List.take_succ_cons, List.take_zero, List.drop_succ_cons, List.drop_zero]
    apply chainB_eq (D := [(2, none)]) rfl (by kernel_rfl)
    · intro ρ W ⟨p1, p2, p3⟩ hG hF K hK; (try simp [FactsD] at hF); have ⟨hc, hf, hz⟩ := bcell (Gr.tr (Gr.drew _) hG); go_simp; exact hK _ (gives_val)
    apply chainB_eq (D := [(47, some 0)]) rfl (by kernel_rfl)
    · intro ρ W ⟨p1, p2, p3⟩ hG hF K hK; (try simp [FactsD, exB] at hF); have ⟨hc, hf, hz⟩ := bcell (Gr.tr (Gr.drew _) hG); go_simp; exact hK _ (gives_val)
    apply chainB_eq (D := [(6, none)]) rfl (by kernel_rfl)
    · intro ρ W ⟨p1, p2, p3⟩ hG hF K hK; (try simp [FactsD] at hF); have ⟨hc, hf, hz⟩ := bcell (Gr.tr (Gr.drew _) hG); go_simp; exact hK _ (gives_val)
    apply chainB_eq (D := [(49, some 0)]) rfl (by kernel_rfl)
    · intro ρ W ⟨p1, p2, p3⟩ hG hF K hK; (try simp [FactsD, exB] at hF); have ⟨hc, hf, hz⟩ := bcell (Gr.tr (Gr.drew _) hG); go_simp; exact hK _ (gives_val)
    apply chainB_eq (D := [(9, none)]) rfl (by kernel_rfl)
    · intro ρ W ⟨p1, p2, p3⟩ hG hF K hK; (try simp [FactsD] at hF); have ⟨hc, hf, hz⟩ := bcell (Gr.tr (Gr.drew _) hG); go_simp; exact hK _ (gives_val)
    apply chainB_eq (D := [(51, some 0)]) rfl (by kernel_rfl)
    · intro ρ W ⟨p1, p2, p3⟩ hG hF K hK; (try simp [FactsD, exB] at hF); have ⟨hc, hf, hz⟩ := bcell (Gr.tr (Gr.drew _) hG); go_simp; exact hK _ (gives_val)
    apply chainB_eq (D := [(52, some 0)]) rfl (by kernel_rfl)
    · intro ρ W ⟨p1, p2, p3⟩ hG hF K hK; (try simp [FactsD, exB] at hF); have ⟨hc, hf, hz⟩ := bcell (Gr.tr (Gr.drew _) hG); go_simp; exact hK _ (gives_val)
    apply chainB_eq (D := [(50, some 3), (53, some 0)]) rfl (by kernel_rfl)
    · intro ρ W ⟨p1, p2, p3⟩ hG hF K hK; (try simp [FactsD, exB] at hF); have ⟨hc, hf, hz⟩ := bcell (Gr.tr (Gr.drew _) hG); go_simp; exact hK _ (gives_val)
    apply chainB_eq (D := [(54, some 0)]) rfl (by kernel_rfl)
    · intro ρ W ⟨p1, p2, p3⟩ hG hF K hK; (try simp [FactsD, exB] at hF); have ⟨hc, hf, hz⟩ := bcell (Gr.tr (Gr.drew _) hG); go_simp; exact hK _ (gives_val)
    apply chainB_eq (D := [(48, some 7), (55, some 0)]) rfl (by kernel_rfl)
    · intro ρ W ⟨p1, p2, p3⟩ hG hF K hK; (try simp [FactsD, exB] at hF); have ⟨hc, hf, hz⟩ := bcell (Gr.tr (Gr.drew _) hG); go_simp; exact hK _ (gives_val)
    apply chainB_eq (D := [(2, none)]) rfl (by kernel_rfl)
    · intro ρ W ⟨p1, p2, p3⟩ hG hF K hK; (try simp [FactsD] at hF); have ⟨hc, hf, hz⟩ := bcell (Gr.tr (Gr.drew _) hG); go_simp; exact hK _ (gives_val)
    apply chainB_eq (D := [(57, some 0)]) rfl (by kernel_rfl)
    · intro ρ W ⟨p1, p2, p3⟩ hG hF K hK; (try simp [FactsD, exB] at hF); have ⟨hc, hf, hz⟩ := bcell (Gr.tr (Gr.drew _) hG); go_simp; exact hK _ (gives_val)
    apply chainB_eq (D := [(56, some 2), (58, some 0)]) rfl (by kernel_rfl)
    · intro ρ W ⟨p1, p2, p3⟩ hG hF K hK; (try simp [FactsD, exB] at hF); have ⟨hc, hf, hz⟩ := bcell (Gr.tr (Gr.drew _) hG); go_simp; exact hK _ (gives_val)
    refine chainB_any (V := fun p v W' => NewB [.int .i64 0, .int .i64 0] 23 p v W' ∧ W9.heap.size ≤ p.1) (D := []) rfl (by kernel_rfl) (fun p v A B h hg => ⟨NewB.lasts _ _ p v A B h.1 hg, h.2⟩) ?_ ?_
    · intro ρ W ⟨p1, p2, p3⟩ hG hF K hK; (try simp [FactsD] at hF); have ⟨hc, hf, hz⟩ := bcell (Gr.tr (Gr.drew _) hG); go_simp; exact hK _ (⟨⟨NewB.new _ _ _, by have := hG.size; simpa using this⟩, Gr.alloc _ _⟩)
    refine chainB_done ?_
    intro vs bs W hG hV hdj
    obtain ⟨e13, e12, -⟩ := hV
    simp only [Nat.reduceSub] at e12
    simp only [Nat.reduceSub] at e13
    clear hdj
    simp only [lay, Act.put, List.getElem?_toArray, List.getElem?_cons_succ, List.getElem?_cons_zero, Option.bind_some, List.setIfInBounds_toArray, List.set_cons_succ, List.set_cons_zero]
    generalize vs 0 = v0
    generalize vs 1 = v1
    generalize vs 2 = v2
    generalize vs 3 = v3
    generalize vs 4 = v4
    generalize vs 5 = v5
    generalize vs 6 = v6
    generalize vs 7 = v7
    generalize vs 8 = v8
    generalize vs 9 = v9
    generalize vs 10 = v10
    generalize vs 11 = v11
    generalize vs 12 = v12 at *
    generalize vs 13 = v13 at *
    subst e12
    obtain ⟨hc, hf, hz⟩ := bcell hG
    obtain ⟨⟨b10, rfl, hq1, hq2, hB10⟩, hq3⟩ := e13
    have l9 : b9 < b10 := by omega
    have l8 : b8 < b10 := by omega
    have l1 : w.heap.size + 1 < b10 := by omega
    have l0 : w.heap.size < b10 := by omega
    have n9 := Nat.ne_of_lt l9
    have n9' := (Nat.ne_of_lt l9).symm
    have n8 := Nat.ne_of_lt l8
    have n8' := (Nat.ne_of_lt l8).symm
    have n1 := Nat.ne_of_lt l1
    have n1' := (Nat.ne_of_lt l1).symm
    have n0 := Nat.ne_of_lt l0
    have n0' := (Nat.ne_of_lt l0).symm
    have T0 := hB10.facts
    have TF := hB10.free
    have C9 := (H9.out.grow hG).facts
    have C8 := ((H8.out.grow HG9.out).grow hG).facts
    have CP := ((HP5.out.grow HG9.out).grow hG).facts
    have CR := ((HR5.out.grow HG9.out).grow hG).facts
    have FR := ((HR5.out.grow HG9.out).grow hG).free
    simp only [CellsFrom, Nat.zero_add, Nat.reduceAdd, and_true] at T0 C9 C8 CP CR
    have HWW := Lib.hid (bgr HW9.out HW9.out.size hG)
    have HB10 := Lib.hid hB10
    have HG10 := Lib.hid hG
    clear hc hf hz hG hB10 hq1 hq2 hq3
    go_wp2_with fail
    have h10 : Box ((W.setCell ⟨b10, 0, none⟩ (.int .i64 (imax p.ne (x / (s2 + 1) + 1)))).setCell ⟨b10, 1, none⟩ (.int .i64 p.fa)) b10 [.int .i64 (imax p.ne (x / (s2 + 1) + 1)), .int .i64 p.fa] 23 := (HB10.out.put 0 _).put 1 _
    have h9 : Box ((W.setCell ⟨b10, 0, none⟩ (.int .i64 (imax p.ne (x / (s2 + 1) + 1)))).setCell ⟨b10, 1, none⟩ (.int .i64 p.fa)) b9 [.int .i64 s1, .int .i64 s2] 23 := ((H9.out.grow HG10.out).other n9 _ _).other n9 _ _
    have h8 : Box ((W.setCell ⟨b10, 0, none⟩ (.int .i64 (imax p.ne (x / (s2 + 1) + 1)))).setCell ⟨b10, 1, none⟩ (.int .i64 p.fa)) b8 [.int .i64 x, .int .i64 y] 23 := (((H8.out.grow HG9.out).grow HG10.out).other n8 _ _).other n8 _ _
    have hr : Box ((W.setCell ⟨b10, 0, none⟩ (.int .i64 (imax p.ne (x / (s2 + 1) + 1)))).setCell ⟨b10, 1, none⟩ (.int .i64 p.fa)) (w.heap.size + 1) [.int .i64 0, .int .i64 0] 23 := (((HR5.out.grow HG9.out).grow HG10.out).other n1 _ _).other n1 _ _
    have hww : Below w.heap.size w ((W.setCell ⟨b10, 0, none⟩ (.int .i64 (imax p.ne (x / (s2 + 1) + 1)))).setCell ⟨b10, 1, none⟩ (.int .i64 p.fa)) := ((show Below w.heap.size w W from HWW.out).setCell (by first | (simp; done) | (simp; omega) | omega) _).setCell (by first | (simp; done) | (simp; omega) | omega) _
    clear T0 TF C9 C8 CP CR FR
    generalize ((W.setCell ⟨b10, 0, none⟩ (.int .i64 (imax p.ne (x / (s2 + 1) + 1)))).setCell ⟨b10, 1, none⟩ (.int .i64 p.fa)) = Wb at *
    have T0 := h10.facts
    have C9 := h9.facts
    have C8 := h8.facts
    simp only [CellsFrom, Nat.zero_add, and_true] at T0 C9 C8
    have H10 := Lib.hid h10
    have HRR := Lib.hid hr
    have HWB := Lib.hid hww
    clear h10 h9 h8 hr hww
    refine region2 9 ?_ ?_ ?_
    · kernel_rfl
    · kernel_rfl
    simp only [List.take_succ_cons, List.take_zero, List.drop_succ_cons, List.drop_zero]
    apply chain_eq (D := [(10, none)]) rfl (by kernel_rfl)
    · intro ρ W ⟨p1, p2, p3⟩ hG hF K hK; (try simp [FactsD] at hF); have ⟨hc, hf, hz⟩ := bcell (Gr.tr (Gr.drew _) hG); go_simp; exact hK _ (gives_val)
    apply chain_eq (D := [(63, some 0)]) rfl (by kernel_rfl)
    · intro ρ W ⟨p1, p2, p3⟩ hG hF K hK; (try simp [FactsD] at hF); have ⟨hc, hf, hz⟩ := bcell (Gr.tr (Gr.drew _) hG); go_simp; exact hK _ (gives_val)
    apply chain_eq (D := [(6, none)]) rfl (by kernel_rfl)
    · intro ρ W ⟨p1, p2, p3⟩ hG hF K hK; (try simp [FactsD] at hF); have ⟨hc, hf, hz⟩ := bcell (Gr.tr (Gr.drew _) hG); go_simp; exact hK _ (gives_val)
    apply chain_eq (D := [(65, some 0)]) rfl (by kernel_rfl)
    · intro ρ W ⟨p1, p2, p3⟩ hG hF K hK; (try simp [FactsD] at hF); have ⟨hc, hf, hz⟩ := bcell (Gr.tr (Gr.drew _) hG); go_simp; exact hK _ (gives_val)
    apply chain_eq (D := [(9, none)]) rfl (by kernel_rfl)
    · intro ρ W ⟨p1, p2, p3⟩ hG hF K hK; (try simp [FactsD] at hF); have ⟨hc, hf, hz⟩ := bcell (Gr.tr (Gr.drew _) hG); go_simp; exact hK _ (gives_val)
    apply chain_eq (D := [(67, some 0)]) rfl (by kernel_rfl)
    · intro ρ W ⟨p1, p2, p3⟩ hG hF K hK; (try simp [FactsD] at hF); have ⟨hc, hf, hz⟩ := bcell (Gr.tr (Gr.drew _) hG); go_simp; exact hK _ (gives_val)
    apply chain_eq (D := [(66, some 2), (68, some 0)]) rfl (by kernel_rfl)
    · intro ρ W ⟨p1, p2, p3⟩ hG hF K hK; (try simp [FactsD] at hF); have ⟨hc, hf, hz⟩ := bcell (Gr.tr (Gr.drew _) hG); go_simp; exact hK _ (gives_val)
    apply chain_eq (D := [(64, some 5), (69, some 0)]) rfl (by kernel_rfl)
    · intro ρ W ⟨p1, p2, p3⟩ hG hF K hK; (try simp [FactsD] at hF); have ⟨hc, hf, hz⟩ := bcell (Gr.tr (Gr.drew _) hG); go_simp; exact hK _ (gives_val)
    apply chain_eq (D := [(10, none)]) rfl (by kernel_rfl)
    · intro ρ W ⟨p1, p2, p3⟩ hG hF K hK; (try simp [FactsD] at hF); have ⟨hc, hf, hz⟩ := bcell (Gr.tr (Gr.drew _) hG); go_simp; exact hK _ (gives_val)
    refine chain_done ?_
    intro vs W hG hV
    obtain ⟨e8, e7, -⟩ := hV
    simp only [Nat.reduceSub] at e7
    simp only [Nat.reduceSub] at e8
    simp only [lay, Act.put, List.getElem?_toArray, List.getElem?_cons_succ, List.getElem?_cons_zero, Option.bind_some, List.setIfInBounds_toArray, List.set_cons_succ, List.set_cons_zero]
    generalize vs 0 = v0
    generalize vs 1 = v1
    generalize vs 2 = v2
    generalize vs 3 = v3
    generalize vs 4 = v4
    generalize vs 5 = v5
    generalize vs 6 = v6
    generalize vs 7 = v7 at *
    generalize vs 8 = v8 at *
    subst e7
    subst e8
    obtain ⟨hc, hf, hz⟩ := bcell hG
    have T0 := (H10.out.grow hG).facts
    have TF := (H10.out.grow hG).free
    have CR := (HRR.out.grow hG).facts
    have FR := (HRR.out.grow hG).free
    simp only [CellsFrom, Nat.zero_add, and_true] at T0 CR
    have HWF := Lib.hid (bgr HWB.out HWB.out.size hG)
    clear hc hf hz hG
    go_wp2
    exact bodyPost_ret (v := .tuple #[.agg #[.int .i64 (imax p.ne (x / (s2 + 1) + 1)), .int .i64 (imin p.fa (y / s1))], .int .i64 0]) (by simp [results, Try.results24, go_sem, *]) rfl ⟨rfl, ((((show Below w.heap.size w W from HWF.out).setCell (by first | (simp; done) | (simp; omega) | omega) _).setCell (by first | (simp; done) | (simp; omega) | omega) _).setCell (by first | (simp; done) | (simp; omega) | omega) _)⟩
  · intro vs bs W hG hV hdj
    obtain ⟨e8, -, e6, e5, -⟩ := hV
    simp only [Nat.reduceSub, Nat.reduceEqDiff, if_false] at e5
    simp only [Nat.reduceSub, Nat.reduceEqDiff, if_false] at e6
    simp only [Nat.reduceSub, Nat.reduceEqDiff, if_false] at e8
    clear hdj
    refine wpOp_two rfl rfl ?_
    simp only [layL, Nat.reduceEqDiff, if_false, if_true, Act.put, List.getElem?_toArray, List.getElem?_cons_succ, List.getElem?_cons_zero, Option.bind_some, List.setIfInBounds_toArray, List.set_cons_succ, List.set_cons_zero, List.drop_succ_cons, List.drop_zero]
    generalize vs 0 = v0
    generalize vs 1 = v1
    generalize vs 2 = v2
    generalize vs 3 = v3
    generalize vs 4 = v4
    generalize vs 5 = v5 at *
    generalize vs 6 = v6 at *
    generalize vs 8 = v8 at *
    subst e5
    subst e6
    obtain ⟨hc, hf, hz⟩ := bcell hG
    obtain ⟨⟨b8, rfl, hb8, hb8', hB8⟩, hb8n⟩ := e8
    have hl1 : w.heap.size + 1 < b8 := by omega
    have hl0 : w.heap.size < b8 := by omega
    have m0 := Nat.ne_of_lt hl0
    have m1 := (Nat.ne_of_lt hl0).symm
    have m2 := Nat.ne_of_lt hl1
    have m3 := (Nat.ne_of_lt hl1).symm
    have hgW : Gr ((w.alloc (.cells #[.int .i64 p.fl, .int .i64 p.fh, .int .i64 p.bl, .int .i64 p.bh, .int .i64 p.ti, .int .i64 p.ne, .int .i64 p.fa, .slice (some ⟨b, o, none⟩) len cap] 26)).alloc (.cells #[.int .i64 0, .int .i64 0] 23)) W := hG
    have hP0 : Box W w.heap.size [.int .i64 p.fl, .int .i64 p.fh, .int .i64 p.bl, .int .i64 p.bh, .int .i64 p.ti, .int .i64 p.ne, .int .i64 p.fa, .slice (some ⟨b, o, none⟩) len cap] 26 := ((Box.fresh w [.int .i64 p.fl, .int .i64 p.fh, .int .i64 p.bl, .int .i64 p.bh, .int .i64 p.ti, .int .i64 p.ne, .int .i64 p.fa, .slice (some ⟨b, o, none⟩) len cap] 26).grow (Gr.alloc _ (.cells #[.int .i64 0, .int .i64 0] 23))).grow hgW
    have hR0 : Box W (w.heap.size + 1) [.int .i64 0, .int .i64 0] 23 := by
      have := (Box.fresh (w.alloc (.cells #[.int .i64 p.fl, .int .i64 p.fh, .int .i64 p.bl, .int .i64 p.bh, .int .i64 p.ti, .int .i64 p.ne, .int .i64 p.fa, .slice (some ⟨b, o, none⟩) len cap] 26)) [.int .i64 0, .int .i64 0] 23).grow hgW
      simpa using this
    have P0 := hP0.facts
    have R0 := hR0.facts
    simp only [CellsFrom, Nat.zero_add, Nat.reduceAdd, and_true] at P0 R0
    have RF := hR0.free
    obtain ⟨y0_, y1_, yf0, yf1, yl⟩ := hB8.two
    have HP0 := Lib.hid hP0
    have HR0 := Lib.hid hR0
    have HGW := Lib.hid hgW
    have HB8 := Lib.hid hB8
    clear hP0 hR0 hB8 hb8 hb8' hb8n hgW hG hc hf hz
    have X := CellsFrom.nine (HX0.out.grow hb (((Gr.alloc _ _).tr (Gr.alloc _ _)).tr HGW.out))
    simp only at X
    have hne8 : ¬ b = b8 := by omega
    have hne8' : ¬ b8 = b := by omega
    have hbW : b < W.heap.size := by have := HGW.out.size; simp at this; omega
    go_wp2_with fail
    have h8 : Box (((W.setCell ⟨b8, 0, none⟩ (.int .i64 x)).setCell ⟨b8, 1, none⟩ (.int .i64 y)).alloc (.cells #[.int .i64 xa, .int .i64 xb, .int .i64 xc, .int .i64 xd, .int .i64 xe, .int .i64 xf, .int .i64 xg, .int .i64 xh, .int .i64 xz] 47)) b8 [.int .i64 x, .int .i64 y] 23 := ((HB8.out.put 0 _).put 1 _).grow (Gr.alloc _ _)
    have hp5 : Box (((W.setCell ⟨b8, 0, none⟩ (.int .i64 x)).setCell ⟨b8, 1, none⟩ (.int .i64 y)).alloc (.cells #[.int .i64 xa, .int .i64 xb, .int .i64 xc, .int .i64 xd, .int .i64 xe, .int .i64 xf, .int .i64 xg, .int .i64 xh, .int .i64 xz] 47)) w.heap.size [.int .i64 p.fl, .int .i64 p.fh, .int .i64 p.bl, .int .i64 p.bh, .int .i64 p.ti, .int .i64 p.ne, .int .i64 p.fa, .slice (some ⟨b, o, none⟩) len cap] 26 := ((HP0.out.other m0 _ _).other m0 _ _).grow (Gr.alloc _ _)
    have hr5 : Box (((W.setCell ⟨b8, 0, none⟩ (.int .i64 x)).setCell ⟨b8, 1, none⟩ (.int .i64 y)).alloc (.cells #[.int .i64 xa, .int .i64 xb, .int .i64 xc, .int .i64 xd, .int .i64 xe, .int .i64 xf, .int .i64 xg, .int .i64 xh, .int .i64 xz] 47)) (w.heap.size + 1) [.int .i64 0, .int .i64 0] 23 := ((HR0.out.other m2 _ _).other m2 _ _).grow (Gr.alloc _ _)
    have ht5 : Box (((W.setCell ⟨b8, 0, none⟩ (.int .i64 x)).setCell ⟨b8, 1, none⟩ (.int .i64 y)).alloc (.cells #[.int .i64 xa, .int .i64 xb, .int .i64 xc, .int .i64 xd, .int .i64 xe, .int .i64 xf, .int .i64 xg, .int .i64 xh, .int .i64 xz] 47)) W.heap.size [.int .i64 xa, .int .i64 xb, .int .i64 xc, .int .i64 xd, .int .i64 xe, .int .i64 xf, .int .i64 xg, .int .i64 xh, .int .i64 xz] 47 := by
      have := Box.fresh ((W.setCell ⟨b8, 0, none⟩ (.int .i64 x)).setCell ⟨b8, 1, none⟩ (.int .i64 y)) [.int .i64 xa, .int .i64 xb, .int .i64 xc, .int .i64 xd, .int .i64 xe, .int .i64 xf, .int .i64 xg, .int .i64 xh, .int .i64 xz] 47
      simpa using this
    have hw5 : Below w.heap.size w (((W.setCell ⟨b8, 0, none⟩ (.int .i64 x)).setCell ⟨b8, 1, none⟩ (.int .i64 y)).alloc (.cells #[.int .i64 xa, .int .i64 xb, .int .i64 xc, .int .i64 xd, .int .i64 xe, .int .i64 xf, .int .i64 xg, .int .i64 xh, .int .i64 xz] 47)) := (((show Below w.heap.size w W from ((Gr.alloc _ _).tr (Gr.alloc _ _)).tr HGW.out).setCell (by first | (simp; done) | (simp; omega) | omega) _).setCell (by first | (simp; done) | (simp; omega) | omega) _).alloc (by first | (simp; done) | (simp; omega) | omega) _
    clear X hbW y0_ y1_ yf0 yf1 yl P0 R0 RF HP0 HR0 HB8 HGW
    generalize (((W.setCell ⟨b8, 0, none⟩ (.int .i64 x)).setCell ⟨b8, 1, none⟩ (.int .i64 y)).alloc (.cells #[.int .i64 xa, .int .i64 xb, .int .i64 xc, .int .i64 xd, .int .i64 xe, .int .i64 xf, .int .i64 xg, .int .i64 xh, .int .i64 xz] 47)) = W5 at *
    generalize W.heap.size = bt at *
    have C8 := h8.facts
    have CP := hp5.facts
    have CT := ht5.facts
    simp only [CellsFrom, Nat.zero_add, Nat.reduceAdd, and_true] at C8 CP CT
    have H8 := Lib.hid h8
    have HP5 := Lib.hid hp5
    have HR5 := Lib.hid hr5
    have HT5 := Lib.hid ht5
    have HW5 := Lib.hid hw5
    clear h8 hp5 hr5 ht5 hw5
    refine region2 6 ?_ ?_ ?_
    · kernel_rfl
    · kernel_rfl
    simp only [List.take_succ_cons, List.take_zero, List.drop_succ_cons, List.drop_zero]
    apply chain_eq (D := [(6, none)]) rfl (by kernel_rfl)
    · intro ρ W ⟨p1, p2, p3⟩ hG hF K hK; (try simp [FactsD] at hF); have ⟨hc, hf, hz⟩ := bcell (Gr.tr (Gr.drew _) hG); go_simp; exact hK _ (gives_val)
    apply chain_eq (D := [(2, none)]) rfl (by kernel_rfl)
    · intro ρ W ⟨p1, p2, p3⟩ hG hF K hK; (try simp [FactsD] at hF); have ⟨hc, hf, hz⟩ := bcell (Gr.tr (Gr.drew _) hG); go_simp; exact hK _ (gives_val)
    apply chain_eq (D := [(8, none)]) rfl (by kernel_rfl)
    · intro ρ W ⟨p1, p2, p3⟩ hG hF K hK; (try simp [FactsD] at hF); have ⟨hc, hf, hz⟩ := bcell (Gr.tr (Gr.drew _) hG); go_simp; exact hK _ (gives_val)
    apply chain_eq (D := [(29, some 1), (30, some 0)]) rfl (by kernel_rfl)
    · intro ρ W ⟨p1, p2, p3⟩ hG hF K hK; (try simp [FactsD] at hF); have ⟨hc, hf, hz⟩ := bcell (Gr.tr (Gr.drew _) hG); go_simp; exact hK _ (gives_call (HPT.out _ _))
    apply chain_eq (D := [(28, some 3), (31, some 0)]) rfl (by kernel_rfl)
    · intro ρ W ⟨p1, p2, p3⟩ hG hF K hK; (try simp [FactsD] at hF); have ⟨hc, hf, hz⟩ := bcell (Gr.tr (Gr.drew _) hG); go_simp; exact hK _ (gives_call (HC.out _))
    apply chain_eq (D := [(32, some 0)]) rfl (by kernel_rfl)
    · intro ρ W ⟨p1, p2, p3⟩ hG hF K hK; (try simp [FactsD] at hF); have ⟨hc, hf, hz⟩ := bcell (Gr.tr (Gr.drew _) hG); go_simp; exact hK _ (gives_call (rempty_any _ _ _))
    refine chain_done ?_
    intro vs W hG hV
    obtain ⟨e5, -⟩ := hV
    simp only [Nat.reduceSub] at e5
    simp only [lay, Act.put, List.getElem?_toArray, List.getElem?_cons_succ, List.getElem?_cons_zero, Option.bind_some, List.setIfInBounds_toArray, List.set_cons_succ, List.set_cons_zero]
    generalize vs 0 = v0
    generalize vs 1 = v1
    generalize vs 2 = v2
    generalize vs 3 = v3
    generalize vs 4 = v4
    generalize vs 5 = v5 at *
    subst e5
    obtain ⟨hc, hf, hz⟩ := bcell hG
    have C8 := (H8.out.grow hG).facts
    have CP := (HP5.out.grow hG).facts
    have CR := (HR5.out.grow hG).facts
    have FR := (HR5.out.grow hG).free
    have CT := (HT5.out.grow hG).facts
    simp only [CellsFrom, Nat.zero_add, Nat.reduceAdd, and_true] at C8 CP CR CT
    have HW6 := Lib.hid (bgr HW5.out HW5.out.size hG)
    have HG6 := Lib.hid hG
    clear hc hf hz hG
    go_wp2_with fail
    refine (HOF.out _).mono ?_
    rintro e w7 ⟨rfl, hb7⟩
    go_wp2_with fail
    refine (HCM.out _).mono ?_
    rintro e w8 ⟨rfl, hb8⟩
    have G8 := (HG6.out.tr hb7).tr hb8
    have HS9 : Box (w8.alloc (.cells #[.int .i64 s1, .int .i64 s2] 23)) w8.heap.size [.int .i64 s1, .int .i64 s2] 23 := Box.fresh w8 _ _
    have G9 := G8.tr (Gr.alloc w8 (.cells #[.int .i64 s1, .int .i64 s2] 23))
    have hw9 := bgr HW5.out HW5.out.size G9
    have hb8l : b8 < w8.heap.size := (H8.out.grow G8).lt
    have hpl : w.heap.size + 1 < w8.heap.size := (HR5.out.grow G8).lt
    have HW8S := Lib.hid (show w8.heap.size < (w8.alloc (.cells #[.int .i64 s1, .int .i64 s2] 23)).heap.size by simp)
    clear C8 CP CR FR CT hb7 hb8 G8
    go_wp2_with fail
    generalize w8.alloc (.cells #[.int .i64 s1, .int .i64 s2] 23) = W9 at *
    generalize w8.heap.size = b9 at *
    have C8 := (H8.out.grow G9).facts
    have CP := (HP5.out.grow G9).facts
    have CR := (HR5.out.grow G9).facts
    have FR := (HR5.out.grow G9).free
    simp only [CellsFrom, Nat.zero_add, Nat.reduceAdd, and_true] at C8 CP CR
    have C9 := HS9.facts
    simp only [CellsFrom, Nat.zero_add, and_true] at C9
    have H9 := Lib.hid HS9
    have HG9 := Lib.hid G9
    have HW9 := Lib.hid hw9
    have hb9 := HW8S.out
    clear HS9 G9 hw9
    refine regionB 14 ?_ ?_ ?_
    · kernel_rfl
    · kernel_rfl
    simp only [List.take_succ_cons, List.take_zero, List.drop_succ_cons, List.drop_zero]
    apply chainB_eq (D := [(2, none)]) rfl (by kernel_rfl)
    · intro ρ W ⟨p1, p2, p3⟩ hG hF K hK; (try simp [FactsD] at hF); have ⟨hc, hf, hz⟩ := bcell (Gr.tr (Gr.drew _) hG); go_simp; exact hK _ (gives_val)
    apply chainB_eq (D := [(47, some 0)]) rfl (by kernel_rfl)
    · intro ρ W ⟨p1, p2, p3⟩ hG hF K hK; (try simp [FactsD, exB] at hF); have ⟨hc, hf, hz⟩ := bcell (Gr.tr (Gr.drew _) hG); go_simp; exact hK _ (gives_val)
    apply chainB_eq (D := [(6, none)]) rfl (by kernel_rfl)
    · intro ρ W ⟨p1, p2, p3⟩ hG hF K hK; (try simp [FactsD] at hF); have ⟨hc, hf, hz⟩ := bcell (Gr.tr (Gr.drew _) hG); go_simp; exact hK _ (gives_val)
    apply chainB_eq (D := [(49, some 0)]) rfl (by kernel_rfl)
    · intro ρ W ⟨p1, p2, p3⟩ hG hF K hK; (try simp [FactsD, exB] at hF); have ⟨hc, hf, hz⟩ := bcell (Gr.tr (Gr.drew _) hG); go_simp; exact hK _ (gives_val)
    apply chainB_eq (D := [(9, none)]) rfl (by kernel_rfl)
    · intro ρ W ⟨p1, p2, p3⟩ hG hF K hK; (try simp [FactsD] at hF); have ⟨hc, hf, hz⟩ := bcell (Gr.tr (Gr.drew _) hG); go_simp; exact hK _ (gives_val)
    apply chainB_eq (D := [(51, some 0)]) rfl (by kernel_rfl)
    · intro ρ W ⟨p1, p2, p3⟩ hG hF K hK; (try simp [FactsD, exB] at hF); have ⟨hc, hf, hz⟩ := bcell (Gr.tr (Gr.drew _) hG); go_simp; exact hK _ (gives_val)
    apply chainB_eq (D := [(52, some 0)]) rfl (by kernel_rfl)
    · intro ρ W ⟨p1, p2, p3⟩ hG hF K hK; (try simp [FactsD, exB] at hF); have ⟨hc, hf, hz⟩ := bcell (Gr.tr (Gr.drew _) hG); go_simp; exact hK _ (gives_val)
    apply chainB_eq (D := [(50, some 3), (53, some 0)]) rfl (by kernel_rfl)
    · intro ρ W ⟨p1, p2, p3⟩ hG hF K hK; (try simp [FactsD, exB] at hF); have ⟨hc, hf, hz⟩ := bcell (Gr.tr (Gr.drew _) hG); go_simp; exact hK _ (gives_val)
    apply chainB_eq (D := [(54, some 0)]) rfl (by kernel_rfl)
    · intro ρ W ⟨p1, p2, p3⟩ hG hF K hK; (try simp [FactsD, exB] at hF); have ⟨hc, hf, hz⟩ := bcell (Gr.tr (Gr.drew _) hG); go_simp; exact hK _ (gives_val)
    apply chainB_eq (D := [(48, some 7), (55, some 0)]) rfl (by kernel_rfl)
    · intro ρ W ⟨p1, p2, p3⟩ hG hF K hK; (try simp [FactsD, exB] at hF); have ⟨hc, hf, hz⟩ := bcell (Gr.tr (Gr.drew _) hG); go_simp; exact hK _ (gives_val)
    apply chainB_eq (D := [(2, none)]) rfl (by kernel_rfl)
    · intro ρ W ⟨p1, p2, p3⟩ hG hF K hK; (try simp [FactsD] at hF); have ⟨hc, hf, hz⟩ := bcell (Gr.tr (Gr.drew _) hG); go_simp; exact hK _ (gives_val)
    apply chainB_eq (D := [(57, some 0)]) rfl (by kernel_rfl)
    · intro ρ W ⟨p1, p2, p3⟩ hG hF K hK; (try simp [FactsD, exB] at hF); have ⟨hc, hf, hz⟩ := bcell (Gr.tr (Gr.drew _) hG); go_simp; exact hK _ (gives_val)
    apply chainB_eq (D := [(56, some 2), (58, some 0)]) rfl (by kernel_rfl)
    · intro ρ W ⟨p1, p2, p3⟩ hG hF K hK; (try simp [FactsD, exB] at hF); have ⟨hc, hf, hz⟩ := bcell (Gr.tr (Gr.drew _) hG); go_simp; exact hK _ (gives_val)
    refine chainB_any (V := fun p v W' => NewB [.int .i64 0, .int .i64 0] 23 p v W' ∧ W9.heap.size ≤ p.1) (D := []) rfl (by kernel_rfl) (fun p v A B h hg => ⟨NewB.lasts _ _ p v A B h.1 hg, h.2⟩) ?_ ?_
    · intro ρ W ⟨p1, p2, p3⟩ hG hF K hK; (try simp [FactsD] at hF); have ⟨hc, hf, hz⟩ := bcell (Gr.tr (Gr.drew _) hG); go_simp; exact hK _ (⟨⟨NewB.new _ _ _, by have := hG.size; simpa using this⟩, Gr.alloc _ _⟩)
    refine chainB_done ?_
    intro vs bs W hG hV hdj
    obtain ⟨e13, e12, -⟩ := hV
    simp only [Nat.reduceSub] at e12
    simp only [Nat.reduceSub] at e13
    clear hdj
    simp only [lay, Act.put, List.getElem?_toArray, List.getElem?_cons_succ, List.getElem?_cons_zero, Option.bind_some, List.setIfInBounds_toArray, List.set_cons_succ, List.set_cons_zero]
    generalize vs 0 = v0
    generalize vs 1 = v1
    generalize vs 2 = v2
    generalize vs 3 = v3
    generalize vs 4 = v4
    generalize vs 5 = v5
    generalize vs 6 = v6
    generalize vs 7 = v7
    generalize vs 8 = v8
    generalize vs 9 = v9
    generalize vs 10 = v10
    generalize vs 11 = v11
    generalize vs 12 = v12 at *
    generalize vs 13 = v13 at *
    subst e12
    obtain ⟨hc, hf, hz⟩ := bcell hG
    obtain ⟨⟨b10, rfl, hq1, hq2, hB10⟩, hq3⟩ := e13
    have l9 : b9 < b10 := by omega
    have l8 : b8 < b10 := by omega
    have l1 : w.heap.size + 1 < b10 := by omega
    have l0 : w.heap.size < b10 := by omega
    have n9 := Nat.ne_of_lt l9
    have n9' := (Nat.ne_of_lt l9).symm
    have n8 := Nat.ne_of_lt l8
    have n8' := (Nat.ne_of_lt l8).symm
    have n1 := Nat.ne_of_lt l1
    have n1' := (Nat.ne_of_lt l1).symm
    have n0 := Nat.ne_of_lt l0
    have n0' := (Nat.ne_of_lt l0).symm
    have T0 := hB10.facts
    have TF := hB10.free
    have C9 := (H9.out.grow hG).facts
    have C8 := ((H8.out.grow HG9.out).grow hG).facts
    have CP := ((HP5.out.grow HG9.out).grow hG).facts
    have CR := ((HR5.out.grow HG9.out).grow hG).facts
    have FR := ((HR5.out.grow HG9.out).grow hG).free
    simp only [CellsFrom, Nat.zero_add, Nat.reduceAdd, and_true] at T0 C9 C8 CP CR
    have HWW := Lib.hid (bgr HW9.out HW9.out.size hG)
    have HB10 := Lib.hid hB10
    have HG10 := Lib.hid hG
    clear hc hf hz hG hB10 hq1 hq2 hq3
    go_wp2_with fail
    have h10 : Box ((W.setCell ⟨b10, 0, none⟩ (.int .i64 (imax p.ne (x / (s2 + 1) + 1)))).setCell ⟨b10, 1, none⟩ (.int .i64 p.fa)) b10 [.int .i64 (imax p.ne (x / (s2 + 1) + 1)), .int .i64 p.fa] 23 := (HB10.out.put 0 _).put 1 _
    have h9 : Box ((W.setCell ⟨b10, 0, none⟩ (.int .i64 (imax p.ne (x / (s2 + 1) + 1)))).setCell ⟨b10, 1, none⟩ (.int .i64 p.fa)) b9 [.int .i64 s1, .int .i64 s2] 23 := ((H9.out.grow HG10.out).other n9 _ _).other n9 _ _
    have h8 : Box ((W.setCell ⟨b10, 0, none⟩ (.int .i64 (imax p.ne (x / (s2 + 1) + 1)))).setCell ⟨b10, 1, none⟩ (.int .i64 p.fa)) b8 [.int .i64 x, .int .i64 y] 23 := (((H8.out.grow HG9.out).grow HG10.out).other n8 _ _).other n8 _ _
    have hr : Box ((W.setCell ⟨b10, 0, none⟩ (.int .i64 (imax p.ne (x / (s2 + 1) + 1)))).setCell ⟨b10, 1, none⟩ (.int .i64 p.fa)) (w.heap.size + 1) [.int .i64 0, .int .i64 0] 23 := (((HR5.out.grow HG9.out).grow HG10.out).other n1 _ _).other n1 _ _
    have hww : Below w.heap.size w ((W.setCell ⟨b10, 0, none⟩ (.int .i64 (imax p.ne (x / (s2 + 1) + 1)))).setCell ⟨b10, 1, none⟩ (.int .i64 p.fa)) := ((show Below w.heap.size w W from HWW.out).setCell (by first | (simp; done) | (simp; omega) | omega) _).setCell (by first | (simp; done) | (simp; omega) | omega) _
    clear T0 TF C9 C8 CP CR FR
    generalize ((W.setCell ⟨b10, 0, none⟩ (.int .i64 (imax p.ne (x / (s2 + 1) + 1)))).setCell ⟨b10, 1, none⟩ (.int .i64 p.fa)) = Wb at *
    have T0 := h10.facts
    have C9 := h9.facts
    have C8 := h8.facts
    simp only [CellsFrom, Nat.zero_add, and_true] at T0 C9 C8
    have H10 := Lib.hid h10
    have HRR := Lib.hid hr
    have HWB := Lib.hid hww
    clear h10 h9 h8 hr hww
    refine region2 9 ?_ ?_ ?_
    · kernel_rfl
    · kernel_rfl
    simp only [List.take_succ_cons, List.take_zero, List.drop_succ_cons, List.drop_zero]
    apply chain_eq (D := [(10, none)]) rfl (by kernel_rfl)
    · intro ρ W ⟨p1, p2, p3⟩ hG hF K hK; (try simp [FactsD] at hF); have ⟨hc, hf, hz⟩ := bcell (Gr.tr (Gr.drew _) hG); go_simp; exact hK _ (gives_val)
    apply chain_eq (D := [(63, some 0)]) rfl (by kernel_rfl)
    · intro ρ W ⟨p1, p2, p3⟩ hG hF K hK; (try simp [FactsD] at hF); have ⟨hc, hf, hz⟩ := bcell (Gr.tr (Gr.drew _) hG); go_simp; exact hK _ (gives_val)
    apply chain_eq (D := [(6, none)]) rfl (by kernel_rfl)
    · intro ρ W ⟨p1, p2, p3⟩ hG hF K hK; (try simp [FactsD] at hF); have ⟨hc, hf, hz⟩ := bcell (Gr.tr (Gr.drew _) hG); go_simp; exact hK _ (gives_val)
    apply chain_eq (D := [(65, some 0)]) rfl (by kernel_rfl)
    · intro ρ W ⟨p1, p2, p3⟩ hG hF K hK; (try simp [FactsD] at hF); have ⟨hc, hf, hz⟩ := bcell (Gr.tr (Gr.drew _) hG); go_simp; exact hK _ (gives_val)
    apply chain_eq (D := [(9, none)]) rfl (by kernel_rfl)
    · intro ρ W ⟨p1, p2, p3⟩ hG hF K hK; (try simp [FactsD] at hF); have ⟨hc, hf, hz⟩ := bcell (Gr.tr (Gr.drew _) hG); go_simp; exact hK _ (gives_val)
    apply chain_eq (D := [(67, some 0)]) rfl (by kernel_rfl)
    · intro ρ W ⟨p1, p2, p3⟩ hG hF K hK; (try simp [FactsD] at hF); have ⟨hc, hf, hz⟩ := bcell (Gr.tr (Gr.drew _) hG); go_simp; exact hK _ (gives_val)
    apply chain_eq (D := [(66, some 2), (68, some 0)]) rfl (by kernel_rfl)
    · intro ρ W ⟨p1, p2, p3⟩ hG hF K hK; (try simp [FactsD] at hF); have ⟨hc, hf, hz⟩ := bcell (Gr.tr (Gr.drew _) hG); go_simp; exact hK _ (gives_val)
    apply chain_eq (D := [(64, some 5), (69, some 0)]) rfl (by kernel_rfl)
    · intro ρ W ⟨p1, p2, p3⟩ hG hF K hK; (try simp [FactsD] at hF); have ⟨hc, hf, hz⟩ := bcell (Gr.tr (Gr.drew _) hG); go_simp; exact hK _ (gives_val)
    apply chain_eq (D := [(10, none)]) rfl (by kernel_rfl)
    · intro ρ W ⟨p1, p2, p3⟩ hG hF K hK; (try simp [FactsD] at hF); have ⟨hc, hf, hz⟩ := bcell (Gr.tr (Gr.drew _) hG); go_simp; exact hK _ (gives_val)
    refine chain_done ?_
    intro vs W hG hV
    obtain ⟨e8, e7, -⟩ := hV
    simp only [Nat.reduceSub] at e7
    simp only [Nat.reduceSub] at e8
    simp only [lay, Act.put, List.getElem?_toArray, List.getElem?_cons_succ, List.getElem?_cons_zero, Option.bind_some, List.setIfInBounds_toArray, List.set_cons_succ, List.set_cons_zero]
    generalize vs 0 = v0
    generalize vs 1 = v1
    generalize vs 2 = v2
    generalize vs 3 = v3
    generalize vs 4 = v4
    generalize vs 5 = v5
    generalize vs 6 = v6
    generalize vs 7 = v7 at *
    generalize vs 8 = v8 at *
    subst e7
    subst e8
    obtain ⟨hc, hf, hz⟩ := bcell hG
    have T0 := (H10.out.grow hG).facts
    have TF := (H10.out.grow hG).free
    have CR := (HRR.out.grow hG).facts
    have FR := (HRR.out.grow hG).free
    simp only [CellsFrom, Nat.zero_add, and_true] at T0 CR
    have HWF := Lib.hid (bgr HWB.out HWB.out.size hG)
    clear hc hf hz hG
    go_wp2
    exact bodyPost_ret (v := .tuple #[.agg #[.int .i64 (imax p.ne (x / (s2 + 1) + 1)), .int .i64 (imin p.fa (y / s1))], .int .i64 0]) (by simp [results, Try.results24, go_sem, *]) rfl ⟨rfl, ((((show Below w.heap.size w W from HWF.out).setCell (by first | (simp; done) | (simp; omega) | omega) _).setCell (by first | (simp; done) | (simp; omega) | omega) _).setCell (by first | (simp; done) | (simp; omega) | omega) _)⟩

end Go.Proofs.Ytofdoadpaedogaa
