import Derived.Test.YtofdoadpaedogaaFd
namespace Go.Proofs.Ytofdoadpaedogaa
open Go.RowKit

set_option maxRecDepth 100000 in
set_option maxHeartbeats 4000000 in
theorem rwhy_behind (p : Pr) (sp : Option Addr) (len cap : Nat) (n : Nat) (xa xb xc xd xe xf xg xh xz x y q1 q2 : Int) (w : World) (hT : ThingsAt p.l (.slice sp len cap) w) (hl : len ≤ 1000) (hk : Hid ((decide (0 ≤ (n : Int)) && decide ((n : Int) < (len : Int))) = true)) (hkl : n < len) (HK : Hid (p.l[n]? = some ⟨xa, xb, xc, xd, xe, xf, xg, xh, xz⟩)) (ho : Hid (p.ropen true = (x, y, 0))) (HPT : Hid (∀ (v : Value) (w : World), Calls Try.prog 59 #[.agg #[.int .i64 p.fl, .int .i64 p.fh, .int .i64 p.bl, .int .i64 p.bh, .int .i64 p.ti, .int .i64 p.ne, .int .i64 p.fa, v], .agg #[.int .i64 xa, .int .i64 xb, .int .i64 xc, .int .i64 xd, .int .i64 xe, .int .i64 xf, .int .i64 xg, .int .i64 xh, .int .i64 xz]] w fun e w' => e = .returned (.agg #[.int .i64 q1, .int .i64 q2]) ∧ Below w.heap.size w w')) (hem : decide ((ovl (x, y) (q1, q2)).2 < (ovl (x, y) (q1, q2)).1) = true) (bd : -4000 ≤ xd ∧ xd ≤ 4000) (bh : -4000 ≤ xh ∧ xh ≤ 4000) (bt : 0 ≤ p.ti ∧ p.ti ≤ 1000) (hlv : (decide (xc ≤ xh + p.ti) && decide (xg ≤ xd + p.ti)) = true) (ba : -4000 ≤ xa ∧ xa ≤ 4000) (bb : -4000 ≤ xb ∧ xb ≤ 4000) (be : -4000 ≤ xe ∧ xe ≤ 4000) (bf : -4000 ≤ xf ∧ xf ≤ 4000) (bn : 0 ≤ p.ne ∧ p.ne ≤ 1073741824) (h1 : decide (xb - xe < 0) = true) :
    Calls Try.prog 22 #[.agg #[.int .i64 p.fl, .int .i64 p.fh, .int .i64 p.bl, .int .i64 p.bh, .int .i64 p.ti, .int .i64 p.ne, .int .i64 p.fa, .slice sp len cap], .int .i64 n] w fun e w' => e = .returned (.tuple #[.int .i64 2, .int .i64 0]) ∧ Below w.heap.size w w' := by
  have TH := Lib.hid (fun (W : World) (hg : Gr (w.alloc (.cells #[.int .i64 p.fl, .int .i64 p.fh, .int .i64 p.bl, .int .i64 p.bh, .int .i64 p.ti, .int .i64 p.ne, .int .i64 p.fa, .slice sp len cap] 26)) W) => ThingsAt.lasts p.l _ _ _ hT ((Gr.alloc _ _).tr hg))
  have hal := @cal
  have hT2 := hT.2
  rcases hT2 with ⟨e, -⟩ | ⟨b, o, cap', hsp, hb, hcx⟩
  · have := HK.out; rw [e] at this; cases this
  obtain ⟨hsp1, -, -⟩ : sp = some ⟨b, o, none⟩ ∧ len = p.l.length ∧ cap = cap' := by simpa using hsp
  subst hsp1
  have HX0 := Lib.hid (hcx n _ HK.out)
  have HLV : Hid (∀ W : World, Calls Try.prog 60 #[.agg #[.int .i64 xa, .int .i64 xb, .int .i64 xc, .int .i64 xd, .int .i64 xe, .int .i64 xf, .int .i64 xg, .int .i64 xh, .int .i64 xz], .int .i64 p.ti] W fun e w' => e = .returned (.bool true) ∧ Below W.heap.size W w') := Lib.hid fun W => by
    have := rlevel_any xa xb xc xd xe xf xg xh xz p.ti W bd bh bt
    rwa [hlv] at this
  clear hlv
  obtain ⟨o1, o2, hov⟩ : ∃ o1 o2, ovl (x, y) (q1, q2) = (o1, o2) := ⟨_, _, rfl⟩
  have HC : Hid (∀ W : World, Calls Try.prog 58 #[.agg #[.int .i64 x, .int .i64 y], .agg #[.int .i64 q1, .int .i64 q2]] W fun e w' => e = .returned (.agg #[.int .i64 o1, .int .i64 o2]) ∧ Below W.heap.size W w') := Lib.hid fun W => by
    have := rcommon_any x y q1 q2 W
    rwa [hov] at this
  rw [hov] at hem
  simp only at hem
  clear hT hcx hsp hov
  go_enter Try.func22, Try.ntmps22
  go_wp2_with fail
  refine regionL 9 7 ?_ ?_ ?_
  · kernel_rfl
  · kernel_rfl
  simp only [List.take_succ_cons, List.take_zero, List.drop_succ_cons, List.drop_zero]
  apply chainB_eq (D := [(2, none)]) rfl (by kernel_rfl)
  · intro ρ W ⟨p1, p2, p3⟩ hG hF K hK; (try simp [FactsD] at hF); have ⟨hc, hf, hz⟩ := bcell (Gr.tr (Gr.drew _) hG); go_simp; exact hK _ (gives_val)
  apply chainB_eq (D := [(2, none)]) rfl (by kernel_rfl)
  · intro ρ W ⟨p1, p2, p3⟩ hG hF K hK; (try simp [FactsD] at hF); have ⟨hc, hf, hz⟩ := bcell (Gr.tr (Gr.drew _) hG); go_simp; exact hK _ (gives_val)
  apply chainB_eq (D := [(1, none)]) rfl (by kernel_rfl)
  · intro ρ W ⟨p1, p2, p3⟩ hG hF K hK; (try simp [FactsD] at hF); have ⟨hc, hf, hz⟩ := bcell (Gr.tr (Gr.drew _) hG); go_simp; exact hK _ (gives_val)
  apply chainB_eq (D := [(12, some 1), (13, some 0)]) rfl (by kernel_rfl)
  · intro ρ W ⟨p1, p2, p3⟩ hG hF K hK; (try simp [FactsD, exB] at hF); have ⟨hc, hf, hz⟩ := bcell (Gr.tr (Gr.drew _) hG); go_simp; exact hK _ (gives_call (rthing_is hl hk.out))
  apply chainB_eq (D := [(11, some 3), (14, some 0)]) rfl (by kernel_rfl)
  · intro ρ W ⟨p1, p2, p3⟩ hG hF K hK; (try simp [FactsD, exB] at hF); have ⟨hc, hf, hz⟩ := bcell (Gr.tr (Gr.drew _) hG); go_simp; exact hK _ (gives_call (ropen_is ho.out (TH.out _ ((Gr.drew _).tr hG))))
  apply chainB_eq (D := [(15, some 0)]) rfl (by kernel_rfl)
  · intro ρ W ⟨p1, p2, p3⟩ hG hF K hK; (try simp [FactsD, exB] at hF); have ⟨hc, hf, hz⟩ := bcell (Gr.tr (Gr.drew _) hG); go_simp; exact hK _ (gives_val)
  apply chainB_eq (D := [(10, some 0)]) rfl (by kernel_rfl)
  · intro ρ W ⟨p1, p2, p3⟩ hG hF K hK; (try simp [FactsD, exB] at hF); have ⟨hc, hf, hz⟩ := bcell (Gr.tr (Gr.drew _) hG); go_simp; exact hK _ (gives_val)
  apply chainB_eq (D := [(10, some 1)]) rfl (by kernel_rfl)
  · intro ρ W ⟨p1, p2, p3⟩ hG hF K hK; (try simp [FactsD, exB] at hF); have ⟨hc, hf, hz⟩ := bcell (Gr.tr (Gr.drew _) hG); go_simp; exact hK _ (gives_val)
  refine chainB_any (V := fun p v W' => NewB [.int .i64 0, .int .i64 0] 23 p v W' ∧ w.heap.size + 1 ≤ p.1) (D := []) rfl (by kernel_rfl) (fun p v A B h hg => ⟨NewB.lasts _ _ p v A B h.1 hg, h.2⟩) ?_ ?_
  · intro ρ W ⟨p1, p2, p3⟩ hG hF K hK; (try simp [FactsD] at hF); have ⟨hc, hf, hz⟩ := bcell (Gr.tr (Gr.drew _) hG); go_simp; exact hK _ (⟨⟨NewB.new _ _ _, by have := hG.size; simpa using this⟩, Gr.alloc _ _⟩)
  refine chainB_done ⟨?_, ?_⟩
  · intro vs bs W hG hV hdj
    obtain ⟨e8, e7, e6, -⟩ := hV
    simp only [Nat.reduceSub] at e6
    simp only [Nat.reduceSub] at e7
    simp only [Nat.reduceSub] at e8
    clear hdj
    simp only [lay, Act.put, List.getElem?_toArray, List.getElem?_cons_succ, List.getElem?_cons_zero, Option.bind_some, List.setIfInBounds_toArray, List.set_cons_succ, List.set_cons_zero]
    generalize vs 0 = v0
    generalize vs 1 = v1
    generalize vs 2 = v2
    generalize vs 3 = v3
    generalize vs 4 = v4
    generalize vs 5 = v5
    generalize vs 6 = v6 at *
    generalize vs 7 = v7 at *
    generalize vs 8 = v8 at *
    subst e6
    subst e7
    obtain ⟨hc, hf, hz⟩ := bcell hG
    obtain ⟨⟨b8, rfl, hb8, hb8', hB8⟩, hb8n⟩ := e8
    have hl0 : w.heap.size < b8 := by omega
    have m0 := Nat.ne_of_lt hl0
    have m1 := (Nat.ne_of_lt hl0).symm
    have hgW : Gr (w.alloc (.cells #[.int .i64 p.fl, .int .i64 p.fh, .int .i64 p.bl, .int .i64 p.bh, .int .i64 p.ti, .int .i64 p.ne, .int .i64 p.fa, .slice (some ⟨b, o, none⟩) len cap] 26)) W := hG
    have P0 := ((Box.fresh w [.int .i64 p.fl, .int .i64 p.fh, .int .i64 p.bl, .int .i64 p.bh, .int .i64 p.ti, .int .i64 p.ne, .int .i64 p.fa, .slice (some ⟨b, o, none⟩) len cap] 26).grow hgW).facts
    simp only [CellsFrom, Nat.zero_add, Nat.reduceAdd, and_true] at P0
    obtain ⟨y0_, y1_, yf0, yf1, yl⟩ := hB8.two
    have HGW := Lib.hid hgW
    have HB8 := Lib.hid hB8
    clear hB8 hb8 hb8' hb8n hgW hG hc hf hz
    have X := CellsFrom.nine (HX0.out.grow hb ((Gr.alloc _ _).tr HGW.out))
    simp only at X
    have hne8 : ¬ b = b8 := by omega
    have hne8' : ¬ b8 = b := by omega
    have hbW : b < W.heap.size := Nat.lt_of_lt_of_le hb (Nat.le_trans (Nat.le_succ _) (by have := HGW.out.size; simpa using this))
    go_wp2_with fail
    have h8 : Box (((W.setCell ⟨b8, 0, none⟩ (.int .i64 x)).setCell ⟨b8, 1, none⟩ (.int .i64 y)).alloc (.cells #[.int .i64 xa, .int .i64 xb, .int .i64 xc, .int .i64 xd, .int .i64 xe, .int .i64 xf, .int .i64 xg, .int .i64 xh, .int .i64 xz] 47)) b8 [.int .i64 x, .int .i64 y] 23 := ((HB8.out.put 0 _).put 1 _).grow (Gr.alloc _ _)
    have hp5 : Box (((W.setCell ⟨b8, 0, none⟩ (.int .i64 x)).setCell ⟨b8, 1, none⟩ (.int .i64 y)).alloc (.cells #[.int .i64 xa, .int .i64 xb, .int .i64 xc, .int .i64 xd, .int .i64 xe, .int .i64 xf, .int .i64 xg, .int .i64 xh, .int .i64 xz] 47)) w.heap.size [.int .i64 p.fl, .int .i64 p.fh, .int .i64 p.bl, .int .i64 p.bh, .int .i64 p.ti, .int .i64 p.ne, .int .i64 p.fa, .slice (some ⟨b, o, none⟩) len cap] 26 := ((((Box.fresh w [.int .i64 p.fl, .int .i64 p.fh, .int .i64 p.bl, .int .i64 p.bh, .int .i64 p.ti, .int .i64 p.ne, .int .i64 p.fa, .slice (some ⟨b, o, none⟩) len cap] 26).grow HGW.out).other m0 _ _).other m0 _ _).grow (Gr.alloc _ _)
    have ht5 : Box (((W.setCell ⟨b8, 0, none⟩ (.int .i64 x)).setCell ⟨b8, 1, none⟩ (.int .i64 y)).alloc (.cells #[.int .i64 xa, .int .i64 xb, .int .i64 xc, .int .i64 xd, .int .i64 xe, .int .i64 xf, .int .i64 xg, .int .i64 xh, .int .i64 xz] 47)) W.heap.size [.int .i64 xa, .int .i64 xb, .int .i64 xc, .int .i64 xd, .int .i64 xe, .int .i64 xf, .int .i64 xg, .int .i64 xh, .int .i64 xz] 47 := by
      have := Box.fresh ((W.setCell ⟨b8, 0, none⟩ (.int .i64 x)).setCell ⟨b8, 1, none⟩ (.int .i64 y)) [.int .i64 xa, .int .i64 xb, .int .i64 xc, .int .i64 xd, .int .i64 xe, .int .i64 xf, .int .i64 xg, .int .i64 xh, .int .i64 xz] 47
      simpa using this
    have hw5 : Below w.heap.size w (((W.setCell ⟨b8, 0, none⟩ (.int .i64 x)).setCell ⟨b8, 1, none⟩ (.int .i64 y)).alloc (.cells #[.int .i64 xa, .int .i64 xb, .int .i64 xc, .int .i64 xd, .int .i64 xe, .int .i64 xf, .int .i64 xg, .int .i64 xh, .int .i64 xz] 47)) := (((show Below w.heap.size w W from (Gr.alloc _ _).tr HGW.out).setCell (by first | (simp; done) | (simp; omega) | omega) _).setCell (by first | (simp; done) | (simp; omega) | omega) _).alloc (by first | (simp; done) | (simp; omega) | omega) _
    clear X hbW y0_ y1_ yf0 yf1 P0 HB8 HGW
    generalize (((W.setCell ⟨b8, 0, none⟩ (.int .i64 x)).setCell ⟨b8, 1, none⟩ (.int .i64 y)).alloc (.cells #[.int .i64 xa, .int .i64 xb, .int .i64 xc, .int .i64 xd, .int .i64 xe, .int .i64 xf, .int .i64 xg, .int .i64 xh, .int .i64 xz] 47)) = W5 at *
    generalize W.heap.size = bt at *
    have C8 := h8.facts
    have CP := hp5.facts
    have CT := ht5.facts
    simp only [CellsFrom, Nat.zero_add, Nat.reduceAdd, and_true] at C8 CP CT
    have H8 := Lib.hid h8
    have HP5 := Lib.hid hp5
    have HT5 := Lib.hid ht5
    have HW5 := Lib.hid hw5
    clear h8 hp5 ht5 hw5
    refine region2 7 ?_ ?_ ?_
    · kernel_rfl
    · kernel_rfl
    simp only [List.take_succ_cons, List.take_zero, List.drop_succ_cons, List.drop_zero]
    apply chain_eq (D := [(6, none)]) rfl (by kernel_rfl)
    · intro ρ W ⟨p1, p2, p3⟩ hG hF K hK; (try simp [FactsD] at hF); have ⟨hc, hf, hz⟩ := bcell (Gr.tr (Gr.drew _) hG); go_simp; exact hK _ (gives_val)
    apply chain_eq (D := [(2, none)]) rfl (by kernel_rfl)
    · intro ρ W ⟨p1, p2, p3⟩ hG hF K hK; (try simp [FactsD] at hF); have ⟨hc, hf, hz⟩ := bcell (Gr.tr (Gr.drew _) hG); go_simp; exact hK _ (gives_val)
    apply chain_eq (D := [(8, none)]) rfl (by kernel_rfl)
    · intro ρ W ⟨p1, p2, p3⟩ hG hF K hK; (try simp [FactsD] at hF); have ⟨hc, hf, hz⟩ := bcell (Gr.tr (Gr.drew _) hG); go_simp; exact hK _ (gives_val)
    apply chain_eq (D := [(27, some 1), (28, some 0)]) rfl (by kernel_rfl)
    · intro ρ W ⟨p1, p2, p3⟩ hG hF K hK; (try simp [FactsD] at hF); have ⟨hc, hf, hz⟩ := bcell (Gr.tr (Gr.drew _) hG); go_simp; exact hK _ (gives_call (HPT.out _ _))
    apply chain_eq (D := [(26, some 3), (29, some 0)]) rfl (by kernel_rfl)
    · intro ρ W ⟨p1, p2, p3⟩ hG hF K hK; (try simp [FactsD] at hF); have ⟨hc, hf, hz⟩ := bcell (Gr.tr (Gr.drew _) hG); go_simp; exact hK _ (gives_call (HC.out _))
    apply chain_eq (D := [(30, some 0)]) rfl (by kernel_rfl)
    · intro ρ W ⟨p1, p2, p3⟩ hG hF K hK; (try simp [FactsD] at hF); have ⟨hc, hf, hz⟩ := bcell (Gr.tr (Gr.drew _) hG); go_simp; exact hK _ (gives_call (rempty_any _ _ _))
    apply chain_eq (D := [(31, some 0)]) rfl (by kernel_rfl)
    · intro ρ W ⟨p1, p2, p3⟩ hG hF K hK; (try simp [FactsD] at hF); have ⟨hc, hf, hz⟩ := bcell (Gr.tr (Gr.drew _) hG); go_simp; exact hK _ (gives_val)
    refine chain_done ?_
    intro vs W hG hV
    obtain ⟨e6, -⟩ := hV
    simp only [Nat.reduceSub] at e6
    simp only [lay, Act.put, List.getElem?_toArray, List.getElem?_cons_succ, List.getElem?_cons_zero, Option.bind_some, List.setIfInBounds_toArray, List.set_cons_succ, List.set_cons_zero]
    generalize vs 0 = v0
    generalize vs 1 = v1
    generalize vs 2 = v2
    generalize vs 3 = v3
    generalize vs 4 = v4
    generalize vs 5 = v5
    generalize vs 6 = v6 at *
    subst e6
    obtain ⟨hc, hf, hz⟩ := bcell hG
    have C8 := (H8.out.grow hG).facts
    have CP := (HP5.out.grow hG).facts
    have CT := (HT5.out.grow hG).facts
    simp only [CellsFrom, Nat.zero_add, Nat.reduceAdd, and_true] at C8 CP CT
    have HW6 := Lib.hid (bgr HW5.out HW5.out.size hG)
    have HG6 := Lib.hid hG
    clear hc hf hz hG
    go_wp2_with fail
    refine (HLV.out _).mono ?_
    rintro e w6 ⟨rfl, hb6⟩
    have C8' := (((H8.out.grow HG6.out).grow hb6)).facts
    have CP' := (((HP5.out.grow HG6.out).grow hb6)).facts
    have CT' := (((HT5.out.grow HG6.out).grow hb6)).facts
    simp only [CellsFrom, Nat.zero_add, Nat.reduceAdd, and_true] at C8' CP' CT'
    clear C8 CP CT
    go_wp2_with fail
    refine (rof_any xa xb xc xd xe xf xg xh xz w6 ba bb be bf).mono ?_
    rintro e w7 ⟨rfl, hb7⟩
    have C9 := ((((H8.out.grow HG6.out).grow hb6)).grow hb7).facts
    have CQ := ((((HP5.out.grow HG6.out).grow hb6)).grow hb7).facts
    simp only [CellsFrom, Nat.zero_add, Nat.reduceAdd, and_true] at C9 CQ
    obtain ⟨m0', m1'⟩ := mulb (a := xa - xf) (b := p.ne) (by omega) (by omega) bn.1 bn.2
    obtain ⟨ba0, ba1⟩ := ba
    obtain ⟨bb0, bb1⟩ := bb
    obtain ⟨be0, be1⟩ := be
    obtain ⟨bf0, bf1⟩ := bf
    have HW7 := Lib.hid (bgr (bgr HW6.out HW6.out.size hb6) (bgr HW6.out HW6.out.size hb6).size hb7)
    clear C8' CP' CT' hb6 hb7
    go_wp2
    go_ret2
    exact ⟨rfl, HW7.out.alloc (by have := HW7.out.size; omega) _⟩
  · intro vs bs W hG hV hdj
    obtain ⟨e8, -, e6, e5, -⟩ := hV
    simp only [Nat.reduceSub, Nat.reduceEqDiff, if_false] at e5
    simp only [Nat.reduceSub, Nat.reduceEqDiff, if_false] at e6
    simp only [Nat.reduceSub, Nat.reduceEqDiff, if_false] at e8
    clear hdj
    refine wpOp_two rfl rfl ?_
    simp only [layL, Nat.reduceEqDiff, if_false, if_true, Act.put, List.getElem?_toArray, List.getElem?_cons_succ, List.getElem?_cons_zero, Option.bind_some, List.setIfInBounds_toArray, List.set_cons_succ, List.set_cons_zero, List.drop_succ_cons, List.drop_zero]
    generalize vs 0 = v0
    generalize vs 1 = v1
    generalize vs 2 = v2
    generalize vs 3 = v3
    generalize vs 4 = v4
    generalize vs 5 = v5 at *
    generalize vs 6 = v6 at *
    generalize vs 8 = v8 at *
    subst e5
    subst e6
    obtain ⟨hc, hf, hz⟩ := bcell hG
    obtain ⟨⟨b8, rfl, hb8, hb8', hB8⟩, hb8n⟩ := e8
    have hl0 : w.heap.size < b8 := by omega
    have m0 := Nat.ne_of_lt hl0
    have m1 := (Nat.ne_of_lt hl0).symm
    have hgW : Gr (w.alloc (.cells #[.int .i64 p.fl, .int .i64 p.fh, .int .i64 p.bl, .int .i64 p.bh, .int .i64 p.ti, .int .i64 p.ne, .int .i64 p.fa, .slice (some ⟨b, o, none⟩) len cap] 26)) W := hG
    have P0 := ((Box.fresh w [.int .i64 p.fl, .int .i64 p.fh, .int .i64 p.bl, .int .i64 p.bh, .int .i64 p.ti, .int .i64 p.ne, .int .i64 p.fa, .slice (some ⟨b, o, none⟩) len cap] 26).grow hgW).facts
    simp only [CellsFrom, Nat.zero_add, Nat.reduceAdd, and_true] at P0
    obtain ⟨y0_, y1_, yf0, yf1, yl⟩ := hB8.two
    have HGW := Lib.hid hgW
    have HB8 := Lib.hid hB8
    clear hB8 hb8 hb8' hb8n hgW hG hc hf hz
    have X := CellsFrom.nine (HX0.out.grow hb ((Gr.alloc _ _).tr HGW.out))
    simp only at X
    have hne8 : ¬ b = b8 := by omega
    have hne8' : ¬ b8 = b := by omega
    have hbW : b < W.heap.size := Nat.lt_of_lt_of_le hb (Nat.le_trans (Nat.le_succ _) (by have := HGW.out.size; simpa using this))
    go_wp2_with fail
    have h8 : Box (((W.setCell ⟨b8, 0, none⟩ (.int .i64 x)).setCell ⟨b8, 1, none⟩ (.int .i64 y)).alloc (.cells #[.int .i64 xa, .int .i64 xb, .int .i64 xc, .int .i64 xd, .int .i64 xe, .int .i64 xf, .int .i64 xg, .int .i64 xh, .int .i64 xz] 47)) b8 [.int .i64 x, .int .i64 y] 23 := ((HB8.out.put 0 _).put 1 _).grow (Gr.alloc _ _)
    have hp5 : Box (((W.setCell ⟨b8, 0, none⟩ (.int .i64 x)).setCell ⟨b8, 1, none⟩ (.int .i64 y)).alloc (.cells #[.int .i64 xa, .int .i64 xb, .int .i64 xc, .int .i64 xd, .int .i64 xe, .int .i64 xf, .int .i64 xg, .int .i64 xh, .int .i64 xz] 47)) w.heap.size [.int .i64 p.fl, .int .i64 p.fh, .int .i64 p.bl, .int .i64 p.bh, .int .i64 p.ti, .int .i64 p.ne, .int .i64 p.fa, .slice (some ⟨b, o, none⟩) len cap] 26 := ((((Box.fresh w [.int .i64 p.fl, .int .i64 p.fh, .int .i64 p.bl, .int .i64 p.bh, .int .i64 p.ti, .int .i64 p.ne, .int .i64 p.fa, .slice (some ⟨b, o, none⟩) len cap] 26).grow HGW.out).other m0 _ _).other m0 _ _).grow (Gr.alloc _ _)
    have ht5 : Box (((W.setCell ⟨b8, 0, none⟩ (.int .i64 x)).setCell ⟨b8, 1, none⟩ (.int .i64 y)).alloc (.cells #[.int .i64 xa, .int .i64 xb, .int .i64 xc, .int .i64 xd, .int .i64 xe, .int .i64 xf, .int .i64 xg, .int .i64 xh, .int .i64 xz] 47)) W.heap.size [.int .i64 xa, .int .i64 xb, .int .i64 xc, .int .i64 xd, .int .i64 xe, .int .i64 xf, .int .i64 xg, .int .i64 xh, .int .i64 xz] 47 := by
      have := Box.fresh ((W.setCell ⟨b8, 0, none⟩ (.int .i64 x)).setCell ⟨b8, 1, none⟩ (.int .i64 y)) [.int .i64 xa, .int .i64 xb, .int .i64 xc, .int .i64 xd, .int .i64 xe, .int .i64 xf, .int .i64 xg, .int .i64 xh, .int .i64 xz] 47
      simpa using this
    have hw5 : Below w.heap.size w (((W.setCell ⟨b8, 0, none⟩ (.int .i64 x)).setCell ⟨b8, 1, none⟩ (.int .i64 y)).alloc (.cells #[.int .i64 xa, .int .i64 xb, .int .i64 xc, .int .i64 xd, .int .i64 xe, .int .i64 xf, .int .i64 xg, .int .i64 xh, .int .i64 xz] 47)) := (((show Below w.heap.size w W from (Gr.alloc _ _).tr HGW.out).setCell (by first | (simp; done) | (simp; omega) | omega) _).setCell (by first | (simp; done) | (simp; omega) | omega) _).alloc (by first | (simp; done) | (simp; omega) | omega) _
    clear X hbW y0_ y1_ yf0 yf1 P0 HB8 HGW
    generalize (((W.setCell ⟨b8, 0, none⟩ (.int .i64 x)).setCell ⟨b8, 1, none⟩ (.int .i64 y)).alloc (.cells #[.int .i64 xa, .int .i64 xb, .int .i64 xc, .int .i64 xd, .int .i64 xe, .int .i64 xf, .int .i64 xg, .int .i64 xh, .int .i64 xz] 47)) = W5 at *
    generalize W.heap.size = bt at *
    have C8 := h8.facts
    have CP := hp5.facts
    have CT := ht5.facts
    simp only [CellsFrom, Nat.zero_add, Nat.reduceAdd, and_true] at C8 CP CT
    have H8 := Lib.hid h8
    have HP5 := Lib.hid hp5
    have HT5 := Lib.hid ht5
    have HW5 := Lib.hid hw5
    clear h8 hp5 ht5 hw5
    refine region2 7 ?_ ?_ ?_
    · kernel_rfl
    · kernel_rfl
    simp only [List.take_succ_cons, List.take_zero, List.drop_succ_cons, List.drop_zero]
    apply chain_eq (D := [(6, none)]) rfl (by kernel_rfl)
    · intro ρ W ⟨p1, p2, p3⟩ hG hF K hK; (try simp [FactsD] at hF); have ⟨hc, hf, hz⟩ := bcell (Gr.tr (Gr.drew _) hG); go_simp; exact hK _ (gives_val)
    apply chain_eq (D := [(2, none)]) rfl (by kernel_rfl)
    · intro ρ W ⟨p1, p2, p3⟩ hG hF K hK; (try simp [FactsD] at hF); have ⟨hc, hf, hz⟩ := bcell (Gr.tr (Gr.drew _) hG); go_simp; exact hK _ (gives_val)
    apply chain_eq (D := [(8, none)]) rfl (by kernel_rfl)
    · intro ρ W ⟨p1, p2, p3⟩ hG hF K hK; (try simp [FactsD] at hF); have ⟨hc, hf, hz⟩ := bcell (Gr.tr (Gr.drew _) hG); go_simp; exact hK _ (gives_val)
    apply chain_eq (D := [(27, some 1), (28, some 0)]) rfl (by kernel_rfl)
    · intro ρ W ⟨p1, p2, p3⟩ hG hF K hK; (try simp [FactsD] at hF); have ⟨hc, hf, hz⟩ := bcell (Gr.tr (Gr.drew _) hG); go_simp; exact hK _ (gives_call (HPT.out _ _))
    apply chain_eq (D := [(26, some 3), (29, some 0)]) rfl (by kernel_rfl)
    · intro ρ W ⟨p1, p2, p3⟩ hG hF K hK; (try simp [FactsD] at hF); have ⟨hc, hf, hz⟩ := bcell (Gr.tr (Gr.drew _) hG); go_simp; exact hK _ (gives_call (HC.out _))
    apply chain_eq (D := [(30, some 0)]) rfl (by kernel_rfl)
    · intro ρ W ⟨p1, p2, p3⟩ hG hF K hK; (try simp [FactsD] at hF); have ⟨hc, hf, hz⟩ := bcell (Gr.tr (Gr.drew _) hG); go_simp; exact hK _ (gives_call (rempty_any _ _ _))
    apply chain_eq (D := [(31, some 0)]) rfl (by kernel_rfl)
    · intro ρ W ⟨p1, p2, p3⟩ hG hF K hK; (try simp [FactsD] at hF); have ⟨hc, hf, hz⟩ := bcell (Gr.tr (Gr.drew _) hG); go_simp; exact hK _ (gives_val)
    refine chain_done ?_
    intro vs W hG hV
    obtain ⟨e6, -⟩ := hV
    simp only [Nat.reduceSub] at e6
    simp only [lay, Act.put, List.getElem?_toArray, List.getElem?_cons_succ, List.getElem?_cons_zero, Option.bind_some, List.setIfInBounds_toArray, List.set_cons_succ, List.set_cons_zero]
    generalize vs 0 = v0
    generalize vs 1 = v1
    generalize vs 2 = v2
    generalize vs 3 = v3
    generalize vs 4 = v4
    generalize vs 5 = v5
    generalize vs 6 = v6 at *
    subst e6
    obtain ⟨hc, hf, hz⟩ := bcell hG
    have C8 := (H8.out.grow hG).facts
    have CP := (HP5.out.grow hG).facts
    have CT := (HT5.out.grow hG).facts
    simp only [CellsFrom, Nat.zero_add, Nat.reduceAdd, and_true] at C8 CP CT
    have HW6 := Lib.hid (bgr HW5.out HW5.out.size hG)
    have HG6 := Lib.hid hG
    clear hc hf hz hG
    go_wp2_with fail
    refine (HLV.out _).mono ?_
    rintro e w6 ⟨rfl, hb6⟩
    have C8' := (((H8.out.grow HG6.out).grow hb6)).facts
    have CP' := (((HP5.out.grow HG6.out).grow hb6)).facts
    have CT' := (((HT5.out.grow HG6.out).grow hb6)).facts
    simp only [CellsFrom, Nat.zero_add, Nat.reduceAdd, and_true] at C8' CP' CT'
    clear C8 CP CT
    go_wp2_with fail
    refine (rof_any xa xb xc xd xe xf xg xh xz w6 ba bb be bf).mono ?_
    rintro e w7 ⟨rfl, hb7⟩
    have C9 := ((((H8.out.grow HG6.out).grow hb6)).grow hb7).facts
    have CQ := ((((HP5.out.grow HG6.out).grow hb6)).grow hb7).facts
    simp only [CellsFrom, Nat.zero_add, Nat.reduceAdd, and_true] at C9 CQ
    obtain ⟨m0', m1'⟩ := mulb (a := xa - xf) (b := p.ne) (by omega) (by omega) bn.1 bn.2
    obtain ⟨ba0, ba1⟩ := ba
    obtain ⟨bb0, bb1⟩ := bb
    obtain ⟨be0, be1⟩ := be
    obtain ⟨bf0, bf1⟩ := bf
    have HW7 := Lib.hid (bgr (bgr HW6.out HW6.out.size hb6) (bgr HW6.out HW6.out.size hb6).size hb7)
    clear C8' CP' CT' hb6 hb7
    go_wp2
    go_ret2
    exact ⟨rfl, HW7.out.alloc (by have := HW7.out.size; omega) _⟩
set_option maxRecDepth 100000 in
set_option maxHeartbeats 4000000 in
theorem rwhy_near1 (p : Pr) (sp : Option Addr) (len cap : Nat) (n : Nat) (xa xb xc xd xe xf xg xh xz x y q1 q2 : Int) (w : World) (hT : ThingsAt p.l (.slice sp len cap) w) (hl : len ≤ 1000) (hk : Hid ((decide (0 ≤ (n : Int)) && decide ((n : Int) < (len : Int))) = true)) (hkl : n < len) (HK : Hid (p.l[n]? = some ⟨xa, xb, xc, xd, xe, xf, xg, xh, xz⟩)) (ho : Hid (p.ropen true = (x, y, 0))) (HPT : Hid (∀ (v : Value) (w : World), Calls Try.prog 59 #[.agg #[.int .i64 p.fl, .int .i64 p.fh, .int .i64 p.bl, .int .i64 p.bh, .int .i64 p.ti, .int .i64 p.ne, .int .i64 p.fa, v], .agg #[.int .i64 xa, .int .i64 xb, .int .i64 xc, .int .i64 xd, .int .i64 xe, .int .i64 xf, .int .i64 xg, .int .i64 xh, .int .i64 xz]] w fun e w' => e = .returned (.agg #[.int .i64 q1, .int .i64 q2]) ∧ Below w.heap.size w w')) (hem : decide ((ovl (x, y) (q1, q2)).2 < (ovl (x, y) (q1, q2)).1) = true) (bd : -4000 ≤ xd ∧ xd ≤ 4000) (bh : -4000 ≤ xh ∧ xh ≤ 4000) (bt : 0 ≤ p.ti ∧ p.ti ≤ 1000) (hlv : (decide (xc ≤ xh + p.ti) && decide (xg ≤ xd + p.ti)) = true) (ba : -4000 ≤ xa ∧ xa ≤ 4000) (bb : -4000 ≤ xb ∧ xb ≤ 4000) (be : -4000 ≤ xe ∧ xe ≤ 4000) (bf : -4000 ≤ xf ∧ xf ≤ 4000) (bn : 0 ≤ p.ne ∧ p.ne ≤ 1073741824) (h1 : decide (xb - xe < 0) = false) (h2 : decide (2000 < xa - xf) = true) :
    Calls Try.prog 22 #[.agg #[.int .i64 p.fl, .int .i64 p.fh, .int .i64 p.bl, .int .i64 p.bh, .int .i64 p.ti, .int .i64 p.ne, .int .i64 p.fa, .slice sp len cap], .int .i64 n] w fun e w' => e = .returned (.tuple #[.int .i64 3, .int .i64 0]) ∧ Below w.heap.size w w' := by
  have TH := Lib.hid (fun (W : World) (hg : Gr (w.alloc (.cells #[.int .i64 p.fl, .int .i64 p.fh, .int .i64 p.bl, .int .i64 p.bh, .int .i64 p.ti, .int .i64 p.ne, .int .i64 p.fa, .slice sp len cap] 26)) W) => ThingsAt.lasts p.l _ _ _ hT ((Gr.alloc _ _).tr hg))
  have hal := @cal
  have hT2 := hT.2
  rcases hT2 with ⟨e, -⟩ | ⟨b, o, cap', hsp, hb, hcx⟩
  · have := HK.out; rw [e] at this; cases this
  obtain ⟨hsp1, -, -⟩ : sp = some ⟨b, o, none⟩ ∧ len = p.l.length ∧ cap = cap' := by simpa using hsp
  subst hsp1
  have HX0 := Lib.hid (hcx n _ HK.out)
  have HLV : Hid (∀ W : World, Calls Try.prog 60 #[.agg #[.int .i64 xa, .int .i64 xb, .int .i64 xc, .int .i64 xd, .int .i64 xe, .int .i64 xf, .int .i64 xg, .int .i64 xh, .int .i64 xz], .int .i64 p.ti] W fun e w' => e = .returned (.bool true) ∧ Below W.heap.size W w') := Lib.hid fun W => by
    have := rlevel_any xa xb xc xd xe xf xg xh xz p.ti W bd bh bt
    rwa [hlv] at this
  clear hlv
  obtain ⟨o1, o2, hov⟩ : ∃ o1 o2, ovl (x, y) (q1, q2) = (o1, o2) := ⟨_, _, rfl⟩
  have HC : Hid (∀ W : World, Calls Try.prog 58 #[.agg #[.int .i64 x, .int .i64 y], .agg #[.int .i64 q1, .int .i64 q2]] W fun e w' => e = .returned (.agg #[.int .i64 o1, .int .i64 o2]) ∧ Below W.heap.size W w') := Lib.hid fun W => by
    have := rcommon_any x y q1 q2 W
    rwa [hov] at this
  rw [hov] at hem
  simp only at hem
  clear hT hcx hsp hov
  go_enter Try.func22, Try.ntmps22
  go_wp2_with fail
  refine regionL 9 7 ?_ ?_ ?_
  · kernel_rfl
  · kernel_rfl
  simp only [List.take_succ_cons, List.take_zero, List.drop_succ_cons, List.drop_zero]
  apply chainB_eq (D := [(2, none)]) rfl (by kernel_rfl)
  · intro ρ W ⟨p1, p2, p3⟩ hG hF K hK; (try simp [FactsD] at hF); have ⟨hc, hf, hz⟩ := bcell (Gr.tr (Gr.drew _) hG); go_simp; exact hK _ (gives_val)
  apply chainB_eq (D := [(2, none)]) rfl (by kernel_rfl)
  · intro ρ W ⟨p1, p2, p3⟩ hG hF K hK; (try simp [FactsD] at hF); have ⟨hc, hf, hz⟩ := bcell (Gr.tr (Gr.drew _) hG); go_simp; exact hK _ (gives_val)
  apply chainB_eq (D := [(1, none)]) rfl (by kernel_rfl)
  · intro ρ W ⟨p1, p2, p3⟩ hG hF K hK; (try simp [FactsD] at hF); have ⟨hc, hf, hz⟩ := bcell (Gr.tr (Gr.drew _) hG); go_simp; exact hK _ (gives_val)
  apply chainB_eq (D := [(12, some 1), (13, some 0)]) rfl (by kernel_rfl)
  · intro ρ W ⟨p1, p2, p3⟩ hG hF K hK; (try simp [FactsD, exB] at hF); have ⟨hc, hf, hz⟩ := bcell (Gr.tr (Gr.drew _) hG); go_simp; exact hK _ (gives_call (rthing_is hl hk.out))
  apply chainB_eq (D := [(11, some 3), (14, some 0)]) rfl (by kernel_rfl)
  · intro ρ W ⟨p1, p2, p3⟩ hG hF K hK; (try simp [FactsD, exB] at hF); have ⟨hc, hf, hz⟩ := bcell (Gr.tr (Gr.drew _) hG); go_simp; exact hK _ (gives_call (ropen_is ho.out (TH.out _ ((Gr.drew _).tr hG))))
  apply chainB_eq (D := [(15, some 0)]) rfl (by kernel_rfl)
  · intro ρ W ⟨p1, p2, p3⟩ hG hF K hK; (try simp [FactsD, exB] at hF); have ⟨hc, hf, hz⟩ := bcell (Gr.tr (Gr.drew _) hG); go_simp; exact hK _ (gives_val)
  apply chainB_eq (D := [(10, some 0)]) rfl (by kernel_rfl)
  · intro ρ W ⟨p1, p2, p3⟩ hG hF K hK; (try simp [FactsD, exB] at hF); have ⟨hc, hf, hz⟩ := bcell (Gr.tr (Gr.drew _) hG); go_simp; exact hK _ (gives_val)
  apply chainB_eq (D := [(10, some 1)]) rfl (by kernel_rfl)
  · intro ρ W ⟨p1, p2, p3⟩ hG hF K hK; (try simp [FactsD, exB] at hF); have ⟨hc, hf, hz⟩ := bcell (Gr.tr (Gr.drew _) hG); go_simp; exact hK _ (gives_val)
  refine chainB_any (V := fun p v W' => NewB [.int .i64 0, .int .i64 0] 23 p v W' ∧ w.heap.size + 1 ≤ p.1) (D := []) rfl (by kernel_rfl) (fun p v A B h hg => ⟨NewB.lasts _ _ p v A B h.1 hg, h.2⟩) ?_ ?_
  · intro ρ W ⟨p1, p2, p3⟩ hG hF K hK; (try simp [FactsD] at hF); have ⟨hc, hf, hz⟩ := bcell (Gr.tr (Gr.drew _) hG); go_simp; exact hK _ (⟨⟨NewB.new _ _ _, by have := hG.size; simpa using this⟩, Gr.alloc _ _⟩)
  refine chainB_done ⟨?_, ?_⟩
  · intro vs bs W hG hV hdj
    obtain ⟨e8, e7, e6, -⟩ := hV
    simp only [Nat.reduceSub] at e6
    simp only [Nat.reduceSub] at e7
    simp only [Nat.reduceSub] at e8
    clear hdj
    simp only [lay, Act.put, List.getElem?_toArray, List.getElem?_cons_succ, List.getElem?_cons_zero, Option.bind_some, List.setIfInBounds_toArray, List.set_cons_succ, List.set_cons_zero]
    generalize vs 0 = v0
    generalize vs 1 = v1
    generalize vs 2 = v2
    generalize vs 3 = v3
    generalize vs 4 = v4
    generalize vs 5 = v5
    generalize vs 6 = v6 at *
    generalize vs 7 = v7 at *
    generalize vs 8 = v8 at *
    subst e6
    subst e7
    obtain ⟨hc, hf, hz⟩ := bcell hG
    obtain ⟨⟨b8, rfl, hb8, hb8', hB8⟩, hb8n⟩ := e8
    have hl0 : w.heap.size < b8 := by omega
    have m0 := Nat.ne_of_lt hl0
    have m1 := (Nat.ne_of_lt hl0).symm
    have hgW : Gr (w.alloc (.cells #[.int .i64 p.fl, .int .i64 p.fh, .int .i64 p.bl, .int .i64 p.bh, .int .i64 p.ti, .int .i64 p.ne, .int .i64 p.fa, .slice (some ⟨b, o, none⟩) len cap] 26)) W := hG
    have P0 := ((Box.fresh w [.int .i64 p.fl, .int .i64 p.fh, .int .i64 p.bl, .int .i64 p.bh, .int .i64 p.ti, .int .i64 p.ne, .int .i64 p.fa, .slice (some ⟨b, o, none⟩) len cap] 26).grow hgW).facts
    simp only [CellsFrom, Nat.zero_add, Nat.reduceAdd, and_true] at P0
    obtain ⟨y0_, y1_, yf0, yf1, yl⟩ := hB8.two
    have HGW := Lib.hid hgW
    have HB8 := Lib.hid hB8
    clear hB8 hb8 hb8' hb8n hgW hG hc hf hz
    have X := CellsFrom.nine (HX0.out.grow hb ((Gr.alloc _ _).tr HGW.out))
    simp only at X
    have hne8 : ¬ b = b8 := by omega
    have hne8' : ¬ b8 = b := by omega
    have hbW : b < W.heap.size := Nat.lt_of_lt_of_le hb (Nat.le_trans (Nat.le_succ _) (by have := HGW.out.size; simpa using this))
    go_wp2_with fail
    have h8 : Box (((W.setCell ⟨b8, 0, none⟩ (.int .i64 x)).setCell ⟨b8, 1, none⟩ (.int .i64 y)).alloc (.cells #[.int .i64 xa, .int .i64 xb, .int .i64 xc, .int .i64 xd, .int .i64 xe, .int .i64 xf, .int .i64 xg, .int .i64 xh, .int .i64 xz] 47)) b8 [.int .i64 x, .int .i64 y] 23 := ((HB8.out.put 0 _).put 1 _).grow (Gr.alloc _ _)
    have hp5 : Box (((W.setCell ⟨b8, 0, none⟩ (.int .i64 x)).setCell ⟨b8, 1, none⟩ (.int .i64 y)).alloc (.cells #[.int .i64 xa, .int .i64 xb, .int .i64 xc, .int .i64 xd, .int .i64 xe, .int .i64 xf, .int .i64 xg, .int .i64 xh, .int .i64 xz] 47)) w.heap.size [.int .i64 p.fl, .int .i64 p.fh, .int .i64 p.bl, .int .i64 p.bh, .int .i64 p.ti, .int .i64 p.ne, .int .i64 p.fa, .slice (some ⟨b, o, none⟩) len cap] 26 := ((((Box.fresh w [.int .i64 p.fl, .int .i64 p.fh, .int .i64 p.bl, .int .i64 p.bh, .int .i64 p.ti, .int .i64 p.ne, .int .i64 p.fa, .slice (some ⟨b, o, none⟩) len cap] 26).grow HGW.out).other m0 _ _).other m0 _ _).grow (Gr.alloc _ _)
    have ht5 : Box (((W.setCell ⟨b8, 0, none⟩ (.int .i64 x)).setCell ⟨b8, 1, none⟩ (.int .i64 y)).alloc (.cells #[.int .i64 xa, .int .i64 xb, .int .i64 xc, .int .i64 xd, .int .i64 xe, .int .i64 xf, .int .i64 xg, .int .i64 xh, .int .i64 xz] 47)) W.heap.size [.int .i64 xa, .int .i64 xb, .int .i64 xc, .int .i64 xd, .int .i64 xe, .int .i64 xf, .int .i64 xg, .int .i64 xh, .int .i64 xz] 47 := by
      have := Box.fresh ((W.setCell ⟨b8, 0, none⟩ (.int .i64 x)).setCell ⟨b8, 1, none⟩ (.int .i64 y)) [.int .i64 xa, .int .i64 xb, .int .i64 xc, .int .i64 xd, .int .i64 xe, .int .i64 xf, .int .i64 xg, .int .i64 xh, .int .i64 xz] 47
      simpa using this
    have hw5 : Below w.heap.size w (((W.setCell ⟨b8, 0, none⟩ (.int .i64 x)).setCell ⟨b8, 1, none⟩ (.int .i64 y)).alloc (.cells #[.int .i64 xa, .int .i64 xb, .int .i64 xc, .int .i64 xd, .int .i64 xe, .int .i64 xf, .int .i64 xg, .int .i64 xh, .int .i64 xz] 47)) := (((show Below w.heap.size w W from (Gr.alloc _ _).tr HGW.out).setCell (by first | (simp; done) | (simp; omega) | omega) _).setCell (by first | (simp; done) | (simp; omega) | omega) _).alloc (by first | (simp; done) | (simp; omega) | omega) _
    clear X hbW y0_ y1_ yf0 yf1 P0 HB8 HGW
    generalize (((W.setCell ⟨b8, 0, none⟩ (.int .i64 x)).setCell ⟨b8, 1, none⟩ (.int .i64 y)).alloc (.cells #[.int .i64 xa, .int .i64 xb, .int .i64 xc, .int .i64 xd, .int .i64 xe, .int .i64 xf, .int .i64 xg, .int .i64 xh, .int .i64 xz] 47)) = W5 at *
    generalize W.heap.size = bt at *
    have C8 := h8.facts
    have CP := hp5.facts
    have CT := ht5.facts
    simp only [CellsFrom, Nat.zero_add, Nat.reduceAdd, and_true] at C8 CP CT
    have H8 := Lib.hid h8
    have HP5 := Lib.hid hp5
    have HT5 := Lib.hid ht5
    have HW5 := Lib.hid hw5
    clear h8 hp5 ht5 hw5
    refine region2 7 ?_ ?_ ?_
    · kernel_rfl
    · kernel_rfl
    simp only [List.take_succ_cons, List.take_zero, List.drop_succ_cons, List.drop_zero]
    apply chain_eq (D := [(6, none)]) rfl (by kernel_rfl)
    · intro ρ W ⟨p1, p2, p3⟩ hG hF K hK; (try simp [FactsD] at hF); have ⟨hc, hf, hz⟩ := bcell (Gr.tr (Gr.drew _) hG); go_simp; exact hK _ (gives_val)
    apply chain_eq (D := [(2, none)]) rfl (by kernel_rfl)
    · intro ρ W ⟨p1, p2, p3⟩ hG hF K hK; (try simp [FactsD] at hF); have ⟨hc, hf, hz⟩ := bcell (Gr.tr (Gr.drew _) hG); go_simp; exact hK _ (gives_val)
    apply chain_eq (D := [(8, none)]) rfl (by kernel_rfl)
    · intro ρ W ⟨p1, p2, p3⟩ hG hF K hK; (try simp [FactsD] at hF); have ⟨hc, hf, hz⟩ := bcell (Gr.tr (Gr.drew _) hG); go_simp; exact hK _ (gives_val)
    apply chain_eq (D := [(27, some 1), (28, some 0)]) rfl (by kernel_rfl)
    · intro ρ W ⟨p1, p2, p3⟩ hG hF K hK; (try simp [FactsD] at hF); have ⟨hc, hf, hz⟩ := bcell (Gr.tr (Gr.drew _) hG); go_simp; exact hK _ (gives_call (HPT.out _ _))
    apply chain_eq (D := [(26, some 3), (29, some 0)]) rfl (by kernel_rfl)
    · intro ρ W ⟨p1, p2, p3⟩ hG hF K hK; (try simp [FactsD] at hF); have ⟨hc, hf, hz⟩ := bcell (Gr.tr (Gr.drew _) hG); go_simp; exact hK _ (gives_call (HC.out _))
    apply chain_eq (D := [(30, some 0)]) rfl (by kernel_rfl)
    · intro ρ W ⟨p1, p2, p3⟩ hG hF K hK; (try simp [FactsD] at hF); have ⟨hc, hf, hz⟩ := bcell (Gr.tr (Gr.drew _) hG); go_simp; exact hK _ (gives_call (rempty_any _ _ _))
    apply chain_eq (D := [(31, some 0)]) rfl (by kernel_rfl)
    · intro ρ W ⟨p1, p2, p3⟩ hG hF K hK; (try simp [FactsD] at hF); have ⟨hc, hf, hz⟩ := bcell (Gr.tr (Gr.drew _) hG); go_simp; exact hK _ (gives_val)
    refine chain_done ?_
    intro vs W hG hV
    obtain ⟨e6, -⟩ := hV
    simp only [Nat.reduceSub] at e6
    simp only [lay, Act.put, List.getElem?_toArray, List.getElem?_cons_succ, List.getElem?_cons_zero, Option.bind_some, List.setIfInBounds_toArray, List.set_cons_succ, List.set_cons_zero]
    generalize vs 0 = v0
    generalize vs 1 = v1
    generalize vs 2 = v2
    generalize vs 3 = v3
    generalize vs 4 = v4
    generalize vs 5 = v5
    generalize vs 6 = v6 at *
    subst e6
    obtain ⟨hc, hf, hz⟩ := bcell hG
    have C8 := (H8.out.grow hG).facts
    have CP := (HP5.out.grow hG).facts
    have CT := (HT5.out.grow hG).facts
    simp only [CellsFrom, Nat.zero_add, Nat.reduceAdd, and_true] at C8 CP CT
    have HW6 := Lib.hid (bgr HW5.out HW5.out.size hG)
    have HG6 := Lib.hid hG
    clear hc hf hz hG
    go_wp2_with fail
    refine (HLV.out _).mono ?_
    rintro e w6 ⟨rfl, hb6⟩
    have C8' := (((H8.out.grow HG6.out).grow hb6)).facts
    have CP' := (((HP5.out.grow HG6.out).grow hb6)).facts
    have CT' := (((HT5.out.grow HG6.out).grow hb6)).facts
    simp only [CellsFrom, Nat.zero_add, Nat.reduceAdd, and_true] at C8' CP' CT'
    clear C8 CP CT
    go_wp2_with fail
    refine (rof_any xa xb xc xd xe xf xg xh xz w6 ba bb be bf).mono ?_
    rintro e w7 ⟨rfl, hb7⟩
    have C9 := ((((H8.out.grow HG6.out).grow hb6)).grow hb7).facts
    have CQ := ((((HP5.out.grow HG6.out).grow hb6)).grow hb7).facts
    simp only [CellsFrom, Nat.zero_add, Nat.reduceAdd, and_true] at C9 CQ
    obtain ⟨m0', m1'⟩ := mulb (a := xa - xf) (b := p.ne) (by omega) (by omega) bn.1 bn.2
    obtain ⟨ba0, ba1⟩ := ba
    obtain ⟨bb0, bb1⟩ := bb
    obtain ⟨be0, be1⟩ := be
    obtain ⟨bf0, bf1⟩ := bf
    have HW7 := Lib.hid (bgr (bgr HW6.out HW6.out.size hb6) (bgr HW6.out HW6.out.size hb6).size hb7)
    clear C8' CP' CT' hb6 hb7
    go_wp2
    go_ret2
    exact ⟨rfl, HW7.out.alloc (by have := HW7.out.size; omega) _⟩
  · intro vs bs W hG hV hdj
    obtain ⟨e8, -, e6, e5, -⟩ := hV
    simp only [Nat.reduceSub, Nat.reduceEqDiff, if_false] at e5
    simp only [Nat.reduceSub, Nat.reduceEqDiff, if_false] at e6
    simp only [Nat.reduceSub, Nat.reduceEqDiff, if_false] at e8
    clear hdj
    refine wpOp_two rfl rfl ?_
    simp only [layL, Nat.reduceEqDiff, if_false, if_true, Act.put, List.getElem?_toArray, List.getElem?_cons_succ, List.getElem?_cons_zero, Option.bind_some, List.setIfInBounds_toArray, List.set_cons_succ, List.set_cons_zero, List.drop_succ_cons, List.drop_zero]
    generalize vs 0 = v0
    generalize vs 1 = v1
    generalize vs 2 = v2
    generalize vs 3 = v3
    generalize vs 4 = v4
    generalize vs 5 = v5 at *
    generalize vs 6 = v6 at *
    generalize vs 8 = v8 at *
    subst e5
    subst e6
    obtain ⟨hc, hf, hz⟩ := bcell hG
    obtain ⟨⟨b8, rfl, hb8, hb8', hB8⟩, hb8n⟩ := e8
    have hl0 : w.heap.size < b8 := by omega
    have m0 := Nat.ne_of_lt hl0
    have m1 := (Nat.ne_of_lt hl0).symm
    have hgW : Gr (w.alloc (.cells #[.int .i64 p.fl, .int .i64 p.fh, .int .i64 p.bl, .int .i64 p.bh, .int .i64 p.ti, .int .i64 p.ne, .int .i64 p.fa, .slice (some ⟨b, o, none⟩) len cap] 26)) W := hG
    have P0 := ((Box.fresh w [.int .i64 p.fl, .int .i64 p.fh, .int .i64 p.bl, .int .i64 p.bh, .int .i64 p.ti, .int .i64 p.ne, .int .i64 p.fa, .slice (some ⟨b, o, none⟩) len cap] 26).grow hgW).facts
    simp only [CellsFrom, Nat.zero_add, Nat.reduceAdd, and_true] at P0
    obtain ⟨y0_, y1_, yf0, yf1, yl⟩ := hB8.two
    have HGW := Lib.hid hgW
    have HB8 := Lib.hid hB8
    clear hB8 hb8 hb8' hb8n hgW hG hc hf hz
    have X := CellsFrom.nine (HX0.out.grow hb ((Gr.alloc _ _).tr HGW.out))
    simp only at X
    have hne8 : ¬ b = b8 := by omega
    have hne8' : ¬ b8 = b := by omega
    have hbW : b < W.heap.size := Nat.lt_of_lt_of_le hb (Nat.le_trans (Nat.le_succ _) (by have := HGW.out.size; simpa using this))
    go_wp2_with fail
    have h8 : Box (((W.setCell ⟨b8, 0, none⟩ (.int .i64 x)).setCell ⟨b8, 1, none⟩ (.int .i64 y)).alloc (.cells #[.int .i64 xa, .int .i64 xb, .int .i64 xc, .int .i64 xd, .int .i64 xe, .int .i64 xf, .int .i64 xg, .int .i64 xh, .int .i64 xz] 47)) b8 [.int .i64 x, .int .i64 y] 23 := ((HB8.out.put 0 _).put 1 _).grow (Gr.alloc _ _)
    have hp5 : Box (((W.setCell ⟨b8, 0, none⟩ (.int .i64 x)).setCell ⟨b8, 1, none⟩ (.int .i64 y)).alloc (.cells #[.int .i64 xa, .int .i64 xb, .int .i64 xc, .int .i64 xd, .int .i64 xe, .int .i64 xf, .int .i64 xg, .int .i64 xh, .int .i64 xz] 47)) w.heap.size [.int .i64 p.fl, .int .i64 p.fh, .int .i64 p.bl, .int .i64 p.bh, .int .i64 p.ti, .int .i64 p.ne, .int .i64 p.fa, .slice (some ⟨b, o, none⟩) len cap] 26 := ((((Box.fresh w [.int .i64 p.fl, .int .i64 p.fh, .int .i64 p.bl, .int .i64 p.bh, .int .i64 p.ti, .int .i64 p.ne, .int .i64 p.fa, .slice (some ⟨b, o, none⟩) len cap] 26).grow HGW.out).other m0 _ _).other m0 _ _).grow (Gr.alloc _ _)
    have ht5 : Box (((W.setCell ⟨b8, 0, none⟩ (.int .i64 x)).setCell ⟨b8, 1, none⟩ (.int .i64 y)).alloc (.cells #[.int .i64 xa, .int .i64 xb, .int .i64 xc, .int .i64 xd, .int .i64 xe, .int .i64 xf, .int .i64 xg, .int .i64 xh, .int .i64 xz] 47)) W.heap.size [.int .i64 xa, .int .i64 xb, .int .i64 xc, .int .i64 xd, .int .i64 xe, .int .i64 xf, .int .i64 xg, .int .i64 xh, .int .i64 xz] 47 := by
      have := Box.fresh ((W.setCell ⟨b8, 0, none⟩ (.int .i64 x)).setCell ⟨b8, 1, none⟩ (.int .i64 y)) [.int .i64 xa, .int .i64 xb, .int .i64 xc, .int .i64 xd, .int .i64 xe, .int .i64 xf, .int .i64 xg, .int .i64 xh, .int .i64 xz] 47
      simpa using this
    have hw5 : Below w.heap.size w (((W.setCell ⟨b8, 0, none⟩ (.int .i64 x)).setCell ⟨b8, 1, none⟩ (.int .i64 y)).alloc (.cells #[.int .i64 xa, .int .i64 xb, .int .i64 xc, .int .i64 xd, .int .i64 xe, .int .i64 xf, .int .i64 xg, .int .i64 xh, .int .i64 xz] 47)) := (((show Below w.heap.size w W from (Gr.alloc _ _).tr HGW.out).setCell (by first | (simp; done) | (simp; omega) | omega) _).setCell (by first | (simp; done) | (simp; omega) | omega) _).alloc (by first | (simp; done) | (simp; omega) | omega) _
    clear X hbW y0_ y1_ yf0 yf1 P0 HB8 HGW
    generalize (((W.setCell ⟨b8, 0, none⟩ (.int .i64 x)).setCell ⟨b8, 1, none⟩ (.int .i64 y)).alloc (.cells #[.int .i64 xa, .int .i64 xb, .int .i64 xc, .int .i64 xd, .int .i64 xe, .int .i64 xf, .int .i64 xg, .int .i64 xh, .int .i64 xz] 47)) = W5 at *
    generalize W.heap.size = bt at *
    have C8 := h8.facts
    have CP := hp5.facts
    have CT := ht5.facts
    simp only [CellsFrom, Nat.zero_add, Nat.reduceAdd, and_true] at C8 CP CT
    have H8 := Lib.hid h8
    have HP5 := Lib.hid hp5
    have HT5 := Lib.hid ht5
    have HW5 := Lib.hid hw5
    clear h8 hp5 ht5 hw5
    refine region2 7 ?_ ?_ ?_
    · kernel_rfl
    · kernel_rfl
    simp only [List.take_succ_cons, List.take_zero, List.drop_succ_cons, List.drop_zero]
    apply chain_eq (D := [(6, none)]) rfl (by kernel_rfl)
    · intro ρ W ⟨p1, p2, p3⟩ hG hF K hK; (try simp [FactsD] at hF); have ⟨hc, hf, hz⟩ := bcell (Gr.tr (Gr.drew _) hG); go_simp; exact hK _ (gives_val)
    apply chain_eq (D := [(2, none)]) rfl (by kernel_rfl)
    · intro ρ W ⟨p1, p2, p3⟩ hG hF K hK; (try simp [FactsD] at hF); have ⟨hc, hf, hz⟩ := bcell (Gr.tr (Gr.drew _) hG); go_simp; exact hK _ (gives_val)
    apply chain_eq (D := [(8, none)]) rfl (by kernel_rfl)
    · intro ρ W ⟨p1, p2, p3⟩ hG hF K hK; (try simp [FactsD] at hF); have ⟨hc, hf, hz⟩ := bcell (Gr.tr (Gr.drew _) hG); go_simp; exact hK _ (gives_val)
    apply chain_eq (D := [(27, some 1), (28, some 0)]) rfl (by kernel_rfl)
    · intro ρ W ⟨p1, p2, p3⟩ hG hF K hK; (try simp [FactsD] at hF); have ⟨hc, hf, hz⟩ := bcell (Gr.tr (Gr.drew _) hG); go_simp; exact hK _ (gives_call (HPT.out _ _))
    apply chain_eq (D := [(26, some 3), (29, some 0)]) rfl (by kernel_rfl)
    · intro ρ W ⟨p1, p2, p3⟩ hG hF K hK; (try simp [FactsD] at hF); have ⟨hc, hf, hz⟩ := bcell (Gr.tr (Gr.drew _) hG); go_simp; exact hK _ (gives_call (HC.out _))
    apply chain_eq (D := [(30, some 0)]) rfl (by kernel_rfl)
    · intro ρ W ⟨p1, p2, p3⟩ hG hF K hK; (try simp [FactsD] at hF); have ⟨hc, hf, hz⟩ := bcell (Gr.tr (Gr.drew _) hG); go_simp; exact hK _ (gives_call (rempty_any _ _ _))
    apply chain_eq (D := [(31, some 0)]) rfl (by kernel_rfl)
    · intro ρ W ⟨p1, p2, p3⟩ hG hF K hK; (try simp [FactsD] at hF); have ⟨hc, hf, hz⟩ := bcell (Gr.tr (Gr.drew _) hG); go_simp; exact hK _ (gives_val)
    refine chain_done ?_
    intro vs W hG hV
    obtain ⟨e6, -⟩ := hV
    simp only [Nat.reduceSub] at e6
    simp only [lay, Act.put, List.getElem?_toArray, List.getElem?_cons_succ, List.getElem?_cons_zero, Option.bind_some, List.setIfInBounds_toArray, List.set_cons_succ, List.set_cons_zero]
    generalize vs 0 = v0
    generalize vs 1 = v1
    generalize vs 2 = v2
    generalize vs 3 = v3
    generalize vs 4 = v4
    generalize vs 5 = v5
    generalize vs 6 = v6 at *
    subst e6
    obtain ⟨hc, hf, hz⟩ := bcell hG
    have C8 := (H8.out.grow hG).facts
    have CP := (HP5.out.grow hG).facts
    have CT := (HT5.out.grow hG).facts
    simp only [CellsFrom, Nat.zero_add, Nat.reduceAdd, and_true] at C8 CP CT
    have HW6 := Lib.hid (bgr HW5.out HW5.out.size hG)
    have HG6 := Lib.hid hG
    clear hc hf hz hG
    go_wp2_with fail
    refine (HLV.out _).mono ?_
    rintro e w6 ⟨rfl, hb6⟩
    have C8' := (((H8.out.grow HG6.out).grow hb6)).facts
    have CP' := (((HP5.out.grow HG6.out).grow hb6)).facts
    have CT' := (((HT5.out.grow HG6.out).grow hb6)).facts
    simp only [CellsFrom, Nat.zero_add, Nat.reduceAdd, and_true] at C8' CP' CT'
    clear C8 CP CT
    go_wp2_with fail
    refine (rof_any xa xb xc xd xe xf xg xh xz w6 ba bb be bf).mono ?_
    rintro e w7 ⟨rfl, hb7⟩
    have C9 := ((((H8.out.grow HG6.out).grow hb6)).grow hb7).facts
    have CQ := ((((HP5.out.grow HG6.out).grow hb6)).grow hb7).facts
    simp only [CellsFrom, Nat.zero_add, Nat.reduceAdd, and_true] at C9 CQ
    obtain ⟨m0', m1'⟩ := mulb (a := xa - xf) (b := p.ne) (by omega) (by omega) bn.1 bn.2
    obtain ⟨ba0, ba1⟩ := ba
    obtain ⟨bb0, bb1⟩ := bb
    obtain ⟨be0, be1⟩ := be
    obtain ⟨bf0, bf1⟩ := bf
    have HW7 := Lib.hid (bgr (bgr HW6.out HW6.out.size hb6) (bgr HW6.out HW6.out.size hb6).size hb7)
    clear C8' CP' CT' hb6 hb7
    go_wp2
    go_ret2
    exact ⟨rfl, HW7.out.alloc (by have := HW7.out.size; omega) _⟩

set_option maxRecDepth 100000 in
set_option maxHeartbeats 4000000 in
theorem rwhy_near2 (p : Pr) (sp : Option Addr) (len cap : Nat) (n : Nat) (xa xb xc xd xe xf xg xh xz x y q1 q2 : Int) (w : World) (hT : ThingsAt p.l (.slice sp len cap) w) (hl : len ≤ 1000) (hk : Hid ((decide (0 ≤ (n : Int)) && decide ((n : Int) < (len : Int))) = true)) (hkl : n < len) (HK : Hid (p.l[n]? = some ⟨xa, xb, xc, xd, xe, xf, xg, xh, xz⟩)) (ho : Hid (p.ropen true = (x, y, 0))) (HPT : Hid (∀ (v : Value) (w : World), Calls Try.prog 59 #[.agg #[.int .i64 p.fl, .int .i64 p.fh, .int .i64 p.bl, .int .i64 p.bh, .int .i64 p.ti, .int .i64 p.ne, .int .i64 p.fa, v], .agg #[.int .i64 xa, .int .i64 xb, .int .i64 xc, .int .i64 xd, .int .i64 xe, .int .i64 xf, .int .i64 xg, .int .i64 xh, .int .i64 xz]] w fun e w' => e = .returned (.agg #[.int .i64 q1, .int .i64 q2]) ∧ Below w.heap.size w w')) (hem : decide ((ovl (x, y) (q1, q2)).2 < (ovl (x, y) (q1, q2)).1) = true) (bd : -4000 ≤ xd ∧ xd ≤ 4000) (bh : -4000 ≤ xh ∧ xh ≤ 4000) (bt : 0 ≤ p.ti ∧ p.ti ≤ 1000) (hlv : (decide (xc ≤ xh + p.ti) && decide (xg ≤ xd + p.ti)) = true) (ba : -4000 ≤ xa ∧ xa ≤ 4000) (bb : -4000 ≤ xb ∧ xb ≤ 4000) (be : -4000 ≤ xe ∧ xe ≤ 4000) (bf : -4000 ≤ xf ∧ xf ≤ 4000) (bn : 0 ≤ p.ne ∧ p.ne ≤ 1073741824) (h1 : decide (xb - xe < 0) = false) (h2 : decide (2000 < xa - xf) = false) (h3 : decide (y < (xa - xf) * p.ne) = true) :
    Calls Try.prog 22 #[.agg #[.int .i64 p.fl, .int .i64 p.fh, .int .i64 p.bl, .int .i64 p.bh, .int .i64 p.ti, .int .i64 p.ne, .int .i64 p.fa, .slice sp len cap], .int .i64 n] w fun e w' => e = .returned (.tuple #[.int .i64 3, .int .i64 0]) ∧ Below w.heap.size w w' := by
  have TH := Lib.hid (fun (W : World) (hg : Gr (w.alloc (.cells #[.int .i64 p.fl, .int .i64 p.fh, .int .i64 p.bl, .int .i64 p.bh, .int .i64 p.ti, .int .i64 p.ne, .int .i64 p.fa, .slice sp len cap] 26)) W) => ThingsAt.lasts p.l _ _ _ hT ((Gr.alloc _ _).tr hg))
  have hal := @cal
  have hT2 := hT.2
  rcases hT2 with ⟨e, -⟩ | ⟨b, o, cap', hsp, hb, hcx⟩
  · have := HK.out; rw [e] at this; cases this
  obtain ⟨hsp1, -, -⟩ : sp = some ⟨b, o, none⟩ ∧ len = p.l.length ∧ cap = cap' := by simpa using hsp
  subst hsp1
  have HX0 := Lib.hid (hcx n _ HK.out)
  have HLV : Hid (∀ W : World, Calls Try.prog 60 #[.agg #[.int .i64 xa, .int .i64 xb, .int .i64 xc, .int .i64 xd, .int .i64 xe, .int .i64 xf, .int .i64 xg, .int .i64 xh, .int .i64 xz], .int .i64 p.ti] W fun e w' => e = .returned (.bool true) ∧ Below W.heap.size W w') := Lib.hid fun W => by
    have := rlevel_any xa xb xc xd xe xf xg xh xz p.ti W bd bh bt
    rwa [hlv] at this
  clear hlv
  obtain ⟨o1, o2, hov⟩ : ∃ o1 o2, ovl (x, y) (q1, q2) = (o1, o2) := ⟨_, _, rfl⟩
  have HC : Hid (∀ W : World, Calls Try.prog 58 #[.agg #[.int .i64 x, .int .i64 y], .agg #[.int .i64 q1, .int .i64 q2]] W fun e w' => e = .returned (.agg #[.int .i64 o1, .int .i64 o2]) ∧ Below W.heap.size W w') := Lib.hid fun W => by
    have := rcommon_any x y q1 q2 W
    rwa [hov] at this
  rw [hov] at hem
  simp only at hem
  clear hT hcx hsp hov
  go_enter Try.func22, Try.ntmps22
  go_wp2_with fail
  refine regionL 9 7 ?_ ?_ ?_
  · kernel_rfl
  · kernel_rfl
  simp only [List.take_succ_cons, List.take_zero, List.drop_succ_cons, List.drop_zero]
  apply chainB_eq (D := [(2, none)]) rfl (by kernel_rfl)
  · intro ρ W ⟨p1, p2, p3⟩ hG hF K hK; (try simp [FactsD] at hF); have ⟨hc, hf, hz⟩ := bcell (Gr.tr (Gr.drew _) hG); go_simp; exact hK _ (gives_val)
  apply chainB_eq (D := [(2, none)]) rfl (by kernel_rfl)
  · intro ρ W ⟨p1, p2, p3⟩ hG hF K hK; (try simp [FactsD] at hF); have ⟨hc, hf, hz⟩ := bcell (Gr.tr (Gr.drew _) hG); go_simp; exact hK _ (gives_val)
  apply chainB_eq (D := [(1, none)]) rfl (by kernel_rfl)
  · intro ρ W ⟨p1, p2, p3⟩ hG hF K hK; (try simp [FactsD] at hF); have ⟨hc, hf, hz⟩ := bcell (Gr.tr (Gr.drew _) hG); go_simp; exact hK _ (gives_val)
  apply chainB_eq (D := [(12, some 1), (13, some 0)]) rfl (by kernel_rfl)
  · intro ρ W ⟨p1, p2, p3⟩ hG hF K hK; (try simp [FactsD, exB] at hF); have ⟨hc, hf, hz⟩ := bcell (Gr.tr (Gr.drew _) hG); go_simp; exact hK _ (gives_call (rthing_is hl hk.out))
  apply chainB_eq (D := [(11, some 3), (14, some 0)]) rfl (by kernel_rfl)
  · intro ρ W ⟨p1, p2, p3⟩ hG hF K hK; (try simp [FactsD, exB] at hF); have ⟨hc, hf, hz⟩ := bcell (Gr.tr (Gr.drew _) hG); go_simp; exact hK _ (gives_call (ropen_is ho.out (TH.out _ ((Gr.drew _).tr hG))))
  apply chainB_eq (D := [(15, some 0)]) rfl (by kernel_rfl)
  · intro ρ W ⟨p1, p2, p3⟩ hG hF K hK; (try simp [FactsD, exB] at hF); have ⟨hc, hf, hz⟩ := bcell (Gr.tr (Gr.drew _) hG); go_simp; exact hK _ (gives_val)
  apply chainB_eq (D := [(10, some 0)]) rfl (by kernel_rfl)
  · intro ρ W ⟨p1, p2, p3⟩ hG hF K hK; (try simp [FactsD, exB] at hF); have ⟨hc, hf, hz⟩ := bcell (Gr.tr (Gr.drew _) hG); go_simp; exact hK _ (gives_val)
  apply chainB_eq (D := [(10, some 1)]) rfl (by kernel_rfl)
  · intro ρ W ⟨p1, p2, p3⟩ hG hF K hK; (try simp [FactsD, exB] at hF); have ⟨hc, hf, hz⟩ := bcell (Gr.tr (Gr.drew _) hG); go_simp; exact hK _ (gives_val)
  refine chainB_any (V := fun p v W' => NewB [.int .i64 0, .int .i64 0] 23 p v W' ∧ w.heap.size + 1 ≤ p.1) (D := []) rfl (by kernel_rfl) (fun p v A B h hg => ⟨NewB.lasts _ _ p v A B h.1 hg, h.2⟩) ?_ ?_
  · intro ρ W ⟨p1, p2, p3⟩ hG hF K hK; (try simp [FactsD] at hF); have ⟨hc, hf, hz⟩ := bcell (Gr.tr (Gr.drew _) hG); go_simp; exact hK _ (⟨⟨NewB.new _ _ _, by have := hG.size; simpa using this⟩, Gr.alloc _ _⟩)
  refine chainB_done ⟨?_, ?_⟩
  · intro vs bs W hG hV hdj
    obtain ⟨e8, e7, e6, -⟩ := hV
    simp only [Nat.reduceSub] at e6
    simp only [Nat.reduceSub] at e7
    simp only [Nat.reduceSub] at e8
    clear hdj
    simp only [lay, Act.put, List.getElem?_toArray, List.getElem?_cons_succ, List.getElem?_cons_zero, Option.bind_some, List.setIfInBounds_toArray, List.set_cons_succ, List.set_cons_zero]
    generalize vs 0 = v0
    generalize vs 1 = v1
    generalize vs 2 = v2
    generalize vs 3 = v3
    generalize vs 4 = v4
    generalize vs 5 = v5
    generalize vs 6 = v6 at *
    generalize vs 7 = v7 at *
    generalize vs 8 = v8 at *
    subst e6
    subst e7
    obtain ⟨hc, hf, hz⟩ := bcell hG
    obtain ⟨⟨b8, rfl, hb8, hb8', hB8⟩, hb8n⟩ := e8
    have hl0 : w.heap.size < b8 := by omega
    have m0 := Nat.ne_of_lt hl0
    have m1 := (Nat.ne_of_lt hl0).symm
    have hgW : Gr (w.alloc (.cells #[.int .i64 p.fl, .int .i64 p.fh, .int .i64 p.bl, .int .i64 p.bh, .int .i64 p.ti, .int .i64 p.ne, .int .i64 p.fa, .slice (some ⟨b, o, none⟩) len cap] 26)) W := hG
    have P0 := ((Box.fresh w [.int .i64 p.fl, .int .i64 p.fh, .int .i64 p.bl, .int .i64 p.bh, .int .i64 p.ti, .int .i64 p.ne, .int .i64 p.fa, .slice (some ⟨b, o, none⟩) len cap] 26).grow hgW).facts
    simp only [CellsFrom, Nat.zero_add, Nat.reduceAdd, and_true] at P0
    obtain ⟨y0_, y1_, yf0, yf1, yl⟩ := hB8.two
    have HGW := Lib.hid hgW
    have HB8 := Lib.hid hB8
    clear hB8 hb8 hb8' hb8n hgW hG hc hf hz
    have X := CellsFrom.nine (HX0.out.grow hb ((Gr.alloc _ _).tr HGW.out))
    simp only at X
    have hne8 : ¬ b = b8 := by omega
    have hne8' : ¬ b8 = b := by omega
    have hbW : b < W.heap.size := Nat.lt_of_lt_of_le hb (Nat.le_trans (Nat.le_succ _) (by have := HGW.out.size; simpa using this))
    go_wp2_with fail
    have h8 : Box (((W.setCell ⟨b8, 0, none⟩ (.int .i64 x)).setCell ⟨b8, 1, none⟩ (.int .i64 y)).alloc (.cells #[.int .i64 xa, .int .i64 xb, .int .i64 xc, .int .i64 xd, .int .i64 xe, .int .i64 xf, .int .i64 xg, .int .i64 xh, .int .i64 xz] 47)) b8 [.int .i64 x, .int .i64 y] 23 := ((HB8.out.put 0 _).put 1 _).grow (Gr.alloc _ _)
    have hp5 : Box (((W.setCell ⟨b8, 0, none⟩ (.int .i64 x)).setCell ⟨b8, 1, none⟩ (.int .i64 y)).alloc (.cells #[.int .i64 xa, .int .i64 xb, .int .i64 xc, .int .i64 xd, .int .i64 xe, .int .i64 xf, .int .i64 xg, .int .i64 xh, .int .i64 xz] 47)) w.heap.size [.int .i64 p.fl, .int .i64 p.fh, .int .i64 p.bl, .int .i64 p.bh, .int .i64 p.ti, .int .i64 p.ne, .int .i64 p.fa, .slice (some ⟨b, o, none⟩) len cap] 26 := ((((Box.fresh w [.int .i64 p.fl, .int .i64 p.fh, .int .i64 p.bl, .int .i64 p.bh, .int .i64 p.ti, .int .i64 p.ne, .int .i64 p.fa, .slice (some ⟨b, o, none⟩) len cap] 26).grow HGW.out).other m0 _ _).other m0 _ _).grow (Gr.alloc _ _)
    have ht5 : Box (((W.setCell ⟨b8, 0, none⟩ (.int .i64 x)).setCell ⟨b8, 1, none⟩ (.int .i64 y)).alloc (.cells #[.int .i64 xa, .int .i64 xb, .int .i64 xc, .int .i64 xd, .int .i64 xe, .int .i64 xf, .int .i64 xg, .int .i64 xh, .int .i64 xz] 47)) W.heap.size [.int .i64 xa, .int .i64 xb, .int .i64 xc, .int .i64 xd, .int .i64 xe, .int .i64 xf, .int .i64 xg, .int .i64 xh, .int .i64 xz] 47 := by
      have := Box.fresh ((W.setCell ⟨b8, 0, none⟩ (.int .i64 x)).setCell ⟨b8, 1, none⟩ (.int .i64 y)) [.int .i64 xa, .int .i64 xb, .int .i64 xc, .int .i64 xd, .int .i64 xe, .int .i64 xf, .int .i64 xg, .int .i64 xh, .int .i64 xz] 47
      simpa using this
    have hw5 : Below w.heap.size w (((W.setCell ⟨b8, 0, none⟩ (.int .i64 x)).setCell ⟨b8, 1, none⟩ (.int .i64 y)).alloc (.cells #[.int .i64 xa, .int .i64 xb, .int .i64 xc, .int .i64 xd, .int .i64 xe, .int .i64 xf, .int .i64 xg, .int .i64 xh, .int .i64 xz] 47)) := (((show Below w.heap.size w W from (Gr.alloc _ _).tr HGW.out).setCell (by first | (simp; done) | (simp; omega) | omega) _).setCell (by first | (simp; done) | (simp; omega) | omega) _).alloc (by first | (simp; done) | (simp; omega) | omega) _
    clear X hbW y0_ y1_ yf0 yf1 P0 HB8 HGW
    generalize (((W.setCell ⟨b8, 0, none⟩ (.int .i64 x)).setCell ⟨b8, 1, none⟩ (.int .i64 y)).alloc (.cells #[.int .i64 xa, .int .i64 xb, .int .i64 xc, .int .i64 xd, .int .i64 xe, .int .i64 xf, .int .i64 xg, .int .i64 xh, .int .i64 xz] 47)) = W5 at *
    generalize W.heap.size = bt at *
    have C8 := h8.facts
    have CP := hp5.facts
    have CT := ht5.facts
    simp only [CellsFrom, Nat.zero_add, Nat.reduceAdd, and_true] at C8 CP CT
    have H8 := Lib.hid h8
    have HP5 := Lib.hid hp5
    have HT5 := Lib.hid ht5
    have HW5 := Lib.hid hw5
    clear h8 hp5 ht5 hw5
    refine region2 7 ?_ ?_ ?_
    · kernel_rfl
    · kernel_rfl
    simp only [List.take_succ_cons, List.take_zero, List.drop_succ_cons, List.drop_zero]
    apply chain_eq (D := [(6, none)]) rfl (by kernel_rfl)
    · intro ρ W ⟨p1, p2, p3⟩ hG hF K hK; (try simp [FactsD] at hF); have ⟨hc, hf, hz⟩ := bcell (Gr.tr (Gr.drew _) hG); go_simp; exact hK _ (gives_val)
    apply chain_eq (D := [(2, none)]) rfl (by kernel_rfl)
    · intro ρ W ⟨p1, p2, p3⟩ hG hF K hK; (try simp [FactsD] at hF); have ⟨hc, hf, hz⟩ := bcell (Gr.tr (Gr.drew _) hG); go_simp; exact hK _ (gives_val)
    apply chain_eq (D := [(8, none)]) rfl (by kernel_rfl)
    · intro ρ W ⟨p1, p2, p3⟩ hG hF K hK; (try simp [FactsD] at hF); have ⟨hc, hf, hz⟩ := bcell (Gr.tr (Gr.drew _) hG); go_simp; exact hK _ (gives_val)
    apply chain_eq (D := [(27, some 1), (28, some 0)]) rfl (by kernel_rfl)
    · intro ρ W ⟨p1, p2, p3⟩ hG hF K hK; (try simp [FactsD] at hF); have ⟨hc, hf, hz⟩ := bcell (Gr.tr (Gr.drew _) hG); go_simp; exact hK _ (gives_call (HPT.out _ _))
    apply chain_eq (D := [(26, some 3), (29, some 0)]) rfl (by kernel_rfl)
    · intro ρ W ⟨p1, p2, p3⟩ hG hF K hK; (try simp [FactsD] at hF); have ⟨hc, hf, hz⟩ := bcell (Gr.tr (Gr.drew _) hG); go_simp; exact hK _ (gives_call (HC.out _))
    apply chain_eq (D := [(30, some 0)]) rfl (by kernel_rfl)
    · intro ρ W ⟨p1, p2, p3⟩ hG hF K hK; (try simp [FactsD] at hF); have ⟨hc, hf, hz⟩ := bcell (Gr.tr (Gr.drew _) hG); go_simp; exact hK _ (gives_call (rempty_any _ _ _))
    apply chain_eq (D := [(31, some 0)]) rfl (by kernel_rfl)
    · intro ρ W ⟨p1, p2, p3⟩ hG hF K hK; (try simp [FactsD] at hF); have ⟨hc, hf, hz⟩ := bcell (Gr.tr (Gr.drew _) hG); go_simp; exact hK _ (gives_val)
    refine chain_done ?_
    intro vs W hG hV
    obtain ⟨e6, -⟩ := hV
    simp only [Nat.reduceSub] at e6
    simp only [lay, Act.put, List.getElem?_toArray, List.getElem?_cons_succ, List.getElem?_cons_zero, Option.bind_some, List.setIfInBounds_toArray, List.set_cons_succ, List.set_cons_zero]
    generalize vs 0 = v0
    generalize vs 1 = v1
    generalize vs 2 = v2
    generalize vs 3 = v3
    generalize vs 4 = v4
    generalize vs 5 = v5
    generalize vs 6 = v6 at *
    subst e6
    obtain ⟨hc, hf, hz⟩ := bcell hG
    have C8 := (H8.out.grow hG).facts
    have CP := (HP5.out.grow hG).facts
    have CT := (HT5.out.grow hG).facts
    simp only [CellsFrom, Nat.zero_add, Nat.reduceAdd, and_true] at C8 CP CT
    have HW6 := Lib.hid (bgr HW5.out HW5.out.size hG)
    have HG6 := Lib.hid hG
    clear hc hf hz hG
    go_wp2_with fail
    refine (HLV.out _).mono ?_
    rintro e w6 ⟨rfl, hb6⟩
    have C8' := (((H8.out.grow HG6.out).grow hb6)).facts
    have CP' := (((HP5.out.grow HG6.out).grow hb6)).facts
    have CT' := (((HT5.out.grow HG6.out).grow hb6)).facts
    simp only [CellsFrom, Nat.zero_add, Nat.reduceAdd, and_true] at C8' CP' CT'
    clear C8 CP CT
    go_wp2_with fail
    refine (rof_any xa xb xc xd xe xf xg xh xz w6 ba bb be bf).mono ?_
    rintro e w7 ⟨rfl, hb7⟩
    have C9 := ((((H8.out.grow HG6.out).grow hb6)).grow hb7).facts
    have CQ := ((((HP5.out.grow HG6.out).grow hb6)).grow hb7).facts
    simp only [CellsFrom, Nat.zero_add, Nat.reduceAdd, and_true] at C9 CQ
    obtain ⟨m0', m1'⟩ := mulb (a := xa - xf) (b := p.ne) (by omega) (by omega) bn.1 bn.2
    obtain ⟨ba0, ba1⟩ := ba
    obtain ⟨bb0, bb1⟩ := bb
    obtain ⟨be0, be1⟩ := be
    obtain ⟨bf0, bf1⟩ := bf
    have HW7 := Lib.hid (bgr (bgr HW6.out HW6.out.size hb6) (bgr HW6.out HW6.out.size hb6).size hb7)
    clear C8' CP' CT' hb6 hb7
    go_wp2
    go_ret2
    exact ⟨rfl, HW7.out.alloc (by have := HW7.out.size; omega) _⟩
  · intro vs bs W hG hV hdj
    obtain ⟨e8, -, e6, e5, -⟩ := hV
    simp only [Nat.reduceSub, Nat.reduceEqDiff, if_false] at e5
    simp only [Nat.reduceSub, Nat.reduceEqDiff, if_false] at e6
    simp only [Nat.reduceSub, Nat.reduceEqDiff, if_false] at e8
    clear hdj
    refine wpOp_two rfl rfl ?_
    simp only [layL, Nat.reduceEqDiff, if_false, if_true, Act.put, List.getElem?_toArray, List.getElem?_cons_succ, List.getElem?_cons_zero, Option.bind_some, List.setIfInBounds_toArray, List.set_cons_succ, List.set_cons_zero, List.drop_succ_cons, List.drop_zero]
    generalize vs 0 = v0
    generalize vs 1 = v1
    generalize vs 2 = v2
    generalize vs 3 = v3
    generalize vs 4 = v4
    generalize vs 5 = v5 at *
    generalize vs 6 = v6 at *
    generalize vs 8 = v8 at *
    subst e5
    subst e6
    obtain ⟨hc, hf, hz⟩ := bcell hG
    obtain ⟨⟨b8, rfl, hb8, hb8', hB8⟩, hb8n⟩ := e8
    have hl0 : w.heap.size < b8 := by omega
    have m0 := Nat.ne_of_lt hl0
    have m1 := (Nat.ne_of_lt hl0).symm
    have hgW : Gr (w.alloc (.cells #[.int .i64 p.fl, .int .i64 p.fh, .int .i64 p.bl, .int .i64 p.bh, .int .i64 p.ti, .int .i64 p.ne, .int .i64 p.fa, .slice (some ⟨b, o, none⟩) len cap] 26)) W := hG
    have P0 := ((Box.fresh w [.int .i64 p.fl, .int .i64 p.fh, .int .i64 p.bl, .int .i64 p.bh, .int .i64 p.ti, .int .i64 p.ne, .int .i64 p.fa, .slice (some ⟨b, o, none⟩) len cap] 26).grow hgW).facts
    simp only [CellsFrom, Nat.zero_add, Nat.reduceAdd, and_true] at P0
    obtain ⟨y0_, y1_, yf0, yf1, yl⟩ := hB8.two
    have HGW := Lib.hid hgW
    have HB8 := Lib.hid hB8
    clear hB8 hb8 hb8' hb8n hgW hG hc hf hz
    have X := CellsFrom.nine (HX0.out.grow hb ((Gr.alloc _ _).tr HGW.out))
    simp only at X
    have hne8 : ¬ b = b8 := by omega
    have hne8' : ¬ b8 = b := by omega
    have hbW : b < W.heap.size := Nat.lt_of_lt_of_le hb (Nat.le_trans (Nat.le_succ _) (by have := HGW.out.size; simpa using this))
    go_wp2_with fail
    have h8 : Box (((W.setCell ⟨b8, 0, none⟩ (.int .i64 x)).setCell ⟨b8, 1, none⟩ (.int .i64 y)).alloc (.cells #[.int .i64 xa, .int .i64 xb, .int .i64 xc, .int .i64 xd, .int .i64 xe, .int .i64 xf, .int .i64 xg, .int .i64 xh, .int .i64 xz] 47)) b8 [.int .i64 x, .int .i64 y] 23 := ((HB8.out.put 0 _).put 1 _).grow (Gr.alloc _ _)
    have hp5 : Box (((W.setCell ⟨b8, 0, none⟩ (.int .i64 x)).setCell ⟨b8, 1, none⟩ (.int .i64 y)).alloc (.cells #[.int .i64 xa, .int .i64 xb, .int .i64 xc, .int .i64 xd, .int .i64 xe, .int .i64 xf, .int .i64 xg, .int .i64 xh, .int .i64 xz] 47)) w.heap.size [.int .i64 p.fl, .int .i64 p.fh, .int .i64 p.bl, .int .i64 p.bh, .int .i64 p.ti, .int .i64 p.ne, .int .i64 p.fa, .slice (some ⟨b, o, none⟩) len cap] 26 := ((((Box.fresh w [.int .i64 p.fl, .int .i64 p.fh, .int .i64 p.bl, .int .i64 p.bh, .int .i64 p.ti, .int .i64 p.ne, .int .i64 p.fa, .slice (some ⟨b, o, none⟩) len cap] 26).grow HGW.out).other m0 _ _).other m0 _ _).grow (Gr.alloc _ _)
    have ht5 : Box (((W.setCell ⟨b8, 0, none⟩ (.int .i64 x)).setCell ⟨b8, 1, none⟩ (.int .i64 y)).alloc (.cells #[.int .i64 xa, .int .i64 xb, .int .i64 xc, .int .i64 xd, .int .i64 xe, .int .i64 xf, .int .i64 xg, .int .i64 xh, .int .i64 xz] 47)) W.heap.size [.int .i64 xa, .int .i64 xb, .int .i64 xc, .int .i64 xd, .int .i64 xe, .int .i64 xf, .int .i64 xg, .int .i64 xh, .int .i64 xz] 47 := by
      have := Box.fresh ((W.setCell ⟨b8, 0, none⟩ (.int .i64 x)).setCell ⟨b8, 1, none⟩ (.int .i64 y)) [.int .i64 xa, .int .i64 xb, .int .i64 xc, .int .i64 xd, .int .i64 xe, .int .i64 xf, .int .i64 xg, .int .i64 xh, .int .i64 xz] 47
      simpa using this
    have hw5 : Below w.heap.size w (((W.setCell ⟨b8, 0, none⟩ (.int .i64 x)).setCell ⟨b8, 1, none⟩ (.int .i64 y)).alloc (.cells #[.int .i64 xa, .int .i64 xb, .int .i64 xc, .int .i64 xd, .int .i64 xe, .int .i64 xf, .int .i64 xg, .int .i64 xh, .int .i64 xz] 47)) := (((show Below w.heap.size w W from (Gr.alloc _ _).tr HGW.out).setCell (by first | (simp; done) | (simp; omega) | omega) _).setCell (by first | (simp; done) | (simp; omega) | omega) _).alloc (by first | (simp; done) | (simp; omega) | omega) _
    clear X hbW y0_ y1_ yf0 yf1 P0 HB8 HGW
    generalize (((W.setCell ⟨b8, 0, none⟩ (.int .i64 x)).setCell ⟨b8, 1, none⟩ (.int .i64 y)).alloc (.cells #[.int .i64 xa, .int .i64 xb, .int .i64 xc, .int .i64 xd, .int .i64 xe, .int .i64 xf, .int .i64 xg, .int .i64 xh, .int .i64 xz] 47)) = W5 at *
    generalize W.heap.size = bt at *
    have C8 := h8.facts
    have CP := hp5.facts
    have CT := ht5.facts
    simp only [CellsFrom, Nat.zero_add, Nat.reduceAdd, and_true] at C8 CP CT
    have H8 := Lib.hid h8
    have HP5 := Lib.hid hp5
    have HT5 := Lib.hid ht5
    have HW5 := Lib.hid hw5
    clear h8 hp5 ht5 hw5
    refine region2 7 ?_ ?_ ?_
    · kernel_rfl
    · kernel_rfl
    simp only [List.take_succ_cons, List.take_zero, List.drop_succ_cons, List.drop_zero]
    apply chain_eq (D := [(6, none)]) rfl (by kernel_rfl)
    · intro ρ W ⟨p1, p2, p3⟩ hG hF K hK; (try simp [FactsD] at hF); have ⟨hc, hf, hz⟩ := bcell (Gr.tr (Gr.drew _) hG); go_simp; exact hK _ (gives_val)
    apply chain_eq (D := [(2, none)]) rfl (by kernel_rfl)
    · intro ρ W ⟨p1, p2, p3⟩ hG hF K hK; (try simp [FactsD] at hF); have ⟨hc, hf, hz⟩ := bcell (Gr.tr (Gr.drew _) hG); go_simp; exact hK _ (gives_val)
    apply chain_eq (D := [(8, none)]) rfl (by kernel_rfl)
    · intro ρ W ⟨p1, p2, p3⟩ hG hF K hK; (try simp [FactsD] at hF); have ⟨hc, hf, hz⟩ := bcell (Gr.tr (Gr.drew _) hG); go_simp; exact hK _ (gives_val)
    apply chain_eq (D := [(27, some 1), (28, some 0)]) rfl (by kernel_rfl)
    · intro ρ W ⟨p1, p2, p3⟩ hG hF K hK; (try simp [FactsD] at hF); have ⟨hc, hf, hz⟩ := bcell (Gr.tr (Gr.drew _) hG); go_simp; exact hK _ (gives_call (HPT.out _ _))
    apply chain_eq (D := [(26, some 3), (29, some 0)]) rfl (by kernel_rfl)
    · intro ρ W ⟨p1, p2, p3⟩ hG hF K hK; (try simp [FactsD] at hF); have ⟨hc, hf, hz⟩ := bcell (Gr.tr (Gr.drew _) hG); go_simp; exact hK _ (gives_call (HC.out _))
    apply chain_eq (D := [(30, some 0)]) rfl (by kernel_rfl)
    · intro ρ W ⟨p1, p2, p3⟩ hG hF K hK; (try simp [FactsD] at hF); have ⟨hc, hf, hz⟩ := bcell (Gr.tr (Gr.drew _) hG); go_simp; exact hK _ (gives_call (rempty_any _ _ _))
    apply chain_eq (D := [(31, some 0)]) rfl (by kernel_rfl)
    · intro ρ W ⟨p1, p2, p3⟩ hG hF K hK; (try simp [FactsD] at hF); have ⟨hc, hf, hz⟩ := bcell (Gr.tr (Gr.drew _) hG); go_simp; exact hK _ (gives_val)
    refine chain_done ?_
    intro vs W hG hV
    obtain ⟨e6, -⟩ := hV
    simp only [Nat.reduceSub] at e6
    simp only [lay, Act.put, List.getElem?_toArray, List.getElem?_cons_succ, List.getElem?_cons_zero, Option.bind_some, List.setIfInBounds_toArray, List.set_cons_succ, List.set_cons_zero]
    generalize vs 0 = v0
    generalize vs 1 = v1
    generalize vs 2 = v2
    generalize vs 3 = v3
    generalize vs 4 = v4
    generalize vs 5 = v5
    generalize vs 6 = v6 at *
    subst e6
    obtain ⟨hc, hf, hz⟩ := bcell hG
    have C8 := (H8.out.grow hG).facts
    have CP := (HP5.out.grow hG).facts
    have CT := (HT5.out.grow hG).facts
    simp only [CellsFrom, Nat.zero_add, Nat.reduceAdd, and_true] at C8 CP CT
    have HW6 := Lib.hid (bgr HW5.out HW5.out.size hG)
    have HG6 := Lib.hid hG
    clear hc hf hz hG
    go_wp2_with fail
    refine (HLV.out _).mono ?_
    rintro e w6 ⟨rfl, hb6⟩
    have C8' := (((H8.out.grow HG6.out).grow hb6)).facts
    have CP' := (((HP5.out.grow HG6.out).grow hb6)).facts
    have CT' := (((HT5.out.grow HG6.out).grow hb6)).facts
    simp only [CellsFrom, Nat.zero_add, Nat.reduceAdd, and_true] at C8' CP' CT'
    clear C8 CP CT
    go_wp2_with fail
    refine (rof_any xa xb xc xd xe xf xg xh xz w6 ba bb be bf).mono ?_
    rintro e w7 ⟨rfl, hb7⟩
    have C9 := ((((H8.out.grow HG6.out).grow hb6)).grow hb7).facts
    have CQ := ((((HP5.out.grow HG6.out).grow hb6)).grow hb7).facts
    simp only [CellsFrom, Nat.zero_add, Nat.reduceAdd, and_true] at C9 CQ
    obtain ⟨m0', m1'⟩ := mulb (a := xa - xf) (b := p.ne) (by omega) (by omega) bn.1 bn.2
    obtain ⟨ba0, ba1⟩ := ba
    obtain ⟨bb0, bb1⟩ := bb
    obtain ⟨be0, be1⟩ := be
    obtain ⟨bf0, bf1⟩ := bf
    have HW7 := Lib.hid (bgr (bgr HW6.out HW6.out.size hb6) (bgr HW6.out HW6.out.size hb6).size hb7)
    clear C8' CP' CT' hb6 hb7
    go_wp2
    go_ret2
    exact ⟨rfl, HW7.out.alloc (by have := HW7.out.size; omega) _⟩
set_option maxRecDepth 100000 in
set_option maxHeartbeats 4000000 in
theorem rwhy_far (p : Pr) (sp : Option Addr) (len cap : Nat) (n : Nat) (xa xb xc xd xe xf xg xh xz x y q1 q2 : Int) (w : World) (hT : ThingsAt p.l (.slice sp len cap) w) (hl : len ≤ 1000) (hk : Hid ((decide (0 ≤ (n : Int)) && decide ((n : Int) < (len : Int))) = true)) (hkl : n < len) (HK : Hid (p.l[n]? = some ⟨xa, xb, xc, xd, xe, xf, xg, xh, xz⟩)) (ho : Hid (p.ropen true = (x, y, 0))) (HPT : Hid (∀ (v : Value) (w : World), Calls Try.prog 59 #[.agg #[.int .i64 p.fl, .int .i64 p.fh, .int .i64 p.bl, .int .i64 p.bh, .int .i64 p.ti, .int .i64 p.ne, .int .i64 p.fa, v], .agg #[.int .i64 xa, .int .i64 xb, .int .i64 xc, .int .i64 xd, .int .i64 xe, .int .i64 xf, .int .i64 xg, .int .i64 xh, .int .i64 xz]] w fun e w' => e = .returned (.agg #[.int .i64 q1, .int .i64 q2]) ∧ Below w.heap.size w w')) (hem : decide ((ovl (x, y) (q1, q2)).2 < (ovl (x, y) (q1, q2)).1) = true) (bd : -4000 ≤ xd ∧ xd ≤ 4000) (bh : -4000 ≤ xh ∧ xh ≤ 4000) (bt : 0 ≤ p.ti ∧ p.ti ≤ 1000) (hlv : (decide (xc ≤ xh + p.ti) && decide (xg ≤ xd + p.ti)) = true) (ba : -4000 ≤ xa ∧ xa ≤ 4000) (bb : -4000 ≤ xb ∧ xb ≤ 4000) (be : -4000 ≤ xe ∧ xe ≤ 4000) (bf : -4000 ≤ xf ∧ xf ≤ 4000) (bn : 0 ≤ p.ne ∧ p.ne ≤ 1073741824) (h1 : decide (xb - xe < 0) = false) (h2 : decide (2000 < xa - xf) = false) (h3 : decide (y < (xa - xf) * p.ne) = false) :
    Calls Try.prog 22 #[.agg #[.int .i64 p.fl, .int .i64 p.fh, .int .i64 p.bl, .int .i64 p.bh, .int .i64 p.ti, .int .i64 p.ne, .int .i64 p.fa, .slice sp len cap], .int .i64 n] w fun e w' => e = .returned (.tuple #[.int .i64 4, .int .i64 0]) ∧ Below w.heap.size w w' := by
  have TH := Lib.hid (fun (W : World) (hg : Gr (w.alloc (.cells #[.int .i64 p.fl, .int .i64 p.fh, .int .i64 p.bl, .int .i64 p.bh, .int .i64 p.ti, .int .i64 p.ne, .int .i64 p.fa, .slice sp len cap] 26)) W) => ThingsAt.lasts p.l _ _ _ hT ((Gr.alloc _ _).tr hg))
  have hal := @cal
  have hT2 := hT.2
  rcases hT2 with ⟨e, -⟩ | ⟨b, o, cap', hsp, hb, hcx⟩
  · have := HK.out; rw [e] at this; cases this
  obtain ⟨hsp1, -, -⟩ : sp = some ⟨b, o, none⟩ ∧ len = p.l.length ∧ cap = cap' := by simpa using hsp
  subst hsp1
  have HX0 := Lib.hid (hcx n _ HK.out)
  have HLV : Hid (∀ W : World, Calls Try.prog 60 #[.agg #[.int .i64 xa, .int .i64 xb, .int .i64 xc, .int .i64 xd, .int .i64 xe, .int .i64 xf, .int .i64 xg, .int .i64 xh, .int .i64 xz], .int .i64 p.ti] W fun e w' => e = .returned (.bool true) ∧ Below W.heap.size W w') := Lib.hid fun W => by
    have := rlevel_any xa xb xc xd xe xf xg xh xz p.ti W bd bh bt
    rwa [hlv] at this
  clear hlv
  obtain ⟨o1, o2, hov⟩ : ∃ o1 o2, ovl (x, y) (q1, q2) = (o1, o2) := ⟨_, _, rfl⟩
  have HC : Hid (∀ W : World, Calls Try.prog 58 #[.agg #[.int .i64 x, .int .i64 y], .agg #[.int .i64 q1, .int .i64 q2]] W fun e w' => e = .returned (.agg #[.int .i64 o1, .int .i64 o2]) ∧ Below W.heap.size W w') := Lib.hid fun W => by
    have := rcommon_any x y q1 q2 W
    rwa [hov] at this
  rw [hov] at hem
  simp only at hem
  clear hT hcx hsp hov
  go_enter Try.func22, Try.ntmps22
  go_wp2_with fail
  refine regionL 9 7 ?_ ?_ ?_
  · kernel_rfl
  · kernel_rfl
  simp only [List.take_succ_cons, List.take_zero, List.drop_succ_cons, List.drop_zero]
  apply chainB_eq (D := [(2, none)]) rfl (by kernel_rfl)
  · intro ρ W ⟨p1, p2, p3⟩ hG hF K hK; (try simp [FactsD] at hF); have ⟨hc, hf, hz⟩ := bcell (Gr.tr (Gr.drew _) hG); go_simp; exact hK _ (gives_val)
  apply chainB_eq (D := [(2, none)]) rfl (by kernel_rfl)
  · intro ρ W ⟨p1, p2, p3⟩ hG hF K hK; (try simp [FactsD] at hF); have ⟨hc, hf, hz⟩ := bcell (Gr.tr (Gr.drew _) hG); go_simp; exact hK _ (gives_val)
  apply chainB_eq (D := [(1, none)]) rfl (by kernel_rfl)
  · intro ρ W ⟨p1, p2, p3⟩ hG hF K hK; (try simp [FactsD] at hF); have ⟨hc, hf, hz⟩ := bcell (Gr.tr (Gr.drew _) hG); go_simp; exact hK _ (gives_val)
  apply chainB_eq (D := [(12, some 1), (13, some 0)]) rfl (by kernel_rfl)
  · intro ρ W ⟨p1, p2, p3⟩ hG hF K hK; (try simp [FactsD, exB] at hF); have ⟨hc, hf, hz⟩ := bcell (Gr.tr (Gr.drew _) hG); go_simp; exact hK _ (gives_call (rthing_is hl hk.out))
  apply chainB_eq (D := [(11, some 3), (14, some 0)]) rfl (by kernel_rfl)
  · intro ρ W ⟨p1, p2, p3⟩ hG hF K hK; (try simp [FactsD, exB] at hF); have ⟨hc, hf, hz⟩ := bcell (Gr.tr (Gr.drew _) hG); go_simp; exact hK _ (gives_call (ropen_is ho.out (TH.out _ ((Gr.drew _).tr hG))))
  apply chainB_eq (D := [(15, some 0)]) rfl (by kernel_rfl)
  · intro ρ W ⟨p1, p2, p3⟩ hG hF K hK; (try simp [FactsD, exB] at hF); have ⟨hc, hf, hz⟩ := bcell (Gr.tr (Gr.drew _) hG); go_simp; exact hK _ (gives_val)
  apply chainB_eq (D := [(10, some 0)]) rfl (by kernel_rfl)
  · intro ρ W ⟨p1, p2, p3⟩ hG hF K hK; (try simp [FactsD, exB] at hF); have ⟨hc, hf, hz⟩ := bcell (Gr.tr (Gr.drew _) hG); go_simp; exact hK _ (gives_val)
  apply chainB_eq (D := [(10, some 1)]) rfl (by kernel_rfl)
  · intro ρ W ⟨p1, p2, p3⟩ hG hF K hK; (try simp [FactsD, exB] at hF); have ⟨hc, hf, hz⟩ := bcell (Gr.tr (Gr.drew _) hG); go_simp; exact hK _ (gives_val)
  refine chainB_any (V := fun p v W' => NewB [.int .i64 0, .int .i64 0] 23 p v W' ∧ w.heap.size + 1 ≤ p.1) (D := []) rfl (by kernel_rfl) (fun p v A B h hg => ⟨NewB.lasts _ _ p v A B h.1 hg, h.2⟩) ?_ ?_
  · intro ρ W ⟨p1, p2, p3⟩ hG hF K hK; (try simp [FactsD] at hF); have ⟨hc, hf, hz⟩ := bcell (Gr.tr (Gr.drew _) hG); go_simp; exact hK _ (⟨⟨NewB.new _ _ _, by have := hG.size; simpa using this⟩, Gr.alloc _ _⟩)
  refine chainB_done ⟨?_, ?_⟩
  · intro vs bs W hG hV hdj
    obtain ⟨e8, e7, e6, -⟩ := hV
    simp only [Nat.reduceSub] at e6
    simp only [Nat.reduceSub] at e7
    simp only [Nat.reduceSub] at e8
    clear hdj
    simp only [lay, Act.put, List.getElem?_toArray, List.getElem?_cons_succ, List.getElem?_cons_zero, Option.bind_some, List.setIfInBounds_toArray, List.set_cons_succ, List.set_cons_zero]
    generalize vs 0 = v0
    generalize vs 1 = v1
    generalize vs 2 = v2
    generalize vs 3 = v3
    generalize vs 4 = v4
    generalize vs 5 = v5
    generalize vs 6 = v6 at *
    generalize vs 7 = v7 at *
    generalize vs 8 = v8 at *
    subst e6
    subst e7
    obtain ⟨hc, hf, hz⟩ := bcell hG
    obtain ⟨⟨b8, rfl, hb8, hb8', hB8⟩, hb8n⟩ := e8
    have hl0 : w.heap.size < b8 := by omega
    have m0 := Nat.ne_of_lt hl0
    have m1 := (Nat.ne_of_lt hl0).symm
    have hgW : Gr (w.alloc (.cells #[.int .i64 p.fl, .int .i64 p.fh, .int .i64 p.bl, .int .i64 p.bh, .int .i64 p.ti, .int .i64 p.ne, .int .i64 p.fa, .slice (some ⟨b, o, none⟩) len cap] 26)) W := hG
    have P0 := ((Box.fresh w [.int .i64 p.fl, .int .i64 p.fh, .int .i64 p.bl, .int .i64 p.bh, .int .i64 p.ti, .int .i64 p.ne, .int .i64 p.fa, .slice (some ⟨b, o, none⟩) len cap] 26).grow hgW).facts
    simp only [CellsFrom, Nat.zero_add, Nat.reduceAdd, and_true] at P0
    obtain ⟨y0_, y1_, yf0, yf1, yl⟩ := hB8.two
    have HGW := Lib.hid hgW
    have HB8 := Lib.hid hB8
    clear hB8 hb8 hb8' hb8n hgW hG hc hf hz
    have X := CellsFrom.nine (HX0.out.grow hb ((Gr.alloc _ _).tr HGW.out))
    simp only at X
    have hne8 : ¬ b = b8 := by omega
    have hne8' : ¬ b8 = b := by omega
    have hbW : b < W.heap.size := Nat.lt_of_lt_of_le hb (Nat.le_trans (Nat.le_succ _) (by have := HGW.out.size; simpa using this))
    go_wp2_with fail
    have h8 : Box (((W.setCell ⟨b8, 0, none⟩ (.int .i64 x)).setCell ⟨b8, 1, none⟩ (.int .i64 y)).alloc (.cells #[.int .i64 xa, .int .i64 xb, .int .i64 xc, .int .i64 xd, .int .i64 xe, .int .i64 xf, .int .i64 xg, .int .i64 xh, .int .i64 xz] 47)) b8 [.int .i64 x, .int .i64 y] 23 := ((HB8.out.put 0 _).put 1 _).grow (Gr.alloc _ _)
    have hp5 : Box (((W.setCell ⟨b8, 0, none⟩ (.int .i64 x)).setCell ⟨b8, 1, none⟩ (.int .i64 y)).alloc (.cells #[.int .i64 xa, .int .i64 xb, .int .i64 xc, .int .i64 xd, .int .i64 xe, .int .i64 xf, .int .i64 xg, .int .i64 xh, .int .i64 xz] 47)) w.heap.size [.int .i64 p.fl, .int .i64 p.fh, .int .i64 p.bl, .int .i64 p.bh, .int .i64 p.ti, .int .i64 p.ne, .int .i64 p.fa, .slice (some ⟨b, o, none⟩) len cap] 26 := ((((Box.fresh w [.int .i64 p.fl, .int .i64 p.fh, .int .i64 p.bl, .int .i64 p.bh, .int .i64 p.ti, .int .i64 p.ne, .int .i64 p.fa, .slice (some ⟨b, o, none⟩) len cap] 26).grow HGW.out).other m0 _ _).other m0 _ _).grow (Gr.alloc _ _)
    have ht5 : Box (((W.setCell ⟨b8, 0, none⟩ (.int .i64 x)).setCell ⟨b8, 1, none⟩ (.int .i64 y)).alloc (.cells #[.int .i64 xa, .int .i64 xb, .int .i64 xc, .int .i64 xd, .int .i64 xe, .int .i64 xf, .int .i64 xg, .int .i64 xh, .int .i64 xz] 47)) W.heap.size [.int .i64 xa, .int .i64 xb, .int .i64 xc, .int .i64 xd, .int .i64 xe, .int .i64 xf, .int .i64 xg, .int .i64 xh, .int .i64 xz] 47 := by
      have := Box.fresh ((W.setCell ⟨b8, 0, none⟩ (.int .i64 x)).setCell ⟨b8, 1, none⟩ (.int .i64 y)) [.int .i64 xa, .int .i64 xb, .int .i64 xc, .int .i64 xd, .int .i64 xe, .int .i64 xf, .int .i64 xg, .int .i64 xh, .int .i64 xz] 47
      simpa using this
    have hw5 : Below w.heap.size w (((W.setCell ⟨b8, 0, none⟩ (.int .i64 x)).setCell ⟨b8, 1, none⟩ (.int .i64 y)).alloc (.cells #[.int .i64 xa, .int .i64 xb, .int .i64 xc, .int .i64 xd, .int .i64 xe, .int .i64 xf, .int .i64 xg, .int .i64 xh, .int .i64 xz] 47)) := (((show Below w.heap.size w W from (Gr.alloc _ _).tr HGW.out).setCell (by first | (simp; done) | (simp; omega) | omega) _).setCell (by first | (simp; done) | (simp; omega) | omega) _).alloc (by first | (simp; done) | (simp; omega) | omega) _
    clear X hbW y0_ y1_ yf0 yf1 P0 HB8 HGW
    generalize (((W.setCell ⟨b8, 0, none⟩ (.int .i64 x)).setCell ⟨b8, 1, none⟩ (.int .i64 y)).alloc (.cells #[.int .i64 xa, .int .i64 xb, .int .i64 xc, .int .i64 xd, .int .i64 xe, .int .i64 xf, .int .i64 xg, .int .i64 xh, .int .i64 xz] 47)) = W5 at *
    generalize W.heap.size = bt at *
    have C8 := h8.facts
    have CP := hp5.facts
    have CT := ht5.facts
    simp only [CellsFrom, Nat.zero_add, Nat.reduceAdd, and_true] at C8 CP CT
    have H8 := Lib.hid h8
    have HP5 := Lib.hid hp5
    have HT5 := Lib.hid ht5
    have HW5 := Lib.hid hw5
    clear h8 hp5 ht5 hw5
    refine region2 7 ?_ ?_ ?_
    · kernel_rfl
    · kernel_rfl
    simp only [List.take_succ_cons, List.take_zero, List.drop_succ_cons, List.drop_zero]
    apply chain_eq (D := [(6, none)]) rfl (by kernel_rfl)
    · intro ρ W ⟨p1, p2, p3⟩ hG hF K hK; (try simp [FactsD] at hF); have ⟨hc, hf, hz⟩ := bcell (Gr.tr (Gr.drew _) hG); go_simp; exact hK _ (gives_val)
    apply chain_eq (D := [(2, none)]) rfl (by kernel_rfl)
    · intro ρ W ⟨p1, p2, p3⟩ hG hF K hK; (try simp [FactsD] at hF); have ⟨hc, hf, hz⟩ := bcell (Gr.tr (Gr.drew _) hG); go_simp; exact hK _ (gives_val)
    apply chain_eq (D := [(8, none)]) rfl (by kernel_rfl)
    · intro ρ W ⟨p1, p2, p3⟩ hG hF K hK; (try simp [FactsD] at hF); have ⟨hc, hf, hz⟩ := bcell (Gr.tr (Gr.drew _) hG); go_simp; exact hK _ (gives_val)
    apply chain_eq (D := [(27, some 1), (28, some 0)]) rfl (by kernel_rfl)
    · intro ρ W ⟨p1, p2, p3⟩ hG hF K hK; (try simp [FactsD] at hF); have ⟨hc, hf, hz⟩ := bcell (Gr.tr (Gr.drew _) hG); go_simp; exact hK _ (gives_call (HPT.out _ _))
    apply chain_eq (D := [(26, some 3), (29, some 0)]) rfl (by kernel_rfl)
    · intro ρ W ⟨p1, p2, p3⟩ hG hF K hK; (try simp [FactsD] at hF); have ⟨hc, hf, hz⟩ := bcell (Gr.tr (Gr.drew _) hG); go_simp; exact hK _ (gives_call (HC.out _))
    apply chain_eq (D := [(30, some 0)]) rfl (by kernel_rfl)
    · intro ρ W ⟨p1, p2, p3⟩ hG hF K hK; (try simp [FactsD] at hF); have ⟨hc, hf, hz⟩ := bcell (Gr.tr (Gr.drew _) hG); go_simp; exact hK _ (gives_call (rempty_any _ _ _))
    apply chain_eq (D := [(31, some 0)]) rfl (by kernel_rfl)
    · intro ρ W ⟨p1, p2, p3⟩ hG hF K hK; (try simp [FactsD] at hF); have ⟨hc, hf, hz⟩ := bcell (Gr.tr (Gr.drew _) hG); go_simp; exact hK _ (gives_val)
    refine chain_done ?_
    intro vs W hG hV
    obtain ⟨e6, -⟩ := hV
    simp only [Nat.reduceSub] at e6
    simp only [lay, Act.put, List.getElem?_toArray, List.getElem?_cons_succ, List.getElem?_cons_zero, Option.bind_some, List.setIfInBounds_toArray, List.set_cons_succ, List.set_cons_zero]
    generalize vs 0 = v0
    generalize vs 1 = v1
    generalize vs 2 = v2
    generalize vs 3 = v3
    generalize vs 4 = v4
    generalize vs 5 = v5
    generalize vs 6 = v6 at *
    subst e6
    obtain ⟨hc, hf, hz⟩ := bcell hG
    have C8 := (H8.out.grow hG).facts
    have CP := (HP5.out.grow hG).facts
    have CT := (HT5.out.grow hG).facts
    simp only [CellsFrom, Nat.zero_add, Nat.reduceAdd, and_true] at C8 CP CT
    have HW6 := Lib.hid (bgr HW5.out HW5.out.size hG)
    have HG6 := Lib.hid hG
    clear hc hf hz hG
    go_wp2_with fail
    refine (HLV.out _).mono ?_
    rintro e w6 ⟨rfl, hb6⟩
    have C8' := (((H8.out.grow HG6.out).grow hb6)).facts
    have CP' := (((HP5.out.grow HG6.out).grow hb6)).facts
    have CT' := (((HT5.out.grow HG6.out).grow hb6)).facts
    simp only [CellsFrom, Nat.zero_add, Nat.reduceAdd, and_true] at C8' CP' CT'
    clear C8 CP CT
    go_wp2_with fail
    refine (rof_any xa xb xc xd xe xf xg xh xz w6 ba bb be bf).mono ?_
    rintro e w7 ⟨rfl, hb7⟩
    have C9 := ((((H8.out.grow HG6.out).grow hb6)).grow hb7).facts
    have CQ := ((((HP5.out.grow HG6.out).grow hb6)).grow hb7).facts
    simp only [CellsFrom, Nat.zero_add, Nat.reduceAdd, and_true] at C9 CQ
    obtain ⟨m0', m1'⟩ := mulb (a := xa - xf) (b := p.ne) (by omega) (by omega) bn.1 bn.2
    obtain ⟨ba0, ba1⟩ := ba
    obtain ⟨bb0, bb1⟩ := bb
    obtain ⟨be0, be1⟩ := be
    obtain ⟨bf0, bf1⟩ := bf
    have HW7 := Lib.hid (bgr (bgr HW6.out HW6.out.size hb6) (bgr HW6.out HW6.out.size hb6).size hb7)
    clear C8' CP' CT' hb6 hb7
    go_wp2
    go_ret2
    exact ⟨rfl, HW7.out.alloc (by have := HW7.out.size; omega) _⟩
  · intro vs bs W hG hV hdj
    obtain ⟨e8, -, e6, e5, -⟩ := hV
    simp only [Nat.reduceSub, Nat.reduceEqDiff, if_false] at e5
    simp only [Nat.reduceSub, Nat.reduceEqDiff, if_false] at e6
    simp only [Nat.reduceSub, Nat.reduceEqDiff, if_false] at e8
    clear hdj
    refine wpOp_two rfl rfl ?_
    simp only [layL, Nat.reduceEqDiff, if_false, if_true, Act.put, List.getElem?_toArray, List.getElem?_cons_succ, List.getElem?_cons_zero, Option.bind_some, List.setIfInBounds_toArray, List.set_cons_succ, List.set_cons_zero, List.drop_succ_cons, List.drop_zero]
    generalize vs 0 = v0
    generalize vs 1 = v1
    generalize vs 2 = v2
    generalize vs 3 = v3
    generalize vs 4 = v4
    generalize vs 5 = v5 at *
    generalize vs 6 = v6 at *
    generalize vs 8 = v8 at *
    subst e5
    subst e6
    obtain ⟨hc, hf, hz⟩ := bcell hG
    obtain ⟨⟨b8, rfl, hb8, hb8', hB8⟩, hb8n⟩ := e8
    have hl0 : w.heap.size < b8 := by omega
    have m0 := Nat.ne_of_lt hl0
    have m1 := (Nat.ne_of_lt hl0).symm
    have hgW : Gr (w.alloc (.cells #[.int .i64 p.fl, .int .i64 p.fh, .int .i64 p.bl, .int .i64 p.bh, .int .i64 p.ti, .int .i64 p.ne, .int .i64 p.fa, .slice (some ⟨b, o, none⟩) len cap] 26)) W := hG
    have P0 := ((Box.fresh w [.int .i64 p.fl, .int .i64 p.fh, .int .i64 p.bl, .int .i64 p.bh, .int .i64 p.ti, .int .i64 p.ne, .int .i64 p.fa, .slice (some ⟨b, o, none⟩) len cap] 26).grow hgW).facts
    simp only [CellsFrom, Nat.zero_add, Nat.reduceAdd, and_true] at P0
    obtain ⟨y0_, y1_, yf0, yf1, yl⟩ := hB8.two
    have HGW := Lib.hid hgW
    have HB8 := Lib.hid hB8
    clear hB8 hb8 hb8' hb8n hgW hG hc hf hz
    have X := CellsFrom.nine (HX0.out.grow hb ((Gr.alloc _ _).tr HGW.out))
    simp only at X
    have hne8 : ¬ b = b8 := by omega
    have hne8' : ¬ b8 = b := by omega
    have hbW : b < W.heap.size := Nat.lt_of_lt_of_le hb (Nat.le_trans (Nat.le_succ _) (by have := HGW.out.size; simpa using this))
    go_wp2_with fail
    have h8 : Box (((W.setCell ⟨b8, 0, none⟩ (.int .i64 x)).setCell ⟨b8, 1, none⟩ (.int .i64 y)).alloc (.cells #[.int .i64 xa, .int .i64 xb, .int .i64 xc, .int .i64 xd, .int .i64 xe, .int .i64 xf, .int .i64 xg, .int .i64 xh, .int .i64 xz] 47)) b8 [.int .i64 x, .int .i64 y] 23 := ((HB8.out.put 0 _).put 1 _).grow (Gr.alloc _ _)
    have hp5 : Box (((W.setCell ⟨b8, 0, none⟩ (.int .i64 x)).setCell ⟨b8, 1, none⟩ (.int .i64 y)).alloc (.cells #[.int .i64 xa, .int .i64 xb, .int .i64 xc, .int .i64 xd, .int .i64 xe, .int .i64 xf, .int .i64 xg, .int .i64 xh, .int .i64 xz] 47)) w.heap.size [.int .i64 p.fl, .int .i64 p.fh, .int .i64 p.bl, .int .i64 p.bh, .int .i64 p.ti, .int .i64 p.ne, .int .i64 p.fa, .slice (some ⟨b, o, none⟩) len cap] 26 := ((((Box.fresh w [.int .i64 p.fl, .int .i64 p.fh, .int .i64 p.bl, .int .i64 p.bh, .int .i64 p.ti, .int .i64 p.ne, .int .i64 p.fa, .slice (some ⟨b, o, none⟩) len cap] 26).grow HGW.out).other m0 _ _).other m0 _ _).grow (Gr.alloc _ _)
    have ht5 : Box (((W.setCell ⟨b8, 0, none⟩ (.int .i64 x)).setCell ⟨b8, 1, none⟩ (.int .i64 y)).alloc (.cells #[.int .i64 xa, .int .i64 xb, .int .i64 xc, .int .i64 xd, .int .i64 xe, .int .i64 xf, .int .i64 xg, .int .i64 xh, .int .i64 xz] 47)) W.heap.size [.int .i64 xa, .int .i64 xb, .int .i64 xc, .int .i64 xd, .int .i64 xe, .int .i64 xf, .int .i64 xg, .int .i64 xh, .int .i64 xz] 47 := by
      have := Box.fresh ((W.setCell ⟨b8, 0, none⟩ (.int .i64 x)).setCell ⟨b8, 1, none⟩ (.int .i64 y)) [.int .i64 xa, .int .i64 xb, .int .i64 xc, .int .i64 xd, .int .i64 xe, .int .i64 xf, .int .i64 xg, .int .i64 xh, .int .i64 xz] 47
      simpa using this
    have hw5 : Below w.heap.size w (((W.setCell ⟨b8, 0, none⟩ (.int .i64 x)).setCell ⟨b8, 1, none⟩ (.int .i64 y)).alloc (.cells #[.int .i64 xa, .int .i64 xb, .int .i64 xc, .int .i64 xd, .int .i64 xe, .int .i64 xf, .int .i64 xg, .int .i64 xh, .int .i64 xz] 47)) := (((show Below w.heap.size w W from (Gr.alloc _ _).tr HGW.out).setCell (by first | (simp; done) | (simp; omega) | omega) _).setCell (by first | (simp; done) | (simp; omega) | omega) _).alloc (by first | (simp; done) | (simp; omega) | omega) _
    clear X hbW y0_ y1_ yf0 yf1 P0 HB8 HGW
    generalize (((W.setCell ⟨b8, 0, none⟩ (.int .i64 x)).setCell ⟨b8, 1, none⟩ (.int .i64 y)).alloc (.cells #[.int .i64 xa, .int .i64 xb, .int .i64 xc, .int .i64 xd, .int .i64 xe, .int .i64 xf, .int .i64 xg, .int .i64 xh, .int .i64 xz] 47)) = W5 at *
    generalize W.heap.size = bt at *
    have C8 := h8.facts
    have CP := hp5.facts
    have CT := ht5.facts
    simp only [CellsFrom, Nat.zero_add, Nat.reduceAdd, and_true] at C8 CP CT
    have H8 := Lib.hid h8
    have HP5 := Lib.hid hp5
    have HT5 := Lib.hid ht5
    have HW5 := Lib.hid hw5
    clear h8 hp5 ht5 hw5
    refine region2 7 ?_ ?_ ?_
    · kernel_rfl
    · kernel_rfl
    simp only [List.take_succ_cons, List.take_zero, List.drop_succ_cons, List.drop_zero]
    apply chain_eq (D := [(6, none)]) rfl (by kernel_rfl)
    · intro ρ W ⟨p1, p2, p3⟩ hG hF K hK; (try simp [FactsD] at hF); have ⟨hc, hf, hz⟩ := bcell (Gr.tr (Gr.drew _) hG); go_simp; exact hK _ (gives_val)
    apply chain_eq (D := [(2, none)]) rfl (by kernel_rfl)
    · intro ρ W ⟨p1, p2, p3⟩ hG hF K hK; (try simp [FactsD] at hF); have ⟨hc, hf, hz⟩ := bcell (Gr.tr (Gr.drew _) hG); go_simp; exact hK _ (gives_val)
    apply chain_eq (D := [(8, none)]) rfl (by kernel_rfl)
    · intro ρ W ⟨p1, p2, p3⟩ hG hF K hK; (try simp [FactsD] at hF); have ⟨hc, hf, hz⟩ := bcell (Gr.tr (Gr.drew _) hG); go_simp; exact hK _ (gives_val)
    apply chain_eq (D := [(27, some 1), (28, some 0)]) rfl (by kernel_rfl)
    · intro ρ W ⟨p1, p2, p3⟩ hG hF K hK; (try simp [FactsD] at hF); have ⟨hc, hf, hz⟩ := bcell (Gr.tr (Gr.drew _) hG); go_simp; exact hK _ (gives_call (HPT.out _ _))
    apply chain_eq (D := [(26, some 3), (29, some 0)]) rfl (by kernel_rfl)
    · intro ρ W ⟨p1, p2, p3⟩ hG hF K hK; (try simp [FactsD] at hF); have ⟨hc, hf, hz⟩ := bcell (Gr.tr (Gr.drew _) hG); go_simp; exact hK _ (gives_call (HC.out _))
    apply chain_eq (D := [(30, some 0)]) rfl (by kernel_rfl)
    · intro ρ W ⟨p1, p2, p3⟩ hG hF K hK; (try simp [FactsD] at hF); have ⟨hc, hf, hz⟩ := bcell (Gr.tr (Gr.drew _) hG); go_simp; exact hK _ (gives_call (rempty_any _ _ _))
    apply chain_eq (D := [(31, some 0)]) rfl (by kernel_rfl)
    · intro ρ W ⟨p1, p2, p3⟩ hG hF K hK; (try simp [FactsD] at hF); have ⟨hc, hf, hz⟩ := bcell (Gr.tr (Gr.drew _) hG); go_simp; exact hK _ (gives_val)
    refine chain_done ?_
    intro vs W hG hV
    obtain ⟨e6, -⟩ := hV
    simp only [Nat.reduceSub] at e6
    simp only [lay, Act.put, List.getElem?_toArray, List.getElem?_cons_succ, List.getElem?_cons_zero, Option.bind_some, List.setIfInBounds_toArray, List.set_cons_succ, List.set_cons_zero]
    generalize vs 0 = v0
    generalize vs 1 = v1
    generalize vs 2 = v2
    generalize vs 3 = v3
    generalize vs 4 = v4
    generalize vs 5 = v5
    generalize vs 6 = v6 at *
    subst e6
    obtain ⟨hc, hf, hz⟩ := bcell hG
    have C8 := (H8.out.grow hG).facts
    have CP := (HP5.out.grow hG).facts
    have CT := (HT5.out.grow hG).facts
    simp only [CellsFrom, Nat.zero_add, Nat.reduceAdd, and_true] at C8 CP CT
    have HW6 := Lib.hid (bgr HW5.out HW5.out.size hG)
    have HG6 := Lib.hid hG
    clear hc hf hz hG
    go_wp2_with fail
    refine (HLV.out _).mono ?_
    rintro e w6 ⟨rfl, hb6⟩
    have C8' := (((H8.out.grow HG6.out).grow hb6)).facts
    have CP' := (((HP5.out.grow HG6.out).grow hb6)).facts
    have CT' := (((HT5.out.grow HG6.out).grow hb6)).facts
    simp only [CellsFrom, Nat.zero_add, Nat.reduceAdd, and_true] at C8' CP' CT'
    clear C8 CP CT
    go_wp2_with fail
    refine (rof_any xa xb xc xd xe xf xg xh xz w6 ba bb be bf).mono ?_
    rintro e w7 ⟨rfl, hb7⟩
    have C9 := ((((H8.out.grow HG6.out).grow hb6)).grow hb7).facts
    have CQ := ((((HP5.out.grow HG6.out).grow hb6)).grow hb7).facts
    simp only [CellsFrom, Nat.zero_add, Nat.reduceAdd, and_true] at C9 CQ
    obtain ⟨m0', m1'⟩ := mulb (a := xa - xf) (b := p.ne) (by omega) (by omega) bn.1 bn.2
    obtain ⟨ba0, ba1⟩ := ba
    obtain ⟨bb0, bb1⟩ := bb
    obtain ⟨be0, be1⟩ := be
    obtain ⟨bf0, bf1⟩ := bf
    have HW7 := Lib.hid (bgr (bgr HW6.out HW6.out.size hb6) (bgr HW6.out HW6.out.size hb6).size hb7)
    clear C8' CP' CT' hb6 hb7
    go_wp2
    go_ret2
    exact ⟨rfl, HW7.out.alloc (by have := HW7.out.size; omega) _⟩

end Go.Proofs.Ytofdoadpaedogaa
