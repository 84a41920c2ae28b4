import Derived.Test.YtofdoadpaedogaaM4
namespace Go.Proofs.Ytofdoadpaedogaa
open Go.RowKit

set_option maxRecDepth 100000 in
set_option maxHeartbeats 4000000 in
theorem ends_ok00 (p : Pr) (sp : Option Addr) (len cap : Nat) (n : Nat) (o : Int) (w : World) (hl : len ≤ 40) (hT : ThingsAt p.l (.slice sp len cap) w) (hlen : p.l.length = len) (xa xb xc xd xe xf xg xh xz zz : Int) (HK : Hid (p.l[n]? = some ⟨xa, xb, xc, xd, xe, xf, xg, xh, xz⟩)) (hn : n < len) (h4 : Hid (p.ok = true)) (bne : 2000 ≤ p.ne) (bfa : p.ne ≤ p.fa) (bf1 : p.fa ≤ 1073741824) (bo : 0 ≤ o ∧ o ≤ 4294967295) (hzz : zz = p.ne + o % (p.fa - p.ne + 1)) (d1 d2 : Int) (c : Bool) (hz0 : (xz != 0) = false) (b1 : p.ne ≤ d1) (b2 : d1 ≤ d2) (b3 : d2 ≤ p.fa) (h1 : Hid (p.why n = (0, 0))) (h2 : Hid (p.distance n = (d1, d2, 0))) (c1 : Hid (((p.marked n d1).power.2.2 == 0) = true)) (c2 : Hid (((p.marked n d2).power.2.2 == 0) = true)) (a1 : decide (p.ne < d1) = false) (a2 : decide (d2 < p.fa) = false) (c5 : Hid (((p.marked n zz).power.2.2 == 0) = c)) (hin : Hid ((decide (d1 ≤ zz) && decide (zz ≤ d2)) = c)) :
    Calls Try.prog 6 #[.agg #[.int .i64 p.fl, .int .i64 p.fh, .int .i64 p.bl, .int .i64 p.bh, .int .i64 p.ti, .int .i64 p.ne, .int .i64 p.fa, .slice sp len cap], .int .i64 n, .int .u32 o] w fun e w' => e = .returned (.bool true) ∧ Below w.heap.size w w' := by
  have d : decide (40 < (len : Int)) = false := by simp; omega
  have d' : decide (40 < len) = false := by simp; omega
  have TH := Lib.hid (fun (W : World) (hg : Gr ((w.alloc (.cells #[.int .i64 p.fl, .int .i64 p.fh, .int .i64 p.bl, .int .i64 p.bh, .int .i64 p.ti, .int .i64 p.ne, .int .i64 p.fa, .slice sp len cap] 26)).alloc (.cells #[.int .i64 n] 3)) W) => ThingsAt.lasts p.l _ _ _ hT (((Gr.alloc _ _).tr (Gr.alloc _ _)).tr hg))
  have hg0 := Gr.same ((w.alloc (.cells #[.int .i64 p.fl, .int .i64 p.fh, .int .i64 p.bl, .int .i64 p.bh, .int .i64 p.ti, .int .i64 p.ne, .int .i64 p.fa, .slice sp len cap] 26)).alloc (.cells #[.int .i64 n] 3))
  have hal := @cal
  have heq := @eq23
  have heg := @eqg23
  have e1 : decide ((n : Int) < 0) = false := by simp
  have e2 : decide ((len : Int) ≤ (n : Int)) = false := by simp; omega
  have e3 : decide (len ≤ n) = false := by simp; omega
  obtain ⟨o0, o1⟩ := bo
  have q0 : 0 ≤ o % (p.fa - p.ne + 1) := Int.emod_nonneg _ (by omega)
  have q1 : o % (p.fa - p.ne + 1) < p.fa - p.ne + 1 := Int.emod_lt_of_pos _ (by omega)
  have e4 : IntKind.i64.wrap (o.tmod (p.fa - p.ne + 1)) = o % (p.fa - p.ne + 1) := by rw [Int.tmod_eq_emod_of_nonneg o0]; exact wraps_i64 _ q0 (by omega)
  have z1 : ¬ p.fa - p.ne + 1 = 0 := by omega
  have HCAN : Hid (∀ (z : Int) (c : Bool), ((p.marked n z).power.2.2 == 0) = c → ∀ W : World, Gr ((w.alloc (.cells #[.int .i64 p.fl, .int .i64 p.fh, .int .i64 p.bl, .int .i64 p.bh, .int .i64 p.ti, .int .i64 p.ne, .int .i64 p.fa, .slice sp len cap] 26)).alloc (.cells #[.int .i64 n] 3)) W → Calls Try.prog 33 #[.int .i64 z, .pointer (some ⟨w.heap.size, 0, none⟩), .pointer (some ⟨w.heap.size + 1, 0, none⟩)] W fun e' w' => e' = .returned (.bool c) ∧ Below W.heap.size W w') := Lib.hid fun z c hc W hg => by
    have hB := ((Box.fresh w [.int .i64 p.fl, .int .i64 p.fh, .int .i64 p.bl, .int .i64 p.bh, .int .i64 p.ti, .int .i64 p.ne, .int .i64 p.fa, .slice sp len cap] 26).grow (Gr.alloc _ (.cells #[.int .i64 n] 3))).grow hg
    have hN := (Box.fresh (w.alloc (.cells #[.int .i64 p.fl, .int .i64 p.fh, .int .i64 p.bl, .int .i64 p.bh, .int .i64 p.ti, .int .i64 p.ne, .int .i64 p.fa, .slice sp len cap] 26)) [.int .i64 n] 3).grow hg
    have := can_any p sp len cap n ⟨xa, xb, xc, xd, xe, xf, xg, xh, xz⟩ z (p.marked n z).power.1 (p.marked n z).power.2.1 (p.marked n z).power.2.2 w.heap.size (w.heap.size + 1) W (TH.out W hg) hlen (by omega) HK.out rfl hB (by simpa using hN)
    rwa [hc] at this
  have b4 : decide (d1 < p.ne) = false := by simp; omega
  have b5 : decide (d2 < d1) = false := by simp; omega
  have b6 : decide (p.fa < d2) = false := by simp; omega
  subst hzz
  clear hT hl hlen
  go_enter Try.func6, Try.ntmps6
  go_wp2_with fail
  refine (why_is h1.out (TH.out _ hg0)).mono ?_
  rintro e w1 ⟨rfl, hb1⟩
  have gg1 : Gr _ _ := hb1
  have hg1 := Gr.tr hg0 gg1
  obtain ⟨hc, hf, hz⟩ := bcell hg1
  have s10 : w.heap.size < w1.heap.size := hz _ (by first | (simp; done) | (simp; omega) | omega)
  have s11 : w.heap.size + 1 < w1.heap.size := hz _ (by first | (simp; done) | (simp; omega) | omega)
  have n10 := Nat.ne_of_lt s10
  have n11 := Nat.ne_of_lt s11
  go_wp2_with fail
  clear hc hf hz
  refine (distance_is h2.out (TH.out _ hg1)).mono ?_
  rintro e w2 ⟨rfl, hb2⟩
  have gg2 : Gr _ _ := hb2
  have hg2 := Gr.tr hg1 gg2
  obtain ⟨hc, hf, hz⟩ := bcell hg2
  have s20 : w.heap.size < w2.heap.size := hz _ (by first | (simp; done) | (simp; omega) | omega)
  have s21 : w.heap.size + 1 < w2.heap.size := hz _ (by first | (simp; done) | (simp; omega) | omega)
  have n20 := Nat.ne_of_lt s20
  have n21 := Nat.ne_of_lt s21
  go_wp2_with fail
  clear hc hf hz
  refine (rpair_is h4.out (TH.out _ (hg2.tr (Gr.alloc _ _)))).mono ?_
  rintro e w3 ⟨rfl, hb3⟩
  have gg3 : Gr _ _ := (Gr.alloc _ _).tr hb3
  have hg3 := Gr.tr hg2 gg3
  have y2_0 := ((bcell hb3).1 w2.heap.size 0 (by simp)).trans (show _ = some (.int .i64 d1) by simp)
  have y2_1 := ((bcell hb3).1 w2.heap.size 1 (by simp)).trans (show _ = some (.int .i64 d2) by simp)
  have k2 : w2.heap.size < w3.heap.size := Nat.lt_of_lt_of_le (by simp) hb3.size
  have k2n : w2.heap.size ≠ w3.heap.size := Nat.ne_of_lt k2
  have k2m : w3.heap.size ≠ w2.heap.size := (Nat.ne_of_lt k2).symm
  have k2p : w2.heap.size < w3.heap.size + 1 := Nat.lt_succ_of_lt k2
  obtain ⟨hc, hf, hz⟩ := bcell hg3
  have s30 : w.heap.size < w3.heap.size := hz _ (by first | (simp; done) | (simp; omega) | omega)
  have s31 : w.heap.size + 1 < w3.heap.size := hz _ (by first | (simp; done) | (simp; omega) | omega)
  have n30 := Nat.ne_of_lt s30
  have n31 := Nat.ne_of_lt s31
  go_wp2_with fail
  go_quiet (fail)
  have gg4 : Gr w3 (w3.drewN nq) := Gr.drewN _ _
  clear hc hf hz
  generalize w3.drewN nq = w4 at *
  have hg4 := Gr.tr hg3 gg4
  have y2_0 := ((bcell gg4).1 w2.heap.size 0 k2).trans y2_0
  have y2_1 := ((bcell gg4).1 w2.heap.size 1 k2).trans y2_1
  replace k2 : w2.heap.size < w4.heap.size := Nat.lt_of_lt_of_le k2 gg4.size
  have k2n : w2.heap.size ≠ w4.heap.size := Nat.ne_of_lt k2
  have k2m : w4.heap.size ≠ w2.heap.size := (Nat.ne_of_lt k2).symm
  have k2p : w2.heap.size < w4.heap.size + 1 := Nat.lt_succ_of_lt k2
  obtain ⟨hc, hf, hz⟩ := bcell hg4
  have C := (((Box.fresh w [.int .i64 p.fl, .int .i64 p.fh, .int .i64 p.bl, .int .i64 p.bh, .int .i64 p.ti, .int .i64 p.ne, .int .i64 p.fa, .slice sp len cap] 26).grow (Gr.alloc _ (.cells #[.int .i64 n] 3))).grow hg4).facts
  have N := ((Box.fresh (w.alloc (.cells #[.int .i64 p.fl, .int .i64 p.fh, .int .i64 p.bl, .int .i64 p.bh, .int .i64 p.ti, .int .i64 p.ne, .int .i64 p.fa, .slice sp len cap] 26)) [.int .i64 n] 3).grow hg4).facts
  simp only [CellsFrom, Nat.zero_add, Nat.reduceAdd, and_true] at C N
  have N1 : w4.cell? ⟨w.heap.size + 1, 0, none⟩ = some (.int .i64 n) := by have := N.1; simpa using this
  have s41 : w.heap.size + 1 < w4.heap.size := by have := N.2; simpa using this
  rcases (TH.out _ hg4).2 with ⟨e, -⟩ | ⟨b, o', cap', hsp, hb, hcx⟩
  · have := HK.out; rw [e] at this; cases this
  have X := CellsFrom.nine (hcx n _ HK.out)
  simp only at X
  obtain ⟨hsp1, -, -⟩ : sp = some ⟨b, o', none⟩ ∧ len = p.l.length ∧ cap = cap' := by simpa using hsp
  subst hsp1
  clear hcx hsp
  go_wp2_with fail
  clear hc hf hz
  refine (HCAN.out _ _ c1.out _ hg4).mono ?_
  rintro e w5 ⟨rfl, hb5⟩
  have gg5 : Gr _ _ := hb5
  have hg5 := Gr.tr hg4 gg5
  have y2_0 := ((bcell gg5).1 w2.heap.size 0 k2).trans y2_0
  have y2_1 := ((bcell gg5).1 w2.heap.size 1 k2).trans y2_1
  replace k2 : w2.heap.size < w5.heap.size := Nat.lt_of_lt_of_le k2 gg5.size
  have k2n : w2.heap.size ≠ w5.heap.size := Nat.ne_of_lt k2
  have k2m : w5.heap.size ≠ w2.heap.size := (Nat.ne_of_lt k2).symm
  have k2p : w2.heap.size < w5.heap.size + 1 := Nat.lt_succ_of_lt k2
  obtain ⟨hc, hf, hz⟩ := bcell hg5
  have s50 : w.heap.size < w5.heap.size := hz _ (by first | (simp; done) | (simp; omega) | omega)
  have s51 : w.heap.size + 1 < w5.heap.size := hz _ (by first | (simp; done) | (simp; omega) | omega)
  have n50 := Nat.ne_of_lt s50
  have n51 := Nat.ne_of_lt s51
  go_wp2_with fail
  clear hc hf hz
  refine (HCAN.out _ _ c2.out _ hg5).mono ?_
  rintro e w6 ⟨rfl, hb6⟩
  have gg6 : Gr _ _ := hb6
  have hg6 := Gr.tr hg5 gg6
  have y2_0 := ((bcell gg6).1 w2.heap.size 0 k2).trans y2_0
  have y2_1 := ((bcell gg6).1 w2.heap.size 1 k2).trans y2_1
  replace k2 : w2.heap.size < w6.heap.size := Nat.lt_of_lt_of_le k2 gg6.size
  have k2n : w2.heap.size ≠ w6.heap.size := Nat.ne_of_lt k2
  have k2m : w6.heap.size ≠ w2.heap.size := (Nat.ne_of_lt k2).symm
  have k2p : w2.heap.size < w6.heap.size + 1 := Nat.lt_succ_of_lt k2
  obtain ⟨hc, hf, hz⟩ := bcell hg6
  have s60 : w.heap.size < w6.heap.size := hz _ (by first | (simp; done) | (simp; omega) | omega)
  have s61 : w.heap.size + 1 < w6.heap.size := hz _ (by first | (simp; done) | (simp; omega) | omega)
  have n60 := Nat.ne_of_lt s60
  have n61 := Nat.ne_of_lt s61
  go_wp2_with fail
  cases c with
  | false =>
    refine region2 10 ?_ ?_ ?_
    · kernel_rfl
    · kernel_rfl
    simp only [List.take_succ_cons, List.take_zero, List.drop_succ_cons, List.drop_zero]
    apply chain_eq (D := [(11, none)]) rfl (by kernel_rfl)
    · intro ρ W ⟨p1, p2, p3⟩ hG hF K hK; (try simp [FactsD] at hF); have ⟨hc, hf, hz⟩ := bcell (Gr.tr (Gr.drew _) hG); go_simp; exact hK _ (gives_val)
    apply chain_eq (D := [(12, none)]) rfl (by kernel_rfl)
    · intro ρ W ⟨p1, p2, p3⟩ hG hF K hK; (try simp [FactsD] at hF); have ⟨hc, hf, hz⟩ := bcell (Gr.tr (Gr.drew _) hG); go_simp; exact hK _ (gives_val)
    apply chain_eq (D := [(218, some 1), (219, some 0)]) rfl (by kernel_rfl)
    · intro ρ W ⟨p1, p2, p3⟩ hG hF K hK; (try simp [FactsD] at hF); have ⟨hc, hf, hz⟩ := bcell (Gr.tr (Gr.drew _) hG); go_simp; exact hK _ (gives_call (HCAN.out _ _ c5.out _ (hg6.tr ((Gr.drew _).tr hG))))
    apply chain_eq (D := [(9, none)]) rfl (by kernel_rfl)
    · intro ρ W ⟨p1, p2, p3⟩ hG hF K hK; (try simp [FactsD] at hF); have ⟨hc, hf, hz⟩ := bcell (Gr.tr (Gr.drew _) hG); go_simp; exact hK _ (gives_val)
    apply chain_eq (D := [(12, none)]) rfl (by kernel_rfl)
    · intro ρ W ⟨p1, p2, p3⟩ hG hF K hK; (try simp [FactsD] at hF); have ⟨hc, hf, hz⟩ := bcell (Gr.tr (Gr.drew _) hG); go_simp; exact hK _ (gives_val)
    apply chain_eq (D := [(221, some 1), (222, some 0)]) rfl (by kernel_rfl)
    · intro ρ W ⟨p1, p2, p3⟩ hG hF K hK; (try simp [FactsD] at hF); have ⟨hc, hf, hz⟩ := bcell (Gr.tr (Gr.drew _) hG); go_simp; exact hK _ (gives_call (linside_is hin.out _))
    apply chain_eq (D := [(220, some 3), (223, some 0)]) rfl (by kernel_rfl)
    · intro ρ W ⟨p1, p2, p3⟩ hG hF K hK; (try simp [FactsD] at hF); have ⟨hc, hf, hz⟩ := bcell (Gr.tr (Gr.drew _) hG); go_simp; exact hK _ (gives_val)
    apply chain_eq (D := [(224, some 0)]) rfl (by kernel_rfl)
    · intro ρ W ⟨p1, p2, p3⟩ hG hF K hK; (try simp [FactsD] at hF); have ⟨hc, hf, hz⟩ := bcell (Gr.tr (Gr.drew _) hG); go_simp; exact hK _ (gives_val)
    apply chain_leq (D := [(225, some 0)]) (by kernel_rfl)
    · intro ρ W hF; (try simp [FactsD] at hF); simp [Lets, *]
    · intro ρ W ⟨p1, p2, p3⟩ hG hF K hK; (try simp [FactsD] at hF); have ⟨hc, hf, hz⟩ := bcell (Gr.tr (Gr.drew _) hG); go_simp; exact hK _ (gives_call (awake_any _))
    apply chain_eq (D := [(225, some 1), (226, some 0)]) rfl (by kernel_rfl)
    · intro ρ W ⟨p1, p2, p3⟩ hG hF K hK; (try simp [FactsD] at hF); have ⟨hc, hf, hz⟩ := bcell (Gr.tr (Gr.drew _) hG); go_simp; exact hK _ (gives_val)
    refine chain_done ?_
    intro vs W hG hV
    obtain ⟨e9, -⟩ := hV
    simp only [Nat.reduceSub] at e9
    simp only [lay, Act.put, List.getElem?_toArray, List.getElem?_cons_succ, List.getElem?_cons_zero, Option.bind_some, List.setIfInBounds_toArray, List.set_cons_succ, List.set_cons_zero]
    generalize vs 0 = v0
    generalize vs 1 = v1
    generalize vs 2 = v2
    generalize vs 3 = v3
    generalize vs 4 = v4
    generalize vs 5 = v5
    generalize vs 6 = v6
    generalize vs 7 = v7
    generalize vs 8 = v8
    generalize vs 9 = v9 at *
    subst e9
    obtain ⟨hc, hf, hz⟩ := bcell hG
    go_wp2
    go_ret
    exact ⟨rfl, show Below w.heap.size w _ from ((Gr.alloc _ _).tr (Gr.alloc _ _)).tr (hg6.tr hG)⟩
  | true =>
    refine region2 10 ?_ ?_ ?_
    · kernel_rfl
    · kernel_rfl
    simp only [List.take_succ_cons, List.take_zero, List.drop_succ_cons, List.drop_zero]
    apply chain_eq (D := [(11, none)]) rfl (by kernel_rfl)
    · intro ρ W ⟨p1, p2, p3⟩ hG hF K hK; (try simp [FactsD] at hF); have ⟨hc, hf, hz⟩ := bcell (Gr.tr (Gr.drew _) hG); go_simp; exact hK _ (gives_val)
    apply chain_eq (D := [(12, none)]) rfl (by kernel_rfl)
    · intro ρ W ⟨p1, p2, p3⟩ hG hF K hK; (try simp [FactsD] at hF); have ⟨hc, hf, hz⟩ := bcell (Gr.tr (Gr.drew _) hG); go_simp; exact hK _ (gives_val)
    apply chain_eq (D := [(218, some 1), (219, some 0)]) rfl (by kernel_rfl)
    · intro ρ W ⟨p1, p2, p3⟩ hG hF K hK; (try simp [FactsD] at hF); have ⟨hc, hf, hz⟩ := bcell (Gr.tr (Gr.drew _) hG); go_simp; exact hK _ (gives_call (HCAN.out _ _ c5.out _ (hg6.tr ((Gr.drew _).tr hG))))
    apply chain_eq (D := [(9, none)]) rfl (by kernel_rfl)
    · intro ρ W ⟨p1, p2, p3⟩ hG hF K hK; (try simp [FactsD] at hF); have ⟨hc, hf, hz⟩ := bcell (Gr.tr (Gr.drew _) hG); go_simp; exact hK _ (gives_val)
    apply chain_eq (D := [(12, none)]) rfl (by kernel_rfl)
    · intro ρ W ⟨p1, p2, p3⟩ hG hF K hK; (try simp [FactsD] at hF); have ⟨hc, hf, hz⟩ := bcell (Gr.tr (Gr.drew _) hG); go_simp; exact hK _ (gives_val)
    apply chain_eq (D := [(221, some 1), (222, some 0)]) rfl (by kernel_rfl)
    · intro ρ W ⟨p1, p2, p3⟩ hG hF K hK; (try simp [FactsD] at hF); have ⟨hc, hf, hz⟩ := bcell (Gr.tr (Gr.drew _) hG); go_simp; exact hK _ (gives_call (linside_is hin.out _))
    apply chain_eq (D := [(220, some 3), (223, some 0)]) rfl (by kernel_rfl)
    · intro ρ W ⟨p1, p2, p3⟩ hG hF K hK; (try simp [FactsD] at hF); have ⟨hc, hf, hz⟩ := bcell (Gr.tr (Gr.drew _) hG); go_simp; exact hK _ (gives_val)
    apply chain_eq (D := [(224, some 0)]) rfl (by kernel_rfl)
    · intro ρ W ⟨p1, p2, p3⟩ hG hF K hK; (try simp [FactsD] at hF); have ⟨hc, hf, hz⟩ := bcell (Gr.tr (Gr.drew _) hG); go_simp; exact hK _ (gives_val)
    apply chain_leq (D := [(225, some 0)]) (by kernel_rfl)
    · intro ρ W hF; (try simp [FactsD] at hF); simp [Lets, *]
    · intro ρ W ⟨p1, p2, p3⟩ hG hF K hK; (try simp [FactsD] at hF); have ⟨hc, hf, hz⟩ := bcell (Gr.tr (Gr.drew _) hG); go_simp; exact hK _ (gives_call (awake_any _))
    apply chain_eq (D := [(225, some 1), (226, some 0)]) rfl (by kernel_rfl)
    · intro ρ W ⟨p1, p2, p3⟩ hG hF K hK; (try simp [FactsD] at hF); have ⟨hc, hf, hz⟩ := bcell (Gr.tr (Gr.drew _) hG); go_simp; exact hK _ (gives_val)
    refine chain_done ?_
    intro vs W hG hV
    obtain ⟨e9, -⟩ := hV
    simp only [Nat.reduceSub] at e9
    simp only [lay, Act.put, List.getElem?_toArray, List.getElem?_cons_succ, List.getElem?_cons_zero, Option.bind_some, List.setIfInBounds_toArray, List.set_cons_succ, List.set_cons_zero]
    generalize vs 0 = v0
    generalize vs 1 = v1
    generalize vs 2 = v2
    generalize vs 3 = v3
    generalize vs 4 = v4
    generalize vs 5 = v5
    generalize vs 6 = v6
    generalize vs 7 = v7
    generalize vs 8 = v8
    generalize vs 9 = v9 at *
    subst e9
    obtain ⟨hc, hf, hz⟩ := bcell hG
    go_wp2
    go_ret
    exact ⟨rfl, show Below w.heap.size w _ from ((Gr.alloc _ _).tr (Gr.alloc _ _)).tr (hg6.tr hG)⟩
end Go.Proofs.Ytofdoadpaedogaa
