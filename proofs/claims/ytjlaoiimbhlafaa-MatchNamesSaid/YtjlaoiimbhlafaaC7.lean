import Derived.Test.YtjlaoiimbhlafaaC6
set_option linter.unusedVariables false
set_option linter.unusedSimpArgs false
namespace Go.Proofs.Ytjlaoiimbhlafaa
open Go.RowKit Go.Shelf

open MW
attribute [local go_sem] Oper.semAt_some
/-- The sum behind some options. -/
def Lk.ps (k : Lk) (m : Nat → Nat) (a b : Nat) (h : Int) (l : List Nat) : Nat := (l.map (trm (fun i j => (m i).testBit j) k.nL k.nR a b h)).sum
theorem Lk.ps_snoc (k : Lk) (m : Nat → Nat) (a b : Nat) (h : Int) (l : List Nat) (x : Nat) : k.ps m a b h (l ++ [x]) = k.ps m a b h l + trm (fun i j => (m i).testBit j) k.nL k.nR a b h x := by
  unfold Lk.ps
  simp
theorem Lk.ps_small (k : Lk) (m : Nat → Nat) (a b : Nat) (h : Int) (l : List Nat) (hL : k.nL ≤ 10) (hR : k.nR ≤ 10) (hl : l.length ≤ 1000) : k.ps m a b h l ≤ 25937424601000 := by
  have h1 := sum_small (trm (fun i j => (m i).testBit j) k.nL k.nR a b h) 25937424601 (fun j => trm_small _ a b h j hL hR) l
  have h2 := Nat.mul_le_mul_right 25937424601 hl
  unfold Lk.ps
  omega
theorem Dr.keepAt {A : Mk} {i : Nat} {W W' : World} {S : List Nat} (h : Dr A i W W') (hA : A.b ∉ S) : KeepAt S W W' := ⟨h.size, fun k hk hl => h.block k hl (fun e => hA (e ▸ hk))⟩
theorem Dr.only {A : Mk} {i b : Nat} {w W W' : World} (h : Dr A i w W) (ho : Only b W W') (hb : w.heap.size ≤ b ∧ b ≠ A.b) : Dr A i w W' :=
  ⟨ho.low.os.trans h.os, ho.low.tape.trans h.tape, ho.low.output.trans h.output, Nat.le_trans h.size ho.size, fun k hk hne => (ho.keep k (by omega) (Nat.lt_of_lt_of_le hk h.size)).trans (h.block k hk hne), fun o h1 h2 => by
    obtain ⟨o', h3, h4⟩ := h.kept o h1 h2
    exact ⟨o', (ho.keep _ (Ne.symm hb.2) (Array.getElem?_eq_some_iff.1 h3).1).trans h3, h4⟩⟩
theorem Cnt.At.only {c : Cnt} {W W' : World} {b : Nat} (h : c.At W) (ho : Only b W W') (h1 : c.bl ≠ b) (h2 : c.bk ≠ b) (h3 : c.bo ≠ b) (h4 : c.bc ≠ b) (h5 : c.mb ≠ b) : c.At W' :=
  ⟨ho.box h.l h1, ho.box h.kn h2, ho.box h.o h3, ho.box h.f h4, by
    obtain ⟨o, h6, h7⟩ := h.g
    exact ⟨o, (ho.keep _ h5 (Array.getElem?_eq_some_iff.1 h6).1).trans h6, h7⟩⟩
def CtI (c : Cnt) (a b : Nat) (h : Int) (w : World) (f : Nat → Bool) (pre : List (Wt 11 f)) (W : World) : Prop :=
  c.At W ∧ Box W w.heap.size [.int .i64 a, .int .i64 b, .int .i64 h] 148 ∧ Box W (w.heap.size + 1) [.int .i64 (c.k.ps c.m a b h (pre.map Wt.v))] 3 ∧ Dr c.A 0 w W
theorem CtI.own (c : Cnt) (a b : Nat) (h : Int) (w : World) (f : Nat → Bool) {B : Nat} (hB : w.heap.size ≤ B) (hmb : c.mb < w.heap.size) : OwnFrom B (CtI c a b h w f) := fun s A A' row ⟨h1, h2, h3, h4⟩ hg hr =>
  ⟨h1.own (by omega) hg hr, h2.own' hg fun r e => (hr r e).2, h3.own' hg fun r e => (hr r e).2, h4.own hB (show c.mb < B by omega) hg hr⟩
def CtA (c : Cnt) (a b : Nat) (h : Int) (w : World) {f : Nat → Bool} (x : Wt 11 f) (a' : Act) (W : World) : Prop :=
  a' = { tmps := #[.agg #[.int .i64 a, .int .i64 b, .int .i64 h], .pointer (some ⟨c.bl, 0, none⟩), .pointer (some ⟨c.bk, 0, none⟩), .pointer (some ⟨c.bo, 0, none⟩), .pointer (some ⟨c.bc, 0, none⟩), .pointer (some ⟨w.heap.size, 0, none⟩), .int .i64 0, .pointer (some ⟨w.heap.size + 1, 0, none⟩), .bool false, .int .i64 x.v, .pointer (some ⟨w.heap.size, 0, none⟩), .int .i64 a, .pointer (some ⟨c.bl, 0, none⟩), .pointer (some ⟨c.bl, 0, none⟩), .slice c.k.lp c.k.nL c.k.lc, .int .i64 c.k.nL, .bool false, undef, undef, undef, .tuple #[.int .i64 0, .bool false], .map (some c.mb), .agg #[.int .i64 a, .int .i64 b, .int .i64 h], .tuple #[.int .i64 0, .bool false], .int .i64 0, .bool false, .bool false, .bool false, .pointer (some ⟨w.heap.size, 2, none⟩), .int .i64 h, .bool false, .bool false, undef, .pointer (some ⟨w.heap.size, 0, none⟩), .int .i64 a, .pointer (some ⟨c.bo, a, none⟩), .int .i64 (c.m a), .func (.func 68) #[.int .i64 (c.m a)] #[], marksV (w.heap.size + 1 + 1) (w.heap.size + 1 + 1 + 1), .int .i64 x.v, undef, undef, undef, undef, undef, undef, undef, undef, undef, undef, undef, undef, undef, undef, undef], defers := [] }
theorem Cnt.At.mbl {c : Cnt} {W : World} (h : c.At W) : c.mb < W.heap.size := by
  obtain ⟨o, h1, -⟩ := h.g
  exact (Array.getElem?_eq_some_iff.1 h1).1
set_option maxRecDepth 100000 in
set_option maxHeartbeats 4000000 in
theorem count1_more (c : Cnt) (hm : ∀ i, c.m i < 2048) (hmR : ∀ i, i < c.k.nL → ∀ j, c.k.nR ≤ j → j < 10 → (c.m i).testBit j = false) (hL : c.k.nL ≤ 10) (hR : c.k.nR ≤ 10) (a b : Nat) (h : Int) (w : World) (ha : a < c.k.nL) (hb : b ≤ c.k.nR) (hh : 0 ≤ h ∧ h ≤ 20) (hA : c.At w)
    (IH : ∀ (b' : Nat) (h' : Int) (W : World), b' ≤ c.k.nR → -20 ≤ h' → h' ≤ 20 → c.At W → Calls Try.prog 96 #[restV (a + 1) b' h', .pointer (some ⟨c.bl, 0, none⟩), .pointer (some ⟨c.bk, 0, none⟩), .pointer (some ⟨c.bo, 0, none⟩), .pointer (some ⟨c.bc, 0, none⟩)] W fun e w' => e = .returned (.int .i64 (c.k.wy c.m (a + 1) b' h')) ∧ Dr c.A 0 W w')
    (hlk : (Instr.lookup 145 (.map (some c.mb)) (restV a b h) true).run Try.prog (w.alloc (.cells #[.int .i64 a, .int .i64 b, .int .i64 h] 148)) = .ok (.tuple #[.int .i64 0, .bool false]) (w.alloc (.cells #[.int .i64 a, .int .i64 b, .int .i64 h] 148))) :
    Calls Try.prog 96 #[restV a b h, .pointer (some ⟨c.bl, 0, none⟩), .pointer (some ⟨c.bk, 0, none⟩), .pointer (some ⟨c.bo, 0, none⟩), .pointer (some ⟨c.bc, 0, none⟩)] w fun e w' => e = .returned (.int .i64 (c.k.wy c.m a b h)) ∧ Dr c.A 0 w w' := by
  have HA := Lib.hid hA
  have HIH := Lib.hid IH
  have hmb := hA.mbl
  have c0 := HA.out.l.cell (i := 0) c.k.c0
  have cl := HA.out.l.lt
  have k0 := HA.out.kn.cell (i := 0) rfl
  have kl := HA.out.kn.lt
  have hq : ((a : Int) == (c.k.nL : Int)) = false := by simp; omega
  have hd : decide (h < 0) = false := by simpa using hh.1
  have o0 := HA.out.o.cell (i := a) (opts_at c.m (show a < 10 by omega))
  have ol := HA.out.o.lt
  have fl := HA.out.f.lt
  have HMA := Lib.hid (hm a)
  have HMR := Lib.hid (hmR a ha)
  have h10 : decide ((a : Int) < 10) = true := by simp; omega
  have h10' : decide ((a : Nat) < 10) = true := by simp; omega
  have HRT := Lib.hid (fun W => marks_ret 11 (.func 68) #[.int .i64 (c.m a)] #[] W)
  have HSUM := Lib.hid (show c.k.wy c.m a b h = c.k.ps c.m a b h (wts 11 fun j => (c.m a).testBit j) from cw_step ha hh.1 (by omega) hR (hmR a ha))
  unfold restV at hlk
  clear hA hm hmR IH
  unfold restV
  refine (callsIn_wide (n := 9)).1 ?_
  refine callsIn_of_wp_marks Try.func96 rfl trivial ?_ rfl
  simp only [Try.ntmps96, List.size_toArray, List.length_cons, List.length_nil, Nat.reduceAdd, Nat.reduceSub, Array.replicate_succ, Array.replicate_zero, List.push_toArray, List.append_toArray, List.nil_append, List.cons_append]
  refine wpIn_wide.2 ?_
  go_wp2_with (go_at_call 67; refine (HRT.out _).mono ?_; rintro e w1 ⟨rfl, hm1, hm2, hb1⟩)
  have hG1 : Gr w w1 := ((Gr.alloc _ _).tr (Gr.alloc _ _)).tr hb1
  have hR5 : Box w1 w.heap.size [.int .i64 a, .int .i64 b, .int .i64 h] 148 := ((Box.fresh w [.int .i64 a, .int .i64 b, .int .i64 h] 148).grow (Gr.alloc _ _)).grow hb1
  have hR7 : Box w1 (w.heap.size + 1) [.int .i64 0] 3 := by
    have := (Box.fresh (w.alloc (Obj.cells #[.int .i64 a, .int .i64 b, .int .i64 h] 148)) [.int .i64 0] 3).grow hb1
    simpa using this
  replace hm1 : Box w1 (w.heap.size + 1 + 1) [.int .i64 ((11 : Nat) : Int)] 3 := by simpa using hm1
  replace hm2 : Box w1 (w.heap.size + 1 + 1 + 1) [.func (.func 68) #[.int .i64 (c.m a)] #[]] 102 := by simpa using hm2
  have hw1 : w.heap.size + 1 + 1 + 1 < w1.heap.size := hm2.lt
  have HG1 := Lib.hid hG1
  have HR5 := Lib.hid hR5
  have HR7 := Lib.hid hR7
  have HM1 := Lib.hid hm1
  have HM2 := Lib.hid hm2
  clear hG1 hR5 hR7 hm1 hm2 hb1 hlk c0 k0 o0
  refine (wpIn_wide (n := 9)).1 ?_
  refine wpIn_rangeOwn rfl (by omega) (gf := 107) (lb := #[.pointer (some ⟨w.heap.size + 1 + 1, 0, none⟩), .pointer (some ⟨w.heap.size + 1 + 1 + 1, 0, none⟩)]) rfl trivial (enters_of Try.func107 (by kernel_rfl) rfl)
    (SeqStopsK.own (marksH_stops (c.m a) 11 (fun j => (c.m a).testBit j) [] (w.heap.size + 1 + 1) (w.heap.size + 1 + 1 + 1) _ w1 (by omega) (fun W' _ k hk => has_any (c.m a) k W' HMA.out (by omega)) HM1.out HM2.out)) (Gr.same _) KeepAt.trans
    (fun W o' => KeepAt.putObj W _ o' (by simp; omega)) (fun _ => rfl)
    (CtI c a b h w _) (fun _ _ _ => False) (CtI.own c a b h w _ (by omega) hmb) (fun _ _ _ _ _ hs _ _ => hs) ⟨HA.out.gr HG1.out, HR5.out, HR7.out, Dr.of HG1.out⟩
    (CtA c a b h w) (fun x a' => fun _ _ _ _ h _ _ => h) ?assign ?body ?done ?stop
  case assign =>
    intro y pre x W K hi hK
    have HI := Lib.hid hi
    clear hi
    unfold encW
    gi_wp2
    exact hK _ _ (KeepsOthers.refl _ |>.from _) (KeepAt.refl _ _) HI.out rfl
  case body =>
    rintro y pre x a' W hyl - hI rfl hN
    obtain ⟨hAt, h5, h7, hDr⟩ := hI
    have HAt := Lib.hid hAt
    have H5 := Lib.hid h5
    have H7 := Lib.hid h7
    have HDr := Lib.hid hDr
    have x1 := h5.cell (i := 1) rfl
    have xl := h5.lt
    have hx11 := x.lt
    have HXI := Lib.hid x.is
    have hn5 := box_ne_map h5 hAt.g
    have hn7 := box_ne_map h7 hAt.g
    have HPS := Lib.hid (c.k.ps_snoc c.m a b h (pre.map Wt.v) x.v)
    have hps := c.k.ps_small c.m a b h (pre.map Wt.v) hL hR (by rw [List.length_map]; omega)
    have hmp : (pre ++ [x]).map Wt.v = pre.map Wt.v ++ [x.v] := by simp
    rw [← hmp] at HPS
    have HTR := Lib.hid (trm_small (fun i j => (c.m i).testBit j) a b h x.v hL hR)
    clear hAt h5 h7 hDr hmp
    generalize c.k.ps c.m a b h (pre.map Wt.v) = s0 at *
    by_cases hbx : b ≤ x.v
    · have hge : decide ((b : Int) ≤ (x.v : Int)) = true := by simp; omega
      have hB : ∃ (b' : Nat) (h' : Int), b' ≤ c.k.nR ∧ -20 ≤ h' ∧ h' ≤ 20 ∧ (∀ W, Calls Try.prog 98 #[.agg #[.int .i64 a, .int .i64 b, .int .i64 h], .int .i64 x.v] W fun e w' => e = .returned (restV (a + 1) b' h') ∧ Below W.heap.size W w') ∧ trm (fun i j => (c.m i).testBit j) c.k.nL c.k.nR a b h x.v = c.k.wy c.m (a + 1) b' h' := by
        by_cases hx : x.v = 10
        · refine ⟨b, h - 1, hb, by omega, by omega, fun W => ?_, ?_⟩
          · rw [hx]
            exact behind_hid a b h W (by omega) (by omega) (by omega)
          · unfold trm Lk.wy
            rw [if_pos hbx, if_pos hx]
        · have hxR : x.v < c.k.nR := by
            by_cases hc : x.v < c.k.nR
            · exact hc
            · have h1 := HMR.out x.v (by omega) (by omega)
              have h2 : (c.m a).testBit x.v = true := HXI.out
              rw [h1] at h2
              cases h2
          refine ⟨x.v + 1, h - ((x.v : Int) - b), by omega, by omega, by omega, fun W => ?_, ?_⟩
          · exact behind_pair a b x.v h W (by omega) (by omega) (by omega) (by omega)
          · unfold trm Lk.wy
            rw [if_pos hbx, if_neg hx]
      obtain ⟨b', h', hb', hh1, hh2, hBe, htr⟩ := hB
      have HBE := Lib.hid hBe
      have HT := Lib.hid htr
      have hv : c.k.wy c.m (a + 1) b' h' ≤ 25937424601 := by rw [← htr]; exact HTR.out
      have HN5 := Lib.hid hn5
      have HN7 := Lib.hid hn7
      have HCC := Lib.hid (fun W hW => HIH.out b' h' W hb' hh1 hh2 hW)
      clear hBe htr hn5 hn7
      generalize c.k.wy c.m (a + 1) b' h' = v at *
      gi_wp2_with fail
      refine Dw.region2_in (A := c.A) (κ := 0) 7 ?_ ?_ ?_ ?_ ?_
      · kernel_rfl
      · kernel_rfl
      · kernel_rfl
      · rintro ⟨_, _, h⟩; exact h
      simp only [List.take_succ_cons, List.take_zero, List.drop_succ_cons, List.drop_zero]
      apply Dw.chain_eq (D := [(7, none)]) rfl (by kernel_rfl)
      · intro ρ W4 ⟨p1, p2, p3⟩ hG hF K hK; (try simp [FactsD] at hF); have hD := (Dr.drew c.A _).tr hG; have z0 := (hD.box H7.out HN7.out).cell (i := 0) rfl; go_simp; exact hK _ (Dw.gives_val)
      apply Dw.chain_eq (D := [(4, none)]) rfl (by kernel_rfl)
      · intro ρ W4 ⟨p1, p2, p3⟩ hG hF K hK; (try simp [FactsD] at hF); have hD := (Dr.drew c.A _).tr hG; have z0 := (HAt.out.dr hD).f.cell (i := 0) rfl; go_simp; exact hK _ (Dw.gives_val)
      apply Dw.chain_eq (D := [(5, none)]) rfl (by kernel_rfl)
      · intro ρ W4 ⟨p1, p2, p3⟩ hG hF K hK; (try simp [FactsD] at hF); have hD := (Dr.drew c.A _).tr hG; have zb := hD.box H5.out HN5.out; have z0 := zb.cell (i := 0) rfl; have z1 := zb.cell (i := 1) rfl; have z2 := zb.cell (i := 2) rfl; go_simp; exact hK _ (Dw.gives_val)
      apply Dw.chain_eq (D := [(9, none)]) rfl (by kernel_rfl)
      · intro ρ W4 ⟨p1, p2, p3⟩ hG hF K hK; (try simp [FactsD] at hF); have hD := (Dr.drew c.A _).tr hG; go_simp; exact hK _ (Dw.gives_val)
      apply Dw.chain_eq (D := [(46, some 1), (47, some 0)]) rfl (by kernel_rfl)
      · intro ρ W4 ⟨p1, p2, p3⟩ hG hF K hK; (try simp [FactsD] at hF); have hD := (Dr.drew c.A _).tr hG; go_simp; exact hK _ (Dw.gives_gr (HBE.out _))
      apply Dw.chain_eq (D := [(45, some 3), (48, some 0)]) rfl (by kernel_rfl)
      · intro ρ W4 ⟨p1, p2, p3⟩ hG hF K hK; (try simp [FactsD] at hF); have hD := (Dr.drew c.A _).tr hG; go_simp; exact hK _ (Dw.gives_call (HCC.out _ (HAt.out.dr hD)))
      apply Dw.chain_eq (D := [(44, some 5), (49, some 0)]) rfl (by kernel_rfl)
      · intro ρ W4 ⟨p1, p2, p3⟩ hG hF K hK; (try simp [FactsD] at hF); have hD := (Dr.drew c.A _).tr hG; go_simp; exact hK _ (Dw.gives_val)
      refine Dw.chain_done ?_
      intro vs W4 hG hV
      obtain ⟨e6, -, -, -, -, -, -, -⟩ := hV
      simp only [Nat.reduceSub] at e6
      simp only [lay, Act.put, List.getElem?_toArray, List.getElem?_cons_succ, List.getElem?_cons_zero, Option.bind_some, List.setIfInBounds_toArray, List.set_cons_succ, List.set_cons_zero]
      generalize vs 0 = v0
      generalize vs 1 = v1
      generalize vs 2 = v2
      generalize vs 3 = v3
      generalize vs 4 = v4
      generalize vs 5 = v5
      generalize vs 6 = v6 at *
      subst e6
      have HD := Lib.hid (show Dr c.A 0 W W4 from hG.any)
      clear hG
      have H7' := Lib.hid (HD.out.box H7.out HN7.out)
      have H5' := Lib.hid (HD.out.box H5.out HN5.out)
      have HA' := Lib.hid (HAt.out.dr HD.out)
      have f7 := H7'.out.free (i := 0)
      have z7 := H7'.out.cell (i := 0) rfl
      have l7 := H7'.out.lt
      have hs0 : 0 ≤ (s0 : Int) + v ∧ (s0 : Int) + v ≤ 30000000000000 := by omega
      go_wp2_with fail
      have ho := Only.set W4 (b := w.heap.size + 1) 0 (.int .i64 ((s0 : Int) + v))
      refine ⟨(HD.out.from (show c.mb < w1.heap.size by omega)).trans ((KeepsOthers.setCell _ _ _).from _), (HD.out.keepAt (show c.mb ∉ _ by simp; omega)).trans (KeepAt.set _ _ _ _ (by simp)), HA'.out.only ho (by omega) (by omega) (by omega) (by omega) (by omega), ho.box H5'.out (by omega), ?_, ((HDr.out.tr HD.out).only ho ⟨by omega, show w.heap.size + 1 ≠ c.mb by omega⟩).any⟩
      rw [HPS.out, HT.out, Int.natCast_add]
      exact H7'.out.put 0 _
    · have hge : decide ((b : Int) ≤ (x.v : Int)) = false := by simp; omega
      have h0 : trm (fun i j => (c.m i).testBit j) c.k.nL c.k.nR a b h x.v = 0 := by unfold trm; rw [if_neg hbx]
      have H0 := Lib.hid h0
      clear h0
      gi_wp2_with fail
      refine ⟨(KeepsOthers.refl _).from _, KeepAt.refl _ _, HAt.out, H5.out, ?_, HDr.out⟩
      rw [HPS.out, H0.out]
      exact H7.out
  case done =>
    rintro D ys W hD hys ⟨hAt, h5, h7, hDr⟩ hK
    rw [hys, ← HSUM.out] at h7
    have HAt := Lib.hid hAt
    have H5 := Lib.hid h5
    have H7 := Lib.hid h7
    have HDr := Lib.hid hDr
    have HK := Lib.hid hK
    have HN7 := Lib.hid (box_ne_map h7 hAt.g)
    have hDl : D < W.heap.size := (Array.getElem?_eq_some_iff.1 hK).1
    obtain ⟨o, ho1, ho2⟩ := hAt.g
    have HO1 := Lib.hid ho1
    have HO2 := Lib.hid ho2
    have z0 := h5.cell (i := 0) rfl
    have z1 := h5.cell (i := 1) rfl
    have z2 := h5.cell (i := 2) rfl
    have zl := h5.lt
    have z7 := h7.cell (i := 0) rfl
    have l7 := h7.lt
    have k0 := hAt.kn.cell (i := 0) rfl
    have kl' := hAt.kn.lt
    have HRS := Lib.hid (show Rst a b h from ⟨by omega, by omega, by omega, by omega⟩)
    clear hAt h5 h7 hDr hK ho1 ho2 hys
    go_wp2_with (with_reducible refine wpList_stopUpd rfl ?_; unfold Stop; refine wpList_learn (f := c.k.wy c.m) (a := a) (b := b) (h := h) HO1.out HO2.out HRS.out rfl rfl rfl rfl rfl ?_; intro w3 hd3; have z9 := (hd3.box H7.out HN7.out).cell (i := 0) rfl; have l9 := (hd3.box H7.out HN7.out).lt; have HD3 := Lib.hid hd3; clear hd3)
    have hK4 := (HD3.out.block D hDl (show D ≠ c.mb by omega)).trans HK.out
    refine ⟨by simp, .inl ⟨_, _, rfl, run_takeDeferred hK4, ?_⟩⟩
    refine ⟨.int .i64 (c.k.wy c.m a b h), by simp [results, Try.f96, go_sem], rfl, ?_⟩
    exact ((HDr.out.tr HD3.out).any (j := 0)).own (Nat.le_refl _) hmb (grownBy_putObj' _ D (.deferred none)) (fun r e => by cases e; exact ⟨by omega, _, hK4, rfl⟩)
  case stop =>
    rintro D c pre W _ _ h _
    exact h.elim

end Go.Proofs.Ytjlaoiimbhlafaa
