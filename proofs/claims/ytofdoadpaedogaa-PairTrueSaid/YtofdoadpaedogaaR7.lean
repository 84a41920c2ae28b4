import Derived.Test.YtofdoadpaedogaaR6
namespace Go.Proofs.Ytofdoadpaedogaa
open Go.RowKit

theorem rstands_is {p : Pr} {v : Value} {z x y e : Int} {w : World} (h : p.stands z = (x, y, e)) (hT : ThingsAt p.l v w) :
    Calls Try.prog 20 #[.agg #[.int .i64 p.fl, .int .i64 p.fh, .int .i64 p.bl, .int .i64 p.bh, .int .i64 p.ti, .int .i64 p.ne, .int .i64 p.fa, v], .int .i64 z] w fun e' w' => e' = .returned (.tuple #[.agg #[.int .i64 x, .int .i64 y], .int .i64 e]) ∧ Below w.heap.size w w' := by
  obtain ⟨b, hb⟩ : ∃ b, (decide (p.ne ≤ z) && decide (z ≤ p.fa)) = b := ⟨_, rfl⟩
  unfold Pr.stands at h
  cases hok : p.ok with
  | false =>
    rw [if_neg (by simp [hok])] at h
    cases h
    exact rstands_err p v w hT z b 0 0 1 (Lib.hid hb) (Lib.hid (by unfold Pr.ropen; rw [if_neg (by simp [hok])])) rfl
  | true =>
    rw [if_pos hok] at h
    have hbd := p.bounds hok
    by_cases hz : p.ne ≤ z ∧ z ≤ p.fa
    · rw [if_pos hz] at h
      have hbt : b = true := by rw [← hb]; simp [hz]
      subst hbt
      by_cases hp : p.pw.1 ≤ p.pw.2
      · rw [if_pos hp] at h
        cases h
        have hin := p.pw_in hok
        have := hbd.ne0
        exact rstands_ok p v w hT z true p.pw.1 p.pw.2 0 (Lib.hid hb) (Lib.hid (by rw [Pr.ropen_true]; unfold Pr.power; rw [if_pos hok, if_pos hp])) rfl (by omega) (by omega) (by omega) (by omega) (by omega)
      · rw [if_neg hp] at h
        cases h
        exact rstands_err p v w hT z true 0 0 4 (Lib.hid hb) (Lib.hid (by rw [Pr.ropen_true]; unfold Pr.power; rw [if_pos hok, if_neg hp])) rfl
    · rw [if_neg hz] at h
      cases h
      have hbf : b = false := by rw [← hb]; simpa using hz
      subst hbf
      exact rstands_err p v w hT z false 0 0 2 (Lib.hid hb) (Lib.hid (by unfold Pr.ropen; rw [if_pos hok]; rfl)) rfl
theorem rthing_is {p : Pr} {sp : Option Addr} {len cap : Nat} {k : Int} {b : Bool} {w : World} (hl : len ≤ 1000) (h : (decide (0 ≤ k) && decide (k < (len : Int))) = b) :
    Calls Try.prog 44 #[.agg #[.int .i64 p.fl, .int .i64 p.fh, .int .i64 p.bl, .int .i64 p.bh, .int .i64 p.ti, .int .i64 p.ne, .int .i64 p.fa, .slice sp len cap], .int .i64 k] w fun e w' => e = .returned (.bool b) ∧ Below w.heap.size w w' := by
  rw [← h]; exact rthing_any _ _ _ _ _ _ _ _ _ _ _ w hl
set_option maxRecDepth 100000 in
set_option maxHeartbeats 2000000 in
theorem rshift_bad (p : Pr) (sp : Option Addr) (len cap : Nat) (k : Int) (w : World) (hT : ThingsAt p.l (.slice sp len cap) w) (_hl : len ≤ 1000) (hok : Hid (p.ok = false)) :
    Calls Try.prog 14 #[.agg #[.int .i64 p.fl, .int .i64 p.fh, .int .i64 p.bl, .int .i64 p.bh, .int .i64 p.ti, .int .i64 p.ne, .int .i64 p.fa, .slice sp len cap], .int .i64 k] w fun e w' => e = .returned (.tuple #[.agg #[.int .i64 0, .int .i64 0], .int .i64 1]) ∧ Below w.heap.size w w' := by
  have TH := Lib.hid (fun (W : World) (hg : Gr ((w.alloc (.cells #[.int .i64 p.fl, .int .i64 p.fh, .int .i64 p.bl, .int .i64 p.bh, .int .i64 p.ti, .int .i64 p.ne, .int .i64 p.fa, .slice sp len cap] 26)).alloc (.cells #[.int .i64 0, .int .i64 0] 23)) W) => ThingsAt.lasts p.l _ _ _ hT (((Gr.alloc _ _).tr (Gr.alloc _ _)).tr hg))
  have hg0 := Gr.same ((w.alloc (.cells #[.int .i64 p.fl, .int .i64 p.fh, .int .i64 p.bl, .int .i64 p.bh, .int .i64 p.ti, .int .i64 p.ne, .int .i64 p.fa, .slice sp len cap] 26)).alloc (.cells #[.int .i64 0, .int .i64 0] 23))
  have hal := @cal
  clear hT
  go_enter Try.func14, Try.ntmps14
  go_wp2_with fail
  refine (rpair_is hok.out (TH.out _ hg0)).mono ?_
  rintro e w1 ⟨rfl, hb1⟩
  have gg1 : Gr _ _ := hb1
  have hg1 := Gr.tr hg0 gg1
  obtain ⟨hc, hf, hz⟩ := bcell hg1
  have s10 : w.heap.size < w1.heap.size := hz _ (by first | (simp; done) | (simp; omega) | omega)
  have s11 : w.heap.size + 1 < w1.heap.size := hz _ (by first | (simp; done) | (simp; omega) | omega)
  have n10 := Nat.ne_of_lt s10
  have n11 := Nat.ne_of_lt s11
  go_wp2
  exact bodyPost_ret (v := .tuple #[.agg #[.int .i64 0, .int .i64 0], .int .i64 1]) (by simp [results, Try.results14, go_sem, hc]) rfl ⟨rfl, ((show Below w.heap.size w _ from ((Gr.alloc _ _).tr (Gr.alloc _ _)).tr hg1).setCell (by first | (simp; done) | (simp; omega) | omega) _).setCell (by first | (simp; done) | (simp; omega) | omega) _⟩
set_option maxRecDepth 100000 in
set_option maxHeartbeats 2000000 in
theorem rshift_range (p : Pr) (sp : Option Addr) (len cap : Nat) (k : Int) (w : World) (hT : ThingsAt p.l (.slice sp len cap) w) (hl : len ≤ 1000) (hok : Hid (p.ok = true)) (hk : Hid ((decide (0 ≤ k) && decide (k < (len : Int))) = false)) :
    Calls Try.prog 14 #[.agg #[.int .i64 p.fl, .int .i64 p.fh, .int .i64 p.bl, .int .i64 p.bh, .int .i64 p.ti, .int .i64 p.ne, .int .i64 p.fa, .slice sp len cap], .int .i64 k] w fun e w' => e = .returned (.tuple #[.agg #[.int .i64 0, .int .i64 0], .int .i64 2]) ∧ Below w.heap.size w w' := by
  have TH := Lib.hid (fun (W : World) (hg : Gr ((w.alloc (.cells #[.int .i64 p.fl, .int .i64 p.fh, .int .i64 p.bl, .int .i64 p.bh, .int .i64 p.ti, .int .i64 p.ne, .int .i64 p.fa, .slice sp len cap] 26)).alloc (.cells #[.int .i64 0, .int .i64 0] 23)) W) => ThingsAt.lasts p.l _ _ _ hT (((Gr.alloc _ _).tr (Gr.alloc _ _)).tr hg))
  have hg0 := Gr.same ((w.alloc (.cells #[.int .i64 p.fl, .int .i64 p.fh, .int .i64 p.bl, .int .i64 p.bh, .int .i64 p.ti, .int .i64 p.ne, .int .i64 p.fa, .slice sp len cap] 26)).alloc (.cells #[.int .i64 0, .int .i64 0] 23))
  have hal := @cal
  clear hT
  go_enter Try.func14, Try.ntmps14
  go_wp2_with fail
  refine (rpair_is hok.out (TH.out _ hg0)).mono ?_
  rintro e w1 ⟨rfl, hb1⟩
  have gg1 : Gr _ _ := hb1
  have hg1 := Gr.tr hg0 gg1
  obtain ⟨hc, hf, hz⟩ := bcell hg1
  have s10 : w.heap.size < w1.heap.size := hz _ (by first | (simp; done) | (simp; omega) | omega)
  have s11 : w.heap.size + 1 < w1.heap.size := hz _ (by first | (simp; done) | (simp; omega) | omega)
  have n10 := Nat.ne_of_lt s10
  have n11 := Nat.ne_of_lt s11
  go_wp2_with fail
  clear hc hf hz
  refine (rthing_is hl hk.out).mono ?_
  rintro e w2 ⟨rfl, hb2⟩
  have gg2 : Gr _ _ := hb2
  have hg2 := Gr.tr hg1 gg2
  obtain ⟨hc, hf, hz⟩ := bcell hg2
  have s20 : w.heap.size < w2.heap.size := hz _ (by first | (simp; done) | (simp; omega) | omega)
  have s21 : w.heap.size + 1 < w2.heap.size := hz _ (by first | (simp; done) | (simp; omega) | omega)
  have n20 := Nat.ne_of_lt s20
  have n21 := Nat.ne_of_lt s21
  go_wp2
  exact bodyPost_ret (v := .tuple #[.agg #[.int .i64 0, .int .i64 0], .int .i64 2]) (by simp [results, Try.results14, go_sem, hc]) rfl ⟨rfl, ((show Below w.heap.size w _ from ((Gr.alloc _ _).tr (Gr.alloc _ _)).tr hg2).setCell (by first | (simp; done) | (simp; omega) | omega) _).setCell (by first | (simp; done) | (simp; omega) | omega) _⟩
set_option maxRecDepth 100000 in
set_option maxHeartbeats 2000000 in
theorem rshift_ok (p : Pr) (sp : Option Addr) (len cap : Nat) (k : Nat) (xa xb xc xd xe xf xg xh xz : Int) (w : World) (hT : ThingsAt p.l (.slice sp len cap) w) (hl : len ≤ 1000) (hok : Hid (p.ok = true)) (hk : Hid ((decide (0 ≤ (k : Int)) && decide ((k : Int) < (len : Int))) = true)) (hkl : k < len) (HK : Hid (p.l[k]? = some ⟨xa, xb, xc, xd, xe, xf, xg, xh, xz⟩)) (ba : -4000 ≤ xa ∧ xa ≤ 4000) (bb : -4000 ≤ xb ∧ xb ≤ 4000) (be : -4000 ≤ xe ∧ xe ≤ 4000) (bf : -4000 ≤ xf ∧ xf ≤ 4000) :
    Calls Try.prog 14 #[.agg #[.int .i64 p.fl, .int .i64 p.fh, .int .i64 p.bl, .int .i64 p.bh, .int .i64 p.ti, .int .i64 p.ne, .int .i64 p.fa, .slice sp len cap], .int .i64 k] w fun e w' => e = .returned (.tuple #[.agg #[.int .i64 (xa - xf), .int .i64 (xb - xe)], .int .i64 0]) ∧ Below w.heap.size w w' := by
  have TH := Lib.hid (fun (W : World) (hg : Gr ((w.alloc (.cells #[.int .i64 p.fl, .int .i64 p.fh, .int .i64 p.bl, .int .i64 p.bh, .int .i64 p.ti, .int .i64 p.ne, .int .i64 p.fa, .slice sp len cap] 26)).alloc (.cells #[.int .i64 0, .int .i64 0] 23)) W) => ThingsAt.lasts p.l _ _ _ hT (((Gr.alloc _ _).tr (Gr.alloc _ _)).tr hg))
  have hg0 := Gr.same ((w.alloc (.cells #[.int .i64 p.fl, .int .i64 p.fh, .int .i64 p.bl, .int .i64 p.bh, .int .i64 p.ti, .int .i64 p.ne, .int .i64 p.fa, .slice sp len cap] 26)).alloc (.cells #[.int .i64 0, .int .i64 0] 23))
  have hal := @cal
  have HO := Lib.hid (fun w => rof_any xa xb xc xd xe xf xg xh xz w ba bb be bf)
  clear hT ba bb be bf
  go_enter Try.func14, Try.ntmps14
  go_wp2_with fail
  refine (rpair_is hok.out (TH.out _ hg0)).mono ?_
  rintro e w1 ⟨rfl, hb1⟩
  have gg1 : Gr _ _ := hb1
  have hg1 := Gr.tr hg0 gg1
  obtain ⟨hc, hf, hz⟩ := bcell hg1
  have s10 : w.heap.size < w1.heap.size := hz _ (by first | (simp; done) | (simp; omega) | omega)
  have s11 : w.heap.size + 1 < w1.heap.size := hz _ (by first | (simp; done) | (simp; omega) | omega)
  have n10 := Nat.ne_of_lt s10
  have n11 := Nat.ne_of_lt s11
  go_wp2_with fail
  clear hc hf hz
  refine (rthing_is hl hk.out).mono ?_
  rintro e w2 ⟨rfl, hb2⟩
  have gg2 : Gr _ _ := hb2
  have hg2 := Gr.tr hg1 gg2
  obtain ⟨hc, hf, hz⟩ := bcell hg2
  have s20 : w.heap.size < w2.heap.size := hz _ (by first | (simp; done) | (simp; omega) | omega)
  have s21 : w.heap.size + 1 < w2.heap.size := hz _ (by first | (simp; done) | (simp; omega) | omega)
  have n20 := Nat.ne_of_lt s20
  have n21 := Nat.ne_of_lt s21
  rcases (TH.out _ hg2).2 with ⟨e, -⟩ | ⟨b, o, cap', hsp, hb, hcx⟩
  · have := HK.out; rw [e] at this; cases this
  have X := CellsFrom.nine (hcx k _ HK.out)
  simp only at X
  obtain ⟨hsp1, -, -⟩ : sp = some ⟨b, o, none⟩ ∧ len = p.l.length ∧ cap = cap' := by simpa using hsp
  subst hsp1
  clear hcx hsp
  go_wp2_with fail
  clear hc hf hz
  refine (HO.out _).mono ?_
  rintro e w3 ⟨rfl, hb3⟩
  have gg3 : Gr _ _ := hb3
  have hg3 := Gr.tr hg2 gg3
  obtain ⟨hc, hf, hz⟩ := bcell hg3
  have s30 : w.heap.size < w3.heap.size := hz _ (by first | (simp; done) | (simp; omega) | omega)
  have s31 : w.heap.size + 1 < w3.heap.size := hz _ (by first | (simp; done) | (simp; omega) | omega)
  have n30 := Nat.ne_of_lt s30
  have n31 := Nat.ne_of_lt s31
  go_wp2
  exact bodyPost_ret (v := .tuple #[.agg #[.int .i64 (xa - xf), .int .i64 (xb - xe)], .int .i64 0]) (by simp [results, Try.results14, go_sem, hc]) rfl ⟨rfl, ((show Below w.heap.size w _ from ((Gr.alloc _ _).tr (Gr.alloc _ _)).tr hg3).setCell (by first | (simp; done) | (simp; omega) | omega) _).setCell (by first | (simp; done) | (simp; omega) | omega) _⟩
set_option maxRecDepth 100000 in
set_option maxHeartbeats 2000000 in
theorem rnear_bad (p : Pr) (sp : Option Addr) (len cap : Nat) (k m : Int) (w : World) (hT : ThingsAt p.l (.slice sp len cap) w) (_hl : len ≤ 1000) (hok : Hid (p.ok = false)) :
    Calls Try.prog 16 #[.agg #[.int .i64 p.fl, .int .i64 p.fh, .int .i64 p.bl, .int .i64 p.bh, .int .i64 p.ti, .int .i64 p.ne, .int .i64 p.fa, .slice sp len cap], .int .i64 k, .int .i64 m] w fun e w' => e = .returned (.tuple #[.int .i64 0, .int .i64 1]) ∧ Below w.heap.size w w' := by
  have TH := Lib.hid (fun (W : World) (hg : Gr (w.alloc (.cells #[.int .i64 p.fl, .int .i64 p.fh, .int .i64 p.bl, .int .i64 p.bh, .int .i64 p.ti, .int .i64 p.ne, .int .i64 p.fa, .slice sp len cap] 26)) W) => ThingsAt.lasts p.l _ _ _ hT ((Gr.alloc _ _).tr hg))
  have hg0 := Gr.same (w.alloc (.cells #[.int .i64 p.fl, .int .i64 p.fh, .int .i64 p.bl, .int .i64 p.bh, .int .i64 p.ti, .int .i64 p.ne, .int .i64 p.fa, .slice sp len cap] 26))
  have hal := @cal
  clear hT
  go_enter Try.func16, Try.ntmps16
  go_wp2_with fail
  refine (rpair_is hok.out (TH.out _ hg0)).mono ?_
  rintro e w1 ⟨rfl, hb1⟩
  have gg1 : Gr _ _ := hb1
  have hg1 := Gr.tr hg0 gg1
  obtain ⟨hc, hf, hz⟩ := bcell hg1
  have s10 : w.heap.size < w1.heap.size := hz _ (by first | (simp; done) | (simp; omega) | omega)
  have n10 := Nat.ne_of_lt s10
  go_wp2
  go_ret2
  exact ⟨rfl, show Below w.heap.size w _ from (Gr.alloc _ _).tr hg1⟩
set_option maxRecDepth 100000 in
set_option maxHeartbeats 2000000 in
theorem rnear_range1 (p : Pr) (sp : Option Addr) (len cap : Nat) (k m : Int) (w : World) (hT : ThingsAt p.l (.slice sp len cap) w) (hl : len ≤ 1000) (hok : Hid (p.ok = true)) (hk : Hid ((decide (0 ≤ k) && decide (k < (len : Int))) = false)) :
    Calls Try.prog 16 #[.agg #[.int .i64 p.fl, .int .i64 p.fh, .int .i64 p.bl, .int .i64 p.bh, .int .i64 p.ti, .int .i64 p.ne, .int .i64 p.fa, .slice sp len cap], .int .i64 k, .int .i64 m] w fun e w' => e = .returned (.tuple #[.int .i64 0, .int .i64 2]) ∧ Below w.heap.size w w' := by
  have TH := Lib.hid (fun (W : World) (hg : Gr (w.alloc (.cells #[.int .i64 p.fl, .int .i64 p.fh, .int .i64 p.bl, .int .i64 p.bh, .int .i64 p.ti, .int .i64 p.ne, .int .i64 p.fa, .slice sp len cap] 26)) W) => ThingsAt.lasts p.l _ _ _ hT ((Gr.alloc _ _).tr hg))
  have hg0 := Gr.same (w.alloc (.cells #[.int .i64 p.fl, .int .i64 p.fh, .int .i64 p.bl, .int .i64 p.bh, .int .i64 p.ti, .int .i64 p.ne, .int .i64 p.fa, .slice sp len cap] 26))
  have hal := @cal
  clear hT
  go_enter Try.func16, Try.ntmps16
  go_wp2_with fail
  refine (rpair_is hok.out (TH.out _ hg0)).mono ?_
  rintro e w1 ⟨rfl, hb1⟩
  have gg1 : Gr _ _ := hb1
  have hg1 := Gr.tr hg0 gg1
  obtain ⟨hc, hf, hz⟩ := bcell hg1
  have s10 : w.heap.size < w1.heap.size := hz _ (by first | (simp; done) | (simp; omega) | omega)
  have n10 := Nat.ne_of_lt s10
  go_wp2_with fail
  clear hc hf hz
  refine (rthing_is hl hk.out).mono ?_
  rintro e w2 ⟨rfl, hb2⟩
  have gg2 : Gr _ _ := hb2
  have hg2 := Gr.tr hg1 gg2
  obtain ⟨hc, hf, hz⟩ := bcell hg2
  have s20 : w.heap.size < w2.heap.size := hz _ (by first | (simp; done) | (simp; omega) | omega)
  have n20 := Nat.ne_of_lt s20
  go_wp2
  go_ret2
  exact ⟨rfl, show Below w.heap.size w _ from (Gr.alloc _ _).tr hg2⟩
set_option maxRecDepth 100000 in
set_option maxHeartbeats 2000000 in
theorem rnear_range2 (p : Pr) (sp : Option Addr) (len cap : Nat) (k m : Int) (w : World) (hT : ThingsAt p.l (.slice sp len cap) w) (hl : len ≤ 1000) (hok : Hid (p.ok = true)) (hk : Hid ((decide (0 ≤ k) && decide (k < (len : Int))) = true)) (hm : Hid ((decide (0 ≤ m) && decide (m < (len : Int))) = false)) :
    Calls Try.prog 16 #[.agg #[.int .i64 p.fl, .int .i64 p.fh, .int .i64 p.bl, .int .i64 p.bh, .int .i64 p.ti, .int .i64 p.ne, .int .i64 p.fa, .slice sp len cap], .int .i64 k, .int .i64 m] w fun e w' => e = .returned (.tuple #[.int .i64 0, .int .i64 2]) ∧ Below w.heap.size w w' := by
  have TH := Lib.hid (fun (W : World) (hg : Gr (w.alloc (.cells #[.int .i64 p.fl, .int .i64 p.fh, .int .i64 p.bl, .int .i64 p.bh, .int .i64 p.ti, .int .i64 p.ne, .int .i64 p.fa, .slice sp len cap] 26)) W) => ThingsAt.lasts p.l _ _ _ hT ((Gr.alloc _ _).tr hg))
  have hg0 := Gr.same (w.alloc (.cells #[.int .i64 p.fl, .int .i64 p.fh, .int .i64 p.bl, .int .i64 p.bh, .int .i64 p.ti, .int .i64 p.ne, .int .i64 p.fa, .slice sp len cap] 26))
  have hal := @cal
  clear hT
  go_enter Try.func16, Try.ntmps16
  go_wp2_with fail
  refine (rpair_is hok.out (TH.out _ hg0)).mono ?_
  rintro e w1 ⟨rfl, hb1⟩
  have gg1 : Gr _ _ := hb1
  have hg1 := Gr.tr hg0 gg1
  obtain ⟨hc, hf, hz⟩ := bcell hg1
  have s10 : w.heap.size < w1.heap.size := hz _ (by first | (simp; done) | (simp; omega) | omega)
  have n10 := Nat.ne_of_lt s10
  go_wp2_with fail
  clear hc hf hz
  refine (rthing_is hl hk.out).mono ?_
  rintro e w2 ⟨rfl, hb2⟩
  have gg2 : Gr _ _ := hb2
  have hg2 := Gr.tr hg1 gg2
  obtain ⟨hc, hf, hz⟩ := bcell hg2
  have s20 : w.heap.size < w2.heap.size := hz _ (by first | (simp; done) | (simp; omega) | omega)
  have n20 := Nat.ne_of_lt s20
  go_wp2_with fail
  clear hc hf hz
  refine (rthing_is hl hm.out).mono ?_
  rintro e w3 ⟨rfl, hb3⟩
  have gg3 : Gr _ _ := hb3
  have hg3 := Gr.tr hg2 gg3
  obtain ⟨hc, hf, hz⟩ := bcell hg3
  have s30 : w.heap.size < w3.heap.size := hz _ (by first | (simp; done) | (simp; omega) | omega)
  have n30 := Nat.ne_of_lt s30
  go_wp2
  go_ret2
  exact ⟨rfl, show Below w.heap.size w _ from (Gr.alloc _ _).tr hg3⟩
set_option maxRecDepth 100000 in
set_option maxHeartbeats 2000000 in
theorem rnear_ok (p : Pr) (sp : Option Addr) (len cap : Nat) (k m : Nat) (xa xb xc xd xe xf xg xh xz ya yb yc yd ye yf yg yh yz r : Int) (w : World) (hT : ThingsAt p.l (.slice sp len cap) w) (hl : len ≤ 1000) (hok : Hid (p.ok = true)) (hk : Hid ((decide (0 ≤ (k : Int)) && decide ((k : Int) < (len : Int))) = true)) (hm : Hid ((decide (0 ≤ (m : Int)) && decide ((m : Int) < (len : Int))) = true)) (hkl : k < len) (hml : m < len) (HK : Hid (p.l[k]? = some ⟨xa, xb, xc, xd, xe, xf, xg, xh, xz⟩)) (HM : Hid (p.l[m]? = some ⟨ya, yb, yc, yd, ye, yf, yg, yh, yz⟩)) (ba : -4000 ≤ xa ∧ xa ≤ 4000) (bb : -4000 ≤ xb ∧ xb ≤ 4000) (be : -4000 ≤ xe ∧ xe ≤ 4000) (bf : -4000 ≤ xf ∧ xf ≤ 4000) (ca : -4000 ≤ ya ∧ ya ≤ 4000) (cb : -4000 ≤ yb ∧ yb ≤ 4000) (ce : -4000 ≤ ye ∧ ye ≤ 4000) (cf : -4000 ≤ yf ∧ yf ≤ 4000) (hr : Hid ((if yb - ye < xa - xf then 2 else if xb - xe ≤ ya - yf then 0 else 1) = r)) :
    Calls Try.prog 16 #[.agg #[.int .i64 p.fl, .int .i64 p.fh, .int .i64 p.bl, .int .i64 p.bh, .int .i64 p.ti, .int .i64 p.ne, .int .i64 p.fa, .slice sp len cap], .int .i64 k, .int .i64 m] w fun e w' => e = .returned (.tuple #[.int .i64 r, .int .i64 0]) ∧ Below w.heap.size w w' := by
  have TH := Lib.hid (fun (W : World) (hg : Gr (w.alloc (.cells #[.int .i64 p.fl, .int .i64 p.fh, .int .i64 p.bl, .int .i64 p.bh, .int .i64 p.ti, .int .i64 p.ne, .int .i64 p.fa, .slice sp len cap] 26)) W) => ThingsAt.lasts p.l _ _ _ hT ((Gr.alloc _ _).tr hg))
  have hg0 := Gr.same (w.alloc (.cells #[.int .i64 p.fl, .int .i64 p.fh, .int .i64 p.bl, .int .i64 p.bh, .int .i64 p.ti, .int .i64 p.ne, .int .i64 p.fa, .slice sp len cap] 26))
  have hal := @cal
  have HO := Lib.hid (fun w => rof_any xa xb xc xd xe xf xg xh xz w ba bb be bf)
  have HU := Lib.hid (fun w => rof_any ya yb yc yd ye yf yg yh yz w ca cb ce cf)
  clear hT ba bb be bf ca cb ce cf
  go_enter Try.func16, Try.ntmps16
  go_wp2_with fail
  refine (rpair_is hok.out (TH.out _ hg0)).mono ?_
  rintro e w1 ⟨rfl, hb1⟩
  have gg1 : Gr _ _ := hb1
  have hg1 := Gr.tr hg0 gg1
  obtain ⟨hc, hf, hz⟩ := bcell hg1
  have s10 : w.heap.size < w1.heap.size := hz _ (by first | (simp; done) | (simp; omega) | omega)
  have n10 := Nat.ne_of_lt s10
  go_wp2_with fail
  clear hc hf hz
  refine (rthing_is hl hk.out).mono ?_
  rintro e w2 ⟨rfl, hb2⟩
  have gg2 : Gr _ _ := hb2
  have hg2 := Gr.tr hg1 gg2
  obtain ⟨hc, hf, hz⟩ := bcell hg2
  have s20 : w.heap.size < w2.heap.size := hz _ (by first | (simp; done) | (simp; omega) | omega)
  have n20 := Nat.ne_of_lt s20
  go_wp2_with fail
  clear hc hf hz
  refine (rthing_is hl hm.out).mono ?_
  rintro e w3 ⟨rfl, hb3⟩
  have gg3 : Gr _ _ := hb3
  have hg3 := Gr.tr hg2 gg3
  obtain ⟨hc, hf, hz⟩ := bcell hg3
  have s30 : w.heap.size < w3.heap.size := hz _ (by first | (simp; done) | (simp; omega) | omega)
  have n30 := Nat.ne_of_lt s30
  rcases (TH.out _ hg3).2 with ⟨e, -⟩ | ⟨b, o, cap', hsp, hb, hcx⟩
  · have := HK.out; rw [e] at this; cases this
  have X := CellsFrom.nine (hcx k _ HK.out)
  simp only at X
  have Y := CellsFrom.nine (hcx m _ HM.out)
  simp only at Y
  obtain ⟨hsp1, -, -⟩ : sp = some ⟨b, o, none⟩ ∧ len = p.l.length ∧ cap = cap' := by simpa using hsp
  subst hsp1
  clear hcx hsp
  go_wp2_with fail
  refine regionB 14 ?_ ?_ ?_
  · kernel_rfl
  · kernel_rfl
  simp only [List.take_succ_cons, List.take_zero, List.drop_succ_cons, List.drop_zero]
  apply chainB_eq (D := [(3, none)]) rfl (by kernel_rfl)
  · intro ρ W ⟨p1, p2, p3⟩ hG hF K hK; (try simp [FactsD] at hF); have ⟨hc, hf, hz⟩ := bcell (Gr.tr (Gr.drew _) hG); go_simp; exact hK _ (gives_val)
  apply chainB_eq (D := [(23, some 0)]) rfl (by kernel_rfl)
  · intro ρ W ⟨p1, p2, p3⟩ hG hF K hK; (try simp [FactsD, exB] at hF); have ⟨hc, hf, hz⟩ := bcell (Gr.tr (Gr.drew _) hG); go_simp; exact hK _ (gives_val)
  apply chainB_eq (D := [(1, none)]) rfl (by kernel_rfl)
  · intro ρ W ⟨p1, p2, p3⟩ hG hF K hK; (try simp [FactsD] at hF); have ⟨hc, hf, hz⟩ := bcell (Gr.tr (Gr.drew _) hG); go_simp; exact hK _ (gives_val)
  apply chainB_eq (D := [(24, some 1), (25, some 0)]) rfl (by kernel_rfl)
  · intro ρ W ⟨p1, p2, p3⟩ hG hF K hK; (try simp [FactsD, exB] at hF); have ⟨hc, hf, hz⟩ := bcell (Gr.tr (Gr.drew _) hG); go_simp; exact hK _ (gives_val)
  apply chainB_eq (D := [(26, some 0)]) rfl (by kernel_rfl)
  · intro ρ W ⟨p1, p2, p3⟩ hG hF K hK; (try simp [FactsD, exB] at hF); have ⟨hc, hf, hz⟩ := bcell (Gr.tr (Gr.drew _) hG); go_simp; exact hK _ (gives_val)
  apply chainB_eq (D := [(27, some 0)]) rfl (by kernel_rfl)
  · intro ρ W ⟨p1, p2, p3⟩ hG hF K hK; (try simp [FactsD, exB] at hF); have ⟨hc, hf, hz⟩ := bcell (Gr.tr (Gr.drew _) hG); go_simp; exact hK _ (gives_call (HO.out _))
  apply chainB_eq (D := [(3, none)]) rfl (by kernel_rfl)
  · intro ρ W ⟨p1, p2, p3⟩ hG hF K hK; (try simp [FactsD] at hF); have ⟨hc, hf, hz⟩ := bcell (Gr.tr (Gr.drew _) hG); go_simp; exact hK _ (gives_val)
  apply chainB_eq (D := [(29, some 0)]) rfl (by kernel_rfl)
  · intro ρ W ⟨p1, p2, p3⟩ hG hF K hK; (try simp [FactsD, exB] at hF); have ⟨hc, hf, hz⟩ := bcell (Gr.tr (Gr.drew _) hG); go_simp; exact hK _ (gives_val)
  apply chainB_eq (D := [(2, none)]) rfl (by kernel_rfl)
  · intro ρ W ⟨p1, p2, p3⟩ hG hF K hK; (try simp [FactsD] at hF); have ⟨hc, hf, hz⟩ := bcell (Gr.tr (Gr.drew _) hG); go_simp; exact hK _ (gives_val)
  apply chainB_eq (D := [(30, some 1), (31, some 0)]) rfl (by kernel_rfl)
  · intro ρ W ⟨p1, p2, p3⟩ hG hF K hK; (try simp [FactsD, exB] at hF); have ⟨hc, hf, hz⟩ := bcell (Gr.tr (Gr.drew _) hG); go_simp; exact hK _ (gives_val)
  apply chainB_eq (D := [(32, some 0)]) rfl (by kernel_rfl)
  · intro ρ W ⟨p1, p2, p3⟩ hG hF K hK; (try simp [FactsD, exB] at hF); have ⟨hc, hf, hz⟩ := bcell (Gr.tr (Gr.drew _) hG); go_simp; exact hK _ (gives_val)
  apply chainB_eq (D := [(33, some 0)]) rfl (by kernel_rfl)
  · intro ρ W ⟨p1, p2, p3⟩ hG hF K hK; (try simp [FactsD, exB] at hF); have ⟨hc, hf, hz⟩ := bcell (Gr.tr (Gr.drew _) hG); go_simp; exact hK _ (gives_call (HU.out _))
  refine chainB_any (V := fun p v W' => NewB [.int .i64 0, .int .i64 0] 23 p v W' ∧ w3.heap.size ≤ p.1) (D := []) rfl (by kernel_rfl) (fun p v A B h hg => ⟨NewB.lasts _ _ p v A B h.1 hg, h.2⟩) ?_ ?_
  · intro ρ W ⟨p1, p2, p3⟩ hG hF K hK; (try simp [FactsD] at hF); have ⟨hc, hf, hz⟩ := bcell (Gr.tr (Gr.drew _) hG); go_simp; exact hK _ (⟨⟨NewB.new _ _ _, by have := hG.size; simpa using this⟩, Gr.alloc _ _⟩)
  refine chainB_any (V := fun p v W' => NewB [.int .i64 0, .int .i64 0] 23 p v W' ∧ w3.heap.size ≤ p.1) (D := []) rfl (by kernel_rfl) (fun p v A B h hg => ⟨NewB.lasts _ _ p v A B h.1 hg, h.2⟩) ?_ ?_
  · intro ρ W ⟨p1, p2, p3⟩ hG hF K hK; (try simp [FactsD] at hF); have ⟨hc, hf, hz⟩ := bcell (Gr.tr (Gr.drew _) hG); go_simp; exact hK _ (⟨⟨NewB.new _ _ _, by have := hG.size; simpa using this⟩, Gr.alloc _ _⟩)
  refine chainB_done ?_
  intro vs bs W hG hV hdj
  obtain ⟨e13, e12, e11, -, -, -, -, -, e5, -⟩ := hV
  simp only [Nat.reduceSub] at e5
  simp only [Nat.reduceSub] at e11
  simp only [Nat.reduceSub] at e12
  simp only [Nat.reduceSub] at e13
  have hd1213 := hdj 12 13 (by omega) (by omega) (by omega)
  clear hdj
  simp only [lay, Act.put, List.getElem?_toArray, List.getElem?_cons_succ, List.getElem?_cons_zero, Option.bind_some, List.setIfInBounds_toArray, List.set_cons_succ, List.set_cons_zero]
  generalize vs 0 = v0
  generalize vs 1 = v1
  generalize vs 2 = v2
  generalize vs 3 = v3
  generalize vs 4 = v4
  generalize vs 5 = v5 at *
  generalize vs 6 = v6
  generalize vs 7 = v7
  generalize vs 8 = v8
  generalize vs 9 = v9
  generalize vs 10 = v10
  generalize vs 11 = v11 at *
  generalize vs 12 = v12 at *
  generalize vs 13 = v13 at *
  subst e5
  subst e11
  obtain ⟨hc, hf, hz⟩ := bcell hG
  obtain ⟨⟨b8, rfl, hb8, hb8', hB8⟩, hb8n⟩ := e12
  obtain ⟨⟨b9, rfl, hb9, hb9', hB9⟩, hb9n⟩ := e13
  have hne : ¬ b8 = b9 := by omega
  have hne' : ¬ b9 = b8 := by omega
  have hl8 : w.heap.size < b8 := by omega
  have hl9 : w.heap.size < b9 := by omega
  obtain ⟨y0, y1, yf0, yf1, yl⟩ := hB8.two
  obtain ⟨z0, z1, zf0, zf1, zl⟩ := hB9.two
  have HGW := Lib.hid (show Gr w W from ((Gr.alloc _ _).tr hg3).tr hG)
  clear hB8 hB9 hG hb8 hb8' hb9 hb9' hd1213 hb8n hb9n hc hf hz
  go_wp2
  all_goals
    have hXG : Gr w ((((W.setCell ⟨b8, 0, none⟩ (.int .i64 (xa - xf))).setCell ⟨b8, 1, none⟩ (.int .i64 (xb - xe))).setCell ⟨b9, 0, none⟩ (.int .i64 (ya - yf))).setCell ⟨b9, 1, none⟩ (.int .i64 (yb - ye))) := (((HGW.out.setCell (by simp; omega) _).setCell (by simp; omega) _).setCell (by simp; omega) _).setCell (by simp; omega) _
    go_ret2
    exact ⟨congrArg (fun x => Ending.returned (.tuple #[.int .i64 x, .int .i64 0])) (by rw [← hr.out]; split <;> (try split) <;> first | rfl | omega), hXG⟩
end Go.Proofs.Ytofdoadpaedogaa
