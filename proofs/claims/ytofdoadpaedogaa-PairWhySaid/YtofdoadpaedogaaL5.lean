import Derived.Test.YtofdoadpaedogaaL3
import Derived.Test.YtofdoadpaedogaaR3
namespace Go.Proofs.Ytofdoadpaedogaa
open Go.RowKit

set_option maxRecDepth 100000 in
set_option maxHeartbeats 4000000 in
theorem why_row2 (p : Pr) (sp : Option Addr) (len cap : Nat) (n : Nat) (w : World) (hl : len ≤ 40) (hT : ThingsAt p.l (.slice sp len cap) w) (hlen : p.l.length = len) (y lo hi P Q xa xb xc xd xe xf xg xh xz : Int) (h1 : Hid (p.why n = (y, 0))) (h2 : Hid (p.shift n = (lo, hi, 0))) (h3 : Hid (p.power = (P, Q, 0))) (h4 : Hid (p.ok = true)) (htk : p.l[n]? = some ⟨xa, xb, xc, xd, xe, xf, xg, xh, xz⟩)
    (hn : n < len) (bc : -4000 ≤ xc ∧ xc ≤ 4000) (bd : -4000 ≤ xd ∧ xd ≤ 4000) (bg : -4000 ≤ xg ∧ xg ≤ 4000) (bh : -4000 ≤ xh ∧ xh ≤ 4000) (bP : 1 ≤ P) (bQ : Q ≤ 500000000) (bPQ : P ≤ Q) (bne : 2000 ≤ p.ne) (bfa : 2000 ≤ p.fa)
    (r1 : decide (p.ti < xc - xh) = false) (r2 : decide (p.ti < xg - xd) = true) (hy : y = 1)
    (hnear : decide (2000 < imax 0 lo) = true ∨ (decide (2000 < imax 0 lo) = false ∧ decide (Q / p.ne < imax 0 lo) = true) ∨ (decide (2000 < imax 0 lo) = false ∧ decide (Q / p.ne < imax 0 lo) = false))
    (hfar : decide (hi < P / p.fa) = true ∨ (decide (hi < P / p.fa) = false ∧ decide (2000 < P / p.fa) = true) ∨ (decide (hi < P / p.fa) = false ∧ decide (2000 < P / p.fa) = false)) :
    Calls Try.prog 7 #[.agg #[.int .i64 p.fl, .int .i64 p.fh, .int .i64 p.bl, .int .i64 p.bh, .int .i64 p.ti, .int .i64 p.ne, .int .i64 p.fa, .slice sp len cap], .int .i64 n] w fun e w' => e = .returned (.bool true) ∧ Below w.heap.size w w' := by
  have d : decide (40 < (len : Int)) = false := by simp; omega
  have d' : decide (40 < len) = false := by simp; omega
  have TH := Lib.hid (fun (W : World) (hg : Gr (w.alloc (.cells #[.int .i64 p.fl, .int .i64 p.fh, .int .i64 p.bl, .int .i64 p.bh, .int .i64 p.ti, .int .i64 p.ne, .int .i64 p.fa, .slice sp len cap] 26)) W) => ThingsAt.lasts p.l _ _ _ hT ((Gr.alloc _ _).tr hg))
  have hg0 := Gr.same (w.alloc (.cells #[.int .i64 p.fl, .int .i64 p.fh, .int .i64 p.bl, .int .i64 p.bh, .int .i64 p.ti, .int .i64 p.ne, .int .i64 p.fa, .slice sp len cap] 26))
  have e1 : decide ((n : Int) < 0) = false := by simp
  have e2 : decide ((len : Int) ≤ (n : Int)) = false := by simp; omega
  have e3 : decide (len ≤ n) = false := by simp; omega
  have e4 : decide (P < 1) = false := by simp; omega
  have e5 : decide (Q < P) = false := by simp; omega
  have q0 : 0 ≤ Q / p.ne ∧ Q / p.ne ≤ 500000000 := quo_le (by omega) bQ (by omega)
  have q1 : 0 ≤ P / p.fa ∧ P / p.fa ≤ 500000000 := quo_le (by omega) (by omega) (by omega)
  have e6 : IntKind.i64.wrap (Q.tdiv p.ne) = Q / p.ne := by rw [Int.tdiv_eq_ediv_of_nonneg (by omega)]; exact wraps_i64 _ q0.1 (by omega)
  have e7 : IntKind.i64.wrap (P.tdiv p.fa) = P / p.fa := by rw [Int.tdiv_eq_ediv_of_nonneg (by omega)]; exact wraps_i64 _ q1.1 (by omega)
  have z1 : ¬ p.ne = 0 := by omega
  have z2 : ¬ p.fa = 0 := by omega
  have hmx : ∀ (x y : Int), (if x < y then y else x) = imax x y := fun _ _ => rfl
  have HX := Lib.hid (fun (W : World) (hg : Gr (w.alloc (.cells #[.int .i64 p.fl, .int .i64 p.fh, .int .i64 p.bl, .int .i64 p.bh, .int .i64 p.ti, .int .i64 p.ne, .int .i64 p.fa, .slice sp len cap] 26)) W) => (ThingsAt.lasts p.l _ _ _ hT ((Gr.alloc _ _).tr hg)).2)
  obtain ⟨c0, c1⟩ := bc
  obtain ⟨d0, d1⟩ := bd
  obtain ⟨g0, g1⟩ := bg
  obtain ⟨k0, k1⟩ := bh
  have HK := Lib.hid htk
  have HL := Lib.hid hlen
  clear hT hl htk hlen bPQ
  go_enter Try.func7, Try.ntmps7
  go_wp2_with fail
  refine (why_is h1.out (TH.out _ hg0)).mono ?_
  rintro e w1 ⟨rfl, hb1⟩
  have gg1 : Gr _ _ := hb1
  have hg1 := Gr.tr hg0 gg1
  obtain ⟨hc, hf, hz⟩ := bcell hg1
  go_wp2_with fail
  clear hc hf hz
  refine (shift_is h2.out (TH.out _ hg1)).mono ?_
  rintro e w2 ⟨rfl, hb2⟩
  have gg2 : Gr _ _ := hb2
  have hg2 := Gr.tr hg1 gg2
  obtain ⟨hc, hf, hz⟩ := bcell hg2
  go_wp2_with fail
  clear hc hf hz
  refine (power_is h3.out (TH.out _ (hg2.tr (Gr.alloc _ _)))).mono ?_
  rintro e w3 ⟨rfl, hb3⟩
  have gg3 : Gr _ _ := (Gr.alloc _ _).tr hb3
  have hg3 := Gr.tr hg2 gg3
  have y2_0 := ((bcell hb3).1 w2.heap.size 0 (by simp)).trans (show _ = some (.int .i64 lo) by simp)
  have y2_1 := ((bcell hb3).1 w2.heap.size 1 (by simp)).trans (show _ = some (.int .i64 hi) by simp)
  have k2 : w2.heap.size < w3.heap.size := Nat.lt_of_lt_of_le (by simp) hb3.size
  have k2n : w2.heap.size ≠ w3.heap.size := Nat.ne_of_lt k2
  have k2m : w3.heap.size ≠ w2.heap.size := (Nat.ne_of_lt k2).symm
  have k2p : w2.heap.size < w3.heap.size + 1 := Nat.lt_succ_of_lt k2
  obtain ⟨hc, hf, hz⟩ := bcell hg3
  go_wp2_with fail
  clear hc hf hz
  refine (rpair_is h4.out (TH.out _ (hg3.tr (Gr.alloc _ _)))).mono ?_
  rintro e w4 ⟨rfl, hb4⟩
  have gg4 : Gr _ _ := (Gr.alloc _ _).tr hb4
  have hg4 := Gr.tr hg3 gg4
  have y2_0 := ((bcell gg4).1 w2.heap.size 0 k2).trans y2_0
  have y2_1 := ((bcell gg4).1 w2.heap.size 1 k2).trans y2_1
  replace k2 : w2.heap.size < w4.heap.size := Nat.lt_of_lt_of_le k2 gg4.size
  have k2n : w2.heap.size ≠ w4.heap.size := Nat.ne_of_lt k2
  have k2m : w4.heap.size ≠ w2.heap.size := (Nat.ne_of_lt k2).symm
  have k2p : w2.heap.size < w4.heap.size + 1 := Nat.lt_succ_of_lt k2
  have y3_0 := ((bcell hb4).1 w3.heap.size 0 (by simp)).trans (show _ = some (.int .i64 P) by simp)
  have y3_1 := ((bcell hb4).1 w3.heap.size 1 (by simp)).trans (show _ = some (.int .i64 Q) by simp)
  have k3 : w3.heap.size < w4.heap.size := Nat.lt_of_lt_of_le (by simp) hb4.size
  have k3n : w3.heap.size ≠ w4.heap.size := Nat.ne_of_lt k3
  have k3m : w4.heap.size ≠ w3.heap.size := (Nat.ne_of_lt k3).symm
  have k3p : w3.heap.size < w4.heap.size + 1 := Nat.lt_succ_of_lt k3
  obtain ⟨hc, hf, hz⟩ := bcell hg4
  rcases HX.out _ hg4 with ⟨e, -⟩ | ⟨b, o, cap', hsp, hb, hcx⟩
  · have := HK.out; rw [e] at this; cases this
  have X := CellsFrom.nine (hcx n _ HK.out)
  simp only at X
  obtain ⟨hsp1, -, -⟩ : sp = some ⟨b, o, none⟩ ∧ len = p.l.length ∧ cap = cap' := by simpa using hsp
  subst hsp1
  clear hcx hsp
  have hal := @cal
  go_wp2_with fail
  subst hy
  rcases hnear with hn1 | ⟨hn1, hn2⟩ | ⟨hn1, hn2⟩ <;> rcases hfar with hf1 | ⟨hf1, hf2⟩ | ⟨hf1, hf2⟩
  all_goals (
    go_quiet (fail)
    go_wp2_with fail
    go_quiet (fail)
    go_wp2_with fail
    refine (awake_any _).mono ?_
    rintro e w5 ⟨rfl, hb5⟩
    have hg5 := hg4.tr (((Gr.alloc _ _).tr (Gr.drewN _ _)).tr hb5)
    clear hc hf hz
    obtain ⟨hc, hf, hz⟩ := bcell hg5
    go_wp2
    go_ret
    exact ⟨rfl, bgr ((Below.refl _ _).alloc (Nat.le_refl _) _) (by first | (simp; done) | (simp; omega) | omega) hg5⟩)
end Go.Proofs.Ytofdoadpaedogaa
