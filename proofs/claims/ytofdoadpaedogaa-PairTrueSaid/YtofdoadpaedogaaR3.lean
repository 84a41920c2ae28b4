import Derived.Test.YtofdoadpaedogaaR2
import Derived.BigQuiet
namespace Go.Proofs.Ytofdoadpaedogaa
open Go.RowKit

theorem Gr.drewN (w : World) (n : Nat) : Gr w (w.drewN n) := (Below.refl _ _).trans ⟨rfl, rfl, rfl, Nat.le_refl _, fun _ _ => rfl⟩
set_option maxHeartbeats 400000 in
theorem rthing_any (fl fh bl bh ti ne fa k : Int) (sp : Option Addr) (len cap : Nat) (w : World) (hl : len ≤ 1000) :
    Calls Try.prog 44 #[.agg #[.int .i64 fl, .int .i64 fh, .int .i64 bl, .int .i64 bh, .int .i64 ti, .int .i64 ne, .int .i64 fa, .slice sp len cap], .int .i64 k] w fun e w' => e = .returned (.bool (decide (0 ≤ k) && decide (k < (len : Int)))) ∧ Below w.heap.size w w' := by
  have e : (decide (0 ≤ k) && decide (k < (len : Int))) = (decide (0 ≤ k) && decide (k ≤ (len : Int) - 1)) := by
    congr 1
    simp only [decide_eq_decide]; omega
  rw [e]
  go_enter Try.func44, Try.ntmps44
  go_wp2_with (go_at_call 54; refine (rin_any _ _ _ _).mono ?_; rintro e w1 ⟨rfl, hb1⟩; obtain ⟨hc1, hf1, hz1⟩ := bcell (hb1))
  go_ret
  exact ⟨rfl, (bgr ((Below.refl _ _).alloc (by first | (simp; done) | (simp; omega) | omega) _) (by first | (simp; done) | (simp; omega) | omega) hb1)⟩
/-- The powers of a thing as the specification tells them. -/
def rpw (ti ne fa : Int) (t : Th) : Int × Int :=
  if (decide (t.c ≤ t.h + ti) && decide (t.g ≤ t.d + ti)) = true ∧ (ovl (t.a - t.f, t.b - t.e) (0, 2000)).1 ≤ (ovl (t.a - t.f, t.b - t.e) (0, 2000)).2 then ((ovl (t.a - t.f, t.b - t.e) (0, 2000)).1 * (if t.z = 0 then ne else t.z), ((ovl (t.a - t.f, t.b - t.e) (0, 2000)).2 + 1) * (if t.z = 0 then fa else t.z) - 1) else (1, 0)
set_option maxRecDepth 100000 in
set_option maxHeartbeats 2000000 in
theorem rpow_far_ok (fl fh bl bh ti ne fa : Int) (v : Value) (xa xb xc xd xe xf xg xh xz : Int) (w : World) (ha : -4000 ≤ xa ∧ xa ≤ 4000) (hb : -4000 ≤ xb ∧ xb ≤ 4000) (hd : -4000 ≤ xd ∧ xd ≤ 4000) (he : -4000 ≤ xe ∧ xe ≤ 4000) (hf : -4000 ≤ xf ∧ xf ≤ 4000) (hh : -4000 ≤ xh ∧ xh ≤ 4000) (hy : 0 ≤ ti ∧ ti ≤ 1000) (hz : (xz != 0) = false) (n0 : 0 ≤ ne) (n1 : ne ≤ 1073741824) (f0 : 0 ≤ fa) (f1 : fa ≤ 1073741824) (hlv : (decide (xc ≤ xh + ti) && decide (xg ≤ xd + ti)) = true) (h0 : (ovl (xa - xf, xb - xe) (0, 2000)).1 ≤ (ovl (xa - xf, xb - xe) (0, 2000)).2) :
    Calls Try.prog 59 #[.agg #[.int .i64 fl, .int .i64 fh, .int .i64 bl, .int .i64 bh, .int .i64 ti, .int .i64 ne, .int .i64 fa, v], .agg #[.int .i64 xa, .int .i64 xb, .int .i64 xc, .int .i64 xd, .int .i64 xe, .int .i64 xf, .int .i64 xg, .int .i64 xh, .int .i64 xz]] w fun e w' => e = .returned (.agg #[.int .i64 ((ovl (xa - xf, xb - xe) (0, 2000)).1 * ne), .int .i64 (((ovl (xa - xf, xb - xe) (0, 2000)).2 + 1) * fa - 1)]) ∧ Below w.heap.size w w' := by
  have HO := Lib.hid (fun w => rof_any xa xb xc xd xe xf xg xh xz w ha hb he hf)
  have HC := Lib.hid (fun w => rcommon_any (xa - xf) (xb - xe) 0 2000 w)
  have HL : Hid (∀ W : World, Calls Try.prog 60 #[.agg #[.int .i64 xa, .int .i64 xb, .int .i64 xc, .int .i64 xd, .int .i64 xe, .int .i64 xf, .int .i64 xg, .int .i64 xh, .int .i64 xz], .int .i64 ti] W fun e w' => e = .returned (.bool true) ∧ Below W.heap.size W w') := Lib.hid (fun W => by
    have := rlevel_any xa xb xc xd xe xf xg xh xz ti W hd hh hy
    rwa [hlv] at this)
  have b0 : 0 ≤ (ovl (xa - xf, xb - xe) (0, 2000)).1 ∧ (ovl (xa - xf, xb - xe) (0, 2000)).2 ≤ 2000 := by unfold ovl; simp only; constructor <;> split <;> omega
  generalize (ovl (xa - xf, xb - xe) (0, 2000)).1 = s1 at *
  generalize (ovl (xa - xf, xb - xe) (0, 2000)).2 = s2 at *
  obtain ⟨m0, m1⟩ := mulb (a := s1) (b := ne) (by omega) (by omega) (by omega) (by omega)
  obtain ⟨m2, m3⟩ := mulb (a := s2 + 1) (b := fa) (by omega) (by omega) (by omega) (by omega)
  have hem : decide (s2 < s1) = false := by simp; omega
  have b1 : 0 ≤ s2 := by omega
  obtain ⟨-, b2⟩ := b0
  clear hlv ha hb hd he hf hh hy h0
  go_enter Try.func59, Try.ntmps59
  go_wp2_with fail
  go_quiet (fail)
  go_wp2_with fail
  refine (HO.out _).mono ?_
  rintro e w1 ⟨rfl, hb1⟩
  have hg1 : Gr _ _ := hb1
  go_wp2_with fail
  refine (HC.out _).mono ?_
  rintro e w2 ⟨rfl, hb2⟩
  have hg2 := Gr.tr hg1 hb2
  clear hb1 hb2
  obtain ⟨hc, hf, hz'⟩ := bcell hg2
  have hal := @cal
  have q0 : w.heap.size < w2.heap.size := hz' _ (by first | (simp; done) | (simp; omega) | omega)
  have q1 : w.heap.size + 1 < w2.heap.size := hz' _ (by first | (simp; done) | (simp; omega) | omega)
  have q2 : w.heap.size + 2 < w2.heap.size := hz' _ (by first | (simp; done) | (simp; omega) | omega)
  have n0 := Nat.ne_of_lt q0
  have n1 := Nat.ne_of_lt q1
  have n2 := Nat.ne_of_lt q2
  go_wp2_with fail
  refine (HL.out _).mono ?_
  rintro e w3 ⟨rfl, hb3⟩
  have gg3 := Gr.tr (Gr.alloc _ _) hb3
  have hg3 := Gr.tr hg2 gg3
  have y0 := ((bcell hb3).1 w2.heap.size 0 (by simp)).trans (show _ = some (.int .i64 s1) by simp)
  have y1 := ((bcell hb3).1 w2.heap.size 1 (by simp)).trans (show _ = some (.int .i64 s2) by simp)
  have k2 : w2.heap.size < w3.heap.size := Nat.lt_of_lt_of_le (by simp) hb3.size
  clear hc hf hz' hb3
  obtain ⟨hc, hf, hz'⟩ := bcell hg3
  go_wp2_with fail
  refine (rempty_any _ _ _).mono ?_
  rintro e w4 ⟨rfl, hb4⟩
  have hg4 := Gr.tr hg3 hb4
  replace y0 := ((bcell hb4).1 w2.heap.size 0 k2).trans y0
  replace y1 := ((bcell hb4).1 w2.heap.size 1 k2).trans y1
  replace k2 : w2.heap.size < w4.heap.size := Nat.lt_of_lt_of_le k2 hb4.size
  clear hc hf hz' hb4
  obtain ⟨hc, hf, hz'⟩ := bcell hg4
  go_wp2
  exact bodyPost_ret (v := .agg #[.int .i64 (s1 * ne), .int .i64 ((s2 + 1) * fa - 1)]) (by simp [results, Try.results59, go_sem, hc]) rfl ⟨rfl, ((Gr.tr ((((Gr.alloc _ _).tr (Gr.alloc _ _)).tr (Gr.alloc _ _)).tr (Gr.drewN _ _)) hg4).setCell (by first | (simp; done) | (simp; omega) | omega) _).setCell (by first | (simp; done) | (simp; omega) | omega) _⟩
set_option maxRecDepth 100000 in
set_option maxHeartbeats 2000000 in
theorem rpow_far_no1 (fl fh bl bh ti ne fa : Int) (v : Value) (xa xb xc xd xe xf xg xh xz : Int) (w : World) (ha : -4000 ≤ xa ∧ xa ≤ 4000) (hb : -4000 ≤ xb ∧ xb ≤ 4000) (hd : -4000 ≤ xd ∧ xd ≤ 4000) (he : -4000 ≤ xe ∧ xe ≤ 4000) (hf : -4000 ≤ xf ∧ xf ≤ 4000) (hh : -4000 ≤ xh ∧ xh ≤ 4000) (hy : 0 ≤ ti ∧ ti ≤ 1000) (hz : (xz != 0) = false) (_n0 : 0 ≤ ne) (_n1 : ne ≤ 1073741824) (_f0 : 0 ≤ fa) (_f1 : fa ≤ 1073741824) (hlv : (decide (xc ≤ xh + ti) && decide (xg ≤ xd + ti)) = false) :
    Calls Try.prog 59 #[.agg #[.int .i64 fl, .int .i64 fh, .int .i64 bl, .int .i64 bh, .int .i64 ti, .int .i64 ne, .int .i64 fa, v], .agg #[.int .i64 xa, .int .i64 xb, .int .i64 xc, .int .i64 xd, .int .i64 xe, .int .i64 xf, .int .i64 xg, .int .i64 xh, .int .i64 xz]] w fun e w' => e = .returned (.agg #[.int .i64 1, .int .i64 0]) ∧ Below w.heap.size w w' := by
  have HO := Lib.hid (fun w => rof_any xa xb xc xd xe xf xg xh xz w ha hb he hf)
  have HC := Lib.hid (fun w => rcommon_any (xa - xf) (xb - xe) 0 2000 w)
  have HL : Hid (∀ W : World, Calls Try.prog 60 #[.agg #[.int .i64 xa, .int .i64 xb, .int .i64 xc, .int .i64 xd, .int .i64 xe, .int .i64 xf, .int .i64 xg, .int .i64 xh, .int .i64 xz], .int .i64 ti] W fun e w' => e = .returned (.bool false) ∧ Below W.heap.size W w') := Lib.hid (fun W => by
    have := rlevel_any xa xb xc xd xe xf xg xh xz ti W hd hh hy
    rwa [hlv] at this)
  generalize (ovl (xa - xf, xb - xe) (0, 2000)).1 = s1 at *
  generalize (ovl (xa - xf, xb - xe) (0, 2000)).2 = s2 at *
  clear hlv ha hb hd he hf hh hy
  go_enter Try.func59, Try.ntmps59
  go_wp2_with fail
  go_quiet (fail)
  go_wp2_with fail
  refine (HO.out _).mono ?_
  rintro e w1 ⟨rfl, hb1⟩
  have hg1 : Gr _ _ := hb1
  go_wp2_with fail
  refine (HC.out _).mono ?_
  rintro e w2 ⟨rfl, hb2⟩
  have hg2 := Gr.tr hg1 hb2
  clear hb1 hb2
  obtain ⟨hc, hf, hz'⟩ := bcell hg2
  have hal := @cal
  have q0 : w.heap.size < w2.heap.size := hz' _ (by first | (simp; done) | (simp; omega) | omega)
  have q1 : w.heap.size + 1 < w2.heap.size := hz' _ (by first | (simp; done) | (simp; omega) | omega)
  have q2 : w.heap.size + 2 < w2.heap.size := hz' _ (by first | (simp; done) | (simp; omega) | omega)
  have n0 := Nat.ne_of_lt q0
  have n1 := Nat.ne_of_lt q1
  have n2 := Nat.ne_of_lt q2
  go_wp2_with fail
  refine (HL.out _).mono ?_
  rintro e w3 ⟨rfl, hb3⟩
  have gg3 := Gr.tr (Gr.alloc _ _) hb3
  have hg3 := Gr.tr hg2 gg3
  have y0 := ((bcell hb3).1 w2.heap.size 0 (by simp)).trans (show _ = some (.int .i64 s1) by simp)
  have y1 := ((bcell hb3).1 w2.heap.size 1 (by simp)).trans (show _ = some (.int .i64 s2) by simp)
  have k2 : w2.heap.size < w3.heap.size := Nat.lt_of_lt_of_le (by simp) hb3.size
  clear hc hf hz' hb3
  obtain ⟨hc, hf, hz'⟩ := bcell hg3
  go_wp2_with fail
  refine (rnone_any _).mono ?_
  rintro e w5 ⟨rfl, hb5⟩
  have hg5 := Gr.tr hg3 hb5
  clear hc hf hz' hb5
  obtain ⟨hc, hf, hz'⟩ := bcell hg5
  go_wp2
  exact bodyPost_ret (v := .agg #[.int .i64 1, .int .i64 0]) (by simp [results, Try.results59, go_sem, hc]) rfl ⟨rfl, ((Gr.tr ((((Gr.alloc _ _).tr (Gr.alloc _ _)).tr (Gr.alloc _ _)).tr (Gr.drewN _ _)) hg5).setCell (by first | (simp; done) | (simp; omega) | omega) _).setCell (by first | (simp; done) | (simp; omega) | omega) _⟩
set_option maxRecDepth 100000 in
set_option maxHeartbeats 2000000 in
theorem rpow_far_no2 (fl fh bl bh ti ne fa : Int) (v : Value) (xa xb xc xd xe xf xg xh xz : Int) (w : World) (ha : -4000 ≤ xa ∧ xa ≤ 4000) (hb : -4000 ≤ xb ∧ xb ≤ 4000) (hd : -4000 ≤ xd ∧ xd ≤ 4000) (he : -4000 ≤ xe ∧ xe ≤ 4000) (hf : -4000 ≤ xf ∧ xf ≤ 4000) (hh : -4000 ≤ xh ∧ xh ≤ 4000) (hy : 0 ≤ ti ∧ ti ≤ 1000) (hz : (xz != 0) = false) (_n0 : 0 ≤ ne) (_n1 : ne ≤ 1073741824) (_f0 : 0 ≤ fa) (_f1 : fa ≤ 1073741824) (hlv : (decide (xc ≤ xh + ti) && decide (xg ≤ xd + ti)) = true) (h0 : (ovl (xa - xf, xb - xe) (0, 2000)).2 < (ovl (xa - xf, xb - xe) (0, 2000)).1) :
    Calls Try.prog 59 #[.agg #[.int .i64 fl, .int .i64 fh, .int .i64 bl, .int .i64 bh, .int .i64 ti, .int .i64 ne, .int .i64 fa, v], .agg #[.int .i64 xa, .int .i64 xb, .int .i64 xc, .int .i64 xd, .int .i64 xe, .int .i64 xf, .int .i64 xg, .int .i64 xh, .int .i64 xz]] w fun e w' => e = .returned (.agg #[.int .i64 1, .int .i64 0]) ∧ Below w.heap.size w w' := by
  have HO := Lib.hid (fun w => rof_any xa xb xc xd xe xf xg xh xz w ha hb he hf)
  have HC := Lib.hid (fun w => rcommon_any (xa - xf) (xb - xe) 0 2000 w)
  have HL : Hid (∀ W : World, Calls Try.prog 60 #[.agg #[.int .i64 xa, .int .i64 xb, .int .i64 xc, .int .i64 xd, .int .i64 xe, .int .i64 xf, .int .i64 xg, .int .i64 xh, .int .i64 xz], .int .i64 ti] W fun e w' => e = .returned (.bool true) ∧ Below W.heap.size W w') := Lib.hid (fun W => by
    have := rlevel_any xa xb xc xd xe xf xg xh xz ti W hd hh hy
    rwa [hlv] at this)
  generalize (ovl (xa - xf, xb - xe) (0, 2000)).1 = s1 at *
  generalize (ovl (xa - xf, xb - xe) (0, 2000)).2 = s2 at *
  have hem : decide (s2 < s1) = true := by simpa using h0
  clear hlv ha hb hd he hf hh hy h0
  go_enter Try.func59, Try.ntmps59
  go_wp2_with fail
  go_quiet (fail)
  go_wp2_with fail
  refine (HO.out _).mono ?_
  rintro e w1 ⟨rfl, hb1⟩
  have hg1 : Gr _ _ := hb1
  go_wp2_with fail
  refine (HC.out _).mono ?_
  rintro e w2 ⟨rfl, hb2⟩
  have hg2 := Gr.tr hg1 hb2
  clear hb1 hb2
  obtain ⟨hc, hf, hz'⟩ := bcell hg2
  have hal := @cal
  have q0 : w.heap.size < w2.heap.size := hz' _ (by first | (simp; done) | (simp; omega) | omega)
  have q1 : w.heap.size + 1 < w2.heap.size := hz' _ (by first | (simp; done) | (simp; omega) | omega)
  have q2 : w.heap.size + 2 < w2.heap.size := hz' _ (by first | (simp; done) | (simp; omega) | omega)
  have n0 := Nat.ne_of_lt q0
  have n1 := Nat.ne_of_lt q1
  have n2 := Nat.ne_of_lt q2
  go_wp2_with fail
  refine (HL.out _).mono ?_
  rintro e w3 ⟨rfl, hb3⟩
  have gg3 := Gr.tr (Gr.alloc _ _) hb3
  have hg3 := Gr.tr hg2 gg3
  have y0 := ((bcell hb3).1 w2.heap.size 0 (by simp)).trans (show _ = some (.int .i64 s1) by simp)
  have y1 := ((bcell hb3).1 w2.heap.size 1 (by simp)).trans (show _ = some (.int .i64 s2) by simp)
  have k2 : w2.heap.size < w3.heap.size := Nat.lt_of_lt_of_le (by simp) hb3.size
  clear hc hf hz' hb3
  obtain ⟨hc, hf, hz'⟩ := bcell hg3
  go_wp2_with fail
  refine (rempty_any _ _ _).mono ?_
  rintro e w4 ⟨rfl, hb4⟩
  have hg4 := Gr.tr hg3 hb4
  replace y0 := ((bcell hb4).1 w2.heap.size 0 k2).trans y0
  replace y1 := ((bcell hb4).1 w2.heap.size 1 k2).trans y1
  replace k2 : w2.heap.size < w4.heap.size := Nat.lt_of_lt_of_le k2 hb4.size
  clear hc hf hz' hb4
  obtain ⟨hc, hf, hz'⟩ := bcell hg4
  go_wp2_with fail
  refine (rnone_any _).mono ?_
  rintro e w5 ⟨rfl, hb5⟩
  have hg5 := Gr.tr hg4 hb5
  clear hc hf hz' hb5
  obtain ⟨hc, hf, hz'⟩ := bcell hg5
  go_wp2
  exact bodyPost_ret (v := .agg #[.int .i64 1, .int .i64 0]) (by simp [results, Try.results59, go_sem, hc]) rfl ⟨rfl, ((Gr.tr ((((Gr.alloc _ _).tr (Gr.alloc _ _)).tr (Gr.alloc _ _)).tr (Gr.drewN _ _)) hg5).setCell (by first | (simp; done) | (simp; omega) | omega) _).setCell (by first | (simp; done) | (simp; omega) | omega) _⟩
set_option maxRecDepth 100000 in
set_option maxHeartbeats 2000000 in
theorem rpow_mark_ok (fl fh bl bh ti ne fa : Int) (v : Value) (xa xb xc xd xe xf xg xh xz : Int) (w : World) (ha : -4000 ≤ xa ∧ xa ≤ 4000) (hb : -4000 ≤ xb ∧ xb ≤ 4000) (hd : -4000 ≤ xd ∧ xd ≤ 4000) (he : -4000 ≤ xe ∧ xe ≤ 4000) (hf : -4000 ≤ xf ∧ xf ≤ 4000) (hh : -4000 ≤ xh ∧ xh ≤ 4000) (hy : 0 ≤ ti ∧ ti ≤ 1000) (hz : (xz != 0) = true) (z0 : 0 ≤ xz) (z1 : xz ≤ 1073741824) (hlv : (decide (xc ≤ xh + ti) && decide (xg ≤ xd + ti)) = true) (h0 : (ovl (xa - xf, xb - xe) (0, 2000)).1 ≤ (ovl (xa - xf, xb - xe) (0, 2000)).2) :
    Calls Try.prog 59 #[.agg #[.int .i64 fl, .int .i64 fh, .int .i64 bl, .int .i64 bh, .int .i64 ti, .int .i64 ne, .int .i64 fa, v], .agg #[.int .i64 xa, .int .i64 xb, .int .i64 xc, .int .i64 xd, .int .i64 xe, .int .i64 xf, .int .i64 xg, .int .i64 xh, .int .i64 xz]] w fun e w' => e = .returned (.agg #[.int .i64 ((ovl (xa - xf, xb - xe) (0, 2000)).1 * xz), .int .i64 (((ovl (xa - xf, xb - xe) (0, 2000)).2 + 1) * xz - 1)]) ∧ Below w.heap.size w w' := by
  have HO := Lib.hid (fun w => rof_any xa xb xc xd xe xf xg xh xz w ha hb he hf)
  have HC := Lib.hid (fun w => rcommon_any (xa - xf) (xb - xe) 0 2000 w)
  have HL : Hid (∀ W : World, Calls Try.prog 60 #[.agg #[.int .i64 xa, .int .i64 xb, .int .i64 xc, .int .i64 xd, .int .i64 xe, .int .i64 xf, .int .i64 xg, .int .i64 xh, .int .i64 xz], .int .i64 ti] W fun e w' => e = .returned (.bool true) ∧ Below W.heap.size W w') := Lib.hid (fun W => by
    have := rlevel_any xa xb xc xd xe xf xg xh xz ti W hd hh hy
    rwa [hlv] at this)
  have b0 : 0 ≤ (ovl (xa - xf, xb - xe) (0, 2000)).1 ∧ (ovl (xa - xf, xb - xe) (0, 2000)).2 ≤ 2000 := by unfold ovl; simp only; constructor <;> split <;> omega
  generalize (ovl (xa - xf, xb - xe) (0, 2000)).1 = s1 at *
  generalize (ovl (xa - xf, xb - xe) (0, 2000)).2 = s2 at *
  obtain ⟨m0, m1⟩ := mulb (a := s1) (b := xz) (by omega) (by omega) (by omega) (by omega)
  obtain ⟨m2, m3⟩ := mulb (a := s2 + 1) (b := xz) (by omega) (by omega) (by omega) (by omega)
  have hem : decide (s2 < s1) = false := by simp; omega
  have b1 : 0 ≤ s2 := by omega
  obtain ⟨-, b2⟩ := b0
  clear hlv ha hb hd he hf hh hy h0
  go_enter Try.func59, Try.ntmps59
  go_wp2_with fail
  go_quiet (fail)
  go_wp2_with fail
  go_quiet (fail)
  go_wp2_with fail
  refine (HO.out _).mono ?_
  rintro e w1 ⟨rfl, hb1⟩
  have hg1 : Gr _ _ := hb1
  go_wp2_with fail
  refine (HC.out _).mono ?_
  rintro e w2 ⟨rfl, hb2⟩
  have hg2 := Gr.tr hg1 hb2
  clear hb1 hb2
  obtain ⟨hc, hf, hz'⟩ := bcell hg2
  have hal := @cal
  have q0 : w.heap.size < w2.heap.size := hz' _ (by first | (simp; done) | (simp; omega) | omega)
  have q1 : w.heap.size + 1 < w2.heap.size := hz' _ (by first | (simp; done) | (simp; omega) | omega)
  have q2 : w.heap.size + 2 < w2.heap.size := hz' _ (by first | (simp; done) | (simp; omega) | omega)
  have n0 := Nat.ne_of_lt q0
  have n1 := Nat.ne_of_lt q1
  have n2 := Nat.ne_of_lt q2
  go_wp2_with fail
  refine (HL.out _).mono ?_
  rintro e w3 ⟨rfl, hb3⟩
  have gg3 := Gr.tr (Gr.alloc _ _) hb3
  have hg3 := Gr.tr hg2 gg3
  have y0 := ((bcell hb3).1 w2.heap.size 0 (by simp)).trans (show _ = some (.int .i64 s1) by simp)
  have y1 := ((bcell hb3).1 w2.heap.size 1 (by simp)).trans (show _ = some (.int .i64 s2) by simp)
  have k2 : w2.heap.size < w3.heap.size := Nat.lt_of_lt_of_le (by simp) hb3.size
  clear hc hf hz' hb3
  obtain ⟨hc, hf, hz'⟩ := bcell hg3
  go_wp2_with fail
  refine (rempty_any _ _ _).mono ?_
  rintro e w4 ⟨rfl, hb4⟩
  have hg4 := Gr.tr hg3 hb4
  replace y0 := ((bcell hb4).1 w2.heap.size 0 k2).trans y0
  replace y1 := ((bcell hb4).1 w2.heap.size 1 k2).trans y1
  replace k2 : w2.heap.size < w4.heap.size := Nat.lt_of_lt_of_le k2 hb4.size
  clear hc hf hz' hb4
  obtain ⟨hc, hf, hz'⟩ := bcell hg4
  go_wp2
  exact bodyPost_ret (v := .agg #[.int .i64 (s1 * xz), .int .i64 ((s2 + 1) * xz - 1)]) (by simp [results, Try.results59, go_sem, hc]) rfl ⟨rfl, ((Gr.tr ((((Gr.alloc _ _).tr (Gr.alloc _ _)).tr (Gr.alloc _ _)).tr (Gr.drewN _ _)) hg4).setCell (by first | (simp; done) | (simp; omega) | omega) _).setCell (by first | (simp; done) | (simp; omega) | omega) _⟩
set_option maxRecDepth 100000 in
set_option maxHeartbeats 2000000 in
theorem rpow_mark_no1 (fl fh bl bh ti ne fa : Int) (v : Value) (xa xb xc xd xe xf xg xh xz : Int) (w : World) (ha : -4000 ≤ xa ∧ xa ≤ 4000) (hb : -4000 ≤ xb ∧ xb ≤ 4000) (hd : -4000 ≤ xd ∧ xd ≤ 4000) (he : -4000 ≤ xe ∧ xe ≤ 4000) (hf : -4000 ≤ xf ∧ xf ≤ 4000) (hh : -4000 ≤ xh ∧ xh ≤ 4000) (hy : 0 ≤ ti ∧ ti ≤ 1000) (hz : (xz != 0) = true) (_z0 : 0 ≤ xz) (_z1 : xz ≤ 1073741824) (hlv : (decide (xc ≤ xh + ti) && decide (xg ≤ xd + ti)) = false) :
    Calls Try.prog 59 #[.agg #[.int .i64 fl, .int .i64 fh, .int .i64 bl, .int .i64 bh, .int .i64 ti, .int .i64 ne, .int .i64 fa, v], .agg #[.int .i64 xa, .int .i64 xb, .int .i64 xc, .int .i64 xd, .int .i64 xe, .int .i64 xf, .int .i64 xg, .int .i64 xh, .int .i64 xz]] w fun e w' => e = .returned (.agg #[.int .i64 1, .int .i64 0]) ∧ Below w.heap.size w w' := by
  have HO := Lib.hid (fun w => rof_any xa xb xc xd xe xf xg xh xz w ha hb he hf)
  have HC := Lib.hid (fun w => rcommon_any (xa - xf) (xb - xe) 0 2000 w)
  have HL : Hid (∀ W : World, Calls Try.prog 60 #[.agg #[.int .i64 xa, .int .i64 xb, .int .i64 xc, .int .i64 xd, .int .i64 xe, .int .i64 xf, .int .i64 xg, .int .i64 xh, .int .i64 xz], .int .i64 ti] W fun e w' => e = .returned (.bool false) ∧ Below W.heap.size W w') := Lib.hid (fun W => by
    have := rlevel_any xa xb xc xd xe xf xg xh xz ti W hd hh hy
    rwa [hlv] at this)
  generalize (ovl (xa - xf, xb - xe) (0, 2000)).1 = s1 at *
  generalize (ovl (xa - xf, xb - xe) (0, 2000)).2 = s2 at *
  clear hlv ha hb hd he hf hh hy
  go_enter Try.func59, Try.ntmps59
  go_wp2_with fail
  go_quiet (fail)
  go_wp2_with fail
  go_quiet (fail)
  go_wp2_with fail
  refine (HO.out _).mono ?_
  rintro e w1 ⟨rfl, hb1⟩
  have hg1 : Gr _ _ := hb1
  go_wp2_with fail
  refine (HC.out _).mono ?_
  rintro e w2 ⟨rfl, hb2⟩
  have hg2 := Gr.tr hg1 hb2
  clear hb1 hb2
  obtain ⟨hc, hf, hz'⟩ := bcell hg2
  have hal := @cal
  have q0 : w.heap.size < w2.heap.size := hz' _ (by first | (simp; done) | (simp; omega) | omega)
  have q1 : w.heap.size + 1 < w2.heap.size := hz' _ (by first | (simp; done) | (simp; omega) | omega)
  have q2 : w.heap.size + 2 < w2.heap.size := hz' _ (by first | (simp; done) | (simp; omega) | omega)
  have n0 := Nat.ne_of_lt q0
  have n1 := Nat.ne_of_lt q1
  have n2 := Nat.ne_of_lt q2
  go_wp2_with fail
  refine (HL.out _).mono ?_
  rintro e w3 ⟨rfl, hb3⟩
  have gg3 := Gr.tr (Gr.alloc _ _) hb3
  have hg3 := Gr.tr hg2 gg3
  have y0 := ((bcell hb3).1 w2.heap.size 0 (by simp)).trans (show _ = some (.int .i64 s1) by simp)
  have y1 := ((bcell hb3).1 w2.heap.size 1 (by simp)).trans (show _ = some (.int .i64 s2) by simp)
  have k2 : w2.heap.size < w3.heap.size := Nat.lt_of_lt_of_le (by simp) hb3.size
  clear hc hf hz' hb3
  obtain ⟨hc, hf, hz'⟩ := bcell hg3
  go_wp2_with fail
  refine (rnone_any _).mono ?_
  rintro e w5 ⟨rfl, hb5⟩
  have hg5 := Gr.tr hg3 hb5
  clear hc hf hz' hb5
  obtain ⟨hc, hf, hz'⟩ := bcell hg5
  go_wp2
  exact bodyPost_ret (v := .agg #[.int .i64 1, .int .i64 0]) (by simp [results, Try.results59, go_sem, hc]) rfl ⟨rfl, ((Gr.tr ((((Gr.alloc _ _).tr (Gr.alloc _ _)).tr (Gr.alloc _ _)).tr (Gr.drewN _ _)) hg5).setCell (by first | (simp; done) | (simp; omega) | omega) _).setCell (by first | (simp; done) | (simp; omega) | omega) _⟩
set_option maxRecDepth 100000 in
set_option maxHeartbeats 2000000 in
theorem rpow_mark_no2 (fl fh bl bh ti ne fa : Int) (v : Value) (xa xb xc xd xe xf xg xh xz : Int) (w : World) (ha : -4000 ≤ xa ∧ xa ≤ 4000) (hb : -4000 ≤ xb ∧ xb ≤ 4000) (hd : -4000 ≤ xd ∧ xd ≤ 4000) (he : -4000 ≤ xe ∧ xe ≤ 4000) (hf : -4000 ≤ xf ∧ xf ≤ 4000) (hh : -4000 ≤ xh ∧ xh ≤ 4000) (hy : 0 ≤ ti ∧ ti ≤ 1000) (hz : (xz != 0) = true) (_z0 : 0 ≤ xz) (_z1 : xz ≤ 1073741824) (hlv : (decide (xc ≤ xh + ti) && decide (xg ≤ xd + ti)) = true) (h0 : (ovl (xa - xf, xb - xe) (0, 2000)).2 < (ovl (xa - xf, xb - xe) (0, 2000)).1) :
    Calls Try.prog 59 #[.agg #[.int .i64 fl, .int .i64 fh, .int .i64 bl, .int .i64 bh, .int .i64 ti, .int .i64 ne, .int .i64 fa, v], .agg #[.int .i64 xa, .int .i64 xb, .int .i64 xc, .int .i64 xd, .int .i64 xe, .int .i64 xf, .int .i64 xg, .int .i64 xh, .int .i64 xz]] w fun e w' => e = .returned (.agg #[.int .i64 1, .int .i64 0]) ∧ Below w.heap.size w w' := by
  have HO := Lib.hid (fun w => rof_any xa xb xc xd xe xf xg xh xz w ha hb he hf)
  have HC := Lib.hid (fun w => rcommon_any (xa - xf) (xb - xe) 0 2000 w)
  have HL : Hid (∀ W : World, Calls Try.prog 60 #[.agg #[.int .i64 xa, .int .i64 xb, .int .i64 xc, .int .i64 xd, .int .i64 xe, .int .i64 xf, .int .i64 xg, .int .i64 xh, .int .i64 xz], .int .i64 ti] W fun e w' => e = .returned (.bool true) ∧ Below W.heap.size W w') := Lib.hid (fun W => by
    have := rlevel_any xa xb xc xd xe xf xg xh xz ti W hd hh hy
    rwa [hlv] at this)
  generalize (ovl (xa - xf, xb - xe) (0, 2000)).1 = s1 at *
  generalize (ovl (xa - xf, xb - xe) (0, 2000)).2 = s2 at *
  have hem : decide (s2 < s1) = true := by simpa using h0
  clear hlv ha hb hd he hf hh hy h0
  go_enter Try.func59, Try.ntmps59
  go_wp2_with fail
  go_quiet (fail)
  go_wp2_with fail
  go_quiet (fail)
  go_wp2_with fail
  refine (HO.out _).mono ?_
  rintro e w1 ⟨rfl, hb1⟩
  have hg1 : Gr _ _ := hb1
  go_wp2_with fail
  refine (HC.out _).mono ?_
  rintro e w2 ⟨rfl, hb2⟩
  have hg2 := Gr.tr hg1 hb2
  clear hb1 hb2
  obtain ⟨hc, hf, hz'⟩ := bcell hg2
  have hal := @cal
  have q0 : w.heap.size < w2.heap.size := hz' _ (by first | (simp; done) | (simp; omega) | omega)
  have q1 : w.heap.size + 1 < w2.heap.size := hz' _ (by first | (simp; done) | (simp; omega) | omega)
  have q2 : w.heap.size + 2 < w2.heap.size := hz' _ (by first | (simp; done) | (simp; omega) | omega)
  have n0 := Nat.ne_of_lt q0
  have n1 := Nat.ne_of_lt q1
  have n2 := Nat.ne_of_lt q2
  go_wp2_with fail
  refine (HL.out _).mono ?_
  rintro e w3 ⟨rfl, hb3⟩
  have gg3 := Gr.tr (Gr.alloc _ _) hb3
  have hg3 := Gr.tr hg2 gg3
  have y0 := ((bcell hb3).1 w2.heap.size 0 (by simp)).trans (show _ = some (.int .i64 s1) by simp)
  have y1 := ((bcell hb3).1 w2.heap.size 1 (by simp)).trans (show _ = some (.int .i64 s2) by simp)
  have k2 : w2.heap.size < w3.heap.size := Nat.lt_of_lt_of_le (by simp) hb3.size
  clear hc hf hz' hb3
  obtain ⟨hc, hf, hz'⟩ := bcell hg3
  go_wp2_with fail
  refine (rempty_any _ _ _).mono ?_
  rintro e w4 ⟨rfl, hb4⟩
  have hg4 := Gr.tr hg3 hb4
  replace y0 := ((bcell hb4).1 w2.heap.size 0 k2).trans y0
  replace y1 := ((bcell hb4).1 w2.heap.size 1 k2).trans y1
  replace k2 : w2.heap.size < w4.heap.size := Nat.lt_of_lt_of_le k2 hb4.size
  clear hc hf hz' hb4
  obtain ⟨hc, hf, hz'⟩ := bcell hg4
  go_wp2_with fail
  refine (rnone_any _).mono ?_
  rintro e w5 ⟨rfl, hb5⟩
  have hg5 := Gr.tr hg4 hb5
  clear hc hf hz' hb5
  obtain ⟨hc, hf, hz'⟩ := bcell hg5
  go_wp2
  exact bodyPost_ret (v := .agg #[.int .i64 1, .int .i64 0]) (by simp [results, Try.results59, go_sem, hc]) rfl ⟨rfl, ((Gr.tr ((((Gr.alloc _ _).tr (Gr.alloc _ _)).tr (Gr.alloc _ _)).tr (Gr.drewN _ _)) hg5).setCell (by first | (simp; done) | (simp; omega) | omega) _).setCell (by first | (simp; done) | (simp; omega) | omega) _⟩
end Go.Proofs.Ytofdoadpaedogaa
