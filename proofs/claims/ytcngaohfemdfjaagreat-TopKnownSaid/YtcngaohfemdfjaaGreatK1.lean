import Derived.Test.YtcngaohfemdfjaaGreatK0
import Derived.ChangeAlike
import Derived.Laws.StructEq
import Derived.LoopIn
import Derived.LoopNIn
import Derived.OwnWalkIn
import Derived.RangeFuncBound
import Derived.RangeFuncCalls
import Derived.RangeFuncFrom
import Derived.RangeFuncLeaves
import Derived.RangeFuncNested
import Derived.RegionTactic
import Derived.Shelf.Abstract
import Derived.Shelf.RegionOpen
import Derived.TacticsInMore
import Derived.Test.YtcngaohfemdfjaaGreatK9
import Derived.Test.YtcngaohfemdfjaaGreatY33
set_option linter.unusedVariables false
set_option linter.unusedSimpArgs false
namespace Go.Proofs.YtcngaohfemdfjaaGreat
open Go.RowKit Go.Shelf
attribute [local go_sem] Oper.semAt_some

set_option maxHeartbeats 400000 in
theorem markDistances_any (m plo phi lo hi : Int) (w : World) :
    Calls Tryz.prog 179 #[.int .i64 m, .agg #[.int .i64 plo, .int .i64 phi], .agg #[.int .i64 lo, .int .i64 hi]] w fun e w' => e = .returned (.agg #[.int .i64 m, .int .i64 m]) ∧ Below w.heap.size w w' := by
  go_enter Tryz.func179, Tryz.ntmps179
  go_wp2_with (go_at_call 83; refine (span_any _ _ _).mono ?_; rintro e w1 ⟨rfl, hb1⟩; obtain ⟨hc1, hf1, hz1⟩ := bcell hb1)
  exact bodyPost_ret (v := .agg #[.int .i64 m, .int .i64 m]) (by simp [results, Tryz.results179, go_sem, hc1]) rfl ⟨rfl, (((bgr ((((Below.refl _ _).alloc (by first | (simp; done) | (simp; omega) | omega) _).alloc (by first | (simp; done) | (simp; omega) | omega) _).alloc (by first | (simp; done) | (simp; omega) | omega) _) (by first | (simp; done) | (simp; omega) | omega) hb1).setCell (by first | (simp; done) | (simp; omega) | omega) _).setCell (by first | (simp; done) | (simp; omega) | omega) _)⟩
theorem me_mark_distances (m : Int) (w : World) : (method 319 197 (.int .i64 m) "pairworks/pair.distances").run Tryz.prog w = .ok (179, .int .i64 m) w := by kernel_rfl
theorem me_far_distances (n f : Int) (w : World) : (method 319 196 (.agg #[.int .i64 n, .int .i64 f]) "pairworks/pair.distances").run Tryz.prog w = .ok (177, .agg #[.int .i64 n, .int .i64 f]) w := by kernel_rfl
theorem dist_pos {n f plo phi slo shi : Int} (h : 0 < slo) : dist n f plo phi slo shi = ovl (n, f) (plo / (shi + 1) + 1, phi / slo) := by unfold dist; rw [if_pos h]
theorem dist_neg {n f plo phi slo shi : Int} (h : ¬ 0 < slo) : dist n f plo phi slo shi = ovl (n, f) (plo / (shi + 1) + 1, f) := by unfold dist; rw [if_neg h]
set_option maxHeartbeats 800000 in
theorem farDistances_any (n f plo phi slo shi : Int) (w : World) (a0 : 0 ≤ plo) (a1 : plo ≤ 4398046511104) (b0 : 0 ≤ phi) (b1 : phi ≤ 4398046511104) (c0 : 0 ≤ shi) (c1 : shi ≤ 10000) :
    Calls Tryz.prog 177 #[.agg #[.int .i64 n, .int .i64 f], .agg #[.int .i64 plo, .int .i64 phi], .agg #[.int .i64 slo, .int .i64 shi]] w fun e w' => e = .returned (.agg #[.int .i64 (dist n f plo phi slo shi).1, .int .i64 (dist n f plo phi slo shi).2]) ∧ Below w.heap.size w w' := by
  obtain ⟨q0, q1⟩ := quo_le (b := shi + 1) a0 a1 (by omega)
  by_cases h : 0 < slo
  · rw [dist_pos h]
    have hd : decide (0 < slo) = true := by simpa using h
    obtain ⟨r0, r1⟩ := quo_le (b := slo) b0 b1 (by omega)
    go_enter Tryz.func177, Tryz.ntmps177
    go_wp2_with fail
    refine (span_any _ _ _).mono ?_
    rintro e w1 ⟨rfl, hb1⟩
    obtain ⟨hc1, hf1, hz1⟩ := bcell hb1
    go_wp2_with fail
    refine (span_any _ _ _).mono ?_
    rintro e w2 ⟨rfl, hb2⟩
    have hg2 := Gr.tr hb1 hb2
    clear hc1 hf1 hz1
    obtain ⟨hc2, hf2, hz2⟩ := bcell hg2
    go_wp2_with fail
    refine (overlap_any _ _ _ _ _ (SpansAt.one _ _ _ _)).mono ?_
    rintro e w3 ⟨rfl, hb3⟩
    have hg3 := (Gr.tr hg2 (Gr.alloc _ _)).tr hb3
    clear hc2 hf2 hz2
    obtain ⟨hc3, hf3, hz3⟩ := bcell hg3
    go_wp2
    exact bodyPost_ret (v := .agg #[.int .i64 (ovl (n, f) (plo / (shi + 1) + 1, phi / slo)).1, .int .i64 (ovl (n, f) (plo / (shi + 1) + 1, phi / slo)).2]) (by simp [results, Tryz.results177, go_sem, hc3]) rfl ⟨rfl, (((bgr (((((Below.refl _ _).alloc (by first | (simp; done) | (simp; omega) | omega) _).alloc (by first | (simp; done) | (simp; omega) | omega) _).alloc (by first | (simp; done) | (simp; omega) | omega) _).alloc (by first | (simp; done) | (simp; omega) | omega) _) (by first | (simp; done) | (simp; omega) | omega) hg3).setCell (by first | (simp; done) | (simp; omega) | omega) _).setCell (by first | (simp; done) | (simp; omega) | omega) _)⟩
  · rw [dist_neg h]
    have hd : decide (0 < slo) = false := by simpa using h
    go_enter Tryz.func177, Tryz.ntmps177
    go_wp2_with fail
    refine (span_any _ _ _).mono ?_
    rintro e w1 ⟨rfl, hb1⟩
    obtain ⟨hc1, hf1, hz1⟩ := bcell hb1
    go_wp2_with fail
    refine (span_any _ _ _).mono ?_
    rintro e w2 ⟨rfl, hb2⟩
    have hg2 := Gr.tr hb1 hb2
    clear hc1 hf1 hz1
    obtain ⟨hc2, hf2, hz2⟩ := bcell hg2
    go_wp2_with fail
    refine (overlap_any _ _ _ _ _ (SpansAt.one _ _ _ _)).mono ?_
    rintro e w3 ⟨rfl, hb3⟩
    have hg3 := (Gr.tr hg2 (Gr.alloc _ _)).tr hb3
    clear hc2 hf2 hz2
    obtain ⟨hc3, hf3, hz3⟩ := bcell hg3
    go_wp2
    exact bodyPost_ret (v := .agg #[.int .i64 (ovl (n, f) (plo / (shi + 1) + 1, f)).1, .int .i64 (ovl (n, f) (plo / (shi + 1) + 1, f)).2]) (by simp [results, Tryz.results177, go_sem, hc3]) rfl ⟨rfl, (((bgr (((((Below.refl _ _).alloc (by first | (simp; done) | (simp; omega) | omega) _).alloc (by first | (simp; done) | (simp; omega) | omega) _).alloc (by first | (simp; done) | (simp; omega) | omega) _).alloc (by first | (simp; done) | (simp; omega) | omega) _) (by first | (simp; done) | (simp; omega) | omega) hg3).setCell (by first | (simp; done) | (simp; omega) | omega) _).setCell (by first | (simp; done) | (simp; omega) | omega) _)⟩
def Sg.dists (s : Sg) (plo phi : Int) : Int × Int := match s.wit with
  | .mark m => (m, m)
  | .far n f => dist n f plo phi s.st.1 s.st.2
set_option maxHeartbeats 1600000 in
theorem dist1_range (fl fh bl bh ti ne fa : Int) (v sv : Value) (plo phi : Int) (l : List Sg) (k : Int) (p : Nat) (w : World) (h : SeenAt l sv w) (hk : k < 0 ∨ (l.length : Int) ≤ k) (hp : w.cell? ⟨p, 0, none⟩ = some (.int .i64 k)) (hpl : p < w.heap.size) :
    Calls Tryz.prog 86 #[.agg #[.int .i64 fl, .int .i64 fh, .int .i64 bl, .int .i64 bh, .int .i64 ti, .int .i64 ne, .int .i64 fa, v, sv, .int .i64 plo, .int .i64 phi], .pointer (some ⟨p, 0, none⟩)] w fun e w' => e = .panicked [{ v := .iface 32 (.int .i64 2), recovered := false }] ∧ Below w.heap.size w w' := by
  have HT := Lib.hid (fun (W : World) (hg : Gr w W) => thing_no fl fh bl bh ti ne fa v sv plo phi l k W (SeenAt.lasts _ _ _ _ h hg) hk)
  clear h hk
  have hal := @cal
  have hp1 : p < w.heap.size + 1 := by omega
  go_enter Tryz.func86, Tryz.ntmps86
  go_wp2_with (go_at_call 75; refine (HT.out _ ((Gr.alloc _ _).tr (Gr.alloc _ _))).mono ?_; rintro e w1 ⟨rfl, hb1⟩)
  exact ⟨rfl, rfl, (bgr (((Below.refl _ _).alloc (by first | (simp; done) | (simp; omega) | omega) _).alloc (by first | (simp; done) | (simp; omega) | omega) _) (by first | (simp; done) | (simp; omega) | omega) hb1)⟩
set_option maxHeartbeats 1600000 in
theorem dist1_none (fl fh bl bh ti ne fa : Int) (v sv : Value) (plo phi : Int) (l : List Sg) (k : Nat) (s : Sg) (p : Nat) (w : World) (h : SeenAt l sv w) (hk : l[k]? = some s) (hpp : phi < plo) (hp : w.cell? ⟨p, 0, none⟩ = some (.int .i64 k)) (hpl : p < w.heap.size) :
    Calls Tryz.prog 86 #[.agg #[.int .i64 fl, .int .i64 fh, .int .i64 bl, .int .i64 bh, .int .i64 ti, .int .i64 ne, .int .i64 fa, v, sv, .int .i64 plo, .int .i64 phi], .pointer (some ⟨p, 0, none⟩)] w fun e w' => e = .panicked [{ v := .iface 32 (.int .i64 4), recovered := false }] ∧ Below w.heap.size w w' := by
  obtain ⟨wt, wx, hwv⟩ := s.wit.iface
  have hsv : s.val = .agg #[.iface wt wx, .int .i64 s.lo, .int .i64 s.hi, .bool s.sl] := by unfold Sg.val; rw [hwv]
  have ht : ∀ W : World, Gr w W → Calls Tryz.prog 75 #[.agg #[.int .i64 fl, .int .i64 fh, .int .i64 bl, .int .i64 bh, .int .i64 ti, .int .i64 ne, .int .i64 fa, v, sv, .int .i64 plo, .int .i64 phi], .int .i64 k] W fun e w' => e = .returned (.agg #[.iface wt wx, .int .i64 s.lo, .int .i64 s.hi, .bool s.sl]) ∧ Below W.heap.size W w' := fun W hg => by
    have := thing_ok fl fh bl bh ti ne fa v sv plo phi l k s W (SeenAt.lasts _ _ _ _ h hg) hk
    rwa [hsv] at this
  clear hwv
  generalize s.lo = slo at *
  generalize s.hi = shi at *
  generalize s.sl = ssl at *
  have HT := Lib.hid ht
  clear h hk ht hsv
  have hal := @cal
  have hp1 : p < w.heap.size + 1 := by omega
  go_enter Tryz.func86, Tryz.ntmps86
  go_wp2_with (first | (go_at_call 75; refine (HT.out _ ((Gr.alloc _ _).tr (Gr.alloc _ _))).mono ?_; rintro e w1 ⟨rfl, hb1⟩; have HL1 := Lib.hid (((Box.fresh w [.int .i64 fl, .int .i64 fh, .int .i64 bl, .int .i64 bh, .int .i64 ti, .int .i64 ne, .int .i64 fa, v, sv, .int .i64 plo, .int .i64 phi] 107).grow (Gr.alloc _ _)).grow hb1); have HR1 := Lib.hid ((Box.fresh (w.alloc (.cells #[.int .i64 fl, .int .i64 fh, .int .i64 bl, .int .i64 bh, .int .i64 ti, .int .i64 ne, .int .i64 fa, v, sv, .int .i64 plo, .int .i64 phi] 107)) [.int .i64 0, .int .i64 0] 23).grow hb1); have HG1 := Lib.hid (((Gr.alloc w (.cells #[.int .i64 fl, .int .i64 fh, .int .i64 bl, .int .i64 bh, .int .i64 ti, .int .i64 ne, .int .i64 fa, v, sv, .int .i64 plo, .int .i64 phi] 107)).tr (Gr.alloc _ _)).tr hb1); clear hb1; obtain ⟨l0, l1, l2, l3, l4, l5, l6, l7, l8, l9, l10⟩ := HL1.out.eleven; have s1 := HL1.out.lt; have HR1 := Lib.hid (show Box w1 (w.heap.size + 1) [.int .i64 0, .int .i64 0] 23 from (by simpa using HR1.out)); have s2 := HR1.out.lt) | (go_at_call 77; refine (truths_no _ _ _ _ _ _ _ _ _ _ _ _ hpp).mono ?_; rintro e w2 ⟨rfl, hb2⟩))
  exact ⟨rfl, rfl, (HG1.out.tr (Gr.alloc _ _)).tr hb2⟩
set_option maxHeartbeats 1600000 in
theorem dist1_refuse (fl fh bl bh ti ne fa : Int) (v sv : Value) (plo phi : Int) (l : List Sg) (k : Nat) (s : Sg) (p : Nat) (w : World) (h : SeenAt l sv w) (hk : l[k]? = some s) (hok : Sg.ok s) (hpp : plo ≤ phi) (hw : s.why plo phi ≠ 0) (hp : w.cell? ⟨p, 0, none⟩ = some (.int .i64 k)) (hpl : p < w.heap.size) :
    Calls Tryz.prog 86 #[.agg #[.int .i64 fl, .int .i64 fh, .int .i64 bl, .int .i64 bh, .int .i64 ti, .int .i64 ne, .int .i64 fa, v, sv, .int .i64 plo, .int .i64 phi], .pointer (some ⟨p, 0, none⟩)] w fun e w' => e = .panicked [{ v := .iface 32 (.int .i64 11), recovered := false }] ∧ Below w.heap.size w w' := by
  obtain ⟨wt, wx, hwv⟩ := s.wit.iface
  have hsv : s.val = .agg #[.iface wt wx, .int .i64 s.lo, .int .i64 s.hi, .bool s.sl] := by unfold Sg.val; rw [hwv]
  have ht : ∀ W : World, Gr w W → Calls Tryz.prog 75 #[.agg #[.int .i64 fl, .int .i64 fh, .int .i64 bl, .int .i64 bh, .int .i64 ti, .int .i64 ne, .int .i64 fa, v, sv, .int .i64 plo, .int .i64 phi], .int .i64 k] W fun e w' => e = .returned (.agg #[.iface wt wx, .int .i64 s.lo, .int .i64 s.hi, .bool s.sl]) ∧ Below W.heap.size W w' := fun W hg => by
    have := thing_ok fl fh bl bh ti ne fa v sv plo phi l k s W (SeenAt.lasts _ _ _ _ h hg) hk
    rwa [hsv] at this
  have hwy : ∀ W : World, Calls Tryz.prog 76 #[.agg #[.iface wt wx, .int .i64 s.lo, .int .i64 s.hi, .bool s.sl], .agg #[.int .i64 plo, .int .i64 phi]] W fun e w' => e = .returned (.int .i64 (Sg.why s plo phi)) ∧ Below W.heap.size W w' := fun W => by
    have := why_any s plo phi W hok
    rwa [hsv] at this
  obtain ⟨wy, hwe⟩ : ∃ wy, s.why plo phi = wy := ⟨_, rfl⟩
  simp only [hwe] at hwy hw
  have hwd : (wy == 0) = false := by simpa using hw
  clear hw hwe
  have HWY := Lib.hid hwy
  clear hwy hok
  clear hwv
  generalize s.lo = slo at *
  generalize s.hi = shi at *
  generalize s.sl = ssl at *
  have HT := Lib.hid ht
  clear h hk ht hsv
  have hal := @cal
  have hp1 : p < w.heap.size + 1 := by omega
  go_enter Tryz.func86, Tryz.ntmps86
  go_wp2_with (first | (go_at_call 75; refine (HT.out _ ((Gr.alloc _ _).tr (Gr.alloc _ _))).mono ?_; rintro e w1 ⟨rfl, hb1⟩; have HL1 := Lib.hid (((Box.fresh w [.int .i64 fl, .int .i64 fh, .int .i64 bl, .int .i64 bh, .int .i64 ti, .int .i64 ne, .int .i64 fa, v, sv, .int .i64 plo, .int .i64 phi] 107).grow (Gr.alloc _ _)).grow hb1); have HR1 := Lib.hid ((Box.fresh (w.alloc (.cells #[.int .i64 fl, .int .i64 fh, .int .i64 bl, .int .i64 bh, .int .i64 ti, .int .i64 ne, .int .i64 fa, v, sv, .int .i64 plo, .int .i64 phi] 107)) [.int .i64 0, .int .i64 0] 23).grow hb1); have HG1 := Lib.hid (((Gr.alloc w (.cells #[.int .i64 fl, .int .i64 fh, .int .i64 bl, .int .i64 bh, .int .i64 ti, .int .i64 ne, .int .i64 fa, v, sv, .int .i64 plo, .int .i64 phi] 107)).tr (Gr.alloc _ _)).tr hb1); clear hb1; obtain ⟨l0, l1, l2, l3, l4, l5, l6, l7, l8, l9, l10⟩ := HL1.out.eleven; have s1 := HL1.out.lt; have HR1 := Lib.hid (show Box w1 (w.heap.size + 1) [.int .i64 0, .int .i64 0] 23 from (by simpa using HR1.out)); have s2 := HR1.out.lt) | (go_at_call 77; refine (truths_ok _ _ _ _ _ _ _ _ _ _ _ _ hpp).mono ?_; rintro e w2 ⟨rfl, hb2⟩; clear l0 l1 l2 l3 l4 l5 l6 l7 l8 l9 l10; have HR2 := Lib.hid ((HR1.out.grow (Gr.alloc _ (.cells #[.iface wt wx, .int .i64 slo, .int .i64 shi, .bool ssl] 111))).grow hb2); have HS2 := Lib.hid ((Box.fresh w1 [.iface wt wx, .int .i64 slo, .int .i64 shi, .bool ssl] 111).grow hb2); have HG2 := Lib.hid ((HG1.out.tr (Gr.alloc _ (.cells #[.iface wt wx, .int .i64 slo, .int .i64 shi, .bool ssl] 111))).tr hb2); clear hb2; obtain ⟨x0, x1, x2, x3, s3⟩ := HS2.out.four; have s4 := HR2.out.lt) | (go_at_call 76; refine (HWY.out _).mono ?_; rintro e w3 ⟨rfl, hb3⟩; clear x0 x1 x2 x3; have HR3 := Lib.hid ((HR2.out.grow (Gr.alloc _ (.cells #[.int .i64 plo, .int .i64 phi] 23))).grow hb3); have HS3 := Lib.hid ((HS2.out.grow (Gr.alloc _ (.cells #[.int .i64 plo, .int .i64 phi] 23))).grow hb3); have HP3 := Lib.hid ((Box.fresh w2 [.int .i64 plo, .int .i64 phi] 23).grow hb3); have HG3 := Lib.hid ((HG2.out.tr (Gr.alloc _ (.cells #[.int .i64 plo, .int .i64 phi] 23))).tr hb3); clear hb3) | (go_at_call 81; refine (require_no _ _).mono ?_; rintro e w4 ⟨rfl, hb4⟩))
  exact ⟨rfl, rfl, HG3.out.tr hb4⟩
set_option maxHeartbeats 1600000 in
theorem dist1_mark (fl fh bl bh ti ne fa : Int) (v sv : Value) (plo phi : Int) (l : List Sg) (k : Nat) (m lo hi : Int) (sl : Bool) (p : Nat) (w : World) (h : SeenAt l sv w) (hk : l[k]? = some ⟨.mark m, lo, hi, sl⟩) (hok : Sg.ok ⟨.mark m, lo, hi, sl⟩) (hpp : plo ≤ phi) (hw : Sg.why ⟨.mark m, lo, hi, sl⟩ plo phi = 0) (hp : w.cell? ⟨p, 0, none⟩ = some (.int .i64 k)) (hpl : p < w.heap.size) :
    Calls Tryz.prog 86 #[.agg #[.int .i64 fl, .int .i64 fh, .int .i64 bl, .int .i64 bh, .int .i64 ti, .int .i64 ne, .int .i64 fa, v, sv, .int .i64 plo, .int .i64 phi], .pointer (some ⟨p, 0, none⟩)] w fun e w' => e = .returned (.agg #[.int .i64 m, .int .i64 m]) ∧ Below w.heap.size w w' := by
  have hsv : Sg.val ⟨.mark m, lo, hi, sl⟩ = .agg #[.iface 197 (.int .i64 m), .int .i64 lo, .int .i64 hi, .bool sl] := rfl
  have ht : ∀ W : World, Gr w W → Calls Tryz.prog 75 #[.agg #[.int .i64 fl, .int .i64 fh, .int .i64 bl, .int .i64 bh, .int .i64 ti, .int .i64 ne, .int .i64 fa, v, sv, .int .i64 plo, .int .i64 phi], .int .i64 k] W fun e w' => e = .returned (.agg #[.iface 197 (.int .i64 m), .int .i64 lo, .int .i64 hi, .bool sl]) ∧ Below W.heap.size W w' := fun W hg => by
    have := thing_ok fl fh bl bh ti ne fa v sv plo phi l k ⟨.mark m, lo, hi, sl⟩ W (SeenAt.lasts _ _ _ _ h hg) hk
    rwa [hsv] at this
  have hwy : ∀ W : World, Calls Tryz.prog 76 #[.agg #[.iface 197 (.int .i64 m), .int .i64 lo, .int .i64 hi, .bool sl], .agg #[.int .i64 plo, .int .i64 phi]] W fun e w' => e = .returned (.int .i64 (Sg.why ⟨.mark m, lo, hi, sl⟩ plo phi)) ∧ Below W.heap.size W w' := fun W => by
    have := why_any ⟨.mark m, lo, hi, sl⟩ plo phi W hok
    rwa [hsv] at this
  simp only [hw] at hwy
  clear hw
  have hst := Sg.st_in hok
  have hwok := hok.1
  have HWY := Lib.hid hwy
  clear hwy hok
  have HT := Lib.hid ht
  clear h hk ht hsv
  have hal := @cal
  have hp1 : p < w.heap.size + 1 := by omega
  clear hst hwok
  have hme := fun w => me_mark_distances m w
  go_enter Tryz.func86, Tryz.ntmps86
  go_wp2_with (first | (go_at_call 75; refine (HT.out _ ((Gr.alloc _ _).tr (Gr.alloc _ _))).mono ?_; rintro e w1 ⟨rfl, hb1⟩; have HL1 := Lib.hid (((Box.fresh w [.int .i64 fl, .int .i64 fh, .int .i64 bl, .int .i64 bh, .int .i64 ti, .int .i64 ne, .int .i64 fa, v, sv, .int .i64 plo, .int .i64 phi] 107).grow (Gr.alloc _ _)).grow hb1); have HR1 := Lib.hid ((Box.fresh (w.alloc (.cells #[.int .i64 fl, .int .i64 fh, .int .i64 bl, .int .i64 bh, .int .i64 ti, .int .i64 ne, .int .i64 fa, v, sv, .int .i64 plo, .int .i64 phi] 107)) [.int .i64 0, .int .i64 0] 23).grow hb1); have HG1 := Lib.hid (((Gr.alloc w (.cells #[.int .i64 fl, .int .i64 fh, .int .i64 bl, .int .i64 bh, .int .i64 ti, .int .i64 ne, .int .i64 fa, v, sv, .int .i64 plo, .int .i64 phi] 107)).tr (Gr.alloc _ _)).tr hb1); clear hb1; obtain ⟨l0, l1, l2, l3, l4, l5, l6, l7, l8, l9, l10⟩ := HL1.out.eleven; have s1 := HL1.out.lt; have HR1 := Lib.hid (show Box w1 (w.heap.size + 1) [.int .i64 0, .int .i64 0] 23 from (by simpa using HR1.out)); have s2 := HR1.out.lt) | (go_at_call 77; refine (truths_ok _ _ _ _ _ _ _ _ _ _ _ _ hpp).mono ?_; rintro e w2 ⟨rfl, hb2⟩; clear l0 l1 l2 l3 l4 l5 l6 l7 l8 l9 l10; have HR2 := Lib.hid ((HR1.out.grow (Gr.alloc _ (.cells #[.iface 197 (.int .i64 m), .int .i64 lo, .int .i64 hi, .bool sl] 111))).grow hb2); have HS2 := Lib.hid ((Box.fresh w1 [.iface 197 (.int .i64 m), .int .i64 lo, .int .i64 hi, .bool sl] 111).grow hb2); have HG2 := Lib.hid ((HG1.out.tr (Gr.alloc _ (.cells #[.iface 197 (.int .i64 m), .int .i64 lo, .int .i64 hi, .bool sl] 111))).tr hb2); clear hb2; obtain ⟨x0, x1, x2, x3, s3⟩ := HS2.out.four; have s4 := HR2.out.lt) | (go_at_call 76; refine (HWY.out _).mono ?_; rintro e w3 ⟨rfl, hb3⟩; clear x0 x1 x2 x3; have HR3 := Lib.hid ((HR2.out.grow (Gr.alloc _ (.cells #[.int .i64 plo, .int .i64 phi] 23))).grow hb3); have HS3 := Lib.hid ((HS2.out.grow (Gr.alloc _ (.cells #[.int .i64 plo, .int .i64 phi] 23))).grow hb3); have HP3 := Lib.hid ((Box.fresh w2 [.int .i64 plo, .int .i64 phi] 23).grow hb3); have HG3 := Lib.hid ((HG2.out.tr (Gr.alloc _ (.cells #[.int .i64 plo, .int .i64 phi] 23))).tr hb3); clear hb3) | (go_at_call 81; refine (require_ok _ _).mono ?_; rintro e w4 ⟨rfl, hb4⟩; have HR4 := Lib.hid (HR3.out.grow hb4); have HS4 := Lib.hid (HS3.out.grow hb4); have HP4 := Lib.hid (HP3.out.grow hb4); have HG4 := Lib.hid (HG3.out.tr hb4); clear hb4; obtain ⟨x0, x1, x2, x3, s5⟩ := HS4.out.four; obtain ⟨y0, y1, yf0, yf1, s6⟩ := HP4.out.two))
  refine region2 8 ?_ ?_ ?_
  · kernel_rfl
  · kernel_rfl
  simp only [List.take_succ_cons, List.take_zero, List.drop_succ_cons, List.drop_zero]
  apply chain_eq (D := [(4, none)]) rfl (by kernel_rfl)
  · intro ρ W ⟨p1, p2, p3⟩ hG hF K hK; (try simp [FactsD] at hF); have ⟨hc, hf, hz⟩ := bcell (Gr.tr (Gr.drew _) hG); go_simp; exact hK _ (gives_val)
  apply chain_eq (D := [(16, some 0)]) rfl (by kernel_rfl)
  · intro ρ W ⟨p1, p2, p3⟩ hG hF K hK; (try simp [FactsD] at hF); have ⟨hc, hf, hz⟩ := bcell (Gr.tr (Gr.drew _) hG); go_simp; exact hK _ (gives_val)
  apply chain_eq (D := [(5, none)]) rfl (by kernel_rfl)
  · intro ρ W ⟨p1, p2, p3⟩ hG hF K hK; (try simp [FactsD] at hF); have ⟨hc, hf, hz⟩ := bcell (Gr.tr (Gr.drew _) hG); go_simp; exact hK _ (gives_val)
  apply chain_eq (D := [(4, none)]) rfl (by kernel_rfl)
  · intro ρ W ⟨p1, p2, p3⟩ hG hF K hK; (try simp [FactsD] at hF); have ⟨hc, hf, hz⟩ := bcell (Gr.tr (Gr.drew _) hG); go_simp; exact hK _ (gives_val)
  apply chain_eq (D := [(19, some 0)]) rfl (by kernel_rfl)
  · intro ρ W ⟨p1, p2, p3⟩ hG hF K hK; (try simp [FactsD] at hF); have ⟨hc, hf, hz⟩ := bcell (Gr.tr (Gr.drew _) hG); go_simp; exact hK _ (gives_call (steady_any _ _ _ _ _))
  apply chain_eq (D := [(17, some 3)]) rfl (by kernel_rfl)
  · intro ρ W ⟨p1, p2, p3⟩ hG hF K hK; (try simp [FactsD] at hF); have ⟨hc, hf, hz⟩ := bcell (Gr.tr (Gr.drew _) hG); go_simp; exact hK _ (gives_val)
  apply chain_eq (D := [(17, some 4)]) rfl (by kernel_rfl)
  · intro ρ W ⟨p1, p2, p3⟩ hG hF K hK; (try simp [FactsD] at hF); have ⟨hc, hf, hz⟩ := bcell (Gr.tr (Gr.drew _) hG); go_simp; exact hK _ (gives_val)
  apply chain_eq (D := [(22, some 0), (18, some 4), (20, some 2)]) rfl (by kernel_rfl)
  · intro ρ W ⟨p1, p2, p3⟩ hG hF K hK; (try simp [FactsD] at hF); have ⟨hc, hf, hz⟩ := bcell (Gr.tr (Gr.drew _) hG); go_simp; exact hK _ (gives_call (markDistances_any _ _ _ _ _ _))
  refine chain_done ?_
  intro vs W hG hV
  obtain ⟨e7, -⟩ := hV
  simp only [Nat.reduceSub] at e7
  simp only [lay, Act.put, List.getElem?_toArray, List.getElem?_cons_succ, List.getElem?_cons_zero, Option.bind_some, List.setIfInBounds_toArray, List.set_cons_succ, List.set_cons_zero]
  generalize vs 0 = v0
  generalize vs 1 = v1
  generalize vs 2 = v2
  generalize vs 3 = v3
  generalize vs 4 = v4
  generalize vs 5 = v5
  generalize vs 6 = v6
  generalize vs 7 = v7 at *
  subst e7
  obtain ⟨hc, hf, hz⟩ := bcell hG
  obtain ⟨z0, z1, zf0, zf1, s7⟩ := (HR4.out.grow hG).two
  go_wp2
  exact bodyPost_ret (v := .agg #[.int .i64 m, .int .i64 m]) (by simp [results, Tryz.results86, go_sem, z0, z1]) rfl ⟨rfl, (((show Below w.heap.size w _ from HG4.out.tr hG).setCell (by first | (simp; done) | (simp; omega) | omega) _).setCell (by first | (simp; done) | (simp; omega) | omega) _)⟩
set_option maxHeartbeats 1600000 in
theorem dist1_far (fl fh bl bh ti ne fa : Int) (v sv : Value) (plo phi : Int) (l : List Sg) (k : Nat) (n f lo hi : Int) (sl : Bool) (p : Nat) (w : World) (h : SeenAt l sv w) (hk : l[k]? = some ⟨.far n f, lo, hi, sl⟩) (hok : Sg.ok ⟨.far n f, lo, hi, sl⟩) (hpp : plo ≤ phi) (hw : Sg.why ⟨.far n f, lo, hi, sl⟩ plo phi = 0) (a0 : 0 ≤ plo) (a1 : phi ≤ 4398046511104) (hhi : 0 ≤ hi) (hp : w.cell? ⟨p, 0, none⟩ = some (.int .i64 k)) (hpl : p < w.heap.size) :
    Calls Tryz.prog 86 #[.agg #[.int .i64 fl, .int .i64 fh, .int .i64 bl, .int .i64 bh, .int .i64 ti, .int .i64 ne, .int .i64 fa, v, sv, .int .i64 plo, .int .i64 phi], .pointer (some ⟨p, 0, none⟩)] w fun e w' => e = .returned (.agg #[.int .i64 (dist n f plo phi (ovl (lo, hi) (0, 2000)).1 (ovl (lo, hi) (0, 2000)).2).1, .int .i64 (dist n f plo phi (ovl (lo, hi) (0, 2000)).1 (ovl (lo, hi) (0, 2000)).2).2]) ∧ Below w.heap.size w w' := by
  have hsv : Sg.val ⟨.far n f, lo, hi, sl⟩ = .agg #[.iface 196 (.agg #[.int .i64 n, .int .i64 f]), .int .i64 lo, .int .i64 hi, .bool sl] := rfl
  have ht : ∀ W : World, Gr w W → Calls Tryz.prog 75 #[.agg #[.int .i64 fl, .int .i64 fh, .int .i64 bl, .int .i64 bh, .int .i64 ti, .int .i64 ne, .int .i64 fa, v, sv, .int .i64 plo, .int .i64 phi], .int .i64 k] W fun e w' => e = .returned (.agg #[.iface 196 (.agg #[.int .i64 n, .int .i64 f]), .int .i64 lo, .int .i64 hi, .bool sl]) ∧ Below W.heap.size W w' := fun W hg => by
    have := thing_ok fl fh bl bh ti ne fa v sv plo phi l k ⟨.far n f, lo, hi, sl⟩ W (SeenAt.lasts _ _ _ _ h hg) hk
    rwa [hsv] at this
  have hwy : ∀ W : World, Calls Tryz.prog 76 #[.agg #[.iface 196 (.agg #[.int .i64 n, .int .i64 f]), .int .i64 lo, .int .i64 hi, .bool sl], .agg #[.int .i64 plo, .int .i64 phi]] W fun e w' => e = .returned (.int .i64 (Sg.why ⟨.far n f, lo, hi, sl⟩ plo phi)) ∧ Below W.heap.size W w' := fun W => by
    have := why_any ⟨.far n f, lo, hi, sl⟩ plo phi W hok
    rwa [hsv] at this
  simp only [hw] at hwy
  clear hw
  have hst := Sg.st_in hok
  have hwok := hok.1
  have HWY := Lib.hid hwy
  clear hwy hok
  have HT := Lib.hid ht
  clear h hk ht hsv
  have hal := @cal
  have hp1 : p < w.heap.size + 1 := by omega
  have hs2 : 0 ≤ (ovl (lo, hi) (0, 2000)).2 := by unfold ovl; simp only; split <;> omega
  have hs3 : (ovl (lo, hi) (0, 2000)).2 ≤ 10000 := hst.2.2.2
  clear hst hwok
  have hme := fun w => me_far_distances n f w
  go_enter Tryz.func86, Tryz.ntmps86
  go_wp2_with (first | (go_at_call 75; refine (HT.out _ ((Gr.alloc _ _).tr (Gr.alloc _ _))).mono ?_; rintro e w1 ⟨rfl, hb1⟩; have HL1 := Lib.hid (((Box.fresh w [.int .i64 fl, .int .i64 fh, .int .i64 bl, .int .i64 bh, .int .i64 ti, .int .i64 ne, .int .i64 fa, v, sv, .int .i64 plo, .int .i64 phi] 107).grow (Gr.alloc _ _)).grow hb1); have HR1 := Lib.hid ((Box.fresh (w.alloc (.cells #[.int .i64 fl, .int .i64 fh, .int .i64 bl, .int .i64 bh, .int .i64 ti, .int .i64 ne, .int .i64 fa, v, sv, .int .i64 plo, .int .i64 phi] 107)) [.int .i64 0, .int .i64 0] 23).grow hb1); have HG1 := Lib.hid (((Gr.alloc w (.cells #[.int .i64 fl, .int .i64 fh, .int .i64 bl, .int .i64 bh, .int .i64 ti, .int .i64 ne, .int .i64 fa, v, sv, .int .i64 plo, .int .i64 phi] 107)).tr (Gr.alloc _ _)).tr hb1); clear hb1; obtain ⟨l0, l1, l2, l3, l4, l5, l6, l7, l8, l9, l10⟩ := HL1.out.eleven; have s1 := HL1.out.lt; have HR1 := Lib.hid (show Box w1 (w.heap.size + 1) [.int .i64 0, .int .i64 0] 23 from (by simpa using HR1.out)); have s2 := HR1.out.lt) | (go_at_call 77; refine (truths_ok _ _ _ _ _ _ _ _ _ _ _ _ hpp).mono ?_; rintro e w2 ⟨rfl, hb2⟩; clear l0 l1 l2 l3 l4 l5 l6 l7 l8 l9 l10; have HR2 := Lib.hid ((HR1.out.grow (Gr.alloc _ (.cells #[.iface 196 (.agg #[.int .i64 n, .int .i64 f]), .int .i64 lo, .int .i64 hi, .bool sl] 111))).grow hb2); have HS2 := Lib.hid ((Box.fresh w1 [.iface 196 (.agg #[.int .i64 n, .int .i64 f]), .int .i64 lo, .int .i64 hi, .bool sl] 111).grow hb2); have HG2 := Lib.hid ((HG1.out.tr (Gr.alloc _ (.cells #[.iface 196 (.agg #[.int .i64 n, .int .i64 f]), .int .i64 lo, .int .i64 hi, .bool sl] 111))).tr hb2); clear hb2; obtain ⟨x0, x1, x2, x3, s3⟩ := HS2.out.four; have s4 := HR2.out.lt) | (go_at_call 76; refine (HWY.out _).mono ?_; rintro e w3 ⟨rfl, hb3⟩; clear x0 x1 x2 x3; have HR3 := Lib.hid ((HR2.out.grow (Gr.alloc _ (.cells #[.int .i64 plo, .int .i64 phi] 23))).grow hb3); have HS3 := Lib.hid ((HS2.out.grow (Gr.alloc _ (.cells #[.int .i64 plo, .int .i64 phi] 23))).grow hb3); have HP3 := Lib.hid ((Box.fresh w2 [.int .i64 plo, .int .i64 phi] 23).grow hb3); have HG3 := Lib.hid ((HG2.out.tr (Gr.alloc _ (.cells #[.int .i64 plo, .int .i64 phi] 23))).tr hb3); clear hb3) | (go_at_call 81; refine (require_ok _ _).mono ?_; rintro e w4 ⟨rfl, hb4⟩; have HR4 := Lib.hid (HR3.out.grow hb4); have HS4 := Lib.hid (HS3.out.grow hb4); have HP4 := Lib.hid (HP3.out.grow hb4); have HG4 := Lib.hid (HG3.out.tr hb4); clear hb4; obtain ⟨x0, x1, x2, x3, s5⟩ := HS4.out.four; obtain ⟨y0, y1, yf0, yf1, s6⟩ := HP4.out.two))
  refine region2 8 ?_ ?_ ?_
  · kernel_rfl
  · kernel_rfl
  simp only [List.take_succ_cons, List.take_zero, List.drop_succ_cons, List.drop_zero]
  apply chain_eq (D := [(4, none)]) rfl (by kernel_rfl)
  · intro ρ W ⟨p1, p2, p3⟩ hG hF K hK; (try simp [FactsD] at hF); have ⟨hc, hf, hz⟩ := bcell (Gr.tr (Gr.drew _) hG); go_simp; exact hK _ (gives_val)
  apply chain_eq (D := [(16, some 0)]) rfl (by kernel_rfl)
  · intro ρ W ⟨p1, p2, p3⟩ hG hF K hK; (try simp [FactsD] at hF); have ⟨hc, hf, hz⟩ := bcell (Gr.tr (Gr.drew _) hG); go_simp; exact hK _ (gives_val)
  apply chain_eq (D := [(5, none)]) rfl (by kernel_rfl)
  · intro ρ W ⟨p1, p2, p3⟩ hG hF K hK; (try simp [FactsD] at hF); have ⟨hc, hf, hz⟩ := bcell (Gr.tr (Gr.drew _) hG); go_simp; exact hK _ (gives_val)
  apply chain_eq (D := [(4, none)]) rfl (by kernel_rfl)
  · intro ρ W ⟨p1, p2, p3⟩ hG hF K hK; (try simp [FactsD] at hF); have ⟨hc, hf, hz⟩ := bcell (Gr.tr (Gr.drew _) hG); go_simp; exact hK _ (gives_val)
  apply chain_eq (D := [(19, some 0)]) rfl (by kernel_rfl)
  · intro ρ W ⟨p1, p2, p3⟩ hG hF K hK; (try simp [FactsD] at hF); have ⟨hc, hf, hz⟩ := bcell (Gr.tr (Gr.drew _) hG); go_simp; exact hK _ (gives_call (steady_any _ _ _ _ _))
  apply chain_eq (D := [(17, some 3)]) rfl (by kernel_rfl)
  · intro ρ W ⟨p1, p2, p3⟩ hG hF K hK; (try simp [FactsD] at hF); have ⟨hc, hf, hz⟩ := bcell (Gr.tr (Gr.drew _) hG); go_simp; exact hK _ (gives_val)
  apply chain_eq (D := [(17, some 4)]) rfl (by kernel_rfl)
  · intro ρ W ⟨p1, p2, p3⟩ hG hF K hK; (try simp [FactsD] at hF); have ⟨hc, hf, hz⟩ := bcell (Gr.tr (Gr.drew _) hG); go_simp; exact hK _ (gives_val)
  apply chain_eq (D := [(22, some 0), (18, some 4), (20, some 2)]) rfl (by kernel_rfl)
  · intro ρ W ⟨p1, p2, p3⟩ hG hF K hK; (try simp [FactsD] at hF); have ⟨hc, hf, hz⟩ := bcell (Gr.tr (Gr.drew _) hG); go_simp; exact hK _ (gives_call (farDistances_any _ _ _ _ _ _ _ a0 (by omega) (by omega) a1 hs2 hs3))
  refine chain_done ?_
  intro vs W hG hV
  obtain ⟨e7, -⟩ := hV
  simp only [Nat.reduceSub] at e7
  simp only [lay, Act.put, List.getElem?_toArray, List.getElem?_cons_succ, List.getElem?_cons_zero, Option.bind_some, List.setIfInBounds_toArray, List.set_cons_succ, List.set_cons_zero]
  generalize vs 0 = v0
  generalize vs 1 = v1
  generalize vs 2 = v2
  generalize vs 3 = v3
  generalize vs 4 = v4
  generalize vs 5 = v5
  generalize vs 6 = v6
  generalize vs 7 = v7 at *
  subst e7
  obtain ⟨hc, hf, hz⟩ := bcell hG
  obtain ⟨z0, z1, zf0, zf1, s7⟩ := (HR4.out.grow hG).two
  go_wp2
  exact bodyPost_ret (v := .agg #[.int .i64 (dist n f plo phi (ovl (lo, hi) (0, 2000)).1 (ovl (lo, hi) (0, 2000)).2).1, .int .i64 (dist n f plo phi (ovl (lo, hi) (0, 2000)).1 (ovl (lo, hi) (0, 2000)).2).2]) (by simp [results, Tryz.results86, go_sem, z0, z1]) rfl ⟨rfl, (((show Below w.heap.size w _ from HG4.out.tr hG).setCell (by first | (simp; done) | (simp; omega) | omega) _).setCell (by first | (simp; done) | (simp; omega) | omega) _)⟩
set_option maxHeartbeats 800000 in
theorem Distance_walk (fl fh bl bh ti ne fa : Int) (vp : Option Addr) (vn vc : Nat) (k x y : Int) (c : Int) (w : World) (hc : ∀ (W : World) (q : Nat), Gr w W → W.cell? ⟨q, 0, none⟩ = some (.int .i64 k) → q < W.heap.size → Calls Tryz.prog 78 #[.agg #[.int .i64 fl, .int .i64 fh, .int .i64 bl, .int .i64 bh, .int .i64 ti, .int .i64 ne, .int .i64 fa, .slice vp vn vc], .func (.func 86) #[] #[.pointer (some ⟨q, 0, none⟩)]] W fun e w' => e = .returned (.tuple #[.agg #[.int .i64 x, .int .i64 y], .int .i64 c]) ∧ Below W.heap.size W w') :
    Calls Tryz.prog 44 #[.agg #[.int .i64 fl, .int .i64 fh, .int .i64 bl, .int .i64 bh, .int .i64 ti, .int .i64 ne, .int .i64 fa, .slice vp vn vc], .int .i64 k] w fun e w' => e = .returned (.tuple #[.agg #[.int .i64 x, .int .i64 y], .int .i64 c]) ∧ Below w.heap.size w w' := by
  have hmf : ∀ (fn : Fn) (first cap : Array Value) (w : World), (Instr.makeFunc fn first cap).run Tryz.prog w = .ok (.func fn first cap) w := fun _ _ _ _ => rfl
  have HC := Lib.hid hc
  clear hc
  have hal := @cal
  have hfl := @fal
  go_enter Tryz.func44, Tryz.ntmps44
  go_wp2_with (go_at_call 78; refine (HC.out _ _ (((Gr.alloc _ _).tr (Gr.alloc _ _)).tr (Gr.alloc _ _)) (by simp [go_sem]) (by first | (simp; done) | (simp; omega))).mono ?_; rintro e w1 ⟨rfl, hb1⟩; obtain ⟨hc1, hf1, hz1⟩ := bcell hb1)
  exact bodyPost_ret (v := .tuple #[.agg #[.int .i64 x, .int .i64 y], .int .i64 c]) (by simp [results, Tryz.results44, go_sem, hc1]) rfl ⟨rfl, (((bgr ((((Below.refl _ _).alloc (by first | (simp; done) | (simp; omega) | omega) _).alloc (by first | (simp; done) | (simp; omega) | omega) _).alloc (by first | (simp; done) | (simp; omega) | omega) _) (by first | (simp; done) | (simp; omega) | omega) hb1).setCell (by first | (simp; done) | (simp; omega) | omega) _).setCell (by first | (simp; done) | (simp; omega) | omega) _)⟩
theorem Sg.why_zero {s : Sg} {plo phi : Int} (h : s.why plo phi = 0) : s.sl = false ∧ 0 ≤ s.hi ∧ s.lo ≤ 2000 ∧ s.pw.1 ≤ phi ∧ plo ≤ s.pw.2 := by
  unfold Sg.why at h
  split at h
  · cases h
  · rename_i h0
    split at h
    · cases h
    · rename_i h1
      split at h
      · cases h
      · rename_i h2
        split at h
        · cases h
        · rename_i h3
          simp [Sg.reason, Sg.tooNear] at h0 h1 h2 h3
          exact ⟨h0, h1, h2.1, h2.2, h3⟩
def Pr.distance (p : Pr) (k : Int) : Int × Int × Int :=
  if p.ok then match p.at k with
    | some s => if p.pw.1 ≤ p.pw.2 then if s.why p.pw.1 p.pw.2 = 0 then ((s.dists p.pw.1 p.pw.2).1, (s.dists p.pw.1 p.pw.2).2, 0) else (0, 0, 11) else (0, 0, 4)
    | none => (0, 0, 2)
  else (0, 0, 1)
set_option maxHeartbeats 800000 in
theorem Distance_spec (p : Pr) (v : Value) (k : Int) (w : World) (h : ThingsAt p.l v w) :
    Calls Tryz.prog 44 #[p.val v, .int .i64 k] w fun e w' => e = .returned (.tuple #[.agg #[.int .i64 (p.distance k).1, .int .i64 (p.distance k).2.1], .int .i64 (p.distance k).2.2]) ∧ Below w.heap.size w w' := by
  obtain ⟨vp, vc, rfl, -⟩ := h.len
  by_cases hv : p.ok = true
  · have hpw := p.pw_in hv
    have hse := p.see_ok hv
    have hln := p.len hv
    have hbd := p.bounds hv
    have hv' : valid p.fl p.fh p.bl p.bh p.ti p.ne p.fa p.l = true := hv
    cases hk : p.at k with
    | none =>
      have hk' := Pr.at_none hk
      exact calls_same (Distance_walk _ _ _ _ _ _ _ _ _ _ _ _ _ 2 w (fun W q hg hq hql => ans41_pan 86 #[.pointer (some ⟨q, 0, none⟩)] 2 p.fl p.fh p.bl p.bh p.ti p.ne p.fa (.slice vp p.l.length vc) p.l W (ThingsAt.lasts _ _ _ _ h hg) hv' (enters_of Tryz.func86 (by kernel_rfl) rfl) (fun sv W' hg' hs => dist1_range p.fl p.fh p.bl p.bh p.ti p.ne p.fa (.slice vp p.l.length vc) sv p.pw.1 p.pw.2 p.seen k q W' hs hk' (((bcell hg').1 _ _ hql).trans hq) (Nat.lt_of_lt_of_le hql hg'.size)))) (by unfold Pr.distance; simp [hv, hk])
    | some s =>
      obtain ⟨n, rfl, hn⟩ := Pr.at_some hk
      have hok := hse s (List.mem_of_getElem? hn)
      by_cases hp : p.pw.1 ≤ p.pw.2
      · by_cases hw : s.why p.pw.1 p.pw.2 = 0
        · have hwz := Sg.why_zero hw
          obtain ⟨wit, lo, hi, sl⟩ := s
          cases wit with
          | mark m => exact calls_same (Distance_walk _ _ _ _ _ _ _ _ _ _ _ _ _ 0 w (fun W q hg hq hql => ans41_ret 86 #[.pointer (some ⟨q, 0, none⟩)] m m p.fl p.fh p.bl p.bh p.ti p.ne p.fa (.slice vp p.l.length vc) p.l W (ThingsAt.lasts _ _ _ _ h hg) hv' (enters_of Tryz.func86 (by kernel_rfl) rfl) (fun sv W' hg' hs => dist1_mark p.fl p.fh p.bl p.bh p.ti p.ne p.fa (.slice vp p.l.length vc) sv p.pw.1 p.pw.2 p.seen n m lo hi sl q W' hs hn hok hp hw (((bcell hg').1 _ _ hql).trans hq) (Nat.lt_of_lt_of_le hql hg'.size)))) (by unfold Pr.distance; simp [hv, hk, hp, hw, Sg.dists])
          | far nn ff => exact calls_same (Distance_walk _ _ _ _ _ _ _ _ _ _ _ _ _ 0 w (fun W q hg hq hql => ans41_ret 86 #[.pointer (some ⟨q, 0, none⟩)] _ _ p.fl p.fh p.bl p.bh p.ti p.ne p.fa (.slice vp p.l.length vc) p.l W (ThingsAt.lasts _ _ _ _ h hg) hv' (enters_of Tryz.func86 (by kernel_rfl) rfl) (fun sv W' hg' hs => dist1_far p.fl p.fh p.bl p.bh p.ti p.ne p.fa (.slice vp p.l.length vc) sv p.pw.1 p.pw.2 p.seen n nn ff lo hi sl q W' hs hn hok hp hw (by omega) (by omega) hwz.2.1 (((bcell hg').1 _ _ hql).trans hq) (Nat.lt_of_lt_of_le hql hg'.size)))) (by unfold Pr.distance; simp [hv, hk, hp, hw, Sg.dists, Sg.st])
        · exact calls_same (Distance_walk _ _ _ _ _ _ _ _ _ _ _ _ _ 11 w (fun W q hg hq hql => ans41_pan 86 #[.pointer (some ⟨q, 0, none⟩)] 11 p.fl p.fh p.bl p.bh p.ti p.ne p.fa (.slice vp p.l.length vc) p.l W (ThingsAt.lasts _ _ _ _ h hg) hv' (enters_of Tryz.func86 (by kernel_rfl) rfl) (fun sv W' hg' hs => dist1_refuse p.fl p.fh p.bl p.bh p.ti p.ne p.fa (.slice vp p.l.length vc) sv p.pw.1 p.pw.2 p.seen n s q W' hs hn hok hp hw (((bcell hg').1 _ _ hql).trans hq) (Nat.lt_of_lt_of_le hql hg'.size)))) (by unfold Pr.distance; simp [hv, hk, hp, hw])
      · exact calls_same (Distance_walk _ _ _ _ _ _ _ _ _ _ _ _ _ 4 w (fun W q hg hq hql => ans41_pan 86 #[.pointer (some ⟨q, 0, none⟩)] 4 p.fl p.fh p.bl p.bh p.ti p.ne p.fa (.slice vp p.l.length vc) p.l W (ThingsAt.lasts _ _ _ _ h hg) hv' (enters_of Tryz.func86 (by kernel_rfl) rfl) (fun sv W' hg' hs => dist1_none p.fl p.fh p.bl p.bh p.ti p.ne p.fa (.slice vp p.l.length vc) sv p.pw.1 p.pw.2 p.seen n s q W' hs hn (by omega) (((bcell hg').1 _ _ hql).trans hq) (Nat.lt_of_lt_of_le hql hg'.size)))) (by unfold Pr.distance; simp [hv, hk, hp])
  · have hv' : valid p.fl p.fh p.bl p.bh p.ti p.ne p.fa p.l = false := by simpa [Pr.ok] using hv
    exact calls_same (Distance_walk _ _ _ _ _ _ _ _ _ _ _ _ _ 1 w (fun W q hg hq hql => ans41_arg 86 #[.pointer (some ⟨q, 0, none⟩)] p.fl p.fh p.bl p.bh p.ti p.ne p.fa (.slice vp p.l.length vc) p.l W (ThingsAt.lasts _ _ _ _ h hg) hv')) (by unfold Pr.distance; simp [hv])
theorem Sg.why_mark {s : Sg} {m plo phi : Int} (hw : s.wit = .mark m) (h1 : s.sl = false) (h2 : 0 ≤ s.hi) (h3 : s.lo ≤ 2000) (h4 : s.st.1 * m ≤ phi) (h5 : plo ≤ (s.st.2 + 1) * m - 1) : s.why plo phi = 0 := by
  have e : s.pw = (s.st.1 * m, (s.st.2 + 1) * m - 1) := by unfold Sg.pw; rw [hw]; rfl
  refine why_none fun j hj => ?_
  match j, hj with
  | 0, _ => exact h1
  | 1, _ => exact decide_eq_false (by omega)
  | 2, _ => exact Bool.or_eq_false_iff.2 ⟨decide_eq_false (by omega), decide_eq_false (by rw [e]; simp only; omega)⟩
  | 3, _ => exact decide_eq_false (by rw [e]; simp only; omega)
theorem Pr.mark_why {p : Pr} (h : p.ok = true) (hp : p.pw.1 ≤ p.pw.2) {t : Th} (ht : t ∈ p.l) (hz : t.z ≠ 0) : (t.see p.ti p.ne p.fa).why p.pw.1 p.pw.2 = 0 := by
  obtain ⟨hw, h1, h2, h3, h4, h5, -⟩ := Pr.mark h hp ht hz
  exact Sg.why_mark hw h1 h2 h3 (by omega) (by omega)
theorem Sg.dists_far {s : Sg} {n f plo phi : Int} (hw : s.wit = .far n f) : s.dists plo phi = dist n f plo phi s.st.1 s.st.2 := by
  unfold Sg.dists; rw [hw]
theorem dist_fst (n f plo phi slo shi : Int) : (dist n f plo phi slo shi).1 = if n < plo / (shi + 1) + 1 then plo / (shi + 1) + 1 else n := rfl
theorem dist_snd (n f plo phi slo shi : Int) : (dist n f plo phi slo shi).2 = if (if 0 < slo then phi / slo else f) < f then (if 0 < slo then phi / slo else f) else f := rfl
theorem Sg.why1 {s : Sg} {plo phi : Int} (h : s.sl = true) : s.why plo phi = 1 := why_at (k := 0) (by omega) (fun j hj => by omega) h
theorem Sg.why2 {s : Sg} {plo phi : Int} (h0 : ¬ s.sl = true) (h : s.hi < 0) : s.why plo phi = 2 := why_at (k := 1) (by omega) (fun j hj => by
  match j, hj with
  | 0, _ => exact Bool.eq_false_iff.2 h0) (decide_eq_true h)
theorem Sg.why3 {s : Sg} {plo phi : Int} (h0 : ¬ s.sl = true) (h1 : ¬ s.hi < 0) (h : s.tooNear phi = true) : s.why plo phi = 3 := why_at (k := 2) (by omega) (fun j hj => by
  match j, hj with
  | 0, _ => exact Bool.eq_false_iff.2 h0
  | 1, _ => exact decide_eq_false h1) h
theorem Sg.why4 {s : Sg} {plo phi : Int} (h0 : ¬ s.sl = true) (h1 : ¬ s.hi < 0) (h2 : ¬ s.tooNear phi = true) (h : s.pw.2 < plo) : s.why plo phi = 4 := why_at (k := 3) (by omega) (fun j hj => by
  match j, hj with
  | 0, _ => exact Bool.eq_false_iff.2 h0
  | 1, _ => exact decide_eq_false h1
  | 2, _ => exact Bool.eq_false_iff.2 h2) (decide_eq_true h)
theorem Sg.why5 {s : Sg} {plo phi : Int} (h0 : ¬ s.sl = true) (h1 : ¬ s.hi < 0) (h2 : ¬ s.tooNear phi = true) (h : ¬ s.pw.2 < plo) : s.why plo phi = 0 := why_none (fun j hj => by
  match j, hj with
  | 0, _ => exact Bool.eq_false_iff.2 h0
  | 1, _ => exact decide_eq_false h1
  | 2, _ => exact Bool.eq_false_iff.2 h2
  | 3, _ => exact decide_eq_false h)
def Th.at (t : Th) (z : Int) : Th := { t with z := z }
def Pr.marked (p : Pr) (n : Nat) (z : Int) : Pr := match p.l[n]? with
  | some t => { p with l := p.l.set n (t.at z) }
  | none => p
theorem valid_iff (fl fh bl bh ti ne fa : Int) (l : List Th) : valid fl fh bl bh ti ne fa l = true ↔ (1 ≤ fl ∧ fl ≤ fh ∧ fh ≤ 50000 ∧ 1 ≤ bl ∧ bl ≤ bh ∧ bh ≤ 10000 ∧ 0 ≤ ti ∧ ti ≤ 1000 ∧ 2000 ≤ ne ∧ ne ≤ fa ∧ fa ≤ 1073741824 ∧ l.length ≤ 12) ∧ ∀ t ∈ l, Th.valid ne fa t = true := by
  unfold valid
  rw [Bool.and_eq_true, List.all_eq_true, List.all_eq_true]
  constructor
  · rintro ⟨h1, h2⟩
    have h0 := fun k (hk : k < 6) => h1 k (List.mem_range.2 hk)
    have a0 := h0 0 (by omega)
    have a1 := h0 1 (by omega)
    have a2 := h0 2 (by omega)
    have a3 := h0 3 (by omega)
    have a4 := h0 4 (by omega)
    have a5 := h0 5 (by omega)
    simp [headValid, okSp] at a0 a1 a2 a3 a4 a5
    exact ⟨by omega, h2⟩
  · rintro ⟨h1, h2⟩
    refine ⟨fun k hk => ?_, h2⟩
    have hk := List.mem_range.1 hk
    match k, hk with
    | 0, _ => simp [headValid, okSp]; omega
    | 1, _ => simp [headValid, okSp]; omega
    | 2, _ => simp [headValid]; omega
    | 3, _ => simp [headValid]; omega
    | 4, _ => simp [headValid]; omega
    | 5, _ => simp [headValid]; omega
theorem Pr.marked_ok {p : Pr} (h : p.ok = true) {n : Nat} {t : Th} (ht : p.l[n]? = some t) {z : Int} (hz : p.ne ≤ z ∧ z ≤ p.fa) : (p.marked n z).ok = true := by
  have e : p.marked n z = { p with l := p.l.set n (t.at z) } := by unfold Pr.marked; rw [ht]
  rw [e]
  have hh := (valid_iff ..).1 h
  refine (valid_iff ..).2 ⟨by simpa using hh.1, ?_⟩
  intro u hu
  rcases List.mem_or_eq_of_mem_set hu with hu | rfl
  · exact hh.2 u hu
  · have := hh.2 t (List.mem_of_getElem? ht)
    show Th.valid p.ne p.fa (t.at z) = true
    unfold Th.valid at this ⊢
    rw [Bool.and_eq_true] at this ⊢
    refine ⟨this.1, ?_⟩
    simp only [Bool.or_eq_true, Bool.and_eq_true, decide_eq_true_eq]
    exact .inr hz
theorem Pr.marked_pw {p : Pr} {n : Nat} {t : Th} (ht : p.l[n]? = some t) (h0 : t.z = 0) {z : Int} (hz : z ≠ 0) :
    (p.marked n z).pw.1 ≤ (p.marked n z).pw.2 ↔ p.pw.1 ≤ p.pw.2 ∧ p.pw.1 ≤ ((t.at z).see p.ti p.ne p.fa).spw.2 ∧ ((t.at z).see p.ti p.ne p.fa).spw.1 ≤ p.pw.2 ∧ ((t.at z).see p.ti p.ne p.fa).spw.1 ≤ ((t.at z).see p.ti p.ne p.fa).spw.2 := by
  have hn := (List.getElem?_eq_some_iff.1 ht).1
  have e : p.marked n z = { p with l := p.l.set n (t.at z) } := by unfold Pr.marked; rw [ht]
  have hm : (t.at z).m = true := by simp [Th.m, Th.at, hz]
  have key : ∀ P : Th → Prop, (∀ u ∈ p.l.set n (t.at z), u.m = true → P u) ↔ (∀ u ∈ p.l, u.m = true → P u) ∧ P (t.at z) := by
    intro P
    constructor
    · intro H
      refine ⟨fun u hu hum => ?_, H _ (List.mem_set hn _) hm⟩
      obtain ⟨i, hi⟩ := List.mem_iff_getElem?.1 hu
      by_cases hin : i = n
      · subst hin; rw [ht] at hi; cases hi; simp [Th.m, h0] at hum
      · exact H u (List.mem_iff_getElem?.2 ⟨i, by rw [List.getElem?_set]; rw [if_neg (fun c => hin c.symm)]; exact hi⟩) hum
    · rintro ⟨H1, H2⟩ u hu hum
      rcases List.mem_or_eq_of_mem_set hu with hu | rfl
      · exact H1 u hu hum
      · exact H2
  have k1 : ∀ x, (p.marked n z).pw.1 ≤ x ↔ p.pw.1 ≤ x ∧ ((t.at z).see p.ti p.ne p.fa).spw.1 ≤ x := fun x => by
    rw [Pr.pw1, Pr.pw1, e]; simp only; rw [key]; rw [and_assoc]
  have k2 : ∀ x, x ≤ (p.marked n z).pw.2 ↔ x ≤ p.pw.2 ∧ x ≤ ((t.at z).see p.ti p.ne p.fa).spw.2 := fun x => by
    rw [Pr.pw2, Pr.pw2, e]; simp only; rw [key]; rw [and_assoc]
  rw [k1, k2, k2]
  constructor
  · rintro ⟨⟨a, b⟩, c, d⟩; exact ⟨a, b, c, d⟩
  · rintro ⟨a, b, c, d⟩; exact ⟨⟨a, b⟩, c, d⟩
theorem Pr.can_iff {p : Pr} (h : p.ok = true) (hp : p.pw.1 ≤ p.pw.2) {n : Nat} {t : Th} (ht : p.l[n]? = some t) (h0 : t.z = 0) {z : Int} (hz : p.ne ≤ z ∧ z ≤ p.fa) :
    (p.marked n z).pw.1 ≤ (p.marked n z).pw.2 ↔ (t.see p.ti p.ne p.fa).why p.pw.1 p.pw.2 = 0 ∧ ((t.see p.ti p.ne p.fa).dists p.pw.1 p.pw.2).1 ≤ z ∧ z ≤ ((t.see p.ti p.ne p.fa).dists p.pw.1 p.pw.2).2 := by
  have hb := p.bounds h
  have hin := p.pw_in h
  have hne := hb.ne0
  have hnf := hb.ne1
  have htm := List.mem_of_getElem? ht
  have hlh := Th.lohi h htm
  rw [Pr.marked_pw ht h0 (by omega)]
  have hw : (t.see p.ti p.ne p.fa).wit = .far p.ne p.fa := Th.far h0
  have hs : ((t.at z).see p.ti p.ne p.fa) = { t.see p.ti p.ne p.fa with wit := .mark z } := by
    have : z ≠ 0 := by omega
    unfold Th.see Th.wit Th.at
    simp only [this, if_false]
  rw [Sg.dists_far hw, dist_fst, dist_snd, hs]
  generalize t.see p.ti p.ne p.fa = s at *
  have hst : Sg.st { s with wit := .mark z } = s.st := rfl
  by_cases hsl : s.sl = true
  · have e1 : Sg.spw { s with wit := .mark z } = (1, 0) := by unfold Sg.spw; simp [hsl]
    have e2 : s.why p.pw.1 p.pw.2 = 1 := Sg.why1 hsl
    rw [e1, e2]; simp only; omega
  · have e1 : Sg.spw { s with wit := .mark z } = (s.st.1 * z, (s.st.2 + 1) * z - 1) := by
      show (if s.sl = true then (1, 0) else Sg.pw { s with wit := .mark z }) = _
      rw [if_neg hsl]; rfl
    rw [e1]
    simp only
    by_cases hhi : s.hi < 0
    · have e2 : s.why p.pw.1 p.pw.2 = 2 := Sg.why2 hsl hhi
      rw [e2]
      have : (s.st.2 + 1) * z ≤ 0 * z := Int.mul_le_mul_of_nonneg_right (by rw [s.st_eq]; simp only; split <;> omega) (by omega)
      simp at this
      omega
    · by_cases hlo : 2000 < s.lo
      · have e2 : s.why p.pw.1 p.pw.2 = 3 := Sg.why3 hsl hhi (by unfold Sg.tooNear; rw [decide_eq_true hlo]; rfl)
        rw [e2]
        have k1 : 2001 * z ≤ s.st.1 * z := Int.mul_le_mul_of_nonneg_right (by rw [s.st_eq]; simp only; split <;> omega) (by omega)
        have k2 : (s.st.2 + 1) * z ≤ 2001 * z := Int.mul_le_mul_of_nonneg_right (by rw [s.st_eq]; simp only; split <;> omega) (by omega)
        omega
      · have u0 : 0 ≤ s.st.1 := by rw [s.st_eq]; simp only; split <;> omega
        have u1 : s.st.1 ≤ s.st.2 := by rw [s.st_eq]; simp only; split <;> split <;> omega
        have hpw : s.pw = (s.st.1 * p.ne, (s.st.2 + 1) * p.fa - 1) := by unfold Sg.pw; rw [hw]; rfl
        have hwhy : s.why p.pw.1 p.pw.2 = 0 ↔ s.st.1 * p.ne ≤ p.pw.2 ∧ p.pw.1 ≤ (s.st.2 + 1) * p.fa - 1 := by
          have ht : s.tooNear p.pw.2 = true ↔ p.pw.2 < s.st.1 * p.ne := by unfold Sg.tooNear; rw [decide_eq_false hlo, Bool.false_or, hpw, decide_eq_true_eq]
          have hq : s.pw.2 < p.pw.1 ↔ (s.st.2 + 1) * p.fa - 1 < p.pw.1 := by rw [hpw]
          by_cases r2 : s.tooNear p.pw.2 = true
          · rw [Sg.why3 hsl hhi r2]; have := ht.1 r2; omega
          · have r2' : ¬ p.pw.2 < s.st.1 * p.ne := fun c => r2 (ht.2 c)
            by_cases r3 : s.pw.2 < p.pw.1
            · rw [Sg.why4 hsl hhi r2 r3]; have := hq.1 r3; omega
            · have r3' : ¬ (s.st.2 + 1) * p.fa - 1 < p.pw.1 := fun c => r3 (hq.2 c)
              rw [Sg.why5 hsl hhi r2 r3]; omega
        rw [hwhy]
        have d1 : p.pw.1 / (s.st.2 + 1) < z ↔ p.pw.1 < (s.st.2 + 1) * z := by rw [Int.ediv_lt_iff_lt_mul (by omega), Int.mul_comm]
        have d2 : 0 < s.st.1 → (z ≤ p.pw.2 / s.st.1 ↔ s.st.1 * z ≤ p.pw.2) := fun h => by rw [Int.le_ediv_iff_mul_le h, Int.mul_comm]
        have m1 : s.st.1 * p.ne ≤ s.st.1 * z := Int.mul_le_mul_of_nonneg_left (by omega) u0
        have m2 : (s.st.2 + 1) * z ≤ (s.st.2 + 1) * p.fa := Int.mul_le_mul_of_nonneg_left (by omega) (by omega)
        have m3 : s.st.1 * z + z ≤ (s.st.2 + 1) * z := by
          have : (s.st.1 + 1) * z ≤ (s.st.2 + 1) * z := Int.mul_le_mul_of_nonneg_right (by omega) (by omega)
          rw [Int.add_mul] at this; omega
        by_cases hu : 0 < s.st.1
        · have := d2 hu
          rw [if_pos hu]
          split <;> split <;> omega
        · have : s.st.1 = 0 := by omega
          have e0 : s.st.1 * z = 0 := by rw [this]; simp
          have e1 : s.st.1 * p.ne = 0 := by rw [this]; simp
          rw [if_neg hu]
          split <;> split <;> omega
theorem distance_is {p : Pr} {v : Value} {k x y e : Int} {w : World} (h : p.distance k = (x, y, e)) (hT : ThingsAt p.l v w) :
    Calls Tryz.prog 44 #[.agg #[.int .i64 p.fl, .int .i64 p.fh, .int .i64 p.bl, .int .i64 p.bh, .int .i64 p.ti, .int .i64 p.ne, .int .i64 p.fa, v], .int .i64 k] w fun e' w' => e' = .returned (.tuple #[.agg #[.int .i64 x, .int .i64 y], .int .i64 e]) ∧ Below w.heap.size w w' := by
  have := Distance_spec p v k w hT
  rw [h] at this
  exact this
theorem Sg.stands_iff (s : Sg) (x : Int) : s.why x x = 0 ↔ s.sl = false ∧ 0 ≤ s.hi ∧ s.lo ≤ 2000 ∧ s.pw.1 ≤ x ∧ x ≤ s.pw.2 := by
  constructor
  · exact Sg.why_zero
  · rintro ⟨h0, h1, h2, h3, h4⟩
    refine Sg.why5 (by simp [h0]) (by omega) ?_ (by omega)
    unfold Sg.tooNear
    simp only [Bool.or_eq_true, decide_eq_true_eq]
    omega
def Nle (a b : Nat) : Prop := cnt a < cnt b ∨ cnt a = cnt b ∧ a ≤ b
theorem Nle.refl (a : Nat) : Nle a a := .inr ⟨rfl, Nat.le_refl _⟩
theorem Nle.trans {a b c : Nat} (h : Nle a b) (k : Nle b c) : Nle a c := by unfold Nle at *; omega
theorem Th.m_iff (t : Th) : t.m = true ↔ t.z ≠ 0 := by unfold Th.m; simp
theorem Pr.mark_stands {p : Pr} (h : p.ok = true) (hp : p.pw.1 ≤ p.pw.2) {t : Th} (ht : t ∈ p.l) (hz : t.z ≠ 0) {x : Int} (h1 : p.pw.1 ≤ x) (h2 : x ≤ p.pw.2) : (t.see p.ti p.ne p.fa).why x x = 0 := by
  obtain ⟨a0, a1, a2, -, -⟩ := Sg.why_zero (p.mark_why h hp ht hz)
  have b1 := ((p.pw1 x).1 h1).2 t ht (t.m_iff.2 hz)
  have b2 := ((p.pw2 x).1 h2).2 t ht (t.m_iff.2 hz)
  unfold Sg.spw at b1 b2
  rw [if_neg (by simp [a0])] at b1 b2
  exact (Sg.stands_iff _ x).2 ⟨a0, a1, a2, b1, b2⟩
theorem Sg.why_wide {s : Sg} {x P Q : Int} (h : s.why x x = 0) (h1 : P ≤ x) (h2 : x ≤ Q) : s.why P Q = 0 := by
  obtain ⟨a0, a1, a2, a3, a4⟩ := (s.stands_iff x).1 h
  refine Sg.why5 (by simp [a0]) (by omega) ?_ (by omega)
  unfold Sg.tooNear
  simp only [Bool.or_eq_true, decide_eq_true_eq]
  omega
theorem Pr.dist_in {p : Pr} (h : p.ok = true) (hp : p.pw.1 ≤ p.pw.2) {t : Th} (ht : t ∈ p.l) (h0 : t.z = 0) (hw : (t.see p.ti p.ne p.fa).why p.pw.1 p.pw.2 = 0) :
    p.ne ≤ ((t.see p.ti p.ne p.fa).dists p.pw.1 p.pw.2).1 ∧ ((t.see p.ti p.ne p.fa).dists p.pw.1 p.pw.2).1 ≤ ((t.see p.ti p.ne p.fa).dists p.pw.1 p.pw.2).2 ∧ ((t.see p.ti p.ne p.fa).dists p.pw.1 p.pw.2).2 ≤ p.fa := by
  have hb := p.bounds h
  have hin := p.pw_in h
  have hne := hb.ne0
  have hnf := hb.ne1
  have hlh := Th.lohi h ht
  obtain ⟨-, z1, z2, z3, z4⟩ := Sg.why_zero hw
  have hwit : (t.see p.ti p.ne p.fa).wit = .far p.ne p.fa := Th.far h0
  rw [Sg.dists_far hwit, dist_fst, dist_snd]
  have hpw : (t.see p.ti p.ne p.fa).pw = ((t.see p.ti p.ne p.fa).st.1 * p.ne, ((t.see p.ti p.ne p.fa).st.2 + 1) * p.fa - 1) := by unfold Sg.pw; rw [hwit]; rfl
  rw [hpw] at z3 z4
  have et := (t.see p.ti p.ne p.fa).st_eq
  have u0 : 0 ≤ (t.see p.ti p.ne p.fa).st.1 := by rw [et]; simp only; split <;> omega
  have u1 : (t.see p.ti p.ne p.fa).st.1 ≤ (t.see p.ti p.ne p.fa).st.2 := by rw [et]; simp only; split <;> split <;> omega
  have u2 : (t.see p.ti p.ne p.fa).st.1 ≤ 2000 := by rw [et]; simp only; split <;> omega
  generalize (t.see p.ti p.ne p.fa).st = S at *
  simp only at z3 z4
  have d1 : p.pw.1 / (S.2 + 1) < p.fa := by rw [Int.ediv_lt_iff_lt_mul (by omega), Int.mul_comm]; omega
  by_cases hu : 0 < S.1
  · rw [if_pos hu]
    have d2 : p.ne ≤ p.pw.2 / S.1 := by rw [Int.le_ediv_iff_mul_le hu, Int.mul_comm]; omega
    have d3 : p.ne ≤ p.pw.1 / (S.2 + 1) → p.pw.1 / (S.2 + 1) + 1 ≤ p.pw.2 / S.1 := fun hq => by
      rw [Int.le_ediv_iff_mul_le hu]
      have h1 : p.pw.1 / (S.2 + 1) * (S.2 + 1) ≤ p.pw.1 := Int.ediv_mul_le _ (by omega)
      have h2 : p.pw.1 / (S.2 + 1) * (S.1 + 1) ≤ p.pw.1 / (S.2 + 1) * (S.2 + 1) := Int.mul_le_mul_of_nonneg_left (by omega) (by omega)
      rw [Int.mul_add] at h2
      rw [Int.add_mul]
      omega
    split <;> split <;> omega
  · rw [if_neg hu]
    split <;> split <;> omega
end Go.Proofs.YtcngaohfemdfjaaGreat
namespace Go.Proofs.YtcngaohfemdfjaaGreat
open Go.RowKit

/-! What TopKnown asks of the numbers: a pair in which of one thing more it is known how far away it is. -/
structure Pr.Kn (p q : Pr) (n : Nat) : Prop where
  ok : q.ok = true
  len : q.l.length = p.l.length
  ne : q.ne = p.ne
  fa : q.fa = p.fa
  lo : p.pw.1 ≤ q.pw.1
  mid : q.pw.1 ≤ q.pw.2
  hi : q.pw.2 ≤ p.pw.2
  view : ∀ i x, q.view i = some x → p.view i = some x
  at_p : ∃ x, p.view n = some x
  at_q : ∃ x, q.view n = some x
theorem Sg.why_mono {s : Sg} {P Q P' Q' : Int} (h : s.why P' Q' = 0) (h1 : P ≤ P') (h2 : Q' ≤ Q) : s.why P Q = 0 := by
  obtain ⟨a0, a1, a2, a3, a4⟩ := Sg.why_zero h
  refine Sg.why5 (by simp [a0]) (by omega) ?_ (by omega)
  unfold Sg.tooNear
  simp only [Bool.or_eq_true, decide_eq_true_eq]
  omega
theorem Pr.view_of {p : Pr} {n : Nat} {t : Th} (ht : p.l[n]? = some t) : p.view n = if (t.see p.ti p.ne p.fa).why p.pw.1 p.pw.2 = 0 then some ⟨t.a, t.b, t.e, t.f, (t.see p.ti p.ne p.fa).lo, (t.see p.ti p.ne p.fa).hi⟩ else none := by
  have hs : p.seen[n]? = some (t.see p.ti p.ne p.fa) := by
    unfold Pr.seen seenOf
    rw [List.getElem?_map, ht]
    rfl
  unfold Pr.view
  rw [ht, hs]
theorem Pr.view_none {p : Pr} {n : Nat} (ht : p.l[n]? = none) : p.view n = none := by
  unfold Pr.view
  rw [ht]
/-- The pair in which the thing n is told to be so far away. -/
theorem known_of {p : Pr} (h : p.ok = true) {n : Nat} {t : Th} (ht : p.l[n]? = some t) {a b : Int} (hd : p.distance n = (a, b, 0)) {d : Int} (h1 : a ≤ d) (h2 : d ≤ b) :
    p.Kn (p.marked n d) n ∧ p.ne ≤ a ∧ a ≤ b ∧ b ≤ p.fa := by
  have hb := p.bounds h
  have hne := hb.ne0
  have hat : p.at n = some (t.see p.ti p.ne p.fa) := by
    unfold Pr.at
    rw [if_pos (by omega)]
    unfold Pr.seen seenOf
    rw [List.getElem?_map, Int.toNat_natCast, ht]
    rfl
  have hmem : t ∈ p.l := List.mem_of_getElem? ht
  have hn := (List.getElem?_eq_some_iff.1 ht).1
  unfold Pr.distance at hd
  rw [if_pos h, hat] at hd
  dsimp only at hd
  by_cases hp : p.pw.1 ≤ p.pw.2
  · rw [if_pos hp] at hd
    by_cases hw : (t.see p.ti p.ne p.fa).why p.pw.1 p.pw.2 = 0
    · rw [if_pos hw] at hd
      have e1 : ((t.see p.ti p.ne p.fa).dists p.pw.1 p.pw.2).1 = a := (Prod.mk.inj hd).1
      have e2 : ((t.see p.ti p.ne p.fa).dists p.pw.1 p.pw.2).2 = b := (Prod.mk.inj (Prod.mk.inj hd).2).1
      have hvp : ∃ x, p.view n = some x := ⟨_, by rw [Pr.view_of ht, if_pos hw]⟩
      by_cases h0 : t.z = 0
      · have hdi := Pr.dist_in h hp hmem h0 hw
        rw [e1, e2] at hdi
        have hz : p.ne ≤ d ∧ d ≤ p.fa := by omega
        have hmk := (Pr.can_iff h hp ht h0 hz).2 ⟨hw, by omega, by omega⟩
        have hok := Pr.marked_ok h ht hz
        have e : p.marked n d = { p with l := p.l.set n (t.at d) } := by unfold Pr.marked; rw [ht]
        have hl : (p.marked n d).l = p.l.set n (t.at d) := by rw [e]
        have hti : (p.marked n d).ti = p.ti := by rw [e]
        have hnn : (p.marked n d).ne = p.ne := by rw [e]
        have hff : (p.marked n d).fa = p.fa := by rw [e]
        have hfl : (p.marked n d).fl = p.fl := by rw [e]
        have hfh : (p.marked n d).fh = p.fh := by rw [e]
        have hbl : (p.marked n d).bl = p.bl := by rw [e]
        have hbh : (p.marked n d).bh = p.bh := by rw [e]
        generalize p.marked n d = q at *
        have hin : ∀ u ∈ p.l, u.m = true → u ∈ q.l := fun u hu hum => by
          rw [hl]
          obtain ⟨i, hi⟩ := List.mem_iff_getElem?.1 hu
          by_cases hin : i = n
          · subst hin; rw [ht] at hi; cases hi; simp [Th.m, h0] at hum
          · exact List.mem_iff_getElem?.2 ⟨i, by rw [List.getElem?_set]; rw [if_neg (fun c => hin c.symm)]; exact hi⟩
        have hlo : p.pw.1 ≤ q.pw.1 := by
          have g := (q.pw1 q.pw.1).1 (Int.le_refl _)
          rw [hfl, hbl] at g
          refine (p.pw1 _).2 ⟨g.1, fun u hu hum => ?_⟩
          have := g.2 u (hin u hu hum) hum
          rwa [hti, hnn, hff] at this
        have hhi : q.pw.2 ≤ p.pw.2 := by
          have g := (q.pw2 q.pw.2).1 (Int.le_refl _)
          rw [hfh, hbh] at g
          refine (p.pw2 _).2 ⟨g.1, fun u hu hum => ?_⟩
          have := g.2 u (hin u hu hum) hum
          rwa [hti, hnn, hff] at this
        have hqn : q.l[n]? = some (t.at d) := by rw [hl]; exact List.getElem?_set_self hn
        have hqw : ((t.at d).see q.ti q.ne q.fa).why q.pw.1 q.pw.2 = 0 := Sg.why_wide (Pr.mark_stands hok hmk (List.mem_of_getElem? hqn) (show d ≠ 0 by omega) (Int.le_refl _) hmk) (Int.le_refl _) hmk
        refine ⟨⟨hok, by rw [hl]; simp, hnn, hff, hlo, hmk, hhi, fun i x hx => ?_, hvp, ⟨_, by rw [Pr.view_of hqn, if_pos hqw]⟩⟩, by omega, by omega, by omega⟩
        by_cases hi : i = n
        · subst hi
          rw [Pr.view_of hqn, if_pos hqw] at hx
          rw [Pr.view_of ht, if_pos hw]
          rw [← hx]
          rfl
        · cases hu : p.l[i]? with
          | none =>
            have : q.l[i]? = none := by rw [hl, List.getElem?_set, if_neg (fun c => hi c.symm)]; exact hu
            rw [Pr.view_none this] at hx
            cases hx
          | some u =>
            have hqu : q.l[i]? = some u := by rw [hl, List.getElem?_set, if_neg (fun c => hi c.symm)]; exact hu
            rw [Pr.view_of hqu, hti, hnn, hff] at hx
            rw [Pr.view_of hu]
            by_cases hwu : (u.see p.ti p.ne p.fa).why q.pw.1 q.pw.2 = 0
            · rw [if_pos hwu] at hx
              rw [if_pos (Sg.why_mono hwu hlo hhi)]
              exact hx
            · rw [if_neg hwu] at hx; cases hx
      · have hwit : (t.see p.ti p.ne p.fa).wit = .mark t.z := by show t.wit p.ne p.fa = _; unfold Th.wit; rw [if_neg h0]
        have e3 : (t.see p.ti p.ne p.fa).dists p.pw.1 p.pw.2 = (t.z, t.z) := by unfold Sg.dists; rw [hwit]
        rw [e3] at e1 e2
        have hzb : t.z = 0 ∨ p.ne ≤ t.z ∧ t.z ≤ p.fa := (hb.things t hmem).2
        dsimp only at e1 e2
        have hdz : d = t.z := by omega
        have e : p.marked n d = p := by
          unfold Pr.marked
          rw [ht]
          dsimp only
          have : t.at d = t := by rw [hdz]; rfl
          rw [this]
          have hs : p.l.set n t = p.l := by
            apply List.ext_getElem?
            intro i
            rw [List.getElem?_set]
            split
            · next c => subst c; first | exact ht.symm | (rw [if_pos hn]; exact ht.symm)
            · rfl
          rw [hs]
        rw [e]
        exact ⟨⟨h, rfl, rfl, rfl, Int.le_refl _, hp, Int.le_refl _, fun _ _ hx => hx, hvp, hvp⟩, by omega, by omega, by omega⟩
    · rw [if_neg hw] at hd
      simp at hd
  · rw [if_neg hp] at hd
    simp at hd
/-! The card whose pair is told more. -/
theorem Pr.Kn.sees {p q : Pr} {n : Nat} (h : p.Kn q n) {r : Int × Vw} (hr : r ∈ q.sees) : r ∈ p.sees := by
  obtain ⟨i, h1, h2, h3⟩ := mem_seesTo hr
  have h4 := h.view _ _ h3
  rw [h.len] at h1
  unfold Pr.sees Pr.seesTo
  refine List.mem_filterMap.2 ⟨i, List.mem_range.2 h1, ?_⟩
  rw [h4]
  obtain ⟨a, b⟩ := r
  dsimp only at h2
  rw [h2]
  rfl
theorem Pr.sees_at {p : Pr} {n : Nat} (hn : n < p.l.length) {x : Vw} (hx : p.view n = some x) : ((n : Int), x) ∈ p.sees := by
  unfold Pr.sees Pr.seesTo
  exact List.mem_filterMap.2 ⟨n, List.mem_range.2 hn, by rw [hx]; rfl⟩
theorem sees_small2 {p : Pr} (h : p.ok = true) : setTo p.sees < 4096 := setTo_lt fun q hq => by
  obtain ⟨i, h1, h2, -⟩ := mem_seesTo hq
  have := (p.bounds h).len
  omega
theorem setTo_sub {l r : List (Int × Vw)} (h : ∀ q ∈ l, q ∈ r) (j : Nat) (hj : (setTo l).testBit j = true) : (setTo r).testBit j = true := by
  obtain ⟨q, h1, h2⟩ := (setTo_bit l j).1 hj
  exact (setTo_bit r j).2 ⟨q, h q h1, h2⟩
theorem andNot_zero (b a : Nat) (hb : b < 4096) (ha : a < 4096) (h : ∀ j, b.testBit j = true → a.testBit j = true) : bits .andNot .i64 (b : Int) (a : Int) = 0 := by
  unfold bits
  have e : (BitVec.ofInt IntKind.i64.bits (b : Int) &&& ~~~(BitVec.ofInt IntKind.i64.bits (a : Int))) = 0#_ := by
    apply BitVec.eq_of_getLsbD_eq
    intro i hi
    rw [BitVec.getLsbD_and, BitVec.getLsbD_not]
    have e1 : (BitVec.ofInt IntKind.i64.bits (b : Int)).getLsbD i = (decide (i < IntKind.i64.bits) && b.testBit i) := by
      rw [BitVec.ofInt_natCast, BitVec.getLsbD_ofNat]
    have e2 : (BitVec.ofInt IntKind.i64.bits (a : Int)).getLsbD i = (decide (i < IntKind.i64.bits) && a.testBit i) := by
      rw [BitVec.ofInt_natCast, BitVec.getLsbD_ofNat]
    rw [e1, e2]
    have hh := h i
    cases hbi : b.testBit i
    · simp
    · simp [hh hbi, hi]
  dsimp only
  rw [e]
  rfl
section
variable {k : Cd} {q : Pr} {n : Nat}
theorem Pr.Kn.why (sp : Option Addr) (cap : Nat) (u : Cu) (v : Vw) : (⟨{ k with p := q, sp := sp, cap := cap }, 0, u⟩ : Tm).why v = (⟨k, 0, u⟩ : Tm).why v := rfl
theorem Pr.Kn.okT (h : k.p.Kn q n) (sp : Option Addr) (cap : Nat) {u : Cu} (hk : k.okT u = true) : ({ k with p := q, sp := sp, cap := cap } : Cd).okT u = true := by
  unfold Cd.okT at *
  rw [decide_eq_true_eq, first_zero_iff] at *
  intro r hr
  exact hk r (h.sees hr)
theorem Pr.Kn.err0 (h : k.p.Kn q n) (sp : Option Addr) (cap : Nat) (hk : k.okc = true) : ({ k with p := q, sp := sp, cap := cap } : Cd).err [] = 0 := by
  have e : ({ k with p := q, sp := sp, cap := cap } : Cd).okc = true := hk
  unfold Cd.err
  rw [e]
  dsimp only
  rw [h.ok]
  simp [h.mid]
theorem Pr.Kn.trim (h : k.p.Kn q n) (sp : Option Addr) (cap : Nat) {t : Cu} (ht : k.trim = some t) : ∃ u, ({ k with p := q, sp := sp, cap := cap } : Cd).trim = some u ∧ u.isT k.cuts = true ∧ u.a + u.b + u.c + u.d ≤ t.a + t.b + t.c + t.d := by
  obtain ⟨h1, h2⟩ := trim_is ht
  have h4 := h.okT sp cap h2
  obtain ⟨u, hu⟩ := trim_some (k := { k with p := q, sp := sp, cap := cap }) h1 h4
  refine ⟨u, hu, (trim_is hu).1, ?_⟩
  have := trim_least hu h1 h4
  unfold Cu.bef Cu.sum at this
  omega
theorem Pr.Kn.eyes (h : k.p.Kn q n) (sp : Option Addr) (cap : Nat) (u : Cu) (a : Int × Int) : ((⟨{ k with p := q, sp := sp, cap := cap }, 0, u⟩ : Tm).eyesTo a q.sees).1 ≤ ((⟨k, 0, u⟩ : Tm).eyesTo a k.p.sees).1 ∧ ((⟨k, 0, u⟩ : Tm).eyesTo a k.p.sees).2 ≤ ((⟨{ k with p := q, sp := sp, cap := cap }, 0, u⟩ : Tm).eyesTo a q.sees).2 := by
  constructor
  · rw [Tm.eyes_lo]
    have h1 := (Tm.eyes_lo ⟨k, 0, u⟩ _ k.p.sees a).1 (Int.le_refl _)
    exact ⟨h1.1, fun r hr => h1.2 r (h.sees hr)⟩
  · rw [Tm.eyes_hi]
    have h1 := (Tm.eyes_hi ⟨k, 0, u⟩ _ k.p.sees a).1 (Int.le_refl _)
    exact ⟨h1.1, fun r hr => h1.2 r (h.sees hr)⟩
theorem ediv_mono {a b c : Int} (h : a ≤ b) (hc : 0 < c) : a / c ≤ b / c := Int.ediv_le_ediv hc h
theorem Pr.Kn.deep (h : k.p.Kn q n) (sp : Option Addr) (cap : Nat) {lo hi : Int} (h0 : 0 ≤ lo) (h1 : lo ≤ hi) (hd : (k.deepS lo hi).2.2 = 0) :
    (({ k with p := q, sp := sp, cap := cap } : Cd).deepS lo hi).2.2 = 0 ∧ (({ k with p := q, sp := sp, cap := cap } : Cd).deepS lo hi).1 ≤ (k.deepS lo hi).1 ∧ (k.deepS lo hi).2.1 ≤ (({ k with p := q, sp := sp, cap := cap } : Cd).deepS lo hi).2.1 := by
  have e1 : q.pw.2 / (hi + 1) ≤ k.p.pw.2 / (hi + 1) := ediv_mono h.hi (by omega)
  have e2 : 0 < lo → k.p.pw.1 / lo ≤ q.pw.1 / lo := fun hl => ediv_mono h.lo hl
  have hne := h.ne
  have hfa := h.fa
  unfold Cd.deepS at *
  dsimp only at *
  rw [hne, hfa]
  generalize q.pw.2 / (hi + 1) = A at *
  generalize k.p.pw.2 / (hi + 1) = B at *
  generalize q.pw.1 / lo = C at *
  generalize k.p.pw.1 / lo = D at *
  unfold imin imax at *
  by_cases hl : 0 < lo
  · have e3 := e2 hl
    simp only [if_pos hl] at *
    (repeat' split at hd) <;> (repeat' split) <;> simp at * <;> omega
  · simp only [if_neg hl] at *
    (repeat' split at hd) <;> (repeat' split) <;> simp at * <;> omega
end
theorem vd_ends2 {k : Cd} (hk : k.okc = true) : (1 ≤ k.half ∧ k.half ≤ 4000) ∧ (1 ≤ k.step ∧ k.step ≤ 100) ∧ (0 ≤ k.cuts ∧ k.cuts ≤ 40) ∧ 1 ≤ k.elo ∧ k.elo ≤ k.ehi ∧ k.ehi ≤ 10000 ∧ (0 ≤ k.prism ∧ k.prism ≤ 10000) ∧ (0 ≤ k.squeeze ∧ k.squeeze ≤ 10000) ∧ (0 ≤ k.front ∧ k.front ≤ 10000) ∧ (0 ≤ k.deep ∧ k.deep ≤ 10000) := by
  unfold Cd.okc at hk
  have h0 := List.all_eq_true.1 hk 0 (by simp)
  have h1 := List.all_eq_true.1 hk 1 (by simp)
  have h2 := List.all_eq_true.1 hk 2 (by simp)
  have h3 := List.all_eq_true.1 hk 3 (by simp)
  have h4 := List.all_eq_true.1 hk 4 (by simp)
  have h5 := List.all_eq_true.1 hk 5 (by simp)
  have h6 := List.all_eq_true.1 hk 6 (by simp)
  have h7 := List.all_eq_true.1 hk 7 (by simp)
  have h8 := List.all_eq_true.1 hk 8 (by simp)
  have h9 := List.all_eq_true.1 hk 9 (by simp)
  simp [Cd.vd] at h0 h1 h2 h3 h4 h5 h6 h7 h8 h9
  omega
/-- What both cards answer. -/
theorem known_ways {k : Cd} {q : Pr} {n : Nat} (h : k.p.Kn q n) (hk : k.okc = true) (hok : k.p.ok = true) (sp : Option Addr) (cap : Nat) :
    ∃ t v e f, k.trimA = (t, e) ∧ ({ k with p := q, sp := sp, cap := cap } : Cd).trimA = (v, f) ∧ ((e = 11 ∧ (f = 0 ∨ f = 11)) ∨ (e = 0 ∧ f = 0 ∧ t.isT k.cuts = true ∧ v.isT k.cuts = true ∧ v.a + v.b + v.c + v.d ≤ t.a + t.b + t.c + t.d ∧ ({ k with p := q, sp := sp, cap := cap } : Cd).hurtsA t = (0, 0, 0) ∧
      ∃ a1 a2 b1 b2, k.eyesA t = (a1, a2, 0) ∧ ({ k with p := q, sp := sp, cap := cap } : Cd).eyesA t = (b1, b2, 0) ∧ b1 ≤ a1 ∧ a2 ≤ b2 ∧
      ∃ d1 d2 de g1 g2 ge, k.deepA t = (d1, d2, de) ∧ ({ k with p := q, sp := sp, cap := cap } : Cd).deepA t = (g1, g2, ge) ∧ (de ≠ 0 ∨ de = 0 ∧ ge = 0 ∧ g1 ≤ d1 ∧ d2 ≤ g2))) := by
  have hp : k.p.pw.1 ≤ k.p.pw.2 := by have := h.lo; have := h.mid; have := h.hi; omega
  have e0 : k.err [] = 0 := by simp [Cd.err, hk, hok, hp]
  have e1 := h.err0 sp cap hk
  have hvd := vd_ends2 hk
  cases ht : k.trim with
  | none =>
    cases hv : ({ k with p := q, sp := sp, cap := cap } : Cd).trim with
    | none => exact ⟨_, _, 11, 11, by unfold Cd.trimA; rw [if_pos e0, ht], by unfold Cd.trimA; rw [if_pos e1, hv], .inl ⟨rfl, .inr rfl⟩⟩
    | some v => exact ⟨_, _, 11, 0, by unfold Cd.trimA; rw [if_pos e0, ht], by unfold Cd.trimA; rw [if_pos e1, hv], .inl ⟨rfl, .inl rfl⟩⟩
  | some t =>
    obtain ⟨v, hv, hvT, hsum⟩ := h.trim sp cap ht
    obtain ⟨htT, hokT⟩ := trim_is ht
    have f0 : k.err [t] = 0 := err_cons e0 htT
    have f1 : ({ k with p := q, sp := sp, cap := cap } : Cd).err [t] = 0 := err_cons e1 htT
    have hokX := h.okT sp cap hokT
    refine ⟨t, v, 0, 0, by unfold Cd.trimA; rw [if_pos e0, ht], by unfold Cd.trimA; rw [if_pos e1, hv], .inr ⟨rfl, rfl, htT, hvT, hsum, ?_, ?_⟩⟩
    · unfold Cd.okT at hokX
      rw [decide_eq_true_eq] at hokX
      unfold Cd.hurtsA
      rw [if_pos f1, if_pos hokX]
    · have hE := h.eyes sp cap t (1, 10000)
      have hw : ∀ r ∈ k.p.sees, (⟨k, 0, t⟩ : Tm).why r.2 = 0 := by
        unfold Cd.okT at hokT
        rw [decide_eq_true_eq, first_zero_iff] at hokT
        exact hokT
      have l1 : ((⟨k, 0, t⟩ : Tm).eyesTo (1, 10000) k.p.sees).1 ≤ k.elo := by
        rw [Tm.eyes_lo]
        refine ⟨by dsimp only; omega, fun r hr => ?_⟩
        have := why_zero_iff.1 (hw r hr)
        dsimp only at this ⊢
        omega
      have l2 : k.ehi ≤ ((⟨k, 0, t⟩ : Tm).eyesTo (1, 10000) k.p.sees).2 := by
        rw [Tm.eyes_hi]
        refine ⟨by dsimp only; omega, fun r hr => ?_⟩
        have := why_zero_iff.1 (hw r hr)
        dsimp only at this ⊢
        omega
      refine ⟨((⟨k, 0, t⟩ : Tm).eyesTo (1, 10000) k.p.sees).1, ((⟨k, 0, t⟩ : Tm).eyesTo (1, 10000) k.p.sees).2, ((⟨{ k with p := q, sp := sp, cap := cap }, 0, t⟩ : Tm).eyesTo (1, 10000) q.sees).1, ((⟨{ k with p := q, sp := sp, cap := cap }, 0, t⟩ : Tm).eyesTo (1, 10000) q.sees).2, ?_, ?_, hE.1, hE.2, ?_⟩
      · unfold Cd.eyesA Tm.eyes
        rw [if_pos f0]
        dsimp only
        rw [if_neg (by omega)]
      · unfold Cd.eyesA Tm.eyes
        rw [if_pos f1]
        dsimp only
        rw [if_neg (by omega)]
      · refine ⟨(k.deepA t).1, (k.deepA t).2.1, (k.deepA t).2.2, (({ k with p := q, sp := sp, cap := cap } : Cd).deepA t).1, (({ k with p := q, sp := sp, cap := cap } : Cd).deepA t).2.1, (({ k with p := q, sp := sp, cap := cap } : Cd).deepA t).2.2, rfl, rfl, ?_⟩
        have hroom : (⟨{ k with p := q, sp := sp, cap := cap }, 0, t⟩ : Tm).room = (⟨k, 0, t⟩ : Tm).room := rfl
        unfold Cd.deepA
        rw [if_pos f0, if_pos f1, hroom]
        by_cases c : (⟨k, 0, t⟩ : Tm).room.2.2 = 0
        · rw [if_pos c, if_pos c]
          by_cases c2 : (k.deepS (⟨k, 0, t⟩ : Tm).room.1 (⟨k, 0, t⟩ : Tm).room.2.1).2.2 = 0
          · right
            have hr : (⟨k, 0, t⟩ : Tm).room = ((⟨k, 0, t⟩ : Tm).rlo, (⟨k, 0, t⟩ : Tm).rhi, 0) ∧ (⟨k, 0, t⟩ : Tm).rlo ≤ (⟨k, 0, t⟩ : Tm).rhi := by
              unfold Tm.room at c ⊢
              by_cases g : (⟨k, 0, t⟩ : Tm).rhi < (⟨k, 0, t⟩ : Tm).rlo
              · rw [if_pos g] at c; simp at c
              · rw [if_neg g]; exact ⟨rfl, by omega⟩
            have h0 : 0 ≤ (⟨k, 0, t⟩ : Tm).rlo := by unfold Tm.rlo imax; (repeat' split) <;> omega
            rw [hr.1] at c2 ⊢
            dsimp only at c2 ⊢
            obtain ⟨g1, g2, g3⟩ := h.deep sp cap h0 hr.2 c2
            exact ⟨c2, g1, g2, g3⟩
          · left; exact c2
        · left
          rw [if_neg c]
          exact c
end Go.Proofs.YtcngaohfemdfjaaGreat
