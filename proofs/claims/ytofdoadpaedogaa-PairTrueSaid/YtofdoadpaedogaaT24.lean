import Derived.Test.YtofdoadpaedogaaT23
import Derived.Test.YtofdoadpaedogaaT22
import Derived.Test.YtofdoadpaedogaaT16
import Derived.Test.YtofdoadpaedogaaG2
import Derived.Test.YtofdoadpaedogaaT19
import Derived.Laws.StructEq
import Derived.RangeFuncFrom
import Derived.RangeFuncNested
import Derived.RangeFuncBound
import Derived.RangeFuncCalls
import Derived.RangeFuncLeaves
import Derived.Shelf.Abstract
import Derived.Shelf.RegionOpen
import Derived.OwnWalkIn
import Derived.TacticsInMore
import Derived.LoopNIn
import Derived.LoopIn
namespace Go.Proofs.Ytofdoadpaedogaa
open Go.RowKit Go.Shelf
attribute [local go_sem] Oper.semAt_some

set_option maxHeartbeats 1000000 in
theorem fewest_no (fl fh bl bh ti ne fa : Int) (v sv : Value) (plo phi : Int) (w : World) (hsv : ∃ p n c, sv = .slice p n c ∧ n ≤ 1000) (hpp : phi < plo) :
    Calls Try.prog 64 #[.agg #[.int .i64 fl, .int .i64 fh, .int .i64 bl, .int .i64 bh, .int .i64 ti, .int .i64 ne, .int .i64 fa, v, sv, .int .i64 plo, .int .i64 phi]] w fun e w' => e = .panicked [{ v := .iface 28 (.int .i64 4), recovered := false }] ∧ Below w.heap.size w w' := by
  refine (callsIn_wide (n := 9)).1 ?_
  refine callsIn_of_wp_marks Try.func64 rfl trivial ?_ rfl
  obtain ⟨sp, len, cap, rfl, hlen⟩ := hsv
  simp only [Try.ntmps64, List.size_toArray, List.length_cons, List.length_nil, Nat.reduceAdd, Nat.reduceSub, Array.replicate_succ, Array.replicate_zero, List.push_toArray, List.append_toArray, List.nil_append, List.cons_append]
  gi_wp2_with (refine ⟨trivial, ?_⟩; gi_at_call 81; refine (callsIn_wide.2 (tries_no _ _ _ _ _ _ _ _ _ _ _ _ hpp)).mono ?_; rintro e w1 ⟨rfl, hb1⟩)
  exact ⟨by first | rfl | simp, (bgr ((((Below.refl _ _).alloc (by first | (simp; done) | (simp; omega) | omega) _).alloc (by first | (simp; done) | (simp; omega) | omega) _).alloc (by first | (simp; done) | (simp; omega) | omega) _) (by first | (simp; done) | (simp; omega) | omega) hb1)⟩
/-- How far away the thing is. -/
def Sg.dists (s : Sg) (plo phi : Int) : Int × Int := match s.wit with
  | .mark m => (m, m)
  | .far n f => dist n f plo phi s.st.1 s.st.2
set_option maxHeartbeats 1600000 in
theorem dist1_range (fl fh bl bh ti ne fa : Int) (v sv : Value) (plo phi : Int) (l : List Sg) (k : Int) (p : Nat) (w : World) (h : SeenAt l sv w) (hk : k < 0 ∨ (l.length : Int) ≤ k) (hp : w.cell? ⟨p, 0, none⟩ = some (.int .i64 k)) (hpl : p < w.heap.size) :
    Calls Try.prog 61 #[.agg #[.int .i64 fl, .int .i64 fh, .int .i64 bl, .int .i64 bh, .int .i64 ti, .int .i64 ne, .int .i64 fa, v, sv, .int .i64 plo, .int .i64 phi], .pointer (some ⟨p, 0, none⟩)] w fun e w' => e = .panicked [{ v := .iface 28 (.int .i64 2), recovered := false }] ∧ Below w.heap.size w w' := by
  have HT := Lib.hid (fun (W : World) (hg : Gr w W) => thing_no fl fh bl bh ti ne fa v sv plo phi l k W (SeenAt.lasts _ _ _ _ h hg) hk)
  clear h hk
  have hal := @cal
  have hp1 : p < w.heap.size + 1 := by omega
  go_enter Try.func61, Try.ntmps61
  go_wp2_with (go_at_call 43; refine (HT.out _ ((Gr.alloc _ _).tr (Gr.alloc _ _))).mono ?_; rintro e w1 ⟨rfl, hb1⟩)
  exact ⟨rfl, rfl, (bgr (((Below.refl _ _).alloc (by first | (simp; done) | (simp; omega) | omega) _).alloc (by first | (simp; done) | (simp; omega) | omega) _) (by first | (simp; done) | (simp; omega) | omega) hb1)⟩
set_option maxHeartbeats 1600000 in
theorem dist1_none (fl fh bl bh ti ne fa : Int) (v sv : Value) (plo phi : Int) (l : List Sg) (k : Nat) (s : Sg) (p : Nat) (w : World) (h : SeenAt l sv w) (hk : l[k]? = some s) (hpp : phi < plo) (hp : w.cell? ⟨p, 0, none⟩ = some (.int .i64 k)) (hpl : p < w.heap.size) :
    Calls Try.prog 61 #[.agg #[.int .i64 fl, .int .i64 fh, .int .i64 bl, .int .i64 bh, .int .i64 ti, .int .i64 ne, .int .i64 fa, v, sv, .int .i64 plo, .int .i64 phi], .pointer (some ⟨p, 0, none⟩)] w fun e w' => e = .panicked [{ v := .iface 28 (.int .i64 4), recovered := false }] ∧ Below w.heap.size w w' := by
  obtain ⟨wt, wx, hwv⟩ := s.wit.iface
  have hsv : s.val = .agg #[.iface wt wx, .int .i64 s.lo, .int .i64 s.hi, .bool s.sl] := by unfold Sg.val; rw [hwv]
  have ht : ∀ W : World, Gr w W → Calls Try.prog 43 #[.agg #[.int .i64 fl, .int .i64 fh, .int .i64 bl, .int .i64 bh, .int .i64 ti, .int .i64 ne, .int .i64 fa, v, sv, .int .i64 plo, .int .i64 phi], .int .i64 k] W fun e w' => e = .returned (.agg #[.iface wt wx, .int .i64 s.lo, .int .i64 s.hi, .bool s.sl]) ∧ Below W.heap.size W w' := fun W hg => by
    have := thing_ok fl fh bl bh ti ne fa v sv plo phi l k s W (SeenAt.lasts _ _ _ _ h hg) hk
    rwa [hsv] at this
  clear hwv
  generalize s.lo = slo at *
  generalize s.hi = shi at *
  generalize s.sl = ssl at *
  have HT := Lib.hid ht
  clear h hk ht hsv
  have hal := @cal
  have hp1 : p < w.heap.size + 1 := by omega
  go_enter Try.func61, Try.ntmps61
  go_wp2_with (first | (go_at_call 43; refine (HT.out _ ((Gr.alloc _ _).tr (Gr.alloc _ _))).mono ?_; rintro e w1 ⟨rfl, hb1⟩; have HL1 := Lib.hid (((Box.fresh w [.int .i64 fl, .int .i64 fh, .int .i64 bl, .int .i64 bh, .int .i64 ti, .int .i64 ne, .int .i64 fa, v, sv, .int .i64 plo, .int .i64 phi] 70).grow (Gr.alloc _ _)).grow hb1); have HR1 := Lib.hid ((Box.fresh (w.alloc (.cells #[.int .i64 fl, .int .i64 fh, .int .i64 bl, .int .i64 bh, .int .i64 ti, .int .i64 ne, .int .i64 fa, v, sv, .int .i64 plo, .int .i64 phi] 70)) [.int .i64 0, .int .i64 0] 23).grow hb1); have HG1 := Lib.hid (((Gr.alloc w (.cells #[.int .i64 fl, .int .i64 fh, .int .i64 bl, .int .i64 bh, .int .i64 ti, .int .i64 ne, .int .i64 fa, v, sv, .int .i64 plo, .int .i64 phi] 70)).tr (Gr.alloc _ _)).tr hb1); clear hb1; obtain ⟨l0, l1, l2, l3, l4, l5, l6, l7, l8, l9, l10⟩ := HL1.out.eleven; have s1 := HL1.out.lt; have HR1 := Lib.hid (show Box w1 (w.heap.size + 1) [.int .i64 0, .int .i64 0] 23 from (by simpa using HR1.out)); have s2 := HR1.out.lt) | (go_at_call 48; refine (truths_no _ _ _ _ _ _ _ _ _ _ _ _ hpp).mono ?_; rintro e w2 ⟨rfl, hb2⟩))
  exact ⟨rfl, rfl, (HG1.out.tr (Gr.alloc _ _)).tr hb2⟩
set_option maxHeartbeats 1600000 in
theorem dist1_refuse (fl fh bl bh ti ne fa : Int) (v sv : Value) (plo phi : Int) (l : List Sg) (k : Nat) (s : Sg) (p : Nat) (w : World) (h : SeenAt l sv w) (hk : l[k]? = some s) (hok : Sg.ok s) (hpp : plo ≤ phi) (hw : s.why plo phi ≠ 0) (hp : w.cell? ⟨p, 0, none⟩ = some (.int .i64 k)) (hpl : p < w.heap.size) :
    Calls Try.prog 61 #[.agg #[.int .i64 fl, .int .i64 fh, .int .i64 bl, .int .i64 bh, .int .i64 ti, .int .i64 ne, .int .i64 fa, v, sv, .int .i64 plo, .int .i64 phi], .pointer (some ⟨p, 0, none⟩)] w fun e w' => e = .panicked [{ v := .iface 28 (.int .i64 11), recovered := false }] ∧ Below w.heap.size w w' := by
  obtain ⟨wt, wx, hwv⟩ := s.wit.iface
  have hsv : s.val = .agg #[.iface wt wx, .int .i64 s.lo, .int .i64 s.hi, .bool s.sl] := by unfold Sg.val; rw [hwv]
  have ht : ∀ W : World, Gr w W → Calls Try.prog 43 #[.agg #[.int .i64 fl, .int .i64 fh, .int .i64 bl, .int .i64 bh, .int .i64 ti, .int .i64 ne, .int .i64 fa, v, sv, .int .i64 plo, .int .i64 phi], .int .i64 k] W fun e w' => e = .returned (.agg #[.iface wt wx, .int .i64 s.lo, .int .i64 s.hi, .bool s.sl]) ∧ Below W.heap.size W w' := fun W hg => by
    have := thing_ok fl fh bl bh ti ne fa v sv plo phi l k s W (SeenAt.lasts _ _ _ _ h hg) hk
    rwa [hsv] at this
  have hwy : ∀ W : World, Calls Try.prog 56 #[.agg #[.iface wt wx, .int .i64 s.lo, .int .i64 s.hi, .bool s.sl], .agg #[.int .i64 plo, .int .i64 phi]] W fun e w' => e = .returned (.int .i64 (Sg.why s plo phi)) ∧ Below W.heap.size W w' := fun W => by
    have := why_any s plo phi W hok
    rwa [hsv] at this
  obtain ⟨wy, hwe⟩ : ∃ wy, s.why plo phi = wy := ⟨_, rfl⟩
  simp only [hwe] at hwy hw
  have hwd : (wy == 0) = false := by simpa using hw
  clear hw hwe
  have HWY := Lib.hid hwy
  clear hwy hok
  clear hwv
  generalize s.lo = slo at *
  generalize s.hi = shi at *
  generalize s.sl = ssl at *
  have HT := Lib.hid ht
  clear h hk ht hsv
  have hal := @cal
  have hp1 : p < w.heap.size + 1 := by omega
  go_enter Try.func61, Try.ntmps61
  go_wp2_with (first | (go_at_call 43; refine (HT.out _ ((Gr.alloc _ _).tr (Gr.alloc _ _))).mono ?_; rintro e w1 ⟨rfl, hb1⟩; have HL1 := Lib.hid (((Box.fresh w [.int .i64 fl, .int .i64 fh, .int .i64 bl, .int .i64 bh, .int .i64 ti, .int .i64 ne, .int .i64 fa, v, sv, .int .i64 plo, .int .i64 phi] 70).grow (Gr.alloc _ _)).grow hb1); have HR1 := Lib.hid ((Box.fresh (w.alloc (.cells #[.int .i64 fl, .int .i64 fh, .int .i64 bl, .int .i64 bh, .int .i64 ti, .int .i64 ne, .int .i64 fa, v, sv, .int .i64 plo, .int .i64 phi] 70)) [.int .i64 0, .int .i64 0] 23).grow hb1); have HG1 := Lib.hid (((Gr.alloc w (.cells #[.int .i64 fl, .int .i64 fh, .int .i64 bl, .int .i64 bh, .int .i64 ti, .int .i64 ne, .int .i64 fa, v, sv, .int .i64 plo, .int .i64 phi] 70)).tr (Gr.alloc _ _)).tr hb1); clear hb1; obtain ⟨l0, l1, l2, l3, l4, l5, l6, l7, l8, l9, l10⟩ := HL1.out.eleven; have s1 := HL1.out.lt; have HR1 := Lib.hid (show Box w1 (w.heap.size + 1) [.int .i64 0, .int .i64 0] 23 from (by simpa using HR1.out)); have s2 := HR1.out.lt) | (go_at_call 48; refine (truths_ok _ _ _ _ _ _ _ _ _ _ _ _ hpp).mono ?_; rintro e w2 ⟨rfl, hb2⟩; clear l0 l1 l2 l3 l4 l5 l6 l7 l8 l9 l10; have HR2 := Lib.hid ((HR1.out.grow (Gr.alloc _ (.cells #[.iface wt wx, .int .i64 slo, .int .i64 shi, .bool ssl] 74))).grow hb2); have HS2 := Lib.hid ((Box.fresh w1 [.iface wt wx, .int .i64 slo, .int .i64 shi, .bool ssl] 74).grow hb2); have HG2 := Lib.hid ((HG1.out.tr (Gr.alloc _ (.cells #[.iface wt wx, .int .i64 slo, .int .i64 shi, .bool ssl] 74))).tr hb2); clear hb2; obtain ⟨x0, x1, x2, x3, s3⟩ := HS2.out.four; have s4 := HR2.out.lt) | (go_at_call 56; refine (HWY.out _).mono ?_; rintro e w3 ⟨rfl, hb3⟩; clear x0 x1 x2 x3; have HR3 := Lib.hid ((HR2.out.grow (Gr.alloc _ (.cells #[.int .i64 plo, .int .i64 phi] 23))).grow hb3); have HS3 := Lib.hid ((HS2.out.grow (Gr.alloc _ (.cells #[.int .i64 plo, .int .i64 phi] 23))).grow hb3); have HP3 := Lib.hid ((Box.fresh w2 [.int .i64 plo, .int .i64 phi] 23).grow hb3); have HG3 := Lib.hid ((HG2.out.tr (Gr.alloc _ (.cells #[.int .i64 plo, .int .i64 phi] 23))).tr hb3); clear hb3) | (go_at_call 51; refine (require_no _ _).mono ?_; rintro e w4 ⟨rfl, hb4⟩))
  exact ⟨rfl, rfl, HG3.out.tr hb4⟩
set_option maxHeartbeats 1600000 in
theorem dist1_mark (fl fh bl bh ti ne fa : Int) (v sv : Value) (plo phi : Int) (l : List Sg) (k : Nat) (m lo hi : Int) (sl : Bool) (p : Nat) (w : World) (h : SeenAt l sv w) (hk : l[k]? = some ⟨.mark m, lo, hi, sl⟩) (hok : Sg.ok ⟨.mark m, lo, hi, sl⟩) (hpp : plo ≤ phi) (hw : Sg.why ⟨.mark m, lo, hi, sl⟩ plo phi = 0) (hp : w.cell? ⟨p, 0, none⟩ = some (.int .i64 k)) (hpl : p < w.heap.size) :
    Calls Try.prog 61 #[.agg #[.int .i64 fl, .int .i64 fh, .int .i64 bl, .int .i64 bh, .int .i64 ti, .int .i64 ne, .int .i64 fa, v, sv, .int .i64 plo, .int .i64 phi], .pointer (some ⟨p, 0, none⟩)] w fun e w' => e = .returned (.agg #[.int .i64 m, .int .i64 m]) ∧ Below w.heap.size w w' := by
  have hsv : Sg.val ⟨.mark m, lo, hi, sl⟩ = .agg #[.iface 130 (.int .i64 m), .int .i64 lo, .int .i64 hi, .bool sl] := rfl
  have ht : ∀ W : World, Gr w W → Calls Try.prog 43 #[.agg #[.int .i64 fl, .int .i64 fh, .int .i64 bl, .int .i64 bh, .int .i64 ti, .int .i64 ne, .int .i64 fa, v, sv, .int .i64 plo, .int .i64 phi], .int .i64 k] W fun e w' => e = .returned (.agg #[.iface 130 (.int .i64 m), .int .i64 lo, .int .i64 hi, .bool sl]) ∧ Below W.heap.size W w' := fun W hg => by
    have := thing_ok fl fh bl bh ti ne fa v sv plo phi l k ⟨.mark m, lo, hi, sl⟩ W (SeenAt.lasts _ _ _ _ h hg) hk
    rwa [hsv] at this
  have hwy : ∀ W : World, Calls Try.prog 56 #[.agg #[.iface 130 (.int .i64 m), .int .i64 lo, .int .i64 hi, .bool sl], .agg #[.int .i64 plo, .int .i64 phi]] W fun e w' => e = .returned (.int .i64 (Sg.why ⟨.mark m, lo, hi, sl⟩ plo phi)) ∧ Below W.heap.size W w' := fun W => by
    have := why_any ⟨.mark m, lo, hi, sl⟩ plo phi W hok
    rwa [hsv] at this
  simp only [hw] at hwy
  clear hw
  have hst := Sg.st_in hok
  have hwok := hok.1
  have HWY := Lib.hid hwy
  clear hwy hok
  have HT := Lib.hid ht
  clear h hk ht hsv
  have hal := @cal
  have hp1 : p < w.heap.size + 1 := by omega
  clear hst hwok
  have hme := fun w => me_mark_distances m w
  go_enter Try.func61, Try.ntmps61
  go_wp2_with (first | (go_at_call 43; refine (HT.out _ ((Gr.alloc _ _).tr (Gr.alloc _ _))).mono ?_; rintro e w1 ⟨rfl, hb1⟩; have HL1 := Lib.hid (((Box.fresh w [.int .i64 fl, .int .i64 fh, .int .i64 bl, .int .i64 bh, .int .i64 ti, .int .i64 ne, .int .i64 fa, v, sv, .int .i64 plo, .int .i64 phi] 70).grow (Gr.alloc _ _)).grow hb1); have HR1 := Lib.hid ((Box.fresh (w.alloc (.cells #[.int .i64 fl, .int .i64 fh, .int .i64 bl, .int .i64 bh, .int .i64 ti, .int .i64 ne, .int .i64 fa, v, sv, .int .i64 plo, .int .i64 phi] 70)) [.int .i64 0, .int .i64 0] 23).grow hb1); have HG1 := Lib.hid (((Gr.alloc w (.cells #[.int .i64 fl, .int .i64 fh, .int .i64 bl, .int .i64 bh, .int .i64 ti, .int .i64 ne, .int .i64 fa, v, sv, .int .i64 plo, .int .i64 phi] 70)).tr (Gr.alloc _ _)).tr hb1); clear hb1; obtain ⟨l0, l1, l2, l3, l4, l5, l6, l7, l8, l9, l10⟩ := HL1.out.eleven; have s1 := HL1.out.lt; have HR1 := Lib.hid (show Box w1 (w.heap.size + 1) [.int .i64 0, .int .i64 0] 23 from (by simpa using HR1.out)); have s2 := HR1.out.lt) | (go_at_call 48; refine (truths_ok _ _ _ _ _ _ _ _ _ _ _ _ hpp).mono ?_; rintro e w2 ⟨rfl, hb2⟩; clear l0 l1 l2 l3 l4 l5 l6 l7 l8 l9 l10; have HR2 := Lib.hid ((HR1.out.grow (Gr.alloc _ (.cells #[.iface 130 (.int .i64 m), .int .i64 lo, .int .i64 hi, .bool sl] 74))).grow hb2); have HS2 := Lib.hid ((Box.fresh w1 [.iface 130 (.int .i64 m), .int .i64 lo, .int .i64 hi, .bool sl] 74).grow hb2); have HG2 := Lib.hid ((HG1.out.tr (Gr.alloc _ (.cells #[.iface 130 (.int .i64 m), .int .i64 lo, .int .i64 hi, .bool sl] 74))).tr hb2); clear hb2; obtain ⟨x0, x1, x2, x3, s3⟩ := HS2.out.four; have s4 := HR2.out.lt) | (go_at_call 56; refine (HWY.out _).mono ?_; rintro e w3 ⟨rfl, hb3⟩; clear x0 x1 x2 x3; have HR3 := Lib.hid ((HR2.out.grow (Gr.alloc _ (.cells #[.int .i64 plo, .int .i64 phi] 23))).grow hb3); have HS3 := Lib.hid ((HS2.out.grow (Gr.alloc _ (.cells #[.int .i64 plo, .int .i64 phi] 23))).grow hb3); have HP3 := Lib.hid ((Box.fresh w2 [.int .i64 plo, .int .i64 phi] 23).grow hb3); have HG3 := Lib.hid ((HG2.out.tr (Gr.alloc _ (.cells #[.int .i64 plo, .int .i64 phi] 23))).tr hb3); clear hb3) | (go_at_call 51; refine (require_ok _ _).mono ?_; rintro e w4 ⟨rfl, hb4⟩; have HR4 := Lib.hid (HR3.out.grow hb4); have HS4 := Lib.hid (HS3.out.grow hb4); have HP4 := Lib.hid (HP3.out.grow hb4); have HG4 := Lib.hid (HG3.out.tr hb4); clear hb4; obtain ⟨x0, x1, x2, x3, s5⟩ := HS4.out.four; obtain ⟨y0, y1, yf0, yf1, s6⟩ := HP4.out.two))
  refine region2 8 ?_ ?_ ?_
  · kernel_rfl
  · kernel_rfl
  simp only [List.take_succ_cons, List.take_zero, List.drop_succ_cons, List.drop_zero]
  apply chain_eq (D := [(4, none)]) rfl (by kernel_rfl)
  · intro ρ W ⟨p1, p2, p3⟩ hG hF K hK; (try simp [FactsD] at hF); have ⟨hc, hf, hz⟩ := bcell (Gr.tr (Gr.drew _) hG); go_simp; exact hK _ (gives_val)
  apply chain_eq (D := [(16, some 0)]) rfl (by kernel_rfl)
  · intro ρ W ⟨p1, p2, p3⟩ hG hF K hK; (try simp [FactsD] at hF); have ⟨hc, hf, hz⟩ := bcell (Gr.tr (Gr.drew _) hG); go_simp; exact hK _ (gives_val)
  apply chain_eq (D := [(5, none)]) rfl (by kernel_rfl)
  · intro ρ W ⟨p1, p2, p3⟩ hG hF K hK; (try simp [FactsD] at hF); have ⟨hc, hf, hz⟩ := bcell (Gr.tr (Gr.drew _) hG); go_simp; exact hK _ (gives_val)
  apply chain_eq (D := [(4, none)]) rfl (by kernel_rfl)
  · intro ρ W ⟨p1, p2, p3⟩ hG hF K hK; (try simp [FactsD] at hF); have ⟨hc, hf, hz⟩ := bcell (Gr.tr (Gr.drew _) hG); go_simp; exact hK _ (gives_val)
  apply chain_eq (D := [(19, some 0)]) rfl (by kernel_rfl)
  · intro ρ W ⟨p1, p2, p3⟩ hG hF K hK; (try simp [FactsD] at hF); have ⟨hc, hf, hz⟩ := bcell (Gr.tr (Gr.drew _) hG); go_simp; exact hK _ (gives_call (steady_any _ _ _ _ _))
  apply chain_eq (D := [(17, some 3)]) rfl (by kernel_rfl)
  · intro ρ W ⟨p1, p2, p3⟩ hG hF K hK; (try simp [FactsD] at hF); have ⟨hc, hf, hz⟩ := bcell (Gr.tr (Gr.drew _) hG); go_simp; exact hK _ (gives_val)
  apply chain_eq (D := [(17, some 4)]) rfl (by kernel_rfl)
  · intro ρ W ⟨p1, p2, p3⟩ hG hF K hK; (try simp [FactsD] at hF); have ⟨hc, hf, hz⟩ := bcell (Gr.tr (Gr.drew _) hG); go_simp; exact hK _ (gives_val)
  apply chain_eq (D := [(22, some 0), (18, some 4), (20, some 2)]) rfl (by kernel_rfl)
  · intro ρ W ⟨p1, p2, p3⟩ hG hF K hK; (try simp [FactsD] at hF); have ⟨hc, hf, hz⟩ := bcell (Gr.tr (Gr.drew _) hG); go_simp; exact hK _ (gives_call (markDistances_any _ _ _ _ _ _))
  refine chain_done ?_
  intro vs W hG hV
  obtain ⟨e7, -⟩ := hV
  simp only [Nat.reduceSub] at e7
  simp only [lay, Act.put, List.getElem?_toArray, List.getElem?_cons_succ, List.getElem?_cons_zero, Option.bind_some, List.setIfInBounds_toArray, List.set_cons_succ, List.set_cons_zero]
  generalize vs 0 = v0
  generalize vs 1 = v1
  generalize vs 2 = v2
  generalize vs 3 = v3
  generalize vs 4 = v4
  generalize vs 5 = v5
  generalize vs 6 = v6
  generalize vs 7 = v7 at *
  subst e7
  obtain ⟨hc, hf, hz⟩ := bcell hG
  obtain ⟨z0, z1, zf0, zf1, s7⟩ := (HR4.out.grow hG).two
  go_wp2
  exact bodyPost_ret (v := .agg #[.int .i64 m, .int .i64 m]) (by simp [results, Try.results61, go_sem, z0, z1]) rfl ⟨rfl, (((show Below w.heap.size w _ from HG4.out.tr hG).setCell (by first | (simp; done) | (simp; omega) | omega) _).setCell (by first | (simp; done) | (simp; omega) | omega) _)⟩
set_option maxHeartbeats 1600000 in
theorem dist1_far (fl fh bl bh ti ne fa : Int) (v sv : Value) (plo phi : Int) (l : List Sg) (k : Nat) (n f lo hi : Int) (sl : Bool) (p : Nat) (w : World) (h : SeenAt l sv w) (hk : l[k]? = some ⟨.far n f, lo, hi, sl⟩) (hok : Sg.ok ⟨.far n f, lo, hi, sl⟩) (hpp : plo ≤ phi) (hw : Sg.why ⟨.far n f, lo, hi, sl⟩ plo phi = 0) (a0 : 0 ≤ plo) (a1 : phi ≤ 4398046511104) (hhi : 0 ≤ hi) (hp : w.cell? ⟨p, 0, none⟩ = some (.int .i64 k)) (hpl : p < w.heap.size) :
    Calls Try.prog 61 #[.agg #[.int .i64 fl, .int .i64 fh, .int .i64 bl, .int .i64 bh, .int .i64 ti, .int .i64 ne, .int .i64 fa, v, sv, .int .i64 plo, .int .i64 phi], .pointer (some ⟨p, 0, none⟩)] w fun e w' => e = .returned (.agg #[.int .i64 (dist n f plo phi (ovl (lo, hi) (0, 2000)).1 (ovl (lo, hi) (0, 2000)).2).1, .int .i64 (dist n f plo phi (ovl (lo, hi) (0, 2000)).1 (ovl (lo, hi) (0, 2000)).2).2]) ∧ Below w.heap.size w w' := by
  have hsv : Sg.val ⟨.far n f, lo, hi, sl⟩ = .agg #[.iface 129 (.agg #[.int .i64 n, .int .i64 f]), .int .i64 lo, .int .i64 hi, .bool sl] := rfl
  have ht : ∀ W : World, Gr w W → Calls Try.prog 43 #[.agg #[.int .i64 fl, .int .i64 fh, .int .i64 bl, .int .i64 bh, .int .i64 ti, .int .i64 ne, .int .i64 fa, v, sv, .int .i64 plo, .int .i64 phi], .int .i64 k] W fun e w' => e = .returned (.agg #[.iface 129 (.agg #[.int .i64 n, .int .i64 f]), .int .i64 lo, .int .i64 hi, .bool sl]) ∧ Below W.heap.size W w' := fun W hg => by
    have := thing_ok fl fh bl bh ti ne fa v sv plo phi l k ⟨.far n f, lo, hi, sl⟩ W (SeenAt.lasts _ _ _ _ h hg) hk
    rwa [hsv] at this
  have hwy : ∀ W : World, Calls Try.prog 56 #[.agg #[.iface 129 (.agg #[.int .i64 n, .int .i64 f]), .int .i64 lo, .int .i64 hi, .bool sl], .agg #[.int .i64 plo, .int .i64 phi]] W fun e w' => e = .returned (.int .i64 (Sg.why ⟨.far n f, lo, hi, sl⟩ plo phi)) ∧ Below W.heap.size W w' := fun W => by
    have := why_any ⟨.far n f, lo, hi, sl⟩ plo phi W hok
    rwa [hsv] at this
  simp only [hw] at hwy
  clear hw
  have hst := Sg.st_in hok
  have hwok := hok.1
  have HWY := Lib.hid hwy
  clear hwy hok
  have HT := Lib.hid ht
  clear h hk ht hsv
  have hal := @cal
  have hp1 : p < w.heap.size + 1 := by omega
  have hs2 : 0 ≤ (ovl (lo, hi) (0, 2000)).2 := by unfold ovl; simp only; split <;> omega
  have hs3 : (ovl (lo, hi) (0, 2000)).2 ≤ 10000 := hst.2.2.2
  clear hst hwok
  have hme := fun w => me_far_distances n f w
  go_enter Try.func61, Try.ntmps61
  go_wp2_with (first | (go_at_call 43; refine (HT.out _ ((Gr.alloc _ _).tr (Gr.alloc _ _))).mono ?_; rintro e w1 ⟨rfl, hb1⟩; have HL1 := Lib.hid (((Box.fresh w [.int .i64 fl, .int .i64 fh, .int .i64 bl, .int .i64 bh, .int .i64 ti, .int .i64 ne, .int .i64 fa, v, sv, .int .i64 plo, .int .i64 phi] 70).grow (Gr.alloc _ _)).grow hb1); have HR1 := Lib.hid ((Box.fresh (w.alloc (.cells #[.int .i64 fl, .int .i64 fh, .int .i64 bl, .int .i64 bh, .int .i64 ti, .int .i64 ne, .int .i64 fa, v, sv, .int .i64 plo, .int .i64 phi] 70)) [.int .i64 0, .int .i64 0] 23).grow hb1); have HG1 := Lib.hid (((Gr.alloc w (.cells #[.int .i64 fl, .int .i64 fh, .int .i64 bl, .int .i64 bh, .int .i64 ti, .int .i64 ne, .int .i64 fa, v, sv, .int .i64 plo, .int .i64 phi] 70)).tr (Gr.alloc _ _)).tr hb1); clear hb1; obtain ⟨l0, l1, l2, l3, l4, l5, l6, l7, l8, l9, l10⟩ := HL1.out.eleven; have s1 := HL1.out.lt; have HR1 := Lib.hid (show Box w1 (w.heap.size + 1) [.int .i64 0, .int .i64 0] 23 from (by simpa using HR1.out)); have s2 := HR1.out.lt) | (go_at_call 48; refine (truths_ok _ _ _ _ _ _ _ _ _ _ _ _ hpp).mono ?_; rintro e w2 ⟨rfl, hb2⟩; clear l0 l1 l2 l3 l4 l5 l6 l7 l8 l9 l10; have HR2 := Lib.hid ((HR1.out.grow (Gr.alloc _ (.cells #[.iface 129 (.agg #[.int .i64 n, .int .i64 f]), .int .i64 lo, .int .i64 hi, .bool sl] 74))).grow hb2); have HS2 := Lib.hid ((Box.fresh w1 [.iface 129 (.agg #[.int .i64 n, .int .i64 f]), .int .i64 lo, .int .i64 hi, .bool sl] 74).grow hb2); have HG2 := Lib.hid ((HG1.out.tr (Gr.alloc _ (.cells #[.iface 129 (.agg #[.int .i64 n, .int .i64 f]), .int .i64 lo, .int .i64 hi, .bool sl] 74))).tr hb2); clear hb2; obtain ⟨x0, x1, x2, x3, s3⟩ := HS2.out.four; have s4 := HR2.out.lt) | (go_at_call 56; refine (HWY.out _).mono ?_; rintro e w3 ⟨rfl, hb3⟩; clear x0 x1 x2 x3; have HR3 := Lib.hid ((HR2.out.grow (Gr.alloc _ (.cells #[.int .i64 plo, .int .i64 phi] 23))).grow hb3); have HS3 := Lib.hid ((HS2.out.grow (Gr.alloc _ (.cells #[.int .i64 plo, .int .i64 phi] 23))).grow hb3); have HP3 := Lib.hid ((Box.fresh w2 [.int .i64 plo, .int .i64 phi] 23).grow hb3); have HG3 := Lib.hid ((HG2.out.tr (Gr.alloc _ (.cells #[.int .i64 plo, .int .i64 phi] 23))).tr hb3); clear hb3) | (go_at_call 51; refine (require_ok _ _).mono ?_; rintro e w4 ⟨rfl, hb4⟩; have HR4 := Lib.hid (HR3.out.grow hb4); have HS4 := Lib.hid (HS3.out.grow hb4); have HP4 := Lib.hid (HP3.out.grow hb4); have HG4 := Lib.hid (HG3.out.tr hb4); clear hb4; obtain ⟨x0, x1, x2, x3, s5⟩ := HS4.out.four; obtain ⟨y0, y1, yf0, yf1, s6⟩ := HP4.out.two))
  refine region2 8 ?_ ?_ ?_
  · kernel_rfl
  · kernel_rfl
  simp only [List.take_succ_cons, List.take_zero, List.drop_succ_cons, List.drop_zero]
  apply chain_eq (D := [(4, none)]) rfl (by kernel_rfl)
  · intro ρ W ⟨p1, p2, p3⟩ hG hF K hK; (try simp [FactsD] at hF); have ⟨hc, hf, hz⟩ := bcell (Gr.tr (Gr.drew _) hG); go_simp; exact hK _ (gives_val)
  apply chain_eq (D := [(16, some 0)]) rfl (by kernel_rfl)
  · intro ρ W ⟨p1, p2, p3⟩ hG hF K hK; (try simp [FactsD] at hF); have ⟨hc, hf, hz⟩ := bcell (Gr.tr (Gr.drew _) hG); go_simp; exact hK _ (gives_val)
  apply chain_eq (D := [(5, none)]) rfl (by kernel_rfl)
  · intro ρ W ⟨p1, p2, p3⟩ hG hF K hK; (try simp [FactsD] at hF); have ⟨hc, hf, hz⟩ := bcell (Gr.tr (Gr.drew _) hG); go_simp; exact hK _ (gives_val)
  apply chain_eq (D := [(4, none)]) rfl (by kernel_rfl)
  · intro ρ W ⟨p1, p2, p3⟩ hG hF K hK; (try simp [FactsD] at hF); have ⟨hc, hf, hz⟩ := bcell (Gr.tr (Gr.drew _) hG); go_simp; exact hK _ (gives_val)
  apply chain_eq (D := [(19, some 0)]) rfl (by kernel_rfl)
  · intro ρ W ⟨p1, p2, p3⟩ hG hF K hK; (try simp [FactsD] at hF); have ⟨hc, hf, hz⟩ := bcell (Gr.tr (Gr.drew _) hG); go_simp; exact hK _ (gives_call (steady_any _ _ _ _ _))
  apply chain_eq (D := [(17, some 3)]) rfl (by kernel_rfl)
  · intro ρ W ⟨p1, p2, p3⟩ hG hF K hK; (try simp [FactsD] at hF); have ⟨hc, hf, hz⟩ := bcell (Gr.tr (Gr.drew _) hG); go_simp; exact hK _ (gives_val)
  apply chain_eq (D := [(17, some 4)]) rfl (by kernel_rfl)
  · intro ρ W ⟨p1, p2, p3⟩ hG hF K hK; (try simp [FactsD] at hF); have ⟨hc, hf, hz⟩ := bcell (Gr.tr (Gr.drew _) hG); go_simp; exact hK _ (gives_val)
  apply chain_eq (D := [(22, some 0), (18, some 4), (20, some 2)]) rfl (by kernel_rfl)
  · intro ρ W ⟨p1, p2, p3⟩ hG hF K hK; (try simp [FactsD] at hF); have ⟨hc, hf, hz⟩ := bcell (Gr.tr (Gr.drew _) hG); go_simp; exact hK _ (gives_call (farDistances_any _ _ _ _ _ _ _ a0 (by omega) (by omega) a1 hs2 hs3))
  refine chain_done ?_
  intro vs W hG hV
  obtain ⟨e7, -⟩ := hV
  simp only [Nat.reduceSub] at e7
  simp only [lay, Act.put, List.getElem?_toArray, List.getElem?_cons_succ, List.getElem?_cons_zero, Option.bind_some, List.setIfInBounds_toArray, List.set_cons_succ, List.set_cons_zero]
  generalize vs 0 = v0
  generalize vs 1 = v1
  generalize vs 2 = v2
  generalize vs 3 = v3
  generalize vs 4 = v4
  generalize vs 5 = v5
  generalize vs 6 = v6
  generalize vs 7 = v7 at *
  subst e7
  obtain ⟨hc, hf, hz⟩ := bcell hG
  obtain ⟨z0, z1, zf0, zf1, s7⟩ := (HR4.out.grow hG).two
  go_wp2
  exact bodyPost_ret (v := .agg #[.int .i64 (dist n f plo phi (ovl (lo, hi) (0, 2000)).1 (ovl (lo, hi) (0, 2000)).2).1, .int .i64 (dist n f plo phi (ovl (lo, hi) (0, 2000)).1 (ovl (lo, hi) (0, 2000)).2).2]) (by simp [results, Try.results61, go_sem, z0, z1]) rfl ⟨rfl, (((show Below w.heap.size w _ from HG4.out.tr hG).setCell (by first | (simp; done) | (simp; omega) | omega) _).setCell (by first | (simp; done) | (simp; omega) | omega) _)⟩
end Go.Proofs.Ytofdoadpaedogaa
