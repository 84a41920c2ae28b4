import Derived.Defers
import Derived.Recover
import Derived.Test.YtofdoadpaedogaaT15
namespace Go.Proofs.Ytofdoadpaedogaa
open Go.RowKit


theorem fld74_1' (a b c d : Value) (w : World) : (Instr.field 74 (.agg #[a, b, c, d]) 1).run Try.prog w = .ok (.agg #[b, c]) w := by kernel_rfl
set_option maxHeartbeats 400000 in
theorem shift1_ok (fl fh bl bh ti ne fa : Int) (v : Value) (sv : Value) (plo phi : Int) (l : List Sg) (k : Nat) (s : Sg) (p : Nat) (w : World) (h : SeenAt l sv w) (hk : l[k]? = some s) (hp : w.cell? ⟨p, 0, none⟩ = some (.int .i64 k)) (hpl : p < w.heap.size) :
    Calls Try.prog 42 #[.agg #[.int .i64 fl, .int .i64 fh, .int .i64 bl, .int .i64 bh, .int .i64 ti, .int .i64 ne, .int .i64 fa, v, sv, .int .i64 plo, .int .i64 phi], .pointer (some ⟨p, 0, none⟩)] w fun e w' => e = .returned (.agg #[.int .i64 s.lo, .int .i64 s.hi]) ∧ Below w.heap.size w w' := by
  obtain ⟨wit, lo, hi, sl⟩ := s
  have ht : ∀ W : World, Gr w W → Calls Try.prog 43 #[.agg #[.int .i64 fl, .int .i64 fh, .int .i64 bl, .int .i64 bh, .int .i64 ti, .int .i64 ne, .int .i64 fa, v, sv, .int .i64 plo, .int .i64 phi], .int .i64 k] W fun e w' => e = .returned (.agg #[wit.val, .int .i64 lo, .int .i64 hi, .bool sl]) ∧ Below W.heap.size W w' := fun W hg => thing_ok fl fh bl bh ti ne fa v sv plo phi l k ⟨wit, lo, hi, sl⟩ W (SeenAt.lasts _ _ _ _ h hg) hk
  have HT := Lib.hid ht
  clear h hk ht
  have hfd := @fld74_1'
  have hal := @cal
  have hp1 : p < w.heap.size + 1 := by omega
  go_enter Try.func42, Try.ntmps42
  go_wp2_with (go_at_call 43; refine (HT.out _ ((Gr.alloc _ _).tr (Gr.alloc _ _))).mono ?_; rintro e w1 ⟨rfl, hb1⟩; obtain ⟨hc1, hf1, hz1⟩ := bcell hb1)
  exact bodyPost_ret (v := .agg #[.int .i64 lo, .int .i64 hi]) (by simp [results, Try.results42, go_sem, hc1]) rfl ⟨rfl, (((bgr (((Below.refl _ _).alloc (by first | (simp; done) | (simp; omega) | omega) _).alloc (by first | (simp; done) | (simp; omega) | omega) _) (by first | (simp; done) | (simp; omega) | omega) hb1).setCell (by first | (simp; done) | (simp; omega) | omega) _).setCell (by first | (simp; done) | (simp; omega) | omega) _)⟩
set_option maxHeartbeats 400000 in
theorem shift1_no (fl fh bl bh ti ne fa : Int) (v : Value) (sv : Value) (plo phi : Int) (l : List Sg) (k : Int) (p : Nat) (w : World) (h : SeenAt l sv w) (hk : k < 0 ∨ (l.length : Int) ≤ k) (hp : w.cell? ⟨p, 0, none⟩ = some (.int .i64 k)) (hpl : p < w.heap.size) :
    Calls Try.prog 42 #[.agg #[.int .i64 fl, .int .i64 fh, .int .i64 bl, .int .i64 bh, .int .i64 ti, .int .i64 ne, .int .i64 fa, v, sv, .int .i64 plo, .int .i64 phi], .pointer (some ⟨p, 0, none⟩)] w fun e w' => e = .panicked [{ v := .iface 28 (.int .i64 2), recovered := false }] ∧ Below w.heap.size w w' := by
  have HT := Lib.hid (fun (W : World) (hg : Gr w W) => thing_no fl fh bl bh ti ne fa v sv plo phi l k W (SeenAt.lasts _ _ _ _ h hg) hk)
  clear h hk
  have hal := @cal
  have hp1 : p < w.heap.size + 1 := by omega
  go_enter Try.func42, Try.ntmps42
  go_wp2_with (go_at_call 43; refine (HT.out _ ((Gr.alloc _ _).tr (Gr.alloc _ _))).mono ?_; rintro e w1 ⟨rfl, hb1⟩)
  exact ⟨rfl, rfl, (bgr (((Below.refl _ _).alloc (by first | (simp; done) | (simp; omega) | omega) _).alloc (by first | (simp; done) | (simp; omega) | omega) _) (by first | (simp; done) | (simp; omega) | omega) hb1)⟩
set_option maxHeartbeats 800000 in
theorem why1_ok (fl fh bl bh ti ne fa : Int) (v : Value) (sv : Value) (plo phi : Int) (l : List Sg) (k : Nat) (s : Sg) (p : Nat) (w : World) (h : SeenAt l sv w) (hk : l[k]? = some s) (hok : s.ok) (hpp : plo ≤ phi) (hp : w.cell? ⟨p, 0, none⟩ = some (.int .i64 k)) (hpl : p < w.heap.size) :
    Calls Try.prog 55 #[.agg #[.int .i64 fl, .int .i64 fh, .int .i64 bl, .int .i64 bh, .int .i64 ti, .int .i64 ne, .int .i64 fa, v, sv, .int .i64 plo, .int .i64 phi], .pointer (some ⟨p, 0, none⟩)] w fun e w' => e = .returned (.int .i64 (s.why plo phi)) ∧ Below w.heap.size w w' := by
  have hwc : ∃ x, s.wit.val = x := ⟨_, rfl⟩
  obtain ⟨wt, wx, hwv⟩ := s.wit.iface
  have hsv : s.val = .agg #[.iface wt wx, .int .i64 s.lo, .int .i64 s.hi, .bool s.sl] := by unfold Sg.val; rw [hwv]
  have ht : ∀ W : World, Gr w W → Calls Try.prog 43 #[.agg #[.int .i64 fl, .int .i64 fh, .int .i64 bl, .int .i64 bh, .int .i64 ti, .int .i64 ne, .int .i64 fa, v, sv, .int .i64 plo, .int .i64 phi], .int .i64 k] W fun e w' => e = .returned (.agg #[.iface wt wx, .int .i64 s.lo, .int .i64 s.hi, .bool s.sl]) ∧ Below W.heap.size W w' := fun W hg => by
    have := thing_ok fl fh bl bh ti ne fa v sv plo phi l k s W (SeenAt.lasts _ _ _ _ h hg) hk
    rwa [hsv] at this
  have hwy : ∀ W : World, Calls Try.prog 56 #[.agg #[.iface wt wx, .int .i64 s.lo, .int .i64 s.hi, .bool s.sl], .agg #[.int .i64 plo, .int .i64 phi]] W fun e w' => e = .returned (.int .i64 (s.why plo phi)) ∧ Below W.heap.size W w' := fun W => by
    have := why_any s plo phi W hok
    rwa [hsv] at this
  have HWY := Lib.hid hwy
  clear hwy hok
  generalize s.why plo phi = res at *
  have HT := Lib.hid ht
  clear h hk ht hsv hwv hwc
  generalize s.lo = slo at *
  generalize s.hi = shi at *
  generalize s.sl = ssl at *
  have hal := @cal
  have hp1 : p < w.heap.size + 1 := by omega
  go_enter Try.func55, Try.ntmps55
  go_wp2_with (go_at_call 43; refine (HT.out _ (Gr.alloc _ _)).mono ?_; rintro e w1 ⟨rfl, hb1⟩; obtain ⟨hc1, hf1, hz1⟩ := bcell hb1; have hs1 : w.heap.size < w1.heap.size := hz1 _ (by simp))
  refine region2 4 ?_ ?_ ?_
  · kernel_rfl
  · kernel_rfl
  simp only [List.take_succ_cons, List.take_zero, List.drop_succ_cons, List.drop_zero]
  apply chain_eq (D := [(4, none)]) rfl (by kernel_rfl)
  · intro ρ W ⟨p1, p2, p3⟩ hG hF K hK; (try simp [FactsD] at hF); have ⟨hc, hf, hz⟩ := bcell (Gr.tr (Gr.drew _) hG); go_simp; exact hK _ (gives_val)
  apply chain_eq (D := [(2, none)]) rfl (by kernel_rfl)
  · intro ρ W ⟨p1, p2, p3⟩ hG hF K hK; (try simp [FactsD] at hF); have ⟨hc, hf, hz⟩ := bcell (Gr.tr (Gr.drew _) hG); go_simp; exact hK _ (gives_val)
  apply chain_eq (D := [(9, some 0)]) rfl (by kernel_rfl)
  · intro ρ W ⟨p1, p2, p3⟩ hG hF K hK; (try simp [FactsD] at hF); have ⟨hc, hf, hz⟩ := bcell (Gr.tr (Gr.drew _) hG); go_simp; exact hK _ (gives_call (truths_ok _ _ _ _ _ _ _ _ _ _ _ _ hpp))
  apply chain_eq (D := [(8, some 2), (10, some 0)]) rfl (by kernel_rfl)
  · intro ρ W ⟨p1, p2, p3⟩ hG hF K hK; (try simp [FactsD] at hF); have ⟨hc, hf, hz⟩ := bcell (Gr.tr (Gr.drew _) hG); go_simp; exact hK _ (gives_call (HWY.out _))
  refine chain_done ?_
  intro vs W hG hV
  obtain ⟨e3, -⟩ := hV
  simp only [Nat.reduceSub] at e3
  simp only [lay, Act.put, List.getElem?_toArray, List.getElem?_cons_succ, List.getElem?_cons_zero, Option.bind_some, List.setIfInBounds_toArray, List.set_cons_succ, List.set_cons_zero]
  generalize vs 0 = v0
  generalize vs 1 = v1
  generalize vs 2 = v2
  generalize vs 3 = v3 at *
  subst e3
  obtain ⟨hc, hf, hz⟩ := bcell hG
  go_wp2
  go_ret
  exact ⟨rfl, (bgr ((bgr ((Below.refl _ _).alloc (by first | (simp; done) | (simp; omega) | omega) _) (by first | (simp; done) | (simp; omega) | omega) hb1).alloc (by first | (simp; done) | (simp; omega) | omega) _) (by first | (simp; done) | (simp; omega) | omega) hG)⟩
set_option maxHeartbeats 800000 in
theorem why1_none (fl fh bl bh ti ne fa : Int) (v : Value) (sv : Value) (plo phi : Int) (l : List Sg) (k : Nat) (s : Sg) (p : Nat) (w : World) (h : SeenAt l sv w) (hk : l[k]? = some s) (hpp : phi < plo) (hp : w.cell? ⟨p, 0, none⟩ = some (.int .i64 k)) (hpl : p < w.heap.size) :
    Calls Try.prog 55 #[.agg #[.int .i64 fl, .int .i64 fh, .int .i64 bl, .int .i64 bh, .int .i64 ti, .int .i64 ne, .int .i64 fa, v, sv, .int .i64 plo, .int .i64 phi], .pointer (some ⟨p, 0, none⟩)] w fun e w' => e = .panicked [{ v := .iface 28 (.int .i64 4), recovered := false }] ∧ Below w.heap.size w w' := by
  have hwc : ∃ x, s.wit.val = x := ⟨_, rfl⟩
  obtain ⟨wt, wx, hwv⟩ := s.wit.iface
  have hsv : s.val = .agg #[.iface wt wx, .int .i64 s.lo, .int .i64 s.hi, .bool s.sl] := by unfold Sg.val; rw [hwv]
  have ht : ∀ W : World, Gr w W → Calls Try.prog 43 #[.agg #[.int .i64 fl, .int .i64 fh, .int .i64 bl, .int .i64 bh, .int .i64 ti, .int .i64 ne, .int .i64 fa, v, sv, .int .i64 plo, .int .i64 phi], .int .i64 k] W fun e w' => e = .returned (.agg #[.iface wt wx, .int .i64 s.lo, .int .i64 s.hi, .bool s.sl]) ∧ Below W.heap.size W w' := fun W hg => by
    have := thing_ok fl fh bl bh ti ne fa v sv plo phi l k s W (SeenAt.lasts _ _ _ _ h hg) hk
    rwa [hsv] at this
  have HT := Lib.hid ht
  clear h hk ht hsv hwv hwc
  generalize s.lo = slo at *
  generalize s.hi = shi at *
  generalize s.sl = ssl at *
  have hal := @cal
  have hp1 : p < w.heap.size + 1 := by omega
  go_enter Try.func55, Try.ntmps55
  go_wp2_with (go_at_call 43; refine (HT.out _ (Gr.alloc _ _)).mono ?_; rintro e w1 ⟨rfl, hb1⟩; obtain ⟨hc1, hf1, hz1⟩ := bcell hb1; have hs1 : w.heap.size < w1.heap.size := hz1 _ (by simp))
  refine region2 4 ?_ ?_ ?_
  · kernel_rfl
  · kernel_rfl
  simp only [List.take_succ_cons, List.take_zero, List.drop_succ_cons, List.drop_zero]
  apply chain_eq (D := [(4, none)]) rfl (by kernel_rfl)
  · intro ρ W ⟨p1, p2, p3⟩ hG hF K hK; (try simp [FactsD] at hF); have ⟨hc, hf, hz⟩ := bcell (Gr.tr (Gr.drew _) hG); go_simp; exact hK _ (gives_val)
  apply chain_eq (D := [(2, none)]) rfl (by kernel_rfl)
  · intro ρ W ⟨p1, p2, p3⟩ hG hF K hK; (try simp [FactsD] at hF); have ⟨hc, hf, hz⟩ := bcell (Gr.tr (Gr.drew _) hG); go_simp; exact hK _ (gives_val)
  refine chain_any (V := fun _ _ => False) (D := [(9, some 0)]) rfl (by kernel_rfl) (fun _ _ _ h _ => h) ?_ ?_
  · intro ρ W ⟨p1, p2, p3⟩ hG hF K hK; (try simp [FactsD] at hF); have ⟨hc, hf, hz⟩ := bcell (Gr.tr (Gr.drew _) hG); go_simp; exact hK _ (gives_panic (truths_no _ _ _ _ _ _ _ _ _ _ _ _ hpp) (fun W' hg a' ha' => ⟨ha', rfl, (bgr ((bgr ((Below.refl _ _).alloc (by first | (simp; done) | (simp; omega) | omega) _) (by first | (simp; done) | (simp; omega) | omega) hb1).alloc (by first | (simp; done) | (simp; omega) | omega) _) (by first | (simp; done) | (simp; omega) | omega) (Gr.tr (Gr.tr (Gr.drew _) hG) hg))⟩))
  refine chain_any (V := fun _ _ => True) (D := [(8, some 2), (10, some 0)]) rfl (by kernel_rfl) (fun _ _ _ _ _ => trivial) ?_ ?_
  · intro ρ W _ hG hF K hK; simp [FactsD] at hF
  refine chain_done ?_
  intro vs W hG hV
  exact (hV.2.1 : False).elim
set_option maxHeartbeats 800000 in
theorem why1_range (fl fh bl bh ti ne fa : Int) (v : Value) (sv : Value) (plo phi : Int) (l : List Sg) (k : Int) (p : Nat) (w : World) (h : SeenAt l sv w) (hk : k < 0 ∨ (l.length : Int) ≤ k) (hp : w.cell? ⟨p, 0, none⟩ = some (.int .i64 k)) (hpl : p < w.heap.size) :
    Calls Try.prog 55 #[.agg #[.int .i64 fl, .int .i64 fh, .int .i64 bl, .int .i64 bh, .int .i64 ti, .int .i64 ne, .int .i64 fa, v, sv, .int .i64 plo, .int .i64 phi], .pointer (some ⟨p, 0, none⟩)] w fun e w' => e = .panicked [{ v := .iface 28 (.int .i64 2), recovered := false }] ∧ Below w.heap.size w w' := by
  have HT := Lib.hid (fun (W : World) (hg : Gr w W) => thing_no fl fh bl bh ti ne fa v sv plo phi l k W (SeenAt.lasts _ _ _ _ h hg) hk)
  clear h hk
  have hal := @cal
  have hp1 : p < w.heap.size + 1 := by omega
  go_enter Try.func55, Try.ntmps55
  go_wp2_with (go_at_call 43; refine (HT.out _ (Gr.alloc _ _)).mono ?_; rintro e w1 ⟨rfl, hb1⟩)
  exact ⟨rfl, rfl, (bgr ((Below.refl _ _).alloc (by first | (simp; done) | (simp; omega) | omega) _) (by first | (simp; done) | (simp; omega) | omega) hb1)⟩
end Go.Proofs.Ytofdoadpaedogaa
