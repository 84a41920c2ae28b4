import Derived.Test.YtofdoadpaedogaaT16
import Derived.Test.YtofdoadpaedogaaG3
namespace Go.Proofs.Ytofdoadpaedogaa
open Go.RowKit

/-- Which of two things is nearer. -/
def nearOf (s1 s2 : Sg) : Int := if s2.hi < s1.lo then 2 else if s1.hi ≤ s2.lo then 0 else 1
set_option maxHeartbeats 1600000 in
theorem near1_firstn (fl fh bl bh ti ne fa : Int) (v sv : Value) (plo phi : Int) (l : List Sg) (a b : Int) (p q : Nat) (w : World) (h : SeenAt l sv w) (ha : a < 0 ∨ (l.length : Int) ≤ a) (hb : b < 0 ∨ (l.length : Int) ≤ b) (hp : w.cell? ⟨p, 0, none⟩ = some (.int .i64 a)) (hpl : p < w.heap.size) (hq : w.cell? ⟨q, 0, none⟩ = some (.int .i64 b)) (hql : q < w.heap.size) :
    Calls Try.prog 47 #[.agg #[.int .i64 fl, .int .i64 fh, .int .i64 bl, .int .i64 bh, .int .i64 ti, .int .i64 ne, .int .i64 fa, v, sv, .int .i64 plo, .int .i64 phi], .pointer (some ⟨p, 0, none⟩), .pointer (some ⟨q, 0, none⟩)] w fun e w' => e = .panicked [{ v := .iface 28 (.int .i64 2), recovered := false }] ∧ Below w.heap.size w w' := by
  have HT1 := Lib.hid (fun (W : World) (hg : Gr w W) => thing_no fl fh bl bh ti ne fa v sv plo phi l a W (SeenAt.lasts _ _ _ _ h hg) ha)
  have HT2 := Lib.hid (fun (W : World) (hg : Gr w W) => thing_no fl fh bl bh ti ne fa v sv plo phi l b W (SeenAt.lasts _ _ _ _ h hg) hb)
  clear h ha hb
  have hal := @cal
  have hfd := @fld74_1'
  have hp1 : p < w.heap.size + 1 := by omega
  have hq1 : q < w.heap.size + 1 := by omega
  go_enter Try.func47, Try.ntmps47
  go_wp2
  refine regionL 10 7 ?_ ?_ ?_
  · kernel_rfl
  · kernel_rfl
  simp only [List.take_succ_cons, List.take_zero, List.drop_succ_cons, List.drop_zero]
  apply chainB_eq (D := [(3, none)]) rfl (by kernel_rfl)
  · intro ρ W ⟨p1, p2, p3⟩ hG hF K hK; (try simp [FactsD] at hF); have ⟨hc, hf, hz⟩ := bcell (Gr.tr (Gr.drew _) hG); go_simp; exact hK _ (gives_val)
  apply chainB_eq (D := [(1, none)]) rfl (by kernel_rfl)
  · intro ρ W ⟨p1, p2, p3⟩ hG hF K hK; (try simp [FactsD] at hF); have ⟨hc, hf, hz⟩ := bcell (Gr.tr (Gr.drew _) hG); go_simp; exact hK _ (gives_val)
  refine chainB_fact (V := fun _ _ => False) (D := [(7, some 1), (8, some 0)]) rfl (by kernel_rfl) (fun _ _ _ h _ => h) ?_ ?_
  · intro ρ W ⟨p1, p2, p3⟩ hG hF K hK; (try simp [FactsD, exB] at hF); have ⟨hc, hf, hz⟩ := bcell (Gr.tr (Gr.drew _) hG); go_simp; exact hK _ (gives_panic (HT1.out _ ((Gr.alloc _ _).tr ((Gr.drew _).tr hG))) (fun W' hg a' ha' => ⟨ha', rfl, (bgr ((Below.refl _ _).alloc (by first | (simp; done) | (simp; omega) | omega) _) (by first | (simp; done) | (simp; omega) | omega) (Gr.tr (Gr.tr (Gr.drew _) hG) hg))⟩))
  refine chainB_fact (V := fun _ _ => True) (D := [(9, some 0)]) rfl (by kernel_rfl) (fun _ _ _ _ _ => trivial) ?_ ?_
  · intro ρ W _ hG hF K hK; simp [FactsD, exB] at hF
  apply chainB_eq (D := [(3, none)]) rfl (by kernel_rfl)
  · intro ρ W ⟨p1, p2, p3⟩ hG hF K hK; (try simp [FactsD] at hF); have ⟨hc, hf, hz⟩ := bcell (Gr.tr (Gr.drew _) hG); go_simp; exact hK _ (gives_val)
  apply chainB_eq (D := [(2, none)]) rfl (by kernel_rfl)
  · intro ρ W ⟨p1, p2, p3⟩ hG hF K hK; (try simp [FactsD] at hF); have ⟨hc, hf, hz⟩ := bcell (Gr.tr (Gr.drew _) hG); go_simp; exact hK _ (gives_val)
  refine chainB_fact (V := fun _ _ => False) (D := [(11, some 1), (12, some 0)]) rfl (by kernel_rfl) (fun _ _ _ h _ => h) ?_ ?_
  · intro ρ W ⟨p1, p2, p3⟩ hG hF K hK; (try simp [FactsD, exB] at hF); have ⟨hc, hf, hz⟩ := bcell (Gr.tr (Gr.drew _) hG); go_simp; exact hK _ (gives_panic (HT2.out _ ((Gr.alloc _ _).tr ((Gr.drew _).tr hG))) (fun W' hg a' ha' => ⟨ha', rfl, (bgr ((Below.refl _ _).alloc (by first | (simp; done) | (simp; omega) | omega) _) (by first | (simp; done) | (simp; omega) | omega) (Gr.tr (Gr.tr (Gr.drew _) hG) hg))⟩))
  refine chainB_fact (V := fun _ _ => True) (D := [(13, some 0)]) rfl (by kernel_rfl) (fun _ _ _ _ _ => trivial) ?_ ?_
  · intro ρ W _ hG hF K hK; simp [FactsD, exB] at hF
  refine chainB_any (V := fun p v W' => NewB [.int .i64 0, .int .i64 0] 23 p v W' ∧ w.heap.size + 1 ≤ p.1) (D := []) rfl (by kernel_rfl) (fun p v A B h hg => ⟨NewB.lasts _ _ p v A B h.1 hg, h.2⟩) ?_ ?_
  · intro ρ W ⟨p1, p2, p3⟩ hG hF K hK; (try simp [FactsD] at hF); have ⟨hc, hf, hz⟩ := bcell (Gr.tr (Gr.drew _) hG); go_simp; exact hK _ (⟨⟨NewB.new _ _ _, by have := hG.size; simpa using this⟩, Gr.alloc _ _⟩)
  refine chainB_any (V := fun p v W' => NewB [.int .i64 0, .int .i64 0] 23 p v W' ∧ w.heap.size + 1 ≤ p.1) (D := []) rfl (by kernel_rfl) (fun p v A B h hg => ⟨NewB.lasts _ _ p v A B h.1 hg, h.2⟩) ?_ ?_
  · intro ρ W ⟨p1, p2, p3⟩ hG hF K hK; (try simp [FactsD] at hF); have ⟨hc, hf, hz⟩ := bcell (Gr.tr (Gr.drew _) hG); go_simp; exact hK _ (⟨⟨NewB.new _ _ _, by have := hG.size; simpa using this⟩, Gr.alloc _ _⟩)
  refine chainB_done ⟨fun vs bs W hG hV hdj => (hV.2.2.2.2.2.2.2.1 : False).elim, fun vs bs W hG hV hdj => ?_⟩
  simp [HoldsL] at hV
set_option maxHeartbeats 1600000 in
theorem near1_firsty (fl fh bl bh ti ne fa : Int) (v sv : Value) (plo phi : Int) (l : List Sg) (a : Int) (b : Nat) (s2 : Sg) (p q : Nat) (w : World) (h : SeenAt l sv w) (ha : a < 0 ∨ (l.length : Int) ≤ a) (hb : l[b]? = some s2) (hp : w.cell? ⟨p, 0, none⟩ = some (.int .i64 a)) (hpl : p < w.heap.size) (hq : w.cell? ⟨q, 0, none⟩ = some (.int .i64 b)) (hql : q < w.heap.size) :
    Calls Try.prog 47 #[.agg #[.int .i64 fl, .int .i64 fh, .int .i64 bl, .int .i64 bh, .int .i64 ti, .int .i64 ne, .int .i64 fa, v, sv, .int .i64 plo, .int .i64 phi], .pointer (some ⟨p, 0, none⟩), .pointer (some ⟨q, 0, none⟩)] w fun e w' => e = .panicked [{ v := .iface 28 (.int .i64 2), recovered := false }] ∧ Below w.heap.size w w' := by
  have HT1 := Lib.hid (fun (W : World) (hg : Gr w W) => thing_no fl fh bl bh ti ne fa v sv plo phi l a W (SeenAt.lasts _ _ _ _ h hg) ha)
  obtain ⟨wt2, wx2, hwv2⟩ := s2.wit.iface
  have HT2 : Hid (∀ W : World, Gr w W → Calls Try.prog 43 #[.agg #[.int .i64 fl, .int .i64 fh, .int .i64 bl, .int .i64 bh, .int .i64 ti, .int .i64 ne, .int .i64 fa, v, sv, .int .i64 plo, .int .i64 phi], .int .i64 b] W fun e w' => e = .returned (.agg #[.iface wt2 wx2, .int .i64 s2.lo, .int .i64 s2.hi, .bool s2.sl]) ∧ Below W.heap.size W w') := Lib.hid fun W hg => by
    have := thing_ok fl fh bl bh ti ne fa v sv plo phi l b s2 W (SeenAt.lasts _ _ _ _ h hg) hb
    unfold Sg.val at this
    rwa [hwv2] at this
  clear hwv2
  clear h ha hb
  generalize s2.lo = lo2 at *
  generalize s2.hi = hi2 at *
  generalize s2.sl = sl2 at *
  have hal := @cal
  have hfd := @fld74_1'
  have hp1 : p < w.heap.size + 1 := by omega
  have hq1 : q < w.heap.size + 1 := by omega
  go_enter Try.func47, Try.ntmps47
  go_wp2
  refine regionL 10 7 ?_ ?_ ?_
  · kernel_rfl
  · kernel_rfl
  simp only [List.take_succ_cons, List.take_zero, List.drop_succ_cons, List.drop_zero]
  apply chainB_eq (D := [(3, none)]) rfl (by kernel_rfl)
  · intro ρ W ⟨p1, p2, p3⟩ hG hF K hK; (try simp [FactsD] at hF); have ⟨hc, hf, hz⟩ := bcell (Gr.tr (Gr.drew _) hG); go_simp; exact hK _ (gives_val)
  apply chainB_eq (D := [(1, none)]) rfl (by kernel_rfl)
  · intro ρ W ⟨p1, p2, p3⟩ hG hF K hK; (try simp [FactsD] at hF); have ⟨hc, hf, hz⟩ := bcell (Gr.tr (Gr.drew _) hG); go_simp; exact hK _ (gives_val)
  refine chainB_fact (V := fun _ _ => False) (D := [(7, some 1), (8, some 0)]) rfl (by kernel_rfl) (fun _ _ _ h _ => h) ?_ ?_
  · intro ρ W ⟨p1, p2, p3⟩ hG hF K hK; (try simp [FactsD, exB] at hF); have ⟨hc, hf, hz⟩ := bcell (Gr.tr (Gr.drew _) hG); go_simp; exact hK _ (gives_panic (HT1.out _ ((Gr.alloc _ _).tr ((Gr.drew _).tr hG))) (fun W' hg a' ha' => ⟨ha', rfl, (bgr ((Below.refl _ _).alloc (by first | (simp; done) | (simp; omega) | omega) _) (by first | (simp; done) | (simp; omega) | omega) (Gr.tr (Gr.tr (Gr.drew _) hG) hg))⟩))
  refine chainB_fact (V := fun _ _ => True) (D := [(9, some 0)]) rfl (by kernel_rfl) (fun _ _ _ _ _ => trivial) ?_ ?_
  · intro ρ W _ hG hF K hK; simp [FactsD, exB] at hF
  apply chainB_eq (D := [(3, none)]) rfl (by kernel_rfl)
  · intro ρ W ⟨p1, p2, p3⟩ hG hF K hK; (try simp [FactsD] at hF); have ⟨hc, hf, hz⟩ := bcell (Gr.tr (Gr.drew _) hG); go_simp; exact hK _ (gives_val)
  apply chainB_eq (D := [(2, none)]) rfl (by kernel_rfl)
  · intro ρ W ⟨p1, p2, p3⟩ hG hF K hK; (try simp [FactsD] at hF); have ⟨hc, hf, hz⟩ := bcell (Gr.tr (Gr.drew _) hG); go_simp; exact hK _ (gives_val)
  apply chainB_eq (D := [(11, some 1), (12, some 0)]) rfl (by kernel_rfl)
  · intro ρ W ⟨p1, p2, p3⟩ hG hF K hK; (try simp [FactsD, exB] at hF); have ⟨hc, hf, hz⟩ := bcell (Gr.tr (Gr.drew _) hG); go_simp; exact hK _ (gives_call (HT2.out _ ((Gr.alloc _ _).tr ((Gr.drew _).tr hG))))
  apply chainB_eq (D := [(13, some 0)]) rfl (by kernel_rfl)
  · intro ρ W ⟨p1, p2, p3⟩ hG hF K hK; (try simp [FactsD, exB] at hF); have ⟨hc, hf, hz⟩ := bcell (Gr.tr (Gr.drew _) hG); go_simp; exact hK _ (gives_val)
  refine chainB_any (V := fun p v W' => NewB [.int .i64 0, .int .i64 0] 23 p v W' ∧ w.heap.size + 1 ≤ p.1) (D := []) rfl (by kernel_rfl) (fun p v A B h hg => ⟨NewB.lasts _ _ p v A B h.1 hg, h.2⟩) ?_ ?_
  · intro ρ W ⟨p1, p2, p3⟩ hG hF K hK; (try simp [FactsD] at hF); have ⟨hc, hf, hz⟩ := bcell (Gr.tr (Gr.drew _) hG); go_simp; exact hK _ (⟨⟨NewB.new _ _ _, by have := hG.size; simpa using this⟩, Gr.alloc _ _⟩)
  refine chainB_any (V := fun p v W' => NewB [.int .i64 0, .int .i64 0] 23 p v W' ∧ w.heap.size + 1 ≤ p.1) (D := []) rfl (by kernel_rfl) (fun p v A B h hg => ⟨NewB.lasts _ _ p v A B h.1 hg, h.2⟩) ?_ ?_
  · intro ρ W ⟨p1, p2, p3⟩ hG hF K hK; (try simp [FactsD] at hF); have ⟨hc, hf, hz⟩ := bcell (Gr.tr (Gr.drew _) hG); go_simp; exact hK _ (⟨⟨NewB.new _ _ _, by have := hG.size; simpa using this⟩, Gr.alloc _ _⟩)
  refine chainB_done ⟨fun vs bs W hG hV hdj => (hV.2.2.2.2.2.2.2.1 : False).elim, fun vs bs W hG hV hdj => ?_⟩
  simp [HoldsL] at hV
set_option maxHeartbeats 1600000 in
theorem near1_second (fl fh bl bh ti ne fa : Int) (v sv : Value) (plo phi : Int) (l : List Sg) (a : Nat) (b : Int) (s1 : Sg) (p q : Nat) (w : World) (h : SeenAt l sv w) (ha : l[a]? = some s1) (hb : b < 0 ∨ (l.length : Int) ≤ b) (hp : w.cell? ⟨p, 0, none⟩ = some (.int .i64 a)) (hpl : p < w.heap.size) (hq : w.cell? ⟨q, 0, none⟩ = some (.int .i64 b)) (hql : q < w.heap.size) :
    Calls Try.prog 47 #[.agg #[.int .i64 fl, .int .i64 fh, .int .i64 bl, .int .i64 bh, .int .i64 ti, .int .i64 ne, .int .i64 fa, v, sv, .int .i64 plo, .int .i64 phi], .pointer (some ⟨p, 0, none⟩), .pointer (some ⟨q, 0, none⟩)] w fun e w' => e = .panicked [{ v := .iface 28 (.int .i64 2), recovered := false }] ∧ Below w.heap.size w w' := by
  obtain ⟨wt1, wx1, hwv1⟩ := s1.wit.iface
  have HT1 : Hid (∀ W : World, Gr w W → Calls Try.prog 43 #[.agg #[.int .i64 fl, .int .i64 fh, .int .i64 bl, .int .i64 bh, .int .i64 ti, .int .i64 ne, .int .i64 fa, v, sv, .int .i64 plo, .int .i64 phi], .int .i64 a] W fun e w' => e = .returned (.agg #[.iface wt1 wx1, .int .i64 s1.lo, .int .i64 s1.hi, .bool s1.sl]) ∧ Below W.heap.size W w') := Lib.hid fun W hg => by
    have := thing_ok fl fh bl bh ti ne fa v sv plo phi l a s1 W (SeenAt.lasts _ _ _ _ h hg) ha
    unfold Sg.val at this
    rwa [hwv1] at this
  clear hwv1
  have HT2 := Lib.hid (fun (W : World) (hg : Gr w W) => thing_no fl fh bl bh ti ne fa v sv plo phi l b W (SeenAt.lasts _ _ _ _ h hg) hb)
  clear h ha hb
  generalize s1.lo = lo1 at *
  generalize s1.hi = hi1 at *
  generalize s1.sl = sl1 at *
  have hal := @cal
  have hfd := @fld74_1'
  have hp1 : p < w.heap.size + 1 := by omega
  have hq1 : q < w.heap.size + 1 := by omega
  go_enter Try.func47, Try.ntmps47
  go_wp2
  refine regionL 10 7 ?_ ?_ ?_
  · kernel_rfl
  · kernel_rfl
  simp only [List.take_succ_cons, List.take_zero, List.drop_succ_cons, List.drop_zero]
  apply chainB_eq (D := [(3, none)]) rfl (by kernel_rfl)
  · intro ρ W ⟨p1, p2, p3⟩ hG hF K hK; (try simp [FactsD] at hF); have ⟨hc, hf, hz⟩ := bcell (Gr.tr (Gr.drew _) hG); go_simp; exact hK _ (gives_val)
  apply chainB_eq (D := [(1, none)]) rfl (by kernel_rfl)
  · intro ρ W ⟨p1, p2, p3⟩ hG hF K hK; (try simp [FactsD] at hF); have ⟨hc, hf, hz⟩ := bcell (Gr.tr (Gr.drew _) hG); go_simp; exact hK _ (gives_val)
  apply chainB_eq (D := [(7, some 1), (8, some 0)]) rfl (by kernel_rfl)
  · intro ρ W ⟨p1, p2, p3⟩ hG hF K hK; (try simp [FactsD, exB] at hF); have ⟨hc, hf, hz⟩ := bcell (Gr.tr (Gr.drew _) hG); go_simp; exact hK _ (gives_call (HT1.out _ ((Gr.alloc _ _).tr ((Gr.drew _).tr hG))))
  apply chainB_eq (D := [(9, some 0)]) rfl (by kernel_rfl)
  · intro ρ W ⟨p1, p2, p3⟩ hG hF K hK; (try simp [FactsD, exB] at hF); have ⟨hc, hf, hz⟩ := bcell (Gr.tr (Gr.drew _) hG); go_simp; exact hK _ (gives_val)
  apply chainB_eq (D := [(3, none)]) rfl (by kernel_rfl)
  · intro ρ W ⟨p1, p2, p3⟩ hG hF K hK; (try simp [FactsD] at hF); have ⟨hc, hf, hz⟩ := bcell (Gr.tr (Gr.drew _) hG); go_simp; exact hK _ (gives_val)
  apply chainB_eq (D := [(2, none)]) rfl (by kernel_rfl)
  · intro ρ W ⟨p1, p2, p3⟩ hG hF K hK; (try simp [FactsD] at hF); have ⟨hc, hf, hz⟩ := bcell (Gr.tr (Gr.drew _) hG); go_simp; exact hK _ (gives_val)
  refine chainB_fact (V := fun _ _ => False) (D := [(11, some 1), (12, some 0)]) rfl (by kernel_rfl) (fun _ _ _ h _ => h) ?_ ?_
  · intro ρ W ⟨p1, p2, p3⟩ hG hF K hK; (try simp [FactsD, exB] at hF); have ⟨hc, hf, hz⟩ := bcell (Gr.tr (Gr.drew _) hG); go_simp; exact hK _ (gives_panic (HT2.out _ ((Gr.alloc _ _).tr ((Gr.drew _).tr hG))) (fun W' hg a' ha' => ⟨ha', rfl, (bgr ((Below.refl _ _).alloc (by first | (simp; done) | (simp; omega) | omega) _) (by first | (simp; done) | (simp; omega) | omega) (Gr.tr (Gr.tr (Gr.drew _) hG) hg))⟩))
  refine chainB_fact (V := fun _ _ => True) (D := [(13, some 0)]) rfl (by kernel_rfl) (fun _ _ _ _ _ => trivial) ?_ ?_
  · intro ρ W _ hG hF K hK; simp [FactsD, exB] at hF
  refine chainB_any (V := fun p v W' => NewB [.int .i64 0, .int .i64 0] 23 p v W' ∧ w.heap.size + 1 ≤ p.1) (D := []) rfl (by kernel_rfl) (fun p v A B h hg => ⟨NewB.lasts _ _ p v A B h.1 hg, h.2⟩) ?_ ?_
  · intro ρ W ⟨p1, p2, p3⟩ hG hF K hK; (try simp [FactsD] at hF); have ⟨hc, hf, hz⟩ := bcell (Gr.tr (Gr.drew _) hG); go_simp; exact hK _ (⟨⟨NewB.new _ _ _, by have := hG.size; simpa using this⟩, Gr.alloc _ _⟩)
  refine chainB_any (V := fun p v W' => NewB [.int .i64 0, .int .i64 0] 23 p v W' ∧ w.heap.size + 1 ≤ p.1) (D := []) rfl (by kernel_rfl) (fun p v A B h hg => ⟨NewB.lasts _ _ p v A B h.1 hg, h.2⟩) ?_ ?_
  · intro ρ W ⟨p1, p2, p3⟩ hG hF K hK; (try simp [FactsD] at hF); have ⟨hc, hf, hz⟩ := bcell (Gr.tr (Gr.drew _) hG); go_simp; exact hK _ (⟨⟨NewB.new _ _ _, by have := hG.size; simpa using this⟩, Gr.alloc _ _⟩)
  refine chainB_done ⟨fun vs bs W hG hV hdj => (hV.2.2.2.1 : False).elim, fun vs bs W hG hV hdj => ?_⟩
  simp [HoldsL] at hV
set_option maxHeartbeats 1600000 in
theorem near1_ok (fl fh bl bh ti ne fa : Int) (v sv : Value) (plo phi : Int) (l : List Sg) (a b : Nat) (s1 s2 : Sg) (p q : Nat) (w : World) (h : SeenAt l sv w) (ha : l[a]? = some s1) (hb : l[b]? = some s2) (hp : w.cell? ⟨p, 0, none⟩ = some (.int .i64 a)) (hpl : p < w.heap.size) (hq : w.cell? ⟨q, 0, none⟩ = some (.int .i64 b)) (hql : q < w.heap.size) :
    Calls Try.prog 47 #[.agg #[.int .i64 fl, .int .i64 fh, .int .i64 bl, .int .i64 bh, .int .i64 ti, .int .i64 ne, .int .i64 fa, v, sv, .int .i64 plo, .int .i64 phi], .pointer (some ⟨p, 0, none⟩), .pointer (some ⟨q, 0, none⟩)] w fun e w' => e = .returned (.int .i64 (nearOf s1 s2)) ∧ Below w.heap.size w w' := by
  obtain ⟨wt1, wx1, hwv1⟩ := s1.wit.iface
  have HT1 : Hid (∀ W : World, Gr w W → Calls Try.prog 43 #[.agg #[.int .i64 fl, .int .i64 fh, .int .i64 bl, .int .i64 bh, .int .i64 ti, .int .i64 ne, .int .i64 fa, v, sv, .int .i64 plo, .int .i64 phi], .int .i64 a] W fun e w' => e = .returned (.agg #[.iface wt1 wx1, .int .i64 s1.lo, .int .i64 s1.hi, .bool s1.sl]) ∧ Below W.heap.size W w') := Lib.hid fun W hg => by
    have := thing_ok fl fh bl bh ti ne fa v sv plo phi l a s1 W (SeenAt.lasts _ _ _ _ h hg) ha
    unfold Sg.val at this
    rwa [hwv1] at this
  clear hwv1
  obtain ⟨wt2, wx2, hwv2⟩ := s2.wit.iface
  have HT2 : Hid (∀ W : World, Gr w W → Calls Try.prog 43 #[.agg #[.int .i64 fl, .int .i64 fh, .int .i64 bl, .int .i64 bh, .int .i64 ti, .int .i64 ne, .int .i64 fa, v, sv, .int .i64 plo, .int .i64 phi], .int .i64 b] W fun e w' => e = .returned (.agg #[.iface wt2 wx2, .int .i64 s2.lo, .int .i64 s2.hi, .bool s2.sl]) ∧ Below W.heap.size W w') := Lib.hid fun W hg => by
    have := thing_ok fl fh bl bh ti ne fa v sv plo phi l b s2 W (SeenAt.lasts _ _ _ _ h hg) hb
    unfold Sg.val at this
    rwa [hwv2] at this
  clear hwv2
  clear h ha hb
  obtain ⟨res, hres⟩ : ∃ r, nearOf s1 s2 = r := ⟨_, rfl⟩
  rw [hres]
  unfold nearOf at hres
  generalize s1.lo = lo1 at *
  generalize s1.hi = hi1 at *
  generalize s1.sl = sl1 at *
  generalize s2.lo = lo2 at *
  generalize s2.hi = hi2 at *
  generalize s2.sl = sl2 at *
  have hal := @cal
  have hfd := @fld74_1'
  have hp1 : p < w.heap.size + 1 := by omega
  have hq1 : q < w.heap.size + 1 := by omega
  have HRES := Lib.hid hres
  clear hres
  go_enter Try.func47, Try.ntmps47
  go_wp2
  refine regionL 10 7 ?_ ?_ ?_
  · kernel_rfl
  · kernel_rfl
  simp only [List.take_succ_cons, List.take_zero, List.drop_succ_cons, List.drop_zero]
  apply chainB_eq (D := [(3, none)]) rfl (by kernel_rfl)
  · intro ρ W ⟨p1, p2, p3⟩ hG hF K hK; (try simp [FactsD] at hF); have ⟨hc, hf, hz⟩ := bcell (Gr.tr (Gr.drew _) hG); go_simp; exact hK _ (gives_val)
  apply chainB_eq (D := [(1, none)]) rfl (by kernel_rfl)
  · intro ρ W ⟨p1, p2, p3⟩ hG hF K hK; (try simp [FactsD] at hF); have ⟨hc, hf, hz⟩ := bcell (Gr.tr (Gr.drew _) hG); go_simp; exact hK _ (gives_val)
  apply chainB_eq (D := [(7, some 1), (8, some 0)]) rfl (by kernel_rfl)
  · intro ρ W ⟨p1, p2, p3⟩ hG hF K hK; (try simp [FactsD, exB] at hF); have ⟨hc, hf, hz⟩ := bcell (Gr.tr (Gr.drew _) hG); go_simp; exact hK _ (gives_call (HT1.out _ ((Gr.alloc _ _).tr ((Gr.drew _).tr hG))))
  apply chainB_eq (D := [(9, some 0)]) rfl (by kernel_rfl)
  · intro ρ W ⟨p1, p2, p3⟩ hG hF K hK; (try simp [FactsD, exB] at hF); have ⟨hc, hf, hz⟩ := bcell (Gr.tr (Gr.drew _) hG); go_simp; exact hK _ (gives_val)
  apply chainB_eq (D := [(3, none)]) rfl (by kernel_rfl)
  · intro ρ W ⟨p1, p2, p3⟩ hG hF K hK; (try simp [FactsD] at hF); have ⟨hc, hf, hz⟩ := bcell (Gr.tr (Gr.drew _) hG); go_simp; exact hK _ (gives_val)
  apply chainB_eq (D := [(2, none)]) rfl (by kernel_rfl)
  · intro ρ W ⟨p1, p2, p3⟩ hG hF K hK; (try simp [FactsD] at hF); have ⟨hc, hf, hz⟩ := bcell (Gr.tr (Gr.drew _) hG); go_simp; exact hK _ (gives_val)
  apply chainB_eq (D := [(11, some 1), (12, some 0)]) rfl (by kernel_rfl)
  · intro ρ W ⟨p1, p2, p3⟩ hG hF K hK; (try simp [FactsD, exB] at hF); have ⟨hc, hf, hz⟩ := bcell (Gr.tr (Gr.drew _) hG); go_simp; exact hK _ (gives_call (HT2.out _ ((Gr.alloc _ _).tr ((Gr.drew _).tr hG))))
  apply chainB_eq (D := [(13, some 0)]) rfl (by kernel_rfl)
  · intro ρ W ⟨p1, p2, p3⟩ hG hF K hK; (try simp [FactsD, exB] at hF); have ⟨hc, hf, hz⟩ := bcell (Gr.tr (Gr.drew _) hG); go_simp; exact hK _ (gives_val)
  refine chainB_any (V := fun p v W' => NewB [.int .i64 0, .int .i64 0] 23 p v W' ∧ w.heap.size + 1 ≤ p.1) (D := []) rfl (by kernel_rfl) (fun p v A B h hg => ⟨NewB.lasts _ _ p v A B h.1 hg, h.2⟩) ?_ ?_
  · intro ρ W ⟨p1, p2, p3⟩ hG hF K hK; (try simp [FactsD] at hF); have ⟨hc, hf, hz⟩ := bcell (Gr.tr (Gr.drew _) hG); go_simp; exact hK _ (⟨⟨NewB.new _ _ _, by have := hG.size; simpa using this⟩, Gr.alloc _ _⟩)
  refine chainB_any (V := fun p v W' => NewB [.int .i64 0, .int .i64 0] 23 p v W' ∧ w.heap.size + 1 ≤ p.1) (D := []) rfl (by kernel_rfl) (fun p v A B h hg => ⟨NewB.lasts _ _ p v A B h.1 hg, h.2⟩) ?_ ?_
  · intro ρ W ⟨p1, p2, p3⟩ hG hF K hK; (try simp [FactsD] at hF); have ⟨hc, hf, hz⟩ := bcell (Gr.tr (Gr.drew _) hG); go_simp; exact hK _ (⟨⟨NewB.new _ _ _, by have := hG.size; simpa using this⟩, Gr.alloc _ _⟩)
  refine chainB_done ⟨?_, ?_⟩
  · intro vs bs W hG hV hdj
    obtain ⟨e9, e8, e7, -, -, -, e3, -⟩ := hV
    simp only [Nat.reduceSub] at e3
    simp only [Nat.reduceSub] at e7
    simp only [Nat.reduceSub] at e8
    simp only [Nat.reduceSub] at e9
    have hd89 := hdj 8 9 (by omega) (by omega) (by omega)
    clear hdj
    simp only [lay, Act.put, List.getElem?_toArray, List.getElem?_cons_succ, List.getElem?_cons_zero, Option.bind_some, List.setIfInBounds_toArray, List.set_cons_succ, List.set_cons_zero]
    generalize vs 0 = v0
    generalize vs 1 = v1
    generalize vs 2 = v2
    generalize vs 3 = v3 at *
    generalize vs 4 = v4
    generalize vs 5 = v5
    generalize vs 6 = v6
    generalize vs 7 = v7 at *
    generalize vs 8 = v8 at *
    generalize vs 9 = v9 at *
    subst e3
    subst e7
    obtain ⟨hc, hf, hz⟩ := bcell hG
    obtain ⟨⟨b8, rfl, hb8, hb8', hB8⟩, hb8n⟩ := e8
    obtain ⟨⟨b9, rfl, hb9, hb9', hB9⟩, hb9n⟩ := e9
    have hne : ¬ b8 = b9 := by omega
    have hne' : ¬ b9 = b8 := by omega
    have hl8 : w.heap.size < b8 := by omega
    have hl9 : w.heap.size < b9 := by omega
    obtain ⟨y0, y1, yf0, yf1, yl⟩ := hB8.two
    obtain ⟨z0, z1, zf0, zf1, zl⟩ := hB9.two
    have HB8 := Lib.hid hB8
    have HB9 := Lib.hid hB9
    have HGW := Lib.hid (show Gr w W from (Gr.alloc _ _).tr hG)
    clear hB8 hB9 hG hb8 hb8' hb9 hb9' hd89 hb8n hb9n hc hf hz
    go_wp2
    all_goals
      have hXG : Gr w ((((W.setCell ⟨b8, 0, none⟩ (.int .i64 lo1)).setCell ⟨b8, 1, none⟩ (.int .i64 hi1)).setCell ⟨b9, 0, none⟩ (.int .i64 lo2)).setCell ⟨b9, 1, none⟩ (.int .i64 hi2)) := (((HGW.out.setCell (by simp; omega) _).setCell (by simp; omega) _).setCell (by simp; omega) _).setCell (by simp; omega) _
      go_ret
      exact ⟨congrArg (fun x => Ending.returned (.int .i64 x)) (by rw [← HRES.out]; split <;> (try split) <;> first | rfl | omega), hXG⟩
  · intro vs bs W hG hV hdj
    obtain ⟨e9, e8, -, e6, -, -, e3, -⟩ := hV
    simp only [Nat.reduceSub, Nat.reduceEqDiff, if_false] at e3
    simp only [Nat.reduceSub, Nat.reduceEqDiff, if_false] at e6
    simp only [Nat.reduceSub, Nat.reduceEqDiff, if_false] at e8
    simp only [Nat.reduceSub, Nat.reduceEqDiff, if_false] at e9
    have hd89 := hdj 8 9 (by omega) (by omega) (by omega) (by omega) (by omega)
    clear hdj
    refine wpOp_two rfl rfl ?_
    simp only [layL, Nat.reduceEqDiff, if_false, if_true, Act.put, List.getElem?_toArray, List.getElem?_cons_succ, List.getElem?_cons_zero, Option.bind_some, List.setIfInBounds_toArray, List.set_cons_succ, List.set_cons_zero, List.drop_succ_cons, List.drop_zero]
    generalize vs 0 = v0
    generalize vs 1 = v1
    generalize vs 2 = v2
    generalize vs 3 = v3 at *
    generalize vs 4 = v4
    generalize vs 5 = v5
    generalize vs 6 = v6 at *
    generalize vs 8 = v8 at *
    generalize vs 9 = v9 at *
    subst e3
    subst e6
    obtain ⟨hc, hf, hz⟩ := bcell hG
    obtain ⟨⟨b8, rfl, hb8, hb8', hB8⟩, hb8n⟩ := e8
    obtain ⟨⟨b9, rfl, hb9, hb9', hB9⟩, hb9n⟩ := e9
    have hne : ¬ b8 = b9 := by omega
    have hne' : ¬ b9 = b8 := by omega
    have hl8 : w.heap.size < b8 := by omega
    have hl9 : w.heap.size < b9 := by omega
    obtain ⟨y0, y1, yf0, yf1, yl⟩ := hB8.two
    obtain ⟨z0, z1, zf0, zf1, zl⟩ := hB9.two
    have HB8 := Lib.hid hB8
    have HB9 := Lib.hid hB9
    have HGW := Lib.hid (show Gr w W from (Gr.alloc _ _).tr hG)
    clear hB8 hB9 hG hb8 hb8' hb9 hb9' hd89 hb8n hb9n hc hf hz
    go_wp2
    all_goals
      have hXG : Gr w ((((W.setCell ⟨b8, 0, none⟩ (.int .i64 lo1)).setCell ⟨b8, 1, none⟩ (.int .i64 hi1)).setCell ⟨b9, 0, none⟩ (.int .i64 lo2)).setCell ⟨b9, 1, none⟩ (.int .i64 hi2)) := (((HGW.out.setCell (by simp; omega) _).setCell (by simp; omega) _).setCell (by simp; omega) _).setCell (by simp; omega) _
      go_ret
      exact ⟨congrArg (fun x => Ending.returned (.int .i64 x)) (by rw [← HRES.out]; split <;> (try split) <;> first | rfl | omega), hXG⟩
end Go.Proofs.Ytofdoadpaedogaa
