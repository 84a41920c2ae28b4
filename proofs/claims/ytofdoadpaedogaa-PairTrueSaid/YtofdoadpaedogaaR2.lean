import Derived.Test.YtofdoadpaedogaaT12
import Derived.Test.YtofdoadpaedogaaR1
namespace Go.Proofs.Ytofdoadpaedogaa
open Go.RowKit

theorem Th.valid_l {ne fa : Int} {t : Th} (h : (okSp (-4000) 4000 (t.a, t.b) && okSp (-4000) 4000 (t.c, t.d)) = false) : Th.valid ne fa t = false := by
  unfold Th.valid
  rcases (Bool.and_eq_false_iff.1 h) with h | h <;> simp only [List.all_cons, List.all_nil, h, Bool.false_and, Bool.and_false]
theorem Th.valid_r {ne fa : Int} {t : Th} (h : (okSp (-4000) 4000 (t.e, t.f) && okSp (-4000) 4000 (t.g, t.h)) = false) : Th.valid ne fa t = false := by
  unfold Th.valid
  rcases (Bool.and_eq_false_iff.1 h) with h | h <;> simp only [List.all_cons, List.all_nil, h, Bool.false_and, Bool.and_false]
set_option maxRecDepth 100000 in
set_option maxHeartbeats 4000000 in
theorem rpair_any (fl fh bl bh ti ne fa : Int) (v : Value) (l : List Th) (w : World) (h : ThingsAt l v w) :
    Calls Try.prog 32 #[.agg #[.int .i64 fl, .int .i64 fh, .int .i64 bl, .int .i64 bh, .int .i64 ti, .int .i64 ne, .int .i64 fa, v]] w fun e w' => e = .returned (.bool (valid fl fh bl bh ti ne fa l)) ∧ Below w.heap.size w w' := by
  have hpost : ∀ k, k < 6 → headValid fl fh bl bh ti ne fa l.length k = false → valid fl fh bl bh ti ne fa l = false := fun k hk h => by
    unfold valid
    rw [Bool.and_eq_false_iff]
    exact .inl (List.all_eq_false.2 ⟨k, List.mem_range.2 hk, by simp [h]⟩)
  have hno : ∀ t ∈ l, Th.valid ne fa t = false → valid fl fh bl bh ti ne fa l = false := fun t ht hv => by
    unfold valid
    rw [Bool.and_eq_false_iff]
    exact .inr (List.all_eq_false.2 ⟨t, ht, by simp [hv]⟩)
  have hyes : (∀ k, k < 6 → headValid fl fh bl bh ti ne fa l.length k = true) → l.all (Th.valid ne fa) = true → valid fl fh bl bh ti ne fa l = true := fun h0 h => by
    unfold valid
    rw [h, Bool.and_true, List.all_eq_true]
    exact fun k hk => h0 k (List.mem_range.1 hk)
  have HP := Lib.hid hpost
  have HNO := Lib.hid hno
  have HYES := Lib.hid hyes
  clear hpost hno hyes
  obtain ⟨sp, cap, rfl, hlen⟩ := h.len
  generalize hx : valid fl fh bl bh ti ne fa l = x
  have HX := Lib.hid hx
  clear hx
  go_enter Try.func32, Try.ntmps32
  go_wp2
  have hB : Box (w.alloc (.cells #[.int .i64 fl, .int .i64 fh, .int .i64 bl, .int .i64 bh, .int .i64 ti, .int .i64 ne, .int .i64 fa, .slice sp l.length cap] 26)) w.heap.size [.int .i64 fl, .int .i64 fh, .int .i64 bl, .int .i64 bh, .int .i64 ti, .int .i64 ne, .int .i64 fa, .slice sp l.length cap] 26 := Box.fresh w _ _
  have hW : Below w.heap.size w (w.alloc (.cells #[.int .i64 fl, .int .i64 fh, .int .i64 bl, .int .i64 bh, .int .i64 ti, .int .i64 ne, .int .i64 fa, .slice sp l.length cap] 26)) := (Below.refl _ _).alloc (Nat.le_refl _) _
  have hT : ThingsAt l (.slice sp l.length cap) (w.alloc (.cells #[.int .i64 fl, .int .i64 fh, .int .i64 bl, .int .i64 bh, .int .i64 ti, .int .i64 ne, .int .i64 fa, .slice sp l.length cap] 26)) := ThingsAt.lasts l _ _ _ h (Gr.alloc _ _)
  generalize w.alloc (.cells #[.int .i64 fl, .int .i64 fh, .int .i64 bl, .int .i64 bh, .int .i64 ti, .int .i64 ne, .int .i64 fa, .slice sp l.length cap] 26) = Wl at *
  have HB := Lib.hid hB
  have HW := Lib.hid hW
  have HT := Lib.hid hT
  clear hB hW hT h
  have hal := @cal
  have hfl := @fal
  go_loopw [3] (fun i wr => ∃ k : Nat, k ≤ l.length ∧ i = .int .i64 k ∧ Gr Wl wr ∧ (l.take k).all (Th.valid ne fa) = true) (fun i _ => l.length - (intOf i).toNat)
  case atStart => exact ⟨0, Nat.zero_le _, rfl, Gr.same _, by simp⟩
  case round =>
    obtain ⟨k, hk, rfl, hg, ha⟩ := hrel
    have HG := Lib.hid hg
    have HA := Lib.hid ha
    clear hg ha
    have C := (HB.out.grow HG.out).facts
    simp only [CellsFrom, Nat.zero_add, Nat.reduceAdd, and_true] at C
    have ht := ThingsAt.lasts l _ _ _ HT.out HG.out
    by_cases hlt : k < l.length
    · obtain ⟨t, htk⟩ : ∃ t, l[k]? = some t := ⟨l[k], List.getElem?_eq_getElem hlt⟩
      obtain ⟨-, ht⟩ := ht
      rcases ht with ⟨e, -⟩ | ⟨b, o, cap', hsp, hb, hc⟩
      · rw [e] at hlt; simp at hlt
      have X := hc k t htk
      obtain ⟨hsp1, -, -⟩ : sp = some ⟨b, o, none⟩ ∧ l.length = l.length ∧ cap = cap' := by simpa using hsp
      subst hsp1
      clear hc hsp
      have hmem : t ∈ l := List.mem_of_getElem? htk
      have HN1 := Lib.hid (HNO.out t hmem)
      have htl : l.take (k + 1) = l.take k ++ [t] := by rw [List.take_add_one, htk]; rfl
      have HTL := Lib.hid htl
      clear htk hmem htl
      obtain ⟨xa, xb, xc, xd, xe, xf, xg, xh, xz⟩ := t
      replace X := CellsFrom.nine X
      simp only at X
      cases h1 : (okSp (-4000) 4000 (xa, xb) && okSp (-4000) 4000 (xc, xd)) with
      | false =>
        have hvd : Th.valid ne fa ⟨xa, xb, xc, xd, xe, xf, xg, xh, xz⟩ = false := Th.valid_l h1
        have hr := Lib.hid (HX.out.symm.trans (HN1.out hvd))
        have H1 := Lib.hid h1
        clear hvd h1
        go_wp2_with (go_at_call 68; refine (rplace_is (v := false) (by simpa using H1.out) _).mono ?_; rintro e w1 ⟨rfl, hb1⟩; obtain ⟨hc1, hf1, hz1⟩ := bcell (hb1))
        go_ret
        exact ⟨by rw [hr.out]; rfl, bgr (bgr HW.out HW.out.size HG.out) (bgr HW.out HW.out.size HG.out).size ((Gr.alloc wr (Obj.cells #[.int .i64 xa, .int .i64 xb, .int .i64 xc, .int .i64 xd, .int .i64 xe, .int .i64 xf, .int .i64 xg, .int .i64 xh, .int .i64 xz] 47)).tr hb1)⟩
      | true =>
      cases h2 : (okSp (-4000) 4000 (xe, xf) && okSp (-4000) 4000 (xg, xh)) with
      | false =>
        have hvd : Th.valid ne fa ⟨xa, xb, xc, xd, xe, xf, xg, xh, xz⟩ = false := Th.valid_r h2
        have hr := Lib.hid (HX.out.symm.trans (HN1.out hvd))
        have H1 := Lib.hid h1
        have H2 := Lib.hid h2
        clear hvd h1 h2
        go_wp2_with (first | (go_at_call 68; refine (rplace_is (v := true) (by simpa using H1.out) _).mono ?_; rintro e w1 ⟨rfl, hb1⟩; obtain ⟨hc1, hf1, hz1⟩ := bcell (hb1)) | (go_at_call 68; refine (rplace_is (v := false) (by simpa using H2.out) _).mono ?_; rintro e w2 ⟨rfl, hb2⟩; obtain ⟨hc2, hf2, hz2⟩ := bcell (Gr.tr hb1 hb2)))
        go_ret
        exact ⟨by rw [hr.out]; rfl, bgr (bgr HW.out HW.out.size HG.out) (bgr HW.out HW.out.size HG.out).size (((Gr.alloc wr (Obj.cells #[.int .i64 xa, .int .i64 xb, .int .i64 xc, .int .i64 xd, .int .i64 xe, .int .i64 xf, .int .i64 xg, .int .i64 xh, .int .i64 xz] 47)).tr hb1).tr hb2)⟩
      | true =>
      have hpq : [(xa, xb), (xc, xd), (xe, xf), (xg, xh)].all (okSp (-4000) 4000) = true := by simp only [List.all_cons, List.all_nil, Bool.and_true]; rw [← Bool.and_assoc, h1, h2]; rfl
      have H1 := Lib.hid h1
      have H2 := Lib.hid h2
      have HPQ := Lib.hid hpq
      clear h1 h2 hpq
      by_cases hz : xz = 0
      · have z1 : (xz != 0) = false := by simpa using hz
        have hvd : Th.valid ne fa ⟨xa, xb, xc, xd, xe, xf, xg, xh, xz⟩ = true := by unfold Th.valid; rw [Bool.and_eq_true]; exact ⟨HPQ.out, by simp [hz]⟩
        have HVD := Lib.hid hvd
        clear hvd hz
        go_wp2_with (first | (go_at_call 68; refine (rplace_is (v := true) (by simpa using H1.out) _).mono ?_; rintro e w1 ⟨rfl, hb1⟩; obtain ⟨hc1, hf1, hz1⟩ := bcell (hb1)) | (go_at_call 68; refine (rplace_is (v := true) (by simpa using H2.out) _).mono ?_; rintro e w2 ⟨rfl, hb2⟩; obtain ⟨hc2, hf2, hz2⟩ := bcell (Gr.tr hb1 hb2)))
        exact ⟨⟨k + 1, by omega, by go_num, HG.out.tr (((Gr.alloc wr (Obj.cells #[.int .i64 xa, .int .i64 xb, .int .i64 xc, .int .i64 xd, .int .i64 xe, .int .i64 xf, .int .i64 xg, .int .i64 xh, .int .i64 xz] 47)).tr hb1).tr hb2), by rw [HTL.out, List.all_append, HA.out]; simp [HVD.out]⟩, by simp [intOf]; omega⟩
      · have z1 : (xz != 0) = true := by simpa using hz
        cases h3 : (decide (ne ≤ xz) && decide (xz ≤ fa)) with
        | false =>
          have hvd : Th.valid ne fa ⟨xa, xb, xc, xd, xe, xf, xg, xh, xz⟩ = false := by unfold Th.valid; rw [Bool.and_eq_false_iff, Bool.or_eq_false_iff]; exact .inr ⟨by simpa using hz, h3⟩
          have hr := Lib.hid (HX.out.symm.trans (HN1.out hvd))
          have H3 := Lib.hid h3
          clear hvd hz h3
          go_wp2_with (first | (go_at_call 68; refine (rplace_is (v := true) (by simpa using H1.out) _).mono ?_; rintro e w1 ⟨rfl, hb1⟩; obtain ⟨hc1, hf1, hz1⟩ := bcell (hb1)) | (go_at_call 68; refine (rplace_is (v := true) (by simpa using H2.out) _).mono ?_; rintro e w2 ⟨rfl, hb2⟩; obtain ⟨hc2, hf2, hz2⟩ := bcell (Gr.tr hb1 hb2)) | (go_at_call 54; refine (rin_is (v := false) (by simpa using H3.out) _).mono ?_; rintro e w3 ⟨rfl, hb3⟩; obtain ⟨hc3, hf3, hz3⟩ := bcell (Gr.tr (Gr.tr hb1 hb2) hb3)))
          go_ret
          exact ⟨by rw [hr.out]; rfl, bgr (bgr HW.out HW.out.size HG.out) (bgr HW.out HW.out.size HG.out).size ((((Gr.alloc wr (Obj.cells #[.int .i64 xa, .int .i64 xb, .int .i64 xc, .int .i64 xd, .int .i64 xe, .int .i64 xf, .int .i64 xg, .int .i64 xh, .int .i64 xz] 47)).tr hb1).tr hb2).tr hb3)⟩
        | true =>
          have hvd : Th.valid ne fa ⟨xa, xb, xc, xd, xe, xf, xg, xh, xz⟩ = true := by unfold Th.valid; rw [Bool.and_eq_true, Bool.or_eq_true]; exact ⟨HPQ.out, .inr h3⟩
          have HVD := Lib.hid hvd
          have H3 := Lib.hid h3
          clear hvd hz h3
          go_wp2_with (first | (go_at_call 68; refine (rplace_is (v := true) (by simpa using H1.out) _).mono ?_; rintro e w1 ⟨rfl, hb1⟩; obtain ⟨hc1, hf1, hz1⟩ := bcell (hb1)) | (go_at_call 68; refine (rplace_is (v := true) (by simpa using H2.out) _).mono ?_; rintro e w2 ⟨rfl, hb2⟩; obtain ⟨hc2, hf2, hz2⟩ := bcell (Gr.tr hb1 hb2)) | (go_at_call 54; refine (rin_is (v := true) (by simpa using H3.out) _).mono ?_; rintro e w3 ⟨rfl, hb3⟩; obtain ⟨hc3, hf3, hz3⟩ := bcell (Gr.tr (Gr.tr hb1 hb2) hb3)))
          exact ⟨⟨k + 1, by omega, by go_num, HG.out.tr ((((Gr.alloc wr (Obj.cells #[.int .i64 xa, .int .i64 xb, .int .i64 xc, .int .i64 xd, .int .i64 xe, .int .i64 xf, .int .i64 xg, .int .i64 xh, .int .i64 xz] 47)).tr hb1).tr hb2).tr hb3), by rw [HTL.out, List.all_append, HA.out]; simp [HVD.out]⟩, by simp [intOf]; omega⟩
    · have hkl : k = l.length := by omega
      have ha' : l.all (Th.valid ne fa) = true := by have := HA.out; rwa [hkl, List.take_length] at this
      have HYA := Lib.hid (fun h => HYES.out h ha')
      clear ha' ht
      cases hv : headValid fl fh bl bh ti ne fa l.length 5 with
      | false =>
        have d : decide ((l.length : Int) ≤ 12) = false := by simp [headValid] at hv ⊢; omega
        have d' : decide (l.length ≤ 12) = false := by simp [headValid] at hv ⊢; omega
        have hr := Lib.hid (HX.out.symm.trans (HP.out 5 (by omega) hv))
        have K5 := Lib.hid hv
        clear hv
        go_wp2_with fail
        go_ret
        exact ⟨by rw [hr.out]; rfl, bgr HW.out HW.out.size HG.out⟩
      | true =>
      have d : decide ((l.length : Int) ≤ 12) = true := by simp [headValid] at hv ⊢; omega
      have d' : decide (l.length ≤ 12) = true := by simp [headValid] at hv ⊢; omega
      have K5 := Lib.hid hv
      clear hv
      cases hv : headValid fl fh bl bh ti ne fa l.length 0 with
      | false =>
        have hr := Lib.hid (HX.out.symm.trans (HP.out 0 (by omega) hv))
        have K0 := Lib.hid hv
        clear hv
        go_wp2_with (first | (go_at_call 69; refine (rspan_is (v := false) (by simpa [headValid] using K0.out) _).mono ?_; rintro e w1 ⟨rfl, hb1⟩; obtain ⟨hc1, hf1, hz1⟩ := bcell (hb1)))
        go_ret
        exact ⟨by rw [hr.out]; rfl, bgr (bgr HW.out HW.out.size HG.out) (bgr HW.out HW.out.size HG.out).size (hb1)⟩
      | true =>
      have K0 := Lib.hid hv
      clear hv
      cases hv : headValid fl fh bl bh ti ne fa l.length 1 with
      | false =>
        have hr := Lib.hid (HX.out.symm.trans (HP.out 1 (by omega) hv))
        have K1 := Lib.hid hv
        clear hv
        go_wp2_with (first | (go_at_call 69; refine (rspan_is (v := true) (by simpa [headValid] using K0.out) _).mono ?_; rintro e w1 ⟨rfl, hb1⟩; obtain ⟨hc1, hf1, hz1⟩ := bcell (hb1)) | (go_at_call 69; refine (rspan_is (v := false) (by simpa [headValid] using K1.out) _).mono ?_; rintro e w2 ⟨rfl, hb2⟩; obtain ⟨hc2, hf2, hz2⟩ := bcell (Gr.tr (hb1) hb2)))
        go_ret
        exact ⟨by rw [hr.out]; rfl, bgr (bgr HW.out HW.out.size HG.out) (bgr HW.out HW.out.size HG.out).size (Gr.tr (hb1) hb2)⟩
      | true =>
      have K1 := Lib.hid hv
      clear hv
      cases hv : headValid fl fh bl bh ti ne fa l.length 2 with
      | false =>
        have hr := Lib.hid (HX.out.symm.trans (HP.out 2 (by omega) hv))
        have K2 := Lib.hid hv
        clear hv
        go_wp2_with (first | (go_at_call 69; refine (rspan_is (v := true) (by simpa [headValid] using K0.out) _).mono ?_; rintro e w1 ⟨rfl, hb1⟩; obtain ⟨hc1, hf1, hz1⟩ := bcell (hb1)) | (go_at_call 69; refine (rspan_is (v := true) (by simpa [headValid] using K1.out) _).mono ?_; rintro e w2 ⟨rfl, hb2⟩; obtain ⟨hc2, hf2, hz2⟩ := bcell (Gr.tr (hb1) hb2)) | (go_at_call 54; refine (rin_is (v := false) (by simpa [headValid] using K2.out) _).mono ?_; rintro e w3 ⟨rfl, hb3⟩; obtain ⟨hc3, hf3, hz3⟩ := bcell (Gr.tr (Gr.tr (hb1) hb2) hb3)))
        go_ret
        exact ⟨by rw [hr.out]; rfl, bgr (bgr HW.out HW.out.size HG.out) (bgr HW.out HW.out.size HG.out).size (Gr.tr (Gr.tr (hb1) hb2) hb3)⟩
      | true =>
      have K2 := Lib.hid hv
      clear hv
      cases hv : headValid fl fh bl bh ti ne fa l.length 3 with
      | false =>
        have hr := Lib.hid (HX.out.symm.trans (HP.out 3 (by omega) hv))
        have K3 := Lib.hid hv
        clear hv
        go_wp2_with (first | (go_at_call 69; refine (rspan_is (v := true) (by simpa [headValid] using K0.out) _).mono ?_; rintro e w1 ⟨rfl, hb1⟩; obtain ⟨hc1, hf1, hz1⟩ := bcell (hb1)) | (go_at_call 69; refine (rspan_is (v := true) (by simpa [headValid] using K1.out) _).mono ?_; rintro e w2 ⟨rfl, hb2⟩; obtain ⟨hc2, hf2, hz2⟩ := bcell (Gr.tr (hb1) hb2)) | (go_at_call 54; refine (rin_is (v := true) (by simpa [headValid] using K2.out) _).mono ?_; rintro e w3 ⟨rfl, hb3⟩; obtain ⟨hc3, hf3, hz3⟩ := bcell (Gr.tr (Gr.tr (hb1) hb2) hb3)) | (go_at_call 54; refine (rin_is (v := false) (by simpa [headValid] using K3.out) _).mono ?_; rintro e w4 ⟨rfl, hb4⟩; obtain ⟨hc4, hf4, hz4⟩ := bcell (Gr.tr (Gr.tr (Gr.tr (hb1) hb2) hb3) hb4)))
        go_ret
        exact ⟨by rw [hr.out]; rfl, bgr (bgr HW.out HW.out.size HG.out) (bgr HW.out HW.out.size HG.out).size (Gr.tr (Gr.tr (Gr.tr (hb1) hb2) hb3) hb4)⟩
      | true =>
      have K3 := Lib.hid hv
      clear hv
      cases hv : headValid fl fh bl bh ti ne fa l.length 4 with
      | false =>
        have hr := Lib.hid (HX.out.symm.trans (HP.out 4 (by omega) hv))
        have K4 := Lib.hid hv
        clear hv
        go_wp2_with (first | (go_at_call 69; refine (rspan_is (v := true) (by simpa [headValid] using K0.out) _).mono ?_; rintro e w1 ⟨rfl, hb1⟩; obtain ⟨hc1, hf1, hz1⟩ := bcell (hb1)) | (go_at_call 69; refine (rspan_is (v := true) (by simpa [headValid] using K1.out) _).mono ?_; rintro e w2 ⟨rfl, hb2⟩; obtain ⟨hc2, hf2, hz2⟩ := bcell (Gr.tr (hb1) hb2)) | (go_at_call 54; refine (rin_is (v := true) (by simpa [headValid] using K2.out) _).mono ?_; rintro e w3 ⟨rfl, hb3⟩; obtain ⟨hc3, hf3, hz3⟩ := bcell (Gr.tr (Gr.tr (hb1) hb2) hb3)) | (go_at_call 54; refine (rin_is (v := true) (by simpa [headValid] using K3.out) _).mono ?_; rintro e w4 ⟨rfl, hb4⟩; obtain ⟨hc4, hf4, hz4⟩ := bcell (Gr.tr (Gr.tr (Gr.tr (hb1) hb2) hb3) hb4)) | (go_at_call 54; refine (rin_is (v := false) (by simpa [headValid] using K4.out) _).mono ?_; rintro e w5 ⟨rfl, hb5⟩; obtain ⟨hc5, hf5, hz5⟩ := bcell (Gr.tr (Gr.tr (Gr.tr (Gr.tr (hb1) hb2) hb3) hb4) hb5)))
        go_ret
        exact ⟨by rw [hr.out]; rfl, bgr (bgr HW.out HW.out.size HG.out) (bgr HW.out HW.out.size HG.out).size (Gr.tr (Gr.tr (Gr.tr (Gr.tr (hb1) hb2) hb3) hb4) hb5)⟩
      | true =>
      have K4 := Lib.hid hv
      clear hv
      have hr := Lib.hid (HX.out.symm.trans (HYA.out (fun k hk => by
        match k, hk with
        | 0, _ => exact K0.out
        | 1, _ => exact K1.out
        | 2, _ => exact K2.out
        | 3, _ => exact K3.out
        | 4, _ => exact K4.out
        | 5, _ => exact K5.out)))
      go_wp2_with (first | (go_at_call 69; refine (rspan_is (v := true) (by simpa [headValid] using K0.out) _).mono ?_; rintro e w1 ⟨rfl, hb1⟩; obtain ⟨hc1, hf1, hz1⟩ := bcell (hb1)) | (go_at_call 69; refine (rspan_is (v := true) (by simpa [headValid] using K1.out) _).mono ?_; rintro e w2 ⟨rfl, hb2⟩; obtain ⟨hc2, hf2, hz2⟩ := bcell (Gr.tr (hb1) hb2)) | (go_at_call 54; refine (rin_is (v := true) (by simpa [headValid] using K2.out) _).mono ?_; rintro e w3 ⟨rfl, hb3⟩; obtain ⟨hc3, hf3, hz3⟩ := bcell (Gr.tr (Gr.tr (hb1) hb2) hb3)) | (go_at_call 54; refine (rin_is (v := true) (by simpa [headValid] using K3.out) _).mono ?_; rintro e w4 ⟨rfl, hb4⟩; obtain ⟨hc4, hf4, hz4⟩ := bcell (Gr.tr (Gr.tr (Gr.tr (hb1) hb2) hb3) hb4)) | (go_at_call 54; refine (rin_is (v := true) (by simpa [headValid] using K4.out) _).mono ?_; rintro e w5 ⟨rfl, hb5⟩; obtain ⟨hc5, hf5, hz5⟩ := bcell (Gr.tr (Gr.tr (Gr.tr (Gr.tr (hb1) hb2) hb3) hb4) hb5)))
      go_ret
      exact ⟨by rw [hr.out]; rfl, bgr (bgr HW.out HW.out.size HG.out) (bgr HW.out HW.out.size HG.out).size (Gr.tr (Gr.tr (Gr.tr (Gr.tr (hb1) hb2) hb3) hb4) hb5)⟩
end Go.Proofs.Ytofdoadpaedogaa
