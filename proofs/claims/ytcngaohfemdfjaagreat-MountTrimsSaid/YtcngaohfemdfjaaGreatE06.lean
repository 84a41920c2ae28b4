import Derived.Test.YtcngaohfemdfjaaGreatE05
set_option linter.unusedVariables false
set_option linter.unusedSimpArgs false
set_option maxRecDepth 100000
set_option maxHeartbeats 60000000
namespace Go.Proofs.YtcngaohfemdfjaaGreat
open Go.RowKit
theorem run_loadPart {P : Program} {W : World} {g i n : Nat} {vs us : List Value} {T ty : TypeId} (hr : rowOf P ty n = true) (hn : us.length = n) (hg : Box W g vs T) (hu : (vs.drop i).take n = us) :
    (loadVar ty ⟨g, i, none⟩).run P W = .ok (.agg us.toArray) W := by
  obtain ⟨d, hd, hd2, hi⟩ := rowOf.parts hr
  have hl : (loadCells ⟨g, i, none⟩ us.length).run P W = .ok us.toArray W := run_loadCells_list (P := P) W ⟨g, i, none⟩ us (fun j v hv => by
    have hadd : (⟨g, i, none⟩ : Addr).add j = ⟨g, i + j, none⟩ := by unfold Addr.add; split <;> simp_all
    rw [hadd]
    refine hg.cell ?_
    rw [← hu] at hv
    have hj : j < n := by have := (List.getElem?_eq_some_iff.1 hv).1; simp at this; omega
    rw [List.getElem?_take_of_lt hj, List.getElem?_drop] at hv
    exact hv)
  cases hq : P.info? ty with
  | none => simp [hq] at hi
  | some inf =>
    have hs : inf.size = us.length := by simp [hq] at hi; omega
    have hagg : (isAgg ty).run P W = .ok true W := by
      unfold isAgg
      rw [Sem.run_bind, run_underlying hd W]
      cases d <;> simp_all [rowD]
    simp [loadVar, Sem.run_bind, hagg, sizeOf, typeInfo, hq, hs, hl]
theorem wpList_loadPart {P : Program} {ops : Array Oper} {rest : List Oper} {o : Oper} {a : Act} {w : World} {Q : Exit → Act → World → Prop} {vs us : List Value} {T ty : TypeId} {x : Operand} {g i n : Nat} (hr : rowOf P ty n = true) (hn : us.length = n) (hg : Box w g vs T) (hu : (vs.drop i).take n = us)
    (ho : o.op = .load ty x) (hgd : o.guard = none) (hx : a.eval x = .pointer (some ⟨g, i, none⟩))
    (h : wpList P ops Q rest (a.put o.dst (.agg us.toArray)) w) : wpList P ops Q (o :: rest) a w := by
  refine wpList_plain hgd fun K hK => ?_
  unfold Oper.wp execOp
  simp only [ho, hx, Instr.loadAt, Instr.sureAddr, Sem.run_bind, Sem.run_pure, Result.andThen_ok, run_loadPart hr hn hg hu]
  exact hK _ _ h
theorem exec_loadPart {P : Program} {vs us : List Value} {T ty : TypeId} {x : Operand} {g i n : Nat} {o : Oper} {ρ : Operand → Value} {W : World} (hr : rowOf P ty n = true) (hn : us.length = n) (hg : Box W g vs T) (hu : (vs.drop i).take n = us)
    (ho : o.op = .load ty x) (hx : ρ x = .pointer (some ⟨g, i, none⟩)) : (execOp ρ o).run P W = .ok (.value (.agg us.toArray)) W := by
  unfold execOp
  simp only [ho, hx, Instr.loadAt, Instr.sureAddr, Sem.run_bind, Sem.run_pure, Result.andThen_ok, run_loadPart hr hn hg hu]
theorem Tm.part (t : Tm) : (t.cs.drop 0).take 18 = t.k.lk t.mb := rfl
theorem Cd.part (k : Cd) (mb : Nat) : ((k.lk mb).drop 0).take 8 = k.pr := rfl
end Go.Proofs.YtcngaohfemdfjaaGreat
namespace Go.Proofs.YtcngaohfemdfjaaGreat
open Go.RowKit
def smp : Pr := ⟨9000, 9000, 65, 66, 5, 2000, 100000, [⟨100, 101, 0, 1, -96, -95, 0, 2, 3000⟩, ⟨50, 50, 10, 12, -10, -8, 14, 15, 0⟩, ⟨0, 2, 0, 0, 5, 6, 0, 0, 0⟩, ⟨400, 400, 0, 0, 0, 0, 0, 0, 0⟩, ⟨10, 10, 0, 1, 0, 0, 10, 12, 0⟩, ⟨0, 3, 0, 0, 0, 0, 0, 0, 0⟩]⟩
theorem TsA.box {l : List Th} {w : World} {b : Nat} {T : TypeId} {n : Nat} (h : Box w b (l.flatMap Th.vals) T) (hl : l.length ≤ 1000) (hn : n = l.length) (c : Nat) : TsA l (.slice (some ⟨b, 0, none⟩) n c) w := by
  subst hn
  refine ⟨hl, .inr ⟨b, 0, c, rfl, h.lt, fun i t hi => ?_⟩⟩
  have key : ∀ j x, t.vals[j]? = some x → w.cell? ⟨b, 0 + i * 9 + j, none⟩ = some x := fun j x hx => by
    rw [Nat.zero_add]
    refine h.cell ?_
    have hj : j < 9 := by have := (List.getElem?_eq_some_iff.1 hx).1; simpa [Th.vals] using this
    rw [flat_at Th.vals 9 (fun _ => rfl) l i j t hi hj]; exact hx
  have go : ∀ (xs : List Value) (k : Nat), (∀ j x, xs[j]? = some x → w.cell? ⟨b, k + j, none⟩ = some x) → CsF w b k xs := by
    intro xs
    induction xs with
    | nil => intro _ _; trivial
    | cons x xs ih =>
      intro k h
      refine ⟨by simpa using h 0 x rfl, ih (k + 1) fun j y hy => ?_⟩
      have := h (j + 1) y (by simpa using hy)
      rwa [show k + (j + 1) = k + 1 + j by omega] at this
  exact go t.vals (0 + i * 9) key
end Go.Proofs.YtcngaohfemdfjaaGreat
namespace Go.Proofs.YtcngaohfemdfjaaGreat
open Go.RowKit
theorem rin_any (n lo hi : Int) (w : World) :
    Calls Tryz.prog 106 #[.int .i64 n, .int .i64 lo, .int .i64 hi] w fun e w' => e = .returned (.bool (decide (lo ≤ n) && decide (n ≤ hi))) ∧ Below w.heap.size w w' := by
  by_cases h : lo ≤ n
  · have h' : decide (lo ≤ n) = true := by simpa using h
    go_enter Tryz.func106, Tryz.ntmps106
    go_wp2
    go_ret
    exact ⟨by simp [h], Below.refl _ _⟩
  · have h' : decide (lo ≤ n) = false := by simpa using h
    go_enter Tryz.func106, Tryz.ntmps106
    go_wp2
    go_ret
    exact ⟨by simp, Below.refl _ _⟩
theorem rspan_any (lo hi a b : Int) (w : World) :
    Calls Tryz.prog 107 #[.agg #[.int .i64 lo, .int .i64 hi], .int .i64 a, .int .i64 b] w fun e w' => e = .returned (.bool (okSp a b (lo, hi))) ∧ Below w.heap.size w w' := by
  by_cases h : a ≤ lo
  · have h' : decide (a ≤ lo) = true := by simpa using h
    by_cases h2 : lo ≤ hi
    · have h2' : decide (lo ≤ hi) = true := by simpa using h2
      go_enter Tryz.func107, Tryz.ntmps107
      go_wp2
      go_ret
      exact ⟨by simp [okSp, h, h2], (Below.refl _ _).alloc (Nat.le_refl _) _⟩
    · have h2' : decide (lo ≤ hi) = false := by simpa using h2
      go_enter Tryz.func107, Tryz.ntmps107
      go_wp2
      go_ret
      exact ⟨by simp [okSp, h2'], (Below.refl _ _).alloc (Nat.le_refl _) _⟩
  · have h' : decide (a ≤ lo) = false := by simpa using h
    go_enter Tryz.func107, Tryz.ntmps107
    go_wp2
    go_ret
    exact ⟨by simp [okSp, h'], (Below.refl _ _).alloc (Nat.le_refl _) _⟩
theorem rspan_is {lo hi a b : Int} {v : Bool} (h : okSp a b (lo, hi) = v) (w : World) :
    Calls Tryz.prog 107 #[.agg #[.int .i64 lo, .int .i64 hi], .int .i64 a, .int .i64 b] w fun e w' => e = .returned (.bool v) ∧ Below w.heap.size w w' := by
  rw [← h]; exact rspan_any lo hi a b w
theorem rin_is {n lo hi : Int} {v : Bool} (h : (decide (lo ≤ n) && decide (n ≤ hi)) = v) (w : World) :
    Calls Tryz.prog 106 #[.int .i64 n, .int .i64 lo, .int .i64 hi] w fun e w' => e = .returned (.bool v) ∧ Below w.heap.size w w' := by
  rw [← h]; exact rin_any n lo hi w
theorem rplace_any (a b c d : Int) (w : World) :
    Calls Tryz.prog 105 #[.agg #[.int .i64 a, .int .i64 b, .int .i64 c, .int .i64 d]] w fun e w' => e = .returned (.bool (okSp (-4000) 4000 (a, b) && okSp (-4000) 4000 (c, d))) ∧ Below w.heap.size w w' := by
  cases h : okSp (-4000) 4000 (a, b) with
  | true =>
    rw [Bool.true_and]
    have HS := Lib.hid h
    clear h
    go_enter Tryz.func105, Tryz.ntmps105
    go_wp2_with (first | (go_at_call 107; refine (rspan_is (by simpa using HS.out) _).mono ?_; rintro e w1 ⟨rfl, hb1⟩; obtain ⟨hc1, hf1, hz1⟩ := bcell (hb1)) | (go_at_call 107; refine (rspan_any _ _ _ _ _).mono ?_; rintro e w2 ⟨rfl, hb2⟩; obtain ⟨hc2, hf2, hz2⟩ := bcell (Gr.tr hb1 hb2)))
    go_ret
    exact ⟨rfl, (bgr ((Below.refl _ _).alloc (by first | (simp <;> omega) | omega) _) (by first | (simp <;> omega) | omega) (Gr.tr hb1 hb2))⟩
  | false =>
    rw [Bool.false_and]
    have HS := Lib.hid h
    clear h
    go_enter Tryz.func105, Tryz.ntmps105
    go_wp2_with (go_at_call 107; refine (rspan_is (by simpa using HS.out) _).mono ?_; rintro e w1 ⟨rfl, hb1⟩; obtain ⟨hc1, hf1, hz1⟩ := bcell (hb1))
    go_ret
    exact ⟨rfl, (bgr ((Below.refl _ _).alloc (by first | (simp <;> omega) | omega) _) (by first | (simp <;> omega) | omega) hb1)⟩
theorem rplace_is {a b c d : Int} {v : Bool} (h : (okSp (-4000) 4000 (a, b) && okSp (-4000) 4000 (c, d)) = v) (w : World) :
    Calls Tryz.prog 105 #[.agg #[.int .i64 a, .int .i64 b, .int .i64 c, .int .i64 d]] w fun e w' => e = .returned (.bool v) ∧ Below w.heap.size w w' := by
  rw [← h]; exact rplace_any a b c d w
end Go.Proofs.YtcngaohfemdfjaaGreat
namespace Go.Proofs.YtcngaohfemdfjaaGreat
open Go.RowKit
theorem Th.valid_l {ne fa : Int} {t : Th} (h : (okSp (-4000) 4000 (t.a, t.b) && okSp (-4000) 4000 (t.c, t.d)) = false) : Th.valid ne fa t = false := by
  unfold Th.valid
  rcases (Bool.and_eq_false_iff.1 h) with h | h <;> simp only [List.all_cons, List.all_nil, h, Bool.false_and, Bool.and_false]
theorem Th.valid_r {ne fa : Int} {t : Th} (h : (okSp (-4000) 4000 (t.e, t.f) && okSp (-4000) 4000 (t.g, t.h)) = false) : Th.valid ne fa t = false := by
  unfold Th.valid
  rcases (Bool.and_eq_false_iff.1 h) with h | h <;> simp only [List.all_cons, List.all_nil, h, Bool.false_and, Bool.and_false]
theorem rpair_any (fl fh bl bh ti ne fa : Int) (v : Value) (l : List Th) (w : World) (h : TsA l v w) :
    Calls Tryz.prog 67 #[.agg #[.int .i64 fl, .int .i64 fh, .int .i64 bl, .int .i64 bh, .int .i64 ti, .int .i64 ne, .int .i64 fa, v]] w fun e w' => e = .returned (.bool (valid fl fh bl bh ti ne fa l)) ∧ Below w.heap.size w w' := by
  have hpost : ∀ k, k < 6 → headValid fl fh bl bh ti ne fa l.length k = false → valid fl fh bl bh ti ne fa l = false := fun k hk h => by
    unfold valid
    rw [Bool.and_eq_false_iff]
    exact .inl (List.all_eq_false.2 ⟨k, List.mem_range.2 hk, by simp [h]⟩)
  have hno : ∀ t ∈ l, Th.valid ne fa t = false → valid fl fh bl bh ti ne fa l = false := fun t ht hv => by
    unfold valid
    rw [Bool.and_eq_false_iff]
    exact .inr (List.all_eq_false.2 ⟨t, ht, by simp [hv]⟩)
  have hyes : (∀ k, k < 6 → headValid fl fh bl bh ti ne fa l.length k = true) → l.all (Th.valid ne fa) = true → valid fl fh bl bh ti ne fa l = true := fun h0 h => by
    unfold valid
    rw [h, Bool.and_true, List.all_eq_true]
    exact fun k hk => h0 k (List.mem_range.1 hk)
  have HP := Lib.hid hpost
  have HNO := Lib.hid hno
  have HYES := Lib.hid hyes
  clear hpost hno hyes
  obtain ⟨sp, cap, rfl, hlen⟩ := h.len
  generalize hx : valid fl fh bl bh ti ne fa l = x
  have HX := Lib.hid hx
  clear hx
  go_enter Tryz.func67, Tryz.ntmps67
  go_wp2
  have hB : Box (w.alloc (.cells #[.int .i64 fl, .int .i64 fh, .int .i64 bl, .int .i64 bh, .int .i64 ti, .int .i64 ne, .int .i64 fa, .slice sp l.length cap] 26)) w.heap.size [.int .i64 fl, .int .i64 fh, .int .i64 bl, .int .i64 bh, .int .i64 ti, .int .i64 ne, .int .i64 fa, .slice sp l.length cap] 26 := Box.fresh w _ _
  have hW : Below w.heap.size w (w.alloc (.cells #[.int .i64 fl, .int .i64 fh, .int .i64 bl, .int .i64 bh, .int .i64 ti, .int .i64 ne, .int .i64 fa, .slice sp l.length cap] 26)) := (Below.refl _ _).alloc (Nat.le_refl _) _
  have hT : TsA l (.slice sp l.length cap) (w.alloc (.cells #[.int .i64 fl, .int .i64 fh, .int .i64 bl, .int .i64 bh, .int .i64 ti, .int .i64 ne, .int .i64 fa, .slice sp l.length cap] 26)) := TsA.lasts l _ _ _ h (Gr.alloc _ _)
  generalize w.alloc (.cells #[.int .i64 fl, .int .i64 fh, .int .i64 bl, .int .i64 bh, .int .i64 ti, .int .i64 ne, .int .i64 fa, .slice sp l.length cap] 26) = Wl at *
  have HB := Lib.hid hB
  have HW := Lib.hid hW
  have HT := Lib.hid hT
  clear hB hW hT h
  have hal := @cal
  have hfl := @fal
  go_loopw [3] (fun i wr => ∃ k : Nat, k ≤ l.length ∧ i = .int .i64 k ∧ Gr Wl wr ∧ (l.take k).all (Th.valid ne fa) = true) (fun i _ => l.length - (intOf i).toNat)
  case atStart => exact ⟨0, Nat.zero_le _, rfl, Gr.same _, by simp⟩
  case round =>
    obtain ⟨k, hk, rfl, hg, ha⟩ := hrel
    have HG := Lib.hid hg
    have HA := Lib.hid ha
    clear hg ha
    have C := (HB.out.grow HG.out).facts
    simp only [CsF, Nat.zero_add, Nat.reduceAdd, and_true] at C
    have ht := TsA.lasts l _ _ _ HT.out HG.out
    by_cases hlt : k < l.length
    · obtain ⟨t, htk⟩ : ∃ t, l[k]? = some t := ⟨l[k], List.getElem?_eq_getElem hlt⟩
      obtain ⟨-, ht⟩ := ht
      rcases ht with ⟨e, -⟩ | ⟨b, o, cap', hsp, hb, hc⟩
      · rw [e] at hlt; simp at hlt
      have X := hc k t htk
      obtain ⟨hsp1, -, -⟩ : sp = some ⟨b, o, none⟩ ∧ l.length = l.length ∧ cap = cap' := by simpa using hsp
      subst hsp1
      clear hc hsp
      have hmem : t ∈ l := List.mem_of_getElem? htk
      have HN1 := Lib.hid (HNO.out t hmem)
      have htl : l.take (k + 1) = l.take k ++ [t] := by rw [List.take_add_one, htk]; rfl
      have HTL := Lib.hid htl
      clear htk hmem htl
      obtain ⟨xa, xb, xc, xd, xe, xf, xg, xh, xz⟩ := t
      replace X := CsF.nine X
      simp only at X
      cases h1 : (okSp (-4000) 4000 (xa, xb) && okSp (-4000) 4000 (xc, xd)) with
      | false =>
        have hvd : Th.valid ne fa ⟨xa, xb, xc, xd, xe, xf, xg, xh, xz⟩ = false := Th.valid_l h1
        have hr := Lib.hid (HX.out.symm.trans (HN1.out hvd))
        have H1 := Lib.hid h1
        clear hvd h1
        go_wp2_with (go_at_call 105; refine (rplace_is (v := false) (by simpa using H1.out) _).mono ?_; rintro e w1 ⟨rfl, hb1⟩; obtain ⟨hc1, hf1, hz1⟩ := bcell (hb1))
        go_ret
        exact ⟨by rw [hr.out]; rfl, bgr (bgr HW.out HW.out.size HG.out) (bgr HW.out HW.out.size HG.out).size ((Gr.alloc wr (Obj.cells #[.int .i64 xa, .int .i64 xb, .int .i64 xc, .int .i64 xd, .int .i64 xe, .int .i64 xf, .int .i64 xg, .int .i64 xh, .int .i64 xz] 52)).tr hb1)⟩
      | true =>
      cases h2 : (okSp (-4000) 4000 (xe, xf) && okSp (-4000) 4000 (xg, xh)) with
      | false =>
        have hvd : Th.valid ne fa ⟨xa, xb, xc, xd, xe, xf, xg, xh, xz⟩ = false := Th.valid_r h2
        have hr := Lib.hid (HX.out.symm.trans (HN1.out hvd))
        have H1 := Lib.hid h1
        have H2 := Lib.hid h2
        clear hvd h1 h2
        go_wp2_with (first | (go_at_call 105; refine (rplace_is (v := true) (by simpa using H1.out) _).mono ?_; rintro e w1 ⟨rfl, hb1⟩; obtain ⟨hc1, hf1, hz1⟩ := bcell (hb1)) | (go_at_call 105; refine (rplace_is (v := false) (by simpa using H2.out) _).mono ?_; rintro e w2 ⟨rfl, hb2⟩; obtain ⟨hc2, hf2, hz2⟩ := bcell (Gr.tr hb1 hb2)))
        go_ret
        exact ⟨by rw [hr.out]; rfl, bgr (bgr HW.out HW.out.size HG.out) (bgr HW.out HW.out.size HG.out).size (((Gr.alloc wr (Obj.cells #[.int .i64 xa, .int .i64 xb, .int .i64 xc, .int .i64 xd, .int .i64 xe, .int .i64 xf, .int .i64 xg, .int .i64 xh, .int .i64 xz] 52)).tr hb1).tr hb2)⟩
      | true =>
      have hpq : [(xa, xb), (xc, xd), (xe, xf), (xg, xh)].all (okSp (-4000) 4000) = true := by simp only [List.all_cons, List.all_nil, Bool.and_true]; rw [← Bool.and_assoc, h1, h2]; rfl
      have H1 := Lib.hid h1
      have H2 := Lib.hid h2
      have HPQ := Lib.hid hpq
      clear h1 h2 hpq
      by_cases hz : xz = 0
      · have z1 : (xz != 0) = false := by simpa using hz
        have hvd : Th.valid ne fa ⟨xa, xb, xc, xd, xe, xf, xg, xh, xz⟩ = true := by unfold Th.valid; rw [Bool.and_eq_true]; exact ⟨HPQ.out, by simp [hz]⟩
        have HVD := Lib.hid hvd
        clear hvd hz
        go_wp2_with (first | (go_at_call 105; refine (rplace_is (v := true) (by simpa using H1.out) _).mono ?_; rintro e w1 ⟨rfl, hb1⟩; obtain ⟨hc1, hf1, hz1⟩ := bcell (hb1)) | (go_at_call 105; refine (rplace_is (v := true) (by simpa using H2.out) _).mono ?_; rintro e w2 ⟨rfl, hb2⟩; obtain ⟨hc2, hf2, hz2⟩ := bcell (Gr.tr hb1 hb2)))
        exact ⟨⟨k + 1, by omega, by go_num, HG.out.tr (((Gr.alloc wr (Obj.cells #[.int .i64 xa, .int .i64 xb, .int .i64 xc, .int .i64 xd, .int .i64 xe, .int .i64 xf, .int .i64 xg, .int .i64 xh, .int .i64 xz] 52)).tr hb1).tr hb2), by rw [HTL.out, List.all_append, HA.out]; simp [HVD.out]⟩, by simp [intOf]; omega⟩
      · have z1 : (xz != 0) = true := by simpa using hz
        cases h3 : (decide (ne ≤ xz) && decide (xz ≤ fa)) with
        | false =>
          have hvd : Th.valid ne fa ⟨xa, xb, xc, xd, xe, xf, xg, xh, xz⟩ = false := by unfold Th.valid; rw [Bool.and_eq_false_iff, Bool.or_eq_false_iff]; exact .inr ⟨by simpa using hz, h3⟩
          have hr := Lib.hid (HX.out.symm.trans (HN1.out hvd))
          have H3 := Lib.hid h3
          clear hvd hz h3
          go_wp2_with (first | (go_at_call 105; refine (rplace_is (v := true) (by simpa using H1.out) _).mono ?_; rintro e w1 ⟨rfl, hb1⟩; obtain ⟨hc1, hf1, hz1⟩ := bcell (hb1)) | (go_at_call 105; refine (rplace_is (v := true) (by simpa using H2.out) _).mono ?_; rintro e w2 ⟨rfl, hb2⟩; obtain ⟨hc2, hf2, hz2⟩ := bcell (Gr.tr hb1 hb2)) | (go_at_call 106; refine (rin_is (v := false) (by simpa using H3.out) _).mono ?_; rintro e w3 ⟨rfl, hb3⟩; obtain ⟨hc3, hf3, hz3⟩ := bcell (Gr.tr (Gr.tr hb1 hb2) hb3)))
          go_ret
          exact ⟨by rw [hr.out]; rfl, bgr (bgr HW.out HW.out.size HG.out) (bgr HW.out HW.out.size HG.out).size ((((Gr.alloc wr (Obj.cells #[.int .i64 xa, .int .i64 xb, .int .i64 xc, .int .i64 xd, .int .i64 xe, .int .i64 xf, .int .i64 xg, .int .i64 xh, .int .i64 xz] 52)).tr hb1).tr hb2).tr hb3)⟩
        | true =>
          have hvd : Th.valid ne fa ⟨xa, xb, xc, xd, xe, xf, xg, xh, xz⟩ = true := by unfold Th.valid; rw [Bool.and_eq_true, Bool.or_eq_true]; exact ⟨HPQ.out, .inr h3⟩
          have HVD := Lib.hid hvd
          have H3 := Lib.hid h3
          clear hvd hz h3
          go_wp2_with (first | (go_at_call 105; refine (rplace_is (v := true) (by simpa using H1.out) _).mono ?_; rintro e w1 ⟨rfl, hb1⟩; obtain ⟨hc1, hf1, hz1⟩ := bcell (hb1)) | (go_at_call 105; refine (rplace_is (v := true) (by simpa using H2.out) _).mono ?_; rintro e w2 ⟨rfl, hb2⟩; obtain ⟨hc2, hf2, hz2⟩ := bcell (Gr.tr hb1 hb2)) | (go_at_call 106; refine (rin_is (v := true) (by simpa using H3.out) _).mono ?_; rintro e w3 ⟨rfl, hb3⟩; obtain ⟨hc3, hf3, hz3⟩ := bcell (Gr.tr (Gr.tr hb1 hb2) hb3)))
          exact ⟨⟨k + 1, by omega, by go_num, HG.out.tr ((((Gr.alloc wr (Obj.cells #[.int .i64 xa, .int .i64 xb, .int .i64 xc, .int .i64 xd, .int .i64 xe, .int .i64 xf, .int .i64 xg, .int .i64 xh, .int .i64 xz] 52)).tr hb1).tr hb2).tr hb3), by rw [HTL.out, List.all_append, HA.out]; simp [HVD.out]⟩, by simp [intOf]; omega⟩
    · have hkl : k = l.length := by omega
      have ha' : l.all (Th.valid ne fa) = true := by have := HA.out; rwa [hkl, List.take_length] at this
      have HYA := Lib.hid (fun h => HYES.out h ha')
      clear ha' ht
      cases hv : headValid fl fh bl bh ti ne fa l.length 5 with
      | false =>
        have d : decide ((l.length : Int) ≤ 12) = false := by simp [headValid] at hv ⊢; omega
        have d' : decide (l.length ≤ 12) = false := by simp [headValid] at hv ⊢; omega
        have hr := Lib.hid (HX.out.symm.trans (HP.out 5 (by omega) hv))
        have K5 := Lib.hid hv
        clear hv
        go_wp2_with fail
        go_ret
        exact ⟨by rw [hr.out]; rfl, bgr HW.out HW.out.size HG.out⟩
      | true =>
      have d : decide ((l.length : Int) ≤ 12) = true := by simp [headValid] at hv ⊢; omega
      have d' : decide (l.length ≤ 12) = true := by simp [headValid] at hv ⊢; omega
      have K5 := Lib.hid hv
      clear hv
      cases hv : headValid fl fh bl bh ti ne fa l.length 0 with
      | false =>
        have hr := Lib.hid (HX.out.symm.trans (HP.out 0 (by omega) hv))
        have K0 := Lib.hid hv
        clear hv
        go_wp2_with (first | (go_at_call 107; refine (rspan_is (v := false) (by simpa [headValid] using K0.out) _).mono ?_; rintro e w1 ⟨rfl, hb1⟩; obtain ⟨hc1, hf1, hz1⟩ := bcell (hb1)))
        go_ret
        exact ⟨by rw [hr.out]; rfl, bgr (bgr HW.out HW.out.size HG.out) (bgr HW.out HW.out.size HG.out).size (hb1)⟩
      | true =>
      have K0 := Lib.hid hv
      clear hv
      cases hv : headValid fl fh bl bh ti ne fa l.length 1 with
      | false =>
        have hr := Lib.hid (HX.out.symm.trans (HP.out 1 (by omega) hv))
        have K1 := Lib.hid hv
        clear hv
        go_wp2_with (first | (go_at_call 107; refine (rspan_is (v := true) (by simpa [headValid] using K0.out) _).mono ?_; rintro e w1 ⟨rfl, hb1⟩; obtain ⟨hc1, hf1, hz1⟩ := bcell (hb1)) | (go_at_call 107; refine (rspan_is (v := false) (by simpa [headValid] using K1.out) _).mono ?_; rintro e w2 ⟨rfl, hb2⟩; obtain ⟨hc2, hf2, hz2⟩ := bcell (Gr.tr (hb1) hb2)))
        go_ret
        exact ⟨by rw [hr.out]; rfl, bgr (bgr HW.out HW.out.size HG.out) (bgr HW.out HW.out.size HG.out).size (Gr.tr (hb1) hb2)⟩
      | true =>
      have K1 := Lib.hid hv
      clear hv
      cases hv : headValid fl fh bl bh ti ne fa l.length 2 with
      | false =>
        have hr := Lib.hid (HX.out.symm.trans (HP.out 2 (by omega) hv))
        have K2 := Lib.hid hv
        clear hv
        go_wp2_with (first | (go_at_call 107; refine (rspan_is (v := true) (by simpa [headValid] using K0.out) _).mono ?_; rintro e w1 ⟨rfl, hb1⟩; obtain ⟨hc1, hf1, hz1⟩ := bcell (hb1)) | (go_at_call 107; refine (rspan_is (v := true) (by simpa [headValid] using K1.out) _).mono ?_; rintro e w2 ⟨rfl, hb2⟩; obtain ⟨hc2, hf2, hz2⟩ := bcell (Gr.tr (hb1) hb2)) | (go_at_call 106; refine (rin_is (v := false) (by simpa [headValid] using K2.out) _).mono ?_; rintro e w3 ⟨rfl, hb3⟩; obtain ⟨hc3, hf3, hz3⟩ := bcell (Gr.tr (Gr.tr (hb1) hb2) hb3)))
        go_ret
        exact ⟨by rw [hr.out]; rfl, bgr (bgr HW.out HW.out.size HG.out) (bgr HW.out HW.out.size HG.out).size (Gr.tr (Gr.tr (hb1) hb2) hb3)⟩
      | true =>
      have K2 := Lib.hid hv
      clear hv
      cases hv : headValid fl fh bl bh ti ne fa l.length 3 with
      | false =>
        have hr := Lib.hid (HX.out.symm.trans (HP.out 3 (by omega) hv))
        have K3 := Lib.hid hv
        clear hv
        go_wp2_with (first | (go_at_call 107; refine (rspan_is (v := true) (by simpa [headValid] using K0.out) _).mono ?_; rintro e w1 ⟨rfl, hb1⟩; obtain ⟨hc1, hf1, hz1⟩ := bcell (hb1)) | (go_at_call 107; refine (rspan_is (v := true) (by simpa [headValid] using K1.out) _).mono ?_; rintro e w2 ⟨rfl, hb2⟩; obtain ⟨hc2, hf2, hz2⟩ := bcell (Gr.tr (hb1) hb2)) | (go_at_call 106; refine (rin_is (v := true) (by simpa [headValid] using K2.out) _).mono ?_; rintro e w3 ⟨rfl, hb3⟩; obtain ⟨hc3, hf3, hz3⟩ := bcell (Gr.tr (Gr.tr (hb1) hb2) hb3)) | (go_at_call 106; refine (rin_is (v := false) (by simpa [headValid] using K3.out) _).mono ?_; rintro e w4 ⟨rfl, hb4⟩; obtain ⟨hc4, hf4, hz4⟩ := bcell (Gr.tr (Gr.tr (Gr.tr (hb1) hb2) hb3) hb4)))
        go_ret
        exact ⟨by rw [hr.out]; rfl, bgr (bgr HW.out HW.out.size HG.out) (bgr HW.out HW.out.size HG.out).size (Gr.tr (Gr.tr (Gr.tr (hb1) hb2) hb3) hb4)⟩
      | true =>
      have K3 := Lib.hid hv
      clear hv
      cases hv : headValid fl fh bl bh ti ne fa l.length 4 with
      | false =>
        have hr := Lib.hid (HX.out.symm.trans (HP.out 4 (by omega) hv))
        have K4 := Lib.hid hv
        clear hv
        go_wp2_with (first | (go_at_call 107; refine (rspan_is (v := true) (by simpa [headValid] using K0.out) _).mono ?_; rintro e w1 ⟨rfl, hb1⟩; obtain ⟨hc1, hf1, hz1⟩ := bcell (hb1)) | (go_at_call 107; refine (rspan_is (v := true) (by simpa [headValid] using K1.out) _).mono ?_; rintro e w2 ⟨rfl, hb2⟩; obtain ⟨hc2, hf2, hz2⟩ := bcell (Gr.tr (hb1) hb2)) | (go_at_call 106; refine (rin_is (v := true) (by simpa [headValid] using K2.out) _).mono ?_; rintro e w3 ⟨rfl, hb3⟩; obtain ⟨hc3, hf3, hz3⟩ := bcell (Gr.tr (Gr.tr (hb1) hb2) hb3)) | (go_at_call 106; refine (rin_is (v := true) (by simpa [headValid] using K3.out) _).mono ?_; rintro e w4 ⟨rfl, hb4⟩; obtain ⟨hc4, hf4, hz4⟩ := bcell (Gr.tr (Gr.tr (Gr.tr (hb1) hb2) hb3) hb4)) | (go_at_call 106; refine (rin_is (v := false) (by simpa [headValid] using K4.out) _).mono ?_; rintro e w5 ⟨rfl, hb5⟩; obtain ⟨hc5, hf5, hz5⟩ := bcell (Gr.tr (Gr.tr (Gr.tr (Gr.tr (hb1) hb2) hb3) hb4) hb5)))
        go_ret
        exact ⟨by rw [hr.out]; rfl, bgr (bgr HW.out HW.out.size HG.out) (bgr HW.out HW.out.size HG.out).size (Gr.tr (Gr.tr (Gr.tr (Gr.tr (hb1) hb2) hb3) hb4) hb5)⟩
      | true =>
      have K4 := Lib.hid hv
      clear hv
      have hr := Lib.hid (HX.out.symm.trans (HYA.out (fun k hk => by
        match k, hk with
        | 0, _ => exact K0.out
        | 1, _ => exact K1.out
        | 2, _ => exact K2.out
        | 3, _ => exact K3.out
        | 4, _ => exact K4.out
        | 5, _ => exact K5.out)))
      go_wp2_with (first | (go_at_call 107; refine (rspan_is (v := true) (by simpa [headValid] using K0.out) _).mono ?_; rintro e w1 ⟨rfl, hb1⟩; obtain ⟨hc1, hf1, hz1⟩ := bcell (hb1)) | (go_at_call 107; refine (rspan_is (v := true) (by simpa [headValid] using K1.out) _).mono ?_; rintro e w2 ⟨rfl, hb2⟩; obtain ⟨hc2, hf2, hz2⟩ := bcell (Gr.tr (hb1) hb2)) | (go_at_call 106; refine (rin_is (v := true) (by simpa [headValid] using K2.out) _).mono ?_; rintro e w3 ⟨rfl, hb3⟩; obtain ⟨hc3, hf3, hz3⟩ := bcell (Gr.tr (Gr.tr (hb1) hb2) hb3)) | (go_at_call 106; refine (rin_is (v := true) (by simpa [headValid] using K3.out) _).mono ?_; rintro e w4 ⟨rfl, hb4⟩; obtain ⟨hc4, hf4, hz4⟩ := bcell (Gr.tr (Gr.tr (Gr.tr (hb1) hb2) hb3) hb4)) | (go_at_call 106; refine (rin_is (v := true) (by simpa [headValid] using K4.out) _).mono ?_; rintro e w5 ⟨rfl, hb5⟩; obtain ⟨hc5, hf5, hz5⟩ := bcell (Gr.tr (Gr.tr (Gr.tr (Gr.tr (hb1) hb2) hb3) hb4) hb5)))
      go_ret
      exact ⟨by rw [hr.out]; rfl, bgr (bgr HW.out HW.out.size HG.out) (bgr HW.out HW.out.size HG.out).size (Gr.tr (Gr.tr (Gr.tr (Gr.tr (hb1) hb2) hb3) hb4) hb5)⟩
end Go.Proofs.YtcngaohfemdfjaaGreat
namespace Go.Proofs.YtcngaohfemdfjaaGreat
open Go.RowKit
theorem shift_is {p : Pr} {v : Value} {k x y e : Int} {w : World} (h : p.shift k = (x, y, e)) (hT : TsA p.l v w) :
    Calls Tryz.prog 35 #[.agg #[.int .i64 p.fl, .int .i64 p.fh, .int .i64 p.bl, .int .i64 p.bh, .int .i64 p.ti, .int .i64 p.ne, .int .i64 p.fa, v], .int .i64 k] w fun e' w' => e' = .returned (.tuple #[.agg #[.int .i64 x, .int .i64 y], .int .i64 e]) ∧ Below w.heap.size w w' := by
  have := Shift_spec p v k w hT
  rw [h] at this
  exact this
theorem power_is {p : Pr} {v : Value} {x y e : Int} {w : World} (h : p.power = (x, y, e)) (hT : TsA p.l v w) :
    Calls Tryz.prog 45 #[.agg #[.int .i64 p.fl, .int .i64 p.fh, .int .i64 p.bl, .int .i64 p.bh, .int .i64 p.ti, .int .i64 p.ne, .int .i64 p.fa, v]] w fun e' w' => e' = .returned (.tuple #[.agg #[.int .i64 x, .int .i64 y], .int .i64 e]) ∧ Below w.heap.size w w' := by
  have := Power_spec p v  w hT
  rw [h] at this
  exact this
theorem stands_is {p : Pr} {v : Value} {z x y e : Int} {w : World} (h : p.stands z = (x, y, e)) (hT : TsA p.l v w) :
    Calls Tryz.prog 38 #[.agg #[.int .i64 p.fl, .int .i64 p.fh, .int .i64 p.bl, .int .i64 p.bh, .int .i64 p.ti, .int .i64 p.ne, .int .i64 p.fa, v], .int .i64 z] w fun e' w' => e' = .returned (.tuple #[.agg #[.int .i64 x, .int .i64 y], .int .i64 e]) ∧ Below w.heap.size w w' := by
  have := Stands_spec p v z w hT
  rw [h] at this
  exact this
theorem why_is {p : Pr} {v : Value} {k x e : Int} {w : World} (h : p.why k = (x, e)) (hT : TsA p.l v w) :
    Calls Tryz.prog 32 #[.agg #[.int .i64 p.fl, .int .i64 p.fh, .int .i64 p.bl, .int .i64 p.bh, .int .i64 p.ti, .int .i64 p.ne, .int .i64 p.fa, v], .int .i64 k] w fun e' w' => e' = .returned (.tuple #[.int .i64 x, .int .i64 e]) ∧ Below w.heap.size w w' := by
  have := Why_spec p v k w hT
  rw [h] at this
  exact this
theorem rpair_is {p : Pr} {v : Value} {b : Bool} {w : World} (h : p.ok = b) (hT : TsA p.l v w) :
    Calls Tryz.prog 67 #[.agg #[.int .i64 p.fl, .int .i64 p.fh, .int .i64 p.bl, .int .i64 p.bh, .int .i64 p.ti, .int .i64 p.ne, .int .i64 p.fa, v]] w fun e' w' => e' = .returned (.bool b) ∧ Below w.heap.size w w' := by
  rw [← h]; exact rpair_any _ _ _ _ _ _ _ _ p.l w hT
end Go.Proofs.YtcngaohfemdfjaaGreat
namespace Go.Proofs.YtcngaohfemdfjaaGreat
open Go.RowKit
theorem TsA.below {l : List Th} {v : Value} {w w' : World} {B : Nat} (h : TsA l v w) (hB : w.heap.size = B) (hb : Below B w w') : TsA l v w' := by
  subst hB
  exact TsA.lasts l _ _ _ h hb
end Go.Proofs.YtcngaohfemdfjaaGreat
namespace Go.Proofs.YtcngaohfemdfjaaGreat
open Go.RowKit
theorem wpListIn_stopLoad {F : Fence} {m : Nat} {P : Program} {ops : Array Oper} {rest : List Oper} {o : Oper} {a : Act} {w : World} {Q : Exit → Act → World → Prop} {ty : TypeId} {x : Operand} (_ : o.op = .load ty x) (h : Stop (wpListIn F m P ops Q (o :: rest) a w)) : wpListIn F m P ops Q (o :: rest) a w := h
theorem wpListIn_loadPart {F : Fence} {m : Nat} {P : Program} {ops : Array Oper} {rest : List Oper} {o : Oper} {a : Act} {w : World} {Q : Exit → Act → World → Prop} {vs us : List Value} {T ty : TypeId} {x : Operand} {g i n : Nat} (hr : rowOf P ty n = true) (hn : us.length = n) (hg : Box w g vs T) (hu : (vs.drop i).take n = us)
    (ho : o.op = .load ty x) (hgd : o.guard = none) (hx : a.eval x = .pointer (some ⟨g, i, none⟩))
    (h : wpListIn F m P ops Q rest (a.put o.dst (.agg us.toArray)) w) : wpListIn F m P ops Q (o :: rest) a w := by
  refine wpListIn_plain hgd fun K hK => ⟨fun f hf => by simp [Oper.about, ho] at hf, ?_⟩
  rw [Oper.semAt_eq _ _ _ (fun c => by rw [ho]; exact fun h => by cases h), exec_loadPart hr hn hg hu ho hx]
  exact hK _ _ h
theorem wpListIn_loadPartG {F : Fence} {m : Nat} {P : Program} {ops : Array Oper} {rest : List Oper} {o : Oper} {a : Act} {w : World} {Q : Exit → Act → World → Prop} {vs us : List Value} {T ty : TypeId} {x : Operand} {g i n : Nat} (hr : rowOf P ty n = true) (hn : us.length = n) (hg : Box w g vs T) (hu : (vs.drop i).take n = us)
    (ho : o.op = .load ty x) (hw : Region.wanted o (yielded ops a.tmps) = true) (hx : a.eval x = .pointer (some ⟨g, i, none⟩))
    (h : wpListIn F m P ops Q rest (a.put o.dst (.agg us.toArray)) w) : wpListIn F m P ops Q (o :: rest) a w := by
  refine BigFrame.wpListIn_want hw fun K hK => ⟨fun f hf => by simp [Oper.about, ho] at hf, ?_⟩
  rw [Oper.semAt_eq _ _ _ (fun c => by rw [ho]; exact fun h => by cases h), exec_loadPart hr hn hg hu ho hx]
  exact hK _ _ h
end Go.Proofs.YtcngaohfemdfjaaGreat
namespace Go.Proofs.YtcngaohfemdfjaaGreat
open Go.RowKit Go.Shelf
def SeqStopsP {α : Type} (F : Fence) (n : Nat) (P : Program) (g : Nat) (lb : Array Value) (encs : α → Array Value) (Kp : World → World → Prop) (S Sp : List α → Prop) (N B : Nat) (w : World) : Prop :=
  ∀ (y : Nat) (J Jx : List α → World → Prop) (W : World), Gr w W → B ≤ W.heap.size → OwnFrom W.heap.size J → OwnFrom W.heap.size Jx →
    (∀ pre x A, J pre A → pre.length < N → YieldAt F (n - 1) P y (encs x) A fun e B =>
      (e = .returned (.bool true) ∧ J (pre ++ [x]) B ∧ Kp A B) ∨ (e = .returned (.bool false) ∧ Jx (pre ++ [x]) B ∧ Kp A B)) →
    J [] W → CallsIn F n P g (#[.func (.yield y) #[] #[]] ++ lb) W fun e B => (∃ v, e = .returned v) ∧ ((∃ xs, S xs ∧ J xs B) ∨ (∃ pre, Sp pre ∧ Jx pre B))
section
variable {F : Fence} {n : Nat} {P : Program}
def ownPostX {α : Type} (B : Nat) (Kp : World → World → Prop) (I : List α → World → Prop) (Ix : Code → List α → World → Prop) (xs : List α) (W : World) : Exit → Act → World → Prop
  | .normal, _, W' => KeepsFrom B W W' ∧ Kp W W' ∧ I xs W'
  | .ret, _, W' => KeepsFrom B W W' ∧ Kp W W' ∧ Ix .ret xs W'
  | .exit id, _, W' => KeepsFrom B W W' ∧ Kp W W' ∧ Ix (.exit id) xs W'
  | .goto t, _, W' => KeepsFrom B W W' ∧ Kp W W' ∧ Ix (.goto t) xs W'
  | .panic _, _, _ => False
  | .outgrown, _, _ => False
theorem wpIn_rangeOwn2 {α : Type} {g : Operand} {ps : Array Tmp} {assign body : Code} {Q : Exit → Act → World → Prop} {a : Act} {w : World}
    (hro : F.round = none) (h1 : 1 ≤ n) {gf : Nat} {lb : Array Value} (hg : a.eval g = .func (.func gf) #[] lb) (hFg : F.fn gf) (eg : ∀ args w, (callFunc gf args).run P w = .ok (.enter gf args) w)
    {encs : α → Array Value} {Kp : World → World → Prop} {S Sp : List α → Prop} {N : Nat} {w0 : World} (hseq : SeqStopsP F (n - 1) P gf lb encs Kp S Sp N (w.heap.size + 2) w0) (hw0 : Gr w0 w)
    (hKt : ∀ {A B C : World}, Kp A B → Kp B C → Kp A C) (hKb : ∀ (W : World) (o' : Obj), Kp W (W.putObj (w.heap.size + 1) o')) (hps : ∀ x, (encs x).size = ps.size)
    (I : List α → World → Prop) (Ix : Code → List α → World → Prop) (hI : OwnFrom w.heap.size I) (hIx : ∀ c, OwnFrom w.heap.size (Ix c)) (h0 : I [] w)
    (Ax : α → Act → World → Prop) (hAx : ∀ x a', OwnFrom w.heap.size (fun (_ : Unit) W => Ax x a' W))
    (hassign : ∀ (l : Nat) (pre : List α) (x : α) (W : World) (K : Act → World → Prop), I pre W → (∀ a' W', KeepsFrom w.heap.size W W' → Kp W W' → I pre W' → Ax x a' W' → K a' W') →
      assign.wpIn (F.inRound l) (n - 1 - 1) P (Exit.then K (fun _ _ _ => False)) { tmps := (ps.zip (encs x)).foldl (fun t (p, v) => t.setIfInBounds p v) a.tmps, defers := [] } W)
    (hbody : ∀ (l : Nat) (pre : List α) (x : α) (a' : Act) (W : World), w.heap.size ≤ l → (∃ r, W.heap[l]? = some (.loop r)) → I pre W → Ax x a' W → pre.length < N → body.wpIn (F.inRound l) (n - 1 - 1) P (ownPostX w.heap.size Kp I Ix (pre ++ [x]) W) a' W)
    (hdone : ∀ (D : Nat) (xs : List α) (W : World), w.heap.size ≤ D → S xs → I xs W → W.heap[D]? = some (.deferred (some [])) → Q .normal { a with defers := { target := .collected D, args := #[] } :: a.defers } W)
    (hstop : ∀ (D : Nat) (c : Code) (pre : List α) (W : World), w.heap.size ≤ D → Sp pre → Ix c pre W → W.heap[D]? = some (.deferred (some [])) → c.wpIn F n P Q { a with defers := { target := .collected D, args := #[] } :: a.defers } W) :
    (Code.rangeFunc g ps assign body).wpIn F n P Q a w := by
  refine wpIn_rangeFunc fun fn hfn => ?_
  rw [hro]
  have hrun := run_enterLoop_outer (P := P) (w := w) fn a.tmps ps assign body
  generalize hD : w.heap.size = D at *
  obtain ⟨rec, hrec⟩ : ∃ rec : LoopState → Option Code → Loop, rec = fun st pe => { state := st, pending := pe, fn, tmps := a.tmps, params := ps, assign, body, defers := D } := ⟨_, rfl⟩
  obtain ⟨W1, hW1⟩ : ∃ W1, (w.alloc (.deferred (some []))).alloc (.loop (rec .ready none)) = W1 := ⟨_, rfl⟩
  have hsz : W1.heap.size = D + 2 := by rw [← hW1]; simp [hD]
  have hk1 : Kept D (rec .ready none) W1 := by
    rw [← hW1, ← hD]
    refine ⟨?_, (Below.heap_alloc _ _ _ (by simp)).trans (World.alloc_heap_new w _)⟩
    have := World.alloc_heap_new (w.alloc (.deferred (some []))) (.loop (rec .ready none))
    rwa [World.size_alloc] at this
  have hi1 : I [] W1 := by rw [← hW1]; exact hI.alloc _ (hI.alloc _ h0)
  have hg1 : Gr w0 W1 := by rw [← hW1]; exact (hw0.tr (Gr.alloc _ _)).tr (Gr.alloc _ _)
  have hst : ∀ (st : LoopState) (pe : Option Code), ({ state := st, pending := pe, fn, tmps := a.tmps, params := ps, assign, body, defers := D } : Loop) = rec st pe := fun st pe => by rw [hrec]
  refine ⟨D + 1, [{ target := .collected D, args := #[] }], W1, { target := .fn (.func gf) lb, args := #[.func (.yield (D + 1)) #[] #[]] }, W1, gf, #[.func (.yield (D + 1)) #[] #[]] ++ lb, W1, ?_, ?_, ?_, ?_, fun _ => h1, ?_⟩
  · rw [hrun, ← hW1, ← hst]
  · simp only [resolve, hg]
    simp [go_sem]
  · intro f' hf'; simp [Target.leads] at hf'; subst hf'; exact hFg
  · simp [invoke, go_sem, eg]
  have own : ∀ {row : Option Nat} {A : World}, (∀ r, row = some r → W1.heap.size ≤ r ∧ ∃ o : Obj, A.heap[r]? = some o ∧ o.isCells = false) → (∀ r, row = some r → D ≤ r ∧ ∃ o : Obj, A.heap[r]? = some o ∧ o.isCells = false) := fun h r e => ⟨by have := (h r e).1; omega, (h r e).2⟩
  refine (hseq (D + 1) (fun pre W => I pre W ∧ Kept D (rec .ready none) W) (fun pre W => ∃ c, Ix c pre W ∧ Kept D (rec .done (some c)) W) W1 hg1 (by omega)
    (fun s A B row h hgr hr => ⟨hI s A B row h.1 hgr (own hr), h.2.grown hgr fun i e => by have := (hr i e).1; omega⟩)
    (fun s A B row ⟨c, h, hk⟩ hgr hr => ⟨c, hIx c s A B row h hgr (own hr), hk.grown hgr fun i e => by have := (hr i e).1; omega⟩)
    ?_ ⟨hi1, hk1⟩).mono ?_
  · rintro pre x W ⟨hi, hk⟩ hlen
    have hy := run_yield (P := P) (args := encs x) hk.record (by rw [hrec]; exact hps x)
    rw [hrec] at hy
    refine ⟨fn, _, assign, body, hy, roundIn_of_wpIn hfn (hassign _ pre x W _ hi fun a' A hka hpa hia hax => ?_)⟩
    have hkA := hk.from hka
    refine ⟨_, run_beginRound hkA.record (by rw [hrec]), ?_⟩
    have hkB := hkA.turn { rec .ready none with state := .busy }
    have hpB := hpa |> fun h => hKt h (hKb A (.loop { rec .ready none with state := .busy }))
    refine wpIn_mono (hbody _ pre x a' _ (by omega) ⟨_, hkB.record⟩ (hI.putObj _ hia (by omega) hkA.record rfl) ((hAx x a').putObj (s := ()) _ hax (by omega) hkA.record rfl) hlen) ?_
    have leave : ∀ (jump : Option Code) (C : World), KeepsFrom D (A.putObj (D + 1) (.loop { rec .ready none with state := .busy })) C →
        (Instr.endRound (D + 1) jump).run P C = .ok (.bool jump.isNone) (C.putObj (D + 1) (.loop (rec (if jump.isNone then .ready else .done) jump))) ∧
        Kept D (rec (if jump.isNone then .ready else .done) jump) (C.putObj (D + 1) (.loop (rec (if jump.isNone then .ready else .done) jump))) ∧ C.heap[D + 1]? = some (.loop { rec .ready none with state := .busy }) := fun jump C hC => by
      have hkC := hkB.from hC
      have h := run_endRound (P := P) jump hkC.record
      have ht := hkC.turn (rec (if jump.isNone then .ready else .done) jump)
      refine ⟨?_, ht, hkC.record⟩
      rw [hrec] at h ⊢
      exact h
    rintro e a3 C hp
    cases e with
    | normal =>
      obtain ⟨hC, hpC, hiC⟩ := hp
      obtain ⟨hr, hkC, hrC⟩ := leave none C hC
      exact ⟨_, _, hr, .inl ⟨rfl, ⟨hI.putObj _ hiC (by omega) hrC rfl, hkC⟩, hKt (hKt hpB hpC) (hKb _ _)⟩⟩
    | ret =>
      obtain ⟨hr, hkC, hrC⟩ := leave (some .ret) C hp.1
      exact ⟨_, _, hr, .inr ⟨rfl, ⟨.ret, (hIx _).putObj _ hp.2.2 (by omega) hrC rfl, hkC⟩, hKt (hKt hpB hp.2.1) (hKb _ _)⟩⟩
    | exit id =>
      obtain ⟨hr, hkC, hrC⟩ := leave (some (.exit id)) C hp.1
      exact ⟨_, _, hr, .inr ⟨rfl, ⟨.exit id, (hIx _).putObj _ hp.2.2 (by omega) hrC rfl, hkC⟩, hKt (hKt hpB hp.2.1) (hKb _ _)⟩⟩
    | goto t =>
      obtain ⟨hr, hkC, hrC⟩ := leave (some (.goto t)) C hp.1
      exact ⟨_, _, hr, .inr ⟨rfl, ⟨.goto t, (hIx _).putObj _ hp.2.2 (by omega) hrC rfl, hkC⟩, hKt (hKt hpB hp.2.1) (hKb _ _)⟩⟩
    | panic ch => exact hp.elim
    | outgrown => exact hp.elim
  · have fin : ∀ (pe : Option Code) (st : LoopState) (C : World), st ≠ .busy → Kept D (rec st pe) C → ∃ C', (Instr.endLoop (D + 1)).run P C = .ok pe C' ∧ ∃ o, C' = C.putObj (D + 1) o := fun pe st C hs hk => by
      have h := run_endLoop (P := P) hk.record (by rw [hrec]; simpa using hs)
      have hp : (rec st pe).pending = pe := by rw [hrec]
      rw [hp] at h
      exact ⟨_, h, _, rfl⟩
    rintro e C ⟨⟨v, rfl⟩, (⟨xs, hS, hi, hk⟩ | ⟨pre, hSp, c, hi, hk⟩)⟩
    · obtain ⟨C', hr, ob, rfl⟩ := fin none .ready C (by simp) hk
      exact ⟨none, _, hr, hdone _ xs _ (Nat.le_refl _) hS (hI.putObj _ hi (by omega) hk.record rfl) ((World.putObj_heap_other (by omega)).trans hk.calls)⟩
    · obtain ⟨C', hr, ob, rfl⟩ := fin (some c) .done C (by simp) hk
      exact ⟨some c, _, hr, hstop _ c pre _ (Nat.le_refl _) hSp ((hIx c).putObj _ hi (by omega) hk.record rfl) ((World.putObj_heap_other (by omega)).trans hk.calls)⟩
end
end Go.Proofs.YtcngaohfemdfjaaGreat
