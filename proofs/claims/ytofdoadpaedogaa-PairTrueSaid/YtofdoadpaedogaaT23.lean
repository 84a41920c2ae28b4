import Derived.Test.YtofdoadpaedogaaT22
import Derived.Test.YtofdoadpaedogaaT19
import Derived.Laws.StructEq
import Derived.RangeFuncFrom
import Derived.RangeFuncNested
import Derived.RangeFuncBound
import Derived.RangeFuncCalls
import Derived.RangeFuncLeaves
import Derived.Shelf.Abstract
import Derived.Shelf.RegionOpen
import Derived.OwnWalkIn
import Derived.TacticsInMore
import Derived.LoopNIn
import Derived.LoopIn
namespace Go.Proofs.Ytofdoadpaedogaa
open Go.RowKit Go.Shelf
attribute [local go_sem] Oper.semAt_some

theorem eq92 (a b c d : Int) (w : World) : (binOp .eql 92 (.agg #[.int .i64 a, .int .i64 b]) (.agg #[.int .i64 c, .int .i64 d])).run Try.prog w = .ok (.bool (a == c && b == d)) w := by
  have hS : Try.prog.underlying 92 = some (.struct (Try.prog.fieldsOf 92)) := by kernel_rfl
  rw [run_eql_struct, run_equalIn_agg _ _ _ _ _ hS (by kernel_rfl)]
  simp only [Program.fieldsOf, Try.underlying92]
  simp [Op.eqFields, go_sem]
  by_cases h1 : a = c <;> by_cases h2 : b = d <;> simp [h1, h2]
theorem eqg92 (x y : Operand) (xs ys : Array Value) (w : World) : (eqGuard .eql 92 x y (.agg xs) (.agg ys)).run Try.prog w = .ok () w := run_eqGuard_agg w _ _ _ _ _ _ (by kernel_rfl)
theorem eq23 (a b c d : Int) (w : World) : (binOp .eql 23 (.agg #[.int .i64 a, .int .i64 b]) (.agg #[.int .i64 c, .int .i64 d])).run Try.prog w = .ok (.bool (a == c && b == d)) w := by
  have hS : Try.prog.underlying 23 = some (.struct (Try.prog.fieldsOf 23)) := by kernel_rfl
  rw [run_eql_struct, run_equalIn_agg _ _ _ _ _ hS (by kernel_rfl)]
  simp only [Program.fieldsOf, Try.underlying23]
  simp [Op.eqFields, go_sem]
  by_cases h1 : a = c <;> by_cases h2 : b = d <;> simp [h1, h2]
theorem eqg23 (x y : Operand) (xs ys : Array Value) (w : World) : (eqGuard .eql 23 x y (.agg xs) (.agg ys)).run Try.prog w = .ok () w := run_eqGuard_agg w _ _ _ _ _ _ (by kernel_rfl)

structure Best where
  many : Int
  moved : Int
  lo : Int
  hi : Int
def befB (m1 s1 m2 s2 : Int) : Bool := if m1 = m2 then decide (s1 < s2) else decide (m1 < m2)
theorem before_bef (m1 s1 m2 s2 : Int) (w : World) : Calls Try.prog 84 #[.agg #[.int .i64 m1, .int .i64 s1], .agg #[.int .i64 m2, .int .i64 s2]] w fun e w' => e = .returned (.bool (befB m1 s1 m2 s2)) ∧ Below w.heap.size w w' := before_any m1 s1 m2 s2 w
/-- The best set so far, when a power more is tried. -/
def Best.take (l : List Sg) (b : Best) (x : Int) : Best :=
  if ((cnt (movedTo l x l.length) : Nat) : Int) = b.many ∧ ((movedTo l x l.length : Nat) : Int) = b.moved then { b with lo := imin b.lo x, hi := imax b.hi x }
  else if befB (cnt (movedTo l x l.length) : Nat) (movedTo l x l.length : Nat) b.many b.moved then ⟨(cnt (movedTo l x l.length) : Nat), (movedTo l x l.length : Nat), x, x⟩ else b
def Best.of (l : List Sg) (xs : List Int) : Best := xs.foldl (Best.take l) ⟨l.length + 1, 0, 0, 0⟩
theorem Best.of_snoc (l : List Sg) (xs : List Int) (x : Int) : Best.of l (xs ++ [x]) = (Best.of l xs).take l x := by simp [Best.of]
def Best.vals (b : Best) : List Value := [.int .i64 b.many, .int .i64 b.moved, .int .i64 b.lo, .int .i64 b.hi]
theorem Box.own {W W' : World} {row : Option Nat} {b : Nat} {vs : List Value} {T : TypeId} (h : Box W b vs T) (hg : W.grownBy W' row) (hr : ∀ r, row = some r → ∃ o : Obj, W.heap[r]? = some o ∧ o.isCells = false) : Box W' b vs T :=
  h.grown hg fun e => by
    obtain ⟨o, ho, hc⟩ := hr b e.symm
    unfold Box at h
    rw [h] at ho
    cases ho
    cases hc
theorem SeenAt.ownb {W W' : World} {row : Option Nat} {l : List Sg} {v : Value} (h : SeenAt l v W) (hg : W.grownBy W' row) (hr : ∀ r, row = some r → ∃ o : Obj, W.heap[r]? = some o ∧ o.isCells = false) : SeenAt l v W' := by
  rcases h with h | ⟨b, o, cap, h1, h2, h3, h4⟩
  · exact .inl h
  · refine .inr ⟨b, o, cap, h1, Nat.lt_of_lt_of_le h2 hg.size, h3, fun i s hi => ?_⟩
    have ⟨x1, x2, x3, x4⟩ := h4 i s hi
    exact ⟨cell_kept x1 hg hr, cell_kept x2 hg hr, cell_kept x3 hg hr, cell_kept x4 hg hr⟩
theorem KeepBut.putObj {q : Nat} {w : World} (W : World) (l : Nat) (o o' : Obj) (_ : w.heap.size ≤ l) (h : W.heap[l]? = some o) (hc : o.isCells = false) (_ : o.isWalk = false) : KeepBut q W (W.putObj l o') :=
  ⟨(grownBy_putObj' W l o').size, fun k x _ hk hx => by
    refine ((grownBy_putObj' W l o').block k (Array.getElem?_eq_some_iff.1 hk).1 fun e => ?_).trans hk
    have e' : l = k := (Option.some.inj e).symm
    subst e'
    rw [h] at hk
    cases hk
    rw [hc] at hx
    cases hx⟩
theorem keepsOthers_of_gr {A B : World} (h : Gr A B) : KeepsOthers A B := ⟨h.size, fun k _o hk _ => (h.block k (Array.getElem?_eq_some_iff.1 hk).1).trans hk⟩
theorem KeepBut.set (W : World) (q i : Nat) (v : Value) : KeepBut q W (W.setCell ⟨q, i, none⟩ v) :=
  ⟨by simp, fun k o hq hk _ => (Below.heap_setCell _ _ _ _ (by simpa using hq)).trans hk⟩
theorem Box.eleven {w : World} {b : Nat} {x0 x1 x2 x3 x4 x5 x6 x7 x8 x9 x10 : Value} {T : TypeId} (h : Box w b [x0, x1, x2, x3, x4, x5, x6, x7, x8, x9, x10] T) :
    w.cell? ⟨b, 0, none⟩ = some x0 ∧ w.cell? ⟨b, 1, none⟩ = some x1 ∧ w.cell? ⟨b, 2, none⟩ = some x2 ∧ w.cell? ⟨b, 3, none⟩ = some x3 ∧ w.cell? ⟨b, 4, none⟩ = some x4 ∧ w.cell? ⟨b, 5, none⟩ = some x5 ∧ w.cell? ⟨b, 6, none⟩ = some x6 ∧ w.cell? ⟨b, 7, none⟩ = some x7 ∧ w.cell? ⟨b, 8, none⟩ = some x8 ∧ w.cell? ⟨b, 9, none⟩ = some x9 ∧ w.cell? ⟨b, 10, none⟩ = some x10 :=
  ⟨h.cell rfl, h.cell rfl, h.cell rfl, h.cell rfl, h.cell rfl, h.cell rfl, h.cell rfl, h.cell rfl, h.cell rfl, h.cell rfl, h.cell rfl⟩
set_option maxRecDepth 100000 in
set_option maxHeartbeats 4000000 in
theorem fewest_ok (fl fh bl bh ti ne fa : Int) (th sv : Value) (plo phi : Int) (l : List Sg) (w : World) (h : SeenAt l sv w) (hl : l.length ≤ 12) (hok : ∀ s ∈ l, s.ok) (hpp : plo ≤ phi) :
    Calls Try.prog 64 #[.agg #[.int .i64 fl, .int .i64 fh, .int .i64 bl, .int .i64 bh, .int .i64 ti, .int .i64 ne, .int .i64 fa, th, sv, .int .i64 plo, .int .i64 phi]] w fun e w' => e = .returned (.agg #[.int .i64 (Best.of l (triesList plo phi l)).many, .int .i64 (Best.of l (triesList plo phi l)).moved, .int .i64 (Best.of l (triesList plo phi l)).lo, .int .i64 (Best.of l (triesList plo phi l)).hi]) ∧ Below w.heap.size w w' := by
  obtain ⟨sp, cap, rfl, hlen⟩ := h.len
  have H := Lib.hid h
  have HOK := Lib.hid hok
  clear h hok
  refine (callsIn_wide (n := 9)).1 ?_
  refine callsIn_of_wp_marks Try.func64 rfl trivial ?_ rfl
  simp only [Try.ntmps64, List.size_toArray, List.length_cons, List.length_nil, Nat.reduceAdd, Nat.reduceSub, Array.replicate_succ, Array.replicate_zero, List.push_toArray, List.append_toArray, List.nil_append, List.cons_append]
  gi_wp2_with (refine ⟨trivial, ?_⟩; gi_at_call 81; refine (callsIn_wide.2 (tries_ok _ _ _ _ _ _ _ _ _ _ _ _ hpp)).mono ?_; rintro e w1 ⟨p, q, rfl, hBp, hBq, hpl, hql, hb1⟩)
  have hgw : Gr w w1 := (((Gr.alloc _ _).tr (Gr.alloc _ _)).tr (Gr.alloc _ _)).tr hb1
  have hqs : w.heap.size + 1 + 1 < w1.heap.size := by have := hb1.size; simp at this; omega
  have hpq : w.heap.size + 1 + 1 + 1 ≤ p := by simp at hpl; omega
  have hqq : w.heap.size + 1 + 1 + 1 ≤ q := by simp at hql; omega
  have hT0 : Box w1 w.heap.size [.int .i64 fl, .int .i64 fh, .int .i64 bl, .int .i64 bh, .int .i64 ti, .int .i64 ne, .int .i64 fa, th, .slice sp l.length cap, .int .i64 plo, .int .i64 phi] 70 := (((Box.fresh w [.int .i64 fl, .int .i64 fh, .int .i64 bl, .int .i64 bh, .int .i64 ti, .int .i64 ne, .int .i64 fa, th, .slice sp l.length cap, .int .i64 plo, .int .i64 phi] 70).grow (Gr.alloc _ _)).grow (Gr.alloc _ _)).grow hb1
  have hT1 : Box w1 (w.heap.size + 1) [.int .i64 0, .int .i64 0, .int .i64 0, .int .i64 0] 94 := by
    have := ((Box.fresh (w.alloc (.cells #[.int .i64 fl, .int .i64 fh, .int .i64 bl, .int .i64 bh, .int .i64 ti, .int .i64 ne, .int .i64 fa, th, .slice sp l.length cap, .int .i64 plo, .int .i64 phi] 70)) [.int .i64 0, .int .i64 0, .int .i64 0, .int .i64 0] 94).grow (Gr.alloc _ _)).grow hb1
    simpa using this
  have hT2 : Box w1 (w.heap.size + 1 + 1) [.int .i64 ((l.length : Nat) + 1), .int .i64 0, .int .i64 0, .int .i64 0] 94 := by
    have := (Box.fresh ((w.alloc (.cells #[.int .i64 fl, .int .i64 fh, .int .i64 bl, .int .i64 bh, .int .i64 ti, .int .i64 ne, .int .i64 fa, th, .slice sp l.length cap, .int .i64 plo, .int .i64 phi] 70)).alloc (.cells #[.int .i64 0, .int .i64 0, .int .i64 0, .int .i64 0] 94)) [.int .i64 ((l.length : Nat) + 1), .int .i64 0, .int .i64 0, .int .i64 0] 94).grow hb1
    simpa using this
  have hS1 := SeenAt.lasts l _ _ _ H.out hgw
  refine wpIn_rangeFunc_ownF rfl (by omega) (gf := 97) (lb := #[.pointer (some ⟨p, 0, none⟩), .pointer (some ⟨q, 0, none⟩)]) rfl trivial (enters_of Try.func97 (by kernel_rfl) rfl)
    (tries_stops fl fh bl bh ti ne fa th (.slice sp l.length cap) plo phi l (w.heap.size + 1 + 1) p q w1 w hBp hBq (by omega) (by omega) hqs H.out (by omega) hgw hl HOK.out)
    KeepBut.trans (fun W k o o' hk => KeepBut.putObj (w := w1) W k o o' hk) (Below.refl _ _) (fun _ => rfl)
    (fun pre W => (Box W (w.heap.size + 1 + 1) (Best.of l pre).vals 94 ∧ Box W w.heap.size [.int .i64 fl, .int .i64 fh, .int .i64 bl, .int .i64 bh, .int .i64 ti, .int .i64 ne, .int .i64 fa, th, .slice sp l.length cap, .int .i64 plo, .int .i64 phi] 70 ∧ Box W (w.heap.size + 1) [.int .i64 0, .int .i64 0, .int .i64 0, .int .i64 0] 94) ∧ Below w.heap.size w W)
    (fun _ _ _ => False)
    (OwnFrom.and (Own.from (fun s A B row hs hg hr => ⟨hs.1.own hg hr, hs.2.1.own hg hr, hs.2.2.own hg hr⟩) _) (ownFrom_below (Nat.le_refl _) (by omega)))
    (fun _ _ _ _ _ hs _ _ => hs)
    ⟨⟨by simpa [Best.of, Best.vals] using hT2, hT0, hT1⟩, hgw⟩
    (fun x => { tmps := #[.agg #[.int .i64 fl, .int .i64 fh, .int .i64 bl, .int .i64 bh, .int .i64 ti, .int .i64 ne, .int .i64 fa, th, .slice sp l.length cap, .int .i64 plo, .int .i64 phi], .pointer (some ⟨w.heap.size, 0, none⟩), .pointer (some ⟨w.heap.size + 1, 0, none⟩), .pointer (some ⟨w.heap.size + 1 + 1, 0, none⟩), .int .i64 x, undef, .pointer (some ⟨w.heap.size, 8, none⟩), .slice sp l.length cap, .int .i64 (l.length : Nat), .int .i64 ((l.length : Nat) + 1), .agg #[.int .i64 ((l.length : Nat) + 1), .int .i64 0], .agg #[.int .i64 ((l.length : Nat) + 1), .int .i64 0, .int .i64 0, .int .i64 0], .agg #[.int .i64 fl, .int .i64 fh, .int .i64 bl, .int .i64 bh, .int .i64 ti, .int .i64 ne, .int .i64 fa, th, .slice sp l.length cap, .int .i64 plo, .int .i64 phi], .func (.func 97) #[] #[.pointer (some ⟨p, 0, none⟩), .pointer (some ⟨q, 0, none⟩)], .int .i64 x, undef, undef, undef, undef, undef, undef, undef, undef, undef, undef, undef, undef, undef, undef, undef, undef, undef, undef, undef, undef, undef, undef, undef, undef], defers := [] }) ?assign ?body ?done ?stop
  case assign =>
    intro y x W K hK
    gi_wp2
    exact hK
  case body =>
    rintro y pre x W ⟨⟨hB, hL, hZ⟩, hBW⟩ _
    have hrk : ∀ W', Gr W W' → Calls Try.prog 82 #[.agg #[.int .i64 fl, .int .i64 fh, .int .i64 bl, .int .i64 bh, .int .i64 ti, .int .i64 ne, .int .i64 fa, th, .slice sp l.length cap, .int .i64 plo, .int .i64 phi], .int .i64 x] W' fun e w' => e = .returned (.agg #[.int .i64 (cnt (movedTo l x l.length) : Nat), .int .i64 (movedTo l x l.length : Nat)]) ∧ Below W'.heap.size W' w' := fun W' hg => rank_any fl fh bl bh ti ne fa th _ plo phi l x W' (SeenAt.lasts _ _ _ _ H.out (hBW.trans (hg.mono hBW.size))) hl HOK.out
    have hsn := Best.of_snoc l pre x
    unfold Best.take at hsn
    generalize Best.of l pre = bb at *
    generalize hbn : Best.of l (pre ++ [x]) = bn at *
    have HBN := Lib.hid hbn
    clear hbn
    generalize ((cnt (movedTo l x l.length) : Nat) : Int) = ci at *
    generalize ((movedTo l x l.length : Nat) : Int) = mi at *
    obtain ⟨b0, b1, b2, b3⟩ := bb
    have HSN := Lib.hid hsn
    have HRK := Lib.hid hrk
    have HBW := Lib.hid hBW
    have HB := Lib.hid hB
    have HL := Lib.hid hL
    have HZ := Lib.hid hZ
    obtain ⟨c0, c1, c2, c3, cl⟩ := hB.four
    obtain ⟨l0, l1, l2, l3, l4, l5, l6, l7, l8, l9, l10⟩ := hL.eleven
    have hll := hL.lt
    clear hsn hrk hBW hB hL hZ
    have hal := @cal
    have heq := @eq92
    have heg := @eqg92
    have hfz := HB.out.free
    have hfal := @fal
    by_cases hc : ci = b0 ∧ mi = b1
    · obtain ⟨rfl, rfl⟩ := hc
      have hsn := HSN.out
      simp only [and_self, if_true] at hsn
      have HSN2 := Lib.hid hsn
      clear hsn HSN
      gi_wp2_with (first | (refine ⟨trivial, ?_⟩; gi_at_call 82; refine (CallsIn.inRound y (callsIn_wide.2 (HRK.out _ (Gr.same _)))).mono ?_; rintro e w2 ⟨rfl, hb2⟩; obtain ⟨hc2, hf2, hz2⟩ := bcell hb2; have HG2 := Lib.hid (show Gr _ _ from hb2); clear hb2) | (refine ⟨trivial, ?_⟩; gi_at_call 83; refine (CallsIn.inRound y (callsIn_wide.2 (cover_any _ _ _ _))).mono ?_; rintro e w3 ⟨rfl, hb3⟩; have HG3 := Lib.hid ((HG2.out.tr (Gr.alloc _ _)).tr hb3); obtain ⟨hc3, hf3, hz3⟩ := bcell HG3.out; clear hb3))
      have hgE := HG3.out
      refine ⟨(keepsOthers_of_gr hgE).trans ((KeepsOthers.setCell _ _ _).trans (KeepsOthers.setCell _ _ _)), (KeepBut.of hgE).trans ((KeepBut.set _ _ _ _).trans (KeepBut.set _ _ _ _)), ⟨?_, ((HL.out.grow hgE).other (by omega) _ _).other (by omega) _ _, ((HZ.out.grow hgE).other (by omega) _ _).other (by omega) _ _⟩, ((bgr HBW.out HBW.out.size hgE).setCell (by simp; omega) _).setCell (by simp; omega) _⟩
      rw [HBN.out, HSN2.out]
      exact ((HB.out.grow hgE).put 2 _).put 3 _
    · have hcb : (ci == b0 && mi == b1) = false := by
        by_cases h1 : ci = b0 <;> by_cases h2 : mi = b1 <;> simp_all
      have hsn := HSN.out
      rw [if_neg hc] at hsn
      have HSN2 := Lib.hid hsn
      clear hsn HSN hc
      by_cases hbf : befB ci mi b0 b1 = true
      · have hsn := HSN2.out
        rw [if_pos hbf] at hsn
        have HSN3 := Lib.hid hsn
        clear hsn HSN2
        gi_wp2_with (first | (refine ⟨trivial, ?_⟩; gi_at_call 82; refine (CallsIn.inRound y (callsIn_wide.2 (HRK.out _ (Gr.same _)))).mono ?_; rintro e w2 ⟨rfl, hb2⟩; obtain ⟨hc2, hf2, hz2⟩ := bcell hb2; have HG2 := Lib.hid (show Gr _ _ from hb2); clear hb2) | (refine ⟨trivial, ?_⟩; gi_at_call 84; refine (CallsIn.inRound y (callsIn_wide.2 (before_bef _ _ _ _ _))).mono ?_; rintro e w3 ⟨rfl, hb3⟩; have HB3 := Lib.hid (show Gr _ _ from hb3); have HG3 := Lib.hid ((HG2.out.tr (Gr.alloc _ _)).tr hb3); clear hb3))
        have hgE := HG3.out
        have f0 : w3.cell? ⟨w2.heap.size, 0, none⟩ = some (.int .i64 ci) := ((bcell HB3.out).1 _ _ (by simp)).trans (by simp [go_sem])
        have f1 : w3.cell? ⟨w2.heap.size, 1, none⟩ = some (.int .i64 mi) := ((bcell HB3.out).1 _ _ (by simp)).trans (by simp [go_sem])
        have hlt3 : w2.heap.size < w3.heap.size := by have := HB3.out.size; simp at this; omega
        have hmx : Try.prog.follows .mixedOrders = true := by kernel_rfl
        clear hc2 hf2 hz2
        obtain ⟨hc3, hf3, hz3⟩ := bcell hgE
        clear hgE
        gi_region_with_o (refine ⟨trivial, ?_⟩; gi_at_call 53; refine (CallsIn.inRound y (callsIn_wide.2 (span_any _ _ _))).mono ?_; rintro e w4 ⟨rfl, hb4⟩; have g0 : w4.cell? ⟨w2.heap.size, 0, none⟩ = some (.int .i64 ci) := ((bcell hb4).1 _ _ (by simpa using hlt3)).trans (by simpa [go_sem] using f0); have g1 : w4.cell? ⟨w2.heap.size, 1, none⟩ = some (.int .i64 mi) := ((bcell hb4).1 _ _ (by simpa using hlt3)).trans (by simpa [go_sem] using f1); have HG4 := Lib.hid ((HG3.out.tr (Gr.drew _)).tr hb4); obtain ⟨hc4, hf4, hz4⟩ := bcell HG4.out; clear hb4)
        all_goals gi_wp2
        all_goals
          have hgE := HG4.out
          refine ⟨(keepsOthers_of_gr hgE).trans ((KeepsOthers.setCell _ _ _).trans ((KeepsOthers.setCell _ _ _).trans ((KeepsOthers.setCell _ _ _).trans (KeepsOthers.setCell _ _ _)))), (KeepBut.of hgE).trans ((KeepBut.set _ _ _ _).trans ((KeepBut.set _ _ _ _).trans ((KeepBut.set _ _ _ _).trans (KeepBut.set _ _ _ _)))), ⟨?_, ((((HL.out.grow hgE).other (by omega) _ _).other (by omega) _ _).other (by omega) _ _).other (by omega) _ _, ((((HZ.out.grow hgE).other (by omega) _ _).other (by omega) _ _).other (by omega) _ _).other (by omega) _ _⟩, ((((bgr HBW.out HBW.out.size hgE).setCell (by simp; omega) _).setCell (by simp; omega) _).setCell (by simp; omega) _).setCell (by simp; omega) _⟩
          rw [HBN.out, HSN3.out]
          exact ((((HB.out.grow hgE).put 0 _).put 1 _).put 2 _).put 3 _
      · have hbf' : befB ci mi b0 b1 = false := by simpa using hbf
        have hsn := HSN2.out
        rw [if_neg hbf] at hsn
        have HSN3 := Lib.hid hsn
        clear hsn HSN2 hbf
        gi_wp2_with (first | (refine ⟨trivial, ?_⟩; gi_at_call 82; refine (CallsIn.inRound y (callsIn_wide.2 (HRK.out _ (Gr.same _)))).mono ?_; rintro e w2 ⟨rfl, hb2⟩; obtain ⟨hc2, hf2, hz2⟩ := bcell hb2; have HG2 := Lib.hid (show Gr _ _ from hb2); clear hb2) | (refine ⟨trivial, ?_⟩; gi_at_call 84; refine (CallsIn.inRound y (callsIn_wide.2 (before_bef _ _ _ _ _))).mono ?_; rintro e w3 ⟨rfl, hb3⟩; have HB3 := Lib.hid (show Gr _ _ from hb3); have HG3 := Lib.hid ((HG2.out.tr (Gr.alloc _ _)).tr hb3); clear hb3))
        have hgE := HG3.out
        refine ⟨keepsOthers_of_gr hgE, KeepBut.of hgE, ⟨?_, HL.out.grow hgE, HZ.out.grow hgE⟩, bgr HBW.out HBW.out.size hgE⟩
        rw [HBN.out, HSN3.out]
        exact HB.out.grow hgE
  case done =>
    rintro D ys W hD rfl ⟨⟨hB, hL, hZ⟩, hBW⟩ hK
    generalize hbb : Best.of l (triesList plo phi l) = bb at *
    obtain ⟨b0, b1, b2, b3⟩ := bb
    have HBB := Lib.hid hbb
    clear hbb
    obtain ⟨c0, c1, c2, c3, cl⟩ := hB.four
    obtain ⟨d0, d1, d2, d3, dl⟩ := hZ.four
    have dfz := hZ.free
    have HZ := Lib.hid hZ
    have HBW := Lib.hid hBW
    have HK := Lib.hid hK
    clear hZ hBW hK hB hL
    gi_wp2
    have hK4 := ((KeepsOthers.setCell W ⟨w.heap.size + 1, 0, none⟩ (.int .i64 b0)).trans ((KeepsOthers.setCell _ ⟨w.heap.size + 1, 1, none⟩ (.int .i64 b1)).trans ((KeepsOthers.setCell _ ⟨w.heap.size + 1, 2, none⟩ (.int .i64 b2)).trans (KeepsOthers.setCell _ ⟨w.heap.size + 1, 3, none⟩ (.int .i64 b3))))).same D _ HK.out rfl
    have hZ4 := (((HZ.out.put 0 (.int .i64 b0)).put 1 (.int .i64 b1)).put 2 (.int .i64 b2)).put 3 (.int .i64 b3)
    refine ⟨by simp, .inl ⟨_, _, rfl, run_takeDeferred hK4, ?_⟩⟩
    have hZ5 := hZ4.own (grownBy_putObj' _ D (.deferred none)) (fun r e => by cases e; exact ⟨_, hK4, rfl⟩)
    obtain ⟨e0, e1, e2, e3, -⟩ := Box.four hZ5
    refine ⟨.agg #[.int .i64 b0, .int .i64 b1, .int .i64 b2, .int .i64 b3], ?_, by rw [HBB.out], ((((HBW.out.setCell (by simp) _).setCell (by simp) _).setCell (by simp) _).setCell (by simp) _).trans (belowK_b (w := w) (Nat.le_refl _) _ D _ _ (by omega) hK4 rfl rfl)⟩
    simp [results, Try.f64, go_sem, e0, e1, e2, e3]
  case stop =>
    rintro D c pre W _ _ h _
    exact h.elim
end Go.Proofs.Ytofdoadpaedogaa
