import Derived.Test.YtcngaohfemdfjaaGreatF09
import Derived.Laws.StructEq
import Derived.LoopIn
import Derived.LoopNIn
import Derived.OwnWalkIn
import Derived.RangeFuncBound
import Derived.RangeFuncCalls
import Derived.RangeFuncFrom
import Derived.RangeFuncLeaves
import Derived.RangeFuncNested
import Derived.Shelf.Abstract
import Derived.Shelf.RegionOpen
import Derived.TacticsInMore
import Derived.WalkMore
set_option linter.unusedVariables false
set_option linter.unusedSimpArgs false
set_option maxRecDepth 100000
set_option maxHeartbeats 60000000
namespace Go.Proofs.YtcngaohfemdfjaaGreat
open Go.RowKit
def movedTo (l : List Sg) (p : Int) : Nat → Nat
  | 0 => 0
  | k + 1 => if ((l[k]?).map fun s => s.why p p).getD 0 = 0 then movedTo l p k else movedTo l p k ||| 2 ^ k
end Go.Proofs.YtcngaohfemdfjaaGreat
namespace Go.Proofs.YtcngaohfemdfjaaGreat
open Go.RowKit Go.Shelf
attribute [local go_sem] Oper.semAt_some
def KeepBut (q : Nat) (W W' : World) : Prop := W.heap.size ≤ W'.heap.size ∧ ∀ k o, k ≠ q → W.heap[k]? = some o → o.isCells = true → W'.heap[k]? = some o
theorem KeepBut.trans {q : Nat} {A B C : World} (h : KeepBut q A B) (k : KeepBut q B C) : KeepBut q A C := ⟨Nat.le_trans h.1 k.1, fun i o hq hi hc => k.2 i o hq (h.2 i o hq hi hc) hc⟩
theorem KeepBut.of {q : Nat} {A B : World} (h : Gr A B) : KeepBut q A B := ⟨h.size, fun i _o _ hi _ => (h.block i (Array.getElem?_eq_some_iff.1 hi).1).trans hi⟩
theorem KeepBut.box {q : Nat} {A B : World} (h : KeepBut q A B) {b : Nat} {vs : List Value} {T : TypeId} (hb : Box A b vs T) (hq : b ≠ q) : Box B b vs T := h.2 b _ hq hb rfl
theorem KeepBut.cell {q : Nat} {A B : World} (h : KeepBut q A B) {b i : Nat} {x : Value} (hq : b ≠ q) (hc : A.cell? ⟨b, i, none⟩ = some x) : B.cell? ⟨b, i, none⟩ = some x := by
  obtain ⟨o, ho, hk⟩ := cells_of_cell hc
  have := h.2 b o hq ho hk
  rw [World.cell?_of_block (w := A) (this.trans ho.symm)]; exact hc
theorem KeepBut.seen {q : Nat} {A B : World} (h : KeepBut q A B) {l : List Sg} {v : Value} {A0 : World} (hq : A0.heap.size ≤ q) (h0 : SeenAt l v A0) (hg : Gr A0 A) : SeenAt l v B := by
  rcases h0 with h0 | ⟨b, o, cap, h1, h2, h3, h4⟩
  · exact .inl h0
  · have h5 := hg.size
    have h6 := h.1
    refine .inr ⟨b, o, cap, h1, by omega, h3, fun i s hi => ?_⟩
    have ⟨x1, x2, x3, x4⟩ := h4 i s hi
    have e : ∀ {i x}, A0.cell? ⟨b, i, none⟩ = some x → B.cell? ⟨b, i, none⟩ = some x := fun hx => h.cell (by omega) (((bcell hg).1 _ _ h2).trans hx)
    exact ⟨e x1, e x2, e x3, e x4⟩
end Go.Proofs.YtcngaohfemdfjaaGreat
namespace Go.Proofs.YtcngaohfemdfjaaGreat
open Go.RowKit
def dist (n f plo phi slo shi : Int) : Int × Int := ovl (n, f) (plo / (shi + 1) + 1, if 0 < slo then phi / slo else f)
theorem quo_le {a b m : Int} (h0 : 0 ≤ a) (h1 : a ≤ m) (h2 : 1 ≤ b) : 0 ≤ a / b ∧ a / b ≤ m := by
  constructor
  · exact Int.ediv_nonneg h0 (by omega)
  · have := Int.ediv_le_self b h0; omega
end Go.Proofs.YtcngaohfemdfjaaGreat
namespace Go.Proofs.YtcngaohfemdfjaaGreat
open Go.RowKit Go.Shelf
attribute [local go_sem] Oper.semAt_some
structure Best where
  many : Int
  moved : Int
  lo : Int
  hi : Int
def befB (m1 s1 m2 s2 : Int) : Bool := if m1 = m2 then decide (s1 < s2) else decide (m1 < m2)
def Best.take (l : List Sg) (b : Best) (x : Int) : Best :=
  if ((cnt (movedTo l x l.length) : Nat) : Int) = b.many ∧ ((movedTo l x l.length : Nat) : Int) = b.moved then { b with lo := imin b.lo x, hi := imax b.hi x }
  else if befB (cnt (movedTo l x l.length) : Nat) (movedTo l x l.length : Nat) b.many b.moved then ⟨(cnt (movedTo l x l.length) : Nat), (movedTo l x l.length : Nat), x, x⟩ else b
def Best.of (l : List Sg) (xs : List Int) : Best := xs.foldl (Best.take l) ⟨l.length + 1, 0, 0, 0⟩
theorem Best.of_snoc (l : List Sg) (xs : List Int) (x : Int) : Best.of l (xs ++ [x]) = (Best.of l xs).take l x := by simp [Best.of]
def Best.vals (b : Best) : List Value := [.int .i64 b.many, .int .i64 b.moved, .int .i64 b.lo, .int .i64 b.hi]
theorem Box.own {W W' : World} {row : Option Nat} {b : Nat} {vs : List Value} {T : TypeId} (h : Box W b vs T) (hg : W.grownBy W' row) (hr : ∀ r, row = some r → ∃ o : Obj, W.heap[r]? = some o ∧ o.isCells = false) : Box W' b vs T :=
  h.grown hg fun e => by
    obtain ⟨o, ho, hc⟩ := hr b e.symm
    unfold Box at h
    rw [h] at ho
    cases ho
    cases hc
theorem KeepBut.putObj {q : Nat} {w : World} (W : World) (l : Nat) (o o' : Obj) (_ : w.heap.size ≤ l) (h : W.heap[l]? = some o) (hc : o.isCells = false) (_ : o.isWalk = false) : KeepBut q W (W.putObj l o') :=
  ⟨(grownBy_putObj' W l o').size, fun k x _ hk hx => by
    refine ((grownBy_putObj' W l o').block k (Array.getElem?_eq_some_iff.1 hk).1 fun e => ?_).trans hk
    have e' : l = k := (Option.some.inj e).symm
    subst e'
    rw [h] at hk
    cases hk
    rw [hc] at hx
    cases hx⟩
theorem keepsOthers_of_gr {A B : World} (h : Gr A B) : KeepsOthers A B := ⟨h.size, fun k _o hk _ => (h.block k (Array.getElem?_eq_some_iff.1 hk).1).trans hk⟩
theorem KeepBut.set (W : World) (q i : Nat) (v : Value) : KeepBut q W (W.setCell ⟨q, i, none⟩ v) :=
  ⟨by simp, fun k o hq hk _ => (Below.heap_setCell _ _ _ _ (by simpa using hq)).trans hk⟩
theorem Box.eleven {w : World} {b : Nat} {x0 x1 x2 x3 x4 x5 x6 x7 x8 x9 x10 : Value} {T : TypeId} (h : Box w b [x0, x1, x2, x3, x4, x5, x6, x7, x8, x9, x10] T) :
    w.cell? ⟨b, 0, none⟩ = some x0 ∧ w.cell? ⟨b, 1, none⟩ = some x1 ∧ w.cell? ⟨b, 2, none⟩ = some x2 ∧ w.cell? ⟨b, 3, none⟩ = some x3 ∧ w.cell? ⟨b, 4, none⟩ = some x4 ∧ w.cell? ⟨b, 5, none⟩ = some x5 ∧ w.cell? ⟨b, 6, none⟩ = some x6 ∧ w.cell? ⟨b, 7, none⟩ = some x7 ∧ w.cell? ⟨b, 8, none⟩ = some x8 ∧ w.cell? ⟨b, 9, none⟩ = some x9 ∧ w.cell? ⟨b, 10, none⟩ = some x10 :=
  ⟨h.cell rfl, h.cell rfl, h.cell rfl, h.cell rfl, h.cell rfl, h.cell rfl, h.cell rfl, h.cell rfl, h.cell rfl, h.cell rfl, h.cell rfl⟩
end Go.Proofs.YtcngaohfemdfjaaGreat
namespace Go.Proofs.YtcngaohfemdfjaaGreat
open Go.RowKit
theorem stands1_range (fl fh bl bh ti ne fa : Int) (v sv : Value) (plo phi : Int) (z : Int) (p : Nat) (w : World) (hin : (decide (ne ≤ z) && decide (z ≤ fa)) = false) (hp : w.cell? ⟨p, 0, none⟩ = some (.int .i64 z)) (hpl : p < w.heap.size) :
    Calls Tryz.prog 80 #[.agg #[.int .i64 fl, .int .i64 fh, .int .i64 bl, .int .i64 bh, .int .i64 ti, .int .i64 ne, .int .i64 fa, v, sv, .int .i64 plo, .int .i64 phi], .pointer (some ⟨p, 0, none⟩)] w fun e w' => e = .panicked [{ v := .iface 32 (.int .i64 2), recovered := false }] ∧ Below w.heap.size w w' := by
  have hi : ∀ W : World, Calls Tryz.prog 82 #[.int .i64 z, .agg #[.int .i64 ne, .int .i64 fa]] W fun e w' => e = .returned (.bool false) ∧ Below W.heap.size W w' := fun W => by
    have := inside_any z ne fa W
    rwa [hin] at this
  have HI := Lib.hid hi
  clear hi hin
  have hal := @cal
  have hp1 : p < w.heap.size + 1 := by omega
  go_enter Tryz.func80, Tryz.ntmps80
  go_wp2
  refine region2 10 ?_ ?_ ?_
  · kernel_rfl
  · kernel_rfl
  simp only [List.take_succ_cons, List.take_zero, List.drop_succ_cons, List.drop_zero]
  apply ceq (D := [(1, none)]) rfl (by kernel_rfl)
  · intro ρ W ⟨p1,p2,p3⟩ hG hF K hK; (try simp [FD] at hF); have ⟨hc, hf, hz⟩ := bdr hG; go_simp; exact hK _ gv
  apply ceq (D := [(2, none)]) rfl (by kernel_rfl)
  · intro ρ W ⟨p1,p2,p3⟩ hG hF K hK; (try simp [FD] at hF); have ⟨hc, hf, hz⟩ := bdr hG; go_simp; exact hK _ gv
  apply ceq (D := [(6, some 0)]) rfl (by kernel_rfl)
  · intro ρ W ⟨p1,p2,p3⟩ hG hF K hK; (try simp [FD] at hF); have ⟨hc, hf, hz⟩ := bdr hG; go_simp; exact hK _ gv
  apply ceq (D := [(7, some 0)]) rfl (by kernel_rfl)
  · intro ρ W ⟨p1,p2,p3⟩ hG hF K hK; (try simp [FD] at hF); have ⟨hc, hf, hz⟩ := bdr hG; go_simp; exact hK _ gv
  apply ceq (D := [(2, none)]) rfl (by kernel_rfl)
  · intro ρ W ⟨p1,p2,p3⟩ hG hF K hK; (try simp [FD] at hF); have ⟨hc, hf, hz⟩ := bdr hG; go_simp; exact hK _ gv
  apply ceq (D := [(9, some 0)]) rfl (by kernel_rfl)
  · intro ρ W ⟨p1,p2,p3⟩ hG hF K hK; (try simp [FD] at hF); have ⟨hc, hf, hz⟩ := bdr hG; go_simp; exact hK _ gv
  apply ceq (D := [(10, some 0)]) rfl (by kernel_rfl)
  · intro ρ W ⟨p1,p2,p3⟩ hG hF K hK; (try simp [FD] at hF); have ⟨hc, hf, hz⟩ := bdr hG; go_simp; exact hK _ gv
  apply ceq (D := [(8, some 3), (11, some 0)]) rfl (by kernel_rfl)
  · intro ρ W ⟨p1,p2,p3⟩ hG hF K hK; (try simp [FD] at hF); have ⟨hc, hf, hz⟩ := bdr hG; go_simp; exact hK _ (gc (span_any _ _ _))
  apply ceq (D := [(5, some 7), (12, some 0)]) rfl (by kernel_rfl)
  · intro ρ W ⟨p1,p2,p3⟩ hG hF K hK; (try simp [FD] at hF); have ⟨hc, hf, hz⟩ := bdr hG; go_simp; exact hK _ (gc (HI.out _))
  refine cny (V := fun _ _ => False) (D := [(13, some 0)]) rfl (by kernel_rfl) (fun _ _ _ h _ => h) ?_ ?_
  · intro ρ W ⟨p1,p2,p3⟩ hG hF K hK; (try simp [FD] at hF); have ⟨hc, hf, hz⟩ := bdr hG; go_simp; exact hK _ (gives_panic (require_no _ _) (fun W' hg a' ha' => ⟨ha', rfl, (bgr (((Below.refl _ _).alloc (by first | (simp <;> omega) | omega) _).alloc (by first | (simp <;> omega) | omega) _) (by first | (simp <;> omega) | omega) (Gr.tr (Gr.tr (Gr.drew _) hG) hg))⟩))
  refine cdn ?_
  intro vs W hG hV
  exact (hV.1 : False).elim
theorem stands1_none (fl fh bl bh ti ne fa : Int) (v sv : Value) (plo phi : Int) (z : Int) (p : Nat) (w : World) (hin : (decide (ne ≤ z) && decide (z ≤ fa)) = true) (hpp : phi < plo) (hp : w.cell? ⟨p, 0, none⟩ = some (.int .i64 z)) (hpl : p < w.heap.size) :
    Calls Tryz.prog 80 #[.agg #[.int .i64 fl, .int .i64 fh, .int .i64 bl, .int .i64 bh, .int .i64 ti, .int .i64 ne, .int .i64 fa, v, sv, .int .i64 plo, .int .i64 phi], .pointer (some ⟨p, 0, none⟩)] w fun e w' => e = .panicked [{ v := .iface 32 (.int .i64 4), recovered := false }] ∧ Below w.heap.size w w' := by
  have hi : ∀ W : World, Calls Tryz.prog 82 #[.int .i64 z, .agg #[.int .i64 ne, .int .i64 fa]] W fun e w' => e = .returned (.bool true) ∧ Below W.heap.size W w' := fun W => by
    have := inside_any z ne fa W
    rwa [hin] at this
  have HI := Lib.hid hi
  clear hi hin
  have hal := @cal
  have hp1 : p < w.heap.size + 1 := by omega
  go_enter Tryz.func80, Tryz.ntmps80
  go_wp2
  refine region2 10 ?_ ?_ ?_
  · kernel_rfl
  · kernel_rfl
  simp only [List.take_succ_cons, List.take_zero, List.drop_succ_cons, List.drop_zero]
  apply ceq (D := [(1, none)]) rfl (by kernel_rfl)
  · intro ρ W ⟨p1,p2,p3⟩ hG hF K hK; (try simp [FD] at hF); have ⟨hc, hf, hz⟩ := bdr hG; go_simp; exact hK _ gv
  apply ceq (D := [(2, none)]) rfl (by kernel_rfl)
  · intro ρ W ⟨p1,p2,p3⟩ hG hF K hK; (try simp [FD] at hF); have ⟨hc, hf, hz⟩ := bdr hG; go_simp; exact hK _ gv
  apply ceq (D := [(6, some 0)]) rfl (by kernel_rfl)
  · intro ρ W ⟨p1,p2,p3⟩ hG hF K hK; (try simp [FD] at hF); have ⟨hc, hf, hz⟩ := bdr hG; go_simp; exact hK _ gv
  apply ceq (D := [(7, some 0)]) rfl (by kernel_rfl)
  · intro ρ W ⟨p1,p2,p3⟩ hG hF K hK; (try simp [FD] at hF); have ⟨hc, hf, hz⟩ := bdr hG; go_simp; exact hK _ gv
  apply ceq (D := [(2, none)]) rfl (by kernel_rfl)
  · intro ρ W ⟨p1,p2,p3⟩ hG hF K hK; (try simp [FD] at hF); have ⟨hc, hf, hz⟩ := bdr hG; go_simp; exact hK _ gv
  apply ceq (D := [(9, some 0)]) rfl (by kernel_rfl)
  · intro ρ W ⟨p1,p2,p3⟩ hG hF K hK; (try simp [FD] at hF); have ⟨hc, hf, hz⟩ := bdr hG; go_simp; exact hK _ gv
  apply ceq (D := [(10, some 0)]) rfl (by kernel_rfl)
  · intro ρ W ⟨p1,p2,p3⟩ hG hF K hK; (try simp [FD] at hF); have ⟨hc, hf, hz⟩ := bdr hG; go_simp; exact hK _ gv
  apply ceq (D := [(8, some 3), (11, some 0)]) rfl (by kernel_rfl)
  · intro ρ W ⟨p1,p2,p3⟩ hG hF K hK; (try simp [FD] at hF); have ⟨hc, hf, hz⟩ := bdr hG; go_simp; exact hK _ (gc (span_any _ _ _))
  apply ceq (D := [(5, some 7), (12, some 0)]) rfl (by kernel_rfl)
  · intro ρ W ⟨p1,p2,p3⟩ hG hF K hK; (try simp [FD] at hF); have ⟨hc, hf, hz⟩ := bdr hG; go_simp; exact hK _ (gc (HI.out _))
  apply ceq (D := [(13, some 0)]) rfl (by kernel_rfl)
  · intro ρ W ⟨p1,p2,p3⟩ hG hF K hK; (try simp [FD] at hF); have ⟨hc, hf, hz⟩ := bdr hG; go_simp; exact hK _ (gc (require_ok _ _))
  refine cdn ?_
  intro vs W hG hV
  obtain ⟨e9, -⟩ := hV
  simp only [Nat.reduceSub] at e9
  simp only [lay, Act.put, List.getElem?_toArray, List.getElem?_cons_succ, List.getElem?_cons_zero, Option.bind_some, List.setIfInBounds_toArray, List.set_cons_succ, List.set_cons_zero]
  generalize vs 0 = v0, vs 1 = v1, vs 2 = v2, vs 3 = v3, vs 4 = v4, vs 5 = v5, vs 6 = v6, vs 7 = v7, vs 8 = v8
  generalize vs 9 = v9 at *
  subst e9
  obtain ⟨hc, hf, hz⟩ := bcell hG
  have HL0 := Lib.hid (((Box.fresh w [.int .i64 fl, .int .i64 fh, .int .i64 bl, .int .i64 bh, .int .i64 ti, .int .i64 ne, .int .i64 fa, v, sv, .int .i64 plo, .int .i64 phi] 107).grow (Gr.alloc _ (.cells #[.int .i64 0, .int .i64 0] 23))).grow hG)
  have HR0 := Lib.hid (show Box W (w.heap.size + 1) [.int .i64 0, .int .i64 0] 23 from (by simpa using (Box.fresh (w.alloc (.cells #[.int .i64 fl, .int .i64 fh, .int .i64 bl, .int .i64 bh, .int .i64 ti, .int .i64 ne, .int .i64 fa, v, sv, .int .i64 plo, .int .i64 phi] 107)) [.int .i64 0, .int .i64 0] 23).grow hG))
  have HG0 := Lib.hid (((Gr.alloc w (.cells #[.int .i64 fl, .int .i64 fh, .int .i64 bl, .int .i64 bh, .int .i64 ti, .int .i64 ne, .int .i64 fa, v, sv, .int .i64 plo, .int .i64 phi] 107)).tr (Gr.alloc _ (.cells #[.int .i64 0, .int .i64 0] 23))).tr hG)
  have hp2 : W.cell? ⟨p, 0, none⟩ = some (.int .i64 z) := ((bcell HG0.out).1 _ _ hpl).trans hp
  have hp3 : p < W.heap.size := Nat.lt_of_lt_of_le hpl HG0.out.size
  clear hc hf hz hG hp hp1
  obtain ⟨l0, l1, l2, l3, l4, l5, l6, l7, l8, l9, l10⟩ := HL0.out.eleven
  have s1 := HL0.out.lt
  have s2 := HR0.out.lt
  go_wp2_with (go_at_call 77; refine (truths_no _ _ _ _ _ _ _ _ _ _ _ _ hpp).mono ?_; rintro e w2 ⟨rfl, hb2⟩)
  exact ⟨rfl, rfl, HG0.out.tr hb2⟩
theorem stands1_ok (fl fh bl bh ti ne fa : Int) (v sv : Value) (plo phi : Int) (z : Int) (p : Nat) (w : World) (hin : (decide (ne ≤ z) && decide (z ≤ fa)) = true) (hpp : plo ≤ phi) (a0 : 0 ≤ plo) (a1 : phi ≤ 4398046511104) (hz0 : 0 < z) (hp : w.cell? ⟨p, 0, none⟩ = some (.int .i64 z)) (hpl : p < w.heap.size) :
    Calls Tryz.prog 80 #[.agg #[.int .i64 fl, .int .i64 fh, .int .i64 bl, .int .i64 bh, .int .i64 ti, .int .i64 ne, .int .i64 fa, v, sv, .int .i64 plo, .int .i64 phi], .pointer (some ⟨p, 0, none⟩)] w fun e w' => e = .returned (.agg #[.int .i64 (plo / z), .int .i64 (phi / z)]) ∧ Below w.heap.size w w' := by
  have hi : ∀ W : World, Calls Tryz.prog 82 #[.int .i64 z, .agg #[.int .i64 ne, .int .i64 fa]] W fun e w' => e = .returned (.bool true) ∧ Below W.heap.size W w' := fun W => by
    have := inside_any z ne fa W
    rwa [hin] at this
  have HI := Lib.hid hi
  clear hi hin
  have hal := @cal
  have hp1 : p < w.heap.size + 1 := by omega
  obtain ⟨q0, q1⟩ := quo_le (b := z) a0 (show plo ≤ 4398046511104 by omega) (by omega)
  obtain ⟨q2, q3⟩ := quo_le (b := z) (show 0 ≤ phi by omega) a1 (by omega)
  have e1 : IntKind.i64.wrap (plo.tdiv z) = plo / z := by rw [Int.tdiv_eq_ediv_of_nonneg a0]; exact wraps_i64 _ q0 (by omega)
  have e2 : IntKind.i64.wrap (phi.tdiv z) = phi / z := by rw [Int.tdiv_eq_ediv_of_nonneg (by omega)]; exact wraps_i64 _ q2 (by omega)
  have hzn : ¬ z = 0 := by omega
  go_enter Tryz.func80, Tryz.ntmps80
  go_wp2
  refine region2 10 ?_ ?_ ?_
  · kernel_rfl
  · kernel_rfl
  simp only [List.take_succ_cons, List.take_zero, List.drop_succ_cons, List.drop_zero]
  apply ceq (D := [(1, none)]) rfl (by kernel_rfl)
  · intro ρ W ⟨p1,p2,p3⟩ hG hF K hK; (try simp [FD] at hF); have ⟨hc, hf, hz⟩ := bdr hG; go_simp; exact hK _ gv
  apply ceq (D := [(2, none)]) rfl (by kernel_rfl)
  · intro ρ W ⟨p1,p2,p3⟩ hG hF K hK; (try simp [FD] at hF); have ⟨hc, hf, hz⟩ := bdr hG; go_simp; exact hK _ gv
  apply ceq (D := [(6, some 0)]) rfl (by kernel_rfl)
  · intro ρ W ⟨p1,p2,p3⟩ hG hF K hK; (try simp [FD] at hF); have ⟨hc, hf, hz⟩ := bdr hG; go_simp; exact hK _ gv
  apply ceq (D := [(7, some 0)]) rfl (by kernel_rfl)
  · intro ρ W ⟨p1,p2,p3⟩ hG hF K hK; (try simp [FD] at hF); have ⟨hc, hf, hz⟩ := bdr hG; go_simp; exact hK _ gv
  apply ceq (D := [(2, none)]) rfl (by kernel_rfl)
  · intro ρ W ⟨p1,p2,p3⟩ hG hF K hK; (try simp [FD] at hF); have ⟨hc, hf, hz⟩ := bdr hG; go_simp; exact hK _ gv
  apply ceq (D := [(9, some 0)]) rfl (by kernel_rfl)
  · intro ρ W ⟨p1,p2,p3⟩ hG hF K hK; (try simp [FD] at hF); have ⟨hc, hf, hz⟩ := bdr hG; go_simp; exact hK _ gv
  apply ceq (D := [(10, some 0)]) rfl (by kernel_rfl)
  · intro ρ W ⟨p1,p2,p3⟩ hG hF K hK; (try simp [FD] at hF); have ⟨hc, hf, hz⟩ := bdr hG; go_simp; exact hK _ gv
  apply ceq (D := [(8, some 3), (11, some 0)]) rfl (by kernel_rfl)
  · intro ρ W ⟨p1,p2,p3⟩ hG hF K hK; (try simp [FD] at hF); have ⟨hc, hf, hz⟩ := bdr hG; go_simp; exact hK _ (gc (span_any _ _ _))
  apply ceq (D := [(5, some 7), (12, some 0)]) rfl (by kernel_rfl)
  · intro ρ W ⟨p1,p2,p3⟩ hG hF K hK; (try simp [FD] at hF); have ⟨hc, hf, hz⟩ := bdr hG; go_simp; exact hK _ (gc (HI.out _))
  apply ceq (D := [(13, some 0)]) rfl (by kernel_rfl)
  · intro ρ W ⟨p1,p2,p3⟩ hG hF K hK; (try simp [FD] at hF); have ⟨hc, hf, hz⟩ := bdr hG; go_simp; exact hK _ (gc (require_ok _ _))
  refine cdn ?_
  intro vs W hG hV
  obtain ⟨e9, -⟩ := hV
  simp only [Nat.reduceSub] at e9
  simp only [lay, Act.put, List.getElem?_toArray, List.getElem?_cons_succ, List.getElem?_cons_zero, Option.bind_some, List.setIfInBounds_toArray, List.set_cons_succ, List.set_cons_zero]
  generalize vs 0 = v0, vs 1 = v1, vs 2 = v2, vs 3 = v3, vs 4 = v4, vs 5 = v5, vs 6 = v6, vs 7 = v7, vs 8 = v8
  generalize vs 9 = v9 at *
  subst e9
  obtain ⟨hc, hf, hz⟩ := bcell hG
  have HL0 := Lib.hid (((Box.fresh w [.int .i64 fl, .int .i64 fh, .int .i64 bl, .int .i64 bh, .int .i64 ti, .int .i64 ne, .int .i64 fa, v, sv, .int .i64 plo, .int .i64 phi] 107).grow (Gr.alloc _ (.cells #[.int .i64 0, .int .i64 0] 23))).grow hG)
  have HR0 := Lib.hid (show Box W (w.heap.size + 1) [.int .i64 0, .int .i64 0] 23 from (by simpa using (Box.fresh (w.alloc (.cells #[.int .i64 fl, .int .i64 fh, .int .i64 bl, .int .i64 bh, .int .i64 ti, .int .i64 ne, .int .i64 fa, v, sv, .int .i64 plo, .int .i64 phi] 107)) [.int .i64 0, .int .i64 0] 23).grow hG))
  have HG0 := Lib.hid (((Gr.alloc w (.cells #[.int .i64 fl, .int .i64 fh, .int .i64 bl, .int .i64 bh, .int .i64 ti, .int .i64 ne, .int .i64 fa, v, sv, .int .i64 plo, .int .i64 phi] 107)).tr (Gr.alloc _ (.cells #[.int .i64 0, .int .i64 0] 23))).tr hG)
  have hp2 : W.cell? ⟨p, 0, none⟩ = some (.int .i64 z) := ((bcell HG0.out).1 _ _ hpl).trans hp
  have hp3 : p < W.heap.size := Nat.lt_of_lt_of_le hpl HG0.out.size
  clear hc hf hz hG hp hp1
  obtain ⟨l0, l1, l2, l3, l4, l5, l6, l7, l8, l9, l10⟩ := HL0.out.eleven
  have s1 := HL0.out.lt
  have s2 := HR0.out.lt
  go_wp2_with (go_at_call 77; refine (truths_ok _ _ _ _ _ _ _ _ _ _ _ _ hpp).mono ?_; rintro e w2 ⟨rfl, hb2⟩; clear l0 l1 l2 l3 l4 l5 l6 l7 l8 l9 l10; have HR2 := Lib.hid (HR0.out.grow hb2); have HG2 := Lib.hid (HG0.out.tr hb2); have hp4 := ((bcell hb2).1 _ _ hp3).trans hp2; have hp5 := Nat.lt_of_lt_of_le hp3 hb2.size; clear hp2 hp3 hb2; have s3 := HR2.out.lt)
  have HP3 := Lib.hid (Box.fresh w2 [.int .i64 plo, .int .i64 phi] 23)
  refine region2 9 ?_ ?_ ?_
  · kernel_rfl
  · kernel_rfl
  simp only [List.take_succ_cons, List.take_zero, List.drop_succ_cons, List.drop_zero]
  apply ceq (D := [(4, none)]) rfl (by kernel_rfl)
  · intro ρ W ⟨p1,p2,p3⟩ hG hF K hK; (try simp [FD] at hF); have ⟨hc, hf, hz⟩ := bdr hG; go_simp; exact hK _ gv
  apply ceq (D := [(17, some 0)]) rfl (by kernel_rfl)
  · intro ρ W ⟨p1,p2,p3⟩ hG hF K hK; (try simp [FD] at hF); have ⟨hc, hf, hz⟩ := bdr hG; go_simp; exact hK _ gv
  apply ceq (D := [(1, none)]) rfl (by kernel_rfl)
  · intro ρ W ⟨p1,p2,p3⟩ hG hF K hK; (try simp [FD] at hF); have ⟨hc, hf, hz⟩ := bdr hG; go_simp; exact hK _ gv
  apply ceq (D := [(18, some 1), (19, some 0)]) rfl (by kernel_rfl)
  · intro ρ W ⟨p1,p2,p3⟩ hG hF K hK; (try simp [FD] at hF); have ⟨hc, hf, hz⟩ := bdr hG; go_simp; exact hK _ gv
  apply ceq (D := [(4, none)]) rfl (by kernel_rfl)
  · intro ρ W ⟨p1,p2,p3⟩ hG hF K hK; (try simp [FD] at hF); have ⟨hc, hf, hz⟩ := bdr hG; go_simp; exact hK _ gv
  apply ceq (D := [(21, some 0)]) rfl (by kernel_rfl)
  · intro ρ W ⟨p1,p2,p3⟩ hG hF K hK; (try simp [FD] at hF); have ⟨hc, hf, hz⟩ := bdr hG; go_simp; exact hK _ gv
  apply ceq (D := [(1, none)]) rfl (by kernel_rfl)
  · intro ρ W ⟨p1,p2,p3⟩ hG hF K hK; (try simp [FD] at hF); have ⟨hc, hf, hz⟩ := bdr hG; go_simp; exact hK _ gv
  apply ceq (D := [(22, some 1), (23, some 0)]) rfl (by kernel_rfl)
  · intro ρ W ⟨p1,p2,p3⟩ hG hF K hK; (try simp [FD] at hF); have ⟨hc, hf, hz⟩ := bdr hG; go_simp; exact hK _ gv
  apply ceq (D := [(20, some 4), (24, some 0)]) rfl (by kernel_rfl)
  · intro ρ W ⟨p1,p2,p3⟩ hG hF K hK; (try simp [FD] at hF); have ⟨hc, hf, hz⟩ := bdr hG; go_simp; exact hK _ (gc (span_any _ _ _))
  refine cdn ?_
  intro vs W hG hV
  obtain ⟨e8, -⟩ := hV
  simp only [Nat.reduceSub] at e8
  simp only [lay, Act.put, List.getElem?_toArray, List.getElem?_cons_succ, List.getElem?_cons_zero, Option.bind_some, List.setIfInBounds_toArray, List.set_cons_succ, List.set_cons_zero]
  generalize vs 0 = v0, vs 1 = v1, vs 2 = v2, vs 3 = v3, vs 4 = v4, vs 5 = v5, vs 6 = v6, vs 7 = v7
  generalize vs 8 = v8 at *
  subst e8
  obtain ⟨hc, hf, hz⟩ := bcell hG
  obtain ⟨z0, z1, zf0, zf1, s7⟩ := ((HR2.out.grow (Gr.alloc _ (.cells #[.int .i64 plo, .int .i64 phi] 23))).grow hG).two
  go_wp2
  exact bodyPost_ret (v := .agg #[.int .i64 (plo / z), .int .i64 (phi / z)]) (by simp [results, Tryz.results80, go_sem, z0, z1]) rfl ⟨rfl, (((show Below w.heap.size w _ from (HG2.out.tr (Gr.alloc _ (.cells #[.int .i64 plo, .int .i64 phi] 23))).tr hG).setCell (by first | (simp <;> omega) | omega) _).setCell (by first | (simp <;> omega) | omega) _)⟩
end Go.Proofs.YtcngaohfemdfjaaGreat
