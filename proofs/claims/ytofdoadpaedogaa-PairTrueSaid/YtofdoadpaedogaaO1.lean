import Derived.Test.YtofdoadpaedogaaT34
import Derived.ProofKit
import Derived.ShutString
import Derived.Deep.Slices
import Derived.Deep.Strs
import Derived.Lib.SmallJoins
namespace Go.Proofs.Ytofdoadpaedogaa
open Go.ChangeShapes Go.WideShapes Go.ChangeAt Go.RowKit Go.Deep

/-! A pair that comes in: what its cells hold. -/
def okI (n : Int) : Prop := (Lit.int .i64 n).wf = true
theorem okI.b {n : Int} (h : okI n) : -9223372036854775808 ≤ n ∧ n ≤ 9223372036854775807 := by
  unfold okI at h
  simp only [Lit.wf, Bool.and_eq_true, decide_eq_true_eq] at h
  exact h
def Th.okI (t : Th) : Prop := Ytofdoadpaedogaa.okI t.a ∧ Ytofdoadpaedogaa.okI t.b ∧ Ytofdoadpaedogaa.okI t.c ∧ Ytofdoadpaedogaa.okI t.d ∧ Ytofdoadpaedogaa.okI t.e ∧ Ytofdoadpaedogaa.okI t.f ∧ Ytofdoadpaedogaa.okI t.g ∧ Ytofdoadpaedogaa.okI t.h ∧ Ytofdoadpaedogaa.okI t.z
theorem cells23 : Try.prog.cellsOf 23 = 2 := by kernel_rfl
theorem cells3 : Try.prog.cellsOf 3 = 1 := by kernel_rfl
theorem cells45 : Try.prog.cellsOf 45 = 4 := by kernel_rfl
theorem cells47 : Try.prog.cellsOf 47 = 9 := by kernel_rfl
theorem cells24 : Try.prog.cellsOf 24 = 1 := by kernel_rfl
theorem cells26 : Try.prog.cellsOf 26 = 8 := by kernel_rfl
section
variable {H : Type} {enc : TypeId × Value → H} {w : World} {base : Nat} {spare : Nat → Bool} {held : Bool}
theorem trod_span {fuel : Nat} {cs : List Value} {x : DataW H × List MemPlace} (h : DataW.trod enc Try.prog w base spare held fuel 23 cs = some x) :
    ∃ a b, cs = [.int .i64 a, .int .i64 b] ∧ okI a ∧ okI b := by
  obtain ⟨y0, y1, n, -, hl, h0, h1⟩ := trod_struct2 Try.underlying23 h
  rw [cells23] at hl
  simp only [cells3] at h0 h1
  match cs, hl with
  | [c0, c1], _ =>
    obtain ⟨a, e0, -, wa⟩ := DataW.trod_int Try.underlying3 h0
    obtain ⟨b, e1, -, wb⟩ := DataW.trod_int Try.underlying3 h1
    simp at e0 e1
    exact ⟨a, b, by rw [e0, e1], wa, wb⟩
theorem trod_place {fuel : Nat} {cs : List Value} {x : DataW H × List MemPlace} (h : DataW.trod enc Try.prog w base spare held fuel 45 cs = some x) :
    ∃ a b c d, cs = [.int .i64 a, .int .i64 b, .int .i64 c, .int .i64 d] ∧ okI a ∧ okI b ∧ okI c ∧ okI d := by
  obtain ⟨y0, y1, n, -, hl, h0, h1⟩ := trod_struct2 Try.underlying45 h
  rw [cells45] at hl
  simp only [cells23] at h0 h1
  match cs, hl with
  | [c0, c1, c2, c3], _ =>
    obtain ⟨a, b, e0, wa, wb⟩ := trod_span h0
    obtain ⟨c, d, e1, wc, wd⟩ := trod_span h1
    simp at e0 e1
    exact ⟨a, b, c, d, by rw [e0.1, e0.2, e1.1, e1.2], wa, wb, wc, wd⟩
set_option maxRecDepth 100000 in
theorem trod_thing {fuel : Nat} {cs : List Value} {x : DataW H × List MemPlace} (h : DataW.trod enc Try.prog w base spare held fuel 47 cs = some x) :
    ∃ t : Th, cs = t.vals ∧ t.okI := by
  obtain ⟨y0, y1, y2, n, -, hl, h0, h1, h2⟩ := trod_struct3 Try.underlying47 h
  rw [cells47] at hl
  simp only [cells45] at h0 h1
  simp only [cells3] at h2
  match cs, hl with
  | [c0, c1, c2, c3, c4, c5, c6, c7, c8], _ =>
    obtain ⟨a, b, c, d, e0, wa, wb, wc, wd⟩ := trod_place h0
    obtain ⟨e, f, g, k, e1, we, wf, wg, wk⟩ := trod_place h1
    obtain ⟨z, e2, -, wz⟩ := DataW.trod_int Try.underlying3 h2
    simp at e0 e1 e2
    exact ⟨⟨a, b, c, d, e, f, g, k, z⟩, by rw [e0.1, e0.2.1, e0.2.2.1, e0.2.2.2, e1.1, e1.2.1, e1.2.2.1, e1.2.2.2, e2]; rfl, wa, wb, wc, wd, we, wf, wg, wk, wz⟩
set_option maxRecDepth 100000 in
/-- The pair's value: seven numbers and a slice, whose things are there. -/
theorem trod_pair {fuel : Nat} {cs : List Value} {x : DataW H × List MemPlace} (h : DataW.trod enc Try.prog w base spare held fuel 26 cs = some x) :
    ∃ fl fh bl bh ti ne fa v, cs = [.int .i64 fl, .int .i64 fh, .int .i64 bl, .int .i64 bh, .int .i64 ti, .int .i64 ne, .int .i64 fa, v] ∧ (okI fl ∧ okI fh ∧ okI bl ∧ okI bh ∧ okI ti ∧ okI ne ∧ okI fa) ∧
      ∃ n y, DataW.trod enc Try.prog w base spare held n 24 [v] = some y := by
  obtain ⟨xs, n, -, -, hl, hlen, hf⟩ := DataW.trod_struct Try.underlying26 h
  rw [cells26] at hl
  match cs, hl with
  | [c0, c1, c2, c3, c4, c5, c6, c7], _ =>
  match xs, hlen with
  | [y0, y1, y2, y3, y4, y5], _ =>
    have h0 := hf 0 _ rfl
    have h1 := hf 1 _ rfl
    have h2 := hf 2 _ rfl
    have h3 := hf 3 _ rfl
    have h4 := hf 4 _ rfl
    have h5 := hf 5 _ rfl
    simp [cells23, cells3, cells24] at h0 h1 h2 h3 h4 h5
    obtain ⟨a, b, e0, wa, wb⟩ := trod_span h0
    obtain ⟨c, d, e1, wc, wd⟩ := trod_span h1
    obtain ⟨e, e2, -, we⟩ := DataW.trod_int Try.underlying3 h2
    obtain ⟨f, e3, -, wf⟩ := DataW.trod_int Try.underlying3 h3
    obtain ⟨g, e4, -, wg⟩ := DataW.trod_int Try.underlying3 h4
    simp at e0 e1 e2 e3 e4
    exact ⟨a, b, c, d, e, f, g, c7, by rw [e0.1, e0.2, e1.1, e1.2, e2, e3, e4], ⟨wa, wb, wc, wd, we, wf, wg⟩, n, y5, h5⟩
end
/-- What a law is told of a pair that came in. -/
def PairIn (p : Pr) (sp : Option Addr) (len cap : Nat) (w : World) : Prop :=
  okI p.fl ∧ okI p.fh ∧ okI p.bl ∧ okI p.bh ∧ okI p.ti ∧ okI p.ne ∧ okI p.fa ∧ p.l.length = len ∧ len ≤ maxLen ∧ (len ≤ 1000 → ThingsAt p.l (.slice sp len cap) w) ∧ ∀ t ∈ p.l, t.okI
set_option maxRecDepth 100000 in
theorem open_pair {H : Type} {enc : TypeId × Value → H} {W : World} {base : Nat} {v : Value} {d : DataW H} {ps : List MemPlace} (hval : Value.okWide Try.prog W .any base 26 v)
    (h : DataW.Trod enc Try.prog W 0 (fun _ => true) true 26 v d ps) : ∃ (p : Pr) (sp : Option Addr) (len cap : Nat), v = p.val (.slice sp len cap) ∧ PairIn p sp len cap W := by
  obtain ⟨cs, rfl, hsz, ts, hts, hn, hrow⟩ : ∃ cs, v = .agg cs ∧ cs.size = Try.prog.cellsOf 26 ∧ Row.okWide Try.prog W .any base 26 cs := by
    have := hval
    unfold Value.okWide at this
    rw [Try.underlying26] at this
    exact this
  obtain ⟨fuel, hf⟩ := h
  obtain ⟨fl, fh, bl, bh, ti, ne, fa, sv, hcs, hi, n, y, hy⟩ := trod_pair hf
  have hcs' : cs = #[.int .i64 fl, .int .i64 fh, .int .i64 bl, .int .i64 bh, .int .i64 ti, .int .i64 ne, .int .i64 fa, sv] := by
    have e : (Value.agg cs).cells = cs := rfl
    rw [e] at hcs
    exact Array.toList_inj.1 hcs
  subst hcs'
  rcases open_slice Try.underlying24 hy with ⟨e, -⟩ | ⟨a, len, cap, m, n', D, Pl, e, -, hl, hm, hmm, -, hx⟩
  · simp at e
    subst e
    exact ⟨⟨fl, fh, bl, bh, ti, ne, fa, []⟩, none, 0, 0, rfl, hi.1, hi.2.1, hi.2.2.1, hi.2.2.2.1, hi.2.2.2.2.1, hi.2.2.2.2.2.1, hi.2.2.2.2.2.2, rfl, Nat.zero_le _, fun _ => ⟨Nat.zero_le _, .inl ⟨rfl, rfl⟩⟩, fun _ h => by cases h⟩
  · simp at e
    subst e
    have hcell : ∃ u, ts[7 % ts.length]? = some u ∧ Cell.okWide Try.prog W .any base u (.slice (some a) len cap) := hrow 7 _ rfl
    obtain ⟨u, hu, hc⟩ := hcell
    have hts' : ts = [3, 3, 3, 3, 3, 3, 3, 24] := by
      have e : Try.prog.cellTypes Try.prog.depth 26 = some [3, 3, 3, 3, 3, 3, 3, 24] := by kernel_rfl
      rw [e] at hts; exact (Option.some.inj hts).symm
    subst hts'
    simp at hu
    subst hu
    simp [Cell.okWide, Cell.ok, Try.underlying24] at hc
    obtain ⟨-, -, hhas⟩ := hc
    obtain ⟨-, hspot, row, cells, hshape, -⟩ := hhas
    have hlt : a.block < W.heap.size := by
      apply Nat.lt_of_not_le; intro hc
      have : W.heap[a.block]? = none := by simpa using hc
      simp [World.shape?, this] at hshape
    have hml : len ≤ m := by rw [hmm]; split <;> omega
    obtain ⟨f, hf⟩ := choose_lt (α := Option Th) (n := len) (p := fun i t => ∃ t', t = some t' ∧ W.cells? 0 (a.add (i * 9)) 9 = some t'.vals ∧ t'.okI) (fun i hi => by
      obtain ⟨cs', h1, h2⟩ := hx i (by omega)
      rw [cells47] at h1
      obtain ⟨t, rfl, ht⟩ := trod_thing h2
      exact ⟨some t, t, rfl, h1, ht⟩)
    refine ⟨⟨fl, fh, bl, bh, ti, ne, fa, (List.range len).map fun i => (f i).getD ⟨0, 0, 0, 0, 0, 0, 0, 0, 0⟩⟩, some a, len, cap, rfl, hi.1, hi.2.1, hi.2.2.1, hi.2.2.2.1, hi.2.2.2.2.1, hi.2.2.2.2.2.1, hi.2.2.2.2.2.2, by simp, by omega, ?_, ?_⟩
    · intro h1000
      refine ⟨by simpa using h1000, .inr ⟨a.block, a.off, cap, ?_, hlt, ?_⟩⟩
      · obtain ⟨b, o, s⟩ := a
        simp at hspot
        subst hspot
        simp
      · intro i t hi
        have hil : i < len := by
          have := (List.getElem?_eq_some_iff.1 hi).1
          simpa using this
        obtain ⟨t', e1, h1, -⟩ := hf i hil
        have et : t = t' := by simp [hil, e1] at hi; exact hi.symm
        subst et
        obtain ⟨-, hlen, hc⟩ := World.cells?_some h1
        refine CellsFrom.mk fun j x hx => ?_
        have hj : j < 9 := by have := (List.getElem?_eq_some_iff.1 hx).1; simpa [Th.vals] using this
        have := hc j hj
        rw [hx] at this
        rw [← this]
        obtain ⟨b, o, s⟩ := a
        simp at hspot
        subst hspot
        congr 1
        unfold Addr.add
        by_cases h0 : i * 9 = 0 <;> by_cases h00 : j = 0 <;> simp [h0, h00]
    · intro t ht
      obtain ⟨i, hi, rfl⟩ := List.mem_map.1 ht
      obtain ⟨t', e1, -, h3⟩ := hf i (List.mem_range.1 hi)
      rw [e1]; exact h3
end Go.Proofs.Ytofdoadpaedogaa
