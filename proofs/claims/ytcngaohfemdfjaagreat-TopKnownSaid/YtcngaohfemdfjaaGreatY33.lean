import Derived.BigQuiet
import Derived.ChangeAlike
import Derived.Deep.AppendLies
import Derived.Deep.CutBlock
import Derived.Deep.DeepCutAuto
import Derived.Deep.Slices
import Derived.Deep.Strs
import Derived.Defers
import Derived.Laws.CopyOwn
import Derived.Laws.EntriesVeiled
import Derived.Laws.Pointers
import Derived.Laws.Rows
import Derived.Laws.StructEq
import Derived.Laws.Tables
import Derived.Lib.Hide
import Derived.Lib.SmallJoins
import Derived.LoopIn
import Derived.LoopN
import Derived.LoopNIn
import Derived.MapKept
import Derived.OrdersIn
import Derived.OwnWalkIn
import Derived.ProofKit
import Derived.RangeFuncBound
import Derived.RangeFuncCalls
import Derived.RangeFuncFrom
import Derived.RangeFuncLeaves
import Derived.RangeFuncNested
import Derived.Recover
import Derived.RegionTactic
import Derived.Shelf.Abstract
import Derived.Shelf.RegionOpen
import Derived.ShutString
import Derived.StillTail
import Derived.TacticsInMore
import Derived.Test.YtcngaohfemdfjaaGreatRows
import Derived.WalkKit
import Derived.WalkLawsBesides
import Derived.WalkMore
import Derived.WalkSpells
import Derived.Test.YtcngaohfemdfjaaGreatY02
import Derived.Test.YtcngaohfemdfjaaGreatY05
import Derived.Test.YtcngaohfemdfjaaGreatY06
import Derived.Test.YtcngaohfemdfjaaGreatY07
import Derived.Test.YtcngaohfemdfjaaGreatY12
import Derived.Test.YtcngaohfemdfjaaGreatY15
import Derived.Test.YtcngaohfemdfjaaGreatY17
import Derived.Test.YtcngaohfemdfjaaGreatY19
import Derived.Test.YtcngaohfemdfjaaGreatY20
import Derived.Test.YtcngaohfemdfjaaGreatY21
import Derived.Test.YtcngaohfemdfjaaGreatY23
import Derived.Test.YtcngaohfemdfjaaGreatY24
import Derived.Test.YtcngaohfemdfjaaGreatY31
import Derived.Test.YtcngaohfemdfjaaGreatY32
import Derived.Test.YtcngaohfemdfjaaGreatZ00
import Derived.Test.YtcngaohfemdfjaaGreatZ01
import Derived.Test.YtcngaohfemdfjaaGreatZ02
import Derived.Test.YtcngaohfemdfjaaGreatZ03
import Derived.Test.YtcngaohfemdfjaaGreatZ06
import Derived.Test.YtcngaohfemdfjaaGreatZ07
import Derived.Test.YtcngaohfemdfjaaGreatZ09
set_option linter.unusedVariables false
set_option linter.unusedSimpArgs false
namespace Go.Proofs.YtcngaohfemdfjaaGreat
open Go.ChangeShapes Go.WideShapes Go.ChangeAt Go.RowKit Go.Deep
def okI (n : Int) : Prop := (Lit.int .i64 n).wf = true
theorem okI.b {n : Int} (h : okI n) : -9223372036854775808 ≤ n ∧ n ≤ 9223372036854775807 := by
  unfold okI at h
  simp only [Lit.wf, Bool.and_eq_true, decide_eq_true_eq] at h
  exact h
def Th.okI (t : Th) : Prop := YtcngaohfemdfjaaGreat.okI t.a ∧ YtcngaohfemdfjaaGreat.okI t.b ∧ YtcngaohfemdfjaaGreat.okI t.c ∧ YtcngaohfemdfjaaGreat.okI t.d ∧ YtcngaohfemdfjaaGreat.okI t.e ∧ YtcngaohfemdfjaaGreat.okI t.f ∧ YtcngaohfemdfjaaGreat.okI t.g ∧ YtcngaohfemdfjaaGreat.okI t.h ∧ YtcngaohfemdfjaaGreat.okI t.z
theorem cells23 : Tryz.prog.cellsOf 23 = 2 := by kernel_rfl
theorem cells3 : Tryz.prog.cellsOf 3 = 1 := by kernel_rfl
theorem cells45 : Tryz.prog.cellsOf 50 = 4 := by kernel_rfl
theorem cells47 : Tryz.prog.cellsOf 52 = 9 := by kernel_rfl
theorem cells24 : Tryz.prog.cellsOf 24 = 1 := by kernel_rfl
theorem cells26 : Tryz.prog.cellsOf 26 = 8 := by kernel_rfl
section
variable {H : Type} {enc : TypeId × Value → H} {w : World} {base : Nat} {spare : Nat → Bool} {held : Bool}
theorem trod_span {fuel : Nat} {cs : List Value} {x : DataW H × List MemPlace} (h : DataW.trod enc Tryz.prog w base spare held fuel 23 cs = some x) :
    ∃ a b, cs = [.int .i64 a, .int .i64 b] ∧ okI a ∧ okI b := by
  obtain ⟨y0, y1, n, -, hl, h0, h1⟩ := trod_struct2 Tryz.underlying23 h
  rw [cells23] at hl
  simp only [cells3] at h0 h1
  match cs, hl with
  | [c0, c1], _ =>
    obtain ⟨a, e0, -, wa⟩ := DataW.trod_int Tryz.underlying3 h0
    obtain ⟨b, e1, -, wb⟩ := DataW.trod_int Tryz.underlying3 h1
    simp at e0 e1
    exact ⟨a, b, by rw [e0, e1], wa, wb⟩
theorem trod_place {fuel : Nat} {cs : List Value} {x : DataW H × List MemPlace} (h : DataW.trod enc Tryz.prog w base spare held fuel 50 cs = some x) :
    ∃ a b c d, cs = [.int .i64 a, .int .i64 b, .int .i64 c, .int .i64 d] ∧ okI a ∧ okI b ∧ okI c ∧ okI d := by
  obtain ⟨y0, y1, n, -, hl, h0, h1⟩ := trod_struct2 Tryz.underlying50 h
  rw [cells45] at hl
  simp only [cells23] at h0 h1
  match cs, hl with
  | [c0, c1, c2, c3], _ =>
    obtain ⟨a, b, e0, wa, wb⟩ := trod_span h0
    obtain ⟨c, d, e1, wc, wd⟩ := trod_span h1
    simp at e0 e1
    exact ⟨a, b, c, d, by rw [e0.1, e0.2, e1.1, e1.2], wa, wb, wc, wd⟩
set_option maxRecDepth 100000 in
theorem trod_thing {fuel : Nat} {cs : List Value} {x : DataW H × List MemPlace} (h : DataW.trod enc Tryz.prog w base spare held fuel 52 cs = some x) :
    ∃ t : Th, cs = t.vals ∧ t.okI := by
  obtain ⟨y0, y1, y2, n, -, hl, h0, h1, h2⟩ := trod_struct3 Tryz.underlying52 h
  rw [cells47] at hl
  simp only [cells45] at h0 h1
  simp only [cells3] at h2
  match cs, hl with
  | [c0, c1, c2, c3, c4, c5, c6, c7, c8], _ =>
    obtain ⟨a, b, c, d, e0, wa, wb, wc, wd⟩ := trod_place h0
    obtain ⟨e, f, g, k, e1, we, wf, wg, wk⟩ := trod_place h1
    obtain ⟨z, e2, -, wz⟩ := DataW.trod_int Tryz.underlying3 h2
    simp at e0 e1 e2
    exact ⟨⟨a, b, c, d, e, f, g, k, z⟩, by rw [e0.1, e0.2.1, e0.2.2.1, e0.2.2.2, e1.1, e1.2.1, e1.2.2.1, e1.2.2.2, e2]; rfl, wa, wb, wc, wd, we, wf, wg, wk, wz⟩
set_option maxRecDepth 100000 in
theorem trod_pair {fuel : Nat} {cs : List Value} {x : DataW H × List MemPlace} (h : DataW.trod enc Tryz.prog w base spare held fuel 26 cs = some x) :
    ∃ fl fh bl bh ti ne fa v, cs = [.int .i64 fl, .int .i64 fh, .int .i64 bl, .int .i64 bh, .int .i64 ti, .int .i64 ne, .int .i64 fa, v] ∧ (okI fl ∧ okI fh ∧ okI bl ∧ okI bh ∧ okI ti ∧ okI ne ∧ okI fa) ∧
      ∃ n y, DataW.trod enc Tryz.prog w base spare held n 24 [v] = some y := by
  obtain ⟨xs, n, -, -, hl, hlen, hf⟩ := DataW.trod_struct Tryz.underlying26 h
  rw [cells26] at hl
  match cs, hl with
  | [c0, c1, c2, c3, c4, c5, c6, c7], _ =>
  match xs, hlen with
  | [y0, y1, y2, y3, y4, y5], _ =>
    have h0 := hf 0 _ rfl
    have h1 := hf 1 _ rfl
    have h2 := hf 2 _ rfl
    have h3 := hf 3 _ rfl
    have h4 := hf 4 _ rfl
    have h5 := hf 5 _ rfl
    simp [cells23, cells3, cells24] at h0 h1 h2 h3 h4 h5
    obtain ⟨a, b, e0, wa, wb⟩ := trod_span h0
    obtain ⟨c, d, e1, wc, wd⟩ := trod_span h1
    obtain ⟨e, e2, -, we⟩ := DataW.trod_int Tryz.underlying3 h2
    obtain ⟨f, e3, -, wf⟩ := DataW.trod_int Tryz.underlying3 h3
    obtain ⟨g, e4, -, wg⟩ := DataW.trod_int Tryz.underlying3 h4
    simp at e0 e1 e2 e3 e4
    exact ⟨a, b, c, d, e, f, g, c7, by rw [e0.1, e0.2, e1.1, e1.2, e2, e3, e4], ⟨wa, wb, wc, wd, we, wf, wg⟩, n, y5, h5⟩
end
def PairIn (p : Pr) (sp : Option Addr) (len cap : Nat) (w : World) : Prop :=
  okI p.fl ∧ okI p.fh ∧ okI p.bl ∧ okI p.bh ∧ okI p.ti ∧ okI p.ne ∧ okI p.fa ∧ p.l.length = len ∧ len ≤ maxLen ∧ (len ≤ 1000 → ThingsAt p.l (.slice sp len cap) w) ∧ ∀ t ∈ p.l, t.okI
end Go.Proofs.YtcngaohfemdfjaaGreat
namespace Go.Proofs.YtcngaohfemdfjaaGreat
open Go.ChangeShapes Go.WideShapes Go.ChangeAt Go.RowKit Go.Deep
theorem cells28 : Tryz.prog.cellsOf 28 = 17 := by kernel_rfl
theorem cells30 : Tryz.prog.cellsOf 30 = 4 := by kernel_rfl
section
variable {H : Type} {enc : TypeId × Value → H} {w : World} {base : Nat} {spare : Nat → Bool} {held : Bool}
set_option maxRecDepth 100000 in
theorem trod_card {fuel : Nat} {cs : List Value} {x : DataW H × List MemPlace} (h : DataW.trod enc Tryz.prog w base spare held fuel 28 cs = some x) :
    ∃ fl fh bl bh ti ne fa v q0 q1 q2 q3 q4 q5 q6 q7 q8, cs = [.int .i64 fl, .int .i64 fh, .int .i64 bl, .int .i64 bh, .int .i64 ti, .int .i64 ne, .int .i64 fa, v, .int .i64 q0, .int .i64 q1, .int .i64 q2, .int .i64 q3, .int .i64 q4, .int .i64 q5, .int .i64 q6, .int .i64 q7, .int .i64 q8] ∧ (okI fl ∧ okI fh ∧ okI bl ∧ okI bh ∧ okI ti ∧ okI ne ∧ okI fa) ∧ (okI q0 ∧ okI q1 ∧ okI q2 ∧ okI q3 ∧ okI q4 ∧ okI q5 ∧ okI q6 ∧ okI q7 ∧ okI q8) ∧
      ∃ n y, DataW.trod enc Tryz.prog w base spare held n 24 [v] = some y := by
  obtain ⟨xs, n, -, -, hl, hlen, hf⟩ := DataW.trod_struct Tryz.underlying28 h
  rw [cells28] at hl
  match cs, hl with
  | [c0, c1, c2, c3, c4, c5, c6, c7, c8, c9, c10, c11, c12, c13, c14, c15, c16], _ =>
  match xs, hlen with
  | [y0, y1, y2, y3, y4, y5, y6, y7, y8], _ =>
    have h0 := hf 0 _ rfl
    have h1 := hf 1 _ rfl
    have h2 := hf 2 _ rfl
    have h3 := hf 3 _ rfl
    have h4 := hf 4 _ rfl
    have h5 := hf 5 _ rfl
    have h6 := hf 6 _ rfl
    have h7 := hf 7 _ rfl
    have h8 := hf 8 _ rfl
    simp [cells23, cells3, cells26] at h0 h1 h2 h3 h4 h5 h6 h7 h8
    obtain ⟨fl, fh, bl, bh, ti, ne, fa, v, e0, w0, wv⟩ := trod_pair h0
    obtain ⟨a1, e1, -, w1⟩ := DataW.trod_int Tryz.underlying3 h1
    obtain ⟨a2, e2, -, w2⟩ := DataW.trod_int Tryz.underlying3 h2
    obtain ⟨a3, e3, -, w3⟩ := DataW.trod_int Tryz.underlying3 h3
    obtain ⟨a5, e5, -, w5⟩ := DataW.trod_int Tryz.underlying3 h5
    obtain ⟨a6, e6, -, w6⟩ := DataW.trod_int Tryz.underlying3 h6
    obtain ⟨a7, e7, -, w7⟩ := DataW.trod_int Tryz.underlying3 h7
    obtain ⟨a8, e8, -, w8⟩ := DataW.trod_int Tryz.underlying3 h8
    obtain ⟨a4, b4, e4, w4, w4'⟩ := trod_span h4
    simp at e0 e1 e2 e3 e4 e5 e6 e7 e8
    obtain ⟨e00, e01, e02, e03, e04, e05, e06, e07⟩ := e0
    exact ⟨fl, fh, bl, bh, ti, ne, fa, v, a1, a2, a3, a4, b4, a5, a6, a7, a8, by rw [e00, e01, e02, e03, e04, e05, e06, e07, e1, e2, e3, e4.1, e4.2, e5, e6, e7, e8], w0, ⟨w1, w2, w3, w4, w4', w5, w6, w7, w8⟩, wv⟩
set_option maxRecDepth 100000 in
theorem trod_cuts {fuel : Nat} {cs : List Value} {x : DataW H × List MemPlace} (h : DataW.trod enc Tryz.prog w base spare held fuel 30 cs = some x) :
    ∃ u : Cu, cs = [.int .i64 u.a, .int .i64 u.b, .int .i64 u.c, .int .i64 u.d] ∧ okI u.a ∧ okI u.b ∧ okI u.c ∧ okI u.d := by
  obtain ⟨xs, n, -, -, hl, hlen, hf⟩ := DataW.trod_struct Tryz.underlying30 h
  rw [cells30] at hl
  match cs, hl with
  | [c0, c1, c2, c3], _ =>
  match xs, hlen with
  | [y0, y1, y2, y3], _ =>
    have h0 := hf 0 _ rfl
    have h1 := hf 1 _ rfl
    have h2 := hf 2 _ rfl
    have h3 := hf 3 _ rfl
    simp [cells3] at h0 h1 h2 h3
    obtain ⟨a, e0, -, wa⟩ := DataW.trod_int Tryz.underlying3 h0
    obtain ⟨b, e1, -, wb⟩ := DataW.trod_int Tryz.underlying3 h1
    obtain ⟨c, e2, -, wc⟩ := DataW.trod_int Tryz.underlying3 h2
    obtain ⟨d, e3, -, wd⟩ := DataW.trod_int Tryz.underlying3 h3
    simp at e0 e1 e2 e3
    exact ⟨⟨a, b, c, d⟩, by rw [e0, e1, e2, e3], wa, wb, wc, wd⟩
end
def CardIn (k : Cd) (len : Nat) (w : World) : Prop := PairIn k.p k.sp len k.cap w ∧ okI k.half ∧ okI k.step ∧ okI k.cuts ∧ okI k.elo ∧ okI k.ehi ∧ okI k.prism ∧ okI k.squeeze ∧ okI k.front ∧ okI k.deep
set_option maxRecDepth 100000 in
theorem open_card {H : Type} {enc : TypeId × Value → H} {W : World} {base : Nat} {v : Value} {d : DataW H} {ps : List MemPlace} (hval : Value.okWide Tryz.prog W .any base 28 v)
    (h : DataW.Trod enc Tryz.prog W 0 (fun _ => true) true 28 v d ps) : ∃ (k : Cd) (len : Nat), v = .agg k.cs.toArray ∧ CardIn k len W := by
  obtain ⟨cs, rfl, hsz, ts, hts, hn, hrow⟩ : ∃ cs, v = .agg cs ∧ cs.size = Tryz.prog.cellsOf 28 ∧ Row.okWide Tryz.prog W .any base 28 cs := by
    have := hval
    unfold Value.okWide at this
    rw [Tryz.underlying28] at this
    exact this
  obtain ⟨fuel, hf⟩ := h
  obtain ⟨fl, fh, bl, bh, ti, ne, fa, sv, q0, q1, q2, q3, q4, q5, q6, q7, q8, hcs, hi, hqq, n, y, hy⟩ := trod_card hf
  have hcs' : cs = #[.int .i64 fl, .int .i64 fh, .int .i64 bl, .int .i64 bh, .int .i64 ti, .int .i64 ne, .int .i64 fa, sv, .int .i64 q0, .int .i64 q1, .int .i64 q2, .int .i64 q3, .int .i64 q4, .int .i64 q5, .int .i64 q6, .int .i64 q7, .int .i64 q8] := by
    have e : (Value.agg cs).cells = cs := rfl
    rw [e] at hcs
    exact Array.toList_inj.1 hcs
  subst hcs'
  rcases open_slice Tryz.underlying24 hy with ⟨e, -⟩ | ⟨a, len, cap, m, n', D, Pl, e, -, hl, hm, hmm, -, hx⟩
  · simp at e
    subst e
    exact ⟨⟨⟨fl, fh, bl, bh, ti, ne, fa, []⟩, none, 0, q0, q1, q2, q3, q4, q5, q6, q7, q8⟩, 0, rfl, ⟨hi.1, hi.2.1, hi.2.2.1, hi.2.2.2.1, hi.2.2.2.2.1, hi.2.2.2.2.2.1, hi.2.2.2.2.2.2, rfl, Nat.zero_le _, fun _ => ⟨Nat.zero_le _, .inl ⟨rfl, rfl⟩⟩, fun _ h => by cases h⟩, hqq⟩
  · simp at e
    subst e
    have hcell : ∃ u, ts[7 % ts.length]? = some u ∧ Cell.okWide Tryz.prog W .any base u (.slice (some a) len cap) := hrow 7 _ rfl
    obtain ⟨u, hu, hc⟩ := hcell
    have hts' : ts = [3, 3, 3, 3, 3, 3, 3, 24, 3, 3, 3, 3, 3, 3, 3, 3, 3] := by
      have e : Tryz.prog.cellTypes Tryz.prog.depth 28 = some [3, 3, 3, 3, 3, 3, 3, 24, 3, 3, 3, 3, 3, 3, 3, 3, 3] := by kernel_rfl
      rw [e] at hts; exact (Option.some.inj hts).symm
    subst hts'
    simp at hu
    subst hu
    simp [Cell.okWide, Cell.ok, Tryz.underlying24] at hc
    obtain ⟨-, -, hhas⟩ := hc
    obtain ⟨-, hspot, row, cells, hshape, -⟩ := hhas
    have hlt : a.block < W.heap.size := by
      apply Nat.lt_of_not_le; intro hc
      have : W.heap[a.block]? = none := by simpa using hc
      simp [World.shape?, this] at hshape
    have hml : len ≤ m := by rw [hmm]; split <;> omega
    obtain ⟨f, hf⟩ := choose_lt (α := Option Th) (n := len) (p := fun i t => ∃ t', t = some t' ∧ W.cells? 0 (a.add (i * 9)) 9 = some t'.vals ∧ t'.okI) (fun i hi => by
      obtain ⟨cs', h1, h2⟩ := hx i (by omega)
      rw [cells47] at h1
      obtain ⟨t, rfl, ht⟩ := trod_thing h2
      exact ⟨some t, t, rfl, h1, ht⟩)
    refine ⟨⟨⟨fl, fh, bl, bh, ti, ne, fa, (List.range len).map fun i => (f i).getD ⟨0, 0, 0, 0, 0, 0, 0, 0, 0⟩⟩, some a, cap, q0, q1, q2, q3, q4, q5, q6, q7, q8⟩, len, ?_, ⟨hi.1, hi.2.1, hi.2.2.1, hi.2.2.2.1, hi.2.2.2.2.1, hi.2.2.2.2.2.1, hi.2.2.2.2.2.2, by simp, by omega, ?_, ?_⟩, hqq⟩
    · simp [Cd.cs]
    · intro h1000
      refine ⟨by simpa using h1000, .inr ⟨a.block, a.off, cap, ?_, hlt, ?_⟩⟩
      · obtain ⟨b, o, s⟩ := a
        simp at hspot
        subst hspot
        simp
      · intro i t hi
        have hil : i < len := by
          have := (List.getElem?_eq_some_iff.1 hi).1
          simpa using this
        obtain ⟨t', e1, h1, -⟩ := hf i hil
        have et : t = t' := by simp [hil, e1] at hi; exact hi.symm
        subst et
        obtain ⟨-, hlen, hc⟩ := World.cells?_some h1
        refine CellsFrom.mk fun j x hx => ?_
        have hj : j < 9 := by have := (List.getElem?_eq_some_iff.1 hx).1; simpa [Th.vals] using this
        have := hc j hj
        rw [hx] at this
        rw [← this]
        obtain ⟨b, o, s⟩ := a
        simp at hspot
        subst hspot
        congr 1
        unfold Addr.add
        by_cases h0 : i * 9 = 0 <;> by_cases h00 : j = 0 <;> simp [h0, h00]
    · intro t ht
      obtain ⟨i, hi, rfl⟩ := List.mem_map.1 ht
      obtain ⟨t', e1, -, h3⟩ := hf i (List.mem_range.1 hi)
      rw [e1]; exact h3
end Go.Proofs.YtcngaohfemdfjaaGreat
namespace Go.Proofs.YtcngaohfemdfjaaGreat
open Go.RowKit
def Cd.turns (k : Cd) (u : Cu) (m : Nat) (n : Int) (i : Nat) : Bool := m.testBit i && (decide (2 * k.half - k.step * (u.b + u.c) - (k.p.shift i).2.1 < n - k.squeeze) || decide (n + k.prism < 2 * k.half - k.step * (u.b + u.c) - (k.p.shift i).1))
def Cd.turned (k : Cd) (u : Cu) (m : Nat) (n : Int) : Bool := (List.range k.p.l.length).any (k.turns u m n)
theorem bit_shr (m j : Nat) (hm : m < 4096) (hj : j < 12) : bits BinOp.and IntKind.i64 ((m : Int) / 2 ^ j) 1 = 1 ↔ m.testBit j = true := by
  have h1 : m / 2 ^ j ≤ m := Nat.div_le_self _ _
  rw [show ((m : Int) / 2 ^ j) = ((m / 2 ^ j : Nat) : Int) from by simp, show (1 : Int) = ((1 : Nat) : Int) from rfl, (bits_nat .i64 63 (by decide) wraps_i64 (m / 2 ^ j) 1 (by omega) (by omega)).1, Nat.and_one_is_mod, Nat.testBit_eq_decide_div_mod_eq, decide_eq_true_eq]
  generalize m / 2 ^ j % 2 = z
  omega
set_option maxRecDepth 100000 in
set_option maxHeartbeats 2000000 in
theorem turned_any (k : Cd) (u : Cu) (bc bu bs m : Nat) (n : Int) (hok : k.p.ok = true) (hk : k.okc = true) (hu : u.isT k.cuts = true) (hm : m < 4096) (hn : 0 ≤ n ∧ n ≤ 20000) (w : World) (hT : ThingsAt k.p.l (.slice k.sp k.p.l.length k.cap) w)
    (hc : Box w bc k.cs 28) (hb : Box w bu [.int .i64 u.a, .int .i64 u.b, .int .i64 u.c, .int .i64 u.d] 30) (hs : Box w bs [.int .i64 (m : Nat)] 3) :
    Calls Tryz.prog 36 #[.int .i64 n, .pointer (some ⟨bc, 0, none⟩), .pointer (some ⟨bu, 0, none⟩), .pointer (some ⟨bs, 0, none⟩)] w fun e w' => e = .returned (.bool (k.turned u m n)) ∧ Below w.heap.size w w' := by
  have htm := tm_ok (mb := 0) (u := u) hk hu
  have x1 := htm.half
  have x2 := htm.step
  have x3 := htm.prism
  have x4 := htm.squeeze
  have x5 := htm.b
  have x6 := htm.c
  dsimp only at x1 x2 x3 x4 x5 x6
  have hst := step_mul (s := k.step) (x := u.b + u.c) (by omega) (by omega)
  have HT := Lib.hid hT
  have HC := Lib.hid hc
  have HB := Lib.hid hb
  have HS := Lib.hid hs
  have HOK := Lib.hid hok
  have hlen := (k.p.bounds hok).len
  have c8 := hc.cell (i := 8) rfl
  have c9 := hc.cell (i := 9) rfl
  have c7 := hc.cell (i := 7) rfl
  have u1 := hb.cell (i := 1) rfl
  have u2 := hb.cell (i := 2) rfl
  have cl := hc.lt
  have ul := hb.lt
  have sl := hs.lt
  clear htm hT hc hb hs hok hk hu
  generalize hal : 2 * k.half - k.step * (u.b + u.c) = all
  generalize hsb : k.step * (u.b + u.c) = sb at *
  go_enter Tryz.func36, Tryz.ntmps36
  go_wp2_with fail
  clear c8 c9 c7 u1 u2
  have HW := Lib.hid (Gr.same w)
  go_loopw [26] (fun i wr => ∃ j : Nat, j ≤ k.p.l.length ∧ i = .int .i64 j ∧ Hid (∀ q, q < j → k.turns u m n q = false) ∧ Below w.heap.size w wr) (fun i _ => k.p.l.length - (intOf i).toNat)
  case atStart => exact ⟨0, Nat.zero_le _, rfl, Lib.hid (fun q hq => absurd hq (by omega)), Below.refl _ _⟩
  case round =>
    obtain ⟨j, hj, rfl, HJ, hG⟩ := hrel
    have HG := Lib.hid (show Gr w wr from hG)
    clear hG
    by_cases hlt : j < k.p.l.length
    · have hcr := HC.out.grow HG.out
      have c0 := hcr.cell (i := 0) rfl
      have c1 := hcr.cell (i := 1) rfl
      have c2 := hcr.cell (i := 2) rfl
      have c3 := hcr.cell (i := 3) rfl
      have c4 := hcr.cell (i := 4) rfl
      have c5 := hcr.cell (i := 5) rfl
      have c6 := hcr.cell (i := 6) rfl
      have c7 := hcr.cell (i := 7) rfl
      have crl := hcr.lt
      clear hcr
      obtain ⟨t, ht⟩ : ∃ t, k.p.l[j]? = some t := ⟨_, List.getElem?_eq_getElem hlt⟩
      have hsn : k.p.seen[j]? = some (t.see k.p.ti k.p.ne k.p.fa) := by simp [Pr.seen, seenOf, ht]
      have hsh := Pr.shift_at HOK.out hsn
      have hth := ((k.p.bounds HOK.out).things t (List.mem_of_getElem? ht)).1
      obtain ⟨ha, hb', -, -, he, hf', -, -⟩ := hth
      unfold inPlate at ha hb' he hf'
      obtain ⟨lo, hlo⟩ : ∃ lo, (t.see k.p.ti k.p.ne k.p.fa).lo = lo := ⟨_, rfl⟩
      obtain ⟨hi, hhi⟩ : ∃ hi, (t.see k.p.ti k.p.ne k.p.fa).hi = hi := ⟨_, rfl⟩
      have hlo1 : -8000 ≤ lo ∧ lo ≤ 8000 := by rw [← hlo]; simp only [Th.see]; omega
      have hhi1 : -8000 ≤ hi ∧ hi ≤ 8000 := by rw [← hhi]; simp only [Th.see]; omega
      rw [hlo, hhi] at hsh
      have HSH := Lib.hid hsh
      clear hsh hsn ht hlo hhi ha hb' he hf'
      go_wp2_with fail
      refine (shift_is HSH.out (ThingsAt.lasts _ _ _ _ HT.out HG.out)).mono ?_
      rintro e w1 ⟨rfl, hb1⟩
      have HG1 := Lib.hid (HG.out.tr hb1)
      have hcr := HC.out.grow HG1.out
      have c13 := hcr.cell (i := 13) rfl
      have c14 := hcr.cell (i := 14) rfl
      have s0 := (HS.out.grow HG1.out).cell (i := 0) rfl
      have crl := hcr.lt
      have srl := (HS.out.grow HG1.out).lt
      clear hcr hb1 c0 c1 c2 c3 c4 c5 c6 c7
      have hturn : k.turns u m n j = (m.testBit j && (decide (all - hi < n - k.squeeze) || decide (n + k.prism < all - lo))) := by
        unfold Cd.turns
        rw [HSH.out, hsb, hal]
      have HTU := Lib.hid hturn
      have HBI := Lib.hid (bit_shr m j hm (by omega))
      clear hturn
      go_wp2_with fail
      · rename_i hq1 hq2 hq3
        have ht : k.turned u m n = true := List.any_eq_true.2 ⟨j, List.mem_range.2 hlt, by rw [HTU.out, HBI.out.1 hq1]; simp; omega⟩
        exact bodyPost_ret (v := .bool true) (by simp [results, Tryz.results36, go_sem]) rfl ⟨by rw [ht], HG1.out.tr (Gr.alloc _ _)⟩
      · rename_i hq1 hq2 hq3
        refine ⟨⟨j + 1, by omega, by go_num, Lib.hid (fun q hq => ?_), HG1.out.tr (Gr.alloc _ _)⟩, by simp [intOf]; omega⟩
        rcases Nat.lt_or_ge q j with h | h
        · exact HJ.out q h
        · have : q = j := by omega
          subst this
          rw [HTU.out]
          simp
          intro _
          omega
      · rename_i hq1 hq2
        have ht : k.turned u m n = true := List.any_eq_true.2 ⟨j, List.mem_range.2 hlt, by rw [HTU.out, HBI.out.1 hq1]; simp; omega⟩
        exact bodyPost_ret (v := .bool true) (by simp [results, Tryz.results36, go_sem]) rfl ⟨by rw [ht], HG1.out.tr (Gr.alloc _ _)⟩
      · rename_i hq1
        refine ⟨⟨j + 1, by omega, by go_num, Lib.hid (fun q hq => ?_), HG1.out.tr (Gr.alloc _ _)⟩, by simp [intOf]; omega⟩
        rcases Nat.lt_or_ge q j with h | h
        · exact HJ.out q h
        · have : q = j := by omega
          subst this
          rw [HTU.out]
          have hb0 : m.testBit q = false := by
            cases hb : m.testBit q with
            | false => rfl
            | true => exact absurd (HBI.out.2 hb) hq1
          rw [hb0, Bool.false_and]
    · have : j = k.p.l.length := by omega
      subst this
      have ht : k.turned u m n = false := List.any_eq_false.2 fun q hq => by rw [HJ.out q (List.mem_range.1 hq)]; simp
      go_wp2_with fail
      exact bodyPost_ret (v := .bool false) (by simp [results, Tryz.results36, go_sem]) rfl ⟨by rw [ht], HG.out⟩
end Go.Proofs.YtcngaohfemdfjaaGreat
namespace Go.Proofs.YtcngaohfemdfjaaGreat
open Go.RowKit
theorem Tm.eyesTo_cons (t : Tm) (a : Int × Int) (q : Int × Vw) (l : List (Int × Vw)) : t.eyesTo a (q :: l) = t.eyesTo (imax a.1 (t.dist q.2.sa - t.k.prism), imin a.2 (t.dist q.2.sb + t.k.squeeze)) l := rfl
theorem mimax_le {a b n : Int} : imax a b ≤ n ↔ a ≤ n ∧ b ≤ n := by unfold imax; split <;> omega
theorem mle_imin {a b n : Int} : n ≤ imin a b ↔ n ≤ a ∧ n ≤ b := by unfold imin; split <;> omega
theorem Tm.eyes_lo (t : Tm) (n : Int) : ∀ (l : List (Int × Vw)) (a : Int × Int), (t.eyesTo a l).1 ≤ n ↔ a.1 ≤ n ∧ ∀ q ∈ l, t.dist q.2.sa - t.k.prism ≤ n
  | [], a => by simp [Tm.eyesTo]
  | q :: l, a => by
    rw [Tm.eyesTo_cons, Tm.eyes_lo t n l, mimax_le]
    simp only [List.mem_cons, forall_eq_or_imp, and_assoc]
theorem Tm.eyes_hi (t : Tm) (n : Int) : ∀ (l : List (Int × Vw)) (a : Int × Int), n ≤ (t.eyesTo a l).2 ↔ n ≤ a.2 ∧ ∀ q ∈ l, n ≤ t.dist q.2.sb + t.k.squeeze
  | [], a => by simp [Tm.eyesTo]
  | q :: l, a => by
    rw [Tm.eyesTo_cons, Tm.eyes_hi t n l, mle_imin]
    simp only [List.mem_cons, forall_eq_or_imp, and_assoc]
theorem setTo_bit (l : List (Int × Vw)) (i : Nat) : (setTo l).testBit i = true ↔ ∃ q ∈ l, q.1.toNat = i := by
  have key : ∀ (l : List (Int × Vw)) (m : Nat), (l.foldl (fun m q => m ||| 2 ^ q.1.toNat) m).testBit i = true ↔ m.testBit i = true ∨ ∃ q ∈ l, q.1.toNat = i := by
    intro l
    induction l with
    | nil => intro m; simp
    | cons q l ih =>
      intro m
      rw [List.foldl_cons, ih]
      simp only [Nat.testBit_or, Nat.testBit_two_pow, Bool.or_eq_true, decide_eq_true_eq, List.mem_cons, exists_eq_or_imp, or_assoc]
  rw [setTo, key]
  simp
def Cd.fits (k : Cd) (u : Cu) (n : Int) : Prop := ∀ q ∈ k.p.sees, (⟨k, 0, u⟩ : Tm).dist q.2.sa - k.prism ≤ n ∧ n ≤ (⟨k, 0, u⟩ : Tm).dist q.2.sb + k.squeeze
theorem turned_fits {k : Cd} {u : Cu} (hok : k.p.ok = true) (n : Int) : k.turned u (setTo k.p.sees) n = false ↔ k.fits u n := by
  have sh : ∀ (q : Int × Vw) (i : Nat), k.p.view i = some q.2 → k.p.shift i = (q.2.sa, q.2.sb, 0) := by
    intro q i hv
    unfold Pr.view at hv
    cases ht : k.p.l[i]? with
    | none => rw [ht] at hv; cases hv
    | some t =>
      rw [ht] at hv
      have hs : k.p.seen[i]? = some (t.see k.p.ti k.p.ne k.p.fa) := by simp [Pr.seen, seenOf, ht]
      rw [hs] at hv
      dsimp only at hv
      split at hv
      · have e := Pr.shift_at hok hs
        rw [e]
        have h2 := Option.some.inj hv
        rw [← h2]
      · cases hv
  unfold Cd.turned Cd.fits
  rw [List.any_eq_false]
  constructor
  · intro h q hq
    obtain ⟨i, hi, h1, hv⟩ := mem_seesTo hq
    have := h i (List.mem_range.2 hi)
    unfold Cd.turns at this
    rw [sh q i hv, (setTo_bit _ i).2 ⟨q, hq, by rw [h1]; simp⟩] at this
    simp at this
    unfold Tm.dist
    dsimp only
    omega
  · intro h i hi
    unfold Cd.turns
    cases hb : (setTo k.p.sees).testBit i with
    | false => simp
    | true =>
      obtain ⟨q, hq, e⟩ := (setTo_bit _ i).1 hb
      obtain ⟨j, hj, h1, hv⟩ := mem_seesTo hq
      have : j = i := by rw [h1] at e; simpa using e
      subst this
      have := h q hq
      unfold Tm.dist at this
      dsimp only at this
      rw [sh q j hv]
      simp
      omega
theorem Tm.first_zero {t : Tm} : ∀ {l : List (Int × Vw)}, t.first l = (0, 0) → ∀ q ∈ l, t.why q.2 = 0
  | [], _ => fun q hq => by cases hq
  | r :: l, h => by
    unfold Tm.first at h
    split at h
    · intro q hq
      rcases List.mem_cons.1 hq with rfl | hq
      · assumption
      · exact Tm.first_zero h q hq
    · rename_i hn
      exact absurd (congrArg Prod.snd h) hn
theorem Tm.why_eyes {t : Tm} {x : Vw} (h : t.why x = 0) : t.k.ehi - t.k.squeeze ≤ t.dist x.sb ∧ t.dist x.sa ≤ t.k.elo + t.k.prism := by
  unfold Tm.why at h
  split at h
  · omega
  · split at h <;> omega
theorem err_none {k : Cd} {u : Cu} (h : k.err [u] = 0) : k.err [] = 0 := by
  obtain ⟨h1, h2, -, h4⟩ := Cd.err_zero h
  simp [Cd.err, h1, h2, h4]
end Go.Proofs.YtcngaohfemdfjaaGreat
namespace Go.Proofs.YtcngaohfemdfjaaGreat
open Go.RowKit
theorem mroom_is {k : Cd} {u : Cu} {x y e : Int} {w : World} (h : k.roomA u = (x, y, e)) (hT : ThingsAt k.p.l (.slice k.sp k.p.l.length k.cap) w) :
    Calls Tryz.prog 20 #[.agg k.cs.toArray, .agg #[.int .i64 u.a, .int .i64 u.b, .int .i64 u.c, .int .i64 u.d]] w fun e' w' => e' = .returned (.tuple #[.agg #[.int .i64 x, .int .i64 y], .int .i64 e]) ∧ Below w.heap.size w w' := by
  have := Room_any k u w hT
  rw [h] at this
  exact this
theorem mdeep_is {k : Cd} {u : Cu} {x y e : Int} {w : World} (h : k.deepA u = (x, y, e)) (hT : ThingsAt k.p.l (.slice k.sp k.p.l.length k.cap) w) :
    Calls Tryz.prog 22 #[.agg k.cs.toArray, .agg #[.int .i64 u.a, .int .i64 u.b, .int .i64 u.c, .int .i64 u.d]] w fun e' w' => e' = .returned (.tuple #[.agg #[.int .i64 x, .int .i64 y], .int .i64 e]) ∧ Below w.heap.size w w' := by
  have := Depths_any k u w hT
  rw [h] at this
  exact this
theorem mtrim_is {k : Cd} {u : Cu} {e : Int} {w : World} (h : k.trimA = (u, e)) (hT : ThingsAt k.p.l (.slice k.sp k.p.l.length k.cap) w) :
    Calls Tryz.prog 25 #[.agg k.cs.toArray] w fun e' w' => e' = .returned (.tuple #[.agg #[.int .i64 u.a, .int .i64 u.b, .int .i64 u.c, .int .i64 u.d], .int .i64 e]) ∧ Below w.heap.size w w' := by
  have := Trim_any k w hT
  rw [h] at this
  exact this
theorem mwhy_is {k : Cd} {x a b e : Int} {w : World} (h : k.whyA = (x, a, b, e)) (hT : ThingsAt k.p.l (.slice k.sp k.p.l.length k.cap) w) :
    Calls Tryz.prog 27 #[.agg k.cs.toArray] w fun e' w' => e' = .returned (.tuple #[.int .i64 x, .int .i64 a, .int .i64 b, .int .i64 e]) ∧ Below w.heap.size w w' := by
  have := Why_any k w hT
  rw [h] at this
  exact this
set_option maxRecDepth 100000 in
set_option maxHeartbeats 2000000 in
theorem rtrimming_0 (k : Cd) (u : Cu) (w : World) (h0 : (decide (0 ≤ u.a) && decide (u.a ≤ k.cuts)) = false) :
    Calls Tryz.prog 29 #[.agg k.cs.toArray, .agg #[.int .i64 u.a, .int .i64 u.b, .int .i64 u.c, .int .i64 u.d]] w fun e w' => e = .returned (.bool false) ∧ Below w.heap.size w w' := by
  have K0 := Lib.hid h0
  clear h0
  have hl : k.cs.length = 17 := rfl
  have e10 : ∀ h : 10 < k.cs.length, k.cs[10] = .int .i64 k.cuts := fun _ => rfl
  go_enter Tryz.func29, Tryz.ntmps29
  go_wp2_with (first | (go_at_call 66; refine (r3in_is (v := false) (by simpa using K0.out) _).mono ?_; rintro e w1 ⟨rfl, hb1⟩; have g1 := hb1; obtain ⟨hc1, hf1, hz1⟩ := bcell g1))
  exact bodyPost_ret (v := .bool false) (by simp [results, Tryz.results29, go_sem]) rfl ⟨rfl, Gr.tr ((Gr.alloc _ _).tr (Gr.alloc _ _)) g1⟩
set_option maxRecDepth 100000 in
set_option maxHeartbeats 2000000 in
theorem rtrimming_1 (k : Cd) (u : Cu) (w : World) (h0 : (decide (0 ≤ u.a) && decide (u.a ≤ k.cuts)) = true) (h1 : (decide (0 ≤ u.b) && decide (u.b ≤ k.cuts)) = false) :
    Calls Tryz.prog 29 #[.agg k.cs.toArray, .agg #[.int .i64 u.a, .int .i64 u.b, .int .i64 u.c, .int .i64 u.d]] w fun e w' => e = .returned (.bool false) ∧ Below w.heap.size w w' := by
  have K0 := Lib.hid h0
  have K1 := Lib.hid h1
  clear h0 h1
  have hl : k.cs.length = 17 := rfl
  have e10 : ∀ h : 10 < k.cs.length, k.cs[10] = .int .i64 k.cuts := fun _ => rfl
  go_enter Tryz.func29, Tryz.ntmps29
  go_wp2_with (first | (go_at_call 66; refine (r3in_is (v := true) (by simpa using K0.out) _).mono ?_; rintro e w1 ⟨rfl, hb1⟩; have g1 := hb1; obtain ⟨hc1, hf1, hz1⟩ := bcell g1) | (go_at_call 66; refine (r3in_is (v := false) (by simpa using K1.out) _).mono ?_; rintro e w2 ⟨rfl, hb2⟩; have g2 := Gr.tr g1 hb2; obtain ⟨hc2, hf2, hz2⟩ := bcell g2))
  exact bodyPost_ret (v := .bool false) (by simp [results, Tryz.results29, go_sem]) rfl ⟨rfl, Gr.tr ((Gr.alloc _ _).tr (Gr.alloc _ _)) g2⟩
set_option maxRecDepth 100000 in
set_option maxHeartbeats 2000000 in
theorem rtrimming_2 (k : Cd) (u : Cu) (w : World) (h0 : (decide (0 ≤ u.a) && decide (u.a ≤ k.cuts)) = true) (h1 : (decide (0 ≤ u.b) && decide (u.b ≤ k.cuts)) = true) (h2 : (decide (0 ≤ u.c) && decide (u.c ≤ k.cuts)) = false) :
    Calls Tryz.prog 29 #[.agg k.cs.toArray, .agg #[.int .i64 u.a, .int .i64 u.b, .int .i64 u.c, .int .i64 u.d]] w fun e w' => e = .returned (.bool false) ∧ Below w.heap.size w w' := by
  have K0 := Lib.hid h0
  have K1 := Lib.hid h1
  have K2 := Lib.hid h2
  clear h0 h1 h2
  have hl : k.cs.length = 17 := rfl
  have e10 : ∀ h : 10 < k.cs.length, k.cs[10] = .int .i64 k.cuts := fun _ => rfl
  go_enter Tryz.func29, Tryz.ntmps29
  go_wp2_with (first | (go_at_call 66; refine (r3in_is (v := true) (by simpa using K0.out) _).mono ?_; rintro e w1 ⟨rfl, hb1⟩; have g1 := hb1; obtain ⟨hc1, hf1, hz1⟩ := bcell g1) | (go_at_call 66; refine (r3in_is (v := true) (by simpa using K1.out) _).mono ?_; rintro e w2 ⟨rfl, hb2⟩; have g2 := Gr.tr g1 hb2; obtain ⟨hc2, hf2, hz2⟩ := bcell g2) | (go_at_call 66; refine (r3in_is (v := false) (by simpa using K2.out) _).mono ?_; rintro e w3 ⟨rfl, hb3⟩; have g3 := Gr.tr g2 hb3; obtain ⟨hc3, hf3, hz3⟩ := bcell g3))
  exact bodyPost_ret (v := .bool false) (by simp [results, Tryz.results29, go_sem]) rfl ⟨rfl, Gr.tr ((Gr.alloc _ _).tr (Gr.alloc _ _)) g3⟩
set_option maxRecDepth 100000 in
set_option maxHeartbeats 2000000 in
theorem rtrimming_3 (k : Cd) (u : Cu) (w : World) (h0 : (decide (0 ≤ u.a) && decide (u.a ≤ k.cuts)) = true) (h1 : (decide (0 ≤ u.b) && decide (u.b ≤ k.cuts)) = true) (h2 : (decide (0 ≤ u.c) && decide (u.c ≤ k.cuts)) = true) (h3 : (decide (0 ≤ u.d) && decide (u.d ≤ k.cuts)) = false) :
    Calls Tryz.prog 29 #[.agg k.cs.toArray, .agg #[.int .i64 u.a, .int .i64 u.b, .int .i64 u.c, .int .i64 u.d]] w fun e w' => e = .returned (.bool false) ∧ Below w.heap.size w w' := by
  have K0 := Lib.hid h0
  have K1 := Lib.hid h1
  have K2 := Lib.hid h2
  have K3 := Lib.hid h3
  clear h0 h1 h2 h3
  have hl : k.cs.length = 17 := rfl
  have e10 : ∀ h : 10 < k.cs.length, k.cs[10] = .int .i64 k.cuts := fun _ => rfl
  go_enter Tryz.func29, Tryz.ntmps29
  go_wp2_with (first | (go_at_call 66; refine (r3in_is (v := true) (by simpa using K0.out) _).mono ?_; rintro e w1 ⟨rfl, hb1⟩; have g1 := hb1; obtain ⟨hc1, hf1, hz1⟩ := bcell g1) | (go_at_call 66; refine (r3in_is (v := true) (by simpa using K1.out) _).mono ?_; rintro e w2 ⟨rfl, hb2⟩; have g2 := Gr.tr g1 hb2; obtain ⟨hc2, hf2, hz2⟩ := bcell g2) | (go_at_call 66; refine (r3in_is (v := true) (by simpa using K2.out) _).mono ?_; rintro e w3 ⟨rfl, hb3⟩; have g3 := Gr.tr g2 hb3; obtain ⟨hc3, hf3, hz3⟩ := bcell g3) | (go_at_call 66; refine (r3in_is (v := false) (by simpa using K3.out) _).mono ?_; rintro e w4 ⟨rfl, hb4⟩; have g4 := Gr.tr g3 hb4; obtain ⟨hc4, hf4, hz4⟩ := bcell g4))
  exact bodyPost_ret (v := .bool false) (by simp [results, Tryz.results29, go_sem]) rfl ⟨rfl, Gr.tr ((Gr.alloc _ _).tr (Gr.alloc _ _)) g4⟩
set_option maxRecDepth 100000 in
set_option maxHeartbeats 2000000 in
theorem rtrimming_4 (k : Cd) (u : Cu) (w : World) (h0 : (decide (0 ≤ u.a) && decide (u.a ≤ k.cuts)) = true) (h1 : (decide (0 ≤ u.b) && decide (u.b ≤ k.cuts)) = true) (h2 : (decide (0 ≤ u.c) && decide (u.c ≤ k.cuts)) = true) (h3 : (decide (0 ≤ u.d) && decide (u.d ≤ k.cuts)) = true) (hm : k.cuts ≤ 1000) :
    Calls Tryz.prog 29 #[.agg k.cs.toArray, .agg #[.int .i64 u.a, .int .i64 u.b, .int .i64 u.c, .int .i64 u.d]] w fun e w' => e = .returned (.bool (u.a + u.b == u.c + u.d)) ∧ Below w.heap.size w w' := by
  have b0 : (0 ≤ u.a ∧ u.a ≤ 1000) ∧ (0 ≤ u.b ∧ u.b ≤ 1000) ∧ (0 ≤ u.c ∧ u.c ≤ 1000) ∧ (0 ≤ u.d ∧ u.d ≤ 1000) := by
    simp at h0 h1 h2 h3
    omega
  obtain ⟨⟨a0, a1⟩, ⟨b0, b1⟩, ⟨c0, c1⟩, ⟨d0, d1⟩⟩ := b0
  have K0 := Lib.hid h0
  have K1 := Lib.hid h1
  have K2 := Lib.hid h2
  have K3 := Lib.hid h3
  clear h0 h1 h2 h3
  have hl : k.cs.length = 17 := rfl
  have e10 : ∀ h : 10 < k.cs.length, k.cs[10] = .int .i64 k.cuts := fun _ => rfl
  go_enter Tryz.func29, Tryz.ntmps29
  go_wp2_with (first | (go_at_call 66; refine (r3in_is (v := true) (by simpa using K0.out) _).mono ?_; rintro e w1 ⟨rfl, hb1⟩; have g1 := hb1; obtain ⟨hc1, hf1, hz1⟩ := bcell g1) | (go_at_call 66; refine (r3in_is (v := true) (by simpa using K1.out) _).mono ?_; rintro e w2 ⟨rfl, hb2⟩; have g2 := Gr.tr g1 hb2; obtain ⟨hc2, hf2, hz2⟩ := bcell g2) | (go_at_call 66; refine (r3in_is (v := true) (by simpa using K2.out) _).mono ?_; rintro e w3 ⟨rfl, hb3⟩; have g3 := Gr.tr g2 hb3; obtain ⟨hc3, hf3, hz3⟩ := bcell g3) | (go_at_call 66; refine (r3in_is (v := true) (by simpa using K3.out) _).mono ?_; rintro e w4 ⟨rfl, hb4⟩; have g4 := Gr.tr g3 hb4; obtain ⟨hc4, hf4, hz4⟩ := bcell g4))
  exact bodyPost_ret (v := .bool (u.a + u.b == u.c + u.d)) (by simp [results, Tryz.results29, go_sem]) rfl ⟨rfl, Gr.tr ((Gr.alloc _ _).tr (Gr.alloc _ _)) g4⟩
theorem rtrimming_any (k : Cd) (u : Cu) (w : World) (hm : k.cuts ≤ 1000) :
    Calls Tryz.prog 29 #[.agg k.cs.toArray, .agg #[.int .i64 u.a, .int .i64 u.b, .int .i64 u.c, .int .i64 u.d]] w fun e w' => e = .returned (.bool (u.isT k.cuts)) ∧ Below w.heap.size w w' := by
  unfold Cu.isT
  cases h0 : (decide (0 ≤ u.a) && decide (u.a ≤ k.cuts)) with
  | false => exact rtrimming_0 k u w h0
  | true =>
    cases h1 : (decide (0 ≤ u.b) && decide (u.b ≤ k.cuts)) with
    | false => exact rtrimming_1 k u w h0 h1
    | true =>
      cases h2 : (decide (0 ≤ u.c) && decide (u.c ≤ k.cuts)) with
      | false => exact rtrimming_2 k u w h0 h1 h2
      | true =>
        cases h3 : (decide (0 ≤ u.d) && decide (u.d ≤ k.cuts)) with
        | false => exact rtrimming_3 k u w h0 h1 h2 h3
        | true =>
          have := rtrimming_4 k u w h0 h1 h2 h3 hm
          have e : (u.a + u.b == u.c + u.d) = decide (u.a + u.b = u.c + u.d) := rfl
          rw [e] at this
          exact this
theorem rsum_any (u : Cu) (w : World) (ha : 0 ≤ u.a ∧ u.a ≤ 1000) (hb : 0 ≤ u.b ∧ u.b ≤ 1000) (hc : 0 ≤ u.c ∧ u.c ≤ 1000) (hd : 0 ≤ u.d ∧ u.d ≤ 1000) :
    Calls Tryz.prog 34 #[.agg #[.int .i64 u.a, .int .i64 u.b, .int .i64 u.c, .int .i64 u.d]] w fun e w' => e = .returned (.int .i64 (u.a + u.b + u.c + u.d)) ∧ Below w.heap.size w w' := by
  go_enter Tryz.func34, Tryz.ntmps34
  go_wp2
  go_ret
  exact ⟨rfl, (Below.refl _ _).alloc (Nat.le_refl _) _⟩
end Go.Proofs.YtcngaohfemdfjaaGreat
