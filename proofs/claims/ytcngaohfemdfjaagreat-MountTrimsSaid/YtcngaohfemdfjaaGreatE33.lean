import Derived.Test.YtcngaohfemdfjaaGreatE24
import Derived.Test.YtcngaohfemdfjaaGreatE32
import Derived.Deep.CutBlock
set_option linter.unusedVariables false
set_option linter.unusedSimpArgs false
set_option maxRecDepth 100000
set_option maxHeartbeats 60000000
namespace Go.Proofs.YtcngaohfemdfjaaGreat
open Go.ChangeShapes Go.WideShapes Go.ChangeAt Go.RowKit Go.Deep
def okI (n : Int) : Prop := (Lit.int .i64 n).wf = true
theorem okI.b {n : Int} (h : okI n) : -9223372036854775808 ≤ n ∧ n ≤ 9223372036854775807 := by
  unfold okI at h
  simp only [Lit.wf, Bool.and_eq_true, decide_eq_true_eq] at h
  exact h
def Th.okI (t : Th) : Prop := YtcngaohfemdfjaaGreat.okI t.a ∧ YtcngaohfemdfjaaGreat.okI t.b ∧ YtcngaohfemdfjaaGreat.okI t.c ∧ YtcngaohfemdfjaaGreat.okI t.d ∧ YtcngaohfemdfjaaGreat.okI t.e ∧ YtcngaohfemdfjaaGreat.okI t.f ∧ YtcngaohfemdfjaaGreat.okI t.g ∧ YtcngaohfemdfjaaGreat.okI t.h ∧ YtcngaohfemdfjaaGreat.okI t.z
theorem cells23 : Tryz.prog.cellsOf 23 = 2 := by kernel_rfl
theorem cells3 : Tryz.prog.cellsOf 3 = 1 := by kernel_rfl
theorem cells45 : Tryz.prog.cellsOf 50 = 4 := by kernel_rfl
theorem cells47 : Tryz.prog.cellsOf 52 = 9 := by kernel_rfl
theorem cells24 : Tryz.prog.cellsOf 24 = 1 := by kernel_rfl
theorem cells26 : Tryz.prog.cellsOf 26 = 8 := by kernel_rfl
section
variable {H : Type} {enc : TypeId × Value → H} {w : World} {base : Nat} {spare : Nat → Bool} {held : Bool}
theorem trod_span {fuel : Nat} {cs : List Value} {x : DataW H × List MemPlace} (h : DataW.trod enc Tryz.prog w base spare held fuel 23 cs = some x) :
    ∃ a b, cs = [.int .i64 a, .int .i64 b] ∧ okI a ∧ okI b := by
  obtain ⟨y0, y1, n, -, hl, h0, h1⟩ := trod_struct2 Tryz.underlying23 h
  rw [cells23] at hl
  simp only [cells3] at h0 h1
  match cs, hl with
  | [c0, c1], _ =>
    obtain ⟨a, e0, -, wa⟩ := DataW.trod_int Tryz.underlying3 h0
    obtain ⟨b, e1, -, wb⟩ := DataW.trod_int Tryz.underlying3 h1
    simp at e0 e1
    exact ⟨a, b, by rw [e0, e1], wa, wb⟩
theorem trod_place {fuel : Nat} {cs : List Value} {x : DataW H × List MemPlace} (h : DataW.trod enc Tryz.prog w base spare held fuel 50 cs = some x) :
    ∃ a b c d, cs = [.int .i64 a, .int .i64 b, .int .i64 c, .int .i64 d] ∧ okI a ∧ okI b ∧ okI c ∧ okI d := by
  obtain ⟨y0, y1, n, -, hl, h0, h1⟩ := trod_struct2 Tryz.underlying50 h
  rw [cells45] at hl
  simp only [cells23] at h0 h1
  match cs, hl with
  | [c0, c1, c2, c3], _ =>
    obtain ⟨a, b, e0, wa, wb⟩ := trod_span h0
    obtain ⟨c, d, e1, wc, wd⟩ := trod_span h1
    simp at e0 e1
    exact ⟨a, b, c, d, by rw [e0.1, e0.2, e1.1, e1.2], wa, wb, wc, wd⟩
theorem trod_thing {fuel : Nat} {cs : List Value} {x : DataW H × List MemPlace} (h : DataW.trod enc Tryz.prog w base spare held fuel 52 cs = some x) :
    ∃ t : Th, cs = t.vals ∧ t.okI := by
  obtain ⟨y0, y1, y2, n, -, hl, h0, h1, h2⟩ := trod_struct3 Tryz.underlying52 h
  rw [cells47] at hl
  simp only [cells45] at h0 h1
  simp only [cells3] at h2
  match cs, hl with
  | [c0, c1, c2, c3, c4, c5, c6, c7, c8], _ =>
    obtain ⟨a, b, c, d, e0, wa, wb, wc, wd⟩ := trod_place h0
    obtain ⟨e, f, g, k, e1, we, wf, wg, wk⟩ := trod_place h1
    obtain ⟨z, e2, -, wz⟩ := DataW.trod_int Tryz.underlying3 h2
    simp at e0 e1 e2
    exact ⟨⟨a, b, c, d, e, f, g, k, z⟩, by rw [e0.1, e0.2.1, e0.2.2.1, e0.2.2.2, e1.1, e1.2.1, e1.2.2.1, e1.2.2.2, e2]; rfl, wa, wb, wc, wd, we, wf, wg, wk, wz⟩
theorem trod_pair {fuel : Nat} {cs : List Value} {x : DataW H × List MemPlace} (h : DataW.trod enc Tryz.prog w base spare held fuel 26 cs = some x) :
    ∃ fl fh bl bh ti ne fa v, cs = [.int .i64 fl, .int .i64 fh, .int .i64 bl, .int .i64 bh, .int .i64 ti, .int .i64 ne, .int .i64 fa, v] ∧ (okI fl ∧ okI fh ∧ okI bl ∧ okI bh ∧ okI ti ∧ okI ne ∧ okI fa) ∧
      ∃ n y, DataW.trod enc Tryz.prog w base spare held n 24 [v] = some y := by
  obtain ⟨xs, n, -, -, hl, hlen, hf⟩ := DataW.trod_struct Tryz.underlying26 h
  rw [cells26] at hl
  match cs, hl with
  | [c0, c1, c2, c3, c4, c5, c6, c7], _ =>
  match xs, hlen with
  | [y0, y1, y2, y3, y4, y5], _ =>
    have h0 := hf 0 _ rfl
    have h1 := hf 1 _ rfl
    have h2 := hf 2 _ rfl
    have h3 := hf 3 _ rfl
    have h4 := hf 4 _ rfl
    have h5 := hf 5 _ rfl
    simp [cells23, cells3, cells24] at h0 h1 h2 h3 h4 h5
    obtain ⟨a, b, e0, wa, wb⟩ := trod_span h0
    obtain ⟨c, d, e1, wc, wd⟩ := trod_span h1
    obtain ⟨e, e2, -, we⟩ := DataW.trod_int Tryz.underlying3 h2
    obtain ⟨f, e3, -, wf⟩ := DataW.trod_int Tryz.underlying3 h3
    obtain ⟨g, e4, -, wg⟩ := DataW.trod_int Tryz.underlying3 h4
    simp at e0 e1 e2 e3 e4
    exact ⟨a, b, c, d, e, f, g, c7, by rw [e0.1, e0.2, e1.1, e1.2, e2, e3, e4], ⟨wa, wb, wc, wd, we, wf, wg⟩, n, y5, h5⟩
end
def PairIn (p : Pr) (sp : Option Addr) (len cap : Nat) (w : World) : Prop :=
  okI p.fl ∧ okI p.fh ∧ okI p.bl ∧ okI p.bh ∧ okI p.ti ∧ okI p.ne ∧ okI p.fa ∧ p.l.length = len ∧ len ≤ maxLen ∧ (len ≤ 1000 → TsA p.l (.slice sp len cap) w) ∧ ∀ t ∈ p.l, t.okI
end Go.Proofs.YtcngaohfemdfjaaGreat
namespace Go.Proofs.YtcngaohfemdfjaaGreat
open Go.ChangeShapes Go.WideShapes Go.ChangeAt Go.RowKit Go.Deep
theorem cells28 : Tryz.prog.cellsOf 28 = 17 := by kernel_rfl
theorem cells30 : Tryz.prog.cellsOf 30 = 4 := by kernel_rfl
section
variable {H : Type} {enc : TypeId × Value → H} {w : World} {base : Nat} {spare : Nat → Bool} {held : Bool}
theorem trod_card {fuel : Nat} {cs : List Value} {x : DataW H × List MemPlace} (h : DataW.trod enc Tryz.prog w base spare held fuel 28 cs = some x) :
    ∃ fl fh bl bh ti ne fa v q0 q1 q2 q3 q4 q5 q6 q7 q8, cs = [.int .i64 fl, .int .i64 fh, .int .i64 bl, .int .i64 bh, .int .i64 ti, .int .i64 ne, .int .i64 fa, v, .int .i64 q0, .int .i64 q1, .int .i64 q2, .int .i64 q3, .int .i64 q4, .int .i64 q5, .int .i64 q6, .int .i64 q7, .int .i64 q8] ∧ (okI fl ∧ okI fh ∧ okI bl ∧ okI bh ∧ okI ti ∧ okI ne ∧ okI fa) ∧ (okI q0 ∧ okI q1 ∧ okI q2 ∧ okI q3 ∧ okI q4 ∧ okI q5 ∧ okI q6 ∧ okI q7 ∧ okI q8) ∧
      ∃ n y, DataW.trod enc Tryz.prog w base spare held n 24 [v] = some y := by
  obtain ⟨xs, n, -, -, hl, hlen, hf⟩ := DataW.trod_struct Tryz.underlying28 h
  rw [cells28] at hl
  match cs, hl with
  | [c0, c1, c2, c3, c4, c5, c6, c7, c8, c9, c10, c11, c12, c13, c14, c15, c16], _ =>
  match xs, hlen with
  | [y0, y1, y2, y3, y4, y5, y6, y7, y8], _ =>
    have h0 := hf 0 _ rfl
    have h1 := hf 1 _ rfl
    have h2 := hf 2 _ rfl
    have h3 := hf 3 _ rfl
    have h4 := hf 4 _ rfl
    have h5 := hf 5 _ rfl
    have h6 := hf 6 _ rfl
    have h7 := hf 7 _ rfl
    have h8 := hf 8 _ rfl
    simp [cells23, cells3, cells26] at h0 h1 h2 h3 h4 h5 h6 h7 h8
    obtain ⟨fl, fh, bl, bh, ti, ne, fa, v, e0, w0, wv⟩ := trod_pair h0
    obtain ⟨a1, e1, -, w1⟩ := DataW.trod_int Tryz.underlying3 h1
    obtain ⟨a2, e2, -, w2⟩ := DataW.trod_int Tryz.underlying3 h2
    obtain ⟨a3, e3, -, w3⟩ := DataW.trod_int Tryz.underlying3 h3
    obtain ⟨a5, e5, -, w5⟩ := DataW.trod_int Tryz.underlying3 h5
    obtain ⟨a6, e6, -, w6⟩ := DataW.trod_int Tryz.underlying3 h6
    obtain ⟨a7, e7, -, w7⟩ := DataW.trod_int Tryz.underlying3 h7
    obtain ⟨a8, e8, -, w8⟩ := DataW.trod_int Tryz.underlying3 h8
    obtain ⟨a4, b4, e4, w4, w4'⟩ := trod_span h4
    simp at e0 e1 e2 e3 e4 e5 e6 e7 e8
    obtain ⟨e00, e01, e02, e03, e04, e05, e06, e07⟩ := e0
    exact ⟨fl, fh, bl, bh, ti, ne, fa, v, a1, a2, a3, a4, b4, a5, a6, a7, a8, by rw [e00, e01, e02, e03, e04, e05, e06, e07, e1, e2, e3, e4.1, e4.2, e5, e6, e7, e8], w0, ⟨w1, w2, w3, w4, w4', w5, w6, w7, w8⟩, wv⟩
theorem trod_cuts {fuel : Nat} {cs : List Value} {x : DataW H × List MemPlace} (h : DataW.trod enc Tryz.prog w base spare held fuel 30 cs = some x) :
    ∃ u : Cu, cs = [.int .i64 u.a, .int .i64 u.b, .int .i64 u.c, .int .i64 u.d] ∧ okI u.a ∧ okI u.b ∧ okI u.c ∧ okI u.d := by
  obtain ⟨xs, n, -, -, hl, hlen, hf⟩ := DataW.trod_struct Tryz.underlying30 h
  rw [cells30] at hl
  match cs, hl with
  | [c0, c1, c2, c3], _ =>
  match xs, hlen with
  | [y0, y1, y2, y3], _ =>
    have h0 := hf 0 _ rfl
    have h1 := hf 1 _ rfl
    have h2 := hf 2 _ rfl
    have h3 := hf 3 _ rfl
    simp [cells3] at h0 h1 h2 h3
    obtain ⟨a, e0, -, wa⟩ := DataW.trod_int Tryz.underlying3 h0
    obtain ⟨b, e1, -, wb⟩ := DataW.trod_int Tryz.underlying3 h1
    obtain ⟨c, e2, -, wc⟩ := DataW.trod_int Tryz.underlying3 h2
    obtain ⟨d, e3, -, wd⟩ := DataW.trod_int Tryz.underlying3 h3
    simp at e0 e1 e2 e3
    exact ⟨⟨a, b, c, d⟩, by rw [e0, e1, e2, e3], wa, wb, wc, wd⟩
end
def CardIn (k : Cd) (len : Nat) (w : World) : Prop := PairIn k.p k.sp len k.cap w ∧ okI k.half ∧ okI k.step ∧ okI k.cuts ∧ okI k.elo ∧ okI k.ehi ∧ okI k.prism ∧ okI k.squeeze ∧ okI k.front ∧ okI k.deep
theorem open_card {H : Type} {enc : TypeId × Value → H} {W : World} {base : Nat} {v : Value} {d : DataW H} {ps : List MemPlace} (hval : Value.okWide Tryz.prog W .any base 28 v)
    (h : DataW.Trod enc Tryz.prog W 0 (fun _ => true) true 28 v d ps) : ∃ (k : Cd) (len : Nat), v = .agg k.cs.toArray ∧ CardIn k len W := by
  obtain ⟨cs, rfl, hsz, ts, hts, hn, hrow⟩ : ∃ cs, v = .agg cs ∧ cs.size = Tryz.prog.cellsOf 28 ∧ Row.okWide Tryz.prog W .any base 28 cs := by
    have := hval
    unfold Value.okWide at this
    rw [Tryz.underlying28] at this
    exact this
  obtain ⟨fuel, hf⟩ := h
  obtain ⟨fl, fh, bl, bh, ti, ne, fa, sv, q0, q1, q2, q3, q4, q5, q6, q7, q8, hcs, hi, hqq, n, y, hy⟩ := trod_card hf
  have hcs' : cs = #[.int .i64 fl, .int .i64 fh, .int .i64 bl, .int .i64 bh, .int .i64 ti, .int .i64 ne, .int .i64 fa, sv, .int .i64 q0, .int .i64 q1, .int .i64 q2, .int .i64 q3, .int .i64 q4, .int .i64 q5, .int .i64 q6, .int .i64 q7, .int .i64 q8] := by
    have e : (Value.agg cs).cells = cs := rfl
    rw [e] at hcs
    exact Array.toList_inj.1 hcs
  subst hcs'
  rcases open_slice Tryz.underlying24 hy with ⟨e, -⟩ | ⟨a, len, cap, m, n', D, Pl, e, -, hl, hm, hmm, -, hx⟩
  · simp at e
    subst e
    exact ⟨⟨⟨fl, fh, bl, bh, ti, ne, fa, []⟩, none, 0, q0, q1, q2, q3, q4, q5, q6, q7, q8⟩, 0, rfl, ⟨hi.1, hi.2.1, hi.2.2.1, hi.2.2.2.1, hi.2.2.2.2.1, hi.2.2.2.2.2.1, hi.2.2.2.2.2.2, rfl, Nat.zero_le _, fun _ => ⟨Nat.zero_le _, .inl ⟨rfl, rfl⟩⟩, fun _ h => by cases h⟩, hqq⟩
  · simp at e
    subst e
    have hcell : ∃ u, ts[7 % ts.length]? = some u ∧ Cell.okWide Tryz.prog W .any base u (.slice (some a) len cap) := hrow 7 _ rfl
    obtain ⟨u, hu, hc⟩ := hcell
    have hts' : ts = [3, 3, 3, 3, 3, 3, 3, 24, 3, 3, 3, 3, 3, 3, 3, 3, 3] := by
      have e : Tryz.prog.cellTypes Tryz.prog.depth 28 = some [3, 3, 3, 3, 3, 3, 3, 24, 3, 3, 3, 3, 3, 3, 3, 3, 3] := by kernel_rfl
      rw [e] at hts; exact (Option.some.inj hts).symm
    subst hts'
    simp at hu
    subst hu
    simp [Cell.okWide, Cell.ok, Tryz.underlying24] at hc
    obtain ⟨-, -, hhas⟩ := hc
    obtain ⟨-, hspot, row, cells, hshape, -⟩ := hhas
    have hlt : a.block < W.heap.size := by
      apply Nat.lt_of_not_le; intro hc
      have : W.heap[a.block]? = none := by simpa using hc
      simp [World.shape?, this] at hshape
    have hml : len ≤ m := by rw [hmm]; split <;> omega
    obtain ⟨f, hf⟩ := choose_lt (α := Option Th) (n := len) (p := fun i t => ∃ t', t = some t' ∧ W.cells? 0 (a.add (i * 9)) 9 = some t'.vals ∧ t'.okI) (fun i hi => by
      obtain ⟨cs', h1, h2⟩ := hx i (by omega)
      rw [cells47] at h1
      obtain ⟨t, rfl, ht⟩ := trod_thing h2
      exact ⟨some t, t, rfl, h1, ht⟩)
    refine ⟨⟨⟨fl, fh, bl, bh, ti, ne, fa, (List.range len).map fun i => (f i).getD ⟨0, 0, 0, 0, 0, 0, 0, 0, 0⟩⟩, some a, cap, q0, q1, q2, q3, q4, q5, q6, q7, q8⟩, len, ?_, ⟨hi.1, hi.2.1, hi.2.2.1, hi.2.2.2.1, hi.2.2.2.2.1, hi.2.2.2.2.2.1, hi.2.2.2.2.2.2, by simp, by omega, ?_, ?_⟩, hqq⟩
    · simp [Cd.cs]
    · intro h1000
      refine ⟨by simpa using h1000, .inr ⟨a.block, a.off, cap, ?_, hlt, ?_⟩⟩
      · obtain ⟨b, o, s⟩ := a
        simp at hspot
        subst hspot
        simp
      · intro i t hi
        have hil : i < len := by
          have := (List.getElem?_eq_some_iff.1 hi).1
          simpa using this
        obtain ⟨t', e1, h1, -⟩ := hf i hil
        have et : t = t' := by simp [hil, e1] at hi; exact hi.symm
        subst et
        obtain ⟨-, hlen, hc⟩ := World.cells?_some h1
        refine CsF.mk fun j x hx => ?_
        have hj : j < 9 := by have := (List.getElem?_eq_some_iff.1 hx).1; simpa [Th.vals] using this
        have := hc j hj
        rw [hx] at this
        rw [← this]
        obtain ⟨b, o, s⟩ := a
        simp at hspot
        subst hspot
        congr 1
        unfold Addr.add
        by_cases h0 : i * 9 = 0 <;> by_cases h00 : j = 0 <;> simp [h0, h00]
    · intro t ht
      obtain ⟨i, hi, rfl⟩ := List.mem_map.1 ht
      obtain ⟨t', e1, -, h3⟩ := hf i (List.mem_range.1 hi)
      rw [e1]; exact h3
theorem mroom_is {k : Cd} {u : Cu} {x y e : Int} {w : World} (h : k.roomA u = (x, y, e)) (hT : TsA k.p.l (.slice k.sp k.p.l.length k.cap) w) :
    Calls Tryz.prog 20 #[.agg k.cs.toArray, .agg #[.int .i64 u.a, .int .i64 u.b, .int .i64 u.c, .int .i64 u.d]] w fun e' w' => e' = .returned (.tuple #[.agg #[.int .i64 x, .int .i64 y], .int .i64 e]) ∧ Below w.heap.size w w' := by
  have := Room_any k u w hT
  rw [h] at this
  exact this
theorem mdeep_is {k : Cd} {u : Cu} {x y e : Int} {w : World} (h : k.deepA u = (x, y, e)) (hT : TsA k.p.l (.slice k.sp k.p.l.length k.cap) w) :
    Calls Tryz.prog 22 #[.agg k.cs.toArray, .agg #[.int .i64 u.a, .int .i64 u.b, .int .i64 u.c, .int .i64 u.d]] w fun e' w' => e' = .returned (.tuple #[.agg #[.int .i64 x, .int .i64 y], .int .i64 e]) ∧ Below w.heap.size w w' := by
  have := Depths_any k u w hT
  rw [h] at this
  exact this
theorem rtrimming_0 (k : Cd) (u : Cu) (w : World) (h0 : (decide (0 ≤ u.a) && decide (u.a ≤ k.cuts)) = false) :
    Calls Tryz.prog 29 #[.agg k.cs.toArray, .agg #[.int .i64 u.a, .int .i64 u.b, .int .i64 u.c, .int .i64 u.d]] w fun e w' => e = .returned (.bool false) ∧ Below w.heap.size w w' := by
  have K0 := Lib.hid h0
  clear h0
  have hl : k.cs.length = 17 := rfl
  have e10 : ∀ h : 10 < k.cs.length, k.cs[10] = .int .i64 k.cuts := fun _ => rfl
  go_enter Tryz.func29, Tryz.ntmps29
  go_wp2_with (first | (go_at_call 66; refine (r3in_is (v := false) (by simpa using K0.out) _).mono ?_; rintro e w1 ⟨rfl, hb1⟩; have g1 := hb1; obtain ⟨hc1, hf1, hz1⟩ := bcell g1))
  exact bodyPost_ret (v := .bool false) (by simp [results, Tryz.results29, go_sem]) rfl ⟨rfl, Gr.tr ((Gr.alloc _ _).tr (Gr.alloc _ _)) g1⟩
theorem rtrimming_1 (k : Cd) (u : Cu) (w : World) (h0 : (decide (0 ≤ u.a) && decide (u.a ≤ k.cuts)) = true) (h1 : (decide (0 ≤ u.b) && decide (u.b ≤ k.cuts)) = false) :
    Calls Tryz.prog 29 #[.agg k.cs.toArray, .agg #[.int .i64 u.a, .int .i64 u.b, .int .i64 u.c, .int .i64 u.d]] w fun e w' => e = .returned (.bool false) ∧ Below w.heap.size w w' := by
  have K0 := Lib.hid h0
  have K1 := Lib.hid h1
  clear h0 h1
  have hl : k.cs.length = 17 := rfl
  have e10 : ∀ h : 10 < k.cs.length, k.cs[10] = .int .i64 k.cuts := fun _ => rfl
  go_enter Tryz.func29, Tryz.ntmps29
  go_wp2_with (first | (go_at_call 66; refine (r3in_is (v := true) (by simpa using K0.out) _).mono ?_; rintro e w1 ⟨rfl, hb1⟩; have g1 := hb1; obtain ⟨hc1, hf1, hz1⟩ := bcell g1) | (go_at_call 66; refine (r3in_is (v := false) (by simpa using K1.out) _).mono ?_; rintro e w2 ⟨rfl, hb2⟩; have g2 := Gr.tr g1 hb2; obtain ⟨hc2, hf2, hz2⟩ := bcell g2))
  exact bodyPost_ret (v := .bool false) (by simp [results, Tryz.results29, go_sem]) rfl ⟨rfl, Gr.tr ((Gr.alloc _ _).tr (Gr.alloc _ _)) g2⟩
theorem rtrimming_2 (k : Cd) (u : Cu) (w : World) (h0 : (decide (0 ≤ u.a) && decide (u.a ≤ k.cuts)) = true) (h1 : (decide (0 ≤ u.b) && decide (u.b ≤ k.cuts)) = true) (h2 : (decide (0 ≤ u.c) && decide (u.c ≤ k.cuts)) = false) :
    Calls Tryz.prog 29 #[.agg k.cs.toArray, .agg #[.int .i64 u.a, .int .i64 u.b, .int .i64 u.c, .int .i64 u.d]] w fun e w' => e = .returned (.bool false) ∧ Below w.heap.size w w' := by
  have K0 := Lib.hid h0
  have K1 := Lib.hid h1
  have K2 := Lib.hid h2
  clear h0 h1 h2
  have hl : k.cs.length = 17 := rfl
  have e10 : ∀ h : 10 < k.cs.length, k.cs[10] = .int .i64 k.cuts := fun _ => rfl
  go_enter Tryz.func29, Tryz.ntmps29
  go_wp2_with (first | (go_at_call 66; refine (r3in_is (v := true) (by simpa using K0.out) _).mono ?_; rintro e w1 ⟨rfl, hb1⟩; have g1 := hb1; obtain ⟨hc1, hf1, hz1⟩ := bcell g1) | (go_at_call 66; refine (r3in_is (v := true) (by simpa using K1.out) _).mono ?_; rintro e w2 ⟨rfl, hb2⟩; have g2 := Gr.tr g1 hb2; obtain ⟨hc2, hf2, hz2⟩ := bcell g2) | (go_at_call 66; refine (r3in_is (v := false) (by simpa using K2.out) _).mono ?_; rintro e w3 ⟨rfl, hb3⟩; have g3 := Gr.tr g2 hb3; obtain ⟨hc3, hf3, hz3⟩ := bcell g3))
  exact bodyPost_ret (v := .bool false) (by simp [results, Tryz.results29, go_sem]) rfl ⟨rfl, Gr.tr ((Gr.alloc _ _).tr (Gr.alloc _ _)) g3⟩
theorem rtrimming_3 (k : Cd) (u : Cu) (w : World) (h0 : (decide (0 ≤ u.a) && decide (u.a ≤ k.cuts)) = true) (h1 : (decide (0 ≤ u.b) && decide (u.b ≤ k.cuts)) = true) (h2 : (decide (0 ≤ u.c) && decide (u.c ≤ k.cuts)) = true) (h3 : (decide (0 ≤ u.d) && decide (u.d ≤ k.cuts)) = false) :
    Calls Tryz.prog 29 #[.agg k.cs.toArray, .agg #[.int .i64 u.a, .int .i64 u.b, .int .i64 u.c, .int .i64 u.d]] w fun e w' => e = .returned (.bool false) ∧ Below w.heap.size w w' := by
  have K0 := Lib.hid h0
  have K1 := Lib.hid h1
  have K2 := Lib.hid h2
  have K3 := Lib.hid h3
  clear h0 h1 h2 h3
  have hl : k.cs.length = 17 := rfl
  have e10 : ∀ h : 10 < k.cs.length, k.cs[10] = .int .i64 k.cuts := fun _ => rfl
  go_enter Tryz.func29, Tryz.ntmps29
  go_wp2_with (first | (go_at_call 66; refine (r3in_is (v := true) (by simpa using K0.out) _).mono ?_; rintro e w1 ⟨rfl, hb1⟩; have g1 := hb1; obtain ⟨hc1, hf1, hz1⟩ := bcell g1) | (go_at_call 66; refine (r3in_is (v := true) (by simpa using K1.out) _).mono ?_; rintro e w2 ⟨rfl, hb2⟩; have g2 := Gr.tr g1 hb2; obtain ⟨hc2, hf2, hz2⟩ := bcell g2) | (go_at_call 66; refine (r3in_is (v := true) (by simpa using K2.out) _).mono ?_; rintro e w3 ⟨rfl, hb3⟩; have g3 := Gr.tr g2 hb3; obtain ⟨hc3, hf3, hz3⟩ := bcell g3) | (go_at_call 66; refine (r3in_is (v := false) (by simpa using K3.out) _).mono ?_; rintro e w4 ⟨rfl, hb4⟩; have g4 := Gr.tr g3 hb4; obtain ⟨hc4, hf4, hz4⟩ := bcell g4))
  exact bodyPost_ret (v := .bool false) (by simp [results, Tryz.results29, go_sem]) rfl ⟨rfl, Gr.tr ((Gr.alloc _ _).tr (Gr.alloc _ _)) g4⟩
theorem rtrimming_4 (k : Cd) (u : Cu) (w : World) (h0 : (decide (0 ≤ u.a) && decide (u.a ≤ k.cuts)) = true) (h1 : (decide (0 ≤ u.b) && decide (u.b ≤ k.cuts)) = true) (h2 : (decide (0 ≤ u.c) && decide (u.c ≤ k.cuts)) = true) (h3 : (decide (0 ≤ u.d) && decide (u.d ≤ k.cuts)) = true) (hm : k.cuts ≤ 1000) :
    Calls Tryz.prog 29 #[.agg k.cs.toArray, .agg #[.int .i64 u.a, .int .i64 u.b, .int .i64 u.c, .int .i64 u.d]] w fun e w' => e = .returned (.bool (u.a + u.b == u.c + u.d)) ∧ Below w.heap.size w w' := by
  have b0 : (0 ≤ u.a ∧ u.a ≤ 1000) ∧ (0 ≤ u.b ∧ u.b ≤ 1000) ∧ (0 ≤ u.c ∧ u.c ≤ 1000) ∧ (0 ≤ u.d ∧ u.d ≤ 1000) := by
    simp at h0 h1 h2 h3
    omega
  obtain ⟨⟨a0, a1⟩, ⟨b0, b1⟩, ⟨c0, c1⟩, ⟨d0, d1⟩⟩ := b0
  have K0 := Lib.hid h0
  have K1 := Lib.hid h1
  have K2 := Lib.hid h2
  have K3 := Lib.hid h3
  clear h0 h1 h2 h3
  have hl : k.cs.length = 17 := rfl
  have e10 : ∀ h : 10 < k.cs.length, k.cs[10] = .int .i64 k.cuts := fun _ => rfl
  go_enter Tryz.func29, Tryz.ntmps29
  go_wp2_with (first | (go_at_call 66; refine (r3in_is (v := true) (by simpa using K0.out) _).mono ?_; rintro e w1 ⟨rfl, hb1⟩; have g1 := hb1; obtain ⟨hc1, hf1, hz1⟩ := bcell g1) | (go_at_call 66; refine (r3in_is (v := true) (by simpa using K1.out) _).mono ?_; rintro e w2 ⟨rfl, hb2⟩; have g2 := Gr.tr g1 hb2; obtain ⟨hc2, hf2, hz2⟩ := bcell g2) | (go_at_call 66; refine (r3in_is (v := true) (by simpa using K2.out) _).mono ?_; rintro e w3 ⟨rfl, hb3⟩; have g3 := Gr.tr g2 hb3; obtain ⟨hc3, hf3, hz3⟩ := bcell g3) | (go_at_call 66; refine (r3in_is (v := true) (by simpa using K3.out) _).mono ?_; rintro e w4 ⟨rfl, hb4⟩; have g4 := Gr.tr g3 hb4; obtain ⟨hc4, hf4, hz4⟩ := bcell g4))
  exact bodyPost_ret (v := .bool (u.a + u.b == u.c + u.d)) (by simp [results, Tryz.results29, go_sem]) rfl ⟨rfl, Gr.tr ((Gr.alloc _ _).tr (Gr.alloc _ _)) g4⟩
theorem rtrimming_any (k : Cd) (u : Cu) (w : World) (hm : k.cuts ≤ 1000) :
    Calls Tryz.prog 29 #[.agg k.cs.toArray, .agg #[.int .i64 u.a, .int .i64 u.b, .int .i64 u.c, .int .i64 u.d]] w fun e w' => e = .returned (.bool (u.isT k.cuts)) ∧ Below w.heap.size w w' := by
  unfold Cu.isT
  cases h0 : (decide (0 ≤ u.a) && decide (u.a ≤ k.cuts)) with
  | false => exact rtrimming_0 k u w h0
  | true =>
    cases h1 : (decide (0 ≤ u.b) && decide (u.b ≤ k.cuts)) with
    | false => exact rtrimming_1 k u w h0 h1
    | true =>
      cases h2 : (decide (0 ≤ u.c) && decide (u.c ≤ k.cuts)) with
      | false => exact rtrimming_2 k u w h0 h1 h2
      | true =>
        cases h3 : (decide (0 ≤ u.d) && decide (u.d ≤ k.cuts)) with
        | false => exact rtrimming_3 k u w h0 h1 h2 h3
        | true =>
          have := rtrimming_4 k u w h0 h1 h2 h3 hm
          have e : (u.a + u.b == u.c + u.d) = decide (u.a + u.b = u.c + u.d) := rfl
          rw [e] at this
          exact this
end Go.Proofs.YtcngaohfemdfjaaGreat
