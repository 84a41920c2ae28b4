import Derived.Test.YtcngaohfemdfjaaGreatE20
set_option linter.unusedVariables false
set_option linter.unusedSimpArgs false
set_option maxRecDepth 100000
set_option maxHeartbeats 60000000
namespace Go.Proofs.YtcngaohfemdfjaaGreat
open Go.RowKit Go.Shelf
attribute [local go_sem] Oper.semAt_some
def apartIn (es : List (Int × Vw)) (most : Int) (x : Vw) : Option Int := (es.find? fun r => decide (most < x.sb - r.2.sa)).map fun r => r.1
def apartOf (es : List (Int × Vw)) (most : Int) : List (Int × Vw) → Option (Int × Int)
  | [] => none
  | q :: l => match apartIn es most q.2 with | some b => some (q.1, b) | none => apartOf es most l
theorem apartOf_skip {es : List (Int × Vw)} {most : Int} {l r : List (Int × Vw)} (h : ∀ q ∈ l, apartIn es most q.2 = none) : apartOf es most (l ++ r) = apartOf es most r := by
  induction l with
  | nil => rfl
  | cons q l ih => simp only [List.cons_append, apartOf]; rw [h q (by simp)]; exact ih fun q hq => h q (by simp [hq])
theorem apartIn_none {es : List (Int × Vw)} {most : Int} {x : Vw} (h : ∀ r ∈ es, x.sb - r.2.sa ≤ most) : apartIn es most x = none := by
  unfold apartIn
  rw [List.find?_eq_none.2 fun r hr => by simpa using h r hr]; rfl
theorem apartIn_some {es ps rest : List (Int × Vw)} {most : Int} {x : Vw} {r : Int × Vw} (he : es = ps ++ [r] ++ rest) (h : ∀ r ∈ ps, x.sb - r.2.sa ≤ most) (hr : most < x.sb - r.2.sa) : apartIn es most x = some r.1 := by
  unfold apartIn
  have : (ps.find? fun r => decide (most < x.sb - r.2.sa)) = none := List.find?_eq_none.2 fun r hr => by simpa using h r hr
  rw [he, List.append_assoc, List.find?_append, this]
  simp [List.find?, hr]
def ApC (k : Cd) (mb : Nat) (most : Int) (w W : World) : Prop := (Box W w.heap.size (k.lk mb) 71 ∧ Box W (w.heap.size + 1) [.int .i64 most] 3 ∧ Box W (w.heap.size + 1 + 1) [.int .i64 0] 3 ∧ Box W (w.heap.size + 1 + 1 + 1) [.int .i64 0] 3 ∧ Box W (w.heap.size + 1 + 1 + 1 + 1) [.bool false] 4 ∧ MapAt k.p.sees mb W) ∧ Below w.heap.size w W
def ApR (a b : Int) (w W : World) : Prop := (Box W (w.heap.size + 1 + 1) [.int .i64 a] 3 ∧ Box W (w.heap.size + 1 + 1 + 1) [.int .i64 b] 3 ∧ Box W (w.heap.size + 1 + 1 + 1 + 1) [.bool true] 4) ∧ Below w.heap.size w W
theorem ApC.own {k : Cd} {mb : Nat} {most : Int} {w : World} {B : Nat} {A A' : World} {row : Option Nat} (h : ApC k mb most w A) (hB : w.heap.size ≤ B) (hm : mb < B) (hg : A.grownBy A' row) (hr : ∀ r, row = some r → B ≤ r ∧ ∃ o : Obj, A.heap[r]? = some o ∧ o.isCells = false) : ApC k mb most w A' :=
  have f := fun r e => (hr r e).2
  ⟨⟨h.1.1.own' hg f, h.1.2.1.own' hg f, h.1.2.2.1.own' hg f, h.1.2.2.2.1.own' hg f, h.1.2.2.2.2.1.own' hg f, h.1.2.2.2.2.2.grown hg fun e => by have := (hr _ e).1; omega⟩, ownFrom_below (β := Unit) (Nat.le_refl _) hB () A A' row h.2 hg hr⟩
theorem ApR.own {a b : Int} {w : World} {B : Nat} {A A' : World} {row : Option Nat} (h : ApR a b w A) (hB : w.heap.size ≤ B) (hg : A.grownBy A' row) (hr : ∀ r, row = some r → B ≤ r ∧ ∃ o : Obj, A.heap[r]? = some o ∧ o.isCells = false) : ApR a b w A' :=
  have f := fun r e => (hr r e).2
  ⟨⟨h.1.1.own' hg f, h.1.2.1.own' hg f, h.1.2.2.own' hg f⟩, ownFrom_below (β := Unit) (Nat.le_refl _) hB () A A' row h.2 hg hr⟩
theorem ApC.grow {k : Cd} {mb : Nat} {most : Int} {w : World} {A A' : World} (h : ApC k mb most w A) (hg : Gr A A') : ApC k mb most w A' :=
  ⟨⟨h.1.1.grow hg, h.1.2.1.grow hg, h.1.2.2.1.grow hg, h.1.2.2.2.1.grow hg, h.1.2.2.2.2.1.grow hg, h.1.2.2.2.2.2.grow hg⟩, bgr h.2 h.2.size hg⟩
def O1 (k : Cd) (mb : Nat) (most : Int) (w : World) (pre : List (Sv k.p)) (W : World) : Prop := ApC k mb most w W ∧ ∀ q ∈ valsOf pre, apartIn k.p.sees most q.2 = none
def OX (k : Cd) (most : Int) (w : World) (c : Code) (pre : List (Sv k.p)) (W : World) : Prop := c = .ret ∧ ∃ ps q b, valsOf pre = ps ++ [q] ∧ (∀ r ∈ ps, apartIn k.p.sees most r.2 = none) ∧ apartIn k.p.sees most q.2 = some b ∧ ApR q.1 b w W
def OA (k : Cd) (mb : Nat) (most : Int) (w : World) (x : Sv k.p) (a' : Act) (W : World) : Prop := ∃ b7 b8, w.heap.size + 1 + 1 + 1 + 1 < b7 ∧ w.heap.size + 1 + 1 + 1 + 1 < b8 ∧ Box W b7 [.int .i64 x.n] 3 ∧ Box W b8 [.int .i64 x.x.la, .int .i64 x.x.lb, .int .i64 x.x.ra, .int .i64 x.x.rb, .int .i64 x.x.sa, .int .i64 x.x.sb] 127 ∧ a' = { tmps := #[.agg (k.lk mb).toArray, .int .i64 most, .pointer (some ⟨w.heap.size, 0, none⟩), .pointer (some ⟨w.heap.size + 1, 0, none⟩), .pointer (some ⟨w.heap.size + 1 + 1, 0, none⟩), .pointer (some ⟨w.heap.size + 1 + 1 + 1, 0, none⟩), .pointer (some ⟨w.heap.size + 1 + 1 + 1 + 1, 0, none⟩), .pointer (some ⟨b7, 0, none⟩), .pointer (some ⟨b8, 0, none⟩), undef, undef, .agg (k.lk mb).toArray, .func (.func 92) #[] #[.pointer (some ⟨w.heap.size + 1 + 1 + 1 + 1 + 1, 0, none⟩)], .int .i64 x.n, .agg #[.int .i64 x.x.la, .int .i64 x.x.lb, .int .i64 x.x.ra, .int .i64 x.x.rb, .int .i64 x.x.sa, .int .i64 x.x.sb], undef, undef, undef, undef, undef, undef, undef, undef, undef, undef, undef, undef, undef, undef, undef], defers := [] }
def N1 (k : Cd) (mb : Nat) (most : Int) (w Wb : World) (b7 b8 bl1 B1 : Nat) (x : Sv k.p) (pre : List (Sv k.p)) (W : World) : Prop := (ApC k mb most w W ∧ Box W b7 [.int .i64 x.n] 3 ∧ Box W b8 [.int .i64 x.x.la, .int .i64 x.x.lb, .int .i64 x.x.ra, .int .i64 x.x.rb, .int .i64 x.x.sa, .int .i64 x.x.sb] 127 ∧ (∀ r ∈ valsOf pre, x.x.sb - r.2.sa ≤ most)) ∧ KeepsFrom B1 Wb W ∧ KeepAt [bl1, mb] Wb W
def NX (k : Cd) (most : Int) (w Wb : World) (B1 : Nat) (x : Sv k.p) (c : Code) (pre : List (Sv k.p)) (W : World) : Prop := c = .ret ∧ (∃ ps r, valsOf pre = ps ++ [r] ∧ (∀ r ∈ ps, x.x.sb - r.2.sa ≤ most) ∧ most < x.x.sb - r.2.sa ∧ ApR x.n r.1 w W) ∧ KeepsFrom B1 Wb W
def NA (k : Cd) (mb : Nat) (most : Int) (w : World) (b7 b8 : Nat) (g : Value) (x z : Sv k.p) (a' : Act) (W : World) : Prop := ∃ b10, w.heap.size + 1 + 1 + 1 + 1 < b10 ∧ Box W b10 [.int .i64 z.x.la, .int .i64 z.x.lb, .int .i64 z.x.ra, .int .i64 z.x.rb, .int .i64 z.x.sa, .int .i64 z.x.sb] 127 ∧ a' = { tmps := #[.agg (k.lk mb).toArray, .int .i64 most, .pointer (some ⟨w.heap.size, 0, none⟩), .pointer (some ⟨w.heap.size + 1, 0, none⟩), .pointer (some ⟨w.heap.size + 1 + 1, 0, none⟩), .pointer (some ⟨w.heap.size + 1 + 1 + 1, 0, none⟩), .pointer (some ⟨w.heap.size + 1 + 1 + 1 + 1, 0, none⟩), .pointer (some ⟨b7, 0, none⟩), .pointer (some ⟨b8, 0, none⟩), .int .i64 z.n, .pointer (some ⟨b10, 0, none⟩), .agg (k.lk mb).toArray, .func (.func 92) #[] #[.pointer (some ⟨w.heap.size + 1 + 1 + 1 + 1 + 1, 0, none⟩)], .int .i64 x.n, .agg #[.int .i64 x.x.la, .int .i64 x.x.lb, .int .i64 x.x.ra, .int .i64 x.x.rb, .int .i64 x.x.sa, .int .i64 x.x.sb], .agg (k.lk mb).toArray, g, .int .i64 z.n, .agg #[.int .i64 z.x.la, .int .i64 z.x.lb, .int .i64 z.x.ra, .int .i64 z.x.rb, .int .i64 z.x.sa, .int .i64 z.x.sb], undef, undef, undef, undef, undef, undef, undef, undef, undef, undef, undef], defers := [] }
theorem O1.own {k : Cd} {mb : Nat} {most : Int} {w : World} {B : Nat} (hB : w.heap.size ≤ B) (hm : mb < B) : OwnFrom B (O1 k mb most w) := fun _ _ _ _ ⟨h1, h2⟩ hg hr => ⟨h1.own hB hm hg hr, h2⟩
theorem OX.own {k : Cd} {most : Int} {w : World} {B : Nat} (hB : w.heap.size ≤ B) (c : Code) : OwnFrom B (OX k most w c) := fun _ _ _ _ ⟨h0, ps, q, b, h1, h2, h3, h4⟩ hg hr => ⟨h0, ps, q, b, h1, h2, h3, h4.own hB hg hr⟩
theorem OA.own {k : Cd} {mb : Nat} {most : Int} {w : World} {B : Nat} (x : Sv k.p) (a' : Act) : OwnFrom B (fun (_ : Unit) W => OA k mb most w x a' W) := fun _ _ _ _ ⟨b7, b8, h1, h2, h3, h4, h5⟩ hg hr => ⟨b7, b8, h1, h2, h3.own' hg fun r e => (hr r e).2, h4.own' hg fun r e => (hr r e).2, h5⟩
theorem N1.own {k : Cd} {mb : Nat} {most : Int} {w Wb : World} {b7 b8 bl1 B1 B : Nat} {x : Sv k.p} (hB : w.heap.size ≤ B) (hm : mb < Wb.heap.size) (hWb : Wb.heap.size ≤ B) (hb : bl1 < Wb.heap.size) : OwnFrom B (N1 k mb most w Wb b7 b8 bl1 B1 x) := fun _ A A' row ⟨⟨h1, h2, h3, h4⟩, h5, h6⟩ hg hr =>
  ⟨⟨h1.own hB (by omega) hg hr, h2.own' hg fun r e => (hr r e).2, h3.own' hg fun r e => (hr r e).2, h4⟩, ownFrom_keepsFrom (β := Unit) hWb () A A' row h5 hg hr, h6.own (B := B) (fun i hi => by simp at hi; omega) hg fun r e => (hr r e).1⟩
theorem NX.own {k : Cd} {most : Int} {w Wb : World} {B1 B : Nat} {x : Sv k.p} (hB : w.heap.size ≤ B) (hWb : Wb.heap.size ≤ B) (c : Code) : OwnFrom B (NX k most w Wb B1 x c) := fun _ A A' row ⟨h0, ⟨ps, r, h1, h2, h3, h4⟩, h5⟩ hg hr =>
  ⟨h0, ⟨ps, r, h1, h2, h3, h4.own hB hg hr⟩, ownFrom_keepsFrom (β := Unit) hWb () A A' row h5 hg hr⟩
theorem NA.own {k : Cd} {mb : Nat} {most : Int} {w : World} {b7 b8 B : Nat} {g : Value} {x : Sv k.p} (z : Sv k.p) (a' : Act) : OwnFrom B (fun (_ : Unit) W => NA k mb most w b7 b8 g x z a' W) := fun _ _ _ _ ⟨b10, h1, h2, h3⟩ hg hr => ⟨b10, h1, h2.own' hg fun r e => (hr r e).2, h3⟩
def Pr.apart (p : Pr) (most : Int) : Option (Int × Int) := apartOf p.sees most p.sees
def ApartPost (p : Pr) (most : Int) (w : World) (e : Ending) (w' : World) : Prop := e = .returned (.tuple #[.int .i64 ((p.apart most).getD (0, 0)).1, .int .i64 ((p.apart most).getD (0, 0)).2, .bool (p.apart most).isSome]) ∧ Below w.heap.size w w'
theorem apart_ok (k : Cd) (mb : Nat) (most : Int) (hv : ∀ q ∈ k.p.sees, q.2.ok) (hlen : k.p.l.length ≤ 900) (w : World) (hM : MapAt k.p.sees mb w) :
    Calls Tryz.prog 111 #[.agg (k.lk mb).toArray, .int .i64 most] w (ApartPost k.p most w) := by
  have HV := Lib.hid hv
  have HM := Lib.hid hM
  have hml := hM.lt
  clear hv hM
  have HL := Lib.hid (Box.fresh w (k.lk mb) 71)
  have hl : (k.lk mb).length = 18 := rfl
  refine (callsIn_wide (n := 9)).1 ?_
  refine callsIn_of_wp_marks Tryz.func111 rfl trivial ?_ rfl
  simp only [Tryz.ntmps111, List.size_toArray, List.length_cons, List.length_nil, Nat.reduceAdd, Nat.reduceSub, Array.replicate_succ, Array.replicate_zero, List.push_toArray, List.append_toArray, List.nil_append, List.cons_append]
  gi_wp2_with (first | (with_reducible refine wpListIn_stopLoad (ty := 71) rfl ?_; unfold Stop; refine wpListIn_loadPart (us := k.lk mb) row71 rfl ((((HL.out.grow (Gr.alloc _ _)).grow (Gr.alloc _ _)).grow (Gr.alloc _ _)).grow (Gr.alloc _ _)) rfl rfl rfl rfl ?_) | (refine ⟨trivial, ?_⟩; gi_at_call 49; refine (callsIn_wide.2 (things_any k mb _)).mono ?_; rintro e w1 ⟨rfl, hBx, hb1⟩))
  replace hBx : Box w1 (w.heap.size + 1 + 1 + 1 + 1 + 1) (k.lk mb) 71 := by simpa using hBx
  have hgw : Gr w w1 := (((((Gr.alloc _ _).tr (Gr.alloc _ _)).tr (Gr.alloc _ _)).tr (Gr.alloc _ _)).tr (Gr.alloc _ _)).tr hb1
  have hB0 : Box w1 w.heap.size (k.lk mb) 71 := ((((HL.out.grow (Gr.alloc _ _)).grow (Gr.alloc _ _)).grow (Gr.alloc _ _)).grow (Gr.alloc _ _)).grow hb1
  have hB1 : Box w1 (w.heap.size + 1) [.int .i64 most] 3 := by
    have := ((((Box.fresh (w.alloc (Obj.cells (k.lk mb).toArray 71)) [.int .i64 most] 3).grow (Gr.alloc _ _)).grow (Gr.alloc _ _)).grow (Gr.alloc _ _)).grow hb1
    simpa using this
  have hB2 : Box w1 (w.heap.size + 1 + 1) [.int .i64 0] 3 := by
    have := (((Box.fresh ((w.alloc (Obj.cells (k.lk mb).toArray 71)).alloc (Obj.cells #[.int .i64 most] 3)) [.int .i64 0] 3).grow (Gr.alloc _ _)).grow (Gr.alloc _ _)).grow hb1
    simpa using this
  have hB3 : Box w1 (w.heap.size + 1 + 1 + 1) [.int .i64 0] 3 := by
    have := ((Box.fresh (((w.alloc (Obj.cells (k.lk mb).toArray 71)).alloc (Obj.cells #[.int .i64 most] 3)).alloc (Obj.cells #[.int .i64 0] 3)) [.int .i64 0] 3).grow (Gr.alloc _ _)).grow hb1
    simpa using this
  have hB4 : Box w1 (w.heap.size + 1 + 1 + 1 + 1) [.bool false] 4 := by
    have := (Box.fresh ((((w.alloc (Obj.cells (k.lk mb).toArray 71)).alloc (Obj.cells #[.int .i64 most] 3)).alloc (Obj.cells #[.int .i64 0] 3)).alloc (Obj.cells #[.int .i64 0] 3)) [.bool false] 4).grow hb1
    simpa using this
  have hC : ApC k mb most w w1 := ⟨⟨hB0, hB1, hB2, hB3, hB4, HM.out.grow hgw⟩, hgw⟩
  have hw1 : w.heap.size + 1 + 1 + 1 + 1 + 1 < w1.heap.size := hBx.lt
  have HC := Lib.hid hC
  have HBX := Lib.hid hBx
  have hmw : mb < w1.heap.size := by omega
  have HMC := Lib.hid (HM.out.grow hgw)
  clear hB0 hB1 hB2 hB3 hB4 hC hBx hb1 hgw
  refine wpIn_rangeOwn rfl (by omega) (gf := 92) (lb := #[.pointer (some ⟨w.heap.size + 1 + 1 + 1 + 1 + 1, 0, none⟩)]) rfl trivial (enters_of Tryz.func92 (by kernel_rfl) rfl)
    (SeqStopsK.own (things_stops k mb (w.heap.size + 1 + 1 + 1 + 1 + 1) _ w1 HBX.out HMC.out hlen)) (Gr.same _) KeepAt.trans
    (fun W o' => KeepAt.putObj W _ o' (by simp; omega)) (fun _ => rfl)
    (O1 k mb most w) (OX k most w) (O1.own (by omega) hmw) (fun c => OX.own (by omega) c) ⟨HC.out, fun q hq => by cases hq⟩
    (OA k mb most w) (fun x a' => OA.own x a') ?assign ?body ?done ?stop
  case assign =>
    intro y pre x W K hi hK
    have HI := Lib.hid hi
    clear hi
    unfold encV
    have hNl := HI.out.1.1.2.2.2.2.1.lt
    gi_wp2
    have hg : Gr W ((W.alloc (.cells #[.int .i64 x.n] 3)).alloc (.cells #[.int .i64 x.x.la, .int .i64 x.x.lb, .int .i64 x.x.ra, .int .i64 x.x.rb, .int .i64 x.x.sa, .int .i64 x.x.sb] 127)) := (Gr.alloc _ _).tr (Gr.alloc _ _)
    refine hK _ _ ((keepsOthers_of_gr hg).from _) (KeepAt.of hg) ⟨HI.out.1.grow hg, HI.out.2⟩ ⟨W.heap.size, W.heap.size + 1, hNl, by omega, (Box.fresh W [.int .i64 x.n] 3).grow (Gr.alloc _ _), ?_, rfl⟩
    have := Box.fresh (W.alloc (.cells #[.int .i64 x.n] 3)) [.int .i64 x.x.la, .int .i64 x.x.lb, .int .i64 x.x.ra, .int .i64 x.x.rb, .int .i64 x.x.sa, .int .i64 x.x.sb] 127
    simpa using this
  case body =>
    rintro y1 pre x a' Wb hyl ⟨r1, hyr⟩ ⟨hC, hP⟩ ⟨b7, b8, hb7, hb8, hB7, hB8, rfl⟩ hN1
    have HC1 := Lib.hid hC
    have HP := Lib.hid hP
    have HB7 := Lib.hid hB7
    have HB8 := Lib.hid hB8
    have HYR := Lib.hid hyr
    have hyl2 : y1 < Wb.heap.size := (Array.getElem?_eq_some_iff.1 hyr).1
    have hlk := hC.1.1
    have HLK := Lib.hid hlk
    have hll := hlk.lt
    have hmb2 := hC.1.2.2.2.2.2.lt
    clear hC hP hB7 hB8 hyr hlk
    (try dsimp only)
    gi_wp2_with (first | (with_reducible refine wpListIn_stopLoad (ty := 71) rfl ?_; unfold Stop; refine wpListIn_loadPart (us := k.lk mb) row71 rfl (HLK.out) rfl rfl rfl rfl ?_) | (refine ⟨trivial, ?_⟩; gi_at_call 49; refine (CallsIn.inRound y1 (callsIn_wide.2 (things_any k mb _))).mono ?_; rintro e w2 ⟨rfl, hBl2, hb2⟩))
    have hg2 : Gr Wb w2 := hb2
    have hw2 : Wb.heap.size < w2.heap.size := hBl2.lt
    have hyr2 : w2.heap[y1]? = some (.loop r1) := (hg2.block _ hyl2).trans HYR.out
    have HBL2 := Lib.hid hBl2
    have HG2 := Lib.hid hg2
    have HM2 := Lib.hid (HC1.out.1.2.2.2.2.2.grow hg2)
    clear hBl2 hb2 hg2
    have hww : w1.heap.size ≤ Wb.heap.size := by omega
    refine wpIn_rangeFunc_ownN rfl hyr2 (by omega) (gf := 92) (lb := #[.pointer (some ⟨Wb.heap.size, 0, none⟩)]) rfl trivial (enters_of Tryz.func92 (by kernel_rfl) rfl)
      (SeqStopsK.inRound y1 (things_stops k mb Wb.heap.size _ w2 HBL2.out HM2.out hlen)) (fun h k => KeepAt.trans h k)
      (fun W l o o' hl _ _ _ => KeepAt.putObj W l o' (by simp; omega)) (Below.refl _ _) (fun _ => rfl)
      (N1 k mb most w Wb b7 b8 (w.heap.size + 1 + 1 + 1 + 1 + 1) w1.heap.size x) (NX k most w Wb w1.heap.size x)
      (N1.own (by omega) hmb2 (by omega) (by omega)) (fun c => NX.own (by omega) (by omega) c)
      ⟨⟨HC1.out.grow HG2.out, HB7.out.grow HG2.out, HB8.out.grow HG2.out, fun r hr => by cases hr⟩, (keepsOthers_of_gr HG2.out).from _, KeepAt.of HG2.out⟩
      (NA k mb most w b7 b8 (.func (.func 92) #[] #[.pointer (some ⟨Wb.heap.size, 0, none⟩)]) x) (fun z a' => NA.own z a') ?_ ?_ ?_ ?_
    · intro y2 pre2 z W2 K hi hK
      have HI := Lib.hid hi
      clear hi
      unfold encV
      have hNl := HI.out.1.1.1.2.2.2.2.1.lt
      gi_wp2
      have hg : Gr W2 (W2.alloc (.cells #[.int .i64 z.x.la, .int .i64 z.x.lb, .int .i64 z.x.ra, .int .i64 z.x.rb, .int .i64 z.x.sa, .int .i64 z.x.sb] 127)) := Gr.alloc _ _
      refine hK _ _ ((keepsOthers_of_gr hg).from _) (KeepAt.of hg) ⟨⟨HI.out.1.1.grow hg, HI.out.1.2.1.grow hg, HI.out.1.2.2.1.grow hg, HI.out.1.2.2.2⟩, HI.out.2.1.trans ((keepsOthers_of_gr hg).from _), HI.out.2.2.trans (KeepAt.of hg)⟩ ⟨W2.heap.size, hNl, Box.fresh W2 _ 127, rfl⟩
    · rintro y2 pre2 z a2 W2 hyl3 - ⟨⟨hC, hB7, hB8, hP2⟩, hKF, hKA⟩ ⟨b10, hb10, hB10, rfl⟩ hN2
      have hxo : x.x.ok := HV.out _ x.mem
      have hzo : z.x.ok := HV.out _ z.mem
      obtain ⟨-, -, -, -, -, hxb⟩ := hxo
      obtain ⟨-, -, -, -, hza, -⟩ := hzo
      have c7 := hB7.cell (i := 0) rfl
      have l7 := hB7.lt
      have c8 := hB8.cell (i := 5) rfl
      have l8 := hB8.lt
      have c10 := hB10.cell (i := 4) rfl
      have l10 := hB10.lt
      have m0 := hC.1.2.1.cell (i := 0) rfl
      have ml := hC.1.2.1.lt
      have HC2 := Lib.hid hC
      have HB7' := Lib.hid hB7
      have HB8' := Lib.hid hB8
      have HP2 := Lib.hid hP2
      have HKF := Lib.hid hKF
      have HKA := Lib.hid hKA
      have r2 := hC.1.2.2.1.cell (i := 0) rfl
      have rf2 := hC.1.2.2.1.free
      have rl2 := hC.1.2.2.1.lt
      have r3 := hC.1.2.2.2.1.cell (i := 0) rfl
      have rf3 := hC.1.2.2.2.1.free
      have rl3 := hC.1.2.2.2.1.lt
      have r4 := hC.1.2.2.2.2.1.cell (i := 0) rfl
      have rf4 := hC.1.2.2.2.2.1.free
      have rl4 := hC.1.2.2.2.2.1.lt
      clear hC hB7 hB8 hP2 hKF hKA hB10
      (try dsimp only)
      have hvz : valsOf (pre2 ++ [z]) = valsOf pre2 ++ [z.q] := by simp [valsOf]
      have HVZ := Lib.hid hvz
      clear hvz
      by_cases hgt : most < x.x.sb - z.x.sa
      · have hgt' : decide (most < x.x.sb - z.x.sa) = true := by simpa using hgt
        gi_wp2
        refine ⟨((KeepsOthers.setCell _ _ _).trans ((KeepsOthers.setCell _ _ _).trans (KeepsOthers.setCell _ _ _))).from _, rfl, ⟨valsOf pre2, z.q, HVZ.out, HP2.out, hgt, ⟨?_, ?_, ?_⟩, ((HC2.out.2.setCell (by simp; omega) _).setCell (by simp; omega) _).setCell (by simp; omega) _⟩, HKF.out.trans (((KeepsOthers.setCell _ _ _).trans ((KeepsOthers.setCell _ _ _).trans (KeepsOthers.setCell _ _ _))).from _)⟩
        · exact ((HC2.out.1.2.2.1.put 0 _).other (by omega) _ _).other (by omega) _ _
        · exact ((HC2.out.1.2.2.2.1.other (by omega) _ _).put 0 _).other (by omega) _ _
        · exact ((HC2.out.1.2.2.2.2.1.other (by omega) _ _).other (by omega) _ _).put 0 _
      · have hgt' : decide (most < x.x.sb - z.x.sa) = false := by simpa using hgt
        gi_wp2
        refine ⟨KeepsFrom.refl _ _, KeepAt.refl _ _, ⟨HC2.out, HB7'.out, HB8'.out, ?_⟩, HKF.out, HKA.out⟩
        intro r hr
        rw [HVZ.out, List.mem_append] at hr
        rcases hr with hr | hr
        · exact HP2.out r hr
        · have : r = z.q := by simpa using hr
          subst this
          exact hgt
    · rintro pre2 W2 hS2 ⟨⟨hC, -, -, hP2⟩, hKF, hKA⟩
      have HC2 := Lib.hid hC
      have HP2 := Lib.hid hP2
      have HKF := Lib.hid hKF
      have HKA := Lib.hid hKA
      have HSS := Lib.hid hS2
      clear hC hP2 hKF hKA hS2
      gi_wp2
      refine ⟨HKF.out, HKA.out, HC2.out, ?_⟩
      intro q hq
      unfold valsOf at hq
      rw [List.map_append, List.mem_append] at hq
      rcases hq with hq | hq
      · exact HP.out q hq
      · have : q = x.q := by simpa using hq
        subst this
        exact apartIn_none fun r hr => HP2.out r (by rw [HSS.out]; exact hr)
    · rintro c pre2 W2 ⟨rest2, hS2⟩ ⟨rfl, ⟨ps, r, h1, h2, h3, h4⟩, hKF⟩
      have HH := Lib.hid (show ApR x.n r.1 w W2 from h4)
      have HKF := Lib.hid hKF
      have hin : apartIn k.p.sees most x.x = some r.1 := apartIn_some (by rw [hS2, h1]) h2 h3
      have HIN := Lib.hid hin
      clear h1 h2 h3 h4 hKF hS2 hin
      gi_wp2
      exact ⟨HKF.out, rfl, valsOf pre, x.q, r.1, by simp [valsOf], HP.out, HIN.out, HH.out⟩
  case done =>
    rintro D ys W hD hys ⟨hC, hP⟩ hK
    have hap : k.p.apart most = none := by
      have h0 := apartOf_skip (r := []) hP
      rw [List.append_nil, hys] at h0
      exact h0
    have HAP := Lib.hid hap
    have HC2 := Lib.hid hC
    have HK := Lib.hid hK
    have r2 := hC.1.2.2.1.cell (i := 0) rfl
    have rf2 := hC.1.2.2.1.free
    have rl2 := hC.1.2.2.1.lt
    have r3 := hC.1.2.2.2.1.cell (i := 0) rfl
    have rf3 := hC.1.2.2.2.1.free
    have rl3 := hC.1.2.2.2.1.lt
    have r4 := hC.1.2.2.2.2.1.cell (i := 0) rfl
    have rf4 := hC.1.2.2.2.2.1.free
    have rl4 := hC.1.2.2.2.2.1.lt
    clear hap hC hP hys hK
    gi_wp2
    have hK4 := ((KeepsOthers.setCell W ⟨w.heap.size + 1 + 1, 0, none⟩ (.int .i64 0)).trans ((KeepsOthers.setCell _ ⟨w.heap.size + 1 + 1 + 1, 0, none⟩ (.int .i64 0)).trans (KeepsOthers.setCell _ ⟨w.heap.size + 1 + 1 + 1 + 1, 0, none⟩ (.bool false)))).same D _ HK.out rfl
    have k2 := (((HC2.out.1.2.2.1.put 0 (.int .i64 0)).other (b' := w.heap.size + 1 + 1 + 1) (by omega) 0 (.int .i64 0)).other (b' := w.heap.size + 1 + 1 + 1 + 1) (by omega) 0 (.bool false)).own' (grownBy_putObj' _ D (.deferred none)) (fun r e => by cases e; exact ⟨_, hK4, rfl⟩)
    have k3 := (((HC2.out.1.2.2.2.1.other (b' := w.heap.size + 1 + 1) (by omega) 0 (.int .i64 0)).put 0 (.int .i64 0)).other (b' := w.heap.size + 1 + 1 + 1 + 1) (by omega) 0 (.bool false)).own' (grownBy_putObj' _ D (.deferred none)) (fun r e => by cases e; exact ⟨_, hK4, rfl⟩)
    have k4 := (((HC2.out.1.2.2.2.2.1.other (b' := w.heap.size + 1 + 1) (by omega) 0 (.int .i64 0)).other (b' := w.heap.size + 1 + 1 + 1) (by omega) 0 (.int .i64 0)).put 0 (.bool false)).own' (grownBy_putObj' _ D (.deferred none)) (fun r e => by cases e; exact ⟨_, hK4, rfl⟩)
    refine ⟨by simp, .inl ⟨_, _, rfl, run_takeDeferred hK4, ?_⟩⟩
    have e2 := k2.cell (i := 0) rfl
    have e3 := k3.cell (i := 0) rfl
    have e4 := k4.cell (i := 0) rfl
    refine ⟨.tuple #[.int .i64 0, .int .i64 0, .bool false], ?_, ?_, ?_⟩
    · simp [results, Tryz.f111, go_sem, e2, e3, e4]
    · rw [HAP.out]; rfl
    · exact (((HC2.out.2.setCell (by simp; omega) _).setCell (by simp; omega) _).setCell (by simp; omega) _).trans (belowK_b (w := w) (Nat.le_refl _) _ D _ _ (by omega) hK4 rfl rfl)
  case stop =>
    rintro D c pre W hD ⟨rest, hrest⟩ ⟨rfl, ps, q, b, h1, h2, h3, h4⟩ hK
    have hap : k.p.apart most = some (q.1, b) := by
      unfold Pr.apart
      have : apartOf k.p.sees most (valsOf pre ++ rest) = some (q.1, b) := by
        rw [h1, List.append_assoc, apartOf_skip h2]
        simp only [List.cons_append, apartOf, h3]
      rw [← hrest] at this
      exact this
    have HAP := Lib.hid hap
    have HH := Lib.hid (show ApR q.1 b w W from h4)
    have HK := Lib.hid hK
    clear hap h1 h2 h3 h4 hrest hK
    gi_wp2
    refine ⟨by simp, .inl ⟨_, _, rfl, run_takeDeferred HK.out, ?_⟩⟩
    have hR := HH.out.own (B := w.heap.size) (Nat.le_refl _) (grownBy_putObj' _ D (.deferred none)) (fun r e => by cases e; exact ⟨by omega, _, HK.out, rfl⟩)
    have e2 := hR.1.1.cell (i := 0) rfl
    have e3 := hR.1.2.1.cell (i := 0) rfl
    have e4 := hR.1.2.2.cell (i := 0) rfl
    refine ⟨.tuple #[.int .i64 q.1, .int .i64 b, .bool true], ?_, ?_, hR.2⟩
    · simp [results, Tryz.f111, go_sem, e2, e3, e4]
    · rw [HAP.out]; rfl
end Go.Proofs.YtcngaohfemdfjaaGreat
