import Derived.Test.YtjlaoiimbhlafaaPF
import Derived.Test.YtjlaoiimbhlafaaPG
import Derived.Deep.RegionHeld3
import Derived.Deep.DrawnRows
import Derived.ProofKit
import Derived.ShutString
import Derived.Deep.Slices
import Derived.Deep.Strs
import Derived.Lib.SmallJoins
import Derived.Test.YtjlaoiimbhlafaaPE
set_option linter.unusedVariables false
set_option linter.unusedSimpArgs false
section
namespace Go.Proofs.Ytjlaoiimbhlafaa
open Go.RowKit Go.Shelf

open MW
attribute [local go_sem] Oper.semAt_some run_store_func
attribute [local go_sem ↓] Go.wp_at_zero Go.wp_at_succ
theorem common80_ag (a b c d : Int) (w : World) : Calls Try.prog 80 #[.agg #[.int .i64 a, .int .i64 b], .agg #[.int .i64 c, .int .i64 d]] w fun e w' => e = .returned (.agg #[.int .i64 (mxI a c), .int .i64 (mnI b d)]) ∧ Below w.heap.size w w' := common80_any a b c d w
theorem mks4 {l : List Mrk} {p : Option Addr} {W : World} {i b o : Nat} {m : Mrk} (h : MksAt l p W) (hm : l[i]? = some m) (hp : p = some ⟨b, o, none⟩) :
    b < W.heap.size ∧ W.cell? ⟨b, o + i * 4, none⟩ = some (.int .i64 m.a) ∧ W.cell? ⟨b, o + i * 4 + 1, none⟩ = some (.int .i64 m.b) ∧ W.cell? ⟨b, o + i * 4 + 2, none⟩ = some (.int .i64 m.c) ∧ W.cell? ⟨b, o + i * 4 + 3, none⟩ = some (.int .i64 m.d) := mk_cells h hm hp
set_option maxRecDepth 100000 in
set_option maxHeartbeats 4000000 in
theorem shiftOf_any (r : Rr) (i j : Nat) (x y : Mrk) (w : World) (hl : MksAt r.L r.lp w) (hr : MksAt r.R r.rp w) (hx : r.L[i]? = some x) (hy : r.R[j]? = some y) (hxi : x.In) (hyi : y.In) :
    Calls Try.prog 39 #[r.val, .int .i64 i, .int .i64 j] w fun e w' => e = .returned (spV (r.shOf x y).1 (r.shOf x y).2) ∧ Below w.heap.size w w' := by
  obtain ⟨bL, oL, hlp⟩ := mk_at hl hx
  obtain ⟨bR, oR, hrp⟩ := mk_at hr hy
  have g1 : (i : Int) < r.L.length := by have := (List.getElem?_eq_some_iff.1 hx).1; omega
  have g2 : (j : Int) < r.R.length := by have := (List.getElem?_eq_some_iff.1 hy).1; omega
  have HB := Lib.hid ((Box.fresh w r.cs 26).grow (Gr.alloc _ (Obj.cells #[.int .i64 0, .int .i64 0] 24)))
  have HZ := Lib.hid (show Box ((w.alloc (Obj.cells r.cs.toArray 26)).alloc (Obj.cells #[.int .i64 0, .int .i64 0] 24)) (w.heap.size + 1) [.int .i64 0, .int .i64 0] 24 by
    have := Box.fresh (w.alloc (Obj.cells r.cs.toArray 26)) [.int .i64 0, .int .i64 0] 24
    simpa using this)
  have HG := Lib.hid (show Gr w ((w.alloc (Obj.cells r.cs.toArray 26)).alloc (Obj.cells #[.int .i64 0, .int .i64 0] 24)) from (Gr.alloc _ _).tr (Gr.alloc _ _))
  have HL := Lib.hid (mks4 (hl.grow HG.out) hx hlp)
  have HR := Lib.hid (mks4 (hr.grow HG.out) hy hrp)
  unfold Rr.cs at HB HG HZ HL HR
  unfold Rr.val
  rw [hlp, hrp] at HB HG HZ HL HR ⊢
  clear hl hr hx hy hlp hrp
  obtain ⟨lb, q0, q1, q2, q3⟩ := HL.out
  obtain ⟨lc, p0, p1, p2, p3⟩ := HR.out
  clear HL HR
  obtain ⟨r0, r1, r2, r3, r4⟩ := cells5 HB.out
  have rl := HB.out.lt
  obtain ⟨⟨a1, a2⟩, b1, b2⟩ := hxi
  obtain ⟨⟨a3, a4⟩, b3, b4⟩ := hyi
  unfold Rr.shOf spV
  generalize hqa : mxI x.c y.c = qa at *
  generalize hqb : mnI x.d y.d = qb at *
  generalize hqc : mxI (x.a - y.b) r.s = qc at *
  generalize hqd : mnI (x.b - y.a) r.t = qd at *
  have HC1 := Lib.hid (fun W => common80_ag x.c x.d y.c y.d W)
  have HC2 := Lib.hid (fun W => common80_ag (x.a - y.b) (x.b - y.a) r.s r.t W)
  rw [hqa, hqb] at HC1
  rw [hqc, hqd] at HC2
  clear hqa hqb hqc hqd
  obtain ⟨w0, hw0⟩ : ∃ w0, w0 = (w.alloc (Obj.cells #[.slice (some ⟨bL, oL, none⟩) r.L.length r.lc, .slice (some ⟨bR, oR, none⟩) r.R.length r.rc, .int .i64 r.s, .int .i64 r.t, .int .i64 r.h] 26)).alloc (Obj.cells #[.int .i64 0, .int .i64 0] 24) := ⟨_, rfl⟩
  rw [← hw0] at HB HZ HG q0 q1 q2 q3 p0 p1 p2 p3 lb lc r0 r1 r2 r3 r4 rl
  have hs0 : w0.heap.size = w.heap.size + 1 + 1 := by rw [hw0]; simp
  have HE : (qb < qa) = (decide (qb < qa) = true) := by simp
  rw [show (if qb < qa then ((1 : Int), (0 : Int)) else (qc, qd)) = if decide (qb < qa) then (1, 0) else (qc, qd) by simp]
  clear HE
  cases hcc : decide (qb < qa)
  all_goals
    simp only [Bool.false_eq_true, if_false, if_true]
    go_enter Try.func39, Try.ntmps39
    go_wp2_with fail
    rw [← hw0]
    clear hw0
    go_region_held3 (fun W => w0.heap.size ≤ W.heap.size ∧ W.cell? ⟨w.heap.size, 0, none⟩ = some (.slice (some ⟨bL, oL, none⟩) r.L.length r.lc) ∧ W.cell? ⟨w.heap.size, 1, none⟩ = some (.slice (some ⟨bR, oR, none⟩) r.R.length r.rc) ∧ W.cell? ⟨bL, oL + i * 4, none⟩ = some (.int .i64 x.a) ∧ W.cell? ⟨bL, oL + i * 4 + 1, none⟩ = some (.int .i64 x.b) ∧ W.cell? ⟨bL, oL + i * 4 + 2, none⟩ = some (.int .i64 x.c) ∧ W.cell? ⟨bL, oL + i * 4 + 3, none⟩ = some (.int .i64 x.d) ∧ W.cell? ⟨bR, oR + j * 4, none⟩ = some (.int .i64 y.a) ∧ W.cell? ⟨bR, oR + j * 4 + 1, none⟩ = some (.int .i64 y.b) ∧ W.cell? ⟨bR, oR + j * 4 + 2, none⟩ = some (.int .i64 y.c) ∧ W.cell? ⟨bR, oR + j * 4 + 3, none⟩ = some (.int .i64 y.d)) (go_keep) (fail)
    · have HG := Lib.hid (show Gr w (((w0.alloc (Obj.cells #[.int .i64 x.a, .int .i64 x.b, .int .i64 x.c, .int .i64 x.d] 65)).alloc (Obj.cells #[.int .i64 y.a, .int .i64 y.b, .int .i64 y.c, .int .i64 y.d] 65)).drew) from HG.out.tr (((Gr.alloc _ _).tr (Gr.alloc _ _)).tr (Gr.drew _)))
      have HA := Lib.hid (show Box (((w0.alloc (Obj.cells #[.int .i64 x.a, .int .i64 x.b, .int .i64 x.c, .int .i64 x.d] 65)).alloc (Obj.cells #[.int .i64 y.a, .int .i64 y.b, .int .i64 y.c, .int .i64 y.d] 65)).drew) (w.heap.size + 1 + 1) [.int .i64 x.a, .int .i64 x.b, .int .i64 x.c, .int .i64 x.d] 65 by
        have := ((Box.fresh w0 [.int .i64 x.a, .int .i64 x.b, .int .i64 x.c, .int .i64 x.d] 65).grow (Gr.alloc _ (Obj.cells #[.int .i64 y.a, .int .i64 y.b, .int .i64 y.c, .int .i64 y.d] 65))).grow (Gr.drew _)
        rw [hs0] at this
        exact this)
      have HAB := Lib.hid (show Box (((w0.alloc (Obj.cells #[.int .i64 x.a, .int .i64 x.b, .int .i64 x.c, .int .i64 x.d] 65)).alloc (Obj.cells #[.int .i64 y.a, .int .i64 y.b, .int .i64 y.c, .int .i64 y.d] 65)).drew) (w.heap.size + 1 + 1 + 1) [.int .i64 y.a, .int .i64 y.b, .int .i64 y.c, .int .i64 y.d] 65 by
        have := (Box.fresh (w0.alloc (Obj.cells #[.int .i64 x.a, .int .i64 x.b, .int .i64 x.c, .int .i64 x.d] 65)) [.int .i64 y.a, .int .i64 y.b, .int .i64 y.c, .int .i64 y.d] 65).grow (Gr.drew _)
        rw [show (w0.alloc (Obj.cells #[.int .i64 x.a, .int .i64 x.b, .int .i64 x.c, .int .i64 x.d] 65)).heap.size = w.heap.size + 1 + 1 + 1 by simp [hs0]] at this
        exact this)
      have HXB := HA
      have HYB := HAB
      have HBB := Lib.hid (show Box (((w0.alloc (Obj.cells #[.int .i64 x.a, .int .i64 x.b, .int .i64 x.c, .int .i64 x.d] 65)).alloc (Obj.cells #[.int .i64 y.a, .int .i64 y.b, .int .i64 y.c, .int .i64 y.d] 65)).drew) w.heap.size _ 26 from HB.out.grow (((Gr.alloc _ _).tr (Gr.alloc _ _)).tr (Gr.drew _)))
      have HZB := Lib.hid (show Box (((w0.alloc (Obj.cells #[.int .i64 x.a, .int .i64 x.b, .int .i64 x.c, .int .i64 x.d] 65)).alloc (Obj.cells #[.int .i64 y.a, .int .i64 y.b, .int .i64 y.c, .int .i64 y.d] 65)).drew) (w.heap.size + 1) _ 24 from HZ.out.grow (((Gr.alloc _ _).tr (Gr.alloc _ _)).tr (Gr.drew _)))
      have hsz : (((w0.alloc (Obj.cells #[.int .i64 x.a, .int .i64 x.b, .int .i64 x.c, .int .i64 x.d] 65)).alloc (Obj.cells #[.int .i64 y.a, .int .i64 y.b, .int .i64 y.c, .int .i64 y.d] 65)).drew).heap.size = w.heap.size + 1 + 1 + 1 + 1 := by simp [hs0]
      clear HA HAB HB HZ
      generalize (((w0.alloc (Obj.cells #[.int .i64 x.a, .int .i64 x.b, .int .i64 x.c, .int .i64 x.d] 65)).alloc (Obj.cells #[.int .i64 y.a, .int .i64 y.b, .int .i64 y.c, .int .i64 y.d] 65)).drew) = wz at *
      clear hs0 q0 q1 q2 q3 p0 p1 p2 p3 lb lc r0 r1 r2 r3 r4 rl
      obtain ⟨r0, r1, r2, r3, r4⟩ := cells5 HBB.out
      have rl := HBB.out.lt
      obtain ⟨x0, x1, x2, x3⟩ := cells4 HXB.out
      have xl := HXB.out.lt
      obtain ⟨y0, y1, y2, y3⟩ := cells4 HYB.out
      have yl := HYB.out.lt
      have zl := HZB.out.lt
      go_wp2_with (first | (go_at_call 80; (with_reducible refine (HC1.out _).mono ?_); rintro e w1 ⟨rfl, hb⟩; have HG := Lib.hid (Gr.tr HG.out hb); have HXB := Lib.hid (HXB.out.grow hb); have HYB := Lib.hid (HYB.out.grow hb); have HBB := Lib.hid (HBB.out.grow hb); have HZB := Lib.hid (HZB.out.grow hb); have hs1 := hb.size; clear hb r0 r1 r2 r3 r4 rl x0 x1 x2 x3 xl y0 y1 y2 y3 yl zl; obtain ⟨r0, r1, r2, r3, r4⟩ := cells5 HBB.out; have rl := HBB.out.lt; obtain ⟨x0, x1, x2, x3⟩ := cells4 HXB.out; have xl := HXB.out.lt; obtain ⟨y0, y1, y2, y3⟩ := cells4 HYB.out; have yl := HYB.out.lt; have zl := HZB.out.lt; have zf := HZB.out.free (i := 0); have zg := HZB.out.free (i := 1); obtain ⟨z0, z1, -, -, -⟩ := HZB.out.two) | (go_at_call 80; (with_reducible refine (HC2.out _).mono ?_); rintro e w2 ⟨rfl, hb⟩; replace hb := Gr.tr (Gr.alloc _ _) hb; have HG := Lib.hid (Gr.tr HG.out hb); have HXB := Lib.hid (HXB.out.grow hb); have HYB := Lib.hid (HYB.out.grow hb); have HBB := Lib.hid (HBB.out.grow hb); have HZB := Lib.hid (HZB.out.grow hb); have hs2 := hb.size; clear hb r0 r1 r2 r3 r4 rl x0 x1 x2 x3 xl y0 y1 y2 y3 yl zl; obtain ⟨r0, r1, r2, r3, r4⟩ := cells5 HBB.out; have rl := HBB.out.lt; obtain ⟨x0, x1, x2, x3⟩ := cells4 HXB.out; have xl := HXB.out.lt; obtain ⟨y0, y1, y2, y3⟩ := cells4 HYB.out; have yl := HYB.out.lt; have zl := HZB.out.lt; have zf := HZB.out.free (i := 0); have zg := HZB.out.free (i := 1); obtain ⟨z0, z1, -, -, -⟩ := HZB.out.two))
      first
        | exact bodyPost_ret (v := .agg #[.int .i64 qc, .int .i64 qd]) (by simp [results, Try.f39, go_sem, z0, z1, zl]) rfl ⟨rfl, (HG.out.setCell (by simp) _).setCell (by simp) _⟩
        | exact bodyPost_ret (v := .agg #[.int .i64 1, .int .i64 0]) (by simp [results, Try.f39, go_sem, z0, z1, zl]) rfl ⟨rfl, bgr ((HG.out.setCell (by simp) _).setCell (by simp) _) (by simp; omega) (Gr.alloc _ _)⟩
    · have HG := Lib.hid (show Gr w (((w0.alloc (Obj.cells #[.int .i64 y.a, .int .i64 y.b, .int .i64 y.c, .int .i64 y.d] 65)).alloc (Obj.cells #[.int .i64 x.a, .int .i64 x.b, .int .i64 x.c, .int .i64 x.d] 65)).drew) from HG.out.tr (((Gr.alloc _ _).tr (Gr.alloc _ _)).tr (Gr.drew _)))
      have HA := Lib.hid (show Box (((w0.alloc (Obj.cells #[.int .i64 y.a, .int .i64 y.b, .int .i64 y.c, .int .i64 y.d] 65)).alloc (Obj.cells #[.int .i64 x.a, .int .i64 x.b, .int .i64 x.c, .int .i64 x.d] 65)).drew) (w.heap.size + 1 + 1) [.int .i64 y.a, .int .i64 y.b, .int .i64 y.c, .int .i64 y.d] 65 by
        have := ((Box.fresh w0 [.int .i64 y.a, .int .i64 y.b, .int .i64 y.c, .int .i64 y.d] 65).grow (Gr.alloc _ (Obj.cells #[.int .i64 x.a, .int .i64 x.b, .int .i64 x.c, .int .i64 x.d] 65))).grow (Gr.drew _)
        rw [hs0] at this
        exact this)
      have HAB := Lib.hid (show Box (((w0.alloc (Obj.cells #[.int .i64 y.a, .int .i64 y.b, .int .i64 y.c, .int .i64 y.d] 65)).alloc (Obj.cells #[.int .i64 x.a, .int .i64 x.b, .int .i64 x.c, .int .i64 x.d] 65)).drew) (w.heap.size + 1 + 1 + 1) [.int .i64 x.a, .int .i64 x.b, .int .i64 x.c, .int .i64 x.d] 65 by
        have := (Box.fresh (w0.alloc (Obj.cells #[.int .i64 y.a, .int .i64 y.b, .int .i64 y.c, .int .i64 y.d] 65)) [.int .i64 x.a, .int .i64 x.b, .int .i64 x.c, .int .i64 x.d] 65).grow (Gr.drew _)
        rw [show (w0.alloc (Obj.cells #[.int .i64 y.a, .int .i64 y.b, .int .i64 y.c, .int .i64 y.d] 65)).heap.size = w.heap.size + 1 + 1 + 1 by simp [hs0]] at this
        exact this)
      have HXB := HAB
      have HYB := HA
      have HBB := Lib.hid (show Box (((w0.alloc (Obj.cells #[.int .i64 y.a, .int .i64 y.b, .int .i64 y.c, .int .i64 y.d] 65)).alloc (Obj.cells #[.int .i64 x.a, .int .i64 x.b, .int .i64 x.c, .int .i64 x.d] 65)).drew) w.heap.size _ 26 from HB.out.grow (((Gr.alloc _ _).tr (Gr.alloc _ _)).tr (Gr.drew _)))
      have HZB := Lib.hid (show Box (((w0.alloc (Obj.cells #[.int .i64 y.a, .int .i64 y.b, .int .i64 y.c, .int .i64 y.d] 65)).alloc (Obj.cells #[.int .i64 x.a, .int .i64 x.b, .int .i64 x.c, .int .i64 x.d] 65)).drew) (w.heap.size + 1) _ 24 from HZ.out.grow (((Gr.alloc _ _).tr (Gr.alloc _ _)).tr (Gr.drew _)))
      have hsz : (((w0.alloc (Obj.cells #[.int .i64 y.a, .int .i64 y.b, .int .i64 y.c, .int .i64 y.d] 65)).alloc (Obj.cells #[.int .i64 x.a, .int .i64 x.b, .int .i64 x.c, .int .i64 x.d] 65)).drew).heap.size = w.heap.size + 1 + 1 + 1 + 1 := by simp [hs0]
      clear HA HAB HB HZ
      generalize (((w0.alloc (Obj.cells #[.int .i64 y.a, .int .i64 y.b, .int .i64 y.c, .int .i64 y.d] 65)).alloc (Obj.cells #[.int .i64 x.a, .int .i64 x.b, .int .i64 x.c, .int .i64 x.d] 65)).drew) = wz at *
      clear hs0 q0 q1 q2 q3 p0 p1 p2 p3 lb lc r0 r1 r2 r3 r4 rl
      obtain ⟨r0, r1, r2, r3, r4⟩ := cells5 HBB.out
      have rl := HBB.out.lt
      obtain ⟨x0, x1, x2, x3⟩ := cells4 HXB.out
      have xl := HXB.out.lt
      obtain ⟨y0, y1, y2, y3⟩ := cells4 HYB.out
      have yl := HYB.out.lt
      have zl := HZB.out.lt
      go_wp2_with (first | (go_at_call 80; (with_reducible refine (HC1.out _).mono ?_); rintro e w1 ⟨rfl, hb⟩; have HG := Lib.hid (Gr.tr HG.out hb); have HXB := Lib.hid (HXB.out.grow hb); have HYB := Lib.hid (HYB.out.grow hb); have HBB := Lib.hid (HBB.out.grow hb); have HZB := Lib.hid (HZB.out.grow hb); have hs1 := hb.size; clear hb r0 r1 r2 r3 r4 rl x0 x1 x2 x3 xl y0 y1 y2 y3 yl zl; obtain ⟨r0, r1, r2, r3, r4⟩ := cells5 HBB.out; have rl := HBB.out.lt; obtain ⟨x0, x1, x2, x3⟩ := cells4 HXB.out; have xl := HXB.out.lt; obtain ⟨y0, y1, y2, y3⟩ := cells4 HYB.out; have yl := HYB.out.lt; have zl := HZB.out.lt; have zf := HZB.out.free (i := 0); have zg := HZB.out.free (i := 1); obtain ⟨z0, z1, -, -, -⟩ := HZB.out.two) | (go_at_call 80; (with_reducible refine (HC2.out _).mono ?_); rintro e w2 ⟨rfl, hb⟩; replace hb := Gr.tr (Gr.alloc _ _) hb; have HG := Lib.hid (Gr.tr HG.out hb); have HXB := Lib.hid (HXB.out.grow hb); have HYB := Lib.hid (HYB.out.grow hb); have HBB := Lib.hid (HBB.out.grow hb); have HZB := Lib.hid (HZB.out.grow hb); have hs2 := hb.size; clear hb r0 r1 r2 r3 r4 rl x0 x1 x2 x3 xl y0 y1 y2 y3 yl zl; obtain ⟨r0, r1, r2, r3, r4⟩ := cells5 HBB.out; have rl := HBB.out.lt; obtain ⟨x0, x1, x2, x3⟩ := cells4 HXB.out; have xl := HXB.out.lt; obtain ⟨y0, y1, y2, y3⟩ := cells4 HYB.out; have yl := HYB.out.lt; have zl := HZB.out.lt; have zf := HZB.out.free (i := 0); have zg := HZB.out.free (i := 1); obtain ⟨z0, z1, -, -, -⟩ := HZB.out.two))
      first
        | exact bodyPost_ret (v := .agg #[.int .i64 qc, .int .i64 qd]) (by simp [results, Try.f39, go_sem, z0, z1, zl]) rfl ⟨rfl, (HG.out.setCell (by simp) _).setCell (by simp) _⟩
        | exact bodyPost_ret (v := .agg #[.int .i64 1, .int .i64 0]) (by simp [results, Try.f39, go_sem, z0, z1, zl]) rfl ⟨rfl, bgr ((HG.out.setCell (by simp) _).setCell (by simp) _) (by simp; omega) (Gr.alloc _ _)⟩

end Go.Proofs.Ytjlaoiimbhlafaa
end
namespace Go.Proofs.Ytjlaoiimbhlafaa
open Go.ChangeShapes Go.WideShapes Go.ChangeAt Go.RowKit Go.Deep

/-! Rows that come in: what their cells hold. -/
def okI (n : Int) : Prop := (Lit.int .i64 n).wf = true
theorem okI.b {n : Int} (h : okI n) : -9223372036854775808 ≤ n ∧ n ≤ 9223372036854775807 := by
  unfold okI at h
  simp only [Lit.wf, Bool.and_eq_true, decide_eq_true_eq] at h
  exact h
def Mrk.okI (m : Mrk) : Prop := Ytjlaoiimbhlafaa.okI m.a ∧ Ytjlaoiimbhlafaa.okI m.b ∧ Ytjlaoiimbhlafaa.okI m.c ∧ Ytjlaoiimbhlafaa.okI m.d
theorem cells24 : Try.prog.cellsOf 24 = 2 := by kernel_rfl
theorem cells65 : Try.prog.cellsOf 65 = 4 := by kernel_rfl
theorem cells22 : Try.prog.cellsOf 22 = 1 := by kernel_rfl
theorem cells26 : Try.prog.cellsOf 26 = 5 := by kernel_rfl
section
variable {H : Type} {enc : TypeId × Value → H} {w : World} {base : Nat} {spare : Nat → Bool} {held : Bool}
theorem trod_span {fuel : Nat} {cs : List Value} {x : DataW H × List MemPlace} (h : DataW.trod enc Try.prog w base spare held fuel 24 cs = some x) :
    ∃ a b, cs = [.int .i64 a, .int .i64 b] ∧ okI a ∧ okI b := by
  obtain ⟨y0, y1, n, -, hl, h0, h1⟩ := trod_struct2 Try.underlying24 h
  rw [cells24] at hl
  simp only [cells3i] at h0 h1
  match cs, hl with
  | [c0, c1], _ =>
    obtain ⟨a, e0, -, wa⟩ := DataW.trod_int Try.underlying3 h0
    obtain ⟨b, e1, -, wb⟩ := DataW.trod_int Try.underlying3 h1
    simp at e0 e1
    exact ⟨a, b, by rw [e0, e1], wa, wb⟩
theorem trod_mark {fuel : Nat} {cs : List Value} {x : DataW H × List MemPlace} (h : DataW.trod enc Try.prog w base spare held fuel 65 cs = some x) :
    ∃ m : Mrk, cs = m.cs ∧ m.okI := by
  obtain ⟨y0, y1, n, -, hl, h0, h1⟩ := trod_struct2 Try.underlying65 h
  rw [cells65] at hl
  simp only [cells24] at h0 h1
  match cs, hl with
  | [c0, c1, c2, c3], _ =>
    obtain ⟨a, b, e0, wa, wb⟩ := trod_span h0
    obtain ⟨c, d, e1, wc, wd⟩ := trod_span h1
    simp at e0 e1
    exact ⟨⟨a, b, c, d⟩, by rw [e0.1, e0.2, e1.1, e1.2]; rfl, wa, wb, wc, wd⟩
set_option maxRecDepth 100000 in
theorem trod_rows {fuel : Nat} {cs : List Value} {x : DataW H × List MemPlace} (h : DataW.trod enc Try.prog w base spare held fuel 26 cs = some x) :
    ∃ v u s t k, cs = [v, u, .int .i64 s, .int .i64 t, .int .i64 k] ∧ (okI s ∧ okI t ∧ okI k) ∧
      (∃ n y, DataW.trod enc Try.prog w base spare held n 22 [v] = some y) ∧ ∃ n y, DataW.trod enc Try.prog w base spare held n 22 [u] = some y := by
  obtain ⟨xs, n, -, -, hl, hlen, hf⟩ := DataW.trod_struct Try.underlying26 h
  rw [cells26] at hl
  match cs, hl with
  | [c0, c1, c2, c3, c4], _ =>
  match xs, hlen with
  | [y0, y1, y2, y3], _ =>
    have h0 := hf 0 _ rfl
    have h1 := hf 1 _ rfl
    have h2 := hf 2 _ rfl
    have h3 := hf 3 _ rfl
    simp [cells24, cells3i, cells22] at h0 h1 h2 h3
    obtain ⟨a, b, e2, wa, wb⟩ := trod_span h2
    obtain ⟨c, e3, -, wc⟩ := DataW.trod_int Try.underlying3 h3
    simp at e2 e3
    exact ⟨c0, c1, a, b, c, by rw [e2.1, e2.2, e3], ⟨wa, wb, wc⟩, ⟨n, y0, h0⟩, n, y1, h1⟩
end
/-- A row of marks that came in. -/
def RowIn (l : List Mrk) (p : Option Addr) (w : World) : Prop := l.length ≤ maxLen ∧ (l.length ≤ 1000 → MksAt l p w) ∧ ∀ m ∈ l, m.okI
set_option maxRecDepth 100000 in
theorem open_row {H : Type} {enc : TypeId × Value → H} {W : World} {base n : Nat} {v : Value} {y : DataW H × List MemPlace} (hy : DataW.trod enc Try.prog W 0 (fun _ => true) true n 22 [v] = some y)
    (hcell : Cell.okWide Try.prog W .any base 22 v) : ∃ (l : List Mrk) (p : Option Addr) (cap : Nat), v = .slice p l.length cap ∧ RowIn l p W := by
  rcases open_slice Try.underlying22 hy with ⟨e, -⟩ | ⟨a, len, cap, m, n', D, Pl, e, -, hl, hm, hmm, -, hx⟩
  · simp at e
    subst e
    exact ⟨[], none, 0, rfl, by simp, fun _ => ⟨Nat.zero_le _, fun i m hm => by cases hm⟩, fun _ h => by cases h⟩
  · simp at e
    subst e
    have hc := hcell
    simp [Cell.okWide, Cell.ok, Try.underlying22] at hc
    obtain ⟨-, -, hhas⟩ := hc
    obtain ⟨-, hspot, row, cells, hshape, -⟩ := hhas
    have hlt : a.block < W.heap.size := by
      apply Nat.lt_of_not_le; intro hc
      have : W.heap[a.block]? = none := by simpa using hc
      simp [World.shape?, this] at hshape
    have hml : len ≤ m := by rw [hmm]; split <;> omega
    obtain ⟨f, hf⟩ := choose_lt (α := Option Mrk) (n := len) (p := fun i t => ∃ t' : Mrk, t = some t' ∧ W.cells? 0 (a.add (i * 4)) 4 = some t'.cs ∧ t'.okI) (fun i hi => by
      obtain ⟨cs', h1, h2⟩ := hx i (by omega)
      rw [cells65] at h1
      obtain ⟨t, rfl, ht⟩ := trod_mark h2
      exact ⟨some t, t, rfl, h1, ht⟩)
    have hlen : ((List.range len).map fun i => (f i).getD ⟨0, 0, 0, 0⟩).length = len := by simp
    refine ⟨(List.range len).map fun i => (f i).getD ⟨0, 0, 0, 0⟩, some a, cap, by rw [hlen], by rw [hlen]; omega, ?_, ?_⟩
    · intro h1000
      refine ⟨h1000, fun i t hi => ?_⟩
      have hil : i < len := by
        have := (List.getElem?_eq_some_iff.1 hi).1
        simpa using this
      obtain ⟨t', e1, h1, -⟩ := hf i hil
      have et : t = t' := by simp [hil, e1] at hi; exact hi.symm
      subst et
      obtain ⟨b, o, s⟩ := a
      simp at hspot
      subst hspot
      obtain ⟨-, hlen', hc⟩ := World.cells?_some h1
      have k : ∀ j x, j < 4 → t.cs[j]? = some x → W.cell? ⟨b, o + i * 4 + j, none⟩ = some x := fun j x hj hx => by
        have := hc j hj
        rw [hx] at this
        rw [← this]
        congr 1
        unfold Addr.add
        by_cases h0 : i * 4 = 0 <;> by_cases h00 : j = 0 <;> simp [h0, h00]
      exact ⟨b, o, rfl, hlt, k 0 _ (by omega) rfl, k 1 _ (by omega) rfl, k 2 _ (by omega) rfl, k 3 _ (by omega) rfl⟩
    · intro t ht
      obtain ⟨i, hi, rfl⟩ := List.mem_map.1 ht
      obtain ⟨t', e1, -, h3⟩ := hf i (List.mem_range.1 hi)
      rw [e1]; exact h3
/-- Rows that came in. -/
def RowsIn (r : Rr) (w : World) : Prop := (okI r.s ∧ okI r.t ∧ okI r.h) ∧ RowIn r.L r.lp w ∧ RowIn r.R r.rp w
set_option maxRecDepth 100000 in
theorem open_rows {H : Type} {enc : TypeId × Value → H} {W : World} {base : Nat} {v : Value} {d : DataW H} {ps : List MemPlace} (hval : Value.okWide Try.prog W .any base 26 v)
    (h : DataW.Trod enc Try.prog W 0 (fun _ => true) true 26 v d ps) : ∃ r : Rr, v = r.val ∧ RowsIn r W := by
  obtain ⟨cs, rfl, hsz, ts, hts, hn, hrow⟩ : ∃ cs, v = .agg cs ∧ cs.size = Try.prog.cellsOf 26 ∧ Row.okWide Try.prog W .any base 26 cs := by
    have := hval
    unfold Value.okWide at this
    rw [Try.underlying26] at this
    exact this
  obtain ⟨fuel, hf⟩ := h
  obtain ⟨v, u, s, t, k, hcs, hi, ⟨n, y, hy⟩, n', y', hy'⟩ := trod_rows hf
  have hcs' : cs = #[v, u, .int .i64 s, .int .i64 t, .int .i64 k] := by
    have e : (Value.agg cs).cells = cs := rfl
    rw [e] at hcs
    exact Array.toList_inj.1 hcs
  subst hcs'
  have hts' : ts = [22, 22, 3, 3, 3] := by
    have e : Try.prog.cellTypes Try.prog.depth 26 = some [22, 22, 3, 3, 3] := by kernel_rfl
    rw [e] at hts; exact (Option.some.inj hts).symm
  subst hts'
  have h0 : ∃ x, ([22, 22, 3, 3, 3] : List TypeId)[0 % 5]? = some x ∧ Cell.okWide Try.prog W .any base x v := hrow 0 _ rfl
  have h1 : ∃ x, ([22, 22, 3, 3, 3] : List TypeId)[1 % 5]? = some x ∧ Cell.okWide Try.prog W .any base x u := hrow 1 _ rfl
  obtain ⟨x0, hx0, h0⟩ := h0
  obtain ⟨x1, hx1, h1⟩ := h1
  simp at hx0 hx1
  subst hx0 hx1
  obtain ⟨L, lp, lc, rfl, hL⟩ := open_row hy h0
  obtain ⟨R, rp, rc, rfl, hR⟩ := open_row hy' h1
  exact ⟨⟨L, lp, lc, R, rp, rc, s, t, k⟩, rfl, hi, hL, hR⟩
end Go.Proofs.Ytjlaoiimbhlafaa
section
namespace Go.Proofs.Ytjlaoiimbhlafaa
open Go.RowKit Go.Shelf

open MW
attribute [local go_sem] Oper.semAt_some run_store_func
theorem great5_any (r : Rr) (w : World) (hl : r.L.length ≤ 24 → MksAt r.L r.lp w) (hr : r.R.length ≤ 24 → MksAt r.R r.rp w) :
    Calls Try.prog 14 #[r.val, .int .i64 5] w fun e w' => e = .returned (.bool (r.great 5)) ∧ Below w.heap.size w w' := great_any r 5 w hl hr
theorem great10_any (r : Rr) (w : World) (hl : r.L.length ≤ 24 → MksAt r.L r.lp w) (hr : r.R.length ≤ 24 → MksAt r.R r.rp w) :
    Calls Try.prog 14 #[r.val, .int .i64 10] w fun e w' => e = .returned (.bool (r.great 10)) ∧ Below w.heap.size w w' := great_any r 10 w hl hr
/-- A slice of ints that reads as a function. -/
def InsF (p : Option Addr) (n : Nat) (F : Nat → Int) (w : World) : Prop := ∀ i, i < n → ∃ b o, p = some ⟨b, o, none⟩ ∧ b < w.heap.size ∧ w.cell? ⟨b, o + i, none⟩ = some (.int .i64 (F i))
theorem InsF.grow {p : Option Addr} {n : Nat} {F : Nat → Int} {w w' : World} (h : InsF p n F w) (hg : Gr w w') : InsF p n F w' := fun i hi => by
  obtain ⟨b, o, h1, h2, h3⟩ := h i hi
  exact ⟨b, o, h1, (bcell hg).2.2 _ h2, by rw [(bcell hg).1 _ _ h2]; exact h3⟩
def SlPost (w : World) (n : Nat) (F : Nat → Int) (c : Int) (e : Ending) (w' : World) : Prop := (∃ p k, e = .returned (.tuple #[.slice p n k, .int .i64 c]) ∧ InsF p n F w') ∧ Below w.heap.size w w'
theorem InPost.sl {w : World} {n : Nat} {F : Nat → Int} {c : Int} {e : Ending} {w' : World} (h : InPost w ((List.range n).map F) c e w') : SlPost w n F c e w' := by
  obtain ⟨⟨v, h1, h2⟩, h3⟩ := h
  obtain ⟨p, k, hv, hx⟩ := IntsIn.of_own h2
  have hn : ((List.range n).map F).length = n := by simp
  rw [hn] at hv
  exact ⟨⟨p, k, by rw [h1, hv], fun i hi => hx i (F i) (by simp [hi])⟩, h3⟩
section
variable (r : Rr) (w : World) (hl : MksAt r.L r.lp w) (hr : MksAt r.R r.rp w)
include hl hr
theorem can23_no (h : r.ok = false) (F : Nat → Int) : Calls Try.prog 23 #[r.val] w (SlPost w 0 F 1) := by
  have := Can_any r w hl hr
  unfold Rr.can at this
  rw [h] at this
  exact this.mono fun e w' h => InPost.sl (n := 0) (F := F) h
theorem can23_zero (h : r.ok = true) (hz : r.lkd.all0 = 0) (F : Nat → Int) : Calls Try.prog 23 #[r.val] w (SlPost w 0 F 4) := by
  have := Can_any r w hl hr
  unfold Rr.can at this
  rw [h, if_pos rfl, if_pos hz] at this
  exact this.mono fun e w' h => InPost.sl (n := 0) (F := F) h
theorem can23_yes (h : r.ok = true) (hz : r.lkd.all0 ≠ 0) : Calls Try.prog 23 #[r.val] w (SlPost w r.L.length (fun j => (r.lkd.ptn j : Int)) 0) := by
  have := Can_any r w hl hr
  unfold Rr.can at this
  rw [h, if_pos rfl, if_neg hz] at this
  exact this.mono fun e w' h => InPost.sl h
theorem sure25_no (h : r.ok = false) (F : Nat → Int) : Calls Try.prog 25 #[r.val] w (SlPost w 0 F 1) := by
  have := Sure_any r w hl hr
  unfold Rr.surely at this
  rw [h] at this
  exact this.mono fun e w' h => InPost.sl (n := 0) (F := F) h
theorem sure25_zero (h : r.ok = true) (hz : r.lkd.all0 = 0) (F : Nat → Int) : Calls Try.prog 25 #[r.val] w (SlPost w 0 F 4) := by
  have := Sure_any r w hl hr
  unfold Rr.surely at this
  rw [h, if_pos rfl, if_pos hz] at this
  exact this.mono fun e w' h => InPost.sl (n := 0) (F := F) h
theorem sure25_yes (h : r.ok = true) (hz : r.lkd.all0 ≠ 0) : Calls Try.prog 25 #[r.val] w (SlPost w r.L.length (fun j => r.lkd.surTo j r.lkd.nR) 0) := by
  have := Sure_any r w hl hr
  unfold Rr.surely at this
  rw [h, if_pos rfl, if_neg hz] at this
  exact this.mono fun e w' h => InPost.sl h
theorem hides27_no (h : r.ok = false) : Calls Try.prog 27 #[r.val] w fun e w' => e = .returned (.tuple #[.int .i64 0, .int .i64 0, .int .i64 1]) ∧ Below w.heap.size w w' := by
  have := Hides_any r w hl hr
  unfold Rr.hides at this
  rw [h] at this
  exact this
theorem hides27_zero (h : r.ok = true) (hz : r.lkd.all0 = 0) : Calls Try.prog 27 #[r.val] w fun e w' => e = .returned (.tuple #[.int .i64 0, .int .i64 0, .int .i64 4]) ∧ Below w.heap.size w w' := by
  have := Hides_any r w hl hr
  unfold Rr.hides at this
  rw [h, if_pos rfl, if_pos hz] at this
  exact this
theorem hides27_yes (h : r.ok = true) (hz : r.lkd.all0 ≠ 0) : Calls Try.prog 27 #[r.val] w fun e w' => e = .returned (.tuple #[.int .i64 (r.hdL : Nat), .int .i64 (r.hdR : Nat), .int .i64 0]) ∧ Below w.heap.size w w' := by
  have := Hides_any r w hl hr
  unfold Rr.hides at this
  rw [h, if_pos rfl, if_neg hz] at this
  exact this
theorem count18_no (h : r.ok = false) : Calls Try.prog 18 #[r.val] w fun e w' => e = .returned (.tuple #[.int .i64 0, .int .i64 1]) ∧ Below w.heap.size w w' := by
  have := Count_any r w hl hr
  unfold Rr.counted at this
  rw [h] at this
  exact this
theorem count18_yes (h : r.ok = true) : Calls Try.prog 18 #[r.val] w fun e w' => e = .returned (.tuple #[.int .i64 (r.lkd.all0 : Nat), .int .i64 0]) ∧ Below w.heap.size w w' := by
  have := Count_any r w hl hr
  unfold Rr.counted at this
  rw [h, if_pos rfl] at this
  exact this
theorem shift30_none (h : r.ok = true) (hz : r.lkd.all0 ≠ 0) (i : Nat) (hi : i < r.L.length) (hs : (r.shE i).s = false) : Calls Try.prog 30 #[r.val, .int .i64 i] w fun e w' => e = .returned (.tuple #[.agg #[.int .i64 0, .int .i64 0], .int .i64 4]) ∧ Below w.heap.size w w' := by
  have := Shift_any r i w hl hr
  unfold Rr.shift at this
  have hm : isM (i : Int) r.L.length = true := by unfold isM; simp; omega
  rw [h, if_pos rfl, hm, if_pos rfl, if_neg hz, Int.toNat_natCast, hs] at this
  exact this
theorem shift30_some (h : r.ok = true) (hz : r.lkd.all0 ≠ 0) (i : Nat) (hi : i < r.L.length) (hs : (r.shE i).s = true) : Calls Try.prog 30 #[r.val, .int .i64 i] w fun e w' => e = .returned (.tuple #[.agg #[.int .i64 (r.shE i).a, .int .i64 (r.shE i).b], .int .i64 0]) ∧ Below w.heap.size w w' := by
  have := Shift_any r i w hl hr
  unfold Rr.shift at this
  have hm : isM (i : Int) r.L.length = true := by unfold isM; simp; omega
  rw [h, if_pos rfl, hm, if_pos rfl, if_neg hz, Int.toNat_natCast, hs] at this
  exact this
theorem shift30_zero (h : r.ok = true) (hz : r.lkd.all0 = 0) (i : Nat) (hi : i < r.L.length) : Calls Try.prog 30 #[r.val, .int .i64 i] w fun e w' => e = .returned (.tuple #[.agg #[.int .i64 0, .int .i64 0], .int .i64 4]) ∧ Below w.heap.size w w' := by
  have := Shift_any r i w hl hr
  unfold Rr.shift at this
  have hm : isM (i : Int) r.L.length = true := by unfold isM; simp; omega
  rw [h, if_pos rfl, hm, if_pos rfl, if_pos hz] at this
  exact this
theorem fits16_yes (h : r.ok = true) (i j : Nat) (hi : i < r.L.length) (hj : j < r.R.length) : Calls Try.prog 16 #[r.val, .int .i64 i, .int .i64 j] w fun e w' => e = .returned (.tuple #[.bool (r.fitm i j), .int .i64 0]) ∧ Below w.heap.size w w' := by
  have := Fits_any r i j w hl hr
  unfold Rr.fits at this
  have hm : isM (i : Int) r.L.length = true := by unfold isM; simp; omega
  have hm2 : isM (j : Int) r.R.length = true := by unfold isM; simp; omega
  rw [h, if_pos rfl, hm, hm2, Bool.true_and, if_pos rfl, Int.toNat_natCast, Int.toNat_natCast] at this
  exact this
theorem rows38_is (b : Bool) (h : r.ok = b) : Calls Try.prog 38 #[r.val] w fun e w' => e = .returned (.bool b) ∧ Below w.heap.size w w' := by
  have := rows38_any r w hl hr
  rw [h] at this
  exact this
end
/-- Reading bits. -/
theorem bit_at (m k : Nat) (hm : m < 4096) : bits BinOp.and IntKind.i64 ((m : Int) / 2 ^ k) 1 = if m.testBit k then 1 else 0 := by
  have h1 : m / 2 ^ k ≤ m := Nat.div_le_self _ _
  rw [show ((m : Int) / 2 ^ k) = ((m / 2 ^ k : Nat) : Int) from by simp, show (1 : Int) = ((1 : Nat) : Int) from rfl, (bits_nat .i64 63 (by decide) wraps_i63 (m / 2 ^ k) 1 (by omega) (by omega)).1, Nat.and_one_is_mod, Nat.testBit_eq_decide_div_mod_eq]
  have : m / 2 ^ k % 2 = 0 ∨ m / 2 ^ k % 2 = 1 := by omega
  rcases this with h | h <;> simp [h]
theorem bit_1 {m k : Nat} (hm : m < 4096) (h : m.testBit k = true) : bits BinOp.and IntKind.i64 ((m : Int) / 2 ^ k) 1 = 1 := by rw [bit_at m k hm, h]; rfl
theorem bit_0 {m k : Nat} (hm : m < 4096) (h : m.testBit k = false) : bits BinOp.and IntKind.i64 ((m : Int) / 2 ^ k) 1 = 0 := by rw [bit_at m k hm, h]; rfl
theorem shr_0 {m n : Nat} (h : m < 2 ^ n) : ((m : Int) / 2 ^ n) = 0 := by
  rw [show ((m : Int) / 2 ^ n) = ((m / 2 ^ n : Nat) : Int) from by simp, Nat.div_eq_of_lt h]; rfl
theorem lt_4096 {m n : Nat} (h : m < 2 ^ n) (hn : n ≤ 10) : m < 1024 := Nat.lt_of_lt_of_le h (Nat.pow_le_pow_right (n := 2) (i := n) (j := 10) (by omega) hn)
/-- All sets together. -/
def orTo (f : Nat → Nat) : Nat → Nat
  | 0 => 0
  | n + 1 => orTo f n ||| f n
theorem orTo_bit (f : Nat → Nat) (k : Nat) : ∀ n, (orTo f n).testBit k = true ↔ ∃ i, i < n ∧ (f i).testBit k = true
  | 0 => by simp [orTo]
  | n + 1 => by
    unfold orTo
    rw [Nat.testBit_or, Bool.or_eq_true, orTo_bit f k n]
    constructor
    · rintro (⟨i, hi, h⟩ | h)
      · exact ⟨i, by omega, h⟩
      · exact ⟨n, by omega, h⟩
    · rintro ⟨i, hi, h⟩
      by_cases e : i = n
      · exact .inr (e ▸ h)
      · exact .inl ⟨i, by omega, h⟩
theorem orTo_lt (f : Nat → Nat) (B : Nat) (h : ∀ i, f i < 2 ^ B) : ∀ n, orTo f n < 2 ^ B
  | 0 => Nat.two_pow_pos B
  | n + 1 => Nat.or_lt_two_pow (orTo_lt f B h n) (h n)
theorem neq24 (a b c d : Int) (W : World) : (binOp .neq 24 (.agg #[.int .i64 a, .int .i64 b]) (.agg #[.int .i64 c, .int .i64 d])).run Try.prog W = .ok (.bool (!(a == c && b == d))) W := by rw [run_neq_struct, eq24]; rfl
def wLo (o : Option (Int × Int)) : Int := (o.getD (0, 0)).1
def wHi (o : Option (Int × Int)) : Int := (o.getD (0, 0)).2

end Go.Proofs.Ytjlaoiimbhlafaa
end
