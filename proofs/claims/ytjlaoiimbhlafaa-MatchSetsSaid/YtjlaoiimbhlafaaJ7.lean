import Derived.Test.YtjlaoiimbhlafaaJ6
import Derived.Laws.StructEq
set_option linter.unusedVariables false
set_option linter.unusedSimpArgs false
namespace Go.Proofs.Ytjlaoiimbhlafaa
open Go.RowKit Go.Shelf

open MW
attribute [local go_sem] Oper.semAt_some run_store_func
attribute [local go_sem ↓] Go.wp_at_zero Go.wp_at_succ
/-- Ways that are read. -/
def WsIn (o : Value) (l : List (List (Nat × Nat))) (W : World) : Prop := ∃ p c, o = .slice p l.length c ∧ ∀ i q, l[i]? = some q → ∃ b v, p = some ⟨b, 0, none⟩ ∧ b < W.heap.size ∧ W.cell? ⟨b, i, none⟩ = some v ∧ PrsIn v q W
theorem WsIn.grow {o : Value} {l : List (List (Nat × Nat))} {w w' : World} (h : WsIn o l w) (hg : Gr w w') : WsIn o l w' := by
  obtain ⟨p, c, h1, h2⟩ := h
  refine ⟨p, c, h1, fun i q hq => ?_⟩
  obtain ⟨b, v, h3, h4, h5, h6⟩ := h2 i q hq
  exact ⟨b, v, h3, (bcell hg).2.2 _ h4, by rw [(bcell hg).1 _ _ h4]; exact h5, h6.grow hg⟩
theorem WsIn.nil (W : World) : WsIn (.slice none 0 0) [] W := ⟨none, 0, rfl, fun i q h => by simp at h⟩
theorem WsIn.of_out {B : Nat} {o : Value} {l : List (List (Nat × Nat))} {W : World} (h : OutAt B o l W) : WsIn o l W := by
  obtain ⟨hs, h1, h2⟩ := h
  have h1' := h1
  obtain ⟨hl, h3⟩ := h1
  rcases h3 with ⟨rfl, h0⟩ | ⟨g, cap, cur, rfl, hge, hcur, hr⟩
  · have : l = [] := List.length_eq_zero_iff.1 h0
    subst this
    exact WsIn.nil W
  · refine ⟨some ⟨g, 0, none⟩, cap, rfl, fun i q hq => ?_⟩
    obtain ⟨v, hv⟩ : ∃ v, hs[i]? = some v := ⟨_, List.getElem?_eq_getElem (by rw [h2.1]; exact (List.getElem?_eq_some_iff.1 hq).1)⟩
    refine ⟨g, v, rfl, (Array.getElem?_eq_some_iff.1 hcur).1, ?_, (h2.2 i v q hv hq).into⟩
    have := World.ownsRow.cells h1' (g := g) rfl i v hv
    rwa [addz] at this
theorem Rr.ways_le {r : Rr} (hok : r.ok = true) (hL : r.L.length ≤ 5) (hR : r.R.length ≤ 5) : r.ways.length ≤ 7776 := by
  have h1 := Rr.cw_full hok r.h
  have h2 := cw_le (fun i j => (r.lkd.all i).testBit j) r.R.length (lf 0 r.L.length) 0 r.h
  rw [h1, lf_len] at h2
  refine Nat.le_trans h2 ?_
  calc (r.R.length + 1) ^ (r.L.length - 0) ≤ 6 ^ (r.L.length - 0) := Nat.pow_le_pow_left (by omega) _
    _ ≤ 6 ^ 5 := Nat.pow_le_pow_right (by omega) (by omega)
    _ = 7776 := by decide
set_option maxRecDepth 100000 in
set_option maxHeartbeats 8000000 in
theorem all53_any (r : Rr) (w : World) (hok : r.ok = true) (hl : MksAt r.L r.lp w) (hr : MksAt r.R r.rp w) (hn : r.ways.length ≤ 1000000) :
    Calls Try.prog 53 #[r.val] w fun e w' => (∃ o, e = .returned o ∧ WsIn o r.ways w') ∧ Below w.heap.size w w' := by
  have hw := ways_all r w hok hl hr _ 0 rfl (Nat.zero_le _)
  have hc := (show Calls Try.prog 99 #[.agg #[.slice r.lp r.L.length r.lc, .slice r.rp r.R.length r.rc, .int .i64 r.s, .int .i64 r.t, .int .i64 r.h], .slice none 0 0, .int .i64 0, .int .i64 0, .slice none 0 0] (w.alloc (Obj.cells r.cs.toArray 26)) (fun e W' => (∃ o', e = .returned o' ∧ OutAt w.heap.size o' ([] ++ wl r.fitm r.L.length r.R.length r.h [] 0 0) W') ∧ Gr w W' ∧ Kp (w.alloc (Obj.cells r.cs.toArray 26)) W') from
    hw 0 [] (.slice none 0 0) [] (.slice none 0 0) _ (Nat.zero_le _) (Gr.alloc _ _) ⟨0, World.ownsRow_nil _ _ _ _⟩ (Nat.le_refl _) (OutAt.nil _ _) (by rw [List.nil_append, ← All_wl]; exact hn))
  rw [List.nil_append, ← All_wl] at hc
  have HC := Lib.hid (show Calls Try.prog 99 #[.agg #[.slice r.lp r.L.length r.lc, .slice r.rp r.R.length r.rc, .int .i64 r.s, .int .i64 r.t, .int .i64 r.h], .slice none 0 0, .int .i64 0, .int .i64 0, .slice none 0 0] (w.alloc (Obj.cells r.cs.toArray 26)) (fun e W' => (∃ o', e = .returned o' ∧ OutAt w.heap.size o' r.ways W') ∧ Gr w W' ∧ Kp (w.alloc (Obj.cells r.cs.toArray 26)) W') from hc)
  unfold Rr.cs at HC
  clear hw hc hok hl hr hn
  have HB := Lib.hid (Box.fresh w r.cs 26)
  have HG := Lib.hid (show Gr w (w.alloc (Obj.cells r.cs.toArray 26)) from Gr.alloc _ _)
  unfold Rr.cs at HB HG
  unfold Rr.val at *
  obtain ⟨r0, r1, r2, r3, r4⟩ := cells5 HB.out
  have rl := HB.out.lt
  go_enter Try.func53, Try.ntmps53
  go_wp2_with (first | (go_at_call 99; (with_reducible refine HC.out.mono ?_); rintro e w1 ⟨⟨o, rfl, h1⟩, h2, h3⟩; have HO := Lib.hid h1; have HG2 := Lib.hid h2; clear h1 h2 h3; dsimp only))
  go_ret
  exact ⟨⟨o, rfl, WsIn.of_out HO.out⟩, HG2.out⟩
set_option maxRecDepth 100000 in
set_option maxHeartbeats 8000000 in
theorem rcount_no (r : Rr) (w : World) (hl : MksAt r.L r.lp w) (hr : MksAt r.R r.rp w) (hok : r.ok = false) :
    Calls Try.prog 19 #[r.val] w fun e w' => e = .returned (.tuple #[.int .i64 0, .int .i64 1]) ∧ Below w.heap.size w w' := by
  have H38 := Lib.hid (fun W (hg : Gr w W) => rows38_is r W (hl.grow hg) (hr.grow hg) false hok)
  clear hl hr hok
  have HB := Lib.hid (Box.fresh w r.cs 26)
  have HG := Lib.hid (show Gr w (w.alloc (Obj.cells r.cs.toArray 26)) from Gr.alloc _ _)
  unfold Rr.cs at HB HG
  unfold Rr.val at *
  obtain ⟨r0, r1, r2, r3, r4⟩ := cells5 HB.out
  have rl := HB.out.lt
  go_enter Try.func19, Try.ntmps19
  go_wp2_with (first | (go_at_call 38; (with_reducible refine (H38.out _ (by first | exact HG.out | exact Gr.tr HG.out (Gr.alloc _ _) | exact Gr.tr HG.out ((Gr.alloc _ _).tr (Gr.alloc _ _)) | exact Gr.tr HG.out (Gr.drew _))).mono ?_); rintro e wr ⟨rfl, hb⟩; have HG := Lib.hid (show Gr w wr from by first | exact Gr.tr HG.out hb | exact Gr.tr (HG.out.tr (Gr.alloc _ _)) hb | exact Gr.tr (HG.out.tr ((Gr.alloc _ _).tr (Gr.alloc _ _))) hb | exact Gr.tr (HG.out.tr (Gr.drew _)) hb); have HB := Lib.hid (HB.out.grow (by first | exact hb | exact Gr.tr (Gr.alloc _ _) hb | exact Gr.tr ((Gr.alloc _ _).tr (Gr.alloc _ _)) hb | exact Gr.tr (Gr.drew _) hb)); clear r0 r1 r2 r3 r4 rl; obtain ⟨r0, r1, r2, r3, r4⟩ := cells5 HB.out; have rl := HB.out.lt; dsimp only; clear hb))
  exact bodyPost_ret (v := .tuple #[.int .i64 0, .int .i64 1]) (by simp [results, Try.f19, go_sem]) rfl ⟨rfl, HG.out⟩
set_option maxRecDepth 100000 in
set_option maxHeartbeats 8000000 in
theorem rcount_yes (r : Rr) (w : World) (hl : MksAt r.L r.lp w) (hr : MksAt r.R r.rp w) (hok : r.ok = true) (hn : r.ways.length ≤ 1000000) :
    Calls Try.prog 19 #[r.val] w fun e w' => e = .returned (.tuple #[.int .i64 r.ways.length, .int .i64 0]) ∧ Below w.heap.size w w' := by
  have H38 := Lib.hid (fun W (hg : Gr w W) => rows38_is r W (hl.grow hg) (hr.grow hg) true hok)
  have H53 := Lib.hid (fun W (hg : Gr w W) => all53_any r W hok (hl.grow hg) (hr.grow hg) hn)
  clear hl hr hok
  have HB := Lib.hid (Box.fresh w r.cs 26)
  have HG := Lib.hid (show Gr w (w.alloc (Obj.cells r.cs.toArray 26)) from Gr.alloc _ _)
  unfold Rr.cs at HB HG
  unfold Rr.val at *
  obtain ⟨r0, r1, r2, r3, r4⟩ := cells5 HB.out
  have rl := HB.out.lt
  go_enter Try.func19, Try.ntmps19
  go_wp2_with (first | (go_at_call 38; (with_reducible refine (H38.out _ (by first | exact HG.out | exact Gr.tr HG.out (Gr.alloc _ _) | exact Gr.tr HG.out ((Gr.alloc _ _).tr (Gr.alloc _ _)) | exact Gr.tr HG.out (Gr.drew _))).mono ?_); rintro e wr ⟨rfl, hb⟩; have HG := Lib.hid (show Gr w wr from by first | exact Gr.tr HG.out hb | exact Gr.tr (HG.out.tr (Gr.alloc _ _)) hb | exact Gr.tr (HG.out.tr ((Gr.alloc _ _).tr (Gr.alloc _ _))) hb | exact Gr.tr (HG.out.tr (Gr.drew _)) hb); have HB := Lib.hid (HB.out.grow (by first | exact hb | exact Gr.tr (Gr.alloc _ _) hb | exact Gr.tr ((Gr.alloc _ _).tr (Gr.alloc _ _)) hb | exact Gr.tr (Gr.drew _) hb)); clear r0 r1 r2 r3 r4 rl; obtain ⟨r0, r1, r2, r3, r4⟩ := cells5 HB.out; have rl := HB.out.lt; dsimp only; clear hb) | (go_at_call 53; (with_reducible refine (H53.out _ (by first | exact HG.out | exact Gr.tr HG.out (Gr.alloc _ _) | exact Gr.tr HG.out ((Gr.alloc _ _).tr (Gr.alloc _ _)) | exact Gr.tr HG.out (Gr.drew _))).mono ?_); rintro e wo ⟨⟨o, rfl, ho⟩, hb⟩; have HG := Lib.hid (show Gr w wo from by first | exact Gr.tr HG.out hb | exact Gr.tr (HG.out.tr (Gr.alloc _ _)) hb | exact Gr.tr (HG.out.tr ((Gr.alloc _ _).tr (Gr.alloc _ _))) hb | exact Gr.tr (HG.out.tr (Gr.drew _)) hb); have HB := Lib.hid (HB.out.grow (by first | exact hb | exact Gr.tr (Gr.alloc _ _) hb | exact Gr.tr ((Gr.alloc _ _).tr (Gr.alloc _ _)) hb | exact Gr.tr (Gr.drew _) hb)); clear r0 r1 r2 r3 r4 rl; obtain ⟨r0, r1, r2, r3, r4⟩ := cells5 HB.out; have rl := HB.out.lt; obtain ⟨p, c, rfl, -⟩ := id ho; have HO := Lib.hid ho; clear ho; dsimp only; clear hb))
  exact bodyPost_ret (v := .tuple #[.int .i64 r.ways.length, .int .i64 0]) (by simp [results, Try.f19, go_sem]) rfl ⟨rfl, HG.out⟩
set_option maxRecDepth 100000 in
set_option maxHeartbeats 8000000 in
theorem opn57_no (r : Rr) (w : World) (hl : MksAt r.L r.lp w) (hr : MksAt r.R r.rp w) (vd : Bool) (hok : r.ok = false) :
    Calls Try.prog 57 #[r.val, .bool vd] w fun e w' => (∃ o, e = .returned (.tuple #[o, .int .i64 1]) ∧ WsIn o [] w') ∧ Below w.heap.size w w' := by
  have H38 := Lib.hid (fun W (hg : Gr w W) => rows38_is r W (hl.grow hg) (hr.grow hg) false hok)
  clear hl hr hok
  have HB := Lib.hid (Box.fresh w r.cs 26)
  have HG := Lib.hid (show Gr w (w.alloc (Obj.cells r.cs.toArray 26)) from Gr.alloc _ _)
  unfold Rr.cs at HB HG
  unfold Rr.val at *
  obtain ⟨r0, r1, r2, r3, r4⟩ := cells5 HB.out
  have rl := HB.out.lt
  go_enter Try.func57, Try.ntmps57
  go_wp2_with (first | (go_at_call 38; (with_reducible refine (H38.out _ (by first | exact HG.out | exact Gr.tr HG.out (Gr.alloc _ _) | exact Gr.tr HG.out ((Gr.alloc _ _).tr (Gr.alloc _ _)) | exact Gr.tr HG.out (Gr.drew _))).mono ?_); rintro e wr ⟨rfl, hb⟩; have HG := Lib.hid (show Gr w wr from by first | exact Gr.tr HG.out hb | exact Gr.tr (HG.out.tr (Gr.alloc _ _)) hb | exact Gr.tr (HG.out.tr ((Gr.alloc _ _).tr (Gr.alloc _ _))) hb | exact Gr.tr (HG.out.tr (Gr.drew _)) hb); have HB := Lib.hid (HB.out.grow (by first | exact hb | exact Gr.tr (Gr.alloc _ _) hb | exact Gr.tr ((Gr.alloc _ _).tr (Gr.alloc _ _)) hb | exact Gr.tr (Gr.drew _) hb)); clear r0 r1 r2 r3 r4 rl; obtain ⟨r0, r1, r2, r3, r4⟩ := cells5 HB.out; have rl := HB.out.lt; dsimp only; clear hb))
  exact bodyPost_ret (v := .tuple #[.slice none 0 0, .int .i64 1]) (by simp [results, Try.f57, go_sem]) rfl ⟨⟨_, rfl, WsIn.nil _⟩, HG.out⟩
set_option maxRecDepth 100000 in
set_option maxHeartbeats 8000000 in
theorem opn57_mark (r : Rr) (w : World) (hl : MksAt r.L r.lp w) (hr : MksAt r.R r.rp w) (hok : r.ok = true) :
    Calls Try.prog 57 #[r.val, .bool false] w fun e w' => (∃ o, e = .returned (.tuple #[o, .int .i64 2]) ∧ WsIn o [] w') ∧ Below w.heap.size w w' := by
  have H38 := Lib.hid (fun W (hg : Gr w W) => rows38_is r W (hl.grow hg) (hr.grow hg) true hok)
  clear hl hr hok
  have HB := Lib.hid (Box.fresh w r.cs 26)
  have HG := Lib.hid (show Gr w (w.alloc (Obj.cells r.cs.toArray 26)) from Gr.alloc _ _)
  unfold Rr.cs at HB HG
  unfold Rr.val at *
  obtain ⟨r0, r1, r2, r3, r4⟩ := cells5 HB.out
  have rl := HB.out.lt
  go_enter Try.func57, Try.ntmps57
  go_wp2_with (first | (go_at_call 38; (with_reducible refine (H38.out _ (by first | exact HG.out | exact Gr.tr HG.out (Gr.alloc _ _) | exact Gr.tr HG.out ((Gr.alloc _ _).tr (Gr.alloc _ _)) | exact Gr.tr HG.out (Gr.drew _))).mono ?_); rintro e wr ⟨rfl, hb⟩; have HG := Lib.hid (show Gr w wr from by first | exact Gr.tr HG.out hb | exact Gr.tr (HG.out.tr (Gr.alloc _ _)) hb | exact Gr.tr (HG.out.tr ((Gr.alloc _ _).tr (Gr.alloc _ _))) hb | exact Gr.tr (HG.out.tr (Gr.drew _)) hb); have HB := Lib.hid (HB.out.grow (by first | exact hb | exact Gr.tr (Gr.alloc _ _) hb | exact Gr.tr ((Gr.alloc _ _).tr (Gr.alloc _ _)) hb | exact Gr.tr (Gr.drew _) hb)); clear r0 r1 r2 r3 r4 rl; obtain ⟨r0, r1, r2, r3, r4⟩ := cells5 HB.out; have rl := HB.out.lt; dsimp only; clear hb))
  exact bodyPost_ret (v := .tuple #[.slice none 0 0, .int .i64 2]) (by simp [results, Try.f57, go_sem]) rfl ⟨⟨_, rfl, WsIn.nil _⟩, HG.out⟩
set_option maxRecDepth 100000 in
set_option maxHeartbeats 8000000 in
theorem opn57_zero (r : Rr) (w : World) (hl : MksAt r.L r.lp w) (hr : MksAt r.R r.rp w) (hok : r.ok = true) (hz : r.ways = []) :
    Calls Try.prog 57 #[r.val, .bool true] w fun e w' => (∃ o, e = .returned (.tuple #[o, .int .i64 4]) ∧ WsIn o [] w') ∧ Below w.heap.size w w' := by
  have H38 := Lib.hid (fun W (hg : Gr w W) => rows38_is r W (hl.grow hg) (hr.grow hg) true hok)
  have hn : r.ways.length ≤ 1000000 := by rw [hz]; simp
  have H53 := Lib.hid (fun W (hg : Gr w W) => all53_any r W hok (hl.grow hg) (hr.grow hg) hn)
  have h0 : r.ways.length = 0 := by rw [hz]; rfl
  rw [hz] at H53
  clear hn h0 hz
  clear hl hr hok
  have HB := Lib.hid (Box.fresh w r.cs 26)
  have HG := Lib.hid (show Gr w (w.alloc (Obj.cells r.cs.toArray 26)) from Gr.alloc _ _)
  unfold Rr.cs at HB HG
  unfold Rr.val at *
  obtain ⟨r0, r1, r2, r3, r4⟩ := cells5 HB.out
  have rl := HB.out.lt
  go_enter Try.func57, Try.ntmps57
  go_wp2_with (first | (go_at_call 38; (with_reducible refine (H38.out _ (by first | exact HG.out | exact Gr.tr HG.out (Gr.alloc _ _) | exact Gr.tr HG.out ((Gr.alloc _ _).tr (Gr.alloc _ _)) | exact Gr.tr HG.out (Gr.drew _))).mono ?_); rintro e wr ⟨rfl, hb⟩; have HG := Lib.hid (show Gr w wr from by first | exact Gr.tr HG.out hb | exact Gr.tr (HG.out.tr (Gr.alloc _ _)) hb | exact Gr.tr (HG.out.tr ((Gr.alloc _ _).tr (Gr.alloc _ _))) hb | exact Gr.tr (HG.out.tr (Gr.drew _)) hb); have HB := Lib.hid (HB.out.grow (by first | exact hb | exact Gr.tr (Gr.alloc _ _) hb | exact Gr.tr ((Gr.alloc _ _).tr (Gr.alloc _ _)) hb | exact Gr.tr (Gr.drew _) hb)); clear r0 r1 r2 r3 r4 rl; obtain ⟨r0, r1, r2, r3, r4⟩ := cells5 HB.out; have rl := HB.out.lt; dsimp only; clear hb) | (go_at_call 53; (with_reducible refine (H53.out _ (by first | exact HG.out | exact Gr.tr HG.out (Gr.alloc _ _) | exact Gr.tr HG.out ((Gr.alloc _ _).tr (Gr.alloc _ _)) | exact Gr.tr HG.out (Gr.drew _))).mono ?_); rintro e wo ⟨⟨o, rfl, ho⟩, hb⟩; have HG := Lib.hid (show Gr w wo from by first | exact Gr.tr HG.out hb | exact Gr.tr (HG.out.tr (Gr.alloc _ _)) hb | exact Gr.tr (HG.out.tr ((Gr.alloc _ _).tr (Gr.alloc _ _))) hb | exact Gr.tr (HG.out.tr (Gr.drew _)) hb); have HB := Lib.hid (HB.out.grow (by first | exact hb | exact Gr.tr (Gr.alloc _ _) hb | exact Gr.tr ((Gr.alloc _ _).tr (Gr.alloc _ _)) hb | exact Gr.tr (Gr.drew _) hb)); clear r0 r1 r2 r3 r4 rl; obtain ⟨r0, r1, r2, r3, r4⟩ := cells5 HB.out; have rl := HB.out.lt; obtain ⟨p, c, rfl, -⟩ := id ho; have HO := Lib.hid ho; clear ho; dsimp only; clear hb))
  exact bodyPost_ret (v := .tuple #[.slice none 0 0, .int .i64 4]) (by simp [results, Try.f57, go_sem]) rfl ⟨⟨_, rfl, WsIn.nil _⟩, HG.out⟩
set_option maxRecDepth 100000 in
set_option maxHeartbeats 8000000 in
theorem opn57_yes (r : Rr) (w : World) (hl : MksAt r.L r.lp w) (hr : MksAt r.R r.rp w) (hok : r.ok = true) (hz : r.ways ≠ []) (hn : r.ways.length ≤ 1000000) :
    Calls Try.prog 57 #[r.val, .bool true] w fun e w' => (∃ o, e = .returned (.tuple #[o, .int .i64 0]) ∧ WsIn o r.ways w') ∧ Below w.heap.size w w' := by
  have H38 := Lib.hid (fun W (hg : Gr w W) => rows38_is r W (hl.grow hg) (hr.grow hg) true hok)
  have H53 := Lib.hid (fun W (hg : Gr w W) => all53_any r W hok (hl.grow hg) (hr.grow hg) hn)
  have h0 : ((r.ways.length : Int) == 0) = false := by
    rw [beq_eq_false_iff_ne]
    intro h
    exact hz (List.length_eq_zero_iff.1 (by omega))
  have h1 : ¬ r.ways.length = 0 := fun h => hz (List.length_eq_zero_iff.1 h)
  have h2 : ¬ r.ways = [] := hz
  clear hl hr hok
  have HB := Lib.hid (Box.fresh w r.cs 26)
  have HG := Lib.hid (show Gr w (w.alloc (Obj.cells r.cs.toArray 26)) from Gr.alloc _ _)
  unfold Rr.cs at HB HG
  unfold Rr.val at *
  obtain ⟨r0, r1, r2, r3, r4⟩ := cells5 HB.out
  have rl := HB.out.lt
  go_enter Try.func57, Try.ntmps57
  go_wp2_with (first | (go_at_call 38; (with_reducible refine (H38.out _ (by first | exact HG.out | exact Gr.tr HG.out (Gr.alloc _ _) | exact Gr.tr HG.out ((Gr.alloc _ _).tr (Gr.alloc _ _)) | exact Gr.tr HG.out (Gr.drew _))).mono ?_); rintro e wr ⟨rfl, hb⟩; have HG := Lib.hid (show Gr w wr from by first | exact Gr.tr HG.out hb | exact Gr.tr (HG.out.tr (Gr.alloc _ _)) hb | exact Gr.tr (HG.out.tr ((Gr.alloc _ _).tr (Gr.alloc _ _))) hb | exact Gr.tr (HG.out.tr (Gr.drew _)) hb); have HB := Lib.hid (HB.out.grow (by first | exact hb | exact Gr.tr (Gr.alloc _ _) hb | exact Gr.tr ((Gr.alloc _ _).tr (Gr.alloc _ _)) hb | exact Gr.tr (Gr.drew _) hb)); clear r0 r1 r2 r3 r4 rl; obtain ⟨r0, r1, r2, r3, r4⟩ := cells5 HB.out; have rl := HB.out.lt; dsimp only; clear hb) | (go_at_call 53; (with_reducible refine (H53.out _ (by first | exact HG.out | exact Gr.tr HG.out (Gr.alloc _ _) | exact Gr.tr HG.out ((Gr.alloc _ _).tr (Gr.alloc _ _)) | exact Gr.tr HG.out (Gr.drew _))).mono ?_); rintro e wo ⟨⟨o, rfl, ho⟩, hb⟩; have HG := Lib.hid (show Gr w wo from by first | exact Gr.tr HG.out hb | exact Gr.tr (HG.out.tr (Gr.alloc _ _)) hb | exact Gr.tr (HG.out.tr ((Gr.alloc _ _).tr (Gr.alloc _ _))) hb | exact Gr.tr (HG.out.tr (Gr.drew _)) hb); have HB := Lib.hid (HB.out.grow (by first | exact hb | exact Gr.tr (Gr.alloc _ _) hb | exact Gr.tr ((Gr.alloc _ _).tr (Gr.alloc _ _)) hb | exact Gr.tr (Gr.drew _) hb)); clear r0 r1 r2 r3 r4 rl; obtain ⟨r0, r1, r2, r3, r4⟩ := cells5 HB.out; have rl := HB.out.lt; obtain ⟨p, c, rfl, -⟩ := id ho; have HO := Lib.hid ho; clear ho; dsimp only; clear hb))
  exact bodyPost_ret (v := .tuple #[.slice p r.ways.length c, .int .i64 0]) (by simp [results, Try.f57, go_sem]) rfl ⟨⟨_, rfl, HO.out⟩, HG.out⟩

end Go.Proofs.Ytjlaoiimbhlafaa
