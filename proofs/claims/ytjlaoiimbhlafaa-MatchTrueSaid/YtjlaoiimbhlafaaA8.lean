import Derived.Test.YtjlaoiimbhlafaaA7
set_option linter.unusedVariables false
set_option linter.unusedSimpArgs false
namespace Go.Proofs.Ytjlaoiimbhlafaa
open Go.RowKit Go.Shelf

open MW
attribute [local go_sem] Oper.semAt_some run_store_func
attribute [local go_sem ↓] Go.wp_at_zero Go.wp_at_succ
/-- what the rows that are made, with their pairs and shifts, are -/
structure MdP (r : Rr) (P : List (Nat × Nat)) (S : List Int) (vp vi : Value) (A : Nat) (w w' : World) : Prop where
  ok : r.ok = true
  way : P ∈ r.ways
  len : S.length = P.length
  sh : ∀ (k : Nat) (x : Nat × Nat) (v : Int), P[k]? = some x → S[k]? = some v → (r.shv x.1 x.2).1 ≤ v ∧ v ≤ (r.shv x.1 x.2).2
  ml : MksAt r.L r.lp w'
  mr : MksAt r.R r.rp w'
  mp : PrsIn vp P w'
  mi : IntsIn vi S w'
  dn : ∃ i, Dn A i w w'
set_option maxRecDepth 100000 in
set_option maxHeartbeats 8000000 in
theorem made_any {A B b o len cap : Nat} {w : World} (h : DrawOk A B b o len cap 0 w) (hA : A < w.heap.size) (hB : B < w.heap.size) (hb : b < w.heap.size) :
    Calls Try.prog 36 #[drawV A B] w fun e w' => ∃ (r : Rr) (P : List (Nat × Nat)) (S : List Int) (vp vi : Value), e = .returned (.tuple #[r.val, vp, vi]) ∧ MdP r P S vp vi A w w' := by
  have K : MdK w A B b w.heap.size (w.heap.size + 1) (w.heap.size + 2) := ⟨hA, hB, hb, by omega, by omega, by omega, by omega, by omega⟩
  have HK := Lib.hid K
  have hg : Gr w ((w.alloc (Obj.cells #[drawV A B] 53)).alloc (Obj.cells #[.slice none 0 0, .slice none 0 0, .int .i64 0, .int .i64 0, .int .i64 0] 26)) := (Gr.alloc _ _).tr (Gr.alloc _ _)
  have hbx : Box ((w.alloc (Obj.cells #[drawV A B] 53)).alloc (Obj.cells #[.slice none 0 0, .slice none 0 0, .int .i64 0, .int .i64 0, .int .i64 0] 26)) (w.heap.size + 1) [.slice none 0 0, .slice none 0 0, .int .i64 0, .int .i64 0, .int .i64 0] 26 := by
    simpa using Box.fresh (w.alloc (Obj.cells #[drawV A B] 53)) [.slice none 0 0, .slice none 0 0, .int .i64 0, .int .i64 0, .int .i64 0] 26
  have HI := Lib.hid (show MdI w A B b o len cap w.heap.size (w.heap.size + 1) (w.heap.size + 2) 0 [] [] [] [] (.slice none 0 0) (.slice none 0 0) (.slice none 0 0) (.slice none 0 0) [.slice none 0 0, .slice none 0 0, .int .i64 0, .int .i64 0, .int .i64 0] _ from ⟨h.grow (Dn.of hg), ⟨0, Dn.of hg⟩, (Box.fresh w [drawV A B] 53).grow (Gr.alloc _ _), hbx, World.ownsRow_nil _ _ _ _, World.ownsRow_nil _ _ _ _, World.ownsRow_nil _ _ _ _, World.ownsRow_nil _ _ _ _, fun q hq => (by cases hq), by simp⟩)
  clear K h hg hbx
  have hDA : w.heap.size ≠ A := by omega
  have hrA : w.heap.size + 1 ≠ A := by omega
  unfold drawV at HI
  unfold drawV
  go_enter Try.func36, Try.ntmps36
  apply wp_seq_k
  intro K0 hK0
  have HK0 := Lib.hid hK0
  clear hK0
  go_wp2_with fail
  refine HK0.out _ _ ?_
  clear HK0
  generalize (w.alloc (Obj.cells #[.func (.func 77) #[] #[.pointer (some ⟨A, 0, none⟩), .pointer (some ⟨B, 0, none⟩)]] 53)).alloc (Obj.cells #[.slice none 0 0, .slice none 0 0, .int .i64 0, .int .i64 0, .int .i64 0] 26) = w1 at *
  apply wp_seq_k
  intro K0 hK0
  have HK0 := Lib.hid hK0
  clear hK0
  have c0 := HI.out.fn.cell (i := 0) rfl
  have cl := HI.out.fn.lt
  unfold drawV at c0
  go_wp2_with fail
  refine (draw_any HI.out.drw (by omega) 30 (by omega) (by omega)).mono ?_
  rintro e w2 ⟨⟨lo, rfl, lo0, lo1⟩, hd⟩
  have HI := Lib.hid (HI.out.go HK.out hd)
  clear hd c0 cl
  dsimp only
  go_wp2_with fail
  refine HK0.out _ _ ?_
  clear HK0
  apply wp_seq_k
  intro K0 hK0
  have HK0 := Lib.hid hK0
  clear hK0
  have c0 := HI.out.fn.cell (i := 0) rfl
  have cl := HI.out.fn.lt
  unfold drawV at c0
  go_wp2_with fail
  refine (draw_any HI.out.drw (by omega) 40 (by omega) (by omega)).mono ?_
  rintro e w3 ⟨⟨dd, rfl, dd0, dd1⟩, hd⟩
  have HI := Lib.hid (HI.out.go HK.out hd)
  clear hd c0 cl
  dsimp only
  obtain ⟨r0, r1, r2, r3, r4⟩ := cells5 HI.out.box
  have rl := HI.out.box.lt
  have f2 := HI.out.box.free 2
  have f3 := HI.out.box.free 3
  go_wp2_with (first | (go_at_call 35; refine (aspan35_any _ _ _).mono ?_; rintro e w4 ⟨rfl, hb⟩; have HI := Lib.hid (HI.out.gr HK.out hb); clear hb r0 r1 r2 r3 r4 rl f2 f3; obtain ⟨r0, r1, r2, r3, r4⟩ := cells5 HI.out.box; have rl := HI.out.box.lt; have f2 := HI.out.box.free 2; have f3 := HI.out.box.free 3))
  have HI := Lib.hid ((HI.out.set HK.out 2 (.int .i64 lo)).set HK.out 3 (.int .i64 (lo + dd)))
  simp only [List.set_cons_zero, List.set_cons_succ] at HI
  refine HK0.out _ _ ?_
  clear HK0 r0 r1 r2 r3 r4 rl f2 f3
  apply wp_seq_k
  intro K0 hK0
  have HK0 := Lib.hid hK0
  clear hK0
  go_wp2_with fail
  refine HK0.out _ _ ?_
  clear HK0
  apply wp_seq_k
  intro K0 hK0
  have HK0 := Lib.hid hK0
  clear hK0
  go_wp2_with fail
  refine HK0.out _ _ (made_loop HK.out HI.out (by omega) lo0 (by omega) (by omega) (by omega) ?_)
  intro L R P S vl vr vp vi k m h hh d W hk hm d0 M hhe I
  obtain ⟨pl, cl, rfl, hml⟩ := aown_marks I.ol rfl (by have := M.nL; omega)
  obtain ⟨pr, cr, rfl, hmr⟩ := aown_marks I.or_ rfl (by have := M.nR; omega)
  obtain ⟨h1, h2, h3⟩ := Md.fin (r := ⟨L, pl, cl, R, pr, cr, lo, lo + dd, hh⟩) M hk d0 hhe (by simp only []; omega)
  exact ⟨⟨L, pl, cl, R, pr, cr, lo, lo + dd, hh⟩, P, S, vp, vi, rfl, ⟨h1, h2, M.len, h3, hml, hmr, PrsIn.of_own I.op, IntsIn.of_own I.os, I.dn⟩⟩

end Go.Proofs.Ytjlaoiimbhlafaa
