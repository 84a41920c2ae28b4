import Derived.Test.YtofdoadpaedogaaU0
import Derived.Test.YtofdoadpaedogaaR4
import Derived.OwnWalk
namespace Go.Proofs.Ytofdoadpaedogaa
open Go.RowKit
attribute [local go_sem] Oper.semAt_some

theorem ne23 (a b c d : Int) (w : World) : (binOp .neq 23 (.agg #[.int .i64 a, .int .i64 b]) (.agg #[.int .i64 c, .int .i64 d])).run Try.prog w = .ok (.bool (!(a == c && b == d))) w := by
  have hS : Try.prog.underlying 23 = some (.struct (Try.prog.fieldsOf 23)) := by kernel_rfl
  rw [run_neq_struct, run_equalIn_agg _ _ _ _ _ hS (by kernel_rfl)]
  simp only [Program.fieldsOf, Try.underlying23]
  simp [Op.eqFields, go_sem]
  by_cases h1 : a = c <;> by_cases h2 : b = d <;> simp [h1, h2]
theorem neg23 (x y : Operand) (xs ys : Array Value) (w : World) : (eqGuard .neq 23 x y (.agg xs) (.agg ys)).run Try.prog w = .ok () w := run_eqGuard_agg w _ _ _ _ _ _ (by kernel_rfl)
set_option maxRecDepth 100000 in
set_option maxHeartbeats 4000000 in
theorem turned_many (p : Pr) (sp : Option Addr) (len cap : Nat) (n by' : Int) (w : World) (hl : 40 < len) :
    Calls Try.prog 11 #[.agg #[.int .i64 p.fl, .int .i64 p.fh, .int .i64 p.bl, .int .i64 p.bh, .int .i64 p.ti, .int .i64 p.ne, .int .i64 p.fa, .slice sp len cap], .int .i64 n, .int .i16 by'] w fun e w' => e = .returned (.bool true) ∧ Below w.heap.size w w' := by
  have d : decide (40 < (len : Int)) = true := by simp; omega
  have d' : decide (40 < len) = true := by simp; omega
  clear hl
  go_enter Try.func11, Try.ntmps11
  go_wp2_with fail
  refine (awake_any _).mono ?_
  rintro e w1 ⟨rfl, hb1⟩
  go_wp2
  go_ret
  exact ⟨rfl, (bgr (((Below.refl _ _).alloc (by first | (simp; done) | (simp; omega) | omega) _).alloc (by first | (simp; done) | (simp; omega) | omega) _) (by first | (simp; done) | (simp; omega) | omega) hb1)⟩
set_option maxRecDepth 100000 in
set_option maxHeartbeats 4000000 in
theorem turned_bad (p : Pr) (sp : Option Addr) (len cap : Nat) (n by' : Int) (w : World) (hl : len ≤ 40) (hT : ThingsAt p.l (.slice sp len cap) w) (h4 : Hid (p.ok = false)) :
    Calls Try.prog 11 #[.agg #[.int .i64 p.fl, .int .i64 p.fh, .int .i64 p.bl, .int .i64 p.bh, .int .i64 p.ti, .int .i64 p.ne, .int .i64 p.fa, .slice sp len cap], .int .i64 n, .int .i16 by'] w fun e w' => e = .returned (.bool true) ∧ Below w.heap.size w w' := by
  have d : decide (40 < (len : Int)) = false := by simp; omega
  have d' : decide (40 < len) = false := by simp; omega
  have TH := Lib.hid (fun (W : World) (hg : Gr ((w.alloc (.cells #[.int .i64 p.fl, .int .i64 p.fh, .int .i64 p.bl, .int .i64 p.bh, .int .i64 p.ti, .int .i64 p.ne, .int .i64 p.fa, .slice sp len cap] 26)).alloc (.cells #[.int .i16 by'] 62)) W) => ThingsAt.lasts p.l _ _ _ hT (((Gr.alloc _ _).tr (Gr.alloc _ _)).tr hg))
  have hg0 := Gr.same ((w.alloc (.cells #[.int .i64 p.fl, .int .i64 p.fh, .int .i64 p.bl, .int .i64 p.bh, .int .i64 p.ti, .int .i64 p.ne, .int .i64 p.fa, .slice sp len cap] 26)).alloc (.cells #[.int .i16 by'] 62))
  have hal := @cal
  clear hT hl
  go_enter Try.func11, Try.ntmps11
  go_wp2_with fail
  refine (rpair_is h4.out (TH.out _ hg0)).mono ?_
  rintro e w1 ⟨rfl, hb1⟩
  have gg1 : Gr _ _ := hb1
  have hg1 := Gr.tr hg0 gg1
  obtain ⟨hc, hf, hz⟩ := bcell hg1
  go_wp2_with fail
  clear hc hf hz
  refine (awake_any _).mono ?_
  rintro e w2 ⟨rfl, hb2⟩
  have gg2 : Gr _ _ := hb2
  have hg2 := Gr.tr hg1 gg2
  obtain ⟨hc, hf, hz⟩ := bcell hg2
  go_wp2
  go_ret
  exact ⟨rfl, show Below w.heap.size w _ from ((Gr.alloc _ _).tr (Gr.alloc _ _)).tr hg2⟩
set_option maxRecDepth 100000 in
set_option maxHeartbeats 4000000 in
theorem turned_ok (p : Pr) (sp : Option Addr) (len cap : Nat) (n by' : Int) (w : World) (hl : len ≤ 40) (hT : ThingsAt p.l (.slice sp len cap) w) (hlen : p.l.length = len) (h4 : Hid (p.ok = true)) (hby : -32768 ≤ by' ∧ by' ≤ 32767) (P Q pe d1 d2 de y ye m f1 f2 fe : Int) (h1 : Hid (p.power = (P, Q, pe))) (h2 : Hid (p.distance n = (d1, d2, de))) (h3 : Hid (p.why n = (y, ye))) (h5 : Hid (p.fewest = (m, f1, f2, fe))) (okx oky : Bool) (hox : Hid ((p.turn Th.back).ok = okx)) (hoy : Hid ((p.turn (Th.on by')).ok = oky)) (hsx : Hid (∀ t : Th, (t.back).see p.ti p.ne p.fa = t.see p.ti p.ne p.fa)) (hsy : Hid (∀ t : Th, (t.on by').see p.ti p.ne p.fa = t.see p.ti p.ne p.fa)) :
    Calls Try.prog 11 #[.agg #[.int .i64 p.fl, .int .i64 p.fh, .int .i64 p.bl, .int .i64 p.bh, .int .i64 p.ti, .int .i64 p.ne, .int .i64 p.fa, .slice sp len cap], .int .i64 n, .int .i16 by'] w fun e w' => e = .returned (.bool true) ∧ Below w.heap.size w w' := by
  have d : decide (40 < (len : Int)) = false := by simp; omega
  have d' : decide (40 < len) = false := by simp; omega
  have TH := Lib.hid (fun (W : World) (hg : Gr ((w.alloc (.cells #[.int .i64 p.fl, .int .i64 p.fh, .int .i64 p.bl, .int .i64 p.bh, .int .i64 p.ti, .int .i64 p.ne, .int .i64 p.fa, .slice sp len cap] 26)).alloc (.cells #[.int .i16 by'] 62)) W) => ThingsAt.lasts p.l _ _ _ hT (((Gr.alloc _ _).tr (Gr.alloc _ _)).tr hg))
  have hg0 := Gr.same ((w.alloc (.cells #[.int .i64 p.fl, .int .i64 p.fh, .int .i64 p.bl, .int .i64 p.bh, .int .i64 p.ti, .int .i64 p.ne, .int .i64 p.fa, .slice sp len cap] 26)).alloc (.cells #[.int .i16 by'] 62))
  have hal := @cal
  obtain ⟨by0, by1⟩ := hby
  have HLEN := Lib.hid hlen
  have HBD := Lib.hid (p.bounds h4.out)
  obtain ⟨i0, ii0, iz0, iz1, iz2⟩ := info_parts Try.info47
  have II0 := Lib.hid ii0
  have IZ0 := Lib.hid iz0
  have IZ1 := Lib.hid iz1
  have IZ2 := Lib.hid iz2
  have hl40 := hl
  clear hT hl hlen ii0 iz0 iz1 iz2
  go_enter Try.func11, Try.ntmps11
  go_wp2_with fail
  refine (rpair_is h4.out (TH.out _ hg0)).mono ?_
  rintro e w1 ⟨rfl, hb1⟩
  have gg1 : Gr _ _ := hb1
  have hg1 := Gr.tr hg0 gg1
  obtain ⟨hc, hf, hz⟩ := bcell hg1
  have P1 := (((Box.fresh w [.int .i64 p.fl, .int .i64 p.fh, .int .i64 p.bl, .int .i64 p.bh, .int .i64 p.ti, .int .i64 p.ne, .int .i64 p.fa, .slice sp len cap] 26).grow (Gr.alloc _ (.cells #[.int .i16 by'] 62))).grow hg1).facts
  simp only [CellsFrom, Nat.zero_add, Nat.reduceAdd, and_true] at P1
  go_wp2_with fail
  refine regionL 4 1 ?_ ?_ ?_
  · kernel_rfl
  · kernel_rfl
  simp only [List.take_succ_cons, List.take_zero, List.drop_succ_cons, List.drop_zero]
  apply chainB_eq (D := [(3, none)]) rfl (by kernel_rfl)
  · intro ρ W ⟨p1, p2, p3⟩ hG hF K hK; (try simp [FactsD] at hF); have ⟨hc, hf, hz⟩ := bcell (Gr.tr (Gr.drew _) hG); go_simp; exact hK _ (gives_val)
  apply chainB_eq (D := [(3, none)]) rfl (by kernel_rfl)
  · intro ρ W ⟨p1, p2, p3⟩ hG hF K hK; (try simp [FactsD] at hF); have ⟨hc, hf, hz⟩ := bcell (Gr.tr (Gr.drew _) hG); go_simp; exact hK _ (gives_val)
  refine chainB_any (V := fun p v W' => NewB [.int .i64 0, .int .i64 0, .int .i64 0, .int .i64 0, .int .i64 0, .int .i64 0, .int .i64 0, .slice none 0 0] 26 p v W' ∧ w1.heap.size ≤ p.1) (D := []) rfl (by kernel_rfl) (fun p v A B h hg => ⟨NewB.lasts _ _ p v A B h.1 hg, h.2⟩) ?_ ?_
  · intro ρ W ⟨p1, p2, p3⟩ hG hF K hK; (try simp [FactsD] at hF); have ⟨hc, hf, hz⟩ := bcell (Gr.tr (Gr.drew _) hG); go_simp; exact hK _ (⟨⟨NewB.new _ _ _, by have := hG.size; simpa using this⟩, Gr.alloc _ _⟩)
  refine chainB_any (V := fun p v W' => NewB [.int .i64 0, .int .i64 0, .int .i64 0, .int .i64 0, .int .i64 0, .int .i64 0, .int .i64 0, .slice none 0 0] 26 p v W' ∧ w1.heap.size ≤ p.1) (D := []) rfl (by kernel_rfl) (fun p v A B h hg => ⟨NewB.lasts _ _ p v A B h.1 hg, h.2⟩) ?_ ?_
  · intro ρ W ⟨p1, p2, p3⟩ hG hF K hK; (try simp [FactsD] at hF); have ⟨hc, hf, hz⟩ := bcell (Gr.tr (Gr.drew _) hG); go_simp; exact hK _ (⟨⟨NewB.new _ _ _, by have := hG.size; simpa using this⟩, Gr.alloc _ _⟩)
  refine chainB_done ⟨?_, ?_⟩
  · intro vs bs W hG hV hdj
    obtain ⟨e3, e2, e1, e0, -⟩ := hV
    simp only [Nat.reduceSub] at e0
    simp only [Nat.reduceSub] at e1
    simp only [Nat.reduceSub] at e2
    simp only [Nat.reduceSub] at e3
    have hd23 := hdj 2 3 (by omega) (by omega) (by omega)
    clear hdj
    simp only [lay, Act.put, List.getElem?_toArray, List.getElem?_cons_succ, List.getElem?_cons_zero, Option.bind_some, List.setIfInBounds_toArray, List.set_cons_succ, List.set_cons_zero]
    generalize vs 0 = v0 at *
    generalize vs 1 = v1 at *
    generalize vs 2 = v2 at *
    generalize vs 3 = v3 at *
    subst e0
    subst e1
    obtain ⟨hc, hf, hz⟩ := bcell hG
    obtain ⟨⟨bx, rfl, hx1, hx2, hBx⟩, hxn⟩ := e2
    obtain ⟨⟨bz, rfl, hz1, hz2, hBz⟩, hzn⟩ := e3
    have hne : ¬ bx = bz := by omega
    have hne' : ¬ bz = bx := by omega
    have hnx0 : w.heap.size + 1 < bx := by have := hg1.size; simp at this; omega
    have hnz0 : w.heap.size + 1 < bz := by have := hg1.size; simp at this; omega
    have C1 := hBx.facts
    have C2 := hBz.facts
    simp only [CellsFrom, Nat.zero_add, Nat.reduceAdd, and_true] at C1 C2
    have F1 := hBx.free
    have F2 := hBz.free
    have hgW : Gr ((w.alloc (.cells #[.int .i64 p.fl, .int .i64 p.fh, .int .i64 p.bl, .int .i64 p.bh, .int .i64 p.ti, .int .i64 p.ne, .int .i64 p.fa, .slice sp len cap] 26)).alloc (.cells #[.int .i16 by'] 62)) W := hg1.tr hG
    have P0 := (((Box.fresh w [.int .i64 p.fl, .int .i64 p.fh, .int .i64 p.bl, .int .i64 p.bh, .int .i64 p.ti, .int .i64 p.ne, .int .i64 p.fa, .slice sp len cap] 26).grow (Gr.alloc _ (.cells #[.int .i16 by'] 62))).grow hgW).facts
    simp only [CellsFrom, Nat.zero_add, Nat.reduceAdd, and_true] at P0
    have nx0 : ¬ w.heap.size = bx := by omega
    have nz0 : ¬ w.heap.size = bz := by omega
    have mx0 : ¬ bx = w.heap.size := by omega
    have mz0 : ¬ bz = w.heap.size := by omega
    have HBX := Lib.hid hBx
    have HBZ := Lib.hid hBz
    have HGW := Lib.hid hgW
    have HG1 := Lib.hid hG
    have hbxg : w1.heap.size ≤ bx := by omega
    have hbzg : w1.heap.size ≤ bz := by omega
    clear P1 hBx hBz hx1 hx2 hz1 hz2 hd23 hxn hzn hG hgW hc hf hz
    go_wp2_with fail
    have hx5 : Box ((((((((((((((((((W.setCell ⟨bx, 0, none⟩ (.int .i64 p.fl)).setCell ⟨bx, 1, none⟩ (.int .i64 p.fh)).setCell ⟨bx, 2, none⟩ (.int .i64 p.bl)).setCell ⟨bx, 3, none⟩ (.int .i64 p.bh)).setCell ⟨bx, 4, none⟩ (.int .i64 p.ti)).setCell ⟨bx, 5, none⟩ (.int .i64 p.ne)).setCell ⟨bx, 6, none⟩ (.int .i64 p.fa)).setCell ⟨bx, 7, none⟩ (.slice sp len cap)).setCell ⟨bz, 0, none⟩ (.int .i64 p.fl)).setCell ⟨bz, 1, none⟩ (.int .i64 p.fh)).setCell ⟨bz, 2, none⟩ (.int .i64 p.bl)).setCell ⟨bz, 3, none⟩ (.int .i64 p.bh)).setCell ⟨bz, 4, none⟩ (.int .i64 p.ti)).setCell ⟨bz, 5, none⟩ (.int .i64 p.ne)).setCell ⟨bz, 6, none⟩ (.int .i64 p.fa)).setCell ⟨bz, 7, none⟩ (.slice sp len cap)).setCell ⟨bx, 7, none⟩ (.slice none 0 0)).setCell ⟨bz, 7, none⟩ (.slice none 0 0)) bx [.int .i64 p.fl, .int .i64 p.fh, .int .i64 p.bl, .int .i64 p.bh, .int .i64 p.ti, .int .i64 p.ne, .int .i64 p.fa, .slice none 0 0] 26 := ((((((((((((((((((HBX.out.put 0 _).put 1 _).put 2 _).put 3 _).put 4 _).put 5 _).put 6 _).put 7 _).other hne _ _).other hne _ _).other hne _ _).other hne _ _).other hne _ _).other hne _ _).other hne _ _).other hne _ _).put 7 _).other hne _ _)
    have hz5 : Box ((((((((((((((((((W.setCell ⟨bx, 0, none⟩ (.int .i64 p.fl)).setCell ⟨bx, 1, none⟩ (.int .i64 p.fh)).setCell ⟨bx, 2, none⟩ (.int .i64 p.bl)).setCell ⟨bx, 3, none⟩ (.int .i64 p.bh)).setCell ⟨bx, 4, none⟩ (.int .i64 p.ti)).setCell ⟨bx, 5, none⟩ (.int .i64 p.ne)).setCell ⟨bx, 6, none⟩ (.int .i64 p.fa)).setCell ⟨bx, 7, none⟩ (.slice sp len cap)).setCell ⟨bz, 0, none⟩ (.int .i64 p.fl)).setCell ⟨bz, 1, none⟩ (.int .i64 p.fh)).setCell ⟨bz, 2, none⟩ (.int .i64 p.bl)).setCell ⟨bz, 3, none⟩ (.int .i64 p.bh)).setCell ⟨bz, 4, none⟩ (.int .i64 p.ti)).setCell ⟨bz, 5, none⟩ (.int .i64 p.ne)).setCell ⟨bz, 6, none⟩ (.int .i64 p.fa)).setCell ⟨bz, 7, none⟩ (.slice sp len cap)).setCell ⟨bx, 7, none⟩ (.slice none 0 0)).setCell ⟨bz, 7, none⟩ (.slice none 0 0)) bz [.int .i64 p.fl, .int .i64 p.fh, .int .i64 p.bl, .int .i64 p.bh, .int .i64 p.ti, .int .i64 p.ne, .int .i64 p.fa, .slice none 0 0] 26 := ((((((((((((((((((HBZ.out.other hne' _ _).other hne' _ _).other hne' _ _).other hne' _ _).other hne' _ _).other hne' _ _).other hne' _ _).other hne' _ _).put 0 _).put 1 _).put 2 _).put 3 _).put 4 _).put 5 _).put 6 _).put 7 _).other hne' _ _).put 7 _)
    have hw5 : Below w1.heap.size w1 ((((((((((((((((((W.setCell ⟨bx, 0, none⟩ (.int .i64 p.fl)).setCell ⟨bx, 1, none⟩ (.int .i64 p.fh)).setCell ⟨bx, 2, none⟩ (.int .i64 p.bl)).setCell ⟨bx, 3, none⟩ (.int .i64 p.bh)).setCell ⟨bx, 4, none⟩ (.int .i64 p.ti)).setCell ⟨bx, 5, none⟩ (.int .i64 p.ne)).setCell ⟨bx, 6, none⟩ (.int .i64 p.fa)).setCell ⟨bx, 7, none⟩ (.slice sp len cap)).setCell ⟨bz, 0, none⟩ (.int .i64 p.fl)).setCell ⟨bz, 1, none⟩ (.int .i64 p.fh)).setCell ⟨bz, 2, none⟩ (.int .i64 p.bl)).setCell ⟨bz, 3, none⟩ (.int .i64 p.bh)).setCell ⟨bz, 4, none⟩ (.int .i64 p.ti)).setCell ⟨bz, 5, none⟩ (.int .i64 p.ne)).setCell ⟨bz, 6, none⟩ (.int .i64 p.fa)).setCell ⟨bz, 7, none⟩ (.slice sp len cap)).setCell ⟨bx, 7, none⟩ (.slice none 0 0)).setCell ⟨bz, 7, none⟩ (.slice none 0 0)) := (((((((((((((((((((show Below w1.heap.size w1 W from HG1.out).setCell (by first | (simp; done) | (simp; omega) | omega) _).setCell (by first | (simp; done) | (simp; omega) | omega) _).setCell (by first | (simp; done) | (simp; omega) | omega) _).setCell (by first | (simp; done) | (simp; omega) | omega) _).setCell (by first | (simp; done) | (simp; omega) | omega) _).setCell (by first | (simp; done) | (simp; omega) | omega) _).setCell (by first | (simp; done) | (simp; omega) | omega) _).setCell (by first | (simp; done) | (simp; omega) | omega) _).setCell (by first | (simp; done) | (simp; omega) | omega) _).setCell (by first | (simp; done) | (simp; omega) | omega) _).setCell (by first | (simp; done) | (simp; omega) | omega) _).setCell (by first | (simp; done) | (simp; omega) | omega) _).setCell (by first | (simp; done) | (simp; omega) | omega) _).setCell (by first | (simp; done) | (simp; omega) | omega) _).setCell (by first | (simp; done) | (simp; omega) | omega) _).setCell (by first | (simp; done) | (simp; omega) | omega) _).setCell (by first | (simp; done) | (simp; omega) | omega) _).setCell (by first | (simp; done) | (simp; omega) | omega) _)
    have hs5 : ((((((((((((((((((W.setCell ⟨bx, 0, none⟩ (.int .i64 p.fl)).setCell ⟨bx, 1, none⟩ (.int .i64 p.fh)).setCell ⟨bx, 2, none⟩ (.int .i64 p.bl)).setCell ⟨bx, 3, none⟩ (.int .i64 p.bh)).setCell ⟨bx, 4, none⟩ (.int .i64 p.ti)).setCell ⟨bx, 5, none⟩ (.int .i64 p.ne)).setCell ⟨bx, 6, none⟩ (.int .i64 p.fa)).setCell ⟨bx, 7, none⟩ (.slice sp len cap)).setCell ⟨bz, 0, none⟩ (.int .i64 p.fl)).setCell ⟨bz, 1, none⟩ (.int .i64 p.fh)).setCell ⟨bz, 2, none⟩ (.int .i64 p.bl)).setCell ⟨bz, 3, none⟩ (.int .i64 p.bh)).setCell ⟨bz, 4, none⟩ (.int .i64 p.ti)).setCell ⟨bz, 5, none⟩ (.int .i64 p.ne)).setCell ⟨bz, 6, none⟩ (.int .i64 p.fa)).setCell ⟨bz, 7, none⟩ (.slice sp len cap)).setCell ⟨bx, 7, none⟩ (.slice none 0 0)).setCell ⟨bz, 7, none⟩ (.slice none 0 0)).heap.size = W.heap.size := by simp
    have hbxl := HBX.out.lt
    have hbzl := HBZ.out.lt
    generalize ((((((((((((((((((W.setCell ⟨bx, 0, none⟩ (.int .i64 p.fl)).setCell ⟨bx, 1, none⟩ (.int .i64 p.fh)).setCell ⟨bx, 2, none⟩ (.int .i64 p.bl)).setCell ⟨bx, 3, none⟩ (.int .i64 p.bh)).setCell ⟨bx, 4, none⟩ (.int .i64 p.ti)).setCell ⟨bx, 5, none⟩ (.int .i64 p.ne)).setCell ⟨bx, 6, none⟩ (.int .i64 p.fa)).setCell ⟨bx, 7, none⟩ (.slice sp len cap)).setCell ⟨bz, 0, none⟩ (.int .i64 p.fl)).setCell ⟨bz, 1, none⟩ (.int .i64 p.fh)).setCell ⟨bz, 2, none⟩ (.int .i64 p.bl)).setCell ⟨bz, 3, none⟩ (.int .i64 p.bh)).setCell ⟨bz, 4, none⟩ (.int .i64 p.ti)).setCell ⟨bz, 5, none⟩ (.int .i64 p.ne)).setCell ⟨bz, 6, none⟩ (.int .i64 p.fa)).setCell ⟨bz, 7, none⟩ (.slice sp len cap)).setCell ⟨bx, 7, none⟩ (.slice none 0 0)).setCell ⟨bz, 7, none⟩ (.slice none 0 0)) = W5 at *
    have ht1 := TH.out w1 hg1
    have hq1 : Box w1 (w.heap.size + 1) [.int .i16 by'] 62 := by
      have := (Box.fresh (w.alloc (.cells #[.int .i64 p.fl, .int .i64 p.fh, .int .i64 p.bl, .int .i64 p.bh, .int .i64 p.ti, .int .i64 p.ne, .int .i64 p.fa, .slice sp len cap] 26)) [.int .i16 by'] 62).grow hg1
      simpa using this
    have hp1 : Box w1 w.heap.size [.int .i64 p.fl, .int .i64 p.fh, .int .i64 p.bl, .int .i64 p.bh, .int .i64 p.ti, .int .i64 p.ne, .int .i64 p.fa, .slice sp len cap] 26 := ((Box.fresh w [.int .i64 p.fl, .int .i64 p.fh, .int .i64 p.bl, .int .i64 p.bh, .int .i64 p.ti, .int .i64 p.ne, .int .i64 p.fa, .slice sp len cap] 26).grow (Gr.alloc _ (.cells #[.int .i16 by'] 62))).grow hg1
    have hwb : Below w.heap.size w w1 := (((Gr.alloc _ _).tr (Gr.alloc _ _)).tr hg1 : Gr w w1)
    have hw1 : w.heap.size + 1 < w1.heap.size := hq1.lt
    rw [← hs5] at hbxl hbzl
    have HX5 := Lib.hid hx5
    have HZ5 := Lib.hid hz5
    have HW5 := Lib.hid hw5
    have HT1 := Lib.hid ht1
    have HQ1 := Lib.hid hq1
    have HP1 := Lib.hid hp1
    have HWB := Lib.hid hwb
    clear hx5 hz5 hw5 hs5 HBX HBZ HGW HG1 C1 C2 F1 F2 P0 ht1 hq1 hp1 hwb TH hg1 hg0 mx0 mz0 nx0 nz0
    have HB1S := Lib.hid (Nat.le_refl W5.heap.size)
    generalize hB1 : W5.heap.size = B1 at *
    have HB1 := Lib.hid hB1
    clear hB1
    go_loopw [51] (fun i wr => ∃ k : Nat, k ≤ len ∧ i = .int .i64 k ∧ Below w1.heap.size w1 wr ∧ B1 ≤ wr.heap.size ∧ ∃ xv yv, Box wr bx [.int .i64 p.fl, .int .i64 p.fh, .int .i64 p.bl, .int .i64 p.bh, .int .i64 p.ti, .int .i64 p.ne, .int .i64 p.fa, xv] 26 ∧ Box wr bz [.int .i64 p.fl, .int .i64 p.fh, .int .i64 p.bl, .int .i64 p.bh, .int .i64 p.ti, .int .i64 p.ne, .int .i64 p.fa, yv] 26 ∧ wr.ownsRow B1 47 9 xv k (((p.l.take k).map Th.back).flatMap Th.vals) ∧ wr.ownsRow B1 47 9 yv k (((p.l.take k).map (Th.on by')).flatMap Th.vals) ∧ ∀ q, xv.ownBlock = some q → yv.ownBlock ≠ some q) (fun i _ => len - (intOf i).toNat)
    case atStart => exact ⟨0, Nat.zero_le _, rfl, HW5.out, by rw [HB1.out]; exact Nat.le_refl _, _, _, HX5.out, HZ5.out, World.ownsRow_nil _ _ _ _, World.ownsRow_nil _ _ _ _, fun q h => by cases h⟩
    case round =>
      obtain ⟨k, hk, rfl, hg, hgs, xv, yv, hbx, hbz, hox, hoy, hdj⟩ := hrel
      obtain ⟨xp, xn, xc, rfl⟩ := own_slice hox
      obtain ⟨yp, yn, yc, rfl⟩ := own_slice hoy
      have HG := Lib.hid hg
      have HKX := Lib.hid hbx
      have HKZ := Lib.hid hbz
      have HOX := Lib.hid hox
      have HOY := Lib.hid hoy
      have HDJ := Lib.hid hdj
      have hth := ThingsAt.below HT1.out rfl HG.out
      clear hg hbx hbz hox hoy hdj
      by_cases hlt : k < len
      · obtain ⟨t, htk⟩ : ∃ t, p.l[k]? = some t := ⟨p.l[k]'(by rw [HLEN.out]; exact hlt), List.getElem?_eq_getElem _⟩
        obtain ⟨-, hth⟩ := hth
        rcases hth with ⟨e, -⟩ | ⟨b, o, cap', hsp, hb, hc⟩
        · rw [e] at htk; cases htk
        have X := CellsFrom.nine (hc k t htk)
        obtain ⟨hsp1, -, -⟩ : sp = some ⟨b, o, none⟩ ∧ len = p.l.length ∧ cap = cap' := by simpa using hsp
        subst hsp1
        clear hc hsp
        have htl : p.l.take (k + 1) = p.l.take k ++ [t] := by rw [List.take_add_one, htk]; rfl
        have HTL := Lib.hid htl
        obtain ⟨⟨ba0, ba1⟩, ⟨bb0, bb1⟩, ⟨bc0, bc1⟩, ⟨bd0, bd1⟩, ⟨be0, be1⟩, ⟨bf0, bf1⟩, ⟨bg0, bg1⟩, ⟨bh0, bh1⟩⟩ := (HBD.out.things t (List.mem_of_getElem? htk)).1
        clear htk htl
        obtain ⟨xa, xb, xcc, xd, xe, xf, xg, xh, xz⟩ := t
        simp only at X ba0 ba1 bb0 bb1 bc0 bc1 bd0 bd1 be0 be1 bf0 bf1 bg0 bg1 bh0 bh1
        go_wp2_with fail
        have g6 : Gr wr (wr.alloc (.cells #[.int .i64 xa, .int .i64 xb, .int .i64 xcc, .int .i64 xd, .int .i64 xe, .int .i64 xf, .int .i64 xg, .int .i64 xh, .int .i64 xz] 47)) := Gr.alloc _ _
        have ht6 : Box (wr.alloc (.cells #[.int .i64 xa, .int .i64 xb, .int .i64 xcc, .int .i64 xd, .int .i64 xe, .int .i64 xf, .int .i64 xg, .int .i64 xh, .int .i64 xz] 47)) wr.heap.size [.int .i64 xa, .int .i64 xb, .int .i64 xcc, .int .i64 xd, .int .i64 xe, .int .i64 xf, .int .i64 xg, .int .i64 xh, .int .i64 xz] 47 := Box.fresh wr _ _
        have hx6 := HKX.out.grow g6
        have hz6 := HKZ.out.grow g6
        have hox6 := own_gr HOX.out g6
        have hoy6 := own_gr HOY.out g6
        have hw6 : Below w1.heap.size w1 (wr.alloc (.cells #[.int .i64 xa, .int .i64 xb, .int .i64 xcc, .int .i64 xd, .int .i64 xe, .int .i64 xf, .int .i64 xg, .int .i64 xh, .int .i64 xz] 47)) := bgr HG.out HG.out.size g6
        have hs6 : wr.heap.size < (wr.alloc (.cells #[.int .i64 xa, .int .i64 xb, .int .i64 xcc, .int .i64 xd, .int .i64 xe, .int .i64 xf, .int .i64 xg, .int .i64 xh, .int .i64 xz] 47)).heap.size := by simp
        have HRX := Lib.hid (fun q hq => HOX.out.lt q hq)
        have HRY := Lib.hid (fun q hq => HOY.out.lt q hq)
        clear X g6 HKX HKZ HOX HOY HG
        generalize (wr.alloc (.cells #[.int .i64 xa, .int .i64 xb, .int .i64 xcc, .int .i64 xd, .int .i64 xe, .int .i64 xf, .int .i64 xg, .int .i64 xh, .int .i64 xz] 47)) = W6 at *
        generalize wr.heap.size = bt at *
        have C3 := hx6.facts
        have CT := ht6.facts
        simp only [CellsFrom, Nat.zero_add, Nat.reduceAdd, and_true] at C3 CT
        have HT6 := Lib.hid ht6
        have HX6 := Lib.hid hx6
        have HZ6 := Lib.hid hz6
        have HOX6 := Lib.hid hox6
        have HOY6 := Lib.hid hoy6
        have HW6 := Lib.hid hw6
        clear ht6 hx6 hz6 hox6 hoy6 hw6
        have HBK := Lib.hid back_any
        refine region2 28 ?_ ?_ ?_
        · kernel_rfl
        · kernel_rfl
        simp only [List.take_succ_cons, List.take_zero, List.drop_succ_cons, List.drop_zero]
        apply chain_eq (D := [(9, none)]) rfl (by kernel_rfl)
        · intro ρ W ⟨p1, p2, p3⟩ hG hF K hK; (try simp [FactsD] at hF); have ⟨hc, hf, hz⟩ := bcell (Gr.tr (Gr.drew _) hG); go_simp; exact hK _ (gives_val)
        apply chain_eq (D := [(55, some 0)]) rfl (by kernel_rfl)
        · intro ρ W ⟨p1, p2, p3⟩ hG hF K hK; (try simp [FactsD] at hF); have ⟨hc, hf, hz⟩ := bcell (Gr.tr (Gr.drew _) hG); go_simp; exact hK _ (gives_val)
        apply chain_eq (D := [(7, none)]) rfl (by kernel_rfl)
        · intro ρ W ⟨p1, p2, p3⟩ hG hF K hK; (try simp [FactsD] at hF); have ⟨hc, hf, hz⟩ := bcell (Gr.tr (Gr.drew _) hG); go_simp; exact hK _ (gives_val)
        apply chain_eq (D := [(12, none)]) rfl (by kernel_rfl)
        · intro ρ W ⟨p1, p2, p3⟩ hG hF K hK; (try simp [FactsD] at hF); have ⟨hc, hf, hz⟩ := bcell (Gr.tr (Gr.drew _) hG); go_simp; exact hK _ (gives_val)
        apply chain_eq (D := [(58, some 0)]) rfl (by kernel_rfl)
        · intro ρ W ⟨p1, p2, p3⟩ hG hF K hK; (try simp [FactsD] at hF); have ⟨hc, hf, hz⟩ := bcell (Gr.tr (Gr.drew _) hG); go_simp; exact hK _ (gives_val)
        apply chain_eq (D := [(59, some 0)]) rfl (by kernel_rfl)
        · intro ρ W ⟨p1, p2, p3⟩ hG hF K hK; (try simp [FactsD] at hF); have ⟨hc, hf, hz⟩ := bcell (Gr.tr (Gr.drew _) hG); go_simp; exact hK _ (gives_val)
        apply chain_eq (D := [(57, some 3), (60, some 0)]) rfl (by kernel_rfl)
        · intro ρ W ⟨p1, p2, p3⟩ hG hF K hK; (try simp [FactsD] at hF); have ⟨hc, hf, hz⟩ := bcell (Gr.tr (Gr.drew _) hG); go_simp; exact hK _ (gives_call (HBK.out xe xf _ be0 be1 bf0 bf1))
        apply chain_eq (D := [(7, none)]) rfl (by kernel_rfl)
        · intro ρ W ⟨p1, p2, p3⟩ hG hF K hK; (try simp [FactsD] at hF); have ⟨hc, hf, hz⟩ := bcell (Gr.tr (Gr.drew _) hG); go_simp; exact hK _ (gives_val)
        apply chain_eq (D := [(12, none)]) rfl (by kernel_rfl)
        · intro ρ W ⟨p1, p2, p3⟩ hG hF K hK; (try simp [FactsD] at hF); have ⟨hc, hf, hz⟩ := bcell (Gr.tr (Gr.drew _) hG); go_simp; exact hK _ (gives_val)
        apply chain_eq (D := [(63, some 0)]) rfl (by kernel_rfl)
        · intro ρ W ⟨p1, p2, p3⟩ hG hF K hK; (try simp [FactsD] at hF); have ⟨hc, hf, hz⟩ := bcell (Gr.tr (Gr.drew _) hG); go_simp; exact hK _ (gives_val)
        apply chain_eq (D := [(64, some 0)]) rfl (by kernel_rfl)
        · intro ρ W ⟨p1, p2, p3⟩ hG hF K hK; (try simp [FactsD] at hF); have ⟨hc, hf, hz⟩ := bcell (Gr.tr (Gr.drew _) hG); go_simp; exact hK _ (gives_val)
        apply chain_eq (D := [(62, some 3), (65, some 0)]) rfl (by kernel_rfl)
        · intro ρ W ⟨p1, p2, p3⟩ hG hF K hK; (try simp [FactsD] at hF); have ⟨hc, hf, hz⟩ := bcell (Gr.tr (Gr.drew _) hG); go_simp; exact hK _ (gives_call (HBK.out xg xh _ bg0 bg1 bh0 bh1))
        apply chain_eq (D := [(61, some 5), (66, some 0)]) rfl (by kernel_rfl)
        · intro ρ W ⟨p1, p2, p3⟩ hG hF K hK; (try simp [FactsD] at hF); have ⟨hc, hf, hz⟩ := bcell (Gr.tr (Gr.drew _) hG); go_simp; exact hK _ (gives_val)
        apply chain_eq (D := [(7, none)]) rfl (by kernel_rfl)
        · intro ρ W ⟨p1, p2, p3⟩ hG hF K hK; (try simp [FactsD] at hF); have ⟨hc, hf, hz⟩ := bcell (Gr.tr (Gr.drew _) hG); go_simp; exact hK _ (gives_val)
        apply chain_eq (D := [(12, none)]) rfl (by kernel_rfl)
        · intro ρ W ⟨p1, p2, p3⟩ hG hF K hK; (try simp [FactsD] at hF); have ⟨hc, hf, hz⟩ := bcell (Gr.tr (Gr.drew _) hG); go_simp; exact hK _ (gives_val)
        apply chain_eq (D := [(69, some 0)]) rfl (by kernel_rfl)
        · intro ρ W ⟨p1, p2, p3⟩ hG hF K hK; (try simp [FactsD] at hF); have ⟨hc, hf, hz⟩ := bcell (Gr.tr (Gr.drew _) hG); go_simp; exact hK _ (gives_val)
        apply chain_eq (D := [(70, some 0)]) rfl (by kernel_rfl)
        · intro ρ W ⟨p1, p2, p3⟩ hG hF K hK; (try simp [FactsD] at hF); have ⟨hc, hf, hz⟩ := bcell (Gr.tr (Gr.drew _) hG); go_simp; exact hK _ (gives_val)
        apply chain_eq (D := [(68, some 3), (71, some 0)]) rfl (by kernel_rfl)
        · intro ρ W ⟨p1, p2, p3⟩ hG hF K hK; (try simp [FactsD] at hF); have ⟨hc, hf, hz⟩ := bcell (Gr.tr (Gr.drew _) hG); go_simp; exact hK _ (gives_call (HBK.out xa xb _ ba0 ba1 bb0 bb1))
        apply chain_eq (D := [(7, none)]) rfl (by kernel_rfl)
        · intro ρ W ⟨p1, p2, p3⟩ hG hF K hK; (try simp [FactsD] at hF); have ⟨hc, hf, hz⟩ := bcell (Gr.tr (Gr.drew _) hG); go_simp; exact hK _ (gives_val)
        apply chain_eq (D := [(12, none)]) rfl (by kernel_rfl)
        · intro ρ W ⟨p1, p2, p3⟩ hG hF K hK; (try simp [FactsD] at hF); have ⟨hc, hf, hz⟩ := bcell (Gr.tr (Gr.drew _) hG); go_simp; exact hK _ (gives_val)
        apply chain_eq (D := [(74, some 0)]) rfl (by kernel_rfl)
        · intro ρ W ⟨p1, p2, p3⟩ hG hF K hK; (try simp [FactsD] at hF); have ⟨hc, hf, hz⟩ := bcell (Gr.tr (Gr.drew _) hG); go_simp; exact hK _ (gives_val)
        apply chain_eq (D := [(75, some 0)]) rfl (by kernel_rfl)
        · intro ρ W ⟨p1, p2, p3⟩ hG hF K hK; (try simp [FactsD] at hF); have ⟨hc, hf, hz⟩ := bcell (Gr.tr (Gr.drew _) hG); go_simp; exact hK _ (gives_val)
        apply chain_eq (D := [(73, some 3), (76, some 0)]) rfl (by kernel_rfl)
        · intro ρ W ⟨p1, p2, p3⟩ hG hF K hK; (try simp [FactsD] at hF); have ⟨hc, hf, hz⟩ := bcell (Gr.tr (Gr.drew _) hG); go_simp; exact hK _ (gives_call (HBK.out xcc xd _ bc0 bc1 bd0 bd1))
        apply chain_eq (D := [(72, some 5), (77, some 0)]) rfl (by kernel_rfl)
        · intro ρ W ⟨p1, p2, p3⟩ hG hF K hK; (try simp [FactsD] at hF); have ⟨hc, hf, hz⟩ := bcell (Gr.tr (Gr.drew _) hG); go_simp; exact hK _ (gives_val)
        apply chain_eq (D := [(12, none)]) rfl (by kernel_rfl)
        · intro ρ W ⟨p1, p2, p3⟩ hG hF K hK; (try simp [FactsD] at hF); have ⟨hc, hf, hz⟩ := bcell (Gr.tr (Gr.drew _) hG); go_simp; exact hK _ (gives_val)
        apply chain_eq (D := [(79, some 0)]) rfl (by kernel_rfl)
        · intro ρ W ⟨p1, p2, p3⟩ hG hF K hK; (try simp [FactsD] at hF); have ⟨hc, hf, hz⟩ := bcell (Gr.tr (Gr.drew _) hG); go_simp; exact hK _ (gives_val)
        apply chain_eq (D := [(67, some 13), (78, some 2), (80, some 0)]) rfl (by kernel_rfl)
        · intro ρ W ⟨p1, p2, p3⟩ hG hF K hK; (try simp [FactsD] at hF); have ⟨hc, hf, hz⟩ := bcell (Gr.tr (Gr.drew _) hG); go_simp; exact hK _ (gives_val)
        refine chain_any (V := OneAt [.int .i64 (-xf), .int .i64 (-xe), .int .i64 (-xh), .int .i64 (-xg), .int .i64 (-xb), .int .i64 (-xa), .int .i64 (-xd), .int .i64 (-xcc), .int .i64 xz] 47) (D := [(81, some 0)]) rfl (by kernel_rfl) (OneAt.lasts _ _) ?_ ?_
        · intro ρ W ⟨p1, p2, p3⟩ hG hF K hK; (try simp [FactsD] at hF); have ⟨hc, hf, hz⟩ := bcell (Gr.tr (Gr.drew _) hG); go_simp; exact hK _ (⟨OneAt.new _ _ _, Gr.alloc _ _⟩)
        refine chain_done ?_
        intro vs W hG hV
        obtain ⟨e27, -, -, -, -, -, -, -, -, -, -, -, -, -, -, -, -, -, -, -, -, -, -, -, -, -, e1, -⟩ := hV
        simp only [Nat.reduceSub] at e1
        simp only [Nat.reduceSub] at e27
        set_option maxRecDepth 100000 in
        simp only [lay, Act.put, List.getElem?_toArray, List.getElem?_cons_succ, List.getElem?_cons_zero, Option.bind_some, List.setIfInBounds_toArray, List.set_cons_succ, List.set_cons_zero]
        generalize vs 0 = v0
        generalize vs 1 = v1 at *
        generalize vs 2 = v2
        generalize vs 3 = v3
        generalize vs 4 = v4
        generalize vs 5 = v5
        generalize vs 6 = v6
        generalize vs 7 = v7
        generalize vs 8 = v8
        generalize vs 9 = v9
        generalize vs 10 = v10
        generalize vs 11 = v11
        generalize vs 12 = v12
        generalize vs 13 = v13
        generalize vs 14 = v14
        generalize vs 15 = v15
        generalize vs 16 = v16
        generalize vs 17 = v17
        generalize vs 18 = v18
        generalize vs 19 = v19
        generalize vs 20 = v20
        generalize vs 21 = v21
        generalize vs 22 = v22
        generalize vs 23 = v23
        generalize vs 24 = v24
        generalize vs 25 = v25
        generalize vs 26 = v26
        generalize vs 27 = v27 at *
        subst e1
        obtain ⟨hc, hf, hz⟩ := bcell hG
        obtain ⟨bn, rfl, hbn⟩ := e27
        have HBN := Lib.hid hbn
        have HG7 := Lib.hid hG
        have HOX7 := Lib.hid (own_gr HOX6.out hG)
        have HOY7 := Lib.hid (own_gr HOY6.out hG)
        have HX7 := Lib.hid (HX6.out.grow hG)
        have HZ7 := Lib.hid (HZ6.out.grow hG)
        have HT7 := Lib.hid (HT6.out.grow hG)
        have hsz7 : W6.heap.size ≤ W.heap.size := hG.size
        have HW7 := Lib.hid (bgr HW6.out HW6.out.size hG)
        clear hc hf hz hG hbn C3 CT HX6 HZ6 HT6 HOX6 HOY6 HW6
        go_wp2_with (at_builtin; refine wpList_append_lies _ rfl _ _ 24 rfl B1 47 i0 _ 9 72 Try.underlying24 II0.out IZ0.out IZ1.out IZ2.out rfl (by decide) _ _ _ rfl HOX7.out ⟨bn, 0, none⟩ 1 1 [.int .i64 (-xf), .int .i64 (-xe), .int .i64 (-xh), .int .i64 (-xg), .int .i64 (-xb), .int .i64 (-xa), .int .i64 (-xd), .int .i64 (-xcc), .int .i64 xz] rfl rfl ?c1 ?c2 ?c3 ?c4 ?c5 ?c6 _ rfl ?_)
        case c1 => exact World.news_of_block (cs := #[.int .i64 (-xf), .int .i64 (-xe), .int .i64 (-xh), .int .i64 (-xg), .int .i64 (-xb), .int .i64 (-xa), .int .i64 (-xd), .int .i64 (-xcc), .int .i64 xz]) (t := 47) (fr := (0, 0)) HBN.out
        case c2 => simp [Value.oneCell']
        case c3 => omega
        case c4 => unfold maxLen; omega
        case c5 => omega
        case c6 => omega
        intro g capx w3 hown3 hgrow3 hat3 hlt3
        have nbx : some bx ≠ (Value.slice xp xn xc).ownBlock := fun h => by have := (HRX.out bx h.symm).1; omega
        have nbz : some bz ≠ (Value.slice xp xn xc).ownBlock := fun h => by have := (HRX.out bz h.symm).1; omega
        have nbt : some bt ≠ (Value.slice xp xn xc).ownBlock := fun h => by have := (HRX.out bt h.symm).2; omega
        have hsz3 : W.heap.size ≤ w3.heap.size := hgrow3.size
        have hx3 := HX7.out.grown hgrow3 nbx
        have hx8 := hx3.put 7 (.slice (some ⟨g, 0, none⟩) (k + 1) capx)
        have hz8 := (HZ7.out.grown hgrow3 nbz).other hne' 7 (.slice (some ⟨g, 0, none⟩) (k + 1) capx)
        have ht8 := (HT7.out.grown hgrow3 nbt).other (show bt ≠ bx by omega) 7 (.slice (some ⟨g, 0, none⟩) (k + 1) capx)
        have hox8 := ownsRow_setCell_below hown3 (a := ⟨bx, 7, none⟩) (show bx < B1 by omega) (.slice (some ⟨g, 0, none⟩) (k + 1) capx)
        have hoyk : (Value.slice yp yn yc).ownBlock = none ∨ (Value.slice yp yn yc).ownBlock ≠ (Value.slice xp xn xc).ownBlock := by
          cases hy : (Value.slice yp yn yc).ownBlock with
          | none => exact .inl rfl
          | some q => exact .inr fun h => HDJ.out q h.symm hy
        have hoy8 := ownsRow_setCell_below (HOY7.out.kept hgrow3 hoyk) (a := ⟨bx, 7, none⟩) (show bx < B1 by omega) (.slice (some ⟨g, 0, none⟩) (k + 1) capx)
        have hw8 : Below w1.heap.size w1 (w3.setCell ⟨bx, 7, none⟩ (.slice (some ⟨g, 0, none⟩) (k + 1) capx)) := (HW7.out.grown hgrow3 HW7.out.size (fun q e => by have := (HRX.out q e).1; omega)).setCell (show w1.heap.size ≤ bx by omega) _
        have hdj8 : (Value.slice yp yn yc).ownBlock ≠ some g := fun h => by
          rcases hat3 with h3 | h3
          · exact HDJ.out g h3 h
          · have := (HRY.out g h).2; omega
        have x7 := hx3.cell (i := 7) rfl
        have f7 := hx3.free 7
        have HX8 := Lib.hid hx8
        have HZ8 := Lib.hid hz8
        have HT8 := Lib.hid ht8
        have HOX8 := Lib.hid hox8
        have HOY8 := Lib.hid hoy8
        have HW8 := Lib.hid hw8
        have HDJ8 := Lib.hid hdj8
        have hs8 : w3.heap.size ≤ (w3.setCell ⟨bx, 7, none⟩ (.slice (some ⟨g, 0, none⟩) (k + 1) capx)).heap.size := by simp
        clear hx3 hx8 hz8 ht8 hox8 hoy8 hw8 hdj8 hoyk nbx nbz nbt hown3 hgrow3 hat3 HX7 HZ7 HT7 HOX7 HOY7 HW7 HG7 HBN
        go_wp2_with fail
        clear x7 f7
        have hq8 : (w3.setCell ⟨bx, 7, none⟩ (.slice (some ⟨g, 0, none⟩) (k + 1) capx)).cell? ⟨w.heap.size + 1, 0, none⟩ = some (.int .i16 by') := (HQ1.out.below HW8.out hw1).cell (i := 0) rfl
        have hql8 : w.heap.size + 1 < (w3.setCell ⟨bx, 7, none⟩ (.slice (some ⟨g, 0, none⟩) (k + 1) capx)).heap.size := Nat.lt_of_lt_of_le hw1 HW8.out.size
        generalize (w3.setCell ⟨bx, 7, none⟩ (.slice (some ⟨g, 0, none⟩) (k + 1) capx)) = W8 at *
        have HON := Lib.hid (fun (lo hi : Int) (W : World) (hg : Gr W8 W) (h0 : -4000 ≤ lo) (h1 : lo ≤ 4000) (h2 : -4000 ≤ hi) (h3 : hi ≤ 4000) => on_any lo hi by' (w.heap.size + 1) W h0 h1 h2 h3 by0 by1 (((bcell hg).1 _ _ hql8).trans hq8) (Nat.lt_of_lt_of_le hql8 hg.size))
        have C4 := HZ8.out.facts
        have CT := HT8.out.facts
        simp only [CellsFrom, Nat.zero_add, Nat.reduceAdd, and_true] at C4 CT
        refine region2 24 ?_ ?_ ?_
        · kernel_rfl
        · kernel_rfl
        simp only [List.take_succ_cons, List.take_zero, List.drop_succ_cons, List.drop_zero]
        apply chain_eq (D := [(10, none)]) rfl (by kernel_rfl)
        · intro ρ W ⟨p1, p2, p3⟩ hG hF K hK; (try simp [FactsD] at hF); have ⟨hc, hf, hz⟩ := bcell (Gr.tr (Gr.drew _) hG); go_simp; exact hK _ (gives_val)
        apply chain_eq (D := [(85, some 0)]) rfl (by kernel_rfl)
        · intro ρ W ⟨p1, p2, p3⟩ hG hF K hK; (try simp [FactsD] at hF); have ⟨hc, hf, hz⟩ := bcell (Gr.tr (Gr.drew _) hG); go_simp; exact hK _ (gives_val)
        apply chain_eq (D := [(8, none)]) rfl (by kernel_rfl)
        · intro ρ W ⟨p1, p2, p3⟩ hG hF K hK; (try simp [FactsD] at hF); have ⟨hc, hf, hz⟩ := bcell (Gr.tr (Gr.drew _) hG); go_simp; exact hK _ (gives_val)
        apply chain_eq (D := [(12, none)]) rfl (by kernel_rfl)
        · intro ρ W ⟨p1, p2, p3⟩ hG hF K hK; (try simp [FactsD] at hF); have ⟨hc, hf, hz⟩ := bcell (Gr.tr (Gr.drew _) hG); go_simp; exact hK _ (gives_val)
        apply chain_eq (D := [(88, some 0)]) rfl (by kernel_rfl)
        · intro ρ W ⟨p1, p2, p3⟩ hG hF K hK; (try simp [FactsD] at hF); have ⟨hc, hf, hz⟩ := bcell (Gr.tr (Gr.drew _) hG); go_simp; exact hK _ (gives_val)
        apply chain_eq (D := [(89, some 0)]) rfl (by kernel_rfl)
        · intro ρ W ⟨p1, p2, p3⟩ hG hF K hK; (try simp [FactsD] at hF); have ⟨hc, hf, hz⟩ := bcell (Gr.tr (Gr.drew _) hG); go_simp; exact hK _ (gives_val)
        apply chain_eq (D := [(87, some 3), (90, some 0)]) rfl (by kernel_rfl)
        · intro ρ W ⟨p1, p2, p3⟩ hG hF K hK; (try simp [FactsD] at hF); have ⟨hc, hf, hz⟩ := bcell (Gr.tr (Gr.drew _) hG); go_simp; exact hK _ (gives_call (HON.out xa xb _ ((Gr.drew _).tr hG) ba0 ba1 bb0 bb1))
        apply chain_eq (D := [(12, none)]) rfl (by kernel_rfl)
        · intro ρ W ⟨p1, p2, p3⟩ hG hF K hK; (try simp [FactsD] at hF); have ⟨hc, hf, hz⟩ := bcell (Gr.tr (Gr.drew _) hG); go_simp; exact hK _ (gives_val)
        apply chain_eq (D := [(92, some 0)]) rfl (by kernel_rfl)
        · intro ρ W ⟨p1, p2, p3⟩ hG hF K hK; (try simp [FactsD] at hF); have ⟨hc, hf, hz⟩ := bcell (Gr.tr (Gr.drew _) hG); go_simp; exact hK _ (gives_val)
        apply chain_eq (D := [(93, some 0)]) rfl (by kernel_rfl)
        · intro ρ W ⟨p1, p2, p3⟩ hG hF K hK; (try simp [FactsD] at hF); have ⟨hc, hf, hz⟩ := bcell (Gr.tr (Gr.drew _) hG); go_simp; exact hK _ (gives_val)
        apply chain_eq (D := [(91, some 3), (94, some 0)]) rfl (by kernel_rfl)
        · intro ρ W ⟨p1, p2, p3⟩ hG hF K hK; (try simp [FactsD] at hF); have ⟨hc, hf, hz⟩ := bcell (Gr.tr (Gr.drew _) hG); go_simp; exact hK _ (gives_val)
        apply chain_eq (D := [(8, none)]) rfl (by kernel_rfl)
        · intro ρ W ⟨p1, p2, p3⟩ hG hF K hK; (try simp [FactsD] at hF); have ⟨hc, hf, hz⟩ := bcell (Gr.tr (Gr.drew _) hG); go_simp; exact hK _ (gives_val)
        apply chain_eq (D := [(12, none)]) rfl (by kernel_rfl)
        · intro ρ W ⟨p1, p2, p3⟩ hG hF K hK; (try simp [FactsD] at hF); have ⟨hc, hf, hz⟩ := bcell (Gr.tr (Gr.drew _) hG); go_simp; exact hK _ (gives_val)
        apply chain_eq (D := [(97, some 0)]) rfl (by kernel_rfl)
        · intro ρ W ⟨p1, p2, p3⟩ hG hF K hK; (try simp [FactsD] at hF); have ⟨hc, hf, hz⟩ := bcell (Gr.tr (Gr.drew _) hG); go_simp; exact hK _ (gives_val)
        apply chain_eq (D := [(98, some 0)]) rfl (by kernel_rfl)
        · intro ρ W ⟨p1, p2, p3⟩ hG hF K hK; (try simp [FactsD] at hF); have ⟨hc, hf, hz⟩ := bcell (Gr.tr (Gr.drew _) hG); go_simp; exact hK _ (gives_val)
        apply chain_eq (D := [(96, some 3), (99, some 0)]) rfl (by kernel_rfl)
        · intro ρ W ⟨p1, p2, p3⟩ hG hF K hK; (try simp [FactsD] at hF); have ⟨hc, hf, hz⟩ := bcell (Gr.tr (Gr.drew _) hG); go_simp; exact hK _ (gives_call (HON.out xe xf _ ((Gr.drew _).tr hG) be0 be1 bf0 bf1))
        apply chain_eq (D := [(12, none)]) rfl (by kernel_rfl)
        · intro ρ W ⟨p1, p2, p3⟩ hG hF K hK; (try simp [FactsD] at hF); have ⟨hc, hf, hz⟩ := bcell (Gr.tr (Gr.drew _) hG); go_simp; exact hK _ (gives_val)
        apply chain_eq (D := [(101, some 0)]) rfl (by kernel_rfl)
        · intro ρ W ⟨p1, p2, p3⟩ hG hF K hK; (try simp [FactsD] at hF); have ⟨hc, hf, hz⟩ := bcell (Gr.tr (Gr.drew _) hG); go_simp; exact hK _ (gives_val)
        apply chain_eq (D := [(102, some 0)]) rfl (by kernel_rfl)
        · intro ρ W ⟨p1, p2, p3⟩ hG hF K hK; (try simp [FactsD] at hF); have ⟨hc, hf, hz⟩ := bcell (Gr.tr (Gr.drew _) hG); go_simp; exact hK _ (gives_val)
        apply chain_eq (D := [(100, some 3), (103, some 0)]) rfl (by kernel_rfl)
        · intro ρ W ⟨p1, p2, p3⟩ hG hF K hK; (try simp [FactsD] at hF); have ⟨hc, hf, hz⟩ := bcell (Gr.tr (Gr.drew _) hG); go_simp; exact hK _ (gives_val)
        apply chain_eq (D := [(12, none)]) rfl (by kernel_rfl)
        · intro ρ W ⟨p1, p2, p3⟩ hG hF K hK; (try simp [FactsD] at hF); have ⟨hc, hf, hz⟩ := bcell (Gr.tr (Gr.drew _) hG); go_simp; exact hK _ (gives_val)
        apply chain_eq (D := [(105, some 0)]) rfl (by kernel_rfl)
        · intro ρ W ⟨p1, p2, p3⟩ hG hF K hK; (try simp [FactsD] at hF); have ⟨hc, hf, hz⟩ := bcell (Gr.tr (Gr.drew _) hG); go_simp; exact hK _ (gives_val)
        apply chain_eq (D := [(95, some 11), (104, some 2), (106, some 0)]) rfl (by kernel_rfl)
        · intro ρ W ⟨p1, p2, p3⟩ hG hF K hK; (try simp [FactsD] at hF); have ⟨hc, hf, hz⟩ := bcell (Gr.tr (Gr.drew _) hG); go_simp; exact hK _ (gives_val)
        refine chain_any (V := OneAt [.int .i64 (xa + by'), .int .i64 (xb + by'), .int .i64 xcc, .int .i64 xd, .int .i64 (xe + by'), .int .i64 (xf + by'), .int .i64 xg, .int .i64 xh, .int .i64 xz] 47) (D := [(107, some 0)]) rfl (by kernel_rfl) (OneAt.lasts _ _) ?_ ?_
        · intro ρ W ⟨p1, p2, p3⟩ hG hF K hK; (try simp [FactsD] at hF); have ⟨hc, hf, hz⟩ := bcell (Gr.tr (Gr.drew _) hG); go_simp; exact hK _ (⟨OneAt.new _ _ _, Gr.alloc _ _⟩)
        refine chain_done ?_
        intro vs W hG hV
        obtain ⟨e23, -, -, -, -, -, -, -, -, -, -, -, -, -, -, -, -, -, -, -, -, -, e1, -⟩ := hV
        simp only [Nat.reduceSub] at e1
        simp only [Nat.reduceSub] at e23
        simp only [lay, Act.put, List.getElem?_toArray, List.getElem?_cons_succ, List.getElem?_cons_zero, Option.bind_some, List.setIfInBounds_toArray, List.set_cons_succ, List.set_cons_zero]
        generalize vs 0 = v0
        generalize vs 1 = v1 at *
        generalize vs 2 = v2
        generalize vs 3 = v3
        generalize vs 4 = v4
        generalize vs 5 = v5
        generalize vs 6 = v6
        generalize vs 7 = v7
        generalize vs 8 = v8
        generalize vs 9 = v9
        generalize vs 10 = v10
        generalize vs 11 = v11
        generalize vs 12 = v12
        generalize vs 13 = v13
        generalize vs 14 = v14
        generalize vs 15 = v15
        generalize vs 16 = v16
        generalize vs 17 = v17
        generalize vs 18 = v18
        generalize vs 19 = v19
        generalize vs 20 = v20
        generalize vs 21 = v21
        generalize vs 22 = v22
        generalize vs 23 = v23 at *
        subst e1
        obtain ⟨hc, hf, hz⟩ := bcell hG
        obtain ⟨bm, rfl, hbm⟩ := e23
        have HBM := Lib.hid hbm
        have HOX9 := Lib.hid (own_gr HOX8.out hG)
        have HOY9 := Lib.hid (own_gr HOY8.out hG)
        have HX9 := Lib.hid (HX8.out.grow hG)
        have HZ9 := Lib.hid (HZ8.out.grow hG)
        have hsz9 : W8.heap.size ≤ W.heap.size := hG.size
        have HW9 := Lib.hid (bgr HW8.out HW8.out.size hG)
        have hgl : g < W.heap.size := by omega
        clear hc hf hz hG hbm C4 CT HX8 HZ8 HT8 HOX8 HOY8 HW8 hq8 hql8 HON
        go_wp2_with (at_builtin; refine wpList_append_lies _ rfl _ _ 24 rfl B1 47 i0 _ 9 72 Try.underlying24 II0.out IZ0.out IZ1.out IZ2.out rfl (by decide) _ _ _ rfl HOY9.out ⟨bm, 0, none⟩ 1 1 [.int .i64 (xa + by'), .int .i64 (xb + by'), .int .i64 xcc, .int .i64 xd, .int .i64 (xe + by'), .int .i64 (xf + by'), .int .i64 xg, .int .i64 xh, .int .i64 xz] rfl rfl ?c1 ?c2 ?c3 ?c4 ?c5 ?c6 _ rfl ?_)
        case c1 => exact World.news_of_block (cs := #[.int .i64 (xa + by'), .int .i64 (xb + by'), .int .i64 xcc, .int .i64 xd, .int .i64 (xe + by'), .int .i64 (xf + by'), .int .i64 xg, .int .i64 xh, .int .i64 xz]) (t := 47) (fr := (0, 0)) HBM.out
        case c2 => simp [Value.oneCell']
        case c3 => omega
        case c4 => unfold maxLen; omega
        case c5 => omega
        case c6 => omega
        intro g' capy w4 hown4 hgrow4 hat4 hlt4
        have nbx : some bx ≠ (Value.slice yp yn yc).ownBlock := fun h => by have := (HRY.out bx h.symm).1; omega
        have nbz : some bz ≠ (Value.slice yp yn yc).ownBlock := fun h => by have := (HRY.out bz h.symm).1; omega
        have hsz4 : W.heap.size ≤ w4.heap.size := hgrow4.size
        have hz4 := HZ9.out.grown hgrow4 nbz
        have hz10 := hz4.put 7 (.slice (some ⟨g', 0, none⟩) (k + 1) capy)
        have hx10 := (HX9.out.grown hgrow4 nbx).other hne 7 (.slice (some ⟨g', 0, none⟩) (k + 1) capy)
        have hoy10 := ownsRow_setCell_below hown4 (a := ⟨bz, 7, none⟩) (show bz < B1 by omega) (.slice (some ⟨g', 0, none⟩) (k + 1) capy)
        have hoxk : (Value.slice (some ⟨g, 0, none⟩) (k + 1) capx).ownBlock = none ∨ (Value.slice (some ⟨g, 0, none⟩) (k + 1) capx).ownBlock ≠ (Value.slice yp yn yc).ownBlock := .inr fun h => HDJ8.out h.symm
        have hox10 := ownsRow_setCell_below (HOX9.out.kept hgrow4 hoxk) (a := ⟨bz, 7, none⟩) (show bz < B1 by omega) (.slice (some ⟨g', 0, none⟩) (k + 1) capy)
        have hw10 : Below w1.heap.size w1 (w4.setCell ⟨bz, 7, none⟩ (.slice (some ⟨g', 0, none⟩) (k + 1) capy)) := (HW9.out.grown hgrow4 HW9.out.size (fun q e => by have := (HRY.out q e).1; omega)).setCell (show w1.heap.size ≤ bz by omega) _
        have hdj10 : ∀ q, (Value.slice (some ⟨g, 0, none⟩) (k + 1) capx).ownBlock = some q → (Value.slice (some ⟨g', 0, none⟩) (k + 1) capy).ownBlock ≠ some q := fun q h1 h2 => by
          have e1 : g = q := by simpa [Value.ownBlock] using h1
          have e2 : g' = q := by simpa [Value.ownBlock] using h2
          rcases hat4 with h3 | h3
          · exact HDJ8.out (by rw [h3, e2, e1])
          · omega
        have x7 := hz4.cell (i := 7) rfl
        have f7 := hz4.free 7
        have HX10 := Lib.hid hx10
        have HZ10 := Lib.hid hz10
        have HOX10 := Lib.hid hox10
        have HOY10 := Lib.hid hoy10
        have HW10 := Lib.hid hw10
        have HDJ10 := Lib.hid hdj10
        clear hz4 hx10 hz10 hox10 hoy10 hw10 hdj10 hoxk nbx nbz hown4 hgrow4 hat4 HX9 HZ9 HOX9 HOY9 HW9 HBM
        go_wp2
        have exx : (((p.l.take (k + 1)).map Th.back).flatMap Th.vals) = List.flatMap Th.vals (List.take k (List.map Th.back p.l)) ++ [.int .i64 (-xf), .int .i64 (-xe), .int .i64 (-xh), .int .i64 (-xg), .int .i64 (-xb), .int .i64 (-xa), .int .i64 (-xd), .int .i64 (-xcc), .int .i64 xz] := by rw [HTL.out]; simp [Th.back, Th.vals, List.map_take]
        have eyy : (((p.l.take (k + 1)).map (Th.on by')).flatMap Th.vals) = List.flatMap Th.vals (List.take k (List.map (Th.on by') p.l)) ++ [.int .i64 (xa + by'), .int .i64 (xb + by'), .int .i64 xcc, .int .i64 xd, .int .i64 (xe + by'), .int .i64 (xf + by'), .int .i64 xg, .int .i64 xh, .int .i64 xz] := by rw [HTL.out]; simp [Th.on, Th.vals, List.map_take]
        exact ⟨⟨k + 1, by omega, by go_num, HW10.out, by simp; omega, _, _, HX10.out, HZ10.out, by rw [exx]; exact HOX10.out, by rw [eyy]; exact HOY10.out, HDJ10.out⟩, by simp [intOf]; omega⟩
      · have hkl : k = len := by omega
        subst hkl
        have hxt : ThingsAt (p.l.map Th.back) (.slice xp xn xc) wr := by
          have := HOX.out
          rw [← HLEN.out, List.take_length] at this
          exact ThingsAt.own this (by simp) (by simp; rw [HLEN.out]; omega)
        have hyt : ThingsAt (p.l.map (Th.on by')) (.slice yp yn yc) wr := by
          have := HOY.out
          rw [← HLEN.out, List.take_length] at this
          exact ThingsAt.own this (by simp) (by simp; rw [HLEN.out]; omega)
        have TP := Lib.hid (fun (W : World) (hg : Gr wr W) => ThingsAt.lasts p.l _ _ _ hth hg)
        have TX := Lib.hid (fun (W : World) (hg : Gr wr W) => ThingsAt.lasts (p.l.map Th.back) _ _ _ hxt hg)
        have TY := Lib.hid (fun (W : World) (hg : Gr wr W) => ThingsAt.lasts (p.l.map (Th.on by')) _ _ _ hyt hg)
        have hp8 := HP1.out.below HG.out (by omega)
        have C := hp8.facts
        simp only [CellsFrom, Nat.zero_add, Nat.reduceAdd, and_true] at C
        have HPB := Lib.hid hp8
        have HGB := Lib.hid HG.out
        have hle0 : w.heap.size < w1.heap.size := by omega
        have hlt51 : decide ((k : Int) < (k : Int)) = false := by simp
        clear hth hxt hyt hp8 HOX HOY HDJ HG
        have hg0 := Gr.same wr
        go_wp2_with fail
        refine (power_is h1.out (TP.out _ hg0)).mono ?_
        rintro e u1 ⟨rfl, hb1⟩
        have gg1 : Gr _ _ := hb1
        have hg1 := Gr.tr hg0 gg1
        obtain ⟨hc, hf, hz⟩ := bcell hg1
        go_wp2_with fail
        clear hc hf hz
        refine (distance_is h2.out (TP.out _ (hg1.tr (Gr.alloc _ _)))).mono ?_
        rintro e u2 ⟨rfl, hb2⟩
        have gg2 : Gr _ _ := (Gr.alloc _ _).tr hb2
        have hg2 := Gr.tr hg1 gg2
        have y1_0 := ((bcell hb2).1 u1.heap.size 0 (by simp)).trans (show _ = some (.int .i64 P) by simp)
        have y1_1 := ((bcell hb2).1 u1.heap.size 1 (by simp)).trans (show _ = some (.int .i64 Q) by simp)
        have k1 : u1.heap.size < u2.heap.size := Nat.lt_of_lt_of_le (by simp) hb2.size
        have k1n : u1.heap.size ≠ u2.heap.size := Nat.ne_of_lt k1
        have k1m : u2.heap.size ≠ u1.heap.size := (Nat.ne_of_lt k1).symm
        have k1p : u1.heap.size < u2.heap.size + 1 := Nat.lt_succ_of_lt k1
        obtain ⟨hc, hf, hz⟩ := bcell hg2
        go_wp2_with fail
        clear hc hf hz
        refine (why_is h3.out (TP.out _ (hg2.tr (Gr.alloc _ _)))).mono ?_
        rintro e u3 ⟨rfl, hb3⟩
        have gg3 : Gr _ _ := (Gr.alloc _ _).tr hb3
        have hg3 := Gr.tr hg2 gg3
        have y1_0 := ((bcell gg3).1 u1.heap.size 0 k1).trans y1_0
        have y1_1 := ((bcell gg3).1 u1.heap.size 1 k1).trans y1_1
        replace k1 : u1.heap.size < u3.heap.size := Nat.lt_of_lt_of_le k1 gg3.size
        have k1n : u1.heap.size ≠ u3.heap.size := Nat.ne_of_lt k1
        have k1m : u3.heap.size ≠ u1.heap.size := (Nat.ne_of_lt k1).symm
        have k1p : u1.heap.size < u3.heap.size + 1 := Nat.lt_succ_of_lt k1
        have y2_0 := ((bcell hb3).1 u2.heap.size 0 (by simp)).trans (show _ = some (.int .i64 d1) by simp)
        have y2_1 := ((bcell hb3).1 u2.heap.size 1 (by simp)).trans (show _ = some (.int .i64 d2) by simp)
        have k2 : u2.heap.size < u3.heap.size := Nat.lt_of_lt_of_le (by simp) hb3.size
        have k2n : u2.heap.size ≠ u3.heap.size := Nat.ne_of_lt k2
        have k2m : u3.heap.size ≠ u2.heap.size := (Nat.ne_of_lt k2).symm
        have k2p : u2.heap.size < u3.heap.size + 1 := Nat.lt_succ_of_lt k2
        obtain ⟨hc, hf, hz⟩ := bcell hg3
        go_wp2_with fail
        clear hc hf hz
        refine (fewest_is h5.out (TP.out _ hg3)).mono ?_
        rintro e u4 ⟨rfl, hb4⟩
        have gg4 : Gr _ _ := hb4
        have hg4 := Gr.tr hg3 gg4
        have y1_0 := ((bcell gg4).1 u1.heap.size 0 k1).trans y1_0
        have y1_1 := ((bcell gg4).1 u1.heap.size 1 k1).trans y1_1
        replace k1 : u1.heap.size < u4.heap.size := Nat.lt_of_lt_of_le k1 gg4.size
        have k1n : u1.heap.size ≠ u4.heap.size := Nat.ne_of_lt k1
        have k1m : u4.heap.size ≠ u1.heap.size := (Nat.ne_of_lt k1).symm
        have k1p : u1.heap.size < u4.heap.size + 1 := Nat.lt_succ_of_lt k1
        have y2_0 := ((bcell gg4).1 u2.heap.size 0 k2).trans y2_0
        have y2_1 := ((bcell gg4).1 u2.heap.size 1 k2).trans y2_1
        replace k2 : u2.heap.size < u4.heap.size := Nat.lt_of_lt_of_le k2 gg4.size
        have k2n : u2.heap.size ≠ u4.heap.size := Nat.ne_of_lt k2
        have k2m : u4.heap.size ≠ u2.heap.size := (Nat.ne_of_lt k2).symm
        have k2p : u2.heap.size < u4.heap.size + 1 := Nat.lt_succ_of_lt k2
        obtain ⟨hc, hf, hz⟩ := bcell hg4
        have C3 := (HKX.out.grow hg4).facts
        have C4 := (HKZ.out.grow hg4).facts
        simp only [CellsFrom, Nat.zero_add, Nat.reduceAdd, and_true] at C3 C4
        go_wp2_with fail
        have HRx : Hid (∀ W : World, Gr wr W → Calls Try.prog 32 #[.agg #[.int .i64 p.fl, .int .i64 p.fh, .int .i64 p.bl, .int .i64 p.bh, .int .i64 p.ti, .int .i64 p.ne, .int .i64 p.fa, .slice xp xn xc]] W fun e' w' => e' = .returned (.bool okx) ∧ Below W.heap.size W w') := Lib.hid fun W hg => rpair_is (p := p.turn Th.back) hox.out (TX.out W hg)
        have HPx : Hid (okx = true → ∀ W : World, Gr wr W → Calls Try.prog 17 #[.agg #[.int .i64 p.fl, .int .i64 p.fh, .int .i64 p.bl, .int .i64 p.bh, .int .i64 p.ti, .int .i64 p.ne, .int .i64 p.fa, .slice xp xn xc]] W fun e' w' => e' = .returned (.tuple #[.agg #[.int .i64 P, .int .i64 Q], .int .i64 pe]) ∧ Below W.heap.size W w') := Lib.hid fun hok W hg => power_is (p := p.turn Th.back) ((Pr.turn_all hsx.out (fun _ => rfl) h4.out (hox.out.trans hok) n).1.trans h1.out) (TX.out W hg)
        have HDx : Hid (okx = true → ∀ W : World, Gr wr W → Calls Try.prog 23 #[.agg #[.int .i64 p.fl, .int .i64 p.fh, .int .i64 p.bl, .int .i64 p.bh, .int .i64 p.ti, .int .i64 p.ne, .int .i64 p.fa, .slice xp xn xc], .int .i64 n] W fun e' w' => e' = .returned (.tuple #[.agg #[.int .i64 d1, .int .i64 d2], .int .i64 de]) ∧ Below W.heap.size W w') := Lib.hid fun hok W hg => distance_is (p := p.turn Th.back) ((Pr.turn_all hsx.out (fun _ => rfl) h4.out (hox.out.trans hok) n).2.1.trans h2.out) (TX.out W hg)
        have HWx : Hid (okx = true → ∀ W : World, Gr wr W → Calls Try.prog 21 #[.agg #[.int .i64 p.fl, .int .i64 p.fh, .int .i64 p.bl, .int .i64 p.bh, .int .i64 p.ti, .int .i64 p.ne, .int .i64 p.fa, .slice xp xn xc], .int .i64 n] W fun e' w' => e' = .returned (.tuple #[.int .i64 y, .int .i64 ye]) ∧ Below W.heap.size W w') := Lib.hid fun hok W hg => why_is (p := p.turn Th.back) ((Pr.turn_all hsx.out (fun _ => rfl) h4.out (hox.out.trans hok) n).2.2.1.trans h3.out) (TX.out W hg)
        have HFx : Hid (okx = true → ∀ W : World, Gr wr W → Calls Try.prog 25 #[.agg #[.int .i64 p.fl, .int .i64 p.fh, .int .i64 p.bl, .int .i64 p.bh, .int .i64 p.ti, .int .i64 p.ne, .int .i64 p.fa, .slice xp xn xc]] W fun e' w' => e' = .returned (.tuple #[.int .i64 m, .agg #[.int .i64 f1, .int .i64 f2], .int .i64 fe]) ∧ Below W.heap.size W w') := Lib.hid fun hok W hg => fewest_is (p := p.turn Th.back) ((Pr.turn_all hsx.out (fun _ => rfl) h4.out (hox.out.trans hok) n).2.2.2.trans h5.out) (TX.out W hg)
        have HRy : Hid (∀ W : World, Gr wr W → Calls Try.prog 32 #[.agg #[.int .i64 p.fl, .int .i64 p.fh, .int .i64 p.bl, .int .i64 p.bh, .int .i64 p.ti, .int .i64 p.ne, .int .i64 p.fa, .slice yp yn yc]] W fun e' w' => e' = .returned (.bool oky) ∧ Below W.heap.size W w') := Lib.hid fun W hg => rpair_is (p := p.turn (Th.on by')) hoy.out (TY.out W hg)
        have HPy : Hid (oky = true → ∀ W : World, Gr wr W → Calls Try.prog 17 #[.agg #[.int .i64 p.fl, .int .i64 p.fh, .int .i64 p.bl, .int .i64 p.bh, .int .i64 p.ti, .int .i64 p.ne, .int .i64 p.fa, .slice yp yn yc]] W fun e' w' => e' = .returned (.tuple #[.agg #[.int .i64 P, .int .i64 Q], .int .i64 pe]) ∧ Below W.heap.size W w') := Lib.hid fun hok W hg => power_is (p := p.turn (Th.on by')) ((Pr.turn_all hsy.out (fun _ => rfl) h4.out (hoy.out.trans hok) n).1.trans h1.out) (TY.out W hg)
        have HDy : Hid (oky = true → ∀ W : World, Gr wr W → Calls Try.prog 23 #[.agg #[.int .i64 p.fl, .int .i64 p.fh, .int .i64 p.bl, .int .i64 p.bh, .int .i64 p.ti, .int .i64 p.ne, .int .i64 p.fa, .slice yp yn yc], .int .i64 n] W fun e' w' => e' = .returned (.tuple #[.agg #[.int .i64 d1, .int .i64 d2], .int .i64 de]) ∧ Below W.heap.size W w') := Lib.hid fun hok W hg => distance_is (p := p.turn (Th.on by')) ((Pr.turn_all hsy.out (fun _ => rfl) h4.out (hoy.out.trans hok) n).2.1.trans h2.out) (TY.out W hg)
        have HWy : Hid (oky = true → ∀ W : World, Gr wr W → Calls Try.prog 21 #[.agg #[.int .i64 p.fl, .int .i64 p.fh, .int .i64 p.bl, .int .i64 p.bh, .int .i64 p.ti, .int .i64 p.ne, .int .i64 p.fa, .slice yp yn yc], .int .i64 n] W fun e' w' => e' = .returned (.tuple #[.int .i64 y, .int .i64 ye]) ∧ Below W.heap.size W w') := Lib.hid fun hok W hg => why_is (p := p.turn (Th.on by')) ((Pr.turn_all hsy.out (fun _ => rfl) h4.out (hoy.out.trans hok) n).2.2.1.trans h3.out) (TY.out W hg)
        have HFy : Hid (oky = true → ∀ W : World, Gr wr W → Calls Try.prog 25 #[.agg #[.int .i64 p.fl, .int .i64 p.fh, .int .i64 p.bl, .int .i64 p.bh, .int .i64 p.ti, .int .i64 p.ne, .int .i64 p.fa, .slice yp yn yc]] W fun e' w' => e' = .returned (.tuple #[.int .i64 m, .agg #[.int .i64 f1, .int .i64 f2], .int .i64 fe]) ∧ Below W.heap.size W w') := Lib.hid fun hok W hg => fewest_is (p := p.turn (Th.on by')) ((Pr.turn_all hsy.out (fun _ => rfl) h4.out (hoy.out.trans hok) n).2.2.2.trans h5.out) (TY.out W hg)
        have gl : Gr u4 ((u4.alloc (.cells #[.int .i64 f1, .int .i64 f2] 23)).alloc (.cells #[.int .i64 p.fl, .int .i64 p.fh, .int .i64 p.bl, .int .i64 p.bh, .int .i64 p.ti, .int .i64 p.ne, .int .i64 p.fa, .slice xp xn xc, .int .i64 p.fl, .int .i64 p.fh, .int .i64 p.bl, .int .i64 p.bh, .int .i64 p.ti, .int .i64 p.ne, .int .i64 p.fa, .slice yp yn yc] 26)) := (Gr.alloc _ _).tr (Gr.alloc _ _)
        have yP0 := ((bcell gl).1 u1.heap.size 0 k1).trans y1_0
        have yP1 := ((bcell gl).1 u1.heap.size 1 k1).trans y1_1
        have yD0 := ((bcell gl).1 u2.heap.size 0 k2).trans y2_0
        have yD1 := ((bcell gl).1 u2.heap.size 1 k2).trans y2_1
        have kP := Nat.lt_of_lt_of_le k1 gl.size
        have kD := Nat.lt_of_lt_of_le k2 gl.size
        have hfb : Box ((u4.alloc (.cells #[.int .i64 f1, .int .i64 f2] 23)).alloc (.cells #[.int .i64 p.fl, .int .i64 p.fh, .int .i64 p.bl, .int .i64 p.bh, .int .i64 p.ti, .int .i64 p.ne, .int .i64 p.fa, .slice xp xn xc, .int .i64 p.fl, .int .i64 p.fh, .int .i64 p.bl, .int .i64 p.bh, .int .i64 p.ti, .int .i64 p.ne, .int .i64 p.fa, .slice yp yn yc] 26)) u4.heap.size [.int .i64 f1, .int .i64 f2] 23 := (Box.fresh u4 [.int .i64 f1, .int .i64 f2] 23).grow (Gr.alloc _ _)
        have hsb : Box ((u4.alloc (.cells #[.int .i64 f1, .int .i64 f2] 23)).alloc (.cells #[.int .i64 p.fl, .int .i64 p.fh, .int .i64 p.bl, .int .i64 p.bh, .int .i64 p.ti, .int .i64 p.ne, .int .i64 p.fa, .slice xp xn xc, .int .i64 p.fl, .int .i64 p.fh, .int .i64 p.bl, .int .i64 p.bh, .int .i64 p.ti, .int .i64 p.ne, .int .i64 p.fa, .slice yp yn yc] 26)) (u4.heap.size + 1) [.int .i64 p.fl, .int .i64 p.fh, .int .i64 p.bl, .int .i64 p.bh, .int .i64 p.ti, .int .i64 p.ne, .int .i64 p.fa, .slice xp xn xc, .int .i64 p.fl, .int .i64 p.fh, .int .i64 p.bl, .int .i64 p.bh, .int .i64 p.ti, .int .i64 p.ne, .int .i64 p.fa, .slice yp yn yc] 26 := by
          have := Box.fresh (u4.alloc (.cells #[.int .i64 f1, .int .i64 f2] 23)) [.int .i64 p.fl, .int .i64 p.fh, .int .i64 p.bl, .int .i64 p.bh, .int .i64 p.ti, .int .i64 p.ne, .int .i64 p.fa, .slice xp xn xc, .int .i64 p.fl, .int .i64 p.fh, .int .i64 p.bl, .int .i64 p.bh, .int .i64 p.ti, .int .i64 p.ne, .int .i64 p.fa, .slice yp yn yc] 26
          simpa using this
        have hgl := hg4.tr gl
        generalize ((u4.alloc (.cells #[.int .i64 f1, .int .i64 f2] 23)).alloc (.cells #[.int .i64 p.fl, .int .i64 p.fh, .int .i64 p.bl, .int .i64 p.bh, .int .i64 p.ti, .int .i64 p.ne, .int .i64 p.fa, .slice xp xn xc, .int .i64 p.fl, .int .i64 p.fh, .int .i64 p.bl, .int .i64 p.bh, .int .i64 p.ti, .int .i64 p.ne, .int .i64 p.fa, .slice yp yn yc] 26)) = WL at *
        generalize u4.heap.size + 1 = bs at *
        generalize u4.heap.size = bF at *
        generalize u1.heap.size = bP at *
        generalize u2.heap.size = bD at *
        have HFB := Lib.hid hfb
        have HSB := Lib.hid hsb
        have HG0 := Lib.hid hgl
        have HYP := Lib.hid (And.intro (And.intro yP0 yP1) (And.intro yD0 yD1))
        clear hfb hsb hgl gl yP0 yP1 yD0 yD1 y1_0 y1_1 y2_0 y2_1 k1 k2 hg1 hg2 hg3 hg4 hg0 gg1 gg2 gg3 gg4 hb1 hb2 hb3 hb4 hc hf hz C C3 C4
        go_loopw [139] (fun i wr2 => ∃ j : Nat, j ≤ 2 ∧ i = .int .i64 j ∧ Gr WL wr2) (fun i _ => 2 - (intOf i).toNat)
        case atStart => exact ⟨0, by omega, rfl, Gr.same _⟩
        case round =>
          obtain ⟨j, hj, rfl, hg⟩ := hrel
          have HG2 := Lib.hid hg
          clear hg
          by_cases hj2 : j < 2
          · rcases (show j = 0 ∨ j = 1 by omega) with rfl | rfl
            · skip
              have CS := (HSB.out.grow HG2.out).facts
              simp only [CellsFrom, Nat.zero_add, Nat.reduceAdd, and_true] at CS
              have hgw := HG0.out.tr HG2.out
              cases hok : okx with
              | false =>
                have HRq := Lib.hid (fun W hg => hok ▸ HRx.out W hg)
                clear hok
                go_wp2_with fail
                refine (HRq.out _ (hgw.tr (Gr.alloc _ _))).mono ?_
                rintro e v1 ⟨rfl, hb1⟩
                go_wp2
                exact ⟨⟨1, by omega, by go_num, HG2.out.tr ((Gr.alloc _ _).tr hb1)⟩, by simp [intOf]⟩
              | true =>
                have HRq := Lib.hid (fun W hg => hok ▸ HRx.out W hg)
                have HPq := Lib.hid (HPx.out hok)
                have HDq := Lib.hid (HDx.out hok)
                have HWq := Lib.hid (HWx.out hok)
                have HFq := Lib.hid (HFx.out hok)
                clear hok
                have hgz : Gr wr (wr.alloc (.cells #[.int .i64 p.fl, .int .i64 p.fh, .int .i64 p.bl, .int .i64 p.bh, .int .i64 p.ti, .int .i64 p.ne, .int .i64 p.fa, .slice xp xn xc] 26)) := Gr.alloc wr _
                have hg0 := Gr.same (wr.alloc (.cells #[.int .i64 p.fl, .int .i64 p.fh, .int .i64 p.bl, .int .i64 p.bh, .int .i64 p.ti, .int .i64 p.ne, .int .i64 p.fa, .slice xp xn xc] 26))
                replace hgw := hgw.tr hgz
                have hne := @ne23
                have hneg := @neg23
                go_wp2_with fail
                refine (HRq.out _ (hgw.tr hg0)).mono ?_
                rintro e v1 ⟨rfl, hb1⟩
                have gg1 : Gr _ _ := hb1
                have hg1 := Gr.tr hg0 gg1
                obtain ⟨hc, hf, hz⟩ := bcell hg1
                go_wp2_with fail
                clear hc hf hz
                refine (HPq.out _ (hgw.tr hg1)).mono ?_
                rintro e v2 ⟨rfl, hb2⟩
                have gg2 : Gr _ _ := hb2
                have hg2 := Gr.tr hg1 gg2
                obtain ⟨hc, hf, hz⟩ := bcell hg2
                go_wp2_with fail
                clear hc hf hz
                refine (HDq.out _ (hgw.tr (hg2.tr (Gr.alloc _ _)))).mono ?_
                rintro e v3 ⟨rfl, hb3⟩
                have gg3 : Gr _ _ := (Gr.alloc _ _).tr hb3
                have hg3 := Gr.tr hg2 gg3
                have y2_0 := ((bcell hb3).1 v2.heap.size 0 (by simp)).trans (show _ = some (.int .i64 P) by simp)
                have y2_1 := ((bcell hb3).1 v2.heap.size 1 (by simp)).trans (show _ = some (.int .i64 Q) by simp)
                have k2 : v2.heap.size < v3.heap.size := Nat.lt_of_lt_of_le (by simp) hb3.size
                have k2n : v2.heap.size ≠ v3.heap.size := Nat.ne_of_lt k2
                have k2m : v3.heap.size ≠ v2.heap.size := (Nat.ne_of_lt k2).symm
                have k2p : v2.heap.size < v3.heap.size + 1 := Nat.lt_succ_of_lt k2
                obtain ⟨hc, hf, hz⟩ := bcell hg3
                go_wp2_with fail
                clear hc hf hz
                refine (HWq.out _ (hgw.tr (hg3.tr (Gr.alloc _ _)))).mono ?_
                rintro e v4 ⟨rfl, hb4⟩
                have gg4 : Gr _ _ := (Gr.alloc _ _).tr hb4
                have hg4 := Gr.tr hg3 gg4
                have y2_0 := ((bcell gg4).1 v2.heap.size 0 k2).trans y2_0
                have y2_1 := ((bcell gg4).1 v2.heap.size 1 k2).trans y2_1
                replace k2 : v2.heap.size < v4.heap.size := Nat.lt_of_lt_of_le k2 gg4.size
                have k2n : v2.heap.size ≠ v4.heap.size := Nat.ne_of_lt k2
                have k2m : v4.heap.size ≠ v2.heap.size := (Nat.ne_of_lt k2).symm
                have k2p : v2.heap.size < v4.heap.size + 1 := Nat.lt_succ_of_lt k2
                have y3_0 := ((bcell hb4).1 v3.heap.size 0 (by simp)).trans (show _ = some (.int .i64 d1) by simp)
                have y3_1 := ((bcell hb4).1 v3.heap.size 1 (by simp)).trans (show _ = some (.int .i64 d2) by simp)
                have k3 : v3.heap.size < v4.heap.size := Nat.lt_of_lt_of_le (by simp) hb4.size
                have k3n : v3.heap.size ≠ v4.heap.size := Nat.ne_of_lt k3
                have k3m : v4.heap.size ≠ v3.heap.size := (Nat.ne_of_lt k3).symm
                have k3p : v3.heap.size < v4.heap.size + 1 := Nat.lt_succ_of_lt k3
                obtain ⟨hc, hf, hz⟩ := bcell hg4
                go_wp2_with fail
                clear hc hf hz
                refine (HFq.out _ (hgw.tr hg4)).mono ?_
                rintro e v5 ⟨rfl, hb5⟩
                have gg5 : Gr _ _ := hb5
                have hg5 := Gr.tr hg4 gg5
                have y2_0 := ((bcell gg5).1 v2.heap.size 0 k2).trans y2_0
                have y2_1 := ((bcell gg5).1 v2.heap.size 1 k2).trans y2_1
                replace k2 : v2.heap.size < v5.heap.size := Nat.lt_of_lt_of_le k2 gg5.size
                have k2n : v2.heap.size ≠ v5.heap.size := Nat.ne_of_lt k2
                have k2m : v5.heap.size ≠ v2.heap.size := (Nat.ne_of_lt k2).symm
                have k2p : v2.heap.size < v5.heap.size + 1 := Nat.lt_succ_of_lt k2
                have y3_0 := ((bcell gg5).1 v3.heap.size 0 k3).trans y3_0
                have y3_1 := ((bcell gg5).1 v3.heap.size 1 k3).trans y3_1
                replace k3 : v3.heap.size < v5.heap.size := Nat.lt_of_lt_of_le k3 gg5.size
                have k3n : v3.heap.size ≠ v5.heap.size := Nat.ne_of_lt k3
                have k3m : v5.heap.size ≠ v3.heap.size := (Nat.ne_of_lt k3).symm
                have k3p : v3.heap.size < v5.heap.size + 1 := Nat.lt_succ_of_lt k3
                obtain ⟨hc, hf, hz⟩ := bcell hg5
                have hgF := HG2.out.tr (hgz.tr hg5)
                have zP0 := ((bcell hgF).1 bP 0 kP).trans HYP.out.1.1
                have zP1 := ((bcell hgF).1 bP 1 kP).trans HYP.out.1.2
                have zD0 := ((bcell hgF).1 bD 0 kD).trans HYP.out.2.1
                have zD1 := ((bcell hgF).1 bD 1 kD).trans HYP.out.2.2
                have hF5 := HFB.out.grow hgF
                have zF0 := hF5.cell (i := 0) rfl
                have zF1 := hF5.cell (i := 1) rfl
                have lP := Nat.lt_of_lt_of_le kP hgF.size
                have lD := Nat.lt_of_lt_of_le kD hgF.size
                have lF := hF5.lt
                have aP := Nat.ne_of_lt lP
                have aD := Nat.ne_of_lt lD
                have aF := Nat.ne_of_lt lF
                have cP := (Nat.ne_of_lt lP).symm
                have cD := (Nat.ne_of_lt lD).symm
                have cF := (Nat.ne_of_lt lF).symm
                clear hF5 CS
                go_wp2
                exact ⟨⟨1, by omega, by go_num, hgF.tr (Gr.alloc _ _)⟩, by simp [intOf]⟩
            · skip
              have CS := (HSB.out.grow HG2.out).facts
              simp only [CellsFrom, Nat.zero_add, Nat.reduceAdd, and_true] at CS
              have hgw := HG0.out.tr HG2.out
              cases hok : oky with
              | false =>
                have HRq := Lib.hid (fun W hg => hok ▸ HRy.out W hg)
                clear hok
                go_wp2_with fail
                refine (HRq.out _ (hgw.tr (Gr.alloc _ _))).mono ?_
                rintro e v1 ⟨rfl, hb1⟩
                go_wp2
                exact ⟨⟨2, by omega, by go_num, HG2.out.tr ((Gr.alloc _ _).tr hb1)⟩, by simp [intOf]⟩
              | true =>
                have HRq := Lib.hid (fun W hg => hok ▸ HRy.out W hg)
                have HPq := Lib.hid (HPy.out hok)
                have HDq := Lib.hid (HDy.out hok)
                have HWq := Lib.hid (HWy.out hok)
                have HFq := Lib.hid (HFy.out hok)
                clear hok
                have hgz : Gr wr (wr.alloc (.cells #[.int .i64 p.fl, .int .i64 p.fh, .int .i64 p.bl, .int .i64 p.bh, .int .i64 p.ti, .int .i64 p.ne, .int .i64 p.fa, .slice yp yn yc] 26)) := Gr.alloc wr _
                have hg0 := Gr.same (wr.alloc (.cells #[.int .i64 p.fl, .int .i64 p.fh, .int .i64 p.bl, .int .i64 p.bh, .int .i64 p.ti, .int .i64 p.ne, .int .i64 p.fa, .slice yp yn yc] 26))
                replace hgw := hgw.tr hgz
                have hne := @ne23
                have hneg := @neg23
                go_wp2_with fail
                refine (HRq.out _ (hgw.tr hg0)).mono ?_
                rintro e v1 ⟨rfl, hb1⟩
                have gg1 : Gr _ _ := hb1
                have hg1 := Gr.tr hg0 gg1
                obtain ⟨hc, hf, hz⟩ := bcell hg1
                go_wp2_with fail
                clear hc hf hz
                refine (HPq.out _ (hgw.tr hg1)).mono ?_
                rintro e v2 ⟨rfl, hb2⟩
                have gg2 : Gr _ _ := hb2
                have hg2 := Gr.tr hg1 gg2
                obtain ⟨hc, hf, hz⟩ := bcell hg2
                go_wp2_with fail
                clear hc hf hz
                refine (HDq.out _ (hgw.tr (hg2.tr (Gr.alloc _ _)))).mono ?_
                rintro e v3 ⟨rfl, hb3⟩
                have gg3 : Gr _ _ := (Gr.alloc _ _).tr hb3
                have hg3 := Gr.tr hg2 gg3
                have y2_0 := ((bcell hb3).1 v2.heap.size 0 (by simp)).trans (show _ = some (.int .i64 P) by simp)
                have y2_1 := ((bcell hb3).1 v2.heap.size 1 (by simp)).trans (show _ = some (.int .i64 Q) by simp)
                have k2 : v2.heap.size < v3.heap.size := Nat.lt_of_lt_of_le (by simp) hb3.size
                have k2n : v2.heap.size ≠ v3.heap.size := Nat.ne_of_lt k2
                have k2m : v3.heap.size ≠ v2.heap.size := (Nat.ne_of_lt k2).symm
                have k2p : v2.heap.size < v3.heap.size + 1 := Nat.lt_succ_of_lt k2
                obtain ⟨hc, hf, hz⟩ := bcell hg3
                go_wp2_with fail
                clear hc hf hz
                refine (HWq.out _ (hgw.tr (hg3.tr (Gr.alloc _ _)))).mono ?_
                rintro e v4 ⟨rfl, hb4⟩
                have gg4 : Gr _ _ := (Gr.alloc _ _).tr hb4
                have hg4 := Gr.tr hg3 gg4
                have y2_0 := ((bcell gg4).1 v2.heap.size 0 k2).trans y2_0
                have y2_1 := ((bcell gg4).1 v2.heap.size 1 k2).trans y2_1
                replace k2 : v2.heap.size < v4.heap.size := Nat.lt_of_lt_of_le k2 gg4.size
                have k2n : v2.heap.size ≠ v4.heap.size := Nat.ne_of_lt k2
                have k2m : v4.heap.size ≠ v2.heap.size := (Nat.ne_of_lt k2).symm
                have k2p : v2.heap.size < v4.heap.size + 1 := Nat.lt_succ_of_lt k2
                have y3_0 := ((bcell hb4).1 v3.heap.size 0 (by simp)).trans (show _ = some (.int .i64 d1) by simp)
                have y3_1 := ((bcell hb4).1 v3.heap.size 1 (by simp)).trans (show _ = some (.int .i64 d2) by simp)
                have k3 : v3.heap.size < v4.heap.size := Nat.lt_of_lt_of_le (by simp) hb4.size
                have k3n : v3.heap.size ≠ v4.heap.size := Nat.ne_of_lt k3
                have k3m : v4.heap.size ≠ v3.heap.size := (Nat.ne_of_lt k3).symm
                have k3p : v3.heap.size < v4.heap.size + 1 := Nat.lt_succ_of_lt k3
                obtain ⟨hc, hf, hz⟩ := bcell hg4
                go_wp2_with fail
                clear hc hf hz
                refine (HFq.out _ (hgw.tr hg4)).mono ?_
                rintro e v5 ⟨rfl, hb5⟩
                have gg5 : Gr _ _ := hb5
                have hg5 := Gr.tr hg4 gg5
                have y2_0 := ((bcell gg5).1 v2.heap.size 0 k2).trans y2_0
                have y2_1 := ((bcell gg5).1 v2.heap.size 1 k2).trans y2_1
                replace k2 : v2.heap.size < v5.heap.size := Nat.lt_of_lt_of_le k2 gg5.size
                have k2n : v2.heap.size ≠ v5.heap.size := Nat.ne_of_lt k2
                have k2m : v5.heap.size ≠ v2.heap.size := (Nat.ne_of_lt k2).symm
                have k2p : v2.heap.size < v5.heap.size + 1 := Nat.lt_succ_of_lt k2
                have y3_0 := ((bcell gg5).1 v3.heap.size 0 k3).trans y3_0
                have y3_1 := ((bcell gg5).1 v3.heap.size 1 k3).trans y3_1
                replace k3 : v3.heap.size < v5.heap.size := Nat.lt_of_lt_of_le k3 gg5.size
                have k3n : v3.heap.size ≠ v5.heap.size := Nat.ne_of_lt k3
                have k3m : v5.heap.size ≠ v3.heap.size := (Nat.ne_of_lt k3).symm
                have k3p : v3.heap.size < v5.heap.size + 1 := Nat.lt_succ_of_lt k3
                obtain ⟨hc, hf, hz⟩ := bcell hg5
                have hgF := HG2.out.tr (hgz.tr hg5)
                have zP0 := ((bcell hgF).1 bP 0 kP).trans HYP.out.1.1
                have zP1 := ((bcell hgF).1 bP 1 kP).trans HYP.out.1.2
                have zD0 := ((bcell hgF).1 bD 0 kD).trans HYP.out.2.1
                have zD1 := ((bcell hgF).1 bD 1 kD).trans HYP.out.2.2
                have hF5 := HFB.out.grow hgF
                have zF0 := hF5.cell (i := 0) rfl
                have zF1 := hF5.cell (i := 1) rfl
                have lP := Nat.lt_of_lt_of_le kP hgF.size
                have lD := Nat.lt_of_lt_of_le kD hgF.size
                have lF := hF5.lt
                have aP := Nat.ne_of_lt lP
                have aD := Nat.ne_of_lt lD
                have aF := Nat.ne_of_lt lF
                have cP := (Nat.ne_of_lt lP).symm
                have cD := (Nat.ne_of_lt lD).symm
                have cF := (Nat.ne_of_lt lF).symm
                clear hF5 CS
                go_wp2
                exact ⟨⟨2, by omega, by go_num, hgF.tr (Gr.alloc _ _)⟩, by simp [intOf]⟩
          · have hj3 : j = 2 := by omega
            subst hj3
            go_wp2_with fail
            refine (awake_any _).mono ?_
            rintro e v1 ⟨rfl, hb1⟩
            have hX := HWB.out.trans (Below.mono HGB.out (Nat.le_of_lt hle0))
            have hY := bgr hX hX.size (HG0.out.tr (HG2.out.tr hb1))
            go_wp2
            go_ret
            exact ⟨rfl, hY⟩
  · intro vs bs W hG hV hdj
    obtain ⟨e3, e2, -, e0, -⟩ := hV
    simp only [Nat.reduceSub, Nat.reduceEqDiff, if_false] at e0
    simp only [Nat.reduceSub, Nat.reduceEqDiff, if_false] at e2
    simp only [Nat.reduceSub, Nat.reduceEqDiff, if_false] at e3
    have hd23 := hdj 2 3 (by omega) (by omega) (by omega) (by omega) (by omega)
    clear hdj
    refine wpOp_two rfl rfl ?_
    simp only [layL, Nat.reduceEqDiff, if_false, if_true, Act.put, List.getElem?_toArray, List.getElem?_cons_succ, List.getElem?_cons_zero, Option.bind_some, List.setIfInBounds_toArray, List.set_cons_succ, List.set_cons_zero, List.drop_succ_cons, List.drop_zero]
    generalize vs 0 = v0 at *
    generalize vs 2 = v2 at *
    generalize vs 3 = v3 at *
    subst e0
    obtain ⟨hc, hf, hz⟩ := bcell hG
    obtain ⟨⟨bx, rfl, hx1, hx2, hBx⟩, hxn⟩ := e2
    obtain ⟨⟨bz, rfl, hz1, hz2, hBz⟩, hzn⟩ := e3
    have hne : ¬ bx = bz := by omega
    have hne' : ¬ bz = bx := by omega
    have hnx0 : w.heap.size + 1 < bx := by have := hg1.size; simp at this; omega
    have hnz0 : w.heap.size + 1 < bz := by have := hg1.size; simp at this; omega
    have C1 := hBx.facts
    have C2 := hBz.facts
    simp only [CellsFrom, Nat.zero_add, Nat.reduceAdd, and_true] at C1 C2
    have F1 := hBx.free
    have F2 := hBz.free
    have hgW : Gr ((w.alloc (.cells #[.int .i64 p.fl, .int .i64 p.fh, .int .i64 p.bl, .int .i64 p.bh, .int .i64 p.ti, .int .i64 p.ne, .int .i64 p.fa, .slice sp len cap] 26)).alloc (.cells #[.int .i16 by'] 62)) W := hg1.tr hG
    have P0 := (((Box.fresh w [.int .i64 p.fl, .int .i64 p.fh, .int .i64 p.bl, .int .i64 p.bh, .int .i64 p.ti, .int .i64 p.ne, .int .i64 p.fa, .slice sp len cap] 26).grow (Gr.alloc _ (.cells #[.int .i16 by'] 62))).grow hgW).facts
    simp only [CellsFrom, Nat.zero_add, Nat.reduceAdd, and_true] at P0
    have nx0 : ¬ w.heap.size = bx := by omega
    have nz0 : ¬ w.heap.size = bz := by omega
    have mx0 : ¬ bx = w.heap.size := by omega
    have mz0 : ¬ bz = w.heap.size := by omega
    have HBX := Lib.hid hBx
    have HBZ := Lib.hid hBz
    have HGW := Lib.hid hgW
    have HG1 := Lib.hid hG
    have hbxg : w1.heap.size ≤ bx := by omega
    have hbzg : w1.heap.size ≤ bz := by omega
    clear P1 hBx hBz hx1 hx2 hz1 hz2 hd23 hxn hzn hG hgW hc hf hz
    go_wp2_with fail
    have hx5 : Box ((((((((((((((((((W.setCell ⟨bx, 0, none⟩ (.int .i64 p.fl)).setCell ⟨bx, 1, none⟩ (.int .i64 p.fh)).setCell ⟨bx, 2, none⟩ (.int .i64 p.bl)).setCell ⟨bx, 3, none⟩ (.int .i64 p.bh)).setCell ⟨bx, 4, none⟩ (.int .i64 p.ti)).setCell ⟨bx, 5, none⟩ (.int .i64 p.ne)).setCell ⟨bx, 6, none⟩ (.int .i64 p.fa)).setCell ⟨bx, 7, none⟩ (.slice sp len cap)).setCell ⟨bz, 0, none⟩ (.int .i64 p.fl)).setCell ⟨bz, 1, none⟩ (.int .i64 p.fh)).setCell ⟨bz, 2, none⟩ (.int .i64 p.bl)).setCell ⟨bz, 3, none⟩ (.int .i64 p.bh)).setCell ⟨bz, 4, none⟩ (.int .i64 p.ti)).setCell ⟨bz, 5, none⟩ (.int .i64 p.ne)).setCell ⟨bz, 6, none⟩ (.int .i64 p.fa)).setCell ⟨bz, 7, none⟩ (.slice sp len cap)).setCell ⟨bx, 7, none⟩ (.slice none 0 0)).setCell ⟨bz, 7, none⟩ (.slice none 0 0)) bx [.int .i64 p.fl, .int .i64 p.fh, .int .i64 p.bl, .int .i64 p.bh, .int .i64 p.ti, .int .i64 p.ne, .int .i64 p.fa, .slice none 0 0] 26 := ((((((((((((((((((HBX.out.put 0 _).put 1 _).put 2 _).put 3 _).put 4 _).put 5 _).put 6 _).put 7 _).other hne _ _).other hne _ _).other hne _ _).other hne _ _).other hne _ _).other hne _ _).other hne _ _).other hne _ _).put 7 _).other hne _ _)
    have hz5 : Box ((((((((((((((((((W.setCell ⟨bx, 0, none⟩ (.int .i64 p.fl)).setCell ⟨bx, 1, none⟩ (.int .i64 p.fh)).setCell ⟨bx, 2, none⟩ (.int .i64 p.bl)).setCell ⟨bx, 3, none⟩ (.int .i64 p.bh)).setCell ⟨bx, 4, none⟩ (.int .i64 p.ti)).setCell ⟨bx, 5, none⟩ (.int .i64 p.ne)).setCell ⟨bx, 6, none⟩ (.int .i64 p.fa)).setCell ⟨bx, 7, none⟩ (.slice sp len cap)).setCell ⟨bz, 0, none⟩ (.int .i64 p.fl)).setCell ⟨bz, 1, none⟩ (.int .i64 p.fh)).setCell ⟨bz, 2, none⟩ (.int .i64 p.bl)).setCell ⟨bz, 3, none⟩ (.int .i64 p.bh)).setCell ⟨bz, 4, none⟩ (.int .i64 p.ti)).setCell ⟨bz, 5, none⟩ (.int .i64 p.ne)).setCell ⟨bz, 6, none⟩ (.int .i64 p.fa)).setCell ⟨bz, 7, none⟩ (.slice sp len cap)).setCell ⟨bx, 7, none⟩ (.slice none 0 0)).setCell ⟨bz, 7, none⟩ (.slice none 0 0)) bz [.int .i64 p.fl, .int .i64 p.fh, .int .i64 p.bl, .int .i64 p.bh, .int .i64 p.ti, .int .i64 p.ne, .int .i64 p.fa, .slice none 0 0] 26 := ((((((((((((((((((HBZ.out.other hne' _ _).other hne' _ _).other hne' _ _).other hne' _ _).other hne' _ _).other hne' _ _).other hne' _ _).other hne' _ _).put 0 _).put 1 _).put 2 _).put 3 _).put 4 _).put 5 _).put 6 _).put 7 _).other hne' _ _).put 7 _)
    have hw5 : Below w1.heap.size w1 ((((((((((((((((((W.setCell ⟨bx, 0, none⟩ (.int .i64 p.fl)).setCell ⟨bx, 1, none⟩ (.int .i64 p.fh)).setCell ⟨bx, 2, none⟩ (.int .i64 p.bl)).setCell ⟨bx, 3, none⟩ (.int .i64 p.bh)).setCell ⟨bx, 4, none⟩ (.int .i64 p.ti)).setCell ⟨bx, 5, none⟩ (.int .i64 p.ne)).setCell ⟨bx, 6, none⟩ (.int .i64 p.fa)).setCell ⟨bx, 7, none⟩ (.slice sp len cap)).setCell ⟨bz, 0, none⟩ (.int .i64 p.fl)).setCell ⟨bz, 1, none⟩ (.int .i64 p.fh)).setCell ⟨bz, 2, none⟩ (.int .i64 p.bl)).setCell ⟨bz, 3, none⟩ (.int .i64 p.bh)).setCell ⟨bz, 4, none⟩ (.int .i64 p.ti)).setCell ⟨bz, 5, none⟩ (.int .i64 p.ne)).setCell ⟨bz, 6, none⟩ (.int .i64 p.fa)).setCell ⟨bz, 7, none⟩ (.slice sp len cap)).setCell ⟨bx, 7, none⟩ (.slice none 0 0)).setCell ⟨bz, 7, none⟩ (.slice none 0 0)) := (((((((((((((((((((show Below w1.heap.size w1 W from HG1.out).setCell (by first | (simp; done) | (simp; omega) | omega) _).setCell (by first | (simp; done) | (simp; omega) | omega) _).setCell (by first | (simp; done) | (simp; omega) | omega) _).setCell (by first | (simp; done) | (simp; omega) | omega) _).setCell (by first | (simp; done) | (simp; omega) | omega) _).setCell (by first | (simp; done) | (simp; omega) | omega) _).setCell (by first | (simp; done) | (simp; omega) | omega) _).setCell (by first | (simp; done) | (simp; omega) | omega) _).setCell (by first | (simp; done) | (simp; omega) | omega) _).setCell (by first | (simp; done) | (simp; omega) | omega) _).setCell (by first | (simp; done) | (simp; omega) | omega) _).setCell (by first | (simp; done) | (simp; omega) | omega) _).setCell (by first | (simp; done) | (simp; omega) | omega) _).setCell (by first | (simp; done) | (simp; omega) | omega) _).setCell (by first | (simp; done) | (simp; omega) | omega) _).setCell (by first | (simp; done) | (simp; omega) | omega) _).setCell (by first | (simp; done) | (simp; omega) | omega) _).setCell (by first | (simp; done) | (simp; omega) | omega) _)
    have hs5 : ((((((((((((((((((W.setCell ⟨bx, 0, none⟩ (.int .i64 p.fl)).setCell ⟨bx, 1, none⟩ (.int .i64 p.fh)).setCell ⟨bx, 2, none⟩ (.int .i64 p.bl)).setCell ⟨bx, 3, none⟩ (.int .i64 p.bh)).setCell ⟨bx, 4, none⟩ (.int .i64 p.ti)).setCell ⟨bx, 5, none⟩ (.int .i64 p.ne)).setCell ⟨bx, 6, none⟩ (.int .i64 p.fa)).setCell ⟨bx, 7, none⟩ (.slice sp len cap)).setCell ⟨bz, 0, none⟩ (.int .i64 p.fl)).setCell ⟨bz, 1, none⟩ (.int .i64 p.fh)).setCell ⟨bz, 2, none⟩ (.int .i64 p.bl)).setCell ⟨bz, 3, none⟩ (.int .i64 p.bh)).setCell ⟨bz, 4, none⟩ (.int .i64 p.ti)).setCell ⟨bz, 5, none⟩ (.int .i64 p.ne)).setCell ⟨bz, 6, none⟩ (.int .i64 p.fa)).setCell ⟨bz, 7, none⟩ (.slice sp len cap)).setCell ⟨bx, 7, none⟩ (.slice none 0 0)).setCell ⟨bz, 7, none⟩ (.slice none 0 0)).heap.size = W.heap.size := by simp
    have hbxl := HBX.out.lt
    have hbzl := HBZ.out.lt
    generalize ((((((((((((((((((W.setCell ⟨bx, 0, none⟩ (.int .i64 p.fl)).setCell ⟨bx, 1, none⟩ (.int .i64 p.fh)).setCell ⟨bx, 2, none⟩ (.int .i64 p.bl)).setCell ⟨bx, 3, none⟩ (.int .i64 p.bh)).setCell ⟨bx, 4, none⟩ (.int .i64 p.ti)).setCell ⟨bx, 5, none⟩ (.int .i64 p.ne)).setCell ⟨bx, 6, none⟩ (.int .i64 p.fa)).setCell ⟨bx, 7, none⟩ (.slice sp len cap)).setCell ⟨bz, 0, none⟩ (.int .i64 p.fl)).setCell ⟨bz, 1, none⟩ (.int .i64 p.fh)).setCell ⟨bz, 2, none⟩ (.int .i64 p.bl)).setCell ⟨bz, 3, none⟩ (.int .i64 p.bh)).setCell ⟨bz, 4, none⟩ (.int .i64 p.ti)).setCell ⟨bz, 5, none⟩ (.int .i64 p.ne)).setCell ⟨bz, 6, none⟩ (.int .i64 p.fa)).setCell ⟨bz, 7, none⟩ (.slice sp len cap)).setCell ⟨bx, 7, none⟩ (.slice none 0 0)).setCell ⟨bz, 7, none⟩ (.slice none 0 0)) = W5 at *
    have ht1 := TH.out w1 hg1
    have hq1 : Box w1 (w.heap.size + 1) [.int .i16 by'] 62 := by
      have := (Box.fresh (w.alloc (.cells #[.int .i64 p.fl, .int .i64 p.fh, .int .i64 p.bl, .int .i64 p.bh, .int .i64 p.ti, .int .i64 p.ne, .int .i64 p.fa, .slice sp len cap] 26)) [.int .i16 by'] 62).grow hg1
      simpa using this
    have hp1 : Box w1 w.heap.size [.int .i64 p.fl, .int .i64 p.fh, .int .i64 p.bl, .int .i64 p.bh, .int .i64 p.ti, .int .i64 p.ne, .int .i64 p.fa, .slice sp len cap] 26 := ((Box.fresh w [.int .i64 p.fl, .int .i64 p.fh, .int .i64 p.bl, .int .i64 p.bh, .int .i64 p.ti, .int .i64 p.ne, .int .i64 p.fa, .slice sp len cap] 26).grow (Gr.alloc _ (.cells #[.int .i16 by'] 62))).grow hg1
    have hwb : Below w.heap.size w w1 := (((Gr.alloc _ _).tr (Gr.alloc _ _)).tr hg1 : Gr w w1)
    have hw1 : w.heap.size + 1 < w1.heap.size := hq1.lt
    rw [← hs5] at hbxl hbzl
    have HX5 := Lib.hid hx5
    have HZ5 := Lib.hid hz5
    have HW5 := Lib.hid hw5
    have HT1 := Lib.hid ht1
    have HQ1 := Lib.hid hq1
    have HP1 := Lib.hid hp1
    have HWB := Lib.hid hwb
    clear hx5 hz5 hw5 hs5 HBX HBZ HGW HG1 C1 C2 F1 F2 P0 ht1 hq1 hp1 hwb TH hg1 hg0 mx0 mz0 nx0 nz0
    have HB1S := Lib.hid (Nat.le_refl W5.heap.size)
    generalize hB1 : W5.heap.size = B1 at *
    have HB1 := Lib.hid hB1
    clear hB1
    go_loopw [51] (fun i wr => ∃ k : Nat, k ≤ len ∧ i = .int .i64 k ∧ Below w1.heap.size w1 wr ∧ B1 ≤ wr.heap.size ∧ ∃ xv yv, Box wr bx [.int .i64 p.fl, .int .i64 p.fh, .int .i64 p.bl, .int .i64 p.bh, .int .i64 p.ti, .int .i64 p.ne, .int .i64 p.fa, xv] 26 ∧ Box wr bz [.int .i64 p.fl, .int .i64 p.fh, .int .i64 p.bl, .int .i64 p.bh, .int .i64 p.ti, .int .i64 p.ne, .int .i64 p.fa, yv] 26 ∧ wr.ownsRow B1 47 9 xv k (((p.l.take k).map Th.back).flatMap Th.vals) ∧ wr.ownsRow B1 47 9 yv k (((p.l.take k).map (Th.on by')).flatMap Th.vals) ∧ ∀ q, xv.ownBlock = some q → yv.ownBlock ≠ some q) (fun i _ => len - (intOf i).toNat)
    case atStart => exact ⟨0, Nat.zero_le _, rfl, HW5.out, by rw [HB1.out]; exact Nat.le_refl _, _, _, HX5.out, HZ5.out, World.ownsRow_nil _ _ _ _, World.ownsRow_nil _ _ _ _, fun q h => by cases h⟩
    case round =>
      obtain ⟨k, hk, rfl, hg, hgs, xv, yv, hbx, hbz, hox, hoy, hdj⟩ := hrel
      obtain ⟨xp, xn, xc, rfl⟩ := own_slice hox
      obtain ⟨yp, yn, yc, rfl⟩ := own_slice hoy
      have HG := Lib.hid hg
      have HKX := Lib.hid hbx
      have HKZ := Lib.hid hbz
      have HOX := Lib.hid hox
      have HOY := Lib.hid hoy
      have HDJ := Lib.hid hdj
      have hth := ThingsAt.below HT1.out rfl HG.out
      clear hg hbx hbz hox hoy hdj
      by_cases hlt : k < len
      · obtain ⟨t, htk⟩ : ∃ t, p.l[k]? = some t := ⟨p.l[k]'(by rw [HLEN.out]; exact hlt), List.getElem?_eq_getElem _⟩
        obtain ⟨-, hth⟩ := hth
        rcases hth with ⟨e, -⟩ | ⟨b, o, cap', hsp, hb, hc⟩
        · rw [e] at htk; cases htk
        have X := CellsFrom.nine (hc k t htk)
        obtain ⟨hsp1, -, -⟩ : sp = some ⟨b, o, none⟩ ∧ len = p.l.length ∧ cap = cap' := by simpa using hsp
        subst hsp1
        clear hc hsp
        have htl : p.l.take (k + 1) = p.l.take k ++ [t] := by rw [List.take_add_one, htk]; rfl
        have HTL := Lib.hid htl
        obtain ⟨⟨ba0, ba1⟩, ⟨bb0, bb1⟩, ⟨bc0, bc1⟩, ⟨bd0, bd1⟩, ⟨be0, be1⟩, ⟨bf0, bf1⟩, ⟨bg0, bg1⟩, ⟨bh0, bh1⟩⟩ := (HBD.out.things t (List.mem_of_getElem? htk)).1
        clear htk htl
        obtain ⟨xa, xb, xcc, xd, xe, xf, xg, xh, xz⟩ := t
        simp only at X ba0 ba1 bb0 bb1 bc0 bc1 bd0 bd1 be0 be1 bf0 bf1 bg0 bg1 bh0 bh1
        go_wp2_with fail
        have g6 : Gr wr (wr.alloc (.cells #[.int .i64 xa, .int .i64 xb, .int .i64 xcc, .int .i64 xd, .int .i64 xe, .int .i64 xf, .int .i64 xg, .int .i64 xh, .int .i64 xz] 47)) := Gr.alloc _ _
        have ht6 : Box (wr.alloc (.cells #[.int .i64 xa, .int .i64 xb, .int .i64 xcc, .int .i64 xd, .int .i64 xe, .int .i64 xf, .int .i64 xg, .int .i64 xh, .int .i64 xz] 47)) wr.heap.size [.int .i64 xa, .int .i64 xb, .int .i64 xcc, .int .i64 xd, .int .i64 xe, .int .i64 xf, .int .i64 xg, .int .i64 xh, .int .i64 xz] 47 := Box.fresh wr _ _
        have hx6 := HKX.out.grow g6
        have hz6 := HKZ.out.grow g6
        have hox6 := own_gr HOX.out g6
        have hoy6 := own_gr HOY.out g6
        have hw6 : Below w1.heap.size w1 (wr.alloc (.cells #[.int .i64 xa, .int .i64 xb, .int .i64 xcc, .int .i64 xd, .int .i64 xe, .int .i64 xf, .int .i64 xg, .int .i64 xh, .int .i64 xz] 47)) := bgr HG.out HG.out.size g6
        have hs6 : wr.heap.size < (wr.alloc (.cells #[.int .i64 xa, .int .i64 xb, .int .i64 xcc, .int .i64 xd, .int .i64 xe, .int .i64 xf, .int .i64 xg, .int .i64 xh, .int .i64 xz] 47)).heap.size := by simp
        have HRX := Lib.hid (fun q hq => HOX.out.lt q hq)
        have HRY := Lib.hid (fun q hq => HOY.out.lt q hq)
        clear X g6 HKX HKZ HOX HOY HG
        generalize (wr.alloc (.cells #[.int .i64 xa, .int .i64 xb, .int .i64 xcc, .int .i64 xd, .int .i64 xe, .int .i64 xf, .int .i64 xg, .int .i64 xh, .int .i64 xz] 47)) = W6 at *
        generalize wr.heap.size = bt at *
        have C3 := hx6.facts
        have CT := ht6.facts
        simp only [CellsFrom, Nat.zero_add, Nat.reduceAdd, and_true] at C3 CT
        have HT6 := Lib.hid ht6
        have HX6 := Lib.hid hx6
        have HZ6 := Lib.hid hz6
        have HOX6 := Lib.hid hox6
        have HOY6 := Lib.hid hoy6
        have HW6 := Lib.hid hw6
        clear ht6 hx6 hz6 hox6 hoy6 hw6
        have HBK := Lib.hid back_any
        refine region2 28 ?_ ?_ ?_
        · kernel_rfl
        · kernel_rfl
        simp only [List.take_succ_cons, List.take_zero, List.drop_succ_cons, List.drop_zero]
        apply chain_eq (D := [(9, none)]) rfl (by kernel_rfl)
        · intro ρ W ⟨p1, p2, p3⟩ hG hF K hK; (try simp [FactsD] at hF); have ⟨hc, hf, hz⟩ := bcell (Gr.tr (Gr.drew _) hG); go_simp; exact hK _ (gives_val)
        apply chain_eq (D := [(55, some 0)]) rfl (by kernel_rfl)
        · intro ρ W ⟨p1, p2, p3⟩ hG hF K hK; (try simp [FactsD] at hF); have ⟨hc, hf, hz⟩ := bcell (Gr.tr (Gr.drew _) hG); go_simp; exact hK _ (gives_val)
        apply chain_eq (D := [(7, none)]) rfl (by kernel_rfl)
        · intro ρ W ⟨p1, p2, p3⟩ hG hF K hK; (try simp [FactsD] at hF); have ⟨hc, hf, hz⟩ := bcell (Gr.tr (Gr.drew _) hG); go_simp; exact hK _ (gives_val)
        apply chain_eq (D := [(12, none)]) rfl (by kernel_rfl)
        · intro ρ W ⟨p1, p2, p3⟩ hG hF K hK; (try simp [FactsD] at hF); have ⟨hc, hf, hz⟩ := bcell (Gr.tr (Gr.drew _) hG); go_simp; exact hK _ (gives_val)
        apply chain_eq (D := [(58, some 0)]) rfl (by kernel_rfl)
        · intro ρ W ⟨p1, p2, p3⟩ hG hF K hK; (try simp [FactsD] at hF); have ⟨hc, hf, hz⟩ := bcell (Gr.tr (Gr.drew _) hG); go_simp; exact hK _ (gives_val)
        apply chain_eq (D := [(59, some 0)]) rfl (by kernel_rfl)
        · intro ρ W ⟨p1, p2, p3⟩ hG hF K hK; (try simp [FactsD] at hF); have ⟨hc, hf, hz⟩ := bcell (Gr.tr (Gr.drew _) hG); go_simp; exact hK _ (gives_val)
        apply chain_eq (D := [(57, some 3), (60, some 0)]) rfl (by kernel_rfl)
        · intro ρ W ⟨p1, p2, p3⟩ hG hF K hK; (try simp [FactsD] at hF); have ⟨hc, hf, hz⟩ := bcell (Gr.tr (Gr.drew _) hG); go_simp; exact hK _ (gives_call (HBK.out xe xf _ be0 be1 bf0 bf1))
        apply chain_eq (D := [(7, none)]) rfl (by kernel_rfl)
        · intro ρ W ⟨p1, p2, p3⟩ hG hF K hK; (try simp [FactsD] at hF); have ⟨hc, hf, hz⟩ := bcell (Gr.tr (Gr.drew _) hG); go_simp; exact hK _ (gives_val)
        apply chain_eq (D := [(12, none)]) rfl (by kernel_rfl)
        · intro ρ W ⟨p1, p2, p3⟩ hG hF K hK; (try simp [FactsD] at hF); have ⟨hc, hf, hz⟩ := bcell (Gr.tr (Gr.drew _) hG); go_simp; exact hK _ (gives_val)
        apply chain_eq (D := [(63, some 0)]) rfl (by kernel_rfl)
        · intro ρ W ⟨p1, p2, p3⟩ hG hF K hK; (try simp [FactsD] at hF); have ⟨hc, hf, hz⟩ := bcell (Gr.tr (Gr.drew _) hG); go_simp; exact hK _ (gives_val)
        apply chain_eq (D := [(64, some 0)]) rfl (by kernel_rfl)
        · intro ρ W ⟨p1, p2, p3⟩ hG hF K hK; (try simp [FactsD] at hF); have ⟨hc, hf, hz⟩ := bcell (Gr.tr (Gr.drew _) hG); go_simp; exact hK _ (gives_val)
        apply chain_eq (D := [(62, some 3), (65, some 0)]) rfl (by kernel_rfl)
        · intro ρ W ⟨p1, p2, p3⟩ hG hF K hK; (try simp [FactsD] at hF); have ⟨hc, hf, hz⟩ := bcell (Gr.tr (Gr.drew _) hG); go_simp; exact hK _ (gives_call (HBK.out xg xh _ bg0 bg1 bh0 bh1))
        apply chain_eq (D := [(61, some 5), (66, some 0)]) rfl (by kernel_rfl)
        · intro ρ W ⟨p1, p2, p3⟩ hG hF K hK; (try simp [FactsD] at hF); have ⟨hc, hf, hz⟩ := bcell (Gr.tr (Gr.drew _) hG); go_simp; exact hK _ (gives_val)
        apply chain_eq (D := [(7, none)]) rfl (by kernel_rfl)
        · intro ρ W ⟨p1, p2, p3⟩ hG hF K hK; (try simp [FactsD] at hF); have ⟨hc, hf, hz⟩ := bcell (Gr.tr (Gr.drew _) hG); go_simp; exact hK _ (gives_val)
        apply chain_eq (D := [(12, none)]) rfl (by kernel_rfl)
        · intro ρ W ⟨p1, p2, p3⟩ hG hF K hK; (try simp [FactsD] at hF); have ⟨hc, hf, hz⟩ := bcell (Gr.tr (Gr.drew _) hG); go_simp; exact hK _ (gives_val)
        apply chain_eq (D := [(69, some 0)]) rfl (by kernel_rfl)
        · intro ρ W ⟨p1, p2, p3⟩ hG hF K hK; (try simp [FactsD] at hF); have ⟨hc, hf, hz⟩ := bcell (Gr.tr (Gr.drew _) hG); go_simp; exact hK _ (gives_val)
        apply chain_eq (D := [(70, some 0)]) rfl (by kernel_rfl)
        · intro ρ W ⟨p1, p2, p3⟩ hG hF K hK; (try simp [FactsD] at hF); have ⟨hc, hf, hz⟩ := bcell (Gr.tr (Gr.drew _) hG); go_simp; exact hK _ (gives_val)
        apply chain_eq (D := [(68, some 3), (71, some 0)]) rfl (by kernel_rfl)
        · intro ρ W ⟨p1, p2, p3⟩ hG hF K hK; (try simp [FactsD] at hF); have ⟨hc, hf, hz⟩ := bcell (Gr.tr (Gr.drew _) hG); go_simp; exact hK _ (gives_call (HBK.out xa xb _ ba0 ba1 bb0 bb1))
        apply chain_eq (D := [(7, none)]) rfl (by kernel_rfl)
        · intro ρ W ⟨p1, p2, p3⟩ hG hF K hK; (try simp [FactsD] at hF); have ⟨hc, hf, hz⟩ := bcell (Gr.tr (Gr.drew _) hG); go_simp; exact hK _ (gives_val)
        apply chain_eq (D := [(12, none)]) rfl (by kernel_rfl)
        · intro ρ W ⟨p1, p2, p3⟩ hG hF K hK; (try simp [FactsD] at hF); have ⟨hc, hf, hz⟩ := bcell (Gr.tr (Gr.drew _) hG); go_simp; exact hK _ (gives_val)
        apply chain_eq (D := [(74, some 0)]) rfl (by kernel_rfl)
        · intro ρ W ⟨p1, p2, p3⟩ hG hF K hK; (try simp [FactsD] at hF); have ⟨hc, hf, hz⟩ := bcell (Gr.tr (Gr.drew _) hG); go_simp; exact hK _ (gives_val)
        apply chain_eq (D := [(75, some 0)]) rfl (by kernel_rfl)
        · intro ρ W ⟨p1, p2, p3⟩ hG hF K hK; (try simp [FactsD] at hF); have ⟨hc, hf, hz⟩ := bcell (Gr.tr (Gr.drew _) hG); go_simp; exact hK _ (gives_val)
        apply chain_eq (D := [(73, some 3), (76, some 0)]) rfl (by kernel_rfl)
        · intro ρ W ⟨p1, p2, p3⟩ hG hF K hK; (try simp [FactsD] at hF); have ⟨hc, hf, hz⟩ := bcell (Gr.tr (Gr.drew _) hG); go_simp; exact hK _ (gives_call (HBK.out xcc xd _ bc0 bc1 bd0 bd1))
        apply chain_eq (D := [(72, some 5), (77, some 0)]) rfl (by kernel_rfl)
        · intro ρ W ⟨p1, p2, p3⟩ hG hF K hK; (try simp [FactsD] at hF); have ⟨hc, hf, hz⟩ := bcell (Gr.tr (Gr.drew _) hG); go_simp; exact hK _ (gives_val)
        apply chain_eq (D := [(12, none)]) rfl (by kernel_rfl)
        · intro ρ W ⟨p1, p2, p3⟩ hG hF K hK; (try simp [FactsD] at hF); have ⟨hc, hf, hz⟩ := bcell (Gr.tr (Gr.drew _) hG); go_simp; exact hK _ (gives_val)
        apply chain_eq (D := [(79, some 0)]) rfl (by kernel_rfl)
        · intro ρ W ⟨p1, p2, p3⟩ hG hF K hK; (try simp [FactsD] at hF); have ⟨hc, hf, hz⟩ := bcell (Gr.tr (Gr.drew _) hG); go_simp; exact hK _ (gives_val)
        apply chain_eq (D := [(67, some 13), (78, some 2), (80, some 0)]) rfl (by kernel_rfl)
        · intro ρ W ⟨p1, p2, p3⟩ hG hF K hK; (try simp [FactsD] at hF); have ⟨hc, hf, hz⟩ := bcell (Gr.tr (Gr.drew _) hG); go_simp; exact hK _ (gives_val)
        refine chain_any (V := OneAt [.int .i64 (-xf), .int .i64 (-xe), .int .i64 (-xh), .int .i64 (-xg), .int .i64 (-xb), .int .i64 (-xa), .int .i64 (-xd), .int .i64 (-xcc), .int .i64 xz] 47) (D := [(81, some 0)]) rfl (by kernel_rfl) (OneAt.lasts _ _) ?_ ?_
        · intro ρ W ⟨p1, p2, p3⟩ hG hF K hK; (try simp [FactsD] at hF); have ⟨hc, hf, hz⟩ := bcell (Gr.tr (Gr.drew _) hG); go_simp; exact hK _ (⟨OneAt.new _ _ _, Gr.alloc _ _⟩)
        refine chain_done ?_
        intro vs W hG hV
        obtain ⟨e27, -, -, -, -, -, -, -, -, -, -, -, -, -, -, -, -, -, -, -, -, -, -, -, -, -, e1, -⟩ := hV
        simp only [Nat.reduceSub] at e1
        simp only [Nat.reduceSub] at e27
        set_option maxRecDepth 100000 in
        simp only [lay, Act.put, List.getElem?_toArray, List.getElem?_cons_succ, List.getElem?_cons_zero, Option.bind_some, List.setIfInBounds_toArray, List.set_cons_succ, List.set_cons_zero]
        generalize vs 0 = v0
        generalize vs 1 = v1 at *
        generalize vs 2 = v2
        generalize vs 3 = v3
        generalize vs 4 = v4
        generalize vs 5 = v5
        generalize vs 6 = v6
        generalize vs 7 = v7
        generalize vs 8 = v8
        generalize vs 9 = v9
        generalize vs 10 = v10
        generalize vs 11 = v11
        generalize vs 12 = v12
        generalize vs 13 = v13
        generalize vs 14 = v14
        generalize vs 15 = v15
        generalize vs 16 = v16
        generalize vs 17 = v17
        generalize vs 18 = v18
        generalize vs 19 = v19
        generalize vs 20 = v20
        generalize vs 21 = v21
        generalize vs 22 = v22
        generalize vs 23 = v23
        generalize vs 24 = v24
        generalize vs 25 = v25
        generalize vs 26 = v26
        generalize vs 27 = v27 at *
        subst e1
        obtain ⟨hc, hf, hz⟩ := bcell hG
        obtain ⟨bn, rfl, hbn⟩ := e27
        have HBN := Lib.hid hbn
        have HG7 := Lib.hid hG
        have HOX7 := Lib.hid (own_gr HOX6.out hG)
        have HOY7 := Lib.hid (own_gr HOY6.out hG)
        have HX7 := Lib.hid (HX6.out.grow hG)
        have HZ7 := Lib.hid (HZ6.out.grow hG)
        have HT7 := Lib.hid (HT6.out.grow hG)
        have hsz7 : W6.heap.size ≤ W.heap.size := hG.size
        have HW7 := Lib.hid (bgr HW6.out HW6.out.size hG)
        clear hc hf hz hG hbn C3 CT HX6 HZ6 HT6 HOX6 HOY6 HW6
        go_wp2_with (at_builtin; refine wpList_append_lies _ rfl _ _ 24 rfl B1 47 i0 _ 9 72 Try.underlying24 II0.out IZ0.out IZ1.out IZ2.out rfl (by decide) _ _ _ rfl HOX7.out ⟨bn, 0, none⟩ 1 1 [.int .i64 (-xf), .int .i64 (-xe), .int .i64 (-xh), .int .i64 (-xg), .int .i64 (-xb), .int .i64 (-xa), .int .i64 (-xd), .int .i64 (-xcc), .int .i64 xz] rfl rfl ?c1 ?c2 ?c3 ?c4 ?c5 ?c6 _ rfl ?_)
        case c1 => exact World.news_of_block (cs := #[.int .i64 (-xf), .int .i64 (-xe), .int .i64 (-xh), .int .i64 (-xg), .int .i64 (-xb), .int .i64 (-xa), .int .i64 (-xd), .int .i64 (-xcc), .int .i64 xz]) (t := 47) (fr := (0, 0)) HBN.out
        case c2 => simp [Value.oneCell']
        case c3 => omega
        case c4 => unfold maxLen; omega
        case c5 => omega
        case c6 => omega
        intro g capx w3 hown3 hgrow3 hat3 hlt3
        have nbx : some bx ≠ (Value.slice xp xn xc).ownBlock := fun h => by have := (HRX.out bx h.symm).1; omega
        have nbz : some bz ≠ (Value.slice xp xn xc).ownBlock := fun h => by have := (HRX.out bz h.symm).1; omega
        have nbt : some bt ≠ (Value.slice xp xn xc).ownBlock := fun h => by have := (HRX.out bt h.symm).2; omega
        have hsz3 : W.heap.size ≤ w3.heap.size := hgrow3.size
        have hx3 := HX7.out.grown hgrow3 nbx
        have hx8 := hx3.put 7 (.slice (some ⟨g, 0, none⟩) (k + 1) capx)
        have hz8 := (HZ7.out.grown hgrow3 nbz).other hne' 7 (.slice (some ⟨g, 0, none⟩) (k + 1) capx)
        have ht8 := (HT7.out.grown hgrow3 nbt).other (show bt ≠ bx by omega) 7 (.slice (some ⟨g, 0, none⟩) (k + 1) capx)
        have hox8 := ownsRow_setCell_below hown3 (a := ⟨bx, 7, none⟩) (show bx < B1 by omega) (.slice (some ⟨g, 0, none⟩) (k + 1) capx)
        have hoyk : (Value.slice yp yn yc).ownBlock = none ∨ (Value.slice yp yn yc).ownBlock ≠ (Value.slice xp xn xc).ownBlock := by
          cases hy : (Value.slice yp yn yc).ownBlock with
          | none => exact .inl rfl
          | some q => exact .inr fun h => HDJ.out q h.symm hy
        have hoy8 := ownsRow_setCell_below (HOY7.out.kept hgrow3 hoyk) (a := ⟨bx, 7, none⟩) (show bx < B1 by omega) (.slice (some ⟨g, 0, none⟩) (k + 1) capx)
        have hw8 : Below w1.heap.size w1 (w3.setCell ⟨bx, 7, none⟩ (.slice (some ⟨g, 0, none⟩) (k + 1) capx)) := (HW7.out.grown hgrow3 HW7.out.size (fun q e => by have := (HRX.out q e).1; omega)).setCell (show w1.heap.size ≤ bx by omega) _
        have hdj8 : (Value.slice yp yn yc).ownBlock ≠ some g := fun h => by
          rcases hat3 with h3 | h3
          · exact HDJ.out g h3 h
          · have := (HRY.out g h).2; omega
        have x7 := hx3.cell (i := 7) rfl
        have f7 := hx3.free 7
        have HX8 := Lib.hid hx8
        have HZ8 := Lib.hid hz8
        have HT8 := Lib.hid ht8
        have HOX8 := Lib.hid hox8
        have HOY8 := Lib.hid hoy8
        have HW8 := Lib.hid hw8
        have HDJ8 := Lib.hid hdj8
        have hs8 : w3.heap.size ≤ (w3.setCell ⟨bx, 7, none⟩ (.slice (some ⟨g, 0, none⟩) (k + 1) capx)).heap.size := by simp
        clear hx3 hx8 hz8 ht8 hox8 hoy8 hw8 hdj8 hoyk nbx nbz nbt hown3 hgrow3 hat3 HX7 HZ7 HT7 HOX7 HOY7 HW7 HG7 HBN
        go_wp2_with fail
        clear x7 f7
        have hq8 : (w3.setCell ⟨bx, 7, none⟩ (.slice (some ⟨g, 0, none⟩) (k + 1) capx)).cell? ⟨w.heap.size + 1, 0, none⟩ = some (.int .i16 by') := (HQ1.out.below HW8.out hw1).cell (i := 0) rfl
        have hql8 : w.heap.size + 1 < (w3.setCell ⟨bx, 7, none⟩ (.slice (some ⟨g, 0, none⟩) (k + 1) capx)).heap.size := Nat.lt_of_lt_of_le hw1 HW8.out.size
        generalize (w3.setCell ⟨bx, 7, none⟩ (.slice (some ⟨g, 0, none⟩) (k + 1) capx)) = W8 at *
        have HON := Lib.hid (fun (lo hi : Int) (W : World) (hg : Gr W8 W) (h0 : -4000 ≤ lo) (h1 : lo ≤ 4000) (h2 : -4000 ≤ hi) (h3 : hi ≤ 4000) => on_any lo hi by' (w.heap.size + 1) W h0 h1 h2 h3 by0 by1 (((bcell hg).1 _ _ hql8).trans hq8) (Nat.lt_of_lt_of_le hql8 hg.size))
        have C4 := HZ8.out.facts
        have CT := HT8.out.facts
        simp only [CellsFrom, Nat.zero_add, Nat.reduceAdd, and_true] at C4 CT
        refine region2 24 ?_ ?_ ?_
        · kernel_rfl
        · kernel_rfl
        simp only [List.take_succ_cons, List.take_zero, List.drop_succ_cons, List.drop_zero]
        apply chain_eq (D := [(10, none)]) rfl (by kernel_rfl)
        · intro ρ W ⟨p1, p2, p3⟩ hG hF K hK; (try simp [FactsD] at hF); have ⟨hc, hf, hz⟩ := bcell (Gr.tr (Gr.drew _) hG); go_simp; exact hK _ (gives_val)
        apply chain_eq (D := [(85, some 0)]) rfl (by kernel_rfl)
        · intro ρ W ⟨p1, p2, p3⟩ hG hF K hK; (try simp [FactsD] at hF); have ⟨hc, hf, hz⟩ := bcell (Gr.tr (Gr.drew _) hG); go_simp; exact hK _ (gives_val)
        apply chain_eq (D := [(8, none)]) rfl (by kernel_rfl)
        · intro ρ W ⟨p1, p2, p3⟩ hG hF K hK; (try simp [FactsD] at hF); have ⟨hc, hf, hz⟩ := bcell (Gr.tr (Gr.drew _) hG); go_simp; exact hK _ (gives_val)
        apply chain_eq (D := [(12, none)]) rfl (by kernel_rfl)
        · intro ρ W ⟨p1, p2, p3⟩ hG hF K hK; (try simp [FactsD] at hF); have ⟨hc, hf, hz⟩ := bcell (Gr.tr (Gr.drew _) hG); go_simp; exact hK _ (gives_val)
        apply chain_eq (D := [(88, some 0)]) rfl (by kernel_rfl)
        · intro ρ W ⟨p1, p2, p3⟩ hG hF K hK; (try simp [FactsD] at hF); have ⟨hc, hf, hz⟩ := bcell (Gr.tr (Gr.drew _) hG); go_simp; exact hK _ (gives_val)
        apply chain_eq (D := [(89, some 0)]) rfl (by kernel_rfl)
        · intro ρ W ⟨p1, p2, p3⟩ hG hF K hK; (try simp [FactsD] at hF); have ⟨hc, hf, hz⟩ := bcell (Gr.tr (Gr.drew _) hG); go_simp; exact hK _ (gives_val)
        apply chain_eq (D := [(87, some 3), (90, some 0)]) rfl (by kernel_rfl)
        · intro ρ W ⟨p1, p2, p3⟩ hG hF K hK; (try simp [FactsD] at hF); have ⟨hc, hf, hz⟩ := bcell (Gr.tr (Gr.drew _) hG); go_simp; exact hK _ (gives_call (HON.out xa xb _ ((Gr.drew _).tr hG) ba0 ba1 bb0 bb1))
        apply chain_eq (D := [(12, none)]) rfl (by kernel_rfl)
        · intro ρ W ⟨p1, p2, p3⟩ hG hF K hK; (try simp [FactsD] at hF); have ⟨hc, hf, hz⟩ := bcell (Gr.tr (Gr.drew _) hG); go_simp; exact hK _ (gives_val)
        apply chain_eq (D := [(92, some 0)]) rfl (by kernel_rfl)
        · intro ρ W ⟨p1, p2, p3⟩ hG hF K hK; (try simp [FactsD] at hF); have ⟨hc, hf, hz⟩ := bcell (Gr.tr (Gr.drew _) hG); go_simp; exact hK _ (gives_val)
        apply chain_eq (D := [(93, some 0)]) rfl (by kernel_rfl)
        · intro ρ W ⟨p1, p2, p3⟩ hG hF K hK; (try simp [FactsD] at hF); have ⟨hc, hf, hz⟩ := bcell (Gr.tr (Gr.drew _) hG); go_simp; exact hK _ (gives_val)
        apply chain_eq (D := [(91, some 3), (94, some 0)]) rfl (by kernel_rfl)
        · intro ρ W ⟨p1, p2, p3⟩ hG hF K hK; (try simp [FactsD] at hF); have ⟨hc, hf, hz⟩ := bcell (Gr.tr (Gr.drew _) hG); go_simp; exact hK _ (gives_val)
        apply chain_eq (D := [(8, none)]) rfl (by kernel_rfl)
        · intro ρ W ⟨p1, p2, p3⟩ hG hF K hK; (try simp [FactsD] at hF); have ⟨hc, hf, hz⟩ := bcell (Gr.tr (Gr.drew _) hG); go_simp; exact hK _ (gives_val)
        apply chain_eq (D := [(12, none)]) rfl (by kernel_rfl)
        · intro ρ W ⟨p1, p2, p3⟩ hG hF K hK; (try simp [FactsD] at hF); have ⟨hc, hf, hz⟩ := bcell (Gr.tr (Gr.drew _) hG); go_simp; exact hK _ (gives_val)
        apply chain_eq (D := [(97, some 0)]) rfl (by kernel_rfl)
        · intro ρ W ⟨p1, p2, p3⟩ hG hF K hK; (try simp [FactsD] at hF); have ⟨hc, hf, hz⟩ := bcell (Gr.tr (Gr.drew _) hG); go_simp; exact hK _ (gives_val)
        apply chain_eq (D := [(98, some 0)]) rfl (by kernel_rfl)
        · intro ρ W ⟨p1, p2, p3⟩ hG hF K hK; (try simp [FactsD] at hF); have ⟨hc, hf, hz⟩ := bcell (Gr.tr (Gr.drew _) hG); go_simp; exact hK _ (gives_val)
        apply chain_eq (D := [(96, some 3), (99, some 0)]) rfl (by kernel_rfl)
        · intro ρ W ⟨p1, p2, p3⟩ hG hF K hK; (try simp [FactsD] at hF); have ⟨hc, hf, hz⟩ := bcell (Gr.tr (Gr.drew _) hG); go_simp; exact hK _ (gives_call (HON.out xe xf _ ((Gr.drew _).tr hG) be0 be1 bf0 bf1))
        apply chain_eq (D := [(12, none)]) rfl (by kernel_rfl)
        · intro ρ W ⟨p1, p2, p3⟩ hG hF K hK; (try simp [FactsD] at hF); have ⟨hc, hf, hz⟩ := bcell (Gr.tr (Gr.drew _) hG); go_simp; exact hK _ (gives_val)
        apply chain_eq (D := [(101, some 0)]) rfl (by kernel_rfl)
        · intro ρ W ⟨p1, p2, p3⟩ hG hF K hK; (try simp [FactsD] at hF); have ⟨hc, hf, hz⟩ := bcell (Gr.tr (Gr.drew _) hG); go_simp; exact hK _ (gives_val)
        apply chain_eq (D := [(102, some 0)]) rfl (by kernel_rfl)
        · intro ρ W ⟨p1, p2, p3⟩ hG hF K hK; (try simp [FactsD] at hF); have ⟨hc, hf, hz⟩ := bcell (Gr.tr (Gr.drew _) hG); go_simp; exact hK _ (gives_val)
        apply chain_eq (D := [(100, some 3), (103, some 0)]) rfl (by kernel_rfl)
        · intro ρ W ⟨p1, p2, p3⟩ hG hF K hK; (try simp [FactsD] at hF); have ⟨hc, hf, hz⟩ := bcell (Gr.tr (Gr.drew _) hG); go_simp; exact hK _ (gives_val)
        apply chain_eq (D := [(12, none)]) rfl (by kernel_rfl)
        · intro ρ W ⟨p1, p2, p3⟩ hG hF K hK; (try simp [FactsD] at hF); have ⟨hc, hf, hz⟩ := bcell (Gr.tr (Gr.drew _) hG); go_simp; exact hK _ (gives_val)
        apply chain_eq (D := [(105, some 0)]) rfl (by kernel_rfl)
        · intro ρ W ⟨p1, p2, p3⟩ hG hF K hK; (try simp [FactsD] at hF); have ⟨hc, hf, hz⟩ := bcell (Gr.tr (Gr.drew _) hG); go_simp; exact hK _ (gives_val)
        apply chain_eq (D := [(95, some 11), (104, some 2), (106, some 0)]) rfl (by kernel_rfl)
        · intro ρ W ⟨p1, p2, p3⟩ hG hF K hK; (try simp [FactsD] at hF); have ⟨hc, hf, hz⟩ := bcell (Gr.tr (Gr.drew _) hG); go_simp; exact hK _ (gives_val)
        refine chain_any (V := OneAt [.int .i64 (xa + by'), .int .i64 (xb + by'), .int .i64 xcc, .int .i64 xd, .int .i64 (xe + by'), .int .i64 (xf + by'), .int .i64 xg, .int .i64 xh, .int .i64 xz] 47) (D := [(107, some 0)]) rfl (by kernel_rfl) (OneAt.lasts _ _) ?_ ?_
        · intro ρ W ⟨p1, p2, p3⟩ hG hF K hK; (try simp [FactsD] at hF); have ⟨hc, hf, hz⟩ := bcell (Gr.tr (Gr.drew _) hG); go_simp; exact hK _ (⟨OneAt.new _ _ _, Gr.alloc _ _⟩)
        refine chain_done ?_
        intro vs W hG hV
        obtain ⟨e23, -, -, -, -, -, -, -, -, -, -, -, -, -, -, -, -, -, -, -, -, -, e1, -⟩ := hV
        simp only [Nat.reduceSub] at e1
        simp only [Nat.reduceSub] at e23
        simp only [lay, Act.put, List.getElem?_toArray, List.getElem?_cons_succ, List.getElem?_cons_zero, Option.bind_some, List.setIfInBounds_toArray, List.set_cons_succ, List.set_cons_zero]
        generalize vs 0 = v0
        generalize vs 1 = v1 at *
        generalize vs 2 = v2
        generalize vs 3 = v3
        generalize vs 4 = v4
        generalize vs 5 = v5
        generalize vs 6 = v6
        generalize vs 7 = v7
        generalize vs 8 = v8
        generalize vs 9 = v9
        generalize vs 10 = v10
        generalize vs 11 = v11
        generalize vs 12 = v12
        generalize vs 13 = v13
        generalize vs 14 = v14
        generalize vs 15 = v15
        generalize vs 16 = v16
        generalize vs 17 = v17
        generalize vs 18 = v18
        generalize vs 19 = v19
        generalize vs 20 = v20
        generalize vs 21 = v21
        generalize vs 22 = v22
        generalize vs 23 = v23 at *
        subst e1
        obtain ⟨hc, hf, hz⟩ := bcell hG
        obtain ⟨bm, rfl, hbm⟩ := e23
        have HBM := Lib.hid hbm
        have HOX9 := Lib.hid (own_gr HOX8.out hG)
        have HOY9 := Lib.hid (own_gr HOY8.out hG)
        have HX9 := Lib.hid (HX8.out.grow hG)
        have HZ9 := Lib.hid (HZ8.out.grow hG)
        have hsz9 : W8.heap.size ≤ W.heap.size := hG.size
        have HW9 := Lib.hid (bgr HW8.out HW8.out.size hG)
        have hgl : g < W.heap.size := by omega
        clear hc hf hz hG hbm C4 CT HX8 HZ8 HT8 HOX8 HOY8 HW8 hq8 hql8 HON
        go_wp2_with (at_builtin; refine wpList_append_lies _ rfl _ _ 24 rfl B1 47 i0 _ 9 72 Try.underlying24 II0.out IZ0.out IZ1.out IZ2.out rfl (by decide) _ _ _ rfl HOY9.out ⟨bm, 0, none⟩ 1 1 [.int .i64 (xa + by'), .int .i64 (xb + by'), .int .i64 xcc, .int .i64 xd, .int .i64 (xe + by'), .int .i64 (xf + by'), .int .i64 xg, .int .i64 xh, .int .i64 xz] rfl rfl ?c1 ?c2 ?c3 ?c4 ?c5 ?c6 _ rfl ?_)
        case c1 => exact World.news_of_block (cs := #[.int .i64 (xa + by'), .int .i64 (xb + by'), .int .i64 xcc, .int .i64 xd, .int .i64 (xe + by'), .int .i64 (xf + by'), .int .i64 xg, .int .i64 xh, .int .i64 xz]) (t := 47) (fr := (0, 0)) HBM.out
        case c2 => simp [Value.oneCell']
        case c3 => omega
        case c4 => unfold maxLen; omega
        case c5 => omega
        case c6 => omega
        intro g' capy w4 hown4 hgrow4 hat4 hlt4
        have nbx : some bx ≠ (Value.slice yp yn yc).ownBlock := fun h => by have := (HRY.out bx h.symm).1; omega
        have nbz : some bz ≠ (Value.slice yp yn yc).ownBlock := fun h => by have := (HRY.out bz h.symm).1; omega
        have hsz4 : W.heap.size ≤ w4.heap.size := hgrow4.size
        have hz4 := HZ9.out.grown hgrow4 nbz
        have hz10 := hz4.put 7 (.slice (some ⟨g', 0, none⟩) (k + 1) capy)
        have hx10 := (HX9.out.grown hgrow4 nbx).other hne 7 (.slice (some ⟨g', 0, none⟩) (k + 1) capy)
        have hoy10 := ownsRow_setCell_below hown4 (a := ⟨bz, 7, none⟩) (show bz < B1 by omega) (.slice (some ⟨g', 0, none⟩) (k + 1) capy)
        have hoxk : (Value.slice (some ⟨g, 0, none⟩) (k + 1) capx).ownBlock = none ∨ (Value.slice (some ⟨g, 0, none⟩) (k + 1) capx).ownBlock ≠ (Value.slice yp yn yc).ownBlock := .inr fun h => HDJ8.out h.symm
        have hox10 := ownsRow_setCell_below (HOX9.out.kept hgrow4 hoxk) (a := ⟨bz, 7, none⟩) (show bz < B1 by omega) (.slice (some ⟨g', 0, none⟩) (k + 1) capy)
        have hw10 : Below w1.heap.size w1 (w4.setCell ⟨bz, 7, none⟩ (.slice (some ⟨g', 0, none⟩) (k + 1) capy)) := (HW9.out.grown hgrow4 HW9.out.size (fun q e => by have := (HRY.out q e).1; omega)).setCell (show w1.heap.size ≤ bz by omega) _
        have hdj10 : ∀ q, (Value.slice (some ⟨g, 0, none⟩) (k + 1) capx).ownBlock = some q → (Value.slice (some ⟨g', 0, none⟩) (k + 1) capy).ownBlock ≠ some q := fun q h1 h2 => by
          have e1 : g = q := by simpa [Value.ownBlock] using h1
          have e2 : g' = q := by simpa [Value.ownBlock] using h2
          rcases hat4 with h3 | h3
          · exact HDJ8.out (by rw [h3, e2, e1])
          · omega
        have x7 := hz4.cell (i := 7) rfl
        have f7 := hz4.free 7
        have HX10 := Lib.hid hx10
        have HZ10 := Lib.hid hz10
        have HOX10 := Lib.hid hox10
        have HOY10 := Lib.hid hoy10
        have HW10 := Lib.hid hw10
        have HDJ10 := Lib.hid hdj10
        clear hz4 hx10 hz10 hox10 hoy10 hw10 hdj10 hoxk nbx nbz hown4 hgrow4 hat4 HX9 HZ9 HOX9 HOY9 HW9 HBM
        go_wp2
        have exx : (((p.l.take (k + 1)).map Th.back).flatMap Th.vals) = List.flatMap Th.vals (List.take k (List.map Th.back p.l)) ++ [.int .i64 (-xf), .int .i64 (-xe), .int .i64 (-xh), .int .i64 (-xg), .int .i64 (-xb), .int .i64 (-xa), .int .i64 (-xd), .int .i64 (-xcc), .int .i64 xz] := by rw [HTL.out]; simp [Th.back, Th.vals, List.map_take]
        have eyy : (((p.l.take (k + 1)).map (Th.on by')).flatMap Th.vals) = List.flatMap Th.vals (List.take k (List.map (Th.on by') p.l)) ++ [.int .i64 (xa + by'), .int .i64 (xb + by'), .int .i64 xcc, .int .i64 xd, .int .i64 (xe + by'), .int .i64 (xf + by'), .int .i64 xg, .int .i64 xh, .int .i64 xz] := by rw [HTL.out]; simp [Th.on, Th.vals, List.map_take]
        exact ⟨⟨k + 1, by omega, by go_num, HW10.out, by simp; omega, _, _, HX10.out, HZ10.out, by rw [exx]; exact HOX10.out, by rw [eyy]; exact HOY10.out, HDJ10.out⟩, by simp [intOf]; omega⟩
      · have hkl : k = len := by omega
        subst hkl
        have hxt : ThingsAt (p.l.map Th.back) (.slice xp xn xc) wr := by
          have := HOX.out
          rw [← HLEN.out, List.take_length] at this
          exact ThingsAt.own this (by simp) (by simp; rw [HLEN.out]; omega)
        have hyt : ThingsAt (p.l.map (Th.on by')) (.slice yp yn yc) wr := by
          have := HOY.out
          rw [← HLEN.out, List.take_length] at this
          exact ThingsAt.own this (by simp) (by simp; rw [HLEN.out]; omega)
        have TP := Lib.hid (fun (W : World) (hg : Gr wr W) => ThingsAt.lasts p.l _ _ _ hth hg)
        have TX := Lib.hid (fun (W : World) (hg : Gr wr W) => ThingsAt.lasts (p.l.map Th.back) _ _ _ hxt hg)
        have TY := Lib.hid (fun (W : World) (hg : Gr wr W) => ThingsAt.lasts (p.l.map (Th.on by')) _ _ _ hyt hg)
        have hp8 := HP1.out.below HG.out (by omega)
        have C := hp8.facts
        simp only [CellsFrom, Nat.zero_add, Nat.reduceAdd, and_true] at C
        have HPB := Lib.hid hp8
        have HGB := Lib.hid HG.out
        have hle0 : w.heap.size < w1.heap.size := by omega
        have hlt51 : decide ((k : Int) < (k : Int)) = false := by simp
        clear hth hxt hyt hp8 HOX HOY HDJ HG
        have hg0 := Gr.same wr
        go_wp2_with fail
        refine (power_is h1.out (TP.out _ hg0)).mono ?_
        rintro e u1 ⟨rfl, hb1⟩
        have gg1 : Gr _ _ := hb1
        have hg1 := Gr.tr hg0 gg1
        obtain ⟨hc, hf, hz⟩ := bcell hg1
        go_wp2_with fail
        clear hc hf hz
        refine (distance_is h2.out (TP.out _ (hg1.tr (Gr.alloc _ _)))).mono ?_
        rintro e u2 ⟨rfl, hb2⟩
        have gg2 : Gr _ _ := (Gr.alloc _ _).tr hb2
        have hg2 := Gr.tr hg1 gg2
        have y1_0 := ((bcell hb2).1 u1.heap.size 0 (by simp)).trans (show _ = some (.int .i64 P) by simp)
        have y1_1 := ((bcell hb2).1 u1.heap.size 1 (by simp)).trans (show _ = some (.int .i64 Q) by simp)
        have k1 : u1.heap.size < u2.heap.size := Nat.lt_of_lt_of_le (by simp) hb2.size
        have k1n : u1.heap.size ≠ u2.heap.size := Nat.ne_of_lt k1
        have k1m : u2.heap.size ≠ u1.heap.size := (Nat.ne_of_lt k1).symm
        have k1p : u1.heap.size < u2.heap.size + 1 := Nat.lt_succ_of_lt k1
        obtain ⟨hc, hf, hz⟩ := bcell hg2
        go_wp2_with fail
        clear hc hf hz
        refine (why_is h3.out (TP.out _ (hg2.tr (Gr.alloc _ _)))).mono ?_
        rintro e u3 ⟨rfl, hb3⟩
        have gg3 : Gr _ _ := (Gr.alloc _ _).tr hb3
        have hg3 := Gr.tr hg2 gg3
        have y1_0 := ((bcell gg3).1 u1.heap.size 0 k1).trans y1_0
        have y1_1 := ((bcell gg3).1 u1.heap.size 1 k1).trans y1_1
        replace k1 : u1.heap.size < u3.heap.size := Nat.lt_of_lt_of_le k1 gg3.size
        have k1n : u1.heap.size ≠ u3.heap.size := Nat.ne_of_lt k1
        have k1m : u3.heap.size ≠ u1.heap.size := (Nat.ne_of_lt k1).symm
        have k1p : u1.heap.size < u3.heap.size + 1 := Nat.lt_succ_of_lt k1
        have y2_0 := ((bcell hb3).1 u2.heap.size 0 (by simp)).trans (show _ = some (.int .i64 d1) by simp)
        have y2_1 := ((bcell hb3).1 u2.heap.size 1 (by simp)).trans (show _ = some (.int .i64 d2) by simp)
        have k2 : u2.heap.size < u3.heap.size := Nat.lt_of_lt_of_le (by simp) hb3.size
        have k2n : u2.heap.size ≠ u3.heap.size := Nat.ne_of_lt k2
        have k2m : u3.heap.size ≠ u2.heap.size := (Nat.ne_of_lt k2).symm
        have k2p : u2.heap.size < u3.heap.size + 1 := Nat.lt_succ_of_lt k2
        obtain ⟨hc, hf, hz⟩ := bcell hg3
        go_wp2_with fail
        clear hc hf hz
        refine (fewest_is h5.out (TP.out _ hg3)).mono ?_
        rintro e u4 ⟨rfl, hb4⟩
        have gg4 : Gr _ _ := hb4
        have hg4 := Gr.tr hg3 gg4
        have y1_0 := ((bcell gg4).1 u1.heap.size 0 k1).trans y1_0
        have y1_1 := ((bcell gg4).1 u1.heap.size 1 k1).trans y1_1
        replace k1 : u1.heap.size < u4.heap.size := Nat.lt_of_lt_of_le k1 gg4.size
        have k1n : u1.heap.size ≠ u4.heap.size := Nat.ne_of_lt k1
        have k1m : u4.heap.size ≠ u1.heap.size := (Nat.ne_of_lt k1).symm
        have k1p : u1.heap.size < u4.heap.size + 1 := Nat.lt_succ_of_lt k1
        have y2_0 := ((bcell gg4).1 u2.heap.size 0 k2).trans y2_0
        have y2_1 := ((bcell gg4).1 u2.heap.size 1 k2).trans y2_1
        replace k2 : u2.heap.size < u4.heap.size := Nat.lt_of_lt_of_le k2 gg4.size
        have k2n : u2.heap.size ≠ u4.heap.size := Nat.ne_of_lt k2
        have k2m : u4.heap.size ≠ u2.heap.size := (Nat.ne_of_lt k2).symm
        have k2p : u2.heap.size < u4.heap.size + 1 := Nat.lt_succ_of_lt k2
        obtain ⟨hc, hf, hz⟩ := bcell hg4
        have C3 := (HKX.out.grow hg4).facts
        have C4 := (HKZ.out.grow hg4).facts
        simp only [CellsFrom, Nat.zero_add, Nat.reduceAdd, and_true] at C3 C4
        go_wp2_with fail
        have HRx : Hid (∀ W : World, Gr wr W → Calls Try.prog 32 #[.agg #[.int .i64 p.fl, .int .i64 p.fh, .int .i64 p.bl, .int .i64 p.bh, .int .i64 p.ti, .int .i64 p.ne, .int .i64 p.fa, .slice xp xn xc]] W fun e' w' => e' = .returned (.bool okx) ∧ Below W.heap.size W w') := Lib.hid fun W hg => rpair_is (p := p.turn Th.back) hox.out (TX.out W hg)
        have HPx : Hid (okx = true → ∀ W : World, Gr wr W → Calls Try.prog 17 #[.agg #[.int .i64 p.fl, .int .i64 p.fh, .int .i64 p.bl, .int .i64 p.bh, .int .i64 p.ti, .int .i64 p.ne, .int .i64 p.fa, .slice xp xn xc]] W fun e' w' => e' = .returned (.tuple #[.agg #[.int .i64 P, .int .i64 Q], .int .i64 pe]) ∧ Below W.heap.size W w') := Lib.hid fun hok W hg => power_is (p := p.turn Th.back) ((Pr.turn_all hsx.out (fun _ => rfl) h4.out (hox.out.trans hok) n).1.trans h1.out) (TX.out W hg)
        have HDx : Hid (okx = true → ∀ W : World, Gr wr W → Calls Try.prog 23 #[.agg #[.int .i64 p.fl, .int .i64 p.fh, .int .i64 p.bl, .int .i64 p.bh, .int .i64 p.ti, .int .i64 p.ne, .int .i64 p.fa, .slice xp xn xc], .int .i64 n] W fun e' w' => e' = .returned (.tuple #[.agg #[.int .i64 d1, .int .i64 d2], .int .i64 de]) ∧ Below W.heap.size W w') := Lib.hid fun hok W hg => distance_is (p := p.turn Th.back) ((Pr.turn_all hsx.out (fun _ => rfl) h4.out (hox.out.trans hok) n).2.1.trans h2.out) (TX.out W hg)
        have HWx : Hid (okx = true → ∀ W : World, Gr wr W → Calls Try.prog 21 #[.agg #[.int .i64 p.fl, .int .i64 p.fh, .int .i64 p.bl, .int .i64 p.bh, .int .i64 p.ti, .int .i64 p.ne, .int .i64 p.fa, .slice xp xn xc], .int .i64 n] W fun e' w' => e' = .returned (.tuple #[.int .i64 y, .int .i64 ye]) ∧ Below W.heap.size W w') := Lib.hid fun hok W hg => why_is (p := p.turn Th.back) ((Pr.turn_all hsx.out (fun _ => rfl) h4.out (hox.out.trans hok) n).2.2.1.trans h3.out) (TX.out W hg)
        have HFx : Hid (okx = true → ∀ W : World, Gr wr W → Calls Try.prog 25 #[.agg #[.int .i64 p.fl, .int .i64 p.fh, .int .i64 p.bl, .int .i64 p.bh, .int .i64 p.ti, .int .i64 p.ne, .int .i64 p.fa, .slice xp xn xc]] W fun e' w' => e' = .returned (.tuple #[.int .i64 m, .agg #[.int .i64 f1, .int .i64 f2], .int .i64 fe]) ∧ Below W.heap.size W w') := Lib.hid fun hok W hg => fewest_is (p := p.turn Th.back) ((Pr.turn_all hsx.out (fun _ => rfl) h4.out (hox.out.trans hok) n).2.2.2.trans h5.out) (TX.out W hg)
        have HRy : Hid (∀ W : World, Gr wr W → Calls Try.prog 32 #[.agg #[.int .i64 p.fl, .int .i64 p.fh, .int .i64 p.bl, .int .i64 p.bh, .int .i64 p.ti, .int .i64 p.ne, .int .i64 p.fa, .slice yp yn yc]] W fun e' w' => e' = .returned (.bool oky) ∧ Below W.heap.size W w') := Lib.hid fun W hg => rpair_is (p := p.turn (Th.on by')) hoy.out (TY.out W hg)
        have HPy : Hid (oky = true → ∀ W : World, Gr wr W → Calls Try.prog 17 #[.agg #[.int .i64 p.fl, .int .i64 p.fh, .int .i64 p.bl, .int .i64 p.bh, .int .i64 p.ti, .int .i64 p.ne, .int .i64 p.fa, .slice yp yn yc]] W fun e' w' => e' = .returned (.tuple #[.agg #[.int .i64 P, .int .i64 Q], .int .i64 pe]) ∧ Below W.heap.size W w') := Lib.hid fun hok W hg => power_is (p := p.turn (Th.on by')) ((Pr.turn_all hsy.out (fun _ => rfl) h4.out (hoy.out.trans hok) n).1.trans h1.out) (TY.out W hg)
        have HDy : Hid (oky = true → ∀ W : World, Gr wr W → Calls Try.prog 23 #[.agg #[.int .i64 p.fl, .int .i64 p.fh, .int .i64 p.bl, .int .i64 p.bh, .int .i64 p.ti, .int .i64 p.ne, .int .i64 p.fa, .slice yp yn yc], .int .i64 n] W fun e' w' => e' = .returned (.tuple #[.agg #[.int .i64 d1, .int .i64 d2], .int .i64 de]) ∧ Below W.heap.size W w') := Lib.hid fun hok W hg => distance_is (p := p.turn (Th.on by')) ((Pr.turn_all hsy.out (fun _ => rfl) h4.out (hoy.out.trans hok) n).2.1.trans h2.out) (TY.out W hg)
        have HWy : Hid (oky = true → ∀ W : World, Gr wr W → Calls Try.prog 21 #[.agg #[.int .i64 p.fl, .int .i64 p.fh, .int .i64 p.bl, .int .i64 p.bh, .int .i64 p.ti, .int .i64 p.ne, .int .i64 p.fa, .slice yp yn yc], .int .i64 n] W fun e' w' => e' = .returned (.tuple #[.int .i64 y, .int .i64 ye]) ∧ Below W.heap.size W w') := Lib.hid fun hok W hg => why_is (p := p.turn (Th.on by')) ((Pr.turn_all hsy.out (fun _ => rfl) h4.out (hoy.out.trans hok) n).2.2.1.trans h3.out) (TY.out W hg)
        have HFy : Hid (oky = true → ∀ W : World, Gr wr W → Calls Try.prog 25 #[.agg #[.int .i64 p.fl, .int .i64 p.fh, .int .i64 p.bl, .int .i64 p.bh, .int .i64 p.ti, .int .i64 p.ne, .int .i64 p.fa, .slice yp yn yc]] W fun e' w' => e' = .returned (.tuple #[.int .i64 m, .agg #[.int .i64 f1, .int .i64 f2], .int .i64 fe]) ∧ Below W.heap.size W w') := Lib.hid fun hok W hg => fewest_is (p := p.turn (Th.on by')) ((Pr.turn_all hsy.out (fun _ => rfl) h4.out (hoy.out.trans hok) n).2.2.2.trans h5.out) (TY.out W hg)
        have gl : Gr u4 ((u4.alloc (.cells #[.int .i64 f1, .int .i64 f2] 23)).alloc (.cells #[.int .i64 p.fl, .int .i64 p.fh, .int .i64 p.bl, .int .i64 p.bh, .int .i64 p.ti, .int .i64 p.ne, .int .i64 p.fa, .slice xp xn xc, .int .i64 p.fl, .int .i64 p.fh, .int .i64 p.bl, .int .i64 p.bh, .int .i64 p.ti, .int .i64 p.ne, .int .i64 p.fa, .slice yp yn yc] 26)) := (Gr.alloc _ _).tr (Gr.alloc _ _)
        have yP0 := ((bcell gl).1 u1.heap.size 0 k1).trans y1_0
        have yP1 := ((bcell gl).1 u1.heap.size 1 k1).trans y1_1
        have yD0 := ((bcell gl).1 u2.heap.size 0 k2).trans y2_0
        have yD1 := ((bcell gl).1 u2.heap.size 1 k2).trans y2_1
        have kP := Nat.lt_of_lt_of_le k1 gl.size
        have kD := Nat.lt_of_lt_of_le k2 gl.size
        have hfb : Box ((u4.alloc (.cells #[.int .i64 f1, .int .i64 f2] 23)).alloc (.cells #[.int .i64 p.fl, .int .i64 p.fh, .int .i64 p.bl, .int .i64 p.bh, .int .i64 p.ti, .int .i64 p.ne, .int .i64 p.fa, .slice xp xn xc, .int .i64 p.fl, .int .i64 p.fh, .int .i64 p.bl, .int .i64 p.bh, .int .i64 p.ti, .int .i64 p.ne, .int .i64 p.fa, .slice yp yn yc] 26)) u4.heap.size [.int .i64 f1, .int .i64 f2] 23 := (Box.fresh u4 [.int .i64 f1, .int .i64 f2] 23).grow (Gr.alloc _ _)
        have hsb : Box ((u4.alloc (.cells #[.int .i64 f1, .int .i64 f2] 23)).alloc (.cells #[.int .i64 p.fl, .int .i64 p.fh, .int .i64 p.bl, .int .i64 p.bh, .int .i64 p.ti, .int .i64 p.ne, .int .i64 p.fa, .slice xp xn xc, .int .i64 p.fl, .int .i64 p.fh, .int .i64 p.bl, .int .i64 p.bh, .int .i64 p.ti, .int .i64 p.ne, .int .i64 p.fa, .slice yp yn yc] 26)) (u4.heap.size + 1) [.int .i64 p.fl, .int .i64 p.fh, .int .i64 p.bl, .int .i64 p.bh, .int .i64 p.ti, .int .i64 p.ne, .int .i64 p.fa, .slice xp xn xc, .int .i64 p.fl, .int .i64 p.fh, .int .i64 p.bl, .int .i64 p.bh, .int .i64 p.ti, .int .i64 p.ne, .int .i64 p.fa, .slice yp yn yc] 26 := by
          have := Box.fresh (u4.alloc (.cells #[.int .i64 f1, .int .i64 f2] 23)) [.int .i64 p.fl, .int .i64 p.fh, .int .i64 p.bl, .int .i64 p.bh, .int .i64 p.ti, .int .i64 p.ne, .int .i64 p.fa, .slice xp xn xc, .int .i64 p.fl, .int .i64 p.fh, .int .i64 p.bl, .int .i64 p.bh, .int .i64 p.ti, .int .i64 p.ne, .int .i64 p.fa, .slice yp yn yc] 26
          simpa using this
        have hgl := hg4.tr gl
        generalize ((u4.alloc (.cells #[.int .i64 f1, .int .i64 f2] 23)).alloc (.cells #[.int .i64 p.fl, .int .i64 p.fh, .int .i64 p.bl, .int .i64 p.bh, .int .i64 p.ti, .int .i64 p.ne, .int .i64 p.fa, .slice xp xn xc, .int .i64 p.fl, .int .i64 p.fh, .int .i64 p.bl, .int .i64 p.bh, .int .i64 p.ti, .int .i64 p.ne, .int .i64 p.fa, .slice yp yn yc] 26)) = WL at *
        generalize u4.heap.size + 1 = bs at *
        generalize u4.heap.size = bF at *
        generalize u1.heap.size = bP at *
        generalize u2.heap.size = bD at *
        have HFB := Lib.hid hfb
        have HSB := Lib.hid hsb
        have HG0 := Lib.hid hgl
        have HYP := Lib.hid (And.intro (And.intro yP0 yP1) (And.intro yD0 yD1))
        clear hfb hsb hgl gl yP0 yP1 yD0 yD1 y1_0 y1_1 y2_0 y2_1 k1 k2 hg1 hg2 hg3 hg4 hg0 gg1 gg2 gg3 gg4 hb1 hb2 hb3 hb4 hc hf hz C C3 C4
        go_loopw [139] (fun i wr2 => ∃ j : Nat, j ≤ 2 ∧ i = .int .i64 j ∧ Gr WL wr2) (fun i _ => 2 - (intOf i).toNat)
        case atStart => exact ⟨0, by omega, rfl, Gr.same _⟩
        case round =>
          obtain ⟨j, hj, rfl, hg⟩ := hrel
          have HG2 := Lib.hid hg
          clear hg
          by_cases hj2 : j < 2
          · rcases (show j = 0 ∨ j = 1 by omega) with rfl | rfl
            · skip
              have CS := (HSB.out.grow HG2.out).facts
              simp only [CellsFrom, Nat.zero_add, Nat.reduceAdd, and_true] at CS
              have hgw := HG0.out.tr HG2.out
              cases hok : okx with
              | false =>
                have HRq := Lib.hid (fun W hg => hok ▸ HRx.out W hg)
                clear hok
                go_wp2_with fail
                refine (HRq.out _ (hgw.tr (Gr.alloc _ _))).mono ?_
                rintro e v1 ⟨rfl, hb1⟩
                go_wp2
                exact ⟨⟨1, by omega, by go_num, HG2.out.tr ((Gr.alloc _ _).tr hb1)⟩, by simp [intOf]⟩
              | true =>
                have HRq := Lib.hid (fun W hg => hok ▸ HRx.out W hg)
                have HPq := Lib.hid (HPx.out hok)
                have HDq := Lib.hid (HDx.out hok)
                have HWq := Lib.hid (HWx.out hok)
                have HFq := Lib.hid (HFx.out hok)
                clear hok
                have hgz : Gr wr (wr.alloc (.cells #[.int .i64 p.fl, .int .i64 p.fh, .int .i64 p.bl, .int .i64 p.bh, .int .i64 p.ti, .int .i64 p.ne, .int .i64 p.fa, .slice xp xn xc] 26)) := Gr.alloc wr _
                have hg0 := Gr.same (wr.alloc (.cells #[.int .i64 p.fl, .int .i64 p.fh, .int .i64 p.bl, .int .i64 p.bh, .int .i64 p.ti, .int .i64 p.ne, .int .i64 p.fa, .slice xp xn xc] 26))
                replace hgw := hgw.tr hgz
                have hne := @ne23
                have hneg := @neg23
                go_wp2_with fail
                refine (HRq.out _ (hgw.tr hg0)).mono ?_
                rintro e v1 ⟨rfl, hb1⟩
                have gg1 : Gr _ _ := hb1
                have hg1 := Gr.tr hg0 gg1
                obtain ⟨hc, hf, hz⟩ := bcell hg1
                go_wp2_with fail
                clear hc hf hz
                refine (HPq.out _ (hgw.tr hg1)).mono ?_
                rintro e v2 ⟨rfl, hb2⟩
                have gg2 : Gr _ _ := hb2
                have hg2 := Gr.tr hg1 gg2
                obtain ⟨hc, hf, hz⟩ := bcell hg2
                go_wp2_with fail
                clear hc hf hz
                refine (HDq.out _ (hgw.tr (hg2.tr (Gr.alloc _ _)))).mono ?_
                rintro e v3 ⟨rfl, hb3⟩
                have gg3 : Gr _ _ := (Gr.alloc _ _).tr hb3
                have hg3 := Gr.tr hg2 gg3
                have y2_0 := ((bcell hb3).1 v2.heap.size 0 (by simp)).trans (show _ = some (.int .i64 P) by simp)
                have y2_1 := ((bcell hb3).1 v2.heap.size 1 (by simp)).trans (show _ = some (.int .i64 Q) by simp)
                have k2 : v2.heap.size < v3.heap.size := Nat.lt_of_lt_of_le (by simp) hb3.size
                have k2n : v2.heap.size ≠ v3.heap.size := Nat.ne_of_lt k2
                have k2m : v3.heap.size ≠ v2.heap.size := (Nat.ne_of_lt k2).symm
                have k2p : v2.heap.size < v3.heap.size + 1 := Nat.lt_succ_of_lt k2
                obtain ⟨hc, hf, hz⟩ := bcell hg3
                go_wp2_with fail
                clear hc hf hz
                refine (HWq.out _ (hgw.tr (hg3.tr (Gr.alloc _ _)))).mono ?_
                rintro e v4 ⟨rfl, hb4⟩
                have gg4 : Gr _ _ := (Gr.alloc _ _).tr hb4
                have hg4 := Gr.tr hg3 gg4
                have y2_0 := ((bcell gg4).1 v2.heap.size 0 k2).trans y2_0
                have y2_1 := ((bcell gg4).1 v2.heap.size 1 k2).trans y2_1
                replace k2 : v2.heap.size < v4.heap.size := Nat.lt_of_lt_of_le k2 gg4.size
                have k2n : v2.heap.size ≠ v4.heap.size := Nat.ne_of_lt k2
                have k2m : v4.heap.size ≠ v2.heap.size := (Nat.ne_of_lt k2).symm
                have k2p : v2.heap.size < v4.heap.size + 1 := Nat.lt_succ_of_lt k2
                have y3_0 := ((bcell hb4).1 v3.heap.size 0 (by simp)).trans (show _ = some (.int .i64 d1) by simp)
                have y3_1 := ((bcell hb4).1 v3.heap.size 1 (by simp)).trans (show _ = some (.int .i64 d2) by simp)
                have k3 : v3.heap.size < v4.heap.size := Nat.lt_of_lt_of_le (by simp) hb4.size
                have k3n : v3.heap.size ≠ v4.heap.size := Nat.ne_of_lt k3
                have k3m : v4.heap.size ≠ v3.heap.size := (Nat.ne_of_lt k3).symm
                have k3p : v3.heap.size < v4.heap.size + 1 := Nat.lt_succ_of_lt k3
                obtain ⟨hc, hf, hz⟩ := bcell hg4
                go_wp2_with fail
                clear hc hf hz
                refine (HFq.out _ (hgw.tr hg4)).mono ?_
                rintro e v5 ⟨rfl, hb5⟩
                have gg5 : Gr _ _ := hb5
                have hg5 := Gr.tr hg4 gg5
                have y2_0 := ((bcell gg5).1 v2.heap.size 0 k2).trans y2_0
                have y2_1 := ((bcell gg5).1 v2.heap.size 1 k2).trans y2_1
                replace k2 : v2.heap.size < v5.heap.size := Nat.lt_of_lt_of_le k2 gg5.size
                have k2n : v2.heap.size ≠ v5.heap.size := Nat.ne_of_lt k2
                have k2m : v5.heap.size ≠ v2.heap.size := (Nat.ne_of_lt k2).symm
                have k2p : v2.heap.size < v5.heap.size + 1 := Nat.lt_succ_of_lt k2
                have y3_0 := ((bcell gg5).1 v3.heap.size 0 k3).trans y3_0
                have y3_1 := ((bcell gg5).1 v3.heap.size 1 k3).trans y3_1
                replace k3 : v3.heap.size < v5.heap.size := Nat.lt_of_lt_of_le k3 gg5.size
                have k3n : v3.heap.size ≠ v5.heap.size := Nat.ne_of_lt k3
                have k3m : v5.heap.size ≠ v3.heap.size := (Nat.ne_of_lt k3).symm
                have k3p : v3.heap.size < v5.heap.size + 1 := Nat.lt_succ_of_lt k3
                obtain ⟨hc, hf, hz⟩ := bcell hg5
                have hgF := HG2.out.tr (hgz.tr hg5)
                have zP0 := ((bcell hgF).1 bP 0 kP).trans HYP.out.1.1
                have zP1 := ((bcell hgF).1 bP 1 kP).trans HYP.out.1.2
                have zD0 := ((bcell hgF).1 bD 0 kD).trans HYP.out.2.1
                have zD1 := ((bcell hgF).1 bD 1 kD).trans HYP.out.2.2
                have hF5 := HFB.out.grow hgF
                have zF0 := hF5.cell (i := 0) rfl
                have zF1 := hF5.cell (i := 1) rfl
                have lP := Nat.lt_of_lt_of_le kP hgF.size
                have lD := Nat.lt_of_lt_of_le kD hgF.size
                have lF := hF5.lt
                have aP := Nat.ne_of_lt lP
                have aD := Nat.ne_of_lt lD
                have aF := Nat.ne_of_lt lF
                have cP := (Nat.ne_of_lt lP).symm
                have cD := (Nat.ne_of_lt lD).symm
                have cF := (Nat.ne_of_lt lF).symm
                clear hF5 CS
                go_wp2
                exact ⟨⟨1, by omega, by go_num, hgF.tr (Gr.alloc _ _)⟩, by simp [intOf]⟩
            · skip
              have CS := (HSB.out.grow HG2.out).facts
              simp only [CellsFrom, Nat.zero_add, Nat.reduceAdd, and_true] at CS
              have hgw := HG0.out.tr HG2.out
              cases hok : oky with
              | false =>
                have HRq := Lib.hid (fun W hg => hok ▸ HRy.out W hg)
                clear hok
                go_wp2_with fail
                refine (HRq.out _ (hgw.tr (Gr.alloc _ _))).mono ?_
                rintro e v1 ⟨rfl, hb1⟩
                go_wp2
                exact ⟨⟨2, by omega, by go_num, HG2.out.tr ((Gr.alloc _ _).tr hb1)⟩, by simp [intOf]⟩
              | true =>
                have HRq := Lib.hid (fun W hg => hok ▸ HRy.out W hg)
                have HPq := Lib.hid (HPy.out hok)
                have HDq := Lib.hid (HDy.out hok)
                have HWq := Lib.hid (HWy.out hok)
                have HFq := Lib.hid (HFy.out hok)
                clear hok
                have hgz : Gr wr (wr.alloc (.cells #[.int .i64 p.fl, .int .i64 p.fh, .int .i64 p.bl, .int .i64 p.bh, .int .i64 p.ti, .int .i64 p.ne, .int .i64 p.fa, .slice yp yn yc] 26)) := Gr.alloc wr _
                have hg0 := Gr.same (wr.alloc (.cells #[.int .i64 p.fl, .int .i64 p.fh, .int .i64 p.bl, .int .i64 p.bh, .int .i64 p.ti, .int .i64 p.ne, .int .i64 p.fa, .slice yp yn yc] 26))
                replace hgw := hgw.tr hgz
                have hne := @ne23
                have hneg := @neg23
                go_wp2_with fail
                refine (HRq.out _ (hgw.tr hg0)).mono ?_
                rintro e v1 ⟨rfl, hb1⟩
                have gg1 : Gr _ _ := hb1
                have hg1 := Gr.tr hg0 gg1
                obtain ⟨hc, hf, hz⟩ := bcell hg1
                go_wp2_with fail
                clear hc hf hz
                refine (HPq.out _ (hgw.tr hg1)).mono ?_
                rintro e v2 ⟨rfl, hb2⟩
                have gg2 : Gr _ _ := hb2
                have hg2 := Gr.tr hg1 gg2
                obtain ⟨hc, hf, hz⟩ := bcell hg2
                go_wp2_with fail
                clear hc hf hz
                refine (HDq.out _ (hgw.tr (hg2.tr (Gr.alloc _ _)))).mono ?_
                rintro e v3 ⟨rfl, hb3⟩
                have gg3 : Gr _ _ := (Gr.alloc _ _).tr hb3
                have hg3 := Gr.tr hg2 gg3
                have y2_0 := ((bcell hb3).1 v2.heap.size 0 (by simp)).trans (show _ = some (.int .i64 P) by simp)
                have y2_1 := ((bcell hb3).1 v2.heap.size 1 (by simp)).trans (show _ = some (.int .i64 Q) by simp)
                have k2 : v2.heap.size < v3.heap.size := Nat.lt_of_lt_of_le (by simp) hb3.size
                have k2n : v2.heap.size ≠ v3.heap.size := Nat.ne_of_lt k2
                have k2m : v3.heap.size ≠ v2.heap.size := (Nat.ne_of_lt k2).symm
                have k2p : v2.heap.size < v3.heap.size + 1 := Nat.lt_succ_of_lt k2
                obtain ⟨hc, hf, hz⟩ := bcell hg3
                go_wp2_with fail
                clear hc hf hz
                refine (HWq.out _ (hgw.tr (hg3.tr (Gr.alloc _ _)))).mono ?_
                rintro e v4 ⟨rfl, hb4⟩
                have gg4 : Gr _ _ := (Gr.alloc _ _).tr hb4
                have hg4 := Gr.tr hg3 gg4
                have y2_0 := ((bcell gg4).1 v2.heap.size 0 k2).trans y2_0
                have y2_1 := ((bcell gg4).1 v2.heap.size 1 k2).trans y2_1
                replace k2 : v2.heap.size < v4.heap.size := Nat.lt_of_lt_of_le k2 gg4.size
                have k2n : v2.heap.size ≠ v4.heap.size := Nat.ne_of_lt k2
                have k2m : v4.heap.size ≠ v2.heap.size := (Nat.ne_of_lt k2).symm
                have k2p : v2.heap.size < v4.heap.size + 1 := Nat.lt_succ_of_lt k2
                have y3_0 := ((bcell hb4).1 v3.heap.size 0 (by simp)).trans (show _ = some (.int .i64 d1) by simp)
                have y3_1 := ((bcell hb4).1 v3.heap.size 1 (by simp)).trans (show _ = some (.int .i64 d2) by simp)
                have k3 : v3.heap.size < v4.heap.size := Nat.lt_of_lt_of_le (by simp) hb4.size
                have k3n : v3.heap.size ≠ v4.heap.size := Nat.ne_of_lt k3
                have k3m : v4.heap.size ≠ v3.heap.size := (Nat.ne_of_lt k3).symm
                have k3p : v3.heap.size < v4.heap.size + 1 := Nat.lt_succ_of_lt k3
                obtain ⟨hc, hf, hz⟩ := bcell hg4
                go_wp2_with fail
                clear hc hf hz
                refine (HFq.out _ (hgw.tr hg4)).mono ?_
                rintro e v5 ⟨rfl, hb5⟩
                have gg5 : Gr _ _ := hb5
                have hg5 := Gr.tr hg4 gg5
                have y2_0 := ((bcell gg5).1 v2.heap.size 0 k2).trans y2_0
                have y2_1 := ((bcell gg5).1 v2.heap.size 1 k2).trans y2_1
                replace k2 : v2.heap.size < v5.heap.size := Nat.lt_of_lt_of_le k2 gg5.size
                have k2n : v2.heap.size ≠ v5.heap.size := Nat.ne_of_lt k2
                have k2m : v5.heap.size ≠ v2.heap.size := (Nat.ne_of_lt k2).symm
                have k2p : v2.heap.size < v5.heap.size + 1 := Nat.lt_succ_of_lt k2
                have y3_0 := ((bcell gg5).1 v3.heap.size 0 k3).trans y3_0
                have y3_1 := ((bcell gg5).1 v3.heap.size 1 k3).trans y3_1
                replace k3 : v3.heap.size < v5.heap.size := Nat.lt_of_lt_of_le k3 gg5.size
                have k3n : v3.heap.size ≠ v5.heap.size := Nat.ne_of_lt k3
                have k3m : v5.heap.size ≠ v3.heap.size := (Nat.ne_of_lt k3).symm
                have k3p : v3.heap.size < v5.heap.size + 1 := Nat.lt_succ_of_lt k3
                obtain ⟨hc, hf, hz⟩ := bcell hg5
                have hgF := HG2.out.tr (hgz.tr hg5)
                have zP0 := ((bcell hgF).1 bP 0 kP).trans HYP.out.1.1
                have zP1 := ((bcell hgF).1 bP 1 kP).trans HYP.out.1.2
                have zD0 := ((bcell hgF).1 bD 0 kD).trans HYP.out.2.1
                have zD1 := ((bcell hgF).1 bD 1 kD).trans HYP.out.2.2
                have hF5 := HFB.out.grow hgF
                have zF0 := hF5.cell (i := 0) rfl
                have zF1 := hF5.cell (i := 1) rfl
                have lP := Nat.lt_of_lt_of_le kP hgF.size
                have lD := Nat.lt_of_lt_of_le kD hgF.size
                have lF := hF5.lt
                have aP := Nat.ne_of_lt lP
                have aD := Nat.ne_of_lt lD
                have aF := Nat.ne_of_lt lF
                have cP := (Nat.ne_of_lt lP).symm
                have cD := (Nat.ne_of_lt lD).symm
                have cF := (Nat.ne_of_lt lF).symm
                clear hF5 CS
                go_wp2
                exact ⟨⟨2, by omega, by go_num, hgF.tr (Gr.alloc _ _)⟩, by simp [intOf]⟩
          · have hj3 : j = 2 := by omega
            subst hj3
            go_wp2_with fail
            refine (awake_any _).mono ?_
            rintro e v1 ⟨rfl, hb1⟩
            have hX := HWB.out.trans (Below.mono HGB.out (Nat.le_of_lt hle0))
            have hY := bgr hX hX.size (HG0.out.tr (HG2.out.tr hb1))
            go_wp2
            go_ret
            exact ⟨rfl, hY⟩
end Go.Proofs.Ytofdoadpaedogaa
