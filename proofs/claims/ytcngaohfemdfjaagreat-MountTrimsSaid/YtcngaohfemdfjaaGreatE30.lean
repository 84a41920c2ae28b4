import Derived.Test.YtcngaohfemdfjaaGreatE27
set_option linter.unusedVariables false
set_option linter.unusedSimpArgs false
set_option maxRecDepth 100000
set_option maxHeartbeats 60000000
namespace Go.Proofs.YtcngaohfemdfjaaGreat
open Go.RowKit
def Tm.eyes (t : Tm) : Int × Int × Int := if (t.eyesTo (1, 10000) t.k.p.sees).2 < (t.eyesTo (1, 10000) t.k.p.sees).1 then (0, 0, 4) else ((t.eyesTo (1, 10000) t.k.p.sees).1, (t.eyesTo (1, 10000) t.k.p.sees).2, 0)
theorem narrowed59_is (t : Tm) (h : t.ok) (hv : ∀ q ∈ t.k.p.sees, q.2.ok) (hlen : t.k.p.l.length ≤ 900) {x y e : Int} (hr : t.eyes = (x, y, e)) (w : World) (hM : MapAt t.k.p.sees t.mb w) :
    Calls Tryz.prog 57 #[.agg #[.int .i64 1, .int .i64 10000], .func (.func 59) #[.agg t.cs.toArray] #[]] w fun e' w' => e' = .returned (.tuple #[.agg #[.int .i64 x, .int .i64 y], .int .i64 e]) ∧ Below w.heap.size w w' := by
  unfold Tm.eyes at hr
  split at hr
  · rename_i hc
    cases hr
    exact narrowed59_no t 1 10000 _ _ w (fun b W hb hg _ => tellEyes_ok t h hv hlen b (1, 10000) W hb (hM.grow hg)) hc
  · rename_i hc
    cases hr
    exact narrowed59_ok t 1 10000 _ _ w (fun b W hb hg _ => tellEyes_ok t h hv hlen b (1, 10000) W hb (hM.grow hg)) hc
theorem Eyes_ok (k : Cd) (u : Cu) (w : World) (hT : TsA k.p.l (.slice k.sp k.p.l.length k.cap) w) (h : k.err [u] = 0) {x y er : Int} (hr : (⟨k, 0, u⟩ : Tm).eyes = (x, y, er)) :
    Calls Tryz.prog 18 #[.agg k.cs.toArray, u.val] w fun e w' => e = .returned (.tuple #[.agg #[.int .i64 x, .int .i64 y], .int .i64 er]) ∧ Below w.heap.size w w' := by
  have h0 := h
  have HT := Lib.hid (fun (W : World) (hb : Below w.heap.size w W) => hT.below rfl hb)
  have HL := Lib.hid (fun cb W (hb : Below w.heap.size w W) hg => look1_ok k cb u W (hT.below rfl hb) hg h)
  have HOK := Lib.hid (fun mb => tm_ok (k := k) (mb := mb) (u := u) (Cd.err_zero h).2.1 ((Cd.err_zero h).2.2.1 u (by simp)))
  clear hT h
  have hl : k.cs.length = 17 := rfl
  have HB := Lib.hid (show Box (((w.alloc (Obj.cells k.cs.toArray 28)).alloc (Obj.cells #[.int .i64 u.a, .int .i64 u.b, .int .i64 u.c, .int .i64 u.d] 30)).alloc (Obj.cells #[.int .i64 0, .int .i64 0] 23)) w.heap.size k.cs 28 from (Box.fresh w k.cs 28).grow ((Gr.alloc _ _).tr (Gr.alloc _ _)))
  have HZ := Lib.hid (Box.fresh ((w.alloc (Obj.cells k.cs.toArray 28)).alloc (Obj.cells #[.int .i64 u.a, .int .i64 u.b, .int .i64 u.c, .int .i64 u.d] 30)) [.int .i64 0, .int .i64 0] 23)
  have HU := Lib.hid ((Box.fresh (w.alloc (Obj.cells k.cs.toArray 28)) [.int .i64 u.a, .int .i64 u.b, .int .i64 u.c, .int .i64 u.d] 30).grow (Gr.alloc _ (Obj.cells #[.int .i64 0, .int .i64 0] 23)))
  unfold Cu.val
  go_enter Tryz.func18, Tryz.ntmps18
  go_wp2_with (first | (with_reducible refine wsl (ty := 28) rfl ?_; unfold Stop; refine wlb row28 rfl (HB.out) rfl rfl rfl ?_))
  refine (HL.out _ _ ((((Gr.alloc _ _).tr (Gr.alloc _ _)).tr (Gr.alloc _ _)).tr (Gr.alloc _ _)) (by simpa using Box.fresh (((w.alloc (Obj.cells k.cs.toArray 28)).alloc (Obj.cells #[.int .i64 u.a, .int .i64 u.b, .int .i64 u.c, .int .i64 u.d] 30)).alloc (Obj.cells #[.int .i64 0, .int .i64 0] 23)) [.int .i64 u.a, .int .i64 u.b, .int .i64 u.c, .int .i64 u.d] 30)).mono ?_
  rintro e w1 ⟨mb, rfl, hmb, hM, hb1⟩
  have hz1 : Box w1 (w.heap.size + 1 + 1) [.int .i64 0, .int .i64 0] 23 := by simpa using (HZ.out.grow (Gr.alloc _ _)).grow hb1
  have hu1 : Box w1 (w.heap.size + 1) [.int .i64 u.a, .int .i64 u.b, .int .i64 u.c, .int .i64 u.d] 30 := by simpa using (HU.out.grow (Gr.alloc _ _)).grow hb1
  have hg1 : Gr w w1 := ((((Gr.alloc _ _).tr (Gr.alloc _ _)).tr (Gr.alloc _ _)).tr (Gr.alloc _ _)).tr hb1
  have hs1 := hz1.lt
  clear hb1
  obtain ⟨W2, hst, hB2, hg2⟩ := store_look w1 (k.lk mb) rfl (lk_one k mb)
  have h18 : (k.lk mb).length = 18 := rfl
  have hz2 := hz1.grow hg2
  have hu2 := hu1.grow hg2
  have z0 := hz2.cell (i := 0) rfl
  have z1 := hz2.cell (i := 1) rfl
  have zf := hz2.free
  have zl := hz2.lt
  have u0 := hu2.cell (i := 0) rfl
  have u1 := hu2.cell (i := 1) rfl
  have u2 := hu2.cell (i := 2) rfl
  have u3 := hu2.cell (i := 3) rfl
  have ul := hu2.lt
  have HG := Lib.hid (hg1.tr hg2)
  have HM := Lib.hid (hM.grow hg2)
  have HLK := Lib.hid hB2
  have hmf : ∀ (fn : Fn) (first cap : Array Value) (w : World), (Instr.makeFunc fn first cap).run Tryz.prog w = .ok (.func fn first cap) w := fun _ _ _ _ => rfl
  have HN := Lib.hid (fun W hM => narrowed59_is ⟨k, mb, u⟩ (HOK.out mb) (Pr.sees_ok (Cd.err_zero h0).1) (Pr.len_ok (Cd.err_zero h0).1) (show (⟨k, mb, u⟩ : Tm).eyes = (x, y, er) from hr) W hM)
  have HU2 := Lib.hid hu2
  have HZ2 := Lib.hid hz2
  clear hz1 hu1 hg1 hg2 hB2 hM h0 hr hu2 hz2 u0 u1 u2 u3 ul z0 z1 zf zl
  go_wp2_with fail
  refine region2 8 ?_ ?_ ?_
  · kernel_rfl
  · kernel_rfl
  simp only [List.take_succ_cons, List.take_zero, List.drop_succ_cons, List.drop_zero]
  apply ceq (D := []) rfl (by kernel_rfl)
  · intro ρ W ⟨p1,p2,p3⟩ hG hF K hK; (try simp [FD] at hF); have ⟨hc, hf, hz⟩ := bdr hG; go_simp; exact hK _ (gc (mspan_any _ _ _))
  apply ceq (D := [(6, none)]) rfl (by kernel_rfl)
  · intro ρ W ⟨p1,p2,p3⟩ hG hF K hK; (try simp [FD] at hF); rw [xlb row71 (Cd.lk_len k mb) (HLK.out.grow (Gr.tr (Gr.drew _) hG)) rfl hF]; exact hK _ gv
  apply ceq (D := [(3, none)]) rfl (by kernel_rfl)
  · intro ρ W ⟨p1,p2,p3⟩ hG hF K hK; (try simp [FD] at hF); have ⟨hc, hf, hz⟩ := bdr hG; have hu := HU2.out.grow (Gr.tr (Gr.drew _) hG); have u0 := hu.cell (i := 0) rfl; have u1 := hu.cell (i := 1) rfl; have u2 := hu.cell (i := 2) rfl; have u3 := hu.cell (i := 3) rfl; have ul := hu.lt; go_simp; exact hK _ gv
  apply ceq (D := [(20, some 1), (21, some 0)]) rfl (by kernel_rfl)
  · intro ρ W ⟨p1,p2,p3⟩ hG hF K hK; (try simp [FD] at hF); have ⟨hc, hf, hz⟩ := bdr hG; go_simp; exact hK _ (gc (with_any' ⟨k, mb, u⟩ _))
  apply ceq (D := [(22, some 0)]) rfl (by kernel_rfl)
  · intro ρ W ⟨p1,p2,p3⟩ hG hF K hK; (try simp [FD] at hF); have ⟨hc, hf, hz⟩ := bdr hG; go_simp; exact hK _ gv
  apply ceq (D := [(19, some 4), (23, some 0)]) rfl (by kernel_rfl)
  · intro ρ W ⟨p1,p2,p3⟩ hG hF K hK; (try simp [FD] at hF); have ⟨hc, hf, hz⟩ := bdr hG; go_simp; exact hK _ (gc (HN.out _ (HM.out.grow (Gr.tr (Gr.drew _) hG))))
  apply ceq (D := [(24, some 0)]) rfl (by kernel_rfl)
  · intro ρ W ⟨p1,p2,p3⟩ hG hF K hK; (try simp [FD] at hF); have ⟨hc, hf, hz⟩ := bdr hG; go_simp; exact hK _ gv
  apply ceq (D := [(24, some 1)]) rfl (by kernel_rfl)
  · intro ρ W ⟨p1,p2,p3⟩ hG hF K hK; (try simp [FD] at hF); have ⟨hc, hf, hz⟩ := bdr hG; go_simp; exact hK _ gv
  refine cdn ?_
  intro vs W hG hV
  obtain ⟨e7, e6, -⟩ := hV
  simp only [Nat.reduceSub] at e6 e7
  simp only [lay, Act.put, List.getElem?_toArray, List.getElem?_cons_succ, List.getElem?_cons_zero, Option.bind_some, List.setIfInBounds_toArray, List.set_cons_succ, List.set_cons_zero]
  generalize vs 0 = v0, vs 1 = v1, vs 2 = v2, vs 3 = v3, vs 4 = v4, vs 5 = v5
  generalize vs 6 = v6 at *
  generalize vs 7 = v7 at *
  subst e6
  subst e7
  obtain ⟨hc, hf, hz⟩ := bcell hG
  have hz4 := HZ2.out.grow hG
  have z0 := hz4.cell (i := 0) rfl
  have z1 := hz4.cell (i := 1) rfl
  have zf := hz4.free
  have zl := hz4.lt
  have HG4 := Lib.hid (HG.out.tr hG)
  clear hz4 hG hc hf hz
  go_wp2
  exact bodyPost_ret (v := .tuple #[.agg #[.int .i64 x, .int .i64 y], .int .i64 er]) (by simp [results, Tryz.results18, go_sem, z0, z1, zf, zl]) rfl ⟨rfl, (HG4.out.setCell (by first | (simp <;> omega) | omega) _).setCell (by first | (simp <;> omega) | omega) _⟩
end Go.Proofs.YtcngaohfemdfjaaGreat
