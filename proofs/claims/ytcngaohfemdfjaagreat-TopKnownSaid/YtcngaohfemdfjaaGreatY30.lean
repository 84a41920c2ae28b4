import Derived.BigQuiet
import Derived.ChangeAlike
import Derived.Deep.AppendLies
import Derived.Deep.DeepCutAuto
import Derived.Deep.Slices
import Derived.Deep.Strs
import Derived.Defers
import Derived.Laws.CopyOwn
import Derived.Laws.EntriesVeiled
import Derived.Laws.Pointers
import Derived.Laws.Rows
import Derived.Laws.StructEq
import Derived.Laws.Tables
import Derived.Lib.Hide
import Derived.Lib.SmallJoins
import Derived.LoopIn
import Derived.LoopN
import Derived.LoopNIn
import Derived.MapKept
import Derived.OrdersIn
import Derived.OwnWalkIn
import Derived.ProofKit
import Derived.RangeFuncBound
import Derived.RangeFuncCalls
import Derived.RangeFuncFrom
import Derived.RangeFuncLeaves
import Derived.RangeFuncNested
import Derived.Recover
import Derived.RegionTactic
import Derived.Shelf.Abstract
import Derived.Shelf.RegionOpen
import Derived.ShutString
import Derived.StillTail
import Derived.TacticsInMore
import Derived.Test.YtcngaohfemdfjaaGreatRows
import Derived.WalkKit
import Derived.WalkLawsBesides
import Derived.WalkMore
import Derived.WalkSpells
import Derived.Test.YtcngaohfemdfjaaGreatY05
import Derived.Test.YtcngaohfemdfjaaGreatY07
import Derived.Test.YtcngaohfemdfjaaGreatY14
import Derived.Test.YtcngaohfemdfjaaGreatY17
import Derived.Test.YtcngaohfemdfjaaGreatY21
import Derived.Test.YtcngaohfemdfjaaGreatY23
import Derived.Test.YtcngaohfemdfjaaGreatY26
import Derived.Test.YtcngaohfemdfjaaGreatY27
import Derived.Test.YtcngaohfemdfjaaGreatZ00
import Derived.Test.YtcngaohfemdfjaaGreatZ01
import Derived.Test.YtcngaohfemdfjaaGreatZ02
import Derived.Test.YtcngaohfemdfjaaGreatZ07
set_option linter.unusedVariables false
set_option linter.unusedSimpArgs false
namespace Go.Proofs.YtcngaohfemdfjaaGreat
open Go.RowKit
def Tm.eyes (t : Tm) : Int × Int × Int := if (t.eyesTo (1, 10000) t.k.p.sees).2 < (t.eyesTo (1, 10000) t.k.p.sees).1 then (0, 0, 4) else ((t.eyesTo (1, 10000) t.k.p.sees).1, (t.eyesTo (1, 10000) t.k.p.sees).2, 0)
theorem narrowed59_is (t : Tm) (h : t.ok) (hv : ∀ q ∈ t.k.p.sees, q.2.ok) (hlen : t.k.p.l.length ≤ 900) {x y e : Int} (hr : t.eyes = (x, y, e)) (w : World) (hM : MapAt t.k.p.sees t.mb w) :
    Calls Tryz.prog 57 #[.agg #[.int .i64 1, .int .i64 10000], .func (.func 59) #[.agg t.cs.toArray] #[]] w fun e' w' => e' = .returned (.tuple #[.agg #[.int .i64 x, .int .i64 y], .int .i64 e]) ∧ Below w.heap.size w w' := by
  unfold Tm.eyes at hr
  split at hr
  · rename_i hc
    cases hr
    exact narrowed59_no t 1 10000 _ _ w (fun b W hb hg _ => tellEyes_ok t h hv hlen b (1, 10000) W hb (hM.grow hg)) hc
  · rename_i hc
    cases hr
    exact narrowed59_ok t 1 10000 _ _ w (fun b W hb hg _ => tellEyes_ok t h hv hlen b (1, 10000) W hb (hM.grow hg)) hc
set_option maxRecDepth 100000 in
set_option maxHeartbeats 2000000 in
theorem Eyes_ok (k : Cd) (u : Cu) (w : World) (hT : ThingsAt k.p.l (.slice k.sp k.p.l.length k.cap) w) (h : k.err [u] = 0) {x y er : Int} (hr : (⟨k, 0, u⟩ : Tm).eyes = (x, y, er)) :
    Calls Tryz.prog 18 #[.agg k.cs.toArray, u.val] w fun e w' => e = .returned (.tuple #[.agg #[.int .i64 x, .int .i64 y], .int .i64 er]) ∧ Below w.heap.size w w' := by
  have h0 := h
  have HT := Lib.hid (fun (W : World) (hb : Below w.heap.size w W) => hT.below rfl hb)
  have HL := Lib.hid (fun cb W (hb : Below w.heap.size w W) hg => look1_ok k cb u W (hT.below rfl hb) hg h)
  have HOK := Lib.hid (fun mb => tm_ok (k := k) (mb := mb) (u := u) (Cd.err_zero h).2.1 ((Cd.err_zero h).2.2.1 u (by simp)))
  clear hT h
  have hl : k.cs.length = 17 := rfl
  have HB := Lib.hid (show Box (((w.alloc (Obj.cells k.cs.toArray 28)).alloc (Obj.cells #[.int .i64 u.a, .int .i64 u.b, .int .i64 u.c, .int .i64 u.d] 30)).alloc (Obj.cells #[.int .i64 0, .int .i64 0] 23)) w.heap.size k.cs 28 from (Box.fresh w k.cs 28).grow ((Gr.alloc _ _).tr (Gr.alloc _ _)))
  have HZ := Lib.hid (Box.fresh ((w.alloc (Obj.cells k.cs.toArray 28)).alloc (Obj.cells #[.int .i64 u.a, .int .i64 u.b, .int .i64 u.c, .int .i64 u.d] 30)) [.int .i64 0, .int .i64 0] 23)
  have HU := Lib.hid ((Box.fresh (w.alloc (Obj.cells k.cs.toArray 28)) [.int .i64 u.a, .int .i64 u.b, .int .i64 u.c, .int .i64 u.d] 30).grow (Gr.alloc _ (Obj.cells #[.int .i64 0, .int .i64 0] 23)))
  unfold Cu.val
  go_enter Tryz.func18, Tryz.ntmps18
  go_wp2_with (first | (with_reducible refine wpList_stopLoad (ty := 28) rfl ?_; unfold Stop; refine wpList_loadBox row28 rfl (HB.out) rfl rfl rfl ?_))
  refine (HL.out _ _ ((((Gr.alloc _ _).tr (Gr.alloc _ _)).tr (Gr.alloc _ _)).tr (Gr.alloc _ _)) (by simpa using Box.fresh (((w.alloc (Obj.cells k.cs.toArray 28)).alloc (Obj.cells #[.int .i64 u.a, .int .i64 u.b, .int .i64 u.c, .int .i64 u.d] 30)).alloc (Obj.cells #[.int .i64 0, .int .i64 0] 23)) [.int .i64 u.a, .int .i64 u.b, .int .i64 u.c, .int .i64 u.d] 30)).mono ?_
  rintro e w1 ⟨mb, rfl, hmb, hM, hb1⟩
  have hz1 : Box w1 (w.heap.size + 1 + 1) [.int .i64 0, .int .i64 0] 23 := by simpa using (HZ.out.grow (Gr.alloc _ _)).grow hb1
  have hu1 : Box w1 (w.heap.size + 1) [.int .i64 u.a, .int .i64 u.b, .int .i64 u.c, .int .i64 u.d] 30 := by simpa using (HU.out.grow (Gr.alloc _ _)).grow hb1
  have hg1 : Gr w w1 := ((((Gr.alloc _ _).tr (Gr.alloc _ _)).tr (Gr.alloc _ _)).tr (Gr.alloc _ _)).tr hb1
  have hs1 := hz1.lt
  clear hb1
  obtain ⟨W2, hst, hB2, hg2⟩ := store_look w1 (k.lk mb) rfl (lk_one k mb)
  have h18 : (k.lk mb).length = 18 := rfl
  have hz2 := hz1.grow hg2
  have hu2 := hu1.grow hg2
  have z0 := hz2.cell (i := 0) rfl
  have z1 := hz2.cell (i := 1) rfl
  have zf := hz2.free
  have zl := hz2.lt
  have u0 := hu2.cell (i := 0) rfl
  have u1 := hu2.cell (i := 1) rfl
  have u2 := hu2.cell (i := 2) rfl
  have u3 := hu2.cell (i := 3) rfl
  have ul := hu2.lt
  have HG := Lib.hid (hg1.tr hg2)
  have HM := Lib.hid (hM.grow hg2)
  have HLK := Lib.hid hB2
  have hmf : ∀ (fn : Fn) (first cap : Array Value) (w : World), (Instr.makeFunc fn first cap).run Tryz.prog w = .ok (.func fn first cap) w := fun _ _ _ _ => rfl
  have HN := Lib.hid (fun W hM => narrowed59_is ⟨k, mb, u⟩ (HOK.out mb) (Pr.sees_ok (Cd.err_zero h0).1) (Pr.len_ok (Cd.err_zero h0).1) (show (⟨k, mb, u⟩ : Tm).eyes = (x, y, er) from hr) W hM)
  have HU2 := Lib.hid hu2
  have HZ2 := Lib.hid hz2
  clear hz1 hu1 hg1 hg2 hB2 hM h0 hr hu2 hz2 u0 u1 u2 u3 ul z0 z1 zf zl
  go_wp2_with fail
  refine region2 8 ?_ ?_ ?_
  · kernel_rfl
  · kernel_rfl
  simp only [List.take_succ_cons, List.take_zero, List.drop_succ_cons, List.drop_zero]
  apply chain_eq (D := []) rfl (by kernel_rfl)
  · intro ρ W ⟨p1, p2, p3⟩ hG hF K hK; (try simp [FactsD] at hF); have ⟨hc, hf, hz⟩ := bcell (Gr.tr (Gr.drew _) hG); go_simp; exact hK _ (gives_call (mspan_any _ _ _))
  apply chain_eq (D := [(6, none)]) rfl (by kernel_rfl)
  · intro ρ W ⟨p1, p2, p3⟩ hG hF K hK; (try simp [FactsD] at hF); rw [exec_loadBox row71 (Cd.lk_len k mb) (HLK.out.grow (Gr.tr (Gr.drew _) hG)) rfl hF]; exact hK _ gives_val
  apply chain_eq (D := [(3, none)]) rfl (by kernel_rfl)
  · intro ρ W ⟨p1, p2, p3⟩ hG hF K hK; (try simp [FactsD] at hF); have ⟨hc, hf, hz⟩ := bcell (Gr.tr (Gr.drew _) hG); have hu := HU2.out.grow (Gr.tr (Gr.drew _) hG); have u0 := hu.cell (i := 0) rfl; have u1 := hu.cell (i := 1) rfl; have u2 := hu.cell (i := 2) rfl; have u3 := hu.cell (i := 3) rfl; have ul := hu.lt; go_simp; exact hK _ (gives_val)
  apply chain_eq (D := [(20, some 1), (21, some 0)]) rfl (by kernel_rfl)
  · intro ρ W ⟨p1, p2, p3⟩ hG hF K hK; (try simp [FactsD] at hF); have ⟨hc, hf, hz⟩ := bcell (Gr.tr (Gr.drew _) hG); go_simp; exact hK _ (gives_call (with_any' ⟨k, mb, u⟩ _))
  apply chain_eq (D := [(22, some 0)]) rfl (by kernel_rfl)
  · intro ρ W ⟨p1, p2, p3⟩ hG hF K hK; (try simp [FactsD] at hF); have ⟨hc, hf, hz⟩ := bcell (Gr.tr (Gr.drew _) hG); go_simp; exact hK _ (gives_val)
  apply chain_eq (D := [(19, some 4), (23, some 0)]) rfl (by kernel_rfl)
  · intro ρ W ⟨p1, p2, p3⟩ hG hF K hK; (try simp [FactsD] at hF); have ⟨hc, hf, hz⟩ := bcell (Gr.tr (Gr.drew _) hG); go_simp; exact hK _ (gives_call (HN.out _ (HM.out.grow (Gr.tr (Gr.drew _) hG))))
  apply chain_eq (D := [(24, some 0)]) rfl (by kernel_rfl)
  · intro ρ W ⟨p1, p2, p3⟩ hG hF K hK; (try simp [FactsD] at hF); have ⟨hc, hf, hz⟩ := bcell (Gr.tr (Gr.drew _) hG); go_simp; exact hK _ (gives_val)
  apply chain_eq (D := [(24, some 1)]) rfl (by kernel_rfl)
  · intro ρ W ⟨p1, p2, p3⟩ hG hF K hK; (try simp [FactsD] at hF); have ⟨hc, hf, hz⟩ := bcell (Gr.tr (Gr.drew _) hG); go_simp; exact hK _ (gives_val)
  refine chain_done ?_
  intro vs W hG hV
  obtain ⟨e7, e6, -⟩ := hV
  simp only [Nat.reduceSub] at e6
  simp only [Nat.reduceSub] at e7
  simp only [lay, Act.put, List.getElem?_toArray, List.getElem?_cons_succ, List.getElem?_cons_zero, Option.bind_some, List.setIfInBounds_toArray, List.set_cons_succ, List.set_cons_zero]
  generalize vs 0 = v0
  generalize vs 1 = v1
  generalize vs 2 = v2
  generalize vs 3 = v3
  generalize vs 4 = v4
  generalize vs 5 = v5
  generalize vs 6 = v6 at *
  generalize vs 7 = v7 at *
  subst e6
  subst e7
  obtain ⟨hc, hf, hz⟩ := bcell hG
  have hz4 := HZ2.out.grow hG
  have z0 := hz4.cell (i := 0) rfl
  have z1 := hz4.cell (i := 1) rfl
  have zf := hz4.free
  have zl := hz4.lt
  have HG4 := Lib.hid (HG.out.tr hG)
  clear hz4 hG hc hf hz
  go_wp2
  exact bodyPost_ret (v := .tuple #[.agg #[.int .i64 x, .int .i64 y], .int .i64 er]) (by simp [results, Tryz.results18, go_sem, z0, z1, zf, zl]) rfl ⟨rfl, (HG4.out.setCell (by first | (simp; done) | (simp; omega) | omega) _).setCell (by first | (simp; done) | (simp; omega) | omega) _⟩
end Go.Proofs.YtcngaohfemdfjaaGreat
