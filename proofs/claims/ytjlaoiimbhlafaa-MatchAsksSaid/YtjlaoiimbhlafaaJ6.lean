import Derived.Test.YtjlaoiimbhlafaaJ5
import Derived.Laws.StructEq
set_option linter.unusedVariables false
set_option linter.unusedSimpArgs false
namespace Go.Proofs.Ytjlaoiimbhlafaa
open Go.RowKit Go.Shelf

open MW
attribute [local go_sem] Oper.semAt_some run_store_func
attribute [local go_sem ↓] Go.wp_at_zero Go.wp_at_succ

set_option maxRecDepth 100000 in
set_option maxHeartbeats 8000000 in
theorem ways_step (r : Rr) (w0 : World) (hok : r.ok = true) (hl : MksAt r.L r.lp w0) (hr : MksAt r.R r.rp w0) (i : Nat) (hi : i ≤ r.L.length) (hih : ∀ j, i < j → j ≤ r.L.length → WsOk r w0 j) : WsOk r w0 i := by
  intro k b v l o Wa hk hG0 hP hbl hO hn
  obtain ⟨p, c, rfl⟩ := own_slice hP.choose_spec
  obtain ⟨p1, p2, -⟩ := Rr.ok_parts hok
  have H58 := Lib.hid (fun W => hidden58_any r p b.length c W (by omega) (by omega) (by omega))
  unfold Rr.val at H58
  have HB := Lib.hid (Box.fresh Wa r.cs 26)
  have HG := Lib.hid (show Gr Wa (Wa.alloc (Obj.cells r.cs.toArray 26)) from Gr.alloc _ _)
  have HO := Lib.hid hO
  have HALL := Lib.hid (And.intro hok (And.intro hl (And.intro hr (And.intro hih (And.intro hG0 (And.intro hP hn))))))
  have HFW := Lib.hid (show few r.L.length r.R.length r.h b = decide ((r.L.length : Int) + r.R.length - 2 * b.length ≤ r.h) from rfl)
  have HRM := Lib.hid (show (l ++ (if few r.L.length r.R.length r.h b then [b] else [])).length ≤ 1000000 by
    have := hn
    rw [wl_eq] at this
    have h2 := out_mono (fit := r.fitm) (nL := r.L.length) (nR := r.R.length) (H := r.h) (b := b) (r := k) (Nat.le_refl i) hi
    rw [out_start] at h2
    rw [List.length_append] at this ⊢
    omega)
  clear hG0 hP hO hn hok hl hr hih
  unfold Rr.cs at HB HG
  unfold Rr.val at *
  obtain ⟨r0, r1, r2, r3, r4⟩ := cells5 HB.out
  have rl := HB.out.lt
  go_enter Try.func99, Try.ntmps99
  apply wp_seq_k
  intro K1 hK1
  have HK1 := Lib.hid hK1
  clear hK1
  go_wp2_with fail
  refine HK1.out _ _ ?_
  clear HK1
  apply wp_seq_k
  intro K2 hK2
  have HK2 := Lib.hid hK2
  clear hK2 r0 r1 r2 r3 r4 rl
  generalize Wa.alloc (Obj.cells #[.slice r.lp r.L.length r.lc, .slice r.rp r.R.length r.rc, .int .i64 r.s, .int .i64 r.t, .int .i64 r.h] 26) = W1 at *
  go_wp2_with fail
  refine region2 5 ?_ ?_ ?_
  · kernel_rfl
  · kernel_rfl
  simp only [List.take_succ_cons, List.take_zero, List.drop_succ_cons, List.drop_zero]
  apply chain_eq (D := [(5, none)]) rfl (by kernel_rfl)
  · intro ρ W ⟨p1, p2, p3⟩ hG hF K hK; (try simp [FactsD] at hF); have ⟨hc, hf, hz⟩ := bcell (Gr.tr (Gr.drew _) hG); have HBW := HB.out.grow (Gr.tr (Gr.drew _) hG); obtain ⟨z0, z1, z2, z3, z4⟩ := cells5 HBW; have zl := HBW.lt; go_simp; exact hK _ (gives_val)
  apply chain_eq (D := [(1, none)]) rfl (by kernel_rfl)
  · intro ρ W ⟨p1, p2, p3⟩ hG hF K hK; (try simp [FactsD] at hF); have ⟨hc, hf, hz⟩ := bcell (Gr.tr (Gr.drew _) hG); go_simp; exact hK _ (gives_val)
  apply chain_eq (D := [(13, some 1), (14, some 0)]) rfl (by kernel_rfl)
  · intro ρ W ⟨p1, p2, p3⟩ hG hF K hK; (try simp [FactsD] at hF); have ⟨hc, hf, hz⟩ := bcell (Gr.tr (Gr.drew _) hG); go_simp; exact hK _ (gives_call (H58.out _))
  apply chain_eq (D := [(5, none)]) rfl (by kernel_rfl)
  · intro ρ W ⟨p1, p2, p3⟩ hG hF K hK; (try simp [FactsD] at hF); have ⟨hc, hf, hz⟩ := bcell (Gr.tr (Gr.drew _) hG); have HBW := HB.out.grow (Gr.tr (Gr.drew _) hG); obtain ⟨z0, z1, z2, z3, z4⟩ := cells5 HBW; have zl := HBW.lt; go_simp; exact hK _ (gives_val)
  apply chain_eq (D := [(16, some 0)]) rfl (by kernel_rfl)
  · intro ρ W ⟨p1, p2, p3⟩ hG hF K hK; (try simp [FactsD] at hF); have ⟨hc, hf, hz⟩ := bcell (Gr.tr (Gr.drew _) hG); have HBW := HB.out.grow (Gr.tr (Gr.drew _) hG); obtain ⟨z0, z1, z2, z3, z4⟩ := cells5 HBW; have zl := HBW.lt; go_simp; exact hK _ (gives_val)
  refine chain_done ?_
  intro vs W hG hV
  obtain ⟨e4, e3, e2, e1, e0, -⟩ := hV
  simp only [Nat.reduceSub] at e0
  simp only [Nat.reduceSub] at e1
  simp only [Nat.reduceSub] at e2
  simp only [Nat.reduceSub] at e3
  simp only [Nat.reduceSub] at e4
  simp only [lay, Act.put, List.getElem?_toArray, List.getElem?_cons_succ, List.getElem?_cons_zero, Option.bind_some, List.setIfInBounds_toArray, List.set_cons_succ, List.set_cons_zero]
  generalize vs 0 = v0 at *
  generalize vs 1 = v1 at *
  generalize vs 2 = v2 at *
  generalize vs 3 = v3 at *
  generalize vs 4 = v4 at *
  subst e0
  subst e1
  subst e2
  subst e3
  subst e4
  obtain ⟨hc, hf, hz⟩ := bcell hG
  have HGW := Lib.hid (show Gr W1 W from hG)
  have HO2 := Lib.hid ((HO.out.gr HG.out).gr HGW.out)
  have HP2 := Lib.hid (HALL.out.2.2.2.2.2.1.kp (Kp.gr (HG.out.tr HGW.out)))
  have HB2 := Lib.hid (HB.out.grow HGW.out)
  clear hc hf hz hG HO
  cases hf : few r.L.length r.R.length r.h b with
  | false =>
    have e1 : decide ((r.L.length : Int) + r.R.length - 2 * b.length ≤ r.h) = false := by rw [← HFW.out, hf]
    rw [hf] at HRM
    have HF := Lib.hid hf
    clear hf
    go_wp2_with fail
    obtain ⟨q1, q2, q3, q4, q5, q6, q7⟩ := HALL.out
    exact HK2.out _ _ (ways_loop2 r w0 Wa W l b _ o i k _ q1 q2 q3 q4 hi hk HB2.out (q5.tr (HG.out.tr HGW.out)) (Kp.gr (HG.out.tr HGW.out)) HP2.out hbl (by rw [out_start, HF.out]; simpa using HO2.out) q7)
  | true =>
    have e1 : decide ((r.L.length : Int) + r.R.length - 2 * b.length ≤ r.h) = true := by rw [← HFW.out, hf]
    rw [hf] at HRM
    have HF := Lib.hid hf
    clear hf
    obtain ⟨hs, ho1, ho2⟩ := HO2.out
    obtain ⟨i0, ii0, iz0, iz1, iz2⟩ := infoP info34
    have II0 := Lib.hid ii0
    have IZ0 := Lib.hid iz0
    have IZ1 := Lib.hid iz1
    have IZ2 := Lib.hid iz2
    have HO3 := Lib.hid (own_gr ho1 (Gr.alloc W (Obj.cells #[.slice p b.length c] 34)))
    have HO4 := Lib.hid ho2
    clear ii0 iz0 iz1 iz2 ho1 ho2 HO2
    go_wp2_with (first | (at_builtin; refine wpList_append_own _ rfl _ _ 90 rfl w0.heap.size 34 i0 _ 1 24 Try.underlying90 II0.out IZ0.out IZ1.out IZ2.out rfl (by decide) _ _ _ rfl HO3.out ⟨W.heap.size, 0, none⟩ 1 1 [.slice p b.length c] rfl rfl ?c1 ?c2 ?c3 ?c4 ?c5 ?_))
    case c2 => rfl
    case c3 => have := HRM.out; simp at this; unfold maxLen; omega
    case c4 => have := HRM.out; simp at this; omega
    case c5 =>
      have h1 := (HALL.out.2.2.2.2.1).size
      have h2 := HG.out.size
      have h3 := HGW.out.size
      simp
      omega
    intro v' w7 hown hgrow hnil
    clear hnil
    replace hgrow : (W.alloc (Obj.cells #[.slice p b.length c] 34)).grownBy w7 o.ownBlock := hgrow
    have HK7 := Lib.hid ((Kp.gr (Gr.alloc W (Obj.cells #[.slice p b.length c] 34))).tr (Kp.grown HO3.out hgrow))
    have HG7 := Lib.hid (show Gr w0 w7 from (show Below w0.heap.size w0 (W.alloc (Obj.cells #[.slice p b.length c] 34)) from (HALL.out.2.2.2.2.1.tr (HG.out.tr HGW.out)).tr (Gr.alloc _ _)).grown hgrow (by
      have h1 := (HALL.out.2.2.2.2.1).size
      have h2 := HG.out.size
      have h3 := HGW.out.size
      simp
      omega) (fun q e => (own_blk HO3.out e.symm).1))
    have HO7 := Lib.hid (show OutAt w0.heap.size v' (l ++ [b]) w7 from ⟨hs ++ [.slice p b.length c], by simpa using hown, (HO4.out.kp HK7.out).snoc (HP2.out.kp HK7.out)⟩)
    clear hown hgrow
    go_wp2_with fail
    obtain ⟨q1, q2, q3, q4, q5, q6, q7⟩ := HALL.out
    exact HK2.out _ _ (ways_loop2 r w0 Wa w7 l b _ v' i k _ q1 q2 q3 q4 hi hk (HB2.out.kp (by decide) HK7.out) HG7.out ((Kp.gr (HG.out.tr HGW.out)).tr HK7.out) (HP2.out.kp HK7.out) hbl (by rw [out_start, HF.out]; exact HO7.out) q7)
/-- The recursion gives all ways that go on from some pairs. -/
theorem ways_all (r : Rr) (w0 : World) (hok : r.ok = true) (hl : MksAt r.L r.lp w0) (hr : MksAt r.R r.rp w0) : ∀ m i : Nat, r.L.length - i = m → i ≤ r.L.length → WsOk r w0 i := by
  intro m
  induction m using Nat.strongRecOn with
  | _ m ih =>
    intro i hm hi
    exact ways_step r w0 hok hl hr i hi fun j hj hjl => ih (r.L.length - j) (by omega) j rfl hjl

end Go.Proofs.Ytjlaoiimbhlafaa
