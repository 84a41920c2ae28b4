import Derived.Test.YtjlaoiimbhlafaaC31
import Derived.Test.YtjlaoiimbhlafaaC32
set_option linter.unusedVariables false
set_option linter.unusedSimpArgs false
namespace Go.Proofs.Ytjlaoiimbhlafaa
open Go.RowKit Go.Shelf

open MW
attribute [local go_sem] Oper.semAt_some run_store_func
theorem sum_zero : ∀ {l : List Nat}, l.sum = 0 → ∀ x ∈ l, x = 0
  | [], _, x, hx => by cases hx
  | a :: l, h, x, hx => by
    rw [List.sum_cons] at h
    rcases List.mem_cons.1 hx with rfl | hx
    · omega
    · exact sum_zero (by omega) x hx
theorem zero_sum : ∀ {l : List Nat}, (∀ x ∈ l, x = 0) → l.sum = 0
  | [], _ => rfl
  | a :: l, h => by rw [List.sum_cons, h a (List.mem_cons_self ..), zero_sum fun x hx => h x (List.mem_cons_of_mem _ hx)]
theorem least {P : Nat → Prop} : ∀ (N : Nat), P N → ∃ n, n ≤ N ∧ P n ∧ ∀ j, j < n → ¬ P j
  | N, h => by
    by_cases hx : ∃ j, j < N ∧ P j
    · obtain ⟨j, hj, hp⟩ := hx
      obtain ⟨n, h1, h2, h3⟩ := least j hp
      exact ⟨n, by omega, h2, h3⟩
    · exact ⟨N, Nat.le_refl _, h, fun j hj hp => hx ⟨j, hj, hp⟩⟩
theorem cw_all {o : Nat → Nat → Bool} {nR : Nat} : ∀ {is : List Nat} {r : Nat} {h h' : Int}, r ≤ nR → cw o nR is r h ≠ 0 → (is.length : Int) + nR - r ≤ h' → cw o nR is r h' ≠ 0
  | [], r, h, h', hr, h0, hh => by
    unfold cw
    rw [if_neg (by simp at hh; omega)]
    decide
  | i :: is, r, h, h', hr, h0, hh => by
    simp only [List.length_cons, Int.natCast_add, Int.cast_ofNat_Int] at hh
    unfold cw at h0 ⊢
    by_cases hn : h < 0
    · rw [if_pos hn] at h0; exact absurd rfl h0
    rw [if_neg hn] at h0
    rw [if_neg (by omega)]
    by_cases hh10 : (if o i 10 then cw o nR is r (h - 1) else 0) = 0
    · rw [hh10, Nat.add_zero] at h0
      intro hs
      apply h0
      have hs2 : (((List.range nR).filter fun k => decide (r ≤ k) && o i k).map fun k => cw o nR is (k + 1) (h' - (k - r))).sum = 0 := by omega
      refine zero_sum fun x hx => ?_
      obtain ⟨k, hk, rfl⟩ := List.mem_map.1 hx
      have hk2 : k < nR ∧ r ≤ k := by simp at hk; omega
      refine Classical.byContradiction fun hc => ?_
      have := cw_all (h' := h' - (k - r)) (show k + 1 ≤ nR by omega) hc (by omega)
      exact this (sum_zero hs2 _ (List.mem_map.2 ⟨k, hk, rfl⟩))
    · by_cases ho : o i 10
      · rw [if_pos ho] at hh10 ⊢
        have := cw_all (h' := h' - 1) hr hh10 (by omega)
        omega
      · rw [if_neg ho] at hh10; exact absurd rfl hh10
theorem Lk.few_spec {k : Lk} (hk : k.Ok) (h0 : k.all0 ≠ 0) : k.few ≤ k.nL + k.nR ∧ k.few ≤ 20 ∧ k.at_ k.few ≠ 0 ∧ ∀ j : Nat, j < k.few → k.at_ j = 0 := by
  have h1 : k.at_ ((k.nL + k.nR : Nat) : Int) ≠ 0 := by
    unfold Lk.at_ Lk.wy
    exact cw_all (Nat.zero_le _) (show cw (fun i j => (k.all i).testBit j) k.nR (lf 0 k.nL) 0 k.h ≠ 0 from h0) (by rw [lf_len]; omega)
  obtain ⟨n, h2, h3, h4⟩ := least (P := fun n : Nat => k.at_ n ≠ 0) _ h1
  have hL := hk.nL
  have hR := hk.nR
  have e := k.few_is (n := n) (by omega) h3 (fun j hj => Classical.byContradiction fun hc => h4 j hj hc)
  rw [e]
  exact ⟨h2, by omega, h3, fun j hj => Classical.byContradiction fun hc => h4 j hj hc⟩
/-- What Fewest tells. -/
def Rr.fewest (r : Rr) : List (Nat × Nat) × Nat × Int := if r.ok then (if r.lkd.all0 = 0 then ([], 0, 4) else ((r.lkd.wh r.lkd.few).fst, r.lkd.few, 0)) else ([], 0, 1)
def FwPost (w : World) (l : List (Nat × Nat)) (n : Nat) (c : Int) (e : Ending) (w' : World) : Prop := (∃ v, e = .returned (.tuple #[v, .int .i64 n, .int .i64 c]) ∧ w'.ownsRow w.heap.size 55 2 v l.length (l.flatMap pv)) ∧ Below w.heap.size w w'
set_option maxRecDepth 100000 in
set_option maxHeartbeats 2000000 in
theorem fewest_no (r : Rr) (w : World) (hl : MksAt r.L r.lp w) (hr : MksAt r.R r.rp w) (hok : r.ok = false) :
    Calls Try.prog 20 #[r.val] w (FwPost w [] 0 1) := by
  have hzl := Lk.zero.cs_len
  have HR0 := Lib.hid (Box.fresh w r.cs 26)
  have HLK := Lib.hid (fun W (hg : Gr w W) => asks_any r W (hl.grow hg) (hr.grow hg))
  unfold Rr.cs at HR0
  unfold Rr.val at *
  have e0 : r.asked true = (Lk.zero, 1) := by unfold Rr.asked; rw [hok]; rfl
  rw [e0] at HLK
  clear hl hr e0
  dsimp only at HLK
  go_enter Try.func20, Try.ntmps20
  go_wp2_with (first | (with_reducible refine wpList_stopAlloc (ty := 85) rfl ?_; unfold Stop; refine wpList_alloc85 rfl rfl ?_) | (go_at_call 54; refine (HLK.out _ (Gr.alloc _ _)).mono ?_; rintro e w1 ⟨rfl, hb1⟩; have HG1 := Lib.hid (show Gr _ w1 from hb1); have HR1 := Lib.hid (HR0.out.grow hb1); have HT := Lib.hid (Box.fresh w1 Lk.zero.cs 85); clear hb1 HR0) | (with_reducible refine wpList_stopStore (ty := 85) rfl ?_; unfold Stop; refine wpList_storeBox row85 hzl hzl (lk_one _) HT.out rfl rfl rfl rfl ?_; have HT2 := Lib.hid (show Box ((w1.alloc (Obj.cells Lk.zero.cs.toArray 85)).setRow w1.heap.size Lk.zero.cs.toArray) w1.heap.size Lk.zero.cs 85 from HT.out.row (vs := Lk.zero.cs)); have HG2 := Lib.hid (show Gr w1 ((w1.alloc (Obj.cells Lk.zero.cs.toArray 85)).setRow w1.heap.size Lk.zero.cs.toArray) from Gr.row_new w1 _ _ _); generalize (w1.alloc (Obj.cells Lk.zero.cs.toArray 85)).setRow w1.heap.size Lk.zero.cs.toArray = w2 at *; have HR2 := Lib.hid (HR1.out.grow HG2.out); obtain ⟨r0, r1, r2, r3, r4⟩ := cells5 HR2.out; have rl := HR2.out.lt; clear HR1 HT))
  exact bodyPost_ret (v := .tuple #[.slice none 0 0, .int .i64 0, .int .i64 1]) (by simp [results, Try.f20, go_sem]) rfl ⟨⟨_, rfl, World.ownsRow_nil _ _ _ _⟩, (bgr ((Below.refl _ _).alloc (by first | (simp; done) | (simp; omega) | omega) _) (by first | (simp; done) | (simp; omega) | omega) (Gr.tr HG1.out HG2.out))⟩
set_option maxRecDepth 100000 in
set_option maxHeartbeats 2000000 in
theorem fewest_zero (r : Rr) (w : World) (hl : MksAt r.L r.lp w) (hr : MksAt r.R r.rp w) (hok : r.ok = true) (hz : r.lkd.all0 = 0) :
    Calls Try.prog 20 #[r.val] w (FwPost w [] 0 4) := by
  have hzl := Lk.zero.cs_len
  have HR0 := Lib.hid (Box.fresh w r.cs 26)
  have HLK := Lib.hid (fun W (hg : Gr w W) => asks_any r W (hl.grow hg) (hr.grow hg))
  unfold Rr.cs at HR0
  unfold Rr.val at *
  have e0 : r.asked true = (Lk.zero, 4) := by unfold Rr.asked; rw [hok]; simp [hz]
  rw [e0] at HLK
  clear hl hr e0
  dsimp only at HLK
  go_enter Try.func20, Try.ntmps20
  go_wp2_with (first | (with_reducible refine wpList_stopAlloc (ty := 85) rfl ?_; unfold Stop; refine wpList_alloc85 rfl rfl ?_) | (go_at_call 54; refine (HLK.out _ (Gr.alloc _ _)).mono ?_; rintro e w1 ⟨rfl, hb1⟩; have HG1 := Lib.hid (show Gr _ w1 from hb1); have HR1 := Lib.hid (HR0.out.grow hb1); have HT := Lib.hid (Box.fresh w1 Lk.zero.cs 85); clear hb1 HR0) | (with_reducible refine wpList_stopStore (ty := 85) rfl ?_; unfold Stop; refine wpList_storeBox row85 hzl hzl (lk_one _) HT.out rfl rfl rfl rfl ?_; have HT2 := Lib.hid (show Box ((w1.alloc (Obj.cells Lk.zero.cs.toArray 85)).setRow w1.heap.size Lk.zero.cs.toArray) w1.heap.size Lk.zero.cs 85 from HT.out.row (vs := Lk.zero.cs)); have HG2 := Lib.hid (show Gr w1 ((w1.alloc (Obj.cells Lk.zero.cs.toArray 85)).setRow w1.heap.size Lk.zero.cs.toArray) from Gr.row_new w1 _ _ _); generalize (w1.alloc (Obj.cells Lk.zero.cs.toArray 85)).setRow w1.heap.size Lk.zero.cs.toArray = w2 at *; have HR2 := Lib.hid (HR1.out.grow HG2.out); obtain ⟨r0, r1, r2, r3, r4⟩ := cells5 HR2.out; have rl := HR2.out.lt; clear HR1 HT))
  exact bodyPost_ret (v := .tuple #[.slice none 0 0, .int .i64 0, .int .i64 4]) (by simp [results, Try.f20, go_sem]) rfl ⟨⟨_, rfl, World.ownsRow_nil _ _ _ _⟩, (bgr ((Below.refl _ _).alloc (by first | (simp; done) | (simp; omega) | omega) _) (by first | (simp; done) | (simp; omega) | omega) (Gr.tr HG1.out HG2.out))⟩
set_option maxRecDepth 100000 in
set_option maxHeartbeats 2000000 in
theorem fewest_yes (r : Rr) (w : World) (hl : MksAt r.L r.lp w) (hr : MksAt r.R r.rp w) (hok : r.ok = true) (hz : r.lkd.all0 ≠ 0) :
    Calls Try.prog 20 #[r.val] w (FwPost w (r.lkd.wh r.lkd.few).fst r.lkd.few 0) := by
  have hzl := Lk.zero.cs_len
  have HR0 := Lib.hid (Box.fresh w r.cs 26)
  have HLK := Lib.hid (fun W (hg : Gr w W) => asks_any r W (hl.grow hg) (hr.grow hg))
  unfold Rr.cs at HR0
  unfold Rr.val at *
  have e0 : r.asked true = (r.lkd, 0) := by unfold Rr.asked; rw [hok]; simp [hz]
  rw [e0] at HLK
  clear hl hr e0
  dsimp only at HLK
  have hkl := r.lkd.cs_len
  have HOK := Lib.hid (Rr.lkd_ok hok)
  have HFE := Lib.hid (fun W => fewest_any r.lkd W HOK.out hz)
  obtain ⟨hf1, hf2, -, -⟩ := Lk.few_spec HOK.out hz
  have HFI := Lib.hid (fun W => first_any (r.lkd.wh r.lkd.few) W (HOK.out.wh (by omega)) (show (r.lkd.few : Int) ≤ (r.lkd.nL : Int) + r.lkd.nR by omega))
  generalize hnf : r.lkd.few = nf at *
  clear hz hnf
  go_enter Try.func20, Try.ntmps20
  go_wp2_with (first | (with_reducible refine wpList_stopAlloc (ty := 85) rfl ?_; unfold Stop; refine wpList_alloc85 rfl rfl ?_) | (go_at_call 54; refine (HLK.out _ (Gr.alloc _ _)).mono ?_; rintro e w1 ⟨rfl, hb1⟩; have HG1 := Lib.hid (show Gr _ w1 from hb1); have HR1 := Lib.hid (HR0.out.grow hb1); have HT := Lib.hid (Box.fresh w1 Lk.zero.cs 85); clear hb1 HR0) | (with_reducible refine wpList_stopStore (ty := 85) rfl ?_; unfold Stop; refine wpList_storeBox row85 hkl hzl (lk_one _) HT.out rfl rfl rfl rfl ?_; have HT2 := Lib.hid (show Box ((w1.alloc (Obj.cells Lk.zero.cs.toArray 85)).setRow w1.heap.size r.lkd.cs.toArray) w1.heap.size r.lkd.cs 85 from HT.out.row (vs := r.lkd.cs)); have HG2 := Lib.hid (show Gr w1 ((w1.alloc (Obj.cells Lk.zero.cs.toArray 85)).setRow w1.heap.size r.lkd.cs.toArray) from Gr.row_new w1 _ _ _); generalize (w1.alloc (Obj.cells Lk.zero.cs.toArray 85)).setRow w1.heap.size r.lkd.cs.toArray = w2 at *; have HR2 := Lib.hid (HR1.out.grow HG2.out); obtain ⟨r0, r1, r2, r3, r4⟩ := cells5 HR2.out; have rl := HR2.out.lt; clear HR1 HT) | (with_reducible refine wpList_stopLoad (ty := 85) rfl ?_; unfold Stop; refine wpList_loadBox row85 (r.lkd.cs_len) (HT2.out) rfl rfl rfl ?_) | (go_at_call 55; refine (HFE.out _).mono ?_; rintro e w4 ⟨rfl, hb4⟩; have HG4 := Lib.hid (show Gr _ w4 from hb4); have HT4 := Lib.hid (HT2.out.grow hb4); have f4 := HT4.out.free (i := 4); have z4 := HT4.out.cell (Lk.c4 _); have l4 := HT4.out.lt; clear hb4 HT2))
  have hs1 : w.heap.size + 1 ≤ w1.heap.size := by have := HG1.out.size; simpa using this
  have HT5 := Lib.hid (show Box (w4.setCell ⟨w1.heap.size, 4, none⟩ (.int .i64 nf)) w1.heap.size (r.lkd.wh nf).cs 85 by
    rw [← r.lkd.wh_set r.lkd.h, r.lkd.wh_self]
    exact HT4.out.put 4 _)
  have HB5 := Lib.hid (show Below w.heap.size w (w4.setCell ⟨w1.heap.size, 4, none⟩ (.int .i64 nf)) from (bgr ((Below.refl _ _).alloc (by first | (simp; done) | (simp; omega) | omega) _) (by first | (simp; done) | (simp; omega) | omega) (Gr.tr HG1.out (Gr.tr HG2.out HG4.out))).setCell (by simp; omega) _)
  have hkl5 := (r.lkd.wh nf).cs_len
  have z5 : (r.lkd.wh nf).cs[4]? = some (.int .i64 nf) := Lk.c4 _
  clear z4 f4 l4 HT4 r0 r1 r2 r3 r4 rl
  have hs5 : w.heap.size ≤ w4.heap.size := by have := HG2.out.size; have := HG4.out.size; omega
  have hs6 : (w4.setCell ⟨w1.heap.size, 4, none⟩ (.int .i64 nf)).heap.size = w4.heap.size := by simp
  generalize w4.setCell ⟨w1.heap.size, 4, none⟩ (.int .i64 nf) = w5 at *
  refine region2 8 ?_ ?_ ?_
  · kernel_rfl
  · kernel_rfl
  simp only [List.take_succ_cons, List.take_zero, List.drop_succ_cons, List.drop_zero]
  apply chain_eq (D := [(5, none)]) rfl (by kernel_rfl)
  · intro ρ W4 ⟨p1, p2, p3⟩ hG hF K hK; (try simp [FactsD] at hF); have hD := Gr.tr (Gr.drew _) hG; rw [exec_loadBox row85 hkl5 (HT5.out.grow hD) rfl hF]; exact hK _ gives_val
  apply chain_any (V := (fun v W' => W'.ownsRow w.heap.size 55 2 v (r.lkd.wh nf).fst.length ((r.lkd.wh nf).fst.flatMap pv))) (D := [(18, some 0)]) rfl (by kernel_rfl) (fun v W W' h hg => own_gr h hg)
  · intro ρ W4 ⟨p1, p2, p3⟩ hG hF K hK; (try simp [FactsD] at hF); have hD := Gr.tr (Gr.drew _) hG; have hW4 := hD.size; go_simp; exact hK _ (gives_rel ((HFI.out _).mono fun e W' ⟨⟨v, h1, h2⟩, h3⟩ => ⟨⟨v, h1, own_base h2 (by omega)⟩, h3⟩))
  apply chain_eq (D := [(5, none)]) rfl (by kernel_rfl)
  · intro ρ W4 ⟨p1, p2, p3⟩ hG hF K hK; (try simp [FactsD] at hF); have hD := Gr.tr (Gr.drew _) hG; go_simp; exact hK _ (gives_val)
  apply chain_eq (D := [(20, some 0)]) rfl (by kernel_rfl)
  · intro ρ W4 ⟨p1, p2, p3⟩ hG hF K hK; (try simp [FactsD] at hF); have hD := Gr.tr (Gr.drew _) hG; go_simp; exact hK _ (gives_val)
  apply chain_eq (D := [(21, some 0)]) rfl (by kernel_rfl)
  · intro ρ W4 ⟨p1, p2, p3⟩ hG hF K hK; (try simp [FactsD] at hF); have hD := Gr.tr (Gr.drew _) hG; have q0 := (HT5.out.grow hD).cell z5; go_simp; exact hK _ (gives_val)
  apply chain_any (V := (fun v W' => W'.ownsRow w.heap.size 55 2 v (r.lkd.wh nf).fst.length ((r.lkd.wh nf).fst.flatMap pv))) (D := [(19, some 3)]) rfl (by kernel_rfl) (fun v W W' h hg => own_gr h hg)
  · intro ρ W4 ⟨p1, p2, p3⟩ hG hF K hK; (try simp [FactsD] at hF); have hD := Gr.tr (Gr.drew _) hG; go_simp; exact hK _ ⟨hF, Gr.same _⟩
  apply chain_eq (D := [(22, some 1)]) rfl (by kernel_rfl)
  · intro ρ W4 ⟨p1, p2, p3⟩ hG hF K hK; (try simp [FactsD] at hF); have hD := Gr.tr (Gr.drew _) hG; go_simp; exact hK _ (gives_val)
  apply chain_eq (D := []) rfl (by kernel_rfl)
  · intro ρ W4 ⟨p1, p2, p3⟩ hG hF K hK; (try simp [FactsD] at hF); have hD := Gr.tr (Gr.drew _) hG; go_simp; exact hK _ (gives_val)
  refine chain_done ?_
  intro vs W4 hG hV
  obtain ⟨e7, e6, e5, -⟩ := hV
  simp only [Nat.reduceSub] at e5 e6 e7
  simp only [lay, Act.put, List.getElem?_toArray, List.getElem?_cons_succ, List.getElem?_cons_zero, Option.bind_some, List.setIfInBounds_toArray, List.set_cons_succ, List.set_cons_zero]
  generalize vs 0 = v0
  generalize vs 1 = v1
  generalize vs 2 = v2
  generalize vs 3 = v3
  generalize vs 4 = v4
  generalize vs 5 = v5 at *
  generalize vs 6 = v6 at *
  generalize vs 7 = v7 at *
  subst e6
  subst e7
  go_wp2_with fail
  exact bodyPost_ret (v := .tuple #[v5, .int .i64 nf, .int .i64 0]) (by simp [results, Try.f20, go_sem]) rfl ⟨⟨_, rfl, e5⟩, bgr HB5.out (by omega) hG⟩
theorem Fewest_any (r : Rr) (w : World) (hl : MksAt r.L r.lp w) (hr : MksAt r.R r.rp w) :
    Calls Try.prog 20 #[r.val] w (FwPost w r.fewest.1 r.fewest.2.1 r.fewest.2.2) := by
  unfold Rr.fewest
  cases h : r.ok with
  | false => exact fewest_no r w hl hr h
  | true =>
    by_cases hz : r.lkd.all0 = 0
    · simp only [if_pos hz, if_true]
      exact fewest_zero r w hl hr h hz
    · simp only [if_neg hz, if_true]
      exact fewest_yes r w hl hr h hz

end Go.Proofs.Ytjlaoiimbhlafaa
