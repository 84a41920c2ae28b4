import Derived.Test.YtjlaoiimbhlafaaC11
set_option linter.unusedVariables false
set_option linter.unusedSimpArgs false
namespace Go.Proofs.Ytjlaoiimbhlafaa
open Go.RowKit Go.Shelf

open MW
attribute [local go_sem] Oper.semAt_some
set_option maxRecDepth 100000 in
set_option maxHeartbeats 2000000 in
theorem marksL_any (lk : Lk) (many : Nat) (f : Nat → Bool) (S : List Nat) (b1 b2 y : Nat) (J Jx : List (Wt many f) → World → Prop) (W : World) (hmany : many ≤ 20)
    (hf : ∀ W', KeepAt S W W' → ∀ k : Nat, k < many → Calls Try.prog 64 #[.agg lk.cs.toArray, .int .i64 k] W' fun e w' => e = .returned (.bool (f k)) ∧ Below W'.heap.size W' w')
    (hAJ : ∀ s A B, J s A → Gr A B → J s B)
    (hY : ∀ pre x W, J pre W → pre.length < 1000 → YieldAt Fence.wide 7 Try.prog y (encW x) W fun e W' =>
      (e = .returned (.bool true) ∧ J (pre ++ [x]) W' ∧ KeepAt (b1 :: b2 :: S) W W') ∨ (e = .returned (.bool false) ∧ Jx (pre ++ [x]) W'))
    (hb1 : Box W b1 [.int .i64 many] 3) (hb2 : Box W b2 [.func (.func 64) #[.agg lk.cs.toArray] #[]] 102) (h0 : J [] W) :
    CallsIn Fence.wide 8 Try.prog 107 #[.func (.yield y) #[] #[], .pointer (some ⟨b1, 0, none⟩), .pointer (some ⟨b2, 0, none⟩)] W fun e W' => (∃ v, e = .returned v) ∧
      ((∃ ys : List (Wt many f), ys.map Wt.v = wts many f ∧ J ys W') ∨ (∃ pre : List (Wt many f), (∃ rest, wts many f = pre.map Wt.v ++ rest) ∧ Jx pre W')) := by
  have HF := Lib.hid hf
  have HAJ := Lib.hid hAJ
  have HY := Lib.hid hY
  have HB1 := Lib.hid hb1
  have HB2 := Lib.hid hb2
  have H0 := Lib.hid h0
  have c0 := hb1.cell (i := 0) rfl
  have l0 := hb1.lt
  clear hf hAJ hY hb1 hb2 h0
  refine callsIn_of_wp Try.func107 rfl trivial ?_ rfl
  simp only [Try.ntmps107, List.size_toArray, List.length_cons, List.length_nil, Nat.reduceAdd, Nat.reduceSub, Array.replicate_succ, Array.replicate_zero, List.push_toArray, List.append_toArray, List.nil_append, List.cons_append]
  gi_wp2
  gi_loopw [6] (fun t wr => ∃ i : Nat, i ≤ many ∧ t = .int .i64 i ∧ Hid (∃ ys : List (Wt many f), ys.map Wt.v = wts i f ∧ J ys wr) ∧ KeepAt (b1 :: b2 :: S) W wr) (fun t _ => (50 - intOf t).toNat)
  case atStart => exact ⟨0, Nat.zero_le _, rfl, Lib.hid ⟨[], rfl, H0.out⟩, KeepAt.refl _ _⟩
  case round =>
    obtain ⟨i, hi, rfl, HJ, hK⟩ := hrel
    have HK := Lib.hid hK
    clear hK c0 l0
    have c2 := (HK.out.box HB2.out (by simp)).cell (i := 0) rfl
    have l2 := (HK.out.box HB2.out (by simp)).lt
    by_cases hlt : i < many
    · have HS := Lib.hid (wts_succ i f)
      obtain ⟨ys, hys, hJ⟩ := HJ.out
      have hyl : ys.length < 1000 := by
        have h1 := congrArg List.length hys
        have h2 := wts_len i f
        rw [List.length_map] at h1
        omega
      have HYS := Lib.hid hys
      have HJ2 := Lib.hid hJ
      have HC := Lib.hid (HF.out wr (HK.out.mono fun k hk => by simp [hk]) i hlt)
      clear hys hJ
      cases hfi : f i with
      | true =>
        have HFI := Lib.hid hfi
        rw [hfi] at HS HC
        clear hfi
        gi_wp2_with (refine ⟨trivial, ?_⟩; gi_at_call 64; refine (callsIn_wide.2 HC.out).mono ?_; rintro e w2 ⟨rfl, hb2⟩; have HG2 := Lib.hid (show Gr wr w2 from hb2); obtain ⟨hc2, hf2, hz2⟩ := bcell HG2.out; clear hb2; obtain ⟨fn3, t3, a3, b3, hy3, hR3⟩ := HY.out ys ⟨i, hlt, HFI.out⟩ w2 (HAJ.out _ _ _ HJ2.out HG2.out) hyl; dsimp only [encW] at hy3)
        refine hR3.mono ?_
        rintro e W3 (⟨rfl, hJ3, hk3⟩ | ⟨rfl, hx3⟩)
        · have HJ3 := Lib.hid hJ3
          have HK3 := Lib.hid (HK.out.trans ((KeepAt.of HG2.out).trans hk3))
          clear hJ3 hk3 hy3 hR3 hc2 hf2 hz2 c2
          gi_wp2
          refine ⟨⟨i + 1, by omega, by go_num, Lib.hid ⟨_, ?_, HJ3.out⟩, HK3.out⟩, by simp [intOf]; omega⟩
          rw [HS.out, List.map_append, HYS.out]
          rfl
        · gi_wp2
          refine bodyPost_ret (results_none rfl _ _ _) rfl ?_
          obtain ⟨rest, hrest⟩ := wts_pre f (show i + 1 ≤ many by omega)
          refine ⟨⟨_, rfl⟩, .inr ⟨_, ⟨rest, ?_⟩, hx3⟩⟩
          rw [List.map_append, HYS.out, hrest, HS.out]
          rfl
      | false =>
        rw [hfi] at HS HC
        clear hfi
        gi_wp2_with (refine ⟨trivial, ?_⟩; gi_at_call 64; refine (callsIn_wide.2 HC.out).mono ?_; rintro e w2 ⟨rfl, hb2⟩; have HG2 := Lib.hid (show Gr wr w2 from hb2); clear hb2)
        refine ⟨fun _ h => (by cases h), ?_⟩
        gi_wp2
        refine ⟨⟨i + 1, by omega, by go_num, Lib.hid ⟨ys, ?_, HAJ.out _ _ _ HJ2.out HG2.out⟩, HK.out.trans (KeepAt.of HG2.out)⟩, by simp [intOf]; omega⟩
        rw [HS.out, HYS.out]
        simp
    · have hil : i = many := by omega
      have HIL := Lib.hid hil
      clear hil
      gi_wp2
      go_end0
      obtain ⟨ys, hys, hJ⟩ := HJ.out
      refine ⟨⟨_, rfl⟩, .inl ⟨ys, ?_, hJ⟩⟩
      rw [hys, HIL.out]
/-- As an iterator that may be left. -/
theorem marksL_stops (lk : Lk) (many : Nat) (f : Nat → Bool) (S : List Nat) (b1 b2 n : Nat) (w : World) (hmany : many ≤ 20)
    (hf : ∀ W', KeepAt S w W' → ∀ k : Nat, k < many → Calls Try.prog 64 #[.agg lk.cs.toArray, .int .i64 k] W' fun e w' => e = .returned (.bool (f k)) ∧ Below W'.heap.size W' w')
    (hb1 : Box w b1 [.int .i64 many] 3) (hb2 : Box w b2 [.func (.func 64) #[.agg lk.cs.toArray] #[]] 102) :
    SeqStopsK Fence.wide n Try.prog 107 #[.pointer (some ⟨b1, 0, none⟩), .pointer (some ⟨b2, 0, none⟩)] (encW (many := many) (f := f)) (KeepAt (b1 :: b2 :: S)) (fun ys => ys.map Wt.v = wts many f) (fun pre => ∃ rest, wts many f = pre.map Wt.v ++ rest) 1000 w :=
  SeqStopsK.depth (n := 8) rfl fun y J Jx W hW hAJ _hAX hY h0 =>
    marksL_any lk many f S b1 b2 y J Jx W hmany (fun W' hK => hf W' ((KeepAt.of hW).trans hK)) (fun s A B h hg => hAJ s A B none h (Gr.gro hg) (fun r e => by cases e)) hY (hb1.grow hW) (hb2.grow hW) h0

set_option maxRecDepth 100000 in
set_option maxHeartbeats 2000000 in
theorem gatherL_any (lk : Lk) (many : Nat) (f : Nat → Bool) (S : List Nat) (w : World) (hmany : many ≤ 11) (hS : ∀ k ∈ S, k < w.heap.size)
    (hf : ∀ W', KeepAt S w W' → ∀ k : Nat, k < many → Calls Try.prog 64 #[.agg lk.cs.toArray, .int .i64 k] W' fun e w' => e = .returned (.bool (f k)) ∧ Below W'.heap.size W' w') :
    Calls Try.prog 63 #[.int .i64 many, .func (.func 64) #[.agg lk.cs.toArray] #[]] w fun e w' => e = .returned (.int .i64 (gat f many : Nat)) ∧ Below w.heap.size w w' := by
  have HF := Lib.hid hf
  have HSS := Lib.hid hS
  have HRT := Lib.hid (fun W => marks_ret many (.func 64) #[.agg lk.cs.toArray] #[] W)
  have HGW := Lib.hid (gat_wts f many)
  clear hf hS
  refine (callsIn_wide (n := 9)).1 ?_
  refine callsIn_of_wp_marks Try.func63 rfl trivial ?_ rfl
  simp only [Try.ntmps63, List.size_toArray, List.length_cons, List.length_nil, Nat.reduceAdd, Nat.reduceSub, Array.replicate_succ, Array.replicate_zero, List.push_toArray, List.append_toArray, List.nil_append, List.cons_append]
  refine wpIn_wide.2 ?_
  go_wp2_with (go_at_call 67; refine (HRT.out _).mono ?_; rintro e w1 ⟨rfl, hm1, hm2, hb1⟩)
  have hG1 : Gr w w1 := (Gr.alloc _ _).tr hb1
  have hR5 : Box w1 w.heap.size [.int .i64 0] 81 := (Box.fresh w [.int .i64 0] 81).grow hb1
  replace hm1 : Box w1 (w.heap.size + 1) [.int .i64 many] 3 := by simpa using hm1
  replace hm2 : Box w1 (w.heap.size + 1 + 1) [.func (.func 64) #[.agg lk.cs.toArray] #[]] 102 := by simpa using hm2
  have hw1 : w.heap.size + 1 + 1 < w1.heap.size := hm2.lt
  have HG1 := Lib.hid hG1
  have HR5 := Lib.hid hR5
  have HM1 := Lib.hid hm1
  have HM2 := Lib.hid hm2
  clear hG1 hR5 hm1 hm2 hb1
  refine (wpIn_wide (n := 9)).1 ?_
  refine wpIn_rangeOwn rfl (by omega) (gf := 107) (lb := #[.pointer (some ⟨w.heap.size + 1, 0, none⟩), .pointer (some ⟨w.heap.size + 1 + 1, 0, none⟩)]) rfl trivial (enters_of Try.func107 (by kernel_rfl) rfl)
    (SeqStopsK.own (marksL_stops lk many f S (w.heap.size + 1) (w.heap.size + 1 + 1) _ w1 (by omega) (fun W' hK k hk => HF.out W' ((KeepAt.of HG1.out).trans hK) k hk) HM1.out HM2.out)) (Gr.same _) KeepAt.trans
    (fun W o' => KeepAt.putObj W _ o' (by simp only [List.mem_cons, not_or]; exact ⟨by omega, by omega, fun h => by have := HSS.out _ h; omega⟩)) (fun _ => rfl)
    (GaI w) (fun _ _ _ => False) (GaI.own w (by omega)) (fun _ _ _ _ _ hs _ _ => hs) ⟨HR5.out, HG1.out⟩
    (fun x a' W => a' = { tmps := #[.int .i64 many, .func (.func 64) #[.agg lk.cs.toArray] #[], undef, undef, .int .i64 0, .pointer (some ⟨w.heap.size, 0, none⟩), .int .i64 x.v, .int .i64 many, .func (.func 64) #[.agg lk.cs.toArray] #[], marksV (w.heap.size + 1) (w.heap.size + 1 + 1), .int .i64 x.v, undef, undef, undef, undef, undef, undef], defers := [] }) (fun x a' => fun _ _ _ _ h _ _ => h) ?assign ?body ?done ?stop
  case assign =>
    intro y pre x W K hi hK
    have HI := Lib.hid hi
    clear hi
    unfold encW
    gi_wp2
    exact hK _ _ (KeepsOthers.refl _ |>.from _) (KeepAt.refl _ _) HI.out rfl
  case body =>
    rintro y pre x a' W hyl - ⟨h5, hBW⟩ rfl hN
    have H5 := Lib.hid h5
    have HBW := Lib.hid hBW
    have hx := x.lt
    have hlt : gatl (pre.map Wt.v) < 2048 := gatl_lt fun k hk => by
      obtain ⟨z, -, rfl⟩ := List.mem_map.1 hk
      have := z.lt
      omega
    have HC := Lib.hid (fun W => setOf_any x.v W (by omega))
    have HJ := Lib.hid (fun W g T hb => join_any (gatl (pre.map Wt.v)) (2 ^ x.v) g W T hlt (pow11 x.v (by omega)).1 hb)
    have hsn := gatl_snoc (pre.map Wt.v) x.v
    have hmp : (pre ++ [x]).map Wt.v = pre.map Wt.v ++ [x.v] := by simp
    rw [← hmp] at hsn
    have HSN := Lib.hid hsn
    clear h5 hBW hmp hsn hlt
    generalize gatl (pre.map Wt.v) = s at *
    generalize hn : s ||| 2 ^ x.v = nw at *
    generalize 2 ^ x.v = p at *
    gi_wp2_with fail
    refine region2_in 5 ?_ ?_ ?_ ?_ ?_
    · kernel_rfl
    · kernel_rfl
    · kernel_rfl
    · rintro ⟨_, _, h⟩; exact h
    simp only [List.take_succ_cons, List.take_zero, List.drop_succ_cons, List.drop_zero]
    apply chain_eq (D := [(5, none)]) rfl (by kernel_rfl)
    · intro ρ W4 ⟨p1, p2, p3⟩ hG hF K hK; (try simp [FactsD] at hF); have hD := Gr.tr (Gr.drew _) hG; have z0 := (H5.out.grow hD).cell (i := 0) rfl; go_simp; exact hK _ (gives_val)
    apply chain_eq (D := [(6, none)]) rfl (by kernel_rfl)
    · intro ρ W4 ⟨p1, p2, p3⟩ hG hF K hK; (try simp [FactsD] at hF); have hD := Gr.tr (Gr.drew _) hG; go_simp; exact hK _ (gives_val)
    apply chain_eq (D := [(12, some 0)]) rfl (by kernel_rfl)
    · intro ρ W4 ⟨p1, p2, p3⟩ hG hF K hK; (try simp [FactsD] at hF); have hD := Gr.tr (Gr.drew _) hG; go_simp; exact hK _ (gives_call (HC.out _))
    refine chain_any (V := Two s p) (D := [(11, some 2), (13, some 0)]) rfl (by kernel_rfl) (Two.lasts _ _) ?_ ?_
    · intro ρ W4 ⟨p1, p2, p3⟩ hG hF K hK; (try simp [FactsD] at hF); have hD := Gr.tr (Gr.drew _) hG; go_simp; exact hK _ (⟨⟨_, _, rfl, Box.fresh _ [.int .i64 (s : Int), .int .i64 (p : Int)] _⟩, Gr.alloc _ _⟩)
    refine chain_any (V := fun v _ => v = .int .i64 (nw : Nat)) (D := [(14, some 0)]) rfl (by kernel_rfl) (Lasts.eq _) ?_ ?_
    · intro ρ W4 ⟨p1, p2, p3⟩ hG hF K hK; (try simp [FactsD] at hF); have hD := Gr.tr (Gr.drew _) hG; obtain ⟨g, T, hg1, hg2⟩ := hF; go_simp; exact hK _ (gives_call (HJ.out _ _ _ hg2))
    refine chain_done ?_
    intro vs W4 hG hV
    obtain ⟨e4, -⟩ := hV
    simp only [Nat.reduceSub] at e4
    simp only [lay, Act.put, List.getElem?_toArray, List.getElem?_cons_succ, List.getElem?_cons_zero, Option.bind_some, List.setIfInBounds_toArray, List.set_cons_succ, List.set_cons_zero]
    generalize vs 0 = v0
    generalize vs 1 = v1
    generalize vs 2 = v2
    generalize vs 3 = v3
    generalize vs 4 = v4 at *
    subst e4
    have HG := Lib.hid hG
    have H5' := Lib.hid (H5.out.grow hG)
    have f5 := H5'.out.free (i := 0)
    have z5 := H5'.out.cell (i := 0) rfl
    have l5 := H5'.out.lt
    clear hG
    go_wp2_with fail
    refine ⟨((keepsO HG.out).trans (KeepsOthers.setCell _ _ _)).from _, (KeepAt.of HG.out).trans (KeepAt.set _ _ _ _ (by simp only [List.mem_cons, not_or]; exact ⟨by omega, by omega, fun h => by have := HSS.out _ h; omega⟩)), ?_, (bgr HBW.out HBW.out.size HG.out).setCell (by simp) _⟩
    rw [HSN.out]
    exact H5'.out.put 0 _
  case done =>
    rintro D ys W hD hys ⟨h5, hBW⟩ hK
    rw [hys, ← HGW.out] at h5
    have H5 := Lib.hid h5
    have HBW := Lib.hid hBW
    have HK := Lib.hid hK
    have z5 := h5.cell (i := 0) rfl
    have l5 := h5.lt
    clear h5 hBW hK hys
    go_wp2_with fail
    refine ⟨by simp, .inl ⟨_, _, rfl, run_takeDeferred HK.out, ?_⟩⟩
    refine ⟨.int .i64 (gat f many : Nat), by simp [results, Try.f63, go_sem], rfl, ?_⟩
    exact HBW.out.trans (belowK_b (w := w) (Nat.le_refl _) _ D _ _ (by omega) HK.out rfl rfl)
  case stop =>
    rintro D c pre W _ _ h _
    exact h.elim

end Go.Proofs.Ytjlaoiimbhlafaa
