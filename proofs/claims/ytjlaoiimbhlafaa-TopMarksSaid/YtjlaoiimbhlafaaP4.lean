import Derived.Test.YtjlaoiimbhlafaaP3
set_option linter.unusedVariables false
set_option linter.unusedSimpArgs false
namespace Go.Proofs.Ytjlaoiimbhlafaa
open Go.RowKit Go.Shelf

open MW
/-- The options, if this left mark has none but this one. -/
def onlM (m : Nat → Nat) (i c : Nat) : Nat → Nat := fun j => if j = i then m j &&& 2 ^ c else m j
def woM (m : Nat → Nat) (c : Nat) : Nat → Nat := fun j => cl (m j) c
theorem opts_set (m : Nat → Nat) (i x : Nat) : (opts m).set i (.int .i64 x) = opts (fun j => if j = i then x else m j) := by
  unfold opts
  apply List.ext_getElem?
  intro j
  rw [List.getElem?_set]
  by_cases h : i = j
  · subst h
    rw [if_pos rfl]
    by_cases hj : i < 10
    · simp [hj]
    · simp [hj]
  · rw [if_neg h]
    by_cases hj : j < 10
    · simp [hj, Ne.symm h]
    · simp [hj]
theorem idx83 (m : Nat → Nat) {i : Nat} (h : i < 10) (W : World) : (Instr.index 83 (.agg (opts m).toArray) (.int .i64 i)).run Try.prog W = .ok (.int .i64 (m i)) W := by
  have : i = 0 ∨ i = 1 ∨ i = 2 ∨ i = 3 ∨ i = 4 ∨ i = 5 ∨ i = 6 ∨ i = 7 ∨ i = 8 ∨ i = 9 := by omega
  rcases this with rfl | rfl | rfl | rfl | rfl | rfl | rfl | rfl | rfl | rfl <;> (show _ = _; kernel_rfl)
def zero10 : List Value := [.int .i64 0, .int .i64 0, .int .i64 0, .int .i64 0, .int .i64 0, .int .i64 0, .int .i64 0, .int .i64 0, .int .i64 0, .int .i64 0]
theorem opts_one (m : Nat → Nat) : (opts m).all (·.oneCell') = true := rfl
set_option maxHeartbeats 1000000 in
theorem only_any (m : Nat → Nat) (i c : Nat) (w : World) (hi : i < 10) (hc : c ≤ 10) (hm : m i < 2048) :
    Calls Try.prog 100 #[.agg (opts m).toArray, .int .i64 i, .int .i64 c] w fun e w' => e = .returned (.agg (opts (onlM m i c)).toArray) ∧ Below w.heap.size w w' := by
  have hO := opts_len m
  have HB := Lib.hid ((Box.fresh w (opts m) 83).grow (Gr.alloc _ (Obj.cells zero10.toArray 83)))
  have HZ := Lib.hid (show Box ((w.alloc (Obj.cells (opts m).toArray 83)).alloc (Obj.cells zero10.toArray 83)) (w.heap.size + 1) zero10 83 by
    have := Box.fresh (w.alloc (Obj.cells (opts m).toArray 83)) zero10 83
    simpa using this)
  have HA := Lib.hid (opts_at m hi)
  have HC := Lib.hid (fun W => setOf_any c W hc)
  have HN := Lib.hid (fun W => both_any (m i) (2 ^ c) W hm (pow11 c hc).1)
  have HS := Lib.hid (show (opts m).set i (.int .i64 ((m i &&& 2 ^ c : Nat) : Int)) = opts (onlM m i c) by
    rw [opts_set]
    congr 1
    funext j
    unfold onlM
    split
    · next h => rw [h]
    · rfl)
  have hi3 : (i : Int) < 10 := by omega
  have h10 : decide ((i : Int) < 10) = true := by simp; omega
  have h10' : decide (i < 10) = true := by simp; omega
  unfold zero10 at HB HZ
  generalize ((2 ^ c : Nat) : Int) = p at *
  generalize ((m i &&& 2 ^ c : Nat) : Int) = q at *
  clear hm
  go_enter Try.func100, Try.ntmps100
  go_wp2_with fail
  refine region2 8 ?_ ?_ ?_
  · kernel_rfl
  · kernel_rfl
  simp only [List.take_succ_cons, List.take_zero, List.drop_succ_cons, List.drop_zero]
  apply chain_eq (D := [(1, none)]) rfl (by kernel_rfl)
  · intro ρ W4 ⟨p1, p2, p3⟩ hG hF K hK; (try simp [FactsD] at hF); have hD := Gr.tr (Gr.drew _) hG; go_simp; exact hK _ (gives_val)
  apply chain_eq (D := [(1, none)]) rfl (by kernel_rfl)
  · intro ρ W4 ⟨p1, p2, p3⟩ hG hF K hK; (try simp [FactsD] at hF); have hD := Gr.tr (Gr.drew _) hG; go_simp; exact hK _ (gives_val)
  apply chain_eq (D := [(3, none), (8, some 0)]) rfl (by kernel_rfl)
  · intro ρ W4 ⟨p1, p2, p3⟩ hG hF K hK; (try simp [FactsD] at hF); have hD := Gr.tr (Gr.drew _) hG; go_simp; exact hK _ (gives_val)
  apply chain_eq (D := [(9, some 0)]) rfl (by kernel_rfl)
  · intro ρ W4 ⟨p1, p2, p3⟩ hG hF K hK; (try simp [FactsD] at hF); have hD := Gr.tr (Gr.drew _) hG; have z0 := (HB.out.grow hD).cell HA.out; go_simp; exact hK _ (gives_val)
  apply chain_eq (D := [(2, none)]) rfl (by kernel_rfl)
  · intro ρ W4 ⟨p1, p2, p3⟩ hG hF K hK; (try simp [FactsD] at hF); have hD := Gr.tr (Gr.drew _) hG; go_simp; exact hK _ (gives_val)
  apply chain_eq (D := [(11, some 0)]) rfl (by kernel_rfl)
  · intro ρ W4 ⟨p1, p2, p3⟩ hG hF K hK; (try simp [FactsD] at hF); have hD := Gr.tr (Gr.drew _) hG; go_simp; exact hK _ (gives_call (HC.out _))
  apply chain_eq (D := [(10, some 2), (12, some 0)]) rfl (by kernel_rfl)
  · intro ρ W4 ⟨p1, p2, p3⟩ hG hF K hK; (try simp [FactsD] at hF); have hD := Gr.tr (Gr.drew _) hG; go_simp; exact hK _ (gives_call (HN.out _))
  apply chain_eq (D := [(3, none), (7, some 6)]) rfl (by kernel_rfl)
  · intro ρ W4 ⟨p1, p2, p3⟩ hG hF K hK; (try simp [FactsD] at hF); have hD := Gr.tr (Gr.drew _) hG; go_simp; exact hK _ (gives_val)
  refine chain_done ?_
  intro vs W4 hG hV
  obtain ⟨e7, e6, -⟩ := hV
  simp only [Nat.reduceSub] at e6
  simp only [Nat.reduceSub] at e7
  simp only [lay, Act.put, List.getElem?_toArray, List.getElem?_cons_succ, List.getElem?_cons_zero, Option.bind_some, List.setIfInBounds_toArray, List.set_cons_succ, List.set_cons_zero]
  generalize vs 0 = v0
  generalize vs 1 = v1
  generalize vs 2 = v2
  generalize vs 3 = v3
  generalize vs 4 = v4
  generalize vs 5 = v5
  generalize vs 6 = v6 at *
  generalize vs 7 = v7 at *
  subst e6
  subst e7
  have HG := Lib.hid (show Gr _ W4 from hG)
  have HB4 := Lib.hid (HB.out.grow HG.out)
  have z0 := HB4.out.cell HA.out
  have f0 := HB4.out.free (i := i)
  have l0 := HB4.out.lt
  clear hG
  have HB5 := Lib.hid (show Box (W4.setCell ⟨w.heap.size, i, none⟩ (.int .i64 q)) w.heap.size (opts (onlM m i c)) 83 by rw [← HS.out]; exact HB4.out.put i _)
  have HZ5 := Lib.hid ((Only.set W4 i (.int .i64 q)).box (HZ.out.grow HG.out) (show w.heap.size + 1 ≠ w.heap.size by omega))
  have hO' := opts_len (onlM m i c)
  go_wp2_with (first
    | (with_reducible refine wpList_stopLoad (ty := 83) rfl ?_; unfold Stop; refine wpList_loadBox row83 hO' HB5.out rfl rfl rfl ?_)
    | (with_reducible refine wpList_stopStore (ty := 83) rfl ?_; unfold Stop; refine wpList_storeBox row83 hO' rfl (opts_one _) HZ5.out rfl rfl rfl rfl ?_))

  exact bodyPost_ret (v := .agg (opts (onlM m i c)).toArray) (result_row row83 hO' (HZ5.out.row (vs := opts (onlM m i c))) rfl rfl) rfl ⟨rfl, below_setRow ((bgr (((Below.refl _ _).alloc (by first | (simp; done) | (simp; omega) | omega) _).alloc (by first | (simp; done) | (simp; omega) | omega) _) (by first | (simp; done) | (simp; omega) | omega) HG.out).setCell (by first | (simp; done) | (simp; omega) | omega) _) (by first | (simp; done) | (simp; omega) | omega) _⟩

end Go.Proofs.Ytjlaoiimbhlafaa
namespace Go.Proofs.Ytjlaoiimbhlafaa
open Go.RowKit Go.Shelf

open MW
theorem opts_congr {m m' : Nat → Nat} (h : ∀ j, j < 10 → m j = m' j) : opts m = opts m' := by
  unfold opts
  exact List.map_congr_left fun j hj => by rw [h j (List.mem_range.1 hj)]
def woTo (m : Nat → Nat) (c n : Nat) : Nat → Nat := fun j => if j < n then cl (m j) c else m j
theorem woTo_set (m : Nat → Nat) (c n : Nat) : (opts (woTo m c n)).set n (.int .i64 (cl (m n) c : Nat)) = opts (woTo m c (n + 1)) := by
  rw [opts_set]
  congr 1
  funext j
  unfold woTo
  by_cases h : j = n
  · subst h
    rw [if_pos rfl, if_pos (by omega)]
  · rw [if_neg h]
    by_cases h2 : j < n
    · rw [if_pos h2, if_pos (by omega)]
    · rw [if_neg h2, if_neg (by omega)]
set_option maxHeartbeats 1000000 in
theorem without_any (m : Nat → Nat) (c : Nat) (w : World) (hc : c ≤ 10) (hm : ∀ i, m i < 2048) :
    Calls Try.prog 106 #[.agg (opts m).toArray, .int .i64 c] w fun e w' => e = .returned (.agg (opts (woM m c)).toArray) ∧ Below w.heap.size w w' := by
  have hO := opts_len m
  have HM := Lib.hid hm
  have HB := Lib.hid ((Box.fresh w (opts m) 83).grow (Gr.alloc _ (Obj.cells zero10.toArray 83)))
  have HZ := Lib.hid (show Box ((w.alloc (Obj.cells (opts m).toArray 83)).alloc (Obj.cells zero10.toArray 83)) (w.heap.size + 1) zero10 83 by
    have := Box.fresh (w.alloc (Obj.cells (opts m).toArray 83)) zero10 83
    simpa using this)
  have HC := Lib.hid (fun W => setOf_any c W hc)
  have HN := Lib.hid (fun i W => minus_any (m i) c W (hm i) hc)
  have HW := Lib.hid (show Gr w ((w.alloc (Obj.cells (opts m).toArray 83)).alloc (Obj.cells zero10.toArray 83)) from (Gr.alloc _ _).tr (Gr.alloc _ _))
  unfold zero10 at HB HZ HW
  generalize hp : ((2 ^ c : Nat) : Int) = p at *
  clear hm hp
  go_enter Try.func106, Try.ntmps106
  go_wp2_with (with_reducible refine wpList_stopLoad (ty := 83) rfl ?_; unfold Stop; refine wpList_loadBox row83 hO HB.out rfl rfl rfl ?_)
  generalize hw1 : (w.alloc (Obj.cells (opts m).toArray 83)).alloc (Obj.cells #[.int .i64 0, .int .i64 0, .int .i64 0, .int .i64 0, .int .i64 0, .int .i64 0, .int .i64 0, .int .i64 0, .int .i64 0, .int .i64 0] 83) = w1 at *
  have hs1 : w1.heap.size = w.heap.size + 1 + 1 := by rw [← hw1]; simp
  clear hw1
  go_loopw [8] (fun i wr => ∃ n : Nat, n ≤ 10 ∧ i = .int .i64 n ∧ Hid (Box wr w.heap.size (opts (woTo m c n)) 83) ∧ Hid (Only w.heap.size w1 wr)) (fun i _ => (20 - intOf i).toNat)
  case atStart => exact ⟨0, by omega, rfl, Lib.hid (by rw [show woTo m c 0 = m from by funext j; unfold woTo; rw [if_neg (by omega)]]; exact HB.out), Lib.hid (Only.of (by omega) (Gr.same _))⟩
  case round =>
    obtain ⟨n, hn, rfl, HX, HO⟩ := hrel
    by_cases hlt : n < 10
    · have hd : decide ((n : Int) < 10) = true := by simp; omega
      have hd' : decide (n < 10) = true := by simp; omega
      have hix := idx83 m hlt wr
      have HS := Lib.hid (woTo_set m c n)
      have l0 := HX.out.lt
      have f0 := HX.out.free (i := n)
      have HA := Lib.hid (opts_at (woTo m c n) hlt)
      generalize hq : ((cl (m n) c : Nat) : Int) = q at *
      have HN' := Lib.hid (fun W => HN.out n W)
      rw [hq] at HN'
      clear hq
      have hcl := HO.out.size
      go_wp2_with (first | (go_at_call 105; refine (HC.out _).mono ?_; rintro e w2 ⟨rfl, hb2⟩) | (go_at_call 124; refine (HN'.out _).mono ?_; rintro e w3 ⟨rfl, hb3⟩; have HG := Lib.hid (Gr.tr (show Gr wr w2 from hb2) hb3); clear hb2 hb3; have z0 := (HX.out.grow HG.out).cell HA.out; have l3 := (HX.out.grow HG.out).lt; have f3 := (HX.out.grow HG.out).free (i := n)))
      refine ⟨⟨n + 1, by omega, by go_num, Lib.hid ?_, Lib.hid ?_⟩, by simp [intOf]; omega⟩
      · rw [← HS.out]
        exact (HX.out.grow HG.out).put n _
      · exact (HO.out.tr (Only.of (by omega) HG.out)).tr (Only.set _ _ _)
    · have hn10 : n = 10 := by omega
      subst hn10
      have he : opts (woTo m c 10) = opts (woM m c) := opts_congr fun j hj => by unfold woTo woM; rw [if_pos hj]
      rw [he] at HX
      have hO' := opts_len (woM m c)
      have HZ5 := Lib.hid (HO.out.box HZ.out (by omega))
      clear hlt he
      go_wp2_with (first
        | (with_reducible refine wpList_stopLoad (ty := 83) rfl ?_; unfold Stop; refine wpList_loadBox row83 hO' HX.out rfl rfl rfl ?_)
        | (with_reducible refine wpList_stopStore (ty := 83) rfl ?_; unfold Stop; refine wpList_storeBox row83 hO' rfl (opts_one _) HZ5.out rfl rfl rfl rfl ?_))
      exact bodyPost_ret (v := .agg (opts (woM m c)).toArray) (result_row row83 hO' (HZ5.out.row (vs := opts (woM m c))) rfl rfl) rfl ⟨rfl, below_setRow ((HW.out.trans HO.out.low)) (by first | (simp; done) | (simp; omega) | omega) _⟩

end Go.Proofs.Ytjlaoiimbhlafaa
section
namespace Go.Proofs.Ytjlaoiimbhlafaa
open Go.RowKit Go.Shelf

open MW
attribute [local go_sem] Oper.semAt_some
def gatl (l : List Nat) : Nat := l.foldl (fun s k => s ||| 2 ^ k) 0
theorem gatl_snoc (l : List Nat) (k : Nat) : gatl (l ++ [k]) = gatl l ||| 2 ^ k := by unfold gatl; rw [List.foldl_append]; rfl
theorem gat_wts (f : Nat → Bool) : ∀ n, gat f n = gatl (wts n f)
  | 0 => rfl
  | n + 1 => by
    rw [wts_succ]
    unfold gat
    cases h : f n with
    | true => rw [if_pos rfl, if_pos rfl, gatl_snoc, gat_wts f n]
    | false => rw [if_neg (by simp), if_neg (by simp), List.append_nil, gat_wts f n]
theorem gatl_lt {l : List Nat} (h : ∀ k ∈ l, k < 11) : gatl l < 2048 := by
  have key : ∀ (l : List Nat) (s : Nat), s < 2 ^ 11 → (∀ k ∈ l, k < 11) → l.foldl (fun s k => s ||| 2 ^ k) s < 2 ^ 11 := by
    intro l
    induction l with
    | nil => intro s hs _; exact hs
    | cons k l ih =>
      intro s hs hk
      rw [List.foldl_cons]
      refine ih _ (Nat.or_lt_two_pow hs ?_) fun j hj => hk j (List.mem_cons_of_mem _ hj)
      exact Nat.pow_lt_pow_right (by omega) (hk k (by simp))
  exact key l 0 (by decide) h
/-- Two sets, laid into a fresh row. -/
def Two (a b : Int) (v : Value) (W : World) : Prop := ∃ g T, v = .slice (some ⟨g, 0, none⟩) 2 2 ∧ Box W g [.int .i64 a, .int .i64 b] T
theorem Two.lasts (a b : Int) : Lasts (Two a b) := fun v W W' ⟨g, T, h1, h2⟩ hg => ⟨g, T, h1, h2.grow hg⟩
def GaI (w : World) {many : Nat} {f : Nat → Bool} (pre : List (Wt many f)) (W : World) : Prop := Box W w.heap.size [.int .i64 (gatl (pre.map Wt.v) : Nat)] 81 ∧ Below w.heap.size w W
theorem GaI.own (w : World) {many : Nat} {f : Nat → Bool} {B : Nat} (hB : w.heap.size ≤ B) : OwnFrom B (GaI w (many := many) (f := f)) := fun s A A' row ⟨h1, h2⟩ hg hr =>
  ⟨h1.own' hg fun r e => (hr r e).2, ownFrom_below (β := Unit) (Nat.le_refl _) hB () A A' row h2 hg hr⟩
set_option maxRecDepth 100000 in
set_option maxHeartbeats 2000000 in
theorem marksF_any (v5 v6 : Nat) (many : Nat) (f : Nat → Bool) (S : List Nat) (b1 b2 y : Nat) (J Jx : List (Wt many f) → World → Prop) (W : World) (hmany : many ≤ 20)
    (hf : ∀ W', KeepAt S W W' → ∀ k : Nat, k < many → Calls Try.prog 122 #[.int .i64 k, .pointer (some ⟨v5, 0, none⟩), .pointer (some ⟨v6, 0, none⟩)] W' fun e w' => e = .returned (.bool (f k)) ∧ Below W'.heap.size W' w')
    (hAJ : ∀ s A B, J s A → Gr A B → J s B)
    (hY : ∀ pre x W, J pre W → pre.length < 1000 → YieldAt Fence.wide 7 Try.prog y (encW x) W fun e W' =>
      (e = .returned (.bool true) ∧ J (pre ++ [x]) W' ∧ KeepAt (b1 :: b2 :: S) W W') ∨ (e = .returned (.bool false) ∧ Jx (pre ++ [x]) W'))
    (hb1 : Box W b1 [.int .i64 many] 3) (hb2 : Box W b2 [.func (.func 122) #[] #[.pointer (some ⟨v5, 0, none⟩), .pointer (some ⟨v6, 0, none⟩)]] 102) (h0 : J [] W) :
    CallsIn Fence.wide 8 Try.prog 107 #[.func (.yield y) #[] #[], .pointer (some ⟨b1, 0, none⟩), .pointer (some ⟨b2, 0, none⟩)] W fun e W' => (∃ v, e = .returned v) ∧
      ((∃ ys : List (Wt many f), ys.map Wt.v = wts many f ∧ J ys W') ∨ (∃ pre : List (Wt many f), (∃ rest, wts many f = pre.map Wt.v ++ rest) ∧ Jx pre W')) := by
  have HF := Lib.hid hf
  have HAJ := Lib.hid hAJ
  have HY := Lib.hid hY
  have HB1 := Lib.hid hb1
  have HB2 := Lib.hid hb2
  have H0 := Lib.hid h0
  have c0 := hb1.cell (i := 0) rfl
  have l0 := hb1.lt
  clear hf hAJ hY hb1 hb2 h0
  refine callsIn_of_wp Try.func107 rfl trivial ?_ rfl
  simp only [Try.ntmps107, List.size_toArray, List.length_cons, List.length_nil, Nat.reduceAdd, Nat.reduceSub, Array.replicate_succ, Array.replicate_zero, List.push_toArray, List.append_toArray, List.nil_append, List.cons_append]
  gi_wp2
  gi_loopw [6] (fun t wr => ∃ i : Nat, i ≤ many ∧ t = .int .i64 i ∧ Hid (∃ ys : List (Wt many f), ys.map Wt.v = wts i f ∧ J ys wr) ∧ KeepAt (b1 :: b2 :: S) W wr) (fun t _ => (50 - intOf t).toNat)
  case atStart => exact ⟨0, Nat.zero_le _, rfl, Lib.hid ⟨[], rfl, H0.out⟩, KeepAt.refl _ _⟩
  case round =>
    obtain ⟨i, hi, rfl, HJ, hK⟩ := hrel
    have HK := Lib.hid hK
    clear hK c0 l0
    have c2 := (HK.out.box HB2.out (by simp)).cell (i := 0) rfl
    have l2 := (HK.out.box HB2.out (by simp)).lt
    by_cases hlt : i < many
    · have HS := Lib.hid (wts_succ i f)
      obtain ⟨ys, hys, hJ⟩ := HJ.out
      have hyl : ys.length < 1000 := by
        have h1 := congrArg List.length hys
        have h2 := wts_len i f
        rw [List.length_map] at h1
        omega
      have HYS := Lib.hid hys
      have HJ2 := Lib.hid hJ
      have HC := Lib.hid (HF.out wr (HK.out.mono fun k hk => by simp [hk]) i hlt)
      clear hys hJ
      cases hfi : f i with
      | true =>
        have HFI := Lib.hid hfi
        rw [hfi] at HS HC
        clear hfi
        gi_wp2_with (refine ⟨trivial, ?_⟩; gi_at_call 122; refine (callsIn_wide.2 HC.out).mono ?_; rintro e w2 ⟨rfl, hb2⟩; have HG2 := Lib.hid (show Gr wr w2 from hb2); obtain ⟨hc2, hf2, hz2⟩ := bcell HG2.out; clear hb2; obtain ⟨fn3, t3, a3, b3, hy3, hR3⟩ := HY.out ys ⟨i, hlt, HFI.out⟩ w2 (HAJ.out _ _ _ HJ2.out HG2.out) hyl; dsimp only [encW] at hy3)
        refine hR3.mono ?_
        rintro e W3 (⟨rfl, hJ3, hk3⟩ | ⟨rfl, hx3⟩)
        · have HJ3 := Lib.hid hJ3
          have HK3 := Lib.hid (HK.out.trans ((KeepAt.of HG2.out).trans hk3))
          clear hJ3 hk3 hy3 hR3 hc2 hf2 hz2 c2
          gi_wp2
          refine ⟨⟨i + 1, by omega, by go_num, Lib.hid ⟨_, ?_, HJ3.out⟩, HK3.out⟩, by simp [intOf]; omega⟩
          rw [HS.out, List.map_append, HYS.out]
          rfl
        · gi_wp2
          refine bodyPost_ret (results_none rfl _ _ _) rfl ?_
          obtain ⟨rest, hrest⟩ := wts_pre f (show i + 1 ≤ many by omega)
          refine ⟨⟨_, rfl⟩, .inr ⟨_, ⟨rest, ?_⟩, hx3⟩⟩
          rw [List.map_append, HYS.out, hrest, HS.out]
          rfl
      | false =>
        rw [hfi] at HS HC
        clear hfi
        gi_wp2_with (refine ⟨trivial, ?_⟩; gi_at_call 122; refine (callsIn_wide.2 HC.out).mono ?_; rintro e w2 ⟨rfl, hb2⟩; have HG2 := Lib.hid (show Gr wr w2 from hb2); clear hb2)
        refine ⟨fun _ h => (by cases h), ?_⟩
        gi_wp2
        refine ⟨⟨i + 1, by omega, by go_num, Lib.hid ⟨ys, ?_, HAJ.out _ _ _ HJ2.out HG2.out⟩, HK.out.trans (KeepAt.of HG2.out)⟩, by simp [intOf]; omega⟩
        rw [HS.out, HYS.out]
        simp
    · have hil : i = many := by omega
      have HIL := Lib.hid hil
      clear hil
      gi_wp2
      go_end0
      obtain ⟨ys, hys, hJ⟩ := HJ.out
      refine ⟨⟨_, rfl⟩, .inl ⟨ys, ?_, hJ⟩⟩
      rw [hys, HIL.out]
/-- As an iterator that may be left. -/
theorem marksF_stops (v5 v6 : Nat) (many : Nat) (f : Nat → Bool) (S : List Nat) (b1 b2 n : Nat) (w : World) (hmany : many ≤ 20)
    (hf : ∀ W', KeepAt S w W' → ∀ k : Nat, k < many → Calls Try.prog 122 #[.int .i64 k, .pointer (some ⟨v5, 0, none⟩), .pointer (some ⟨v6, 0, none⟩)] W' fun e w' => e = .returned (.bool (f k)) ∧ Below W'.heap.size W' w')
    (hb1 : Box w b1 [.int .i64 many] 3) (hb2 : Box w b2 [.func (.func 122) #[] #[.pointer (some ⟨v5, 0, none⟩), .pointer (some ⟨v6, 0, none⟩)]] 102) :
    SeqStopsK Fence.wide n Try.prog 107 #[.pointer (some ⟨b1, 0, none⟩), .pointer (some ⟨b2, 0, none⟩)] (encW (many := many) (f := f)) (KeepAt (b1 :: b2 :: S)) (fun ys => ys.map Wt.v = wts many f) (fun pre => ∃ rest, wts many f = pre.map Wt.v ++ rest) 1000 w :=
  SeqStopsK.depth (n := 8) rfl fun y J Jx W hW hAJ _hAX hY h0 =>
    marksF_any v5 v6 many f S b1 b2 y J Jx W hmany (fun W' hK => hf W' ((KeepAt.of hW).trans hK)) (fun s A B h hg => hAJ s A B none h (Gr.gro hg) (fun r e => by cases e)) hY (hb1.grow hW) (hb2.grow hW) h0

set_option maxRecDepth 100000 in
set_option maxHeartbeats 2000000 in
theorem gatherF_any (v5 v6 : Nat) (many : Nat) (f : Nat → Bool) (S : List Nat) (w : World) (hmany : many ≤ 11) (hS : ∀ k ∈ S, k < w.heap.size)
    (hf : ∀ W', KeepAt S w W' → ∀ k : Nat, k < many → Calls Try.prog 122 #[.int .i64 k, .pointer (some ⟨v5, 0, none⟩), .pointer (some ⟨v6, 0, none⟩)] W' fun e w' => e = .returned (.bool (f k)) ∧ Below W'.heap.size W' w') :
    Calls Try.prog 63 #[.int .i64 many, .func (.func 122) #[] #[.pointer (some ⟨v5, 0, none⟩), .pointer (some ⟨v6, 0, none⟩)]] w fun e w' => e = .returned (.int .i64 (gat f many : Nat)) ∧ Below w.heap.size w w' := by
  have HF := Lib.hid hf
  have HSS := Lib.hid hS
  have HRT := Lib.hid (fun W => marks_ret many (.func 122) #[] #[.pointer (some ⟨v5, 0, none⟩), .pointer (some ⟨v6, 0, none⟩)] W)
  have HGW := Lib.hid (gat_wts f many)
  clear hf hS
  refine (callsIn_wide (n := 9)).1 ?_
  refine callsIn_of_wp_marks Try.func63 rfl trivial ?_ rfl
  simp only [Try.ntmps63, List.size_toArray, List.length_cons, List.length_nil, Nat.reduceAdd, Nat.reduceSub, Array.replicate_succ, Array.replicate_zero, List.push_toArray, List.append_toArray, List.nil_append, List.cons_append]
  refine wpIn_wide.2 ?_
  go_wp2_with (go_at_call 67; refine (HRT.out _).mono ?_; rintro e w1 ⟨rfl, hm1, hm2, hb1⟩)
  have hG1 : Gr w w1 := (Gr.alloc _ _).tr hb1
  have hR5 : Box w1 w.heap.size [.int .i64 0] 81 := (Box.fresh w [.int .i64 0] 81).grow hb1
  replace hm1 : Box w1 (w.heap.size + 1) [.int .i64 many] 3 := by simpa using hm1
  replace hm2 : Box w1 (w.heap.size + 1 + 1) [.func (.func 122) #[] #[.pointer (some ⟨v5, 0, none⟩), .pointer (some ⟨v6, 0, none⟩)]] 102 := by simpa using hm2
  have hw1 : w.heap.size + 1 + 1 < w1.heap.size := hm2.lt
  have HG1 := Lib.hid hG1
  have HR5 := Lib.hid hR5
  have HM1 := Lib.hid hm1
  have HM2 := Lib.hid hm2
  clear hG1 hR5 hm1 hm2 hb1
  refine (wpIn_wide (n := 9)).1 ?_
  refine wpIn_rangeOwn rfl (by omega) (gf := 107) (lb := #[.pointer (some ⟨w.heap.size + 1, 0, none⟩), .pointer (some ⟨w.heap.size + 1 + 1, 0, none⟩)]) rfl trivial (enters_of Try.func107 (by kernel_rfl) rfl)
    (SeqStopsK.own (marksF_stops v5 v6 many f S (w.heap.size + 1) (w.heap.size + 1 + 1) _ w1 (by omega) (fun W' hK k hk => HF.out W' ((KeepAt.of HG1.out).trans hK) k hk) HM1.out HM2.out)) (Gr.same _) KeepAt.trans
    (fun W o' => KeepAt.putObj W _ o' (by simp only [List.mem_cons, not_or]; exact ⟨by omega, by omega, fun h => by have := HSS.out _ h; omega⟩)) (fun _ => rfl)
    (GaI w) (fun _ _ _ => False) (GaI.own w (by omega)) (fun _ _ _ _ _ hs _ _ => hs) ⟨HR5.out, HG1.out⟩
    (fun x a' W => a' = { tmps := #[.int .i64 many, .func (.func 122) #[] #[.pointer (some ⟨v5, 0, none⟩), .pointer (some ⟨v6, 0, none⟩)], undef, undef, .int .i64 0, .pointer (some ⟨w.heap.size, 0, none⟩), .int .i64 x.v, .int .i64 many, .func (.func 122) #[] #[.pointer (some ⟨v5, 0, none⟩), .pointer (some ⟨v6, 0, none⟩)], marksV (w.heap.size + 1) (w.heap.size + 1 + 1), .int .i64 x.v, undef, undef, undef, undef, undef, undef], defers := [] }) (fun x a' => fun _ _ _ _ h _ _ => h) ?assign ?body ?done ?stop
  case assign =>
    intro y pre x W K hi hK
    have HI := Lib.hid hi
    clear hi
    unfold encW
    gi_wp2
    exact hK _ _ (KeepsOthers.refl _ |>.from _) (KeepAt.refl _ _) HI.out rfl
  case body =>
    rintro y pre x a' W hyl - ⟨h5, hBW⟩ rfl hN
    have H5 := Lib.hid h5
    have HBW := Lib.hid hBW
    have hx := x.lt
    have hlt : gatl (pre.map Wt.v) < 2048 := gatl_lt fun k hk => by
      obtain ⟨z, -, rfl⟩ := List.mem_map.1 hk
      have := z.lt
      omega
    have HC := Lib.hid (fun W => setOf_any x.v W (by omega))
    have HJ := Lib.hid (fun W g T hb => join_any (gatl (pre.map Wt.v)) (2 ^ x.v) g W T hlt (pow11 x.v (by omega)).1 hb)
    have hsn := gatl_snoc (pre.map Wt.v) x.v
    have hmp : (pre ++ [x]).map Wt.v = pre.map Wt.v ++ [x.v] := by simp
    rw [← hmp] at hsn
    have HSN := Lib.hid hsn
    clear h5 hBW hmp hsn hlt
    generalize gatl (pre.map Wt.v) = s at *
    generalize hn : s ||| 2 ^ x.v = nw at *
    generalize 2 ^ x.v = p at *
    gi_wp2_with fail
    refine region2_in 5 ?_ ?_ ?_ ?_ ?_
    · kernel_rfl
    · kernel_rfl
    · kernel_rfl
    · rintro ⟨_, _, h⟩; exact h
    simp only [List.take_succ_cons, List.take_zero, List.drop_succ_cons, List.drop_zero]
    apply chain_eq (D := [(5, none)]) rfl (by kernel_rfl)
    · intro ρ W4 ⟨p1, p2, p3⟩ hG hF K hK; (try simp [FactsD] at hF); have hD := Gr.tr (Gr.drew _) hG; have z0 := (H5.out.grow hD).cell (i := 0) rfl; go_simp; exact hK _ (gives_val)
    apply chain_eq (D := [(6, none)]) rfl (by kernel_rfl)
    · intro ρ W4 ⟨p1, p2, p3⟩ hG hF K hK; (try simp [FactsD] at hF); have hD := Gr.tr (Gr.drew _) hG; go_simp; exact hK _ (gives_val)
    apply chain_eq (D := [(12, some 0)]) rfl (by kernel_rfl)
    · intro ρ W4 ⟨p1, p2, p3⟩ hG hF K hK; (try simp [FactsD] at hF); have hD := Gr.tr (Gr.drew _) hG; go_simp; exact hK _ (gives_call (HC.out _))
    refine chain_any (V := Two s p) (D := [(11, some 2), (13, some 0)]) rfl (by kernel_rfl) (Two.lasts _ _) ?_ ?_
    · intro ρ W4 ⟨p1, p2, p3⟩ hG hF K hK; (try simp [FactsD] at hF); have hD := Gr.tr (Gr.drew _) hG; go_simp; exact hK _ (⟨⟨_, _, rfl, Box.fresh _ [.int .i64 (s : Int), .int .i64 (p : Int)] _⟩, Gr.alloc _ _⟩)
    refine chain_any (V := fun v _ => v = .int .i64 (nw : Nat)) (D := [(14, some 0)]) rfl (by kernel_rfl) (Lasts.eq _) ?_ ?_
    · intro ρ W4 ⟨p1, p2, p3⟩ hG hF K hK; (try simp [FactsD] at hF); have hD := Gr.tr (Gr.drew _) hG; obtain ⟨g, T, hg1, hg2⟩ := hF; go_simp; exact hK _ (gives_call (HJ.out _ _ _ hg2))
    refine chain_done ?_
    intro vs W4 hG hV
    obtain ⟨e4, -⟩ := hV
    simp only [Nat.reduceSub] at e4
    simp only [lay, Act.put, List.getElem?_toArray, List.getElem?_cons_succ, List.getElem?_cons_zero, Option.bind_some, List.setIfInBounds_toArray, List.set_cons_succ, List.set_cons_zero]
    generalize vs 0 = v0
    generalize vs 1 = v1
    generalize vs 2 = v2
    generalize vs 3 = v3
    generalize vs 4 = v4 at *
    subst e4
    have HG := Lib.hid hG
    have H5' := Lib.hid (H5.out.grow hG)
    have f5 := H5'.out.free (i := 0)
    have z5 := H5'.out.cell (i := 0) rfl
    have l5 := H5'.out.lt
    clear hG
    go_wp2_with fail
    refine ⟨((keepsO HG.out).trans (KeepsOthers.setCell _ _ _)).from _, (KeepAt.of HG.out).trans (KeepAt.set _ _ _ _ (by simp only [List.mem_cons, not_or]; exact ⟨by omega, by omega, fun h => by have := HSS.out _ h; omega⟩)), ?_, (bgr HBW.out HBW.out.size HG.out).setCell (by simp) _⟩
    rw [HSN.out]
    exact H5'.out.put 0 _
  case done =>
    rintro D ys W hD hys ⟨h5, hBW⟩ hK
    rw [hys, ← HGW.out] at h5
    have H5 := Lib.hid h5
    have HBW := Lib.hid hBW
    have HK := Lib.hid hK
    have z5 := h5.cell (i := 0) rfl
    have l5 := h5.lt
    clear h5 hBW hK hys
    go_wp2_with fail
    refine ⟨by simp, .inl ⟨_, _, rfl, run_takeDeferred HK.out, ?_⟩⟩
    refine ⟨.int .i64 (gat f many : Nat), by simp [results, Try.f63, go_sem], rfl, ?_⟩
    exact HBW.out.trans (belowK_b (w := w) (Nat.le_refl _) _ D _ _ (by omega) HK.out rfl rfl)
  case stop =>
    rintro D c pre W _ _ h _
    exact h.elim

end Go.Proofs.Ytjlaoiimbhlafaa
end
section
namespace Go.Proofs.Ytjlaoiimbhlafaa
open Go.RowKit Go.Shelf

open MW
attribute [local go_sem] Oper.semAt_some
set_option maxRecDepth 100000 in
set_option maxHeartbeats 2000000 in
theorem marksP_any (v5 : Nat) (many : Nat) (f : Nat → Bool) (S : List Nat) (b1 b2 y : Nat) (J Jx : List (Wt many f) → World → Prop) (W : World) (hmany : many ≤ 20)
    (hf : ∀ W', KeepAt S W W' → ∀ k : Nat, k < many → Calls Try.prog 102 #[.int .i64 k, .pointer (some ⟨v5, 0, none⟩)] W' fun e w' => e = .returned (.bool (f k)) ∧ Below W'.heap.size W' w')
    (hAJ : ∀ s A B, J s A → Gr A B → J s B)
    (hY : ∀ pre x W, J pre W → pre.length < 1000 → YieldAt Fence.wide 7 Try.prog y (encW x) W fun e W' =>
      (e = .returned (.bool true) ∧ J (pre ++ [x]) W' ∧ KeepAt (b1 :: b2 :: S) W W') ∨ (e = .returned (.bool false) ∧ Jx (pre ++ [x]) W'))
    (hb1 : Box W b1 [.int .i64 many] 3) (hb2 : Box W b2 [.func (.func 102) #[] #[.pointer (some ⟨v5, 0, none⟩)]] 102) (h0 : J [] W) :
    CallsIn Fence.wide 8 Try.prog 107 #[.func (.yield y) #[] #[], .pointer (some ⟨b1, 0, none⟩), .pointer (some ⟨b2, 0, none⟩)] W fun e W' => (∃ v, e = .returned v) ∧
      ((∃ ys : List (Wt many f), ys.map Wt.v = wts many f ∧ J ys W') ∨ (∃ pre : List (Wt many f), (∃ rest, wts many f = pre.map Wt.v ++ rest) ∧ Jx pre W')) := by
  have HF := Lib.hid hf
  have HAJ := Lib.hid hAJ
  have HY := Lib.hid hY
  have HB1 := Lib.hid hb1
  have HB2 := Lib.hid hb2
  have H0 := Lib.hid h0
  have c0 := hb1.cell (i := 0) rfl
  have l0 := hb1.lt
  clear hf hAJ hY hb1 hb2 h0
  refine callsIn_of_wp Try.func107 rfl trivial ?_ rfl
  simp only [Try.ntmps107, List.size_toArray, List.length_cons, List.length_nil, Nat.reduceAdd, Nat.reduceSub, Array.replicate_succ, Array.replicate_zero, List.push_toArray, List.append_toArray, List.nil_append, List.cons_append]
  gi_wp2
  gi_loopw [6] (fun t wr => ∃ i : Nat, i ≤ many ∧ t = .int .i64 i ∧ Hid (∃ ys : List (Wt many f), ys.map Wt.v = wts i f ∧ J ys wr) ∧ KeepAt (b1 :: b2 :: S) W wr) (fun t _ => (50 - intOf t).toNat)
  case atStart => exact ⟨0, Nat.zero_le _, rfl, Lib.hid ⟨[], rfl, H0.out⟩, KeepAt.refl _ _⟩
  case round =>
    obtain ⟨i, hi, rfl, HJ, hK⟩ := hrel
    have HK := Lib.hid hK
    clear hK c0 l0
    have c2 := (HK.out.box HB2.out (by simp)).cell (i := 0) rfl
    have l2 := (HK.out.box HB2.out (by simp)).lt
    by_cases hlt : i < many
    · have HS := Lib.hid (wts_succ i f)
      obtain ⟨ys, hys, hJ⟩ := HJ.out
      have hyl : ys.length < 1000 := by
        have h1 := congrArg List.length hys
        have h2 := wts_len i f
        rw [List.length_map] at h1
        omega
      have HYS := Lib.hid hys
      have HJ2 := Lib.hid hJ
      have HC := Lib.hid (HF.out wr (HK.out.mono fun k hk => by simp [hk]) i hlt)
      clear hys hJ
      cases hfi : f i with
      | true =>
        have HFI := Lib.hid hfi
        rw [hfi] at HS HC
        clear hfi
        gi_wp2_with (refine ⟨trivial, ?_⟩; gi_at_call 102; refine (callsIn_wide.2 HC.out).mono ?_; rintro e w2 ⟨rfl, hb2⟩; have HG2 := Lib.hid (show Gr wr w2 from hb2); obtain ⟨hc2, hf2, hz2⟩ := bcell HG2.out; clear hb2; obtain ⟨fn3, t3, a3, b3, hy3, hR3⟩ := HY.out ys ⟨i, hlt, HFI.out⟩ w2 (HAJ.out _ _ _ HJ2.out HG2.out) hyl; dsimp only [encW] at hy3)
        refine hR3.mono ?_
        rintro e W3 (⟨rfl, hJ3, hk3⟩ | ⟨rfl, hx3⟩)
        · have HJ3 := Lib.hid hJ3
          have HK3 := Lib.hid (HK.out.trans ((KeepAt.of HG2.out).trans hk3))
          clear hJ3 hk3 hy3 hR3 hc2 hf2 hz2 c2
          gi_wp2
          refine ⟨⟨i + 1, by omega, by go_num, Lib.hid ⟨_, ?_, HJ3.out⟩, HK3.out⟩, by simp [intOf]; omega⟩
          rw [HS.out, List.map_append, HYS.out]
          rfl
        · gi_wp2
          refine bodyPost_ret (results_none rfl _ _ _) rfl ?_
          obtain ⟨rest, hrest⟩ := wts_pre f (show i + 1 ≤ many by omega)
          refine ⟨⟨_, rfl⟩, .inr ⟨_, ⟨rest, ?_⟩, hx3⟩⟩
          rw [List.map_append, HYS.out, hrest, HS.out]
          rfl
      | false =>
        rw [hfi] at HS HC
        clear hfi
        gi_wp2_with (refine ⟨trivial, ?_⟩; gi_at_call 102; refine (callsIn_wide.2 HC.out).mono ?_; rintro e w2 ⟨rfl, hb2⟩; have HG2 := Lib.hid (show Gr wr w2 from hb2); clear hb2)
        refine ⟨fun _ h => (by cases h), ?_⟩
        gi_wp2
        refine ⟨⟨i + 1, by omega, by go_num, Lib.hid ⟨ys, ?_, HAJ.out _ _ _ HJ2.out HG2.out⟩, HK.out.trans (KeepAt.of HG2.out)⟩, by simp [intOf]; omega⟩
        rw [HS.out, HYS.out]
        simp
    · have hil : i = many := by omega
      have HIL := Lib.hid hil
      clear hil
      gi_wp2
      go_end0
      obtain ⟨ys, hys, hJ⟩ := HJ.out
      refine ⟨⟨_, rfl⟩, .inl ⟨ys, ?_, hJ⟩⟩
      rw [hys, HIL.out]
/-- As an iterator that may be left. -/
theorem marksP_stops (v5 : Nat) (many : Nat) (f : Nat → Bool) (S : List Nat) (b1 b2 n : Nat) (w : World) (hmany : many ≤ 20)
    (hf : ∀ W', KeepAt S w W' → ∀ k : Nat, k < many → Calls Try.prog 102 #[.int .i64 k, .pointer (some ⟨v5, 0, none⟩)] W' fun e w' => e = .returned (.bool (f k)) ∧ Below W'.heap.size W' w')
    (hb1 : Box w b1 [.int .i64 many] 3) (hb2 : Box w b2 [.func (.func 102) #[] #[.pointer (some ⟨v5, 0, none⟩)]] 102) :
    SeqStopsK Fence.wide n Try.prog 107 #[.pointer (some ⟨b1, 0, none⟩), .pointer (some ⟨b2, 0, none⟩)] (encW (many := many) (f := f)) (KeepAt (b1 :: b2 :: S)) (fun ys => ys.map Wt.v = wts many f) (fun pre => ∃ rest, wts many f = pre.map Wt.v ++ rest) 1000 w :=
  SeqStopsK.depth (n := 8) rfl fun y J Jx W hW hAJ _hAX hY h0 =>
    marksP_any v5 many f S b1 b2 y J Jx W hmany (fun W' hK => hf W' ((KeepAt.of hW).trans hK)) (fun s A B h hg => hAJ s A B none h (Gr.gro hg) (fun r e => by cases e)) hY (hb1.grow hW) (hb2.grow hW) h0

set_option maxRecDepth 100000 in
set_option maxHeartbeats 2000000 in
theorem gatherP_any (v5 : Nat) (many : Nat) (f : Nat → Bool) (S : List Nat) (w : World) (hmany : many ≤ 11) (hS : ∀ k ∈ S, k < w.heap.size)
    (hf : ∀ W', KeepAt S w W' → ∀ k : Nat, k < many → Calls Try.prog 102 #[.int .i64 k, .pointer (some ⟨v5, 0, none⟩)] W' fun e w' => e = .returned (.bool (f k)) ∧ Below W'.heap.size W' w') :
    Calls Try.prog 63 #[.int .i64 many, .func (.func 102) #[] #[.pointer (some ⟨v5, 0, none⟩)]] w fun e w' => e = .returned (.int .i64 (gat f many : Nat)) ∧ Below w.heap.size w w' := by
  have HF := Lib.hid hf
  have HSS := Lib.hid hS
  have HRT := Lib.hid (fun W => marks_ret many (.func 102) #[] #[.pointer (some ⟨v5, 0, none⟩)] W)
  have HGW := Lib.hid (gat_wts f many)
  clear hf hS
  refine (callsIn_wide (n := 9)).1 ?_
  refine callsIn_of_wp_marks Try.func63 rfl trivial ?_ rfl
  simp only [Try.ntmps63, List.size_toArray, List.length_cons, List.length_nil, Nat.reduceAdd, Nat.reduceSub, Array.replicate_succ, Array.replicate_zero, List.push_toArray, List.append_toArray, List.nil_append, List.cons_append]
  refine wpIn_wide.2 ?_
  go_wp2_with (go_at_call 67; refine (HRT.out _).mono ?_; rintro e w1 ⟨rfl, hm1, hm2, hb1⟩)
  have hG1 : Gr w w1 := (Gr.alloc _ _).tr hb1
  have hR5 : Box w1 w.heap.size [.int .i64 0] 81 := (Box.fresh w [.int .i64 0] 81).grow hb1
  replace hm1 : Box w1 (w.heap.size + 1) [.int .i64 many] 3 := by simpa using hm1
  replace hm2 : Box w1 (w.heap.size + 1 + 1) [.func (.func 102) #[] #[.pointer (some ⟨v5, 0, none⟩)]] 102 := by simpa using hm2
  have hw1 : w.heap.size + 1 + 1 < w1.heap.size := hm2.lt
  have HG1 := Lib.hid hG1
  have HR5 := Lib.hid hR5
  have HM1 := Lib.hid hm1
  have HM2 := Lib.hid hm2
  clear hG1 hR5 hm1 hm2 hb1
  refine (wpIn_wide (n := 9)).1 ?_
  refine wpIn_rangeOwn rfl (by omega) (gf := 107) (lb := #[.pointer (some ⟨w.heap.size + 1, 0, none⟩), .pointer (some ⟨w.heap.size + 1 + 1, 0, none⟩)]) rfl trivial (enters_of Try.func107 (by kernel_rfl) rfl)
    (SeqStopsK.own (marksP_stops v5 many f S (w.heap.size + 1) (w.heap.size + 1 + 1) _ w1 (by omega) (fun W' hK k hk => HF.out W' ((KeepAt.of HG1.out).trans hK) k hk) HM1.out HM2.out)) (Gr.same _) KeepAt.trans
    (fun W o' => KeepAt.putObj W _ o' (by simp only [List.mem_cons, not_or]; exact ⟨by omega, by omega, fun h => by have := HSS.out _ h; omega⟩)) (fun _ => rfl)
    (GaI w) (fun _ _ _ => False) (GaI.own w (by omega)) (fun _ _ _ _ _ hs _ _ => hs) ⟨HR5.out, HG1.out⟩
    (fun x a' W => a' = { tmps := #[.int .i64 many, .func (.func 102) #[] #[.pointer (some ⟨v5, 0, none⟩)], undef, undef, .int .i64 0, .pointer (some ⟨w.heap.size, 0, none⟩), .int .i64 x.v, .int .i64 many, .func (.func 102) #[] #[.pointer (some ⟨v5, 0, none⟩)], marksV (w.heap.size + 1) (w.heap.size + 1 + 1), .int .i64 x.v, undef, undef, undef, undef, undef, undef], defers := [] }) (fun x a' => fun _ _ _ _ h _ _ => h) ?assign ?body ?done ?stop
  case assign =>
    intro y pre x W K hi hK
    have HI := Lib.hid hi
    clear hi
    unfold encW
    gi_wp2
    exact hK _ _ (KeepsOthers.refl _ |>.from _) (KeepAt.refl _ _) HI.out rfl
  case body =>
    rintro y pre x a' W hyl - ⟨h5, hBW⟩ rfl hN
    have H5 := Lib.hid h5
    have HBW := Lib.hid hBW
    have hx := x.lt
    have hlt : gatl (pre.map Wt.v) < 2048 := gatl_lt fun k hk => by
      obtain ⟨z, -, rfl⟩ := List.mem_map.1 hk
      have := z.lt
      omega
    have HC := Lib.hid (fun W => setOf_any x.v W (by omega))
    have HJ := Lib.hid (fun W g T hb => join_any (gatl (pre.map Wt.v)) (2 ^ x.v) g W T hlt (pow11 x.v (by omega)).1 hb)
    have hsn := gatl_snoc (pre.map Wt.v) x.v
    have hmp : (pre ++ [x]).map Wt.v = pre.map Wt.v ++ [x.v] := by simp
    rw [← hmp] at hsn
    have HSN := Lib.hid hsn
    clear h5 hBW hmp hsn hlt
    generalize gatl (pre.map Wt.v) = s at *
    generalize hn : s ||| 2 ^ x.v = nw at *
    generalize 2 ^ x.v = p at *
    gi_wp2_with fail
    refine region2_in 5 ?_ ?_ ?_ ?_ ?_
    · kernel_rfl
    · kernel_rfl
    · kernel_rfl
    · rintro ⟨_, _, h⟩; exact h
    simp only [List.take_succ_cons, List.take_zero, List.drop_succ_cons, List.drop_zero]
    apply chain_eq (D := [(5, none)]) rfl (by kernel_rfl)
    · intro ρ W4 ⟨p1, p2, p3⟩ hG hF K hK; (try simp [FactsD] at hF); have hD := Gr.tr (Gr.drew _) hG; have z0 := (H5.out.grow hD).cell (i := 0) rfl; go_simp; exact hK _ (gives_val)
    apply chain_eq (D := [(6, none)]) rfl (by kernel_rfl)
    · intro ρ W4 ⟨p1, p2, p3⟩ hG hF K hK; (try simp [FactsD] at hF); have hD := Gr.tr (Gr.drew _) hG; go_simp; exact hK _ (gives_val)
    apply chain_eq (D := [(12, some 0)]) rfl (by kernel_rfl)
    · intro ρ W4 ⟨p1, p2, p3⟩ hG hF K hK; (try simp [FactsD] at hF); have hD := Gr.tr (Gr.drew _) hG; go_simp; exact hK _ (gives_call (HC.out _))
    refine chain_any (V := Two s p) (D := [(11, some 2), (13, some 0)]) rfl (by kernel_rfl) (Two.lasts _ _) ?_ ?_
    · intro ρ W4 ⟨p1, p2, p3⟩ hG hF K hK; (try simp [FactsD] at hF); have hD := Gr.tr (Gr.drew _) hG; go_simp; exact hK _ (⟨⟨_, _, rfl, Box.fresh _ [.int .i64 (s : Int), .int .i64 (p : Int)] _⟩, Gr.alloc _ _⟩)
    refine chain_any (V := fun v _ => v = .int .i64 (nw : Nat)) (D := [(14, some 0)]) rfl (by kernel_rfl) (Lasts.eq _) ?_ ?_
    · intro ρ W4 ⟨p1, p2, p3⟩ hG hF K hK; (try simp [FactsD] at hF); have hD := Gr.tr (Gr.drew _) hG; obtain ⟨g, T, hg1, hg2⟩ := hF; go_simp; exact hK _ (gives_call (HJ.out _ _ _ hg2))
    refine chain_done ?_
    intro vs W4 hG hV
    obtain ⟨e4, -⟩ := hV
    simp only [Nat.reduceSub] at e4
    simp only [lay, Act.put, List.getElem?_toArray, List.getElem?_cons_succ, List.getElem?_cons_zero, Option.bind_some, List.setIfInBounds_toArray, List.set_cons_succ, List.set_cons_zero]
    generalize vs 0 = v0
    generalize vs 1 = v1
    generalize vs 2 = v2
    generalize vs 3 = v3
    generalize vs 4 = v4 at *
    subst e4
    have HG := Lib.hid hG
    have H5' := Lib.hid (H5.out.grow hG)
    have f5 := H5'.out.free (i := 0)
    have z5 := H5'.out.cell (i := 0) rfl
    have l5 := H5'.out.lt
    clear hG
    go_wp2_with fail
    refine ⟨((keepsO HG.out).trans (KeepsOthers.setCell _ _ _)).from _, (KeepAt.of HG.out).trans (KeepAt.set _ _ _ _ (by simp only [List.mem_cons, not_or]; exact ⟨by omega, by omega, fun h => by have := HSS.out _ h; omega⟩)), ?_, (bgr HBW.out HBW.out.size HG.out).setCell (by simp) _⟩
    rw [HSN.out]
    exact H5'.out.put 0 _
  case done =>
    rintro D ys W hD hys ⟨h5, hBW⟩ hK
    rw [hys, ← HGW.out] at h5
    have H5 := Lib.hid h5
    have HBW := Lib.hid hBW
    have HK := Lib.hid hK
    have z5 := h5.cell (i := 0) rfl
    have l5 := h5.lt
    clear h5 hBW hK hys
    go_wp2_with fail
    refine ⟨by simp, .inl ⟨_, _, rfl, run_takeDeferred HK.out, ?_⟩⟩
    refine ⟨.int .i64 (gat f many : Nat), by simp [results, Try.f63, go_sem], rfl, ?_⟩
    exact HBW.out.trans (belowK_b (w := w) (Nat.le_refl _) _ D _ _ (by omega) HK.out rfl rfl)
  case stop =>
    rintro D c pre W _ _ h _
    exact h.elim

end Go.Proofs.Ytjlaoiimbhlafaa
end
section
namespace Go.Proofs.Ytjlaoiimbhlafaa
open Go.RowKit Go.Shelf

open MW
attribute [local go_sem] Oper.semAt_some
set_option maxRecDepth 100000 in
set_option maxHeartbeats 2000000 in
theorem marksL_any (lk : Lk) (many : Nat) (f : Nat → Bool) (S : List Nat) (b1 b2 y : Nat) (J Jx : List (Wt many f) → World → Prop) (W : World) (hmany : many ≤ 20)
    (hf : ∀ W', KeepAt S W W' → ∀ k : Nat, k < many → Calls Try.prog 64 #[.agg lk.cs.toArray, .int .i64 k] W' fun e w' => e = .returned (.bool (f k)) ∧ Below W'.heap.size W' w')
    (hAJ : ∀ s A B, J s A → Gr A B → J s B)
    (hY : ∀ pre x W, J pre W → pre.length < 1000 → YieldAt Fence.wide 7 Try.prog y (encW x) W fun e W' =>
      (e = .returned (.bool true) ∧ J (pre ++ [x]) W' ∧ KeepAt (b1 :: b2 :: S) W W') ∨ (e = .returned (.bool false) ∧ Jx (pre ++ [x]) W'))
    (hb1 : Box W b1 [.int .i64 many] 3) (hb2 : Box W b2 [.func (.func 64) #[.agg lk.cs.toArray] #[]] 102) (h0 : J [] W) :
    CallsIn Fence.wide 8 Try.prog 107 #[.func (.yield y) #[] #[], .pointer (some ⟨b1, 0, none⟩), .pointer (some ⟨b2, 0, none⟩)] W fun e W' => (∃ v, e = .returned v) ∧
      ((∃ ys : List (Wt many f), ys.map Wt.v = wts many f ∧ J ys W') ∨ (∃ pre : List (Wt many f), (∃ rest, wts many f = pre.map Wt.v ++ rest) ∧ Jx pre W')) := by
  have HF := Lib.hid hf
  have HAJ := Lib.hid hAJ
  have HY := Lib.hid hY
  have HB1 := Lib.hid hb1
  have HB2 := Lib.hid hb2
  have H0 := Lib.hid h0
  have c0 := hb1.cell (i := 0) rfl
  have l0 := hb1.lt
  clear hf hAJ hY hb1 hb2 h0
  refine callsIn_of_wp Try.func107 rfl trivial ?_ rfl
  simp only [Try.ntmps107, List.size_toArray, List.length_cons, List.length_nil, Nat.reduceAdd, Nat.reduceSub, Array.replicate_succ, Array.replicate_zero, List.push_toArray, List.append_toArray, List.nil_append, List.cons_append]
  gi_wp2
  gi_loopw [6] (fun t wr => ∃ i : Nat, i ≤ many ∧ t = .int .i64 i ∧ Hid (∃ ys : List (Wt many f), ys.map Wt.v = wts i f ∧ J ys wr) ∧ KeepAt (b1 :: b2 :: S) W wr) (fun t _ => (50 - intOf t).toNat)
  case atStart => exact ⟨0, Nat.zero_le _, rfl, Lib.hid ⟨[], rfl, H0.out⟩, KeepAt.refl _ _⟩
  case round =>
    obtain ⟨i, hi, rfl, HJ, hK⟩ := hrel
    have HK := Lib.hid hK
    clear hK c0 l0
    have c2 := (HK.out.box HB2.out (by simp)).cell (i := 0) rfl
    have l2 := (HK.out.box HB2.out (by simp)).lt
    by_cases hlt : i < many
    · have HS := Lib.hid (wts_succ i f)
      obtain ⟨ys, hys, hJ⟩ := HJ.out
      have hyl : ys.length < 1000 := by
        have h1 := congrArg List.length hys
        have h2 := wts_len i f
        rw [List.length_map] at h1
        omega
      have HYS := Lib.hid hys
      have HJ2 := Lib.hid hJ
      have HC := Lib.hid (HF.out wr (HK.out.mono fun k hk => by simp [hk]) i hlt)
      clear hys hJ
      cases hfi : f i with
      | true =>
        have HFI := Lib.hid hfi
        rw [hfi] at HS HC
        clear hfi
        gi_wp2_with (refine ⟨trivial, ?_⟩; gi_at_call 64; refine (callsIn_wide.2 HC.out).mono ?_; rintro e w2 ⟨rfl, hb2⟩; have HG2 := Lib.hid (show Gr wr w2 from hb2); obtain ⟨hc2, hf2, hz2⟩ := bcell HG2.out; clear hb2; obtain ⟨fn3, t3, a3, b3, hy3, hR3⟩ := HY.out ys ⟨i, hlt, HFI.out⟩ w2 (HAJ.out _ _ _ HJ2.out HG2.out) hyl; dsimp only [encW] at hy3)
        refine hR3.mono ?_
        rintro e W3 (⟨rfl, hJ3, hk3⟩ | ⟨rfl, hx3⟩)
        · have HJ3 := Lib.hid hJ3
          have HK3 := Lib.hid (HK.out.trans ((KeepAt.of HG2.out).trans hk3))
          clear hJ3 hk3 hy3 hR3 hc2 hf2 hz2 c2
          gi_wp2
          refine ⟨⟨i + 1, by omega, by go_num, Lib.hid ⟨_, ?_, HJ3.out⟩, HK3.out⟩, by simp [intOf]; omega⟩
          rw [HS.out, List.map_append, HYS.out]
          rfl
        · gi_wp2
          refine bodyPost_ret (results_none rfl _ _ _) rfl ?_
          obtain ⟨rest, hrest⟩ := wts_pre f (show i + 1 ≤ many by omega)
          refine ⟨⟨_, rfl⟩, .inr ⟨_, ⟨rest, ?_⟩, hx3⟩⟩
          rw [List.map_append, HYS.out, hrest, HS.out]
          rfl
      | false =>
        rw [hfi] at HS HC
        clear hfi
        gi_wp2_with (refine ⟨trivial, ?_⟩; gi_at_call 64; refine (callsIn_wide.2 HC.out).mono ?_; rintro e w2 ⟨rfl, hb2⟩; have HG2 := Lib.hid (show Gr wr w2 from hb2); clear hb2)
        refine ⟨fun _ h => (by cases h), ?_⟩
        gi_wp2
        refine ⟨⟨i + 1, by omega, by go_num, Lib.hid ⟨ys, ?_, HAJ.out _ _ _ HJ2.out HG2.out⟩, HK.out.trans (KeepAt.of HG2.out)⟩, by simp [intOf]; omega⟩
        rw [HS.out, HYS.out]
        simp
    · have hil : i = many := by omega
      have HIL := Lib.hid hil
      clear hil
      gi_wp2
      go_end0
      obtain ⟨ys, hys, hJ⟩ := HJ.out
      refine ⟨⟨_, rfl⟩, .inl ⟨ys, ?_, hJ⟩⟩
      rw [hys, HIL.out]
/-- As an iterator that may be left. -/
theorem marksL_stops (lk : Lk) (many : Nat) (f : Nat → Bool) (S : List Nat) (b1 b2 n : Nat) (w : World) (hmany : many ≤ 20)
    (hf : ∀ W', KeepAt S w W' → ∀ k : Nat, k < many → Calls Try.prog 64 #[.agg lk.cs.toArray, .int .i64 k] W' fun e w' => e = .returned (.bool (f k)) ∧ Below W'.heap.size W' w')
    (hb1 : Box w b1 [.int .i64 many] 3) (hb2 : Box w b2 [.func (.func 64) #[.agg lk.cs.toArray] #[]] 102) :
    SeqStopsK Fence.wide n Try.prog 107 #[.pointer (some ⟨b1, 0, none⟩), .pointer (some ⟨b2, 0, none⟩)] (encW (many := many) (f := f)) (KeepAt (b1 :: b2 :: S)) (fun ys => ys.map Wt.v = wts many f) (fun pre => ∃ rest, wts many f = pre.map Wt.v ++ rest) 1000 w :=
  SeqStopsK.depth (n := 8) rfl fun y J Jx W hW hAJ _hAX hY h0 =>
    marksL_any lk many f S b1 b2 y J Jx W hmany (fun W' hK => hf W' ((KeepAt.of hW).trans hK)) (fun s A B h hg => hAJ s A B none h (Gr.gro hg) (fun r e => by cases e)) hY (hb1.grow hW) (hb2.grow hW) h0

set_option maxRecDepth 100000 in
set_option maxHeartbeats 2000000 in
theorem gatherL_any (lk : Lk) (many : Nat) (f : Nat → Bool) (S : List Nat) (w : World) (hmany : many ≤ 11) (hS : ∀ k ∈ S, k < w.heap.size)
    (hf : ∀ W', KeepAt S w W' → ∀ k : Nat, k < many → Calls Try.prog 64 #[.agg lk.cs.toArray, .int .i64 k] W' fun e w' => e = .returned (.bool (f k)) ∧ Below W'.heap.size W' w') :
    Calls Try.prog 63 #[.int .i64 many, .func (.func 64) #[.agg lk.cs.toArray] #[]] w fun e w' => e = .returned (.int .i64 (gat f many : Nat)) ∧ Below w.heap.size w w' := by
  have HF := Lib.hid hf
  have HSS := Lib.hid hS
  have HRT := Lib.hid (fun W => marks_ret many (.func 64) #[.agg lk.cs.toArray] #[] W)
  have HGW := Lib.hid (gat_wts f many)
  clear hf hS
  refine (callsIn_wide (n := 9)).1 ?_
  refine callsIn_of_wp_marks Try.func63 rfl trivial ?_ rfl
  simp only [Try.ntmps63, List.size_toArray, List.length_cons, List.length_nil, Nat.reduceAdd, Nat.reduceSub, Array.replicate_succ, Array.replicate_zero, List.push_toArray, List.append_toArray, List.nil_append, List.cons_append]
  refine wpIn_wide.2 ?_
  go_wp2_with (go_at_call 67; refine (HRT.out _).mono ?_; rintro e w1 ⟨rfl, hm1, hm2, hb1⟩)
  have hG1 : Gr w w1 := (Gr.alloc _ _).tr hb1
  have hR5 : Box w1 w.heap.size [.int .i64 0] 81 := (Box.fresh w [.int .i64 0] 81).grow hb1
  replace hm1 : Box w1 (w.heap.size + 1) [.int .i64 many] 3 := by simpa using hm1
  replace hm2 : Box w1 (w.heap.size + 1 + 1) [.func (.func 64) #[.agg lk.cs.toArray] #[]] 102 := by simpa using hm2
  have hw1 : w.heap.size + 1 + 1 < w1.heap.size := hm2.lt
  have HG1 := Lib.hid hG1
  have HR5 := Lib.hid hR5
  have HM1 := Lib.hid hm1
  have HM2 := Lib.hid hm2
  clear hG1 hR5 hm1 hm2 hb1
  refine (wpIn_wide (n := 9)).1 ?_
  refine wpIn_rangeOwn rfl (by omega) (gf := 107) (lb := #[.pointer (some ⟨w.heap.size + 1, 0, none⟩), .pointer (some ⟨w.heap.size + 1 + 1, 0, none⟩)]) rfl trivial (enters_of Try.func107 (by kernel_rfl) rfl)
    (SeqStopsK.own (marksL_stops lk many f S (w.heap.size + 1) (w.heap.size + 1 + 1) _ w1 (by omega) (fun W' hK k hk => HF.out W' ((KeepAt.of HG1.out).trans hK) k hk) HM1.out HM2.out)) (Gr.same _) KeepAt.trans
    (fun W o' => KeepAt.putObj W _ o' (by simp only [List.mem_cons, not_or]; exact ⟨by omega, by omega, fun h => by have := HSS.out _ h; omega⟩)) (fun _ => rfl)
    (GaI w) (fun _ _ _ => False) (GaI.own w (by omega)) (fun _ _ _ _ _ hs _ _ => hs) ⟨HR5.out, HG1.out⟩
    (fun x a' W => a' = { tmps := #[.int .i64 many, .func (.func 64) #[.agg lk.cs.toArray] #[], undef, undef, .int .i64 0, .pointer (some ⟨w.heap.size, 0, none⟩), .int .i64 x.v, .int .i64 many, .func (.func 64) #[.agg lk.cs.toArray] #[], marksV (w.heap.size + 1) (w.heap.size + 1 + 1), .int .i64 x.v, undef, undef, undef, undef, undef, undef], defers := [] }) (fun x a' => fun _ _ _ _ h _ _ => h) ?assign ?body ?done ?stop
  case assign =>
    intro y pre x W K hi hK
    have HI := Lib.hid hi
    clear hi
    unfold encW
    gi_wp2
    exact hK _ _ (KeepsOthers.refl _ |>.from _) (KeepAt.refl _ _) HI.out rfl
  case body =>
    rintro y pre x a' W hyl - ⟨h5, hBW⟩ rfl hN
    have H5 := Lib.hid h5
    have HBW := Lib.hid hBW
    have hx := x.lt
    have hlt : gatl (pre.map Wt.v) < 2048 := gatl_lt fun k hk => by
      obtain ⟨z, -, rfl⟩ := List.mem_map.1 hk
      have := z.lt
      omega
    have HC := Lib.hid (fun W => setOf_any x.v W (by omega))
    have HJ := Lib.hid (fun W g T hb => join_any (gatl (pre.map Wt.v)) (2 ^ x.v) g W T hlt (pow11 x.v (by omega)).1 hb)
    have hsn := gatl_snoc (pre.map Wt.v) x.v
    have hmp : (pre ++ [x]).map Wt.v = pre.map Wt.v ++ [x.v] := by simp
    rw [← hmp] at hsn
    have HSN := Lib.hid hsn
    clear h5 hBW hmp hsn hlt
    generalize gatl (pre.map Wt.v) = s at *
    generalize hn : s ||| 2 ^ x.v = nw at *
    generalize 2 ^ x.v = p at *
    gi_wp2_with fail
    refine region2_in 5 ?_ ?_ ?_ ?_ ?_
    · kernel_rfl
    · kernel_rfl
    · kernel_rfl
    · rintro ⟨_, _, h⟩; exact h
    simp only [List.take_succ_cons, List.take_zero, List.drop_succ_cons, List.drop_zero]
    apply chain_eq (D := [(5, none)]) rfl (by kernel_rfl)
    · intro ρ W4 ⟨p1, p2, p3⟩ hG hF K hK; (try simp [FactsD] at hF); have hD := Gr.tr (Gr.drew _) hG; have z0 := (H5.out.grow hD).cell (i := 0) rfl; go_simp; exact hK _ (gives_val)
    apply chain_eq (D := [(6, none)]) rfl (by kernel_rfl)
    · intro ρ W4 ⟨p1, p2, p3⟩ hG hF K hK; (try simp [FactsD] at hF); have hD := Gr.tr (Gr.drew _) hG; go_simp; exact hK _ (gives_val)
    apply chain_eq (D := [(12, some 0)]) rfl (by kernel_rfl)
    · intro ρ W4 ⟨p1, p2, p3⟩ hG hF K hK; (try simp [FactsD] at hF); have hD := Gr.tr (Gr.drew _) hG; go_simp; exact hK _ (gives_call (HC.out _))
    refine chain_any (V := Two s p) (D := [(11, some 2), (13, some 0)]) rfl (by kernel_rfl) (Two.lasts _ _) ?_ ?_
    · intro ρ W4 ⟨p1, p2, p3⟩ hG hF K hK; (try simp [FactsD] at hF); have hD := Gr.tr (Gr.drew _) hG; go_simp; exact hK _ (⟨⟨_, _, rfl, Box.fresh _ [.int .i64 (s : Int), .int .i64 (p : Int)] _⟩, Gr.alloc _ _⟩)
    refine chain_any (V := fun v _ => v = .int .i64 (nw : Nat)) (D := [(14, some 0)]) rfl (by kernel_rfl) (Lasts.eq _) ?_ ?_
    · intro ρ W4 ⟨p1, p2, p3⟩ hG hF K hK; (try simp [FactsD] at hF); have hD := Gr.tr (Gr.drew _) hG; obtain ⟨g, T, hg1, hg2⟩ := hF; go_simp; exact hK _ (gives_call (HJ.out _ _ _ hg2))
    refine chain_done ?_
    intro vs W4 hG hV
    obtain ⟨e4, -⟩ := hV
    simp only [Nat.reduceSub] at e4
    simp only [lay, Act.put, List.getElem?_toArray, List.getElem?_cons_succ, List.getElem?_cons_zero, Option.bind_some, List.setIfInBounds_toArray, List.set_cons_succ, List.set_cons_zero]
    generalize vs 0 = v0
    generalize vs 1 = v1
    generalize vs 2 = v2
    generalize vs 3 = v3
    generalize vs 4 = v4 at *
    subst e4
    have HG := Lib.hid hG
    have H5' := Lib.hid (H5.out.grow hG)
    have f5 := H5'.out.free (i := 0)
    have z5 := H5'.out.cell (i := 0) rfl
    have l5 := H5'.out.lt
    clear hG
    go_wp2_with fail
    refine ⟨((keepsO HG.out).trans (KeepsOthers.setCell _ _ _)).from _, (KeepAt.of HG.out).trans (KeepAt.set _ _ _ _ (by simp only [List.mem_cons, not_or]; exact ⟨by omega, by omega, fun h => by have := HSS.out _ h; omega⟩)), ?_, (bgr HBW.out HBW.out.size HG.out).setCell (by simp) _⟩
    rw [HSN.out]
    exact H5'.out.put 0 _
  case done =>
    rintro D ys W hD hys ⟨h5, hBW⟩ hK
    rw [hys, ← HGW.out] at h5
    have H5 := Lib.hid h5
    have HBW := Lib.hid hBW
    have HK := Lib.hid hK
    have z5 := h5.cell (i := 0) rfl
    have l5 := h5.lt
    clear h5 hBW hK hys
    go_wp2_with fail
    refine ⟨by simp, .inl ⟨_, _, rfl, run_takeDeferred HK.out, ?_⟩⟩
    refine ⟨.int .i64 (gat f many : Nat), by simp [results, Try.f63, go_sem], rfl, ?_⟩
    exact HBW.out.trans (belowK_b (w := w) (Nat.le_refl _) _ D _ _ (by omega) HK.out rfl rfl)
  case stop =>
    rintro D c pre W _ _ h _
    exact h.elim

end Go.Proofs.Ytjlaoiimbhlafaa
end
section
namespace Go.Proofs.Ytjlaoiimbhlafaa
open Go.RowKit Go.Shelf

open MW
attribute [local go_sem] Oper.semAt_some
set_option maxRecDepth 100000 in
set_option maxHeartbeats 2000000 in
theorem marksR_any (lk : Lk) (many : Nat) (f : Nat → Bool) (S : List Nat) (b1 b2 y : Nat) (J Jx : List (Wt many f) → World → Prop) (W : World) (hmany : many ≤ 20)
    (hf : ∀ W', KeepAt S W W' → ∀ k : Nat, k < many → Calls Try.prog 65 #[.agg lk.cs.toArray, .int .i64 k] W' fun e w' => e = .returned (.bool (f k)) ∧ Below W'.heap.size W' w')
    (hAJ : ∀ s A B, J s A → Gr A B → J s B)
    (hY : ∀ pre x W, J pre W → pre.length < 1000 → YieldAt Fence.wide 7 Try.prog y (encW x) W fun e W' =>
      (e = .returned (.bool true) ∧ J (pre ++ [x]) W' ∧ KeepAt (b1 :: b2 :: S) W W') ∨ (e = .returned (.bool false) ∧ Jx (pre ++ [x]) W'))
    (hb1 : Box W b1 [.int .i64 many] 3) (hb2 : Box W b2 [.func (.func 65) #[.agg lk.cs.toArray] #[]] 102) (h0 : J [] W) :
    CallsIn Fence.wide 8 Try.prog 107 #[.func (.yield y) #[] #[], .pointer (some ⟨b1, 0, none⟩), .pointer (some ⟨b2, 0, none⟩)] W fun e W' => (∃ v, e = .returned v) ∧
      ((∃ ys : List (Wt many f), ys.map Wt.v = wts many f ∧ J ys W') ∨ (∃ pre : List (Wt many f), (∃ rest, wts many f = pre.map Wt.v ++ rest) ∧ Jx pre W')) := by
  have HF := Lib.hid hf
  have HAJ := Lib.hid hAJ
  have HY := Lib.hid hY
  have HB1 := Lib.hid hb1
  have HB2 := Lib.hid hb2
  have H0 := Lib.hid h0
  have c0 := hb1.cell (i := 0) rfl
  have l0 := hb1.lt
  clear hf hAJ hY hb1 hb2 h0
  refine callsIn_of_wp Try.func107 rfl trivial ?_ rfl
  simp only [Try.ntmps107, List.size_toArray, List.length_cons, List.length_nil, Nat.reduceAdd, Nat.reduceSub, Array.replicate_succ, Array.replicate_zero, List.push_toArray, List.append_toArray, List.nil_append, List.cons_append]
  gi_wp2
  gi_loopw [6] (fun t wr => ∃ i : Nat, i ≤ many ∧ t = .int .i64 i ∧ Hid (∃ ys : List (Wt many f), ys.map Wt.v = wts i f ∧ J ys wr) ∧ KeepAt (b1 :: b2 :: S) W wr) (fun t _ => (50 - intOf t).toNat)
  case atStart => exact ⟨0, Nat.zero_le _, rfl, Lib.hid ⟨[], rfl, H0.out⟩, KeepAt.refl _ _⟩
  case round =>
    obtain ⟨i, hi, rfl, HJ, hK⟩ := hrel
    have HK := Lib.hid hK
    clear hK c0 l0
    have c2 := (HK.out.box HB2.out (by simp)).cell (i := 0) rfl
    have l2 := (HK.out.box HB2.out (by simp)).lt
    by_cases hlt : i < many
    · have HS := Lib.hid (wts_succ i f)
      obtain ⟨ys, hys, hJ⟩ := HJ.out
      have hyl : ys.length < 1000 := by
        have h1 := congrArg List.length hys
        have h2 := wts_len i f
        rw [List.length_map] at h1
        omega
      have HYS := Lib.hid hys
      have HJ2 := Lib.hid hJ
      have HC := Lib.hid (HF.out wr (HK.out.mono fun k hk => by simp [hk]) i hlt)
      clear hys hJ
      cases hfi : f i with
      | true =>
        have HFI := Lib.hid hfi
        rw [hfi] at HS HC
        clear hfi
        gi_wp2_with (refine ⟨trivial, ?_⟩; gi_at_call 65; refine (callsIn_wide.2 HC.out).mono ?_; rintro e w2 ⟨rfl, hb2⟩; have HG2 := Lib.hid (show Gr wr w2 from hb2); obtain ⟨hc2, hf2, hz2⟩ := bcell HG2.out; clear hb2; obtain ⟨fn3, t3, a3, b3, hy3, hR3⟩ := HY.out ys ⟨i, hlt, HFI.out⟩ w2 (HAJ.out _ _ _ HJ2.out HG2.out) hyl; dsimp only [encW] at hy3)
        refine hR3.mono ?_
        rintro e W3 (⟨rfl, hJ3, hk3⟩ | ⟨rfl, hx3⟩)
        · have HJ3 := Lib.hid hJ3
          have HK3 := Lib.hid (HK.out.trans ((KeepAt.of HG2.out).trans hk3))
          clear hJ3 hk3 hy3 hR3 hc2 hf2 hz2 c2
          gi_wp2
          refine ⟨⟨i + 1, by omega, by go_num, Lib.hid ⟨_, ?_, HJ3.out⟩, HK3.out⟩, by simp [intOf]; omega⟩
          rw [HS.out, List.map_append, HYS.out]
          rfl
        · gi_wp2
          refine bodyPost_ret (results_none rfl _ _ _) rfl ?_
          obtain ⟨rest, hrest⟩ := wts_pre f (show i + 1 ≤ many by omega)
          refine ⟨⟨_, rfl⟩, .inr ⟨_, ⟨rest, ?_⟩, hx3⟩⟩
          rw [List.map_append, HYS.out, hrest, HS.out]
          rfl
      | false =>
        rw [hfi] at HS HC
        clear hfi
        gi_wp2_with (refine ⟨trivial, ?_⟩; gi_at_call 65; refine (callsIn_wide.2 HC.out).mono ?_; rintro e w2 ⟨rfl, hb2⟩; have HG2 := Lib.hid (show Gr wr w2 from hb2); clear hb2)
        refine ⟨fun _ h => (by cases h), ?_⟩
        gi_wp2
        refine ⟨⟨i + 1, by omega, by go_num, Lib.hid ⟨ys, ?_, HAJ.out _ _ _ HJ2.out HG2.out⟩, HK.out.trans (KeepAt.of HG2.out)⟩, by simp [intOf]; omega⟩
        rw [HS.out, HYS.out]
        simp
    · have hil : i = many := by omega
      have HIL := Lib.hid hil
      clear hil
      gi_wp2
      go_end0
      obtain ⟨ys, hys, hJ⟩ := HJ.out
      refine ⟨⟨_, rfl⟩, .inl ⟨ys, ?_, hJ⟩⟩
      rw [hys, HIL.out]
/-- As an iterator that may be left. -/
theorem marksR_stops (lk : Lk) (many : Nat) (f : Nat → Bool) (S : List Nat) (b1 b2 n : Nat) (w : World) (hmany : many ≤ 20)
    (hf : ∀ W', KeepAt S w W' → ∀ k : Nat, k < many → Calls Try.prog 65 #[.agg lk.cs.toArray, .int .i64 k] W' fun e w' => e = .returned (.bool (f k)) ∧ Below W'.heap.size W' w')
    (hb1 : Box w b1 [.int .i64 many] 3) (hb2 : Box w b2 [.func (.func 65) #[.agg lk.cs.toArray] #[]] 102) :
    SeqStopsK Fence.wide n Try.prog 107 #[.pointer (some ⟨b1, 0, none⟩), .pointer (some ⟨b2, 0, none⟩)] (encW (many := many) (f := f)) (KeepAt (b1 :: b2 :: S)) (fun ys => ys.map Wt.v = wts many f) (fun pre => ∃ rest, wts many f = pre.map Wt.v ++ rest) 1000 w :=
  SeqStopsK.depth (n := 8) rfl fun y J Jx W hW hAJ _hAX hY h0 =>
    marksR_any lk many f S b1 b2 y J Jx W hmany (fun W' hK => hf W' ((KeepAt.of hW).trans hK)) (fun s A B h hg => hAJ s A B none h (Gr.gro hg) (fun r e => by cases e)) hY (hb1.grow hW) (hb2.grow hW) h0

set_option maxRecDepth 100000 in
set_option maxHeartbeats 2000000 in
theorem gatherR_any (lk : Lk) (many : Nat) (f : Nat → Bool) (S : List Nat) (w : World) (hmany : many ≤ 11) (hS : ∀ k ∈ S, k < w.heap.size)
    (hf : ∀ W', KeepAt S w W' → ∀ k : Nat, k < many → Calls Try.prog 65 #[.agg lk.cs.toArray, .int .i64 k] W' fun e w' => e = .returned (.bool (f k)) ∧ Below W'.heap.size W' w') :
    Calls Try.prog 63 #[.int .i64 many, .func (.func 65) #[.agg lk.cs.toArray] #[]] w fun e w' => e = .returned (.int .i64 (gat f many : Nat)) ∧ Below w.heap.size w w' := by
  have HF := Lib.hid hf
  have HSS := Lib.hid hS
  have HRT := Lib.hid (fun W => marks_ret many (.func 65) #[.agg lk.cs.toArray] #[] W)
  have HGW := Lib.hid (gat_wts f many)
  clear hf hS
  refine (callsIn_wide (n := 9)).1 ?_
  refine callsIn_of_wp_marks Try.func63 rfl trivial ?_ rfl
  simp only [Try.ntmps63, List.size_toArray, List.length_cons, List.length_nil, Nat.reduceAdd, Nat.reduceSub, Array.replicate_succ, Array.replicate_zero, List.push_toArray, List.append_toArray, List.nil_append, List.cons_append]
  refine wpIn_wide.2 ?_
  go_wp2_with (go_at_call 67; refine (HRT.out _).mono ?_; rintro e w1 ⟨rfl, hm1, hm2, hb1⟩)
  have hG1 : Gr w w1 := (Gr.alloc _ _).tr hb1
  have hR5 : Box w1 w.heap.size [.int .i64 0] 81 := (Box.fresh w [.int .i64 0] 81).grow hb1
  replace hm1 : Box w1 (w.heap.size + 1) [.int .i64 many] 3 := by simpa using hm1
  replace hm2 : Box w1 (w.heap.size + 1 + 1) [.func (.func 65) #[.agg lk.cs.toArray] #[]] 102 := by simpa using hm2
  have hw1 : w.heap.size + 1 + 1 < w1.heap.size := hm2.lt
  have HG1 := Lib.hid hG1
  have HR5 := Lib.hid hR5
  have HM1 := Lib.hid hm1
  have HM2 := Lib.hid hm2
  clear hG1 hR5 hm1 hm2 hb1
  refine (wpIn_wide (n := 9)).1 ?_
  refine wpIn_rangeOwn rfl (by omega) (gf := 107) (lb := #[.pointer (some ⟨w.heap.size + 1, 0, none⟩), .pointer (some ⟨w.heap.size + 1 + 1, 0, none⟩)]) rfl trivial (enters_of Try.func107 (by kernel_rfl) rfl)
    (SeqStopsK.own (marksR_stops lk many f S (w.heap.size + 1) (w.heap.size + 1 + 1) _ w1 (by omega) (fun W' hK k hk => HF.out W' ((KeepAt.of HG1.out).trans hK) k hk) HM1.out HM2.out)) (Gr.same _) KeepAt.trans
    (fun W o' => KeepAt.putObj W _ o' (by simp only [List.mem_cons, not_or]; exact ⟨by omega, by omega, fun h => by have := HSS.out _ h; omega⟩)) (fun _ => rfl)
    (GaI w) (fun _ _ _ => False) (GaI.own w (by omega)) (fun _ _ _ _ _ hs _ _ => hs) ⟨HR5.out, HG1.out⟩
    (fun x a' W => a' = { tmps := #[.int .i64 many, .func (.func 65) #[.agg lk.cs.toArray] #[], undef, undef, .int .i64 0, .pointer (some ⟨w.heap.size, 0, none⟩), .int .i64 x.v, .int .i64 many, .func (.func 65) #[.agg lk.cs.toArray] #[], marksV (w.heap.size + 1) (w.heap.size + 1 + 1), .int .i64 x.v, undef, undef, undef, undef, undef, undef], defers := [] }) (fun x a' => fun _ _ _ _ h _ _ => h) ?assign ?body ?done ?stop
  case assign =>
    intro y pre x W K hi hK
    have HI := Lib.hid hi
    clear hi
    unfold encW
    gi_wp2
    exact hK _ _ (KeepsOthers.refl _ |>.from _) (KeepAt.refl _ _) HI.out rfl
  case body =>
    rintro y pre x a' W hyl - ⟨h5, hBW⟩ rfl hN
    have H5 := Lib.hid h5
    have HBW := Lib.hid hBW
    have hx := x.lt
    have hlt : gatl (pre.map Wt.v) < 2048 := gatl_lt fun k hk => by
      obtain ⟨z, -, rfl⟩ := List.mem_map.1 hk
      have := z.lt
      omega
    have HC := Lib.hid (fun W => setOf_any x.v W (by omega))
    have HJ := Lib.hid (fun W g T hb => join_any (gatl (pre.map Wt.v)) (2 ^ x.v) g W T hlt (pow11 x.v (by omega)).1 hb)
    have hsn := gatl_snoc (pre.map Wt.v) x.v
    have hmp : (pre ++ [x]).map Wt.v = pre.map Wt.v ++ [x.v] := by simp
    rw [← hmp] at hsn
    have HSN := Lib.hid hsn
    clear h5 hBW hmp hsn hlt
    generalize gatl (pre.map Wt.v) = s at *
    generalize hn : s ||| 2 ^ x.v = nw at *
    generalize 2 ^ x.v = p at *
    gi_wp2_with fail
    refine region2_in 5 ?_ ?_ ?_ ?_ ?_
    · kernel_rfl
    · kernel_rfl
    · kernel_rfl
    · rintro ⟨_, _, h⟩; exact h
    simp only [List.take_succ_cons, List.take_zero, List.drop_succ_cons, List.drop_zero]
    apply chain_eq (D := [(5, none)]) rfl (by kernel_rfl)
    · intro ρ W4 ⟨p1, p2, p3⟩ hG hF K hK; (try simp [FactsD] at hF); have hD := Gr.tr (Gr.drew _) hG; have z0 := (H5.out.grow hD).cell (i := 0) rfl; go_simp; exact hK _ (gives_val)
    apply chain_eq (D := [(6, none)]) rfl (by kernel_rfl)
    · intro ρ W4 ⟨p1, p2, p3⟩ hG hF K hK; (try simp [FactsD] at hF); have hD := Gr.tr (Gr.drew _) hG; go_simp; exact hK _ (gives_val)
    apply chain_eq (D := [(12, some 0)]) rfl (by kernel_rfl)
    · intro ρ W4 ⟨p1, p2, p3⟩ hG hF K hK; (try simp [FactsD] at hF); have hD := Gr.tr (Gr.drew _) hG; go_simp; exact hK _ (gives_call (HC.out _))
    refine chain_any (V := Two s p) (D := [(11, some 2), (13, some 0)]) rfl (by kernel_rfl) (Two.lasts _ _) ?_ ?_
    · intro ρ W4 ⟨p1, p2, p3⟩ hG hF K hK; (try simp [FactsD] at hF); have hD := Gr.tr (Gr.drew _) hG; go_simp; exact hK _ (⟨⟨_, _, rfl, Box.fresh _ [.int .i64 (s : Int), .int .i64 (p : Int)] _⟩, Gr.alloc _ _⟩)
    refine chain_any (V := fun v _ => v = .int .i64 (nw : Nat)) (D := [(14, some 0)]) rfl (by kernel_rfl) (Lasts.eq _) ?_ ?_
    · intro ρ W4 ⟨p1, p2, p3⟩ hG hF K hK; (try simp [FactsD] at hF); have hD := Gr.tr (Gr.drew _) hG; obtain ⟨g, T, hg1, hg2⟩ := hF; go_simp; exact hK _ (gives_call (HJ.out _ _ _ hg2))
    refine chain_done ?_
    intro vs W4 hG hV
    obtain ⟨e4, -⟩ := hV
    simp only [Nat.reduceSub] at e4
    simp only [lay, Act.put, List.getElem?_toArray, List.getElem?_cons_succ, List.getElem?_cons_zero, Option.bind_some, List.setIfInBounds_toArray, List.set_cons_succ, List.set_cons_zero]
    generalize vs 0 = v0
    generalize vs 1 = v1
    generalize vs 2 = v2
    generalize vs 3 = v3
    generalize vs 4 = v4 at *
    subst e4
    have HG := Lib.hid hG
    have H5' := Lib.hid (H5.out.grow hG)
    have f5 := H5'.out.free (i := 0)
    have z5 := H5'.out.cell (i := 0) rfl
    have l5 := H5'.out.lt
    clear hG
    go_wp2_with fail
    refine ⟨((keepsO HG.out).trans (KeepsOthers.setCell _ _ _)).from _, (KeepAt.of HG.out).trans (KeepAt.set _ _ _ _ (by simp only [List.mem_cons, not_or]; exact ⟨by omega, by omega, fun h => by have := HSS.out _ h; omega⟩)), ?_, (bgr HBW.out HBW.out.size HG.out).setCell (by simp) _⟩
    rw [HSN.out]
    exact H5'.out.put 0 _
  case done =>
    rintro D ys W hD hys ⟨h5, hBW⟩ hK
    rw [hys, ← HGW.out] at h5
    have H5 := Lib.hid h5
    have HBW := Lib.hid hBW
    have HK := Lib.hid hK
    have z5 := h5.cell (i := 0) rfl
    have l5 := h5.lt
    clear h5 hBW hK hys
    go_wp2_with fail
    refine ⟨by simp, .inl ⟨_, _, rfl, run_takeDeferred HK.out, ?_⟩⟩
    refine ⟨.int .i64 (gat f many : Nat), by simp [results, Try.f63, go_sem], rfl, ?_⟩
    exact HBW.out.trans (belowK_b (w := w) (Nat.le_refl _) _ D _ _ (by omega) HK.out rfl rfl)
  case stop =>
    rintro D c pre W _ _ h _
    exact h.elim

end Go.Proofs.Ytjlaoiimbhlafaa
end
namespace Go.Proofs.Ytjlaoiimbhlafaa
open Go.RowKit Go.Shelf

open MW
/-- All options of the left marks. -/
def allM (f : Nat → Nat → Bool) (nL nR : Nat) : Nat → Nat := fun i => if i < nL then 2 ^ 10 ||| gat (f i) nR else 0
def allTo (f : Nat → Nat → Bool) (nR n : Nat) : Nat → Nat := fun i => if i < n then 2 ^ 10 ||| gat (f i) nR else 0
theorem allTo_set (f : Nat → Nat → Bool) (nR n : Nat) : (opts (allTo f nR n)).set n (.int .i64 (2 ^ 10 ||| gat (f n) nR : Nat)) = opts (allTo f nR (n + 1)) := by
  rw [opts_set]
  congr 1
  funext j
  unfold allTo
  by_cases h : j = n
  · subst h
    rw [if_pos rfl, if_pos (by omega)]
  · rw [if_neg h]
    by_cases h2 : j < n
    · rw [if_pos h2, if_pos (by omega)]
    · rw [if_neg h2, if_neg (by omega)]
theorem allTo_zero (f : Nat → Nat → Bool) (nR : Nat) : opts (allTo f nR 0) = zero10 := rfl
set_option maxHeartbeats 1000000 in
theorem chosen_any (k : Lk) (i j bl bi : Nat) (w : World) (hi : i < 10) (hj : j < 10) (hb : Box w bl k.cs 85) (hbi : Box w bi [.int .i64 i] 3) :
    Calls Try.prog 122 #[.int .i64 j, .pointer (some ⟨bl, 0, none⟩), .pointer (some ⟨bi, 0, none⟩)] w fun e w' => e = .returned (.bool (k.fit i j)) ∧ Below w.heap.size w w' := by
  have c0 := hbi.cell (i := 0) rfl
  have cl := hbi.lt
  have c1 := hb.cell (k.fit_at hi hj)
  have cl1 := hb.lt
  have h1 : (i : Int) < 10 := by omega
  have h1' : decide ((i : Int) < 10) = true := by simp; omega
  have h2 : (j : Int) < 10 := by omega
  have h2' : decide ((j : Int) < 10) = true := by simp; omega
  have h3 : decide (i < 10) = true := by simp; omega
  have h4 : decide (j < 10) = true := by simp; omega
  have e5 : 5 + 10 * i + j = 5 + (10 * i + j) := by omega
  have e6 : 5 + i * 10 + j = 5 + (10 * i + j) := by omega
  clear hb hbi
  go_enter Try.func122, Try.ntmps122
  go_wp2
  go_ret
  exact ⟨rfl, Below.refl _ _⟩

set_option maxHeartbeats 2000000 in
theorem choose_any (k : Lk) (w : World) (hL : k.nL ≤ 10) (hR : k.nR ≤ 10) :
    Calls Try.prog 95 #[.agg k.cs.toArray] w fun e w' => e = .returned (.agg (opts (allM k.fit k.nL k.nR)).toArray) ∧ Below w.heap.size w w' := by
  have hl := k.cs_len
  have e0 : ∀ h : 0 < k.cs.length, k.cs[0] = .slice k.lp k.nL k.lc := fun _ => rfl
  have HB := Lib.hid (((Box.fresh w k.cs 85).grow (Gr.alloc _ (Obj.cells zero10.toArray 83))).grow (Gr.alloc _ (Obj.cells zero10.toArray 83)))
  have HZ := Lib.hid (show Box (((w.alloc (Obj.cells k.cs.toArray 85)).alloc (Obj.cells zero10.toArray 83)).alloc (Obj.cells zero10.toArray 83)) (w.heap.size + 1) zero10 83 by
    have := (Box.fresh (w.alloc (Obj.cells k.cs.toArray 85)) zero10 83).grow (Gr.alloc _ (Obj.cells zero10.toArray 83))
    simpa using this)
  have HO := Lib.hid (show Box (((w.alloc (Obj.cells k.cs.toArray 85)).alloc (Obj.cells zero10.toArray 83)).alloc (Obj.cells zero10.toArray 83)) (w.heap.size + 1 + 1) zero10 83 by
    have := Box.fresh ((w.alloc (Obj.cells k.cs.toArray 85)).alloc (Obj.cells zero10.toArray 83)) zero10 83
    simpa using this)
  have HW := Lib.hid (show Gr w (((w.alloc (Obj.cells k.cs.toArray 85)).alloc (Obj.cells zero10.toArray 83)).alloc (Obj.cells zero10.toArray 83)) from ((Gr.alloc _ _).tr (Gr.alloc _ _)).tr (Gr.alloc _ _))
  unfold zero10 at HB HZ HO HW
  go_enter Try.func95, Try.ntmps95
  go_wp2_with fail
  generalize hw1 : ((w.alloc (Obj.cells k.cs.toArray 85)).alloc (Obj.cells #[.int .i64 0, .int .i64 0, .int .i64 0, .int .i64 0, .int .i64 0, .int .i64 0, .int .i64 0, .int .i64 0, .int .i64 0, .int .i64 0] 83)).alloc (Obj.cells #[.int .i64 0, .int .i64 0, .int .i64 0, .int .i64 0, .int .i64 0, .int .i64 0, .int .i64 0, .int .i64 0, .int .i64 0, .int .i64 0] 83) = w1 at *
  have hs1 : w1.heap.size = w.heap.size + 1 + 1 + 1 := by rw [← hw1]; simp
  clear hw1 e0 hl
  go_loopw [10] (fun i wr => ∃ n : Nat, n ≤ k.nL ∧ i = .int .i64 n ∧ Hid (Box wr (w.heap.size + 1 + 1) (opts (allTo k.fit k.nR n)) 83) ∧ Hid (Only (w.heap.size + 1 + 1) w1 wr)) (fun i _ => (20 - intOf i).toNat)
  case atStart => exact ⟨0, by omega, rfl, Lib.hid (by rw [allTo_zero]; exact HO.out), Lib.hid (Only.of (by omega) (Gr.same _))⟩
  case round =>
    obtain ⟨n, hn, rfl, HX, HN⟩ := hrel
    by_cases hlt : n < k.nL
    · have hd : decide ((n : Int) < k.nL) = true := by simp; omega
      have hd' : decide (n < k.nL) = true := by simp; omega
      have h10 : (n : Int) < 10 := by omega
      have h10' : decide ((n : Int) < 10) = true := by simp; omega
      have h10'' : decide (n < 10) = true := by simp; omega
      have hsz := HN.out.size
      have HBr := Lib.hid (HN.out.box HB.out (show w.heap.size ≠ w.heap.size + 1 + 1 by omega))
      have z1 := HBr.out.cell k.c1
      have zl := HBr.out.lt
      have HS := Lib.hid (allTo_set k.fit k.nR n)
      have HBa := Lib.hid (HBr.out.grow (Gr.alloc _ (Obj.cells #[.int .i64 n] 3)))
      have HBi := Lib.hid (Box.fresh wr [.int .i64 n] 3)
      have HGA := Lib.hid (gatherF_any w.heap.size wr.heap.size k.nR (k.fit n) [w.heap.size, wr.heap.size] (wr.alloc (Obj.cells #[.int .i64 n] 3)) (by omega) (by simp; omega)
        (fun W' hK j hj => chosen_any k n j w.heap.size wr.heap.size W' (by omega) (by omega) (hK.box HBa.out (by simp)) (hK.box HBi.out (by simp))))
      have hg : gat (k.fit n) k.nR < 2048 := Nat.lt_of_lt_of_le (gat_lt _ _) (by have := Nat.pow_le_pow_right (n := 2) (by omega) (show k.nR ≤ 11 by omega); simpa using this)
      have HJ := Lib.hid (fun W g T hb => join_any (2 ^ 10) (gat (k.fit n) k.nR) g W T (by decide) hg hb)
      have HC := Lib.hid (fun W => setOf_any 10 W (by omega))
      clear hg
      generalize hq : (2 ^ 10 ||| gat (k.fit n) k.nR) = q at *
      generalize gat (k.fit n) k.nR = g at *
      generalize (2 ^ 10 : Nat) = p at *
      clear hq
      go_wp2_with (go_at_call 63; refine HGA.out.mono ?_; rintro e w2 ⟨rfl, hb2⟩; have HG2 := Lib.hid (Gr.tr (Gr.alloc _ _) hb2); have HI2 := Lib.hid (HBi.out.grow hb2); clear hb2)
      have HX2 := Lib.hid (HX.out.grow HG2.out)
      refine region2 6 ?_ ?_ ?_
      · kernel_rfl
      · kernel_rfl
      simp only [List.take_succ_cons, List.take_zero, List.drop_succ_cons, List.drop_zero]
      apply chain_eq (D := [(4, none)]) rfl (by kernel_rfl)
      · intro ρ W4 ⟨p1, p2, p3⟩ hG hF K hK; (try simp [FactsD] at hF); have hD := Gr.tr (Gr.drew _) hG; have z0 := (HI2.out.grow hD).cell (i := 0) rfl; go_simp; exact hK _ (gives_val)
      apply chain_eq (D := []) rfl (by kernel_rfl)
      · intro ρ W4 ⟨p1, p2, p3⟩ hG hF K hK; (try simp [FactsD] at hF); have hD := Gr.tr (Gr.drew _) hG; go_simp; exact hK _ (gives_call (HC.out _))
      apply chain_eq (D := [(5, none)]) rfl (by kernel_rfl)
      · intro ρ W4 ⟨p1, p2, p3⟩ hG hF K hK; (try simp [FactsD] at hF); have hD := Gr.tr (Gr.drew _) hG; go_simp; exact hK _ (gives_val)
      refine chain_any (V := Two p g) (D := [(20, some 1), (21, some 0)]) rfl (by kernel_rfl) (Two.lasts _ _) ?_ ?_
      · intro ρ W4 ⟨p1, p2, p3⟩ hG hF K hK; (try simp [FactsD] at hF); have hD := Gr.tr (Gr.drew _) hG; go_simp; exact hK _ (⟨⟨_, _, rfl, Box.fresh _ [.int .i64 (p : Int), .int .i64 (g : Int)] _⟩, Gr.alloc _ _⟩)
      refine chain_any (V := fun v _ => v = .int .i64 (q : Nat)) (D := [(22, some 0)]) rfl (by kernel_rfl) (Lasts.eq _) ?_ ?_
      · intro ρ W4 ⟨p1, p2, p3⟩ hG hF K hK; (try simp [FactsD] at hF); have hD := Gr.tr (Gr.drew _) hG; obtain ⟨b0, T, hg1, hg2⟩ := hF; go_simp; exact hK _ (gives_call (HJ.out _ _ _ hg2))
      apply chain_eq (D := [(3, none), (19, some 4)]) rfl (by kernel_rfl)
      · intro ρ W4 ⟨p1, p2, p3⟩ hG hF K hK; (try simp [FactsD] at hF); have hD := Gr.tr (Gr.drew _) hG; go_simp; exact hK _ (gives_val)
      refine chain_done ?_
      intro vs W4 hG hV
      obtain ⟨e5, e4, -⟩ := hV
      simp only [Nat.reduceSub] at e4 e5
      simp only [lay, Act.put, List.getElem?_toArray, List.getElem?_cons_succ, List.getElem?_cons_zero, Option.bind_some, List.setIfInBounds_toArray, List.set_cons_succ, List.set_cons_zero]
      generalize vs 0 = v0
      generalize vs 1 = v1
      generalize vs 2 = v2
      generalize vs 3 = v3
      generalize vs 4 = v4 at *
      generalize vs 5 = v5 at *
      subst e4
      subst e5
      have HX4 := Lib.hid (HX2.out.grow hG)
      have HG4 := Lib.hid (Gr.tr HG2.out hG)
      have z4 := HX4.out.cell (opts_at (allTo k.fit k.nR n) (show n < 10 by omega))
      have f4 := HX4.out.free (i := n)
      have l4 := HX4.out.lt
      clear hG
      go_wp2_with fail
      refine ⟨⟨n + 1, by omega, by go_num, Lib.hid ?_, Lib.hid ?_⟩, by simp [intOf]; omega⟩
      · rw [← HS.out]
        exact HX4.out.put n _
      · exact (HN.out.tr (Only.of (by omega) HG4.out)).tr (Only.set _ _ _)
    · have hn10 : n = k.nL := by omega
      subst hn10
      have hO' := opts_len (allM k.fit k.nL k.nR)
      have HZ5 := Lib.hid (HN.out.box HZ.out (by omega))
      replace HX : Hid (Box wr (w.heap.size + 1 + 1) (opts (allM k.fit k.nL k.nR)) 83) := HX
      have hd : decide ((k.nL : Int) < k.nL) = false := by simp
      clear hlt
      go_wp2_with (first
        | (with_reducible refine wpList_stopLoad (ty := 83) rfl ?_; unfold Stop; refine wpList_loadBox row83 hO' HX.out rfl rfl rfl ?_)
        | (with_reducible refine wpList_stopStore (ty := 83) rfl ?_; unfold Stop; refine wpList_storeBox row83 hO' rfl (opts_one _) HZ5.out rfl rfl rfl rfl ?_))
      exact bodyPost_ret (v := .agg (opts (allM k.fit k.nL k.nR)).toArray) (result_row row83 hO' (HZ5.out.row (vs := opts (allM k.fit k.nL k.nR))) rfl rfl) rfl ⟨rfl, below_setRow (HW.out.trans (Below.mono HN.out.low (by omega))) (by first | (simp; done) | (simp; omega) | omega) _⟩

end Go.Proofs.Ytjlaoiimbhlafaa
section
namespace Go.Proofs.Ytjlaoiimbhlafaa
open Go.RowKit Go.Shelf

open MW
attribute [local go_sem] Oper.semAt_some
/-- What is known of rows that were looked at. -/
structure Lk.Ok (k : Lk) : Prop where
  nL : k.nL ≤ 10
  nR : k.nR ≤ 10
  h : 0 ≤ k.h ∧ k.h ≤ 20
  m : ∀ i, k.all i < 2048
  r : ∀ i, i < k.nL → ∀ j, k.nR ≤ j → j < 10 → (k.all i).testBit j = false
theorem Lk.part (k : Lk) : (k.cs.drop 105).take 10 = opts k.all := by
  unfold Lk.cs
  rw [← List.append_assoc, List.drop_left' (by rw [List.length_append, fitc_len]; rfl), List.take_of_length_le (by rw [opts_len]; omega)]
theorem onlM_lt {m : Nat → Nat} (h : ∀ i, m i < 2048) (i c : Nat) : ∀ j, onlM m i c j < 2048 := fun j => by
  unfold onlM
  split
  · exact Nat.lt_of_le_of_lt Nat.and_le_left (h j)
  · exact h j
theorem onlM_bit (m : Nat → Nat) (i c j b : Nat) : (onlM m i c j).testBit b = ((m j).testBit b && (j != i || b == c)) := by
  unfold onlM
  by_cases h : j = i
  · rw [if_pos h, Nat.testBit_and, Nat.testBit_two_pow]
    subst h
    simp only [bne_self_eq_false, Bool.false_or]
    congr 1
    rw [Bool.eq_iff_iff]
    simp
    exact ⟨fun e => e.symm, fun e => e.symm⟩
  · rw [if_neg h]
    simp [h]
theorem woM_lt (m : Nat → Nat) (c : Nat) : ∀ j, woM m c j < 2048 := fun j => cl_lt _ _
theorem woM_bit {m : Nat → Nat} (h : ∀ i, m i < 2048) (c j b : Nat) : (woM m c j).testBit b = ((m j).testBit b && b != c) := cl_bit (h j)
/-- How many ways there are with each option of a left mark. -/
def Lk.spv (k : Lk) (i c : Nat) : Nat := k.wy (onlM k.all i c) 0 0 k.h
def Lk.spl (k : Lk) (i c : Nat) : Nat := if (k.all i).testBit c then k.spv i c else 0
def wrow (f : Nat → Nat) : List Value := (List.range 11).map fun c => .int .i64 (f c)
theorem wrow_len (f : Nat → Nat) : (wrow f).length = 11 := by unfold wrow; simp
theorem wrow_at (f : Nat → Nat) {c : Nat} (h : c < 11) : (wrow f)[c]? = some (.int .i64 (f c)) := by unfold wrow; simp [h]
theorem wrow_one (f : Nat → Nat) : (wrow f).all (·.oneCell') = true := rfl
theorem wrow_congr {f g : Nat → Nat} (h : ∀ c, c < 11 → f c = g c) : wrow f = wrow g := by
  unfold wrow
  exact List.map_congr_left fun j hj => by rw [h j (List.mem_range.1 hj)]
theorem wrow_set (f : Nat → Nat) (c x : Nat) : (wrow f).set c (.int .i64 x) = wrow (fun j => if j = c then x else f j) := by
  unfold wrow
  apply List.ext_getElem?
  intro j
  rw [List.getElem?_set]
  by_cases h : c = j
  · subst h
    rw [if_pos rfl]
    by_cases hj : c < 11
    · simp [hj]
    · simp [hj]
  · rw [if_neg h]
    by_cases hj : j < 11
    · simp [hj, Ne.symm h]
    · simp [hj]
def zero11 : List Value := [.int .i64 0, .int .i64 0, .int .i64 0, .int .i64 0, .int .i64 0, .int .i64 0, .int .i64 0, .int .i64 0, .int .i64 0, .int .i64 0, .int .i64 0]
theorem row153 : rowOf Try.prog 153 11 = true := by kernel_rfl
def Lk.spTo (k : Lk) (i : Nat) (l : List Nat) : Nat → Nat := fun c => if c ∈ l then k.spv i c else 0
theorem Lk.spTo_nil (k : Lk) (i : Nat) : wrow (k.spTo i []) = zero11 := rfl
theorem Lk.spTo_snoc (k : Lk) (i : Nat) (l : List Nat) (c : Nat) : (wrow (k.spTo i l)).set c (.int .i64 (k.spv i c : Nat)) = wrow (k.spTo i (l ++ [c])) := by
  rw [wrow_set]
  congr 1
  funext j
  unfold Lk.spTo
  by_cases h : j = c
  · subst h
    simp
  · rw [if_neg h]
    simp [h]
theorem Lk.spTo_all (k : Lk) (i : Nat) : wrow (k.spTo i (wts 11 fun c => (k.all i).testBit c)) = wrow (k.spl i) := wrow_congr fun c hc => by
  unfold Lk.spTo Lk.spl wts
  simp [hc]
theorem Only.row (W : World) (b : Nat) (cs : Array Value) : Only b W (W.setRow b cs) := ⟨below_setRow (Below.refl _ _) (Nat.le_refl _) cs, (below_setRow (Below.refl b W) (Nat.le_refl _) cs).size, fun k hk _ => setRow_other W b k cs hk⟩
def SpI (k : Lk) (i : Nat) (w : World) {f : Nat → Bool} (pre : List (Wt 11 f)) (W : World) : Prop :=
  Box W w.heap.size k.cs 85 ∧ Box W (w.heap.size + 1) [.int .i64 i] 3 ∧ Box W (w.heap.size + 1 + 1) zero11 153 ∧ Box W (w.heap.size + 1 + 1 + 1) (wrow (k.spTo i (pre.map Wt.v))) 153 ∧ Below w.heap.size w W
theorem SpI.own (k : Lk) (i : Nat) (w : World) {f : Nat → Bool} {B : Nat} (hB : w.heap.size ≤ B) : OwnFrom B (SpI k i w (f := f)) := fun s A A' row ⟨h1, h2, h3, h4, h5⟩ hg hr =>
  ⟨h1.own' hg fun r e => (hr r e).2, h2.own' hg fun r e => (hr r e).2, h3.own' hg fun r e => (hr r e).2, h4.own' hg fun r e => (hr r e).2, ownFrom_below (β := Unit) (Nat.le_refl _) hB () A A' row h5 hg hr⟩
set_option maxRecDepth 100000 in
set_option maxHeartbeats 4000000 in
theorem split_any (k : Lk) (i : Nat) (w : World) (hk : k.Ok) (hi : i < k.nL) :
    Calls Try.prog 101 #[.agg k.cs.toArray, .int .i64 i] w fun e w' => e = .returned (.agg (wrow (k.spl i)).toArray) ∧ Below w.heap.size w w' := by
  have HK := Lib.hid hk
  have hi10 : i < 10 := by have := hk.nL; omega
  have hl := k.cs_len
  have eA : ∀ h : 105 + i < k.cs.length, k.cs[105 + i] = .int .i64 (k.all i) := fun h => by
    have := k.all_at hi10
    rw [List.getElem?_eq_getElem h] at this
    exact Option.some.inj this
  have h10 : (i : Int) < 10 := by omega
  have h10' : decide ((i : Int) < 10) = true := by simp; omega
  have h10'' : decide (i < 10) = true := by simp; omega
  have h115 : 105 + i < 115 := by omega
  have HRT := Lib.hid (fun W => marks_ret 11 (.func 68) #[.int .i64 (k.all i)] #[] W)
  have HB0 := Lib.hid (Box.fresh w k.cs 85)
  have HALL := Lib.hid (k.spTo_all i)
  clear hk
  refine (callsIn_wide (n := 9)).1 ?_
  refine callsIn_of_wp_marks Try.func101 rfl trivial ?_ rfl
  simp only [Try.ntmps101, List.size_toArray, List.length_cons, List.length_nil, Nat.reduceAdd, Nat.reduceSub, Array.replicate_succ, Array.replicate_zero, List.push_toArray, List.append_toArray, List.nil_append, List.cons_append]
  refine wpIn_wide.2 ?_
  go_wp2_with (go_at_call 67; refine (HRT.out _).mono ?_; rintro e w1 ⟨rfl, hm1, hm2, hb1⟩)
  have hB0 : Box w1 w.heap.size k.cs 85 := ((((Box.fresh w k.cs 85).grow (Gr.alloc _ _)).grow (Gr.alloc _ _)).grow (Gr.alloc _ _)).grow hb1
  have hB1 : Box w1 (w.heap.size + 1) [.int .i64 i] 3 := by
    have := (((Box.fresh (w.alloc (Obj.cells k.cs.toArray 85)) [.int .i64 i] 3).grow (Gr.alloc _ (Obj.cells zero11.toArray 153))).grow (Gr.alloc _ (Obj.cells zero11.toArray 153))).grow hb1
    simpa using this
  have hB2 : Box w1 (w.heap.size + 1 + 1) zero11 153 := by
    have := ((Box.fresh ((w.alloc (Obj.cells k.cs.toArray 85)).alloc (Obj.cells #[.int .i64 i] 3)) zero11 153).grow (Gr.alloc _ (Obj.cells zero11.toArray 153))).grow hb1
    simpa using this
  have hB3 : Box w1 (w.heap.size + 1 + 1 + 1) zero11 153 := by
    have := (Box.fresh (((w.alloc (Obj.cells k.cs.toArray 85)).alloc (Obj.cells #[.int .i64 i] 3)).alloc (Obj.cells zero11.toArray 153)) zero11 153).grow hb1
    simpa using this
  have hG1 : Gr w w1 := ((((Gr.alloc _ _).tr (Gr.alloc _ _)).tr (Gr.alloc _ _)).tr (Gr.alloc _ _)).tr hb1
  replace hm1 : Box w1 (w.heap.size + 1 + 1 + 1 + 1) [.int .i64 ((11 : Nat) : Int)] 3 := by simpa using hm1
  replace hm2 : Box w1 (w.heap.size + 1 + 1 + 1 + 1 + 1) [.func (.func 68) #[.int .i64 (k.all i)] #[]] 102 := by simpa using hm2
  have hw1 : w.heap.size + 1 + 1 + 1 + 1 + 1 < w1.heap.size := hm2.lt
  have HG1 := Lib.hid hG1
  have HM1 := Lib.hid hm1
  have HM2 := Lib.hid hm2
  have HI0 := Lib.hid (show SpI k i w (f := fun j => (k.all i).testBit j) [] w1 from ⟨hB0, hB1, hB2, by rw [show ([] : List (Wt 11 fun j => (k.all i).testBit j)).map Wt.v = [] from rfl, k.spTo_nil]; exact hB3, hG1⟩)
  clear hG1 hm1 hm2 hb1 hB0 hB1 hB2 hB3 eA hl HB0
  refine (wpIn_wide (n := 9)).1 ?_
  refine wpIn_rangeOwn rfl (by omega) (gf := 107) (lb := #[.pointer (some ⟨w.heap.size + 1 + 1 + 1 + 1, 0, none⟩), .pointer (some ⟨w.heap.size + 1 + 1 + 1 + 1 + 1, 0, none⟩)]) rfl trivial (enters_of Try.func107 (by kernel_rfl) rfl)
    (SeqStopsK.own (marksH_stops (k.all i) 11 (fun j => (k.all i).testBit j) [] (w.heap.size + 1 + 1 + 1 + 1) (w.heap.size + 1 + 1 + 1 + 1 + 1) _ w1 (by omega) (fun W' _ j hj => has_any (k.all i) j W' (HK.out.m i) (by omega)) HM1.out HM2.out)) (Gr.same _) KeepAt.trans
    (fun W o' => KeepAt.putObj W _ o' (by simp; omega)) (fun _ => rfl)
    (SpI k i w) (fun _ _ _ => False) (SpI.own k i w (by omega)) (fun _ _ _ _ _ hs _ _ => hs) HI0.out
    (fun x a' W => a' = { tmps := #[.agg k.cs.toArray, .int .i64 i, .pointer (some ⟨w.heap.size, 0, none⟩), .pointer (some ⟨w.heap.size + 1, 0, none⟩), .pointer (some ⟨w.heap.size + 1 + 1, 0, none⟩), .pointer (some ⟨w.heap.size + 1 + 1 + 1, 0, none⟩), .int .i64 x.v, .int .i64 i, .pointer (some ⟨w.heap.size, 105, none⟩), .pointer (some ⟨w.heap.size, 105 + i, none⟩), .int .i64 (k.all i), .func (.func 68) #[.int .i64 (k.all i)] #[], marksV (w.heap.size + 1 + 1 + 1 + 1) (w.heap.size + 1 + 1 + 1 + 1 + 1), .int .i64 x.v, undef, undef, undef, undef, undef, undef, undef, undef, undef, undef], defers := [] }) (fun x a' => fun _ _ _ _ h _ _ => h) ?assign ?body ?done ?stop
  case assign =>
    intro y pre x W K hi hK
    have HI := Lib.hid hi
    clear hi
    unfold encW
    gi_wp2
    exact hK _ _ (KeepsOthers.refl _ |>.from _) (KeepAt.refl _ _) HI.out rfl
  case body =>
    rintro y pre x a' W hyl - ⟨h0, h1, h2, h3, hBW⟩ rfl hN
    have H0 := Lib.hid h0
    have H1 := Lib.hid h1
    have H2 := Lib.hid h2
    have H3 := Lib.hid h3
    have HBW := Lib.hid hBW
    have hx := x.lt
    have g1 : (x.v : Int) < 11 := by omega
    have g1' : decide ((x.v : Int) < 11) = true := by simp; omega
    have g1'' : decide (x.v < 11) = true := by simp; omega
    have HON := Lib.hid (fun W => only_any k.all i x.v W hi10 (by omega) (HK.out.m i))
    have HCN := Lib.hid (fun W => count_any k (onlM k.all i x.v) (onlM_lt HK.out.m i x.v) (fun a ha j hj hj' => by rw [onlM_bit, HK.out.r a ha j hj hj', Bool.false_and]) HK.out.nL HK.out.nR HK.out.h W)
    have hsn := k.spTo_snoc i (pre.map Wt.v) x.v
    have hmp : (pre ++ [x]).map Wt.v = pre.map Wt.v ++ [x.v] := by simp
    rw [← hmp] at hsn
    have HSN := Lib.hid hsn
    clear h0 h1 h2 h3 hBW hmp hsn
    have hv : k.wy (onlM k.all i x.v) 0 0 k.h = k.spv i x.v := rfl
    rw [hv] at HCN
    generalize k.spv i x.v = v at *
    gi_wp2_with fail
    refine region2_in 9 ?_ ?_ ?_ ?_ ?_
    · kernel_rfl
    · kernel_rfl
    · kernel_rfl
    · rintro ⟨_, _, h⟩; exact h
    simp only [List.take_succ_cons, List.take_zero, List.drop_succ_cons, List.drop_zero]
    apply chain_eq (D := [(6, none)]) rfl (by kernel_rfl)
    · intro ρ W4 ⟨p1, p2, p3⟩ hG hF K hK; (try simp [FactsD] at hF); have hD := Gr.tr (Gr.drew _) hG; go_simp; exact hK _ (gives_val)
    apply chain_eq (D := [(2, none)]) rfl (by kernel_rfl)
    · intro ρ W4 ⟨p1, p2, p3⟩ hG hF K hK; (try simp [FactsD] at hF); have hD := Gr.tr (Gr.drew _) hG; rw [exec_loadBox row85 k.cs_len (H0.out.grow hD) rfl hF]; exact hK _ gives_val
    apply chain_eq (D := [(2, none)]) rfl (by kernel_rfl)
    · intro ρ W4 ⟨p1, p2, p3⟩ hG hF K hK; (try simp [FactsD] at hF); have hD := Gr.tr (Gr.drew _) hG; go_simp; exact hK _ (gives_val)
    apply chain_eq (D := [(16, some 0)]) rfl (by kernel_rfl)
    · intro ρ W4 ⟨p1, p2, p3⟩ hG hF K hK; (try simp [FactsD] at hF); have hD := Gr.tr (Gr.drew _) hG; rw [exec_loadPart row83 (opts_len k.all) (H0.out.grow hD) k.part rfl hF]; exact hK _ gives_val
    apply chain_eq (D := [(3, none)]) rfl (by kernel_rfl)
    · intro ρ W4 ⟨p1, p2, p3⟩ hG hF K hK; (try simp [FactsD] at hF); have hD := Gr.tr (Gr.drew _) hG; have z0 := (H1.out.grow hD).cell (i := 0) rfl; go_simp; exact hK _ (gives_val)
    apply chain_eq (D := [(6, none)]) rfl (by kernel_rfl)
    · intro ρ W4 ⟨p1, p2, p3⟩ hG hF K hK; (try simp [FactsD] at hF); have hD := Gr.tr (Gr.drew _) hG; go_simp; exact hK _ (gives_val)
    apply chain_eq (D := [(17, some 2), (18, some 1), (19, some 0)]) rfl (by kernel_rfl)
    · intro ρ W4 ⟨p1, p2, p3⟩ hG hF K hK; (try simp [FactsD] at hF); have hD := Gr.tr (Gr.drew _) hG; go_simp; exact hK _ (gives_call (HON.out _))
    apply chain_eq (D := [(15, some 5), (20, some 0)]) rfl (by kernel_rfl)
    · intro ρ W4 ⟨p1, p2, p3⟩ hG hF K hK; (try simp [FactsD] at hF); have hD := Gr.tr (Gr.drew _) hG; go_simp; exact hK _ (gives_call (HCN.out _))
    apply chain_eq (D := [(5, none), (14, some 7)]) rfl (by kernel_rfl)
    · intro ρ W4 ⟨p1, p2, p3⟩ hG hF K hK; (try simp [FactsD] at hF); have hD := Gr.tr (Gr.drew _) hG; go_simp; exact hK _ (gives_val)
    refine chain_done ?_
    intro vs W4 hG hV
    obtain ⟨e8, e7, -⟩ := hV
    simp only [Nat.reduceSub] at e7 e8
    simp only [lay, Act.put, List.getElem?_toArray, List.getElem?_cons_succ, List.getElem?_cons_zero, Option.bind_some, List.setIfInBounds_toArray, List.set_cons_succ, List.set_cons_zero]
    generalize vs 0 = v0
    generalize vs 1 = v1
    generalize vs 2 = v2
    generalize vs 3 = v3
    generalize vs 4 = v4
    generalize vs 5 = v5
    generalize vs 6 = v6
    generalize vs 7 = v7 at *
    generalize vs 8 = v8 at *
    subst e7
    subst e8
    have HG := Lib.hid hG
    have H3' := Lib.hid (H3.out.grow hG)
    have f3 := H3'.out.free (i := x.v)
    have z3 := H3'.out.cell (wrow_at _ (show x.v < 11 by omega))
    have l3 := H3'.out.lt
    clear hG
    go_wp2_with fail
    have ho := Only.set W4 (b := w.heap.size + 1 + 1 + 1) x.v (.int .i64 (v : Int))
    refine ⟨((keepsO HG.out).trans (KeepsOthers.setCell _ _ _)).from _, (KeepAt.of HG.out).trans (KeepAt.set _ _ _ _ (by first | (simp; done) | (simp; omega) | omega)), ho.box (H0.out.grow HG.out) (by omega), ho.box (H1.out.grow HG.out) (by omega), ho.box (H2.out.grow HG.out) (by omega), ?_, (bgr HBW.out HBW.out.size HG.out).setCell (by first | (simp; done) | (simp; omega) | omega) _⟩
    rw [← HSN.out]
    exact H3'.out.put x.v _
  case done =>
    rintro D ys W hD hys ⟨h0, h1, h2, h3, hBW⟩ hK'
    rw [hys, HALL.out] at h3
    have H2 := Lib.hid h2
    have H3 := Lib.hid h3
    have HBW := Lib.hid hBW
    have HKD := Lib.hid hK'
    have hO' := wrow_len (k.spl i)
    clear h0 h1 h2 h3 hBW hK' hys
    go_wp2_with (first
        | (with_reducible refine wpList_stopLoad (ty := 153) rfl ?_; unfold Stop; refine wpList_loadBox row153 hO' H3.out rfl rfl rfl ?_)
        | (with_reducible refine wpList_stopStore (ty := 153) rfl ?_; unfold Stop; refine wpList_storeBox row153 hO' rfl (wrow_one _) H2.out rfl rfl rfl rfl ?_))
    have hO5 := Only.row W (w.heap.size + 1 + 1) (wrow (k.spl i)).toArray
    have hK5 := (hO5.keep D (by omega) (Array.getElem?_eq_some_iff.1 HKD.out).1).trans HKD.out
    refine ⟨by simp, .inl ⟨_, _, rfl, run_takeDeferred hK5, ?_⟩⟩
    have hR5 := (H2.out.row (vs := wrow (k.spl i))).own' (grownBy_putObj' _ D (.deferred none)) (fun r e => by cases e; exact ⟨_, hK5, rfl⟩)
    refine ⟨.agg (wrow (k.spl i)).toArray, result_row row153 hO' hR5 rfl rfl, rfl, ?_⟩
    exact (below_setRow HBW.out (by omega) _).trans (belowK_b (w := w) (Nat.le_refl _) _ D _ _ (by omega) hK5 rfl rfl)
  case stop =>
    rintro D c pre W _ _ h _
    exact h.elim

end Go.Proofs.Ytjlaoiimbhlafaa
end
