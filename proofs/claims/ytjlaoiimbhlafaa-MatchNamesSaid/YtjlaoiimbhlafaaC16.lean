import Derived.Test.YtjlaoiimbhlafaaC15
set_option linter.unusedVariables false
set_option linter.unusedSimpArgs false
namespace Go.Proofs.Ytjlaoiimbhlafaa
open Go.RowKit Go.Shelf

open MW
attribute [local go_sem] Oper.semAt_some
/-- What is known of rows that were looked at. -/
structure Lk.Ok (k : Lk) : Prop where
  nL : k.nL ≤ 10
  nR : k.nR ≤ 10
  h : 0 ≤ k.h ∧ k.h ≤ 20
  m : ∀ i, k.all i < 2048
  r : ∀ i, i < k.nL → ∀ j, k.nR ≤ j → j < 10 → (k.all i).testBit j = false
theorem Lk.part (k : Lk) : (k.cs.drop 105).take 10 = opts k.all := by
  unfold Lk.cs
  rw [← List.append_assoc, List.drop_left' (by rw [List.length_append, fitc_len]; rfl), List.take_of_length_le (by rw [opts_len]; omega)]
theorem onlM_lt {m : Nat → Nat} (h : ∀ i, m i < 2048) (i c : Nat) : ∀ j, onlM m i c j < 2048 := fun j => by
  unfold onlM
  split
  · exact Nat.lt_of_le_of_lt Nat.and_le_left (h j)
  · exact h j
theorem onlM_bit (m : Nat → Nat) (i c j b : Nat) : (onlM m i c j).testBit b = ((m j).testBit b && (j != i || b == c)) := by
  unfold onlM
  by_cases h : j = i
  · rw [if_pos h, Nat.testBit_and, Nat.testBit_two_pow]
    subst h
    simp only [bne_self_eq_false, Bool.false_or]
    congr 1
    rw [Bool.eq_iff_iff]
    simp
    exact ⟨fun e => e.symm, fun e => e.symm⟩
  · rw [if_neg h]
    simp [h]
theorem woM_lt (m : Nat → Nat) (c : Nat) : ∀ j, woM m c j < 2048 := fun j => cl_lt _ _
theorem woM_bit {m : Nat → Nat} (h : ∀ i, m i < 2048) (c j b : Nat) : (woM m c j).testBit b = ((m j).testBit b && b != c) := cl_bit (h j)
/-- How many ways there are with each option of a left mark. -/
def Lk.spv (k : Lk) (i c : Nat) : Nat := k.wy (onlM k.all i c) 0 0 k.h
def Lk.spl (k : Lk) (i c : Nat) : Nat := if (k.all i).testBit c then k.spv i c else 0
def wrow (f : Nat → Nat) : List Value := (List.range 11).map fun c => .int .i64 (f c)
theorem wrow_len (f : Nat → Nat) : (wrow f).length = 11 := by unfold wrow; simp
theorem wrow_at (f : Nat → Nat) {c : Nat} (h : c < 11) : (wrow f)[c]? = some (.int .i64 (f c)) := by unfold wrow; simp [h]
theorem wrow_one (f : Nat → Nat) : (wrow f).all (·.oneCell') = true := rfl
theorem wrow_congr {f g : Nat → Nat} (h : ∀ c, c < 11 → f c = g c) : wrow f = wrow g := by
  unfold wrow
  exact List.map_congr_left fun j hj => by rw [h j (List.mem_range.1 hj)]
theorem wrow_set (f : Nat → Nat) (c x : Nat) : (wrow f).set c (.int .i64 x) = wrow (fun j => if j = c then x else f j) := by
  unfold wrow
  apply List.ext_getElem?
  intro j
  rw [List.getElem?_set]
  by_cases h : c = j
  · subst h
    rw [if_pos rfl]
    by_cases hj : c < 11
    · simp [hj]
    · simp [hj]
  · rw [if_neg h]
    by_cases hj : j < 11
    · simp [hj, Ne.symm h]
    · simp [hj]
def zero11 : List Value := [.int .i64 0, .int .i64 0, .int .i64 0, .int .i64 0, .int .i64 0, .int .i64 0, .int .i64 0, .int .i64 0, .int .i64 0, .int .i64 0, .int .i64 0]
theorem row153 : rowOf Try.prog 153 11 = true := by kernel_rfl
def Lk.spTo (k : Lk) (i : Nat) (l : List Nat) : Nat → Nat := fun c => if c ∈ l then k.spv i c else 0
theorem Lk.spTo_nil (k : Lk) (i : Nat) : wrow (k.spTo i []) = zero11 := rfl
theorem Lk.spTo_snoc (k : Lk) (i : Nat) (l : List Nat) (c : Nat) : (wrow (k.spTo i l)).set c (.int .i64 (k.spv i c : Nat)) = wrow (k.spTo i (l ++ [c])) := by
  rw [wrow_set]
  congr 1
  funext j
  unfold Lk.spTo
  by_cases h : j = c
  · subst h
    simp
  · rw [if_neg h]
    simp [h]
theorem Lk.spTo_all (k : Lk) (i : Nat) : wrow (k.spTo i (wts 11 fun c => (k.all i).testBit c)) = wrow (k.spl i) := wrow_congr fun c hc => by
  unfold Lk.spTo Lk.spl wts
  simp [hc]
theorem Only.row (W : World) (b : Nat) (cs : Array Value) : Only b W (W.setRow b cs) := ⟨below_setRow (Below.refl _ _) (Nat.le_refl _) cs, (below_setRow (Below.refl b W) (Nat.le_refl _) cs).size, fun k hk _ => setRow_other W b k cs hk⟩
def SpI (k : Lk) (i : Nat) (w : World) {f : Nat → Bool} (pre : List (Wt 11 f)) (W : World) : Prop :=
  Box W w.heap.size k.cs 85 ∧ Box W (w.heap.size + 1) [.int .i64 i] 3 ∧ Box W (w.heap.size + 1 + 1) zero11 153 ∧ Box W (w.heap.size + 1 + 1 + 1) (wrow (k.spTo i (pre.map Wt.v))) 153 ∧ Below w.heap.size w W
theorem SpI.own (k : Lk) (i : Nat) (w : World) {f : Nat → Bool} {B : Nat} (hB : w.heap.size ≤ B) : OwnFrom B (SpI k i w (f := f)) := fun s A A' row ⟨h1, h2, h3, h4, h5⟩ hg hr =>
  ⟨h1.own' hg fun r e => (hr r e).2, h2.own' hg fun r e => (hr r e).2, h3.own' hg fun r e => (hr r e).2, h4.own' hg fun r e => (hr r e).2, ownFrom_below (β := Unit) (Nat.le_refl _) hB () A A' row h5 hg hr⟩
set_option maxRecDepth 100000 in
set_option maxHeartbeats 4000000 in
theorem split_any (k : Lk) (i : Nat) (w : World) (hk : k.Ok) (hi : i < k.nL) :
    Calls Try.prog 101 #[.agg k.cs.toArray, .int .i64 i] w fun e w' => e = .returned (.agg (wrow (k.spl i)).toArray) ∧ Below w.heap.size w w' := by
  have HK := Lib.hid hk
  have hi10 : i < 10 := by have := hk.nL; omega
  have hl := k.cs_len
  have eA : ∀ h : 105 + i < k.cs.length, k.cs[105 + i] = .int .i64 (k.all i) := fun h => by
    have := k.all_at hi10
    rw [List.getElem?_eq_getElem h] at this
    exact Option.some.inj this
  have h10 : (i : Int) < 10 := by omega
  have h10' : decide ((i : Int) < 10) = true := by simp; omega
  have h10'' : decide (i < 10) = true := by simp; omega
  have h115 : 105 + i < 115 := by omega
  have HRT := Lib.hid (fun W => marks_ret 11 (.func 68) #[.int .i64 (k.all i)] #[] W)
  have HB0 := Lib.hid (Box.fresh w k.cs 85)
  have HALL := Lib.hid (k.spTo_all i)
  clear hk
  refine (callsIn_wide (n := 9)).1 ?_
  refine callsIn_of_wp_marks Try.func101 rfl trivial ?_ rfl
  simp only [Try.ntmps101, List.size_toArray, List.length_cons, List.length_nil, Nat.reduceAdd, Nat.reduceSub, Array.replicate_succ, Array.replicate_zero, List.push_toArray, List.append_toArray, List.nil_append, List.cons_append]
  refine wpIn_wide.2 ?_
  go_wp2_with (go_at_call 67; refine (HRT.out _).mono ?_; rintro e w1 ⟨rfl, hm1, hm2, hb1⟩)
  have hB0 : Box w1 w.heap.size k.cs 85 := ((((Box.fresh w k.cs 85).grow (Gr.alloc _ _)).grow (Gr.alloc _ _)).grow (Gr.alloc _ _)).grow hb1
  have hB1 : Box w1 (w.heap.size + 1) [.int .i64 i] 3 := by
    have := (((Box.fresh (w.alloc (Obj.cells k.cs.toArray 85)) [.int .i64 i] 3).grow (Gr.alloc _ (Obj.cells zero11.toArray 153))).grow (Gr.alloc _ (Obj.cells zero11.toArray 153))).grow hb1
    simpa using this
  have hB2 : Box w1 (w.heap.size + 1 + 1) zero11 153 := by
    have := ((Box.fresh ((w.alloc (Obj.cells k.cs.toArray 85)).alloc (Obj.cells #[.int .i64 i] 3)) zero11 153).grow (Gr.alloc _ (Obj.cells zero11.toArray 153))).grow hb1
    simpa using this
  have hB3 : Box w1 (w.heap.size + 1 + 1 + 1) zero11 153 := by
    have := (Box.fresh (((w.alloc (Obj.cells k.cs.toArray 85)).alloc (Obj.cells #[.int .i64 i] 3)).alloc (Obj.cells zero11.toArray 153)) zero11 153).grow hb1
    simpa using this
  have hG1 : Gr w w1 := ((((Gr.alloc _ _).tr (Gr.alloc _ _)).tr (Gr.alloc _ _)).tr (Gr.alloc _ _)).tr hb1
  replace hm1 : Box w1 (w.heap.size + 1 + 1 + 1 + 1) [.int .i64 ((11 : Nat) : Int)] 3 := by simpa using hm1
  replace hm2 : Box w1 (w.heap.size + 1 + 1 + 1 + 1 + 1) [.func (.func 68) #[.int .i64 (k.all i)] #[]] 102 := by simpa using hm2
  have hw1 : w.heap.size + 1 + 1 + 1 + 1 + 1 < w1.heap.size := hm2.lt
  have HG1 := Lib.hid hG1
  have HM1 := Lib.hid hm1
  have HM2 := Lib.hid hm2
  have HI0 := Lib.hid (show SpI k i w (f := fun j => (k.all i).testBit j) [] w1 from ⟨hB0, hB1, hB2, by rw [show ([] : List (Wt 11 fun j => (k.all i).testBit j)).map Wt.v = [] from rfl, k.spTo_nil]; exact hB3, hG1⟩)
  clear hG1 hm1 hm2 hb1 hB0 hB1 hB2 hB3 eA hl HB0
  refine (wpIn_wide (n := 9)).1 ?_
  refine wpIn_rangeOwn rfl (by omega) (gf := 107) (lb := #[.pointer (some ⟨w.heap.size + 1 + 1 + 1 + 1, 0, none⟩), .pointer (some ⟨w.heap.size + 1 + 1 + 1 + 1 + 1, 0, none⟩)]) rfl trivial (enters_of Try.func107 (by kernel_rfl) rfl)
    (SeqStopsK.own (marksH_stops (k.all i) 11 (fun j => (k.all i).testBit j) [] (w.heap.size + 1 + 1 + 1 + 1) (w.heap.size + 1 + 1 + 1 + 1 + 1) _ w1 (by omega) (fun W' _ j hj => has_any (k.all i) j W' (HK.out.m i) (by omega)) HM1.out HM2.out)) (Gr.same _) KeepAt.trans
    (fun W o' => KeepAt.putObj W _ o' (by simp; omega)) (fun _ => rfl)
    (SpI k i w) (fun _ _ _ => False) (SpI.own k i w (by omega)) (fun _ _ _ _ _ hs _ _ => hs) HI0.out
    (fun x a' W => a' = { tmps := #[.agg k.cs.toArray, .int .i64 i, .pointer (some ⟨w.heap.size, 0, none⟩), .pointer (some ⟨w.heap.size + 1, 0, none⟩), .pointer (some ⟨w.heap.size + 1 + 1, 0, none⟩), .pointer (some ⟨w.heap.size + 1 + 1 + 1, 0, none⟩), .int .i64 x.v, .int .i64 i, .pointer (some ⟨w.heap.size, 105, none⟩), .pointer (some ⟨w.heap.size, 105 + i, none⟩), .int .i64 (k.all i), .func (.func 68) #[.int .i64 (k.all i)] #[], marksV (w.heap.size + 1 + 1 + 1 + 1) (w.heap.size + 1 + 1 + 1 + 1 + 1), .int .i64 x.v, undef, undef, undef, undef, undef, undef, undef, undef, undef, undef], defers := [] }) (fun x a' => fun _ _ _ _ h _ _ => h) ?assign ?body ?done ?stop
  case assign =>
    intro y pre x W K hi hK
    have HI := Lib.hid hi
    clear hi
    unfold encW
    gi_wp2
    exact hK _ _ (KeepsOthers.refl _ |>.from _) (KeepAt.refl _ _) HI.out rfl
  case body =>
    rintro y pre x a' W hyl - ⟨h0, h1, h2, h3, hBW⟩ rfl hN
    have H0 := Lib.hid h0
    have H1 := Lib.hid h1
    have H2 := Lib.hid h2
    have H3 := Lib.hid h3
    have HBW := Lib.hid hBW
    have hx := x.lt
    have g1 : (x.v : Int) < 11 := by omega
    have g1' : decide ((x.v : Int) < 11) = true := by simp; omega
    have g1'' : decide (x.v < 11) = true := by simp; omega
    have HON := Lib.hid (fun W => only_any k.all i x.v W hi10 (by omega) (HK.out.m i))
    have HCN := Lib.hid (fun W => count_any k (onlM k.all i x.v) (onlM_lt HK.out.m i x.v) (fun a ha j hj hj' => by rw [onlM_bit, HK.out.r a ha j hj hj', Bool.false_and]) HK.out.nL HK.out.nR HK.out.h W)
    have hsn := k.spTo_snoc i (pre.map Wt.v) x.v
    have hmp : (pre ++ [x]).map Wt.v = pre.map Wt.v ++ [x.v] := by simp
    rw [← hmp] at hsn
    have HSN := Lib.hid hsn
    clear h0 h1 h2 h3 hBW hmp hsn
    have hv : k.wy (onlM k.all i x.v) 0 0 k.h = k.spv i x.v := rfl
    rw [hv] at HCN
    generalize k.spv i x.v = v at *
    gi_wp2_with fail
    refine region2_in 9 ?_ ?_ ?_ ?_ ?_
    · kernel_rfl
    · kernel_rfl
    · kernel_rfl
    · rintro ⟨_, _, h⟩; exact h
    simp only [List.take_succ_cons, List.take_zero, List.drop_succ_cons, List.drop_zero]
    apply chain_eq (D := [(6, none)]) rfl (by kernel_rfl)
    · intro ρ W4 ⟨p1, p2, p3⟩ hG hF K hK; (try simp [FactsD] at hF); have hD := Gr.tr (Gr.drew _) hG; go_simp; exact hK _ (gives_val)
    apply chain_eq (D := [(2, none)]) rfl (by kernel_rfl)
    · intro ρ W4 ⟨p1, p2, p3⟩ hG hF K hK; (try simp [FactsD] at hF); have hD := Gr.tr (Gr.drew _) hG; rw [exec_loadBox row85 k.cs_len (H0.out.grow hD) rfl hF]; exact hK _ gives_val
    apply chain_eq (D := [(2, none)]) rfl (by kernel_rfl)
    · intro ρ W4 ⟨p1, p2, p3⟩ hG hF K hK; (try simp [FactsD] at hF); have hD := Gr.tr (Gr.drew _) hG; go_simp; exact hK _ (gives_val)
    apply chain_eq (D := [(16, some 0)]) rfl (by kernel_rfl)
    · intro ρ W4 ⟨p1, p2, p3⟩ hG hF K hK; (try simp [FactsD] at hF); have hD := Gr.tr (Gr.drew _) hG; rw [exec_loadPart row83 (opts_len k.all) (H0.out.grow hD) k.part rfl hF]; exact hK _ gives_val
    apply chain_eq (D := [(3, none)]) rfl (by kernel_rfl)
    · intro ρ W4 ⟨p1, p2, p3⟩ hG hF K hK; (try simp [FactsD] at hF); have hD := Gr.tr (Gr.drew _) hG; have z0 := (H1.out.grow hD).cell (i := 0) rfl; go_simp; exact hK _ (gives_val)
    apply chain_eq (D := [(6, none)]) rfl (by kernel_rfl)
    · intro ρ W4 ⟨p1, p2, p3⟩ hG hF K hK; (try simp [FactsD] at hF); have hD := Gr.tr (Gr.drew _) hG; go_simp; exact hK _ (gives_val)
    apply chain_eq (D := [(17, some 2), (18, some 1), (19, some 0)]) rfl (by kernel_rfl)
    · intro ρ W4 ⟨p1, p2, p3⟩ hG hF K hK; (try simp [FactsD] at hF); have hD := Gr.tr (Gr.drew _) hG; go_simp; exact hK _ (gives_call (HON.out _))
    apply chain_eq (D := [(15, some 5), (20, some 0)]) rfl (by kernel_rfl)
    · intro ρ W4 ⟨p1, p2, p3⟩ hG hF K hK; (try simp [FactsD] at hF); have hD := Gr.tr (Gr.drew _) hG; go_simp; exact hK _ (gives_call (HCN.out _))
    apply chain_eq (D := [(5, none), (14, some 7)]) rfl (by kernel_rfl)
    · intro ρ W4 ⟨p1, p2, p3⟩ hG hF K hK; (try simp [FactsD] at hF); have hD := Gr.tr (Gr.drew _) hG; go_simp; exact hK _ (gives_val)
    refine chain_done ?_
    intro vs W4 hG hV
    obtain ⟨e8, e7, -⟩ := hV
    simp only [Nat.reduceSub] at e7 e8
    simp only [lay, Act.put, List.getElem?_toArray, List.getElem?_cons_succ, List.getElem?_cons_zero, Option.bind_some, List.setIfInBounds_toArray, List.set_cons_succ, List.set_cons_zero]
    generalize vs 0 = v0
    generalize vs 1 = v1
    generalize vs 2 = v2
    generalize vs 3 = v3
    generalize vs 4 = v4
    generalize vs 5 = v5
    generalize vs 6 = v6
    generalize vs 7 = v7 at *
    generalize vs 8 = v8 at *
    subst e7
    subst e8
    have HG := Lib.hid hG
    have H3' := Lib.hid (H3.out.grow hG)
    have f3 := H3'.out.free (i := x.v)
    have z3 := H3'.out.cell (wrow_at _ (show x.v < 11 by omega))
    have l3 := H3'.out.lt
    clear hG
    go_wp2_with fail
    have ho := Only.set W4 (b := w.heap.size + 1 + 1 + 1) x.v (.int .i64 (v : Int))
    refine ⟨((keepsO HG.out).trans (KeepsOthers.setCell _ _ _)).from _, (KeepAt.of HG.out).trans (KeepAt.set _ _ _ _ (by first | (simp; done) | (simp; omega) | omega)), ho.box (H0.out.grow HG.out) (by omega), ho.box (H1.out.grow HG.out) (by omega), ho.box (H2.out.grow HG.out) (by omega), ?_, (bgr HBW.out HBW.out.size HG.out).setCell (by first | (simp; done) | (simp; omega) | omega) _⟩
    rw [← HSN.out]
    exact H3'.out.put x.v _
  case done =>
    rintro D ys W hD hys ⟨h0, h1, h2, h3, hBW⟩ hK'
    rw [hys, HALL.out] at h3
    have H2 := Lib.hid h2
    have H3 := Lib.hid h3
    have HBW := Lib.hid hBW
    have HKD := Lib.hid hK'
    have hO' := wrow_len (k.spl i)
    clear h0 h1 h2 h3 hBW hK' hys
    go_wp2_with (first
        | (with_reducible refine wpList_stopLoad (ty := 153) rfl ?_; unfold Stop; refine wpList_loadBox row153 hO' H3.out rfl rfl rfl ?_)
        | (with_reducible refine wpList_stopStore (ty := 153) rfl ?_; unfold Stop; refine wpList_storeBox row153 hO' rfl (wrow_one _) H2.out rfl rfl rfl rfl ?_))
    have hO5 := Only.row W (w.heap.size + 1 + 1) (wrow (k.spl i)).toArray
    have hK5 := (hO5.keep D (by omega) (Array.getElem?_eq_some_iff.1 HKD.out).1).trans HKD.out
    refine ⟨by simp, .inl ⟨_, _, rfl, run_takeDeferred hK5, ?_⟩⟩
    have hR5 := (H2.out.row (vs := wrow (k.spl i))).own' (grownBy_putObj' _ D (.deferred none)) (fun r e => by cases e; exact ⟨_, hK5, rfl⟩)
    refine ⟨.agg (wrow (k.spl i)).toArray, result_row row153 hO' hR5 rfl rfl, rfl, ?_⟩
    exact (below_setRow HBW.out (by omega) _).trans (belowK_b (w := w) (Nat.le_refl _) _ D _ _ (by omega) hK5 rfl rfl)
  case stop =>
    rintro D c pre W _ _ h _
    exact h.elim

end Go.Proofs.Ytjlaoiimbhlafaa
