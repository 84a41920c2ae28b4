import Derived.Test.YtcngaohfemdfjaaGreatK9
import Derived.Test.YtcngaohfemdfjaaGreatY33
import Derived.Test.YtcngaohfemdfjaaGreatK1
import Derived.Test.YtcngaohfemdfjaaGreatK2
import Derived.Test.YtcngaohfemdfjaaGreatK0
import Derived.RegionTactic
import Derived.Deep.CutBlock
import Derived.Deep.DeepCutAuto
import Derived.Deep.AppendLies
import Derived.OwnWalk
set_option linter.unusedVariables false
set_option linter.unusedSimpArgs false
namespace Go.Proofs.YtcngaohfemdfjaaGreat
open Go.RowKit
theorem Th.one (t : Th) : ∀ u ∈ t.vals, u.oneCell' = true := by
  intro u hu
  simp [Th.vals] at hu
  rcases hu with rfl | rfl | rfl | rfl | rfl | rfl | rfl | rfl | rfl <;> rfl
theorem Th.vals_len (t : Th) : t.vals.length = 9 := rfl
theorem Th.at_vals {t : Th} {z : Int} {j : Nat} (hj : j < 8) : (t.at z).vals[j]? = t.vals[j]? :=
  match j, hj with
  | 0, _ => rfl
  | 1, _ => rfl
  | 2, _ => rfl
  | 3, _ => rfl
  | 4, _ => rfl
  | 5, _ => rfl
  | 6, _ => rfl
  | 7, _ => rfl
theorem th_flat_len (l : List Th) : (l.flatMap Th.vals).length = l.length * 9 := by
  induction l with
  | nil => rfl
  | cons t l ih => rw [List.flatMap_cons, List.length_append, ih, Th.vals_len, List.length_cons]; omega
theorem news_things {w : World} {b o : Nat} {l : List Th} (hc : ∀ i t, l[i]? = some t → CellsFrom w b (o + i * 9) t.vals) : ∀ j u, (l.flatMap Th.vals)[j]? = some u → w.cell? ((⟨b, o, none⟩ : Addr).add j) = some u := by
  intro j u hu
  have hlen := th_flat_len l
  have hj : j < l.length * 9 := by have := (List.getElem?_eq_some_iff.1 hu).1; omega
  have hi : j / 9 < l.length := by omega
  have hm : j % 9 < 9 := by omega
  have hlt : l[j / 9]? = some l[j / 9] := List.getElem?_eq_getElem hi
  have h1 := flat_at Th.vals 9 (fun _ => rfl) l (j / 9) (j % 9) _ hlt hm
  rw [show j / 9 * 9 + j % 9 = j by omega] at h1
  rw [hu] at h1
  have key : ∀ (xs : List Value) (k : Nat), CellsFrom w b k xs → ∀ m x, xs[m]? = some x → w.cell? ⟨b, k + m, none⟩ = some x := by
    intro xs
    induction xs with
    | nil => intro _ _ m x h; cases h
    | cons y xs ih =>
      intro k h m x hx
      cases m with
      | zero => simp at hx; subst hx; exact h.1
      | succ m => have := ih (k + 1) h.2 m x (by simpa using hx); rwa [show k + (m + 1) = k + 1 + m by omega]
  have h2 := key _ _ (hc _ _ hlt) (j % 9) u h1.symm
  have : (⟨b, o, none⟩ : Addr).add j = ⟨b, o + j, none⟩ := by unfold Addr.add; split <;> simp_all
  rw [this, ← h2]
  congr 2
  omega
theorem set_last {l : List Th} {vs : List Value} {n : Nat} {t : Th} {z : Int} (hct : vs.take (l.length * 9) = l.flatMap Th.vals) (ht : l[n]? = some t) : ∀ i t' j x, (l.set n (t.at z))[i]? = some t' → t'.vals[j]? = some x → (vs.set (n * 9 + 8) (.int .i64 z))[i * 9 + j]? = some x := by
  intro i t' j x hi hx
  have hj : j < 9 := by have := (List.getElem?_eq_some_iff.1 hx).1; simpa [Th.vals] using this
  have htz : vs[n * 9 + 8]? = some (.int .i64 t.z) := flat_take hct ht rfl
  have hlt9 := (List.getElem?_eq_some_iff.1 htz).1
  rw [List.getElem?_set] at hi ⊢
  by_cases hin : n = i
  · subst hin
    have hnl := (List.getElem?_eq_some_iff.1 ht).1
    rw [if_pos rfl, if_pos hnl] at hi
    cases hi
    by_cases h8 : j = 8
    · subst h8
      rw [if_pos rfl, if_pos hlt9]
      exact hx
    · rw [if_neg (by omega)]
      refine flat_take hct ht ?_
      rw [← Th.at_vals (z := z) (show j < 8 by omega)]
      exact hx
  · rw [if_neg hin] at hi
    rw [if_neg (by omega)]
    exact flat_take hct hi hx
theorem Cd.part26 (k : Cd) : (k.cs.drop 0).take 8 = k.pr := rfl
theorem things_flat {l : List Th} : ∀ u ∈ l.flatMap Th.vals, u.oneCell' = true := fun u hu => by
  obtain ⟨t, -, h⟩ := List.mem_flatMap.1 hu
  exact t.one u h
theorem own_none (W : World) : (W.alloc (.cells #[] 52)).ownsRow W.heap.size 52 9 (.slice (some ⟨W.heap.size, 0, none⟩) 0 0) 0 [] := by
  refine ⟨rfl, .inr ⟨W.heap.size, 0, #[], rfl, Nat.le_refl _, ?_, Nat.le_refl _, Nat.zero_le _, rfl, rfl⟩⟩
  have := heap_new W (.cells #[] 52)
  simpa using this
theorem kspanin_any (a b c d : Int) (w : World) :
    Calls Tryz.prog 46 #[.agg #[.int .i64 a, .int .i64 b], .agg #[.int .i64 c, .int .i64 d]] w fun e w' => e = .returned (.bool (decide (c ≤ a) && decide (b ≤ d))) ∧ Below w.heap.size w w' := by
  by_cases h : c ≤ a
  · have h' : decide (c ≤ a) = true := by simpa using h
    go_enter Tryz.func46, Tryz.ntmps46
    go_wp2
    exact bodyPost_ret (v := .bool (decide (b ≤ d))) (by simp [results, Tryz.results46, go_sem]) rfl ⟨by simp [h], (Gr.alloc _ _).tr (Gr.alloc _ _)⟩
  · have h' : decide (c ≤ a) = false := by simpa using h
    go_enter Tryz.func46, Tryz.ntmps46
    go_wp2
    exact bodyPost_ret (v := .bool false) (by simp [results, Tryz.results46, go_sem]) rfl ⟨by simp [h], (Gr.alloc _ _).tr (Gr.alloc _ _)⟩
theorem kspanin_yes {a b c d : Int} {w : World} (h1 : c ≤ a) (h2 : b ≤ d) :
    Calls Tryz.prog 46 #[.agg #[.int .i64 a, .int .i64 b], .agg #[.int .i64 c, .int .i64 d]] w fun e w' => e = .returned (.bool true) ∧ Below w.heap.size w w' := by
  have := kspanin_any a b c d w
  simpa [h1, h2] using this
set_option maxRecDepth 100000 in
set_option maxHeartbeats 2000000 in
theorem known_none (k : Cd) (z y : Int) (w : World) (hl0 : k.p.l.length = 0) :
    Calls Tryz.prog 12 #[.agg k.cs.toArray, .int .u8 z, .int .u32 y] w fun e w' => e = .returned (.bool true) ∧ Below w.heap.size w w' := by
  have x1 : ((k.p.l.length : Int) == 0) = true := beq_iff_eq.2 (by omega)
  have x2 : (k.p.l.length == 0) = true := beq_iff_eq.2 hl0
  have x3 : k.p.l = [] := List.eq_nil_of_length_eq_zero hl0
  have p7 : ∀ h : 7 < k.cs.length, k.cs[7] = .slice k.sp k.p.l.length k.cap := fun _ => rfl
  have p10 : ∀ h : 10 < k.cs.length, k.cs[10] = .int .i64 k.cuts := fun _ => rfl
  have hl : k.cs.length = 17 := rfl
  go_enter Tryz.func12, Tryz.ntmps12
  go_wp2_with fail
  refine (awake03_any _).mono ?_
  rintro e wz ⟨rfl, hbz⟩
  go_wp2
  exact bodyPost_ret (v := .bool true) (by simp [results, Tryz.results12, go_sem]) rfl ⟨rfl, Gr.tr (Gr.alloc _ _) hbz⟩
set_option maxRecDepth 100000 in
set_option maxHeartbeats 2000000 in
theorem known_many (k : Cd) (z y : Int) (w : World) (hl : 40 < k.p.l.length) :
    Calls Tryz.prog 12 #[.agg k.cs.toArray, .int .u8 z, .int .u32 y] w fun e w' => e = .returned (.bool true) ∧ Below w.heap.size w w' := by
  have x1 : ((k.p.l.length : Int) == 0) = false := beq_eq_false_iff_ne.2 (by omega)
  have x2 : (k.p.l.length == 0) = false := beq_eq_false_iff_ne.2 (by omega)
  have x3 : ¬ k.p.l = [] := fun h => by rw [h] at x2; cases x2
  have d : decide (40 < (k.p.l.length : Int)) = true := by simp; omega
  have d' : decide (40 < k.p.l.length) = true := by simp; omega
  clear hl
  have p7 : ∀ h : 7 < k.cs.length, k.cs[7] = .slice k.sp k.p.l.length k.cap := fun _ => rfl
  have p10 : ∀ h : 10 < k.cs.length, k.cs[10] = .int .i64 k.cuts := fun _ => rfl
  have hl : k.cs.length = 17 := rfl
  go_enter Tryz.func12, Tryz.ntmps12
  go_wp2_with fail
  refine (awake03_any _).mono ?_
  rintro e wz ⟨rfl, hbz⟩
  go_wp2
  exact bodyPost_ret (v := .bool true) (by simp [results, Tryz.results12, go_sem]) rfl ⟨rfl, Gr.tr (Gr.alloc _ _) hbz⟩
set_option maxRecDepth 100000 in
set_option maxHeartbeats 2000000 in
theorem known_card (k : Cd) (z y : Int) (w : World) (hl0 : k.p.l.length ≠ 0) (hl : k.p.l.length ≤ 40) (hT : ThingsAt k.p.l (.slice k.sp k.p.l.length k.cap) w) (hc : Hid ((k.okc && k.p.ok) = false)) :
    Calls Tryz.prog 12 #[.agg k.cs.toArray, .int .u8 z, .int .u32 y] w fun e w' => e = .returned (.bool true) ∧ Below w.heap.size w w' := by
  have x1 : ((k.p.l.length : Int) == 0) = false := beq_eq_false_iff_ne.2 (by omega)
  have x2 : (k.p.l.length == 0) = false := beq_eq_false_iff_ne.2 (by omega)
  have x3 : ¬ k.p.l = [] := fun h => by rw [h] at x2; cases x2
  have d : decide (40 < (k.p.l.length : Int)) = false := by simp; omega
  have d' : decide (40 < k.p.l.length) = false := by simp; omega
  have HT := Lib.hid hT
  clear hl hT
  have p7 : ∀ h : 7 < k.cs.length, k.cs[7] = .slice k.sp k.p.l.length k.cap := fun _ => rfl
  have p10 : ∀ h : 10 < k.cs.length, k.cs[10] = .int .i64 k.cuts := fun _ => rfl
  have hl : k.cs.length = 17 := rfl
  have HB := Lib.hid (Box.fresh w k.cs 28)
  go_enter Tryz.func12, Tryz.ntmps12
  go_wp2_with (first | (with_reducible refine wpList_stopLoad (ty := 28) rfl ?_; unfold Stop; first | refine wpList_loadBox row28 rfl (HB.out) rfl rfl rfl ?_ | refine wpList_loadPartG row28 rfl (HB.out) (Cd.whole k) rfl rfl rfl ?_))
  refine (card_is (b := false) hc.out (ThingsAt.lasts _ _ _ _ HT.out (Gr.alloc _ _))).mono ?_
  rintro e w1 ⟨rfl, hb1⟩
  have HG1 := Lib.hid ((Gr.alloc w (Obj.cells k.cs.toArray 28)).tr hb1)
  have HB1 := Lib.hid (HB.out.grow hb1)
  clear hb1
  go_wp2_with fail
  refine (awake03_any _).mono ?_
  rintro e wz ⟨rfl, hbz⟩
  go_wp2
  exact bodyPost_ret (v := .bool true) (by simp [results, Tryz.results12, go_sem]) rfl ⟨rfl, Gr.tr HG1.out hbz⟩
set_option maxRecDepth 100000 in
set_option maxHeartbeats 2000000 in
theorem known_cuts (k : Cd) (z y : Int) (w : World) (hl0 : k.p.l.length ≠ 0) (hl : k.p.l.length ≤ 40) (hT : ThingsAt k.p.l (.slice k.sp k.p.l.length k.cap) w) (hc : Hid ((k.okc && k.p.ok) = true)) (hn : 20 < k.cuts) :
    Calls Tryz.prog 12 #[.agg k.cs.toArray, .int .u8 z, .int .u32 y] w fun e w' => e = .returned (.bool true) ∧ Below w.heap.size w w' := by
  have x1 : ((k.p.l.length : Int) == 0) = false := beq_eq_false_iff_ne.2 (by omega)
  have x2 : (k.p.l.length == 0) = false := beq_eq_false_iff_ne.2 (by omega)
  have x3 : ¬ k.p.l = [] := fun h => by rw [h] at x2; cases x2
  have d : decide (40 < (k.p.l.length : Int)) = false := by simp; omega
  have d' : decide (40 < k.p.l.length) = false := by simp; omega
  have y1 : decide (20 < k.cuts) = true := by simpa using hn
  have HT := Lib.hid hT
  clear hl hT
  have p7 : ∀ h : 7 < k.cs.length, k.cs[7] = .slice k.sp k.p.l.length k.cap := fun _ => rfl
  have p10 : ∀ h : 10 < k.cs.length, k.cs[10] = .int .i64 k.cuts := fun _ => rfl
  have hl : k.cs.length = 17 := rfl
  have HB := Lib.hid (Box.fresh w k.cs 28)
  go_enter Tryz.func12, Tryz.ntmps12
  go_wp2_with (first | (with_reducible refine wpList_stopLoad (ty := 28) rfl ?_; unfold Stop; first | refine wpList_loadBox row28 rfl (HB.out) rfl rfl rfl ?_ | refine wpList_loadPartG row28 rfl (HB.out) (Cd.whole k) rfl rfl rfl ?_))
  refine (card_is (b := true) hc.out (ThingsAt.lasts _ _ _ _ HT.out (Gr.alloc _ _))).mono ?_
  rintro e w1 ⟨rfl, hb1⟩
  have HG1 := Lib.hid ((Gr.alloc w (Obj.cells k.cs.toArray 28)).tr hb1)
  have HB1 := Lib.hid (HB.out.grow hb1)
  clear hb1
  have c10 := HB1.out.cell (i := 10) rfl
  have ccl := HB1.out.lt
  go_wp2_with fail
  refine (awake03_any _).mono ?_
  rintro e wz ⟨rfl, hbz⟩
  go_wp2
  exact bodyPost_ret (v := .bool true) (by simp [results, Tryz.results12, go_sem]) rfl ⟨rfl, Gr.tr HG1.out hbz⟩
set_option maxRecDepth 100000 in
set_option maxHeartbeats 2000000 in
theorem known_err (k : Cd) (z y : Int) (w : World) (hl0 : k.p.l.length ≠ 0) (hl : k.p.l.length ≤ 40) (hT : ThingsAt k.p.l (.slice k.sp k.p.l.length k.cap) w) (hc : Hid ((k.okc && k.p.ok) = true)) (hn : k.cuts ≤ 20) (hz : 0 ≤ z ∧ z ≤ 255) (i : Nat) (hi : i < k.p.l.length) (hrem : z.tmod (k.p.l.length : Int) = (i : Int)) (er : Int) (her : (er == 4) = true ∧ (er == 11) = false ∨ (er == 4) = false ∧ (er == 11) = true) (her0 : (er != 0) = true) (hd : Hid (k.p.distance i = (0, 0, er))) :
    Calls Tryz.prog 12 #[.agg k.cs.toArray, .int .u8 z, .int .u32 y] w fun e w' => e = .returned (.bool true) ∧ Below w.heap.size w w' := by
  have x1 : ((k.p.l.length : Int) == 0) = false := beq_eq_false_iff_ne.2 (by omega)
  have x2 : (k.p.l.length == 0) = false := beq_eq_false_iff_ne.2 (by omega)
  have x3 : ¬ k.p.l = [] := fun h => by rw [h] at x2; cases x2
  have d : decide (40 < (k.p.l.length : Int)) = false := by simp; omega
  have d' : decide (40 < k.p.l.length) = false := by simp; omega
  have y1 : decide (20 < k.cuts) = false := by simpa using hn
  have W1 : IntKind.i64.wrap z = z := IntWalk.i64_in _ ⟨by omega, by omega⟩
  have W2 : ((k.p.l.length : Int) = 0) = False := eq_false (by omega)
  have W3 : IntKind.i64.wrap (i : Int) = (i : Int) := IntWalk.i64_in _ ⟨by omega, by omega⟩
  have HT := Lib.hid hT
  have HL := Lib.hid hl
  clear hT
  have p7 : ∀ h : 7 < k.cs.length, k.cs[7] = .slice k.sp k.p.l.length k.cap := fun _ => rfl
  have p10 : ∀ h : 10 < k.cs.length, k.cs[10] = .int .i64 k.cuts := fun _ => rfl
  have hl : k.cs.length = 17 := rfl
  have HB := Lib.hid (Box.fresh w k.cs 28)
  go_enter Tryz.func12, Tryz.ntmps12
  go_wp2_with (first | (with_reducible refine wpList_stopLoad (ty := 28) rfl ?_; unfold Stop; first | refine wpList_loadBox row28 rfl (HB.out) rfl rfl rfl ?_ | refine wpList_loadPartG row28 rfl (HB.out) (Cd.whole k) rfl rfl rfl ?_))
  refine (card_is (b := true) hc.out (ThingsAt.lasts _ _ _ _ HT.out (Gr.alloc _ _))).mono ?_
  rintro e w1 ⟨rfl, hb1⟩
  have HG1 := Lib.hid ((Gr.alloc w (Obj.cells k.cs.toArray 28)).tr hb1)
  have HB1 := Lib.hid (HB.out.grow hb1)
  clear hb1
  have c10 := HB1.out.cell (i := 10) rfl
  have ccl := HB1.out.lt
  go_wp2_with (first | (with_reducible refine wpList_stopLoad (ty := 26) rfl ?_; unfold Stop; refine wpList_loadPart row26 rfl (HB1.out) (Cd.part26 k) rfl rfl rfl ?_))
  refine (distance_is hd.out (ThingsAt.lasts _ _ _ _ HT.out HG1.out)).mono ?_
  rintro e w2 ⟨rfl, hb2⟩
  have hga := Gr.tr hb2 (Gr.alloc w2 (Obj.cells #[.int .i64 0, .int .i64 0] 23))
  have HG2 := Lib.hid (HG1.out.tr hga)
  have z0 := (Box.fresh w2 [.int .i64 0, .int .i64 0] 23).cell (i := 0) rfl
  have z1 := (Box.fresh w2 [.int .i64 0, .int .i64 0] 23).cell (i := 1) rfl
  clear hb2 hga
  have heq := @eq23
  have heg := @eqg23
  rcases her with ⟨r1, r2⟩ | ⟨r1, r2⟩
  all_goals
    go_wp2_with fail
    refine (awake03_any _).mono ?_
    rintro e wz ⟨rfl, hbz⟩
    go_wp2
    exact bodyPost_ret (v := .bool true) (by simp [results, Tryz.results12, go_sem]) rfl ⟨rfl, Gr.tr HG2.out hbz⟩
end Go.Proofs.YtcngaohfemdfjaaGreat
