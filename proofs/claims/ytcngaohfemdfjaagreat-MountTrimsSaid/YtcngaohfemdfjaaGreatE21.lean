import Derived.Test.YtcngaohfemdfjaaGreatE19
set_option linter.unusedVariables false
set_option linter.unusedSimpArgs false
set_option maxRecDepth 100000
set_option maxHeartbeats 60000000
namespace Go.Proofs.YtcngaohfemdfjaaGreat
open Go.RowKit
theorem ovl_le1 (l : List (Int × Int)) (x : Int) : ∀ a : Int × Int, (l.foldl ovl a).1 ≤ x ↔ a.1 ≤ x ∧ ∀ s ∈ l, s.1 ≤ x := by
  induction l with
  | nil => intro a; simp
  | cons y l ih =>
    intro a
    simp only [List.foldl_cons, List.mem_cons, forall_eq_or_imp]
    rw [ih]
    have : (ovl a y).1 ≤ x ↔ a.1 ≤ x ∧ y.1 ≤ x := by unfold ovl; simp only; split <;> omega
    rw [this, and_assoc]
theorem ovl_le2 (l : List (Int × Int)) (x : Int) : ∀ a : Int × Int, x ≤ (l.foldl ovl a).2 ↔ x ≤ a.2 ∧ ∀ s ∈ l, x ≤ s.2 := by
  induction l with
  | nil => intro a; simp
  | cons y l ih =>
    intro a
    simp only [List.foldl_cons, List.mem_cons, forall_eq_or_imp]
    rw [ih]
    have : x ≤ (ovl a y).2 ↔ x ≤ a.2 ∧ x ≤ y.2 := by unfold ovl; simp only; split <;> omega
    rw [this, and_assoc]
def Th.m (t : Th) : Bool := !decide (t.z = 0)
theorem marks_bit (l : List Th) : ∀ n j, (marksTo l n).testBit j = (decide (j < n) && (l.getD j ⟨0, 0, 0, 0, 0, 0, 0, 0, 0⟩).m)
  | 0, j => by simp [marksTo]
  | n + 1, j => by
    unfold marksTo
    by_cases hz : (l.getD n ⟨0, 0, 0, 0, 0, 0, 0, 0, 0⟩).z = 0
    · rw [if_pos hz, marks_bit l n j]
      by_cases hj : j = n
      · subst hj; simp [Th.m]; simpa using hz
      · have : decide (j < n + 1) = decide (j < n) := by simp only [decide_eq_decide]; omega
        rw [this]
    · rw [if_neg hz, Nat.testBit_or, marks_bit l n j, Nat.testBit_two_pow]
      by_cases hj : j = n
      · subst hj; simp [Th.m]; simpa using hz
      · have : decide (j < n + 1) = decide (j < n) := by simp only [decide_eq_decide]; omega
        rw [this]
        have : decide (n = j) = false := by simp; omega
        rw [this, Bool.or_false]
theorem pick_marks (ti ne fa : Int) (l : List Th) : ∀ k, k ≤ l.length → pickTo (seenOf ti ne fa l) (marksTo l l.length) k = ((l.take k).filter Th.m).map (Th.see ti ne fa)
  | 0, _ => by simp [pickTo]
  | k + 1, hk => by
    unfold pickTo
    rw [marks_bit, pick_marks ti ne fa l k (by omega)]
    have hk' : k < l.length := by omega
    have e1 : l.take (k + 1) = l.take k ++ [l[k]] := by rw [List.take_add_one]; simp [hk']
    have e2 : l.getD k ⟨0, 0, 0, 0, 0, 0, 0, 0, 0⟩ = l[k] := by simp [List.getD, hk']
    rw [e1, e2, List.filter_append, List.map_append]
    have e3 : (seenOf ti ne fa l)[k]? = some (Th.see ti ne fa l[k]) := by simp [seenOf, hk']
    rw [e3]
    cases hm : l[k].m <;> simp [hk', hm, List.filter]
def Th.spw (ti ne fa : Int) (t : Th) : Int × Int := (t.see ti ne fa).spw
theorem Pr.pw_eq (p : Pr) : p.pw = (((p.l.filter Th.m).map (Th.see p.ti p.ne p.fa)).map Sg.spw).foldl ovl (p.fl * p.bl, p.fh * p.bh) := by
  unfold Pr.pw allPw
  rw [pick_marks _ _ _ _ _ (Nat.le_refl _), List.take_length]
theorem Pr.pw1 (p : Pr) (x : Int) : p.pw.1 ≤ x ↔ p.fl * p.bl ≤ x ∧ ∀ t ∈ p.l, t.m = true → (t.see p.ti p.ne p.fa).spw.1 ≤ x := by
  rw [p.pw_eq, ovl_le1]
  simp only [List.mem_map, List.mem_filter]
  constructor
  · rintro ⟨h1, h2⟩; exact ⟨h1, fun t ht hm => h2 _ ⟨_, ⟨t, ⟨ht, hm⟩, rfl⟩, rfl⟩⟩
  · rintro ⟨h1, h2⟩; refine ⟨h1, ?_⟩; rintro s ⟨_, ⟨t, ⟨ht, hm⟩, rfl⟩, rfl⟩; exact h2 t ht hm
theorem Pr.pw2 (p : Pr) (x : Int) : x ≤ p.pw.2 ↔ x ≤ p.fh * p.bh ∧ ∀ t ∈ p.l, t.m = true → x ≤ (t.see p.ti p.ne p.fa).spw.2 := by
  rw [p.pw_eq, ovl_le2]
  simp only [List.mem_map, List.mem_filter]
  constructor
  · rintro ⟨h1, h2⟩; exact ⟨h1, fun t ht hm => h2 _ ⟨_, ⟨t, ⟨ht, hm⟩, rfl⟩, rfl⟩⟩
  · rintro ⟨h1, h2⟩; refine ⟨h1, ?_⟩; rintro s ⟨_, ⟨t, ⟨ht, hm⟩, rfl⟩, rfl⟩; exact h2 t ht hm
theorem Pr.order {p : Pr} (h : p.ok = true) {t : Th} (ht : t ∈ p.l) : t.a ≤ t.b ∧ t.c ≤ t.d ∧ t.e ≤ t.f ∧ t.g ≤ t.h := by
  unfold Pr.ok valid at h
  rw [Bool.and_eq_true] at h
  have := List.all_eq_true.1 h.2 t ht
  simp [Th.valid, okSp] at this
  omega
theorem Th.lohi {p : Pr} (h : p.ok = true) {t : Th} (ht : t ∈ p.l) : (t.see p.ti p.ne p.fa).lo ≤ (t.see p.ti p.ne p.fa).hi := by
  have := Pr.order h ht
  simp only [Th.see]; omega
theorem Sg.st_eq (s : Sg) : s.st = (if s.lo < 0 then 0 else s.lo, if 2000 < s.hi then 2000 else s.hi) := rfl
theorem Pr.mark {p : Pr} (h : p.ok = true) (hp : p.pw.1 ≤ p.pw.2) {t : Th} (ht : t ∈ p.l) (hz : t.z ≠ 0) :
    (t.see p.ti p.ne p.fa).wit = .mark t.z ∧ (t.see p.ti p.ne p.fa).sl = false ∧ 0 ≤ (t.see p.ti p.ne p.fa).hi ∧ (t.see p.ti p.ne p.fa).lo ≤ 2000 ∧ (t.see p.ti p.ne p.fa).st.1 * t.z ≤ p.pw.1 ∧ p.pw.2 ≤ ((t.see p.ti p.ne p.fa).st.2 + 1) * t.z - 1 ∧ 2000 ≤ t.z ∧ p.ne ≤ t.z ∧ t.z ≤ p.fa := by
  have hm : t.m = true := by simp [Th.m, hz]
  have hb := p.bounds h
  have hzz := (hb.things t ht).2
  have h1 := ((p.pw1 p.pw.1).1 (Int.le_refl _)).2 t ht hm
  have h2 := ((p.pw2 p.pw.2).1 (Int.le_refl _)).2 t ht hm
  have hin := p.pw_in h
  have hne := hb.ne0
  have hlh := Th.lohi h ht
  have hw : (t.see p.ti p.ne p.fa).wit = .mark t.z := by simp [Th.see, Th.wit, hz]
  generalize t.see p.ti p.ne p.fa = s at *
  have hzp : 2000 ≤ t.z := by omega
  cases hs : s.sl with
  | true => simp [Sg.spw, hs] at h1 h2; omega
  | false =>
    simp [Sg.spw, hs, Sg.pw, hw, Wit.powers] at h1 h2
    refine ⟨hw, rfl, ?_, ?_, h1, by omega, hzp, by omega, by omega⟩
    · apply Int.not_lt.1; intro hc
      have : s.st.2 + 1 ≤ 0 := by rw [s.st_eq]; simp only; split <;> omega
      have := Int.mul_le_mul_of_nonneg_right this (show 0 ≤ t.z by omega)
      simp at this; omega
    · apply Int.not_lt.1; intro hc
      have e1 : 2001 ≤ s.st.1 := by rw [s.st_eq]; simp only; split <;> omega
      have e2 : s.st.2 + 1 ≤ 2001 := by rw [s.st_eq]; simp only; split <;> omega
      have := Int.mul_le_mul_of_nonneg_right e1 (show 0 ≤ t.z by omega)
      have := Int.mul_le_mul_of_nonneg_right e2 (show 0 ≤ t.z by omega)
      omega
theorem Th.far {p : Pr} {t : Th} (hz : t.z = 0) : (t.see p.ti p.ne p.fa).wit = .far p.ne p.fa := by simp [Th.see, Th.wit, hz]
theorem Pr.power_bad {p : Pr} (h : p.ok = false) : p.power = (0, 0, 1) := by unfold Pr.power; rw [h]; rfl
theorem Pr.power_no {p : Pr} (h : p.ok = true) (hp : ¬ p.pw.1 ≤ p.pw.2) : p.power = (0, 0, 4) := by unfold Pr.power; rw [h, if_pos rfl, if_neg hp]
theorem Pr.power_ok {p : Pr} (h : p.ok = true) (hp : p.pw.1 ≤ p.pw.2) : p.power = (p.pw.1, p.pw.2, 0) := by unfold Pr.power; rw [h, if_pos rfl, if_pos hp]
theorem Cd.err_zero {k : Cd} {us : List Cu} (h : k.err us = 0) : k.p.ok = true ∧ k.okc = true ∧ (∀ u ∈ us, u.isT k.cuts = true) ∧ k.p.pw.1 ≤ k.p.pw.2 := by
  unfold Cd.err at h
  cases h1 : k.p.ok with
  | false => simp [h1] at h
  | true =>
    cases h2 : k.okc with
    | false => simp [h1, h2] at h
    | true =>
      cases h3 : us.all (fun u => u.isT k.cuts) with
      | false => simp [h1, h2, h3] at h
      | true =>
        by_cases h4 : k.p.pw.1 ≤ k.p.pw.2
        · exact ⟨rfl, rfl, fun u hu => List.all_eq_true.1 h3 u hu, h4⟩
        · simp [h1, h2, h3, h4] at h
def LookNo (e0 : Int) (w : World) (e : Ending) (w' : World) : Prop := e = .returned (.tuple #[.agg Cd.zero.toArray, .int .i64 e0]) ∧ Below w.heap.size w w'
def LookOk (k : Cd) (w : World) (e : Ending) (w' : World) : Prop := ∃ mb, e = .returned (.tuple #[.agg (k.lk mb).toArray, .int .i64 0]) ∧ w.heap.size ≤ mb ∧ MapAt k.p.sees mb w' ∧ Below w.heap.size w w'
theorem look0_no (k : Cd) (w : World) (hT : TsA k.p.l (.slice k.sp k.p.l.length k.cap) w) {x : Int} (hx : k.err [] = x) (h : x ≠ 0) :
    Calls Tryz.prog 48 #[.agg k.cs.toArray, .slice none 0 0] w (LookNo x w) := by
  subst hx
  have h' := h
  unfold Cd.err at h ⊢
  cases h1 : k.p.ok with
  | false => exact look_pair0 k w hT (Pr.power_bad h1)
  | true =>
    cases h2 : k.okc with
    | false =>
      by_cases h4 : k.p.pw.1 ≤ k.p.pw.2
      · exact look_card0_0 k w hT _ _ (Pr.power_ok h1 h4) h2
      · exact look_card0_4 k w hT (Pr.power_no h1 h4) h2
    | true =>
      by_cases h4 : k.p.pw.1 ≤ k.p.pw.2
      · simp [h1, h2, h4] at h
      · simp only [List.all_nil, if_neg h4]
        exact look_end0_4 k w hT (Pr.power_no h1 h4) h2
theorem look0_ok (k : Cd) (w : World) (hT : TsA k.p.l (.slice k.sp k.p.l.length k.cap) w) (h : k.err [] = 0) :
    Calls Tryz.prog 48 #[.agg k.cs.toArray, .slice none 0 0] w (LookOk k w) := by
  obtain ⟨h1, h2, -, h4⟩ := Cd.err_zero h
  exact look_end0_0 k w hT _ _ (Pr.power_ok h1 h4) h2 h1 h4
theorem look1_no (k : Cd) (cb : Nat) (u : Cu) (w : World) (hT : TsA k.p.l (.slice k.sp k.p.l.length k.cap) w) (hcb : Box w cb [.int .i64 u.a, .int .i64 u.b, .int .i64 u.c, .int .i64 u.d] 30) {x : Int} (hx : k.err [u] = x) (h : x ≠ 0) :
    Calls Tryz.prog 48 #[.agg k.cs.toArray, .slice (some ⟨cb, 0, none⟩) 1 1] w (LookNo x w) := by
  subst hx
  unfold Cd.err at h ⊢
  cases h1 : k.p.ok with
  | false => exact look_pair1 k cb u w hT hcb (Pr.power_bad h1)
  | true =>
    cases h2 : k.okc with
    | false =>
      by_cases h4 : k.p.pw.1 ≤ k.p.pw.2
      · exact look_card1_0 k cb u w hT hcb _ _ (Pr.power_ok h1 h4) h2
      · exact look_card1_4 k cb u w hT hcb (Pr.power_no h1 h4) h2
    | true =>
      cases h3 : u.isT k.cuts with
      | false =>
        simp only [List.all_cons, List.all_nil, h3, Bool.false_and, if_true]
        by_cases h4 : k.p.pw.1 ≤ k.p.pw.2
        · exact look_range1_0 k cb u w hT hcb _ _ (Pr.power_ok h1 h4) h2 h3
        · exact look_range1_4 k cb u w hT hcb (Pr.power_no h1 h4) h2 h3
      | true =>
        by_cases h4 : k.p.pw.1 ≤ k.p.pw.2
        · simp [h1, h2, h3, h4] at h
        · simp only [List.all_cons, List.all_nil, h3, Bool.and_self, if_neg h4]
          exact look_end1_4 k cb u w hT hcb (Pr.power_no h1 h4) h2 h3
theorem look1_ok (k : Cd) (cb : Nat) (u : Cu) (w : World) (hT : TsA k.p.l (.slice k.sp k.p.l.length k.cap) w) (hcb : Box w cb [.int .i64 u.a, .int .i64 u.b, .int .i64 u.c, .int .i64 u.d] 30) (h : k.err [u] = 0) :
    Calls Tryz.prog 48 #[.agg k.cs.toArray, .slice (some ⟨cb, 0, none⟩) 1 1] w (LookOk k w) := by
  obtain ⟨h1, h2, h3, h4⟩ := Cd.err_zero h
  exact look_end1_0 k cb u w hT hcb _ _ (Pr.power_ok h1 h4) h2 (h3 u (by simp)) h1 h4
theorem div_le_iff {a z h : Int} (hz : 0 < z) (hh : 0 ≤ h) : a / z ≤ h ↔ a / (h + 1) + 1 ≤ z := by
  rw [← Int.lt_add_one_iff, Int.ediv_lt_iff_lt_mul hz]
  have := Int.ediv_lt_iff_lt_mul (a := a) (b := z) (c := h + 1) (by omega)
  rw [Int.mul_comm (h + 1) z, ← this]
  omega
theorem div_lt_iff {a z l : Int} (hz : 0 < z) (ha : 0 ≤ a) : a / z < l ↔ 0 < l ∧ a / l + 1 ≤ z := by
  by_cases hl : 0 < l
  · rw [Int.ediv_lt_iff_lt_mul hz]
    have := Int.ediv_lt_iff_lt_mul (a := a) (b := z) (c := l) hl
    rw [Int.mul_comm l z, ← this]
    omega
  · have := Int.ediv_nonneg ha (show 0 ≤ z by omega)
    omega
def Cd.deepS (k : Cd) (lo hi : Int) : Int × Int × Int :=
  if (if 0 < lo then imin k.p.fa (k.p.pw.1 / lo) else k.p.fa) < imax k.p.ne (k.p.pw.2 / (hi + 1) + 1) then (0, 0, 4) else (imax k.p.ne (k.p.pw.2 / (hi + 1) + 1), (if 0 < lo then imin k.p.fa (k.p.pw.1 / lo) else k.p.fa), 0)
theorem deep1_ok (k : Cd) (mb bl bn i : Nat) (w : World) (hT : TsA k.p.l (.slice k.sp k.p.l.length k.cap) w) (hbl : Box w bl (k.lk mb) 71) (hbn : Box w bn [.int .i64 k.p.ne] 3) (hi : i < 2000000000) (hne : 0 ≤ k.p.ne ∧ k.p.ne ≤ 2000000000) {x y e : Int} (h : k.p.stands (k.p.ne + i) = (x, y, e)) :
    Calls Tryz.prog 100 #[.int .i64 (i : Nat), .pointer (some ⟨bl, 0, none⟩), .pointer (some ⟨bn, 0, none⟩)] w fun e' w' => e' = .returned (.agg #[.int .i64 x, .int .i64 y]) ∧ Below w.heap.size w w' := by
  have HT := Lib.hid (fun (W : World) (hb : Below w.heap.size w W) => hT.below rfl hb)
  have HS := Lib.hid h
  have HBL := Lib.hid (hbl.grow (Gr.alloc w (.cells #[.int .i64 0, .int .i64 0] 23)))
  have c0 := hbn.cell (i := 0) rfl
  have cl := hbn.lt
  clear hT hbl hbn h
  go_enter Tryz.func100, Tryz.ntmps100
  go_wp2_with (with_reducible refine wsl (ty := 26) rfl ?_; unfold Stop; refine wpList_loadPart row26 rfl (HBL.out) (Cd.part k mb) rfl rfl rfl ?_)
  refine (stands_is (p := k.p) (v := .slice k.sp k.p.l.length k.cap) HS.out (HT.out _ ((Below.refl _ _).alloc (Nat.le_refl _) _))).mono ?_
  rintro e w1 ⟨rfl, hb1⟩
  have HG := Lib.hid (show Gr w w1 from (Gr.alloc _ _).tr hb1)
  have hR := (Box.fresh w [.int .i64 0, .int .i64 0] 23).grow hb1
  have r0 := hR.cell (i := 0) rfl
  have r1 := hR.cell (i := 1) rfl
  have rf := hR.free
  have rl := hR.lt
  have HR := Lib.hid hR
  clear hb1 hR c0
  go_wp2
  have hR2 : Box (((w1.setCell ⟨w.heap.size, 0, none⟩ (.int .i64 x)).setCell ⟨w.heap.size, 1, none⟩ (.int .i64 y)).alloc (.cells #[.int .i64 x, .int .i64 y] 23)) w.heap.size [.int .i64 x, .int .i64 y] 23 := ((HR.out.put 0 _).put 1 _).grow (Gr.alloc _ _)
  have q0 := hR2.cell (i := 0) rfl
  have q1 := hR2.cell (i := 1) rfl
  have hB : Below w.heap.size w w1 := HG.out
  have hs := hB.size
  exact bodyPost_ret (v := .agg #[.int .i64 x, .int .i64 y]) (by simp [results, Tryz.results100, go_sem, q0, q1]) rfl ⟨rfl, ((hB.setCell (by simp) _).setCell (by simp) _).alloc (by simp; omega) _⟩
theorem deep_hi (k : Cd) (mb bl bn bs br i : Nat) (rlo rhi : Int) (w : World) (hT : TsA k.p.l (.slice k.sp k.p.l.length k.cap) w) (hbl : Box w bl (k.lk mb) 71) (hbn : Box w bn [.int .i64 k.p.ne] 3) (hbs : Box w bs [.func (.func 100) #[] #[.pointer (some ⟨bl, 0, none⟩), .pointer (some ⟨bn, 0, none⟩)]] 139) (hbr : Box w br [.int .i64 rlo, .int .i64 rhi] 23) (hi : i < 2000000000) (hne : 0 ≤ k.p.ne ∧ k.p.ne ≤ 2000000000) {x y e : Int} (h : k.p.stands (k.p.ne + i) = (x, y, e)) :
    Calls Tryz.prog 102 #[.int .i64 (i : Nat), .pointer (some ⟨bs, 0, none⟩), .pointer (some ⟨br, 0, none⟩)] w fun e' w' => e' = .returned (.bool (decide (y ≤ rhi))) ∧ Below w.heap.size w w' := by
  have HD := Lib.hid (fun W (hg : Gr w W) => deep1_ok k mb bl bn i W (TsA.lasts _ _ _ _ hT hg) (hbl.grow hg) (hbn.grow hg) hi hne h)
  have hfd0 := @fld23_0
  have hfd1 := @fld23_1
  have s0 := hbs.cell (i := 0) rfl
  have sl := hbs.lt
  have r0 := hbr.cell (i := 1) rfl
  have rl := hbr.lt
  clear hT hbl hbn hbs hbr h
  go_enter Tryz.func102, Tryz.ntmps102
  go_wp2
  refine region2 7 ?_ ?_ ?_
  · kernel_rfl
  · kernel_rfl
  simp only [List.take_succ_cons, List.take_zero, List.drop_succ_cons, List.drop_zero]
  apply ceq (D := [(1, none)]) rfl (by kernel_rfl)
  · intro ρ W ⟨p1,p2,p3⟩ hG hF K hK; (try simp [FD] at hF); have ⟨hc, hf, hz⟩ := bdr hG; go_simp; exact hK _ gv
  apply ceq (D := [(0, none)]) rfl (by kernel_rfl)
  · intro ρ W ⟨p1,p2,p3⟩ hG hF K hK; (try simp [FD] at hF); have ⟨hc, hf, hz⟩ := bdr hG; go_simp; exact hK _ gv
  apply ceq (D := [(5, some 1), (6, some 0)]) rfl (by kernel_rfl)
  · intro ρ W ⟨p1,p2,p3⟩ hG hF K hK; (try simp [FD] at hF); have ⟨hc, hf, hz⟩ := bdr hG; go_simp; exact hK _ (gc (HD.out _ ((Gr.drew _).tr hG)))
  apply ceq (D := [(7, some 0)]) rfl (by kernel_rfl)
  · intro ρ W ⟨p1,p2,p3⟩ hG hF K hK; (try simp [FD] at hF); have ⟨hc, hf, hz⟩ := bdr hG; go_simp; exact hK _ gv
  apply ceq (D := [(2, none)]) rfl (by kernel_rfl)
  · intro ρ W ⟨p1,p2,p3⟩ hG hF K hK; (try simp [FD] at hF); have ⟨hc, hf, hz⟩ := bdr hG; go_simp; exact hK _ gv
  apply ceq (D := [(9, some 0)]) rfl (by kernel_rfl)
  · intro ρ W ⟨p1,p2,p3⟩ hG hF K hK; (try simp [FD] at hF); have ⟨hc, hf, hz⟩ := bdr hG; go_simp; exact hK _ gv
  apply ceq (D := [(8, some 2), (10, some 0)]) rfl (by kernel_rfl)
  · intro ρ W ⟨p1,p2,p3⟩ hG hF K hK; (try simp [FD] at hF); have ⟨hc, hf, hz⟩ := bdr hG; go_simp; exact hK _ gv
  refine cdn ?_
  intro vs W hG hV
  obtain ⟨e6, -⟩ := hV
  simp only [Nat.reduceSub] at e6
  simp only [lay, Act.put, List.getElem?_toArray, List.getElem?_cons_succ, List.getElem?_cons_zero, Option.bind_some, List.setIfInBounds_toArray, List.set_cons_succ, List.set_cons_zero]
  generalize vs 0 = v0, vs 1 = v1, vs 2 = v2, vs 3 = v3, vs 4 = v4, vs 5 = v5
  generalize vs 6 = v6 at *
  subst e6
  obtain ⟨hc, hf, hz⟩ := bcell hG
  go_wp2
  go_ret
  exact ⟨rfl, hG⟩
theorem deep_lo (k : Cd) (mb bl bn bs br i : Nat) (rlo rhi : Int) (w : World) (hT : TsA k.p.l (.slice k.sp k.p.l.length k.cap) w) (hbl : Box w bl (k.lk mb) 71) (hbn : Box w bn [.int .i64 k.p.ne] 3) (hbs : Box w bs [.func (.func 100) #[] #[.pointer (some ⟨bl, 0, none⟩), .pointer (some ⟨bn, 0, none⟩)]] 139) (hbr : Box w br [.int .i64 rlo, .int .i64 rhi] 23) (hi : i < 2000000000) (hne : 0 ≤ k.p.ne ∧ k.p.ne ≤ 2000000000) {x y e : Int} (h : k.p.stands (k.p.ne + i) = (x, y, e)) :
    Calls Tryz.prog 103 #[.int .i64 (i : Nat), .pointer (some ⟨bs, 0, none⟩), .pointer (some ⟨br, 0, none⟩)] w fun e' w' => e' = .returned (.bool (decide (x < rlo))) ∧ Below w.heap.size w w' := by
  have HD := Lib.hid (fun W (hg : Gr w W) => deep1_ok k mb bl bn i W (TsA.lasts _ _ _ _ hT hg) (hbl.grow hg) (hbn.grow hg) hi hne h)
  have hfd0 := @fld23_0
  have hfd1 := @fld23_1
  have s0 := hbs.cell (i := 0) rfl
  have sl := hbs.lt
  have r0 := hbr.cell (i := 0) rfl
  have rl := hbr.lt
  clear hT hbl hbn hbs hbr h
  go_enter Tryz.func103, Tryz.ntmps103
  go_wp2
  refine region2 7 ?_ ?_ ?_
  · kernel_rfl
  · kernel_rfl
  simp only [List.take_succ_cons, List.take_zero, List.drop_succ_cons, List.drop_zero]
  apply ceq (D := [(1, none)]) rfl (by kernel_rfl)
  · intro ρ W ⟨p1,p2,p3⟩ hG hF K hK; (try simp [FD] at hF); have ⟨hc, hf, hz⟩ := bdr hG; go_simp; exact hK _ gv
  apply ceq (D := [(0, none)]) rfl (by kernel_rfl)
  · intro ρ W ⟨p1,p2,p3⟩ hG hF K hK; (try simp [FD] at hF); have ⟨hc, hf, hz⟩ := bdr hG; go_simp; exact hK _ gv
  apply ceq (D := [(5, some 1), (6, some 0)]) rfl (by kernel_rfl)
  · intro ρ W ⟨p1,p2,p3⟩ hG hF K hK; (try simp [FD] at hF); have ⟨hc, hf, hz⟩ := bdr hG; go_simp; exact hK _ (gc (HD.out _ ((Gr.drew _).tr hG)))
  apply ceq (D := [(7, some 0)]) rfl (by kernel_rfl)
  · intro ρ W ⟨p1,p2,p3⟩ hG hF K hK; (try simp [FD] at hF); have ⟨hc, hf, hz⟩ := bdr hG; go_simp; exact hK _ gv
  apply ceq (D := [(2, none)]) rfl (by kernel_rfl)
  · intro ρ W ⟨p1,p2,p3⟩ hG hF K hK; (try simp [FD] at hF); have ⟨hc, hf, hz⟩ := bdr hG; go_simp; exact hK _ gv
  apply ceq (D := [(9, some 0)]) rfl (by kernel_rfl)
  · intro ρ W ⟨p1,p2,p3⟩ hG hF K hK; (try simp [FD] at hF); have ⟨hc, hf, hz⟩ := bdr hG; go_simp; exact hK _ gv
  apply ceq (D := [(8, some 2), (10, some 0)]) rfl (by kernel_rfl)
  · intro ρ W ⟨p1,p2,p3⟩ hG hF K hK; (try simp [FD] at hF); have ⟨hc, hf, hz⟩ := bdr hG; go_simp; exact hK _ gv
  refine cdn ?_
  intro vs W hG hV
  obtain ⟨e6, -⟩ := hV
  simp only [Nat.reduceSub] at e6
  simp only [lay, Act.put, List.getElem?_toArray, List.getElem?_cons_succ, List.getElem?_cons_zero, Option.bind_some, List.setIfInBounds_toArray, List.set_cons_succ, List.set_cons_zero]
  generalize vs 0 = v0, vs 1 = v1, vs 2 = v2, vs 3 = v3, vs 4 = v4, vs 5 = v5
  generalize vs 6 = v6 at *
  subst e6
  obtain ⟨hc, hf, hz⟩ := bcell hG
  go_wp2
  go_ret
  exact ⟨rfl, hG⟩
theorem deep_math {ne fa plo phi lo hi : Int} {m1 m2 n : Nat} (hn : (n : Int) = fa - ne + 1) (hne : 0 < ne) (hp : 0 ≤ plo) (hh : 0 ≤ hi)
    (h1 : m1 ≤ n) (h1a : ∀ i, i < m1 → decide (phi / (ne + (i : Nat)) ≤ hi) = false) (h1b : ∀ i, m1 ≤ i → i < n → decide (phi / (ne + (i : Nat)) ≤ hi) = true)
    (h2 : m2 ≤ n) (h2a : ∀ i, i < m2 → decide (plo / (ne + (i : Nat)) < lo) = false) (h2b : ∀ i, m2 ≤ i → i < n → decide (plo / (ne + (i : Nat)) < lo) = true) :
    (m2 ≤ m1 → (if 0 < lo then imin fa (plo / lo) else fa) < imax ne (phi / (hi + 1) + 1)) ∧ (m1 < m2 → (if 0 < lo then imin fa (plo / lo) else fa) = ne + m2 - 1 ∧ imax ne (phi / (hi + 1) + 1) = ne + m1) := by
  have a1 : ∀ i : Nat, i < m1 → ¬ phi / (hi + 1) + 1 ≤ ne + i := fun i hi' => by
    have := h1a i hi'
    rw [decide_eq_false_iff_not, div_le_iff (by omega) hh] at this
    exact this
  have b1 : ∀ i : Nat, m1 ≤ i → i < n → phi / (hi + 1) + 1 ≤ ne + i := fun i h h' => by
    have := h1b i h h'
    rw [decide_eq_true_eq, div_le_iff (by omega) hh] at this
    exact this
  have a2 : ∀ i : Nat, i < m2 → ¬ (0 < lo ∧ plo / lo + 1 ≤ ne + i) := fun i hi' => by
    have := h2a i hi'
    rw [decide_eq_false_iff_not, div_lt_iff (by omega) hp] at this
    exact this
  have b2 : ∀ i : Nat, m2 ≤ i → i < n → 0 < lo ∧ plo / lo + 1 ≤ ne + i := fun i h h' => by
    have := h2b i h h'
    rw [decide_eq_true_eq, div_lt_iff (by omega) hp] at this
    exact this
  generalize phi / (hi + 1) = q at *
  generalize plo / lo = r at *
  have e1 : m1 = 0 ∨ ne + (m1 : Int) < q + 2 := by
    rcases Nat.eq_zero_or_pos m1 with h | h
    · exact .inl h
    · have := a1 (m1 - 1) (by omega); right; omega
  have e2 : m1 = n ∨ q + 1 ≤ ne + m1 := by
    rcases Nat.lt_or_ge m1 n with h | h
    · exact .inr (b1 m1 (Nat.le_refl _) h)
    · left; omega
  have e3 : m2 = 0 ∨ ¬ (0 < lo ∧ r + 1 ≤ ne + m2 - 1) := by
    rcases Nat.eq_zero_or_pos m2 with h | h
    · exact .inl h
    · have := a2 (m2 - 1) (by omega); right; omega
  have e4 : m2 = n ∨ (0 < lo ∧ r + 1 ≤ ne + m2) := by
    rcases Nat.lt_or_ge m2 n with h | h
    · exact .inr (b2 m2 (Nat.le_refl _) h)
    · left; omega
  clear a1 b1 a2 b2 h1a h1b h2a h2b
  unfold imin imax
  constructor
  · intro h
    split <;> (repeat' split) <;> omega
  · intro h
    constructor
    · split <;> (repeat' split) <;> omega
    · split <;> omega
theorem div_anti {a x y : Int} (ha : 0 ≤ a) (hx : 0 < x) (hxy : x ≤ y) : a / y ≤ a / x := by
  refine Int.le_ediv_of_mul_le hx ?_
  have h1 : a / y * x ≤ a / y * y := Int.mul_le_mul_of_nonneg_left hxy (Int.ediv_nonneg ha (by omega))
  have h2 : a / y * y ≤ a := Int.ediv_mul_le a (by omega)
  omega
def DeepPost (k : Cd) (lo hi : Int) (w : World) (e : Ending) (w' : World) : Prop := e = .returned (.tuple #[.agg #[.int .i64 (k.deepS lo hi).1, .int .i64 (k.deepS lo hi).2.1], .int .i64 (k.deepS lo hi).2.2]) ∧ Below w.heap.size w w'
theorem depths_ok (k : Cd) (mb : Nat) (lo hi : Int) (hok : k.p.ok = true) (hpw : k.p.pw.1 ≤ k.p.pw.2) (hlo : 0 ≤ lo ∧ lo ≤ 10000) (hhi : 0 ≤ hi ∧ hi ≤ 10000) (w : World) (hT : TsA k.p.l (.slice k.sp k.p.l.length k.cap) w) :
    Calls Tryz.prog 64 #[.agg (k.lk mb).toArray, .agg #[.int .i64 lo, .int .i64 hi]] w (DeepPost k lo hi w) := by
  have hbd := k.p.bounds hok
  have hin := k.p.pw_in hok
  have hne0 := hbd.ne0
  have hne1 := hbd.ne1
  have hfa1 := hbd.fa1
  have HPW := Lib.hid hpw
  have hstands : ∀ i : Nat, i < (k.p.fa - k.p.ne + 1).toNat → k.p.stands (k.p.ne + i) = (k.p.pw.1 / (k.p.ne + i), k.p.pw.2 / (k.p.ne + i), 0) := fun i hi' => by
    unfold Pr.stands
    rw [hok, if_pos rfl, if_pos (by omega), if_pos hpw]
  have HST := Lib.hid hstands
  have HT := Lib.hid hT
  clear hbd hstands hT hpw
  have hl : (k.lk mb).length = 18 := rfl
  have e5 : ∀ h : 5 < (k.lk mb).length, (k.lk mb)[5] = .int .i64 k.p.ne := fun _ => rfl
  have e6 : ∀ h : 6 < (k.lk mb).length, (k.lk mb)[6] = .int .i64 k.p.fa := fun _ => rfl
  have hmf : ∀ (fn : Fn) (first cap : Array Value) (w : World), (Instr.makeFunc fn first cap).run Tryz.prog w = .ok (.func fn first cap) w := fun _ _ _ _ => rfl
  go_enter Tryz.func64, Tryz.ntmps64
  go_wp2
  obtain ⟨n, hn⟩ : ∃ n : Nat, k.p.fa - k.p.ne + 1 = n := ⟨(k.p.fa - k.p.ne + 1).toNat, by omega⟩
  have hn2 : n ≤ 1073741824 := by omega
  have HN := Lib.hid hn
  clear hn
  go_region
  rw [HN.out]
  go_wp2_with fail
  obtain ⟨W0, hW0⟩ : ∃ W0, W0 = (((((w.alloc (Obj.cells (k.lk mb).toArray 71)).alloc (Obj.cells #[.int .i64 lo, .int .i64 hi] 23)).alloc (Obj.cells #[.int .i64 0, .int .i64 0] 23)).alloc (Obj.cells #[.int .i64 k.p.ne] 3)).alloc (Obj.cells #[.func (.func 100) #[] #[.pointer (some ⟨w.heap.size, 0, none⟩), .pointer (some ⟨w.heap.size + 1 + 1 + 1, 0, none⟩)]] 139)).drew := ⟨_, rfl⟩
  have hBl : Box W0 (w.heap.size) (k.lk mb) 71 := by
    have := ((((((Box.fresh w (k.lk mb) 71).grow (Gr.alloc _ (Obj.cells #[.int .i64 lo, .int .i64 hi] 23))).grow (Gr.alloc _ (Obj.cells #[.int .i64 0, .int .i64 0] 23))).grow (Gr.alloc _ (Obj.cells #[.int .i64 k.p.ne] 3))).grow (Gr.alloc _ (Obj.cells #[.func (.func 100) #[] #[.pointer (some ⟨w.heap.size, 0, none⟩), .pointer (some ⟨w.heap.size + 1 + 1 + 1, 0, none⟩)]] 139))).grow (Gr.drew _))
    rw [hW0]
    simpa using this
  have hBr : Box W0 (w.heap.size + 1) [.int .i64 lo, .int .i64 hi] 23 := by
    have := (((((Box.fresh (w.alloc (Obj.cells (k.lk mb).toArray 71)) [.int .i64 lo, .int .i64 hi] 23).grow (Gr.alloc _ (Obj.cells #[.int .i64 0, .int .i64 0] 23))).grow (Gr.alloc _ (Obj.cells #[.int .i64 k.p.ne] 3))).grow (Gr.alloc _ (Obj.cells #[.func (.func 100) #[] #[.pointer (some ⟨w.heap.size, 0, none⟩), .pointer (some ⟨w.heap.size + 1 + 1 + 1, 0, none⟩)]] 139))).grow (Gr.drew _))
    rw [hW0]
    simpa using this
  have hBo : Box W0 (w.heap.size + 1 + 1) [.int .i64 0, .int .i64 0] 23 := by
    have := ((((Box.fresh ((w.alloc (Obj.cells (k.lk mb).toArray 71)).alloc (Obj.cells #[.int .i64 lo, .int .i64 hi] 23)) [.int .i64 0, .int .i64 0] 23).grow (Gr.alloc _ (Obj.cells #[.int .i64 k.p.ne] 3))).grow (Gr.alloc _ (Obj.cells #[.func (.func 100) #[] #[.pointer (some ⟨w.heap.size, 0, none⟩), .pointer (some ⟨w.heap.size + 1 + 1 + 1, 0, none⟩)]] 139))).grow (Gr.drew _))
    rw [hW0]
    simpa using this
  have hBn : Box W0 (w.heap.size + 1 + 1 + 1) [.int .i64 k.p.ne] 3 := by
    have := (((Box.fresh (((w.alloc (Obj.cells (k.lk mb).toArray 71)).alloc (Obj.cells #[.int .i64 lo, .int .i64 hi] 23)).alloc (Obj.cells #[.int .i64 0, .int .i64 0] 23)) [.int .i64 k.p.ne] 3).grow (Gr.alloc _ (Obj.cells #[.func (.func 100) #[] #[.pointer (some ⟨w.heap.size, 0, none⟩), .pointer (some ⟨w.heap.size + 1 + 1 + 1, 0, none⟩)]] 139))).grow (Gr.drew _))
    rw [hW0]
    simpa using this
  have hBs : Box W0 (w.heap.size + 1 + 1 + 1 + 1) [.func (.func 100) #[] #[.pointer (some ⟨w.heap.size, 0, none⟩), .pointer (some ⟨w.heap.size + 1 + 1 + 1, 0, none⟩)]] 139 := by
    have := ((Box.fresh ((((w.alloc (Obj.cells (k.lk mb).toArray 71)).alloc (Obj.cells #[.int .i64 lo, .int .i64 hi] 23)).alloc (Obj.cells #[.int .i64 0, .int .i64 0] 23)).alloc (Obj.cells #[.int .i64 k.p.ne] 3)) [.func (.func 100) #[] #[.pointer (some ⟨w.heap.size, 0, none⟩), .pointer (some ⟨w.heap.size + 1 + 1 + 1, 0, none⟩)]] 139).grow (Gr.drew _))
    rw [hW0]
    simpa using this
  have hG0 : Gr w W0 := by
    rw [hW0]
    exact (((((Gr.alloc _ (Obj.cells (k.lk mb).toArray 71)).tr (Gr.alloc _ (Obj.cells #[.int .i64 lo, .int .i64 hi] 23))).tr (Gr.alloc _ (Obj.cells #[.int .i64 0, .int .i64 0] 23))).tr (Gr.alloc _ (Obj.cells #[.int .i64 k.p.ne] 3))).tr (Gr.alloc _ (Obj.cells #[.func (.func 100) #[] #[.pointer (some ⟨w.heap.size, 0, none⟩), .pointer (some ⟨w.heap.size + 1 + 1 + 1, 0, none⟩)]] 139))).tr (Gr.drew _)
  rw [← hW0]
  clear hW0
  have hnn := HN.out
  have hst := HST.out
  have HA := Lib.hid (fun i W (hi' : i < n) (hg : Gr W0 W) => deep_hi k mb w.heap.size (w.heap.size + 1 + 1 + 1) (w.heap.size + 1 + 1 + 1 + 1) (w.heap.size + 1) i lo hi W (TsA.lasts _ _ _ _ HT.out (hG0.tr hg)) (hBl.grow hg) (hBn.grow hg) (hBs.grow hg) (hBr.grow hg) (by omega) (by omega) (hst i (by omega)))
  have HB := Lib.hid (fun i W (hi' : i < n) (hg : Gr W0 W) => deep_lo k mb w.heap.size (w.heap.size + 1 + 1 + 1) (w.heap.size + 1 + 1 + 1 + 1) (w.heap.size + 1) i lo hi W (TsA.lasts _ _ _ _ HT.out (hG0.tr hg)) (hBl.grow hg) (hBn.grow hg) (hBs.grow hg) (hBr.grow hg) (by omega) (by omega) (hst i (by omega)))
  have HG0 := Lib.hid hG0
  have HO := Lib.hid hBo
  have HBN := Lib.hid hBn
  have plo0 : 0 ≤ k.p.pw.1 := by omega
  have phi0 : 0 ≤ k.p.pw.2 := by have := HPW.out; omega
  clear hBl hBr hBo hBn hBs hG0 hst hnn
  refine (search_102 n (fun i => decide (k.p.pw.2 / (k.p.ne + (i : Nat)) ≤ hi)) _ _ W0 (by omega) (fun i j hij h => by
    have := div_anti (a := k.p.pw.2) (x := k.p.ne + (i : Nat)) (y := k.p.ne + (j : Nat)) phi0 (by omega) (by omega)
    simp only [decide_eq_true_eq] at h ⊢
    omega) (fun i W h hg => HA.out i W h hg)).mono ?_
  rintro e w1 ⟨m1, rfl, h1, h1a, h1b, hb1⟩
  have HG1 := Lib.hid (show Gr W0 w1 from hb1)
  have H1A := Lib.hid h1a
  have H1B := Lib.hid h1b
  clear h1a h1b hb1
  go_wp2_with fail
  refine (search_103 n (fun i => decide (k.p.pw.1 / (k.p.ne + (i : Nat)) < lo)) _ _ w1 (by omega) (fun i j hij h => by
    have := div_anti (a := k.p.pw.1) (x := k.p.ne + (i : Nat)) (y := k.p.ne + (j : Nat)) plo0 (by omega) (by omega)
    simp only [decide_eq_true_eq] at h ⊢
    omega) (fun i W h hg => HB.out i W h (HG1.out.tr hg))).mono ?_
  rintro e w2 ⟨m2, rfl, h2, h2a, h2b, hb2⟩
  have HG2 := Lib.hid (HG1.out.tr hb2)
  have hmath := deep_math (fa := k.p.fa) HN.out.symm (by omega) plo0 hhi.1 h1 H1A.out H1B.out h2 h2a h2b
  have HMA := Lib.hid hmath
  have hO2 := HO.out.grow HG2.out
  have o0 := hO2.cell (i := 0) rfl
  have o1 := hO2.cell (i := 1) rfl
  have of := hO2.free
  have ol := hO2.lt
  have hN2 := HBN.out.grow HG2.out
  have n0 := hN2.cell (i := 0) rfl
  have nl := hN2.lt
  have HO2 := Lib.hid hO2
  clear h2a h2b hb2 hmath hO2 hN2
  have hB2 : Below w.heap.size w w2 := HG0.out.tr HG2.out
  have HB2 := Lib.hid hB2
  clear hB2
  by_cases hle : m2 ≤ m1
  · have hd := HMA.out.1 hle
    have hdp : k.deepS lo hi = (0, 0, 4) := by unfold Cd.deepS; rw [if_pos hd]
    have HDP := Lib.hid hdp
    clear hd hdp
    go_wp2
    have hR := (HO2.out.put 0 (.int .i64 0)).put 1 (.int .i64 0)
    have q0 := hR.cell (i := 0) rfl
    have q1 := hR.cell (i := 1) rfl
    refine bodyPost_ret (v := .tuple #[.agg #[.int .i64 0, .int .i64 0], .int .i64 4]) (by simp [results, Tryz.results64, go_sem, q0, q1]) rfl ⟨?_, (HB2.out.setCell (by simp; omega) _).setCell (by simp; omega) _⟩
    rw [HDP.out]
  · have hlt : m1 < m2 := by omega
    obtain ⟨hd1, hd2⟩ := HMA.out.2 hlt
    have hdp : k.deepS lo hi = (k.p.ne + m1, k.p.ne + m2 - 1, 0) := by
      unfold Cd.deepS
      rw [hd1, hd2, if_neg (by omega)]
    have HDP := Lib.hid hdp
    clear hd1 hd2 hdp
    go_wp2_with fail
    refine (mspan_any _ _ _).mono ?_
    rintro e w3 ⟨rfl, hb3⟩
    have hO3 := HO2.out.grow hb3
    have o0 := hO3.cell (i := 0) rfl
    have o1 := hO3.cell (i := 1) rfl
    have of := hO3.free
    have ol := hO3.lt
    have HO3 := Lib.hid hO3
    have HB3 := Lib.hid (bgr HB2.out HB2.out.size hb3)
    clear hO3 hb3
    go_wp2
    have hR := (HO3.out.put 0 (.int .i64 (k.p.ne + m1))).put 1 (.int .i64 (k.p.ne + m2 - 1))
    have q0 := hR.cell (i := 0) rfl
    have q1 := hR.cell (i := 1) rfl
    refine bodyPost_ret (v := .tuple #[.agg #[.int .i64 (k.p.ne + m1), .int .i64 (k.p.ne + m2 - 1)], .int .i64 0]) (by simp [results, Tryz.results64, go_sem, q0, q1]) rfl ⟨?_, (HB3.out.setCell (by simp; omega) _).setCell (by simp; omega) _⟩
    rw [HDP.out]
end Go.Proofs.YtcngaohfemdfjaaGreat
