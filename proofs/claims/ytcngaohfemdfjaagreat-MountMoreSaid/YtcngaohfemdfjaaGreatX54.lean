import Derived.Test.YtcngaohfemdfjaaGreatY34
import Derived.Test.YtcngaohfemdfjaaGreatY33
import Derived.Test.YtcngaohfemdfjaaGreatX53
import Derived.Test.YtcngaohfemdfjaaGreatXg
import Derived.RegionTactic
import Derived.Deep.CutBlock
import Derived.Deep.DeepCutAuto
set_option linter.unusedVariables false
set_option linter.unusedSimpArgs false
namespace Go.Proofs.YtcngaohfemdfjaaGreat
open Go.RowKit
theorem mspanin_any (a b c d : Int) (w : World) :
    Calls Tryz.prog 40 #[.agg #[.int .i64 a, .int .i64 b], .agg #[.int .i64 c, .int .i64 d]] w fun e w' => e = .returned (.bool (decide (c ≤ a) && decide (b ≤ d))) ∧ Below w.heap.size w w' := by
  by_cases h : c ≤ a
  · have h' : decide (c ≤ a) = true := by simpa using h
    go_enter Tryz.func40, Tryz.ntmps40
    go_wp2
    exact bodyPost_ret (v := .bool (decide (b ≤ d))) (by simp [results, Tryz.results40, go_sem]) rfl ⟨by simp [h], (Gr.alloc _ _).tr (Gr.alloc _ _)⟩
  · have h' : decide (c ≤ a) = false := by simpa using h
    go_enter Tryz.func40, Tryz.ntmps40
    go_wp2
    exact bodyPost_ret (v := .bool false) (by simp [results, Tryz.results40, go_sem]) rfl ⟨by simp [h], (Gr.alloc _ _).tr (Gr.alloc _ _)⟩
set_option maxRecDepth 100000 in
set_option maxHeartbeats 2000000 in
theorem mmore_many (k : Cd) (u : Cu) (z : Int) (w : World) (hl : 40 < k.p.l.length) :
    Calls Tryz.prog 10 #[.agg k.cs.toArray, u.val, .int .u8 z] w fun e w' => e = .returned (.bool true) ∧ Below w.heap.size w w' := by
  have d : decide (40 < (k.p.l.length : Int)) = true := by simp; omega
  have d' : decide (40 < k.p.l.length) = true := by simp; omega
  clear hl
  have p7 : ∀ h : 7 < k.cs.length, k.cs[7] = .slice k.sp k.p.l.length k.cap := fun _ => rfl
  have p10 : ∀ h : 10 < k.cs.length, k.cs[10] = .int .i64 k.cuts := fun _ => rfl
  have hl : k.cs.length = 17 := rfl
  unfold Cu.val
  go_enter Tryz.func10, Tryz.ntmps10
  go_wp2_with fail
  refine (awake_any _).mono ?_
  rintro e wz ⟨rfl, hbz⟩
  go_wp2
  exact bodyPost_ret (v := .bool true) (by simp [results, Tryz.results10, go_sem]) rfl ⟨rfl, Gr.tr ((Gr.alloc _ _).tr (Gr.alloc _ _)) hbz⟩
set_option maxRecDepth 100000 in
set_option maxHeartbeats 2000000 in
theorem mmore_card (k : Cd) (u : Cu) (z : Int) (w : World) (hl : k.p.l.length ≤ 40) (hT : ThingsAt k.p.l (.slice k.sp k.p.l.length k.cap) w) (hc : Hid ((k.okc && k.p.ok) = false)) :
    Calls Tryz.prog 10 #[.agg k.cs.toArray, u.val, .int .u8 z] w fun e w' => e = .returned (.bool true) ∧ Below w.heap.size w w' := by
  have d : decide (40 < (k.p.l.length : Int)) = false := by simp; omega
  have d' : decide (40 < k.p.l.length) = false := by simp; omega
  have HT := Lib.hid hT
  clear hl hT
  have p7 : ∀ h : 7 < k.cs.length, k.cs[7] = .slice k.sp k.p.l.length k.cap := fun _ => rfl
  have p10 : ∀ h : 10 < k.cs.length, k.cs[10] = .int .i64 k.cuts := fun _ => rfl
  have hl : k.cs.length = 17 := rfl
  have HB := Lib.hid (show Box ((w.alloc (Obj.cells k.cs.toArray 28)).alloc (Obj.cells #[.int .i64 u.a, .int .i64 u.b, .int .i64 u.c, .int .i64 u.d] 30)) w.heap.size k.cs 28 from (Box.fresh w k.cs 28).grow (Gr.alloc _ _))
  have HU := Lib.hid (show Box ((w.alloc (Obj.cells k.cs.toArray 28)).alloc (Obj.cells #[.int .i64 u.a, .int .i64 u.b, .int .i64 u.c, .int .i64 u.d] 30)) (w.heap.size + 1) [.int .i64 u.a, .int .i64 u.b, .int .i64 u.c, .int .i64 u.d] 30 by simpa using Box.fresh (w.alloc (Obj.cells k.cs.toArray 28)) [.int .i64 u.a, .int .i64 u.b, .int .i64 u.c, .int .i64 u.d] 30)
  have HG0 := Lib.hid (show Gr w ((w.alloc (Obj.cells k.cs.toArray 28)).alloc (Obj.cells #[.int .i64 u.a, .int .i64 u.b, .int .i64 u.c, .int .i64 u.d] 30)) from (Gr.alloc _ _).tr (Gr.alloc _ _))
  unfold Cu.val
  go_enter Tryz.func10, Tryz.ntmps10
  go_wp2_with (first | (with_reducible refine wpList_stopLoad (ty := 28) rfl ?_; unfold Stop; first | refine wpList_loadBox row28 rfl (HB.out) rfl rfl rfl ?_ | refine wpList_loadPartG row28 rfl (HB.out) (Cd.whole k) rfl rfl rfl ?_))
  refine (card_is (b := false) hc.out (ThingsAt.lasts _ _ _ _ HT.out HG0.out)).mono ?_
  rintro e w1 ⟨rfl, hb1⟩
  have HG1 := Lib.hid (HG0.out.tr hb1)
  have HB1 := Lib.hid (HB.out.grow hb1)
  have HU1 := Lib.hid (HU.out.grow hb1)
  clear hb1
  go_wp2_with fail
  refine (awake_any _).mono ?_
  rintro e wz ⟨rfl, hbz⟩
  go_wp2
  exact bodyPost_ret (v := .bool true) (by simp [results, Tryz.results10, go_sem]) rfl ⟨rfl, Gr.tr HG1.out hbz⟩
set_option maxRecDepth 100000 in
set_option maxHeartbeats 2000000 in
theorem mmore_cuts (k : Cd) (u : Cu) (z : Int) (w : World) (hl : k.p.l.length ≤ 40) (hT : ThingsAt k.p.l (.slice k.sp k.p.l.length k.cap) w) (hc : Hid ((k.okc && k.p.ok) = true)) (hn : 20 < k.cuts) :
    Calls Tryz.prog 10 #[.agg k.cs.toArray, u.val, .int .u8 z] w fun e w' => e = .returned (.bool true) ∧ Below w.heap.size w w' := by
  have d : decide (40 < (k.p.l.length : Int)) = false := by simp; omega
  have d' : decide (40 < k.p.l.length) = false := by simp; omega
  have y1 : decide (20 < k.cuts) = true := by simpa using hn
  have HT := Lib.hid hT
  clear hl hT
  have p7 : ∀ h : 7 < k.cs.length, k.cs[7] = .slice k.sp k.p.l.length k.cap := fun _ => rfl
  have p10 : ∀ h : 10 < k.cs.length, k.cs[10] = .int .i64 k.cuts := fun _ => rfl
  have hl : k.cs.length = 17 := rfl
  have HB := Lib.hid (show Box ((w.alloc (Obj.cells k.cs.toArray 28)).alloc (Obj.cells #[.int .i64 u.a, .int .i64 u.b, .int .i64 u.c, .int .i64 u.d] 30)) w.heap.size k.cs 28 from (Box.fresh w k.cs 28).grow (Gr.alloc _ _))
  have HU := Lib.hid (show Box ((w.alloc (Obj.cells k.cs.toArray 28)).alloc (Obj.cells #[.int .i64 u.a, .int .i64 u.b, .int .i64 u.c, .int .i64 u.d] 30)) (w.heap.size + 1) [.int .i64 u.a, .int .i64 u.b, .int .i64 u.c, .int .i64 u.d] 30 by simpa using Box.fresh (w.alloc (Obj.cells k.cs.toArray 28)) [.int .i64 u.a, .int .i64 u.b, .int .i64 u.c, .int .i64 u.d] 30)
  have HG0 := Lib.hid (show Gr w ((w.alloc (Obj.cells k.cs.toArray 28)).alloc (Obj.cells #[.int .i64 u.a, .int .i64 u.b, .int .i64 u.c, .int .i64 u.d] 30)) from (Gr.alloc _ _).tr (Gr.alloc _ _))
  unfold Cu.val
  go_enter Tryz.func10, Tryz.ntmps10
  go_wp2_with (first | (with_reducible refine wpList_stopLoad (ty := 28) rfl ?_; unfold Stop; first | refine wpList_loadBox row28 rfl (HB.out) rfl rfl rfl ?_ | refine wpList_loadPartG row28 rfl (HB.out) (Cd.whole k) rfl rfl rfl ?_))
  refine (card_is (b := true) hc.out (ThingsAt.lasts _ _ _ _ HT.out HG0.out)).mono ?_
  rintro e w1 ⟨rfl, hb1⟩
  have HG1 := Lib.hid (HG0.out.tr hb1)
  have HB1 := Lib.hid (HB.out.grow hb1)
  have HU1 := Lib.hid (HU.out.grow hb1)
  clear hb1
  have c10 := HB1.out.cell (i := 10) rfl
  have ccl := HB1.out.lt
  go_wp2_with fail
  refine (awake_any _).mono ?_
  rintro e wz ⟨rfl, hbz⟩
  go_wp2
  exact bodyPost_ret (v := .bool true) (by simp [results, Tryz.results10, go_sem]) rfl ⟨rfl, Gr.tr HG1.out hbz⟩
theorem vd_ends {k : Cd} (hk : k.okc = true) : (1 ≤ k.half ∧ k.half ≤ 4000) ∧ (1 ≤ k.step ∧ k.step ≤ 100) ∧ (0 ≤ k.cuts ∧ k.cuts ≤ 40) ∧ 1 ≤ k.elo ∧ k.elo ≤ k.ehi ∧ k.ehi ≤ 10000 ∧ (0 ≤ k.prism ∧ k.prism ≤ 10000) ∧ (0 ≤ k.squeeze ∧ k.squeeze ≤ 10000) ∧ (0 ≤ k.front ∧ k.front ≤ 10000) ∧ (0 ≤ k.deep ∧ k.deep ≤ 10000) := by
  unfold Cd.okc at hk
  have h0 := List.all_eq_true.1 hk 0 (by simp)
  have h1 := List.all_eq_true.1 hk 1 (by simp)
  have h2 := List.all_eq_true.1 hk 2 (by simp)
  have h3 := List.all_eq_true.1 hk 3 (by simp)
  have h4 := List.all_eq_true.1 hk 4 (by simp)
  have h5 := List.all_eq_true.1 hk 5 (by simp)
  have h6 := List.all_eq_true.1 hk 6 (by simp)
  have h7 := List.all_eq_true.1 hk 7 (by simp)
  have h8 := List.all_eq_true.1 hk 8 (by simp)
  have h9 := List.all_eq_true.1 hk 9 (by simp)
  simp [Cd.vd] at h0 h1 h2 h3 h4 h5 h6 h7 h8 h9
  omega
theorem vd_of {k : Cd} (h : (1 ≤ k.half ∧ k.half ≤ 4000) ∧ (1 ≤ k.step ∧ k.step ≤ 100) ∧ (0 ≤ k.cuts ∧ k.cuts ≤ 40) ∧ 1 ≤ k.elo ∧ k.elo ≤ k.ehi ∧ k.ehi ≤ 10000 ∧ (0 ≤ k.prism ∧ k.prism ≤ 10000) ∧ (0 ≤ k.squeeze ∧ k.squeeze ≤ 10000) ∧ (0 ≤ k.front ∧ k.front ≤ 10000) ∧ (0 ≤ k.deep ∧ k.deep ≤ 10000)) : k.okc = true := by
  unfold Cd.okc
  rw [List.all_eq_true]
  intro i hi
  have hi' := List.mem_range.1 hi
  match i, hi' with
  | 0, _ => simp [Cd.vd]; omega
  | 1, _ => simp [Cd.vd]; omega
  | 2, _ => simp [Cd.vd]; omega
  | 3, _ => simp [Cd.vd]; omega
  | 4, _ => simp [Cd.vd]; omega
  | 5, _ => simp [Cd.vd]; omega
  | 6, _ => simp [Cd.vd]; omega
  | 7, _ => simp [Cd.vd]; omega
  | 8, _ => simp [Cd.vd]; omega
  | 9, _ => simp [Cd.vd]; omega
theorem isT_leM {u : Cu} {m : Int} (h : u.isT m = true) : (0 ≤ u.a ∧ u.a ≤ m) ∧ (0 ≤ u.b ∧ u.b ≤ m) ∧ (0 ≤ u.c ∧ u.c ≤ m) ∧ (0 ≤ u.d ∧ u.d ≤ m) ∧ u.a + u.b = u.c + u.d := by
  unfold Cu.isT at h
  simp only [Bool.and_eq_true, decide_eq_true_eq] at h
  omega
/-- What both cards answer. -/
theorem more_ways {k x : Cd} (hk : k.okc = true) (hok : k.p.ok = true) (hxk : x.okc = true) (hL : k.Less x) (u : Cu) :
    (k.trimA = (⟨0, 0, 0, 0⟩, 4) ∧ x.trimA = (⟨0, 0, 0, 0⟩, 4)) ∨ ∃ t v e f, k.trimA = (t, e) ∧ x.trimA = (v, f) ∧ t.isT k.cuts = true ∧ v.isT k.cuts = true ∧ (e == 4) = false ∧ (f == 4) = false ∧
      ((f = 0 ∧ e = 0 ∧ decide (v.a + v.b + v.c + v.d < t.a + t.b + t.c + t.d) = false) ∨ f = 11) ∧
      (u.isT x.cuts = false ∨ (u.isT x.cuts = true ∧ k.err [u] = 0 ∧ x.err [u] = 0)) := by
  have hc0 := (okc_cuts hk).1
  have hz : (⟨0, 0, 0, 0⟩ : Cu).isT k.cuts = true := by
    unfold Cu.isT
    simp
    omega
  have he := hL.err hk hxk
  by_cases h : k.err [] = 0
  · right
    have hx : x.err [] = 0 := he.trans h
    have hlast : u.isT x.cuts = false ∨ (u.isT x.cuts = true ∧ k.err [u] = 0 ∧ x.err [u] = 0) := by
      cases hu : u.isT x.cuts with
      | false => exact .inl rfl
      | true => exact .inr ⟨rfl, err_cons h (isT_mono hu hL.cuts), err_cons hx hu⟩
    cases hxt : x.trim with
    | some v =>
      obtain ⟨t, ht, hs⟩ := hL.trim hxt
      exact ⟨t, v, 0, 0, by unfold Cd.trimA; rw [if_pos h, ht], by unfold Cd.trimA; rw [if_pos hx, hxt], (trim_is ht).1, isT_mono (trim_is hxt).1 hL.cuts, by simp, by simp, .inl ⟨rfl, rfl, by rw [decide_eq_false_iff_not]; omega⟩, hlast⟩
    | none =>
      cases ht : k.trim with
      | some t => exact ⟨t, ⟨0, 0, 0, 0⟩, 0, 11, by unfold Cd.trimA; rw [if_pos h, ht], by unfold Cd.trimA; rw [if_pos hx, hxt], (trim_is ht).1, hz, by simp, by simp, .inr rfl, hlast⟩
      | none => exact ⟨⟨0, 0, 0, 0⟩, ⟨0, 0, 0, 0⟩, 11, 11, by unfold Cd.trimA; rw [if_pos h, ht], by unfold Cd.trimA; rw [if_pos hx, hxt], hz, hz, by simp, by simp, .inr rfl, hlast⟩
  · left
    have h4 : k.err [] = 4 := by
      unfold Cd.err at h ⊢
      simp only [hok, hk] at h ⊢
      simp at h ⊢
      omega
    have hx4 : x.err [] = 4 := he.trans h4
    exact ⟨by unfold Cd.trimA; rw [if_neg h, h4], by unfold Cd.trimA; rw [if_neg (by omega), hx4]⟩
theorem mspanin_is {a b c d : Int} {v : Bool} {w : World} (h : (decide (c ≤ a) && decide (b ≤ d)) = v) :
    Calls Tryz.prog 40 #[.agg #[.int .i64 a, .int .i64 b], .agg #[.int .i64 c, .int .i64 d]] w fun e w' => e = .returned (.bool v) ∧ Below w.heap.size w w' := by
  rw [← h]; exact mspanin_any a b c d w
/-- What both cards answer of one trimming. -/
theorem more_answers {k x : Cd} (hL : k.Less x) (hok : k.p.ok = true) {u : Cu} (e1 : k.err [u] = 0) (e2 : x.err [u] = 0) :
    ∃ a1 a2 ae b1 b2 be r1 r2 re s1 s2 se d1 d2 de g1 g2 ge m1 m2 m o1 o2 oe, k.eyesA u = (a1, a2, ae) ∧ x.eyesA u = (b1, b2, be) ∧ k.roomA u = (r1, r2, re) ∧ x.roomA u = (s1, s2, se) ∧ k.deepA u = (d1, d2, de) ∧ x.deepA u = (g1, g2, ge) ∧ k.hurtsA u = (m1, m2, m) ∧ x.hurtsA u = (o1, o2, oe) ∧
      ((be != 0) = true ∨ ((be != 0) = false ∧ (ae == 0) = true ∧ (decide (a1 ≤ b1) && decide (b2 ≤ a2)) = true)) ∧
      ((se != 0) = true ∨ ((se != 0) = false ∧ (re == 0) = true ∧ (decide (r1 ≤ s1) && decide (s2 ≤ r2)) = true)) ∧
      ((ge != 0) = true ∨ ((ge != 0) = false ∧ (de == 0) = true ∧ (decide (d1 ≤ g1) && decide (g2 ≤ d2)) = true)) ∧
      ((oe != 0) = true ∨ ((oe != 0) = false ∧ (m == 0) = true)) := by
  refine ⟨(k.eyesA u).1, (k.eyesA u).2.1, (k.eyesA u).2.2, (x.eyesA u).1, (x.eyesA u).2.1, (x.eyesA u).2.2, (k.roomA u).1, (k.roomA u).2.1, (k.roomA u).2.2, (x.roomA u).1, (x.roomA u).2.1, (x.roomA u).2.2, (k.deepA u).1, (k.deepA u).2.1, (k.deepA u).2.2, (x.deepA u).1, (x.deepA u).2.1, (x.deepA u).2.2, (k.hurtsA u).1, (k.hurtsA u).2.1, (k.hurtsA u).2.2, (x.hurtsA u).1, (x.hurtsA u).2.1, (x.hurtsA u).2.2, rfl, rfl, rfl, rfl, rfl, rfl, rfl, rfl, ?_, ?_, ?_, ?_⟩
  · unfold Cd.eyesA
    rw [if_pos e1, if_pos e2]
    unfold Tm.eyes
    dsimp only
    rw [hL.p]
    have h := hL.eyes u (1, 10000) k.p.sees
    generalize (⟨k, 0, u⟩ : Tm).eyesTo (1, 10000) k.p.sees = A at *
    generalize (⟨x, 0, u⟩ : Tm).eyesTo (1, 10000) k.p.sees = B at *
    by_cases c : B.2 < B.1
    · left
      rw [if_pos c]
      simp
    · right
      rw [if_neg c, if_neg (by omega)]
      simp [h.1, h.2]
  · unfold Cd.roomA
    rw [if_pos e1, if_pos e2]
    unfold Tm.room
    have h1 := hL.rlo u
    have h2 := hL.rhi u
    by_cases c : (⟨x, 0, u⟩ : Tm).rhi < (⟨x, 0, u⟩ : Tm).rlo
    · left
      rw [if_pos c]
      simp
    · right
      rw [if_neg c, if_neg (by omega)]
      simp [h1, h2]
  · unfold Cd.deepA
    rw [if_pos e1, if_pos e2]
    have h1 := hL.rlo u
    have h2 := hL.rhi u
    have h0 : 0 ≤ (⟨k, 0, u⟩ : Tm).rlo := by unfold Tm.rlo imax; (repeat' split) <;> omega
    have hp := k.p.pw_in hok
    have hpw := (Cd.err_zero e1).2.2.2
    by_cases c : (⟨x, 0, u⟩ : Tm).rhi < (⟨x, 0, u⟩ : Tm).rlo
    · left
      have e : (⟨x, 0, u⟩ : Tm).room = (0, 0, 4) := by unfold Tm.room; rw [if_pos c]
      rw [e]
      simp
    · have e : (⟨x, 0, u⟩ : Tm).room = ((⟨x, 0, u⟩ : Tm).rlo, (⟨x, 0, u⟩ : Tm).rhi, 0) := by unfold Tm.room; rw [if_neg c]
      have e' : (⟨k, 0, u⟩ : Tm).room = ((⟨k, 0, u⟩ : Tm).rlo, (⟨k, 0, u⟩ : Tm).rhi, 0) := by unfold Tm.room; rw [if_neg (by omega)]
      rw [e, e']
      simp only [if_true]
      by_cases c2 : (x.deepS (⟨x, 0, u⟩ : Tm).rlo (⟨x, 0, u⟩ : Tm).rhi).2.2 = 0
      · right
        obtain ⟨g1, g2, g3⟩ := hL.deep_ok (by omega) (by omega) h0 h1 h2 (by omega) c2
        simp [c2, g1, g2, g3]
      · left
        simpa using c2
  · unfold Cd.hurtsA
    rw [if_pos e1, if_pos e2]
    by_cases c : (⟨x, 0, u⟩ : Tm).first x.p.sees = (0, 0)
    · right
      have hk : k.okT u = true := hL.okT (by unfold Cd.okT; simpa using c)
      unfold Cd.okT at hk
      rw [if_pos c, if_pos (by simpa using hk)]
      simp
    · left
      rw [if_neg c]
      simp
end Go.Proofs.YtcngaohfemdfjaaGreat
