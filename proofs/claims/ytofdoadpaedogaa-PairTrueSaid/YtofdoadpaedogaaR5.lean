import Derived.Test.YtofdoadpaedogaaR4
import Derived.Test.YtofdoadpaedogaaL0
namespace Go.Proofs.Ytofdoadpaedogaa
open Go.RowKit

theorem rpw_spw {p : Pr} (h : p.ok = true) {t : Th} (ht : t ∈ p.l) (hm : t.m = true) : rpw p.ti p.ne p.fa t = (t.see p.ti p.ne p.fa).spw ∨ ((rpw p.ti p.ne p.fa t) = (1, 0) ∧ (t.see p.ti p.ne p.fa).spw.2 < (t.see p.ti p.ne p.fa).spw.1) := by
  have hb := p.bounds h
  have hz : t.z ≠ 0 := by simpa [Th.m] using hm
  have hzz := (hb.things t ht).2
  have hne := hb.ne0
  have hw : (t.see p.ti p.ne p.fa).wit = .mark t.z := by simp [Th.see, Th.wit, hz]
  have hst : (t.see p.ti p.ne p.fa).st = ovl (t.a - t.f, t.b - t.e) (0, 2000) := rfl
  have hsl : (t.see p.ti p.ne p.fa).sl = !(decide (t.c ≤ t.h + p.ti) && decide (t.g ≤ t.d + p.ti)) := by
    show decide (p.ti < imax (t.c - t.h) (t.g - t.d)) = _
    rw [Bool.eq_iff_iff]
    simp only [decide_eq_true_eq, Bool.not_eq_true', Bool.and_eq_false_iff, decide_eq_false_iff_not]
    unfold imax; split <;> omega
  unfold rpw
  rw [if_neg hz, if_neg hz, ← hst]
  cases hl : (decide (t.c ≤ t.h + p.ti) && decide (t.g ≤ t.d + p.ti)) with
  | false =>
    left
    rw [if_neg (by simp)]
    unfold Sg.spw
    rw [hsl, hl]; rfl
  | true =>
    have e : (t.see p.ti p.ne p.fa).spw = ((t.see p.ti p.ne p.fa).st.1 * t.z, ((t.see p.ti p.ne p.fa).st.2 + 1) * t.z - 1) := by
      unfold Sg.spw Sg.pw
      rw [hsl, hl, hw]; rfl
    by_cases hs : (t.see p.ti p.ne p.fa).st.1 ≤ (t.see p.ti p.ne p.fa).st.2
    · left; rw [if_pos ⟨rfl, hs⟩, e]
    · right
      rw [if_neg (fun c => hs c.2), e]
      refine ⟨rfl, ?_⟩
      have : ((t.see p.ti p.ne p.fa).st.2 + 1) * t.z ≤ (t.see p.ti p.ne p.fa).st.1 * t.z := Int.mul_le_mul_of_nonneg_right (by omega) (by omega)
      simp only; omega
theorem Pr.rall_eq {p : Pr} (h : p.ok = true) : (p.rall.1 ≤ p.rall.2 ↔ p.pw.1 ≤ p.pw.2) ∧ (p.pw.1 ≤ p.pw.2 → p.rall = p.pw) := by
  by_cases H : ∀ t ∈ p.l, t.m = true → rpw p.ti p.ne p.fa t = (t.see p.ti p.ne p.fa).spw
  · have e : p.rall = p.pw := by
      rw [p.pw_eq]
      unfold Pr.rall rallTo
      congr 1
      rw [List.map_map]
      refine List.map_congr_left fun t ht => ?_
      have := List.mem_filter.1 ht
      exact H t this.1 this.2
    rw [e]; exact ⟨Iff.rfl, fun _ => rfl⟩
  · obtain ⟨t, ht⟩ := Classical.not_forall.1 H
    obtain ⟨h1, h2⟩ := Classical.not_imp.1 ht
    obtain ⟨h3, h4⟩ := Classical.not_imp.1 h2
    obtain ⟨h5, h6⟩ := (rpw_spw h h1 h3).resolve_left h4
    have a1 := ((p.pw1 p.pw.1).1 (Int.le_refl _)).2 t h1 h3
    have a2 := ((p.pw2 p.pw.2).1 (Int.le_refl _)).2 t h1 h3
    have hmem : rpw p.ti p.ne p.fa t ∈ (p.l.filter Th.m).map (rpw p.ti p.ne p.fa) := List.mem_map.2 ⟨t, List.mem_filter.2 ⟨h1, h3⟩, rfl⟩
    have b1 : (rpw p.ti p.ne p.fa t).1 ≤ p.rall.1 := ((ovl_le1 _ p.rall.1 (p.fl * p.bl, p.fh * p.bh)).1 (Int.le_refl _)).2 _ hmem
    have b2 : p.rall.2 ≤ (rpw p.ti p.ne p.fa t).2 := ((ovl_le2 _ p.rall.2 (p.fl * p.bl, p.fh * p.bh)).1 (Int.le_refl _)).2 _ hmem
    rw [h5] at b1 b2
    simp only at b1 b2
    exact ⟨by omega, by omega⟩
def Pr.ropen (p : Pr) (b : Bool) : Int × Int × Int := if p.ok then if b then p.power else (0, 0, 2) else (0, 0, 1)
set_option maxRecDepth 100000 in
set_option maxHeartbeats 2000000 in
theorem ropen_bad (p : Pr) (v : Value) (w : World) (hT : ThingsAt p.l v w) (b : Bool) (hok : Hid (p.ok = false)) :
    Calls Try.prog 49 #[.agg #[.int .i64 p.fl, .int .i64 p.fh, .int .i64 p.bl, .int .i64 p.bh, .int .i64 p.ti, .int .i64 p.ne, .int .i64 p.fa, v], .bool b] w fun e w' => e = .returned (.tuple #[.agg #[.int .i64 0, .int .i64 0], .int .i64 1]) ∧ Below w.heap.size w w' := by
  have TH := Lib.hid (fun (W : World) (hg : Gr ((w.alloc (.cells #[.int .i64 p.fl, .int .i64 p.fh, .int .i64 p.bl, .int .i64 p.bh, .int .i64 p.ti, .int .i64 p.ne, .int .i64 p.fa, v] 26)).alloc (.cells #[.int .i64 0, .int .i64 0] 23)) W) => ThingsAt.lasts p.l _ _ _ hT (((Gr.alloc _ _).tr (Gr.alloc _ _)).tr hg))
  have hg0 := Gr.same ((w.alloc (.cells #[.int .i64 p.fl, .int .i64 p.fh, .int .i64 p.bl, .int .i64 p.bh, .int .i64 p.ti, .int .i64 p.ne, .int .i64 p.fa, v] 26)).alloc (.cells #[.int .i64 0, .int .i64 0] 23))
  have hal := @cal
  clear hT
  go_enter Try.func49, Try.ntmps49
  go_wp2_with fail
  refine (rpair_is hok.out (TH.out _ hg0)).mono ?_
  rintro e w1 ⟨rfl, hb1⟩
  have gg1 : Gr _ _ := hb1
  have hg1 := Gr.tr hg0 gg1
  obtain ⟨hc, hf, hz⟩ := bcell hg1
  have s10 : w.heap.size < w1.heap.size := hz _ (by first | (simp; done) | (simp; omega) | omega)
  have s11 : w.heap.size + 1 < w1.heap.size := hz _ (by first | (simp; done) | (simp; omega) | omega)
  have n10 := Nat.ne_of_lt s10
  have n11 := Nat.ne_of_lt s11
  go_wp2
  exact bodyPost_ret (v := .tuple #[.agg #[.int .i64 0, .int .i64 0], .int .i64 1]) (by simp [results, Try.results49, go_sem, hc]) rfl ⟨rfl, ((show Below w.heap.size w _ from ((Gr.alloc _ _).tr (Gr.alloc _ _)).tr hg1).setCell (by first | (simp; done) | (simp; omega) | omega) _).setCell (by first | (simp; done) | (simp; omega) | omega) _⟩
set_option maxRecDepth 100000 in
set_option maxHeartbeats 2000000 in
theorem ropen_range (p : Pr) (v : Value) (w : World) (hT : ThingsAt p.l v w) (hok : Hid (p.ok = true)) :
    Calls Try.prog 49 #[.agg #[.int .i64 p.fl, .int .i64 p.fh, .int .i64 p.bl, .int .i64 p.bh, .int .i64 p.ti, .int .i64 p.ne, .int .i64 p.fa, v], .bool false] w fun e w' => e = .returned (.tuple #[.agg #[.int .i64 0, .int .i64 0], .int .i64 2]) ∧ Below w.heap.size w w' := by
  have TH := Lib.hid (fun (W : World) (hg : Gr ((w.alloc (.cells #[.int .i64 p.fl, .int .i64 p.fh, .int .i64 p.bl, .int .i64 p.bh, .int .i64 p.ti, .int .i64 p.ne, .int .i64 p.fa, v] 26)).alloc (.cells #[.int .i64 0, .int .i64 0] 23)) W) => ThingsAt.lasts p.l _ _ _ hT (((Gr.alloc _ _).tr (Gr.alloc _ _)).tr hg))
  have hg0 := Gr.same ((w.alloc (.cells #[.int .i64 p.fl, .int .i64 p.fh, .int .i64 p.bl, .int .i64 p.bh, .int .i64 p.ti, .int .i64 p.ne, .int .i64 p.fa, v] 26)).alloc (.cells #[.int .i64 0, .int .i64 0] 23))
  have hal := @cal
  clear hT
  go_enter Try.func49, Try.ntmps49
  go_wp2_with fail
  refine (rpair_is hok.out (TH.out _ hg0)).mono ?_
  rintro e w1 ⟨rfl, hb1⟩
  have gg1 : Gr _ _ := hb1
  have hg1 := Gr.tr hg0 gg1
  obtain ⟨hc, hf, hz⟩ := bcell hg1
  have s10 : w.heap.size < w1.heap.size := hz _ (by first | (simp; done) | (simp; omega) | omega)
  have s11 : w.heap.size + 1 < w1.heap.size := hz _ (by first | (simp; done) | (simp; omega) | omega)
  have n10 := Nat.ne_of_lt s10
  have n11 := Nat.ne_of_lt s11
  go_wp2
  exact bodyPost_ret (v := .tuple #[.agg #[.int .i64 0, .int .i64 0], .int .i64 2]) (by simp [results, Try.results49, go_sem, hc]) rfl ⟨rfl, ((show Below w.heap.size w _ from ((Gr.alloc _ _).tr (Gr.alloc _ _)).tr hg1).setCell (by first | (simp; done) | (simp; omega) | omega) _).setCell (by first | (simp; done) | (simp; omega) | omega) _⟩
set_option maxRecDepth 100000 in
set_option maxHeartbeats 2000000 in
theorem ropen_none (p : Pr) (v : Value) (w : World) (hT : ThingsAt p.l v w) (r1 r2 : Int) (hok : Hid (p.ok = true)) (hr : Hid (p.rall = (r1, r2))) (he : decide (r2 < r1) = true) :
    Calls Try.prog 49 #[.agg #[.int .i64 p.fl, .int .i64 p.fh, .int .i64 p.bl, .int .i64 p.bh, .int .i64 p.ti, .int .i64 p.ne, .int .i64 p.fa, v], .bool true] w fun e w' => e = .returned (.tuple #[.agg #[.int .i64 0, .int .i64 0], .int .i64 4]) ∧ Below w.heap.size w w' := by
  have TH := Lib.hid (fun (W : World) (hg : Gr ((w.alloc (.cells #[.int .i64 p.fl, .int .i64 p.fh, .int .i64 p.bl, .int .i64 p.bh, .int .i64 p.ti, .int .i64 p.ne, .int .i64 p.fa, v] 26)).alloc (.cells #[.int .i64 0, .int .i64 0] 23)) W) => ThingsAt.lasts p.l _ _ _ hT (((Gr.alloc _ _).tr (Gr.alloc _ _)).tr hg))
  have hg0 := Gr.same ((w.alloc (.cells #[.int .i64 p.fl, .int .i64 p.fh, .int .i64 p.bl, .int .i64 p.bh, .int .i64 p.ti, .int .i64 p.ne, .int .i64 p.fa, v] 26)).alloc (.cells #[.int .i64 0, .int .i64 0] 23))
  have hal := @cal
  have HA : Hid (∀ W : World, ThingsAt p.l v W → Calls Try.prog 76 #[.agg #[.int .i64 p.fl, .int .i64 p.fh, .int .i64 p.bl, .int .i64 p.bh, .int .i64 p.ti, .int .i64 p.ne, .int .i64 p.fa, v]] W fun e w' => e = .returned (.agg #[.int .i64 r1, .int .i64 r2]) ∧ Below W.heap.size W w') := Lib.hid fun W h => by
    have := rall_any p v W hok.out h
    rwa [hr.out] at this
  clear hT
  go_enter Try.func49, Try.ntmps49
  go_wp2_with fail
  refine (rpair_is hok.out (TH.out _ hg0)).mono ?_
  rintro e w1 ⟨rfl, hb1⟩
  have gg1 : Gr _ _ := hb1
  have hg1 := Gr.tr hg0 gg1
  obtain ⟨hc, hf, hz⟩ := bcell hg1
  have s10 : w.heap.size < w1.heap.size := hz _ (by first | (simp; done) | (simp; omega) | omega)
  have s11 : w.heap.size + 1 < w1.heap.size := hz _ (by first | (simp; done) | (simp; omega) | omega)
  have n10 := Nat.ne_of_lt s10
  have n11 := Nat.ne_of_lt s11
  go_wp2_with fail
  clear hc hf hz
  refine (HA.out _ (TH.out _ hg1)).mono ?_
  rintro e w2 ⟨rfl, hb2⟩
  have gg2 : Gr _ _ := hb2
  have hg2 := Gr.tr hg1 gg2
  obtain ⟨hc, hf, hz⟩ := bcell hg2
  have s20 : w.heap.size < w2.heap.size := hz _ (by first | (simp; done) | (simp; omega) | omega)
  have s21 : w.heap.size + 1 < w2.heap.size := hz _ (by first | (simp; done) | (simp; omega) | omega)
  have n20 := Nat.ne_of_lt s20
  have n21 := Nat.ne_of_lt s21
  go_wp2_with fail
  clear hc hf hz
  refine (rempty_any _ _ _).mono ?_
  rintro e w3 ⟨rfl, hb3⟩
  have gg3 : Gr _ _ := (Gr.alloc _ _).tr hb3
  have hg3 := Gr.tr hg2 gg3
  obtain ⟨hc, hf, hz⟩ := bcell hg3
  have s30 : w.heap.size < w3.heap.size := hz _ (by first | (simp; done) | (simp; omega) | omega)
  have s31 : w.heap.size + 1 < w3.heap.size := hz _ (by first | (simp; done) | (simp; omega) | omega)
  have n30 := Nat.ne_of_lt s30
  have n31 := Nat.ne_of_lt s31
  have y20 := ((bcell hb3).1 w2.heap.size 0 (by simp)).trans (show _ = some (.int .i64 r1) by simp)
  have y21 := ((bcell hb3).1 w2.heap.size 1 (by simp)).trans (show _ = some (.int .i64 r2) by simp)
  go_wp2
  exact bodyPost_ret (v := .tuple #[.agg #[.int .i64 0, .int .i64 0], .int .i64 4]) (by simp [results, Try.results49, go_sem, hc]) rfl ⟨rfl, ((show Below w.heap.size w _ from ((Gr.alloc _ _).tr (Gr.alloc _ _)).tr hg3).setCell (by first | (simp; done) | (simp; omega) | omega) _).setCell (by first | (simp; done) | (simp; omega) | omega) _⟩
set_option maxRecDepth 100000 in
set_option maxHeartbeats 2000000 in
theorem ropen_ok (p : Pr) (v : Value) (w : World) (hT : ThingsAt p.l v w) (r1 r2 : Int) (hok : Hid (p.ok = true)) (hr : Hid (p.rall = (r1, r2))) (he : decide (r2 < r1) = false) :
    Calls Try.prog 49 #[.agg #[.int .i64 p.fl, .int .i64 p.fh, .int .i64 p.bl, .int .i64 p.bh, .int .i64 p.ti, .int .i64 p.ne, .int .i64 p.fa, v], .bool true] w fun e w' => e = .returned (.tuple #[.agg #[.int .i64 r1, .int .i64 r2], .int .i64 0]) ∧ Below w.heap.size w w' := by
  have TH := Lib.hid (fun (W : World) (hg : Gr ((w.alloc (.cells #[.int .i64 p.fl, .int .i64 p.fh, .int .i64 p.bl, .int .i64 p.bh, .int .i64 p.ti, .int .i64 p.ne, .int .i64 p.fa, v] 26)).alloc (.cells #[.int .i64 0, .int .i64 0] 23)) W) => ThingsAt.lasts p.l _ _ _ hT (((Gr.alloc _ _).tr (Gr.alloc _ _)).tr hg))
  have hg0 := Gr.same ((w.alloc (.cells #[.int .i64 p.fl, .int .i64 p.fh, .int .i64 p.bl, .int .i64 p.bh, .int .i64 p.ti, .int .i64 p.ne, .int .i64 p.fa, v] 26)).alloc (.cells #[.int .i64 0, .int .i64 0] 23))
  have hal := @cal
  have HA : Hid (∀ W : World, ThingsAt p.l v W → Calls Try.prog 76 #[.agg #[.int .i64 p.fl, .int .i64 p.fh, .int .i64 p.bl, .int .i64 p.bh, .int .i64 p.ti, .int .i64 p.ne, .int .i64 p.fa, v]] W fun e w' => e = .returned (.agg #[.int .i64 r1, .int .i64 r2]) ∧ Below W.heap.size W w') := Lib.hid fun W h => by
    have := rall_any p v W hok.out h
    rwa [hr.out] at this
  clear hT
  go_enter Try.func49, Try.ntmps49
  go_wp2_with fail
  refine (rpair_is hok.out (TH.out _ hg0)).mono ?_
  rintro e w1 ⟨rfl, hb1⟩
  have gg1 : Gr _ _ := hb1
  have hg1 := Gr.tr hg0 gg1
  obtain ⟨hc, hf, hz⟩ := bcell hg1
  have s10 : w.heap.size < w1.heap.size := hz _ (by first | (simp; done) | (simp; omega) | omega)
  have s11 : w.heap.size + 1 < w1.heap.size := hz _ (by first | (simp; done) | (simp; omega) | omega)
  have n10 := Nat.ne_of_lt s10
  have n11 := Nat.ne_of_lt s11
  go_wp2_with fail
  clear hc hf hz
  refine (HA.out _ (TH.out _ hg1)).mono ?_
  rintro e w2 ⟨rfl, hb2⟩
  have gg2 : Gr _ _ := hb2
  have hg2 := Gr.tr hg1 gg2
  obtain ⟨hc, hf, hz⟩ := bcell hg2
  have s20 : w.heap.size < w2.heap.size := hz _ (by first | (simp; done) | (simp; omega) | omega)
  have s21 : w.heap.size + 1 < w2.heap.size := hz _ (by first | (simp; done) | (simp; omega) | omega)
  have n20 := Nat.ne_of_lt s20
  have n21 := Nat.ne_of_lt s21
  go_wp2_with fail
  clear hc hf hz
  refine (rempty_any _ _ _).mono ?_
  rintro e w3 ⟨rfl, hb3⟩
  have gg3 : Gr _ _ := (Gr.alloc _ _).tr hb3
  have hg3 := Gr.tr hg2 gg3
  obtain ⟨hc, hf, hz⟩ := bcell hg3
  have s30 : w.heap.size < w3.heap.size := hz _ (by first | (simp; done) | (simp; omega) | omega)
  have s31 : w.heap.size + 1 < w3.heap.size := hz _ (by first | (simp; done) | (simp; omega) | omega)
  have n30 := Nat.ne_of_lt s30
  have n31 := Nat.ne_of_lt s31
  have y20 := ((bcell hb3).1 w2.heap.size 0 (by simp)).trans (show _ = some (.int .i64 r1) by simp)
  have y21 := ((bcell hb3).1 w2.heap.size 1 (by simp)).trans (show _ = some (.int .i64 r2) by simp)
  go_wp2
  exact bodyPost_ret (v := .tuple #[.agg #[.int .i64 r1, .int .i64 r2], .int .i64 0]) (by simp [results, Try.results49, go_sem, hc]) rfl ⟨rfl, ((show Below w.heap.size w _ from ((Gr.alloc _ _).tr (Gr.alloc _ _)).tr hg3).setCell (by first | (simp; done) | (simp; omega) | omega) _).setCell (by first | (simp; done) | (simp; omega) | omega) _⟩
theorem ropen_is {p : Pr} {v : Value} {b : Bool} {x y e : Int} {w : World} (h : p.ropen b = (x, y, e)) (hT : ThingsAt p.l v w) :
    Calls Try.prog 49 #[.agg #[.int .i64 p.fl, .int .i64 p.fh, .int .i64 p.bl, .int .i64 p.bh, .int .i64 p.ti, .int .i64 p.ne, .int .i64 p.fa, v], .bool b] w fun e' w' => e' = .returned (.tuple #[.agg #[.int .i64 x, .int .i64 y], .int .i64 e]) ∧ Below w.heap.size w w' := by
  unfold Pr.ropen at h
  cases hok : p.ok with
  | false =>
    rw [if_neg (by simp [hok])] at h
    cases h
    exact ropen_bad p v w hT b (Lib.hid hok)
  | true =>
    rw [if_pos hok] at h
    cases b with
    | false => cases h; exact ropen_range p v w hT (Lib.hid hok)
    | true =>
      obtain ⟨h1, h2⟩ := Pr.rall_eq hok
      unfold Pr.power at h
      rw [if_pos rfl, if_pos hok] at h
      by_cases hp : p.pw.1 ≤ p.pw.2
      · rw [if_pos hp] at h
        cases h
        have e := h2 hp
        exact ropen_ok p v w hT p.pw.1 p.pw.2 (Lib.hid hok) (Lib.hid e) (decide_eq_false (by omega))
      · rw [if_neg hp] at h
        cases h
        exact ropen_none p v w hT p.rall.1 p.rall.2 (Lib.hid hok) (Lib.hid rfl) (decide_eq_true (by omega))
end Go.Proofs.Ytofdoadpaedogaa
