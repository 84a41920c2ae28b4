import Derived.Test.YtofdoadpaedogaaR7
namespace Go.Proofs.Ytofdoadpaedogaa
open Go.RowKit

theorem Pr.at_th2 {p : Pr} {k : Int} {s : Sg} (h : p.at k = some s) : ∃ (n : Nat) (t : Th), k = n ∧ p.l[n]? = some t ∧ s = t.see p.ti p.ne p.fa := by
  obtain ⟨n, e, hn⟩ := Pr.at_some h
  unfold Pr.seen seenOf at hn
  rw [List.getElem?_map] at hn
  cases hl : p.l[n]? with
  | none => rw [hl] at hn; cases hn
  | some t => rw [hl] at hn; exact ⟨n, t, e, hl, (Option.some.inj hn).symm⟩
theorem Pr.seen_len (p : Pr) : p.seen.length = p.l.length := by unfold Pr.seen seenOf; simp
theorem Pr.at_no {p : Pr} {len : Nat} (hl : p.l.length = len) {k : Int} (h : p.at k = none) : (decide (0 ≤ k) && decide (k < (len : Int))) = false := by
  have := Pr.at_none h
  rw [p.seen_len, hl] at this
  simp; omega
theorem Pr.at_yes {p : Pr} {len : Nat} (hl : p.l.length = len) {n : Nat} {t : Th} (h : p.l[n]? = some t) : n < len ∧ (decide (0 ≤ (n : Int)) && decide ((n : Int) < (len : Int))) = true := by
  have := (List.getElem?_eq_some_iff.1 h).1
  exact ⟨by omega, by simp; omega⟩
theorem rshift_is {p : Pr} {sp : Option Addr} {len cap : Nat} {k x y e : Int} {w : World} (h : p.shift k = (x, y, e)) (hl : len ≤ 1000) (hlen : p.l.length = len) (hT : ThingsAt p.l (.slice sp len cap) w) :
    Calls Try.prog 14 #[.agg #[.int .i64 p.fl, .int .i64 p.fh, .int .i64 p.bl, .int .i64 p.bh, .int .i64 p.ti, .int .i64 p.ne, .int .i64 p.fa, .slice sp len cap], .int .i64 k] w fun e' w' => e' = .returned (.tuple #[.agg #[.int .i64 x, .int .i64 y], .int .i64 e]) ∧ Below w.heap.size w w' := by
  unfold Pr.shift at h
  cases hok : p.ok with
  | false => rw [if_neg (by simp [hok])] at h; cases h; exact rshift_bad p sp len cap k w hT hl (Lib.hid hok)
  | true =>
    rw [if_pos hok] at h
    cases hk : p.at k with
    | none => rw [hk] at h; cases h; exact rshift_range p sp len cap k w hT hl (Lib.hid hok) (Lib.hid (Pr.at_no hlen hk))
    | some s =>
      rw [hk] at h
      cases h
      obtain ⟨n, t, rfl, hn, rfl⟩ := Pr.at_th2 hk
      obtain ⟨h1, h2⟩ := Pr.at_yes hlen hn
      obtain ⟨ba, bb, -, -, be, bf, -, -⟩ := ((p.bounds hok).things t (List.mem_of_getElem? hn)).1
      exact rshift_ok p sp len cap n t.a t.b t.c t.d t.e t.f t.g t.h t.z w hT hl (Lib.hid hok) (Lib.hid h2) h1 (Lib.hid hn) ba bb be bf
theorem rnearer_is {p : Pr} {sp : Option Addr} {len cap : Nat} {a b x e : Int} {w : World} (h : p.nearer a b = (x, e)) (hl : len ≤ 1000) (hlen : p.l.length = len) (hT : ThingsAt p.l (.slice sp len cap) w) :
    Calls Try.prog 16 #[.agg #[.int .i64 p.fl, .int .i64 p.fh, .int .i64 p.bl, .int .i64 p.bh, .int .i64 p.ti, .int .i64 p.ne, .int .i64 p.fa, .slice sp len cap], .int .i64 a, .int .i64 b] w fun e' w' => e' = .returned (.tuple #[.int .i64 x, .int .i64 e]) ∧ Below w.heap.size w w' := by
  unfold Pr.nearer at h
  cases hok : p.ok with
  | false => rw [if_neg (by simp [hok])] at h; cases h; exact rnear_bad p sp len cap a b w hT hl (Lib.hid hok)
  | true =>
    rw [if_pos hok] at h
    cases ha : p.at a with
    | none => rw [ha] at h; cases h; exact rnear_range1 p sp len cap a b w hT hl (Lib.hid hok) (Lib.hid (Pr.at_no hlen ha))
    | some s =>
      obtain ⟨n, t, rfl, hn, rfl⟩ := Pr.at_th2 ha
      obtain ⟨h1, h2⟩ := Pr.at_yes hlen hn
      cases hb : p.at b with
      | none => rw [ha, hb] at h; cases h; exact rnear_range2 p sp len cap n b w hT hl (Lib.hid hok) (Lib.hid h2) (Lib.hid (Pr.at_no hlen hb))
      | some r =>
        obtain ⟨m, u, rfl, hm, rfl⟩ := Pr.at_th2 hb
        obtain ⟨h3, h4⟩ := Pr.at_yes hlen hm
        obtain ⟨ba, bb, -, -, be, bf, -, -⟩ := ((p.bounds hok).things t (List.mem_of_getElem? hn)).1
        obtain ⟨ca, cb, -, -, ce, cf, -, -⟩ := ((p.bounds hok).things u (List.mem_of_getElem? hm)).1
        rw [ha, hb] at h
        cases h
        exact rnear_ok p sp len cap n m t.a t.b t.c t.d t.e t.f t.g t.h t.z u.a u.b u.c u.d u.e u.f u.g u.h u.z _ w hT hl (Lib.hid hok) (Lib.hid h2) (Lib.hid h4) h1 h3 (Lib.hid hn) (Lib.hid hm) ba bb be bf ca cb ce cf (Lib.hid rfl)
theorem rpower_is {p : Pr} {v : Value} {x y e : Int} {w : World} (h : p.power = (x, y, e)) (hT : ThingsAt p.l v w) :
    Calls Try.prog 18 #[.agg #[.int .i64 p.fl, .int .i64 p.fh, .int .i64 p.bl, .int .i64 p.bh, .int .i64 p.ti, .int .i64 p.ne, .int .i64 p.fa, v]] w fun e' w' => e' = .returned (.tuple #[.agg #[.int .i64 x, .int .i64 y], .int .i64 e]) ∧ Below w.heap.size w w' := by
  have := rpower_any p v w hT
  rwa [h] at this
set_option maxRecDepth 100000 in
set_option maxHeartbeats 4000000 in
theorem reads_many (p : Pr) (sp : Option Addr) (len cap : Nat) (a b z : Int) (w : World) (hl : 40 < len) :
    Calls Try.prog 3 #[.agg #[.int .i64 p.fl, .int .i64 p.fh, .int .i64 p.bl, .int .i64 p.bh, .int .i64 p.ti, .int .i64 p.ne, .int .i64 p.fa, .slice sp len cap], .int .i64 a, .int .i64 b, .int .i64 z] w fun e w' => e = .returned (.bool true) ∧ Below w.heap.size w w' := by
  have d : decide (40 < (len : Int)) = true := by simp; omega
  have d' : decide (40 < len) = true := by simp; omega
  clear hl
  go_enter Try.func3, Try.ntmps3
  go_wp2_with fail
  refine (awake_any _).mono ?_
  rintro e w1 ⟨rfl, hb1⟩
  go_wp2
  go_ret
  exact ⟨rfl, (bgr ((Below.refl _ _).alloc (by first | (simp; done) | (simp; omega) | omega) _) (by first | (simp; done) | (simp; omega) | omega) hb1)⟩
set_option maxRecDepth 100000 in
set_option maxHeartbeats 4000000 in
theorem reads_all (p : Pr) (sp : Option Addr) (len cap : Nat) (a b z : Int) (w : World) (hl : len ≤ 40) (hT : ThingsAt p.l (.slice sp len cap) w) (hlen : p.l.length = len) (s1 s2 e n g x1 x2 i u1 u2 k : Int) (h1 : Hid (p.shift a = (s1, s2, e))) (h2 : Hid (p.nearer a b = (n, g))) (h3 : Hid (p.power = (x1, x2, i))) (h4 : Hid (p.stands z = (u1, u2, k))) :
    Calls Try.prog 3 #[.agg #[.int .i64 p.fl, .int .i64 p.fh, .int .i64 p.bl, .int .i64 p.bh, .int .i64 p.ti, .int .i64 p.ne, .int .i64 p.fa, .slice sp len cap], .int .i64 a, .int .i64 b, .int .i64 z] w fun e w' => e = .returned (.bool true) ∧ Below w.heap.size w w' := by
  have d : decide (40 < (len : Int)) = false := by simp; omega
  have d' : decide (40 < len) = false := by simp; omega
  have TH := Lib.hid (fun (W : World) (hg : Gr (w.alloc (.cells #[.int .i64 p.fl, .int .i64 p.fh, .int .i64 p.bl, .int .i64 p.bh, .int .i64 p.ti, .int .i64 p.ne, .int .i64 p.fa, .slice sp len cap] 26)) W) => ThingsAt.lasts p.l _ _ _ hT ((Gr.alloc _ _).tr hg))
  have hg0 := Gr.same (w.alloc (.cells #[.int .i64 p.fl, .int .i64 p.fh, .int .i64 p.bl, .int .i64 p.bh, .int .i64 p.ti, .int .i64 p.ne, .int .i64 p.fa, .slice sp len cap] 26))
  have HL := Lib.hid hlen
  have hl2 := hl
  have heq := @eq23
  have heg := @eqg23
  clear hT hl hlen
  go_enter Try.func3, Try.ntmps3
  go_wp2_with fail
  refine (shift_is h1.out (TH.out _ hg0)).mono ?_
  rintro e w1 ⟨rfl, hb1⟩
  have gg1 : Gr _ _ := hb1
  have hg1 := Gr.tr hg0 gg1
  obtain ⟨hc, hf, hz⟩ := bcell hg1
  go_wp2_with fail
  clear hc hf hz
  refine (rshift_is h1.out (by omega) HL.out (TH.out _ (hg1.tr (Gr.alloc _ _)))).mono ?_
  rintro e w2 ⟨rfl, hb2⟩
  have gg2 : Gr _ _ := (Gr.alloc _ _).tr hb2
  have hg2 := Gr.tr hg1 gg2
  have y1_0 := ((bcell hb2).1 w1.heap.size 0 (by simp)).trans (show _ = some (.int .i64 s1) by simp)
  have y1_1 := ((bcell hb2).1 w1.heap.size 1 (by simp)).trans (show _ = some (.int .i64 s2) by simp)
  have k1 : w1.heap.size < w2.heap.size := Nat.lt_of_lt_of_le (by simp) hb2.size
  have k1n : w1.heap.size ≠ w2.heap.size := Nat.ne_of_lt k1
  have k1m : w2.heap.size ≠ w1.heap.size := (Nat.ne_of_lt k1).symm
  have k1p : w1.heap.size < w2.heap.size + 1 := Nat.lt_succ_of_lt k1
  obtain ⟨hc, hf, hz⟩ := bcell hg2
  go_wp2_with fail
  clear hc hf hz
  refine (nearer_is h2.out (TH.out _ (hg2.tr (Gr.alloc _ _)))).mono ?_
  rintro e w3 ⟨rfl, hb3⟩
  have gg3 : Gr _ _ := (Gr.alloc _ _).tr hb3
  have hg3 := Gr.tr hg2 gg3
  have y1_0 := ((bcell gg3).1 w1.heap.size 0 k1).trans y1_0
  have y1_1 := ((bcell gg3).1 w1.heap.size 1 k1).trans y1_1
  replace k1 : w1.heap.size < w3.heap.size := Nat.lt_of_lt_of_le k1 gg3.size
  have k1n : w1.heap.size ≠ w3.heap.size := Nat.ne_of_lt k1
  have k1m : w3.heap.size ≠ w1.heap.size := (Nat.ne_of_lt k1).symm
  have k1p : w1.heap.size < w3.heap.size + 1 := Nat.lt_succ_of_lt k1
  have y2_0 := ((bcell hb3).1 w2.heap.size 0 (by simp)).trans (show _ = some (.int .i64 s1) by simp)
  have y2_1 := ((bcell hb3).1 w2.heap.size 1 (by simp)).trans (show _ = some (.int .i64 s2) by simp)
  have k2 : w2.heap.size < w3.heap.size := Nat.lt_of_lt_of_le (by simp) hb3.size
  have k2n : w2.heap.size ≠ w3.heap.size := Nat.ne_of_lt k2
  have k2m : w3.heap.size ≠ w2.heap.size := (Nat.ne_of_lt k2).symm
  have k2p : w2.heap.size < w3.heap.size + 1 := Nat.lt_succ_of_lt k2
  obtain ⟨hc, hf, hz⟩ := bcell hg3
  go_wp2_with fail
  clear hc hf hz
  refine (rnearer_is h2.out (by omega) HL.out (TH.out _ hg3)).mono ?_
  rintro e w4 ⟨rfl, hb4⟩
  have gg4 : Gr _ _ := hb4
  have hg4 := Gr.tr hg3 gg4
  have y1_0 := ((bcell gg4).1 w1.heap.size 0 k1).trans y1_0
  have y1_1 := ((bcell gg4).1 w1.heap.size 1 k1).trans y1_1
  replace k1 : w1.heap.size < w4.heap.size := Nat.lt_of_lt_of_le k1 gg4.size
  have k1n : w1.heap.size ≠ w4.heap.size := Nat.ne_of_lt k1
  have k1m : w4.heap.size ≠ w1.heap.size := (Nat.ne_of_lt k1).symm
  have k1p : w1.heap.size < w4.heap.size + 1 := Nat.lt_succ_of_lt k1
  have y2_0 := ((bcell gg4).1 w2.heap.size 0 k2).trans y2_0
  have y2_1 := ((bcell gg4).1 w2.heap.size 1 k2).trans y2_1
  replace k2 : w2.heap.size < w4.heap.size := Nat.lt_of_lt_of_le k2 gg4.size
  have k2n : w2.heap.size ≠ w4.heap.size := Nat.ne_of_lt k2
  have k2m : w4.heap.size ≠ w2.heap.size := (Nat.ne_of_lt k2).symm
  have k2p : w2.heap.size < w4.heap.size + 1 := Nat.lt_succ_of_lt k2
  obtain ⟨hc, hf, hz⟩ := bcell hg4
  go_wp2_with fail
  clear hc hf hz
  refine (power_is h3.out (TH.out _ hg4)).mono ?_
  rintro e w5 ⟨rfl, hb5⟩
  have gg5 : Gr _ _ := hb5
  have hg5 := Gr.tr hg4 gg5
  have y1_0 := ((bcell gg5).1 w1.heap.size 0 k1).trans y1_0
  have y1_1 := ((bcell gg5).1 w1.heap.size 1 k1).trans y1_1
  replace k1 : w1.heap.size < w5.heap.size := Nat.lt_of_lt_of_le k1 gg5.size
  have k1n : w1.heap.size ≠ w5.heap.size := Nat.ne_of_lt k1
  have k1m : w5.heap.size ≠ w1.heap.size := (Nat.ne_of_lt k1).symm
  have k1p : w1.heap.size < w5.heap.size + 1 := Nat.lt_succ_of_lt k1
  have y2_0 := ((bcell gg5).1 w2.heap.size 0 k2).trans y2_0
  have y2_1 := ((bcell gg5).1 w2.heap.size 1 k2).trans y2_1
  replace k2 : w2.heap.size < w5.heap.size := Nat.lt_of_lt_of_le k2 gg5.size
  have k2n : w2.heap.size ≠ w5.heap.size := Nat.ne_of_lt k2
  have k2m : w5.heap.size ≠ w2.heap.size := (Nat.ne_of_lt k2).symm
  have k2p : w2.heap.size < w5.heap.size + 1 := Nat.lt_succ_of_lt k2
  obtain ⟨hc, hf, hz⟩ := bcell hg5
  go_wp2_with fail
  clear hc hf hz
  refine (rpower_is h3.out (TH.out _ (hg5.tr (Gr.alloc _ _)))).mono ?_
  rintro e w6 ⟨rfl, hb6⟩
  have gg6 : Gr _ _ := (Gr.alloc _ _).tr hb6
  have hg6 := Gr.tr hg5 gg6
  have y1_0 := ((bcell gg6).1 w1.heap.size 0 k1).trans y1_0
  have y1_1 := ((bcell gg6).1 w1.heap.size 1 k1).trans y1_1
  replace k1 : w1.heap.size < w6.heap.size := Nat.lt_of_lt_of_le k1 gg6.size
  have k1n : w1.heap.size ≠ w6.heap.size := Nat.ne_of_lt k1
  have k1m : w6.heap.size ≠ w1.heap.size := (Nat.ne_of_lt k1).symm
  have k1p : w1.heap.size < w6.heap.size + 1 := Nat.lt_succ_of_lt k1
  have y2_0 := ((bcell gg6).1 w2.heap.size 0 k2).trans y2_0
  have y2_1 := ((bcell gg6).1 w2.heap.size 1 k2).trans y2_1
  replace k2 : w2.heap.size < w6.heap.size := Nat.lt_of_lt_of_le k2 gg6.size
  have k2n : w2.heap.size ≠ w6.heap.size := Nat.ne_of_lt k2
  have k2m : w6.heap.size ≠ w2.heap.size := (Nat.ne_of_lt k2).symm
  have k2p : w2.heap.size < w6.heap.size + 1 := Nat.lt_succ_of_lt k2
  have y5_0 := ((bcell hb6).1 w5.heap.size 0 (by simp)).trans (show _ = some (.int .i64 x1) by simp)
  have y5_1 := ((bcell hb6).1 w5.heap.size 1 (by simp)).trans (show _ = some (.int .i64 x2) by simp)
  have k5 : w5.heap.size < w6.heap.size := Nat.lt_of_lt_of_le (by simp) hb6.size
  have k5n : w5.heap.size ≠ w6.heap.size := Nat.ne_of_lt k5
  have k5m : w6.heap.size ≠ w5.heap.size := (Nat.ne_of_lt k5).symm
  have k5p : w5.heap.size < w6.heap.size + 1 := Nat.lt_succ_of_lt k5
  obtain ⟨hc, hf, hz⟩ := bcell hg6
  go_wp2_with fail
  clear hc hf hz
  refine (stands_is h4.out (TH.out _ (hg6.tr (Gr.alloc _ _)))).mono ?_
  rintro e w7 ⟨rfl, hb7⟩
  have gg7 : Gr _ _ := (Gr.alloc _ _).tr hb7
  have hg7 := Gr.tr hg6 gg7
  have y1_0 := ((bcell gg7).1 w1.heap.size 0 k1).trans y1_0
  have y1_1 := ((bcell gg7).1 w1.heap.size 1 k1).trans y1_1
  replace k1 : w1.heap.size < w7.heap.size := Nat.lt_of_lt_of_le k1 gg7.size
  have k1n : w1.heap.size ≠ w7.heap.size := Nat.ne_of_lt k1
  have k1m : w7.heap.size ≠ w1.heap.size := (Nat.ne_of_lt k1).symm
  have k1p : w1.heap.size < w7.heap.size + 1 := Nat.lt_succ_of_lt k1
  have y2_0 := ((bcell gg7).1 w2.heap.size 0 k2).trans y2_0
  have y2_1 := ((bcell gg7).1 w2.heap.size 1 k2).trans y2_1
  replace k2 : w2.heap.size < w7.heap.size := Nat.lt_of_lt_of_le k2 gg7.size
  have k2n : w2.heap.size ≠ w7.heap.size := Nat.ne_of_lt k2
  have k2m : w7.heap.size ≠ w2.heap.size := (Nat.ne_of_lt k2).symm
  have k2p : w2.heap.size < w7.heap.size + 1 := Nat.lt_succ_of_lt k2
  have y5_0 := ((bcell gg7).1 w5.heap.size 0 k5).trans y5_0
  have y5_1 := ((bcell gg7).1 w5.heap.size 1 k5).trans y5_1
  replace k5 : w5.heap.size < w7.heap.size := Nat.lt_of_lt_of_le k5 gg7.size
  have k5n : w5.heap.size ≠ w7.heap.size := Nat.ne_of_lt k5
  have k5m : w7.heap.size ≠ w5.heap.size := (Nat.ne_of_lt k5).symm
  have k5p : w5.heap.size < w7.heap.size + 1 := Nat.lt_succ_of_lt k5
  have y6_0 := ((bcell hb7).1 w6.heap.size 0 (by simp)).trans (show _ = some (.int .i64 x1) by simp)
  have y6_1 := ((bcell hb7).1 w6.heap.size 1 (by simp)).trans (show _ = some (.int .i64 x2) by simp)
  have k6 : w6.heap.size < w7.heap.size := Nat.lt_of_lt_of_le (by simp) hb7.size
  have k6n : w6.heap.size ≠ w7.heap.size := Nat.ne_of_lt k6
  have k6m : w7.heap.size ≠ w6.heap.size := (Nat.ne_of_lt k6).symm
  have k6p : w6.heap.size < w7.heap.size + 1 := Nat.lt_succ_of_lt k6
  obtain ⟨hc, hf, hz⟩ := bcell hg7
  go_wp2_with fail
  clear hc hf hz
  refine (rstands_is h4.out (TH.out _ (hg7.tr (Gr.alloc _ _)))).mono ?_
  rintro e w8 ⟨rfl, hb8⟩
  have gg8 : Gr _ _ := (Gr.alloc _ _).tr hb8
  have hg8 := Gr.tr hg7 gg8
  have y1_0 := ((bcell gg8).1 w1.heap.size 0 k1).trans y1_0
  have y1_1 := ((bcell gg8).1 w1.heap.size 1 k1).trans y1_1
  replace k1 : w1.heap.size < w8.heap.size := Nat.lt_of_lt_of_le k1 gg8.size
  have k1n : w1.heap.size ≠ w8.heap.size := Nat.ne_of_lt k1
  have k1m : w8.heap.size ≠ w1.heap.size := (Nat.ne_of_lt k1).symm
  have k1p : w1.heap.size < w8.heap.size + 1 := Nat.lt_succ_of_lt k1
  have y2_0 := ((bcell gg8).1 w2.heap.size 0 k2).trans y2_0
  have y2_1 := ((bcell gg8).1 w2.heap.size 1 k2).trans y2_1
  replace k2 : w2.heap.size < w8.heap.size := Nat.lt_of_lt_of_le k2 gg8.size
  have k2n : w2.heap.size ≠ w8.heap.size := Nat.ne_of_lt k2
  have k2m : w8.heap.size ≠ w2.heap.size := (Nat.ne_of_lt k2).symm
  have k2p : w2.heap.size < w8.heap.size + 1 := Nat.lt_succ_of_lt k2
  have y5_0 := ((bcell gg8).1 w5.heap.size 0 k5).trans y5_0
  have y5_1 := ((bcell gg8).1 w5.heap.size 1 k5).trans y5_1
  replace k5 : w5.heap.size < w8.heap.size := Nat.lt_of_lt_of_le k5 gg8.size
  have k5n : w5.heap.size ≠ w8.heap.size := Nat.ne_of_lt k5
  have k5m : w8.heap.size ≠ w5.heap.size := (Nat.ne_of_lt k5).symm
  have k5p : w5.heap.size < w8.heap.size + 1 := Nat.lt_succ_of_lt k5
  have y6_0 := ((bcell gg8).1 w6.heap.size 0 k6).trans y6_0
  have y6_1 := ((bcell gg8).1 w6.heap.size 1 k6).trans y6_1
  replace k6 : w6.heap.size < w8.heap.size := Nat.lt_of_lt_of_le k6 gg8.size
  have k6n : w6.heap.size ≠ w8.heap.size := Nat.ne_of_lt k6
  have k6m : w8.heap.size ≠ w6.heap.size := (Nat.ne_of_lt k6).symm
  have k6p : w6.heap.size < w8.heap.size + 1 := Nat.lt_succ_of_lt k6
  have y7_0 := ((bcell hb8).1 w7.heap.size 0 (by simp)).trans (show _ = some (.int .i64 u1) by simp)
  have y7_1 := ((bcell hb8).1 w7.heap.size 1 (by simp)).trans (show _ = some (.int .i64 u2) by simp)
  have k7 : w7.heap.size < w8.heap.size := Nat.lt_of_lt_of_le (by simp) hb8.size
  have k7n : w7.heap.size ≠ w8.heap.size := Nat.ne_of_lt k7
  have k7m : w8.heap.size ≠ w7.heap.size := (Nat.ne_of_lt k7).symm
  have k7p : w7.heap.size < w8.heap.size + 1 := Nat.lt_succ_of_lt k7
  obtain ⟨hc, hf, hz⟩ := bcell hg8
  go_wp2_with fail
  clear hc hf hz
  refine (awake_any _).mono ?_
  rintro e w9 ⟨rfl, hb9⟩
  have gg9 : Gr _ _ := (Gr.alloc _ _).tr hb9
  have hg9 := Gr.tr hg8 gg9
  have y1_0 := ((bcell gg9).1 w1.heap.size 0 k1).trans y1_0
  have y1_1 := ((bcell gg9).1 w1.heap.size 1 k1).trans y1_1
  replace k1 : w1.heap.size < w9.heap.size := Nat.lt_of_lt_of_le k1 gg9.size
  have k1n : w1.heap.size ≠ w9.heap.size := Nat.ne_of_lt k1
  have k1m : w9.heap.size ≠ w1.heap.size := (Nat.ne_of_lt k1).symm
  have k1p : w1.heap.size < w9.heap.size + 1 := Nat.lt_succ_of_lt k1
  have y2_0 := ((bcell gg9).1 w2.heap.size 0 k2).trans y2_0
  have y2_1 := ((bcell gg9).1 w2.heap.size 1 k2).trans y2_1
  replace k2 : w2.heap.size < w9.heap.size := Nat.lt_of_lt_of_le k2 gg9.size
  have k2n : w2.heap.size ≠ w9.heap.size := Nat.ne_of_lt k2
  have k2m : w9.heap.size ≠ w2.heap.size := (Nat.ne_of_lt k2).symm
  have k2p : w2.heap.size < w9.heap.size + 1 := Nat.lt_succ_of_lt k2
  have y5_0 := ((bcell gg9).1 w5.heap.size 0 k5).trans y5_0
  have y5_1 := ((bcell gg9).1 w5.heap.size 1 k5).trans y5_1
  replace k5 : w5.heap.size < w9.heap.size := Nat.lt_of_lt_of_le k5 gg9.size
  have k5n : w5.heap.size ≠ w9.heap.size := Nat.ne_of_lt k5
  have k5m : w9.heap.size ≠ w5.heap.size := (Nat.ne_of_lt k5).symm
  have k5p : w5.heap.size < w9.heap.size + 1 := Nat.lt_succ_of_lt k5
  have y6_0 := ((bcell gg9).1 w6.heap.size 0 k6).trans y6_0
  have y6_1 := ((bcell gg9).1 w6.heap.size 1 k6).trans y6_1
  replace k6 : w6.heap.size < w9.heap.size := Nat.lt_of_lt_of_le k6 gg9.size
  have k6n : w6.heap.size ≠ w9.heap.size := Nat.ne_of_lt k6
  have k6m : w9.heap.size ≠ w6.heap.size := (Nat.ne_of_lt k6).symm
  have k6p : w6.heap.size < w9.heap.size + 1 := Nat.lt_succ_of_lt k6
  have y7_0 := ((bcell gg9).1 w7.heap.size 0 k7).trans y7_0
  have y7_1 := ((bcell gg9).1 w7.heap.size 1 k7).trans y7_1
  replace k7 : w7.heap.size < w9.heap.size := Nat.lt_of_lt_of_le k7 gg9.size
  have k7n : w7.heap.size ≠ w9.heap.size := Nat.ne_of_lt k7
  have k7m : w9.heap.size ≠ w7.heap.size := (Nat.ne_of_lt k7).symm
  have k7p : w7.heap.size < w9.heap.size + 1 := Nat.lt_succ_of_lt k7
  have y8_0 := ((bcell hb9).1 w8.heap.size 0 (by simp)).trans (show _ = some (.int .i64 u1) by simp)
  have y8_1 := ((bcell hb9).1 w8.heap.size 1 (by simp)).trans (show _ = some (.int .i64 u2) by simp)
  have k8 : w8.heap.size < w9.heap.size := Nat.lt_of_lt_of_le (by simp) hb9.size
  have k8n : w8.heap.size ≠ w9.heap.size := Nat.ne_of_lt k8
  have k8m : w9.heap.size ≠ w8.heap.size := (Nat.ne_of_lt k8).symm
  have k8p : w8.heap.size < w9.heap.size + 1 := Nat.lt_succ_of_lt k8
  obtain ⟨hc, hf, hz⟩ := bcell hg9
  go_wp2
  go_ret
  exact ⟨rfl, bgr ((Below.refl _ _).alloc (Nat.le_refl _) _) (by first | (simp; done) | (simp; omega) | omega) hg9⟩
end Go.Proofs.Ytofdoadpaedogaa
