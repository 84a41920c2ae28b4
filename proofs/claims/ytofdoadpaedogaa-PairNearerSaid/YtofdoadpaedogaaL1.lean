import Derived.Test.YtofdoadpaedogaaL0
namespace Go.Proofs.Ytofdoadpaedogaa
open Go.RowKit

set_option maxRecDepth 100000 in
set_option maxHeartbeats 4000000 in
theorem near_many (p : Pr) (sp : Option Addr) (len cap : Nat) (a b c : Int) (w : World) (hl : 40 < len) :
    Calls Try.prog 9 #[.agg #[.int .i64 p.fl, .int .i64 p.fh, .int .i64 p.bl, .int .i64 p.bh, .int .i64 p.ti, .int .i64 p.ne, .int .i64 p.fa, .slice sp len cap], .int .i64 a, .int .i64 b, .int .i64 c] w fun e w' => e = .returned (.bool true) ∧ Below w.heap.size w w' := by
  have d : decide (40 < (len : Int)) = true := by simp; omega
  have d' : decide (40 < len) = true := by simp; omega
  clear hl
  go_enter Try.func9, Try.ntmps9
  go_wp2_with fail
  refine (awake_any _).mono ?_
  rintro e w1 ⟨rfl, hb1⟩
  go_wp2
  go_ret
  exact ⟨rfl, (bgr ((Below.refl _ _).alloc (by first | (simp; done) | (simp; omega) | omega) _) (by first | (simp; done) | (simp; omega) | omega) hb1)⟩
set_option maxRecDepth 100000 in
set_option maxHeartbeats 4000000 in
theorem near_err (p : Pr) (sp : Option Addr) (len cap : Nat) (a b c : Int) (w : World) (hl : len ≤ 40) (hT : ThingsAt p.l (.slice sp len cap) w) (x : Int) (ok : Bool) (h1 : Hid (p.nearer a b = (0, x))) (h2 : Hid (p.nearer b a = (0, x))) (h3 : Hid (p.ok = ok)) (hx : (ok = false ∧ x = 1) ∨ (ok = true ∧ x = 2)) :
    Calls Try.prog 9 #[.agg #[.int .i64 p.fl, .int .i64 p.fh, .int .i64 p.bl, .int .i64 p.bh, .int .i64 p.ti, .int .i64 p.ne, .int .i64 p.fa, .slice sp len cap], .int .i64 a, .int .i64 b, .int .i64 c] w fun e w' => e = .returned (.bool true) ∧ Below w.heap.size w w' := by
  rcases hx with ⟨rfl, rfl⟩ | ⟨rfl, rfl⟩
  · have d : decide (40 < (len : Int)) = false := by simp; omega
    have d' : decide (40 < len) = false := by simp; omega
    have TH := Lib.hid (fun (W : World) (hg : Gr (w.alloc (.cells #[.int .i64 p.fl, .int .i64 p.fh, .int .i64 p.bl, .int .i64 p.bh, .int .i64 p.ti, .int .i64 p.ne, .int .i64 p.fa, .slice sp len cap] 26)) W) => ThingsAt.lasts p.l _ _ _ hT ((Gr.alloc _ _).tr hg))
    have hg0 := Gr.same (w.alloc (.cells #[.int .i64 p.fl, .int .i64 p.fh, .int .i64 p.bl, .int .i64 p.bh, .int .i64 p.ti, .int .i64 p.ne, .int .i64 p.fa, .slice sp len cap] 26))
    clear hT hl
    go_enter Try.func9, Try.ntmps9
    go_wp2_with fail
    refine (nearer_is h1.out (TH.out _ hg0)).mono ?_
    rintro e w1 ⟨rfl, hb1⟩
    have hg1 := Gr.tr hg0 (hb1)
    obtain ⟨hc, hf, hz⟩ := bcell hg1
    go_wp2_with fail
    clear hc hf hz
    refine (nearer_is h2.out (TH.out _ hg1)).mono ?_
    rintro e w2 ⟨rfl, hb2⟩
    have hg2 := Gr.tr hg1 (hb2)
    obtain ⟨hc, hf, hz⟩ := bcell hg2
    go_wp2_with fail
    clear hc hf hz
    refine (rpair_is h3.out (TH.out _ hg2)).mono ?_
    rintro e w3 ⟨rfl, hb3⟩
    have hg3 := Gr.tr hg2 (hb3)
    obtain ⟨hc, hf, hz⟩ := bcell hg3
    go_wp2_with fail
    clear hc hf hz
    refine (awake_any _).mono ?_
    rintro e w4 ⟨rfl, hb4⟩
    have hg4 := Gr.tr hg3 (hb4)
    obtain ⟨hc, hf, hz⟩ := bcell hg4
    go_wp2
    go_ret
    exact ⟨rfl, bgr ((Below.refl _ _).alloc (Nat.le_refl _) _) (by first | (simp; done) | (simp; omega) | omega) hg4⟩
  · have d : decide (40 < (len : Int)) = false := by simp; omega
    have d' : decide (40 < len) = false := by simp; omega
    have TH := Lib.hid (fun (W : World) (hg : Gr (w.alloc (.cells #[.int .i64 p.fl, .int .i64 p.fh, .int .i64 p.bl, .int .i64 p.bh, .int .i64 p.ti, .int .i64 p.ne, .int .i64 p.fa, .slice sp len cap] 26)) W) => ThingsAt.lasts p.l _ _ _ hT ((Gr.alloc _ _).tr hg))
    have hg0 := Gr.same (w.alloc (.cells #[.int .i64 p.fl, .int .i64 p.fh, .int .i64 p.bl, .int .i64 p.bh, .int .i64 p.ti, .int .i64 p.ne, .int .i64 p.fa, .slice sp len cap] 26))
    clear hT hl
    go_enter Try.func9, Try.ntmps9
    go_wp2_with fail
    refine (nearer_is h1.out (TH.out _ hg0)).mono ?_
    rintro e w1 ⟨rfl, hb1⟩
    have hg1 := Gr.tr hg0 (hb1)
    obtain ⟨hc, hf, hz⟩ := bcell hg1
    go_wp2_with fail
    clear hc hf hz
    refine (nearer_is h2.out (TH.out _ hg1)).mono ?_
    rintro e w2 ⟨rfl, hb2⟩
    have hg2 := Gr.tr hg1 (hb2)
    obtain ⟨hc, hf, hz⟩ := bcell hg2
    go_wp2_with fail
    clear hc hf hz
    refine (rpair_is h3.out (TH.out _ hg2)).mono ?_
    rintro e w3 ⟨rfl, hb3⟩
    have hg3 := Gr.tr hg2 (hb3)
    obtain ⟨hc, hf, hz⟩ := bcell hg3
    go_wp2_with fail
    clear hc hf hz
    refine (awake_any _).mono ?_
    rintro e w4 ⟨rfl, hb4⟩
    have hg4 := Gr.tr hg3 (hb4)
    obtain ⟨hc, hf, hz⟩ := bcell hg4
    go_wp2
    go_ret
    exact ⟨rfl, bgr ((Below.refl _ _).alloc (Nat.le_refl _) _) (by first | (simp; done) | (simp; omega) | omega) hg4⟩
set_option maxRecDepth 100000 in
set_option maxHeartbeats 4000000 in
theorem near_no (p : Pr) (sp : Option Addr) (len cap : Nat) (a b c : Int) (w : World) (hl : len ≤ 40) (hT : ThingsAt p.l (.slice sp len cap) w) (n m o q g xl xh yl yh i j : Int) (h1 : Hid (p.nearer a b = (n, 0))) (h2 : Hid (p.nearer b a = (m, 0))) (h3 : Hid (p.nearer b c = (o, g))) (h4 : Hid (p.nearer a c = (q, g))) (h5 : Hid (p.distance a = (xl, xh, i))) (h6 : Hid (p.distance b = (yl, yh, j))) (n0 : 0 ≤ n) (n2 : n < 2) (hm : (m == 2) = false ∨ n = 0) :
    Calls Try.prog 9 #[.agg #[.int .i64 p.fl, .int .i64 p.fh, .int .i64 p.bl, .int .i64 p.bh, .int .i64 p.ti, .int .i64 p.ne, .int .i64 p.fa, .slice sp len cap], .int .i64 a, .int .i64 b, .int .i64 c] w fun e w' => e = .returned (.bool true) ∧ Below w.heap.size w w' := by
  have hm' : (m == 2) = false ∨ ((m == 2) = true ∧ (n != 0) = false) := by
    rcases hm with h | h
    · exact .inl h
    · cases h7 : (m == 2) with
      | false => exact .inl rfl
      | true => exact .inr ⟨rfl, by simp [h]⟩
  clear hm
  have hg' : (g == 0) = true ∨ (g == 0) = false := by cases (g == 0) <;> simp
  have hab : (a == b) = true ∨ (a == b) = false := by cases (a == b) <;> simp
  have gg : (g != g) = false := by simp
  rcases hm' with hm' | ⟨hm', hn'⟩ <;> rcases hg' with hg' | hg' <;> rcases hab with hab | hab
  all_goals (
    have d : decide (40 < (len : Int)) = false := by simp; omega
    have d' : decide (40 < len) = false := by simp; omega
    have TH := Lib.hid (fun (W : World) (hg : Gr (w.alloc (.cells #[.int .i64 p.fl, .int .i64 p.fh, .int .i64 p.bl, .int .i64 p.bh, .int .i64 p.ti, .int .i64 p.ne, .int .i64 p.fa, .slice sp len cap] 26)) W) => ThingsAt.lasts p.l _ _ _ hT ((Gr.alloc _ _).tr hg))
    have hg0 := Gr.same (w.alloc (.cells #[.int .i64 p.fl, .int .i64 p.fh, .int .i64 p.bl, .int .i64 p.bh, .int .i64 p.ti, .int .i64 p.ne, .int .i64 p.fa, .slice sp len cap] 26))
    have e1 : (n == 2) = false := by simp; omega
    have e2 : decide (n < 0) = false := by simp; omega
    have e3 : decide (2 < n) = false := by simp; omega
    have e4 : (n != 2) = true := by simp; omega
    clear hT hl n0 n2
    go_enter Try.func9, Try.ntmps9
    go_wp2_with fail
    refine (nearer_is h1.out (TH.out _ hg0)).mono ?_
    rintro e w1 ⟨rfl, hb1⟩
    have hg1 := Gr.tr hg0 (hb1)
    obtain ⟨hc, hf, hz⟩ := bcell hg1
    go_wp2_with fail
    clear hc hf hz
    refine (nearer_is h2.out (TH.out _ hg1)).mono ?_
    rintro e w2 ⟨rfl, hb2⟩
    have hg2 := Gr.tr hg1 (hb2)
    obtain ⟨hc, hf, hz⟩ := bcell hg2
    go_wp2_with fail
    clear hc hf hz
    refine (nearer_is h3.out (TH.out _ hg2)).mono ?_
    rintro e w3 ⟨rfl, hb3⟩
    have hg3 := Gr.tr hg2 (hb3)
    obtain ⟨hc, hf, hz⟩ := bcell hg3
    go_wp2_with fail
    clear hc hf hz
    refine (nearer_is h4.out (TH.out _ hg3)).mono ?_
    rintro e w4 ⟨rfl, hb4⟩
    have hg4 := Gr.tr hg3 (hb4)
    obtain ⟨hc, hf, hz⟩ := bcell hg4
    go_wp2_with fail
    clear hc hf hz
    refine (distance_is h5.out (TH.out _ hg4)).mono ?_
    rintro e w5 ⟨rfl, hb5⟩
    have hg5 := Gr.tr hg4 (hb5)
    obtain ⟨hc, hf, hz⟩ := bcell hg5
    go_wp2_with fail
    clear hc hf hz
    refine (distance_is h6.out (TH.out _ (hg5.tr (Gr.alloc _ _)))).mono ?_
    rintro e w6 ⟨rfl, hb6⟩
    have hg6 := Gr.tr hg5 ((Gr.alloc _ _).tr hb6)
    obtain ⟨hc, hf, hz⟩ := bcell hg6
    go_wp2_with fail
    clear hc hf hz
    refine (awake_any _).mono ?_
    rintro e w7 ⟨rfl, hb7⟩
    have hg7 := Gr.tr hg6 ((Gr.alloc _ _).tr hb7)
    obtain ⟨hc, hf, hz⟩ := bcell hg7
    go_wp2
    go_ret
    exact ⟨rfl, bgr ((Below.refl _ _).alloc (Nat.le_refl _) _) (by first | (simp; done) | (simp; omega) | omega) hg7⟩)
set_option maxRecDepth 100000 in
set_option maxHeartbeats 4000000 in
theorem near_yes (p : Pr) (sp : Option Addr) (len cap : Nat) (a b c : Int) (w : World) (hl : len ≤ 40) (hT : ThingsAt p.l (.slice sp len cap) w) (o q g xl xh yl yh i j : Int) (h1 : Hid (p.nearer a b = (2, 0))) (h2 : Hid (p.nearer b a = (0, 0))) (h3 : Hid (p.nearer b c = (o, g))) (h4 : Hid (p.nearer a c = (q, g))) (h5 : Hid (p.distance a = (xl, xh, i))) (h6 : Hid (p.distance b = (yl, yh, j))) (hab : (a == b) = false)
    (hgo : (g == 0) = false ∨ ((g == 0) = true ∧ ((o == 2) = false ∨ ((o == 2) = true ∧ (q != 2) = false)))) (hij : (i != 0) = true ∨ ((i != 0) = false ∧ ((j != 0) = true ∨ ((j != 0) = false ∧ decide (xl ≤ yl) = true ∧ decide (xh ≤ yh) = true)))) :
    Calls Try.prog 9 #[.agg #[.int .i64 p.fl, .int .i64 p.fh, .int .i64 p.bl, .int .i64 p.bh, .int .i64 p.ti, .int .i64 p.ne, .int .i64 p.fa, .slice sp len cap], .int .i64 a, .int .i64 b, .int .i64 c] w fun e w' => e = .returned (.bool true) ∧ Below w.heap.size w w' := by
  have gg : (g != g) = false := by simp
  rcases hgo with hg' | ⟨hg', ho' | ⟨ho', hq'⟩⟩ <;> rcases hij with hi' | ⟨hi', hj' | ⟨hj', hx', hy'⟩⟩
  all_goals (
    have d : decide (40 < (len : Int)) = false := by simp; omega
    have d' : decide (40 < len) = false := by simp; omega
    have TH := Lib.hid (fun (W : World) (hg : Gr (w.alloc (.cells #[.int .i64 p.fl, .int .i64 p.fh, .int .i64 p.bl, .int .i64 p.bh, .int .i64 p.ti, .int .i64 p.ne, .int .i64 p.fa, .slice sp len cap] 26)) W) => ThingsAt.lasts p.l _ _ _ hT ((Gr.alloc _ _).tr hg))
    have hg0 := Gr.same (w.alloc (.cells #[.int .i64 p.fl, .int .i64 p.fh, .int .i64 p.bl, .int .i64 p.bh, .int .i64 p.ti, .int .i64 p.ne, .int .i64 p.fa, .slice sp len cap] 26))
    clear hT hl
    go_enter Try.func9, Try.ntmps9
    go_wp2_with fail
    refine (nearer_is h1.out (TH.out _ hg0)).mono ?_
    rintro e w1 ⟨rfl, hb1⟩
    have hg1 := Gr.tr hg0 (hb1)
    obtain ⟨hc, hf, hz⟩ := bcell hg1
    go_wp2_with fail
    clear hc hf hz
    refine (nearer_is h2.out (TH.out _ hg1)).mono ?_
    rintro e w2 ⟨rfl, hb2⟩
    have hg2 := Gr.tr hg1 (hb2)
    obtain ⟨hc, hf, hz⟩ := bcell hg2
    go_wp2_with fail
    clear hc hf hz
    refine (nearer_is h3.out (TH.out _ hg2)).mono ?_
    rintro e w3 ⟨rfl, hb3⟩
    have hg3 := Gr.tr hg2 (hb3)
    obtain ⟨hc, hf, hz⟩ := bcell hg3
    go_wp2_with fail
    clear hc hf hz
    refine (nearer_is h4.out (TH.out _ hg3)).mono ?_
    rintro e w4 ⟨rfl, hb4⟩
    have hg4 := Gr.tr hg3 (hb4)
    obtain ⟨hc, hf, hz⟩ := bcell hg4
    go_wp2_with fail
    clear hc hf hz
    refine (distance_is h5.out (TH.out _ hg4)).mono ?_
    rintro e w5 ⟨rfl, hb5⟩
    have hg5 := Gr.tr hg4 (hb5)
    obtain ⟨hc, hf, hz⟩ := bcell hg5
    go_wp2_with fail
    clear hc hf hz
    refine (distance_is h6.out (TH.out _ (hg5.tr (Gr.alloc _ _)))).mono ?_
    rintro e w6 ⟨rfl, hb6⟩
    have hg6 := Gr.tr hg5 ((Gr.alloc _ _).tr hb6)
    obtain ⟨hc, hf, hz⟩ := bcell hg6
    have y50 := ((bcell hb6).1 w5.heap.size 0 (by simp)).trans (show _ = some (.int .i64 xl) by simp)
    have y51 := ((bcell hb6).1 w5.heap.size 1 (by simp)).trans (show _ = some (.int .i64 xh) by simp)
    have k5 : w5.heap.size < w6.heap.size := Nat.lt_of_lt_of_le (by simp) hb6.size
    have k5n : w5.heap.size ≠ w6.heap.size := Nat.ne_of_lt k5
    have k5m : w6.heap.size ≠ w5.heap.size := (Nat.ne_of_lt k5).symm
    go_wp2_with fail
    clear hc hf hz
    refine (awake_any _).mono ?_
    rintro e w7 ⟨rfl, hb7⟩
    have hg7 := Gr.tr hg6 ((Gr.alloc _ _).tr hb7)
    obtain ⟨hc, hf, hz⟩ := bcell hg7
    go_wp2
    go_ret
    exact ⟨rfl, bgr ((Below.refl _ _).alloc (Nat.le_refl _) _) (by first | (simp; done) | (simp; omega) | omega) hg7⟩)
end Go.Proofs.Ytofdoadpaedogaa
