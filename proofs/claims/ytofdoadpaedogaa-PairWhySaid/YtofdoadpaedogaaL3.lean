import Derived.Test.YtofdoadpaedogaaL0
import Derived.BigQuiet
namespace Go.Proofs.Ytofdoadpaedogaa
open Go.RowKit

set_option maxRecDepth 100000 in
set_option maxHeartbeats 4000000 in
theorem why_many (p : Pr) (sp : Option Addr) (len cap : Nat) (n : Int) (w : World) (hl : 40 < len) :
    Calls Try.prog 7 #[.agg #[.int .i64 p.fl, .int .i64 p.fh, .int .i64 p.bl, .int .i64 p.bh, .int .i64 p.ti, .int .i64 p.ne, .int .i64 p.fa, .slice sp len cap], .int .i64 n] w fun e w' => e = .returned (.bool true) ∧ Below w.heap.size w w' := by
  have d : decide (40 < (len : Int)) = true := by simp; omega
  have d' : decide (40 < len) = true := by simp; omega
  clear hl
  go_enter Try.func7, Try.ntmps7
  go_wp2_with fail
  refine (awake_any _).mono ?_
  rintro e w1 ⟨rfl, hb1⟩
  go_wp2
  go_ret
  exact ⟨rfl, (bgr ((Below.refl _ _).alloc (by first | (simp; done) | (simp; omega) | omega) _) (by first | (simp; done) | (simp; omega) | omega) hb1)⟩
set_option maxRecDepth 100000 in
set_option maxHeartbeats 4000000 in
theorem why_err (p : Pr) (sp : Option Addr) (len cap : Nat) (n : Int) (w : World) (hl : len ≤ 40) (hT : ThingsAt p.l (.slice sp len cap) w) (lo hi P Q x f g : Int) (ok : Bool) (h1 : Hid (p.why n = (0, x))) (h2 : Hid (p.shift n = (lo, hi, f))) (h3 : Hid (p.power = (P, Q, g))) (h4 : Hid (p.ok = ok)) (hx : (ok = false ∧ x = 1 ∧ f = 1 ∧ g = 1) ∨ (ok = true ∧ x = 2 ∧ f = 2 ∧ (g == 2) = false) ∨ (ok = true ∧ x = 4 ∧ f = 0 ∧ g = 4)) :
    Calls Try.prog 7 #[.agg #[.int .i64 p.fl, .int .i64 p.fh, .int .i64 p.bl, .int .i64 p.bh, .int .i64 p.ti, .int .i64 p.ne, .int .i64 p.fa, .slice sp len cap], .int .i64 n] w fun e w' => e = .returned (.bool true) ∧ Below w.heap.size w w' := by
  rcases hx with ⟨rfl, rfl, rfl, rfl⟩ | ⟨rfl, rfl, rfl, hg2⟩ | ⟨rfl, rfl, rfl, rfl⟩
  all_goals (
    have d : decide (40 < (len : Int)) = false := by simp; omega
    have d' : decide (40 < len) = false := by simp; omega
    have TH := Lib.hid (fun (W : World) (hg : Gr (w.alloc (.cells #[.int .i64 p.fl, .int .i64 p.fh, .int .i64 p.bl, .int .i64 p.bh, .int .i64 p.ti, .int .i64 p.ne, .int .i64 p.fa, .slice sp len cap] 26)) W) => ThingsAt.lasts p.l _ _ _ hT ((Gr.alloc _ _).tr hg))
    have hg0 := Gr.same (w.alloc (.cells #[.int .i64 p.fl, .int .i64 p.fh, .int .i64 p.bl, .int .i64 p.bh, .int .i64 p.ti, .int .i64 p.ne, .int .i64 p.fa, .slice sp len cap] 26))
    clear hT hl
    go_enter Try.func7, Try.ntmps7
    go_wp2_with fail
    refine (why_is h1.out (TH.out _ hg0)).mono ?_
    rintro e w1 ⟨rfl, hb1⟩
    have gg1 : Gr _ _ := hb1
    have hg1 := Gr.tr hg0 gg1
    obtain ⟨hc, hf, hz⟩ := bcell hg1
    go_wp2_with fail
    clear hc hf hz
    refine (shift_is h2.out (TH.out _ hg1)).mono ?_
    rintro e w2 ⟨rfl, hb2⟩
    have gg2 : Gr _ _ := hb2
    have hg2 := Gr.tr hg1 gg2
    obtain ⟨hc, hf, hz⟩ := bcell hg2
    go_wp2_with fail
    clear hc hf hz
    refine (power_is h3.out (TH.out _ (hg2.tr (Gr.alloc _ _)))).mono ?_
    rintro e w3 ⟨rfl, hb3⟩
    have gg3 : Gr _ _ := (Gr.alloc _ _).tr hb3
    have hg3 := Gr.tr hg2 gg3
    obtain ⟨hc, hf, hz⟩ := bcell hg3
    go_wp2_with fail
    clear hc hf hz
    refine (rpair_is h4.out (TH.out _ (hg3.tr (Gr.alloc _ _)))).mono ?_
    rintro e w4 ⟨rfl, hb4⟩
    have gg4 : Gr _ _ := (Gr.alloc _ _).tr hb4
    have hg4 := Gr.tr hg3 gg4
    obtain ⟨hc, hf, hz⟩ := bcell hg4
    go_wp2_with fail
    clear hc hf hz
    refine (awake_any _).mono ?_
    rintro e w5 ⟨rfl, hb5⟩
    have gg5 : Gr _ _ := hb5
    have hg5 := Gr.tr hg4 gg5
    obtain ⟨hc, hf, hz⟩ := bcell hg5
    go_wp2
    go_ret
    exact ⟨rfl, bgr ((Below.refl _ _).alloc (Nat.le_refl _) _) (by first | (simp; done) | (simp; omega) | omega) hg5⟩)
end Go.Proofs.Ytofdoadpaedogaa
