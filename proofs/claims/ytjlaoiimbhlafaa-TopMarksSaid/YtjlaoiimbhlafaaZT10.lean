import Derived.Test.YtjlaoiimbhlafaaZT9
namespace Go.Proofs.Ytjlaoiimbhlafaa.Pq
open Go.RowKit


theorem Wit.iface (w : Wit) : ∃ t x, w.val = .iface t x := by cases w <;> exact ⟨_, _, rfl⟩
/-- A slice value reads as this list of sightings. -/
def SeenAt (l : List Sg) (v : Value) (w : World) : Prop :=
  (l = [] ∧ v = .slice none 0 0) ∨ ∃ b o cap, v = .slice (some ⟨b, o, none⟩) l.length cap ∧ b < w.heap.size ∧ l.length ≤ 1000 ∧
    ∀ i s, l[i]? = some s → w.cell? ⟨b, o + i * 4, none⟩ = some s.wit.val ∧ w.cell? ⟨b, o + i * 4 + 1, none⟩ = some (.int .i64 s.lo) ∧ w.cell? ⟨b, o + i * 4 + 2, none⟩ = some (.int .i64 s.hi) ∧ w.cell? ⟨b, o + i * 4 + 3, none⟩ = some (.bool s.sl)
theorem SeenAt.lasts (l : List Sg) : Lasts (SeenAt l) := fun v W W' h hG => by
  rcases h with h | ⟨b, o, cap, h1, h2, h3, h4⟩
  · exact .inl h
  · refine .inr ⟨b, o, cap, h1, (bcell hG).2.2 _ h2, h3, fun i s hi => ?_⟩
    rw [(bcell hG).1 _ _ h2, (bcell hG).1 _ _ h2, (bcell hG).1 _ _ h2, (bcell hG).1 _ _ h2]; exact h4 i s hi
theorem SeenAt.len {l : List Sg} {v : Value} {w : World} (h : SeenAt l v w) : ∃ p cap, v = .slice p l.length cap ∧ l.length ≤ 1000 := by
  rcases h with ⟨rfl, rfl⟩ | ⟨b, o, cap, h1, h2, h3, h4⟩
  · exact ⟨none, 0, rfl, by simp⟩
  · exact ⟨_, _, h1, h3⟩
set_option maxHeartbeats 400000 in
theorem truths_ok (fl fh bl bh ti ne fa : Int) (th sv : Value) (plo phi : Int) (w : World) (h : plo ≤ phi) :
    Calls Try.prog 89 #[.agg #[.int .i64 fl, .int .i64 fh, .int .i64 bl, .int .i64 bh, .int .i64 ti, .int .i64 ne, .int .i64 fa, th, sv, .int .i64 plo, .int .i64 phi]] w fun e w' => e = .returned (.agg #[.int .i64 plo, .int .i64 phi]) ∧ Below w.heap.size w w' := by
  have d : decide (phi < plo) = false := by simp; omega
  go_enter Try.func89, Try.ntmps89
  go_wp2_with (first | (go_at_call 116; refine (empty_any _ _ _).mono ?_; rintro e w1 ⟨rfl, hb1⟩; obtain ⟨hc1, hf1, hz1⟩ := bcell (hb1)) | (go_at_call 113; refine (require_ok _ _).mono ?_; rintro e w2 ⟨rfl, hb2⟩; obtain ⟨hc2, hf2, hz2⟩ := bcell (Gr.tr hb1 hb2)))
  exact bodyPost_ret (v := .agg #[.int .i64 plo, .int .i64 phi]) (by simp [results, Try.results89, go_sem, hc2]) rfl ⟨rfl, (((bgr (((Below.refl _ _).alloc (by first | (simp; done) | (simp; omega) | omega) _).alloc (by first | (simp; done) | (simp; omega) | omega) _) (by first | (simp; done) | (simp; omega) | omega) (Gr.tr hb1 hb2)).setCell (by first | (simp; done) | (simp; omega) | omega) _).setCell (by first | (simp; done) | (simp; omega) | omega) _)⟩
set_option maxHeartbeats 400000 in
theorem truths_no (fl fh bl bh ti ne fa : Int) (th sv : Value) (plo phi : Int) (w : World) (h : phi < plo) :
    Calls Try.prog 89 #[.agg #[.int .i64 fl, .int .i64 fh, .int .i64 bl, .int .i64 bh, .int .i64 ti, .int .i64 ne, .int .i64 fa, th, sv, .int .i64 plo, .int .i64 phi]] w fun e w' => e = .panicked [{ v := .iface 29 (.int .i64 4), recovered := false }] ∧ Below w.heap.size w w' := by
  have d : decide (phi < plo) = true := by simp; omega
  go_enter Try.func89, Try.ntmps89
  go_wp2_with (first | (go_at_call 116; refine (empty_any _ _ _).mono ?_; rintro e w1 ⟨rfl, hb1⟩; obtain ⟨hc1, hf1, hz1⟩ := bcell (hb1)) | (go_at_call 113; refine (require_no _ _).mono ?_; rintro e w2 ⟨rfl, hb2⟩; obtain ⟨hc2, hf2, hz2⟩ := bcell (Gr.tr hb1 hb2)))
  exact ⟨rfl, rfl, (bgr (((Below.refl _ _).alloc (by first | (simp; done) | (simp; omega) | omega) _).alloc (by first | (simp; done) | (simp; omega) | omega) _) (by first | (simp; done) | (simp; omega) | omega) (Gr.tr hb1 hb2))⟩
set_option maxHeartbeats 400000 in
theorem thing_ok (fl fh bl bh ti ne fa : Int) (th sv : Value) (plo phi : Int) (l : List Sg) (k : Nat) (s : Sg) (w : World) (h : SeenAt l sv w) (hk : l[k]? = some s) :
    Calls Try.prog 85 #[.agg #[.int .i64 fl, .int .i64 fh, .int .i64 bl, .int .i64 bh, .int .i64 ti, .int .i64 ne, .int .i64 fa, th, sv, .int .i64 plo, .int .i64 phi], .int .i64 k] w fun e w' => e = .returned (s.val) ∧ Below w.heap.size w w' := by
  have hlt : k < l.length := (List.getElem?_eq_some_iff.1 hk).1
  rcases h with ⟨rfl, -⟩ | ⟨b, o, cap, rfl, hb, hlen, hc⟩
  · simp at hlt
  obtain ⟨x0, x1, x2, x3⟩ := hc k s hk
  clear hc
  obtain ⟨wit, lo, hi, sl⟩ := s
  show Calls Try.prog 85 _ w fun e w' => e = .returned (.agg #[wit.val, .int .i64 lo, .int .i64 hi, .bool sl]) ∧ Below w.heap.size w w'
  obtain ⟨wt, wx, hwv⟩ := wit.iface
  simp only [hwv] at *
  clear hwv
  have HK := Lib.hid hk
  clear hk
  have hal := @cal
  have hfl := @fal
  have hs1 : b < w.heap.size + 1 := by omega
  have hs2 : b < w.heap.size + 1 + 1 := by omega
  have hs3 : b < w.heap.size + 2 := by omega
  have g0 : decide (0 ≤ (k : Int)) = true := by simp
  have g1 : decide ((k : Int) < (l.length : Int)) = true := by simp; omega
  have g2 : decide (k < l.length) = true := by simp; omega
  skip
  go_enter Try.func85, Try.ntmps85
  go_wp2_with (go_at_call 113; refine (require_ok _ _).mono ?_; rintro e w2 ⟨rfl, hb2⟩; obtain ⟨hc2, hf2, hz2⟩ := bcell (hb2))
  exact bodyPost_ret (v := .agg #[.iface wt wx, .int .i64 lo, .int .i64 hi, .bool sl]) (by simp [results, Try.results85, go_sem, hc2]) rfl ⟨rfl, (((((bgr (((Below.refl _ _).alloc (by first | (simp; done) | (simp; omega) | omega) _).alloc (by first | (simp; done) | (simp; omega) | omega) _) (by first | (simp; done) | (simp; omega) | omega) hb2).setCell (by first | (simp; done) | (simp; omega) | omega) _).setCell (by first | (simp; done) | (simp; omega) | omega) _).setCell (by first | (simp; done) | (simp; omega) | omega) _).setCell (by first | (simp; done) | (simp; omega) | omega) _)⟩
set_option maxHeartbeats 400000 in
theorem thing_no (fl fh bl bh ti ne fa : Int) (th sv : Value) (plo phi : Int) (l : List Sg) (k : Int) (w : World) (h : SeenAt l sv w) (hk : k < 0 ∨ (l.length : Int) ≤ k) :
    Calls Try.prog 85 #[.agg #[.int .i64 fl, .int .i64 fh, .int .i64 bl, .int .i64 bh, .int .i64 ti, .int .i64 ne, .int .i64 fa, th, sv, .int .i64 plo, .int .i64 phi], .int .i64 k] w fun e w' => e = .panicked [{ v := .iface 29 (.int .i64 2), recovered := false }] ∧ Below w.heap.size w w' := by
  obtain ⟨p, cap, rfl, hlen⟩ := h.len
  clear h
  rcases hk with hk | hk
  · have g0 : decide (0 ≤ k) = false := by simp; omega
    have g0' : ¬ 0 ≤ k := by omega
    go_enter Try.func85, Try.ntmps85
    go_wp2_with (go_at_call 113; refine (require_no _ _).mono ?_; rintro e w2 ⟨rfl, hb2⟩; obtain ⟨hc2, hf2, hz2⟩ := bcell (hb2))
    exact ⟨rfl, rfl, (bgr (((Below.refl _ _).alloc (by first | (simp; done) | (simp; omega) | omega) _).alloc (by first | (simp; done) | (simp; omega) | omega) _) (by first | (simp; done) | (simp; omega) | omega) hb2)⟩
  · by_cases hk0 : 0 ≤ k
    · have g0 : decide (0 ≤ k) = true := by simp; omega
      have g1 : decide (k < (l.length : Int)) = false := by simp; omega
      go_enter Try.func85, Try.ntmps85
      go_wp2_with (go_at_call 113; refine (require_no _ _).mono ?_; rintro e w2 ⟨rfl, hb2⟩; obtain ⟨hc2, hf2, hz2⟩ := bcell (hb2))
      exact ⟨rfl, rfl, (bgr (((Below.refl _ _).alloc (by first | (simp; done) | (simp; omega) | omega) _).alloc (by first | (simp; done) | (simp; omega) | omega) _) (by first | (simp; done) | (simp; omega) | omega) hb2)⟩
    · omega
end Go.Proofs.Ytjlaoiimbhlafaa.Pq
