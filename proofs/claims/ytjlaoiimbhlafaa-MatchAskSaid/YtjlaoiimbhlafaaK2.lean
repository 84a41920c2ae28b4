import Derived.Test.YtjlaoiimbhlafaaK1
import Derived.Deep.RegionHeld3
set_option linter.unusedVariables false
set_option linter.unusedSimpArgs false
namespace Go.Proofs.Ytjlaoiimbhlafaa
open Go.RowKit Go.Shelf

open MW
attribute [local go_sem] Oper.semAt_some run_store_func
attribute [local go_sem ↓] Go.wp_at_zero Go.wp_at_succ
/-- Nothing turns but two blocks. -/
def Ox (b b' : Nat) (W W' : World) : Prop := (W'.os = W.os ∧ W'.tape = W.tape ∧ W'.output = W.output ∧ W.heap.size ≤ W'.heap.size) ∧ ∀ k, k < W.heap.size → k ≠ b → k ≠ b' → W'.heap[k]? = W.heap[k]?
theorem Ox.same (b b' : Nat) (W : World) : Ox b b' W W := ⟨⟨rfl, rfl, rfl, Nat.le_refl _⟩, fun _ _ _ _ => rfl⟩
theorem Ox.gr {b b' : Nat} {W W' W'' : World} (h : Ox b b' W W') (g : Gr W' W'') : Ox b b' W W'' :=
  ⟨⟨g.os.trans h.1.1, g.tape.trans h.1.2.1, g.output.trans h.1.2.2.1, Nat.le_trans h.1.2.2.2 g.size⟩, fun k hk h1 h2 => (g.block k (Nat.lt_of_lt_of_le hk h.1.2.2.2)).trans (h.2 k hk h1 h2)⟩
theorem Ox.tr {b b' : Nat} {W W' W'' : World} (h : Ox b b' W W') (g : Ox b b' W' W'') : Ox b b' W W'' :=
  ⟨⟨g.1.1.trans h.1.1, g.1.2.1.trans h.1.2.1, g.1.2.2.1.trans h.1.2.2.1, Nat.le_trans h.1.2.2.2 g.1.2.2.2⟩, fun k hk h1 h2 => (g.2 k (Nat.lt_of_lt_of_le hk h.1.2.2.2) h1 h2).trans (h.2 k hk h1 h2)⟩
theorem Ox.set {b b' c : Nat} {W W' : World} (h : Ox b b' W W') (hc : c = b ∨ c = b') (i : Nat) (x : Value) : Ox b b' W (W'.setCell ⟨c, i, none⟩ x) := by
  have hb := (show Below 0 W' (W'.setCell ⟨c, i, none⟩ x) from Below.setCell (Below.refl _ _) (Nat.zero_le _) _)
  refine ⟨⟨hb.os.trans h.1.1, hb.tape.trans h.1.2.1, hb.output.trans h.1.2.2.1, Nat.le_trans h.1.2.2.2 hb.size⟩, fun k hk h1 h2 => ?_⟩
  rw [Below.heap_setCell _ _ _ _ (by simp; rintro rfl; rcases hc with h | h <;> omega)]
  exact h.2 k hk h1 h2
theorem Ox.below {b b' n0 : Nat} {W W' : World} (h : Ox b b' W W') (h1 : n0 ≤ b) (h2 : n0 ≤ b') (hs : n0 ≤ W.heap.size) : Below n0 W W' :=
  ⟨h.1.1, h.1.2.1, h.1.2.2.1, h.1.2.2.2, fun k hk => h.2 k (by omega) (by omega) (by omega)⟩
theorem Box.ox {b b' c : Nat} {W W' : World} {vs : List Value} {T : TypeId} (h : Box W c vs T) (ho : Ox b b' W W') (h1 : c ≠ b) (h2 : c ≠ b') : Box W' c vs T := by
  have h3 := ho.2 c h.lt h1 h2
  unfold Box at *
  rw [h3, h]
theorem MksAt.ox {b b' : Nat} {W W' : World} {l : List Mrk} {p : Option Addr} (h : MksAt l p W) (ho : Ox b b' W W') (hp : ∀ c o, p = some ⟨c, o, none⟩ → c ≠ b ∧ c ≠ b') : MksAt l p W' := by
  refine ⟨h.1, fun i m hm => ?_⟩
  obtain ⟨c, o, h1, h2, h3, h4, h5, h6⟩ := h.2 i m hm
  have hn := hp c o h1
  have e : ∀ k, W'.cell? ⟨c, k, none⟩ = W.cell? ⟨c, k, none⟩ := fun k => by simp only [World.cell?, ho.2 c h2 hn.1 hn.2]
  exact ⟨c, o, h1, Nat.lt_of_lt_of_le h2 ho.1.2.2.2, by rw [e]; exact h3, by rw [e]; exact h4, by rw [e]; exact h5, by rw [e]; exact h6⟩
theorem MksAt.take {l : List Mrk} {p : Option Addr} {W : World} (h : MksAt l p W) (n : Nat) : MksAt (l.take n) p W :=
  ⟨by have := h.1; simp; omega, fun i m hm => by
    rw [List.getElem?_take] at hm
    split at hm
    · exact h.2 i m hm
    · cases hm⟩
set_option maxRecDepth 100000 in
set_option maxHeartbeats 8000000 in
theorem known_part (r : Rr) (i k : Nat) (b0 b6 bx : Nat) (P : Ending → World → Prop) (wb : World) (pL pR : Option Addr) (cL cR : Nat) (hi : i ≤ r.L.length) (hk : k ≤ r.R.length) (hcL : r.L.length ≤ cL) (hcR : r.R.length ≤ cR) (hL10 : r.L.length ≤ 10) (hR10 : r.R.length ≤ 10)
    (HB0 : Hid (Box wb b6 [.slice none 0 0, .slice none 0 0, .int .i64 0, .int .i64 0, .int .i64 0] 26)) (HBX : Hid (Box wb bx [.slice pL r.L.length cL, .slice pR r.R.length cR, .int .i64 r.s, .int .i64 r.t, .int .i64 r.h] 26)) (hne : b6 ≠ bx)
    (hP : ∀ W', Ox bx b6 wb W' → P (.returned (.tuple #[.agg #[.slice pL i cL, .slice pR k cR, .int .i64 r.s, .int .i64 r.t, .int .i64 r.h], .bool true])) W') {s0 s4 s5 s7 s9 s10 s11 s12 s13 s14 s15 s16 s17 s18 s19 s20 s21 s22 s23 s24 s25 s26 s27 s28 s29 s30 s31 s32 s33 s34 s35 s36 s37 s38 s39 s40 s41 s42 s43 s44 s45 s46 s47 s48 s49 s50 s51 : Value} :
    (Code.snd4 (Code.snd4 (Code.snd4 (Try.f41.body.getD .skip)))).wp Try.prog (bodyPost Try.prog Try.f41 P) { tmps := #[s0, .int .i64 i, .int .i64 k, .pointer (some ⟨b0, 0, none⟩), s4, s5, .pointer (some ⟨b6, 0, none⟩), s7, .pointer (some ⟨bx, 0, none⟩), s9, s10, s11, s12, s13, s14, s15, s16, s17, s18, s19, s20, s21, s22, s23, s24, s25, s26, s27, s28, s29, s30, s31, s32, s33, s34, s35, s36, s37, s38, s39, s40, s41, s42, s43, s44, s45, s46, s47, s48, s49, s50, s51], defers := [] } wb := by
  conv => arg 2; whnf
  obtain ⟨x0, x1, x2, x3, x4⟩ := cells5 HBX.out
  have xl := HBX.out.lt
  have xf0 := HBX.out.free 0
  have xf1 := HBX.out.free 1
  have HPP := Lib.hid hP
  clear hP
  have e1 : ((k : Int) == -1) = false := by first | (simp; done) | (simp; omega)
  have g1 : (i : Int) ≤ cL := by omega
  have g2 : (k : Int) ≤ cR := by omega
  go_wp2_with fail
  go_region
  have HO := Lib.hid ((((Ox.same bx b6 wb).set (.inl rfl) 0 (.slice pL i cL)).set (.inl rfl) 1 (.slice pR k cR)).gr (Gr.drew _))
  have HB8 := Lib.hid (show Box (((wb.setCell ⟨bx, 0, none⟩ (.slice pL i cL)).setCell ⟨bx, 1, none⟩ (.slice pR k cR)).drew) bx [.slice pL i cL, .slice pR k cR, .int .i64 r.s, .int .i64 r.t, .int .i64 r.h] 26 from ((HBX.out.put 0 (.slice pL i cL)).put 1 (.slice pR k cR)).grow (Gr.drew _))
  have HB6 := Lib.hid (((HB0.out.other hne 0 (.slice pL i cL)).other hne 1 (.slice pR k cR)).grow (Gr.drew _))
  clear HBX HB0 x0 x1 x2 x3 x4 xl xf0 xf1
  generalize (((wb.setCell ⟨bx, 0, none⟩ (.slice pL i cL)).setCell ⟨bx, 1, none⟩ (.slice pR k cR)).drew) = wc at *
  obtain ⟨x0, x1, x2, x3, x4⟩ := cells5 HB8.out
  have xl := HB8.out.lt
  obtain ⟨y0, y1, y2, y3, y4⟩ := cells5 HB6.out
  have yl := HB6.out.lt
  have yf0 := HB6.out.free 0
  have yf1 := HB6.out.free 1
  have yf2 := HB6.out.free 2
  have yf3 := HB6.out.free 3
  have yf4 := HB6.out.free 4
  go_wp2_with fail
  exact bodyPost_ret (v := .tuple #[.agg #[.slice pL i cL, .slice pR k cR, .int .i64 r.s, .int .i64 r.t, .int .i64 r.h], .bool true]) (by simp [results, Try.f41, go_sem, *]) rfl (HPP.out _ (((((HO.out.set (.inr rfl) 0 _).set (.inr rfl) 1 _).set (.inr rfl) 2 _).set (.inr rfl) 3 _).set (.inr rfl) 4 _))

end Go.Proofs.Ytjlaoiimbhlafaa
