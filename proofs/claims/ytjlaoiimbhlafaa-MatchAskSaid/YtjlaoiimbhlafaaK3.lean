import Derived.Test.YtjlaoiimbhlafaaK2
import Derived.Deep.RegionLaw
import Derived.Deep.RegionHeld3
set_option linter.unusedVariables false
set_option linter.unusedSimpArgs false
namespace Go.Proofs.Ytjlaoiimbhlafaa
open Go.RowKit Go.Shelf

open MW
attribute [local go_sem] Oper.semAt_some run_store_func
attribute [local go_sem ↓] Go.wp_at_zero Go.wp_at_succ
theorem cs_len (m : Mrk) : m.cs.length = 4 := rfl
theorem flat_cs_len (l : List Mrk) : (l.flatMap Mrk.cs).length = l.length * 4 := by
  induction l with
  | nil => rfl
  | cons m l ih => rw [List.flatMap_cons, List.length_append, ih, List.length_cons, cs_len]; omega
theorem cs_one (l : List Mrk) : ∀ u ∈ l.flatMap Mrk.cs, u.oneCell' = true := by
  intro u hu
  obtain ⟨x, -, hx⟩ := List.mem_flatMap.1 hu
  unfold Mrk.cs at hx
  simp only [List.mem_cons, List.not_mem_nil, or_false] at hx
  rcases hx with rfl | rfl | rfl | rfl <;> rfl
theorem flat_drop (l : List Mrk) (n : Nat) (hn : n ≤ l.length) (j : Nat) : ((l.drop n).flatMap Mrk.cs)[j]? = (l.flatMap Mrk.cs)[n * 4 + j]? := by
  have h : l.flatMap Mrk.cs = (l.take n).flatMap Mrk.cs ++ (l.drop n).flatMap Mrk.cs := by rw [← List.flatMap_append, List.take_append_drop]
  rw [h, List.getElem?_append_right (by rw [flat_cs_len]; simp; omega), flat_cs_len]
  congr 1
  simp
  omega
theorem heap_setC (b : Nat) : ∀ (vs : List Value) (o : Nat) (w : World) (k : Nat), k ≠ b → (w.setCells b o vs).heap[k]? = w.heap[k]?
  | [], _, _, _, _ => rfl
  | v :: r, o, w, k, hk => by
    rw [World.setCells, heap_setC b r (o + 1) _ k hk, Below.heap_setCell _ _ _ _ (by simpa using hk)]
theorem addg (g o i : Nat) : ((⟨g, o, none⟩ : Addr).add i) = ⟨g, o + i, none⟩ := by unfold Addr.add; by_cases h : i = 0 <;> simp [h]
set_option maxRecDepth 100000 in
set_option maxHeartbeats 8000000 in
theorem known_none (r : Rr) (i : Nat) (b0 b6 bx g : Nat) (P : Ending → World → Prop) (wb : World) (pR : Option Addr) (cL cR : Nat) (hi : i < r.L.length) (hcL : r.L.length ≤ cL) (hL10 : r.L.length ≤ 10) (hR10 : r.R.length ≤ 10) (hh : 0 ≤ r.h ∧ r.h ≤ 20)
    (HB : Hid (Box wb b0 [.slice r.lp r.L.length r.lc, .slice r.rp r.R.length r.rc, .int .i64 r.s, .int .i64 r.t, .int .i64 r.h] 26))
    (HB0 : Hid (Box wb b6 [.slice none 0 0, .slice none 0 0, .int .i64 0, .int .i64 0, .int .i64 0] 26)) (HBX : Hid (Box wb bx [.slice (some ⟨g, 0, none⟩) r.L.length cL, .slice pR r.R.length cR, .int .i64 r.s, .int .i64 r.t, .int .i64 r.h] 26)) (hne : b6 ≠ bx) (hne0 : b0 ≠ bx) (hgx : g ≠ bx)
    (hfl : ∀ j u, (r.L.flatMap Mrk.cs)[j]? = some u → wb.cell? ⟨g, j, none⟩ = some u) (hfz : ∀ j, wb.frozen? ⟨g, j, none⟩ = false) (hgl : g < wb.heap.size) (hg0 : b0 ≠ g) (hg6 : b6 ≠ g) (hb60 : b0 ≠ b6) (hP : ∀ W', Ox bx b6 (wb.drew.setCells g (i * 4) ((r.L.drop (i + 1)).flatMap Mrk.cs)) W' → P (.returned (.tuple #[.agg #[.slice (some ⟨g, 0, none⟩) (i + (r.L.length - (i + 1))) cL, .slice pR r.R.length cR, .int .i64 r.s, .int .i64 r.t, .int .i64 (r.h - 1)], .bool (decide (1 ≤ r.h))])) W') {s0 s4 s5 s7 s9 s10 s11 s12 s13 s14 s15 s16 s17 s18 s19 s20 s21 s22 s23 s24 s25 s26 s27 s28 s29 s30 s31 s32 s33 s34 s35 s36 s37 s38 s39 s40 s41 s42 s43 s44 s45 s46 s47 s48 s49 s50 s51 : Value} :
    (Code.snd4 (Code.snd4 (Code.snd4 (Try.f41.body.getD .skip)))).wp Try.prog (bodyPost Try.prog Try.f41 P) { tmps := #[s0, .int .i64 i, .int .i64 (-1), .pointer (some ⟨b0, 0, none⟩), s4, s5, .pointer (some ⟨b6, 0, none⟩), s7, .pointer (some ⟨bx, 0, none⟩), s9, s10, s11, s12, s13, s14, s15, s16, s17, s18, s19, s20, s21, s22, s23, s24, s25, s26, s27, s28, s29, s30, s31, s32, s33, s34, s35, s36, s37, s38, s39, s40, s41, s42, s43, s44, s45, s46, s47, s48, s49, s50, s51], defers := [] } wb := by
  conv => arg 2; whnf
  obtain ⟨x0, x1, x2, x3, x4⟩ := cells5 HBX.out
  have xl := HBX.out.lt
  have xf0 := HBX.out.free 0
  have g1 : (i : Int) ≤ cL := by omega
  have g2 : (i : Int) + 1 ≤ r.L.length := by omega
  have g3 : (r.L.length : Int) ≤ cL := by omega
  have g4 : (0 : Int) ≤ (i : Int) + 1 := by omega
  obtain ⟨i0, ii0, iz0, iz1, iz2⟩ := infoP info65p
  have HFL := Lib.hid hfl
  have HFZ := Lib.hid hfz
  have HPP := Lib.hid hP
  clear hfl hfz hP
  have hwr : IntKind.i64.wrap ((i : Int) + 1) = ((i + 1 : Nat) : Int) := by rw [IntWalk.i64_in _ (by omega)]; omega
  have hn1 : ((r.L.drop (i + 1)).flatMap Mrk.cs).length = (r.L.length - (i + 1)) * 4 := by rw [flat_cs_len]; simp
  have hsp : ∀ j, j < ((r.L.drop (i + 1)).flatMap Mrk.cs).length → (wb.drew.cell? ⟨g, 0 + i * 4 + j, none⟩).isSome = true ∧ wb.drew.frozen? ⟨g, 0 + i * 4 + j, none⟩ = false := fun j hj => by
    obtain ⟨u, hu⟩ : ∃ u, (r.L.flatMap Mrk.cs)[i * 4 + j]? = some u := ⟨_, List.getElem?_eq_getElem (by rw [flat_cs_len]; omega)⟩
    have h1 := HFL.out _ u hu
    rw [Nat.zero_add]
    exact ⟨by rw [show wb.drew.cell? ⟨g, i * 4 + j, none⟩ = wb.cell? ⟨g, i * 4 + j, none⟩ from rfl, h1]; rfl, HFZ.out _⟩
  have h1c := cs_one (r.L.drop (i + 1))
  have HN1 := Lib.hid hn1
  have HSP := Lib.hid hsp
  have H1C := Lib.hid h1c
  have II0 := Lib.hid ii0
  have IZ1 := Lib.hid iz1
  clear hn1 hsp h1c ii0 iz0 iz1 iz2
  go_wp2_with fail
  by_cases hcc : cL = i + 1
  · subst hcc
    have e0 : r.L.length - (i + 1) = 0 := by omega
    rw [e0] at HN1
    rw [e0, Nat.add_zero] at HPP
    clear e0
    have g5 : (i : Int) ≤ (i : Int) + 1 := by omega
    have g6 : (r.L.length : Int) ≤ (i : Int) + 1 := by omega
    have HC := Lib.hid (show ∀ j u, ((r.L.drop (i + 1)).flatMap Mrk.cs)[j]? = some u → wb.drew.cell? ((⟨g, 0, none⟩ : Addr).add j) = some u from fun j u hu => by
      rw [List.drop_eq_nil_of_le (by omega)] at hu
      cases hu)
    have hx0 : (wb.drew.setCells g (i * 4) ((r.L.drop (i + 1)).flatMap Mrk.cs)).cell? ⟨bx, 0, none⟩ = some (.slice (some ⟨g, 0, none⟩) r.L.length (i + 1)) := by
      rw [World.cell?_setCells_out _ _ _ _ _ (fun h => absurd h.symm hgx)]
      exact x0
    have hx1 : (wb.drew.setCells g (i * 4) ((r.L.drop (i + 1)).flatMap Mrk.cs)).frozen? ⟨bx, 0, none⟩ = false := by
      rw [World.frozen?_setCells]
      exact xf0
    go_region_law (refine step_append_room rfl (.tmp 25) (.tmp 30) 22 rfl 65 i0 4 Try.underlying22 II0.out IZ1.out g 0 i (i + 1) (by simp [Act.eval, Act.put]) ⟨g, 0, none⟩ 0 0 ((r.L.drop (i + 1)).flatMap Mrk.cs) (by simp [Act.eval, Act.put]) HN1.out HC.out H1C.out (by omega) HSP.out ?_)
    all_goals
      clear hx0 hx1 x0 x1 x2 x3 x4 xl xf0
      have HZX := Lib.hid (show Box (wb.drew.setCells g (i * 4) ((r.L.drop (i + 1)).flatMap Mrk.cs)) bx [.slice (some ⟨g, 0, none⟩) r.L.length (i + 1), .slice pR r.R.length cR, .int .i64 r.s, .int .i64 r.t, .int .i64 r.h] 26 by
        have h := HBX.out
        unfold Box at h ⊢
        rw [heap_setC _ _ _ _ _ (fun e => hgx e.symm)]
        exact h)
      have HZ6 := Lib.hid (show Box (wb.drew.setCells g (i * 4) ((r.L.drop (i + 1)).flatMap Mrk.cs)) b6 [.slice none 0 0, .slice none 0 0, .int .i64 0, .int .i64 0, .int .i64 0] 26 by
        have h := HB0.out
        unfold Box at h ⊢
        rw [heap_setC _ _ _ _ _ hg6]
        exact h)
      have HZ0 := Lib.hid (show Box (wb.drew.setCells g (i * 4) ((r.L.drop (i + 1)).flatMap Mrk.cs)) b0 [.slice r.lp r.L.length r.lc, .slice r.rp r.R.length r.rc, .int .i64 r.s, .int .i64 r.t, .int .i64 r.h] 26 by
        have h := HB.out
        unfold Box at h ⊢
        rw [heap_setC _ _ _ _ _ hg0]
        exact h)
      have HOX := Lib.hid (Ox.same bx b6 (wb.drew.setCells g (i * 4) ((r.L.drop (i + 1)).flatMap Mrk.cs)))
      generalize wb.drew.setCells g (i * 4) ((r.L.drop (i + 1)).flatMap Mrk.cs) = wq at *
      have HY := Lib.hid (HZX.out.put 0 (.slice (some ⟨g, 0, none⟩) i (i + 1)))
      have HY0 := Lib.hid (HZ0.out.other hne0 0 (.slice (some ⟨g, 0, none⟩) i (i + 1)))
      obtain ⟨z0, z1, z2, z3, z4⟩ := cells5 HY0.out
      have zl := HY0.out.lt
      obtain ⟨y0, y1, y2, y3, y4⟩ := cells5 (show Box _ bx [.slice (some ⟨g, 0, none⟩) i (i + 1), .slice pR r.R.length cR, .int .i64 r.s, .int .i64 r.t, .int .i64 r.h] 26 from HY.out)
      have yl := HY.out.lt
      have yf4 := HY.out.free 4
      have hh1 : IntKind.i64.wrap (r.h - 1) = r.h - 1 := IntWalk.i64_in _ (by omega)
      go_wp2_with fail
      have HN := Lib.hid (show Box ((wq.setCell ⟨bx, 0, none⟩ (.slice (some ⟨g, 0, none⟩) i (i + 1))).setCell ⟨bx, 4, none⟩ (.int .i64 (r.h - 1))) bx [(.slice (some ⟨g, 0, none⟩) i (i + 1)), .slice pR r.R.length cR, .int .i64 r.s, .int .i64 r.t, .int .i64 (r.h - 1)] 26 from HY.out.put 4 (.int .i64 (r.h - 1)))
      have HN6 := Lib.hid ((HZ6.out.other hne 0 (.slice (some ⟨g, 0, none⟩) i (i + 1))).other hne 4 (.int .i64 (r.h - 1)))
      have HOY := Lib.hid ((HOX.out.set (.inl rfl) 0 (.slice (some ⟨g, 0, none⟩) i (i + 1))).set (.inl rfl) 4 (.int .i64 (r.h - 1)))
      clear HY HY0 HZX HZ6 HZ0 z0 z1 z2 z3 z4 zl y0 y1 y2 y3 y4 yl yf4 hh1
      generalize ((wq.setCell ⟨bx, 0, none⟩ (.slice (some ⟨g, 0, none⟩) i (i + 1))).setCell ⟨bx, 4, none⟩ (.int .i64 (r.h - 1))) = wn at *
      obtain ⟨z0, z1, z2, z3, z4⟩ := cells5 HN.out
      have zl := HN.out.lt
      obtain ⟨y0, y1, y2, y3, y4⟩ := cells5 HN6.out
      have yl := HN6.out.lt
      have yf0 := HN6.out.free 0
      have yf1 := HN6.out.free 1
      have yf2 := HN6.out.free 2
      have yf3 := HN6.out.free 3
      have yf4 := HN6.out.free 4
      have hne' := hne.symm
      go_region
      have HOZ := Lib.hid ((((((HOY.out.set (.inr rfl) 0 (.slice (some ⟨g, 0, none⟩) i (i + 1))).set (.inr rfl) 1 (.slice pR r.R.length cR)).set (.inr rfl) 2 (.int .i64 r.s)).set (.inr rfl) 3 (.int .i64 r.t)).set (.inr rfl) 4 (.int .i64 (r.h - 1))).gr (Gr.drew _))
      have HBZ := Lib.hid ((((((HN6.out.put 0 (.slice (some ⟨g, 0, none⟩) i (i + 1))).put 1 (.slice pR r.R.length cR)).put 2 (.int .i64 r.s)).put 3 (.int .i64 r.t)).put 4 (.int .i64 (r.h - 1))).grow (Gr.drew _))
      generalize (((((wn.setCell ⟨b6, 0, none⟩ (.slice (some ⟨g, 0, none⟩) i (i + 1))).setCell ⟨b6, 1, none⟩ (.slice pR r.R.length cR)).setCell ⟨b6, 2, none⟩ (.int .i64 r.s)).setCell ⟨b6, 3, none⟩ (.int .i64 r.t)).setCell ⟨b6, 4, none⟩ (.int .i64 (r.h - 1))).drew = wz at *
      clear z0 z1 z2 z3 z4 zl y0 y1 y2 y3 y4 yl yf0 yf1 yf2 yf3 yf4
      obtain ⟨z0, z1, z2, z3, z4⟩ := cells5 (show Box wz b6 [(.slice (some ⟨g, 0, none⟩) i (i + 1)), .slice pR r.R.length cR, .int .i64 r.s, .int .i64 r.t, .int .i64 (r.h - 1)] 26 from HBZ.out)
      have zl := HBZ.out.lt
      go_wp2_with fail
      exact bodyPost_ret (v := .tuple #[.agg #[.slice (some ⟨g, 0, none⟩) i (i + 1), .slice pR r.R.length cR, .int .i64 r.s, .int .i64 r.t, .int .i64 (r.h - 1)], .bool (decide (1 ≤ r.h))]) (by simp [results, Try.f41, go_sem, *]) rfl (HPP.out _ HOZ.out)
  · have HC := Lib.hid (show ∀ j u, ((r.L.drop (i + 1)).flatMap Mrk.cs)[j]? = some u → wb.drew.cell? ((⟨g, (i + 1) * 4, none⟩ : Addr).add j) = some u from fun j u hu => by
      rw [flat_drop _ _ (by omega)] at hu
      rw [addg]
      exact HFL.out _ u hu)
    have hx0 : (wb.drew.setCells g (i * 4) ((r.L.drop (i + 1)).flatMap Mrk.cs)).cell? ⟨bx, 0, none⟩ = some (.slice (some ⟨g, 0, none⟩) r.L.length cL) := by
      rw [World.cell?_setCells_out _ _ _ _ _ (fun h => absurd h.symm hgx)]
      exact x0
    have hx1 : (wb.drew.setCells g (i * 4) ((r.L.drop (i + 1)).flatMap Mrk.cs)).frozen? ⟨bx, 0, none⟩ = false := by
      rw [World.frozen?_setCells]
      exact xf0
    go_region_law (refine step_append_room rfl (.tmp 25) (.tmp 30) 22 rfl 65 i0 4 Try.underlying22 II0.out IZ1.out g 0 i cL (by simp [Act.eval, Act.put]) ⟨g, (i + 1) * 4, none⟩ (r.L.length - (i + 1)) (cL - (i + 1)) ((r.L.drop (i + 1)).flatMap Mrk.cs) (by simp [Act.eval, Act.put]) HN1.out HC.out H1C.out (by omega) HSP.out ?_)
    all_goals
      clear hx0 hx1 x0 x1 x2 x3 x4 xl xf0
      have HZX := Lib.hid (show Box (wb.drew.setCells g (i * 4) ((r.L.drop (i + 1)).flatMap Mrk.cs)) bx [.slice (some ⟨g, 0, none⟩) r.L.length cL, .slice pR r.R.length cR, .int .i64 r.s, .int .i64 r.t, .int .i64 r.h] 26 by
        have h := HBX.out
        unfold Box at h ⊢
        rw [heap_setC _ _ _ _ _ (fun e => hgx e.symm)]
        exact h)
      have HZ6 := Lib.hid (show Box (wb.drew.setCells g (i * 4) ((r.L.drop (i + 1)).flatMap Mrk.cs)) b6 [.slice none 0 0, .slice none 0 0, .int .i64 0, .int .i64 0, .int .i64 0] 26 by
        have h := HB0.out
        unfold Box at h ⊢
        rw [heap_setC _ _ _ _ _ hg6]
        exact h)
      have HZ0 := Lib.hid (show Box (wb.drew.setCells g (i * 4) ((r.L.drop (i + 1)).flatMap Mrk.cs)) b0 [.slice r.lp r.L.length r.lc, .slice r.rp r.R.length r.rc, .int .i64 r.s, .int .i64 r.t, .int .i64 r.h] 26 by
        have h := HB.out
        unfold Box at h ⊢
        rw [heap_setC _ _ _ _ _ hg0]
        exact h)
      have HOX := Lib.hid (Ox.same bx b6 (wb.drew.setCells g (i * 4) ((r.L.drop (i + 1)).flatMap Mrk.cs)))
      generalize wb.drew.setCells g (i * 4) ((r.L.drop (i + 1)).flatMap Mrk.cs) = wq at *
      have HY := Lib.hid (HZX.out.put 0 (.slice (some ⟨g, 0, none⟩) (i + (r.L.length - (i + 1))) cL))
      have HY0 := Lib.hid (HZ0.out.other hne0 0 (.slice (some ⟨g, 0, none⟩) (i + (r.L.length - (i + 1))) cL))
      obtain ⟨z0, z1, z2, z3, z4⟩ := cells5 HY0.out
      have zl := HY0.out.lt
      obtain ⟨y0, y1, y2, y3, y4⟩ := cells5 (show Box _ bx [.slice (some ⟨g, 0, none⟩) (i + (r.L.length - (i + 1))) cL, .slice pR r.R.length cR, .int .i64 r.s, .int .i64 r.t, .int .i64 r.h] 26 from HY.out)
      have yl := HY.out.lt
      have yf4 := HY.out.free 4
      have hh1 : IntKind.i64.wrap (r.h - 1) = r.h - 1 := IntWalk.i64_in _ (by omega)
      go_wp2_with fail
      have HN := Lib.hid (show Box ((wq.setCell ⟨bx, 0, none⟩ (.slice (some ⟨g, 0, none⟩) (i + (r.L.length - (i + 1))) cL)).setCell ⟨bx, 4, none⟩ (.int .i64 (r.h - 1))) bx [(.slice (some ⟨g, 0, none⟩) (i + (r.L.length - (i + 1))) cL), .slice pR r.R.length cR, .int .i64 r.s, .int .i64 r.t, .int .i64 (r.h - 1)] 26 from HY.out.put 4 (.int .i64 (r.h - 1)))
      have HN6 := Lib.hid ((HZ6.out.other hne 0 (.slice (some ⟨g, 0, none⟩) (i + (r.L.length - (i + 1))) cL)).other hne 4 (.int .i64 (r.h - 1)))
      have HOY := Lib.hid ((HOX.out.set (.inl rfl) 0 (.slice (some ⟨g, 0, none⟩) (i + (r.L.length - (i + 1))) cL)).set (.inl rfl) 4 (.int .i64 (r.h - 1)))
      clear HY HY0 HZX HZ6 HZ0 z0 z1 z2 z3 z4 zl y0 y1 y2 y3 y4 yl yf4 hh1
      generalize ((wq.setCell ⟨bx, 0, none⟩ (.slice (some ⟨g, 0, none⟩) (i + (r.L.length - (i + 1))) cL)).setCell ⟨bx, 4, none⟩ (.int .i64 (r.h - 1))) = wn at *
      obtain ⟨z0, z1, z2, z3, z4⟩ := cells5 HN.out
      have zl := HN.out.lt
      obtain ⟨y0, y1, y2, y3, y4⟩ := cells5 HN6.out
      have yl := HN6.out.lt
      have yf0 := HN6.out.free 0
      have yf1 := HN6.out.free 1
      have yf2 := HN6.out.free 2
      have yf3 := HN6.out.free 3
      have yf4 := HN6.out.free 4
      have hne' := hne.symm
      go_region
      have HOZ := Lib.hid ((((((HOY.out.set (.inr rfl) 0 (.slice (some ⟨g, 0, none⟩) (i + (r.L.length - (i + 1))) cL)).set (.inr rfl) 1 (.slice pR r.R.length cR)).set (.inr rfl) 2 (.int .i64 r.s)).set (.inr rfl) 3 (.int .i64 r.t)).set (.inr rfl) 4 (.int .i64 (r.h - 1))).gr (Gr.drew _))
      have HBZ := Lib.hid ((((((HN6.out.put 0 (.slice (some ⟨g, 0, none⟩) (i + (r.L.length - (i + 1))) cL)).put 1 (.slice pR r.R.length cR)).put 2 (.int .i64 r.s)).put 3 (.int .i64 r.t)).put 4 (.int .i64 (r.h - 1))).grow (Gr.drew _))
      generalize (((((wn.setCell ⟨b6, 0, none⟩ (.slice (some ⟨g, 0, none⟩) (i + (r.L.length - (i + 1))) cL)).setCell ⟨b6, 1, none⟩ (.slice pR r.R.length cR)).setCell ⟨b6, 2, none⟩ (.int .i64 r.s)).setCell ⟨b6, 3, none⟩ (.int .i64 r.t)).setCell ⟨b6, 4, none⟩ (.int .i64 (r.h - 1))).drew = wz at *
      clear z0 z1 z2 z3 z4 zl y0 y1 y2 y3 y4 yl yf0 yf1 yf2 yf3 yf4
      obtain ⟨z0, z1, z2, z3, z4⟩ := cells5 (show Box wz b6 [(.slice (some ⟨g, 0, none⟩) (i + (r.L.length - (i + 1))) cL), .slice pR r.R.length cR, .int .i64 r.s, .int .i64 r.t, .int .i64 (r.h - 1)] 26 from HBZ.out)
      have zl := HBZ.out.lt
      go_wp2_with fail
      exact bodyPost_ret (v := .tuple #[.agg #[.slice (some ⟨g, 0, none⟩) (i + (r.L.length - (i + 1))) cL, .slice pR r.R.length cR, .int .i64 r.s, .int .i64 r.t, .int .i64 (r.h - 1)], .bool (decide (1 ≤ r.h))]) (by simp [results, Try.f41, go_sem, *]) rfl (HPP.out _ HOZ.out)

end Go.Proofs.Ytjlaoiimbhlafaa
