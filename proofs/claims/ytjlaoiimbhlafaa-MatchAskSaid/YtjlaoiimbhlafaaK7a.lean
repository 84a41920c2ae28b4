import Derived.Test.YtjlaoiimbhlafaaK6
import Derived.Test.YtjlaoiimbhlafaaK4
set_option linter.unusedVariables false
set_option linter.unusedSimpArgs false
namespace Go.Proofs.Ytjlaoiimbhlafaa
open Go.RowKit Go.Shelf

open MW
attribute [local go_sem] Oper.semAt_some run_store_func
attribute [local go_sem ↓] Go.wp_at_zero Go.wp_at_succ
theorem wr1 (c x z : Int) (h0 : 0 ≤ c) (h1 : c ≤ c + x * z) (h2 : c + x * z ≤ 25937424601) : wrap64 (x * z) = x * z ∧ wrap64 (c + x * z) = c + x * z := by
  generalize x * z = p at *
  exact ⟨IntWalk.wrap64_in _ (by omega), IntWalk.wrap64_in _ (by omega)⟩
theorem wr2 (x : Nat) (h : x ≤ 25937424601) : wrap64 (x : Int) = x := IntWalk.wrap64_in _ (by omega)
theorem wr3 (x y : Nat) (hx : x ≤ 25937424601) (hy : y ≤ 25937424601) : wrap64 ((x : Int) - y) = (x : Int) - y := IntWalk.wrap64_in _ (by omega)
def Code.lft : Code → Code
  | .seq a _ => a
  | .cond _ a _ => a
  | .block _ a => a
  | .loop a => a
  | .scope a => a
  | c => c
def Code.rgt : Code → Code
  | .seq _ b => b
  | .cond _ _ b => b
  | c => c
set_option maxRecDepth 100000 in
set_option maxHeartbeats 8000000 in
theorem worst_round (r : Rr) (i k n b0 b19 b20 nl dl nr dr cL cR : Nat) (pL pR qL qR : Option Addr) (v0 v1 : Value) (wq wv : World) (Q : Exit → Act → World → Prop)
    (H18A : Hid (∀ (W : World) (n : Int), MksAt (r.L.take i) pL W → MksAt (r.R.take k) pR W → 0 ≤ n → n ≤ 20 → Calls Try.prog 18 #[.agg #[.slice pL i cL, .slice pR k cR, .int .i64 r.s, .int .i64 r.t, .int .i64 n]] W fun e w' => e = .returned (.tuple #[.int .i64 (r.nA i k n : Nat), .int .i64 0]) ∧ Below W.heap.size W w'))
    (H18B : Hid (∀ (W : World) (n : Int), MksAt (r.L.drop (i + 1)) qL W → MksAt (r.R.drop (k + 1)) qR W → 0 ≤ n → n ≤ 20 → Calls Try.prog 18 #[.agg #[.slice qL nl dl, .slice qR nr dr, .int .i64 r.s, .int .i64 r.t, .int .i64 n]] W fun e w' => e = .returned (.tuple #[.int .i64 (r.nB i k n : Nat), .int .i64 0]) ∧ Below W.heap.size W w'))
    (HMA : Hid (∀ W, Gr wq W → MksAt (r.L.take i) pL W ∧ MksAt (r.R.take k) pR W)) (HMB : Hid (∀ W, Gr wq W → MksAt (r.L.drop (i + 1)) qL W ∧ MksAt (r.R.drop (k + 1)) qR W))
    (HGV : Hid (Gr wq wv)) (HF19 : Hid (Box wv b19 [.slice pL i cL, .slice pR k cR, .int .i64 r.s, .int .i64 r.t, .int .i64 r.h] 26)) (HF20 : Hid (Box wv b20 [.slice qL nl dl, .slice qR nr dr, .int .i64 r.s, .int .i64 r.t, .int .i64 r.h] 26)) (HBQ : Hid (Box wv b0 [v0, v1, .int .i64 r.s, .int .i64 r.t, .int .i64 r.h] 26))
    (HL19 : wq.heap.size ≤ b19) (HL20 : wq.heap.size ≤ b20) (hd0 : b0 ≠ b19) (hd1 : b0 ≠ b20) (hd2 : b19 ≠ b20) (hnH : (n : Int) ≤ r.h) (b6 : 0 ≤ r.h) (b7 : r.h ≤ 20)
    (hc0 : 0 ≤ cvl (r.nA i k) (r.nB i k) r.h n) (hc1 : cvl (r.nA i k) (r.nB i k) r.h (n + 1) ≤ 25937424601) (hc2 : cvl (r.nA i k) (r.nB i k) r.h n ≤ cvl (r.nA i k) (r.nB i k) r.h (n + 1)) (HNB : Hid (∀ n : Int, 0 ≤ n → n ≤ 20 → r.nA i k n ≤ 25937424601)) {s2 s3 s4 s5 s6 s7 s9 s10 s11 s12 s13 s14 s15 s16 s17 s21 s22 s23 s24 s25 s26 s27 s28 s29 s30 s31 s32 s33 s34 s35 s36 s37 s38 s39 s40 s41 s42 s43 s44 s45 s46 s47 s48 s49 s50 s51 s52 s53 s54 s55 s56 s57 s58 s59 s60 s61 s62 s63 s64 s65 s66 s67 s68 s69 s70 s71 s72 s73 s74 s75 s76 s77 s78 s79 s80 s81 s82 s83 s84 s85 s86 s87 s88 s89 s90 s91 s92 s93 s94 s95 s96 s97 s98 s99 s100 s101 s102 s103 s104 s105 s106 s107 s108 s109 s110 s111 s112 s113 s114 s115 s116 s117 s118 s119 s120 s121 s122 s123 s124 s125 s126 s127 s128 s129 s130 s131 s132 s133 s134 s135 s136 s137 s138 s139 s140 : Value}
    (hQ : ∀ wx, Gr wq wx → ∀ {z21 z22 z23 z24 z25 z91 z92 z93 z94 z95 z96 z97 z98 z99 z100 z101 z102 z103 z104 z105 z106 z107 z108 z109 z110 z111 z112 z113 z114 z115 z116 z117 z118 z119 z120 z121 z122 z123 z124 z125 z126 z127 z128 z129 z130 : Value}, Q .normal { tmps := #[.int .i64 i, .pointer (some ⟨b0, 0, none⟩), s2, s3, s4, s5, s6, s7, .int .i64 (cvl (r.nA i k) (r.nB i k) r.h (n + 1)), s9, s10, s11, s12, s13, s14, s15, s16, s17, .int .i64 n, .pointer (some ⟨b19, 0, none⟩), .pointer (some ⟨b20, 0, none⟩), z21, z22, z23, z24, z25, s26, s27, s28, s29, s30, s31, s32, s33, s34, s35, s36, s37, s38, s39, s40, s41, s42, s43, s44, s45, s46, s47, s48, s49, s50, s51, s52, s53, s54, s55, s56, s57, s58, s59, s60, s61, s62, s63, s64, s65, s66, s67, s68, s69, s70, s71, s72, s73, s74, s75, s76, s77, s78, s79, s80, s81, s82, s83, s84, s85, s86, s87, s88, s89, s90, z91, z92, z93, z94, z95, z96, z97, z98, z99, z100, z101, z102, z103, z104, z105, z106, z107, z108, z109, z110, z111, z112, z113, z114, z115, z116, z117, z118, z119, z120, z121, z122, z123, z124, z125, z126, z127, z128, z129, z130, s131, s132, s133, s134, s135, s136, s137, s138, s139, s140], defers := [] } wx) :
    (Code.rgt (Code.lft (Code.lft (Code.rgt (Code.lft (Code.lft (Code.rgt (Code.rgt (Code.rgt (Code.rgt (Code.lft (Code.rgt (Code.rgt (Code.rgt (Code.rgt (Code.rgt (Code.rgt (Code.lft (Code.rgt (Code.lft (Code.lft (Code.rgt (Code.lft (Code.lft (Code.rgt (Code.lft (Code.rgt (Code.rgt (Try.f40.body.getD .skip))))))))))))))))))))))))))))).wp Try.prog Q { tmps := #[.int .i64 i, .pointer (some ⟨b0, 0, none⟩), s2, s3, s4, s5, s6, s7, .int .i64 (cvl (r.nA i k) (r.nB i k) r.h n), s9, s10, s11, s12, s13, s14, s15, s16, s17, .int .i64 n, .pointer (some ⟨b19, 0, none⟩), .pointer (some ⟨b20, 0, none⟩), s21, s22, s23, s24, s25, s26, s27, s28, s29, s30, s31, s32, s33, s34, s35, s36, s37, s38, s39, s40, s41, s42, s43, s44, s45, s46, s47, s48, s49, s50, s51, s52, s53, s54, s55, s56, s57, s58, s59, s60, s61, s62, s63, s64, s65, s66, s67, s68, s69, s70, s71, s72, s73, s74, s75, s76, s77, s78, s79, s80, s81, s82, s83, s84, s85, s86, s87, s88, s89, s90, s91, s92, s93, s94, s95, s96, s97, s98, s99, s100, s101, s102, s103, s104, s105, s106, s107, s108, s109, s110, s111, s112, s113, s114, s115, s116, s117, s118, s119, s120, s121, s122, s123, s124, s125, s126, s127, s128, s129, s130, s131, s132, s133, s134, s135, s136, s137, s138, s139, s140], defers := [] } wv := by
  conv => arg 2; whnf
  have HS19 := Lib.hid (fun (W : World) (h : Gr wq W) (v : Value) => (show Gr wq (W.setCell ⟨b19, 4, none⟩ v) from Below.setCell h HL19 v))
  have HS20 := Lib.hid (fun (W : World) (h : Gr wq W) (v : Value) => (show Gr wq (W.setCell ⟨b20, 4, none⟩ v) from Below.setCell h HL20 v))
  clear HL19 HL20
  obtain ⟨r0, r1, r2, r3, r4⟩ := cells5 HBQ.out
  have rl := HBQ.out.lt
  obtain ⟨x0, x1, x2, x3, x4⟩ := cells5 HF19.out
  have xl := HF19.out.lt
  have xf4 := HF19.out.free 4
  obtain ⟨y0, y1, y2, y3, y4⟩ := cells5 HF20.out
  have yl := HF20.out.lt
  have yf4 := HF20.out.free 4
  have hw2 : IntKind.i64.wrap (r.h - n) = r.h - n := IntWalk.i64_in _ (by omega)
  have hw1 : IntKind.i64.wrap ((n : Int) - 1) = (n : Int) - 1 := IntWalk.i64_in _ (by omega)
  have HQQ := Lib.hid hQ
  clear hQ
  go_wp2_with fail
  go_region
  have HGY := Lib.hid (show Gr wq (((wv.setCell ⟨b19, 4, none⟩ (.int .i64 n)).setCell ⟨b20, 4, none⟩ (.int .i64 (r.h - n))).drew) from (HS20.out _ (HS19.out _ HGV.out _) _).tr (Gr.drew _))
  have HF19 := Lib.hid (show Box (((wv.setCell ⟨b19, 4, none⟩ (.int .i64 n)).setCell ⟨b20, 4, none⟩ (.int .i64 (r.h - n))).drew) b19 [.slice pL i cL, .slice pR k cR, .int .i64 r.s, .int .i64 r.t, .int .i64 n] 26 from ((HF19.out.put 4 (.int .i64 n)).other hd2 4 (.int .i64 (r.h - n))).grow (Gr.drew _))
  have HF20 := Lib.hid (show Box (((wv.setCell ⟨b19, 4, none⟩ (.int .i64 n)).setCell ⟨b20, 4, none⟩ (.int .i64 (r.h - n))).drew) b20 [.slice qL nl dl, .slice qR nr dr, .int .i64 r.s, .int .i64 r.t, .int .i64 (r.h - n)] 26 from ((HF20.out.other hd2.symm 4 (.int .i64 n)).put 4 (.int .i64 (r.h - n))).grow (Gr.drew _))
  have HBQ := Lib.hid (((HBQ.out.other hd0 4 (.int .i64 n)).other hd1 4 (.int .i64 (r.h - n))).grow (Gr.drew _))
  clear r0 r1 r2 r3 r4 rl x0 x1 x2 x3 x4 xl xf4 y0 y1 y2 y3 y4 yl yf4
  generalize (((wv.setCell ⟨b19, 4, none⟩ (.int .i64 n)).setCell ⟨b20, 4, none⟩ (.int .i64 (r.h - n))).drew) = wy at *
  obtain ⟨r0, r1, r2, r3, r4⟩ := cells5 HBQ.out
  have rl := HBQ.out.lt
  obtain ⟨x0, x1, x2, x3, x4⟩ := cells5 HF19.out
  have xl := HF19.out.lt
  have xf4 := HF19.out.free 4
  obtain ⟨y0, y1, y2, y3, y4⟩ := cells5 HF20.out
  have yl := HF20.out.lt
  have yf4 := HF20.out.free 4
  have hnx := HNB.out n (by omega) (by omega)
  have HCV := Lib.hid (show cvl (r.nA i k) (r.nB i k) r.h (n + 1) = cvl (r.nA i k) (r.nB i k) r.h n + ((r.nA i k n : Int) - ((if n = 0 then 0 else r.nA i k ((n : Int) - 1) : Nat) : Int)) * r.nB i k (r.h - n) from rfl)
  by_cases hn0 : n = 0
  · have g6 : ¬ (0 : Int) < n := by omega
    rw [if_pos hn0] at HCV
    simp only [Int.natCast_zero, Int.sub_zero] at HCV
    clear hn0
    rw [HCV.out] at hc1 hc2 HQQ
    generalize cvl (r.nA i k) (r.nB i k) r.h n = c at *
    have hx : wrap64 (r.nA i k n : Int) = r.nA i k n := wr2 _ hnx
    have hm' : wrap64 ((r.nA i k n : Int) * r.nB i k (r.h - n)) = r.nA i k n * r.nB i k (r.h - n) := (wr1 _ _ _ hc0 hc2 hc1).1
    have ha : wrap64 (c + (r.nA i k n : Int) * r.nB i k (r.h - n)) = c + r.nA i k n * r.nB i k (r.h - n) := (wr1 _ _ _ hc0 hc2 hc1).2
    clear hc0 hc1 hc2
    go_wp2_with (first | (go_at_call 18; (with_reducible refine (H18A.out _ _ (HMA.out _ (by first | exact HGY.out | exact HS19.out _ HGY.out _)).1 (HMA.out _ (by first | exact HGY.out | exact HS19.out _ HGY.out _)).2 (by omega) (by omega)).mono ?_); rintro e wx ⟨rfl, hb⟩; have HGX := Lib.hid (show Gr wq wx from Gr.tr (by first | exact HGY.out | exact HS19.out _ HGY.out _) hb); clear HGY; have HGY := HGX; clear HGX; (try (have HF19 := Lib.hid (HF19.out.grow hb); have HF20 := Lib.hid (HF20.out.grow hb); have HBQ := Lib.hid (HBQ.out.grow hb); clear r0 r1 r2 r3 r4 rl x0 x1 x2 x3 x4 xl xf4 y0 y1 y2 y3 y4 yl yf4; obtain ⟨r0, r1, r2, r3, r4⟩ := cells5 HBQ.out; have rl := HBQ.out.lt; obtain ⟨x0, x1, x2, x3, x4⟩ := cells5 HF19.out; have xl := HF19.out.lt; have xf4 := HF19.out.free 4; obtain ⟨y0, y1, y2, y3, y4⟩ := cells5 HF20.out; have yl := HF20.out.lt; have yf4 := HF20.out.free 4)); clear hb; dsimp only) | (go_at_call 18; (with_reducible refine (H18B.out _ _ (HMB.out _ (by first | exact HGY.out | exact HS19.out _ HGY.out _)).1 (HMB.out _ (by first | exact HGY.out | exact HS19.out _ HGY.out _)).2 (by omega) (by omega)).mono ?_); rintro e wx ⟨rfl, hb⟩; have HGX := Lib.hid (show Gr wq wx from Gr.tr (by first | exact HGY.out | exact HS19.out _ HGY.out _) hb); clear HGY; have HGY := HGX; clear HGX; (try (have HF19 := Lib.hid (HF19.out.grow hb); have HF20 := Lib.hid (HF20.out.grow hb); have HBQ := Lib.hid (HBQ.out.grow hb); clear r0 r1 r2 r3 r4 rl x0 x1 x2 x3 x4 xl xf4 y0 y1 y2 y3 y4 yl yf4; obtain ⟨r0, r1, r2, r3, r4⟩ := cells5 HBQ.out; have rl := HBQ.out.lt; obtain ⟨x0, x1, x2, x3, x4⟩ := cells5 HF19.out; have xl := HF19.out.lt; have xf4 := HF19.out.free 4; obtain ⟨y0, y1, y2, y3, y4⟩ := cells5 HF20.out; have yl := HF20.out.lt; have yf4 := HF20.out.free 4)); clear hb; dsimp only))
    first
      | exact HQQ.out _ HGY.out
      | (simp only [hx, hm', ha]; exact HQQ.out _ HGY.out)
      | fail
  · have g6 : (0 : Int) < n := by omega
    rw [if_neg hn0] at HCV
    have hny := HNB.out (n - 1) (by omega) (by omega)
    clear hn0
    rw [HCV.out] at hc1 hc2 HQQ
    generalize cvl (r.nA i k) (r.nB i k) r.h n = c at *
    have hx : wrap64 ((r.nA i k n : Int) - r.nA i k ((n : Int) - 1)) = (r.nA i k n : Int) - r.nA i k ((n : Int) - 1) := wr3 _ _ hnx hny
    have hm' : wrap64 (((r.nA i k n : Int) - r.nA i k ((n : Int) - 1)) * r.nB i k (r.h - n)) = ((r.nA i k n : Int) - r.nA i k ((n : Int) - 1)) * r.nB i k (r.h - n) := (wr1 _ _ _ hc0 hc2 hc1).1
    have ha : wrap64 (c + ((r.nA i k n : Int) - r.nA i k ((n : Int) - 1)) * r.nB i k (r.h - n)) = c + ((r.nA i k n : Int) - r.nA i k ((n : Int) - 1)) * r.nB i k (r.h - n) := (wr1 _ _ _ hc0 hc2 hc1).2
    clear hc0 hc1 hc2
    go_wp2_with (first | (go_at_call 18; (with_reducible refine (H18A.out _ _ (HMA.out _ (by first | exact HGY.out | exact HS19.out _ HGY.out _)).1 (HMA.out _ (by first | exact HGY.out | exact HS19.out _ HGY.out _)).2 (by omega) (by omega)).mono ?_); rintro e wx ⟨rfl, hb⟩; have HGX := Lib.hid (show Gr wq wx from Gr.tr (by first | exact HGY.out | exact HS19.out _ HGY.out _) hb); clear HGY; have HGY := HGX; clear HGX; (try (have HF19 := Lib.hid (HF19.out.grow hb); have HF20 := Lib.hid (HF20.out.grow hb); have HBQ := Lib.hid (HBQ.out.grow hb); clear r0 r1 r2 r3 r4 rl x0 x1 x2 x3 x4 xl xf4 y0 y1 y2 y3 y4 yl yf4; obtain ⟨r0, r1, r2, r3, r4⟩ := cells5 HBQ.out; have rl := HBQ.out.lt; obtain ⟨x0, x1, x2, x3, x4⟩ := cells5 HF19.out; have xl := HF19.out.lt; have xf4 := HF19.out.free 4; obtain ⟨y0, y1, y2, y3, y4⟩ := cells5 HF20.out; have yl := HF20.out.lt; have yf4 := HF20.out.free 4)); clear hb; dsimp only) | (go_at_call 18; (with_reducible refine (H18B.out _ _ (HMB.out _ (by first | exact HGY.out | exact HS19.out _ HGY.out _)).1 (HMB.out _ (by first | exact HGY.out | exact HS19.out _ HGY.out _)).2 (by omega) (by omega)).mono ?_); rintro e wx ⟨rfl, hb⟩; have HGX := Lib.hid (show Gr wq wx from Gr.tr (by first | exact HGY.out | exact HS19.out _ HGY.out _) hb); clear HGY; have HGY := HGX; clear HGX; (try (have HF19 := Lib.hid (HF19.out.grow hb); have HF20 := Lib.hid (HF20.out.grow hb); have HBQ := Lib.hid (HBQ.out.grow hb); clear r0 r1 r2 r3 r4 rl x0 x1 x2 x3 x4 xl xf4 y0 y1 y2 y3 y4 yl yf4; obtain ⟨r0, r1, r2, r3, r4⟩ := cells5 HBQ.out; have rl := HBQ.out.lt; obtain ⟨x0, x1, x2, x3, x4⟩ := cells5 HF19.out; have xl := HF19.out.lt; have xf4 := HF19.out.free 4; obtain ⟨y0, y1, y2, y3, y4⟩ := cells5 HF20.out; have yl := HF20.out.lt; have yf4 := HF20.out.free 4)); clear hb; dsimp only))
    first
      | exact HQQ.out _ HGY.out
      | (simp only [hx, hm', ha]; exact HQQ.out _ HGY.out)
      | fail

end Go.Proofs.Ytjlaoiimbhlafaa
