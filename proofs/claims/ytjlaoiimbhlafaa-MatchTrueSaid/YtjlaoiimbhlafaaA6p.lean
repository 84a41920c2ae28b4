import Derived.Test.YtjlaoiimbhlafaaAH
set_option linter.unusedVariables false
set_option linter.unusedSimpArgs false
namespace Go.Proofs.Ytjlaoiimbhlafaa
open Go.RowKit Go.Shelf

open MW
attribute [local go_sem] Oper.semAt_some run_store_func
attribute [local go_sem ↓] Go.wp_at_zero Go.wp_at_succ
theorem one2 (a b : Int) : ∀ u ∈ ([.int .i64 a, .int .i64 b] : List Value), u.oneCell' = true := by
  intro u hu
  simp only [List.mem_cons, List.not_mem_nil, or_false] at hu
  rcases hu with rfl | rfl <;> rfl
theorem one1 (a : Int) : ∀ u ∈ ([.int .i64 a] : List Value), u.oneCell' = true := by
  intro u hu
  simp only [List.mem_cons, List.not_mem_nil, or_false] at hu
  rcases hu with rfl
  rfl
theorem box_row {w : World} {b : Nat} {vs : List Value} {T : TypeId} (h : Box w b vs T) {base : Nat} {e : TypeId} {size : Nat} {v : Value} {n : Nat} {xs : List Value} (h' : w.ownsRow base e size v n xs) (he : T ≠ e) : some b ≠ v.ownBlock := fun e2 => by
  obtain ⟨-, c, hc⟩ := own_blk h' e2
  unfold Box at h
  rw [h] at hc
  simp at hc
  exact he hc.2
theorem DrawOk.keep {A B b o len cap N : Nat} {w W : World} (h : DrawOk A B b o len cap N w) (hs : w.heap.size ≤ W.heap.size) (hb : ∀ q, q = A ∨ q = B ∨ q = b → W.heap[q]? = w.heap[q]?) : DrawOk A B b o len cap N W := by
  obtain ⟨⟨m, h1, h2, h3⟩, h4, ⟨h5, h6, h7, h8⟩, h9, h10⟩ := h
  refine ⟨⟨m, ?_, h2, h3⟩, ?_, ⟨h5, h6, Nat.lt_of_lt_of_le h7 hs, fun i hi => ?_⟩, h9, h10⟩
  · unfold Box at *; rw [hb A (.inl rfl)]; exact h1
  · unfold Box at *; rw [hb B (.inr (.inl rfl))]; exact h4
  · obtain ⟨x, hx, hx'⟩ := h8 i hi
    exact ⟨x, (World.cell?_of_block (a := ⟨b, o + i, none⟩) (hb b (.inr (.inr rfl)))).trans hx, hx'⟩
theorem own_same {w W : World} {base : Nat} {e : TypeId} {size : Nat} {v : Value} {n : Nat} {xs : List Value} (h : w.ownsRow base e size v n xs) (hb : ∀ g, v.ownBlock = some g → W.heap[g]? = w.heap[g]?) : W.ownsRow base e size v n xs := by
  obtain ⟨h0, h1⟩ := h
  refine ⟨h0, ?_⟩
  rcases h1 with h1 | ⟨g, cap, cur, hv, hbg, hg, r⟩
  · exact .inl h1
  · exact .inr ⟨g, cap, cur, hv, hbg, (hb g (by rw [hv]; rfl)).trans hg, r⟩
theorem MdI.rr {w0 w W : World} {A B b o len cap D br N1 n : Nat} {L R L' R' : List Mrk} {P : List (Nat × Nat)} {S : List Int} {vl vr vp vs vl' vr' : Value} {bs : List Value} {k m : Nat} {X Y : List Value} (I : MdI w0 A B b o len cap D br N1 n L R P S vl vr vp vs bs w) (K : MdK w0 A B b D br N1) (h : (rowRel vl vr k m X Y 65).r w W)
    (hl : W.ownsRow N1 65 4 vl' L'.length (L'.flatMap Mrk.cs)) (hr : W.ownsRow N1 65 4 vr' R'.length (R'.flatMap Mrk.cs)) (dj : ∀ q, vl'.ownBlock = some q → vr'.ownBlock ≠ some q) : MdI w0 A B b o len cap D br N1 n L' R' P S vl' vr' vp vs bs W := by
  obtain ⟨k1, k2, k3, k4, k5, k6, k7, k8⟩ := K
  obtain ⟨a1, ⟨i, a2⟩, a3, a4, a5, a6, a7, a8, a9, a10⟩ := I
  have f1 : ∀ q, q < N1 → some q ≠ vl.ownBlock := fun q hq e => by have := (a5.lt q e.symm).1; omega
  have f2 : ∀ q, q < N1 → some q ≠ vr.ownBlock := fun q hq e => by have := (a6.lt q e.symm).1; omega
  have low : ∀ q, q < N1 → W.heap[q]? = w.heap[q]? := fun q hq => h.2.2.1 q (by omega) (f1 q hq) (f2 q hq)
  have oth : ∀ {e : TypeId} {size : Nat} {v : Value} {n : Nat} {xs : List Value}, w.ownsRow N1 e size v n xs → e ≠ 65 → W.ownsRow N1 e size v n xs := fun ho he => own_same ho fun g hg => h.2.2.1 g (ho.lt g hg).2 (fun e2 => by rcases own_ne ho a5 he with e3 | e3; (rw [e3] at hg; cases hg); exact e3 (hg.trans e2)) (fun e2 => by rcases own_ne ho a6 he with e3 | e3; (rw [e3] at hg; cases hg); exact e3 (hg.trans e2))
  refine ⟨a1.keep h.2.1 fun q hq => low q (by omega), ⟨i, ⟨h.1.1.trans a2.os, h.1.2.1.trans a2.tape, h.1.2.2.trans a2.output, Nat.le_trans a2.size h.2.1, fun q hq hqA => (low q (by omega)).trans (a2.block q hq hqA), fun z hz => ?_⟩⟩, rr_box h a3 (f1 _ k5) (f2 _ k5), rr_box h a4 (f1 _ k7) (f2 _ k7), hl, hr, oth a7 (by decide), oth a8 (by decide), dj, Nat.le_trans a10 h.2.1⟩
  obtain ⟨m', h1, h2⟩ := a2.cell z hz
  exact ⟨m', rr_box h h1 (f1 _ (by omega)) (f2 _ (by omega)), h2⟩
def VBs (N0 : Nat) (X : List Value) : VB := fun _ v W => ∃ bn, v = .slice (some ⟨bn, 0, none⟩) 1 1 ∧ N0 ≤ bn ∧ Box W bn X 65
def VA (vl : Value) (N0 N1 n : Nat) (XS : List Value) : VB := fun p v W => ∃ g c, v = .slice (some ⟨g, 0, none⟩) (n + 1) c ∧ W.ownsRow N1 65 4 (.slice (some ⟨g, 0, none⟩) (n + 1) c) (n + 1) XS ∧ (some g = vl.ownBlock ∨ (N0 ≤ g ∧ p.1 ≤ g)) ∧ g < p.2
section
variable {vl vr : Value} {k m N0 N1 n : Nat} {X Y Z XL : List Value}
theorem VBs.lasts (h : ∀ q, some q = vl.ownBlock ∨ some q = vr.ownBlock → q < N0) : Gn.LastsB (rowRel vl vr k m X Y 65) (VBs N0 Z) := fun p v W W' ⟨bn, h1, h2, h3⟩ hr => ⟨bn, h1, h2, rr_box hr h3 (fun e => by have := h bn (.inl e); omega) (fun e => by have := h bn (.inr e); omega)⟩
theorem VA.lastsL (h : ∀ q, some q = vl.ownBlock ∨ some q = vr.ownBlock → q < N0) (hk : XL.length = k) : Gn.LastsB (rowRel vl vr k m X Y 65) (VA vl N0 N1 n (XL ++ X)) := fun p v W W' ⟨g, c, h1, h2, h3, h4⟩ hr => ⟨g, c, h1, rr_own2 hr h2 hk (h3.imp id fun h5 => ⟨fun e => by have := h g (.inl e); omega, fun e => by have := h g (.inr e); omega⟩), h3, h4⟩
theorem VA.lastsR (h : ∀ q, some q = vl.ownBlock ∨ some q = vr.ownBlock → q < N0) (hk : XL.length = m) : Gn.LastsB (rowRel vl vr k m X Y 65) (VA vr N0 N1 n (XL ++ Y)) := fun p v W W' ⟨g, c, h1, h2, h3, h4⟩ hr => ⟨g, c, h1, rr_own2 (rr_swap hr) h2 hk (h3.imp id fun h5 => ⟨fun e => by have := h g (.inr e); omega, fun e => by have := h g (.inl e); omega⟩), h3, h4⟩
end
set_option maxRecDepth 100000 in
set_option maxHeartbeats 8000000 in
theorem made_pair {w0 w : World} {A B b o len cap D br N1 n k bx by_ : Nat} {L R : List Mrk} {P : List (Nat × Nat)} {S : List Int} {vl vr vp vi : Value} {s t hh sh z : Int} {x y : Mrk} (K : MdK w0 A B b D br N1) (I : MdI w0 A B b o len cap D br N1 n L R P S vl vr vp vi [vl, vr, .int .i64 s, .int .i64 t, .int .i64 hh] w) (M : Md s t k L R P S hh) (hk : k ≤ 10) (HX : Hid (Box w bx [.int .i64 x.a, .int .i64 x.b, .int .i64 x.c, .int .i64 x.d] 65)) (HY : Hid (Box w by_ [.int .i64 y.a, .int .i64 y.b, .int .i64 y.c, .int .i64 y.d] 65))
    (hx : x.ok = true) (hy : y.ok = true) (hv : tru s t x y sh) (hfar : ∀ q, vl.ownBlock = some q ∨ vr.ownBlock = some q → q ≠ bx ∧ q ≠ by_) (hz0 : z ≠ 0) (hz1 : z ≠ 1) (hbx : bx ≠ br) (hby : by_ ≠ br) {s0 s5 s6 s7 s9 s12 s13 s14 s15 s16 s17 s18 s19 s20 s21 s22 s23 s24 s25 s26 s27 s28 s29 s30 s31 s32 s33 s34 s35 s36 s37 s38 s39 s40 s41 s42 s43 s44 s45 s46 s47 s48 s49 s50 s51 s52 s53 s54 s55 s56 s57 s58 s59 s60 s61 s62 s63 s64 s66 s67 s68 s69 s70 s71 s72 s73 s74 s75 s76 s77 s78 s79 s80 s81 s82 s83 s84 s85 s86 s87 s88 s89 s90 s91 s92 s93 s94 s95 s96 s97 s98 s99 s100 s101 s102 s103 s104 s105 s106 s107 s108 s109 s110 s111 s112 s113 s114 s115 s116 s117 s118 s119 s120 s121 s122 s123 s124 s125 s126 : Value} {Q : Exit → Act → World → Prop}
    (hQ : ∀ (L' R' : List Mrk) (P' : List (Nat × Nat)) (S' : List Int) (vl' vr' vp' vi' : Value) (hh' : Int) (W : World), MdI w0 A B b o len cap D br N1 n L' R' P' S' vl' vr' vp' vi' [vl', vr', .int .i64 s, .int .i64 t, .int .i64 hh'] W → Md s t (k + 1) L' R' P' S' hh' → ∀ {z66 z67 z68 z69 z70 z71 z72 z73 z74 z75 z76 z77 z78 z79 z80 z81 z82 z83 z84 z85 z86 z87 z88 z89 z90 z91 z92 z93 z94 z95 z96 z97 z98 z99 z100 z101 z102 z103 z104 z105 z106 z107 z108 z109 z110 z111 z112 z113 z114 z115 : Value}, Q .normal { tmps := #[s0, .pointer (some ⟨D, 0, none⟩), .pointer (some ⟨br, 0, none⟩), vp', vi', s5, s6, s7, .int .i64 sh, s9, .pointer (some ⟨bx, 0, none⟩), .pointer (some ⟨by_, 0, none⟩), s12, s13, s14, s15, s16, s17, s18, s19, s20, s21, s22, s23, s24, s25, s26, s27, s28, s29, s30, s31, s32, s33, s34, s35, s36, s37, s38, s39, s40, s41, s42, s43, s44, s45, s46, s47, s48, s49, s50, s51, s52, s53, s54, s55, s56, s57, s58, s59, s60, s61, s62, s63, s64, .int .i64 z, z66, z67, z68, z69, z70, z71, z72, z73, z74, z75, z76, z77, z78, z79, z80, z81, z82, z83, z84, z85, z86, z87, z88, z89, z90, z91, z92, z93, z94, z95, z96, z97, z98, z99, z100, z101, z102, z103, z104, z105, z106, z107, z108, z109, z110, z111, z112, z113, z114, z115, s116, s117, s118, s119, s120, s121, s122, s123, s124, s125, s126], defers := [] } W) :
    (Code.rgt (Code.rgt (Code.rgt (Code.rgt (Code.lft (Code.lft (Code.rgt (Code.rgt (Code.lft (Code.lft (Code.rgt (Code.lft (Code.rgt (Code.rgt (Code.rgt (Code.rgt (Code.rgt (Try.f36.body.getD .skip)))))))))))))))))).wp Try.prog Q { tmps := #[s0, .pointer (some ⟨D, 0, none⟩), .pointer (some ⟨br, 0, none⟩), vp, vi, s5, s6, s7, .int .i64 sh, s9, .pointer (some ⟨bx, 0, none⟩), .pointer (some ⟨by_, 0, none⟩), s12, s13, s14, s15, s16, s17, s18, s19, s20, s21, s22, s23, s24, s25, s26, s27, s28, s29, s30, s31, s32, s33, s34, s35, s36, s37, s38, s39, s40, s41, s42, s43, s44, s45, s46, s47, s48, s49, s50, s51, s52, s53, s54, s55, s56, s57, s58, s59, s60, s61, s62, s63, s64, .int .i64 z, s66, s67, s68, s69, s70, s71, s72, s73, s74, s75, s76, s77, s78, s79, s80, s81, s82, s83, s84, s85, s86, s87, s88, s89, s90, s91, s92, s93, s94, s95, s96, s97, s98, s99, s100, s101, s102, s103, s104, s105, s106, s107, s108, s109, s110, s111, s112, s113, s114, s115, s116, s117, s118, s119, s120, s121, s122, s123, s124, s125, s126], defers := [] } w := by
  conv => arg 2; whnf
  obtain ⟨pl, cl, rfl⟩ := own_slice I.ol
  obtain ⟨pr, cr, rfl⟩ := own_slice I.or_
  obtain ⟨pp, cp, rfl⟩ := own_slice I.op
  obtain ⟨ps, cs, rfl⟩ := own_slice I.os
  have HI := Lib.hid I
  have HK := Lib.hid K
  have HQ := Lib.hid hQ
  have HM := Lib.hid M
  have HF := Lib.hid hfar
  have nL := M.nL
  have nR := M.nR
  have nP : P.length ≤ 20 := by have := M.len_le; omega
  have nS : S.length ≤ 20 := by rw [M.len]; exact nP
  have hh0 : 0 ≤ hh ∧ hh ≤ 1000 := by have := M.few; have := M.hid; have := M.len_le; omega
  have HT := Lib.hid (show x.ok = true ∧ y.ok = true ∧ tru s t x y sh from ⟨hx, hy, hv⟩)
  clear I K hQ M hfar hx hy hv
  obtain ⟨r0, r1, r2, r3, r4⟩ := cells5 HI.out.box
  have rl := HI.out.box.lt
  have f0 := HI.out.box.free 0
  have f1 := HI.out.box.free 1
  have f4 := HI.out.box.free 4
  obtain ⟨x0, x1, x2, x3⟩ := acells4 HX.out
  have xl := HX.out.lt
  obtain ⟨y0, y1, y2, y3⟩ := acells4 HY.out
  have yl := HY.out.lt
  obtain ⟨i0, ii0, iz0, iz1, iz2⟩ := infoP info65a
  have II0 := Lib.hid ii0
  have IZ0 := Lib.hid iz0
  have IZ1 := Lib.hid iz1
  have IZ2 := Lib.hid iz2
  clear ii0 iz0 iz1 iz2
  obtain ⟨j0, jj0, jz0, jz1, jz2⟩ := infoP info55a
  have JJ0 := Lib.hid jj0
  have JZ0 := Lib.hid jz0
  have JZ1 := Lib.hid jz1
  have JZ2 := Lib.hid jz2
  clear jj0 jz0 jz1 jz2
  obtain ⟨k0, kk0, kz0, kz1, kz2⟩ := infoP info3a
  have KK0 := Lib.hid kk0
  have KZ0 := Lib.hid kz0
  have KZ1 := Lib.hid kz1
  have KZ2 := Lib.hid kz2
  clear kk0 kz0 kz1 kz2
  go_wp2_with (first | (at_builtin; refine wpList_append_lies _ rfl _ _ 34 rfl N1 55 j0 _ 2 16 Try.underlying34 JJ0.out JZ0.out JZ1.out JZ2.out rfl (by decide) _ _ _ rfl (HI.out.gr HK.out (Gr.alloc w (Obj.cells #[.int .i64 (L.length : Nat), .int .i64 (R.length : Nat)] 55))).op ⟨w.heap.size, 0, none⟩ 1 1 [.int .i64 (L.length : Nat), .int .i64 (R.length : Nat)] rfl rfl (box_news (Box.fresh w [.int .i64 (L.length : Nat), .int .i64 (R.length : Nat)] 55)) (one2 _ _) ?c1 ?c2 ?c3 ?c4 _ rfl ?_))
  case c2 => unfold maxLen; omega
  case c3 => omega
  case c4 => have := HI.out.size; first | omega | (simp; omega)
  intro g cap' w5 hown hgrow hat hlt5
  have HX := Lib.hid ((HX.out.grow (Gr.alloc w (Obj.cells #[.int .i64 (L.length : Nat), .int .i64 (R.length : Nat)] 55))).grown hgrow (box_row (HX.out.grow (Gr.alloc w (Obj.cells #[.int .i64 (L.length : Nat), .int .i64 (R.length : Nat)] 55))) (HI.out.gr HK.out (Gr.alloc w (Obj.cells #[.int .i64 (L.length : Nat), .int .i64 (R.length : Nat)] 55))).op (by decide)))
  have HY := Lib.hid ((HY.out.grow (Gr.alloc w (Obj.cells #[.int .i64 (L.length : Nat), .int .i64 (R.length : Nat)] 55))).grown hgrow (box_row (HY.out.grow (Gr.alloc w (Obj.cells #[.int .i64 (L.length : Nat), .int .i64 (R.length : Nat)] 55))) (HI.out.gr HK.out (Gr.alloc w (Obj.cells #[.int .i64 (L.length : Nat), .int .i64 (R.length : Nat)] 55))).op (by decide)))
  have HI := Lib.hid ((HI.out.gr HK.out (Gr.alloc w (Obj.cells #[.int .i64 (L.length : Nat), .int .i64 (R.length : Nat)] 55))).appP HK.out (x := (L.length, R.length)) hown hgrow)
  have eP : (P ++ [(L.length, R.length)]).length = P.length + 1 := by simp
  rw [eP] at HI
  clear hown hgrow hat hlt5 r0 r1 r2 r3 r4 rl f0 f1 f4 x0 x1 x2 x3 xl y0 y1 y2 y3 yl
  obtain ⟨r0, r1, r2, r3, r4⟩ := cells5 HI.out.box
  have rl := HI.out.box.lt
  have f0 := HI.out.box.free 0
  have f1 := HI.out.box.free 1
  have f4 := HI.out.box.free 4
  obtain ⟨x0, x1, x2, x3⟩ := acells4 HX.out
  have xl := HX.out.lt
  obtain ⟨y0, y1, y2, y3⟩ := acells4 HY.out
  have yl := HY.out.lt
  go_wp2_with (first | (at_builtin; refine wpList_append_lies _ rfl _ _ 39 rfl N1 3 k0 _ 1 8 Try.underlying39 KK0.out KZ0.out KZ1.out KZ2.out rfl (by decide) _ _ _ rfl (HI.out.gr HK.out (Gr.alloc w5 (Obj.cells #[.int .i64 sh] 3))).os ⟨w5.heap.size, 0, none⟩ 1 1 [.int .i64 sh] rfl rfl (box_news (Box.fresh w5 [.int .i64 sh] 3)) (one1 _) ?c1 ?c2 ?c3 ?c4 _ rfl ?_))
  case c2 => unfold maxLen; omega
  case c3 => omega
  case c4 => have := HI.out.size; first | omega | (simp; omega)
  intro gs caps w6 hown hgrow hat hlt5
  have HX := Lib.hid ((HX.out.grow (Gr.alloc w5 (Obj.cells #[.int .i64 sh] 3))).grown hgrow (box_row (HX.out.grow (Gr.alloc w5 (Obj.cells #[.int .i64 sh] 3))) (HI.out.gr HK.out (Gr.alloc w5 (Obj.cells #[.int .i64 sh] 3))).os (by decide)))
  have HY := Lib.hid ((HY.out.grow (Gr.alloc w5 (Obj.cells #[.int .i64 sh] 3))).grown hgrow (box_row (HY.out.grow (Gr.alloc w5 (Obj.cells #[.int .i64 sh] 3))) (HI.out.gr HK.out (Gr.alloc w5 (Obj.cells #[.int .i64 sh] 3))).os (by decide)))
  have HI := Lib.hid ((HI.out.gr HK.out (Gr.alloc w5 (Obj.cells #[.int .i64 sh] 3))).appS HK.out (x := sh) hown hgrow)
  have eS : (S ++ [sh]).length = S.length + 1 := by simp
  rw [eS] at HI
  clear hown hgrow hat hlt5 r0 r1 r2 r3 r4 rl f0 f1 f4 x0 x1 x2 x3 xl y0 y1 y2 y3 yl
  obtain ⟨r0, r1, r2, r3, r4⟩ := cells5 HI.out.box
  have rl := HI.out.box.lt
  have f0 := HI.out.box.free 0
  have f1 := HI.out.box.free 1
  have f4 := HI.out.box.free 4
  obtain ⟨x0, x1, x2, x3⟩ := acells4 HX.out
  have xl := HX.out.lt
  obtain ⟨y0, y1, y2, y3⟩ := acells4 HY.out
  have yl := HY.out.lt
  have HOR := Lib.hid (show ∀ q, (Value.slice pl L.length cl).ownBlock = some q ∨ (Value.slice pr R.length cr).ownBlock = some q → q < w6.heap.size from fun q h => by
    rcases h with h | h
    · exact (HI.out.ol.lt q h).2
    · exact (HI.out.or_.lt q h).2)
  go_wp2_with fail
  have HLO := Lib.hid (show ∀ q, some q = (Value.slice pl L.length cl).ownBlock ∨ some q = (Value.slice pr R.length cr).ownBlock → q < w6.heap.size from fun q h => HOR.out q (h.imp Eq.symm Eq.symm))
  have HDJ := Lib.hid (show ∀ q, some q = (Value.slice pl L.length cl).ownBlock → some q ≠ (Value.slice pr R.length cr).ownBlock from fun q h1 h2 => HI.out.dj q h1.symm h2.symm)
  have HF1 := Lib.hid (show ∀ q, q < N1 → some q ≠ (Value.slice pl L.length cl).ownBlock from fun q hq e => by have := (HI.out.ol.lt q e.symm).1; omega)
  have HF2 := Lib.hid (show ∀ q, q < N1 → some q ≠ (Value.slice pr R.length cr).ownBlock from fun q hq e => by have := (HI.out.or_.lt q e.symm).1; omega)
  have HNX := Lib.hid (show ∀ q, some q = (Value.slice pl L.length cl).ownBlock ∨ some q = (Value.slice pr R.length cr).ownBlock → ¬ (q = bx ∨ q = by_) from fun q h h2 => by
    have h3 := HF.out q (h.imp Eq.symm Eq.symm)
    rcases h2 with h2 | h2
    · exact h3.1 h2
    · exact h3.2 h2)
  clear r0 r1 r2 r3 r4 rl f0 f1 f4 x0 x1 x2 x3 xl y0 y1 y2 y3 yl
  refine Gn.regionB (A := (rowRel (.slice pl L.length cl) (.slice pr R.length cr) (L.length * 4) (R.length * 4) [.int .i64 x.a, .int .i64 x.b, .int .i64 x.c, .int .i64 x.d] [.int .i64 y.a, .int .i64 y.b, .int .i64 y.c, .int .i64 y.d] 65)) 11 ?_ ?_ ?_
  · kernel_rfl
  · kernel_rfl
  simp only [List.take_succ_cons, List.take_zero, List.drop_succ_cons, List.drop_zero]
  apply Gn.chainB_eq (D := [(2, none)]) rfl (by kernel_rfl)
  · intro ρ W ⟨p1, p2, p3⟩ hG hF K hK; (try simp [FactsD, exB, VBs] at hF); have hGW : (rowRel (.slice pl L.length cl) (.slice pr R.length cr) (L.length * 4) (R.length * 4) [.int .i64 x.a, .int .i64 x.b, .int .i64 x.c, .int .i64 x.d] [.int .i64 y.a, .int .i64 y.b, .int .i64 y.c, .int .i64 y.d] 65).r w6 W := (rowRel (.slice pl L.length cl) (.slice pr R.length cr) (L.length * 4) (R.length * 4) [.int .i64 x.a, .int .i64 x.b, .int .i64 x.c, .int .i64 x.d] [.int .i64 y.a, .int .i64 y.b, .int .i64 y.c, .int .i64 y.d] 65).tr _ _ _ ((rowRel (.slice pl L.length cl) (.slice pr R.length cr) (L.length * 4) (R.length * 4) [.int .i64 x.a, .int .i64 x.b, .int .i64 x.c, .int .i64 x.d] [.int .i64 y.a, .int .i64 y.b, .int .i64 y.c, .int .i64 y.d] 65).of _ _ (Gr.drew w6)) hG; have hbr := rr_box hGW HI.out.box (HF1.out _ HK.out.r1) (HF2.out _ HK.out.r1); obtain ⟨r0, r1, r2, r3, r4⟩ := cells5 hbr; have rl := hbr.lt; go_simp; exact hK _ Gn.gives_val
  apply Gn.chainB_eq (D := [(80, some 0)]) rfl (by kernel_rfl)
  · intro ρ W ⟨p1, p2, p3⟩ hG hF K hK; (try simp [FactsD, exB, VBs] at hF); have hGW : (rowRel (.slice pl L.length cl) (.slice pr R.length cr) (L.length * 4) (R.length * 4) [.int .i64 x.a, .int .i64 x.b, .int .i64 x.c, .int .i64 x.d] [.int .i64 y.a, .int .i64 y.b, .int .i64 y.c, .int .i64 y.d] 65).r w6 W := (rowRel (.slice pl L.length cl) (.slice pr R.length cr) (L.length * 4) (R.length * 4) [.int .i64 x.a, .int .i64 x.b, .int .i64 x.c, .int .i64 x.d] [.int .i64 y.a, .int .i64 y.b, .int .i64 y.c, .int .i64 y.d] 65).tr _ _ _ ((rowRel (.slice pl L.length cl) (.slice pr R.length cr) (L.length * 4) (R.length * 4) [.int .i64 x.a, .int .i64 x.b, .int .i64 x.c, .int .i64 x.d] [.int .i64 y.a, .int .i64 y.b, .int .i64 y.c, .int .i64 y.d] 65).of _ _ (Gr.drew w6)) hG; have hbr := rr_box hGW HI.out.box (HF1.out _ HK.out.r1) (HF2.out _ HK.out.r1); obtain ⟨r0, r1, r2, r3, r4⟩ := cells5 hbr; have rl := hbr.lt; go_simp; exact hK _ Gn.gives_val
  apply Gn.chainB_eq (D := [(10, none)]) rfl (by kernel_rfl)
  · intro ρ W ⟨p1, p2, p3⟩ hG hF K hK; (try simp [FactsD, exB, VBs] at hF); have hGW : (rowRel (.slice pl L.length cl) (.slice pr R.length cr) (L.length * 4) (R.length * 4) [.int .i64 x.a, .int .i64 x.b, .int .i64 x.c, .int .i64 x.d] [.int .i64 y.a, .int .i64 y.b, .int .i64 y.c, .int .i64 y.d] 65).r w6 W := (rowRel (.slice pl L.length cl) (.slice pr R.length cr) (L.length * 4) (R.length * 4) [.int .i64 x.a, .int .i64 x.b, .int .i64 x.c, .int .i64 x.d] [.int .i64 y.a, .int .i64 y.b, .int .i64 y.c, .int .i64 y.d] 65).tr _ _ _ ((rowRel (.slice pl L.length cl) (.slice pr R.length cr) (L.length * 4) (R.length * 4) [.int .i64 x.a, .int .i64 x.b, .int .i64 x.c, .int .i64 x.d] [.int .i64 y.a, .int .i64 y.b, .int .i64 y.c, .int .i64 y.d] 65).of _ _ (Gr.drew w6)) hG; have hm := rr_box hGW HX.out (fun e => HNX.out _ (.inl e) (by simp)) (fun e => HNX.out _ (.inr e) (by simp)); obtain ⟨x0, x1, x2, x3⟩ := acells4 hm; have xl := hm.lt; go_simp; exact hK _ Gn.gives_val
  refine Gn.chainB_any (V := VBs w6.heap.size [.int .i64 x.a, .int .i64 x.b, .int .i64 x.c, .int .i64 x.d]) (D := [(82, some 0)]) rfl (by kernel_rfl) (VBs.lasts HLO.out) ?_ ?_
  · intro ρ W ⟨p1, p2, p3⟩ hG hF K hK; (try simp [FactsD, exB, VBs] at hF); have hGW : (rowRel (.slice pl L.length cl) (.slice pr R.length cr) (L.length * 4) (R.length * 4) [.int .i64 x.a, .int .i64 x.b, .int .i64 x.c, .int .i64 x.d] [.int .i64 y.a, .int .i64 y.b, .int .i64 y.c, .int .i64 y.d] 65).r w6 W := (rowRel (.slice pl L.length cl) (.slice pr R.length cr) (L.length * 4) (R.length * 4) [.int .i64 x.a, .int .i64 x.b, .int .i64 x.c, .int .i64 x.d] [.int .i64 y.a, .int .i64 y.b, .int .i64 y.c, .int .i64 y.d] 65).tr _ _ _ ((rowRel (.slice pl L.length cl) (.slice pr R.length cr) (L.length * 4) (R.length * 4) [.int .i64 x.a, .int .i64 x.b, .int .i64 x.c, .int .i64 x.d] [.int .i64 y.a, .int .i64 y.b, .int .i64 y.c, .int .i64 y.d] 65).of _ _ (Gr.drew w6)) hG; go_simp; exact hK _ ⟨⟨_, rfl, hGW.size, Box.fresh W [.int .i64 x.a, .int .i64 x.b, .int .i64 x.c, .int .i64 x.d] 65⟩, (rowRel (.slice pl L.length cl) (.slice pr R.length cr) (L.length * 4) (R.length * 4) [.int .i64 x.a, .int .i64 x.b, .int .i64 x.c, .int .i64 x.d] [.int .i64 y.a, .int .i64 y.b, .int .i64 y.c, .int .i64 y.d] 65).of _ _ (Gr.alloc _ _)⟩
  refine Gn.chainB_any (V := VA (.slice pl L.length cl) w6.heap.size N1 L.length (L.flatMap Mrk.cs ++ [.int .i64 x.a, .int .i64 x.b, .int .i64 x.c, .int .i64 x.d])) (D := [(81, some 2), (83, some 0)]) rfl (by kernel_rfl) (VA.lastsL HLO.out (by rw [mks_flat_len])) ?_ ?_
  · intro ρ W ⟨p1, p2, p3⟩ hG hF K hK; (try simp [FactsD, exB, VBs] at hF); have hGW : (rowRel (.slice pl L.length cl) (.slice pr R.length cr) (L.length * 4) (R.length * 4) [.int .i64 x.a, .int .i64 x.b, .int .i64 x.c, .int .i64 x.d] [.int .i64 y.a, .int .i64 y.b, .int .i64 y.c, .int .i64 y.d] 65).r w6 W := (rowRel (.slice pl L.length cl) (.slice pr R.length cr) (L.length * 4) (R.length * 4) [.int .i64 x.a, .int .i64 x.b, .int .i64 x.c, .int .i64 x.d] [.int .i64 y.a, .int .i64 y.b, .int .i64 y.c, .int .i64 y.d] 65).tr _ _ _ ((rowRel (.slice pl L.length cl) (.slice pr R.length cr) (L.length * 4) (R.length * 4) [.int .i64 x.a, .int .i64 x.b, .int .i64 x.c, .int .i64 x.d] [.int .i64 y.a, .int .i64 y.b, .int .i64 y.c, .int .i64 y.d] 65).of _ _ (Gr.drew w6)) hG; obtain ⟨hF1, bn, hF2, hbn, hbx⟩ := hF; obtain ⟨g2, cp2, w', hrun, hown2, hat2, hlt2, hrel⟩ := rr_app (m := R.length * 4) (Y := [.int .i64 y.a, .int .i64 y.b, .int .i64 y.c, .int .i64 y.d]) (rr_own hGW HI.out.ol (Nat.le_refl _)) (by omega) (by have := hGW.size; have := HI.out.size; omega) hbx HDJ.out 22; simp [execOp, resolve, invoke, builtin, hF1, hF2, hrun, Result.andThen]; exact hK _ ⟨⟨g2, cp2, rfl, hown2, hat2.imp id (fun e => by have := hGW.size; omega), hlt2⟩, hrel⟩
  apply Gn.chainB_eq (D := [(2, none)]) rfl (by kernel_rfl)
  · intro ρ W ⟨p1, p2, p3⟩ hG hF K hK; (try simp [FactsD, exB, VBs] at hF); have hGW : (rowRel (.slice pl L.length cl) (.slice pr R.length cr) (L.length * 4) (R.length * 4) [.int .i64 x.a, .int .i64 x.b, .int .i64 x.c, .int .i64 x.d] [.int .i64 y.a, .int .i64 y.b, .int .i64 y.c, .int .i64 y.d] 65).r w6 W := (rowRel (.slice pl L.length cl) (.slice pr R.length cr) (L.length * 4) (R.length * 4) [.int .i64 x.a, .int .i64 x.b, .int .i64 x.c, .int .i64 x.d] [.int .i64 y.a, .int .i64 y.b, .int .i64 y.c, .int .i64 y.d] 65).tr _ _ _ ((rowRel (.slice pl L.length cl) (.slice pr R.length cr) (L.length * 4) (R.length * 4) [.int .i64 x.a, .int .i64 x.b, .int .i64 x.c, .int .i64 x.d] [.int .i64 y.a, .int .i64 y.b, .int .i64 y.c, .int .i64 y.d] 65).of _ _ (Gr.drew w6)) hG; have hbr := rr_box hGW HI.out.box (HF1.out _ HK.out.r1) (HF2.out _ HK.out.r1); obtain ⟨r0, r1, r2, r3, r4⟩ := cells5 hbr; have rl := hbr.lt; go_simp; exact hK _ Gn.gives_val
  apply Gn.chainB_eq (D := [(85, some 0)]) rfl (by kernel_rfl)
  · intro ρ W ⟨p1, p2, p3⟩ hG hF K hK; (try simp [FactsD, exB, VBs] at hF); have hGW : (rowRel (.slice pl L.length cl) (.slice pr R.length cr) (L.length * 4) (R.length * 4) [.int .i64 x.a, .int .i64 x.b, .int .i64 x.c, .int .i64 x.d] [.int .i64 y.a, .int .i64 y.b, .int .i64 y.c, .int .i64 y.d] 65).r w6 W := (rowRel (.slice pl L.length cl) (.slice pr R.length cr) (L.length * 4) (R.length * 4) [.int .i64 x.a, .int .i64 x.b, .int .i64 x.c, .int .i64 x.d] [.int .i64 y.a, .int .i64 y.b, .int .i64 y.c, .int .i64 y.d] 65).tr _ _ _ ((rowRel (.slice pl L.length cl) (.slice pr R.length cr) (L.length * 4) (R.length * 4) [.int .i64 x.a, .int .i64 x.b, .int .i64 x.c, .int .i64 x.d] [.int .i64 y.a, .int .i64 y.b, .int .i64 y.c, .int .i64 y.d] 65).of _ _ (Gr.drew w6)) hG; have hbr := rr_box hGW HI.out.box (HF1.out _ HK.out.r1) (HF2.out _ HK.out.r1); obtain ⟨r0, r1, r2, r3, r4⟩ := cells5 hbr; have rl := hbr.lt; go_simp; exact hK _ Gn.gives_val
  apply Gn.chainB_eq (D := [(11, none)]) rfl (by kernel_rfl)
  · intro ρ W ⟨p1, p2, p3⟩ hG hF K hK; (try simp [FactsD, exB, VBs] at hF); have hGW : (rowRel (.slice pl L.length cl) (.slice pr R.length cr) (L.length * 4) (R.length * 4) [.int .i64 x.a, .int .i64 x.b, .int .i64 x.c, .int .i64 x.d] [.int .i64 y.a, .int .i64 y.b, .int .i64 y.c, .int .i64 y.d] 65).r w6 W := (rowRel (.slice pl L.length cl) (.slice pr R.length cr) (L.length * 4) (R.length * 4) [.int .i64 x.a, .int .i64 x.b, .int .i64 x.c, .int .i64 x.d] [.int .i64 y.a, .int .i64 y.b, .int .i64 y.c, .int .i64 y.d] 65).tr _ _ _ ((rowRel (.slice pl L.length cl) (.slice pr R.length cr) (L.length * 4) (R.length * 4) [.int .i64 x.a, .int .i64 x.b, .int .i64 x.c, .int .i64 x.d] [.int .i64 y.a, .int .i64 y.b, .int .i64 y.c, .int .i64 y.d] 65).of _ _ (Gr.drew w6)) hG; have hm := rr_box hGW HY.out (fun e => HNX.out _ (.inl e) (by simp)) (fun e => HNX.out _ (.inr e) (by simp)); obtain ⟨x0, x1, x2, x3⟩ := acells4 hm; have xl := hm.lt; go_simp; exact hK _ Gn.gives_val
  refine Gn.chainB_any (V := VBs w6.heap.size [.int .i64 y.a, .int .i64 y.b, .int .i64 y.c, .int .i64 y.d]) (D := [(87, some 0)]) rfl (by kernel_rfl) (VBs.lasts HLO.out) ?_ ?_
  · intro ρ W ⟨p1, p2, p3⟩ hG hF K hK; (try simp [FactsD, exB, VBs] at hF); have hGW : (rowRel (.slice pl L.length cl) (.slice pr R.length cr) (L.length * 4) (R.length * 4) [.int .i64 x.a, .int .i64 x.b, .int .i64 x.c, .int .i64 x.d] [.int .i64 y.a, .int .i64 y.b, .int .i64 y.c, .int .i64 y.d] 65).r w6 W := (rowRel (.slice pl L.length cl) (.slice pr R.length cr) (L.length * 4) (R.length * 4) [.int .i64 x.a, .int .i64 x.b, .int .i64 x.c, .int .i64 x.d] [.int .i64 y.a, .int .i64 y.b, .int .i64 y.c, .int .i64 y.d] 65).tr _ _ _ ((rowRel (.slice pl L.length cl) (.slice pr R.length cr) (L.length * 4) (R.length * 4) [.int .i64 x.a, .int .i64 x.b, .int .i64 x.c, .int .i64 x.d] [.int .i64 y.a, .int .i64 y.b, .int .i64 y.c, .int .i64 y.d] 65).of _ _ (Gr.drew w6)) hG; go_simp; exact hK _ ⟨⟨_, rfl, hGW.size, Box.fresh W [.int .i64 y.a, .int .i64 y.b, .int .i64 y.c, .int .i64 y.d] 65⟩, (rowRel (.slice pl L.length cl) (.slice pr R.length cr) (L.length * 4) (R.length * 4) [.int .i64 x.a, .int .i64 x.b, .int .i64 x.c, .int .i64 x.d] [.int .i64 y.a, .int .i64 y.b, .int .i64 y.c, .int .i64 y.d] 65).of _ _ (Gr.alloc _ _)⟩
  refine Gn.chainB_any (V := VA (.slice pr R.length cr) w6.heap.size N1 R.length (R.flatMap Mrk.cs ++ [.int .i64 y.a, .int .i64 y.b, .int .i64 y.c, .int .i64 y.d])) (D := [(86, some 2), (88, some 0)]) rfl (by kernel_rfl) (VA.lastsR HLO.out (by rw [mks_flat_len])) ?_ ?_
  · intro ρ W ⟨p1, p2, p3⟩ hG hF K hK; (try simp [FactsD, exB, VBs] at hF); have hGW : (rowRel (.slice pl L.length cl) (.slice pr R.length cr) (L.length * 4) (R.length * 4) [.int .i64 x.a, .int .i64 x.b, .int .i64 x.c, .int .i64 x.d] [.int .i64 y.a, .int .i64 y.b, .int .i64 y.c, .int .i64 y.d] 65).r w6 W := (rowRel (.slice pl L.length cl) (.slice pr R.length cr) (L.length * 4) (R.length * 4) [.int .i64 x.a, .int .i64 x.b, .int .i64 x.c, .int .i64 x.d] [.int .i64 y.a, .int .i64 y.b, .int .i64 y.c, .int .i64 y.d] 65).tr _ _ _ ((rowRel (.slice pl L.length cl) (.slice pr R.length cr) (L.length * 4) (R.length * 4) [.int .i64 x.a, .int .i64 x.b, .int .i64 x.c, .int .i64 x.d] [.int .i64 y.a, .int .i64 y.b, .int .i64 y.c, .int .i64 y.d] 65).of _ _ (Gr.drew w6)) hG; obtain ⟨hF1, bn, hF2, hbn, hbx⟩ := hF; obtain ⟨g2, cp2, w', hrun, hown2, hat2, hlt2, hrel⟩ := rr_app (m := L.length * 4) (Y := [.int .i64 x.a, .int .i64 x.b, .int .i64 x.c, .int .i64 x.d]) (rr_own (rr_swap hGW) HI.out.or_ (Nat.le_refl _)) (by omega) (by have := hGW.size; have := HI.out.size; omega) hbx (fun q h1 h2 => HDJ.out q h2 h1) 22; simp [execOp, resolve, invoke, builtin, hF1, hF2, hrun, Result.andThen]; exact hK _ ⟨⟨g2, cp2, rfl, hown2, hat2.imp id (fun e => by have := hGW.size; omega), hlt2⟩, (rr_swap hrel)⟩
  apply Gn.chainB_eq (D := [(2, none)]) rfl (by kernel_rfl)
  · intro ρ W ⟨p1, p2, p3⟩ hG hF K hK; (try simp [FactsD, exB, VBs] at hF); have hGW : (rowRel (.slice pl L.length cl) (.slice pr R.length cr) (L.length * 4) (R.length * 4) [.int .i64 x.a, .int .i64 x.b, .int .i64 x.c, .int .i64 x.d] [.int .i64 y.a, .int .i64 y.b, .int .i64 y.c, .int .i64 y.d] 65).r w6 W := (rowRel (.slice pl L.length cl) (.slice pr R.length cr) (L.length * 4) (R.length * 4) [.int .i64 x.a, .int .i64 x.b, .int .i64 x.c, .int .i64 x.d] [.int .i64 y.a, .int .i64 y.b, .int .i64 y.c, .int .i64 y.d] 65).tr _ _ _ ((rowRel (.slice pl L.length cl) (.slice pr R.length cr) (L.length * 4) (R.length * 4) [.int .i64 x.a, .int .i64 x.b, .int .i64 x.c, .int .i64 x.d] [.int .i64 y.a, .int .i64 y.b, .int .i64 y.c, .int .i64 y.d] 65).of _ _ (Gr.drew w6)) hG; have hbr := rr_box hGW HI.out.box (HF1.out _ HK.out.r1) (HF2.out _ HK.out.r1); obtain ⟨r0, r1, r2, r3, r4⟩ := cells5 hbr; have rl := hbr.lt; go_simp; exact hK _ Gn.gives_val
  refine Gn.chainB_done ?_
  intro vs bs W hG hV hD
  obtain ⟨e10, e9, e8, e7, e6, e5, e4, -⟩ := hV
  have hGW : (rowRel (.slice pl L.length cl) (.slice pr R.length cr) (L.length * 4) (R.length * 4) [.int .i64 x.a, .int .i64 x.b, .int .i64 x.c, .int .i64 x.d] [.int .i64 y.a, .int .i64 y.b, .int .i64 y.c, .int .i64 y.d] 65).r w6 W := hG
  simp only [Nat.reduceSub] at e10 e9 e4
  obtain ⟨gR, cR, eR, hoR, hgR, hltR⟩ := e9
  obtain ⟨gL, cL, eL, hoL, hgL, hltL⟩ := e4
  have hd := hD 4 9 (by omega) (by omega) (by omega)
  have hLO := HLO.out
  have hne : gL ≠ gR := by
    intro e
    subst e
    rcases hgL with h1 | ⟨h1, h2⟩ <;> rcases hgR with h3 | ⟨h3, h4⟩
    · exact HDJ.out _ h1 h3
    · have := hLO _ (.inl h1); omega
    · have := hLO _ (.inr h3); omega
    · omega
  have e1 : (L ++ [x]).length = L.length + 1 := by simp
  have e2 : (R ++ [y]).length = R.length + 1 := by simp
  have HJ := Lib.hid (HI.out.rr HK.out (L' := L ++ [x]) (R' := R ++ [y]) (vl' := .slice (some ⟨gL, 0, none⟩) (L.length + 1) cL) (vr' := .slice (some ⟨gR, 0, none⟩) (R.length + 1) cR) hGW (by rw [e1, List.flatMap_append]; simpa [Mrk.cs] using hoL) (by rw [e2, List.flatMap_append]; simpa [Mrk.cs] using hoR) (fun q h1 h2 => by
    simp [Value.ownBlock] at h1 h2
    exact hne (h1.trans h2.symm)))
  clear hd hoL hoR hgL hgR hltL hltR hG hGW hD e8 e7 e6 e5 e1 e2
  set_option maxRecDepth 100000 in
  simp only [lay, Act.put, List.getElem?_toArray, List.getElem?_cons_succ, List.getElem?_cons_zero, Option.bind_some, List.setIfInBounds_toArray, List.set_cons_succ, List.set_cons_zero]
  generalize vs 0 = v0
  generalize vs 1 = v1
  generalize vs 2 = v2
  generalize vs 3 = v3
  generalize vs 4 = v4 at *
  generalize vs 5 = v5
  generalize vs 6 = v6
  generalize vs 7 = v7
  generalize vs 8 = v8
  generalize vs 9 = v9 at *
  generalize vs 10 = v10 at *
  subst eL eR e10
  obtain ⟨r0, r1, r2, r3, r4⟩ := cells5 HJ.out.box
  have rl := HJ.out.box.lt
  have f0 := HJ.out.box.free 0
  have f1 := HJ.out.box.free 1
  go_wp2_with fail
  have H2 := (HJ.out.set HK.out 0 (.slice (some ⟨gL, 0, none⟩) (L.length + 1) cL)).set HK.out 1 (.slice (some ⟨gR, 0, none⟩) (R.length + 1) cR)
  simp only [List.set_cons_zero, List.set_cons_succ] at H2
  exact HQ.out _ _ _ _ _ _ _ _ _ _ H2 (HM.out.pair HT.out.1 HT.out.2.1 HT.out.2.2)

end Go.Proofs.Ytjlaoiimbhlafaa
