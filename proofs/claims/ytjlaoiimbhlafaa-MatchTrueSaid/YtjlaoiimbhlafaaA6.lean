import Derived.Test.YtjlaoiimbhlafaaA5
set_option linter.unusedVariables false
set_option linter.unusedSimpArgs false
namespace Go.Proofs.Ytjlaoiimbhlafaa
open Go.RowKit Go.Shelf

open MW
attribute [local go_sem] Oper.semAt_some run_store_func
attribute [local go_sem ↓] Go.wp_at_zero Go.wp_at_succ
def Code.lft : Code → Code
  | .seq a _ => a
  | .cond _ a _ => a
  | .block _ a => a
  | .loop a => a
  | .scope a => a
  | c => c
def Code.rgt : Code → Code
  | .seq _ b => b
  | .cond _ _ b => b
  | c => c
theorem info65a : (Try.prog.info? 65).map (fun i => (i.zero, i.size, i.bytes)) = some (some (.agg #[.int .i64 0, .int .i64 0, .int .i64 0, .int .i64 0]), 4, 32) := by kernel_rfl
theorem info55a : (Try.prog.info? 55).map (fun i => (i.zero, i.size, i.bytes)) = some (some (.agg #[.int .i64 0, .int .i64 0]), 2, 16) := by kernel_rfl
theorem info3a : (Try.prog.info? 3).map (fun i => (i.zero, i.size, i.bytes)) = some (some (.int .i64 0), 1, 8) := by kernel_rfl
theorem one4 (a b c d : Int) : ∀ u ∈ ([.int .i64 a, .int .i64 b, .int .i64 c, .int .i64 d] : List Value), u.oneCell' = true := by
  intro u hu
  simp only [List.mem_cons, List.not_mem_nil, or_false] at hu
  rcases hu with rfl | rfl | rfl | rfl <;> rfl
theorem box_news {W : World} {bn : Nat} {vs : List Value} {T : TypeId} (h : Box W bn vs T) : ∀ j u, vs[j]? = some u → W.cell? ((⟨bn, 0, none⟩ : Addr).add j) = some u := fun j u hj => by
  have hadd : (⟨bn, 0, none⟩ : Addr).add j = ⟨bn, j, none⟩ := by unfold Addr.add; split <;> simp_all
  rw [hadd]; exact h.cell hj
theorem acells4 {W : World} {b : Nat} {x y z u : Value} {T : TypeId} (h : Box W b [x, y, z, u] T) : W.cell? ⟨b, 0, none⟩ = some x ∧ W.cell? ⟨b, 1, none⟩ = some y ∧ W.cell? ⟨b, 2, none⟩ = some z ∧ W.cell? ⟨b, 3, none⟩ = some u := ⟨h.cell (i := 0) rfl, h.cell (i := 1) rfl, h.cell (i := 2) rfl, h.cell (i := 3) rfl⟩
set_option maxRecDepth 100000 in
set_option maxHeartbeats 8000000 in
theorem made_left {w0 w : World} {A B b o len cap D br N1 n k bx by_ : Nat} {L R : List Mrk} {P : List (Nat × Nat)} {S : List Int} {vl vr vp vi : Value} {s t hh sh z : Int} {x y : Mrk} (K : MdK w0 A B b D br N1) (I : MdI w0 A B b o len cap D br N1 n L R P S vl vr vp vi [vl, vr, .int .i64 s, .int .i64 t, .int .i64 hh] w) (M : Md s t k L R P S hh) (hk : k ≤ 10) (HX : Hid (Box w bx [.int .i64 x.a, .int .i64 x.b, .int .i64 x.c, .int .i64 x.d] 65)) (HY : Hid (Box w by_ [.int .i64 y.a, .int .i64 y.b, .int .i64 y.c, .int .i64 y.d] 65))
    (hx : x.ok = true) (hy : y.ok = true) (hv : tru s t x y sh) (hfar : ∀ q, vl.ownBlock = some q ∨ vr.ownBlock = some q → q ≠ bx ∧ q ≠ by_) (hz : z = 0) {s0 s5 s6 s7 s9 s12 s13 s14 s15 s16 s17 s18 s19 s20 s21 s22 s23 s24 s25 s26 s27 s28 s29 s30 s31 s32 s33 s34 s35 s36 s37 s38 s39 s40 s41 s42 s43 s44 s45 s46 s47 s48 s49 s50 s51 s52 s53 s54 s55 s56 s57 s58 s59 s60 s61 s62 s63 s64 s66 s67 s68 s69 s70 s71 s72 s73 s74 s75 s76 s77 s78 s79 s80 s81 s82 s83 s84 s85 s86 s87 s88 s89 s90 s91 s92 s93 s94 s95 s96 s97 s98 s99 s100 s101 s102 s103 s104 s105 s106 s107 s108 s109 s110 s111 s112 s113 s114 s115 s116 s117 s118 s119 s120 s121 s122 s123 s124 s125 s126 : Value} {Q : Exit → Act → World → Prop}
    (hQ : ∀ (L' R' : List Mrk) (P' : List (Nat × Nat)) (S' : List Int) (vl' vr' vp' vi' : Value) (hh' : Int) (W : World), MdI w0 A B b o len cap D br N1 n L' R' P' S' vl' vr' vp' vi' [vl', vr', .int .i64 s, .int .i64 t, .int .i64 hh'] W → Md s t (k + 1) L' R' P' S' hh' → ∀ {z66 z67 z68 z69 z70 z71 z72 z73 z74 z75 z76 z77 z78 z79 z80 z81 z82 z83 z84 z85 z86 z87 z88 z89 z90 z91 z92 z93 z94 z95 z96 z97 z98 z99 z100 z101 z102 z103 z104 z105 z106 z107 z108 z109 z110 z111 z112 z113 z114 z115 : Value}, Q .normal { tmps := #[s0, .pointer (some ⟨D, 0, none⟩), .pointer (some ⟨br, 0, none⟩), vp', vi', s5, s6, s7, .int .i64 sh, s9, .pointer (some ⟨bx, 0, none⟩), .pointer (some ⟨by_, 0, none⟩), s12, s13, s14, s15, s16, s17, s18, s19, s20, s21, s22, s23, s24, s25, s26, s27, s28, s29, s30, s31, s32, s33, s34, s35, s36, s37, s38, s39, s40, s41, s42, s43, s44, s45, s46, s47, s48, s49, s50, s51, s52, s53, s54, s55, s56, s57, s58, s59, s60, s61, s62, s63, s64, .int .i64 z, z66, z67, z68, z69, z70, z71, z72, z73, z74, z75, z76, z77, z78, z79, z80, z81, z82, z83, z84, z85, z86, z87, z88, z89, z90, z91, z92, z93, z94, z95, z96, z97, z98, z99, z100, z101, z102, z103, z104, z105, z106, z107, z108, z109, z110, z111, z112, z113, z114, z115, s116, s117, s118, s119, s120, s121, s122, s123, s124, s125, s126], defers := [] } W) :
    (Code.rgt (Code.rgt (Code.rgt (Code.rgt (Code.lft (Code.lft (Code.rgt (Code.rgt (Code.lft (Code.lft (Code.rgt (Code.lft (Code.rgt (Code.rgt (Code.rgt (Code.rgt (Code.rgt (Try.f36.body.getD .skip)))))))))))))))))).wp Try.prog Q { tmps := #[s0, .pointer (some ⟨D, 0, none⟩), .pointer (some ⟨br, 0, none⟩), vp, vi, s5, s6, s7, .int .i64 sh, s9, .pointer (some ⟨bx, 0, none⟩), .pointer (some ⟨by_, 0, none⟩), s12, s13, s14, s15, s16, s17, s18, s19, s20, s21, s22, s23, s24, s25, s26, s27, s28, s29, s30, s31, s32, s33, s34, s35, s36, s37, s38, s39, s40, s41, s42, s43, s44, s45, s46, s47, s48, s49, s50, s51, s52, s53, s54, s55, s56, s57, s58, s59, s60, s61, s62, s63, s64, .int .i64 z, s66, s67, s68, s69, s70, s71, s72, s73, s74, s75, s76, s77, s78, s79, s80, s81, s82, s83, s84, s85, s86, s87, s88, s89, s90, s91, s92, s93, s94, s95, s96, s97, s98, s99, s100, s101, s102, s103, s104, s105, s106, s107, s108, s109, s110, s111, s112, s113, s114, s115, s116, s117, s118, s119, s120, s121, s122, s123, s124, s125, s126], defers := [] } w := by
  conv => arg 2; whnf
  obtain ⟨pl, cl, rfl⟩ := own_slice I.ol
  obtain ⟨pr, cr, rfl⟩ := own_slice I.or_
  obtain ⟨pp, cp, rfl⟩ := own_slice I.op
  obtain ⟨ps, cs, rfl⟩ := own_slice I.os
  have HI := Lib.hid I
  have HK := Lib.hid K
  have HQ := Lib.hid hQ
  have HM := Lib.hid M
  have HF := Lib.hid hfar
  have nL := M.nL
  have nR := M.nR
  have nP : P.length ≤ 20 := by have := M.len_le; omega
  have nS : S.length ≤ 20 := by rw [M.len]; exact nP
  have hh0 : 0 ≤ hh ∧ hh ≤ 1000 := by have := M.few; have := M.hid; have := M.len_le; omega
  have HT := Lib.hid (show x.ok = true ∧ y.ok = true ∧ tru s t x y sh from ⟨hx, hy, hv⟩)
  clear I K hQ M hfar hx hy hv
  obtain ⟨r0, r1, r2, r3, r4⟩ := cells5 HI.out.box
  have rl := HI.out.box.lt
  have f0 := HI.out.box.free 0
  have f1 := HI.out.box.free 1
  have f4 := HI.out.box.free 4
  obtain ⟨x0, x1, x2, x3⟩ := acells4 HX.out
  have xl := HX.out.lt
  obtain ⟨y0, y1, y2, y3⟩ := acells4 HY.out
  have yl := HY.out.lt
  subst hz
  obtain ⟨i0, ii0, iz0, iz1, iz2⟩ := infoP info65a
  have II0 := Lib.hid ii0
  have IZ0 := Lib.hid iz0
  have IZ1 := Lib.hid iz1
  have IZ2 := Lib.hid iz2
  clear ii0 iz0 iz1 iz2
  go_wp2_with (first | (at_builtin; refine wpList_append_lies _ rfl _ _ 22 rfl N1 65 i0 _ 4 32 Try.underlying22 II0.out IZ0.out IZ1.out IZ2.out rfl (by decide) _ _ _ rfl (HI.out.gr HK.out (Gr.alloc w (Obj.cells #[.int .i64 x.a, .int .i64 x.b, .int .i64 x.c, .int .i64 x.d] 65))).ol ⟨w.heap.size, 0, none⟩ 1 1 [.int .i64 x.a, .int .i64 x.b, .int .i64 x.c, .int .i64 x.d] rfl rfl (box_news (Box.fresh w [.int .i64 x.a, .int .i64 x.b, .int .i64 x.c, .int .i64 x.d] 65)) (one4 _ _ _ _) ?c1 ?c2 ?c3 ?c4 _ rfl ?_))
  case c2 => unfold maxLen; omega
  case c3 => omega
  case c4 => have := HI.out.size; first | omega | (simp; omega)
  intro g cap' w5 hown hgrow hat hlt5
  have HJ := Lib.hid ((HI.out.gr HK.out (Gr.alloc w (Obj.cells #[.int .i64 x.a, .int .i64 x.b, .int .i64 x.c, .int .i64 x.d] 65))).appL HK.out (x := x) hown hgrow hat (by first | exact Nat.le_refl _ | simp))
  have e1 : (L ++ [x]).length = L.length + 1 := by simp
  rw [e1] at HJ
  clear HI hown hgrow hat hlt5 r0 r1 r2 r3 r4 rl f0 f1 f4 x0 x1 x2 x3 xl y0 y1 y2 y3 yl e1
  obtain ⟨r0, r1, r2, r3, r4⟩ := cells5 HJ.out.box
  have rl := HJ.out.box.lt
  have f0 := HJ.out.box.free 0
  have f1 := HJ.out.box.free 1
  have f4 := HJ.out.box.free 4
  go_wp2_with fail
  have H2 := (HJ.out.set HK.out 0 (.slice (some ⟨g, 0, none⟩) (L.length + 1) cap')).set HK.out 4 (.int .i64 (hh + 1))
  simp only [List.set_cons_zero, List.set_cons_succ] at H2
  exact HQ.out _ _ _ _ _ _ _ _ _ _ H2 (HM.out.left HT.out.1)
set_option maxRecDepth 100000 in
set_option maxHeartbeats 8000000 in
theorem made_right {w0 w : World} {A B b o len cap D br N1 n k bx by_ : Nat} {L R : List Mrk} {P : List (Nat × Nat)} {S : List Int} {vl vr vp vi : Value} {s t hh sh z : Int} {x y : Mrk} (K : MdK w0 A B b D br N1) (I : MdI w0 A B b o len cap D br N1 n L R P S vl vr vp vi [vl, vr, .int .i64 s, .int .i64 t, .int .i64 hh] w) (M : Md s t k L R P S hh) (hk : k ≤ 10) (HX : Hid (Box w bx [.int .i64 x.a, .int .i64 x.b, .int .i64 x.c, .int .i64 x.d] 65)) (HY : Hid (Box w by_ [.int .i64 y.a, .int .i64 y.b, .int .i64 y.c, .int .i64 y.d] 65))
    (hx : x.ok = true) (hy : y.ok = true) (hv : tru s t x y sh) (hfar : ∀ q, vl.ownBlock = some q ∨ vr.ownBlock = some q → q ≠ bx ∧ q ≠ by_) (hz0 : z ≠ 0) (hz : z = 1) {s0 s5 s6 s7 s9 s12 s13 s14 s15 s16 s17 s18 s19 s20 s21 s22 s23 s24 s25 s26 s27 s28 s29 s30 s31 s32 s33 s34 s35 s36 s37 s38 s39 s40 s41 s42 s43 s44 s45 s46 s47 s48 s49 s50 s51 s52 s53 s54 s55 s56 s57 s58 s59 s60 s61 s62 s63 s64 s66 s67 s68 s69 s70 s71 s72 s73 s74 s75 s76 s77 s78 s79 s80 s81 s82 s83 s84 s85 s86 s87 s88 s89 s90 s91 s92 s93 s94 s95 s96 s97 s98 s99 s100 s101 s102 s103 s104 s105 s106 s107 s108 s109 s110 s111 s112 s113 s114 s115 s116 s117 s118 s119 s120 s121 s122 s123 s124 s125 s126 : Value} {Q : Exit → Act → World → Prop}
    (hQ : ∀ (L' R' : List Mrk) (P' : List (Nat × Nat)) (S' : List Int) (vl' vr' vp' vi' : Value) (hh' : Int) (W : World), MdI w0 A B b o len cap D br N1 n L' R' P' S' vl' vr' vp' vi' [vl', vr', .int .i64 s, .int .i64 t, .int .i64 hh'] W → Md s t (k + 1) L' R' P' S' hh' → ∀ {z66 z67 z68 z69 z70 z71 z72 z73 z74 z75 z76 z77 z78 z79 z80 z81 z82 z83 z84 z85 z86 z87 z88 z89 z90 z91 z92 z93 z94 z95 z96 z97 z98 z99 z100 z101 z102 z103 z104 z105 z106 z107 z108 z109 z110 z111 z112 z113 z114 z115 : Value}, Q .normal { tmps := #[s0, .pointer (some ⟨D, 0, none⟩), .pointer (some ⟨br, 0, none⟩), vp', vi', s5, s6, s7, .int .i64 sh, s9, .pointer (some ⟨bx, 0, none⟩), .pointer (some ⟨by_, 0, none⟩), s12, s13, s14, s15, s16, s17, s18, s19, s20, s21, s22, s23, s24, s25, s26, s27, s28, s29, s30, s31, s32, s33, s34, s35, s36, s37, s38, s39, s40, s41, s42, s43, s44, s45, s46, s47, s48, s49, s50, s51, s52, s53, s54, s55, s56, s57, s58, s59, s60, s61, s62, s63, s64, .int .i64 z, z66, z67, z68, z69, z70, z71, z72, z73, z74, z75, z76, z77, z78, z79, z80, z81, z82, z83, z84, z85, z86, z87, z88, z89, z90, z91, z92, z93, z94, z95, z96, z97, z98, z99, z100, z101, z102, z103, z104, z105, z106, z107, z108, z109, z110, z111, z112, z113, z114, z115, s116, s117, s118, s119, s120, s121, s122, s123, s124, s125, s126], defers := [] } W) :
    (Code.rgt (Code.rgt (Code.rgt (Code.rgt (Code.lft (Code.lft (Code.rgt (Code.rgt (Code.lft (Code.lft (Code.rgt (Code.lft (Code.rgt (Code.rgt (Code.rgt (Code.rgt (Code.rgt (Try.f36.body.getD .skip)))))))))))))))))).wp Try.prog Q { tmps := #[s0, .pointer (some ⟨D, 0, none⟩), .pointer (some ⟨br, 0, none⟩), vp, vi, s5, s6, s7, .int .i64 sh, s9, .pointer (some ⟨bx, 0, none⟩), .pointer (some ⟨by_, 0, none⟩), s12, s13, s14, s15, s16, s17, s18, s19, s20, s21, s22, s23, s24, s25, s26, s27, s28, s29, s30, s31, s32, s33, s34, s35, s36, s37, s38, s39, s40, s41, s42, s43, s44, s45, s46, s47, s48, s49, s50, s51, s52, s53, s54, s55, s56, s57, s58, s59, s60, s61, s62, s63, s64, .int .i64 z, s66, s67, s68, s69, s70, s71, s72, s73, s74, s75, s76, s77, s78, s79, s80, s81, s82, s83, s84, s85, s86, s87, s88, s89, s90, s91, s92, s93, s94, s95, s96, s97, s98, s99, s100, s101, s102, s103, s104, s105, s106, s107, s108, s109, s110, s111, s112, s113, s114, s115, s116, s117, s118, s119, s120, s121, s122, s123, s124, s125, s126], defers := [] } w := by
  conv => arg 2; whnf
  obtain ⟨pl, cl, rfl⟩ := own_slice I.ol
  obtain ⟨pr, cr, rfl⟩ := own_slice I.or_
  obtain ⟨pp, cp, rfl⟩ := own_slice I.op
  obtain ⟨ps, cs, rfl⟩ := own_slice I.os
  have HI := Lib.hid I
  have HK := Lib.hid K
  have HQ := Lib.hid hQ
  have HM := Lib.hid M
  have HF := Lib.hid hfar
  have nL := M.nL
  have nR := M.nR
  have nP : P.length ≤ 20 := by have := M.len_le; omega
  have nS : S.length ≤ 20 := by rw [M.len]; exact nP
  have hh0 : 0 ≤ hh ∧ hh ≤ 1000 := by have := M.few; have := M.hid; have := M.len_le; omega
  have HT := Lib.hid (show x.ok = true ∧ y.ok = true ∧ tru s t x y sh from ⟨hx, hy, hv⟩)
  clear I K hQ M hfar hx hy hv
  obtain ⟨r0, r1, r2, r3, r4⟩ := cells5 HI.out.box
  have rl := HI.out.box.lt
  have f0 := HI.out.box.free 0
  have f1 := HI.out.box.free 1
  have f4 := HI.out.box.free 4
  obtain ⟨x0, x1, x2, x3⟩ := acells4 HX.out
  have xl := HX.out.lt
  obtain ⟨y0, y1, y2, y3⟩ := acells4 HY.out
  have yl := HY.out.lt
  subst hz
  obtain ⟨i0, ii0, iz0, iz1, iz2⟩ := infoP info65a
  have II0 := Lib.hid ii0
  have IZ0 := Lib.hid iz0
  have IZ1 := Lib.hid iz1
  have IZ2 := Lib.hid iz2
  clear ii0 iz0 iz1 iz2
  go_wp2_with (first | (at_builtin; refine wpList_append_lies _ rfl _ _ 22 rfl N1 65 i0 _ 4 32 Try.underlying22 II0.out IZ0.out IZ1.out IZ2.out rfl (by decide) _ _ _ rfl (HI.out.gr HK.out (Gr.alloc w (Obj.cells #[.int .i64 y.a, .int .i64 y.b, .int .i64 y.c, .int .i64 y.d] 65))).or_ ⟨w.heap.size, 0, none⟩ 1 1 [.int .i64 y.a, .int .i64 y.b, .int .i64 y.c, .int .i64 y.d] rfl rfl (box_news (Box.fresh w [.int .i64 y.a, .int .i64 y.b, .int .i64 y.c, .int .i64 y.d] 65)) (one4 _ _ _ _) ?c1 ?c2 ?c3 ?c4 _ rfl ?_))
  case c2 => unfold maxLen; omega
  case c3 => omega
  case c4 => have := HI.out.size; first | omega | (simp; omega)
  intro g cap' w5 hown hgrow hat hlt5
  have HJ := Lib.hid ((HI.out.gr HK.out (Gr.alloc w (Obj.cells #[.int .i64 y.a, .int .i64 y.b, .int .i64 y.c, .int .i64 y.d] 65))).appR HK.out (x := y) hown hgrow hat (by first | exact Nat.le_refl _ | simp))
  have e1 : (R ++ [y]).length = R.length + 1 := by simp
  rw [e1] at HJ
  clear HI hown hgrow hat hlt5 r0 r1 r2 r3 r4 rl f0 f1 f4 x0 x1 x2 x3 xl y0 y1 y2 y3 yl e1
  obtain ⟨r0, r1, r2, r3, r4⟩ := cells5 HJ.out.box
  have rl := HJ.out.box.lt
  have f0 := HJ.out.box.free 0
  have f1 := HJ.out.box.free 1
  have f4 := HJ.out.box.free 4
  go_wp2_with fail
  have H2 := (HJ.out.set HK.out 1 (.slice (some ⟨g, 0, none⟩) (R.length + 1) cap')).set HK.out 4 (.int .i64 (hh + 1))
  simp only [List.set_cons_zero, List.set_cons_succ] at H2
  exact HQ.out _ _ _ _ _ _ _ _ _ _ H2 (HM.out.right HT.out.2.1)

end Go.Proofs.Ytjlaoiimbhlafaa
