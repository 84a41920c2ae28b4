import Derived.Test.YtjlaoiimbhlafaaL1
import Derived.Deep.RegionHeld3
import Derived.Deep.CutBlock
import Derived.Deep.DeepCutAuto
import Derived.Laws.StructEq
set_option linter.unusedVariables false
set_option linter.unusedSimpArgs false
namespace Go.Proofs.Ytjlaoiimbhlafaa
open Go.RowKit Go.Shelf

open MW
attribute [local go_sem] Oper.semAt_some run_store_func
attribute [local go_sem ↓] Go.wp_at_zero Go.wp_at_succ
attribute [local go_sem] guard55 guard24 neq55 eql24 neq24
attribute [-go_sem] run_eql_struct run_neq_struct
def Code.snd2 : Code → Code
  | .seq _ b => b
  | c => c
theorem Gr.drewN (w : World) (n : Nat) : Gr w (w.drewN n) := (Below.refl _ _).trans ⟨rfl, rfl, rfl, Nat.le_refl _, fun _ _ => rfl⟩
theorem Gr.stc {w w' : World} {b i : Nat} {x : Value} (h : Gr w w') (hb : w.heap.size ≤ b) : Gr w (w'.setCell ⟨b, i, none⟩ x) := Below.setCell h hb _
theorem few20 (r : Rr) (w : World) (hl : MksAt r.L r.lp w) (hr : MksAt r.R r.rp w) {l : List (Nat × Nat)} {n : Nat} {c : Int} (hf : r.fewest = (l, n, c)) :
    Calls Try.prog 20 #[r.val] w fun e w' => (∃ v, e = .returned (.tuple #[v, .int .i64 n, .int .i64 c]) ∧ PrsIn v l w') ∧ Below w.heap.size w w' := by
  have h := Fewest_any r w hl hr
  rw [hf] at h
  refine h.mono ?_
  rintro e w' ⟨⟨v, h1, h2⟩, h3⟩
  exact ⟨⟨v, h1, PrsIn.of_own h2⟩, h3⟩
set_option maxRecDepth 100000 in
set_option maxHeartbeats 8000000 in
theorem lfew_end (r : Rr) (l : List (Nat × Nat)) (nf : Nat) (w wb : World) (hok : r.ok = true) (hB : Box wb w.heap.size r.cs 26) (hG : Gr w wb) (hML : MksAt r.L r.lp wb) (hMR : MksAt r.R r.rp wb) (hnf : nf ≤ 1000) (hf : (r.wH nf).fewest = (l, nf, 0)) (hn : ∀ m : Nat, nf = m + 1 → (r.wH m).counted = (0, 0)) {s0 s1 s3 s4 s5 s7 s8 s9 s10 s11 s12 s13 s14 s15 s16 s17 s18 s19 s20 s21 s22 s23 s24 s25 s26 s27 s28 s29 s30 s31 s32 s33 s34 s35 s36 s37 s38 s39 s40 s41 s42 s43 s44 s45 s46 s47 s48 s49 s50 s51 s52 s53 s54 s55 s56 s57 s58 s59 s60 s61 s62 s63 s64 s65 s66 s67 s68 s69 s70 s71 s72 s73 s74 s75 s76 s77 s78 s79 s80 s81 s82 s83 s84 s85 s86 s87 s88 s89 s90 s91 s92 s93 s94 s95 s96 s97 s98 s99 s100 s101 s102 s103 s104 s105 s106 s107 s108 s109 s110 s111 s112 s113 s114 s115 s116 s117 s118 s119 s120 s121 s122 s123 s124 s125 s126 s127 s128 s129 s130 s131 s132 s133 s134 s135 s136 s137 s138 s139 s140 s141 s142 s143 s144 s145 s146 s147 s148 s149 s150 s151 s152 s153 s154 s155 s156 s157 s158 s159 s160 s161 s162 s163 s164 s165 s166 s167 s168 s169 s170 s171 s172 s173 s174 s175 s176 s177 s178 s179 s180 s181 s182 s183 s184 s185 s186 s187 s188 s189 s190 s191 s192 s193 s194 s195 s196 s197 s198 s199 s200 s201 s202 s203 s204 s205 s206 s207 s208 s209 s210 s211 s212 s213 s214 s215 s216 s217 s218 s219 s220 s221 s222 s223 s224 s225 s226 s227 s228 s229 s230 s231 s232 s233 s234 s235 s236 s237 s238 s239 s240 s241 s242 s243 s244 s245 s246 s247 s248 s249 s250 s251 s252 s253 s254 s255 s256 s257 s258 s259 s260 s261 s262 s263 s264 s265 s266 s267 s268 s269 s270 s271 s272 s273 s274 s275 s276 s277 s278 s279 s280 s281 s282 s283 s284 s285 s286 s287 s288 s289 s290 s291 s292 s293 s294 s295 s296 s297 s298 s299 s300 s301 s302 s303 s304 s305 s306 s307 s308 s309 s310 s311 s312 s313 s314 s315 s316 : Value} :
    (Code.snd2 (Code.snd2 (Code.snd2 (Code.snd2 (Code.snd2 (Code.snd2 (Code.snd2 (Code.snd2 (Code.snd2 (Code.snd2 (Code.snd2 (Code.snd2 (Try.f8.body.getD .skip))))))))))))).wp Try.prog (bodyPost Try.prog Try.f8 fun e w' => e = .returned (.bool true) ∧ Below w.heap.size w w') { tmps := #[s0, s1, .pointer (some ⟨w.heap.size, 0, none⟩), s3, s4, s5, .int .i64 nf, s7, s8, s9, s10, s11, s12, s13, s14, s15, s16, s17, s18, s19, s20, s21, s22, s23, s24, s25, s26, s27, s28, s29, s30, s31, s32, s33, s34, s35, s36, s37, s38, s39, s40, s41, s42, s43, s44, s45, s46, s47, s48, s49, s50, s51, s52, s53, s54, s55, s56, s57, s58, s59, s60, s61, s62, s63, s64, s65, s66, s67, s68, s69, s70, s71, s72, s73, s74, s75, s76, s77, s78, s79, s80, s81, s82, s83, s84, s85, s86, s87, s88, s89, s90, s91, s92, s93, s94, s95, s96, s97, s98, s99, s100, s101, s102, s103, s104, s105, s106, s107, s108, s109, s110, s111, s112, s113, s114, s115, s116, s117, s118, s119, s120, s121, s122, s123, s124, s125, s126, s127, s128, s129, s130, s131, s132, s133, s134, s135, s136, s137, s138, s139, s140, s141, s142, s143, s144, s145, s146, s147, s148, s149, s150, s151, s152, s153, s154, s155, s156, s157, s158, s159, s160, s161, s162, s163, s164, s165, s166, s167, s168, s169, s170, s171, s172, s173, s174, s175, s176, s177, s178, s179, s180, s181, s182, s183, s184, s185, s186, s187, s188, s189, s190, s191, s192, s193, s194, s195, s196, s197, s198, s199, s200, s201, s202, s203, s204, s205, s206, s207, s208, s209, s210, s211, s212, s213, s214, s215, s216, s217, s218, s219, s220, s221, s222, s223, s224, s225, s226, s227, s228, s229, s230, s231, s232, s233, s234, s235, s236, s237, s238, s239, s240, s241, s242, s243, s244, s245, s246, s247, s248, s249, s250, s251, s252, s253, s254, s255, s256, s257, s258, s259, s260, s261, s262, s263, s264, s265, s266, s267, s268, s269, s270, s271, s272, s273, s274, s275, s276, s277, s278, s279, s280, s281, s282, s283, s284, s285, s286, s287, s288, s289, s290, s291, s292, s293, s294, s295, s296, s297, s298, s299, s300, s301, s302, s303, s304, s305, s306, s307, s308, s309, s310, s311, s312, s313, s314, s315, s316], defers := [] } wb := by
  conv => arg 2; whnf
  have H20 := Lib.hid (fun W (hg : Gr wb W) => few20 (r.wH nf) W (hML.grow hg) (hMR.grow hg) hf)
  have C18 : ∀ W, Gr wb W → ∀ m : Nat, nf = m + 1 → Calls Try.prog 18 #[.agg #[.slice r.lp r.L.length r.lc, .slice r.rp r.R.length r.rc, .int .i64 r.s, .int .i64 r.t, .int .i64 m]] W fun e w' => e = .returned (.tuple #[.int .i64 0, .int .i64 0]) ∧ Below W.heap.size W w' := fun W hg m hm => by
    have h := Count_any (r.wH m) W (hML.grow hg) (hMR.grow hg)
    rw [hn m hm] at h
    exact h
  have HB := Lib.hid hB
  have HG := Lib.hid hG
  have H20 : Hid (∀ W, Gr wb W → Calls Try.prog 20 #[.agg #[.slice r.lp r.L.length r.lc, .slice r.rp r.R.length r.rc, .int .i64 r.s, .int .i64 r.t, .int .i64 nf]] W fun e w' => (∃ v, e = .returned (.tuple #[v, .int .i64 nf, .int .i64 0]) ∧ PrsIn v l w') ∧ Below W.heap.size W w') := H20
  have HC := Lib.hid C18
  clear hB hG hML hMR hok hf hn C18
  unfold Rr.cs at HB
  obtain ⟨r0, r1, r2, r3, r4⟩ := cells5 HB.out
  have rl := HB.out.lt
  apply wp_seq_k
  intro KA hKA
  have HKA := Lib.hid hKA
  clear hKA
  go_wp2_with fail
  refine HKA.out _ _ ?_
  clear HKA
  apply wp_seq_k
  intro KA hKA
  have HKA := Lib.hid hKA
  clear hKA
  have HX := Lib.hid (Box.fresh wb [.slice r.lp r.L.length r.lc, .slice r.rp r.R.length r.rc, .int .i64 r.s, .int .i64 r.t, .int .i64 nf] 26)
  have HGW := Lib.hid (Gr.alloc wb (Obj.cells #[.slice r.lp r.L.length r.lc, .slice r.rp r.R.length r.rc, .int .i64 r.s, .int .i64 r.t, .int .i64 nf] 26))
  clear r0 r1 r2 r3 r4 rl
  go_wp2_with fail
  refine HKA.out _ _ ?_
  clear HKA
  have HBX := Lib.hid (Nat.le_refl wb.heap.size)
  generalize (wb.alloc (Obj.cells #[.slice r.lp r.L.length r.lc, .slice r.rp r.R.length r.rc, .int .i64 r.s, .int .i64 r.t, .int .i64 nf] 26)) = w0 at *
  have HBX : ∃ bx, bx = wb.heap.size := ⟨_, rfl⟩
  obtain ⟨bx, hbx⟩ := HBX
  rw [← hbx] at HX ⊢
  have HBX := Lib.hid (show wb.heap.size ≤ bx by omega)
  clear hbx
  obtain ⟨r0, r1, r2, r3, r4⟩ := cells5 HX.out
  have rl := HX.out.lt
  have rf := HX.out.free 4
  rcases Nat.eq_zero_or_pos nf with h | h
  · have g1 : decide ((0 : Int) < nf) = false := by simp; omega
    have g0 : ¬ 0 < nf := by omega
    clear h
    go_wp2_with (first | (go_at_call 20; (with_reducible refine (H20.out _ HGW.out).mono ?_); rintro e w1 ⟨⟨v20, rfl, -⟩, hb⟩; have HGW2 := Lib.hid (Gr.tr HGW.out hb); have HX2 := Lib.hid (HX.out.grow hb); clear HX; have HX := HX2; clear r0 r1 r2 r3 r4 rl HX2; obtain ⟨r0, r1, r2, r3, r4⟩ := cells5 HX.out; have rl := HX.out.lt; have rf := HX.out.free 4; clear hb HGW; have HGW := HGW2; clear HGW2) | (go_at_call 15; (with_reducible refine (alive_any _).mono ?_); rintro e wa ⟨rfl, hb⟩; have HGW2 := Lib.hid (Gr.tr HGW.out hb); clear hb HGW; have HGW := HGW2; clear HGW2))
    go_ret
    exact ⟨rfl, HG.out.tr HGW.out⟩
  · obtain ⟨m, hm⟩ : ∃ m, nf = m + 1 := ⟨nf - 1, by omega⟩
    have g1 : decide ((0 : Int) < nf) = true := by simp; omega
    have g0 : 0 < nf := h
    have g2 : IntKind.i64.wrap ((nf : Int) - 1) = m := by rw [IntWalk.i64_in _ (by omega)]; omega
    have HH := Lib.hid (fun W (hg : Gr wb W) => HC.out W hg m hm)
    clear h hm
    go_wp2_with (first | (go_at_call 20; (with_reducible refine (H20.out _ HGW.out).mono ?_); rintro e w1 ⟨⟨v20, rfl, -⟩, hb⟩; have HGW2 := Lib.hid (Gr.tr HGW.out hb); have HX2 := Lib.hid (HX.out.grow hb); clear HX; have HX := HX2; clear r0 r1 r2 r3 r4 rl HX2; obtain ⟨r0, r1, r2, r3, r4⟩ := cells5 HX.out; have rl := HX.out.lt; have rf := HX.out.free 4; clear hb HGW; have HGW := HGW2; clear HGW2) | (go_at_call 18; (with_reducible refine (HH.out _ (Gr.stc HGW.out HBX.out)).mono ?_); rintro e w3 ⟨rfl, hb⟩; have HGW2 := Lib.hid (Gr.tr (Gr.stc HGW.out HBX.out) hb); clear hb HGW; have HGW := HGW2; clear HGW2) | (go_at_call 15; (with_reducible refine (alive_any _).mono ?_); rintro e wa ⟨rfl, hb⟩; have HGW2 := Lib.hid (Gr.tr HGW.out hb); clear hb HGW; have HGW := HGW2; clear HGW2))
    go_ret
    exact ⟨rfl, HG.out.tr HGW.out⟩

end Go.Proofs.Ytjlaoiimbhlafaa
