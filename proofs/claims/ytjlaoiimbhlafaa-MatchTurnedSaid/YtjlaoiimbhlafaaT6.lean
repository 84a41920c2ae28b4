import Derived.Test.YtjlaoiimbhlafaaT5
import Derived.Laws.StructEq
set_option linter.unusedVariables false
set_option linter.unusedSimpArgs false
namespace Go.Proofs.Ytjlaoiimbhlafaa
open Go.RowKit Go.Shelf

open MW
attribute [local go_sem] Oper.semAt_some run_store_func
attribute [local go_sem ↓] Go.wp_at_zero Go.wp_at_succ
attribute [local go_sem] guard55 guard24 neq55 eql24 neq24
attribute [-go_sem] run_eql_struct run_neq_struct
theorem few20o (r : Rr) (w : World) (hl : MksAt r.L r.lp w) (hr : MksAt r.R r.rp w) {l : List (Nat × Nat)} {n : Nat} {c : Int} (hf : r.fewest = (l, n, c)) :
    Calls Try.prog 20 #[r.val] w fun e w' => (∃ p k, e = .returned (.tuple #[.slice p l.length k, .int .i64 n, .int .i64 c]) ∧ w'.ownsRow w.heap.size 55 2 (.slice p l.length k) l.length (l.flatMap pv) ∧ ∀ g, p = some ⟨g, 0, none⟩ → w.heap.size ≤ g ∧ g < w'.heap.size) ∧ Below w.heap.size w w' := by
  have h := Fewest_any r w hl hr
  rw [hf] at h
  refine h.mono ?_
  rintro e w' ⟨⟨v, h1, h2⟩, h3⟩
  have h2' := h2
  obtain ⟨-, h4⟩ := h2
  rcases h4 with ⟨rfl, h0⟩ | ⟨g, cap, cur, rfl, hge, hcur, -⟩
  · rw [h0] at *
    exact ⟨⟨none, 0, by rw [h1], h2', fun g e => by cases e⟩, h3⟩
  · exact ⟨⟨some ⟨g, 0, none⟩, cap, h1, h2', fun g' e => by cases e; exact ⟨hge, (Array.getElem?_eq_some_iff.1 hcur).1⟩⟩, h3⟩
theorem can23o (r : Rr) (w : World) (hl : MksAt r.L r.lp w) (hr : MksAt r.R r.rp w) {n : Nat} {F : Nat → Int} {c : Int} (hf : r.can = ((List.range n).map F, c)) :
    Calls Try.prog 23 #[r.val] w fun e w' => (∃ p k, e = .returned (.tuple #[.slice p n k, .int .i64 c]) ∧ InsF p n F w' ∧ ∀ b o, p = some ⟨b, o, none⟩ → w.heap.size ≤ b) ∧ Below w.heap.size w w' := by
  have h := Can_any r w hl hr
  rw [hf] at h
  refine h.mono ?_
  rintro e w' hh
  obtain ⟨⟨p, k, h1, h2⟩, h3⟩ := InPost.sl hh
  refine ⟨⟨p, k, h1, h2, fun b o e => ?_⟩, h3⟩
  obtain ⟨⟨v, g1, g2⟩, -⟩ := hh
  have hv : v = .slice p n k := by
    have := g1.symm.trans h1
    simpa using this
  subst hv
  obtain ⟨-, h4⟩ := g2
  rcases h4 with ⟨hn, -⟩ | ⟨g, cap, cur, hv, hge, -⟩
  · cases hn; cases e
  · have : p = some ⟨g, 0, none⟩ := by injection hv
    rw [this] at e
    cases e
    exact hge
set_option maxRecDepth 100000 in
set_option maxHeartbeats 8000000 in
theorem lturn_calls_zero (r y : Rr) (l lx : List (Nat × Nat)) (nf n ha hb bx by_ : Nat) (pl pr : Option Addr) (cl cr : Nat) (w wb : World) (hok : r.ok = true) (hB : Box wb w.heap.size r.cs 26) (hX : Box wb bx r.swap.cs 26) (hY : Box wb by_ y.cs 26) (hG : Gr w wb) (hML : MksAt r.L r.lp w) (hMR : MksAt r.R r.rp w) (hYL : MksAt y.L y.lp wb) (hYR : MksAt y.R y.rp wb) (hCL : MksAt r.L pl wb) (hCR : MksAt r.R pr wb) (hln : l.length ≤ 1000) (hf : r.fewest = (l, nf, 4)) (hfx : r.swap.fewest = (lx, nf, 4)) (hcr : r.counted = (n, 0)) (hcx : r.swap.counted = (n, 0)) (hcy : y.counted = (n, 0)) (hhr : r.hides = (ha, hb, 4)) (hhx : r.swap.hides = (hb, ha, 4)) (hkr : r.can = ((List.range (0)).map (fun _ => 0), 4)) (hkx : r.swap.can = ((List.range (0)).map (fun _ => 0), 4)) (hpl : ∀ b o, pl = some ⟨b, o, none⟩ → b < wb.heap.size) (hpr : ∀ b o, pr = some ⟨b, o, none⟩ → b < wb.heap.size) {s0 s2 s5 s8 s9 s10 s11 s12 s13 s14 s15 s16 s17 s18 s19 s20 s21 s22 s23 s24 s25 s26 s27 s28 s29 s30 s31 s32 s33 s34 s35 s36 s37 s38 s39 s40 s41 s42 s43 s44 s45 s46 s47 s48 s49 s50 s51 s52 s53 s54 s55 s56 s57 s58 s59 s60 s61 s62 s63 s64 s65 s66 s67 s68 s69 s70 s71 s72 s73 s74 s75 s76 s77 s78 s79 s80 s81 s82 s83 s84 s85 s86 s87 s88 s89 s90 s91 s92 s93 s94 s95 s96 s97 s98 s99 s100 s101 s102 s103 s104 s105 s106 s107 s108 s109 s110 s111 s112 s113 s114 s115 s116 s117 s118 s119 s120 s121 s122 s123 s124 s125 s126 s127 s128 s129 s130 s131 s132 s133 s134 s135 s136 s137 s138 s139 s140 s141 s142 s143 s144 s145 s146 s147 s148 s149 s150 s151 s152 s153 s154 s155 s156 s157 s158 s159 s160 s161 s162 s163 s164 s165 s166 s167 s168 s169 s170 s171 s172 s173 s174 s175 s176 s177 s178 s179 s180 s181 s182 s183 s184 s185 s186 s187 s188 s189 s190 s191 s192 s193 s194 s195 s196 s197 s198 s199 s200 s201 s202 s203 s204 s205 s206 s207 s208 s209 s210 s211 s212 s213 s214 s215 s216 s217 s218 s219 s220 s221 s222 s223 s224 s225 s226 s227 s228 s229 s230 s231 s232 s233 s234 s235 s236 s237 s238 s239 s240 s241 s242 s243 s244 s245 s246 s247 s248 s249 s250 s251 s252 s253 s254 s255 s256 s257 s258 s259 s260 s261 s262 s263 s264 s265 s266 s267 s268 s269 s270 s271 s272 s273 s274 s275 s276 s277 s278 s279 s280 s281 s282 s283 s284 s285 s286 s287 s288 s289 s290 s291 s292 s293 s294 : Value} :
    (Code.snd2 (Code.snd2 (Code.snd2 (Code.snd2 (Code.snd2 (Code.snd2 (Code.snd2 (Try.f12.body.getD .skip)))))))).wp Try.prog (bodyPost Try.prog Try.f12 fun e w' => e = .returned (.bool true) ∧ Below w.heap.size w w') { tmps := #[s0, .pointer (some ⟨w.heap.size, 0, none⟩), s2, .pointer (some ⟨bx, 0, none⟩), .pointer (some ⟨by_, 0, none⟩), s5, .slice pl r.L.length cl, .slice pr r.R.length cr, s8, s9, s10, s11, s12, s13, s14, s15, s16, s17, s18, s19, s20, s21, s22, s23, s24, s25, s26, s27, s28, s29, s30, s31, s32, s33, s34, s35, s36, s37, s38, s39, s40, s41, s42, s43, s44, s45, s46, s47, s48, s49, s50, s51, s52, s53, s54, s55, s56, s57, s58, s59, s60, s61, s62, s63, s64, s65, s66, s67, s68, s69, s70, s71, s72, s73, s74, s75, s76, s77, s78, s79, s80, s81, s82, s83, s84, s85, s86, s87, s88, s89, s90, s91, s92, s93, s94, s95, s96, s97, s98, s99, s100, s101, s102, s103, s104, s105, s106, s107, s108, s109, s110, s111, s112, s113, s114, s115, s116, s117, s118, s119, s120, s121, s122, s123, s124, s125, s126, s127, s128, s129, s130, s131, s132, s133, s134, s135, s136, s137, s138, s139, s140, s141, s142, s143, s144, s145, s146, s147, s148, s149, s150, s151, s152, s153, s154, s155, s156, s157, s158, s159, s160, s161, s162, s163, s164, s165, s166, s167, s168, s169, s170, s171, s172, s173, s174, s175, s176, s177, s178, s179, s180, s181, s182, s183, s184, s185, s186, s187, s188, s189, s190, s191, s192, s193, s194, s195, s196, s197, s198, s199, s200, s201, s202, s203, s204, s205, s206, s207, s208, s209, s210, s211, s212, s213, s214, s215, s216, s217, s218, s219, s220, s221, s222, s223, s224, s225, s226, s227, s228, s229, s230, s231, s232, s233, s234, s235, s236, s237, s238, s239, s240, s241, s242, s243, s244, s245, s246, s247, s248, s249, s250, s251, s252, s253, s254, s255, s256, s257, s258, s259, s260, s261, s262, s263, s264, s265, s266, s267, s268, s269, s270, s271, s272, s273, s274, s275, s276, s277, s278, s279, s280, s281, s282, s283, s284, s285, s286, s287, s288, s289, s290, s291, s292, s293, s294], defers := [] } wb := by
  conv => arg 2; whnf
  have C18r : ∀ W, Gr wb W → Calls Try.prog 18 #[r.val] W fun e w' => e = .returned (.tuple #[.int .i64 (n : Nat), .int .i64 0]) ∧ Below W.heap.size W w' := fun W hg => by
    have h := Count_any r W (hML.grow (hG.tr hg)) (hMR.grow (hG.tr hg))
    rw [hcr] at h
    exact h
  have C18x : ∀ W, Gr wb W → Calls Try.prog 18 #[.agg #[.slice r.rp r.R.length r.rc, .slice r.lp r.L.length r.lc, .int .i64 (-r.t), .int .i64 (-r.s), .int .i64 r.h]] W fun e w' => e = .returned (.tuple #[.int .i64 (n : Nat), .int .i64 0]) ∧ Below W.heap.size W w' := fun W hg => by
    have h := Count_any r.swap W (hMR.grow (hG.tr hg)) (hML.grow (hG.tr hg))
    rw [hcx] at h
    exact h
  have C18y : ∀ W, Gr wb W → Calls Try.prog 18 #[y.val] W fun e w' => e = .returned (.tuple #[.int .i64 (n : Nat), .int .i64 0]) ∧ Below W.heap.size W w' := fun W hg => by
    have h := Count_any y W (hYL.grow hg) (hYR.grow hg)
    rw [hcy] at h
    exact h
  have C27r : ∀ W, Gr wb W → Calls Try.prog 27 #[r.val] W fun e w' => e = .returned (.tuple #[.int .i64 (ha : Nat), .int .i64 (hb : Nat), .int .i64 4]) ∧ Below W.heap.size W w' := fun W hg => by
    have h := Hides_any r W (hML.grow (hG.tr hg)) (hMR.grow (hG.tr hg))
    rw [hhr] at h
    exact h
  have C27x : ∀ W, Gr wb W → Calls Try.prog 27 #[.agg #[.slice r.rp r.R.length r.rc, .slice r.lp r.L.length r.lc, .int .i64 (-r.t), .int .i64 (-r.s), .int .i64 r.h]] W fun e w' => e = .returned (.tuple #[.int .i64 (hb : Nat), .int .i64 (ha : Nat), .int .i64 4]) ∧ Below W.heap.size W w' := fun W hg => by
    have h := Hides_any r.swap W (hMR.grow (hG.tr hg)) (hML.grow (hG.tr hg))
    rw [hhx] at h
    exact h
  have C20r := fun W (hg : Gr wb W) => few20o r W (hML.grow (hG.tr hg)) (hMR.grow (hG.tr hg)) hf
  have C20x : ∀ W, Gr wb W → Calls Try.prog 20 #[.agg #[.slice r.rp r.R.length r.rc, .slice r.lp r.L.length r.lc, .int .i64 (-r.t), .int .i64 (-r.s), .int .i64 r.h]] W fun e w' => (∃ v, e = .returned (.tuple #[v, .int .i64 nf, .int .i64 4]) ∧ PrsIn v lx w') ∧ Below W.heap.size W w' := fun W hg => few20 r.swap W (hMR.grow (hG.tr hg)) (hML.grow (hG.tr hg)) hfx
  have C23r := fun W (hg : Gr wb W) => can23o r W (hML.grow (hG.tr hg)) (hMR.grow (hG.tr hg)) hkr
  have C23x : ∀ W, Gr wb W → Calls Try.prog 23 #[.agg #[.slice r.rp r.R.length r.rc, .slice r.lp r.L.length r.lc, .int .i64 (-r.t), .int .i64 (-r.s), .int .i64 r.h]] W fun e w' => (∃ p k, e = .returned (.tuple #[.slice p (0) k, .int .i64 4]) ∧ InsF p (0) (fun _ => 0) w' ∧ ∀ b o, p = some ⟨b, o, none⟩ → W.heap.size ≤ b) ∧ Below W.heap.size W w' := fun W hg => can23o r.swap W (hMR.grow (hG.tr hg)) (hML.grow (hG.tr hg)) hkx
  unfold Rr.val at C18r C18y C27r C20r C23r
  have H18r := Lib.hid C18r
  have H18x := Lib.hid C18x
  have H18y := Lib.hid C18y
  have H27r := Lib.hid C27r
  have H27x := Lib.hid C27x
  have H20r := Lib.hid C20r
  have H20x := Lib.hid C20x
  have H23r := Lib.hid C23r
  have H23x := Lib.hid C23x
  clear C18r C18x C18y C27r C27x C20r C20x C23r C23x
  have HOK := Lib.hid hok
  have HB := Lib.hid hB
  have HBX := Lib.hid hX
  have HBY := Lib.hid hY
  have HG := Lib.hid hG
  have HML := Lib.hid hML
  have HMR := Lib.hid hMR
  have HCL := Lib.hid hCL
  have HCR := Lib.hid hCR
  have HLN := Lib.hid hln
  have HF := Lib.hid hf
  have HPL := Lib.hid hpl
  have HPR := Lib.hid hpr
  clear hok hB hX hY hG hML hMR hYL hYR hCL hCR hf hfx hcr hcx hcy hhr hhx hkr hkx hpl hpr
  unfold Rr.cs at HB HBY
  have HBX := Lib.hid (show Box wb bx [.slice r.rp r.R.length r.rc, .slice r.lp r.L.length r.lc, .int .i64 (-r.t), .int .i64 (-r.s), .int .i64 r.h] 26 from HBX.out)
  have HGW := Lib.hid (Gr.same wb)
  apply wp_seq_k
  intro K1 hK1
  have HK1 := Lib.hid hK1
  clear hK1
  obtain ⟨r0, r1, r2, r3, r4⟩ := cells5 (HB.out.grow HGW.out)
  have rl := (HB.out.grow HGW.out).lt
  go_wp2_with (first | (go_at_call 18; (with_reducible refine (H18r.out _ HGW.out).mono ?_); rintro e w1 ⟨rfl, hb⟩; clear r0 r1 r2 r3 r4 rl; have HGW2 := Lib.hid (Gr.tr HGW.out hb); clear hb HGW; have HGW := HGW2; clear HGW2))
  refine HK1.out _ _ ?_
  clear HK1
  apply wp_seq_k
  intro K2 hK2
  have HK2 := Lib.hid hK2
  clear hK2
  obtain ⟨r0, r1, r2, r3, r4⟩ := cells5 (HBX.out.grow HGW.out)
  have rl := (HBX.out.grow HGW.out).lt
  go_wp2_with (first | (go_at_call 18; (with_reducible refine (H18x.out _ HGW.out).mono ?_); rintro e w2 ⟨rfl, hb⟩; clear r0 r1 r2 r3 r4 rl; have HGW2 := Lib.hid (Gr.tr HGW.out hb); clear hb HGW; have HGW := HGW2; clear HGW2))
  refine HK2.out _ _ ?_
  clear HK2
  apply wp_seq_k
  intro K3 hK3
  have HK3 := Lib.hid hK3
  clear hK3
  obtain ⟨r0, r1, r2, r3, r4⟩ := cells5 (HBY.out.grow HGW.out)
  have rl := (HBY.out.grow HGW.out).lt
  go_wp2_with (first | (go_at_call 18; (with_reducible refine (H18y.out _ HGW.out).mono ?_); rintro e w3 ⟨rfl, hb⟩; clear r0 r1 r2 r3 r4 rl; have HGW2 := Lib.hid (Gr.tr HGW.out hb); clear hb HGW; have HGW := HGW2; clear HGW2))
  refine HK3.out _ _ ?_
  clear HK3
  apply wp_seq_k
  intro K4 hK4
  have HK4 := Lib.hid hK4
  clear hK4
  obtain ⟨r0, r1, r2, r3, r4⟩ := cells5 (HB.out.grow HGW.out)
  have rl := (HB.out.grow HGW.out).lt
  go_wp2_with (first | (go_at_call 20; (with_reducible refine (H20r.out _ HGW.out).mono ?_); rintro e w4 ⟨⟨pa, ka, rfl, hA, hga⟩, hb⟩; clear r0 r1 r2 r3 r4 rl; have HGW2 := Lib.hid (Gr.tr HGW.out hb); have hsz := HGW.out.size; clear hb HGW; have HGW := HGW2; clear HGW2))
  refine HK4.out _ _ ?_
  clear HK4
  have HA := Lib.hid hA
  have HGA := Lib.hid (show ∀ g, pa = some ⟨g, 0, none⟩ → wb.heap.size ≤ g ∧ g < w4.heap.size from fun g e => ⟨Nat.le_trans hsz (hga g e).1, (hga g e).2⟩)
  have HSZ := Lib.hid (show w4.heap.size ≤ w4.heap.size from Nat.le_refl _)
  have HBS := Lib.hid hsz
  clear hA hga hsz
  apply wp_seq_k
  intro K5 hK5
  have HK5 := Lib.hid hK5
  clear hK5
  obtain ⟨r0, r1, r2, r3, r4⟩ := cells5 (HBX.out.grow HGW.out)
  have rl := (HBX.out.grow HGW.out).lt
  go_wp2_with (first | (go_at_call 20; (with_reducible refine (H20x.out _ HGW.out).mono ?_); rintro e w5 ⟨⟨vx, rfl, -⟩, hb⟩; clear r0 r1 r2 r3 r4 rl; have HGW2 := Lib.hid (Gr.tr HGW.out hb); have HA2 := Lib.hid (own_gr HA.out hb); have HSZ2 := Lib.hid (Nat.le_trans HSZ.out hb.size); clear HA HSZ; have HA := HA2; have HSZ := HSZ2; clear HA2 HSZ2; clear hb HGW; have HGW := HGW2; clear HGW2))
  refine HK5.out _ _ ?_
  clear HK5
  apply wp_seq_k
  intro K6 hK6
  have HK6 := Lib.hid hK6
  clear hK6
  obtain ⟨r0, r1, r2, r3, r4⟩ := cells5 (HB.out.grow HGW.out)
  have rl := (HB.out.grow HGW.out).lt
  go_wp2_with (first | (go_at_call 27; (with_reducible refine (H27r.out _ HGW.out).mono ?_); rintro e w6 ⟨rfl, hb⟩; clear r0 r1 r2 r3 r4 rl; have HGW2 := Lib.hid (Gr.tr HGW.out hb); have HA2 := Lib.hid (own_gr HA.out hb); have HSZ2 := Lib.hid (Nat.le_trans HSZ.out hb.size); clear HA HSZ; have HA := HA2; have HSZ := HSZ2; clear HA2 HSZ2; clear hb HGW; have HGW := HGW2; clear HGW2))
  refine HK6.out _ _ ?_
  clear HK6
  apply wp_seq_k
  intro K7 hK7
  have HK7 := Lib.hid hK7
  clear hK7
  obtain ⟨r0, r1, r2, r3, r4⟩ := cells5 (HBX.out.grow HGW.out)
  have rl := (HBX.out.grow HGW.out).lt
  go_wp2_with (first | (go_at_call 27; (with_reducible refine (H27x.out _ HGW.out).mono ?_); rintro e w7 ⟨rfl, hb⟩; clear r0 r1 r2 r3 r4 rl; have HGW2 := Lib.hid (Gr.tr HGW.out hb); have HA2 := Lib.hid (own_gr HA.out hb); have HSZ2 := Lib.hid (Nat.le_trans HSZ.out hb.size); clear HA HSZ; have HA := HA2; have HSZ := HSZ2; clear HA2 HSZ2; clear hb HGW; have HGW := HGW2; clear HGW2))
  refine HK7.out _ _ ?_
  clear HK7
  apply wp_seq_k
  intro K8 hK8
  have HK8 := Lib.hid hK8
  clear hK8
  obtain ⟨r0, r1, r2, r3, r4⟩ := cells5 (HB.out.grow HGW.out)
  have rl := (HB.out.grow HGW.out).lt
  go_wp2_with (first | (go_at_call 23; (with_reducible refine (H23r.out _ HGW.out).mono ?_); rintro e w8 ⟨⟨pc, kc, rfl, hC, hgc⟩, hb⟩; clear r0 r1 r2 r3 r4 rl; have HGW2 := Lib.hid (Gr.tr HGW.out hb); have HPC := Lib.hid (fun b o e => Nat.le_trans HSZ.out (hgc b o e)); have HC := Lib.hid hC; clear hC hgc; have HA2 := Lib.hid (own_gr HA.out hb); have HSZ2 := Lib.hid (Nat.le_trans HSZ.out hb.size); clear HA HSZ; have HA := HA2; have HSZ := HSZ2; clear HA2 HSZ2; clear hb HGW; have HGW := HGW2; clear HGW2))
  refine HK8.out _ _ ?_
  clear HK8
  apply wp_seq_k
  intro K9 hK9
  have HK9 := Lib.hid hK9
  clear hK9
  obtain ⟨r0, r1, r2, r3, r4⟩ := cells5 (HBX.out.grow HGW.out)
  have rl := (HBX.out.grow HGW.out).lt
  go_wp2_with (first | (go_at_call 23; (with_reducible refine (H23x.out _ HGW.out).mono ?_); rintro e w9 ⟨⟨pb, kb, rfl, hD, hgd⟩, hb⟩; clear r0 r1 r2 r3 r4 rl; have HGW2 := Lib.hid (Gr.tr HGW.out hb); have HPB := Lib.hid (fun b o e => Nat.le_trans HSZ.out (hgd b o e)); have HD := Lib.hid hD; have HC2 := Lib.hid (HC.out.grow hb); clear hD hgd HC; have HC := HC2; clear HC2; have HA2 := Lib.hid (own_gr HA.out hb); have HSZ2 := Lib.hid (Nat.le_trans HSZ.out hb.size); clear HA HSZ; have HA := HA2; have HSZ := HSZ2; clear HA2 HSZ2; clear hb HGW; have HGW := HGW2; clear HGW2))
  have hw := HB.out.lt
  have hs := HBS.out
  exact HK9.out _ _ (lturn_keep_zero r l nf _ n ha hb pa pl pr pc pb ka cl cr kc kb w w9 HOK.out (HB.out.grow HGW.out) (HG.out.tr HGW.out) HML.out HMR.out (HCL.out.grow HGW.out) (HCR.out.grow HGW.out) HLN.out HF.out HA.out (Nat.lt_of_lt_of_le hw hs) (fun g e b o hp hbg => by
      have h1 := (HGA.out g e).1
      have h2 := HPL.out b o hp
      omega) (fun g e b o hp hbg => by
      have h1 := (HGA.out g e).1
      have h2 := HPR.out b o hp
      omega))
set_option maxRecDepth 100000 in
set_option maxHeartbeats 8000000 in
theorem lturn_calls_yes (r y : Rr) (l lx : List (Nat × Nat)) (nf n ha hb bx by_ : Nat) (pl pr : Option Addr) (cl cr : Nat) (w wb : World) (hok : r.ok = true) (hB : Box wb w.heap.size r.cs 26) (hX : Box wb bx r.swap.cs 26) (hY : Box wb by_ y.cs 26) (hG : Gr w wb) (hML : MksAt r.L r.lp w) (hMR : MksAt r.R r.rp w) (hYL : MksAt y.L y.lp wb) (hYR : MksAt y.R y.rp wb) (hCL : MksAt r.L pl wb) (hCR : MksAt r.R pr wb) (hln : l.length ≤ 1000) (hf : r.fewest = (l, nf, 0)) (hfx : r.swap.fewest = (lx, nf, 0)) (hcr : r.counted = (n, 0)) (hcx : r.swap.counted = (n, 0)) (hcy : y.counted = (n, 0)) (hhr : r.hides = (ha, hb, 0)) (hhx : r.swap.hides = (hb, ha, 0)) (hkr : r.can = ((List.range (r.L.length)).map (fun j => (r.lkd.ptn j : Int)), 0)) (hkx : r.swap.can = ((List.range (r.R.length)).map (fun j => (r.swap.lkd.ptn j : Int)), 0)) (hpl : ∀ b o, pl = some ⟨b, o, none⟩ → b < wb.heap.size) (hpr : ∀ b o, pr = some ⟨b, o, none⟩ → b < wb.heap.size) {s0 s2 s5 s8 s9 s10 s11 s12 s13 s14 s15 s16 s17 s18 s19 s20 s21 s22 s23 s24 s25 s26 s27 s28 s29 s30 s31 s32 s33 s34 s35 s36 s37 s38 s39 s40 s41 s42 s43 s44 s45 s46 s47 s48 s49 s50 s51 s52 s53 s54 s55 s56 s57 s58 s59 s60 s61 s62 s63 s64 s65 s66 s67 s68 s69 s70 s71 s72 s73 s74 s75 s76 s77 s78 s79 s80 s81 s82 s83 s84 s85 s86 s87 s88 s89 s90 s91 s92 s93 s94 s95 s96 s97 s98 s99 s100 s101 s102 s103 s104 s105 s106 s107 s108 s109 s110 s111 s112 s113 s114 s115 s116 s117 s118 s119 s120 s121 s122 s123 s124 s125 s126 s127 s128 s129 s130 s131 s132 s133 s134 s135 s136 s137 s138 s139 s140 s141 s142 s143 s144 s145 s146 s147 s148 s149 s150 s151 s152 s153 s154 s155 s156 s157 s158 s159 s160 s161 s162 s163 s164 s165 s166 s167 s168 s169 s170 s171 s172 s173 s174 s175 s176 s177 s178 s179 s180 s181 s182 s183 s184 s185 s186 s187 s188 s189 s190 s191 s192 s193 s194 s195 s196 s197 s198 s199 s200 s201 s202 s203 s204 s205 s206 s207 s208 s209 s210 s211 s212 s213 s214 s215 s216 s217 s218 s219 s220 s221 s222 s223 s224 s225 s226 s227 s228 s229 s230 s231 s232 s233 s234 s235 s236 s237 s238 s239 s240 s241 s242 s243 s244 s245 s246 s247 s248 s249 s250 s251 s252 s253 s254 s255 s256 s257 s258 s259 s260 s261 s262 s263 s264 s265 s266 s267 s268 s269 s270 s271 s272 s273 s274 s275 s276 s277 s278 s279 s280 s281 s282 s283 s284 s285 s286 s287 s288 s289 s290 s291 s292 s293 s294 : Value} :
    (Code.snd2 (Code.snd2 (Code.snd2 (Code.snd2 (Code.snd2 (Code.snd2 (Code.snd2 (Try.f12.body.getD .skip)))))))).wp Try.prog (bodyPost Try.prog Try.f12 fun e w' => e = .returned (.bool true) ∧ Below w.heap.size w w') { tmps := #[s0, .pointer (some ⟨w.heap.size, 0, none⟩), s2, .pointer (some ⟨bx, 0, none⟩), .pointer (some ⟨by_, 0, none⟩), s5, .slice pl r.L.length cl, .slice pr r.R.length cr, s8, s9, s10, s11, s12, s13, s14, s15, s16, s17, s18, s19, s20, s21, s22, s23, s24, s25, s26, s27, s28, s29, s30, s31, s32, s33, s34, s35, s36, s37, s38, s39, s40, s41, s42, s43, s44, s45, s46, s47, s48, s49, s50, s51, s52, s53, s54, s55, s56, s57, s58, s59, s60, s61, s62, s63, s64, s65, s66, s67, s68, s69, s70, s71, s72, s73, s74, s75, s76, s77, s78, s79, s80, s81, s82, s83, s84, s85, s86, s87, s88, s89, s90, s91, s92, s93, s94, s95, s96, s97, s98, s99, s100, s101, s102, s103, s104, s105, s106, s107, s108, s109, s110, s111, s112, s113, s114, s115, s116, s117, s118, s119, s120, s121, s122, s123, s124, s125, s126, s127, s128, s129, s130, s131, s132, s133, s134, s135, s136, s137, s138, s139, s140, s141, s142, s143, s144, s145, s146, s147, s148, s149, s150, s151, s152, s153, s154, s155, s156, s157, s158, s159, s160, s161, s162, s163, s164, s165, s166, s167, s168, s169, s170, s171, s172, s173, s174, s175, s176, s177, s178, s179, s180, s181, s182, s183, s184, s185, s186, s187, s188, s189, s190, s191, s192, s193, s194, s195, s196, s197, s198, s199, s200, s201, s202, s203, s204, s205, s206, s207, s208, s209, s210, s211, s212, s213, s214, s215, s216, s217, s218, s219, s220, s221, s222, s223, s224, s225, s226, s227, s228, s229, s230, s231, s232, s233, s234, s235, s236, s237, s238, s239, s240, s241, s242, s243, s244, s245, s246, s247, s248, s249, s250, s251, s252, s253, s254, s255, s256, s257, s258, s259, s260, s261, s262, s263, s264, s265, s266, s267, s268, s269, s270, s271, s272, s273, s274, s275, s276, s277, s278, s279, s280, s281, s282, s283, s284, s285, s286, s287, s288, s289, s290, s291, s292, s293, s294], defers := [] } wb := by
  conv => arg 2; whnf
  have C18r : ∀ W, Gr wb W → Calls Try.prog 18 #[r.val] W fun e w' => e = .returned (.tuple #[.int .i64 (n : Nat), .int .i64 0]) ∧ Below W.heap.size W w' := fun W hg => by
    have h := Count_any r W (hML.grow (hG.tr hg)) (hMR.grow (hG.tr hg))
    rw [hcr] at h
    exact h
  have C18x : ∀ W, Gr wb W → Calls Try.prog 18 #[.agg #[.slice r.rp r.R.length r.rc, .slice r.lp r.L.length r.lc, .int .i64 (-r.t), .int .i64 (-r.s), .int .i64 r.h]] W fun e w' => e = .returned (.tuple #[.int .i64 (n : Nat), .int .i64 0]) ∧ Below W.heap.size W w' := fun W hg => by
    have h := Count_any r.swap W (hMR.grow (hG.tr hg)) (hML.grow (hG.tr hg))
    rw [hcx] at h
    exact h
  have C18y : ∀ W, Gr wb W → Calls Try.prog 18 #[y.val] W fun e w' => e = .returned (.tuple #[.int .i64 (n : Nat), .int .i64 0]) ∧ Below W.heap.size W w' := fun W hg => by
    have h := Count_any y W (hYL.grow hg) (hYR.grow hg)
    rw [hcy] at h
    exact h
  have C27r : ∀ W, Gr wb W → Calls Try.prog 27 #[r.val] W fun e w' => e = .returned (.tuple #[.int .i64 (ha : Nat), .int .i64 (hb : Nat), .int .i64 0]) ∧ Below W.heap.size W w' := fun W hg => by
    have h := Hides_any r W (hML.grow (hG.tr hg)) (hMR.grow (hG.tr hg))
    rw [hhr] at h
    exact h
  have C27x : ∀ W, Gr wb W → Calls Try.prog 27 #[.agg #[.slice r.rp r.R.length r.rc, .slice r.lp r.L.length r.lc, .int .i64 (-r.t), .int .i64 (-r.s), .int .i64 r.h]] W fun e w' => e = .returned (.tuple #[.int .i64 (hb : Nat), .int .i64 (ha : Nat), .int .i64 0]) ∧ Below W.heap.size W w' := fun W hg => by
    have h := Hides_any r.swap W (hMR.grow (hG.tr hg)) (hML.grow (hG.tr hg))
    rw [hhx] at h
    exact h
  have C20r := fun W (hg : Gr wb W) => few20o r W (hML.grow (hG.tr hg)) (hMR.grow (hG.tr hg)) hf
  have C20x : ∀ W, Gr wb W → Calls Try.prog 20 #[.agg #[.slice r.rp r.R.length r.rc, .slice r.lp r.L.length r.lc, .int .i64 (-r.t), .int .i64 (-r.s), .int .i64 r.h]] W fun e w' => (∃ v, e = .returned (.tuple #[v, .int .i64 nf, .int .i64 0]) ∧ PrsIn v lx w') ∧ Below W.heap.size W w' := fun W hg => few20 r.swap W (hMR.grow (hG.tr hg)) (hML.grow (hG.tr hg)) hfx
  have C23r := fun W (hg : Gr wb W) => can23o r W (hML.grow (hG.tr hg)) (hMR.grow (hG.tr hg)) hkr
  have C23x : ∀ W, Gr wb W → Calls Try.prog 23 #[.agg #[.slice r.rp r.R.length r.rc, .slice r.lp r.L.length r.lc, .int .i64 (-r.t), .int .i64 (-r.s), .int .i64 r.h]] W fun e w' => (∃ p k, e = .returned (.tuple #[.slice p (r.R.length) k, .int .i64 0]) ∧ InsF p (r.R.length) (fun j => (r.swap.lkd.ptn j : Int)) w' ∧ ∀ b o, p = some ⟨b, o, none⟩ → W.heap.size ≤ b) ∧ Below W.heap.size W w' := fun W hg => can23o r.swap W (hMR.grow (hG.tr hg)) (hML.grow (hG.tr hg)) hkx
  unfold Rr.val at C18r C18y C27r C20r C23r
  have H18r := Lib.hid C18r
  have H18x := Lib.hid C18x
  have H18y := Lib.hid C18y
  have H27r := Lib.hid C27r
  have H27x := Lib.hid C27x
  have H20r := Lib.hid C20r
  have H20x := Lib.hid C20x
  have H23r := Lib.hid C23r
  have H23x := Lib.hid C23x
  clear C18r C18x C18y C27r C27x C20r C20x C23r C23x
  have HOK := Lib.hid hok
  have HB := Lib.hid hB
  have HBX := Lib.hid hX
  have HBY := Lib.hid hY
  have HG := Lib.hid hG
  have HML := Lib.hid hML
  have HMR := Lib.hid hMR
  have HCL := Lib.hid hCL
  have HCR := Lib.hid hCR
  have HLN := Lib.hid hln
  have HF := Lib.hid hf
  have HPL := Lib.hid hpl
  have HPR := Lib.hid hpr
  clear hok hB hX hY hG hML hMR hYL hYR hCL hCR hf hfx hcr hcx hcy hhr hhx hkr hkx hpl hpr
  unfold Rr.cs at HB HBY
  have HBX := Lib.hid (show Box wb bx [.slice r.rp r.R.length r.rc, .slice r.lp r.L.length r.lc, .int .i64 (-r.t), .int .i64 (-r.s), .int .i64 r.h] 26 from HBX.out)
  have HGW := Lib.hid (Gr.same wb)
  apply wp_seq_k
  intro K1 hK1
  have HK1 := Lib.hid hK1
  clear hK1
  obtain ⟨r0, r1, r2, r3, r4⟩ := cells5 (HB.out.grow HGW.out)
  have rl := (HB.out.grow HGW.out).lt
  go_wp2_with (first | (go_at_call 18; (with_reducible refine (H18r.out _ HGW.out).mono ?_); rintro e w1 ⟨rfl, hb⟩; clear r0 r1 r2 r3 r4 rl; have HGW2 := Lib.hid (Gr.tr HGW.out hb); clear hb HGW; have HGW := HGW2; clear HGW2))
  refine HK1.out _ _ ?_
  clear HK1
  apply wp_seq_k
  intro K2 hK2
  have HK2 := Lib.hid hK2
  clear hK2
  obtain ⟨r0, r1, r2, r3, r4⟩ := cells5 (HBX.out.grow HGW.out)
  have rl := (HBX.out.grow HGW.out).lt
  go_wp2_with (first | (go_at_call 18; (with_reducible refine (H18x.out _ HGW.out).mono ?_); rintro e w2 ⟨rfl, hb⟩; clear r0 r1 r2 r3 r4 rl; have HGW2 := Lib.hid (Gr.tr HGW.out hb); clear hb HGW; have HGW := HGW2; clear HGW2))
  refine HK2.out _ _ ?_
  clear HK2
  apply wp_seq_k
  intro K3 hK3
  have HK3 := Lib.hid hK3
  clear hK3
  obtain ⟨r0, r1, r2, r3, r4⟩ := cells5 (HBY.out.grow HGW.out)
  have rl := (HBY.out.grow HGW.out).lt
  go_wp2_with (first | (go_at_call 18; (with_reducible refine (H18y.out _ HGW.out).mono ?_); rintro e w3 ⟨rfl, hb⟩; clear r0 r1 r2 r3 r4 rl; have HGW2 := Lib.hid (Gr.tr HGW.out hb); clear hb HGW; have HGW := HGW2; clear HGW2))
  refine HK3.out _ _ ?_
  clear HK3
  apply wp_seq_k
  intro K4 hK4
  have HK4 := Lib.hid hK4
  clear hK4
  obtain ⟨r0, r1, r2, r3, r4⟩ := cells5 (HB.out.grow HGW.out)
  have rl := (HB.out.grow HGW.out).lt
  go_wp2_with (first | (go_at_call 20; (with_reducible refine (H20r.out _ HGW.out).mono ?_); rintro e w4 ⟨⟨pa, ka, rfl, hA, hga⟩, hb⟩; clear r0 r1 r2 r3 r4 rl; have HGW2 := Lib.hid (Gr.tr HGW.out hb); have hsz := HGW.out.size; clear hb HGW; have HGW := HGW2; clear HGW2))
  refine HK4.out _ _ ?_
  clear HK4
  have HA := Lib.hid hA
  have HGA := Lib.hid (show ∀ g, pa = some ⟨g, 0, none⟩ → wb.heap.size ≤ g ∧ g < w4.heap.size from fun g e => ⟨Nat.le_trans hsz (hga g e).1, (hga g e).2⟩)
  have HSZ := Lib.hid (show w4.heap.size ≤ w4.heap.size from Nat.le_refl _)
  have HBS := Lib.hid hsz
  clear hA hga hsz
  apply wp_seq_k
  intro K5 hK5
  have HK5 := Lib.hid hK5
  clear hK5
  obtain ⟨r0, r1, r2, r3, r4⟩ := cells5 (HBX.out.grow HGW.out)
  have rl := (HBX.out.grow HGW.out).lt
  go_wp2_with (first | (go_at_call 20; (with_reducible refine (H20x.out _ HGW.out).mono ?_); rintro e w5 ⟨⟨vx, rfl, -⟩, hb⟩; clear r0 r1 r2 r3 r4 rl; have HGW2 := Lib.hid (Gr.tr HGW.out hb); have HA2 := Lib.hid (own_gr HA.out hb); have HSZ2 := Lib.hid (Nat.le_trans HSZ.out hb.size); clear HA HSZ; have HA := HA2; have HSZ := HSZ2; clear HA2 HSZ2; clear hb HGW; have HGW := HGW2; clear HGW2))
  refine HK5.out _ _ ?_
  clear HK5
  apply wp_seq_k
  intro K6 hK6
  have HK6 := Lib.hid hK6
  clear hK6
  obtain ⟨r0, r1, r2, r3, r4⟩ := cells5 (HB.out.grow HGW.out)
  have rl := (HB.out.grow HGW.out).lt
  go_wp2_with (first | (go_at_call 27; (with_reducible refine (H27r.out _ HGW.out).mono ?_); rintro e w6 ⟨rfl, hb⟩; clear r0 r1 r2 r3 r4 rl; have HGW2 := Lib.hid (Gr.tr HGW.out hb); have HA2 := Lib.hid (own_gr HA.out hb); have HSZ2 := Lib.hid (Nat.le_trans HSZ.out hb.size); clear HA HSZ; have HA := HA2; have HSZ := HSZ2; clear HA2 HSZ2; clear hb HGW; have HGW := HGW2; clear HGW2))
  refine HK6.out _ _ ?_
  clear HK6
  apply wp_seq_k
  intro K7 hK7
  have HK7 := Lib.hid hK7
  clear hK7
  obtain ⟨r0, r1, r2, r3, r4⟩ := cells5 (HBX.out.grow HGW.out)
  have rl := (HBX.out.grow HGW.out).lt
  go_wp2_with (first | (go_at_call 27; (with_reducible refine (H27x.out _ HGW.out).mono ?_); rintro e w7 ⟨rfl, hb⟩; clear r0 r1 r2 r3 r4 rl; have HGW2 := Lib.hid (Gr.tr HGW.out hb); have HA2 := Lib.hid (own_gr HA.out hb); have HSZ2 := Lib.hid (Nat.le_trans HSZ.out hb.size); clear HA HSZ; have HA := HA2; have HSZ := HSZ2; clear HA2 HSZ2; clear hb HGW; have HGW := HGW2; clear HGW2))
  refine HK7.out _ _ ?_
  clear HK7
  apply wp_seq_k
  intro K8 hK8
  have HK8 := Lib.hid hK8
  clear hK8
  obtain ⟨r0, r1, r2, r3, r4⟩ := cells5 (HB.out.grow HGW.out)
  have rl := (HB.out.grow HGW.out).lt
  go_wp2_with (first | (go_at_call 23; (with_reducible refine (H23r.out _ HGW.out).mono ?_); rintro e w8 ⟨⟨pc, kc, rfl, hC, hgc⟩, hb⟩; clear r0 r1 r2 r3 r4 rl; have HGW2 := Lib.hid (Gr.tr HGW.out hb); have HPC := Lib.hid (fun b o e => Nat.le_trans HSZ.out (hgc b o e)); have HC := Lib.hid hC; clear hC hgc; have HA2 := Lib.hid (own_gr HA.out hb); have HSZ2 := Lib.hid (Nat.le_trans HSZ.out hb.size); clear HA HSZ; have HA := HA2; have HSZ := HSZ2; clear HA2 HSZ2; clear hb HGW; have HGW := HGW2; clear HGW2))
  refine HK8.out _ _ ?_
  clear HK8
  apply wp_seq_k
  intro K9 hK9
  have HK9 := Lib.hid hK9
  clear hK9
  obtain ⟨r0, r1, r2, r3, r4⟩ := cells5 (HBX.out.grow HGW.out)
  have rl := (HBX.out.grow HGW.out).lt
  go_wp2_with (first | (go_at_call 23; (with_reducible refine (H23x.out _ HGW.out).mono ?_); rintro e w9 ⟨⟨pb, kb, rfl, hD, hgd⟩, hb⟩; clear r0 r1 r2 r3 r4 rl; have HGW2 := Lib.hid (Gr.tr HGW.out hb); have HPB := Lib.hid (fun b o e => Nat.le_trans HSZ.out (hgd b o e)); have HD := Lib.hid hD; have HC2 := Lib.hid (HC.out.grow hb); clear hD hgd HC; have HC := HC2; clear HC2; have HA2 := Lib.hid (own_gr HA.out hb); have HSZ2 := Lib.hid (Nat.le_trans HSZ.out hb.size); clear HA HSZ; have HA := HA2; have HSZ := HSZ2; clear HA2 HSZ2; clear hb HGW; have HGW := HGW2; clear HGW2))
  have hw := HB.out.lt
  have hs := HBS.out
  exact HK9.out _ _ (lturn_keep_yes r l nf _ n ha hb pa pl pr pc pb ka cl cr kc kb w w9 HOK.out (HB.out.grow HGW.out) (HG.out.tr HGW.out) HML.out HMR.out (HCL.out.grow HGW.out) (HCR.out.grow HGW.out) HLN.out HF.out HA.out (Nat.lt_of_lt_of_le hw hs) (fun g e b o hp hbg => by
      have h1 := (HGA.out g e).1
      have h2 := HPL.out b o hp
      omega) (fun g e b o hp hbg => by
      have h1 := (HGA.out g e).1
      have h2 := HPR.out b o hp
      omega) HC.out HD.out (fun g e b o hp hbg => by
      have h1 := (HGA.out g e).2
      have h2 := HPC.out b o hp
      omega) (fun g e b o hp hbg => by
      have h1 := (HGA.out g e).2
      have h2 := HPB.out b o hp
      omega))

end Go.Proofs.Ytjlaoiimbhlafaa
