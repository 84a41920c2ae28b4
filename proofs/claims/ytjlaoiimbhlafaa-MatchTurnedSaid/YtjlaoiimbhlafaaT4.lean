import Derived.Test.YtjlaoiimbhlafaaT3
import Derived.Laws.StructEq
set_option linter.unusedVariables false
set_option linter.unusedSimpArgs false
namespace Go.Proofs.Ytjlaoiimbhlafaa
open Go.RowKit Go.Shelf

open MW
attribute [local go_sem] Oper.semAt_some run_store_func
attribute [local go_sem ↓] Go.wp_at_zero Go.wp_at_succ
attribute [local go_sem] guard55 guard24 neq55 eql24 neq24
attribute [-go_sem] run_eql_struct run_neq_struct
/-- Nothing but block g turns. -/
def Ot (g : Nat) (W W' : World) : Prop := W.heap.size ≤ W'.heap.size ∧ ∀ b, b < W.heap.size → b ≠ g → W'.heap[b]? = W.heap[b]?
theorem Ot.same (g : Nat) (W : World) : Ot g W W := ⟨Nat.le_refl _, fun _ _ _ => rfl⟩
theorem Ot.set {g : Nat} {W W' : World} (h : Ot g W W') (i : Nat) (x : Value) : Ot g W (W'.setCell ⟨g, i, none⟩ x) :=
  ⟨Nat.le_trans h.1 (show Below 0 W' (W'.setCell ⟨g, i, none⟩ x) from Below.setCell (Below.refl _ _) (Nat.zero_le _) _).size, fun b hb hn => by
    rw [Below.heap_setCell _ _ _ _ (by simpa using hn)]
    exact h.2 b hb hn⟩
theorem Ot.gr {g : Nat} {W W' W'' : World} (h : Ot g W W') (k : Gr W' W'') : Ot g W W'' :=
  ⟨Nat.le_trans h.1 k.size, fun b hb hn => (k.block b (Nat.lt_of_lt_of_le hb h.1)).trans (h.2 b hb hn)⟩
theorem Ot.cell {g : Nat} {W W' : World} (h : Ot g W W') {b o : Nat} (hb : b < W.heap.size) (hn : b ≠ g) : W'.cell? ⟨b, o, none⟩ = W.cell? ⟨b, o, none⟩ := by
  simp only [World.cell?, h.2 b hb hn]
def Apart (g : Nat) (p : Option Addr) : Prop := ∀ b o, p = some ⟨b, o, none⟩ → b ≠ g
theorem Box.ot {g b : Nat} {W W' : World} {vs : List Value} {T : TypeId} (h : Box W b vs T) (hn : b ≠ g) (ho : Ot g W W') : Box W' b vs T := by
  have h1 := ho.2 b h.lt hn
  unfold Box at *
  rw [h1, h]
theorem MksAt.ot {g : Nat} {W W' : World} {l : List Mrk} {p : Option Addr} (h : MksAt l p W) (hn : Apart g p) (ho : Ot g W W') : MksAt l p W' :=
  ⟨h.1, fun i m hm => by
    obtain ⟨b, o, h1, h2, h3, h4, h5, h6⟩ := h.2 i m hm
    have n := hn b o h1
    exact ⟨b, o, h1, Nat.lt_of_lt_of_le h2 ho.1, by rw [ho.cell h2 n]; exact h3, by rw [ho.cell h2 n]; exact h4, by rw [ho.cell h2 n]; exact h5, by rw [ho.cell h2 n]; exact h6⟩⟩
theorem InsF.ot {g : Nat} {W W' : World} {p : Option Addr} {n : Nat} {F : Nat → Int} (h : InsF p n F W) (hn : Apart g p) (ho : Ot g W W') : InsF p n F W' := fun i hi => by
  obtain ⟨b, o, h1, h2, h3⟩ := h i hi
  have n := hn b o h1
  exact ⟨b, o, h1, Nat.lt_of_lt_of_le h2 ho.1, by rw [ho.cell h2 n]; exact h3⟩
theorem PrsIn.ot {g : Nat} {W W' : World} {p : Option Addr} {c : Nat} {l : List (Nat × Nat)} (h : PrsIn (.slice p l.length c) l W) (hn : Apart g p) (ho : Ot g W W') : PrsIn (.slice p l.length c) l W' := by
  obtain ⟨p', c', hv, h⟩ := h
  cases hv
  refine ⟨p, c, rfl, fun i x hx => ?_⟩
  obtain ⟨b, o, h1, h2, h3, h4⟩ := h i x hx
  have n := hn b o h1
  exact ⟨b, o, h1, Nat.lt_of_lt_of_le h2 ho.1, by rw [ho.cell h2 n]; exact h3, by rw [ho.cell h2 n]; exact h4⟩
/-- A row of pairs of its own: its block. -/
def Own2 (g : Nat) (p : Option Addr) (n : Nat) (W : World) : Prop := 0 < n → p = some ⟨g, 0, none⟩ ∧ ∃ cs, 2 * n ≤ cs.length ∧ Box W g cs 55
set_option maxRecDepth 100000 in
set_option maxHeartbeats 8000000 in
theorem lturn_nine_zero (r : Rr) (l : List (Nat × Nat)) (nf g : Nat) (n ha hb : Int) (pa pk pl pr pc pb : Option Addr) (ka kk cl cr kc kb : Nat) (w wb : World) (hok : r.ok = true) (hB : Box wb w.heap.size r.cs 26) (hG : Gr w wb) (hML : MksAt r.L r.lp w) (hMR : MksAt r.R r.rp w) (hCL : MksAt r.L pl wb) (hCR : MksAt r.R pr wb) (hK : PrsIn (.slice pk l.length kk) l wb) (hln : l.length ≤ 1000) (hf : r.fewest = (l, nf, 4))
    (hA : Own2 g pa l.length wb) (hg : w.heap.size < g) (apl : Apart g pl) (apr : Apart g pr) (apk : Apart g pk) {s0 s2 s3 s4 s5 s17 s27 s29 s31 s32 s33 s34 s35 s36 s37 s38 s39 s40 s41 s42 s43 s44 s45 s46 s47 s48 s49 s50 s51 s52 s53 s54 s55 s56 s57 s58 s59 s60 s61 s62 s63 s64 s65 s66 s67 s68 s69 s70 s71 s72 s73 s74 s75 s76 s77 s78 s79 s80 s81 s82 s83 s84 s85 s86 s87 s88 s89 s90 s91 s92 s93 s94 s95 s96 s97 s98 s99 s100 s101 s102 s103 s104 s105 s106 s107 s108 s109 s110 s111 s112 s113 s114 s115 s116 s117 s118 s119 s120 s121 s122 s123 s124 s125 s126 s127 s128 s129 s130 s131 s132 s133 s134 s135 s136 s137 s138 s139 s140 s141 s142 s143 s144 s145 s146 s147 s148 s149 s150 s151 s152 s153 s154 s155 s156 s157 s158 s159 s160 s161 s162 s163 s164 s165 s166 s167 s168 s169 s170 s171 s172 s173 s174 s175 s176 s177 s178 s179 s180 s181 s182 s183 s184 s185 s186 s187 s188 s189 s190 s191 s192 s193 s194 s195 s196 s197 s198 s199 s200 s201 s202 s203 s204 s205 s206 s207 s208 s209 s210 s211 s212 s213 s214 s215 s216 s217 s218 s219 s220 s221 s222 s223 s224 s225 s226 s227 s228 s229 s230 s231 s232 s233 s234 s235 s236 s237 s238 s239 s240 s241 s242 s243 s244 s245 s246 s247 s248 s249 s250 s251 s252 s253 s254 s255 s256 s257 s258 s259 s260 s261 s262 s263 s264 s265 s266 s267 s268 s269 s270 s271 s272 s273 s274 s275 s276 s277 s278 s279 s280 s281 s282 s283 s284 s285 s286 s287 s288 s289 s290 s291 s292 s293 s294 : Value} :
    (Code.snd2 (Code.snd2 (Code.snd2 (Code.snd2 (Code.snd2 (Code.snd2 (Code.snd2 (Code.snd2 (Code.snd2 (Code.snd2 (Code.snd2 (Code.snd2 (Code.snd2 (Code.snd2 (Code.snd2 (Code.snd2 (Code.snd2 (Try.f12.body.getD .skip)))))))))))))))))).wp Try.prog (bodyPost Try.prog Try.f12 fun e w' => e = .returned (.bool true) ∧ Below w.heap.size w w') { tmps := #[s0, .pointer (some ⟨w.heap.size, 0, none⟩), s2, s3, s4, s5, .slice pl r.L.length cl, .slice pr r.R.length cr, .int .i64 n, .int .i64 0, .int .i64 n, .int .i64 0, .int .i64 n, .int .i64 0, .slice pa l.length ka, .int .i64 nf, .int .i64 4, s17, .int .i64 nf, .int .i64 4, .int .i64 ha, .int .i64 hb, .int .i64 4, .int .i64 hb, .int .i64 ha, .int .i64 4, .slice pc 0 kc, s27, .slice pb 0 kb, s29, .slice pk l.length kk, s31, s32, s33, s34, s35, s36, s37, s38, s39, s40, s41, s42, s43, s44, s45, s46, s47, s48, s49, s50, s51, s52, s53, s54, s55, s56, s57, s58, s59, s60, s61, s62, s63, s64, s65, s66, s67, s68, s69, s70, s71, s72, s73, s74, s75, s76, s77, s78, s79, s80, s81, s82, s83, s84, s85, s86, s87, s88, s89, s90, s91, s92, s93, s94, s95, s96, s97, s98, s99, s100, s101, s102, s103, s104, s105, s106, s107, s108, s109, s110, s111, s112, s113, s114, s115, s116, s117, s118, s119, s120, s121, s122, s123, s124, s125, s126, s127, s128, s129, s130, s131, s132, s133, s134, s135, s136, s137, s138, s139, s140, s141, s142, s143, s144, s145, s146, s147, s148, s149, s150, s151, s152, s153, s154, s155, s156, s157, s158, s159, s160, s161, s162, s163, s164, s165, s166, s167, s168, s169, s170, s171, s172, s173, s174, s175, s176, s177, s178, s179, s180, s181, s182, s183, s184, s185, s186, s187, s188, s189, s190, s191, s192, s193, s194, s195, s196, s197, s198, s199, s200, s201, s202, s203, s204, s205, s206, s207, s208, s209, s210, s211, s212, s213, s214, s215, s216, s217, s218, s219, s220, s221, s222, s223, s224, s225, s226, s227, s228, s229, s230, s231, s232, s233, s234, s235, s236, s237, s238, s239, s240, s241, s242, s243, s244, s245, s246, s247, s248, s249, s250, s251, s252, s253, s254, s255, s256, s257, s258, s259, s260, s261, s262, s263, s264, s265, s266, s267, s268, s269, s270, s271, s272, s273, s274, s275, s276, s277, s278, s279, s280, s281, s282, s283, s284, s285, s286, s287, s288, s289, s290, s291, s292, s293, s294], defers := [] } wb := by
  conv => arg 2; whnf
  have HOK := Lib.hid hok
  have HB := Lib.hid hB
  have HG := Lib.hid hG
  have HML := Lib.hid hML
  have HMR := Lib.hid hMR
  have HCL := Lib.hid hCL
  have HCR := Lib.hid hCR
  have HK := Lib.hid hK
  have HLN := Lib.hid hln
  have HF := Lib.hid hf
  have HA := Lib.hid hA
  have HPL := Lib.hid apl
  have HPR := Lib.hid apr
  have HPK := Lib.hid apk
  clear hok hB hG hML hMR hCL hCR hK hf hA apl apr apk
  apply wp_seq_k
  intro KA hKA
  have HKA := Lib.hid hKA
  clear hKA
  go_wp2_with fail
  go_loopw [140] (fun t wr => ∃ c : Nat, c ≤ l.length ∧ t = .int .i64 c ∧ Hid (Own2 g pa l.length wr) ∧ Hid (Ot g wb wr) ∧ Hid (Gr w wr)) (fun t _ => (1001 - intOf t).toNat)
  case atStart => exact ⟨0, Nat.zero_le _, rfl, HA, Lib.hid (Ot.same _ _), HG⟩
  case round =>
    obtain ⟨c, hc, rfl, HA, HO, HG⟩ := hrel
    by_cases hlt : c < l.length
    · obtain ⟨hpa, cs, hcs, hbx⟩ := HA.out (by omega)
      subst hpa
      have HBX := Lib.hid hbx
      obtain ⟨x0, hx0⟩ : ∃ x, cs[c * 2]? = some x := ⟨_, List.getElem?_eq_getElem (by omega)⟩
      obtain ⟨x1, hx1⟩ : ∃ x, cs[c * 2 + 1]? = some x := ⟨_, List.getElem?_eq_getElem (by omega)⟩
      have q0 := hbx.cell hx0
      have q1 := hbx.cell hx1
      have f0 := hbx.free (c * 2)
      have f1 := hbx.free (c * 2 + 1)
      have gl := hbx.lt
      have g1 : (c : Int) < l.length := by omega
      clear hbx hx0 hx1
      go_wp2_with fail
      refine ⟨⟨c + 1, by omega, by go_num, Lib.hid (fun _ => ⟨rfl, _, ?_, (HBX.out.put (c * 2) _).put (c * 2 + 1) _⟩), Lib.hid ((HO.out.set _ _).set _ _), Lib.hid (Below.setCell (Below.setCell HG.out (Nat.le_of_lt hg) _) (Nat.le_of_lt hg) _)⟩, by simp [intOf]; omega⟩
      simpa using hcs
    · have hcn : c = l.length := by omega
      subst hcn
      go_wp2_with fail
      exact HKA.out _ _ (lturn_chk_zero r l nf n ha hb _ pl pr pc pb cl cr kc kb w _ HOK.out (HB.out.ot (by omega) HO.out) HG.out (HML.out.grow HG.out) (HMR.out.grow HG.out) (HCL.out.ot HPL.out HO.out) (HCR.out.ot HPR.out HO.out) (HK.out.ot HPK.out HO.out) HLN.out HF.out)
set_option maxRecDepth 100000 in
set_option maxHeartbeats 8000000 in
theorem lturn_nine_yes (r : Rr) (l : List (Nat × Nat)) (nf g : Nat) (n ha hb : Int) (pa pk pl pr pc pb : Option Addr) (ka kk cl cr kc kb : Nat) (w wb : World) (hok : r.ok = true) (hB : Box wb w.heap.size r.cs 26) (hG : Gr w wb) (hML : MksAt r.L r.lp w) (hMR : MksAt r.R r.rp w) (hCL : MksAt r.L pl wb) (hCR : MksAt r.R pr wb) (hK : PrsIn (.slice pk l.length kk) l wb) (hln : l.length ≤ 1000) (hf : r.fewest = (l, nf, 0))
    (hA : Own2 g pa l.length wb) (hg : w.heap.size < g) (apl : Apart g pl) (apr : Apart g pr) (apk : Apart g pk) (hC : InsF pc r.L.length (fun j => (r.lkd.ptn j : Int)) wb) (hD : InsF pb r.R.length (fun j => (r.swap.lkd.ptn j : Int)) wb) (apc : Apart g pc) (apb : Apart g pb) {s0 s2 s3 s4 s5 s17 s27 s29 s31 s32 s33 s34 s35 s36 s37 s38 s39 s40 s41 s42 s43 s44 s45 s46 s47 s48 s49 s50 s51 s52 s53 s54 s55 s56 s57 s58 s59 s60 s61 s62 s63 s64 s65 s66 s67 s68 s69 s70 s71 s72 s73 s74 s75 s76 s77 s78 s79 s80 s81 s82 s83 s84 s85 s86 s87 s88 s89 s90 s91 s92 s93 s94 s95 s96 s97 s98 s99 s100 s101 s102 s103 s104 s105 s106 s107 s108 s109 s110 s111 s112 s113 s114 s115 s116 s117 s118 s119 s120 s121 s122 s123 s124 s125 s126 s127 s128 s129 s130 s131 s132 s133 s134 s135 s136 s137 s138 s139 s140 s141 s142 s143 s144 s145 s146 s147 s148 s149 s150 s151 s152 s153 s154 s155 s156 s157 s158 s159 s160 s161 s162 s163 s164 s165 s166 s167 s168 s169 s170 s171 s172 s173 s174 s175 s176 s177 s178 s179 s180 s181 s182 s183 s184 s185 s186 s187 s188 s189 s190 s191 s192 s193 s194 s195 s196 s197 s198 s199 s200 s201 s202 s203 s204 s205 s206 s207 s208 s209 s210 s211 s212 s213 s214 s215 s216 s217 s218 s219 s220 s221 s222 s223 s224 s225 s226 s227 s228 s229 s230 s231 s232 s233 s234 s235 s236 s237 s238 s239 s240 s241 s242 s243 s244 s245 s246 s247 s248 s249 s250 s251 s252 s253 s254 s255 s256 s257 s258 s259 s260 s261 s262 s263 s264 s265 s266 s267 s268 s269 s270 s271 s272 s273 s274 s275 s276 s277 s278 s279 s280 s281 s282 s283 s284 s285 s286 s287 s288 s289 s290 s291 s292 s293 s294 : Value} :
    (Code.snd2 (Code.snd2 (Code.snd2 (Code.snd2 (Code.snd2 (Code.snd2 (Code.snd2 (Code.snd2 (Code.snd2 (Code.snd2 (Code.snd2 (Code.snd2 (Code.snd2 (Code.snd2 (Code.snd2 (Code.snd2 (Code.snd2 (Try.f12.body.getD .skip)))))))))))))))))).wp Try.prog (bodyPost Try.prog Try.f12 fun e w' => e = .returned (.bool true) ∧ Below w.heap.size w w') { tmps := #[s0, .pointer (some ⟨w.heap.size, 0, none⟩), s2, s3, s4, s5, .slice pl r.L.length cl, .slice pr r.R.length cr, .int .i64 n, .int .i64 0, .int .i64 n, .int .i64 0, .int .i64 n, .int .i64 0, .slice pa l.length ka, .int .i64 nf, .int .i64 0, s17, .int .i64 nf, .int .i64 0, .int .i64 ha, .int .i64 hb, .int .i64 0, .int .i64 hb, .int .i64 ha, .int .i64 0, .slice pc r.L.length kc, s27, .slice pb r.R.length kb, s29, .slice pk l.length kk, s31, s32, s33, s34, s35, s36, s37, s38, s39, s40, s41, s42, s43, s44, s45, s46, s47, s48, s49, s50, s51, s52, s53, s54, s55, s56, s57, s58, s59, s60, s61, s62, s63, s64, s65, s66, s67, s68, s69, s70, s71, s72, s73, s74, s75, s76, s77, s78, s79, s80, s81, s82, s83, s84, s85, s86, s87, s88, s89, s90, s91, s92, s93, s94, s95, s96, s97, s98, s99, s100, s101, s102, s103, s104, s105, s106, s107, s108, s109, s110, s111, s112, s113, s114, s115, s116, s117, s118, s119, s120, s121, s122, s123, s124, s125, s126, s127, s128, s129, s130, s131, s132, s133, s134, s135, s136, s137, s138, s139, s140, s141, s142, s143, s144, s145, s146, s147, s148, s149, s150, s151, s152, s153, s154, s155, s156, s157, s158, s159, s160, s161, s162, s163, s164, s165, s166, s167, s168, s169, s170, s171, s172, s173, s174, s175, s176, s177, s178, s179, s180, s181, s182, s183, s184, s185, s186, s187, s188, s189, s190, s191, s192, s193, s194, s195, s196, s197, s198, s199, s200, s201, s202, s203, s204, s205, s206, s207, s208, s209, s210, s211, s212, s213, s214, s215, s216, s217, s218, s219, s220, s221, s222, s223, s224, s225, s226, s227, s228, s229, s230, s231, s232, s233, s234, s235, s236, s237, s238, s239, s240, s241, s242, s243, s244, s245, s246, s247, s248, s249, s250, s251, s252, s253, s254, s255, s256, s257, s258, s259, s260, s261, s262, s263, s264, s265, s266, s267, s268, s269, s270, s271, s272, s273, s274, s275, s276, s277, s278, s279, s280, s281, s282, s283, s284, s285, s286, s287, s288, s289, s290, s291, s292, s293, s294], defers := [] } wb := by
  conv => arg 2; whnf
  have HOK := Lib.hid hok
  have HB := Lib.hid hB
  have HG := Lib.hid hG
  have HML := Lib.hid hML
  have HMR := Lib.hid hMR
  have HCL := Lib.hid hCL
  have HCR := Lib.hid hCR
  have HK := Lib.hid hK
  have HLN := Lib.hid hln
  have HF := Lib.hid hf
  have HA := Lib.hid hA
  have HPL := Lib.hid apl
  have HPR := Lib.hid apr
  have HPK := Lib.hid apk
  have HC := Lib.hid hC
  have HD := Lib.hid hD
  have HPC := Lib.hid apc
  have HPB := Lib.hid apb
  clear hok hB hG hML hMR hCL hCR hK hf hA apl apr apk hC hD apc apb
  apply wp_seq_k
  intro KA hKA
  have HKA := Lib.hid hKA
  clear hKA
  go_wp2_with fail
  go_loopw [140] (fun t wr => ∃ c : Nat, c ≤ l.length ∧ t = .int .i64 c ∧ Hid (Own2 g pa l.length wr) ∧ Hid (Ot g wb wr) ∧ Hid (Gr w wr)) (fun t _ => (1001 - intOf t).toNat)
  case atStart => exact ⟨0, Nat.zero_le _, rfl, HA, Lib.hid (Ot.same _ _), HG⟩
  case round =>
    obtain ⟨c, hc, rfl, HA, HO, HG⟩ := hrel
    by_cases hlt : c < l.length
    · obtain ⟨hpa, cs, hcs, hbx⟩ := HA.out (by omega)
      subst hpa
      have HBX := Lib.hid hbx
      obtain ⟨x0, hx0⟩ : ∃ x, cs[c * 2]? = some x := ⟨_, List.getElem?_eq_getElem (by omega)⟩
      obtain ⟨x1, hx1⟩ : ∃ x, cs[c * 2 + 1]? = some x := ⟨_, List.getElem?_eq_getElem (by omega)⟩
      have q0 := hbx.cell hx0
      have q1 := hbx.cell hx1
      have f0 := hbx.free (c * 2)
      have f1 := hbx.free (c * 2 + 1)
      have gl := hbx.lt
      have g1 : (c : Int) < l.length := by omega
      clear hbx hx0 hx1
      go_wp2_with fail
      refine ⟨⟨c + 1, by omega, by go_num, Lib.hid (fun _ => ⟨rfl, _, ?_, (HBX.out.put (c * 2) _).put (c * 2 + 1) _⟩), Lib.hid ((HO.out.set _ _).set _ _), Lib.hid (Below.setCell (Below.setCell HG.out (Nat.le_of_lt hg) _) (Nat.le_of_lt hg) _)⟩, by simp [intOf]; omega⟩
      simpa using hcs
    · have hcn : c = l.length := by omega
      subst hcn
      go_wp2_with fail
      exact HKA.out _ _ (lturn_chk_yes r l nf n ha hb _ pl pr pc pb cl cr kc kb w _ HOK.out (HB.out.ot (by omega) HO.out) HG.out (HML.out.grow HG.out) (HMR.out.grow HG.out) (HCL.out.ot HPL.out HO.out) (HCR.out.ot HPR.out HO.out) (HK.out.ot HPK.out HO.out) HLN.out HF.out (HC.out.ot HPC.out HO.out) (HD.out.ot HPB.out HO.out))

end Go.Proofs.Ytjlaoiimbhlafaa
