import Derived.Test.YtjlaoiimbhlafaaT4
import Derived.Laws.StructEq
import Derived.Deep.CutBlock
import Derived.Deep.DeepCutAuto
set_option linter.unusedVariables false
set_option linter.unusedSimpArgs false
namespace Go.Proofs.Ytjlaoiimbhlafaa
open Go.RowKit Go.Shelf

open MW
attribute [local go_sem] Oper.semAt_some run_store_func
attribute [local go_sem ↓] Go.wp_at_zero Go.wp_at_succ
attribute [local go_sem] guard55 guard24 neq55 eql24 neq24
attribute [-go_sem] run_eql_struct run_neq_struct
theorem info55p : (Try.prog.info? 55).map (fun i => (i.zero, i.size, i.bytes)) = some (some (.agg #[.int .i64 0, .int .i64 0]), 2, 16) := by kernel_rfl
theorem pv_len (l : List (Nat × Nat)) : (l.flatMap pv).length = l.length * 2 := by
  induction l with
  | nil => rfl
  | cons m l ih => rw [List.flatMap_cons, List.length_append, ih, List.length_cons]; show 2 + _ = _; omega
theorem pv_one (l : List (Nat × Nat)) : ∀ u ∈ l.flatMap pv, u.oneCell' = true := by
  intro u hu
  obtain ⟨x, -, hx⟩ := List.mem_flatMap.1 hu
  unfold pv at hx
  simp only [List.mem_cons, List.not_mem_nil, or_false] at hx
  rcases hx with rfl | rfl <;> rfl
theorem prs_own_none (W : World) : (W.alloc (.cells #[] 55)).ownsRow W.heap.size 55 2 (.slice (some ⟨W.heap.size, 0, none⟩) 0 0) 0 [] := by
  refine ⟨rfl, .inr ⟨W.heap.size, 0, #[], rfl, Nat.le_refl _, ?_, Nat.le_refl _, Nat.zero_le _, rfl, rfl⟩⟩
  have := Box.fresh W [] 55
  unfold Box at this
  simpa using this
theorem prs_block {W : World} {base ka : Nat} {l : List (Nat × Nat)} {pa : Option Addr} (h : W.ownsRow base 55 2 (.slice pa l.length ka) l.length (l.flatMap pv)) (hl : l ≠ []) : ∃ g cs, pa = some ⟨g, 0, none⟩ ∧ base ≤ g ∧ 2 * l.length ≤ cs.length ∧ Box W g cs 55 := by
  have hp := pv_len l
  obtain ⟨-, h1⟩ := h
  rcases h1 with ⟨-, h0⟩ | ⟨g, cap, cur, hv, hge, hcur, -, -, -, hct⟩
  · exact absurd (List.length_eq_zero_iff.1 (by omega)) hl
  · obtain ⟨hpa, -⟩ : pa = some ⟨g, 0, none⟩ ∧ ka = cap := by simpa using hv
    refine ⟨g, cur.toList, hpa, hge, ?_, by unfold Box; simpa using hcur⟩
    have := congrArg List.length hct
    rw [List.length_take, hp] at this
    omega
def blk : Option Addr → Nat
  | some a => a.block
  | none => 0
theorem apart_big {p : Option Addr} {g : Nat} (h : blk p < g) : Apart g p := by
  intro b o e
  subst e
  have : b < g := h
  omega
set_option maxRecDepth 100000 in
set_option maxHeartbeats 8000000 in
theorem lturn_keep_zero (r : Rr) (l : List (Nat × Nat)) (nf base : Nat) (n ha hb : Int) (pa pl pr pc pb : Option Addr) (ka cl cr kc kb : Nat) (w wb : World) (hok : r.ok = true) (hB : Box wb w.heap.size r.cs 26) (hG : Gr w wb) (hML : MksAt r.L r.lp w) (hMR : MksAt r.R r.rp w) (hCL : MksAt r.L pl wb) (hCR : MksAt r.R pr wb) (hln : l.length ≤ 1000) (hf : r.fewest = (l, nf, 4))
    (hA : wb.ownsRow base 55 2 (.slice pa l.length ka) l.length (l.flatMap pv)) (hg : w.heap.size < base) (apl : ∀ g, pa = some ⟨g, 0, none⟩ → Apart g pl) (apr : ∀ g, pa = some ⟨g, 0, none⟩ → Apart g pr) {s0 s2 s3 s4 s5 s17 s27 s29 s30 s31 s32 s33 s34 s35 s36 s37 s38 s39 s40 s41 s42 s43 s44 s45 s46 s47 s48 s49 s50 s51 s52 s53 s54 s55 s56 s57 s58 s59 s60 s61 s62 s63 s64 s65 s66 s67 s68 s69 s70 s71 s72 s73 s74 s75 s76 s77 s78 s79 s80 s81 s82 s83 s84 s85 s86 s87 s88 s89 s90 s91 s92 s93 s94 s95 s96 s97 s98 s99 s100 s101 s102 s103 s104 s105 s106 s107 s108 s109 s110 s111 s112 s113 s114 s115 s116 s117 s118 s119 s120 s121 s122 s123 s124 s125 s126 s127 s128 s129 s130 s131 s132 s133 s134 s135 s136 s137 s138 s139 s140 s141 s142 s143 s144 s145 s146 s147 s148 s149 s150 s151 s152 s153 s154 s155 s156 s157 s158 s159 s160 s161 s162 s163 s164 s165 s166 s167 s168 s169 s170 s171 s172 s173 s174 s175 s176 s177 s178 s179 s180 s181 s182 s183 s184 s185 s186 s187 s188 s189 s190 s191 s192 s193 s194 s195 s196 s197 s198 s199 s200 s201 s202 s203 s204 s205 s206 s207 s208 s209 s210 s211 s212 s213 s214 s215 s216 s217 s218 s219 s220 s221 s222 s223 s224 s225 s226 s227 s228 s229 s230 s231 s232 s233 s234 s235 s236 s237 s238 s239 s240 s241 s242 s243 s244 s245 s246 s247 s248 s249 s250 s251 s252 s253 s254 s255 s256 s257 s258 s259 s260 s261 s262 s263 s264 s265 s266 s267 s268 s269 s270 s271 s272 s273 s274 s275 s276 s277 s278 s279 s280 s281 s282 s283 s284 s285 s286 s287 s288 s289 s290 s291 s292 s293 s294 : Value} :
    (Code.snd2 (Code.snd2 (Code.snd2 (Code.snd2 (Code.snd2 (Code.snd2 (Code.snd2 (Code.snd2 (Code.snd2 (Code.snd2 (Code.snd2 (Code.snd2 (Code.snd2 (Code.snd2 (Code.snd2 (Code.snd2 (Try.f12.body.getD .skip))))))))))))))))).wp Try.prog (bodyPost Try.prog Try.f12 fun e w' => e = .returned (.bool true) ∧ Below w.heap.size w w') { tmps := #[s0, .pointer (some ⟨w.heap.size, 0, none⟩), s2, s3, s4, s5, .slice pl r.L.length cl, .slice pr r.R.length cr, .int .i64 n, .int .i64 0, .int .i64 n, .int .i64 0, .int .i64 n, .int .i64 0, .slice pa l.length ka, .int .i64 nf, .int .i64 4, s17, .int .i64 nf, .int .i64 4, .int .i64 ha, .int .i64 hb, .int .i64 4, .int .i64 hb, .int .i64 ha, .int .i64 4, .slice pc 0 kc, s27, .slice pb 0 kb, s29, s30, s31, s32, s33, s34, s35, s36, s37, s38, s39, s40, s41, s42, s43, s44, s45, s46, s47, s48, s49, s50, s51, s52, s53, s54, s55, s56, s57, s58, s59, s60, s61, s62, s63, s64, s65, s66, s67, s68, s69, s70, s71, s72, s73, s74, s75, s76, s77, s78, s79, s80, s81, s82, s83, s84, s85, s86, s87, s88, s89, s90, s91, s92, s93, s94, s95, s96, s97, s98, s99, s100, s101, s102, s103, s104, s105, s106, s107, s108, s109, s110, s111, s112, s113, s114, s115, s116, s117, s118, s119, s120, s121, s122, s123, s124, s125, s126, s127, s128, s129, s130, s131, s132, s133, s134, s135, s136, s137, s138, s139, s140, s141, s142, s143, s144, s145, s146, s147, s148, s149, s150, s151, s152, s153, s154, s155, s156, s157, s158, s159, s160, s161, s162, s163, s164, s165, s166, s167, s168, s169, s170, s171, s172, s173, s174, s175, s176, s177, s178, s179, s180, s181, s182, s183, s184, s185, s186, s187, s188, s189, s190, s191, s192, s193, s194, s195, s196, s197, s198, s199, s200, s201, s202, s203, s204, s205, s206, s207, s208, s209, s210, s211, s212, s213, s214, s215, s216, s217, s218, s219, s220, s221, s222, s223, s224, s225, s226, s227, s228, s229, s230, s231, s232, s233, s234, s235, s236, s237, s238, s239, s240, s241, s242, s243, s244, s245, s246, s247, s248, s249, s250, s251, s252, s253, s254, s255, s256, s257, s258, s259, s260, s261, s262, s263, s264, s265, s266, s267, s268, s269, s270, s271, s272, s273, s274, s275, s276, s277, s278, s279, s280, s281, s282, s283, s284, s285, s286, s287, s288, s289, s290, s291, s292, s293, s294], defers := [] } wb := by
  conv => arg 2; whnf
  have HOK := Lib.hid hok
  have HB := Lib.hid hB
  have HG := Lib.hid hG
  have HML := Lib.hid hML
  have HMR := Lib.hid hMR
  have HCL := Lib.hid hCL
  have HCR := Lib.hid hCR
  have HLN := Lib.hid hln
  have HF := Lib.hid hf
  have HA := Lib.hid hA
  have HPL := Lib.hid apl
  have HPR := Lib.hid apr
  clear hok hB hG hML hMR hCL hCR hf hA apl apr
  apply wp_seq_k
  intro KA hKA
  have HKA := Lib.hid hKA
  clear hKA
  by_cases hl0 : l = []
  · have hz : l.length = 0 := by rw [hl0]; rfl
    obtain ⟨g, hgg⟩ : ∃ g, w.heap.size < g ∧ blk pl < g ∧ blk pr < g ∧ blk pc < g ∧ blk pb < g ∧ wb.heap.size < g := ⟨w.heap.size + blk pl + blk pr + blk pc + blk pb + wb.heap.size + 1, by omega, by omega, by omega, by omega, by omega, by omega⟩
    have HK : Hid (PrsIn (.slice (some ⟨wb.heap.size, 0, none⟩) l.length 0) l (wb.alloc (Obj.cells #[] 55))) := Lib.hid ⟨_, _, rfl, fun i x hx => by rw [hl0] at hx; simp at hx⟩
    have HGW := Lib.hid (Gr.alloc wb (Obj.cells #[] 55))
    subst hl0
    rcases pa with - | pa
    · go_wp2_with fail
      exact HKA.out _ _ (lturn_nine_zero r [] nf g n ha hb _ (some ⟨wb.heap.size, 0, none⟩) pl pr pc pb ka _ cl cr kc kb w _ HOK.out (HB.out.grow HGW.out) (HG.out.tr HGW.out) HML.out HMR.out (HCL.out.grow HGW.out) (HCR.out.grow HGW.out) HK.out HLN.out HF.out (fun h => absurd h (by simp)) (by omega) (apart_big (by omega)) (apart_big (by omega)) (apart_big (by show wb.heap.size < g; omega)))
    · have hap : ∀ (W : World), Sem.run Try.prog (pure #[] : Sem (Array Value)) W = .ok #[] W := fun _ => rfl
      have hst : ∀ (W : World) (A : Addr), Sem.run Try.prog (storeCells A []) W = .ok () W := fun _ _ => rfl
      go_wp2_with fail
      exact HKA.out _ _ (lturn_nine_zero r [] nf g n ha hb _ (some ⟨wb.heap.size, 0, none⟩) pl pr pc pb ka _ cl cr kc kb w _ HOK.out (HB.out.grow HGW.out) (HG.out.tr HGW.out) HML.out HMR.out (HCL.out.grow HGW.out) (HCR.out.grow HGW.out) HK.out HLN.out HF.out (fun h => absurd h (by simp)) (by omega) (apart_big (by omega)) (apart_big (by omega)) (apart_big (by show wb.heap.size < g; omega)))
  · obtain ⟨g, cs, hpa, hbg, hcs, hbx⟩ := prs_block HA.out hl0
    subst hpa
    have hpos : 0 < l.length := Nat.pos_of_ne_zero fun h => hl0 (List.length_eq_zero_iff.1 h)
    obtain ⟨i0, ii0, iz0, iz1, iz2⟩ := infoP info55p
    have II0 := Lib.hid ii0
    have IZ0 := Lib.hid iz0
    have IZ1 := Lib.hid iz1
    have IZ2 := Lib.hid iz2
    have HFL := Lib.hid (pv_len l)
    have HONE := Lib.hid (pv_one l)
    have HBX := Lib.hid hbx
    have HCS := Lib.hid hcs
    have HLT := Lib.hid hbx.lt
    clear ii0 iz0 iz1 iz2 hbx hcs
    have HOWN := Lib.hid (prs_own_none wb)
    have HN := Lib.hid ((own_gr HA.out (Gr.alloc wb (Obj.cells #[] 55))).cells (g := g) rfl)
    go_wp2_with (first | (at_builtin; refine wpList_append_lies _ rfl _ _ 34 rfl wb.heap.size 55 i0 _ 2 16 Try.underlying34 II0.out IZ0.out IZ1.out IZ2.out rfl (by decide) _ _ _ rfl HOWN.out ⟨g, 0, none⟩ l.length ka (l.flatMap pv) rfl HFL.out HN.out HONE.out ?c1 ?c2 ?c3 ?c4 _ rfl ?_))
    case c1 => omega
    case c2 => unfold maxLen; omega
    case c3 => omega
    case c4 => first | (simp; done) | (simp; omega) | omega
    intro g' cap' w5 hown5 hgrow hat hlt5
    have HGW := Lib.hid (show Gr wb w5 from (show Below wb.heap.size wb (wb.alloc (Obj.cells #[] 55)) from Gr.alloc _ _).grown hgrow (by simp) (fun q e => (own_blk HOWN.out e.symm).1))
    have hge : wb.heap.size ≤ g' := (own_blk hown5 rfl).1
    have hng : g' ≠ g := by have := HLT.out; omega
    have HK : Hid (PrsIn (.slice (some ⟨g', 0, none⟩) l.length cap') l w5) := Lib.hid (by
      have := hown5
      first | exact PrsIn.of_own this | (rw [Nat.zero_add, List.nil_append] at this; exact PrsIn.of_own this))
    clear hown5 hgrow hat
    try rw [Nat.zero_add]
    go_wp2_with fail
    exact HKA.out _ _ (lturn_nine_zero r l nf g n ha hb _ (some ⟨g', 0, none⟩) pl pr pc pb ka _ cl cr kc kb w _ HOK.out (HB.out.grow HGW.out) (HG.out.tr HGW.out) HML.out HMR.out (HCL.out.grow HGW.out) (HCR.out.grow HGW.out) HK.out HLN.out HF.out (fun _ => ⟨rfl, cs, HCS.out, HBX.out.grow HGW.out⟩) (by omega) (HPL.out _ rfl) (HPR.out _ rfl) (fun b o e => by cases e; exact hng))
set_option maxRecDepth 100000 in
set_option maxHeartbeats 8000000 in
theorem lturn_keep_yes (r : Rr) (l : List (Nat × Nat)) (nf base : Nat) (n ha hb : Int) (pa pl pr pc pb : Option Addr) (ka cl cr kc kb : Nat) (w wb : World) (hok : r.ok = true) (hB : Box wb w.heap.size r.cs 26) (hG : Gr w wb) (hML : MksAt r.L r.lp w) (hMR : MksAt r.R r.rp w) (hCL : MksAt r.L pl wb) (hCR : MksAt r.R pr wb) (hln : l.length ≤ 1000) (hf : r.fewest = (l, nf, 0))
    (hA : wb.ownsRow base 55 2 (.slice pa l.length ka) l.length (l.flatMap pv)) (hg : w.heap.size < base) (apl : ∀ g, pa = some ⟨g, 0, none⟩ → Apart g pl) (apr : ∀ g, pa = some ⟨g, 0, none⟩ → Apart g pr) (hC : InsF pc r.L.length (fun j => (r.lkd.ptn j : Int)) wb) (hD : InsF pb r.R.length (fun j => (r.swap.lkd.ptn j : Int)) wb) (apc : ∀ g, pa = some ⟨g, 0, none⟩ → Apart g pc) (apb : ∀ g, pa = some ⟨g, 0, none⟩ → Apart g pb) {s0 s2 s3 s4 s5 s17 s27 s29 s30 s31 s32 s33 s34 s35 s36 s37 s38 s39 s40 s41 s42 s43 s44 s45 s46 s47 s48 s49 s50 s51 s52 s53 s54 s55 s56 s57 s58 s59 s60 s61 s62 s63 s64 s65 s66 s67 s68 s69 s70 s71 s72 s73 s74 s75 s76 s77 s78 s79 s80 s81 s82 s83 s84 s85 s86 s87 s88 s89 s90 s91 s92 s93 s94 s95 s96 s97 s98 s99 s100 s101 s102 s103 s104 s105 s106 s107 s108 s109 s110 s111 s112 s113 s114 s115 s116 s117 s118 s119 s120 s121 s122 s123 s124 s125 s126 s127 s128 s129 s130 s131 s132 s133 s134 s135 s136 s137 s138 s139 s140 s141 s142 s143 s144 s145 s146 s147 s148 s149 s150 s151 s152 s153 s154 s155 s156 s157 s158 s159 s160 s161 s162 s163 s164 s165 s166 s167 s168 s169 s170 s171 s172 s173 s174 s175 s176 s177 s178 s179 s180 s181 s182 s183 s184 s185 s186 s187 s188 s189 s190 s191 s192 s193 s194 s195 s196 s197 s198 s199 s200 s201 s202 s203 s204 s205 s206 s207 s208 s209 s210 s211 s212 s213 s214 s215 s216 s217 s218 s219 s220 s221 s222 s223 s224 s225 s226 s227 s228 s229 s230 s231 s232 s233 s234 s235 s236 s237 s238 s239 s240 s241 s242 s243 s244 s245 s246 s247 s248 s249 s250 s251 s252 s253 s254 s255 s256 s257 s258 s259 s260 s261 s262 s263 s264 s265 s266 s267 s268 s269 s270 s271 s272 s273 s274 s275 s276 s277 s278 s279 s280 s281 s282 s283 s284 s285 s286 s287 s288 s289 s290 s291 s292 s293 s294 : Value} :
    (Code.snd2 (Code.snd2 (Code.snd2 (Code.snd2 (Code.snd2 (Code.snd2 (Code.snd2 (Code.snd2 (Code.snd2 (Code.snd2 (Code.snd2 (Code.snd2 (Code.snd2 (Code.snd2 (Code.snd2 (Code.snd2 (Try.f12.body.getD .skip))))))))))))))))).wp Try.prog (bodyPost Try.prog Try.f12 fun e w' => e = .returned (.bool true) ∧ Below w.heap.size w w') { tmps := #[s0, .pointer (some ⟨w.heap.size, 0, none⟩), s2, s3, s4, s5, .slice pl r.L.length cl, .slice pr r.R.length cr, .int .i64 n, .int .i64 0, .int .i64 n, .int .i64 0, .int .i64 n, .int .i64 0, .slice pa l.length ka, .int .i64 nf, .int .i64 0, s17, .int .i64 nf, .int .i64 0, .int .i64 ha, .int .i64 hb, .int .i64 0, .int .i64 hb, .int .i64 ha, .int .i64 0, .slice pc r.L.length kc, s27, .slice pb r.R.length kb, s29, s30, s31, s32, s33, s34, s35, s36, s37, s38, s39, s40, s41, s42, s43, s44, s45, s46, s47, s48, s49, s50, s51, s52, s53, s54, s55, s56, s57, s58, s59, s60, s61, s62, s63, s64, s65, s66, s67, s68, s69, s70, s71, s72, s73, s74, s75, s76, s77, s78, s79, s80, s81, s82, s83, s84, s85, s86, s87, s88, s89, s90, s91, s92, s93, s94, s95, s96, s97, s98, s99, s100, s101, s102, s103, s104, s105, s106, s107, s108, s109, s110, s111, s112, s113, s114, s115, s116, s117, s118, s119, s120, s121, s122, s123, s124, s125, s126, s127, s128, s129, s130, s131, s132, s133, s134, s135, s136, s137, s138, s139, s140, s141, s142, s143, s144, s145, s146, s147, s148, s149, s150, s151, s152, s153, s154, s155, s156, s157, s158, s159, s160, s161, s162, s163, s164, s165, s166, s167, s168, s169, s170, s171, s172, s173, s174, s175, s176, s177, s178, s179, s180, s181, s182, s183, s184, s185, s186, s187, s188, s189, s190, s191, s192, s193, s194, s195, s196, s197, s198, s199, s200, s201, s202, s203, s204, s205, s206, s207, s208, s209, s210, s211, s212, s213, s214, s215, s216, s217, s218, s219, s220, s221, s222, s223, s224, s225, s226, s227, s228, s229, s230, s231, s232, s233, s234, s235, s236, s237, s238, s239, s240, s241, s242, s243, s244, s245, s246, s247, s248, s249, s250, s251, s252, s253, s254, s255, s256, s257, s258, s259, s260, s261, s262, s263, s264, s265, s266, s267, s268, s269, s270, s271, s272, s273, s274, s275, s276, s277, s278, s279, s280, s281, s282, s283, s284, s285, s286, s287, s288, s289, s290, s291, s292, s293, s294], defers := [] } wb := by
  conv => arg 2; whnf
  have HOK := Lib.hid hok
  have HB := Lib.hid hB
  have HG := Lib.hid hG
  have HML := Lib.hid hML
  have HMR := Lib.hid hMR
  have HCL := Lib.hid hCL
  have HCR := Lib.hid hCR
  have HLN := Lib.hid hln
  have HF := Lib.hid hf
  have HA := Lib.hid hA
  have HPL := Lib.hid apl
  have HPR := Lib.hid apr
  have HC := Lib.hid hC
  have HD := Lib.hid hD
  have HPC := Lib.hid apc
  have HPB := Lib.hid apb
  clear hok hB hG hML hMR hCL hCR hf hA apl apr hC hD apc apb
  apply wp_seq_k
  intro KA hKA
  have HKA := Lib.hid hKA
  clear hKA
  by_cases hl0 : l = []
  · have hz : l.length = 0 := by rw [hl0]; rfl
    obtain ⟨g, hgg⟩ : ∃ g, w.heap.size < g ∧ blk pl < g ∧ blk pr < g ∧ blk pc < g ∧ blk pb < g ∧ wb.heap.size < g := ⟨w.heap.size + blk pl + blk pr + blk pc + blk pb + wb.heap.size + 1, by omega, by omega, by omega, by omega, by omega, by omega⟩
    have HK : Hid (PrsIn (.slice (some ⟨wb.heap.size, 0, none⟩) l.length 0) l (wb.alloc (Obj.cells #[] 55))) := Lib.hid ⟨_, _, rfl, fun i x hx => by rw [hl0] at hx; simp at hx⟩
    have HGW := Lib.hid (Gr.alloc wb (Obj.cells #[] 55))
    subst hl0
    rcases pa with - | pa
    · go_wp2_with fail
      exact HKA.out _ _ (lturn_nine_yes r [] nf g n ha hb _ (some ⟨wb.heap.size, 0, none⟩) pl pr pc pb ka _ cl cr kc kb w _ HOK.out (HB.out.grow HGW.out) (HG.out.tr HGW.out) HML.out HMR.out (HCL.out.grow HGW.out) (HCR.out.grow HGW.out) HK.out HLN.out HF.out (fun h => absurd h (by simp)) (by omega) (apart_big (by omega)) (apart_big (by omega)) (apart_big (by show wb.heap.size < g; omega)) (HC.out.grow HGW.out) (HD.out.grow HGW.out) (apart_big (by omega)) (apart_big (by omega)))
    · have hap : ∀ (W : World), Sem.run Try.prog (pure #[] : Sem (Array Value)) W = .ok #[] W := fun _ => rfl
      have hst : ∀ (W : World) (A : Addr), Sem.run Try.prog (storeCells A []) W = .ok () W := fun _ _ => rfl
      go_wp2_with fail
      exact HKA.out _ _ (lturn_nine_yes r [] nf g n ha hb _ (some ⟨wb.heap.size, 0, none⟩) pl pr pc pb ka _ cl cr kc kb w _ HOK.out (HB.out.grow HGW.out) (HG.out.tr HGW.out) HML.out HMR.out (HCL.out.grow HGW.out) (HCR.out.grow HGW.out) HK.out HLN.out HF.out (fun h => absurd h (by simp)) (by omega) (apart_big (by omega)) (apart_big (by omega)) (apart_big (by show wb.heap.size < g; omega)) (HC.out.grow HGW.out) (HD.out.grow HGW.out) (apart_big (by omega)) (apart_big (by omega)))
  · obtain ⟨g, cs, hpa, hbg, hcs, hbx⟩ := prs_block HA.out hl0
    subst hpa
    have hpos : 0 < l.length := Nat.pos_of_ne_zero fun h => hl0 (List.length_eq_zero_iff.1 h)
    obtain ⟨i0, ii0, iz0, iz1, iz2⟩ := infoP info55p
    have II0 := Lib.hid ii0
    have IZ0 := Lib.hid iz0
    have IZ1 := Lib.hid iz1
    have IZ2 := Lib.hid iz2
    have HFL := Lib.hid (pv_len l)
    have HONE := Lib.hid (pv_one l)
    have HBX := Lib.hid hbx
    have HCS := Lib.hid hcs
    have HLT := Lib.hid hbx.lt
    clear ii0 iz0 iz1 iz2 hbx hcs
    have HOWN := Lib.hid (prs_own_none wb)
    have HN := Lib.hid ((own_gr HA.out (Gr.alloc wb (Obj.cells #[] 55))).cells (g := g) rfl)
    go_wp2_with (first | (at_builtin; refine wpList_append_lies _ rfl _ _ 34 rfl wb.heap.size 55 i0 _ 2 16 Try.underlying34 II0.out IZ0.out IZ1.out IZ2.out rfl (by decide) _ _ _ rfl HOWN.out ⟨g, 0, none⟩ l.length ka (l.flatMap pv) rfl HFL.out HN.out HONE.out ?c1 ?c2 ?c3 ?c4 _ rfl ?_))
    case c1 => omega
    case c2 => unfold maxLen; omega
    case c3 => omega
    case c4 => first | (simp; done) | (simp; omega) | omega
    intro g' cap' w5 hown5 hgrow hat hlt5
    have HGW := Lib.hid (show Gr wb w5 from (show Below wb.heap.size wb (wb.alloc (Obj.cells #[] 55)) from Gr.alloc _ _).grown hgrow (by simp) (fun q e => (own_blk HOWN.out e.symm).1))
    have hge : wb.heap.size ≤ g' := (own_blk hown5 rfl).1
    have hng : g' ≠ g := by have := HLT.out; omega
    have HK : Hid (PrsIn (.slice (some ⟨g', 0, none⟩) l.length cap') l w5) := Lib.hid (by
      have := hown5
      first | exact PrsIn.of_own this | (rw [Nat.zero_add, List.nil_append] at this; exact PrsIn.of_own this))
    clear hown5 hgrow hat
    try rw [Nat.zero_add]
    go_wp2_with fail
    exact HKA.out _ _ (lturn_nine_yes r l nf g n ha hb _ (some ⟨g', 0, none⟩) pl pr pc pb ka _ cl cr kc kb w _ HOK.out (HB.out.grow HGW.out) (HG.out.tr HGW.out) HML.out HMR.out (HCL.out.grow HGW.out) (HCR.out.grow HGW.out) HK.out HLN.out HF.out (fun _ => ⟨rfl, cs, HCS.out, HBX.out.grow HGW.out⟩) (by omega) (HPL.out _ rfl) (HPR.out _ rfl) (fun b o e => by cases e; exact hng) (HC.out.grow HGW.out) (HD.out.grow HGW.out) (HPC.out _ rfl) (HPB.out _ rfl))

end Go.Proofs.Ytjlaoiimbhlafaa
