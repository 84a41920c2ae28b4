import Derived.Test.YtjlaoiimbhlafaaL1
import Derived.ArgAppend
import Derived.Laws.StructEq
set_option linter.unusedVariables false
set_option linter.unusedSimpArgs false
namespace Go.Proofs.Ytjlaoiimbhlafaa
open Go.RowKit Go.Shelf

open MW
attribute [local go_sem] Oper.semAt_some run_store_func
attribute [local go_sem ↓] Go.wp_at_zero Go.wp_at_succ
def Code.snd4 : Code → Code
  | .seq _ b => b
  | c => c
/-- A row of marks at a block of its own, from some block on. -/
def Mw (l : List Mrk) (v : Value) (n0 : Nat) (W : World) : Prop := W.ownsRow n0 65 4 v l.length (l.flatMap Mrk.cs) ∨ l = [] ∧ ∃ g, v = .slice (some ⟨g, 0, none⟩) 0 0 ∧ g < W.heap.size
theorem Mw.grow {l : List Mrk} {v : Value} {n0 : Nat} {W W' : World} (h : Mw l v n0 W) (hg : Gr W W') : Mw l v n0 W' := h.imp (fun h => own_gr h hg) (fun ⟨h1, g, h2, h3⟩ => ⟨h1, g, h2, Nat.lt_of_lt_of_le h3 hg.size⟩)
theorem app_mw (l : List Mrk) (p : Option Addr) (cap b : Nat) (W : World) (h : MksAt l p W) (hb : b < W.heap.size) (ty : TypeId) :
    ∃ v w', (Builtin.append_ #[22, 22] ty #[.slice (some ⟨b, 0, none⟩) 0 0, .slice p l.length cap]).run Try.prog W = .ok v w' ∧ Mw l v W.heap.size w' ∧ Gr W w' := by
  obtain ⟨i0, ii0, iz0, iz1, iz2⟩ := infoP info65p
  by_cases hl : l = []
  · subst hl
    have hap : ∀ (W : World), Sem.run Try.prog (pure #[] : Sem (Array Value)) W = .ok #[] W := fun _ => rfl
    have hst : ∀ (W : World) (A : Addr), Sem.run Try.prog (storeCells A []) W = .ok () W := fun _ _ => rfl
    refine ⟨.slice (some ⟨b, 0, none⟩) 0 0, W, ?_, .inr ⟨rfl, b, rfl, hb⟩, Gr.same W⟩
    have hu := run_underlying (P := Try.prog) (w := W) Try.underlying22
    rcases p with - | p
    · simp [Builtin.append_, hu, sizeOf, typeInfo, ii0, Builtin.lenOf, go_sem, hap, hst]
    · simp [Builtin.append_, hu, sizeOf, typeInfo, ii0, Builtin.lenOf, go_sem, hap, hst]
  · obtain ⟨m, hm⟩ : ∃ m, l[0]? = some m := ⟨_, List.getElem?_eq_getElem (Nat.pos_of_ne_zero fun e => hl (List.length_eq_zero_iff.1 e))⟩
    have hpos : 0 < l.length := Nat.pos_of_ne_zero fun e => hl (List.length_eq_zero_iff.1 e)
    obtain ⟨bx, ox, rfl⟩ := mk_at h hm
    have h1 := h.1
    obtain ⟨v', w', hr, ho, hg⟩ := run_append_arg_grows (P := Try.prog) W 22 ty 65 i0 _ 4 32 Try.underlying22 ii0 iz0 iz1 iz2 rfl (by decide) ⟨b, 0, none⟩ 0 0 [] rfl (fun j u hj => by simp at hj) ⟨bx, ox, none⟩ l.length cap (l.flatMap Mrk.cs) (mks_flat_len l) (mks_news h) (by omega) (by unfold maxLen; omega) (by omega)
    rw [Nat.zero_add, List.nil_append] at ho
    exact ⟨v', w', hr, .inl ho, ⟨hg.os, hg.tape, hg.output, hg.size, fun k hk => hg.block k hk (by simp)⟩⟩
theorem Mw.slice {l : List Mrk} {v : Value} {n0 : Nat} {W : World} (h : Mw l v n0 W) : ∃ p c, v = .slice p l.length c := by
  rcases h with h | ⟨rfl, g, rfl, -⟩
  · exact own_slice h
  · exact ⟨_, _, rfl⟩
theorem own_mw {l : List Mrk} {v : Value} {n0 n1 : Nat} {W : World} (h : Mw l v n0 W) (hn : n1 ≤ n0) : Mw l v n1 W := h.imp (fun h => own_base h hn) id
set_option maxRecDepth 100000 in
set_option maxHeartbeats 8000000 in
theorem known_copy (r : Rr) (i k : Int) (b0 b6 bx n0 : Nat) (P : Ending → World → Prop) (w1 : World) (HB : Hid (Box w1 b0 r.cs 26)) (HBX : Hid (Box w1 bx r.cs 26)) (HML : Hid (MksAt r.L r.lp w1)) (HMR : Hid (MksAt r.R r.rp w1)) (hn0 : n0 ≤ w1.heap.size) (hne : b0 ≠ bx) {s0 s4 s5 s7 s9 s10 s11 s12 s13 s14 s15 s16 s17 s18 s19 s20 s21 s22 s23 s24 s25 s26 s27 s28 s29 s30 s31 s32 s33 s34 s35 s36 s37 s38 s39 s40 s41 s42 s43 s44 s45 s46 s47 s48 s49 s50 s51 : Value}
    (hend : ∀ pL cL pR cR W, Gr w1 W → Mw r.L (.slice pL r.L.length cL) n0 W → Mw r.R (.slice pR r.R.length cR) n0 W → ∀ {s0 s4 s5 s7 s9 s10 s11 s12 s13 s14 s15 s16 s17 s18 s19 s20 s21 s22 s23 s24 s25 s26 s27 s28 s29 s30 s31 s32 s33 s34 s35 s36 s37 s38 s39 s40 s41 s42 s43 s44 s45 s46 s47 s48 s49 s50 s51 : Value}, (Code.snd4 (Code.snd4 (Code.snd4 (Try.f41.body.getD .skip)))).wp Try.prog (bodyPost Try.prog Try.f41 P) { tmps := #[s0, .int .i64 i, .int .i64 k, .pointer (some ⟨b0, 0, none⟩), s4, s5, .pointer (some ⟨b6, 0, none⟩), s7, .pointer (some ⟨bx, 0, none⟩), s9, s10, s11, s12, s13, s14, s15, s16, s17, s18, s19, s20, s21, s22, s23, s24, s25, s26, s27, s28, s29, s30, s31, s32, s33, s34, s35, s36, s37, s38, s39, s40, s41, s42, s43, s44, s45, s46, s47, s48, s49, s50, s51], defers := [] } ((W.setCell ⟨bx, 0, none⟩ (.slice pL r.L.length cL)).setCell ⟨bx, 1, none⟩ (.slice pR r.R.length cR))) :
    (Code.snd4 (Code.snd4 (Try.f41.body.getD .skip))).wp Try.prog (bodyPost Try.prog Try.f41 P) { tmps := #[s0, .int .i64 i, .int .i64 k, .pointer (some ⟨b0, 0, none⟩), s4, s5, .pointer (some ⟨b6, 0, none⟩), s7, .pointer (some ⟨bx, 0, none⟩), s9, s10, s11, s12, s13, s14, s15, s16, s17, s18, s19, s20, s21, s22, s23, s24, s25, s26, s27, s28, s29, s30, s31, s32, s33, s34, s35, s36, s37, s38, s39, s40, s41, s42, s43, s44, s45, s46, s47, s48, s49, s50, s51], defers := [] } w1 := by
  conv => arg 2; whnf
  have HEND := Lib.hid hend
  clear hend
  unfold Rr.cs at HB HBX
  apply wp_seq_k
  intro K1 hK1
  have HK1 := Lib.hid hK1
  clear hK1
  refine region2 9 ?_ ?_ ?_
  · kernel_rfl
  · kernel_rfl
  simp only [List.take_succ_cons, List.take_zero, List.drop_succ_cons, List.drop_zero]
  refine chain_any (V := (fun v W' => ∃ b, v = .slice (some ⟨b, 0, none⟩) 0 0 ∧ b < W'.heap.size)) (D := []) rfl (by kernel_rfl) (fun v W W' ⟨b, h1, h2⟩ hg => ⟨b, h1, Nat.lt_of_lt_of_le h2 hg.size⟩) ?_ ?_
  · intro ρ W ⟨p1, p2, p3⟩ hG hF K hK; (try simp [FactsD] at hF); have ⟨hc, hf, hz⟩ := bcell (Gr.tr (Gr.drew _) hG); go_simp; exact hK _ (⟨⟨_, rfl, by simp⟩, Gr.alloc _ _⟩)
  apply chain_eq (D := [(3, none)]) rfl (by kernel_rfl)
  · intro ρ W ⟨p1, p2, p3⟩ hG hF K hK; (try simp [FactsD] at hF); have ⟨hc, hf, hz⟩ := bcell (Gr.tr (Gr.drew _) hG); have HRW := HB.out.grow (Gr.tr (Gr.drew _) hG); obtain ⟨z0, z1, z2, z3, z4⟩ := cells5 HRW; have zl := HRW.lt; go_simp; exact hK _ (gives_val)
  apply chain_eq (D := [(11, some 0)]) rfl (by kernel_rfl)
  · intro ρ W ⟨p1, p2, p3⟩ hG hF K hK; (try simp [FactsD] at hF); have ⟨hc, hf, hz⟩ := bcell (Gr.tr (Gr.drew _) hG); have HRW := HB.out.grow (Gr.tr (Gr.drew _) hG); obtain ⟨z0, z1, z2, z3, z4⟩ := cells5 HRW; have zl := HRW.lt; go_simp; exact hK _ (gives_val)
  refine chain_any (V := (fun v W' => Mw r.L v n0 W')) (D := [(10, some 2), (12, some 0)]) rfl (by kernel_rfl) (fun v W W' h hg => h.grow hg) ?_ ?_
  · intro ρ W ⟨p1, p2, p3⟩ hG hF K hK; (try simp [FactsD] at hF); have ⟨hc, hf, hz⟩ := bcell (Gr.tr (Gr.drew _) hG); obtain ⟨⟨b, hb1, hb2⟩, hb3⟩ := hF; obtain ⟨v', w', hrun, hcp, hgr⟩ := app_mw r.L r.lp r.lc b W (HML.out.grow (Gr.tr (Gr.drew _) hG)) hb2 22; simp [execOp, resolve, invoke, builtin, hb1, hb3, hrun, Result.andThen]; exact hK _ (⟨own_mw hcp (Nat.le_trans hn0 (show Below _ _ _ from (Gr.tr (Gr.drew _) hG)).size), hgr⟩)
  refine chain_any (V := (fun v W' => ∃ b, v = .slice (some ⟨b, 0, none⟩) 0 0 ∧ b < W'.heap.size)) (D := []) rfl (by kernel_rfl) (fun v W W' ⟨b, h1, h2⟩ hg => ⟨b, h1, Nat.lt_of_lt_of_le h2 hg.size⟩) ?_ ?_
  · intro ρ W ⟨p1, p2, p3⟩ hG hF K hK; (try simp [FactsD] at hF); have ⟨hc, hf, hz⟩ := bcell (Gr.tr (Gr.drew _) hG); go_simp; exact hK _ (⟨⟨_, rfl, by simp⟩, Gr.alloc _ _⟩)
  apply chain_eq (D := [(3, none)]) rfl (by kernel_rfl)
  · intro ρ W ⟨p1, p2, p3⟩ hG hF K hK; (try simp [FactsD] at hF); have ⟨hc, hf, hz⟩ := bcell (Gr.tr (Gr.drew _) hG); have HRW := HB.out.grow (Gr.tr (Gr.drew _) hG); obtain ⟨z0, z1, z2, z3, z4⟩ := cells5 HRW; have zl := HRW.lt; go_simp; exact hK _ (gives_val)
  apply chain_eq (D := [(15, some 0)]) rfl (by kernel_rfl)
  · intro ρ W ⟨p1, p2, p3⟩ hG hF K hK; (try simp [FactsD] at hF); have ⟨hc, hf, hz⟩ := bcell (Gr.tr (Gr.drew _) hG); have HRW := HB.out.grow (Gr.tr (Gr.drew _) hG); obtain ⟨z0, z1, z2, z3, z4⟩ := cells5 HRW; have zl := HRW.lt; go_simp; exact hK _ (gives_val)
  refine chain_any (V := (fun v W' => Mw r.R v n0 W')) (D := [(14, some 2), (16, some 0)]) rfl (by kernel_rfl) (fun v W W' h hg => h.grow hg) ?_ ?_
  · intro ρ W ⟨p1, p2, p3⟩ hG hF K hK; (try simp [FactsD] at hF); have ⟨hc, hf, hz⟩ := bcell (Gr.tr (Gr.drew _) hG); obtain ⟨⟨b, hb1, hb2⟩, hb3⟩ := hF; obtain ⟨v', w', hrun, hcp, hgr⟩ := app_mw r.R r.rp r.rc b W (HMR.out.grow (Gr.tr (Gr.drew _) hG)) hb2 22; simp [execOp, resolve, invoke, builtin, hb1, hb3, hrun, Result.andThen]; exact hK _ (⟨own_mw hcp (Nat.le_trans hn0 (show Below _ _ _ from (Gr.tr (Gr.drew _) hG)).size), hgr⟩)
  apply chain_eq (D := [(8, none)]) rfl (by kernel_rfl)
  · intro ρ W ⟨p1, p2, p3⟩ hG hF K hK; (try simp [FactsD] at hF); have ⟨hc, hf, hz⟩ := bcell (Gr.tr (Gr.drew _) hG); have HBW := HBX.out.grow (Gr.tr (Gr.drew _) hG); obtain ⟨z0, z1, z2, z3, z4⟩ := cells5 HBW; have zl := HBW.lt; go_simp; exact hK _ (gives_val)
  refine chain_done ?_
  intro vs W hG hV
  obtain ⟨e8, e7, -, -, -, e3, -⟩ := hV
  simp only [Nat.reduceSub] at e3
  simp only [Nat.reduceSub] at e7
  simp only [Nat.reduceSub] at e8
  simp only [lay, Act.put, List.getElem?_toArray, List.getElem?_cons_succ, List.getElem?_cons_zero, Option.bind_some, List.setIfInBounds_toArray, List.set_cons_succ, List.set_cons_zero]
  generalize vs 0 = v0
  generalize vs 1 = v1
  generalize vs 2 = v2
  generalize vs 3 = v3 at *
  generalize vs 4 = v4
  generalize vs 5 = v5
  generalize vs 6 = v6
  generalize vs 7 = v7 at *
  generalize vs 8 = v8 at *
  subst e8
  obtain ⟨hc, hf, hz⟩ := bcell hG
  have HGW := Lib.hid (show Gr w1 W from hG)
  have HBW := Lib.hid (HBX.out.grow HGW.out)
  obtain ⟨z0, z1, z2, z3, z4⟩ := cells5 HBW.out
  have zl := HBW.out.lt
  have f0 := HBW.out.free 0
  have f1 := HBW.out.free 1
  obtain ⟨pL, cL, rfl⟩ := Mw.slice e3
  obtain ⟨pR, cR, rfl⟩ := Mw.slice e7
  have HE3 := Lib.hid e3
  have HE7 := Lib.hid e7
  clear hc hf hz hG e3 e7
  go_wp2_with fail
  exact HK1.out _ _ (HEND.out _ _ _ _ W HGW.out HE3.out HE7.out)

end Go.Proofs.Ytjlaoiimbhlafaa
