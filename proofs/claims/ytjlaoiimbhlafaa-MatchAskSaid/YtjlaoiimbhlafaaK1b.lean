import Derived.Test.YtjlaoiimbhlafaaK1
import Derived.Test.YtjlaoiimbhlafaaW3
import Derived.Deep.RegionLaw
set_option linter.unusedVariables false
set_option linter.unusedSimpArgs false
namespace Go.Proofs.Ytjlaoiimbhlafaa
open Go.RowKit Go.Shelf

open MW
attribute [local go_sem] Oper.semAt_some run_store_func
attribute [local go_sem ↓] Go.wp_at_zero Go.wp_at_succ
/-- append of a row of marks to an empty one, as one step of a region that draws. -/
theorem step_append_mw {ops : Array Oper} {o : Oper} {a : Act} {w : World} {K : Act → World → Prop} {Q : Exit → Act → World → Prop} {E : Prop} (hg : o.guard = none) (s x : Operand)
    (hop : o.op = Op.call { callee := Callee.builtin Builtin.append, args := #[s, x], argTypes := #[22, 22] }) (l : List Mrk) (p : Option Addr) (cap b : Nat) (w1 : World)
    (hs : a.eval s = .slice (some ⟨b, 0, none⟩) 0 0) (hx : a.eval x = .slice p l.length cap) (hm : MksAt l p w1) (hw : Gr w1 w) (hb : b < w.heap.size)
    (hK : ∀ p' c' w', Mw l (.slice p' l.length c') w.heap.size w' → Gr w w' → K (a.put o.dst (.slice p' l.length c')) w') :
    if Region.wanted o (yielded ops a.tmps) = true then Oper.wp Try.prog o a w K Q else E := by
  have hw' : Region.wanted o (yielded ops a.tmps) = true := by simp [Region.wanted, hg]
  rw [if_pos hw']
  obtain ⟨v', w', hrun, hcp, hgr⟩ := app_mw l p cap b w (hm.grow hw) hb o.type
  obtain ⟨p', c', rfl⟩ := Mw.slice hcp
  have hk := hK p' c' w' hcp hgr
  unfold Oper.wp
  simp [execOp, hop, resolve, invoke, builtin, hs, hx, hrun, Result.andThen]
  exact hk
theorem Mw.mks2 {l : List Mrk} {p : Option Addr} {c n0 : Nat} {W : World} (h : Mw l (.slice p l.length c) n0 W) (hl : l.length ≤ 1000) : MksAt l p W ∧ (l ≠ [] → ∃ g, p = some ⟨g, 0, none⟩ ∧ n0 ≤ g ∧ g < W.heap.size ∧ True) := by
  rcases h with h | ⟨rfl, g, hv, hg⟩
  · obtain ⟨p', c', hv, hm⟩ := own_marks h rfl hl
    obtain ⟨rfl, rfl⟩ : p = p' ∧ c = c' := by simpa using hv
    obtain ⟨-, h1⟩ := h
    rcases h1 with ⟨h0, h2⟩ | ⟨g, cap, cur, hv2, hge, hcur, hcap, -⟩
    · have : l = [] := List.length_eq_zero_iff.1 h2
      subst this
      exact ⟨hm, fun h => absurd rfl h⟩
    · obtain ⟨rfl, rfl⟩ : p = some ⟨g, 0, none⟩ ∧ c = cap := by simpa using hv2
      exact ⟨hm, fun _ => ⟨g, rfl, hge, (Array.getElem?_eq_some_iff.1 hcur).1, trivial⟩⟩
  · exact ⟨⟨by simp, fun i m hm => by simp at hm⟩, fun h => absurd rfl h⟩
/-- where a row of one's own lies, if it has marks -/
def Bf (p : Option Addr) (n : Nat) : Prop := ∀ c o, p = some ⟨c, o, none⟩ → c < n
set_option maxRecDepth 100000 in
set_option maxHeartbeats 8000000 in
theorem known_copy2 (r : Rr) (i k : Int) (b0 b6 bx : Nat) (P : Ending → World → Prop) (w1 : World) (HB : Hid (Box w1 b0 r.cs 26)) (HBX : Hid (Box w1 bx r.cs 26)) (HML : Hid (MksAt r.L r.lp w1)) (HMR : Hid (MksAt r.R r.rp w1)) (hne : b0 ≠ bx) {s0 s4 s5 s7 s9 s10 s11 s12 s13 s14 s15 s16 s17 s18 s19 s20 s21 s22 s23 s24 s25 s26 s27 s28 s29 s30 s31 s32 s33 s34 s35 s36 s37 s38 s39 s40 s41 s42 s43 s44 s45 s46 s47 s48 s49 s50 s51 : Value}
    (hend : ∀ pL cL pR cR W n1, Gr w1 W → Mw r.L (.slice pL r.L.length cL) w1.heap.size W → Mw r.R (.slice pR r.R.length cR) n1 W → w1.heap.size ≤ n1 → (r.L ≠ [] → ∀ g, pL = some ⟨g, 0, none⟩ → g < n1) → ∀ {s0 s4 s5 s7 s9 s10 s11 s12 s13 s14 s15 s16 s17 s18 s19 s20 s21 s22 s23 s24 s25 s26 s27 s28 s29 s30 s31 s32 s33 s34 s35 s36 s37 s38 s39 s40 s41 s42 s43 s44 s45 s46 s47 s48 s49 s50 s51 : Value}, (Code.snd4 (Code.snd4 (Code.snd4 (Try.f41.body.getD .skip)))).wp Try.prog (bodyPost Try.prog Try.f41 P) { tmps := #[s0, .int .i64 i, .int .i64 k, .pointer (some ⟨b0, 0, none⟩), s4, s5, .pointer (some ⟨b6, 0, none⟩), s7, .pointer (some ⟨bx, 0, none⟩), s9, s10, s11, s12, s13, s14, s15, s16, s17, s18, s19, s20, s21, s22, s23, s24, s25, s26, s27, s28, s29, s30, s31, s32, s33, s34, s35, s36, s37, s38, s39, s40, s41, s42, s43, s44, s45, s46, s47, s48, s49, s50, s51], defers := [] } ((W.setCell ⟨bx, 0, none⟩ (.slice pL r.L.length cL)).setCell ⟨bx, 1, none⟩ (.slice pR r.R.length cR))) (hL : r.L.length ≤ 1000) :
    (Code.snd4 (Code.snd4 (Try.f41.body.getD .skip))).wp Try.prog (bodyPost Try.prog Try.f41 P) { tmps := #[s0, .int .i64 i, .int .i64 k, .pointer (some ⟨b0, 0, none⟩), s4, s5, .pointer (some ⟨b6, 0, none⟩), s7, .pointer (some ⟨bx, 0, none⟩), s9, s10, s11, s12, s13, s14, s15, s16, s17, s18, s19, s20, s21, s22, s23, s24, s25, s26, s27, s28, s29, s30, s31, s32, s33, s34, s35, s36, s37, s38, s39, s40, s41, s42, s43, s44, s45, s46, s47, s48, s49, s50, s51], defers := [] } w1 := by
  conv => arg 2; whnf
  have HEND := Lib.hid hend
  clear hend
  unfold Rr.cs at HB HBX
  apply wp_seq_k
  intro K1 hK1
  have HK1 := Lib.hid hK1
  clear hK1
  obtain ⟨r0, r1, r2, r3, r4⟩ := cells5 HB.out
  have rl := HB.out.lt
  obtain ⟨z0, z1, z2, z3, z4⟩ := cells5 HBX.out
  have zl := HBX.out.lt
  have f0 := HBX.out.free 0
  have f1 := HBX.out.free 1
  go_region_law (first | (refine step_append_mw rfl (.tmp 10) (.tmp 12) rfl r.L r.lp r.lc _ w1 rfl rfl HML.out (by first | exact Gr.same _ | exact Gr.drew _ | exact (Gr.drew _).tr (Gr.alloc _ _) | exact ((Gr.drew _).tr (Gr.alloc _ _)).tr (Gr.alloc _ _) | exact ((Gr.drew _).tr (Gr.alloc _ _)).tr hgA | exact (((Gr.drew _).tr (Gr.alloc _ _)).tr hgA).tr (Gr.alloc _ _) | exact (((Gr.drew _).tr (Gr.alloc _ _)).tr (Gr.alloc _ _)).tr hgA) (by first | (simp; done) | (simp; omega) | omega) ?_; intro pA cA wA hmA hgA; have hwA : Gr w1 wA := Gr.tr (by first | exact Gr.same _ | exact Gr.drew _ | exact (Gr.drew _).tr (Gr.alloc _ _) | exact ((Gr.drew _).tr (Gr.alloc _ _)).tr (Gr.alloc _ _) | exact ((Gr.drew _).tr (Gr.alloc _ _)).tr hgA | exact (((Gr.drew _).tr (Gr.alloc _ _)).tr hgA).tr (Gr.alloc _ _) | exact (((Gr.drew _).tr (Gr.alloc _ _)).tr (Gr.alloc _ _)).tr hgA) hgA; obtain ⟨r0, r1, r2, r3, r4⟩ := cells5 (HB.out.grow hwA); have rl := (HB.out.grow hwA).lt; obtain ⟨z0, z1, z2, z3, z4⟩ := cells5 (HBX.out.grow hwA); have zl := (HBX.out.grow hwA).lt; have f0 := (HBX.out.grow hwA).free 0; have f1 := (HBX.out.grow hwA).free 1; have hsA := hgA.size; (try simp at hsA)) | (refine step_append_mw rfl (.tmp 14) (.tmp 16) rfl r.R r.rp r.rc _ w1 rfl rfl HMR.out (by first | exact Gr.same _ | exact Gr.drew _ | exact (Gr.drew _).tr (Gr.alloc _ _) | exact ((Gr.drew _).tr (Gr.alloc _ _)).tr (Gr.alloc _ _) | exact ((Gr.drew _).tr (Gr.alloc _ _)).tr hgA | exact (((Gr.drew _).tr (Gr.alloc _ _)).tr hgA).tr (Gr.alloc _ _) | exact (((Gr.drew _).tr (Gr.alloc _ _)).tr (Gr.alloc _ _)).tr hgA) (by first | (simp; done) | (simp; omega) | omega) ?_; intro pB cB wB hmB hgB; have hwB : Gr w1 wB := Gr.tr (by first | exact Gr.same _ | exact Gr.drew _ | exact (Gr.drew _).tr (Gr.alloc _ _) | exact ((Gr.drew _).tr (Gr.alloc _ _)).tr (Gr.alloc _ _) | exact ((Gr.drew _).tr (Gr.alloc _ _)).tr hgA | exact (((Gr.drew _).tr (Gr.alloc _ _)).tr hgA).tr (Gr.alloc _ _) | exact (((Gr.drew _).tr (Gr.alloc _ _)).tr (Gr.alloc _ _)).tr hgA) hgB; obtain ⟨r0, r1, r2, r3, r4⟩ := cells5 (HB.out.grow hwB); have rl := (HB.out.grow hwB).lt; obtain ⟨z0, z1, z2, z3, z4⟩ := cells5 (HBX.out.grow hwB); have zl := (HBX.out.grow hwB).lt; have f0 := (HBX.out.grow hwB).free 0; have f1 := (HBX.out.grow hwB).free 1; have hsB := hgB.size; (try simp at hsB)))
  all_goals
    have hAB : Gr wA wB := by first | exact hgB | exact Gr.tr (Gr.alloc _ _) hgB | exact Gr.tr ((Gr.alloc _ _).tr (Gr.alloc _ _)) hgB
    exact HK1.out _ _ (HEND.out pA cA pB cB wB _ hwB ((own_mw hmA (by first | exact Nat.le_refl _ | (simp; done) | (simp; omega))).grow hAB) hmB (by first | omega | (simp; omega)) (fun hl g e => by
      obtain ⟨g', e', -, hg', -⟩ := (Mw.mks2 hmA hL).2 hl
      rw [e] at e'
      cases e'
      first | exact hg' | (simp; omega)))

end Go.Proofs.Ytjlaoiimbhlafaa
