import Derived.Test.YtjlaoiimbhlafaaJ4
import Derived.Laws.StructEq
set_option linter.unusedVariables false
set_option linter.unusedSimpArgs false
namespace Go.Proofs.Ytjlaoiimbhlafaa
open Go.RowKit Go.Shelf

open MW
attribute [local go_sem] Oper.semAt_some run_store_func
attribute [local go_sem ↓] Go.wp_at_zero Go.wp_at_succ

/-- What is so of what the operations of the round's region leave. -/
def VJ (r : Rr) (b : List (Nat × Nat)) (vb o : Value) (j m n0 : Nat) (i : Nat) (f : Bool) (v : Value) (W : World) : Prop := match i with
  | 0 => v = .agg #[.slice r.lp r.L.length r.lc, .slice r.rp r.R.length r.rc, .int .i64 r.s, .int .i64 r.t, .int .i64 r.h]
  | 1 => ∃ g, v = .slice (some ⟨g, 0, none⟩) 0 0
  | 2 => v = vb
  | 3 => f = false → (W.ownsRow n0 55 2 v b.length (b.flatMap pv) ∨ b = [] ∧ ∃ g, v = .slice (some ⟨g, 0, none⟩) 0 0)
  | 4 => v = .int .i64 j
  | 5 => v = .int .i64 m
  | 6 => v = .agg #[.int .i64 j, .int .i64 m]
  | 7 => f = false → ∃ g, v = .slice (some ⟨g, 0, none⟩) 1 1 ∧ Box W g [.int .i64 j, .int .i64 m] 55
  | 8 => W.ownsRow n0 55 2 v (b ++ [(j, m)]).length ((b ++ [(j, m)]).flatMap pv)
  | 9 => v = .int .i64 j
  | 10 => v = .int .i64 ((j + 1 : Nat) : Int)
  | 11 => v = .int .i64 m
  | 12 => v = .int .i64 ((m + 1 : Nat) : Int)
  | 13 => v = o
  | _ => True
theorem VJ.ok (r : Rr) (b : List (Nat × Nat)) (vb o : Value) (j m n0 : Nat) : Dq.Ok n0 8 (VJ r b vb o j m n0) := by
  constructor
  · intro i f v W W' h hg
    match i, h with
    | 0, h => exact h
    | 1, h => exact h
    | 2, h => exact h
    | 3, h => exact fun hf => (h hf).imp (fun h => own_gr h hg) id
    | 4, h => exact h
    | 5, h => exact h
    | 6, h => exact h
    | 7, h => exact fun hf => (h hf).imp fun g h => ⟨h.1, h.2.grow hg⟩
    | 8, h => exact own_gr (show W.ownsRow n0 55 2 v (b ++ [(j, m)]).length ((b ++ [(j, m)]).flatMap pv) from h) hg
    | 9, h => exact h
    | 10, h => exact h
    | 11, h => exact h
    | 12, h => exact h
    | 13, h => exact h
    | (_ + 14), _ => trivial
  · intro i f v W W' hi h hg
    match i, hi, h with
    | 0, _, h => exact h
    | 1, _, h => exact h
    | 2, _, h => exact h
    | 3, _, h => exact fun hf => Bool.noConfusion hf
    | 4, _, h => exact h
    | 5, _, h => exact h
    | 6, _, h => exact h
    | 7, _, h => exact fun hf => Bool.noConfusion hf
    | 8, hi, _ => exact absurd rfl hi
    | 9, _, h => exact h
    | 10, _, h => exact h
    | 11, _, h => exact h
    | 12, _, h => exact h
    | 13, _, h => exact h
    | (_ + 14), _, _ => trivial
set_option maxRecDepth 100000 in
set_option maxHeartbeats 8000000 in
theorem ways_loop2 (r : Rr) (w0 W wb : World) (l : List (List (Nat × Nat))) (b : List (Nat × Nat)) (v o : Value) (i k bx : Nat) (hok : r.ok = true) (hl : MksAt r.L r.lp w0) (hr : MksAt r.R r.rp w0) (hih : ∀ j, i < j → j ≤ r.L.length → WsOk r w0 j) (hi : i ≤ r.L.length) (hk : k ≤ r.R.length) (hB : Box wb bx r.cs 26) (hG : Gr w0 wb) (hK : Kp W wb) (hP : Pz v b wb) (hbl : b.length ≤ i)
    (hO : OutAt w0.heap.size o (l ++ MW.out r.fitm r.L.length r.R.length r.h b i k i) wb) (hn : (l ++ wl r.fitm r.L.length r.R.length r.h b i k).length ≤ 1000000) {s0 s6 s7 s8 s9 s10 s11 s12 s13 s14 s15 s16 s17 s18 s19 s20 s21 s22 s23 s24 s25 s26 s27 s28 s29 s30 s31 s32 s33 s34 s35 s36 s37 s38 s39 s40 s41 s42 s43 s44 s45 s46 s47 s48 s49 s50 s51 s52 s53 s54 s55 s56 s57 s58 : Value} :
    (Code.snd3 (Code.snd3 (Try.f99.body.getD .skip))).wp Try.prog (bodyPost Try.prog Try.f99 (WsPost r w0 W l b i k)) { tmps := #[s0, v, .int .i64 i, .int .i64 k, o, .pointer (some ⟨bx, 0, none⟩), s6, s7, s8, s9, s10, s11, s12, s13, s14, s15, s16, s17, s18, s19, s20, s21, s22, s23, s24, s25, s26, s27, s28, s29, s30, s31, s32, s33, s34, s35, s36, s37, s38, s39, s40, s41, s42, s43, s44, s45, s46, s47, s48, s49, s50, s51, s52, s53, s54, s55, s56, s57, s58], defers := [] } wb := by
  conv => arg 2; whnf
  obtain ⟨p1, p2, -⟩ := Rr.ok_parts hok
  have H51 := Lib.hid (fun W (hg : Gr w0 W) i j hi hj => fit51_any r i j W (hl.grow hg) (hr.grow hg) hok hi hj)
  unfold Rr.val at H51
  have HIH := Lib.hid hih
  have HB := Lib.hid hB
  have HG := Lib.hid hG
  have HKW := Lib.hid hK
  have HP := Lib.hid hP
  have HO := Lib.hid hO
  have HN := Lib.hid hn
  clear hok hl hr hih hB hG hK hP hO hn
  unfold Rr.cs at HB
  go_wp2_with fail
  go_loopw [11, 4] (fun t u wr => ∃ (j : Nat) (o1 : Value), i ≤ j ∧ j ≤ r.L.length ∧ t = .int .i64 j ∧ u = o1 ∧ Hid (OutAt w0.heap.size o1 (l ++ MW.out r.fitm r.L.length r.R.length r.h b i k j) wr) ∧ Hid (Gr w0 wr) ∧ Hid (Kp wb wr)) (fun t _ _ => (20 - intOf t).toNat)
  case atStart => exact ⟨i, o, Nat.le_refl _, hi, rfl, rfl, HO, HG, Lib.hid (Kp.same _)⟩
  case round =>
    clear HO
    obtain ⟨j, o1, hij, hj, rfl, rfl, HO, HR, HK⟩ := hrel
    obtain ⟨r0, r1, r2, r3, r4⟩ := cells5 (HB.out.kp (by decide) HK.out)
    have rl := (HB.out.kp (by decide) HK.out).lt
    by_cases hlt : j < r.L.length
    · have g1 : (j : Int) < r.L.length := by omega
      go_wp2_with fail
      go_loopw [12, 4] (fun t u wr => ∃ (m : Nat) (o1 : Value), k ≤ m ∧ m ≤ r.R.length ∧ t = .int .i64 m ∧ u = o1 ∧ Hid (OutAt w0.heap.size o1 (l ++ MW.out r.fitm r.L.length r.R.length r.h b i k j ++ inn r.fitm r.L.length r.R.length r.h b j k m) wr) ∧ Hid (Gr w0 wr) ∧ Hid (Kp wb wr)) (fun t _ _ => (20 - intOf t).toNat)
      case atStart => exact ⟨k, _, Nat.le_refl _, hk, rfl, rfl, by rw [inn_start, List.append_nil]; exact HO, HR, HK⟩
      case round =>
        clear HO HR HK r0 r1 r2 r3 r4 rl
        obtain ⟨m, o2, hkm, hm, rfl, rfl, HO, HR, HK⟩ := hrel
        obtain ⟨r0, r1, r2, r3, r4⟩ := cells5 (HB.out.kp (by decide) HK.out)
        have rl := (HB.out.kp (by decide) HK.out).lt
        by_cases hlm : m < r.R.length
        · have g2 : (m : Int) < r.R.length := by omega
          cases hf : r.fitm j m with
          | false =>
            have h51 := fun W (hg : Gr w0 W) => H51.out W hg j m hlt hlm
            rw [hf] at h51
            have H6 := Lib.hid h51
            have HF := Lib.hid hf
            clear hf h51
            go_wp2_with (first | (go_at_call 51; (with_reducible refine (H6.out _ HR.out).mono ?_); rintro e w6 ⟨rfl, hb⟩; have HR6 := Lib.hid (HR.out.tr hb); have HK6 := Lib.hid (HK.out.tr (Kp.gr hb)); have HO6 := Lib.hid (HO.out.gr hb); clear r0 r1 r2 r3 r4 rl hb; dsimp only))
            exact ⟨⟨m + 1, _, by omega, by omega, by go_num, rfl, by rw [inn_succ hkm, HF.out]; simpa using HO6, HR6, HK6⟩, by simp [intOf]; omega⟩
          | true =>
            have h51 := fun W (hg : Gr w0 W) => H51.out W hg j m hlt hlm
            rw [hf] at h51
            have H6 := Lib.hid h51
            have HF := Lib.hid hf
            clear hf h51
            go_wp2_with (first | (go_at_call 51; (with_reducible refine (H6.out _ HR.out).mono ?_); rintro e w6 ⟨rfl, hb⟩; have HR6 := Lib.hid (HR.out.tr hb); have HK6 := Lib.hid (HK.out.tr (Kp.gr hb)); have HO6 := Lib.hid (HO.out.gr hb); clear r0 r1 r2 r3 r4 rl hb; dsimp only))
            have HP6 := Lib.hid (HP.out.kp HK6.out)
            have HB6 := Lib.hid (HB.out.kp (by decide) HK6.out)
            refine Dq.region_wild (n0 := w6.heap.size) 14 8 (by omega) (VJ r b v u4 j m w6.heap.size) (by kernel_rfl) (by kernel_rfl) (VJ.ok r b v u4 j m w6.heap.size) ?_ ?_
            · intro i0 op0 hi0 ho0
              match i0, hi0 with
              | 0, _ =>
                cases ho0
                refine Dq.Step.mk2 [] rfl rfl rfl (D := [(5, none)]) (by kernel_rfl) ?_
                intro ρ W ⟨pl1, pl2, pl3⟩ hG hF K hK
                simp [FactsD, VJ] at hF
                have hGW : Gr w6 W := Gr.tr (Gr.drew _) hG
                have hsz : w6.heap.size ≤ W.heap.size := hGW.size
                obtain ⟨r0, r1, r2, r3, r4⟩ := cells5 (HB6.out.grow hGW)
                have rl := (HB6.out.grow hGW).lt
                go_simp
                exact hK _ ⟨rfl, Dq.St.same _ _ _⟩
              | 1, _ =>
                cases ho0
                refine Dq.Step.mk2 [VJ r b v u4 j m w6.heap.size 0 true] rfl rfl rfl (D := []) (by kernel_rfl) ?_
                intro ρ W ⟨pl1, pl2, pl3⟩ hG hF K hK
                simp [FactsD, VJ] at hF
                have hGW : Gr w6 W := Gr.tr (Gr.drew _) hG
                have hsz : w6.heap.size ≤ W.heap.size := hGW.size
                go_simp
                exact hK _ ⟨⟨_, rfl⟩, Dq.St.of hsz (Gr.alloc _ _)⟩
              | 2, _ =>
                cases ho0
                refine Dq.Step.mk2 [VJ r b v u4 j m w6.heap.size 1 true, VJ r b v u4 j m w6.heap.size 0 true] rfl rfl rfl (D := [(1, none)]) (by kernel_rfl) ?_
                intro ρ W ⟨pl1, pl2, pl3⟩ hG hF K hK
                simp [FactsD, VJ] at hF
                have hGW : Gr w6 W := Gr.tr (Gr.drew _) hG
                have hsz : w6.heap.size ≤ W.heap.size := hGW.size
                go_simp
                exact hK _ ⟨by first | rfl | go_num, Dq.St.same _ _ _⟩
              | 3, _ =>
                cases ho0
                refine Dq.Step.mk2 [VJ r b v u4 j m w6.heap.size 2 true, VJ r b v u4 j m w6.heap.size 1 true, VJ r b v u4 j m w6.heap.size 0 true] rfl rfl rfl (D := [(44, some 1), (45, some 0)]) (by kernel_rfl) ?_
                intro ρ W ⟨pl1, pl2, pl3⟩ hG hF K hK
                simp [FactsD, VJ] at hF
                have hGW : Gr w6 W := Gr.tr (Gr.drew _) hG
                have hsz : w6.heap.size ≤ W.heap.size := hGW.size
                obtain ⟨⟨g, hF1⟩, hF2⟩ := hF
                obtain ⟨v', w', hrun, hcp, hgr⟩ := app_prs b v g W (HP6.out.kp (Kp.gr hGW)) (by omega) 34
                simp [execOp, resolve, invoke, builtin, hF1, hF2, hrun, Result.andThen]
                exact hK _ ⟨fun _ => hcp.imp (fun h => own_base h hsz) (fun h => ⟨h.1, g, h.2⟩), Dq.St.of hsz hgr⟩
              | 4, _ =>
                cases ho0
                refine Dq.Step.mk2 [VJ r b v u4 j m w6.heap.size 3 true, VJ r b v u4 j m w6.heap.size 2 true, VJ r b v u4 j m w6.heap.size 1 true, VJ r b v u4 j m w6.heap.size 0 true] rfl rfl rfl (D := [(11, none)]) (by kernel_rfl) ?_
                intro ρ W ⟨pl1, pl2, pl3⟩ hG hF K hK
                simp [FactsD, VJ] at hF
                have hGW : Gr w6 W := Gr.tr (Gr.drew _) hG
                have hsz : w6.heap.size ≤ W.heap.size := hGW.size
                go_simp
                exact hK _ ⟨by first | rfl | go_num, Dq.St.same _ _ _⟩
              | 5, _ =>
                cases ho0
                refine Dq.Step.mk2 [VJ r b v u4 j m w6.heap.size 4 true, VJ r b v u4 j m w6.heap.size 3 true, VJ r b v u4 j m w6.heap.size 2 true, VJ r b v u4 j m w6.heap.size 1 true, VJ r b v u4 j m w6.heap.size 0 true] rfl rfl rfl (D := [(12, none)]) (by kernel_rfl) ?_
                intro ρ W ⟨pl1, pl2, pl3⟩ hG hF K hK
                simp [FactsD, VJ] at hF
                have hGW : Gr w6 W := Gr.tr (Gr.drew _) hG
                have hsz : w6.heap.size ≤ W.heap.size := hGW.size
                go_simp
                exact hK _ ⟨by first | rfl | go_num, Dq.St.same _ _ _⟩
              | 6, _ =>
                cases ho0
                refine Dq.Step.mk2 [VJ r b v u4 j m w6.heap.size 5 true, VJ r b v u4 j m w6.heap.size 4 true, VJ r b v u4 j m w6.heap.size 3 true, VJ r b v u4 j m w6.heap.size 2 true, VJ r b v u4 j m w6.heap.size 1 true, VJ r b v u4 j m w6.heap.size 0 true] rfl rfl rfl (D := [(47, some 1), (48, some 0)]) (by kernel_rfl) ?_
                intro ρ W ⟨pl1, pl2, pl3⟩ hG hF K hK
                simp [FactsD, VJ] at hF
                have hGW : Gr w6 W := Gr.tr (Gr.drew _) hG
                have hsz : w6.heap.size ≤ W.heap.size := hGW.size
                go_simp
                exact hK _ ⟨by first | rfl | go_num, Dq.St.same _ _ _⟩
              | 7, _ =>
                cases ho0
                refine Dq.Step.mk2 [VJ r b v u4 j m w6.heap.size 6 true, VJ r b v u4 j m w6.heap.size 5 true, VJ r b v u4 j m w6.heap.size 4 true, VJ r b v u4 j m w6.heap.size 3 true, VJ r b v u4 j m w6.heap.size 2 true, VJ r b v u4 j m w6.heap.size 1 true, VJ r b v u4 j m w6.heap.size 0 true] rfl rfl rfl (D := [(49, some 0)]) (by kernel_rfl) ?_
                intro ρ W ⟨pl1, pl2, pl3⟩ hG hF K hK
                simp [FactsD, VJ] at hF
                have hGW : Gr w6 W := Gr.tr (Gr.drew _) hG
                have hsz : w6.heap.size ≤ W.heap.size := hGW.size
                go_simp
                exact hK _ ⟨fun _ => ⟨_, rfl, Box.fresh W [.int .i64 j, .int .i64 m] 55⟩, Dq.St.of hsz (Gr.alloc _ _)⟩
              | 8, _ =>
                cases ho0
                refine Dq.Step.mk2 [VJ r b v u4 j m w6.heap.size 7 false, VJ r b v u4 j m w6.heap.size 6 false, VJ r b v u4 j m w6.heap.size 5 false, VJ r b v u4 j m w6.heap.size 4 false, VJ r b v u4 j m w6.heap.size 3 false, VJ r b v u4 j m w6.heap.size 2 false, VJ r b v u4 j m w6.heap.size 1 false, VJ r b v u4 j m w6.heap.size 0 false] rfl rfl rfl (D := [(46, some 4), (50, some 0)]) (by kernel_rfl) ?_
                intro ρ W ⟨pl1, pl2, pl3⟩ hG hF K hK
                simp [FactsD, VJ] at hF
                have hGW : Gr w6 W := Gr.tr (Gr.drew _) hG
                have hsz : w6.heap.size ≤ W.heap.size := hGW.size
                obtain ⟨hF1, h, hF2, hF3⟩ := hF
                obtain ⟨g, hg1⟩ : ∃ g, (W.ownsRow w6.heap.size 55 2 (ρ (.tmp 46)) b.length (b.flatMap pv) ∨ b = [] ∧ (ρ (.tmp 46)) = .slice (some ⟨g, 0, none⟩) 0 0) := by
                  rcases hF1 with h | ⟨h1, g, h2⟩
                  · exact ⟨0, .inl h⟩
                  · exact ⟨g, .inr ⟨h1, h2⟩⟩
                obtain ⟨v', w', hrun, hcp, hgr⟩ := app_pair b _ g h w6.heap.size j m W hg1 hF3 hsz (by omega) 34
                simp [execOp, resolve, invoke, builtin, hF2, hrun, Result.andThen]
                exact hK _ ⟨hcp, hgr, fun h => by cases h⟩
              | 9, _ =>
                cases ho0
                refine Dq.Step.mk2 [VJ r b v u4 j m w6.heap.size 8 true, VJ r b v u4 j m w6.heap.size 7 true, VJ r b v u4 j m w6.heap.size 6 true, VJ r b v u4 j m w6.heap.size 5 true, VJ r b v u4 j m w6.heap.size 4 true, VJ r b v u4 j m w6.heap.size 3 true, VJ r b v u4 j m w6.heap.size 2 true, VJ r b v u4 j m w6.heap.size 1 true, VJ r b v u4 j m w6.heap.size 0 true] rfl rfl rfl (D := [(11, none)]) (by kernel_rfl) ?_
                intro ρ W ⟨pl1, pl2, pl3⟩ hG hF K hK
                simp [FactsD, VJ] at hF
                have hGW : Gr w6 W := Gr.tr (Gr.drew _) hG
                have hsz : w6.heap.size ≤ W.heap.size := hGW.size
                go_simp
                exact hK _ ⟨by first | rfl | go_num, Dq.St.same _ _ _⟩
              | 10, _ =>
                cases ho0
                refine Dq.Step.mk2 [VJ r b v u4 j m w6.heap.size 9 true, VJ r b v u4 j m w6.heap.size 8 true, VJ r b v u4 j m w6.heap.size 7 true, VJ r b v u4 j m w6.heap.size 6 true, VJ r b v u4 j m w6.heap.size 5 true, VJ r b v u4 j m w6.heap.size 4 true, VJ r b v u4 j m w6.heap.size 3 true, VJ r b v u4 j m w6.heap.size 2 true, VJ r b v u4 j m w6.heap.size 1 true, VJ r b v u4 j m w6.heap.size 0 true] rfl rfl rfl (D := [(52, some 0)]) (by kernel_rfl) ?_
                intro ρ W ⟨pl1, pl2, pl3⟩ hG hF K hK
                simp [FactsD, VJ] at hF
                have hGW : Gr w6 W := Gr.tr (Gr.drew _) hG
                have hsz : w6.heap.size ≤ W.heap.size := hGW.size
                go_simp
                exact hK _ ⟨(show Value.int .i64 (IntKind.i64.wrap ((j : Int) + 1)) = Value.int .i64 ((j + 1 : Nat) : Int) by rw [IntWalk.i64_in _ (by omega)]; go_num), Dq.St.same _ _ _⟩
              | 11, _ =>
                cases ho0
                refine Dq.Step.mk2 [VJ r b v u4 j m w6.heap.size 10 true, VJ r b v u4 j m w6.heap.size 9 true, VJ r b v u4 j m w6.heap.size 8 true, VJ r b v u4 j m w6.heap.size 7 true, VJ r b v u4 j m w6.heap.size 6 true, VJ r b v u4 j m w6.heap.size 5 true, VJ r b v u4 j m w6.heap.size 4 true, VJ r b v u4 j m w6.heap.size 3 true, VJ r b v u4 j m w6.heap.size 2 true, VJ r b v u4 j m w6.heap.size 1 true, VJ r b v u4 j m w6.heap.size 0 true] rfl rfl rfl (D := [(12, none)]) (by kernel_rfl) ?_
                intro ρ W ⟨pl1, pl2, pl3⟩ hG hF K hK
                simp [FactsD, VJ] at hF
                have hGW : Gr w6 W := Gr.tr (Gr.drew _) hG
                have hsz : w6.heap.size ≤ W.heap.size := hGW.size
                go_simp
                exact hK _ ⟨by first | rfl | go_num, Dq.St.same _ _ _⟩
              | 12, _ =>
                cases ho0
                refine Dq.Step.mk2 [VJ r b v u4 j m w6.heap.size 11 true, VJ r b v u4 j m w6.heap.size 10 true, VJ r b v u4 j m w6.heap.size 9 true, VJ r b v u4 j m w6.heap.size 8 true, VJ r b v u4 j m w6.heap.size 7 true, VJ r b v u4 j m w6.heap.size 6 true, VJ r b v u4 j m w6.heap.size 5 true, VJ r b v u4 j m w6.heap.size 4 true, VJ r b v u4 j m w6.heap.size 3 true, VJ r b v u4 j m w6.heap.size 2 true, VJ r b v u4 j m w6.heap.size 1 true, VJ r b v u4 j m w6.heap.size 0 true] rfl rfl rfl (D := [(54, some 0)]) (by kernel_rfl) ?_
                intro ρ W ⟨pl1, pl2, pl3⟩ hG hF K hK
                simp [FactsD, VJ] at hF
                have hGW : Gr w6 W := Gr.tr (Gr.drew _) hG
                have hsz : w6.heap.size ≤ W.heap.size := hGW.size
                go_simp
                exact hK _ ⟨(show Value.int .i64 (IntKind.i64.wrap ((m : Int) + 1)) = Value.int .i64 ((m + 1 : Nat) : Int) by rw [IntWalk.i64_in _ (by omega)]; go_num), Dq.St.same _ _ _⟩
              | 13, _ =>
                cases ho0
                refine Dq.Step.mk2 [VJ r b v u4 j m w6.heap.size 12 true, VJ r b v u4 j m w6.heap.size 11 true, VJ r b v u4 j m w6.heap.size 10 true, VJ r b v u4 j m w6.heap.size 9 true, VJ r b v u4 j m w6.heap.size 8 true, VJ r b v u4 j m w6.heap.size 7 true, VJ r b v u4 j m w6.heap.size 6 true, VJ r b v u4 j m w6.heap.size 5 true, VJ r b v u4 j m w6.heap.size 4 true, VJ r b v u4 j m w6.heap.size 3 true, VJ r b v u4 j m w6.heap.size 2 true, VJ r b v u4 j m w6.heap.size 1 true, VJ r b v u4 j m w6.heap.size 0 true] rfl rfl rfl (D := [(4, none)]) (by kernel_rfl) ?_
                intro ρ W ⟨pl1, pl2, pl3⟩ hG hF K hK
                simp [FactsD, VJ] at hF
                have hGW : Gr w6 W := Gr.tr (Gr.drew _) hG
                have hsz : w6.heap.size ≤ W.heap.size := hGW.size
                go_simp
                exact hK _ ⟨by first | rfl | go_num, Dq.St.same _ _ _⟩
              | (_ + 14), hi0 => omega
            · intro vs W6 hG hV
              have e0 := hV 0 (by omega)
              have e1 := hV 1 (by omega)
              have e2 := hV 2 (by omega)
              have e3 := hV 3 (by omega)
              have e4 := hV 4 (by omega)
              have e5 := hV 5 (by omega)
              have e6 := hV 6 (by omega)
              have e7 := hV 7 (by omega)
              have e8 := hV 8 (by omega)
              have e9 := hV 9 (by omega)
              have e10 := hV 10 (by omega)
              have e11 := hV 11 (by omega)
              have e12 := hV 12 (by omega)
              have e13 := hV 13 (by omega)
              clear hV
              simp only [VJ] at e0 e4 e5 e6 e8 e9 e10 e11 e12 e13 e2
              simp only [lay, Act.put, List.getElem?_toArray, List.getElem?_cons_succ, List.getElem?_cons_zero, Option.bind_some, List.setIfInBounds_toArray, List.set_cons_succ, List.set_cons_zero, List.drop_succ_cons, List.drop_zero]
              generalize vs 0 = v0 at *
              generalize vs 1 = v1 at *
              generalize vs 2 = v2 at *
              generalize vs 3 = v3 at *
              generalize vs 4 = v4 at *
              generalize vs 5 = v5 at *
              generalize vs 6 = v6 at *
              generalize vs 7 = v7 at *
              generalize vs 8 = v8 at *
              generalize vs 9 = v9 at *
              generalize vs 10 = v10 at *
              generalize vs 11 = v11 at *
              generalize vs 12 = v12 at *
              generalize vs 13 = v13 at *
              subst e0 e4 e5 e6 e9 e10 e11 e12
              have e2 := e2.symm
              have e13 := e13.symm
              subst e2 e13
              clear e1 e3 e7
              have HGW := Lib.hid (show Gr w6 W6 from Gr.tr (Gr.same w6) hG)
              have HO7 := Lib.hid (HO6.out.gr HGW.out)
              have HE8 := Lib.hid (show Pz v8 (b ++ [(j, m)]) W6 from ⟨_, e8⟩)
              have HR7 := Lib.hid (HR6.out.tr HGW.out)
              have HK7 := Lib.hid (HK6.out.tr (Kp.gr HGW.out))
              have hroom := wl_room (H := r.h) (b := b) hij hlt hkm hlm HF.out
              have HL7 := Lib.hid (show (l ++ MW.out r.fitm r.L.length r.R.length r.h b i k j ++ inn r.fitm r.L.length r.R.length r.h b j k m ++ wl r.fitm r.L.length r.R.length r.h (b ++ [(j, m)]) (j + 1) (m + 1)).length ≤ 1000000 by
                have h1 := HN.out
                simp only [List.length_append] at h1 ⊢
                omega)
              clear e8 hG hroom
              have hc := (show Calls Try.prog 99 #[.agg #[.slice r.lp r.L.length r.lc, .slice r.rp r.R.length r.rc, .int .i64 r.s, .int .i64 r.t, .int .i64 r.h], v8, .int .i64 ((j + 1 : Nat) : Int), .int .i64 ((m + 1 : Nat) : Int), u4] W6 (fun e W' => (∃ o', e = .returned o' ∧ OutAt w0.heap.size o' (l ++ MW.out r.fitm r.L.length r.R.length r.h b i k j ++ inn r.fitm r.L.length r.R.length r.h b j k m ++ wl r.fitm r.L.length r.R.length r.h (b ++ [(j, m)]) (j + 1) (m + 1)) W') ∧ Gr w0 W' ∧ Kp W6 W') from HIH.out (j + 1) (by omega) (by omega) (m + 1) (b ++ [(j, m)]) v8 _ u4 W6 (by omega) HR7.out HE8.out (by simp; omega) HO7.out HL7.out)
              rw [show ((j + 1 : Nat) : Int) = (j : Int) + 1 from by omega, show ((m + 1 : Nat) : Int) = (m : Int) + 1 from by omega] at hc
              have HC := Lib.hid hc
              clear hc
              go_wp2_with (first | (go_at_call 99; (with_reducible refine HC.out.mono ?_); rintro e w8 ⟨⟨o3, rfl, h1⟩, h2, h3⟩; have HO8 := Lib.hid h1; have HR8 := Lib.hid h2; have HK8 := Lib.hid (HK7.out.tr h3); clear h1 h2 h3; dsimp only))
              exact ⟨⟨m + 1, _, by omega, by omega, by go_num, rfl, by rw [inn_succ hkm, HF.out]; simpa [List.append_assoc] using HO8, HR8, HK8⟩, by simp [intOf]; omega⟩
        · have hmn : m = r.R.length := by omega
          subst hmn
          go_wp2_with fail
          exact ⟨⟨j + 1, _, by omega, by omega, by go_num, rfl, by rw [out_succ hij, ← List.append_assoc]; exact HO, HR, HK⟩, by simp [intOf]; omega⟩
    · have hjn : j = r.L.length := by omega
      subst hjn
      go_wp2_with fail
      go_ret
      exact ⟨⟨_, rfl, by rw [wl_eq]; exact HO.out⟩, HR.out, HKW.out.tr HK.out⟩

end Go.Proofs.Ytjlaoiimbhlafaa
