import Derived.Test.YtjlaoiimbhlafaaJ9
import Derived.Test.YtjlaoiimbhlafaaW1
import Derived.Laws.StructEq
set_option linter.unusedVariables false
set_option linter.unusedSimpArgs false
namespace Go.Proofs.Ytjlaoiimbhlafaa
open Go.RowKit Go.Shelf

open MW
attribute [local go_sem] Oper.semAt_some run_store_func
attribute [local go_sem ↓] Go.wp_at_zero Go.wp_at_succ
theorem sur_nil (b : List (Nat × Nat)) (i : Nat) : sur [] b i = par b i := rfl
theorem sur_snoc (l : List (List (Nat × Nat))) (b p : List (Nat × Nat)) (i : Nat) : sur (l ++ [p]) b i = if par p i ≠ sur l b i then -1 else sur l b i := by
  unfold sur
  rw [List.all_append]
  cases h : l.all fun p => par p i == par b i with
  | true =>
    by_cases hp : par p i = par b i
    · simp [hp]
    · simp [hp]
  | false => simp
theorem InsF.of_own {w : World} {base n : Nat} {F : Nat → Int} {v : Value} (h : w.ownsRow base 3 1 v n (ivs ((List.range n).map F))) : ∃ p k, v = .slice p n k ∧ InsF p n F w := by
  have hn : ((List.range n).map F).length = n := by simp
  obtain ⟨p, k, hv, hx⟩ := IntsIn.of_own (l := (List.range n).map F) (by rw [hn]; exact h)
  rw [hn] at hv
  exact ⟨p, k, hv, fun i hi => hx i (F i) (by simp [hi])⟩
theorem range_snoc (F : Nat → Int) (n : Nat) : ivs ((List.range (n + 1)).map F) = ivs ((List.range n).map F) ++ [.int .i64 (F n)] := by
  unfold ivs
  rw [List.range_succ, List.map_append, List.map_append]
  rfl
set_option maxRecDepth 100000 in
set_option maxHeartbeats 8000000 in
theorem rsure_no (r : Rr) (w : World) (hl : MksAt r.L r.lp w) (hr : MksAt r.R r.rp w) (hok : r.ok = false) :
    Calls Try.prog 26 #[r.val] w fun e w' => e = .returned (.tuple #[.slice none 0 0, .int .i64 1]) ∧ Below w.heap.size w w' := by
  have H57 := Lib.hid (fun W (hg : Gr w W) => opn57_no r W (hl.grow hg) (hr.grow hg) true hok)
  clear hl hr hok
  have HB := Lib.hid (Box.fresh w r.cs 26)
  have HG := Lib.hid (show Gr w (w.alloc (Obj.cells r.cs.toArray 26)) from Gr.alloc _ _)
  unfold Rr.cs at HB HG
  unfold Rr.val at *
  obtain ⟨r0, r1, r2, r3, r4⟩ := cells5 HB.out
  have rl := HB.out.lt
  go_enter Try.func26, Try.ntmps26
  go_wp2_with (first | (go_at_call 57; (with_reducible refine (H57.out _ (by first | exact HG.out | exact Gr.tr HG.out (Gr.alloc _ _) | exact Gr.tr HG.out ((Gr.alloc _ _).tr (Gr.alloc _ _)) | exact Gr.tr HG.out (Gr.drew _))).mono ?_); rintro e wo ⟨⟨o, rfl, ho⟩, hb⟩; have HG := Lib.hid (show Gr w wo from by first | exact Gr.tr HG.out hb | exact Gr.tr (HG.out.tr (Gr.alloc _ _)) hb | exact Gr.tr (HG.out.tr ((Gr.alloc _ _).tr (Gr.alloc _ _))) hb | exact Gr.tr (HG.out.tr (Gr.drew _)) hb); have HB := Lib.hid (HB.out.grow (by first | exact hb | exact Gr.tr (Gr.alloc _ _) hb | exact Gr.tr ((Gr.alloc _ _).tr (Gr.alloc _ _)) hb | exact Gr.tr (Gr.drew _) hb)); clear r0 r1 r2 r3 r4 rl; obtain ⟨r0, r1, r2, r3, r4⟩ := cells5 HB.out; have rl := HB.out.lt; obtain ⟨po, co, rfl, -⟩ := id ho; have HO := Lib.hid ho; clear ho; dsimp only; clear hb))
  exact bodyPost_ret (v := .tuple #[.slice none 0 0, .int .i64 1]) (by simp [results, Try.f26, go_sem]) rfl ⟨rfl, HG.out⟩
set_option maxRecDepth 100000 in
set_option maxHeartbeats 8000000 in
theorem rsure_zero (r : Rr) (w : World) (hl : MksAt r.L r.lp w) (hr : MksAt r.R r.rp w) (hok : r.ok = true) (hz : r.ways = []) :
    Calls Try.prog 26 #[r.val] w fun e w' => e = .returned (.tuple #[.slice none 0 0, .int .i64 4]) ∧ Below w.heap.size w w' := by
  have H57 := Lib.hid (fun W (hg : Gr w W) => opn57_zero r W (hl.grow hg) (hr.grow hg) hok hz)
  clear hl hr hok hz
  have HB := Lib.hid (Box.fresh w r.cs 26)
  have HG := Lib.hid (show Gr w (w.alloc (Obj.cells r.cs.toArray 26)) from Gr.alloc _ _)
  unfold Rr.cs at HB HG
  unfold Rr.val at *
  obtain ⟨r0, r1, r2, r3, r4⟩ := cells5 HB.out
  have rl := HB.out.lt
  go_enter Try.func26, Try.ntmps26
  go_wp2_with (first | (go_at_call 57; (with_reducible refine (H57.out _ (by first | exact HG.out | exact Gr.tr HG.out (Gr.alloc _ _) | exact Gr.tr HG.out ((Gr.alloc _ _).tr (Gr.alloc _ _)) | exact Gr.tr HG.out (Gr.drew _))).mono ?_); rintro e wo ⟨⟨o, rfl, ho⟩, hb⟩; have HG := Lib.hid (show Gr w wo from by first | exact Gr.tr HG.out hb | exact Gr.tr (HG.out.tr (Gr.alloc _ _)) hb | exact Gr.tr (HG.out.tr ((Gr.alloc _ _).tr (Gr.alloc _ _))) hb | exact Gr.tr (HG.out.tr (Gr.drew _)) hb); have HB := Lib.hid (HB.out.grow (by first | exact hb | exact Gr.tr (Gr.alloc _ _) hb | exact Gr.tr ((Gr.alloc _ _).tr (Gr.alloc _ _)) hb | exact Gr.tr (Gr.drew _) hb)); clear r0 r1 r2 r3 r4 rl; obtain ⟨r0, r1, r2, r3, r4⟩ := cells5 HB.out; have rl := HB.out.lt; obtain ⟨po, co, rfl, -⟩ := id ho; have HO := Lib.hid ho; clear ho; dsimp only; clear hb))
  exact bodyPost_ret (v := .tuple #[.slice none 0 0, .int .i64 4]) (by simp [results, Try.f26, go_sem]) rfl ⟨rfl, HG.out⟩
set_option maxRecDepth 100000 in
set_option maxHeartbeats 8000000 in
theorem rsure_yes (r : Rr) (w : World) (hl : MksAt r.L r.lp w) (hr : MksAt r.R r.rp w) (hok : r.ok = true) (hz : r.ways ≠ []) (hn : r.ways.length ≤ 1000000) {b0 : List (Nat × Nat)} {l0 : List (List (Nat × Nat))} (hw : r.ways = b0 :: l0) :
    Calls Try.prog 26 #[r.val] w fun e w' => (∃ p k, e = .returned (.tuple #[.slice p r.L.length k, .int .i64 0]) ∧ InsF p r.L.length (fun j => sur r.ways b0 j) w') ∧ Below w.heap.size w w' := by
  obtain ⟨b1, b2, -⟩ := Rr.ok_parts hok
  have H57 := Lib.hid (fun W (hg : Gr w W) => opn57_yes r W (hl.grow hg) (hr.grow hg) hok hz hn)
  have HLN := Lib.hid (fun q (hq : q ∈ r.ways) => show q.length ≤ 1000 ∧ ∀ x ∈ q, x.1 < 1000 ∧ x.2 < 1000 from ⟨by have := (Rr.way_len hok hq).1; omega, fun x hx => by have := (Rr.way_len hok hq).2 x hx; omega⟩)
  have HW0 := Lib.hid (show r.ways[0]? = some b0 by rw [hw]; rfl)
  have g0 : (0 : Int) < r.ways.length := by rw [hw]; simp
  have HB0 := Lib.hid (show b0 ∈ r.ways by rw [hw]; simp)
  clear hl hr hok hz hw
  generalize r.ways = ws at *
  obtain ⟨i0, ii0, iz0, iz1, iz2⟩ := infoP info3r
  have II0 := Lib.hid ii0
  have IZ0 := Lib.hid iz0
  have IZ1 := Lib.hid iz1
  have IZ2 := Lib.hid iz2
  clear ii0 iz0 iz1 iz2
  have HB := Lib.hid (Box.fresh w r.cs 26)
  have HG := Lib.hid (show Gr w (w.alloc (Obj.cells r.cs.toArray 26)) from Gr.alloc _ _)
  unfold Rr.cs at HB HG
  unfold Rr.val at *
  obtain ⟨r0, r1, r2, r3, r4⟩ := cells5 HB.out
  have rl := HB.out.lt
  go_enter Try.func26, Try.ntmps26
  apply wp_seq_k
  intro K1 hK1
  have HK1 := Lib.hid hK1
  clear hK1
  go_wp2_with fail
  refine HK1.out _ _ ?_
  clear HK1
  apply wp_seq_k
  intro K1 hK1
  have HK1 := Lib.hid hK1
  clear hK1
  go_wp2_with (first | (go_at_call 57; (with_reducible refine (H57.out _ (by first | exact HG.out | exact Gr.tr HG.out (Gr.alloc _ _) | exact Gr.tr HG.out ((Gr.alloc _ _).tr (Gr.alloc _ _)) | exact Gr.tr HG.out (Gr.drew _))).mono ?_); rintro e wo ⟨⟨o, rfl, ho⟩, hb⟩; have HG := Lib.hid (show Gr w wo from by first | exact Gr.tr HG.out hb | exact Gr.tr (HG.out.tr (Gr.alloc _ _)) hb | exact Gr.tr (HG.out.tr ((Gr.alloc _ _).tr (Gr.alloc _ _))) hb | exact Gr.tr (HG.out.tr (Gr.drew _)) hb); have HB := Lib.hid (HB.out.grow (by first | exact hb | exact Gr.tr (Gr.alloc _ _) hb | exact Gr.tr ((Gr.alloc _ _).tr (Gr.alloc _ _)) hb | exact Gr.tr (Gr.drew _) hb)); clear r0 r1 r2 r3 r4 rl; obtain ⟨r0, r1, r2, r3, r4⟩ := cells5 HB.out; have rl := HB.out.lt; obtain ⟨po, co, rfl, -⟩ := id ho; have HO := Lib.hid ho; clear ho; dsimp only; clear hb))
  refine HK1.out _ _ ?_
  clear HK1
  have HAT := Lib.hid (WsIn.at HO.out)
  obtain ⟨bo, pq, cq, hpo, hbo, o1, o2⟩ := HAT.out _ (Gr.same _) 0 b0 HW0.out
  subst hpo
  clear o1 o2 hbo
  have HGO := Lib.hid HG.out
  go_wp2_with fail
  clear r0 r1 r2 r3 r4 rl
  go_loopw [7, 6] (fun t u wr => ∃ i : Nat, i ≤ r.L.length ∧ t = .int .i64 i ∧ Hid (Gr wo wr) ∧ Hid (wr.ownsRow wo.heap.size 3 1 u i (ivs ((List.range i).map fun j => sur ws b0 j)))) (fun t _ _ => (20 - intOf t).toNat)
  case atStart => exact ⟨0, Nat.zero_le _, rfl, Lib.hid (Gr.same _), Lib.hid (World.ownsRow_nil _ _ _ _)⟩
  case round =>
    obtain ⟨i, hi, rfl, HR, HOW⟩ := hrel
    obtain ⟨r0, r1, r2, r3, r4⟩ := cells5 (HB.out.grow HR.out)
    have rl := (HB.out.grow HR.out).lt
    by_cases hlt : i < r.L.length
    · have g1 : (i : Int) < r.L.length := by omega
      obtain ⟨bo', pq, cq, hpo, hbo, o1, o2⟩ := HAT.out _ HR.out 0 b0 HW0.out
      cases hpo
      have HP6 := Lib.hid (partner62_any _ b0 i _ o2 (HLN.out b0 HB0.out).1 (HLN.out b0 HB0.out).2)
      have HOQ := Lib.hid (fun W (h : Gr wr W) => own_gr HOW.out h)
      go_wp2_with (first | (go_at_call 62; (with_reducible refine (HP6.out).mono ?_); rintro e w6 ⟨rfl, hb⟩; have HRS := Lib.hid (show Gr wr w6 from hb); have HR6 := Lib.hid (HR.out.tr hb); clear hb; dsimp only))
      have HGR := HR6
      have HOX := Lib.hid (HOQ.out _ HRS.out)
      rw [show par b0 i = sur (ws.take 0) b0 i from rfl]
      clear o1 o2 r0 r1 r2 r3 r4 rl hbo HP6 HOQ HOW HRS
      go_loopw [9, 8] (fun t u wq => ∃ c : Nat, c ≤ ws.length ∧ t = .int .i64 c ∧ u = .int .i64 (sur (ws.take c) b0 i) ∧ Hid (Gr w6 wq)) (fun t _ _ => ((ws.length : Int) - intOf t).toNat)
      case atStart => exact ⟨0, Nat.zero_le _, rfl, rfl, Lib.hid (Gr.same _)⟩
      case round =>
        obtain ⟨c, hc, rfl, rfl, HI⟩ := hrel
        by_cases hlc : c < ws.length
        · have g2 : (c : Int) < ws.length := by omega
          obtain ⟨q, hq⟩ : ∃ q, ws[c]? = some q := ⟨_, List.getElem?_eq_getElem hlc⟩
          obtain ⟨bo', pq, cq, hpo, hbo, o1, o2⟩ := HAT.out _ (HGR.out.tr HI.out) c q hq
          cases hpo
          have hqm := HLN.out q (List.mem_of_getElem? hq)
          have HP6 := Lib.hid (partner62_any _ q i _ o2 hqm.1 hqm.2)
          have HSN := Lib.hid (show sur (ws.take (c + 1)) b0 i = if par q i ≠ sur (ws.take c) b0 i then -1 else sur (ws.take c) b0 i by rw [take_succ hq, sur_snoc])
          clear hq hqm o2
          by_cases hp : par q i = sur (ws.take c) b0 i
          · have e1 : (par q i != sur (ws.take c) b0 i) = false := by rw [hp]; simp
            have HSE := Lib.hid (show sur (ws.take (c + 1)) b0 i = sur (ws.take c) b0 i by rw [HSN.out, if_neg (fun h => h hp)])
            clear hp HSN
            generalize sur (ws.take c) b0 i = sv at *
            generalize par q i = pv' at *
            go_wp2_with (first | (go_at_call 62; (with_reducible refine (HP6.out).mono ?_); rintro e w7 ⟨rfl, hb⟩; have HI6 := Lib.hid (HI.out.tr hb); clear hb; dsimp only))
            exact ⟨⟨c + 1, by omega, by go_num, by rw [HSE.out], HI6⟩, by simp [intOf]; omega⟩
          · have e1 : (par q i != sur (ws.take c) b0 i) = true := by rw [bne_iff_ne]; exact hp
            have HSE := Lib.hid (show sur (ws.take (c + 1)) b0 i = -1 by rw [HSN.out, if_pos hp])
            clear hp HSN
            generalize sur (ws.take c) b0 i = sv at *
            generalize par q i = pv' at *
            go_wp2_with (first | (go_at_call 62; (with_reducible refine (HP6.out).mono ?_); rintro e w7 ⟨rfl, hb⟩; have HI6 := Lib.hid (HI.out.tr hb); clear hb; dsimp only))
            exact ⟨⟨c + 1, by omega, by go_num, by rw [HSE.out], HI6⟩, by simp [intOf]; omega⟩
        · have hcn : c = ws.length := by omega
          subst hcn
          rw [List.take_length]
          have HOZ := Lib.hid (own_gr (own_gr HOX.out HI.out) (Gr.alloc wr (Obj.cells #[.int .i64 (sur ws b0 i)] 3)))
          have HRZ := Lib.hid (HGR.out.tr (HI.out.tr (Gr.alloc wr (Obj.cells #[.int .i64 (sur ws b0 i)] 3))))
          go_wp2_with (first | (at_builtin; refine wpList_append_own _ rfl _ _ 39 rfl wo.heap.size 3 i0 _ 1 8 Try.underlying39 II0.out IZ0.out IZ1.out IZ2.out rfl (by decide) _ _ _ rfl HOZ.out ⟨wr.heap.size, 0, none⟩ 1 1 [.int .i64 (sur ws b0 i)] rfl rfl ?c1 ?c2 ?c3 ?c4 ?c5 ?_))
          case c1 =>
            intro j u hu
            rw [addz]
            exact (Box.fresh wr [.int .i64 (sur ws b0 i)] 3).cell hu
          case c2 =>
            intro u hu
            rw [List.mem_singleton.1 hu]
            rfl
          case c3 => unfold maxLen; omega
          case c4 => omega
          case c5 => have := HRZ.out.size; exact this
          intro v' w8 hown hgrow hnil
          clear hnil
          have HR8 := Lib.hid (show Gr wo w8 from (show Below wo.heap.size wo (wr.alloc (Obj.cells #[.int .i64 (sur ws b0 i)] 3)) from HRZ.out).grown hgrow HRZ.out.size (fun q e => (own_blk HOZ.out e.symm).1))
          have HO8 := Lib.hid (show w8.ownsRow wo.heap.size 3 1 v' (i + 1) (ivs ((List.range (i + 1)).map fun j => sur ws b0 j)) by rw [range_snoc]; exact hown)
          clear hown hgrow
          go_wp2_with fail
          exact ⟨⟨i + 1, by omega, by go_num, HR8, HO8⟩, by simp [intOf]; omega⟩
    · have hin : i = r.L.length := by omega
      subst hin
      obtain ⟨p, k, rfl, hI⟩ := InsF.of_own HOW.out
      have HIN := Lib.hid hI
      clear hI
      go_wp2_with fail
      exact bodyPost_ret (v := .tuple #[.slice p r.L.length k, .int .i64 0]) (by simp [results, Try.f26, go_sem]) rfl ⟨⟨_, _, rfl, HIN.out⟩, HGO.out.tr HR.out⟩

end Go.Proofs.Ytjlaoiimbhlafaa
