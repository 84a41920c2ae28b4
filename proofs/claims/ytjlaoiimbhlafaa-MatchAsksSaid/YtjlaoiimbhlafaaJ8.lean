import Derived.Test.YtjlaoiimbhlafaaJ7
import Derived.Laws.StructEq
set_option linter.unusedVariables false
set_option linter.unusedSimpArgs false
namespace Go.Proofs.Ytjlaoiimbhlafaa
open Go.RowKit Go.Shelf

open MW
attribute [local go_sem] Oper.semAt_some run_store_func
attribute [local go_sem ↓] Go.wp_at_zero Go.wp_at_succ
theorem WsIn.at {p : Option Addr} {c : Nat} {l : List (List (Nat × Nat))} {w : World} (h : WsIn (.slice p l.length c) l w) : ∀ W, Gr w W → ∀ i q, l[i]? = some q → ∃ b pq cq, p = some ⟨b, 0, none⟩ ∧ b < W.heap.size ∧ W.cell? ⟨b, i, none⟩ = some (.slice pq q.length cq) ∧ PrsIn (.slice pq q.length cq) q W := fun W hg i q hq => by
  obtain ⟨p', c', hv, h⟩ := WsIn.grow h hg
  cases hv
  obtain ⟨b, v, h1, h2, h3, h4⟩ := h i q hq
  obtain ⟨pq, cq, rfl, -⟩ := id h4
  exact ⟨b, pq, cq, h1, h2, h3, h4⟩
theorem PrsIn.at2 {p : Option Addr} {c : Nat} {l : List (Nat × Nat)} {w : World} (h : PrsIn (.slice p l.length c) l w) : ∀ W, Gr w W → ∀ i x, l[i]? = some x → ∃ b o, p = some ⟨b, o, none⟩ ∧ b < W.heap.size ∧ W.cell? ⟨b, o + i * 2, none⟩ = some (.int .i64 x.1) ∧ W.cell? ⟨b, o + i * 2 + 1, none⟩ = some (.int .i64 x.2) := fun W hg i x hx => by
  obtain ⟨p', c', hv, h⟩ := PrsIn.grow h hg
  cases hv
  exact h i x hx
theorem take_succ {α : Type} {l : List α} {c : Nat} {x : α} (h : l[c]? = some x) : l.take (c + 1) = l.take c ++ [x] := by
  rw [List.take_add_one, h]; rfl
/-- No way has more pairs than a row has marks. -/
theorem Rr.way_len {r : Rr} (hok : r.ok = true) {q : List (Nat × Nat)} (h : q ∈ r.ways) : q.length ≤ 10 ∧ ∀ x ∈ q, x.1 < r.L.length ∧ x.2 < r.R.length := by
  have hw := mem_All_way.1 h
  have h0 : r.ways ≠ [] := fun e => by rw [e] at h; cases h
  obtain ⟨p1, p2, -⟩ := Rr.ok_parts hok
  have h1 := (Rr.few_is hok h0).1
  have h2 := (Rr.best_fst h0).max q h
  exact ⟨by omega, fun x hx => ⟨(hw.2.1 x hx).1, (hw.2.1 x hx).2.1⟩⟩
set_option maxRecDepth 100000 in
set_option maxHeartbeats 8000000 in
theorem rfew_no (r : Rr) (w : World) (hl : MksAt r.L r.lp w) (hr : MksAt r.R r.rp w) (hok : r.ok = false) :
    Calls Try.prog 21 #[r.val] w fun e w' => e = .returned (.tuple #[.slice none 0 0, .int .i64 0, .int .i64 1]) ∧ Below w.heap.size w w' := by
  have H57 := Lib.hid (fun W (hg : Gr w W) => opn57_no r W (hl.grow hg) (hr.grow hg) true hok)
  clear hl hr hok
  have HB := Lib.hid (Box.fresh w r.cs 26)
  have HG := Lib.hid (show Gr w (w.alloc (Obj.cells r.cs.toArray 26)) from Gr.alloc _ _)
  unfold Rr.cs at HB HG
  unfold Rr.val at *
  obtain ⟨r0, r1, r2, r3, r4⟩ := cells5 HB.out
  have rl := HB.out.lt
  go_enter Try.func21, Try.ntmps21
  go_wp2_with (first | (go_at_call 57; (with_reducible refine (H57.out _ (by first | exact HG.out | exact Gr.tr HG.out (Gr.alloc _ _) | exact Gr.tr HG.out ((Gr.alloc _ _).tr (Gr.alloc _ _)) | exact Gr.tr HG.out (Gr.drew _))).mono ?_); rintro e wo ⟨⟨o, rfl, ho⟩, hb⟩; have HG := Lib.hid (show Gr w wo from by first | exact Gr.tr HG.out hb | exact Gr.tr (HG.out.tr (Gr.alloc _ _)) hb | exact Gr.tr (HG.out.tr ((Gr.alloc _ _).tr (Gr.alloc _ _))) hb | exact Gr.tr (HG.out.tr (Gr.drew _)) hb); have HB := Lib.hid (HB.out.grow (by first | exact hb | exact Gr.tr (Gr.alloc _ _) hb | exact Gr.tr ((Gr.alloc _ _).tr (Gr.alloc _ _)) hb | exact Gr.tr (Gr.drew _) hb)); clear r0 r1 r2 r3 r4 rl; obtain ⟨r0, r1, r2, r3, r4⟩ := cells5 HB.out; have rl := HB.out.lt; obtain ⟨po, co, rfl, -⟩ := id ho; have HO := Lib.hid ho; clear ho; dsimp only; clear hb))
  exact bodyPost_ret (v := .tuple #[.slice none 0 0, .int .i64 0, .int .i64 1]) (by simp [results, Try.f21, go_sem]) rfl ⟨rfl, HG.out⟩
set_option maxRecDepth 100000 in
set_option maxHeartbeats 8000000 in
theorem rfew_zero (r : Rr) (w : World) (hl : MksAt r.L r.lp w) (hr : MksAt r.R r.rp w) (hok : r.ok = true) (hz : r.ways = []) :
    Calls Try.prog 21 #[r.val] w fun e w' => e = .returned (.tuple #[.slice none 0 0, .int .i64 0, .int .i64 4]) ∧ Below w.heap.size w w' := by
  have H57 := Lib.hid (fun W (hg : Gr w W) => opn57_zero r W (hl.grow hg) (hr.grow hg) hok hz)
  clear hl hr hok hz
  have HB := Lib.hid (Box.fresh w r.cs 26)
  have HG := Lib.hid (show Gr w (w.alloc (Obj.cells r.cs.toArray 26)) from Gr.alloc _ _)
  unfold Rr.cs at HB HG
  unfold Rr.val at *
  obtain ⟨r0, r1, r2, r3, r4⟩ := cells5 HB.out
  have rl := HB.out.lt
  go_enter Try.func21, Try.ntmps21
  go_wp2_with (first | (go_at_call 57; (with_reducible refine (H57.out _ (by first | exact HG.out | exact Gr.tr HG.out (Gr.alloc _ _) | exact Gr.tr HG.out ((Gr.alloc _ _).tr (Gr.alloc _ _)) | exact Gr.tr HG.out (Gr.drew _))).mono ?_); rintro e wo ⟨⟨o, rfl, ho⟩, hb⟩; have HG := Lib.hid (show Gr w wo from by first | exact Gr.tr HG.out hb | exact Gr.tr (HG.out.tr (Gr.alloc _ _)) hb | exact Gr.tr (HG.out.tr ((Gr.alloc _ _).tr (Gr.alloc _ _))) hb | exact Gr.tr (HG.out.tr (Gr.drew _)) hb); have HB := Lib.hid (HB.out.grow (by first | exact hb | exact Gr.tr (Gr.alloc _ _) hb | exact Gr.tr ((Gr.alloc _ _).tr (Gr.alloc _ _)) hb | exact Gr.tr (Gr.drew _) hb)); clear r0 r1 r2 r3 r4 rl; obtain ⟨r0, r1, r2, r3, r4⟩ := cells5 HB.out; have rl := HB.out.lt; obtain ⟨po, co, rfl, -⟩ := id ho; have HO := Lib.hid ho; clear ho; dsimp only; clear hb))
  exact bodyPost_ret (v := .tuple #[.slice none 0 0, .int .i64 0, .int .i64 4]) (by simp [results, Try.f21, go_sem]) rfl ⟨rfl, HG.out⟩
set_option maxRecDepth 100000 in
set_option maxHeartbeats 8000000 in
theorem rfew_yes (r : Rr) (w : World) (hl : MksAt r.L r.lp w) (hr : MksAt r.R r.rp w) (hok : r.ok = true) (hz : r.ways ≠ []) (hn : r.ways.length ≤ 1000000) :
    Calls Try.prog 21 #[r.val] w fun e w' => (∃ v, e = .returned (.tuple #[v, .int .i64 ((r.L.length : Int) + r.R.length - 2 * r.best.length), .int .i64 0]) ∧ PrsIn v r.best w') ∧ Below w.heap.size w w' := by
  obtain ⟨p1, p2, -⟩ := Rr.ok_parts hok
  have H57 := Lib.hid (fun W (hg : Gr w W) => opn57_yes r W (hl.grow hg) (hr.grow hg) hok hz hn)
  have HLN := Lib.hid (fun q (hq : q ∈ r.ways) => (Rr.way_len hok hq).1)
  have H58 := Lib.hid (fun W p n c (h : n ≤ 1000) => hidden58_any r p n c W (by omega) (by omega) h)
  unfold Rr.val at H58
  obtain ⟨b0, l0, hw⟩ : ∃ b l, r.ways = b :: l := by
    cases h : r.ways with
    | nil => exact absurd h hz
    | cons b l => exact ⟨b, l, rfl⟩
  have HBS := Lib.hid (show r.best = bst b0 r.ways by unfold Rr.best; rw [hw])
  have HW0 := Lib.hid (show r.ways[0]? = some b0 by rw [hw]; rfl)
  have g0 : (0 : Int) < r.ways.length := by rw [hw]; simp
  have g0n : 0 < r.ways.length := by omega
  have HB0 := Lib.hid (show b0 ∈ r.ways by rw [hw]; simp)
  clear hl hr hok hz hw
  generalize r.ways = ws at *
  have HB := Lib.hid (Box.fresh w r.cs 26)
  have HG := Lib.hid (show Gr w (w.alloc (Obj.cells r.cs.toArray 26)) from Gr.alloc _ _)
  unfold Rr.cs at HB HG
  unfold Rr.val at *
  obtain ⟨r0, r1, r2, r3, r4⟩ := cells5 HB.out
  have rl := HB.out.lt
  go_enter Try.func21, Try.ntmps21
  apply wp_seq_k
  intro K1 hK1
  have HK1 := Lib.hid hK1
  clear hK1
  go_wp2_with fail
  refine HK1.out _ _ ?_
  clear HK1
  apply wp_seq_k
  intro K1 hK1
  have HK1 := Lib.hid hK1
  clear hK1
  go_wp2_with (first | (go_at_call 57; (with_reducible refine (H57.out _ (by first | exact HG.out | exact Gr.tr HG.out (Gr.alloc _ _) | exact Gr.tr HG.out ((Gr.alloc _ _).tr (Gr.alloc _ _)) | exact Gr.tr HG.out (Gr.drew _))).mono ?_); rintro e wo ⟨⟨o, rfl, ho⟩, hb⟩; have HG := Lib.hid (show Gr w wo from by first | exact Gr.tr HG.out hb | exact Gr.tr (HG.out.tr (Gr.alloc _ _)) hb | exact Gr.tr (HG.out.tr ((Gr.alloc _ _).tr (Gr.alloc _ _))) hb | exact Gr.tr (HG.out.tr (Gr.drew _)) hb); have HB := Lib.hid (HB.out.grow (by first | exact hb | exact Gr.tr (Gr.alloc _ _) hb | exact Gr.tr ((Gr.alloc _ _).tr (Gr.alloc _ _)) hb | exact Gr.tr (Gr.drew _) hb)); clear r0 r1 r2 r3 r4 rl; obtain ⟨r0, r1, r2, r3, r4⟩ := cells5 HB.out; have rl := HB.out.lt; obtain ⟨po, co, rfl, -⟩ := id ho; have HO := Lib.hid ho; clear ho; dsimp only; clear hb))
  refine HK1.out _ _ ?_
  clear HK1
  have HAT := Lib.hid (WsIn.at HO.out)
  obtain ⟨bo, pq, cq, hpo, hbo, o1, o2⟩ := HAT.out _ (Gr.same _) 0 b0 HW0.out
  subst hpo
  have HP0 := Lib.hid o2
  clear o2
  go_wp2_with fail
  clear o1 r0 r1 r2 r3 r4 rl
  go_loopw [8, 7] (fun t u wr => ∃ (c : Nat) (p : Option Addr) (n k : Nat), c ≤ ws.length ∧ t = .int .i64 c ∧ u = .slice p n k ∧ n ≤ 10 ∧ Hid (n = (bst b0 (ws.take c)).length) ∧ Hid (PrsIn (.slice p n k) (bst b0 (ws.take c)) wr) ∧ Hid (Gr wo wr)) (fun t _ _ => ((ws.length : Int) - intOf t).toNat)
  case atStart => exact ⟨0, _, _, _, Nat.zero_le _, rfl, rfl, by have := HLN.out b0 HB0.out; omega, Lib.hid rfl, HP0, Lib.hid (Gr.same _)⟩
  case round =>
    obtain ⟨c, p, n, k, hc, rfl, rfl, hn10, HN, HP, HR⟩ := hrel
    by_cases hlt : c < ws.length
    · have g1 : (c : Int) < ws.length := by omega
      obtain ⟨q, hq⟩ : ∃ q, ws[c]? = some q := ⟨_, List.getElem?_eq_getElem hlt⟩
      obtain ⟨bo', pq', cq', hpo, hbo, o1, o2⟩ := HAT.out _ HR.out c q hq
      cases hpo
      have hql := HLN.out q (List.mem_of_getElem? hq)
      have HT := Lib.hid (show bst b0 (ws.take (c + 1)) = if (bst b0 (ws.take c)).length < q.length then q else bst b0 (ws.take c) by rw [take_succ hq, bst_snoc])
      have HP2 := Lib.hid (fun W (h : Gr wr W) => o2.grow h)
      have HQ := Lib.hid hq
      clear o2 hq
      by_cases hlen : n < q.length
      · have e1 : decide ((n : Int) < q.length) = true := by simp; omega
        have HL := Lib.hid hlen
        go_wp2_with fail
        exact ⟨⟨c + 1, _, _, _, by omega, by go_num, rfl, by omega, by rw [HT.out, ← HN.out, if_pos HL.out]; exact Lib.hid rfl, by rw [HT.out, ← HN.out, if_pos HL.out]; exact Lib.hid (HP2.out _ (Gr.same _)), HR⟩, by simp [intOf]; omega⟩
      · have e1 : decide ((n : Int) < q.length) = false := by simp; omega
        have HL := Lib.hid hlen
        go_wp2_with fail
        exact ⟨⟨c + 1, _, _, _, by omega, by go_num, rfl, hn10, by rw [HT.out, ← HN.out, if_neg HL.out]; exact HN, by rw [HT.out, ← HN.out, if_neg HL.out]; exact HP, HR⟩, by simp [intOf]; omega⟩
    · have hcn : c = ws.length := by omega
      subst hcn
      have HX := Lib.hid (HN.out)
      rw [List.take_length] at HP HN
      rw [← HBS.out] at HP HN
      obtain ⟨r0, r1, r2, r3, r4⟩ := cells5 (HB.out.grow HR.out)
      have rl := (HB.out.grow HR.out).lt
      have HG := Lib.hid (HG.out.tr HR.out)
      go_wp2_with (first | (go_at_call 58; (with_reducible refine (H58.out _ _ _ _ (by omega)).mono ?_); rintro e wh ⟨rfl, hb⟩; have HG := Lib.hid (HG.out.tr hb); have HP := Lib.hid (HP.out.grow hb); clear hb; dsimp only))
      exact bodyPost_ret (v := .tuple #[.slice p n k, .int .i64 ((r.L.length : Int) + r.R.length - 2 * n), .int .i64 0]) (by simp [results, Try.f21, go_sem]) rfl ⟨⟨_, by rw [← HN.out], HP.out⟩, HG.out⟩

end Go.Proofs.Ytjlaoiimbhlafaa
