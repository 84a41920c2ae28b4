import Derived.Test.YtjlaoiimbhlafaaJ8
import Derived.Test.YtjlaoiimbhlafaaW1
import Derived.Laws.StructEq
set_option linter.unusedVariables false
set_option linter.unusedSimpArgs false
namespace Go.Proofs.Ytjlaoiimbhlafaa
open Go.RowKit Go.Shelf

open MW
attribute [local go_sem] Oper.semAt_some run_store_func
attribute [local go_sem ↓] Go.wp_at_zero Go.wp_at_succ
theorem lef_snoc (l : List (List (Nat × Nat))) (q : List (Nat × Nat)) (i : Nat) (c : Int) : lef (l ++ [q]) i c = if par q i = c then lef l i c + 1 else lef l i c := by
  unfold lef
  rw [List.countP_append]
  by_cases h : par q i = c
  · simp [h]
  · simp [h]
theorem lef_le (l : List (List (Nat × Nat))) (i : Nat) (c : Int) : lef l i c ≤ l.length := List.countP_le_length
theorem mxl_snoc (f : Nat → Nat) (m : Nat) : mxl f (List.range (m + 1)) = if mxl f (List.range m) < f m then f m else mxl f (List.range m) := by
  unfold mxl
  rw [List.range_succ, List.foldl_append]
  rfl
theorem mxl_bound (f : Nat → Nat) (B : Nat) (h : ∀ k, f k ≤ B) : ∀ m, mxl f (List.range m) ≤ B
  | 0 => Nat.zero_le _
  | m + 1 => by
    rw [mxl_snoc]
    split
    · exact h m
    · exact mxl_bound f B h m
theorem fstMin_le2 (f : Nat → Nat) (top : Nat) : ∀ n, (fstMin f top n).2 ≤ top ∧ (fstMin f top n).1 ≤ n
  | 0 => ⟨Nat.le_refl _, Nat.le_refl _⟩
  | n + 1 => by
    have := fstMin_le2 f top n
    rw [fstMin_succ]
    split
    · exact ⟨by omega, by omega⟩
    · exact ⟨this.1, by omega⟩
set_option maxRecDepth 100000 in
set_option maxHeartbeats 8000000 in
theorem left74_any (o : Value) (l : List (List (Nat × Nat))) (i : Nat) (c : Int) (w : World) (h : WsIn o l w) (hn : l.length ≤ 1000000) (hl : ∀ q ∈ l, q.length ≤ 1000 ∧ ∀ x ∈ q, x.1 < 1000 ∧ x.2 < 1000) :
    Calls Try.prog 74 #[o, .int .i64 i, .int .i64 c] w fun e w' => e = .returned (.int .i64 (lef l i c : Nat)) ∧ Below w.heap.size w w' := by
  obtain ⟨po, co, rfl, -⟩ := id h
  have HAT := Lib.hid (WsIn.at h)
  have HLN := Lib.hid hl
  clear h hl
  go_enter Try.func74, Try.ntmps74
  go_wp2_with fail
  go_loopw [8, 7] (fun t u wr => ∃ k n : Nat, k ≤ l.length ∧ t = .int .i64 k ∧ u = .int .i64 n ∧ n ≤ k ∧ Hid (n = lef (l.take k) i c) ∧ Hid (Gr w wr)) (fun t _ _ => ((l.length : Int) - intOf t).toNat)
  case atStart => exact ⟨0, 0, Nat.zero_le _, rfl, rfl, Nat.le_refl _, Lib.hid rfl, Lib.hid (Gr.same _)⟩
  case round =>
    obtain ⟨k, n, hk, rfl, rfl, hnk, HN, HR⟩ := hrel
    by_cases hlt : k < l.length
    · have g1 : (k : Int) < l.length := by omega
      obtain ⟨q, hq⟩ : ∃ q, l[k]? = some q := ⟨_, List.getElem?_eq_getElem hlt⟩
      obtain ⟨bo, pq, cq, hpo, hbo, o1, o2⟩ := HAT.out _ HR.out k q hq
      subst hpo
      have hqm := HLN.out q (List.mem_of_getElem? hq)
      have H62 := Lib.hid (partner62_any _ q i _ o2 hqm.1 hqm.2)
      have HS := Lib.hid (show lef (l.take (k + 1)) i c = if par q i = c then n + 1 else n by rw [take_succ hq, lef_snoc, HN.out])
      clear hq hqm o2
      by_cases hp : par q i = c
      · have e1 : (par q i == c) = true := by rw [beq_iff_eq]; exact hp
        have HS2 := Lib.hid (show n + 1 = lef (l.take (k + 1)) i c by rw [HS.out, if_pos hp])
        clear hp HS
        generalize par q i = pv' at *
        go_wp2_with (first | (go_at_call 62; (with_reducible refine (H62.out).mono ?_); rintro e w6 ⟨rfl, hb⟩; have HR6 := Lib.hid (HR.out.tr hb); clear hb o1; dsimp only))
        exact ⟨⟨k + 1, n + 1, by omega, by go_num, by go_num, by omega, HS2, HR6⟩, by simp [intOf]; omega⟩
      · have e1 : (par q i == c) = false := by rw [beq_eq_false_iff_ne]; exact hp
        have HS2 := Lib.hid (show n = lef (l.take (k + 1)) i c by rw [HS.out, if_neg hp])
        have e2 : ¬ par q i = c := hp
        clear hp HS
        generalize par q i = pv' at *
        go_wp2_with (first | (go_at_call 62; (with_reducible refine (H62.out).mono ?_); rintro e w6 ⟨rfl, hb⟩; have HR6 := Lib.hid (HR.out.tr hb); clear hb o1; dsimp only))
        exact ⟨⟨k + 1, n, by omega, by go_num, rfl, by omega, HS2, HR6⟩, by simp [intOf]; omega⟩
    · have hkn : k = l.length := by omega
      subst hkn
      rw [List.take_length] at HN
      go_wp2_with fail
      go_ret
      exact ⟨by rw [← HN.out]; rfl, HR.out⟩
set_option maxRecDepth 100000 in
set_option maxHeartbeats 8000000 in
theorem rask_no (r : Rr) (w : World) (hl : MksAt r.L r.lp w) (hr : MksAt r.R r.rp w) (hok : r.ok = false) :
    Calls Try.prog 33 #[r.val] w fun e w' => e = .returned (.tuple #[.int .i64 0, .int .i64 0, .int .i64 1]) ∧ Below w.heap.size w w' := by
  have H57 := Lib.hid (fun W (hg : Gr w W) => opn57_no r W (hl.grow hg) (hr.grow hg) true hok)
  clear hl hr hok
  have HB := Lib.hid (Box.fresh w r.cs 26)
  have HG := Lib.hid (show Gr w (w.alloc (Obj.cells r.cs.toArray 26)) from Gr.alloc _ _)
  unfold Rr.cs at HB HG
  unfold Rr.val at *
  obtain ⟨r0, r1, r2, r3, r4⟩ := cells5 HB.out
  have rl := HB.out.lt
  go_enter Try.func33, Try.ntmps33
  go_wp2_with (first | (go_at_call 57; (with_reducible refine (H57.out _ (by first | exact HG.out | exact Gr.tr HG.out (Gr.alloc _ _) | exact Gr.tr HG.out ((Gr.alloc _ _).tr (Gr.alloc _ _)) | exact Gr.tr HG.out (Gr.drew _))).mono ?_); rintro e wo ⟨⟨o, rfl, ho⟩, hb⟩; have HG := Lib.hid (show Gr w wo from by first | exact Gr.tr HG.out hb | exact Gr.tr (HG.out.tr (Gr.alloc _ _)) hb | exact Gr.tr (HG.out.tr ((Gr.alloc _ _).tr (Gr.alloc _ _))) hb | exact Gr.tr (HG.out.tr (Gr.drew _)) hb); have HB := Lib.hid (HB.out.grow (by first | exact hb | exact Gr.tr (Gr.alloc _ _) hb | exact Gr.tr ((Gr.alloc _ _).tr (Gr.alloc _ _)) hb | exact Gr.tr (Gr.drew _) hb)); clear r0 r1 r2 r3 r4 rl; obtain ⟨r0, r1, r2, r3, r4⟩ := cells5 HB.out; have rl := HB.out.lt; obtain ⟨po, co, rfl, -⟩ := id ho; have HO := Lib.hid ho; clear ho; dsimp only; clear hb))
  exact bodyPost_ret (v := .tuple #[.int .i64 0, .int .i64 0, .int .i64 1]) (by simp [results, Try.f33, go_sem]) rfl ⟨rfl, HG.out⟩
set_option maxRecDepth 100000 in
set_option maxHeartbeats 8000000 in
theorem rask_zero (r : Rr) (w : World) (hl : MksAt r.L r.lp w) (hr : MksAt r.R r.rp w) (hok : r.ok = true) (hz : r.ways = []) :
    Calls Try.prog 33 #[r.val] w fun e w' => e = .returned (.tuple #[.int .i64 0, .int .i64 0, .int .i64 4]) ∧ Below w.heap.size w w' := by
  have H57 := Lib.hid (fun W (hg : Gr w W) => opn57_zero r W (hl.grow hg) (hr.grow hg) hok hz)
  clear hl hr hok hz
  have HB := Lib.hid (Box.fresh w r.cs 26)
  have HG := Lib.hid (show Gr w (w.alloc (Obj.cells r.cs.toArray 26)) from Gr.alloc _ _)
  unfold Rr.cs at HB HG
  unfold Rr.val at *
  obtain ⟨r0, r1, r2, r3, r4⟩ := cells5 HB.out
  have rl := HB.out.lt
  go_enter Try.func33, Try.ntmps33
  go_wp2_with (first | (go_at_call 57; (with_reducible refine (H57.out _ (by first | exact HG.out | exact Gr.tr HG.out (Gr.alloc _ _) | exact Gr.tr HG.out ((Gr.alloc _ _).tr (Gr.alloc _ _)) | exact Gr.tr HG.out (Gr.drew _))).mono ?_); rintro e wo ⟨⟨o, rfl, ho⟩, hb⟩; have HG := Lib.hid (show Gr w wo from by first | exact Gr.tr HG.out hb | exact Gr.tr (HG.out.tr (Gr.alloc _ _)) hb | exact Gr.tr (HG.out.tr ((Gr.alloc _ _).tr (Gr.alloc _ _))) hb | exact Gr.tr (HG.out.tr (Gr.drew _)) hb); have HB := Lib.hid (HB.out.grow (by first | exact hb | exact Gr.tr (Gr.alloc _ _) hb | exact Gr.tr ((Gr.alloc _ _).tr (Gr.alloc _ _)) hb | exact Gr.tr (Gr.drew _) hb)); clear r0 r1 r2 r3 r4 rl; obtain ⟨r0, r1, r2, r3, r4⟩ := cells5 HB.out; have rl := HB.out.lt; obtain ⟨po, co, rfl, -⟩ := id ho; have HO := Lib.hid ho; clear ho; dsimp only; clear hb))
  exact bodyPost_ret (v := .tuple #[.int .i64 0, .int .i64 0, .int .i64 4]) (by simp [results, Try.f33, go_sem]) rfl ⟨rfl, HG.out⟩
set_option maxRecDepth 100000 in
set_option maxHeartbeats 8000000 in
theorem rask_one (r : Rr) (w : World) (hl : MksAt r.L r.lp w) (hr : MksAt r.R r.rp w) (hok : r.ok = true) (hz : r.ways ≠ []) (hn : r.ways.length ≤ 1000000) (h1 : r.ways.length = 1) :
    Calls Try.prog 33 #[r.val] w fun e w' => e = .returned (.tuple #[.int .i64 0, .int .i64 0, .int .i64 4]) ∧ Below w.heap.size w w' := by
  have H57 := Lib.hid (fun W (hg : Gr w W) => opn57_yes r W (hl.grow hg) (hr.grow hg) hok hz hn)
  clear hl hr hok hz hn
  generalize hws : r.ways = ws at *
  have e1 : ((ws.length : Int) == 1) = true := by rw [beq_iff_eq]; omega
  clear hws
  have HB := Lib.hid (Box.fresh w r.cs 26)
  have HG := Lib.hid (show Gr w (w.alloc (Obj.cells r.cs.toArray 26)) from Gr.alloc _ _)
  unfold Rr.cs at HB HG
  unfold Rr.val at *
  obtain ⟨r0, r1, r2, r3, r4⟩ := cells5 HB.out
  have rl := HB.out.lt
  go_enter Try.func33, Try.ntmps33
  go_wp2_with (first | (go_at_call 57; (with_reducible refine (H57.out _ (by first | exact HG.out | exact Gr.tr HG.out (Gr.alloc _ _) | exact Gr.tr HG.out ((Gr.alloc _ _).tr (Gr.alloc _ _)) | exact Gr.tr HG.out (Gr.drew _))).mono ?_); rintro e wo ⟨⟨o, rfl, ho⟩, hb⟩; have HG := Lib.hid (show Gr w wo from by first | exact Gr.tr HG.out hb | exact Gr.tr (HG.out.tr (Gr.alloc _ _)) hb | exact Gr.tr (HG.out.tr ((Gr.alloc _ _).tr (Gr.alloc _ _))) hb | exact Gr.tr (HG.out.tr (Gr.drew _)) hb); have HB := Lib.hid (HB.out.grow (by first | exact hb | exact Gr.tr (Gr.alloc _ _) hb | exact Gr.tr ((Gr.alloc _ _).tr (Gr.alloc _ _)) hb | exact Gr.tr (Gr.drew _) hb)); clear r0 r1 r2 r3 r4 rl; obtain ⟨r0, r1, r2, r3, r4⟩ := cells5 HB.out; have rl := HB.out.lt; obtain ⟨po, co, rfl, -⟩ := id ho; have HO := Lib.hid ho; clear ho; dsimp only; clear hb))
  exact bodyPost_ret (v := .tuple #[.int .i64 0, .int .i64 0, .int .i64 4]) (by simp [results, Try.f33, go_sem]) rfl ⟨rfl, HG.out⟩
set_option maxRecDepth 100000 in
set_option maxHeartbeats 8000000 in
theorem rask_yes (r : Rr) (w : World) (hl : MksAt r.L r.lp w) (hr : MksAt r.R r.rp w) (hok : r.ok = true) (hz : r.ways ≠ []) (hn : r.ways.length ≤ 1000000) (h1 : r.ways.length ≠ 1) {bm : Nat × Nat} (hbm : bm = fstMin (fun i => mxl (fun k => lef r.ways i ((k : Int) - 1)) (List.range (r.R.length + 1))) (r.ways.length + 1) r.L.length) :
    Calls Try.prog 33 #[r.val] w fun e w' => e = .returned (.tuple #[.int .i64 bm.1, .int .i64 bm.2, .int .i64 0]) ∧ Below w.heap.size w w' := by
  obtain ⟨b1, b2, -⟩ := Rr.ok_parts hok
  have H57 := Lib.hid (fun W (hg : Gr w W) => opn57_yes r W (hl.grow hg) (hr.grow hg) hok hz hn)
  have HLN := Lib.hid (fun q (hq : q ∈ r.ways) => show q.length ≤ 1000 ∧ ∀ x ∈ q, x.1 < 1000 ∧ x.2 < 1000 from ⟨by have := (Rr.way_len hok hq).1; omega, fun x hx => by have := (Rr.way_len hok hq).2 x hx; omega⟩)
  clear hl hr hok hz
  generalize r.ways = ws at *
  have e1 : ((ws.length : Int) == 1) = false := by rw [beq_eq_false_iff_ne]; omega
  have HBM := Lib.hid hbm
  have hb1 := (fstMin_le2 (fun i => mxl (fun k => lef ws i ((k : Int) - 1)) (List.range (r.R.length + 1))) (ws.length + 1) r.L.length)
  have HLE := Lib.hid (lef_le ws)
  clear hbm
  have HB := Lib.hid (Box.fresh w r.cs 26)
  have HG := Lib.hid (show Gr w (w.alloc (Obj.cells r.cs.toArray 26)) from Gr.alloc _ _)
  unfold Rr.cs at HB HG
  unfold Rr.val at *
  obtain ⟨r0, r1, r2, r3, r4⟩ := cells5 HB.out
  have rl := HB.out.lt
  go_enter Try.func33, Try.ntmps33
  apply wp_seq_k
  intro K1 hK1
  have HK1 := Lib.hid hK1
  clear hK1
  go_wp2_with fail
  refine HK1.out _ _ ?_
  clear HK1
  apply wp_seq_k
  intro K1 hK1
  have HK1 := Lib.hid hK1
  clear hK1
  go_wp2_with (first | (go_at_call 57; (with_reducible refine (H57.out _ (by first | exact HG.out | exact Gr.tr HG.out (Gr.alloc _ _) | exact Gr.tr HG.out ((Gr.alloc _ _).tr (Gr.alloc _ _)) | exact Gr.tr HG.out (Gr.drew _))).mono ?_); rintro e wo ⟨⟨o, rfl, ho⟩, hb⟩; have HG := Lib.hid (show Gr w wo from by first | exact Gr.tr HG.out hb | exact Gr.tr (HG.out.tr (Gr.alloc _ _)) hb | exact Gr.tr (HG.out.tr ((Gr.alloc _ _).tr (Gr.alloc _ _))) hb | exact Gr.tr (HG.out.tr (Gr.drew _)) hb); have HB := Lib.hid (HB.out.grow (by first | exact hb | exact Gr.tr (Gr.alloc _ _) hb | exact Gr.tr ((Gr.alloc _ _).tr (Gr.alloc _ _)) hb | exact Gr.tr (Gr.drew _) hb)); clear r0 r1 r2 r3 r4 rl; obtain ⟨r0, r1, r2, r3, r4⟩ := cells5 HB.out; have rl := HB.out.lt; obtain ⟨po, co, rfl, -⟩ := id ho; have HO := Lib.hid ho; clear ho; dsimp only; clear hb))
  refine HK1.out _ _ ?_
  clear HK1
  have H74B := Lib.hid (fun i c W (h : Gr wo W) => left74_any _ ws i c W (HO.out.grow h) hn HLN.out)
  have HGO := Lib.hid HG.out
  go_wp2_with fail
  clear r0 r1 r2 r3 r4 rl
  go_loopw [9, 7, 8] (fun t u v wr => ∃ (i : Nat) (bm : Nat × Nat), i ≤ r.L.length ∧ t = .int .i64 i ∧ u = .int .i64 bm.1 ∧ v = .int .i64 bm.2 ∧ Hid (bm = fstMin (fun i => mxl (fun k => lef ws i ((k : Int) - 1)) (List.range (r.R.length + 1))) (ws.length + 1) i) ∧ Hid (Gr wo wr)) (fun t _ _ _ => (20 - intOf t).toNat)
  case atStart => exact ⟨0, (0, ws.length + 1), Nat.zero_le _, rfl, rfl, by go_num, Lib.hid rfl, Lib.hid (Gr.same _)⟩
  case round =>
    obtain ⟨i, bm', hi, rfl, rfl, rfl, HBI, HR⟩ := hrel
    obtain ⟨bi, bn⟩ := bm'
    obtain ⟨r0, r1, r2, r3, r4⟩ := cells5 (HB.out.grow HR.out)
    have rl := (HB.out.grow HR.out).lt
    by_cases hlt : i < r.L.length
    · have g1 : (i : Int) < r.L.length := by omega
      have HNX := Lib.hid (fstMin_succ (fun i => mxl (fun k => lef ws i ((k : Int) - 1)) (List.range (r.R.length + 1))) (ws.length + 1) i)
      go_wp2_with fail
      clear r0 r1 r2 r3 r4 rl
      go_loopw [11, 10] (fun t u wr => ∃ m n : Nat, m ≤ r.R.length + 1 ∧ t = .int .i64 ((m : Int) - 1) ∧ u = .int .i64 n ∧ Hid (n = mxl (fun k => lef ws i ((k : Int) - 1)) (List.range m)) ∧ Hid (Gr wo wr)) (fun t _ _ => (20 - intOf t).toNat)
      case atStart => exact ⟨0, 0, Nat.zero_le _, by go_num, rfl, Lib.hid rfl, HR⟩
      case round =>
        clear HR
        obtain ⟨m, n, hm, rfl, rfl, HM, HR⟩ := hrel
        obtain ⟨r0, r1, r2, r3, r4⟩ := cells5 (HB.out.grow HR.out)
        have rl := (HB.out.grow HR.out).lt
        have hnb := mxl_bound (fun k => lef ws i ((k : Int) - 1)) ws.length (fun k => HLE.out i _) m
        rw [← HM.out] at hnb
        by_cases hlm : m ≤ r.R.length
        · have g2 : (m : Int) - 1 < r.R.length := by omega
          have H74 := Lib.hid (fun W h => H74B.out i ((m : Int) - 1) W h)
          have HSN := Lib.hid (show mxl (fun k => lef ws i ((k : Int) - 1)) (List.range (m + 1)) = if n < lef ws i ((m : Int) - 1) then lef ws i ((m : Int) - 1) else n by rw [mxl_snoc, HM.out])
          have hle := HLE.out i ((m : Int) - 1)
          generalize lef ws i ((m : Int) - 1) = lf' at *
          by_cases hlf : n < lf'
          · have e2 : decide ((n : Int) < lf') = true := by simp; omega
            have HS2 := Lib.hid (show lf' = mxl (fun k => lef ws i ((k : Int) - 1)) (List.range (m + 1)) by rw [HSN.out, if_pos hlf])
            clear HSN
            go_wp2_with (first | (go_at_call 74; (with_reducible refine (H74.out _ HR.out).mono ?_); rintro e w6 ⟨rfl, hb⟩; have HR6 := Lib.hid (HR.out.tr hb); clear hb; dsimp only))
            exact ⟨⟨m + 1, lf', by omega, by go_num, rfl, HS2, HR6⟩, by simp [intOf]; omega⟩
          · have e2 : decide ((n : Int) < lf') = false := by simp; omega
            have HS2 := Lib.hid (show n = mxl (fun k => lef ws i ((k : Int) - 1)) (List.range (m + 1)) by rw [HSN.out, if_neg hlf])
            clear HSN
            go_wp2_with (first | (go_at_call 74; (with_reducible refine (H74.out _ HR.out).mono ?_); rintro e w6 ⟨rfl, hb⟩; have HR6 := Lib.hid (HR.out.tr hb); clear hb; dsimp only))
            exact ⟨⟨m + 1, n, by omega, by go_num, rfl, HS2, HR6⟩, by simp [intOf]; omega⟩
        · have hmn : m = r.R.length + 1 := by omega
          subst hmn
          have g2 : ¬ ((r.R.length + 1 : Nat) : Int) - 1 < r.R.length := by omega
          have HNY := Lib.hid (show fstMin (fun i => mxl (fun k => lef ws i ((k : Int) - 1)) (List.range (r.R.length + 1))) (ws.length + 1) (i + 1) = if n < bn then (i, n) else (bi, bn) by
            rw [HNX.out, ← HBI.out]
            show (if mxl (fun k => lef ws i ((k : Int) - 1)) (List.range (r.R.length + 1)) < bn then (i, mxl (fun k => lef ws i ((k : Int) - 1)) (List.range (r.R.length + 1))) else (bi, bn)) = _
            rw [← HM.out])
          clear HNX HM
          by_cases hlb : n < bn
          · have e2 : decide ((n : Int) < bn) = true := by simp; omega
            have HS2 := Lib.hid (show (i, n) = fstMin (fun i => mxl (fun k => lef ws i ((k : Int) - 1)) (List.range (r.R.length + 1))) (ws.length + 1) (i + 1) by rw [HNY.out, if_pos hlb])
            clear HNY
            go_wp2_with fail
            exact ⟨⟨i + 1, (i, n), by omega, by go_num, rfl, rfl, HS2, HR⟩, by simp [intOf]; omega⟩
          · have e2 : decide ((n : Int) < bn) = false := by simp; omega
            have HS2 := Lib.hid (show (bi, bn) = fstMin (fun i => mxl (fun k => lef ws i ((k : Int) - 1)) (List.range (r.R.length + 1))) (ws.length + 1) (i + 1) by rw [HNY.out, if_neg hlb])
            clear HNY
            go_wp2_with fail
            exact ⟨⟨i + 1, (bi, bn), by omega, by go_num, rfl, rfl, HS2, HR⟩, by simp [intOf]; omega⟩
    · have hin : i = r.L.length := by omega
      subst hin
      rw [← HBM.out] at HBI
      go_wp2_with fail
      exact bodyPost_ret (v := .tuple #[.int .i64 bi, .int .i64 bn, .int .i64 0]) (by simp [results, Try.f33, go_sem]) rfl ⟨by rw [← HBI.out], HGO.out.tr HR.out⟩

end Go.Proofs.Ytjlaoiimbhlafaa
