import Derived.Test.YtjlaoiimbhlafaaJ9
import Derived.Test.YtjlaoiimbhlafaaW1
import Derived.Laws.StructEq
set_option linter.unusedVariables false
set_option linter.unusedSimpArgs false
namespace Go.Proofs.Ytjlaoiimbhlafaa
open Go.RowKit Go.Shelf

open MW
attribute [local go_sem] Oper.semAt_some run_store_func
attribute [local go_sem ↓] Go.wp_at_zero Go.wp_at_succ
/-- What the specification gathers of a way, and of all. -/
def hlW (q : List (Nat × Nat)) : Nat → Nat → Nat
  | 0, s => s
  | n + 1, s => if par q n = -1 then wi (hlW q n s) n else hlW q n s
def snW (p : List (Nat × Nat)) : Nat := p.foldl (fun s x => wi s x.2) 0
def hrW (t : Nat) : Nat → Nat → Nat
  | 0, s => s
  | n + 1, s => if t.testBit n = false then wi (hrW t n s) n else hrW t n s
def hlS (nL : Nat) (l : List (List (Nat × Nat))) (s : Nat) : Nat := l.foldl (fun s q => hlW q nL s) s
def hrS (nR : Nat) (l : List (List (Nat × Nat))) (s : Nat) : Nat := l.foldl (fun s q => hrW (snW q) nR s) s
theorem hlS_snoc (nL : Nat) (l : List (List (Nat × Nat))) (q : List (Nat × Nat)) (s : Nat) : hlS nL (l ++ [q]) s = hlW q nL (hlS nL l s) := by
  unfold hlS; rw [List.foldl_append]; rfl
theorem hrS_snoc (nR : Nat) (l : List (List (Nat × Nat))) (q : List (Nat × Nat)) (s : Nat) : hrS nR (l ++ [q]) s = hrW (snW q) nR (hrS nR l s) := by
  unfold hrS; rw [List.foldl_append]; rfl
theorem snW_snoc (p : List (Nat × Nat)) (x : Nat × Nat) : snW (p ++ [x]) = wi (snW p) x.2 := by
  unfold snW; rw [List.foldl_append]; rfl
theorem wi_bit (s n k : Nat) : (wi s n).testBit k = (s.testBit k || decide (n = k)) := by
  rw [wi_or, Nat.testBit_or, Nat.testBit_two_pow]
theorem hlW_bit (q : List (Nat × Nat)) (k s : Nat) : ∀ n, (hlW q n s).testBit k = (s.testBit k || (decide (k < n) && decide (par q k = -1)))
  | 0 => by simp [hlW]
  | n + 1 => by
    unfold hlW
    by_cases hkn : n = k
    · subst hkn
      by_cases h : par q n = -1
      · rw [if_pos h, wi_bit, hlW_bit q n s n]; simp [h]
      · rw [if_neg h, hlW_bit q n s n]; simp [h]
    · have e : decide (k < n + 1) = decide (k < n) := by rw [decide_eq_decide]; omega
      rw [e]
      split
      · rw [wi_bit, hlW_bit q k s n, decide_eq_false hkn, Bool.or_false]
      · exact hlW_bit q k s n
theorem hrW_bit (t k s : Nat) : ∀ n, (hrW t n s).testBit k = (s.testBit k || (decide (k < n) && !t.testBit k))
  | 0 => by simp [hrW]
  | n + 1 => by
    unfold hrW
    by_cases hkn : n = k
    · subst hkn
      by_cases h : t.testBit n = false
      · rw [if_pos h, wi_bit, hrW_bit t n s n]; simp [h]
      · rw [if_neg h, hrW_bit t n s n]
        have h' : t.testBit n = true := by simpa using h
        simp [h']
    · have e : decide (k < n + 1) = decide (k < n) := by rw [decide_eq_decide]; omega
      rw [e]
      split
      · rw [wi_bit, hrW_bit t k s n, decide_eq_false hkn, Bool.or_false]
      · exact hrW_bit t k s n
theorem snW_bit (k : Nat) : ∀ (p : List (Nat × Nat)) (s : Nat), (p.foldl (fun s x => wi s x.2) s).testBit k = (s.testBit k || p.any fun x => decide (x.2 = k))
  | [], s => by simp
  | x :: p, s => by rw [List.foldl_cons, snW_bit k p, wi_bit, List.any_cons, Bool.or_assoc]
theorem hlS_bit (nL k : Nat) : ∀ (l : List (List (Nat × Nat))) (s : Nat), (hlS nL l s).testBit k = (s.testBit k || (decide (k < nL) && l.any fun p => decide (par p k = -1)))
  | [], s => by simp [hlS]
  | q :: l, s => by
    show (hlS nL l (hlW q nL s)).testBit k = _
    rw [hlS_bit nL k l, hlW_bit, List.any_cons]
    cases s.testBit k <;> cases decide (k < nL) <;> simp
theorem hrS_bit (nR k : Nat) : ∀ (l : List (List (Nat × Nat))) (s : Nat), (hrS nR l s).testBit k = (s.testBit k || (decide (k < nR) && l.any fun p => decide (∀ x ∈ p, x.2 ≠ k)))
  | [], s => by simp [hrS]
  | q :: l, s => by
    show (hrS nR l (hrW (snW q) nR s)).testBit k = _
    have e : (!(snW q).testBit k) = decide (∀ x ∈ q, x.2 ≠ k) := by
      unfold snW
      rw [snW_bit, Nat.zero_testBit, Bool.false_or, Bool.eq_iff_iff]
      simp
    rw [hrS_bit nR k l, hrW_bit, e, List.any_cons]
    cases s.testBit k <;> cases decide (k < nR) <;> simp
theorem lt_of_bits {s n : Nat} (h : ∀ k, n ≤ k → s.testBit k = false) : s < 2 ^ n := by
  apply Nat.lt_of_not_le
  intro hn
  obtain ⟨k, hk, hb⟩ := Nat.exists_ge_and_testBit_of_ge_two_pow hn
  rw [h k hk] at hb
  cases hb
theorem hlS_lt (nL : Nat) (l : List (List (Nat × Nat))) : hlS nL l 0 < 2 ^ nL := lt_of_bits fun k hk => by
  rw [hlS_bit, decide_eq_false (by omega)]; simp
theorem hrS_lt (nR : Nat) (l : List (List (Nat × Nat))) : hrS nR l 0 < 2 ^ nR := lt_of_bits fun k hk => by
  rw [hrS_bit, decide_eq_false (by omega)]; simp
theorem hlW_lt (q : List (Nat × Nat)) (s n nL : Nat) (hs : s < 2 ^ nL) (hn : n ≤ nL) : hlW q n s < 2 ^ nL := lt_of_bits fun k hk => by
  rw [hlW_bit, decide_eq_false (by omega), Nat.testBit_lt_two_pow (Nat.lt_of_lt_of_le hs (Nat.pow_le_pow_right (by omega) hk))]; rfl
theorem hrW_lt (t s n nR : Nat) (hs : s < 2 ^ nR) (hn : n ≤ nR) : hrW t n s < 2 ^ nR := lt_of_bits fun k hk => by
  rw [hrW_bit, decide_eq_false (by omega), Nat.testBit_lt_two_pow (Nat.lt_of_lt_of_le hs (Nat.pow_le_pow_right (by omega) hk))]; rfl
theorem snW_lt (p : List (Nat × Nat)) (nR : Nat) (h : ∀ x ∈ p, x.2 < nR) : snW p < 2 ^ nR := lt_of_bits fun k hk => by
  unfold snW
  rw [snW_bit, Nat.zero_testBit, Bool.false_or, List.any_eq_false]
  intro x hx
  have := h x hx
  simp
  omega
theorem Rr.hlS_is {r : Rr} (h : r.ok = true) : hlS r.L.length r.ways 0 = r.hdL := by
  apply Nat.eq_of_testBit_eq
  intro k
  rw [hlS_bit, Rr.hdL_bit h, Nat.zero_testBit, Bool.false_or]
  congr 2
  funext p
  rw [decide_eq_decide]
  exact par_none
theorem Rr.hrS_is {r : Rr} (h : r.ok = true) : hrS r.R.length r.ways 0 = r.hdR := by
  apply Nat.eq_of_testBit_eq
  intro k
  rw [hrS_bit, Rr.hdR_bit h, Nat.zero_testBit, Bool.false_or]
set_option maxRecDepth 100000 in
set_option maxHeartbeats 8000000 in
theorem rhid_no (r : Rr) (w : World) (hl : MksAt r.L r.lp w) (hr : MksAt r.R r.rp w) (hok : r.ok = false) :
    Calls Try.prog 28 #[r.val] w fun e w' => e = .returned (.tuple #[.int .i64 0, .int .i64 0, .int .i64 1]) ∧ Below w.heap.size w w' := by
  have H57 := Lib.hid (fun W (hg : Gr w W) => opn57_no r W (hl.grow hg) (hr.grow hg) true hok)
  clear hl hr hok
  have HB := Lib.hid (Box.fresh w r.cs 26)
  have HG := Lib.hid (show Gr w (w.alloc (Obj.cells r.cs.toArray 26)) from Gr.alloc _ _)
  unfold Rr.cs at HB HG
  unfold Rr.val at *
  obtain ⟨r0, r1, r2, r3, r4⟩ := cells5 HB.out
  have rl := HB.out.lt
  go_enter Try.func28, Try.ntmps28
  go_wp2_with (first | (go_at_call 57; (with_reducible refine (H57.out _ (by first | exact HG.out | exact Gr.tr HG.out (Gr.alloc _ _) | exact Gr.tr HG.out ((Gr.alloc _ _).tr (Gr.alloc _ _)) | exact Gr.tr HG.out (Gr.drew _))).mono ?_); rintro e wo ⟨⟨o, rfl, ho⟩, hb⟩; have HG := Lib.hid (show Gr w wo from by first | exact Gr.tr HG.out hb | exact Gr.tr (HG.out.tr (Gr.alloc _ _)) hb | exact Gr.tr (HG.out.tr ((Gr.alloc _ _).tr (Gr.alloc _ _))) hb | exact Gr.tr (HG.out.tr (Gr.drew _)) hb); have HB := Lib.hid (HB.out.grow (by first | exact hb | exact Gr.tr (Gr.alloc _ _) hb | exact Gr.tr ((Gr.alloc _ _).tr (Gr.alloc _ _)) hb | exact Gr.tr (Gr.drew _) hb)); clear r0 r1 r2 r3 r4 rl; obtain ⟨r0, r1, r2, r3, r4⟩ := cells5 HB.out; have rl := HB.out.lt; obtain ⟨po, co, rfl, -⟩ := id ho; have HO := Lib.hid ho; clear ho; dsimp only; clear hb))
  exact bodyPost_ret (v := .tuple #[.int .i64 0, .int .i64 0, .int .i64 1]) (by simp [results, Try.f28, go_sem]) rfl ⟨rfl, HG.out⟩
set_option maxRecDepth 100000 in
set_option maxHeartbeats 8000000 in
theorem rhid_zero (r : Rr) (w : World) (hl : MksAt r.L r.lp w) (hr : MksAt r.R r.rp w) (hok : r.ok = true) (hz : r.ways = []) :
    Calls Try.prog 28 #[r.val] w fun e w' => e = .returned (.tuple #[.int .i64 0, .int .i64 0, .int .i64 4]) ∧ Below w.heap.size w w' := by
  have H57 := Lib.hid (fun W (hg : Gr w W) => opn57_zero r W (hl.grow hg) (hr.grow hg) hok hz)
  clear hl hr hok hz
  have HB := Lib.hid (Box.fresh w r.cs 26)
  have HG := Lib.hid (show Gr w (w.alloc (Obj.cells r.cs.toArray 26)) from Gr.alloc _ _)
  unfold Rr.cs at HB HG
  unfold Rr.val at *
  obtain ⟨r0, r1, r2, r3, r4⟩ := cells5 HB.out
  have rl := HB.out.lt
  go_enter Try.func28, Try.ntmps28
  go_wp2_with (first | (go_at_call 57; (with_reducible refine (H57.out _ (by first | exact HG.out | exact Gr.tr HG.out (Gr.alloc _ _) | exact Gr.tr HG.out ((Gr.alloc _ _).tr (Gr.alloc _ _)) | exact Gr.tr HG.out (Gr.drew _))).mono ?_); rintro e wo ⟨⟨o, rfl, ho⟩, hb⟩; have HG := Lib.hid (show Gr w wo from by first | exact Gr.tr HG.out hb | exact Gr.tr (HG.out.tr (Gr.alloc _ _)) hb | exact Gr.tr (HG.out.tr ((Gr.alloc _ _).tr (Gr.alloc _ _))) hb | exact Gr.tr (HG.out.tr (Gr.drew _)) hb); have HB := Lib.hid (HB.out.grow (by first | exact hb | exact Gr.tr (Gr.alloc _ _) hb | exact Gr.tr ((Gr.alloc _ _).tr (Gr.alloc _ _)) hb | exact Gr.tr (Gr.drew _) hb)); clear r0 r1 r2 r3 r4 rl; obtain ⟨r0, r1, r2, r3, r4⟩ := cells5 HB.out; have rl := HB.out.lt; obtain ⟨po, co, rfl, -⟩ := id ho; have HO := Lib.hid ho; clear ho; dsimp only; clear hb))
  exact bodyPost_ret (v := .tuple #[.int .i64 0, .int .i64 0, .int .i64 4]) (by simp [results, Try.f28, go_sem]) rfl ⟨rfl, HG.out⟩
set_option maxRecDepth 100000 in
set_option maxHeartbeats 8000000 in
theorem rhid_yes (r : Rr) (w : World) (hl : MksAt r.L r.lp w) (hr : MksAt r.R r.rp w) (hok : r.ok = true) (hz : r.ways ≠ []) (hn : r.ways.length ≤ 1000000) :
    Calls Try.prog 28 #[r.val] w fun e w' => e = .returned (.tuple #[.int .i64 r.hdL, .int .i64 r.hdR, .int .i64 0]) ∧ Below w.heap.size w w' := by
  obtain ⟨b1, b2, -⟩ := Rr.ok_parts hok
  have H57 := Lib.hid (fun W (hg : Gr w W) => opn57_yes r W (hl.grow hg) (hr.grow hg) hok hz hn)
  have HLN := Lib.hid (fun q (hq : q ∈ r.ways) => Rr.way_len hok hq)
  rw [← Rr.hlS_is hok, ← Rr.hrS_is hok]
  have hpL : 2 ^ r.L.length ≤ 1024 := by have := Nat.pow_le_pow_right (n := 2) (by omega) b1; simpa using this
  have hpR : 2 ^ r.R.length ≤ 1024 := by have := Nat.pow_le_pow_right (n := 2) (by omega) b2; simpa using this
  have HPL := Lib.hid hpL
  have HPR := Lib.hid hpR
  have H0 := Lib.hid (And.intro (Nat.two_pow_pos r.L.length) (Nat.two_pow_pos r.R.length))
  clear hl hr hok hz hpL hpR
  generalize r.ways = ws at *
  have HB := Lib.hid (Box.fresh w r.cs 26)
  have HG := Lib.hid (show Gr w (w.alloc (Obj.cells r.cs.toArray 26)) from Gr.alloc _ _)
  unfold Rr.cs at HB HG
  unfold Rr.val at *
  obtain ⟨r0, r1, r2, r3, r4⟩ := cells5 HB.out
  have rl := HB.out.lt
  go_enter Try.func28, Try.ntmps28
  apply wp_seq_k
  intro K1 hK1
  have HK1 := Lib.hid hK1
  clear hK1
  go_wp2_with fail
  refine HK1.out _ _ ?_
  clear HK1
  apply wp_seq_k
  intro K1 hK1
  have HK1 := Lib.hid hK1
  clear hK1
  go_wp2_with (first | (go_at_call 57; (with_reducible refine (H57.out _ (by first | exact HG.out | exact Gr.tr HG.out (Gr.alloc _ _) | exact Gr.tr HG.out ((Gr.alloc _ _).tr (Gr.alloc _ _)) | exact Gr.tr HG.out (Gr.drew _))).mono ?_); rintro e wo ⟨⟨o, rfl, ho⟩, hb⟩; have HG := Lib.hid (show Gr w wo from by first | exact Gr.tr HG.out hb | exact Gr.tr (HG.out.tr (Gr.alloc _ _)) hb | exact Gr.tr (HG.out.tr ((Gr.alloc _ _).tr (Gr.alloc _ _))) hb | exact Gr.tr (HG.out.tr (Gr.drew _)) hb); have HB := Lib.hid (HB.out.grow (by first | exact hb | exact Gr.tr (Gr.alloc _ _) hb | exact Gr.tr ((Gr.alloc _ _).tr (Gr.alloc _ _)) hb | exact Gr.tr (Gr.drew _) hb)); clear r0 r1 r2 r3 r4 rl; obtain ⟨r0, r1, r2, r3, r4⟩ := cells5 HB.out; have rl := HB.out.lt; obtain ⟨po, co, rfl, -⟩ := id ho; have HO := Lib.hid ho; clear ho; dsimp only; clear hb))
  refine HK1.out _ _ ?_
  clear HK1
  have HAT := Lib.hid (WsIn.at HO.out)
  have HGO := Lib.hid HG.out
  go_wp2_with fail
  clear r0 r1 r2 r3 r4 rl
  go_loopw [9, 7, 8] (fun t u v wr => ∃ (c sl sr : Nat), c ≤ ws.length ∧ t = .int .i64 c ∧ u = .int .i64 sl ∧ v = .int .i64 sr ∧ sl < 2 ^ r.L.length ∧ sr < 2 ^ r.R.length ∧ Hid (sl = hlS r.L.length (ws.take c) 0) ∧ Hid (sr = hrS r.R.length (ws.take c) 0) ∧ Hid (Gr wo wr)) (fun t _ _ _ => ((ws.length : Int) - intOf t).toNat)
  case atStart => exact ⟨0, 0, 0, Nat.zero_le _, rfl, rfl, rfl, H0.out.1, H0.out.2, Lib.hid rfl, Lib.hid rfl, Lib.hid (Gr.same _)⟩
  case round =>
    obtain ⟨c, sl, sr, hc, rfl, rfl, rfl, hsl, hsr, HSL, HSR, HR⟩ := hrel
    by_cases hlt : c < ws.length
    · have g1 : (c : Int) < ws.length := by omega
      obtain ⟨q, hq⟩ : ∃ q, ws[c]? = some q := ⟨_, List.getElem?_eq_getElem hlt⟩
      have HAQ := Lib.hid (fun W (h : Gr wo W) => HAT.out W h c q hq)
      have HQL := Lib.hid (HLN.out q (List.mem_of_getElem? hq))
      have hql := HQL.out.1
      have HNL := Lib.hid (show hlS r.L.length (ws.take (c + 1)) 0 = hlW q r.L.length sl by rw [take_succ hq, hlS_snoc, HSL.out])
      have HNR := Lib.hid (show hrS r.R.length (ws.take (c + 1)) 0 = hrW (snW q) r.R.length sr by rw [take_succ hq, hrS_snoc, HSR.out])
      have HL0 := Lib.hid hsl
      have HR0 := Lib.hid hsr
      clear hq HSL HSR hsl hsr
      go_wp2_with fail
      go_loopw [11, 10] (fun t u wr => ∃ (d s : Nat), d ≤ q.length ∧ t = .int .i64 d ∧ u = .int .i64 s ∧ Hid (s = snW (q.take d)) ∧ Hid (Gr wo wr)) (fun t _ _ => (20 - intOf t).toNat)
      case atStart => exact ⟨0, 0, Nat.zero_le _, rfl, rfl, Lib.hid rfl, HR⟩
      case round =>
        clear HR
        obtain ⟨d, s, hd, rfl, rfl, HS, HR⟩ := hrel
        obtain ⟨bo, pq, cq, hpo, hbo, o1, o2⟩ := HAQ.out _ HR.out
        cases hpo
        have HPQ := Lib.hid (PrsIn.at2 o2)
        clear o2
        by_cases hld : d < q.length
        · have g2 : (d : Int) < q.length := by omega
          obtain ⟨x, hx⟩ : ∃ x, q[d]? = some x := ⟨_, List.getElem?_eq_getElem hld⟩
          have hxm := HQL.out.2 x (List.mem_of_getElem? hx)
          obtain ⟨bp, op, hpp, hbp, x1, x2⟩ := HPQ.out _ (Gr.same _) d x hx
          cases hpp
          have HSN := Lib.hid (show snW (q.take (d + 1)) = wi s x.2 by rw [take_succ hx, snW_snoc, HS.out])
          have hs := snW_lt (q.take d) r.R.length fun y hy => (HQL.out.2 y (List.mem_of_mem_take hy)).2
          rw [← HS.out] at hs
          have HW := Lib.hid (fun W => with60_any s x.2 W (by have := HPR.out; omega) (by omega))
          clear hx hs x1
          go_wp2_with (first | (go_at_call 60; (with_reducible refine (HW.out _).mono ?_); rintro e w6 ⟨rfl, hb⟩; have HR6 := Lib.hid (HR.out.tr hb); clear hb; dsimp only))
          exact ⟨⟨d + 1, _, by omega, by go_num, rfl, Lib.hid HSN.out.symm, HR6⟩, by simp [intOf]; omega⟩
        · have hdq : d = q.length := by omega
          subst hdq
          rw [List.take_length] at HS
          obtain ⟨r0, r1, r2, r3, r4⟩ := cells5 (HB.out.grow HR.out)
          have rl := (HB.out.grow HR.out).lt
          have HSE := HS
          go_wp2_with fail
          clear r0 r1 r2 r3 r4 rl o1
          go_loopw [12, 7] (fun t u wr => ∃ (i s : Nat), i ≤ r.L.length ∧ t = .int .i64 i ∧ u = .int .i64 s ∧ Hid (s = hlW q i sl) ∧ Hid (Gr wo wr)) (fun t _ _ => (20 - intOf t).toNat)
          case atStart => exact ⟨0, sl, Nat.zero_le _, rfl, rfl, Lib.hid rfl, HR⟩
          case round =>
            clear HR HS
            obtain ⟨i, s', hi, rfl, rfl, HS, HR⟩ := hrel
            obtain ⟨r0, r1, r2, r3, r4⟩ := cells5 (HB.out.grow HR.out)
            have rl := (HB.out.grow HR.out).lt
            obtain ⟨bo, pq, cq, hpo, hbo, o1, o2⟩ := HAQ.out _ HR.out
            cases hpo
            by_cases hli : i < r.L.length
            · have g2 : (i : Int) < r.L.length := by omega
              have h62 := partner62_any _ q i _ o2 (by omega) (fun x hx => by have := HQL.out.2 x hx; omega)
              have hs := hlW_lt q sl i r.L.length HL0.out (by omega)
              rw [← HS.out] at hs
              have HW := Lib.hid (fun W => with60_any s' i W (by have := HPL.out; omega) (by omega))
              have HSN := Lib.hid (show hlW q (i + 1) sl = if par q i = -1 then wi s' i else s' by rw [HS.out]; rfl)
              have H62 := Lib.hid h62
              clear o2 hs h62
              by_cases hp : par q i = -1
              · rw [hp] at H62
                have HSM := Lib.hid (show wi s' i = hlW q (i + 1) sl by rw [HSN.out, if_pos hp])
                clear hp HSN
                go_wp2_with (first | (go_at_call 62; (with_reducible refine (H62.out).mono ?_); rintro e w6 ⟨rfl, hb⟩; have HR5 := Lib.hid (HR.out.tr hb); clear hb r0 r1 r2 r3 r4 rl o1; dsimp only) | (go_at_call 60; (with_reducible refine (HW.out _).mono ?_); rintro e w7 ⟨rfl, hb⟩; have HR6 := Lib.hid (HR5.out.tr hb); clear hb; dsimp only))
                exact ⟨⟨i + 1, _, by omega, by go_num, rfl, HSM, HR6⟩, by simp [intOf]; omega⟩
              · have e1 : (par q i == -1) = false := by rw [beq_eq_false_iff_ne]; exact hp
                have HSM := Lib.hid (show s' = hlW q (i + 1) sl by rw [HSN.out, if_neg hp])
                have e2 : ¬ par q i = -1 := hp
                clear hp HSN
                generalize par q i = pv' at *
                go_wp2_with (first | (go_at_call 62; (with_reducible refine (H62.out).mono ?_); rintro e w6 ⟨rfl, hb⟩; have HR6 := Lib.hid (HR.out.tr hb); clear hb r0 r1 r2 r3 r4 rl o1; dsimp only))
                exact ⟨⟨i + 1, _, by omega, by go_num, rfl, HSM, HR6⟩, by simp [intOf]; omega⟩
            · have hin : i = r.L.length := by omega
              subst hin
              have HSL := HS
              go_wp2_with fail
              clear r0 r1 r2 r3 r4 rl o1 o2
              go_loopw [13, 8] (fun t u wr => ∃ (i s : Nat), i ≤ r.R.length ∧ t = .int .i64 i ∧ u = .int .i64 s ∧ Hid (s = hrW (snW q) i sr) ∧ Hid (Gr wo wr)) (fun t _ _ => (20 - intOf t).toNat)
              case atStart => exact ⟨0, sr, Nat.zero_le _, rfl, rfl, Lib.hid rfl, HR⟩
              case round =>
                clear HR HS
                obtain ⟨m, s2, hm, rfl, rfl, HS, HR⟩ := hrel
                obtain ⟨r0, r1, r2, r3, r4⟩ := cells5 (HB.out.grow HR.out)
                have rl := (HB.out.grow HR.out).lt
                by_cases hlm : m < r.R.length
                · have g3 : (m : Int) < r.R.length := by omega
                  have hs := hrW_lt (snW q) sr m r.R.length HR0.out (by omega)
                  rw [← HS.out] at hs
                  have hs2 := snW_lt q r.R.length fun y hy => (HQL.out.2 y hy).2
                  rw [← HSE.out] at hs2
                  have HW := Lib.hid (fun W => with60_any s2 m W (by have := HPR.out; omega) (by omega))
                  have HH := Lib.hid (fun W => has66_any s m W (by have := HPR.out; omega) (by omega))
                  have HSN := Lib.hid (show hrW (snW q) (m + 1) sr = if s.testBit m = false then wi s2 m else s2 by rw [HS.out, HSE.out]; rfl)
                  clear hs hs2
                  cases hb : s.testBit m with
                  | false =>
                    rw [hb] at HH HSN
                    have HSM := Lib.hid (show wi s2 m = hrW (snW q) (m + 1) sr by rw [HSN.out, if_pos rfl])
                    clear hb HSN
                    go_wp2_with (first | (go_at_call 66; (with_reducible refine (HH.out _).mono ?_); rintro e w6 ⟨rfl, hb⟩; have HR5 := Lib.hid (HR.out.tr hb); clear hb r0 r1 r2 r3 r4 rl; dsimp only) | (go_at_call 60; (with_reducible refine (HW.out _).mono ?_); rintro e w7 ⟨rfl, hb⟩; have HR6 := Lib.hid (HR5.out.tr hb); clear hb; dsimp only))
                    exact ⟨⟨m + 1, _, by omega, by go_num, rfl, HSM, HR6⟩, by simp [intOf]; omega⟩
                  | true =>
                    rw [hb] at HH HSN
                    have HSM := Lib.hid (show s2 = hrW (snW q) (m + 1) sr by rw [HSN.out]; rfl)
                    clear hb HSN
                    go_wp2_with (first | (go_at_call 66; (with_reducible refine (HH.out _).mono ?_); rintro e w6 ⟨rfl, hb⟩; have HR6 := Lib.hid (HR.out.tr hb); clear hb r0 r1 r2 r3 r4 rl; dsimp only))
                    exact ⟨⟨m + 1, _, by omega, by go_num, rfl, HSM, HR6⟩, by simp [intOf]; omega⟩
                · have hmn : m = r.R.length := by omega
                  subst hmn
                  go_wp2_with fail
                  exact ⟨⟨c + 1, _, _, by omega, by go_num, rfl, rfl, by rw [HSL.out]; exact hlW_lt q sl _ _ HL0.out (Nat.le_refl _), by rw [HS.out]; exact hrW_lt _ sr _ _ HR0.out (Nat.le_refl _), Lib.hid (by rw [HNL.out, HSL.out]), Lib.hid (by rw [HNR.out, HS.out]), HR⟩, by simp [intOf]; omega⟩
    · have hcn : c = ws.length := by omega
      subst hcn
      rw [List.take_length] at HSL HSR
      go_wp2_with fail
      exact bodyPost_ret (v := .tuple #[.int .i64 sl, .int .i64 sr, .int .i64 0]) (by simp [results, Try.f28, go_sem]) rfl ⟨by rw [HSL.out, HSR.out], HGO.out.tr HR.out⟩

end Go.Proofs.Ytjlaoiimbhlafaa
