import Derived.Test.YtjlaoiimbhlafaaK7a
set_option linter.unusedVariables false
set_option linter.unusedSimpArgs false
namespace Go.Proofs.Ytjlaoiimbhlafaa
open Go.RowKit Go.Shelf

open MW
attribute [local go_sem] Oper.semAt_some run_store_func
attribute [local go_sem ↓] Go.wp_at_zero Go.wp_at_succ
theorem lfb (s l t : Nat) (h : s + l ≤ t) (h2 : t ≤ 25937424601) : (l : Int) ≤ 25937424601 := by omega
theorem MksAt.reslice {l : List Mrk} {g o cap : Nat} {W : World} (h : MksAt l (some ⟨g, o, none⟩) W) (hc : l.length ≤ cap) (n : Nat) : MksAt (l.drop n) (if cap = n then some ⟨g, o, none⟩ else some ⟨g, o + n * 4, none⟩) W := by
  split
  · exact MksAt.gone l (by omega) _ W
  · exact h.drop n
theorem Rr.nA_bound {r : Rr} (hok : r.ok = true) {i k : Nat} (hi : i ≤ r.L.length) (hk : k ≤ r.R.length) {n : Int} (h1 : 0 ≤ n) (h2 : n ≤ 20) : r.nA i k n ≤ 25937424601 := by
  obtain ⟨ho, hc⟩ := Rr.cnt_before hok hi hk none 0 none 0 h1 h2
  have := Rr.all_le ho
  rw [← Rr.all0_is ho, hc] at this
  exact this
/-- by the partner of a mark, none first -/
def Rr.lf (r : Rr) (i m : Nat) : Nat := lef r.ways i ((m : Int) - 1)
def Rr.sm (r : Rr) (i m : Nat) : Nat := ((List.range m).map (r.lf i)).sum
theorem Rr.sm_succ (r : Rr) (i m : Nat) : r.sm i (m + 1) = r.sm i m + r.lf i m := by
  unfold Rr.sm
  rw [List.range_succ, List.map_append, List.sum_append]
  simp
theorem Rr.sm_all (r : Rr) (i : Nat) : r.sm i (r.R.length + 1) = r.ways.length := lef_sum
theorem Rr.sm_mono (r : Rr) (i : Nat) {m n : Nat} (h : m ≤ n) : r.sm i m ≤ r.sm i n := by
  induction h with
  | refl => exact Nat.le_refl _
  | step _ ih => rw [Rr.sm_succ]; omega
def Rr.mx (r : Rr) (i m : Nat) : Nat := mxl (r.lf i) (List.range m)
theorem Rr.mx_succ (r : Rr) (i m : Nat) : r.mx i (m + 1) = max (r.mx i m) (r.lf i m) := by
  unfold Rr.mx
  rw [List.range_succ, mxl_snoc]
  split <;> omega
theorem Rr.mx_le (r : Rr) (i : Nat) : ∀ m, r.mx i m ≤ r.sm i m
  | 0 => Nat.le_refl _
  | m + 1 => by
    have := Rr.mx_le r i m
    rw [Rr.mx_succ, Rr.sm_succ]
    omega
set_option maxRecDepth 100000 in
set_option maxHeartbeats 8000000 in
theorem worst40 (r : Rr) (w : World) (i b0 ba : Nat) (hok : r.ok = true) (hi : i < r.L.length) (hl : MksAt r.L r.lp w) (hr : MksAt r.R r.rp w) (hcL : r.L.length ≤ r.lc) (hcR : r.R.length ≤ r.rc) (hb0 : Box w b0 r.cs 26) (hba : Box w ba [.int .i64 (r.ways.length : Nat)] 3) :
    Calls Try.prog 40 #[.int .i64 i, .pointer (some ⟨b0, 0, none⟩), .pointer (some ⟨ba, 0, none⟩)] w fun e w' => e = .returned (.int .i64 (r.mx i (r.R.length + 1) : Nat)) ∧ Below w.heap.size w w' := by
  obtain ⟨b1, b2, -, -, -, b6, b7⟩ := Rr.ok_parts hok
  have HALL := Lib.hid (Rr.all_le hok)
  have HOK := Lib.hid hok
  have HB := Lib.hid hb0
  have HBA := Lib.hid hba
  have HML := Lib.hid hl
  have HMR := Lib.hid hr
  clear hok hb0 hba hl hr
  unfold Rr.cs at HB
  go_enter Try.func40, Try.ntmps40
  go_wp2_with fail
  go_loopw [7, 5, 6] (fun t n s wr => ∃ m : Nat, m ≤ r.R.length + 1 ∧ t = .int .i64 ((m : Int) - 1) ∧ n = .int .i64 (r.mx i m : Nat) ∧ s = .int .i64 (r.sm i m : Nat) ∧ Hid (Gr w wr)) (fun t _ _ _ => (20 - intOf t).toNat)
  case atStart => exact ⟨0, Nat.zero_le _, rfl, rfl, rfl, Lib.hid (Gr.same _)⟩
  case round =>
    obtain ⟨m, hm, rfl, rfl, rfl, HGR⟩ := hrel
    obtain ⟨r0, r1, r2, r3, r4⟩ := cells5 (HB.out.grow HGR.out)
    have rl := (HB.out.grow HGR.out).lt
    by_cases hmR : m ≤ r.R.length
    · have g1 : (m : Int) - 1 < r.R.length := by omega
      have HSM := Lib.hid (Rr.sm_succ r i m)
      have HMX := Lib.hid (Rr.mx_succ r i m)
      have hle : r.sm i m + r.lf i m ≤ r.ways.length := by
        have h1 := Rr.sm_mono r i (show m + 1 ≤ r.R.length + 1 by omega)
        rw [Rr.sm_succ, Rr.sm_all] at h1
        exact h1
      have hmx := Rr.mx_le r i m
      have hall := HALL.out

      by_cases hm0 : m = 0
      · subst hm0
        have e1 : ((0 : Nat) : Int) - 1 = -1 := rfl
        by_cases h1 : 1 ≤ r.h
        · have H41 := Lib.hid (fun W (hg : Gr w W) => known41_none r i W (HML.out.grow hg) (HMR.out.grow hg) hi b1 b2 ⟨b6, b7⟩)
          have H18 := Lib.hid (fun pL cL pR cR W hmL hmR => cnt_less18 r HOK.out i hi pL cL pR cR W hmL hmR h1)
          unfold Rr.val at H41
          rw [decide_eq_true h1] at H41
          have e2 : lef r.ways i (-1) = r.lf i 0 := rfl
          rw [e2] at H18
          clear e2
          generalize r.lf i 0 = F at *
          go_wp2_with (first | (go_at_call 41; (with_reducible refine (H41.out _ HGR.out).mono ?_); rintro e wk ⟨⟨pL, cL, pR, cR, rfl, hmL, hmR⟩, hb⟩; have HML2 := Lib.hid hmL; have HMR2 := Lib.hid hmR; have HGK := Lib.hid (show Gr wr wk from hb); clear hb hmL hmR; dsimp only) | (go_at_call 18; (with_reducible refine (H18.out _ _ _ _ _ (HML2.out.grow (Gr.alloc _ _)) (HMR2.out.grow (Gr.alloc _ _))).mono ?_); rintro e wc ⟨rfl, hb⟩; have HGC := Lib.hid (show Gr w wc from HGR.out.tr (HGK.out.tr ((Gr.alloc _ _).tr hb))); clear hb; dsimp only))
          exact ⟨⟨1, by omega, rfl, by rw [HMX.out]; congr 1; split <;> omega, by rw [HSM.out]; rfl, HGC⟩, by simp [intOf]⟩
        · have H41 := Lib.hid (fun W (hg : Gr w W) => known41_none r i W (HML.out.grow hg) (HMR.out.grow hg) hi b1 b2 ⟨b6, b7⟩)
          have H18 := Lib.hid (fun pL cL pR cR W hmL hmR => cnt_less18z r HOK.out i hi pL cL pR cR W hmL hmR (show r.h = 0 by omega))
          unfold Rr.val at H41
          rw [decide_eq_false h1] at H41
          have e2 : r.lf i 0 = 0 := Rr.lef_hid0 HOK.out hi (show r.h = 0 by omega)
          rw [e2] at HSM HMX
          clear e2
          go_wp2_with (first | (go_at_call 41; (with_reducible refine (H41.out _ HGR.out).mono ?_); rintro e wk ⟨⟨pL, cL, pR, cR, rfl, hmL, hmR⟩, hb⟩; have HML2 := Lib.hid hmL; have HMR2 := Lib.hid hmR; have HGK := Lib.hid (show Gr wr wk from hb); clear hb hmL hmR; dsimp only) | (go_at_call 18; (with_reducible refine (H18.out _ _ _ _ _ (HML2.out.grow (Gr.alloc _ _)) (HMR2.out.grow (Gr.alloc _ _))).mono ?_); rintro e wc ⟨rfl, hb⟩; have HGC := Lib.hid (show Gr w wc from HGR.out.tr (HGK.out.tr ((Gr.alloc _ _).tr hb))); clear hb; dsimp only))
          exact ⟨⟨1, by omega, rfl, by rw [HMX.out]; first | rfl | (congr 1; first | omega | (split <;> omega)), by rw [HSM.out]; rfl, HGC⟩, by simp [intOf]⟩
      · obtain ⟨k, rfl⟩ : ∃ k, m = k + 1 := ⟨m - 1, by omega⟩
        have hk : k < r.R.length := by omega
        have e1 : ((k + 1 : Nat) : Int) - 1 = (k : Int) := by omega
        have e9 : ((k : Int) == -1) = false := by first | (simp; done) | (simp; omega)
        rw [e1] at g1
        rw [e1]
        have H16 := Lib.hid (fun W (hg : Gr w W) => fits16_yes r W (HML.out.grow hg) (HMR.out.grow hg) HOK.out i k hi hk)
        unfold Rr.val at H16
        by_cases hf : r.fitm i k = true
        · rw [hf] at H16
          have hm0 : ∃ m', r.L[i]? = some m' := ⟨_, List.getElem?_eq_getElem hi⟩
          obtain ⟨m1, hm1⟩ := hm0
          obtain ⟨gl, ol, hlp⟩ := mk_at HML.out hm1
          have hm2 : ∃ m', r.R[k]? = some m' := ⟨_, List.getElem?_eq_getElem hk⟩
          obtain ⟨m2, hm2⟩ := hm2
          obtain ⟨gr, og, hrp⟩ := mk_at HMR.out hm2
          have H41 := Lib.hid (fun W (hg : Gr w W) => known41_part r i k W (HML.out.grow hg) (HMR.out.grow hg) (Nat.le_of_lt hi) (Nat.le_of_lt hk) b1 b2)
          unfold Rr.val at H41
          rw [hlp] at HB H41 H16 HML r0
          rw [hrp] at HB H41 H16 HMR r1
          have HHP := Lib.hid (And.intro hlp hrp)
          clear hm1 hm2 hlp hrp
          go_wp2_with (first | (go_at_call 16; (with_reducible refine (H16.out _ HGR.out).mono ?_); rintro e wf ⟨rfl, hb⟩; have HGC := Lib.hid (show Gr w wf from HGR.out.tr hb); have HGF := Lib.hid (show Gr wr wf from hb); clear r0 r1 r2 r3 r4 rl hb; obtain ⟨r0, r1, r2, r3, r4⟩ := cells5 (HB.out.grow HGC.out); have rl := (HB.out.grow HGC.out).lt; dsimp only) | (go_at_call 41; (with_reducible refine (H41.out _ HGC.out).mono ?_); rintro e wk ⟨⟨pL, cL, pR, cR, rfl, hmL, hmR⟩, hb⟩; have HML2 := Lib.hid hmL; have HMR2 := Lib.hid hmR; have HGK := Lib.hid (show Gr w wk from HGC.out.tr hb); obtain ⟨q0, q1, q2, q3, q4⟩ := cells5 (HB.out.grow HGK.out); have ql := (HB.out.grow HGK.out).lt; clear hb hmL hmR; dsimp only))
          clear r0 r1 r2 r3 r4 rl q0 q1 q2 q3 q4 ql
          have HB15 := Lib.hid ((Box.fresh wk [.slice pL i cL, .slice pR k cR, .int .i64 r.s, .int .i64 r.t, .int .i64 r.h] 26).grow (Gr.alloc _ (Obj.cells #[.slice (some ⟨gl, ol, none⟩) r.L.length r.lc, .slice (some ⟨gr, og, none⟩) r.R.length r.rc, .int .i64 r.s, .int .i64 r.t, .int .i64 r.h] 26)))
          have HB17 := Lib.hid (show Box ((wk.alloc (Obj.cells #[.slice pL i cL, .slice pR k cR, .int .i64 r.s, .int .i64 r.t, .int .i64 r.h] 26)).alloc (Obj.cells #[.slice (some ⟨gl, ol, none⟩) r.L.length r.lc, .slice (some ⟨gr, og, none⟩) r.R.length r.rc, .int .i64 r.s, .int .i64 r.t, .int .i64 r.h] 26)) (wk.heap.size + 1) [.slice (some ⟨gl, ol, none⟩) r.L.length r.lc, .slice (some ⟨gr, og, none⟩) r.R.length r.rc, .int .i64 r.s, .int .i64 r.t, .int .i64 r.h] 26 by
            have := Box.fresh (wk.alloc (Obj.cells #[.slice pL i cL, .slice pR k cR, .int .i64 r.s, .int .i64 r.t, .int .i64 r.h] 26)) [.slice (some ⟨gl, ol, none⟩) r.L.length r.lc, .slice (some ⟨gr, og, none⟩) r.R.length r.rc, .int .i64 r.s, .int .i64 r.t, .int .i64 r.h] 26
            simpa using this)
          have HGU := Lib.hid (show Gr wk ((wk.alloc (Obj.cells #[.slice pL i cL, .slice pR k cR, .int .i64 r.s, .int .i64 r.t, .int .i64 r.h] 26)).alloc (Obj.cells #[.slice (some ⟨gl, ol, none⟩) r.L.length r.lc, .slice (some ⟨gr, og, none⟩) r.R.length r.rc, .int .i64 r.s, .int .i64 r.t, .int .i64 r.h] 26)) from (Gr.alloc _ _).tr (Gr.alloc _ _))
          generalize ((wk.alloc (Obj.cells #[.slice pL i cL, .slice pR k cR, .int .i64 r.s, .int .i64 r.t, .int .i64 r.h] 26)).alloc (Obj.cells #[.slice (some ⟨gl, ol, none⟩) r.L.length r.lc, .slice (some ⟨gr, og, none⟩) r.R.length r.rc, .int .i64 r.s, .int .i64 r.t, .int .i64 r.h] 26)) = wu at *
          have HBR := Lib.hid ((HB.out.grow HGK.out).grow HGU.out)
          have hnb : b0 < wk.heap.size := (HB.out.grow HGK.out).lt
          have hn5 : b0 ≠ wk.heap.size := by omega
          have hn7 : b0 ≠ wk.heap.size + 1 := by omega
          have hn57 : wk.heap.size ≠ wk.heap.size + 1 := by omega
          have HN := Lib.hid hnb
          have HN7 := Lib.hid (show wk.heap.size ≤ wk.heap.size + 1 from Nat.le_succ _)
          clear hnb
          generalize wk.heap.size + 1 = b17 at *
          obtain ⟨r0, r1, r2, r3, r4⟩ := cells5 HBR.out
          have rl := HBR.out.lt
          obtain ⟨x0, x1, x2, x3, x4⟩ := cells5 HB17.out
          have xl := HB17.out.lt
          have xf0 := HB17.out.free 0
          have xf1 := HB17.out.free 1
          have g2 : (i : Int) + 1 ≤ r.L.length := by omega
          have g3 : (k : Int) + 1 ≤ r.R.length := by omega
          have g4 : (0 : Int) ≤ (i : Int) + 1 := by omega
          have g5 : (0 : Int) ≤ (k : Int) + 1 := by omega
          have t1 : ((i : Int) + 1).toNat = i + 1 := by omega
          have t2 : ((k : Int) + 1).toNat = k + 1 := by omega
          go_region
          have HQL := Lib.hid (fun W (hg : Gr w W) => (HML.out.grow hg).reslice hcL (i + 1))
          have HQR := Lib.hid (fun W (hg : Gr w W) => (HMR.out.grow hg).reslice hcR (k + 1))
          have H18A := Lib.hid (fun W (n : Int) (hmL : MksAt (r.L.take i) pL W) (hmR : MksAt (r.R.take k) pR W) (h1 : 0 ≤ n) (h2 : n ≤ 20) => cnt_before18 r HOK.out i k (Nat.le_of_lt hi) (Nat.le_of_lt hk) pL cL pR cR W hmL hmR n h1 h2)
          have H18B := Lib.hid (fun qL qR W (n : Int) (hmL : MksAt (r.L.drop (i + 1)) qL W) (hmR : MksAt (r.R.drop (k + 1)) qR W) (h1 : 0 ≤ n) (h2 : n ≤ 20) => cnt_behind18 r HOK.out i k qL (r.lc - (i + 1)) qR (r.rc - (k + 1)) W hmL hmR n h1 h2)
          have HNB := Lib.hid (fun (n : Int) (h1 : 0 ≤ n) (h2 : n ≤ 20) => Rr.nA_bound HOK.out (Nat.le_of_lt hi) (Nat.le_of_lt hk) h1 h2)
          obtain ⟨H, hH⟩ : ∃ H : Nat, r.h = H := ⟨r.h.toNat, by omega⟩
          have HOWN := Lib.hid (show ((r.lf i (k + 1) : Nat) : Int) = cvl (r.nA i k) (r.nB i k) r.h (H + 1) by
            unfold Rr.lf
            rw [e1]
            exact Rr.own_is hH hi hk hf)
          have HH := Lib.hid hH
          clear hH
          have HMO := Lib.hid (fun (n m : Nat) (h : n ≤ m) => cvl_mono (a := r.nA i k) (b := r.nB i k) (fun n m h => Rr.nA_le r i k h) r.h h)
          have HNN := Lib.hid (fun n : Nat => cvl_nonneg (a := r.nA i k) (b := r.nB i k) (fun n m h => Rr.nA_le r i k h) r.h n)
          generalize (if r.lc = i + 1 then some (⟨gl, ol, none⟩ : Addr) else some ⟨gl, ol + (i + 1) * 4, none⟩) = qL at *
          generalize (if r.rc = k + 1 then some (⟨gr, og, none⟩ : Addr) else some ⟨gr, og + (k + 1) * 4, none⟩) = qR at *
          generalize r.L.length - (i + 1) = nl at *
          generalize r.R.length - (k + 1) = nr at *
          generalize r.lc - (i + 1) = dl at *
          generalize r.rc - (k + 1) = dr at *
          have HGS := Lib.hid (show Gr wk (((wu.setCell ⟨b17, 0, none⟩ (.slice qL nl dl)).setCell ⟨b17, 1, none⟩ (.slice qR nr dr)).drew) from ((HGU.out.setCell HN7.out _).setCell HN7.out _).drew)
          have HB7 := Lib.hid (show Box (((wu.setCell ⟨b17, 0, none⟩ (.slice qL nl dl)).setCell ⟨b17, 1, none⟩ (.slice qR nr dr)).drew) b17 [.slice qL nl dl, .slice qR nr dr, .int .i64 r.s, .int .i64 r.t, .int .i64 r.h] 26 from ((HB17.out.put 0 (.slice qL nl dl)).put 1 (.slice qR nr dr)).grow (Gr.drew _))
          have HB5 := Lib.hid (((HB15.out.other hn57 0 (.slice qL nl dl)).other hn57 1 (.slice qR nr dr)).grow (Gr.drew _))
          clear HB15 HB17 HBR r0 r1 r2 r3 r4 rl x0 x1 x2 x3 x4 xl xf0 xf1 hn5 hn7 hn57 g2 g3 g4 g5 t1 t2
          generalize (((wu.setCell ⟨b17, 0, none⟩ (.slice qL nl dl)).setCell ⟨b17, 1, none⟩ (.slice qR nr dr)).drew) = ws at *
          have HGT := Lib.hid (show Gr w ws from HGK.out.tr HGS.out)
          clear HGU HN
          generalize wk.heap.size = b15 at *
          go_wp2_with fail
          go_loopw [18, 8] (fun t o wq => ∃ n : Nat, n ≤ H + 1 ∧ t = .int .i64 n ∧ o = .int .i64 (cvl (r.nA i k) (r.nB i k) r.h n) ∧ Hid (Gr ws wq)) (fun t _ _ => (30 - intOf t).toNat)
          case atStart => exact ⟨0, Nat.zero_le _, rfl, rfl, Lib.hid (Gr.same _)⟩
          case round =>
            obtain ⟨n, hn, rfl, rfl, HQ⟩ := hrel
            rename World => wq
            have HBQ := Lib.hid ((HB.out.grow HGT.out).grow HQ.out)
            obtain ⟨r0, r1, r2, r3, r4⟩ := cells5 HBQ.out
            have rl := HBQ.out.lt
            by_cases hnH : (n : Int) ≤ r.h
            · have HF19 := Lib.hid (HB5.out.grow HQ.out)
              have HF20 := Lib.hid (HB7.out.grow HQ.out)
              obtain ⟨x0, x1, x2, x3, x4⟩ := cells5 HF19.out
              have xl := HF19.out.lt
              obtain ⟨y0, y1, y2, y3, y4⟩ := cells5 HF20.out
              have yl := HF20.out.lt
              have HN1 := Lib.hid (show n + 1 ≤ H + 1 by have := HH.out; omega)
              have HC1 := Lib.hid (Int.le_trans (HMO.out (n + 1) (H + 1) HN1.out) (by rw [← HOWN.out]; exact lfb _ _ _ hle hall))
              have HMA := Lib.hid (fun W (hg : Gr wq W) => And.intro (HML2.out.grow (HGS.out.tr (HQ.out.tr hg))) (HMR2.out.grow (HGS.out.tr (HQ.out.tr hg))))
              have HMB := Lib.hid (fun W (hg : Gr wq W) => And.intro (HQL.out W (HGT.out.tr (HQ.out.tr hg))) (HQR.out W (HGT.out.tr (HQ.out.tr hg))))
              go_wp2_with fail
              rename ∀ (a : Act) (w : World), _ → _ => hKK
              have HKK := Lib.hid hKK
              clear hKK
              go_region
              · have HGV := Lib.hid (show Gr wq (((wq.alloc (Obj.cells #[.slice pL i cL, .slice pR k cR, .int .i64 r.s, .int .i64 r.t, .int .i64 r.h] 26)).alloc (Obj.cells #[.slice qL nl dl, .slice qR nr dr, .int .i64 r.s, .int .i64 r.t, .int .i64 r.h] 26)).drew) from ((Gr.alloc _ _).tr (Gr.alloc _ _)).tr (Gr.drew _))
                have HF19 := Lib.hid (show Box (((wq.alloc (Obj.cells #[.slice pL i cL, .slice pR k cR, .int .i64 r.s, .int .i64 r.t, .int .i64 r.h] 26)).alloc (Obj.cells #[.slice qL nl dl, .slice qR nr dr, .int .i64 r.s, .int .i64 r.t, .int .i64 r.h] 26)).drew) wq.heap.size [.slice pL i cL, .slice pR k cR, .int .i64 r.s, .int .i64 r.t, .int .i64 r.h] 26 from ((Box.fresh wq [.slice pL i cL, .slice pR k cR, .int .i64 r.s, .int .i64 r.t, .int .i64 r.h] 26).grow (Gr.alloc _ (Obj.cells #[.slice qL nl dl, .slice qR nr dr, .int .i64 r.s, .int .i64 r.t, .int .i64 r.h] 26))).grow (Gr.drew _))
                have HF20 := Lib.hid (show Box (((wq.alloc (Obj.cells #[.slice pL i cL, .slice pR k cR, .int .i64 r.s, .int .i64 r.t, .int .i64 r.h] 26)).alloc (Obj.cells #[.slice qL nl dl, .slice qR nr dr, .int .i64 r.s, .int .i64 r.t, .int .i64 r.h] 26)).drew) (wq.heap.size + 1) [.slice qL nl dl, .slice qR nr dr, .int .i64 r.s, .int .i64 r.t, .int .i64 r.h] 26 from (show Box (((wq.alloc (Obj.cells #[.slice pL i cL, .slice pR k cR, .int .i64 r.s, .int .i64 r.t, .int .i64 r.h] 26)).alloc (Obj.cells #[.slice qL nl dl, .slice qR nr dr, .int .i64 r.s, .int .i64 r.t, .int .i64 r.h] 26)).drew) (wq.heap.size + 1) [.slice qL nl dl, .slice qR nr dr, .int .i64 r.s, .int .i64 r.t, .int .i64 r.h] 26 by have := Box.fresh (wq.alloc (Obj.cells #[.slice pL i cL, .slice pR k cR, .int .i64 r.s, .int .i64 r.t, .int .i64 r.h] 26)) [.slice qL nl dl, .slice qR nr dr, .int .i64 r.s, .int .i64 r.t, .int .i64 r.h] 26; simpa using this.grow (Gr.drew _)))
                have hd0 : b0 ≠ wq.heap.size := by omega
                have hd1 : b0 ≠ (wq.heap.size + 1) := by omega
                have hd2 : wq.heap.size ≠ (wq.heap.size + 1) := by omega
                have HBQ := Lib.hid (HBQ.out.grow HGV.out)
                clear r0 r1 r2 r3 r4 rl x0 x1 x2 x3 x4 xl y0 y1 y2 y3 y4 yl
                refine HKK.out _ _ ?_
                refine worst_round r i k n b0 wq.heap.size (wq.heap.size + 1) nl dl nr dr cL cR pL pR qL qR _ _ wq _ _ H18A (Lib.hid (H18B.out qL qR)) HMA HMB HGV HF19 HF20 HBQ (Nat.le_refl _) (Nat.le_succ _) hd0 hd1 hd2 hnH b6 b7 (HNN.out n) HC1.out (HMO.out n (n + 1) (Nat.le_succ n)) HNB ?_
                intro wx hgx
                intros
                have HGX := Lib.hid (HQ.out.tr hgx)
                clear hgx HGV HF19 HF20 HBQ
                go_wp2_with fail
                exact ⟨⟨n + 1, HN1.out, by go_num, rfl, HGX⟩, by simp [intOf]; omega⟩
              · have HGV := Lib.hid (show Gr wq (((wq.alloc (Obj.cells #[.slice qL nl dl, .slice qR nr dr, .int .i64 r.s, .int .i64 r.t, .int .i64 r.h] 26)).alloc (Obj.cells #[.slice pL i cL, .slice pR k cR, .int .i64 r.s, .int .i64 r.t, .int .i64 r.h] 26)).drew) from ((Gr.alloc _ _).tr (Gr.alloc _ _)).tr (Gr.drew _))
                have HF19 := Lib.hid (show Box (((wq.alloc (Obj.cells #[.slice qL nl dl, .slice qR nr dr, .int .i64 r.s, .int .i64 r.t, .int .i64 r.h] 26)).alloc (Obj.cells #[.slice pL i cL, .slice pR k cR, .int .i64 r.s, .int .i64 r.t, .int .i64 r.h] 26)).drew) (wq.heap.size + 1) [.slice pL i cL, .slice pR k cR, .int .i64 r.s, .int .i64 r.t, .int .i64 r.h] 26 from (show Box (((wq.alloc (Obj.cells #[.slice qL nl dl, .slice qR nr dr, .int .i64 r.s, .int .i64 r.t, .int .i64 r.h] 26)).alloc (Obj.cells #[.slice pL i cL, .slice pR k cR, .int .i64 r.s, .int .i64 r.t, .int .i64 r.h] 26)).drew) (wq.heap.size + 1) [.slice pL i cL, .slice pR k cR, .int .i64 r.s, .int .i64 r.t, .int .i64 r.h] 26 by have := Box.fresh (wq.alloc (Obj.cells #[.slice qL nl dl, .slice qR nr dr, .int .i64 r.s, .int .i64 r.t, .int .i64 r.h] 26)) [.slice pL i cL, .slice pR k cR, .int .i64 r.s, .int .i64 r.t, .int .i64 r.h] 26; simpa using this.grow (Gr.drew _)))
                have HF20 := Lib.hid (show Box (((wq.alloc (Obj.cells #[.slice qL nl dl, .slice qR nr dr, .int .i64 r.s, .int .i64 r.t, .int .i64 r.h] 26)).alloc (Obj.cells #[.slice pL i cL, .slice pR k cR, .int .i64 r.s, .int .i64 r.t, .int .i64 r.h] 26)).drew) wq.heap.size [.slice qL nl dl, .slice qR nr dr, .int .i64 r.s, .int .i64 r.t, .int .i64 r.h] 26 from ((Box.fresh wq [.slice qL nl dl, .slice qR nr dr, .int .i64 r.s, .int .i64 r.t, .int .i64 r.h] 26).grow (Gr.alloc _ (Obj.cells #[.slice pL i cL, .slice pR k cR, .int .i64 r.s, .int .i64 r.t, .int .i64 r.h] 26))).grow (Gr.drew _))
                have hd0 : b0 ≠ (wq.heap.size + 1) := by omega
                have hd1 : b0 ≠ wq.heap.size := by omega
                have hd2 : (wq.heap.size + 1) ≠ wq.heap.size := by omega
                have HBQ := Lib.hid (HBQ.out.grow HGV.out)
                clear r0 r1 r2 r3 r4 rl x0 x1 x2 x3 x4 xl y0 y1 y2 y3 y4 yl
                refine HKK.out _ _ ?_
                refine worst_round r i k n b0 (wq.heap.size + 1) wq.heap.size nl dl nr dr cL cR pL pR qL qR _ _ wq _ _ H18A (Lib.hid (H18B.out qL qR)) HMA HMB HGV HF19 HF20 HBQ (Nat.le_succ _) (Nat.le_refl _) hd0 hd1 hd2 hnH b6 b7 (HNN.out n) HC1.out (HMO.out n (n + 1) (Nat.le_succ n)) HNB ?_
                intro wx hgx
                intros
                have HGX := Lib.hid (HQ.out.tr hgx)
                clear hgx HGV HF19 HF20 HBQ
                go_wp2_with fail
                exact ⟨⟨n + 1, HN1.out, by go_num, rfl, HGX⟩, by simp [intOf]; omega⟩
            · have hnn : n = H + 1 := by have := HH.out; omega
              subst hnn
              rw [← HOWN.out]
              have HGZ := Lib.hid (HGT.out.tr HQ.out)
              go_wp2_with fail
              exact ⟨⟨k + 2, by omega, by go_num, by rw [HMX.out]; congr 1; split <;> omega, by rw [HSM.out]; rfl, HGZ⟩, by simp [intOf]; omega⟩
        · have hf := Bool.eq_false_iff.2 hf
          rw [hf] at H16
          have e2 : r.lf i (k + 1) = 0 := by
            unfold Rr.lf
            rw [e1]
            exact Rr.lef_unfit hf
          rw [e2] at HSM HMX
          clear e2
          go_wp2_with (first | (go_at_call 16; (with_reducible refine (H16.out _ HGR.out).mono ?_); rintro e wf ⟨rfl, hb⟩; have HGC := Lib.hid (show Gr w wf from HGR.out.tr hb); have HGF := Lib.hid (show Gr wr wf from hb); clear r0 r1 r2 r3 r4 rl hb; obtain ⟨r0, r1, r2, r3, r4⟩ := cells5 (HB.out.grow HGC.out); have rl := (HB.out.grow HGC.out).lt; dsimp only))
          exact ⟨⟨k + 2, by omega, by go_num, by rw [HMX.out]; first | rfl | (congr 1; first | omega | (split <;> omega)), by rw [HSM.out]; rfl, HGC⟩, by simp [intOf]; omega⟩
    · have hmn : m = r.R.length + 1 := by omega
      subst hmn
      rw [Rr.sm_all]
      have e1 : ((r.R.length + 1 : Nat) : Int) - 1 = (r.R.length : Int) := by omega
      have HBZ := HBA.out.grow HGR.out
      have z0 := HBZ.cell (i := 0) rfl
      have zl := HBZ.lt
      rw [e1]
      go_wp2_with fail
      exact bodyPost_ret (v := .int .i64 (r.mx i (r.R.length + 1) : Nat)) (by simp [results, Try.f40, go_sem]) rfl ⟨rfl, HGR.out⟩

end Go.Proofs.Ytjlaoiimbhlafaa
