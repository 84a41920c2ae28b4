import Derived.Test.YtofdoadpaedogaaN3
namespace Go.Proofs.Ytofdoadpaedogaa
open Go.RowKit

theorem and_one1_all : (List.range 4096).all (fun d => (bits BinOp.and IntKind.i64 ((d : Nat) : Int) 1 == 1) == decide (d % 2 = 1)) = true := by decide +kernel
set_option maxRecDepth 100000 in
set_option maxHeartbeats 4000000 in
theorem and_one1 (m k : Nat) (h : m < 4096) (_hk : k < 12) : (bits BinOp.and IntKind.i64 ((m : Int) / 2 ^ k) 1 == 1) = m.testBit k := by
  have e : (m : Int) / 2 ^ k = ((m / 2 ^ k : Nat) : Int) := by simp
  have hd : m / 2 ^ k < 4096 := Nat.lt_of_le_of_lt (Nat.div_le_self _ _) h
  rw [Nat.testBit_eq_decide_div_mod_eq, e]
  generalize m / 2 ^ k = d at *
  exact eq_of_beq (List.all_eq_true.1 and_one1_all d (List.mem_range.2 hd))
theorem shl_in' (k : Nat) (h : k ≤ 12) : wrap64 (2 ^ k) = ((2 ^ k : Nat) : Int) := by
  have h1 : (2 : Nat) ^ k ≤ 4096 := by
    have := Nat.pow_le_pow_right (n := 2) (by omega) h
    simpa using this
  rw [show ((2 : Int) ^ k) = ((2 ^ k : Nat) : Int) from by simp]
  generalize 2 ^ k = q at *
  rw [IntWalk.wrap64_in _ ⟨by omega, by omega⟩]
set_option maxRecDepth 100000 in
set_option maxHeartbeats 4000000 in
theorem lfew_ok (p : Pr) (sp : Option Addr) (len cap : Nat) (o : Int) (w : World) (hl : len ≤ 40) (hT : ThingsAt p.l (.slice sp len cap) w) (hlen : p.l.length = len) (hl12 : len ≤ 12) (ho : 0 ≤ o ∧ o < 65536) (b : Nat) (u v P Q : Int) (hb : b < 2 ^ len) (h1 : Hid (p.fewest = ((b : Int), u, v, 0))) (h2 : Hid (p.power = (P, Q, 0))) (h4 : Hid (p.ok = true)) (HWY : Hid (∀ (i : Nat) t, p.l[i]? = some t → ∃ y, p.why i = (y, 0) ∧ (t.z ≠ 0 → y = 0 ∧ b.testBit i = false) ∧ (y ≠ 0 → b.testBit i = true))) (H5 : Hid ((p.without b).fewest = (0, u, v, 0))) (HM : Hid (∀ m : Nat, (∀ j t, p.l[j]? = some t → t.z ≠ 0 → m.testBit j = false) → ∃ (c : Nat) (u' v' : Int), (p.without m).fewest = ((c : Int), u', v', 0) ∧ (c = 0 → Nle b m))) :
    Calls Try.prog 8 #[.agg #[.int .i64 p.fl, .int .i64 p.fh, .int .i64 p.bl, .int .i64 p.bh, .int .i64 p.ti, .int .i64 p.ne, .int .i64 p.fa, .slice sp len cap], .int .u16 o] w fun e w' => e = .returned (.bool true) ∧ Below w.heap.size w w' := by
  have d : decide (40 < (len : Int)) = false := by simp; omega
  have d' : decide (40 < len) = false := by simp; omega
  have TH := Lib.hid (fun (W : World) (hg : Gr (w.alloc (.cells #[.int .i64 p.fl, .int .i64 p.fh, .int .i64 p.bl, .int .i64 p.bh, .int .i64 p.ti, .int .i64 p.ne, .int .i64 p.fa, .slice sp len cap] 26)) W) => ThingsAt.lasts p.l _ _ _ hT ((Gr.alloc _ _).tr hg))
  have hg0 := Gr.same (w.alloc (.cells #[.int .i64 p.fl, .int .i64 p.fh, .int .i64 p.bl, .int .i64 p.bh, .int .i64 p.ti, .int .i64 p.ne, .int .i64 p.fa, .slice sp len cap] 26))
  have HLEN := Lib.hid hlen
  obtain ⟨o, rfl⟩ : ∃ n : Nat, o = n := ⟨o.toNat, by omega⟩
  have ho' : o < 65536 := by omega
  have hb4 : b < 4096 := by
    have := Nat.pow_le_pow_right (n := 2) (by omega) hl12
    have : (2 : Nat) ^ 12 = 4096 := rfl
    omega
  have hs := shl_in' len hl12
  have hbn : decide ((b : Int) < 0) = false := by simp
  have hbg : decide (wrap64 (2 ^ len) ≤ (b : Int)) = false := by rw [hs]; exact decide_eq_false (by omega)
  have hmk := mask_set o len ho' hl12
  clear hs
  clear hT hl hlen
  go_enter Try.func8, Try.ntmps8
  go_wp2_with fail
  refine (fewest_is h1.out (TH.out _ hg0)).mono ?_
  rintro e w1 ⟨rfl, hb1⟩
  have gg1 : Gr _ _ := hb1
  have hg1 := Gr.tr hg0 gg1
  obtain ⟨hc, hf, hz⟩ := bcell hg1
  go_wp2_with fail
  clear hc hf hz
  refine (power_is h2.out (TH.out _ (hg1.tr (Gr.alloc _ _)))).mono ?_
  rintro e w2 ⟨rfl, hb2⟩
  have gg2 : Gr _ _ := (Gr.alloc _ _).tr hb2
  have hg2 := Gr.tr hg1 gg2
  have y1_0 := ((bcell hb2).1 w1.heap.size 0 (by simp)).trans (show _ = some (.int .i64 u) by simp)
  have y1_1 := ((bcell hb2).1 w1.heap.size 1 (by simp)).trans (show _ = some (.int .i64 v) by simp)
  have k1 : w1.heap.size < w2.heap.size := Nat.lt_of_lt_of_le (by simp) hb2.size
  have k1n : w1.heap.size ≠ w2.heap.size := Nat.ne_of_lt k1
  have k1m : w2.heap.size ≠ w1.heap.size := (Nat.ne_of_lt k1).symm
  have k1p : w1.heap.size < w2.heap.size + 1 := Nat.lt_succ_of_lt k1
  obtain ⟨hc, hf, hz⟩ := bcell hg2
  go_wp2_with fail
  clear hc hf hz
  refine (rpair_is h4.out (TH.out _ (hg2.tr (Gr.alloc _ _)))).mono ?_
  rintro e w3 ⟨rfl, hb3⟩
  have gg3 : Gr _ _ := (Gr.alloc _ _).tr hb3
  have hg3 := Gr.tr hg2 gg3
  have y1_0 := ((bcell gg3).1 w1.heap.size 0 k1).trans y1_0
  have y1_1 := ((bcell gg3).1 w1.heap.size 1 k1).trans y1_1
  replace k1 : w1.heap.size < w3.heap.size := Nat.lt_of_lt_of_le k1 gg3.size
  have k1n : w1.heap.size ≠ w3.heap.size := Nat.ne_of_lt k1
  have k1m : w3.heap.size ≠ w1.heap.size := (Nat.ne_of_lt k1).symm
  have k1p : w1.heap.size < w3.heap.size + 1 := Nat.lt_succ_of_lt k1
  have y2_0 := ((bcell hb3).1 w2.heap.size 0 (by simp)).trans (show _ = some (.int .i64 P) by simp)
  have y2_1 := ((bcell hb3).1 w2.heap.size 1 (by simp)).trans (show _ = some (.int .i64 Q) by simp)
  have k2 : w2.heap.size < w3.heap.size := Nat.lt_of_lt_of_le (by simp) hb3.size
  have k2n : w2.heap.size ≠ w3.heap.size := Nat.ne_of_lt k2
  have k2m : w3.heap.size ≠ w2.heap.size := (Nat.ne_of_lt k2).symm
  have k2p : w2.heap.size < w3.heap.size + 1 := Nat.lt_succ_of_lt k2
  obtain ⟨hc, hf, hz⟩ := bcell hg3
  go_wp2_with fail
  have hs4 : o % 2 ^ len < 2 ^ len := Nat.mod_lt _ (Nat.two_pow_pos _)
  have es : ((o : Int) % 2 ^ len) = ((o % 2 ^ len : Nat) : Int) := by simp
  rw [es]
  clear es hmk hbn hbg
  generalize o % 2 ^ len = s0 at *
  have HG3 := Lib.hid hg3
  have hal := @cal
  clear hc hf hz
  go_loopw [11, 96] (fun st i wr => ∃ k : Nat, k ≤ len ∧ i = .int .i64 k ∧ st = .int .i64 ((lessTo p.l s0 k : Nat) : Int) ∧ Gr w3 wr) (fun _ i _ => len - (intOf i).toNat)
  case atStart => exact ⟨0, Nat.zero_le _, rfl, rfl, Gr.same _⟩
  case round =>
    obtain ⟨k, hk, rfl, rfl, hg⟩ := hrel
    have hgr := hg3.tr hg
    obtain ⟨hc, hf, hz⟩ := bcell hgr
    have HG := Lib.hid hg
    clear hg
    have hsk := lessTo_lt (l := p.l) hs4 k
    have hsk4 : lessTo p.l s0 k < 4096 := by
      have := Nat.pow_le_pow_right (n := 2) (by omega) hl12
      have : (2 : Nat) ^ 12 = 4096 := rfl
      omega
    by_cases hlt : k < len
    · obtain ⟨t, htk⟩ : ∃ t, p.l[k]? = some t := ⟨p.l[k]'(by rw [HLEN.out]; exact hlt), List.getElem?_eq_getElem _⟩
      obtain ⟨-, hth⟩ := TH.out _ hgr
      rcases hth with ⟨e, -⟩ | ⟨bb, oo, cap', hsp, hbb, hcc⟩
      · rw [e] at htk; cases htk
      have X := CellsFrom.nine (hcc k t htk)
      obtain ⟨hsp1, -, -⟩ : sp = some ⟨bb, oo, none⟩ ∧ len = p.l.length ∧ cap = cap' := by simpa using hsp
      subst hsp1
      clear hcc hsp
      have hls : lessTo p.l s0 (k + 1) = if t.z = 0 then lessTo p.l s0 k else clr (lessTo p.l s0 k) k := by simp [lessTo, htk]
      obtain ⟨y, hy, hy1, hy2⟩ := HWY.out k t htk
      have HY := Lib.hid hy
      have HLS := Lib.hid hls
      clear hls hy htk
      have hk12 : k < 12 := by omega
      have han := andNot_set (lessTo p.l s0 k) k hsk4 hk12
      have hbt := and_one1 b k hb4 hk12
      generalize lessTo p.l s0 k = sk at *
      obtain ⟨xa, xb, xcc, xd, xe, xf, xg, xh, xz⟩ := t
      simp only at X hy1 hy2
      have HYY := Lib.hid hy1
      have HYZ := Lib.hid hy2
      clear hy1 hy2
      have hgA : Gr wr (wr.alloc (.cells #[.int .i64 xa, .int .i64 xb, .int .i64 xcc, .int .i64 xd, .int .i64 xe, .int .i64 xf, .int .i64 xg, .int .i64 xh, .int .i64 xz] 47)) := Gr.alloc _ _
      have HTA := Lib.hid (TH.out _ (hgr.tr hgA))
      have HGA := Lib.hid (HG.out.tr hgA)
      clear hgA
      go_wp2_with fail
      refine (why_is HY.out HTA.out).mono ?_
      rintro e w5 ⟨rfl, hb5⟩
      have hg5 : Gr _ _ := hb5
      have x8 : w5.cell? ⟨wr.heap.size, 8, none⟩ = some (.int .i64 xz) := ((bcell hg5).1 wr.heap.size 8 (by simp)).trans (by simp)
      have HEND := Lib.hid (HGA.out.tr hg5)
      clear X hc hf hz hg5 hb5
      cases cy : (y != 0) with
      | true =>
        have y0 : y ≠ 0 := by simpa using cy
        have hb1 := HYZ.out y0
        rw [hb1] at hbt
        cases cz : (xz != 0) with
        | true => exact absurd (HYY.out (by simpa using cz)).1 y0
        | false =>
          have hls := HLS.out
          rw [if_pos (by simpa using cz)] at hls
          have HLQ := Lib.hid hls
          clear hls hb1 y0
          go_wp2_with fail
          exact ⟨⟨k + 1, by omega, by go_num, by rw [HLQ.out], HEND.out⟩, by simp [intOf]; omega⟩
      | false =>
        cases cz : (xz != 0) with
        | true =>
          have hb1 := (HYY.out (by simpa using cz)).2
          rw [hb1] at hbt
          have hls := HLS.out
          rw [if_neg (by simpa using cz)] at hls
          have HLQ := Lib.hid hls
          clear hls hb1
          go_wp2_with fail
          exact ⟨⟨k + 1, by omega, by go_num, by rw [HLQ.out], HEND.out⟩, by simp [intOf]; omega⟩
        | false =>
          have hls := HLS.out
          rw [if_pos (by simpa using cz)] at hls
          have HLQ := Lib.hid hls
          clear hls
          go_wp2_with fail
          exact ⟨⟨k + 1, by omega, by go_num, by rw [HLQ.out], HEND.out⟩, by simp [intOf]; omega⟩
    · have hkl : k = len := by omega
      subst hkl
      obtain ⟨c, u2, v2, hc6, hnle⟩ := HM.out (lessTo p.l s0 k) (fun j t hj hz => lessTo_bit hj hz k (by have := (List.getElem?_eq_some_iff.1 hj).1; have := HLEN.out; omega))
      have H6 := Lib.hid hc6
      have HNLE := Lib.hid hnle
      clear hc6 hnle
      generalize lessTo p.l s0 k = sk at *
      have HBQ := Lib.hid ((Box.fresh w [.int .i64 p.fl, .int .i64 p.fh, .int .i64 p.bl, .int .i64 p.bh, .int .i64 p.ti, .int .i64 p.ne, .int .i64 p.fa, .slice sp k cap] 26).grow hgr)
      have hne := @ne23
      have hng := @neg23
      have HL12 := Lib.hid hl12
      go_wp2_with fail
      refine (without_any p sp k cap b w.heap.size wr HL12.out hb4 HLEN.out (TH.out _ hgr) HBQ.out).mono ?_
      rintro e w6 ⟨⟨v6, rfl, ht6⟩, hb6⟩
      have HT6 := Lib.hid ht6
      have gg6 : Gr wr w6 := hb6
      have hg6 := hgr.tr gg6
      clear hc hf hz ht6
      obtain ⟨hc, hf, hz⟩ := bcell hg6
      go_wp2_with fail
      refine (fewest_is (p := p.without b) H5.out HT6.out).mono ?_
      rintro e w7 ⟨rfl, hb7⟩
      have gg7 : Gr w6 w7 := hb7
      have hg7 := hg6.tr gg7
      clear hc hf hz
      obtain ⟨hc, hf, hz⟩ := bcell hg7
      have gx := (HG.out.tr gg6).tr gg7
      have z0 := ((bcell gx).1 w1.heap.size 0 k1).trans y1_0
      have z1 := ((bcell gx).1 w1.heap.size 1 k1).trans y1_1
      have kz : w1.heap.size < w7.heap.size := Nat.lt_of_lt_of_le k1 gx.size
      have kn : w1.heap.size ≠ w7.heap.size := Nat.ne_of_lt kz
      have km : w7.heap.size ≠ w1.heap.size := (Nat.ne_of_lt kz).symm
      have hgA := hg7.tr (Gr.alloc w7 (.cells #[.int .i64 u, .int .i64 v] 23))
      have HTA := Lib.hid (TH.out _ hgA)
      have HBA := Lib.hid ((Box.fresh w [.int .i64 p.fl, .int .i64 p.fh, .int .i64 p.bl, .int .i64 p.bh, .int .i64 p.ti, .int .i64 p.ne, .int .i64 p.fa, .slice sp k cap] 26).grow hgA)
      have HGA := Lib.hid hgA
      clear hgA gx
      go_wp2_with fail
      refine (without_any p sp k cap sk w.heap.size _ HL12.out hsk4 HLEN.out HTA.out HBA.out).mono ?_
      rintro e w8 ⟨⟨v8, rfl, ht8⟩, hb8⟩
      have HT8 := Lib.hid ht8
      have gg8 : Gr _ w8 := hb8
      have hg8 := HGA.out.tr gg8
      clear hc hf hz ht8
      obtain ⟨hc, hf, hz⟩ := bcell hg8
      go_wp2_with fail
      refine (fewest_is (p := p.without sk) H6.out HT8.out).mono ?_
      rintro e w9 ⟨rfl, hb9⟩
      have gg9 : Gr w8 w9 := hb9
      have hg9 := hg8.tr gg9
      clear hc hf hz
      obtain ⟨hc, hf, hz⟩ := bcell hg9
      have hgB := hg9.tr (Gr.alloc w9 (.cells #[.int .i64 u2, .int .i64 v2] 23))
      have HGB := Lib.hid hgB
      clear hgB
      by_cases hcz : c = 0
      · subst hcz
        have hn := HNLE.out rfl
        unfold Nle at hn
        have HN := Lib.hid hn
        clear hn
        go_wp2_with fail
        refine (rcount_any sk _ hsk4).mono ?_
        rintro e wa ⟨rfl, hba⟩
        go_wp2_with fail
        refine (rcount_any b _ hb4).mono ?_
        rintro e wb ⟨rfl, hbb'⟩
        have HZ := Lib.hid (HGB.out.tr ((show Gr _ wa from hba).tr (show Gr wa wb from hbb')))
        clear hc hf hz hba hbb'
        generalize cnt sk = cs at *
        generalize cnt b = cb at *
        rcases HN.out with hn | ⟨hn, hn2⟩
        · have f1 : decide ((cb : Int) < (cs : Int)) = true := decide_eq_true (by omega)
          have f2 : decide (cb < cs) = true := decide_eq_true hn
          clear hn
          go_wp2_with fail
          refine (awake_any _).mono ?_
          rintro e wx ⟨rfl, hbx⟩
          go_wp2
          go_ret
          exact ⟨rfl, bgr ((Below.refl _ _).alloc (Nat.le_refl _) _) (by first | (simp; done) | (simp; omega) | omega) (HZ.out.tr hbx)⟩
        · subst hn
          have f1 : decide ((cb : Int) < (cb : Int)) = false := decide_eq_false (by omega)
          have f2 : decide (cb < cb) = false := decide_eq_false (by omega)
          have f3 : decide ((b : Int) ≤ (sk : Int)) = true := decide_eq_true (by omega)
          have f4 : decide (b ≤ sk) = true := decide_eq_true hn2
          clear hn2
          go_wp2_with fail
          refine (awake_any _).mono ?_
          rintro e wx ⟨rfl, hbx⟩
          go_wp2
          go_ret
          exact ⟨rfl, bgr ((Below.refl _ _).alloc (Nat.le_refl _) _) (by first | (simp; done) | (simp; omega) | omega) (HZ.out.tr hbx)⟩
      · have hcn : ((c : Int) != 0) = true := by simpa using hcz
        go_wp2_with fail
        refine (awake_any _).mono ?_
        rintro e wx ⟨rfl, hbx⟩
        go_wp2
        go_ret
        exact ⟨rfl, bgr ((Below.refl _ _).alloc (Nat.le_refl _) _) (by first | (simp; done) | (simp; omega) | omega) (HGB.out.tr hbx)⟩
end Go.Proofs.Ytofdoadpaedogaa
