import Derived.Test.YtofdoadpaedogaaP1
import Derived.Test.YtofdoadpaedogaaG3
namespace Go.Proofs.Ytofdoadpaedogaa
open Go.RowKit

set_option maxRecDepth 100000 in
set_option maxHeartbeats 4000000 in
theorem lmore_ok3p (p : Pr) (sp : Option Addr) (len cap : Nat) (n : Nat) (far k : Int) (w : World) (hl : len ≤ 40) (hT : ThingsAt p.l (.slice sp len cap) w) (h5 : k % 5 = 3) (h6 : 0 < p.ti - k / 5) (hlen : p.l.length = len) (hl12 : len ≤ 12) (h4 : Hid (p.ok = true)) (hn : n < len) (hk : 0 ≤ k ∧ k ≤ 255) :
    Calls Try.prog 10 #[.agg #[.int .i64 p.fl, .int .i64 p.fh, .int .i64 p.bl, .int .i64 p.bh, .int .i64 p.ti, .int .i64 p.ne, .int .i64 p.fa, .slice sp len cap], .int .i64 n, .int .i64 far, .int .u8 k] w fun e w' => e = .returned (.bool true) ∧ Below w.heap.size w w' := by
  have d : decide (40 < (len : Int)) = false := by simp; omega
  have d' : decide (40 < len) = false := by simp; omega
  have x1 : ((len : Int) == 0) = false := by simp; omega
  have x2 : (len == 0) = false := by simp; omega
  have x3 : decide ((n : Int) < 0) = false := by simp
  have x4 : decide ((len : Int) ≤ n) = false := by simp; omega
  have x5 : decide (len ≤ n) = false := by simp; omega
  have TH := Lib.hid (fun (W : World) (hg : Gr (w.alloc (.cells #[.int .i64 p.fl, .int .i64 p.fh, .int .i64 p.bl, .int .i64 p.bh, .int .i64 p.ti, .int .i64 p.ne, .int .i64 p.fa, .slice sp len cap] 26)) W) => ThingsAt.lasts p.l _ _ _ hT ((Gr.alloc _ _).tr hg))
  obtain ⟨m, hm, hmk⟩ : ∃ m : Nat, m < len ∧ k % (len : Int) = m := ⟨(k % len).toNat, by have := Int.emod_lt_of_pos k (show (0 : Int) < len by omega); have := Int.emod_nonneg k (show (len : Int) ≠ 0 by omega); omega, by have := Int.emod_nonneg k (show (len : Int) ≠ 0 by omega); omega⟩
  have HLEN := Lib.hid hlen
  obtain ⟨i0, ii0, iz0, iz1, iz2⟩ := info_parts Try.info47
  have II0 := Lib.hid ii0
  have IZ0 := Lib.hid iz0
  have IZ1 := Lib.hid iz1
  have IZ2 := Lib.hid iz2
  clear ii0 iz0 iz1 iz2 hl hT hlen
  go_enter Try.func10, Try.ntmps10
  go_wp2_with fail
  refine (rpair_is h4.out (TH.out _ (Gr.same _))).mono ?_
  rintro e w1 ⟨rfl, hb1⟩
  have hg1 : Gr _ _ := hb1
  obtain ⟨hc, hf, hz⟩ := bcell hg1
  have hs1 : w.heap.size < w1.heap.size := hz _ (by simp)
  have hB1 := ((Box.fresh w [.int .i64 p.fl, .int .i64 p.fh, .int .i64 p.bl, .int .i64 p.bh, .int .i64 p.ti, .int .i64 p.ne, .int .i64 p.fa, .slice sp len cap] 26).grow hg1).facts
  simp only [CellsFrom, Nat.zero_add, Nat.reduceAdd, and_true] at hB1
  have hg3 : Gr w1 ((w1.alloc (.cells #[.int .i64 p.fl, .int .i64 p.fh, .int .i64 p.bl, .int .i64 p.bh, .int .i64 p.ti, .int .i64 p.ne, .int .i64 p.fa, .slice sp len cap] 26)).alloc (.cells #[] 47)) := (Gr.alloc _ _).tr (Gr.alloc _ _)
  have hT3 := TH.out _ (hg1.tr hg3)
  obtain ⟨-, hT3⟩ := hT3
  rcases hT3 with ⟨e, -⟩ | ⟨b, o, cap', hsp, hbl, hcc⟩
  · have := HLEN.out; rw [e] at this; simp at this; omega
  obtain ⟨hsp1, -, -⟩ : sp = some ⟨b, o, none⟩ ∧ len = p.l.length ∧ cap = cap' := by simpa using hsp
  subst hsp1
  have HN := Lib.hid (news_things hcc)
  have HFL := Lib.hid (show (p.l.flatMap Th.vals).length = len * 9 from by rw [← HLEN.out]; exact th_flat_len p.l)
  have HONE := Lib.hid (show ∀ u ∈ p.l.flatMap Th.vals, u.oneCell' = true from fun u hu => by
    obtain ⟨t, -, h⟩ := List.mem_flatMap.1 hu
    exact t.one u h)
  have HOWN := Lib.hid (show ((w1.alloc (.cells #[.int .i64 p.fl, .int .i64 p.fh, .int .i64 p.bl, .int .i64 p.bh, .int .i64 p.ti, .int .i64 p.ne, .int .i64 p.fa, .slice (some ⟨b, o, none⟩) len cap] 26)).alloc (.cells #[] 47)).ownsRow (w1.heap.size + 1) 47 9 (.slice (some ⟨w1.heap.size + 1, 0, none⟩) 0 0) 0 [] from by
    refine ⟨rfl, .inr ⟨w1.heap.size + 1, 0, #[], rfl, Nat.le_refl _, ?_, Nat.le_refl _, Nat.zero_le _, rfl, rfl⟩⟩
    have := heap_new (w1.alloc (.cells #[.int .i64 p.fl, .int .i64 p.fh, .int .i64 p.bl, .int .i64 p.bh, .int .i64 p.ti, .int .i64 p.ne, .int .i64 p.fa, .slice (some ⟨b, o, none⟩) len cap] 26)) (.cells #[] 47)
    simpa using this)
  have HG3 := Lib.hid hg3
  clear hsp hcc hg3
  go_wp2_with (at_builtin; refine wpList_append_lies _ rfl _ _ 24 rfl (w1.heap.size + 1) 47 i0 _ 9 72 Try.underlying24 II0.out IZ0.out IZ1.out IZ2.out rfl (by decide) _ _ _ rfl HOWN.out ⟨b, o, none⟩ len cap (p.l.flatMap Th.vals) rfl HFL.out HN.out HONE.out ?c1 ?c2 ?c3 ?c4 _ rfl ?_)
  case c1 => omega
  case c2 => unfold maxLen; omega
  case c3 => omega
  case c4 => simp
  intro g cap' w4 hown1 hgrow hat hlt
  try simp only [Nat.zero_add, List.nil_append] at hown1
  obtain ⟨-, hown1⟩ := hown1
  rcases hown1 with ⟨hv, -⟩ | ⟨g', cap'', cur, hv, hge, hcur, hcc, hcm, hcs, hct⟩
  · cases hv
  obtain ⟨rfl, -, rfl⟩ : g = g' ∧ len = len ∧ cap' = cap'' := by simpa using hv
  have hgw : w1.heap.size + 1 ≤ g := hge
  have HBG := Lib.hid (show Box w4 g cur.toList 47 from by unfold Box; simpa using hcur)
  have HX := Lib.hid (show Box w4 w1.heap.size [.int .i64 p.fl, .int .i64 p.fh, .int .i64 p.bl, .int .i64 p.bh, .int .i64 p.ti, .int .i64 p.ne, .int .i64 p.fa, .slice (some ⟨b, o, none⟩) len cap] 26 from by
    have h1 : Box ((w1.alloc (.cells #[.int .i64 p.fl, .int .i64 p.fh, .int .i64 p.bl, .int .i64 p.bh, .int .i64 p.ti, .int .i64 p.ne, .int .i64 p.fa, .slice (some ⟨b, o, none⟩) len cap] 26)).alloc (.cells #[] 47)) w1.heap.size [.int .i64 p.fl, .int .i64 p.fh, .int .i64 p.bl, .int .i64 p.bh, .int .i64 p.ti, .int .i64 p.ne, .int .i64 p.fa, .slice (some ⟨b, o, none⟩) len cap] 26 := (Box.fresh w1 [.int .i64 p.fl, .int .i64 p.fh, .int .i64 p.bl, .int .i64 p.bh, .int .i64 p.ti, .int .i64 p.ne, .int .i64 p.fa, .slice (some ⟨b, o, none⟩) len cap] 26).grow (Gr.alloc _ _)
    exact h1.grown hgrow (by simp [Value.ownBlock]))
  have hg4 : Gr w1 w4 := by
    have h1 : Below w1.heap.size w1 ((w1.alloc (.cells #[.int .i64 p.fl, .int .i64 p.fh, .int .i64 p.bl, .int .i64 p.bh, .int .i64 p.ti, .int .i64 p.ne, .int .i64 p.fa, .slice (some ⟨b, o, none⟩) len cap] 26)).alloc (.cells #[] 47)) := HG3.out
    exact h1.grown hgrow h1.size (fun q e => by simp [Value.ownBlock] at e; omega)
  have hxs : w1.heap.size < w4.heap.size := HX.out.lt
  have HF := Lib.hid (show ∀ (i : Nat) (t : Th) (j : Nat) (x : Value), p.l[i]? = some t → t.vals[j]? = some x → cur.toList[i * 9 + j]? = some x from fun i t j x hi hx => flat_take (by rw [← HLEN.out] at hct; exact hct) hi hx)
  have C3 := HX.out.facts
  simp only [CellsFrom, Nat.zero_add, Nat.reduceAdd, and_true] at C3
  have F3 := HX.out.free
  have HG4 := Lib.hid hg4
  obtain ⟨hc4, hf4, hz4⟩ := bcell hg4
  have n1 : ¬ w1.heap.size = g := by omega
  have n3 : ¬ g = w1.heap.size := by omega
  have n5 : ¬ w1.heap.size = w.heap.size := by omega
  have n6 : ¬ w.heap.size = w1.heap.size := by omega
  have n7 : ¬ w.heap.size = g := by omega
  have n8 : ¬ g = w.heap.size := by omega
  clear hv hcur hcc hcm hcs hct hgrow hat hge
  go_wp2_with fail
  have hg5 : Gr w1 (w4.setCell ⟨w1.heap.size, 7, none⟩ (.slice (some ⟨g, 0, none⟩) len cap')) := Below.setCell HG4.out (Nat.le_refl _) _
  have hx5 : Box (w4.setCell ⟨w1.heap.size, 7, none⟩ (.slice (some ⟨g, 0, none⟩) len cap')) w1.heap.size [.int .i64 p.fl, .int .i64 p.fh, .int .i64 p.bl, .int .i64 p.bh, .int .i64 p.ti, .int .i64 p.ne, .int .i64 p.fa, .slice (some ⟨g, 0, none⟩) len cap'] 26 := HX.out.put 7 _
  have hq5 : Box (w4.setCell ⟨w1.heap.size, 7, none⟩ (.slice (some ⟨g, 0, none⟩) len cap')) g cur.toList 47 := HBG.out.other (by omega) _ _
  generalize (w4.setCell ⟨w1.heap.size, 7, none⟩ (.slice (some ⟨g, 0, none⟩) len cap')) = w5 at *
  have C5 := hx5.facts
  simp only [CellsFrom, Nat.zero_add, Nat.reduceAdd, and_true] at C5
  have F5 := hx5.free
  have FG5 := hq5.free
  have hgl := hq5.lt
  have HX5 := Lib.hid hx5
  have HQ5 := Lib.hid hq5
  have HG5 := Lib.hid hg5
  clear hc hf hz hc4 hf4 hz4 C3 F3 HG4 HBG HX hg4 HN HFL HONE HOWN II0 IZ0 IZ1 IZ2 HG3
  obtain ⟨hc, hf, hz⟩ := bcell HG5.out
  go_quiet (fail)
  have hgd : Gr w5 (w5.drewN nq) := Gr.drewN _ _
  have hg6 := HG5.out.tr hgd
  have hx6 := HX5.out.grow hgd
  have hq6 := HQ5.out.grow hgd
  clear hc hf hz C5 F5 FG5 hgl HX5 HQ5 HG5 hx5 hq5 hg5 hgd
  generalize w5.drewN nq = w6 at *
  clear w5
  have HG6 := Lib.hid hg6
  have HX6 := Lib.hid hx6
  have HQ6 := Lib.hid hq6
  clear hg6 hx6 hq6
  go_upto_block 0 with fail
  go_cut [79] (fun _ wc => Gr w1 wc ∧ ∃ (q : Pr) (cq : Nat), p.Nw q ∧ q.ok = true ∧ Box wc w1.heap.size [.int .i64 q.fl, .int .i64 q.fh, .int .i64 q.bl, .int .i64 q.bh, .int .i64 q.ti, .int .i64 q.ne, .int .i64 q.fa, .slice (some ⟨g, 0, none⟩) len cq] 26 ∧ ThingsAt q.l (.slice (some ⟨g, 0, none⟩) len cq) wc)
  case first =>
    obtain ⟨hc, hf, hz⟩ := bcell HG6.out
    have C6 := HX6.out.facts
    simp only [CellsFrom, Nat.zero_add, Nat.reduceAdd, and_true] at C6
    have F6 := HX6.out.free
    have G6 := HQ6.out.free
    have hgl := HQ6.out.lt
    obtain ⟨th, hth⟩ : ∃ th, p.l[m]? = some th := ⟨p.l[m]'(by rw [HLEN.out]; exact hm), List.getElem?_eq_getElem _⟩
    have P6 := ((Box.fresh w [.int .i64 p.fl, .int .i64 p.fh, .int .i64 p.bl, .int .i64 p.bh, .int .i64 p.ti, .int .i64 p.ne, .int .i64 p.fa, .slice (some ⟨b, o, none⟩) len cap] 26).grow (hg1.tr HG6.out)).facts
    simp only [CellsFrom, Nat.zero_add, Nat.reduceAdd, and_true] at P6
    have hb0 := p.bounds h4.out
    have hv0 := ((valid_iff ..).1 h4.out).1
    have HVT := Lib.hid ((hb0.things th (List.mem_of_getElem? hth)).1)
    have HTH := Lib.hid hth
    have hmi : ∀ (j : Nat) (x : Value), th.vals[j]? = some x → cur.toList[m * 9 + j]? = some x := fun j x hx => HF.out m th j x hth hx
    have X0 := HQ6.out.cell (hmi 0 _ rfl)
    have X1 := HQ6.out.cell (hmi 1 _ rfl)
    have X2 := HQ6.out.cell (hmi 2 _ rfl)
    have X3 := HQ6.out.cell (hmi 3 _ rfl)
    have X4 := HQ6.out.cell (hmi 4 _ rfl)
    have X5 := HQ6.out.cell (hmi 5 _ rfl)
    have X6 := HQ6.out.cell (hmi 6 _ rfl)
    have X7 := HQ6.out.cell (hmi 7 _ rfl)
    have X8 := HQ6.out.cell (hmi 8 _ rfl)
    simp only [Nat.add_zero] at X0
    have HMI := Lib.hid hmi
    have q5 : IntKind.i64.wrap (k.tdiv 5) = k / 5 := by rw [Int.tdiv_eq_ediv_of_nonneg hk.1]; exact wraps_i64 _ (by omega) (by omega)
    have q7 : IntKind.i64.wrap (k.tdiv 7) = k / 7 := by rw [Int.tdiv_eq_ediv_of_nonneg hk.1]; exact wraps_i64 _ (by omega) (by omega)
    have k5 : 0 ≤ k / 5 ∧ k / 5 ≤ 1000 := by omega
    have k7 : 0 ≤ k / 7 ∧ k / 7 ≤ 1000 := by omega
    have hgx := Nat.ne_of_lt hgw
    have hml : m < p.l.length := by rw [HLEN.out]; exact hm
    clear hth hmi hb0
    have et : wrap64 (p.ti - k / 5) = p.ti - k / 5 := IntWalk.wrap64_in _ ⟨by omega, by omega⟩
    go_wp2_with fail
    go_meet
    case rel =>
      refine ⟨(Below.setCell HG6.out (by first | exact Nat.le_refl _ | (simp; done) | (simp; omega) | omega) _), { p with ti := (p.ti - k / 5) }, cap', (nw_tilt (t := (p.ti - k / 5)) h4.out (by omega) (by omega)).1, (nw_tilt (t := (p.ti - k / 5)) h4.out (by omega) (by omega)).2, HX6.out.put 4 _, ?_⟩
      exact things_box (by first | exact HLEN.out | (rw [List.length_set]; exact HLEN.out)) (HQ6.out.other (by omega) _ _) (by omega) (HF.out)
  case rest =>
    obtain ⟨hgc, q, cq, hnw, hqk, hbx, hqt⟩ := hcut
    rename_i KK hKK
    exact hKK _ _ (lmore_rest p q _ _ len cap cq n w.heap.size w1.heap.size w wc (Lib.hid fun W hg => TH.out _ ((hg1.tr hgc).tr hg)) hqt ((Box.fresh w [.int .i64 p.fl, .int .i64 p.fh, .int .i64 p.bl, .int .i64 p.bh, .int .i64 p.ti, .int .i64 p.ne, .int .i64 p.fa, .slice (some ⟨b, o, none⟩) len cap] 26).grow (hg1.tr hgc)) hbx hnw h4.out hqk (by rw [HLEN.out]; exact hn) (Lib.hid (bgr ((Below.refl _ _).alloc (Nat.le_refl _) _) (by simp) (hg1.tr hgc))) _ _ _ _ _ _ _ _ _ _ _ _ _ _ _ _ _ _ _ _ _ _ _ _ _ _ _ _ _ _ _ _ _ _ _ _ _ _ _ _ _ _ _ _ _ _ _ _ _ _ _ _ _ _ _ _ _ _ _ _ _ _ _ _ _ _ _ _ _ _ _ _ _ _ _ _ _ _ _ _ _ _ _ _ _ _ _ _ _ _ _ _ _ _ _ _ _ _ _ _ _ _ _ _ _ _ _ _ _ _ _ _ _ _ _ _ _ _ _ _ _ _ _ _ _ _ _ _ _ _ _ _ _ _ _ _ _ _ _ _ _ _ _ _ _ _ _ _ _ _ _ _ _ _ _ _ _ _ _ _ _ _ _ _ _ _ _ _ _ _ _ _ _ _ _ _ _ _ _ _ _ _ _ _ _ _ _ _ _ _ _ _ _ _ _ _ _ _ _ _ _ _ _ _ _ _ _ _ _ _ _ _ _ _ _ _ _ _ _ _ _ _ _ _ _ _ _ _ _ _ _ _ _ _ _ _ _ _ _ _ _ _ _ _ _ _ _ _ _ _ _ _ _ _ _ _ _ _ _ _ _ _ _ _ _ _ _ _ _ _ _ _ _ _ _ _ _ _ _ _ _ _ _ _ _ _ _ _ _ _ _ _ _ _ _ _ _ _ _ _ _ _ _ _ _ _ _ _ _ _ _ _ _ _ _ _ _ _ _ _ _ _)
set_option maxRecDepth 100000 in
set_option maxHeartbeats 4000000 in
theorem lmore_ok3n (p : Pr) (sp : Option Addr) (len cap : Nat) (n : Nat) (far k : Int) (w : World) (hl : len ≤ 40) (hT : ThingsAt p.l (.slice sp len cap) w) (h5 : k % 5 = 3) (h6 : ¬ 0 < p.ti - k / 5) (hlen : p.l.length = len) (hl12 : len ≤ 12) (h4 : Hid (p.ok = true)) (hn : n < len) (hk : 0 ≤ k ∧ k ≤ 255) :
    Calls Try.prog 10 #[.agg #[.int .i64 p.fl, .int .i64 p.fh, .int .i64 p.bl, .int .i64 p.bh, .int .i64 p.ti, .int .i64 p.ne, .int .i64 p.fa, .slice sp len cap], .int .i64 n, .int .i64 far, .int .u8 k] w fun e w' => e = .returned (.bool true) ∧ Below w.heap.size w w' := by
  have d : decide (40 < (len : Int)) = false := by simp; omega
  have d' : decide (40 < len) = false := by simp; omega
  have x1 : ((len : Int) == 0) = false := by simp; omega
  have x2 : (len == 0) = false := by simp; omega
  have x3 : decide ((n : Int) < 0) = false := by simp
  have x4 : decide ((len : Int) ≤ n) = false := by simp; omega
  have x5 : decide (len ≤ n) = false := by simp; omega
  have TH := Lib.hid (fun (W : World) (hg : Gr (w.alloc (.cells #[.int .i64 p.fl, .int .i64 p.fh, .int .i64 p.bl, .int .i64 p.bh, .int .i64 p.ti, .int .i64 p.ne, .int .i64 p.fa, .slice sp len cap] 26)) W) => ThingsAt.lasts p.l _ _ _ hT ((Gr.alloc _ _).tr hg))
  obtain ⟨m, hm, hmk⟩ : ∃ m : Nat, m < len ∧ k % (len : Int) = m := ⟨(k % len).toNat, by have := Int.emod_lt_of_pos k (show (0 : Int) < len by omega); have := Int.emod_nonneg k (show (len : Int) ≠ 0 by omega); omega, by have := Int.emod_nonneg k (show (len : Int) ≠ 0 by omega); omega⟩
  have HLEN := Lib.hid hlen
  obtain ⟨i0, ii0, iz0, iz1, iz2⟩ := info_parts Try.info47
  have II0 := Lib.hid ii0
  have IZ0 := Lib.hid iz0
  have IZ1 := Lib.hid iz1
  have IZ2 := Lib.hid iz2
  clear ii0 iz0 iz1 iz2 hl hT hlen
  go_enter Try.func10, Try.ntmps10
  go_wp2_with fail
  refine (rpair_is h4.out (TH.out _ (Gr.same _))).mono ?_
  rintro e w1 ⟨rfl, hb1⟩
  have hg1 : Gr _ _ := hb1
  obtain ⟨hc, hf, hz⟩ := bcell hg1
  have hs1 : w.heap.size < w1.heap.size := hz _ (by simp)
  have hB1 := ((Box.fresh w [.int .i64 p.fl, .int .i64 p.fh, .int .i64 p.bl, .int .i64 p.bh, .int .i64 p.ti, .int .i64 p.ne, .int .i64 p.fa, .slice sp len cap] 26).grow hg1).facts
  simp only [CellsFrom, Nat.zero_add, Nat.reduceAdd, and_true] at hB1
  have hg3 : Gr w1 ((w1.alloc (.cells #[.int .i64 p.fl, .int .i64 p.fh, .int .i64 p.bl, .int .i64 p.bh, .int .i64 p.ti, .int .i64 p.ne, .int .i64 p.fa, .slice sp len cap] 26)).alloc (.cells #[] 47)) := (Gr.alloc _ _).tr (Gr.alloc _ _)
  have hT3 := TH.out _ (hg1.tr hg3)
  obtain ⟨-, hT3⟩ := hT3
  rcases hT3 with ⟨e, -⟩ | ⟨b, o, cap', hsp, hbl, hcc⟩
  · have := HLEN.out; rw [e] at this; simp at this; omega
  obtain ⟨hsp1, -, -⟩ : sp = some ⟨b, o, none⟩ ∧ len = p.l.length ∧ cap = cap' := by simpa using hsp
  subst hsp1
  have HN := Lib.hid (news_things hcc)
  have HFL := Lib.hid (show (p.l.flatMap Th.vals).length = len * 9 from by rw [← HLEN.out]; exact th_flat_len p.l)
  have HONE := Lib.hid (show ∀ u ∈ p.l.flatMap Th.vals, u.oneCell' = true from fun u hu => by
    obtain ⟨t, -, h⟩ := List.mem_flatMap.1 hu
    exact t.one u h)
  have HOWN := Lib.hid (show ((w1.alloc (.cells #[.int .i64 p.fl, .int .i64 p.fh, .int .i64 p.bl, .int .i64 p.bh, .int .i64 p.ti, .int .i64 p.ne, .int .i64 p.fa, .slice (some ⟨b, o, none⟩) len cap] 26)).alloc (.cells #[] 47)).ownsRow (w1.heap.size + 1) 47 9 (.slice (some ⟨w1.heap.size + 1, 0, none⟩) 0 0) 0 [] from by
    refine ⟨rfl, .inr ⟨w1.heap.size + 1, 0, #[], rfl, Nat.le_refl _, ?_, Nat.le_refl _, Nat.zero_le _, rfl, rfl⟩⟩
    have := heap_new (w1.alloc (.cells #[.int .i64 p.fl, .int .i64 p.fh, .int .i64 p.bl, .int .i64 p.bh, .int .i64 p.ti, .int .i64 p.ne, .int .i64 p.fa, .slice (some ⟨b, o, none⟩) len cap] 26)) (.cells #[] 47)
    simpa using this)
  have HG3 := Lib.hid hg3
  clear hsp hcc hg3
  go_wp2_with (at_builtin; refine wpList_append_lies _ rfl _ _ 24 rfl (w1.heap.size + 1) 47 i0 _ 9 72 Try.underlying24 II0.out IZ0.out IZ1.out IZ2.out rfl (by decide) _ _ _ rfl HOWN.out ⟨b, o, none⟩ len cap (p.l.flatMap Th.vals) rfl HFL.out HN.out HONE.out ?c1 ?c2 ?c3 ?c4 _ rfl ?_)
  case c1 => omega
  case c2 => unfold maxLen; omega
  case c3 => omega
  case c4 => simp
  intro g cap' w4 hown1 hgrow hat hlt
  try simp only [Nat.zero_add, List.nil_append] at hown1
  obtain ⟨-, hown1⟩ := hown1
  rcases hown1 with ⟨hv, -⟩ | ⟨g', cap'', cur, hv, hge, hcur, hcc, hcm, hcs, hct⟩
  · cases hv
  obtain ⟨rfl, -, rfl⟩ : g = g' ∧ len = len ∧ cap' = cap'' := by simpa using hv
  have hgw : w1.heap.size + 1 ≤ g := hge
  have HBG := Lib.hid (show Box w4 g cur.toList 47 from by unfold Box; simpa using hcur)
  have HX := Lib.hid (show Box w4 w1.heap.size [.int .i64 p.fl, .int .i64 p.fh, .int .i64 p.bl, .int .i64 p.bh, .int .i64 p.ti, .int .i64 p.ne, .int .i64 p.fa, .slice (some ⟨b, o, none⟩) len cap] 26 from by
    have h1 : Box ((w1.alloc (.cells #[.int .i64 p.fl, .int .i64 p.fh, .int .i64 p.bl, .int .i64 p.bh, .int .i64 p.ti, .int .i64 p.ne, .int .i64 p.fa, .slice (some ⟨b, o, none⟩) len cap] 26)).alloc (.cells #[] 47)) w1.heap.size [.int .i64 p.fl, .int .i64 p.fh, .int .i64 p.bl, .int .i64 p.bh, .int .i64 p.ti, .int .i64 p.ne, .int .i64 p.fa, .slice (some ⟨b, o, none⟩) len cap] 26 := (Box.fresh w1 [.int .i64 p.fl, .int .i64 p.fh, .int .i64 p.bl, .int .i64 p.bh, .int .i64 p.ti, .int .i64 p.ne, .int .i64 p.fa, .slice (some ⟨b, o, none⟩) len cap] 26).grow (Gr.alloc _ _)
    exact h1.grown hgrow (by simp [Value.ownBlock]))
  have hg4 : Gr w1 w4 := by
    have h1 : Below w1.heap.size w1 ((w1.alloc (.cells #[.int .i64 p.fl, .int .i64 p.fh, .int .i64 p.bl, .int .i64 p.bh, .int .i64 p.ti, .int .i64 p.ne, .int .i64 p.fa, .slice (some ⟨b, o, none⟩) len cap] 26)).alloc (.cells #[] 47)) := HG3.out
    exact h1.grown hgrow h1.size (fun q e => by simp [Value.ownBlock] at e; omega)
  have hxs : w1.heap.size < w4.heap.size := HX.out.lt
  have HF := Lib.hid (show ∀ (i : Nat) (t : Th) (j : Nat) (x : Value), p.l[i]? = some t → t.vals[j]? = some x → cur.toList[i * 9 + j]? = some x from fun i t j x hi hx => flat_take (by rw [← HLEN.out] at hct; exact hct) hi hx)
  have C3 := HX.out.facts
  simp only [CellsFrom, Nat.zero_add, Nat.reduceAdd, and_true] at C3
  have F3 := HX.out.free
  have HG4 := Lib.hid hg4
  obtain ⟨hc4, hf4, hz4⟩ := bcell hg4
  have n1 : ¬ w1.heap.size = g := by omega
  have n3 : ¬ g = w1.heap.size := by omega
  have n5 : ¬ w1.heap.size = w.heap.size := by omega
  have n6 : ¬ w.heap.size = w1.heap.size := by omega
  have n7 : ¬ w.heap.size = g := by omega
  have n8 : ¬ g = w.heap.size := by omega
  clear hv hcur hcc hcm hcs hct hgrow hat hge
  go_wp2_with fail
  have hg5 : Gr w1 (w4.setCell ⟨w1.heap.size, 7, none⟩ (.slice (some ⟨g, 0, none⟩) len cap')) := Below.setCell HG4.out (Nat.le_refl _) _
  have hx5 : Box (w4.setCell ⟨w1.heap.size, 7, none⟩ (.slice (some ⟨g, 0, none⟩) len cap')) w1.heap.size [.int .i64 p.fl, .int .i64 p.fh, .int .i64 p.bl, .int .i64 p.bh, .int .i64 p.ti, .int .i64 p.ne, .int .i64 p.fa, .slice (some ⟨g, 0, none⟩) len cap'] 26 := HX.out.put 7 _
  have hq5 : Box (w4.setCell ⟨w1.heap.size, 7, none⟩ (.slice (some ⟨g, 0, none⟩) len cap')) g cur.toList 47 := HBG.out.other (by omega) _ _
  generalize (w4.setCell ⟨w1.heap.size, 7, none⟩ (.slice (some ⟨g, 0, none⟩) len cap')) = w5 at *
  have C5 := hx5.facts
  simp only [CellsFrom, Nat.zero_add, Nat.reduceAdd, and_true] at C5
  have F5 := hx5.free
  have FG5 := hq5.free
  have hgl := hq5.lt
  have HX5 := Lib.hid hx5
  have HQ5 := Lib.hid hq5
  have HG5 := Lib.hid hg5
  clear hc hf hz hc4 hf4 hz4 C3 F3 HG4 HBG HX hg4 HN HFL HONE HOWN II0 IZ0 IZ1 IZ2 HG3
  obtain ⟨hc, hf, hz⟩ := bcell HG5.out
  go_quiet (fail)
  have hgd : Gr w5 (w5.drewN nq) := Gr.drewN _ _
  have hg6 := HG5.out.tr hgd
  have hx6 := HX5.out.grow hgd
  have hq6 := HQ5.out.grow hgd
  clear hc hf hz C5 F5 FG5 hgl HX5 HQ5 HG5 hx5 hq5 hg5 hgd
  generalize w5.drewN nq = w6 at *
  clear w5
  have HG6 := Lib.hid hg6
  have HX6 := Lib.hid hx6
  have HQ6 := Lib.hid hq6
  clear hg6 hx6 hq6
  go_upto_block 0 with fail
  go_cut [79] (fun _ wc => Gr w1 wc ∧ ∃ (q : Pr) (cq : Nat), p.Nw q ∧ q.ok = true ∧ Box wc w1.heap.size [.int .i64 q.fl, .int .i64 q.fh, .int .i64 q.bl, .int .i64 q.bh, .int .i64 q.ti, .int .i64 q.ne, .int .i64 q.fa, .slice (some ⟨g, 0, none⟩) len cq] 26 ∧ ThingsAt q.l (.slice (some ⟨g, 0, none⟩) len cq) wc)
  case first =>
    obtain ⟨hc, hf, hz⟩ := bcell HG6.out
    have C6 := HX6.out.facts
    simp only [CellsFrom, Nat.zero_add, Nat.reduceAdd, and_true] at C6
    have F6 := HX6.out.free
    have G6 := HQ6.out.free
    have hgl := HQ6.out.lt
    obtain ⟨th, hth⟩ : ∃ th, p.l[m]? = some th := ⟨p.l[m]'(by rw [HLEN.out]; exact hm), List.getElem?_eq_getElem _⟩
    have P6 := ((Box.fresh w [.int .i64 p.fl, .int .i64 p.fh, .int .i64 p.bl, .int .i64 p.bh, .int .i64 p.ti, .int .i64 p.ne, .int .i64 p.fa, .slice (some ⟨b, o, none⟩) len cap] 26).grow (hg1.tr HG6.out)).facts
    simp only [CellsFrom, Nat.zero_add, Nat.reduceAdd, and_true] at P6
    have hb0 := p.bounds h4.out
    have hv0 := ((valid_iff ..).1 h4.out).1
    have HVT := Lib.hid ((hb0.things th (List.mem_of_getElem? hth)).1)
    have HTH := Lib.hid hth
    have hmi : ∀ (j : Nat) (x : Value), th.vals[j]? = some x → cur.toList[m * 9 + j]? = some x := fun j x hx => HF.out m th j x hth hx
    have X0 := HQ6.out.cell (hmi 0 _ rfl)
    have X1 := HQ6.out.cell (hmi 1 _ rfl)
    have X2 := HQ6.out.cell (hmi 2 _ rfl)
    have X3 := HQ6.out.cell (hmi 3 _ rfl)
    have X4 := HQ6.out.cell (hmi 4 _ rfl)
    have X5 := HQ6.out.cell (hmi 5 _ rfl)
    have X6 := HQ6.out.cell (hmi 6 _ rfl)
    have X7 := HQ6.out.cell (hmi 7 _ rfl)
    have X8 := HQ6.out.cell (hmi 8 _ rfl)
    simp only [Nat.add_zero] at X0
    have HMI := Lib.hid hmi
    have q5 : IntKind.i64.wrap (k.tdiv 5) = k / 5 := by rw [Int.tdiv_eq_ediv_of_nonneg hk.1]; exact wraps_i64 _ (by omega) (by omega)
    have q7 : IntKind.i64.wrap (k.tdiv 7) = k / 7 := by rw [Int.tdiv_eq_ediv_of_nonneg hk.1]; exact wraps_i64 _ (by omega) (by omega)
    have k5 : 0 ≤ k / 5 ∧ k / 5 ≤ 1000 := by omega
    have k7 : 0 ≤ k / 7 ∧ k / 7 ≤ 1000 := by omega
    have hgx := Nat.ne_of_lt hgw
    have hml : m < p.l.length := by rw [HLEN.out]; exact hm
    clear hth hmi hb0
    have et : wrap64 (p.ti - k / 5) = p.ti - k / 5 := IntWalk.wrap64_in _ ⟨by omega, by omega⟩
    go_wp2_with fail
    go_meet
    case rel =>
      refine ⟨(Below.setCell HG6.out (by first | exact Nat.le_refl _ | (simp; done) | (simp; omega) | omega) _), { p with ti := 0 }, cap', (nw_tilt (t := 0) h4.out (by omega) (by omega)).1, (nw_tilt (t := 0) h4.out (by omega) (by omega)).2, HX6.out.put 4 _, ?_⟩
      exact things_box (by first | exact HLEN.out | (rw [List.length_set]; exact HLEN.out)) (HQ6.out.other (by omega) _ _) (by omega) (HF.out)
  case rest =>
    obtain ⟨hgc, q, cq, hnw, hqk, hbx, hqt⟩ := hcut
    rename_i KK hKK
    exact hKK _ _ (lmore_rest p q _ _ len cap cq n w.heap.size w1.heap.size w wc (Lib.hid fun W hg => TH.out _ ((hg1.tr hgc).tr hg)) hqt ((Box.fresh w [.int .i64 p.fl, .int .i64 p.fh, .int .i64 p.bl, .int .i64 p.bh, .int .i64 p.ti, .int .i64 p.ne, .int .i64 p.fa, .slice (some ⟨b, o, none⟩) len cap] 26).grow (hg1.tr hgc)) hbx hnw h4.out hqk (by rw [HLEN.out]; exact hn) (Lib.hid (bgr ((Below.refl _ _).alloc (Nat.le_refl _) _) (by simp) (hg1.tr hgc))) _ _ _ _ _ _ _ _ _ _ _ _ _ _ _ _ _ _ _ _ _ _ _ _ _ _ _ _ _ _ _ _ _ _ _ _ _ _ _ _ _ _ _ _ _ _ _ _ _ _ _ _ _ _ _ _ _ _ _ _ _ _ _ _ _ _ _ _ _ _ _ _ _ _ _ _ _ _ _ _ _ _ _ _ _ _ _ _ _ _ _ _ _ _ _ _ _ _ _ _ _ _ _ _ _ _ _ _ _ _ _ _ _ _ _ _ _ _ _ _ _ _ _ _ _ _ _ _ _ _ _ _ _ _ _ _ _ _ _ _ _ _ _ _ _ _ _ _ _ _ _ _ _ _ _ _ _ _ _ _ _ _ _ _ _ _ _ _ _ _ _ _ _ _ _ _ _ _ _ _ _ _ _ _ _ _ _ _ _ _ _ _ _ _ _ _ _ _ _ _ _ _ _ _ _ _ _ _ _ _ _ _ _ _ _ _ _ _ _ _ _ _ _ _ _ _ _ _ _ _ _ _ _ _ _ _ _ _ _ _ _ _ _ _ _ _ _ _ _ _ _ _ _ _ _ _ _ _ _ _ _ _ _ _ _ _ _ _ _ _ _ _ _ _ _ _ _ _ _ _ _ _ _ _ _ _ _ _ _ _ _ _ _ _ _ _ _ _ _ _ _ _ _ _ _ _ _ _ _ _ _ _ _ _ _ _ _ _ _ _ _ _)
set_option maxRecDepth 100000 in
set_option maxHeartbeats 4000000 in
theorem lmore_ok4a (p : Pr) (sp : Option Addr) (len cap : Nat) (n : Nat) (far k : Int) (w : World) (hl : len ≤ 40) (hT : ThingsAt p.l (.slice sp len cap) w) (h5 : k % 5 = 4) (HZ : Hid (∀ t, p.l[(k % (len : Int)).toNat]? = some t → t.z = 0)) (HFAR : Hid (p.ne ≤ far ∧ far ≤ p.fa)) (hlen : p.l.length = len) (hl12 : len ≤ 12) (h4 : Hid (p.ok = true)) (hn : n < len) (hk : 0 ≤ k ∧ k ≤ 255) :
    Calls Try.prog 10 #[.agg #[.int .i64 p.fl, .int .i64 p.fh, .int .i64 p.bl, .int .i64 p.bh, .int .i64 p.ti, .int .i64 p.ne, .int .i64 p.fa, .slice sp len cap], .int .i64 n, .int .i64 far, .int .u8 k] w fun e w' => e = .returned (.bool true) ∧ Below w.heap.size w w' := by
  have d : decide (40 < (len : Int)) = false := by simp; omega
  have d' : decide (40 < len) = false := by simp; omega
  have x1 : ((len : Int) == 0) = false := by simp; omega
  have x2 : (len == 0) = false := by simp; omega
  have x3 : decide ((n : Int) < 0) = false := by simp
  have x4 : decide ((len : Int) ≤ n) = false := by simp; omega
  have x5 : decide (len ≤ n) = false := by simp; omega
  have TH := Lib.hid (fun (W : World) (hg : Gr (w.alloc (.cells #[.int .i64 p.fl, .int .i64 p.fh, .int .i64 p.bl, .int .i64 p.bh, .int .i64 p.ti, .int .i64 p.ne, .int .i64 p.fa, .slice sp len cap] 26)) W) => ThingsAt.lasts p.l _ _ _ hT ((Gr.alloc _ _).tr hg))
  obtain ⟨m, hm, hmk⟩ : ∃ m : Nat, m < len ∧ k % (len : Int) = m := ⟨(k % len).toNat, by have := Int.emod_lt_of_pos k (show (0 : Int) < len by omega); have := Int.emod_nonneg k (show (len : Int) ≠ 0 by omega); omega, by have := Int.emod_nonneg k (show (len : Int) ≠ 0 by omega); omega⟩
  have HLEN := Lib.hid hlen
  obtain ⟨i0, ii0, iz0, iz1, iz2⟩ := info_parts Try.info47
  have II0 := Lib.hid ii0
  have IZ0 := Lib.hid iz0
  have IZ1 := Lib.hid iz1
  have IZ2 := Lib.hid iz2
  clear ii0 iz0 iz1 iz2 hl hT hlen
  go_enter Try.func10, Try.ntmps10
  go_wp2_with fail
  refine (rpair_is h4.out (TH.out _ (Gr.same _))).mono ?_
  rintro e w1 ⟨rfl, hb1⟩
  have hg1 : Gr _ _ := hb1
  obtain ⟨hc, hf, hz⟩ := bcell hg1
  have hs1 : w.heap.size < w1.heap.size := hz _ (by simp)
  have hB1 := ((Box.fresh w [.int .i64 p.fl, .int .i64 p.fh, .int .i64 p.bl, .int .i64 p.bh, .int .i64 p.ti, .int .i64 p.ne, .int .i64 p.fa, .slice sp len cap] 26).grow hg1).facts
  simp only [CellsFrom, Nat.zero_add, Nat.reduceAdd, and_true] at hB1
  have hg3 : Gr w1 ((w1.alloc (.cells #[.int .i64 p.fl, .int .i64 p.fh, .int .i64 p.bl, .int .i64 p.bh, .int .i64 p.ti, .int .i64 p.ne, .int .i64 p.fa, .slice sp len cap] 26)).alloc (.cells #[] 47)) := (Gr.alloc _ _).tr (Gr.alloc _ _)
  have hT3 := TH.out _ (hg1.tr hg3)
  obtain ⟨-, hT3⟩ := hT3
  rcases hT3 with ⟨e, -⟩ | ⟨b, o, cap', hsp, hbl, hcc⟩
  · have := HLEN.out; rw [e] at this; simp at this; omega
  obtain ⟨hsp1, -, -⟩ : sp = some ⟨b, o, none⟩ ∧ len = p.l.length ∧ cap = cap' := by simpa using hsp
  subst hsp1
  have HN := Lib.hid (news_things hcc)
  have HFL := Lib.hid (show (p.l.flatMap Th.vals).length = len * 9 from by rw [← HLEN.out]; exact th_flat_len p.l)
  have HONE := Lib.hid (show ∀ u ∈ p.l.flatMap Th.vals, u.oneCell' = true from fun u hu => by
    obtain ⟨t, -, h⟩ := List.mem_flatMap.1 hu
    exact t.one u h)
  have HOWN := Lib.hid (show ((w1.alloc (.cells #[.int .i64 p.fl, .int .i64 p.fh, .int .i64 p.bl, .int .i64 p.bh, .int .i64 p.ti, .int .i64 p.ne, .int .i64 p.fa, .slice (some ⟨b, o, none⟩) len cap] 26)).alloc (.cells #[] 47)).ownsRow (w1.heap.size + 1) 47 9 (.slice (some ⟨w1.heap.size + 1, 0, none⟩) 0 0) 0 [] from by
    refine ⟨rfl, .inr ⟨w1.heap.size + 1, 0, #[], rfl, Nat.le_refl _, ?_, Nat.le_refl _, Nat.zero_le _, rfl, rfl⟩⟩
    have := heap_new (w1.alloc (.cells #[.int .i64 p.fl, .int .i64 p.fh, .int .i64 p.bl, .int .i64 p.bh, .int .i64 p.ti, .int .i64 p.ne, .int .i64 p.fa, .slice (some ⟨b, o, none⟩) len cap] 26)) (.cells #[] 47)
    simpa using this)
  have HG3 := Lib.hid hg3
  clear hsp hcc hg3
  go_wp2_with (at_builtin; refine wpList_append_lies _ rfl _ _ 24 rfl (w1.heap.size + 1) 47 i0 _ 9 72 Try.underlying24 II0.out IZ0.out IZ1.out IZ2.out rfl (by decide) _ _ _ rfl HOWN.out ⟨b, o, none⟩ len cap (p.l.flatMap Th.vals) rfl HFL.out HN.out HONE.out ?c1 ?c2 ?c3 ?c4 _ rfl ?_)
  case c1 => omega
  case c2 => unfold maxLen; omega
  case c3 => omega
  case c4 => simp
  intro g cap' w4 hown1 hgrow hat hlt
  try simp only [Nat.zero_add, List.nil_append] at hown1
  obtain ⟨-, hown1⟩ := hown1
  rcases hown1 with ⟨hv, -⟩ | ⟨g', cap'', cur, hv, hge, hcur, hcc, hcm, hcs, hct⟩
  · cases hv
  obtain ⟨rfl, -, rfl⟩ : g = g' ∧ len = len ∧ cap' = cap'' := by simpa using hv
  have hgw : w1.heap.size + 1 ≤ g := hge
  have HBG := Lib.hid (show Box w4 g cur.toList 47 from by unfold Box; simpa using hcur)
  have HX := Lib.hid (show Box w4 w1.heap.size [.int .i64 p.fl, .int .i64 p.fh, .int .i64 p.bl, .int .i64 p.bh, .int .i64 p.ti, .int .i64 p.ne, .int .i64 p.fa, .slice (some ⟨b, o, none⟩) len cap] 26 from by
    have h1 : Box ((w1.alloc (.cells #[.int .i64 p.fl, .int .i64 p.fh, .int .i64 p.bl, .int .i64 p.bh, .int .i64 p.ti, .int .i64 p.ne, .int .i64 p.fa, .slice (some ⟨b, o, none⟩) len cap] 26)).alloc (.cells #[] 47)) w1.heap.size [.int .i64 p.fl, .int .i64 p.fh, .int .i64 p.bl, .int .i64 p.bh, .int .i64 p.ti, .int .i64 p.ne, .int .i64 p.fa, .slice (some ⟨b, o, none⟩) len cap] 26 := (Box.fresh w1 [.int .i64 p.fl, .int .i64 p.fh, .int .i64 p.bl, .int .i64 p.bh, .int .i64 p.ti, .int .i64 p.ne, .int .i64 p.fa, .slice (some ⟨b, o, none⟩) len cap] 26).grow (Gr.alloc _ _)
    exact h1.grown hgrow (by simp [Value.ownBlock]))
  have hg4 : Gr w1 w4 := by
    have h1 : Below w1.heap.size w1 ((w1.alloc (.cells #[.int .i64 p.fl, .int .i64 p.fh, .int .i64 p.bl, .int .i64 p.bh, .int .i64 p.ti, .int .i64 p.ne, .int .i64 p.fa, .slice (some ⟨b, o, none⟩) len cap] 26)).alloc (.cells #[] 47)) := HG3.out
    exact h1.grown hgrow h1.size (fun q e => by simp [Value.ownBlock] at e; omega)
  have hxs : w1.heap.size < w4.heap.size := HX.out.lt
  have HF := Lib.hid (show ∀ (i : Nat) (t : Th) (j : Nat) (x : Value), p.l[i]? = some t → t.vals[j]? = some x → cur.toList[i * 9 + j]? = some x from fun i t j x hi hx => flat_take (by rw [← HLEN.out] at hct; exact hct) hi hx)
  have C3 := HX.out.facts
  simp only [CellsFrom, Nat.zero_add, Nat.reduceAdd, and_true] at C3
  have F3 := HX.out.free
  have HG4 := Lib.hid hg4
  obtain ⟨hc4, hf4, hz4⟩ := bcell hg4
  have n1 : ¬ w1.heap.size = g := by omega
  have n3 : ¬ g = w1.heap.size := by omega
  have n5 : ¬ w1.heap.size = w.heap.size := by omega
  have n6 : ¬ w.heap.size = w1.heap.size := by omega
  have n7 : ¬ w.heap.size = g := by omega
  have n8 : ¬ g = w.heap.size := by omega
  clear hv hcur hcc hcm hcs hct hgrow hat hge
  go_wp2_with fail
  have hg5 : Gr w1 (w4.setCell ⟨w1.heap.size, 7, none⟩ (.slice (some ⟨g, 0, none⟩) len cap')) := Below.setCell HG4.out (Nat.le_refl _) _
  have hx5 : Box (w4.setCell ⟨w1.heap.size, 7, none⟩ (.slice (some ⟨g, 0, none⟩) len cap')) w1.heap.size [.int .i64 p.fl, .int .i64 p.fh, .int .i64 p.bl, .int .i64 p.bh, .int .i64 p.ti, .int .i64 p.ne, .int .i64 p.fa, .slice (some ⟨g, 0, none⟩) len cap'] 26 := HX.out.put 7 _
  have hq5 : Box (w4.setCell ⟨w1.heap.size, 7, none⟩ (.slice (some ⟨g, 0, none⟩) len cap')) g cur.toList 47 := HBG.out.other (by omega) _ _
  generalize (w4.setCell ⟨w1.heap.size, 7, none⟩ (.slice (some ⟨g, 0, none⟩) len cap')) = w5 at *
  have C5 := hx5.facts
  simp only [CellsFrom, Nat.zero_add, Nat.reduceAdd, and_true] at C5
  have F5 := hx5.free
  have FG5 := hq5.free
  have hgl := hq5.lt
  have HX5 := Lib.hid hx5
  have HQ5 := Lib.hid hq5
  have HG5 := Lib.hid hg5
  clear hc hf hz hc4 hf4 hz4 C3 F3 HG4 HBG HX hg4 HN HFL HONE HOWN II0 IZ0 IZ1 IZ2 HG3
  obtain ⟨hc, hf, hz⟩ := bcell HG5.out
  go_quiet (fail)
  have hgd : Gr w5 (w5.drewN nq) := Gr.drewN _ _
  have hg6 := HG5.out.tr hgd
  have hx6 := HX5.out.grow hgd
  have hq6 := HQ5.out.grow hgd
  clear hc hf hz C5 F5 FG5 hgl HX5 HQ5 HG5 hx5 hq5 hg5 hgd
  generalize w5.drewN nq = w6 at *
  clear w5
  have HG6 := Lib.hid hg6
  have HX6 := Lib.hid hx6
  have HQ6 := Lib.hid hq6
  clear hg6 hx6 hq6
  go_upto_block 0 with fail
  go_cut [79] (fun _ wc => Gr w1 wc ∧ ∃ (q : Pr) (cq : Nat), p.Nw q ∧ q.ok = true ∧ Box wc w1.heap.size [.int .i64 q.fl, .int .i64 q.fh, .int .i64 q.bl, .int .i64 q.bh, .int .i64 q.ti, .int .i64 q.ne, .int .i64 q.fa, .slice (some ⟨g, 0, none⟩) len cq] 26 ∧ ThingsAt q.l (.slice (some ⟨g, 0, none⟩) len cq) wc)
  case first =>
    obtain ⟨hc, hf, hz⟩ := bcell HG6.out
    have C6 := HX6.out.facts
    simp only [CellsFrom, Nat.zero_add, Nat.reduceAdd, and_true] at C6
    have F6 := HX6.out.free
    have G6 := HQ6.out.free
    have hgl := HQ6.out.lt
    obtain ⟨th, hth⟩ : ∃ th, p.l[m]? = some th := ⟨p.l[m]'(by rw [HLEN.out]; exact hm), List.getElem?_eq_getElem _⟩
    have P6 := ((Box.fresh w [.int .i64 p.fl, .int .i64 p.fh, .int .i64 p.bl, .int .i64 p.bh, .int .i64 p.ti, .int .i64 p.ne, .int .i64 p.fa, .slice (some ⟨b, o, none⟩) len cap] 26).grow (hg1.tr HG6.out)).facts
    simp only [CellsFrom, Nat.zero_add, Nat.reduceAdd, and_true] at P6
    have hb0 := p.bounds h4.out
    have hv0 := ((valid_iff ..).1 h4.out).1
    have HVT := Lib.hid ((hb0.things th (List.mem_of_getElem? hth)).1)
    have HTH := Lib.hid hth
    have hmi : ∀ (j : Nat) (x : Value), th.vals[j]? = some x → cur.toList[m * 9 + j]? = some x := fun j x hx => HF.out m th j x hth hx
    have X0 := HQ6.out.cell (hmi 0 _ rfl)
    have X1 := HQ6.out.cell (hmi 1 _ rfl)
    have X2 := HQ6.out.cell (hmi 2 _ rfl)
    have X3 := HQ6.out.cell (hmi 3 _ rfl)
    have X4 := HQ6.out.cell (hmi 4 _ rfl)
    have X5 := HQ6.out.cell (hmi 5 _ rfl)
    have X6 := HQ6.out.cell (hmi 6 _ rfl)
    have X7 := HQ6.out.cell (hmi 7 _ rfl)
    have X8 := HQ6.out.cell (hmi 8 _ rfl)
    simp only [Nat.add_zero] at X0
    have HMI := Lib.hid hmi
    have q5 : IntKind.i64.wrap (k.tdiv 5) = k / 5 := by rw [Int.tdiv_eq_ediv_of_nonneg hk.1]; exact wraps_i64 _ (by omega) (by omega)
    have q7 : IntKind.i64.wrap (k.tdiv 7) = k / 7 := by rw [Int.tdiv_eq_ediv_of_nonneg hk.1]; exact wraps_i64 _ (by omega) (by omega)
    have k5 : 0 ≤ k / 5 ∧ k / 5 ≤ 1000 := by omega
    have k7 : 0 ≤ k / 7 ∧ k / 7 ≤ 1000 := by omega
    have hgx := Nat.ne_of_lt hgw
    have hml : m < p.l.length := by rw [HLEN.out]; exact hm
    clear hth hmi hb0
    rw [hmk, Int.toNat_natCast] at HZ
    have z0 : th.z = 0 := HZ.out th HTH.out
    have z1 : (th.z == 0) = true := by simpa using z0
    have f1 : p.ne ≤ far := HFAR.out.1
    have f3 : far ≤ p.fa := HFAR.out.2
    have f2 : decide (p.ne ≤ far) = true := decide_eq_true f1
    have f4 : decide (far ≤ p.fa) = true := decide_eq_true f3
    have Z0 := Lib.hid z0
    have F1 := Lib.hid f1
    have F3 := Lib.hid f3
    clear z0 f1 f3
    go_wp2_with fail
    go_meet
    case rel =>
      refine ⟨(Below.setCell HG6.out (by first | exact Nat.le_refl _ | (simp; done) | (simp; omega) | omega) _), { p with l := p.l.set m { th with z := far } }, cap', (nw_z h4.out HTH.out Z0.out F1.out F3.out).1, (nw_z h4.out HTH.out Z0.out F1.out F3.out).2, HX6.out.other (by omega) _ _, ?_⟩
      exact things_box (by first | exact HLEN.out | (rw [List.length_set]; exact HLEN.out)) (HQ6.out.put (m * 9 + 8) _) (by omega) (things_put HF.out hml (vals_in (put_z HMI.out _)) (fun k' hk' => by repeat rw [List.getElem?_set_ne (by omega)]))
  case rest =>
    obtain ⟨hgc, q, cq, hnw, hqk, hbx, hqt⟩ := hcut
    rename_i KK hKK
    exact hKK _ _ (lmore_rest p q _ _ len cap cq n w.heap.size w1.heap.size w wc (Lib.hid fun W hg => TH.out _ ((hg1.tr hgc).tr hg)) hqt ((Box.fresh w [.int .i64 p.fl, .int .i64 p.fh, .int .i64 p.bl, .int .i64 p.bh, .int .i64 p.ti, .int .i64 p.ne, .int .i64 p.fa, .slice (some ⟨b, o, none⟩) len cap] 26).grow (hg1.tr hgc)) hbx hnw h4.out hqk (by rw [HLEN.out]; exact hn) (Lib.hid (bgr ((Below.refl _ _).alloc (Nat.le_refl _) _) (by simp) (hg1.tr hgc))) _ _ _ _ _ _ _ _ _ _ _ _ _ _ _ _ _ _ _ _ _ _ _ _ _ _ _ _ _ _ _ _ _ _ _ _ _ _ _ _ _ _ _ _ _ _ _ _ _ _ _ _ _ _ _ _ _ _ _ _ _ _ _ _ _ _ _ _ _ _ _ _ _ _ _ _ _ _ _ _ _ _ _ _ _ _ _ _ _ _ _ _ _ _ _ _ _ _ _ _ _ _ _ _ _ _ _ _ _ _ _ _ _ _ _ _ _ _ _ _ _ _ _ _ _ _ _ _ _ _ _ _ _ _ _ _ _ _ _ _ _ _ _ _ _ _ _ _ _ _ _ _ _ _ _ _ _ _ _ _ _ _ _ _ _ _ _ _ _ _ _ _ _ _ _ _ _ _ _ _ _ _ _ _ _ _ _ _ _ _ _ _ _ _ _ _ _ _ _ _ _ _ _ _ _ _ _ _ _ _ _ _ _ _ _ _ _ _ _ _ _ _ _ _ _ _ _ _ _ _ _ _ _ _ _ _ _ _ _ _ _ _ _ _ _ _ _ _ _ _ _ _ _ _ _ _ _ _ _ _ _ _ _ _ _ _ _ _ _ _ _ _ _ _ _ _ _ _ _ _ _ _ _ _ _ _ _ _ _ _ _ _ _ _ _ _ _ _ _ _ _ _ _ _ _ _ _ _ _ _ _ _ _ _ _ _ _ _ _ _ _ _)
set_option maxRecDepth 100000 in
set_option maxHeartbeats 4000000 in
theorem lmore_ok4n (p : Pr) (sp : Option Addr) (len cap : Nat) (n : Nat) (far k : Int) (w : World) (hl : len ≤ 40) (hT : ThingsAt p.l (.slice sp len cap) w) (h5 : k % 5 = 4) (HZ : Hid (∀ t, p.l[(k % (len : Int)).toNat]? = some t → ¬ t.z = 0 ∨ (¬ p.ne ≤ far ∨ ¬ far ≤ p.fa))) (hlen : p.l.length = len) (hl12 : len ≤ 12) (h4 : Hid (p.ok = true)) (hn : n < len) (hk : 0 ≤ k ∧ k ≤ 255) :
    Calls Try.prog 10 #[.agg #[.int .i64 p.fl, .int .i64 p.fh, .int .i64 p.bl, .int .i64 p.bh, .int .i64 p.ti, .int .i64 p.ne, .int .i64 p.fa, .slice sp len cap], .int .i64 n, .int .i64 far, .int .u8 k] w fun e w' => e = .returned (.bool true) ∧ Below w.heap.size w w' := by
  have d : decide (40 < (len : Int)) = false := by simp; omega
  have d' : decide (40 < len) = false := by simp; omega
  have x1 : ((len : Int) == 0) = false := by simp; omega
  have x2 : (len == 0) = false := by simp; omega
  have x3 : decide ((n : Int) < 0) = false := by simp
  have x4 : decide ((len : Int) ≤ n) = false := by simp; omega
  have x5 : decide (len ≤ n) = false := by simp; omega
  have TH := Lib.hid (fun (W : World) (hg : Gr (w.alloc (.cells #[.int .i64 p.fl, .int .i64 p.fh, .int .i64 p.bl, .int .i64 p.bh, .int .i64 p.ti, .int .i64 p.ne, .int .i64 p.fa, .slice sp len cap] 26)) W) => ThingsAt.lasts p.l _ _ _ hT ((Gr.alloc _ _).tr hg))
  obtain ⟨m, hm, hmk⟩ : ∃ m : Nat, m < len ∧ k % (len : Int) = m := ⟨(k % len).toNat, by have := Int.emod_lt_of_pos k (show (0 : Int) < len by omega); have := Int.emod_nonneg k (show (len : Int) ≠ 0 by omega); omega, by have := Int.emod_nonneg k (show (len : Int) ≠ 0 by omega); omega⟩
  have HLEN := Lib.hid hlen
  obtain ⟨i0, ii0, iz0, iz1, iz2⟩ := info_parts Try.info47
  have II0 := Lib.hid ii0
  have IZ0 := Lib.hid iz0
  have IZ1 := Lib.hid iz1
  have IZ2 := Lib.hid iz2
  clear ii0 iz0 iz1 iz2 hl hT hlen
  go_enter Try.func10, Try.ntmps10
  go_wp2_with fail
  refine (rpair_is h4.out (TH.out _ (Gr.same _))).mono ?_
  rintro e w1 ⟨rfl, hb1⟩
  have hg1 : Gr _ _ := hb1
  obtain ⟨hc, hf, hz⟩ := bcell hg1
  have hs1 : w.heap.size < w1.heap.size := hz _ (by simp)
  have hB1 := ((Box.fresh w [.int .i64 p.fl, .int .i64 p.fh, .int .i64 p.bl, .int .i64 p.bh, .int .i64 p.ti, .int .i64 p.ne, .int .i64 p.fa, .slice sp len cap] 26).grow hg1).facts
  simp only [CellsFrom, Nat.zero_add, Nat.reduceAdd, and_true] at hB1
  have hg3 : Gr w1 ((w1.alloc (.cells #[.int .i64 p.fl, .int .i64 p.fh, .int .i64 p.bl, .int .i64 p.bh, .int .i64 p.ti, .int .i64 p.ne, .int .i64 p.fa, .slice sp len cap] 26)).alloc (.cells #[] 47)) := (Gr.alloc _ _).tr (Gr.alloc _ _)
  have hT3 := TH.out _ (hg1.tr hg3)
  obtain ⟨-, hT3⟩ := hT3
  rcases hT3 with ⟨e, -⟩ | ⟨b, o, cap', hsp, hbl, hcc⟩
  · have := HLEN.out; rw [e] at this; simp at this; omega
  obtain ⟨hsp1, -, -⟩ : sp = some ⟨b, o, none⟩ ∧ len = p.l.length ∧ cap = cap' := by simpa using hsp
  subst hsp1
  have HN := Lib.hid (news_things hcc)
  have HFL := Lib.hid (show (p.l.flatMap Th.vals).length = len * 9 from by rw [← HLEN.out]; exact th_flat_len p.l)
  have HONE := Lib.hid (show ∀ u ∈ p.l.flatMap Th.vals, u.oneCell' = true from fun u hu => by
    obtain ⟨t, -, h⟩ := List.mem_flatMap.1 hu
    exact t.one u h)
  have HOWN := Lib.hid (show ((w1.alloc (.cells #[.int .i64 p.fl, .int .i64 p.fh, .int .i64 p.bl, .int .i64 p.bh, .int .i64 p.ti, .int .i64 p.ne, .int .i64 p.fa, .slice (some ⟨b, o, none⟩) len cap] 26)).alloc (.cells #[] 47)).ownsRow (w1.heap.size + 1) 47 9 (.slice (some ⟨w1.heap.size + 1, 0, none⟩) 0 0) 0 [] from by
    refine ⟨rfl, .inr ⟨w1.heap.size + 1, 0, #[], rfl, Nat.le_refl _, ?_, Nat.le_refl _, Nat.zero_le _, rfl, rfl⟩⟩
    have := heap_new (w1.alloc (.cells #[.int .i64 p.fl, .int .i64 p.fh, .int .i64 p.bl, .int .i64 p.bh, .int .i64 p.ti, .int .i64 p.ne, .int .i64 p.fa, .slice (some ⟨b, o, none⟩) len cap] 26)) (.cells #[] 47)
    simpa using this)
  have HG3 := Lib.hid hg3
  clear hsp hcc hg3
  go_wp2_with (at_builtin; refine wpList_append_lies _ rfl _ _ 24 rfl (w1.heap.size + 1) 47 i0 _ 9 72 Try.underlying24 II0.out IZ0.out IZ1.out IZ2.out rfl (by decide) _ _ _ rfl HOWN.out ⟨b, o, none⟩ len cap (p.l.flatMap Th.vals) rfl HFL.out HN.out HONE.out ?c1 ?c2 ?c3 ?c4 _ rfl ?_)
  case c1 => omega
  case c2 => unfold maxLen; omega
  case c3 => omega
  case c4 => simp
  intro g cap' w4 hown1 hgrow hat hlt
  try simp only [Nat.zero_add, List.nil_append] at hown1
  obtain ⟨-, hown1⟩ := hown1
  rcases hown1 with ⟨hv, -⟩ | ⟨g', cap'', cur, hv, hge, hcur, hcc, hcm, hcs, hct⟩
  · cases hv
  obtain ⟨rfl, -, rfl⟩ : g = g' ∧ len = len ∧ cap' = cap'' := by simpa using hv
  have hgw : w1.heap.size + 1 ≤ g := hge
  have HBG := Lib.hid (show Box w4 g cur.toList 47 from by unfold Box; simpa using hcur)
  have HX := Lib.hid (show Box w4 w1.heap.size [.int .i64 p.fl, .int .i64 p.fh, .int .i64 p.bl, .int .i64 p.bh, .int .i64 p.ti, .int .i64 p.ne, .int .i64 p.fa, .slice (some ⟨b, o, none⟩) len cap] 26 from by
    have h1 : Box ((w1.alloc (.cells #[.int .i64 p.fl, .int .i64 p.fh, .int .i64 p.bl, .int .i64 p.bh, .int .i64 p.ti, .int .i64 p.ne, .int .i64 p.fa, .slice (some ⟨b, o, none⟩) len cap] 26)).alloc (.cells #[] 47)) w1.heap.size [.int .i64 p.fl, .int .i64 p.fh, .int .i64 p.bl, .int .i64 p.bh, .int .i64 p.ti, .int .i64 p.ne, .int .i64 p.fa, .slice (some ⟨b, o, none⟩) len cap] 26 := (Box.fresh w1 [.int .i64 p.fl, .int .i64 p.fh, .int .i64 p.bl, .int .i64 p.bh, .int .i64 p.ti, .int .i64 p.ne, .int .i64 p.fa, .slice (some ⟨b, o, none⟩) len cap] 26).grow (Gr.alloc _ _)
    exact h1.grown hgrow (by simp [Value.ownBlock]))
  have hg4 : Gr w1 w4 := by
    have h1 : Below w1.heap.size w1 ((w1.alloc (.cells #[.int .i64 p.fl, .int .i64 p.fh, .int .i64 p.bl, .int .i64 p.bh, .int .i64 p.ti, .int .i64 p.ne, .int .i64 p.fa, .slice (some ⟨b, o, none⟩) len cap] 26)).alloc (.cells #[] 47)) := HG3.out
    exact h1.grown hgrow h1.size (fun q e => by simp [Value.ownBlock] at e; omega)
  have hxs : w1.heap.size < w4.heap.size := HX.out.lt
  have HF := Lib.hid (show ∀ (i : Nat) (t : Th) (j : Nat) (x : Value), p.l[i]? = some t → t.vals[j]? = some x → cur.toList[i * 9 + j]? = some x from fun i t j x hi hx => flat_take (by rw [← HLEN.out] at hct; exact hct) hi hx)
  have C3 := HX.out.facts
  simp only [CellsFrom, Nat.zero_add, Nat.reduceAdd, and_true] at C3
  have F3 := HX.out.free
  have HG4 := Lib.hid hg4
  obtain ⟨hc4, hf4, hz4⟩ := bcell hg4
  have n1 : ¬ w1.heap.size = g := by omega
  have n3 : ¬ g = w1.heap.size := by omega
  have n5 : ¬ w1.heap.size = w.heap.size := by omega
  have n6 : ¬ w.heap.size = w1.heap.size := by omega
  have n7 : ¬ w.heap.size = g := by omega
  have n8 : ¬ g = w.heap.size := by omega
  clear hv hcur hcc hcm hcs hct hgrow hat hge
  go_wp2_with fail
  have hg5 : Gr w1 (w4.setCell ⟨w1.heap.size, 7, none⟩ (.slice (some ⟨g, 0, none⟩) len cap')) := Below.setCell HG4.out (Nat.le_refl _) _
  have hx5 : Box (w4.setCell ⟨w1.heap.size, 7, none⟩ (.slice (some ⟨g, 0, none⟩) len cap')) w1.heap.size [.int .i64 p.fl, .int .i64 p.fh, .int .i64 p.bl, .int .i64 p.bh, .int .i64 p.ti, .int .i64 p.ne, .int .i64 p.fa, .slice (some ⟨g, 0, none⟩) len cap'] 26 := HX.out.put 7 _
  have hq5 : Box (w4.setCell ⟨w1.heap.size, 7, none⟩ (.slice (some ⟨g, 0, none⟩) len cap')) g cur.toList 47 := HBG.out.other (by omega) _ _
  generalize (w4.setCell ⟨w1.heap.size, 7, none⟩ (.slice (some ⟨g, 0, none⟩) len cap')) = w5 at *
  have C5 := hx5.facts
  simp only [CellsFrom, Nat.zero_add, Nat.reduceAdd, and_true] at C5
  have F5 := hx5.free
  have FG5 := hq5.free
  have hgl := hq5.lt
  have HX5 := Lib.hid hx5
  have HQ5 := Lib.hid hq5
  have HG5 := Lib.hid hg5
  clear hc hf hz hc4 hf4 hz4 C3 F3 HG4 HBG HX hg4 HN HFL HONE HOWN II0 IZ0 IZ1 IZ2 HG3
  obtain ⟨hc, hf, hz⟩ := bcell HG5.out
  go_quiet (fail)
  have hgd : Gr w5 (w5.drewN nq) := Gr.drewN _ _
  have hg6 := HG5.out.tr hgd
  have hx6 := HX5.out.grow hgd
  have hq6 := HQ5.out.grow hgd
  clear hc hf hz C5 F5 FG5 hgl HX5 HQ5 HG5 hx5 hq5 hg5 hgd
  generalize w5.drewN nq = w6 at *
  clear w5
  have HG6 := Lib.hid hg6
  have HX6 := Lib.hid hx6
  have HQ6 := Lib.hid hq6
  clear hg6 hx6 hq6
  go_upto_block 0 with fail
  go_cut [79] (fun _ wc => Gr w1 wc ∧ ∃ (q : Pr) (cq : Nat), p.Nw q ∧ q.ok = true ∧ Box wc w1.heap.size [.int .i64 q.fl, .int .i64 q.fh, .int .i64 q.bl, .int .i64 q.bh, .int .i64 q.ti, .int .i64 q.ne, .int .i64 q.fa, .slice (some ⟨g, 0, none⟩) len cq] 26 ∧ ThingsAt q.l (.slice (some ⟨g, 0, none⟩) len cq) wc)
  case first =>
    obtain ⟨hc, hf, hz⟩ := bcell HG6.out
    have C6 := HX6.out.facts
    simp only [CellsFrom, Nat.zero_add, Nat.reduceAdd, and_true] at C6
    have F6 := HX6.out.free
    have G6 := HQ6.out.free
    have hgl := HQ6.out.lt
    obtain ⟨th, hth⟩ : ∃ th, p.l[m]? = some th := ⟨p.l[m]'(by rw [HLEN.out]; exact hm), List.getElem?_eq_getElem _⟩
    have P6 := ((Box.fresh w [.int .i64 p.fl, .int .i64 p.fh, .int .i64 p.bl, .int .i64 p.bh, .int .i64 p.ti, .int .i64 p.ne, .int .i64 p.fa, .slice (some ⟨b, o, none⟩) len cap] 26).grow (hg1.tr HG6.out)).facts
    simp only [CellsFrom, Nat.zero_add, Nat.reduceAdd, and_true] at P6
    have hb0 := p.bounds h4.out
    have hv0 := ((valid_iff ..).1 h4.out).1
    have HVT := Lib.hid ((hb0.things th (List.mem_of_getElem? hth)).1)
    have HTH := Lib.hid hth
    have hmi : ∀ (j : Nat) (x : Value), th.vals[j]? = some x → cur.toList[m * 9 + j]? = some x := fun j x hx => HF.out m th j x hth hx
    have X0 := HQ6.out.cell (hmi 0 _ rfl)
    have X1 := HQ6.out.cell (hmi 1 _ rfl)
    have X2 := HQ6.out.cell (hmi 2 _ rfl)
    have X3 := HQ6.out.cell (hmi 3 _ rfl)
    have X4 := HQ6.out.cell (hmi 4 _ rfl)
    have X5 := HQ6.out.cell (hmi 5 _ rfl)
    have X6 := HQ6.out.cell (hmi 6 _ rfl)
    have X7 := HQ6.out.cell (hmi 7 _ rfl)
    have X8 := HQ6.out.cell (hmi 8 _ rfl)
    simp only [Nat.add_zero] at X0
    have HMI := Lib.hid hmi
    have q5 : IntKind.i64.wrap (k.tdiv 5) = k / 5 := by rw [Int.tdiv_eq_ediv_of_nonneg hk.1]; exact wraps_i64 _ (by omega) (by omega)
    have q7 : IntKind.i64.wrap (k.tdiv 7) = k / 7 := by rw [Int.tdiv_eq_ediv_of_nonneg hk.1]; exact wraps_i64 _ (by omega) (by omega)
    have k5 : 0 ≤ k / 5 ∧ k / 5 ≤ 1000 := by omega
    have k7 : 0 ≤ k / 7 ∧ k / 7 ≤ 1000 := by omega
    have hgx := Nat.ne_of_lt hgw
    have hml : m < p.l.length := by rw [HLEN.out]; exact hm
    clear hth hmi hb0
    rw [hmk, Int.toNat_natCast] at HZ
    rcases HZ.out th HTH.out with z0 | z0
    · have z1 : (th.z == 0) = false := by simpa using z0
      clear z0
      go_wp2_with fail
      go_meet
      case rel =>
        refine ⟨HG6.out, p, cap', (And.intro (Pr.Nw.refl p) h4.out).1, (And.intro (Pr.Nw.refl p) h4.out).2, HX6.out, ?_⟩
        exact things_box (by first | exact HLEN.out | (rw [List.length_set]; exact HLEN.out)) (HQ6.out) (by omega) (HF.out)
    · cases z1 : (th.z == 0) with
      | false =>
        go_wp2_with fail
        go_meet
        case rel =>
          refine ⟨HG6.out, p, cap', (And.intro (Pr.Nw.refl p) h4.out).1, (And.intro (Pr.Nw.refl p) h4.out).2, HX6.out, ?_⟩
          exact things_box (by first | exact HLEN.out | (rw [List.length_set]; exact HLEN.out)) (HQ6.out) (by omega) (HF.out)
      | true =>
        rcases z0 with z0 | z0
        · have f2 : decide (p.ne ≤ far) = false := decide_eq_false (by omega)
          clear z0
          go_wp2_with fail
          go_meet
          case rel =>
            refine ⟨HG6.out, p, cap', (And.intro (Pr.Nw.refl p) h4.out).1, (And.intro (Pr.Nw.refl p) h4.out).2, HX6.out, ?_⟩
            exact things_box (by first | exact HLEN.out | (rw [List.length_set]; exact HLEN.out)) (HQ6.out) (by omega) (HF.out)
        · cases f2 : decide (p.ne ≤ far) with
          | false =>
            go_wp2_with fail
            go_meet
            case rel =>
              refine ⟨HG6.out, p, cap', (And.intro (Pr.Nw.refl p) h4.out).1, (And.intro (Pr.Nw.refl p) h4.out).2, HX6.out, ?_⟩
              exact things_box (by first | exact HLEN.out | (rw [List.length_set]; exact HLEN.out)) (HQ6.out) (by omega) (HF.out)
          | true =>
            have f4 : decide (far ≤ p.fa) = false := decide_eq_false (by omega)
            clear z0
            go_wp2_with fail
            go_meet
            case rel =>
              refine ⟨HG6.out, p, cap', (And.intro (Pr.Nw.refl p) h4.out).1, (And.intro (Pr.Nw.refl p) h4.out).2, HX6.out, ?_⟩
              exact things_box (by first | exact HLEN.out | (rw [List.length_set]; exact HLEN.out)) (HQ6.out) (by omega) (HF.out)
  case rest =>
    obtain ⟨hgc, q, cq, hnw, hqk, hbx, hqt⟩ := hcut
    rename_i KK hKK
    exact hKK _ _ (lmore_rest p q _ _ len cap cq n w.heap.size w1.heap.size w wc (Lib.hid fun W hg => TH.out _ ((hg1.tr hgc).tr hg)) hqt ((Box.fresh w [.int .i64 p.fl, .int .i64 p.fh, .int .i64 p.bl, .int .i64 p.bh, .int .i64 p.ti, .int .i64 p.ne, .int .i64 p.fa, .slice (some ⟨b, o, none⟩) len cap] 26).grow (hg1.tr hgc)) hbx hnw h4.out hqk (by rw [HLEN.out]; exact hn) (Lib.hid (bgr ((Below.refl _ _).alloc (Nat.le_refl _) _) (by simp) (hg1.tr hgc))) _ _ _ _ _ _ _ _ _ _ _ _ _ _ _ _ _ _ _ _ _ _ _ _ _ _ _ _ _ _ _ _ _ _ _ _ _ _ _ _ _ _ _ _ _ _ _ _ _ _ _ _ _ _ _ _ _ _ _ _ _ _ _ _ _ _ _ _ _ _ _ _ _ _ _ _ _ _ _ _ _ _ _ _ _ _ _ _ _ _ _ _ _ _ _ _ _ _ _ _ _ _ _ _ _ _ _ _ _ _ _ _ _ _ _ _ _ _ _ _ _ _ _ _ _ _ _ _ _ _ _ _ _ _ _ _ _ _ _ _ _ _ _ _ _ _ _ _ _ _ _ _ _ _ _ _ _ _ _ _ _ _ _ _ _ _ _ _ _ _ _ _ _ _ _ _ _ _ _ _ _ _ _ _ _ _ _ _ _ _ _ _ _ _ _ _ _ _ _ _ _ _ _ _ _ _ _ _ _ _ _ _ _ _ _ _ _ _ _ _ _ _ _ _ _ _ _ _ _ _ _ _ _ _ _ _ _ _ _ _ _ _ _ _ _ _ _ _ _ _ _ _ _ _ _ _ _ _ _ _ _ _ _ _ _ _ _ _ _ _ _ _ _ _ _ _ _ _ _ _ _ _ _ _ _ _ _ _ _ _ _ _ _ _ _ _ _ _ _ _ _ _ _ _ _ _ _ _ _ _ _ _ _ _ _ _ _ _ _ _ _ _)
end Go.Proofs.Ytofdoadpaedogaa
