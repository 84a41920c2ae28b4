import Derived.Test.YtofdoadpaedogaaP1
import Derived.Test.YtofdoadpaedogaaG3
namespace Go.Proofs.Ytofdoadpaedogaa
open Go.RowKit

set_option maxRecDepth 100000 in
set_option maxHeartbeats 4000000 in
theorem lmore_ok0 (p : Pr) (sp : Option Addr) (len cap : Nat) (n : Nat) (far k : Int) (w : World) (hl : len ≤ 40) (hT : ThingsAt p.l (.slice sp len cap) w) (h5 : k % 5 = 0) (hlen : p.l.length = len) (hl12 : len ≤ 12) (h4 : Hid (p.ok = true)) (hn : n < len) (hk : 0 ≤ k ∧ k ≤ 255) :
    Calls Try.prog 10 #[.agg #[.int .i64 p.fl, .int .i64 p.fh, .int .i64 p.bl, .int .i64 p.bh, .int .i64 p.ti, .int .i64 p.ne, .int .i64 p.fa, .slice sp len cap], .int .i64 n, .int .i64 far, .int .u8 k] w fun e w' => e = .returned (.bool true) ∧ Below w.heap.size w w' := by
  have d : decide (40 < (len : Int)) = false := by simp; omega
  have d' : decide (40 < len) = false := by simp; omega
  have x1 : ((len : Int) == 0) = false := by simp; omega
  have x2 : (len == 0) = false := by simp; omega
  have x3 : decide ((n : Int) < 0) = false := by simp
  have x4 : decide ((len : Int) ≤ n) = false := by simp; omega
  have x5 : decide (len ≤ n) = false := by simp; omega
  have TH := Lib.hid (fun (W : World) (hg : Gr (w.alloc (.cells #[.int .i64 p.fl, .int .i64 p.fh, .int .i64 p.bl, .int .i64 p.bh, .int .i64 p.ti, .int .i64 p.ne, .int .i64 p.fa, .slice sp len cap] 26)) W) => ThingsAt.lasts p.l _ _ _ hT ((Gr.alloc _ _).tr hg))
  obtain ⟨m, hm, hmk⟩ : ∃ m : Nat, m < len ∧ k % (len : Int) = m := ⟨(k % len).toNat, by have := Int.emod_lt_of_pos k (show (0 : Int) < len by omega); have := Int.emod_nonneg k (show (len : Int) ≠ 0 by omega); omega, by have := Int.emod_nonneg k (show (len : Int) ≠ 0 by omega); omega⟩
  have HLEN := Lib.hid hlen
  obtain ⟨i0, ii0, iz0, iz1, iz2⟩ := info_parts Try.info47
  have II0 := Lib.hid ii0
  have IZ0 := Lib.hid iz0
  have IZ1 := Lib.hid iz1
  have IZ2 := Lib.hid iz2
  clear ii0 iz0 iz1 iz2 hl hT hlen
  go_enter Try.func10, Try.ntmps10
  go_wp2_with fail
  refine (rpair_is h4.out (TH.out _ (Gr.same _))).mono ?_
  rintro e w1 ⟨rfl, hb1⟩
  have hg1 : Gr _ _ := hb1
  obtain ⟨hc, hf, hz⟩ := bcell hg1
  have hs1 : w.heap.size < w1.heap.size := hz _ (by simp)
  have hB1 := ((Box.fresh w [.int .i64 p.fl, .int .i64 p.fh, .int .i64 p.bl, .int .i64 p.bh, .int .i64 p.ti, .int .i64 p.ne, .int .i64 p.fa, .slice sp len cap] 26).grow hg1).facts
  simp only [CellsFrom, Nat.zero_add, Nat.reduceAdd, and_true] at hB1
  have hg3 : Gr w1 ((w1.alloc (.cells #[.int .i64 p.fl, .int .i64 p.fh, .int .i64 p.bl, .int .i64 p.bh, .int .i64 p.ti, .int .i64 p.ne, .int .i64 p.fa, .slice sp len cap] 26)).alloc (.cells #[] 47)) := (Gr.alloc _ _).tr (Gr.alloc _ _)
  have hT3 := TH.out _ (hg1.tr hg3)
  obtain ⟨-, hT3⟩ := hT3
  rcases hT3 with ⟨e, -⟩ | ⟨b, o, cap', hsp, hbl, hcc⟩
  · have := HLEN.out; rw [e] at this; simp at this; omega
  obtain ⟨hsp1, -, -⟩ : sp = some ⟨b, o, none⟩ ∧ len = p.l.length ∧ cap = cap' := by simpa using hsp
  subst hsp1
  have HN := Lib.hid (news_things hcc)
  have HFL := Lib.hid (show (p.l.flatMap Th.vals).length = len * 9 from by rw [← HLEN.out]; exact th_flat_len p.l)
  have HONE := Lib.hid (show ∀ u ∈ p.l.flatMap Th.vals, u.oneCell' = true from fun u hu => by
    obtain ⟨t, -, h⟩ := List.mem_flatMap.1 hu
    exact t.one u h)
  have HOWN := Lib.hid (show ((w1.alloc (.cells #[.int .i64 p.fl, .int .i64 p.fh, .int .i64 p.bl, .int .i64 p.bh, .int .i64 p.ti, .int .i64 p.ne, .int .i64 p.fa, .slice (some ⟨b, o, none⟩) len cap] 26)).alloc (.cells #[] 47)).ownsRow (w1.heap.size + 1) 47 9 (.slice (some ⟨w1.heap.size + 1, 0, none⟩) 0 0) 0 [] from by
    refine ⟨rfl, .inr ⟨w1.heap.size + 1, 0, #[], rfl, Nat.le_refl _, ?_, Nat.le_refl _, Nat.zero_le _, rfl, rfl⟩⟩
    have := heap_new (w1.alloc (.cells #[.int .i64 p.fl, .int .i64 p.fh, .int .i64 p.bl, .int .i64 p.bh, .int .i64 p.ti, .int .i64 p.ne, .int .i64 p.fa, .slice (some ⟨b, o, none⟩) len cap] 26)) (.cells #[] 47)
    simpa using this)
  have HG3 := Lib.hid hg3
  clear hsp hcc hg3
  go_wp2_with (at_builtin; refine wpList_append_lies _ rfl _ _ 24 rfl (w1.heap.size + 1) 47 i0 _ 9 72 Try.underlying24 II0.out IZ0.out IZ1.out IZ2.out rfl (by decide) _ _ _ rfl HOWN.out ⟨b, o, none⟩ len cap (p.l.flatMap Th.vals) rfl HFL.out HN.out HONE.out ?c1 ?c2 ?c3 ?c4 _ rfl ?_)
  case c1 => omega
  case c2 => unfold maxLen; omega
  case c3 => omega
  case c4 => simp
  intro g cap' w4 hown1 hgrow hat hlt
  try simp only [Nat.zero_add, List.nil_append] at hown1
  obtain ⟨-, hown1⟩ := hown1
  rcases hown1 with ⟨hv, -⟩ | ⟨g', cap'', cur, hv, hge, hcur, hcc, hcm, hcs, hct⟩
  · cases hv
  obtain ⟨rfl, -, rfl⟩ : g = g' ∧ len = len ∧ cap' = cap'' := by simpa using hv
  have hgw : w1.heap.size + 1 ≤ g := hge
  have HBG := Lib.hid (show Box w4 g cur.toList 47 from by unfold Box; simpa using hcur)
  have HX := Lib.hid (show Box w4 w1.heap.size [.int .i64 p.fl, .int .i64 p.fh, .int .i64 p.bl, .int .i64 p.bh, .int .i64 p.ti, .int .i64 p.ne, .int .i64 p.fa, .slice (some ⟨b, o, none⟩) len cap] 26 from by
    have h1 : Box ((w1.alloc (.cells #[.int .i64 p.fl, .int .i64 p.fh, .int .i64 p.bl, .int .i64 p.bh, .int .i64 p.ti, .int .i64 p.ne, .int .i64 p.fa, .slice (some ⟨b, o, none⟩) len cap] 26)).alloc (.cells #[] 47)) w1.heap.size [.int .i64 p.fl, .int .i64 p.fh, .int .i64 p.bl, .int .i64 p.bh, .int .i64 p.ti, .int .i64 p.ne, .int .i64 p.fa, .slice (some ⟨b, o, none⟩) len cap] 26 := (Box.fresh w1 [.int .i64 p.fl, .int .i64 p.fh, .int .i64 p.bl, .int .i64 p.bh, .int .i64 p.ti, .int .i64 p.ne, .int .i64 p.fa, .slice (some ⟨b, o, none⟩) len cap] 26).grow (Gr.alloc _ _)
    exact h1.grown hgrow (by simp [Value.ownBlock]))
  have hg4 : Gr w1 w4 := by
    have h1 : Below w1.heap.size w1 ((w1.alloc (.cells #[.int .i64 p.fl, .int .i64 p.fh, .int .i64 p.bl, .int .i64 p.bh, .int .i64 p.ti, .int .i64 p.ne, .int .i64 p.fa, .slice (some ⟨b, o, none⟩) len cap] 26)).alloc (.cells #[] 47)) := HG3.out
    exact h1.grown hgrow h1.size (fun q e => by simp [Value.ownBlock] at e; omega)
  have hxs : w1.heap.size < w4.heap.size := HX.out.lt
  have HF := Lib.hid (show ∀ (i : Nat) (t : Th) (j : Nat) (x : Value), p.l[i]? = some t → t.vals[j]? = some x → cur.toList[i * 9 + j]? = some x from fun i t j x hi hx => flat_take (by rw [← HLEN.out] at hct; exact hct) hi hx)
  have C3 := HX.out.facts
  simp only [CellsFrom, Nat.zero_add, Nat.reduceAdd, and_true] at C3
  have F3 := HX.out.free
  have HG4 := Lib.hid hg4
  obtain ⟨hc4, hf4, hz4⟩ := bcell hg4
  have n1 : ¬ w1.heap.size = g := by omega
  have n3 : ¬ g = w1.heap.size := by omega
  have n5 : ¬ w1.heap.size = w.heap.size := by omega
  have n6 : ¬ w.heap.size = w1.heap.size := by omega
  have n7 : ¬ w.heap.size = g := by omega
  have n8 : ¬ g = w.heap.size := by omega
  clear hv hcur hcc hcm hcs hct hgrow hat hge
  go_wp2_with fail
  have hg5 : Gr w1 (w4.setCell ⟨w1.heap.size, 7, none⟩ (.slice (some ⟨g, 0, none⟩) len cap')) := Below.setCell HG4.out (Nat.le_refl _) _
  have hx5 : Box (w4.setCell ⟨w1.heap.size, 7, none⟩ (.slice (some ⟨g, 0, none⟩) len cap')) w1.heap.size [.int .i64 p.fl, .int .i64 p.fh, .int .i64 p.bl, .int .i64 p.bh, .int .i64 p.ti, .int .i64 p.ne, .int .i64 p.fa, .slice (some ⟨g, 0, none⟩) len cap'] 26 := HX.out.put 7 _
  have hq5 : Box (w4.setCell ⟨w1.heap.size, 7, none⟩ (.slice (some ⟨g, 0, none⟩) len cap')) g cur.toList 47 := HBG.out.other (by omega) _ _
  generalize (w4.setCell ⟨w1.heap.size, 7, none⟩ (.slice (some ⟨g, 0, none⟩) len cap')) = w5 at *
  have C5 := hx5.facts
  simp only [CellsFrom, Nat.zero_add, Nat.reduceAdd, and_true] at C5
  have F5 := hx5.free
  have FG5 := hq5.free
  have hgl := hq5.lt
  have HX5 := Lib.hid hx5
  have HQ5 := Lib.hid hq5
  have HG5 := Lib.hid hg5
  clear hc hf hz hc4 hf4 hz4 C3 F3 HG4 HBG HX hg4 HN HFL HONE HOWN II0 IZ0 IZ1 IZ2 HG3
  obtain ⟨hc, hf, hz⟩ := bcell HG5.out
  go_quiet (fail)
  have hgd : Gr w5 (w5.drewN nq) := Gr.drewN _ _
  have hg6 := HG5.out.tr hgd
  have hx6 := HX5.out.grow hgd
  have hq6 := HQ5.out.grow hgd
  clear hc hf hz C5 F5 FG5 hgl HX5 HQ5 HG5 hx5 hq5 hg5 hgd
  generalize w5.drewN nq = w6 at *
  clear w5
  have HG6 := Lib.hid hg6
  have HX6 := Lib.hid hx6
  have HQ6 := Lib.hid hq6
  clear hg6 hx6 hq6
  go_upto_block 0 with fail
  go_cut [79] (fun _ wc => Gr w1 wc ∧ ∃ (q : Pr) (cq : Nat), p.Nw q ∧ q.ok = true ∧ Box wc w1.heap.size [.int .i64 q.fl, .int .i64 q.fh, .int .i64 q.bl, .int .i64 q.bh, .int .i64 q.ti, .int .i64 q.ne, .int .i64 q.fa, .slice (some ⟨g, 0, none⟩) len cq] 26 ∧ ThingsAt q.l (.slice (some ⟨g, 0, none⟩) len cq) wc)
  case first =>
    obtain ⟨hc, hf, hz⟩ := bcell HG6.out
    have C6 := HX6.out.facts
    simp only [CellsFrom, Nat.zero_add, Nat.reduceAdd, and_true] at C6
    have F6 := HX6.out.free
    have G6 := HQ6.out.free
    have hgl := HQ6.out.lt
    obtain ⟨th, hth⟩ : ∃ th, p.l[m]? = some th := ⟨p.l[m]'(by rw [HLEN.out]; exact hm), List.getElem?_eq_getElem _⟩
    have P6 := ((Box.fresh w [.int .i64 p.fl, .int .i64 p.fh, .int .i64 p.bl, .int .i64 p.bh, .int .i64 p.ti, .int .i64 p.ne, .int .i64 p.fa, .slice (some ⟨b, o, none⟩) len cap] 26).grow (hg1.tr HG6.out)).facts
    simp only [CellsFrom, Nat.zero_add, Nat.reduceAdd, and_true] at P6
    have hb0 := p.bounds h4.out
    have hv0 := ((valid_iff ..).1 h4.out).1
    have HVT := Lib.hid ((hb0.things th (List.mem_of_getElem? hth)).1)
    have HTH := Lib.hid hth
    have hmi : ∀ (j : Nat) (x : Value), th.vals[j]? = some x → cur.toList[m * 9 + j]? = some x := fun j x hx => HF.out m th j x hth hx
    have X0 := HQ6.out.cell (hmi 0 _ rfl)
    have X1 := HQ6.out.cell (hmi 1 _ rfl)
    have X2 := HQ6.out.cell (hmi 2 _ rfl)
    have X3 := HQ6.out.cell (hmi 3 _ rfl)
    have X4 := HQ6.out.cell (hmi 4 _ rfl)
    have X5 := HQ6.out.cell (hmi 5 _ rfl)
    have X6 := HQ6.out.cell (hmi 6 _ rfl)
    have X7 := HQ6.out.cell (hmi 7 _ rfl)
    have X8 := HQ6.out.cell (hmi 8 _ rfl)
    simp only [Nat.add_zero] at X0
    have HMI := Lib.hid hmi
    have q5 : IntKind.i64.wrap (k.tdiv 5) = k / 5 := by rw [Int.tdiv_eq_ediv_of_nonneg hk.1]; exact wraps_i64 _ (by omega) (by omega)
    have q7 : IntKind.i64.wrap (k.tdiv 7) = k / 7 := by rw [Int.tdiv_eq_ediv_of_nonneg hk.1]; exact wraps_i64 _ (by omega) (by omega)
    have k5 : 0 ≤ k / 5 ∧ k / 5 ≤ 1000 := by omega
    have k7 : 0 ≤ k / 7 ∧ k / 7 ≤ 1000 := by omega
    have hgx := Nat.ne_of_lt hgw
    have hml : m < p.l.length := by rw [HLEN.out]; exact hm
    clear hth hmi hb0
    have HN1 := Lib.hid (fun W : World => lnarrow_any p.fl p.fh (k / 5) W (by omega) (by omega) (by omega) (by omega) k5.1 k5.2)
    have HN2 := Lib.hid (fun W : World => lnarrow_any p.bl p.bh (k / 7) W (by omega) (by omega) (by omega) (by omega) k7.1 k7.2)
    go_wp2_with fail
    refine region2 11 ?_ ?_ ?_
    · kernel_rfl
    · kernel_rfl
    simp only [List.take_succ_cons, List.take_zero, List.drop_succ_cons, List.drop_zero]
    apply chain_eq (D := [(4, none)]) rfl (by kernel_rfl)
    · intro ρ W ⟨p1, p2, p3⟩ hG hF K hK; (try simp [FactsD] at hF); have ⟨hc, hf, hz⟩ := bcell (Gr.tr (Gr.drew _) hG); go_simp; exact hK _ (gives_val)
    apply chain_eq (D := [(103, some 0)]) rfl (by kernel_rfl)
    · intro ρ W ⟨p1, p2, p3⟩ hG hF K hK; (try simp [FactsD] at hF); have ⟨hc, hf, hz⟩ := bcell (Gr.tr (Gr.drew _) hG); go_simp; exact hK _ (gives_val)
    apply chain_eq (D := [(10, none)]) rfl (by kernel_rfl)
    · intro ρ W ⟨p1, p2, p3⟩ hG hF K hK; (try simp [FactsD] at hF); have ⟨hc, hf, hz⟩ := bcell (Gr.tr (Gr.drew _) hG); go_simp; exact hK _ (gives_val)
    apply chain_eq (D := [(105, some 0)]) rfl (by kernel_rfl)
    · intro ρ W ⟨p1, p2, p3⟩ hG hF K hK; (try simp [FactsD] at hF); have ⟨hc, hf, hz⟩ := bcell (Gr.tr (Gr.drew _) hG); go_simp; exact hK _ (gives_val)
    apply chain_eq (D := [(104, some 2), (106, some 0)]) rfl (by kernel_rfl)
    · intro ρ W ⟨p1, p2, p3⟩ hG hF K hK; (try simp [FactsD] at hF); have ⟨hc, hf, hz⟩ := bcell (Gr.tr (Gr.drew _) hG); go_simp; exact hK _ (gives_call (HN1.out _))
    apply chain_eq (D := [(4, none)]) rfl (by kernel_rfl)
    · intro ρ W ⟨p1, p2, p3⟩ hG hF K hK; (try simp [FactsD] at hF); have ⟨hc, hf, hz⟩ := bcell (Gr.tr (Gr.drew _) hG); go_simp; exact hK _ (gives_val)
    apply chain_eq (D := [(108, some 0)]) rfl (by kernel_rfl)
    · intro ρ W ⟨p1, p2, p3⟩ hG hF K hK; (try simp [FactsD] at hF); have ⟨hc, hf, hz⟩ := bcell (Gr.tr (Gr.drew _) hG); go_simp; exact hK _ (gives_val)
    apply chain_eq (D := [(10, none)]) rfl (by kernel_rfl)
    · intro ρ W ⟨p1, p2, p3⟩ hG hF K hK; (try simp [FactsD] at hF); have ⟨hc, hf, hz⟩ := bcell (Gr.tr (Gr.drew _) hG); go_simp; exact hK _ (gives_val)
    apply chain_eq (D := [(110, some 0)]) rfl (by kernel_rfl)
    · intro ρ W ⟨p1, p2, p3⟩ hG hF K hK; (try simp [FactsD] at hF); have ⟨hc, hf, hz⟩ := bcell (Gr.tr (Gr.drew _) hG); go_simp; exact hK _ (gives_val)
    apply chain_eq (D := [(109, some 2), (111, some 0)]) rfl (by kernel_rfl)
    · intro ρ W ⟨p1, p2, p3⟩ hG hF K hK; (try simp [FactsD] at hF); have ⟨hc, hf, hz⟩ := bcell (Gr.tr (Gr.drew _) hG); go_simp; exact hK _ (gives_call (HN2.out _))
    apply chain_eq (D := [(9, none)]) rfl (by kernel_rfl)
    · intro ρ W ⟨p1, p2, p3⟩ hG hF K hK; (try simp [FactsD] at hF); have ⟨hc, hf, hz⟩ := bcell (Gr.tr (Gr.drew _) hG); go_simp; exact hK _ (gives_val)
    refine chain_done ?_
    intro vs W hG hV
    obtain ⟨e10, e9, -, -, -, -, e4, -⟩ := hV
    simp only [Nat.reduceSub] at e4
    simp only [Nat.reduceSub] at e9
    simp only [Nat.reduceSub] at e10
    simp only [lay, Act.put, List.getElem?_toArray, List.getElem?_cons_succ, List.getElem?_cons_zero, Option.bind_some, List.setIfInBounds_toArray, List.set_cons_succ, List.set_cons_zero]
    generalize vs 0 = v0
    generalize vs 1 = v1
    generalize vs 2 = v2
    generalize vs 3 = v3
    generalize vs 4 = v4 at *
    generalize vs 5 = v5
    generalize vs 6 = v6
    generalize vs 7 = v7
    generalize vs 8 = v8
    generalize vs 9 = v9 at *
    generalize vs 10 = v10 at *
    subst e4
    subst e9
    subst e10
    obtain ⟨hc, hf, hz⟩ := bcell hG
    have HGW := Lib.hid hG
    go_wp2_with fail
    go_meet
    case rel =>
      refine ⟨(Below.setCell (Below.setCell (Below.setCell (Below.setCell (HG6.out.tr HGW.out) (by first | exact Nat.le_refl _ | (simp; done) | (simp; omega) | omega) _) (by first | exact Nat.le_refl _ | (simp; done) | (simp; omega) | omega) _) (by first | exact Nat.le_refl _ | (simp; done) | (simp; omega) | omega) _) (by first | exact Nat.le_refl _ | (simp; done) | (simp; omega) | omega) _), { p with fl := nwLo p.fl p.fh (k / 5), fh := nwHi p.fl p.fh (k / 5), bl := nwLo p.bl p.bh (k / 7), bh := nwHi p.bl p.bh (k / 7) }, cap', (nw_pair h4.out k5.1 k7.1).1, (nw_pair h4.out k5.1 k7.1).2, ((((HX6.out.grow HGW.out).put 0 _).put 1 _).put 2 _).put 3 _, ?_⟩
      exact things_box (by first | exact HLEN.out | (rw [List.length_set]; exact HLEN.out)) (((((HQ6.out.grow HGW.out).other (by omega) _ _).other (by omega) _ _).other (by omega) _ _).other (by omega) _ _) (by omega) (HF.out)
  case rest =>
    obtain ⟨hgc, q, cq, hnw, hqk, hbx, hqt⟩ := hcut
    rename_i KK hKK
    exact hKK _ _ (lmore_rest p q _ _ len cap cq n w.heap.size w1.heap.size w wc (Lib.hid fun W hg => TH.out _ ((hg1.tr hgc).tr hg)) hqt ((Box.fresh w [.int .i64 p.fl, .int .i64 p.fh, .int .i64 p.bl, .int .i64 p.bh, .int .i64 p.ti, .int .i64 p.ne, .int .i64 p.fa, .slice (some ⟨b, o, none⟩) len cap] 26).grow (hg1.tr hgc)) hbx hnw h4.out hqk (by rw [HLEN.out]; exact hn) (Lib.hid (bgr ((Below.refl _ _).alloc (Nat.le_refl _) _) (by simp) (hg1.tr hgc))) _ _ _ _ _ _ _ _ _ _ _ _ _ _ _ _ _ _ _ _ _ _ _ _ _ _ _ _ _ _ _ _ _ _ _ _ _ _ _ _ _ _ _ _ _ _ _ _ _ _ _ _ _ _ _ _ _ _ _ _ _ _ _ _ _ _ _ _ _ _ _ _ _ _ _ _ _ _ _ _ _ _ _ _ _ _ _ _ _ _ _ _ _ _ _ _ _ _ _ _ _ _ _ _ _ _ _ _ _ _ _ _ _ _ _ _ _ _ _ _ _ _ _ _ _ _ _ _ _ _ _ _ _ _ _ _ _ _ _ _ _ _ _ _ _ _ _ _ _ _ _ _ _ _ _ _ _ _ _ _ _ _ _ _ _ _ _ _ _ _ _ _ _ _ _ _ _ _ _ _ _ _ _ _ _ _ _ _ _ _ _ _ _ _ _ _ _ _ _ _ _ _ _ _ _ _ _ _ _ _ _ _ _ _ _ _ _ _ _ _ _ _ _ _ _ _ _ _ _ _ _ _ _ _ _ _ _ _ _ _ _ _ _ _ _ _ _ _ _ _ _ _ _ _ _ _ _ _ _ _ _ _ _ _ _ _ _ _ _ _ _ _ _ _ _ _ _ _ _ _ _ _ _ _ _ _ _ _ _ _ _ _ _ _ _ _ _ _ _ _ _ _ _ _ _ _ _ _ _ _ _ _ _ _ _ _ _ _ _ _ _ _)
set_option maxRecDepth 100000 in
set_option maxHeartbeats 4000000 in
theorem lmore_ok1 (p : Pr) (sp : Option Addr) (len cap : Nat) (n : Nat) (far k : Int) (w : World) (hl : len ≤ 40) (hT : ThingsAt p.l (.slice sp len cap) w) (h5 : k % 5 = 1) (hlen : p.l.length = len) (hl12 : len ≤ 12) (h4 : Hid (p.ok = true)) (hn : n < len) (hk : 0 ≤ k ∧ k ≤ 255) :
    Calls Try.prog 10 #[.agg #[.int .i64 p.fl, .int .i64 p.fh, .int .i64 p.bl, .int .i64 p.bh, .int .i64 p.ti, .int .i64 p.ne, .int .i64 p.fa, .slice sp len cap], .int .i64 n, .int .i64 far, .int .u8 k] w fun e w' => e = .returned (.bool true) ∧ Below w.heap.size w w' := by
  have d : decide (40 < (len : Int)) = false := by simp; omega
  have d' : decide (40 < len) = false := by simp; omega
  have x1 : ((len : Int) == 0) = false := by simp; omega
  have x2 : (len == 0) = false := by simp; omega
  have x3 : decide ((n : Int) < 0) = false := by simp
  have x4 : decide ((len : Int) ≤ n) = false := by simp; omega
  have x5 : decide (len ≤ n) = false := by simp; omega
  have TH := Lib.hid (fun (W : World) (hg : Gr (w.alloc (.cells #[.int .i64 p.fl, .int .i64 p.fh, .int .i64 p.bl, .int .i64 p.bh, .int .i64 p.ti, .int .i64 p.ne, .int .i64 p.fa, .slice sp len cap] 26)) W) => ThingsAt.lasts p.l _ _ _ hT ((Gr.alloc _ _).tr hg))
  obtain ⟨m, hm, hmk⟩ : ∃ m : Nat, m < len ∧ k % (len : Int) = m := ⟨(k % len).toNat, by have := Int.emod_lt_of_pos k (show (0 : Int) < len by omega); have := Int.emod_nonneg k (show (len : Int) ≠ 0 by omega); omega, by have := Int.emod_nonneg k (show (len : Int) ≠ 0 by omega); omega⟩
  have HLEN := Lib.hid hlen
  obtain ⟨i0, ii0, iz0, iz1, iz2⟩ := info_parts Try.info47
  have II0 := Lib.hid ii0
  have IZ0 := Lib.hid iz0
  have IZ1 := Lib.hid iz1
  have IZ2 := Lib.hid iz2
  clear ii0 iz0 iz1 iz2 hl hT hlen
  go_enter Try.func10, Try.ntmps10
  go_wp2_with fail
  refine (rpair_is h4.out (TH.out _ (Gr.same _))).mono ?_
  rintro e w1 ⟨rfl, hb1⟩
  have hg1 : Gr _ _ := hb1
  obtain ⟨hc, hf, hz⟩ := bcell hg1
  have hs1 : w.heap.size < w1.heap.size := hz _ (by simp)
  have hB1 := ((Box.fresh w [.int .i64 p.fl, .int .i64 p.fh, .int .i64 p.bl, .int .i64 p.bh, .int .i64 p.ti, .int .i64 p.ne, .int .i64 p.fa, .slice sp len cap] 26).grow hg1).facts
  simp only [CellsFrom, Nat.zero_add, Nat.reduceAdd, and_true] at hB1
  have hg3 : Gr w1 ((w1.alloc (.cells #[.int .i64 p.fl, .int .i64 p.fh, .int .i64 p.bl, .int .i64 p.bh, .int .i64 p.ti, .int .i64 p.ne, .int .i64 p.fa, .slice sp len cap] 26)).alloc (.cells #[] 47)) := (Gr.alloc _ _).tr (Gr.alloc _ _)
  have hT3 := TH.out _ (hg1.tr hg3)
  obtain ⟨-, hT3⟩ := hT3
  rcases hT3 with ⟨e, -⟩ | ⟨b, o, cap', hsp, hbl, hcc⟩
  · have := HLEN.out; rw [e] at this; simp at this; omega
  obtain ⟨hsp1, -, -⟩ : sp = some ⟨b, o, none⟩ ∧ len = p.l.length ∧ cap = cap' := by simpa using hsp
  subst hsp1
  have HN := Lib.hid (news_things hcc)
  have HFL := Lib.hid (show (p.l.flatMap Th.vals).length = len * 9 from by rw [← HLEN.out]; exact th_flat_len p.l)
  have HONE := Lib.hid (show ∀ u ∈ p.l.flatMap Th.vals, u.oneCell' = true from fun u hu => by
    obtain ⟨t, -, h⟩ := List.mem_flatMap.1 hu
    exact t.one u h)
  have HOWN := Lib.hid (show ((w1.alloc (.cells #[.int .i64 p.fl, .int .i64 p.fh, .int .i64 p.bl, .int .i64 p.bh, .int .i64 p.ti, .int .i64 p.ne, .int .i64 p.fa, .slice (some ⟨b, o, none⟩) len cap] 26)).alloc (.cells #[] 47)).ownsRow (w1.heap.size + 1) 47 9 (.slice (some ⟨w1.heap.size + 1, 0, none⟩) 0 0) 0 [] from by
    refine ⟨rfl, .inr ⟨w1.heap.size + 1, 0, #[], rfl, Nat.le_refl _, ?_, Nat.le_refl _, Nat.zero_le _, rfl, rfl⟩⟩
    have := heap_new (w1.alloc (.cells #[.int .i64 p.fl, .int .i64 p.fh, .int .i64 p.bl, .int .i64 p.bh, .int .i64 p.ti, .int .i64 p.ne, .int .i64 p.fa, .slice (some ⟨b, o, none⟩) len cap] 26)) (.cells #[] 47)
    simpa using this)
  have HG3 := Lib.hid hg3
  clear hsp hcc hg3
  go_wp2_with (at_builtin; refine wpList_append_lies _ rfl _ _ 24 rfl (w1.heap.size + 1) 47 i0 _ 9 72 Try.underlying24 II0.out IZ0.out IZ1.out IZ2.out rfl (by decide) _ _ _ rfl HOWN.out ⟨b, o, none⟩ len cap (p.l.flatMap Th.vals) rfl HFL.out HN.out HONE.out ?c1 ?c2 ?c3 ?c4 _ rfl ?_)
  case c1 => omega
  case c2 => unfold maxLen; omega
  case c3 => omega
  case c4 => simp
  intro g cap' w4 hown1 hgrow hat hlt
  try simp only [Nat.zero_add, List.nil_append] at hown1
  obtain ⟨-, hown1⟩ := hown1
  rcases hown1 with ⟨hv, -⟩ | ⟨g', cap'', cur, hv, hge, hcur, hcc, hcm, hcs, hct⟩
  · cases hv
  obtain ⟨rfl, -, rfl⟩ : g = g' ∧ len = len ∧ cap' = cap'' := by simpa using hv
  have hgw : w1.heap.size + 1 ≤ g := hge
  have HBG := Lib.hid (show Box w4 g cur.toList 47 from by unfold Box; simpa using hcur)
  have HX := Lib.hid (show Box w4 w1.heap.size [.int .i64 p.fl, .int .i64 p.fh, .int .i64 p.bl, .int .i64 p.bh, .int .i64 p.ti, .int .i64 p.ne, .int .i64 p.fa, .slice (some ⟨b, o, none⟩) len cap] 26 from by
    have h1 : Box ((w1.alloc (.cells #[.int .i64 p.fl, .int .i64 p.fh, .int .i64 p.bl, .int .i64 p.bh, .int .i64 p.ti, .int .i64 p.ne, .int .i64 p.fa, .slice (some ⟨b, o, none⟩) len cap] 26)).alloc (.cells #[] 47)) w1.heap.size [.int .i64 p.fl, .int .i64 p.fh, .int .i64 p.bl, .int .i64 p.bh, .int .i64 p.ti, .int .i64 p.ne, .int .i64 p.fa, .slice (some ⟨b, o, none⟩) len cap] 26 := (Box.fresh w1 [.int .i64 p.fl, .int .i64 p.fh, .int .i64 p.bl, .int .i64 p.bh, .int .i64 p.ti, .int .i64 p.ne, .int .i64 p.fa, .slice (some ⟨b, o, none⟩) len cap] 26).grow (Gr.alloc _ _)
    exact h1.grown hgrow (by simp [Value.ownBlock]))
  have hg4 : Gr w1 w4 := by
    have h1 : Below w1.heap.size w1 ((w1.alloc (.cells #[.int .i64 p.fl, .int .i64 p.fh, .int .i64 p.bl, .int .i64 p.bh, .int .i64 p.ti, .int .i64 p.ne, .int .i64 p.fa, .slice (some ⟨b, o, none⟩) len cap] 26)).alloc (.cells #[] 47)) := HG3.out
    exact h1.grown hgrow h1.size (fun q e => by simp [Value.ownBlock] at e; omega)
  have hxs : w1.heap.size < w4.heap.size := HX.out.lt
  have HF := Lib.hid (show ∀ (i : Nat) (t : Th) (j : Nat) (x : Value), p.l[i]? = some t → t.vals[j]? = some x → cur.toList[i * 9 + j]? = some x from fun i t j x hi hx => flat_take (by rw [← HLEN.out] at hct; exact hct) hi hx)
  have C3 := HX.out.facts
  simp only [CellsFrom, Nat.zero_add, Nat.reduceAdd, and_true] at C3
  have F3 := HX.out.free
  have HG4 := Lib.hid hg4
  obtain ⟨hc4, hf4, hz4⟩ := bcell hg4
  have n1 : ¬ w1.heap.size = g := by omega
  have n3 : ¬ g = w1.heap.size := by omega
  have n5 : ¬ w1.heap.size = w.heap.size := by omega
  have n6 : ¬ w.heap.size = w1.heap.size := by omega
  have n7 : ¬ w.heap.size = g := by omega
  have n8 : ¬ g = w.heap.size := by omega
  clear hv hcur hcc hcm hcs hct hgrow hat hge
  go_wp2_with fail
  have hg5 : Gr w1 (w4.setCell ⟨w1.heap.size, 7, none⟩ (.slice (some ⟨g, 0, none⟩) len cap')) := Below.setCell HG4.out (Nat.le_refl _) _
  have hx5 : Box (w4.setCell ⟨w1.heap.size, 7, none⟩ (.slice (some ⟨g, 0, none⟩) len cap')) w1.heap.size [.int .i64 p.fl, .int .i64 p.fh, .int .i64 p.bl, .int .i64 p.bh, .int .i64 p.ti, .int .i64 p.ne, .int .i64 p.fa, .slice (some ⟨g, 0, none⟩) len cap'] 26 := HX.out.put 7 _
  have hq5 : Box (w4.setCell ⟨w1.heap.size, 7, none⟩ (.slice (some ⟨g, 0, none⟩) len cap')) g cur.toList 47 := HBG.out.other (by omega) _ _
  generalize (w4.setCell ⟨w1.heap.size, 7, none⟩ (.slice (some ⟨g, 0, none⟩) len cap')) = w5 at *
  have C5 := hx5.facts
  simp only [CellsFrom, Nat.zero_add, Nat.reduceAdd, and_true] at C5
  have F5 := hx5.free
  have FG5 := hq5.free
  have hgl := hq5.lt
  have HX5 := Lib.hid hx5
  have HQ5 := Lib.hid hq5
  have HG5 := Lib.hid hg5
  clear hc hf hz hc4 hf4 hz4 C3 F3 HG4 HBG HX hg4 HN HFL HONE HOWN II0 IZ0 IZ1 IZ2 HG3
  obtain ⟨hc, hf, hz⟩ := bcell HG5.out
  go_quiet (fail)
  have hgd : Gr w5 (w5.drewN nq) := Gr.drewN _ _
  have hg6 := HG5.out.tr hgd
  have hx6 := HX5.out.grow hgd
  have hq6 := HQ5.out.grow hgd
  clear hc hf hz C5 F5 FG5 hgl HX5 HQ5 HG5 hx5 hq5 hg5 hgd
  generalize w5.drewN nq = w6 at *
  clear w5
  have HG6 := Lib.hid hg6
  have HX6 := Lib.hid hx6
  have HQ6 := Lib.hid hq6
  clear hg6 hx6 hq6
  go_upto_block 0 with fail
  go_cut [79] (fun _ wc => Gr w1 wc ∧ ∃ (q : Pr) (cq : Nat), p.Nw q ∧ q.ok = true ∧ Box wc w1.heap.size [.int .i64 q.fl, .int .i64 q.fh, .int .i64 q.bl, .int .i64 q.bh, .int .i64 q.ti, .int .i64 q.ne, .int .i64 q.fa, .slice (some ⟨g, 0, none⟩) len cq] 26 ∧ ThingsAt q.l (.slice (some ⟨g, 0, none⟩) len cq) wc)
  case first =>
    obtain ⟨hc, hf, hz⟩ := bcell HG6.out
    have C6 := HX6.out.facts
    simp only [CellsFrom, Nat.zero_add, Nat.reduceAdd, and_true] at C6
    have F6 := HX6.out.free
    have G6 := HQ6.out.free
    have hgl := HQ6.out.lt
    obtain ⟨th, hth⟩ : ∃ th, p.l[m]? = some th := ⟨p.l[m]'(by rw [HLEN.out]; exact hm), List.getElem?_eq_getElem _⟩
    have P6 := ((Box.fresh w [.int .i64 p.fl, .int .i64 p.fh, .int .i64 p.bl, .int .i64 p.bh, .int .i64 p.ti, .int .i64 p.ne, .int .i64 p.fa, .slice (some ⟨b, o, none⟩) len cap] 26).grow (hg1.tr HG6.out)).facts
    simp only [CellsFrom, Nat.zero_add, Nat.reduceAdd, and_true] at P6
    have hb0 := p.bounds h4.out
    have hv0 := ((valid_iff ..).1 h4.out).1
    have HVT := Lib.hid ((hb0.things th (List.mem_of_getElem? hth)).1)
    have HTH := Lib.hid hth
    have hmi : ∀ (j : Nat) (x : Value), th.vals[j]? = some x → cur.toList[m * 9 + j]? = some x := fun j x hx => HF.out m th j x hth hx
    have X0 := HQ6.out.cell (hmi 0 _ rfl)
    have X1 := HQ6.out.cell (hmi 1 _ rfl)
    have X2 := HQ6.out.cell (hmi 2 _ rfl)
    have X3 := HQ6.out.cell (hmi 3 _ rfl)
    have X4 := HQ6.out.cell (hmi 4 _ rfl)
    have X5 := HQ6.out.cell (hmi 5 _ rfl)
    have X6 := HQ6.out.cell (hmi 6 _ rfl)
    have X7 := HQ6.out.cell (hmi 7 _ rfl)
    have X8 := HQ6.out.cell (hmi 8 _ rfl)
    simp only [Nat.add_zero] at X0
    have HMI := Lib.hid hmi
    have q5 : IntKind.i64.wrap (k.tdiv 5) = k / 5 := by rw [Int.tdiv_eq_ediv_of_nonneg hk.1]; exact wraps_i64 _ (by omega) (by omega)
    have q7 : IntKind.i64.wrap (k.tdiv 7) = k / 7 := by rw [Int.tdiv_eq_ediv_of_nonneg hk.1]; exact wraps_i64 _ (by omega) (by omega)
    have k5 : 0 ≤ k / 5 ∧ k / 5 ≤ 1000 := by omega
    have k7 : 0 ≤ k / 7 ∧ k / 7 ≤ 1000 := by omega
    have hgx := Nat.ne_of_lt hgw
    have hml : m < p.l.length := by rw [HLEN.out]; exact hm
    clear hth hmi hb0
    obtain ⟨v1, v2, v3, v4, v5, v6, v7, v8⟩ := HVT.out
    have HN1 := Lib.hid (fun W : World => lnarrow_any th.a th.b (k / 5) W (by unfold inPlate at *; omega) (by unfold inPlate at *; omega) (by unfold inPlate at *; omega) (by unfold inPlate at *; omega) k5.1 k5.2)
    have HN2 := Lib.hid (fun W : World => lnarrow_any th.e th.f (k / 7) W (by unfold inPlate at *; omega) (by unfold inPlate at *; omega) (by unfold inPlate at *; omega) (by unfold inPlate at *; omega) k7.1 k7.2)
    go_wp2_with fail
    refine regionL 21 1 ?_ ?_ ?_
    · kernel_rfl
    · kernel_rfl
    simp only [List.take_succ_cons, List.take_zero, List.drop_succ_cons, List.drop_zero]
    apply chainB_eq (D := [(11, none)]) rfl (by kernel_rfl)
    · intro ρ W ⟨p1, p2, p3⟩ hG hF K hK; (try simp [FactsD] at hF); have ⟨hc, hf, hz⟩ := bcell (Gr.tr (Gr.drew _) hG); go_simp; exact hK _ (gives_val)
    apply chainB_eq (D := [(11, none)]) rfl (by kernel_rfl)
    · intro ρ W ⟨p1, p2, p3⟩ hG hF K hK; (try simp [FactsD] at hF); have ⟨hc, hf, hz⟩ := bcell (Gr.tr (Gr.drew _) hG); go_simp; exact hK _ (gives_val)
    apply chainB_eq (D := [(11, none)]) rfl (by kernel_rfl)
    · intro ρ W ⟨p1, p2, p3⟩ hG hF K hK; (try simp [FactsD] at hF); have ⟨hc, hf, hz⟩ := bcell (Gr.tr (Gr.drew _) hG); go_simp; exact hK _ (gives_val)
    apply chainB_eq (D := [(119, some 0)]) rfl (by kernel_rfl)
    · intro ρ W ⟨p1, p2, p3⟩ hG hF K hK; (try simp [FactsD, exB] at hF); have ⟨hc, hf, hz⟩ := bcell (Gr.tr (Gr.drew _) hG); go_simp; exact hK _ (gives_val)
    apply chainB_eq (D := [(120, some 0)]) rfl (by kernel_rfl)
    · intro ρ W ⟨p1, p2, p3⟩ hG hF K hK; (try simp [FactsD, exB] at hF); have ⟨hc, hf, hz⟩ := bcell (Gr.tr (Gr.drew _) hG); go_simp; exact hK _ (gives_val)
    apply chainB_eq (D := [(121, some 0)]) rfl (by kernel_rfl)
    · intro ρ W ⟨p1, p2, p3⟩ hG hF K hK; (try simp [FactsD, exB] at hF); have ⟨hc, hf, hz⟩ := bcell (Gr.tr (Gr.drew _) hG); go_simp; exact hK _ (gives_val)
    apply chainB_eq (D := [(122, some 0)]) rfl (by kernel_rfl)
    · intro ρ W ⟨p1, p2, p3⟩ hG hF K hK; (try simp [FactsD, exB] at hF); have ⟨hc, hf, hz⟩ := bcell (Gr.tr (Gr.drew _) hG); go_simp; exact hK _ (gives_val)
    apply chainB_eq (D := [(10, none)]) rfl (by kernel_rfl)
    · intro ρ W ⟨p1, p2, p3⟩ hG hF K hK; (try simp [FactsD] at hF); have ⟨hc, hf, hz⟩ := bcell (Gr.tr (Gr.drew _) hG); go_simp; exact hK _ (gives_val)
    apply chainB_eq (D := [(124, some 0)]) rfl (by kernel_rfl)
    · intro ρ W ⟨p1, p2, p3⟩ hG hF K hK; (try simp [FactsD, exB] at hF); have ⟨hc, hf, hz⟩ := bcell (Gr.tr (Gr.drew _) hG); go_simp; exact hK _ (gives_val)
    apply chainB_eq (D := [(123, some 2), (125, some 0)]) rfl (by kernel_rfl)
    · intro ρ W ⟨p1, p2, p3⟩ hG hF K hK; (try simp [FactsD, exB] at hF); have ⟨hc, hf, hz⟩ := bcell (Gr.tr (Gr.drew _) hG); go_simp; exact hK _ (gives_call (HN1.out _))
    apply chainB_eq (D := [(11, none)]) rfl (by kernel_rfl)
    · intro ρ W ⟨p1, p2, p3⟩ hG hF K hK; (try simp [FactsD] at hF); have ⟨hc, hf, hz⟩ := bcell (Gr.tr (Gr.drew _) hG); go_simp; exact hK _ (gives_val)
    apply chainB_eq (D := [(127, some 0)]) rfl (by kernel_rfl)
    · intro ρ W ⟨p1, p2, p3⟩ hG hF K hK; (try simp [FactsD, exB] at hF); have ⟨hc, hf, hz⟩ := bcell (Gr.tr (Gr.drew _) hG); go_simp; exact hK _ (gives_val)
    apply chainB_eq (D := [(128, some 0)]) rfl (by kernel_rfl)
    · intro ρ W ⟨p1, p2, p3⟩ hG hF K hK; (try simp [FactsD, exB] at hF); have ⟨hc, hf, hz⟩ := bcell (Gr.tr (Gr.drew _) hG); go_simp; exact hK _ (gives_val)
    apply chainB_eq (D := [(129, some 0)]) rfl (by kernel_rfl)
    · intro ρ W ⟨p1, p2, p3⟩ hG hF K hK; (try simp [FactsD, exB] at hF); have ⟨hc, hf, hz⟩ := bcell (Gr.tr (Gr.drew _) hG); go_simp; exact hK _ (gives_val)
    apply chainB_eq (D := [(130, some 0)]) rfl (by kernel_rfl)
    · intro ρ W ⟨p1, p2, p3⟩ hG hF K hK; (try simp [FactsD, exB] at hF); have ⟨hc, hf, hz⟩ := bcell (Gr.tr (Gr.drew _) hG); go_simp; exact hK _ (gives_val)
    apply chainB_eq (D := [(10, none)]) rfl (by kernel_rfl)
    · intro ρ W ⟨p1, p2, p3⟩ hG hF K hK; (try simp [FactsD] at hF); have ⟨hc, hf, hz⟩ := bcell (Gr.tr (Gr.drew _) hG); go_simp; exact hK _ (gives_val)
    apply chainB_eq (D := [(132, some 0)]) rfl (by kernel_rfl)
    · intro ρ W ⟨p1, p2, p3⟩ hG hF K hK; (try simp [FactsD, exB] at hF); have ⟨hc, hf, hz⟩ := bcell (Gr.tr (Gr.drew _) hG); go_simp; exact hK _ (gives_val)
    apply chainB_eq (D := [(131, some 2), (133, some 0)]) rfl (by kernel_rfl)
    · intro ρ W ⟨p1, p2, p3⟩ hG hF K hK; (try simp [FactsD, exB] at hF); have ⟨hc, hf, hz⟩ := bcell (Gr.tr (Gr.drew _) hG); go_simp; exact hK _ (gives_call (HN2.out _))
    apply chainB_eq (D := [(117, some 17)]) rfl (by kernel_rfl)
    · intro ρ W ⟨p1, p2, p3⟩ hG hF K hK; (try simp [FactsD, exB] at hF); have ⟨hc, hf, hz⟩ := bcell (Gr.tr (Gr.drew _) hG); go_simp; exact hK _ (gives_val)
    apply chainB_eq (D := [(135, some 0)]) rfl (by kernel_rfl)
    · intro ρ W ⟨p1, p2, p3⟩ hG hF K hK; (try simp [FactsD, exB] at hF); have ⟨hc, hf, hz⟩ := bcell (Gr.tr (Gr.drew _) hG); go_simp; exact hK _ (gives_val)
    apply chainB_eq (D := [(136, some 0)]) rfl (by kernel_rfl)
    · intro ρ W ⟨p1, p2, p3⟩ hG hF K hK; (try simp [FactsD, exB] at hF); have ⟨hc, hf, hz⟩ := bcell (Gr.tr (Gr.drew _) hG); go_simp; exact hK _ (gives_val)
    refine chainB_done ⟨?_, ?_⟩
    · intro vs bs W hG hV hdj
      obtain ⟨e20, -, -, e17, -, -, -, -, -, -, -, e9, -, -, -, -, -, -, -, e1, -⟩ := hV
      simp only [Nat.reduceSub] at e1
      simp only [Nat.reduceSub] at e9
      simp only [Nat.reduceSub] at e17
      simp only [Nat.reduceSub] at e20
      clear hdj
      simp only [lay, Act.put, List.getElem?_toArray, List.getElem?_cons_succ, List.getElem?_cons_zero, Option.bind_some, List.setIfInBounds_toArray, List.set_cons_succ, List.set_cons_zero]
      generalize vs 0 = v0
      generalize vs 1 = v1 at *
      generalize vs 2 = v2
      generalize vs 3 = v3
      generalize vs 4 = v4
      generalize vs 5 = v5
      generalize vs 6 = v6
      generalize vs 7 = v7
      generalize vs 8 = v8
      generalize vs 9 = v9 at *
      generalize vs 10 = v10
      generalize vs 11 = v11
      generalize vs 12 = v12
      generalize vs 13 = v13
      generalize vs 14 = v14
      generalize vs 15 = v15
      generalize vs 16 = v16
      generalize vs 17 = v17 at *
      generalize vs 18 = v18
      generalize vs 19 = v19
      generalize vs 20 = v20 at *
      subst e1
      subst e9
      subst e17
      subst e20
      obtain ⟨hc, hf, hz⟩ := bcell hG
      have HGW := Lib.hid hG
      go_wp2_with fail
      go_meet
      case rel =>
        refine ⟨(Below.setCell (Below.setCell (Below.setCell (Below.setCell (HG6.out.tr HGW.out) (by first | exact Nat.le_refl _ | (simp; done) | (simp; omega) | omega) _) (by first | exact Nat.le_refl _ | (simp; done) | (simp; omega) | omega) _) (by first | exact Nat.le_refl _ | (simp; done) | (simp; omega) | omega) _) (by first | exact Nat.le_refl _ | (simp; done) | (simp; omega) | omega) _), { p with l := p.l.set m { th with a := nwLo th.a th.b (k / 5), b := nwHi th.a th.b (k / 5), e := nwLo th.e th.f (k / 7), f := nwHi th.e th.f (k / 7) } }, cap', (nw_x h4.out HTH.out k5.1 k7.1).1, (nw_x h4.out HTH.out k5.1 k7.1).2, (((((HX6.out.grow HGW.out).other (by omega) _ _).other (by omega) _ _).other (by omega) _ _).other (by omega) _ _), ?_⟩
        exact things_box (by first | exact HLEN.out | (rw [List.length_set]; exact HLEN.out)) ((((((HQ6.out.grow HGW.out).put (m * 9) _).put (m * 9 + 1) _).put (m * 9 + 4) _).put (m * 9 + 5) _)) (by omega) (things_put HF.out hml (vals_in (put_x HMI.out _ _ _ _)) (fun k' hk' => by repeat rw [List.getElem?_set_ne (by omega)]))
    · intro vs bs W hG hV hdj
      obtain ⟨e20, -, -, e17, -, -, -, -, -, -, -, e9, -⟩ := hV
      simp only [Nat.reduceSub, Nat.reduceEqDiff, if_false] at e9
      simp only [Nat.reduceSub, Nat.reduceEqDiff, if_false] at e17
      simp only [Nat.reduceSub, Nat.reduceEqDiff, if_false] at e20
      clear hdj
      refine wpOp_two rfl rfl ?_
      simp only [layL, Nat.reduceEqDiff, if_false, if_true, Act.put, List.getElem?_toArray, List.getElem?_cons_succ, List.getElem?_cons_zero, Option.bind_some, List.setIfInBounds_toArray, List.set_cons_succ, List.set_cons_zero, List.drop_succ_cons, List.drop_zero]
      generalize vs 0 = v0
      generalize vs 2 = v2
      generalize vs 3 = v3
      generalize vs 4 = v4
      generalize vs 5 = v5
      generalize vs 6 = v6
      generalize vs 7 = v7
      generalize vs 8 = v8
      generalize vs 9 = v9 at *
      generalize vs 10 = v10
      generalize vs 11 = v11
      generalize vs 12 = v12
      generalize vs 13 = v13
      generalize vs 14 = v14
      generalize vs 15 = v15
      generalize vs 16 = v16
      generalize vs 17 = v17 at *
      generalize vs 18 = v18
      generalize vs 19 = v19
      generalize vs 20 = v20 at *
      subst e9
      subst e17
      subst e20
      obtain ⟨hc, hf, hz⟩ := bcell hG
      have HGW := Lib.hid hG
      go_wp2_with fail
      go_meet
      case rel =>
        refine ⟨(Below.setCell (Below.setCell (Below.setCell (Below.setCell (HG6.out.tr HGW.out) (by first | exact Nat.le_refl _ | (simp; done) | (simp; omega) | omega) _) (by first | exact Nat.le_refl _ | (simp; done) | (simp; omega) | omega) _) (by first | exact Nat.le_refl _ | (simp; done) | (simp; omega) | omega) _) (by first | exact Nat.le_refl _ | (simp; done) | (simp; omega) | omega) _), { p with l := p.l.set m { th with a := nwLo th.a th.b (k / 5), b := nwHi th.a th.b (k / 5), e := nwLo th.e th.f (k / 7), f := nwHi th.e th.f (k / 7) } }, cap', (nw_x h4.out HTH.out k5.1 k7.1).1, (nw_x h4.out HTH.out k5.1 k7.1).2, (((((HX6.out.grow HGW.out).other (by omega) _ _).other (by omega) _ _).other (by omega) _ _).other (by omega) _ _), ?_⟩
        exact things_box (by first | exact HLEN.out | (rw [List.length_set]; exact HLEN.out)) ((((((HQ6.out.grow HGW.out).put (m * 9) _).put (m * 9 + 1) _).put (m * 9 + 4) _).put (m * 9 + 5) _)) (by omega) (things_put HF.out hml (vals_in (put_x HMI.out _ _ _ _)) (fun k' hk' => by repeat rw [List.getElem?_set_ne (by omega)]))
  case rest =>
    obtain ⟨hgc, q, cq, hnw, hqk, hbx, hqt⟩ := hcut
    rename_i KK hKK
    exact hKK _ _ (lmore_rest p q _ _ len cap cq n w.heap.size w1.heap.size w wc (Lib.hid fun W hg => TH.out _ ((hg1.tr hgc).tr hg)) hqt ((Box.fresh w [.int .i64 p.fl, .int .i64 p.fh, .int .i64 p.bl, .int .i64 p.bh, .int .i64 p.ti, .int .i64 p.ne, .int .i64 p.fa, .slice (some ⟨b, o, none⟩) len cap] 26).grow (hg1.tr hgc)) hbx hnw h4.out hqk (by rw [HLEN.out]; exact hn) (Lib.hid (bgr ((Below.refl _ _).alloc (Nat.le_refl _) _) (by simp) (hg1.tr hgc))) _ _ _ _ _ _ _ _ _ _ _ _ _ _ _ _ _ _ _ _ _ _ _ _ _ _ _ _ _ _ _ _ _ _ _ _ _ _ _ _ _ _ _ _ _ _ _ _ _ _ _ _ _ _ _ _ _ _ _ _ _ _ _ _ _ _ _ _ _ _ _ _ _ _ _ _ _ _ _ _ _ _ _ _ _ _ _ _ _ _ _ _ _ _ _ _ _ _ _ _ _ _ _ _ _ _ _ _ _ _ _ _ _ _ _ _ _ _ _ _ _ _ _ _ _ _ _ _ _ _ _ _ _ _ _ _ _ _ _ _ _ _ _ _ _ _ _ _ _ _ _ _ _ _ _ _ _ _ _ _ _ _ _ _ _ _ _ _ _ _ _ _ _ _ _ _ _ _ _ _ _ _ _ _ _ _ _ _ _ _ _ _ _ _ _ _ _ _ _ _ _ _ _ _ _ _ _ _ _ _ _ _ _ _ _ _ _ _ _ _ _ _ _ _ _ _ _ _ _ _ _ _ _ _ _ _ _ _ _ _ _ _ _ _ _ _ _ _ _ _ _ _ _ _ _ _ _ _ _ _ _ _ _ _ _ _ _ _ _ _ _ _ _ _ _ _ _ _ _ _ _ _ _ _ _ _ _ _ _ _ _ _ _ _ _ _ _ _ _ _ _ _ _ _ _ _ _ _ _ _ _ _ _ _ _ _ _ _ _ _ _ _)
set_option maxRecDepth 100000 in
set_option maxHeartbeats 4000000 in
theorem lmore_ok2 (p : Pr) (sp : Option Addr) (len cap : Nat) (n : Nat) (far k : Int) (w : World) (hl : len ≤ 40) (hT : ThingsAt p.l (.slice sp len cap) w) (h5 : k % 5 = 2) (hlen : p.l.length = len) (hl12 : len ≤ 12) (h4 : Hid (p.ok = true)) (hn : n < len) (hk : 0 ≤ k ∧ k ≤ 255) :
    Calls Try.prog 10 #[.agg #[.int .i64 p.fl, .int .i64 p.fh, .int .i64 p.bl, .int .i64 p.bh, .int .i64 p.ti, .int .i64 p.ne, .int .i64 p.fa, .slice sp len cap], .int .i64 n, .int .i64 far, .int .u8 k] w fun e w' => e = .returned (.bool true) ∧ Below w.heap.size w w' := by
  have d : decide (40 < (len : Int)) = false := by simp; omega
  have d' : decide (40 < len) = false := by simp; omega
  have x1 : ((len : Int) == 0) = false := by simp; omega
  have x2 : (len == 0) = false := by simp; omega
  have x3 : decide ((n : Int) < 0) = false := by simp
  have x4 : decide ((len : Int) ≤ n) = false := by simp; omega
  have x5 : decide (len ≤ n) = false := by simp; omega
  have TH := Lib.hid (fun (W : World) (hg : Gr (w.alloc (.cells #[.int .i64 p.fl, .int .i64 p.fh, .int .i64 p.bl, .int .i64 p.bh, .int .i64 p.ti, .int .i64 p.ne, .int .i64 p.fa, .slice sp len cap] 26)) W) => ThingsAt.lasts p.l _ _ _ hT ((Gr.alloc _ _).tr hg))
  obtain ⟨m, hm, hmk⟩ : ∃ m : Nat, m < len ∧ k % (len : Int) = m := ⟨(k % len).toNat, by have := Int.emod_lt_of_pos k (show (0 : Int) < len by omega); have := Int.emod_nonneg k (show (len : Int) ≠ 0 by omega); omega, by have := Int.emod_nonneg k (show (len : Int) ≠ 0 by omega); omega⟩
  have HLEN := Lib.hid hlen
  obtain ⟨i0, ii0, iz0, iz1, iz2⟩ := info_parts Try.info47
  have II0 := Lib.hid ii0
  have IZ0 := Lib.hid iz0
  have IZ1 := Lib.hid iz1
  have IZ2 := Lib.hid iz2
  clear ii0 iz0 iz1 iz2 hl hT hlen
  go_enter Try.func10, Try.ntmps10
  go_wp2_with fail
  refine (rpair_is h4.out (TH.out _ (Gr.same _))).mono ?_
  rintro e w1 ⟨rfl, hb1⟩
  have hg1 : Gr _ _ := hb1
  obtain ⟨hc, hf, hz⟩ := bcell hg1
  have hs1 : w.heap.size < w1.heap.size := hz _ (by simp)
  have hB1 := ((Box.fresh w [.int .i64 p.fl, .int .i64 p.fh, .int .i64 p.bl, .int .i64 p.bh, .int .i64 p.ti, .int .i64 p.ne, .int .i64 p.fa, .slice sp len cap] 26).grow hg1).facts
  simp only [CellsFrom, Nat.zero_add, Nat.reduceAdd, and_true] at hB1
  have hg3 : Gr w1 ((w1.alloc (.cells #[.int .i64 p.fl, .int .i64 p.fh, .int .i64 p.bl, .int .i64 p.bh, .int .i64 p.ti, .int .i64 p.ne, .int .i64 p.fa, .slice sp len cap] 26)).alloc (.cells #[] 47)) := (Gr.alloc _ _).tr (Gr.alloc _ _)
  have hT3 := TH.out _ (hg1.tr hg3)
  obtain ⟨-, hT3⟩ := hT3
  rcases hT3 with ⟨e, -⟩ | ⟨b, o, cap', hsp, hbl, hcc⟩
  · have := HLEN.out; rw [e] at this; simp at this; omega
  obtain ⟨hsp1, -, -⟩ : sp = some ⟨b, o, none⟩ ∧ len = p.l.length ∧ cap = cap' := by simpa using hsp
  subst hsp1
  have HN := Lib.hid (news_things hcc)
  have HFL := Lib.hid (show (p.l.flatMap Th.vals).length = len * 9 from by rw [← HLEN.out]; exact th_flat_len p.l)
  have HONE := Lib.hid (show ∀ u ∈ p.l.flatMap Th.vals, u.oneCell' = true from fun u hu => by
    obtain ⟨t, -, h⟩ := List.mem_flatMap.1 hu
    exact t.one u h)
  have HOWN := Lib.hid (show ((w1.alloc (.cells #[.int .i64 p.fl, .int .i64 p.fh, .int .i64 p.bl, .int .i64 p.bh, .int .i64 p.ti, .int .i64 p.ne, .int .i64 p.fa, .slice (some ⟨b, o, none⟩) len cap] 26)).alloc (.cells #[] 47)).ownsRow (w1.heap.size + 1) 47 9 (.slice (some ⟨w1.heap.size + 1, 0, none⟩) 0 0) 0 [] from by
    refine ⟨rfl, .inr ⟨w1.heap.size + 1, 0, #[], rfl, Nat.le_refl _, ?_, Nat.le_refl _, Nat.zero_le _, rfl, rfl⟩⟩
    have := heap_new (w1.alloc (.cells #[.int .i64 p.fl, .int .i64 p.fh, .int .i64 p.bl, .int .i64 p.bh, .int .i64 p.ti, .int .i64 p.ne, .int .i64 p.fa, .slice (some ⟨b, o, none⟩) len cap] 26)) (.cells #[] 47)
    simpa using this)
  have HG3 := Lib.hid hg3
  clear hsp hcc hg3
  go_wp2_with (at_builtin; refine wpList_append_lies _ rfl _ _ 24 rfl (w1.heap.size + 1) 47 i0 _ 9 72 Try.underlying24 II0.out IZ0.out IZ1.out IZ2.out rfl (by decide) _ _ _ rfl HOWN.out ⟨b, o, none⟩ len cap (p.l.flatMap Th.vals) rfl HFL.out HN.out HONE.out ?c1 ?c2 ?c3 ?c4 _ rfl ?_)
  case c1 => omega
  case c2 => unfold maxLen; omega
  case c3 => omega
  case c4 => simp
  intro g cap' w4 hown1 hgrow hat hlt
  try simp only [Nat.zero_add, List.nil_append] at hown1
  obtain ⟨-, hown1⟩ := hown1
  rcases hown1 with ⟨hv, -⟩ | ⟨g', cap'', cur, hv, hge, hcur, hcc, hcm, hcs, hct⟩
  · cases hv
  obtain ⟨rfl, -, rfl⟩ : g = g' ∧ len = len ∧ cap' = cap'' := by simpa using hv
  have hgw : w1.heap.size + 1 ≤ g := hge
  have HBG := Lib.hid (show Box w4 g cur.toList 47 from by unfold Box; simpa using hcur)
  have HX := Lib.hid (show Box w4 w1.heap.size [.int .i64 p.fl, .int .i64 p.fh, .int .i64 p.bl, .int .i64 p.bh, .int .i64 p.ti, .int .i64 p.ne, .int .i64 p.fa, .slice (some ⟨b, o, none⟩) len cap] 26 from by
    have h1 : Box ((w1.alloc (.cells #[.int .i64 p.fl, .int .i64 p.fh, .int .i64 p.bl, .int .i64 p.bh, .int .i64 p.ti, .int .i64 p.ne, .int .i64 p.fa, .slice (some ⟨b, o, none⟩) len cap] 26)).alloc (.cells #[] 47)) w1.heap.size [.int .i64 p.fl, .int .i64 p.fh, .int .i64 p.bl, .int .i64 p.bh, .int .i64 p.ti, .int .i64 p.ne, .int .i64 p.fa, .slice (some ⟨b, o, none⟩) len cap] 26 := (Box.fresh w1 [.int .i64 p.fl, .int .i64 p.fh, .int .i64 p.bl, .int .i64 p.bh, .int .i64 p.ti, .int .i64 p.ne, .int .i64 p.fa, .slice (some ⟨b, o, none⟩) len cap] 26).grow (Gr.alloc _ _)
    exact h1.grown hgrow (by simp [Value.ownBlock]))
  have hg4 : Gr w1 w4 := by
    have h1 : Below w1.heap.size w1 ((w1.alloc (.cells #[.int .i64 p.fl, .int .i64 p.fh, .int .i64 p.bl, .int .i64 p.bh, .int .i64 p.ti, .int .i64 p.ne, .int .i64 p.fa, .slice (some ⟨b, o, none⟩) len cap] 26)).alloc (.cells #[] 47)) := HG3.out
    exact h1.grown hgrow h1.size (fun q e => by simp [Value.ownBlock] at e; omega)
  have hxs : w1.heap.size < w4.heap.size := HX.out.lt
  have HF := Lib.hid (show ∀ (i : Nat) (t : Th) (j : Nat) (x : Value), p.l[i]? = some t → t.vals[j]? = some x → cur.toList[i * 9 + j]? = some x from fun i t j x hi hx => flat_take (by rw [← HLEN.out] at hct; exact hct) hi hx)
  have C3 := HX.out.facts
  simp only [CellsFrom, Nat.zero_add, Nat.reduceAdd, and_true] at C3
  have F3 := HX.out.free
  have HG4 := Lib.hid hg4
  obtain ⟨hc4, hf4, hz4⟩ := bcell hg4
  have n1 : ¬ w1.heap.size = g := by omega
  have n3 : ¬ g = w1.heap.size := by omega
  have n5 : ¬ w1.heap.size = w.heap.size := by omega
  have n6 : ¬ w.heap.size = w1.heap.size := by omega
  have n7 : ¬ w.heap.size = g := by omega
  have n8 : ¬ g = w.heap.size := by omega
  clear hv hcur hcc hcm hcs hct hgrow hat hge
  go_wp2_with fail
  have hg5 : Gr w1 (w4.setCell ⟨w1.heap.size, 7, none⟩ (.slice (some ⟨g, 0, none⟩) len cap')) := Below.setCell HG4.out (Nat.le_refl _) _
  have hx5 : Box (w4.setCell ⟨w1.heap.size, 7, none⟩ (.slice (some ⟨g, 0, none⟩) len cap')) w1.heap.size [.int .i64 p.fl, .int .i64 p.fh, .int .i64 p.bl, .int .i64 p.bh, .int .i64 p.ti, .int .i64 p.ne, .int .i64 p.fa, .slice (some ⟨g, 0, none⟩) len cap'] 26 := HX.out.put 7 _
  have hq5 : Box (w4.setCell ⟨w1.heap.size, 7, none⟩ (.slice (some ⟨g, 0, none⟩) len cap')) g cur.toList 47 := HBG.out.other (by omega) _ _
  generalize (w4.setCell ⟨w1.heap.size, 7, none⟩ (.slice (some ⟨g, 0, none⟩) len cap')) = w5 at *
  have C5 := hx5.facts
  simp only [CellsFrom, Nat.zero_add, Nat.reduceAdd, and_true] at C5
  have F5 := hx5.free
  have FG5 := hq5.free
  have hgl := hq5.lt
  have HX5 := Lib.hid hx5
  have HQ5 := Lib.hid hq5
  have HG5 := Lib.hid hg5
  clear hc hf hz hc4 hf4 hz4 C3 F3 HG4 HBG HX hg4 HN HFL HONE HOWN II0 IZ0 IZ1 IZ2 HG3
  obtain ⟨hc, hf, hz⟩ := bcell HG5.out
  go_quiet (fail)
  have hgd : Gr w5 (w5.drewN nq) := Gr.drewN _ _
  have hg6 := HG5.out.tr hgd
  have hx6 := HX5.out.grow hgd
  have hq6 := HQ5.out.grow hgd
  clear hc hf hz C5 F5 FG5 hgl HX5 HQ5 HG5 hx5 hq5 hg5 hgd
  generalize w5.drewN nq = w6 at *
  clear w5
  have HG6 := Lib.hid hg6
  have HX6 := Lib.hid hx6
  have HQ6 := Lib.hid hq6
  clear hg6 hx6 hq6
  go_upto_block 0 with fail
  go_cut [79] (fun _ wc => Gr w1 wc ∧ ∃ (q : Pr) (cq : Nat), p.Nw q ∧ q.ok = true ∧ Box wc w1.heap.size [.int .i64 q.fl, .int .i64 q.fh, .int .i64 q.bl, .int .i64 q.bh, .int .i64 q.ti, .int .i64 q.ne, .int .i64 q.fa, .slice (some ⟨g, 0, none⟩) len cq] 26 ∧ ThingsAt q.l (.slice (some ⟨g, 0, none⟩) len cq) wc)
  case first =>
    obtain ⟨hc, hf, hz⟩ := bcell HG6.out
    have C6 := HX6.out.facts
    simp only [CellsFrom, Nat.zero_add, Nat.reduceAdd, and_true] at C6
    have F6 := HX6.out.free
    have G6 := HQ6.out.free
    have hgl := HQ6.out.lt
    obtain ⟨th, hth⟩ : ∃ th, p.l[m]? = some th := ⟨p.l[m]'(by rw [HLEN.out]; exact hm), List.getElem?_eq_getElem _⟩
    have P6 := ((Box.fresh w [.int .i64 p.fl, .int .i64 p.fh, .int .i64 p.bl, .int .i64 p.bh, .int .i64 p.ti, .int .i64 p.ne, .int .i64 p.fa, .slice (some ⟨b, o, none⟩) len cap] 26).grow (hg1.tr HG6.out)).facts
    simp only [CellsFrom, Nat.zero_add, Nat.reduceAdd, and_true] at P6
    have hb0 := p.bounds h4.out
    have hv0 := ((valid_iff ..).1 h4.out).1
    have HVT := Lib.hid ((hb0.things th (List.mem_of_getElem? hth)).1)
    have HTH := Lib.hid hth
    have hmi : ∀ (j : Nat) (x : Value), th.vals[j]? = some x → cur.toList[m * 9 + j]? = some x := fun j x hx => HF.out m th j x hth hx
    have X0 := HQ6.out.cell (hmi 0 _ rfl)
    have X1 := HQ6.out.cell (hmi 1 _ rfl)
    have X2 := HQ6.out.cell (hmi 2 _ rfl)
    have X3 := HQ6.out.cell (hmi 3 _ rfl)
    have X4 := HQ6.out.cell (hmi 4 _ rfl)
    have X5 := HQ6.out.cell (hmi 5 _ rfl)
    have X6 := HQ6.out.cell (hmi 6 _ rfl)
    have X7 := HQ6.out.cell (hmi 7 _ rfl)
    have X8 := HQ6.out.cell (hmi 8 _ rfl)
    simp only [Nat.add_zero] at X0
    have HMI := Lib.hid hmi
    have q5 : IntKind.i64.wrap (k.tdiv 5) = k / 5 := by rw [Int.tdiv_eq_ediv_of_nonneg hk.1]; exact wraps_i64 _ (by omega) (by omega)
    have q7 : IntKind.i64.wrap (k.tdiv 7) = k / 7 := by rw [Int.tdiv_eq_ediv_of_nonneg hk.1]; exact wraps_i64 _ (by omega) (by omega)
    have k5 : 0 ≤ k / 5 ∧ k / 5 ≤ 1000 := by omega
    have k7 : 0 ≤ k / 7 ∧ k / 7 ≤ 1000 := by omega
    have hgx := Nat.ne_of_lt hgw
    have hml : m < p.l.length := by rw [HLEN.out]; exact hm
    clear hth hmi hb0
    obtain ⟨v1, v2, v3, v4, v5, v6, v7, v8⟩ := HVT.out
    have HN1 := Lib.hid (fun W : World => lnarrow_any th.c th.d (k / 5) W (by unfold inPlate at *; omega) (by unfold inPlate at *; omega) (by unfold inPlate at *; omega) (by unfold inPlate at *; omega) k5.1 k5.2)
    have HN2 := Lib.hid (fun W : World => lnarrow_any th.g th.h (k / 7) W (by unfold inPlate at *; omega) (by unfold inPlate at *; omega) (by unfold inPlate at *; omega) (by unfold inPlate at *; omega) k7.1 k7.2)
    go_wp2_with fail
    refine regionL 21 1 ?_ ?_ ?_
    · kernel_rfl
    · kernel_rfl
    simp only [List.take_succ_cons, List.take_zero, List.drop_succ_cons, List.drop_zero]
    apply chainB_eq (D := [(11, none)]) rfl (by kernel_rfl)
    · intro ρ W ⟨p1, p2, p3⟩ hG hF K hK; (try simp [FactsD] at hF); have ⟨hc, hf, hz⟩ := bcell (Gr.tr (Gr.drew _) hG); go_simp; exact hK _ (gives_val)
    apply chainB_eq (D := [(11, none)]) rfl (by kernel_rfl)
    · intro ρ W ⟨p1, p2, p3⟩ hG hF K hK; (try simp [FactsD] at hF); have ⟨hc, hf, hz⟩ := bcell (Gr.tr (Gr.drew _) hG); go_simp; exact hK _ (gives_val)
    apply chainB_eq (D := [(11, none)]) rfl (by kernel_rfl)
    · intro ρ W ⟨p1, p2, p3⟩ hG hF K hK; (try simp [FactsD] at hF); have ⟨hc, hf, hz⟩ := bcell (Gr.tr (Gr.drew _) hG); go_simp; exact hK _ (gives_val)
    apply chainB_eq (D := [(145, some 0)]) rfl (by kernel_rfl)
    · intro ρ W ⟨p1, p2, p3⟩ hG hF K hK; (try simp [FactsD, exB] at hF); have ⟨hc, hf, hz⟩ := bcell (Gr.tr (Gr.drew _) hG); go_simp; exact hK _ (gives_val)
    apply chainB_eq (D := [(146, some 0)]) rfl (by kernel_rfl)
    · intro ρ W ⟨p1, p2, p3⟩ hG hF K hK; (try simp [FactsD, exB] at hF); have ⟨hc, hf, hz⟩ := bcell (Gr.tr (Gr.drew _) hG); go_simp; exact hK _ (gives_val)
    apply chainB_eq (D := [(147, some 0)]) rfl (by kernel_rfl)
    · intro ρ W ⟨p1, p2, p3⟩ hG hF K hK; (try simp [FactsD, exB] at hF); have ⟨hc, hf, hz⟩ := bcell (Gr.tr (Gr.drew _) hG); go_simp; exact hK _ (gives_val)
    apply chainB_eq (D := [(148, some 0)]) rfl (by kernel_rfl)
    · intro ρ W ⟨p1, p2, p3⟩ hG hF K hK; (try simp [FactsD, exB] at hF); have ⟨hc, hf, hz⟩ := bcell (Gr.tr (Gr.drew _) hG); go_simp; exact hK _ (gives_val)
    apply chainB_eq (D := [(10, none)]) rfl (by kernel_rfl)
    · intro ρ W ⟨p1, p2, p3⟩ hG hF K hK; (try simp [FactsD] at hF); have ⟨hc, hf, hz⟩ := bcell (Gr.tr (Gr.drew _) hG); go_simp; exact hK _ (gives_val)
    apply chainB_eq (D := [(150, some 0)]) rfl (by kernel_rfl)
    · intro ρ W ⟨p1, p2, p3⟩ hG hF K hK; (try simp [FactsD, exB] at hF); have ⟨hc, hf, hz⟩ := bcell (Gr.tr (Gr.drew _) hG); go_simp; exact hK _ (gives_val)
    apply chainB_eq (D := [(149, some 2), (151, some 0)]) rfl (by kernel_rfl)
    · intro ρ W ⟨p1, p2, p3⟩ hG hF K hK; (try simp [FactsD, exB] at hF); have ⟨hc, hf, hz⟩ := bcell (Gr.tr (Gr.drew _) hG); go_simp; exact hK _ (gives_call (HN1.out _))
    apply chainB_eq (D := [(11, none)]) rfl (by kernel_rfl)
    · intro ρ W ⟨p1, p2, p3⟩ hG hF K hK; (try simp [FactsD] at hF); have ⟨hc, hf, hz⟩ := bcell (Gr.tr (Gr.drew _) hG); go_simp; exact hK _ (gives_val)
    apply chainB_eq (D := [(153, some 0)]) rfl (by kernel_rfl)
    · intro ρ W ⟨p1, p2, p3⟩ hG hF K hK; (try simp [FactsD, exB] at hF); have ⟨hc, hf, hz⟩ := bcell (Gr.tr (Gr.drew _) hG); go_simp; exact hK _ (gives_val)
    apply chainB_eq (D := [(154, some 0)]) rfl (by kernel_rfl)
    · intro ρ W ⟨p1, p2, p3⟩ hG hF K hK; (try simp [FactsD, exB] at hF); have ⟨hc, hf, hz⟩ := bcell (Gr.tr (Gr.drew _) hG); go_simp; exact hK _ (gives_val)
    apply chainB_eq (D := [(155, some 0)]) rfl (by kernel_rfl)
    · intro ρ W ⟨p1, p2, p3⟩ hG hF K hK; (try simp [FactsD, exB] at hF); have ⟨hc, hf, hz⟩ := bcell (Gr.tr (Gr.drew _) hG); go_simp; exact hK _ (gives_val)
    apply chainB_eq (D := [(156, some 0)]) rfl (by kernel_rfl)
    · intro ρ W ⟨p1, p2, p3⟩ hG hF K hK; (try simp [FactsD, exB] at hF); have ⟨hc, hf, hz⟩ := bcell (Gr.tr (Gr.drew _) hG); go_simp; exact hK _ (gives_val)
    apply chainB_eq (D := [(10, none)]) rfl (by kernel_rfl)
    · intro ρ W ⟨p1, p2, p3⟩ hG hF K hK; (try simp [FactsD] at hF); have ⟨hc, hf, hz⟩ := bcell (Gr.tr (Gr.drew _) hG); go_simp; exact hK _ (gives_val)
    apply chainB_eq (D := [(158, some 0)]) rfl (by kernel_rfl)
    · intro ρ W ⟨p1, p2, p3⟩ hG hF K hK; (try simp [FactsD, exB] at hF); have ⟨hc, hf, hz⟩ := bcell (Gr.tr (Gr.drew _) hG); go_simp; exact hK _ (gives_val)
    apply chainB_eq (D := [(157, some 2), (159, some 0)]) rfl (by kernel_rfl)
    · intro ρ W ⟨p1, p2, p3⟩ hG hF K hK; (try simp [FactsD, exB] at hF); have ⟨hc, hf, hz⟩ := bcell (Gr.tr (Gr.drew _) hG); go_simp; exact hK _ (gives_call (HN2.out _))
    apply chainB_eq (D := [(143, some 17)]) rfl (by kernel_rfl)
    · intro ρ W ⟨p1, p2, p3⟩ hG hF K hK; (try simp [FactsD, exB] at hF); have ⟨hc, hf, hz⟩ := bcell (Gr.tr (Gr.drew _) hG); go_simp; exact hK _ (gives_val)
    apply chainB_eq (D := [(161, some 0)]) rfl (by kernel_rfl)
    · intro ρ W ⟨p1, p2, p3⟩ hG hF K hK; (try simp [FactsD, exB] at hF); have ⟨hc, hf, hz⟩ := bcell (Gr.tr (Gr.drew _) hG); go_simp; exact hK _ (gives_val)
    apply chainB_eq (D := [(162, some 0)]) rfl (by kernel_rfl)
    · intro ρ W ⟨p1, p2, p3⟩ hG hF K hK; (try simp [FactsD, exB] at hF); have ⟨hc, hf, hz⟩ := bcell (Gr.tr (Gr.drew _) hG); go_simp; exact hK _ (gives_val)
    refine chainB_done ⟨?_, ?_⟩
    · intro vs bs W hG hV hdj
      obtain ⟨e20, -, -, e17, -, -, -, -, -, -, -, e9, -, -, -, -, -, -, -, e1, -⟩ := hV
      simp only [Nat.reduceSub] at e1
      simp only [Nat.reduceSub] at e9
      simp only [Nat.reduceSub] at e17
      simp only [Nat.reduceSub] at e20
      clear hdj
      simp only [lay, Act.put, List.getElem?_toArray, List.getElem?_cons_succ, List.getElem?_cons_zero, Option.bind_some, List.setIfInBounds_toArray, List.set_cons_succ, List.set_cons_zero]
      generalize vs 0 = v0
      generalize vs 1 = v1 at *
      generalize vs 2 = v2
      generalize vs 3 = v3
      generalize vs 4 = v4
      generalize vs 5 = v5
      generalize vs 6 = v6
      generalize vs 7 = v7
      generalize vs 8 = v8
      generalize vs 9 = v9 at *
      generalize vs 10 = v10
      generalize vs 11 = v11
      generalize vs 12 = v12
      generalize vs 13 = v13
      generalize vs 14 = v14
      generalize vs 15 = v15
      generalize vs 16 = v16
      generalize vs 17 = v17 at *
      generalize vs 18 = v18
      generalize vs 19 = v19
      generalize vs 20 = v20 at *
      subst e1
      subst e9
      subst e17
      subst e20
      obtain ⟨hc, hf, hz⟩ := bcell hG
      have HGW := Lib.hid hG
      go_wp2_with fail
      go_meet
      case rel =>
        refine ⟨(Below.setCell (Below.setCell (Below.setCell (Below.setCell (HG6.out.tr HGW.out) (by first | exact Nat.le_refl _ | (simp; done) | (simp; omega) | omega) _) (by first | exact Nat.le_refl _ | (simp; done) | (simp; omega) | omega) _) (by first | exact Nat.le_refl _ | (simp; done) | (simp; omega) | omega) _) (by first | exact Nat.le_refl _ | (simp; done) | (simp; omega) | omega) _), { p with l := p.l.set m { th with c := nwLo th.c th.d (k / 5), d := nwHi th.c th.d (k / 5), g := nwLo th.g th.h (k / 7), h := nwHi th.g th.h (k / 7) } }, cap', (nw_y h4.out HTH.out k5.1 k7.1).1, (nw_y h4.out HTH.out k5.1 k7.1).2, (((((HX6.out.grow HGW.out).other (by omega) _ _).other (by omega) _ _).other (by omega) _ _).other (by omega) _ _), ?_⟩
        exact things_box (by first | exact HLEN.out | (rw [List.length_set]; exact HLEN.out)) ((((((HQ6.out.grow HGW.out).put (m * 9 + 2) _).put (m * 9 + 3) _).put (m * 9 + 6) _).put (m * 9 + 7) _)) (by omega) (things_put HF.out hml (vals_in (put_y HMI.out _ _ _ _)) (fun k' hk' => by repeat rw [List.getElem?_set_ne (by omega)]))
    · intro vs bs W hG hV hdj
      obtain ⟨e20, -, -, e17, -, -, -, -, -, -, -, e9, -⟩ := hV
      simp only [Nat.reduceSub, Nat.reduceEqDiff, if_false] at e9
      simp only [Nat.reduceSub, Nat.reduceEqDiff, if_false] at e17
      simp only [Nat.reduceSub, Nat.reduceEqDiff, if_false] at e20
      clear hdj
      refine wpOp_two rfl rfl ?_
      simp only [layL, Nat.reduceEqDiff, if_false, if_true, Act.put, List.getElem?_toArray, List.getElem?_cons_succ, List.getElem?_cons_zero, Option.bind_some, List.setIfInBounds_toArray, List.set_cons_succ, List.set_cons_zero, List.drop_succ_cons, List.drop_zero]
      generalize vs 0 = v0
      generalize vs 2 = v2
      generalize vs 3 = v3
      generalize vs 4 = v4
      generalize vs 5 = v5
      generalize vs 6 = v6
      generalize vs 7 = v7
      generalize vs 8 = v8
      generalize vs 9 = v9 at *
      generalize vs 10 = v10
      generalize vs 11 = v11
      generalize vs 12 = v12
      generalize vs 13 = v13
      generalize vs 14 = v14
      generalize vs 15 = v15
      generalize vs 16 = v16
      generalize vs 17 = v17 at *
      generalize vs 18 = v18
      generalize vs 19 = v19
      generalize vs 20 = v20 at *
      subst e9
      subst e17
      subst e20
      obtain ⟨hc, hf, hz⟩ := bcell hG
      have HGW := Lib.hid hG
      go_wp2_with fail
      go_meet
      case rel =>
        refine ⟨(Below.setCell (Below.setCell (Below.setCell (Below.setCell (HG6.out.tr HGW.out) (by first | exact Nat.le_refl _ | (simp; done) | (simp; omega) | omega) _) (by first | exact Nat.le_refl _ | (simp; done) | (simp; omega) | omega) _) (by first | exact Nat.le_refl _ | (simp; done) | (simp; omega) | omega) _) (by first | exact Nat.le_refl _ | (simp; done) | (simp; omega) | omega) _), { p with l := p.l.set m { th with c := nwLo th.c th.d (k / 5), d := nwHi th.c th.d (k / 5), g := nwLo th.g th.h (k / 7), h := nwHi th.g th.h (k / 7) } }, cap', (nw_y h4.out HTH.out k5.1 k7.1).1, (nw_y h4.out HTH.out k5.1 k7.1).2, (((((HX6.out.grow HGW.out).other (by omega) _ _).other (by omega) _ _).other (by omega) _ _).other (by omega) _ _), ?_⟩
        exact things_box (by first | exact HLEN.out | (rw [List.length_set]; exact HLEN.out)) ((((((HQ6.out.grow HGW.out).put (m * 9 + 2) _).put (m * 9 + 3) _).put (m * 9 + 6) _).put (m * 9 + 7) _)) (by omega) (things_put HF.out hml (vals_in (put_y HMI.out _ _ _ _)) (fun k' hk' => by repeat rw [List.getElem?_set_ne (by omega)]))
  case rest =>
    obtain ⟨hgc, q, cq, hnw, hqk, hbx, hqt⟩ := hcut
    rename_i KK hKK
    exact hKK _ _ (lmore_rest p q _ _ len cap cq n w.heap.size w1.heap.size w wc (Lib.hid fun W hg => TH.out _ ((hg1.tr hgc).tr hg)) hqt ((Box.fresh w [.int .i64 p.fl, .int .i64 p.fh, .int .i64 p.bl, .int .i64 p.bh, .int .i64 p.ti, .int .i64 p.ne, .int .i64 p.fa, .slice (some ⟨b, o, none⟩) len cap] 26).grow (hg1.tr hgc)) hbx hnw h4.out hqk (by rw [HLEN.out]; exact hn) (Lib.hid (bgr ((Below.refl _ _).alloc (Nat.le_refl _) _) (by simp) (hg1.tr hgc))) _ _ _ _ _ _ _ _ _ _ _ _ _ _ _ _ _ _ _ _ _ _ _ _ _ _ _ _ _ _ _ _ _ _ _ _ _ _ _ _ _ _ _ _ _ _ _ _ _ _ _ _ _ _ _ _ _ _ _ _ _ _ _ _ _ _ _ _ _ _ _ _ _ _ _ _ _ _ _ _ _ _ _ _ _ _ _ _ _ _ _ _ _ _ _ _ _ _ _ _ _ _ _ _ _ _ _ _ _ _ _ _ _ _ _ _ _ _ _ _ _ _ _ _ _ _ _ _ _ _ _ _ _ _ _ _ _ _ _ _ _ _ _ _ _ _ _ _ _ _ _ _ _ _ _ _ _ _ _ _ _ _ _ _ _ _ _ _ _ _ _ _ _ _ _ _ _ _ _ _ _ _ _ _ _ _ _ _ _ _ _ _ _ _ _ _ _ _ _ _ _ _ _ _ _ _ _ _ _ _ _ _ _ _ _ _ _ _ _ _ _ _ _ _ _ _ _ _ _ _ _ _ _ _ _ _ _ _ _ _ _ _ _ _ _ _ _ _ _ _ _ _ _ _ _ _ _ _ _ _ _ _ _ _ _ _ _ _ _ _ _ _ _ _ _ _ _ _ _ _ _ _ _ _ _ _ _ _ _ _ _ _ _ _ _ _ _ _ _ _ _ _ _ _ _ _ _ _ _ _ _ _ _ _ _ _ _ _ _ _ _ _)
end Go.Proofs.Ytofdoadpaedogaa
