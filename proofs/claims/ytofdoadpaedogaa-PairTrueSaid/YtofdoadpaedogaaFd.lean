import Derived.Test.YtofdoadpaedogaaR7
import Derived.Test.YtofdoadpaedogaaT4
import Derived.Test.YtofdoadpaedogaaG3
namespace Go.Proofs.Ytofdoadpaedogaa
open Go.RowKit

set_option maxHeartbeats 800000 in
theorem rpower2_any (n : Nat) (w : World) (hn : n ≤ 12) :
    Calls Try.prog 65 #[.int .i64 n] w fun e w' => e = .returned (.int .i64 ((2 ^ n : Nat) : Int)) ∧ Below w.heap.size w w' := by
  go_enter Try.func65, Try.ntmps65
  go_wp2
  go_loopw [3, 4] (fun out i wr => ∃ k : Nat, k ≤ n ∧ i = .int .i64 k ∧ out = .int .i64 ((2 ^ k : Nat) : Int) ∧ Gr w wr) (fun _ i _ => n - (intOf i).toNat)
  case atStart => exact ⟨0, Nat.zero_le _, rfl, rfl, Gr.same _⟩
  case round =>
    obtain ⟨k, hk, rfl, rfl, hg⟩ := hrel
    have HG := Lib.hid hg
    clear hg
    by_cases hlt : k < n
    · have hq : 2 ^ k ≤ 4096 := by
        have := Nat.pow_le_pow_right (n := 2) (by omega) (show k ≤ 12 by omega)
        simpa using this
      have HQ := Lib.hid (show 2 ^ (k + 1) = 2 * 2 ^ k by rw [Nat.pow_succ]; omega)
      generalize 2 ^ k = q at *
      go_wp2
      exact ⟨⟨k + 1, by omega, by go_num, by rw [HQ.out]; go_num, HG.out⟩, by simp [intOf]; omega⟩
    · have hkn : k = n := by omega
      subst hkn
      go_wp2
      go_ret
      exact ⟨rfl, HG.out⟩
/-- How many bits a number has, halving it. -/
def pcf : Nat → Nat → Nat
  | 0, _ => 0
  | f + 1, a => a % 2 + pcf f (a / 2)
theorem pcf_all : (List.range 4096).all (fun m => decide (pcf 12 m = cnt m)) = true := by decide +kernel
theorem pcf_cnt {m : Nat} (h : m < 4096) : pcf 12 m = cnt m := by
  have := List.all_eq_true.1 pcf_all m (List.mem_range.2 h)
  simpa using this
theorem pcf_zero : ∀ f, pcf f 0 = 0
  | 0 => rfl
  | f + 1 => by simp [pcf, pcf_zero f]
set_option maxHeartbeats 800000 in
theorem rcount_any (m : Nat) (w : World) (hm : m < 4096) :
    Calls Try.prog 31 #[.int .i64 m] w fun e w' => e = .returned (.int .i64 ((cnt m : Nat) : Int)) ∧ Below w.heap.size w w' := by
  have hpc := pcf_cnt hm
  generalize hc : cnt m = c0 at *
  have HPC := Lib.hid hpc
  clear hpc hc
  go_enter Try.func31, Try.ntmps31
  go_wp2
  go_loopw [0, 3] (fun set out wr => ∃ f a c : Nat, f ≤ 12 ∧ a < 2 ^ f ∧ a < 4096 ∧ set = .int .i64 a ∧ out = .int .i64 c ∧ c + pcf f a = c0 ∧ c + f ≤ 12 ∧ Gr w wr) (fun set _ _ => (intOf set).toNat)
  case atStart => exact ⟨12, m, 0, Nat.le_refl _, hm, hm, rfl, rfl, by rw [Nat.zero_add]; exact HPC.out, by omega, Gr.same _⟩
  case round =>
    obtain ⟨f, a, c, hf, ha, ha2, rfl, rfl, hs, hcf, hg⟩ := hrel
    have HG := Lib.hid hg
    have HS := Lib.hid hs
    clear hg hs
    by_cases hpos : 0 < a
    · have hd : decide (0 < (a : Int)) = true := by simp; omega
      obtain ⟨f', rfl⟩ : ∃ f', f = f' + 1 := ⟨f - 1, by
        have : f ≠ 0 := fun e => by subst e; simp at ha; omega
        omega⟩
      have h2 : a / 2 < 2 ^ f' := by rw [Nat.pow_succ] at ha; omega
      have H2 := Lib.hid h2
      have e1 : IntKind.i64.wrap ((a : Int).tmod 2) = ((a % 2 : Nat) : Int) := by rw [Int.tmod_eq_emod_of_nonneg (by omega)]; rw [wraps_i64 _ (by omega) (by omega)]; omega
      have e2 : IntKind.i64.wrap ((a : Int).tdiv 2) = ((a / 2 : Nat) : Int) := by rw [Int.tdiv_eq_ediv_of_nonneg (by omega)]; rw [wraps_i64 _ (by omega) (by omega)]; omega
      clear ha h2
      have hb1 : a % 2 ≤ 1 := by omega
      have hb2 : a / 2 < a := by omega
      go_wp2
      refine ⟨⟨f', a / 2, c + a % 2, by omega, H2.out, by omega, by rw [show ((a / 2 : Nat) : Int) = (a : Int) / 2 by omega], by go_num, ?_, by omega, HG.out⟩, by simp [intOf]; omega⟩
      have := HS.out
      unfold pcf at this
      omega
    · have ha0 : a = 0 := by omega
      subst ha0
      have hcc : c = c0 := by have := HS.out; rw [pcf_zero] at this; omega
      subst hcc
      go_wp2
      go_ret
      exact ⟨rfl, HG.out⟩
set_option maxHeartbeats 800000 in
theorem rhas_any (m n : Nat) (w : World) (hm : m < 4096) (hn : n ≤ 12) :
    Calls Try.prog 85 #[.int .i64 m, .int .i64 n] w fun e w' => e = .returned (.bool (m.testBit n)) ∧ Below w.heap.size w w' := by
  have HP := Lib.hid (fun w => rpower2_any n w hn)
  have hpos := Nat.two_pow_pos n
  have hq : 2 ^ n ≤ 4096 := by
    have := Nat.pow_le_pow_right (n := 2) (by omega) hn
    simpa using this
  have ht : m.testBit n = decide (m / 2 ^ n % 2 = 1) := Nat.testBit_eq_decide_div_mod_eq
  rw [ht]
  generalize 2 ^ n = q at *
  have hdl : m / q ≤ m := Nat.div_le_self _ _
  have e0 : (m : Int) / (q : Int) = ((m / q : Nat) : Int) := (Int.natCast_ediv m q).symm
  have hz : ¬ (q : Int) = 0 := by omega
  generalize m / q = d at *
  have e1 : wrap64 ((m : Int) / (q : Int)) = (d : Int) := by rw [e0]; (unfold wrap64; omega)
  clear e0
  have e2 : (d : Int).tmod 2 = ((d % 2 : Nat) : Int) := by rw [Int.tmod_eq_emod_of_nonneg (by omega)]; omega
  have hd2 : d % 2 = 0 ∨ d % 2 = 1 := by omega
  generalize d % 2 = r at *
  clear ht
  go_enter Try.func85, Try.ntmps85
  go_wp2_with fail
  refine (HP.out _).mono ?_
  rintro e w1 ⟨rfl, hb1⟩
  go_wp2
  go_ret
  exact ⟨by rcases hd2 with rfl | rfl <;> rfl, hb1⟩

/-- The powers with which all things stand still but those of a set, by the specification. -/
def rwithTo (p : Pr) (m : Nat) : Nat → Int × Int
  | 0 => p.rall
  | k + 1 => match p.l[k]? with
    | some t => if m.testBit k then rwithTo p m k else ovl (rwithTo p m k) (rpw p.ti p.ne p.fa t)
    | none => rwithTo p m k
def Pr.rwith (p : Pr) (m : Nat) : Int × Int := rwithTo p m p.l.length
theorem rwithTo_in {p : Pr} {m k : Nat} {t : Th} (ht : p.l[k]? = some t) (hb : m.testBit k = true) : rwithTo p m (k + 1) = rwithTo p m k := by
  simp only [rwithTo, ht, hb, if_true]
theorem rwithTo_out {p : Pr} {m k : Nat} {t : Th} (ht : p.l[k]? = some t) (hb : m.testBit k = false) : rwithTo p m (k + 1) = ovl (rwithTo p m k) (rpw p.ti p.ne p.fa t) := by
  simp only [rwithTo, ht, hb]; rfl
set_option maxRecDepth 100000 in
set_option maxHeartbeats 4000000 in
theorem rwith_any (p : Pr) (m : Nat) (v : Value) (w : World) (hok : p.ok = true) (hm : m < 4096) (h : ThingsAt p.l v w) :
    Calls Try.prog 66 #[.agg #[.int .i64 p.fl, .int .i64 p.fh, .int .i64 p.bl, .int .i64 p.bh, .int .i64 p.ti, .int .i64 p.ne, .int .i64 p.fa, v], .int .i64 m] w fun e w' => e = .returned (.agg #[.int .i64 (p.rwith m).1, .int .i64 (p.rwith m).2]) ∧ Below w.heap.size w w' := by
  obtain ⟨sp, cap, rfl, hlen⟩ := h.len
  have hb := p.bounds hok
  have HPW := Lib.hid (fun (t : Th) (ht : t ∈ p.l) (v : Value) (w : World) => rpow_any p.fl p.fh p.bl p.bh p.ti p.ne p.fa v t w (hb.things t ht).1 ⟨hb.ti0, hb.ti1⟩ ⟨by have := hb.ne0; omega, by have := hb.ne1; have := hb.fa1; omega⟩ ⟨by have := hb.ne0; have := hb.ne1; omega, hb.fa1⟩ ⟨by have := (hb.things t ht).2; have := hb.ne0; omega, by have := (hb.things t ht).2; have := hb.fa1; omega⟩)
  have h12 := hb.len
  clear hb
  have hB : Box ((w.alloc (.cells #[.int .i64 p.fl, .int .i64 p.fh, .int .i64 p.bl, .int .i64 p.bh, .int .i64 p.ti, .int .i64 p.ne, .int .i64 p.fa, .slice sp p.l.length cap] 26)).alloc (.cells #[.int .i64 0, .int .i64 0] 23)) w.heap.size [.int .i64 p.fl, .int .i64 p.fh, .int .i64 p.bl, .int .i64 p.bh, .int .i64 p.ti, .int .i64 p.ne, .int .i64 p.fa, .slice sp p.l.length cap] 26 := (Box.fresh w _ _).grow (Gr.alloc _ _)
  have hR : Box ((w.alloc (.cells #[.int .i64 p.fl, .int .i64 p.fh, .int .i64 p.bl, .int .i64 p.bh, .int .i64 p.ti, .int .i64 p.ne, .int .i64 p.fa, .slice sp p.l.length cap] 26)).alloc (.cells #[.int .i64 0, .int .i64 0] 23)) (w.heap.size + 1) [.int .i64 0, .int .i64 0] 23 := by
    have := Box.fresh (w.alloc (.cells #[.int .i64 p.fl, .int .i64 p.fh, .int .i64 p.bl, .int .i64 p.bh, .int .i64 p.ti, .int .i64 p.ne, .int .i64 p.fa, .slice sp p.l.length cap] 26)) [.int .i64 0, .int .i64 0] 23
    simpa using this
  have hWp : Gr w ((w.alloc (.cells #[.int .i64 p.fl, .int .i64 p.fh, .int .i64 p.bl, .int .i64 p.bh, .int .i64 p.ti, .int .i64 p.ne, .int .i64 p.fa, .slice sp p.l.length cap] 26)).alloc (.cells #[.int .i64 0, .int .i64 0] 23)) := (Gr.alloc _ _).tr (Gr.alloc _ _)
  have hT : ThingsAt p.l (.slice sp p.l.length cap) ((w.alloc (.cells #[.int .i64 p.fl, .int .i64 p.fh, .int .i64 p.bl, .int .i64 p.bh, .int .i64 p.ti, .int .i64 p.ne, .int .i64 p.fa, .slice sp p.l.length cap] 26)).alloc (.cells #[.int .i64 0, .int .i64 0] 23)) := ThingsAt.lasts p.l _ _ _ h hWp
  have HT0 := Lib.hid hT
  have HB := Lib.hid hB
  have HR := Lib.hid hR
  have HWp := Lib.hid hWp
  have HRA := Lib.hid (fun (W : World) (h : ThingsAt p.l (.slice sp p.l.length cap) W) => rall_any p _ W hok h)
  have hal := @cal
  have hfl := @fal
  clear hB hR hWp hT h
  go_enter Try.func66, Try.ntmps66
  go_wp2_with fail
  refine (HRA.out _ HT0.out).mono ?_
  rintro e w1 ⟨rfl, hb1⟩
  have HB1 := Lib.hid (HB.out.grow hb1)
  have HR1 := Lib.hid (HR.out.grow hb1)
  have HW1 := Lib.hid (HWp.out.tr hb1)
  have HT := Lib.hid (ThingsAt.lasts p.l _ _ _ HT0.out hb1)
  have k0 : w.heap.size < w1.heap.size := HB1.out.lt
  have k1 : w.heap.size + 1 < w1.heap.size := HR1.out.lt
  have hF0 : Box (w1.alloc (.cells #[.int .i64 p.rall.1, .int .i64 p.rall.2] 23)) w1.heap.size [.int .i64 p.rall.1, .int .i64 p.rall.2] 23 := Box.fresh w1 _ _
  have hF1 : Gr w1 (w1.alloc (.cells #[.int .i64 p.rall.1, .int .i64 p.rall.2] 23)) := Gr.alloc _ _
  have HF0 := Lib.hid hF0
  have HF1 := Lib.hid hF1
  clear hF0 hF1 hb1 HB HR HT0 HWp
  go_wp2_with fail
  generalize hcc : w1.heap.size = c at *
  have HC := Lib.hid hcc
  clear hcc
  go_loopw [6] (fun i wr => ∃ k : Nat, k ≤ p.l.length ∧ i = .int .i64 k ∧ Below c w1 wr ∧ Box wr c [.int .i64 (rwithTo p m k).1, .int .i64 (rwithTo p m k).2] 23) (fun i _ => p.l.length - (intOf i).toNat)
  case atStart => exact ⟨0, Nat.zero_le _, rfl, by have := HF1.out; unfold Gr at this; rwa [HC.out] at this, HF0.out⟩
  case round =>
    obtain ⟨k, hk, rfl, hg, hbx⟩ := hrel
    have HBX := Lib.hid hbx
    have HG := Lib.hid hg
    have C := (HB1.out.below HG.out k0).facts
    simp only [CellsFrom, Nat.zero_add, Nat.reduceAdd, and_true] at C
    have R := (HR1.out.below HG.out k1).two
    have Y := hbx.two
    have ht := ThingsAt.below HT.out HC.out HG.out
    clear hg hbx
    by_cases hlt : k < p.l.length
    · obtain ⟨t, htk⟩ : ∃ t, p.l[k]? = some t := ⟨p.l[k], List.getElem?_eq_getElem hlt⟩
      obtain ⟨-, ht⟩ := ht
      rcases ht with ⟨e, -⟩ | ⟨b, o, cap', hsp, hb, hc⟩
      · rw [e] at hlt; simp at hlt
      have X := hc k t htk
      obtain ⟨hsp1, -, -⟩ : sp = some ⟨b, o, none⟩ ∧ p.l.length = p.l.length ∧ cap = cap' := by simpa using hsp
      subst hsp1
      clear hc hsp
      have HPT := Lib.hid (HPW.out t (List.mem_of_getElem? htk))
      have hval : t.val = .agg #[.int .i64 t.a, .int .i64 t.b, .int .i64 t.c, .int .i64 t.d, .int .i64 t.e, .int .i64 t.f, .int .i64 t.g, .int .i64 t.h, .int .i64 t.z] := rfl
      rw [hval] at HPT
      clear hval
      have HHAS := Lib.hid (fun w => rhas_any m k w hm (show k ≤ 12 by omega))
      cases hbit : m.testBit k with
      | true =>
        have HS := Lib.hid (rwithTo_in htk hbit)
        rw [hbit] at HHAS
        clear hbit htk X
        go_wp2_with fail
        refine (HHAS.out _).mono ?_
        rintro e w2 ⟨rfl, hb2⟩
        have HG2 := Lib.hid (bgr HG.out (Nat.le_of_lt HBX.out.lt) hb2)
        have HBX2 := Lib.hid (HBX.out.grow hb2)
        clear hb2
        go_wp2
        exact ⟨⟨k + 1, by omega, by go_num, HG2.out, by rw [HS.out]; exact HBX2.out⟩, by simp [intOf]; omega⟩
      | false =>
        have HS := Lib.hid (rwithTo_out htk hbit)
        rw [hbit] at HHAS
        obtain ⟨xa, xb, xc, xd, xe, xf, xg, xh, xz⟩ := t
        replace X := CellsFrom.nine X
        simp only at X HPT
        generalize hq : rpw p.ti p.ne p.fa ⟨xa, xb, xc, xd, xe, xf, xg, xh, xz⟩ = q at *
        obtain ⟨q1, q2⟩ := q
        generalize hf : rwithTo p m k = ff at *
        obtain ⟨f1, f2⟩ := ff
        simp only at Y HPT
        have HFF := Lib.hid hf
        have HQ := Lib.hid hq
        clear hf hq htk hbit
        go_wp2_with fail
        refine (HHAS.out _).mono ?_
        rintro e w2 ⟨rfl, hb2⟩
        have HG2 := Lib.hid (bgr HG.out (Nat.le_of_lt HBX.out.lt) hb2)
        have HBX2 := Lib.hid (HBX.out.grow hb2)
        have C2 := ((HB1.out.below HG.out k0).grow hb2).facts
        simp only [CellsFrom, Nat.zero_add, Nat.reduceAdd, and_true] at C2
        have Y2 := HBX2.out.two
        have hb' : b < w2.heap.size := Nat.lt_of_lt_of_le hb hb2.size
        have gc := (bcell hb2).1
        obtain ⟨x0, x1, x2, x3, x4, x5, x6, x7, x8⟩ := X
        replace x0 := (gc _ _ hb).trans x0
        replace x1 := (gc _ _ hb).trans x1
        replace x2 := (gc _ _ hb).trans x2
        replace x3 := (gc _ _ hb).trans x3
        replace x4 := (gc _ _ hb).trans x4
        replace x5 := (gc _ _ hb).trans x5
        replace x6 := (gc _ _ hb).trans x6
        replace x7 := (gc _ _ hb).trans x7
        replace x8 := (gc _ _ hb).trans x8
        clear gc hb2 C Y R hb
        go_wp2_with fail
        refine region2 9 ?_ ?_ ?_
        · kernel_rfl
        · kernel_rfl
        simp only [List.take_succ_cons, List.take_zero, List.drop_succ_cons, List.drop_zero]
        apply chain_eq (D := [(5, none)]) rfl (by kernel_rfl)
        · intro ρ W ⟨p1, p2, p3⟩ hG hF K hK; (try simp [FactsD] at hF); have ⟨hc, hf, hz⟩ := bcell (Gr.tr (Gr.drew _) hG); go_simp; exact hK _ (gives_val)
        apply chain_eq (D := [(2, none)]) rfl (by kernel_rfl)
        · intro ρ W ⟨p1, p2, p3⟩ hG hF K hK; (try simp [FactsD] at hF); have ⟨hc, hf, hz⟩ := bcell (Gr.tr (Gr.drew _) hG); go_simp; exact hK _ (gives_val)
        apply chain_eq (D := [(2, none)]) rfl (by kernel_rfl)
        · intro ρ W ⟨p1, p2, p3⟩ hG hF K hK; (try simp [FactsD] at hF); have ⟨hc, hf, hz⟩ := bcell (Gr.tr (Gr.drew _) hG); go_simp; exact hK _ (gives_val)
        apply chain_eq (D := [(22, some 0)]) rfl (by kernel_rfl)
        · intro ρ W ⟨p1, p2, p3⟩ hG hF K hK; (try simp [FactsD] at hF); have ⟨hc, hf, hz⟩ := bcell (Gr.tr (Gr.drew _) hG); go_simp; exact hK _ (gives_val)
        apply chain_eq (D := [(6, none)]) rfl (by kernel_rfl)
        · intro ρ W ⟨p1, p2, p3⟩ hG hF K hK; (try simp [FactsD] at hF); have ⟨hc, hf, hz⟩ := bcell (Gr.tr (Gr.drew _) hG); go_simp; exact hK _ (gives_val)
        apply chain_eq (D := [(23, some 1), (24, some 0)]) rfl (by kernel_rfl)
        · intro ρ W ⟨p1, p2, p3⟩ hG hF K hK; (try simp [FactsD] at hF); have ⟨hc, hf, hz⟩ := bcell (Gr.tr (Gr.drew _) hG); go_simp; exact hK _ (gives_val)
        apply chain_eq (D := [(25, some 0)]) rfl (by kernel_rfl)
        · intro ρ W ⟨p1, p2, p3⟩ hG hF K hK; (try simp [FactsD] at hF); have ⟨hc, hf, hz⟩ := bcell (Gr.tr (Gr.drew _) hG); go_simp; exact hK _ (gives_val)
        apply chain_eq (D := [(21, some 5), (26, some 0)]) rfl (by kernel_rfl)
        · intro ρ W ⟨p1, p2, p3⟩ hG hF K hK; (try simp [FactsD] at hF); have ⟨hc, hf, hz⟩ := bcell (Gr.tr (Gr.drew _) hG); go_simp; exact hK _ (gives_call (HPT.out _ _))
        apply chain_eq (D := [(20, some 7), (27, some 0)]) rfl (by kernel_rfl)
        · intro ρ W ⟨p1, p2, p3⟩ hG hF K hK; (try simp [FactsD] at hF); have ⟨hc, hf, hz⟩ := bcell (Gr.tr (Gr.drew _) hG); go_simp; exact hK _ (gives_call (rcommon_any _ _ _ _ _))
        refine chain_done ?_
        intro vs W hG hV
        obtain ⟨e8, -⟩ := hV
        simp only [Nat.reduceSub] at e8
        simp only [lay, Act.put, List.getElem?_toArray, List.getElem?_cons_succ, List.getElem?_cons_zero, Option.bind_some, List.setIfInBounds_toArray, List.set_cons_succ, List.set_cons_zero]
        generalize vs 0 = v0
        generalize vs 1 = v1
        generalize vs 2 = v2
        generalize vs 3 = v3
        generalize vs 4 = v4
        generalize vs 5 = v5
        generalize vs 6 = v6
        generalize vs 7 = v7
        generalize vs 8 = v8 at *
        subst e8
        obtain ⟨hc, hf, hz⟩ := bcell hG
        go_wp2
        refine ⟨⟨k + 1, by omega, by go_num, ((bgr HG2.out (Nat.le_of_lt HBX2.out.lt) hG).setCell (Nat.le_refl _) _).setCell (Nat.le_refl _) _, ?_⟩, by simp [intOf]; omega⟩
        rw [HS.out]
        exact ((HBX2.out.grow hG).put 0 _).put 1 _
    · have hkl : k = p.l.length := by omega
      subst hkl
      clear ht
      go_wp2
      exact bodyPost_ret (v := .agg #[.int .i64 (p.rwith m).1, .int .i64 (p.rwith m).2]) (by simp [results, Try.results66, go_sem, Pr.rwith, *]) rfl ⟨rfl, (((show Below w.heap.size w w1 from HW1.out).trans (Below.mono HG.out (by omega))).setCell (by first | (simp; done) | (simp; omega) | omega) _).setCell (by first | (simp; done) | (simp; omega) | omega) _⟩

/-- The best of the first sets, by the specification. -/
def rbest (p : Pr) : Nat → Int
  | 0 => -1
  | k + 1 => if (p.rwith k).1 ≤ (p.rwith k).2 ∧ (rbest p k < 0 ∨ cnt k < cnt (rbest p k).toNat) then (k : Int) else rbest p k
theorem rbest_in (p : Pr) : ∀ k, rbest p k = -1 ∨ ∃ b : Nat, b < k ∧ rbest p k = b
  | 0 => .inl rfl
  | k + 1 => by
    unfold rbest
    split
    · exact .inr ⟨k, by omega, rfl⟩
    · rcases rbest_in p k with h | ⟨b, hb, h⟩
      · exact .inl h
      · exact .inr ⟨b, by omega, h⟩
set_option maxRecDepth 100000 in
set_option maxHeartbeats 2000000 in
theorem rfewest_err (p : Pr) (v : Value) (w : World) (er : Int) (he : (er != 0) = true) (ho : Hid (p.ropen true = (0, 0, er))) (h : ThingsAt p.l v w) :
    Calls Try.prog 26 #[.agg #[.int .i64 p.fl, .int .i64 p.fh, .int .i64 p.bl, .int .i64 p.bh, .int .i64 p.ti, .int .i64 p.ne, .int .i64 p.fa, v]] w fun e w' => e = .returned (.tuple #[.int .i64 0, .agg #[.int .i64 0, .int .i64 0], .int .i64 er]) ∧ Below w.heap.size w w' := by
  obtain ⟨sp, cap, rfl, hlen⟩ := h.len
  have hWp : Gr w ((w.alloc (.cells #[.int .i64 p.fl, .int .i64 p.fh, .int .i64 p.bl, .int .i64 p.bh, .int .i64 p.ti, .int .i64 p.ne, .int .i64 p.fa, .slice sp p.l.length cap] 26)).alloc (.cells #[.int .i64 0, .int .i64 0] 23)) := (Gr.alloc _ _).tr (Gr.alloc _ _)
  have TH := Lib.hid (fun (W : World) (hg : Gr ((w.alloc (.cells #[.int .i64 p.fl, .int .i64 p.fh, .int .i64 p.bl, .int .i64 p.bh, .int .i64 p.ti, .int .i64 p.ne, .int .i64 p.fa, .slice sp p.l.length cap] 26)).alloc (.cells #[.int .i64 0, .int .i64 0] 23)) W) => ThingsAt.lasts p.l _ _ _ h (hWp.tr hg))
  have hg0 := Gr.same ((w.alloc (.cells #[.int .i64 p.fl, .int .i64 p.fh, .int .i64 p.bl, .int .i64 p.bh, .int .i64 p.ti, .int .i64 p.ne, .int .i64 p.fa, .slice sp p.l.length cap] 26)).alloc (.cells #[.int .i64 0, .int .i64 0] 23))
  have hal := @cal
  have HWp := Lib.hid hWp
  clear h hWp
  go_enter Try.func26, Try.ntmps26
  go_wp2_with fail
  refine (ropen_is ho.out (TH.out _ hg0)).mono ?_
  rintro e w1 ⟨rfl, hb1⟩
  obtain ⟨hc, hf, hz⟩ := bcell hb1
  have s0 : w.heap.size < w1.heap.size := hz _ (by first | (simp; done) | (simp; omega) | omega)
  have s1 : w.heap.size + 1 < w1.heap.size := hz _ (by first | (simp; done) | (simp; omega) | omega)
  have n0 := Nat.ne_of_lt s0
  have n1 := Nat.ne_of_lt s1
  have HG := Lib.hid (HWp.out.tr hb1)
  go_wp2
  exact bodyPost_ret (v := .tuple #[.int .i64 0, .agg #[.int .i64 0, .int .i64 0], .int .i64 er]) (by simp [results, Try.results26, go_sem, *]) rfl ⟨rfl, (((show Below w.heap.size w w1 from HG.out).setCell (by first | (simp; done) | (simp; omega) | omega) _).setCell (by first | (simp; done) | (simp; omega) | omega) _).alloc (by first | (simp; done) | (simp; omega) | omega) _⟩
set_option maxRecDepth 100000 in
set_option maxHeartbeats 4000000 in
theorem rfewest_ok (p : Pr) (v : Value) (w : World) (x y : Int) (b0 : Nat) (hok : p.ok = true) (ho : Hid (p.ropen true = (x, y, 0))) (hb0 : b0 < 4096) (hbest : rbest p (2 ^ p.l.length) = (b0 : Int)) (h : ThingsAt p.l v w) :
    Calls Try.prog 26 #[.agg #[.int .i64 p.fl, .int .i64 p.fh, .int .i64 p.bl, .int .i64 p.bh, .int .i64 p.ti, .int .i64 p.ne, .int .i64 p.fa, v]] w fun e w' => e = .returned (.tuple #[.int .i64 b0, .agg #[.int .i64 (p.rwith b0).1, .int .i64 (p.rwith b0).2], .int .i64 0]) ∧ Below w.heap.size w w' := by
  have h12 := (p.bounds hok).len
  obtain ⟨sp, cap, rfl, hlen⟩ := h.len
  have hWp : Gr w ((w.alloc (.cells #[.int .i64 p.fl, .int .i64 p.fh, .int .i64 p.bl, .int .i64 p.bh, .int .i64 p.ti, .int .i64 p.ne, .int .i64 p.fa, .slice sp p.l.length cap] 26)).alloc (.cells #[.int .i64 0, .int .i64 0] 23)) := (Gr.alloc _ _).tr (Gr.alloc _ _)
  have TH := Lib.hid (fun (W : World) (hg : Gr ((w.alloc (.cells #[.int .i64 p.fl, .int .i64 p.fh, .int .i64 p.bl, .int .i64 p.bh, .int .i64 p.ti, .int .i64 p.ne, .int .i64 p.fa, .slice sp p.l.length cap] 26)).alloc (.cells #[.int .i64 0, .int .i64 0] 23)) W) => ThingsAt.lasts p.l _ _ _ h (hWp.tr hg))
  have hg0 := Gr.same ((w.alloc (.cells #[.int .i64 p.fl, .int .i64 p.fh, .int .i64 p.bl, .int .i64 p.bh, .int .i64 p.ti, .int .i64 p.ne, .int .i64 p.fa, .slice sp p.l.length cap] 26)).alloc (.cells #[.int .i64 0, .int .i64 0] 23))
  have hal := @cal
  have HWp := Lib.hid hWp
  clear h hWp
  have HBEST := Lib.hid hbest
  have HPW := Lib.hid (fun w => rpower2_any p.l.length w h12)
  have HWI := Lib.hid (fun (m : Nat) (hm : m < 4096) (W : World) (hT : ThingsAt p.l (.slice sp p.l.length cap) W) => rwith_any p m _ W hok hm hT)
  have hN : 2 ^ p.l.length ≤ 4096 := by
    have := Nat.pow_le_pow_right (n := 2) (by omega) h12
    simpa using this
  have hN0 := Nat.two_pow_pos p.l.length
  clear hbest
  generalize 2 ^ p.l.length = N at *
  have hR0 : Box ((w.alloc (.cells #[.int .i64 p.fl, .int .i64 p.fh, .int .i64 p.bl, .int .i64 p.bh, .int .i64 p.ti, .int .i64 p.ne, .int .i64 p.fa, .slice sp p.l.length cap] 26)).alloc (.cells #[.int .i64 0, .int .i64 0] 23)) (w.heap.size + 1) [.int .i64 0, .int .i64 0] 23 := by
    have := Box.fresh (w.alloc (.cells #[.int .i64 p.fl, .int .i64 p.fh, .int .i64 p.bl, .int .i64 p.bh, .int .i64 p.ti, .int .i64 p.ne, .int .i64 p.fa, .slice sp p.l.length cap] 26)) [.int .i64 0, .int .i64 0] 23
    simpa using this
  have HR0 := Lib.hid hR0
  have HB0 := Lib.hid (show Box ((w.alloc (.cells #[.int .i64 p.fl, .int .i64 p.fh, .int .i64 p.bl, .int .i64 p.bh, .int .i64 p.ti, .int .i64 p.ne, .int .i64 p.fa, .slice sp p.l.length cap] 26)).alloc (.cells #[.int .i64 0, .int .i64 0] 23)) w.heap.size [.int .i64 p.fl, .int .i64 p.fh, .int .i64 p.bl, .int .i64 p.bh, .int .i64 p.ti, .int .i64 p.ne, .int .i64 p.fa, .slice sp p.l.length cap] 26 from (Box.fresh w _ _).grow (Gr.alloc _ _))
  clear hR0
  go_enter Try.func26, Try.ntmps26
  go_wp2_with fail
  refine (ropen_is ho.out (TH.out _ hg0)).mono ?_
  rintro e w1 ⟨rfl, hb1⟩
  have hgA : Gr ((w.alloc (.cells #[.int .i64 p.fl, .int .i64 p.fh, .int .i64 p.bl, .int .i64 p.bh, .int .i64 p.ti, .int .i64 p.ne, .int .i64 p.fa, .slice sp p.l.length cap] 26)).alloc (.cells #[.int .i64 0, .int .i64 0] 23)) (w1.alloc (.cells #[.int .i64 x, .int .i64 y] 23)) := Gr.tr hb1 (Gr.alloc _ _)
  obtain ⟨hc, hf, hz⟩ := bcell hb1
  go_wp2_with fail
  clear hc hf hz hb1 hg0
  generalize w1.alloc (.cells #[.int .i64 x, .int .i64 y] 23) = W0 at *
  have HGA := Lib.hid hgA
  clear hgA
  go_loopw [7, 8] (fun bv i wr => ∃ k : Nat, k ≤ N ∧ i = .int .i64 k ∧ bv = .int .i64 (rbest p k) ∧ Gr W0 wr) (fun _ i _ => N - (intOf i).toNat)
  case atStart => exact ⟨0, Nat.zero_le _, rfl, rfl, Gr.same _⟩
  case round =>
    obtain ⟨k, hk, rfl, rfl, hg⟩ := hrel
    have HG := Lib.hid (HGA.out.tr hg)
    have HGK := Lib.hid hg
    have C := (HB0.out.grow HG.out).facts
    have R := (HR0.out.grow HG.out).two
    simp only [CellsFrom, Nat.zero_add, Nat.reduceAdd, and_true] at C
    clear hg
    go_wp2_with fail
    refine (HPW.out _).mono ?_
    rintro e w2 ⟨rfl, hb2⟩
    have HG2 := Lib.hid (HG.out.tr hb2)
    have HK2 := Lib.hid (HGK.out.tr hb2)
    clear C R hb2
    have C := (HB0.out.grow HG2.out).facts
    have R := (HR0.out.grow HG2.out).two
    have F := (HR0.out.grow HG2.out).free
    simp only [CellsFrom, Nat.zero_add, Nat.reduceAdd, and_true] at C
    by_cases hlt : k < N
    · have hk4 : k < 4096 := by omega
      obtain ⟨a1, a2, hw⟩ : ∃ a1 a2, p.rwith k = (a1, a2) := ⟨_, _, rfl⟩
      have HWK := Lib.hid (fun W h => by have := HWI.out k hk4 W h; rw [hw] at this; exact this : ∀ W, ThingsAt p.l (.slice sp p.l.length cap) W → Calls Try.prog 66 #[.agg #[.int .i64 p.fl, .int .i64 p.fh, .int .i64 p.bl, .int .i64 p.bh, .int .i64 p.ti, .int .i64 p.ne, .int .i64 p.fa, .slice sp p.l.length cap], .int .i64 k] W fun e w' => e = .returned (.agg #[.int .i64 a1, .int .i64 a2]) ∧ Below W.heap.size W w')
      have hnext : rbest p (k + 1) = if a1 ≤ a2 ∧ (rbest p k < 0 ∨ cnt k < cnt (rbest p k).toNat) then (k : Int) else rbest p k := by
        show (if (p.rwith k).1 ≤ (p.rwith k).2 ∧ _ then _ else _) = _
        rw [hw]
      have HNX := Lib.hid hnext
      clear hw hnext
      by_cases hem : a1 ≤ a2
      · have de : decide (a2 < a1) = false := by simpa using hem
        rcases rbest_in p k with hbk | ⟨b, hbb, hbk⟩
        · have hx : rbest p (k + 1) = (k : Int) := by rw [HNX.out, if_pos ⟨hem, .inl (by rw [hbk]; decide)⟩]
          have HX := Lib.hid hx
          rw [hbk]
          clear hbk hx hem
          go_wp2_with fail
          refine (HWK.out _ (TH.out _ HG2.out)).mono ?_
          rintro e w3 ⟨rfl, hb3⟩
          go_wp2_with fail
          refine (rempty_any _ _ _).mono ?_
          rintro e w4 ⟨rfl, hb4⟩
          go_wp2
          exact ⟨⟨k + 1, by omega, by go_num, by rw [HX.out], HK2.out.tr (Gr.tr hb3 hb4)⟩, by simp [intOf]; omega⟩
        · have HCB := Lib.hid (fun w => rcount_any b w (by omega))
          have HCK := Lib.hid (fun w => rcount_any k w hk4)
          have db : decide ((b : Int) < 0) = false := by simp
          rw [hbk]
          by_cases hcn : cnt k < cnt b
          · have hx : rbest p (k + 1) = (k : Int) := by rw [HNX.out, if_pos ⟨hem, .inr (by rw [hbk]; exact hcn)⟩]
            have HX := Lib.hid hx
            have dc : decide ((cnt k : Int) < (cnt b : Int)) = true := by simp; omega
            have dc' : decide (cnt k < cnt b) = true := by simpa using hcn
            clear hbk hx hem hcn
            generalize cnt k = ck at *
            generalize cnt b = cb at *
            go_wp2_with fail
            refine (HWK.out _ (TH.out _ HG2.out)).mono ?_
            rintro e w3 ⟨rfl, hb3⟩
            go_wp2_with fail
            refine (rempty_any _ _ _).mono ?_
            rintro e w4 ⟨rfl, hb4⟩
            go_wp2_with fail
            refine (HCK.out _).mono ?_
            rintro e w5 ⟨rfl, hb5⟩
            go_wp2_with fail
            refine (HCB.out _).mono ?_
            rintro e w6 ⟨rfl, hb6⟩
            go_wp2
            exact ⟨⟨k + 1, by omega, by go_num, by rw [HX.out], HK2.out.tr (Gr.tr (Gr.tr hb3 hb4) (Gr.tr hb5 hb6))⟩, by simp [intOf]; omega⟩
          · have hneg : ¬ (a1 ≤ a2 ∧ (rbest p k < 0 ∨ cnt k < cnt (rbest p k).toNat)) := fun c => by
              rw [hbk] at c
              rcases c.2 with c | c
              · omega
              · exact hcn (by simpa using c)
            have hx : rbest p (k + 1) = (b : Int) := by rw [HNX.out, if_neg hneg, hbk]
            clear hneg
            have HX := Lib.hid hx
            have dc : decide ((cnt k : Int) < (cnt b : Int)) = false := by simp; omega
            have dc' : decide (cnt k < cnt b) = false := by simpa using hcn
            clear hbk hx hem hcn
            generalize cnt k = ck at *
            generalize cnt b = cb at *
            go_wp2_with fail
            refine (HWK.out _ (TH.out _ HG2.out)).mono ?_
            rintro e w3 ⟨rfl, hb3⟩
            go_wp2_with fail
            refine (rempty_any _ _ _).mono ?_
            rintro e w4 ⟨rfl, hb4⟩
            go_wp2_with fail
            refine (HCK.out _).mono ?_
            rintro e w5 ⟨rfl, hb5⟩
            go_wp2_with fail
            refine (HCB.out _).mono ?_
            rintro e w6 ⟨rfl, hb6⟩
            go_wp2
            exact ⟨⟨k + 1, by omega, by go_num, by rw [HX.out], HK2.out.tr (Gr.tr (Gr.tr hb3 hb4) (Gr.tr hb5 hb6))⟩, by simp [intOf]; omega⟩
      · have de : decide (a2 < a1) = true := by simp; omega
        have hx : rbest p (k + 1) = rbest p k := by rw [HNX.out, if_neg (fun c => hem c.1)]
        have HX := Lib.hid hx
        clear hx hem
        generalize rbest p k = bk at *
        go_wp2_with fail
        refine (HWK.out _ (TH.out _ HG2.out)).mono ?_
        rintro e w3 ⟨rfl, hb3⟩
        go_wp2_with fail
        refine (rempty_any _ _ _).mono ?_
        rintro e w4 ⟨rfl, hb4⟩
        go_wp2
        exact ⟨⟨k + 1, by omega, by go_num, by rw [HX.out], HK2.out.tr (Gr.tr hb3 hb4)⟩, by simp [intOf]; omega⟩
    · have hkn : k = N := by omega
      subst hkn
      rw [HBEST.out]
      have HWB := Lib.hid (HWI.out b0 hb0 _ (TH.out _ HG2.out))
      go_wp2_with fail
      refine HWB.out.mono ?_
      rintro e w3 ⟨rfl, hb3⟩
      have HG3 := Lib.hid (HG2.out.tr hb3)
      have HW3 := Lib.hid (HWp.out.tr HG3.out)
      have R3 := (HR0.out.grow HG3.out).two
      generalize hr1 : (p.rwith b0).1 = r1 at *
      generalize hr2 : (p.rwith b0).2 = r2 at *
      have HR1 := Lib.hid hr1
      have HR2 := Lib.hid hr2
      clear C R F hb3 hr1 hr2
      go_wp2
      exact bodyPost_ret (v := .tuple #[.int .i64 b0, .agg #[.int .i64 r1, .int .i64 r2], .int .i64 0]) (by simp [results, Try.results26, go_sem, *]) rfl ⟨by rw [HR1.out, HR2.out], ((show Below w.heap.size w w3 from HW3.out).setCell (by first | (simp; done) | (simp; omega) | omega) _).setCell (by first | (simp; done) | (simp; omega) | omega) _⟩

set_option maxRecDepth 100000 in
set_option maxHeartbeats 4000000 in
theorem rwhy_err (p : Pr) (sp : Option Addr) (len cap : Nat) (n : Int) (b : Bool) (x y er : Int) (w : World) (hT : ThingsAt p.l (.slice sp len cap) w) (hl : len ≤ 1000) (hk : Hid ((decide (0 ≤ n) && decide (n < (len : Int))) = b)) (ho : Hid (p.ropen b = (x, y, er))) (he : (er != 0) = true) :
    Calls Try.prog 22 #[.agg #[.int .i64 p.fl, .int .i64 p.fh, .int .i64 p.bl, .int .i64 p.bh, .int .i64 p.ti, .int .i64 p.ne, .int .i64 p.fa, .slice sp len cap], .int .i64 n] w fun e w' => e = .returned (.tuple #[.int .i64 0, .int .i64 er]) ∧ Below w.heap.size w w' := by
  have TH := Lib.hid (fun (W : World) (hg : Gr (w.alloc (.cells #[.int .i64 p.fl, .int .i64 p.fh, .int .i64 p.bl, .int .i64 p.bh, .int .i64 p.ti, .int .i64 p.ne, .int .i64 p.fa, .slice sp len cap] 26)) W) => ThingsAt.lasts p.l _ _ _ hT ((Gr.alloc _ _).tr hg))
  have hal := @cal
  clear hT
  go_enter Try.func22, Try.ntmps22
  go_wp2_with fail
  refine regionL 9 7 ?_ ?_ ?_
  · kernel_rfl
  · kernel_rfl
  simp only [List.take_succ_cons, List.take_zero, List.drop_succ_cons, List.drop_zero]
  apply chainB_eq (D := [(2, none)]) rfl (by kernel_rfl)
  · intro ρ W ⟨p1, p2, p3⟩ hG hF K hK; (try simp [FactsD] at hF); have ⟨hc, hf, hz⟩ := bcell (Gr.tr (Gr.drew _) hG); go_simp; exact hK _ (gives_val)
  apply chainB_eq (D := [(2, none)]) rfl (by kernel_rfl)
  · intro ρ W ⟨p1, p2, p3⟩ hG hF K hK; (try simp [FactsD] at hF); have ⟨hc, hf, hz⟩ := bcell (Gr.tr (Gr.drew _) hG); go_simp; exact hK _ (gives_val)
  apply chainB_eq (D := [(1, none)]) rfl (by kernel_rfl)
  · intro ρ W ⟨p1, p2, p3⟩ hG hF K hK; (try simp [FactsD] at hF); have ⟨hc, hf, hz⟩ := bcell (Gr.tr (Gr.drew _) hG); go_simp; exact hK _ (gives_val)
  apply chainB_eq (D := [(12, some 1), (13, some 0)]) rfl (by kernel_rfl)
  · intro ρ W ⟨p1, p2, p3⟩ hG hF K hK; (try simp [FactsD, exB] at hF); have ⟨hc, hf, hz⟩ := bcell (Gr.tr (Gr.drew _) hG); go_simp; exact hK _ (gives_call (rthing_is hl hk.out))
  apply chainB_eq (D := [(11, some 3), (14, some 0)]) rfl (by kernel_rfl)
  · intro ρ W ⟨p1, p2, p3⟩ hG hF K hK; (try simp [FactsD, exB] at hF); have ⟨hc, hf, hz⟩ := bcell (Gr.tr (Gr.drew _) hG); go_simp; exact hK _ (gives_call (ropen_is ho.out (TH.out _ ((Gr.drew _).tr hG))))
  apply chainB_eq (D := [(15, some 0)]) rfl (by kernel_rfl)
  · intro ρ W ⟨p1, p2, p3⟩ hG hF K hK; (try simp [FactsD, exB] at hF); have ⟨hc, hf, hz⟩ := bcell (Gr.tr (Gr.drew _) hG); go_simp; exact hK _ (gives_val)
  apply chainB_eq (D := [(10, some 0)]) rfl (by kernel_rfl)
  · intro ρ W ⟨p1, p2, p3⟩ hG hF K hK; (try simp [FactsD, exB] at hF); have ⟨hc, hf, hz⟩ := bcell (Gr.tr (Gr.drew _) hG); go_simp; exact hK _ (gives_val)
  apply chainB_eq (D := [(10, some 1)]) rfl (by kernel_rfl)
  · intro ρ W ⟨p1, p2, p3⟩ hG hF K hK; (try simp [FactsD, exB] at hF); have ⟨hc, hf, hz⟩ := bcell (Gr.tr (Gr.drew _) hG); go_simp; exact hK _ (gives_val)
  refine chainB_any (V := fun p v W' => NewB [.int .i64 0, .int .i64 0] 23 p v W' ∧ w.heap.size + 1 ≤ p.1) (D := []) rfl (by kernel_rfl) (fun p v A B h hg => ⟨NewB.lasts _ _ p v A B h.1 hg, h.2⟩) ?_ ?_
  · intro ρ W ⟨p1, p2, p3⟩ hG hF K hK; (try simp [FactsD] at hF); have ⟨hc, hf, hz⟩ := bcell (Gr.tr (Gr.drew _) hG); go_simp; exact hK _ (⟨⟨NewB.new _ _ _, by have := hG.size; simpa using this⟩, Gr.alloc _ _⟩)
  refine chainB_done ⟨?_, ?_⟩
  · intro vs bs W hG hV hdj
    obtain ⟨e8, e7, e6, -⟩ := hV
    simp only [Nat.reduceSub] at e6
    simp only [Nat.reduceSub] at e7
    simp only [Nat.reduceSub] at e8
    clear hdj
    simp only [lay, Act.put, List.getElem?_toArray, List.getElem?_cons_succ, List.getElem?_cons_zero, Option.bind_some, List.setIfInBounds_toArray, List.set_cons_succ, List.set_cons_zero]
    generalize vs 0 = v0
    generalize vs 1 = v1
    generalize vs 2 = v2
    generalize vs 3 = v3
    generalize vs 4 = v4
    generalize vs 5 = v5
    generalize vs 6 = v6 at *
    generalize vs 7 = v7 at *
    generalize vs 8 = v8 at *
    subst e6
    subst e7
    obtain ⟨hc, hf, hz⟩ := bcell hG
    obtain ⟨⟨b8, rfl, hb8, hb8', hB8⟩, hb8n⟩ := e8
    have hl0 : w.heap.size < b8 := by omega
    have m0 := Nat.ne_of_lt hl0
    have m1 := (Nat.ne_of_lt hl0).symm
    have hgW : Gr (w.alloc (.cells #[.int .i64 p.fl, .int .i64 p.fh, .int .i64 p.bl, .int .i64 p.bh, .int .i64 p.ti, .int .i64 p.ne, .int .i64 p.fa, .slice sp len cap] 26)) W := hG
    have P0 := ((Box.fresh w [.int .i64 p.fl, .int .i64 p.fh, .int .i64 p.bl, .int .i64 p.bh, .int .i64 p.ti, .int .i64 p.ne, .int .i64 p.fa, .slice sp len cap] 26).grow hgW).facts
    simp only [CellsFrom, Nat.zero_add, Nat.reduceAdd, and_true] at P0
    obtain ⟨y0_, y1_, yf0, yf1, yl⟩ := hB8.two
    have HGW := Lib.hid hgW
    have HB8 := Lib.hid hB8
    clear hB8 hb8 hb8' hb8n hgW hG hc hf hz
    go_wp2
    go_ret2
    exact ⟨rfl, ((show Below w.heap.size w W from (Gr.alloc _ _).tr HGW.out).setCell (by first | (simp; done) | (simp; omega) | omega) _).setCell (by first | (simp; done) | (simp; omega) | omega) _⟩
  · intro vs bs W hG hV hdj
    obtain ⟨e8, -, e6, e5, -⟩ := hV
    simp only [Nat.reduceSub, Nat.reduceEqDiff, if_false] at e5
    simp only [Nat.reduceSub, Nat.reduceEqDiff, if_false] at e6
    simp only [Nat.reduceSub, Nat.reduceEqDiff, if_false] at e8
    clear hdj
    refine wpOp_two rfl rfl ?_
    simp only [layL, Nat.reduceEqDiff, if_false, if_true, Act.put, List.getElem?_toArray, List.getElem?_cons_succ, List.getElem?_cons_zero, Option.bind_some, List.setIfInBounds_toArray, List.set_cons_succ, List.set_cons_zero, List.drop_succ_cons, List.drop_zero]
    generalize vs 0 = v0
    generalize vs 1 = v1
    generalize vs 2 = v2
    generalize vs 3 = v3
    generalize vs 4 = v4
    generalize vs 5 = v5 at *
    generalize vs 6 = v6 at *
    generalize vs 8 = v8 at *
    subst e5
    subst e6
    obtain ⟨hc, hf, hz⟩ := bcell hG
    obtain ⟨⟨b8, rfl, hb8, hb8', hB8⟩, hb8n⟩ := e8
    have hl0 : w.heap.size < b8 := by omega
    have m0 := Nat.ne_of_lt hl0
    have m1 := (Nat.ne_of_lt hl0).symm
    have hgW : Gr (w.alloc (.cells #[.int .i64 p.fl, .int .i64 p.fh, .int .i64 p.bl, .int .i64 p.bh, .int .i64 p.ti, .int .i64 p.ne, .int .i64 p.fa, .slice sp len cap] 26)) W := hG
    have P0 := ((Box.fresh w [.int .i64 p.fl, .int .i64 p.fh, .int .i64 p.bl, .int .i64 p.bh, .int .i64 p.ti, .int .i64 p.ne, .int .i64 p.fa, .slice sp len cap] 26).grow hgW).facts
    simp only [CellsFrom, Nat.zero_add, Nat.reduceAdd, and_true] at P0
    obtain ⟨y0_, y1_, yf0, yf1, yl⟩ := hB8.two
    have HGW := Lib.hid hgW
    have HB8 := Lib.hid hB8
    clear hB8 hb8 hb8' hb8n hgW hG hc hf hz
    go_wp2
    go_ret2
    exact ⟨rfl, ((show Below w.heap.size w W from (Gr.alloc _ _).tr HGW.out).setCell (by first | (simp; done) | (simp; omega) | omega) _).setCell (by first | (simp; done) | (simp; omega) | omega) _⟩
set_option maxRecDepth 100000 in
set_option maxHeartbeats 4000000 in
theorem rwhy_stood (p : Pr) (sp : Option Addr) (len cap : Nat) (n : Nat) (xa xb xc xd xe xf xg xh xz x y q1 q2 : Int) (w : World) (hT : ThingsAt p.l (.slice sp len cap) w) (hl : len ≤ 1000) (hk : Hid ((decide (0 ≤ (n : Int)) && decide ((n : Int) < (len : Int))) = true)) (hkl : n < len) (HK : Hid (p.l[n]? = some ⟨xa, xb, xc, xd, xe, xf, xg, xh, xz⟩)) (ho : Hid (p.ropen true = (x, y, 0))) (HPT : Hid (∀ (v : Value) (w : World), Calls Try.prog 59 #[.agg #[.int .i64 p.fl, .int .i64 p.fh, .int .i64 p.bl, .int .i64 p.bh, .int .i64 p.ti, .int .i64 p.ne, .int .i64 p.fa, v], .agg #[.int .i64 xa, .int .i64 xb, .int .i64 xc, .int .i64 xd, .int .i64 xe, .int .i64 xf, .int .i64 xg, .int .i64 xh, .int .i64 xz]] w fun e w' => e = .returned (.agg #[.int .i64 q1, .int .i64 q2]) ∧ Below w.heap.size w w')) (hem : decide ((ovl (x, y) (q1, q2)).2 < (ovl (x, y) (q1, q2)).1) = false) :
    Calls Try.prog 22 #[.agg #[.int .i64 p.fl, .int .i64 p.fh, .int .i64 p.bl, .int .i64 p.bh, .int .i64 p.ti, .int .i64 p.ne, .int .i64 p.fa, .slice sp len cap], .int .i64 n] w fun e w' => e = .returned (.tuple #[.int .i64 0, .int .i64 0]) ∧ Below w.heap.size w w' := by
  have TH := Lib.hid (fun (W : World) (hg : Gr (w.alloc (.cells #[.int .i64 p.fl, .int .i64 p.fh, .int .i64 p.bl, .int .i64 p.bh, .int .i64 p.ti, .int .i64 p.ne, .int .i64 p.fa, .slice sp len cap] 26)) W) => ThingsAt.lasts p.l _ _ _ hT ((Gr.alloc _ _).tr hg))
  have hal := @cal
  have hT2 := hT.2
  rcases hT2 with ⟨e, -⟩ | ⟨b, o, cap', hsp, hb, hcx⟩
  · have := HK.out; rw [e] at this; cases this
  obtain ⟨hsp1, -, -⟩ : sp = some ⟨b, o, none⟩ ∧ len = p.l.length ∧ cap = cap' := by simpa using hsp
  subst hsp1
  have HX0 := Lib.hid (hcx n _ HK.out)
  obtain ⟨o1, o2, hov⟩ : ∃ o1 o2, ovl (x, y) (q1, q2) = (o1, o2) := ⟨_, _, rfl⟩
  have HC : Hid (∀ W : World, Calls Try.prog 58 #[.agg #[.int .i64 x, .int .i64 y], .agg #[.int .i64 q1, .int .i64 q2]] W fun e w' => e = .returned (.agg #[.int .i64 o1, .int .i64 o2]) ∧ Below W.heap.size W w') := Lib.hid fun W => by
    have := rcommon_any x y q1 q2 W
    rwa [hov] at this
  rw [hov] at hem
  simp only at hem
  clear hT hcx hsp hov
  go_enter Try.func22, Try.ntmps22
  go_wp2_with fail
  refine regionL 9 7 ?_ ?_ ?_
  · kernel_rfl
  · kernel_rfl
  simp only [List.take_succ_cons, List.take_zero, List.drop_succ_cons, List.drop_zero]
  apply chainB_eq (D := [(2, none)]) rfl (by kernel_rfl)
  · intro ρ W ⟨p1, p2, p3⟩ hG hF K hK; (try simp [FactsD] at hF); have ⟨hc, hf, hz⟩ := bcell (Gr.tr (Gr.drew _) hG); go_simp; exact hK _ (gives_val)
  apply chainB_eq (D := [(2, none)]) rfl (by kernel_rfl)
  · intro ρ W ⟨p1, p2, p3⟩ hG hF K hK; (try simp [FactsD] at hF); have ⟨hc, hf, hz⟩ := bcell (Gr.tr (Gr.drew _) hG); go_simp; exact hK _ (gives_val)
  apply chainB_eq (D := [(1, none)]) rfl (by kernel_rfl)
  · intro ρ W ⟨p1, p2, p3⟩ hG hF K hK; (try simp [FactsD] at hF); have ⟨hc, hf, hz⟩ := bcell (Gr.tr (Gr.drew _) hG); go_simp; exact hK _ (gives_val)
  apply chainB_eq (D := [(12, some 1), (13, some 0)]) rfl (by kernel_rfl)
  · intro ρ W ⟨p1, p2, p3⟩ hG hF K hK; (try simp [FactsD, exB] at hF); have ⟨hc, hf, hz⟩ := bcell (Gr.tr (Gr.drew _) hG); go_simp; exact hK _ (gives_call (rthing_is hl hk.out))
  apply chainB_eq (D := [(11, some 3), (14, some 0)]) rfl (by kernel_rfl)
  · intro ρ W ⟨p1, p2, p3⟩ hG hF K hK; (try simp [FactsD, exB] at hF); have ⟨hc, hf, hz⟩ := bcell (Gr.tr (Gr.drew _) hG); go_simp; exact hK _ (gives_call (ropen_is ho.out (TH.out _ ((Gr.drew _).tr hG))))
  apply chainB_eq (D := [(15, some 0)]) rfl (by kernel_rfl)
  · intro ρ W ⟨p1, p2, p3⟩ hG hF K hK; (try simp [FactsD, exB] at hF); have ⟨hc, hf, hz⟩ := bcell (Gr.tr (Gr.drew _) hG); go_simp; exact hK _ (gives_val)
  apply chainB_eq (D := [(10, some 0)]) rfl (by kernel_rfl)
  · intro ρ W ⟨p1, p2, p3⟩ hG hF K hK; (try simp [FactsD, exB] at hF); have ⟨hc, hf, hz⟩ := bcell (Gr.tr (Gr.drew _) hG); go_simp; exact hK _ (gives_val)
  apply chainB_eq (D := [(10, some 1)]) rfl (by kernel_rfl)
  · intro ρ W ⟨p1, p2, p3⟩ hG hF K hK; (try simp [FactsD, exB] at hF); have ⟨hc, hf, hz⟩ := bcell (Gr.tr (Gr.drew _) hG); go_simp; exact hK _ (gives_val)
  refine chainB_any (V := fun p v W' => NewB [.int .i64 0, .int .i64 0] 23 p v W' ∧ w.heap.size + 1 ≤ p.1) (D := []) rfl (by kernel_rfl) (fun p v A B h hg => ⟨NewB.lasts _ _ p v A B h.1 hg, h.2⟩) ?_ ?_
  · intro ρ W ⟨p1, p2, p3⟩ hG hF K hK; (try simp [FactsD] at hF); have ⟨hc, hf, hz⟩ := bcell (Gr.tr (Gr.drew _) hG); go_simp; exact hK _ (⟨⟨NewB.new _ _ _, by have := hG.size; simpa using this⟩, Gr.alloc _ _⟩)
  refine chainB_done ⟨?_, ?_⟩
  · intro vs bs W hG hV hdj
    obtain ⟨e8, e7, e6, -⟩ := hV
    simp only [Nat.reduceSub] at e6
    simp only [Nat.reduceSub] at e7
    simp only [Nat.reduceSub] at e8
    clear hdj
    simp only [lay, Act.put, List.getElem?_toArray, List.getElem?_cons_succ, List.getElem?_cons_zero, Option.bind_some, List.setIfInBounds_toArray, List.set_cons_succ, List.set_cons_zero]
    generalize vs 0 = v0
    generalize vs 1 = v1
    generalize vs 2 = v2
    generalize vs 3 = v3
    generalize vs 4 = v4
    generalize vs 5 = v5
    generalize vs 6 = v6 at *
    generalize vs 7 = v7 at *
    generalize vs 8 = v8 at *
    subst e6
    subst e7
    obtain ⟨hc, hf, hz⟩ := bcell hG
    obtain ⟨⟨b8, rfl, hb8, hb8', hB8⟩, hb8n⟩ := e8
    have hl0 : w.heap.size < b8 := by omega
    have m0 := Nat.ne_of_lt hl0
    have m1 := (Nat.ne_of_lt hl0).symm
    have hgW : Gr (w.alloc (.cells #[.int .i64 p.fl, .int .i64 p.fh, .int .i64 p.bl, .int .i64 p.bh, .int .i64 p.ti, .int .i64 p.ne, .int .i64 p.fa, .slice (some ⟨b, o, none⟩) len cap] 26)) W := hG
    have P0 := ((Box.fresh w [.int .i64 p.fl, .int .i64 p.fh, .int .i64 p.bl, .int .i64 p.bh, .int .i64 p.ti, .int .i64 p.ne, .int .i64 p.fa, .slice (some ⟨b, o, none⟩) len cap] 26).grow hgW).facts
    simp only [CellsFrom, Nat.zero_add, Nat.reduceAdd, and_true] at P0
    obtain ⟨y0_, y1_, yf0, yf1, yl⟩ := hB8.two
    have HGW := Lib.hid hgW
    have HB8 := Lib.hid hB8
    clear hB8 hb8 hb8' hb8n hgW hG hc hf hz
    have X := CellsFrom.nine (HX0.out.grow hb ((Gr.alloc _ _).tr HGW.out))
    simp only at X
    have hne8 : ¬ b = b8 := by omega
    have hne8' : ¬ b8 = b := by omega
    have hbW : b < W.heap.size := Nat.lt_of_lt_of_le hb (Nat.le_trans (Nat.le_succ _) (by have := HGW.out.size; simpa using this))
    go_wp2_with fail
    have h8 : Box (((W.setCell ⟨b8, 0, none⟩ (.int .i64 x)).setCell ⟨b8, 1, none⟩ (.int .i64 y)).alloc (.cells #[.int .i64 xa, .int .i64 xb, .int .i64 xc, .int .i64 xd, .int .i64 xe, .int .i64 xf, .int .i64 xg, .int .i64 xh, .int .i64 xz] 47)) b8 [.int .i64 x, .int .i64 y] 23 := ((HB8.out.put 0 _).put 1 _).grow (Gr.alloc _ _)
    have hp5 : Box (((W.setCell ⟨b8, 0, none⟩ (.int .i64 x)).setCell ⟨b8, 1, none⟩ (.int .i64 y)).alloc (.cells #[.int .i64 xa, .int .i64 xb, .int .i64 xc, .int .i64 xd, .int .i64 xe, .int .i64 xf, .int .i64 xg, .int .i64 xh, .int .i64 xz] 47)) w.heap.size [.int .i64 p.fl, .int .i64 p.fh, .int .i64 p.bl, .int .i64 p.bh, .int .i64 p.ti, .int .i64 p.ne, .int .i64 p.fa, .slice (some ⟨b, o, none⟩) len cap] 26 := ((((Box.fresh w [.int .i64 p.fl, .int .i64 p.fh, .int .i64 p.bl, .int .i64 p.bh, .int .i64 p.ti, .int .i64 p.ne, .int .i64 p.fa, .slice (some ⟨b, o, none⟩) len cap] 26).grow HGW.out).other m0 _ _).other m0 _ _).grow (Gr.alloc _ _)
    have ht5 : Box (((W.setCell ⟨b8, 0, none⟩ (.int .i64 x)).setCell ⟨b8, 1, none⟩ (.int .i64 y)).alloc (.cells #[.int .i64 xa, .int .i64 xb, .int .i64 xc, .int .i64 xd, .int .i64 xe, .int .i64 xf, .int .i64 xg, .int .i64 xh, .int .i64 xz] 47)) W.heap.size [.int .i64 xa, .int .i64 xb, .int .i64 xc, .int .i64 xd, .int .i64 xe, .int .i64 xf, .int .i64 xg, .int .i64 xh, .int .i64 xz] 47 := by
      have := Box.fresh ((W.setCell ⟨b8, 0, none⟩ (.int .i64 x)).setCell ⟨b8, 1, none⟩ (.int .i64 y)) [.int .i64 xa, .int .i64 xb, .int .i64 xc, .int .i64 xd, .int .i64 xe, .int .i64 xf, .int .i64 xg, .int .i64 xh, .int .i64 xz] 47
      simpa using this
    have hw5 : Below w.heap.size w (((W.setCell ⟨b8, 0, none⟩ (.int .i64 x)).setCell ⟨b8, 1, none⟩ (.int .i64 y)).alloc (.cells #[.int .i64 xa, .int .i64 xb, .int .i64 xc, .int .i64 xd, .int .i64 xe, .int .i64 xf, .int .i64 xg, .int .i64 xh, .int .i64 xz] 47)) := (((show Below w.heap.size w W from (Gr.alloc _ _).tr HGW.out).setCell (by first | (simp; done) | (simp; omega) | omega) _).setCell (by first | (simp; done) | (simp; omega) | omega) _).alloc (by first | (simp; done) | (simp; omega) | omega) _
    clear X hbW y0_ y1_ yf0 yf1 P0 HB8 HGW
    generalize (((W.setCell ⟨b8, 0, none⟩ (.int .i64 x)).setCell ⟨b8, 1, none⟩ (.int .i64 y)).alloc (.cells #[.int .i64 xa, .int .i64 xb, .int .i64 xc, .int .i64 xd, .int .i64 xe, .int .i64 xf, .int .i64 xg, .int .i64 xh, .int .i64 xz] 47)) = W5 at *
    generalize W.heap.size = bt at *
    have C8 := h8.facts
    have CP := hp5.facts
    have CT := ht5.facts
    simp only [CellsFrom, Nat.zero_add, Nat.reduceAdd, and_true] at C8 CP CT
    have H8 := Lib.hid h8
    have HP5 := Lib.hid hp5
    have HT5 := Lib.hid ht5
    have HW5 := Lib.hid hw5
    clear h8 hp5 ht5 hw5
    refine region2 7 ?_ ?_ ?_
    · kernel_rfl
    · kernel_rfl
    simp only [List.take_succ_cons, List.take_zero, List.drop_succ_cons, List.drop_zero]
    apply chain_eq (D := [(6, none)]) rfl (by kernel_rfl)
    · intro ρ W ⟨p1, p2, p3⟩ hG hF K hK; (try simp [FactsD] at hF); have ⟨hc, hf, hz⟩ := bcell (Gr.tr (Gr.drew _) hG); go_simp; exact hK _ (gives_val)
    apply chain_eq (D := [(2, none)]) rfl (by kernel_rfl)
    · intro ρ W ⟨p1, p2, p3⟩ hG hF K hK; (try simp [FactsD] at hF); have ⟨hc, hf, hz⟩ := bcell (Gr.tr (Gr.drew _) hG); go_simp; exact hK _ (gives_val)
    apply chain_eq (D := [(8, none)]) rfl (by kernel_rfl)
    · intro ρ W ⟨p1, p2, p3⟩ hG hF K hK; (try simp [FactsD] at hF); have ⟨hc, hf, hz⟩ := bcell (Gr.tr (Gr.drew _) hG); go_simp; exact hK _ (gives_val)
    apply chain_eq (D := [(27, some 1), (28, some 0)]) rfl (by kernel_rfl)
    · intro ρ W ⟨p1, p2, p3⟩ hG hF K hK; (try simp [FactsD] at hF); have ⟨hc, hf, hz⟩ := bcell (Gr.tr (Gr.drew _) hG); go_simp; exact hK _ (gives_call (HPT.out _ _))
    apply chain_eq (D := [(26, some 3), (29, some 0)]) rfl (by kernel_rfl)
    · intro ρ W ⟨p1, p2, p3⟩ hG hF K hK; (try simp [FactsD] at hF); have ⟨hc, hf, hz⟩ := bcell (Gr.tr (Gr.drew _) hG); go_simp; exact hK _ (gives_call (HC.out _))
    apply chain_eq (D := [(30, some 0)]) rfl (by kernel_rfl)
    · intro ρ W ⟨p1, p2, p3⟩ hG hF K hK; (try simp [FactsD] at hF); have ⟨hc, hf, hz⟩ := bcell (Gr.tr (Gr.drew _) hG); go_simp; exact hK _ (gives_call (rempty_any _ _ _))
    apply chain_eq (D := [(31, some 0)]) rfl (by kernel_rfl)
    · intro ρ W ⟨p1, p2, p3⟩ hG hF K hK; (try simp [FactsD] at hF); have ⟨hc, hf, hz⟩ := bcell (Gr.tr (Gr.drew _) hG); go_simp; exact hK _ (gives_val)
    refine chain_done ?_
    intro vs W hG hV
    obtain ⟨e6, -⟩ := hV
    simp only [Nat.reduceSub] at e6
    simp only [lay, Act.put, List.getElem?_toArray, List.getElem?_cons_succ, List.getElem?_cons_zero, Option.bind_some, List.setIfInBounds_toArray, List.set_cons_succ, List.set_cons_zero]
    generalize vs 0 = v0
    generalize vs 1 = v1
    generalize vs 2 = v2
    generalize vs 3 = v3
    generalize vs 4 = v4
    generalize vs 5 = v5
    generalize vs 6 = v6 at *
    subst e6
    obtain ⟨hc, hf, hz⟩ := bcell hG
    have C8 := (H8.out.grow hG).facts
    have CP := (HP5.out.grow hG).facts
    have CT := (HT5.out.grow hG).facts
    simp only [CellsFrom, Nat.zero_add, Nat.reduceAdd, and_true] at C8 CP CT
    have HW6 := Lib.hid (bgr HW5.out HW5.out.size hG)
    have HG6 := Lib.hid hG
    clear hc hf hz hG
    go_wp2
    go_ret2
    exact ⟨rfl, HW6.out⟩
  · intro vs bs W hG hV hdj
    obtain ⟨e8, -, e6, e5, -⟩ := hV
    simp only [Nat.reduceSub, Nat.reduceEqDiff, if_false] at e5
    simp only [Nat.reduceSub, Nat.reduceEqDiff, if_false] at e6
    simp only [Nat.reduceSub, Nat.reduceEqDiff, if_false] at e8
    clear hdj
    refine wpOp_two rfl rfl ?_
    simp only [layL, Nat.reduceEqDiff, if_false, if_true, Act.put, List.getElem?_toArray, List.getElem?_cons_succ, List.getElem?_cons_zero, Option.bind_some, List.setIfInBounds_toArray, List.set_cons_succ, List.set_cons_zero, List.drop_succ_cons, List.drop_zero]
    generalize vs 0 = v0
    generalize vs 1 = v1
    generalize vs 2 = v2
    generalize vs 3 = v3
    generalize vs 4 = v4
    generalize vs 5 = v5 at *
    generalize vs 6 = v6 at *
    generalize vs 8 = v8 at *
    subst e5
    subst e6
    obtain ⟨hc, hf, hz⟩ := bcell hG
    obtain ⟨⟨b8, rfl, hb8, hb8', hB8⟩, hb8n⟩ := e8
    have hl0 : w.heap.size < b8 := by omega
    have m0 := Nat.ne_of_lt hl0
    have m1 := (Nat.ne_of_lt hl0).symm
    have hgW : Gr (w.alloc (.cells #[.int .i64 p.fl, .int .i64 p.fh, .int .i64 p.bl, .int .i64 p.bh, .int .i64 p.ti, .int .i64 p.ne, .int .i64 p.fa, .slice (some ⟨b, o, none⟩) len cap] 26)) W := hG
    have P0 := ((Box.fresh w [.int .i64 p.fl, .int .i64 p.fh, .int .i64 p.bl, .int .i64 p.bh, .int .i64 p.ti, .int .i64 p.ne, .int .i64 p.fa, .slice (some ⟨b, o, none⟩) len cap] 26).grow hgW).facts
    simp only [CellsFrom, Nat.zero_add, Nat.reduceAdd, and_true] at P0
    obtain ⟨y0_, y1_, yf0, yf1, yl⟩ := hB8.two
    have HGW := Lib.hid hgW
    have HB8 := Lib.hid hB8
    clear hB8 hb8 hb8' hb8n hgW hG hc hf hz
    have X := CellsFrom.nine (HX0.out.grow hb ((Gr.alloc _ _).tr HGW.out))
    simp only at X
    have hne8 : ¬ b = b8 := by omega
    have hne8' : ¬ b8 = b := by omega
    have hbW : b < W.heap.size := Nat.lt_of_lt_of_le hb (Nat.le_trans (Nat.le_succ _) (by have := HGW.out.size; simpa using this))
    go_wp2_with fail
    have h8 : Box (((W.setCell ⟨b8, 0, none⟩ (.int .i64 x)).setCell ⟨b8, 1, none⟩ (.int .i64 y)).alloc (.cells #[.int .i64 xa, .int .i64 xb, .int .i64 xc, .int .i64 xd, .int .i64 xe, .int .i64 xf, .int .i64 xg, .int .i64 xh, .int .i64 xz] 47)) b8 [.int .i64 x, .int .i64 y] 23 := ((HB8.out.put 0 _).put 1 _).grow (Gr.alloc _ _)
    have hp5 : Box (((W.setCell ⟨b8, 0, none⟩ (.int .i64 x)).setCell ⟨b8, 1, none⟩ (.int .i64 y)).alloc (.cells #[.int .i64 xa, .int .i64 xb, .int .i64 xc, .int .i64 xd, .int .i64 xe, .int .i64 xf, .int .i64 xg, .int .i64 xh, .int .i64 xz] 47)) w.heap.size [.int .i64 p.fl, .int .i64 p.fh, .int .i64 p.bl, .int .i64 p.bh, .int .i64 p.ti, .int .i64 p.ne, .int .i64 p.fa, .slice (some ⟨b, o, none⟩) len cap] 26 := ((((Box.fresh w [.int .i64 p.fl, .int .i64 p.fh, .int .i64 p.bl, .int .i64 p.bh, .int .i64 p.ti, .int .i64 p.ne, .int .i64 p.fa, .slice (some ⟨b, o, none⟩) len cap] 26).grow HGW.out).other m0 _ _).other m0 _ _).grow (Gr.alloc _ _)
    have ht5 : Box (((W.setCell ⟨b8, 0, none⟩ (.int .i64 x)).setCell ⟨b8, 1, none⟩ (.int .i64 y)).alloc (.cells #[.int .i64 xa, .int .i64 xb, .int .i64 xc, .int .i64 xd, .int .i64 xe, .int .i64 xf, .int .i64 xg, .int .i64 xh, .int .i64 xz] 47)) W.heap.size [.int .i64 xa, .int .i64 xb, .int .i64 xc, .int .i64 xd, .int .i64 xe, .int .i64 xf, .int .i64 xg, .int .i64 xh, .int .i64 xz] 47 := by
      have := Box.fresh ((W.setCell ⟨b8, 0, none⟩ (.int .i64 x)).setCell ⟨b8, 1, none⟩ (.int .i64 y)) [.int .i64 xa, .int .i64 xb, .int .i64 xc, .int .i64 xd, .int .i64 xe, .int .i64 xf, .int .i64 xg, .int .i64 xh, .int .i64 xz] 47
      simpa using this
    have hw5 : Below w.heap.size w (((W.setCell ⟨b8, 0, none⟩ (.int .i64 x)).setCell ⟨b8, 1, none⟩ (.int .i64 y)).alloc (.cells #[.int .i64 xa, .int .i64 xb, .int .i64 xc, .int .i64 xd, .int .i64 xe, .int .i64 xf, .int .i64 xg, .int .i64 xh, .int .i64 xz] 47)) := (((show Below w.heap.size w W from (Gr.alloc _ _).tr HGW.out).setCell (by first | (simp; done) | (simp; omega) | omega) _).setCell (by first | (simp; done) | (simp; omega) | omega) _).alloc (by first | (simp; done) | (simp; omega) | omega) _
    clear X hbW y0_ y1_ yf0 yf1 P0 HB8 HGW
    generalize (((W.setCell ⟨b8, 0, none⟩ (.int .i64 x)).setCell ⟨b8, 1, none⟩ (.int .i64 y)).alloc (.cells #[.int .i64 xa, .int .i64 xb, .int .i64 xc, .int .i64 xd, .int .i64 xe, .int .i64 xf, .int .i64 xg, .int .i64 xh, .int .i64 xz] 47)) = W5 at *
    generalize W.heap.size = bt at *
    have C8 := h8.facts
    have CP := hp5.facts
    have CT := ht5.facts
    simp only [CellsFrom, Nat.zero_add, Nat.reduceAdd, and_true] at C8 CP CT
    have H8 := Lib.hid h8
    have HP5 := Lib.hid hp5
    have HT5 := Lib.hid ht5
    have HW5 := Lib.hid hw5
    clear h8 hp5 ht5 hw5
    refine region2 7 ?_ ?_ ?_
    · kernel_rfl
    · kernel_rfl
    simp only [List.take_succ_cons, List.take_zero, List.drop_succ_cons, List.drop_zero]
    apply chain_eq (D := [(6, none)]) rfl (by kernel_rfl)
    · intro ρ W ⟨p1, p2, p3⟩ hG hF K hK; (try simp [FactsD] at hF); have ⟨hc, hf, hz⟩ := bcell (Gr.tr (Gr.drew _) hG); go_simp; exact hK _ (gives_val)
    apply chain_eq (D := [(2, none)]) rfl (by kernel_rfl)
    · intro ρ W ⟨p1, p2, p3⟩ hG hF K hK; (try simp [FactsD] at hF); have ⟨hc, hf, hz⟩ := bcell (Gr.tr (Gr.drew _) hG); go_simp; exact hK _ (gives_val)
    apply chain_eq (D := [(8, none)]) rfl (by kernel_rfl)
    · intro ρ W ⟨p1, p2, p3⟩ hG hF K hK; (try simp [FactsD] at hF); have ⟨hc, hf, hz⟩ := bcell (Gr.tr (Gr.drew _) hG); go_simp; exact hK _ (gives_val)
    apply chain_eq (D := [(27, some 1), (28, some 0)]) rfl (by kernel_rfl)
    · intro ρ W ⟨p1, p2, p3⟩ hG hF K hK; (try simp [FactsD] at hF); have ⟨hc, hf, hz⟩ := bcell (Gr.tr (Gr.drew _) hG); go_simp; exact hK _ (gives_call (HPT.out _ _))
    apply chain_eq (D := [(26, some 3), (29, some 0)]) rfl (by kernel_rfl)
    · intro ρ W ⟨p1, p2, p3⟩ hG hF K hK; (try simp [FactsD] at hF); have ⟨hc, hf, hz⟩ := bcell (Gr.tr (Gr.drew _) hG); go_simp; exact hK _ (gives_call (HC.out _))
    apply chain_eq (D := [(30, some 0)]) rfl (by kernel_rfl)
    · intro ρ W ⟨p1, p2, p3⟩ hG hF K hK; (try simp [FactsD] at hF); have ⟨hc, hf, hz⟩ := bcell (Gr.tr (Gr.drew _) hG); go_simp; exact hK _ (gives_call (rempty_any _ _ _))
    apply chain_eq (D := [(31, some 0)]) rfl (by kernel_rfl)
    · intro ρ W ⟨p1, p2, p3⟩ hG hF K hK; (try simp [FactsD] at hF); have ⟨hc, hf, hz⟩ := bcell (Gr.tr (Gr.drew _) hG); go_simp; exact hK _ (gives_val)
    refine chain_done ?_
    intro vs W hG hV
    obtain ⟨e6, -⟩ := hV
    simp only [Nat.reduceSub] at e6
    simp only [lay, Act.put, List.getElem?_toArray, List.getElem?_cons_succ, List.getElem?_cons_zero, Option.bind_some, List.setIfInBounds_toArray, List.set_cons_succ, List.set_cons_zero]
    generalize vs 0 = v0
    generalize vs 1 = v1
    generalize vs 2 = v2
    generalize vs 3 = v3
    generalize vs 4 = v4
    generalize vs 5 = v5
    generalize vs 6 = v6 at *
    subst e6
    obtain ⟨hc, hf, hz⟩ := bcell hG
    have C8 := (H8.out.grow hG).facts
    have CP := (HP5.out.grow hG).facts
    have CT := (HT5.out.grow hG).facts
    simp only [CellsFrom, Nat.zero_add, Nat.reduceAdd, and_true] at C8 CP CT
    have HW6 := Lib.hid (bgr HW5.out HW5.out.size hG)
    have HG6 := Lib.hid hG
    clear hc hf hz hG
    go_wp2
    go_ret2
    exact ⟨rfl, HW6.out⟩
set_option maxRecDepth 100000 in
set_option maxHeartbeats 4000000 in
theorem rwhy_rows (p : Pr) (sp : Option Addr) (len cap : Nat) (n : Nat) (xa xb xc xd xe xf xg xh xz x y q1 q2 : Int) (w : World) (hT : ThingsAt p.l (.slice sp len cap) w) (hl : len ≤ 1000) (hk : Hid ((decide (0 ≤ (n : Int)) && decide ((n : Int) < (len : Int))) = true)) (hkl : n < len) (HK : Hid (p.l[n]? = some ⟨xa, xb, xc, xd, xe, xf, xg, xh, xz⟩)) (ho : Hid (p.ropen true = (x, y, 0))) (HPT : Hid (∀ (v : Value) (w : World), Calls Try.prog 59 #[.agg #[.int .i64 p.fl, .int .i64 p.fh, .int .i64 p.bl, .int .i64 p.bh, .int .i64 p.ti, .int .i64 p.ne, .int .i64 p.fa, v], .agg #[.int .i64 xa, .int .i64 xb, .int .i64 xc, .int .i64 xd, .int .i64 xe, .int .i64 xf, .int .i64 xg, .int .i64 xh, .int .i64 xz]] w fun e w' => e = .returned (.agg #[.int .i64 q1, .int .i64 q2]) ∧ Below w.heap.size w w')) (hem : decide ((ovl (x, y) (q1, q2)).2 < (ovl (x, y) (q1, q2)).1) = true) (bd : -4000 ≤ xd ∧ xd ≤ 4000) (bh : -4000 ≤ xh ∧ xh ≤ 4000) (bt : 0 ≤ p.ti ∧ p.ti ≤ 1000) (hlv : (decide (xc ≤ xh + p.ti) && decide (xg ≤ xd + p.ti)) = false) :
    Calls Try.prog 22 #[.agg #[.int .i64 p.fl, .int .i64 p.fh, .int .i64 p.bl, .int .i64 p.bh, .int .i64 p.ti, .int .i64 p.ne, .int .i64 p.fa, .slice sp len cap], .int .i64 n] w fun e w' => e = .returned (.tuple #[.int .i64 1, .int .i64 0]) ∧ Below w.heap.size w w' := by
  have TH := Lib.hid (fun (W : World) (hg : Gr (w.alloc (.cells #[.int .i64 p.fl, .int .i64 p.fh, .int .i64 p.bl, .int .i64 p.bh, .int .i64 p.ti, .int .i64 p.ne, .int .i64 p.fa, .slice sp len cap] 26)) W) => ThingsAt.lasts p.l _ _ _ hT ((Gr.alloc _ _).tr hg))
  have hal := @cal
  have hT2 := hT.2
  rcases hT2 with ⟨e, -⟩ | ⟨b, o, cap', hsp, hb, hcx⟩
  · have := HK.out; rw [e] at this; cases this
  obtain ⟨hsp1, -, -⟩ : sp = some ⟨b, o, none⟩ ∧ len = p.l.length ∧ cap = cap' := by simpa using hsp
  subst hsp1
  have HX0 := Lib.hid (hcx n _ HK.out)
  have HLV : Hid (∀ W : World, Calls Try.prog 60 #[.agg #[.int .i64 xa, .int .i64 xb, .int .i64 xc, .int .i64 xd, .int .i64 xe, .int .i64 xf, .int .i64 xg, .int .i64 xh, .int .i64 xz], .int .i64 p.ti] W fun e w' => e = .returned (.bool false) ∧ Below W.heap.size W w') := Lib.hid fun W => by
    have := rlevel_any xa xb xc xd xe xf xg xh xz p.ti W bd bh bt
    rwa [hlv] at this
  clear hlv
  obtain ⟨o1, o2, hov⟩ : ∃ o1 o2, ovl (x, y) (q1, q2) = (o1, o2) := ⟨_, _, rfl⟩
  have HC : Hid (∀ W : World, Calls Try.prog 58 #[.agg #[.int .i64 x, .int .i64 y], .agg #[.int .i64 q1, .int .i64 q2]] W fun e w' => e = .returned (.agg #[.int .i64 o1, .int .i64 o2]) ∧ Below W.heap.size W w') := Lib.hid fun W => by
    have := rcommon_any x y q1 q2 W
    rwa [hov] at this
  rw [hov] at hem
  simp only at hem
  clear hT hcx hsp hov
  go_enter Try.func22, Try.ntmps22
  go_wp2_with fail
  refine regionL 9 7 ?_ ?_ ?_
  · kernel_rfl
  · kernel_rfl
  simp only [List.take_succ_cons, List.take_zero, List.drop_succ_cons, List.drop_zero]
  apply chainB_eq (D := [(2, none)]) rfl (by kernel_rfl)
  · intro ρ W ⟨p1, p2, p3⟩ hG hF K hK; (try simp [FactsD] at hF); have ⟨hc, hf, hz⟩ := bcell (Gr.tr (Gr.drew _) hG); go_simp; exact hK _ (gives_val)
  apply chainB_eq (D := [(2, none)]) rfl (by kernel_rfl)
  · intro ρ W ⟨p1, p2, p3⟩ hG hF K hK; (try simp [FactsD] at hF); have ⟨hc, hf, hz⟩ := bcell (Gr.tr (Gr.drew _) hG); go_simp; exact hK _ (gives_val)
  apply chainB_eq (D := [(1, none)]) rfl (by kernel_rfl)
  · intro ρ W ⟨p1, p2, p3⟩ hG hF K hK; (try simp [FactsD] at hF); have ⟨hc, hf, hz⟩ := bcell (Gr.tr (Gr.drew _) hG); go_simp; exact hK _ (gives_val)
  apply chainB_eq (D := [(12, some 1), (13, some 0)]) rfl (by kernel_rfl)
  · intro ρ W ⟨p1, p2, p3⟩ hG hF K hK; (try simp [FactsD, exB] at hF); have ⟨hc, hf, hz⟩ := bcell (Gr.tr (Gr.drew _) hG); go_simp; exact hK _ (gives_call (rthing_is hl hk.out))
  apply chainB_eq (D := [(11, some 3), (14, some 0)]) rfl (by kernel_rfl)
  · intro ρ W ⟨p1, p2, p3⟩ hG hF K hK; (try simp [FactsD, exB] at hF); have ⟨hc, hf, hz⟩ := bcell (Gr.tr (Gr.drew _) hG); go_simp; exact hK _ (gives_call (ropen_is ho.out (TH.out _ ((Gr.drew _).tr hG))))
  apply chainB_eq (D := [(15, some 0)]) rfl (by kernel_rfl)
  · intro ρ W ⟨p1, p2, p3⟩ hG hF K hK; (try simp [FactsD, exB] at hF); have ⟨hc, hf, hz⟩ := bcell (Gr.tr (Gr.drew _) hG); go_simp; exact hK _ (gives_val)
  apply chainB_eq (D := [(10, some 0)]) rfl (by kernel_rfl)
  · intro ρ W ⟨p1, p2, p3⟩ hG hF K hK; (try simp [FactsD, exB] at hF); have ⟨hc, hf, hz⟩ := bcell (Gr.tr (Gr.drew _) hG); go_simp; exact hK _ (gives_val)
  apply chainB_eq (D := [(10, some 1)]) rfl (by kernel_rfl)
  · intro ρ W ⟨p1, p2, p3⟩ hG hF K hK; (try simp [FactsD, exB] at hF); have ⟨hc, hf, hz⟩ := bcell (Gr.tr (Gr.drew _) hG); go_simp; exact hK _ (gives_val)
  refine chainB_any (V := fun p v W' => NewB [.int .i64 0, .int .i64 0] 23 p v W' ∧ w.heap.size + 1 ≤ p.1) (D := []) rfl (by kernel_rfl) (fun p v A B h hg => ⟨NewB.lasts _ _ p v A B h.1 hg, h.2⟩) ?_ ?_
  · intro ρ W ⟨p1, p2, p3⟩ hG hF K hK; (try simp [FactsD] at hF); have ⟨hc, hf, hz⟩ := bcell (Gr.tr (Gr.drew _) hG); go_simp; exact hK _ (⟨⟨NewB.new _ _ _, by have := hG.size; simpa using this⟩, Gr.alloc _ _⟩)
  refine chainB_done ⟨?_, ?_⟩
  · intro vs bs W hG hV hdj
    obtain ⟨e8, e7, e6, -⟩ := hV
    simp only [Nat.reduceSub] at e6
    simp only [Nat.reduceSub] at e7
    simp only [Nat.reduceSub] at e8
    clear hdj
    simp only [lay, Act.put, List.getElem?_toArray, List.getElem?_cons_succ, List.getElem?_cons_zero, Option.bind_some, List.setIfInBounds_toArray, List.set_cons_succ, List.set_cons_zero]
    generalize vs 0 = v0
    generalize vs 1 = v1
    generalize vs 2 = v2
    generalize vs 3 = v3
    generalize vs 4 = v4
    generalize vs 5 = v5
    generalize vs 6 = v6 at *
    generalize vs 7 = v7 at *
    generalize vs 8 = v8 at *
    subst e6
    subst e7
    obtain ⟨hc, hf, hz⟩ := bcell hG
    obtain ⟨⟨b8, rfl, hb8, hb8', hB8⟩, hb8n⟩ := e8
    have hl0 : w.heap.size < b8 := by omega
    have m0 := Nat.ne_of_lt hl0
    have m1 := (Nat.ne_of_lt hl0).symm
    have hgW : Gr (w.alloc (.cells #[.int .i64 p.fl, .int .i64 p.fh, .int .i64 p.bl, .int .i64 p.bh, .int .i64 p.ti, .int .i64 p.ne, .int .i64 p.fa, .slice (some ⟨b, o, none⟩) len cap] 26)) W := hG
    have P0 := ((Box.fresh w [.int .i64 p.fl, .int .i64 p.fh, .int .i64 p.bl, .int .i64 p.bh, .int .i64 p.ti, .int .i64 p.ne, .int .i64 p.fa, .slice (some ⟨b, o, none⟩) len cap] 26).grow hgW).facts
    simp only [CellsFrom, Nat.zero_add, Nat.reduceAdd, and_true] at P0
    obtain ⟨y0_, y1_, yf0, yf1, yl⟩ := hB8.two
    have HGW := Lib.hid hgW
    have HB8 := Lib.hid hB8
    clear hB8 hb8 hb8' hb8n hgW hG hc hf hz
    have X := CellsFrom.nine (HX0.out.grow hb ((Gr.alloc _ _).tr HGW.out))
    simp only at X
    have hne8 : ¬ b = b8 := by omega
    have hne8' : ¬ b8 = b := by omega
    have hbW : b < W.heap.size := Nat.lt_of_lt_of_le hb (Nat.le_trans (Nat.le_succ _) (by have := HGW.out.size; simpa using this))
    go_wp2_with fail
    have h8 : Box (((W.setCell ⟨b8, 0, none⟩ (.int .i64 x)).setCell ⟨b8, 1, none⟩ (.int .i64 y)).alloc (.cells #[.int .i64 xa, .int .i64 xb, .int .i64 xc, .int .i64 xd, .int .i64 xe, .int .i64 xf, .int .i64 xg, .int .i64 xh, .int .i64 xz] 47)) b8 [.int .i64 x, .int .i64 y] 23 := ((HB8.out.put 0 _).put 1 _).grow (Gr.alloc _ _)
    have hp5 : Box (((W.setCell ⟨b8, 0, none⟩ (.int .i64 x)).setCell ⟨b8, 1, none⟩ (.int .i64 y)).alloc (.cells #[.int .i64 xa, .int .i64 xb, .int .i64 xc, .int .i64 xd, .int .i64 xe, .int .i64 xf, .int .i64 xg, .int .i64 xh, .int .i64 xz] 47)) w.heap.size [.int .i64 p.fl, .int .i64 p.fh, .int .i64 p.bl, .int .i64 p.bh, .int .i64 p.ti, .int .i64 p.ne, .int .i64 p.fa, .slice (some ⟨b, o, none⟩) len cap] 26 := ((((Box.fresh w [.int .i64 p.fl, .int .i64 p.fh, .int .i64 p.bl, .int .i64 p.bh, .int .i64 p.ti, .int .i64 p.ne, .int .i64 p.fa, .slice (some ⟨b, o, none⟩) len cap] 26).grow HGW.out).other m0 _ _).other m0 _ _).grow (Gr.alloc _ _)
    have ht5 : Box (((W.setCell ⟨b8, 0, none⟩ (.int .i64 x)).setCell ⟨b8, 1, none⟩ (.int .i64 y)).alloc (.cells #[.int .i64 xa, .int .i64 xb, .int .i64 xc, .int .i64 xd, .int .i64 xe, .int .i64 xf, .int .i64 xg, .int .i64 xh, .int .i64 xz] 47)) W.heap.size [.int .i64 xa, .int .i64 xb, .int .i64 xc, .int .i64 xd, .int .i64 xe, .int .i64 xf, .int .i64 xg, .int .i64 xh, .int .i64 xz] 47 := by
      have := Box.fresh ((W.setCell ⟨b8, 0, none⟩ (.int .i64 x)).setCell ⟨b8, 1, none⟩ (.int .i64 y)) [.int .i64 xa, .int .i64 xb, .int .i64 xc, .int .i64 xd, .int .i64 xe, .int .i64 xf, .int .i64 xg, .int .i64 xh, .int .i64 xz] 47
      simpa using this
    have hw5 : Below w.heap.size w (((W.setCell ⟨b8, 0, none⟩ (.int .i64 x)).setCell ⟨b8, 1, none⟩ (.int .i64 y)).alloc (.cells #[.int .i64 xa, .int .i64 xb, .int .i64 xc, .int .i64 xd, .int .i64 xe, .int .i64 xf, .int .i64 xg, .int .i64 xh, .int .i64 xz] 47)) := (((show Below w.heap.size w W from (Gr.alloc _ _).tr HGW.out).setCell (by first | (simp; done) | (simp; omega) | omega) _).setCell (by first | (simp; done) | (simp; omega) | omega) _).alloc (by first | (simp; done) | (simp; omega) | omega) _
    clear X hbW y0_ y1_ yf0 yf1 P0 HB8 HGW
    generalize (((W.setCell ⟨b8, 0, none⟩ (.int .i64 x)).setCell ⟨b8, 1, none⟩ (.int .i64 y)).alloc (.cells #[.int .i64 xa, .int .i64 xb, .int .i64 xc, .int .i64 xd, .int .i64 xe, .int .i64 xf, .int .i64 xg, .int .i64 xh, .int .i64 xz] 47)) = W5 at *
    generalize W.heap.size = bt at *
    have C8 := h8.facts
    have CP := hp5.facts
    have CT := ht5.facts
    simp only [CellsFrom, Nat.zero_add, Nat.reduceAdd, and_true] at C8 CP CT
    have H8 := Lib.hid h8
    have HP5 := Lib.hid hp5
    have HT5 := Lib.hid ht5
    have HW5 := Lib.hid hw5
    clear h8 hp5 ht5 hw5
    refine region2 7 ?_ ?_ ?_
    · kernel_rfl
    · kernel_rfl
    simp only [List.take_succ_cons, List.take_zero, List.drop_succ_cons, List.drop_zero]
    apply chain_eq (D := [(6, none)]) rfl (by kernel_rfl)
    · intro ρ W ⟨p1, p2, p3⟩ hG hF K hK; (try simp [FactsD] at hF); have ⟨hc, hf, hz⟩ := bcell (Gr.tr (Gr.drew _) hG); go_simp; exact hK _ (gives_val)
    apply chain_eq (D := [(2, none)]) rfl (by kernel_rfl)
    · intro ρ W ⟨p1, p2, p3⟩ hG hF K hK; (try simp [FactsD] at hF); have ⟨hc, hf, hz⟩ := bcell (Gr.tr (Gr.drew _) hG); go_simp; exact hK _ (gives_val)
    apply chain_eq (D := [(8, none)]) rfl (by kernel_rfl)
    · intro ρ W ⟨p1, p2, p3⟩ hG hF K hK; (try simp [FactsD] at hF); have ⟨hc, hf, hz⟩ := bcell (Gr.tr (Gr.drew _) hG); go_simp; exact hK _ (gives_val)
    apply chain_eq (D := [(27, some 1), (28, some 0)]) rfl (by kernel_rfl)
    · intro ρ W ⟨p1, p2, p3⟩ hG hF K hK; (try simp [FactsD] at hF); have ⟨hc, hf, hz⟩ := bcell (Gr.tr (Gr.drew _) hG); go_simp; exact hK _ (gives_call (HPT.out _ _))
    apply chain_eq (D := [(26, some 3), (29, some 0)]) rfl (by kernel_rfl)
    · intro ρ W ⟨p1, p2, p3⟩ hG hF K hK; (try simp [FactsD] at hF); have ⟨hc, hf, hz⟩ := bcell (Gr.tr (Gr.drew _) hG); go_simp; exact hK _ (gives_call (HC.out _))
    apply chain_eq (D := [(30, some 0)]) rfl (by kernel_rfl)
    · intro ρ W ⟨p1, p2, p3⟩ hG hF K hK; (try simp [FactsD] at hF); have ⟨hc, hf, hz⟩ := bcell (Gr.tr (Gr.drew _) hG); go_simp; exact hK _ (gives_call (rempty_any _ _ _))
    apply chain_eq (D := [(31, some 0)]) rfl (by kernel_rfl)
    · intro ρ W ⟨p1, p2, p3⟩ hG hF K hK; (try simp [FactsD] at hF); have ⟨hc, hf, hz⟩ := bcell (Gr.tr (Gr.drew _) hG); go_simp; exact hK _ (gives_val)
    refine chain_done ?_
    intro vs W hG hV
    obtain ⟨e6, -⟩ := hV
    simp only [Nat.reduceSub] at e6
    simp only [lay, Act.put, List.getElem?_toArray, List.getElem?_cons_succ, List.getElem?_cons_zero, Option.bind_some, List.setIfInBounds_toArray, List.set_cons_succ, List.set_cons_zero]
    generalize vs 0 = v0
    generalize vs 1 = v1
    generalize vs 2 = v2
    generalize vs 3 = v3
    generalize vs 4 = v4
    generalize vs 5 = v5
    generalize vs 6 = v6 at *
    subst e6
    obtain ⟨hc, hf, hz⟩ := bcell hG
    have C8 := (H8.out.grow hG).facts
    have CP := (HP5.out.grow hG).facts
    have CT := (HT5.out.grow hG).facts
    simp only [CellsFrom, Nat.zero_add, Nat.reduceAdd, and_true] at C8 CP CT
    have HW6 := Lib.hid (bgr HW5.out HW5.out.size hG)
    have HG6 := Lib.hid hG
    clear hc hf hz hG
    go_wp2_with fail
    refine (HLV.out _).mono ?_
    rintro e w6 ⟨rfl, hb6⟩
    go_wp2
    go_ret2
    exact ⟨rfl, bgr HW6.out HW6.out.size hb6⟩
  · intro vs bs W hG hV hdj
    obtain ⟨e8, -, e6, e5, -⟩ := hV
    simp only [Nat.reduceSub, Nat.reduceEqDiff, if_false] at e5
    simp only [Nat.reduceSub, Nat.reduceEqDiff, if_false] at e6
    simp only [Nat.reduceSub, Nat.reduceEqDiff, if_false] at e8
    clear hdj
    refine wpOp_two rfl rfl ?_
    simp only [layL, Nat.reduceEqDiff, if_false, if_true, Act.put, List.getElem?_toArray, List.getElem?_cons_succ, List.getElem?_cons_zero, Option.bind_some, List.setIfInBounds_toArray, List.set_cons_succ, List.set_cons_zero, List.drop_succ_cons, List.drop_zero]
    generalize vs 0 = v0
    generalize vs 1 = v1
    generalize vs 2 = v2
    generalize vs 3 = v3
    generalize vs 4 = v4
    generalize vs 5 = v5 at *
    generalize vs 6 = v6 at *
    generalize vs 8 = v8 at *
    subst e5
    subst e6
    obtain ⟨hc, hf, hz⟩ := bcell hG
    obtain ⟨⟨b8, rfl, hb8, hb8', hB8⟩, hb8n⟩ := e8
    have hl0 : w.heap.size < b8 := by omega
    have m0 := Nat.ne_of_lt hl0
    have m1 := (Nat.ne_of_lt hl0).symm
    have hgW : Gr (w.alloc (.cells #[.int .i64 p.fl, .int .i64 p.fh, .int .i64 p.bl, .int .i64 p.bh, .int .i64 p.ti, .int .i64 p.ne, .int .i64 p.fa, .slice (some ⟨b, o, none⟩) len cap] 26)) W := hG
    have P0 := ((Box.fresh w [.int .i64 p.fl, .int .i64 p.fh, .int .i64 p.bl, .int .i64 p.bh, .int .i64 p.ti, .int .i64 p.ne, .int .i64 p.fa, .slice (some ⟨b, o, none⟩) len cap] 26).grow hgW).facts
    simp only [CellsFrom, Nat.zero_add, Nat.reduceAdd, and_true] at P0
    obtain ⟨y0_, y1_, yf0, yf1, yl⟩ := hB8.two
    have HGW := Lib.hid hgW
    have HB8 := Lib.hid hB8
    clear hB8 hb8 hb8' hb8n hgW hG hc hf hz
    have X := CellsFrom.nine (HX0.out.grow hb ((Gr.alloc _ _).tr HGW.out))
    simp only at X
    have hne8 : ¬ b = b8 := by omega
    have hne8' : ¬ b8 = b := by omega
    have hbW : b < W.heap.size := Nat.lt_of_lt_of_le hb (Nat.le_trans (Nat.le_succ _) (by have := HGW.out.size; simpa using this))
    go_wp2_with fail
    have h8 : Box (((W.setCell ⟨b8, 0, none⟩ (.int .i64 x)).setCell ⟨b8, 1, none⟩ (.int .i64 y)).alloc (.cells #[.int .i64 xa, .int .i64 xb, .int .i64 xc, .int .i64 xd, .int .i64 xe, .int .i64 xf, .int .i64 xg, .int .i64 xh, .int .i64 xz] 47)) b8 [.int .i64 x, .int .i64 y] 23 := ((HB8.out.put 0 _).put 1 _).grow (Gr.alloc _ _)
    have hp5 : Box (((W.setCell ⟨b8, 0, none⟩ (.int .i64 x)).setCell ⟨b8, 1, none⟩ (.int .i64 y)).alloc (.cells #[.int .i64 xa, .int .i64 xb, .int .i64 xc, .int .i64 xd, .int .i64 xe, .int .i64 xf, .int .i64 xg, .int .i64 xh, .int .i64 xz] 47)) w.heap.size [.int .i64 p.fl, .int .i64 p.fh, .int .i64 p.bl, .int .i64 p.bh, .int .i64 p.ti, .int .i64 p.ne, .int .i64 p.fa, .slice (some ⟨b, o, none⟩) len cap] 26 := ((((Box.fresh w [.int .i64 p.fl, .int .i64 p.fh, .int .i64 p.bl, .int .i64 p.bh, .int .i64 p.ti, .int .i64 p.ne, .int .i64 p.fa, .slice (some ⟨b, o, none⟩) len cap] 26).grow HGW.out).other m0 _ _).other m0 _ _).grow (Gr.alloc _ _)
    have ht5 : Box (((W.setCell ⟨b8, 0, none⟩ (.int .i64 x)).setCell ⟨b8, 1, none⟩ (.int .i64 y)).alloc (.cells #[.int .i64 xa, .int .i64 xb, .int .i64 xc, .int .i64 xd, .int .i64 xe, .int .i64 xf, .int .i64 xg, .int .i64 xh, .int .i64 xz] 47)) W.heap.size [.int .i64 xa, .int .i64 xb, .int .i64 xc, .int .i64 xd, .int .i64 xe, .int .i64 xf, .int .i64 xg, .int .i64 xh, .int .i64 xz] 47 := by
      have := Box.fresh ((W.setCell ⟨b8, 0, none⟩ (.int .i64 x)).setCell ⟨b8, 1, none⟩ (.int .i64 y)) [.int .i64 xa, .int .i64 xb, .int .i64 xc, .int .i64 xd, .int .i64 xe, .int .i64 xf, .int .i64 xg, .int .i64 xh, .int .i64 xz] 47
      simpa using this
    have hw5 : Below w.heap.size w (((W.setCell ⟨b8, 0, none⟩ (.int .i64 x)).setCell ⟨b8, 1, none⟩ (.int .i64 y)).alloc (.cells #[.int .i64 xa, .int .i64 xb, .int .i64 xc, .int .i64 xd, .int .i64 xe, .int .i64 xf, .int .i64 xg, .int .i64 xh, .int .i64 xz] 47)) := (((show Below w.heap.size w W from (Gr.alloc _ _).tr HGW.out).setCell (by first | (simp; done) | (simp; omega) | omega) _).setCell (by first | (simp; done) | (simp; omega) | omega) _).alloc (by first | (simp; done) | (simp; omega) | omega) _
    clear X hbW y0_ y1_ yf0 yf1 P0 HB8 HGW
    generalize (((W.setCell ⟨b8, 0, none⟩ (.int .i64 x)).setCell ⟨b8, 1, none⟩ (.int .i64 y)).alloc (.cells #[.int .i64 xa, .int .i64 xb, .int .i64 xc, .int .i64 xd, .int .i64 xe, .int .i64 xf, .int .i64 xg, .int .i64 xh, .int .i64 xz] 47)) = W5 at *
    generalize W.heap.size = bt at *
    have C8 := h8.facts
    have CP := hp5.facts
    have CT := ht5.facts
    simp only [CellsFrom, Nat.zero_add, Nat.reduceAdd, and_true] at C8 CP CT
    have H8 := Lib.hid h8
    have HP5 := Lib.hid hp5
    have HT5 := Lib.hid ht5
    have HW5 := Lib.hid hw5
    clear h8 hp5 ht5 hw5
    refine region2 7 ?_ ?_ ?_
    · kernel_rfl
    · kernel_rfl
    simp only [List.take_succ_cons, List.take_zero, List.drop_succ_cons, List.drop_zero]
    apply chain_eq (D := [(6, none)]) rfl (by kernel_rfl)
    · intro ρ W ⟨p1, p2, p3⟩ hG hF K hK; (try simp [FactsD] at hF); have ⟨hc, hf, hz⟩ := bcell (Gr.tr (Gr.drew _) hG); go_simp; exact hK _ (gives_val)
    apply chain_eq (D := [(2, none)]) rfl (by kernel_rfl)
    · intro ρ W ⟨p1, p2, p3⟩ hG hF K hK; (try simp [FactsD] at hF); have ⟨hc, hf, hz⟩ := bcell (Gr.tr (Gr.drew _) hG); go_simp; exact hK _ (gives_val)
    apply chain_eq (D := [(8, none)]) rfl (by kernel_rfl)
    · intro ρ W ⟨p1, p2, p3⟩ hG hF K hK; (try simp [FactsD] at hF); have ⟨hc, hf, hz⟩ := bcell (Gr.tr (Gr.drew _) hG); go_simp; exact hK _ (gives_val)
    apply chain_eq (D := [(27, some 1), (28, some 0)]) rfl (by kernel_rfl)
    · intro ρ W ⟨p1, p2, p3⟩ hG hF K hK; (try simp [FactsD] at hF); have ⟨hc, hf, hz⟩ := bcell (Gr.tr (Gr.drew _) hG); go_simp; exact hK _ (gives_call (HPT.out _ _))
    apply chain_eq (D := [(26, some 3), (29, some 0)]) rfl (by kernel_rfl)
    · intro ρ W ⟨p1, p2, p3⟩ hG hF K hK; (try simp [FactsD] at hF); have ⟨hc, hf, hz⟩ := bcell (Gr.tr (Gr.drew _) hG); go_simp; exact hK _ (gives_call (HC.out _))
    apply chain_eq (D := [(30, some 0)]) rfl (by kernel_rfl)
    · intro ρ W ⟨p1, p2, p3⟩ hG hF K hK; (try simp [FactsD] at hF); have ⟨hc, hf, hz⟩ := bcell (Gr.tr (Gr.drew _) hG); go_simp; exact hK _ (gives_call (rempty_any _ _ _))
    apply chain_eq (D := [(31, some 0)]) rfl (by kernel_rfl)
    · intro ρ W ⟨p1, p2, p3⟩ hG hF K hK; (try simp [FactsD] at hF); have ⟨hc, hf, hz⟩ := bcell (Gr.tr (Gr.drew _) hG); go_simp; exact hK _ (gives_val)
    refine chain_done ?_
    intro vs W hG hV
    obtain ⟨e6, -⟩ := hV
    simp only [Nat.reduceSub] at e6
    simp only [lay, Act.put, List.getElem?_toArray, List.getElem?_cons_succ, List.getElem?_cons_zero, Option.bind_some, List.setIfInBounds_toArray, List.set_cons_succ, List.set_cons_zero]
    generalize vs 0 = v0
    generalize vs 1 = v1
    generalize vs 2 = v2
    generalize vs 3 = v3
    generalize vs 4 = v4
    generalize vs 5 = v5
    generalize vs 6 = v6 at *
    subst e6
    obtain ⟨hc, hf, hz⟩ := bcell hG
    have C8 := (H8.out.grow hG).facts
    have CP := (HP5.out.grow hG).facts
    have CT := (HT5.out.grow hG).facts
    simp only [CellsFrom, Nat.zero_add, Nat.reduceAdd, and_true] at C8 CP CT
    have HW6 := Lib.hid (bgr HW5.out HW5.out.size hG)
    have HG6 := Lib.hid hG
    clear hc hf hz hG
    go_wp2_with fail
    refine (HLV.out _).mono ?_
    rintro e w6 ⟨rfl, hb6⟩
    go_wp2
    go_ret2
    exact ⟨rfl, bgr HW6.out HW6.out.size hb6⟩

end Go.Proofs.Ytofdoadpaedogaa
