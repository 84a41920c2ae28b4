import Derived.Test.YtofdoadpaedogaaT21
import Derived.RangeFuncNested
import Derived.RangeFuncBound
import Derived.RangeFuncCalls
import Derived.RangeFuncLeaves
import Derived.Shelf.Abstract
import Derived.Shelf.RegionOpen
import Derived.OwnWalkIn
import Derived.TacticsInMore
import Derived.LoopNIn
import Derived.WalkMore
import Derived.LoopIn
namespace Go.Proofs.Ytofdoadpaedogaa
open Go.RowKit Go.Shelf
attribute [local go_sem] Oper.semAt_some


def TriesPost (pl : List Value) (plo phi : Int) (w : World) (e : Ending) (w' : World) : Prop := ∃ p q, e = .returned (.func (.func 97) #[] #[.pointer (some ⟨p, 0, none⟩), .pointer (some ⟨q, 0, none⟩)]) ∧ Box w' p [.int .i64 plo, .int .i64 phi] 23 ∧ Box w' q pl 70 ∧ w.heap.size ≤ p ∧ w.heap.size ≤ q ∧ Below w.heap.size w w'
set_option maxHeartbeats 800000 in
theorem tries_ok (fl fh bl bh ti ne fa : Int) (th sv : Value) (plo phi : Int) (w : World) (h : plo ≤ phi) :
    Calls Try.prog 81 #[.agg #[.int .i64 fl, .int .i64 fh, .int .i64 bl, .int .i64 bh, .int .i64 ti, .int .i64 ne, .int .i64 fa, th, sv, .int .i64 plo, .int .i64 phi]] w (TriesPost [.int .i64 fl, .int .i64 fh, .int .i64 bl, .int .i64 bh, .int .i64 ti, .int .i64 ne, .int .i64 fa, th, sv, .int .i64 plo, .int .i64 phi] plo phi w) := by
  have hmf : ∀ (fn : Fn) (first cap : Array Value) (w : World), (Instr.makeFunc fn first cap).run Try.prog w = .ok (.func fn first cap) w := fun _ _ _ _ => rfl
  have hal := @cal
  go_enter Try.func81, Try.ntmps81
  go_wp2_with (go_at_call 48; refine (truths_ok _ _ _ _ _ _ _ _ _ _ _ _ h).mono ?_; rintro e w1 ⟨rfl, hb1⟩; obtain ⟨hc1, hf1, hz1⟩ := bcell hb1)
  go_ret
  have hs1 : w.heap.size < w1.heap.size := hz1 _ (by simp)
  refine ⟨_, _, rfl, ?_, ?_, ?_, ?_, ?_⟩
  · exact Box.fresh w1 [.int .i64 plo, .int .i64 phi] 23
  · exact ((Box.fresh w [.int .i64 fl, .int .i64 fh, .int .i64 bl, .int .i64 bh, .int .i64 ti, .int .i64 ne, .int .i64 fa, th, sv, .int .i64 plo, .int .i64 phi] 70).grow hb1).grow (Gr.alloc _ _)
  · have := hb1.size; simp at this; omega
  · exact Nat.le_refl _
  · exact ((bgr ((Below.refl _ _).alloc (by first | (simp; done) | (simp; omega) | omega) _) (by first | (simp; done) | (simp; omega) | omega) hb1).alloc (by first | (simp; done) | (simp; omega) | omega) _)
set_option maxHeartbeats 800000 in
theorem tries_no (fl fh bl bh ti ne fa : Int) (th sv : Value) (plo phi : Int) (w : World) (h : phi < plo) :
    Calls Try.prog 81 #[.agg #[.int .i64 fl, .int .i64 fh, .int .i64 bl, .int .i64 bh, .int .i64 ti, .int .i64 ne, .int .i64 fa, th, sv, .int .i64 plo, .int .i64 phi]] w fun e w' => e = .panicked [{ v := .iface 28 (.int .i64 4), recovered := false }] ∧ Below w.heap.size w w' := by
  have hal := @cal
  go_enter Try.func81, Try.ntmps81
  go_wp2_with (go_at_call 48; refine (truths_no _ _ _ _ _ _ _ _ _ _ _ _ h).mono ?_; rintro e w1 ⟨rfl, hb1⟩)
  exact ⟨rfl, rfl, (bgr ((Below.refl _ _).alloc (by first | (simp; done) | (simp; omega) | omega) _) (by first | (simp; done) | (simp; omega) | omega) hb1)⟩

/-- The ends of the powers with which a thing stands still. -/
def tryOf (plo phi : Int) (s : Sg) : List Int := if (ovl (plo, phi) s.spw).1 ≤ (ovl (plo, phi) s.spw).2 then [(ovl (plo, phi) s.spw).1, (ovl (plo, phi) s.spw).2] else []
def triesList (plo phi : Int) (l : List Sg) : List Int := [plo, phi] ++ l.flatMap (tryOf plo phi)
/-- All blocks of cells but one lie as they lay. -/
def KeepBut (q : Nat) (W W' : World) : Prop := W.heap.size ≤ W'.heap.size ∧ ∀ k o, k ≠ q → W.heap[k]? = some o → o.isCells = true → W'.heap[k]? = some o
theorem KeepBut.trans {q : Nat} {A B C : World} (h : KeepBut q A B) (k : KeepBut q B C) : KeepBut q A C := ⟨Nat.le_trans h.1 k.1, fun i o hq hi hc => k.2 i o hq (h.2 i o hq hi hc) hc⟩
theorem KeepBut.of {q : Nat} {A B : World} (h : Gr A B) : KeepBut q A B := ⟨h.size, fun i _o _ hi _ => (h.block i (Array.getElem?_eq_some_iff.1 hi).1).trans hi⟩
theorem KeepBut.box {q : Nat} {A B : World} (h : KeepBut q A B) {b : Nat} {vs : List Value} {T : TypeId} (hb : Box A b vs T) (hq : b ≠ q) : Box B b vs T := h.2 b _ hq hb rfl
theorem KeepBut.cell {q : Nat} {A B : World} (h : KeepBut q A B) {b i : Nat} {x : Value} (hq : b ≠ q) (hc : A.cell? ⟨b, i, none⟩ = some x) : B.cell? ⟨b, i, none⟩ = some x := by
  obtain ⟨o, ho, hk⟩ := cells_of_cell hc
  have := h.2 b o hq ho hk
  rw [World.cell?_of_block (w := A) (this.trans ho.symm)]; exact hc
theorem KeepBut.seen {q : Nat} {A B : World} (h : KeepBut q A B) {l : List Sg} {v : Value} {A0 : World} (hq : A0.heap.size ≤ q) (h0 : SeenAt l v A0) (hg : Gr A0 A) : SeenAt l v B := by
  rcases h0 with h0 | ⟨b, o, cap, h1, h2, h3, h4⟩
  · exact .inl h0
  · have h5 := hg.size
    have h6 := h.1
    refine .inr ⟨b, o, cap, h1, by omega, h3, fun i s hi => ?_⟩
    have ⟨x1, x2, x3, x4⟩ := h4 i s hi
    have e : ∀ {i x}, A0.cell? ⟨b, i, none⟩ = some x → B.cell? ⟨b, i, none⟩ = some x := fun hx => h.cell (by omega) (((bcell hg).1 _ _ h2).trans hx)
    exact ⟨e x1, e x2, e x3, e x4⟩
set_option maxRecDepth 100000 in
set_option maxHeartbeats 2000000 in
theorem tries1_any (fl fh bl bh ti ne fa : Int) (th sv : Value) (plo phi : Int) (l : List Sg) (q bp bl2 : Nat) (y : Nat) (J Jx : List Int → World → Prop) (W : World)
    (hAJ : ∀ s A B, J s A → Gr A B → J s B) (_hAX : ∀ s A B, Jx s A → Gr A B → Jx s B)
    (hY : ∀ pre x W, J pre W → pre.length < 1000 → YieldAt Fence.wide 7 Try.prog y #[.int .i64 x] W fun e W' =>
      (e = .returned (.bool true) ∧ J (pre ++ [x]) W' ∧ KeepBut q W W') ∨ (e = .returned (.bool false) ∧ Jx (pre ++ [x]) W'))
    (hbp : Box W bp [.int .i64 plo, .int .i64 phi] 23) (hbl : Box W bl2 [.int .i64 fl, .int .i64 fh, .int .i64 bl, .int .i64 bh, .int .i64 ti, .int .i64 ne, .int .i64 fa, th, sv, .int .i64 plo, .int .i64 phi] 70) (hp2 : bp ≠ q) (hl2 : bl2 ≠ q) (hq : q < W.heap.size)
    (hS : ∀ W', KeepBut q W W' → SeenAt l sv W') (hlen : l.length ≤ 12) (hok : ∀ s ∈ l, s.ok) (h0 : J [] W) :
    CallsIn Fence.wide 8 Try.prog 97 #[.func (.yield y) #[] #[], .pointer (some ⟨bp, 0, none⟩), .pointer (some ⟨bl2, 0, none⟩)] W fun e W' => (∃ v, e = .returned v) ∧
      ((∃ ys, ys = triesList plo phi l ∧ J ys W') ∨ (∃ pre, True ∧ Jx pre W')) := by
  refine callsIn_of_wp Try.func97 rfl trivial ?_ rfl
  simp only [Try.ntmps97, List.size_toArray, List.length_cons, List.length_nil, Nat.reduceAdd, Nat.reduceSub, Array.replicate_succ, Array.replicate_zero, List.push_toArray, List.append_toArray, List.nil_append, List.cons_append]
  have hp := hbp.two
  obtain ⟨hp10, hp11, -, -, -⟩ := hp
  obtain ⟨fn1, t1, a1, b1, hy1, hR1⟩ := hY [] plo W h0 (by simp)
  refine wpIn_wide.2 (wp_scope_straight ((wpIn_wide (n := 8)).1 ?_))
  gi_wp2
  refine hR1.mono ?_
  rintro e W1 (⟨rfl, hJ1, hk1⟩ | ⟨rfl, hx1⟩)
  · have hp := (hk1.box hbp hp2).two
    obtain ⟨hp20, hp21, -, -, -⟩ := hp
    obtain ⟨fn2, t2, a2, b2, hy2, hR2⟩ := hY _ phi W1 hJ1 (by simp)
    gi_wp2
    refine hR2.mono ?_
    rintro e W2 (⟨rfl, hJ2, hk2⟩ | ⟨rfl, hx2⟩)
    · have hbL := (hk1.trans hk2).box hbl hl2
      have hbc : W2.cell? ⟨bl2, 8, none⟩ = some sv := hbL.cell rfl
      obtain ⟨sp, cap, rfl, hlen1⟩ := (hS _ (hk1.trans hk2)).len
      gi_wp2
      apply wpIn_label
      gi_wp2
      gi_loopw [24] (fun i wr => ∃ k : Nat, k ≤ l.length ∧ i = .int .i64 k ∧ J (([plo, phi] : List Int) ++ (l.take k).flatMap (tryOf plo phi)) wr ∧ KeepBut q W wr) (fun i _ => l.length - (intOf i).toNat)
      case atStart => exact ⟨0, Nat.zero_le _, rfl, by simpa using hJ2, hk1.trans hk2⟩
      case round =>
        obtain ⟨k, hk, rfl, hJ, hKB⟩ := hrel
        have HJ := Lib.hid hJ
        have HKB := Lib.hid hKB
        clear hJ hKB hJ1 hJ2 hk1 hk2 hy1 hy2 hR1 hR2 hbc hp10 hp11 hp20 hp21 h0
        by_cases hlt : k < l.length
        · rcases hS _ HKB.out with ⟨e, -⟩ | ⟨b, o, cap', hsp, hb, hlen', hc⟩
          · rw [e] at hlt; simp at hlt
          obtain ⟨s, hs⟩ : ∃ s, l[k]? = some s := ⟨l[k], List.getElem?_eq_getElem hlt⟩
          have X := hc k s hs
          have hoks : s.ok := hok s (List.mem_of_getElem? hs)
          obtain ⟨hsp1, -, -⟩ : sp = some ⟨b, o, none⟩ ∧ l.length = l.length ∧ cap = cap' := by simpa using hsp
          subst hsp1
          have hbl1 := (HKB.out.box hbp hp2).two
          obtain ⟨pc0, pc1, -, -, pcl⟩ := hbl1
          have hjn : ((([plo, phi] : List Int) ++ (l.take (k + 1)).flatMap (tryOf plo phi))) = ((([plo, phi] : List Int) ++ (l.take k).flatMap (tryOf plo phi))) ++ tryOf plo phi s := by
            rw [List.take_succ_eq_append_getElem hlt, List.flatMap_append]
            have : l[k] = s := by rw [List.getElem?_eq_getElem hlt] at hs; exact Option.some.inj hs
            simp [this]
          have HJN := Lib.hid hjn
          have hln : ((([plo, phi] : List Int) ++ (l.take k).flatMap (tryOf plo phi))).length ≤ 26 := by
            have : ∀ m : List Sg, (m.flatMap (tryOf plo phi)).length ≤ 2 * m.length := fun m => by
              induction m with
              | nil => simp
              | cons a m ih =>
                rw [List.flatMap_cons, List.length_append, List.length_cons]
                have : (tryOf plo phi a).length ≤ 2 := by unfold tryOf; split <;> simp
                omega
            have h1 := this (l.take k)
            have h2 := List.length_take_le k l
            simp only [List.length_append, List.length_cons, List.length_nil]
            omega
          have HLN := Lib.hid hln
          have htr : tryOf plo phi s = if (ovl (plo, phi) s.spw).1 ≤ (ovl (plo, phi) s.spw).2 then [(ovl (plo, phi) s.spw).1, (ovl (plo, phi) s.spw).2] else [] := rfl
          have HTR := Lib.hid htr
          clear hjn hln htr
          generalize tryOf plo phi s = tl at *
          generalize ([plo, phi] : List Int) ++ (l.take k).flatMap (tryOf plo phi) = pre0 at *
          have hsw := fun W => steadyPower_any s hoks W
          obtain ⟨pw, hpw⟩ : ∃ pw, s.spw = pw := ⟨_, rfl⟩
          simp only [hpw] at hsw
          have htr2 := HTR.out
          simp only [hpw] at htr2
          clear HTR
          have HTR := Lib.hid htr2
          clear htr2 hpw
          unfold Sg.val at hsw
          obtain ⟨wit, lo, hi, sl⟩ := s
          obtain ⟨wt, wx, hwv⟩ := wit.iface
          simp only [hwv] at X hsw
          obtain ⟨p0, p1⟩ := pw
          have HSW := Lib.hid hsw
          clear hsw hwv hs hoks hc hsp
          have hk12 : k < 12 := by omega
          gi_wp2
          refine wpIn_wide.2 ?_
          refine region2 6 ?_ ?_ ?_
          · kernel_rfl
          · kernel_rfl
          simp only [List.take_succ_cons, List.take_zero, List.drop_succ_cons, List.drop_zero]
          apply chain_eq (D := [(1, none)]) rfl (by kernel_rfl)
          · intro ρ W ⟨p1, p2, p3⟩ hG hF K hK; (try simp [FactsD] at hF); have ⟨hc, hf, hz⟩ := bcell (Gr.tr (Gr.drew _) hG); go_simp; exact hK _ (gives_val)
          apply chain_eq (D := [(5, none)]) rfl (by kernel_rfl)
          · intro ρ W ⟨p1, p2, p3⟩ hG hF K hK; (try simp [FactsD] at hF); have ⟨hc, hf, hz⟩ := bcell (Gr.tr (Gr.drew _) hG); go_simp; exact hK _ (gives_val)
          apply chain_eq (D := [(29, some 0)]) rfl (by kernel_rfl)
          · intro ρ W ⟨p1, p2, p3⟩ hG hF K hK; (try simp [FactsD] at hF); have ⟨hc, hf, hz⟩ := bcell (Gr.tr (Gr.drew _) hG); go_simp; exact hK _ (gives_call (HSW.out _))
          refine chain_any (V := SpansAt [(p0, p1)]) (D := [(30, some 0)]) rfl (by kernel_rfl) (SpansAt.lasts _) ?_ ?_
          · intro ρ W ⟨p1, p2, p3⟩ hG hF K hK; (try simp [FactsD] at hF); have ⟨hc, hf, hz⟩ := bcell (Gr.tr (Gr.drew _) hG); go_simp; exact hK _ (⟨SpansAt.one _ _ _ _, Gr.alloc _ _⟩)
          apply chain_eq (D := [(28, some 3), (31, some 0)]) rfl (by kernel_rfl)
          · intro ρ W ⟨p1, p2, p3⟩ hG hF K hK; (try simp [FactsD] at hF); have ⟨hc, hf, hz⟩ := bcell (Gr.tr (Gr.drew _) hG); obtain ⟨hF1, hF2⟩ := hF; go_simp; exact hK _ (gives_call (overlap_any _ _ _ _ _ hF2))
          refine chain_any (V := FreshAt wr.heap.size [.int .i64 0, .int .i64 0] 23) (D := []) rfl (by kernel_rfl) (FreshAt.lasts _ _ _) ?_ ?_
          · intro ρ W ⟨p1, p2, p3⟩ hG hF K hK; (try simp [FactsD] at hF); have ⟨hc, hf, hz⟩ := bcell (Gr.tr (Gr.drew _) hG); go_simp; exact hK _ (⟨FreshAt.new (by have := hG.size; simp at this; omega) _ _, Gr.alloc _ _⟩)
          refine chain_done ?_
          intro vs W hG hV
          obtain ⟨e5, e4, -⟩ := hV
          simp only [Nat.reduceSub] at e4
          simp only [Nat.reduceSub] at e5
          simp only [lay, Act.put, List.getElem?_toArray, List.getElem?_cons_succ, List.getElem?_cons_zero, Option.bind_some, List.setIfInBounds_toArray, List.set_cons_succ, List.set_cons_zero]
          generalize vs 0 = v0
          generalize vs 1 = v1
          generalize vs 2 = v2
          generalize vs 3 = v3
          generalize vs 4 = v4 at *
          generalize vs 5 = v5 at *
          subst e4
          obtain ⟨hc, hf, hz⟩ := bcell hG
          obtain ⟨bq, rfl, hbq, hB5⟩ := e5
          have hB2 := hB5.two
          obtain ⟨bc0, bc1, bf0, bf1, bl5⟩ := hB2
          have HGr := Lib.hid (show Gr wr W from (Gr.alloc _ _).tr hG)
          have HB5 := Lib.hid hB5
          clear hG hB5 hc hf hz
          simp only [List.foldl_cons, List.foldl_nil]
          obtain ⟨m, hm⟩ : ∃ m, ovl (plo, phi) (p0, p1) = m := ⟨_, rfl⟩
          have htr2 := HTR.out
          simp only [hm] at htr2 ⊢
          clear HTR
          have HTR := Lib.hid htr2
          clear htr2 hm
          obtain ⟨m0, m1⟩ := m
          go_wp2
          have hBn : Box ((W.setCell ⟨bq, 0, none⟩ (.int .i64 m0)).setCell ⟨bq, 1, none⟩ (.int .i64 m1)) bq [.int .i64 m0, .int .i64 m1] 23 := (HB5.out.put 0 _).put 1 _
          have hGn : Gr wr ((W.setCell ⟨bq, 0, none⟩ (.int .i64 m0)).setCell ⟨bq, 1, none⟩ (.int .i64 m1)) := (HGr.out.setCell (by simpa using hbq) _).setCell (by simpa using hbq) _
          generalize (W.setCell ⟨bq, 0, none⟩ (.int .i64 m0)).setCell ⟨bq, 1, none⟩ (.int .i64 m1) = Wn at *
          obtain ⟨n0, n1, nf0, nf1, nl5⟩ := hBn.two
          have HBN := Lib.hid hBn
          have hJn := hAJ _ _ _ HJ.out hGn
          have hKn := HKB.out.trans (KeepBut.of hGn)
          have HJn := Lib.hid hJn
          have HKn := Lib.hid hKn
          have HGn := Lib.hid hGn
          have hszn := hGn.size
          have hqn : Wn.heap.size ≠ q := by have := HKn.out.1; omega
          have hqb : bq ≠ q := by have := HKB.out.1; omega
          clear hBn hJn hKn hGn HJ HKB HGr HB5 bc0 bc1 bf0 bf1 bl5 pc0 pc1 pcl X
          gi_wp2
          refine wpIn_loop_rounds 3 ?_
          rw [roundsIn_succ]
          have hSl := Box.fresh Wn [.int .i64 m0, .int .i64 m1] 3
          have HSl := Lib.hid hSl
          have hBs := HBN.out.grow (Gr.alloc Wn (.cells #[.int .i64 m0, .int .i64 m1] 3))
          have HBs := Lib.hid hBs
          have hJs := hAJ _ _ _ HJn.out (Gr.alloc Wn (.cells #[.int .i64 m0, .int .i64 m1] 3))
          have HJs := Lib.hid hJs
          have hKs := HKn.out.trans (KeepBut.of (Gr.alloc Wn (.cells #[.int .i64 m0, .int .i64 m1] 3)))
          have HKs := Lib.hid hKs
          clear hSl hBs hJs hKs
          by_cases hle : m0 ≤ m1
          · have hd : decide (m0 ≤ m1) = true := by simpa using hle
            have ht := HTR.out
            rw [if_pos hle] at ht
            have hjn := HJN.out
            rw [ht] at hjn
            have HJN2 := Lib.hid hjn
            clear hjn ht HTR HJN
            gi_wp2_with (refine ⟨trivial, ?_⟩; gi_at_call 52; refine (callsIn_wide.2 (inside_any _ _ _ _)).mono ?_; rintro e w1 ⟨rfl, hb1⟩; have HB1 := Lib.hid (show Gr _ _ from hb1); obtain ⟨fn3, t3, a3, b3, hy3, hR3⟩ := hY pre0 m0 w1 (hAJ _ _ _ HJs.out hb1) (by have := HLN.out; omega); clear hb1)
            refine hR3.mono ?_
            rintro e W3 (⟨rfl, hJ3, hk3⟩ | ⟨rfl, hx3⟩)
            · have HJ3 := Lib.hid hJ3
              have HK3 := Lib.hid (HKs.out.trans ((KeepBut.of HB1.out).trans hk3))
              have HS3 := Lib.hid (hk3.box (HSl.out.grow HB1.out) hqn)
              have HB3 := Lib.hid (hk3.box (HBs.out.grow HB1.out) hqb)
              have hwn : Wn.heap.size < W3.heap.size := HS3.out.lt
              obtain ⟨s0, s1, -, -, -⟩ := HS3.out.two
              obtain ⟨q0, q1, -, -, -⟩ := HB3.out.two
              clear n0 n1 nf0 nf1 nl5 hy3 hR3 hk3 hJ3
              gi_wp2
              rw [roundsIn_succ]
              gi_wp2_with (refine ⟨trivial, ?_⟩; gi_at_call 52; refine (callsIn_wide.2 (inside_any _ _ _ _)).mono ?_; rintro e w4 ⟨rfl, hb4⟩; have HB4 := Lib.hid (show Gr _ _ from hb4); obtain ⟨fn4, t4, a4, b4, hy4, hR4⟩ := hY (pre0 ++ [m0]) m1 w4 (hAJ _ _ _ HJ3.out hb4) (by have := HLN.out; simp; omega); clear hb4)
              refine hR4.mono ?_
              rintro e W5 (⟨rfl, hJ5, hk5⟩ | ⟨rfl, hx5⟩)
              · have HJ5 := Lib.hid hJ5
                have HK5 := Lib.hid (HK3.out.trans ((KeepBut.of HB4.out).trans hk5))
                clear hy4 hR4 hk5 hJ5 s0 s1 q0 q1
                gi_wp2
                rw [roundsIn_succ]
                gi_wp2
                refine ⟨⟨k + 1, by omega, by go_num, ?_, HK5.out⟩, by simp [intOf]; omega⟩
                rw [HJN2.out]
                simpa using HJ5.out
              · gi_wp2
                rw [Exit.noGoto_ret]
                refine bodyPost_ret (results_none rfl _ _ _) rfl ?_
                exact ⟨⟨_, rfl⟩, .inr ⟨_, trivial, hx5⟩⟩
            · gi_wp2
              rw [Exit.noGoto_ret]
              refine bodyPost_ret (results_none rfl _ _ _) rfl ?_
              exact ⟨⟨_, rfl⟩, .inr ⟨_, trivial, hx3⟩⟩
          · have hd : decide (m0 ≤ m1) = false := by simpa using hle
            have ht := HTR.out
            rw [if_neg hle] at ht
            have hjn := HJN.out
            rw [ht] at hjn
            have HJN2 := Lib.hid hjn
            clear hjn ht HTR HJN
            gi_wp2_with (refine ⟨trivial, ?_⟩; gi_at_call 52; refine (callsIn_wide.2 (inside_any _ _ _ _)).mono ?_; rintro e w1 ⟨rfl, hb1⟩)
            refine ⟨⟨k + 1, by omega, by go_num, ?_, HKs.out.trans (KeepBut.of hb1)⟩, by simp [intOf]; omega⟩
            rw [HJN2.out]
            simpa using hAJ _ _ _ HJs.out hb1
        · have hkl : k = l.length := by omega
          subst hkl
          gi_wp2
          rw [Exit.noGoto_normal]
          go_end0
          exact ⟨⟨_, rfl⟩, .inl ⟨_, rfl, by simpa [triesList] using HJ.out⟩⟩
    · gi_wp2
      rw [Exit.noGoto_ret]
      refine bodyPost_ret (results_none rfl _ _ _) rfl ?_
      exact ⟨⟨_, rfl⟩, .inr ⟨_, trivial, hx2⟩⟩
  · gi_wp2
    refine ⟨fun _ h => (by cases h), ?_⟩
    gi_wp2
    rw [Exit.noGoto_ret]
    refine bodyPost_ret (results_none rfl _ _ _) rfl ?_
    exact ⟨⟨_, rfl⟩, .inr ⟨_, trivial, hx1⟩⟩
theorem tries_stops (fl fh bl bh ti ne fa : Int) (th sv : Value) (plo phi : Int) (l : List Sg) (q bp bl2 : Nat) (w A0 : World) (hbp : Box w bp [.int .i64 plo, .int .i64 phi] 23) (hbl : Box w bl2 [.int .i64 fl, .int .i64 fh, .int .i64 bl, .int .i64 bh, .int .i64 ti, .int .i64 ne, .int .i64 fa, th, sv, .int .i64 plo, .int .i64 phi] 70) (hp2 : bp ≠ q) (hl2 : bl2 ≠ q) (hq : q < w.heap.size)
    (hs : SeenAt l sv A0) (hA : A0.heap.size ≤ q) (hg : Gr A0 w) (hlen : l.length ≤ 12) (hok : ∀ s ∈ l, s.ok) :
    SeqStopsK Fence.wide 8 Try.prog 97 #[.pointer (some ⟨bp, 0, none⟩), .pointer (some ⟨bl2, 0, none⟩)] (fun x : Int => #[Value.int .i64 x]) (KeepBut q) (fun ys => ys = triesList plo phi l) (fun _ => True) 1000 w := fun y J Jx W hW hAJ hAX hY h0 =>
  tries1_any fl fh bl bh ti ne fa th sv plo phi l q bp bl2 y J Jx W (fun s A B h hg => hAJ s A B none h (Gr.grown hg) (fun r e => by cases e)) (fun s A B h hg => hAX s A B none h (Gr.grown hg) (fun r e => by cases e)) hY
    (hbp.grow hW) (hbl.grow hW) hp2 hl2 (Nat.lt_of_lt_of_le hq hW.size) (fun W' hk => hk.seen hA hs (hg.tr hW)) hlen hok h0
end Go.Proofs.Ytofdoadpaedogaa
