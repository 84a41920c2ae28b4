import Derived.Test.YtofdoadpaedogaaK3
import Derived.Test.YtofdoadpaedogaaM1
import Derived.OwnWalk
namespace Go.Proofs.Ytofdoadpaedogaa
open Go.RowKit
section
attribute [local go_sem] Oper.semAt_some

theorem ne23 (a b c d : Int) (w : World) : (binOp .neq 23 (.agg #[.int .i64 a, .int .i64 b]) (.agg #[.int .i64 c, .int .i64 d])).run Try.prog w = .ok (.bool (!(a == c && b == d))) w := by
  have hS : Try.prog.underlying 23 = some (.struct (Try.prog.fieldsOf 23)) := by kernel_rfl
  rw [run_neq_struct, run_equalIn_agg _ _ _ _ _ hS (by kernel_rfl)]
  simp only [Program.fieldsOf, Try.underlying23]
  simp [Op.eqFields, go_sem]
  by_cases h1 : a = c <;> by_cases h2 : b = d <;> simp [h1, h2]
theorem neg23 (x y : Operand) (xs ys : Array Value) (w : World) : (eqGuard .neq 23 x y (.agg xs) (.agg ys)).run Try.prog w = .ok () w := run_eqGuard_agg w _ _ _ _ _ _ (by kernel_rfl)
end
theorem ThingsAt.own {w : World} {base : Nat} {v : Value} {l : List Th} {n : Nat} (h : w.ownsRow base 47 9 v n (l.flatMap Th.vals)) (hn : n = l.length) (hl : l.length ≤ 1000) : ThingsAt l v w := by
  subst hn
  have h0 := h
  obtain ⟨_, h1⟩ := h
  rcases h1 with ⟨rfl, hn⟩ | ⟨g, cap, cur, rfl, hg, hb, -, -, -, ht⟩
  · exact ⟨hl, .inl ⟨List.eq_nil_of_length_eq_zero hn, rfl⟩⟩
  · exact ThingsAt.boxp (T := 47) (vs := cur.toList) (show Box w g cur.toList 47 by unfold Box; simpa using hb) hl fun i t j x hi hx => flat_take ht hi hx

theorem and_one_all : (List.range 4096).all (fun d => (bits BinOp.and IntKind.i64 ((d : Nat) : Int) 1 == 0) == (d % 2 == 0)) = true := by decide +kernel
theorem and_one (m k : Nat) (h : m < 4096) (_hk : k < 12) : (bits BinOp.and IntKind.i64 ((m : Int) / 2 ^ k) 1 == 0) = !(m.testBit k) := by
  have ht : m.testBit k = decide (m / 2 ^ k % 2 = 1) := Nat.testBit_eq_decide_div_mod_eq
  have e : (m : Int) / 2 ^ k = ((m / 2 ^ k : Nat) : Int) := by simp
  have hd : m / 2 ^ k < 4096 := Nat.lt_of_le_of_lt (Nat.div_le_self _ _) h
  rw [ht, e]
  generalize m / 2 ^ k = d at *
  have := List.all_eq_true.1 and_one_all d (List.mem_range.2 hd)
  have h2 := eq_of_beq this
  rw [h2]
  rcases Nat.mod_two_eq_zero_or_one d with c | c <;> simp [c]
set_option maxRecDepth 100000 in
set_option maxHeartbeats 4000000 in
theorem without_any (p : Pr) (sp : Option Addr) (len cap m q : Nat) (w : World) (hl : len ≤ 12) (hm : m < 4096) (hlen : p.l.length = len) (hT : ThingsAt p.l (.slice sp len cap) w) (hq : Box w q [.int .i64 p.fl, .int .i64 p.fh, .int .i64 p.bl, .int .i64 p.bh, .int .i64 p.ti, .int .i64 p.ne, .int .i64 p.fa, .slice sp len cap] 26) :
    Calls Try.prog 35 #[.int .i64 m, .pointer (some ⟨q, 0, none⟩)] w fun e w' => (∃ v, e = .returned (.agg #[.int .i64 p.fl, .int .i64 p.fh, .int .i64 p.bl, .int .i64 p.bh, .int .i64 p.ti, .int .i64 p.ne, .int .i64 p.fa, v]) ∧ ThingsAt (p.without m).l v w') ∧ Below w.heap.size w w' := by
  obtain ⟨i0, ii0, iz0, iz1, iz2⟩ := info_parts Try.info47
  have II0 := Lib.hid ii0
  have IZ0 := Lib.hid iz0
  have IZ1 := Lib.hid iz1
  have IZ2 := Lib.hid iz2
  clear ii0 iz0 iz1 iz2
  have HLEN := Lib.hid hlen
  have HTT := Lib.hid hT
  have HQQ := Lib.hid hq
  have hql := hq.lt
  have Q1 := hq.facts
  simp only [CellsFrom, Nat.zero_add, Nat.reduceAdd, and_true] at Q1
  have hal := @cal
  clear hlen hT hq
  go_enter Try.func35, Try.ntmps35
  go_wp2_with fail
  have hg2 : Gr w ((w.alloc (.cells #[.int .i64 0, .int .i64 0, .int .i64 0, .int .i64 0, .int .i64 0, .int .i64 0, .int .i64 0, .slice none 0 0] 26)).alloc (.cells #[.int .i64 p.fl, .int .i64 p.fh, .int .i64 p.bl, .int .i64 p.bh, .int .i64 p.ti, .int .i64 p.ne, .int .i64 p.fa, .slice none 0 0] 26)) := (Gr.alloc _ _).tr (Gr.alloc _ _)
  have hx2 : Box ((w.alloc (.cells #[.int .i64 0, .int .i64 0, .int .i64 0, .int .i64 0, .int .i64 0, .int .i64 0, .int .i64 0, .slice none 0 0] 26)).alloc (.cells #[.int .i64 p.fl, .int .i64 p.fh, .int .i64 p.bl, .int .i64 p.bh, .int .i64 p.ti, .int .i64 p.ne, .int .i64 p.fa, .slice none 0 0] 26)) (w.heap.size + 1) [.int .i64 p.fl, .int .i64 p.fh, .int .i64 p.bl, .int .i64 p.bh, .int .i64 p.ti, .int .i64 p.ne, .int .i64 p.fa, .slice none 0 0] 26 := by
    have := Box.fresh (w.alloc (.cells #[.int .i64 0, .int .i64 0, .int .i64 0, .int .i64 0, .int .i64 0, .int .i64 0, .int .i64 0, .slice none 0 0] 26)) [.int .i64 p.fl, .int .i64 p.fh, .int .i64 p.bl, .int .i64 p.bh, .int .i64 p.ti, .int .i64 p.ne, .int .i64 p.fa, .slice none 0 0] 26
    simpa using this
  have hr2 : Box ((w.alloc (.cells #[.int .i64 0, .int .i64 0, .int .i64 0, .int .i64 0, .int .i64 0, .int .i64 0, .int .i64 0, .slice none 0 0] 26)).alloc (.cells #[.int .i64 p.fl, .int .i64 p.fh, .int .i64 p.bl, .int .i64 p.bh, .int .i64 p.ti, .int .i64 p.ne, .int .i64 p.fa, .slice none 0 0] 26)) w.heap.size [.int .i64 0, .int .i64 0, .int .i64 0, .int .i64 0, .int .i64 0, .int .i64 0, .int .i64 0, .slice none 0 0] 26 := (Box.fresh w [.int .i64 0, .int .i64 0, .int .i64 0, .int .i64 0, .int .i64 0, .int .i64 0, .int .i64 0, .slice none 0 0] 26).grow (Gr.alloc _ _)
  have hs2 : ((w.alloc (.cells #[.int .i64 0, .int .i64 0, .int .i64 0, .int .i64 0, .int .i64 0, .int .i64 0, .int .i64 0, .slice none 0 0] 26)).alloc (.cells #[.int .i64 p.fl, .int .i64 p.fh, .int .i64 p.bl, .int .i64 p.bh, .int .i64 p.ti, .int .i64 p.ne, .int .i64 p.fa, .slice none 0 0] 26)).heap.size = w.heap.size + 2 := by simp
  generalize ((w.alloc (.cells #[.int .i64 0, .int .i64 0, .int .i64 0, .int .i64 0, .int .i64 0, .int .i64 0, .int .i64 0, .slice none 0 0] 26)).alloc (.cells #[.int .i64 p.fl, .int .i64 p.fh, .int .i64 p.bl, .int .i64 p.bh, .int .i64 p.ti, .int .i64 p.ne, .int .i64 p.fa, .slice none 0 0] 26)) = W5 at *
  have HG2 := Lib.hid hg2
  have HX2 := Lib.hid hx2
  have HR2 := Lib.hid hr2
  have HS2 := Lib.hid hs2
  clear hg2 hx2 hr2 hs2 Q1
  go_loopw [12] (fun i wr => ∃ k : Nat, k ≤ len ∧ i = .int .i64 k ∧ Below w.heap.size w wr ∧ w.heap.size + 2 ≤ wr.heap.size ∧ ∃ xv, Box wr (w.heap.size + 1) [.int .i64 p.fl, .int .i64 p.fh, .int .i64 p.bl, .int .i64 p.bh, .int .i64 p.ti, .int .i64 p.ne, .int .i64 p.fa, xv] 26 ∧ Box wr w.heap.size [.int .i64 0, .int .i64 0, .int .i64 0, .int .i64 0, .int .i64 0, .int .i64 0, .int .i64 0, .slice none 0 0] 26 ∧ wr.ownsRow (w.heap.size + 2) 47 9 xv (keepTo m p.l k).length ((keepTo m p.l k).flatMap Th.vals)) (fun i _ => len - (intOf i).toNat)
  case atStart => exact ⟨0, Nat.zero_le _, rfl, HG2.out, by rw [HS2.out]; exact Nat.le_refl _, _, HX2.out, HR2.out, World.ownsRow_nil _ _ _ _⟩
  case round =>
    obtain ⟨k, hk, rfl, hg, hgs, xv, hbx, hbr, hox⟩ := hrel
    obtain ⟨xp, xn, xc, rfl⟩ := own_slice hox
    have HG := Lib.hid hg
    have HKX := Lib.hid hbx
    have HKR := Lib.hid hbr
    have HOX := Lib.hid hox
    have hth := ThingsAt.below HTT.out rfl HG.out
    clear hg hbx hbr hox
    by_cases hlt : k < len
    · obtain ⟨t, htk⟩ : ∃ t, p.l[k]? = some t := ⟨p.l[k]'(by rw [HLEN.out]; exact hlt), List.getElem?_eq_getElem _⟩
      obtain ⟨-, hth⟩ := hth
      rcases hth with ⟨e, -⟩ | ⟨b, o, cap', hsp, hb, hc⟩
      · rw [e] at htk; cases htk
      have X := CellsFrom.nine (hc k t htk)
      obtain ⟨hsp1, -, -⟩ : sp = some ⟨b, o, none⟩ ∧ len = p.l.length ∧ cap = cap' := by simpa using hsp
      subst hsp1
      clear hc hsp
      have hkp : keepTo m p.l (k + 1) = if m.testBit k then keepTo m p.l k else keepTo m p.l k ++ [t] := by simp [keepTo, htk]
      have HKP := Lib.hid hkp
      clear hkp htk
      have hk12 : k < 12 := by omega
      have hpl := keepTo_len (m := m) (l := p.l) k
      generalize keepTo m p.l k = pk at *
      have hone := Lib.hid (Th.one t)
      obtain ⟨xa, xb, xcc, xd, xe, xf, xg, xh, xz⟩ := t
      simp only at X
      have C3 := HKX.out.facts
      simp only [CellsFrom, Nat.zero_add, Nat.reduceAdd, and_true] at C3
      have hbit := and_one m k hm hk12
      have WA := (wr.alloc (.cells #[.int .i64 xa, .int .i64 xb, .int .i64 xcc, .int .i64 xd, .int .i64 xe, .int .i64 xf, .int .i64 xg, .int .i64 xh, .int .i64 xz] 47))
      have g1 : Gr wr (wr.alloc (.cells #[.int .i64 xa, .int .i64 xb, .int .i64 xcc, .int .i64 xd, .int .i64 xe, .int .i64 xf, .int .i64 xg, .int .i64 xh, .int .i64 xz] 47)) := Gr.alloc _ _
      have g2 : Gr wr ((wr.alloc (.cells #[.int .i64 xa, .int .i64 xb, .int .i64 xcc, .int .i64 xd, .int .i64 xe, .int .i64 xf, .int .i64 xg, .int .i64 xh, .int .i64 xz] 47)).alloc (.cells #[.int .i64 xa, .int .i64 xb, .int .i64 xcc, .int .i64 xd, .int .i64 xe, .int .i64 xf, .int .i64 xg, .int .i64 xh, .int .i64 xz] 47)) := g1.tr (Gr.alloc _ _)
      have hs1 : wr.heap.size ≤ (wr.alloc (.cells #[.int .i64 xa, .int .i64 xb, .int .i64 xcc, .int .i64 xd, .int .i64 xe, .int .i64 xf, .int .i64 xg, .int .i64 xh, .int .i64 xz] 47)).heap.size := g1.size
      have hs2 : wr.heap.size ≤ ((wr.alloc (.cells #[.int .i64 xa, .int .i64 xb, .int .i64 xcc, .int .i64 xd, .int .i64 xe, .int .i64 xf, .int .i64 xg, .int .i64 xh, .int .i64 xz] 47)).alloc (.cells #[.int .i64 xa, .int .i64 xb, .int .i64 xcc, .int .i64 xd, .int .i64 xe, .int .i64 xf, .int .i64 xg, .int .i64 xh, .int .i64 xz] 47)).heap.size := g2.size
      have HOX2 := Lib.hid (own_gr HOX.out g2)
      have HNEW := Lib.hid (show ((wr.alloc (.cells #[.int .i64 xa, .int .i64 xb, .int .i64 xcc, .int .i64 xd, .int .i64 xe, .int .i64 xf, .int .i64 xg, .int .i64 xh, .int .i64 xz] 47)).alloc (.cells #[.int .i64 xa, .int .i64 xb, .int .i64 xcc, .int .i64 xd, .int .i64 xe, .int .i64 xf, .int .i64 xg, .int .i64 xh, .int .i64 xz] 47)).heap[wr.heap.size + 1]? = some (.cells #[.int .i64 xa, .int .i64 xb, .int .i64 xcc, .int .i64 xd, .int .i64 xe, .int .i64 xf, .int .i64 xg, .int .i64 xh, .int .i64 xz] 47) by have := heap_new (wr.alloc (.cells #[.int .i64 xa, .int .i64 xb, .int .i64 xcc, .int .i64 xd, .int .i64 xe, .int .i64 xf, .int .i64 xg, .int .i64 xh, .int .i64 xz] 47)) (.cells #[.int .i64 xa, .int .i64 xb, .int .i64 xcc, .int .i64 xd, .int .i64 xe, .int .i64 xf, .int .i64 xg, .int .i64 xh, .int .i64 xz] 47); simpa using this)
      have HRX := Lib.hid (fun q hq => HOX.out.lt q hq)
      have HX2' := Lib.hid (HKX.out.grow g2)
      have HRR := Lib.hid (HKR.out.grow g2)
      have HG2' := Lib.hid (bgr HG.out HG.out.size g2)
      have HX1 := Lib.hid (HKX.out.grow g1)
      have HRR1 := Lib.hid (HKR.out.grow g1)
      have HG1 := Lib.hid (bgr HG.out HG.out.size g1)
      have HOX1 := Lib.hid (own_gr HOX.out g1)
      clear g1 g2 WA
      cases hb : m.testBit k with
      | false =>
        rw [hb] at hbit
        have hkp := HKP.out
        rw [hb, if_neg (by simp)] at hkp
        have HKQ := Lib.hid hkp
        have hb2 : (!false) = true := rfl
        rw [hb2] at hbit
        clear hkp hb HKP
        go_wp2_with (at_builtin; refine wpList_append_lies _ rfl _ _ 24 rfl (w.heap.size + 2) 47 i0 _ 9 72 Try.underlying24 II0.out IZ0.out IZ1.out IZ2.out rfl (by decide) _ _ _ rfl HOX2.out ⟨wr.heap.size + 1, 0, none⟩ 1 1 [.int .i64 xa, .int .i64 xb, .int .i64 xcc, .int .i64 xd, .int .i64 xe, .int .i64 xf, .int .i64 xg, .int .i64 xh, .int .i64 xz] rfl rfl ?c1 ?c2 ?c3 ?c4 ?c5 ?c6 _ rfl ?_)
        case c1 => exact World.news_of_block (cs := #[.int .i64 xa, .int .i64 xb, .int .i64 xcc, .int .i64 xd, .int .i64 xe, .int .i64 xf, .int .i64 xg, .int .i64 xh, .int .i64 xz]) (t := 47) (fr := (0, 0)) HNEW.out
        case c2 => simp [Value.oneCell']
        case c3 => omega
        case c4 => unfold maxLen; omega
        case c5 => omega
        case c6 => omega
        intro g capx w3 hown3 hgrow3 hat3 hlt3
        have nbx : some (w.heap.size + 1) ≠ (Value.slice xp xn xc).ownBlock := fun h => by have := (HRX.out _ h.symm).1; omega
        have nbr : some w.heap.size ≠ (Value.slice xp xn xc).ownBlock := fun h => by have := (HRX.out _ h.symm).1; omega
        have hsz3 : ((wr.alloc (.cells #[.int .i64 xa, .int .i64 xb, .int .i64 xcc, .int .i64 xd, .int .i64 xe, .int .i64 xf, .int .i64 xg, .int .i64 xh, .int .i64 xz] 47)).alloc (.cells #[.int .i64 xa, .int .i64 xb, .int .i64 xcc, .int .i64 xd, .int .i64 xe, .int .i64 xf, .int .i64 xg, .int .i64 xh, .int .i64 xz] 47)).heap.size ≤ w3.heap.size := hgrow3.size
        have hx3 := HX2'.out.grown hgrow3 nbx
        have hx8 := hx3.put 7 (.slice (some ⟨g, 0, none⟩) (pk.length + 1) capx)
        have hr8 := (HRR.out.grown hgrow3 nbr).other (show w.heap.size ≠ w.heap.size + 1 by omega) 7 (.slice (some ⟨g, 0, none⟩) (pk.length + 1) capx)
        have hox8 := ownsRow_setCell_below hown3 (a := ⟨w.heap.size + 1, 7, none⟩) (show w.heap.size + 1 < w.heap.size + 2 by omega) (.slice (some ⟨g, 0, none⟩) (pk.length + 1) capx)
        have hw8 : Below w.heap.size w (w3.setCell ⟨w.heap.size + 1, 7, none⟩ (.slice (some ⟨g, 0, none⟩) (pk.length + 1) capx)) := (HG2'.out.grown hgrow3 HG2'.out.size (fun q e => by have := (HRX.out q e).1; omega)).setCell (show w.heap.size ≤ w.heap.size + 1 by omega) _
        have x7 := hx3.cell (i := 7) rfl
        have f7 := hx3.free 7
        have HX8 := Lib.hid hx8
        have HR8 := Lib.hid hr8
        have HOX8 := Lib.hid hox8
        have HW8 := Lib.hid hw8
        have hs8 : w3.heap.size ≤ (w3.setCell ⟨w.heap.size + 1, 7, none⟩ (.slice (some ⟨g, 0, none⟩) (pk.length + 1) capx)).heap.size := by simp
        clear hx3 hx8 hr8 hox8 hw8 nbx nbr hown3 hgrow3 hat3
        go_wp2_with fail
        refine ⟨⟨k + 1, by omega, by go_num, HW8.out, by omega, _, HX8.out, HR8.out, ?_⟩, by simp [intOf]; omega⟩
        rw [HKQ.out]
        have := HOX8.out
        simp only [List.length_append, List.flatMap_append, List.length_cons, List.length_nil, List.flatMap_cons, List.flatMap_nil, List.append_nil, Th.vals]
        exact this
      | true =>
        rw [hb] at hbit
        have hkp := HKP.out
        rw [hb, if_pos rfl] at hkp
        have HKQ := Lib.hid hkp
        have hb2 : (!true) = false := rfl
        rw [hb2] at hbit
        clear hkp hb HKP
        go_wp2_with fail
        refine ⟨⟨k + 1, by omega, by go_num, HG1.out, by omega, _, HX1.out, HRR1.out, ?_⟩, by simp [intOf]; omega⟩
        rw [HKQ.out]
        exact HOX1.out
    · have hkl : k = len := by omega
      subst hkl
      have C3 := HKX.out.facts
      have C4 := HKR.out.facts
      have F4 := HKR.out.free
      simp only [CellsFrom, Nat.zero_add, Nat.reduceAdd, and_true] at C3 C4
      go_wp2_with fail
      have hln : (keepTo m p.l p.l.length).length ≤ 1000 := by have := keepTo_len (m := m) (l := p.l) p.l.length; have := HLEN.out; omega
      have hfin := (ownsRow_setCell_below (ownsRow_setCell_below (ownsRow_setCell_below (ownsRow_setCell_below (ownsRow_setCell_below (ownsRow_setCell_below (ownsRow_setCell_below (ownsRow_setCell_below HOX.out (a := ⟨w.heap.size, 0, none⟩) (show w.heap.size < w.heap.size + 2 by omega) (.int .i64 p.fl)) (a := ⟨w.heap.size, 1, none⟩) (show w.heap.size < w.heap.size + 2 by omega) (.int .i64 p.fh)) (a := ⟨w.heap.size, 2, none⟩) (show w.heap.size < w.heap.size + 2 by omega) (.int .i64 p.bl)) (a := ⟨w.heap.size, 3, none⟩) (show w.heap.size < w.heap.size + 2 by omega) (.int .i64 p.bh)) (a := ⟨w.heap.size, 4, none⟩) (show w.heap.size < w.heap.size + 2 by omega) (.int .i64 p.ti)) (a := ⟨w.heap.size, 5, none⟩) (show w.heap.size < w.heap.size + 2 by omega) (.int .i64 p.ne)) (a := ⟨w.heap.size, 6, none⟩) (show w.heap.size < w.heap.size + 2 by omega) (.int .i64 p.fa)) (a := ⟨w.heap.size, 7, none⟩) (show w.heap.size < w.heap.size + 2 by omega) (.slice xp xn xc))
      rw [← HLEN.out] at hfin
      have HFIN := Lib.hid (ThingsAt.own hfin rfl hln)
      clear hfin
      have HBEL := Lib.hid ((((((((HG.out.setCell (show w.heap.size ≤ (⟨w.heap.size, 0, none⟩ : Addr).block from Nat.le_refl _) (.int .i64 p.fl)).setCell (show w.heap.size ≤ (⟨w.heap.size, 1, none⟩ : Addr).block from Nat.le_refl _) (.int .i64 p.fh)).setCell (show w.heap.size ≤ (⟨w.heap.size, 2, none⟩ : Addr).block from Nat.le_refl _) (.int .i64 p.bl)).setCell (show w.heap.size ≤ (⟨w.heap.size, 3, none⟩ : Addr).block from Nat.le_refl _) (.int .i64 p.bh)).setCell (show w.heap.size ≤ (⟨w.heap.size, 4, none⟩ : Addr).block from Nat.le_refl _) (.int .i64 p.ti)).setCell (show w.heap.size ≤ (⟨w.heap.size, 5, none⟩ : Addr).block from Nat.le_refl _) (.int .i64 p.ne)).setCell (show w.heap.size ≤ (⟨w.heap.size, 6, none⟩ : Addr).block from Nat.le_refl _) (.int .i64 p.fa)).setCell (show w.heap.size ≤ (⟨w.heap.size, 7, none⟩ : Addr).block from Nat.le_refl _) (.slice xp xn xc))
      exact bodyPost_ret (v := .agg #[.int .i64 p.fl, .int .i64 p.fh, .int .i64 p.bl, .int .i64 p.bh, .int .i64 p.ti, .int .i64 p.ne, .int .i64 p.fa, .slice xp xn xc]) (by simp [results, Try.results35, go_sem, C4]) rfl ⟨⟨_, rfl, HFIN.out⟩, HBEL.out⟩

set_option maxRecDepth 100000 in
set_option maxHeartbeats 4000000 in
theorem lfew_many (p : Pr) (sp : Option Addr) (len cap : Nat) (o : Int) (w : World) (hl : 40 < len) :
    Calls Try.prog 8 #[.agg #[.int .i64 p.fl, .int .i64 p.fh, .int .i64 p.bl, .int .i64 p.bh, .int .i64 p.ti, .int .i64 p.ne, .int .i64 p.fa, .slice sp len cap], .int .u16 o] w fun e w' => e = .returned (.bool true) ∧ Below w.heap.size w w' := by
  have d : decide (40 < (len : Int)) = true := by simp; omega
  have d' : decide (40 < len) = true := by simp; omega
  clear hl
  go_enter Try.func8, Try.ntmps8
  go_wp2_with fail
  refine (awake_any _).mono ?_
  rintro e w1 ⟨rfl, hb1⟩
  go_wp2
  go_ret
  exact ⟨rfl, (bgr ((Below.refl _ _).alloc (by first | (simp; done) | (simp; omega) | omega) _) (by first | (simp; done) | (simp; omega) | omega) hb1)⟩
set_option maxRecDepth 100000 in
set_option maxHeartbeats 4000000 in
theorem lfew_bad (p : Pr) (sp : Option Addr) (len cap : Nat) (o : Int) (w : World) (hl : len ≤ 40) (hT : ThingsAt p.l (.slice sp len cap) w) (er : Int) (b : Bool) (h1 : Hid (p.fewest = (0, 0, 0, er))) (h2 : Hid (p.power = (0, 0, er))) (h4 : Hid (p.ok = b)) (hx : (er != 0) = true) (hy : (er == 1) = !b) :
    Calls Try.prog 8 #[.agg #[.int .i64 p.fl, .int .i64 p.fh, .int .i64 p.bl, .int .i64 p.bh, .int .i64 p.ti, .int .i64 p.ne, .int .i64 p.fa, .slice sp len cap], .int .u16 o] w fun e w' => e = .returned (.bool true) ∧ Below w.heap.size w w' := by
  have d : decide (40 < (len : Int)) = false := by simp; omega
  have d' : decide (40 < len) = false := by simp; omega
  have TH := Lib.hid (fun (W : World) (hg : Gr (w.alloc (.cells #[.int .i64 p.fl, .int .i64 p.fh, .int .i64 p.bl, .int .i64 p.bh, .int .i64 p.ti, .int .i64 p.ne, .int .i64 p.fa, .slice sp len cap] 26)) W) => ThingsAt.lasts p.l _ _ _ hT ((Gr.alloc _ _).tr hg))
  have hg0 := Gr.same (w.alloc (.cells #[.int .i64 p.fl, .int .i64 p.fh, .int .i64 p.bl, .int .i64 p.bh, .int .i64 p.ti, .int .i64 p.ne, .int .i64 p.fa, .slice sp len cap] 26))
  have heq := @eq23
  have heg := @eqg23
  clear hT hl
  go_enter Try.func8, Try.ntmps8
  go_wp2_with fail
  refine (fewest_is h1.out (TH.out _ hg0)).mono ?_
  rintro e w1 ⟨rfl, hb1⟩
  have gg1 : Gr _ _ := hb1
  have hg1 := Gr.tr hg0 gg1
  obtain ⟨hc, hf, hz⟩ := bcell hg1
  go_wp2_with fail
  clear hc hf hz
  refine (power_is h2.out (TH.out _ (hg1.tr (Gr.alloc _ _)))).mono ?_
  rintro e w2 ⟨rfl, hb2⟩
  have gg2 : Gr _ _ := (Gr.alloc _ _).tr hb2
  have hg2 := Gr.tr hg1 gg2
  have y1_0 := ((bcell hb2).1 w1.heap.size 0 (by simp)).trans (show _ = some (.int .i64 0) by simp)
  have y1_1 := ((bcell hb2).1 w1.heap.size 1 (by simp)).trans (show _ = some (.int .i64 0) by simp)
  have k1 : w1.heap.size < w2.heap.size := Nat.lt_of_lt_of_le (by simp) hb2.size
  have k1n : w1.heap.size ≠ w2.heap.size := Nat.ne_of_lt k1
  have k1m : w2.heap.size ≠ w1.heap.size := (Nat.ne_of_lt k1).symm
  have k1p : w1.heap.size < w2.heap.size + 1 := Nat.lt_succ_of_lt k1
  obtain ⟨hc, hf, hz⟩ := bcell hg2
  go_wp2_with fail
  clear hc hf hz
  refine (rpair_is h4.out (TH.out _ (hg2.tr (Gr.alloc _ _)))).mono ?_
  rintro e w3 ⟨rfl, hb3⟩
  have gg3 : Gr _ _ := (Gr.alloc _ _).tr hb3
  have hg3 := Gr.tr hg2 gg3
  have y1_0 := ((bcell gg3).1 w1.heap.size 0 k1).trans y1_0
  have y1_1 := ((bcell gg3).1 w1.heap.size 1 k1).trans y1_1
  replace k1 : w1.heap.size < w3.heap.size := Nat.lt_of_lt_of_le k1 gg3.size
  have k1n : w1.heap.size ≠ w3.heap.size := Nat.ne_of_lt k1
  have k1m : w3.heap.size ≠ w1.heap.size := (Nat.ne_of_lt k1).symm
  have k1p : w1.heap.size < w3.heap.size + 1 := Nat.lt_succ_of_lt k1
  have y2_0 := ((bcell hb3).1 w2.heap.size 0 (by simp)).trans (show _ = some (.int .i64 0) by simp)
  have y2_1 := ((bcell hb3).1 w2.heap.size 1 (by simp)).trans (show _ = some (.int .i64 0) by simp)
  have k2 : w2.heap.size < w3.heap.size := Nat.lt_of_lt_of_le (by simp) hb3.size
  have k2n : w2.heap.size ≠ w3.heap.size := Nat.ne_of_lt k2
  have k2m : w3.heap.size ≠ w2.heap.size := (Nat.ne_of_lt k2).symm
  have k2p : w2.heap.size < w3.heap.size + 1 := Nat.lt_succ_of_lt k2
  obtain ⟨hc, hf, hz⟩ := bcell hg3
  go_wp2_with fail
  clear hc hf hz
  refine (awake_any _).mono ?_
  rintro e w4 ⟨rfl, hb4⟩
  have gg4 : Gr _ _ := hb4
  have hg4 := Gr.tr hg3 gg4
  have y1_0 := ((bcell gg4).1 w1.heap.size 0 k1).trans y1_0
  have y1_1 := ((bcell gg4).1 w1.heap.size 1 k1).trans y1_1
  replace k1 : w1.heap.size < w4.heap.size := Nat.lt_of_lt_of_le k1 gg4.size
  have k1n : w1.heap.size ≠ w4.heap.size := Nat.ne_of_lt k1
  have k1m : w4.heap.size ≠ w1.heap.size := (Nat.ne_of_lt k1).symm
  have k1p : w1.heap.size < w4.heap.size + 1 := Nat.lt_succ_of_lt k1
  have y2_0 := ((bcell gg4).1 w2.heap.size 0 k2).trans y2_0
  have y2_1 := ((bcell gg4).1 w2.heap.size 1 k2).trans y2_1
  replace k2 : w2.heap.size < w4.heap.size := Nat.lt_of_lt_of_le k2 gg4.size
  have k2n : w2.heap.size ≠ w4.heap.size := Nat.ne_of_lt k2
  have k2m : w4.heap.size ≠ w2.heap.size := (Nat.ne_of_lt k2).symm
  have k2p : w2.heap.size < w4.heap.size + 1 := Nat.lt_succ_of_lt k2
  obtain ⟨hc, hf, hz⟩ := bcell hg4
  go_wp2
  go_ret
  exact ⟨rfl, bgr ((Below.refl _ _).alloc (Nat.le_refl _) _) (by first | (simp; done) | (simp; omega) | omega) hg4⟩

/-- A set without one thing. -/
def clr (m k : Nat) : Nat := m ^^^ (m &&& 2 ^ k)
theorem clr_bit (m k j : Nat) : (clr m k).testBit j = (m.testBit j && !decide (j = k)) := by
  unfold clr
  rw [Nat.testBit_xor, Nat.testBit_and, Nat.testBit_two_pow]
  cases m.testBit j <;> by_cases h : k = j <;> simp [h, eq_comm]
theorem clr_lt {m k n : Nat} (h : m < 2 ^ n) : clr m k < 2 ^ n := by
  unfold clr
  exact Nat.xor_lt_two_pow h (Nat.lt_of_le_of_lt Nat.and_le_left h)
theorem clr_all : (List.range 12).all (fun k => (List.range 4096).all fun m => bits BinOp.andNot IntKind.i64 ((m : Nat) : Int) (((2 ^ k : Nat) : Int)) == ((clr m k : Nat) : Int)) = true := by decide +kernel
theorem andNot_set (m k : Nat) (h : m < 4096) (hk : k < 12) : bits BinOp.andNot IntKind.i64 (m : Int) (wrap64 (2 ^ k)) = ((clr m k : Nat) : Int) := by
  rw [shl_in k hk]
  exact eq_of_beq (List.all_eq_true.1 (List.all_eq_true.1 clr_all k (List.mem_range.2 hk)) m (List.mem_range.2 h))
theorem mask_set (o n : Nat) (h : o < 65536) (hn : n ≤ 12) : bits BinOp.and IntKind.i64 (o : Int) (wrap64 (wrap64 (2 ^ n) - 1)) = ((o &&& (2 ^ n - 1) : Nat) : Int) := by
  have h1 : (2 : Nat) ^ n ≤ 4096 := by
    have := Nat.pow_le_pow_right (n := 2) (by omega) hn
    simpa using this
  have h0 : 0 < (2 : Nat) ^ n := Nat.two_pow_pos n
  have e : wrap64 (wrap64 ((2 : Int) ^ n) - 1) = ((2 ^ n - 1 : Nat) : Int) := by
    rw [show ((2 : Int) ^ n) = ((2 ^ n : Nat) : Int) from by simp]
    generalize 2 ^ n = p at *
    rw [IntWalk.wrap64_in (p : Int) ⟨by omega, by omega⟩, IntWalk.wrap64_in _ ⟨by omega, by omega⟩]
    omega
  rw [e]
  exact (bits_nat .i64 63 (by decide) wraps_i64 o (2 ^ n - 1) (by omega) (by omega)).1
theorem mask_bit (o n j : Nat) : (o &&& (2 ^ n - 1)).testBit j = (o.testBit j && decide (j < n)) := by
  rw [Nat.testBit_and, Nat.testBit_two_pow_sub_one]
theorem mask_lt (o n : Nat) : o &&& (2 ^ n - 1) < 2 ^ n := by
  have := Nat.two_pow_pos n
  exact Nat.lt_of_le_of_lt Nat.and_le_right (by omega)
/-- The set of the other things, without the landmarks among the first k. -/
def lessTo (l : List Th) (m : Nat) : Nat → Nat
  | 0 => m
  | k + 1 => match l[k]? with
    | some t => if t.z = 0 then lessTo l m k else clr (lessTo l m k) k
    | none => lessTo l m k
theorem lessTo_lt {l : List Th} {m n : Nat} (h : m < 2 ^ n) : ∀ k, lessTo l m k < 2 ^ n
  | 0 => h
  | k + 1 => by
    have := lessTo_lt (l := l) h k
    unfold lessTo
    split
    · split
      · exact this
      · exact clr_lt this
    · exact this
theorem lessTo_bit {l : List Th} {m j : Nat} {t : Th} (hj : l[j]? = some t) (hz : t.z ≠ 0) : ∀ k, j < k → (lessTo l m k).testBit j = false
  | 0, h => absurd h (Nat.not_lt_zero _)
  | k + 1, h => by
    by_cases e : j = k
    · subst e
      unfold lessTo
      rw [hj]
      simp only
      rw [if_neg hz, clr_bit]
      simp
    · have := lessTo_bit (m := m) hj hz k (by omega)
      unfold lessTo
      split
      · split
        · exact this
        · rw [clr_bit, this]; rfl
      · exact this

end Go.Proofs.Ytofdoadpaedogaa
