import Derived.Test.YtcngaohfemdfjaaGreatF05
import Derived.Test.YtcngaohfemdfjaaGreatF13
import Derived.Deep.AppendLies
set_option linter.unusedVariables false
set_option linter.unusedSimpArgs false
set_option maxRecDepth 100000
set_option maxHeartbeats 60000000
namespace Go.Proofs.YtcngaohfemdfjaaGreat
open Go.RowKit
theorem fld74_1' (a b c d : Value) (w : World) : (Instr.field 111 (.agg #[a, b, c, d]) 1).run Tryz.prog w = .ok (.agg #[b, c]) w := by kernel_rfl
theorem shift1_ok (fl fh bl bh ti ne fa : Int) (v : Value) (sv : Value) (plo phi : Int) (l : List Sg) (k : Nat) (s : Sg) (p : Nat) (w : World) (h : SeenAt l sv w) (hk : l[k]? = some s) (hp : w.cell? ⟨p, 0, none⟩ = some (.int .i64 k)) (hpl : p < w.heap.size) :
    Calls Tryz.prog 79 #[.agg #[.int .i64 fl, .int .i64 fh, .int .i64 bl, .int .i64 bh, .int .i64 ti, .int .i64 ne, .int .i64 fa, v, sv, .int .i64 plo, .int .i64 phi], .pointer (some ⟨p, 0, none⟩)] w fun e w' => e = .returned (.agg #[.int .i64 s.lo, .int .i64 s.hi]) ∧ Below w.heap.size w w' := by
  obtain ⟨wit, lo, hi, sl⟩ := s
  have ht : ∀ W : World, Gr w W → Calls Tryz.prog 75 #[.agg #[.int .i64 fl, .int .i64 fh, .int .i64 bl, .int .i64 bh, .int .i64 ti, .int .i64 ne, .int .i64 fa, v, sv, .int .i64 plo, .int .i64 phi], .int .i64 k] W fun e w' => e = .returned (.agg #[wit.val, .int .i64 lo, .int .i64 hi, .bool sl]) ∧ Below W.heap.size W w' := fun W hg => thing_ok fl fh bl bh ti ne fa v sv plo phi l k ⟨wit, lo, hi, sl⟩ W (SeenAt.lasts _ _ _ _ h hg) hk
  have HT := Lib.hid ht
  clear h hk ht
  have hfd := @fld74_1'
  have hal := @cal
  have hp1 : p < w.heap.size + 1 := by omega
  go_enter Tryz.func79, Tryz.ntmps79
  go_wp2_with (go_at_call 75; refine (HT.out _ ((Gr.alloc _ _).tr (Gr.alloc _ _))).mono ?_; rintro e w1 ⟨rfl, hb1⟩; obtain ⟨hc1, hf1, hz1⟩ := bcell hb1)
  exact bodyPost_ret (v := .agg #[.int .i64 lo, .int .i64 hi]) (by simp [results, Tryz.results79, go_sem, hc1]) rfl ⟨rfl, (((bgr (((Below.refl _ _).alloc (by first | (simp <;> omega) | omega) _).alloc (by first | (simp <;> omega) | omega) _) (by first | (simp <;> omega) | omega) hb1).setCell (by first | (simp <;> omega) | omega) _).setCell (by first | (simp <;> omega) | omega) _)⟩
theorem shift1_no (fl fh bl bh ti ne fa : Int) (v : Value) (sv : Value) (plo phi : Int) (l : List Sg) (k : Int) (p : Nat) (w : World) (h : SeenAt l sv w) (hk : k < 0 ∨ (l.length : Int) ≤ k) (hp : w.cell? ⟨p, 0, none⟩ = some (.int .i64 k)) (hpl : p < w.heap.size) :
    Calls Tryz.prog 79 #[.agg #[.int .i64 fl, .int .i64 fh, .int .i64 bl, .int .i64 bh, .int .i64 ti, .int .i64 ne, .int .i64 fa, v, sv, .int .i64 plo, .int .i64 phi], .pointer (some ⟨p, 0, none⟩)] w fun e w' => e = .panicked [{ v := .iface 32 (.int .i64 2), recovered := false }] ∧ Below w.heap.size w w' := by
  have HT := Lib.hid (fun (W : World) (hg : Gr w W) => thing_no fl fh bl bh ti ne fa v sv plo phi l k W (SeenAt.lasts _ _ _ _ h hg) hk)
  clear h hk
  have hal := @cal
  have hp1 : p < w.heap.size + 1 := by omega
  go_enter Tryz.func79, Tryz.ntmps79
  go_wp2_with (go_at_call 75; refine (HT.out _ ((Gr.alloc _ _).tr (Gr.alloc _ _))).mono ?_; rintro e w1 ⟨rfl, hb1⟩)
  exact ⟨rfl, rfl, (bgr (((Below.refl _ _).alloc (by first | (simp <;> omega) | omega) _).alloc (by first | (simp <;> omega) | omega) _) (by first | (simp <;> omega) | omega) hb1)⟩
theorem why1_ok (fl fh bl bh ti ne fa : Int) (v : Value) (sv : Value) (plo phi : Int) (l : List Sg) (k : Nat) (s : Sg) (p : Nat) (w : World) (h : SeenAt l sv w) (hk : l[k]? = some s) (hok : s.ok) (hpp : plo ≤ phi) (hp : w.cell? ⟨p, 0, none⟩ = some (.int .i64 k)) (hpl : p < w.heap.size) :
    Calls Tryz.prog 74 #[.agg #[.int .i64 fl, .int .i64 fh, .int .i64 bl, .int .i64 bh, .int .i64 ti, .int .i64 ne, .int .i64 fa, v, sv, .int .i64 plo, .int .i64 phi], .pointer (some ⟨p, 0, none⟩)] w fun e w' => e = .returned (.int .i64 (s.why plo phi)) ∧ Below w.heap.size w w' := by
  have hwc : ∃ x, s.wit.val = x := ⟨_, rfl⟩
  obtain ⟨wt, wx, hwv⟩ := s.wit.iface
  have hsv : s.val = .agg #[.iface wt wx, .int .i64 s.lo, .int .i64 s.hi, .bool s.sl] := by unfold Sg.val; rw [hwv]
  have ht : ∀ W : World, Gr w W → Calls Tryz.prog 75 #[.agg #[.int .i64 fl, .int .i64 fh, .int .i64 bl, .int .i64 bh, .int .i64 ti, .int .i64 ne, .int .i64 fa, v, sv, .int .i64 plo, .int .i64 phi], .int .i64 k] W fun e w' => e = .returned (.agg #[.iface wt wx, .int .i64 s.lo, .int .i64 s.hi, .bool s.sl]) ∧ Below W.heap.size W w' := fun W hg => by
    have := thing_ok fl fh bl bh ti ne fa v sv plo phi l k s W (SeenAt.lasts _ _ _ _ h hg) hk
    rwa [hsv] at this
  have hwy : ∀ W : World, Calls Tryz.prog 76 #[.agg #[.iface wt wx, .int .i64 s.lo, .int .i64 s.hi, .bool s.sl], .agg #[.int .i64 plo, .int .i64 phi]] W fun e w' => e = .returned (.int .i64 (s.why plo phi)) ∧ Below W.heap.size W w' := fun W => by
    have := why_any s plo phi W hok
    rwa [hsv] at this
  have HWY := Lib.hid hwy
  clear hwy hok
  generalize s.why plo phi = res at *
  have HT := Lib.hid ht
  clear h hk ht hsv hwv hwc
  generalize s.lo = slo at *
  generalize s.hi = shi at *
  generalize s.sl = ssl at *
  have hal := @cal
  have hp1 : p < w.heap.size + 1 := by omega
  go_enter Tryz.func74, Tryz.ntmps74
  go_wp2_with (go_at_call 75; refine (HT.out _ (Gr.alloc _ _)).mono ?_; rintro e w1 ⟨rfl, hb1⟩; obtain ⟨hc1, hf1, hz1⟩ := bcell hb1; have hs1 : w.heap.size < w1.heap.size := hz1 _ (by simp))
  refine region2 4 ?_ ?_ ?_
  · kernel_rfl
  · kernel_rfl
  simp only [List.take_succ_cons, List.take_zero, List.drop_succ_cons, List.drop_zero]
  apply ceq (D := [(4, none)]) rfl (by kernel_rfl)
  · intro ρ W ⟨p1,p2,p3⟩ hG hF K hK; (try simp [FD] at hF); have ⟨hc, hf, hz⟩ := bdr hG; go_simp; exact hK _ gv
  apply ceq (D := [(2, none)]) rfl (by kernel_rfl)
  · intro ρ W ⟨p1,p2,p3⟩ hG hF K hK; (try simp [FD] at hF); have ⟨hc, hf, hz⟩ := bdr hG; go_simp; exact hK _ gv
  apply ceq (D := [(9, some 0)]) rfl (by kernel_rfl)
  · intro ρ W ⟨p1,p2,p3⟩ hG hF K hK; (try simp [FD] at hF); have ⟨hc, hf, hz⟩ := bdr hG; go_simp; exact hK _ (gc (truths_ok _ _ _ _ _ _ _ _ _ _ _ _ hpp))
  apply ceq (D := [(8, some 2), (10, some 0)]) rfl (by kernel_rfl)
  · intro ρ W ⟨p1,p2,p3⟩ hG hF K hK; (try simp [FD] at hF); have ⟨hc, hf, hz⟩ := bdr hG; go_simp; exact hK _ (gc (HWY.out _))
  refine cdn ?_
  intro vs W hG hV
  obtain ⟨e3, -⟩ := hV
  simp only [Nat.reduceSub] at e3
  simp only [lay, Act.put, List.getElem?_toArray, List.getElem?_cons_succ, List.getElem?_cons_zero, Option.bind_some, List.setIfInBounds_toArray, List.set_cons_succ, List.set_cons_zero]
  generalize vs 0 = v0, vs 1 = v1, vs 2 = v2
  generalize vs 3 = v3 at *
  subst e3
  obtain ⟨hc, hf, hz⟩ := bcell hG
  go_wp2
  go_ret
  exact ⟨rfl, (bgr ((bgr ((Below.refl _ _).alloc (by first | (simp <;> omega) | omega) _) (by first | (simp <;> omega) | omega) hb1).alloc (by first | (simp <;> omega) | omega) _) (by first | (simp <;> omega) | omega) hG)⟩
theorem why1_none (fl fh bl bh ti ne fa : Int) (v : Value) (sv : Value) (plo phi : Int) (l : List Sg) (k : Nat) (s : Sg) (p : Nat) (w : World) (h : SeenAt l sv w) (hk : l[k]? = some s) (hpp : phi < plo) (hp : w.cell? ⟨p, 0, none⟩ = some (.int .i64 k)) (hpl : p < w.heap.size) :
    Calls Tryz.prog 74 #[.agg #[.int .i64 fl, .int .i64 fh, .int .i64 bl, .int .i64 bh, .int .i64 ti, .int .i64 ne, .int .i64 fa, v, sv, .int .i64 plo, .int .i64 phi], .pointer (some ⟨p, 0, none⟩)] w fun e w' => e = .panicked [{ v := .iface 32 (.int .i64 4), recovered := false }] ∧ Below w.heap.size w w' := by
  have hwc : ∃ x, s.wit.val = x := ⟨_, rfl⟩
  obtain ⟨wt, wx, hwv⟩ := s.wit.iface
  have hsv : s.val = .agg #[.iface wt wx, .int .i64 s.lo, .int .i64 s.hi, .bool s.sl] := by unfold Sg.val; rw [hwv]
  have ht : ∀ W : World, Gr w W → Calls Tryz.prog 75 #[.agg #[.int .i64 fl, .int .i64 fh, .int .i64 bl, .int .i64 bh, .int .i64 ti, .int .i64 ne, .int .i64 fa, v, sv, .int .i64 plo, .int .i64 phi], .int .i64 k] W fun e w' => e = .returned (.agg #[.iface wt wx, .int .i64 s.lo, .int .i64 s.hi, .bool s.sl]) ∧ Below W.heap.size W w' := fun W hg => by
    have := thing_ok fl fh bl bh ti ne fa v sv plo phi l k s W (SeenAt.lasts _ _ _ _ h hg) hk
    rwa [hsv] at this
  have HT := Lib.hid ht
  clear h hk ht hsv hwv hwc
  generalize s.lo = slo at *
  generalize s.hi = shi at *
  generalize s.sl = ssl at *
  have hal := @cal
  have hp1 : p < w.heap.size + 1 := by omega
  go_enter Tryz.func74, Tryz.ntmps74
  go_wp2_with (go_at_call 75; refine (HT.out _ (Gr.alloc _ _)).mono ?_; rintro e w1 ⟨rfl, hb1⟩; obtain ⟨hc1, hf1, hz1⟩ := bcell hb1; have hs1 : w.heap.size < w1.heap.size := hz1 _ (by simp))
  refine region2 4 ?_ ?_ ?_
  · kernel_rfl
  · kernel_rfl
  simp only [List.take_succ_cons, List.take_zero, List.drop_succ_cons, List.drop_zero]
  apply ceq (D := [(4, none)]) rfl (by kernel_rfl)
  · intro ρ W ⟨p1,p2,p3⟩ hG hF K hK; (try simp [FD] at hF); have ⟨hc, hf, hz⟩ := bdr hG; go_simp; exact hK _ gv
  apply ceq (D := [(2, none)]) rfl (by kernel_rfl)
  · intro ρ W ⟨p1,p2,p3⟩ hG hF K hK; (try simp [FD] at hF); have ⟨hc, hf, hz⟩ := bdr hG; go_simp; exact hK _ gv
  refine cny (V := fun _ _ => False) (D := [(9, some 0)]) rfl (by kernel_rfl) (fun _ _ _ h _ => h) ?_ ?_
  · intro ρ W ⟨p1,p2,p3⟩ hG hF K hK; (try simp [FD] at hF); have ⟨hc, hf, hz⟩ := bdr hG; go_simp; exact hK _ (gives_panic (truths_no _ _ _ _ _ _ _ _ _ _ _ _ hpp) (fun W' hg a' ha' => ⟨ha', rfl, (bgr ((bgr ((Below.refl _ _).alloc (by first | (simp <;> omega) | omega) _) (by first | (simp <;> omega) | omega) hb1).alloc (by first | (simp <;> omega) | omega) _) (by first | (simp <;> omega) | omega) (Gr.tr (Gr.tr (Gr.drew _) hG) hg))⟩))
  refine cny (V := fun _ _ => True) (D := [(8, some 2), (10, some 0)]) rfl (by kernel_rfl) (fun _ _ _ _ _ => trivial) ?_ ?_
  · intro ρ W _ hG hF K hK; simp [FD] at hF
  refine cdn ?_
  intro vs W hG hV
  exact (hV.2.1 : False).elim
theorem why1_range (fl fh bl bh ti ne fa : Int) (v : Value) (sv : Value) (plo phi : Int) (l : List Sg) (k : Int) (p : Nat) (w : World) (h : SeenAt l sv w) (hk : k < 0 ∨ (l.length : Int) ≤ k) (hp : w.cell? ⟨p, 0, none⟩ = some (.int .i64 k)) (hpl : p < w.heap.size) :
    Calls Tryz.prog 74 #[.agg #[.int .i64 fl, .int .i64 fh, .int .i64 bl, .int .i64 bh, .int .i64 ti, .int .i64 ne, .int .i64 fa, v, sv, .int .i64 plo, .int .i64 phi], .pointer (some ⟨p, 0, none⟩)] w fun e w' => e = .panicked [{ v := .iface 32 (.int .i64 2), recovered := false }] ∧ Below w.heap.size w w' := by
  have HT := Lib.hid (fun (W : World) (hg : Gr w W) => thing_no fl fh bl bh ti ne fa v sv plo phi l k W (SeenAt.lasts _ _ _ _ h hg) hk)
  clear h hk
  have hal := @cal
  have hp1 : p < w.heap.size + 1 := by omega
  go_enter Tryz.func74, Tryz.ntmps74
  go_wp2_with (go_at_call 75; refine (HT.out _ (Gr.alloc _ _)).mono ?_; rintro e w1 ⟨rfl, hb1⟩)
  exact ⟨rfl, rfl, (bgr ((Below.refl _ _).alloc (by first | (simp <;> omega) | omega) _) (by first | (simp <;> omega) | omega) hb1)⟩
section
variable {P : Program} {ops : Array Oper} {Q : Exit → Act → World → Prop} {md : Region.Mode} {n : Nat} {Vs : Nat → Value → World → Prop} {a a' : Act} {w W W' : World} {listed : Array Bool}
def earlyOk (ops : Array Oper) (n p size : Nat) : Bool :=
  decide (n < ops.size) && decide (p < n) && (List.range n).all (fun k => headOk ops n k size) && sinkL ops n p && Region.chainB .any ops n && Region.seqB .any ops (ops.size - n) n (half n ops.size)
theorem wpAny_of_chain4 (p : Nat) {l : List Oper} (hl : ∀ i, Lasts (Vs i)) {Pan : List PanicEntry → World → Prop} (L : List (Value → World → Prop))
    (hheads : ∀ k, k < n → ∃ o d, HeadOk l.toArray n a.tmps.size k o d) (hnl : n ≤ l.length)
    (htw : ∀ listed, HeadInv .any l.toArray n listed → listed.getD p false = true → (∃ i, i < n ∧ listed.getD i true = false) → ∀ t, n ≤ t → t ∉ Region.ready .any l.toArray listed)
    (hseq : Region.seqB .any l.toArray (l.length - n) n (half n l.length) = true)
    (hL : ∀ j, L.getD j (fun _ _ => True) = Vs j) (hs : ∀ i o, i < n → l.toArray[i]? = some o → Step P l.toArray n a.tmps w Pan (L.take i) o (Vs i))
    (hP : ∀ c W, Pan c W → ∀ a', a'.defers = a.defers → Q (.panic c) a' W)
    (hfin : ∀ a' W, HI l.toArray n Vs a w (half n l.length) a' W → wpList P l.toArray Q (l.drop n) a' W) :
    ∀ (c : Nat) (listed : Array Bool) (a' : Act) (W : World), open_ n listed = c → HI l.toArray n Vs a w listed a' W → listed.getD p false = true → wpAny P .any l.toArray Q (c + (l.length - n)) listed a' W := by
  intro c
  induction c with
  | zero =>
    intro listed a' W hc h hlp
    have he : listed = half n l.length := by
      refine Array.ext (by rw [h.inv.size]; simp [half]) fun i h1 h2 => ?_
      have h1' : i < l.length := by have := h.inv.size; simp at this; omega
      by_cases hin : i < n
      · have := open_zero hc i hin
        simp only [Array.getD_eq_getD_getElem?, Array.getElem?_eq_getElem h1, Option.getD_some] at this
        simp [half, this, hin]
      · have := h.inv.tail i (by omega) (by simpa using h1')
        simp only [Array.getD_eq_getD_getElem?, Array.getElem?_eq_getElem h1, Option.getD_some] at this
        simp [half, this, hin]
    subst he
    have h1 := wpAny_of_seq (md := .any) (Q' := Q) (P := P) (ops := l.toArray) (l.drop n) n (half n l.length) a' W (fun j => by simp [List.getElem?_drop]) (by simpa using hseq) (hfin a' W h)
    simpa using h1
  | succ c ih =>
    intro listed a' W hc h hlp
    rw [show c + 1 + (l.length - n) = (c + (l.length - n)) + 1 by omega]
    have hsz : listed.size = l.length := by simpa using h.inv.size
    have hex : ∃ i, i < n ∧ listed.getD i false = false := by
      apply Classical.byContradiction
      intro hno
      have : open_ n listed = 0 := by
        unfold open_
        rw [List.length_eq_zero_iff, List.filter_eq_nil_iff]
        intro i hi
        have hi' := List.mem_range.1 hi
        cases hx : listed.getD i false with
        | true => simp
        | false => exact absurd ⟨i, hi', hx⟩ hno
      omega
    have hun : ∃ i, i < n ∧ listed.getD i true = false := by
      obtain ⟨i, hi, hx⟩ := hex
      exact ⟨i, hi, getD_in (by omega) hx⟩
    have hready : Region.ready .any l.toArray listed ≠ [] := by
      obtain ⟨i, hi, hx, hleast⟩ := exists_first n hex
      obtain ⟨o, d, hd⟩ := hheads i hi
      have : i ∈ Region.ready .any l.toArray listed := by
        refine mem_ready.2 ⟨getD_in (by omega) hx, o, hd.op, fun e he hb => ?_⟩
        have := hleast e.on (hd.early e he hb)
        simpa using this
      intro h0
      rw [h0] at this
      cases this
    refine ⟨fun h0 => absurd h0 hready, fun i hi => ?_⟩
    have hin : i < n := by
      rcases Nat.lt_or_ge i n with h' | h'
      · exact h'
      · exact absurd hi (htw listed h.inv hlp hun i h')
    obtain ⟨o, d, hd⟩ := hheads i hin
    have hLi : ∀ j, j < i → (L.take i).getD j (fun _ _ => True) = Vs j := fun j hj => by
      rw [← hL j]
      simp [hj]
    refine wpOp_mono (fun a'' W'' h' => ih _ a'' W'' ?_ h' (getD_set_true hlp)) (h.step hl hd hin hi hLi (hs i o hin hd.op) hP)
    have h1 := open_set (n := n) hin (by omega : i < listed.size) (getD_both (mem_ready.1 hi).1)
    omega
theorem region_chain4 {id : Nat} {l : List Oper} (n p : Nat) {oi : Oper} {v : Value} (hm : P.follows .mixedOrders = true) (hi : l.toArray[p]? = some oi) (hsel : Region.noSelect l.toArray = true)
    (hfree : Region.free .any l.toArray (Array.replicate l.toArray.size false) p = true) (hrd : (Region.ready .any l.toArray (Array.replicate l.toArray.size false)).contains p = true)
    (hQ : ∀ c a w, Q (.panic c) (a.put oi.dst v) w → Q (.panic c) a w) (hy : Yields P l.toArray oi v a)
    (hok : earlyOk l.toArray n p (a.put oi.dst v).tmps.size = true)
    (h : Chain P l.toArray n (a.put oi.dst v).tmps w.drew (fun c W => ∀ a', a'.defers = (a.put oi.dst v).defers → Q (.panic c) a' W) (l.take n) [] fun L =>
      (L.getD p fun _ _ => True) v w.drew ∧ ∀ (vs : Nat → Value) (W : World), Gr w W → (∀ i, i < n → (L.getD i fun _ _ => True) (vs i) W) → wpList P l.toArray Q (l.drop n) (lay l.toArray vs n (a.put oi.dst v)) W) :
    (Code.region id l.toArray true).wp P Q a w := by
  refine wp_region_any hm ?_
  simp only [earlyOk, Bool.and_eq_true, decide_eq_true_eq] at hok
  obtain ⟨⟨⟨⟨⟨hn, hpn⟩, hh⟩, hsink⟩, hchain⟩, hseq⟩ := hok
  have hnl : n ≤ l.length := by have := hn; simp at this; omega
  have hll : n < l.length := by simpa using hn
  rw [show l.toArray.size = (l.length - 1) + 1 by simp; omega]
  refine wpAny_take hi hsel (by rw [show (l.length - 1) + 1 = l.toArray.size by simp; omega]; exact hfree) (by rw [show (l.length - 1) + 1 = l.toArray.size by simp; omega]; exact hrd) hQ hy ?_
  rw [show (l.length - 1) + 1 = l.toArray.size by simp; omega]
  generalize ha1 : a.put oi.dst v = a1 at *
  have htl : (l.take n).length = n := by simp; omega
  obtain ⟨L, l1, l2, l3, l40, l4⟩ := chain_vs (l := l) (l.take n) 0 [] rfl (by simp) (fun j o hj => by omega) (fun j hj => by
    have hj' : j < n := by rw [htl] at hj; exact hj
    simp [hj']) h
  rw [htl] at l1 l3
  have hheads := heads_of hh
  have hlast : ∀ i, Lasts (L.getD i fun _ _ => True) := fun i => by
    rcases Nat.lt_or_ge i L.length with h' | h'
    · exact l2 _ (by simp [List.getElem?_eq_getElem h'])
    · rw [show L.getD i (fun _ _ => True) = fun _ _ => True by simp [List.getElem?_eq_none h']]
      exact fun _ _ _ _ _ => trivial
  have hgp : ∀ j, ((Array.replicate l.toArray.size false).setIfInBounds p true).getD j false = decide (j = p) := fun j => by
    by_cases hjp : j = p
    · subst hjp; rw [listed_set_self (by simp; omega)]; simp
    · rw [getD_set_ne false (Ne.symm hjp), getD_replicate_false]; simp [hjp]
  have inv0 : HeadInv .any l.toArray n ((Array.replicate l.toArray.size false).setIfInBounds p true) := by
    refine ⟨by simp, fun j oj hoj hl e he hb => ?_, fun t ht0 ht => ?_⟩
    · rw [hgp] at hl
      have hjp : j = p := by simpa using hl
      subst hjp
      obtain ⟨_, o', ho', hall⟩ := mem_ready.1 (show j ∈ Region.ready .any l.toArray (Array.replicate l.toArray.size false) by simpa using hrd)
      have : o' = oj := Option.some.inj (ho'.symm.trans hoj)
      subst this
      exact getD_set_true (hall e he hb)
    · rw [getD_set_ne true (by omega)]
      exact getD_in (by simpa using ht) (getD_replicate_false _ _)
  obtain ⟨op, dp, hdp⟩ := hheads p hpn
  have hoip : op = oi := Option.some.inj (hdp.op.symm.trans hi)
  subst hoip
  have h0 : HI l.toArray n (fun i => L.getD i fun _ _ => True) a1 w.drew ((Array.replicate l.toArray.size false).setIfInBounds p true) a1 w.drew :=
    ⟨inv0, Gr.same _, rfl, rfl, fun i d hin hd hl => (by
      rw [hgp] at hl
      have hip : i = p := by simpa using hl
      subst hip
      have hdd : d = dp := by rw [hdp.op] at hd; exact Option.some.inj (hd.symm.trans hdp.dst)
      subst hdd
      have hs := hdp.lt
      have hv : a1.tmps.getD d undef = v := by
        rw [← ha1, hdp.dst]
        rw [← ha1, hdp.dst] at hs
        have hs' : d < a.tmps.size := by simpa [Act.put] using hs
        simp [Act.put, hs']
      rw [hv]; exact l40), fun _ _ => rfl⟩
  have hopen : open_ n ((Array.replicate l.toArray.size false).setIfInBounds p true) = n - 1 := by
    have h1 := open_set (n := n) (listed := Array.replicate l.toArray.size false) hpn (by simp; omega) (getD_replicate_false _ _)
    have h2 : open_ n (Array.replicate l.toArray.size false) = n := by
      unfold open_
      rw [List.filter_eq_self.2 fun i _ => by rw [getD_replicate_false]; rfl]
      simp
    omega
  have := wpAny_of_chain4 p (P := P) (Q := Q) (n := n) (Vs := fun i => L.getD i fun _ _ => True) (a := a1) (w := w.drew) (l := l) hlast (Pan := fun c W => ∀ a', a'.defers = a1.defers → Q (.panic c) a' W) L hheads hnl
    (fun listed inv hlp hun t htn hr => by
      obtain ⟨i, hi, hx⟩ := hun
      exact tail_waitsL hsink hchain inv _ i rfl hi (fun e => by subst e; rw [getD_both hx] at hlp; cases hlp) hx t htn hr)
    (by simpa using hseq) (fun _ => rfl) (fun i o hi ho => l3 i o (by omega) ho) (fun c W hp a' hd => hp a' hd)
    (fun a' W hI => by
      have e : a' = lay l.toArray (fun i => a'.tmps.getD (((l.toArray[i]?).bind (·.dst)).getD 0) undef) n a1 := by
        have ed : a'.defers = (lay l.toArray (fun i => a'.tmps.getD (((l.toArray[i]?).bind (·.dst)).getD 0) undef) n a1).defers := by rw [lay_defers]; exact hI.defers
        have et : a'.tmps = (lay l.toArray (fun i => a'.tmps.getD (((l.toArray[i]?).bind (·.dst)).getD 0) undef) n a1).tmps := by
          refine Array.ext (by rw [lay_size]; exact hI.size) fun t h1 h2 => ?_
          have h3 : t < a1.tmps.size := by rw [← hI.size]; exact h1
          refine Option.some.inj ?_
          rw [← Array.getElem?_eq_getElem h1, ← Array.getElem?_eq_getElem h2]
          cases hf : fills l.toArray n t with
          | none =>
            rw [lay_other _ n a1 fun i hi => fills_none hf i hi]
            have := hI.rest t fun i hi hd => absurd hd (fills_none hf i hi)
            simp only [Array.getD_eq_getD_getElem?, Array.getElem?_eq_getElem h1, Array.getElem?_eq_getElem h3, Option.getD_some] at this
            rw [Array.getElem?_eq_getElem h1, Array.getElem?_eq_getElem h3, this]
          | some k =>
            obtain ⟨hk, hd⟩ := fills_some hf
            obtain ⟨o, d, hdk⟩ := hheads k hk
            have hdt : d = t := by rw [hdk.op] at hd; exact Option.some.inj (hdk.dst.symm.trans hd)
            subst hdt
            rw [lay_at _ n a1 hk hd h3 hdk.only, hd]
            simp only [Option.getD_some, Array.getD_eq_getD_getElem?, Array.getElem?_eq_getElem h1]
        cases a'; cases hlay : lay l.toArray _ n a1
        rw [hlay] at ed et
        simp only at ed et
        rw [ed, et]
      rw [e]
      refine l4 _ W ((Gr.drew w).tr hI.grow) fun i hi => ?_
      obtain ⟨o, d, hd⟩ := hheads i hi
      have hdd : (l.toArray[i]?).bind (·.dst) = some d := by rw [hd.op]; exact hd.dst
      have := hI.done i d hi hdd (by simp [half, hi, show i < l.length by omega])
      simp only [hdd, Option.getD_some]
      exact this)
    (n - 1) ((Array.replicate l.toArray.size false).setIfInBounds p true) a1 w.drew hopen h0 (by rw [hgp]; simp)
  rw [show n - 1 + (l.length - n) = l.length - 1 by omega] at this
  exact this
theorem region4 {id : Nat} {l : List Oper} (n p : Nat) {oi : Oper} {v : Value} (hm : P.follows .mixedOrders = true) (hi : l.toArray[p]? = some oi) (hsel : Region.noSelect l.toArray = true)
    (hfree : Region.free .any l.toArray (Array.replicate l.toArray.size false) p = true) (hrd : (Region.ready .any l.toArray (Array.replicate l.toArray.size false)).contains p = true)
    (hQ : ∀ c a w, Q (.panic c) (a.put oi.dst v) w → Q (.panic c) a w) (hy : Yields P l.toArray oi v a)
    (hok : earlyOk l.toArray n p (a.put oi.dst v).tmps.size = true)
    (h : Chain2 P l.toArray n (a.put oi.dst v).tmps w.drew (fun c W => ∀ a', a'.defers = (a.put oi.dst v).defers → Q (.panic c) a' W) (l.take n) 0 [] fun L =>
      (L.getD (n - 1 - p) fun _ _ => True) v w.drew ∧ ∀ (vs : Nat → Value) (W : World), Gr w W → Holds L n vs W → wpList P l.toArray Q (l.drop n) (lay l.toArray vs n (a.put oi.dst v)) W) :
    (Code.region id l.toArray true).wp P Q a w := by
  have hok0 := hok
  simp only [earlyOk, Bool.and_eq_true, decide_eq_true_eq] at hok0
  have hn : n ≤ l.length := by have := hok0.1.1.1.1.1; simp at this; omega
  have hpn : p < n := hok0.1.1.1.1.2
  refine region_chain4 n p hm hi hsel hfree hrd hQ hy hok ?_
  have h1 := Chain2.chain (k := 0) (Ls := []) rfl (Chain2.len (k := 0) (Ls := []) rfl h)
  have hmono : ∀ {f g : List (Value → World → Prop) → Prop}, (∀ L, f L → g L) → ∀ (r : List Oper) (Ls : List (Value → World → Prop)), Chain P l.toArray n (a.put oi.dst v).tmps w.drew (fun c W => ∀ a', a'.defers = (a.put oi.dst v).defers → Q (.panic c) a' W) r Ls f → Chain P l.toArray n (a.put oi.dst v).tmps w.drew (fun c W => ∀ a', a'.defers = (a.put oi.dst v).defers → Q (.panic c) a' W) r Ls g := by
    intro f g hfg r
    induction r with
    | nil => intro Ls hc; exact hfg _ hc
    | cons o r ih => intro Ls ⟨V, hV, hs, hr⟩; exact ⟨V, hV, hs, ih _ hr⟩
  refine hmono (fun L hL => ?_) _ _ h1
  obtain ⟨hlen, hv0, hf⟩ := hL
  have hl : L.reverse.length = n := by rw [hlen]; simp; omega
  have hl' : L.length = n := by simpa using hl
  refine ⟨?_, ?_⟩
  · have e : L.reverse.getD (n - 1 - p) (fun _ _ => True) = L.getD p (fun _ _ => True) := by
      simp only [List.getD_eq_getElem?_getD]
      rw [List.getElem?_reverse (by omega)]
      congr 2
      omega
    rw [← e]; exact hv0
  intro vs W hg hv
  refine hf vs W hg ?_
  have := Holds.of (Ls := L.reverse) (vs := vs) (W := W) fun i hi => by
    rw [List.reverse_reverse]; exact hv i (by omega)
  rwa [hl] at this
end
end Go.Proofs.YtcngaohfemdfjaaGreat
