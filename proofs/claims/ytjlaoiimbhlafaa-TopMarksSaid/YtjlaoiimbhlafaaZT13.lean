import Derived.Deep.AppendLies
import Derived.Laws.EntriesVeiled
import Derived.Test.YtjlaoiimbhlafaaZT12
namespace Go.Proofs.Ytjlaoiimbhlafaa.Pq
open Go.RowKit


theorem _root_.Go.Proofs.Ytjlaoiimbhlafaa.Gr.grown {w w' : World} (h : Gr w w') : w.grownBy w' none := ⟨h.os, h.tape, h.output, h.size, fun k hk _ => h.block k hk⟩
theorem own_gr {w w' : World} {base : Nat} {e : TypeId} {size : Nat} {v : Value} {n : Nat} {xs : List Value} (h : w.ownsRow base e size v n xs) (hg : Gr w w') : w'.ownsRow base e size v n xs :=
  h.kept hg.grown (by cases v.ownBlock <;> simp)
theorem heap_new (w : World) (o : Obj) : (w.alloc o).heap[w.heap.size]? = some o := by
  show (w.heap.push o)[w.heap.size]? = _
  simp
theorem Try.info74 : (Try.prog.info? 127).map (fun i => (i.zero, i.size, i.bytes)) = some (some (.agg #[.nilIface, .int .i64 0, .int .i64 0, .bool false]), 4, 40) := by kernel_rfl
theorem Try.info23 : (Try.prog.info? 24).map (fun i => (i.zero, i.size, i.bytes)) = some (some (.agg #[.int .i64 0, .int .i64 0]), 2, 16) := by kernel_rfl
def Sg.vals (s : Sg) : List Value := [s.wit.val, .int .i64 s.lo, .int .i64 s.hi, .bool s.sl]
theorem flat_at {α : Type} (f : α → List Value) (n : Nat) (hf : ∀ x, (f x).length = n) : ∀ (l : List α) (i j : Nat) (x : α), l[i]? = some x → j < n → (l.flatMap f)[i * n + j]? = (f x)[j]?
  | [], i, j, x, h, _ => by simp at h
  | y :: l, 0, j, x, h, hj => by
    have : y = x := by simpa using h
    subst this
    rw [List.flatMap_cons, Nat.zero_mul, Nat.zero_add, List.getElem?_append_left (by rw [hf]; exact hj)]
  | y :: l, i + 1, j, x, h, hj => by
    rw [List.flatMap_cons, List.getElem?_append_right (by rw [hf, Nat.add_mul]; omega), hf, show (i + 1) * n + j - n = i * n + j by rw [Nat.add_mul]; omega]
    exact flat_at f n hf l i j x (by simpa using h) hj
theorem flat_len {α : Type} (f : α → List Value) (n : Nat) (hf : ∀ x, (f x).length = n) (l : List α) : (l.flatMap f).length = l.length * n := by
  induction l with
  | nil => simp
  | cons y l ih => rw [List.flatMap_cons, List.length_append, ih, hf, List.length_cons, Nat.add_mul]; omega
theorem SeenAt.own {w : World} {base : Nat} {v : Value} {l : List Sg} (h : w.ownsRow base 127 4 v l.length (l.flatMap Sg.vals)) (hl : l.length ≤ 1000) : SeenAt l v w := by
  have h0 := h
  obtain ⟨_, h1⟩ := h
  rcases h1 with ⟨rfl, hn⟩ | ⟨g, cap, cur, rfl, hg, hb, _⟩
  · exact .inl ⟨List.eq_nil_of_length_eq_zero hn, rfl⟩
  · refine .inr ⟨g, 0, cap, rfl, (Array.getElem?_eq_some_iff.1 hb).1, hl, fun i s hi => ?_⟩
    have hlt : i < l.length := (List.getElem?_eq_some_iff.1 hi).1
    have key : ∀ j, j < 4 → w.cell? ⟨g, i * 4 + j, none⟩ = s.vals[j]? := fun j hj => by
      rw [h0.cellAt (i * 4 + j) (by omega)]
      exact flat_at Sg.vals 4 (fun _ => rfl) l i j s hi hj
    rw [Nat.zero_add]
    exact ⟨key 0 (by omega), key 1 (by omega), key 2 (by omega), key 3 (by omega)⟩

/-- The things of a set, among the first k. -/
def pickTo (l : List Sg) (m : Nat) : Nat → List Sg
  | 0 => []
  | k + 1 => if m.testBit k then pickTo l m k ++ (l[k]?).toList else pickTo l m k
theorem pickTo_len (l : List Sg) (m : Nat) : ∀ k, (pickTo l m k).length ≤ k
  | 0 => Nat.le_refl _
  | k + 1 => by
    have := pickTo_len l m k
    unfold pickTo
    split
    · rw [List.length_append]
      cases l[k]? <;> simp <;> omega
    · omega
theorem Sg.one (s : Sg) : ∀ u ∈ s.vals, u.oneCell' = true := by
  obtain ⟨wit, lo, hi, sl⟩ := s
  intro u hu
  cases wit <;> simp [Sg.vals, Wit.val] at hu <;> rcases hu with rfl | rfl | rfl | rfl <;> rfl
set_option maxHeartbeats 1000000 in
theorem pick_any (fl fh bl bh ti ne fa : Int) (th sv : Value) (plo phi : Int) (l : List Sg) (m : Nat) (w : World) (h : SeenAt l sv w) (hl : l.length ≤ 12) (hm : m < 4096) :
    Calls Try.prog 130 #[.agg #[.int .i64 fl, .int .i64 fh, .int .i64 bl, .int .i64 bh, .int .i64 ti, .int .i64 ne, .int .i64 fa, th, sv, .int .i64 plo, .int .i64 phi], .func (.func 131) #[.int .i64 m] #[]] w fun e w' => (∃ v, e = .returned v ∧ SeenAt (pickTo l m l.length) v w') ∧ Below w.heap.size w w' := by
  have hpost : ∀ (e : Ending) (w' : World), (∃ v, e = .returned v ∧ w'.ownsRow (w.heap.size + 1) 127 4 v (pickTo l m l.length).length ((pickTo l m l.length).flatMap Sg.vals) ∧ Below w.heap.size w w') → (∃ v, e = .returned v ∧ SeenAt (pickTo l m l.length) v w') ∧ Below w.heap.size w w' := fun e w' ⟨v, h1, h2, h3⟩ =>
    ⟨⟨v, h1, SeenAt.own h2 (by have := pickTo_len l m l.length; omega)⟩, h3⟩
  refine Calls.mono ?_ hpost
  clear hpost
  obtain ⟨i0, ii0, iz0, iz1, iz2⟩ := info_parts Try.info74
  have II0 := Lib.hid ii0
  have IZ0 := Lib.hid iz0
  have IZ1 := Lib.hid iz1
  have IZ2 := Lib.hid iz2
  clear ii0 iz0 iz1 iz2
  obtain ⟨sp, cap, rfl, hlen⟩ := h.len
  go_enter Try.func130, Try.ntmps130
  go_wp2
  have hB := Box.fresh w [.int .i64 fl, .int .i64 fh, .int .i64 bl, .int .i64 bh, .int .i64 ti, .int .i64 ne, .int .i64 fa, th, (.slice sp l.length cap), .int .i64 plo, .int .i64 phi] 123
  have hT : SeenAt l (.slice sp l.length cap) (w.alloc (.cells #[.int .i64 fl, .int .i64 fh, .int .i64 bl, .int .i64 bh, .int .i64 ti, .int .i64 ne, .int .i64 fa, th, .slice sp l.length cap, .int .i64 plo, .int .i64 phi] 123)) := SeenAt.lasts l _ _ _ h (Gr.alloc _ _)
  have hW : Below w.heap.size w (w.alloc (.cells #[.int .i64 fl, .int .i64 fh, .int .i64 bl, .int .i64 bh, .int .i64 ti, .int .i64 ne, .int .i64 fa, th, .slice sp l.length cap, .int .i64 plo, .int .i64 phi] 123)) := (Below.refl _ _).alloc (Nat.le_refl _) _
  have hsz : (w.alloc (.cells #[.int .i64 fl, .int .i64 fh, .int .i64 bl, .int .i64 bh, .int .i64 ti, .int .i64 ne, .int .i64 fa, th, .slice sp l.length cap, .int .i64 plo, .int .i64 phi] 123)).heap.size = w.heap.size + 1 := by simp
  change Box (w.alloc (.cells #[.int .i64 fl, .int .i64 fh, .int .i64 bl, .int .i64 bh, .int .i64 ti, .int .i64 ne, .int .i64 fa, th, .slice sp l.length cap, .int .i64 plo, .int .i64 phi] 123)) w.heap.size [.int .i64 fl, .int .i64 fh, .int .i64 bl, .int .i64 bh, .int .i64 ti, .int .i64 ne, .int .i64 fa, th, .slice sp l.length cap, .int .i64 plo, .int .i64 phi] 123 at hB
  generalize w.alloc (.cells #[.int .i64 fl, .int .i64 fh, .int .i64 bl, .int .i64 bh, .int .i64 ti, .int .i64 ne, .int .i64 fa, th, .slice sp l.length cap, .int .i64 plo, .int .i64 phi] 123) = Wl at *
  have HB := Lib.hid hB
  have HT := Lib.hid hT
  have HW := Lib.hid hW
  have HS := Lib.hid hsz
  clear hB hT hW hsz h
  have hal := @cal
  have hfl := @fal
  go_loopw [5, 11] (fun lst i wr => ∃ k : Nat, k ≤ l.length ∧ i = .int .i64 k ∧ Below (w.heap.size + 1) Wl wr ∧ wr.ownsRow (w.heap.size + 1) 127 4 lst (pickTo l m k).length ((pickTo l m k).flatMap Sg.vals)) (fun _ i _ => l.length - (intOf i).toNat)
  case atStart => exact ⟨0, Nat.zero_le _, rfl, Below.refl _ _, World.ownsRow_nil _ _ _ _⟩
  case round =>
    obtain ⟨k, hk, rfl, hbw, hown⟩ := hrel
    have HBW := Lib.hid hbw
    have HOWN := Lib.hid hown
    clear hbw hown
    by_cases hlt : k < l.length
    · have ht := SeenAt.lasts l _ _ _ HT.out (Below.refl Wl.heap.size Wl)
      rcases ht with ⟨e, -⟩ | ⟨b, o, cap', hsp, hb, hlen', hc⟩
      · rw [e] at hlt; simp at hlt
      obtain ⟨s, hs⟩ : ∃ s, l[k]? = some s := ⟨l[k], List.getElem?_eq_getElem hlt⟩
      have X := hc k s hs
      obtain ⟨hsp1, -, -⟩ : sp = some ⟨b, o, none⟩ ∧ l.length = l.length ∧ cap = cap' := by simpa using hsp
      subst hsp1
      have hbl : b < w.heap.size + 1 := by have := HS.out; omega
      rw [← HBW.out.cell (p := ⟨b, _, none⟩) hbl, ← HBW.out.cell (p := ⟨b, _, none⟩) hbl, ← HBW.out.cell (p := ⟨b, _, none⟩) hbl, ← HBW.out.cell (p := ⟨b, _, none⟩) hbl] at X
      clear hc hsp hb
      have hp1 : pickTo l m (k + 1) = if m.testBit k then pickTo l m k ++ [s] else pickTo l m k := by simp [pickTo, hs]
      have HP := Lib.hid hp1
      have hone := Lib.hid (Sg.one s)
      have hk12 : k < 12 := by omega
      have hpl := pickTo_len l m k
      have hsw : Wl.heap.size ≤ wr.heap.size := HBW.out.size
      have hsw' : w.heap.size + 1 ≤ wr.heap.size := by have := HS.out; omega
      clear hp1 hs
      obtain ⟨wit, lo, hi, sl⟩ := s
      obtain ⟨wt, wx, hwv⟩ := wit.iface
      simp only [hwv] at X
      have HWV := Lib.hid hwv
      clear hwv
      generalize pickTo l m k = pk at *
      by_cases hbit : m.testBit k = true
      · have hpk := HP.out
        rw [if_pos hbit] at hpk
        have HPK := Lib.hid hpk
        clear hpk
        go_wp2_with (first | (go_at_call 131; refine (has_any m k _ hk12 hm).mono ?_; rintro e w1 ⟨rfl, hb1⟩; obtain ⟨hc1, hf1, hz1⟩ := bcell hb1; have hown1 := Lib.hid (own_gr (own_gr (own_gr HOWN.out (Gr.alloc wr _)) hb1) (Gr.alloc w1 (Obj.cells #[.iface wt wx, .int .i64 lo, .int .i64 hi, .bool sl] 127)))) | (at_builtin; refine wpList_append_own _ rfl _ _ 121 rfl (w.heap.size + 1) 127 i0 _ 4 40 Try.underlying121 II0.out IZ0.out IZ1.out IZ2.out rfl (by decide) _ _ _ rfl hown1.out ⟨w1.heap.size, 0, none⟩ 1 1 [.iface wt wx, .int .i64 lo, .int .i64 hi, .bool sl] rfl rfl ?c1 ?c2 ?c3 ?c4 ?c5 ?_))
        case c1 => exact World.news_of_block (cs := #[.iface wt wx, .int .i64 lo, .int .i64 hi, .bool sl]) (t := 127) (fr := (0, 0)) (heap_new w1 _)
        case c2 => simp [Value.oneCell']
        case c3 => unfold maxLen; omega
        case c4 => omega
        case c5 => have := hb1.size; simp at this ⊢; omega
        intro v' w3 hown3 hgrow3 hnil
        have hB1 : Below (w.heap.size + 1) Wl w1 := bgr (bgr HBW.out hsw' (Gr.alloc _ _)) (by simp; omega) hb1
        have hB3 : Below (w.heap.size + 1) Wl w3 := (bgr hB1 (by have := hb1.size; simp at this; omega) (Gr.alloc w1 _)).grown hgrow3 (by have := hb1.size; simp at this ⊢; omega) (fun q e => (hown1.out.lt q e).1)
        have HB3 := Lib.hid hB3
        have HO3 := Lib.hid hown3
        clear hB1 hB3 hown3 hgrow3 hnil hc1 hf1 hz1 hb1
        go_wp2
        refine ⟨⟨k + 1, by omega, by go_num, HB3.out, ?_⟩, by simp [intOf]; omega⟩
        rw [HPK.out]
        have := HO3.out
        simp only [List.length_append, List.flatMap_append, List.length_cons, List.length_nil, List.flatMap_cons, List.flatMap_nil, List.append_nil, Sg.vals, HWV.out]
        exact this
      · have hb' : m.testBit k = false := by simpa using hbit
        have hpk := HP.out
        rw [if_neg hbit] at hpk
        have HPK := Lib.hid hpk
        clear hpk hbit
        go_wp2_with (go_at_call 131; refine (has_any m k _ hk12 hm).mono ?_; rintro e w1 ⟨rfl, hb1⟩; obtain ⟨hc1, hf1, hz1⟩ := bcell hb1)
        refine ⟨⟨k + 1, by omega, by go_num, bgr (bgr HBW.out hsw' (Gr.alloc _ _)) (by simp; omega) hb1, ?_⟩, by simp [intOf]; omega⟩
        rw [HPK.out]
        exact own_gr (own_gr HOWN.out (Gr.alloc wr _)) hb1
    · have hkl : k = l.length := by omega
      subst hkl
      go_wp2
      go_ret
      exact ⟨_, rfl, HOWN.out, HW.out.trans (HBW.out.mono (by omega))⟩
end Go.Proofs.Ytjlaoiimbhlafaa.Pq
