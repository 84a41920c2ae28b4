import Derived.Test.YtjlaoiimbhlafaaZT13
namespace Go.Proofs.Ytjlaoiimbhlafaa.Pq
open Go.RowKit

set_option maxHeartbeats 400000 in
theorem overlap_nil (lo hi : Int) (w : World) :
    Calls Try.prog 139 #[.agg #[.int .i64 lo, .int .i64 hi], .slice none 0 0] w fun e w' => e = .returned (.agg #[.int .i64 lo, .int .i64 hi]) ∧ Below w.heap.size w w' := by
  go_enter Try.func139, Try.ntmps139
  go_wp2
  refine wp_loop_rounds 1 ?_
  rw [rounds_succ]
  go_wp2
  exact bodyPost_ret (v := .agg #[.int .i64 lo, .int .i64 hi]) (by simp [results, Try.results139, go_sem]) rfl ⟨rfl, (((Below.refl _ _).alloc (by first | (simp; done) | (simp; omega) | omega) _).alloc (by first | (simp; done) | (simp; omega) | omega) _)⟩

theorem _root_.Go.Proofs.Ytjlaoiimbhlafaa.Box.below {w w' : World} {B b : Nat} {vs : List Value} {T : TypeId} (h : Box w b vs T) (hb : Below B w w') (hlt : b < B) : Box w' b vs T := by
  have h1 := hb.block b hlt
  unfold Box at *
  rw [h1]
  exact h
def spVals (p : Int × Int) : List Value := [.int .i64 p.1, .int .i64 p.2]
theorem SpansAt.own {w : World} {base : Nat} {v : Value} {l : List (Int × Int)} (h : w.ownsRow base 24 2 v l.length (l.flatMap spVals)) (hl : l.length ≤ 1000) (hne : l ≠ []) : SpansAt l v w := by
  have h0 := h
  obtain ⟨_, h1⟩ := h
  rcases h1 with ⟨rfl, hn⟩ | ⟨g, cap, cur, rfl, hg, hb, _⟩
  · exact absurd (List.eq_nil_of_length_eq_zero hn) hne
  · refine ⟨g, 0, cap, rfl, (Array.getElem?_eq_some_iff.1 hb).1, hl, fun i hi => ?_⟩
    have hs : l[i]? = some (l.getD i (0, 0)) := by simp [hi]
    have key : ∀ j, j < 2 → w.cell? ⟨g, i * 2 + j, none⟩ = (spVals (l.getD i (0, 0)))[j]? := fun j hj => by
      rw [h0.cellAt (i * 2 + j) (by omega)]
      exact flat_at spVals 2 (fun _ => rfl) l i j _ hs hj
    rw [Nat.zero_add]
    exact ⟨key 0 (by omega), key 1 (by omega)⟩
theorem SpansAt.none_of_own {w : World} {base : Nat} {v : Value} {xs : List Value} (h : w.ownsRow base 24 2 v 0 xs) (hv : v = .slice none 0 0 ∨ ∃ n, n ≠ 0 ∧ ∃ p c, v = .slice p n c) : v = .slice none 0 0 := by
  rcases hv with hv | ⟨n, hn, p, c, rfl⟩
  · exact hv
  · obtain ⟨_, h1⟩ := h
    rcases h1 with ⟨h1, _⟩ | ⟨g, cap, cur, h1, _⟩
    · exact h1
    · have : n = 0 := by simpa using (Value.slice.inj h1).2.1
      exact absurd this hn
theorem overlap_own (lo hi : Int) (v : Value) (l : List (Int × Int)) (w : World) {base : Nat} (h : w.ownsRow base 24 2 v l.length (l.flatMap spVals)) (hl : l.length ≤ 1000) (hv : l = [] → v = .slice none 0 0) :
    Calls Try.prog 139 #[.agg #[.int .i64 lo, .int .i64 hi], v] w fun e w' => e = .returned (.agg #[.int .i64 (l.foldl ovl (lo, hi)).1, .int .i64 (l.foldl ovl (lo, hi)).2]) ∧ Below w.heap.size w w' := by
  by_cases hne : l = []
  · subst hne
    rw [hv rfl]
    exact overlap_nil lo hi w
  · exact overlap_any lo hi v l w (SpansAt.own h hl hne)
set_option maxHeartbeats 1000000 in
theorem narrow_any (lo hi : Int) (v : Value) (l : List Sg) (w : World) (h : SeenAt l v w) (hl : l.length ≤ 12) (hok : ∀ s ∈ l, s.ok) :
    Calls Try.prog 129 #[.agg #[.int .i64 lo, .int .i64 hi], v, .func (.func 132) #[] #[]] w fun e w' => e = .returned (.agg #[.int .i64 ((l.map Sg.spw).foldl ovl (lo, hi)).1, .int .i64 ((l.map Sg.spw).foldl ovl (lo, hi)).2]) ∧ Below w.heap.size w w' := by
  obtain ⟨i0, ii0, iz0, iz1, iz2⟩ := info_parts Try.info23
  have II0 := Lib.hid ii0
  have IZ0 := Lib.hid iz0
  have IZ1 := Lib.hid iz1
  have IZ2 := Lib.hid iz2
  have HOK := Lib.hid hok
  clear ii0 iz0 iz1 iz2 hok
  obtain ⟨sp, cap, rfl, hlen⟩ := h.len
  generalize hr : (l.map Sg.spw).foldl ovl (lo, hi) = res
  have HR := Lib.hid hr
  clear hr
  go_enter Try.func129, Try.ntmps129
  go_wp2
  have hB := Box.fresh w [.int .i64 lo, .int .i64 hi] 24
  have hC : Box ((w.alloc (.cells #[.int .i64 lo, .int .i64 hi] 24)).alloc (.cells #[.int .i64 0, .int .i64 0] 24)) (w.heap.size + 1) [.int .i64 0, .int .i64 0] 24 := by
    have := Box.fresh (w.alloc (.cells #[.int .i64 lo, .int .i64 hi] 24)) [.int .i64 0, .int .i64 0] 24
    simpa using this
  have hg2 : Gr w ((w.alloc (.cells #[.int .i64 lo, .int .i64 hi] 24)).alloc (.cells #[.int .i64 0, .int .i64 0] 24)) := (Gr.alloc _ _).tr (Gr.alloc _ _)
  have hT := SeenAt.lasts l _ _ _ h hg2
  have hB2 := hB.grow (Gr.alloc _ (.cells #[.int .i64 0, .int .i64 0] 24))
  have hsz : ((w.alloc (.cells #[.int .i64 lo, .int .i64 hi] 24)).alloc (.cells #[.int .i64 0, .int .i64 0] 24)).heap.size = w.heap.size + 2 := by simp
  change Box ((w.alloc (.cells #[.int .i64 lo, .int .i64 hi] 24)).alloc (.cells #[.int .i64 0, .int .i64 0] 24)) w.heap.size [.int .i64 lo, .int .i64 hi] 24 at hB2
  clear hB h
  generalize (w.alloc (.cells #[.int .i64 lo, .int .i64 hi] 24)).alloc (.cells #[.int .i64 0, .int .i64 0] 24) = Wl at *
  have HB := Lib.hid hB2
  have HC := Lib.hid hC
  have HT := Lib.hid hT
  have HW := Lib.hid hg2
  have HS := Lib.hid hsz
  clear hB2 hC hT hg2 hsz
  have hal := @cal
  have hfl := @fal
  go_loopw [7, 12] (fun lst i wr => ∃ k : Nat, k ≤ l.length ∧ i = .int .i64 k ∧ Below (w.heap.size + 2) Wl wr ∧ wr.ownsRow (w.heap.size + 2) 24 2 lst ((l.take k).map Sg.spw).length (((l.take k).map Sg.spw).flatMap spVals) ∧ (k = 0 → lst = .slice none 0 0)) (fun _ i _ => l.length - (intOf i).toNat)
  case atStart => exact ⟨0, Nat.zero_le _, rfl, Below.refl _ _, World.ownsRow_nil _ _ _ _, fun _ => rfl⟩
  case round =>
    obtain ⟨k, hk, rfl, hbw, hown, hnil0⟩ := hrel
    have HBW := Lib.hid hbw
    have HOWN := Lib.hid hown
    have HN0 := Lib.hid hnil0
    clear hbw hown hnil0
    have hsw' : w.heap.size + 2 ≤ wr.heap.size := by have := HS.out; have := HBW.out.size; omega
    by_cases hlt : k < l.length
    · have ht := SeenAt.lasts l _ _ _ HT.out (Below.refl Wl.heap.size Wl)
      rcases ht with ⟨e, -⟩ | ⟨b, o, cap', hsp, hb, hlen', hc⟩
      · rw [e] at hlt; simp at hlt
      obtain ⟨s, hs⟩ : ∃ s, l[k]? = some s := ⟨l[k], List.getElem?_eq_getElem hlt⟩
      have X := hc k s hs
      obtain ⟨hsp1, -, -⟩ : sp = some ⟨b, o, none⟩ ∧ l.length = l.length ∧ cap = cap' := by simpa using hsp
      subst hsp1
      have hbl : b < w.heap.size + 2 := by have := HS.out; omega
      rw [← HBW.out.cell (p := ⟨b, _, none⟩) hbl, ← HBW.out.cell (p := ⟨b, _, none⟩) hbl, ← HBW.out.cell (p := ⟨b, _, none⟩) hbl, ← HBW.out.cell (p := ⟨b, _, none⟩) hbl] at X
      clear hc hsp hb
      have hp1 : l.take (k + 1) = l.take k ++ [s] := by rw [List.take_add_one, hs]; rfl
      have HP := Lib.hid hp1
      have hsok := HOK.out s (List.mem_of_getElem? hs)
      have hpl : ((l.take k).map Sg.spw).length ≤ 12 := by simp; omega
      clear hp1 hs
      generalize hpk : (l.take k).map Sg.spw = pk at *
      have HPK := Lib.hid hpk
      clear hpk
      generalize hq : s.spw = q at *
      have HQ := Lib.hid hq
      clear hq
      have HSP := Lib.hid (steadyPower_any s hsok)
      clear hsok
      obtain ⟨wit, lo', hi', sl⟩ := s
      obtain ⟨wt, wx, hwv⟩ := wit.iface
      have hsv : Sg.val ⟨wit, lo', hi', sl⟩ = .agg #[.iface wt wx, .int .i64 lo', .int .i64 hi', .bool sl] := by simp [Sg.val, hwv]
      simp only [hwv] at X
      have HSV := Lib.hid hsv
      clear hwv hsv
      go_wp2_with (first | (go_at_call 132; rw [← HSV.out]; refine (HSP.out _).mono ?_; rw [HQ.out]; rintro e w1 ⟨rfl, hb1⟩; obtain ⟨hc1, hf1, hz1⟩ := bcell hb1; have hown1 := Lib.hid (own_gr (own_gr (own_gr HOWN.out (Gr.alloc wr _)) hb1) (Gr.alloc w1 (Obj.cells #[.int .i64 q.1, .int .i64 q.2] 24)))) | (at_builtin; refine wpList_append_own _ rfl _ _ 182 rfl (w.heap.size + 2) 24 i0 _ 2 16 Try.underlying182 II0.out IZ0.out IZ1.out IZ2.out rfl (by decide) _ _ _ rfl hown1.out ⟨w1.heap.size, 0, none⟩ 1 1 [.int .i64 q.1, .int .i64 q.2] rfl rfl ?c1 ?c2 ?c3 ?c4 ?c5 ?_))
      case c1 => exact World.news_of_block (cs := #[.int .i64 q.1, .int .i64 q.2]) (t := 24) (fr := (0, 0)) (heap_new w1 _)
      case c2 => simp [Value.oneCell']
      case c3 => unfold maxLen; omega
      case c4 => omega
      case c5 => have := hb1.size; simp at this ⊢; omega
      intro v' w3 hown3 hgrow3 hnil
      have hB1 : Below (w.heap.size + 2) Wl w1 := bgr (bgr HBW.out hsw' (Gr.alloc _ _)) (by simp; omega) hb1
      have hB3 : Below (w.heap.size + 2) Wl w3 := (bgr hB1 (by have := hb1.size; simp at this; omega) (Gr.alloc w1 _)).grown hgrow3 (by have := hb1.size; simp at this ⊢; omega) (fun q e => (hown1.out.lt q e).1)
      have HB3 := Lib.hid hB3
      have HO3 := Lib.hid hown3
      clear hB1 hB3 hown3 hgrow3 hnil hc1 hf1 hz1 hb1
      go_wp2
      refine ⟨⟨k + 1, by omega, by go_num, HB3.out, ?_, fun h => by omega⟩, by simp [intOf]; omega⟩
      rw [HP.out, List.map_append, HPK.out]
      have := HO3.out
      simp only [List.length_append, List.flatMap_append, List.length_cons, List.length_nil, List.flatMap_cons, List.flatMap_nil, List.append_nil, List.map_cons, List.map_nil, HQ.out, spVals]
      exact this
    · have hkl : k = l.length := by omega
      subst hkl
      have hown := HOWN.out
      rw [List.take_length] at hown
      have HO := Lib.hid hown
      have C1 := (HB.out.below HBW.out (by omega)).two
      have C2 := (HC.out.below HBW.out (by omega)).two
      have s1 : w.heap.size < wr.heap.size := by omega
      have s2 : w.heap.size + 1 < wr.heap.size := by omega
      have hBW : Below w.heap.size w wr := Below.trans HW.out (HBW.out.mono (by omega))
      have HBB := Lib.hid hBW
      clear hown hBW
      obtain ⟨c10, c11, f10, f11, -⟩ := C1
      obtain ⟨c20, c21, f20, f21, -⟩ := C2
      go_wp2_with (go_at_call 139; refine (overlap_own lo hi _ (l.map Sg.spw) _ HO.out (by simp; omega) (fun h => HN0.out (by simpa using h))).mono ?_; rw [HR.out]; rintro e w1 ⟨rfl, hb1⟩; obtain ⟨hc1, hf1, hz1⟩ := bcell hb1)
      exact bodyPost_ret (v := .agg #[.int .i64 res.1, .int .i64 res.2]) (by simp [results, Try.results129, go_sem, *]) rfl ⟨rfl, (((bgr HBB.out (by first | (simp; done) | (simp; omega) | omega) hb1).setCell (by first | (simp; done) | (simp; omega) | omega) _).setCell (by first | (simp; done) | (simp; omega) | omega) _)⟩
end Go.Proofs.Ytjlaoiimbhlafaa.Pq
