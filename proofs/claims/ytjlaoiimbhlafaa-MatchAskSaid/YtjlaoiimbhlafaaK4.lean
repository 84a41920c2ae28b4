import Derived.Test.YtjlaoiimbhlafaaK3
import Derived.Test.YtjlaoiimbhlafaaK1b
import Derived.Test.YtjlaoiimbhlafaaW3
set_option linter.unusedVariables false
set_option linter.unusedSimpArgs false
namespace Go.Proofs.Ytjlaoiimbhlafaa
open Go.RowKit Go.Shelf

open MW
attribute [local go_sem] Oper.semAt_some run_store_func
attribute [local go_sem ↓] Go.wp_at_zero Go.wp_at_succ
theorem Mw.mks {l : List Mrk} {p : Option Addr} {c n0 : Nat} {W : World} (h : Mw l (.slice p l.length c) n0 W) (hl : l.length ≤ 1000) : MksAt l p W ∧ l.length ≤ c ∧ (l ≠ [] → ∃ g, p = some ⟨g, 0, none⟩ ∧ n0 ≤ g ∧ g < W.heap.size ∧ (∀ j u, (l.flatMap Mrk.cs)[j]? = some u → W.cell? ⟨g, j, none⟩ = some u) ∧ ∀ j, W.frozen? ⟨g, j, none⟩ = false) := by
  rcases h with h | ⟨rfl, g, hv, hg⟩
  · obtain ⟨p', c', hv, hm⟩ := own_marks h rfl hl
    obtain ⟨rfl, rfl⟩ : p = p' ∧ c = c' := by simpa using hv
    have h' := h
    obtain ⟨-, h1⟩ := h
    rcases h1 with ⟨h0, h2⟩ | ⟨g, cap, cur, hv2, hge, hcur, hcap, -⟩
    · have : l = [] := List.length_eq_zero_iff.1 h2
      subst this
      exact ⟨hm, by simp, fun h => absurd rfl h⟩
    · obtain ⟨rfl, rfl⟩ : p = some ⟨g, 0, none⟩ ∧ c = cap := by simpa using hv2
      refine ⟨hm, by simpa using hcap, fun _ => ⟨g, rfl, hge, (Array.getElem?_eq_some_iff.1 hcur).1, fun j u hj => ?_, fun j => ?_⟩⟩
      · have := World.ownsRow.cells h' (g := g) rfl j u hj
        rwa [addz] at this
      · exact (show Box W g cur.toList 65 by unfold Box; simpa using hcur).free j
  · exact ⟨⟨by simp, fun i m hm => by simp at hm⟩, by simp, fun h => absurd rfl h⟩
theorem MksAt.none' (p : Option Addr) (W : World) : MksAt [] p W := ⟨by simp, fun i m hm => by simp at hm⟩
theorem MksAt.of_flat {l : List Mrk} {g : Nat} {W : World} (h : ∀ j u, (l.flatMap Mrk.cs)[j]? = some u → W.cell? ⟨g, j, none⟩ = some u) (hg : g < W.heap.size) (hl : l.length ≤ 1000) : MksAt l (some ⟨g, 0, none⟩) W := by
  refine ⟨hl, fun i m hm => ⟨g, 0, rfl, hg, ?_⟩⟩
  obtain ⟨h1, h2, h3, h4⟩ := mks_flat_at l i m hm
  exact ⟨by rw [Nat.zero_add]; exact h _ _ h1, by rw [Nat.zero_add]; exact h _ _ h2, by rw [Nat.zero_add]; exact h _ _ h3, by rw [Nat.zero_add]; exact h _ _ h4⟩
theorem MksAt.setC {l : List Mrk} {p : Option Addr} {g o : Nat} {W : World} {vs : List Value} (h : MksAt l p W) (hp : ∀ c o, p = some ⟨c, o, none⟩ → c ≠ g) : MksAt l p (W.setCells g o vs) := by
  refine ⟨h.1, fun i m hm => ?_⟩
  obtain ⟨c, q, h1, h2, h3, h4, h5, h6⟩ := h.2 i m hm
  have hn := hp c q h1
  have e : ∀ k, (W.setCells g o vs).cell? ⟨c, k, none⟩ = W.cell? ⟨c, k, none⟩ := fun k => by simp only [World.cell?, heap_setC g vs o W c hn]
  have hz : c < (W.setCells g o vs).heap.size := by
    have h7 := heap_setC g vs o W c hn
    rw [Array.getElem?_eq_getElem h2] at h7
    exact (Array.getElem?_eq_some_iff.1 h7).1
  exact ⟨c, q, h1, hz, by rw [e]; exact h3, by rw [e]; exact h4, by rw [e]; exact h5, by rw [e]; exact h6⟩
theorem below_setC {n0 g : Nat} {a : World} (hg : n0 ≤ g) : ∀ (vs : List Value) (o : Nat) (W : World), Below n0 a W → Below n0 a (W.setCells g o vs)
  | [], _, _, h => h
  | v :: vs, o, W, h => below_setC hg vs (o + 1) _ (Below.setCell h hg _)
theorem flat_less (l : List Mrk) (i : Nat) (hi : i < l.length) (g : Nat) (w : World) (h : ∀ j u, (l.flatMap Mrk.cs)[j]? = some u → w.cell? ⟨g, j, none⟩ = some u) :
    ∀ j u, ((l.take i ++ l.drop (i + 1)).flatMap Mrk.cs)[j]? = some u → (w.setCells g (i * 4) ((l.drop (i + 1)).flatMap Mrk.cs)).cell? ⟨g, j, none⟩ = some u := by
  intro j u hj
  rw [List.flatMap_append] at hj
  have ht : ((l.take i).flatMap Mrk.cs).length = i * 4 := by rw [flat_cs_len]; simp; omega
  by_cases hlt : j < i * 4
  · rw [List.getElem?_append_left (by omega)] at hj
    rw [World.cell?_setCells_out _ _ _ _ _ (fun _ _ => .inl hlt)]
    refine h j u ?_
    have e : l.flatMap Mrk.cs = (l.take i).flatMap Mrk.cs ++ (l.drop i).flatMap Mrk.cs := by rw [← List.flatMap_append, List.take_append_drop]
    rw [e, List.getElem?_append_left (by omega)]
    exact hj
  · rw [List.getElem?_append_right (by omega), ht] at hj
    obtain ⟨k, rfl⟩ : ∃ k, j = i * 4 + k := ⟨j - i * 4, by omega⟩
    rw [show i * 4 + k - i * 4 = k by omega] at hj
    obtain ⟨hk, e⟩ := List.getElem?_eq_some_iff.1 hj
    rw [World.cell?_setCells_in g _ _ w (fun q hq => ?_) k hk, e]
    obtain ⟨v, hv⟩ : ∃ v, (l.flatMap Mrk.cs)[i * 4 + q]? = some v := ⟨_, List.getElem?_eq_getElem (by
      rw [flat_cs_len] at hq ⊢
      simp at hq
      omega)⟩
    rw [h _ v hv]
    rfl
set_option maxRecDepth 100000 in
set_option maxHeartbeats 8000000 in
theorem known41_part (r : Rr) (i k : Nat) (w : World) (hl : MksAt r.L r.lp w) (hr : MksAt r.R r.rp w) (hi : i ≤ r.L.length) (hk : k ≤ r.R.length) (b1 : r.L.length ≤ 10) (b2 : r.R.length ≤ 10) :
    Calls Try.prog 41 #[r.val, .int .i64 i, .int .i64 k] w fun e w' => (∃ pL cL pR cR, e = .returned (.tuple #[.agg #[.slice pL i cL, .slice pR k cR, .int .i64 r.s, .int .i64 r.t, .int .i64 r.h], .bool true]) ∧ MksAt (r.L.take i) pL w' ∧ MksAt (r.R.take k) pR w') ∧ Below w.heap.size w w' := by
  have HML := Lib.hid hl
  have HMR := Lib.hid hr
  have HW1 := Lib.hid (show Gr w (w.alloc (Obj.cells r.cs.toArray 26)) from Gr.alloc _ _)
  have HW2 := Lib.hid (HW1.out.tr (Gr.alloc _ (Obj.cells #[.slice none 0 0, .slice none 0 0, .int .i64 0, .int .i64 0, .int .i64 0] 26)))
  have HW3 := Lib.hid (HW2.out.tr (Gr.alloc _ (Obj.cells r.cs.toArray 26)))
  have HB := Lib.hid (((Box.fresh w r.cs 26).grow (Gr.alloc _ (Obj.cells #[.slice none 0 0, .slice none 0 0, .int .i64 0, .int .i64 0, .int .i64 0] 26))).grow (Gr.alloc _ (Obj.cells r.cs.toArray 26)))
  have HB6 := Lib.hid (show Box (((w.alloc (Obj.cells r.cs.toArray 26)).alloc (Obj.cells #[.slice none 0 0, .slice none 0 0, .int .i64 0, .int .i64 0, .int .i64 0] 26)).alloc (Obj.cells r.cs.toArray 26)) (w.heap.size + 1) [.slice none 0 0, .slice none 0 0, .int .i64 0, .int .i64 0, .int .i64 0] 26 by
    have := (Box.fresh (w.alloc (Obj.cells r.cs.toArray 26)) [.slice none 0 0, .slice none 0 0, .int .i64 0, .int .i64 0, .int .i64 0] 26).grow (Gr.alloc _ (Obj.cells r.cs.toArray 26))
    simpa using this)
  have HBX := Lib.hid (show Box (((w.alloc (Obj.cells r.cs.toArray 26)).alloc (Obj.cells #[.slice none 0 0, .slice none 0 0, .int .i64 0, .int .i64 0, .int .i64 0] 26)).alloc (Obj.cells r.cs.toArray 26)) (w.heap.size + 2) r.cs 26 by
    have := Box.fresh ((w.alloc (Obj.cells r.cs.toArray 26)).alloc (Obj.cells #[.slice none 0 0, .slice none 0 0, .int .i64 0, .int .i64 0, .int .i64 0] 26)) r.cs 26
    simpa using this)
  have hz := (show (((w.alloc (Obj.cells r.cs.toArray 26)).alloc (Obj.cells #[.slice none 0 0, .slice none 0 0, .int .i64 0, .int .i64 0, .int .i64 0] 26)).alloc (Obj.cells r.cs.toArray 26)).heap.size = w.heap.size + 3 by simp)
  have HZ := Lib.hid hz
  clear hz hl hr
  have HB2 := Lib.hid ((Box.fresh w r.cs 26).grow (Gr.alloc _ (Obj.cells #[.slice none 0 0, .slice none 0 0, .int .i64 0, .int .i64 0, .int .i64 0] 26)))
  unfold Rr.cs at HW1 HW2 HW3 HB HB6 HBX HB2 HZ
  unfold Rr.val
  obtain ⟨r0, r1, r2, r3, r4⟩ := cells5 HB2.out
  have rl := HB2.out.lt
  go_enter Try.func41, Try.ntmps41
  apply wp_seq_k
  intro K1 hK1
  have HK1 := Lib.hid hK1
  clear hK1
  go_wp2_with fail
  refine HK1.out _ _ ?_
  clear HK1
  apply wp_seq_k
  intro K1 hK1
  have HK1 := Lib.hid hK1
  clear hK1
  go_wp2_with fail
  refine HK1.out _ _ ?_
  clear HK1 r0 r1 r2 r3 r4 rl HB2 HW1 HW2
  generalize (((w.alloc (Obj.cells #[.slice r.lp r.L.length r.lc, .slice r.rp r.R.length r.rc, .int .i64 r.s, .int .i64 r.t, .int .i64 r.h] 26)).alloc (Obj.cells #[.slice none 0 0, .slice none 0 0, .int .i64 0, .int .i64 0, .int .i64 0] 26)).alloc (Obj.cells #[.slice r.lp r.L.length r.lc, .slice r.rp r.R.length r.rc, .int .i64 r.s, .int .i64 r.t, .int .i64 r.h] 26)) = w1 at *
  refine known_copy2 r (i : Int) (k : Int) w.heap.size (w.heap.size + 1) (w.heap.size + 2) _ w1 HB HBX (Lib.hid (HML.out.grow HW3.out)) (Lib.hid (HMR.out.grow HW3.out)) (by omega) ?_ (by omega)
  intro pL cL pR cR W n1 hG hmL hmR hn1 hapt
  rw [HZ.out] at hmL hn1
  obtain ⟨mL, capL, owL⟩ := Mw.mks hmL (by omega)
  obtain ⟨mR, capR, owR⟩ := Mw.mks (own_mw hmR hn1) (by omega)
  obtain ⟨-, owR2⟩ := Mw.mks2 hmR (by omega)
  have hsz : w.heap.size + 3 ≤ W.heap.size := by have := hG.size; rw [HZ.out] at this; exact this
  have HX := Lib.hid (((Ox.same (w.heap.size + 2) (w.heap.size + 1) W).set (.inl rfl) 0 (.slice pL r.L.length cL)).set (.inl rfl) 1 (.slice pR r.R.length cR))
  have HQX := Lib.hid (((HBX.out.grow hG).put 0 (.slice pL r.L.length cL)).put 1 (.slice pR r.R.length cR))
  have HQ6 := Lib.hid (((HB6.out.grow hG).other (show w.heap.size + 1 ≠ w.heap.size + 2 by omega) 0 (.slice pL r.L.length cL)).other (show w.heap.size + 1 ≠ w.heap.size + 2 by omega) 1 (.slice pR r.R.length cR))
  have HQ0 := Lib.hid (((HB.out.grow hG).other (show w.heap.size ≠ w.heap.size + 2 by omega) 0 (.slice pL r.L.length cL)).other (show w.heap.size ≠ w.heap.size + 2 by omega) 1 (.slice pR r.R.length cR))
  have HGW := Lib.hid (HW3.out.tr hG)
  have hap : ∀ (l : List Mrk) (p : Option Addr), MksAt l p W → (l ≠ [] → ∃ g, p = some ⟨g, 0, none⟩ ∧ w.heap.size + 3 ≤ g ∧ g < W.heap.size ∧ (∀ j u, (l.flatMap Mrk.cs)[j]? = some u → W.cell? ⟨g, j, none⟩ = some u) ∧ ∀ j, W.frozen? ⟨g, j, none⟩ = false) → ∀ W', Ox (w.heap.size + 2) (w.heap.size + 1) W W' → MksAt l p W' := fun l p hm how W' ho => by
    by_cases hl0 : l = []
    · subst hl0; exact MksAt.none' p W'
    · obtain ⟨g, rfl, hg, -⟩ := how hl0
      exact hm.ox ho fun c o e => by cases e; exact ⟨by omega, by omega⟩
  intros
  refine known_part r i k w.heap.size (w.heap.size + 1) (w.heap.size + 2) _ _ pL pR cL cR hi hk capL capR b1 b2 HQ6 HQX (by omega) ?_
  intro W' ho
  have ho' := HX.out.tr ho
  exact ⟨⟨pL, cL, pR, cR, rfl, (hap _ _ mL owL _ ho').take i, (hap _ _ mR owR _ ho').take k⟩, HGW.out.trans (ho'.below (by omega) (by omega) (by omega))⟩
set_option maxRecDepth 100000 in
set_option maxHeartbeats 8000000 in
theorem known41_none (r : Rr) (i : Nat) (w : World) (hl : MksAt r.L r.lp w) (hr : MksAt r.R r.rp w) (hi : i < r.L.length) (b1 : r.L.length ≤ 10) (b2 : r.R.length ≤ 10) (hh : 0 ≤ r.h ∧ r.h ≤ 20) :
    Calls Try.prog 41 #[r.val, .int .i64 i, .int .i64 (-1)] w fun e w' => (∃ pL cL pR cR, e = .returned (.tuple #[.agg #[.slice pL (i + (r.L.length - (i + 1))) cL, .slice pR r.R.length cR, .int .i64 r.s, .int .i64 r.t, .int .i64 (r.h - 1)], .bool (decide (1 ≤ r.h))]) ∧ MksAt (r.L.take i ++ r.L.drop (i + 1)) pL w' ∧ MksAt r.R pR w') ∧ Below w.heap.size w w' := by
  have HML := Lib.hid hl
  have HMR := Lib.hid hr
  have HW1 := Lib.hid (show Gr w (w.alloc (Obj.cells r.cs.toArray 26)) from Gr.alloc _ _)
  have HW2 := Lib.hid (HW1.out.tr (Gr.alloc _ (Obj.cells #[.slice none 0 0, .slice none 0 0, .int .i64 0, .int .i64 0, .int .i64 0] 26)))
  have HW3 := Lib.hid (HW2.out.tr (Gr.alloc _ (Obj.cells r.cs.toArray 26)))
  have HB := Lib.hid (((Box.fresh w r.cs 26).grow (Gr.alloc _ (Obj.cells #[.slice none 0 0, .slice none 0 0, .int .i64 0, .int .i64 0, .int .i64 0] 26))).grow (Gr.alloc _ (Obj.cells r.cs.toArray 26)))
  have HB6 := Lib.hid (show Box (((w.alloc (Obj.cells r.cs.toArray 26)).alloc (Obj.cells #[.slice none 0 0, .slice none 0 0, .int .i64 0, .int .i64 0, .int .i64 0] 26)).alloc (Obj.cells r.cs.toArray 26)) (w.heap.size + 1) [.slice none 0 0, .slice none 0 0, .int .i64 0, .int .i64 0, .int .i64 0] 26 by
    have := (Box.fresh (w.alloc (Obj.cells r.cs.toArray 26)) [.slice none 0 0, .slice none 0 0, .int .i64 0, .int .i64 0, .int .i64 0] 26).grow (Gr.alloc _ (Obj.cells r.cs.toArray 26))
    simpa using this)
  have HBX := Lib.hid (show Box (((w.alloc (Obj.cells r.cs.toArray 26)).alloc (Obj.cells #[.slice none 0 0, .slice none 0 0, .int .i64 0, .int .i64 0, .int .i64 0] 26)).alloc (Obj.cells r.cs.toArray 26)) (w.heap.size + 2) r.cs 26 by
    have := Box.fresh ((w.alloc (Obj.cells r.cs.toArray 26)).alloc (Obj.cells #[.slice none 0 0, .slice none 0 0, .int .i64 0, .int .i64 0, .int .i64 0] 26)) r.cs 26
    simpa using this)
  have hz := (show (((w.alloc (Obj.cells r.cs.toArray 26)).alloc (Obj.cells #[.slice none 0 0, .slice none 0 0, .int .i64 0, .int .i64 0, .int .i64 0] 26)).alloc (Obj.cells r.cs.toArray 26)).heap.size = w.heap.size + 3 by simp)
  have HZ := Lib.hid hz
  clear hz hl hr
  have HB2 := Lib.hid ((Box.fresh w r.cs 26).grow (Gr.alloc _ (Obj.cells #[.slice none 0 0, .slice none 0 0, .int .i64 0, .int .i64 0, .int .i64 0] 26)))
  unfold Rr.cs at HW1 HW2 HW3 HB HB6 HBX HB2 HZ
  unfold Rr.val
  obtain ⟨r0, r1, r2, r3, r4⟩ := cells5 HB2.out
  have rl := HB2.out.lt
  go_enter Try.func41, Try.ntmps41
  apply wp_seq_k
  intro K1 hK1
  have HK1 := Lib.hid hK1
  clear hK1
  go_wp2_with fail
  refine HK1.out _ _ ?_
  clear HK1
  apply wp_seq_k
  intro K1 hK1
  have HK1 := Lib.hid hK1
  clear hK1
  go_wp2_with fail
  refine HK1.out _ _ ?_
  clear HK1 r0 r1 r2 r3 r4 rl HB2 HW1 HW2
  generalize (((w.alloc (Obj.cells #[.slice r.lp r.L.length r.lc, .slice r.rp r.R.length r.rc, .int .i64 r.s, .int .i64 r.t, .int .i64 r.h] 26)).alloc (Obj.cells #[.slice none 0 0, .slice none 0 0, .int .i64 0, .int .i64 0, .int .i64 0] 26)).alloc (Obj.cells #[.slice r.lp r.L.length r.lc, .slice r.rp r.R.length r.rc, .int .i64 r.s, .int .i64 r.t, .int .i64 r.h] 26)) = w1 at *
  refine known_copy2 r (i : Int) (-1) w.heap.size (w.heap.size + 1) (w.heap.size + 2) _ w1 HB HBX (Lib.hid (HML.out.grow HW3.out)) (Lib.hid (HMR.out.grow HW3.out)) (by omega) ?_ (by omega)
  intro pL cL pR cR W n1 hG hmL hmR hn1 hapt
  rw [HZ.out] at hmL hn1
  obtain ⟨mL, capL, owL⟩ := Mw.mks hmL (by omega)
  obtain ⟨mR, capR, owR⟩ := Mw.mks (own_mw hmR hn1) (by omega)
  obtain ⟨-, owR2⟩ := Mw.mks2 hmR (by omega)
  have hsz : w.heap.size + 3 ≤ W.heap.size := by have := hG.size; rw [HZ.out] at this; exact this
  have HX := Lib.hid (((Ox.same (w.heap.size + 2) (w.heap.size + 1) W).set (.inl rfl) 0 (.slice pL r.L.length cL)).set (.inl rfl) 1 (.slice pR r.R.length cR))
  have HQX := Lib.hid (((HBX.out.grow hG).put 0 (.slice pL r.L.length cL)).put 1 (.slice pR r.R.length cR))
  have HQ6 := Lib.hid (((HB6.out.grow hG).other (show w.heap.size + 1 ≠ w.heap.size + 2 by omega) 0 (.slice pL r.L.length cL)).other (show w.heap.size + 1 ≠ w.heap.size + 2 by omega) 1 (.slice pR r.R.length cR))
  have HQ0 := Lib.hid (((HB.out.grow hG).other (show w.heap.size ≠ w.heap.size + 2 by omega) 0 (.slice pL r.L.length cL)).other (show w.heap.size ≠ w.heap.size + 2 by omega) 1 (.slice pR r.R.length cR))
  have HGW := Lib.hid (HW3.out.tr hG)
  have hap : ∀ (l : List Mrk) (p : Option Addr), MksAt l p W → (l ≠ [] → ∃ g, p = some ⟨g, 0, none⟩ ∧ w.heap.size + 3 ≤ g ∧ g < W.heap.size ∧ (∀ j u, (l.flatMap Mrk.cs)[j]? = some u → W.cell? ⟨g, j, none⟩ = some u) ∧ ∀ j, W.frozen? ⟨g, j, none⟩ = false) → ∀ W', Ox (w.heap.size + 2) (w.heap.size + 1) W W' → MksAt l p W' := fun l p hm how W' ho => by
    by_cases hl0 : l = []
    · subst hl0; exact MksAt.none' p W'
    · obtain ⟨g, rfl, hg, -⟩ := how hl0
      exact hm.ox ho fun c o e => by cases e; exact ⟨by omega, by omega⟩
  intros
  have hLn : r.L ≠ [] := fun e => by rw [e] at hi; simp at hi
  obtain ⟨g, rfl, hg1, hg2, hfl, hfz⟩ := owL hLn
  have hfl' : ∀ j u, (r.L.flatMap Mrk.cs)[j]? = some u → (((W.setCell ⟨w.heap.size + 2, 0, none⟩ (.slice (some ⟨g, 0, none⟩) r.L.length cL)).setCell ⟨w.heap.size + 2, 1, none⟩ (.slice pR r.R.length cR))).cell? ⟨g, j, none⟩ = some u := fun j u hj => by
    have h := HX.out.2 g hg2 (by omega) (by omega)
    rw [show ∀ W' : World, W'.heap[g]? = W.heap[g]? → W'.cell? ⟨g, j, none⟩ = W.cell? ⟨g, j, none⟩ from fun W' e => by simp only [World.cell?, e]] <;> first | exact h | exact hfl j u hj
  have hfz' : ∀ j, (((W.setCell ⟨w.heap.size + 2, 0, none⟩ (.slice (some ⟨g, 0, none⟩) r.L.length cL)).setCell ⟨w.heap.size + 2, 1, none⟩ (.slice pR r.R.length cR))).frozen? ⟨g, j, none⟩ = false := fun j => by
    rw [World.frozen?_setCell, World.frozen?_setCell]
    exact hfz j
  have hgl := Nat.lt_of_lt_of_le hg2 HX.out.1.2.2.2
  refine known_none r i w.heap.size (w.heap.size + 1) (w.heap.size + 2) g _ _ pR cL cR hi capL b1 b2 hh HQ0 HQ6 HQX (by omega) (by omega) (by omega) hfl' hfz' hgl (by omega) (by omega) (by omega) ?_
  intro W' ho
  have hwx := HX.out.1.2.2.2
  have hmL' := (MksAt.of_flat (flat_less r.L i hi g ((W.setCell ⟨w.heap.size + 2, 0, none⟩ (.slice (some ⟨g, 0, none⟩) r.L.length cL)).setCell ⟨w.heap.size + 2, 1, none⟩ (.slice pR r.R.length cR)).drew (show ∀ j u, (r.L.flatMap Mrk.cs)[j]? = some u → ((W.setCell ⟨w.heap.size + 2, 0, none⟩ (.slice (some ⟨g, 0, none⟩) r.L.length cL)).setCell ⟨w.heap.size + 2, 1, none⟩ (.slice pR r.R.length cR)).drew.cell? ⟨g, j, none⟩ = some u from hfl')) (by
    have hb := (below_setC (n0 := 0) (a := ((W.setCell ⟨w.heap.size + 2, 0, none⟩ (.slice (some ⟨g, 0, none⟩) r.L.length cL)).setCell ⟨w.heap.size + 2, 1, none⟩ (.slice pR r.R.length cR)).drew) (Nat.zero_le g) ((r.L.drop (i + 1)).flatMap Mrk.cs) (i * 4) _ (Below.refl 0 _)).size
    exact Nat.lt_of_lt_of_le hgl hb) (by simp; omega)).ox ho (fun c o e => by cases e; exact ⟨by omega, by omega⟩)
  have hmR' : MksAt r.R pR W' := by
    by_cases hR0 : r.R = []
    · rw [hR0]; exact MksAt.none' pR W'
    · obtain ⟨gR, rfl, hgR, -⟩ := owR2 hR0
      have hlt := hapt hLn g rfl
      have h1 := (hap _ _ mR owR _ HX.out).grow (Gr.drew _)
      exact (h1.setC (g := g) (o := i * 4) (vs := (r.L.drop (i + 1)).flatMap Mrk.cs) (fun c o e => by cases e; omega)).ox ho (fun c o e => by cases e; exact ⟨by omega, by omega⟩)
  refine ⟨⟨_, _, _, _, rfl, hmL', hmR'⟩, ?_⟩
  have hb1 := (HGW.out.trans (HX.out.below (n0 := w.heap.size) (by omega) (by omega) (by omega))).trans (show Below w.heap.size _ (World.drew _) from (Below.refl _ _).drew)
  have hb2 := below_setC (n0 := w.heap.size) (g := g) (by omega) ((r.L.drop (i + 1)).flatMap Mrk.cs) (i * 4) _ hb1
  exact hb2.trans (ho.below (by omega) (by omega) hb2.size)

end Go.Proofs.Ytjlaoiimbhlafaa
