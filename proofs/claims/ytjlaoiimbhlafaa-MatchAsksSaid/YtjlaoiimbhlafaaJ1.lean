import Derived.Test.YtjlaoiimbhlafaaL1
set_option linter.unusedVariables false
set_option linter.unusedSimpArgs false
namespace Go.Proofs.Ytjlaoiimbhlafaa
open Go.RowKit Go.Shelf

open MW
attribute [local go_sem] Oper.semAt_some run_store_func
attribute [local go_sem ↓] Go.wp_at_zero Go.wp_at_succ
/-- Nothing turns but rows of headers. -/
def Kp (W W' : World) : Prop := W.heap.size ≤ W'.heap.size ∧ ∀ (k : Nat) (ob : Obj), W.heap[k]? = some ob → (∀ cur, ob ≠ Obj.cells cur 34 (0, 0)) → W'.heap[k]? = some ob
theorem Kp.same (W : World) : Kp W W := ⟨Nat.le_refl _, fun _ _ h _ => h⟩
theorem Kp.tr {a b c : World} (h : Kp a b) (k : Kp b c) : Kp a c := ⟨Nat.le_trans h.1 k.1, fun i ob h1 h2 => k.2 i ob (h.2 i ob h1 h2) h2⟩
theorem Kp.gr {W W' : World} (h : Gr W W') : Kp W W' := ⟨h.size, fun k ob h1 _ => (h.block k (Array.getElem?_eq_some_iff.1 h1).1).trans h1⟩
theorem Kp.grown {W W' : World} {base n : Nat} {o : Value} {xs : List Value} (h : W.ownsRow base 34 1 o n xs) (hg : W.grownBy W' o.ownBlock) : Kp W W' :=
  ⟨hg.size, fun k ob h1 h2 => (hg.block k (Array.getElem?_eq_some_iff.1 h1).1 (fun e => by
    obtain ⟨-, cur, hh⟩ := own_blk h e
    rw [h1] at hh
    cases hh
    exact h2 cur rfl)).trans h1⟩
theorem Box.kp {W W' : World} {b : Nat} {vs : List Value} {T : TypeId} (h : Box W b vs T) (hT : T ≠ 34) (hk : Kp W W') : Box W' b vs T :=
  hk.2 b _ h fun cur e => by cases e; exact hT rfl
/-- A way at its own block. -/
def Pz (v : Value) (p : List (Nat × Nat)) (W : World) : Prop := ∃ base, W.ownsRow base 55 2 v p.length (p.flatMap pv)
theorem Pz.kp {v : Value} {p : List (Nat × Nat)} {W W' : World} (h : Pz v p W) (hk : Kp W W') : Pz v p W' := by
  obtain ⟨base, h0, h1⟩ := h
  refine ⟨base, h0, ?_⟩
  rcases h1 with h1 | ⟨g, cap, cur, hv, hb, hc, hr⟩
  · exact .inl h1
  · exact .inr ⟨g, cap, cur, hv, hb, hk.2 g _ hc (fun cur e => by cases e), hr⟩
theorem Pz.into {v : Value} {p : List (Nat × Nat)} {W : World} (h : Pz v p W) : PrsIn v p W := by
  obtain ⟨base, h⟩ := h
  exact PrsIn.of_own h
/-- Headers of ways. -/
def WzAt (hs : List Value) (l : List (List (Nat × Nat))) (W : World) : Prop := hs.length = l.length ∧ ∀ (i : Nat) (v : Value) (p : List (Nat × Nat)), hs[i]? = some v → l[i]? = some p → Pz v p W
theorem WzAt.kp {hs : List Value} {l : List (List (Nat × Nat))} {W W' : World} (h : WzAt hs l W) (hk : Kp W W') : WzAt hs l W' := by
  refine ⟨h.1, fun i v p h1 h2 => ?_⟩
  exact (h.2 i v p h1 h2).kp hk
theorem WzAt.snoc {hs : List Value} {l : List (List (Nat × Nat))} {v : Value} {p : List (Nat × Nat)} {W : World} (h : WzAt hs l W) (hp : Pz v p W) : WzAt (hs ++ [v]) (l ++ [p]) W := by
  refine ⟨by simp [h.1], fun i v' p' h1 h2 => ?_⟩
  by_cases hi : i < hs.length
  · rw [List.getElem?_append_left hi] at h1
    rw [List.getElem?_append_left (by rw [← h.1]; exact hi)] at h2
    exact h.2 i v' p' h1 h2
  · rw [List.getElem?_append_right (by omega)] at h1
    rw [List.getElem?_append_right (by rw [← h.1]; omega), ← h.1] at h2
    have : i - hs.length = 0 := by
      have := (List.getElem?_eq_some_iff.1 h1).1
      simp at this
      omega
    rw [this] at h1 h2
    cases h1
    cases h2
    exact hp
/-- A row of ways that is one's own. -/
def OutAt (B : Nat) (o : Value) (l : List (List (Nat × Nat))) (W : World) : Prop := ∃ hs, W.ownsRow B 34 1 o l.length hs ∧ WzAt hs l W
theorem OutAt.gr {B : Nat} {o : Value} {l : List (List (Nat × Nat))} {W W' : World} (h : OutAt B o l W) (hg : Gr W W') : OutAt B o l W' := by
  obtain ⟨hs, h1, h2⟩ := h
  exact ⟨hs, own_gr h1 hg, h2.kp (Kp.gr hg)⟩
theorem OutAt.nil (B : Nat) (W : World) : OutAt B (.slice none 0 0) [] W := ⟨[], World.ownsRow_nil _ _ _ _, rfl, fun i v p h => by simp at h⟩
theorem info34 : (Try.prog.info? 34).map (fun i => (i.zero, i.size, i.bytes)) = some (some (.slice none 0 0), 1, 24) := by kernel_rfl
theorem info55w : (Try.prog.info? 55).map (fun i => (i.zero, i.size, i.bytes)) = some (some (.agg #[.int .i64 0, .int .i64 0]), 2, 16) := by kernel_rfl
theorem inn_mono {fit : Nat → Nat → Bool} {nL nR : Nat} {H : Int} {b : List (Nat × Nat)} {i r k k' : Nat} (h : r ≤ k) (hk : k ≤ k') : (inn fit nL nR H b i r k).length ≤ (inn fit nL nR H b i r k').length := by
  induction hk with
  | refl => exact Nat.le_refl _
  | step hk ih =>
    rw [inn_succ (Nat.le_trans h hk), List.length_append]
    omega
theorem out_mono {fit : Nat → Nat → Bool} {nL nR : Nat} {H : Int} {b : List (Nat × Nat)} {a r i i' : Nat} (h : a ≤ i) (hk : i ≤ i') : (MW.out fit nL nR H b a r i).length ≤ (MW.out fit nL nR H b a r i').length := by
  induction hk with
  | refl => exact Nat.le_refl _
  | step hk ih =>
    rw [out_succ (Nat.le_trans h hk), List.length_append]
    omega
theorem wl_room {fit : Nat → Nat → Bool} {nL nR : Nat} {H : Int} {b : List (Nat × Nat)} {a r i k : Nat} (h1 : a ≤ i) (h2 : i < nL) (h3 : r ≤ k) (h4 : k < nR) (hf : fit i k = true) :
    (MW.out fit nL nR H b a r i).length + (inn fit nL nR H b i r k).length + (wl fit nL nR H (b ++ [(i, k)]) (i + 1) (k + 1)).length ≤ (wl fit nL nR H b a r).length := by
  have e1 := out_mono (fit := fit) (nL := nL) (nR := nR) (H := H) (b := b) (r := r) (show a ≤ i + 1 by omega) (show i + 1 ≤ nL by omega)
  rw [out_succ h1, List.length_append, ← wl_eq] at e1
  have e2 := inn_mono (fit := fit) (nL := nL) (nR := nR) (H := H) (b := b) (i := i) (show r ≤ k + 1 by omega) (show k + 1 ≤ nR by omega)
  rw [inn_succ h3, hf, if_pos rfl, List.length_append] at e2
  omega

end Go.Proofs.Ytjlaoiimbhlafaa
