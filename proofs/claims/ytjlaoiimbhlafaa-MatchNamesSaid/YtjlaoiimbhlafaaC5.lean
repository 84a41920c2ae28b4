import Derived.Test.YtjlaoiimbhlafaaC4
set_option linter.unusedVariables false
set_option linter.unusedSimpArgs false
namespace Go.Proofs.Ytjlaoiimbhlafaa
open Go.RowKit Go.Shelf

open MW
theorem sum_if {α : Type} (p : α → Bool) (f : α → Nat) : ∀ l : List α, (l.map fun x => if p x then f x else 0).sum = ((l.filter p).map f).sum
  | [] => rfl
  | x :: l => by
    rw [List.map_cons, List.sum_cons, sum_if p f l, List.filter_cons]
    split <;> simp
/-- What one option of the first left mark adds. -/
def trm (o : Nat → Nat → Bool) (nL nR a b : Nat) (h : Int) (k : Nat) : Nat :=
  if b ≤ k then (if k = 10 then cw o nR (lf (a + 1) nL) b (h - 1) else cw o nR (lf (a + 1) nL) (k + 1) (h - ((k : Int) - b))) else 0
theorem cw_step {o : Nat → Nat → Bool} {nL nR a b : Nat} {h : Int} (ha : a < nL) (hh : 0 ≤ h) (hb : b ≤ 10) (hR : nR ≤ 10) (ho : ∀ j, nR ≤ j → j < 10 → o a j = false) :
    cw o nR (lf a nL) b h = ((wts 11 (o a)).map (trm o nL nR a b h)).sum := by
  rw [lf_cons ha]
  unfold cw
  rw [if_neg (by omega)]
  have e1 : wts 11 (o a) = wts 10 (o a) ++ if o a 10 then [10] else [] := wts_succ 10 _
  have e2 : wts 10 (o a) = wts nR (o a) := by
    unfold wts
    have e : List.range 10 = List.range nR ++ lf nR 10 := by
      unfold lf
      rw [List.range_eq_range', List.range_eq_range']
      have := List.range'_append_1 (s := 0) (m := nR) (n := 10 - nR)
      rw [Nat.zero_add, show nR + (10 - nR) = 10 by omega] at this
      exact this.symm
    rw [e, List.filter_append]
    have : (lf nR 10).filter (o a) = [] := by
      rw [List.filter_eq_nil_iff]
      intro j hj
      have := mem_lf.1 hj
      rw [ho j this.1 this.2]
      simp
    rw [this, List.append_nil]
  rw [e1, e2, List.map_append, List.sum_append]
  congr 1
  · have e3 : (wts nR (o a)).map (trm o nL nR a b h) = (wts nR (o a)).map fun k => if decide (b ≤ k) then cw o nR (lf (a + 1) nL) (k + 1) (h - ((k : Int) - b)) else 0 := by
      refine List.map_congr_left fun k hk => ?_
      have hk' : k < nR := List.mem_range.1 (List.mem_filter.1 hk).1
      unfold trm
      rw [if_neg (show ¬ k = 10 by omega)]
      simp
    rw [e3, sum_if]
    unfold wts
    rw [List.filter_filter]
  · cases h10 : o a 10 with
    | true => simp [trm, hb]
    | false => simp
theorem pow11_le {n : Nat} (h : n ≤ 10) : 11 ^ n ≤ 11 ^ 10 := Nat.pow_le_pow_right (by omega) h
theorem cw_small (o : Nat → Nat → Bool) {nL nR : Nat} (a b : Nat) (h : Int) (hL : nL ≤ 10) (hR : nR ≤ 10) : cw o nR (lf a nL) b h ≤ 25937424601 := by
  refine Nat.le_trans (cw_le o nR (lf a nL) b h) ?_
  have h1 : (nR + 1) ^ (lf a nL).length ≤ 11 ^ (lf a nL).length := Nat.pow_le_pow_left (by omega) _
  have h2 : 11 ^ (lf a nL).length ≤ 11 ^ 10 := pow11_le (by rw [lf_len]; omega)
  exact Nat.le_trans h1 (Nat.le_trans h2 (by decide))
theorem trm_small (o : Nat → Nat → Bool) {nL nR : Nat} (a b : Nat) (h : Int) (k : Nat) (hL : nL ≤ 10) (hR : nR ≤ 10) : trm o nL nR a b h k ≤ 25937424601 := by
  unfold trm
  split
  · split <;> exact cw_small _ _ _ _ hL hR
  · omega
theorem sum_small (f : Nat → Nat) (B : Nat) (hf : ∀ k, f k ≤ B) : ∀ l : List Nat, (l.map f).sum ≤ l.length * B
  | [] => by simp
  | k :: l => by
    rw [List.map_cons, List.sum_cons, List.length_cons, Nat.succ_mul]
    have := sum_small f B hf l
    have := hf k
    omega
/-! What lies about the counting. -/
def ptr (b : Nat) : Value := .pointer (some ⟨b, 0, none⟩)
def countV (bl bk bo bc : Nat) : Value := .func (.func 96) #[] #[.pointer (some ⟨bl, 0, none⟩), .pointer (some ⟨bk, 0, none⟩), .pointer (some ⟨bo, 0, none⟩), .pointer (some ⟨bc, 0, none⟩)]
/-- How many ways of a rest. -/
def Lk.wy (k : Lk) (m : Nat → Nat) (a b : Nat) (h : Int) : Nat := cw (fun i j => (m i).testBit j) k.nR (lf a k.nL) b h
structure Cnt where
  k : Lk
  m : Nat → Nat
  bl : Nat
  bk : Nat
  bo : Nat
  bc : Nat
  mb : Nat
def Cnt.A (c : Cnt) : Mk := ⟨c.mb, Gd (c.k.wy c.m)⟩
structure Cnt.At (c : Cnt) (W : World) : Prop where
  l : Box W c.bl c.k.cs 85
  kn : Box W c.bk [.map (some c.mb)] 145
  o : Box W c.bo (opts c.m) 83
  f : Box W c.bc [countV c.bl c.bk c.bo c.bc] 146
  g : ∃ o, W.heap[c.mb]? = some o ∧ Gd (c.k.wy c.m) o
theorem box_ne_map {W : World} {b mb : Nat} {vs : List Value} {T : TypeId} (h : Box W b vs T) {f : Nat → Nat → Int → Nat} (hg : ∃ o, W.heap[mb]? = some o ∧ Gd f o) : b ≠ mb := fun e => by
  subst e
  obtain ⟨o, h1, l, c, rfl, -⟩ := hg
  rw [show W.heap[b]? = _ from h] at h1
  cases h1
theorem Cnt.At.dr {c : Cnt} {W W' : World} {i : Nat} (h : c.At W) (hd : Dr c.A i W W') : c.At W' :=
  ⟨hd.box h.l (box_ne_map h.l h.g), hd.box h.kn (box_ne_map h.kn h.g), hd.box h.o (box_ne_map h.o h.g), hd.box h.f (box_ne_map h.f h.g), by
    obtain ⟨o, h1, h2⟩ := h.g
    exact hd.kept o h1 h2⟩
theorem Cnt.At.gr {c : Cnt} {W W' : World} (h : c.At W) (hg : Gr W W') : c.At W' := h.dr (i := 0) (Dr.of hg)
theorem Dr.own {A : Mk} {w W W' : World} {row : Option Nat} {B : Nat} (h : Dr A 0 w W) (hB : w.heap.size ≤ B) (hA : A.b < B) (hg : W.grownBy W' row) (hr : ∀ r, row = some r → B ≤ r ∧ ∃ o : Obj, W.heap[r]? = some o ∧ o.isCells = false) : Dr A 0 w W' :=
  ⟨hg.os.trans h.os, hg.tape.trans h.tape, hg.output.trans h.output, Nat.le_trans h.size hg.size, fun k hk hne => (hg.block k (Nat.lt_of_lt_of_le hk h.size) (fun e => by have := (hr k e.symm).1; omega)).trans (h.block k hk hne), fun o ho hgo => by
    obtain ⟨o', h1, h2⟩ := h.kept o ho hgo
    exact ⟨o', (hg.block _ (Array.getElem?_eq_some_iff.1 h1).1 (fun e => by have := (hr _ e.symm).1; omega)).trans h1, h2⟩⟩
theorem Cnt.At.own {c : Cnt} {W W' : World} {row : Option Nat} {B : Nat} (h : c.At W) (hB : c.mb < B) (hg : W.grownBy W' row) (hr : ∀ r, row = some r → B ≤ r ∧ ∃ o : Obj, W.heap[r]? = some o ∧ o.isCells = false) : c.At W' :=
  ⟨h.l.own' hg fun r e => (hr r e).2, h.kn.own' hg fun r e => (hr r e).2, h.o.own' hg fun r e => (hr r e).2, h.f.own' hg fun r e => (hr r e).2, by
    obtain ⟨o, h1, h2⟩ := h.g
    exact ⟨o, (hg.block _ (Array.getElem?_eq_some_iff.1 h1).1 (fun e => by have := (hr _ e.symm).1; omega)).trans h1, h2⟩⟩
theorem Dr.from {A : Mk} {W W' : World} {i B : Nat} (h : Dr A i W W') (hA : A.b < B) : KeepsFrom B W W' := ⟨h.size, fun k o hk ho _ => (h.block k (Array.getElem?_eq_some_iff.1 ho).1 (by omega)).trans ho⟩

end Go.Proofs.Ytjlaoiimbhlafaa
