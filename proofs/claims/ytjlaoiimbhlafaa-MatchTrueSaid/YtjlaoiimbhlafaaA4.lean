import Derived.Test.YtjlaoiimbhlafaaA2
import Derived.Test.YtjlaoiimbhlafaaA3
import Derived.Test.YtjlaoiimbhlafaaL1
set_option linter.unusedVariables false
set_option linter.unusedSimpArgs false
namespace Go.Proofs.Ytjlaoiimbhlafaa
open Go.RowKit Go.Shelf

open MW
theorem Box.grown {w w' : World} {b : Nat} {vs : List Value} {T : TypeId} {row : Option Nat} (h : Box w b vs T) (hg : w.grownBy w' row) (hne : some b ≠ row) : Box w' b vs T := by
  have := hg.block b h.lt hne
  unfold Box at *
  rw [this]; exact h
theorem Dn.grownBy {A i : Nat} {w W : World} (h : Dn A i w W) : w.grownBy W (some A) := ⟨h.os, h.tape, h.output, h.size, fun k hk hne => h.block k hk (fun e => hne (by rw [e]))⟩
theorem own_dn {A i : Nat} {w W : World} {base : Nat} {e : TypeId} {size : Nat} {v : Value} {n : Nat} {xs : List Value} (h : w.ownsRow base e size v n xs) (hd : Dn A i w W) (hA : A < base) : W.ownsRow base e size v n xs := by
  refine h.kept hd.grownBy ?_
  cases hv : v.ownBlock with
  | none => exact .inl rfl
  | some q => exact .inr fun c => by have := (h.lt q hv).1; simp at c; omega
theorem DrawOk.grown {A B b o len cap N : Nat} {w W : World} {row : Option Nat} (h : DrawOk A B b o len cap N w) (hg : w.grownBy W row) (hA : some A ≠ row) (hB : some B ≠ row) (hb : some b ≠ row) : DrawOk A B b o len cap N W := by
  obtain ⟨⟨m, h1, h2, h3⟩, h4, ⟨h5, h6, h7, h8⟩, h9, h10⟩ := h
  exact ⟨⟨m, h1.grown hg hA, h2, h3⟩, h4.grown hg hB, ⟨h5, h6, Nat.lt_of_lt_of_le h7 hg.size, fun i hi => by
    obtain ⟨x, hx, hx'⟩ := h8 i hi
    exact ⟨x, (World.cell?_of_block (a := ⟨b, o + i, none⟩) (hg.block b h7 hb)).trans hx, hx'⟩⟩, h9, h10⟩
theorem DrawOk.other {A B b o len cap N : Nat} {w : World} (h : DrawOk A B b o len cap N w) {q : Nat} (hA : A ≠ q) (hB : B ≠ q) (hb : b ≠ q) (k : Nat) (x : Value) : DrawOk A B b o len cap N (w.setCell ⟨q, k, none⟩ x) := by
  obtain ⟨⟨m, h1, h2, h3⟩, h4, ⟨h5, h6, h7, h8⟩, h9, h10⟩ := h
  refine ⟨⟨m, h1.other hA _ _, h2, h3⟩, h4.other hB _ _, ⟨h5, h6, by simpa using h7, fun i hi => ?_⟩, h9, h10⟩
  obtain ⟨y, hy, hy'⟩ := h8 i hi
  exact ⟨y, (World.cell?_of_block (a := ⟨b, o + i, none⟩) (Below.heap_setCell _ _ _ _ (by simpa using hb))).trans hy, hy'⟩
theorem own_ne {w : World} {b b' : Nat} {e e' : TypeId} {s s' : Nat} {v v' : Value} {n n' : Nat} {xs xs' : List Value} (h : w.ownsRow b e s v n xs) (h' : w.ownsRow b' e' s' v' n' xs') (he : e ≠ e') : v.ownBlock = none ∨ v.ownBlock ≠ v'.ownBlock := by
  cases hv : v.ownBlock with
  | none => exact .inl rfl
  | some q =>
    refine .inr fun e2 => ?_
    obtain ⟨-, c, hc⟩ := own_blk h hv.symm
    obtain ⟨-, c', hc'⟩ := own_blk h' e2
    rw [hc] at hc'
    simp at hc'
    exact he hc'.2
theorem aown_marks {W : World} {base n : Nat} {v : Value} {l : List Mrk} (h : W.ownsRow base 65 4 v n (l.flatMap Mrk.cs)) (hn : n = l.length) (hl : l.length ≤ 1000) : ∃ p c, v = .slice p l.length c ∧ MksAt l p W := by
  obtain ⟨-, h1⟩ := h
  rcases h1 with ⟨rfl, h0⟩ | ⟨g, cap, cur, rfl, -, hcur, -, -, -, hct⟩
  · have hl0 : l = [] := List.length_eq_zero_iff.1 (by omega)
    subst hl0
    exact ⟨none, 0, rfl, by simp, fun i m hm => by cases hm⟩
  · refine ⟨some ⟨g, 0, none⟩, cap, by rw [hn], ?_⟩
    exact MkBox.at ⟨cur.toList, by unfold Box; simpa using hcur, by rw [← hn]; exact hct⟩ hl
/-- what lies where while rows are made -/
structure MdK (w0 : World) (A B b D br N1 : Nat) : Prop where
  A : A < w0.heap.size
  B : B < w0.heap.size
  b : b < w0.heap.size
  D0 : w0.heap.size ≤ D
  D1 : D < N1
  r0 : w0.heap.size ≤ br
  r1 : br < N1
  ne : D ≠ br
/-- what holds while rows are made -/
structure MdI (w0 : World) (A B b o len cap D br N1 n : Nat) (L R : List Mrk) (P : List (Nat × Nat)) (S : List Int) (vl vr vp vs : Value) (bs : List Value) (w : World) : Prop where
  drw : DrawOk A B b o len cap n w
  dn : ∃ i, Dn A i w0 w
  fn : Box w D [drawV A B] 53
  box : Box w br bs 26
  ol : w.ownsRow N1 65 4 vl L.length (L.flatMap Mrk.cs)
  or_ : w.ownsRow N1 65 4 vr R.length (R.flatMap Mrk.cs)
  op : w.ownsRow N1 55 2 vp P.length (P.flatMap pv)
  os : w.ownsRow N1 3 1 vs S.length (ivs S)
  dj : ∀ q, vl.ownBlock = some q → vr.ownBlock ≠ some q
  size : N1 ≤ w.heap.size
section
variable {w0 w W : World} {A B b o len cap D br N1 n : Nat} {L R : List Mrk} {P : List (Nat × Nat)} {S : List Int} {vl vr vp vs : Value} {bs : List Value}
theorem MdI.go (I : MdI w0 A B b o len cap D br N1 n L R P S vl vr vp vs bs w) (K : MdK w0 A B b D br N1) {j : Nat} (hd : Dn A j w W) : MdI w0 A B b o len cap D br N1 (n + j) L R P S vl vr vp vs bs W := by
  obtain ⟨k1, k2, k3, k4, k5, k6, k7, k8⟩ := K
  obtain ⟨a1, ⟨i, a2⟩, a3, a4, a5, a6, a7, a8, a9, a10⟩ := I
  exact ⟨a1.grow hd, ⟨_, a2.tr hd⟩, hd.box a3 (by omega), hd.box a4 (by omega), own_dn a5 hd (by omega), own_dn a6 hd (by omega), own_dn a7 hd (by omega), own_dn a8 hd (by omega), a9, Nat.le_trans a10 hd.size⟩
theorem MdI.gr (I : MdI w0 A B b o len cap D br N1 n L R P S vl vr vp vs bs w) (K : MdK w0 A B b D br N1) (hg : Gr w W) : MdI w0 A B b o len cap D br N1 n L R P S vl vr vp vs bs W := I.go K (Dn.of (A := A) hg)
theorem MdI.le (I : MdI w0 A B b o len cap D br N1 n L R P S vl vr vp vs bs w) {m : Nat} (h : n ≤ m) : MdI w0 A B b o len cap D br N1 m L R P S vl vr vp vs bs w := { I with drw := I.drw.le h }
theorem MdI.set (I : MdI w0 A B b o len cap D br N1 n L R P S vl vr vp vs bs w) (K : MdK w0 A B b D br N1) (k : Nat) (x : Value) : MdI w0 A B b o len cap D br N1 n L R P S vl vr vp vs (bs.set k x) (w.setCell ⟨br, k, none⟩ x) := by
  obtain ⟨k1, k2, k3, k4, k5, k6, k7, k8⟩ := K
  obtain ⟨a1, ⟨i, a2⟩, a3, a4, a5, a6, a7, a8, a9, a10⟩ := I
  exact ⟨a1.other (by omega) (by omega) (by omega) _ _, ⟨_, a2.other (by omega) (by omega) _ _⟩, a3.other k8 _ _, a4.put _ _, ownsRow_setCell_below a5 (a := ⟨br, k, none⟩) k7 x, ownsRow_setCell_below a6 (a := ⟨br, k, none⟩) k7 x, ownsRow_setCell_below a7 (a := ⟨br, k, none⟩) k7 x, ownsRow_setCell_below a8 (a := ⟨br, k, none⟩) k7 x, a9, by simpa using a10⟩
theorem Dn.grown {i : Nat} (h : Dn A i w0 w) {row : Option Nat} (hg : w.grownBy W row) (hA : A < w0.heap.size) (hr : ∀ k, row = some k → w0.heap.size ≤ k) : Dn A i w0 W :=
  ⟨hg.os.trans h.os, hg.tape.trans h.tape, hg.output.trans h.output, Nat.le_trans h.size hg.size, fun k hk hkA => (hg.block k (Nat.lt_of_lt_of_le hk h.size) (fun e => by have := hr k e.symm; omega)).trans (h.block k hk hkA), fun m hm => by
    obtain ⟨m', h1, h2⟩ := h.cell m hm
    exact ⟨m', h1.grown hg (fun e => by have := hr A e.symm; omega), h2⟩⟩
/-- what does not turn where a row of one's own grows -/
theorem MdI.row (I : MdI w0 A B b o len cap D br N1 n L R P S vl vr vp vs bs w) (K : MdK w0 A B b D br N1) {row : Option Nat} (hg : w.grownBy W row) (hr : ∀ k, row = some k → N1 ≤ k) : DrawOk A B b o len cap n W ∧ (∃ i, Dn A i w0 W) ∧ Box W D [drawV A B] 53 ∧ Box W br bs 26 ∧ N1 ≤ W.heap.size := by
  obtain ⟨k1, k2, k3, k4, k5, k6, k7, k8⟩ := K
  obtain ⟨a1, ⟨i, a2⟩, a3, a4, a5, a6, a7, a8, a9, a10⟩ := I
  have f : ∀ q, q < N1 → some q ≠ row := fun q hq e => by have := hr q e.symm; omega
  exact ⟨a1.grown hg (f _ (by omega)) (f _ (by omega)) (f _ (by omega)), ⟨i, a2.grown hg (by omega) fun k hk => by have := hr k hk; omega⟩, a3.grown hg (f _ (by omega)), a4.grown hg (f _ k7), Nat.le_trans a10 hg.size⟩
theorem MdI.appL (I : MdI w0 A B b o len cap D br N1 n L R P S vl vr vp vs bs w) (K : MdK w0 A B b D br N1) {x : Mrk} {g c H : Nat} (hown : W.ownsRow N1 65 4 (.slice (some ⟨g, 0, none⟩) (L.length + 1) c) (L.length + 1) (L.flatMap Mrk.cs ++ x.cs)) (hg : w.grownBy W vl.ownBlock) (hat : vl.ownBlock = some g ∨ g = H) (hH : w.heap.size ≤ H) :
    MdI w0 A B b o len cap D br N1 n (L ++ [x]) R P S (.slice (some ⟨g, 0, none⟩) (L ++ [x]).length c) vr vp vs bs W := by
  obtain ⟨b1, b2, b3, b4, b5⟩ := I.row K hg fun k hk => (I.ol.lt k hk).1
  have hne : ∀ q, vr.ownBlock = some q → vl.ownBlock ≠ some q := fun q h1 h2 => I.dj q h2 h1
  refine ⟨b1, b2, b3, b4, ?_, I.or_.kept hg ?_, I.op.kept hg (own_ne I.op I.ol (by decide)), I.os.kept hg (own_ne I.os I.ol (by decide)), fun q hq hq2 => ?_, b5⟩
  · simpa [List.flatMap_append] using hown
  · cases hv : vr.ownBlock with
    | none => exact .inl rfl
    | some q => exact .inr fun e => hne q hv e.symm
  · simp [Value.ownBlock] at hq
    subst hq
    rcases hat with e | e
    · exact hne _ hq2 e
    · have := (I.or_.lt _ hq2).2
      omega
theorem MdI.appR (I : MdI w0 A B b o len cap D br N1 n L R P S vl vr vp vs bs w) (K : MdK w0 A B b D br N1) {x : Mrk} {g c H : Nat} (hown : W.ownsRow N1 65 4 (.slice (some ⟨g, 0, none⟩) (R.length + 1) c) (R.length + 1) (R.flatMap Mrk.cs ++ x.cs)) (hg : w.grownBy W vr.ownBlock) (hat : vr.ownBlock = some g ∨ g = H) (hH : w.heap.size ≤ H) :
    MdI w0 A B b o len cap D br N1 n L (R ++ [x]) P S vl (.slice (some ⟨g, 0, none⟩) (R ++ [x]).length c) vp vs bs W := by
  obtain ⟨b1, b2, b3, b4, b5⟩ := I.row K hg fun k hk => (I.or_.lt k hk).1
  refine ⟨b1, b2, b3, b4, I.ol.kept hg ?_, ?_, I.op.kept hg (own_ne I.op I.or_ (by decide)), I.os.kept hg (own_ne I.os I.or_ (by decide)), fun q hq hq2 => ?_, b5⟩
  · cases hv : vl.ownBlock with
    | none => exact .inl rfl
    | some q => exact .inr fun e => I.dj q hv e.symm
  · simpa [List.flatMap_append] using hown
  · simp [Value.ownBlock] at hq2
    subst hq2
    rcases hat with e | e
    · exact I.dj _ hq e
    · have := (I.ol.lt _ hq).2
      omega
theorem MdI.appP (I : MdI w0 A B b o len cap D br N1 n L R P S vl vr vp vs bs w) (K : MdK w0 A B b D br N1) {x : Nat × Nat} {g c : Nat} (hown : W.ownsRow N1 55 2 (.slice (some ⟨g, 0, none⟩) (P.length + 1) c) (P.length + 1) (P.flatMap pv ++ pv x)) (hg : w.grownBy W vp.ownBlock) :
    MdI w0 A B b o len cap D br N1 n L R (P ++ [x]) S vl vr (.slice (some ⟨g, 0, none⟩) (P ++ [x]).length c) vs bs W := by
  obtain ⟨b1, b2, b3, b4, b5⟩ := I.row K hg fun k hk => (I.op.lt k hk).1
  refine ⟨b1, b2, b3, b4, I.ol.kept hg (own_ne I.ol I.op (by decide)), I.or_.kept hg (own_ne I.or_ I.op (by decide)), ?_, I.os.kept hg (own_ne I.os I.op (by decide)), I.dj, b5⟩
  simpa [List.flatMap_append] using hown
theorem MdI.appS (I : MdI w0 A B b o len cap D br N1 n L R P S vl vr vp vs bs w) (K : MdK w0 A B b D br N1) {x : Int} {g c : Nat} (hown : W.ownsRow N1 3 1 (.slice (some ⟨g, 0, none⟩) (S.length + 1) c) (S.length + 1) (ivs S ++ [.int .i64 x])) (hg : w.grownBy W vs.ownBlock) :
    MdI w0 A B b o len cap D br N1 n L R P (S ++ [x]) vl vr vp (.slice (some ⟨g, 0, none⟩) (S ++ [x]).length c) bs W := by
  obtain ⟨b1, b2, b3, b4, b5⟩ := I.row K hg fun k hk => (I.os.lt k hk).1
  refine ⟨b1, b2, b3, b4, I.ol.kept hg (own_ne I.ol I.os (by decide)), I.or_.kept hg (own_ne I.or_ I.os (by decide)), I.op.kept hg (own_ne I.op I.os (by decide)), ?_, I.dj, b5⟩
  simpa [ivs] using hown
end

end Go.Proofs.Ytjlaoiimbhlafaa
