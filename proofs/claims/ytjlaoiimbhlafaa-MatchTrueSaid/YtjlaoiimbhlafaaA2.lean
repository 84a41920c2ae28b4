import Derived.Test.YtjlaoiimbhlafaaPH
set_option linter.unusedVariables false
set_option linter.unusedSimpArgs false
namespace Go.Proofs.Ytjlaoiimbhlafaa
open Go.RowKit Go.Shelf

open MW
/-! MatchTrue: what the rows that are made keep. -/
/-- two marks of one thing, its shift -/
def tru (s t : Int) (x y : Mrk) (v : Int) : Prop := mxI x.c y.c ≤ mnI x.d y.d ∧ x.a - y.b ≤ v ∧ v ≤ x.b - y.a ∧ s ≤ v ∧ v ≤ t
structure Md (s t : Int) (n : Nat) (L R : List Mrk) (P : List (Nat × Nat)) (S : List Int) (h : Int) : Prop where
  nL : L.length ≤ n
  nR : R.length ≤ n
  okL : ∀ m ∈ L, m.ok = true
  okR : ∀ m ∈ R, m.ok = true
  ord : P.Pairwise fun x y => x.1 < y.1 ∧ x.2 < y.2
  lt : ∀ x ∈ P, x.1 < L.length ∧ x.2 < R.length
  len : S.length = P.length
  hid : h = (L.length : Int) + R.length - 2 * P.length
  few : h + P.length ≤ n
  tr : ∀ (k : Nat) (x : Nat × Nat) (v : Int), P[k]? = some x → S[k]? = some v → ∃ l r, L[x.1]? = some l ∧ R[x.2]? = some r ∧ tru s t l r v
theorem Md.nil (s t : Int) (h : Int) (h0 : h = 0) : Md s t 0 [] [] [] [] h := ⟨Nat.le_refl _, Nat.le_refl _, by simp, by simp, List.Pairwise.nil, by simp, rfl, by simp [h0], by simp [h0], by simp⟩
theorem Md.left {s t : Int} {n : Nat} {L R : List Mrk} {P : List (Nat × Nat)} {S : List Int} {h : Int} (H : Md s t n L R P S h) {m : Mrk} (hm : m.ok = true) : Md s t (n + 1) (L ++ [m]) R P S (h + 1) := by
  have l1 : (L ++ [m]).length = L.length + 1 := by simp
  obtain ⟨a, b, c, d, e, f, g, i, j, k⟩ := H
  refine ⟨by omega, by omega, fun x hx => ?_, d, e, fun x hx => ⟨by have := (f x hx).1; omega, (f x hx).2⟩, g, by omega, by omega, fun q x v h1 h2 => ?_⟩
  · rcases List.mem_append.1 hx with hx | hx
    · exact c x hx
    · rw [List.mem_singleton.1 hx]; exact hm
  · obtain ⟨l, r, k1, k2, k3⟩ := k q x v h1 h2
    exact ⟨l, r, by rw [List.getElem?_append_left (List.getElem?_eq_some_iff.1 k1).1]; exact k1, k2, k3⟩
theorem Md.right {s t : Int} {n : Nat} {L R : List Mrk} {P : List (Nat × Nat)} {S : List Int} {h : Int} (H : Md s t n L R P S h) {m : Mrk} (hm : m.ok = true) : Md s t (n + 1) L (R ++ [m]) P S (h + 1) := by
  have l1 : (R ++ [m]).length = R.length + 1 := by simp
  obtain ⟨a, b, c, d, e, f, g, i, j, k⟩ := H
  refine ⟨by omega, by omega, c, fun x hx => ?_, e, fun x hx => ⟨(f x hx).1, by have := (f x hx).2; omega⟩, g, by omega, by omega, fun q x v h1 h2 => ?_⟩
  · rcases List.mem_append.1 hx with hx | hx
    · exact d x hx
    · rw [List.mem_singleton.1 hx]; exact hm
  · obtain ⟨l, r, k1, k2, k3⟩ := k q x v h1 h2
    exact ⟨l, r, k1, by rw [List.getElem?_append_left (List.getElem?_eq_some_iff.1 k2).1]; exact k2, k3⟩
theorem Md.pair {s t : Int} {n : Nat} {L R : List Mrk} {P : List (Nat × Nat)} {S : List Int} {h : Int} (H : Md s t n L R P S h) {x y : Mrk} (hx : x.ok = true) (hy : y.ok = true) {v : Int} (hv : tru s t x y v) :
    Md s t (n + 1) (L ++ [x]) (R ++ [y]) (P ++ [(L.length, R.length)]) (S ++ [v]) h := by
  have l1 : (L ++ [x]).length = L.length + 1 := by simp
  have l2 : (R ++ [y]).length = R.length + 1 := by simp
  have l3 : (P ++ [(L.length, R.length)]).length = P.length + 1 := by simp
  have l4 : (S ++ [v]).length = S.length + 1 := by simp
  obtain ⟨a, b, c, d, e, f, g, i, j, k⟩ := H
  refine ⟨by omega, by omega, fun z hz => ?_, fun z hz => ?_, ?_, fun z hz => ?_, by omega, by omega, by omega, fun q z u h1 h2 => ?_⟩
  · rcases List.mem_append.1 hz with hz | hz
    · exact c z hz
    · rw [List.mem_singleton.1 hz]; exact hx
  · rcases List.mem_append.1 hz with hz | hz
    · exact d z hz
    · rw [List.mem_singleton.1 hz]; exact hy
  · rw [List.pairwise_append]
    exact ⟨e, List.pairwise_singleton _ _, fun z hz z2 hz2 => by rw [List.mem_singleton.1 hz2]; exact f z hz⟩
  · rcases List.mem_append.1 hz with hz | hz
    · have := f z hz; omega
    · rw [List.mem_singleton.1 hz]
      show L.length < _ ∧ R.length < _
      omega
  · by_cases hq : q < P.length
    · rw [List.getElem?_append_left hq] at h1
      rw [List.getElem?_append_left (by omega)] at h2
      obtain ⟨l, r, k1, k2, k3⟩ := k q z u h1 h2
      exact ⟨l, r, by rw [List.getElem?_append_left (List.getElem?_eq_some_iff.1 k1).1]; exact k1, by rw [List.getElem?_append_left (List.getElem?_eq_some_iff.1 k2).1]; exact k2, k3⟩
    · have hqq : q = P.length := by
        have := (List.getElem?_eq_some_iff.1 h1).1
        omega
      subst hqq
      rw [List.getElem?_append_right (Nat.le_refl _), Nat.sub_self] at h1
      rw [List.getElem?_append_right (by omega), show P.length - S.length = 0 by omega] at h2
      simp at h1 h2
      subst h1 h2
      exact ⟨x, y, by simp, by simp, hv⟩
theorem Md.len_le {s t : Int} {n : Nat} {L R : List Mrk} {P : List (Nat × Nat)} {S : List Int} {h : Int} (H : Md s t n L R P S h) : P.length ≤ L.length ∧ P.length ≤ R.length := by
  have aux : ∀ (Q : List (Nat × Nat)), (Q.Pairwise fun x y => x.1 < y.1 ∧ x.2 < y.2) → ∀ (a b u w : Nat), a ≤ u → b ≤ w → (∀ x ∈ Q, (a ≤ x.1 ∧ b ≤ x.2) ∧ x.1 < u ∧ x.2 < w) → Q.length + a ≤ u ∧ Q.length + b ≤ w := by
    intro Q
    induction Q with
    | nil => intros; simp; omega
    | cons q Q ih =>
      intro hp a b u w ha hb hx
      have hp' := List.pairwise_cons.1 hp
      have hq := hx q (by simp)
      have := ih hp'.2 (q.1 + 1) (q.2 + 1) u w (by omega) (by omega) fun x hx2 => ⟨hp'.1 x hx2, (hx x (by simp [hx2])).2⟩
      rw [List.length_cons]
      omega
  have := aux P H.ord 0 0 _ _ (Nat.zero_le _) (Nat.zero_le _) fun x hx => ⟨⟨Nat.zero_le _, Nat.zero_le _⟩, H.lt x hx⟩
  omega
/-- the rows that are made: valid, the true pairs a way, the true shifts within theirs -/
theorem Md.fin {r : Rr} {n : Nat} {P : List (Nat × Nat)} {S : List Int} {h : Int} (H : Md r.s r.t n r.L r.R P S h) (hn : n ≤ 10) {d : Int} (d0 : 0 ≤ d) (hh : r.h = if 20 < h + d then 20 else h + d)
    (hs : -65536 ≤ r.s ∧ r.s ≤ r.t ∧ r.t ≤ 65536) : r.ok = true ∧ P ∈ r.ways ∧ ∀ (k : Nat) (x : Nat × Nat) (v : Int), P[k]? = some x → S[k]? = some v → (r.shv x.1 x.2).1 ≤ v ∧ v ≤ (r.shv x.1 x.2).2 := by
  have H' := H
  obtain ⟨a, b, c, e, f, g, i, j, k, l⟩ := H
  have hPL : 2 * P.length ≤ r.L.length + r.R.length := by
    have p1 : P.length ≤ r.L.length ∧ P.length ≤ r.R.length := H'.len_le
    omega
  have h0 : 0 ≤ h := by omega
  have h20 : h ≤ 20 := by omega
  have hh1 : h ≤ r.h ∧ 0 ≤ r.h ∧ r.h ≤ 20 := by
    rw [hh]
    split <;> omega
  have fit : ∀ (k : Nat) (x : Nat × Nat), P[k]? = some x → r.fitm x.1 x.2 = true ∧ ∀ v, S[k]? = some v → (r.shv x.1 x.2).1 ≤ v ∧ v ≤ (r.shv x.1 x.2).2 := by
    intro k x hx
    have hk : k < S.length := by rw [i]; exact (List.getElem?_eq_some_iff.1 hx).1
    obtain ⟨p, q, k1, k2, t1, t2, t3, t4, t5⟩ := l k x _ hx (List.getElem?_eq_getElem hk)
    have e1 : mxI (p.a - q.b) r.s ≤ S[k] := by unfold mxI; split <;> omega
    have e2 : S[k] ≤ mnI (p.b - q.a) r.t := by unfold mnI; split <;> omega
    refine ⟨?_, fun v hv => ?_⟩
    · rw [Rr.fitm_at k1 k2]
      unfold Rr.fit2
      rw [decide_eq_false (by omega), decide_eq_false (by omega)]
      rfl
    · rw [List.getElem?_eq_getElem hk] at hv
      obtain rfl := Option.some.inj hv
      unfold Rr.shv
      rw [k1, k2]
      exact ⟨e1, e2⟩
  refine ⟨?_, ?_, fun k x v h1 h2 => (fit k x h1).2 v h2⟩
  · unfold Rr.ok okRow
    rw [decide_eq_true (show r.L.length ≤ 10 by omega), decide_eq_true (show r.R.length ≤ 10 by omega), decide_eq_true hh1.2.1, decide_eq_true hh1.2.2, List.all_eq_true.2 c, List.all_eq_true.2 e]
    unfold okS
    rw [decide_eq_true hs.1, decide_eq_true hs.2.1, decide_eq_true hs.2.2]
    rfl
  · refine mem_All_way.2 ⟨f, fun x hx => ⟨(g x hx).1, (g x hx).2, ?_⟩, by omega⟩
    obtain ⟨k, hk⟩ := List.mem_iff_getElem?.1 hx
    exact (fit k x hk).1
/-- two marks that are made around one thing -/
theorem tru_of {s t : Int} {x y : Mrk} {at_ sh to_ : Int} (h1 : x.a ≤ at_ ∧ at_ ≤ x.b) (h2 : y.a ≤ at_ - sh ∧ at_ - sh ≤ y.b) (h3 : x.c ≤ to_ ∧ to_ ≤ x.d) (h4 : y.c ≤ to_ ∧ to_ ≤ y.d) (h5 : s ≤ sh ∧ sh ≤ t) : tru s t x y sh := by
  refine ⟨?_, by omega, by omega, h5.1, h5.2⟩
  have e1 : mxI x.c y.c ≤ to_ := by unfold mxI; split <;> omega
  have e2 : to_ ≤ mnI x.d y.d := by unfold mnI; split <;> omega
  omega

end Go.Proofs.Ytjlaoiimbhlafaa
