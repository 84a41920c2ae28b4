import Derived.Test.YtjlaoiimbhlafaaPH
import Derived.Test.YtjlaoiimbhlafaaZB
set_option linter.unusedVariables false
set_option linter.unusedSimpArgs false
namespace Go.Proofs.Ytjlaoiimbhlafaa
open Go.RowKit Go.Shelf

open MW
def tth (x y : Mrk) : Pq.Th := ⟨x.a, x.b, 0, 0, y.a, y.b, 0, 0, 0⟩
def Rr.thg (r : Rr) (p : Nat × Nat) : Pq.Th := match r.L[p.1]?, r.R[p.2]? with
  | some x, some y => tth x y
  | _, _ => ⟨0, 0, 0, 0, 0, 0, 0, 0, 0⟩
theorem Rr.thg_at {r : Rr} {i k : Nat} {x y : Mrk} (hx : r.L[i]? = some x) (hy : r.R[k]? = some y) : r.thg (i, k) = tth x y := by unfold Rr.thg; rw [hx, hy]
def Rr.pr (r : Rr) (P : List (Nat × Nat)) : Pq.Pr := ⟨9000, 9000, 65, 66, 5, 2000, 100000, P.map r.thg⟩
/-- no mark stands beyond the plate -/
def Rr.plate (r : Rr) : Prop := ∀ m ∈ r.L ++ r.R, m.b ≤ 4000
theorem way_len {r : Rr} {P : List (Nat × Nat)} (hP : P ∈ r.ways) : P.length ≤ r.L.length := by
  have hord : P.Pairwise fun x y => x.1 < y.1 ∧ x.2 < y.2 := All_one hP
  have aux : ∀ (Q : List (Nat × Nat)), (Q.Pairwise fun x y => x.1 < y.1 ∧ x.2 < y.2) → ∀ (a u : Nat), a ≤ u → (∀ x ∈ Q, a ≤ x.1 ∧ x.1 < u) → Q.length + a ≤ u := by
    intro Q
    induction Q with
    | nil => intros; simp; omega
    | cons q Q ih =>
      intro hp a u ha hx
      have hp' := List.pairwise_cons.1 hp
      have hq := hx q (by simp)
      have := ih hp'.2 (q.1 + 1) u (by omega) fun x hx2 => ⟨(hp'.1 x hx2).1, (hx x (by simp [hx2])).2⟩
      rw [List.length_cons]
      omega
  have := aux P hord 0 r.L.length (by omega) fun x hx => ⟨Nat.zero_le _, (Rr.way_fit hP hx).1⟩
  omega
theorem Rr.pr_ok {r : Rr} {P : List (Nat × Nat)} (hok : r.ok = true) (hP : P ∈ r.ways) (hpl : r.plate) : (r.pr P).ok = true := by
  obtain ⟨p1, -, p3, p4, -⟩ := Rr.ok_parts hok
  have hl := way_len hP
  show Pq.valid 9000 9000 65 66 5 2000 100000 (P.map r.thg) = true
  unfold Pq.valid
  rw [Bool.and_eq_true]
  constructor
  · rw [List.all_eq_true]
    intro k hk
    have hk' := List.mem_range.1 hk
    match k, hk' with
    | 0, _ => rfl
    | 1, _ => rfl
    | 2, _ => rfl
    | 3, _ => rfl
    | 4, _ => rfl
    | 5, _ => show decide ((P.map r.thg).length ≤ 12) = true; simp; omega
  · rw [List.all_eq_true]
    intro t ht
    obtain ⟨⟨i, k⟩, hx, rfl⟩ := List.mem_map.1 ht
    have hf := Rr.way_fit hP hx
    obtain ⟨x, hxi⟩ : ∃ x, r.L[i]? = some x := ⟨_, List.getElem?_eq_getElem hf.1⟩
    obtain ⟨y, hyk⟩ : ∃ y, r.R[k]? = some y := ⟨_, List.getElem?_eq_getElem hf.2.1⟩
    rw [Rr.thg_at hxi hyk]
    have h1 := p3 x (List.mem_of_getElem? hxi)
    have h2 := p4 y (List.mem_of_getElem? hyk)
    have h3 := hpl x (List.mem_append.2 (.inl (List.mem_of_getElem? hxi)))
    have h4 := hpl y (List.mem_append.2 (.inr (List.mem_of_getElem? hyk)))
    unfold Mrk.ok okS at h1 h2
    simp only [Bool.and_eq_true, decide_eq_true_eq] at h1 h2
    unfold Pq.Th.valid tth
    simp only [List.all_cons, List.all_nil, Pq.okSp, Bool.and_eq_true, Bool.or_eq_true, decide_eq_true_eq]
    simp
    omega
theorem thg_z (r : Rr) (p : Nat × Nat) : (r.thg p).z = 0 := by
  unfold Rr.thg tth
  split <;> rfl
theorem marks_none (l : List Pq.Th) (h : ∀ t ∈ l, t.z = 0) : ∀ n, n ≤ l.length → Pq.marksTo l n = 0
  | 0, _ => rfl
  | n + 1, hn => by
    unfold Pq.marksTo
    have e : (l.getD n ⟨0, 0, 0, 0, 0, 0, 0, 0, 0⟩).z = 0 := by
      rw [List.getD_eq_getElem?_getD, List.getElem?_eq_getElem (by omega)]
      exact h _ (List.getElem_mem _)
    rw [if_pos e]
    exact marks_none l h n (by omega)
theorem pick_zero (l : List Pq.Sg) : ∀ n, Pq.pickTo l 0 n = []
  | 0 => rfl
  | n + 1 => by
    unfold Pq.pickTo
    rw [if_neg (by simp)]
    exact pick_zero l n
theorem Rr.pr_pw (r : Rr) (P : List (Nat × Nat)) : (r.pr P).pw = (585000, 594000) := by
  show Pq.allPw 9000 9000 65 66 5 2000 100000 (P.map r.thg) = _
  unfold Pq.allPw
  rw [marks_none _ (fun t ht => by obtain ⟨p, -, rfl⟩ := List.mem_map.1 ht; exact thg_z r p) _ (Nat.le_refl _), pick_zero]
  rfl
theorem Rr.pr_at {r : Rr} {P : List (Nat × Nat)} {c i k : Nat} {x y : Mrk} (hc : P[c]? = some (i, k)) (hx : r.L[i]? = some x) (hy : r.R[k]? = some y) : (r.pr P).at c = some ((tth x y).see 5 2000 100000) := by
  unfold Pq.Pr.at
  rw [if_pos (by omega)]
  show ((P.map r.thg).map (Pq.Th.see 5 2000 100000))[((c : Int)).toNat]? = _
  rw [Int.toNat_natCast, List.getElem?_map, List.getElem?_map, hc]
  show some ((r.thg (i, k)).see 5 2000 100000) = _
  rw [Rr.thg_at hx hy]
/-- what the pair tells of the c-th thing -/
theorem Rr.pr_tells {r : Rr} {P : List (Nat × Nat)} (hok : r.ok = true) (hP : P ∈ r.ways) (hpl : r.plate) {c i k : Nat} (hc : P[c]? = some (i, k)) :
    ∃ lo hi wy : Int, (r.pr P).shift c = (lo, hi, 0) ∧ (r.pr P).why c = (wy, 0) ∧ (r.shv i k).1 = (if lo < r.s then r.s else lo) ∧ (r.shv i k).2 = (if r.t < hi then r.t else hi) ∧ wy ≠ 1 ∧ (0 ≤ r.s → wy ≠ 2) ∧ (-8000 ≤ lo ∧ lo ≤ 8000 ∧ -8000 ≤ hi ∧ hi ≤ 8000) := by
  have hm := List.mem_of_getElem? hc
  have hf := Rr.way_fit hP hm
  obtain ⟨p1, -, p3, p4, -⟩ := Rr.ok_parts hok
  obtain ⟨x, hxi⟩ : ∃ x, r.L[i]? = some x := ⟨_, List.getElem?_eq_getElem hf.1⟩
  obtain ⟨y, hyk⟩ : ∃ y, r.R[k]? = some y := ⟨_, List.getElem?_eq_getElem hf.2.1⟩
  have h1 := p3 x (List.mem_of_getElem? hxi)
  have h2 := p4 y (List.mem_of_getElem? hyk)
  have h3 := hpl x (List.mem_append.2 (.inl (List.mem_of_getElem? hxi)))
  have h4 := hpl y (List.mem_append.2 (.inr (List.mem_of_getElem? hyk)))
  unfold Mrk.ok okS at h1 h2
  simp only [Bool.and_eq_true, decide_eq_true_eq] at h1 h2
  have hpo := Rr.pr_ok hok hP hpl
  have hat := Rr.pr_at hc hxi hyk
  have hpw := Rr.pr_pw r P
  have hle := Rr.shv_le hf.2.2
  have hsv : r.shv i k = (mxI (x.a - y.b) r.s, mnI (x.b - y.a) r.t) := by unfold Rr.shv; rw [hxi, hyk]; rfl
  refine ⟨x.a - y.b, x.b - y.a, ((tth x y).see 5 2000 100000).why 585000 594000, ?_, ?_, by rw [hsv]; rfl, by rw [hsv]; rfl, ?_, fun hs => ?_, by omega⟩
  · unfold Pq.Pr.shift
    rw [if_pos hpo, hat]
    rfl
  · unfold Pq.Pr.why
    rw [if_pos hpo, hat, hpw]
    rfl
  · unfold Pq.Sg.why
    rw [if_neg (show ¬ ((tth x y).see 5 2000 100000).reason 585000 594000 0 = true by simp [Pq.Sg.reason, Pq.Th.see, tth, Pq.imax])]
    repeat' split
    all_goals omega
  · unfold Pq.Sg.why
    rw [if_neg (show ¬ ((tth x y).see 5 2000 100000).reason 585000 594000 0 = true by simp [Pq.Sg.reason, Pq.Th.see, tth, Pq.imax]), if_neg (show ¬ ((tth x y).see 5 2000 100000).reason 585000 594000 1 = true by
      rw [hsv] at hle
      simp only [Pq.Sg.reason, Pq.Th.see, tth, decide_eq_true_eq]
      have e1 : r.s ≤ mxI (x.a - y.b) r.s := by unfold mxI; split <;> omega
      have e2 : mnI (x.b - y.a) r.t ≤ x.b - y.a := by unfold mnI; split <;> omega
      have hle' : mxI (x.a - y.b) r.s ≤ mnI (x.b - y.a) r.t := hle
      intro h
      have := of_decide_eq_true h
      omega)]
    repeat' split
    all_goals omega
/-- a mark that is sure has just the shift of its pair -/
theorem Rr.sure_sh {r : Rr} {P : List (Nat × Nat)} (hok : r.ok = true) (hP : P ∈ r.ways) {i k : Nat} (hm : (i, k) ∈ P) (hs : r.lkd.surTo i r.lkd.nR = k) : (r.shE i).a = (r.shv i k).1 ∧ (r.shE i).b = (r.shv i k).2 := by
  have hf := Rr.way_fit hP hm
  have hbit := Rr.tr_ptn hok hP hm
  obtain ⟨-, p2, -⟩ := Rr.ok_parts hok
  rcases Rr.one_is hok (Rr.way_all0 hok hP) hf.1 with ⟨-, c, hc, h1, h2⟩ | ⟨-, h1⟩
  · have hck : c = k := by rw [hs] at h1; omega
    subst hck
    rw [Rr.shE_tks hok hf.1]
    have hw : ((wts r.R.length fun j => (r.lkd.ptn i).testBit j).map (r.shv i)) = [r.shv i c] := by
      unfold wts
      rw [h2]
      have : (List.range r.R.length).filter (fun j => (2 ^ c).testBit j) = [c] := by
        have e : (fun j => (2 ^ c).testBit j) = fun j => j == c := by
          funext j
          rw [Nat.testBit_two_pow]
          by_cases h : c = j
          · subst h; simp
          · simp [h]; exact fun e => h e.symm
        rw [e]
        have aux : ∀ n, c < n → (List.range n).filter (fun j => j == c) = [c] := by
          intro n
          induction n with
          | zero => omega
          | succ n ih =>
            intro hn
            rw [List.range_succ, List.filter_append]
            by_cases h : c = n
            · subst h
              have : (List.range c).filter (fun j => j == c) = [] := by
                rw [List.filter_eq_nil_iff]
                intro j hj
                have := List.mem_range.1 hj
                simp; omega
              rw [this]; simp
            · rw [ih (by omega)]
              simp; omega
        exact aux _ hf.2.1
      rw [this]
      rfl
    rw [hw]
    exact ⟨rfl, rfl⟩
  · rw [hs] at h1; omega

end Go.Proofs.Ytjlaoiimbhlafaa
