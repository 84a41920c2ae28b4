/- Package match: the mathematics of ways: how they are counted, searched, and what is told of all of them. -/
import Derived.Test.YtjlaoiimbhlafaaP0
set_option linter.unusedVariables false
set_option linter.unusedSimpArgs false
namespace Go.Proofs.Ytjlaoiimbhlafaa.MW

/-- o i k: left mark i may have the option k (10: hidden) -/
def step (o : Nat → Nat → Bool) (nR : Nat) (i r : Nat) (f : Nat → List (List (Nat × Nat))) : List (List (Nat × Nat)) :=
  ((List.range nR).filter fun k => decide (r ≤ k) && o i k).flatMap fun k => (f k).map ((i, k) :: ·)
/-- the pair lists of the left marks of a list, right marks from r on, in the document's order, but for the empty one -/
def ne (o : Nat → Nat → Bool) (nR : Nat) : List Nat → Nat → List (List (Nat × Nat))
  | [], _ => []
  | i :: is, r => step o nR i r (fun k => [] :: ne o nR is (k + 1)) ++ ne o nR is r
def rw (o : Nat → Nat → Bool) (nR : Nat) (is : List Nat) (r : Nat) : List (List (Nat × Nat)) := [] :: ne o nR is r
/-- no left mark is hidden that has not the option -/
def hid (o : Nat → Nat → Bool) (is : List Nat) (p : List (Nat × Nat)) : Bool := is.all fun i => o i 10 || p.any fun x => x.1 == i
/-- how many ways: as the program counts them -/
def cw (o : Nat → Nat → Bool) (nR : Nat) : List Nat → Nat → Int → Nat
  | [], r, h => if (nR : Int) - r > h then 0 else 1
  | i :: is, r, h => if h < 0 then 0 else
      (((List.range nR).filter fun k => decide (r ≤ k) && o i k).map fun k => cw o nR is (k + 1) (h - (k - r))).sum
        + (if o i 10 then cw o nR is r (h - 1) else 0)
def good (o : Nat → Nat → Bool) (nR : Nat) (is : List Nat) (r : Nat) (h : Int) (p : List (Nat × Nat)) : Bool :=
  hid o is p && decide ((is.length : Int) + (nR - r) ≤ h + 2 * p.length)
/-- pairs go upward, within their rows -/
theorem mem_ne {o : Nat → Nat → Bool} {nR : Nat} : ∀ {is : List Nat} {r : Nat} {p : List (Nat × Nat)}, p ∈ ne o nR is r →
    p ≠ [] ∧ (∀ x ∈ p, x.1 ∈ is ∧ r ≤ x.2 ∧ x.2 < nR ∧ o x.1 x.2 = true)
  | [], r, p, h => by simp [ne] at h
  | i :: is, r, p, h => by
    rw [ne, List.mem_append] at h
    rcases h with h | h
    · rw [step, List.mem_flatMap] at h
      obtain ⟨k, hk, hp⟩ := h
      rw [List.mem_filter, List.mem_range] at hk
      simp only [Bool.and_eq_true, decide_eq_true_eq] at hk
      obtain ⟨q, hq, rfl⟩ := List.mem_map.1 hp
      refine ⟨by simp, fun x hx => ?_⟩
      rcases List.mem_cons.1 hx with rfl | hx
      · exact ⟨by simp, hk.2.1, hk.1, hk.2.2⟩
      · rcases List.mem_cons.1 hq with rfl | hq
        · simp at hx
        · have := (mem_ne hq).2 x hx
          exact ⟨List.mem_cons_of_mem _ this.1, by omega, this.2.2⟩
    · obtain ⟨a, b⟩ := mem_ne h
      exact ⟨a, fun x hx => ⟨List.mem_cons_of_mem _ (b x hx).1, (b x hx).2⟩⟩
/-- at most as many pairs as marks -/
theorem len_ne {o : Nat → Nat → Bool} {nR : Nat} : ∀ {is : List Nat} {r : Nat} {p : List (Nat × Nat)}, r ≤ nR → p ∈ rw o nR is r →
    p.length ≤ is.length ∧ p.length ≤ nR - r
  | [], r, p, hr, h => by simp [rw, ne] at h; simp [h]
  | i :: is, r, p, hr, h => by
    rcases List.mem_cons.1 h with rfl | h
    · simp
    rw [ne, List.mem_append] at h
    rcases h with h | h
    · rw [step, List.mem_flatMap] at h
      obtain ⟨k, hk, hp⟩ := h
      rw [List.mem_filter, List.mem_range] at hk
      simp only [Bool.and_eq_true, decide_eq_true_eq] at hk
      obtain ⟨q, hq, rfl⟩ := List.mem_map.1 hp
      have := len_ne (r := k + 1) (by omega) hq
      simp only [List.length_cons]
      omega
    · have := len_ne hr (List.mem_cons_of_mem _ h)
      simp only [List.length_cons]
      omega
theorem countP_flatMap' {α β : Type} (f : α → List β) (q : β → Bool) : ∀ l : List α, (l.flatMap f).countP q = (l.map fun a => (f a).countP q).sum
  | [] => rfl
  | a :: l => by simp [List.flatMap_cons, countP_flatMap' f q l]
theorem hid_cons {o : Nat → Nat → Bool} {i k : Nat} {is : List Nat} {p : List (Nat × Nat)} (hi : i ∉ is) : hid o (i :: is) ((i, k) :: p) = hid o is p := by
  have e : ∀ j ∈ is, (o j 10 || ((i, k) :: p).any fun x => x.1 == j) = (o j 10 || p.any fun x => x.1 == j) := by
    intro j hj
    have : (i == j) = false := by
      cases h : i == j
      · rfl
      · rw [beq_iff_eq] at h; exact absurd (h ▸ hj) hi
    simp [this]
  unfold hid
  rw [List.all_cons]
  have h1 : (o i 10 || ((i, k) :: p).any fun x => x.1 == i) = true := by simp
  rw [h1, Bool.true_and, Bool.eq_iff_iff, List.all_eq_true, List.all_eq_true]
  exact ⟨fun h j hj => by rw [← e j hj]; exact h j hj, fun h j hj => by rw [e j hj]; exact h j hj⟩
theorem hid_skip {o : Nat → Nat → Bool} {i : Nat} {is : List Nat} {p : List (Nat × Nat)} (hp : ∀ x ∈ p, x.1 ≠ i) : hid o (i :: is) p = (o i 10 && hid o is p) := by
  have : (p.any fun x => x.1 == i) = false := by
    rw [List.any_eq_false]
    intro x hx
    simpa using hp x hx
  unfold hid
  rw [List.all_cons, this, Bool.or_false]
theorem good_cons {o : Nat → Nat → Bool} {nR i k r : Nat} {is : List Nat} {h : Int} {p : List (Nat × Nat)} (hi : i ∉ is) :
    good o nR (i :: is) r h ((i, k) :: p) = good o nR is (k + 1) (h - (k - r)) p := by
  unfold good
  rw [hid_cons hi]
  congr 1
  rw [decide_eq_decide]
  simp only [List.length_cons]
  omega
theorem good_skip {o : Nat → Nat → Bool} {nR i r : Nat} {is : List Nat} {h : Int} {p : List (Nat × Nat)} (hp : ∀ x ∈ p, x.1 ≠ i) :
    good o nR (i :: is) r h p = (o i 10 && good o nR is r (h - 1) p) := by
  unfold good
  rw [hid_skip hp, Bool.and_assoc]
  congr 2
  rw [decide_eq_decide]
  simp only [List.length_cons]
  omega
theorem cw_eq {o : Nat → Nat → Bool} {nR : Nat} : ∀ {is : List Nat} {r : Nat} {h : Int}, is.Nodup → r ≤ nR →
    cw o nR is r h = (rw o nR is r).countP (good o nR is r h)
  | [], r, h, _, hr => by
    unfold cw rw ne good hid
    simp only [List.all_nil, Bool.true_and, List.length_nil]
    by_cases hc : (nR : Int) - r > h
    · rw [if_pos hc, List.countP_cons_of_neg (by simp; omega), List.countP_nil]
    · rw [if_neg hc, List.countP_cons_of_pos (by simp; omega), List.countP_nil]
  | i :: is, r, h, hn, hr => by
    have hi : i ∉ is := (List.nodup_cons.1 hn).1
    have hn' := (List.nodup_cons.1 hn).2
    unfold cw
    by_cases hc : h < 0
    · rw [if_pos hc]
      symm
      rw [List.countP_eq_zero]
      intro p hp hg
      have := len_ne hr hp
      unfold good at hg
      simp only [Bool.and_eq_true, decide_eq_true_eq, List.length_cons] at hg
      simp only [List.length_cons] at this
      omega
    · rw [if_neg hc]
      have e1 : (rw o nR (i :: is) r).countP (good o nR (i :: is) r h) = (step o nR i r fun k => rw o nR is (k + 1)).countP (good o nR (i :: is) r h) + (rw o nR is r).countP (good o nR (i :: is) r h) := by
        have : rw o nR (i :: is) r = [] :: ((step o nR i r fun k => rw o nR is (k + 1)) ++ ne o nR is r) := by
          unfold rw
          rw [ne]
        rw [this]
        unfold rw
        rw [List.countP_cons, List.countP_append, List.countP_cons]
        omega
      rw [e1]
      congr 1
      · unfold step
        rw [countP_flatMap']
        congr 1
        refine List.map_congr_left fun k hk => ?_
        rw [List.mem_filter, List.mem_range] at hk
        rw [List.countP_map, cw_eq hn' (by omega)]
        refine List.countP_congr fun p _ => ?_
        simp only [Function.comp]
        rw [good_cons hi]
      · have e2 : (rw o nR is r).countP (good o nR (i :: is) r h) = (rw o nR is r).countP fun p => o i 10 && good o nR is r (h - 1) p := by
          refine List.countP_congr fun p hp => ?_
          rw [good_skip]
          intro x hx hxi
          rcases List.mem_cons.1 hp with rfl | hp
          · simp at hx
          · exact hi (hxi ▸ ((mem_ne hp).2 x hx).1)
        rw [e2]
        by_cases ho : o i 10 = true
        · simp only [ho, Bool.true_and, if_true]
          exact cw_eq hn' hr
        · simp only [ho, Bool.false_eq_true, if_false]
          symm
          simp
/-- fewer options: the pair lists that keep to them, in their order -/
theorem ne_sub {o o' : Nat → Nat → Bool} {nR : Nat} (hs : ∀ i k, o' i k = true → o i k = true) : ∀ {is : List Nat} {r : Nat},
    ne o' nR is r = (ne o nR is r).filter fun p => p.all fun x => o' x.1 x.2
  | [], r => rfl
  | i :: is, r => by
    rw [ne, ne, List.filter_append, ne_sub hs]
    congr 1
    unfold step
    rw [List.filter_flatMap]
    have e : ((List.range nR).filter fun k => decide (r ≤ k) && o' i k) = ((List.range nR).filter fun k => decide (r ≤ k) && o i k).filter fun k => o' i k := by
      rw [List.filter_filter]
      refine List.filter_congr fun k _ => ?_
      have := hs i k
      cases h1 : o' i k <;> cases h2 : o i k <;> simp_all
    rw [e]
    generalize ((List.range nR).filter fun k => decide (r ≤ k) && o i k) = l
    induction l with
    | nil => rfl
    | cons k l ih =>
      rw [List.flatMap_cons, List.filter_cons]
      by_cases hk : o' i k = true
      · rw [if_pos hk, List.flatMap_cons, ih]
        congr 1
        rw [List.filter_map, List.filter_cons]
        have : ((fun p : List (Nat × Nat) => p.all fun x => o' x.1 x.2) ∘ fun x => (i, k) :: x) = fun p => p.all fun x => o' x.1 x.2 := by
          funext p
          simp [hk]
        rw [this, ← ne_sub hs]
        simp
      · rw [if_neg hk, ih]
        have : (((([] : List (Nat × Nat)) :: ne o nR is (k + 1)).map ((i, k) :: ·)).filter fun p => p.all fun x => o' x.1 x.2) = [] := by
          rw [List.filter_eq_nil_iff]
          intro p hp
          obtain ⟨q, -, rfl⟩ := List.mem_map.1 hp
          simp [hk]
        rw [this, List.nil_append]
theorem rw_sub {o o' : Nat → Nat → Bool} {nR : Nat} (hs : ∀ i k, o' i k = true → o i k = true) {is : List Nat} {r : Nat} :
    rw o' nR is r = (rw o nR is r).filter fun p => p.all fun x => o' x.1 x.2 := by
  unfold rw
  rw [ne_sub hs, List.filter_cons]
  simp
/-- so the program's count under fewer options counts ways of the rows -/
theorem cw_sub {o o' : Nat → Nat → Bool} {nR : Nat} (hs : ∀ i k, o' i k = true → o i k = true) {is : List Nat} {r : Nat} {h : Int} (hn : is.Nodup) (hr : r ≤ nR) :
    cw o' nR is r h = (rw o nR is r).countP fun p => (p.all fun x => o' x.1 x.2) && good o' nR is r h p := by
  rw [cw_eq hn hr, rw_sub hs, List.countP_filter]
  refine List.countP_congr fun p _ => ?_
  rw [Bool.and_comm]
/-- pairs stand in the order of their left marks -/
theorem pw_ne {o : Nat → Nat → Bool} {nR : Nat} : ∀ {is : List Nat} {r : Nat} {p : List (Nat × Nat)}, is.Pairwise (· < ·) → p ∈ ne o nR is r →
    p.Pairwise fun x y => x.1 < y.1 ∧ x.2 < y.2
  | [], r, p, hn, h => by simp [ne] at h
  | i :: is, r, p, hn, h => by
    have hn' := List.pairwise_cons.1 hn
    rw [ne, List.mem_append] at h
    rcases h with h | h
    · rw [step, List.mem_flatMap] at h
      obtain ⟨k, hk, hp⟩ := h
      obtain ⟨q, hq, rfl⟩ := List.mem_map.1 hp
      rcases List.mem_cons.1 hq with rfl | hq
      · simp
      · refine List.pairwise_cons.2 ⟨fun x hx => ?_, pw_ne hn'.2 hq⟩
        have := (mem_ne hq).2 x hx
        exact ⟨hn'.1 _ this.1, by simp only; omega⟩
    · exact pw_ne hn'.2 h
theorem pw_rw {o : Nat → Nat → Bool} {nR : Nat} {is : List Nat} {r : Nat} {p : List (Nat × Nat)} (hn : is.Pairwise (· < ·)) (h : p ∈ rw o nR is r) :
    p.Pairwise fun x y => x.1 < y.1 ∧ x.2 < y.2 := by
  rcases List.mem_cons.1 h with rfl | h
  · exact List.Pairwise.nil
  · exact pw_ne hn h
theorem mem_rw {o : Nat → Nat → Bool} {nR : Nat} {is : List Nat} {r : Nat} {p : List (Nat × Nat)} (h : p ∈ rw o nR is r) :
    ∀ x ∈ p, x.1 ∈ is ∧ r ≤ x.2 ∧ x.2 < nR ∧ o x.1 x.2 = true := by
  rcases List.mem_cons.1 h with rfl | h
  · simp
  · exact (mem_ne h).2
/-- no left mark has two partners -/
theorem one_rw {p : List (Nat × Nat)} (h : p.Pairwise fun x y => x.1 < y.1 ∧ x.2 < y.2) {i a b : Nat} (ha : (i, a) ∈ p) (hb : (i, b) ∈ p) : a = b := by
  induction p with
  | nil => simp at ha
  | cons y p ih =>
    have h' := List.pairwise_cons.1 h
    rcases List.mem_cons.1 ha with e | ha'
    · rcases List.mem_cons.1 hb with f | hb'
      · rw [← e] at f; exact (Prod.mk.inj f).2.symm
      · have := (h'.1 _ hb').1; rw [← e] at this; simp at this
    · rcases List.mem_cons.1 hb with f | hb'
      · have := (h'.1 _ ha').1; rw [← f] at this; simp at this
      · exact ih h'.2 ha' hb'
theorem hid_iff {o : Nat → Nat → Bool} {is : List Nat} {p : List (Nat × Nat)} : hid o is p = true ↔ ∀ j ∈ is, o j 10 = true ∨ ∃ x ∈ p, x.1 = j := by
  unfold hid
  simp [List.all_eq_true]
/-- the options, if left mark i has none but c -/
def onl (o : Nat → Nat → Bool) (i c : Nat) : Nat → Nat → Bool := fun j k => o j k && (j != i || k == c)
/-- the options, if no left mark has c -/
def wo (o : Nat → Nat → Bool) (c : Nat) : Nat → Nat → Bool := fun j k => o j k && k != c
theorem onl_sub {o : Nat → Nat → Bool} {i c : Nat} : ∀ j k, onl o i c j k = true → o j k = true := by
  intro j k h; unfold onl at h; simp only [Bool.and_eq_true] at h; exact h.1
theorem wo_sub {o : Nat → Nat → Bool} {c : Nat} : ∀ j k, wo o c j k = true → o j k = true := by
  intro j k h; unfold wo at h; simp only [Bool.and_eq_true] at h; exact h.1
theorem onl_iff {o : Nat → Nat → Bool} {nR r i c : Nat} {is : List Nat} {h : Int} {p : List (Nat × Nat)} (hn : is.Pairwise (· < ·)) (hp : p ∈ rw o nR is r) (hi : i ∈ is) (hR : nR ≤ 10) (hc : c < nR) :
    ((p.all fun x => onl o i c x.1 x.2) && good (onl o i c) nR is r h p) = (decide ((i, c) ∈ p) && good o nR is r h p) := by
  rw [Bool.eq_iff_iff]
  simp only [good, Bool.and_eq_true, List.all_eq_true, hid_iff, decide_eq_true_eq]
  constructor
  · rintro ⟨a, b, d⟩
    have hm : (i, c) ∈ p := by
      rcases b i hi with b | ⟨x, hx, e⟩
      · unfold onl at b
        simp at b
        omega
      · have := a x hx
        unfold onl at this
        simp [e] at this
        obtain ⟨x1, x2⟩ := x
        simp only at e this
        rw [← e, ← this.2]
        exact hx
    refine ⟨hm, fun j hj => ?_, d⟩
    rcases b j hj with b | b
    · exact .inl (onl_sub _ _ b)
    · exact .inr b
  · rintro ⟨a, b, d⟩
    refine ⟨fun x hx => ?_, fun j hj => ?_, d⟩
    · have h1 := (mem_rw hp x hx).2.2.2
      unfold onl
      simp only [h1, Bool.true_and, Bool.or_eq_true, bne_iff_ne, beq_iff_eq, ne_eq]
      by_cases e : x.1 = i
      · right
        have hx' : (i, x.2) ∈ p := by rw [← e]; exact hx
        exact one_rw (pw_rw hn hp) hx' a
      · exact .inl e
    · by_cases e : j = i
      · exact .inr ⟨_, a, e.symm⟩
      · rcases b j hj with b | b
        · left; unfold onl; simp [b, e]
        · exact .inr b
theorem onl_hid {o : Nat → Nat → Bool} {nR r i : Nat} {is : List Nat} {h : Int} {p : List (Nat × Nat)} (hp : p ∈ rw o nR is r) (hR : nR ≤ 10) :
    ((p.all fun x => onl o i 10 x.1 x.2) && good (onl o i 10) nR is r h p) = (decide (∀ x ∈ p, x.1 ≠ i) && good o nR is r h p) := by
  rw [Bool.eq_iff_iff]
  simp only [good, Bool.and_eq_true, List.all_eq_true, hid_iff, decide_eq_true_eq]
  constructor
  · rintro ⟨a, b, d⟩
    refine ⟨fun x hx e => ?_, fun j hj => ?_, d⟩
    · have h1 := (mem_rw hp x hx).2.2.1
      have := a x hx
      unfold onl at this
      simp [e] at this
      omega
    · rcases b j hj with b | b
      · exact .inl (onl_sub _ _ b)
      · exact .inr b
  · rintro ⟨a, b, d⟩
    refine ⟨fun x hx => ?_, fun j hj => ?_, d⟩
    · have h1 := (mem_rw hp x hx).2.2.2
      unfold onl
      simp [h1, a x hx]
    · rcases b j hj with b | b
      · left; unfold onl; simp [b]
      · exact .inr b
theorem wo_iff {o : Nat → Nat → Bool} {nR r c : Nat} {is : List Nat} {h : Int} {p : List (Nat × Nat)} (hp : p ∈ rw o nR is r) (hc : c < 10) :
    ((p.all fun x => wo o c x.1 x.2) && good (wo o c) nR is r h p) = (decide (∀ x ∈ p, x.2 ≠ c) && good o nR is r h p) := by
  rw [Bool.eq_iff_iff]
  simp only [good, Bool.and_eq_true, List.all_eq_true, hid_iff, decide_eq_true_eq]
  have h10 : ∀ j, wo o c j 10 = o j 10 := by
    intro j
    unfold wo
    have : (10 != c) = true := by simp; omega
    rw [this, Bool.and_true]
  simp only [h10]
  constructor
  · rintro ⟨a, b, d⟩
    refine ⟨fun x hx => ?_, b, d⟩
    have := a x hx
    unfold wo at this
    simp at this
    exact this.2
  · rintro ⟨a, b, d⟩
    refine ⟨fun x hx => ?_, b, d⟩
    have h1 := (mem_rw hp x hx).2.2.2
    unfold wo
    simp [h1, a x hx]
/-- pairs in their order -/
def pl (a b : Nat × Nat) : Prop := a.1 < b.1 ∨ a.1 = b.1 ∧ a.2 < b.2
/-- lists of pairs in their order: what begins another one stands before it -/
def ll : List (Nat × Nat) → List (Nat × Nat) → Prop
  | [], [] => False
  | [], _ :: _ => True
  | _ :: _, [] => False
  | a :: p, b :: q => pl a b ∨ a = b ∧ ll p q
theorem pl_irr {a : Nat × Nat} : ¬ pl a a := by unfold pl; omega
theorem pl_asym {a b : Nat × Nat} (h : pl a b) : ¬ pl b a := by unfold pl at *; omega
theorem pl_tri (a b : Nat × Nat) : pl a b ∨ a = b ∨ pl b a := by
  obtain ⟨a1, a2⟩ := a
  obtain ⟨b1, b2⟩ := b
  unfold pl
  simp only [Prod.mk.injEq]
  omega
theorem pl_trans {a b c : Nat × Nat} (h : pl a b) (g : pl b c) : pl a c := by unfold pl at *; omega
theorem ll_irr : ∀ {p : List (Nat × Nat)}, ¬ ll p p
  | [], h => h
  | a :: p, h => by
    rcases h with h | h
    · exact pl_irr h
    · exact ll_irr h.2
theorem ll_asym : ∀ {p q : List (Nat × Nat)}, ll p q → ¬ ll q p
  | [], [], h, _ => h
  | [], _ :: _, _, g => g
  | _ :: _, [], h, _ => h
  | a :: p, b :: q, h, g => by
    rcases h with h | ⟨rfl, h⟩
    · rcases g with g | ⟨rfl, g⟩
      · exact pl_asym h g
      · exact pl_irr h
    · rcases g with g | ⟨-, g⟩
      · exact pl_irr g
      · exact ll_asym h g
/-- the document's order is this one -/
theorem ll_ne {o : Nat → Nat → Bool} {nR : Nat} : ∀ {is : List Nat} {r : Nat}, is.Pairwise (· < ·) → (ne o nR is r).Pairwise ll
  | [], r, _ => by rw [ne]; exact List.Pairwise.nil
  | i :: is, r, hn => by
    have hn' := List.pairwise_cons.1 hn
    rw [ne, List.pairwise_append]
    refine ⟨?_, ll_ne hn'.2, ?_⟩
    · unfold step
      have hs : ((List.range nR).filter fun k => decide (r ≤ k) && o i k).Pairwise (· < ·) := List.pairwise_lt_range.filter _
      generalize ((List.range nR).filter fun k => decide (r ≤ k) && o i k) = l at hs
      induction l with
      | nil => exact List.Pairwise.nil
      | cons k l ih =>
        have hs' := List.pairwise_cons.1 hs
        rw [List.flatMap_cons, List.pairwise_append]
        refine ⟨?_, ih hs'.2, ?_⟩
        · rw [List.pairwise_map]
          refine (List.pairwise_cons.2 ⟨fun p hp => ?_, ll_ne hn'.2⟩).imp fun h => Or.inr ⟨rfl, h⟩
          have := (mem_ne hp).1
          cases p with
          | nil => exact absurd rfl this
          | cons => trivial
        · intro p hp q hq
          obtain ⟨p', -, rfl⟩ := List.mem_map.1 hp
          obtain ⟨k', hk', hq⟩ := List.mem_flatMap.1 hq
          obtain ⟨q', -, rfl⟩ := List.mem_map.1 hq
          exact Or.inl (Or.inr ⟨rfl, hs'.1 _ hk'⟩)
    · intro p hp q hq
      rw [step, List.mem_flatMap] at hp
      obtain ⟨k, -, hp⟩ := hp
      obtain ⟨p', -, rfl⟩ := List.mem_map.1 hp
      obtain ⟨a, b⟩ := mem_ne hq
      cases q with
      | nil => exact absurd rfl a
      | cons y q => exact Or.inl (Or.inl (hn'.1 _ (b y (by simp)).1))
theorem ll_rw {o : Nat → Nat → Bool} {nR : Nat} {is : List Nat} {r : Nat} (hn : is.Pairwise (· < ·)) : (rw o nR is r).Pairwise ll := by
  refine List.pairwise_cons.2 ⟨fun p hp => ?_, ll_ne hn⟩
  have := (mem_ne hp).1
  cases p with
  | nil => exact absurd rfl this
  | cons => trivial
/-- a list that has all of another one's pairs before x, and x, which the other one has not but goes on behind, stands before it -/
theorem ll_of {x : Nat × Nat} : ∀ {w v : List (Nat × Nat)}, w.Pairwise pl → v.Pairwise pl → x ∈ w → x ∉ v → (∀ z ∈ v, pl z x → z ∈ w) → (∃ z ∈ v, pl x z) → ll w v
  | [], _, _, _, hx, _, _, _ => by simp at hx
  | _ :: _, [], _, _, _, _, _, h => by simp at h
  | a :: w, b :: v, hw, hv, hx, hx', hz, hb => by
    have hw' := List.pairwise_cons.1 hw
    have hv' := List.pairwise_cons.1 hv
    rcases pl_tri a b with h | rfl | h
    · exact Or.inl h
    · right
      refine ⟨rfl, ll_of hw'.2 hv'.2 ?_ (fun h => hx' (List.mem_cons_of_mem _ h)) ?_ ?_⟩
      · rcases List.mem_cons.1 hx with rfl | hx
        · exact absurd (by simp) hx'
        · exact hx
      · intro z hzv hzx
        rcases List.mem_cons.1 (hz z (List.mem_cons_of_mem _ hzv) hzx) with rfl | h
        · exact absurd (hv'.1 _ hzv) pl_irr
        · exact h
      · obtain ⟨z, hz1, hz2⟩ := hb
        rcases List.mem_cons.1 hz1 with rfl | hz1
        · exfalso
          rcases List.mem_cons.1 hx with rfl | hx
          · exact pl_irr hz2
          · exact pl_asym hz2 (hw'.1 _ hx)
        · exact ⟨z, hz1, hz2⟩
    · exfalso
      have hax : a = x ∨ pl a x := by
        rcases List.mem_cons.1 hx with rfl | hx
        · exact .inl rfl
        · exact .inr (hw'.1 _ hx)
      have hbx : pl b x := by
        rcases hax with rfl | hax
        · exact h
        · exact pl_trans h hax
      rcases List.mem_cons.1 (hz b (by simp) hbx) with rfl | hm
      · exact pl_irr h
      · exact pl_asym h (hw'.1 _ hm)
/-- what a search in order finds: each pair is taken that some list has together with all that are taken; it ends when enough are -/
def greedy (m : Nat) (has : List (Nat × Nat) → Bool) : List (Nat × Nat) → List (Nat × Nat) → List (Nat × Nat)
  | [], ps => ps
  | x :: u, ps => if ps.length = m then ps else if has (ps ++ [x]) then greedy m has u (ps ++ [x]) else greedy m has u ps
theorem greedy_eq {m : Nat} {W : List (List (Nat × Nat))} {v : List (Nat × Nat)} {has : List (Nat × Nat) → Bool}
    (hh : ∀ ps, has ps = true ↔ ∃ w ∈ W, ∀ z ∈ ps, z ∈ w) (hv : v ∈ W) (hm : ∀ w ∈ W, w.length = m) (hs : ∀ w ∈ W, w.Pairwise pl) (hl : ∀ w ∈ W, w = v ∨ ll v w) :
    ∀ {u ps t : List (Nat × Nat)}, v = ps ++ t → u.Pairwise pl → (∀ z ∈ t, z ∈ u) → (∀ z ∈ ps, ∀ x ∈ u, pl z x) → greedy m has u ps = v
  | [], ps, t, e, _, ht, _ => by
    cases t with
    | nil => simp [greedy, e]
    | cons z t => exact absurd (ht z (by simp)) (by simp)
  | x :: u, ps, t, e, hu, ht, hp => by
    have hu' := List.pairwise_cons.1 hu
    rw [greedy]
    by_cases hc : ps.length = m
    · rw [if_pos hc]
      have := hm v hv
      rw [e, List.length_append] at this
      have : t = [] := List.length_eq_zero_iff.1 (by omega)
      rw [e, this, List.append_nil]
    · rw [if_neg hc]
      have hvs := hs v hv
      have hlen := hm v hv
      cases t with
      | nil =>
        rw [e, List.append_nil] at hlen
        exact absurd hlen hc
      | cons y t =>
        have hy := ht y (by simp)
        by_cases hyx : y = x
        · subst hyx
          have : has (ps ++ [y]) = true := (hh _).2 ⟨v, hv, fun z hz => by
            rw [e]
            rcases List.mem_append.1 hz with h | h
            · exact List.mem_append_left _ h
            · exact List.mem_append_right _ (by rw [List.mem_singleton.1 h]; simp)⟩
          rw [if_pos this]
          rw [e] at hvs
          have h2 := List.pairwise_append.1 hvs
          have h3 := List.pairwise_cons.1 h2.2.1
          refine greedy_eq hh hv hm hs hl (t := t) (by rw [e]; simp) hu'.2 ?_ ?_
          · intro z hz
            rcases List.mem_cons.1 (ht z (List.mem_cons_of_mem _ hz)) with rfl | h
            · exact absurd (h3.1 _ hz) pl_irr
            · exact h
          · intro z hz w hw
            rcases List.mem_append.1 hz with h | h
            · exact hp z h w (List.mem_cons_of_mem _ hw)
            · rw [List.mem_singleton.1 h]
              exact hu'.1 _ hw
        · have hyu : y ∈ u := by
            rcases List.mem_cons.1 hy with h | h
            · exact absurd h hyx
            · exact h
          have hxy : pl x y := hu'.1 _ hyu
          rw [e] at hvs
          have h2 := List.pairwise_append.1 hvs
          have h3 := List.pairwise_cons.1 h2.2.1
          have hxt : ∀ z ∈ y :: t, pl x z := by
            intro z hz
            rcases List.mem_cons.1 hz with rfl | hz
            · exact hxy
            · exact pl_trans hxy (h3.1 _ hz)
          have hno : ¬ has (ps ++ [x]) = true := by
            intro hc2
            obtain ⟨w, hw, hwz⟩ := (hh _).1 hc2
            have : ll w v := by
              refine ll_of (x := x) (hs w hw) (hs v hv) (hwz x (by simp)) ?_ ?_ ?_
              · rw [e]
                intro hxv
                rcases List.mem_append.1 hxv with h | h
                · exact pl_irr (hp x h x (by simp))
                · exact pl_irr (hxt x h)
              · intro z hz hzx
                rw [e] at hz
                rcases List.mem_append.1 hz with h | h
                · exact hwz z (List.mem_append_left _ h)
                · exact absurd (hxt z h) (pl_asym hzx)
              · exact ⟨y, by rw [e]; simp, hxy⟩
            rcases hl w hw with rfl | h
            · exact ll_irr this
            · exact ll_asym h this
          rw [if_neg hno]
          refine greedy_eq hh hv hm hs hl (t := y :: t) e hu'.2 ?_ ?_
          · intro z hz
            rcases List.mem_cons.1 (ht z hz) with rfl | h
            · exact absurd (hxt _ hz) pl_irr
            · exact h
          · exact fun z hz w hw => hp z hz w (List.mem_cons_of_mem _ hw)
/-- the numbers from a on below n -/
def lf (a n : Nat) : List Nat := List.range' a (n - a)
theorem lf_cons {a n : Nat} (h : a < n) : lf a n = a :: lf (a + 1) n := by
  unfold lf
  rw [show n - a = (n - (a + 1)) + 1 by omega, List.range'_succ]
theorem lf_nil {a n : Nat} (h : n ≤ a) : lf a n = [] := by
  unfold lf
  rw [show n - a = 0 by omega]
  rfl
theorem mem_lf {a n i : Nat} : i ∈ lf a n ↔ a ≤ i ∧ i < n := by
  unfold lf
  rw [List.mem_range'_1]
  omega
theorem lf_pw (a n : Nat) : (lf a n).Pairwise (· < ·) := List.pairwise_lt_range'
theorem lf_nodup (a n : Nat) : (lf a n).Nodup := (lf_pw a n).imp fun h => Nat.ne_of_lt h
theorem lf_len (a n : Nat) : (lf a n).length = n - a := List.length_range'
/-- by the first left mark that has a partner -/
theorem ne_flat (o : Nat → Nat → Bool) (nL nR : Nat) (r : Nat) : ∀ m a, nL - a = m → ne o nR (lf a nL) r = (lf a nL).flatMap fun i => step o nR i r fun k => rw o nR (lf (i + 1) nL) (k + 1)
  | 0, a, h => by rw [lf_nil (by omega)]; rfl
  | m + 1, a, h => by
    rw [lf_cons (by omega), ne, List.flatMap_cons, ne_flat o nL nR r m (a + 1) (by omega)]
    rfl
theorem ne_congr {o o' : Nat → Nat → Bool} {nR : Nat} (h : ∀ i k, k < nR → o i k = o' i k) : ∀ {is : List Nat} {r : Nat}, ne o nR is r = ne o' nR is r
  | [], r => rfl
  | i :: is, r => by
    rw [ne, ne, ne_congr h]
    congr 1
    unfold step
    have : ((List.range nR).filter fun k => decide (r ≤ k) && o i k) = (List.range nR).filter fun k => decide (r ≤ k) && o' i k :=
      List.filter_congr fun k hk => by rw [h i k (List.mem_range.1 hk)]
    rw [this]
    congr 1
    funext k
    simp only
    rw [ne_congr h]
theorem rw_congr {o o' : Nat → Nat → Bool} {nR : Nat} (h : ∀ i k, k < nR → o i k = o' i k) {is : List Nat} {r : Nat} : rw o nR is r = rw o' nR is r := by
  unfold rw; rw [ne_congr h]
/-- all options: hidden, and the right marks that fit -/
def full (fit : Nat → Nat → Bool) : Nat → Nat → Bool := fun i k => k == 10 || fit i k
/-- is so much hidden at most? -/
def few (nL nR : Nat) (H : Int) (p : List (Nat × Nat)) : Bool := decide ((nL : Int) + nR - 2 * p.length ≤ H)
/-- all ways, in the document's order -/
def All (fit : Nat → Nat → Bool) (nL nR : Nat) (H : Int) : List (List (Nat × Nat)) := (rw fit nR (lf 0 nL) 0).filter (few nL nR H)
theorem rw_full {fit : Nat → Nat → Bool} {nR : Nat} (hR : nR ≤ 10) {is : List Nat} {r : Nat} : rw (full fit) nR is r = rw fit nR is r :=
  rw_congr fun i k hk => by unfold full; have : (k == 10) = false := by simp; omega
                            rw [this, Bool.false_or]
theorem good_full {fit : Nat → Nat → Bool} {nL nR : Nat} {H : Int} {p : List (Nat × Nat)} : good (full fit) nR (lf 0 nL) 0 H p = few nL nR H p := by
  unfold good few
  have : hid (full fit) (lf 0 nL) p = true := by
    rw [hid_iff]
    intro j _
    left
    unfold full
    simp
  rw [this, Bool.true_and, decide_eq_decide, lf_len]
  omega
theorem count_full {fit : Nat → Nat → Bool} {nL nR : Nat} {H : Int} (hR : nR ≤ 10) : cw (full fit) nR (lf 0 nL) 0 H = (All fit nL nR H).length := by
  rw [cw_eq (lf_nodup _ _) (Nat.zero_le _), rw_full hR, All, ← List.countP_eq_length_filter]
  exact List.countP_congr fun p _ => by rw [good_full]
/-- options that leave those ways that a test lets through -/
def Lets (fit : Nat → Nat → Bool) (nL nR : Nat) (H : Int) (o : Nat → Nat → Bool) (t : List (Nat × Nat) → Bool) : Prop :=
  (∀ i k, o i k = true → full fit i k = true) ∧ ∀ p ∈ rw fit nR (lf 0 nL) 0, ((p.all fun x => o x.1 x.2) && good o nR (lf 0 nL) 0 H p) = (t p && few nL nR H p)
theorem Lets.count {fit : Nat → Nat → Bool} {nL nR : Nat} {H : Int} {o : Nat → Nat → Bool} {t : List (Nat × Nat) → Bool} (h : Lets fit nL nR H o t) (hR : nR ≤ 10) :
    cw o nR (lf 0 nL) 0 H = (All fit nL nR H).countP t := by
  rw [cw_sub h.1 (lf_nodup _ _) (Nat.zero_le _), rw_full hR, All, List.countP_filter]
  exact List.countP_congr fun p hp => by rw [h.2 p hp]
theorem Lets.full (fit : Nat → Nat → Bool) (nL nR : Nat) (H : Int) (hR : nR ≤ 10) : Lets fit nL nR H (full fit) fun _ => true :=
  ⟨fun _ _ h => h, fun p hp => by
    rw [good_full]
    have : (p.all fun x => MW.full fit x.1 x.2) = true := by
      rw [← rw_full hR] at hp
      exact List.all_eq_true.2 fun x hx => (mem_rw hp x hx).2.2.2
    rw [this]⟩
theorem mem_sub {fit o : Nat → Nat → Bool} {nL nR : Nat} (hR : nR ≤ 10) (h : ∀ i k, o i k = true → full fit i k = true) {p : List (Nat × Nat)} (hp : p ∈ rw fit nR (lf 0 nL) 0) (ha : (p.all fun x => o x.1 x.2) = true) : p ∈ rw o nR (lf 0 nL) 0 := by
  rw [rw_sub h, rw_full hR]
  exact List.mem_filter.2 ⟨hp, ha⟩
theorem all_onl {o : Nat → Nat → Bool} {i c : Nat} {p : List (Nat × Nat)} (h : (p.all fun x => o x.1 x.2) = false) : (p.all fun x => onl o i c x.1 x.2) = false := by
  cases e : p.all fun x => onl o i c x.1 x.2
  · rfl
  · rw [List.all_eq_true] at e
    have : (p.all fun x => o x.1 x.2) = true := List.all_eq_true.2 fun x hx => onl_sub _ _ (e x hx)
    rw [this] at h
    exact h
theorem all_wo {o : Nat → Nat → Bool} {c : Nat} {p : List (Nat × Nat)} (h : (p.all fun x => o x.1 x.2) = false) : (p.all fun x => wo o c x.1 x.2) = false := by
  cases e : p.all fun x => wo o c x.1 x.2
  · rfl
  · rw [List.all_eq_true] at e
    have : (p.all fun x => o x.1 x.2) = true := List.all_eq_true.2 fun x hx => wo_sub _ _ (e x hx)
    rw [this] at h
    exact h
theorem Lets.only {fit o : Nat → Nat → Bool} {nL nR i c : Nat} {H : Int} {t : List (Nat × Nat) → Bool} (h : Lets fit nL nR H o t) (hR : nR ≤ 10) (hi : i < nL) (hc : c < nR) :
    Lets fit nL nR H (MW.onl o i c) fun p => t p && decide ((i, c) ∈ p) := by
  refine ⟨fun j k hk => h.1 j k (onl_sub _ _ hk), fun p hp => ?_⟩
  have h2 := h.2 p hp
  cases ha : p.all fun x => o x.1 x.2
  · rw [all_onl ha]
    rw [ha] at h2
    rw [Bool.and_right_comm, ← h2]
    simp
  · rw [onl_iff (lf_pw _ _) (mem_sub hR h.1 hp ha) (mem_lf.2 ⟨Nat.zero_le _, hi⟩) hR hc]
    rw [ha, Bool.true_and] at h2
    rw [h2]
    show _ = ((t p && _) && _)
    ac_rfl
theorem Lets.hid {fit o : Nat → Nat → Bool} {nL nR i : Nat} {H : Int} {t : List (Nat × Nat) → Bool} (h : Lets fit nL nR H o t) (hR : nR ≤ 10) :
    Lets fit nL nR H (MW.onl o i 10) fun p => t p && decide (∀ x ∈ p, x.1 ≠ i) := by
  refine ⟨fun j k hk => h.1 j k (onl_sub _ _ hk), fun p hp => ?_⟩
  have h2 := h.2 p hp
  cases ha : p.all fun x => o x.1 x.2
  · rw [all_onl ha]
    rw [ha] at h2
    rw [Bool.and_right_comm, ← h2]
    simp
  · rw [onl_hid (mem_sub hR h.1 hp ha) hR]
    rw [ha, Bool.true_and] at h2
    rw [h2]
    show _ = ((t p && _) && _)
    ac_rfl
theorem Lets.wo {fit o : Nat → Nat → Bool} {nL nR c : Nat} {H : Int} {t : List (Nat × Nat) → Bool} (h : Lets fit nL nR H o t) (hR : nR ≤ 10) (hc : c < 10) :
    Lets fit nL nR H (MW.wo o c) fun p => t p && decide (∀ x ∈ p, x.2 ≠ c) := by
  refine ⟨fun j k hk => h.1 j k (wo_sub _ _ hk), fun p hp => ?_⟩
  have h2 := h.2 p hp
  cases ha : p.all fun x => o x.1 x.2
  · rw [all_wo ha]
    rw [ha] at h2
    rw [Bool.and_right_comm, ← h2]
    simp
  · rw [wo_iff (mem_sub hR h.1 hp ha) hc]
    rw [ha, Bool.true_and] at h2
    rw [h2]
    show _ = ((t p && _) && _)
    ac_rfl
/-- the options while a first way is searched for: of these left marks no other option than that of these pairs -/
def keep (o : Nat → Nat → Bool) (ps : List (Nat × Nat)) : Nat → Nat → Bool := ps.foldl (fun o x => onl o x.1 x.2) o
theorem keep_snoc (o : Nat → Nat → Bool) (ps : List (Nat × Nat)) (x : Nat × Nat) : keep o (ps ++ [x]) = onl (keep o ps) x.1 x.2 := by
  unfold keep; rw [List.foldl_append]; rfl
theorem Lets.keep {fit : Nat → Nat → Bool} {nL nR : Nat} {H : Int} (hR : nR ≤ 10) : ∀ {ps : List (Nat × Nat)} {o : Nat → Nat → Bool} {t : List (Nat × Nat) → Bool}, Lets fit nL nR H o t → (∀ x ∈ ps, x.1 < nL ∧ x.2 < nR) →
    Lets fit nL nR H (MW.keep o ps) fun p => t p && decide (∀ x ∈ ps, x ∈ p)
  | [], o, t, h, _ => by
    have : (fun p => t p && decide (∀ x ∈ ([] : List (Nat × Nat)), x ∈ p)) = t := by funext p; simp
    rw [this]; exact h
  | x :: ps, o, t, h, hx => by
    have h1 := Lets.keep hR (ps := ps) (h.only hR (hx x (by simp)).1 (hx x (by simp)).2) (fun y hy => hx y (List.mem_cons_of_mem _ hy))
    have : (fun p => t p && decide (∀ y ∈ x :: ps, y ∈ p)) = fun p => (t p && decide ((x.1, x.2) ∈ p)) && decide (∀ y ∈ ps, y ∈ p) := by
      funext p
      rw [Bool.and_assoc]
      congr 1
      rw [Bool.eq_iff_iff]
      simp
    rw [this]
    exact h1
/-- the count behind some pairs is of the ways that hold them all -/
theorem count_keep {fit : Nat → Nat → Bool} {nL nR : Nat} {H : Int} (hR : nR ≤ 10) {ps : List (Nat × Nat)} (hx : ∀ x ∈ ps, x.1 < nL ∧ x.2 < nR) :
    cw (keep (full fit) ps) nR (lf 0 nL) 0 H = (All fit nL nR H).countP fun p => decide (∀ x ∈ ps, x ∈ p) := by
  rw [((Lets.full fit nL nR H hR).keep hR hx).count hR]
  exact List.countP_congr fun p _ => by simp
theorem count_only {fit : Nat → Nat → Bool} {nL nR i c : Nat} {H : Int} (hR : nR ≤ 10) (hi : i < nL) (hc : c < nR) :
    cw (onl (full fit) i c) nR (lf 0 nL) 0 H = (All fit nL nR H).countP fun p => decide ((i, c) ∈ p) := by
  rw [((Lets.full fit nL nR H hR).only hR hi hc).count hR]
  exact List.countP_congr fun p _ => by simp
theorem count_hid {fit : Nat → Nat → Bool} {nL nR i : Nat} {H : Int} (hR : nR ≤ 10) :
    cw (onl (full fit) i 10) nR (lf 0 nL) 0 H = (All fit nL nR H).countP fun p => decide (∀ x ∈ p, x.1 ≠ i) := by
  rw [((Lets.full fit nL nR H hR).hid hR).count hR]
  exact List.countP_congr fun p _ => by simp
theorem count_wo {fit : Nat → Nat → Bool} {nL nR c : Nat} {H : Int} (hR : nR ≤ 10) (hc : c < 10) :
    cw (wo (full fit) c) nR (lf 0 nL) 0 H = (All fit nL nR H).countP fun p => decide (∀ x ∈ p, x.2 ≠ c) := by
  rw [((Lets.full fit nL nR H hR).wo hR hc).count hR]
  exact List.countP_congr fun p _ => by simp
/-- all pairs of marks, in their order -/
def grid (nL nR : Nat) : List (Nat × Nat) := (List.range nL).flatMap fun i => (List.range nR).map fun k => (i, k)
theorem mem_grid {nL nR : Nat} {x : Nat × Nat} : x ∈ grid nL nR ↔ x.1 < nL ∧ x.2 < nR := by
  obtain ⟨a, b⟩ := x
  unfold grid
  simp
theorem grid_pw (nL nR : Nat) : (grid nL nR).Pairwise pl := by
  unfold grid
  have h : (List.range nL).Pairwise (· < ·) := List.pairwise_lt_range
  generalize List.range nL = l at h
  induction l with
  | nil => exact List.Pairwise.nil
  | cons i l ih =>
    have h' := List.pairwise_cons.1 h
    rw [List.flatMap_cons, List.pairwise_append]
    refine ⟨?_, ih h'.2, ?_⟩
    · rw [List.pairwise_map]
      exact List.pairwise_lt_range.imp fun h => Or.inr ⟨rfl, h⟩
    · intro x hx y hy
      obtain ⟨k, -, rfl⟩ := List.mem_map.1 hx
      obtain ⟨j, hj, hy⟩ := List.mem_flatMap.1 hy
      obtain ⟨k', -, rfl⟩ := List.mem_map.1 hy
      exact Or.inl (h'.1 _ hj)
/-- the first of the longest -/
def bst (b : List (Nat × Nat)) (l : List (List (Nat × Nat))) : List (Nat × Nat) := l.foldl (fun b p => if b.length < p.length then p else b) b
structure Fst (v : List (Nat × Nat)) (l : List (List (Nat × Nat))) : Prop where
  mem : v ∈ l
  max : ∀ w ∈ l, w.length ≤ v.length
  fst : ∀ w ∈ l, w.length = v.length → w = v ∨ ll v w
theorem bst_snoc (b p : List (Nat × Nat)) (l : List (List (Nat × Nat))) : bst b (l ++ [p]) = if (bst b l).length < p.length then p else bst b l := by
  unfold bst; rw [List.foldl_append]; rfl
theorem bst_fst {b : List (Nat × Nat)} : ∀ {l done : List (List (Nat × Nat))}, (done ++ l).Pairwise ll → Fst b done → Fst (bst b l) (done ++ l)
  | [], done, _, h => by rw [List.append_nil]; exact h
  | p :: l, done, hp, h => by
    have e : done ++ p :: l = (done ++ [p]) ++ l := by simp
    have hd : ∀ w ∈ done, ll w p := fun w hw => (List.pairwise_append.1 hp).2.2 w hw p (by simp)
    rw [e] at hp ⊢
    show Fst (bst (if b.length < p.length then p else b) l) _
    by_cases hc : b.length < p.length
    · rw [if_pos hc]
      refine bst_fst hp ⟨by simp, fun w hw => ?_, fun w hw he => ?_⟩
      · rcases List.mem_append.1 hw with h1 | h1
        · have := h.max w h1; omega
        · rw [List.mem_singleton.1 h1]; omega
      · rcases List.mem_append.1 hw with h1 | h1
        · have := h.max w h1; omega
        · exact .inl (List.mem_singleton.1 h1)
    · rw [if_neg hc]
      refine bst_fst hp ⟨List.mem_append_left _ h.mem, fun w hw => ?_, fun w hw he => ?_⟩
      · rcases List.mem_append.1 hw with h1 | h1
        · exact h.max w h1
        · rw [List.mem_singleton.1 h1]; omega
      · rcases List.mem_append.1 hw with h1 | h1
        · exact h.fst w h1 he
        · rw [List.mem_singleton.1 h1]; exact .inr (hd b h.mem)
theorem All_pw (fit : Nat → Nat → Bool) (nL nR : Nat) (H : Int) : (All fit nL nR H).Pairwise ll := (ll_rw (lf_pw _ _)).filter _
theorem bst_all {fit : Nat → Nat → Bool} {nL nR : Nat} {H : Int} {b : List (Nat × Nat)} {l : List (List (Nat × Nat))} (h : All fit nL nR H = b :: l) : Fst (bst b (b :: l)) (All fit nL nR H) := by
  have : bst b (b :: l) = bst b l := by
    unfold bst
    rw [List.foldl_cons, if_neg (by omega)]
  rw [this, h]
  have hp := All_pw fit nL nR H
  rw [h] at hp
  exact bst_fst (done := [b]) hp ⟨by simp, fun w hw => by rw [List.mem_singleton.1 hw]; omega, fun w hw _ => .inl (List.mem_singleton.1 hw)⟩
theorem mem_All {fit : Nat → Nat → Bool} {nL nR : Nat} {H : Int} {p : List (Nat × Nat)} : p ∈ All fit nL nR H ↔ p ∈ rw fit nR (lf 0 nL) 0 ∧ (nL : Int) + nR - 2 * p.length ≤ H := by
  unfold All few
  rw [List.mem_filter, decide_eq_true_eq]
/-- with less that can be hidden than the first longest one hides there is no way -/
theorem none_less {fit : Nat → Nat → Bool} {nL nR : Nat} {H h : Int} {v : List (Nat × Nat)} (hv : Fst v (All fit nL nR H)) (hh : h < (nL : Int) + nR - 2 * v.length) : All fit nL nR h = [] := by
  rw [List.eq_nil_iff_forall_not_mem]
  intro p hp
  have h1 := mem_All.1 hp
  have h2 := mem_All.1 hv.mem
  have := hv.max p (mem_All.2 ⟨h1.1, by omega⟩)
  omega
/-- with as much there is one -/
theorem some_as {fit : Nat → Nat → Bool} {nL nR : Nat} {H : Int} {v : List (Nat × Nat)} (hv : Fst v (All fit nL nR H)) : v ∈ All fit nL nR ((nL : Int) + nR - 2 * v.length) :=
  mem_All.2 ⟨(mem_All.1 hv.mem).1, Int.le_refl _⟩
/-- how much is hidden at least is no less than nothing -/
theorem hid_nonneg {fit : Nat → Nat → Bool} {nL nR : Nat} {p : List (Nat × Nat)} (h : p ∈ rw fit nR (lf 0 nL) 0) : 0 ≤ (nL : Int) + nR - 2 * p.length := by
  have := len_ne (Nat.zero_le _) h
  rw [lf_len] at this
  omega
theorem pw_pl {p : List (Nat × Nat)} (h : p.Pairwise fun x y => x.1 < y.1 ∧ x.2 < y.2) : p.Pairwise pl := h.imp fun h => Or.inl h.1
/-- the search in order finds the first longest one -/
theorem first_is {fit : Nat → Nat → Bool} {nL nR : Nat} {H : Int} {v : List (Nat × Nat)} (hv : Fst v (All fit nL nR H)) :
    greedy v.length (fun ps => decide (0 < (All fit nL nR ((nL : Int) + nR - 2 * v.length)).countP fun p => decide (∀ x ∈ ps, x ∈ p))) (grid nL nR) [] = v := by
  have hin : ∀ w ∈ All fit nL nR ((nL : Int) + nR - 2 * v.length), w ∈ All fit nL nR H ∧ w.length = v.length := by
    intro w hw
    have h1 := mem_All.1 hw
    have h2 := mem_All.1 hv.mem
    have h3 : w ∈ All fit nL nR H := mem_All.2 ⟨h1.1, by omega⟩
    have := hv.max w h3
    exact ⟨h3, by omega⟩
  refine greedy_eq (W := All fit nL nR ((nL : Int) + nR - 2 * v.length)) (t := v) (fun ps => ?_) (some_as hv) (fun w hw => (hin w hw).2) (fun w hw => pw_pl (pw_rw (lf_pw _ _) (mem_All.1 hw).1)) (fun w hw => hv.fst w (hin w hw).1 (hin w hw).2) rfl (grid_pw _ _) (fun z hz => ?_) (fun z hz => by simp at hz)
  · rw [decide_eq_true_eq, List.countP_pos_iff]
    simp
  · have := mem_rw (mem_All.1 hv.mem).1 z hz
    rw [mem_grid]
    have h1 := mem_lf.1 this.1
    exact ⟨h1.2, this.2.2.1⟩
theorem range_from {r n : Nat} (f : Nat → Bool) : ((List.range n).filter fun k => decide (r ≤ k) && f k) = (lf r n).filter f := by
  by_cases h : r ≤ n
  · have e : List.range n = List.range r ++ lf r n := by
      unfold lf
      rw [List.range_eq_range', List.range_eq_range']
      have := List.range'_append_1 (s := 0) (m := r) (n := n - r)
      rw [Nat.zero_add, show r + (n - r) = n by omega] at this
      exact this.symm
    rw [e, List.filter_append]
    have h1 : ((List.range r).filter fun k => decide (r ≤ k) && f k) = [] := by
      rw [List.filter_eq_nil_iff]
      intro k hk
      have := List.mem_range.1 hk
      simp
      omega
    rw [h1, List.nil_append]
    refine List.filter_congr fun k hk => ?_
    have := mem_lf.1 hk
    simp [this.1]
  · rw [lf_nil (by omega)]
    rw [List.filter_nil, List.filter_eq_nil_iff]
    intro k hk
    have := List.mem_range.1 hk
    simp
    omega
/-- what the specification's search gives that goes on from some pairs -/
def wl (fit : Nat → Nat → Bool) (nL nR : Nat) (H : Int) (b : List (Nat × Nat)) (a r : Nat) : List (List (Nat × Nat)) :=
  ((rw fit nR (lf a nL) r).map (b ++ ·)).filter (few nL nR H)
/-- its inner loop, up to a right mark -/
def inn (fit : Nat → Nat → Bool) (nL nR : Nat) (H : Int) (b : List (Nat × Nat)) (i r k : Nat) : List (List (Nat × Nat)) :=
  ((lf r k).filter fun k => fit i k).flatMap fun k => wl fit nL nR H (b ++ [(i, k)]) (i + 1) (k + 1)
/-- its outer loop, up to a left mark -/
def out (fit : Nat → Nat → Bool) (nL nR : Nat) (H : Int) (b : List (Nat × Nat)) (a r i : Nat) : List (List (Nat × Nat)) :=
  (if few nL nR H b then [b] else []) ++ (lf a i).flatMap fun j => inn fit nL nR H b j r nR
theorem lf_snoc {a n : Nat} (h : a ≤ n) : lf a (n + 1) = lf a n ++ [n] := by
  unfold lf
  rw [show n + 1 - a = (n - a) + 1 by omega, List.range'_concat]
  congr 2
  omega
theorem inn_succ {fit : Nat → Nat → Bool} {nL nR : Nat} {H : Int} {b : List (Nat × Nat)} {i r k : Nat} (h : r ≤ k) :
    inn fit nL nR H b i r (k + 1) = inn fit nL nR H b i r k ++ if fit i k then wl fit nL nR H (b ++ [(i, k)]) (i + 1) (k + 1) else [] := by
  unfold inn
  rw [lf_snoc h, List.filter_append, List.flatMap_append]
  congr 1
  cases hf : fit i k <;> simp [hf]
theorem inn_start {fit : Nat → Nat → Bool} {nL nR : Nat} {H : Int} {b : List (Nat × Nat)} {i r : Nat} : inn fit nL nR H b i r r = [] := by
  unfold inn
  rw [lf_nil (Nat.le_refl _)]
  rfl
theorem out_succ {fit : Nat → Nat → Bool} {nL nR : Nat} {H : Int} {b : List (Nat × Nat)} {a r i : Nat} (h : a ≤ i) :
    out fit nL nR H b a r (i + 1) = out fit nL nR H b a r i ++ inn fit nL nR H b i r nR := by
  unfold out
  rw [lf_snoc h, List.flatMap_append, List.append_assoc]
  simp
theorem out_start {fit : Nat → Nat → Bool} {nL nR : Nat} {H : Int} {b : List (Nat × Nat)} {a r : Nat} : out fit nL nR H b a r a = if few nL nR H b then [b] else [] := by
  unfold out
  rw [lf_nil (Nat.le_refl _)]
  simp
theorem wl_eq {fit : Nat → Nat → Bool} {nL nR : Nat} {H : Int} {b : List (Nat × Nat)} {a r : Nat} : wl fit nL nR H b a r = out fit nL nR H b a r nL := by
  unfold wl out
  have : rw fit nR (lf a nL) r = [] :: ne fit nR (lf a nL) r := rfl
  rw [this, List.map_cons, List.append_nil, List.filter_cons, ne_flat fit nL nR r _ a rfl, List.map_flatMap, List.filter_flatMap]
  have e : (fun j => ((step fit nR j r fun k => rw fit nR (lf (j + 1) nL) (k + 1)).map (b ++ ·)).filter (few nL nR H)) = fun j => inn fit nL nR H b j r nR := by
    funext j
    unfold step inn wl
    rw [range_from, List.map_flatMap, List.filter_flatMap]
    congr 1
    funext k
    rw [List.map_map]
    congr 2
    funext p
    simp
  rw [e]
  split <;> rfl
theorem All_wl {fit : Nat → Nat → Bool} {nL nR : Nat} {H : Int} : All fit nL nR H = wl fit nL nR H [] 0 0 := by
  unfold All wl
  simp
/-- with which right mark a left one is a pair; -1: with none -/
def par (p : List (Nat × Nat)) (i : Nat) : Int := match p.find? fun x => x.1 == i with
  | some x => x.2
  | none => -1
theorem par_none {p : List (Nat × Nat)} {i : Nat} : par p i = -1 ↔ ∀ x ∈ p, x.1 ≠ i := by
  unfold par
  cases h : p.find? fun x => x.1 == i with
  | none =>
    rw [List.find?_eq_none] at h
    simp only [true_iff]
    intro x hx
    simpa using h x hx
  | some x =>
    have h1 := List.find?_some h
    have h2 := List.mem_of_find?_eq_some h
    simp only
    constructor
    · intro e; omega
    · intro e; exact absurd (by simpa using h1) (e x h2)
theorem par_some {p : List (Nat × Nat)} {i c : Nat} (hp : p.Pairwise fun x y => x.1 < y.1 ∧ x.2 < y.2) : par p i = c ↔ (i, c) ∈ p := by
  unfold par
  cases h : p.find? fun x => x.1 == i with
  | none =>
    rw [List.find?_eq_none] at h
    simp only
    constructor
    · intro e; omega
    · intro e; exact absurd (h _ e) (by simp)
  | some x =>
    have h1 : x.1 = i := by simpa using List.find?_some h
    have h2 := List.mem_of_find?_eq_some h
    have h3 : (i, x.2) ∈ p := by rw [← h1]; exact h2
    simp only
    constructor
    · intro e
      have : x.2 = c := by omega
      rw [← this]; exact h3
    · intro e
      rw [one_rw hp h3 e]
theorem All_one {fit : Nat → Nat → Bool} {nL nR : Nat} {H : Int} {p : List (Nat × Nat)} (hp : p ∈ All fit nL nR H) : p.Pairwise fun x y => x.1 < y.1 ∧ x.2 < y.2 := pw_rw (lf_pw _ _) (mem_All.1 hp).1
theorem All_fit {fit : Nat → Nat → Bool} {nL nR : Nat} {H : Int} {p : List (Nat × Nat)} (hp : p ∈ All fit nL nR H) {x : Nat × Nat} (hx : x ∈ p) : x.1 < nL ∧ x.2 < nR ∧ fit x.1 x.2 = true := by
  have := mem_rw (mem_All.1 hp).1 x hx
  exact ⟨(mem_lf.1 this.1).2, this.2.2⟩
/-- how many ways are left if the partner of a left mark is known -/
def lef (l : List (List (Nat × Nat))) (i : Nat) (c : Int) : Nat := l.countP fun p => decide (par p i = c)
/-- the program's numbers: by the option; 10: hidden -/
def spl (fit : Nat → Nat → Bool) (nL nR : Nat) (H : Int) (i c : Nat) : Nat := if full fit i c && (decide (c < nR) || c == 10) then cw (onl (full fit) i c) nR (lf 0 nL) 0 H else 0
theorem spl_right {fit : Nat → Nat → Bool} {nL nR : Nat} {H : Int} {i c : Nat} (hR : nR ≤ 10) (hi : i < nL) (hc : c < nR) : spl fit nL nR H i c = lef (All fit nL nR H) i c := by
  have e : lef (All fit nL nR H) i c = (All fit nL nR H).countP fun p => decide ((i, c) ∈ p) := by
    unfold lef
    exact List.countP_congr fun p hp => by simp only [decide_eq_true_eq]; exact par_some (All_one hp)
  rw [e]
  unfold spl
  by_cases hf : full fit i c = true
  · rw [hf]
    simp only [hc, decide_true, Bool.true_or, Bool.and_self, if_true]
    exact count_only hR hi hc
  · have : fit i c = false := by
      unfold full at hf
      simp at hf
      exact hf.2
    simp only [hf, Bool.false_and, Bool.false_eq_true, if_false]
    symm
    rw [List.countP_eq_zero]
    intro p hp hm
    have := (All_fit hp (of_decide_eq_true hm)).2.2
    simp_all
theorem spl_hid {fit : Nat → Nat → Bool} {nL nR : Nat} {H : Int} {i : Nat} (hR : nR ≤ 10) : spl fit nL nR H i 10 = lef (All fit nL nR H) i (-1) := by
  unfold spl lef
  have : full fit i 10 = true := by unfold full; simp
  rw [this]
  simp only [beq_self_eq_true, Bool.or_true, Bool.and_self, if_true]
  rw [count_hid hR]
  exact List.countP_congr fun p _ => by simp only [decide_eq_true_eq]; exact par_none.symm
theorem lef_le (l : List (List (Nat × Nat))) (i : Nat) (c : Int) : lef l i c ≤ l.length := List.countP_le_length
theorem lef_pos {l : List (List (Nat × Nat))} {i : Nat} {c : Int} : 0 < lef l i c ↔ ∃ p ∈ l, par p i = c := by
  unfold lef
  rw [List.countP_pos_iff]
  simp
theorem lef_all {l : List (List (Nat × Nat))} {i : Nat} {c : Int} : lef l i c = l.length ↔ ∀ p ∈ l, par p i = c := by
  unfold lef
  rw [List.countP_eq_length]
  simp
/-- sure: as the specification says it, of ways of which there is one -/
def sur (l : List (List (Nat × Nat))) (b : List (Nat × Nat)) (i : Nat) : Int := if l.all fun p => par p i == par b i then par b i else -1
/-- as the program finds it -/
theorem sur_is {fit : Nat → Nat → Bool} {nL nR : Nat} {H : Int} {i : Nat} {b : List (Nat × Nat)} {l : List (List (Nat × Nat))} (hl : All fit nL nR H = b :: l) :
    (match (List.range nR).find? fun c : Nat => lef (All fit nL nR H) i c == (All fit nL nR H).length with | some c => (c : Int) | none => -1) = sur (b :: l) b i := by
  have hb : b ∈ All fit nL nR H := by rw [hl]; simp
  cases h : (List.range nR).find? fun c : Nat => lef (All fit nL nR H) i c == (All fit nL nR H).length with
  | some c =>
    have h1 := List.find?_some h
    rw [beq_iff_eq, lef_all] at h1
    have : (b :: l).all (fun p => par p i == par b i) = true := by
      rw [List.all_eq_true]
      intro p hp
      rw [← hl] at hp
      rw [h1 p hp, h1 b hb]
      simp
    unfold sur
    rw [if_pos this, h1 b hb]
  | none =>
    rw [List.find?_eq_none] at h
    unfold sur
    simp only
    split
    · next hs =>
      rw [List.all_eq_true] at hs
      rw [← hl] at hs
      by_cases hn : par b i = -1
      · exact hn.symm
      · exfalso
        have : ∃ c : Nat, par b i = c := by
          unfold par at hn ⊢
          cases hf : b.find? fun x => x.1 == i with
          | none => rw [hf] at hn; exact absurd rfl hn
          | some x => exact ⟨x.2, rfl⟩
        obtain ⟨c, hc⟩ := this
        have hcR := (All_fit hb ((par_some (All_one hb)).1 hc)).2.1
        refine h c (List.mem_range.2 hcR) ?_
        rw [beq_iff_eq, lef_all]
        intro p hp
        have := hs p hp
        rw [beq_iff_eq] at this
        rw [this, hc]
    · rfl
/-! Sets by bits. -/
/-- the set of the numbers below n that f wants -/
def gat (f : Nat → Bool) : Nat → Nat
  | 0 => 0
  | n + 1 => if f n then gat f n ||| 2 ^ n else gat f n
theorem gat_bit (f : Nat → Bool) (k : Nat) : ∀ n, (gat f n).testBit k = (decide (k < n) && f k)
  | 0 => by simp [gat]
  | n + 1 => by
    unfold gat
    by_cases h : k = n
    · subst h
      cases hf : f k <;> simp [hf, gat_bit f k k]
    · have e : decide (k < n + 1) = decide (k < n) := by rw [decide_eq_decide]; omega
      split
      · rw [Nat.testBit_or, gat_bit f k n, Nat.testBit_two_pow, e]
        have : decide (n = k) = false := by simp; omega
        rw [this, Bool.or_false]
      · rw [gat_bit f k n, e]
theorem gat_lt (f : Nat → Bool) (n : Nat) : gat f n < 2 ^ n := by
  apply Nat.lt_pow_two_of_testBit
  intro i hi
  rw [gat_bit]
  have : decide (i < n) = false := by simp; omega
  rw [this, Bool.false_and]
theorem gat_eq {f : Nat → Bool} {n x : Nat} (h : ∀ k, x.testBit k = (decide (k < n) && f k)) : x = gat f n :=
  Nat.eq_of_testBit_eq fun k => by rw [h, gat_bit]
theorem gat_congr {f g : Nat → Bool} : ∀ {n : Nat}, (∀ k, k < n → f k = g k) → gat f n = gat g n := fun {n} h =>
  gat_eq fun k => by
    rw [gat_bit]
    by_cases hk : k < n
    · rw [h k hk]
    · simp [hk]
/-- the specification's 'with' -/
def wi (s n : Nat) : Nat := if s / 2 ^ n % 2 = 1 then s else s + 2 ^ n
theorem wi_or (s n : Nat) : wi s n = s ||| 2 ^ n := by
  unfold wi
  have hb : s.testBit n = decide (s / 2 ^ n % 2 = 1) := Nat.testBit_eq_decide_div_mod_eq
  split
  · next h =>
    rw [decide_eq_true h] at hb
    apply Nat.eq_of_testBit_eq
    intro k
    rw [Nat.testBit_or, Nat.testBit_two_pow]
    by_cases hk : n = k
    · subst hk; simp [hb]
    · simp [hk]
  · next h =>
    have h0 : s.testBit n = false := by rw [hb]; simpa using h
    have hd : s &&& 2 ^ n = 0 := by
      apply Nat.eq_of_testBit_eq
      intro k
      rw [Nat.testBit_and, Nat.testBit_two_pow, Nat.zero_testBit]
      by_cases hk : n = k
      · subst hk; simp [h0]
      · simp [hk]
    have h1 : s < 2 ^ (s + n) := Nat.lt_of_lt_of_le Nat.lt_two_pow_self (Nat.pow_le_pow_right (by omega) (by omega))
    have h2 : 2 ^ n ≤ 2 ^ (s + n) := Nat.pow_le_pow_right (by omega) (by omega)
    have h3 : 2 ^ (s + n + 1) = 2 ^ (s + n) * 2 := Nat.pow_succ 2 (s + n)
    have hz : BitVec.ofNat (s + n + 1) s &&& BitVec.ofNat (s + n + 1) (2 ^ n) = 0#(s + n + 1) := by
      apply BitVec.eq_of_toNat_eq
      rw [BitVec.toNat_and, BitVec.toNat_ofNat, BitVec.toNat_ofNat, Nat.mod_eq_of_lt (by omega), Nat.mod_eq_of_lt (by omega), hd]
      simp
    have := congrArg BitVec.toNat (BitVec.add_eq_or_of_and_eq_zero _ _ hz)
    rw [BitVec.toNat_add, BitVec.toNat_or, BitVec.toNat_ofNat, BitVec.toNat_ofNat, Nat.mod_eq_of_lt (a := s) (by omega), Nat.mod_eq_of_lt (a := 2 ^ n) (by omega), Nat.mod_eq_of_lt (by omega)] at this
    exact this
theorem wi_bit (s n k : Nat) : (wi s n).testBit k = (s.testBit k || decide (n = k)) := by
  rw [wi_or, Nat.testBit_or, Nat.testBit_two_pow]
/-- what the specification gathers for a left mark: over a way, and over ways -/
def canW (i : Nat) (p : List (Nat × Nat)) (s : Nat) : Nat := p.foldl (fun s x => if x.1 = i then wi s x.2 else s) s
def canS (i : Nat) (l : List (List (Nat × Nat))) (s : Nat) : Nat := l.foldl (fun s p => canW i p s) s
theorem canW_bit (i k : Nat) : ∀ (p : List (Nat × Nat)) (s : Nat), (canW i p s).testBit k = (s.testBit k || decide ((i, k) ∈ p))
  | [], s => by simp [canW]
  | x :: p, s => by
    obtain ⟨a, b⟩ := x
    show (canW i p (if a = i then wi s b else s)).testBit k = _
    rw [canW_bit i k p]
    by_cases ha : a = i
    · subst ha
      rw [if_pos rfl, wi_bit, Bool.or_assoc]
      congr 1
      rw [Bool.eq_iff_iff]
      simp
      constructor
      · rintro (h | h)
        · exact .inl h.symm
        · exact .inr h
      · rintro (h | h)
        · exact .inl h.symm
        · exact .inr h
    · rw [if_neg ha]
      congr 1
      rw [decide_eq_decide, List.mem_cons]
      simp [Ne.symm ha]
theorem canS_bit (i k : Nat) : ∀ (l : List (List (Nat × Nat))) (s : Nat), (canS i l s).testBit k = (s.testBit k || l.any fun p => decide ((i, k) ∈ p))
  | [], s => by simp [canS]
  | p :: l, s => by
    show (canS i l (canW i p s)).testBit k = _
    rw [canS_bit i k l, canW_bit, List.any_cons, Bool.or_assoc]
/-- so it is what the program gathers -/
theorem can_is {fit : Nat → Nat → Bool} {nL nR : Nat} {H : Int} {i : Nat} (hR : nR ≤ 10) (hi : i < nL) :
    gat (fun c => decide (0 < spl fit nL nR H i c)) nR = canS i (All fit nL nR H) 0 := by
  symm
  refine gat_eq fun k => ?_
  rw [canS_bit, Nat.zero_testBit, Bool.false_or, Bool.eq_iff_iff, List.any_eq_true]
  simp only [decide_eq_true_eq, Bool.and_eq_true]
  constructor
  · rintro ⟨p, hp, hm⟩
    have := All_fit hp hm
    refine ⟨this.2.1, ?_⟩
    rw [spl_right hR hi this.2.1, lef_pos]
    exact ⟨p, hp, (par_some (All_one hp)).2 hm⟩
  · rintro ⟨hk, hs⟩
    rw [spl_right hR hi hk, lef_pos] at hs
    obtain ⟨p, hp, hm⟩ := hs
    exact ⟨p, hp, (par_some (All_one hp)).1 hm⟩
/-- Hides: left marks -/
theorem hidl_is {fit : Nat → Nat → Bool} {nL nR : Nat} {H : Int} (hR : nR ≤ 10) {x : Nat} (h : ∀ k, x.testBit k = (decide (k < nL) && (All fit nL nR H).any fun p => decide (par p k = -1))) :
    gat (fun i => decide (0 < spl fit nL nR H i 10)) nL = x := by
  symm
  refine gat_eq fun k => ?_
  rw [h]
  congr 1
  rw [spl_hid hR, Bool.eq_iff_iff, List.any_eq_true, decide_eq_true_eq, lef_pos]
  simp
/-- Hides: right marks -/
theorem hidr_is {fit : Nat → Nat → Bool} {nL nR : Nat} {H : Int} (hR : nR ≤ 10) {x : Nat} (h : ∀ k, x.testBit k = (decide (k < nR) && (All fit nL nR H).any fun p => decide (∀ y ∈ p, y.2 ≠ k))) :
    gat (fun c => decide (0 < cw (wo (full fit) c) nR (lf 0 nL) 0 H)) nR = x := by
  symm
  refine gat_eq fun k => ?_
  rw [h]
  by_cases hk : k < nR
  · congr 1
    rw [count_wo hR (by omega), Bool.eq_iff_iff, List.any_eq_true, decide_eq_true_eq, List.countP_pos_iff]
  · simp [hk]
/-- a bound on what is counted: no machine's number is too small for it -/
theorem cw_le (o : Nat → Nat → Bool) (nR : Nat) : ∀ (is : List Nat) (r : Nat) (h : Int), cw o nR is r h ≤ (nR + 1) ^ is.length
  | [], r, h => by unfold cw; split <;> simp
  | i :: is, r, h => by
    unfold cw
    split
    · exact Nat.zero_le _
    · have h1 : ∀ l : List Nat, (l.map fun k => cw o nR is (k + 1) (h - (k - r))).sum ≤ l.length * (nR + 1) ^ is.length := by
        intro l
        induction l with
        | nil => simp
        | cons k l ih =>
          rw [List.map_cons, List.sum_cons, List.length_cons, Nat.succ_mul]
          have := cw_le o nR is (k + 1) (h - (k - r))
          omega
      have h2 := h1 ((List.range nR).filter fun k => decide (r ≤ k) && o i k)
      have h3 : ((List.range nR).filter fun k => decide (r ≤ k) && o i k).length ≤ nR := by
        have := List.length_filter_le (fun k => decide (r ≤ k) && o i k) (List.range nR)
        rwa [List.length_range] at this
      have h4 := Nat.mul_le_mul_right ((nR + 1) ^ is.length) h3
      have h5 : (if o i 10 then cw o nR is r (h - 1) else 0) ≤ (nR + 1) ^ is.length := by
        split
        · exact cw_le o nR is r (h - 1)
        · exact Nat.zero_le _
      rw [List.length_cons, Nat.pow_succ, Nat.mul_add]
      rw [Nat.mul_comm ((nR + 1) ^ is.length) nR]
      omega
/-! Ask's greatest, Shift's ends. -/
def mxl (f : Nat → Nat) (l : List Nat) : Nat := l.foldl (fun a k => if a < f k then f k else a) 0
theorem mxl_from (f : Nat → Nat) : ∀ (l : List Nat) (b x : Nat), (l.foldl (fun a k => if a < f k then f k else a) b ≤ x ↔ b ≤ x ∧ ∀ k ∈ l, f k ≤ x)
  | [], b, x => by simp
  | k :: l, b, x => by
    rw [List.foldl_cons, mxl_from f l]
    constructor
    · rintro ⟨a, c⟩
      refine ⟨?_, fun j hj => ?_⟩
      · split at a <;> omega
      · rcases List.mem_cons.1 hj with rfl | hj
        · split at a <;> omega
        · exact c j hj
    · rintro ⟨a, c⟩
      refine ⟨?_, fun j hj => c j (List.mem_cons_of_mem _ hj)⟩
      have := c k (by simp)
      split <;> omega
theorem mxl_le {f : Nat → Nat} {l : List Nat} {x : Nat} : mxl f l ≤ x ↔ ∀ k ∈ l, f k ≤ x := by
  unfold mxl
  rw [mxl_from]
  simp
theorem mxl_snoc (f : Nat → Nat) (l : List Nat) (k : Nat) : mxl f (l ++ [k]) = if mxl f l < f k then f k else mxl f l := by
  unfold mxl
  rw [List.foldl_append]
  rfl
theorem mxl_eq {f g : Nat → Nat} {l m : List Nat} (h1 : ∀ k ∈ l, ∃ j ∈ m, f k ≤ g j) (h2 : ∀ k ∈ m, ∃ j ∈ l, g k ≤ f j) : mxl f l = mxl g m := by
  apply Nat.le_antisymm
  · rw [mxl_le]
    intro k hk
    obtain ⟨j, hj, h⟩ := h1 k hk
    exact Nat.le_trans h (mxl_le.1 (Nat.le_refl _) j hj)
  · rw [mxl_le]
    intro k hk
    obtain ⟨j, hj, h⟩ := h2 k hk
    exact Nat.le_trans h (mxl_le.1 (Nat.le_refl _) j hj)
/-- what is left at most: as the program finds it, as the specification does -/
def lvs (fit : Nat → Nat → Bool) (nL nR : Nat) (H : Int) (i : Nat) : Nat := mxl (spl fit nL nR H i) (List.range 11)
theorem lvs_is {fit : Nat → Nat → Bool} {nL nR : Nat} {H : Int} {i : Nat} (hR : nR ≤ 10) (hi : i < nL) :
    lvs fit nL nR H i = mxl (fun k => lef (All fit nL nR H) i ((k : Int) - 1)) (List.range (nR + 1)) := by
  refine mxl_eq (fun k hk => ?_) (fun k hk => ?_)
  · have hk := List.mem_range.1 hk
    by_cases h10 : k = 10
    · subst h10
      refine ⟨0, by simp, ?_⟩
      rw [spl_hid hR]
      simp
    · by_cases hkR : k < nR
      · refine ⟨k + 1, by rw [List.mem_range]; omega, ?_⟩
        rw [spl_right hR hi hkR]
        have : ((k + 1 : Nat) : Int) - 1 = (k : Int) := by omega
        rw [this]
        exact Nat.le_refl _
      · refine ⟨0, by simp, ?_⟩
        unfold spl
        have h1 : decide (k < nR) = false := by simp; omega
        have h2 : (k == 10) = false := by simp; omega
        rw [h1, h2]
        simp
  · have hk := List.mem_range.1 hk
    by_cases h0 : k = 0
    · subst h0
      refine ⟨10, by simp, ?_⟩
      rw [spl_hid hR]
      simp
    · refine ⟨k - 1, by rw [List.mem_range]; omega, ?_⟩
      rw [spl_right hR hi (by omega)]
      have : ((k - 1 : Nat) : Int) = (k : Int) - 1 := by omega
      rw [this]
      exact Nat.le_refl _
/-- the first mark with the least number -/
def fstMin (f : Nat → Nat) (top : Nat) (n : Nat) : Nat × Nat := (List.range n).foldl (fun b i => if f i < b.2 then (i, f i) else b) (0, top)
theorem fstMin_succ (f : Nat → Nat) (top n : Nat) : fstMin f top (n + 1) = if f n < (fstMin f top n).2 then (n, f n) else fstMin f top n := by
  unfold fstMin
  rw [List.range_succ, List.foldl_append]
  rfl
theorem fstMin_congr {f g : Nat → Nat} {top : Nat} : ∀ {n : Nat}, (∀ i, i < n → f i = g i) → fstMin f top n = fstMin g top n
  | 0, _ => rfl
  | n + 1, h => by
    rw [fstMin_succ, fstMin_succ, fstMin_congr fun i hi => h i (by omega), h n (by omega)]
/-- Shift -/
def tk (o : Option (Int × Int)) (s : Int × Int) : Option (Int × Int) := match o with
  | none => some s
  | some (a, b) => some (if s.1 < a then s.1 else a, if b < s.2 then s.2 else b)
def tks (l : List (Int × Int)) : Option (Int × Int) := l.foldl tk none
theorem tks_snoc (l : List (Int × Int)) (s : Int × Int) : tks (l ++ [s]) = tk (tks l) s := by
  unfold tks
  rw [List.foldl_append]
  rfl
structure Tks (l : List (Int × Int)) (r : Int × Int) : Prop where
  lo : ∃ s ∈ l, s.1 = r.1
  hi : ∃ s ∈ l, s.2 = r.2
  los : ∀ s ∈ l, r.1 ≤ s.1
  his : ∀ s ∈ l, s.2 ≤ r.2
theorem tks_from : ∀ (l done : List (Int × Int)) (r : Int × Int), Tks done r → ∃ q, l.foldl tk (some r) = some q ∧ Tks (done ++ l) q
  | [], done, r, h => ⟨r, rfl, by rw [List.append_nil]; exact h⟩
  | s :: l, done, r, h => by
    rw [List.foldl_cons]
    have : done ++ s :: l = (done ++ [s]) ++ l := by simp
    rw [this]
    refine tks_from l _ (if s.1 < r.1 then s.1 else r.1, if r.2 < s.2 then s.2 else r.2) ⟨?_, ?_, ?_, ?_⟩
    · simp only
      split
      · exact ⟨s, by simp, rfl⟩
      · obtain ⟨x, hx, e⟩ := h.lo; exact ⟨x, by simp [hx], e⟩
    · simp only
      split
      · exact ⟨s, by simp, rfl⟩
      · obtain ⟨x, hx, e⟩ := h.hi; exact ⟨x, by simp [hx], e⟩
    · intro x hx
      simp only
      rcases List.mem_append.1 hx with hx | hx
      · have := h.los x hx; split <;> omega
      · rw [List.mem_singleton.1 hx]; split <;> omega
    · intro x hx
      simp only
      rcases List.mem_append.1 hx with hx | hx
      · have := h.his x hx; split <;> omega
      · rw [List.mem_singleton.1 hx]; split <;> omega
theorem tks_some {l : List (Int × Int)} (h : l ≠ []) : ∃ r, tks l = some r ∧ Tks l r := by
  cases l with
  | nil => exact absurd rfl h
  | cons s l =>
    have := tks_from l [s] s ⟨⟨s, by simp, rfl⟩, ⟨s, by simp, rfl⟩, fun x hx => by rw [List.mem_singleton.1 hx]; omega, fun x hx => by rw [List.mem_singleton.1 hx]; omega⟩
    exact this
theorem tks_same {l m : List (Int × Int)} (h : ∀ s, s ∈ l ↔ s ∈ m) : tks l = tks m := by
  by_cases hl : l = []
  · subst hl
    have : m = [] := List.eq_nil_iff_forall_not_mem.2 fun s hs => by have := (h s).2 hs; simp at this
    rw [this]
  · have hm : m ≠ [] := by
      rintro rfl
      exact hl (List.eq_nil_iff_forall_not_mem.2 fun s hs => by have := (h s).1 hs; simp at this)
    obtain ⟨⟨a, b⟩, hr, tr⟩ := tks_some hl
    obtain ⟨⟨c, d⟩, hq, tq⟩ := tks_some hm
    rw [hr, hq]
    have e1 : a = c := by
      obtain ⟨x, hx, ex⟩ := tr.lo
      obtain ⟨y, hy, ey⟩ := tq.lo
      have h1 := tq.los x ((h x).1 hx)
      have h2 := tr.los y ((h y).2 hy)
      simp only at *
      omega
    have e2 : b = d := by
      obtain ⟨x, hx, ex⟩ := tr.hi
      obtain ⟨y, hy, ey⟩ := tq.hi
      have h1 := tq.his x ((h x).1 hx)
      have h2 := tr.his y ((h y).2 hy)
      simp only at *
      omega
    rw [e1, e2]
/-- the shifts that the program takes, and those that the specification does -/
def shP (fit : Nat → Nat → Bool) (nL nR : Nat) (H : Int) (i : Nat) (sh : Nat → Int × Int) : List (Int × Int) := ((List.range nR).filter fun c => decide (0 < spl fit nL nR H i c)).map sh
def shS (l : List (List (Nat × Nat))) (i : Nat) (sh : Nat → Int × Int) : List (Int × Int) := (l.filter fun p => par p i != -1).map fun p => sh (par p i).toNat
theorem par_nat {p : List (Nat × Nat)} {i : Nat} (h : par p i ≠ -1) : ∃ c : Nat, par p i = c := by
  unfold par at h ⊢
  cases hf : p.find? fun x => x.1 == i with
  | none => rw [hf] at h; exact absurd rfl h
  | some x => exact ⟨x.2, rfl⟩
theorem shift_is {fit : Nat → Nat → Bool} {nL nR : Nat} {H : Int} {i : Nat} (hR : nR ≤ 10) (hi : i < nL) (sh : Nat → Int × Int) :
    tks (shP fit nL nR H i sh) = tks (shS (All fit nL nR H) i sh) := by
  apply tks_same
  intro s
  unfold shP shS
  simp only [List.mem_map, List.mem_filter, List.mem_range, decide_eq_true_eq, bne_iff_ne]
  constructor
  · rintro ⟨c, ⟨hc, h⟩, rfl⟩
    rw [spl_right hR hi hc, lef_pos] at h
    obtain ⟨p, hp, e⟩ := h
    exact ⟨p, ⟨hp, by omega⟩, by rw [e]; rfl⟩
  · rintro ⟨p, ⟨hp, h⟩, rfl⟩
    obtain ⟨c, hc⟩ := par_nat h
    have hcR := (All_fit hp ((par_some (All_one hp)).1 hc)).2.1
    refine ⟨c, ⟨hcR, ?_⟩, by rw [hc]; rfl⟩
    rw [spl_right hR hi hcR, lef_pos]
    exact ⟨p, hp, hc⟩
end Go.Proofs.Ytjlaoiimbhlafaa.MW
