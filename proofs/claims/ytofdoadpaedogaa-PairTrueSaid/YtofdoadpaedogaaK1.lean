import Derived.Test.YtofdoadpaedogaaT33
namespace Go.Proofs.Ytofdoadpaedogaa
open Go.RowKit

/-! The fewest things that moved: what the best of the tries is. -/
theorem Sg.stands_iff (s : Sg) (x : Int) : s.why x x = 0 ↔ s.sl = false ∧ 0 ≤ s.hi ∧ s.lo ≤ 2000 ∧ s.pw.1 ≤ x ∧ x ≤ s.pw.2 := by
  constructor
  · exact Sg.why_zero
  · rintro ⟨h0, h1, h2, h3, h4⟩
    refine Sg.why5 (by simp [h0]) (by omega) ?_ (by omega)
    unfold Sg.tooNear
    simp only [Bool.or_eq_true, decide_eq_true_eq]
    omega
theorem Sg.stands_spw {s : Sg} {x : Int} (h : s.why x x = 0) : s.spw.1 ≤ x ∧ x ≤ s.spw.2 := by
  obtain ⟨h0, -, -, h3, h4⟩ := (s.stands_iff x).1 h
  unfold Sg.spw
  rw [if_neg (by simp [h0])]
  exact ⟨h3, h4⟩
theorem Sg.stands_conv {s : Sg} {x y : Int} (h : s.why x x = 0) (h1 : s.spw.1 ≤ y) (h2 : y ≤ s.spw.2) : s.why y y = 0 := by
  obtain ⟨h0, a1, a2, -, -⟩ := (s.stands_iff x).1 h
  unfold Sg.spw at h1 h2
  rw [if_neg (by simp [h0])] at h1 h2
  exact (s.stands_iff y).2 ⟨h0, a1, a2, h1, h2⟩
theorem Sg.stands_between {s : Sg} {x y z : Int} (hx : s.why x x = 0) (hz : s.why z z = 0) (h1 : x ≤ y) (h2 : y ≤ z) : s.why y y = 0 := by
  have a := Sg.stands_spw hx
  have b := Sg.stands_spw hz
  exact Sg.stands_conv hx (by omega) (by omega)
/-- The least power from which on all things stand that stand at this one. -/
theorem low_end (P x : Int) (hP : P ≤ x) : ∀ l : List Sg, ∃ y, P ≤ y ∧ y ≤ x ∧ (y = P ∨ ∃ s ∈ l, s.why x x = 0 ∧ y = s.spw.1) ∧ ∀ s ∈ l, s.why x x = 0 → s.spw.1 ≤ y
  | [] => ⟨P, Int.le_refl _, hP, .inl rfl, fun s h => by cases h⟩
  | s :: l => by
    obtain ⟨y, h1, h2, h3, h4⟩ := low_end P x hP l
    by_cases hs : s.why x x = 0 ∧ y < s.spw.1
    · have := Sg.stands_spw hs.1
      refine ⟨s.spw.1, by omega, this.1, .inr ⟨s, List.mem_cons_self, hs.1, rfl⟩, fun t ht hw => ?_⟩
      rcases List.mem_cons.1 ht with rfl | ht
      · exact Int.le_refl _
      · have := h4 t ht hw; omega
    · refine ⟨y, h1, h2, h3.imp id fun ⟨t, ht, hw⟩ => ⟨t, List.mem_cons_of_mem _ ht, hw⟩, fun t ht hw => ?_⟩
      rcases List.mem_cons.1 ht with rfl | ht
      · exact Int.not_lt.1 fun c => hs ⟨hw, c⟩
      · exact h4 t ht hw
theorem high_end (Q x : Int) (hQ : x ≤ Q) : ∀ l : List Sg, ∃ y, x ≤ y ∧ y ≤ Q ∧ (y = Q ∨ ∃ s ∈ l, s.why x x = 0 ∧ y = s.spw.2) ∧ ∀ s ∈ l, s.why x x = 0 → y ≤ s.spw.2
  | [] => ⟨Q, hQ, Int.le_refl _, .inl rfl, fun s h => by cases h⟩
  | s :: l => by
    obtain ⟨y, h1, h2, h3, h4⟩ := high_end Q x hQ l
    by_cases hs : s.why x x = 0 ∧ s.spw.2 < y
    · have := Sg.stands_spw hs.1
      refine ⟨s.spw.2, this.2, by omega, .inr ⟨s, List.mem_cons_self, hs.1, rfl⟩, fun t ht hw => ?_⟩
      rcases List.mem_cons.1 ht with rfl | ht
      · exact Int.le_refl _
      · have := h4 t ht hw; omega
    · refine ⟨y, h1, h2, h3.imp id fun ⟨t, ht, hw⟩ => ⟨t, List.mem_cons_of_mem _ ht, hw⟩, fun t ht hw => ?_⟩
      rcases List.mem_cons.1 ht with rfl | ht
      · exact Int.not_lt.1 fun c => hs ⟨hw, c⟩
      · exact h4 t ht hw
theorem tries_in {P Q : Int} (h : P ≤ Q) {l : List Sg} {y : Int} (hy : y ∈ triesList P Q l) : P ≤ y ∧ y ≤ Q := by
  unfold triesList at hy
  rcases List.mem_append.1 hy with hy | hy
  · simp at hy; omega
  · obtain ⟨s, -, hs⟩ := List.mem_flatMap.1 hy
    unfold tryOf at hs
    split at hs
    · rename_i hle
      have a : P ≤ (ovl (P, Q) s.spw).1 := by unfold ovl; simp only; split <;> omega
      have b : (ovl (P, Q) s.spw).2 ≤ Q := by unfold ovl; simp only; split <;> omega
      simp at hs
      omega
    · cases hs
theorem tries_low {P Q x : Int} (h1 : P ≤ x) (h2 : x ≤ Q) (l : List Sg) : ∃ y ∈ triesList P Q l, y ≤ x ∧ ∀ s ∈ l, s.why x x = 0 → s.why y y = 0 := by
  obtain ⟨y, a1, a2, a3, a4⟩ := low_end P x h1 l
  refine ⟨y, ?_, a2, fun s hs hw => Sg.stands_conv hw (a4 s hs hw) (by have := Sg.stands_spw hw; omega)⟩
  unfold triesList
  rcases a3 with rfl | ⟨s, hs, hw, rfl⟩
  · simp
  · refine List.mem_append.2 (.inr (List.mem_flatMap.2 ⟨s, hs, ?_⟩))
    have b := Sg.stands_spw hw
    have e : (ovl (P, Q) s.spw).1 = s.spw.1 := by unfold ovl; simp only; split <;> omega
    unfold tryOf
    rw [if_pos (by rw [e]; unfold ovl; simp only; split <;> omega), e]
    simp
theorem tries_high {P Q x : Int} (h1 : P ≤ x) (h2 : x ≤ Q) (l : List Sg) : ∃ y ∈ triesList P Q l, x ≤ y ∧ ∀ s ∈ l, s.why x x = 0 → s.why y y = 0 := by
  obtain ⟨y, a1, a2, a3, a4⟩ := high_end Q x h2 l
  refine ⟨y, ?_, a1, fun s hs hw => Sg.stands_conv hw (by have := Sg.stands_spw hw; omega) (a4 s hs hw)⟩
  unfold triesList
  rcases a3 with rfl | ⟨s, hs, hw, rfl⟩
  · simp
  · refine List.mem_append.2 (.inr (List.mem_flatMap.2 ⟨s, hs, ?_⟩))
    have b := Sg.stands_spw hw
    have e : (ovl (P, Q) s.spw).2 = s.spw.2 := by unfold ovl; simp only; split <;> omega
    unfold tryOf
    rw [if_pos (by rw [e]; unfold ovl; simp only; split <;> omega), e]
    simp
/-! Sets by bits. -/
def Sub (a b : Nat) : Prop := ∀ j, a.testBit j = true → b.testBit j = true
theorem Sub.le {a b : Nat} (h : Sub a b) : a ≤ b := by
  have e : a &&& b = a := Nat.eq_of_testBit_eq fun j => by
    rw [Nat.testBit_and]
    cases ha : a.testBit j with
    | false => rfl
    | true => rw [h j ha]; rfl
  rw [← e]; exact Nat.and_le_right
theorem Sub.cnt {a b : Nat} (h : Sub a b) : cnt a ≤ Go.Proofs.Ytofdoadpaedogaa.cnt b := by
  unfold Go.Proofs.Ytofdoadpaedogaa.cnt
  rw [← List.countP_eq_length_filter, ← List.countP_eq_length_filter]
  exact List.countP_mono_left fun j _ hj => h j hj
/-- A set is no worse than another one: fewer things, or as many and no greater number. -/
def Nle (a b : Nat) : Prop := cnt a < cnt b ∨ cnt a = cnt b ∧ a ≤ b
theorem Nle.refl (a : Nat) : Nle a a := .inr ⟨rfl, Nat.le_refl _⟩
theorem Nle.trans {a b c : Nat} (h : Nle a b) (k : Nle b c) : Nle a c := by unfold Nle at *; omega
theorem Nle.total (a b : Nat) : Nle a b ∨ Nle b a := by unfold Nle; omega
theorem Sub.nle {a b : Nat} (h : Sub a b) : Nle a b := by
  have h1 := h.le
  have h2 := h.cnt
  unfold Nle; omega
theorem Sub.eq {a b : Nat} (h : Sub a b) (k : Nle b a) : a = b := by
  have h1 := h.le
  have h2 := h.cnt
  unfold Nle at k; omega
theorem movedTo_bit (l : List Sg) (p : Int) : ∀ k j, (movedTo l p k).testBit j = (decide (j < k) && !decide (((l[j]?).map fun s => s.why p p).getD 0 = 0))
  | 0, j => by simp [movedTo]
  | k + 1, j => by
    unfold movedTo
    by_cases hz : ((l[k]?).map fun s => s.why p p).getD 0 = 0
    · rw [if_pos hz, movedTo_bit l p k j]
      by_cases hj : j = k
      · subst hj; rw [decide_eq_true hz]; simp
      · have : decide (j < k + 1) = decide (j < k) := by simp only [decide_eq_decide]; omega
        rw [this]
    · rw [if_neg hz, Nat.testBit_or, movedTo_bit l p k j, Nat.testBit_two_pow]
      by_cases hj : j = k
      · subst hj; rw [decide_eq_false hz]; simp
      · have : decide (j < k + 1) = decide (j < k) := by simp only [decide_eq_decide]; omega
        rw [this]
        have : decide (k = j) = false := by simp; omega
        rw [this, Bool.or_false]
/-- The set of the things that can't stand still with a power. -/
def mv (l : List Sg) (x : Int) : Nat := movedTo l x l.length
theorem mv_bit (l : List Sg) (x : Int) (j : Nat) : (mv l x).testBit j = true ↔ ∃ s, l[j]? = some s ∧ s.why x x ≠ 0 := by
  unfold mv
  rw [movedTo_bit]
  constructor
  · intro h
    simp only [Bool.and_eq_true, decide_eq_true_eq, Bool.not_eq_true', decide_eq_false_iff_not] at h
    have hl : l[j]? = some l[j] := List.getElem?_eq_getElem h.1
    rw [hl] at h
    exact ⟨_, hl, h.2⟩
  · rintro ⟨s, hs, hw⟩
    have hj := (List.getElem?_eq_some_iff.1 hs).1
    simp [hj]
    have : l[j] = s := by rw [List.getElem?_eq_getElem hj] at hs; exact Option.some.inj hs
    rw [this]; exact hw
theorem mv_sub {l : List Sg} {x y : Int} (h : ∀ s ∈ l, s.why x x = 0 → s.why y y = 0) : Sub (mv l y) (mv l x) := fun j hj => by
  obtain ⟨s, hs, hw⟩ := (mv_bit l y j).1 hj
  exact (mv_bit l x j).2 ⟨s, hs, fun c => hw (h s (List.mem_of_getElem? hs) c)⟩
theorem cnt_le {a n : Nat} (h : a < 2 ^ n) : cnt a ≤ n := by
  unfold cnt
  have h1 : ((List.range 12).filter fun i => a.testBit i).length ≤ ((List.range 12).filter fun i => decide (i < n)).length := by
    rw [← List.countP_eq_length_filter, ← List.countP_eq_length_filter]
    refine List.countP_mono_left fun j _ hj => ?_
    simp only [decide_eq_true_eq]
    apply Nat.lt_of_not_le; intro hc
    have : a < 2 ^ j := Nat.lt_of_lt_of_le h (Nat.pow_le_pow_right (by omega) hc)
    rw [Nat.testBit_lt_two_pow this] at hj
    cases hj
  have h2 : ((List.range 12).filter fun i => decide (i < n)).length ≤ n := by
    have : ∀ m, ((List.range m).filter fun i => decide (i < n)).length ≤ n := fun m => by
      induction m with
      | zero => simp
      | succ m ih =>
        rw [List.range_succ, List.filter_append, List.length_append]
        by_cases hm : m < n
        · have : ((List.range m).filter fun i => decide (i < n)).length ≤ m := by have := List.length_filter_le (fun i => decide (i < n)) (List.range m); simpa using this
          simp [List.filter, hm]; omega
        · simp [List.filter, hm]; exact ih
    exact this 12
  omega
/-- What the best of some tries is. -/
structure BestIs (l : List Sg) (xs : List Int) (b : Best) (x0 : Int) : Prop where
  mem : x0 ∈ xs
  many : b.many = (cnt (mv l x0) : Nat)
  moved : b.moved = (mv l x0 : Nat)
  least : ∀ x ∈ xs, Nle (mv l x0) (mv l x)
  lo : b.lo ∈ xs ∧ mv l b.lo = mv l x0
  hi : b.hi ∈ xs ∧ mv l b.hi = mv l x0
  all : ∀ x ∈ xs, mv l x = mv l x0 → b.lo ≤ x ∧ x ≤ b.hi
theorem best_snoc {l : List Sg} {xs : List Int} {b : Best} {x0 x : Int} (h : BestIs l xs b x0) : ∃ x1, BestIs l (xs ++ [x]) (b.take l x) x1 := by
  have hl := h.lo
  have hh := h.hi
  have hlh := h.all x0 h.mem rfl
  by_cases he : mv l x = mv l x0
  · refine ⟨x0, ?_⟩
    have e : b.take l x = { b with lo := imin b.lo x, hi := imax b.hi x } := by
      unfold Best.take
      rw [if_pos]
      rw [h.many, h.moved]
      show ((cnt (mv l x) : Nat) : Int) = _ ∧ ((mv l x : Nat) : Int) = _
      rw [he]; exact ⟨rfl, rfl⟩
    rw [e]
    refine ⟨List.mem_append.2 (.inl h.mem), h.many, h.moved, fun y hy => ?_, ?_, ?_, fun y hy hm => ?_⟩
    · rcases List.mem_append.1 hy with hy | hy
      · exact h.least y hy
      · simp at hy; subst hy; rw [he]; exact Nle.refl _
    · show imin b.lo x ∈ _ ∧ mv l (imin b.lo x) = _
      unfold imin
      split
      · exact ⟨by simp, he⟩
      · exact ⟨List.mem_append.2 (.inl hl.1), hl.2⟩
    · show imax b.hi x ∈ _ ∧ mv l (imax b.hi x) = _
      unfold imax
      split
      · exact ⟨by simp, he⟩
      · exact ⟨List.mem_append.2 (.inl hh.1), hh.2⟩
    · show imin b.lo x ≤ y ∧ y ≤ imax b.hi x
      rcases List.mem_append.1 hy with hy | hy
      · have := h.all y hy hm
        unfold imin imax
        constructor <;> split <;> omega
      · simp at hy; subst hy
        unfold imin imax
        constructor <;> split <;> omega
  · have n1 : ¬ (((cnt (movedTo l x l.length) : Nat) : Int) = b.many ∧ ((movedTo l x l.length : Nat) : Int) = b.moved) := fun c => he (by
      have := c.2
      rw [h.moved] at this
      exact Int.ofNat.inj this)
    have hbef : befB (cnt (movedTo l x l.length) : Nat) (movedTo l x l.length : Nat) b.many b.moved = true ↔ (cnt (mv l x) < cnt (mv l x0) ∨ cnt (mv l x) = cnt (mv l x0) ∧ mv l x < mv l x0) := by
      rw [h.many, h.moved]
      show befB ((cnt (mv l x) : Nat) : Int) ((mv l x : Nat) : Int) _ _ = true ↔ _
      unfold befB
      split
      · rw [decide_eq_true_eq]; omega
      · rw [decide_eq_true_eq]; omega
    by_cases hb : cnt (mv l x) < cnt (mv l x0) ∨ cnt (mv l x) = cnt (mv l x0) ∧ mv l x < mv l x0
    · refine ⟨x, ?_⟩
      have e : b.take l x = ⟨(cnt (mv l x) : Nat), (mv l x : Nat), x, x⟩ := by
        unfold Best.take
        rw [if_neg n1, if_pos (hbef.2 hb)]; rfl
      rw [e]
      have hlt : ∀ y ∈ xs, Nle (mv l x) (mv l y) ∧ mv l y ≠ mv l x := fun y hy => by
        have := h.least y hy
        unfold Nle at this ⊢
        constructor
        · omega
        · intro c; rw [c] at this; omega
      refine ⟨by simp, rfl, rfl, fun y hy => ?_, ⟨by simp, rfl⟩, ⟨by simp, rfl⟩, fun y hy hm => ?_⟩
      · rcases List.mem_append.1 hy with hy | hy
        · exact (hlt y hy).1
        · simp at hy; subst hy; exact Nle.refl _
      · rcases List.mem_append.1 hy with hy | hy
        · exact absurd hm (hlt y hy).2
        · simp at hy; subst hy; exact ⟨Int.le_refl _, Int.le_refl _⟩
    · refine ⟨x0, ?_⟩
      have e : b.take l x = b := by
        unfold Best.take
        rw [if_neg n1, if_neg (fun c => hb (hbef.1 c))]
      rw [e]
      refine ⟨List.mem_append.2 (.inl h.mem), h.many, h.moved, fun y hy => ?_, ⟨List.mem_append.2 (.inl hl.1), hl.2⟩, ⟨List.mem_append.2 (.inl hh.1), hh.2⟩, fun y hy hm => ?_⟩
      · rcases List.mem_append.1 hy with hy | hy
        · exact h.least y hy
        · simp at hy; subst hy; unfold Nle; omega
      · rcases List.mem_append.1 hy with hy | hy
        · exact h.all y hy hm
        · simp at hy; subst hy; exact absurd hm he
theorem best_of (l : List Sg) (_hl : l.length ≤ 12) (x : Int) : ∀ xs : List Int, ∃ x0, BestIs l (x :: xs) (Best.of l (x :: xs)) x0 := by
  have key : ∀ (n : Nat) (xs : List Int), xs.length = n → ∃ x0, BestIs l (x :: xs) (Best.of l (x :: xs)) x0 := by
    intro n
    induction n with
    | zero =>
      intro xs hxs
      have : xs = [] := List.eq_nil_of_length_eq_zero hxs
      subst this
      refine ⟨x, ?_⟩
      have hc := cnt_le (movedTo_lt l x l.length)
      have e : Best.of l [x] = ⟨(cnt (mv l x) : Nat), (mv l x : Nat), x, x⟩ := by
        show Best.take l ⟨l.length + 1, 0, 0, 0⟩ x = _
        unfold Best.take
        rw [if_neg (fun c => by have := c.1; simp only at this; omega), if_pos (by unfold befB; rw [if_neg (by simp only; omega)]; simp only [decide_eq_true_eq]; omega)]
        rfl
      rw [e]
      exact ⟨by simp, rfl, rfl, fun y hy => by simp at hy; subst hy; exact Nle.refl _, ⟨by simp, rfl⟩, ⟨by simp, rfl⟩, fun y hy _ => by simp at hy; subst hy; exact ⟨Int.le_refl _, Int.le_refl _⟩⟩
    | succ n ih =>
      intro xs hxs
      have hne : xs ≠ [] := fun c => by rw [c] at hxs; cases hxs
      have e := List.dropLast_concat_getLast hne
      obtain ⟨x0, h0⟩ := ih xs.dropLast (by rw [List.length_dropLast]; omega)
      obtain ⟨x1, h1⟩ := best_snoc (x := xs.getLast hne) h0
      refine ⟨x1, ?_⟩
      have e2 : x :: xs.dropLast ++ [xs.getLast hne] = x :: xs := by rw [List.cons_append, e]
      have e3 := Best.of_snoc l (x :: xs.dropLast) (xs.getLast hne)
      rw [e2] at e3 h1
      rw [e3]; exact h1
  exact fun xs => key _ xs rfl
/-- The best of all tries of a pair that has a truth: the set of the things that can't stand still with some power of it; no power leaves fewer; and the span that is told holds all powers, and those alone, with which all other things stand still. -/
theorem best_tries {P Q : Int} (h : P ≤ Q) (l : List Sg) (hl : l.length ≤ 12) : ∃ x0, P ≤ x0 ∧ x0 ≤ Q ∧ (Best.of l (triesList P Q l)).moved = (mv l x0 : Nat) ∧ (∀ x, P ≤ x → x ≤ Q → Nle (mv l x0) (mv l x)) ∧
    (Best.of l (triesList P Q l)).lo ≤ (Best.of l (triesList P Q l)).hi ∧ ∀ x, ((Best.of l (triesList P Q l)).lo ≤ x ∧ x ≤ (Best.of l (triesList P Q l)).hi) ↔ (P ≤ x ∧ x ≤ Q ∧ Sub (mv l x) (mv l x0)) := by
  obtain ⟨x0, hb⟩ := best_of l hl P ([Q] ++ l.flatMap (tryOf P Q))
  have et : P :: ([Q] ++ l.flatMap (tryOf P Q)) = triesList P Q l := rfl
  rw [et] at hb
  have hx0 := tries_in h hb.mem
  have hmin : ∀ x, P ≤ x → x ≤ Q → Nle (mv l x0) (mv l x) := fun x h1 h2 => by
    obtain ⟨y, hy, -, hs⟩ := tries_low h1 h2 l
    exact (hb.least y hy).trans (mv_sub hs).nle
  refine ⟨x0, hx0.1, hx0.2, hb.moved, hmin, ?_, fun x => ⟨fun hx => ?_, fun hx => ?_⟩⟩
  · have := hb.all x0 hb.mem rfl; omega
  · have a1 := tries_in h hb.lo.1
    have a2 := tries_in h hb.hi.1
    refine ⟨by omega, by omega, fun j hj => ?_⟩
    obtain ⟨s, hs, hw⟩ := (mv_bit l x j).1 hj
    cases hc : (mv l x0).testBit j with
    | true => rfl
    | false =>
      exfalso
      apply hw
      have stand : ∀ y, mv l y = mv l x0 → s.why y y = 0 := fun y hy => by
        by_cases c : s.why y y = 0
        · exact c
        · have := (mv_bit l y j).2 ⟨s, hs, c⟩
          rw [hy, hc] at this; cases this
      exact Sg.stands_between (stand _ hb.lo.2) (stand _ hb.hi.2) hx.1 hx.2
  · obtain ⟨h1, h2, hs⟩ := hx
    constructor
    · obtain ⟨y, hy, hyx, hst⟩ := tries_low h1 h2 l
      have hsub : Sub (mv l y) (mv l x0) := fun j hj => hs j (mv_sub hst j hj)
      have := hb.all y hy (hsub.eq (hb.least y hy))
      omega
    · obtain ⟨y, hy, hyx, hst⟩ := tries_high h1 h2 l
      have hsub : Sub (mv l y) (mv l x0) := fun j hj => hs j (mv_sub hst j hj)
      have := hb.all y hy (hsub.eq (hb.least y hy))
      omega
end Go.Proofs.Ytofdoadpaedogaa
