/- package match: what the program tells, in the words of all ways -/
/- MatchSure: sets, sure partners, what is hidden -/
/- MatchMore: rows of which more is known -/
/- what a way is; rows turned round and mirrored -/
/- MatchFewest: the first of the ways with the most pairs -/
/- MatchAsk: ways by what is found of a mark -/
/- MatchTrue: what a true way says -/
import Derived.Test.YtjlaoiimbhlafaaPC
set_option linter.unusedVariables false
set_option linter.unusedSimpArgs false
namespace Go.Proofs.Ytjlaoiimbhlafaa
open MW
/-! What the program's numbers are in the document's words: of all ways, by what fits. -/
theorem cw_congr {o o' : Nat → Nat → Bool} {nR : Nat} : ∀ {is : List Nat} {r : Nat} {h : Int}, (∀ i ∈ is, ∀ k, k < nR ∨ k = 10 → o i k = o' i k) → cw o nR is r h = cw o' nR is r h
  | [], r, h, _ => rfl
  | i :: is, r, h, hh => by
    unfold cw
    by_cases hn : h < 0
    · rw [if_pos hn, if_pos hn]
    rw [if_neg hn, if_neg hn, hh i (by simp) 10 (.inr rfl)]
    have ih : ∀ r h, cw o nR is r h = cw o' nR is r h := fun r h => cw_congr fun j hj k hk => hh j (by simp [hj]) k hk
    have e : ((List.range nR).filter fun k => decide (r ≤ k) && o i k) = ((List.range nR).filter fun k => decide (r ≤ k) && o' i k) := by
      refine List.filter_congr fun k hk => ?_
      rw [hh i (by simp) k (.inl (List.mem_range.1 hk))]
    rw [e]
    simp only [ih]
/-- all ways of rows -/
def Rr.ways (r : Rr) : List (List (Nat × Nat)) := All r.fitm r.L.length r.R.length r.h
theorem Rr.all_bit {r : Rr} {i : Nat} (hi : i < r.L.length) (j : Nat) : (r.lkd.all i).testBit j = full r.fitm i j := by
  show (allM r.fitm r.L.length r.R.length i).testBit j = _
  rw [allM_bit r.fitm hi]
  unfold full
  cases hf : r.fitm i j with
  | false => rw [Bool.and_false, Bool.or_false, Bool.or_false, Bool.eq_iff_iff]; simp
  | true =>
    have := (Rr.fitm_lt hf).2
    rw [decide_eq_true this, Bool.and_true, Bool.or_true, Bool.or_true]
theorem Rr.cw_full {r : Rr} (h : r.ok = true) (H : Int) : cw (fun i j => (r.lkd.all i).testBit j) r.R.length (lf 0 r.L.length) 0 H = (All r.fitm r.L.length r.R.length H).length := by
  rw [← count_full (Rr.ok_parts h).2.1]
  exact cw_congr fun i hi k _ => Rr.all_bit (mem_lf.1 hi).2 k
theorem Rr.all0_is {r : Rr} (h : r.ok = true) : r.lkd.all0 = r.ways.length := Rr.cw_full h r.h
theorem onlM_bx (m : Nat → Nat) (i c j k : Nat) : (onlM m i c j).testBit k = onl (fun i j => (m i).testBit j) i c j k := by
  unfold onlM onl
  by_cases h : j = i
  · rw [if_pos h, Nat.testBit_and, Nat.testBit_two_pow]
    have : decide (c = k) = (k == c) := by rw [Bool.eq_iff_iff, decide_eq_true_eq, beq_iff_eq]; exact eq_comm
    simp [h, this]
  · rw [if_neg h]; simp [h]
theorem Rr.spl_is {r : Rr} (h : r.ok = true) {i c : Nat} (hi : i < r.L.length) (hc : c < r.R.length ∨ c = 10) : r.lkd.spl i c = MW.spl r.fitm r.L.length r.R.length r.h i c := by
  unfold Lk.spl MW.spl Lk.spv
  have e : (decide (c < r.R.length) || c == 10) = true := by rcases hc with hc | hc <;> simp [hc]
  rw [Rr.all_bit hi, e, Bool.and_true]
  congr 1
  show cw _ r.R.length (lf 0 r.L.length) 0 r.h = _
  refine cw_congr fun j hj k _ => ?_
  rw [onlM_bx]
  unfold onl
  dsimp only
  rw [Rr.all_bit (mem_lf.1 hj).2]
theorem Rr.spl_right {r : Rr} (h : r.ok = true) {i c : Nat} (hi : i < r.L.length) (hc : c < r.R.length) : r.lkd.spl i c = lef r.ways i c := by
  rw [Rr.spl_is h hi (.inl hc)]; exact MW.spl_right (Rr.ok_parts h).2.1 hi hc
theorem Rr.spl_hid {r : Rr} (h : r.ok = true) {i : Nat} (hi : i < r.L.length) : r.lkd.spl i 10 = lef r.ways i (-1) := by
  rw [Rr.spl_is h hi (.inr rfl)]; exact MW.spl_hid (Rr.ok_parts h).2.1
/-- Can -/
theorem Rr.ptn_is {r : Rr} (h : r.ok = true) {i : Nat} (hi : i < r.L.length) : r.lkd.ptn i = canS i r.ways 0 := by
  rw [show canS i r.ways 0 = canS i (All r.fitm r.L.length r.R.length r.h) 0 from rfl, ← can_is (Rr.ok_parts h).2.1 hi]
  refine gat_congr fun c hc => ?_
  rw [Rr.spl_is h hi (.inl hc)]
theorem Rr.ptn_bit {r : Rr} (h : r.ok = true) {i : Nat} (hi : i < r.L.length) (c : Nat) : (r.lkd.ptn i).testBit c = r.ways.any fun p => decide ((i, c) ∈ p) := by
  rw [Rr.ptn_is h hi, canS_bit, Nat.zero_testBit, Bool.false_or]
/-- Hides -/
theorem Rr.hdL_bit {r : Rr} (h : r.ok = true) (i : Nat) : r.hdL.testBit i = (decide (i < r.L.length) && r.ways.any fun p => decide (∀ x ∈ p, x.1 ≠ i)) := by
  unfold Rr.hdL
  rw [gat_bit]
  by_cases hi : i < r.L.length
  · congr 1
    rw [Rr.spl_hid h hi, Bool.eq_iff_iff, decide_eq_true_eq, lef_pos, List.any_eq_true]
    simp only [par_none, decide_eq_true_eq]
  · simp [hi]
theorem woM_bx (m : Nat → Nat) (hm : ∀ i, m i < 2048) (c i k : Nat) : (woM m c i).testBit k = wo (fun i j => (m i).testBit j) c i k := by
  unfold woM cl wo
  rw [gat_bit]
  by_cases hk : k < 11
  · simp [hk]
  · have : (m i).testBit k = false := Nat.testBit_lt_two_pow (Nat.lt_of_lt_of_le (hm i) (Nat.pow_le_pow_right (n := 2) (i := 11) (by omega) (by omega)))
    simp [this]
theorem Rr.wo_is {r : Rr} (h : r.ok = true) {c : Nat} (hc : c < r.R.length) : r.lkd.wy (woM r.lkd.all c) 0 0 r.lkd.h = r.ways.countP fun p => decide (∀ x ∈ p, x.2 ≠ c) := by
  have hR := (Rr.ok_parts h).2.1
  rw [show r.ways = All r.fitm r.L.length r.R.length r.h from rfl, ← count_wo hR (by omega)]
  show cw _ r.R.length (lf 0 r.L.length) 0 r.h = _
  refine cw_congr fun j hj k _ => ?_
  rw [woM_bx _ (Rr.lkd_ok h).m]
  unfold wo
  dsimp only
  rw [Rr.all_bit (mem_lf.1 hj).2]
theorem Rr.hdR_bit {r : Rr} (h : r.ok = true) (c : Nat) : r.hdR.testBit c = (decide (c < r.R.length) && r.ways.any fun p => decide (∀ x ∈ p, x.2 ≠ c)) := by
  unfold Rr.hdR
  rw [gat_bit]
  by_cases hc : c < r.R.length
  · congr 1
    rw [Rr.wo_is h hc, Bool.eq_iff_iff, decide_eq_true_eq, List.countP_pos_iff, List.any_eq_true]
  · simp [hc]
/-- Sure -/
theorem Rr.sur_is {r : Rr} (h : r.ok = true) {i : Nat} (hi : i < r.L.length) {b : List (Nat × Nat)} {l : List (List (Nat × Nat))} (hl : r.ways = b :: l) : r.lkd.surTo i r.lkd.nR = sur (b :: l) b i := by
  have := MW.sur_is (i := i) (show All r.fitm r.L.length r.R.length r.h = b :: l from hl)
  rw [← this]
  unfold Lk.surTo
  have e : ∀ (f g : Nat → Bool) (n : Nat), (∀ c, c < n → f c = g c) → (List.range n).find? f = (List.range n).find? g := by
    intro f g n hfg
    have : ∀ l : List Nat, (∀ c ∈ l, f c = g c) → l.find? f = l.find? g := by
      intro l
      induction l with
      | nil => intro _; rfl
      | cons a l ih =>
        intro hl
        rw [List.find?_cons, List.find?_cons, hl a (by simp), ih fun c hc => hl c (by simp [hc])]
    exact this _ fun c hc => hfg c (List.mem_range.1 hc)
  rw [show r.lkd.nR = r.R.length from rfl, e _ (fun c : Nat => lef (All r.fitm r.L.length r.R.length r.h) i c == (All r.fitm r.L.length r.R.length r.h).length) _ fun c hc => by rw [Rr.spl_right h hi hc, Rr.all0_is h]; rfl]
  all_goals rfl
/-- Ask -/
theorem Rr.lvs_is {r : Rr} (h : r.ok = true) {i : Nat} (hi : i < r.L.length) : r.lkd.lvs i = mxl (fun k => lef r.ways i ((k : Int) - 1)) (List.range (r.R.length + 1)) := by
  rw [show r.ways = All r.fitm r.L.length r.R.length r.h from rfl, ← MW.lvs_is (Rr.ok_parts h).2.1 hi]
  unfold Lk.lvs MW.lvs
  have hR := (Rr.ok_parts h).2.1
  refine mxl_eq (fun k hk => ⟨k, hk, ?_⟩) (fun k hk => ⟨k, hk, ?_⟩)
  all_goals
    by_cases hc : k < r.R.length ∨ k = 10
    · rw [Rr.spl_is h hi hc]; exact Nat.le_refl _
    · unfold MW.spl Lk.spl
      have h1 : decide (k < r.R.length) = false := by simp; omega
      have h2 : (k == 10) = false := by simp; omega
      have h3 : r.fitm i k = false := by
        cases hf : r.fitm i k
        · rfl
        · exact absurd (Rr.fitm_lt hf).2 (by omega)
      rw [Rr.all_bit hi]
      unfold full
      rw [h1, h2, h3]
      simp
/-- Fewest -/
theorem keepM_bx : ∀ (ps : List (Nat × Nat)) (m : Nat → Nat) (o : Nat → Nat → Bool) (n : Nat), (∀ j k, j < n → (m j).testBit k = o j k) → ∀ j k, j < n → (keepM m ps j).testBit k = keep o ps j k
  | [], m, o, n, h, j, k, hj => h j k hj
  | x :: ps, m, o, n, h, j, k, hj => by
    show (keepM (onlM m x.1 x.2) ps j).testBit k = keep (onl o x.1 x.2) ps j k
    refine keepM_bx ps _ _ n (fun j k hj => ?_) j k hj
    rw [onlM_bx]
    unfold onl
    dsimp only
    rw [h j k hj]
theorem Rr.at_is {r : Rr} (h : r.ok = true) (n : Int) : r.lkd.at_ n = (All r.fitm r.L.length r.R.length n).length := Rr.cw_full h n
theorem Rr.cnt_is {r : Rr} (h : r.ok = true) (n : Int) {ps : List (Nat × Nat)} (hx : ∀ x ∈ ps, x.1 < r.L.length ∧ x.2 < r.R.length) : (r.lkd.wh n).cnt ps = (All r.fitm r.L.length r.R.length n).countP fun p => decide (∀ x ∈ ps, x ∈ p) := by
  rw [← count_keep (Rr.ok_parts h).2.1 hx]
  show cw _ r.R.length (lf 0 r.L.length) 0 n = _
  exact cw_congr fun j hj k _ => keepM_bx ps _ _ r.L.length (fun j k hj => Rr.all_bit hj k) j k (mem_lf.1 hj).2
theorem greedy_stop {m : Nat} {has : List (Nat × Nat) → Bool} : ∀ {u ps : List (Nat × Nat)}, ps.length = m → greedy m has u ps = ps
  | [], ps, _ => rfl
  | x :: u, ps, h => by unfold greedy; rw [if_pos h]
theorem run_greedy {k : Lk} {m : Nat} {has : List (Nat × Nat) → Bool} {nL nR : Nat} : ∀ (u ps : List (Nat × Nat)), (∀ x ∈ u, x.1 < nL ∧ x.2 < nR) → (∀ x ∈ ps, x.1 < nL ∧ x.2 < nR) →
    (∀ ps, (∀ x ∈ ps, x.1 < nL ∧ x.2 < nR) → has ps = decide (0 < k.cnt ps)) → u.foldl (k.stepG m) ps = greedy m has u ps
  | [], ps, _, _, _ => rfl
  | x :: u, ps, hu, hp, hh => by
    have hpx : ∀ y ∈ ps ++ [x], y.1 < nL ∧ y.2 < nR := fun y hy => by
      rcases List.mem_append.1 hy with hy | hy
      · exact hp y hy
      · rw [List.mem_singleton.1 hy]; exact hu x (by simp)
    have hu' : ∀ y ∈ u, y.1 < nL ∧ y.2 < nR := fun y hy => hu y (by simp [hy])
    rw [List.foldl_cons]
    have es : k.stepG m ps x = if ps.length = m then ps else if 0 < k.cnt (ps ++ [x]) then ps ++ [x] else ps := rfl
    rw [es]
    unfold greedy
    by_cases h1 : ps.length = m
    · rw [if_pos h1, if_pos h1, run_greedy (k := k) (m := m) (has := has) u ps hu' hp hh, greedy_stop h1]
    · rw [if_neg h1, if_neg h1, hh _ hpx]
      by_cases h2 : 0 < k.cnt (ps ++ [x])
      · rw [if_pos h2, if_pos (by simpa using h2)]; exact run_greedy u _ hu' hpx hh
      · rw [if_neg h2, if_neg (by simpa using h2)]; exact run_greedy u _ hu' hp hh
/-- the first of the longest ways -/
def Rr.best (r : Rr) : List (Nat × Nat) := match r.ways with
  | [] => []
  | b :: l => bst b (b :: l)
theorem Rr.best_fst {r : Rr} (h : r.ways ≠ []) : Fst r.best r.ways := by
  unfold Rr.best
  cases hl : r.ways with
  | nil => exact absurd hl h
  | cons b l =>
    have := bst_all (show All r.fitm r.L.length r.R.length r.h = b :: l from hl)
    rw [show All r.fitm r.L.length r.R.length r.h = b :: l from hl] at this
    exact this
theorem Rr.few_is {r : Rr} (h : r.ok = true) (h0 : r.ways ≠ []) : (r.lkd.few : Int) = (r.L.length : Int) + r.R.length - 2 * r.best.length ∧ r.lkd.few ≤ 20 := by
  have hz : r.lkd.all0 ≠ 0 := by rw [Rr.all0_is h]; exact fun e => h0 (List.length_eq_zero_iff.1 e)
  obtain ⟨h1, h2, h3, h4⟩ := Lk.few_spec (Rr.lkd_ok h) hz
  have hb := Rr.best_fst h0
  have hm := (mem_All.1 (show r.best ∈ All r.fitm r.L.length r.R.length r.h from hb.mem)).1
  have hn := hid_nonneg hm
  refine ⟨?_, h2⟩
  obtain ⟨n, hne⟩ : ∃ n : Nat, (n : Int) = (r.L.length : Int) + r.R.length - 2 * r.best.length := ⟨_, Int.toNat_of_nonneg hn⟩
  rw [← hne]
  have e1 : r.lkd.at_ n ≠ 0 := by
    rw [Rr.at_is h, hne]
    intro e
    have := some_as hb
    rw [List.length_eq_zero_iff.1 e] at this
    cases this
  have e2 : ¬ n < r.lkd.few := fun hlt => e1 (h4 n hlt)
  have e3 : ¬ r.lkd.few < n := fun hlt => by
    apply h3
    rw [Rr.at_is h, none_less hb (by rw [← hne]; omega)]
    rfl
  omega
theorem Rr.fst_is {r : Rr} (h : r.ok = true) (h0 : r.ways ≠ []) : (r.lkd.wh r.lkd.few).fst = r.best := by
  obtain ⟨h1, h2⟩ := Rr.few_is h h0
  have hb := Rr.best_fst h0
  have hm : (r.lkd.wh r.lkd.few).many = r.best.length := by
    show ((((r.L.length : Int) + r.R.length) - r.lkd.few).tdiv 2).toNat = _
    rw [h1]
    have : (r.L.length : Int) + r.R.length - ((r.L.length : Int) + r.R.length - 2 * r.best.length) = 2 * r.best.length := by omega
    rw [this]
    have : (2 * (r.best.length : Int)).tdiv 2 = r.best.length := Int.mul_tdiv_cancel_left _ (by omega)
    rw [this]
    rfl
  unfold Lk.fst Lk.run
  rw [hm]
  have := first_is hb
  refine Eq.trans ?_ this
  refine run_greedy (nL := r.L.length) (nR := r.R.length) _ _ (fun x hx => mem_grid.1 hx) (fun x hx => by simp at hx) fun ps hps => ?_
  rw [← h1, Rr.cnt_is h _ hps]
/-- Shift -/
def enOf : Option (Int × Int) → En
  | none => ⟨0, 0, false⟩
  | some q => ⟨q.1, q.2, true⟩
theorem en_tk (o : Option (Int × Int)) (s : Int × Int) (h : s.1 ≤ s.2) : ((enOf o).put s.1).put s.2 = enOf (tk o s) := by
  obtain ⟨a, b⟩ := s
  simp only at h
  cases o with
  | none =>
    simp only [enOf, tk, En.put, mnI, mxI, Bool.false_eq_true, if_false, if_true, En.mk.injEq, and_true]
    constructor
    all_goals split <;> omega
  | some q =>
    obtain ⟨c, d⟩ := q
    simp only [enOf, tk, En.put, mnI, mxI, Bool.false_eq_true, if_false, if_true, En.mk.injEq, and_true]
    constructor
    all_goals repeat' split
    all_goals omega
theorem en_fold : ∀ (l : List (Int × Int)) (o : Option (Int × Int)), (∀ s ∈ l, s.1 ≤ s.2) → l.foldl (fun e s => (e.put s.1).put s.2) (enOf o) = enOf (l.foldl tk o)
  | [], o, _ => rfl
  | s :: l, o, h => by
    rw [List.foldl_cons, List.foldl_cons, en_tk o s (h s (by simp))]
    exact en_fold l _ fun x hx => h x (by simp [hx])
theorem Rr.shv_le {r : Rr} {i j : Nat} (h : r.fitm i j = true) : (r.shv i j).1 ≤ (r.shv i j).2 := by
  unfold Rr.fitm at h
  unfold Rr.shv
  split at h
  · next x y hx hy =>
    unfold Rr.fit2 at h
    simp only [Bool.and_eq_true, Bool.not_eq_true', decide_eq_false_iff_not] at h
    rw [hx, hy]
    show mxI (x.a - y.b) r.s ≤ mnI (x.b - y.a) r.t
    omega
  · cases h
theorem Rr.ptn_fit {r : Rr} (h : r.ok = true) {i j : Nat} (hi : i < r.L.length) (hb : (r.lkd.ptn i).testBit j = true) : j < r.R.length ∧ r.fitm i j = true := by
  rw [Rr.ptn_bit h hi, List.any_eq_true] at hb
  obtain ⟨p, hp, hm⟩ := hb
  have := All_fit (show p ∈ All r.fitm r.L.length r.R.length r.h from hp) (of_decide_eq_true hm)
  exact this.2
theorem Rr.shE_tks {r : Rr} (h : r.ok = true) {i : Nat} (hi : i < r.L.length) : r.shE i = enOf (tks ((wts r.R.length fun j => (r.lkd.ptn i).testBit j).map (r.shv i))) := by
  unfold Rr.shE Rr.shTo tks
  rw [← en_fold _ none, List.foldl_map]
  · rfl
  · intro s hs; obtain ⟨j, hj, rfl⟩ := List.mem_map.1 hs
    unfold wts at hj
    exact Rr.shv_le (Rr.ptn_fit h hi (List.mem_filter.1 hj).2).2
theorem Rr.shE_is {r : Rr} (h : r.ok = true) {i : Nat} (hi : i < r.L.length) : r.shE i = enOf (tks (shS r.ways i (r.shv i))) := by
  rw [Rr.shE_tks h hi, show r.ways = All r.fitm r.L.length r.R.length r.h from rfl, ← MW.shift_is (Rr.ok_parts h).2.1 hi]
  unfold wts shP
  congr 3
  refine List.filter_congr fun c hc => ?_
  have hc := List.mem_range.1 hc
  unfold Lk.ptn
  rw [gat_bit, show r.lkd.nR = r.R.length from rfl, decide_eq_true hc, Bool.true_and, Rr.spl_is h hi (.inl hc)]
/-- The shift of two marks; it is empty if they do not fit. -/
def Rr.shOf (r : Rr) (x y : Mrk) : Int × Int := if mnI x.d y.d < mxI x.c y.c then (1, 0) else (mxI (x.a - y.b) r.s, mnI (x.b - y.a) r.t)
theorem Rr.shOf_fit {r : Rr} {i j : Nat} {x y : Mrk} (hx : r.L[i]? = some x) (hy : r.R[j]? = some y) : decide ((r.shOf x y).1 ≤ (r.shOf x y).2) = r.fitm i j := by
  rw [Rr.fitm_at hx hy]
  unfold Rr.shOf Rr.fit2
  by_cases h : mnI x.d y.d < mxI x.c y.c
  · rw [if_pos h, decide_eq_true h]; rfl
  · rw [if_neg h, decide_eq_false h]
    simp only [Bool.not_false, Bool.true_and]
    rw [Bool.eq_iff_iff]
    simp
theorem Rr.shOf_shv {r : Rr} {i j : Nat} {x y : Mrk} (hx : r.L[i]? = some x) (hy : r.R[j]? = some y) (hf : r.fitm i j = true) : r.shOf x y = r.shv i j := by
  rw [Rr.fitm_at hx hy] at hf
  unfold Rr.shOf Rr.shv
  unfold Rr.fit2 at hf
  simp only [Bool.and_eq_true, Bool.not_eq_true', decide_eq_false_iff_not] at hf
  rw [if_neg hf.1, hx, hy]
  rfl
end Go.Proofs.Ytjlaoiimbhlafaa
namespace Go.Proofs.Ytjlaoiimbhlafaa
open MW
/-! MatchSure: what is told of sets, sure partners, and what is hidden. -/
theorem pow_one : ∀ x : Nat, x < 1024 → x ≠ 0 → x &&& (x - 1) = 0 → ∃ c, c < 10 ∧ x = 2 ^ c := by
  have h : ∀ x, x < 1024 → x ≠ 0 → x &&& (x - 1) = 0 → ∃ c, c < 10 ∧ x = 2 ^ c := by decide +kernel
  exact h
theorem pow_and : ∀ c, c < 10 → 2 ^ c ≠ 0 ∧ 2 ^ c &&& (2 ^ c - 1) = 0 := by decide +kernel
theorem Rr.ways_ne {r : Rr} (h : r.ok = true) (hz : r.lkd.all0 ≠ 0) : ∃ b l, r.ways = b :: l := by
  rw [Rr.all0_is h] at hz
  cases hl : r.ways with
  | nil => rw [hl] at hz; exact absurd rfl hz
  | cons b l => exact ⟨b, l, rfl⟩
theorem Rr.ptn_lt {r : Rr} (i : Nat) : r.lkd.ptn i < 2 ^ r.R.length := gat_lt _ _
theorem Rr.hdL_lt (r : Rr) : r.hdL < 2 ^ r.L.length := gat_lt _ _
theorem Rr.hdR_lt (r : Rr) : r.hdR < 2 ^ r.R.length := gat_lt _ _
theorem Rr.way_one {r : Rr} {p : List (Nat × Nat)} (hp : p ∈ r.ways) : p.Pairwise fun x y => x.1 < y.1 ∧ x.2 < y.2 := All_one hp
theorem Rr.way_fit {r : Rr} {p : List (Nat × Nat)} (hp : p ∈ r.ways) {x : Nat × Nat} (hx : x ∈ p) : x.1 < r.L.length ∧ x.2 < r.R.length ∧ r.fitm x.1 x.2 = true := All_fit hp hx
/-- each way hides a mark or gives it a partner -/
theorem Rr.set_or {r : Rr} (h : r.ok = true) (hz : r.lkd.all0 ≠ 0) {i : Nat} (hi : i < r.L.length) (h0 : r.lkd.ptn i = 0) : r.hdL.testBit i = true := by
  obtain ⟨b, l, hl⟩ := Rr.ways_ne h hz
  have hb : b ∈ r.ways := by rw [hl]; simp
  rw [Rr.hdL_bit h, decide_eq_true hi, Bool.true_and, List.any_eq_true]
  refine ⟨b, hb, decide_eq_true fun x hx e => ?_⟩
  have : (r.lkd.ptn i).testBit x.2 = true := by
    rw [Rr.ptn_bit h hi, List.any_eq_true]
    exact ⟨b, hb, decide_eq_true (by rw [← e]; exact hx)⟩
  rw [h0, Nat.zero_testBit] at this
  cases this
theorem Rr.right_or {r : Rr} (h : r.ok = true) (hz : r.lkd.all0 ≠ 0) {k : Nat} (hk : k < r.R.length) (h0 : ∀ i, i < r.L.length → (r.lkd.ptn i).testBit k = false) : r.hdR.testBit k = true := by
  obtain ⟨b, l, hl⟩ := Rr.ways_ne h hz
  have hb : b ∈ r.ways := by rw [hl]; simp
  rw [Rr.hdR_bit h, decide_eq_true hk, Bool.true_and, List.any_eq_true]
  refine ⟨b, hb, decide_eq_true fun x hx e => ?_⟩
  have hx1 := (Rr.way_fit hb hx).1
  have : (r.lkd.ptn x.1).testBit k = true := by
    rw [Rr.ptn_bit h hx1, List.any_eq_true]
    exact ⟨b, hb, decide_eq_true (by rw [← e]; exact hx)⟩
  rw [h0 _ hx1] at this
  cases this
/-- one partner alone, and never hidden -/
def Rr.one (r : Rr) (i : Nat) : Bool := (decide (r.lkd.ptn i ≠ 0) && decide (r.lkd.ptn i &&& (r.lkd.ptn i - 1) = 0)) && !r.hdL.testBit i
theorem Rr.one_is {r : Rr} (h : r.ok = true) (hz : r.lkd.all0 ≠ 0) {i : Nat} (hi : i < r.L.length) :
    (r.one i = true ∧ ∃ c : Nat, c < 10 ∧ r.lkd.surTo i r.lkd.nR = c ∧ r.lkd.ptn i = 2 ^ c) ∨ (r.one i = false ∧ r.lkd.surTo i r.lkd.nR = -1) := by
  obtain ⟨b, l, hl⟩ := Rr.ways_ne h hz
  have hb : b ∈ r.ways := by rw [hl]; simp
  have hR := (Rr.ok_parts h).2.1
  have hlt : r.lkd.ptn i < 1024 := Nat.lt_of_lt_of_le (Rr.ptn_lt i) (Nat.pow_le_pow_right (n := 2) (i := r.R.length) (j := 10) (by omega) hR)
  rw [Rr.sur_is h hi hl]
  have hpar : ∀ p ∈ r.ways, par p i ≠ -1 → ∃ c : Nat, par p i = c ∧ (r.lkd.ptn i).testBit c = true ∧ c < r.R.length := by
    intro p hp hn
    obtain ⟨c, hc⟩ := par_nat hn
    have hm := (par_some (Rr.way_one hp)).1 hc
    refine ⟨c, hc, ?_, (Rr.way_fit hp hm).2.1⟩
    rw [Rr.ptn_bit h hi, List.any_eq_true]
    exact ⟨p, hp, decide_eq_true hm⟩
  have hhd : r.hdL.testBit i = r.ways.any fun p => decide (par p i = -1) := by
    rw [Rr.hdL_bit h, decide_eq_true hi, Bool.true_and]
    congr 1
    funext p
    rw [decide_eq_decide, par_none]
  unfold sur
  cases h1 : r.one i with
  | true =>
    left
    refine ⟨rfl, ?_⟩
    unfold Rr.one at h1
    simp only [Bool.and_eq_true, decide_eq_true_eq, Bool.not_eq_true'] at h1
    obtain ⟨⟨a1, a2⟩, a3⟩ := h1
    obtain ⟨c, hc, e⟩ := pow_one _ hlt a1 a2
    have key : ∀ p ∈ r.ways, par p i = c := by
      intro p hp
      have hn : par p i ≠ -1 := fun e => by
        have : (r.ways.any fun p => decide (par p i = -1)) = true := List.any_eq_true.2 ⟨p, hp, decide_eq_true e⟩
        rw [← hhd, a3] at this
        cases this
      obtain ⟨d, hd, hbit, -⟩ := hpar p hp hn
      rw [e, Nat.testBit_two_pow, decide_eq_true_eq] at hbit
      rw [hd, hbit]
    refine ⟨c, hc, ?_, e⟩
    rw [if_pos]
    · exact key b hb
    · rw [List.all_eq_true]
      intro p hp
      rw [beq_iff_eq, key p (by rw [hl]; exact hp), key b hb]
  | false =>
    right
    refine ⟨rfl, ?_⟩
    split
    · next ha =>
      rw [List.all_eq_true] at ha
      refine Classical.byContradiction fun hn => ?_
      obtain ⟨c, hc, hbit, hcR⟩ := hpar b hb hn
      have key : ∀ p ∈ r.ways, par p i = c := fun p hp => by
        have := ha p (by rw [← hl]; exact hp)
        rw [beq_iff_eq] at this
        rw [this, hc]
      have e : r.lkd.ptn i = 2 ^ c := by
        apply Nat.eq_of_testBit_eq
        intro d
        rw [Nat.testBit_two_pow, Rr.ptn_bit h hi, Bool.eq_iff_iff, List.any_eq_true, decide_eq_true_eq]
        constructor
        · rintro ⟨p, hp, hm⟩
          have h2 := (par_some (Rr.way_one hp)).2 (of_decide_eq_true hm)
          rw [key p hp] at h2
          omega
        · rintro rfl
          exact ⟨b, hb, decide_eq_true ((par_some (Rr.way_one hb)).1 hc)⟩
      have h3 : r.hdL.testBit i = false := by
        rw [hhd, List.any_eq_false]
        intro p hp
        rw [key p hp]
        simp
      obtain ⟨g1, g2⟩ := pow_and c (by omega)
      unfold Rr.one at h1
      rw [e, h3, decide_eq_true g1, decide_eq_true g2] at h1
      cases h1
    · rfl
/-- what is wanted of a shift after the right marks below k -/
def Rr.shW (r : Rr) (i k : Nat) : Option (Int × Int) := tks ((wts k fun j => (r.lkd.ptn i).testBit j).map (r.shv i))
theorem wts_sux (n : Nat) (f : Nat → Bool) : wts (n + 1) f = wts n f ++ if f n then [n] else [] := by
  unfold wts
  rw [List.range_succ, List.filter_append]
  cases h : f n <;> simp [h]
theorem Rr.shW_succ (r : Rr) (i k : Nat) : r.shW i (k + 1) = if (r.lkd.ptn i).testBit k then tk (r.shW i k) (r.shv i k) else r.shW i k := by
  unfold Rr.shW
  rw [wts_sux]
  split
  · rw [List.map_append, ← tks_snoc]; rfl
  · rw [List.append_nil]
theorem Rr.shW_all {r : Rr} (h : r.ok = true) {i : Nat} (hi : i < r.L.length) : r.shE i = enOf (r.shW i r.R.length) := Rr.shE_tks h hi
theorem Rr.shW_none {r : Rr} {i : Nat} : r.shW i r.R.length = none ↔ r.lkd.ptn i = 0 := by
  unfold Rr.shW
  constructor
  · intro h
    have hn : (wts r.R.length fun j => (r.lkd.ptn i).testBit j) = [] := by
      refine Classical.byContradiction fun hc => ?_
      obtain ⟨q, hq, -⟩ := tks_some (l := (wts r.R.length fun j => (r.lkd.ptn i).testBit j).map (r.shv i)) (by simpa using hc)
      rw [hq] at h
      cases h
    apply Nat.eq_of_testBit_eq
    intro k
    rw [Nat.zero_testBit]
    by_cases hk : k < r.R.length
    · unfold wts at hn
      rw [List.filter_eq_nil_iff] at hn
      simpa using hn k (List.mem_range.2 hk)
    · exact Nat.testBit_lt_two_pow (Nat.lt_of_lt_of_le (Rr.ptn_lt i) (Nat.pow_le_pow_right (by omega) (by omega)))
  · intro h
    rw [h]
    have : (wts r.R.length fun j => (0 : Nat).testBit j) = [] := by unfold wts; simp
    rw [this]
    rfl
end Go.Proofs.Ytjlaoiimbhlafaa
namespace Go.Proofs.Ytjlaoiimbhlafaa
open MW
/-! MatchMore: rows of which more is known. -/
theorem All_sub {f f' : Nat → Nat → Bool} {nL nR : Nat} {H H' : Int} (hs : ∀ i k, f' i k = true → f i k = true) (hH : H' ≤ H) :
    All f' nL nR H' = (All f nL nR H).filter fun p => (p.all fun x => f' x.1 x.2) && few nL nR H' p := by
  unfold All
  rw [rw_sub hs, List.filter_filter, List.filter_filter]
  refine List.filter_congr fun p _ => ?_
  unfold few
  by_cases h1 : (nL : Int) + nR - 2 * p.length ≤ H'
  · have h2 : (nL : Int) + nR - 2 * p.length ≤ H := by omega
    simp [h1, h2]
  · simp [h1]
/-- y is r, of which more is known -/
structure Rr.Nw (y r : Rr) : Prop where
  nL : y.L.length = r.L.length
  nR : y.R.length = r.R.length
  h : y.h ≤ r.h
  fit : ∀ i j, y.fitm i j = true → r.fitm i j = true
  sh : ∀ i j, y.fitm i j = true → (r.shv i j).1 ≤ (y.shv i j).1 ∧ (y.shv i j).2 ≤ (r.shv i j).2
theorem Rr.Nw.ways {y r : Rr} (n : y.Nw r) : y.ways = r.ways.filter fun p => (p.all fun x => y.fitm x.1 x.2) && few r.L.length r.R.length y.h p := by
  unfold Rr.ways
  rw [n.nL, n.nR]
  exact All_sub n.fit n.h
theorem Rr.Nw.mem {y r : Rr} (n : y.Nw r) {p : List (Nat × Nat)} (hp : p ∈ y.ways) : p ∈ r.ways := by
  rw [n.ways] at hp
  exact (List.mem_filter.1 hp).1
theorem Rr.Nw.count {y r : Rr} (n : y.Nw r) (hy : y.ok = true) (hr : r.ok = true) : y.lkd.all0 ≤ r.lkd.all0 := by
  rw [Rr.all0_is hy, Rr.all0_is hr, n.ways]
  exact List.length_filter_le _ _
theorem Rr.Nw.bit {y r : Rr} (n : y.Nw r) (hy : y.ok = true) (hr : r.ok = true) {i : Nat} (hi : i < r.L.length) {k : Nat} (hb : (y.lkd.ptn i).testBit k = true) : (r.lkd.ptn i).testBit k = true := by
  rw [Rr.ptn_bit hy (by rw [n.nL]; exact hi), List.any_eq_true] at hb
  obtain ⟨p, hp, hm⟩ := hb
  rw [Rr.ptn_bit hr hi, List.any_eq_true]
  exact ⟨p, n.mem hp, hm⟩
theorem mem_wts {n k : Nat} {f : Nat → Bool} : k ∈ wts n f ↔ k < n ∧ f k = true := by unfold wts; rw [List.mem_filter, List.mem_range]
theorem Rr.Nw.shift {y r : Rr} (n : y.Nw r) (hy : y.ok = true) (hr : r.ok = true) {i : Nat} (hi : i < r.L.length) (hs : (y.shE i).s = true) :
    (r.shE i).s = true ∧ (r.shE i).a ≤ (y.shE i).a ∧ (y.shE i).b ≤ (r.shE i).b := by
  have hiy : i < y.L.length := by rw [n.nL]; exact hi
  rw [Rr.shE_tks hy hiy] at hs ⊢
  rw [Rr.shE_tks hr hi]
  generalize hly : (wts y.R.length fun j => (y.lkd.ptn i).testBit j) = ly at *
  generalize hlr : (wts r.R.length fun j => (r.lkd.ptn i).testBit j) = lr at *
  have hne : ly.map (y.shv i) ≠ [] := by
    intro e
    rw [e] at hs
    cases hs
  have hsub : ∀ j ∈ ly, j ∈ lr ∧ y.fitm i j = true := by
    intro j hj
    rw [← hly, mem_wts] at hj
    rw [← hlr, mem_wts]
    exact ⟨⟨by rw [← n.nR]; exact hj.1, n.bit hy hr hi hj.2⟩, (Rr.ptn_fit hy hiy hj.2).2⟩
  obtain ⟨q, hq, tq⟩ := tks_some hne
  have hner : lr.map (r.shv i) ≠ [] := by
    intro e
    rw [List.map_eq_nil_iff] at e
    subst e
    obtain ⟨s, hs', -⟩ := tq.lo
    obtain ⟨j, hj, -⟩ := List.mem_map.1 hs'
    cases (hsub j hj).1
  obtain ⟨u, hu, tu⟩ := tks_some hner
  rw [hq, hu]
  refine ⟨rfl, ?_, ?_⟩
  · obtain ⟨s, hs', e⟩ := tq.lo
    obtain ⟨j, hj, rfl⟩ := List.mem_map.1 hs'
    have h1 := tu.los _ (List.mem_map.2 ⟨j, (hsub j hj).1, rfl⟩)
    have h2 := (n.sh i j (hsub j hj).2).1
    show u.1 ≤ q.1
    omega
  · obtain ⟨s, hs', e⟩ := tq.hi
    obtain ⟨j, hj, rfl⟩ := List.mem_map.1 hs'
    have h1 := tu.his _ (List.mem_map.2 ⟨j, (hsub j hj).1, rfl⟩)
    have h2 := (n.sh i j (hsub j hj).2).2
    show q.2 ≤ u.2
    omega
/-- with a lesser Hidden -/
def Rr.wH (r : Rr) (n : Int) : Rr := { r with h := n }
theorem Rr.wH_nw (r : Rr) {n : Int} (h : n ≤ r.h) : (r.wH n).Nw r := ⟨rfl, rfl, h, fun _ _ h => h, fun _ _ _ => ⟨Int.le_refl _, Int.le_refl _⟩⟩
theorem Rr.wH_ok {r : Rr} {n : Int} (h : r.ok = true) (h0 : 0 ≤ n) (h1 : n ≤ r.h) : (r.wH n).ok = true := by
  have h4 := (Rr.ok_parts h).2.2.2.2.2
  unfold Rr.ok at h ⊢
  simp only [Bool.and_eq_true, decide_eq_true_eq] at h ⊢
  exact ⟨⟨h.1.1, h0⟩, by show n ≤ 20; omega⟩
/-- with a narrower Shift -/
def Rr.wS (r : Rr) (s t : Int) : Rr := { r with s := s, t := t }
theorem Rr.wS_nw (r : Rr) {s t : Int} (h1 : r.s ≤ s) (h2 : t ≤ r.t) : (r.wS s t).Nw r := by
  refine ⟨rfl, rfl, Int.le_refl _, fun i j h => ?_, fun i j _ => ?_⟩
  · unfold Rr.fitm at h ⊢
    show (match r.L[i]?, r.R[j]? with | some x, some y => r.fit2 x y | _, _ => false) = true
    change (match r.L[i]?, r.R[j]? with | some x, some y => (r.wS s t).fit2 x y | _, _ => false) = true at h
    cases hx : r.L[i]? with
    | none => rw [hx] at h; cases h
    | some x =>
      cases hy : r.R[j]? with
      | none => rw [hx, hy] at h; cases h
      | some y =>
        rw [hx, hy] at h
        show r.fit2 x y = true
        have h' : (r.wS s t).fit2 x y = true := h
        unfold Rr.fit2 mnI mxI at h' ⊢
        simp only [Bool.and_eq_true, Bool.not_eq_true', decide_eq_false_iff_not] at h' ⊢
        refine ⟨h'.1, ?_⟩
        have h3 := h'.2
        change ¬ (if t < x.b - y.a then t else x.b - y.a) < (if x.a - y.b < s then s else x.a - y.b) at h3
        split <;> split <;> (try split at h3) <;> (try split at h3) <;> omega
  · unfold Rr.shv
    cases hx : r.L[i]? with
    | none => rw [show (r.wS s t).L[i]? = none from hx]; exact ⟨Int.le_refl _, Int.le_refl _⟩
    | some x =>
      cases hy : r.R[j]? with
      | none => rw [show (r.wS s t).L[i]? = some x from hx, show (r.wS s t).R[j]? = none from hy]; exact ⟨Int.le_refl _, Int.le_refl _⟩
      | some y =>
        rw [show (r.wS s t).L[i]? = some x from hx, show (r.wS s t).R[j]? = some y from hy]
        show mxI (x.a - y.b) r.s ≤ mxI (x.a - y.b) s ∧ mnI (x.b - y.a) t ≤ mnI (x.b - y.a) r.t
        unfold mxI mnI
        constructor <;> (repeat' split) <;> omega
theorem Rr.wS_ok {r : Rr} {s t : Int} (h : r.ok = true) (h1 : r.s ≤ s) (h2 : t ≤ r.t) (h3 : s ≤ t) : (r.wS s t).ok = true := by
  have h4 := (Rr.ok_parts h).2.2.2.2.1
  unfold Rr.ok at h ⊢
  simp only [Bool.and_eq_true, decide_eq_true_eq] at h ⊢
  refine ⟨⟨⟨h.1.1.1, ?_⟩, h.1.2⟩, h.2⟩
  show okS s t (-65536) 65536 = true
  unfold okS
  simp only [Bool.and_eq_true, decide_eq_true_eq]
  omega
/-- with a narrower left mark -/
def Rr.wL (r : Rr) (l : List Mrk) (p : Option Addr) (c : Nat) : Rr := { r with L := l, lp := p, lc := c }
theorem Rr.wL_at {r : Rr} {n : Nat} {x : Mrk} {a d : Int} (hx : r.L[n]? = some x) {p : Option Addr} {c : Nat} (i : Nat) :
    (r.wL (r.L.set n ⟨a, x.b, x.c, d⟩) p c).L[i]? = if i = n then some ⟨a, x.b, x.c, d⟩ else r.L[i]? := by
  show (r.L.set n ⟨a, x.b, x.c, d⟩)[i]? = _
  rw [List.getElem?_set]
  have := (List.getElem?_eq_some_iff.1 hx).1
  by_cases h : i = n
  · rw [if_pos h.symm, if_pos h, if_pos (by omega)]
  · rw [if_neg (fun e => h e.symm), if_neg h]
theorem Rr.wL_nw {r : Rr} {n : Nat} {x : Mrk} {a d : Int} (hx : r.L[n]? = some x) (h1 : x.a ≤ a) (h2 : d ≤ x.d) (p : Option Addr) (c : Nat) : (r.wL (r.L.set n ⟨a, x.b, x.c, d⟩) p c).Nw r := by
  refine ⟨by show (r.L.set _ _).length = _; rw [List.length_set], rfl, Int.le_refl _, fun i j h => ?_, fun i j _ => ?_⟩
  · unfold Rr.fitm at h ⊢
    rw [Rr.wL_at hx] at h
    change (match (if i = n then some ⟨a, x.b, x.c, d⟩ else r.L[i]?), r.R[j]? with | some x, some y => r.fit2 x y | _, _ => false) = true at h
    by_cases hin : i = n
    · rw [if_pos hin] at h
      subst hin
      rw [hx]
      cases hy : r.R[j]? with
      | none => rw [hy] at h; cases h
      | some y =>
        rw [hy] at h
        show r.fit2 x y = true
        have h' : r.fit2 ⟨a, x.b, x.c, d⟩ y = true := h
        unfold Rr.fit2 mnI mxI at h' ⊢
        simp only [Bool.and_eq_true, Bool.not_eq_true', decide_eq_false_iff_not] at h' ⊢
        obtain ⟨g1, g2⟩ := h'
        constructor
        · split <;> split <;> (try split at g1) <;> (try split at g1) <;> omega
        · split <;> split <;> (try split at g2) <;> (try split at g2) <;> omega
    · rw [if_neg hin] at h
      exact h
  · unfold Rr.shv
    rw [Rr.wL_at hx]
    show (match r.L[i]?, r.R[j]? with | some x, some y => r.lkd.sh x y | _, _ => (0, 0)).1 ≤ (match (if i = n then some (Mrk.mk a x.b x.c d) else r.L[i]?), r.R[j]? with | some x, some y => r.lkd.sh x y | _, _ => (0, 0)).1 ∧ (match (if i = n then some (Mrk.mk a x.b x.c d) else r.L[i]?), r.R[j]? with | some x, some y => r.lkd.sh x y | _, _ => (0, 0)).2 ≤ (match r.L[i]?, r.R[j]? with | some x, some y => r.lkd.sh x y | _, _ => (0, 0)).2
    by_cases hin : i = n
    · rw [if_pos hin]
      subst hin
      rw [hx]
      cases hy : r.R[j]? with
      | none => exact ⟨Int.le_refl _, Int.le_refl _⟩
      | some y =>
        show mxI (x.a - y.b) r.s ≤ mxI (a - y.b) r.s ∧ mnI (x.b - y.a) r.t ≤ mnI (x.b - y.a) r.t
        unfold mxI mnI
        constructor <;> (repeat' split) <;> omega
    · rw [if_neg hin]
      exact ⟨Int.le_refl _, Int.le_refl _⟩
theorem Rr.wL_ok {r : Rr} {n : Nat} {x : Mrk} {a d : Int} (h : r.ok = true) (hx : r.L[n]? = some x) (h1 : x.a ≤ a) (h2 : d ≤ x.d) (h3 : a ≤ x.b) (h4 : x.c ≤ d) (p : Option Addr) (c : Nat) : (r.wL (r.L.set n ⟨a, x.b, x.c, d⟩) p c).ok = true := by
  unfold Rr.ok at h ⊢
  simp only [Bool.and_eq_true, decide_eq_true_eq] at h ⊢
  refine ⟨⟨⟨⟨?_, h.1.1.1.2⟩, h.1.1.2⟩, h.1.2⟩, h.2⟩
  have h5 := h.1.1.1.1
  show okRow (r.L.set n ⟨a, x.b, x.c, d⟩) = true
  unfold okRow at h5 ⊢
  simp only [Bool.and_eq_true, decide_eq_true_eq, List.all_eq_true, List.length_set] at h5 ⊢
  refine ⟨h5.1, fun m hm => ?_⟩
  rcases List.mem_or_eq_of_mem_set hm with hm | rfl
  · exact h5.2 m hm
  · have := h5.2 x (List.mem_of_getElem? hx)
    unfold Mrk.ok okS at this ⊢
    simp only [Bool.and_eq_true, decide_eq_true_eq] at this ⊢
    omega
end Go.Proofs.Ytjlaoiimbhlafaa
namespace Go.Proofs.Ytjlaoiimbhlafaa
open MW
/-! What a way is, by itself; rows that are turned round, and told from the other end. -/
theorem mem_rw_of {o : Nat → Nat → Bool} {nR : Nat} : ∀ {is : List Nat} {r : Nat} {p : List (Nat × Nat)}, is.Pairwise (· < ·) → (p.Pairwise fun x y => x.1 < y.1 ∧ x.2 < y.2) →
    (∀ x ∈ p, x.1 ∈ is ∧ r ≤ x.2 ∧ x.2 < nR ∧ o x.1 x.2 = true) → p ∈ rw o nR is r
  | _, _, [], _, _, _ => by unfold rw; simp
  | [], r, x :: p, _, _, h => by have := (h x (by simp)).1; cases this
  | i :: is, r, x :: p, hn, hp, h => by
    have hn' := List.pairwise_cons.1 hn
    have hp' := List.pairwise_cons.1 hp
    obtain ⟨h1, h2, h3, h4⟩ := h x (by simp)
    unfold rw
    rw [List.mem_cons]
    right
    rw [ne, List.mem_append]
    by_cases hx : x.1 = i
    · left
      unfold MW.step
      rw [List.mem_flatMap]
      refine ⟨x.2, ?_, ?_⟩
      · rw [List.mem_filter, List.mem_range]
        refine ⟨h3, ?_⟩
        rw [decide_eq_true h2, Bool.true_and, ← hx]
        exact h4
      · rw [List.mem_map]
        refine ⟨p, ?_, by rw [← hx]⟩
        refine mem_rw_of hn'.2 hp'.2 fun y hy => ?_
        obtain ⟨g1, g2, g3, g4⟩ := h y (by simp [hy])
        have g5 := hp'.1 y hy
        refine ⟨?_, by omega, g3, g4⟩
        rcases List.mem_cons.1 g1 with e | g1
        · omega
        · exact g1
    · right
      have key : x :: p ∈ rw o nR is r := by
        refine mem_rw_of hn'.2 hp fun y hy => ?_
        obtain ⟨g1, g2, g3, g4⟩ := h y hy
        refine ⟨?_, g2, g3, g4⟩
        rcases List.mem_cons.1 g1 with e | g1
        · rcases List.mem_cons.1 h1 with e1 | h1
          · exact absurd e1 hx
          · have := hn'.1 _ h1
            rcases List.mem_cons.1 hy with rfl | hy
            · exact absurd e hx
            · have := (hp'.1 y hy).1
              omega
        · exact g1
      rcases List.mem_cons.1 key with e | key
      · cases e
      · exact key
/-- a way: pairs that fit and do not cross, of which few enough marks are hidden -/
def Way (f : Nat → Nat → Bool) (nL nR : Nat) (H : Int) (p : List (Nat × Nat)) : Prop :=
  (p.Pairwise fun x y => x.1 < y.1 ∧ x.2 < y.2) ∧ (∀ x ∈ p, x.1 < nL ∧ x.2 < nR ∧ f x.1 x.2 = true) ∧ (nL : Int) + nR - 2 * p.length ≤ H
theorem mem_All_way {f : Nat → Nat → Bool} {nL nR : Nat} {H : Int} {p : List (Nat × Nat)} : p ∈ All f nL nR H ↔ Way f nL nR H p := by
  constructor
  · intro h
    exact ⟨All_one h, fun x hx => All_fit h hx, (mem_All.1 h).2⟩
  · rintro ⟨h1, h2, h3⟩
    refine mem_All.2 ⟨mem_rw_of (lf_pw _ _) h1 fun x hx => ?_, h3⟩
    obtain ⟨a, b, c⟩ := h2 x hx
    exact ⟨mem_lf.2 ⟨Nat.zero_le _, a⟩, Nat.zero_le _, b, c⟩
theorem All_nodup (f : Nat → Nat → Bool) (nL nR : Nat) (H : Int) : (All f nL nR H).Nodup :=
  List.Pairwise.imp (fun {a b} (h : ll a b) (e : a = b) => ll_irr (show ll b b from e ▸ h)) (All_pw f nL nR H)
theorem len_sub {α : Type} [DecidableEq α] : ∀ {l m : List α}, l.Nodup → (∀ x ∈ l, x ∈ m) → l.length ≤ m.length
  | [], m, _, _ => Nat.zero_le _
  | a :: l, m, hn, h => by
    have hn' := List.nodup_cons.1 hn
    have ha := h a (by simp)
    have := len_sub (m := m.erase a) hn'.2 fun x hx => by
      have hne : x ≠ a := fun e => hn'.1 (e ▸ hx)
      exact (List.mem_erase_of_ne hne).2 (h x (by simp [hx]))
    rw [List.length_erase_of_mem ha] at this
    have := List.length_pos_of_mem ha
    rw [List.length_cons]
    omega
theorem nodup_map {α β : Type} {f : α → β} (hf : ∀ a b, f a = f b → a = b) : ∀ {l : List α}, l.Nodup → (l.map f).Nodup
  | [], _ => List.nodup_nil
  | a :: l, h => by
    have h' := List.nodup_cons.1 h
    rw [List.map_cons, List.nodup_cons]
    refine ⟨fun hm => ?_, nodup_map hf h'.2⟩
    obtain ⟨b, hb, e⟩ := List.mem_map.1 hm
    exact h'.1 (hf _ _ e ▸ hb)
theorem All_len_le {f g : Nat → Nat → Bool} {nL nR mL mR : Nat} {H : Int} {t : List (Nat × Nat) → List (Nat × Nat)} (ht : ∀ a b, t a = t b → a = b) (h : ∀ p, Way f nL nR H p → Way g mL mR H (t p)) :
    (All f nL nR H).length ≤ (All g mL mR H).length := by
  have := len_sub (l := (All f nL nR H).map t) (m := All g mL mR H) (nodup_map ht (All_nodup _ _ _ _)) fun x hx => by
    obtain ⟨p, hp, rfl⟩ := List.mem_map.1 hx
    exact mem_All_way.2 (h p (mem_All_way.1 hp))
  rwa [List.length_map] at this
/-- left and right change places -/
def swp (p : List (Nat × Nat)) : List (Nat × Nat) := p.map fun x => (x.2, x.1)
theorem swp_swp (p : List (Nat × Nat)) : swp (swp p) = p := by unfold swp; rw [List.map_map]; exact List.map_id p
theorem swp_inj (a b : List (Nat × Nat)) (h : swp a = swp b) : a = b := by rw [← swp_swp a, h, swp_swp]
theorem mem_swp {p : List (Nat × Nat)} {i k : Nat} : (k, i) ∈ swp p ↔ (i, k) ∈ p := by
  unfold swp
  rw [List.mem_map]
  constructor
  · rintro ⟨⟨a, b⟩, h, e⟩
    cases e
    exact h
  · intro h
    exact ⟨_, h, rfl⟩
theorem swp_way {f : Nat → Nat → Bool} {nL nR : Nat} {H : Int} {p : List (Nat × Nat)} (h : Way f nL nR H p) : Way (fun i k => f k i) nR nL H (swp p) := by
  obtain ⟨h1, h2, h3⟩ := h
  refine ⟨?_, ?_, ?_⟩
  · unfold swp
    rw [List.pairwise_map]
    exact h1.imp fun h => ⟨h.2, h.1⟩
  · intro x hx
    obtain ⟨a, b⟩ := x
    have := h2 _ (mem_swp.1 hx)
    exact ⟨this.2.1, this.1, this.2.2⟩
  · unfold swp
    rw [List.length_map]
    omega
theorem swp_len {f : Nat → Nat → Bool} {nL nR : Nat} {H : Int} : (All (fun i k => f k i) nR nL H).length = (All f nL nR H).length :=
  Nat.le_antisymm (All_len_le swp_inj fun p hp => swp_way hp) (All_len_le swp_inj fun p hp => swp_way hp)
/-- told from the other end -/
def mrp (nL nR : Nat) (p : List (Nat × Nat)) : List (Nat × Nat) := (p.map fun x => (nL - 1 - x.1, nR - 1 - x.2)).reverse
theorem mrp_way {f : Nat → Nat → Bool} {nL nR : Nat} {H : Int} {p : List (Nat × Nat)} (h : Way f nL nR H p) : Way (fun i k => f (nL - 1 - i) (nR - 1 - k)) nL nR H (mrp nL nR p) := by
  obtain ⟨h1, h2, h3⟩ := h
  refine ⟨?_, ?_, ?_⟩
  · unfold mrp
    rw [List.pairwise_reverse, List.pairwise_map]
    refine List.Pairwise.imp_of_mem (fun {a b} ha hb h => ?_) h1
    have h4 := h2 a ha
    have h5 := h2 b hb
    simp only
    omega
  · intro x hx
    unfold mrp at hx
    rw [List.mem_reverse, List.mem_map] at hx
    obtain ⟨y, hy, rfl⟩ := hx
    have h4 := h2 y hy
    simp only
    refine ⟨by omega, by omega, ?_⟩
    rw [show nL - 1 - (nL - 1 - y.1) = y.1 by omega, show nR - 1 - (nR - 1 - y.2) = y.2 by omega]
    exact h4.2.2
  · unfold mrp
    rw [List.length_reverse, List.length_map]
    exact h3
theorem All_len_le' {f g : Nat → Nat → Bool} {nL nR mL mR : Nat} {H : Int} {t u : List (Nat × Nat) → List (Nat × Nat)} (hu : ∀ p, Way f nL nR H p → u (t p) = p) (h : ∀ p, Way f nL nR H p → Way g mL mR H (t p)) :
    (All f nL nR H).length ≤ (All g mL mR H).length := by
  have hn : ((All f nL nR H).map t).Nodup := by
    have h0 : ∀ l : List (List (Nat × Nat)), l.Nodup → (∀ p ∈ l, u (t p) = p) → (l.map t).Nodup := by
      intro l
      induction l with
      | nil => intro _ _; exact List.nodup_nil
      | cons a l ih =>
        intro hn hl
        have h' := List.nodup_cons.1 hn
        rw [List.map_cons, List.nodup_cons]
        refine ⟨fun hm => ?_, ih h'.2 fun p hp => hl p (by simp [hp])⟩
        obtain ⟨b, hb, e⟩ := List.mem_map.1 hm
        have := hl b (by simp [hb])
        rw [e, hl a (by simp)] at this
        exact h'.1 (this ▸ hb)
    exact h0 _ (All_nodup _ _ _ _) fun p hp => hu p (mem_All_way.1 hp)
  have := len_sub (l := (All f nL nR H).map t) (m := All g mL mR H) hn fun x hx => by
    obtain ⟨p, hp, rfl⟩ := List.mem_map.1 hx
    exact mem_All_way.2 (h p (mem_All_way.1 hp))
  rwa [List.length_map] at this
theorem mrp_mrp {f : Nat → Nat → Bool} {nL nR : Nat} {H : Int} {p : List (Nat × Nat)} (h : Way f nL nR H p) : mrp nL nR (mrp nL nR p) = p := by
  unfold mrp
  rw [List.map_reverse, List.reverse_reverse, List.map_map]
  have : p.map ((fun x : Nat × Nat => (nL - 1 - x.1, nR - 1 - x.2)) ∘ fun x => (nL - 1 - x.1, nR - 1 - x.2)) = p.map id := by
    refine List.map_congr_left fun x hx => ?_
    have := h.2.1 x hx
    obtain ⟨a, b⟩ := x
    simp only [Function.comp, id]
    simp only at this
    rw [show nL - 1 - (nL - 1 - a) = a by omega, show nR - 1 - (nR - 1 - b) = b by omega]
  rw [this, List.map_id]
theorem Way.congr {f g : Nat → Nat → Bool} {nL nR : Nat} {H : Int} {p : List (Nat × Nat)} (h : Way f nL nR H p) (e : ∀ i k, i < nL → k < nR → f i k = g i k) : Way g nL nR H p :=
  ⟨h.1, fun x hx => by have := h.2.1 x hx; exact ⟨this.1, this.2.1, by rw [← e _ _ this.1 this.2.1]; exact this.2.2⟩, h.2.2⟩
theorem mrp_len {f : Nat → Nat → Bool} {nL nR : Nat} {H : Int} : (All (fun i k => f (nL - 1 - i) (nR - 1 - k)) nL nR H).length = (All f nL nR H).length := by
  apply Nat.le_antisymm
  · refine All_len_le' (t := mrp nL nR) (u := mrp nL nR) (fun p hp => mrp_mrp hp) fun p hp => ?_
    refine (mrp_way hp).congr fun i k hi hk => ?_
    rw [show nL - 1 - (nL - 1 - i) = i by omega, show nR - 1 - (nR - 1 - k) = k by omega]
  · exact All_len_le' (t := mrp nL nR) (u := mrp nL nR) (fun p hp => mrp_mrp hp) fun p hp => mrp_way hp
theorem All_congr {f g : Nat → Nat → Bool} {nL nR : Nat} {H : Int} (e : ∀ i k, i < nL → k < nR → f i k = g i k) : (All f nL nR H).length = (All g nL nR H).length :=
  Nat.le_antisymm (All_len_le (t := id) (fun _ _ h => h) fun p hp => hp.congr e) (All_len_le (t := id) (fun _ _ h => h) fun p hp => hp.congr fun i k hi hk => (e i k hi hk).symm)
/-- rows whose left and right change places, with the shift turned round -/
def Rr.swap (r : Rr) : Rr := ⟨r.R, r.rp, r.rc, r.L, r.lp, r.lc, -r.t, -r.s, r.h⟩
theorem fit2_swap (s t s' t' : Int) (x y : Mrk) (hs : s' = -t) (ht : t' = -s) : (!decide (mnI y.d x.d < mxI y.c x.c) && !decide (mnI (y.b - x.a) t' < mxI (y.a - x.b) s')) = (!decide (mnI x.d y.d < mxI x.c y.c) && !decide (mnI (x.b - y.a) t < mxI (x.a - y.b) s)) := by
  subst hs ht
  have h1 : decide (mnI y.d x.d < mxI y.c x.c) = decide (mnI x.d y.d < mxI x.c y.c) := by
    rw [decide_eq_decide]
    have a1 : mnI y.d x.d = mnI x.d y.d := by unfold mnI; split <;> split <;> omega
    have a2 : mxI y.c x.c = mxI x.c y.c := by unfold mxI; split <;> split <;> omega
    rw [a1, a2]
  have h2 : decide (mnI (y.b - x.a) (-s) < mxI (y.a - x.b) (-t)) = decide (mnI (x.b - y.a) t < mxI (x.a - y.b) s) := by
    rw [decide_eq_decide]
    have a1 : mnI (y.b - x.a) (-s) = - mxI (x.a - y.b) s := by unfold mnI mxI; split <;> split <;> omega
    have a2 : mxI (y.a - x.b) (-t) = - mnI (x.b - y.a) t := by unfold mnI mxI; split <;> split <;> omega
    rw [a1, a2]
    omega
  rw [h1, h2]
theorem Rr.swap_fit (r : Rr) (i k : Nat) : r.swap.fitm i k = r.fitm k i := by
  unfold Rr.fitm
  show (match r.R[i]?, r.L[k]? with | some x, some y => r.swap.fit2 x y | _, _ => false) = _
  cases hy : r.R[i]? with
  | none => cases hx : r.L[k]? <;> rfl
  | some y =>
    cases hx : r.L[k]? with
    | none => rfl
    | some x => exact fit2_swap r.s r.t _ _ x y rfl rfl
theorem Rr.swap_ok (r : Rr) : r.swap.ok = r.ok := by
  unfold Rr.ok
  show ((((okRow r.R && okRow r.L) && okS (-r.t) (-r.s) (-65536) 65536) && decide (0 ≤ r.h)) && decide (r.h ≤ 20)) = _
  have : okS (-r.t) (-r.s) (-65536) 65536 = okS r.s r.t (-65536) 65536 := by
    unfold okS
    rw [Bool.eq_iff_iff]
    simp only [Bool.and_eq_true, decide_eq_true_eq]
    omega
  rw [this, Bool.and_comm (okRow r.R)]
theorem Rr.swap_all (r : Rr) (H : Int) : (All r.swap.fitm r.R.length r.L.length H).length = (All r.fitm r.L.length r.R.length H).length := by
  rw [← swp_len (f := r.fitm)]
  exact All_congr fun i k _ _ => Rr.swap_fit r i k
theorem Rr.swap_count {r : Rr} (h : r.ok = true) : r.swap.lkd.all0 = r.lkd.all0 := by
  rw [Rr.all0_is h, Rr.all0_is (by rw [Rr.swap_ok]; exact h)]
  exact Rr.swap_all r r.h
theorem Rr.swap_few {r : Rr} (h : r.ok = true) : r.swap.lkd.few = r.lkd.few := by
  have h' : r.swap.ok = true := by rw [Rr.swap_ok]; exact h
  unfold Lk.few
  have : (fun n : Nat => r.swap.lkd.at_ n != 0) = fun n : Nat => r.lkd.at_ n != 0 := by
    funext n
    rw [Rr.at_is h, Rr.at_is h']
    show ((All r.swap.fitm r.R.length r.L.length n).length != 0) = _
    rw [Rr.swap_all]
  rw [this]
theorem Rr.swap_way {r : Rr} {p : List (Nat × Nat)} (hp : p ∈ r.ways) : swp p ∈ r.swap.ways :=
  mem_All_way.2 ((swp_way (mem_All_way.1 hp)).congr fun i k _ _ => (Rr.swap_fit r i k).symm)
theorem Rr.swap_swap (r : Rr) : r.swap.swap = r := by
  unfold Rr.swap
  simp
theorem Rr.swap_way' {r : Rr} {p : List (Nat × Nat)} : p ∈ r.swap.ways ↔ swp p ∈ r.ways := by
  constructor
  · intro h
    have := Rr.swap_way h
    rwa [Rr.swap_swap] at this
  · intro h
    have := Rr.swap_way h
    rwa [swp_swp] at this
theorem Rr.swap_ptn {r : Rr} (h : r.ok = true) {i k : Nat} (hi : i < r.L.length) (hk : k < r.R.length) : (r.swap.lkd.ptn k).testBit i = (r.lkd.ptn i).testBit k := by
  rw [Rr.ptn_bit h hi, Rr.ptn_bit (r := r.swap) (by rw [Rr.swap_ok]; exact h) hk, Bool.eq_iff_iff, List.any_eq_true, List.any_eq_true]
  constructor
  · rintro ⟨p, hp, hm⟩
    exact ⟨swp p, Rr.swap_way'.1 hp, decide_eq_true (mem_swp.2 (of_decide_eq_true hm))⟩
  · rintro ⟨p, hp, hm⟩
    exact ⟨swp p, Rr.swap_way hp, decide_eq_true (mem_swp.2 (of_decide_eq_true hm))⟩
theorem swp_all1 {p : List (Nat × Nat)} {i : Nat} : (∀ x ∈ swp p, x.1 ≠ i) ↔ ∀ x ∈ p, x.2 ≠ i := by
  unfold swp
  exact ⟨fun h x hx => h (x.2, x.1) (List.mem_map.2 ⟨x, hx, rfl⟩), fun h x hx => by obtain ⟨y, hy, rfl⟩ := List.mem_map.1 hx; exact h y hy⟩
theorem swp_all2 {p : List (Nat × Nat)} {i : Nat} : (∀ x ∈ swp p, x.2 ≠ i) ↔ ∀ x ∈ p, x.1 ≠ i := by
  unfold swp
  exact ⟨fun h x hx => h (x.2, x.1) (List.mem_map.2 ⟨x, hx, rfl⟩), fun h x hx => by obtain ⟨y, hy, rfl⟩ := List.mem_map.1 hx; exact h y hy⟩
theorem Rr.swap_hdR {r : Rr} (h : r.ok = true) : r.swap.hdR = r.hdL := by
  apply Nat.eq_of_testBit_eq
  intro i
  rw [Rr.hdL_bit h, Rr.hdR_bit (r := r.swap) (by rw [Rr.swap_ok]; exact h)]
  show (decide (i < r.L.length) && _) = _
  congr 1
  rw [Bool.eq_iff_iff, List.any_eq_true, List.any_eq_true]
  constructor
  · rintro ⟨p, hp, hm⟩
    exact ⟨swp p, Rr.swap_way'.1 hp, decide_eq_true (swp_all1.2 (of_decide_eq_true hm))⟩
  · rintro ⟨p, hp, hm⟩
    exact ⟨swp p, Rr.swap_way hp, decide_eq_true (swp_all2.2 (of_decide_eq_true hm))⟩
theorem Rr.swap_hdL {r : Rr} (h : r.ok = true) : r.swap.hdL = r.hdR := by
  have := Rr.swap_hdR (r := r.swap) (by rw [Rr.swap_ok]; exact h)
  rw [Rr.swap_swap] at this
  exact this.symm
/-- rows told from the other end -/
def Mrk.mir (m : Mrk) : Mrk := ⟨65536 - m.b, 65536 - m.a, m.c, m.d⟩
def mirL (l : List Mrk) : List Mrk := (l.map Mrk.mir).reverse
theorem mirL_len (l : List Mrk) : (mirL l).length = l.length := by unfold mirL; simp
theorem mirL_at {l : List Mrk} {i : Nat} (h : i < l.length) : (mirL l)[i]? = (l[l.length - 1 - i]?).map Mrk.mir := by
  unfold mirL
  rw [List.getElem?_reverse (by simpa using h), List.getElem?_map, List.length_map]
theorem Mrk.mir_ok (m : Mrk) : m.mir.ok = m.ok := by
  unfold Mrk.ok Mrk.mir okS
  rw [Bool.eq_iff_iff]
  simp only [Bool.and_eq_true, decide_eq_true_eq]
  omega
theorem okRow_mir (l : List Mrk) : okRow (mirL l) = okRow l := by
  unfold okRow
  rw [mirL_len]
  congr 1
  unfold mirL
  rw [List.all_reverse, List.all_map]
  congr 1
  funext m
  exact m.mir_ok
def Rr.mirror (r : Rr) (lp : Option Addr) (lc : Nat) (rp : Option Addr) (rc : Nat) : Rr := ⟨mirL r.L, lp, lc, mirL r.R, rp, rc, -r.t, -r.s, r.h⟩
theorem Rr.mirror_ok (r : Rr) (lp : Option Addr) (lc : Nat) (rp : Option Addr) (rc : Nat) : (r.mirror lp lc rp rc).ok = r.ok := by
  unfold Rr.ok
  show ((((okRow (mirL r.L) && okRow (mirL r.R)) && okS (-r.t) (-r.s) (-65536) 65536) && decide (0 ≤ r.h)) && decide (r.h ≤ 20)) = _
  have : okS (-r.t) (-r.s) (-65536) 65536 = okS r.s r.t (-65536) 65536 := by
    unfold okS
    rw [Bool.eq_iff_iff]
    simp only [Bool.and_eq_true, decide_eq_true_eq]
    omega
  rw [this, okRow_mir, okRow_mir]
theorem Rr.mirror_fit (r : Rr) (lp : Option Addr) (lc : Nat) (rp : Option Addr) (rc : Nat) {i k : Nat} (hi : i < r.L.length) (hk : k < r.R.length) :
    (r.mirror lp lc rp rc).fitm i k = r.fitm (r.L.length - 1 - i) (r.R.length - 1 - k) := by
  unfold Rr.fitm
  show (match (mirL r.L)[i]?, (mirL r.R)[k]? with | some x, some y => (r.mirror lp lc rp rc).fit2 x y | _, _ => false) = _
  rw [mirL_at hi, mirL_at hk]
  cases hx : r.L[r.L.length - 1 - i]? with
  | none => rfl
  | some x =>
    cases hy : r.R[r.R.length - 1 - k]? with
    | none => rfl
    | some y =>
      show (!decide (mnI x.d y.d < mxI x.c y.c) && !decide (mnI ((65536 - x.a) - (65536 - y.b)) (-r.s) < mxI ((65536 - x.b) - (65536 - y.a)) (-r.t))) = (!decide (mnI x.d y.d < mxI x.c y.c) && !decide (mnI (x.b - y.a) r.t < mxI (x.a - y.b) r.s))
      congr 2
      rw [decide_eq_decide]
      have a1 : mnI ((65536 - x.a) - (65536 - y.b)) (-r.s) = - mxI (x.a - y.b) r.s := by unfold mnI mxI; split <;> split <;> omega
      have a2 : mxI ((65536 - x.b) - (65536 - y.a)) (-r.t) = - mnI (x.b - y.a) r.t := by unfold mnI mxI; split <;> split <;> omega
      rw [a1, a2]
      omega
theorem Rr.mirror_count {r : Rr} (h : r.ok = true) (lp : Option Addr) (lc : Nat) (rp : Option Addr) (rc : Nat) : (r.mirror lp lc rp rc).lkd.all0 = r.lkd.all0 := by
  rw [Rr.all0_is h, Rr.all0_is (by rw [Rr.mirror_ok]; exact h)]
  show (All (r.mirror lp lc rp rc).fitm (mirL r.L).length (mirL r.R).length r.h).length = (All r.fitm r.L.length r.R.length r.h).length
  rw [mirL_len, mirL_len, ← mrp_len (f := r.fitm)]
  exact All_congr fun i k hi hk => Rr.mirror_fit r lp lc rp rc hi hk
end Go.Proofs.Ytjlaoiimbhlafaa
namespace Go.Proofs.Ytjlaoiimbhlafaa
open MW
/-! MatchFewest: the first of the ways with the most pairs. -/
def Chn (f : Nat → Nat → Bool) (nL nR : Nat) (p : List (Nat × Nat)) : Prop := (p.Pairwise fun x y => x.1 < y.1 ∧ x.2 < y.2) ∧ ∀ x ∈ p, x.1 < nL ∧ x.2 < nR ∧ f x.1 x.2 = true
theorem Chn.nil (f : Nat → Nat → Bool) (nL nR : Nat) : Chn f nL nR [] := ⟨List.Pairwise.nil, by simp⟩
theorem Chn.snoc {f : Nat → Nat → Bool} {nL nR : Nat} {p : List (Nat × Nat)} {i k : Nat} (h : Chn f nL nR p) (hb : ∀ x ∈ p, x.1 < i ∧ x.2 < k) (hi : i < nL) (hk : k < nR) (hf : f i k = true) : Chn f nL nR (p ++ [(i, k)]) := by
  refine ⟨List.pairwise_append.2 ⟨h.1, by simp, fun x hx y hy => ?_⟩, fun x hx => ?_⟩
  · rw [List.mem_singleton.1 hy]; exact hb x hx
  · rcases List.mem_append.1 hx with hx | hx
    · exact h.2 x hx
    · rw [List.mem_singleton.1 hx]; exact ⟨hi, hk, hf⟩
theorem Rr.best_way {r : Rr} (h0 : r.ways ≠ []) : Way r.fitm r.L.length r.R.length r.h r.best := mem_All_way.1 (Rr.best_fst h0).mem
theorem Rr.best_max {r : Rr} (h0 : r.ways ≠ []) {p : List (Nat × Nat)} (hp : Chn r.fitm r.L.length r.R.length p) : p.length ≤ r.best.length := by
  refine Classical.byContradiction fun hc => ?_
  have hw := (Rr.best_way h0).2.2
  have : p ∈ r.ways := mem_All_way.2 ⟨hp.1, hp.2, by omega⟩
  have := (Rr.best_fst h0).max p this
  omega
theorem Rr.best_first {r : Rr} (h0 : r.ways ≠ []) {p : List (Nat × Nat)} (hp : Chn r.fitm r.L.length r.R.length p) (hl : p.length = r.best.length) : p = r.best ∨ ll r.best p := by
  have hw := (Rr.best_way h0).2.2
  have : p ∈ r.ways := mem_All_way.2 ⟨hp.1, hp.2, by omega⟩
  exact (Rr.best_fst h0).fst p this hl
theorem ll_at : ∀ {p q : List (Nat × Nat)} {i : Nat} {a b : Nat × Nat}, ll p q → (∀ j, j < i → p[j]? = q[j]?) → p[i]? = some a → q[i]? = some b → a ≠ b → pl a b
  | [], _, i, a, b, _, _, hp, _, _ => by cases hp
  | _ :: _, [], i, a, b, h, _, _, _, _ => by cases h
  | x :: p, y :: q, 0, a, b, h, _, hp, hq, hne => by
    cases hp
    cases hq
    rcases h with h | ⟨e, -⟩
    · exact h
    · exact absurd e hne
  | x :: p, y :: q, i + 1, a, b, h, hj, hp, hq, hne => by
    have h0 := hj 0 (by omega)
    have e : x = y := by simpa using h0
    rcases h with h | ⟨-, h⟩
    · rw [e] at h; exact absurd h pl_irr
    · exact ll_at h (fun j hlt => by have := hj (j + 1) (by omega); simpa using this) hp hq hne
/-- of as many pairs none stands before -/
theorem Rr.best_at {r : Rr} (h0 : r.ways ≠ []) {p : List (Nat × Nat)} (hp : Chn r.fitm r.L.length r.R.length p) (hl : p.length = r.best.length) {i : Nat} {a b : Nat × Nat}
    (hj : ∀ j, j < i → p[j]? = r.best[j]?) (ha : p[i]? = some a) (hb : r.best[i]? = some b) (hne : a ≠ b) : ¬ (a.1 < b.1 ∨ a.1 = b.1 ∧ a.2 < b.2) := by
  rcases Rr.best_first h0 hp hl with e | h
  · rw [e, hb] at ha
    cases ha
    exact absurd rfl hne
  · have := ll_at h (fun j hlt => (hj j hlt).symm) hb ha (fun e => hne e.symm)
    exact fun hc => pl_asym this hc
theorem Rr.best_up {r : Rr} (h0 : r.ways ≠ []) {i : Nat} {a b : Nat × Nat} (ha : r.best[i]? = some a) (hb : r.best[i + 1]? = some b) : a.1 < b.1 ∧ a.2 < b.2 := by
  have hw := (Rr.best_way h0).1
  have h1 := (List.getElem?_eq_some_iff.1 ha)
  have h2 := (List.getElem?_eq_some_iff.1 hb)
  obtain ⟨l1, e1⟩ := h1
  obtain ⟨l2, e2⟩ := h2
  have := List.pairwise_iff_getElem.1 hw i (i + 1) l1 l2 (by omega)
  rw [e1, e2] at this
  exact this
theorem Rr.best_fit {r : Rr} (h0 : r.ways ≠ []) {i : Nat} {a : Nat × Nat} (ha : r.best[i]? = some a) : a.1 < r.L.length ∧ a.2 < r.R.length ∧ r.fitm a.1 a.2 = true :=
  (Rr.best_way h0).2.1 a (List.mem_of_getElem? ha)
/-- with one mark less that may be hidden there is no way -/
theorem Rr.less_none {r : Rr} (h : r.ok = true) (hz : r.lkd.all0 ≠ 0) {n : Nat} (hn : n + 1 = r.lkd.few) : (r.wH n).lkd.all0 = 0 :=
  (Lk.few_spec (Rr.lkd_ok h) hz).2.2.2 n (by omega)
theorem Rr.same_few (r : Rr) (n : Int) : (r.wH n).lkd.few = r.lkd.few := rfl
theorem Rr.few_way {r : Rr} (h : r.ok = true) (hz : r.lkd.all0 ≠ 0) : (r.wH r.lkd.few).lkd.all0 ≠ 0 :=
  (Lk.few_spec (Rr.lkd_ok h) hz).2.2.1
theorem Rr.few_le {r : Rr} (h : r.ok = true) (hz : r.lkd.all0 ≠ 0) : (r.lkd.few : Int) ≤ r.h := by
  have h0 : r.ways ≠ [] := by
    obtain ⟨b, l, e⟩ := Rr.ways_ne h hz
    rw [e]; simp
  have h1 := (Rr.few_is h h0).1
  have h2 := (Rr.best_way h0).2.2
  omega
end Go.Proofs.Ytjlaoiimbhlafaa
namespace Go.Proofs.Ytjlaoiimbhlafaa
open MW
/-! MatchAsk: the ways in which a mark is hidden, and those in which two marks are a pair. -/
/-- without the left mark i -/
def skp (f : Nat → Nat → Bool) (i : Nat) : Nat → Nat → Bool := fun j k => f (if j < i then j else j + 1) k
def dnp (i : Nat) (p : List (Nat × Nat)) : List (Nat × Nat) := p.map fun x => (if x.1 < i then x.1 else x.1 - 1, x.2)
def upp (i : Nat) (p : List (Nat × Nat)) : List (Nat × Nat) := p.map fun x => (if x.1 < i then x.1 else x.1 + 1, x.2)
theorem dnp_upp (i : Nat) (p : List (Nat × Nat)) : dnp i (upp i p) = p := by
  unfold dnp upp
  rw [List.map_map]
  have : p.map ((fun x : Nat × Nat => (if x.1 < i then x.1 else x.1 - 1, x.2)) ∘ fun x => (if x.1 < i then x.1 else x.1 + 1, x.2)) = p.map id := by
    refine List.map_congr_left fun x _ => ?_
    obtain ⟨a, b⟩ := x
    simp only [Function.comp, id]
    congr 1
    repeat' split
    all_goals omega
  rw [this, List.map_id]
theorem upp_dnp {i : Nat} {p : List (Nat × Nat)} (h : ∀ x ∈ p, x.1 ≠ i) : upp i (dnp i p) = p := by
  unfold dnp upp
  rw [List.map_map]
  have : p.map ((fun x : Nat × Nat => (if x.1 < i then x.1 else x.1 + 1, x.2)) ∘ fun x => (if x.1 < i then x.1 else x.1 - 1, x.2)) = p.map id := by
    refine List.map_congr_left fun x hx => ?_
    have := h x hx
    obtain ⟨a, b⟩ := x
    simp only [Function.comp, id]
    simp only at this
    congr 1
    repeat' split
    all_goals omega
  rw [this, List.map_id]
/-- two lists without repetition that hold the same are as long -/
theorem len_same {α : Type} [DecidableEq α] {l m : List α} (hl : l.Nodup) (hm : m.Nodup) (h : ∀ x, x ∈ l ↔ x ∈ m) : l.length = m.length :=
  Nat.le_antisymm (len_sub hl fun x hx => (h x).1 hx) (len_sub hm fun x hx => (h x).2 hx)
theorem ask_hid {f : Nat → Nat → Bool} {nL nR : Nat} {H : Int} {i : Nat} (hi : i < nL) : lef (All f nL nR H) i (-1) = (All (skp f i) (nL - 1) nR (H - 1)).length := by
  unfold lef
  rw [List.countP_eq_length_filter]
  rw [show (All (skp f i) (nL - 1) nR (H - 1)).length = ((All (skp f i) (nL - 1) nR (H - 1)).map (upp i)).length by rw [List.length_map]]
  refine len_same ((All_nodup _ _ _ _).filter _) (nodup_map (fun a b h => by rw [← dnp_upp i a, h, dnp_upp]) (All_nodup _ _ _ _)) fun p => ?_
  rw [List.mem_filter, List.mem_map, decide_eq_true_eq, par_none, mem_All_way]
  constructor
  · rintro ⟨⟨h1, h2, h3⟩, h4⟩
    refine ⟨dnp i p, ?_, upp_dnp h4⟩
    rw [mem_All_way]
    refine ⟨?_, ?_, ?_⟩
    · unfold dnp
      rw [List.pairwise_map]
      refine List.Pairwise.imp_of_mem (fun {a b} ha hb h => ?_) h1
      have := h4 a ha
      have := h4 b hb
      simp only
      refine ⟨?_, h.2⟩
      split <;> split <;> omega
    · intro x hx
      unfold dnp at hx
      obtain ⟨y, hy, rfl⟩ := List.mem_map.1 hx
      have h5 := h2 y hy
      have h6 := h4 y hy
      refine ⟨?_, h5.2.1, ?_⟩
      · show (if y.1 < i then y.1 else y.1 - 1) < nL - 1
        split <;> omega
      · show f (if (if y.1 < i then y.1 else y.1 - 1) < i then (if y.1 < i then y.1 else y.1 - 1) else (if y.1 < i then y.1 else y.1 - 1) + 1) y.2 = true
        have : (if (if y.1 < i then y.1 else y.1 - 1) < i then (if y.1 < i then y.1 else y.1 - 1) else (if y.1 < i then y.1 else y.1 - 1) + 1) = y.1 := by
          repeat' split
          all_goals omega
        rw [this]
        exact h5.2.2
    · unfold dnp
      rw [List.length_map]
      omega
  · rintro ⟨q, hq, rfl⟩
    obtain ⟨h1, h2, h3⟩ := mem_All_way.1 hq
    refine ⟨⟨?_, ?_, ?_⟩, ?_⟩
    · unfold upp
      rw [List.pairwise_map]
      refine h1.imp fun h => ?_
      simp only
      refine ⟨?_, h.2⟩
      split <;> split <;> omega
    · intro x hx
      unfold upp at hx
      obtain ⟨y, hy, rfl⟩ := List.mem_map.1 hx
      have h5 := h2 y hy
      refine ⟨?_, h5.2.1, h5.2.2⟩
      show (if y.1 < i then y.1 else y.1 + 1) < nL
      split <;> omega
    · unfold upp
      rw [List.length_map]
      omega
    · intro x hx
      unfold upp at hx
      obtain ⟨y, hy, rfl⟩ := List.mem_map.1 hx
      simp only
      split <;> omega
/-- how many marks a list of pairs hides -/
def hdn (nL nR : Nat) (p : List (Nat × Nat)) : Int := (nL : Int) + nR - 2 * p.length
def shp (i k : Nat) (p : List (Nat × Nat)) : List (Nat × Nat) := p.map fun x => (x.1 + (i + 1), x.2 + (k + 1))
def bhd (f : Nat → Nat → Bool) (i k : Nat) : Nat → Nat → Bool := fun a b => f (a + (i + 1)) (b + (k + 1))
def prt (f : Nat → Nat → Bool) (nL nR : Nat) (H : Int) (i k : Nat) : List (List (Nat × Nat)) :=
  (All f i k H).flatMap fun p => (All (bhd f i k) (nL - (i + 1)) (nR - (k + 1)) (H - hdn i k p)).map fun q => p ++ (i, k) :: shp i k q
theorem shp_inj {i k : Nat} {p q : List (Nat × Nat)} (h : shp i k p = shp i k q) : p = q := by
  have e : ∀ p : List (Nat × Nat), (shp i k p).map (fun x => (x.1 - (i + 1), x.2 - (k + 1))) = p := by
    intro p
    unfold shp
    rw [List.map_map]
    have : p.map ((fun x : Nat × Nat => (x.1 - (i + 1), x.2 - (k + 1))) ∘ fun x => (x.1 + (i + 1), x.2 + (k + 1))) = p.map id := by
      refine List.map_congr_left fun x _ => ?_
      simp
    rw [this, List.map_id]
  rw [← e p, h, e]
/-- what stands before a pair: the pairs of lesser left marks -/
theorem before_of {i k : Nat} {p q : List (Nat × Nat)} (hp : ∀ x ∈ p, x.1 < i) (hq : ∀ x ∈ q, i < x.1) : (p ++ (i, k) :: q).filter (fun x => decide (x.1 < i)) = p ∧ (p ++ (i, k) :: q).filter (fun x => decide (i < x.1)) = q := by
  rw [List.filter_append, List.filter_append, List.filter_cons_of_neg (by simp), List.filter_cons_of_neg (by simp), List.filter_eq_self.2 (fun x hx => decide_eq_true (hp x hx)), List.filter_eq_self.2 (fun x hx => decide_eq_true (hq x hx)),
    List.filter_eq_nil_iff.2 (fun x hx => by have := hq x hx; simp; omega), List.filter_eq_nil_iff.2 (fun x hx => by have := hp x hx; simp; omega)]
  simp
theorem nodup_flat {α β : Type} {f : α → List β} : ∀ {l : List α}, l.Nodup → (∀ a ∈ l, (f a).Nodup) → (∀ a ∈ l, ∀ b ∈ l, ∀ x, x ∈ f a → x ∈ f b → a = b) → (l.flatMap f).Nodup
  | [], _, _, _ => by simp
  | a :: l, hn, h1, h2 => by
    have hn' := List.nodup_cons.1 hn
    rw [List.flatMap_cons]
    refine List.pairwise_append.2 ⟨h1 a (by simp), nodup_flat hn'.2 (fun b hb => h1 b (by simp [hb])) (fun b hb c hc x => h2 b (by simp [hb]) c (by simp [hc]) x), fun x hx y hy e => ?_⟩
    obtain ⟨b, hb, hyb⟩ := List.mem_flatMap.1 hy
    have := h2 a (by simp) b (by simp [hb]) x hx (e ▸ hyb)
    exact hn'.1 (this ▸ hb)
theorem ask_pair {f : Nat → Nat → Bool} {nL nR : Nat} {H : Int} {i k : Nat} (hi : i < nL) (hk : k < nR) (hf : f i k = true) : lef (All f nL nR H) i k = (prt f nL nR H i k).length := by
  unfold lef
  rw [List.countP_eq_length_filter]
  have key : ∀ p q : List (Nat × Nat), (∀ x ∈ p, x.1 < i ∧ x.2 < k ∧ f x.1 x.2 = true) → ((p ++ (i, k) :: shp i k q).filter (fun x => decide (x.1 < i)) = p ∧ (p ++ (i, k) :: shp i k q).filter (fun x => decide (i < x.1)) = shp i k q) := fun p q hp =>
    before_of (fun x hx => (hp x hx).1) fun x hx => by
      unfold shp at hx
      obtain ⟨y, -, rfl⟩ := List.mem_map.1 hx
      simp only
      omega
  refine len_same ((All_nodup _ _ _ _).filter _) ?_ fun p => ?_
  · unfold prt
    refine nodup_flat (All_nodup _ _ _ _) (fun p _ => nodup_map (fun a b h => ?_) (All_nodup _ _ _ _)) fun p hp q hq x hx hy => ?_
    · exact shp_inj (List.cons.inj (List.append_cancel_left h)).2
    · obtain ⟨a, -, rfl⟩ := List.mem_map.1 hx
      obtain ⟨b, -, e⟩ := List.mem_map.1 hy
      have h1 := (key p a (mem_All_way.1 hp).2.1).1
      have h2 := (key q b (mem_All_way.1 hq).2.1).1
      rw [e, h1] at h2
      exact h2
  · rw [List.mem_filter, mem_All_way, decide_eq_true_eq]
    unfold prt
    rw [List.mem_flatMap]
    constructor
    · rintro ⟨⟨h1, h2, h3⟩, h4⟩
      have hm := (par_some h1).1 h4
      obtain ⟨a, b, rfl⟩ := List.append_of_mem hm
      have hpw := List.pairwise_append.1 h1
      have hpc := List.pairwise_cons.1 hpw.2.1
      have ha : ∀ x ∈ a, x.1 < i ∧ x.2 < k ∧ f x.1 x.2 = true := fun x hx => by
        have := hpw.2.2 x hx (i, k) (by simp)
        exact ⟨this.1, this.2, (h2 x (by simp [hx])).2.2⟩
      have hb : ∀ x ∈ b, i < x.1 ∧ k < x.2 := fun x hx => hpc.1 x hx
      have eb : shp i k (b.map fun x => (x.1 - (i + 1), x.2 - (k + 1))) = b := by
        unfold shp
        rw [List.map_map]
        have : b.map ((fun x : Nat × Nat => (x.1 + (i + 1), x.2 + (k + 1))) ∘ fun x => (x.1 - (i + 1), x.2 - (k + 1))) = b.map id := by
          refine List.map_congr_left fun x hx => ?_
          have := hb x hx
          obtain ⟨u, v⟩ := x
          simp only [Function.comp, id]
          simp only at this
          rw [show u - (i + 1) + (i + 1) = u by omega, show v - (k + 1) + (k + 1) = v by omega]
        rw [this, List.map_id]
      rw [List.length_append, List.length_cons] at h3
      have lb : 2 * b.length ≤ (nL - (i + 1)) + (nR - (k + 1)) := by
        have hw : b.map (fun x => (x.1 - (i + 1), x.2 - (k + 1))) ∈ rw (bhd f i k) (nR - (k + 1)) (lf 0 (nL - (i + 1))) 0 := by
          refine mem_rw_of (lf_pw _ _) ?_ fun x hx => ?_
          · rw [List.pairwise_map]
            refine List.Pairwise.imp_of_mem (fun {u v} hu hv h => ?_) hpc.2
            have := hb u hu
            have := hb v hv
            simp only
            omega
          · obtain ⟨y, hy, rfl⟩ := List.mem_map.1 hx
            have g1 := hb y hy
            have g2 := h2 y (by simp [hy])
            refine ⟨mem_lf.2 ⟨Nat.zero_le _, ?_⟩, Nat.zero_le _, ?_, ?_⟩
            · simp only; omega
            · simp only; omega
            · show f (y.1 - (i + 1) + (i + 1)) (y.2 - (k + 1) + (k + 1)) = true
              rw [show y.1 - (i + 1) + (i + 1) = y.1 by omega, show y.2 - (k + 1) + (k + 1) = y.2 by omega]
              exact g2.2.2
        have := len_ne (Nat.zero_le _) hw
        rw [List.length_map, lf_len] at this
        omega
      refine ⟨a, mem_All_way.2 ⟨hpw.1, ha, by omega⟩, List.mem_map.2 ⟨b.map fun x => (x.1 - (i + 1), x.2 - (k + 1)), mem_All_way.2 ⟨?_, ?_, ?_⟩, by rw [eb]⟩⟩
      · rw [List.pairwise_map]
        refine List.Pairwise.imp_of_mem (fun {u v} hu hv h => ?_) hpc.2
        have := hb u hu
        have := hb v hv
        simp only
        omega
      · intro x hx
        obtain ⟨y, hy, rfl⟩ := List.mem_map.1 hx
        have g1 := hb y hy
        have g2 := h2 y (by simp [hy])
        refine ⟨?_, ?_, ?_⟩
        · simp only; omega
        · simp only; omega
        · show f (y.1 - (i + 1) + (i + 1)) (y.2 - (k + 1) + (k + 1)) = true
          rw [show y.1 - (i + 1) + (i + 1) = y.1 by omega, show y.2 - (k + 1) + (k + 1) = y.2 by omega]
          exact g2.2.2
      · rw [List.length_map]
        unfold hdn
        omega
    · rintro ⟨a, ha, hp⟩
      obtain ⟨q, hq, rfl⟩ := List.mem_map.1 hp
      obtain ⟨a1, a2, a3⟩ := mem_All_way.1 ha
      obtain ⟨b1, b2, b3⟩ := mem_All_way.1 hq
      have hs : ∀ x ∈ shp i k q, i < x.1 ∧ k < x.2 ∧ x.1 < nL ∧ x.2 < nR ∧ f x.1 x.2 = true := fun x hx => by
        unfold shp at hx
        obtain ⟨y, hy, rfl⟩ := List.mem_map.1 hx
        have := b2 y hy
        simp only
        exact ⟨by omega, by omega, by omega, by omega, this.2.2⟩
      have hw : Way f nL nR H (a ++ (i, k) :: shp i k q) := by
        refine ⟨List.pairwise_append.2 ⟨a1, List.pairwise_cons.2 ⟨fun x hx => ⟨(hs x hx).1, (hs x hx).2.1⟩, ?_⟩, fun x hx y hy => ?_⟩, fun x hx => ?_, ?_⟩
        · unfold shp
          rw [List.pairwise_map]
          refine b1.imp fun h => ?_
          simp only
          omega
        · have g1 := a2 x hx
          rcases List.mem_cons.1 hy with rfl | hy
          · exact ⟨g1.1, g1.2.1⟩
          · have := hs y hy
            omega
        · rcases List.mem_append.1 hx with hx | hx
          · have := a2 x hx
            exact ⟨by omega, by omega, this.2.2⟩
          · rcases List.mem_cons.1 hx with rfl | hx
            · exact ⟨hi, hk, hf⟩
            · have := hs x hx
              exact ⟨this.2.2.1, this.2.2.2.1, this.2.2.2.2⟩
        · rw [List.length_append, List.length_cons]
          unfold shp
          rw [List.length_map]
          unfold hdn at b3
          omega
      exact ⟨hw, (par_some hw.1).2 (by simp)⟩
/-- summed by how much the pairs before hide -/
def cvl (a b : Int → Nat) (H : Int) : Nat → Int
  | 0 => 0
  | n + 1 => cvl a b H n + ((a n : Int) - (if n = 0 then 0 else a ((n : Int) - 1))) * b (H - n)
theorem All_mono_count {f : Nat → Nat → Bool} {nL nR : Nat} {h : Int} : ∀ H : Int, h ≤ H → (All f nL nR h).length = (All f nL nR H).countP fun p => decide (hdn nL nR p ≤ h) := by
  intro H hH
  unfold All
  rw [List.countP_filter, ← List.countP_eq_length_filter]
  refine List.countP_congr fun p _ => ?_
  unfold few hdn
  simp only [Bool.and_eq_true, decide_eq_true_eq]
  omega
theorem sum_by (b : Int → Nat) (g : List (Nat × Nat) → Int) : ∀ (l : List (List (Nat × Nat))) (n : Nat), (∀ p ∈ l, 0 ≤ g p) →
    (l.map fun p => if g p < n then b (g p) else 0).sum = ((List.range n).map fun h : Nat => l.countP (fun p => decide (g p = (h : Int))) * b (h : Int)).sum
  | l, 0, h0 => by
    have : ∀ l : List (List (Nat × Nat)), (∀ p ∈ l, 0 ≤ g p) → (l.map fun p => if g p < (0 : Nat) then b (g p) else 0).sum = 0 := by
      intro l
      induction l with
      | nil => intro _; rfl
      | cons p l ih =>
        intro h
        rw [List.map_cons, List.sum_cons, ih fun q hq => h q (by simp [hq]), if_neg (by have := h p (by simp); omega)]
    rw [this l h0]
    rfl
  | l, n + 1, h0 => by
    have ih := sum_by b g l n h0
    rw [List.range_succ, List.map_append, List.sum_append, ← ih]
    have : ∀ l : List (List (Nat × Nat)), (l.map fun p => if g p < ((n + 1 : Nat) : Int) then b (g p) else 0).sum = (l.map fun p => if g p < (n : Int) then b (g p) else 0).sum + l.countP (fun p => decide (g p = n)) * b n := by
      intro l
      induction l with
      | nil => simp
      | cons p l ih =>
        rw [List.map_cons, List.map_cons, List.sum_cons, List.sum_cons, ih, List.countP_cons]
        by_cases e : g p = n
        · rw [if_pos (by omega), if_neg (by omega), e]
          simp only [decide_true, if_true, Nat.add_mul, Nat.one_mul]
          omega
        · rw [decide_eq_false e]
          simp only [Bool.false_eq_true, if_false, Nat.add_zero]
          by_cases e2 : g p < n
          · rw [if_pos (by omega), if_pos e2]; omega
          · rw [if_neg (by omega), if_neg e2]; omega
    rw [this l]
    simp
theorem prt_len {f : Nat → Nat → Bool} {nL nR : Nat} {H : Nat} {i k : Nat} :
    ((prt f nL nR H i k).length : Int) = cvl (fun h => (All f i k h).length) (fun h => (All (bhd f i k) (nL - (i + 1)) (nR - (k + 1)) h).length) H (H + 1) := by
  have hnn : ∀ p ∈ All f i k H, 0 ≤ hdn i k p := fun p hp => hid_nonneg (mem_All.1 hp).1
  have h1 : (prt f nL nR H i k).length = ((All f i k H).map fun p => if hdn i k p < ((H + 1 : Nat) : Int) then (All (bhd f i k) (nL - (i + 1)) (nR - (k + 1)) ((H : Int) - hdn i k p)).length else 0).sum := by
    unfold prt
    rw [List.length_flatMap]
    congr 1
    refine List.map_congr_left fun p hp => ?_
    rw [List.length_map, if_pos]
    have := (mem_All.1 hp).2
    unfold hdn
    omega
  rw [h1, sum_by (fun h => (All (bhd f i k) (nL - (i + 1)) (nR - (k + 1)) ((H : Int) - h)).length) (hdn i k) (All f i k H) (H + 1) hnn]
  have h2 : ∀ n : Nat, n ≤ H + 1 → ((((List.range n).map fun h : Nat => (All f i k H).countP (fun p => decide (hdn i k p = h)) * (All (bhd f i k) (nL - (i + 1)) (nR - (k + 1)) ((H : Int) - h)).length).sum : Nat) : Int) =
      cvl (fun h => (All f i k h).length) (fun h => (All (bhd f i k) (nL - (i + 1)) (nR - (k + 1)) h).length) H n := by
    intro n
    induction n with
    | zero => intro _; rfl
    | succ n ih =>
      intro hn
      rw [List.range_succ, List.map_append, List.sum_append, Int.natCast_add, ih (by omega)]
      refine congrArg (cvl _ _ _ n + ·) ?_
      simp only [List.map_cons, List.map_nil, List.sum_cons, List.sum_nil, Nat.add_zero, Int.natCast_mul]
      congr 1
      rw [All_mono_count (h := n) H (by omega)]
      have h3 : ∀ l : List (List (Nat × Nat)), (l.countP fun p => decide (hdn i k p ≤ n)) = (l.countP fun p => decide (hdn i k p ≤ (n : Int) - 1)) + l.countP fun p => decide (hdn i k p = n) := by
        intro l
        induction l with
        | nil => rfl
        | cons p l ih =>
          rw [List.countP_cons, List.countP_cons, List.countP_cons, ih]
          by_cases a : hdn i k p = n
          · have b : ¬ hdn i k p ≤ (n : Int) - 1 := by omega
            have c : hdn i k p ≤ (n : Int) := by omega
            simp only [a, b, c, decide_true, decide_false, if_true, if_false, Bool.false_eq_true] at *
            have : decide ((n : Int) ≤ (n : Int) - 1) = false := by simp; omega
            simp [this]
            omega
          · by_cases b : hdn i k p ≤ (n : Int) - 1
            · have c : hdn i k p ≤ (n : Int) := by omega
              simp [a, b, c]
              omega
            · have c : ¬ hdn i k p ≤ (n : Int) := by omega
              simp [a, b, c]
      rw [h3]
      by_cases hn0 : n = 0
      · subst hn0
        rw [if_pos rfl]
        have h4 : ((All f i k H).countP fun p => decide (hdn i k p ≤ ((0 : Nat) : Int) - 1)) = 0 := by
          rw [List.countP_eq_zero]
          intro p hp
          have := hnn p hp
          simp
          omega
        rw [h4]
        omega
      · rw [if_neg hn0, All_mono_count (h := (n : Int) - 1) H (by omega)]
        omega
  exact h2 (H + 1) (Nat.le_refl _)
/-- all that can be found of a mark, together -/
theorem lef_sum {f : Nat → Nat → Bool} {nL nR : Nat} {H : Int} {i : Nat} : ((List.range (nR + 1)).map fun k : Nat => lef (All f nL nR H) i ((k : Int) - 1)).sum = (All f nL nR H).length := by
  have h0 : ∀ l : List (List (Nat × Nat)), (∀ p ∈ l, par p i = -1 ∨ ∃ c : Nat, c < nR ∧ par p i = c) → ((List.range (nR + 1)).map fun k : Nat => lef l i ((k : Int) - 1)).sum = l.length := by
    intro l
    induction l with
    | nil =>
      intro _
      have : ∀ n, ((List.range n).map fun k : Nat => lef [] i ((k : Int) - 1)).sum = 0 := by
        intro n
        induction n with
        | zero => rfl
        | succ n ih => rw [List.range_succ, List.map_append, List.sum_append, ih]; rfl
      exact this _
    | cons p l ih =>
      intro h
      have hp := h p (by simp)
      obtain ⟨d, hd, e⟩ : ∃ d : Nat, d < nR + 1 ∧ par p i = (d : Int) - 1 := by
        rcases hp with hp | ⟨c, hc, hp⟩
        · exact ⟨0, by omega, by rw [hp]; rfl⟩
        · exact ⟨c + 1, by omega, by rw [hp]; omega⟩
      have h1 : ∀ n, ((List.range n).map fun k : Nat => lef (p :: l) i ((k : Int) - 1)).sum = ((List.range n).map fun k : Nat => lef l i ((k : Int) - 1)).sum + if d < n then 1 else 0 := by
        intro n
        induction n with
        | zero => simp
        | succ n ih2 =>
          rw [List.range_succ, List.map_append, List.map_append, List.sum_append, List.sum_append, ih2]
          have h2 : lef (p :: l) i ((n : Int) - 1) = lef l i ((n : Int) - 1) + if n = d then 1 else 0 := by
            unfold lef
            rw [List.countP_cons, e]
            congr 1
            by_cases h3 : n = d
            · subst h3; simp
            · have : ((d : Int) - 1 = (n : Int) - 1) = False := eq_false (by omega)
              simp [this, h3]
          simp only [List.map_cons, List.map_nil, List.sum_cons, List.sum_nil, Nat.add_zero]
          rw [h2]
          by_cases a : d < n
          · rw [if_pos a, if_neg (show ¬ n = d by omega), if_pos (show d < n + 1 by omega)]; omega
          · by_cases b : n = d
            · rw [if_neg a, if_pos b, if_pos (show d < n + 1 by omega)]; omega
            · rw [if_neg a, if_neg b, if_neg (show ¬ d < n + 1 by omega)]; omega
      rw [h1, if_pos hd, ih fun q hq => h q (by simp [hq]), List.length_cons]
  refine h0 _ fun p hp => ?_
  by_cases hn : par p i = -1
  · exact .inl hn
  · obtain ⟨c, hc⟩ := par_nat hn
    exact .inr ⟨c, (All_fit hp ((par_some (All_one hp)).1 hc)).2.1, hc⟩
/-- the first mark with the least number is one, and none is better -/
theorem fstMin_spec (f : Nat → Nat) (top : Nat) : ∀ n, ((fstMin f top n).2 = top ∧ ∀ i, i < n → top ≤ f i) ∨ ((fstMin f top n).1 < n ∧ f (fstMin f top n).1 = (fstMin f top n).2 ∧ (∀ i, i < n → (fstMin f top n).2 ≤ f i) ∧ ∀ i, i < (fstMin f top n).1 → (fstMin f top n).2 < f i)
  | 0 => .inl ⟨rfl, fun i h => absurd h (by omega)⟩
  | n + 1 => by
    rw [fstMin_succ]
    rcases fstMin_spec f top n with ⟨h1, h2⟩ | ⟨h1, h2, h3, h4⟩
    · by_cases hc : f n < (fstMin f top n).2
      · rw [if_pos hc]
        right
        refine ⟨Nat.lt_succ_self _, rfl, fun i hi => ?_, fun i hi => ?_⟩
        · by_cases e : i = n
          · rw [e]; exact Nat.le_refl _
          · have := h2 i (by omega)
            simp only; omega
        · have := h2 i hi
          simp only; omega
      · rw [if_neg hc]
        left
        refine ⟨h1, fun i hi => ?_⟩
        by_cases e : i = n
        · rw [e]; omega
        · exact h2 i (by omega)
    · by_cases hc : f n < (fstMin f top n).2
      · rw [if_pos hc]
        right
        refine ⟨Nat.lt_succ_self _, rfl, fun i hi => ?_, fun i hi => ?_⟩
        · by_cases e : i = n
          · rw [e]; exact Nat.le_refl _
          · have := h3 i (by omega)
            simp only; omega
        · have := h3 i hi
          simp only; omega
      · rw [if_neg hc]
        right
        refine ⟨by omega, h2, fun i hi => ?_, h4⟩
        by_cases e : i = n
        · rw [e]; omega
        · exact h3 i (by omega)
end Go.Proofs.Ytjlaoiimbhlafaa
namespace Go.Proofs.Ytjlaoiimbhlafaa
open MW
/-! MatchTrue: what a true way says of what is told. -/
section
variable {r : Rr} {P : List (Nat × Nat)}
theorem Rr.way_all0 (h : r.ok = true) (hP : P ∈ r.ways) : r.lkd.all0 ≠ 0 := by
  rw [Rr.all0_is h]
  intro e
  rw [List.length_eq_zero_iff.1 e] at hP
  cases hP
theorem Rr.way_ne (hP : P ∈ r.ways) : r.ways ≠ [] := fun e => by rw [e] at hP; cases hP
theorem Rr.tr_few (h : r.ok = true) (hP : P ∈ r.ways) : (r.lkd.few : Int) ≤ (r.L.length : Int) + r.R.length - 2 * P.length := by
  have h1 := (Rr.few_is h (Rr.way_ne hP)).1
  have h2 := (Rr.best_fst (Rr.way_ne hP)).max P hP
  omega
theorem Rr.tr_ptn (h : r.ok = true) (hP : P ∈ r.ways) {i k : Nat} (hm : (i, k) ∈ P) : (r.lkd.ptn i).testBit k = true := by
  rw [Rr.ptn_bit h (Rr.way_fit hP hm).1, List.any_eq_true]
  exact ⟨P, hP, decide_eq_true hm⟩
theorem Rr.tr_sh (h : r.ok = true) (hP : P ∈ r.ways) {i k : Nat} (hm : (i, k) ∈ P) {s : Int} (h1 : (r.shv i k).1 ≤ s) (h2 : s ≤ (r.shv i k).2) : (r.shE i).s = true ∧ (r.shE i).a ≤ s ∧ s ≤ (r.shE i).b := by
  have hf := Rr.way_fit hP hm
  rw [Rr.shE_tks h hf.1]
  have hk : r.shv i k ∈ (wts r.R.length fun j => (r.lkd.ptn i).testBit j).map (r.shv i) := by
    refine List.mem_map.2 ⟨k, ?_, rfl⟩
    unfold wts
    rw [List.mem_filter, List.mem_range]
    exact ⟨hf.2.1, Rr.tr_ptn h hP hm⟩
  obtain ⟨q, hq, tq⟩ := tks_some (List.ne_nil_of_mem hk)
  rw [hq]
  have g1 := tq.los _ hk
  have g2 := tq.his _ hk
  exact ⟨rfl, by show q.1 ≤ s; omega, by show s ≤ q.2; omega⟩
theorem Rr.tr_hdL (h : r.ok = true) (hP : P ∈ r.ways) {i : Nat} (hi : i < r.L.length) (hn : ∀ x ∈ P, x.1 ≠ i) : r.hdL.testBit i = true := by
  rw [Rr.hdL_bit h, decide_eq_true hi, Bool.true_and, List.any_eq_true]
  exact ⟨P, hP, decide_eq_true hn⟩
theorem Rr.tr_hdR (h : r.ok = true) (hP : P ∈ r.ways) {k : Nat} (hk : k < r.R.length) (hn : ∀ x ∈ P, x.2 ≠ k) : r.hdR.testBit k = true := by
  rw [Rr.hdR_bit h, decide_eq_true hk, Bool.true_and, List.any_eq_true]
  exact ⟨P, hP, decide_eq_true hn⟩
theorem Rr.tr_sur (h : r.ok = true) (hP : P ∈ r.ways) {i : Nat} (hi : i < r.L.length) : r.lkd.surTo i r.lkd.nR = -1 ∨ r.lkd.surTo i r.lkd.nR = par P i := by
  obtain ⟨b, l, hl⟩ := Rr.ways_ne h (Rr.way_all0 h hP)
  rw [Rr.sur_is h hi hl]
  unfold sur
  split
  · next ha =>
    right
    rw [List.all_eq_true] at ha
    have := ha P (by rw [← hl]; exact hP)
    rw [beq_iff_eq] at this
    exact this.symm
  · exact .inl rfl
end
end Go.Proofs.Ytjlaoiimbhlafaa
