import Derived.Test.YtjlaoiimbhlafaaL1
set_option linter.unusedVariables false
set_option linter.unusedSimpArgs false
namespace Go.Proofs.Ytjlaoiimbhlafaa
open Go.RowKit Go.Shelf

open MW
/-- Rows with other marks, the shift as it was. -/
def Rr.sub (r : Rr) (L : List Mrk) (lp : Option Addr) (lc : Nat) (R : List Mrk) (rp : Option Addr) (rc : Nat) (h : Int) : Rr := ⟨L, lp, lc, R, rp, rc, r.s, r.t, h⟩
theorem Rr.sub_ok {r : Rr} (hok : r.ok = true) {L R : List Mrk} {lp rp : Option Addr} {lc rc : Nat} {h : Int} (h1 : ∀ m ∈ L, m ∈ r.L) (h2 : L.length ≤ 10) (h3 : ∀ m ∈ R, m ∈ r.R) (h4 : R.length ≤ 10) (h5 : 0 ≤ h) (h6 : h ≤ 20) : (r.sub L lp lc R rp rc h).ok = true := by
  obtain ⟨-, -, p3, p4, ⟨p5, p6, p7⟩, -⟩ := Rr.ok_parts hok
  unfold Rr.ok Rr.sub okRow okS
  simp only [Bool.and_eq_true, decide_eq_true_eq, List.all_eq_true]
  exact ⟨⟨⟨⟨⟨h2, fun m hm => p3 m (h1 m hm)⟩, h4, fun m hm => p4 m (h3 m hm)⟩, p5, p6, p7⟩, h5⟩, h6⟩
theorem less_at {α : Type} (l : List α) (i : Nat) (hi : i < l.length) (j : Nat) : (l.take i ++ l.drop (i + 1))[j]? = l[if j < i then j else j + 1]? := by
  have ht : (l.take i).length = i := by simp; omega
  by_cases h : j < i
  · rw [if_pos h, List.getElem?_append_left (by omega), List.getElem?_take, if_pos h]
  · rw [if_neg h, List.getElem?_append_right (by omega), List.getElem?_drop, ht]
    congr 1
    omega
theorem Rr.less_fit {r : Rr} {i : Nat} (hi : i < r.L.length) (lp : Option Addr) (lc : Nat) (rp : Option Addr) (rc : Nat) (h : Int) (j k : Nat) :
    (r.sub (r.L.take i ++ r.L.drop (i + 1)) lp lc r.R rp rc h).fitm j k = skp r.fitm i j k := by
  unfold skp Rr.fitm Rr.sub
  simp only
  rw [less_at r.L i hi j]
  rfl
theorem Rr.before_fit {r : Rr} {i k : Nat} (lp : Option Addr) (lc : Nat) (rp : Option Addr) (rc : Nat) (h : Int) {a b : Nat} (ha : a < i) (hb : b < k) :
    (r.sub (r.L.take i) lp lc (r.R.take k) rp rc h).fitm a b = r.fitm a b := by
  unfold Rr.fitm Rr.sub
  simp only
  rw [List.getElem?_take, if_pos ha, List.getElem?_take, if_pos hb]
  rfl
theorem Rr.behind_fit {r : Rr} {i k : Nat} (lp : Option Addr) (lc : Nat) (rp : Option Addr) (rc : Nat) (h : Int) (a b : Nat) :
    (r.sub (r.L.drop (i + 1)) lp lc (r.R.drop (k + 1)) rp rc h).fitm a b = bhd r.fitm i k a b := by
  unfold bhd Rr.fitm Rr.sub
  simp only
  rw [List.getElem?_drop, List.getElem?_drop, Nat.add_comm (i + 1) a, Nat.add_comm (k + 1) b]
  rfl
theorem Rr.cnt_less {r : Rr} (hok : r.ok = true) {i : Nat} (hi : i < r.L.length) (lp : Option Addr) (lc : Nat) (rp : Option Addr) (rc : Nat) (h1 : 1 ≤ r.h) :
    (r.sub (r.L.take i ++ r.L.drop (i + 1)) lp lc r.R rp rc (r.h - 1)).ok = true ∧ (r.sub (r.L.take i ++ r.L.drop (i + 1)) lp lc r.R rp rc (r.h - 1)).lkd.all0 = lef r.ways i (-1) := by
  obtain ⟨b1, b2, -, -, -, b6, b7⟩ := Rr.ok_parts hok
  have hlen : (r.L.take i ++ r.L.drop (i + 1)).length = r.L.length - 1 := by simp; omega
  have ho : (r.sub (r.L.take i ++ r.L.drop (i + 1)) lp lc r.R rp rc (r.h - 1)).ok = true := Rr.sub_ok hok (fun m hm => by
    rcases List.mem_append.1 hm with h | h
    · exact List.mem_of_mem_take h
    · exact List.mem_of_mem_drop h) (by omega) (fun m hm => hm) b2 (by omega) (by omega)
  refine ⟨ho, ?_⟩
  rw [Rr.all0_is ho]
  unfold Rr.ways
  rw [ask_hid hi]
  show (All _ (r.L.take i ++ r.L.drop (i + 1)).length r.R.length (r.h - 1)).length = _
  rw [hlen]
  exact All_congr fun j k _ _ => Rr.less_fit hi lp lc rp rc (r.h - 1) j k
theorem Rr.lef_hid0 {r : Rr} (hok : r.ok = true) {i : Nat} (hi : i < r.L.length) (h0 : r.h = 0) : lef r.ways i (-1) = 0 := by
  unfold Rr.ways
  rw [ask_hid hi, h0]
  refine List.length_eq_zero_iff.2 (List.eq_nil_iff_forall_not_mem.2 fun p hp => ?_)
  obtain ⟨h1, h2⟩ := mem_All.1 hp
  have := hid_nonneg h1
  omega
theorem Rr.lef_unfit {r : Rr} {i k : Nat} (hf : r.fitm i k = false) : lef r.ways i k = 0 := by
  unfold lef
  rw [List.countP_eq_zero]
  intro p hp
  simp only [decide_eq_true_eq]
  intro h
  have hw := mem_All_way.1 hp
  have := (hw.2.1 (i, k) ((par_some hw.1).1 h)).2.2
  rw [hf] at this
  cases this
theorem Rr.cnt_before {r : Rr} (hok : r.ok = true) {i k : Nat} (hi : i ≤ r.L.length) (hk : k ≤ r.R.length) (lp : Option Addr) (lc : Nat) (rp : Option Addr) (rc : Nat) {n : Int} (h1 : 0 ≤ n) (h2 : n ≤ 20) :
    (r.sub (r.L.take i) lp lc (r.R.take k) rp rc n).ok = true ∧ (r.sub (r.L.take i) lp lc (r.R.take k) rp rc n).lkd.all0 = (All r.fitm i k n).length := by
  obtain ⟨b1, b2, -⟩ := Rr.ok_parts hok
  have hl1 : (r.L.take i).length = i := by simp; omega
  have hl2 : (r.R.take k).length = k := by simp; omega
  have ho : (r.sub (r.L.take i) lp lc (r.R.take k) rp rc n).ok = true := Rr.sub_ok hok (fun m hm => List.mem_of_mem_take hm) (by omega) (fun m hm => List.mem_of_mem_take hm) (by omega) h1 h2
  refine ⟨ho, ?_⟩
  rw [Rr.all0_is ho]
  show (All _ (r.L.take i).length (r.R.take k).length n).length = _
  rw [hl1, hl2]
  exact All_congr fun a b ha hb => Rr.before_fit lp lc rp rc n ha hb
theorem Rr.cnt_behind {r : Rr} (hok : r.ok = true) {i k : Nat} (lp : Option Addr) (lc : Nat) (rp : Option Addr) (rc : Nat) {n : Int} (h1 : 0 ≤ n) (h2 : n ≤ 20) :
    (r.sub (r.L.drop (i + 1)) lp lc (r.R.drop (k + 1)) rp rc n).ok = true ∧ (r.sub (r.L.drop (i + 1)) lp lc (r.R.drop (k + 1)) rp rc n).lkd.all0 = (All (bhd r.fitm i k) (r.L.length - (i + 1)) (r.R.length - (k + 1)) n).length := by
  obtain ⟨b1, b2, -⟩ := Rr.ok_parts hok
  have ho : (r.sub (r.L.drop (i + 1)) lp lc (r.R.drop (k + 1)) rp rc n).ok = true := Rr.sub_ok hok (fun m hm => List.mem_of_mem_drop hm) (by simp; omega) (fun m hm => List.mem_of_mem_drop hm) (by simp; omega) h1 h2
  refine ⟨ho, ?_⟩
  rw [Rr.all0_is ho]
  show (All _ (r.L.drop (i + 1)).length (r.R.drop (k + 1)).length n).length = _
  rw [List.length_drop, List.length_drop]
  exact All_congr fun a b _ _ => Rr.behind_fit lp lc rp rc n a b
/-- the numbers of the parts before, and behind -/
def Rr.nA (r : Rr) (i k : Nat) (n : Int) : Nat := (All r.fitm i k n).length
def Rr.nB (r : Rr) (i k : Nat) (n : Int) : Nat := (All (bhd r.fitm i k) (r.L.length - (i + 1)) (r.R.length - (k + 1)) n).length
theorem Rr.own_is {r : Rr} {i k H : Nat} (hh : r.h = H) (hi : i < r.L.length) (hk : k < r.R.length) (hf : r.fitm i k = true) : (lef r.ways i k : Int) = cvl (r.nA i k) (r.nB i k) r.h (H + 1) := by
  unfold Rr.ways
  rw [ask_pair hi hk hf, hh]
  exact prt_len
theorem Rr.nA_le (r : Rr) (i k : Nat) {n m : Int} (h : n ≤ m) : r.nA i k n ≤ r.nA i k m := by
  unfold Rr.nA
  rw [All_mono_count m h]
  exact List.countP_le_length
theorem cvl_up {a b : Int → Nat} (ha : ∀ n m : Int, n ≤ m → a n ≤ a m) (H : Int) (n : Nat) : cvl a b H n ≤ cvl a b H (n + 1) := by
  show _ ≤ cvl a b H n + ((a n : Int) - ((if n = 0 then 0 else a ((n : Int) - 1) : Nat) : Int)) * b (H - n)
  have h1 : (0 : Int) ≤ (a n : Int) - ((if n = 0 then 0 else a ((n : Int) - 1) : Nat) : Int) := by
    split
    · omega
    · have := ha ((n : Int) - 1) n (by omega)
      omega
  have := Int.mul_nonneg h1 (Int.natCast_nonneg (b (H - n)))
  omega
theorem cvl_mono {a b : Int → Nat} (ha : ∀ n m : Int, n ≤ m → a n ≤ a m) (H : Int) {n m : Nat} (h : n ≤ m) : cvl a b H n ≤ cvl a b H m := by
  induction h with
  | refl => exact Int.le_refl _
  | step _ ih => exact Int.le_trans ih (cvl_up ha H _)
theorem cvl_nonneg {a b : Int → Nat} (ha : ∀ n m : Int, n ≤ m → a n ≤ a m) (H : Int) (n : Nat) : 0 ≤ cvl a b H n := cvl_mono (n := 0) ha H (Nat.zero_le n)

end Go.Proofs.Ytjlaoiimbhlafaa
