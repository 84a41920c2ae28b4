import Derived.Test.YtofdoadpaedogaaT27
import Derived.Test.YtofdoadpaedogaaT25
import Derived.Test.YtofdoadpaedogaaT26
import Derived.Test.YtofdoadpaedogaaT18
import Derived.RangeFuncLeaves
namespace Go.Proofs.Ytofdoadpaedogaa
open Go.RowKit Go.Shelf


/-- A pair. -/
structure Pr where
  fl : Int
  fh : Int
  bl : Int
  bh : Int
  ti : Int
  ne : Int
  fa : Int
  l : List Th
def Pr.val (p : Pr) (v : Value) : Value := .agg #[.int .i64 p.fl, .int .i64 p.fh, .int .i64 p.bl, .int .i64 p.bh, .int .i64 p.ti, .int .i64 p.ne, .int .i64 p.fa, v]
def Pr.ok (p : Pr) : Bool := valid p.fl p.fh p.bl p.bh p.ti p.ne p.fa p.l
def Pr.seen (p : Pr) : List Sg := seenOf p.ti p.ne p.fa p.l
def Pr.pw (p : Pr) : Int × Int := allPw p.fl p.fh p.bl p.bh p.ti p.ne p.fa p.l
def Pr.at (p : Pr) (k : Int) : Option Sg := if 0 ≤ k then p.seen[k.toNat]? else none
theorem Pr.at_some {p : Pr} {k : Int} {s : Sg} (h : p.at k = some s) : ∃ n : Nat, k = n ∧ p.seen[n]? = some s := by
  unfold Pr.at at h
  by_cases hk : 0 ≤ k
  · rw [if_pos hk] at h; exact ⟨k.toNat, by omega, h⟩
  · rw [if_neg hk] at h; cases h
theorem Pr.at_none {p : Pr} {k : Int} (h : p.at k = none) : k < 0 ∨ (p.seen.length : Int) ≤ k := by
  unfold Pr.at at h
  by_cases hk : 0 ≤ k
  · rw [if_pos hk] at h
    have := List.getElem?_eq_none_iff.1 h
    omega
  · omega
theorem ovl_foldl (l : List (Int × Int)) : ∀ a : Int × Int, a.1 ≤ (l.foldl ovl a).1 ∧ (l.foldl ovl a).2 ≤ a.2 := by
  induction l with
  | nil => intro a; exact ⟨Int.le_refl _, Int.le_refl _⟩
  | cons x l ih =>
    intro a
    have h := ih (ovl a x)
    have h1 : a.1 ≤ (ovl a x).1 := by unfold ovl; simp only; split <;> omega
    have h2 : (ovl a x).2 ≤ a.2 := by unfold ovl; simp only; split <;> omega
    simp only [List.foldl_cons]
    omega
theorem Pr.bounds {p : Pr} (h : p.ok = true) : Bounds p.fl p.fh p.bl p.bh p.ti p.ne p.fa p.l := Bounds.of h
theorem mul_in {a b m n : Int} (h0 : 1 ≤ a) (h1 : a ≤ m) (h2 : 1 ≤ b) (h3 : b ≤ n) : 1 ≤ a * b ∧ a * b ≤ m * n := by
  constructor
  · have := Int.mul_le_mul h0 h2 (by omega) (by omega); omega
  · exact Int.mul_le_mul h1 h3 (by omega) (by omega)
theorem Pr.pw_in {p : Pr} (h : p.ok = true) : 1 ≤ p.pw.1 ∧ p.pw.2 ≤ 500000000 := by
  have hb := p.bounds h
  have h1 := ovl_foldl ((pickTo (seenOf p.ti p.ne p.fa p.l) (marksTo p.l p.l.length) p.l.length).map Sg.spw) (p.fl * p.bl, p.fh * p.bh)
  have h2 := mul_in hb.fl1 (Int.le_refl _) hb.bl1 (Int.le_refl _)
  have h3 := mul_in (a := p.fh) (b := p.bh) (by have := hb.fl1; have := hb.fh1; omega) hb.fh2 (by have := hb.bl1; have := hb.bh1; omega) hb.bh2
  unfold Pr.pw allPw
  simp only at h1
  omega
theorem Pr.see_ok {p : Pr} (h : p.ok = true) : ∀ s ∈ p.seen, s.ok := by
  intro s hs
  unfold Pr.seen seenOf at hs
  obtain ⟨t, ht, rfl⟩ := List.mem_map.1 hs
  exact (p.bounds h).see ht
theorem Pr.len {p : Pr} (h : p.ok = true) : p.seen.length ≤ 12 := by
  have := (p.bounds h).len
  unfold Pr.seen seenOf
  simpa using this
theorem Sg.why_zero {s : Sg} {plo phi : Int} (h : s.why plo phi = 0) : s.sl = false ∧ 0 ≤ s.hi ∧ s.lo ≤ 2000 ∧ s.pw.1 ≤ phi ∧ plo ≤ s.pw.2 := by
  unfold Sg.why at h
  split at h
  · cases h
  · rename_i h0
    split at h
    · cases h
    · rename_i h1
      split at h
      · cases h
      · rename_i h2
        split at h
        · cases h
        · rename_i h3
          simp [Sg.reason, Sg.tooNear] at h0 h1 h2 h3
          exact ⟨h0, h1, h2.1, h2.2, h3⟩

def Pr.shift (p : Pr) (k : Int) : Int × Int × Int := if p.ok then match p.at k with | some s => (s.lo, s.hi, 0) | none => (0, 0, 2) else (0, 0, 1)
def Pr.nearer (p : Pr) (a b : Int) : Int × Int := if p.ok then match p.at a, p.at b with | some s, some t => (nearOf s t, 0) | _, _ => (0, 2) else (0, 1)
def Pr.power (p : Pr) : Int × Int × Int := if p.ok then if p.pw.1 ≤ p.pw.2 then (p.pw.1, p.pw.2, 0) else (0, 0, 4) else (0, 0, 1)
def Pr.stands (p : Pr) (z : Int) : Int × Int × Int := if p.ok then if p.ne ≤ z ∧ z ≤ p.fa then if p.pw.1 ≤ p.pw.2 then (p.pw.1 / z, p.pw.2 / z, 0) else (0, 0, 4) else (0, 0, 2) else (0, 0, 1)
def Pr.why (p : Pr) (k : Int) : Int × Int := if p.ok then match p.at k with | some s => if p.pw.1 ≤ p.pw.2 then (s.why p.pw.1 p.pw.2, 0) else (0, 4) | none => (0, 2) else (0, 1)
def Pr.distance (p : Pr) (k : Int) : Int × Int × Int :=
  if p.ok then match p.at k with
    | some s => if p.pw.1 ≤ p.pw.2 then if s.why p.pw.1 p.pw.2 = 0 then ((s.dists p.pw.1 p.pw.2).1, (s.dists p.pw.1 p.pw.2).2, 0) else (0, 0, 11) else (0, 0, 4)
    | none => (0, 0, 2)
  else (0, 0, 1)
def Pr.fewest (p : Pr) : Int × Int × Int × Int :=
  if p.ok then if p.pw.1 ≤ p.pw.2 then ((Best.of p.seen (triesList p.pw.1 p.pw.2 p.seen)).moved, (Best.of p.seen (triesList p.pw.1 p.pw.2 p.seen)).lo, (Best.of p.seen (triesList p.pw.1 p.pw.2 p.seen)).hi, 0) else (0, 0, 0, 4) else (0, 0, 0, 1)
theorem calls_same {f : FuncId} {args : Array Value} {w : World} {v v' : Value} (h : Calls Try.prog f args w fun e w' => e = .returned v ∧ Below w.heap.size w w') (e : v = v') : Calls Try.prog f args w fun e w' => e = .returned v' ∧ Below w.heap.size w w' := by rw [← e]; exact h
set_option maxHeartbeats 800000 in
theorem Shift_spec (p : Pr) (v : Value) (k : Int) (w : World) (h : ThingsAt p.l v w) :
    Calls Try.prog 13 #[p.val v, .int .i64 k] w fun e w' => e = .returned (.tuple #[.agg #[.int .i64 (p.shift k).1, .int .i64 (p.shift k).2.1], .int .i64 (p.shift k).2.2]) ∧ Below w.heap.size w w' := by
  obtain ⟨vp, vc, rfl, -⟩ := h.len
  by_cases hv : p.ok = true
  · have hpw := p.pw_in hv
    have hse := p.see_ok hv
    have hln := p.len hv
    have hbd := p.bounds hv
    have hv' : valid p.fl p.fh p.bl p.bh p.ti p.ne p.fa p.l = true := hv
    cases hk : p.at k with
    | none =>
      have hk' := Pr.at_none hk
      exact calls_same (Shift_walk _ _ _ _ _ _ _ _ _ _ _ _ _ 2 w (fun W q hg hq hql => ans41_pan 42 #[.pointer (some ⟨q, 0, none⟩)] 2 p.fl p.fh p.bl p.bh p.ti p.ne p.fa (.slice vp p.l.length vc) p.l W (ThingsAt.lasts _ _ _ _ h hg) hv' (enters_of Try.func42 (by kernel_rfl) rfl) (fun sv W' hg' hs => shift1_no p.fl p.fh p.bl p.bh p.ti p.ne p.fa (.slice vp p.l.length vc) sv p.pw.1 p.pw.2 p.seen k q W' hs hk' (((bcell hg').1 _ _ hql).trans hq) (Nat.lt_of_lt_of_le hql hg'.size)))) (by unfold Pr.shift; simp [hv, hk])
    | some s =>
      obtain ⟨n, rfl, hn⟩ := Pr.at_some hk
      exact calls_same (Shift_walk _ _ _ _ _ _ _ _ _ _ _ _ _ 0 w (fun W q hg hq hql => ans41_ret 42 #[.pointer (some ⟨q, 0, none⟩)] s.lo s.hi p.fl p.fh p.bl p.bh p.ti p.ne p.fa (.slice vp p.l.length vc) p.l W (ThingsAt.lasts _ _ _ _ h hg) hv' (enters_of Try.func42 (by kernel_rfl) rfl) (fun sv W' hg' hs => shift1_ok p.fl p.fh p.bl p.bh p.ti p.ne p.fa (.slice vp p.l.length vc) sv p.pw.1 p.pw.2 p.seen n s q W' hs hn (((bcell hg').1 _ _ hql).trans hq) (Nat.lt_of_lt_of_le hql hg'.size)))) (by unfold Pr.shift; simp [hv, hk])
  · have hv' : valid p.fl p.fh p.bl p.bh p.ti p.ne p.fa p.l = false := by simpa [Pr.ok] using hv
    exact calls_same (Shift_walk _ _ _ _ _ _ _ _ _ _ _ _ _ 1 w (fun W q hg hq hql => ans41_arg 42 #[.pointer (some ⟨q, 0, none⟩)] p.fl p.fh p.bl p.bh p.ti p.ne p.fa (.slice vp p.l.length vc) p.l W (ThingsAt.lasts _ _ _ _ h hg) hv')) (by unfold Pr.shift; simp [hv])
set_option maxHeartbeats 800000 in
theorem Stands_spec (p : Pr) (v : Value) (z : Int) (w : World) (h : ThingsAt p.l v w) :
    Calls Try.prog 19 #[p.val v, .int .i64 z] w fun e w' => e = .returned (.tuple #[.agg #[.int .i64 (p.stands z).1, .int .i64 (p.stands z).2.1], .int .i64 (p.stands z).2.2]) ∧ Below w.heap.size w w' := by
  obtain ⟨vp, vc, rfl, -⟩ := h.len
  by_cases hv : p.ok = true
  · have hpw := p.pw_in hv
    have hse := p.see_ok hv
    have hln := p.len hv
    have hbd := p.bounds hv
    have hv' : valid p.fl p.fh p.bl p.bh p.ti p.ne p.fa p.l = true := hv
    by_cases hz : p.ne ≤ z ∧ z ≤ p.fa
    · have hin : (decide (p.ne ≤ z) && decide (z ≤ p.fa)) = true := by simp [hz]
      have hz0 : 0 < z := by have := hbd.ne0; omega
      by_cases hp : p.pw.1 ≤ p.pw.2
      · exact calls_same (Stands_walk _ _ _ _ _ _ _ _ _ _ _ _ _ 0 w (fun W q hg hq hql => ans41_ret 50 #[.pointer (some ⟨q, 0, none⟩)] (p.pw.1 / z) (p.pw.2 / z) p.fl p.fh p.bl p.bh p.ti p.ne p.fa (.slice vp p.l.length vc) p.l W (ThingsAt.lasts _ _ _ _ h hg) hv' (enters_of Try.func50 (by kernel_rfl) rfl) (fun sv W' hg' hs => stands1_ok p.fl p.fh p.bl p.bh p.ti p.ne p.fa (.slice vp p.l.length vc) sv p.pw.1 p.pw.2 z q W' hin hp (by omega) (by omega) hz0 (((bcell hg').1 _ _ hql).trans hq) (Nat.lt_of_lt_of_le hql hg'.size)))) (by unfold Pr.stands; simp [hv, hp, hz])
      · exact calls_same (Stands_walk _ _ _ _ _ _ _ _ _ _ _ _ _ 4 w (fun W q hg hq hql => ans41_pan 50 #[.pointer (some ⟨q, 0, none⟩)] 4 p.fl p.fh p.bl p.bh p.ti p.ne p.fa (.slice vp p.l.length vc) p.l W (ThingsAt.lasts _ _ _ _ h hg) hv' (enters_of Try.func50 (by kernel_rfl) rfl) (fun sv W' hg' hs => stands1_none p.fl p.fh p.bl p.bh p.ti p.ne p.fa (.slice vp p.l.length vc) sv p.pw.1 p.pw.2 z q W' hin (by omega) (((bcell hg').1 _ _ hql).trans hq) (Nat.lt_of_lt_of_le hql hg'.size)))) (by unfold Pr.stands; simp [hv, hp, hz])
    · have hin : (decide (p.ne ≤ z) && decide (z ≤ p.fa)) = false := by simpa using hz
      exact calls_same (Stands_walk _ _ _ _ _ _ _ _ _ _ _ _ _ 2 w (fun W q hg hq hql => ans41_pan 50 #[.pointer (some ⟨q, 0, none⟩)] 2 p.fl p.fh p.bl p.bh p.ti p.ne p.fa (.slice vp p.l.length vc) p.l W (ThingsAt.lasts _ _ _ _ h hg) hv' (enters_of Try.func50 (by kernel_rfl) rfl) (fun sv W' hg' hs => stands1_range p.fl p.fh p.bl p.bh p.ti p.ne p.fa (.slice vp p.l.length vc) sv p.pw.1 p.pw.2 z q W' hin (((bcell hg').1 _ _ hql).trans hq) (Nat.lt_of_lt_of_le hql hg'.size)))) (by unfold Pr.stands; simp [hv, hz])
  · have hv' : valid p.fl p.fh p.bl p.bh p.ti p.ne p.fa p.l = false := by simpa [Pr.ok] using hv
    exact calls_same (Stands_walk _ _ _ _ _ _ _ _ _ _ _ _ _ 1 w (fun W q hg hq hql => ans41_arg 50 #[.pointer (some ⟨q, 0, none⟩)] p.fl p.fh p.bl p.bh p.ti p.ne p.fa (.slice vp p.l.length vc) p.l W (ThingsAt.lasts _ _ _ _ h hg) hv')) (by unfold Pr.stands; simp [hv])
set_option maxHeartbeats 800000 in
theorem Distance_spec (p : Pr) (v : Value) (k : Int) (w : World) (h : ThingsAt p.l v w) :
    Calls Try.prog 23 #[p.val v, .int .i64 k] w fun e w' => e = .returned (.tuple #[.agg #[.int .i64 (p.distance k).1, .int .i64 (p.distance k).2.1], .int .i64 (p.distance k).2.2]) ∧ Below w.heap.size w w' := by
  obtain ⟨vp, vc, rfl, -⟩ := h.len
  by_cases hv : p.ok = true
  · have hpw := p.pw_in hv
    have hse := p.see_ok hv
    have hln := p.len hv
    have hbd := p.bounds hv
    have hv' : valid p.fl p.fh p.bl p.bh p.ti p.ne p.fa p.l = true := hv
    cases hk : p.at k with
    | none =>
      have hk' := Pr.at_none hk
      exact calls_same (Distance_walk _ _ _ _ _ _ _ _ _ _ _ _ _ 2 w (fun W q hg hq hql => ans41_pan 61 #[.pointer (some ⟨q, 0, none⟩)] 2 p.fl p.fh p.bl p.bh p.ti p.ne p.fa (.slice vp p.l.length vc) p.l W (ThingsAt.lasts _ _ _ _ h hg) hv' (enters_of Try.func61 (by kernel_rfl) rfl) (fun sv W' hg' hs => dist1_range p.fl p.fh p.bl p.bh p.ti p.ne p.fa (.slice vp p.l.length vc) sv p.pw.1 p.pw.2 p.seen k q W' hs hk' (((bcell hg').1 _ _ hql).trans hq) (Nat.lt_of_lt_of_le hql hg'.size)))) (by unfold Pr.distance; simp [hv, hk])
    | some s =>
      obtain ⟨n, rfl, hn⟩ := Pr.at_some hk
      have hok := hse s (List.mem_of_getElem? hn)
      by_cases hp : p.pw.1 ≤ p.pw.2
      · by_cases hw : s.why p.pw.1 p.pw.2 = 0
        · have hwz := Sg.why_zero hw
          obtain ⟨wit, lo, hi, sl⟩ := s
          cases wit with
          | mark m => exact calls_same (Distance_walk _ _ _ _ _ _ _ _ _ _ _ _ _ 0 w (fun W q hg hq hql => ans41_ret 61 #[.pointer (some ⟨q, 0, none⟩)] m m p.fl p.fh p.bl p.bh p.ti p.ne p.fa (.slice vp p.l.length vc) p.l W (ThingsAt.lasts _ _ _ _ h hg) hv' (enters_of Try.func61 (by kernel_rfl) rfl) (fun sv W' hg' hs => dist1_mark p.fl p.fh p.bl p.bh p.ti p.ne p.fa (.slice vp p.l.length vc) sv p.pw.1 p.pw.2 p.seen n m lo hi sl q W' hs hn hok hp hw (((bcell hg').1 _ _ hql).trans hq) (Nat.lt_of_lt_of_le hql hg'.size)))) (by unfold Pr.distance; simp [hv, hk, hp, hw, Sg.dists])
          | far nn ff => exact calls_same (Distance_walk _ _ _ _ _ _ _ _ _ _ _ _ _ 0 w (fun W q hg hq hql => ans41_ret 61 #[.pointer (some ⟨q, 0, none⟩)] _ _ p.fl p.fh p.bl p.bh p.ti p.ne p.fa (.slice vp p.l.length vc) p.l W (ThingsAt.lasts _ _ _ _ h hg) hv' (enters_of Try.func61 (by kernel_rfl) rfl) (fun sv W' hg' hs => dist1_far p.fl p.fh p.bl p.bh p.ti p.ne p.fa (.slice vp p.l.length vc) sv p.pw.1 p.pw.2 p.seen n nn ff lo hi sl q W' hs hn hok hp hw (by omega) (by omega) hwz.2.1 (((bcell hg').1 _ _ hql).trans hq) (Nat.lt_of_lt_of_le hql hg'.size)))) (by unfold Pr.distance; simp [hv, hk, hp, hw, Sg.dists, Sg.st])
        · exact calls_same (Distance_walk _ _ _ _ _ _ _ _ _ _ _ _ _ 11 w (fun W q hg hq hql => ans41_pan 61 #[.pointer (some ⟨q, 0, none⟩)] 11 p.fl p.fh p.bl p.bh p.ti p.ne p.fa (.slice vp p.l.length vc) p.l W (ThingsAt.lasts _ _ _ _ h hg) hv' (enters_of Try.func61 (by kernel_rfl) rfl) (fun sv W' hg' hs => dist1_refuse p.fl p.fh p.bl p.bh p.ti p.ne p.fa (.slice vp p.l.length vc) sv p.pw.1 p.pw.2 p.seen n s q W' hs hn hok hp hw (((bcell hg').1 _ _ hql).trans hq) (Nat.lt_of_lt_of_le hql hg'.size)))) (by unfold Pr.distance; simp [hv, hk, hp, hw])
      · exact calls_same (Distance_walk _ _ _ _ _ _ _ _ _ _ _ _ _ 4 w (fun W q hg hq hql => ans41_pan 61 #[.pointer (some ⟨q, 0, none⟩)] 4 p.fl p.fh p.bl p.bh p.ti p.ne p.fa (.slice vp p.l.length vc) p.l W (ThingsAt.lasts _ _ _ _ h hg) hv' (enters_of Try.func61 (by kernel_rfl) rfl) (fun sv W' hg' hs => dist1_none p.fl p.fh p.bl p.bh p.ti p.ne p.fa (.slice vp p.l.length vc) sv p.pw.1 p.pw.2 p.seen n s q W' hs hn (by omega) (((bcell hg').1 _ _ hql).trans hq) (Nat.lt_of_lt_of_le hql hg'.size)))) (by unfold Pr.distance; simp [hv, hk, hp])
  · have hv' : valid p.fl p.fh p.bl p.bh p.ti p.ne p.fa p.l = false := by simpa [Pr.ok] using hv
    exact calls_same (Distance_walk _ _ _ _ _ _ _ _ _ _ _ _ _ 1 w (fun W q hg hq hql => ans41_arg 61 #[.pointer (some ⟨q, 0, none⟩)] p.fl p.fh p.bl p.bh p.ti p.ne p.fa (.slice vp p.l.length vc) p.l W (ThingsAt.lasts _ _ _ _ h hg) hv')) (by unfold Pr.distance; simp [hv])
set_option maxHeartbeats 800000 in
theorem Power_spec (p : Pr) (v : Value) (w : World) (h : ThingsAt p.l v w) :
    Calls Try.prog 17 #[p.val v] w fun e w' => e = .returned (.tuple #[.agg #[.int .i64 p.power.1, .int .i64 p.power.2.1], .int .i64 p.power.2.2]) ∧ Below w.heap.size w w' := by
  obtain ⟨vp, vc, rfl, -⟩ := h.len
  by_cases hv : p.ok = true
  · have hpw := p.pw_in hv
    have hse := p.see_ok hv
    have hln := p.len hv
    have hbd := p.bounds hv
    have hv' : valid p.fl p.fh p.bl p.bh p.ti p.ne p.fa p.l = true := hv
    by_cases hp : p.pw.1 ≤ p.pw.2
    · exact calls_same (Power_walk _ _ _ _ _ _ _ _ _ _  _ _ 0 w (fun W hg => ans41_ret 48 #[] p.pw.1 p.pw.2 p.fl p.fh p.bl p.bh p.ti p.ne p.fa (.slice vp p.l.length vc) p.l W (ThingsAt.lasts _ _ _ _ h hg) hv' (enters_of Try.func48 (by kernel_rfl) rfl) (fun sv W' hg' hs => truths_ok p.fl p.fh p.bl p.bh p.ti p.ne p.fa (.slice vp p.l.length vc) sv p.pw.1 p.pw.2 W' hp))) (by unfold Pr.power; simp [hv, hp])
    · exact calls_same (Power_walk _ _ _ _ _ _ _ _ _ _  _ _ 4 w (fun W hg => ans41_pan 48 #[] 4 p.fl p.fh p.bl p.bh p.ti p.ne p.fa (.slice vp p.l.length vc) p.l W (ThingsAt.lasts _ _ _ _ h hg) hv' (enters_of Try.func48 (by kernel_rfl) rfl) (fun sv W' hg' hs => truths_no p.fl p.fh p.bl p.bh p.ti p.ne p.fa (.slice vp p.l.length vc) sv p.pw.1 p.pw.2 W' (by omega)))) (by unfold Pr.power; simp [hv, hp])
  · have hv' : valid p.fl p.fh p.bl p.bh p.ti p.ne p.fa p.l = false := by simpa [Pr.ok] using hv
    exact calls_same (Power_walk _ _ _ _ _ _ _ _ _ _  _ _ 1 w (fun W hg => ans41_arg 48 #[] p.fl p.fh p.bl p.bh p.ti p.ne p.fa (.slice vp p.l.length vc) p.l W (ThingsAt.lasts _ _ _ _ h hg) hv')) (by unfold Pr.power; simp [hv])
set_option maxHeartbeats 800000 in
theorem Why_spec (p : Pr) (v : Value) (k : Int) (w : World) (h : ThingsAt p.l v w) :
    Calls Try.prog 21 #[p.val v, .int .i64 k] w fun e w' => e = .returned (.tuple #[.int .i64 (p.why k).1, .int .i64 (p.why k).2]) ∧ Below w.heap.size w w' := by
  obtain ⟨vp, vc, rfl, -⟩ := h.len
  by_cases hv : p.ok = true
  · have hpw := p.pw_in hv
    have hse := p.see_ok hv
    have hln := p.len hv
    have hbd := p.bounds hv
    have hv' : valid p.fl p.fh p.bl p.bh p.ti p.ne p.fa p.l = true := hv
    cases hk : p.at k with
    | none =>
      have hk' := Pr.at_none hk
      exact calls_same (Why_walk _ _ _ _ _ _ _ _ _ _ _ _ 2 w (fun W q hg hq hql => ans46_pan 55 #[.pointer (some ⟨q, 0, none⟩)] 2 p.fl p.fh p.bl p.bh p.ti p.ne p.fa (.slice vp p.l.length vc) p.l W (ThingsAt.lasts _ _ _ _ h hg) hv' (enters_of Try.func55 (by kernel_rfl) rfl) (fun sv W' hg' hs => why1_range p.fl p.fh p.bl p.bh p.ti p.ne p.fa (.slice vp p.l.length vc) sv p.pw.1 p.pw.2 p.seen k q W' hs hk' (((bcell hg').1 _ _ hql).trans hq) (Nat.lt_of_lt_of_le hql hg'.size)))) (by unfold Pr.why; simp [hv, hk])
    | some s =>
      obtain ⟨n, rfl, hn⟩ := Pr.at_some hk
      have hok := hse s (List.mem_of_getElem? hn)
      by_cases hp : p.pw.1 ≤ p.pw.2
      · exact calls_same (Why_walk _ _ _ _ _ _ _ _ _ _ _ _ 0 w (fun W q hg hq hql => ans46_ret 55 #[.pointer (some ⟨q, 0, none⟩)] (s.why p.pw.1 p.pw.2) p.fl p.fh p.bl p.bh p.ti p.ne p.fa (.slice vp p.l.length vc) p.l W (ThingsAt.lasts _ _ _ _ h hg) hv' (enters_of Try.func55 (by kernel_rfl) rfl) (fun sv W' hg' hs => why1_ok p.fl p.fh p.bl p.bh p.ti p.ne p.fa (.slice vp p.l.length vc) sv p.pw.1 p.pw.2 p.seen n s q W' hs hn hok hp (((bcell hg').1 _ _ hql).trans hq) (Nat.lt_of_lt_of_le hql hg'.size)))) (by unfold Pr.why; simp [hv, hk, hp])
      · exact calls_same (Why_walk _ _ _ _ _ _ _ _ _ _ _ _ 4 w (fun W q hg hq hql => ans46_pan 55 #[.pointer (some ⟨q, 0, none⟩)] 4 p.fl p.fh p.bl p.bh p.ti p.ne p.fa (.slice vp p.l.length vc) p.l W (ThingsAt.lasts _ _ _ _ h hg) hv' (enters_of Try.func55 (by kernel_rfl) rfl) (fun sv W' hg' hs => why1_none p.fl p.fh p.bl p.bh p.ti p.ne p.fa (.slice vp p.l.length vc) sv p.pw.1 p.pw.2 p.seen n s q W' hs hn (by omega) (((bcell hg').1 _ _ hql).trans hq) (Nat.lt_of_lt_of_le hql hg'.size)))) (by unfold Pr.why; simp [hv, hk, hp])
  · have hv' : valid p.fl p.fh p.bl p.bh p.ti p.ne p.fa p.l = false := by simpa [Pr.ok] using hv
    exact calls_same (Why_walk _ _ _ _ _ _ _ _ _ _ _ _ 1 w (fun W q hg hq hql => ans46_arg 55 #[.pointer (some ⟨q, 0, none⟩)] p.fl p.fh p.bl p.bh p.ti p.ne p.fa (.slice vp p.l.length vc) p.l W (ThingsAt.lasts _ _ _ _ h hg) hv')) (by unfold Pr.why; simp [hv])
set_option maxHeartbeats 800000 in
theorem Nearer_spec (p : Pr) (v : Value) (a : Int) (b : Int) (w : World) (h : ThingsAt p.l v w) :
    Calls Try.prog 15 #[p.val v, .int .i64 a, .int .i64 b] w fun e w' => e = .returned (.tuple #[.int .i64 (p.nearer a b).1, .int .i64 (p.nearer a b).2]) ∧ Below w.heap.size w w' := by
  obtain ⟨vp, vc, rfl, -⟩ := h.len
  by_cases hv : p.ok = true
  · have hpw := p.pw_in hv
    have hse := p.see_ok hv
    have hln := p.len hv
    have hbd := p.bounds hv
    have hv' : valid p.fl p.fh p.bl p.bh p.ti p.ne p.fa p.l = true := hv
    cases hk : p.at a with
    | none =>
      have hk' := Pr.at_none hk
      cases hk2 : p.at b with
      | none =>
        have hk2' := Pr.at_none hk2
        exact calls_same (Nearer_walk _ _ _ _ _ _ _ _ _ _ _ _ _ 2 w (fun W q r hg hq hql hr hrl => ans46_pan 47 #[.pointer (some ⟨q, 0, none⟩), .pointer (some ⟨r, 0, none⟩)] 2 p.fl p.fh p.bl p.bh p.ti p.ne p.fa (.slice vp p.l.length vc) p.l W (ThingsAt.lasts _ _ _ _ h hg) hv' (enters_of Try.func47 (by kernel_rfl) rfl) (fun sv W' hg' hs => near1_firstn p.fl p.fh p.bl p.bh p.ti p.ne p.fa (.slice vp p.l.length vc) sv p.pw.1 p.pw.2 p.seen a b q r W' hs hk' hk2' (((bcell hg').1 _ _ hql).trans hq) (Nat.lt_of_lt_of_le hql hg'.size) (((bcell hg').1 _ _ hrl).trans hr) (Nat.lt_of_lt_of_le hrl hg'.size)))) (by unfold Pr.nearer; simp [hv, hk])
      | some t =>
        obtain ⟨m, rfl, hm⟩ := Pr.at_some hk2
        exact calls_same (Nearer_walk _ _ _ _ _ _ _ _ _ _ _ _ _ 2 w (fun W q r hg hq hql hr hrl => ans46_pan 47 #[.pointer (some ⟨q, 0, none⟩), .pointer (some ⟨r, 0, none⟩)] 2 p.fl p.fh p.bl p.bh p.ti p.ne p.fa (.slice vp p.l.length vc) p.l W (ThingsAt.lasts _ _ _ _ h hg) hv' (enters_of Try.func47 (by kernel_rfl) rfl) (fun sv W' hg' hs => near1_firsty p.fl p.fh p.bl p.bh p.ti p.ne p.fa (.slice vp p.l.length vc) sv p.pw.1 p.pw.2 p.seen a m t q r W' hs hk' hm (((bcell hg').1 _ _ hql).trans hq) (Nat.lt_of_lt_of_le hql hg'.size) (((bcell hg').1 _ _ hrl).trans hr) (Nat.lt_of_lt_of_le hrl hg'.size)))) (by unfold Pr.nearer; simp [hv, hk])
    | some s =>
      obtain ⟨n, rfl, hn⟩ := Pr.at_some hk
      cases hk2 : p.at b with
      | none =>
        have hk2' := Pr.at_none hk2
        exact calls_same (Nearer_walk _ _ _ _ _ _ _ _ _ _ _ _ _ 2 w (fun W q r hg hq hql hr hrl => ans46_pan 47 #[.pointer (some ⟨q, 0, none⟩), .pointer (some ⟨r, 0, none⟩)] 2 p.fl p.fh p.bl p.bh p.ti p.ne p.fa (.slice vp p.l.length vc) p.l W (ThingsAt.lasts _ _ _ _ h hg) hv' (enters_of Try.func47 (by kernel_rfl) rfl) (fun sv W' hg' hs => near1_second p.fl p.fh p.bl p.bh p.ti p.ne p.fa (.slice vp p.l.length vc) sv p.pw.1 p.pw.2 p.seen n b s q r W' hs hn hk2' (((bcell hg').1 _ _ hql).trans hq) (Nat.lt_of_lt_of_le hql hg'.size) (((bcell hg').1 _ _ hrl).trans hr) (Nat.lt_of_lt_of_le hrl hg'.size)))) (by unfold Pr.nearer; simp [hv, hk, hk2])
      | some t =>
        obtain ⟨m, rfl, hm⟩ := Pr.at_some hk2
        exact calls_same (Nearer_walk _ _ _ _ _ _ _ _ _ _ _ _ _ 0 w (fun W q r hg hq hql hr hrl => ans46_ret 47 #[.pointer (some ⟨q, 0, none⟩), .pointer (some ⟨r, 0, none⟩)] (nearOf s t) p.fl p.fh p.bl p.bh p.ti p.ne p.fa (.slice vp p.l.length vc) p.l W (ThingsAt.lasts _ _ _ _ h hg) hv' (enters_of Try.func47 (by kernel_rfl) rfl) (fun sv W' hg' hs => near1_ok p.fl p.fh p.bl p.bh p.ti p.ne p.fa (.slice vp p.l.length vc) sv p.pw.1 p.pw.2 p.seen n m s t q r W' hs hn hm (((bcell hg').1 _ _ hql).trans hq) (Nat.lt_of_lt_of_le hql hg'.size) (((bcell hg').1 _ _ hrl).trans hr) (Nat.lt_of_lt_of_le hrl hg'.size)))) (by unfold Pr.nearer; simp [hv, hk, hk2])
  · have hv' : valid p.fl p.fh p.bl p.bh p.ti p.ne p.fa p.l = false := by simpa [Pr.ok] using hv
    exact calls_same (Nearer_walk _ _ _ _ _ _ _ _ _ _ _ _ _ 1 w (fun W q r hg hq hql hr hrl => ans46_arg 47 #[.pointer (some ⟨q, 0, none⟩), .pointer (some ⟨r, 0, none⟩)] p.fl p.fh p.bl p.bh p.ti p.ne p.fa (.slice vp p.l.length vc) p.l W (ThingsAt.lasts _ _ _ _ h hg) hv')) (by unfold Pr.nearer; simp [hv])
set_option maxHeartbeats 800000 in
theorem Fewest_spec (p : Pr) (v : Value) (w : World) (h : ThingsAt p.l v w) :
    Calls Try.prog 25 #[p.val v] w fun e w' => e = .returned (.tuple #[.int .i64 p.fewest.1, .agg #[.int .i64 p.fewest.2.1, .int .i64 p.fewest.2.2.1], .int .i64 p.fewest.2.2.2]) ∧ Below w.heap.size w w' := by
  obtain ⟨vp, vc, rfl, -⟩ := h.len
  by_cases hv : p.ok = true
  · have hpw := p.pw_in hv
    have hse := p.see_ok hv
    have hln := p.len hv
    have hbd := p.bounds hv
    have hv' : valid p.fl p.fh p.bl p.bh p.ti p.ne p.fa p.l = true := hv
    by_cases hp : p.pw.1 ≤ p.pw.2
    · exact calls_same (Fewest_walk _ _ _ _ _ _ _ _ _ _  _ _ _ _ 0 w (fun W hg => ans63_ret 64 #[] (Best.of p.seen (triesList p.pw.1 p.pw.2 p.seen)).many (Best.of p.seen (triesList p.pw.1 p.pw.2 p.seen)).moved (Best.of p.seen (triesList p.pw.1 p.pw.2 p.seen)).lo (Best.of p.seen (triesList p.pw.1 p.pw.2 p.seen)).hi p.fl p.fh p.bl p.bh p.ti p.ne p.fa (.slice vp p.l.length vc) p.l W (ThingsAt.lasts _ _ _ _ h hg) hv' (enters_of Try.func64 (by kernel_rfl) rfl) (fun sv W' hg' hs => fewest_ok p.fl p.fh p.bl p.bh p.ti p.ne p.fa (.slice vp p.l.length vc) sv p.pw.1 p.pw.2 p.seen W' hs hln hse hp))) (by unfold Pr.fewest; simp [hv, hp])
    · exact calls_same (Fewest_walk _ _ _ _ _ _ _ _ _ _  _ _ _ _ 4 w (fun W hg => ans63_pan 64 #[] 4 p.fl p.fh p.bl p.bh p.ti p.ne p.fa (.slice vp p.l.length vc) p.l W (ThingsAt.lasts _ _ _ _ h hg) hv' (enters_of Try.func64 (by kernel_rfl) rfl) (fun sv W' hg' hs => fewest_no p.fl p.fh p.bl p.bh p.ti p.ne p.fa (.slice vp p.l.length vc) sv p.pw.1 p.pw.2 W' (by obtain ⟨a, c, e, f⟩ := hs.len; exact ⟨_, _, _, e, f⟩) (by omega)))) (by unfold Pr.fewest; simp [hv, hp])
  · have hv' : valid p.fl p.fh p.bl p.bh p.ti p.ne p.fa p.l = false := by simpa [Pr.ok] using hv
    exact calls_same (Fewest_walk _ _ _ _ _ _ _ _ _ _  _ _ _ _ 1 w (fun W hg => ans63_arg 64 #[] p.fl p.fh p.bl p.bh p.ti p.ne p.fa (.slice vp p.l.length vc) p.l W (ThingsAt.lasts _ _ _ _ h hg) hv')) (by unfold Pr.fewest; simp [hv])
end Go.Proofs.Ytofdoadpaedogaa
