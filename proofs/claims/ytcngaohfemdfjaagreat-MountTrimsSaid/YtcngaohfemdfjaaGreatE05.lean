import Derived.Test.YtcngaohfemdfjaaGreatE00
import Derived.Test.YtcngaohfemdfjaaGreatE01
import Derived.Test.YtcngaohfemdfjaaGreatE02
import Derived.Test.YtcngaohfemdfjaaGreatE03
import Derived.BigQuiet
import Derived.Deep.Slices
import Derived.Deep.Strs
import Derived.Lib.SmallJoins
import Derived.LoopN
import Derived.OrdersIn
import Derived.ProofKit
import Derived.ShutString
set_option linter.unusedVariables false
set_option linter.unusedSimpArgs false
set_option maxRecDepth 100000
set_option maxHeartbeats 60000000
namespace Go.Proofs.YtcngaohfemdfjaaGreat
open Go.RowKit Go.Shelf
structure Pr where
  fl : Int
  fh : Int
  bl : Int
  bh : Int
  ti : Int
  ne : Int
  fa : Int
  l : List Th
def Pr.val (p : Pr) (v : Value) : Value := .agg #[.int .i64 p.fl, .int .i64 p.fh, .int .i64 p.bl, .int .i64 p.bh, .int .i64 p.ti, .int .i64 p.ne, .int .i64 p.fa, v]
def Pr.ok (p : Pr) : Bool := valid p.fl p.fh p.bl p.bh p.ti p.ne p.fa p.l
def Pr.seen (p : Pr) : List Sg := seenOf p.ti p.ne p.fa p.l
def Pr.pw (p : Pr) : Int × Int := allPw p.fl p.fh p.bl p.bh p.ti p.ne p.fa p.l
def Pr.at (p : Pr) (k : Int) : Option Sg := if 0 ≤ k then p.seen[k.toNat]? else none
theorem Pr.at_some {p : Pr} {k : Int} {s : Sg} (h : p.at k = some s) : ∃ n : Nat, k = n ∧ p.seen[n]? = some s := by
  unfold Pr.at at h
  by_cases hk : 0 ≤ k
  · rw [if_pos hk] at h; exact ⟨k.toNat, by omega, h⟩
  · rw [if_neg hk] at h; cases h
theorem Pr.at_none {p : Pr} {k : Int} (h : p.at k = none) : k < 0 ∨ (p.seen.length : Int) ≤ k := by
  unfold Pr.at at h
  by_cases hk : 0 ≤ k
  · rw [if_pos hk] at h
    have := List.getElem?_eq_none_iff.1 h
    omega
  · omega
theorem ovl_foldl (l : List (Int × Int)) : ∀ a : Int × Int, a.1 ≤ (l.foldl ovl a).1 ∧ (l.foldl ovl a).2 ≤ a.2 := by
  induction l with
  | nil => intro a; exact ⟨Int.le_refl _, Int.le_refl _⟩
  | cons x l ih =>
    intro a
    have h := ih (ovl a x)
    have h1 : a.1 ≤ (ovl a x).1 := by unfold ovl; simp only; split <;> omega
    have h2 : (ovl a x).2 ≤ a.2 := by unfold ovl; simp only; split <;> omega
    simp only [List.foldl_cons]
    omega
theorem Pr.bounds {p : Pr} (h : p.ok = true) : Bounds p.fl p.fh p.bl p.bh p.ti p.ne p.fa p.l := Bounds.of h
theorem mul_in {a b m n : Int} (h0 : 1 ≤ a) (h1 : a ≤ m) (h2 : 1 ≤ b) (h3 : b ≤ n) : 1 ≤ a * b ∧ a * b ≤ m * n := by
  constructor
  · have := Int.mul_le_mul h0 h2 (by omega) (by omega); omega
  · exact Int.mul_le_mul h1 h3 (by omega) (by omega)
theorem Pr.pw_in {p : Pr} (h : p.ok = true) : 1 ≤ p.pw.1 ∧ p.pw.2 ≤ 500000000 := by
  have hb := p.bounds h
  have h1 := ovl_foldl ((pickTo (seenOf p.ti p.ne p.fa p.l) (marksTo p.l p.l.length) p.l.length).map Sg.spw) (p.fl * p.bl, p.fh * p.bh)
  have h2 := mul_in hb.fl1 (Int.le_refl _) hb.bl1 (Int.le_refl _)
  have h3 := mul_in (a := p.fh) (b := p.bh) (by have := hb.fl1; have := hb.fh1; omega) hb.fh2 (by have := hb.bl1; have := hb.bh1; omega) hb.bh2
  unfold Pr.pw allPw
  simp only at h1
  omega
theorem Pr.see_ok {p : Pr} (h : p.ok = true) : ∀ s ∈ p.seen, s.ok := by
  intro s hs
  unfold Pr.seen seenOf at hs
  obtain ⟨t, ht, rfl⟩ := List.mem_map.1 hs
  exact (p.bounds h).see ht
theorem Pr.len {p : Pr} (h : p.ok = true) : p.seen.length ≤ 12 := by
  have := (p.bounds h).len
  unfold Pr.seen seenOf
  simpa using this
def Pr.shift (p : Pr) (k : Int) : Int × Int × Int := if p.ok then match p.at k with | some s => (s.lo, s.hi, 0) | none => (0, 0, 2) else (0, 0, 1)
def Pr.power (p : Pr) : Int × Int × Int := if p.ok then if p.pw.1 ≤ p.pw.2 then (p.pw.1, p.pw.2, 0) else (0, 0, 4) else (0, 0, 1)
def Pr.stands (p : Pr) (z : Int) : Int × Int × Int := if p.ok then if p.ne ≤ z ∧ z ≤ p.fa then if p.pw.1 ≤ p.pw.2 then (p.pw.1 / z, p.pw.2 / z, 0) else (0, 0, 4) else (0, 0, 2) else (0, 0, 1)
def Pr.why (p : Pr) (k : Int) : Int × Int := if p.ok then match p.at k with | some s => if p.pw.1 ≤ p.pw.2 then (s.why p.pw.1 p.pw.2, 0) else (0, 4) | none => (0, 2) else (0, 1)
theorem calls_same {f : FuncId} {args : Array Value} {w : World} {v v' : Value} (h : Calls Tryz.prog f args w fun e w' => e = .returned v ∧ Below w.heap.size w w') (e : v = v') : Calls Tryz.prog f args w fun e w' => e = .returned v' ∧ Below w.heap.size w w' := by rw [← e]; exact h
theorem Shift_spec (p : Pr) (v : Value) (k : Int) (w : World) (h : TsA p.l v w) :
    Calls Tryz.prog 35 #[p.val v, .int .i64 k] w fun e w' => e = .returned (.tuple #[.agg #[.int .i64 (p.shift k).1, .int .i64 (p.shift k).2.1], .int .i64 (p.shift k).2.2]) ∧ Below w.heap.size w w' := by
  obtain ⟨vp, vc, rfl, -⟩ := h.len
  by_cases hv : p.ok = true
  · have hpw := p.pw_in hv
    have hse := p.see_ok hv
    have hln := p.len hv
    have hbd := p.bounds hv
    have hv' : valid p.fl p.fh p.bl p.bh p.ti p.ne p.fa p.l = true := hv
    cases hk : p.at k with
    | none =>
      have hk' := Pr.at_none hk
      exact calls_same (Shift_walk _ _ _ _ _ _ _ _ _ _ _ _ _ 2 w (fun W q hg hq hql => ans41_pan 79 #[.pointer (some ⟨q, 0, none⟩)] 2 p.fl p.fh p.bl p.bh p.ti p.ne p.fa (.slice vp p.l.length vc) p.l W (TsA.lasts _ _ _ _ h hg) hv' (enters_of Tryz.func79 (by kernel_rfl) rfl) (fun sv W' hg' hs => shift1_no p.fl p.fh p.bl p.bh p.ti p.ne p.fa (.slice vp p.l.length vc) sv p.pw.1 p.pw.2 p.seen k q W' hs hk' (((bcell hg').1 _ _ hql).trans hq) (Nat.lt_of_lt_of_le hql hg'.size)))) (by unfold Pr.shift; simp [hv, hk])
    | some s =>
      obtain ⟨n, rfl, hn⟩ := Pr.at_some hk
      exact calls_same (Shift_walk _ _ _ _ _ _ _ _ _ _ _ _ _ 0 w (fun W q hg hq hql => ans41_ret 79 #[.pointer (some ⟨q, 0, none⟩)] s.lo s.hi p.fl p.fh p.bl p.bh p.ti p.ne p.fa (.slice vp p.l.length vc) p.l W (TsA.lasts _ _ _ _ h hg) hv' (enters_of Tryz.func79 (by kernel_rfl) rfl) (fun sv W' hg' hs => shift1_ok p.fl p.fh p.bl p.bh p.ti p.ne p.fa (.slice vp p.l.length vc) sv p.pw.1 p.pw.2 p.seen n s q W' hs hn (((bcell hg').1 _ _ hql).trans hq) (Nat.lt_of_lt_of_le hql hg'.size)))) (by unfold Pr.shift; simp [hv, hk])
  · have hv' : valid p.fl p.fh p.bl p.bh p.ti p.ne p.fa p.l = false := by simpa [Pr.ok] using hv
    exact calls_same (Shift_walk _ _ _ _ _ _ _ _ _ _ _ _ _ 1 w (fun W q hg hq hql => ans41_arg 79 #[.pointer (some ⟨q, 0, none⟩)] p.fl p.fh p.bl p.bh p.ti p.ne p.fa (.slice vp p.l.length vc) p.l W (TsA.lasts _ _ _ _ h hg) hv')) (by unfold Pr.shift; simp [hv])
theorem Stands_spec (p : Pr) (v : Value) (z : Int) (w : World) (h : TsA p.l v w) :
    Calls Tryz.prog 38 #[p.val v, .int .i64 z] w fun e w' => e = .returned (.tuple #[.agg #[.int .i64 (p.stands z).1, .int .i64 (p.stands z).2.1], .int .i64 (p.stands z).2.2]) ∧ Below w.heap.size w w' := by
  obtain ⟨vp, vc, rfl, -⟩ := h.len
  by_cases hv : p.ok = true
  · have hpw := p.pw_in hv
    have hse := p.see_ok hv
    have hln := p.len hv
    have hbd := p.bounds hv
    have hv' : valid p.fl p.fh p.bl p.bh p.ti p.ne p.fa p.l = true := hv
    by_cases hz : p.ne ≤ z ∧ z ≤ p.fa
    · have hin : (decide (p.ne ≤ z) && decide (z ≤ p.fa)) = true := by simp [hz]
      have hz0 : 0 < z := by have := hbd.ne0; omega
      by_cases hp : p.pw.1 ≤ p.pw.2
      · exact calls_same (Stands_walk _ _ _ _ _ _ _ _ _ _ _ _ _ 0 w (fun W q hg hq hql => ans41_ret 80 #[.pointer (some ⟨q, 0, none⟩)] (p.pw.1 / z) (p.pw.2 / z) p.fl p.fh p.bl p.bh p.ti p.ne p.fa (.slice vp p.l.length vc) p.l W (TsA.lasts _ _ _ _ h hg) hv' (enters_of Tryz.func80 (by kernel_rfl) rfl) (fun sv W' hg' hs => stands1_ok p.fl p.fh p.bl p.bh p.ti p.ne p.fa (.slice vp p.l.length vc) sv p.pw.1 p.pw.2 z q W' hin hp (by omega) (by omega) hz0 (((bcell hg').1 _ _ hql).trans hq) (Nat.lt_of_lt_of_le hql hg'.size)))) (by unfold Pr.stands; simp [hv, hp, hz])
      · exact calls_same (Stands_walk _ _ _ _ _ _ _ _ _ _ _ _ _ 4 w (fun W q hg hq hql => ans41_pan 80 #[.pointer (some ⟨q, 0, none⟩)] 4 p.fl p.fh p.bl p.bh p.ti p.ne p.fa (.slice vp p.l.length vc) p.l W (TsA.lasts _ _ _ _ h hg) hv' (enters_of Tryz.func80 (by kernel_rfl) rfl) (fun sv W' hg' hs => stands1_none p.fl p.fh p.bl p.bh p.ti p.ne p.fa (.slice vp p.l.length vc) sv p.pw.1 p.pw.2 z q W' hin (by omega) (((bcell hg').1 _ _ hql).trans hq) (Nat.lt_of_lt_of_le hql hg'.size)))) (by unfold Pr.stands; simp [hv, hp, hz])
    · have hin : (decide (p.ne ≤ z) && decide (z ≤ p.fa)) = false := by simpa using hz
      exact calls_same (Stands_walk _ _ _ _ _ _ _ _ _ _ _ _ _ 2 w (fun W q hg hq hql => ans41_pan 80 #[.pointer (some ⟨q, 0, none⟩)] 2 p.fl p.fh p.bl p.bh p.ti p.ne p.fa (.slice vp p.l.length vc) p.l W (TsA.lasts _ _ _ _ h hg) hv' (enters_of Tryz.func80 (by kernel_rfl) rfl) (fun sv W' hg' hs => stands1_range p.fl p.fh p.bl p.bh p.ti p.ne p.fa (.slice vp p.l.length vc) sv p.pw.1 p.pw.2 z q W' hin (((bcell hg').1 _ _ hql).trans hq) (Nat.lt_of_lt_of_le hql hg'.size)))) (by unfold Pr.stands; simp [hv, hz])
  · have hv' : valid p.fl p.fh p.bl p.bh p.ti p.ne p.fa p.l = false := by simpa [Pr.ok] using hv
    exact calls_same (Stands_walk _ _ _ _ _ _ _ _ _ _ _ _ _ 1 w (fun W q hg hq hql => ans41_arg 80 #[.pointer (some ⟨q, 0, none⟩)] p.fl p.fh p.bl p.bh p.ti p.ne p.fa (.slice vp p.l.length vc) p.l W (TsA.lasts _ _ _ _ h hg) hv')) (by unfold Pr.stands; simp [hv])
theorem Power_spec (p : Pr) (v : Value) (w : World) (h : TsA p.l v w) :
    Calls Tryz.prog 45 #[p.val v] w fun e w' => e = .returned (.tuple #[.agg #[.int .i64 p.power.1, .int .i64 p.power.2.1], .int .i64 p.power.2.2]) ∧ Below w.heap.size w w' := by
  obtain ⟨vp, vc, rfl, -⟩ := h.len
  by_cases hv : p.ok = true
  · have hpw := p.pw_in hv
    have hse := p.see_ok hv
    have hln := p.len hv
    have hbd := p.bounds hv
    have hv' : valid p.fl p.fh p.bl p.bh p.ti p.ne p.fa p.l = true := hv
    by_cases hp : p.pw.1 ≤ p.pw.2
    · exact calls_same (Power_walk _ _ _ _ _ _ _ _ _ _  _ _ 0 w (fun W hg => ans41_ret 77 #[] p.pw.1 p.pw.2 p.fl p.fh p.bl p.bh p.ti p.ne p.fa (.slice vp p.l.length vc) p.l W (TsA.lasts _ _ _ _ h hg) hv' (enters_of Tryz.func77 (by kernel_rfl) rfl) (fun sv W' hg' hs => truths_ok p.fl p.fh p.bl p.bh p.ti p.ne p.fa (.slice vp p.l.length vc) sv p.pw.1 p.pw.2 W' hp))) (by unfold Pr.power; simp [hv, hp])
    · exact calls_same (Power_walk _ _ _ _ _ _ _ _ _ _  _ _ 4 w (fun W hg => ans41_pan 77 #[] 4 p.fl p.fh p.bl p.bh p.ti p.ne p.fa (.slice vp p.l.length vc) p.l W (TsA.lasts _ _ _ _ h hg) hv' (enters_of Tryz.func77 (by kernel_rfl) rfl) (fun sv W' hg' hs => truths_no p.fl p.fh p.bl p.bh p.ti p.ne p.fa (.slice vp p.l.length vc) sv p.pw.1 p.pw.2 W' (by omega)))) (by unfold Pr.power; simp [hv, hp])
  · have hv' : valid p.fl p.fh p.bl p.bh p.ti p.ne p.fa p.l = false := by simpa [Pr.ok] using hv
    exact calls_same (Power_walk _ _ _ _ _ _ _ _ _ _  _ _ 1 w (fun W hg => ans41_arg 77 #[] p.fl p.fh p.bl p.bh p.ti p.ne p.fa (.slice vp p.l.length vc) p.l W (TsA.lasts _ _ _ _ h hg) hv')) (by unfold Pr.power; simp [hv])
theorem Why_spec (p : Pr) (v : Value) (k : Int) (w : World) (h : TsA p.l v w) :
    Calls Tryz.prog 32 #[p.val v, .int .i64 k] w fun e w' => e = .returned (.tuple #[.int .i64 (p.why k).1, .int .i64 (p.why k).2]) ∧ Below w.heap.size w w' := by
  obtain ⟨vp, vc, rfl, -⟩ := h.len
  by_cases hv : p.ok = true
  · have hpw := p.pw_in hv
    have hse := p.see_ok hv
    have hln := p.len hv
    have hbd := p.bounds hv
    have hv' : valid p.fl p.fh p.bl p.bh p.ti p.ne p.fa p.l = true := hv
    cases hk : p.at k with
    | none =>
      have hk' := Pr.at_none hk
      exact calls_same (Why_walk _ _ _ _ _ _ _ _ _ _ _ _ 2 w (fun W q hg hq hql => ans46_pan 74 #[.pointer (some ⟨q, 0, none⟩)] 2 p.fl p.fh p.bl p.bh p.ti p.ne p.fa (.slice vp p.l.length vc) p.l W (TsA.lasts _ _ _ _ h hg) hv' (enters_of Tryz.func74 (by kernel_rfl) rfl) (fun sv W' hg' hs => why1_range p.fl p.fh p.bl p.bh p.ti p.ne p.fa (.slice vp p.l.length vc) sv p.pw.1 p.pw.2 p.seen k q W' hs hk' (((bcell hg').1 _ _ hql).trans hq) (Nat.lt_of_lt_of_le hql hg'.size)))) (by unfold Pr.why; simp [hv, hk])
    | some s =>
      obtain ⟨n, rfl, hn⟩ := Pr.at_some hk
      have hok := hse s (List.mem_of_getElem? hn)
      by_cases hp : p.pw.1 ≤ p.pw.2
      · exact calls_same (Why_walk _ _ _ _ _ _ _ _ _ _ _ _ 0 w (fun W q hg hq hql => ans46_ret 74 #[.pointer (some ⟨q, 0, none⟩)] (s.why p.pw.1 p.pw.2) p.fl p.fh p.bl p.bh p.ti p.ne p.fa (.slice vp p.l.length vc) p.l W (TsA.lasts _ _ _ _ h hg) hv' (enters_of Tryz.func74 (by kernel_rfl) rfl) (fun sv W' hg' hs => why1_ok p.fl p.fh p.bl p.bh p.ti p.ne p.fa (.slice vp p.l.length vc) sv p.pw.1 p.pw.2 p.seen n s q W' hs hn hok hp (((bcell hg').1 _ _ hql).trans hq) (Nat.lt_of_lt_of_le hql hg'.size)))) (by unfold Pr.why; simp [hv, hk, hp])
      · exact calls_same (Why_walk _ _ _ _ _ _ _ _ _ _ _ _ 4 w (fun W q hg hq hql => ans46_pan 74 #[.pointer (some ⟨q, 0, none⟩)] 4 p.fl p.fh p.bl p.bh p.ti p.ne p.fa (.slice vp p.l.length vc) p.l W (TsA.lasts _ _ _ _ h hg) hv' (enters_of Tryz.func74 (by kernel_rfl) rfl) (fun sv W' hg' hs => why1_none p.fl p.fh p.bl p.bh p.ti p.ne p.fa (.slice vp p.l.length vc) sv p.pw.1 p.pw.2 p.seen n s q W' hs hn (by omega) (((bcell hg').1 _ _ hql).trans hq) (Nat.lt_of_lt_of_le hql hg'.size)))) (by unfold Pr.why; simp [hv, hk, hp])
  · have hv' : valid p.fl p.fh p.bl p.bh p.ti p.ne p.fa p.l = false := by simpa [Pr.ok] using hv
    exact calls_same (Why_walk _ _ _ _ _ _ _ _ _ _ _ _ 1 w (fun W q hg hq hql => ans46_arg 74 #[.pointer (some ⟨q, 0, none⟩)] p.fl p.fh p.bl p.bh p.ti p.ne p.fa (.slice vp p.l.length vc) p.l W (TsA.lasts _ _ _ _ h hg) hv')) (by unfold Pr.why; simp [hv])
end Go.Proofs.YtcngaohfemdfjaaGreat
namespace Go.Proofs.YtcngaohfemdfjaaGreat
open Go.RowKit
structure Cd where
  p : Pr
  sp : Option Addr
  cap : Nat
  half : Int
  step : Int
  cuts : Int
  elo : Int
  ehi : Int
  prism : Int
  squeeze : Int
  front : Int
  deep : Int
structure Cu where
  a : Int
  b : Int
  c : Int
  d : Int
structure Tm where
  k : Cd
  mb : Nat
  u : Cu
def Cd.cs (k : Cd) : List Value := [.int .i64 k.p.fl, .int .i64 k.p.fh, .int .i64 k.p.bl, .int .i64 k.p.bh, .int .i64 k.p.ti, .int .i64 k.p.ne, .int .i64 k.p.fa, .slice k.sp k.p.l.length k.cap,
  .int .i64 k.half, .int .i64 k.step, .int .i64 k.cuts, .int .i64 k.elo, .int .i64 k.ehi, .int .i64 k.prism, .int .i64 k.squeeze, .int .i64 k.front, .int .i64 k.deep]
def Cd.lk (k : Cd) (mb : Nat) : List Value := [.int .i64 k.p.fl, .int .i64 k.p.fh, .int .i64 k.p.bl, .int .i64 k.p.bh, .int .i64 k.p.ti, .int .i64 k.p.ne, .int .i64 k.p.fa, .slice k.sp k.p.l.length k.cap,
  .int .i64 k.half, .int .i64 k.step, .int .i64 k.cuts, .int .i64 k.elo, .int .i64 k.ehi, .int .i64 k.prism, .int .i64 k.squeeze, .int .i64 k.front, .int .i64 k.deep, .map (some mb)]
def Tm.cs (t : Tm) : List Value := [.int .i64 t.k.p.fl, .int .i64 t.k.p.fh, .int .i64 t.k.p.bl, .int .i64 t.k.p.bh, .int .i64 t.k.p.ti, .int .i64 t.k.p.ne, .int .i64 t.k.p.fa, .slice t.k.sp t.k.p.l.length t.k.cap,
  .int .i64 t.k.half, .int .i64 t.k.step, .int .i64 t.k.cuts, .int .i64 t.k.elo, .int .i64 t.k.ehi, .int .i64 t.k.prism, .int .i64 t.k.squeeze, .int .i64 t.k.front, .int .i64 t.k.deep, .map (some t.mb),
  .int .i64 t.u.a, .int .i64 t.u.b, .int .i64 t.u.c, .int .i64 t.u.d]
def Cu.val (u : Cu) : Value := .agg #[.int .i64 u.a, .int .i64 u.b, .int .i64 u.c, .int .i64 u.d]
theorem Cd.cs_len (k : Cd) : k.cs.length = 17 := rfl
theorem Cd.lk_len (k : Cd) (mb : Nat) : (k.lk mb).length = 18 := rfl
theorem Tm.cs_len (t : Tm) : t.cs.length = 22 := rfl
def rowD : TypeDesc → Bool
  | .struct _ | .array _ _ => true
  | _ => false
def rowOf (P : Program) (ty : TypeId) (n : Nat) : Bool := match P.underlying ty, P.info? ty with | some d, some i => rowD d && i.size == n | _, _ => false
theorem rowOf.parts {P : Program} {ty : TypeId} {n : Nat} (h : rowOf P ty n = true) : ∃ d, P.underlying ty = some d ∧ rowD d = true ∧ (P.info? ty).map (·.size) = some n := by
  unfold rowOf at h
  split at h
  · rename_i d i h1 h2
    simp only [Bool.and_eq_true, beq_iff_eq] at h
    exact ⟨d, h1, h.1, by rw [h2]; exact congrArg some h.2⟩
  · cases h
theorem row28 : rowOf Tryz.prog 28 17 = true := by kernel_rfl
theorem row71 : rowOf Tryz.prog 71 18 = true := by kernel_rfl
theorem row83 : rowOf Tryz.prog 83 22 = true := by kernel_rfl
theorem row26 : rowOf Tryz.prog 26 8 = true := by kernel_rfl
def Cd.pr (k : Cd) : List Value := [.int .i64 k.p.fl, .int .i64 k.p.fh, .int .i64 k.p.bl, .int .i64 k.p.bh, .int .i64 k.p.ti, .int .i64 k.p.ne, .int .i64 k.p.fa, .slice k.sp k.p.l.length k.cap]
theorem built71 (k : Cd) (mb : Nat) : Tryz.prog.built 71 [(0, .agg k.cs.toArray), (1, .map (some mb))] = some (k.lk mb).toArray := by kernel_rfl
theorem built83 (t : Tm) : Tryz.prog.built 83 [(0, .agg (t.k.lk t.mb).toArray), (1, t.u.val)] = some t.cs.toArray := by kernel_rfl
theorem Box.row {w : World} {b : Nat} {old vs : List Value} {T : TypeId} (h : Box w b old T) : Box (w.setRow b vs.toArray) b vs T := setRow_heap w b old.toArray vs.toArray T (0, 0) h
section
variable {P : Program}
def Stop (p : Prop) : Prop := p
theorem wsl {ops : Array Oper} {rest : List Oper} {o : Oper} {a : Act} {w : World} {Q : Exit → Act → World → Prop} {ty : TypeId} {x : Operand} (_ : o.op = .load ty x) (h : Stop (wpList P ops Q (o :: rest) a w)) : wpList P ops Q (o :: rest) a w := h
theorem wpList_stopStore {ops : Array Oper} {rest : List Oper} {o : Oper} {a : Act} {w : World} {Q : Exit → Act → World → Prop} {ty : TypeId} {x y : Operand} (_ : o.op = .store ty x y) (h : Stop (wpList P ops Q (o :: rest) a w)) : wpList P ops Q (o :: rest) a w := h
theorem wpList_stopBuild {ops : Array Oper} {rest : List Oper} {o : Oper} {a : Act} {w : World} {Q : Exit → Act → World → Prop} {ty : TypeId} {x : Array (Nat × Operand)} (_ : o.op = .build ty x) (h : Stop (wpList P ops Q (o :: rest) a w)) : wpList P ops Q (o :: rest) a w := h
theorem wlb {ops : Array Oper} {rest : List Oper} {o : Oper} {a : Act} {w : World} {Q : Exit → Act → World → Prop} {vs : List Value} {T ty : TypeId} {x : Operand} {g n : Nat} (hr : rowOf P ty n = true) (hn : vs.length = n) (hg : Box w g vs T)
    (ho : o.op = .load ty x) (hgd : o.guard = none) (hx : a.eval x = .pointer (some ⟨g, 0, none⟩))
    (h : wpList P ops Q rest (a.put o.dst (.agg vs.toArray)) w) : wpList P ops Q (o :: rest) a w := by
  obtain ⟨d, hu, hd, hi⟩ := rowOf.parts hr
  exact wpList_load_row hgd ty x ho g hx T vs.toArray (0, 0) d hg hu (by cases d <;> simp_all [rowD]) (by simpa [hn] using hi) h
theorem wpList_storeBox {ops : Array Oper} {rest : List Oper} {o : Oper} {a : Act} {w : World} {Q : Exit → Act → World → Prop} {old vs : List Value} {T ty : TypeId} {x y : Operand} {g n : Nat} (hr : rowOf P ty n = true) (hn : vs.length = n) (hold : old.length = n) (h1 : vs.all (·.oneCell') = true) (hg : Box w g old T)
    (ho : o.op = .store ty x y) (hgd : o.guard = none) (hx : a.eval x = .pointer (some ⟨g, 0, none⟩)) (hy : a.eval y = .agg vs.toArray)
    (h : wpList P ops Q rest (a.put o.dst undef) (w.setRow g vs.toArray)) : wpList P ops Q (o :: rest) a w := by
  obtain ⟨d, -, -, hi⟩ := rowOf.parts hr
  exact wpList_store_row hgd ty x y ho g vs.toArray hx hy T old.toArray hg (by simpa [hn] using hi) (by simp [hn, hold]) (by simpa using h1) h
theorem wpList_buildRow {ops : Array Oper} {rest : List Oper} {o : Oper} {a : Act} {w : World} {Q : Exit → Act → World → Prop} {vs : List Value} {ty : TypeId} {parts : Array (Nat × Operand)} {ps : List (Nat × Value)} (hb : P.built ty ps = some vs.toArray)
    (ho : o.op = .build ty parts) (hgd : o.guard = none) (hp : (parts.map fun (i, x) => (i, a.eval x)).toList = ps)
    (h : wpList P ops Q rest (a.put o.dst (.agg vs.toArray)) w) : wpList P ops Q (o :: rest) a w := by
  refine wpList_build hgd ty parts ho (by rw [hp, hb]; rfl) ?_
  rw [hp, hb]
  exact h
end
def Tm.zero : List Value := [.int .i64 0, .int .i64 0, .int .i64 0, .int .i64 0, .int .i64 0, .int .i64 0, .int .i64 0, .slice none 0 0, .int .i64 0, .int .i64 0, .int .i64 0, .int .i64 0, .int .i64 0, .int .i64 0, .int .i64 0, .int .i64 0, .int .i64 0, .map none, .int .i64 0, .int .i64 0, .int .i64 0, .int .i64 0]
theorem lk_one (k : Cd) (mb : Nat) : (k.lk mb).all (·.oneCell') = true := rfl
theorem tm_one (t : Tm) : t.cs.all (·.oneCell') = true := rfl
theorem run_storeBox {W : World} {g : Nat} {old vs : List Value} {T : TypeId} (hg : Box W g old T) (hl : old.length = vs.length) (h1 : vs.all (·.oneCell') = true) :
    (storeCells ⟨g, 0, none⟩ vs).run Tryz.prog W = .ok () (W.setRow g vs.toArray) :=
  run_storeCells_from (P := Tryz.prog) g T vs 0 old.toArray W hg (by simp [hl]) (fun v hv => List.all_eq_true.1 h1 v hv)
theorem result_row {fn : Func} {p : Tmp} {ty : TypeId} {n : Nat} {vs : List Value} {T : TypeId} {tmps : Array Value} {w : World} {g : Nat} (hr : rowOf Tryz.prog ty n = true) (hn : vs.length = n) (hg : Box w g vs T) (h : fn.results = #[.cell p ty]) (hp : tmps.getD p undef = .pointer (some ⟨g, 0, none⟩)) :
    (results fn tmps).run Tryz.prog w = .ok (.agg vs.toArray) w := by
  obtain ⟨d, hu, hd, hi⟩ := rowOf.parts hr
  exact results_cell_row h tmps w g T vs.toArray (0, 0) d hp hg hu (by cases d <;> simp_all [rowD]) (by simpa [hn] using hi)
theorem with_any' (t : Tm) (w : World) :
    Calls Tryz.prog 53 #[.agg (t.k.lk t.mb).toArray, t.u.val] w fun e w' => e = .returned (.agg t.cs.toArray) ∧ Below w.heap.size w w' := by
  have hl : (t.k.lk t.mb).length = 18 := rfl
  have hl2 : t.cs.length = 22 := rfl
  have HB := Lib.hid (show Box ((w.alloc (Obj.cells (t.k.lk t.mb).toArray 71)).alloc (Obj.cells #[.int .i64 t.u.a, .int .i64 t.u.b, .int .i64 t.u.c, .int .i64 t.u.d] 30)) w.heap.size (t.k.lk t.mb) 71 from (Box.fresh w _ _).grow (Gr.alloc _ _))
  have hz0 : Box (((w.alloc (Obj.cells (t.k.lk t.mb).toArray 71)).alloc (Obj.cells #[.int .i64 t.u.a, .int .i64 t.u.b, .int .i64 t.u.c, .int .i64 t.u.d] 30)).alloc (Obj.cells Tm.zero.toArray 83)) (w.heap.size + 1 + 1) Tm.zero 83 := by
    have := Box.fresh ((w.alloc (Obj.cells (t.k.lk t.mb).toArray 71)).alloc (Obj.cells #[.int .i64 t.u.a, .int .i64 t.u.b, .int .i64 t.u.c, .int .i64 t.u.d] 30)) Tm.zero 83
    simpa using this
  have HZ := Lib.hid (hz0.row (vs := t.cs))
  have hst := run_storeBox (vs := t.cs) hz0 rfl (tm_one t)
  clear hz0
  have hbu := Lib.hid (built83 t)
  unfold Tm.zero at hst
  unfold Cu.val at *
  go_enter Tryz.func53, Tryz.ntmps53
  go_wp2_with (first
    | (with_reducible refine wsl (ty := 71) rfl ?_; unfold Stop; refine wlb row71 hl (HB.out.grow (Gr.alloc _ _)) rfl rfl rfl ?_)
    | (with_reducible refine wpList_stopBuild (ty := 83) rfl ?_; unfold Stop; refine wpList_buildRow hbu.out rfl rfl (by simp [Act.eval]) ?_))
  exact bodyPost_ret (v := .agg t.cs.toArray) (result_row row83 hl2 HZ.out rfl rfl) rfl ⟨rfl, below_setRow ((((Below.refl _ _).alloc (by first | (simp <;> omega) | omega) _).alloc (by first | (simp <;> omega) | omega) _).alloc (by first | (simp <;> omega) | omega) _) (by first | omega | (simp; done) | (simp; omega)) _⟩
theorem window_any (t : Tm) (w : World) (h0 : -1000 ≤ t.u.a - t.u.c ∧ t.u.a - t.u.c ≤ 1000) (h1 : -1000000 ≤ t.k.step * (t.u.a - t.u.c) ∧ t.k.step * (t.u.a - t.u.c) ≤ 1000000) :
    Calls Tryz.prog 147 #[.agg t.cs.toArray] w fun e w' => e = .returned (.int .i64 (t.k.step * (t.u.a - t.u.c))) ∧ Below w.heap.size w w' := by
  have e9 : ∀ h : 9 < t.cs.length, t.cs[9] = .int .i64 t.k.step := fun _ => rfl
  have e18 : ∀ h : 18 < t.cs.length, t.cs[18] = .int .i64 t.u.a := fun _ => rfl
  have e20 : ∀ h : 20 < t.cs.length, t.cs[20] = .int .i64 t.u.c := fun _ => rfl
  have hl : t.cs.length = 22 := rfl
  go_enter Tryz.func147, Tryz.ntmps147
  go_wp2
  go_ret
  exact ⟨rfl, (Below.refl _ _).alloc (Nat.le_refl _) _⟩
def Tm.dist (t : Tm) (s : Int) : Int := 2 * t.k.half - t.k.step * (t.u.b + t.u.c) - s
theorem distance_any' (t : Tm) (s : Int) (w : World) (hh : 0 ≤ t.k.half ∧ t.k.half ≤ 1000000) (h0 : 0 ≤ t.u.b + t.u.c ∧ t.u.b + t.u.c ≤ 1000) (h1 : -1000000 ≤ t.k.step * (t.u.b + t.u.c) ∧ t.k.step * (t.u.b + t.u.c) ≤ 1000000) (hs : -1000000 ≤ s ∧ s ≤ 1000000) :
    Calls Tryz.prog 97 #[.agg t.cs.toArray, .int .i64 s] w fun e w' => e = .returned (.int .i64 (t.dist s)) ∧ Below w.heap.size w w' := by
  unfold Tm.dist
  have e8 : ∀ h : 8 < t.cs.length, t.cs[8] = .int .i64 t.k.half := fun _ => rfl
  have e9 : ∀ h : 9 < t.cs.length, t.cs[9] = .int .i64 t.k.step := fun _ => rfl
  have e19 : ∀ h : 19 < t.cs.length, t.cs[19] = .int .i64 t.u.b := fun _ => rfl
  have e20 : ∀ h : 20 < t.cs.length, t.cs[20] = .int .i64 t.u.c := fun _ => rfl
  have hl : t.cs.length = 22 := rfl
  go_enter Tryz.func97, Tryz.ntmps97
  go_wp2
  go_ret
  exact ⟨rfl, (Below.refl _ _).alloc (Nat.le_refl _) _⟩
theorem kept_any (t : Tm) (l r : Int) (w : World) (hh : 0 ≤ t.k.half ∧ t.k.half ≤ 1000000) (h0 : -1000000 ≤ t.k.step * l ∧ t.k.step * l ≤ 1000000) (h1 : -1000000 ≤ t.k.step * r ∧ t.k.step * r ≤ 1000000) :
    Calls Tryz.prog 175 #[.agg t.cs.toArray, .int .i64 l, .int .i64 r] w fun e w' => e = .returned (.agg #[.int .i64 (-t.k.half + t.k.step * l), .int .i64 (t.k.half - t.k.step * r)]) ∧ Below w.heap.size w w' := by
  have e8 : ∀ h : 8 < t.cs.length, t.cs[8] = .int .i64 t.k.half := fun _ => rfl
  have e9 : ∀ h : 9 < t.cs.length, t.cs[9] = .int .i64 t.k.step := fun _ => rfl
  have hl : t.cs.length = 22 := rfl
  go_enter Tryz.func175, Tryz.ntmps175
  go_wp2_with (go_at_call 58; refine (mspan_any _ _ _).mono ?_; rintro e w1 ⟨rfl, hb1⟩; obtain ⟨hc1, hf1, hz1⟩ := bcell (hb1))
  exact bodyPost_ret (v := .agg #[.int .i64 (-t.k.half + t.k.step * l), .int .i64 (t.k.half - t.k.step * r)]) (by simp [results, Tryz.results175, go_sem, hc1]) rfl ⟨rfl, (((bgr (((Below.refl _ _).alloc (by first | (simp <;> omega) | omega) _).alloc (by first | (simp <;> omega) | omega) _) (by first | (simp <;> omega) | omega) hb1).setCell (by first | (simp <;> omega) | omega) _).setCell (by first | (simp <;> omega) | omega) _)⟩
theorem leftPrint_any (t : Tm) (w : World) (hh : 0 ≤ t.k.half ∧ t.k.half ≤ 1000000) (h0 : -1000000 ≤ t.k.step * t.u.a ∧ t.k.step * t.u.a ≤ 1000000) (h1 : -1000000 ≤ t.k.step * t.u.b ∧ t.k.step * t.u.b ≤ 1000000) :
    Calls Tryz.prog 173 #[.agg t.cs.toArray] w fun e w' => e = .returned (.agg #[.int .i64 (-t.k.half + t.k.step * t.u.a), .int .i64 (t.k.half - t.k.step * t.u.b)]) ∧ Below w.heap.size w w' := by
  have HK := Lib.hid (fun W => kept_any t (t.u.a) (t.u.b) W hh h0 h1)
  have e18 : ∀ h : 18 < t.cs.length, t.cs[18] = .int .i64 t.u.a := fun _ => rfl
  have e19 : ∀ h : 19 < t.cs.length, t.cs[19] = .int .i64 t.u.b := fun _ => rfl
  have hl : t.cs.length = 22 := rfl
  have HB := Lib.hid (Box.fresh w t.cs 83)
  go_enter Tryz.func173, Tryz.ntmps173
  go_wp2_with (first | (refine wlb row83 t.cs_len (HB.out.grow (Gr.alloc _ _)) rfl rfl rfl ?_) | go_at_call 175; refine (HK.out _).mono ?_; rintro e w1 ⟨rfl, hb1⟩; obtain ⟨hc1, hf1, hz1⟩ := bcell (hb1))
  exact bodyPost_ret (v := .agg #[.int .i64 (-t.k.half + t.k.step * t.u.a), .int .i64 (t.k.half - t.k.step * t.u.b)]) (by simp [results, Tryz.results173, go_sem, hc1]) rfl ⟨rfl, (((bgr (((Below.refl _ _).alloc (by first | (simp <;> omega) | omega) _).alloc (by first | (simp <;> omega) | omega) _) (by first | (simp <;> omega) | omega) hb1).setCell (by first | (simp <;> omega) | omega) _).setCell (by first | (simp <;> omega) | omega) _)⟩
theorem rightPrint_any (t : Tm) (w : World) (hh : 0 ≤ t.k.half ∧ t.k.half ≤ 1000000) (h0 : -1000000 ≤ t.k.step * t.u.c ∧ t.k.step * t.u.c ≤ 1000000) (h1 : -1000000 ≤ t.k.step * t.u.d ∧ t.k.step * t.u.d ≤ 1000000) :
    Calls Tryz.prog 174 #[.agg t.cs.toArray] w fun e w' => e = .returned (.agg #[.int .i64 (-t.k.half + t.k.step * t.u.c), .int .i64 (t.k.half - t.k.step * t.u.d)]) ∧ Below w.heap.size w w' := by
  have HK := Lib.hid (fun W => kept_any t (t.u.c) (t.u.d) W hh h0 h1)
  have e20 : ∀ h : 20 < t.cs.length, t.cs[20] = .int .i64 t.u.c := fun _ => rfl
  have e21 : ∀ h : 21 < t.cs.length, t.cs[21] = .int .i64 t.u.d := fun _ => rfl
  have hl : t.cs.length = 22 := rfl
  have HB := Lib.hid (Box.fresh w t.cs 83)
  go_enter Tryz.func174, Tryz.ntmps174
  go_wp2_with (first | (refine wlb row83 t.cs_len (HB.out.grow (Gr.alloc _ _)) rfl rfl rfl ?_) | go_at_call 175; refine (HK.out _).mono ?_; rintro e w1 ⟨rfl, hb1⟩; obtain ⟨hc1, hf1, hz1⟩ := bcell (hb1))
  exact bodyPost_ret (v := .agg #[.int .i64 (-t.k.half + t.k.step * t.u.c), .int .i64 (t.k.half - t.k.step * t.u.d)]) (by simp [results, Tryz.results174, go_sem, hc1]) rfl ⟨rfl, (((bgr (((Below.refl _ _).alloc (by first | (simp <;> omega) | omega) _).alloc (by first | (simp <;> omega) | omega) _) (by first | (simp <;> omega) | omega) hb1).setCell (by first | (simp <;> omega) | omega) _).setCell (by first | (simp <;> omega) | omega) _)⟩
theorem distances_any' (t : Tm) (w : World) (h0 : 0 ≤ t.k.elo ∧ t.k.elo ≤ 1000000) (h1 : 0 ≤ t.k.ehi ∧ t.k.ehi ≤ 1000000) (h2 : 0 ≤ t.k.prism ∧ t.k.prism ≤ 1000000) (h3 : 0 ≤ t.k.squeeze ∧ t.k.squeeze ≤ 1000000) :
    Calls Tryz.prog 128 #[.agg t.cs.toArray] w fun e w' => e = .returned (.agg #[.int .i64 (t.k.ehi - t.k.squeeze), .int .i64 (t.k.elo + t.k.prism)]) ∧ Below w.heap.size w w' := by
  have e11 : ∀ h : 11 < t.cs.length, t.cs[11] = .int .i64 t.k.elo := fun _ => rfl
  have e12 : ∀ h : 12 < t.cs.length, t.cs[12] = .int .i64 t.k.ehi := fun _ => rfl
  have e13 : ∀ h : 13 < t.cs.length, t.cs[13] = .int .i64 t.k.prism := fun _ => rfl
  have e14 : ∀ h : 14 < t.cs.length, t.cs[14] = .int .i64 t.k.squeeze := fun _ => rfl
  have hl : t.cs.length = 22 := rfl
  go_enter Tryz.func128, Tryz.ntmps128
  go_wp2_with (go_at_call 58; refine (mspan_any _ _ _).mono ?_; rintro e w1 ⟨rfl, hb1⟩; obtain ⟨hc1, hf1, hz1⟩ := bcell (hb1))
  exact bodyPost_ret (v := .agg #[.int .i64 (t.k.ehi - t.k.squeeze), .int .i64 (t.k.elo + t.k.prism)]) (by simp [results, Tryz.results128, go_sem, hc1]) rfl ⟨rfl, (((bgr (((Below.refl _ _).alloc (by first | (simp <;> omega) | omega) _).alloc (by first | (simp <;> omega) | omega) _) (by first | (simp <;> omega) | omega) hb1).setCell (by first | (simp <;> omega) | omega) _).setCell (by first | (simp <;> omega) | omega) _)⟩
theorem unhurt_any (w : World) :
    Calls Tryz.prog 55 #[] w fun e w' => e = .returned (.agg #[.int .i64 0, .int .i64 0]) ∧ Below w.heap.size w w' := by
  go_enter Tryz.func55, Tryz.ntmps55
  go_wp2
  exact bodyPost_ret (v := .agg #[.int .i64 0, .int .i64 0]) (by simp [results, Tryz.results55, go_sem]) rfl ⟨rfl, ((Below.refl _ _).alloc (by first | (simp <;> omega) | omega) _)⟩
theorem rankOf_any (ca cb cc cd : Int) (w : World) (h : -1000 ≤ ca ∧ ca ≤ 1000 ∧ -1000 ≤ cb ∧ cb ≤ 1000 ∧ -1000 ≤ cc ∧ cc ≤ 1000 ∧ -1000 ≤ cd ∧ cd ≤ 1000) :
    Calls Tryz.prog 109 #[.agg #[.int .i64 ca, .int .i64 cb, .int .i64 cc, .int .i64 cd]] w fun e w' => e = .returned (.agg #[.int .i64 (ca + cb + cc + cd), .int .i64 ca, .int .i64 cb, .int .i64 cc, .int .i64 cd]) ∧ Below w.heap.size w w' := by
  obtain ⟨a0, a1, b0, b1, c0, c1, d0, d1⟩ := h
  go_enter Tryz.func109, Tryz.ntmps109
  go_wp2
  exact bodyPost_ret (v := .agg #[.int .i64 (ca + cb + cc + cd), .int .i64 ca, .int .i64 cb, .int .i64 cc, .int .i64 cd]) (by simp [results, Tryz.results109, go_sem]) rfl ⟨rfl, (((Below.refl _ _).alloc (by first | (simp <;> omega) | omega) _).alloc (by first | (simp <;> omega) | omega) _)⟩
end Go.Proofs.YtcngaohfemdfjaaGreat
namespace Go.Proofs.YtcngaohfemdfjaaGreat
open Go.RowKit
theorem minside_is {n lo hi : Int} {v : Bool} (h : (decide (lo ≤ n) && decide (n ≤ hi)) = v) (w : World) :
    Calls Tryz.prog 120 #[.int .i64 n, .agg #[.int .i64 lo, .int .i64 hi]] w fun e w' => e = .returned (.bool v) ∧ Below w.heap.size w w' := by
  rw [← h]; exact minside_any n lo hi w
def Cd.vd (k : Cd) : Nat → Bool
  | 0 => decide (1 ≤ k.half) && decide (k.half ≤ 4000)
  | 1 => decide (1 ≤ k.step) && decide (k.step ≤ 100)
  | 2 => decide (0 ≤ k.cuts) && decide (k.cuts ≤ 40)
  | 3 => decide (1 ≤ k.elo)
  | 4 => decide (k.elo ≤ k.ehi)
  | 5 => decide (k.ehi ≤ 10000)
  | 6 => decide (0 ≤ k.prism) && decide (k.prism ≤ 10000)
  | 7 => decide (0 ≤ k.squeeze) && decide (k.squeeze ≤ 10000)
  | 8 => decide (0 ≤ k.front) && decide (k.front ≤ 10000)
  | _ => decide (0 ≤ k.deep) && decide (k.deep ≤ 10000)
def Cd.okc (k : Cd) : Bool := (List.range 10).all k.vd
end Go.Proofs.YtcngaohfemdfjaaGreat
namespace Go.Proofs.YtcngaohfemdfjaaGreat
open Go.RowKit
def lefts (m s : Int) : List Int := (List.range (imin s m + 1 - imax 0 (s - m)).toNat).map fun (i : Nat) => imax 0 (s - m) + i
theorem imin_le (a b x : Int) : x ≤ imin a b ↔ x ≤ a ∧ x ≤ b := by unfold imin; split <;> omega
theorem imax_le (a b x : Int) : imax a b ≤ x ↔ a ≤ x ∧ b ≤ x := by unfold imax; split <;> omega
theorem mem_lefts {m s l : Int} : l ∈ lefts m s ↔ (0 ≤ l ∧ s - m ≤ l) ∧ l ≤ s ∧ l ≤ m := by
  unfold lefts
  simp only [List.mem_map, List.mem_range]
  have h1 := imax_le 0 (s - m) l
  have h2 := imin_le s m l
  generalize imax 0 (s - m) = p at *
  generalize imin s m = q at *
  rw [← h1, ← h2]
  constructor
  · rintro ⟨i, hi, rfl⟩; omega
  · intro h; exact ⟨(l - p).toNat, by omega, by omega⟩
theorem lefts_lt (m s : Int) : (lefts m s).Pairwise (· < ·) := by
  unfold lefts
  rw [List.pairwise_map]
  exact List.pairwise_lt_range.imp fun h => by omega
theorem lefts_len (m s : Int) : (lefts m s).length = (imin s m + 1 - imax 0 (s - m)).toNat := by unfold lefts; simp
theorem lefts_at (m s : Int) (i : Nat) (h : i < (lefts m s).length) : (lefts m s)[i]? = some (imax 0 (s - m) + i) := by
  rw [lefts_len] at h
  unfold lefts
  simp [h]
theorem lefts_take (m s : Int) (i : Nat) (h : i < (lefts m s).length) : (lefts m s).take (i + 1) = (lefts m s).take i ++ [imax 0 (s - m) + i] := by
  rw [List.take_add_one, lefts_at m s i h]; rfl
end Go.Proofs.YtcngaohfemdfjaaGreat
namespace Go.Proofs.YtcngaohfemdfjaaGreat
open Go.RowKit
theorem lay_tail {P : Program} {ops : Array Oper} {Q : Exit → Act → World → Prop} {o : Oper} {A : Act} {W : World} {vs : Nat → Value} {n i d t : Nat} {x : Value} (ho : o.op = .assign (.tmp t)) (hd : o.dst = some d) (hg : o.guard = none)
    (hin : i < n) (hi : (ops[i]?).bind (·.dst) = some t) (hs : t < A.tmps.size) (hu : (List.range n).all (fun j => decide ((ops[j]?).bind (·.dst) = some t → j = i)) = true) (hx : vs i = x)
    (h : ∀ B : Act, B.defers = A.defers → B.tmps.size = A.tmps.size → Q .normal (B.put (some d) x) W) : wpList P ops Q [o] (lay ops vs n A) W := by
  have h1 := lay_at (ops := ops) vs n A hin hi hs (fun j hj he => of_decide_eq_true (List.all_eq_true.1 hu j (List.mem_range.2 hj)) he)
  have h2 := lay_defers (ops := ops) vs n A
  have h3 := lay_size (ops := ops) vs n A
  generalize lay ops vs n A = B at *
  refine wpList_plain hg fun K hK => ?_
  unfold Oper.wp execOp
  have h4 : B.eval (.tmp t) = x := by simp [Act.eval, h1, hx]
  simp only [ho, Sem.run_bind, h4, Sem.run_pure, Result.andThen_ok, hd]
  have h5 := h B h2 h3
  rw [← hd] at h5
  exact hK _ _ (wpList_nil h5)
end Go.Proofs.YtcngaohfemdfjaaGreat
