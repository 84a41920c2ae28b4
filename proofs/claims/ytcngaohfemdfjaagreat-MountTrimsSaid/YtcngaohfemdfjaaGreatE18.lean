import Derived.Test.YtcngaohfemdfjaaGreatE04
import Derived.Test.YtcngaohfemdfjaaGreatE12
import Derived.Test.YtcngaohfemdfjaaGreatE15
set_option linter.unusedVariables false
set_option linter.unusedSimpArgs false
set_option maxRecDepth 100000
set_option maxHeartbeats 60000000
namespace Go.Proofs.YtcngaohfemdfjaaGreat
open Go.RowKit Go.Shelf
attribute [local go_sem] Oper.semAt_some
theorem IntsAt.alone (a : Int) (W : World) (T : TypeId) : IntsAt [a] (.slice (some ⟨W.heap.size, 0, none⟩) 1 1) (W.alloc (.cells #[.int .i64 a] T)) := IntsAt.new [a] W T (by simp)
structure Lf (m s : Int) where
  v : Int
  mem : v ∈ lefts m s
def encL {m s : Int} (x : Lf m s) : Array Value := #[.int .i64 x.v, .int .i64 (s - x.v)]
theorem splits1_any (k : Cd) (mb bs bl y : Nat) (s : Int) (J Jx : List (Lf k.cuts s) → World → Prop) (W : World) (hm : 0 ≤ k.cuts ∧ k.cuts ≤ 40) (hs : 0 ≤ s ∧ s ≤ 2 * k.cuts)
    (hAJ : ∀ s A B, J s A → Gr A B → J s B)
    (hY : ∀ pre x W, J pre W → pre.length < 1000 → YieldAt Fence.wide 7 Tryz.prog y (encL x) W fun e W' =>
      (e = .returned (.bool true) ∧ J (pre ++ [x]) W' ∧ KeepAt [bs, bl] W W') ∨ (e = .returned (.bool false) ∧ Jx (pre ++ [x]) W'))
    (hbs : Box W bs [.int .i64 s] 3) (hbl : Box W bl (k.lk mb) 71) (h0 : J [] W) :
    CallsIn Fence.wide 8 Tryz.prog 148 #[.func (.yield y) #[] #[], .pointer (some ⟨bs, 0, none⟩), .pointer (some ⟨bl, 0, none⟩)] W fun e W' => (∃ v, e = .returned v) ∧
      ((∃ ys : List (Lf k.cuts s), ys.map Lf.v = lefts k.cuts s ∧ J ys W') ∨ (∃ pre : List (Lf k.cuts s), (∃ rest, lefts k.cuts s = pre.map Lf.v ++ rest) ∧ Jx pre W')) := by
  have HAJ := Lib.hid hAJ
  have HY := Lib.hid hY
  have HBL := Lib.hid hbl
  have HBS := Lib.hid hbs
  have H0 := Lib.hid h0
  have c0 := hbs.cell (i := 0) rfl
  have c10 := hbl.cell (i := 10) rfl
  clear hAJ hY hbl hbs h0
  have hN := lefts_len k.cuts s
  have hlo : imax 0 (s - k.cuts) ≤ imin s k.cuts ∧ 0 ≤ imax 0 (s - k.cuts) ∧ imin s k.cuts ≤ 40 := by unfold imax imin; constructor <;> split <;> split <;> omega
  refine callsIn_of_wp Tryz.func148 rfl trivial ?_ rfl
  simp only [Tryz.ntmps148, List.size_toArray, List.length_cons, List.length_nil, Nat.reduceAdd, Nat.reduceSub, Array.replicate_succ, Array.replicate_zero, List.push_toArray, List.append_toArray, List.nil_append, List.cons_append]
  gi_wp2_with (refine ⟨trivial, ?_⟩; gi_at_call 126; refine (callsIn_wide.2 (greatest_any _ _ _ _ (IntsAt.alone _ _ _))).mono ?_; rintro e w1 ⟨rfl, hb1⟩)
  have HG1 := Lib.hid (show Gr W w1 from (Gr.alloc _ _).tr hb1)
  clear hb1 c0 c10
  gi_loopw [4] (fun t wr => ∃ i : Nat, i ≤ (lefts k.cuts s).length ∧ t = .int .i64 (imax 0 (s - k.cuts) + i) ∧ Hid (∃ ys : List (Lf k.cuts s), ys.map Lf.v = (lefts k.cuts s).take i ∧ J ys wr) ∧ KeepAt [bs, bl] W wr) (fun t _ => (50 - intOf t).toNat)
  case atStart => exact ⟨0, Nat.zero_le _, by simp, Lib.hid ⟨[], rfl, HAJ.out _ _ _ H0.out HG1.out⟩, KeepAt.of HG1.out⟩
  case round =>
    obtain ⟨i, hi, rfl, HJ, hK⟩ := hrel
    have HK := Lib.hid hK
    clear hK
    have c0 := (HK.out.box HBS.out (by simp)).cell (i := 0) rfl
    have c10 := (HK.out.box HBL.out (by simp)).cell (i := 10) rfl
    have l0 := (HK.out.box HBS.out (by simp)).lt
    have l10 := (HK.out.box HBL.out (by simp)).lt
    by_cases hlt : i < (lefts k.cuts s).length
    · have hle : imax 0 (s - k.cuts) + i ≤ imin s k.cuts := by omega
      have hub : imax 0 (s - k.cuts) + i ≤ 40 := by omega
      have hlb : 0 ≤ imax 0 (s - k.cuts) + (i : Int) := by omega
      have hmem : imax 0 (s - k.cuts) + i ∈ lefts k.cuts s := List.mem_of_getElem? (lefts_at k.cuts s i hlt)
      have HT := Lib.hid (lefts_take k.cuts s i hlt)
      obtain ⟨ys, hys, hJ⟩ := HJ.out
      have hyl : ys.length < 1000 := by
        have := congrArg List.length hys
        rw [List.length_map, List.length_take] at this
        omega
      have HYS := Lib.hid hys
      have HJ2 := Lib.hid hJ
      clear hys hJ
      gi_wp2_with (refine ⟨trivial, ?_⟩; gi_at_call 127; refine (callsIn_wide.2 (least_any _ _ _ _ (IntsAt.alone _ _ _))).mono ?_; rintro e w2 ⟨rfl, hb2⟩; have HG2 := Lib.hid (show Gr wr w2 from (Gr.alloc _ _).tr hb2); obtain ⟨hc2, hf2, hz2⟩ := bcell HG2.out; clear hb2; obtain ⟨fn3, t3, a3, b3, hy3, hR3⟩ := HY.out ys ⟨_, hmem⟩ w2 (HAJ.out _ _ _ HJ2.out HG2.out) hyl; dsimp only [encL] at hy3)
      refine hR3.mono ?_
      rintro e W3 (⟨rfl, hJ3, hk3⟩ | ⟨rfl, hx3⟩)
      · have HJ3 := Lib.hid hJ3
        have HK3 := Lib.hid (HK.out.trans ((KeepAt.of HG2.out).trans hk3))
        clear hJ3 hk3 hy3 hR3 hc2 hf2 hz2 c0 c10
        gi_wp2
        refine ⟨⟨i + 1, by omega, by go_num, Lib.hid ⟨_, ?_, HJ3.out⟩, HK3.out⟩, by simp [intOf]; omega⟩
        rw [HT.out, List.map_append, HYS.out]
        rfl
      · gi_wp2
        refine bodyPost_ret (results_none rfl _ _ _) rfl ?_
        refine ⟨⟨_, rfl⟩, .inr ⟨_, ⟨(lefts k.cuts s).drop (i + 1), ?_⟩, hx3⟩⟩
        rw [List.map_append, HYS.out]
        show lefts k.cuts s = (lefts k.cuts s).take i ++ [_] ++ _
        rw [← HT.out, List.take_append_drop]
    · have hle : ¬ imax 0 (s - k.cuts) + i ≤ imin s k.cuts := by omega
      have hub : imax 0 (s - k.cuts) + i ≤ 50 := by omega
      have hil : i = (lefts k.cuts s).length := by omega
      have HIL := Lib.hid hil
      clear hil
      gi_wp2_with (refine ⟨trivial, ?_⟩; gi_at_call 127; refine (callsIn_wide.2 (least_any _ _ _ _ (IntsAt.alone _ _ _))).mono ?_; rintro e w2 ⟨rfl, hb2⟩; have HG2 := Lib.hid (show Gr wr w2 from (Gr.alloc _ _).tr hb2); clear hb2)
      go_end0
      obtain ⟨ys, hys, hJ⟩ := HJ.out
      refine ⟨⟨_, rfl⟩, .inl ⟨ys, ?_, HAJ.out _ _ _ hJ HG2.out⟩⟩
      rw [hys, HIL.out, List.take_length]
end Go.Proofs.YtcngaohfemdfjaaGreat
namespace Go.Proofs.YtcngaohfemdfjaaGreat
open Go.RowKit
def Cu.sum (u : Cu) : Int := u.a + u.b + u.c + u.d
def Cu.bef (u v : Cu) : Prop := u.sum < v.sum ∨ u.sum = v.sum ∧ (u.a < v.a ∨ u.a = v.a ∧ (u.b < v.b ∨ u.b = v.b ∧ u.c < v.c))
def trimsAt (m s : Int) : List Cu := (lefts m s).flatMap fun l => (lefts m s).map fun r => ⟨l, s - l, r, s - r⟩
def trims (m : Int) : List Cu := (List.range (2 * m + 1).toNat).flatMap fun (s : Nat) => trimsAt m s
theorem mem_trimsAt {m s : Int} {u : Cu} : u ∈ trimsAt m s ↔ u.isT m = true ∧ u.a + u.b = s := by
  unfold trimsAt
  simp only [List.mem_flatMap, List.mem_map, mem_lefts]
  obtain ⟨a, b, c, d⟩ := u
  simp only [Cu.isT, Bool.and_eq_true, decide_eq_true_eq, Cu.mk.injEq]
  constructor
  · rintro ⟨l, hl, r, hr, rfl, rfl, rfl, rfl⟩; omega
  · intro h; exact ⟨a, by omega, c, by omega, rfl, by omega, rfl, by omega⟩
theorem mem_trims {m : Int} {u : Cu} : u ∈ trims m ↔ u.isT m = true := by
  unfold trims
  simp only [List.mem_flatMap, List.mem_range, mem_trimsAt]
  constructor
  · rintro ⟨s, -, h, -⟩; exact h
  · intro h
    have h' := h
    simp only [Cu.isT, Bool.and_eq_true, decide_eq_true_eq] at h'
    exact ⟨(u.a + u.b).toNat, by omega, h, by omega⟩
theorem trims_bef (m : Int) : (trims m).Pairwise Cu.bef := by
  unfold trims
  rw [List.pairwise_flatMap]
  refine ⟨fun s _ => ?_, List.pairwise_lt_range.imp fun {s t} hst u hu v hv => ?_⟩
  · unfold trimsAt
    rw [List.pairwise_flatMap]
    refine ⟨fun l _ => ?_, (lefts_lt m s).imp fun {l l'} hl u hu v hv => ?_⟩
    · rw [List.pairwise_map]
      exact (lefts_lt m s).imp fun h => .inr ⟨by simp [Cu.sum]; omega, .inr ⟨rfl, .inr ⟨rfl, h⟩⟩⟩
    · obtain ⟨r, -, rfl⟩ := List.mem_map.1 hu
      obtain ⟨r', -, rfl⟩ := List.mem_map.1 hv
      exact .inr ⟨by simp [Cu.sum]; omega, .inl hl⟩
  · have h1 := mem_trimsAt.1 hu
    have h2 := mem_trimsAt.1 hv
    have e1 := h1.1
    have e2 := h2.1
    simp only [Cu.isT, Bool.and_eq_true, decide_eq_true_eq] at e1 e2
    exact .inl (by unfold Cu.sum; omega)
theorem Cu.bef.irr {u v : Cu} (h : u.bef v) : ¬ v.bef u := by unfold Cu.bef at *; omega
structure Rk where
  steps : Int
  u : Cu
def Rk.bef (r s : Rk) : Prop := r.steps < s.steps ∨ r.steps = s.steps ∧ (r.u.a < s.u.a ∨ r.u.a = s.u.a ∧ (r.u.b < s.u.b ∨ r.u.b = s.u.b ∧ r.u.c < s.u.c))
instance (r s : Rk) : Decidable (r.bef s) := by unfold Rk.bef; infer_instance
def Cu.rk (u : Cu) : Rk := ⟨u.sum, u⟩
def Rk.none (m : Int) : Rk := ⟨4 * m + 1, ⟨0, 0, 0, 0⟩⟩
def Rk.take (ok : Cu → Bool) (b : Rk) (x : Cu) : Rk := if x.rk.bef b ∧ ok x = true then x.rk else b
def Rk.of (ok : Cu → Bool) (m : Int) (l : List Cu) : Rk := l.foldl (Rk.take ok) (Rk.none m)
theorem Rk.of_snoc (ok : Cu → Bool) (m : Int) (l : List Cu) (x : Cu) : Rk.of ok m (l ++ [x]) = (Rk.of ok m l).take ok x := by simp [Rk.of]
def Rk.ofOpt (m : Int) : Option Cu → Rk
  | .none => Rk.none m
  | some u => u.rk
theorem isT_sum {u : Cu} {m : Int} (h : u.isT m = true) : 0 ≤ u.sum ∧ u.sum ≤ 4 * m := by
  simp only [Cu.isT, Bool.and_eq_true, decide_eq_true_eq] at h
  unfold Cu.sum; omega
theorem Rk.of_find (ok : Cu → Bool) (m : Int) : ∀ (n : Nat), Rk.of ok m ((trims m).take n) = Rk.ofOpt m (((trims m).take n).find? ok)
  | 0 => rfl
  | n + 1 => by
    by_cases hn : n < (trims m).length
    · rw [List.take_succ_eq_append_getElem hn, Rk.of_snoc, Rk.of_find ok m n, List.find?_append]
      have hx : (trims m)[n].isT m = true := mem_trims.1 (List.getElem_mem hn)
      have hs := isT_sum hx
      cases hf : ((trims m).take n).find? ok with
      | none =>
        simp only [Option.none_or, Rk.ofOpt, Rk.take]
        have hb : (trims m)[n].rk.bef (Rk.none m) := .inl (by simp [Cu.rk, Rk.none]; omega)
        cases ho : ok (trims m)[n] <;> simp [ho, hb, List.find?]
      | some u =>
        have hu := List.mem_of_find?_eq_some hf
        obtain ⟨j, hj, rfl⟩ := List.getElem_of_mem hu
        have hjn : j < n := by simp at hj; omega
        have hb : ((trims m)[j]'(by omega)).bef (trims m)[n] := List.pairwise_iff_getElem.1 (trims_bef m) j n (by omega) hn hjn
        have hnb : ¬ (trims m)[n].rk.bef ((trims m)[j]'(by omega)).rk := hb.irr
        simp only [Option.some_or, Rk.ofOpt, Rk.take, List.getElem_take]
        rw [if_neg (fun h => hnb h.1)]
    · rw [List.take_of_length_le (by omega)]
      have := Rk.of_find ok m n
      rwa [List.take_of_length_le (by omega)] at this
theorem Rk.of_stop {ok : Cu → Bool} {m : Int} {n : Nat} {x : Cu} (hm : x.isT m = true) (h : (Rk.of ok m ((trims m).take n)).steps < x.sum) : Rk.of ok m ((trims m).take n) = Rk.ofOpt m ((trims m).find? ok) := by
  rw [Rk.of_find] at h ⊢
  cases hf : ((trims m).take n).find? ok with
  | none =>
    rw [hf] at h
    have := isT_sum hm
    simp [Rk.ofOpt, Rk.none] at h
    omega
  | some u =>
    have : (trims m).find? ok = some u := by
      rw [← List.take_append_drop n (trims m), List.find?_append, hf]; rfl
    rw [this]
theorem Rk.of_all (ok : Cu → Bool) (m : Int) : Rk.of ok m (trims m) = Rk.ofOpt m ((trims m).find? ok) := by
  have := Rk.of_find ok m (trims m).length
  rwa [List.take_length] at this
end Go.Proofs.YtcngaohfemdfjaaGreat
