import Derived.Test.YtjlaoiimbhlafaaC1
set_option linter.unusedVariables false
set_option linter.unusedSimpArgs false
namespace Go.Proofs.Ytjlaoiimbhlafaa
open Go.RowKit Go.Shelf

open MW
attribute [local go_sem] Oper.semAt_some
/-- A number below a bound that is wanted. -/
structure Wt (many : Nat) (f : Nat → Bool) where
  v : Nat
  lt : v < many
  is : f v = true
def encW {many : Nat} {f : Nat → Bool} (x : Wt many f) : Array Value := #[.int .i64 x.v]
def wts (many : Nat) (f : Nat → Bool) : List Nat := (List.range many).filter f
theorem wts_succ (n : Nat) (f : Nat → Bool) : wts (n + 1) f = wts n f ++ (if f n then [n] else []) := by
  unfold wts
  rw [List.range_succ, List.filter_append]
  cases h : f n <;> simp [h]
theorem wts_len (n : Nat) (f : Nat → Bool) : (wts n f).length ≤ n := by
  unfold wts
  have := List.length_filter_le f (List.range n)
  rwa [List.length_range] at this
theorem wts_pre (f : Nat → Bool) {n : Nat} : ∀ {m : Nat}, n ≤ m → ∃ rest, wts m f = wts n f ++ rest
  | 0, h => ⟨[], by have : n = 0 := by omega
                    subst this; simp⟩
  | m + 1, h => by
    by_cases hn : n = m + 1
    · exact ⟨[], by rw [hn]; simp⟩
    · obtain ⟨r, hr⟩ := wts_pre f (show n ≤ m by omega)
      exact ⟨r ++ _, by rw [wts_succ, hr, List.append_assoc]⟩
set_option maxRecDepth 100000 in
set_option maxHeartbeats 2000000 in
theorem marksH_any (m : Nat) (many : Nat) (f : Nat → Bool) (S : List Nat) (b1 b2 y : Nat) (J Jx : List (Wt many f) → World → Prop) (W : World) (hmany : many ≤ 20)
    (hf : ∀ W', KeepAt S W W' → ∀ k : Nat, k < many → Calls Try.prog 68 #[.int .i64 m, .int .i64 k] W' fun e w' => e = .returned (.bool (f k)) ∧ Below W'.heap.size W' w')
    (hAJ : ∀ s A B, J s A → Gr A B → J s B)
    (hY : ∀ pre x W, J pre W → pre.length < 1000 → YieldAt Fence.wide 7 Try.prog y (encW x) W fun e W' =>
      (e = .returned (.bool true) ∧ J (pre ++ [x]) W' ∧ KeepAt (b1 :: b2 :: S) W W') ∨ (e = .returned (.bool false) ∧ Jx (pre ++ [x]) W'))
    (hb1 : Box W b1 [.int .i64 many] 3) (hb2 : Box W b2 [.func (.func 68) #[.int .i64 m] #[]] 102) (h0 : J [] W) :
    CallsIn Fence.wide 8 Try.prog 107 #[.func (.yield y) #[] #[], .pointer (some ⟨b1, 0, none⟩), .pointer (some ⟨b2, 0, none⟩)] W fun e W' => (∃ v, e = .returned v) ∧
      ((∃ ys : List (Wt many f), ys.map Wt.v = wts many f ∧ J ys W') ∨ (∃ pre : List (Wt many f), (∃ rest, wts many f = pre.map Wt.v ++ rest) ∧ Jx pre W')) := by
  have HF := Lib.hid hf
  have HAJ := Lib.hid hAJ
  have HY := Lib.hid hY
  have HB1 := Lib.hid hb1
  have HB2 := Lib.hid hb2
  have H0 := Lib.hid h0
  have c0 := hb1.cell (i := 0) rfl
  have l0 := hb1.lt
  clear hf hAJ hY hb1 hb2 h0
  refine callsIn_of_wp Try.func107 rfl trivial ?_ rfl
  simp only [Try.ntmps107, List.size_toArray, List.length_cons, List.length_nil, Nat.reduceAdd, Nat.reduceSub, Array.replicate_succ, Array.replicate_zero, List.push_toArray, List.append_toArray, List.nil_append, List.cons_append]
  gi_wp2
  gi_loopw [6] (fun t wr => ∃ i : Nat, i ≤ many ∧ t = .int .i64 i ∧ Hid (∃ ys : List (Wt many f), ys.map Wt.v = wts i f ∧ J ys wr) ∧ KeepAt (b1 :: b2 :: S) W wr) (fun t _ => (50 - intOf t).toNat)
  case atStart => exact ⟨0, Nat.zero_le _, rfl, Lib.hid ⟨[], rfl, H0.out⟩, KeepAt.refl _ _⟩
  case round =>
    obtain ⟨i, hi, rfl, HJ, hK⟩ := hrel
    have HK := Lib.hid hK
    clear hK c0 l0
    have c2 := (HK.out.box HB2.out (by simp)).cell (i := 0) rfl
    have l2 := (HK.out.box HB2.out (by simp)).lt
    by_cases hlt : i < many
    · have HS := Lib.hid (wts_succ i f)
      obtain ⟨ys, hys, hJ⟩ := HJ.out
      have hyl : ys.length < 1000 := by
        have h1 := congrArg List.length hys
        have h2 := wts_len i f
        rw [List.length_map] at h1
        omega
      have HYS := Lib.hid hys
      have HJ2 := Lib.hid hJ
      have HC := Lib.hid (HF.out wr (HK.out.mono fun k hk => by simp [hk]) i hlt)
      clear hys hJ
      cases hfi : f i with
      | true =>
        have HFI := Lib.hid hfi
        rw [hfi] at HS HC
        clear hfi
        gi_wp2_with (refine ⟨trivial, ?_⟩; gi_at_call 68; refine (callsIn_wide.2 HC.out).mono ?_; rintro e w2 ⟨rfl, hb2⟩; have HG2 := Lib.hid (show Gr wr w2 from hb2); obtain ⟨hc2, hf2, hz2⟩ := bcell HG2.out; clear hb2; obtain ⟨fn3, t3, a3, b3, hy3, hR3⟩ := HY.out ys ⟨i, hlt, HFI.out⟩ w2 (HAJ.out _ _ _ HJ2.out HG2.out) hyl; dsimp only [encW] at hy3)
        refine hR3.mono ?_
        rintro e W3 (⟨rfl, hJ3, hk3⟩ | ⟨rfl, hx3⟩)
        · have HJ3 := Lib.hid hJ3
          have HK3 := Lib.hid (HK.out.trans ((KeepAt.of HG2.out).trans hk3))
          clear hJ3 hk3 hy3 hR3 hc2 hf2 hz2 c2
          gi_wp2
          refine ⟨⟨i + 1, by omega, by go_num, Lib.hid ⟨_, ?_, HJ3.out⟩, HK3.out⟩, by simp [intOf]; omega⟩
          rw [HS.out, List.map_append, HYS.out]
          rfl
        · gi_wp2
          refine bodyPost_ret (results_none rfl _ _ _) rfl ?_
          obtain ⟨rest, hrest⟩ := wts_pre f (show i + 1 ≤ many by omega)
          refine ⟨⟨_, rfl⟩, .inr ⟨_, ⟨rest, ?_⟩, hx3⟩⟩
          rw [List.map_append, HYS.out, hrest, HS.out]
          rfl
      | false =>
        rw [hfi] at HS HC
        clear hfi
        gi_wp2_with (refine ⟨trivial, ?_⟩; gi_at_call 68; refine (callsIn_wide.2 HC.out).mono ?_; rintro e w2 ⟨rfl, hb2⟩; have HG2 := Lib.hid (show Gr wr w2 from hb2); clear hb2)
        refine ⟨fun _ h => (by cases h), ?_⟩
        gi_wp2
        refine ⟨⟨i + 1, by omega, by go_num, Lib.hid ⟨ys, ?_, HAJ.out _ _ _ HJ2.out HG2.out⟩, HK.out.trans (KeepAt.of HG2.out)⟩, by simp [intOf]; omega⟩
        rw [HS.out, HYS.out]
        simp
    · have hil : i = many := by omega
      have HIL := Lib.hid hil
      clear hil
      gi_wp2
      go_end0
      obtain ⟨ys, hys, hJ⟩ := HJ.out
      refine ⟨⟨_, rfl⟩, .inl ⟨ys, ?_, hJ⟩⟩
      rw [hys, HIL.out]
/-- As an iterator that may be left. -/
theorem marksH_stops (m : Nat) (many : Nat) (f : Nat → Bool) (S : List Nat) (b1 b2 n : Nat) (w : World) (hmany : many ≤ 20)
    (hf : ∀ W', KeepAt S w W' → ∀ k : Nat, k < many → Calls Try.prog 68 #[.int .i64 m, .int .i64 k] W' fun e w' => e = .returned (.bool (f k)) ∧ Below W'.heap.size W' w')
    (hb1 : Box w b1 [.int .i64 many] 3) (hb2 : Box w b2 [.func (.func 68) #[.int .i64 m] #[]] 102) :
    SeqStopsK Fence.wide n Try.prog 107 #[.pointer (some ⟨b1, 0, none⟩), .pointer (some ⟨b2, 0, none⟩)] (encW (many := many) (f := f)) (KeepAt (b1 :: b2 :: S)) (fun ys => ys.map Wt.v = wts many f) (fun pre => ∃ rest, wts many f = pre.map Wt.v ++ rest) 1000 w :=
  SeqStopsK.depth (n := 8) rfl fun y J Jx W hW hAJ _hAX hY h0 =>
    marksH_any m many f S b1 b2 y J Jx W hmany (fun W' hK => hf W' ((KeepAt.of hW).trans hK)) (fun s A B h hg => hAJ s A B none h (Gr.gro hg) (fun r e => by cases e)) hY (hb1.grow hW) (hb2.grow hW) h0

end Go.Proofs.Ytjlaoiimbhlafaa
