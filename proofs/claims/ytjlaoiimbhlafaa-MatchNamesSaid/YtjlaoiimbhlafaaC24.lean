import Derived.Test.YtjlaoiimbhlafaaC23
set_option linter.unusedVariables false
set_option linter.unusedSimpArgs false
namespace Go.Proofs.Ytjlaoiimbhlafaa
open Go.RowKit Go.Shelf

open MW
attribute [local go_sem] Oper.semAt_some
/-- A left mark and a right one. -/
structure Gp (nL nR : Nat) where
  i : Nat
  j : Nat
  hi : i < nL
  hj : j < nR
def Gp.p {nL nR : Nat} (x : Gp nL nR) : Nat × Nat := (x.i, x.j)
def encG {nL nR : Nat} (x : Gp nL nR) : Array Value := #[.int .i64 x.i, .int .i64 x.j]
/-- All pairs of which the left mark is one of the first n. -/
theorem grid_succ (n nR : Nat) : grid (n + 1) nR = grid n nR ++ (List.range nR).map fun k => (n, k) := by
  unfold grid
  rw [List.range_succ, List.flatMap_append]
  simp
theorem grid_len (n nR : Nat) : (grid n nR).length = n * nR := by
  induction n with
  | zero => simp [grid]
  | succ n ih => rw [grid_succ, List.length_append, ih, List.length_map, List.length_range, Nat.succ_mul]
theorem grid_pre (nR : Nat) {n : Nat} : ∀ {m : Nat}, n ≤ m → ∃ rest, grid m nR = grid n nR ++ rest
  | 0, h => ⟨[], by have : n = 0 := by omega
                    subst this; simp⟩
  | m + 1, h => by
    by_cases hn : n = m + 1
    · exact ⟨[], by rw [hn]; simp⟩
    · obtain ⟨r, hr⟩ := grid_pre nR (show n ≤ m by omega)
      exact ⟨r ++ _, by rw [grid_succ, hr, List.append_assoc]⟩
theorem row_pre (n nR : Nat) {j : Nat} (h : j ≤ nR) : ∃ rest, ((List.range nR).map fun k => (n, k)) = ((List.range j).map fun k => (n, k)) ++ rest := by
  obtain ⟨r, hr⟩ := wts_pre (fun _ => true) h
  unfold wts at hr
  rw [List.filter_eq_self.2 (by simp), List.filter_eq_self.2 (by simp)] at hr
  exact ⟨r.map fun k => (n, k), by rw [hr, List.map_append]⟩
set_option maxRecDepth 100000 in
set_option maxHeartbeats 2000000 in
theorem pairs1_any (k : Lk) (bl y : Nat) (J Jx : List (Gp k.nL k.nR) → World → Prop) (W : World) (hL : k.nL ≤ 10) (hR : k.nR ≤ 10)
    (hAJ : ∀ s A B, J s A → Gr A B → J s B)
    (hY : ∀ pre x W, J pre W → pre.length < 1000 → YieldAt Fence.wide 7 Try.prog y (encG x) W fun e W' =>
      (e = .returned (.bool true) ∧ J (pre ++ [x]) W') ∨ (e = .returned (.bool false) ∧ Jx (pre ++ [x]) W'))
    (hkp : ∀ s A, J s A → Box A bl k.rows 85 ∨ (∃ vs, vs[0]? = some (.slice k.lp k.nL k.lc) ∧ vs[1]? = some (.slice k.rp k.nR k.rc) ∧ Box A bl vs 85)) (h0 : J [] W) :
    CallsIn Fence.wide 8 Try.prog 121 #[.func (.yield y) #[] #[], .pointer (some ⟨bl, 0, none⟩)] W fun e W' => (∃ v, e = .returned v) ∧
      ((∃ ys : List (Gp k.nL k.nR), ys.map Gp.p = grid k.nL k.nR ∧ J ys W') ∨ (∃ pre : List (Gp k.nL k.nR), (∃ rest, grid k.nL k.nR = pre.map Gp.p ++ rest) ∧ Jx pre W')) := by
  have HAJ := Lib.hid hAJ
  have HY := Lib.hid hY
  have HKP := Lib.hid (fun s A h => show ∃ vs, vs[0]? = some (.slice k.lp k.nL k.lc) ∧ vs[1]? = some (.slice k.rp k.nR k.rc) ∧ Box A bl vs 85 from (hkp s A h).elim (fun h => ⟨_, rfl, rfl, h⟩) id)
  have H0 := Lib.hid h0
  clear hAJ hY hkp h0
  obtain ⟨vs, hv0, hv1, hB⟩ := HKP.out _ _ H0.out
  have c0 := hB.cell hv0
  have l0 := hB.lt
  clear hv0 hv1 hB
  refine callsIn_of_wp Try.func121 rfl trivial ?_ rfl
  simp only [Try.ntmps121, List.size_toArray, List.length_cons, List.length_nil, Nat.reduceAdd, Nat.reduceSub, Array.replicate_succ, Array.replicate_zero, List.push_toArray, List.append_toArray, List.nil_append, List.cons_append]
  gi_wp2
  clear c0 l0
  gi_loopw [9] (fun t wr => ∃ i : Nat, i ≤ k.nL ∧ t = .int .i64 i ∧ Hid (∃ ys : List (Gp k.nL k.nR), ys.map Gp.p = grid i k.nR ∧ J ys wr)) (fun t _ => (50 - intOf t).toNat)
  case atStart => exact ⟨0, Nat.zero_le _, rfl, Lib.hid ⟨[], rfl, H0.out⟩⟩
  case round =>
    obtain ⟨i, hi, rfl, HJ⟩ := hrel
    by_cases hlt : i < k.nL
    · obtain ⟨ys, hys, hJ⟩ := HJ.out
      obtain ⟨vs, hv0, hv1, hB⟩ := HKP.out _ _ hJ
      have c1 := hB.cell hv1
      have l1 := hB.lt
      have hd : decide ((i : Int) < k.nL) = true := by simp; omega
      have hd' : decide (i < k.nL) = true := by simp; omega
      have HYS := Lib.hid hys
      have HJ2 := Lib.hid hJ
      clear hv0 hv1 hB hys hJ
      gi_wp2
      clear c1 l1
      gi_loopw [16] (fun t wr => ∃ j : Nat, j ≤ k.nR ∧ t = .int .i64 j ∧ Hid (∃ ys : List (Gp k.nL k.nR), ys.map Gp.p = grid i k.nR ++ (List.range j).map (fun c => (i, c)) ∧ J ys wr)) (fun t _ => (50 - intOf t).toNat)
      case atStart => exact ⟨0, Nat.zero_le _, rfl, Lib.hid ⟨ys, by rw [HYS.out]; simp, HJ2.out⟩⟩
      case round =>
        obtain ⟨j, hj, rfl, HJ3⟩ := hrel
        by_cases hlj : j < k.nR
        · obtain ⟨zs, hzs, hJ3⟩ := HJ3.out
          have hg : decide ((j : Int) < k.nR) = true := by simp; omega
          have hg' : decide (j < k.nR) = true := by simp; omega
          have hzl : zs.length < 1000 := by
            have h1 := congrArg List.length hzs
            rw [List.length_map, List.length_append, grid_len, List.length_map, List.length_range] at h1
            have := Nat.mul_le_mul (show i ≤ 10 by omega) hR
            omega
          have HZS := Lib.hid hzs
          obtain ⟨fn3, t3, a3, b3, hy3, hR3⟩ := HY.out zs ⟨i, j, hlt, hlj⟩ _ hJ3 hzl
          dsimp only [encG] at hy3
          clear hzs hJ3
          gi_wp2
          refine hR3.mono ?_
          rintro e W3 (⟨rfl, hJ4⟩ | ⟨rfl, hx4⟩)
          · have HJ4 := Lib.hid hJ4
            clear hJ4 hy3 hR3
            gi_wp2
            refine ⟨⟨j + 1, by omega, by go_num, Lib.hid ⟨_, ?_, HJ4.out⟩⟩, by simp [intOf]; omega⟩
            rw [List.map_append, HZS.out, List.range_succ, List.map_append, List.append_assoc]
            rfl
          · gi_wp2
            refine bodyPost_ret (results_none rfl _ _ _) rfl ?_
            obtain ⟨r1, hr1⟩ := grid_pre k.nR (show i + 1 ≤ k.nL by omega)
            obtain ⟨r2, hr2⟩ := row_pre i k.nR (show j + 1 ≤ k.nR by omega)
            refine ⟨⟨_, rfl⟩, .inr ⟨_, ⟨r2 ++ r1, ?_⟩, hx4⟩⟩
            rw [hr1, grid_succ, hr2, List.map_append, HZS.out, List.range_succ, List.map_append]
            simp [Gp.p]
        · have hjl : j = k.nR := by omega
          have HJL := Lib.hid hjl
          have hg : decide ((j : Int) < k.nR) = false := by simp; omega
          clear hjl
          obtain ⟨zs, hzs, hJ3⟩ := HJ3.out
          have HZS := Lib.hid hzs
          have HJ5 := Lib.hid hJ3
          clear hzs hJ3
          gi_wp2
          refine ⟨⟨i + 1, by omega, by go_num, Lib.hid ⟨zs, ?_, HJ5.out⟩⟩, by simp [intOf]; omega⟩
          rw [HZS.out, HJL.out, grid_succ]
    · have hil : i = k.nL := by omega
      have HIL := Lib.hid hil
      have hd : decide ((i : Int) < k.nL) = false := by simp; omega
      clear hil
      gi_wp2
      go_end0
      obtain ⟨ys, hys, hJ⟩ := HJ.out
      refine ⟨⟨_, rfl⟩, .inl ⟨ys, ?_, hJ⟩⟩
      rw [hys, HIL.out]

end Go.Proofs.Ytjlaoiimbhlafaa
