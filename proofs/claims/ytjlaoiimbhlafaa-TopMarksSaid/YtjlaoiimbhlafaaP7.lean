import Derived.Test.YtjlaoiimbhlafaaP6
set_option linter.unusedVariables false
set_option linter.unusedSimpArgs false
section
namespace Go.Proofs.Ytjlaoiimbhlafaa
open Go.RowKit Go.Shelf

open MW
attribute [local go_sem] Oper.semAt_some
/-- A left mark and a right one. -/
structure Gp (nL nR : Nat) where
  i : Nat
  j : Nat
  hi : i < nL
  hj : j < nR
def Gp.p {nL nR : Nat} (x : Gp nL nR) : Nat × Nat := (x.i, x.j)
def encG {nL nR : Nat} (x : Gp nL nR) : Array Value := #[.int .i64 x.i, .int .i64 x.j]
/-- All pairs of which the left mark is one of the first n. -/
theorem grid_succ (n nR : Nat) : grid (n + 1) nR = grid n nR ++ (List.range nR).map fun k => (n, k) := by
  unfold grid
  rw [List.range_succ, List.flatMap_append]
  simp
theorem grid_len (n nR : Nat) : (grid n nR).length = n * nR := by
  induction n with
  | zero => simp [grid]
  | succ n ih => rw [grid_succ, List.length_append, ih, List.length_map, List.length_range, Nat.succ_mul]
theorem grid_pre (nR : Nat) {n : Nat} : ∀ {m : Nat}, n ≤ m → ∃ rest, grid m nR = grid n nR ++ rest
  | 0, h => ⟨[], by have : n = 0 := by omega
                    subst this; simp⟩
  | m + 1, h => by
    by_cases hn : n = m + 1
    · exact ⟨[], by rw [hn]; simp⟩
    · obtain ⟨r, hr⟩ := grid_pre nR (show n ≤ m by omega)
      exact ⟨r ++ _, by rw [grid_succ, hr, List.append_assoc]⟩
theorem row_pre (n nR : Nat) {j : Nat} (h : j ≤ nR) : ∃ rest, ((List.range nR).map fun k => (n, k)) = ((List.range j).map fun k => (n, k)) ++ rest := by
  obtain ⟨r, hr⟩ := wts_pre (fun _ => true) h
  unfold wts at hr
  rw [List.filter_eq_self.2 (by simp), List.filter_eq_self.2 (by simp)] at hr
  exact ⟨r.map fun k => (n, k), by rw [hr, List.map_append]⟩
set_option maxRecDepth 100000 in
set_option maxHeartbeats 2000000 in
theorem pairs1_any (k : Lk) (bl y : Nat) (J Jx : List (Gp k.nL k.nR) → World → Prop) (W : World) (hL : k.nL ≤ 10) (hR : k.nR ≤ 10)
    (hAJ : ∀ s A B, J s A → Gr A B → J s B)
    (hY : ∀ pre x W, J pre W → pre.length < 1000 → YieldAt Fence.wide 7 Try.prog y (encG x) W fun e W' =>
      (e = .returned (.bool true) ∧ J (pre ++ [x]) W') ∨ (e = .returned (.bool false) ∧ Jx (pre ++ [x]) W'))
    (hkp : ∀ s A, J s A → Box A bl k.rows 85 ∨ (∃ vs, vs[0]? = some (.slice k.lp k.nL k.lc) ∧ vs[1]? = some (.slice k.rp k.nR k.rc) ∧ Box A bl vs 85)) (h0 : J [] W) :
    CallsIn Fence.wide 8 Try.prog 121 #[.func (.yield y) #[] #[], .pointer (some ⟨bl, 0, none⟩)] W fun e W' => (∃ v, e = .returned v) ∧
      ((∃ ys : List (Gp k.nL k.nR), ys.map Gp.p = grid k.nL k.nR ∧ J ys W') ∨ (∃ pre : List (Gp k.nL k.nR), (∃ rest, grid k.nL k.nR = pre.map Gp.p ++ rest) ∧ Jx pre W')) := by
  have HAJ := Lib.hid hAJ
  have HY := Lib.hid hY
  have HKP := Lib.hid (fun s A h => show ∃ vs, vs[0]? = some (.slice k.lp k.nL k.lc) ∧ vs[1]? = some (.slice k.rp k.nR k.rc) ∧ Box A bl vs 85 from (hkp s A h).elim (fun h => ⟨_, rfl, rfl, h⟩) id)
  have H0 := Lib.hid h0
  clear hAJ hY hkp h0
  obtain ⟨vs, hv0, hv1, hB⟩ := HKP.out _ _ H0.out
  have c0 := hB.cell hv0
  have l0 := hB.lt
  clear hv0 hv1 hB
  refine callsIn_of_wp Try.func121 rfl trivial ?_ rfl
  simp only [Try.ntmps121, List.size_toArray, List.length_cons, List.length_nil, Nat.reduceAdd, Nat.reduceSub, Array.replicate_succ, Array.replicate_zero, List.push_toArray, List.append_toArray, List.nil_append, List.cons_append]
  gi_wp2
  clear c0 l0
  gi_loopw [9] (fun t wr => ∃ i : Nat, i ≤ k.nL ∧ t = .int .i64 i ∧ Hid (∃ ys : List (Gp k.nL k.nR), ys.map Gp.p = grid i k.nR ∧ J ys wr)) (fun t _ => (50 - intOf t).toNat)
  case atStart => exact ⟨0, Nat.zero_le _, rfl, Lib.hid ⟨[], rfl, H0.out⟩⟩
  case round =>
    obtain ⟨i, hi, rfl, HJ⟩ := hrel
    by_cases hlt : i < k.nL
    · obtain ⟨ys, hys, hJ⟩ := HJ.out
      obtain ⟨vs, hv0, hv1, hB⟩ := HKP.out _ _ hJ
      have c1 := hB.cell hv1
      have l1 := hB.lt
      have hd : decide ((i : Int) < k.nL) = true := by simp; omega
      have hd' : decide (i < k.nL) = true := by simp; omega
      have HYS := Lib.hid hys
      have HJ2 := Lib.hid hJ
      clear hv0 hv1 hB hys hJ
      gi_wp2
      clear c1 l1
      gi_loopw [16] (fun t wr => ∃ j : Nat, j ≤ k.nR ∧ t = .int .i64 j ∧ Hid (∃ ys : List (Gp k.nL k.nR), ys.map Gp.p = grid i k.nR ++ (List.range j).map (fun c => (i, c)) ∧ J ys wr)) (fun t _ => (50 - intOf t).toNat)
      case atStart => exact ⟨0, Nat.zero_le _, rfl, Lib.hid ⟨ys, by rw [HYS.out]; simp, HJ2.out⟩⟩
      case round =>
        obtain ⟨j, hj, rfl, HJ3⟩ := hrel
        by_cases hlj : j < k.nR
        · obtain ⟨zs, hzs, hJ3⟩ := HJ3.out
          have hg : decide ((j : Int) < k.nR) = true := by simp; omega
          have hg' : decide (j < k.nR) = true := by simp; omega
          have hzl : zs.length < 1000 := by
            have h1 := congrArg List.length hzs
            rw [List.length_map, List.length_append, grid_len, List.length_map, List.length_range] at h1
            have := Nat.mul_le_mul (show i ≤ 10 by omega) hR
            omega
          have HZS := Lib.hid hzs
          obtain ⟨fn3, t3, a3, b3, hy3, hR3⟩ := HY.out zs ⟨i, j, hlt, hlj⟩ _ hJ3 hzl
          dsimp only [encG] at hy3
          clear hzs hJ3
          gi_wp2
          refine hR3.mono ?_
          rintro e W3 (⟨rfl, hJ4⟩ | ⟨rfl, hx4⟩)
          · have HJ4 := Lib.hid hJ4
            clear hJ4 hy3 hR3
            gi_wp2
            refine ⟨⟨j + 1, by omega, by go_num, Lib.hid ⟨_, ?_, HJ4.out⟩⟩, by simp [intOf]; omega⟩
            rw [List.map_append, HZS.out, List.range_succ, List.map_append, List.append_assoc]
            rfl
          · gi_wp2
            refine bodyPost_ret (results_none rfl _ _ _) rfl ?_
            obtain ⟨r1, hr1⟩ := grid_pre k.nR (show i + 1 ≤ k.nL by omega)
            obtain ⟨r2, hr2⟩ := row_pre i k.nR (show j + 1 ≤ k.nR by omega)
            refine ⟨⟨_, rfl⟩, .inr ⟨_, ⟨r2 ++ r1, ?_⟩, hx4⟩⟩
            rw [hr1, grid_succ, hr2, List.map_append, HZS.out, List.range_succ, List.map_append]
            simp [Gp.p]
        · have hjl : j = k.nR := by omega
          have HJL := Lib.hid hjl
          have hg : decide ((j : Int) < k.nR) = false := by simp; omega
          clear hjl
          obtain ⟨zs, hzs, hJ3⟩ := HJ3.out
          have HZS := Lib.hid hzs
          have HJ5 := Lib.hid hJ3
          clear hzs hJ3
          gi_wp2
          refine ⟨⟨i + 1, by omega, by go_num, Lib.hid ⟨zs, ?_, HJ5.out⟩⟩, by simp [intOf]; omega⟩
          rw [HZS.out, HJL.out, grid_succ]
    · have hil : i = k.nL := by omega
      have HIL := Lib.hid hil
      have hd : decide ((i : Int) < k.nL) = false := by simp; omega
      clear hil
      gi_wp2
      go_end0
      obtain ⟨ys, hys, hJ⟩ := HJ.out
      refine ⟨⟨_, rfl⟩, .inl ⟨ys, ?_, hJ⟩⟩
      rw [hys, HIL.out]

end Go.Proofs.Ytjlaoiimbhlafaa
end
namespace Go.Proofs.Ytjlaoiimbhlafaa
open Go.RowKit Go.Shelf

open MW
theorem YieldAt.and {F : Fence} {n : Nat} {P : Program} {l : Nat} {args : Array Value} {W : World} {R R' : Ending → World → Prop} (h : YieldAt F n P l args W R) (hi : ∀ e w, R e w → R' e w) : YieldAt F n P l args W R' := by
  obtain ⟨fn, t, a, b, h1, h2⟩ := h
  exact ⟨fn, t, a, b, h1, h2.mono hi⟩
theorem pairs_stops (k : Lk) (bl n : Nat) (vs : List Value) (w : World) (hb : Box w bl vs 85) (hv0 : vs[0]? = some (.slice k.lp k.nL k.lc)) (hv1 : vs[1]? = some (.slice k.rp k.nR k.rc)) (hL : k.nL ≤ 10) (hR : k.nR ≤ 10) :
    SeqStopsK Fence.wide n Try.prog 121 #[.pointer (some ⟨bl, 0, none⟩)] (encG (nL := k.nL) (nR := k.nR)) (fun A B => ∀ vs, vs[0]? = some (.slice k.lp k.nL k.lc) → vs[1]? = some (.slice k.rp k.nR k.rc) → Box A bl vs 85 → ∃ us, us[0]? = some (.slice k.lp k.nL k.lc) ∧ us[1]? = some (.slice k.rp k.nR k.rc) ∧ Box B bl us 85) (fun ys => ys.map Gp.p = grid k.nL k.nR) (fun pre => ∃ rest, grid k.nL k.nR = pre.map Gp.p ++ rest) 1000 w :=
  SeqStopsK.depth (n := 8) rfl fun y J Jx W hW hAJ _hAX hY h0 =>
    (pairs1_any k bl y (fun s A => J s A ∧ ∃ us, us[0]? = some (.slice k.lp k.nL k.lc) ∧ us[1]? = some (.slice k.rp k.nR k.rc) ∧ Box A bl us 85) Jx W hL hR (fun s A B h hg => ⟨hAJ s A B none h.1 (Gr.gro hg) (fun r e => by cases e), by
        obtain ⟨us, h1, h2, h3⟩ := h.2
        exact ⟨us, h1, h2, h3.grow hg⟩⟩)
      (fun pre x A h hl => YieldAt.and (hY pre x A h.1 hl) (by
        rintro e B (⟨h1, h2, h3⟩ | h1)
        · obtain ⟨us, h4, h5, h6⟩ := h.2
          exact .inl ⟨h1, h2, h3 us h4 h5 h6⟩
        · exact .inr h1))
      (fun s A h => .inr h.2) ⟨h0, vs, hv0, hv1, hb.grow hW⟩).mono (by
        rintro e B ⟨h1, (⟨ys, h2, h3, -⟩ | h2)⟩
        · exact ⟨h1, .inl ⟨ys, h2, h3⟩⟩
        · exact ⟨h1, .inr h2⟩)
set_option maxHeartbeats 1000000 in
theorem tones_any (x y : Mrk) (w : World) :
    Calls Try.prog 119 #[x.val, y.val] w fun e w' => e = .returned (.tuple #[spV x.c x.d, spV y.c y.d]) ∧ Below w.heap.size w w' := by
  unfold spV Mrk.val
  have HX := Lib.hid (show Box ((((w.alloc (Obj.cells [.int .i64 x.a, .int .i64 x.b, .int .i64 x.c, .int .i64 x.d].toArray 65)).alloc (Obj.cells [.int .i64 y.a, .int .i64 y.b, .int .i64 y.c, .int .i64 y.d].toArray 65)).alloc (Obj.cells [.int .i64 0, .int .i64 0].toArray 24)).alloc (Obj.cells [.int .i64 0, .int .i64 0].toArray 24)) (w.heap.size) [.int .i64 x.a, .int .i64 x.b, .int .i64 x.c, .int .i64 x.d] 65 by
    have := ((((Box.fresh w [.int .i64 x.a, .int .i64 x.b, .int .i64 x.c, .int .i64 x.d] 65).grow (Gr.alloc _ (Obj.cells [.int .i64 y.a, .int .i64 y.b, .int .i64 y.c, .int .i64 y.d].toArray 65))).grow (Gr.alloc _ (Obj.cells [.int .i64 0, .int .i64 0].toArray 24))).grow (Gr.alloc _ (Obj.cells [.int .i64 0, .int .i64 0].toArray 24)))
    simpa using this)
  have HY := Lib.hid (show Box ((((w.alloc (Obj.cells [.int .i64 x.a, .int .i64 x.b, .int .i64 x.c, .int .i64 x.d].toArray 65)).alloc (Obj.cells [.int .i64 y.a, .int .i64 y.b, .int .i64 y.c, .int .i64 y.d].toArray 65)).alloc (Obj.cells [.int .i64 0, .int .i64 0].toArray 24)).alloc (Obj.cells [.int .i64 0, .int .i64 0].toArray 24)) (w.heap.size + 1) [.int .i64 y.a, .int .i64 y.b, .int .i64 y.c, .int .i64 y.d] 65 by
    have := (((Box.fresh (w.alloc (Obj.cells [.int .i64 x.a, .int .i64 x.b, .int .i64 x.c, .int .i64 x.d].toArray 65)) [.int .i64 y.a, .int .i64 y.b, .int .i64 y.c, .int .i64 y.d] 65).grow (Gr.alloc _ (Obj.cells [.int .i64 0, .int .i64 0].toArray 24))).grow (Gr.alloc _ (Obj.cells [.int .i64 0, .int .i64 0].toArray 24)))
    simpa using this)
  have HZ := Lib.hid (show Box ((((w.alloc (Obj.cells [.int .i64 x.a, .int .i64 x.b, .int .i64 x.c, .int .i64 x.d].toArray 65)).alloc (Obj.cells [.int .i64 y.a, .int .i64 y.b, .int .i64 y.c, .int .i64 y.d].toArray 65)).alloc (Obj.cells [.int .i64 0, .int .i64 0].toArray 24)).alloc (Obj.cells [.int .i64 0, .int .i64 0].toArray 24)) (w.heap.size + 1 + 1) [.int .i64 0, .int .i64 0] 24 by
    have := ((Box.fresh ((w.alloc (Obj.cells [.int .i64 x.a, .int .i64 x.b, .int .i64 x.c, .int .i64 x.d].toArray 65)).alloc (Obj.cells [.int .i64 y.a, .int .i64 y.b, .int .i64 y.c, .int .i64 y.d].toArray 65)) [.int .i64 0, .int .i64 0] 24).grow (Gr.alloc _ (Obj.cells [.int .i64 0, .int .i64 0].toArray 24)))
    simpa using this)
  have HU := Lib.hid (show Box ((((w.alloc (Obj.cells [.int .i64 x.a, .int .i64 x.b, .int .i64 x.c, .int .i64 x.d].toArray 65)).alloc (Obj.cells [.int .i64 y.a, .int .i64 y.b, .int .i64 y.c, .int .i64 y.d].toArray 65)).alloc (Obj.cells [.int .i64 0, .int .i64 0].toArray 24)).alloc (Obj.cells [.int .i64 0, .int .i64 0].toArray 24)) (w.heap.size + 1 + 1 + 1) [.int .i64 0, .int .i64 0] 24 by
    have := (Box.fresh (((w.alloc (Obj.cells [.int .i64 x.a, .int .i64 x.b, .int .i64 x.c, .int .i64 x.d].toArray 65)).alloc (Obj.cells [.int .i64 y.a, .int .i64 y.b, .int .i64 y.c, .int .i64 y.d].toArray 65)).alloc (Obj.cells [.int .i64 0, .int .i64 0].toArray 24)) [.int .i64 0, .int .i64 0] 24)
    simpa using this)
  go_enter Try.func119, Try.ntmps119
  go_wp2_with fail
  have HG := Lib.hid (show Gr w ((((w.alloc (Obj.cells [.int .i64 x.a, .int .i64 x.b, .int .i64 x.c, .int .i64 x.d].toArray 65)).alloc (Obj.cells [.int .i64 y.a, .int .i64 y.b, .int .i64 y.c, .int .i64 y.d].toArray 65)).alloc (Obj.cells [.int .i64 0, .int .i64 0].toArray 24)).alloc (Obj.cells [.int .i64 0, .int .i64 0].toArray 24)) from (((Gr.alloc _ _).tr (Gr.alloc _ _)).tr (Gr.alloc _ _)).tr (Gr.alloc _ _))
  generalize ((((w.alloc (Obj.cells [.int .i64 x.a, .int .i64 x.b, .int .i64 x.c, .int .i64 x.d].toArray 65)).alloc (Obj.cells [.int .i64 y.a, .int .i64 y.b, .int .i64 y.c, .int .i64 y.d].toArray 65)).alloc (Obj.cells [.int .i64 0, .int .i64 0].toArray 24)).alloc (Obj.cells [.int .i64 0, .int .i64 0].toArray 24)) = wq at *
  obtain ⟨x0, x1, x2, x3⟩ := cells4 HX.out
  obtain ⟨y0, y1, y2, y3⟩ := cells4 HY.out
  obtain ⟨z0, z1, z2, z3, -⟩ := Box.two HZ.out
  obtain ⟨u0, u1, u2, u3, -⟩ := Box.two HU.out
  have l1 := HX.out.lt
  have l2 := HY.out.lt
  have l3 := HZ.out.lt
  have l4 := HU.out.lt
  go_region
  go_wp2_with fail
  obtain ⟨z0, z1, -, -, -⟩ := Box.two (((Only.set ((wq.setCell ⟨w.heap.size + 1 + 1, 0, none⟩ (.int .i64 x.c)).setCell ⟨w.heap.size + 1 + 1, 1, none⟩ (.int .i64 x.d)) (b := w.heap.size + 1 + 1 + 1) 0 (.int .i64 y.c)).tr (Only.set _ 1 (.int .i64 y.d))).box ((HZ.out.put 0 (.int .i64 x.c)).put 1 (.int .i64 x.d)) (by omega))
  obtain ⟨u0, u1, -, -, -⟩ := Box.two ((((Only.set wq (b := w.heap.size + 1 + 1) 0 (.int .i64 x.c)).tr (Only.set _ 1 (.int .i64 x.d))).box HU.out (by omega)).put 0 (.int .i64 y.c) |>.put 1 (.int .i64 y.d))
  refine bodyPost_ret (v := .tuple #[.agg #[.int .i64 x.c, .int .i64 x.d], .agg #[.int .i64 y.c, .int .i64 y.d]]) ?_ rfl ⟨rfl, ((((HG.out.setCell (by first | (simp; done) | (simp; omega) | omega) _).setCell (by first | (simp; done) | (simp; omega) | omega) _).setCell (by first | (simp; done) | (simp; omega) | omega) _).setCell (by first | (simp; done) | (simp; omega) | omega) _).drew⟩
  simp [results, Try.f119, go_sem, z0, z1, u0, u1]
set_option maxHeartbeats 2000000 in
theorem shifts_any (k : Lk) (x y : Mrk) (bl : Nat) (w : World) (vs : List Value) (hb : Box w bl vs 85) (hs : vs[2]? = some (.int .i64 k.s)) (ht : vs[3]? = some (.int .i64 k.t)) (hx : x.In) (hy : y.In) :
    Calls Try.prog 120 #[x.val, y.val, .pointer (some ⟨bl, 0, none⟩)] w fun e w' => e = .returned (.tuple #[spV (x.a - y.b) (x.b - y.a), spV k.s k.t]) ∧ Below w.heap.size w w' := by
  have HA := Lib.hid (fun W => apart_any x y W hx hy)
  have HB0 := Lib.hid hb
  have hbl := hb.lt
  clear hb
  generalize x.a - y.b = p at *
  generalize x.b - y.a = q at *
  unfold spV Mrk.val at *
  have HX := Lib.hid (show Box ((((w.alloc (Obj.cells [.int .i64 x.a, .int .i64 x.b, .int .i64 x.c, .int .i64 x.d].toArray 65)).alloc (Obj.cells [.int .i64 y.a, .int .i64 y.b, .int .i64 y.c, .int .i64 y.d].toArray 65)).alloc (Obj.cells [.int .i64 0, .int .i64 0].toArray 24)).alloc (Obj.cells [.int .i64 0, .int .i64 0].toArray 24)) (w.heap.size) [.int .i64 x.a, .int .i64 x.b, .int .i64 x.c, .int .i64 x.d] 65 by
    have := ((((Box.fresh w [.int .i64 x.a, .int .i64 x.b, .int .i64 x.c, .int .i64 x.d] 65).grow (Gr.alloc _ (Obj.cells [.int .i64 y.a, .int .i64 y.b, .int .i64 y.c, .int .i64 y.d].toArray 65))).grow (Gr.alloc _ (Obj.cells [.int .i64 0, .int .i64 0].toArray 24))).grow (Gr.alloc _ (Obj.cells [.int .i64 0, .int .i64 0].toArray 24)))
    simpa using this)
  have HY := Lib.hid (show Box ((((w.alloc (Obj.cells [.int .i64 x.a, .int .i64 x.b, .int .i64 x.c, .int .i64 x.d].toArray 65)).alloc (Obj.cells [.int .i64 y.a, .int .i64 y.b, .int .i64 y.c, .int .i64 y.d].toArray 65)).alloc (Obj.cells [.int .i64 0, .int .i64 0].toArray 24)).alloc (Obj.cells [.int .i64 0, .int .i64 0].toArray 24)) (w.heap.size + 1) [.int .i64 y.a, .int .i64 y.b, .int .i64 y.c, .int .i64 y.d] 65 by
    have := (((Box.fresh (w.alloc (Obj.cells [.int .i64 x.a, .int .i64 x.b, .int .i64 x.c, .int .i64 x.d].toArray 65)) [.int .i64 y.a, .int .i64 y.b, .int .i64 y.c, .int .i64 y.d] 65).grow (Gr.alloc _ (Obj.cells [.int .i64 0, .int .i64 0].toArray 24))).grow (Gr.alloc _ (Obj.cells [.int .i64 0, .int .i64 0].toArray 24)))
    simpa using this)
  have HZ := Lib.hid (show Box ((((w.alloc (Obj.cells [.int .i64 x.a, .int .i64 x.b, .int .i64 x.c, .int .i64 x.d].toArray 65)).alloc (Obj.cells [.int .i64 y.a, .int .i64 y.b, .int .i64 y.c, .int .i64 y.d].toArray 65)).alloc (Obj.cells [.int .i64 0, .int .i64 0].toArray 24)).alloc (Obj.cells [.int .i64 0, .int .i64 0].toArray 24)) (w.heap.size + 1 + 1) [.int .i64 0, .int .i64 0] 24 by
    have := ((Box.fresh ((w.alloc (Obj.cells [.int .i64 x.a, .int .i64 x.b, .int .i64 x.c, .int .i64 x.d].toArray 65)).alloc (Obj.cells [.int .i64 y.a, .int .i64 y.b, .int .i64 y.c, .int .i64 y.d].toArray 65)) [.int .i64 0, .int .i64 0] 24).grow (Gr.alloc _ (Obj.cells [.int .i64 0, .int .i64 0].toArray 24)))
    simpa using this)
  have HU := Lib.hid (show Box ((((w.alloc (Obj.cells [.int .i64 x.a, .int .i64 x.b, .int .i64 x.c, .int .i64 x.d].toArray 65)).alloc (Obj.cells [.int .i64 y.a, .int .i64 y.b, .int .i64 y.c, .int .i64 y.d].toArray 65)).alloc (Obj.cells [.int .i64 0, .int .i64 0].toArray 24)).alloc (Obj.cells [.int .i64 0, .int .i64 0].toArray 24)) (w.heap.size + 1 + 1 + 1) [.int .i64 0, .int .i64 0] 24 by
    have := (Box.fresh (((w.alloc (Obj.cells [.int .i64 x.a, .int .i64 x.b, .int .i64 x.c, .int .i64 x.d].toArray 65)).alloc (Obj.cells [.int .i64 y.a, .int .i64 y.b, .int .i64 y.c, .int .i64 y.d].toArray 65)).alloc (Obj.cells [.int .i64 0, .int .i64 0].toArray 24)) [.int .i64 0, .int .i64 0] 24)
    simpa using this)
  go_enter Try.func120, Try.ntmps120
  go_wp2_with fail
  have HG := Lib.hid (show Gr w ((((w.alloc (Obj.cells [.int .i64 x.a, .int .i64 x.b, .int .i64 x.c, .int .i64 x.d].toArray 65)).alloc (Obj.cells [.int .i64 y.a, .int .i64 y.b, .int .i64 y.c, .int .i64 y.d].toArray 65)).alloc (Obj.cells [.int .i64 0, .int .i64 0].toArray 24)).alloc (Obj.cells [.int .i64 0, .int .i64 0].toArray 24)) from (((Gr.alloc _ _).tr (Gr.alloc _ _)).tr (Gr.alloc _ _)).tr (Gr.alloc _ _))
  have HB := Lib.hid (HB0.out.grow HG.out)
  generalize ((((w.alloc (Obj.cells [.int .i64 x.a, .int .i64 x.b, .int .i64 x.c, .int .i64 x.d].toArray 65)).alloc (Obj.cells [.int .i64 y.a, .int .i64 y.b, .int .i64 y.c, .int .i64 y.d].toArray 65)).alloc (Obj.cells [.int .i64 0, .int .i64 0].toArray 24)).alloc (Obj.cells [.int .i64 0, .int .i64 0].toArray 24)) = wq at *
  obtain ⟨x0, x1, x2, x3⟩ := cells4 HX.out
  obtain ⟨y0, y1, y2, y3⟩ := cells4 HY.out
  obtain ⟨z0, z1, z2, z3, -⟩ := Box.two HZ.out
  obtain ⟨u0, u1, u2, u3, -⟩ := Box.two HU.out
  have b2 := HB.out.cell hs
  have b3 := HB.out.cell ht
  have l1 := HX.out.lt
  have l2 := HY.out.lt
  have l3 := HZ.out.lt
  have l4 := HU.out.lt
  have l5 := HB.out.lt
  go_region_with (go_at_call 108; refine (HA.out _).mono ?_; rintro e w1 ⟨rfl, hb1⟩; have HGW := Lib.hid (show Gr wq w1 from Gr.tr (Gr.drew _) hb1); clear hb1 x0 x1 x2 x3 y0 y1 y2 y3 z0 z1 z2 z3 u0 u1 u2 u3 b2 b3; have b2 := (HB.out.grow HGW.out).cell hs; have b3 := (HB.out.grow HGW.out).cell ht; have l5 := (HB.out.grow HGW.out).lt; obtain ⟨z0, z1, z2, z3, l6⟩ := Box.two (HZ.out.grow HGW.out); obtain ⟨u0, u1, u2, u3, l7⟩ := Box.two (HU.out.grow HGW.out))
  all_goals
    go_wp2_with fail
    obtain ⟨z0, z1, -, -, -⟩ := Box.two (((Only.set ((w1.setCell ⟨w.heap.size + 1 + 1, 0, none⟩ (.int .i64 p)).setCell ⟨w.heap.size + 1 + 1, 1, none⟩ (.int .i64 q)) (b := w.heap.size + 1 + 1 + 1) 0 (.int .i64 k.s)).tr (Only.set _ 1 (.int .i64 k.t))).box (((HZ.out.grow HGW.out).put 0 (.int .i64 p)).put 1 (.int .i64 q)) (by omega))
    obtain ⟨u0, u1, -, -, -⟩ := Box.two ((((Only.set w1 (b := w.heap.size + 1 + 1) 0 (.int .i64 p)).tr (Only.set _ 1 (.int .i64 q))).box (HU.out.grow HGW.out) (by omega)).put 0 (.int .i64 k.s) |>.put 1 (.int .i64 k.t))
    refine bodyPost_ret (v := .tuple #[.agg #[.int .i64 p, .int .i64 q], .agg #[.int .i64 k.s, .int .i64 k.t]]) ?_ rfl ⟨rfl, ((((HG.out.tr HGW.out).setCell (by first | (simp; done) | (simp; omega) | omega) _).setCell (by first | (simp; done) | (simp; omega) | omega) _).setCell (by first | (simp; done) | (simp; omega) | omega) _).setCell (by first | (simp; done) | (simp; omega) | omega) _⟩
    simp [results, Try.f120, go_sem, z0, z1, u0, u1]
def agrV (b : Nat) : Value := .slice (some ⟨b, 0, none⟩) 2 2
def agrC (bl : Nat) : List Value := [.func (.func 119) #[] #[], .func (.func 120) #[] #[.pointer (some ⟨bl, 0, none⟩)]]
set_option maxHeartbeats 400000 in
theorem agreements_any (k : Lk) (w : World) :
    Calls Try.prog 91 #[.agg k.cs.toArray] w fun e w' => ∃ bl ba T, e = .returned (agrV ba) ∧ w.heap.size ≤ bl ∧ w.heap.size ≤ ba ∧ Box w' bl k.cs 85 ∧ Box w' ba (agrC bl) T ∧ Below w.heap.size w w' := by
  have HB := Lib.hid (Box.fresh w k.cs 85)
  unfold agrV agrC
  go_enter Try.func91, Try.ntmps91
  go_wp2
  go_ret
  exact ⟨w.heap.size, _, _, rfl, Nat.le_refl _, (by first | (simp; done) | (simp; omega) | omega), HB.out.grow (Gr.alloc _ _), by
    have := Box.fresh (w.alloc (Obj.cells k.cs.toArray 85)) (agrC w.heap.size) 141
    simpa [agrC] using this, ((Below.refl _ _).alloc (by first | (simp; done) | (simp; omega) | omega) _).alloc (by first | (simp; done) | (simp; omega) | omega) _⟩
set_option maxHeartbeats 400000 in
theorem pairsOf_any (k : Lk) (w : World) :
    Calls Try.prog 92 #[.agg k.cs.toArray] w fun e w' => e = .returned (.func (.func 121) #[] #[.pointer (some ⟨w.heap.size, 0, none⟩)]) ∧ Box w' w.heap.size k.cs 85 ∧ Below w.heap.size w w' := by
  have HB := Lib.hid (Box.fresh w k.cs 85)
  go_enter Try.func92, Try.ntmps92
  go_wp2
  go_ret
  exact ⟨rfl, HB.out, (Below.refl _ _).alloc (by first | (simp; done) | (simp; omega) | omega) _⟩

end Go.Proofs.Ytjlaoiimbhlafaa
section
namespace Go.Proofs.Ytjlaoiimbhlafaa
open Go.RowKit Go.Shelf

open MW
attribute [local go_sem] Oper.semAt_some
/-- A row into a part of a block. -/
theorem run_storePart {P : Program} (g o : Nat) (T : TypeId) : ∀ (us : List Value) (i : Nat) (vs : List Value) (w : World), Box w g vs T → o + i + us.length ≤ vs.length → (∀ v ∈ us, v.oneCell' = true) →
    ∃ w', (storeCells ⟨g, o, none⟩ us i).run P w = .ok () w' ∧ Box w' g (vs.take (o + i) ++ (us ++ vs.drop (o + i + us.length))) T ∧ Only g w w'
  | [], i, vs, w, hg, hl, _ => ⟨w, rfl, by simpa using hg, Only.of hg.lt (Gr.same _)⟩
  | v :: us, i, vs, w, hg, hl, h1 => by
    simp only [List.length_cons] at hl
    have hadd : (⟨g, o, none⟩ : Addr).add i = ⟨g, o + i, none⟩ := by unfold Addr.add; split <;> simp_all
    have hcell : w.cell? ⟨g, o + i, none⟩ = some (vs[o + i]'(by omega)) := hg.cell (List.getElem?_eq_getElem (by omega))
    have hst : (store ((⟨g, o, none⟩ : Addr).add i) v).run P w = .ok () (w.setCell ⟨g, o + i, none⟩ v) := by
      rw [hadd, run_store P w _ v _ (h1 v (by simp)), hcell]
      simp [hg.free]
    obtain ⟨w', hr, hb, ho⟩ := run_storePart g o T us (i + 1) (vs.set (o + i) v) (w.setCell ⟨g, o + i, none⟩ v) (hg.put (o + i) v) (by rw [List.length_set]; omega) (fun x hx => h1 x (by simp [hx]))
    refine ⟨w', by simp only [storeCells, Sem.run_bind, hst, Result.andThen_ok]; exact hr, ?_, (Only.set w (o + i) v).tr ho⟩
    have e : (vs.set (o + i) v).take (o + (i + 1)) ++ (us ++ (vs.set (o + i) v).drop (o + (i + 1) + us.length)) = vs.take (o + i) ++ (v :: us ++ vs.drop (o + i + (v :: us).length)) := by
      have h2 : (vs.set (o + i) v).take (o + (i + 1)) = vs.take (o + i) ++ [v] := by
        rw [show o + (i + 1) = (o + i) + 1 by omega, List.take_succ_eq_append_getElem (by rw [List.length_set]; omega)]
        congr 1
        · rw [List.take_set_of_le (Nat.le_refl _)]
        · simp
      have h3 : (vs.set (o + i) v).drop (o + (i + 1) + us.length) = vs.drop (o + i + (v :: us).length) := by
        rw [List.drop_set_of_lt (by omega)]
        congr 1
        simp only [List.length_cons]
        omega
      rw [h2, h3]
      simp
    rw [← e]
    exact hb
theorem run_storeVarPart {P : Program} {g o n : Nat} {T ty : TypeId} {us vs : List Value} {w : World} (hr : rowOf P ty n = true) (hn : us.length = n) (hl : o + n ≤ vs.length) (h1 : us.all (·.oneCell') = true) (hg : Box w g vs T) :
    ∃ w', (storeVar ty ⟨g, o, none⟩ (.agg us.toArray)).run P w = .ok () w' ∧ Box w' g (vs.take o ++ (us ++ vs.drop (o + n))) T ∧ Only g w w' := by
  obtain ⟨d, hu, hd, hi⟩ := rowOf.parts hr
  obtain ⟨w', h2, h3, h4⟩ := run_storePart (P := P) g o T us 0 vs w hg (by omega) (fun v hv => List.all_eq_true.1 h1 v hv)
  refine ⟨w', ?_, by rw [← hn]; exact h3, h4⟩
  cases hq : P.info? ty with
  | none => simp [hq] at hi
  | some i =>
    have hs : us.length = i.size := by simp [hq] at hi; omega
    simp [storeVar, sizeOf, typeInfo, hq, Value.cells, hs, h2]
theorem wpList_storePart {P : Program} {ops : Array Oper} {rest : List Oper} {op : Oper} {a : Act} {w : World} {Q : Exit → Act → World → Prop} {g o n : Nat} {T ty : TypeId} {us vs : List Value} {x y : Operand} (hr : rowOf P ty n = true) (hn : us.length = n) (hl : o + n ≤ vs.length) (h1 : us.all (·.oneCell') = true) (hg : Box w g vs T)
    (ho : op.op = .store ty x y) (hgd : op.guard = none) (hx : a.eval x = .pointer (some ⟨g, o, none⟩)) (hy : a.eval y = .agg us.toArray)
    (h : ∀ w', Box w' g (vs.take o ++ (us ++ vs.drop (o + n))) T → Only g w w' → wpList P ops Q rest (a.put op.dst undef) w') : wpList P ops Q (op :: rest) a w := by
  refine wpList_plain hgd fun K hK => ?_
  obtain ⟨w', h2, h3, h4⟩ := run_storeVarPart hr hn hl h1 hg
  unfold Oper.wp execOp
  simp only [ho, hx, hy, Instr.storeAt, Instr.sureAddr, Sem.run_bind, Sem.run_pure, Result.andThen_ok, h2]
  exact hK _ _ (h w' h3 h4)
theorem fitc_set (f : Nat → Nat → Bool) (i j : Nat) (hi : i < 10) (hj : j < 10) : (fitc f).set (10 * i + j) (.bool true) = fitc (fun a b => (a == i && b == j) || f a b) := by
  unfold fitc
  apply List.ext_getElem?
  intro n
  rw [List.getElem?_set]
  by_cases h : 10 * i + j = n
  · rw [if_pos h]
    have hn : n < 100 := by omega
    have e1 : n / 10 = i := by omega
    have e2 : n % 10 = j := by omega
    subst h
    simp [hn, e1, e2]
  · rw [if_neg h]
    by_cases hn : n < 100
    · have e : (n / 10 == i && n % 10 == j) = false := by
        rw [Bool.and_eq_false_iff]
        by_cases h1 : n / 10 = i
        · right
          simp
          omega
        · left
          simpa using h1
      simp [hn, e]
    · simp [hn]
/-- Rows that are looked at, by what fits and by what is chosen. -/
def Rr.lk (r : Rr) (f : Nat → Nat → Bool) (m : Nat → Nat) : Lk := ⟨r.lp, r.lc, r.rp, r.rc, r.L.length, r.R.length, r.s, r.t, r.h, f, m⟩
theorem Rr.lk_fit (r : Rr) (f : Nat → Nat → Bool) (m : Nat → Nat) (i j : Nat) (hi : i < 10) (hj : j < 10) : (r.lk f m).cs.set (5 + (10 * i + j)) (.bool true) = (r.lk (fun a b => (a == i && b == j) || f a b) m).cs := by
  unfold Lk.cs
  rw [List.set_append_right _ _ (by show 5 ≤ _; omega)]
  have e : 5 + (10 * i + j) - (r.lk f m).rows.length = 10 * i + j := by show 5 + (10 * i + j) - 5 = _; omega
  rw [e, List.set_append_left _ _ (by rw [fitc_len]; omega)]
  show _ ++ ((fitc f).set _ _ ++ _) = _
  rw [fitc_set f i j hi hj]
  rfl
theorem Rr.lk_all (r : Rr) (f : Nat → Nat → Bool) (m m' : Nat → Nat) : (r.lk f m).cs.take (105 + 0) ++ (opts m' ++ (r.lk f m).cs.drop (105 + 0 + (opts m').length)) = (r.lk f m').cs := by
  have h1 : ((r.lk f m).rows ++ fitc f).length = 105 := by rw [List.length_append, fitc_len]; rfl
  have h2 := (r.lk f m).cs_len
  rw [opts_len, List.drop_eq_nil_of_le (by omega), List.append_nil]
  unfold Lk.cs
  rw [← List.append_assoc, List.take_left' (by exact h1), ← List.append_assoc]
  rfl
def Lk.zero : Lk := ⟨none, 0, none, 0, 0, 0, 0, 0, 0, fun _ _ => false, fun _ => 0⟩
theorem built85z : Try.prog.built 85 [] = some Lk.zero.cs.toArray := by kernel_rfl
theorem built85 (r : Rr) : Try.prog.built 85 [(0, r.val)] = some (r.lk (fun _ _ => false) (fun _ => 0)).cs.toArray := by kernel_rfl
theorem lk_one (k : Lk) : k.cs.all (·.oneCell') = true := rfl
theorem run_alloc85 (W : World) : (Instr.alloc 85 true (.tuple #[])).run Try.prog W = .ok (.pointer (some ⟨W.heap.size, 0, none⟩)) (W.alloc (.cells Lk.zero.cs.toArray 85)) := by kernel_rfl
section
variable {F : Fence} {m : Nat} {ops : Array Oper} {rest : List Oper} {o : Oper} {a : Act} {w : World} {Q : Exit → Act → World → Prop}
theorem wpList_stopAlloc {P : Program} {ty : TypeId} (_ : o.op = .alloc ty) (h : Stop (wpList P ops Q (o :: rest) a w)) : wpList P ops Q (o :: rest) a w := h
theorem wpList_alloc85 (ho : o.op = .alloc 85) (hgd : o.guard = none) (h : wpList Try.prog ops Q rest (a.put o.dst (.pointer (some ⟨w.heap.size, 0, none⟩))) (w.alloc (.cells Lk.zero.cs.toArray 85))) : wpList Try.prog ops Q (o :: rest) a w := by
  refine wpList_plain hgd fun K hK => ?_
  unfold Oper.wp execOp
  simp only [ho, Sem.run_bind, Sem.run_pure, run_alloc85, Result.andThen_ok]
  exact hK _ _ h
end
/-- The results of a function that returns a looked row and an error. -/
theorem results_pair85 {fn : Func} {p q : Tmp} {vs : List Value} {T : TypeId} {tmps : Array Value} {w : World} {g : Nat} {e : Value} (hg : Box w g vs T) (h : fn.results = #[.cell p 85, .tmp q]) (hp : tmps[p]?.getD undef = .pointer (some ⟨g, 0, none⟩)) (hn : vs.length = 115) (hq : tmps[q]?.getD undef = e) :
    (results fn tmps).run Try.prog w = .ok (.tuple #[.agg vs.toArray, e]) w := by
  have hr := run_loadPart (P := Try.prog) row85 hn hg (i := 0) (by rw [List.drop_zero, List.take_of_length_le (by omega)])
  simp [results, h, hp, asAddr, hr, hq]
set_option maxRecDepth 100000 in
set_option maxHeartbeats 1000000 in
theorem look_no (r : Rr) (w : World) (hl : MksAt r.L r.lp w) (hr : MksAt r.R r.rp w) (hno : r.ok = false) :
    Calls Try.prog 48 #[r.val] w fun e w' => e = .returned (.tuple #[.agg Lk.zero.cs.toArray, .int .i64 1]) ∧ Below w.heap.size w w' := by
  have HV := Lib.hid (fun W (hg : Gr w W) => valid_any r W (hl.grow hg) (hr.grow hg))
  rw [hno] at HV
  have hz := Lk.zero.cs_len
  have HBZ := Lib.hid built85z
  have HZ0 := Lib.hid (show Box ((w.alloc (Obj.cells r.cs.toArray 26)).alloc (Obj.cells Lk.zero.cs.toArray 85)) (w.heap.size + 1) Lk.zero.cs 85 by
    have := Box.fresh (w.alloc (Obj.cells r.cs.toArray 26)) Lk.zero.cs 85
    simpa using this)
  have hone := lk_one Lk.zero
  unfold Rr.cs at HZ0
  unfold Rr.val at *
  clear hl hr
  go_enter Try.func48, Try.ntmps48
  go_wp2_with (first
    | (with_reducible refine wpList_stopAlloc (ty := 85) rfl ?_; unfold Stop; refine wpList_alloc85 rfl rfl ?_)
    | (go_at_call 90; refine (HV.out _ ((Gr.alloc _ _).tr (Gr.alloc _ _))).mono ?_; rintro e w1 ⟨rfl, hb1⟩; have HZ1 := Lib.hid (HZ0.out.grow hb1); have HG1 := Lib.hid hb1; clear hb1)
    | (with_reducible refine wpList_stopBuild (ty := 85) rfl ?_; unfold Stop; refine wpList_buildRow HBZ.out rfl rfl (by simp [Act.eval]) ?_)
    | (with_reducible refine wpList_stopStore (ty := 85) rfl ?_; unfold Stop; refine wpList_storeBox row85 hz hz hone HZ1.out rfl rfl rfl rfl ?_)
    | go_step3)
  rw [Exit.noGoto_ret]
  exact bodyPost_ret (v := .tuple #[.agg Lk.zero.cs.toArray, .int .i64 1]) (results_pair85 (HZ1.out.row (vs := Lk.zero.cs)) rfl rfl hz rfl) rfl ⟨rfl, below_setRow (bgr (((Below.refl _ _).alloc (by first | (simp; done) | (simp; omega) | omega) _).alloc (by first | (simp; done) | (simp; omega) | omega) _) (by first | (simp; done) | (simp; omega) | omega) HG1.out) (by first | (simp; done) | (simp; omega) | omega) _⟩

end Go.Proofs.Ytjlaoiimbhlafaa
end
