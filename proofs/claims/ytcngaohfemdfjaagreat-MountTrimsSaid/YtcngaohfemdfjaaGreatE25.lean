import Derived.Test.YtcngaohfemdfjaaGreatE22
import Derived.Test.YtcngaohfemdfjaaGreatE23
set_option linter.unusedVariables false
set_option linter.unusedSimpArgs false
set_option maxRecDepth 100000
set_option maxHeartbeats 60000000
namespace Go.Proofs.YtcngaohfemdfjaaGreat
open Go.RowKit
def Cd.obst (k : Cd) : Int × Int × Int := match k.p.apart (k.elo + k.prism + k.squeeze - k.ehi) with
  | some (a, b) => (1, a, b)
  | none => match k.p.apart (k.front + k.deep) with
    | some (a, b) => (2, a, b)
    | none => (3, 0, 0)
theorem ix152_0 (a b c d : Int) (w : World) : (Instr.index 152 (.agg #[.int .i64 a, .int .i64 b, .int .i64 c, .int .i64 d]) (.int .i64 0)).run Tryz.prog w = .ok (.agg #[.int .i64 a, .int .i64 b]) w := by kernel_rfl
theorem ix152_1 (a b c d : Int) (w : World) : (Instr.index 152 (.agg #[.int .i64 a, .int .i64 b, .int .i64 c, .int .i64 d]) (.int .i64 1)).run Tryz.prog w = .ok (.agg #[.int .i64 c, .int .i64 d]) w := by kernel_rfl
theorem obst_1 (k : Cd) (mb : Nat) (hk : k.okc = true) (hv : ∀ q ∈ k.p.sees, q.2.ok) (hlen : k.p.l.length ≤ 900) (w : World) (hM : MapAt k.p.sees mb w) (a b : Int) (h1 : k.p.apart (k.elo + k.prism + k.squeeze - k.ehi) = some (a, b)) :
    Calls Tryz.prog 70 #[.agg (k.lk mb).toArray] w fun e w' => e = .returned (.tuple #[.int .i64 1, .int .i64 a, .int .i64 b]) ∧ Below w.heap.size w w' := by
  have htm := tm_ok (mb := mb) (u := ⟨0, 0, 0, 0⟩) hk (by have := okc_cuts hk; simp [Cu.isT]; omega)
  have x1 := htm.elo
  have x2 := htm.ehi
  have x3 := htm.prism
  have x4 := htm.squeeze
  have x5 := htm.front
  have x6 := htm.deep
  dsimp only at x1 x2 x3 x4 x5 x6
  have HV := Lib.hid hv
  have HM := Lib.hid hM
  clear hv hM htm
  have hl : (k.lk mb).length = 18 := rfl
  have e11 : ∀ h : 11 < (k.lk mb).length, (k.lk mb)[11] = .int .i64 k.elo := fun _ => rfl
  have e12 : ∀ h : 12 < (k.lk mb).length, (k.lk mb)[12] = .int .i64 k.ehi := fun _ => rfl
  have e13 : ∀ h : 13 < (k.lk mb).length, (k.lk mb)[13] = .int .i64 k.prism := fun _ => rfl
  have e14 : ∀ h : 14 < (k.lk mb).length, (k.lk mb)[14] = .int .i64 k.squeeze := fun _ => rfl
  have e15 : ∀ h : 15 < (k.lk mb).length, (k.lk mb)[15] = .int .i64 k.front := fun _ => rfl
  have e16 : ∀ h : 16 < (k.lk mb).length, (k.lk mb)[16] = .int .i64 k.deep := fun _ => rfl
  have ix0 := ix152_0
  have ix1 := ix152_1
  have HL := Lib.hid (Box.fresh w (k.lk mb) 71)
  have HA1 := Lib.hid h1
  clear h1
  go_enter Tryz.func70, Tryz.ntmps70
  go_wp2_with fail
  refine wp_loop_rounds 3 ?_
  rw [rounds_succ]
  go_wp2_with (with_reducible refine wsl (ty := 71) rfl ?_; unfold Stop; refine wlb row71 rfl (HL.out.grow (Gr.alloc _ _)) rfl rfl rfl ?_)
  refine (apart_ok k mb _ HV.out hlen _ (HM.out.grow ((Gr.alloc _ _).tr (Gr.alloc _ _)))).mono ?_
  rintro e w1 ⟨rfl, hb1⟩
  rw [HA1.out]
  simp only [Option.getD_some, Option.isSome_some]
  have hx := ((Box.fresh (w.alloc (.cells (k.lk mb).toArray 71)) [.int .i64 1, .int .i64 (k.elo + k.prism + k.squeeze - k.ehi)] 151).grow hb1).cell (i := 0) rfl
  have HG := Lib.hid (show Gr w w1 from ((Gr.alloc _ _).tr (Gr.alloc _ _)).tr hb1)
  have hx2 : w1.cell? ⟨w.heap.size + 1, 0, none⟩ = some (.int .i64 1) := by simpa using hx
  clear hx hb1
  go_wp2
  refine bodyPost_ret (v := .tuple #[.int .i64 1, .int .i64 a, .int .i64 b]) (by simp [results, Tryz.results70, go_sem]) rfl ⟨rfl, HG.out⟩
theorem obst_2 (k : Cd) (mb : Nat) (hk : k.okc = true) (hv : ∀ q ∈ k.p.sees, q.2.ok) (hlen : k.p.l.length ≤ 900) (w : World) (hM : MapAt k.p.sees mb w) (a b : Int) (h1 : k.p.apart (k.elo + k.prism + k.squeeze - k.ehi) = none) (h2 : k.p.apart (k.front + k.deep) = some (a, b)) :
    Calls Tryz.prog 70 #[.agg (k.lk mb).toArray] w fun e w' => e = .returned (.tuple #[.int .i64 2, .int .i64 a, .int .i64 b]) ∧ Below w.heap.size w w' := by
  have htm := tm_ok (mb := mb) (u := ⟨0, 0, 0, 0⟩) hk (by have := okc_cuts hk; simp [Cu.isT]; omega)
  have x1 := htm.elo
  have x2 := htm.ehi
  have x3 := htm.prism
  have x4 := htm.squeeze
  have x5 := htm.front
  have x6 := htm.deep
  dsimp only at x1 x2 x3 x4 x5 x6
  have HV := Lib.hid hv
  have HM := Lib.hid hM
  clear hv hM htm
  have hl : (k.lk mb).length = 18 := rfl
  have e11 : ∀ h : 11 < (k.lk mb).length, (k.lk mb)[11] = .int .i64 k.elo := fun _ => rfl
  have e12 : ∀ h : 12 < (k.lk mb).length, (k.lk mb)[12] = .int .i64 k.ehi := fun _ => rfl
  have e13 : ∀ h : 13 < (k.lk mb).length, (k.lk mb)[13] = .int .i64 k.prism := fun _ => rfl
  have e14 : ∀ h : 14 < (k.lk mb).length, (k.lk mb)[14] = .int .i64 k.squeeze := fun _ => rfl
  have e15 : ∀ h : 15 < (k.lk mb).length, (k.lk mb)[15] = .int .i64 k.front := fun _ => rfl
  have e16 : ∀ h : 16 < (k.lk mb).length, (k.lk mb)[16] = .int .i64 k.deep := fun _ => rfl
  have ix0 := ix152_0
  have ix1 := ix152_1
  have HL := Lib.hid (Box.fresh w (k.lk mb) 71)
  have HA1 := Lib.hid h1
  have HA2 := Lib.hid h2
  clear h1 h2
  go_enter Tryz.func70, Tryz.ntmps70
  go_wp2_with fail
  refine wp_loop_rounds 3 ?_
  rw [rounds_succ]
  go_wp2_with (with_reducible refine wsl (ty := 71) rfl ?_; unfold Stop; refine wlb row71 rfl (HL.out.grow (Gr.alloc _ _)) rfl rfl rfl ?_)
  refine (apart_ok k mb _ HV.out hlen _ (HM.out.grow ((Gr.alloc _ _).tr (Gr.alloc _ _)))).mono ?_
  rintro e w1 ⟨rfl, hb1⟩
  rw [HA1.out]
  simp only [Option.getD_none, Option.isSome_none]
  have HG := Lib.hid (show Gr w w1 from ((Gr.alloc _ _).tr (Gr.alloc _ _)).tr hb1)
  have HL1 := Lib.hid ((HL.out.grow (Gr.alloc _ _)).grow hb1)
  clear hb1
  go_wp2_with fail
  rw [rounds_succ]
  go_wp2_with (with_reducible refine wsl (ty := 71) rfl ?_; unfold Stop; refine wlb row71 rfl (HL1.out.grow (Gr.alloc _ _)) rfl rfl rfl ?_)
  refine (apart_ok k mb _ HV.out hlen _ (HM.out.grow (HG.out.tr (Gr.alloc _ _)))).mono ?_
  rintro e w2 ⟨rfl, hb2⟩
  rw [HA2.out]
  simp only [Option.getD_some, Option.isSome_some]
  have hx2 := ((Box.fresh w1 [.int .i64 2, .int .i64 (k.front + k.deep)] 151).grow hb2).cell (i := 0) rfl
  have HG2 := Lib.hid (show Gr w w2 from (HG.out.tr (Gr.alloc _ _)).tr hb2)
  clear hb2
  go_wp2
  refine bodyPost_ret (v := .tuple #[.int .i64 2, .int .i64 a, .int .i64 b]) (by simp [results, Tryz.results70, go_sem]) rfl ⟨rfl, HG2.out⟩
theorem obst_3 (k : Cd) (mb : Nat) (hk : k.okc = true) (hv : ∀ q ∈ k.p.sees, q.2.ok) (hlen : k.p.l.length ≤ 900) (w : World) (hM : MapAt k.p.sees mb w) (h1 : k.p.apart (k.elo + k.prism + k.squeeze - k.ehi) = none) (h2 : k.p.apart (k.front + k.deep) = none) :
    Calls Tryz.prog 70 #[.agg (k.lk mb).toArray] w fun e w' => e = .returned (.tuple #[.int .i64 3, .int .i64 0, .int .i64 0]) ∧ Below w.heap.size w w' := by
  have htm := tm_ok (mb := mb) (u := ⟨0, 0, 0, 0⟩) hk (by have := okc_cuts hk; simp [Cu.isT]; omega)
  have x1 := htm.elo
  have x2 := htm.ehi
  have x3 := htm.prism
  have x4 := htm.squeeze
  have x5 := htm.front
  have x6 := htm.deep
  dsimp only at x1 x2 x3 x4 x5 x6
  have HV := Lib.hid hv
  have HM := Lib.hid hM
  clear hv hM htm
  have hl : (k.lk mb).length = 18 := rfl
  have e11 : ∀ h : 11 < (k.lk mb).length, (k.lk mb)[11] = .int .i64 k.elo := fun _ => rfl
  have e12 : ∀ h : 12 < (k.lk mb).length, (k.lk mb)[12] = .int .i64 k.ehi := fun _ => rfl
  have e13 : ∀ h : 13 < (k.lk mb).length, (k.lk mb)[13] = .int .i64 k.prism := fun _ => rfl
  have e14 : ∀ h : 14 < (k.lk mb).length, (k.lk mb)[14] = .int .i64 k.squeeze := fun _ => rfl
  have e15 : ∀ h : 15 < (k.lk mb).length, (k.lk mb)[15] = .int .i64 k.front := fun _ => rfl
  have e16 : ∀ h : 16 < (k.lk mb).length, (k.lk mb)[16] = .int .i64 k.deep := fun _ => rfl
  have ix0 := ix152_0
  have ix1 := ix152_1
  have HL := Lib.hid (Box.fresh w (k.lk mb) 71)
  have HA1 := Lib.hid h1
  have HA2 := Lib.hid h2
  clear h1 h2
  go_enter Tryz.func70, Tryz.ntmps70
  go_wp2_with fail
  refine wp_loop_rounds 3 ?_
  rw [rounds_succ]
  go_wp2_with (with_reducible refine wsl (ty := 71) rfl ?_; unfold Stop; refine wlb row71 rfl (HL.out.grow (Gr.alloc _ _)) rfl rfl rfl ?_)
  refine (apart_ok k mb _ HV.out hlen _ (HM.out.grow ((Gr.alloc _ _).tr (Gr.alloc _ _)))).mono ?_
  rintro e w1 ⟨rfl, hb1⟩
  rw [HA1.out]
  simp only [Option.getD_none, Option.isSome_none]
  have HG := Lib.hid (show Gr w w1 from ((Gr.alloc _ _).tr (Gr.alloc _ _)).tr hb1)
  have HL1 := Lib.hid ((HL.out.grow (Gr.alloc _ _)).grow hb1)
  clear hb1
  go_wp2_with fail
  rw [rounds_succ]
  go_wp2_with (with_reducible refine wsl (ty := 71) rfl ?_; unfold Stop; refine wlb row71 rfl (HL1.out.grow (Gr.alloc _ _)) rfl rfl rfl ?_)
  refine (apart_ok k mb _ HV.out hlen _ (HM.out.grow (HG.out.tr (Gr.alloc _ _)))).mono ?_
  rintro e w2 ⟨rfl, hb2⟩
  rw [HA2.out]
  simp only [Option.getD_none, Option.isSome_none]
  have HG2 := Lib.hid (show Gr w w2 from (HG.out.tr (Gr.alloc _ _)).tr hb2)
  clear hb2
  go_wp2_with fail
  rw [rounds_succ]
  go_wp2
  refine bodyPost_ret (v := .tuple #[.int .i64 3, .int .i64 0, .int .i64 0]) (by simp [results, Tryz.results70, go_sem]) rfl ⟨rfl, HG2.out⟩
theorem obst_ok (k : Cd) (mb : Nat) (hk : k.okc = true) (hv : ∀ q ∈ k.p.sees, q.2.ok) (hlen : k.p.l.length ≤ 900) (w : World) (hM : MapAt k.p.sees mb w) {x a b : Int} (h : k.obst = (x, a, b)) :
    Calls Tryz.prog 70 #[.agg (k.lk mb).toArray] w fun e w' => e = .returned (.tuple #[.int .i64 x, .int .i64 a, .int .i64 b]) ∧ Below w.heap.size w w' := by
  unfold Cd.obst at h
  cases h1 : k.p.apart (k.elo + k.prism + k.squeeze - k.ehi) with
  | some q => rw [h1] at h; cases h; exact obst_1 k mb hk hv hlen w hM _ _ h1
  | none =>
    rw [h1] at h
    cases h2 : k.p.apart (k.front + k.deep) with
    | some q => rw [h2] at h; cases h; exact obst_2 k mb hk hv hlen w hM _ _ h1 h2
    | none => rw [h2] at h; cases h; exact obst_3 k mb hk hv hlen w hM h1 h2
end Go.Proofs.YtcngaohfemdfjaaGreat
