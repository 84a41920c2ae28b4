/-
  MountDepths returns true for every card, every trimming and every number, and leaves its arguments as they were.
  No condition.
-/
import Derived.Test.YtcngaohfemdfjaaGreatY34
import Derived.Test.YtcngaohfemdfjaaGreatY33
import Derived.Test.YtcngaohfemdfjaaGreatX39
import Derived.Test.YtcngaohfemdfjaaGreatX40
import Derived.Test.YtcngaohfemdfjaaGreatX42A
import Derived.Test.YtcngaohfemdfjaaGreatX42B
import Derived.Test.YtcngaohfemdfjaaGreatX42C
import Derived.Test.YtcngaohfemdfjaaGreatX42D
import Derived.ChangeOld
import Derived.OpenShut
set_option linter.unusedVariables false
set_option linter.unusedSimpArgs false
namespace Go.Proofs.YtcngaohfemdfjaaGreat
open Go.RowKit

theorem mount_depths_any (k : Cd) (u : Cu) (z : Int) (len : Nat) (w : World) (h : CardIn k len w) (hz : 0 ≤ z ∧ z < 4294967296) :
    Calls Tryz.prog 9 #[.agg k.cs.toArray, u.val, .int .u32 z] w fun e w' => e = .returned (.bool true) ∧ Below w.heap.size w w' := by
  obtain ⟨⟨-, -, -, -, -, -, -, hlen, -, hT, -⟩, -⟩ := h
  subst hlen
  by_cases hl : 40 < k.p.l.length
  · exact depths_many k u z w hl
  replace hl : k.p.l.length ≤ 40 := by omega
  replace hT := hT (by omega)
  by_cases he : k.err [u] = 0
  · obtain ⟨hok, hk, hus, hpw⟩ := Cd.err_zero he
    have hu := hus u (by simp)
    have hbd := k.p.bounds hok
    have hne0 := hbd.ne0
    have hne1 := hbd.ne1
    have hfa1 := hbd.fa1
    have hin := k.p.pw_in hok
    have e1 : k.roomA u = (⟨k, 0, u⟩ : Tm).room := by unfold Cd.roomA; rw [if_pos he]
    have e0 : k.deepA u = if (⟨k, 0, u⟩ : Tm).room.2.2 = 0 then k.deepS (⟨k, 0, u⟩ : Tm).room.1 (⟨k, 0, u⟩ : Tm).room.2.1 else (0, 0, (⟨k, 0, u⟩ : Tm).room.2.2) := by unfold Cd.deepA; rw [if_pos he]
    by_cases hr : (⟨k, 0, u⟩ : Tm).rhi < (⟨k, 0, u⟩ : Tm).rlo
    · have e2 : (⟨k, 0, u⟩ : Tm).room = (0, 0, 4) := by unfold Tm.room; rw [if_pos hr]
      rw [e2] at e0 e1
      exact depths_err k u z w hl hT 4 _ _ _ (Lib.hid (by simpa using e0)) (Lib.hid e1) (Lib.hid rfl) (by simp) (.inl (by simp))
    · have e2 : (⟨k, 0, u⟩ : Tm).room = ((⟨k, 0, u⟩ : Tm).rlo, (⟨k, 0, u⟩ : Tm).rhi, 0) := by unfold Tm.room; rw [if_neg hr]
      rw [e2] at e0 e1
      simp only [if_true] at e0
      have hlo0 : 0 ≤ (⟨k, 0, u⟩ : Tm).rlo := by unfold Tm.rlo imax; (repeat' split) <;> omega
      have hhi0 : (⟨k, 0, u⟩ : Tm).rhi ≤ 2000 := by unfold Tm.rhi imin; (repeat' split) <;> omega
      have hwr : ∀ x : Vw, (⟨k, 0, u⟩ : Tm).why x ≠ 0 → ((⟨k, 0, u⟩ : Tm).why x = 5 → (⟨k, 0, u⟩ : Tm).rlo ≤ imax 0 x.sa ∧ imin 2000 x.sb ≤ (⟨k, 0, u⟩ : Tm).rhi) ∧ ((⟨k, 0, u⟩ : Tm).why x ≠ 5 → ¬ ((⟨k, 0, u⟩ : Tm).rlo ≤ x.sa ∧ x.sb ≤ (⟨k, 0, u⟩ : Tm).rhi)) := fun x => Tm.why_room
      generalize (⟨k, 0, u⟩ : Tm).rlo = rl at *
      generalize (⟨k, 0, u⟩ : Tm).rhi = rh at *
      have hg : ∃ n why g, k.hurtsA u = (n, why, g) ∧ (g = 0 ∨ (g = 11 ∧ 0 ≤ n ∧ n < k.p.l.length ∧ ∃ sx sy, Hid (k.p.shift n = (sx, sy, 0)) ∧ ((why = 5 ∧ Hid ((decide (rl ≤ imax 0 sx) && decide (imin 2000 sy ≤ rh)) = true)) ∨ ((why == 5) = false ∧ Hid ((decide (rl ≤ sx) && decide (sy ≤ rh)) = false))))) := by
        unfold Cd.hurtsA
        rw [if_pos he]
        by_cases h0 : (⟨k, 0, u⟩ : Tm).first k.p.sees = (0, 0)
        · rw [if_pos h0]
          exact ⟨0, 0, 0, rfl, .inl rfl⟩
        · rw [if_neg h0]
          obtain ⟨q, hq, h1, h2⟩ := Tm.first_some h0
          obtain ⟨i, hi, h3, h4⟩ := sees_shift hok hq
          have h5 := hwr q.2 h2
          rw [h1]
          refine ⟨_, _, 11, rfl, .inr ⟨rfl, by rw [h3]; omega, by rw [h3]; omega, _, _, Lib.hid h4, ?_⟩⟩
          dsimp only
          by_cases hw : (⟨k, 0, u⟩ : Tm).why q.2 = 5
          · have := h5.1 hw
            exact .inl ⟨hw, Lib.hid (by simp [this.1, this.2])⟩
          · have := h5.2 hw
            refine .inr ⟨by simpa using hw, Lib.hid ?_⟩
            simp only [Bool.and_eq_false_iff, decide_eq_false_iff_not]
            omega
      obtain ⟨n, why, g, eh, hg⟩ := hg
      obtain ⟨zz, hzz⟩ : ∃ zz, k.p.ne + z % (k.p.fa - k.p.ne + 1) = zz := ⟨_, rfl⟩
      have hz1 : k.p.ne ≤ zz ∧ zz ≤ k.p.fa := by
        have a1 := Int.emod_nonneg z (show k.p.fa - k.p.ne + 1 ≠ 0 by omega)
        have a2 := Int.emod_lt_of_pos z (show 0 < k.p.fa - k.p.ne + 1 by omega)
        omega
      have hst : k.p.stands zz = (k.p.pw.1 / zz, k.p.pw.2 / zz, 0) := by
        unfold Pr.stands
        rw [hok, if_pos rfl, if_pos hz1, if_pos hpw]
      have hc : (k.okc && k.p.ok) = true := by rw [hok, hk]; rfl
      have hd := Cd.deep_in (k := k) (lo := rl) (hi := rh) (z := zz) (by omega) (by omega) hlo0 (by omega) hz1.1 hz1.2
      have hde := Cd.deep_ends (k := k) (lo := rl) (hi := rh) hne1
      generalize k.p.pw.1 / zz = x at *
      generalize k.p.pw.2 / zz = y at *
      rcases hde with ⟨d1, d2, d3, d4⟩ | d0
      · obtain ⟨dl, dh, hdd⟩ : ∃ dl dh, k.deepS rl rh = (dl, dh, 0) := ⟨_, _, Prod.ext rfl (Prod.ext rfl d1)⟩
        rw [hdd] at d1 d2 d3 d4 hd e0
        dsimp only at d2 d3 d4 hd
        simp only [true_and] at hd
        by_cases c1 : dl ≤ zz
        · by_cases c2 : zz ≤ dh
          · exact depths_yesA k u z w hl hT dl dh 0 rl rh n why g x y zz true (by omega) (Lib.hid e0) (Lib.hid e1) (Lib.hid eh) (Lib.hid hc) (by omega) hz (by omega) (Lib.hid hzz) (Lib.hid hst) (Lib.hid (by have := hd.2 ⟨c1, c2⟩; simp [this.1, this.2])) ⟨rfl, d2, d3, d4, by simpa using c1, by simpa using c2, rfl⟩ hg
          · exact depths_yesB k u z w hl hT dl dh 0 rl rh n why g x y zz false (by omega) (Lib.hid e0) (Lib.hid e1) (Lib.hid eh) (Lib.hid hc) (by omega) hz (by omega) (Lib.hid hzz) (Lib.hid hst) (Lib.hid (by simp only [Bool.and_eq_false_iff, decide_eq_false_iff_not]; omega)) ⟨rfl, d2, d3, d4, by simpa using c1, by simpa using c2, rfl⟩ hg
        · exact depths_yesC k u z w hl hT dl dh 0 rl rh n why g x y zz false (by omega) (Lib.hid e0) (Lib.hid e1) (Lib.hid eh) (Lib.hid hc) (by omega) hz (by omega) (Lib.hid hzz) (Lib.hid hst) (Lib.hid (by simp only [Bool.and_eq_false_iff, decide_eq_false_iff_not]; omega)) ⟨rfl, d2, d3, d4, by simpa using c1, rfl⟩ hg
      · rw [d0] at hd e0
        exact depths_yesD k u z w hl hT 0 0 4 rl rh n why g x y zz false (by omega) (Lib.hid e0) (Lib.hid e1) (Lib.hid eh) (Lib.hid hc) (by omega) hz (by omega) (Lib.hid hzz) (Lib.hid hst) (Lib.hid (by simp only [Bool.and_eq_false_iff, decide_eq_false_iff_not]; simp at hd; omega)) ⟨rfl, rfl, rfl, rfl⟩ hg
  · have e1 : k.deepA u = (0, 0, k.err [u]) := by unfold Cd.deepA; rw [if_neg he]
    have e2 : k.roomA u = (0, 0, k.err [u]) := by unfold Cd.roomA; rw [if_neg he]
    have e3 : k.hurtsA u = (0, 0, k.err [u]) := by unfold Cd.hurtsA; rw [if_neg he]
    generalize k.err [u] = x at *
    refine depths_err k u z w hl hT x 0 0 x (Lib.hid e1) (Lib.hid e2) (Lib.hid e3) (by simpa using he) ?_
    by_cases h4 : x = 4
    · exact .inl (by simp [h4])
    · exact .inr ⟨by simpa using h4, by simp, rfl, rfl⟩
end Go.Proofs.YtcngaohfemdfjaaGreat
namespace Go.Proofs.YtcngaohfemdfjaaGreat.DepthsDone
open Go.ChangeShapes Go.WideShapes Go.ChangeAt Go.RowKit Go.Deep
set_option linter.unusedVariables false

set_option maxRecDepth 100000 in
theorem open_cuts {H : Type} {enc : TypeId × Value → H} {W : World} {base : Nat} {v : Value} {d : DataW H} {ps : List MemPlace} (hval : Value.okWide Tryz.prog W .any base 30 v)
    (h : DataW.Trod enc Tryz.prog W 0 (fun _ => true) true 30 v d ps) : ∃ u : Cu, v = u.val := by
  obtain ⟨cs, rfl, hsz, ts, hts, hn, hrow⟩ : ∃ cs, v = .agg cs ∧ cs.size = Tryz.prog.cellsOf 30 ∧ Row.okWide Tryz.prog W .any base 30 cs := by
    have := hval
    unfold Value.okWide at this
    rw [Tryz.underlying30] at this
    exact this
  obtain ⟨fuel, hf⟩ := h
  obtain ⟨u, hcs, -⟩ := trod_cuts hf
  have e : (Value.agg cs).cells = cs := rfl
  rw [e] at hcs
  exact ⟨u, congrArg Value.agg (Array.toList_inj.1 hcs)⟩
theorem own : ownKnob Tryz.prog.godebug = none := by kernel_rfl
theorem laidOut : laidOutB Tryz.prog = true := by kernel_rfl
set_option maxRecDepth 100000 in
theorem lifted (os : Os) (started : os.Started) (H : Type) (enc : TypeId × Value → H) :
    ReturnsInHanded {} Tryz.checked os 9 .any (Rows.mountDepthsSpec.pre6 enc Tryz.prog Tryz.f9 Rows.mountDepthsRow.domain false) (Rows.mountDepthsSpec.post enc Tryz.prog Tryz.f9 false true false false) := by
  refine returnsInHanded_of_change (C := Tryz.checked) own started (by kernel_rfl) Tryz.func9
    (ChangeSpec.witness6 (enc := enc) (C := Tryz.checked) false ⟨#[], #[.agg #[.int .i64 0, .int .i64 0, .int .i64 0, .int .i64 0, .int .i64 0, .int .i64 0, .int .i64 0, .slice none 0 0, .int .i64 0, .int .i64 0, .int .i64 0, .int .i64 0, .int .i64 0, .int .i64 0, .int .i64 0, .int .i64 0, .int .i64 0], .agg #[.int .i64 0, .int .i64 0, .int .i64 0, .int .i64 0], .int .u32 0], []⟩ 8 (by kernel_rfl) (by kernel_rfl) (by kernel_rfl) (by kernel_rfl)) ?_
  intro W base args ds gs before hval0 hW hcnd _
  have hval : ∀ (j : Nat) t v, Tryz.f9.params[j]? = some t → args[j]? = some v → Value.okWide Tryz.prog W .any base t v := hval0
  have hW' := hW
  obtain ⟨p, q, hA0, hV, rfl, hfz, hnd⟩ := hW
  have hA : DataW.TrodAll enc Tryz.prog W 0 (fun _ => true) true Tryz.f9.params.toList args.toList ds p := hA0
  rw [Tryz.params9] at hA hval
  obtain ⟨v0, vs0, d0, ds0, p0, q0, hargs, rfl, rfl, h0, r0⟩ := trodAll_cons hA
  obtain ⟨v1, vs1, d1, ds1, p1, q1, rfl, rfl, rfl, h1, r1⟩ := trodAll_cons r0
  obtain ⟨v2, vs2, d2, ds2, p2, q2, rfl, rfl, rfl, h2, r2⟩ := trodAll_cons r1
  obtain ⟨rfl, rfl, rfl⟩ := trodAll_nil r2
  obtain rfl : args = #[v0, v1, v2] := by cases args; simp_all
  obtain ⟨rfl, rfl⟩ := trodVars_none hV
  have k0 := h0
  have lt0 : ∀ x ∈ p0, x.block < W.heap.size := by obtain ⟨m, hm⟩ := k0; exact DataW.trod_lt m _ _ _ hm
  have k1 := h1
  have lt1 : ∀ x ∈ p1, x.block < W.heap.size := by obtain ⟨m, hm⟩ := k1; exact DataW.trod_lt m _ _ _ hm
  obtain ⟨k, len, rfl, hin⟩ := open_card (hval 0 28 v0 rfl rfl) h0
  obtain ⟨u, rfl⟩ := open_cuts (hval 1 30 v1 rfl rfl) h1
  obtain ⟨z, rfl, rfl, rfl, wz⟩ := open_int Tryz.underlying59 (hval 2 59 v2 rfl rfl) h2
  have hz : 0 ≤ z ∧ z < 4294967296 := by
    simp only [Lit.wf, Bool.and_eq_true, decide_eq_true_eq] at wz
    have e1 : IntKind.u32.min = 0 := by decide
    have e2 : IntKind.u32.max = 4294967295 := by decide
    omega
  clear hA0 hval0
  refine (mount_depths_any k u z len W hin hz).mono fun e W' ⟨he, bel⟩ => ?_
  subst he
  exact ⟨_, rfl, _, _, _, [], _, [], hW', trodAll_mk1 (shut_bool Tryz.underlying4 _), (trodAll_cons_mk (Below.trod laidOut (by kernel_rfl) (of_decide_eq_true (by kernel_rfl)) k0 bel lt0) (trodAll_cons_mk (Below.trod laidOut (by kernel_rfl) (of_decide_eq_true (by kernel_rfl)) k1 bel lt1) (trodAll_cons_mk (shut_int Tryz.underlying59 wz) trodAll_mk0))), rfl, bel.frame _, fun h => by cases h⟩

theorem over : Rows.mountDepthsRow.holds Tryz.pinned (OpenSpec.ofChange Rows.mountDepthsSpec) :=
  OpenClaim.holds_of_wide 9 Tryz.f9 rfl rfl rfl rfl rfl rfl rfl ⟨rfl, rfl, rfl, rfl, rfl⟩ rfl rfl rfl rfl rfl (by kernel_rfl) Tryz.func9 (by kernel_rfl)
    (of_decide_eq_true (by kernel_rfl)) (by unfold Func.isWrapper; first | (rw [if_pos (by decide +kernel)]; kernel_rfl) | (rw [if_neg (by decide +kernel)]; exact ⟨rfl, rfl⟩))
    (fun os started H enc _ => lifted os started H enc)

theorem proved : Rows.MountDepthsSaid := over
#print axioms proved
end Go.Proofs.YtcngaohfemdfjaaGreat.DepthsDone
