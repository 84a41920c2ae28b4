/-
  MountEyes returns true for every card and every trimming, and leaves its arguments as they were.
  No condition.
-/
import Derived.Test.YtcngaohfemdfjaaGreatX35
import Derived.Test.YtcngaohfemdfjaaGreatY34
import Derived.Test.YtcngaohfemdfjaaGreatY33
import Derived.ChangeOld
namespace Go.Proofs.YtcngaohfemdfjaaGreat
open Go.RowKit

theorem okc_eyes {k : Cd} (h : k.okc = true) : 1 ≤ k.elo ∧ k.elo ≤ k.ehi ∧ k.ehi ≤ 10000 := by
  unfold Cd.okc at h
  have h3 := List.all_eq_true.1 h 3 (by simp)
  have h4 := List.all_eq_true.1 h 4 (by simp)
  have h5 := List.all_eq_true.1 h 5 (by simp)
  simp [Cd.vd] at h3 h4 h5
  exact ⟨h3, h4, h5⟩
theorem turned_not {k : Cd} {u : Cu} (hok : k.p.ok = true) {n : Int} (h : ¬ k.fits u n) : k.turned u (setTo k.p.sees) n = true := by
  cases ht : k.turned u (setTo k.p.sees) n with
  | true => rfl
  | false => exact absurd ((turned_fits hok n).1 ht) h
theorem mount_eyes_any (k : Cd) (u : Cu) (len : Nat) (w : World) (h : CardIn k len w) :
    Calls Tryz.prog 8 #[.agg k.cs.toArray, u.val] w fun e w' => e = .returned (.bool true) ∧ Below w.heap.size w w' := by
  obtain ⟨⟨-, -, -, -, -, -, -, hlen, -, hT, -⟩, -⟩ := h
  subst hlen
  by_cases hl : 40 < k.p.l.length
  · exact eyes_many k u w hl
  replace hl : k.p.l.length ≤ 40 := by omega
  replace hT := hT (by omega)
  by_cases he : k.err [u] = 0
  · obtain ⟨hok, hk, hus, hpw⟩ := Cd.err_zero he
    have hu := hus u (by simp)
    obtain ⟨q1, q2, q3⟩ := okc_eyes hk
    have e1 : k.eyesA u = (⟨k, 0, u⟩ : Tm).eyes := by unfold Cd.eyesA; rw [if_pos he]
    have lo := fun n => Tm.eyes_lo ⟨k, 0, u⟩ n k.p.sees (1, 10000)
    have hi := fun n => Tm.eyes_hi ⟨k, 0, u⟩ n k.p.sees (1, 10000)
    by_cases hc : ((⟨k, 0, u⟩ : Tm).eyesTo (1, 10000) k.p.sees).2 < ((⟨k, 0, u⟩ : Tm).eyesTo (1, 10000) k.p.sees).1
    · have e2 : (⟨k, 0, u⟩ : Tm).eyes = (0, 0, 4) := by unfold Tm.eyes; rw [if_pos hc]
      exact eyes_err k u w hl hT 4 _ _ _ (Lib.hid (e1.trans e2)) (Lib.hid rfl) (by simp) (.inl (by simp))
    · have e2 : (⟨k, 0, u⟩ : Tm).eyes = (((⟨k, 0, u⟩ : Tm).eyesTo (1, 10000) k.p.sees).1, ((⟨k, 0, u⟩ : Tm).eyesTo (1, 10000) k.p.sees).2, 0) := by unfold Tm.eyes; rw [if_neg hc]
      have e3 := e1.trans e2
      generalize ((⟨k, 0, u⟩ : Tm).eyesTo (1, 10000) k.p.sees).1 = x at *
      generalize ((⟨k, 0, u⟩ : Tm).eyesTo (1, 10000) k.p.sees).2 = y at *
      have hx := (lo x).1 (Int.le_refl _)
      have hy := (hi y).1 (Int.le_refl _)
      dsimp only at hx hy
      have hsee : k.seenA = (((setTo k.p.sees : Nat) : Int), 0) := by unfold Cd.seenA; rw [if_pos (err_none he)]
      have hm : setTo k.p.sees < 4096 := setTo_lt fun q hq => by
        obtain ⟨i, hi, h1⟩ := sees_key hok hq
        omega
      have fin : ∀ n, x ≤ n → n ≤ y → k.fits u n := fun n h1 h2 q hq => ⟨((lo n).1 h1).2 q hq, ((hi n).1 h2).2 q hq⟩
      have fout : ∀ n, 1 ≤ n → n ≤ 10000 → k.fits u n → x ≤ n ∧ n ≤ y := fun n h1 h2 hf => ⟨(lo n).2 ⟨h1, fun q hq => (hf q hq).1⟩, (hi n).2 ⟨h2, fun q hq => (hf q hq).2⟩⟩
      have ht3 : decide (1 < x) = false ∨ (decide (1 < x) = true ∧ Hid (k.turned u (setTo k.p.sees) (x - 1) = true)) := by
        by_cases h1 : 1 < x
        · refine .inr ⟨decide_eq_true h1, Lib.hid (turned_not hok fun hf => ?_)⟩
          have := fout (x - 1) (by omega) (by omega) hf
          omega
        · exact .inl (decide_eq_false h1)
      have ht4 : decide (y < 10000) = false ∨ (decide (y < 10000) = true ∧ Hid (k.turned u (setTo k.p.sees) (y + 1) = true)) := by
        by_cases h1 : y < 10000
        · refine .inr ⟨decide_eq_true h1, Lib.hid (turned_not hok fun hf => ?_)⟩
          have := fout (y + 1) (by omega) (by omega) hf
          omega
        · exact .inl (decide_eq_false h1)
      obtain ⟨a, b, f, hh, hf⟩ : ∃ a b f, k.hurtsA u = (a, b, f) ∧ (f = 11 ∨ (f = 0 ∧ decide (x ≤ k.elo) = true ∧ decide (k.ehi ≤ y) = true)) := by
        unfold Cd.hurtsA
        rw [if_pos he]
        by_cases h0 : (⟨k, 0, u⟩ : Tm).first k.p.sees = (0, 0)
        · rw [if_pos h0]
          have hz := fun q hq => Tm.why_eyes (Tm.first_zero h0 q hq)
          dsimp only at hz
          refine ⟨0, 0, 0, rfl, .inr ⟨rfl, decide_eq_true ((lo _).2 ⟨q1, fun q hq => ?_⟩), decide_eq_true ((hi _).2 ⟨q3, fun q hq => ?_⟩)⟩⟩
          · have := (hz q hq).2
            dsimp only
            omega
          · have := (hz q hq).1
            dsimp only
            omega
        · rw [if_neg h0]
          exact ⟨_, _, 11, rfl, .inl rfl⟩
      exact eyes_yes k u w hl hT x y a b f (setTo k.p.sees) (Lib.hid e3) (Lib.hid hh) (Lib.hid hsee) (Lib.hid hok) (Lib.hid hk) (Lib.hid hu) hm hx.1 (by omega) hy.1 (Lib.hid ((turned_fits hok x).2 (fin x (Int.le_refl _) (by omega)))) (Lib.hid ((turned_fits hok y).2 (fin y (by omega) (Int.le_refl _)))) ht3 ht4 hf
  · have e1 : k.eyesA u = (0, 0, k.err [u]) := by unfold Cd.eyesA; rw [if_neg he]
    have e2 : k.hurtsA u = (0, 0, k.err [u]) := by unfold Cd.hurtsA; rw [if_neg he]
    generalize k.err [u] = x at *
    refine eyes_err k u w hl hT x 0 0 x (Lib.hid e1) (Lib.hid e2) (by simpa using he) ?_
    by_cases h4 : x = 4
    · exact .inl (by simp [h4])
    · exact .inr ⟨by simpa using h4, by simp, rfl⟩
end Go.Proofs.YtcngaohfemdfjaaGreat
namespace Go.Proofs.YtcngaohfemdfjaaGreat.EyesDone
open Go.ChangeShapes Go.WideShapes Go.ChangeAt Go.RowKit Go.Deep
set_option linter.unusedVariables false

set_option maxRecDepth 100000 in
theorem open_cuts {H : Type} {enc : TypeId × Value → H} {W : World} {base : Nat} {v : Value} {d : DataW H} {ps : List MemPlace} (hval : Value.okWide Tryz.prog W .any base 30 v)
    (h : DataW.Trod enc Tryz.prog W 0 (fun _ => true) true 30 v d ps) : ∃ u : Cu, v = u.val := by
  obtain ⟨cs, rfl, hsz, ts, hts, hn, hrow⟩ : ∃ cs, v = .agg cs ∧ cs.size = Tryz.prog.cellsOf 30 ∧ Row.okWide Tryz.prog W .any base 30 cs := by
    have := hval
    unfold Value.okWide at this
    rw [Tryz.underlying30] at this
    exact this
  obtain ⟨fuel, hf⟩ := h
  obtain ⟨u, hcs, -⟩ := trod_cuts hf
  have e : (Value.agg cs).cells = cs := rfl
  rw [e] at hcs
  exact ⟨u, congrArg Value.agg (Array.toList_inj.1 hcs)⟩
theorem own : ownKnob Tryz.prog.godebug = none := by kernel_rfl
theorem laidOut : laidOutB Tryz.prog = true := by kernel_rfl
set_option maxRecDepth 100000 in
theorem lifted (os : Os) (started : os.Started) (H : Type) (enc : TypeId × Value → H) :
    ReturnsInHanded {} Tryz.checked os 8 .any (Rows.mountEyesSpec.pre6 enc Tryz.prog Tryz.f8 Rows.mountEyesRow.domain false) (Rows.mountEyesSpec.post enc Tryz.prog Tryz.f8 false true false false) := by
  refine returnsInHanded_of_change (C := Tryz.checked) own started (by kernel_rfl) Tryz.func8
    (ChangeSpec.witness6 (enc := enc) (C := Tryz.checked) false ⟨#[], #[.agg #[.int .i64 0, .int .i64 0, .int .i64 0, .int .i64 0, .int .i64 0, .int .i64 0, .int .i64 0, .slice none 0 0, .int .i64 0, .int .i64 0, .int .i64 0, .int .i64 0, .int .i64 0, .int .i64 0, .int .i64 0, .int .i64 0, .int .i64 0], .agg #[.int .i64 0, .int .i64 0, .int .i64 0, .int .i64 0]], []⟩ 8 (by kernel_rfl) (by kernel_rfl) (by kernel_rfl) (by kernel_rfl)) ?_
  intro W base args ds gs before hval0 hW hcnd _
  have hval : ∀ (j : Nat) t v, Tryz.f8.params[j]? = some t → args[j]? = some v → Value.okWide Tryz.prog W .any base t v := hval0
  have hW' := hW
  obtain ⟨p, q, hA0, hV, rfl, hfz, hnd⟩ := hW
  have hA : DataW.TrodAll enc Tryz.prog W 0 (fun _ => true) true Tryz.f8.params.toList args.toList ds p := hA0
  rw [Tryz.params8] at hA hval
  obtain ⟨v0, vs0, d0, ds0, p0, q0, hargs, rfl, rfl, h0, r0⟩ := trodAll_cons hA
  obtain ⟨v1, vs1, d1, ds1, p1, q1, rfl, rfl, rfl, h1, r1⟩ := trodAll_cons r0
  obtain ⟨rfl, rfl, rfl⟩ := trodAll_nil r1
  obtain rfl : args = #[v0, v1] := by cases args; simp_all
  obtain ⟨rfl, rfl⟩ := trodVars_none hV
  have k0 := h0
  have lt0 : ∀ x ∈ p0, x.block < W.heap.size := by obtain ⟨m, hm⟩ := k0; exact DataW.trod_lt m _ _ _ hm
  have k1 := h1
  have lt1 : ∀ x ∈ p1, x.block < W.heap.size := by obtain ⟨m, hm⟩ := k1; exact DataW.trod_lt m _ _ _ hm
  obtain ⟨k, len, rfl, hin⟩ := open_card (hval 0 28 v0 rfl rfl) h0
  obtain ⟨u, rfl⟩ := open_cuts (hval 1 30 v1 rfl rfl) h1
  clear hA0 hval0
  refine (mount_eyes_any k u len W hin).mono fun e W' ⟨he, bel⟩ => ?_
  subst he
  exact ⟨_, rfl, _, _, _, [], _, [], hW', trodAll_mk1 (shut_bool Tryz.underlying4 _), (trodAll_cons_mk (Below.trod laidOut (by kernel_rfl) (of_decide_eq_true (by kernel_rfl)) k0 bel lt0) (trodAll_cons_mk (Below.trod laidOut (by kernel_rfl) (of_decide_eq_true (by kernel_rfl)) k1 bel lt1) trodAll_mk0)), rfl, bel.frame _, fun h => by cases h⟩

theorem over : Rows.mountEyesRow.holds Tryz.pinned (OpenSpec.ofChange Rows.mountEyesSpec) :=
  OpenClaim.holds_of_wide 8 Tryz.f8 rfl rfl rfl rfl rfl rfl rfl ⟨rfl, rfl, rfl, rfl, rfl⟩ rfl rfl rfl rfl rfl (by kernel_rfl) Tryz.func8 (by kernel_rfl)
    (of_decide_eq_true (by kernel_rfl)) (by unfold Func.isWrapper; first | (rw [if_pos (by decide +kernel)]; kernel_rfl) | (rw [if_neg (by decide +kernel)]; exact ⟨rfl, rfl⟩))
    (fun os started H enc _ => lifted os started H enc)

theorem proved : Rows.MountEyesSaid := over
#print axioms proved
end Go.Proofs.YtcngaohfemdfjaaGreat.EyesDone
