/-
  MountWhy returns true for every card and every row of numbers, and leaves its arguments as they were.
  No condition.
-/
import Derived.Test.YtcngaohfemdfjaaGreatY34
import Derived.Test.YtcngaohfemdfjaaGreatY33
import Derived.Test.YtcngaohfemdfjaaGreatX44
import Derived.Test.YtcngaohfemdfjaaGreatX47a
import Derived.Test.YtcngaohfemdfjaaGreatX47b
import Derived.Test.YtcngaohfemdfjaaGreatX47c
import Derived.ChangeOld
import Derived.OpenShut
set_option linter.unusedVariables false
set_option linter.unusedSimpArgs false
namespace Go.Proofs.YtcngaohfemdfjaaGreat
open Go.RowKit

theorem err_card {k : Cd} (hc : (k.okc && k.p.ok) = true) : k.err [] = 0 ∨ k.err [] = 4 := by
  have h1 : k.okc = true ∧ k.p.ok = true := by simpa using hc
  by_cases hp : k.p.pw.1 ≤ k.p.pw.2
  · left; simp [Cd.err, h1.1, h1.2, hp]
  · right; simp [Cd.err, h1.1, h1.2, hp]
theorem sees_small' {k : Cd} (hok : k.p.ok = true) : setTo k.p.sees < 4096 := setTo_lt fun q hq => by
  obtain ⟨i, hi, h1⟩ := sees_key hok hq
  omega
theorem mount_why_any (k : Cd) (sa : Option Addr) (len cap : Nat) (lt : Nat) (w : World) (h : CardIn k lt w) (hby : len = 0 ∨ ∃ b o, sa = some ⟨b, o, none⟩ ∧ ByIn b o len w) :
    Calls Tryz.prog 7 #[.agg k.cs.toArray, .slice sa len cap] w fun e w' => e = .returned (.bool true) ∧ Below w.heap.size w w' := by
  obtain ⟨⟨-, -, -, -, -, -, -, hlen, -, hT, -⟩, -⟩ := h
  subst hlen
  by_cases hl : 40 < k.p.l.length
  · exact lwhy_many k _ w hl
  replace hl : k.p.l.length ≤ 40 := by omega
  replace hT := hT (by omega)
  rcases hby with rfl | ⟨b, o, rfl, hy⟩
  · exact lwhy_none k sa cap w hl
  have hy0 := hy.1
  cases hc : (k.okc && k.p.ok) with
  | false => exact lwhy_card k _ len cap hy0 w hl hT (Lib.hid hc)
  | true =>
    by_cases hn : 20 < k.cuts
    · exact lwhy_cuts k _ len cap hy0 w hl hT (Lib.hid hc) hn
    replace hn : k.cuts ≤ 20 := by omega
    have hk : k.okc = true := by simp at hc; exact hc.1
    have hok : k.p.ok = true := by simp at hc; exact hc.2
    have hlen := (k.p.bounds hok).len
    rcases err_card hc with he | he
    · have e2 : k.seenA = (((setTo k.p.sees : Nat) : Int), 0) := by unfold Cd.seenA; rw [if_pos he]
      have hm := sees_small' hok
      cases ht : k.trim with
      | some t =>
        have e1 : k.trimA = (t, 0) := by unfold Cd.trimA; rw [if_pos he, ht]
        have ew : k.whyA = (0, 0, 0, 0) := by unfold Cd.whyA; rw [if_pos he, ht]
        exact lwhy_else k b o len cap w hl hT hy (Lib.hid hc) hn t 0 (.inl (by simp)) (by simp) (Lib.hid ew) (Lib.hid e1)
      | none =>
      have e1 : k.trimA = (⟨0, 0, 0, 0⟩, 11) := by unfold Cd.trimA; rw [if_pos he, ht]
      rcases obst_cases k with ⟨a, c, h1, h2⟩ | ⟨a, c, h1, h2⟩ | h1
      · obtain ⟨q, hq, r, hr, ea, eb, hlt⟩ := apartOf_some h2
        obtain ⟨i, hi, e3, e4⟩ := sees_shift hok hq
        obtain ⟨j, hj, e5, e6⟩ := sees_shift hok hr
        have hqo := Pr.sees_ok hok q hq
        have hro := Pr.sees_ok hok r hr
        rw [e3] at e4
        rw [e5] at e6
        have ew : k.whyA = (1, (i : Int), (j : Int), 11) := by
          unfold Cd.whyA
          rw [if_pos he, ht, h1, ← ea, ← eb, e3, e5]
        exact lwhy_eyes k b o len cap w hl hT hy (Lib.hid hc) hn i j (setTo k.p.sees) hi hj (Lib.hid ew) (Lib.hid e1) (Lib.hid e2) _ _ _ _ (Lib.hid e4) (Lib.hid e6)
          (Lib.hid ((bit_shr _ i hm (by omega)).2 ((setTo_bit _ i).2 ⟨q, hq, by rw [e3]; simp⟩))) (Lib.hid ((bit_shr _ j hm (by omega)).2 ((setTo_bit _ j).2 ⟨r, hr, by rw [e5]; simp⟩))) hqo.sb hro.sa hk (okc_cuts hk)
          (Lib.hid fun al => by
            by_cases hz : al - q.2.sb < k.ehi - k.squeeze
            · exact .inl (decide_eq_true hz)
            · exact .inr ⟨decide_eq_false hz, decide_eq_true (by omega)⟩)
      · obtain ⟨q, hq, r, hr, ea, eb, hlt⟩ := apartOf_some h2
        obtain ⟨i, hi, e3, e4⟩ := sees_shift hok hq
        obtain ⟨j, hj, e5, e6⟩ := sees_shift hok hr
        have hqo := Pr.sees_ok hok q hq
        have hro := Pr.sees_ok hok r hr
        rw [e3] at e4
        rw [e5] at e6
        have ew : k.whyA = (2, (i : Int), (j : Int), 11) := by
          unfold Cd.whyA
          rw [if_pos he, ht, h1, ← ea, ← eb, e3, e5]
        exact lwhy_win k b o len cap w hl hT hy (Lib.hid hc) hn i j (setTo k.p.sees) hi hj (Lib.hid ew) (Lib.hid e1) (Lib.hid e2) _ _ _ _ (Lib.hid e4) (Lib.hid e6)
          (Lib.hid ((bit_shr _ i hm (by omega)).2 ((setTo_bit _ i).2 ⟨q, hq, by rw [e3]; simp⟩))) (Lib.hid ((bit_shr _ j hm (by omega)).2 ((setTo_bit _ j).2 ⟨r, hr, by rw [e5]; simp⟩))) hqo.sb hro.sa hk (okc_cuts hk)
          (Lib.hid fun al => by
            by_cases hz : al + k.front < q.2.sb
            · exact .inl (decide_eq_true hz)
            · exact .inr ⟨decide_eq_false hz, decide_eq_true (by omega)⟩)
      · have ew : k.whyA = (3, 0, 0, 11) := by unfold Cd.whyA; rw [if_pos he, ht, h1]
        exact lwhy_cut k b o len cap w hl hT hy (Lib.hid hc) hn (Lib.hid ew) (Lib.hid e1)
    · have e1 : k.trimA = (⟨0, 0, 0, 0⟩, 4) := by unfold Cd.trimA; rw [if_neg (by omega), he]
      have ew : k.whyA = (0, 0, 0, 4) := by unfold Cd.whyA; rw [if_neg (by omega), he]
      exact lwhy_else k b o len cap w hl hT hy (Lib.hid hc) hn _ 4 (.inr ⟨by simp, by simp⟩) (by simp) (Lib.hid ew) (Lib.hid e1)
end Go.Proofs.YtcngaohfemdfjaaGreat
namespace Go.Proofs.YtcngaohfemdfjaaGreat.MWhyDone
open Go.ChangeShapes Go.WideShapes Go.ChangeAt Go.RowKit Go.Deep
set_option linter.unusedVariables false

/-- The row of numbers that came in: it is empty, or its cells are there. -/
theorem open_by {H : Type} {enc : TypeId × Value → H} {W : World} {sa : Option Addr} {len cap : Nat} {d : DataW H} {ps : List MemPlace}
    (h : DataW.Trod enc Tryz.prog W 0 (fun _ => true) true 45 (.slice sa len cap) d ps) : len = 0 ∨ ∃ b o, sa = some ⟨b, o, none⟩ ∧ ByIn b o len W := by
  obtain ⟨fuel, hf⟩ := h
  rcases open_ints Tryz.underlying45 Tryz.underlying103 (by kernel_rfl) hf with ⟨hcs, -⟩ | ⟨a, len', cap', zs, hcs, -, hle, hmax, hall, -, hcell, hwf⟩
  · simp [Value.cells] at hcs
    exact .inl hcs.2.1
  · simp [Value.cells] at hcs
    obtain ⟨rfl, rfl, rfl⟩ := hcs
    by_cases hl : len = 0
    · exact .inl hl
    · right
      simp only [if_true] at hall
      obtain ⟨b, o, rfl, hc⟩ := ints_at hcell (by omega)
      refine ⟨b, o, rfl, by omega, by omega, ?_, fun i hi => ⟨zs.getD i 0, hc i (by omega), ?_⟩⟩
      · have h0 := hc 0 (by omega)
        apply Nat.lt_of_not_le
        intro hn
        have : W.heap[b]? = none := by simpa using hn
        simp [World.cell?, this] at h0
      · have hz : zs.getD i 0 ∈ zs := by
          rw [List.getD_eq_getElem?_getD, List.getElem?_eq_getElem (show i < zs.length by omega)]
          exact List.getElem_mem _
        have := hwf _ hz
        simp only [Lit.wf, Bool.and_eq_true, decide_eq_true_eq] at this
        exact this
theorem own : ownKnob Tryz.prog.godebug = none := by kernel_rfl
theorem laidOut : laidOutB Tryz.prog = true := by kernel_rfl
set_option maxRecDepth 100000 in
theorem lifted (os : Os) (started : os.Started) (H : Type) (enc : TypeId × Value → H) :
    ReturnsInHanded {} Tryz.checked os 7 .any (Rows.mountWhySpec.pre6 enc Tryz.prog Tryz.f7 Rows.mountWhyRow.domain false) (Rows.mountWhySpec.post enc Tryz.prog Tryz.f7 false true false false) := by
  refine returnsInHanded_of_change (C := Tryz.checked) own started (by kernel_rfl) Tryz.func7
    (ChangeSpec.witness6 (enc := enc) (C := Tryz.checked) false ⟨#[], #[.agg #[.int .i64 0, .int .i64 0, .int .i64 0, .int .i64 0, .int .i64 0, .int .i64 0, .int .i64 0, .slice none 0 0, .int .i64 0, .int .i64 0, .int .i64 0, .int .i64 0, .int .i64 0, .int .i64 0, .int .i64 0, .int .i64 0, .int .i64 0], .slice none 0 0], []⟩ 8 (by kernel_rfl) (by kernel_rfl) (by kernel_rfl) (by kernel_rfl)) ?_
  intro W base args ds gs before hval0 hW hcnd _
  have hval : ∀ (j : Nat) t v, Tryz.f7.params[j]? = some t → args[j]? = some v → Value.okWide Tryz.prog W .any base t v := hval0
  have hW' := hW
  obtain ⟨p, q, hA0, hV, rfl, hfz, hnd⟩ := hW
  have hA : DataW.TrodAll enc Tryz.prog W 0 (fun _ => true) true Tryz.f7.params.toList args.toList ds p := hA0
  rw [Tryz.params7] at hA hval
  obtain ⟨v0, vs0, d0, ds0, p0, q0, hargs, rfl, rfl, h0, r0⟩ := trodAll_cons hA
  obtain ⟨v1, vs1, d1, ds1, p1, q1, rfl, rfl, rfl, h1, r1⟩ := trodAll_cons r0
  obtain ⟨rfl, rfl, rfl⟩ := trodAll_nil r1
  obtain rfl : args = #[v0, v1] := by cases args; simp_all
  obtain ⟨rfl, rfl⟩ := trodVars_none hV
  have k0 := h0
  have lt0 : ∀ x ∈ p0, x.block < W.heap.size := by obtain ⟨m, hm⟩ := k0; exact DataW.trod_lt m _ _ _ hm
  have k1 := h1
  have lt1 : ∀ x ∈ p1, x.block < W.heap.size := by obtain ⟨m, hm⟩ := k1; exact DataW.trod_lt m _ _ _ hm
  obtain ⟨k, len, rfl, hin⟩ := open_card (hval 0 28 v0 rfl rfl) h0
  obtain ⟨sa, len', cap, rfl⟩ := Go.WideShapes.okWide_slice Tryz.underlying45 (hval 1 45 v1 rfl rfl)
  have hby := open_by h1
  clear hA0 hval0
  refine (mount_why_any k sa len' cap len W hin hby).mono fun e W' ⟨he, bel⟩ => ?_
  subst he
  exact ⟨_, rfl, _, _, _, [], _, [], hW', trodAll_mk1 (shut_bool Tryz.underlying4 _), (trodAll_cons_mk (Below.trod laidOut (by kernel_rfl) (of_decide_eq_true (by kernel_rfl)) k0 bel lt0) (trodAll_cons_mk (Below.trod laidOut (by kernel_rfl) (of_decide_eq_true (by kernel_rfl)) k1 bel lt1) trodAll_mk0)), rfl, bel.frame _, fun h => by cases h⟩

theorem over : Rows.mountWhyRow.holds Tryz.pinned (OpenSpec.ofChange Rows.mountWhySpec) :=
  OpenClaim.holds_of_wide 7 Tryz.f7 rfl rfl rfl rfl rfl rfl rfl ⟨rfl, rfl, rfl, rfl, rfl⟩ rfl rfl rfl rfl rfl (by kernel_rfl) Tryz.func7 (by kernel_rfl)
    (of_decide_eq_true (by kernel_rfl)) (by unfold Func.isWrapper; first | (rw [if_pos (by decide +kernel)]; kernel_rfl) | (rw [if_neg (by decide +kernel)]; exact ⟨rfl, rfl⟩))
    (fun os started H enc _ => lifted os started H enc)

theorem proved : Rows.MountWhySaid := over
#print axioms proved
end Go.Proofs.YtcngaohfemdfjaaGreat.MWhyDone
