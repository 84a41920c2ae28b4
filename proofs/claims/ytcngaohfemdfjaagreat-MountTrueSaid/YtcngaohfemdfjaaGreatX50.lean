/-
  MountTrue returns true for every card and every row of numbers, and leaves its arguments as they were.
  No condition.
-/
import Derived.Test.YtcngaohfemdfjaaGreatY34
import Derived.Test.YtcngaohfemdfjaaGreatY33
import Derived.Test.YtcngaohfemdfjaaGreatX44
import Derived.Test.YtcngaohfemdfjaaGreatX48
import Derived.Test.YtcngaohfemdfjaaGreatX48a
import Derived.Test.YtcngaohfemdfjaaGreatX48y
import Derived.ChangeOld
import Derived.OpenShut
set_option linter.unusedVariables false
set_option linter.unusedSimpArgs false
namespace Go.Proofs.YtcngaohfemdfjaaGreat
open Go.RowKit

theorem err_card {k : Cd} (hc : (k.okc && k.p.ok) = true) : k.err [] = 0 ∨ k.err [] = 4 := by
  have h1 : k.okc = true ∧ k.p.ok = true := by simpa using hc
  by_cases hp : k.p.pw.1 ≤ k.p.pw.2
  · left; simp [Cd.err, h1.1, h1.2, hp]
  · right; simp [Cd.err, h1.1, h1.2, hp]
theorem sees_small {k : Cd} (hok : k.p.ok = true) : setTo k.p.sees < 4096 := setTo_lt fun q hq => by
  obtain ⟨i, hi, h1⟩ := sees_key hok hq
  omega
theorem mount_true_any (k : Cd) (sa : Option Addr) (len cap : Nat) (lt : Nat) (w : World) (h : CardIn k lt w) (hby : len = 0 ∨ ∃ b o, sa = some ⟨b, o, none⟩ ∧ ByIn b o len w) :
    Calls Tryz.prog 5 #[.agg k.cs.toArray, .slice sa len cap] w fun e w' => e = .returned (.bool true) ∧ Below w.heap.size w w' := by
  obtain ⟨⟨-, -, -, -, -, -, -, hlen, -, hT, -⟩, -⟩ := h
  subst hlen
  by_cases hl : 40 < k.p.l.length
  · exact ltrue_many k _ w hl
  replace hl : k.p.l.length ≤ 40 := by omega
  replace hT := hT (by omega)
  rcases hby with rfl | ⟨b, o, rfl, hy⟩
  · exact ltrue_none k sa cap w hl
  have hy0 := hy.1
  by_cases he : k.err [] = 0
  · have hc : (k.okc && k.p.ok) = true := by
      obtain ⟨h1, h2, -⟩ := Cd.err_zero he
      rw [h1, h2]; rfl
    by_cases hn : 20 < k.cuts
    · exact ltrue_cuts k _ len cap hy0 w hl hT (Lib.hid hc) hn
    replace hn : k.cuts ≤ 20 := by omega
    have e2 : k.seenA = (((setTo k.p.sees : Nat) : Int), 0) := by unfold Cd.seenA; rw [if_pos he]
    cases ht : k.trim with
    | none =>
      have e1 : k.trimA = (⟨0, 0, 0, 0⟩, 11) := by unfold Cd.trimA; rw [if_pos he, ht]
      exact ltrue_err_few k _ len cap hy0 w hl hT hn 11 0 _ (by simp) (.inr ⟨by simp, by simp, by simp⟩) (Lib.hid e1) (Lib.hid e2)
    | some t =>
      have e1 : k.trimA = (t, 0) := by unfold Cd.trimA; rw [if_pos he, ht]
      obtain ⟨h1, h2⟩ := trim_is ht
      have hm := sees_small (Cd.err_zero he).1
      have hT' := hT
      obtain ⟨-, h3 | ⟨tb, tof, cp, hsp, hbl, hcs⟩⟩ := hT'
      · exact ltrue_nil k b o len cap w hl hT hy (Lib.hid hc) hn t (Lib.hid e1) (Lib.hid e2) (Lib.hid he) (Lib.hid h1) (Lib.hid h2) hm (by rw [h3.1]; rfl)
      · have hsp1 : k.sp = some ⟨tb, tof, none⟩ := by simp at hsp; exact hsp.1
        exact ltrue_some k b o len cap w hl hT hy (Lib.hid hc) hn t (Lib.hid e1) (Lib.hid e2) (Lib.hid he) (Lib.hid h1) (Lib.hid h2) hm tb tof hsp1 hbl (Lib.hid hcs)
  · have e1 : k.trimA = (⟨0, 0, 0, 0⟩, k.err []) := by unfold Cd.trimA; rw [if_neg he]
    have e2 : k.seenA = (0, k.err []) := by unfold Cd.seenA; rw [if_neg he]
    have hx : (k.err [] != 0) = true := by simpa using he
    by_cases hn : 20 < k.cuts
    · cases hc : (k.okc && k.p.ok) with
      | true => exact ltrue_cuts k _ len cap hy0 w hl hT (Lib.hid hc) hn
      | false => exact ltrue_err_none k _ len cap hy0 w hl hT hn (Lib.hid hc) _ _ _ hx (.inl (by simp)) (Lib.hid e1) (Lib.hid e2)
    · exact ltrue_err_few k _ len cap hy0 w hl hT (by omega) _ _ _ hx (.inl (by simp)) (Lib.hid e1) (Lib.hid e2)
end Go.Proofs.YtcngaohfemdfjaaGreat
namespace Go.Proofs.YtcngaohfemdfjaaGreat.TrueDone
open Go.ChangeShapes Go.WideShapes Go.ChangeAt Go.RowKit Go.Deep
set_option linter.unusedVariables false

/-- The row of numbers that came in: it is empty, or its cells are there. -/
theorem open_by {H : Type} {enc : TypeId × Value → H} {W : World} {sa : Option Addr} {len cap : Nat} {d : DataW H} {ps : List MemPlace}
    (h : DataW.Trod enc Tryz.prog W 0 (fun _ => true) true 45 (.slice sa len cap) d ps) : len = 0 ∨ ∃ b o, sa = some ⟨b, o, none⟩ ∧ ByIn b o len W := by
  obtain ⟨fuel, hf⟩ := h
  rcases open_ints Tryz.underlying45 Tryz.underlying103 (by kernel_rfl) hf with ⟨hcs, -⟩ | ⟨a, len', cap', zs, hcs, -, hle, hmax, hall, -, hcell, hwf⟩
  · simp [Value.cells] at hcs
    exact .inl hcs.2.1
  · simp [Value.cells] at hcs
    obtain ⟨rfl, rfl, rfl⟩ := hcs
    by_cases hl : len = 0
    · exact .inl hl
    · right
      simp only [if_true] at hall
      obtain ⟨b, o, rfl, hc⟩ := ints_at hcell (by omega)
      refine ⟨b, o, rfl, by omega, by omega, ?_, fun i hi => ⟨zs.getD i 0, hc i (by omega), ?_⟩⟩
      · have h0 := hc 0 (by omega)
        apply Nat.lt_of_not_le
        intro hn
        have : W.heap[b]? = none := by simpa using hn
        simp [World.cell?, this] at h0
      · have hz : zs.getD i 0 ∈ zs := by
          rw [List.getD_eq_getElem?_getD, List.getElem?_eq_getElem (show i < zs.length by omega)]
          exact List.getElem_mem _
        have := hwf _ hz
        simp only [Lit.wf, Bool.and_eq_true, decide_eq_true_eq] at this
        exact this
theorem own : ownKnob Tryz.prog.godebug = none := by kernel_rfl
theorem laidOut : laidOutB Tryz.prog = true := by kernel_rfl
set_option maxRecDepth 100000 in
theorem lifted (os : Os) (started : os.Started) (H : Type) (enc : TypeId × Value → H) :
    ReturnsInHanded {} Tryz.checked os 5 .any (Rows.mountTrueSpec.pre6 enc Tryz.prog Tryz.f5 Rows.mountTrueRow.domain false) (Rows.mountTrueSpec.post enc Tryz.prog Tryz.f5 false true false false) := by
  refine returnsInHanded_of_change (C := Tryz.checked) own started (by kernel_rfl) Tryz.func5
    (ChangeSpec.witness6 (enc := enc) (C := Tryz.checked) false ⟨#[], #[.agg #[.int .i64 0, .int .i64 0, .int .i64 0, .int .i64 0, .int .i64 0, .int .i64 0, .int .i64 0, .slice none 0 0, .int .i64 0, .int .i64 0, .int .i64 0, .int .i64 0, .int .i64 0, .int .i64 0, .int .i64 0, .int .i64 0, .int .i64 0], .slice none 0 0], []⟩ 8 (by kernel_rfl) (by kernel_rfl) (by kernel_rfl) (by kernel_rfl)) ?_
  intro W base args ds gs before hval0 hW hcnd _
  have hval : ∀ (j : Nat) t v, Tryz.f5.params[j]? = some t → args[j]? = some v → Value.okWide Tryz.prog W .any base t v := hval0
  have hW' := hW
  obtain ⟨p, q, hA0, hV, rfl, hfz, hnd⟩ := hW
  have hA : DataW.TrodAll enc Tryz.prog W 0 (fun _ => true) true Tryz.f5.params.toList args.toList ds p := hA0
  rw [Tryz.params5] at hA hval
  obtain ⟨v0, vs0, d0, ds0, p0, q0, hargs, rfl, rfl, h0, r0⟩ := trodAll_cons hA
  obtain ⟨v1, vs1, d1, ds1, p1, q1, rfl, rfl, rfl, h1, r1⟩ := trodAll_cons r0
  obtain ⟨rfl, rfl, rfl⟩ := trodAll_nil r1
  obtain rfl : args = #[v0, v1] := by cases args; simp_all
  obtain ⟨rfl, rfl⟩ := trodVars_none hV
  have k0 := h0
  have lt0 : ∀ x ∈ p0, x.block < W.heap.size := by obtain ⟨m, hm⟩ := k0; exact DataW.trod_lt m _ _ _ hm
  have k1 := h1
  have lt1 : ∀ x ∈ p1, x.block < W.heap.size := by obtain ⟨m, hm⟩ := k1; exact DataW.trod_lt m _ _ _ hm
  obtain ⟨k, len, rfl, hin⟩ := open_card (hval 0 28 v0 rfl rfl) h0
  obtain ⟨sa, len', cap, rfl⟩ := Go.WideShapes.okWide_slice Tryz.underlying45 (hval 1 45 v1 rfl rfl)
  have hby := open_by h1
  clear hA0 hval0
  refine (mount_true_any k sa len' cap len W hin hby).mono fun e W' ⟨he, bel⟩ => ?_
  subst he
  exact ⟨_, rfl, _, _, _, [], _, [], hW', trodAll_mk1 (shut_bool Tryz.underlying4 _), (trodAll_cons_mk (Below.trod laidOut (by kernel_rfl) (of_decide_eq_true (by kernel_rfl)) k0 bel lt0) (trodAll_cons_mk (Below.trod laidOut (by kernel_rfl) (of_decide_eq_true (by kernel_rfl)) k1 bel lt1) trodAll_mk0)), rfl, bel.frame _, fun h => by cases h⟩

theorem over : Rows.mountTrueRow.holds Tryz.pinned (OpenSpec.ofChange Rows.mountTrueSpec) :=
  OpenClaim.holds_of_wide 5 Tryz.f5 rfl rfl rfl rfl rfl rfl rfl ⟨rfl, rfl, rfl, rfl, rfl⟩ rfl rfl rfl rfl rfl (by kernel_rfl) Tryz.func5 (by kernel_rfl)
    (of_decide_eq_true (by kernel_rfl)) (by unfold Func.isWrapper; first | (rw [if_pos (by decide +kernel)]; kernel_rfl) | (rw [if_neg (by decide +kernel)]; exact ⟨rfl, rfl⟩))
    (fun os started H enc _ => lifted os started H enc)

theorem proved : Rows.MountTrueSaid := over
#print axioms proved
end Go.Proofs.YtcngaohfemdfjaaGreat.TrueDone
