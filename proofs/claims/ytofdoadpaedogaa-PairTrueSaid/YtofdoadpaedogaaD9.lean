/-
  PairTrue returns true for every number and every row of numbers, and leaves its arguments as they were.
  No condition.
-/
import Derived.Test.YtofdoadpaedogaaD7
import Derived.Test.YtofdoadpaedogaaO1
import Derived.ChangeOld
import Derived.OpenShut
namespace Go.Proofs.Ytofdoadpaedogaa.TrueDone
open Go.ChangeShapes Go.WideShapes Go.ChangeAt Go.RowKit
set_option linter.unusedVariables false

/-- The row of numbers that came in: it is empty, or its cells are there. -/
theorem open_by {H : Type} {enc : TypeId × Value → H} {W : World} {sa : Option Addr} {len cap : Nat} {d : DataW H} {ps : List MemPlace}
    (h : DataW.Trod enc Try.prog W 0 (fun _ => true) true 39 (.slice sa len cap) d ps) : len = 0 ∨ ∃ b o, sa = some ⟨b, o, none⟩ ∧ ByIn b o len W := by
  obtain ⟨fuel, hf⟩ := h
  rcases open_ints Try.underlying39 Try.underlying55 (by kernel_rfl) hf with ⟨hcs, -⟩ | ⟨a, len', cap', zs, hcs, -, hle, hmax, hall, -, hcell, hwf⟩
  · simp [Value.cells] at hcs
    exact .inl hcs.2.1
  · simp [Value.cells] at hcs
    obtain ⟨rfl, rfl, rfl⟩ := hcs
    by_cases hl : len = 0
    · exact .inl hl
    · right
      simp only [if_true] at hall
      obtain ⟨b, o, rfl, hc⟩ := ints_at hcell (by omega)
      refine ⟨b, o, rfl, by omega, by omega, ?_, fun i hi => ⟨zs.getD i 0, hc i (by omega), ?_⟩⟩
      · have h0 := hc 0 (by omega)
        apply Nat.lt_of_not_le
        intro hn
        have : W.heap[b]? = none := by simpa using hn
        simp [World.cell?, this] at h0
      · have hz : zs.getD i 0 ∈ zs := by
          rw [List.getD_eq_getElem?_getD, List.getElem?_eq_getElem (show i < zs.length by omega)]
          exact List.getElem_mem _
        have := hwf _ hz
        simp only [Lit.wf, Bool.and_eq_true, decide_eq_true_eq] at this
        exact this
theorem true_walk (th : Int) (sa : Option Addr) (len cap : Nat) (w : World) (hw : (Lit.int .u8 th).wf = true) (h : len = 0 ∨ ∃ b o, sa = some ⟨b, o, none⟩ ∧ ByIn b o len w) :
    Calls Try.prog 5 #[.int .u8 th, .slice sa len cap] w fun e w' => e = .returned (.bool true) ∧ Below w.heap.size w w' := by
  have hth : 0 ≤ th ∧ th ≤ 255 := by
    simp only [Lit.wf, Bool.and_eq_true, decide_eq_true_eq] at hw
    exact hw
  rcases h with rfl | ⟨b, o, rfl, hby⟩
  · exact ltrue_none th sa cap w
  · exact ltrue_ok b o len cap th w hby hth
theorem own : ownKnob Try.prog.godebug = none := by kernel_rfl
theorem laidOut : laidOutB Try.prog = true := by kernel_rfl
set_option maxRecDepth 100000 in
theorem lifted (os : Os) (started : os.Started) (H : Type) (enc : TypeId × Value → H) :
    ReturnsInHanded {} Try.checked os 5 .any (Rows.pairTrueSpec.pre6 enc Try.prog Try.f5 Rows.pairTrueRow.domain false) (Rows.pairTrueSpec.post enc Try.prog Try.f5 false true false false) := by
  refine returnsInHanded_of_change (C := Try.checked) own started (by kernel_rfl) Try.func5
    (ChangeSpec.witness6 (enc := enc) (C := Try.checked) false ⟨#[], #[.int .u8 0, .slice none 0 0], []⟩ 8 (by kernel_rfl) (by kernel_rfl) (by kernel_rfl) (by kernel_rfl)) ?_
  intro W base args ds gs before hval0 hW hcnd _
  have hval : ∀ (j : Nat) t v, Try.f5.params[j]? = some t → args[j]? = some v → Value.okWide Try.prog W .any base t v := hval0
  have hW' := hW
  obtain ⟨p, q, hA0, hV, rfl, hfz, hnd⟩ := hW
  have hA : DataW.TrodAll enc Try.prog W 0 (fun _ => true) true Try.f5.params.toList args.toList ds p := hA0
  rw [Try.params5] at hA hval
  obtain ⟨v0, vs0, d0, ds0, p0, q0, hargs, rfl, rfl, h0, r0⟩ := trodAll_cons hA
  obtain ⟨v1, vs1, d1, ds1, p1, q1, rfl, rfl, rfl, h1, r1⟩ := trodAll_cons r0
  obtain ⟨rfl, rfl, rfl⟩ := trodAll_nil r1
  obtain rfl : args = #[v0, v1] := by cases args; simp_all
  obtain ⟨rfl, rfl⟩ := trodVars_none hV
  obtain ⟨a0, rfl, rfl, rfl, w0⟩ := open_int Try.underlying5 (hval 0 5 v0 rfl rfl) h0
  have k1 := h1
  have lt1 : ∀ x ∈ p1, x.block < W.heap.size := by obtain ⟨m, hm⟩ := k1; exact DataW.trod_lt m _ _ _ hm
  obtain ⟨sa, len, cap, rfl⟩ := Go.WideShapes.okWide_slice Try.underlying39 (hval 1 39 v1 rfl rfl)
  have hin := open_by h1
  clear hA0 hval0
  refine (true_walk a0 sa len cap W w0 hin).mono fun e W' ⟨he, bel⟩ => ?_
  subst he
  exact ⟨_, rfl, _, _, _, [], _, [], hW', trodAll_mk1 (shut_bool Try.underlying4 _), (trodAll_cons_mk (shut_int Try.underlying5 w0) (trodAll_cons_mk (Below.trod laidOut (by kernel_rfl) (of_decide_eq_true (by kernel_rfl)) k1 bel lt1) trodAll_mk0)), rfl, bel.frame _, fun h => by cases h⟩

theorem over : Rows.pairTrueRow.holds Try.pinned (OpenSpec.ofChange Rows.pairTrueSpec) :=
  OpenClaim.holds_of_wide 5 Try.f5 rfl rfl rfl rfl rfl rfl rfl ⟨rfl, rfl, rfl, rfl, rfl⟩ rfl rfl rfl rfl rfl (by kernel_rfl) Try.func5 (by kernel_rfl)
    (of_decide_eq_true (by kernel_rfl)) (by unfold Func.isWrapper; first | (rw [if_pos (by decide +kernel)]; kernel_rfl) | (rw [if_neg (by decide +kernel)]; exact ⟨rfl, rfl⟩))
    (fun os started H enc _ => lifted os started H enc)

theorem proved : Rows.PairTrueSaid := over
#print axioms proved
end Go.Proofs.Ytofdoadpaedogaa.TrueDone
