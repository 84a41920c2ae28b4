/-
  MatchTrue returns true for every row of numbers, and leaves its argument as it was.
  No condition.
-/
import Derived.Test.YtjlaoiimbhlafaaA12
import Derived.Test.YtjlaoiimbhlafaaPH
import Derived.Test.YtjlaoiimbhlafaaRows
import Derived.ChangeOld
import Derived.ProofKit
import Derived.OpenShut
set_option linter.unusedVariables false
set_option linter.unusedSimpArgs false
namespace Go.Proofs.Ytjlaoiimbhlafaa.TrueDone
open Go.ChangeShapes Go.WideShapes Go.ChangeAt Go.RowKit

/-- The row of numbers that came in: it is empty, or its cells are there. -/
theorem open_by {H : Type} {enc : TypeId × Value → H} {W : World} {sa : Option Addr} {len cap : Nat} {d : DataW H} {ps : List MemPlace}
    (h : DataW.Trod enc Try.prog W 0 (fun _ => true) true 50 (.slice sa len cap) d ps) : len = 0 ∨ ∃ b o, sa = some ⟨b, o, none⟩ ∧ ByIn b o len W := by
  obtain ⟨fuel, hf⟩ := h
  rcases open_ints Try.underlying50 Try.underlying115 (by kernel_rfl) hf with ⟨hcs, -⟩ | ⟨a, len', cap', zs, hcs, -, hle, hmax, hall, -, hcell, hwf⟩
  · simp [Value.cells] at hcs
    exact .inl hcs.2.1
  · simp [Value.cells] at hcs
    obtain ⟨rfl, rfl, rfl⟩ := hcs
    by_cases hl : len = 0
    · exact .inl hl
    · right
      simp only [if_true] at hall
      obtain ⟨b, o, rfl, hc⟩ := ints_at hcell (by omega)
      refine ⟨b, o, rfl, by omega, by omega, ?_, fun i hi => ⟨zs.getD i 0, hc i (by omega), ?_⟩⟩
      · have h0 := hc 0 (by omega)
        apply Nat.lt_of_not_le
        intro hn
        have : W.heap[b]? = none := by simpa using hn
        simp [World.cell?, this] at h0
      · have hz : zs.getD i 0 ∈ zs := by
          rw [List.getD_eq_getElem?_getD, List.getElem?_eq_getElem (show i < zs.length by omega)]
          exact List.getElem_mem _
        have := hwf _ hz
        simp only [Lit.wf, Bool.and_eq_true, decide_eq_true_eq] at this
        exact this
theorem ltrue_any (sa : Option Addr) (len cap : Nat) (w : World) (h : len = 0 ∨ ∃ b o, sa = some ⟨b, o, none⟩ ∧ ByIn b o len w) :
    Calls Try.prog 7 #[.slice sa len cap] w fun e w' => e = .returned (.bool true) ∧ Below w.heap.size w w' := by
  rcases h with rfl | ⟨b, o, rfl, hy⟩
  · exact ltrue_nil sa cap w
  · exact ltrue_some hy
theorem own : ownKnob Try.prog.godebug = none := by kernel_rfl
theorem laidOut : laidOutB Try.prog = true := by kernel_rfl
set_option maxRecDepth 100000 in
theorem lifted (os : Os) (started : os.Started) (H : Type) (enc : TypeId × Value → H) :
    ReturnsInHanded {} Try.checked os 7 .any (Rows.matchTrueSpec.pre6 enc Try.prog Try.f7 Rows.matchTrueRow.domain false) (Rows.matchTrueSpec.post enc Try.prog Try.f7 false true false false) := by
  refine returnsInHanded_of_change (C := Try.checked) own started (by kernel_rfl) Try.func7
    (ChangeSpec.witness6 (enc := enc) (C := Try.checked) false ⟨#[], #[.slice none 0 0], []⟩ 8 (by kernel_rfl) (by kernel_rfl) (by kernel_rfl) (by kernel_rfl)) ?_
  intro W base args ds gs before hval0 hW hcnd _
  have hval : ∀ (j : Nat) t v, Try.f7.params[j]? = some t → args[j]? = some v → Value.okWide Try.prog W .any base t v := hval0
  have hW' := hW
  obtain ⟨p, q, hA0, hV, rfl, hfz, hnd⟩ := hW
  have hA : DataW.TrodAll enc Try.prog W 0 (fun _ => true) true Try.f7.params.toList args.toList ds p := hA0
  rw [Try.params7] at hA hval
  obtain ⟨v0, vs0, d0, ds0, p0, q0, hargs, rfl, rfl, h0, r0⟩ := trodAll_cons hA
  obtain ⟨rfl, rfl, rfl⟩ := trodAll_nil r0
  obtain rfl : args = #[v0] := by cases args; simp_all
  obtain ⟨rfl, rfl⟩ := trodVars_none hV
  have k0 := h0
  have lt0 : ∀ x ∈ p0, x.block < W.heap.size := by obtain ⟨m, hm⟩ := k0; exact DataW.trod_lt m _ _ _ hm
  obtain ⟨sa, len, cap, rfl⟩ := Go.WideShapes.okWide_slice Try.underlying50 (hval 0 50 v0 rfl rfl)
  have hby := open_by h0
  clear hA0 hval0
  refine (ltrue_any sa len cap W hby).mono fun e W' ⟨he, bel⟩ => ?_
  subst he
  exact ⟨_, rfl, _, _, _, [], _, [], hW', trodAll_mk1 (shut_bool Try.underlying4 _), (trodAll_cons_mk (Below.trod laidOut (by kernel_rfl) (of_decide_eq_true (by kernel_rfl)) k0 bel lt0) trodAll_mk0), rfl, bel.frame _, fun h => by cases h⟩

theorem over : Rows.matchTrueRow.holds Try.pinned (OpenSpec.ofChange Rows.matchTrueSpec) :=
  OpenClaim.holds_of_wide 7 Try.f7 rfl rfl rfl rfl rfl rfl rfl ⟨rfl, rfl, rfl, rfl, rfl⟩ rfl rfl rfl rfl rfl (by kernel_rfl) Try.func7 (by kernel_rfl)
    (of_decide_eq_true (by kernel_rfl)) (by unfold Func.isWrapper; first | (rw [if_pos (by decide +kernel)]; kernel_rfl) | (rw [if_neg (by decide +kernel)]; exact ⟨rfl, rfl⟩))
    (fun os started H enc _ => lifted os started H enc)

theorem proved : Rows.MatchTrueSaid := over
#print axioms proved
end Go.Proofs.Ytjlaoiimbhlafaa.TrueDone
