/-
  PairFewest returns true for every pair and every set, and leaves its arguments as they were.
  No condition.
-/
import Derived.Test.YtofdoadpaedogaaN4
import Derived.ChangeOld
namespace Go.Proofs.Ytofdoadpaedogaa.FewestDone
open Go.ChangeShapes Go.WideShapes Go.ChangeAt Go.RowKit
set_option linter.unusedVariables false

theorem few_walk (p : Pr) (sp : Option Addr) (len cap : Nat) (o : Int) (w : World) (h : PairIn p sp len cap w) (hw : (Lit.int .u16 o).wf = true) :
    Calls Try.prog 8 #[p.val (.slice sp len cap), .int .u16 o] w fun e w' => e = .returned (.bool true) ∧ Below w.heap.size w w' := by
  obtain ⟨-, -, -, -, -, -, -, hlen, -, hT, -⟩ := h
  have ho' : 0 ≤ o ∧ o ≤ 65535 := by
    simp only [Lit.wf, Bool.and_eq_true, decide_eq_true_eq] at hw
    exact hw
  have ho : 0 ≤ o ∧ o < 65536 := ⟨ho'.1, by omega⟩
  by_cases hl : 40 < len
  · exact lfew_many p sp len cap o w hl
  by_cases hok : p.ok = true
  · by_cases hp : p.pw.1 ≤ p.pw.2
    · obtain ⟨b, u, v, hb, hf, hwy, h5, hm⟩ := p.fewest_laws hok hp
      exact lfew_ok p sp len cap o w (by omega) (hT (by omega)) hlen (by have := (p.bounds hok).len; omega) ho b u v p.pw.1 p.pw.2 (by rw [← hlen]; exact hb) (Lib.hid hf) (Lib.hid (by unfold Pr.power; rw [if_pos hok, if_pos hp])) (Lib.hid hok) (Lib.hid hwy) (Lib.hid h5) (Lib.hid hm)
    · exact lfew_bad p sp len cap o w (by omega) (hT (by omega)) 4 true (Lib.hid (by unfold Pr.fewest; rw [if_pos hok, if_neg hp])) (Lib.hid (by unfold Pr.power; rw [if_pos hok, if_neg hp])) (Lib.hid hok) rfl rfl
  · have hb : p.ok = false := by simpa using hok
    exact lfew_bad p sp len cap o w (by omega) (hT (by omega)) 1 false (Lib.hid (by unfold Pr.fewest; rw [if_neg hok])) (Lib.hid (by unfold Pr.power; rw [if_neg hok])) (Lib.hid hb) rfl rfl
theorem own : ownKnob Try.prog.godebug = none := by kernel_rfl
theorem laidOut : laidOutB Try.prog = true := by kernel_rfl
set_option maxRecDepth 100000 in
theorem lifted (os : Os) (started : os.Started) (H : Type) (enc : TypeId × Value → H) :
    ReturnsInHanded {} Try.checked os 8 .any (Rows.pairFewestSpec.pre6 enc Try.prog Try.f8 Rows.pairFewestRow.domain false) (Rows.pairFewestSpec.post enc Try.prog Try.f8 false true false false) := by
  refine returnsInHanded_of_change (C := Try.checked) own started (by kernel_rfl) Try.func8
    (ChangeSpec.witness6 (enc := enc) (C := Try.checked) false ⟨#[], #[.agg #[.int .i64 0, .int .i64 0, .int .i64 0, .int .i64 0, .int .i64 0, .int .i64 0, .int .i64 0, .slice none 0 0], .int .u16 0], []⟩ 8 (by kernel_rfl) (by kernel_rfl) (by kernel_rfl) (by kernel_rfl)) ?_
  intro W base args ds gs before hval0 hW hcnd _
  have hval : ∀ (j : Nat) t v, Try.f8.params[j]? = some t → args[j]? = some v → Value.okWide Try.prog W .any base t v := hval0
  have hW' := hW
  obtain ⟨p, q, hA0, hV, rfl, hfz, hnd⟩ := hW
  have hA : DataW.TrodAll enc Try.prog W 0 (fun _ => true) true Try.f8.params.toList args.toList ds p := hA0
  rw [Try.params8] at hA hval
  obtain ⟨v0, vs0, d0, ds0, p0, q0, hargs, rfl, rfl, h0, r0⟩ := trodAll_cons hA
  obtain ⟨v1, vs1, d1, ds1, p1, q1, rfl, rfl, rfl, h1, r1⟩ := trodAll_cons r0
  obtain ⟨rfl, rfl, rfl⟩ := trodAll_nil r1
  obtain rfl : args = #[v0, v1] := by cases args; simp_all
  obtain ⟨rfl, rfl⟩ := trodVars_none hV
  have k0 := h0
  have lt0 : ∀ x ∈ p0, x.block < W.heap.size := by obtain ⟨m, hm⟩ := k0; exact DataW.trod_lt m _ _ _ hm
  obtain ⟨pr, sp, len, cap, rfl, hin⟩ := open_pair (hval 0 26 v0 rfl rfl) h0
  obtain ⟨a1, rfl, rfl, rfl, w1⟩ := open_int Try.underlying55 (hval 1 55 v1 rfl rfl) h1
  clear hA0 hval0
  refine (few_walk pr sp len cap a1 W hin w1).mono fun e W' ⟨he, bel⟩ => ?_
  subst he
  exact ⟨_, rfl, _, _, _, [], _, [], hW', trodAll_mk1 (shut_bool Try.underlying4 _), (trodAll_cons_mk (Below.trod laidOut (by kernel_rfl) (of_decide_eq_true (by kernel_rfl)) k0 bel lt0) (trodAll_cons_mk (shut_int Try.underlying55 w1) trodAll_mk0)), rfl, bel.frame _, fun h => by cases h⟩

theorem over : Rows.pairFewestRow.holds Try.pinned (OpenSpec.ofChange Rows.pairFewestSpec) :=
  OpenClaim.holds_of_wide 8 Try.f8 rfl rfl rfl rfl rfl rfl rfl ⟨rfl, rfl, rfl, rfl, rfl⟩ rfl rfl rfl rfl rfl (by kernel_rfl) Try.func8 (by kernel_rfl)
    (of_decide_eq_true (by kernel_rfl)) (by unfold Func.isWrapper; first | (rw [if_pos (by decide +kernel)]; kernel_rfl) | (rw [if_neg (by decide +kernel)]; exact ⟨rfl, rfl⟩))
    (fun os started H enc _ => lifted os started H enc)

theorem proved : Rows.PairFewestSaid := over
#print axioms proved
end Go.Proofs.Ytofdoadpaedogaa.FewestDone
