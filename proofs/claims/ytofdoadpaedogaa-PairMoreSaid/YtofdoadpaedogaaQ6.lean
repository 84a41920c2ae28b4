/-
  PairMore returns true for every pair and all numbers, and leaves its arguments as they were.
  No condition.
-/
import Derived.Test.YtofdoadpaedogaaP2
import Derived.Test.YtofdoadpaedogaaP3
import Derived.ChangeOld
namespace Go.Proofs.Ytofdoadpaedogaa.MoreDone
open Go.ChangeShapes Go.WideShapes Go.ChangeAt Go.RowKit
set_option linter.unusedVariables false

theorem more_walk (p : Pr) (sp : Option Addr) (len cap : Nat) (n far k : Int) (w : World) (h : PairIn p sp len cap w) (_hn : (Lit.int .i64 n).wf = true) (_hf : (Lit.int .i64 far).wf = true) (hw : (Lit.int .u8 k).wf = true) :
    Calls Try.prog 10 #[p.val (.slice sp len cap), .int .i64 n, .int .i64 far, .int .u8 k] w fun e w' => e = .returned (.bool true) ∧ Below w.heap.size w w' := by
  obtain ⟨-, -, -, -, -, -, -, hlen, -, hT, -⟩ := h
  have hk : 0 ≤ k ∧ k ≤ 255 := by
    simp only [Lit.wf, Bool.and_eq_true, decide_eq_true_eq] at hw
    exact hw
  by_cases hl : 40 < len
  · exact lmore_many p sp len cap n far k w hl
  have hl' : len ≤ 40 := by omega
  by_cases hok : p.ok = true
  · by_cases hnn : n < 0 ∨ (len : Int) ≤ n
    · exact lmore_no p sp len cap n far k w hl' (hT (by omega)) (Lib.hid hok) hnn
    · obtain ⟨m, rfl⟩ : ∃ m : Nat, n = m := ⟨n.toNat, by omega⟩
      have hm : m < len := by omega
      have h12 : len ≤ 12 := by rw [← hlen]; exact (p.bounds hok).len
      rcases (show k % 5 = 0 ∨ k % 5 = 1 ∨ k % 5 = 2 ∨ k % 5 = 3 ∨ k % 5 = 4 by omega) with h5 | h5 | h5 | h5 | h5
      · exact lmore_ok0 p sp len cap m far k w hl' (hT (by omega)) h5 hlen h12 (Lib.hid hok) hm hk
      · exact lmore_ok1 p sp len cap m far k w hl' (hT (by omega)) h5 hlen h12 (Lib.hid hok) hm hk
      · exact lmore_ok2 p sp len cap m far k w hl' (hT (by omega)) h5 hlen h12 (Lib.hid hok) hm hk
      · by_cases h6 : 0 < p.ti - k / 5
        · exact lmore_ok3p p sp len cap m far k w hl' (hT (by omega)) h5 h6 hlen h12 (Lib.hid hok) hm hk
        · exact lmore_ok3n p sp len cap m far k w hl' (hT (by omega)) h5 h6 hlen h12 (Lib.hid hok) hm hk
      · by_cases hz : ∀ t, p.l[(k % (len : Int)).toNat]? = some t → t.z = 0
        · by_cases hf : p.ne ≤ far ∧ far ≤ p.fa
          · exact lmore_ok4a p sp len cap m far k w hl' (hT (by omega)) h5 (Lib.hid hz) (Lib.hid hf) hlen h12 (Lib.hid hok) hm hk
          · exact lmore_ok4n p sp len cap m far k w hl' (hT (by omega)) h5 (Lib.hid fun t _ => .inr (by omega)) hlen h12 (Lib.hid hok) hm hk
        · refine lmore_ok4n p sp len cap m far k w hl' (hT (by omega)) h5 (Lib.hid fun t ht => .inl fun c => hz fun u hu => ?_) hlen h12 (Lib.hid hok) hm hk
          rw [ht] at hu; cases hu; exact c
  · have hb : p.ok = false := by simpa using hok
    exact lmore_bad p sp len cap n far k w hl' (hT (by omega)) (Lib.hid hb)
theorem own : ownKnob Try.prog.godebug = none := by kernel_rfl
theorem laidOut : laidOutB Try.prog = true := by kernel_rfl
set_option maxRecDepth 100000 in
theorem lifted (os : Os) (started : os.Started) (H : Type) (enc : TypeId × Value → H) :
    ReturnsInHanded {} Try.checked os 10 .any (Rows.pairMoreSpec.pre6 enc Try.prog Try.f10 Rows.pairMoreRow.domain false) (Rows.pairMoreSpec.post enc Try.prog Try.f10 false true false false) := by
  refine returnsInHanded_of_change (C := Try.checked) own started (by kernel_rfl) Try.func10
    (ChangeSpec.witness6 (enc := enc) (C := Try.checked) false ⟨#[], #[.agg #[.int .i64 0, .int .i64 0, .int .i64 0, .int .i64 0, .int .i64 0, .int .i64 0, .int .i64 0, .slice none 0 0], .int .i64 0, .int .i64 0, .int .u8 0], []⟩ 8 (by kernel_rfl) (by kernel_rfl) (by kernel_rfl) (by kernel_rfl)) ?_
  intro W base args ds gs before hval0 hW hcnd _
  have hval : ∀ (j : Nat) t v, Try.f10.params[j]? = some t → args[j]? = some v → Value.okWide Try.prog W .any base t v := hval0
  have hW' := hW
  obtain ⟨p, q, hA0, hV, rfl, hfz, hnd⟩ := hW
  have hA : DataW.TrodAll enc Try.prog W 0 (fun _ => true) true Try.f10.params.toList args.toList ds p := hA0
  rw [Try.params10] at hA hval
  obtain ⟨v0, vs0, d0, ds0, p0, q0, hargs, rfl, rfl, h0, r0⟩ := trodAll_cons hA
  obtain ⟨v1, vs1, d1, ds1, p1, q1, rfl, rfl, rfl, h1, r1⟩ := trodAll_cons r0
  obtain ⟨v2, vs2, d2, ds2, p2, q2, rfl, rfl, rfl, h2, r2⟩ := trodAll_cons r1
  obtain ⟨v3, vs3, d3, ds3, p3, q3, rfl, rfl, rfl, h3, r3⟩ := trodAll_cons r2
  obtain ⟨rfl, rfl, rfl⟩ := trodAll_nil r3
  obtain rfl : args = #[v0, v1, v2, v3] := by cases args; simp_all
  obtain ⟨rfl, rfl⟩ := trodVars_none hV
  have k0 := h0
  have lt0 : ∀ x ∈ p0, x.block < W.heap.size := by obtain ⟨m, hm⟩ := k0; exact DataW.trod_lt m _ _ _ hm
  obtain ⟨pr, sp, len, cap, rfl, hin⟩ := open_pair (hval 0 26 v0 rfl rfl) h0
  obtain ⟨a1, rfl, rfl, rfl, w1⟩ := open_int Try.underlying3 (hval 1 3 v1 rfl rfl) h1
  obtain ⟨a2, rfl, rfl, rfl, w2⟩ := open_int Try.underlying3 (hval 2 3 v2 rfl rfl) h2
  obtain ⟨a3, rfl, rfl, rfl, w3⟩ := open_int Try.underlying5 (hval 3 5 v3 rfl rfl) h3
  clear hA0 hval0
  refine (more_walk pr sp len cap a1 a2 a3 W hin w1 w2 w3).mono fun e W' ⟨he, bel⟩ => ?_
  subst he
  exact ⟨_, rfl, _, _, _, [], _, [], hW', trodAll_mk1 (shut_bool Try.underlying4 _), (trodAll_cons_mk (Below.trod laidOut (by kernel_rfl) (of_decide_eq_true (by kernel_rfl)) k0 bel lt0) (trodAll_cons_mk (shut_int Try.underlying3 w1) (trodAll_cons_mk (shut_int Try.underlying3 w2) (trodAll_cons_mk (shut_int Try.underlying5 w3) trodAll_mk0)))), rfl, bel.frame _, fun h => by cases h⟩

theorem over : Rows.pairMoreRow.holds Try.pinned (OpenSpec.ofChange Rows.pairMoreSpec) :=
  OpenClaim.holds_of_wide 10 Try.f10 rfl rfl rfl rfl rfl rfl rfl ⟨rfl, rfl, rfl, rfl, rfl⟩ rfl rfl rfl rfl rfl (by kernel_rfl) Try.func10 (by kernel_rfl)
    (of_decide_eq_true (by kernel_rfl)) (by unfold Func.isWrapper; first | (rw [if_pos (by decide +kernel)]; kernel_rfl) | (rw [if_neg (by decide +kernel)]; exact ⟨rfl, rfl⟩))
    (fun os started H enc _ => lifted os started H enc)

theorem proved : Rows.PairMoreSaid := over
#print axioms proved
end Go.Proofs.Ytofdoadpaedogaa.MoreDone
