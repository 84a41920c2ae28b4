/-
  PairNearer returns true for every pair and every three numbers, and leaves its arguments as they were.
  No condition.
-/
import Derived.Test.YtofdoadpaedogaaL1
import Derived.ChangeOld
namespace Go.Proofs.Ytofdoadpaedogaa
open Go.RowKit

theorem Pr.distance_is {p : Pr} (h : p.ok = true) {k : Int} {s : Sg} (hk : p.at k = some s) :
    (p.pw.1 ≤ p.pw.2 ∧ s.why p.pw.1 p.pw.2 = 0 ∧ p.distance k = ((s.dists p.pw.1 p.pw.2).1, (s.dists p.pw.1 p.pw.2).2, 0)) ∨ p.distance k = (0, 0, 11) ∨ p.distance k = (0, 0, 4) := by
  unfold Pr.distance
  rw [if_pos h, hk]
  simp only
  by_cases hp : p.pw.1 ≤ p.pw.2
  · rw [if_pos hp]
    by_cases hw : s.why p.pw.1 p.pw.2 = 0
    · rw [if_pos hw]; exact .inl ⟨hp, hw, rfl⟩
    · rw [if_neg hw]; exact .inr (.inl rfl)
  · rw [if_neg hp]; exact .inr (.inr rfl)
theorem Pr.nearer_none {p : Pr} (h : p.ok = true) {a b : Int} (hk : p.at a = none ∨ p.at b = none) : p.nearer a b = (0, 2) := by
  unfold Pr.nearer
  rw [if_pos h]
  rcases hk with hk | hk
  · rw [hk]
  · rw [hk]; cases p.at a <;> rfl
theorem Pr.nearer_some {p : Pr} (h : p.ok = true) {a b : Int} {s t : Sg} (ha : p.at a = some s) (hb : p.at b = some t) : p.nearer a b = (nearOf s t, 0) := by
  unfold Pr.nearer
  rw [if_pos h, ha, hb]
theorem Pr.nearer_bad {p : Pr} (h : p.ok = false) (a b : Int) : p.nearer a b = (0, 1) := by
  unfold Pr.nearer
  rw [if_neg (by simp [h])]
theorem nearOf_two {s t : Sg} : nearOf s t = 2 ↔ t.hi < s.lo := by
  unfold nearOf
  split
  · simp; omega
  · split <;> simp <;> omega
theorem near_any (p : Pr) (sp : Option Addr) (len cap : Nat) (a b c : Int) (w : World) (h : PairIn p sp len cap w) :
    Calls Try.prog 9 #[.agg #[.int .i64 p.fl, .int .i64 p.fh, .int .i64 p.bl, .int .i64 p.bh, .int .i64 p.ti, .int .i64 p.ne, .int .i64 p.fa, .slice sp len cap], .int .i64 a, .int .i64 b, .int .i64 c] w fun e w' => e = .returned (.bool true) ∧ Below w.heap.size w w' := by
  obtain ⟨-, -, -, -, -, -, -, -, -, hT, -⟩ := h
  by_cases hl : 40 < len
  · exact near_many p sp len cap a b c w hl
  replace hl : len ≤ 40 := by omega
  replace hT := hT (by omega)
  cases hok : p.ok with
  | false => exact near_err p sp len cap a b c w hl hT 1 false (Lib.hid (Pr.nearer_bad hok a b)) (Lib.hid (Pr.nearer_bad hok b a)) (Lib.hid hok) (.inl ⟨rfl, rfl⟩)
  | true =>
    cases ha : p.at a with
    | none => exact near_err p sp len cap a b c w hl hT 2 true (Lib.hid (Pr.nearer_none hok (.inl ha))) (Lib.hid (Pr.nearer_none hok (.inr ha))) (Lib.hid hok) (.inr ⟨rfl, rfl⟩)
    | some s =>
      cases hb : p.at b with
      | none => exact near_err p sp len cap a b c w hl hT 2 true (Lib.hid (Pr.nearer_none hok (.inr hb))) (Lib.hid (Pr.nearer_none hok (.inl hb))) (Lib.hid hok) (.inr ⟨rfl, rfl⟩)
      | some t =>
        obtain ⟨ts, hts, es⟩ := Pr.at_th ha
        obtain ⟨tt, htt, et⟩ := Pr.at_th hb
        have ls : s.lo ≤ s.hi := by rw [es]; exact Th.lohi hok hts
        have lt : t.lo ≤ t.hi := by rw [et]; exact Th.lohi hok htt
        obtain ⟨o, q, g, h3, h4, hgo⟩ : ∃ o q g, p.nearer b c = (o, g) ∧ p.nearer a c = (q, g) ∧ ((g == 0) = false ∨ ((g == 0) = true ∧ (t.hi < s.lo → ((o == 2) = false ∨ ((o == 2) = true ∧ (q != 2) = false))))) := by
          cases hc : p.at c with
          | none => exact ⟨0, 0, 2, Pr.nearer_none hok (.inr hc), Pr.nearer_none hok (.inr hc), .inl rfl⟩
          | some u =>
            refine ⟨_, _, 0, Pr.nearer_some hok hb hc, Pr.nearer_some hok ha hc, .inr ⟨rfl, fun hn => ?_⟩⟩
            by_cases ho : nearOf t u = 2
            · have h5 := nearOf_two.1 ho
              have h6 : nearOf s u = 2 := nearOf_two.2 (by omega)
              exact .inr ⟨by rw [ho]; rfl, by rw [h6]; rfl⟩
            · exact .inl (by simpa using ho)
        obtain ⟨xl, xh, i, h5⟩ : ∃ xl xh i, p.distance a = (xl, xh, i) := ⟨_, _, _, rfl⟩
        obtain ⟨yl, yh, j, h6⟩ : ∃ yl yh j, p.distance b = (yl, yh, j) := ⟨_, _, _, rfl⟩
        have h1 := Pr.nearer_some hok ha hb
        have h2 := Pr.nearer_some hok hb ha
        by_cases hn : t.hi < s.lo
        · have e2 : nearOf s t = 2 := nearOf_two.2 hn
          have e0 : nearOf t s = 0 := by unfold nearOf; rw [if_neg (by omega), if_pos (by omega)]
          rw [e2] at h1
          rw [e0] at h2
          have hab : (a == b) = false := by
            cases hc : (a == b) with
            | false => rfl
            | true =>
              have : a = b := by simpa using hc
              rw [this] at ha
              rw [ha] at hb
              have : s = t := by simpa using hb
              rw [this] at hn ls
              omega
          refine near_yes p sp len cap a b c w hl hT o q g xl xh yl yh i j (Lib.hid h1) (Lib.hid h2) (Lib.hid h3) (Lib.hid h4) (Lib.hid h5) (Lib.hid h6) hab (hgo.imp id fun h => ⟨h.1, h.2 hn⟩) ?_
          rcases Pr.distance_is hok ha with ⟨hp, hw1, e5⟩ | e5 | e5
          · rcases Pr.distance_is hok hb with ⟨-, hw2, e6⟩ | e6 | e6
            · rw [h5] at e5
              rw [h6] at e6
              simp only [Prod.mk.injEq] at e5 e6
              subst es et
              have := Pr.near_dist hok hp hts htt hn hw1 hw2
              exact .inr ⟨by rw [e5.2.2]; rfl, .inr ⟨by rw [e6.2.2]; rfl, by rw [e5.1, e6.1]; exact decide_eq_true this.1, by rw [e5.2.1, e6.2.1]; exact decide_eq_true this.2⟩⟩
            · rw [h5] at e5
              rw [h6] at e6
              simp only [Prod.mk.injEq] at e5 e6
              exact .inr ⟨by rw [e5.2.2]; rfl, .inl (by rw [e6.2.2]; rfl)⟩
            · rw [h5] at e5
              rw [h6] at e6
              simp only [Prod.mk.injEq] at e5 e6
              exact .inr ⟨by rw [e5.2.2]; rfl, .inl (by rw [e6.2.2]; rfl)⟩
          · rw [h5] at e5
            simp only [Prod.mk.injEq] at e5
            exact .inl (by rw [e5.2.2]; rfl)
          · rw [h5] at e5
            simp only [Prod.mk.injEq] at e5
            exact .inl (by rw [e5.2.2]; rfl)
        · have hb0 : 0 ≤ nearOf s t ∧ nearOf s t < 2 := by unfold nearOf; rw [if_neg hn]; split <;> omega
          refine near_no p sp len cap a b c w hl hT _ _ o q g xl xh yl yh i j (Lib.hid h1) (Lib.hid h2) (Lib.hid h3) (Lib.hid h4) (Lib.hid h5) (Lib.hid h6) hb0.1 hb0.2 ?_
          by_cases hm : nearOf t s = 2
          · have h7 := nearOf_two.1 hm
            exact .inr (by unfold nearOf; rw [if_neg hn, if_pos (by omega)])
          · exact .inl (by simpa using hm)
end Go.Proofs.Ytofdoadpaedogaa
namespace Go.Proofs.Ytofdoadpaedogaa.NearerDone
open Go.ChangeShapes Go.WideShapes Go.ChangeAt Go.RowKit
set_option linter.unusedVariables false

theorem near_walk (p : Pr) (sp : Option Addr) (len cap : Nat) (a b c : Int) (w : World) (h : PairIn p sp len cap w) (_ : (Lit.int .i64 a).wf = true) (_ : (Lit.int .i64 b).wf = true) (_ : (Lit.int .i64 c).wf = true) :
    Calls Try.prog 9 #[p.val (.slice sp len cap), .int .i64 a, .int .i64 b, .int .i64 c] w fun e w' => e = .returned (.bool true) ∧ Below w.heap.size w w' := near_any p sp len cap a b c w h
theorem own : ownKnob Try.prog.godebug = none := by kernel_rfl
theorem laidOut : laidOutB Try.prog = true := by kernel_rfl
set_option maxRecDepth 100000 in
theorem lifted (os : Os) (started : os.Started) (H : Type) (enc : TypeId × Value → H) :
    ReturnsInHanded {} Try.checked os 9 .any (Rows.pairNearerSpec.pre6 enc Try.prog Try.f9 Rows.pairNearerRow.domain false) (Rows.pairNearerSpec.post enc Try.prog Try.f9 false true false false) := by
  refine returnsInHanded_of_change (C := Try.checked) own started (by kernel_rfl) Try.func9
    (ChangeSpec.witness6 (enc := enc) (C := Try.checked) false ⟨#[], #[.agg #[.int .i64 0, .int .i64 0, .int .i64 0, .int .i64 0, .int .i64 0, .int .i64 0, .int .i64 0, .slice none 0 0], .int .i64 0, .int .i64 0, .int .i64 0], []⟩ 8 (by kernel_rfl) (by kernel_rfl) (by kernel_rfl) (by kernel_rfl)) ?_
  intro W base args ds gs before hval0 hW hcnd _
  have hval : ∀ (j : Nat) t v, Try.f9.params[j]? = some t → args[j]? = some v → Value.okWide Try.prog W .any base t v := hval0
  have hW' := hW
  obtain ⟨p, q, hA0, hV, rfl, hfz, hnd⟩ := hW
  have hA : DataW.TrodAll enc Try.prog W 0 (fun _ => true) true Try.f9.params.toList args.toList ds p := hA0
  rw [Try.params9] at hA hval
  obtain ⟨v0, vs0, d0, ds0, p0, q0, hargs, rfl, rfl, h0, r0⟩ := trodAll_cons hA
  obtain ⟨v1, vs1, d1, ds1, p1, q1, rfl, rfl, rfl, h1, r1⟩ := trodAll_cons r0
  obtain ⟨v2, vs2, d2, ds2, p2, q2, rfl, rfl, rfl, h2, r2⟩ := trodAll_cons r1
  obtain ⟨v3, vs3, d3, ds3, p3, q3, rfl, rfl, rfl, h3, r3⟩ := trodAll_cons r2
  obtain ⟨rfl, rfl, rfl⟩ := trodAll_nil r3
  obtain rfl : args = #[v0, v1, v2, v3] := by cases args; simp_all
  obtain ⟨rfl, rfl⟩ := trodVars_none hV
  have k0 := h0
  have lt0 : ∀ x ∈ p0, x.block < W.heap.size := by obtain ⟨m, hm⟩ := k0; exact DataW.trod_lt m _ _ _ hm
  obtain ⟨pr, sp, len, cap, rfl, hin⟩ := open_pair (hval 0 26 v0 rfl rfl) h0
  obtain ⟨a1, rfl, rfl, rfl, w1⟩ := open_int Try.underlying3 (hval 1 3 v1 rfl rfl) h1
  obtain ⟨a2, rfl, rfl, rfl, w2⟩ := open_int Try.underlying3 (hval 2 3 v2 rfl rfl) h2
  obtain ⟨a3, rfl, rfl, rfl, w3⟩ := open_int Try.underlying3 (hval 3 3 v3 rfl rfl) h3
  clear hA0 hval0
  refine (near_walk pr sp len cap a1 a2 a3 W hin w1 w2 w3).mono fun e W' ⟨he, bel⟩ => ?_
  subst he
  exact ⟨_, rfl, _, _, _, [], _, [], hW', trodAll_mk1 (shut_bool Try.underlying4 _), (trodAll_cons_mk (Below.trod laidOut (by kernel_rfl) (of_decide_eq_true (by kernel_rfl)) k0 bel lt0) (trodAll_cons_mk (shut_int Try.underlying3 w1) (trodAll_cons_mk (shut_int Try.underlying3 w2) (trodAll_cons_mk (shut_int Try.underlying3 w3) trodAll_mk0)))), rfl, bel.frame _, fun h => by cases h⟩

theorem over : Rows.pairNearerRow.holds Try.pinned (OpenSpec.ofChange Rows.pairNearerSpec) :=
  OpenClaim.holds_of_wide 9 Try.f9 rfl rfl rfl rfl rfl rfl rfl ⟨rfl, rfl, rfl, rfl, rfl⟩ rfl rfl rfl rfl rfl (by kernel_rfl) Try.func9 (by kernel_rfl)
    (of_decide_eq_true (by kernel_rfl)) (by unfold Func.isWrapper; first | (rw [if_pos (by decide +kernel)]; kernel_rfl) | (rw [if_neg (by decide +kernel)]; exact ⟨rfl, rfl⟩))
    (fun os started H enc _ => lifted os started H enc)

theorem proved : Rows.PairNearerSaid := over
#print axioms proved
end Go.Proofs.Ytofdoadpaedogaa.NearerDone
