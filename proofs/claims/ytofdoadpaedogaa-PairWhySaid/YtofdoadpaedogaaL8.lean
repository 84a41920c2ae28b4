/-
  PairWhy returns true for every pair and every number, and leaves its arguments as they were.
  No condition.
-/
import Derived.Test.YtofdoadpaedogaaL4
import Derived.Test.YtofdoadpaedogaaL5
import Derived.Test.YtofdoadpaedogaaL6
import Derived.Test.YtofdoadpaedogaaL7
import Derived.ChangeOld
namespace Go.Proofs.Ytofdoadpaedogaa
open Go.RowKit

theorem Pr.at_th2 {p : Pr} {k : Int} {s : Sg} (h : p.at k = some s) : ∃ (n : Nat) (t : Th), k = n ∧ p.l[n]? = some t ∧ s = t.see p.ti p.ne p.fa := by
  obtain ⟨n, e, hn⟩ := Pr.at_some h
  unfold Pr.seen seenOf at hn
  rw [List.getElem?_map] at hn
  cases hl : p.l[n]? with
  | none => rw [hl] at hn; cases hn
  | some t => rw [hl] at hn; exact ⟨n, t, e, hl, (Option.some.inj hn).symm⟩
theorem Pr.at_mk {p : Pr} {n : Nat} {t : Th} (h : p.l[n]? = some t) : p.at n = some (t.see p.ti p.ne p.fa) := by
  unfold Pr.at
  rw [if_pos (by omega)]
  show p.seen[((n : Int)).toNat]? = _
  rw [Int.toNat_natCast]
  unfold Pr.seen seenOf
  rw [List.getElem?_map, h]; rfl
theorem decide_two {a : Prop} [Decidable a] : decide a = true ∨ decide a = false := by cases decide a <;> simp
theorem why_any_law (p : Pr) (sp : Option Addr) (len cap : Nat) (n : Int) (w : World) (h : PairIn p sp len cap w) :
    Calls Try.prog 7 #[.agg #[.int .i64 p.fl, .int .i64 p.fh, .int .i64 p.bl, .int .i64 p.bh, .int .i64 p.ti, .int .i64 p.ne, .int .i64 p.fa, .slice sp len cap], .int .i64 n] w fun e w' => e = .returned (.bool true) ∧ Below w.heap.size w w' := by
  obtain ⟨-, -, -, -, -, -, -, hlen, -, hT, -⟩ := h
  by_cases hl : 40 < len
  · exact why_many p sp len cap n w hl
  replace hl : len ≤ 40 := by omega
  replace hT := hT (by omega)
  cases hok : p.ok with
  | false =>
    have e1 : p.why n = (0, 1) := by unfold Pr.why; rw [if_neg (by simp [hok])]
    have e2 : p.shift n = (0, 0, 1) := by unfold Pr.shift; rw [if_neg (by simp [hok])]
    have e3 : p.power = (0, 0, 1) := by unfold Pr.power; rw [if_neg (by simp [hok])]
    exact why_err p sp len cap n w hl hT 0 0 0 0 1 1 1 false (Lib.hid e1) (Lib.hid e2) (Lib.hid e3) (Lib.hid hok) (.inl ⟨rfl, rfl, rfl, rfl⟩)
  | true =>
    cases hk : p.at n with
    | none =>
      have e1 : p.why n = (0, 2) := by unfold Pr.why; rw [if_pos hok, hk]
      have e2 : p.shift n = (0, 0, 2) := by unfold Pr.shift; rw [if_pos hok, hk]
      obtain ⟨P, Q, g, e3, hg⟩ : ∃ P Q g, p.power = (P, Q, g) ∧ (g == 2) = false := by
        unfold Pr.power; rw [if_pos hok]
        split
        · exact ⟨_, _, 0, rfl, rfl⟩
        · exact ⟨_, _, 4, rfl, rfl⟩
      exact why_err p sp len cap n w hl hT 0 0 P Q 2 2 g true (Lib.hid e1) (Lib.hid e2) (Lib.hid e3) (Lib.hid hok) (.inr (.inl ⟨rfl, rfl, rfl, hg⟩))
    | some s =>
      have e2 : p.shift n = (s.lo, s.hi, 0) := by unfold Pr.shift; rw [if_pos hok, hk]
      by_cases hp : p.pw.1 ≤ p.pw.2
      · have e1 : p.why n = (s.why p.pw.1 p.pw.2, 0) := by unfold Pr.why; rw [if_pos hok, hk]; simp only; rw [if_pos hp]
        have e3 : p.power = (p.pw.1, p.pw.2, 0) := by unfold Pr.power; rw [if_pos hok, if_pos hp]
        obtain ⟨k, t, rfl, hlk, rfl⟩ := Pr.at_th2 hk
        have ht := List.mem_of_getElem? hlk
        have hb := p.bounds hok
        have hin := p.pw_in hok
        have hy := Pr.why_is hok hp ht
        obtain ⟨-, -, bc, bd, -, -, bg, bh⟩ := (hb.things t ht).1
        have hkl : k < len := by have := (List.getElem?_eq_some_iff.1 hlk).1; omega
        have b1 : 2000 ≤ p.ne := hb.ne0
        have b2 : 2000 ≤ p.fa := by have := hb.ne1; omega
        simp only at hy
        generalize hsv : t.see p.ti p.ne p.fa = s at *
        clear hsv
        obtain ⟨xa, xb, xc, xd, xe, xf, xg, xh, xz⟩ := t
        simp only at hy bc bd bg bh
        have N3 : decide (2000 < imax 0 s.lo) = true ∨ (decide (2000 < imax 0 s.lo) = false ∧ decide (p.pw.2 / p.ne < imax 0 s.lo) = true) ∨ (decide (2000 < imax 0 s.lo) = false ∧ decide (p.pw.2 / p.ne < imax 0 s.lo) = false) := by
          cases decide (2000 < imax 0 s.lo) <;> cases decide (p.pw.2 / p.ne < imax 0 s.lo) <;> simp
        have F3 : decide (s.hi < p.pw.1 / p.fa) = true ∨ (decide (s.hi < p.pw.1 / p.fa) = false ∧ decide (2000 < p.pw.1 / p.fa) = true) ∨ (decide (s.hi < p.pw.1 / p.fa) = false ∧ decide (2000 < p.pw.1 / p.fa) = false) := by
          cases decide (s.hi < p.pw.1 / p.fa) <;> cases decide (2000 < p.pw.1 / p.fa) <;> simp
        have nr : ∀ {r : Prop}, (¬ (p.ti < xc - xh ∨ p.ti < xg - xd) → r) → (p.ti < xc - xh ∨ p.ti < xg - xd) ∨ (decide (p.ti < xc - xh) = false ∧ decide (p.ti < xg - xd) = false ∧ r) := fun h => by
          by_cases c : p.ti < xc - xh ∨ p.ti < xg - xd
          · exact .inl c
          · exact .inr ⟨decide_eq_false (by omega), decide_eq_false (by omega), h c⟩
        rcases hy with ⟨hy, hr, hh, hz⟩ | ⟨hy, hr⟩ | ⟨hy, hr, hh⟩ | ⟨hy, hr, hh, hn, hz⟩ | ⟨hy, hr, hh, hn, hf, hz⟩
        · have r1 : decide (p.ti < xc - xh) = false := decide_eq_false (by omega)
          have r2 : decide (p.ti < xg - xd) = false := decide_eq_false (by omega)
          by_cases h0 : xz = 0
          · have := hz.resolve_left (by omega)
            exact why_zero p sp len cap k w hl hT hlen _ s.lo s.hi p.pw.1 p.pw.2 xa xb xc xd xe xf xg xh xz (Lib.hid e1) (Lib.hid e2) (Lib.hid e3) (Lib.hid hok) hlk hkl bc bd bg bh hin.1 hin.2 hp b1 b2 r1 r2 hy (decide_eq_true hh) (by simp [h0]) ⟨decide_eq_false (by omega), decide_eq_false (by omega)⟩ ⟨decide_eq_false (by omega), decide_eq_false (by omega)⟩
          · exact why_zero_mark p sp len cap k w hl hT hlen _ s.lo s.hi p.pw.1 p.pw.2 xa xb xc xd xe xf xg xh xz (Lib.hid e1) (Lib.hid e2) (Lib.hid e3) (Lib.hid hok) hlk hkl bc bd bg bh hin.1 hin.2 hp b1 b2 r1 r2 hy (decide_eq_true hh) (by simpa using h0) N3 F3
        · by_cases c : p.ti < xc - xh
          · exact why_row1 p sp len cap k w hl hT hlen _ s.lo s.hi p.pw.1 p.pw.2 xa xb xc xd xe xf xg xh xz (Lib.hid e1) (Lib.hid e2) (Lib.hid e3) (Lib.hid hok) hlk hkl bc bd bg bh hin.1 hin.2 hp b1 b2 (decide_eq_true c) hy N3 F3
          · exact why_row2 p sp len cap k w hl hT hlen _ s.lo s.hi p.pw.1 p.pw.2 xa xb xc xd xe xf xg xh xz (Lib.hid e1) (Lib.hid e2) (Lib.hid e3) (Lib.hid hok) hlk hkl bc bd bg bh hin.1 hin.2 hp b1 b2 (decide_eq_false c) (decide_eq_true (by omega)) hy N3 F3
        · exact why_behind p sp len cap k w hl hT hlen _ s.lo s.hi p.pw.1 p.pw.2 xa xb xc xd xe xf xg xh xz (Lib.hid e1) (Lib.hid e2) (Lib.hid e3) (Lib.hid hok) hlk hkl bc bd bg bh hin.1 hin.2 hp b1 b2 (decide_eq_false (by omega)) (decide_eq_false (by omega)) hy (decide_eq_true hh) N3 F3
        · have hn' : decide (2000 < imax 0 s.lo) = true ∨ (decide (2000 < imax 0 s.lo) = false ∧ decide (p.pw.2 / p.ne < imax 0 s.lo) = true) := by
            by_cases c : 2000 < imax 0 s.lo
            · exact .inl (decide_eq_true c)
            · exact .inr ⟨decide_eq_false c, decide_eq_true (hn.resolve_left c)⟩
          exact why_near p sp len cap k w hl hT hlen _ s.lo s.hi p.pw.1 p.pw.2 xa xb xc xd xe xf xg xh xz (Lib.hid e1) (Lib.hid e2) (Lib.hid e3) (Lib.hid hok) hlk hkl bc bd bg bh hin.1 hin.2 hp b1 b2 (decide_eq_false (by omega)) (decide_eq_false (by omega)) hy (decide_eq_true hh) (by simp [hz]) hn' F3
        · have hf' : decide (s.hi < p.pw.1 / p.fa) = true ∨ (decide (s.hi < p.pw.1 / p.fa) = false ∧ decide (2000 < p.pw.1 / p.fa) = true) := by
            by_cases c : s.hi < p.pw.1 / p.fa
            · exact .inl (decide_eq_true c)
            · exact .inr ⟨decide_eq_false c, decide_eq_true (hf.resolve_left c)⟩
          exact why_far p sp len cap k w hl hT hlen _ s.lo s.hi p.pw.1 p.pw.2 xa xb xc xd xe xf xg xh xz (Lib.hid e1) (Lib.hid e2) (Lib.hid e3) (Lib.hid hok) hlk hkl bc bd bg bh hin.1 hin.2 hp b1 b2 (decide_eq_false (by omega)) (decide_eq_false (by omega)) hy (decide_eq_true hh) (by simp [hz]) ⟨decide_eq_false (by omega), decide_eq_false (by omega)⟩ hf'
      · have e1 : p.why n = (0, 4) := by unfold Pr.why; rw [if_pos hok, hk]; simp only; rw [if_neg hp]
        have e3 : p.power = (0, 0, 4) := by unfold Pr.power; rw [if_pos hok, if_neg hp]
        exact why_err p sp len cap n w hl hT s.lo s.hi 0 0 4 0 4 true (Lib.hid e1) (Lib.hid e2) (Lib.hid e3) (Lib.hid hok) (.inr (.inr ⟨rfl, rfl, rfl, rfl⟩))
end Go.Proofs.Ytofdoadpaedogaa
namespace Go.Proofs.Ytofdoadpaedogaa.WhyDone
open Go.ChangeShapes Go.WideShapes Go.ChangeAt Go.RowKit
set_option linter.unusedVariables false

theorem why_walk (p : Pr) (sp : Option Addr) (len cap : Nat) (n : Int) (w : World) (h : PairIn p sp len cap w) (_ : (Lit.int .i64 n).wf = true) :
    Calls Try.prog 7 #[p.val (.slice sp len cap), .int .i64 n] w fun e w' => e = .returned (.bool true) ∧ Below w.heap.size w w' := why_any_law p sp len cap n w h
theorem own : ownKnob Try.prog.godebug = none := by kernel_rfl
theorem laidOut : laidOutB Try.prog = true := by kernel_rfl
set_option maxRecDepth 100000 in
theorem lifted (os : Os) (started : os.Started) (H : Type) (enc : TypeId × Value → H) :
    ReturnsInHanded {} Try.checked os 7 .any (Rows.pairWhySpec.pre6 enc Try.prog Try.f7 Rows.pairWhyRow.domain false) (Rows.pairWhySpec.post enc Try.prog Try.f7 false true false false) := by
  refine returnsInHanded_of_change (C := Try.checked) own started (by kernel_rfl) Try.func7
    (ChangeSpec.witness6 (enc := enc) (C := Try.checked) false ⟨#[], #[.agg #[.int .i64 0, .int .i64 0, .int .i64 0, .int .i64 0, .int .i64 0, .int .i64 0, .int .i64 0, .slice none 0 0], .int .i64 0], []⟩ 8 (by kernel_rfl) (by kernel_rfl) (by kernel_rfl) (by kernel_rfl)) ?_
  intro W base args ds gs before hval0 hW hcnd _
  have hval : ∀ (j : Nat) t v, Try.f7.params[j]? = some t → args[j]? = some v → Value.okWide Try.prog W .any base t v := hval0
  have hW' := hW
  obtain ⟨p, q, hA0, hV, rfl, hfz, hnd⟩ := hW
  have hA : DataW.TrodAll enc Try.prog W 0 (fun _ => true) true Try.f7.params.toList args.toList ds p := hA0
  rw [Try.params7] at hA hval
  obtain ⟨v0, vs0, d0, ds0, p0, q0, hargs, rfl, rfl, h0, r0⟩ := trodAll_cons hA
  obtain ⟨v1, vs1, d1, ds1, p1, q1, rfl, rfl, rfl, h1, r1⟩ := trodAll_cons r0
  obtain ⟨rfl, rfl, rfl⟩ := trodAll_nil r1
  obtain rfl : args = #[v0, v1] := by cases args; simp_all
  obtain ⟨rfl, rfl⟩ := trodVars_none hV
  have k0 := h0
  have lt0 : ∀ x ∈ p0, x.block < W.heap.size := by obtain ⟨m, hm⟩ := k0; exact DataW.trod_lt m _ _ _ hm
  obtain ⟨pr, sp, len, cap, rfl, hin⟩ := open_pair (hval 0 26 v0 rfl rfl) h0
  obtain ⟨a1, rfl, rfl, rfl, w1⟩ := open_int Try.underlying3 (hval 1 3 v1 rfl rfl) h1
  clear hA0 hval0
  refine (why_walk pr sp len cap a1 W hin w1).mono fun e W' ⟨he, bel⟩ => ?_
  subst he
  exact ⟨_, rfl, _, _, _, [], _, [], hW', trodAll_mk1 (shut_bool Try.underlying4 _), (trodAll_cons_mk (Below.trod laidOut (by kernel_rfl) (of_decide_eq_true (by kernel_rfl)) k0 bel lt0) (trodAll_cons_mk (shut_int Try.underlying3 w1) trodAll_mk0)), rfl, bel.frame _, fun h => by cases h⟩

theorem over : Rows.pairWhyRow.holds Try.pinned (OpenSpec.ofChange Rows.pairWhySpec) :=
  OpenClaim.holds_of_wide 7 Try.f7 rfl rfl rfl rfl rfl rfl rfl ⟨rfl, rfl, rfl, rfl, rfl⟩ rfl rfl rfl rfl rfl (by kernel_rfl) Try.func7 (by kernel_rfl)
    (of_decide_eq_true (by kernel_rfl)) (by unfold Func.isWrapper; first | (rw [if_pos (by decide +kernel)]; kernel_rfl) | (rw [if_neg (by decide +kernel)]; exact ⟨rfl, rfl⟩))
    (fun os started H enc _ => lifted os started H enc)

theorem proved : Rows.PairWhySaid := over
#print axioms proved
end Go.Proofs.Ytofdoadpaedogaa.WhyDone
