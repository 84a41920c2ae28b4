/-
  PairEnds returns true for every pair and every two numbers, and leaves its arguments as they were.
  No condition.
-/
import Derived.Test.YtofdoadpaedogaaM5
import Derived.Test.YtofdoadpaedogaaM6
import Derived.Test.YtofdoadpaedogaaM7
import Derived.Test.YtofdoadpaedogaaM8
import Derived.ChangeOld
namespace Go.Proofs.Ytofdoadpaedogaa
open Go.RowKit

theorem Pr.at_th3 {p : Pr} {k : Int} {s : Sg} (h : p.at k = some s) : ∃ (n : Nat) (t : Th), k = n ∧ p.l[n]? = some t ∧ s = t.see p.ti p.ne p.fa := by
  obtain ⟨n, e, hn⟩ := Pr.at_some h
  unfold Pr.seen seenOf at hn
  rw [List.getElem?_map] at hn
  cases hl : p.l[n]? with
  | none => rw [hl] at hn; cases hn
  | some t => rw [hl] at hn; exact ⟨n, t, e, hl, (Option.some.inj hn).symm⟩
theorem Pr.can_eq {p : Pr} (h : p.ok = true) (hp : p.pw.1 ≤ p.pw.2) {n : Nat} {t : Th} (ht : p.l[n]? = some t) (h0 : t.z = 0) {z : Int} (hz : p.ne ≤ z ∧ z ≤ p.fa) :
    ((p.marked n z).power.2.2 == 0) = decide ((t.see p.ti p.ne p.fa).why p.pw.1 p.pw.2 = 0 ∧ ((t.see p.ti p.ne p.fa).dists p.pw.1 p.pw.2).1 ≤ z ∧ z ≤ ((t.see p.ti p.ne p.fa).dists p.pw.1 p.pw.2).2) := by
  have e := Pr.can_iff h hp ht h0 hz
  unfold Pr.power
  rw [if_pos (Pr.marked_ok h ht hz)]
  by_cases c : (p.marked n z).pw.1 ≤ (p.marked n z).pw.2
  · rw [if_pos c, decide_eq_true (e.1 c)]; rfl
  · rw [if_neg c, decide_eq_false (fun d => c (e.2 d))]; rfl
theorem Sg.why_le (s : Sg) (plo phi : Int) : 0 ≤ s.why plo phi ∧ s.why plo phi ≤ 4 := by
  unfold Sg.why
  split
  · omega
  · split
    · omega
    · split
      · omega
      · split <;> omega
theorem ends_any (p : Pr) (sp : Option Addr) (len cap : Nat) (n o : Int) (w : World) (h : PairIn p sp len cap w) (ho : 0 ≤ o ∧ o ≤ 4294967295) :
    Calls Try.prog 6 #[.agg #[.int .i64 p.fl, .int .i64 p.fh, .int .i64 p.bl, .int .i64 p.bh, .int .i64 p.ti, .int .i64 p.ne, .int .i64 p.fa, .slice sp len cap], .int .i64 n, .int .u32 o] w fun e w' => e = .returned (.bool true) ∧ Below w.heap.size w w' := by
  obtain ⟨-, -, -, -, -, -, -, hlen, -, hT, -⟩ := h
  by_cases hl : 40 < len
  · exact ends_many p sp len cap n o w hl
  replace hl : len ≤ 40 := by omega
  replace hT := hT (by omega)
  cases hok : p.ok with
  | false =>
    have e1 : p.why n = (0, 1) := by unfold Pr.why; rw [if_neg (by simp [hok])]
    have e2 : p.distance n = (0, 0, 1) := by unfold Pr.distance; rw [if_neg (by simp [hok])]
    exact ends_err p sp len cap n o w hl hT 1 rfl (Lib.hid e1) (Lib.hid e2)
  | true =>
    cases hk : p.at n with
    | none =>
      have e1 : p.why n = (0, 2) := by unfold Pr.why; rw [if_pos hok, hk]
      have e2 : p.distance n = (0, 0, 2) := by unfold Pr.distance; rw [if_pos hok, hk]
      exact ends_err p sp len cap n o w hl hT 2 rfl (Lib.hid e1) (Lib.hid e2)
    | some s =>
      by_cases hp : p.pw.1 ≤ p.pw.2
      · have e1 : p.why n = (s.why p.pw.1 p.pw.2, 0) := by unfold Pr.why; rw [if_pos hok, hk]; simp only; rw [if_pos hp]
        have e2 : p.distance n = if s.why p.pw.1 p.pw.2 = 0 then ((s.dists p.pw.1 p.pw.2).1, (s.dists p.pw.1 p.pw.2).2, 0) else (0, 0, 11) := by unfold Pr.distance; rw [if_pos hok, hk]; simp only; rw [if_pos hp]
        obtain ⟨k, t, rfl, hlk, rfl⟩ := Pr.at_th3 hk
        have ht := List.mem_of_getElem? hlk
        have hb := p.bounds hok
        have hkl : k < len := by have := (List.getElem?_eq_some_iff.1 hlk).1; omega
        have b1 := hb.ne0
        have b2 := hb.ne1
        have b3 := hb.fa1
        have q0 : 0 ≤ o % (p.fa - p.ne + 1) := Int.emod_nonneg _ (by omega)
        have q1 : o % (p.fa - p.ne + 1) < p.fa - p.ne + 1 := Int.emod_lt_of_pos _ (by omega)
        by_cases hz : t.z = 0
        · have can := fun (z : Int) (hz' : p.ne ≤ z ∧ z ≤ p.fa) => Pr.can_eq hok hp hlk hz hz'
          have hwl := Sg.why_le (t.see p.ti p.ne p.fa) p.pw.1 p.pw.2
          by_cases hw : (t.see p.ti p.ne p.fa).why p.pw.1 p.pw.2 = 0
          · have hd := Pr.dist_in hok hp ht hz hw
            rw [if_pos hw] at e2
            rw [hw] at e1
            have c1 := can _ ⟨hd.1, by omega⟩
            have c2 := can _ ⟨show p.ne ≤ ((t.see p.ti p.ne p.fa).dists p.pw.1 p.pw.2).2 by omega, hd.2.2⟩
            have c5 := can (p.ne + o % (p.fa - p.ne + 1)) ⟨by omega, by omega⟩
            rw [decide_eq_true ⟨hw, Int.le_refl _, hd.2.1⟩] at c1
            rw [decide_eq_true ⟨hw, hd.2.1, Int.le_refl _⟩] at c2
            have hin : (decide (((t.see p.ti p.ne p.fa).dists p.pw.1 p.pw.2).1 ≤ p.ne + o % (p.fa - p.ne + 1)) && decide (p.ne + o % (p.fa - p.ne + 1) ≤ ((t.see p.ti p.ne p.fa).dists p.pw.1 p.pw.2).2)) = ((p.marked k (p.ne + o % (p.fa - p.ne + 1))).power.2.2 == 0) := by
              rw [c5, ← Bool.decide_and]
              exact decide_eq_decide.2 ⟨fun h => ⟨hw, h⟩, fun h => h.2⟩
            generalize ((t.see p.ti p.ne p.fa).dists p.pw.1 p.pw.2).1 = d1 at *
            generalize ((t.see p.ti p.ne p.fa).dists p.pw.1 p.pw.2).2 = d2 at *
            by_cases a1 : p.ne < d1
            · have c3 := can (d1 - 1) ⟨by omega, by omega⟩
              rw [decide_eq_false (fun h => by have := h.2.1; omega)] at c3
              by_cases a2 : d2 < p.fa
              · have c4 := can (d2 + 1) ⟨by omega, by omega⟩
                rw [decide_eq_false (fun h => by have := h.2.2; omega)] at c4
                exact ends_ok11 p sp len cap k o w hl hT hlen t.a t.b t.c t.d t.e t.f t.g t.h t.z _ (Lib.hid hlk) hkl (Lib.hid hok) b1 b2 b3 ho rfl d1 d2 _ (by simp [hz]) hd.1 hd.2.1 hd.2.2 (Lib.hid e1) (Lib.hid e2) (Lib.hid c1) (Lib.hid c2) (decide_eq_true a1) (Lib.hid c3) (decide_eq_true a2) (Lib.hid c4) (Lib.hid rfl) (Lib.hid hin)
              · exact ends_ok10 p sp len cap k o w hl hT hlen t.a t.b t.c t.d t.e t.f t.g t.h t.z _ (Lib.hid hlk) hkl (Lib.hid hok) b1 b2 b3 ho rfl d1 d2 _ (by simp [hz]) hd.1 hd.2.1 hd.2.2 (Lib.hid e1) (Lib.hid e2) (Lib.hid c1) (Lib.hid c2) (decide_eq_true a1) (Lib.hid c3) (decide_eq_false a2) (Lib.hid rfl) (Lib.hid hin)
            · by_cases a2 : d2 < p.fa
              · have c4 := can (d2 + 1) ⟨by omega, by omega⟩
                rw [decide_eq_false (fun h => by have := h.2.2; omega)] at c4
                exact ends_ok01 p sp len cap k o w hl hT hlen t.a t.b t.c t.d t.e t.f t.g t.h t.z _ (Lib.hid hlk) hkl (Lib.hid hok) b1 b2 b3 ho rfl d1 d2 _ (by simp [hz]) hd.1 hd.2.1 hd.2.2 (Lib.hid e1) (Lib.hid e2) (Lib.hid c1) (Lib.hid c2) (decide_eq_false a1) (decide_eq_true a2) (Lib.hid c4) (Lib.hid rfl) (Lib.hid hin)
              · exact ends_ok00 p sp len cap k o w hl hT hlen t.a t.b t.c t.d t.e t.f t.g t.h t.z _ (Lib.hid hlk) hkl (Lib.hid hok) b1 b2 b3 ho rfl d1 d2 _ (by simp [hz]) hd.1 hd.2.1 hd.2.2 (Lib.hid e1) (Lib.hid e2) (Lib.hid c1) (Lib.hid c2) (decide_eq_false a1) (decide_eq_false a2) (Lib.hid rfl) (Lib.hid hin)
          · rw [if_neg hw] at e2
            have can' : ∀ z : Int, (p.ne ≤ z ∧ z ≤ p.fa) → ((p.marked k z).power.2.2 == 0) = false := fun z hz' => by
              rw [can z hz', decide_eq_false (fun h => hw h.1)]
            exact ends_refuse p sp len cap k o w hl hT hlen t.a t.b t.c t.d t.e t.f t.g t.h t.z _ (Lib.hid hlk) hkl (Lib.hid hok) b1 b2 b3 ho rfl _ (by omega) (by omega) (by simp [hz]) (Lib.hid e1) (Lib.hid e2) (Lib.hid (can' _ ⟨by omega, by omega⟩)) (Lib.hid (can' _ ⟨by omega, by omega⟩)) (Lib.hid (can' _ ⟨by omega, by omega⟩))
        · have hw := Pr.mark_why hok hp ht hz
          rw [if_pos hw] at e2
          rw [hw] at e1
          obtain ⟨hwit, -⟩ := Pr.mark hok hp ht hz
          rw [Sg.dists_mark hwit] at e2
          exact ends_mark p sp len cap k o w hl hT hlen t.a t.b t.c t.d t.e t.f t.g t.h t.z _ (Lib.hid hlk) hkl (Lib.hid hok) b1 b2 b3 ho rfl (by simpa using hz) (Lib.hid e1) (Lib.hid e2)
      · have e1 : p.why n = (0, 4) := by unfold Pr.why; rw [if_pos hok, hk]; simp only; rw [if_neg hp]
        have e2 : p.distance n = (0, 0, 4) := by unfold Pr.distance; rw [if_pos hok, hk]; simp only; rw [if_neg hp]
        exact ends_err p sp len cap n o w hl hT 4 rfl (Lib.hid e1) (Lib.hid e2)
end Go.Proofs.Ytofdoadpaedogaa
namespace Go.Proofs.Ytofdoadpaedogaa.EndsDone
open Go.ChangeShapes Go.WideShapes Go.ChangeAt Go.RowKit
set_option linter.unusedVariables false

theorem ends_walk (p : Pr) (sp : Option Addr) (len cap : Nat) (n o : Int) (w : World) (h : PairIn p sp len cap w) (_ : (Lit.int .i64 n).wf = true) (ho : (Lit.int .u32 o).wf = true) :
    Calls Try.prog 6 #[p.val (.slice sp len cap), .int .i64 n, .int .u32 o] w fun e w' => e = .returned (.bool true) ∧ Below w.heap.size w w' := by
  have hb : 0 ≤ o ∧ o ≤ 4294967295 := by
    simp only [Lit.wf, Bool.and_eq_true, decide_eq_true_eq] at ho
    exact ho
  exact ends_any p sp len cap n o w h hb
theorem own : ownKnob Try.prog.godebug = none := by kernel_rfl
theorem laidOut : laidOutB Try.prog = true := by kernel_rfl
set_option maxRecDepth 100000 in
theorem lifted (os : Os) (started : os.Started) (H : Type) (enc : TypeId × Value → H) :
    ReturnsInHanded {} Try.checked os 6 .any (Rows.pairEndsSpec.pre6 enc Try.prog Try.f6 Rows.pairEndsRow.domain false) (Rows.pairEndsSpec.post enc Try.prog Try.f6 false true false false) := by
  refine returnsInHanded_of_change (C := Try.checked) own started (by kernel_rfl) Try.func6
    (ChangeSpec.witness6 (enc := enc) (C := Try.checked) false ⟨#[], #[.agg #[.int .i64 0, .int .i64 0, .int .i64 0, .int .i64 0, .int .i64 0, .int .i64 0, .int .i64 0, .slice none 0 0], .int .i64 0, .int .u32 0], []⟩ 8 (by kernel_rfl) (by kernel_rfl) (by kernel_rfl) (by kernel_rfl)) ?_
  intro W base args ds gs before hval0 hW hcnd _
  have hval : ∀ (j : Nat) t v, Try.f6.params[j]? = some t → args[j]? = some v → Value.okWide Try.prog W .any base t v := hval0
  have hW' := hW
  obtain ⟨p, q, hA0, hV, rfl, hfz, hnd⟩ := hW
  have hA : DataW.TrodAll enc Try.prog W 0 (fun _ => true) true Try.f6.params.toList args.toList ds p := hA0
  rw [Try.params6] at hA hval
  obtain ⟨v0, vs0, d0, ds0, p0, q0, hargs, rfl, rfl, h0, r0⟩ := trodAll_cons hA
  obtain ⟨v1, vs1, d1, ds1, p1, q1, rfl, rfl, rfl, h1, r1⟩ := trodAll_cons r0
  obtain ⟨v2, vs2, d2, ds2, p2, q2, rfl, rfl, rfl, h2, r2⟩ := trodAll_cons r1
  obtain ⟨rfl, rfl, rfl⟩ := trodAll_nil r2
  obtain rfl : args = #[v0, v1, v2] := by cases args; simp_all
  obtain ⟨rfl, rfl⟩ := trodVars_none hV
  have k0 := h0
  have lt0 : ∀ x ∈ p0, x.block < W.heap.size := by obtain ⟨m, hm⟩ := k0; exact DataW.trod_lt m _ _ _ hm
  obtain ⟨pr, sp, len, cap, rfl, hin⟩ := open_pair (hval 0 26 v0 rfl rfl) h0
  obtain ⟨a1, rfl, rfl, rfl, w1⟩ := open_int Try.underlying3 (hval 1 3 v1 rfl rfl) h1
  obtain ⟨a2, rfl, rfl, rfl, w2⟩ := open_int Try.underlying50 (hval 2 50 v2 rfl rfl) h2
  clear hA0 hval0
  refine (ends_walk pr sp len cap a1 a2 W hin w1 w2).mono fun e W' ⟨he, bel⟩ => ?_
  subst he
  exact ⟨_, rfl, _, _, _, [], _, [], hW', trodAll_mk1 (shut_bool Try.underlying4 _), (trodAll_cons_mk (Below.trod laidOut (by kernel_rfl) (of_decide_eq_true (by kernel_rfl)) k0 bel lt0) (trodAll_cons_mk (shut_int Try.underlying3 w1) (trodAll_cons_mk (shut_int Try.underlying50 w2) trodAll_mk0))), rfl, bel.frame _, fun h => by cases h⟩

theorem over : Rows.pairEndsRow.holds Try.pinned (OpenSpec.ofChange Rows.pairEndsSpec) :=
  OpenClaim.holds_of_wide 6 Try.f6 rfl rfl rfl rfl rfl rfl rfl ⟨rfl, rfl, rfl, rfl, rfl⟩ rfl rfl rfl rfl rfl (by kernel_rfl) Try.func6 (by kernel_rfl)
    (of_decide_eq_true (by kernel_rfl)) (by unfold Func.isWrapper; first | (rw [if_pos (by decide +kernel)]; kernel_rfl) | (rw [if_neg (by decide +kernel)]; exact ⟨rfl, rfl⟩))
    (fun os started H enc _ => lifted os started H enc)

theorem proved : Rows.PairEndsSaid := over
#print axioms proved
end Go.Proofs.Ytofdoadpaedogaa.EndsDone
