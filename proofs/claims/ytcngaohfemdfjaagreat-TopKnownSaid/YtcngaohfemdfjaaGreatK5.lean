/-
  TopKnown returns true for every card and every two numbers, and leaves its arguments as they were.
  No condition.
-/
import Derived.Test.YtcngaohfemdfjaaGreatK9
import Derived.Test.YtcngaohfemdfjaaGreatY33
import Derived.Test.YtcngaohfemdfjaaGreatK3
import Derived.Test.YtcngaohfemdfjaaGreatK4
import Derived.ChangeOld
import Derived.OpenShut
set_option linter.unusedVariables false
set_option linter.unusedSimpArgs false
namespace Go.Proofs.YtcngaohfemdfjaaGreat
open Go.RowKit

theorem dist_le {p : Pr} (h : p.ok = true) {n : Nat} {t : Th} (ht : p.l[n]? = some t) {a b : Int} (hd : p.distance n = (a, b, 0)) : a ≤ b := by
  have hmem : t ∈ p.l := List.mem_of_getElem? ht
  have hat : p.at n = some (t.see p.ti p.ne p.fa) := by
    unfold Pr.at
    rw [if_pos (by omega)]
    unfold Pr.seen seenOf
    rw [List.getElem?_map, Int.toNat_natCast, ht]
    rfl
  unfold Pr.distance at hd
  rw [if_pos h, hat] at hd
  dsimp only at hd
  by_cases hp : p.pw.1 ≤ p.pw.2
  · rw [if_pos hp] at hd
    by_cases hw : (t.see p.ti p.ne p.fa).why p.pw.1 p.pw.2 = 0
    · rw [if_pos hw] at hd
      have e1 : ((t.see p.ti p.ne p.fa).dists p.pw.1 p.pw.2).1 = a := (Prod.mk.inj hd).1
      have e2 : ((t.see p.ti p.ne p.fa).dists p.pw.1 p.pw.2).2 = b := (Prod.mk.inj (Prod.mk.inj hd).2).1
      by_cases h0 : t.z = 0
      · have hdi := Pr.dist_in h hp hmem h0 hw
        omega
      · have hwit : (t.see p.ti p.ne p.fa).wit = .mark t.z := by show t.wit p.ne p.fa = _; unfold Th.wit; rw [if_neg h0]
        have e3 : (t.see p.ti p.ne p.fa).dists p.pw.1 p.pw.2 = (t.z, t.z) := by unfold Sg.dists; rw [hwit]
        rw [e3] at e1 e2
        dsimp only at e1 e2
        omega
    · rw [if_neg hw] at hd; simp at hd
  · rw [if_neg hp] at hd; simp at hd
theorem top_known_any (k : Cd) (z y : Int) (len : Nat) (w : World) (h : CardIn k len w) (hz : 0 ≤ z ∧ z ≤ 255) (hy : 0 ≤ y ∧ y ≤ 4294967295) :
    Calls Tryz.prog 12 #[.agg k.cs.toArray, .int .u8 z, .int .u32 y] w fun e w' => e = .returned (.bool true) ∧ Below w.heap.size w w' := by
  obtain ⟨⟨-, -, -, -, -, -, -, hlen, -, hT, -⟩, -⟩ := h
  subst hlen
  by_cases hl0 : k.p.l.length = 0
  · exact known_none k z y w hl0
  by_cases hl : 40 < k.p.l.length
  · exact known_many k z y w hl
  replace hl : k.p.l.length ≤ 40 := by omega
  replace hT := hT (by omega)
  cases hc : (k.okc && k.p.ok) with
  | false => exact known_card k z y w hl0 hl hT (Lib.hid hc)
  | true =>
    by_cases hn : 20 < k.cuts
    · exact known_cuts k z y w hl0 hl hT (Lib.hid hc) hn
    have h1 : k.okc = true ∧ k.p.ok = true := by simpa using hc
    have hrem : z.tmod (k.p.l.length : Int) = ((z % (k.p.l.length : Int)).toNat : Int) := by
      rw [Int.tmod_eq_emod_of_nonneg hz.1, Int.toNat_of_nonneg (Int.emod_nonneg _ (by omega))]
    have hi : (z % (k.p.l.length : Int)).toNat < k.p.l.length := by
      have := Int.emod_lt_of_pos z (show 0 < (k.p.l.length : Int) by omega)
      have := Int.emod_nonneg z (show (k.p.l.length : Int) ≠ 0 by omega)
      omega
    generalize (z % (k.p.l.length : Int)).toNat = i at *
    obtain ⟨t, ht⟩ : ∃ t, k.p.l[i]? = some t := ⟨k.p.l[i]'hi, List.getElem?_eq_getElem _⟩
    have hat : k.p.at i = some (t.see k.p.ti k.p.ne k.p.fa) := by
      unfold Pr.at
      rw [if_pos (by omega)]
      unfold Pr.seen seenOf
      rw [List.getElem?_map, Int.toNat_natCast, ht]
      rfl
    have hb := k.p.bounds h1.2
    by_cases hp : k.p.pw.1 ≤ k.p.pw.2
    · by_cases hw : (t.see k.p.ti k.p.ne k.p.fa).why k.p.pw.1 k.p.pw.2 = 0
      · have hd : k.p.distance i = (((t.see k.p.ti k.p.ne k.p.fa).dists k.p.pw.1 k.p.pw.2).1, ((t.see k.p.ti k.p.ne k.p.fa).dists k.p.pw.1 k.p.pw.2).2, 0) := by
          unfold Pr.distance
          rw [if_pos h1.2, hat]
          dsimp only
          rw [if_pos hp, if_pos hw]
        generalize ((t.see k.p.ti k.p.ne k.p.fa).dists k.p.pw.1 k.p.pw.2).1 = a at *
        generalize ((t.see k.p.ti k.p.ne k.p.fa).dists k.p.pw.1 k.p.pw.2).2 = b at *
        have hab : a ≤ b := by
          by_cases c : a ≤ b
          · exact c
          · exact absurd (dist_le h1.2 ht hd) c
        obtain ⟨-, e1, e2, e3⟩ := known_of h1.2 ht hd (Int.le_refl a) hab
        have q0 : 0 ≤ y % (b - a + 1) := Int.emod_nonneg _ (by omega)
        have q1 : y % (b - a + 1) < b - a + 1 := Int.emod_lt_of_pos _ (by omega)
        obtain ⟨hK, -⟩ := known_of h1.2 ht hd (d := a + y % (b - a + 1)) (by omega) (by omega)
        have hT' := hT
        obtain ⟨-, h3 | ⟨tb, tof, cp, hsp, hbl, hcs⟩⟩ := hT'
        · rw [h3.1] at hl0; exact absurd rfl hl0
        have hsp1 : k.sp = some ⟨tb, tof, none⟩ := by simp at hsp; exact hsp.1
        have hQ : (k.p.marked i (a + y % (b - a + 1))).power = ((k.p.marked i (a + y % (b - a + 1))).pw.1, (k.p.marked i (a + y % (b - a + 1))).pw.2, 0) := by
          unfold Pr.power
          rw [if_pos hK.ok, if_pos hK.mid]
        have hT2 : ThingsAt k.p.l (.slice (some ⟨tb, tof, none⟩) k.p.l.length k.cap) w := by rw [← hsp1]; exact hT
        exact known_main k z y w tb tof hsp1 hbl (Lib.hid hcs) hl0 hl hT2 (Lib.hid hc) (by omega) hz i hi hrem h1.1 h1.2 hy a b (Lib.hid hd) ⟨e1, e2, e3⟩ ⟨hb.ne0, hb.fa1⟩ t ht _ _ _ rfl (Lib.hid hQ)
      · have hd : k.p.distance i = (0, 0, 11) := by
          unfold Pr.distance
          rw [if_pos h1.2, hat]
          dsimp only
          rw [if_pos hp, if_neg hw]
        exact known_err k z y w hl0 hl hT (Lib.hid hc) (by omega) hz i hi hrem 11 (.inr ⟨rfl, rfl⟩) rfl (Lib.hid hd)
    · have hd : k.p.distance i = (0, 0, 4) := by
        unfold Pr.distance
        rw [if_pos h1.2, hat]
        dsimp only
        rw [if_neg hp]
      exact known_err k z y w hl0 hl hT (Lib.hid hc) (by omega) hz i hi hrem 4 (.inl ⟨rfl, rfl⟩) rfl (Lib.hid hd)
end Go.Proofs.YtcngaohfemdfjaaGreat
namespace Go.Proofs.YtcngaohfemdfjaaGreat.KnownDone
open Go.ChangeShapes Go.WideShapes Go.ChangeAt Go.RowKit Go.Deep
set_option linter.unusedVariables false

theorem own : ownKnob Tryz.prog.godebug = none := by kernel_rfl
theorem laidOut : laidOutB Tryz.prog = true := by kernel_rfl
set_option maxRecDepth 100000 in
theorem lifted (os : Os) (started : os.Started) (H : Type) (enc : TypeId × Value → H) :
    ReturnsInHanded {} Tryz.checked os 12 .any (Rows.topKnownSpec.pre6 enc Tryz.prog Tryz.f12 Rows.topKnownRow.domain false) (Rows.topKnownSpec.post enc Tryz.prog Tryz.f12 false true false false) := by
  refine returnsInHanded_of_change (C := Tryz.checked) own started (by kernel_rfl) Tryz.func12
    (ChangeSpec.witness6 (enc := enc) (C := Tryz.checked) false ⟨#[], #[.agg #[.int .i64 0, .int .i64 0, .int .i64 0, .int .i64 0, .int .i64 0, .int .i64 0, .int .i64 0, .slice none 0 0, .int .i64 0, .int .i64 0, .int .i64 0, .int .i64 0, .int .i64 0, .int .i64 0, .int .i64 0, .int .i64 0, .int .i64 0], .int .u8 0, .int .u32 0], []⟩ 8 (by kernel_rfl) (by kernel_rfl) (by kernel_rfl) (by kernel_rfl)) ?_
  intro W base args ds gs before hval0 hW hcnd _
  have hval : ∀ (j : Nat) t v, Tryz.f12.params[j]? = some t → args[j]? = some v → Value.okWide Tryz.prog W .any base t v := hval0
  have hW' := hW
  obtain ⟨p, q, hA0, hV, rfl, hfz, hnd⟩ := hW
  have hA : DataW.TrodAll enc Tryz.prog W 0 (fun _ => true) true Tryz.f12.params.toList args.toList ds p := hA0
  rw [Tryz.params12] at hA hval
  obtain ⟨v0, vs0, d0, ds0, p0, q0, hargs, rfl, rfl, h0, r0⟩ := trodAll_cons hA
  obtain ⟨v1, vs1, d1, ds1, p1, q1, rfl, rfl, rfl, h1, r1⟩ := trodAll_cons r0
  obtain ⟨v2, vs2, d2, ds2, p2, q2, rfl, rfl, rfl, h2, r2⟩ := trodAll_cons r1
  obtain ⟨rfl, rfl, rfl⟩ := trodAll_nil r2
  obtain rfl : args = #[v0, v1, v2] := by cases args; simp_all
  obtain ⟨rfl, rfl⟩ := trodVars_none hV
  have k0 := h0
  have lt0 : ∀ x ∈ p0, x.block < W.heap.size := by obtain ⟨m, hm⟩ := k0; exact DataW.trod_lt m _ _ _ hm
  obtain ⟨k, len, rfl, hin⟩ := open_card (hval 0 28 v0 rfl rfl) h0
  obtain ⟨z, rfl, rfl, rfl, wz⟩ := open_int Tryz.underlying5 (hval 1 5 v1 rfl rfl) h1
  obtain ⟨y, rfl, rfl, rfl, wy⟩ := open_int Tryz.underlying59 (hval 2 59 v2 rfl rfl) h2
  have hz : 0 ≤ z ∧ z ≤ 255 := by
    simp only [Lit.wf, Bool.and_eq_true, decide_eq_true_eq] at wz
    have e1 : IntKind.u8.min = 0 := by decide
    have e2 : IntKind.u8.max = 255 := by decide
    omega
  have hy : 0 ≤ y ∧ y ≤ 4294967295 := by
    simp only [Lit.wf, Bool.and_eq_true, decide_eq_true_eq] at wy
    have e1 : IntKind.u32.min = 0 := by decide
    have e2 : IntKind.u32.max = 4294967295 := by decide
    omega
  clear hA0 hval0
  refine (top_known_any k z y len W hin hz hy).mono fun e W' ⟨he, bel⟩ => ?_
  subst he
  exact ⟨_, rfl, _, _, _, [], _, [], hW', trodAll_mk1 (shut_bool Tryz.underlying4 _), (trodAll_cons_mk (Below.trod laidOut (by kernel_rfl) (of_decide_eq_true (by kernel_rfl)) k0 bel lt0) (trodAll_cons_mk (shut_int Tryz.underlying5 wz) (trodAll_cons_mk (shut_int Tryz.underlying59 wy) trodAll_mk0))), rfl, bel.frame _, fun h => by cases h⟩

theorem over : Rows.topKnownRow.holds Tryz.pinned (OpenSpec.ofChange Rows.topKnownSpec) :=
  OpenClaim.holds_of_wide 12 Tryz.f12 rfl rfl rfl rfl rfl rfl rfl ⟨rfl, rfl, rfl, rfl, rfl⟩ rfl rfl rfl rfl rfl (by kernel_rfl) Tryz.func12 (by kernel_rfl)
    (of_decide_eq_true (by kernel_rfl)) (by unfold Func.isWrapper; first | (rw [if_pos (by decide +kernel)]; kernel_rfl) | (rw [if_neg (by decide +kernel)]; exact ⟨rfl, rfl⟩))
    (fun os started H enc _ => lifted os started H enc)

theorem proved : Rows.TopKnownSaid := over
#print axioms proved
end Go.Proofs.YtcngaohfemdfjaaGreat.KnownDone
