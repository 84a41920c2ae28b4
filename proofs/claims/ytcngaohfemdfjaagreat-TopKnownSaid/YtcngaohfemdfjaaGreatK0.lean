import Derived.Test.YtcngaohfemdfjaaGreatK9
import Derived.Test.YtcngaohfemdfjaaGreatY33
import Derived.RegionTactic
import Derived.Deep.CutBlock
import Derived.Deep.DeepCutAuto
import Derived.Deep.AppendLies
import Derived.OwnWalk
set_option linter.unusedVariables false
set_option linter.unusedSimpArgs false
namespace Go.Proofs.YtcngaohfemdfjaaGreat
open Go.RowKit
theorem wpList_loadPartG {P : Program} {ops : Array Oper} {rest : List Oper} {o : Oper} {a : Act} {w : World} {Q : Exit → Act → World → Prop} {vs us : List Value} {T ty : TypeId} {x : Operand} {g i n : Nat} (hr : rowOf P ty n = true) (hn : us.length = n) (hg : Box w g vs T) (hu : (vs.drop i).take n = us)
    (ho : o.op = .load ty x) (hw : Region.wanted o (yielded ops a.tmps) = true) (hx : a.eval x = .pointer (some ⟨g, i, none⟩))
    (h : wpList P ops Q rest (a.put o.dst (.agg us.toArray)) w) : wpList P ops Q (o :: rest) a w := by
  refine BigFrame.wpList_want hw fun K hK => ?_
  unfold Oper.wp execOp
  simp only [ho, hx, Instr.loadAt, Instr.sureAddr, Sem.run_bind, Sem.run_pure, Result.andThen_ok, run_loadPart hr hn hg hu]
  exact hK _ _ h
theorem Cd.whole (k : Cd) : (k.cs.drop 0).take 17 = k.cs := rfl
end Go.Proofs.YtcngaohfemdfjaaGreat
namespace Go.Proofs.YtcngaohfemdfjaaGreat
open Go.RowKit
/-! What MountDepths asks of the numbers. -/
end Go.Proofs.YtcngaohfemdfjaaGreat
namespace Go.Proofs.YtcngaohfemdfjaaGreat
open Go.RowKit
/-! What MountLeast, MountWhy and MountTrue ask of the numbers. -/
theorem trim_least {k : Cd} {x t : Cu} (ht : k.trim = some t) (hx : x.isT k.cuts = true) (hk : k.okT x = true) : ¬ x.bef t := by
  unfold Cd.trim at ht
  obtain ⟨-, l1, l2, e, ha⟩ := List.find?_eq_some_iff_append.1 ht
  have hm : x ∈ trims k.cuts := mem_trims.2 hx
  have hp := trims_bef k.cuts
  rw [e] at hm hp
  rcases List.mem_append.1 hm with h | h
  · have := ha x h
    simp [hk] at this
  · rcases List.mem_cons.1 h with rfl | h
    · exact fun hb => hb.irr hb
    · have h1 := (List.pairwise_append.1 hp).2.1
      exact (List.pairwise_cons.1 h1).1 x h |>.irr
theorem trim_some {k : Cd} {x : Cu} (hx : x.isT k.cuts = true) (hk : k.okT x = true) : ∃ t, k.trim = some t := by
  have : k.trim.isSome = true := by
    unfold Cd.trim
    rw [List.find?_isSome]
    exact ⟨x, mem_trims.2 hx, hk⟩
  exact Option.isSome_iff_exists.1 this
theorem trim_is {k : Cd} {t : Cu} (ht : k.trim = some t) : t.isT k.cuts = true ∧ k.okT t = true := by
  unfold Cd.trim at ht
  exact ⟨mem_trims.1 (List.mem_of_find?_eq_some ht), List.find?_some ht⟩
theorem err_cons {k : Cd} {u : Cu} (h : k.err [] = 0) (hu : u.isT k.cuts = true) : k.err [u] = 0 := by
  obtain ⟨h1, h2, -, h4⟩ := Cd.err_zero h
  simp [Cd.err, h1, h2, h4, hu]
end Go.Proofs.YtcngaohfemdfjaaGreat
namespace Go.Proofs.YtcngaohfemdfjaaGreat
open Go.RowKit
/-! What MountMore asks of the numbers: a card with less room. -/
structure Cd.Less (k x : Cd) : Prop where
  p : x.p = k.p
  half : x.half = k.half
  step : x.step = k.step
  cuts : x.cuts ≤ k.cuts
  elo : x.elo ≤ k.elo
  ehi : k.ehi ≤ x.ehi
  prism : x.prism ≤ k.prism
  squeeze : x.squeeze ≤ k.squeeze
  front : x.front ≤ k.front
  deep : x.deep ≤ k.deep
theorem Cd.Less.dist {k x : Cd} (h : k.Less x) (u : Cu) (s : Int) : (⟨x, 0, u⟩ : Tm).dist s = (⟨k, 0, u⟩ : Tm).dist s := by
  unfold Tm.dist
  dsimp only
  rw [h.half, h.step]
theorem Cd.Less.win {k x : Cd} (h : k.Less x) (u : Cu) : (⟨x, 0, u⟩ : Tm).win = (⟨k, 0, u⟩ : Tm).win := by
  unfold Tm.win
  dsimp only
  rw [h.step]
theorem Cd.Less.over {k x : Cd} (h : k.Less x) (u : Cu) (v : Vw) : (⟨x, 0, u⟩ : Tm).over v = (⟨k, 0, u⟩ : Tm).over v := by
  unfold Tm.over
  dsimp only
  rw [h.half, h.step]
theorem why_zero_iff {t : Tm} {x : Vw} : t.why x = 0 ↔ t.k.ehi - t.k.squeeze ≤ t.dist x.sb ∧ t.dist x.sa ≤ t.k.elo + t.k.prism ∧ x.sb ≤ t.win + t.k.front ∧ t.win - t.k.deep ≤ x.sa ∧ t.over x ≤ 0 := by
  unfold Tm.why
  split
  · omega
  · split
    · omega
    · split
      · omega
      · split
        · omega
        · split
          · omega
          · omega
theorem Cd.Less.why {k x : Cd} (h : k.Less x) {u : Cu} {v : Vw} (hw : (⟨x, 0, u⟩ : Tm).why v = 0) : (⟨k, 0, u⟩ : Tm).why v = 0 := by
  rw [why_zero_iff] at hw ⊢
  rw [h.dist, h.dist, h.win, h.over] at hw
  dsimp only at hw ⊢
  have := h.elo; have := h.ehi; have := h.prism; have := h.squeeze; have := h.front; have := h.deep
  omega
theorem first_zero_iff {t : Tm} : ∀ {l : List (Int × Vw)}, t.first l = (0, 0) ↔ ∀ q ∈ l, t.why q.2 = 0
  | [] => by simp [Tm.first]
  | r :: l => by
    constructor
    · exact Tm.first_zero
    · intro h
      unfold Tm.first
      rw [if_pos (h r (by simp))]
      exact first_zero_iff.2 fun q hq => h q (by simp [hq])
theorem Cd.Less.okT {k x : Cd} (h : k.Less x) {u : Cu} (hx : x.okT u = true) : k.okT u = true := by
  unfold Cd.okT at *
  rw [decide_eq_true_eq, first_zero_iff] at *
  rw [h.p] at hx
  exact fun q hq => h.why (hx q hq)
theorem isT_mono {u : Cu} {m n : Int} (h : u.isT m = true) (hmn : m ≤ n) : u.isT n = true := by
  unfold Cu.isT at *
  simp only [Bool.and_eq_true, decide_eq_true_eq] at *
  omega
theorem Cd.Less.trim {k x : Cd} (h : k.Less x) {u : Cu} (hx : x.trim = some u) : ∃ t, k.trim = some t ∧ t.a + t.b + t.c + t.d ≤ u.a + u.b + u.c + u.d := by
  obtain ⟨h1, h2⟩ := trim_is hx
  have h3 := isT_mono h1 h.cuts
  have h4 := h.okT h2
  obtain ⟨t, ht⟩ := trim_some h3 h4
  refine ⟨t, ht, ?_⟩
  have := trim_least ht h3 h4
  unfold Cu.bef Cu.sum at this
  omega
theorem Cd.Less.err {k x : Cd} (h : k.Less x) (hk : k.okc = true) (hx : x.okc = true) : x.err [] = k.err [] := by
  simp [Cd.err, h.p, hk, hx]
theorem Cd.Less.rlo {k x : Cd} (h : k.Less x) (u : Cu) : (⟨k, 0, u⟩ : Tm).rlo ≤ (⟨x, 0, u⟩ : Tm).rlo := by
  have e : (⟨k, 0, u⟩ : Tm).dist (k.elo + k.prism) ≤ (⟨k, 0, u⟩ : Tm).dist (x.elo + x.prism) := by
    unfold Tm.dist
    have := h.elo; have := h.prism
    omega
  unfold Tm.rlo
  rw [h.dist, h.win]
  dsimp only
  have := h.deep
  rw [mimax_le, mimax_le]
  have f1 : ∀ a b : Int, a ≤ imax a b ∧ b ≤ imax a b := fun a b => by unfold imax; split <;> omega
  have g1 := f1 (imax 0 ((⟨k, 0, u⟩ : Tm).dist (x.elo + x.prism))) ((⟨k, 0, u⟩ : Tm).win - x.deep)
  have g2 := f1 0 ((⟨k, 0, u⟩ : Tm).dist (x.elo + x.prism))
  omega
theorem Cd.Less.rhi {k x : Cd} (h : k.Less x) (u : Cu) : (⟨x, 0, u⟩ : Tm).rhi ≤ (⟨k, 0, u⟩ : Tm).rhi := by
  have e : (⟨k, 0, u⟩ : Tm).dist (x.ehi - x.squeeze) ≤ (⟨k, 0, u⟩ : Tm).dist (k.ehi - k.squeeze) := by
    unfold Tm.dist
    have := h.ehi; have := h.squeeze
    omega
  unfold Tm.rhi
  rw [h.dist, h.win]
  dsimp only
  have := h.front
  rw [mle_imin, mle_imin]
  have f1 : ∀ a b : Int, imin a b ≤ a ∧ imin a b ≤ b := fun a b => by unfold imin; split <;> omega
  have g1 := f1 (imin 2000 ((⟨k, 0, u⟩ : Tm).dist (x.ehi - x.squeeze))) ((⟨k, 0, u⟩ : Tm).win + x.front)
  have g2 := f1 2000 ((⟨k, 0, u⟩ : Tm).dist (x.ehi - x.squeeze))
  omega
theorem Cd.Less.eyes {k x : Cd} (h : k.Less x) (u : Cu) (a : Int × Int) (l : List (Int × Vw)) : ((⟨k, 0, u⟩ : Tm).eyesTo a l).1 ≤ ((⟨x, 0, u⟩ : Tm).eyesTo a l).1 ∧ ((⟨x, 0, u⟩ : Tm).eyesTo a l).2 ≤ ((⟨k, 0, u⟩ : Tm).eyesTo a l).2 := by
  constructor
  · rw [Tm.eyes_lo]
    have h1 := (Tm.eyes_lo ⟨x, 0, u⟩ _ l a).1 (Int.le_refl _)
    refine ⟨h1.1, fun q hq => ?_⟩
    have h2 := h1.2 q hq
    rw [h.dist] at h2
    have := h.prism
    dsimp only at h2 ⊢
    omega
  · rw [Tm.eyes_hi]
    have h1 := (Tm.eyes_hi ⟨x, 0, u⟩ _ l a).1 (Int.le_refl _)
    refine ⟨h1.1, fun q hq => ?_⟩
    have h2 := h1.2 q hq
    rw [h.dist] at h2
    have := h.squeeze
    dsimp only at h2 ⊢
    omega
end Go.Proofs.YtcngaohfemdfjaaGreat
namespace Go.Proofs.YtcngaohfemdfjaaGreat
open Go.RowKit
/-! What MountTurned asks of the numbers: a card in a mirror. -/
theorem Tryz.info52 : (Tryz.prog.info? 52).map (fun i => (i.zero, i.size, i.bytes)) = some (some (.agg #[.int .i64 0, .int .i64 0, .int .i64 0, .int .i64 0, .int .i64 0, .int .i64 0, .int .i64 0, .int .i64 0, .int .i64 0]), 9, 72) := by kernel_rfl
section
variable (k : Cd) (sp : Option Addr) (cap : Nat)
end
theorem ThingsAt.boxp {l : List Th} {w : World} {b : Nat} {T : TypeId} {vs : List Value} {cap : Nat} (h : Box w b vs T) (hl : l.length ≤ 1000) (hv : ∀ i t j x, l[i]? = some t → t.vals[j]? = some x → vs[i * 9 + j]? = some x) : ThingsAt l (.slice (some ⟨b, 0, none⟩) l.length cap) w := by
  refine ⟨hl, .inr ⟨b, 0, cap, rfl, h.lt, fun i t hi => CellsFrom.mk fun j x hx => ?_⟩⟩
  rw [Nat.zero_add]
  exact h.cell (hv i t j x hi hx)
theorem flat_take {l : List Th} {vs : List Value} (h : vs.take (l.length * 9) = l.flatMap Th.vals) {i j : Nat} {t : Th} {x : Value} (hi : l[i]? = some t) (hx : t.vals[j]? = some x) : vs[i * 9 + j]? = some x := by
  have hj : j < 9 := by have := (List.getElem?_eq_some_iff.1 hx).1; simpa [Th.vals] using this
  have hil := (List.getElem?_eq_some_iff.1 hi).1
  have h1 := flat_at Th.vals 9 (fun _ => rfl) l i j t hi hj
  rw [← h] at h1
  rw [List.getElem?_take_of_lt (by omega)] at h1
  rw [h1]; exact hx
theorem ThingsAt.own {w : World} {base : Nat} {v : Value} {l : List Th} {n : Nat} (h : w.ownsRow base 52 9 v n (l.flatMap Th.vals)) (hn : n = l.length) (hl : l.length ≤ 1000) : ThingsAt l v w := by
  subst hn
  have h0 := h
  obtain ⟨_, h1⟩ := h
  rcases h1 with ⟨rfl, hn⟩ | ⟨g, cap, cur, rfl, hg, hb, -, -, -, ht⟩
  · exact ⟨hl, .inl ⟨List.eq_nil_of_length_eq_zero hn, rfl⟩⟩
  · exact ThingsAt.boxp (T := 52) (vs := cur.toList) (show Box w g cur.toList 52 by unfold Box; simpa using hb) hl fun i t j x hi hx => flat_take ht hi hx
end Go.Proofs.YtcngaohfemdfjaaGreat
namespace Go.Proofs.YtcngaohfemdfjaaGreat
open Go.RowKit
theorem isT_leM2 {u : Cu} {m : Int} (h : u.isT m = true) : (0 ≤ u.a ∧ u.a ≤ m) ∧ (0 ≤ u.b ∧ u.b ≤ m) ∧ (0 ≤ u.c ∧ u.c ≤ m) ∧ (0 ≤ u.d ∧ u.d ≤ m) ∧ u.a + u.b = u.c + u.d := by
  unfold Cu.isT at h
  simp only [Bool.and_eq_true, decide_eq_true_eq] at h
  omega
theorem eq23 (a b c d : Int) (w : World) : (binOp .eql 23 (.agg #[.int .i64 a, .int .i64 b]) (.agg #[.int .i64 c, .int .i64 d])).run Tryz.prog w = .ok (.bool (a == c && b == d)) w := by
  have hS : Tryz.prog.underlying 23 = some (.struct (Tryz.prog.fieldsOf 23)) := by kernel_rfl
  rw [run_eql_struct, run_equalIn_agg _ _ _ _ _ hS (by kernel_rfl)]
  simp only [Program.fieldsOf, Tryz.underlying23]
  simp [Op.eqFields, go_sem]
  by_cases h1 : a = c <;> by_cases h2 : b = d <;> simp [h1, h2]
theorem eqg23 (x y : Operand) (xs ys : Array Value) (w : World) : (eqGuard .eql 23 x y (.agg xs) (.agg ys)).run Tryz.prog w = .ok () w := run_eqGuard_agg w _ _ _ _ _ _ (by kernel_rfl)
end Go.Proofs.YtcngaohfemdfjaaGreat
