import Derived.Test.YtcngaohfemdfjaaGreatH2
import Derived.Test.YtcngaohfemdfjaaGreatE34
import Derived.Test.YtcngaohfemdfjaaGreatE33
import Derived.RegionTactic
import Derived.Deep.CutBlock
import Derived.Deep.DeepCutAuto
set_option linter.unusedVariables false
set_option linter.unusedSimpArgs false
set_option maxRecDepth 100000
set_option maxHeartbeats 60000000
namespace Go.Proofs.YtcngaohfemdfjaaGreat
open Go.RowKit
theorem trim_least {k : Cd} {x t : Cu} (ht : k.trim = some t) (hx : x.isT k.cuts = true) (hk : k.okT x = true) : ¬ x.bef t := by
  unfold Cd.trim at ht
  obtain ⟨-, l1, l2, e, ha⟩ := List.find?_eq_some_iff_append.1 ht
  have hm : x ∈ trims k.cuts := mem_trims.2 hx
  have hp := trims_bef k.cuts
  rw [e] at hm hp
  rcases List.mem_append.1 hm with h | h
  · have := ha x h
    simp [hk] at this
  · rcases List.mem_cons.1 h with rfl | h
    · exact fun hb => hb.irr hb
    · have h1 := (List.pairwise_append.1 hp).2.1
      exact (List.pairwise_cons.1 h1).1 x h |>.irr
theorem trim_some {k : Cd} {x : Cu} (hx : x.isT k.cuts = true) (hk : k.okT x = true) : ∃ t, k.trim = some t := by
  have : k.trim.isSome = true := by
    unfold Cd.trim
    rw [List.find?_isSome]
    exact ⟨x, mem_trims.2 hx, hk⟩
  exact Option.isSome_iff_exists.1 this
theorem trim_is {k : Cd} {t : Cu} (ht : k.trim = some t) : t.isT k.cuts = true ∧ k.okT t = true := by
  unfold Cd.trim at ht
  exact ⟨mem_trims.1 (List.mem_of_find?_eq_some ht), List.find?_some ht⟩
def LexB (A B D : Int) (u : Cu) : Prop := u.a < A ∨ u.a = A ∧ (u.b < B ∨ u.b = B ∧ u.c < D)
structure Bst (k : Cd) (A B D : Int) (out : Cu) (found : Bool) : Prop where
  no : found = false → out = ⟨0, 0, 0, 0⟩ ∧ ∀ u, u.isT k.cuts = true → LexB A B D u → k.okT u = false
  yes : found = true → out.isT k.cuts = true ∧ k.okT out = true ∧ LexB A B D out ∧ ∀ u, u.isT k.cuts = true → LexB A B D u → k.okT u = true → ¬ u.bef out
theorem isT_ends {u : Cu} {m : Int} (h : u.isT m = true) : (0 ≤ u.a ∧ u.a ≤ m) ∧ (0 ≤ u.b ∧ u.b ≤ m) ∧ (0 ≤ u.c ∧ u.c ≤ m) ∧ (0 ≤ u.d ∧ u.d ≤ m) ∧ u.a + u.b = u.c + u.d := by
  unfold Cu.isT at h
  simp only [Bool.and_eq_true, decide_eq_true_eq] at h
  omega
theorem Bst.start (k : Cd) : Bst k 0 0 0 ⟨0, 0, 0, 0⟩ false :=
  ⟨fun _ => ⟨rfl, fun u hu hl => by have := isT_ends hu; unfold LexB at hl; omega⟩, fun h => by cases h⟩
theorem Bst.same {k : Cd} {A B D A' B' D' : Int} {out : Cu} {f : Bool} (h : Bst k A B D out f) (h1 : ∀ u, u.isT k.cuts = true → LexB A' B' D' u → LexB A B D u) (h2 : ∀ u, u.isT k.cuts = true → LexB A B D u → LexB A' B' D' u) : Bst k A' B' D' out f :=
  ⟨fun hf => ⟨(h.no hf).1, fun u hu hl => (h.no hf).2 u hu (h1 u hu hl)⟩, fun hf => by
    obtain ⟨a, b, c, d⟩ := h.yes hf
    exact ⟨a, b, h2 out a c, fun u hu hl => d u hu (h1 u hu hl)⟩⟩
theorem Bst.row {k : Cd} {A B : Int} {out : Cu} {f : Bool} (h : Bst k A B (k.cuts + 1) out f) : Bst k A (B + 1) 0 out f :=
  h.same (fun u hu hl => by have := isT_ends hu; unfold LexB at *; omega) (fun u hu hl => by have := isT_ends hu; unfold LexB at *; omega)
theorem Bst.col {k : Cd} {A : Int} {out : Cu} {f : Bool} (h : Bst k A (k.cuts + 1) 0 out f) : Bst k (A + 1) 0 0 out f :=
  h.same (fun u hu hl => by have := isT_ends hu; unfold LexB at *; omega) (fun u hu hl => by have := isT_ends hu; unfold LexB at *; omega)
theorem cu_eq {u : Cu} {A B D : Int} (hu : u.a + u.b = u.c + u.d) (h1 : u.a = A) (h2 : u.b = B) (h3 : u.c = D) : u = ⟨A, B, D, A + B - D⟩ := by
  obtain ⟨a, b, c, d⟩ := u
  simp only at h1 h2 h3 hu
  subst h1 h2 h3
  congr 1
  omega
theorem lex_step {k : Cd} {A B D : Int} {u : Cu} (hu : u.isT k.cuts = true) (hl : LexB A B (D + 1) u) : LexB A B D u ∨ u = ⟨A, B, D, A + B - D⟩ := by
  have := isT_ends hu
  by_cases c : u.a = A ∧ u.b = B ∧ u.c = D
  · exact .inr (cu_eq this.2.2.2.2 c.1 c.2.1 c.2.2)
  · left; unfold LexB at *; omega
theorem lex_up {A B D : Int} {u : Cu} (h : LexB A B D u) : LexB A B (D + 1) u := by unfold LexB at *; omega
theorem Bst.not {k : Cd} {A B D : Int} {out : Cu} {f : Bool} (h : Bst k A B D out f) (hc : (⟨A, B, D, A + B - D⟩ : Cu).isT k.cuts = false) : Bst k A B (D + 1) out f :=
  h.same (fun u hu hl => (lex_step hu hl).resolve_right fun e => by rw [e, hc] at hu; cases hu) (fun u hu hl => lex_up hl)
theorem Bst.hurt {k : Cd} {A B D : Int} {out : Cu} {f : Bool} (h : Bst k A B D out f) (hc : k.okT ⟨A, B, D, A + B - D⟩ = false) : Bst k A B (D + 1) out f :=
  ⟨fun hf => ⟨(h.no hf).1, fun u hu hl => (lex_step hu hl).elim ((h.no hf).2 u hu) fun e => by rw [e]; exact hc⟩, fun hf => by
    obtain ⟨a, b, c, d⟩ := h.yes hf
    refine ⟨a, b, lex_up c, fun u hu hl ho => ?_⟩
    rcases lex_step hu hl with g | g
    · exact d u hu g ho
    · rw [g, hc] at ho; cases ho⟩
theorem Bst.more {k : Cd} {A B D : Int} {out : Cu} (h : Bst k A B D out true) (hc : out.sum ≤ (⟨A, B, D, A + B - D⟩ : Cu).sum) : Bst k A B (D + 1) out true :=
  ⟨fun hf => (by cases hf), fun hf => by
    obtain ⟨a, b, c, d⟩ := h.yes hf
    refine ⟨a, b, lex_up c, fun u hu hl ho => ?_⟩
    rcases lex_step hu hl with g | g
    · exact d u hu g ho
    · subst g
      unfold Cu.bef
      unfold LexB at c
      dsimp only
      omega⟩
theorem Bst.take {k : Cd} {A B D : Int} {out : Cu} {f : Bool} (h : Bst k A B D out f) (ht : (⟨A, B, D, A + B - D⟩ : Cu).isT k.cuts = true) (ho : k.okT ⟨A, B, D, A + B - D⟩ = true) (hc : f = true → (⟨A, B, D, A + B - D⟩ : Cu).sum < out.sum) : Bst k A B (D + 1) ⟨A, B, D, A + B - D⟩ true :=
  ⟨fun hf => (by cases hf), fun _ => by
    refine ⟨ht, ho, by unfold LexB; dsimp only; omega, fun u hu hl hk => ?_⟩
    rcases lex_step hu hl with g | g
    · cases f with
      | false => rw [(h.no rfl).2 u hu g] at hk; cases hk
      | true =>
        obtain ⟨-, -, -, d⟩ := h.yes rfl
        have h1 := d u hu g hk
        have h2 := hc rfl
        unfold Cu.bef at *
        omega
    · subst g
      unfold Cu.bef
      dsimp only
      omega⟩
theorem Bst.last {k : Cd} {out : Cu} {f : Bool} (h : Bst k (k.cuts + 1) 0 0 out f) : (f = true ∧ k.trim = some out) ∨ (f = false ∧ out = ⟨0, 0, 0, 0⟩ ∧ k.trim = none) := by
  have hall : ∀ u : Cu, u.isT k.cuts = true → LexB (k.cuts + 1) 0 0 u := fun u hu => by have := isT_ends hu; unfold LexB; omega
  cases f with
  | false =>
    right
    refine ⟨rfl, (h.no rfl).1, ?_⟩
    cases ht : k.trim with
    | none => rfl
    | some t =>
      obtain ⟨h1, h2⟩ := trim_is ht
      rw [(h.no rfl).2 t h1 (hall t h1)] at h2
      cases h2
  | true =>
    left
    refine ⟨rfl, ?_⟩
    obtain ⟨a, b, -, d⟩ := h.yes rfl
    obtain ⟨t, ht⟩ := trim_some a b
    obtain ⟨h1, h2⟩ := trim_is ht
    have g1 := d t h1 (hall t h1) h2
    have g2 := trim_least ht a b
    have e1 := isT_ends a
    have e2 := isT_ends h1
    rw [ht]
    congr 1
    unfold Cu.bef Cu.sum at g1 g2
    obtain ⟨ta, tb, tc, td⟩ := t
    obtain ⟨oa, ob, oc, od⟩ := out
    simp only at *
    congr 1 <;> omega
theorem rsum_any (u : Cu) (w : World) (ha : 0 ≤ u.a ∧ u.a ≤ 1000) (hb : 0 ≤ u.b ∧ u.b ≤ 1000) (hc : 0 ≤ u.c ∧ u.c ≤ 1000) (hd : 0 ≤ u.d ∧ u.d ≤ 1000) :
    Calls Tryz.prog 34 #[.agg #[.int .i64 u.a, .int .i64 u.b, .int .i64 u.c, .int .i64 u.d]] w fun e w' => e = .returned (.int .i64 (u.a + u.b + u.c + u.d)) ∧ Below w.heap.size w w' := by
  go_enter Tryz.func34, Tryz.ntmps34
  go_wp2
  go_ret
  exact ⟨rfl, (Below.refl _ _).alloc (Nat.le_refl _) _⟩
theorem mtrim_is {k : Cd} {u : Cu} {e : Int} {w : World} (h : k.trimA = (u, e)) (hT : TsA k.p.l (.slice k.sp k.p.l.length k.cap) w) :
    Calls Tryz.prog 25 #[.agg k.cs.toArray] w fun e' w' => e' = .returned (.tuple #[.agg #[.int .i64 u.a, .int .i64 u.b, .int .i64 u.c, .int .i64 u.d], .int .i64 e]) ∧ Below w.heap.size w w' := by
  have := Trim_any k w hT
  rw [h] at this
  exact this
theorem mwhy_is {k : Cd} {x a b e : Int} {w : World} (h : k.whyA = (x, a, b, e)) (hT : TsA k.p.l (.slice k.sp k.p.l.length k.cap) w) :
    Calls Tryz.prog 27 #[.agg k.cs.toArray] w fun e' w' => e' = .returned (.tuple #[.int .i64 x, .int .i64 a, .int .i64 b, .int .i64 e]) ∧ Below w.heap.size w w' := by
  have := Why_any k w hT
  rw [h] at this
  exact this
end Go.Proofs.YtcngaohfemdfjaaGreat
