import Derived.Test.YtjlaoiimbhlafaaJ2
import Derived.Test.YtjlaoiimbhlafaaJ3
import Derived.ArgAppend
import Derived.Deep.AppendLies
set_option linter.unusedVariables false
set_option linter.unusedSimpArgs false
namespace Go.Proofs.Ytjlaoiimbhlafaa
open Go.RowKit Go.Shelf

open MW
attribute [local go_sem] Oper.semAt_some run_store_func
attribute [local go_sem ↓] Go.wp_at_zero Go.wp_at_succ
theorem pv_len (l : List (Nat × Nat)) : (l.flatMap pv).length = l.length * 2 := by
  induction l with
  | nil => rfl
  | cons m l ih => rw [List.flatMap_cons, List.length_append, ih, List.length_cons]; show 2 + _ = _; omega
theorem pv_one (l : List (Nat × Nat)) : ∀ u ∈ l.flatMap pv, u.oneCell' = true := by
  intro u hu
  obtain ⟨x, -, hx⟩ := List.mem_flatMap.1 hu
  unfold pv at hx
  simp only [List.mem_cons, List.not_mem_nil, or_false] at hx
  rcases hx with rfl | rfl <;> rfl
theorem Pz.news {p : Option Addr} {c : Nat} {b : List (Nat × Nat)} {W : World} (h : Pz (.slice p b.length c) b W) (hb : b ≠ []) : ∃ g, p = some ⟨g, 0, none⟩ ∧ ∀ j u, (b.flatMap pv)[j]? = some u → W.cell? ((⟨g, 0, none⟩ : Addr).add j) = some u := by
  obtain ⟨base, hl, h1⟩ := h
  rcases h1 with ⟨hv, h0⟩ | ⟨g, cap, cur, hv, hge, hcur, hrest⟩
  · exact absurd (List.length_eq_zero_iff.1 (by omega)) hb
  · obtain ⟨rfl, -⟩ : p = some ⟨g, 0, none⟩ ∧ c = cap := by simpa using hv
    exact ⟨g, rfl, (World.ownsRow.cells (w := W) ⟨hl, .inr ⟨g, cap, cur, hv, hge, hcur, hrest⟩⟩ rfl)⟩
/-- append of a way to an empty row. -/
theorem app_prs (b : List (Nat × Nat)) (v : Value) (g : Nat) (W : World) (h : Pz v b W) (hb : b.length ≤ 1000) (ty : TypeId) :
    ∃ v' w', (Builtin.append_ #[34, 34] ty #[.slice (some ⟨g, 0, none⟩) 0 0, v]).run Try.prog W = .ok v' w' ∧ (w'.ownsRow W.heap.size 55 2 v' b.length (b.flatMap pv) ∨ b = [] ∧ v' = .slice (some ⟨g, 0, none⟩) 0 0) ∧ Gr W w' := by
  obtain ⟨p, c, rfl⟩ := own_slice h.choose_spec
  obtain ⟨i0, ii0, iz0, iz1, iz2⟩ := infoP info55w
  by_cases hl : b = []
  · subst hl
    have hap : ∀ (W : World), Sem.run Try.prog (pure #[] : Sem (Array Value)) W = .ok #[] W := fun _ => rfl
    have hst : ∀ (W : World) (A : Addr), Sem.run Try.prog (storeCells A []) W = .ok () W := fun _ _ => rfl
    refine ⟨.slice (some ⟨g, 0, none⟩) 0 0, W, ?_, .inr ⟨rfl, rfl⟩, Gr.same W⟩
    have hu := run_underlying (P := Try.prog) (w := W) Try.underlying34
    rcases p with - | p
    · simp [Builtin.append_, hu, sizeOf, typeInfo, ii0, Builtin.lenOf, go_sem, hap, hst]
    · simp [Builtin.append_, hu, sizeOf, typeInfo, ii0, Builtin.lenOf, go_sem, hap, hst]
  · obtain ⟨gb, rfl, hc⟩ := h.news hl
    have hpos : 0 < b.length := Nat.pos_of_ne_zero fun e => hl (List.length_eq_zero_iff.1 e)
    obtain ⟨v', w', hr, ho, hg⟩ := run_append_arg_grows (P := Try.prog) W 34 ty 55 i0 _ 2 16 Try.underlying34 ii0 iz0 iz1 iz2 rfl (by decide) ⟨g, 0, none⟩ 0 0 [] rfl (fun j u hj => by simp at hj) ⟨gb, 0, none⟩ b.length c (b.flatMap pv) (pv_len b) hc (by omega) (by unfold maxLen; omega) (by omega)
    rw [Nat.zero_add, List.nil_append] at ho
    exact ⟨v', w', hr, .inl ho, ⟨hg.os, hg.tape, hg.output, hg.size, fun k hk => hg.block k hk (by simp)⟩⟩
/-- append of one pair to one's own row, or to an empty one. -/
theorem app_pair (b : List (Nat × Nat)) (v : Value) (g h n0 i k : Nat) (W : World) (hv : W.ownsRow n0 55 2 v b.length (b.flatMap pv) ∨ b = [] ∧ v = .slice (some ⟨g, 0, none⟩) 0 0) (hx : Box W h [.int .i64 i, .int .i64 k] 55) (hn : n0 ≤ W.heap.size) (hb : b.length ≤ 1000) (ty : TypeId) :
    ∃ v' w', (Builtin.append_ #[34, 34] ty #[v, .slice (some ⟨h, 0, none⟩) 1 1]).run Try.prog W = .ok v' w' ∧ w'.ownsRow n0 55 2 v' (b ++ [(i, k)]).length ((b ++ [(i, k)]).flatMap pv) ∧ Below n0 W w' := by
  obtain ⟨i0, ii0, iz0, iz1, iz2⟩ := infoP info55w
  have hnews : ∀ j u, [Value.int .i64 i, Value.int .i64 k][j]? = some u → W.cell? ((⟨h, 0, none⟩ : Addr).add j) = some u := fun j u hu => by rw [addz]; exact hx.cell hu
  have h1c : ∀ u ∈ [Value.int .i64 i, Value.int .i64 k], u.oneCell' = true := by
    intro u hu
    simp only [List.mem_cons, List.not_mem_nil, or_false] at hu
    rcases hu with rfl | rfl <;> rfl
  rcases hv with hv | ⟨rfl, rfl⟩
  · obtain ⟨g', cap, w', hr, ho, hg, -, -⟩ := run_append_lies (P := Try.prog) W 34 ty n0 55 i0 _ 2 16 Try.underlying34 ii0 iz0 iz1 iz2 rfl (by decide) v b.length (b.flatMap pv) hv ⟨h, 0, none⟩ 1 1 [.int .i64 i, .int .i64 k] rfl hnews h1c (by omega) (by unfold maxLen; omega) (by omega) hn _ rfl
    exact ⟨_, w', hr, by simpa [pv] using ho, (Below.refl n0 W).grown hg hn (fun q e => (own_blk hv e.symm).1)⟩
  · obtain ⟨v', w', hr, ho, hg⟩ := run_append_arg_grows (P := Try.prog) W 34 ty 55 i0 _ 2 16 Try.underlying34 ii0 iz0 iz1 iz2 rfl (by decide) ⟨g, 0, none⟩ 0 0 [] rfl (fun j u hj => by simp at hj) ⟨h, 0, none⟩ 1 1 [.int .i64 i, .int .i64 k] rfl hnews (by omega) (by unfold maxLen; omega) (by omega)
    refine ⟨v', w', hr, ?_, ⟨hg.os, hg.tape, hg.output, hg.size, fun k hk => hg.block k (by omega) (by simp)⟩⟩
    exact own_base (by simpa [pv] using ho) hn

end Go.Proofs.Ytjlaoiimbhlafaa
