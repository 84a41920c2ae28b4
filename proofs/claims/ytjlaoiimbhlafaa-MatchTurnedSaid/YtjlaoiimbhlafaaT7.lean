import Derived.Test.YtjlaoiimbhlafaaT6
import Derived.Laws.StructEq
import Derived.ArgAppend
set_option linter.unusedVariables false
set_option linter.unusedSimpArgs false
namespace Go.Proofs.Ytjlaoiimbhlafaa
open Go.RowKit Go.Shelf

open MW
attribute [local go_sem] Oper.semAt_some run_store_func
attribute [local go_sem] guard55 guard24 neq55 eql24 neq24
attribute [-go_sem] run_eql_struct run_neq_struct
/-- A row of marks of its own, or none. -/
def Cp (l : List Mrk) (v : Value) (W : World) : Prop := ∃ p c, v = .slice p l.length c ∧ MksAt l p W ∧ ∀ b o, p = some ⟨b, o, none⟩ → b < W.heap.size
theorem Cp.grow {l : List Mrk} {v : Value} {W W' : World} (h : Cp l v W) (hg : Gr W W') : Cp l v W' := by
  obtain ⟨p, c, h1, h2, h3⟩ := h
  exact ⟨p, c, h1, h2.grow hg, fun b o e => Nat.lt_of_lt_of_le (h3 b o e) hg.size⟩
theorem app_marks (l : List Mrk) (p : Option Addr) (cap b : Nat) (W : World) (h : MksAt l p W) (hb : b < W.heap.size) (ty : TypeId) :
    ∃ v w', (Builtin.append_ #[22, 22] ty #[.slice (some ⟨b, 0, none⟩) 0 0, .slice p l.length cap]).run Try.prog W = .ok v w' ∧ Cp l v w' ∧ Gr W w' := by
  by_cases hl : l = []
  · subst hl
    have hap : ∀ (W : World), Sem.run Try.prog (pure #[] : Sem (Array Value)) W = .ok #[] W := fun _ => rfl
    have hst : ∀ (W : World) (A : Addr), Sem.run Try.prog (storeCells A []) W = .ok () W := fun _ _ => rfl
    refine ⟨.slice (some ⟨b, 0, none⟩) 0 0, W, ?_, ⟨some ⟨b, 0, none⟩, 0, rfl, ⟨by simp, fun i m hm => by simp at hm⟩, fun b' o e => by cases e; exact hb⟩, Gr.same W⟩
    obtain ⟨i0, ii0, iz0, iz1, iz2⟩ := infoP info65p
    have hu := run_underlying (P := Try.prog) (w := W) Try.underlying22
    rcases p with - | p
    · simp [Builtin.append_, hu, sizeOf, typeInfo, ii0, Builtin.lenOf, go_sem, hap, hst]
    · simp [Builtin.append_, hu, sizeOf, typeInfo, ii0, Builtin.lenOf, go_sem, hap, hst]
  · obtain ⟨m, hm⟩ : ∃ m, l[0]? = some m := ⟨_, List.getElem?_eq_getElem (Nat.pos_of_ne_zero fun e => hl (List.length_eq_zero_iff.1 e))⟩
    have hpos : 0 < l.length := Nat.pos_of_ne_zero fun e => hl (List.length_eq_zero_iff.1 e)
    obtain ⟨bx, ox, rfl⟩ := mk_at h hm
    have h1 := h.1
    obtain ⟨i0, ii0, iz0, iz1, iz2⟩ := infoP info65p
    obtain ⟨v', w', hr, ho, hg⟩ := run_append_arg_grows (P := Try.prog) W 22 ty 65 i0 _ 4 32 Try.underlying22 ii0 iz0 iz1 iz2 rfl (by decide) ⟨b, 0, none⟩ 0 0 [] rfl (fun j u hj => by simp at hj) ⟨bx, ox, none⟩ l.length cap (l.flatMap Mrk.cs) (mks_flat_len l) (mks_news h) (by omega) (by unfold maxLen; omega) (by omega)
    rw [Nat.zero_add, List.nil_append] at ho
    refine ⟨v', w', hr, ?_, ?_⟩
    · have ho' := ho
      obtain ⟨p', c, hv, hq⟩ := own_marks ho rfl h1
      refine ⟨p', c, hv, hq, fun b' o' e => ?_⟩
      obtain ⟨b2, o2, e2, h2, -⟩ := hq.2 0 m hm
      rw [e] at e2
      cases e2
      exact h2
    · exact ⟨hg.os, hg.tape, hg.output, hg.size, fun k hk => hg.block k hk (by simp)⟩

end Go.Proofs.Ytjlaoiimbhlafaa
