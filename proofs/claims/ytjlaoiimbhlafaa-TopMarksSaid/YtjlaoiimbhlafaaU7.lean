import Derived.Test.YtjlaoiimbhlafaaU6
import Derived.Test.YtjlaoiimbhlafaaK1
import Derived.ArgAppend
import Derived.Deep.AppendLies
set_option linter.unusedVariables false
set_option linter.unusedSimpArgs false
namespace Go.Proofs.Ytjlaoiimbhlafaa
open Go.RowKit Go.Shelf

open MW
attribute [local go_sem] Oper.semAt_some run_store_func
attribute [local go_sem ↓] Go.wp_at_zero Go.wp_at_succ
attribute [local go_sem] guard55 guard24 neq55 eql24 neq24
attribute [-go_sem] run_eql_struct run_neq_struct
theorem uown_marks {W : World} {base n : Nat} {v : Value} {l : List Mrk} (h : W.ownsRow base 65 4 v n (l.flatMap Mrk.cs)) (hn : n = l.length) (hl : l.length ≤ 1000) : ∃ p c, v = .slice p l.length c ∧ MksAt l p W := by
  obtain ⟨-, h1⟩ := h
  rcases h1 with ⟨rfl, h0⟩ | ⟨g, cap, cur, rfl, -, hcur, -, -, -, hct⟩
  · have hl0 : l = [] := List.length_eq_zero_iff.1 (by omega)
    subst hl0
    exact ⟨none, 0, rfl, by simp, fun i m hm => by cases hm⟩
  · refine ⟨some ⟨g, 0, none⟩, cap, by rw [hn], ?_⟩
    exact MkBox.at ⟨cur.toList, by unfold Box; simpa using hcur, by rw [← hn]; exact hct⟩ hl
/-- append of a row of marks to one of one's own, or to an empty one -/
theorem app_mw2 (l m : List Mrk) (v : Value) (p : Option Addr) (cap n0 : Nat) (W : World) (h : Mw l v n0 W) (hn : n0 ≤ W.heap.size) (hm : MksAt m p W) (hl : l.length ≤ 100) (hml : m.length ≤ 100) (ty : TypeId) :
    ∃ q c w', (Builtin.append_ #[22, 22] ty #[v, .slice p m.length cap]).run Try.prog W = .ok (.slice q (l ++ m).length c) w' ∧ MksAt (l ++ m) q w' ∧ Below n0 W w' := by
  obtain ⟨i0, ii0, iz0, iz1, iz2⟩ := infoP info65p
  by_cases hm0 : m = []
  · subst hm0
    have hap : ∀ (W : World), Sem.run Try.prog (pure #[] : Sem (Array Value)) W = .ok #[] W := fun _ => rfl
    have hst : ∀ (W : World) (A : Addr), Sem.run Try.prog (storeCells A []) W = .ok () W := fun _ _ => rfl
    have hu := run_underlying (P := Try.prog) (w := W) Try.underlying22
    rw [List.append_nil]
    rcases h with h | ⟨rfl, g, rfl, hg⟩
    · obtain ⟨q, c, rfl, hq⟩ := uown_marks h rfl (by omega)
      have hcap : l.length ≤ c := by
        rcases h.2 with ⟨hv, h0⟩ | ⟨g, cp, cur, hv, -, -, h2, -⟩
        · omega
        · obtain ⟨-, rfl⟩ : q = some ⟨g, 0, none⟩ ∧ c = cp := by simpa using hv
          exact h2
      refine ⟨q, c, W, ?_, hq, Below.refl _ _⟩
      rcases q with - | q
      · rcases p with - | p <;> simp [Builtin.append_, hu, sizeOf, typeInfo, ii0, Builtin.lenOf, go_sem, hap, hst, hcap]
      · rcases p with - | p <;> simp [Builtin.append_, hu, sizeOf, typeInfo, ii0, Builtin.lenOf, go_sem, hap, hst, hcap]
    · refine ⟨some ⟨g, 0, none⟩, 0, W, ?_, ⟨by simp, fun i m hm => by cases hm⟩, Below.refl _ _⟩
      rcases p with - | p <;> simp [Builtin.append_, hu, sizeOf, typeInfo, ii0, Builtin.lenOf, go_sem, hap, hst]
  · have hpos : 0 < m.length := Nat.pos_of_ne_zero fun e => hm0 (List.length_eq_zero_iff.1 e)
    obtain ⟨x, hx⟩ : ∃ x, m[0]? = some x := ⟨_, List.getElem?_eq_getElem hpos⟩
    obtain ⟨bx, ox, rfl⟩ := mk_at hm hx
    rcases h with h | ⟨rfl, g, rfl, hg⟩
    · obtain ⟨g', cp, w', hr, ho, hgr, -, -⟩ := run_append_lies (P := Try.prog) W 22 ty n0 65 i0 _ 4 32 Try.underlying22 ii0 iz0 iz1 iz2 rfl (by decide) v l.length (l.flatMap Mrk.cs) h ⟨bx, ox, none⟩ m.length cap (m.flatMap Mrk.cs) (mks_flat_len m) (mks_news hm) (mks_one m) hpos (by unfold maxLen; omega) (by omega) hn _ rfl
      have e : l.length + m.length = (l ++ m).length := by simp
      have ho' : w'.ownsRow n0 65 4 (.slice (some ⟨g', 0, none⟩) (l.length + m.length) cp) (l.length + m.length) ((l ++ m).flatMap Mrk.cs) := by rw [List.flatMap_append]; exact ho
      obtain ⟨q, c, hv, hq⟩ := uown_marks ho' e (by rw [← e]; omega)
      refine ⟨q, c, w', by rw [hr, hv], hq, (Below.refl n0 W).grown hgr hn (fun q e => (own_blk h e.symm).1)⟩
    · obtain ⟨v', w', hr, hmw, hg2⟩ := app_mw m (some ⟨bx, ox, none⟩) cap g W hm hg ty
      rcases hmw with hmw | ⟨h0, -⟩
      · obtain ⟨q, c, rfl, hq⟩ := uown_marks hmw rfl (by omega)
        exact ⟨q, c, w', hr, hq, Below.mono hg2 hn⟩
      · exact absurd h0 hm0
theorem wpList_append_mw2 {ops : Array Oper} {rest : List Oper} {o : Oper} {a : Act} {Q : Exit → Act → World → Prop} (hgd : o.guard = none) (s x : Operand) (hop : o.op = Op.call { callee := Callee.builtin Builtin.append, args := #[s, x], argTypes := #[22, 22] })
    (l m : List Mrk) (v : Value) (p : Option Addr) (cap n0 : Nat) (W : World) (hs : a.eval s = v) (hx : a.eval x = .slice p m.length cap) (h : Mw l v n0 W) (hn : n0 ≤ W.heap.size) (hm : MksAt m p W) (hl : l.length ≤ 100) (hml : m.length ≤ 100)
    (hK : ∀ q c w', MksAt (l ++ m) q w' → Below n0 W w' → wpList Try.prog ops Q rest (a.put o.dst (.slice q (l ++ m).length c)) w') : wpList Try.prog ops Q (o :: rest) a W := by
  refine wpList_plain hgd fun K hKK => ?_
  obtain ⟨q, c, w', hr, h1, h2⟩ := app_mw2 l m v p cap n0 W h hn hm hl hml o.type
  unfold Oper.wp execOp
  simp only [hop, resolve, invoke, builtin, Sem.run_bind, Sem.run_pure, Result.andThen_ok, List.map_toArray, List.map_cons, List.map_nil, hs, hx, hr]
  exact hKK _ _ (hK q c w' h1 h2)

end Go.Proofs.Ytjlaoiimbhlafaa
