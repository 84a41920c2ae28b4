import Derived.Test.YtjlaoiimbhlafaaAG
import Derived.Test.YtjlaoiimbhlafaaA6
set_option linter.unusedVariables false
set_option linter.unusedSimpArgs false
namespace Go.Proofs.Ytjlaoiimbhlafaa
open Go.RowKit Go.Shelf

open MW
def sets : Nat → List Value → List Value → List Value
  | _, [], l => l
  | k, v :: r, l => sets (k + 1) r (l.set k v)
theorem sets_len : ∀ (r : List Value) (k : Nat) (l : List Value), (sets k r l).length = l.length
  | [], _, _ => rfl
  | v :: r, k, l => by rw [sets, sets_len r]; simp
theorem sets_get : ∀ (r : List Value) (k : Nat) (l : List Value) (i : Nat), (sets k r l)[i]? = if k ≤ i ∧ i < k + r.length ∧ i < l.length then r[i - k]? else l[i]?
  | [], k, l, i => by rw [sets, if_neg (by simp; omega)]
  | v :: r, k, l, i => by
    rw [sets, sets_get r (k + 1) (l.set k v) i]
    rw [List.length_set, List.length_cons]
    by_cases h : k + 1 ≤ i ∧ i < k + 1 + r.length ∧ i < l.length
    · rw [if_pos h, if_pos (by omega), show i - k = (i - (k + 1)) + 1 by omega, List.getElem?_cons_succ]
    · rw [if_neg h]
      by_cases hi : i = k
      · subst hi
        by_cases hl : i < l.length
        · rw [if_pos (by omega), List.getElem?_set_self hl, Nat.sub_self]; rfl
        · rw [if_neg (by omega), List.getElem?_eq_none (by simp; omega), List.getElem?_eq_none (by omega)]
      · rw [List.getElem?_set_ne (fun e => hi e.symm), if_neg (by omega)]
theorem sets_sets (r : List Value) (k : Nat) (l : List Value) : sets k r (sets k r l) = sets k r l := by
  apply List.ext_getElem?
  intro i
  rw [sets_get, sets_get, sets_len]
  split <;> rfl
theorem sets_same {r : List Value} {k : Nat} {l : List Value} (h : ∀ j, j < r.length → k + j < l.length → l[k + j]? = r[j]?) : sets k r l = l := by
  apply List.ext_getElem?
  intro i
  rw [sets_get]
  split
  · next hi =>
    have := h (i - k) (by omega) (by omega)
    rw [show k + (i - k) = i by omega] at this
    exact this.symm
  · rfl
theorem sets_take {r : List Value} {k n : Nat} {l : List Value} (h : n ≤ k) : (sets k r l).take n = l.take n := by
  apply List.ext_getElem?
  intro i
  rw [List.getElem?_take, List.getElem?_take]
  split
  · rw [sets_get, if_neg (by omega)]
  · rfl
theorem Box.puts {b : Nat} {T : TypeId} : ∀ (r : List Value) (k : Nat) {w : World} {vs : List Value}, Box w b vs T → Box (w.setCells b k r) b (sets k r vs) T
  | [], _, _, _, h => h
  | v :: r, k, w, vs, h => by rw [World.setCells, sets]; exact Box.puts r (k + 1) (h.put k v)
theorem setCells_far {b : Nat} : ∀ (r : List Value) (k : Nat) (w : World), (w.setCells b k r).os = w.os ∧ (w.setCells b k r).tape = w.tape ∧ (w.setCells b k r).output = w.output ∧ (w.setCells b k r).heap.size = w.heap.size ∧ ∀ q, q ≠ b → (w.setCells b k r).heap[q]? = w.heap[q]?
  | [], _, _ => ⟨rfl, rfl, rfl, rfl, fun _ _ => rfl⟩
  | v :: r, k, w => by
    rw [World.setCells]
    obtain ⟨h1, h2, h3, h4, h5⟩ := setCells_far r (k + 1) (w.setCell ⟨b, k, none⟩ v)
    refine ⟨h1, h2, h3, by rw [h4]; simp, fun q hq => (h5 q hq).trans ?_⟩
    exact Below.heap_setCell _ _ _ _ (by simpa using hq)
/-- Nothing turns but the blocks of two rows, into which one element each is laid. -/
def rowRel (vl vr : Value) (k m : Nat) (X Y : List Value) (T : TypeId) : Rel where
  r W W' := (W'.os = W.os ∧ W'.tape = W.tape ∧ W'.output = W.output) ∧ W.heap.size ≤ W'.heap.size ∧ (∀ q, q < W.heap.size → some q ≠ vl.ownBlock → some q ≠ vr.ownBlock → W'.heap[q]? = W.heap[q]?) ∧ (∀ q vs, some q = vl.ownBlock → Box W q vs T → Box W' q vs T ∨ Box W' q (sets k X vs) T) ∧ (∀ q vs, some q = vr.ownBlock → Box W q vs T → Box W' q vs T ∨ Box W' q (sets m Y vs) T)
  same w := ⟨⟨rfl, rfl, rfl⟩, Nat.le_refl _, fun _ _ _ _ => rfl, fun _ _ _ h => .inl h, fun _ _ _ h => .inl h⟩
  tr a b c := by
    rintro ⟨⟨a1, a2, a3⟩, a4, a5, a6, a7⟩ ⟨⟨b1, b2, b3⟩, b4, b5, b6, b7⟩
    refine ⟨⟨b1.trans a1, b2.trans a2, b3.trans a3⟩, Nat.le_trans a4 b4, fun q hq h1 h2 => (b5 q (by omega) h1 h2).trans (a5 q hq h1 h2), fun q vs hq h => ?_, fun q vs hq h => ?_⟩
    · rcases a6 q vs hq h with h | h
      · exact b6 q vs hq h
      · rcases b6 q _ hq h with h | h
        · exact .inr h
        · rw [sets_sets] at h; exact .inr h
    · rcases a7 q vs hq h with h | h
      · exact b7 q vs hq h
      · rcases b7 q _ hq h with h | h
        · exact .inr h
        · rw [sets_sets] at h; exact .inr h
  of a b h := ⟨⟨h.os, h.tape, h.output⟩, h.size, fun q hq _ _ => h.block q hq, fun _ _ _ hb => .inl (hb.grow h), fun _ _ _ hb => .inl (hb.grow h)⟩
  size _ _ h := h.2.1
section
variable {vl vr : Value} {k m : Nat} {X Y : List Value} {T : TypeId} {W W' : World}
theorem rr_swap (h : (rowRel vl vr k m X Y T).r W W') : (rowRel vr vl m k Y X T).r W W' := ⟨h.1, h.2.1, fun q hq h1 h2 => h.2.2.1 q hq h2 h1, h.2.2.2.2, h.2.2.2.1⟩
theorem rr_box (h : (rowRel vl vr k m X Y T).r W W') {b : Nat} {vs : List Value} {U : TypeId} (hb : Box W b vs U) (h1 : some b ≠ vl.ownBlock) (h2 : some b ≠ vr.ownBlock) : Box W' b vs U := by
  have := h.2.2.1 b hb.lt h1 h2
  unfold Box at *
  rw [this]; exact hb
/-- the row as it was is still there -/
theorem rr_own (h : (rowRel vl vr k m X Y T).r W W') {base size n : Nat} {xs : List Value} (ho : W.ownsRow base T size vl n xs) (hk : n * size ≤ k) : W'.ownsRow base T size vl n xs := by
  obtain ⟨h0, h1⟩ := ho
  refine ⟨h0, ?_⟩
  rcases h1 with h1 | ⟨g, cap, cur, hv, hb, hg, hc1, hc2, hc3, hc4⟩
  · exact .inl h1
  · right
    have hbx : Box W g cur.toList T := by unfold Box; simpa using hg
    rcases h.2.2.2.1 g _ (by rw [hv]; rfl) hbx with h2 | h2
    · exact ⟨g, cap, cur, hv, hb, by unfold Box at h2; simpa using h2, hc1, hc2, hc3, hc4⟩
    · refine ⟨g, cap, (sets k X cur.toList).toArray, hv, hb, h2, hc1, hc2, ?_, ?_⟩
      · simp [sets_len, hc3]
      · show (sets k X cur.toList).take (n * size) = xs
        rw [sets_take hk, hc4]
/-- a row that has got its element, in its old place or in a new one -/
theorem rr_own2 (h : (rowRel vl vr k m X Y T).r W W') {base size n g c : Nat} {xs : List Value} (ho : W.ownsRow base T size (.slice (some ⟨g, 0, none⟩) n c) n (xs ++ X)) (hk : xs.length = k) (hg : some g = vl.ownBlock ∨ (some g ≠ vl.ownBlock ∧ some g ≠ vr.ownBlock)) : W'.ownsRow base T size (.slice (some ⟨g, 0, none⟩) n c) n (xs ++ X) := by
  obtain ⟨h0, h1⟩ := ho
  refine ⟨h0, ?_⟩
  rcases h1 with h1 | ⟨g', cap, cur, hv, hb, hgg, hc1, hc2, hc3, hc4⟩
  · exact .inl h1
  · right
    obtain ⟨rfl, rfl⟩ : g = g' ∧ c = cap := by simpa using hv
    have hbx : Box W g cur.toList T := by unfold Box; simpa using hgg
    have key : Box W' g cur.toList T := by
      rcases hg with hg | ⟨hg1, hg2⟩
      · rcases h.2.2.2.1 g _ hg hbx with h2 | h2
        · exact h2
        · have e : sets k X cur.toList = cur.toList := sets_same fun j hj hjl => by
            have hl : (cur.toList.take (n * size))[k + j]? = X[j]? := by rw [hc4, List.getElem?_append_right (by omega), hk]; simp
            rw [List.getElem?_take_of_lt (by
              have : (xs ++ X).length = n * size := h0
              rw [List.length_append] at this
              omega)] at hl
            exact hl
          rwa [e] at h2
      · exact rr_box h hbx hg1 hg2
    exact ⟨g, c, cur, rfl, hb, by unfold Box at key; simpa using key, hc1, hc2, hc3, hc4⟩
end
theorem info65b : (Try.prog.info? 65).map (fun i => (i.zero, i.size, i.bytes)) = some (some (.agg #[.int .i64 0, .int .i64 0, .int .i64 0, .int .i64 0]), 4, 32) := by kernel_rfl
/-- append of a mark to one's own row: exactly what turns -/
theorem rr_app {vl vr : Value} {m N1 n bn : Nat} {XL Y : List Value} {a b c d : Int} {W : World} (ho : W.ownsRow N1 65 4 vl n XL) (hn : n ≤ 1000) (hN : N1 ≤ W.heap.size) (hb : Box W bn [.int .i64 a, .int .i64 b, .int .i64 c, .int .i64 d] 65) (dj : ∀ q, some q = vl.ownBlock → some q ≠ vr.ownBlock) (ty : TypeId) :
    ∃ g cp w', (Builtin.append_ #[22, 22] ty #[vl, .slice (some ⟨bn, 0, none⟩) 1 1]).run Try.prog W = .ok (.slice (some ⟨g, 0, none⟩) (n + 1) cp) w' ∧ w'.ownsRow N1 65 4 (.slice (some ⟨g, 0, none⟩) (n + 1) cp) (n + 1) (XL ++ [.int .i64 a, .int .i64 b, .int .i64 c, .int .i64 d]) ∧ (some g = vl.ownBlock ∨ g = W.heap.size) ∧ g < w'.heap.size ∧
      (rowRel vl vr (n * 4) m [.int .i64 a, .int .i64 b, .int .i64 c, .int .i64 d] Y 65).r W w' := by
  obtain ⟨i0, ii0, iz0, iz1, iz2⟩ := infoP info65b
  have hnews := box_news hb
  have h1c := one4 a b c d
  obtain ⟨g, cp, w', hr, hown, hgrow, hat, hlt⟩ := run_append_lies (P := Try.prog) W 22 ty N1 65 i0 _ 4 32 Try.underlying22 ii0 iz0 iz1 iz2 rfl (by decide) vl n XL ho ⟨bn, 0, none⟩ 1 1 _ rfl hnews h1c (by omega) (by unfold maxLen; omega) (by omega) hN _ rfl
  refine ⟨g, cp, w', hr, hown, hat.imp (fun e => e.symm) id, hlt, ?_⟩
  have gr : w'.heap.size = w'.heap.size → W.grownBy w' none → (rowRel vl vr (n * 4) m [.int .i64 a, .int .i64 b, .int .i64 c, .int .i64 d] Y 65).r W w' := fun _ h => (rowRel vl vr (n * 4) m _ Y 65).of _ _ ⟨h.os, h.tape, h.output, h.size, fun q hq => h.block q hq (by simp)⟩
  rcases ho.2 with ⟨hv, -⟩ | ⟨g0, cap, cur, hv, hb0, hg0, hc1, hc2, hc3, hc4⟩
  · subst hv
    exact gr rfl hgrow
  · subst hv
    have hbx : Box W g0 cur.toList 65 := by unfold Box; simpa using hg0
    have hcl : cur.toList.length = cap * 4 := by simpa using hc3
    by_cases hroom : n + 1 ≤ cap
    · have hr2 := run_append_room_cells (P := Try.prog) W 22 ty 65 i0 Try.underlying22 ii0 g0 0 n cap ⟨bn, 0, none⟩ 1 1 [.int .i64 a, .int .i64 b, .int .i64 c, .int .i64 d] (by rw [iz1]; rfl) hnews h1c hroom (fun j hj => by
          have hj' : j < 4 := hj
          rw [iz1, Nat.zero_add]
          have := hbx.cell (i := n * 4 + j) (List.getElem?_eq_getElem (by omega))
          rw [this]; rfl) (fun j hj => hbx.free _)
      rw [hr] at hr2
      have hw : w' = W.setCells g0 (0 + n * i0.size) [.int .i64 a, .int .i64 b, .int .i64 c, .int .i64 d] := by
        have := hr2
        simp only [Result.ok.injEq] at this
        exact this.2
      rw [iz1, Nat.zero_add] at hw
      subst hw
      obtain ⟨s1, s2, s3, s4, s5⟩ := setCells_far (b := g0) [.int .i64 a, .int .i64 b, .int .i64 c, .int .i64 d] (n * 4) W
      refine ⟨⟨s1, s2, s3⟩, by omega, fun q hq h1 h2 => s5 q (fun e => h1 (by rw [e]; rfl)), fun q vs hq h => ?_, fun q vs hq h => ?_⟩
      · have : q = g0 := by simpa [Value.ownBlock] using hq
        subst this
        exact .inr (h.puts _ _)
      · left
        have : q ≠ g0 := fun e => dj g0 rfl (by rw [← e]; exact hq)
        have h5 := s5 q this
        unfold Box at *
        rw [h5]; exact h
    · obtain ⟨v2, w2, hr2, -, hg2⟩ := run_append_arg_grows (P := Try.prog) W 22 ty 65 i0 _ 4 32 Try.underlying22 ii0 iz0 iz1 iz2 rfl (by decide) ⟨g0, 0, none⟩ n cap XL ho.1 (fun j u hj => by
          have hadd : (⟨g0, 0, none⟩ : Addr).add j = ⟨g0, j, none⟩ := by unfold Addr.add; split <;> simp_all
          rw [hadd]
          have hjl := (List.getElem?_eq_some_iff.1 hj).1
          have hx := ho.1
          refine hbx.cell ?_
          rw [← hc4, List.getElem?_take_of_lt (by omega)] at hj
          exact hj) ⟨bn, 0, none⟩ 1 1 [.int .i64 a, .int .i64 b, .int .i64 c, .int .i64 d] rfl hnews (by omega) (by unfold maxLen; omega) (by omega)
      rw [hr] at hr2
      have hw : w' = w2 := by
        simp only [Result.ok.injEq] at hr2
        exact hr2.2
      subst hw
      exact gr rfl hg2

end Go.Proofs.Ytjlaoiimbhlafaa
