import Derived.Test.YtofdoadpaedogaaL0
import Derived.Deep.AppendLies
namespace Go.Proofs.Ytofdoadpaedogaa
open Go.RowKit

theorem Try.info47 : (Try.prog.info? 47).map (fun i => (i.zero, i.size, i.bytes)) = some (some (.agg #[.int .i64 0, .int .i64 0, .int .i64 0, .int .i64 0, .int .i64 0, .int .i64 0, .int .i64 0, .int .i64 0, .int .i64 0]), 9, 72) := by kernel_rfl
theorem Th.one (t : Th) : ∀ u ∈ t.vals, u.oneCell' = true := by
  intro u hu
  simp [Th.vals] at hu
  rcases hu with rfl | rfl | rfl | rfl | rfl | rfl | rfl | rfl | rfl <;> rfl
theorem Th.vals_len (t : Th) : t.vals.length = 9 := rfl
/-- A block whose first cells are a list's things reads as the list. -/
theorem ThingsAt.boxp {l : List Th} {w : World} {b : Nat} {T : TypeId} {vs : List Value} {cap : Nat} (h : Box w b vs T) (hl : l.length ≤ 1000) (hv : ∀ i t j x, l[i]? = some t → t.vals[j]? = some x → vs[i * 9 + j]? = some x) : ThingsAt l (.slice (some ⟨b, 0, none⟩) l.length cap) w := by
  refine ⟨hl, .inr ⟨b, 0, cap, rfl, h.lt, fun i t hi => CellsFrom.mk fun j x hx => ?_⟩⟩
  rw [Nat.zero_add]
  exact h.cell (hv i t j x hi hx)
theorem flat_take {l : List Th} {vs : List Value} (h : vs.take (l.length * 9) = l.flatMap Th.vals) {i j : Nat} {t : Th} {x : Value} (hi : l[i]? = some t) (hx : t.vals[j]? = some x) : vs[i * 9 + j]? = some x := by
  have hj : j < 9 := by have := (List.getElem?_eq_some_iff.1 hx).1; simpa [Th.vals] using this
  have hil := (List.getElem?_eq_some_iff.1 hi).1
  have h1 := flat_at Th.vals 9 (fun _ => rfl) l i j t hi hj
  rw [← h] at h1
  rw [List.getElem?_take_of_lt (by omega)] at h1
  rw [h1]; exact hx
theorem Th.at_vals {t : Th} {z : Int} {j : Nat} (hj : j < 8) : (t.at z).vals[j]? = t.vals[j]? :=
  match j, hj with
  | 0, _ => rfl
  | 1, _ => rfl
  | 2, _ => rfl
  | 3, _ => rfl
  | 4, _ => rfl
  | 5, _ => rfl
  | 6, _ => rfl
  | 7, _ => rfl
theorem th_flat_len (l : List Th) : (l.flatMap Th.vals).length = l.length * 9 := by
  induction l with
  | nil => rfl
  | cons t l ih => rw [List.flatMap_cons, List.length_append, ih, Th.vals_len, List.length_cons]; omega
theorem news_things {w : World} {b o : Nat} {l : List Th} (hc : ∀ i t, l[i]? = some t → CellsFrom w b (o + i * 9) t.vals) : ∀ j u, (l.flatMap Th.vals)[j]? = some u → w.cell? ((⟨b, o, none⟩ : Addr).add j) = some u := by
  intro j u hu
  have hlen := th_flat_len l
  have hj : j < l.length * 9 := by have := (List.getElem?_eq_some_iff.1 hu).1; omega
  have hi : j / 9 < l.length := by omega
  have hm : j % 9 < 9 := by omega
  have hlt : l[j / 9]? = some l[j / 9] := List.getElem?_eq_getElem hi
  have h1 := flat_at Th.vals 9 (fun _ => rfl) l (j / 9) (j % 9) _ hlt hm
  rw [show j / 9 * 9 + j % 9 = j by omega] at h1
  rw [hu] at h1
  have key : ∀ (xs : List Value) (k : Nat), CellsFrom w b k xs → ∀ m x, xs[m]? = some x → w.cell? ⟨b, k + m, none⟩ = some x := by
    intro xs
    induction xs with
    | nil => intro _ _ m x h; cases h
    | cons y xs ih =>
      intro k h m x hx
      cases m with
      | zero => simp at hx; subst hx; exact h.1
      | succ m => have := ih (k + 1) h.2 m x (by simpa using hx); rwa [show k + (m + 1) = k + 1 + m by omega]
  have h2 := key _ _ (hc _ _ hlt) (j % 9) u h1.symm
  have : (⟨b, o, none⟩ : Addr).add j = ⟨b, o + j, none⟩ := by unfold Addr.add; split <;> simp_all
  rw [this, ← h2]
  congr 2
  omega
set_option maxRecDepth 100000 in
set_option maxHeartbeats 4000000 in
theorem marked_any (fl fh bl bh ti ne fa z : Int) (l : List Th) (b o len cap n : Nat) (t : Th) (w : World) (hlen : len = l.length) (h12 : len ≤ 1000) (hb : b < w.heap.size) (hc : ∀ i t, l[i]? = some t → CellsFrom w b (o + i * 9) t.vals) (ht : l[n]? = some t) :
    Calls Try.prog 34 #[.agg #[.int .i64 fl, .int .i64 fh, .int .i64 bl, .int .i64 bh, .int .i64 ti, .int .i64 ne, .int .i64 fa, .slice (some ⟨b, o, none⟩) len cap], .int .i64 n, .int .i64 z] w fun e w' => (∃ nv, e = .returned (.agg #[.int .i64 fl, .int .i64 fh, .int .i64 bl, .int .i64 bh, .int .i64 ti, .int .i64 ne, .int .i64 fa, nv]) ∧ ThingsAt (l.set n (t.at z)) nv w') ∧ Below w.heap.size w w' := by
  have hn : n < len := by rw [hlen]; exact (List.getElem?_eq_some_iff.1 ht).1
  have hg4 : Gr w ((((w.alloc (.cells #[.int .i64 fl, .int .i64 fh, .int .i64 bl, .int .i64 bh, .int .i64 ti, .int .i64 ne, .int .i64 fa, .slice (some ⟨b, o, none⟩) len cap] 26)).alloc (.cells #[.int .i64 0, .int .i64 0, .int .i64 0, .int .i64 0, .int .i64 0, .int .i64 0, .int .i64 0, .slice none 0 0] 26)).alloc (.cells #[.int .i64 fl, .int .i64 fh, .int .i64 bl, .int .i64 bh, .int .i64 ti, .int .i64 ne, .int .i64 fa, .slice (some ⟨b, o, none⟩) len cap] 26)).alloc (.cells #[] 47)) := (((Gr.alloc _ _).tr (Gr.alloc _ _)).tr (Gr.alloc _ _)).tr (Gr.alloc _ _)
  have HN := Lib.hid (news_things (w := ((((w.alloc (.cells #[.int .i64 fl, .int .i64 fh, .int .i64 bl, .int .i64 bh, .int .i64 ti, .int .i64 ne, .int .i64 fa, .slice (some ⟨b, o, none⟩) len cap] 26)).alloc (.cells #[.int .i64 0, .int .i64 0, .int .i64 0, .int .i64 0, .int .i64 0, .int .i64 0, .int .i64 0, .slice none 0 0] 26)).alloc (.cells #[.int .i64 fl, .int .i64 fh, .int .i64 bl, .int .i64 bh, .int .i64 ti, .int .i64 ne, .int .i64 fa, .slice (some ⟨b, o, none⟩) len cap] 26)).alloc (.cells #[] 47))) fun i t hi => (hc i t hi).grow hb hg4)
  have hfl : (l.flatMap Th.vals).length = len * 9 := by rw [hlen]; exact th_flat_len l
  have HFL := Lib.hid hfl
  have hone : ∀ u ∈ l.flatMap Th.vals, u.oneCell' = true := fun u hu => by
    obtain ⟨t, -, h⟩ := List.mem_flatMap.1 hu
    exact t.one u h
  have HONE := Lib.hid hone
  obtain ⟨i0, ii0, iz0, iz1, iz2⟩ := info_parts Try.info47
  have II0 := Lib.hid ii0
  have IZ0 := Lib.hid iz0
  have IZ1 := Lib.hid iz1
  have IZ2 := Lib.hid iz2
  have hs4 : ((((w.alloc (.cells #[.int .i64 fl, .int .i64 fh, .int .i64 bl, .int .i64 bh, .int .i64 ti, .int .i64 ne, .int .i64 fa, .slice (some ⟨b, o, none⟩) len cap] 26)).alloc (.cells #[.int .i64 0, .int .i64 0, .int .i64 0, .int .i64 0, .int .i64 0, .int .i64 0, .int .i64 0, .slice none 0 0] 26)).alloc (.cells #[.int .i64 fl, .int .i64 fh, .int .i64 bl, .int .i64 bh, .int .i64 ti, .int .i64 ne, .int .i64 fa, .slice (some ⟨b, o, none⟩) len cap] 26)).alloc (.cells #[] 47)).heap.size = w.heap.size + 1 + 1 + 1 + 1 := by simp
  have hown : ((((w.alloc (.cells #[.int .i64 fl, .int .i64 fh, .int .i64 bl, .int .i64 bh, .int .i64 ti, .int .i64 ne, .int .i64 fa, .slice (some ⟨b, o, none⟩) len cap] 26)).alloc (.cells #[.int .i64 0, .int .i64 0, .int .i64 0, .int .i64 0, .int .i64 0, .int .i64 0, .int .i64 0, .slice none 0 0] 26)).alloc (.cells #[.int .i64 fl, .int .i64 fh, .int .i64 bl, .int .i64 bh, .int .i64 ti, .int .i64 ne, .int .i64 fa, .slice (some ⟨b, o, none⟩) len cap] 26)).alloc (.cells #[] 47)).ownsRow (w.heap.size + 1 + 1 + 1) 47 9 (.slice (some ⟨w.heap.size + 1 + 1 + 1, 0, none⟩) 0 0) 0 [] := by
    refine ⟨rfl, .inr ⟨w.heap.size + 1 + 1 + 1, 0, #[], rfl, Nat.le_refl _, ?_, Nat.le_refl _, Nat.zero_le _, rfl, rfl⟩⟩
    have := heap_new (((w.alloc (.cells #[.int .i64 fl, .int .i64 fh, .int .i64 bl, .int .i64 bh, .int .i64 ti, .int .i64 ne, .int .i64 fa, .slice (some ⟨b, o, none⟩) len cap] 26)).alloc (.cells #[.int .i64 0, .int .i64 0, .int .i64 0, .int .i64 0, .int .i64 0, .int .i64 0, .int .i64 0, .slice none 0 0] 26)).alloc (.cells #[.int .i64 fl, .int .i64 fh, .int .i64 bl, .int .i64 bh, .int .i64 ti, .int .i64 ne, .int .i64 fa, .slice (some ⟨b, o, none⟩) len cap] 26)) (.cells #[] 47)
    simpa using this
  have HOWN := Lib.hid hown
  have HB2 := Lib.hid (show Box ((((w.alloc (.cells #[.int .i64 fl, .int .i64 fh, .int .i64 bl, .int .i64 bh, .int .i64 ti, .int .i64 ne, .int .i64 fa, .slice (some ⟨b, o, none⟩) len cap] 26)).alloc (.cells #[.int .i64 0, .int .i64 0, .int .i64 0, .int .i64 0, .int .i64 0, .int .i64 0, .int .i64 0, .slice none 0 0] 26)).alloc (.cells #[.int .i64 fl, .int .i64 fh, .int .i64 bl, .int .i64 bh, .int .i64 ti, .int .i64 ne, .int .i64 fa, .slice (some ⟨b, o, none⟩) len cap] 26)).alloc (.cells #[] 47)) (w.heap.size + 1) [.int .i64 0, .int .i64 0, .int .i64 0, .int .i64 0, .int .i64 0, .int .i64 0, .int .i64 0, .slice none 0 0] 26 from by
    have := ((Box.fresh (w.alloc (.cells #[.int .i64 fl, .int .i64 fh, .int .i64 bl, .int .i64 bh, .int .i64 ti, .int .i64 ne, .int .i64 fa, .slice (some ⟨b, o, none⟩) len cap] 26)) [.int .i64 0, .int .i64 0, .int .i64 0, .int .i64 0, .int .i64 0, .int .i64 0, .int .i64 0, .slice none 0 0] 26).grow (Gr.alloc _ (.cells #[.int .i64 fl, .int .i64 fh, .int .i64 bl, .int .i64 bh, .int .i64 ti, .int .i64 ne, .int .i64 fa, .slice (some ⟨b, o, none⟩) len cap] 26))).grow (Gr.alloc _ (.cells #[] 47))
    simpa using this)
  have HB3 := Lib.hid (show Box ((((w.alloc (.cells #[.int .i64 fl, .int .i64 fh, .int .i64 bl, .int .i64 bh, .int .i64 ti, .int .i64 ne, .int .i64 fa, .slice (some ⟨b, o, none⟩) len cap] 26)).alloc (.cells #[.int .i64 0, .int .i64 0, .int .i64 0, .int .i64 0, .int .i64 0, .int .i64 0, .int .i64 0, .slice none 0 0] 26)).alloc (.cells #[.int .i64 fl, .int .i64 fh, .int .i64 bl, .int .i64 bh, .int .i64 ti, .int .i64 ne, .int .i64 fa, .slice (some ⟨b, o, none⟩) len cap] 26)).alloc (.cells #[] 47)) (w.heap.size + 1 + 1) [.int .i64 fl, .int .i64 fh, .int .i64 bl, .int .i64 bh, .int .i64 ti, .int .i64 ne, .int .i64 fa, .slice (some ⟨b, o, none⟩) len cap] 26 from by
    have := (Box.fresh ((w.alloc (.cells #[.int .i64 fl, .int .i64 fh, .int .i64 bl, .int .i64 bh, .int .i64 ti, .int .i64 ne, .int .i64 fa, .slice (some ⟨b, o, none⟩) len cap] 26)).alloc (.cells #[.int .i64 0, .int .i64 0, .int .i64 0, .int .i64 0, .int .i64 0, .int .i64 0, .int .i64 0, .slice none 0 0] 26)) [.int .i64 fl, .int .i64 fh, .int .i64 bl, .int .i64 bh, .int .i64 ti, .int .i64 ne, .int .i64 fa, .slice (some ⟨b, o, none⟩) len cap] 26).grow (Gr.alloc _ (.cells #[] 47))
    simpa using this)
  have HT := Lib.hid ht
  have HL := Lib.hid hlen
  have HG4 := Lib.hid hg4
  clear hc ht hfl hone ii0 iz0 iz1 iz2 hown hlen hg4
  go_enter Try.func34, Try.ntmps34
  go_wp2_with (at_builtin; refine wpList_append_lies _ rfl _ _ 24 rfl (w.heap.size + 1 + 1 + 1) 47 i0 _ 9 72 Try.underlying24 II0.out IZ0.out IZ1.out IZ2.out rfl (by decide) _ _ _ rfl HOWN.out ⟨b, o, none⟩ len cap (l.flatMap Th.vals) rfl HFL.out HN.out HONE.out ?c1 ?c2 ?c3 ?c4 _ rfl ?_)
  case c1 => omega
  case c2 => unfold maxLen; omega
  case c3 => omega
  case c4 => simp
  intro g cap' w1 hown1 hgrow hat hlt
  try simp only [Nat.zero_add, List.nil_append] at hown1
  obtain ⟨-, hown1⟩ := hown1
  rcases hown1 with ⟨hv, -⟩ | ⟨g', cap'', cur, hv, hge, hcur, hcc, hcm, hcs, hct⟩
  · cases hv
  obtain ⟨rfl, -, rfl⟩ : g = g' ∧ len = len ∧ cap' = cap'' := by simpa using hv
  have hgw : w.heap.size + 1 + 1 + 1 ≤ g := hge
  have HBG := Lib.hid (show Box w1 g cur.toList 47 from by unfold Box; simpa using hcur)
  have HX2 := Lib.hid (HB2.out.grown hgrow (by simp [Value.ownBlock]))
  have HX3 := Lib.hid (HB3.out.grown hgrow (by simp [Value.ownBlock]))
  have HGW := Lib.hid (show Below w.heap.size w w1 from by
    have h1 : Below w.heap.size w ((((w.alloc (.cells #[.int .i64 fl, .int .i64 fh, .int .i64 bl, .int .i64 bh, .int .i64 ti, .int .i64 ne, .int .i64 fa, .slice (some ⟨b, o, none⟩) len cap] 26)).alloc (.cells #[.int .i64 0, .int .i64 0, .int .i64 0, .int .i64 0, .int .i64 0, .int .i64 0, .int .i64 0, .slice none 0 0] 26)).alloc (.cells #[.int .i64 fl, .int .i64 fh, .int .i64 bl, .int .i64 bh, .int .i64 ti, .int .i64 ne, .int .i64 fa, .slice (some ⟨b, o, none⟩) len cap] 26)).alloc (.cells #[] 47)) := HG4.out
    exact h1.grown hgrow h1.size (fun q e => by simp [Value.ownBlock] at e; omega))
  have htz : cur.toList[n * 9 + 8]? = some (.int .i64 t.z) := flat_take (by rw [← HL.out]; exact hct) HT.out rfl
  have hcz := HBG.out.cell htz
  have hfz := HBG.out.free (n * 9 + 8)
  have C2 := HX2.out.facts
  have C3 := HX3.out.facts
  simp only [CellsFrom, Nat.zero_add, Nat.reduceAdd, and_true] at C2 C3
  have F2 := HX2.out.free
  have F3 := HX3.out.free
  have n1 : ¬ w.heap.size + 1 = g := by omega
  have n2 : ¬ w.heap.size + 1 + 1 = g := by omega
  have n3 : ¬ g = w.heap.size + 1 := by omega
  have n4 : ¬ g = w.heap.size + 1 + 1 := by omega
  have HCT := Lib.hid hct
  have HTZ := Lib.hid htz
  clear hv hcur hcc hcm hcs hct hgrow hat htz hge
  go_wp2
  have hlast : ∀ i t' j x, (l.set n (t.at z))[i]? = some t' → t'.vals[j]? = some x → (cur.toList.set (n * 9 + 8) (.int .i64 z))[i * 9 + j]? = some x := by
    intro i t' j x hi hx
    have hj : j < 9 := by have := (List.getElem?_eq_some_iff.1 hx).1; simpa [Th.vals] using this
    have hlt9 := (List.getElem?_eq_some_iff.1 HTZ.out).1
    rw [List.getElem?_set] at hi ⊢
    by_cases hin : n = i
    · subst hin
      have hnl : n < l.length := by rw [← HL.out]; exact hn
      rw [if_pos rfl, if_pos hnl] at hi
      cases hi
      by_cases h8 : j = 8
      · subst h8
        rw [if_pos rfl, if_pos hlt9]
        exact hx
      · rw [if_neg (by omega)]
        refine flat_take (by rw [← HL.out]; exact HCT.out) HT.out ?_
        rw [← Th.at_vals (z := z) (show j < 8 by omega)]
        exact hx
    · rw [if_neg hin] at hi
      rw [if_neg (by omega)]
      exact flat_take (by rw [← HL.out]; exact HCT.out) hi hx
  have HLAST := Lib.hid hlast
  clear hlast
  have hfin : len = (l.set n (t.at z)).length := by rw [List.length_set]; exact HL.out
  exact bodyPost_ret (v := .agg #[.int .i64 fl, .int .i64 fh, .int .i64 bl, .int .i64 bh, .int .i64 ti, .int .i64 ne, .int .i64 fa, .slice (some ⟨g, 0, none⟩) len cap']) (by simp [results, Try.results34, go_sem, C2]) rfl ⟨⟨_, rfl, by
    rw [hfin]
    exact ThingsAt.boxp (T := 47) ((((((((((HBG.out.other (by omega) _ _).put (n * 9 + 8) _).other (by omega) _ _).other (by omega) _ _).other (by omega) _ _).other (by omega) _ _).other (by omega) _ _).other (by omega) _ _).other (by omega) _ _).other (by omega) _ _) (by rw [← hfin]; exact h12) HLAST.out⟩, ((((((((((HGW.out.setCell (by first | (simp; done) | (simp; omega) | omega) _).setCell (by first | (simp; done) | (simp; omega) | omega) _).setCell (by first | (simp; done) | (simp; omega) | omega) _).setCell (by first | (simp; done) | (simp; omega) | omega) _).setCell (by first | (simp; done) | (simp; omega) | omega) _).setCell (by first | (simp; done) | (simp; omega) | omega) _).setCell (by first | (simp; done) | (simp; omega) | omega) _).setCell (by first | (simp; done) | (simp; omega) | omega) _).setCell (by first | (simp; done) | (simp; omega) | omega) _).setCell (by first | (simp; done) | (simp; omega) | omega) _)⟩
end Go.Proofs.Ytofdoadpaedogaa
