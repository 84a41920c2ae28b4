
import Derived.Test.YtofdoadpaedogaaT1
import Derived.Test.YtofdoadpaedogaaG
import Derived.Deep.DeepCutAuto
namespace Go.Proofs.Ytofdoadpaedogaa
open Go.RowKit

/-- A slice value reads as this list of spans. -/
def SpansAt (l : List (Int × Int)) (v : Value) (w : World) : Prop :=
  ∃ b o cap, v = .slice (some ⟨b, o, none⟩) l.length cap ∧ b < w.heap.size ∧ l.length ≤ 1000 ∧
    ∀ i, i < l.length → w.cell? ⟨b, o + i * 2, none⟩ = some (.int .i64 (l.getD i (0,0)).1) ∧ w.cell? ⟨b, o + i * 2 + 1, none⟩ = some (.int .i64 (l.getD i (0,0)).2)

theorem SpansAt.lasts (l : List (Int × Int)) : Lasts (SpansAt l) := fun v W W' ⟨b, o, cap, h1, h2, h3, h4⟩ hG =>
  ⟨b, o, cap, h1, (bcell hG).2.2 _ h2, h3, fun i hi => by rw [(bcell hG).1 _ _ h2, (bcell hG).1 _ _ h2]; exact h4 i hi⟩

theorem SpansAt.one (x y : Int) (W : World) (T : TypeId) : SpansAt [(x, y)] (.slice (some ⟨W.heap.size, 0, none⟩) 1 1) (W.alloc (.cells #[.int .i64 x, .int .i64 y] T)) :=
  ⟨W.heap.size, 0, 1, rfl, by simp, by simp, fun i hi => by
    have : i = 0 := by simp at hi; omega
    subst this
    exact ⟨by simp [go_sem], by simp [go_sem]⟩⟩

def ovl (s o : Int × Int) : Int × Int := (if s.1 < o.1 then o.1 else s.1, if o.2 < s.2 then o.2 else s.2)

theorem foldl_snoc (l : List (Int × Int)) (k : Nat) (h : k < l.length) (a : Int × Int) : (l.take (k + 1)).foldl ovl a = ovl ((l.take k).foldl ovl a) (l.getD k (0, 0)) := by
  rw [List.take_succ_eq_append_getElem h, List.foldl_append]
  simp [h]

set_option maxHeartbeats 400000 in
theorem overlap_any (lo hi : Int) (v : Value) (l : List (Int × Int)) (w : World) (h : SpansAt l v w) :
    Calls Try.prog 79 #[.agg #[.int .i64 lo, .int .i64 hi], v] w fun e w' => e = .returned (.agg #[.int .i64 (l.foldl ovl (lo, hi)).1, .int .i64 (l.foldl ovl (lo, hi)).2]) ∧ Below w.heap.size w w' := by
  obtain ⟨b, o, cap, rfl, hb, hlen, hc⟩ := h
  go_enter Try.func79, Try.ntmps79
  go_wp2
  have hal := @cal
  have hfl := @fal
  go_loopw [9] (fun i wr => ∃ k : Nat, k ≤ l.length ∧ i = .int .i64 k ∧ Below w.heap.size w wr ∧ ∃ T T', Box wr w.heap.size [.int .i64 ((l.take k).foldl ovl (lo, hi)).1, .int .i64 ((l.take k).foldl ovl (lo, hi)).2] T ∧ Box wr (w.heap.size + 1) [.int .i64 0, .int .i64 0] T') (fun i _ => l.length - (intOf i).toNat)
  case atStart =>
    exact ⟨0, Nat.zero_le _, rfl, ((Below.refl _ _).alloc (Nat.le_refl _) _).alloc (by simp) _, 23, 23, (Box.fresh w _ _).grow (Gr.alloc _ _), by
      have := Box.fresh (w.alloc (Obj.cells #[Value.int IntKind.i64 lo, Value.int IntKind.i64 hi] 23)) [.int .i64 0, .int .i64 0] 23
      simpa using this⟩
  case round =>
    obtain ⟨k, hk, rfl, hB, T, T', b1, b2⟩ := hrel
    have ⟨c10, c11, f10, f11, l1⟩ := b1.two
    have ⟨c20, c21, f20, f21, l2⟩ := b2.two
    by_cases hlt : k < l.length
    · have hbb : b < wr.heap.size := Nat.lt_of_lt_of_le hb hB.size
      have ⟨hx, hy⟩ := hc k hlt
      rw [← hB.cell (p := ⟨b, _, none⟩) hb] at hx hy
      have hs := foldl_snoc l k hlt (lo, hi)
      generalize hp : l.getD k (0, 0) = p at *
      generalize hq : (l.take k).foldl ovl (lo, hi) = q at *
      have HS := Lib.hid hs
      have HP := Lib.hid hp
      have HQ := Lib.hid hq
      clear hs hp hq hc
      have HB1 := Lib.hid b1
      have HB2 := Lib.hid b2
      clear b1 b2
      go_wp2_with (go_at_call 53; refine (span_any _ _ _).mono ?_; rintro e w1 ⟨rfl, hb1⟩; obtain ⟨hc1, hf1, hz1⟩ := bcell hb1)
      have b1 := (HB1.out.grow (Gr.alloc wr (Obj.cells #[Value.int IntKind.i64 p.fst, Value.int IntKind.i64 p.snd] 23))).grow hb1
      have b2 := (HB2.out.grow (Gr.alloc wr (Obj.cells #[Value.int IntKind.i64 p.fst, Value.int IntKind.i64 p.snd] 23))).grow hb1
      refine ⟨⟨k + 1, by omega, by go_num, ((bgr (bgr hB hB.size (Gr.alloc _ _)) (by simp; omega) hb1).setCell (by simp) _).setCell (by simp) _, T, T', ?_, ?_⟩, by simp [intOf]; omega⟩
      · rw [HS.out]
        exact (b1.put 0 _).put 1 _
      · exact (b2.other (by omega) _ _).other (by omega) _ _
    · have : k = l.length := by omega
      subst this
      rw [List.take_length] at *
      go_wp2
      exact bodyPost_ret (v := .agg #[.int .i64 (l.foldl ovl (lo, hi)).1, .int .i64 (l.foldl ovl (lo, hi)).2]) (by simp [results, Try.results79, go_sem, *]) rfl ⟨rfl, (hB.setCell (by simp) _).setCell (by simp) _⟩
end Go.Proofs.Ytofdoadpaedogaa
