import Derived.Test.YtofdoadpaedogaaL0
import Derived.Test.YtofdoadpaedogaaM1
import Derived.Test.YtofdoadpaedogaaG3
namespace Go.Proofs.Ytofdoadpaedogaa
open Go.RowKit

set_option maxHeartbeats 600000 in
theorem back_any (lo hi : Int) (w : World) (h0 : -4000 ≤ lo) (h1 : lo ≤ 4000) (h2 : -4000 ≤ hi) (h3 : hi ≤ 4000) :
    Calls Try.prog 38 #[.agg #[.int .i64 lo, .int .i64 hi]] w fun e w' => e = .returned (.agg #[.int .i64 (-hi), .int .i64 (-lo)]) ∧ Below w.heap.size w w' := by
  go_enter Try.func38, Try.ntmps38
  go_wp2_with fail
  refine (lspan_any _ _ _).mono ?_
  rintro e w1 ⟨rfl, hb1⟩
  have hg1 : Gr _ _ := hb1
  obtain ⟨hc, hf, hz⟩ := bcell hg1
  go_wp2
  exact bodyPost_ret (v := .agg #[.int .i64 (-hi), .int .i64 (-lo)]) (by simp [results, Try.results38, go_sem, hc]) rfl ⟨rfl, ((show Below w.heap.size w w1 from ((Gr.alloc _ _).tr (Gr.alloc _ _)).tr hg1).setCell (by first | (simp; done) | (simp; omega) | omega) _).setCell (by first | (simp; done) | (simp; omega) | omega) _⟩
set_option maxHeartbeats 600000 in
theorem on_any (lo hi by' : Int) (q : Nat) (w : World) (h0 : -4000 ≤ lo) (h1 : lo ≤ 4000) (h2 : -4000 ≤ hi) (h3 : hi ≤ 4000) (h4 : -32768 ≤ by') (h5 : by' ≤ 32767) (hq : w.cell? ⟨q, 0, none⟩ = some (.int .i16 by')) (hql : q < w.heap.size) :
    Calls Try.prog 39 #[.agg #[.int .i64 lo, .int .i64 hi], .pointer (some ⟨q, 0, none⟩)] w fun e w' => e = .returned (.agg #[.int .i64 (lo + by'), .int .i64 (hi + by')]) ∧ Below w.heap.size w w' := by
  have hal := @cal
  have hq1 : q < w.heap.size + 1 := by omega
  have hq2 : q < w.heap.size + 1 + 1 := by omega
  go_enter Try.func39, Try.ntmps39
  go_wp2_with fail
  refine (lspan_any _ _ _).mono ?_
  rintro e w1 ⟨rfl, hb1⟩
  have hg1 : Gr _ _ := hb1
  obtain ⟨hc, hf, hz⟩ := bcell hg1
  go_wp2
  exact bodyPost_ret (v := .agg #[.int .i64 (lo + by'), .int .i64 (hi + by')]) (by simp [results, Try.results39, go_sem, hc]) rfl ⟨rfl, ((show Below w.heap.size w w1 from ((Gr.alloc _ _).tr (Gr.alloc _ _)).tr hg1).setCell (by first | (simp; done) | (simp; omega) | omega) _).setCell (by first | (simp; done) | (simp; omega) | omega) _⟩
/-- The thing, seen in a mirror; and moved to one side. -/
def Th.back (t : Th) : Th := ⟨-t.f, -t.e, -t.h, -t.g, -t.b, -t.a, -t.d, -t.c, t.z⟩
def Th.on (b : Int) (t : Th) : Th := ⟨t.a + b, t.b + b, t.c, t.d, t.e + b, t.f + b, t.g, t.h, t.z⟩
end Go.Proofs.Ytofdoadpaedogaa
