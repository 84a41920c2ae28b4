import Derived.Test.YtofdoadpaedogaaM1
namespace Go.Proofs.Ytofdoadpaedogaa
open Go.RowKit

set_option maxRecDepth 100000 in
set_option maxHeartbeats 2000000 in
/-- Whether the thing can be so far away: the power of the pair in which it is a landmark there. -/
theorem can_any (p : Pr) (sp : Option Addr) (len cap n : Nat) (t : Th) (z x y e : Int) (bp bn : Nat) (w : World) (hT : ThingsAt p.l (.slice sp len cap) w) (hlen : p.l.length = len) (hl : len ≤ 1000) (ht : p.l[n]? = some t) (hpw : (p.marked n z).power = (x, y, e))
    (hB : Box w bp [.int .i64 p.fl, .int .i64 p.fh, .int .i64 p.bl, .int .i64 p.bh, .int .i64 p.ti, .int .i64 p.ne, .int .i64 p.fa, .slice sp len cap] 26) (hN : Box w bn [.int .i64 n] 3) :
    Calls Try.prog 33 #[.int .i64 z, .pointer (some ⟨bp, 0, none⟩), .pointer (some ⟨bn, 0, none⟩)] w fun e' w' => e' = .returned (.bool (e == 0)) ∧ Below w.heap.size w w' := by
  have hm : p.marked n z = { p with l := p.l.set n (t.at z) } := by unfold Pr.marked; rw [ht]
  have HPW : Hid (∀ (nv : Value) (W : World), ThingsAt (p.l.set n (t.at z)) nv W → Calls Try.prog 17 #[.agg #[.int .i64 p.fl, .int .i64 p.fh, .int .i64 p.bl, .int .i64 p.bh, .int .i64 p.ti, .int .i64 p.ne, .int .i64 p.fa, nv]] W fun e' w' => e' = .returned (.tuple #[.agg #[.int .i64 x, .int .i64 y], .int .i64 e]) ∧ Below W.heap.size W w') := Lib.hid fun nv W h => by
    have := power_is (p := p.marked n z) (v := nv) (w := W) hpw (by rw [hm]; exact h)
    rw [hm] at this
    exact this
  clear hpw hm
  obtain ⟨-, hT⟩ := hT
  rcases hT with ⟨e0, -⟩ | ⟨b, o, cap', hsp, hb, hc⟩
  · rw [e0] at ht; cases ht
  obtain ⟨hsp1, -, rfl⟩ : sp = some ⟨b, o, none⟩ ∧ len = p.l.length ∧ cap = cap' := by simpa using hsp
  subst hsp1
  have HMK := Lib.hid (marked_any p.fl p.fh p.bl p.bh p.ti p.ne p.fa z p.l b o len cap n t w hlen.symm hl hb hc ht)
  clear hsp hc ht
  have C := hB.facts
  have N := hN.facts
  simp only [CellsFrom, Nat.zero_add, Nat.reduceAdd, and_true] at C N
  clear hB hN hlen
  go_enter Try.func33, Try.ntmps33
  go_wp2_with fail
  refine HMK.out.mono ?_
  rintro e1 w1 ⟨⟨nv, rfl, ht1⟩, hb1⟩
  have HT1 := Lib.hid ht1
  clear ht1
  go_wp2_with fail
  refine (HPW.out _ _ HT1.out).mono ?_
  rintro e2 w2 ⟨rfl, hb2⟩
  have hg2 : Gr w w2 := Gr.tr hb1 hb2
  clear hb1 hb2
  go_wp2
  go_ret
  exact ⟨rfl, hg2.tr (Gr.alloc _ _)⟩
end Go.Proofs.Ytofdoadpaedogaa
