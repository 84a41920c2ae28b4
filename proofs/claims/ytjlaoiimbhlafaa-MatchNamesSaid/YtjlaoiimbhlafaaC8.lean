import Derived.Test.YtjlaoiimbhlafaaC7
set_option linter.unusedVariables false
set_option linter.unusedSimpArgs false
namespace Go.Proofs.Ytjlaoiimbhlafaa
open Go.RowKit Go.Shelf

open MW
attribute [local go_sem] Oper.semAt_some
theorem count1_ok (c : Cnt) (hm : ∀ i, c.m i < 2048) (hmR : ∀ i, i < c.k.nL → ∀ j, c.k.nR ≤ j → j < 10 → (c.m i).testBit j = false) (hL : c.k.nL ≤ 10) (hR : c.k.nR ≤ 10) : ∀ (n a b : Nat) (h : Int) (w : World), c.k.nL - a = n → a ≤ c.k.nL → b ≤ c.k.nR → -20 ≤ h → h ≤ 20 → c.At w →
    Calls Try.prog 96 #[restV a b h, .pointer (some ⟨c.bl, 0, none⟩), .pointer (some ⟨c.bk, 0, none⟩), .pointer (some ⟨c.bo, 0, none⟩), .pointer (some ⟨c.bc, 0, none⟩)] w fun e w' => e = .returned (.int .i64 (c.k.wy c.m a b h)) ∧ Dr c.A 0 w w'
  | 0, a, b, h, w, hn, ha, hb, h1, h2, hA => count1_end c hm hmR hL hR a b h w (by omega) hb hA
  | n + 1, a, b, h, w, hn, ha, hb, h1, h2, hA => by
    have hA' := hA.gr (Gr.alloc w (.cells #[.int .i64 a, .int .i64 b, .int .i64 h] 148))
    obtain ⟨o, ho, hg⟩ := hA'.g
    rcases run_known ho hg (show Rst a b h from ⟨by omega, by omega, by omega, by omega⟩) with hk | hk
    · by_cases hh : h < 0
      · exact count1_neg c hm hmR hL hR a b h w (by omega) hh hA hk
      · exact count1_more c hm hmR hL hR a b h w (by omega) hb ⟨by omega, h2⟩ hA (fun b' h' W hb' h3 h4 hW => count1_ok c hm hmR hL hR n (a + 1) b' h' W (by omega) (by omega) hb' h3 h4 hW) hk
    · exact count1_known c hm hmR hL hR a b h w (by omega) hA hk
theorem run_store_func {P : Program} (w : World) (a : Addr) (m : Mode) (f : Fn) (pre caps : Array Value) : (store a (.func f pre caps) m).run P w = stored P w a (.func f pre caps) m := run_store P w a _ m rfl
attribute [local go_sem] run_store_func
def startC (k : Lk) (m : Nat → Nat) (n : Nat) : Cnt := ⟨k, m, n, n + 1 + 1 + 1, n + 1, n + 1 + 1 + 1 + 1, n + 1 + 1⟩
def startW (k : Lk) (m : Nat → Nat) (w : World) : World := ((((w.alloc (.cells k.cs.toArray 85)).alloc (.cells (opts m).toArray 83)).alloc (.map #[] 0)).alloc (.cells #[.map (some (w.heap.size + 1 + 1))] 145)).alloc
  (.cells #[.func (.func 96) #[] #[.pointer (some ⟨w.heap.size, 0, none⟩), .pointer (some ⟨w.heap.size + 1 + 1 + 1, 0, none⟩), .pointer (some ⟨w.heap.size + 1, 0, none⟩), .pointer (some ⟨w.heap.size + 1 + 1 + 1 + 1, 0, none⟩)]] 146)
theorem startC_at (k : Lk) (m : Nat → Nat) (w : World) : (startC k m w.heap.size).At (startW k m w) := by
  have h0 := Box.fresh w k.cs 85
  have h1 := Box.fresh (w.alloc (.cells k.cs.toArray 85)) (opts m) 83
  have h2 := World.alloc_heap_new ((w.alloc (.cells k.cs.toArray 85)).alloc (.cells (opts m).toArray 83)) (.map #[] 0)
  have h3 := Box.fresh (((w.alloc (.cells k.cs.toArray 85)).alloc (.cells (opts m).toArray 83)).alloc (.map #[] 0)) [.map (some (w.heap.size + 1 + 1))] 145
  have h4 := Box.fresh ((((w.alloc (.cells k.cs.toArray 85)).alloc (.cells (opts m).toArray 83)).alloc (.map #[] 0)).alloc (.cells #[.map (some (w.heap.size + 1 + 1))] 145)) [countV w.heap.size (w.heap.size + 1 + 1 + 1) (w.heap.size + 1) (w.heap.size + 1 + 1 + 1 + 1)] 146
  simp only [World.size_alloc] at h1 h2 h3 h4
  unfold startW startC
  refine ⟨(((h0.grow (Gr.alloc _ _)).grow (Gr.alloc _ _)).grow (Gr.alloc _ _)).grow (Gr.alloc _ _), h3.grow (Gr.alloc _ _), ((h1.grow (Gr.alloc _ _)).grow (Gr.alloc _ _)).grow (Gr.alloc _ _), h4, ⟨.map #[] 0, ?_, Gd.new _⟩⟩
  exact ((Gr.alloc _ _).block _ (by simp)).trans (((Gr.alloc _ _).block _ (by simp)).trans h2)
set_option maxRecDepth 100000 in
set_option maxHeartbeats 1000000 in
theorem count_any (k : Lk) (m : Nat → Nat) (hm : ∀ i, m i < 2048) (hmR : ∀ i, i < k.nL → ∀ j, k.nR ≤ j → j < 10 → (m i).testBit j = false) (hL : k.nL ≤ 10) (hR : k.nR ≤ 10) (hh : 0 ≤ k.h ∧ k.h ≤ 20) (w : World) :
    Calls Try.prog 52 #[.agg k.cs.toArray, .agg (opts m).toArray] w fun e w' => e = .returned (.int .i64 (k.wy m 0 0 k.h)) ∧ Below w.heap.size w w' := by
  have hl := k.cs_len
  have e4 : ∀ h : 4 < k.cs.length, k.cs[4] = .int .i64 k.h := fun _ => rfl
  have HC := Lib.hid (count1_ok (startC k m w.heap.size) hm hmR hL hR k.nL 0 0 k.h (startW k m w) (by simp [startC]) (Nat.zero_le _) (Nat.zero_le _) (by omega) (by omega) (startC_at k m w))
  have HS := Lib.hid (show Gr w (startW k m w) from ((((Gr.alloc _ _).tr (Gr.alloc _ _)).tr (Gr.alloc _ _)).tr (Gr.alloc _ _)).tr (Gr.alloc _ _))
  unfold startW startC at HC
  unfold startW at HS
  dsimp only at HC
  clear hm hmR
  unfold restV at HC
  have hmk : ∀ W : World, (Instr.makeMap 145 none).run Try.prog W = .ok (.map (some W.heap.size)) (W.alloc (.map #[] 0)) := fun _ => rfl
  go_enter Try.func52, Try.ntmps52
  go_wp2_with (go_at_call 96; refine HC.out.mono ?_; rintro e w1 ⟨rfl, hb1⟩)
  go_ret
  exact ⟨rfl, hb1.below HS.out (Nat.le_trans HS.out.size (Nat.le_refl _)) (by simp [Cnt.A]; omega)⟩

end Go.Proofs.Ytjlaoiimbhlafaa
