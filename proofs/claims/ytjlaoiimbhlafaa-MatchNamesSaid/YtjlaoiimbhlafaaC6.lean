import Derived.Test.YtjlaoiimbhlafaaC5
set_option linter.unusedVariables false
set_option linter.unusedSimpArgs false
namespace Go.Proofs.Ytjlaoiimbhlafaa
open Go.RowKit Go.Shelf

open MW
attribute [local go_sem] Oper.semAt_some
set_option maxHeartbeats 1000000 in
theorem count1_end (c : Cnt) (hm : ∀ i, c.m i < 2048) (hmR : ∀ i, i < c.k.nL → ∀ j, c.k.nR ≤ j → j < 10 → (c.m i).testBit j = false) (hL : c.k.nL ≤ 10) (hR : c.k.nR ≤ 10) (a b : Nat) (h : Int) (w : World) (ha : a = c.k.nL) (hb : b ≤ c.k.nR) (hA : c.At w) :
    Calls Try.prog 96 #[restV a b h, .pointer (some ⟨c.bl, 0, none⟩), .pointer (some ⟨c.bk, 0, none⟩), .pointer (some ⟨c.bo, 0, none⟩), .pointer (some ⟨c.bc, 0, none⟩)] w fun e w' => e = .returned (.int .i64 (c.k.wy c.m a b h)) ∧ Dr c.A 0 w w' := by
  have HA := Lib.hid hA
  have hwy : c.k.wy c.m a b h = if (c.k.nR : Int) - b > h then 0 else 1 := by
    unfold Lk.wy
    rw [lf_nil (by omega)]
    rfl
  have HW := Lib.hid hwy
  have HE := Lib.hid (fun W => end_any c.k a b h W (by omega) (by omega))
  generalize (if (c.k.nR : Int) - b > h then 0 else 1) = x at *
  have c0 := HA.out.l.cell (i := 0) c.k.c0
  have cl := HA.out.l.lt
  have hq : ((a : Int) == (c.k.nL : Int)) = true := by simp; omega
  unfold restV at *
  clear hA hwy hm hmR ha
  go_enter Try.func96, Try.ntmps96
  go_wp2_with (first | (with_reducible refine wpList_stopLoad (ty := 85) rfl ?_; unfold Stop; refine wpList_loadBox row85 c.k.cs_len (HA.out.l.grow (Gr.alloc _ _)) rfl rfl rfl ?_) | (go_at_call 97; refine (HE.out _).mono ?_; rintro e w1 ⟨rfl, hb1⟩))
  go_ret
  exact ⟨by rw [HW.out]; rfl, Dr.of ((Gr.alloc _ _).tr hb1)⟩
set_option maxHeartbeats 1000000 in
theorem count1_known (c : Cnt) (hm : ∀ i, c.m i < 2048) (hmR : ∀ i, i < c.k.nL → ∀ j, c.k.nR ≤ j → j < 10 → (c.m i).testBit j = false) (hL : c.k.nL ≤ 10) (hR : c.k.nR ≤ 10) (a b : Nat) (h : Int) (w : World) (ha : a < c.k.nL) (hA : c.At w)
    (hlk : (Instr.lookup 145 (.map (some c.mb)) (restV a b h) true).run Try.prog (w.alloc (.cells #[.int .i64 a, .int .i64 b, .int .i64 h] 148)) = .ok (.tuple #[.int .i64 (c.k.wy c.m a b h), .bool true]) (w.alloc (.cells #[.int .i64 a, .int .i64 b, .int .i64 h] 148))) :
    Calls Try.prog 96 #[restV a b h, .pointer (some ⟨c.bl, 0, none⟩), .pointer (some ⟨c.bk, 0, none⟩), .pointer (some ⟨c.bo, 0, none⟩), .pointer (some ⟨c.bc, 0, none⟩)] w fun e w' => e = .returned (.int .i64 (c.k.wy c.m a b h)) ∧ Dr c.A 0 w w' := by
  have HA := Lib.hid hA
  have c0 := HA.out.l.cell (i := 0) c.k.c0
  have cl := HA.out.l.lt
  have k0 := HA.out.kn.cell (i := 0) rfl
  have kl := HA.out.kn.lt
  have hq : ((a : Int) == (c.k.nL : Int)) = false := by simp; omega
  generalize c.k.wy c.m a b h = wy at *
  unfold restV at *
  clear hA hm hmR ha
  go_enter Try.func96, Try.ntmps96
  go_wp2_with fail
  go_ret
  exact ⟨rfl, Dr.of ((Gr.alloc _ _).tr (Gr.alloc _ _))⟩
set_option maxHeartbeats 1000000 in
theorem count1_neg (c : Cnt) (hm : ∀ i, c.m i < 2048) (hmR : ∀ i, i < c.k.nL → ∀ j, c.k.nR ≤ j → j < 10 → (c.m i).testBit j = false) (hL : c.k.nL ≤ 10) (hR : c.k.nR ≤ 10) (a b : Nat) (h : Int) (w : World) (ha : a < c.k.nL) (hh : h < 0) (hA : c.At w)
    (hlk : (Instr.lookup 145 (.map (some c.mb)) (restV a b h) true).run Try.prog (w.alloc (.cells #[.int .i64 a, .int .i64 b, .int .i64 h] 148)) = .ok (.tuple #[.int .i64 0, .bool false]) (w.alloc (.cells #[.int .i64 a, .int .i64 b, .int .i64 h] 148))) :
    Calls Try.prog 96 #[restV a b h, .pointer (some ⟨c.bl, 0, none⟩), .pointer (some ⟨c.bk, 0, none⟩), .pointer (some ⟨c.bo, 0, none⟩), .pointer (some ⟨c.bc, 0, none⟩)] w fun e w' => e = .returned (.int .i64 (c.k.wy c.m a b h)) ∧ Dr c.A 0 w w' := by
  have HA := Lib.hid hA
  have hwy : c.k.wy c.m a b h = 0 := by
    unfold Lk.wy
    rw [lf_cons ha]
    unfold cw
    rw [if_pos hh]
  have HW := Lib.hid hwy
  have c0 := HA.out.l.cell (i := 0) c.k.c0
  have cl := HA.out.l.lt
  have k0 := HA.out.kn.cell (i := 0) rfl
  have kl := HA.out.kn.lt
  have hq : ((a : Int) == (c.k.nL : Int)) = false := by simp; omega
  have hd : decide (h < 0) = true := by simpa using hh
  unfold restV at *
  clear hA hm hmR ha hwy hh
  go_enter Try.func96, Try.ntmps96
  go_wp2_with fail
  go_ret
  exact ⟨by rw [HW.out]; rfl, Dr.of ((Gr.alloc _ _).tr (Gr.alloc _ _))⟩

end Go.Proofs.Ytjlaoiimbhlafaa
