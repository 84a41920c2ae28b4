import Derived.RegionTactic
import Derived.ChangeAlike
import Derived.Test.YtofdoadpaedogaaT20
namespace Go.Proofs.Ytofdoadpaedogaa
open Go.RowKit

set_option maxHeartbeats 800000 in
theorem Nearer_walk (fl fh bl bh ti ne fa : Int) (vp : Option Addr) (vn vc : Nat) (a b x : Int) (c : Int) (w : World) (hc : ∀ (W : World) (q r : Nat), Gr w W → W.cell? ⟨q, 0, none⟩ = some (.int .i64 a) → q < W.heap.size → W.cell? ⟨r, 0, none⟩ = some (.int .i64 b) → r < W.heap.size → Calls Try.prog 46 #[.agg #[.int .i64 fl, .int .i64 fh, .int .i64 bl, .int .i64 bh, .int .i64 ti, .int .i64 ne, .int .i64 fa, .slice vp vn vc], .func (.func 47) #[] #[.pointer (some ⟨q, 0, none⟩), .pointer (some ⟨r, 0, none⟩)]] W fun e w' => e = .returned (.tuple #[.int .i64 x, .int .i64 c]) ∧ Below W.heap.size W w') :
    Calls Try.prog 15 #[.agg #[.int .i64 fl, .int .i64 fh, .int .i64 bl, .int .i64 bh, .int .i64 ti, .int .i64 ne, .int .i64 fa, .slice vp vn vc], .int .i64 a, .int .i64 b] w fun e w' => e = .returned (.tuple #[.int .i64 x, .int .i64 c]) ∧ Below w.heap.size w w' := by
  have hmf : ∀ (fn : Fn) (first cap : Array Value) (w : World), (Instr.makeFunc fn first cap).run Try.prog w = .ok (.func fn first cap) w := fun _ _ _ _ => rfl
  have HC := Lib.hid hc
  clear hc
  have hal := @cal
  have hfl := @fal
  go_enter Try.func15, Try.ntmps15
  go_wp2_with (go_at_call 46; refine (HC.out _ _ _ (((Gr.alloc _ _).tr (Gr.alloc _ _)).tr (Gr.alloc _ _)) (by simp [go_sem]) (by first | (simp; done) | (simp; omega)) (by simp [go_sem]) (by first | (simp; done) | (simp; omega))).mono ?_; rintro e w1 ⟨rfl, hb1⟩; obtain ⟨hc1, hf1, hz1⟩ := bcell hb1)
  go_ret2
  exact ⟨rfl, (bgr ((((Below.refl _ _).alloc (by first | (simp; done) | (simp; omega) | omega) _).alloc (by first | (simp; done) | (simp; omega) | omega) _).alloc (by first | (simp; done) | (simp; omega) | omega) _) (by first | (simp; done) | (simp; omega) | omega) hb1)⟩
set_option maxHeartbeats 800000 in
theorem Why_walk (fl fh bl bh ti ne fa : Int) (vp : Option Addr) (vn vc : Nat) (k x : Int) (c : Int) (w : World) (hc : ∀ (W : World) (q : Nat), Gr w W → W.cell? ⟨q, 0, none⟩ = some (.int .i64 k) → q < W.heap.size → Calls Try.prog 46 #[.agg #[.int .i64 fl, .int .i64 fh, .int .i64 bl, .int .i64 bh, .int .i64 ti, .int .i64 ne, .int .i64 fa, .slice vp vn vc], .func (.func 55) #[] #[.pointer (some ⟨q, 0, none⟩)]] W fun e w' => e = .returned (.tuple #[.int .i64 x, .int .i64 c]) ∧ Below W.heap.size W w') :
    Calls Try.prog 21 #[.agg #[.int .i64 fl, .int .i64 fh, .int .i64 bl, .int .i64 bh, .int .i64 ti, .int .i64 ne, .int .i64 fa, .slice vp vn vc], .int .i64 k] w fun e w' => e = .returned (.tuple #[.int .i64 x, .int .i64 c]) ∧ Below w.heap.size w w' := by
  have hmf : ∀ (fn : Fn) (first cap : Array Value) (w : World), (Instr.makeFunc fn first cap).run Try.prog w = .ok (.func fn first cap) w := fun _ _ _ _ => rfl
  have HC := Lib.hid hc
  clear hc
  have hal := @cal
  have hfl := @fal
  go_enter Try.func21, Try.ntmps21
  go_wp2_with (go_at_call 46; refine (HC.out _ _ ((Gr.alloc _ _).tr (Gr.alloc _ _)) (by simp [go_sem]) (by first | (simp; done) | (simp; omega))).mono ?_; rintro e w1 ⟨rfl, hb1⟩; obtain ⟨hc1, hf1, hz1⟩ := bcell hb1)
  go_ret2
  exact ⟨rfl, (bgr (((Below.refl _ _).alloc (by first | (simp; done) | (simp; omega) | omega) _).alloc (by first | (simp; done) | (simp; omega) | omega) _) (by first | (simp; done) | (simp; omega) | omega) hb1)⟩
set_option maxHeartbeats 800000 in
theorem Power_walk (fl fh bl bh ti ne fa : Int) (vp : Option Addr) (vn vc : Nat) (x y : Int) (c : Int) (w : World) (hc : ∀ (W : World), Gr w W → Calls Try.prog 41 #[.agg #[.int .i64 fl, .int .i64 fh, .int .i64 bl, .int .i64 bh, .int .i64 ti, .int .i64 ne, .int .i64 fa, .slice vp vn vc], .func (.func 48) #[] #[]] W fun e w' => e = .returned (.tuple #[.agg #[.int .i64 x, .int .i64 y], .int .i64 c]) ∧ Below W.heap.size W w') :
    Calls Try.prog 17 #[.agg #[.int .i64 fl, .int .i64 fh, .int .i64 bl, .int .i64 bh, .int .i64 ti, .int .i64 ne, .int .i64 fa, .slice vp vn vc]] w fun e w' => e = .returned (.tuple #[.agg #[.int .i64 x, .int .i64 y], .int .i64 c]) ∧ Below w.heap.size w w' := by
  have hmf : ∀ (fn : Fn) (first cap : Array Value) (w : World), (Instr.makeFunc fn first cap).run Try.prog w = .ok (.func fn first cap) w := fun _ _ _ _ => rfl
  have HC := Lib.hid hc
  clear hc
  have hal := @cal
  have hfl := @fal
  go_enter Try.func17, Try.ntmps17
  go_wp2_with (go_at_call 41; refine (HC.out _  ((Gr.alloc _ _).tr (Gr.alloc _ _)) ).mono ?_; rintro e w1 ⟨rfl, hb1⟩; obtain ⟨hc1, hf1, hz1⟩ := bcell hb1)
  exact bodyPost_ret (v := .tuple #[.agg #[.int .i64 x, .int .i64 y], .int .i64 c]) (by simp [results, Try.results17, go_sem, hc1]) rfl ⟨rfl, (((bgr (((Below.refl _ _).alloc (by first | (simp; done) | (simp; omega) | omega) _).alloc (by first | (simp; done) | (simp; omega) | omega) _) (by first | (simp; done) | (simp; omega) | omega) hb1).setCell (by first | (simp; done) | (simp; omega) | omega) _).setCell (by first | (simp; done) | (simp; omega) | omega) _)⟩
set_option maxHeartbeats 800000 in
theorem Stands_walk (fl fh bl bh ti ne fa : Int) (vp : Option Addr) (vn vc : Nat) (z x y : Int) (c : Int) (w : World) (hc : ∀ (W : World) (q : Nat), Gr w W → W.cell? ⟨q, 0, none⟩ = some (.int .i64 z) → q < W.heap.size → Calls Try.prog 41 #[.agg #[.int .i64 fl, .int .i64 fh, .int .i64 bl, .int .i64 bh, .int .i64 ti, .int .i64 ne, .int .i64 fa, .slice vp vn vc], .func (.func 50) #[] #[.pointer (some ⟨q, 0, none⟩)]] W fun e w' => e = .returned (.tuple #[.agg #[.int .i64 x, .int .i64 y], .int .i64 c]) ∧ Below W.heap.size W w') :
    Calls Try.prog 19 #[.agg #[.int .i64 fl, .int .i64 fh, .int .i64 bl, .int .i64 bh, .int .i64 ti, .int .i64 ne, .int .i64 fa, .slice vp vn vc], .int .i64 z] w fun e w' => e = .returned (.tuple #[.agg #[.int .i64 x, .int .i64 y], .int .i64 c]) ∧ Below w.heap.size w w' := by
  have hmf : ∀ (fn : Fn) (first cap : Array Value) (w : World), (Instr.makeFunc fn first cap).run Try.prog w = .ok (.func fn first cap) w := fun _ _ _ _ => rfl
  have HC := Lib.hid hc
  clear hc
  have hal := @cal
  have hfl := @fal
  go_enter Try.func19, Try.ntmps19
  go_wp2_with (go_at_call 41; refine (HC.out _ _ (((Gr.alloc _ _).tr (Gr.alloc _ _)).tr (Gr.alloc _ _)) (by simp [go_sem]) (by first | (simp; done) | (simp; omega))).mono ?_; rintro e w1 ⟨rfl, hb1⟩; obtain ⟨hc1, hf1, hz1⟩ := bcell hb1)
  exact bodyPost_ret (v := .tuple #[.agg #[.int .i64 x, .int .i64 y], .int .i64 c]) (by simp [results, Try.results19, go_sem, hc1]) rfl ⟨rfl, (((bgr ((((Below.refl _ _).alloc (by first | (simp; done) | (simp; omega) | omega) _).alloc (by first | (simp; done) | (simp; omega) | omega) _).alloc (by first | (simp; done) | (simp; omega) | omega) _) (by first | (simp; done) | (simp; omega) | omega) hb1).setCell (by first | (simp; done) | (simp; omega) | omega) _).setCell (by first | (simp; done) | (simp; omega) | omega) _)⟩
set_option maxHeartbeats 800000 in
theorem Distance_walk (fl fh bl bh ti ne fa : Int) (vp : Option Addr) (vn vc : Nat) (k x y : Int) (c : Int) (w : World) (hc : ∀ (W : World) (q : Nat), Gr w W → W.cell? ⟨q, 0, none⟩ = some (.int .i64 k) → q < W.heap.size → Calls Try.prog 41 #[.agg #[.int .i64 fl, .int .i64 fh, .int .i64 bl, .int .i64 bh, .int .i64 ti, .int .i64 ne, .int .i64 fa, .slice vp vn vc], .func (.func 61) #[] #[.pointer (some ⟨q, 0, none⟩)]] W fun e w' => e = .returned (.tuple #[.agg #[.int .i64 x, .int .i64 y], .int .i64 c]) ∧ Below W.heap.size W w') :
    Calls Try.prog 23 #[.agg #[.int .i64 fl, .int .i64 fh, .int .i64 bl, .int .i64 bh, .int .i64 ti, .int .i64 ne, .int .i64 fa, .slice vp vn vc], .int .i64 k] w fun e w' => e = .returned (.tuple #[.agg #[.int .i64 x, .int .i64 y], .int .i64 c]) ∧ Below w.heap.size w w' := by
  have hmf : ∀ (fn : Fn) (first cap : Array Value) (w : World), (Instr.makeFunc fn first cap).run Try.prog w = .ok (.func fn first cap) w := fun _ _ _ _ => rfl
  have HC := Lib.hid hc
  clear hc
  have hal := @cal
  have hfl := @fal
  go_enter Try.func23, Try.ntmps23
  go_wp2_with (go_at_call 41; refine (HC.out _ _ (((Gr.alloc _ _).tr (Gr.alloc _ _)).tr (Gr.alloc _ _)) (by simp [go_sem]) (by first | (simp; done) | (simp; omega))).mono ?_; rintro e w1 ⟨rfl, hb1⟩; obtain ⟨hc1, hf1, hz1⟩ := bcell hb1)
  exact bodyPost_ret (v := .tuple #[.agg #[.int .i64 x, .int .i64 y], .int .i64 c]) (by simp [results, Try.results23, go_sem, hc1]) rfl ⟨rfl, (((bgr ((((Below.refl _ _).alloc (by first | (simp; done) | (simp; omega) | omega) _).alloc (by first | (simp; done) | (simp; omega) | omega) _).alloc (by first | (simp; done) | (simp; omega) | omega) _) (by first | (simp; done) | (simp; omega) | omega) hb1).setCell (by first | (simp; done) | (simp; omega) | omega) _).setCell (by first | (simp; done) | (simp; omega) | omega) _)⟩
set_option maxHeartbeats 800000 in
theorem Shift_walk (fl fh bl bh ti ne fa : Int) (vp : Option Addr) (vn vc : Nat) (k x y : Int) (c : Int) (w : World) (hc : ∀ (W : World) (q : Nat), Gr w W → W.cell? ⟨q, 0, none⟩ = some (.int .i64 k) → q < W.heap.size → Calls Try.prog 41 #[.agg #[.int .i64 fl, .int .i64 fh, .int .i64 bl, .int .i64 bh, .int .i64 ti, .int .i64 ne, .int .i64 fa, .slice vp vn vc], .func (.func 42) #[] #[.pointer (some ⟨q, 0, none⟩)]] W fun e w' => e = .returned (.tuple #[.agg #[.int .i64 x, .int .i64 y], .int .i64 c]) ∧ Below W.heap.size W w') :
    Calls Try.prog 13 #[.agg #[.int .i64 fl, .int .i64 fh, .int .i64 bl, .int .i64 bh, .int .i64 ti, .int .i64 ne, .int .i64 fa, .slice vp vn vc], .int .i64 k] w fun e w' => e = .returned (.tuple #[.agg #[.int .i64 x, .int .i64 y], .int .i64 c]) ∧ Below w.heap.size w w' := by
  have hmf : ∀ (fn : Fn) (first cap : Array Value) (w : World), (Instr.makeFunc fn first cap).run Try.prog w = .ok (.func fn first cap) w := fun _ _ _ _ => rfl
  have HC := Lib.hid hc
  clear hc
  have hal := @cal
  have hfl := @fal
  go_enter Try.func13, Try.ntmps13
  go_wp2_with (go_at_call 41; refine (HC.out _ _ (((Gr.alloc _ _).tr (Gr.alloc _ _)).tr (Gr.alloc _ _)) (by simp [go_sem]) (by first | (simp; done) | (simp; omega))).mono ?_; rintro e w1 ⟨rfl, hb1⟩; obtain ⟨hc1, hf1, hz1⟩ := bcell hb1)
  exact bodyPost_ret (v := .tuple #[.agg #[.int .i64 x, .int .i64 y], .int .i64 c]) (by simp [results, Try.results13, go_sem, hc1]) rfl ⟨rfl, (((bgr ((((Below.refl _ _).alloc (by first | (simp; done) | (simp; omega) | omega) _).alloc (by first | (simp; done) | (simp; omega) | omega) _).alloc (by first | (simp; done) | (simp; omega) | omega) _) (by first | (simp; done) | (simp; omega) | omega) hb1).setCell (by first | (simp; done) | (simp; omega) | omega) _).setCell (by first | (simp; done) | (simp; omega) | omega) _)⟩
set_option maxHeartbeats 800000 in
theorem Fewest_walk (fl fh bl bh ti ne fa : Int) (vp : Option Addr) (vn vc : Nat) (m n x y : Int) (c : Int) (w : World) (hc : ∀ (W : World), Gr w W → Calls Try.prog 63 #[.agg #[.int .i64 fl, .int .i64 fh, .int .i64 bl, .int .i64 bh, .int .i64 ti, .int .i64 ne, .int .i64 fa, .slice vp vn vc], .func (.func 64) #[] #[]] W fun e w' => e = .returned (.tuple #[.agg #[.int .i64 m, .int .i64 n, .int .i64 x, .int .i64 y], .int .i64 c]) ∧ Below W.heap.size W w') :
    Calls Try.prog 25 #[.agg #[.int .i64 fl, .int .i64 fh, .int .i64 bl, .int .i64 bh, .int .i64 ti, .int .i64 ne, .int .i64 fa, .slice vp vn vc]] w fun e w' => e = .returned (.tuple #[.int .i64 n, .agg #[.int .i64 x, .int .i64 y], .int .i64 c]) ∧ Below w.heap.size w w' := by
  have hmf : ∀ (fn : Fn) (first cap : Array Value) (w : World), (Instr.makeFunc fn first cap).run Try.prog w = .ok (.func fn first cap) w := fun _ _ _ _ => rfl
  have HC := Lib.hid hc
  clear hc
  have hal := @cal
  have hfl := @fal
  go_enter Try.func25, Try.ntmps25
  go_wp2_with (go_at_call 63; refine (HC.out _  ((Gr.alloc _ _).tr (Gr.alloc _ _)) ).mono ?_; rintro e w1 ⟨rfl, hb1⟩; obtain ⟨hc1, hf1, hz1⟩ := bcell hb1)
  have hz2 : w.heap.size + 1 < w1.heap.size := hz1 _ (by simp)
  go_region
  go_wp2
  exact bodyPost_ret (v := .tuple #[.int .i64 n, .agg #[.int .i64 x, .int .i64 y], .int .i64 c]) (by simp [results, Try.results25, go_sem, hc1, hal, hz2]) rfl ⟨rfl, (((((bgr (((Below.refl _ _).alloc (by first | (simp; done) | (simp; omega) | omega) _).alloc (by first | (simp; done) | (simp; omega) | omega) _) (by first | (simp; done) | (simp; omega) | omega) hb1).setCell (by first | (simp; done) | (simp; omega) | omega) _).setCell (by first | (simp; done) | (simp; omega) | omega) _).alloc (by first | (simp; done) | (simp; omega) | omega) _).drew)⟩
end Go.Proofs.Ytofdoadpaedogaa
