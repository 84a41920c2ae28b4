import Derived.Test.YtofdoadpaedogaaT17
namespace Go.Proofs.Ytofdoadpaedogaa
open Go.RowKit

set_option maxHeartbeats 800000 in
theorem Shift_ok (fl fh bl bh ti ne fa : Int) (v : Value) (l : List Th) (k : Nat) (s : Sg) (w : World) (h : ThingsAt l v w) (hv : valid fl fh bl bh ti ne fa l = true) (hk : (seenOf ti ne fa l)[k]? = some s) :
    Calls Try.prog 13 #[.agg #[.int .i64 fl, .int .i64 fh, .int .i64 bl, .int .i64 bh, .int .i64 ti, .int .i64 ne, .int .i64 fa, v], .int .i64 k] w fun e w' => e = .returned (.tuple #[.agg #[.int .i64 s.lo, .int .i64 s.hi], .int .i64 0]) ∧ Below w.heap.size w w' := by
  have hmf : ∀ (fn : Fn) (first cap : Array Value) (w : World), (Instr.makeFunc fn first cap).run Try.prog w = .ok (.func fn first cap) w := fun _ _ _ _ => rfl
  have HC := Lib.hid (fun (W : World) (q : Nat) (hg : Gr w W) (hq : W.cell? ⟨q, 0, none⟩ = some (.int .i64 k)) (hql : q < W.heap.size) => ansShift_ok fl fh bl bh ti ne fa v l k q s W (ThingsAt.lasts l _ _ _ h hg) hv hk hq hql)
  obtain ⟨vp, vcap, rfl, -⟩ := h.len
  clear h hv hk
  have hal := @cal
  have hfl := @fal
  go_enter Try.func13, Try.ntmps13
  go_wp2_with (go_at_call 41; refine (HC.out _ _ (((Gr.alloc _ _).tr (Gr.alloc _ _)).tr (Gr.alloc _ _)) (by simp [go_sem]) (by first | (simp; done) | (simp; omega))).mono ?_; rintro e w1 ⟨rfl, hb1⟩; obtain ⟨hc1, hf1, hz1⟩ := bcell hb1)
  exact bodyPost_ret (v := .tuple #[.agg #[.int .i64 s.lo, .int .i64 s.hi], .int .i64 0]) (by simp [results, Try.results13, go_sem, hc1]) rfl ⟨rfl, (((bgr ((((Below.refl _ _).alloc (by first | (simp; done) | (simp; omega) | omega) _).alloc (by first | (simp; done) | (simp; omega) | omega) _).alloc (by first | (simp; done) | (simp; omega) | omega) _) (by first | (simp; done) | (simp; omega) | omega) hb1).setCell (by first | (simp; done) | (simp; omega) | omega) _).setCell (by first | (simp; done) | (simp; omega) | omega) _)⟩
set_option maxHeartbeats 800000 in
theorem Shift_range (fl fh bl bh ti ne fa : Int) (v : Value) (l : List Th) (k : Int) (w : World) (h : ThingsAt l v w) (hv : valid fl fh bl bh ti ne fa l = true) (hk : k < 0 ∨ ((seenOf ti ne fa l).length : Int) ≤ k) :
    Calls Try.prog 13 #[.agg #[.int .i64 fl, .int .i64 fh, .int .i64 bl, .int .i64 bh, .int .i64 ti, .int .i64 ne, .int .i64 fa, v], .int .i64 k] w fun e w' => e = .returned (.tuple #[.agg #[.int .i64 0, .int .i64 0], .int .i64 2]) ∧ Below w.heap.size w w' := by
  have hmf : ∀ (fn : Fn) (first cap : Array Value) (w : World), (Instr.makeFunc fn first cap).run Try.prog w = .ok (.func fn first cap) w := fun _ _ _ _ => rfl
  have HC := Lib.hid (fun (W : World) (q : Nat) (hg : Gr w W) (hq : W.cell? ⟨q, 0, none⟩ = some (.int .i64 k)) (hql : q < W.heap.size) => ansShift_range fl fh bl bh ti ne fa v l k q W (ThingsAt.lasts l _ _ _ h hg) hv hk hq hql)
  obtain ⟨vp, vcap, rfl, -⟩ := h.len
  clear h hv hk
  have hal := @cal
  have hfl := @fal
  go_enter Try.func13, Try.ntmps13
  go_wp2_with (go_at_call 41; refine (HC.out _ _ (((Gr.alloc _ _).tr (Gr.alloc _ _)).tr (Gr.alloc _ _)) (by simp [go_sem]) (by first | (simp; done) | (simp; omega))).mono ?_; rintro e w1 ⟨rfl, hb1⟩; obtain ⟨hc1, hf1, hz1⟩ := bcell hb1)
  exact bodyPost_ret (v := .tuple #[.agg #[.int .i64 0, .int .i64 0], .int .i64 2]) (by simp [results, Try.results13, go_sem, hc1]) rfl ⟨rfl, (((bgr ((((Below.refl _ _).alloc (by first | (simp; done) | (simp; omega) | omega) _).alloc (by first | (simp; done) | (simp; omega) | omega) _).alloc (by first | (simp; done) | (simp; omega) | omega) _) (by first | (simp; done) | (simp; omega) | omega) hb1).setCell (by first | (simp; done) | (simp; omega) | omega) _).setCell (by first | (simp; done) | (simp; omega) | omega) _)⟩
set_option maxHeartbeats 800000 in
theorem Shift_arg (fl fh bl bh ti ne fa : Int) (v : Value) (l : List Th) (k : Int) (w : World) (h : ThingsAt l v w) (hv : valid fl fh bl bh ti ne fa l = false) :
    Calls Try.prog 13 #[.agg #[.int .i64 fl, .int .i64 fh, .int .i64 bl, .int .i64 bh, .int .i64 ti, .int .i64 ne, .int .i64 fa, v], .int .i64 k] w fun e w' => e = .returned (.tuple #[.agg #[.int .i64 0, .int .i64 0], .int .i64 1]) ∧ Below w.heap.size w w' := by
  have hmf : ∀ (fn : Fn) (first cap : Array Value) (w : World), (Instr.makeFunc fn first cap).run Try.prog w = .ok (.func fn first cap) w := fun _ _ _ _ => rfl
  have HC := Lib.hid (fun (W : World) (q : Nat) (hg : Gr w W) (hq : W.cell? ⟨q, 0, none⟩ = some (.int .i64 k)) (hql : q < W.heap.size) => ansShift_arg fl fh bl bh ti ne fa v l k q W (ThingsAt.lasts l _ _ _ h hg) hv hq hql)
  obtain ⟨vp, vcap, rfl, -⟩ := h.len
  clear h hv
  have hal := @cal
  have hfl := @fal
  go_enter Try.func13, Try.ntmps13
  go_wp2_with (go_at_call 41; refine (HC.out _ _ (((Gr.alloc _ _).tr (Gr.alloc _ _)).tr (Gr.alloc _ _)) (by simp [go_sem]) (by first | (simp; done) | (simp; omega))).mono ?_; rintro e w1 ⟨rfl, hb1⟩; obtain ⟨hc1, hf1, hz1⟩ := bcell hb1)
  exact bodyPost_ret (v := .tuple #[.agg #[.int .i64 0, .int .i64 0], .int .i64 1]) (by simp [results, Try.results13, go_sem, hc1]) rfl ⟨rfl, (((bgr ((((Below.refl _ _).alloc (by first | (simp; done) | (simp; omega) | omega) _).alloc (by first | (simp; done) | (simp; omega) | omega) _).alloc (by first | (simp; done) | (simp; omega) | omega) _) (by first | (simp; done) | (simp; omega) | omega) hb1).setCell (by first | (simp; done) | (simp; omega) | omega) _).setCell (by first | (simp; done) | (simp; omega) | omega) _)⟩
end Go.Proofs.Ytofdoadpaedogaa
