import Derived.Defers
import Derived.Recover
import Derived.Laws.Pointers
import Derived.Test.YtofdoadpaedogaaT16
namespace Go.Proofs.Ytofdoadpaedogaa
open Go.RowKit

set_option maxHeartbeats 800000 in
theorem ansShift_ok (fl fh bl bh ti ne fa : Int) (v : Value) (l : List Th) (k p : Nat) (s : Sg) (w : World) (h : ThingsAt l v w) (hv : valid fl fh bl bh ti ne fa l = true) (hk : (seenOf ti ne fa l)[k]? = some s) (hp : w.cell? ⟨p, 0, none⟩ = some (.int .i64 k)) (hpl : p < w.heap.size) :
    Calls Try.prog 41 #[.agg #[.int .i64 fl, .int .i64 fh, .int .i64 bl, .int .i64 bh, .int .i64 ti, .int .i64 ne, .int .i64 fa, v], .func (.func 42) #[] #[.pointer (some ⟨p, 0, none⟩)]] w fun e w' => e = .returned (.tuple #[.agg #[.int .i64 s.lo, .int .i64 s.hi], .int .i64 0]) ∧ Below w.heap.size w w' := by
  have hmf : ∀ (fn : Fn) (first cap : Array Value) (w : World), (Instr.makeFunc fn first cap).run Try.prog w = .ok (.func fn first cap) w := fun _ _ _ _ => rfl
  have HL := Lib.hid (fun (W : World) (hg : Gr w W) => look_ok fl fh bl bh ti ne fa v l W (ThingsAt.lasts l _ _ _ h hg) hv)
  have HK := Lib.hid hk
  have HP := Lib.hid (fun (W : World) (hg : Gr w W) => ((bcell hg).1 p 0 hpl).trans hp)
  have HPL := Lib.hid hpl
  obtain ⟨vp, vcap, rfl, -⟩ := h.len
  generalize hap : allPw fl fh bl bh ti ne fa l = ap at *
  clear h hv hk hp hpl hap
  have hal := @cal
  have hfl := @fal
  go_enter_defers Try.func41, Try.ntmps41
  go_wp2_with (go_at_call 73; refine (HL.out _ (((Gr.alloc _ _).tr (Gr.alloc _ _)).tr (Gr.alloc _ _))).mono ?_; rintro e w1 ⟨⟨r, rfl, sv, rfl, hsv⟩, hb1⟩; have HSV := Lib.hid hsv; have HB1 := Lib.hid hb1; clear hsv hb1)
  have hgw := (((Gr.alloc w (Obj.cells #[.int .i64 fl, .int .i64 fh, .int .i64 bl, .int .i64 bh, .int .i64 ti, .int .i64 ne, .int .i64 fa, .slice vp l.length vcap] 26)).tr (Gr.alloc _ _)).tr (Gr.alloc _ _)).tr HB1.out
  have hw1 : w.heap.size + 3 ≤ w1.heap.size := by have := HB1.out.size; simp at this; omega
  refine (shift1_ok fl fh bl bh ti ne fa (.slice vp l.length vcap) sv ap.1 ap.2 (seenOf ti ne fa l) k s p w1 HSV.out HK.out (HP.out _ hgw) (by have := HPL.out; omega)).mono ?_
  rintro e w2 ⟨rfl, hb2⟩
  obtain ⟨hc2, hf2, hz2⟩ := bcell (Gr.tr HB1.out hb2)
  have HB2 := Lib.hid hb2
  have HGW := Lib.hid hgw
  clear hb2 hgw
  go_wp2
  refine leaves_cons (f := 71) (args := #[.pointer (some ⟨w.heap.size + 1 + 1, 0, none⟩)]) (by simp) (by simp [go_sem]) ?_
  refine (catch71_idle ⟨w.heap.size + 1 + 1, 0, none⟩ _).mono ?_
  rintro e u' w'' ⟨rfl, rfl, rfl⟩
  simp [Leaves, settle, results, Try.results41, go_sem, hc2]
  exact ((((bgr (show Below w.heap.size w w1 from HGW.out) (by first | (simp; done) | (simp; omega) | omega) HB2.out).setCell (by first | (simp; done) | (simp; omega) | omega) _).setCell (by first | (simp; done) | (simp; omega) | omega) _).setCell (by first | (simp; done) | (simp; omega) | omega) _)
set_option maxHeartbeats 800000 in
theorem ansShift_range (fl fh bl bh ti ne fa : Int) (v : Value) (l : List Th) (k : Int) (p : Nat) (w : World) (h : ThingsAt l v w) (hv : valid fl fh bl bh ti ne fa l = true) (hk : k < 0 ∨ ((seenOf ti ne fa l).length : Int) ≤ k) (hp : w.cell? ⟨p, 0, none⟩ = some (.int .i64 k)) (hpl : p < w.heap.size) :
    Calls Try.prog 41 #[.agg #[.int .i64 fl, .int .i64 fh, .int .i64 bl, .int .i64 bh, .int .i64 ti, .int .i64 ne, .int .i64 fa, v], .func (.func 42) #[] #[.pointer (some ⟨p, 0, none⟩)]] w fun e w' => e = .returned (.tuple #[.agg #[.int .i64 0, .int .i64 0], .int .i64 2]) ∧ Below w.heap.size w w' := by
  have hmf : ∀ (fn : Fn) (first cap : Array Value) (w : World), (Instr.makeFunc fn first cap).run Try.prog w = .ok (.func fn first cap) w := fun _ _ _ _ => rfl
  have HL := Lib.hid (fun (W : World) (hg : Gr w W) => look_ok fl fh bl bh ti ne fa v l W (ThingsAt.lasts l _ _ _ h hg) hv)
  have HK := Lib.hid hk
  have HP := Lib.hid (fun (W : World) (hg : Gr w W) => ((bcell hg).1 p 0 hpl).trans hp)
  have HPL := Lib.hid hpl
  obtain ⟨vp, vcap, rfl, -⟩ := h.len
  generalize hap : allPw fl fh bl bh ti ne fa l = ap at *
  clear hap
  clear h hv hk hp hpl
  have hal := @cal
  have hfl := @fal
  go_enter_defers Try.func41, Try.ntmps41
  go_wp2_with (go_at_call 73; refine (HL.out _ (((Gr.alloc _ _).tr (Gr.alloc _ _)).tr (Gr.alloc _ _))).mono ?_; rintro e w1 ⟨⟨r, rfl, sv, rfl, hsv⟩, hb1⟩; have HSV := Lib.hid hsv; have HB1 := Lib.hid hb1; clear hsv hb1)
  have hgw := (((Gr.alloc w (Obj.cells #[.int .i64 fl, .int .i64 fh, .int .i64 bl, .int .i64 bh, .int .i64 ti, .int .i64 ne, .int .i64 fa, .slice vp l.length vcap] 26)).tr (Gr.alloc _ _)).tr (Gr.alloc _ _)).tr HB1.out
  have hw1 : w.heap.size + 3 ≤ w1.heap.size := by have := HB1.out.size; simp at this; omega
  refine (shift1_no fl fh bl bh ti ne fa (.slice vp l.length vcap) sv ap.1 ap.2 (seenOf ti ne fa l) k p w1 HSV.out HK.out (HP.out _ hgw) (by have := HPL.out; omega)).mono ?_
  rintro e w2 ⟨rfl, hb2⟩
  obtain ⟨hc2, hf2, hz2⟩ := bcell (Gr.tr HB1.out hb2)
  have hw2 : w.heap.size + 3 ≤ w2.heap.size := by have := hb2.size; omega
  have HGE := Lib.hid (Gr.tr HB1.out hb2)
  have HGW := Lib.hid (hgw.tr hb2)
  clear hb2 hgw
  go_wp2
  refine leaves_cons (f := 71) (args := #[.pointer (some ⟨w.heap.size + 1 + 1, 0, none⟩)]) (by simp) (by simp [go_sem]) ?_
  refine (catch71_panicking (w.heap.size + 1 + 1) 0 2 [] _ (by simp [hc2, go_sem]) (by simp [hf2, go_sem]) (by omega)).mono ?_
  rintro e u' w'' ⟨rfl, rfl, w3, hb3, rfl⟩
  obtain ⟨hc3, hf3, hz3⟩ := bcell (Gr.tr HGE.out hb3)
  simp [Leaves, settle, results, Try.results41, go_sem, hc3]
  exact ((bgr (show Below w.heap.size w _ from HGW.out) (by first | (simp; done) | (simp; omega) | omega) hb3).setCell (by first | (simp; done) | (simp; omega) | omega) _)
set_option maxHeartbeats 800000 in
theorem ansShift_arg (fl fh bl bh ti ne fa : Int) (v : Value) (l : List Th) (k : Int) (p : Nat) (w : World) (h : ThingsAt l v w) (hv : valid fl fh bl bh ti ne fa l = false) (hp : w.cell? ⟨p, 0, none⟩ = some (.int .i64 k)) (hpl : p < w.heap.size) :
    Calls Try.prog 41 #[.agg #[.int .i64 fl, .int .i64 fh, .int .i64 bl, .int .i64 bh, .int .i64 ti, .int .i64 ne, .int .i64 fa, v], .func (.func 42) #[] #[.pointer (some ⟨p, 0, none⟩)]] w fun e w' => e = .returned (.tuple #[.agg #[.int .i64 0, .int .i64 0], .int .i64 1]) ∧ Below w.heap.size w w' := by
  have hmf : ∀ (fn : Fn) (first cap : Array Value) (w : World), (Instr.makeFunc fn first cap).run Try.prog w = .ok (.func fn first cap) w := fun _ _ _ _ => rfl
  have HL := Lib.hid (fun (W : World) (hg : Gr w W) => look_no fl fh bl bh ti ne fa v l W (ThingsAt.lasts l _ _ _ h hg) hv)
  have HP := Lib.hid (fun (W : World) (hg : Gr w W) => ((bcell hg).1 p 0 hpl).trans hp)
  have HPL := Lib.hid hpl
  obtain ⟨vp, vcap, rfl, -⟩ := h.len
  clear h hv hp hpl
  have hal := @cal
  have hfl := @fal
  go_enter_defers Try.func41, Try.ntmps41
  go_wp2_with (go_at_call 73; refine (HL.out _ (((Gr.alloc _ _).tr (Gr.alloc _ _)).tr (Gr.alloc _ _))).mono ?_; rintro e w2 ⟨rfl, hb2⟩; obtain ⟨hc2, hf2, hz2⟩ := bcell hb2; have hw2 : w.heap.size + 3 ≤ w2.heap.size := (by have := hb2.size; simp at this; omega); have HGE := Lib.hid (show Gr _ _ from hb2); have HGW := Lib.hid ((((Gr.alloc _ _).tr (Gr.alloc _ _)).tr (Gr.alloc _ _)).tr hb2); clear hb2)
  refine leaves_cons (f := 71) (args := #[.pointer (some ⟨w.heap.size + 1 + 1, 0, none⟩)]) (by simp) (by simp [go_sem]) ?_
  refine (catch71_panicking (w.heap.size + 1 + 1) 0 1 [] _ (by simp [hc2, go_sem]) (by simp [hf2, go_sem]) (by omega)).mono ?_
  rintro e u' w'' ⟨rfl, rfl, w3, hb3, rfl⟩
  obtain ⟨hc3, hf3, hz3⟩ := bcell (Gr.tr HGE.out hb3)
  simp [Leaves, settle, results, Try.results41, go_sem, hc3]
  exact ((bgr (show Below w.heap.size w _ from HGW.out) (by first | (simp; done) | (simp; omega) | omega) hb3).setCell (by first | (simp; done) | (simp; omega) | omega) _)
end Go.Proofs.Ytofdoadpaedogaa
