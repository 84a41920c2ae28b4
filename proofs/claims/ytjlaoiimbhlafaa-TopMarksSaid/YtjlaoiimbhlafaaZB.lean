import Derived.Test.YtjlaoiimbhlafaaZT15
import Derived.Defers
import Derived.Recover
import Derived.Laws.Pointers
import Derived.RegionTactic
import Derived.ChangeAlike
import Derived.RangeFuncNested
import Derived.RangeFuncBound
import Derived.RangeFuncCalls
import Derived.RangeFuncLeaves
import Derived.Shelf.Abstract
import Derived.Shelf.RegionOpen
import Derived.OwnWalkIn
import Derived.TacticsInMore
import Derived.LoopNIn
import Derived.WalkMore
import Derived.LoopIn
import Derived.Test.YtjlaoiimbhlafaaZA
import Derived.Laws.StructEq
import Derived.RangeFuncFrom
import Derived.Test.YtjlaoiimbhlafaaP0
set_option linter.unusedVariables false
set_option linter.unusedSimpArgs false
namespace Go.Proofs.Ytjlaoiimbhlafaa.Pq
open Go.RowKit

set_option maxHeartbeats 400000 in
theorem catch74_panicking (b : Nat) (x k : Int) (older : List PanicEntry) (w : World) (hc : w.cell? ⟨b, 0, none⟩ = some (.int .i64 x)) (hz : w.frozen? ⟨b, 0, none⟩ = false) (hs : b < w.heap.size) :
    CallsD Try.prog 114 #[.pointer (some ⟨b, 0, none⟩)] (.panicking ({ v := .iface 29 (.int .i64 k), recovered := false } :: older)) w fun e u' w' =>
      e = .returned (.tuple #[]) ∧ u' = .panicking ({ v := .iface 29 (.int .i64 k), recovered := true } :: older) ∧ ∃ w1, Below w.heap.size w w1 ∧ w' = w1.setCell ⟨b, 0, none⟩ (.int .i64 k) := by
  refine callsD_of_wpS Try.func114 rfl fun c₀ cs hu => ?_
  apply wpS_seq
  apply wpS_region
  simp [wpOpsS, go_sem, recoverD, hu, Try.ntmps114, Exit.thenS]
  refine wpS_of_wp ?_
  clear hu
  simp only [Array.replicate_succ, Array.replicate_zero, List.push_toArray, List.append_toArray, List.nil_append, List.cons_append, List.setIfInBounds_toArray, List.set_cons_succ, List.set_cons_zero]
  go_wp2_with (go_at_call 111; refine (errorOf_any _ _).mono ?_; rintro e w1 ⟨rfl, hb1⟩; obtain ⟨hc1, hf1, hz1⟩ := bcell hb1)
  refine ⟨rfl, _, rfl, _, by simp [results, Try.results114, go_sem], rfl, rfl, w1, hb1, rfl⟩
set_option maxHeartbeats 400000 in
theorem catch74_idle (p : Addr) (w : World) :
    CallsD Try.prog 114 #[.pointer (some p)] .returning w fun e u' w' => e = .returned (.tuple #[]) ∧ u' = .returning ∧ w' = w := by
  refine callsD_of_wpS Try.func114 rfl fun c₀ cs hu => ?_
  apply wpS_seq
  apply wpS_region
  simp [wpOpsS, go_sem, recoverD, hu, Try.ntmps114, Exit.thenS]
  refine wpS_of_wp ?_
  simp only [Array.replicate_succ, Array.replicate_zero, List.push_toArray, List.append_toArray, List.nil_append, List.cons_append, List.setIfInBounds_toArray, List.set_cons_succ, List.set_cons_zero]
  have HU := Lib.hid hu
  clear hu
  go_wp2
  refine ⟨rfl, c₀.mode, by cases c₀; rfl, _, by simp [results, Try.results114, go_sem], rfl, HU.out, rfl⟩
set_option maxHeartbeats 800000 in
theorem ans41_ret (fc : FuncId) (caps : Array Value) (x y : Int) (fl fh bl bh ti ne fa : Int) (v : Value) (l : List Th) (w : World) (h : ThingsAt l v w) (hv : valid fl fh bl bh ti ne fa l = true) (hen : ∀ args (W : World), (callFunc fc args).run Try.prog W = .ok (.enter fc args) W) (hcl : ∀ (sv : Value) (W : World), Gr w W → SeenAt (seenOf ti ne fa l) sv W → Calls Try.prog fc (#[.agg #[.int .i64 fl, .int .i64 fh, .int .i64 bl, .int .i64 bh, .int .i64 ti, .int .i64 ne, .int .i64 fa, v, sv, .int .i64 (allPw fl fh bl bh ti ne fa l).1, .int .i64 (allPw fl fh bl bh ti ne fa l).2]] ++ caps) W fun e w' => e = .returned (.agg #[.int .i64 x, .int .i64 y]) ∧ Below W.heap.size W w') :
    Calls Try.prog 83 #[.agg #[.int .i64 fl, .int .i64 fh, .int .i64 bl, .int .i64 bh, .int .i64 ti, .int .i64 ne, .int .i64 fa, v], .func (.func fc) #[] caps] w fun e w' => e = .returned (.tuple #[.agg #[.int .i64 x, .int .i64 y], .int .i64 0]) ∧ Below w.heap.size w w' := by
  have hmf : ∀ (fn : Fn) (first cap : Array Value) (w : World), (Instr.makeFunc fn first cap).run Try.prog w = .ok (.func fn first cap) w := fun _ _ _ _ => rfl
  have HL := Lib.hid (fun (W : World) (hg : Gr w W) => look_ok fl fh bl bh ti ne fa v l W (ThingsAt.lasts l _ _ _ h hg) hv)
  have HCL := Lib.hid hcl
  obtain ⟨vp, vcap, rfl, -⟩ := h.len
  generalize allPw fl fh bl bh ti ne fa l = ap at *
  clear h hv hcl
  have hal := @cal
  have hfl := @fal
  go_enter_defers Try.func83, Try.ntmps83
  go_wp2_with (go_at_call 112; refine (HL.out _ (((Gr.alloc _ _).tr (Gr.alloc _ _)).tr (Gr.alloc _ _))).mono ?_; rintro e w1 ⟨⟨r, rfl, sv, rfl, hsv⟩, hb1⟩; have HSV := Lib.hid hsv; have HB1 := Lib.hid hb1; clear hsv hb1)
  have hgw := (((Gr.alloc w (Obj.cells #[.int .i64 fl, .int .i64 fh, .int .i64 bl, .int .i64 bh, .int .i64 ti, .int .i64 ne, .int .i64 fa, .slice vp l.length vcap] 71)).tr (Gr.alloc _ _)).tr (Gr.alloc _ _)).tr HB1.out
  have hw1 : w.heap.size + 3 ≤ w1.heap.size := by have := HB1.out.size; simp at this; omega
  refine (HCL.out sv w1 hgw HSV.out).mono ?_
  rintro e w2 ⟨rfl, hb2⟩
  obtain ⟨hc2, hf2, hz2⟩ := bcell (Gr.tr HB1.out hb2)
  have HB2 := Lib.hid hb2
  have HGW := Lib.hid hgw
  clear hb2 hgw
  go_wp2
  refine leaves_cons (f := 110) (args := #[.pointer (some ⟨w.heap.size + 1 + 1, 0, none⟩)]) (by simp) (by simp [go_sem]) ?_
  refine (catch71_idle ⟨w.heap.size + 1 + 1, 0, none⟩ _).mono ?_
  rintro e u' w'' ⟨rfl, rfl, rfl⟩
  simp [Leaves, settle, results, Try.results83, go_sem, hc2]
  exact ((((bgr (show Below w.heap.size w w1 from HGW.out) (by first | (simp; done) | (simp; omega) | omega) HB2.out).setCell (by first | (simp; done) | (simp; omega) | omega) _).setCell (by first | (simp; done) | (simp; omega) | omega) _).setCell (by first | (simp; done) | (simp; omega) | omega) _)
set_option maxHeartbeats 800000 in
theorem ans41_pan (fc : FuncId) (caps : Array Value) (k : Int) (fl fh bl bh ti ne fa : Int) (v : Value) (l : List Th) (w : World) (h : ThingsAt l v w) (hv : valid fl fh bl bh ti ne fa l = true) (hen : ∀ args (W : World), (callFunc fc args).run Try.prog W = .ok (.enter fc args) W) (hcl : ∀ (sv : Value) (W : World), Gr w W → SeenAt (seenOf ti ne fa l) sv W → Calls Try.prog fc (#[.agg #[.int .i64 fl, .int .i64 fh, .int .i64 bl, .int .i64 bh, .int .i64 ti, .int .i64 ne, .int .i64 fa, v, sv, .int .i64 (allPw fl fh bl bh ti ne fa l).1, .int .i64 (allPw fl fh bl bh ti ne fa l).2]] ++ caps) W fun e w' => e = .panicked [{ v := .iface 29 (.int .i64 k), recovered := false }] ∧ Below W.heap.size W w') :
    Calls Try.prog 83 #[.agg #[.int .i64 fl, .int .i64 fh, .int .i64 bl, .int .i64 bh, .int .i64 ti, .int .i64 ne, .int .i64 fa, v], .func (.func fc) #[] caps] w fun e w' => e = .returned (.tuple #[.agg #[.int .i64 0, .int .i64 0], .int .i64 k]) ∧ Below w.heap.size w w' := by
  have hmf : ∀ (fn : Fn) (first cap : Array Value) (w : World), (Instr.makeFunc fn first cap).run Try.prog w = .ok (.func fn first cap) w := fun _ _ _ _ => rfl
  have HL := Lib.hid (fun (W : World) (hg : Gr w W) => look_ok fl fh bl bh ti ne fa v l W (ThingsAt.lasts l _ _ _ h hg) hv)
  have HCL := Lib.hid hcl
  obtain ⟨vp, vcap, rfl, -⟩ := h.len
  generalize allPw fl fh bl bh ti ne fa l = ap at *
  clear h hv hcl
  have hal := @cal
  have hfl := @fal
  go_enter_defers Try.func83, Try.ntmps83
  go_wp2_with (go_at_call 112; refine (HL.out _ (((Gr.alloc _ _).tr (Gr.alloc _ _)).tr (Gr.alloc _ _))).mono ?_; rintro e w1 ⟨⟨r, rfl, sv, rfl, hsv⟩, hb1⟩; have HSV := Lib.hid hsv; have HB1 := Lib.hid hb1; clear hsv hb1)
  have hgw := (((Gr.alloc w (Obj.cells #[.int .i64 fl, .int .i64 fh, .int .i64 bl, .int .i64 bh, .int .i64 ti, .int .i64 ne, .int .i64 fa, .slice vp l.length vcap] 71)).tr (Gr.alloc _ _)).tr (Gr.alloc _ _)).tr HB1.out
  have hw1 : w.heap.size + 3 ≤ w1.heap.size := by have := HB1.out.size; simp at this; omega
  refine (HCL.out sv w1 hgw HSV.out).mono ?_
  rintro e w2 ⟨rfl, hb2⟩
  obtain ⟨hc2, hf2, hz2⟩ := bcell (Gr.tr HB1.out hb2)
  have hw2 : w.heap.size + 3 ≤ w2.heap.size := by have := hb2.size; omega
  have HGE := Lib.hid (Gr.tr HB1.out hb2)
  have HGW := Lib.hid (hgw.tr hb2)
  clear hb2 hgw
  go_wp2
  refine leaves_cons (f := 110) (args := #[.pointer (some ⟨w.heap.size + 1 + 1, 0, none⟩)]) (by simp) (by simp [go_sem]) ?_
  refine (catch71_panicking (w.heap.size + 1 + 1) 0 k [] _ (by simp [hc2, go_sem]) (by simp [hf2, go_sem]) (by omega)).mono ?_
  rintro e u' w'' ⟨rfl, rfl, w3, hb3, rfl⟩
  obtain ⟨hc3, hf3, hz3⟩ := bcell (Gr.tr HGE.out hb3)
  simp [Leaves, settle, results, Try.results83, go_sem, hc3]
  exact ((bgr (show Below w.heap.size w _ from HGW.out) (by first | (simp; done) | (simp; omega) | omega) hb3).setCell (by first | (simp; done) | (simp; omega) | omega) _)
set_option maxHeartbeats 800000 in
theorem ans41_arg (fc : FuncId) (caps : Array Value)  (fl fh bl bh ti ne fa : Int) (v : Value) (l : List Th) (w : World) (h : ThingsAt l v w) (hv : valid fl fh bl bh ti ne fa l = false)  :
    Calls Try.prog 83 #[.agg #[.int .i64 fl, .int .i64 fh, .int .i64 bl, .int .i64 bh, .int .i64 ti, .int .i64 ne, .int .i64 fa, v], .func (.func fc) #[] caps] w fun e w' => e = .returned (.tuple #[.agg #[.int .i64 0, .int .i64 0], .int .i64 1]) ∧ Below w.heap.size w w' := by
  have hmf : ∀ (fn : Fn) (first cap : Array Value) (w : World), (Instr.makeFunc fn first cap).run Try.prog w = .ok (.func fn first cap) w := fun _ _ _ _ => rfl
  have HL := Lib.hid (fun (W : World) (hg : Gr w W) => look_no fl fh bl bh ti ne fa v l W (ThingsAt.lasts l _ _ _ h hg) hv)
  obtain ⟨vp, vcap, rfl, -⟩ := h.len
  clear h hv
  have hal := @cal
  have hfl := @fal
  go_enter_defers Try.func83, Try.ntmps83
  go_wp2_with (go_at_call 112; refine (HL.out _ (((Gr.alloc _ _).tr (Gr.alloc _ _)).tr (Gr.alloc _ _))).mono ?_; rintro e w2 ⟨rfl, hb2⟩; obtain ⟨hc2, hf2, hz2⟩ := bcell hb2; have hw2 : w.heap.size + 3 ≤ w2.heap.size := (by have := hb2.size; simp at this; omega); have HGE := Lib.hid (show Gr _ _ from hb2); have HGW := Lib.hid ((((Gr.alloc _ _).tr (Gr.alloc _ _)).tr (Gr.alloc _ _)).tr hb2); clear hb2)
  refine leaves_cons (f := 110) (args := #[.pointer (some ⟨w.heap.size + 1 + 1, 0, none⟩)]) (by simp) (by simp [go_sem]) ?_
  refine (catch71_panicking (w.heap.size + 1 + 1) 0 1 [] _ (by simp [hc2, go_sem]) (by simp [hf2, go_sem]) (by omega)).mono ?_
  rintro e u' w'' ⟨rfl, rfl, w3, hb3, rfl⟩
  obtain ⟨hc3, hf3, hz3⟩ := bcell (Gr.tr HGE.out hb3)
  simp [Leaves, settle, results, Try.results83, go_sem, hc3]
  exact ((bgr (show Below w.heap.size w _ from HGW.out) (by first | (simp; done) | (simp; omega) | omega) hb3).setCell (by first | (simp; done) | (simp; omega) | omega) _)
set_option maxHeartbeats 800000 in
theorem ans46_ret (fc : FuncId) (caps : Array Value) (x : Int) (fl fh bl bh ti ne fa : Int) (v : Value) (l : List Th) (w : World) (h : ThingsAt l v w) (hv : valid fl fh bl bh ti ne fa l = true) (hen : ∀ args (W : World), (callFunc fc args).run Try.prog W = .ok (.enter fc args) W) (hcl : ∀ (sv : Value) (W : World), Gr w W → SeenAt (seenOf ti ne fa l) sv W → Calls Try.prog fc (#[.agg #[.int .i64 fl, .int .i64 fh, .int .i64 bl, .int .i64 bh, .int .i64 ti, .int .i64 ne, .int .i64 fa, v, sv, .int .i64 (allPw fl fh bl bh ti ne fa l).1, .int .i64 (allPw fl fh bl bh ti ne fa l).2]] ++ caps) W fun e w' => e = .returned (.int .i64 x) ∧ Below W.heap.size W w') :
    Calls Try.prog 86 #[.agg #[.int .i64 fl, .int .i64 fh, .int .i64 bl, .int .i64 bh, .int .i64 ti, .int .i64 ne, .int .i64 fa, v], .func (.func fc) #[] caps] w fun e w' => e = .returned (.tuple #[.int .i64 x, .int .i64 0]) ∧ Below w.heap.size w w' := by
  have hmf : ∀ (fn : Fn) (first cap : Array Value) (w : World), (Instr.makeFunc fn first cap).run Try.prog w = .ok (.func fn first cap) w := fun _ _ _ _ => rfl
  have HL := Lib.hid (fun (W : World) (hg : Gr w W) => look_ok fl fh bl bh ti ne fa v l W (ThingsAt.lasts l _ _ _ h hg) hv)
  have HCL := Lib.hid hcl
  obtain ⟨vp, vcap, rfl, -⟩ := h.len
  generalize allPw fl fh bl bh ti ne fa l = ap at *
  clear h hv hcl
  have hal := @cal
  have hfl := @fal
  go_enter_defers Try.func86, Try.ntmps86
  go_wp2_with (go_at_call 112; refine (HL.out _ ((Gr.alloc _ _).tr (Gr.alloc _ _))).mono ?_; rintro e w1 ⟨⟨r, rfl, sv, rfl, hsv⟩, hb1⟩; have HSV := Lib.hid hsv; have HB1 := Lib.hid hb1; clear hsv hb1)
  have hgw := ((Gr.alloc w (Obj.cells #[.int .i64 fl, .int .i64 fh, .int .i64 bl, .int .i64 bh, .int .i64 ti, .int .i64 ne, .int .i64 fa, .slice vp l.length vcap] 71)).tr (Gr.alloc _ _)).tr HB1.out
  have hw1 : w.heap.size + 2 ≤ w1.heap.size := by have := HB1.out.size; simp at this; omega
  refine (HCL.out sv w1 hgw HSV.out).mono ?_
  rintro e w2 ⟨rfl, hb2⟩
  obtain ⟨hc2, hf2, hz2⟩ := bcell (Gr.tr HB1.out hb2)
  have HB2 := Lib.hid hb2
  have HGW := Lib.hid hgw
  clear hb2 hgw
  go_wp2
  refine leaves_cons (f := 114) (args := #[.pointer (some ⟨w.heap.size + 1, 0, none⟩)]) (by simp) (by simp [go_sem]) ?_
  refine (catch74_idle ⟨w.heap.size + 1, 0, none⟩ _).mono ?_
  rintro e u' w'' ⟨rfl, rfl, rfl⟩
  simp [Leaves, settle, results, Try.results86, go_sem, hc2]
  exact ((bgr (show Below w.heap.size w w1 from HGW.out) (by first | (simp; done) | (simp; omega) | omega) HB2.out).setCell (by first | (simp; done) | (simp; omega) | omega) _)
set_option maxHeartbeats 800000 in
theorem ans46_pan (fc : FuncId) (caps : Array Value) (k : Int) (fl fh bl bh ti ne fa : Int) (v : Value) (l : List Th) (w : World) (h : ThingsAt l v w) (hv : valid fl fh bl bh ti ne fa l = true) (hen : ∀ args (W : World), (callFunc fc args).run Try.prog W = .ok (.enter fc args) W) (hcl : ∀ (sv : Value) (W : World), Gr w W → SeenAt (seenOf ti ne fa l) sv W → Calls Try.prog fc (#[.agg #[.int .i64 fl, .int .i64 fh, .int .i64 bl, .int .i64 bh, .int .i64 ti, .int .i64 ne, .int .i64 fa, v, sv, .int .i64 (allPw fl fh bl bh ti ne fa l).1, .int .i64 (allPw fl fh bl bh ti ne fa l).2]] ++ caps) W fun e w' => e = .panicked [{ v := .iface 29 (.int .i64 k), recovered := false }] ∧ Below W.heap.size W w') :
    Calls Try.prog 86 #[.agg #[.int .i64 fl, .int .i64 fh, .int .i64 bl, .int .i64 bh, .int .i64 ti, .int .i64 ne, .int .i64 fa, v], .func (.func fc) #[] caps] w fun e w' => e = .returned (.tuple #[.int .i64 0, .int .i64 k]) ∧ Below w.heap.size w w' := by
  have hmf : ∀ (fn : Fn) (first cap : Array Value) (w : World), (Instr.makeFunc fn first cap).run Try.prog w = .ok (.func fn first cap) w := fun _ _ _ _ => rfl
  have HL := Lib.hid (fun (W : World) (hg : Gr w W) => look_ok fl fh bl bh ti ne fa v l W (ThingsAt.lasts l _ _ _ h hg) hv)
  have HCL := Lib.hid hcl
  obtain ⟨vp, vcap, rfl, -⟩ := h.len
  generalize allPw fl fh bl bh ti ne fa l = ap at *
  clear h hv hcl
  have hal := @cal
  have hfl := @fal
  go_enter_defers Try.func86, Try.ntmps86
  go_wp2_with (go_at_call 112; refine (HL.out _ ((Gr.alloc _ _).tr (Gr.alloc _ _))).mono ?_; rintro e w1 ⟨⟨r, rfl, sv, rfl, hsv⟩, hb1⟩; have HSV := Lib.hid hsv; have HB1 := Lib.hid hb1; clear hsv hb1)
  have hgw := ((Gr.alloc w (Obj.cells #[.int .i64 fl, .int .i64 fh, .int .i64 bl, .int .i64 bh, .int .i64 ti, .int .i64 ne, .int .i64 fa, .slice vp l.length vcap] 71)).tr (Gr.alloc _ _)).tr HB1.out
  have hw1 : w.heap.size + 2 ≤ w1.heap.size := by have := HB1.out.size; simp at this; omega
  refine (HCL.out sv w1 hgw HSV.out).mono ?_
  rintro e w2 ⟨rfl, hb2⟩
  obtain ⟨hc2, hf2, hz2⟩ := bcell (Gr.tr HB1.out hb2)
  have hw2 : w.heap.size + 2 ≤ w2.heap.size := by have := hb2.size; omega
  have HGE := Lib.hid (Gr.tr HB1.out hb2)
  have HGW := Lib.hid (hgw.tr hb2)
  clear hb2 hgw
  go_wp2
  refine leaves_cons (f := 114) (args := #[.pointer (some ⟨w.heap.size + 1, 0, none⟩)]) (by simp) (by simp [go_sem]) ?_
  refine (catch74_panicking (w.heap.size + 1) 0 k [] _ (by simp [hc2, go_sem]) (by simp [hf2, go_sem]) (by omega)).mono ?_
  rintro e u' w'' ⟨rfl, rfl, w3, hb3, rfl⟩
  obtain ⟨hc3, hf3, hz3⟩ := bcell (Gr.tr HGE.out hb3)
  simp [Leaves, settle, results, Try.results86, go_sem, hc3]
  exact ((bgr (show Below w.heap.size w _ from HGW.out) (by first | (simp; done) | (simp; omega) | omega) hb3).setCell (by first | (simp; done) | (simp; omega) | omega) _)
set_option maxHeartbeats 800000 in
theorem ans46_arg (fc : FuncId) (caps : Array Value)  (fl fh bl bh ti ne fa : Int) (v : Value) (l : List Th) (w : World) (h : ThingsAt l v w) (hv : valid fl fh bl bh ti ne fa l = false)  :
    Calls Try.prog 86 #[.agg #[.int .i64 fl, .int .i64 fh, .int .i64 bl, .int .i64 bh, .int .i64 ti, .int .i64 ne, .int .i64 fa, v], .func (.func fc) #[] caps] w fun e w' => e = .returned (.tuple #[.int .i64 0, .int .i64 1]) ∧ Below w.heap.size w w' := by
  have hmf : ∀ (fn : Fn) (first cap : Array Value) (w : World), (Instr.makeFunc fn first cap).run Try.prog w = .ok (.func fn first cap) w := fun _ _ _ _ => rfl
  have HL := Lib.hid (fun (W : World) (hg : Gr w W) => look_no fl fh bl bh ti ne fa v l W (ThingsAt.lasts l _ _ _ h hg) hv)
  obtain ⟨vp, vcap, rfl, -⟩ := h.len
  clear h hv
  have hal := @cal
  have hfl := @fal
  go_enter_defers Try.func86, Try.ntmps86
  go_wp2_with (go_at_call 112; refine (HL.out _ ((Gr.alloc _ _).tr (Gr.alloc _ _))).mono ?_; rintro e w2 ⟨rfl, hb2⟩; obtain ⟨hc2, hf2, hz2⟩ := bcell hb2; have hw2 : w.heap.size + 2 ≤ w2.heap.size := (by have := hb2.size; simp at this; omega); have HGE := Lib.hid (show Gr _ _ from hb2); have HGW := Lib.hid (((Gr.alloc _ _).tr (Gr.alloc _ _)).tr hb2); clear hb2)
  refine leaves_cons (f := 114) (args := #[.pointer (some ⟨w.heap.size + 1, 0, none⟩)]) (by simp) (by simp [go_sem]) ?_
  refine (catch74_panicking (w.heap.size + 1) 0 1 [] _ (by simp [hc2, go_sem]) (by simp [hf2, go_sem]) (by omega)).mono ?_
  rintro e u' w'' ⟨rfl, rfl, w3, hb3, rfl⟩
  obtain ⟨hc3, hf3, hz3⟩ := bcell (Gr.tr HGE.out hb3)
  simp [Leaves, settle, results, Try.results86, go_sem, hc3]
  exact ((bgr (show Below w.heap.size w _ from HGW.out) (by first | (simp; done) | (simp; omega) | omega) hb3).setCell (by first | (simp; done) | (simp; omega) | omega) _)
end Go.Proofs.Ytjlaoiimbhlafaa.Pq

namespace Go.Proofs.Ytjlaoiimbhlafaa.Pq
open Go.RowKit

set_option maxHeartbeats 800000 in
theorem Why_walk (fl fh bl bh ti ne fa : Int) (vp : Option Addr) (vn vc : Nat) (k x : Int) (c : Int) (w : World) (hc : ∀ (W : World) (q : Nat), Gr w W → W.cell? ⟨q, 0, none⟩ = some (.int .i64 k) → q < W.heap.size → Calls Try.prog 86 #[.agg #[.int .i64 fl, .int .i64 fh, .int .i64 bl, .int .i64 bh, .int .i64 ti, .int .i64 ne, .int .i64 fa, .slice vp vn vc], .func (.func 87) #[] #[.pointer (some ⟨q, 0, none⟩)]] W fun e w' => e = .returned (.tuple #[.int .i64 x, .int .i64 c]) ∧ Below W.heap.size W w') :
    Calls Try.prog 46 #[.agg #[.int .i64 fl, .int .i64 fh, .int .i64 bl, .int .i64 bh, .int .i64 ti, .int .i64 ne, .int .i64 fa, .slice vp vn vc], .int .i64 k] w fun e w' => e = .returned (.tuple #[.int .i64 x, .int .i64 c]) ∧ Below w.heap.size w w' := by
  have hmf : ∀ (fn : Fn) (first cap : Array Value) (w : World), (Instr.makeFunc fn first cap).run Try.prog w = .ok (.func fn first cap) w := fun _ _ _ _ => rfl
  have HC := Lib.hid hc
  clear hc
  have hal := @cal
  have hfl := @fal
  go_enter Try.func46, Try.ntmps46
  go_wp2_with (go_at_call 86; refine (HC.out _ _ ((Gr.alloc _ _).tr (Gr.alloc _ _)) (by simp [go_sem]) (by first | (simp; done) | (simp; omega))).mono ?_; rintro e w1 ⟨rfl, hb1⟩; obtain ⟨hc1, hf1, hz1⟩ := bcell hb1)
  go_ret2
  exact ⟨rfl, (bgr (((Below.refl _ _).alloc (by first | (simp; done) | (simp; omega) | omega) _).alloc (by first | (simp; done) | (simp; omega) | omega) _) (by first | (simp; done) | (simp; omega) | omega) hb1)⟩
set_option maxHeartbeats 800000 in
theorem Power_walk (fl fh bl bh ti ne fa : Int) (vp : Option Addr) (vn vc : Nat) (x y : Int) (c : Int) (w : World) (hc : ∀ (W : World), Gr w W → Calls Try.prog 83 #[.agg #[.int .i64 fl, .int .i64 fh, .int .i64 bl, .int .i64 bh, .int .i64 ti, .int .i64 ne, .int .i64 fa, .slice vp vn vc], .func (.func 89) #[] #[]] W fun e w' => e = .returned (.tuple #[.agg #[.int .i64 x, .int .i64 y], .int .i64 c]) ∧ Below W.heap.size W w') :
    Calls Try.prog 82 #[.agg #[.int .i64 fl, .int .i64 fh, .int .i64 bl, .int .i64 bh, .int .i64 ti, .int .i64 ne, .int .i64 fa, .slice vp vn vc]] w fun e w' => e = .returned (.tuple #[.agg #[.int .i64 x, .int .i64 y], .int .i64 c]) ∧ Below w.heap.size w w' := by
  have hmf : ∀ (fn : Fn) (first cap : Array Value) (w : World), (Instr.makeFunc fn first cap).run Try.prog w = .ok (.func fn first cap) w := fun _ _ _ _ => rfl
  have HC := Lib.hid hc
  clear hc
  have hal := @cal
  have hfl := @fal
  go_enter Try.func82, Try.ntmps82
  go_wp2_with (go_at_call 83; refine (HC.out _  ((Gr.alloc _ _).tr (Gr.alloc _ _)) ).mono ?_; rintro e w1 ⟨rfl, hb1⟩; obtain ⟨hc1, hf1, hz1⟩ := bcell hb1)
  exact bodyPost_ret (v := .tuple #[.agg #[.int .i64 x, .int .i64 y], .int .i64 c]) (by simp [results, Try.results82, go_sem, hc1]) rfl ⟨rfl, (((bgr (((Below.refl _ _).alloc (by first | (simp; done) | (simp; omega) | omega) _).alloc (by first | (simp; done) | (simp; omega) | omega) _) (by first | (simp; done) | (simp; omega) | omega) hb1).setCell (by first | (simp; done) | (simp; omega) | omega) _).setCell (by first | (simp; done) | (simp; omega) | omega) _)⟩
set_option maxHeartbeats 800000 in
theorem Shift_walk (fl fh bl bh ti ne fa : Int) (vp : Option Addr) (vn vc : Nat) (k x y : Int) (c : Int) (w : World) (hc : ∀ (W : World) (q : Nat), Gr w W → W.cell? ⟨q, 0, none⟩ = some (.int .i64 k) → q < W.heap.size → Calls Try.prog 83 #[.agg #[.int .i64 fl, .int .i64 fh, .int .i64 bl, .int .i64 bh, .int .i64 ti, .int .i64 ne, .int .i64 fa, .slice vp vn vc], .func (.func 84) #[] #[.pointer (some ⟨q, 0, none⟩)]] W fun e w' => e = .returned (.tuple #[.agg #[.int .i64 x, .int .i64 y], .int .i64 c]) ∧ Below W.heap.size W w') :
    Calls Try.prog 45 #[.agg #[.int .i64 fl, .int .i64 fh, .int .i64 bl, .int .i64 bh, .int .i64 ti, .int .i64 ne, .int .i64 fa, .slice vp vn vc], .int .i64 k] w fun e w' => e = .returned (.tuple #[.agg #[.int .i64 x, .int .i64 y], .int .i64 c]) ∧ Below w.heap.size w w' := by
  have hmf : ∀ (fn : Fn) (first cap : Array Value) (w : World), (Instr.makeFunc fn first cap).run Try.prog w = .ok (.func fn first cap) w := fun _ _ _ _ => rfl
  have HC := Lib.hid hc
  clear hc
  have hal := @cal
  have hfl := @fal
  go_enter Try.func45, Try.ntmps45
  go_wp2_with (go_at_call 83; refine (HC.out _ _ (((Gr.alloc _ _).tr (Gr.alloc _ _)).tr (Gr.alloc _ _)) (by simp [go_sem]) (by first | (simp; done) | (simp; omega))).mono ?_; rintro e w1 ⟨rfl, hb1⟩; obtain ⟨hc1, hf1, hz1⟩ := bcell hb1)
  exact bodyPost_ret (v := .tuple #[.agg #[.int .i64 x, .int .i64 y], .int .i64 c]) (by simp [results, Try.results45, go_sem, hc1]) rfl ⟨rfl, (((bgr ((((Below.refl _ _).alloc (by first | (simp; done) | (simp; omega) | omega) _).alloc (by first | (simp; done) | (simp; omega) | omega) _).alloc (by first | (simp; done) | (simp; omega) | omega) _) (by first | (simp; done) | (simp; omega) | omega) hb1).setCell (by first | (simp; done) | (simp; omega) | omega) _).setCell (by first | (simp; done) | (simp; omega) | omega) _)⟩
end Go.Proofs.Ytjlaoiimbhlafaa.Pq

namespace Go.Proofs.Ytjlaoiimbhlafaa.Pq
open Go.RowKit


/-- The things, among the first k, that can't stand still with this power. -/
def movedTo (l : List Sg) (p : Int) : Nat → Nat
  | 0 => 0
  | k + 1 => if ((l[k]?).map fun s => s.why p p).getD 0 = 0 then movedTo l p k else movedTo l p k ||| 2 ^ k
theorem movedTo_lt (l : List Sg) (p : Int) : ∀ k, movedTo l p k < 2 ^ k
  | 0 => by simp [movedTo]
  | k + 1 => by
    have h := movedTo_lt l p k
    have h1 : 2 ^ k < 2 ^ (k + 1) := by rw [Nat.pow_succ]; have := Nat.two_pow_pos k; omega
    unfold movedTo
    split
    · omega
    · exact Nat.or_lt_two_pow (by omega) h1
theorem movedTo_small (l : List Sg) (p : Int) (k : Nat) (h : k ≤ 12) : movedTo l p k < 4096 := by
  have h1 := movedTo_lt l p k
  have h2 : 2 ^ k ≤ 2 ^ 12 := Nat.pow_le_pow_right (by decide) h
  omega
theorem ret_same' {a b : Nat} (h : a = b) : Value.int .i64 (b : Int) = Value.int .i64 (a : Int) := by rw [h]
theorem ret_same {v v' : Value} (h : v = v') : Ending.returned v = Ending.returned v' := by rw [h]
end Go.Proofs.Ytjlaoiimbhlafaa.Pq

namespace Go.Proofs.Ytjlaoiimbhlafaa.Pq
open Go.RowKit Go.Shelf
attribute [local go_sem] Oper.semAt_some


/-- The ends of the powers with which a thing stands still. -/
def tryOf (plo phi : Int) (s : Sg) : List Int := if (ovl (plo, phi) s.spw).1 ≤ (ovl (plo, phi) s.spw).2 then [(ovl (plo, phi) s.spw).1, (ovl (plo, phi) s.spw).2] else []
def triesList (plo phi : Int) (l : List Sg) : List Int := [plo, phi] ++ l.flatMap (tryOf plo phi)
/-- All blocks of cells but one lie as they lay. -/
def KeepBut (q : Nat) (W W' : World) : Prop := W.heap.size ≤ W'.heap.size ∧ ∀ k o, k ≠ q → W.heap[k]? = some o → o.isCells = true → W'.heap[k]? = some o
theorem KeepBut.trans {q : Nat} {A B C : World} (h : KeepBut q A B) (k : KeepBut q B C) : KeepBut q A C := ⟨Nat.le_trans h.1 k.1, fun i o hq hi hc => k.2 i o hq (h.2 i o hq hi hc) hc⟩
theorem KeepBut.of {q : Nat} {A B : World} (h : Gr A B) : KeepBut q A B := ⟨h.size, fun i _o _ hi _ => (h.block i (Array.getElem?_eq_some_iff.1 hi).1).trans hi⟩
theorem KeepBut.box {q : Nat} {A B : World} (h : KeepBut q A B) {b : Nat} {vs : List Value} {T : TypeId} (hb : Box A b vs T) (hq : b ≠ q) : Box B b vs T := h.2 b _ hq hb rfl
theorem KeepBut.cell {q : Nat} {A B : World} (h : KeepBut q A B) {b i : Nat} {x : Value} (hq : b ≠ q) (hc : A.cell? ⟨b, i, none⟩ = some x) : B.cell? ⟨b, i, none⟩ = some x := by
  obtain ⟨o, ho, hk⟩ := cells_of_cell hc
  have := h.2 b o hq ho hk
  rw [World.cell?_of_block (w := A) (this.trans ho.symm)]; exact hc
theorem KeepBut.seen {q : Nat} {A B : World} (h : KeepBut q A B) {l : List Sg} {v : Value} {A0 : World} (hq : A0.heap.size ≤ q) (h0 : SeenAt l v A0) (hg : Gr A0 A) : SeenAt l v B := by
  rcases h0 with h0 | ⟨b, o, cap, h1, h2, h3, h4⟩
  · exact .inl h0
  · have h5 := hg.size
    have h6 := h.1
    refine .inr ⟨b, o, cap, h1, by omega, h3, fun i s hi => ?_⟩
    have ⟨x1, x2, x3, x4⟩ := h4 i s hi
    have e : ∀ {i x}, A0.cell? ⟨b, i, none⟩ = some x → B.cell? ⟨b, i, none⟩ = some x := fun hx => h.cell (by omega) (((bcell hg).1 _ _ h2).trans hx)
    exact ⟨e x1, e x2, e x3, e x4⟩
end Go.Proofs.Ytjlaoiimbhlafaa.Pq

namespace Go.Proofs.Ytjlaoiimbhlafaa.Pq
open Go.RowKit

/-- How far away a stranger is that has one of these shifts with one of these powers. -/
def dist (n f plo phi slo shi : Int) : Int × Int := ovl (n, f) (plo / (shi + 1) + 1, if 0 < slo then phi / slo else f)
theorem dist_pos {n f plo phi slo shi : Int} (h : 0 < slo) : dist n f plo phi slo shi = ovl (n, f) (plo / (shi + 1) + 1, phi / slo) := by unfold dist; rw [if_pos h]
theorem dist_neg {n f plo phi slo shi : Int} (h : ¬ 0 < slo) : dist n f plo phi slo shi = ovl (n, f) (plo / (shi + 1) + 1, f) := by unfold dist; rw [if_neg h]
theorem quo_le {a b m : Int} (h0 : 0 ≤ a) (h1 : a ≤ m) (h2 : 1 ≤ b) : 0 ≤ a / b ∧ a / b ≤ m := by
  constructor
  · exact Int.ediv_nonneg h0 (by omega)
  · have := Int.ediv_le_self b h0; omega
end Go.Proofs.Ytjlaoiimbhlafaa.Pq

namespace Go.Proofs.Ytjlaoiimbhlafaa.Pq
open Go.RowKit Go.Shelf
attribute [local go_sem] Oper.semAt_some

theorem eq92 (a b c d : Int) (w : World) : (binOp .eql 203 (.agg #[.int .i64 a, .int .i64 b]) (.agg #[.int .i64 c, .int .i64 d])).run Try.prog w = .ok (.bool (a == c && b == d)) w := by
  have hS : Try.prog.underlying 203 = some (.struct (Try.prog.fieldsOf 203)) := by kernel_rfl
  rw [run_eql_struct, run_equalIn_agg _ _ _ _ _ hS (by kernel_rfl)]
  simp only [Program.fieldsOf, Try.underlying203]
  simp [Op.eqFields, go_sem]
  by_cases h1 : a = c <;> by_cases h2 : b = d <;> simp [h1, h2]
theorem eqg92 (x y : Operand) (xs ys : Array Value) (w : World) : (eqGuard .eql 203 x y (.agg xs) (.agg ys)).run Try.prog w = .ok () w := run_eqGuard_agg w _ _ _ _ _ _ (by kernel_rfl)
theorem eq23 (a b c d : Int) (w : World) : (binOp .eql 24 (.agg #[.int .i64 a, .int .i64 b]) (.agg #[.int .i64 c, .int .i64 d])).run Try.prog w = .ok (.bool (a == c && b == d)) w := by
  have hS : Try.prog.underlying 24 = some (.struct (Try.prog.fieldsOf 24)) := by kernel_rfl
  rw [run_eql_struct, run_equalIn_agg _ _ _ _ _ hS (by kernel_rfl)]
  simp only [Program.fieldsOf, Try.underlying24]
  simp [Op.eqFields, go_sem]
  by_cases h1 : a = c <;> by_cases h2 : b = d <;> simp [h1, h2]
theorem eqg23 (x y : Operand) (xs ys : Array Value) (w : World) : (eqGuard .eql 24 x y (.agg xs) (.agg ys)).run Try.prog w = .ok () w := run_eqGuard_agg w _ _ _ _ _ _ (by kernel_rfl)

structure Best where
  many : Int
  moved : Int
  lo : Int
  hi : Int
def befB (m1 s1 m2 s2 : Int) : Bool := if m1 = m2 then decide (s1 < s2) else decide (m1 < m2)
/-- The best set so far, when a power more is tried. -/
def Best.take (l : List Sg) (b : Best) (x : Int) : Best :=
  if ((cnt (movedTo l x l.length) : Nat) : Int) = b.many ∧ ((movedTo l x l.length : Nat) : Int) = b.moved then { b with lo := imin b.lo x, hi := imax b.hi x }
  else if befB (cnt (movedTo l x l.length) : Nat) (movedTo l x l.length : Nat) b.many b.moved then ⟨(cnt (movedTo l x l.length) : Nat), (movedTo l x l.length : Nat), x, x⟩ else b
def Best.of (l : List Sg) (xs : List Int) : Best := xs.foldl (Best.take l) ⟨l.length + 1, 0, 0, 0⟩
theorem Best.of_snoc (l : List Sg) (xs : List Int) (x : Int) : Best.of l (xs ++ [x]) = (Best.of l xs).take l x := by simp [Best.of]
def Best.vals (b : Best) : List Value := [.int .i64 b.many, .int .i64 b.moved, .int .i64 b.lo, .int .i64 b.hi]
theorem _root_.Go.Proofs.Ytjlaoiimbhlafaa.Box.own {W W' : World} {row : Option Nat} {b : Nat} {vs : List Value} {T : TypeId} (h : Box W b vs T) (hg : W.grownBy W' row) (hr : ∀ r, row = some r → ∃ o : Obj, W.heap[r]? = some o ∧ o.isCells = false) : Box W' b vs T :=
  h.grown hg fun e => by
    obtain ⟨o, ho, hc⟩ := hr b e.symm
    unfold Box at h
    rw [h] at ho
    cases ho
    cases hc
theorem SeenAt.ownb {W W' : World} {row : Option Nat} {l : List Sg} {v : Value} (h : SeenAt l v W) (hg : W.grownBy W' row) (hr : ∀ r, row = some r → ∃ o : Obj, W.heap[r]? = some o ∧ o.isCells = false) : SeenAt l v W' := by
  rcases h with h | ⟨b, o, cap, h1, h2, h3, h4⟩
  · exact .inl h
  · refine .inr ⟨b, o, cap, h1, Nat.lt_of_lt_of_le h2 hg.size, h3, fun i s hi => ?_⟩
    have ⟨x1, x2, x3, x4⟩ := h4 i s hi
    exact ⟨cell_kept x1 hg hr, cell_kept x2 hg hr, cell_kept x3 hg hr, cell_kept x4 hg hr⟩
theorem KeepBut.putObj {q : Nat} {w : World} (W : World) (l : Nat) (o o' : Obj) (_ : w.heap.size ≤ l) (h : W.heap[l]? = some o) (hc : o.isCells = false) (_ : o.isWalk = false) : KeepBut q W (W.putObj l o') :=
  ⟨(grownBy_putObj' W l o').size, fun k x _ hk hx => by
    refine ((grownBy_putObj' W l o').block k (Array.getElem?_eq_some_iff.1 hk).1 fun e => ?_).trans hk
    have e' : l = k := (Option.some.inj e).symm
    subst e'
    rw [h] at hk
    cases hk
    rw [hc] at hx
    cases hx⟩
theorem keepsOthers_of_gr {A B : World} (h : Gr A B) : KeepsOthers A B := ⟨h.size, fun k _o hk _ => (h.block k (Array.getElem?_eq_some_iff.1 hk).1).trans hk⟩
theorem KeepBut.set (W : World) (q i : Nat) (v : Value) : KeepBut q W (W.setCell ⟨q, i, none⟩ v) :=
  ⟨by simp, fun k o hq hk _ => (Below.heap_setCell _ _ _ _ (by simpa using hq)).trans hk⟩
theorem _root_.Go.Proofs.Ytjlaoiimbhlafaa.Box.eleven {w : World} {b : Nat} {x0 x1 x2 x3 x4 x5 x6 x7 x8 x9 x10 : Value} {T : TypeId} (h : Box w b [x0, x1, x2, x3, x4, x5, x6, x7, x8, x9, x10] T) :
    w.cell? ⟨b, 0, none⟩ = some x0 ∧ w.cell? ⟨b, 1, none⟩ = some x1 ∧ w.cell? ⟨b, 2, none⟩ = some x2 ∧ w.cell? ⟨b, 3, none⟩ = some x3 ∧ w.cell? ⟨b, 4, none⟩ = some x4 ∧ w.cell? ⟨b, 5, none⟩ = some x5 ∧ w.cell? ⟨b, 6, none⟩ = some x6 ∧ w.cell? ⟨b, 7, none⟩ = some x7 ∧ w.cell? ⟨b, 8, none⟩ = some x8 ∧ w.cell? ⟨b, 9, none⟩ = some x9 ∧ w.cell? ⟨b, 10, none⟩ = some x10 :=
  ⟨h.cell rfl, h.cell rfl, h.cell rfl, h.cell rfl, h.cell rfl, h.cell rfl, h.cell rfl, h.cell rfl, h.cell rfl, h.cell rfl, h.cell rfl⟩
end Go.Proofs.Ytjlaoiimbhlafaa.Pq

namespace Go.Proofs.Ytjlaoiimbhlafaa.Pq
open Go.RowKit


theorem fld74_1' (a b c d : Value) (w : World) : (Instr.field 127 (.agg #[a, b, c, d]) 1).run Try.prog w = .ok (.agg #[b, c]) w := by kernel_rfl
set_option maxHeartbeats 400000 in
theorem shift1_ok (fl fh bl bh ti ne fa : Int) (v : Value) (sv : Value) (plo phi : Int) (l : List Sg) (k : Nat) (s : Sg) (p : Nat) (w : World) (h : SeenAt l sv w) (hk : l[k]? = some s) (hp : w.cell? ⟨p, 0, none⟩ = some (.int .i64 k)) (hpl : p < w.heap.size) :
    Calls Try.prog 84 #[.agg #[.int .i64 fl, .int .i64 fh, .int .i64 bl, .int .i64 bh, .int .i64 ti, .int .i64 ne, .int .i64 fa, v, sv, .int .i64 plo, .int .i64 phi], .pointer (some ⟨p, 0, none⟩)] w fun e w' => e = .returned (.agg #[.int .i64 s.lo, .int .i64 s.hi]) ∧ Below w.heap.size w w' := by
  obtain ⟨wit, lo, hi, sl⟩ := s
  have ht : ∀ W : World, Gr w W → Calls Try.prog 85 #[.agg #[.int .i64 fl, .int .i64 fh, .int .i64 bl, .int .i64 bh, .int .i64 ti, .int .i64 ne, .int .i64 fa, v, sv, .int .i64 plo, .int .i64 phi], .int .i64 k] W fun e w' => e = .returned (.agg #[wit.val, .int .i64 lo, .int .i64 hi, .bool sl]) ∧ Below W.heap.size W w' := fun W hg => thing_ok fl fh bl bh ti ne fa v sv plo phi l k ⟨wit, lo, hi, sl⟩ W (SeenAt.lasts _ _ _ _ h hg) hk
  have HT := Lib.hid ht
  clear h hk ht
  have hfd := @fld74_1'
  have hal := @cal
  have hp1 : p < w.heap.size + 1 := by omega
  go_enter Try.func84, Try.ntmps84
  go_wp2_with (go_at_call 85; refine (HT.out _ ((Gr.alloc _ _).tr (Gr.alloc _ _))).mono ?_; rintro e w1 ⟨rfl, hb1⟩; obtain ⟨hc1, hf1, hz1⟩ := bcell hb1)
  exact bodyPost_ret (v := .agg #[.int .i64 lo, .int .i64 hi]) (by simp [results, Try.results84, go_sem, hc1]) rfl ⟨rfl, (((bgr (((Below.refl _ _).alloc (by first | (simp; done) | (simp; omega) | omega) _).alloc (by first | (simp; done) | (simp; omega) | omega) _) (by first | (simp; done) | (simp; omega) | omega) hb1).setCell (by first | (simp; done) | (simp; omega) | omega) _).setCell (by first | (simp; done) | (simp; omega) | omega) _)⟩
set_option maxHeartbeats 400000 in
theorem shift1_no (fl fh bl bh ti ne fa : Int) (v : Value) (sv : Value) (plo phi : Int) (l : List Sg) (k : Int) (p : Nat) (w : World) (h : SeenAt l sv w) (hk : k < 0 ∨ (l.length : Int) ≤ k) (hp : w.cell? ⟨p, 0, none⟩ = some (.int .i64 k)) (hpl : p < w.heap.size) :
    Calls Try.prog 84 #[.agg #[.int .i64 fl, .int .i64 fh, .int .i64 bl, .int .i64 bh, .int .i64 ti, .int .i64 ne, .int .i64 fa, v, sv, .int .i64 plo, .int .i64 phi], .pointer (some ⟨p, 0, none⟩)] w fun e w' => e = .panicked [{ v := .iface 29 (.int .i64 2), recovered := false }] ∧ Below w.heap.size w w' := by
  have HT := Lib.hid (fun (W : World) (hg : Gr w W) => thing_no fl fh bl bh ti ne fa v sv plo phi l k W (SeenAt.lasts _ _ _ _ h hg) hk)
  clear h hk
  have hal := @cal
  have hp1 : p < w.heap.size + 1 := by omega
  go_enter Try.func84, Try.ntmps84
  go_wp2_with (go_at_call 85; refine (HT.out _ ((Gr.alloc _ _).tr (Gr.alloc _ _))).mono ?_; rintro e w1 ⟨rfl, hb1⟩)
  exact ⟨rfl, rfl, (bgr (((Below.refl _ _).alloc (by first | (simp; done) | (simp; omega) | omega) _).alloc (by first | (simp; done) | (simp; omega) | omega) _) (by first | (simp; done) | (simp; omega) | omega) hb1)⟩
set_option maxHeartbeats 800000 in
theorem why1_ok (fl fh bl bh ti ne fa : Int) (v : Value) (sv : Value) (plo phi : Int) (l : List Sg) (k : Nat) (s : Sg) (p : Nat) (w : World) (h : SeenAt l sv w) (hk : l[k]? = some s) (hok : s.ok) (hpp : plo ≤ phi) (hp : w.cell? ⟨p, 0, none⟩ = some (.int .i64 k)) (hpl : p < w.heap.size) :
    Calls Try.prog 87 #[.agg #[.int .i64 fl, .int .i64 fh, .int .i64 bl, .int .i64 bh, .int .i64 ti, .int .i64 ne, .int .i64 fa, v, sv, .int .i64 plo, .int .i64 phi], .pointer (some ⟨p, 0, none⟩)] w fun e w' => e = .returned (.int .i64 (s.why plo phi)) ∧ Below w.heap.size w w' := by
  have hwc : ∃ x, s.wit.val = x := ⟨_, rfl⟩
  obtain ⟨wt, wx, hwv⟩ := s.wit.iface
  have hsv : s.val = .agg #[.iface wt wx, .int .i64 s.lo, .int .i64 s.hi, .bool s.sl] := by unfold Sg.val; rw [hwv]
  have ht : ∀ W : World, Gr w W → Calls Try.prog 85 #[.agg #[.int .i64 fl, .int .i64 fh, .int .i64 bl, .int .i64 bh, .int .i64 ti, .int .i64 ne, .int .i64 fa, v, sv, .int .i64 plo, .int .i64 phi], .int .i64 k] W fun e w' => e = .returned (.agg #[.iface wt wx, .int .i64 s.lo, .int .i64 s.hi, .bool s.sl]) ∧ Below W.heap.size W w' := fun W hg => by
    have := thing_ok fl fh bl bh ti ne fa v sv plo phi l k s W (SeenAt.lasts _ _ _ _ h hg) hk
    rwa [hsv] at this
  have hwy : ∀ W : World, Calls Try.prog 88 #[.agg #[.iface wt wx, .int .i64 s.lo, .int .i64 s.hi, .bool s.sl], .agg #[.int .i64 plo, .int .i64 phi]] W fun e w' => e = .returned (.int .i64 (s.why plo phi)) ∧ Below W.heap.size W w' := fun W => by
    have := why_any s plo phi W hok
    rwa [hsv] at this
  have HWY := Lib.hid hwy
  clear hwy hok
  generalize s.why plo phi = res at *
  have HT := Lib.hid ht
  clear h hk ht hsv hwv hwc
  generalize s.lo = slo at *
  generalize s.hi = shi at *
  generalize s.sl = ssl at *
  have hal := @cal
  have hp1 : p < w.heap.size + 1 := by omega
  go_enter Try.func87, Try.ntmps87
  go_wp2_with (go_at_call 85; refine (HT.out _ (Gr.alloc _ _)).mono ?_; rintro e w1 ⟨rfl, hb1⟩; obtain ⟨hc1, hf1, hz1⟩ := bcell hb1; have hs1 : w.heap.size < w1.heap.size := hz1 _ (by simp))
  refine region2 4 ?_ ?_ ?_
  · kernel_rfl
  · kernel_rfl
  simp only [List.take_succ_cons, List.take_zero, List.drop_succ_cons, List.drop_zero]
  apply chain_eq (D := [(4, none)]) rfl (by kernel_rfl)
  · intro ρ W ⟨p1, p2, p3⟩ hG hF K hK; (try simp [FactsD] at hF); have ⟨hc, hf, hz⟩ := bcell (Gr.tr (Gr.drew _) hG); go_simp; exact hK _ (gives_val)
  apply chain_eq (D := [(2, none)]) rfl (by kernel_rfl)
  · intro ρ W ⟨p1, p2, p3⟩ hG hF K hK; (try simp [FactsD] at hF); have ⟨hc, hf, hz⟩ := bcell (Gr.tr (Gr.drew _) hG); go_simp; exact hK _ (gives_val)
  apply chain_eq (D := [(9, some 0)]) rfl (by kernel_rfl)
  · intro ρ W ⟨p1, p2, p3⟩ hG hF K hK; (try simp [FactsD] at hF); have ⟨hc, hf, hz⟩ := bcell (Gr.tr (Gr.drew _) hG); go_simp; exact hK _ (gives_call (truths_ok _ _ _ _ _ _ _ _ _ _ _ _ hpp))
  apply chain_eq (D := [(8, some 2), (10, some 0)]) rfl (by kernel_rfl)
  · intro ρ W ⟨p1, p2, p3⟩ hG hF K hK; (try simp [FactsD] at hF); have ⟨hc, hf, hz⟩ := bcell (Gr.tr (Gr.drew _) hG); go_simp; exact hK _ (gives_call (HWY.out _))
  refine chain_done ?_
  intro vs W hG hV
  obtain ⟨e3, -⟩ := hV
  simp only [Nat.reduceSub] at e3
  simp only [lay, Act.put, List.getElem?_toArray, List.getElem?_cons_succ, List.getElem?_cons_zero, Option.bind_some, List.setIfInBounds_toArray, List.set_cons_succ, List.set_cons_zero]
  generalize vs 0 = v0
  generalize vs 1 = v1
  generalize vs 2 = v2
  generalize vs 3 = v3 at *
  subst e3
  obtain ⟨hc, hf, hz⟩ := bcell hG
  go_wp2
  go_ret
  exact ⟨rfl, (bgr ((bgr ((Below.refl _ _).alloc (by first | (simp; done) | (simp; omega) | omega) _) (by first | (simp; done) | (simp; omega) | omega) hb1).alloc (by first | (simp; done) | (simp; omega) | omega) _) (by first | (simp; done) | (simp; omega) | omega) hG)⟩
set_option maxHeartbeats 800000 in
theorem why1_none (fl fh bl bh ti ne fa : Int) (v : Value) (sv : Value) (plo phi : Int) (l : List Sg) (k : Nat) (s : Sg) (p : Nat) (w : World) (h : SeenAt l sv w) (hk : l[k]? = some s) (hpp : phi < plo) (hp : w.cell? ⟨p, 0, none⟩ = some (.int .i64 k)) (hpl : p < w.heap.size) :
    Calls Try.prog 87 #[.agg #[.int .i64 fl, .int .i64 fh, .int .i64 bl, .int .i64 bh, .int .i64 ti, .int .i64 ne, .int .i64 fa, v, sv, .int .i64 plo, .int .i64 phi], .pointer (some ⟨p, 0, none⟩)] w fun e w' => e = .panicked [{ v := .iface 29 (.int .i64 4), recovered := false }] ∧ Below w.heap.size w w' := by
  have hwc : ∃ x, s.wit.val = x := ⟨_, rfl⟩
  obtain ⟨wt, wx, hwv⟩ := s.wit.iface
  have hsv : s.val = .agg #[.iface wt wx, .int .i64 s.lo, .int .i64 s.hi, .bool s.sl] := by unfold Sg.val; rw [hwv]
  have ht : ∀ W : World, Gr w W → Calls Try.prog 85 #[.agg #[.int .i64 fl, .int .i64 fh, .int .i64 bl, .int .i64 bh, .int .i64 ti, .int .i64 ne, .int .i64 fa, v, sv, .int .i64 plo, .int .i64 phi], .int .i64 k] W fun e w' => e = .returned (.agg #[.iface wt wx, .int .i64 s.lo, .int .i64 s.hi, .bool s.sl]) ∧ Below W.heap.size W w' := fun W hg => by
    have := thing_ok fl fh bl bh ti ne fa v sv plo phi l k s W (SeenAt.lasts _ _ _ _ h hg) hk
    rwa [hsv] at this
  have HT := Lib.hid ht
  clear h hk ht hsv hwv hwc
  generalize s.lo = slo at *
  generalize s.hi = shi at *
  generalize s.sl = ssl at *
  have hal := @cal
  have hp1 : p < w.heap.size + 1 := by omega
  go_enter Try.func87, Try.ntmps87
  go_wp2_with (go_at_call 85; refine (HT.out _ (Gr.alloc _ _)).mono ?_; rintro e w1 ⟨rfl, hb1⟩; obtain ⟨hc1, hf1, hz1⟩ := bcell hb1; have hs1 : w.heap.size < w1.heap.size := hz1 _ (by simp))
  refine region2 4 ?_ ?_ ?_
  · kernel_rfl
  · kernel_rfl
  simp only [List.take_succ_cons, List.take_zero, List.drop_succ_cons, List.drop_zero]
  apply chain_eq (D := [(4, none)]) rfl (by kernel_rfl)
  · intro ρ W ⟨p1, p2, p3⟩ hG hF K hK; (try simp [FactsD] at hF); have ⟨hc, hf, hz⟩ := bcell (Gr.tr (Gr.drew _) hG); go_simp; exact hK _ (gives_val)
  apply chain_eq (D := [(2, none)]) rfl (by kernel_rfl)
  · intro ρ W ⟨p1, p2, p3⟩ hG hF K hK; (try simp [FactsD] at hF); have ⟨hc, hf, hz⟩ := bcell (Gr.tr (Gr.drew _) hG); go_simp; exact hK _ (gives_val)
  refine chain_any (V := fun _ _ => False) (D := [(9, some 0)]) rfl (by kernel_rfl) (fun _ _ _ h _ => h) ?_ ?_
  · intro ρ W ⟨p1, p2, p3⟩ hG hF K hK; (try simp [FactsD] at hF); have ⟨hc, hf, hz⟩ := bcell (Gr.tr (Gr.drew _) hG); go_simp; exact hK _ (gives_panic (truths_no _ _ _ _ _ _ _ _ _ _ _ _ hpp) (fun W' hg a' ha' => ⟨ha', rfl, (bgr ((bgr ((Below.refl _ _).alloc (by first | (simp; done) | (simp; omega) | omega) _) (by first | (simp; done) | (simp; omega) | omega) hb1).alloc (by first | (simp; done) | (simp; omega) | omega) _) (by first | (simp; done) | (simp; omega) | omega) (Gr.tr (Gr.tr (Gr.drew _) hG) hg))⟩))
  refine chain_any (V := fun _ _ => True) (D := [(8, some 2), (10, some 0)]) rfl (by kernel_rfl) (fun _ _ _ _ _ => trivial) ?_ ?_
  · intro ρ W _ hG hF K hK; simp [FactsD] at hF
  refine chain_done ?_
  intro vs W hG hV
  exact (hV.2.1 : False).elim
set_option maxHeartbeats 800000 in
theorem why1_range (fl fh bl bh ti ne fa : Int) (v : Value) (sv : Value) (plo phi : Int) (l : List Sg) (k : Int) (p : Nat) (w : World) (h : SeenAt l sv w) (hk : k < 0 ∨ (l.length : Int) ≤ k) (hp : w.cell? ⟨p, 0, none⟩ = some (.int .i64 k)) (hpl : p < w.heap.size) :
    Calls Try.prog 87 #[.agg #[.int .i64 fl, .int .i64 fh, .int .i64 bl, .int .i64 bh, .int .i64 ti, .int .i64 ne, .int .i64 fa, v, sv, .int .i64 plo, .int .i64 phi], .pointer (some ⟨p, 0, none⟩)] w fun e w' => e = .panicked [{ v := .iface 29 (.int .i64 2), recovered := false }] ∧ Below w.heap.size w w' := by
  have HT := Lib.hid (fun (W : World) (hg : Gr w W) => thing_no fl fh bl bh ti ne fa v sv plo phi l k W (SeenAt.lasts _ _ _ _ h hg) hk)
  clear h hk
  have hal := @cal
  have hp1 : p < w.heap.size + 1 := by omega
  go_enter Try.func87, Try.ntmps87
  go_wp2_with (go_at_call 85; refine (HT.out _ (Gr.alloc _ _)).mono ?_; rintro e w1 ⟨rfl, hb1⟩)
  exact ⟨rfl, rfl, (bgr ((Below.refl _ _).alloc (by first | (simp; done) | (simp; omega) | omega) _) (by first | (simp; done) | (simp; omega) | omega) hb1)⟩
end Go.Proofs.Ytjlaoiimbhlafaa.Pq

namespace Go.Proofs.Ytjlaoiimbhlafaa.Pq
open Go.RowKit Go.Shelf
attribute [local go_sem] Oper.semAt_some

/-- How far away the thing is. -/
def Sg.dists (s : Sg) (plo phi : Int) : Int × Int := match s.wit with
  | .mark m => (m, m)
  | .far n f => dist n f plo phi s.st.1 s.st.2
end Go.Proofs.Ytjlaoiimbhlafaa.Pq

namespace Go.Proofs.Ytjlaoiimbhlafaa.Pq
open Go.RowKit

end Go.Proofs.Ytjlaoiimbhlafaa.Pq

namespace Go.Proofs.Ytjlaoiimbhlafaa.Pq
open Go.RowKit

/-- Which of two things is nearer. -/
def nearOf (s1 s2 : Sg) : Int := if s2.hi < s1.lo then 2 else if s1.hi ≤ s2.lo then 0 else 1
end Go.Proofs.Ytjlaoiimbhlafaa.Pq

namespace Go.Proofs.Ytjlaoiimbhlafaa.Pq
open Go.RowKit

set_option maxHeartbeats 800000 in
theorem ansShift_ok (fl fh bl bh ti ne fa : Int) (v : Value) (l : List Th) (k p : Nat) (s : Sg) (w : World) (h : ThingsAt l v w) (hv : valid fl fh bl bh ti ne fa l = true) (hk : (seenOf ti ne fa l)[k]? = some s) (hp : w.cell? ⟨p, 0, none⟩ = some (.int .i64 k)) (hpl : p < w.heap.size) :
    Calls Try.prog 83 #[.agg #[.int .i64 fl, .int .i64 fh, .int .i64 bl, .int .i64 bh, .int .i64 ti, .int .i64 ne, .int .i64 fa, v], .func (.func 84) #[] #[.pointer (some ⟨p, 0, none⟩)]] w fun e w' => e = .returned (.tuple #[.agg #[.int .i64 s.lo, .int .i64 s.hi], .int .i64 0]) ∧ Below w.heap.size w w' := by
  have hmf : ∀ (fn : Fn) (first cap : Array Value) (w : World), (Instr.makeFunc fn first cap).run Try.prog w = .ok (.func fn first cap) w := fun _ _ _ _ => rfl
  have HL := Lib.hid (fun (W : World) (hg : Gr w W) => look_ok fl fh bl bh ti ne fa v l W (ThingsAt.lasts l _ _ _ h hg) hv)
  have HK := Lib.hid hk
  have HP := Lib.hid (fun (W : World) (hg : Gr w W) => ((bcell hg).1 p 0 hpl).trans hp)
  have HPL := Lib.hid hpl
  obtain ⟨vp, vcap, rfl, -⟩ := h.len
  generalize hap : allPw fl fh bl bh ti ne fa l = ap at *
  clear h hv hk hp hpl hap
  have hal := @cal
  have hfl := @fal
  go_enter_defers Try.func83, Try.ntmps83
  go_wp2_with (go_at_call 112; refine (HL.out _ (((Gr.alloc _ _).tr (Gr.alloc _ _)).tr (Gr.alloc _ _))).mono ?_; rintro e w1 ⟨⟨r, rfl, sv, rfl, hsv⟩, hb1⟩; have HSV := Lib.hid hsv; have HB1 := Lib.hid hb1; clear hsv hb1)
  have hgw := (((Gr.alloc w (Obj.cells #[.int .i64 fl, .int .i64 fh, .int .i64 bl, .int .i64 bh, .int .i64 ti, .int .i64 ne, .int .i64 fa, .slice vp l.length vcap] 71)).tr (Gr.alloc _ _)).tr (Gr.alloc _ _)).tr HB1.out
  have hw1 : w.heap.size + 3 ≤ w1.heap.size := by have := HB1.out.size; simp at this; omega
  refine (shift1_ok fl fh bl bh ti ne fa (.slice vp l.length vcap) sv ap.1 ap.2 (seenOf ti ne fa l) k s p w1 HSV.out HK.out (HP.out _ hgw) (by have := HPL.out; omega)).mono ?_
  rintro e w2 ⟨rfl, hb2⟩
  obtain ⟨hc2, hf2, hz2⟩ := bcell (Gr.tr HB1.out hb2)
  have HB2 := Lib.hid hb2
  have HGW := Lib.hid hgw
  clear hb2 hgw
  go_wp2
  refine leaves_cons (f := 110) (args := #[.pointer (some ⟨w.heap.size + 1 + 1, 0, none⟩)]) (by simp) (by simp [go_sem]) ?_
  refine (catch71_idle ⟨w.heap.size + 1 + 1, 0, none⟩ _).mono ?_
  rintro e u' w'' ⟨rfl, rfl, rfl⟩
  simp [Leaves, settle, results, Try.results83, go_sem, hc2]
  exact ((((bgr (show Below w.heap.size w w1 from HGW.out) (by first | (simp; done) | (simp; omega) | omega) HB2.out).setCell (by first | (simp; done) | (simp; omega) | omega) _).setCell (by first | (simp; done) | (simp; omega) | omega) _).setCell (by first | (simp; done) | (simp; omega) | omega) _)
set_option maxHeartbeats 800000 in
theorem ansShift_range (fl fh bl bh ti ne fa : Int) (v : Value) (l : List Th) (k : Int) (p : Nat) (w : World) (h : ThingsAt l v w) (hv : valid fl fh bl bh ti ne fa l = true) (hk : k < 0 ∨ ((seenOf ti ne fa l).length : Int) ≤ k) (hp : w.cell? ⟨p, 0, none⟩ = some (.int .i64 k)) (hpl : p < w.heap.size) :
    Calls Try.prog 83 #[.agg #[.int .i64 fl, .int .i64 fh, .int .i64 bl, .int .i64 bh, .int .i64 ti, .int .i64 ne, .int .i64 fa, v], .func (.func 84) #[] #[.pointer (some ⟨p, 0, none⟩)]] w fun e w' => e = .returned (.tuple #[.agg #[.int .i64 0, .int .i64 0], .int .i64 2]) ∧ Below w.heap.size w w' := by
  have hmf : ∀ (fn : Fn) (first cap : Array Value) (w : World), (Instr.makeFunc fn first cap).run Try.prog w = .ok (.func fn first cap) w := fun _ _ _ _ => rfl
  have HL := Lib.hid (fun (W : World) (hg : Gr w W) => look_ok fl fh bl bh ti ne fa v l W (ThingsAt.lasts l _ _ _ h hg) hv)
  have HK := Lib.hid hk
  have HP := Lib.hid (fun (W : World) (hg : Gr w W) => ((bcell hg).1 p 0 hpl).trans hp)
  have HPL := Lib.hid hpl
  obtain ⟨vp, vcap, rfl, -⟩ := h.len
  generalize hap : allPw fl fh bl bh ti ne fa l = ap at *
  clear hap
  clear h hv hk hp hpl
  have hal := @cal
  have hfl := @fal
  go_enter_defers Try.func83, Try.ntmps83
  go_wp2_with (go_at_call 112; refine (HL.out _ (((Gr.alloc _ _).tr (Gr.alloc _ _)).tr (Gr.alloc _ _))).mono ?_; rintro e w1 ⟨⟨r, rfl, sv, rfl, hsv⟩, hb1⟩; have HSV := Lib.hid hsv; have HB1 := Lib.hid hb1; clear hsv hb1)
  have hgw := (((Gr.alloc w (Obj.cells #[.int .i64 fl, .int .i64 fh, .int .i64 bl, .int .i64 bh, .int .i64 ti, .int .i64 ne, .int .i64 fa, .slice vp l.length vcap] 71)).tr (Gr.alloc _ _)).tr (Gr.alloc _ _)).tr HB1.out
  have hw1 : w.heap.size + 3 ≤ w1.heap.size := by have := HB1.out.size; simp at this; omega
  refine (shift1_no fl fh bl bh ti ne fa (.slice vp l.length vcap) sv ap.1 ap.2 (seenOf ti ne fa l) k p w1 HSV.out HK.out (HP.out _ hgw) (by have := HPL.out; omega)).mono ?_
  rintro e w2 ⟨rfl, hb2⟩
  obtain ⟨hc2, hf2, hz2⟩ := bcell (Gr.tr HB1.out hb2)
  have hw2 : w.heap.size + 3 ≤ w2.heap.size := by have := hb2.size; omega
  have HGE := Lib.hid (Gr.tr HB1.out hb2)
  have HGW := Lib.hid (hgw.tr hb2)
  clear hb2 hgw
  go_wp2
  refine leaves_cons (f := 110) (args := #[.pointer (some ⟨w.heap.size + 1 + 1, 0, none⟩)]) (by simp) (by simp [go_sem]) ?_
  refine (catch71_panicking (w.heap.size + 1 + 1) 0 2 [] _ (by simp [hc2, go_sem]) (by simp [hf2, go_sem]) (by omega)).mono ?_
  rintro e u' w'' ⟨rfl, rfl, w3, hb3, rfl⟩
  obtain ⟨hc3, hf3, hz3⟩ := bcell (Gr.tr HGE.out hb3)
  simp [Leaves, settle, results, Try.results83, go_sem, hc3]
  exact ((bgr (show Below w.heap.size w _ from HGW.out) (by first | (simp; done) | (simp; omega) | omega) hb3).setCell (by first | (simp; done) | (simp; omega) | omega) _)
set_option maxHeartbeats 800000 in
theorem ansShift_arg (fl fh bl bh ti ne fa : Int) (v : Value) (l : List Th) (k : Int) (p : Nat) (w : World) (h : ThingsAt l v w) (hv : valid fl fh bl bh ti ne fa l = false) (hp : w.cell? ⟨p, 0, none⟩ = some (.int .i64 k)) (hpl : p < w.heap.size) :
    Calls Try.prog 83 #[.agg #[.int .i64 fl, .int .i64 fh, .int .i64 bl, .int .i64 bh, .int .i64 ti, .int .i64 ne, .int .i64 fa, v], .func (.func 84) #[] #[.pointer (some ⟨p, 0, none⟩)]] w fun e w' => e = .returned (.tuple #[.agg #[.int .i64 0, .int .i64 0], .int .i64 1]) ∧ Below w.heap.size w w' := by
  have hmf : ∀ (fn : Fn) (first cap : Array Value) (w : World), (Instr.makeFunc fn first cap).run Try.prog w = .ok (.func fn first cap) w := fun _ _ _ _ => rfl
  have HL := Lib.hid (fun (W : World) (hg : Gr w W) => look_no fl fh bl bh ti ne fa v l W (ThingsAt.lasts l _ _ _ h hg) hv)
  have HP := Lib.hid (fun (W : World) (hg : Gr w W) => ((bcell hg).1 p 0 hpl).trans hp)
  have HPL := Lib.hid hpl
  obtain ⟨vp, vcap, rfl, -⟩ := h.len
  clear h hv hp hpl
  have hal := @cal
  have hfl := @fal
  go_enter_defers Try.func83, Try.ntmps83
  go_wp2_with (go_at_call 112; refine (HL.out _ (((Gr.alloc _ _).tr (Gr.alloc _ _)).tr (Gr.alloc _ _))).mono ?_; rintro e w2 ⟨rfl, hb2⟩; obtain ⟨hc2, hf2, hz2⟩ := bcell hb2; have hw2 : w.heap.size + 3 ≤ w2.heap.size := (by have := hb2.size; simp at this; omega); have HGE := Lib.hid (show Gr _ _ from hb2); have HGW := Lib.hid ((((Gr.alloc _ _).tr (Gr.alloc _ _)).tr (Gr.alloc _ _)).tr hb2); clear hb2)
  refine leaves_cons (f := 110) (args := #[.pointer (some ⟨w.heap.size + 1 + 1, 0, none⟩)]) (by simp) (by simp [go_sem]) ?_
  refine (catch71_panicking (w.heap.size + 1 + 1) 0 1 [] _ (by simp [hc2, go_sem]) (by simp [hf2, go_sem]) (by omega)).mono ?_
  rintro e u' w'' ⟨rfl, rfl, w3, hb3, rfl⟩
  obtain ⟨hc3, hf3, hz3⟩ := bcell (Gr.tr HGE.out hb3)
  simp [Leaves, settle, results, Try.results83, go_sem, hc3]
  exact ((bgr (show Below w.heap.size w _ from HGW.out) (by first | (simp; done) | (simp; omega) | omega) hb3).setCell (by first | (simp; done) | (simp; omega) | omega) _)
end Go.Proofs.Ytjlaoiimbhlafaa.Pq

namespace Go.Proofs.Ytjlaoiimbhlafaa.Pq
open Go.RowKit

set_option maxHeartbeats 800000 in
theorem Shift_ok (fl fh bl bh ti ne fa : Int) (v : Value) (l : List Th) (k : Nat) (s : Sg) (w : World) (h : ThingsAt l v w) (hv : valid fl fh bl bh ti ne fa l = true) (hk : (seenOf ti ne fa l)[k]? = some s) :
    Calls Try.prog 45 #[.agg #[.int .i64 fl, .int .i64 fh, .int .i64 bl, .int .i64 bh, .int .i64 ti, .int .i64 ne, .int .i64 fa, v], .int .i64 k] w fun e w' => e = .returned (.tuple #[.agg #[.int .i64 s.lo, .int .i64 s.hi], .int .i64 0]) ∧ Below w.heap.size w w' := by
  have hmf : ∀ (fn : Fn) (first cap : Array Value) (w : World), (Instr.makeFunc fn first cap).run Try.prog w = .ok (.func fn first cap) w := fun _ _ _ _ => rfl
  have HC := Lib.hid (fun (W : World) (q : Nat) (hg : Gr w W) (hq : W.cell? ⟨q, 0, none⟩ = some (.int .i64 k)) (hql : q < W.heap.size) => ansShift_ok fl fh bl bh ti ne fa v l k q s W (ThingsAt.lasts l _ _ _ h hg) hv hk hq hql)
  obtain ⟨vp, vcap, rfl, -⟩ := h.len
  clear h hv hk
  have hal := @cal
  have hfl := @fal
  go_enter Try.func45, Try.ntmps45
  go_wp2_with (go_at_call 83; refine (HC.out _ _ (((Gr.alloc _ _).tr (Gr.alloc _ _)).tr (Gr.alloc _ _)) (by simp [go_sem]) (by first | (simp; done) | (simp; omega))).mono ?_; rintro e w1 ⟨rfl, hb1⟩; obtain ⟨hc1, hf1, hz1⟩ := bcell hb1)
  exact bodyPost_ret (v := .tuple #[.agg #[.int .i64 s.lo, .int .i64 s.hi], .int .i64 0]) (by simp [results, Try.results45, go_sem, hc1]) rfl ⟨rfl, (((bgr ((((Below.refl _ _).alloc (by first | (simp; done) | (simp; omega) | omega) _).alloc (by first | (simp; done) | (simp; omega) | omega) _).alloc (by first | (simp; done) | (simp; omega) | omega) _) (by first | (simp; done) | (simp; omega) | omega) hb1).setCell (by first | (simp; done) | (simp; omega) | omega) _).setCell (by first | (simp; done) | (simp; omega) | omega) _)⟩
set_option maxHeartbeats 800000 in
theorem Shift_range (fl fh bl bh ti ne fa : Int) (v : Value) (l : List Th) (k : Int) (w : World) (h : ThingsAt l v w) (hv : valid fl fh bl bh ti ne fa l = true) (hk : k < 0 ∨ ((seenOf ti ne fa l).length : Int) ≤ k) :
    Calls Try.prog 45 #[.agg #[.int .i64 fl, .int .i64 fh, .int .i64 bl, .int .i64 bh, .int .i64 ti, .int .i64 ne, .int .i64 fa, v], .int .i64 k] w fun e w' => e = .returned (.tuple #[.agg #[.int .i64 0, .int .i64 0], .int .i64 2]) ∧ Below w.heap.size w w' := by
  have hmf : ∀ (fn : Fn) (first cap : Array Value) (w : World), (Instr.makeFunc fn first cap).run Try.prog w = .ok (.func fn first cap) w := fun _ _ _ _ => rfl
  have HC := Lib.hid (fun (W : World) (q : Nat) (hg : Gr w W) (hq : W.cell? ⟨q, 0, none⟩ = some (.int .i64 k)) (hql : q < W.heap.size) => ansShift_range fl fh bl bh ti ne fa v l k q W (ThingsAt.lasts l _ _ _ h hg) hv hk hq hql)
  obtain ⟨vp, vcap, rfl, -⟩ := h.len
  clear h hv hk
  have hal := @cal
  have hfl := @fal
  go_enter Try.func45, Try.ntmps45
  go_wp2_with (go_at_call 83; refine (HC.out _ _ (((Gr.alloc _ _).tr (Gr.alloc _ _)).tr (Gr.alloc _ _)) (by simp [go_sem]) (by first | (simp; done) | (simp; omega))).mono ?_; rintro e w1 ⟨rfl, hb1⟩; obtain ⟨hc1, hf1, hz1⟩ := bcell hb1)
  exact bodyPost_ret (v := .tuple #[.agg #[.int .i64 0, .int .i64 0], .int .i64 2]) (by simp [results, Try.results45, go_sem, hc1]) rfl ⟨rfl, (((bgr ((((Below.refl _ _).alloc (by first | (simp; done) | (simp; omega) | omega) _).alloc (by first | (simp; done) | (simp; omega) | omega) _).alloc (by first | (simp; done) | (simp; omega) | omega) _) (by first | (simp; done) | (simp; omega) | omega) hb1).setCell (by first | (simp; done) | (simp; omega) | omega) _).setCell (by first | (simp; done) | (simp; omega) | omega) _)⟩
set_option maxHeartbeats 800000 in
theorem Shift_arg (fl fh bl bh ti ne fa : Int) (v : Value) (l : List Th) (k : Int) (w : World) (h : ThingsAt l v w) (hv : valid fl fh bl bh ti ne fa l = false) :
    Calls Try.prog 45 #[.agg #[.int .i64 fl, .int .i64 fh, .int .i64 bl, .int .i64 bh, .int .i64 ti, .int .i64 ne, .int .i64 fa, v], .int .i64 k] w fun e w' => e = .returned (.tuple #[.agg #[.int .i64 0, .int .i64 0], .int .i64 1]) ∧ Below w.heap.size w w' := by
  have hmf : ∀ (fn : Fn) (first cap : Array Value) (w : World), (Instr.makeFunc fn first cap).run Try.prog w = .ok (.func fn first cap) w := fun _ _ _ _ => rfl
  have HC := Lib.hid (fun (W : World) (q : Nat) (hg : Gr w W) (hq : W.cell? ⟨q, 0, none⟩ = some (.int .i64 k)) (hql : q < W.heap.size) => ansShift_arg fl fh bl bh ti ne fa v l k q W (ThingsAt.lasts l _ _ _ h hg) hv hq hql)
  obtain ⟨vp, vcap, rfl, -⟩ := h.len
  clear h hv
  have hal := @cal
  have hfl := @fal
  go_enter Try.func45, Try.ntmps45
  go_wp2_with (go_at_call 83; refine (HC.out _ _ (((Gr.alloc _ _).tr (Gr.alloc _ _)).tr (Gr.alloc _ _)) (by simp [go_sem]) (by first | (simp; done) | (simp; omega))).mono ?_; rintro e w1 ⟨rfl, hb1⟩; obtain ⟨hc1, hf1, hz1⟩ := bcell hb1)
  exact bodyPost_ret (v := .tuple #[.agg #[.int .i64 0, .int .i64 0], .int .i64 1]) (by simp [results, Try.results45, go_sem, hc1]) rfl ⟨rfl, (((bgr ((((Below.refl _ _).alloc (by first | (simp; done) | (simp; omega) | omega) _).alloc (by first | (simp; done) | (simp; omega) | omega) _).alloc (by first | (simp; done) | (simp; omega) | omega) _) (by first | (simp; done) | (simp; omega) | omega) hb1).setCell (by first | (simp; done) | (simp; omega) | omega) _).setCell (by first | (simp; done) | (simp; omega) | omega) _)⟩
end Go.Proofs.Ytjlaoiimbhlafaa.Pq

namespace Go.Proofs.Ytjlaoiimbhlafaa.Pq
open Go.RowKit Go.Shelf


/-- A pair. -/
structure Pr where
  fl : Int
  fh : Int
  bl : Int
  bh : Int
  ti : Int
  ne : Int
  fa : Int
  l : List Th
def Pr.val (p : Pr) (v : Value) : Value := .agg #[.int .i64 p.fl, .int .i64 p.fh, .int .i64 p.bl, .int .i64 p.bh, .int .i64 p.ti, .int .i64 p.ne, .int .i64 p.fa, v]
def Pr.ok (p : Pr) : Bool := valid p.fl p.fh p.bl p.bh p.ti p.ne p.fa p.l
def Pr.seen (p : Pr) : List Sg := seenOf p.ti p.ne p.fa p.l
def Pr.pw (p : Pr) : Int × Int := allPw p.fl p.fh p.bl p.bh p.ti p.ne p.fa p.l
def Pr.at (p : Pr) (k : Int) : Option Sg := if 0 ≤ k then p.seen[k.toNat]? else none
theorem Pr.at_some {p : Pr} {k : Int} {s : Sg} (h : p.at k = some s) : ∃ n : Nat, k = n ∧ p.seen[n]? = some s := by
  unfold Pr.at at h
  by_cases hk : 0 ≤ k
  · rw [if_pos hk] at h; exact ⟨k.toNat, by omega, h⟩
  · rw [if_neg hk] at h; cases h
theorem Pr.at_none {p : Pr} {k : Int} (h : p.at k = none) : k < 0 ∨ (p.seen.length : Int) ≤ k := by
  unfold Pr.at at h
  by_cases hk : 0 ≤ k
  · rw [if_pos hk] at h
    have := List.getElem?_eq_none_iff.1 h
    omega
  · omega
theorem ovl_foldl (l : List (Int × Int)) : ∀ a : Int × Int, a.1 ≤ (l.foldl ovl a).1 ∧ (l.foldl ovl a).2 ≤ a.2 := by
  induction l with
  | nil => intro a; exact ⟨Int.le_refl _, Int.le_refl _⟩
  | cons x l ih =>
    intro a
    have h := ih (ovl a x)
    have h1 : a.1 ≤ (ovl a x).1 := by unfold ovl; simp only; split <;> omega
    have h2 : (ovl a x).2 ≤ a.2 := by unfold ovl; simp only; split <;> omega
    simp only [List.foldl_cons]
    omega
theorem Pr.bounds {p : Pr} (h : p.ok = true) : Bounds p.fl p.fh p.bl p.bh p.ti p.ne p.fa p.l := Bounds.of h
theorem mul_in {a b m n : Int} (h0 : 1 ≤ a) (h1 : a ≤ m) (h2 : 1 ≤ b) (h3 : b ≤ n) : 1 ≤ a * b ∧ a * b ≤ m * n := by
  constructor
  · have := Int.mul_le_mul h0 h2 (by omega) (by omega); omega
  · exact Int.mul_le_mul h1 h3 (by omega) (by omega)
theorem Pr.pw_in {p : Pr} (h : p.ok = true) : 1 ≤ p.pw.1 ∧ p.pw.2 ≤ 500000000 := by
  have hb := p.bounds h
  have h1 := ovl_foldl ((pickTo (seenOf p.ti p.ne p.fa p.l) (marksTo p.l p.l.length) p.l.length).map Sg.spw) (p.fl * p.bl, p.fh * p.bh)
  have h2 := mul_in hb.fl1 (Int.le_refl _) hb.bl1 (Int.le_refl _)
  have h3 := mul_in (a := p.fh) (b := p.bh) (by have := hb.fl1; have := hb.fh1; omega) hb.fh2 (by have := hb.bl1; have := hb.bh1; omega) hb.bh2
  unfold Pr.pw allPw
  simp only at h1
  omega
theorem Pr.see_ok {p : Pr} (h : p.ok = true) : ∀ s ∈ p.seen, s.ok := by
  intro s hs
  unfold Pr.seen seenOf at hs
  obtain ⟨t, ht, rfl⟩ := List.mem_map.1 hs
  exact (p.bounds h).see ht
theorem Pr.len {p : Pr} (h : p.ok = true) : p.seen.length ≤ 12 := by
  have := (p.bounds h).len
  unfold Pr.seen seenOf
  simpa using this
theorem Sg.why_zero {s : Sg} {plo phi : Int} (h : s.why plo phi = 0) : s.sl = false ∧ 0 ≤ s.hi ∧ s.lo ≤ 2000 ∧ s.pw.1 ≤ phi ∧ plo ≤ s.pw.2 := by
  unfold Sg.why at h
  split at h
  · cases h
  · rename_i h0
    split at h
    · cases h
    · rename_i h1
      split at h
      · cases h
      · rename_i h2
        split at h
        · cases h
        · rename_i h3
          simp [Sg.reason, Sg.tooNear] at h0 h1 h2 h3
          exact ⟨h0, h1, h2.1, h2.2, h3⟩

def Pr.shift (p : Pr) (k : Int) : Int × Int × Int := if p.ok then match p.at k with | some s => (s.lo, s.hi, 0) | none => (0, 0, 2) else (0, 0, 1)
def Pr.nearer (p : Pr) (a b : Int) : Int × Int := if p.ok then match p.at a, p.at b with | some s, some t => (nearOf s t, 0) | _, _ => (0, 2) else (0, 1)
def Pr.power (p : Pr) : Int × Int × Int := if p.ok then if p.pw.1 ≤ p.pw.2 then (p.pw.1, p.pw.2, 0) else (0, 0, 4) else (0, 0, 1)
def Pr.stands (p : Pr) (z : Int) : Int × Int × Int := if p.ok then if p.ne ≤ z ∧ z ≤ p.fa then if p.pw.1 ≤ p.pw.2 then (p.pw.1 / z, p.pw.2 / z, 0) else (0, 0, 4) else (0, 0, 2) else (0, 0, 1)
def Pr.why (p : Pr) (k : Int) : Int × Int := if p.ok then match p.at k with | some s => if p.pw.1 ≤ p.pw.2 then (s.why p.pw.1 p.pw.2, 0) else (0, 4) | none => (0, 2) else (0, 1)
def Pr.distance (p : Pr) (k : Int) : Int × Int × Int :=
  if p.ok then match p.at k with
    | some s => if p.pw.1 ≤ p.pw.2 then if s.why p.pw.1 p.pw.2 = 0 then ((s.dists p.pw.1 p.pw.2).1, (s.dists p.pw.1 p.pw.2).2, 0) else (0, 0, 11) else (0, 0, 4)
    | none => (0, 0, 2)
  else (0, 0, 1)
def Pr.fewest (p : Pr) : Int × Int × Int × Int :=
  if p.ok then if p.pw.1 ≤ p.pw.2 then ((Best.of p.seen (triesList p.pw.1 p.pw.2 p.seen)).moved, (Best.of p.seen (triesList p.pw.1 p.pw.2 p.seen)).lo, (Best.of p.seen (triesList p.pw.1 p.pw.2 p.seen)).hi, 0) else (0, 0, 0, 4) else (0, 0, 0, 1)
theorem calls_same {f : FuncId} {args : Array Value} {w : World} {v v' : Value} (h : Calls Try.prog f args w fun e w' => e = .returned v ∧ Below w.heap.size w w') (e : v = v') : Calls Try.prog f args w fun e w' => e = .returned v' ∧ Below w.heap.size w w' := by rw [← e]; exact h
set_option maxHeartbeats 800000 in
theorem Shift_spec (p : Pr) (v : Value) (k : Int) (w : World) (h : ThingsAt p.l v w) :
    Calls Try.prog 45 #[p.val v, .int .i64 k] w fun e w' => e = .returned (.tuple #[.agg #[.int .i64 (p.shift k).1, .int .i64 (p.shift k).2.1], .int .i64 (p.shift k).2.2]) ∧ Below w.heap.size w w' := by
  obtain ⟨vp, vc, rfl, -⟩ := h.len
  by_cases hv : p.ok = true
  · have hpw := p.pw_in hv
    have hse := p.see_ok hv
    have hln := p.len hv
    have hbd := p.bounds hv
    have hv' : valid p.fl p.fh p.bl p.bh p.ti p.ne p.fa p.l = true := hv
    cases hk : p.at k with
    | none =>
      have hk' := Pr.at_none hk
      exact calls_same (Shift_walk _ _ _ _ _ _ _ _ _ _ _ _ _ 2 w (fun W q hg hq hql => ans41_pan 84 #[.pointer (some ⟨q, 0, none⟩)] 2 p.fl p.fh p.bl p.bh p.ti p.ne p.fa (.slice vp p.l.length vc) p.l W (ThingsAt.lasts _ _ _ _ h hg) hv' (enters_of Try.func84 (by kernel_rfl) rfl) (fun sv W' hg' hs => shift1_no p.fl p.fh p.bl p.bh p.ti p.ne p.fa (.slice vp p.l.length vc) sv p.pw.1 p.pw.2 p.seen k q W' hs hk' (((bcell hg').1 _ _ hql).trans hq) (Nat.lt_of_lt_of_le hql hg'.size)))) (by unfold Pr.shift; simp [hv, hk])
    | some s =>
      obtain ⟨n, rfl, hn⟩ := Pr.at_some hk
      exact calls_same (Shift_walk _ _ _ _ _ _ _ _ _ _ _ _ _ 0 w (fun W q hg hq hql => ans41_ret 84 #[.pointer (some ⟨q, 0, none⟩)] s.lo s.hi p.fl p.fh p.bl p.bh p.ti p.ne p.fa (.slice vp p.l.length vc) p.l W (ThingsAt.lasts _ _ _ _ h hg) hv' (enters_of Try.func84 (by kernel_rfl) rfl) (fun sv W' hg' hs => shift1_ok p.fl p.fh p.bl p.bh p.ti p.ne p.fa (.slice vp p.l.length vc) sv p.pw.1 p.pw.2 p.seen n s q W' hs hn (((bcell hg').1 _ _ hql).trans hq) (Nat.lt_of_lt_of_le hql hg'.size)))) (by unfold Pr.shift; simp [hv, hk])
  · have hv' : valid p.fl p.fh p.bl p.bh p.ti p.ne p.fa p.l = false := by simpa [Pr.ok] using hv
    exact calls_same (Shift_walk _ _ _ _ _ _ _ _ _ _ _ _ _ 1 w (fun W q hg hq hql => ans41_arg 84 #[.pointer (some ⟨q, 0, none⟩)] p.fl p.fh p.bl p.bh p.ti p.ne p.fa (.slice vp p.l.length vc) p.l W (ThingsAt.lasts _ _ _ _ h hg) hv')) (by unfold Pr.shift; simp [hv])
set_option maxHeartbeats 800000 in
theorem Power_spec (p : Pr) (v : Value) (w : World) (h : ThingsAt p.l v w) :
    Calls Try.prog 82 #[p.val v] w fun e w' => e = .returned (.tuple #[.agg #[.int .i64 p.power.1, .int .i64 p.power.2.1], .int .i64 p.power.2.2]) ∧ Below w.heap.size w w' := by
  obtain ⟨vp, vc, rfl, -⟩ := h.len
  by_cases hv : p.ok = true
  · have hpw := p.pw_in hv
    have hse := p.see_ok hv
    have hln := p.len hv
    have hbd := p.bounds hv
    have hv' : valid p.fl p.fh p.bl p.bh p.ti p.ne p.fa p.l = true := hv
    by_cases hp : p.pw.1 ≤ p.pw.2
    · exact calls_same (Power_walk _ _ _ _ _ _ _ _ _ _  _ _ 0 w (fun W hg => ans41_ret 89 #[] p.pw.1 p.pw.2 p.fl p.fh p.bl p.bh p.ti p.ne p.fa (.slice vp p.l.length vc) p.l W (ThingsAt.lasts _ _ _ _ h hg) hv' (enters_of Try.func89 (by kernel_rfl) rfl) (fun sv W' hg' hs => truths_ok p.fl p.fh p.bl p.bh p.ti p.ne p.fa (.slice vp p.l.length vc) sv p.pw.1 p.pw.2 W' hp))) (by unfold Pr.power; simp [hv, hp])
    · exact calls_same (Power_walk _ _ _ _ _ _ _ _ _ _  _ _ 4 w (fun W hg => ans41_pan 89 #[] 4 p.fl p.fh p.bl p.bh p.ti p.ne p.fa (.slice vp p.l.length vc) p.l W (ThingsAt.lasts _ _ _ _ h hg) hv' (enters_of Try.func89 (by kernel_rfl) rfl) (fun sv W' hg' hs => truths_no p.fl p.fh p.bl p.bh p.ti p.ne p.fa (.slice vp p.l.length vc) sv p.pw.1 p.pw.2 W' (by omega)))) (by unfold Pr.power; simp [hv, hp])
  · have hv' : valid p.fl p.fh p.bl p.bh p.ti p.ne p.fa p.l = false := by simpa [Pr.ok] using hv
    exact calls_same (Power_walk _ _ _ _ _ _ _ _ _ _  _ _ 1 w (fun W hg => ans41_arg 89 #[] p.fl p.fh p.bl p.bh p.ti p.ne p.fa (.slice vp p.l.length vc) p.l W (ThingsAt.lasts _ _ _ _ h hg) hv')) (by unfold Pr.power; simp [hv])
set_option maxHeartbeats 800000 in
theorem Why_spec (p : Pr) (v : Value) (k : Int) (w : World) (h : ThingsAt p.l v w) :
    Calls Try.prog 46 #[p.val v, .int .i64 k] w fun e w' => e = .returned (.tuple #[.int .i64 (p.why k).1, .int .i64 (p.why k).2]) ∧ Below w.heap.size w w' := by
  obtain ⟨vp, vc, rfl, -⟩ := h.len
  by_cases hv : p.ok = true
  · have hpw := p.pw_in hv
    have hse := p.see_ok hv
    have hln := p.len hv
    have hbd := p.bounds hv
    have hv' : valid p.fl p.fh p.bl p.bh p.ti p.ne p.fa p.l = true := hv
    cases hk : p.at k with
    | none =>
      have hk' := Pr.at_none hk
      exact calls_same (Why_walk _ _ _ _ _ _ _ _ _ _ _ _ 2 w (fun W q hg hq hql => ans46_pan 87 #[.pointer (some ⟨q, 0, none⟩)] 2 p.fl p.fh p.bl p.bh p.ti p.ne p.fa (.slice vp p.l.length vc) p.l W (ThingsAt.lasts _ _ _ _ h hg) hv' (enters_of Try.func87 (by kernel_rfl) rfl) (fun sv W' hg' hs => why1_range p.fl p.fh p.bl p.bh p.ti p.ne p.fa (.slice vp p.l.length vc) sv p.pw.1 p.pw.2 p.seen k q W' hs hk' (((bcell hg').1 _ _ hql).trans hq) (Nat.lt_of_lt_of_le hql hg'.size)))) (by unfold Pr.why; simp [hv, hk])
    | some s =>
      obtain ⟨n, rfl, hn⟩ := Pr.at_some hk
      have hok := hse s (List.mem_of_getElem? hn)
      by_cases hp : p.pw.1 ≤ p.pw.2
      · exact calls_same (Why_walk _ _ _ _ _ _ _ _ _ _ _ _ 0 w (fun W q hg hq hql => ans46_ret 87 #[.pointer (some ⟨q, 0, none⟩)] (s.why p.pw.1 p.pw.2) p.fl p.fh p.bl p.bh p.ti p.ne p.fa (.slice vp p.l.length vc) p.l W (ThingsAt.lasts _ _ _ _ h hg) hv' (enters_of Try.func87 (by kernel_rfl) rfl) (fun sv W' hg' hs => why1_ok p.fl p.fh p.bl p.bh p.ti p.ne p.fa (.slice vp p.l.length vc) sv p.pw.1 p.pw.2 p.seen n s q W' hs hn hok hp (((bcell hg').1 _ _ hql).trans hq) (Nat.lt_of_lt_of_le hql hg'.size)))) (by unfold Pr.why; simp [hv, hk, hp])
      · exact calls_same (Why_walk _ _ _ _ _ _ _ _ _ _ _ _ 4 w (fun W q hg hq hql => ans46_pan 87 #[.pointer (some ⟨q, 0, none⟩)] 4 p.fl p.fh p.bl p.bh p.ti p.ne p.fa (.slice vp p.l.length vc) p.l W (ThingsAt.lasts _ _ _ _ h hg) hv' (enters_of Try.func87 (by kernel_rfl) rfl) (fun sv W' hg' hs => why1_none p.fl p.fh p.bl p.bh p.ti p.ne p.fa (.slice vp p.l.length vc) sv p.pw.1 p.pw.2 p.seen n s q W' hs hn (by omega) (((bcell hg').1 _ _ hql).trans hq) (Nat.lt_of_lt_of_le hql hg'.size)))) (by unfold Pr.why; simp [hv, hk, hp])
  · have hv' : valid p.fl p.fh p.bl p.bh p.ti p.ne p.fa p.l = false := by simpa [Pr.ok] using hv
    exact calls_same (Why_walk _ _ _ _ _ _ _ _ _ _ _ _ 1 w (fun W q hg hq hql => ans46_arg 87 #[.pointer (some ⟨q, 0, none⟩)] p.fl p.fh p.bl p.bh p.ti p.ne p.fa (.slice vp p.l.length vc) p.l W (ThingsAt.lasts _ _ _ _ h hg) hv')) (by unfold Pr.why; simp [hv])
end Go.Proofs.Ytjlaoiimbhlafaa.Pq

namespace Go.Proofs.Ytjlaoiimbhlafaa.Pq
open Go.RowKit

/-! The calls of a pair, each with its answer by name. -/
theorem shift_is {p : Pr} {v : Value} {k x y e : Int} {w : World} (h : p.shift k = (x, y, e)) (hT : ThingsAt p.l v w) :
    Calls Try.prog 45 #[.agg #[.int .i64 p.fl, .int .i64 p.fh, .int .i64 p.bl, .int .i64 p.bh, .int .i64 p.ti, .int .i64 p.ne, .int .i64 p.fa, v], .int .i64 k] w fun e' w' => e' = .returned (.tuple #[.agg #[.int .i64 x, .int .i64 y], .int .i64 e]) ∧ Below w.heap.size w w' := by
  have := Shift_spec p v k w hT
  rw [h] at this
  exact this
theorem power_is {p : Pr} {v : Value} {x y e : Int} {w : World} (h : p.power = (x, y, e)) (hT : ThingsAt p.l v w) :
    Calls Try.prog 82 #[.agg #[.int .i64 p.fl, .int .i64 p.fh, .int .i64 p.bl, .int .i64 p.bh, .int .i64 p.ti, .int .i64 p.ne, .int .i64 p.fa, v]] w fun e' w' => e' = .returned (.tuple #[.agg #[.int .i64 x, .int .i64 y], .int .i64 e]) ∧ Below w.heap.size w w' := by
  have := Power_spec p v  w hT
  rw [h] at this
  exact this
theorem why_is {p : Pr} {v : Value} {k x e : Int} {w : World} (h : p.why k = (x, e)) (hT : ThingsAt p.l v w) :
    Calls Try.prog 46 #[.agg #[.int .i64 p.fl, .int .i64 p.fh, .int .i64 p.bl, .int .i64 p.bh, .int .i64 p.ti, .int .i64 p.ne, .int .i64 p.fa, v], .int .i64 k] w fun e' w' => e' = .returned (.tuple #[.int .i64 x, .int .i64 e]) ∧ Below w.heap.size w w' := by
  have := Why_spec p v k w hT
  rw [h] at this
  exact this
end Go.Proofs.Ytjlaoiimbhlafaa.Pq
