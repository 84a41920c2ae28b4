import Derived.Test.YtcngaohfemdfjaaGreatF09
set_option linter.unusedVariables false
set_option linter.unusedSimpArgs false
set_option maxRecDepth 100000
set_option maxHeartbeats 60000000
namespace Go.Proofs.YtcngaohfemdfjaaGreat
open Go.RowKit
theorem catch74_panicking (b : Nat) (x k : Int) (older : List PanicEntry) (w : World) (hc : w.cell? ⟨b, 0, none⟩ = some (.int .i64 x)) (hz : w.frozen? ⟨b, 0, none⟩ = false) (hs : b < w.heap.size) :
    CallsD Tryz.prog 112 #[.pointer (some ⟨b, 0, none⟩)] (.panicking ({ v := .iface 32 (.int .i64 k), recovered := false } :: older)) w fun e u' w' =>
      e = .returned (.tuple #[]) ∧ u' = .panicking ({ v := .iface 32 (.int .i64 k), recovered := true } :: older) ∧ ∃ w1, Below w.heap.size w w1 ∧ w' = w1.setCell ⟨b, 0, none⟩ (.int .i64 k) := by
  refine callsD_of_wpS Tryz.func112 rfl fun c₀ cs hu => ?_
  apply wpS_seq
  apply wpS_region
  simp [wpOpsS, go_sem, recoverD, hu, Tryz.ntmps112, Exit.thenS]
  refine wpS_of_wp ?_
  clear hu
  simp only [Array.replicate_succ, Array.replicate_zero, List.push_toArray, List.append_toArray, List.nil_append, List.cons_append, List.setIfInBounds_toArray, List.set_cons_succ, List.set_cons_zero]
  go_wp2_with (go_at_call 113; refine (errorOf_any _ _).mono ?_; rintro e w1 ⟨rfl, hb1⟩; obtain ⟨hc1, hf1, hz1⟩ := bcell hb1)
  refine ⟨rfl, _, rfl, _, by simp [results, Tryz.results112, go_sem], rfl, rfl, w1, hb1, rfl⟩
theorem catch74_idle (p : Addr) (w : World) :
    CallsD Tryz.prog 112 #[.pointer (some p)] .returning w fun e u' w' => e = .returned (.tuple #[]) ∧ u' = .returning ∧ w' = w := by
  refine callsD_of_wpS Tryz.func112 rfl fun c₀ cs hu => ?_
  apply wpS_seq
  apply wpS_region
  simp [wpOpsS, go_sem, recoverD, hu, Tryz.ntmps112, Exit.thenS]
  refine wpS_of_wp ?_
  simp only [Array.replicate_succ, Array.replicate_zero, List.push_toArray, List.append_toArray, List.nil_append, List.cons_append, List.setIfInBounds_toArray, List.set_cons_succ, List.set_cons_zero]
  have HU := Lib.hid hu
  clear hu
  go_wp2
  refine ⟨rfl, c₀.mode, by cases c₀; rfl, _, by simp [results, Tryz.results112, go_sem], rfl, HU.out, rfl⟩
theorem ans41_ret (fc : FuncId) (caps : Array Value) (x y : Int) (fl fh bl bh ti ne fa : Int) (v : Value) (l : List Th) (w : World) (h : TsA l v w) (hv : valid fl fh bl bh ti ne fa l = true) (hen : ∀ args (W : World), (callFunc fc args).run Tryz.prog W = .ok (.enter fc args) W) (hcl : ∀ (sv : Value) (W : World), Gr w W → SeenAt (seenOf ti ne fa l) sv W → Calls Tryz.prog fc (#[.agg #[.int .i64 fl, .int .i64 fh, .int .i64 bl, .int .i64 bh, .int .i64 ti, .int .i64 ne, .int .i64 fa, v, sv, .int .i64 (allPw fl fh bl bh ti ne fa l).1, .int .i64 (allPw fl fh bl bh ti ne fa l).2]] ++ caps) W fun e w' => e = .returned (.agg #[.int .i64 x, .int .i64 y]) ∧ Below W.heap.size W w') :
    Calls Tryz.prog 78 #[.agg #[.int .i64 fl, .int .i64 fh, .int .i64 bl, .int .i64 bh, .int .i64 ti, .int .i64 ne, .int .i64 fa, v], .func (.func fc) #[] caps] w fun e w' => e = .returned (.tuple #[.agg #[.int .i64 x, .int .i64 y], .int .i64 0]) ∧ Below w.heap.size w w' := by
  have hmf : ∀ (fn : Fn) (first cap : Array Value) (w : World), (Instr.makeFunc fn first cap).run Tryz.prog w = .ok (.func fn first cap) w := fun _ _ _ _ => rfl
  have HL := Lib.hid (fun (W : World) (hg : Gr w W) => look_ok fl fh bl bh ti ne fa v l W (TsA.lasts l _ _ _ h hg) hv)
  have HCL := Lib.hid hcl
  obtain ⟨vp, vcap, rfl, -⟩ := h.len
  generalize allPw fl fh bl bh ti ne fa l = ap at *
  clear h hv hcl
  have hal := @cal
  have hfl := @fal
  go_enter_defers Tryz.func78, Tryz.ntmps78
  go_wp2_with (go_at_call 114; refine (HL.out _ (((Gr.alloc _ _).tr (Gr.alloc _ _)).tr (Gr.alloc _ _))).mono ?_; rintro e w1 ⟨⟨r, rfl, sv, rfl, hsv⟩, hb1⟩; have HSV := Lib.hid hsv; have HB1 := Lib.hid hb1; clear hsv hb1)
  have hgw := (((Gr.alloc w (Obj.cells #[.int .i64 fl, .int .i64 fh, .int .i64 bl, .int .i64 bh, .int .i64 ti, .int .i64 ne, .int .i64 fa, .slice vp l.length vcap] 26)).tr (Gr.alloc _ _)).tr (Gr.alloc _ _)).tr HB1.out
  have hw1 : w.heap.size + 3 ≤ w1.heap.size := by have := HB1.out.size; simp at this; omega
  refine (HCL.out sv w1 hgw HSV.out).mono ?_
  rintro e w2 ⟨rfl, hb2⟩
  obtain ⟨hc2, hf2, hz2⟩ := bcell (Gr.tr HB1.out hb2)
  have HB2 := Lib.hid hb2
  have HGW := Lib.hid hgw
  clear hb2 hgw
  go_wp2
  refine leaves_cons (f := 117) (args := #[.pointer (some ⟨w.heap.size + 1 + 1, 0, none⟩)]) (by simp) (by simp [go_sem]) ?_
  refine (catch71_idle ⟨w.heap.size + 1 + 1, 0, none⟩ _).mono ?_
  rintro e u' w'' ⟨rfl, rfl, rfl⟩
  simp [Leaves, settle, results, Tryz.results78, go_sem, hc2]
  exact ((((bgr (show Below w.heap.size w w1 from HGW.out) (by first | (simp <;> omega) | omega) HB2.out).setCell (by first | (simp <;> omega) | omega) _).setCell (by first | (simp <;> omega) | omega) _).setCell (by first | (simp <;> omega) | omega) _)
theorem ans41_pan (fc : FuncId) (caps : Array Value) (k : Int) (fl fh bl bh ti ne fa : Int) (v : Value) (l : List Th) (w : World) (h : TsA l v w) (hv : valid fl fh bl bh ti ne fa l = true) (hen : ∀ args (W : World), (callFunc fc args).run Tryz.prog W = .ok (.enter fc args) W) (hcl : ∀ (sv : Value) (W : World), Gr w W → SeenAt (seenOf ti ne fa l) sv W → Calls Tryz.prog fc (#[.agg #[.int .i64 fl, .int .i64 fh, .int .i64 bl, .int .i64 bh, .int .i64 ti, .int .i64 ne, .int .i64 fa, v, sv, .int .i64 (allPw fl fh bl bh ti ne fa l).1, .int .i64 (allPw fl fh bl bh ti ne fa l).2]] ++ caps) W fun e w' => e = .panicked [{ v := .iface 32 (.int .i64 k), recovered := false }] ∧ Below W.heap.size W w') :
    Calls Tryz.prog 78 #[.agg #[.int .i64 fl, .int .i64 fh, .int .i64 bl, .int .i64 bh, .int .i64 ti, .int .i64 ne, .int .i64 fa, v], .func (.func fc) #[] caps] w fun e w' => e = .returned (.tuple #[.agg #[.int .i64 0, .int .i64 0], .int .i64 k]) ∧ Below w.heap.size w w' := by
  have hmf : ∀ (fn : Fn) (first cap : Array Value) (w : World), (Instr.makeFunc fn first cap).run Tryz.prog w = .ok (.func fn first cap) w := fun _ _ _ _ => rfl
  have HL := Lib.hid (fun (W : World) (hg : Gr w W) => look_ok fl fh bl bh ti ne fa v l W (TsA.lasts l _ _ _ h hg) hv)
  have HCL := Lib.hid hcl
  obtain ⟨vp, vcap, rfl, -⟩ := h.len
  generalize allPw fl fh bl bh ti ne fa l = ap at *
  clear h hv hcl
  have hal := @cal
  have hfl := @fal
  go_enter_defers Tryz.func78, Tryz.ntmps78
  go_wp2_with (go_at_call 114; refine (HL.out _ (((Gr.alloc _ _).tr (Gr.alloc _ _)).tr (Gr.alloc _ _))).mono ?_; rintro e w1 ⟨⟨r, rfl, sv, rfl, hsv⟩, hb1⟩; have HSV := Lib.hid hsv; have HB1 := Lib.hid hb1; clear hsv hb1)
  have hgw := (((Gr.alloc w (Obj.cells #[.int .i64 fl, .int .i64 fh, .int .i64 bl, .int .i64 bh, .int .i64 ti, .int .i64 ne, .int .i64 fa, .slice vp l.length vcap] 26)).tr (Gr.alloc _ _)).tr (Gr.alloc _ _)).tr HB1.out
  have hw1 : w.heap.size + 3 ≤ w1.heap.size := by have := HB1.out.size; simp at this; omega
  refine (HCL.out sv w1 hgw HSV.out).mono ?_
  rintro e w2 ⟨rfl, hb2⟩
  obtain ⟨hc2, hf2, hz2⟩ := bcell (Gr.tr HB1.out hb2)
  have hw2 : w.heap.size + 3 ≤ w2.heap.size := by have := hb2.size; omega
  have HGE := Lib.hid (Gr.tr HB1.out hb2)
  have HGW := Lib.hid (hgw.tr hb2)
  clear hb2 hgw
  go_wp2
  refine leaves_cons (f := 117) (args := #[.pointer (some ⟨w.heap.size + 1 + 1, 0, none⟩)]) (by simp) (by simp [go_sem]) ?_
  refine (catch71_panicking (w.heap.size + 1 + 1) 0 k [] _ (by simp [hc2, go_sem]) (by simp [hf2, go_sem]) (by omega)).mono ?_
  rintro e u' w'' ⟨rfl, rfl, w3, hb3, rfl⟩
  obtain ⟨hc3, hf3, hz3⟩ := bcell (Gr.tr HGE.out hb3)
  simp [Leaves, settle, results, Tryz.results78, go_sem, hc3]
  exact ((bgr (show Below w.heap.size w _ from HGW.out) (by first | (simp <;> omega) | omega) hb3).setCell (by first | (simp <;> omega) | omega) _)
theorem ans41_arg (fc : FuncId) (caps : Array Value)  (fl fh bl bh ti ne fa : Int) (v : Value) (l : List Th) (w : World) (h : TsA l v w) (hv : valid fl fh bl bh ti ne fa l = false)  :
    Calls Tryz.prog 78 #[.agg #[.int .i64 fl, .int .i64 fh, .int .i64 bl, .int .i64 bh, .int .i64 ti, .int .i64 ne, .int .i64 fa, v], .func (.func fc) #[] caps] w fun e w' => e = .returned (.tuple #[.agg #[.int .i64 0, .int .i64 0], .int .i64 1]) ∧ Below w.heap.size w w' := by
  have hmf : ∀ (fn : Fn) (first cap : Array Value) (w : World), (Instr.makeFunc fn first cap).run Tryz.prog w = .ok (.func fn first cap) w := fun _ _ _ _ => rfl
  have HL := Lib.hid (fun (W : World) (hg : Gr w W) => look_no fl fh bl bh ti ne fa v l W (TsA.lasts l _ _ _ h hg) hv)
  obtain ⟨vp, vcap, rfl, -⟩ := h.len
  clear h hv
  have hal := @cal
  have hfl := @fal
  go_enter_defers Tryz.func78, Tryz.ntmps78
  go_wp2_with (go_at_call 114; refine (HL.out _ (((Gr.alloc _ _).tr (Gr.alloc _ _)).tr (Gr.alloc _ _))).mono ?_; rintro e w2 ⟨rfl, hb2⟩; obtain ⟨hc2, hf2, hz2⟩ := bcell hb2; have hw2 : w.heap.size + 3 ≤ w2.heap.size := (by have := hb2.size; simp at this; omega); have HGE := Lib.hid (show Gr _ _ from hb2); have HGW := Lib.hid ((((Gr.alloc _ _).tr (Gr.alloc _ _)).tr (Gr.alloc _ _)).tr hb2); clear hb2)
  refine leaves_cons (f := 117) (args := #[.pointer (some ⟨w.heap.size + 1 + 1, 0, none⟩)]) (by simp) (by simp [go_sem]) ?_
  refine (catch71_panicking (w.heap.size + 1 + 1) 0 1 [] _ (by simp [hc2, go_sem]) (by simp [hf2, go_sem]) (by omega)).mono ?_
  rintro e u' w'' ⟨rfl, rfl, w3, hb3, rfl⟩
  obtain ⟨hc3, hf3, hz3⟩ := bcell (Gr.tr HGE.out hb3)
  simp [Leaves, settle, results, Tryz.results78, go_sem, hc3]
  exact ((bgr (show Below w.heap.size w _ from HGW.out) (by first | (simp <;> omega) | omega) hb3).setCell (by first | (simp <;> omega) | omega) _)
theorem ans46_ret (fc : FuncId) (caps : Array Value) (x : Int) (fl fh bl bh ti ne fa : Int) (v : Value) (l : List Th) (w : World) (h : TsA l v w) (hv : valid fl fh bl bh ti ne fa l = true) (hen : ∀ args (W : World), (callFunc fc args).run Tryz.prog W = .ok (.enter fc args) W) (hcl : ∀ (sv : Value) (W : World), Gr w W → SeenAt (seenOf ti ne fa l) sv W → Calls Tryz.prog fc (#[.agg #[.int .i64 fl, .int .i64 fh, .int .i64 bl, .int .i64 bh, .int .i64 ti, .int .i64 ne, .int .i64 fa, v, sv, .int .i64 (allPw fl fh bl bh ti ne fa l).1, .int .i64 (allPw fl fh bl bh ti ne fa l).2]] ++ caps) W fun e w' => e = .returned (.int .i64 x) ∧ Below W.heap.size W w') :
    Calls Tryz.prog 73 #[.agg #[.int .i64 fl, .int .i64 fh, .int .i64 bl, .int .i64 bh, .int .i64 ti, .int .i64 ne, .int .i64 fa, v], .func (.func fc) #[] caps] w fun e w' => e = .returned (.tuple #[.int .i64 x, .int .i64 0]) ∧ Below w.heap.size w w' := by
  have hmf : ∀ (fn : Fn) (first cap : Array Value) (w : World), (Instr.makeFunc fn first cap).run Tryz.prog w = .ok (.func fn first cap) w := fun _ _ _ _ => rfl
  have HL := Lib.hid (fun (W : World) (hg : Gr w W) => look_ok fl fh bl bh ti ne fa v l W (TsA.lasts l _ _ _ h hg) hv)
  have HCL := Lib.hid hcl
  obtain ⟨vp, vcap, rfl, -⟩ := h.len
  generalize allPw fl fh bl bh ti ne fa l = ap at *
  clear h hv hcl
  have hal := @cal
  have hfl := @fal
  go_enter_defers Tryz.func73, Tryz.ntmps73
  go_wp2_with (go_at_call 114; refine (HL.out _ ((Gr.alloc _ _).tr (Gr.alloc _ _))).mono ?_; rintro e w1 ⟨⟨r, rfl, sv, rfl, hsv⟩, hb1⟩; have HSV := Lib.hid hsv; have HB1 := Lib.hid hb1; clear hsv hb1)
  have hgw := ((Gr.alloc w (Obj.cells #[.int .i64 fl, .int .i64 fh, .int .i64 bl, .int .i64 bh, .int .i64 ti, .int .i64 ne, .int .i64 fa, .slice vp l.length vcap] 26)).tr (Gr.alloc _ _)).tr HB1.out
  have hw1 : w.heap.size + 2 ≤ w1.heap.size := by have := HB1.out.size; simp at this; omega
  refine (HCL.out sv w1 hgw HSV.out).mono ?_
  rintro e w2 ⟨rfl, hb2⟩
  obtain ⟨hc2, hf2, hz2⟩ := bcell (Gr.tr HB1.out hb2)
  have HB2 := Lib.hid hb2
  have HGW := Lib.hid hgw
  clear hb2 hgw
  go_wp2
  refine leaves_cons (f := 112) (args := #[.pointer (some ⟨w.heap.size + 1, 0, none⟩)]) (by simp) (by simp [go_sem]) ?_
  refine (catch74_idle ⟨w.heap.size + 1, 0, none⟩ _).mono ?_
  rintro e u' w'' ⟨rfl, rfl, rfl⟩
  simp [Leaves, settle, results, Tryz.results73, go_sem, hc2]
  exact ((bgr (show Below w.heap.size w w1 from HGW.out) (by first | (simp <;> omega) | omega) HB2.out).setCell (by first | (simp <;> omega) | omega) _)
theorem ans46_pan (fc : FuncId) (caps : Array Value) (k : Int) (fl fh bl bh ti ne fa : Int) (v : Value) (l : List Th) (w : World) (h : TsA l v w) (hv : valid fl fh bl bh ti ne fa l = true) (hen : ∀ args (W : World), (callFunc fc args).run Tryz.prog W = .ok (.enter fc args) W) (hcl : ∀ (sv : Value) (W : World), Gr w W → SeenAt (seenOf ti ne fa l) sv W → Calls Tryz.prog fc (#[.agg #[.int .i64 fl, .int .i64 fh, .int .i64 bl, .int .i64 bh, .int .i64 ti, .int .i64 ne, .int .i64 fa, v, sv, .int .i64 (allPw fl fh bl bh ti ne fa l).1, .int .i64 (allPw fl fh bl bh ti ne fa l).2]] ++ caps) W fun e w' => e = .panicked [{ v := .iface 32 (.int .i64 k), recovered := false }] ∧ Below W.heap.size W w') :
    Calls Tryz.prog 73 #[.agg #[.int .i64 fl, .int .i64 fh, .int .i64 bl, .int .i64 bh, .int .i64 ti, .int .i64 ne, .int .i64 fa, v], .func (.func fc) #[] caps] w fun e w' => e = .returned (.tuple #[.int .i64 0, .int .i64 k]) ∧ Below w.heap.size w w' := by
  have hmf : ∀ (fn : Fn) (first cap : Array Value) (w : World), (Instr.makeFunc fn first cap).run Tryz.prog w = .ok (.func fn first cap) w := fun _ _ _ _ => rfl
  have HL := Lib.hid (fun (W : World) (hg : Gr w W) => look_ok fl fh bl bh ti ne fa v l W (TsA.lasts l _ _ _ h hg) hv)
  have HCL := Lib.hid hcl
  obtain ⟨vp, vcap, rfl, -⟩ := h.len
  generalize allPw fl fh bl bh ti ne fa l = ap at *
  clear h hv hcl
  have hal := @cal
  have hfl := @fal
  go_enter_defers Tryz.func73, Tryz.ntmps73
  go_wp2_with (go_at_call 114; refine (HL.out _ ((Gr.alloc _ _).tr (Gr.alloc _ _))).mono ?_; rintro e w1 ⟨⟨r, rfl, sv, rfl, hsv⟩, hb1⟩; have HSV := Lib.hid hsv; have HB1 := Lib.hid hb1; clear hsv hb1)
  have hgw := ((Gr.alloc w (Obj.cells #[.int .i64 fl, .int .i64 fh, .int .i64 bl, .int .i64 bh, .int .i64 ti, .int .i64 ne, .int .i64 fa, .slice vp l.length vcap] 26)).tr (Gr.alloc _ _)).tr HB1.out
  have hw1 : w.heap.size + 2 ≤ w1.heap.size := by have := HB1.out.size; simp at this; omega
  refine (HCL.out sv w1 hgw HSV.out).mono ?_
  rintro e w2 ⟨rfl, hb2⟩
  obtain ⟨hc2, hf2, hz2⟩ := bcell (Gr.tr HB1.out hb2)
  have hw2 : w.heap.size + 2 ≤ w2.heap.size := by have := hb2.size; omega
  have HGE := Lib.hid (Gr.tr HB1.out hb2)
  have HGW := Lib.hid (hgw.tr hb2)
  clear hb2 hgw
  go_wp2
  refine leaves_cons (f := 112) (args := #[.pointer (some ⟨w.heap.size + 1, 0, none⟩)]) (by simp) (by simp [go_sem]) ?_
  refine (catch74_panicking (w.heap.size + 1) 0 k [] _ (by simp [hc2, go_sem]) (by simp [hf2, go_sem]) (by omega)).mono ?_
  rintro e u' w'' ⟨rfl, rfl, w3, hb3, rfl⟩
  obtain ⟨hc3, hf3, hz3⟩ := bcell (Gr.tr HGE.out hb3)
  simp [Leaves, settle, results, Tryz.results73, go_sem, hc3]
  exact ((bgr (show Below w.heap.size w _ from HGW.out) (by first | (simp <;> omega) | omega) hb3).setCell (by first | (simp <;> omega) | omega) _)
theorem ans46_arg (fc : FuncId) (caps : Array Value)  (fl fh bl bh ti ne fa : Int) (v : Value) (l : List Th) (w : World) (h : TsA l v w) (hv : valid fl fh bl bh ti ne fa l = false)  :
    Calls Tryz.prog 73 #[.agg #[.int .i64 fl, .int .i64 fh, .int .i64 bl, .int .i64 bh, .int .i64 ti, .int .i64 ne, .int .i64 fa, v], .func (.func fc) #[] caps] w fun e w' => e = .returned (.tuple #[.int .i64 0, .int .i64 1]) ∧ Below w.heap.size w w' := by
  have hmf : ∀ (fn : Fn) (first cap : Array Value) (w : World), (Instr.makeFunc fn first cap).run Tryz.prog w = .ok (.func fn first cap) w := fun _ _ _ _ => rfl
  have HL := Lib.hid (fun (W : World) (hg : Gr w W) => look_no fl fh bl bh ti ne fa v l W (TsA.lasts l _ _ _ h hg) hv)
  obtain ⟨vp, vcap, rfl, -⟩ := h.len
  clear h hv
  have hal := @cal
  have hfl := @fal
  go_enter_defers Tryz.func73, Tryz.ntmps73
  go_wp2_with (go_at_call 114; refine (HL.out _ ((Gr.alloc _ _).tr (Gr.alloc _ _))).mono ?_; rintro e w2 ⟨rfl, hb2⟩; obtain ⟨hc2, hf2, hz2⟩ := bcell hb2; have hw2 : w.heap.size + 2 ≤ w2.heap.size := (by have := hb2.size; simp at this; omega); have HGE := Lib.hid (show Gr _ _ from hb2); have HGW := Lib.hid (((Gr.alloc _ _).tr (Gr.alloc _ _)).tr hb2); clear hb2)
  refine leaves_cons (f := 112) (args := #[.pointer (some ⟨w.heap.size + 1, 0, none⟩)]) (by simp) (by simp [go_sem]) ?_
  refine (catch74_panicking (w.heap.size + 1) 0 1 [] _ (by simp [hc2, go_sem]) (by simp [hf2, go_sem]) (by omega)).mono ?_
  rintro e u' w'' ⟨rfl, rfl, w3, hb3, rfl⟩
  obtain ⟨hc3, hf3, hz3⟩ := bcell (Gr.tr HGE.out hb3)
  simp [Leaves, settle, results, Tryz.results73, go_sem, hc3]
  exact ((bgr (show Below w.heap.size w _ from HGW.out) (by first | (simp <;> omega) | omega) hb3).setCell (by first | (simp <;> omega) | omega) _)
end Go.Proofs.YtcngaohfemdfjaaGreat
