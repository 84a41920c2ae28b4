import Derived.Test.YtcngaohfemdfjaaGreatE13
set_option linter.unusedVariables false
set_option linter.unusedSimpArgs false
set_option maxRecDepth 100000
set_option maxHeartbeats 60000000
namespace Go.Proofs.YtcngaohfemdfjaaGreat
open Go.RowKit
theorem narrowed59_no (t : Tm) (x y x' y' : Int) (w : World) (HT : ∀ b W, Box W b [.int .i64 x, .int .i64 y] 136 → Gr w W → w.heap.size ≤ b → Calls Tryz.prog 59 #[.agg t.cs.toArray, sayTo b] W fun e w' => e = .returned (.tuple #[]) ∧ Box w' b [.int .i64 x', .int .i64 y'] 136 ∧ Only b W w') (hn : y' < x') :
    Calls Tryz.prog 57 #[.agg #[.int .i64 x, .int .i64 y], .func (.func 59) #[.agg t.cs.toArray] #[]] w fun e w' => e = .returned (.tuple #[.agg #[.int .i64 0, .int .i64 0], .int .i64 4]) ∧ Below w.heap.size w w' := by
  have hmf : ∀ (fn : Fn) (first cap : Array Value) (w : World), (Instr.makeFunc fn first cap).run Tryz.prog w = .ok (.func fn first cap) w := fun _ _ _ _ => rfl
  have HH := Lib.hid HT
  clear HT
  unfold sayTo at HH
  have h3 : Box (((w.alloc (Obj.cells #[.int .i64 x, .int .i64 y] 23)).alloc (Obj.cells #[.int .i64 0, .int .i64 0] 23)).alloc (Obj.cells #[.int .i64 x, .int .i64 y] 136)) (w.heap.size + 1 + 1) [.int .i64 x, .int .i64 y] 136 := by
    have := Box.fresh ((w.alloc (Obj.cells #[.int .i64 x, .int .i64 y] 23)).alloc (Obj.cells #[.int .i64 0, .int .i64 0] 23)) [.int .i64 x, .int .i64 y] 136
    simpa using this
  have hr : Box (((w.alloc (Obj.cells #[.int .i64 x, .int .i64 y] 23)).alloc (Obj.cells #[.int .i64 0, .int .i64 0] 23)).alloc (Obj.cells #[.int .i64 x, .int .i64 y] 136)) (w.heap.size + 1) [.int .i64 0, .int .i64 0] 23 := by
    have := (Box.fresh (w.alloc (Obj.cells #[.int .i64 x, .int .i64 y] 23)) [.int .i64 0, .int .i64 0] 23).grow (Gr.alloc _ (Obj.cells #[.int .i64 x, .int .i64 y] 136))
    simpa using this
  have H3 := Lib.hid h3
  have HR := Lib.hid hr
  clear h3 hr
  go_enter Tryz.func57, Tryz.ntmps57
  go_wp2_with fail
  refine (HH.out (w.heap.size + 1 + 1) _ H3.out (((Gr.alloc _ _).tr (Gr.alloc _ _)).tr (Gr.alloc _ _)) (by omega)).mono ?_
  rintro e w3 ⟨rfl, hk3, ho3⟩
  have HO := Lib.hid ho3
  obtain ⟨k0, k1, -, -, kl⟩ := hk3.two
  have HR3 := Lib.hid (ho3.box HR.out (by omega))
  obtain ⟨q0, q1, qf0, qf1, ql⟩ := HR3.out.two
  clear hk3 ho3
  go_wp2
  exact bodyPost_ret (v := .tuple #[.agg #[.int .i64 0, .int .i64 0], .int .i64 4]) (by simp [results, Tryz.results57, go_sem, q0, q1, k0, k1]) rfl ⟨rfl, (((Only.gr HO.out (((Gr.alloc _ _).tr (Gr.alloc _ _)).tr (Gr.alloc _ _)) (by omega)).setCell (by first | (simp <;> omega) | omega) _).setCell (by first | (simp <;> omega) | omega) _)⟩
theorem narrowed59_ok (t : Tm) (x y x' y' : Int) (w : World) (HT : ∀ b W, Box W b [.int .i64 x, .int .i64 y] 136 → Gr w W → w.heap.size ≤ b → Calls Tryz.prog 59 #[.agg t.cs.toArray, sayTo b] W fun e w' => e = .returned (.tuple #[]) ∧ Box w' b [.int .i64 x', .int .i64 y'] 136 ∧ Only b W w') (hn : ¬ y' < x') :
    Calls Tryz.prog 57 #[.agg #[.int .i64 x, .int .i64 y], .func (.func 59) #[.agg t.cs.toArray] #[]] w fun e w' => e = .returned (.tuple #[.agg #[.int .i64 x', .int .i64 y'], .int .i64 0]) ∧ Below w.heap.size w w' := by
  have hmf : ∀ (fn : Fn) (first cap : Array Value) (w : World), (Instr.makeFunc fn first cap).run Tryz.prog w = .ok (.func fn first cap) w := fun _ _ _ _ => rfl
  have HH := Lib.hid HT
  clear HT
  unfold sayTo at HH
  have h3 : Box (((w.alloc (Obj.cells #[.int .i64 x, .int .i64 y] 23)).alloc (Obj.cells #[.int .i64 0, .int .i64 0] 23)).alloc (Obj.cells #[.int .i64 x, .int .i64 y] 136)) (w.heap.size + 1 + 1) [.int .i64 x, .int .i64 y] 136 := by
    have := Box.fresh ((w.alloc (Obj.cells #[.int .i64 x, .int .i64 y] 23)).alloc (Obj.cells #[.int .i64 0, .int .i64 0] 23)) [.int .i64 x, .int .i64 y] 136
    simpa using this
  have hr : Box (((w.alloc (Obj.cells #[.int .i64 x, .int .i64 y] 23)).alloc (Obj.cells #[.int .i64 0, .int .i64 0] 23)).alloc (Obj.cells #[.int .i64 x, .int .i64 y] 136)) (w.heap.size + 1) [.int .i64 0, .int .i64 0] 23 := by
    have := (Box.fresh (w.alloc (Obj.cells #[.int .i64 x, .int .i64 y] 23)) [.int .i64 0, .int .i64 0] 23).grow (Gr.alloc _ (Obj.cells #[.int .i64 x, .int .i64 y] 136))
    simpa using this
  have H3 := Lib.hid h3
  have HR := Lib.hid hr
  clear h3 hr
  go_enter Tryz.func57, Tryz.ntmps57
  go_wp2_with fail
  refine (HH.out (w.heap.size + 1 + 1) _ H3.out (((Gr.alloc _ _).tr (Gr.alloc _ _)).tr (Gr.alloc _ _)) (by omega)).mono ?_
  rintro e w3 ⟨rfl, hk3, ho3⟩
  have HO := Lib.hid ho3
  obtain ⟨k0, k1, -, -, kl⟩ := hk3.two
  have HR3 := Lib.hid (ho3.box HR.out (by omega))
  obtain ⟨q0, q1, qf0, qf1, ql⟩ := HR3.out.two
  clear hk3 ho3
  go_wp2_with fail
  refine (mspan_any _ _ _).mono ?_
  rintro e w4 ⟨rfl, hb4⟩
  have HB4 := Lib.hid hb4
  obtain ⟨hc4, hf4, hz4⟩ := bcell hb4
  clear hb4
  go_wp2
  exact bodyPost_ret (v := .tuple #[.agg #[.int .i64 x', .int .i64 y'], .int .i64 0]) (by simp [results, Tryz.results57, go_sem, hc4, ql, kl, q0, q1, k0, k1]) rfl ⟨rfl, (((bgr (Only.gr HO.out (((Gr.alloc _ _).tr (Gr.alloc _ _)).tr (Gr.alloc _ _)) (by omega)) (by first | (simp <;> omega) | omega) HB4.out).setCell (by first | (simp <;> omega) | omega) _).setCell (by first | (simp <;> omega) | omega) _)⟩
theorem narrowed98_no (t : Tm) (x y x' y' : Int) (w : World) (HT : ∀ b W, Box W b [.int .i64 x, .int .i64 y] 136 → Gr w W → w.heap.size ≤ b → Calls Tryz.prog 98 #[.agg t.cs.toArray, sayTo b] W fun e w' => e = .returned (.tuple #[]) ∧ Box w' b [.int .i64 x', .int .i64 y'] 136 ∧ Only b W w') (hn : y' < x') :
    Calls Tryz.prog 57 #[.agg #[.int .i64 x, .int .i64 y], .func (.func 98) #[.agg t.cs.toArray] #[]] w fun e w' => e = .returned (.tuple #[.agg #[.int .i64 0, .int .i64 0], .int .i64 4]) ∧ Below w.heap.size w w' := by
  have hmf : ∀ (fn : Fn) (first cap : Array Value) (w : World), (Instr.makeFunc fn first cap).run Tryz.prog w = .ok (.func fn first cap) w := fun _ _ _ _ => rfl
  have HH := Lib.hid HT
  clear HT
  unfold sayTo at HH
  have h3 : Box (((w.alloc (Obj.cells #[.int .i64 x, .int .i64 y] 23)).alloc (Obj.cells #[.int .i64 0, .int .i64 0] 23)).alloc (Obj.cells #[.int .i64 x, .int .i64 y] 136)) (w.heap.size + 1 + 1) [.int .i64 x, .int .i64 y] 136 := by
    have := Box.fresh ((w.alloc (Obj.cells #[.int .i64 x, .int .i64 y] 23)).alloc (Obj.cells #[.int .i64 0, .int .i64 0] 23)) [.int .i64 x, .int .i64 y] 136
    simpa using this
  have hr : Box (((w.alloc (Obj.cells #[.int .i64 x, .int .i64 y] 23)).alloc (Obj.cells #[.int .i64 0, .int .i64 0] 23)).alloc (Obj.cells #[.int .i64 x, .int .i64 y] 136)) (w.heap.size + 1) [.int .i64 0, .int .i64 0] 23 := by
    have := (Box.fresh (w.alloc (Obj.cells #[.int .i64 x, .int .i64 y] 23)) [.int .i64 0, .int .i64 0] 23).grow (Gr.alloc _ (Obj.cells #[.int .i64 x, .int .i64 y] 136))
    simpa using this
  have H3 := Lib.hid h3
  have HR := Lib.hid hr
  clear h3 hr
  go_enter Tryz.func57, Tryz.ntmps57
  go_wp2_with fail
  refine (HH.out (w.heap.size + 1 + 1) _ H3.out (((Gr.alloc _ _).tr (Gr.alloc _ _)).tr (Gr.alloc _ _)) (by omega)).mono ?_
  rintro e w3 ⟨rfl, hk3, ho3⟩
  have HO := Lib.hid ho3
  obtain ⟨k0, k1, -, -, kl⟩ := hk3.two
  have HR3 := Lib.hid (ho3.box HR.out (by omega))
  obtain ⟨q0, q1, qf0, qf1, ql⟩ := HR3.out.two
  clear hk3 ho3
  go_wp2
  exact bodyPost_ret (v := .tuple #[.agg #[.int .i64 0, .int .i64 0], .int .i64 4]) (by simp [results, Tryz.results57, go_sem, q0, q1, k0, k1]) rfl ⟨rfl, (((Only.gr HO.out (((Gr.alloc _ _).tr (Gr.alloc _ _)).tr (Gr.alloc _ _)) (by omega)).setCell (by first | (simp <;> omega) | omega) _).setCell (by first | (simp <;> omega) | omega) _)⟩
theorem narrowed98_ok (t : Tm) (x y x' y' : Int) (w : World) (HT : ∀ b W, Box W b [.int .i64 x, .int .i64 y] 136 → Gr w W → w.heap.size ≤ b → Calls Tryz.prog 98 #[.agg t.cs.toArray, sayTo b] W fun e w' => e = .returned (.tuple #[]) ∧ Box w' b [.int .i64 x', .int .i64 y'] 136 ∧ Only b W w') (hn : ¬ y' < x') :
    Calls Tryz.prog 57 #[.agg #[.int .i64 x, .int .i64 y], .func (.func 98) #[.agg t.cs.toArray] #[]] w fun e w' => e = .returned (.tuple #[.agg #[.int .i64 x', .int .i64 y'], .int .i64 0]) ∧ Below w.heap.size w w' := by
  have hmf : ∀ (fn : Fn) (first cap : Array Value) (w : World), (Instr.makeFunc fn first cap).run Tryz.prog w = .ok (.func fn first cap) w := fun _ _ _ _ => rfl
  have HH := Lib.hid HT
  clear HT
  unfold sayTo at HH
  have h3 : Box (((w.alloc (Obj.cells #[.int .i64 x, .int .i64 y] 23)).alloc (Obj.cells #[.int .i64 0, .int .i64 0] 23)).alloc (Obj.cells #[.int .i64 x, .int .i64 y] 136)) (w.heap.size + 1 + 1) [.int .i64 x, .int .i64 y] 136 := by
    have := Box.fresh ((w.alloc (Obj.cells #[.int .i64 x, .int .i64 y] 23)).alloc (Obj.cells #[.int .i64 0, .int .i64 0] 23)) [.int .i64 x, .int .i64 y] 136
    simpa using this
  have hr : Box (((w.alloc (Obj.cells #[.int .i64 x, .int .i64 y] 23)).alloc (Obj.cells #[.int .i64 0, .int .i64 0] 23)).alloc (Obj.cells #[.int .i64 x, .int .i64 y] 136)) (w.heap.size + 1) [.int .i64 0, .int .i64 0] 23 := by
    have := (Box.fresh (w.alloc (Obj.cells #[.int .i64 x, .int .i64 y] 23)) [.int .i64 0, .int .i64 0] 23).grow (Gr.alloc _ (Obj.cells #[.int .i64 x, .int .i64 y] 136))
    simpa using this
  have H3 := Lib.hid h3
  have HR := Lib.hid hr
  clear h3 hr
  go_enter Tryz.func57, Tryz.ntmps57
  go_wp2_with fail
  refine (HH.out (w.heap.size + 1 + 1) _ H3.out (((Gr.alloc _ _).tr (Gr.alloc _ _)).tr (Gr.alloc _ _)) (by omega)).mono ?_
  rintro e w3 ⟨rfl, hk3, ho3⟩
  have HO := Lib.hid ho3
  obtain ⟨k0, k1, -, -, kl⟩ := hk3.two
  have HR3 := Lib.hid (ho3.box HR.out (by omega))
  obtain ⟨q0, q1, qf0, qf1, ql⟩ := HR3.out.two
  clear hk3 ho3
  go_wp2_with fail
  refine (mspan_any _ _ _).mono ?_
  rintro e w4 ⟨rfl, hb4⟩
  have HB4 := Lib.hid hb4
  obtain ⟨hc4, hf4, hz4⟩ := bcell hb4
  clear hb4
  go_wp2
  exact bodyPost_ret (v := .tuple #[.agg #[.int .i64 x', .int .i64 y'], .int .i64 0]) (by simp [results, Tryz.results57, go_sem, hc4, ql, kl, q0, q1, k0, k1]) rfl ⟨rfl, (((bgr (Only.gr HO.out (((Gr.alloc _ _).tr (Gr.alloc _ _)).tr (Gr.alloc _ _)) (by omega)) (by first | (simp <;> omega) | omega) HB4.out).setCell (by first | (simp <;> omega) | omega) _).setCell (by first | (simp <;> omega) | omega) _)⟩
end Go.Proofs.YtcngaohfemdfjaaGreat
