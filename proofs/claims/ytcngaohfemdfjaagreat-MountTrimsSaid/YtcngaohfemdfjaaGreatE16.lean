import Derived.Test.YtcngaohfemdfjaaGreatE08
import Derived.Test.YtcngaohfemdfjaaGreatE09
import Derived.Test.YtcngaohfemdfjaaGreatE10
import Derived.Test.YtcngaohfemdfjaaGreatE11
import Derived.Test.YtcngaohfemdfjaaGreatE14
set_option linter.unusedVariables false
set_option linter.unusedSimpArgs false
set_option maxRecDepth 100000
set_option maxHeartbeats 60000000
namespace Go.Proofs.YtcngaohfemdfjaaGreat
open Go.RowKit
def Tm.rlo (t : Tm) : Int := imax (imax 0 (t.dist (t.k.elo + t.k.prism))) (t.win - t.k.deep)
def Tm.rhi (t : Tm) : Int := imin (imin 2000 (t.dist (t.k.ehi - t.k.squeeze))) (t.win + t.k.front)
def Tm.room (t : Tm) : Int × Int × Int := if t.rhi < t.rlo then (0, 0, 4) else (t.rlo, t.rhi, 0)
theorem narrowed98_is (t : Tm) (h : t.ok) {x y e : Int} (hr : t.room = (x, y, e)) (w : World) :
    Calls Tryz.prog 57 #[.agg #[.int .i64 0, .int .i64 2000], .func (.func 98) #[.agg t.cs.toArray] #[]] w fun e' w' => e' = .returned (.tuple #[.agg #[.int .i64 x, .int .i64 y], .int .i64 e]) ∧ Below w.heap.size w w' := by
  unfold Tm.room at hr
  by_cases hc : t.rhi < t.rlo
  · rw [if_pos hc] at hr
    cases hr
    exact narrowed98_no t 0 2000 t.rlo t.rhi w (fun b W hb _ _ => tellRoom_ok t h b 0 2000 W hb) hc
  · rw [if_neg hc] at hr
    cases hr
    exact narrowed98_ok t 0 2000 t.rlo t.rhi w (fun b W hb _ _ => tellRoom_ok t h b 0 2000 W hb) hc
theorem room_is (t : Tm) (h : t.ok) {x y e : Int} (hr : t.room = (x, y, e)) (w : World) :
    Calls Tryz.prog 62 #[.agg t.cs.toArray] w fun e' w' => e' = .returned (.tuple #[.agg #[.int .i64 x, .int .i64 y], .int .i64 e]) ∧ Below w.heap.size w w' := by
  have hmf : ∀ (fn : Fn) (first cap : Array Value) (w : World), (Instr.makeFunc fn first cap).run Tryz.prog w = .ok (.func fn first cap) w := fun _ _ _ _ => rfl
  have HN := Lib.hid (fun W => narrowed98_is t h hr W)
  have HB := Lib.hid (show Box ((w.alloc (Obj.cells t.cs.toArray 83)).alloc (Obj.cells #[.int .i64 0, .int .i64 0] 23)) w.heap.size t.cs 83 from (Box.fresh w t.cs 83).grow (Gr.alloc _ _))
  have hl : t.cs.length = 22 := rfl
  clear h hr
  go_enter Tryz.func62, Tryz.ntmps62
  go_wp2_with fail
  refine region2 6 ?_ ?_ ?_
  · kernel_rfl
  · kernel_rfl
  simp only [List.take_succ_cons, List.take_zero, List.drop_succ_cons, List.drop_zero]
  apply ceq (D := []) rfl (by kernel_rfl)
  · intro ρ W ⟨p1,p2,p3⟩ hG hF K hK; (try simp [FD] at hF); have ⟨hc, hf, hz⟩ := bdr hG; go_simp; exact hK _ (gc (mspan_any _ _ _))
  apply ceq (D := [(1, none)]) rfl (by kernel_rfl)
  · intro ρ W ⟨p1,p2,p3⟩ hG hF K hK; (try simp [FD] at hF); rw [xlb row83 t.cs_len (HB.out.grow (Gr.tr (Gr.drew _) hG)) rfl hF]; exact hK _ gv
  apply ceq (D := [(5, some 0)]) rfl (by kernel_rfl)
  · intro ρ W ⟨p1,p2,p3⟩ hG hF K hK; (try simp [FD] at hF); have ⟨hc, hf, hz⟩ := bdr hG; go_simp; exact hK _ gv
  apply ceq (D := [(4, some 2), (6, some 0)]) rfl (by kernel_rfl)
  · intro ρ W ⟨p1,p2,p3⟩ hG hF K hK; (try simp [FD] at hF); have ⟨hc, hf, hz⟩ := bdr hG; go_simp; exact hK _ (gc (HN.out _))
  apply ceq (D := [(7, some 0)]) rfl (by kernel_rfl)
  · intro ρ W ⟨p1,p2,p3⟩ hG hF K hK; (try simp [FD] at hF); have ⟨hc, hf, hz⟩ := bdr hG; go_simp; exact hK _ gv
  apply ceq (D := [(7, some 1)]) rfl (by kernel_rfl)
  · intro ρ W ⟨p1,p2,p3⟩ hG hF K hK; (try simp [FD] at hF); have ⟨hc, hf, hz⟩ := bdr hG; go_simp; exact hK _ gv
  refine cdn ?_
  intro vs W hG hV
  obtain ⟨e5, e4, -⟩ := hV
  simp only [Nat.reduceSub] at e4 e5
  simp only [lay, Act.put, List.getElem?_toArray, List.getElem?_cons_succ, List.getElem?_cons_zero, Option.bind_some, List.setIfInBounds_toArray, List.set_cons_succ, List.set_cons_zero]
  generalize vs 0 = v0, vs 1 = v1, vs 2 = v2, vs 3 = v3
  generalize vs 4 = v4 at *
  generalize vs 5 = v5 at *
  subst e4
  subst e5
  obtain ⟨hc, hf, hz⟩ := bcell hG
  go_wp2
  exact bodyPost_ret (v := .tuple #[.agg #[.int .i64 x, .int .i64 y], .int .i64 e]) (by simp [results, Tryz.results62, go_sem, hc]) rfl ⟨rfl, (((bgr (((Below.refl _ _).alloc (by first | (simp <;> omega) | omega) _).alloc (by first | (simp <;> omega) | omega) _) (by first | (simp <;> omega) | omega) hG).setCell (by first | (simp <;> omega) | omega) _).setCell (by first | (simp <;> omega) | omega) _)⟩
theorem mvalid_any (k : Cd) (w : World) : Calls Tryz.prog 89 #[.agg k.cs.toArray] w fun e w' => e = .returned (.bool k.okc) ∧ Below w.heap.size w w' := by
  have hno : ∀ j, j < 10 → k.vd j = false → k.okc = false := fun j hj h => by
    unfold Cd.okc
    exact List.all_eq_false.2 ⟨j, List.mem_range.2 hj, by simp [h]⟩
  cases h0 : k.vd 0 with
  | false => rw [hno 0 (by omega) h0]; exact valid_0 k w h0
  | true =>
    cases h1 : k.vd 1 with
    | false => rw [hno 1 (by omega) h1]; exact valid_1 k w h0 h1
    | true =>
      cases h2 : k.vd 2 with
      | false => rw [hno 2 (by omega) h2]; exact valid_2 k w h0 h1 h2
      | true =>
        cases h3 : k.vd 3 with
        | false => rw [hno 3 (by omega) h3]; exact valid_3 k w h0 h1 h2 h3
        | true =>
          cases h4 : k.vd 4 with
          | false => rw [hno 4 (by omega) h4]; exact valid_4 k w h0 h1 h2 h3 h4
          | true =>
            cases h5 : k.vd 5 with
            | false => rw [hno 5 (by omega) h5]; exact valid_5 k w h0 h1 h2 h3 h4 h5
            | true =>
              cases h6 : k.vd 6 with
              | false => rw [hno 6 (by omega) h6]; exact valid_6 k w h0 h1 h2 h3 h4 h5 h6
              | true =>
                cases h7 : k.vd 7 with
                | false => rw [hno 7 (by omega) h7]; exact valid_7 k w h0 h1 h2 h3 h4 h5 h6 h7
                | true =>
                  cases h8 : k.vd 8 with
                  | false => rw [hno 8 (by omega) h8]; exact valid_8 k w h0 h1 h2 h3 h4 h5 h6 h7 h8
                  | true =>
                    cases h9 : k.vd 9 with
                    | false => rw [hno 9 (by omega) h9]; exact valid_9 k w h0 h1 h2 h3 h4 h5 h6 h7 h8 h9
                    | true =>
                      have hok : k.okc = true := by
                        unfold Cd.okc
                        refine List.all_eq_true.2 fun j hj => ?_
                        have hj' := List.mem_range.1 hj
                        match j, hj' with
                        | 0, _ => exact h0
                        | 1, _ => exact h1
                        | 2, _ => exact h2
                        | 3, _ => exact h3
                        | 4, _ => exact h4
                        | 5, _ => exact h5
                        | 6, _ => exact h6
                        | 7, _ => exact h7
                        | 8, _ => exact h8
                        | 9, _ => exact h9
                      rw [hok]; exact valid_10 k w h0 h1 h2 h3 h4 h5 h6 h7 h8 h9
end Go.Proofs.YtcngaohfemdfjaaGreat
