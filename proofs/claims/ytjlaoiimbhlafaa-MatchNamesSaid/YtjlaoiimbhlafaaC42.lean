import Derived.Test.YtjlaoiimbhlafaaC41
import Derived.Laws.StructEq
import Derived.ChangeKeysEq
set_option linter.unusedVariables false
set_option linter.unusedSimpArgs false
namespace Go.Proofs.Ytjlaoiimbhlafaa
open Go.RowKit Go.Shelf

open MW
attribute [local go_sem] Oper.semAt_some run_store_func
theorem cells3i : Try.prog.cellsOf 3 = 1 := by kernel_rfl
theorem eq55 (a b c d : Int) (W : World) : (Op.equalIn 10000 55 (.agg #[.int .i64 a, .int .i64 b]) (.agg #[.int .i64 c, .int .i64 d])).run Try.prog W = .ok (a == c && b == d) W := by
  obtain ⟨i, hi, -⟩ := infoP info3r
  rw [run_equalIn_array (P := Try.prog) W 9999 _ _ Try.underlying55 hi]
  simp only [cells3i, show List.range 2 = [0, 1] from rfl, Op.eqItems]
  simp [go_sem]
  by_cases h1 : a = c <;> by_cases h2 : b = d <;> simp [h1, h2]
theorem eq24 (a b c d : Int) (W : World) : (Op.equalIn 10000 24 (.agg #[.int .i64 a, .int .i64 b]) (.agg #[.int .i64 c, .int .i64 d])).run Try.prog W = .ok (a == c && b == d) W := by
  rw [run_equalIn_struct (P := Try.prog) W 9999 24 _ _ (by kernel_rfl) (by kernel_rfl)]
  simp only [Program.fieldsOf, Try.underlying24]
  simp [go_sem]
  by_cases h1 : a = c <;> by_cases h2 : b = d <;> simp [h1, h2]
theorem guard55 (op : BinOp) (x y : Operand) (xs ys : Array Value) (W : World) : (eqGuard op 55 x y (.agg xs) (.agg ys)).run Try.prog W = .ok () W := run_eqGuard_agg W op 55 x y xs ys (by kernel_rfl)
theorem guard24 (op : BinOp) (x y : Operand) (xs ys : Array Value) (W : World) : (eqGuard op 24 x y (.agg xs) (.agg ys)).run Try.prog W = .ok () W := run_eqGuard_agg W op 24 x y xs ys (by kernel_rfl)
theorem neq55 (a b c d : Int) (W : World) : (binOp .neq 55 (.agg #[.int .i64 a, .int .i64 b]) (.agg #[.int .i64 c, .int .i64 d])).run Try.prog W = .ok (.bool (!(a == c && b == d))) W := by rw [run_neq_struct, eq55]; rfl
theorem eql24 (a b c d : Int) (W : World) : (binOp .eql 24 (.agg #[.int .i64 a, .int .i64 b]) (.agg #[.int .i64 c, .int .i64 d])).run Try.prog W = .ok (.bool (a == c && b == d)) W := by rw [run_eql_struct, eq24]; rfl
attribute [local go_sem] guard55 guard24 neq55 eql24
attribute [-go_sem] run_eql_struct run_neq_struct
/-- A slice of ints that reads so. -/
def IntsIn (v : Value) (l : List Int) (w : World) : Prop := ∃ p c, v = .slice p l.length c ∧ ∀ i x, l[i]? = some x → ∃ b o, p = some ⟨b, o, none⟩ ∧ b < w.heap.size ∧ w.cell? ⟨b, o + i, none⟩ = some (.int .i64 x)
def PrsIn (v : Value) (l : List (Nat × Nat)) (w : World) : Prop := ∃ p c, v = .slice p l.length c ∧ ∀ i x, l[i]? = some x → ∃ b o, p = some ⟨b, o, none⟩ ∧ b < w.heap.size ∧ w.cell? ⟨b, o + i * 2, none⟩ = some (.int .i64 x.1) ∧ w.cell? ⟨b, o + i * 2 + 1, none⟩ = some (.int .i64 x.2)
theorem list_ne {α : Type} {l1 l2 : List α} {i : Nat} {x y : α} (h1 : l1[i]? = some x) (h2 : l2[i]? = some y) (h : x ≠ y) : l1 ≠ l2 := by
  intro e
  rw [e, h2] at h1
  exact h (Option.some.inj h1).symm
theorem list_eq {α : Type} {l1 l2 : List α} (hl : l1.length = l2.length) (h : ∀ j, j < l1.length → l1[j]? = l2[j]?) : l1 = l2 := by
  apply List.ext_getElem?
  intro j
  by_cases hj : j < l1.length
  · exact h j hj
  · rw [List.getElem?_eq_none (by omega), List.getElem?_eq_none (by omega)]
set_option maxRecDepth 100000 in
set_option maxHeartbeats 4000000 in
theorem ints29_any (l1 l2 : List Int) (v1 v2 : Value) (w : World) (h1 : IntsIn v1 l1 w) (h2 : IntsIn v2 l2 w) (hlen : l1.length ≤ 1000) (hlen2 : l2.length ≤ 1000) :
    Calls Try.prog 29 #[v1, v2] w fun e w' => e = .returned (.bool (decide (l1 = l2))) ∧ Below w.heap.size w w' := by
  obtain ⟨p1, c1, rfl, h1⟩ := h1
  obtain ⟨p2, c2, rfl, h2⟩ := h2
  have H1 := Lib.hid h1
  have H2 := Lib.hid h2
  clear h1 h2
  cases hq : (l1.length == l2.length) with
  | false =>
    have hq2 : ¬ l1.length = l2.length := by simpa using hq
    have he : ((l1.length : Int) == (l2.length : Int)) = false := by rw [← hq, Bool.eq_iff_iff, beq_iff_eq, beq_iff_eq]; omega
    have hd : decide (l1 = l2) = false := by simp only [decide_eq_false_iff_not]; exact fun e => hq2 (by rw [e])
    have HD := Lib.hid hd
    clear hq hd
    go_enter Try.func29, Try.ntmps29
    go_wp2_with fail
    go_ret
    exact ⟨by rw [HD.out]; rfl, Below.refl _ _⟩
  | true =>
    have hq2 : l1.length = l2.length := by simpa using hq
    have HQ := Lib.hid hq2
    have he : ((l1.length : Int) == (l2.length : Int)) = true := by rw [← hq, Bool.eq_iff_iff, beq_iff_eq, beq_iff_eq]; omega
    clear hq
    go_enter Try.func29, Try.ntmps29
    go_wp2_with fail
    clear he
    go_loopw [5] (fun t wr => ∃ i : Nat, i ≤ l1.length ∧ t = .int .i64 i ∧ Hid (Gr w wr) ∧ Hid (∀ j, j < i → l1[j]? = l2[j]?)) (fun t _ => (2000 - intOf t).toNat)
    case atStart => exact ⟨0, Nat.zero_le _, rfl, Lib.hid (Gr.same _), Lib.hid fun j hj => absurd hj (by omega)⟩
    case round =>
      obtain ⟨i, hi, rfl, HG, HE⟩ := hrel
      by_cases hlt : i < l1.length
      · have hlt2 : i < l2.length := by omega
        obtain ⟨x, hx⟩ : ∃ x, l1[i]? = some x := ⟨l1[i], List.getElem?_eq_getElem hlt⟩
        obtain ⟨y, hy⟩ : ∃ y, l2[i]? = some y := ⟨l2[i], List.getElem?_eq_getElem hlt2⟩
        obtain ⟨bL, oL, hp1, hb1, hcs1⟩ := H1.out i x hx
        obtain ⟨bR, oR, hp2, hb2, hcs2⟩ := H2.out i y hy
        subst hp1 hp2
        have HX := Lib.hid hx
        have HY := Lib.hid hy
        obtain ⟨hc, hf, hz⟩ := bcell HG.out
        have k1 := hz _ hb1
        have k2 := hz _ hb2
        have q1 := (hc _ _ hb1).trans hcs1
        have q2 := (hc _ _ hb2).trans hcs2
        have g1 : (i : Int) < l1.length := by omega
        have g2 : (i : Int) < l2.length := by omega
        clear hc hf hz hcs1 hcs2 hx hy H1 H2
        by_cases hxy : x = y
        · subst hxy
          have ne : (x != x) = false := by simp
          go_wp2_with fail
          go_region
          go_wp2_with fail
          refine ⟨⟨i + 1, by omega, by go_num, Lib.hid (by first | exact HG.out | exact Gr.tr HG.out (Gr.drew _)), Lib.hid fun j hj => ?_⟩, by simp [intOf]; omega⟩
          by_cases hji : j = i
          · rw [hji, HX.out, HY.out]
          · exact HE.out j (by omega)
        · have hd : decide (l1 = l2) = false := by simp only [decide_eq_false_iff_not]; exact list_ne HX.out HY.out hxy
          have HD := Lib.hid hd
          have ne : (x != y) = true := by simpa using hxy
          clear hd hxy
          go_wp2_with fail
          go_region
          go_wp2_with fail
          go_ret
          exact ⟨by rw [HD.out]; rfl, by first | exact HG.out | exact Gr.tr HG.out (Gr.drew _)⟩
      · have hin : i = l1.length := by omega
        have hd : decide (l1 = l2) = true := by simp only [decide_eq_true_eq]; exact list_eq HQ.out fun j hj => HE.out j (by omega)
        have HD := Lib.hid hd
        clear hd
        go_wp2_with fail
        go_ret
        exact ⟨by rw [HD.out]; rfl, HG.out⟩
set_option maxRecDepth 100000 in
set_option maxHeartbeats 4000000 in
theorem pairs22_any (l1 l2 : List (Nat × Nat)) (v1 v2 : Value) (w : World) (h1 : PrsIn v1 l1 w) (h2 : PrsIn v2 l2 w) (hlen : l1.length ≤ 1000) (hlen2 : l2.length ≤ 1000) :
    Calls Try.prog 22 #[v1, v2] w fun e w' => e = .returned (.bool (decide (l1 = l2))) ∧ Below w.heap.size w w' := by
  obtain ⟨p1, c1, rfl, h1⟩ := h1
  obtain ⟨p2, c2, rfl, h2⟩ := h2
  have H1 := Lib.hid h1
  have H2 := Lib.hid h2
  clear h1 h2
  cases hq : (l1.length == l2.length) with
  | false =>
    have hq2 : ¬ l1.length = l2.length := by simpa using hq
    have he : ((l1.length : Int) == (l2.length : Int)) = false := by rw [← hq, Bool.eq_iff_iff, beq_iff_eq, beq_iff_eq]; omega
    have hd : decide (l1 = l2) = false := by simp only [decide_eq_false_iff_not]; exact fun e => hq2 (by rw [e])
    have HD := Lib.hid hd
    clear hq hd
    go_enter Try.func22, Try.ntmps22
    go_wp2_with fail
    go_ret
    exact ⟨by rw [HD.out]; rfl, Below.refl _ _⟩
  | true =>
    have hq2 : l1.length = l2.length := by simpa using hq
    have HQ := Lib.hid hq2
    have he : ((l1.length : Int) == (l2.length : Int)) = true := by rw [← hq, Bool.eq_iff_iff, beq_iff_eq, beq_iff_eq]; omega
    clear hq
    go_enter Try.func22, Try.ntmps22
    go_wp2_with fail
    clear he
    go_loopw [5] (fun t wr => ∃ i : Nat, i ≤ l1.length ∧ t = .int .i64 i ∧ Hid (Gr w wr) ∧ Hid (∀ j, j < i → l1[j]? = l2[j]?)) (fun t _ => (2000 - intOf t).toNat)
    case atStart => exact ⟨0, Nat.zero_le _, rfl, Lib.hid (Gr.same _), Lib.hid fun j hj => absurd hj (by omega)⟩
    case round =>
      obtain ⟨i, hi, rfl, HG, HE⟩ := hrel
      by_cases hlt : i < l1.length
      · have hlt2 : i < l2.length := by omega
        obtain ⟨x, hx⟩ : ∃ x, l1[i]? = some x := ⟨l1[i], List.getElem?_eq_getElem hlt⟩
        obtain ⟨y, hy⟩ : ∃ y, l2[i]? = some y := ⟨l2[i], List.getElem?_eq_getElem hlt2⟩
        obtain ⟨bL, oL, hp1, hb1, hcs1⟩ := H1.out i x hx
        obtain ⟨bR, oR, hp2, hb2, hcs2⟩ := H2.out i y hy
        subst hp1 hp2
        have HX := Lib.hid hx
        have HY := Lib.hid hy
        obtain ⟨hc, hf, hz⟩ := bcell HG.out
        have k1 := hz _ hb1
        have k2 := hz _ hb2
        have q1 := (hc _ _ hb1).trans hcs1.1
        have q2 := (hc _ _ hb1).trans hcs1.2
        have q3 := (hc _ _ hb2).trans hcs2.1
        have q4 := (hc _ _ hb2).trans hcs2.2
        have g1 : (i : Int) < l1.length := by omega
        have g2 : (i : Int) < l2.length := by omega
        clear hc hf hz hcs1 hcs2 hx hy H1 H2
        by_cases hxy : x = y
        · subst hxy
          skip
          go_wp2_with fail
          go_region
          go_wp2_with fail
          refine ⟨⟨i + 1, by omega, by go_num, Lib.hid (by first | exact HG.out | exact Gr.tr HG.out (Gr.drew _)), Lib.hid fun j hj => ?_⟩, by simp [intOf]; omega⟩
          by_cases hji : j = i
          · rw [hji, HX.out, HY.out]
          · exact HE.out j (by omega)
        · have hd : decide (l1 = l2) = false := by simp only [decide_eq_false_iff_not]; exact list_ne HX.out HY.out hxy
          have HD := Lib.hid hd
          have ne : (!(x.1 : Int) == (y.1 : Int) || !(x.2 : Int) == (y.2 : Int)) = true := by
            simp only [Bool.or_eq_true, Bool.not_eq_true', beq_eq_false_iff_ne]
            by_cases h : x.1 = y.1
            · exact .inr fun e => hxy (Prod.ext h (by omega))
            · exact .inl fun e => h (by omega)
          clear hd hxy
          go_wp2_with fail
          go_region
          go_wp2_with fail
          go_ret
          exact ⟨by rw [HD.out]; rfl, by first | exact HG.out | exact Gr.tr HG.out (Gr.drew _)⟩
      · have hin : i = l1.length := by omega
        have hd : decide (l1 = l2) = true := by simp only [decide_eq_true_eq]; exact list_eq HQ.out fun j hj => HE.out j (by omega)
        have HD := Lib.hid hd
        clear hd
        go_wp2_with fail
        go_ret
        exact ⟨by rw [HD.out]; rfl, HG.out⟩

end Go.Proofs.Ytjlaoiimbhlafaa
