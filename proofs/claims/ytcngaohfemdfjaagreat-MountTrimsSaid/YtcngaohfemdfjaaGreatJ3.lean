import Derived.Test.YtcngaohfemdfjaaGreatE34
import Derived.Test.YtcngaohfemdfjaaGreatE33
import Derived.Test.YtcngaohfemdfjaaGreatJ2
import Derived.RegionTactic
import Derived.Deep.CutBlock
import Derived.Deep.DeepCutAuto
import Derived.Test.YtcngaohfemdfjaaGreatH0
set_option linter.unusedVariables false
set_option linter.unusedSimpArgs false
set_option maxRecDepth 100000
set_option maxHeartbeats 60000000
namespace Go.Proofs.YtcngaohfemdfjaaGreat
open Go.RowKit
theorem rwhy28_short (k : Cd) (w : World) (hT : TsA k.p.l (.slice k.sp k.p.l.length k.cap) w) (t : Cu) (e : Int) (hA : Hid (k.trimA = (t, e))) (h11 : (e != 11) = true) :
    Calls Tryz.prog 28 #[.agg k.cs.toArray] w fun e' w' => e' = .returned (.tuple #[.int .i64 0, .int .i64 0, .int .i64 0, .int .i64 e]) ∧ Below w.heap.size w w' := by
  have HT := Lib.hid hT
  have HTM : Hid (∀ W, TsA k.p.l (.slice k.sp k.p.l.length k.cap) W → Calls Tryz.prog 26 #[.agg k.cs.toArray] W fun e' w' => e' = .returned (.tuple #[.agg #[.int .i64 t.a, .int .i64 t.b, .int .i64 t.c, .int .i64 t.d], .int .i64 e]) ∧ Below W.heap.size W w') := Lib.hid fun W h => rtrim26_any k W h hA.out
  have HB0 := Lib.hid (Box.fresh w k.cs 28)
  have HG0 := Lib.hid (Gr.alloc w (Obj.cells k.cs.toArray 28))
  clear hT
  have p7 : ∀ h : 7 < k.cs.length, k.cs[7] = .slice k.sp k.p.l.length k.cap := fun _ => rfl
  have p10 : ∀ h : 10 < k.cs.length, k.cs[10] = .int .i64 k.cuts := fun _ => rfl
  have hl : k.cs.length = 17 := rfl
  go_enter Tryz.func28, Tryz.ntmps28
  go_wp2_with (first | (with_reducible refine wsl (ty := 28) rfl ?_; unfold Stop; first | refine wlb row28 rfl (HB0.out) rfl rfl rfl ?_ | refine wlg row28 rfl (HB0.out) (Cd.whole k) rfl rfl rfl ?_))
  refine (HTM.out _ (TsA.lasts _ _ _ _ HT.out HG0.out)).mono ?_
  rintro e_ w1 ⟨rfl, hb1⟩
  have hga := Gr.tr hb1 (Gr.alloc w1 (Obj.cells #[.int .i64 t.a, .int .i64 t.b, .int .i64 t.c, .int .i64 t.d] 30))
  have HG1 := Lib.hid (HG0.out.tr hga)
  have HB1 := Lib.hid (HB0.out.grow hga)
  clear hb1 hga
  go_wp2_with fail
  exact bodyPost_ret (v := .tuple #[.int .i64 0, .int .i64 0, .int .i64 0, .int .i64 e]) (by simp [results, Tryz.results28, go_sem]) rfl ⟨rfl, HG1.out⟩
theorem rwhy28_long (k : Cd) (w : World) (hT : TsA k.p.l (.slice k.sp k.p.l.length k.cap) w) (t : Cu) (e : Int) (hA : Hid (k.trimA = (t, e))) (h11 : e = 11) (hok : k.p.ok = true) (hk : k.okc = true) (hp : k.p.pw.1 ≤ k.p.pw.2) (x1 y1 x2 y2 : Int) (b1 b2 : Bool) (ha1 : Hid ((b1 = true ∧ k.p.apart (k.elo + k.prism + k.squeeze - k.ehi) = some (x1, y1)) ∨ (b1 = false ∧ x1 = 0 ∧ y1 = 0 ∧ k.p.apart (k.elo + k.prism + k.squeeze - k.ehi) = none))) (ha2 : Hid ((b2 = true ∧ k.p.apart (k.front + k.deep) = some (x2, y2)) ∨ (b2 = false ∧ x2 = 0 ∧ y2 = 0 ∧ k.p.apart (k.front + k.deep) = none))) (a b c : Int) (ha : Hid (a = if b1 = true then 1 else if b2 = true then 2 else 3)) (hb : Hid (b = if b1 = true then x1 else if b2 = true then x2 else 0)) (hc0 : Hid (c = if b1 = true then y1 else if b2 = true then y2 else 0)) :
    Calls Tryz.prog 28 #[.agg k.cs.toArray] w fun e' w' => e' = .returned (.tuple #[.int .i64 a, .int .i64 b, .int .i64 c, .int .i64 11]) ∧ Below w.heap.size w w' := by
  have htm := tm_ok (k := k) (mb := 0) (u := ⟨0, 0, 0, 0⟩) hk (by have := (okc_cuts hk).1; unfold Cu.isT; simp; omega)
  have b7 := htm.elo
  have b8 := htm.ehi
  have b9 := htm.prism
  have b10 := htm.squeeze
  have b11 := htm.front
  have b12 := htm.deep
  dsimp only at b7 b8 b9 b10 b11 b12
  obtain ⟨b7, b7'⟩ := b7
  obtain ⟨b8, b8'⟩ := b8
  obtain ⟨b9, b9'⟩ := b9
  obtain ⟨b10, b10'⟩ := b10
  obtain ⟨b11, b11'⟩ := b11
  obtain ⟨b12, b12'⟩ := b12
  have HF1 : Hid (∀ W, TsA k.p.l (.slice k.sp k.p.l.length k.cap) W → Calls Tryz.prog 71 #[.agg k.cs.toArray, .int .i64 (k.elo + k.prism + k.squeeze - k.ehi)] W fun e' w' => e' = .returned (.tuple #[.int .i64 x1, .int .i64 y1, .bool b1]) ∧ Below W.heap.size W w') := Lib.hid fun W h => rfarther k _ rfl _ W h hok hp (by omega) x1 y1 b1 ha1
  have HF2 : Hid (∀ W, TsA k.p.l (.slice k.sp k.p.l.length k.cap) W → Calls Tryz.prog 71 #[.agg k.cs.toArray, .int .i64 (k.front + k.deep)] W fun e' w' => e' = .returned (.tuple #[.int .i64 x2, .int .i64 y2, .bool b2]) ∧ Below W.heap.size W w') := Lib.hid fun W h => rfarther k _ rfl _ W h hok hp (by omega) x2 y2 b2 ha2
  subst h11
  clear htm
  have HT := Lib.hid hT
  have HTM : Hid (∀ W, TsA k.p.l (.slice k.sp k.p.l.length k.cap) W → Calls Tryz.prog 26 #[.agg k.cs.toArray] W fun e' w' => e' = .returned (.tuple #[.agg #[.int .i64 t.a, .int .i64 t.b, .int .i64 t.c, .int .i64 t.d], .int .i64 11]) ∧ Below W.heap.size W w') := Lib.hid fun W h => rtrim26_any k W h hA.out
  have HB0 := Lib.hid (Box.fresh w k.cs 28)
  have HG0 := Lib.hid (Gr.alloc w (Obj.cells k.cs.toArray 28))
  clear hT
  have p7 : ∀ h : 7 < k.cs.length, k.cs[7] = .slice k.sp k.p.l.length k.cap := fun _ => rfl
  have p10 : ∀ h : 10 < k.cs.length, k.cs[10] = .int .i64 k.cuts := fun _ => rfl
  have hl : k.cs.length = 17 := rfl
  go_enter Tryz.func28, Tryz.ntmps28
  go_wp2_with (first | (with_reducible refine wsl (ty := 28) rfl ?_; unfold Stop; first | refine wlb row28 rfl (HB0.out) rfl rfl rfl ?_ | refine wlg row28 rfl (HB0.out) (Cd.whole k) rfl rfl rfl ?_))
  refine (HTM.out _ (TsA.lasts _ _ _ _ HT.out HG0.out)).mono ?_
  rintro e_ w1 ⟨rfl, hb1⟩
  have hga := Gr.tr hb1 (Gr.alloc w1 (Obj.cells #[.int .i64 t.a, .int .i64 t.b, .int .i64 t.c, .int .i64 t.d] 30))
  have HG1 := Lib.hid (HG0.out.tr hga)
  have HB1 := Lib.hid (HB0.out.grow hga)
  clear hb1 hga
  have c11 := HB1.out.cell (i := 11) rfl
  have c12 := HB1.out.cell (i := 12) rfl
  have c13 := HB1.out.cell (i := 13) rfl
  have c14 := HB1.out.cell (i := 14) rfl
  have c15 := HB1.out.cell (i := 15) rfl
  have c16 := HB1.out.cell (i := 16) rfl
  have cl := HB1.out.lt
  go_wp2_with (first | (with_reducible refine wsl (ty := 28) rfl ?_; unfold Stop; first | refine wlb row28 rfl (HB1.out) rfl rfl rfl ?_ | refine wlg row28 rfl (HB1.out) (Cd.whole k) rfl rfl rfl ?_))
  refine (HF1.out _ (TsA.lasts _ _ _ _ HT.out HG1.out)).mono ?_
  rintro e_ w2 ⟨rfl, hb2⟩
  have HG2 := Lib.hid (HG1.out.tr hb2)
  have HB2 := Lib.hid (HB1.out.grow hb2)
  clear hb2
  clear c11 c12 c13 c14 c15 c16 cl
  have c11 := HB2.out.cell (i := 11) rfl
  have c12 := HB2.out.cell (i := 12) rfl
  have c13 := HB2.out.cell (i := 13) rfl
  have c14 := HB2.out.cell (i := 14) rfl
  have c15 := HB2.out.cell (i := 15) rfl
  have c16 := HB2.out.cell (i := 16) rfl
  have cl := HB2.out.lt
  cases b1 with
  | true =>
    go_wp2_with fail
    exact bodyPost_ret (v := .tuple #[.int .i64 1, .int .i64 x1, .int .i64 y1, .int .i64 11]) (by simp [results, Tryz.results28, go_sem]) rfl ⟨by rw [ha.out, hb.out, hc0.out]; rfl, HG2.out⟩
  | false =>
    go_wp2_with (first | (with_reducible refine wsl (ty := 28) rfl ?_; unfold Stop; first | refine wlb row28 rfl (HB2.out) rfl rfl rfl ?_ | refine wlg row28 rfl (HB2.out) (Cd.whole k) rfl rfl rfl ?_))
    refine (HF2.out _ (TsA.lasts _ _ _ _ HT.out HG2.out)).mono ?_
    rintro e_ w3 ⟨rfl, hb3⟩
    have HG3 := Lib.hid (HG2.out.tr hb3)
    cases b2 with
    | true =>
      go_wp2_with fail
      exact bodyPost_ret (v := .tuple #[.int .i64 2, .int .i64 x2, .int .i64 y2, .int .i64 11]) (by simp [results, Tryz.results28, go_sem]) rfl ⟨by rw [ha.out, hb.out, hc0.out]; rfl, HG3.out⟩
    | false =>
      go_wp2_with fail
      exact bodyPost_ret (v := .tuple #[.int .i64 3, .int .i64 0, .int .i64 0, .int .i64 11]) (by simp [results, Tryz.results28, go_sem]) rfl ⟨by rw [ha.out, hb.out, hc0.out]; rfl, HG3.out⟩
theorem rwhy28_any (k : Cd) (w : World) (hT : TsA k.p.l (.slice k.sp k.p.l.length k.cap) w) {a b c e : Int} (h : k.whyA = (a, b, c, e)) :
    Calls Tryz.prog 28 #[.agg k.cs.toArray] w fun e' w' => e' = .returned (.tuple #[.int .i64 a, .int .i64 b, .int .i64 c, .int .i64 e]) ∧ Below w.heap.size w w' := by
  unfold Cd.whyA at h
  by_cases c0 : k.err [] = 0
  · rw [if_pos c0] at h
    obtain ⟨h1, h2, -, h4⟩ := Cd.err_zero c0
    cases ht : k.trim with
    | some u =>
      rw [ht] at h
      cases h
      exact rwhy28_short k w hT u 0 (Lib.hid (by unfold Cd.trimA; rw [if_pos c0, ht])) rfl
    | none =>
      rw [ht] at h
      have hA : k.trimA = (⟨0, 0, 0, 0⟩, 11) := by unfold Cd.trimA; rw [if_pos c0, ht]
      have key : ∀ m, ∃ x y b, (b = true ∧ k.p.apart m = some (x, y)) ∨ (b = false ∧ x = 0 ∧ y = 0 ∧ k.p.apart m = none) := fun m => by
        cases hm : k.p.apart m with
        | none => exact ⟨0, 0, false, .inr ⟨rfl, rfl, rfl, rfl⟩⟩
        | some p => exact ⟨p.1, p.2, true, .inl ⟨rfl, rfl⟩⟩
      obtain ⟨x1, y1, b1, g1⟩ := key (k.elo + k.prism + k.squeeze - k.ehi)
      obtain ⟨x2, y2, b2, g2⟩ := key (k.front + k.deep)
      have ho : k.obst = (if b1 = true then 1 else if b2 = true then 2 else 3, if b1 = true then x1 else if b2 = true then x2 else 0, if b1 = true then y1 else if b2 = true then y2 else 0) := by
        unfold Cd.obst
        rcases g1 with ⟨rfl, e1⟩ | ⟨rfl, rfl, rfl, e1⟩
        · rw [e1]; rfl
        · rw [e1]
          rcases g2 with ⟨rfl, e2⟩ | ⟨rfl, rfl, rfl, e2⟩
          · dsimp only; rw [e2]; rfl
          · dsimp only; rw [e2]; rfl
      rw [ho] at h
      cases h
      exact rwhy28_long k w hT _ _ (Lib.hid hA) rfl h1 h2 h4 x1 y1 x2 y2 b1 b2 (Lib.hid g1) (Lib.hid g2) _ _ _ (Lib.hid rfl) (Lib.hid rfl) (Lib.hid rfl)
  · rw [if_neg c0] at h
    cases h
    exact rwhy28_short k w hT ⟨0, 0, 0, 0⟩ (k.err []) (Lib.hid (by unfold Cd.trimA; rw [if_neg c0])) (by
      have : k.err [] = 1 ∨ k.err [] = 4 ∨ k.err [] = 0 := by unfold Cd.err; (repeat' split) <;> simp_all
      rcases this with g | g | g
      · rw [g]; rfl
      · rw [g]; rfl
      · exact absurd g c0)
theorem eq30h (a b c d a' b' c' d' : Int) (w : World) : (binOp .eql 30 (.agg #[.int .i64 a, .int .i64 b, .int .i64 c, .int .i64 d]) (.agg #[.int .i64 a', .int .i64 b', .int .i64 c', .int .i64 d'])).run Tryz.prog w = .ok (.bool (a == a' && (b == b' && (c == c' && d == d')))) w := by
  have hS : Tryz.prog.underlying 30 = some (.struct (Tryz.prog.fieldsOf 30)) := by kernel_rfl
  rw [run_eql_struct, run_equalIn_agg _ _ _ _ _ hS (by kernel_rfl)]
  simp only [Program.fieldsOf, Tryz.underlying30]
  simp [Op.eqFields, go_sem]
  by_cases h1 : a = a' <;> by_cases h2 : b = b' <;> by_cases h3 : c = c' <;> by_cases h4 : d = d' <;> simp [h1, h2, h3, h4]
theorem eqg30h (x y : Operand) (xs ys : Array Value) (w : World) : (eqGuard .eql 30 x y (.agg xs) (.agg ys)).run Tryz.prog w = .ok () w := run_eqGuard_agg w _ _ _ _ _ _ (by kernel_rfl)
theorem mtrims_many (k : Cd) (w : World) (hl : 40 < k.p.l.length) :
    Calls Tryz.prog 4 #[.agg k.cs.toArray] w fun e w' => e = .returned (.bool true) ∧ Below w.heap.size w w' := by
  have d : decide (40 < (k.p.l.length : Int)) = true := by simp; omega
  have d' : decide (40 < k.p.l.length) = true := by simp; omega
  clear hl
  have p7 : ∀ h : 7 < k.cs.length, k.cs[7] = .slice k.sp k.p.l.length k.cap := fun _ => rfl
  have p10 : ∀ h : 10 < k.cs.length, k.cs[10] = .int .i64 k.cuts := fun _ => rfl
  have hl : k.cs.length = 17 := rfl
  go_enter Tryz.func4, Tryz.ntmps4
  go_wp2_with fail
  refine (awake_any _).mono ?_
  rintro e wz ⟨rfl, hbz⟩
  go_wp2
  exact bodyPost_ret (v := .bool true) (by simp [results, Tryz.results4, go_sem]) rfl ⟨rfl, Gr.tr (Gr.alloc _ _) hbz⟩
theorem mtrims_cuts (k : Cd) (w : World) (hl : k.p.l.length ≤ 40) (hT : TsA k.p.l (.slice k.sp k.p.l.length k.cap) w) (hc : Hid ((k.okc && k.p.ok) = true)) (hn : 12 < k.cuts) :
    Calls Tryz.prog 4 #[.agg k.cs.toArray] w fun e w' => e = .returned (.bool true) ∧ Below w.heap.size w w' := by
  have d : decide (40 < (k.p.l.length : Int)) = false := by simp; omega
  have d' : decide (40 < k.p.l.length) = false := by simp; omega
  have y1 : decide (12 < k.cuts) = true := by simpa using hn
  have HT := Lib.hid hT
  clear hl hT
  have p7 : ∀ h : 7 < k.cs.length, k.cs[7] = .slice k.sp k.p.l.length k.cap := fun _ => rfl
  have p10 : ∀ h : 10 < k.cs.length, k.cs[10] = .int .i64 k.cuts := fun _ => rfl
  have hl : k.cs.length = 17 := rfl
  have HB := Lib.hid (Box.fresh w k.cs 28)
  go_enter Tryz.func4, Tryz.ntmps4
  go_wp2_with (first | (with_reducible refine wsl (ty := 28) rfl ?_; unfold Stop; first | refine wlb row28 rfl (HB.out) rfl rfl rfl ?_ | refine wlg row28 rfl (HB.out) (Cd.whole k) rfl rfl rfl ?_))
  refine (card_is (b := true) hc.out (TsA.lasts _ _ _ _ HT.out (Gr.alloc _ _))).mono ?_
  rintro e w1 ⟨rfl, hb1⟩
  have HG1 := Lib.hid ((Gr.alloc w (Obj.cells k.cs.toArray 28)).tr hb1)
  go_wp2_with fail
  refine (awake_any _).mono ?_
  rintro e wz ⟨rfl, hbz⟩
  go_wp2
  exact bodyPost_ret (v := .bool true) (by simp [results, Tryz.results4, go_sem]) rfl ⟨rfl, Gr.tr HG1.out hbz⟩
theorem mtrims_few (k : Cd) (w : World) (hl : k.p.l.length ≤ 40) (hT : TsA k.p.l (.slice k.sp k.p.l.length k.cap) w) (hn : ¬ 12 < k.cuts) :
    Calls Tryz.prog 4 #[.agg k.cs.toArray] w fun e w' => e = .returned (.bool true) ∧ Below w.heap.size w w' := by
  have d : decide (40 < (k.p.l.length : Int)) = false := by simp; omega
  have d' : decide (40 < k.p.l.length) = false := by simp; omega
  have y1 : decide (12 < k.cuts) = false := by simpa using hn
  have HT := Lib.hid hT
  obtain ⟨t, e, A1⟩ : ∃ t e, k.trimA = (t, e) := ⟨_, _, rfl⟩
  obtain ⟨x, a, b, e2, A2⟩ : ∃ x a b e, k.whyA = (x, a, b, e) := ⟨_, _, _, _, rfl⟩
  have A1 := Lib.hid A1
  have A2 := Lib.hid A2
  have heq := @eq30h
  have heg := @eqg30h
  clear hl hT
  have p7 : ∀ h : 7 < k.cs.length, k.cs[7] = .slice k.sp k.p.l.length k.cap := fun _ => rfl
  have p10 : ∀ h : 10 < k.cs.length, k.cs[10] = .int .i64 k.cuts := fun _ => rfl
  have hl : k.cs.length = 17 := rfl
  have HB0 := Lib.hid (Box.fresh w k.cs 28)
  have HG0 := Lib.hid (Gr.alloc w (Obj.cells k.cs.toArray 28))
  go_enter Tryz.func4, Tryz.ntmps4
  go_wp2_with (first | (with_reducible refine wsl (ty := 28) rfl ?_; unfold Stop; first | refine wlb row28 rfl (HB0.out) rfl rfl rfl ?_ | refine wlg row28 rfl (HB0.out) (Cd.whole k) rfl rfl rfl ?_))
  refine (mtrim_is A1.out (TsA.lasts _ _ _ _ HT.out HG0.out)).mono ?_
  rintro e_ w1 ⟨rfl, hb⟩
  have hga := Gr.tr hb (Gr.alloc w1 (Obj.cells #[.int .i64 t.a, .int .i64 t.b, .int .i64 t.c, .int .i64 t.d] 30))
  have HG1 := Lib.hid (HG0.out.tr hga)
  have HB1 := Lib.hid (HB0.out.grow hga)
  have HSb0_1 := Lib.hid (Box.fresh w1 [.int .i64 t.a, .int .i64 t.b, .int .i64 t.c, .int .i64 t.d] 30)
  clear hb hga HB0 HG0
  go_wp2_with (first | (with_reducible refine wsl (ty := 28) rfl ?_; unfold Stop; first | refine wlb row28 rfl (HB1.out) rfl rfl rfl ?_ | refine wlg row28 rfl (HB1.out) (Cd.whole k) rfl rfl rfl ?_))
  refine (rtrim26_any _ _ (TsA.lasts _ _ _ _ HT.out HG1.out) A1.out).mono ?_
  rintro e_ w2 ⟨rfl, hb⟩
  have hga := Gr.tr hb (Gr.alloc w2 (Obj.cells #[.int .i64 t.a, .int .i64 t.b, .int .i64 t.c, .int .i64 t.d] 30))
  have HG2 := Lib.hid (HG1.out.tr hga)
  have HB2 := Lib.hid (HB1.out.grow hga)
  have HSb0_2 := Lib.hid (HSb0_1.out.grow hga)
  have HSb1_2 := Lib.hid (Box.fresh w2 [.int .i64 t.a, .int .i64 t.b, .int .i64 t.c, .int .i64 t.d] 30)
  clear hb hga HB1 HG1 HSb0_1
  go_wp2_with (first | (with_reducible refine wsl (ty := 28) rfl ?_; unfold Stop; first | refine wlb row28 rfl (HB2.out) rfl rfl rfl ?_ | refine wlg row28 rfl (HB2.out) (Cd.whole k) rfl rfl rfl ?_))
  refine (mwhy_is A2.out (TsA.lasts _ _ _ _ HT.out HG2.out)).mono ?_
  rintro e_ w3 ⟨rfl, hb⟩
  have hga : Gr _ w3 := hb
  have HG3 := Lib.hid (HG2.out.tr hga)
  have HB3 := Lib.hid (HB2.out.grow hga)
  have HSb0_3 := Lib.hid (HSb0_2.out.grow hga)
  have HSb1_3 := Lib.hid (HSb1_2.out.grow hga)
  clear hb hga HB2 HG2 HSb0_2 HSb1_2
  go_wp2_with (first | (with_reducible refine wsl (ty := 28) rfl ?_; unfold Stop; first | refine wlb row28 rfl (HB3.out) rfl rfl rfl ?_ | refine wlg row28 rfl (HB3.out) (Cd.whole k) rfl rfl rfl ?_))
  refine (rwhy28_any _ _ (TsA.lasts _ _ _ _ HT.out HG3.out) A2.out).mono ?_
  rintro e_ w4 ⟨rfl, hb⟩
  have hga : Gr _ w4 := hb
  have HG4 := Lib.hid (HG3.out.tr hga)
  have HB4 := Lib.hid (HB3.out.grow hga)
  have HSb0_4 := Lib.hid (HSb0_3.out.grow hga)
  have HSb1_4 := Lib.hid (HSb1_3.out.grow hga)
  clear hb hga HB3 HG3 HSb0_3 HSb1_3
  go_upto_region 7 with fail
  have zb0_0 := HSb0_4.out.cell (i := 0) rfl
  have zb0_1 := HSb0_4.out.cell (i := 1) rfl
  have zb0_2 := HSb0_4.out.cell (i := 2) rfl
  have zb0_3 := HSb0_4.out.cell (i := 3) rfl
  have zb1_0 := HSb1_4.out.cell (i := 0) rfl
  have zb1_1 := HSb1_4.out.cell (i := 1) rfl
  have zb1_2 := HSb1_4.out.cell (i := 2) rfl
  have zb1_3 := HSb1_4.out.cell (i := 3) rfl
  have zb0_l := HSb0_4.out.lt
  have zb1_l := HSb1_4.out.lt
  clear A1 A2 HT HB4
  go_wp2_with fail
  refine (awake_any _).mono ?_
  rintro e_ wz ⟨rfl, hbz⟩
  go_wp2
  exact bodyPost_ret (v := .bool true) (by simp [results, Tryz.results4, go_sem]) rfl ⟨rfl, Gr.tr HG4.out hbz⟩
theorem mtrims_odd (k : Cd) (w : World) (hl : k.p.l.length ≤ 40) (hT : TsA k.p.l (.slice k.sp k.p.l.length k.cap) w) (hc : Hid ((k.okc && k.p.ok) = false)) (hn : 12 < k.cuts) :
    Calls Tryz.prog 4 #[.agg k.cs.toArray] w fun e w' => e = .returned (.bool true) ∧ Below w.heap.size w w' := by
  have d : decide (40 < (k.p.l.length : Int)) = false := by simp; omega
  have d' : decide (40 < k.p.l.length) = false := by simp; omega
  have y1 : decide (12 < k.cuts) = true := by simpa using hn
  have HT := Lib.hid hT
  obtain ⟨t, e, A1⟩ : ∃ t e, k.trimA = (t, e) := ⟨_, _, rfl⟩
  obtain ⟨x, a, b, e2, A2⟩ : ∃ x a b e, k.whyA = (x, a, b, e) := ⟨_, _, _, _, rfl⟩
  have A1 := Lib.hid A1
  have A2 := Lib.hid A2
  have heq := @eq30h
  have heg := @eqg30h
  clear hl hT
  have p7 : ∀ h : 7 < k.cs.length, k.cs[7] = .slice k.sp k.p.l.length k.cap := fun _ => rfl
  have p10 : ∀ h : 10 < k.cs.length, k.cs[10] = .int .i64 k.cuts := fun _ => rfl
  have hl : k.cs.length = 17 := rfl
  have HB := Lib.hid (Box.fresh w k.cs 28)
  go_enter Tryz.func4, Tryz.ntmps4
  go_wp2_with (first | (with_reducible refine wsl (ty := 28) rfl ?_; unfold Stop; first | refine wlb row28 rfl (HB.out) rfl rfl rfl ?_ | refine wlg row28 rfl (HB.out) (Cd.whole k) rfl rfl rfl ?_))
  refine (card_is (b := false) hc.out (TsA.lasts _ _ _ _ HT.out (Gr.alloc _ _))).mono ?_
  rintro e_ w1 ⟨rfl, hb1⟩
  have HG1 := Lib.hid ((Gr.alloc w (Obj.cells k.cs.toArray 28)).tr hb1)
  have HB1 := Lib.hid (HB.out.grow hb1)
  clear hb1
  go_wp2_with (first | (with_reducible refine wsl (ty := 28) rfl ?_; unfold Stop; first | refine wlb row28 rfl (HB1.out) rfl rfl rfl ?_ | refine wlg row28 rfl (HB1.out) (Cd.whole k) rfl rfl rfl ?_))
  refine (mtrim_is A1.out (TsA.lasts _ _ _ _ HT.out HG1.out)).mono ?_
  rintro e_ w2 ⟨rfl, hb⟩
  have hga := Gr.tr hb (Gr.alloc w2 (Obj.cells #[.int .i64 t.a, .int .i64 t.b, .int .i64 t.c, .int .i64 t.d] 30))
  have HG2 := Lib.hid (HG1.out.tr hga)
  have HB2 := Lib.hid (HB1.out.grow hga)
  have HSb0_2 := Lib.hid (Box.fresh w2 [.int .i64 t.a, .int .i64 t.b, .int .i64 t.c, .int .i64 t.d] 30)
  clear hb hga HB1 HG1
  go_wp2_with (first | (with_reducible refine wsl (ty := 28) rfl ?_; unfold Stop; first | refine wlb row28 rfl (HB2.out) rfl rfl rfl ?_ | refine wlg row28 rfl (HB2.out) (Cd.whole k) rfl rfl rfl ?_))
  refine (rtrim26_any _ _ (TsA.lasts _ _ _ _ HT.out HG2.out) A1.out).mono ?_
  rintro e_ w3 ⟨rfl, hb⟩
  have hga := Gr.tr hb (Gr.alloc w3 (Obj.cells #[.int .i64 t.a, .int .i64 t.b, .int .i64 t.c, .int .i64 t.d] 30))
  have HG3 := Lib.hid (HG2.out.tr hga)
  have HB3 := Lib.hid (HB2.out.grow hga)
  have HSb0_3 := Lib.hid (HSb0_2.out.grow hga)
  have HSb1_3 := Lib.hid (Box.fresh w3 [.int .i64 t.a, .int .i64 t.b, .int .i64 t.c, .int .i64 t.d] 30)
  clear hb hga HB2 HG2 HSb0_2
  go_wp2_with (first | (with_reducible refine wsl (ty := 28) rfl ?_; unfold Stop; first | refine wlb row28 rfl (HB3.out) rfl rfl rfl ?_ | refine wlg row28 rfl (HB3.out) (Cd.whole k) rfl rfl rfl ?_))
  refine (mwhy_is A2.out (TsA.lasts _ _ _ _ HT.out HG3.out)).mono ?_
  rintro e_ w4 ⟨rfl, hb⟩
  have hga : Gr _ w4 := hb
  have HG4 := Lib.hid (HG3.out.tr hga)
  have HB4 := Lib.hid (HB3.out.grow hga)
  have HSb0_4 := Lib.hid (HSb0_3.out.grow hga)
  have HSb1_4 := Lib.hid (HSb1_3.out.grow hga)
  clear hb hga HB3 HG3 HSb0_3 HSb1_3
  go_wp2_with (first | (with_reducible refine wsl (ty := 28) rfl ?_; unfold Stop; first | refine wlb row28 rfl (HB4.out) rfl rfl rfl ?_ | refine wlg row28 rfl (HB4.out) (Cd.whole k) rfl rfl rfl ?_))
  refine (rwhy28_any _ _ (TsA.lasts _ _ _ _ HT.out HG4.out) A2.out).mono ?_
  rintro e_ w5 ⟨rfl, hb⟩
  have hga : Gr _ w5 := hb
  have HG5 := Lib.hid (HG4.out.tr hga)
  have HB5 := Lib.hid (HB4.out.grow hga)
  have HSb0_5 := Lib.hid (HSb0_4.out.grow hga)
  have HSb1_5 := Lib.hid (HSb1_4.out.grow hga)
  clear hb hga HB4 HG4 HSb0_4 HSb1_4
  go_upto_region 7 with fail
  have zb0_0 := HSb0_5.out.cell (i := 0) rfl
  have zb0_1 := HSb0_5.out.cell (i := 1) rfl
  have zb0_2 := HSb0_5.out.cell (i := 2) rfl
  have zb0_3 := HSb0_5.out.cell (i := 3) rfl
  have zb1_0 := HSb1_5.out.cell (i := 0) rfl
  have zb1_1 := HSb1_5.out.cell (i := 1) rfl
  have zb1_2 := HSb1_5.out.cell (i := 2) rfl
  have zb1_3 := HSb1_5.out.cell (i := 3) rfl
  have zb0_l := HSb0_5.out.lt
  have zb1_l := HSb1_5.out.lt
  clear A1 A2 HT HB5
  go_wp2_with fail
  refine (awake_any _).mono ?_
  rintro e_ wz ⟨rfl, hbz⟩
  go_wp2
  exact bodyPost_ret (v := .bool true) (by simp [results, Tryz.results4, go_sem]) rfl ⟨rfl, Gr.tr HG5.out hbz⟩
end Go.Proofs.YtcngaohfemdfjaaGreat
