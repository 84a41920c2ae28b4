import Derived.Test.YtcngaohfemdfjaaGreatE34
import Derived.Test.YtcngaohfemdfjaaGreatE33
import Derived.Test.YtcngaohfemdfjaaGreatJ1
import Derived.Test.YtcngaohfemdfjaaGreatJ0
import Derived.RegionTactic
import Derived.Deep.CutBlock
import Derived.Deep.DeepCutAuto
set_option linter.unusedVariables false
set_option linter.unusedSimpArgs false
set_option maxRecDepth 100000
set_option maxHeartbeats 60000000
namespace Go.Proofs.YtcngaohfemdfjaaGreat
open Go.RowKit
theorem rtrim26_err (k : Cd) (w : World) (hT : TsA k.p.l (.slice k.sp k.p.l.length k.cap) w) (r : Int) (hr0 : (r != 0) = true) (he : Hid (k.errb true = r)) :
    Calls Tryz.prog 26 #[.agg k.cs.toArray] w fun e w' => e = .returned (.tuple #[.agg #[.int .i64 0, .int .i64 0, .int .i64 0, .int .i64 0], .int .i64 r]) ∧ Below w.heap.size w w' := by
  have HT := Lib.hid hT
  have HC : Hid (∀ W, TsA k.p.l (.slice k.sp k.p.l.length k.cap) W → Calls Tryz.prog 50 #[.agg k.cs.toArray, .bool true] W fun e w' => e = .returned (.int .i64 r) ∧ Below W.heap.size W w') := Lib.hid fun W h => by
    have := rcheck_any k true W h
    rwa [he.out] at this
  have HG0 := Lib.hid (show Gr w ((w.alloc (Obj.cells k.cs.toArray 28)).alloc (Obj.cells #[.int .i64 0, .int .i64 0, .int .i64 0, .int .i64 0] 30)) from (Gr.alloc _ _).tr (Gr.alloc _ _))
  have HB0 := Lib.hid (show Box ((w.alloc (Obj.cells k.cs.toArray 28)).alloc (Obj.cells #[.int .i64 0, .int .i64 0, .int .i64 0, .int .i64 0] 30)) w.heap.size k.cs 28 from (Box.fresh w k.cs 28).grow (Gr.alloc _ _))
  have HZ0 := Lib.hid (show Box ((w.alloc (Obj.cells k.cs.toArray 28)).alloc (Obj.cells #[.int .i64 0, .int .i64 0, .int .i64 0, .int .i64 0] 30)) (w.heap.size + 1) [.int .i64 0, .int .i64 0, .int .i64 0, .int .i64 0] 30 by simpa using Box.fresh (w.alloc (Obj.cells k.cs.toArray 28)) [.int .i64 0, .int .i64 0, .int .i64 0, .int .i64 0] 30)
  clear hT
  have p7 : ∀ h : 7 < k.cs.length, k.cs[7] = .slice k.sp k.p.l.length k.cap := fun _ => rfl
  have p10 : ∀ h : 10 < k.cs.length, k.cs[10] = .int .i64 k.cuts := fun _ => rfl
  have hl : k.cs.length = 17 := rfl
  go_enter Tryz.func26, Tryz.ntmps26
  go_upto_region 1 with fail
  generalize hV0 : ((w.alloc (Obj.cells k.cs.toArray 28)).alloc (Obj.cells #[.int .i64 0, .int .i64 0, .int .i64 0, .int .i64 0] 30)) = V0 at *
  clear hV0
  go_wp2_with (first | (with_reducible refine wsl (ty := 28) rfl ?_; unfold Stop; first | refine wlb row28 rfl (HB0.out) rfl rfl rfl ?_ | refine wlg row28 rfl (HB0.out) (Cd.whole k) rfl rfl rfl ?_))
  refine (HC.out _ (TsA.lasts _ _ _ _ HT.out HG0.out)).mono ?_
  rintro e w1 ⟨rfl, hb1⟩
  have HG1 := Lib.hid (HG0.out.tr hb1)
  have HB1 := Lib.hid (HB0.out.grow hb1)
  have HZ1 := Lib.hid (HZ0.out.grow hb1)
  clear hb1
  have z0 := HZ1.out.cell (i := 0) rfl
  have z1 := HZ1.out.cell (i := 1) rfl
  have z2 := HZ1.out.cell (i := 2) rfl
  have z3 := HZ1.out.cell (i := 3) rfl
  have zf := HZ1.out.free
  have zl := HZ1.out.lt
  go_wp2_with fail
  exact bodyPost_ret (v := .tuple #[.agg #[.int .i64 0, .int .i64 0, .int .i64 0, .int .i64 0], .int .i64 r]) (by simp [results, Tryz.results26, go_sem, z0, z1, z2, z3, zl, zf]) rfl ⟨rfl, ((((show Below w.heap.size w _ from HG1.out).setCell (show w.heap.size ≤ w.heap.size + 1 by omega) _).setCell (show w.heap.size ≤ w.heap.size + 1 by omega) _).setCell (show w.heap.size ≤ w.heap.size + 1 by omega) _).setCell (show w.heap.size ≤ w.heap.size + 1 by omega) _⟩
theorem rtrim26_ok (k : Cd) (w : World) (hT : TsA k.p.l (.slice k.sp k.p.l.length k.cap) w) (hok : k.p.ok = true) (hk : k.okc = true) (hp : k.p.pw.1 ≤ k.p.pw.2) (t : Cu) (b : Bool) (htb : (b = true ∧ k.trim = some t) ∨ (b = false ∧ t = ⟨0, 0, 0, 0⟩ ∧ k.trim = none)) (he : Hid (k.errb true = 0)) (r : Int) (hr : Hid (r = if b = true then 0 else 11)) :
    Calls Tryz.prog 26 #[.agg k.cs.toArray] w fun e w' => e = .returned (.tuple #[.agg #[.int .i64 t.a, .int .i64 t.b, .int .i64 t.c, .int .i64 t.d], .int .i64 r]) ∧ Below w.heap.size w w' := by
  have HBE : Hid (∀ W, TsA k.p.l (.slice k.sp k.p.l.length k.cap) W → Calls Tryz.prog 69 #[.agg k.cs.toArray] W fun e w' => e = .returned (.tuple #[.agg #[.int .i64 t.a, .int .i64 t.b, .int .i64 t.c, .int .i64 t.d], .bool b]) ∧ Below W.heap.size W w') := Lib.hid fun W h => rbest_any k W h hok hk hp t b (Lib.hid htb)
  have HZT : Hid (b = false → t = ⟨0, 0, 0, 0⟩) := Lib.hid fun h => by
    rcases htb with ⟨g, -⟩ | ⟨-, g, -⟩
    · rw [h] at g; cases g
    · exact g
  clear htb
  have HT := Lib.hid hT
  have HC : Hid (∀ W, TsA k.p.l (.slice k.sp k.p.l.length k.cap) W → Calls Tryz.prog 50 #[.agg k.cs.toArray, .bool true] W fun e w' => e = .returned (.int .i64 0) ∧ Below W.heap.size W w') := Lib.hid fun W h => by
    have := rcheck_any k true W h
    rwa [he.out] at this
  have HG0 := Lib.hid (show Gr w ((w.alloc (Obj.cells k.cs.toArray 28)).alloc (Obj.cells #[.int .i64 0, .int .i64 0, .int .i64 0, .int .i64 0] 30)) from (Gr.alloc _ _).tr (Gr.alloc _ _))
  have HB0 := Lib.hid (show Box ((w.alloc (Obj.cells k.cs.toArray 28)).alloc (Obj.cells #[.int .i64 0, .int .i64 0, .int .i64 0, .int .i64 0] 30)) w.heap.size k.cs 28 from (Box.fresh w k.cs 28).grow (Gr.alloc _ _))
  have HZ0 := Lib.hid (show Box ((w.alloc (Obj.cells k.cs.toArray 28)).alloc (Obj.cells #[.int .i64 0, .int .i64 0, .int .i64 0, .int .i64 0] 30)) (w.heap.size + 1) [.int .i64 0, .int .i64 0, .int .i64 0, .int .i64 0] 30 by simpa using Box.fresh (w.alloc (Obj.cells k.cs.toArray 28)) [.int .i64 0, .int .i64 0, .int .i64 0, .int .i64 0] 30)
  clear hT
  have p7 : ∀ h : 7 < k.cs.length, k.cs[7] = .slice k.sp k.p.l.length k.cap := fun _ => rfl
  have p10 : ∀ h : 10 < k.cs.length, k.cs[10] = .int .i64 k.cuts := fun _ => rfl
  have hl : k.cs.length = 17 := rfl
  go_enter Tryz.func26, Tryz.ntmps26
  go_upto_region 1 with fail
  generalize hV0 : ((w.alloc (Obj.cells k.cs.toArray 28)).alloc (Obj.cells #[.int .i64 0, .int .i64 0, .int .i64 0, .int .i64 0] 30)) = V0 at *
  clear hV0
  go_wp2_with (first | (with_reducible refine wsl (ty := 28) rfl ?_; unfold Stop; first | refine wlb row28 rfl (HB0.out) rfl rfl rfl ?_ | refine wlg row28 rfl (HB0.out) (Cd.whole k) rfl rfl rfl ?_))
  refine (HC.out _ (TsA.lasts _ _ _ _ HT.out HG0.out)).mono ?_
  rintro e w1 ⟨rfl, hb1⟩
  have HG1 := Lib.hid (HG0.out.tr hb1)
  have HB1 := Lib.hid (HB0.out.grow hb1)
  have HZ1 := Lib.hid (HZ0.out.grow hb1)
  clear hb1
  go_wp2_with (first | (with_reducible refine wsl (ty := 28) rfl ?_; unfold Stop; first | refine wlb row28 rfl (HB1.out) rfl rfl rfl ?_ | refine wlg row28 rfl (HB1.out) (Cd.whole k) rfl rfl rfl ?_))
  refine (HBE.out _ (TsA.lasts _ _ _ _ HT.out HG1.out)).mono ?_
  rintro e w2 ⟨rfl, hb2⟩
  have hga := Gr.tr hb2 (Gr.alloc w2 (Obj.cells #[.int .i64 t.a, .int .i64 t.b, .int .i64 t.c, .int .i64 t.d] 30))
  have HG2 := Lib.hid (HG1.out.tr hga)
  have HZ2 := Lib.hid (HZ1.out.grow hga)
  have HS2 := Lib.hid (Box.fresh w2 [.int .i64 t.a, .int .i64 t.b, .int .i64 t.c, .int .i64 t.d] 30)
  clear hb2 hga
  go_upto_region 5 with fail
  generalize (w2.alloc (Obj.cells #[.int .i64 t.a, .int .i64 t.b, .int .i64 t.c, .int .i64 t.d] 30)) = V2 at *
  generalize w2.heap.size = bs at *
  have s0 := HS2.out.cell (i := 0) rfl
  have s1 := HS2.out.cell (i := 1) rfl
  have s2 := HS2.out.cell (i := 2) rfl
  have s3 := HS2.out.cell (i := 3) rfl
  have sl := HS2.out.lt
  have z0 := HZ2.out.cell (i := 0) rfl
  have z1 := HZ2.out.cell (i := 1) rfl
  have z2 := HZ2.out.cell (i := 2) rfl
  have z3 := HZ2.out.cell (i := 3) rfl
  have zf := HZ2.out.free
  have zl := HZ2.out.lt
  cases b with
  | true =>
    go_wp2_with fail
    exact bodyPost_ret (v := .tuple #[.agg #[.int .i64 t.a, .int .i64 t.b, .int .i64 t.c, .int .i64 t.d], .int .i64 0]) (by simp [results, Tryz.results26, go_sem, z0, z1, z2, z3, zl, zf]) rfl ⟨by rw [hr.out]; rfl, ((((show Below w.heap.size w _ from HG2.out).setCell (show w.heap.size ≤ w.heap.size + 1 by omega) _).setCell (show w.heap.size ≤ w.heap.size + 1 by omega) _).setCell (show w.heap.size ≤ w.heap.size + 1 by omega) _).setCell (show w.heap.size ≤ w.heap.size + 1 by omega) _⟩
  | false =>
    go_wp2_with fail
    exact bodyPost_ret (v := .tuple #[.agg #[.int .i64 0, .int .i64 0, .int .i64 0, .int .i64 0], .int .i64 11]) (by simp [results, Tryz.results26, go_sem, z0, z1, z2, z3, zl, zf]) rfl ⟨by rw [hr.out, HZT.out (by first | rfl | trivial)]; rfl, ((((show Below w.heap.size w _ from HG2.out).setCell (show w.heap.size ≤ w.heap.size + 1 by omega) _).setCell (show w.heap.size ≤ w.heap.size + 1 by omega) _).setCell (show w.heap.size ≤ w.heap.size + 1 by omega) _).setCell (show w.heap.size ≤ w.heap.size + 1 by omega) _⟩
theorem rtrim26_any (k : Cd) (w : World) (hT : TsA k.p.l (.slice k.sp k.p.l.length k.cap) w) {t : Cu} {e : Int} (h : k.trimA = (t, e)) :
    Calls Tryz.prog 26 #[.agg k.cs.toArray] w fun e' w' => e' = .returned (.tuple #[.agg #[.int .i64 t.a, .int .i64 t.b, .int .i64 t.c, .int .i64 t.d], .int .i64 e]) ∧ Below w.heap.size w w' := by
  unfold Cd.trimA at h
  by_cases c : k.err [] = 0
  · rw [if_pos c] at h
    obtain ⟨h1, h2, -, h4⟩ := Cd.err_zero c
    have hb : k.errb true = 0 := by rw [k.errb_true]; exact c
    cases ht : k.trim with
    | some u =>
      rw [ht] at h
      cases h
      exact rtrim26_ok k w hT h1 h2 h4 _ true (.inl ⟨rfl, ht⟩) (Lib.hid hb) _ (Lib.hid rfl)
    | none =>
      rw [ht] at h
      cases h
      exact rtrim26_ok k w hT h1 h2 h4 _ false (.inr ⟨rfl, rfl, ht⟩) (Lib.hid hb) _ (Lib.hid rfl)
  · rw [if_neg c] at h
    cases h
    exact rtrim26_err k w hT _ (by simpa using c) (Lib.hid k.errb_true)
theorem rfarther (k : Cd) (sp : Option Addr) (hspe : k.sp = sp) (most : Int) (w : World) (hT : TsA k.p.l (.slice sp k.p.l.length k.cap) w) (hok : k.p.ok = true) (hp : k.p.pw.1 ≤ k.p.pw.2) (hm : -100000 ≤ most ∧ most ≤ 100000) (x y : Int) (b : Bool) (hap : Hid ((b = true ∧ k.p.apart most = some (x, y)) ∨ (b = false ∧ x = 0 ∧ y = 0 ∧ k.p.apart most = none))) :
    Calls Tryz.prog 71 #[.agg k.cs.toArray, .int .i64 most] w fun e w' => e = .returned (.tuple #[.int .i64 x, .int .i64 y, .bool b]) ∧ Below w.heap.size w w' := by
  have hlen : k.p.l.length ≤ 12 := (k.p.bounds hok).len
  have hsl : k.p.sees.length ≤ 12 := Nat.le_trans (Pr.seesTo_len k.p _) hlen
  have HT := Lib.hid hT
  have HLN := Lib.hid hlen
  have HKY := Lib.hid (fun q (h : q ∈ k.p.sees) => Pr.seesTo_key h)
  have HS : Hid (∀ W, TsA k.p.l (.slice k.sp k.p.l.length k.cap) W → Calls Tryz.prog 51 #[.agg k.cs.toArray] W fun e w' => (∃ v, e = .returned v ∧ NumsAt (k.p.sees.map (·.1)) v w') ∧ Below W.heap.size W w') := Lib.hid fun W h => rseenThings_ok k _ rfl W h hok hp
  have HTE : Hid (TsA k.p.l (.slice k.sp k.p.l.length k.cap) w) := Lib.hid (by rw [hspe]; exact hT)
  have HOFX := Lib.hid (fun (t : Th) (ht : t ∈ k.p.l) (W : World) => rof_any t.a t.b t.c t.d t.e t.f t.g t.h t.z W ((k.p.bounds hok).things t ht).1.1 ((k.p.bounds hok).things t ht).1.2.1 ((k.p.bounds hok).things t ht).1.2.2.2.2.1 ((k.p.bounds hok).things t ht).1.2.2.2.2.2.1)
  have HPL := Lib.hid (fun (t : Th) (ht : t ∈ k.p.l) => ((k.p.bounds hok).things t ht).1)
  have hvw : ∀ q ∈ k.p.sees, ∀ i : Nat, k.p.view i = some q.2 → ∃ x, k.p.l[i]? = some x ∧ q.2.sa = x.a - x.f ∧ q.2.sb = x.b - x.e := fun q hq i hv => by
    cases hx : k.p.l[i]? with
    | none =>
      have : k.p.view i = none := by unfold Pr.view; rw [hx]
      rw [this] at hv; cases hv
    | some x =>
      rw [Pr.view_of' hx] at hv
      refine ⟨x, rfl, ?_⟩
      split at hv
      · rw [← Option.some.inj hv]; exact ⟨rfl, rfl⟩
      · cases hv
  have HVW := Lib.hid hvw
  have HAP := Lib.hid (show (b = true ∧ apartOf k.p.sees most k.p.sees = some (x, y)) ∨ (b = false ∧ x = 0 ∧ y = 0 ∧ apartOf k.p.sees most k.p.sees = none) from hap.out)
  have HB := Lib.hid (Box.fresh w k.cs 28)
  have HG0 := Lib.hid (Gr.alloc w (Obj.cells k.cs.toArray 28))
  have hf1 := fld23_1
  have hf0 := fld23_0
  obtain ⟨mo0, mo1⟩ := hm
  clear hT hvw hap
  have p7 : ∀ h : 7 < k.cs.length, k.cs[7] = .slice k.sp k.p.l.length k.cap := fun _ => rfl
  have p10 : ∀ h : 10 < k.cs.length, k.cs[10] = .int .i64 k.cuts := fun _ => rfl
  have hl : k.cs.length = 17 := rfl
  go_enter Tryz.func71, Tryz.ntmps71
  go_wp2_with (first | (with_reducible refine wsl (ty := 28) rfl ?_; unfold Stop; first | refine wlb row28 rfl (HB.out) rfl rfl rfl ?_ | refine wlg row28 rfl (HB.out) (Cd.whole k) rfl rfl rfl ?_))
  refine (HS.out _ (TsA.lasts _ _ _ _ HTE.out HG0.out)).mono ?_
  rintro e w2 ⟨⟨v, rfl, hN⟩, hb2⟩
  have HG2 := Lib.hid (HG0.out.tr hb2)
  have HB2 := Lib.hid (HB.out.grow hb2)
  obtain ⟨np, nc, rfl, -, hcell⟩ := hN.cells
  have HCE := Lib.hid hcell
  have HTT2 := Lib.hid (TsA.lasts _ _ _ _ HT.out HG2.out)
  clear hcell hN hb2 HTE
  rw [List.length_map]
  generalize hes : k.p.sees = es at *
  obtain ⟨L, hL⟩ : ∃ L, es.length = L := ⟨_, rfl⟩
  rw [hL] at hsl ⊢
  go_wp2_with fail
  go_loopw [8] (fun i wr => ∃ j : Nat, j ≤ L ∧ i = .int .i64 j ∧ Gr w2 wr ∧ ∀ q ∈ es.take j, apartIn es most q.2 = none) (fun i _ => L - (intOf i).toNat)
  case atStart => exact ⟨0, Nat.zero_le _, rfl, Gr.same _, fun q h => by simp at h⟩
  case round =>
    obtain ⟨j, hj, rfl, hg, hz0⟩ := hrel
    have HG := Lib.hid hg
    have HZ := Lib.hid hz0
    clear hg hz0
    by_cases hlt : j < L
    · have hltd : decide ((j : Int) < (L : Int)) = true := by simpa using hlt
      obtain ⟨q, hq⟩ : ∃ q, es[j]? = some q := ⟨es[j]'(by omega), List.getElem?_eq_getElem _⟩
      have hqm := List.mem_of_getElem? hq
      obtain ⟨m, hm1, hm2, hm3⟩ := HKY.out q hqm
      obtain ⟨t, ht, hqa', hqb'⟩ := HVW.out q hqm m hm3
      have hst : es.take (j + 1) = es.take j ++ [q] := by rw [List.take_add_one, hq]; rfl
      have HST := Lib.hid hst
      have hsp1 : apartOf es most es = match apartIn es most q.2 with | some b => some (q.1, b) | none => apartOf es most (es.drop (j + 1)) := by
        have e1 : es = es.take j ++ (q :: es.drop (j + 1)) := by
          have e2 : es = es.take (j + 1) ++ es.drop (j + 1) := (List.take_append_drop _ _).symm
          rw [hst, List.append_assoc] at e2
          exact e2
        have e3 : apartOf es most es = apartOf es most (es.take j ++ (q :: es.drop (j + 1))) := congrArg _ e1
        rw [e3, apartOf_skip HZ.out]
        rfl
      have HSP := Lib.hid hsp1
      have HQQ := Lib.hid hq
      clear hst hsp1
      go_wp2_with fail
      go_loopw [9] (fun i wr => ∃ l : Nat, l ≤ L ∧ i = .int .i64 l ∧ Gr w2 wr ∧ ∀ r ∈ es.take l, q.2.sb - r.2.sa ≤ most) (fun i _ => L - (intOf i).toNat)
      case atStart => exact ⟨0, Nat.zero_le _, rfl, HG.out, fun q h => by simp at h⟩
      case round =>
        obtain ⟨l, hll, rfl, hg, hz0⟩ := hrel
        have HG5 := Lib.hid hg
        have HZ5 := Lib.hid hz0
        clear hg hz0
        by_cases hlt2 : l < L
        · have hltd2 : decide ((l : Int) < (L : Int)) = true := by simpa using hlt2
          obtain ⟨r, hr⟩ : ∃ q, es[l]? = some q := ⟨es[l]'(by omega), List.getElem?_eq_getElem _⟩
          have hrm := List.mem_of_getElem? hr
          obtain ⟨n, hn1, hn2, hn3⟩ := HKY.out r hrm
          obtain ⟨s, hs, hra', hrb'⟩ := HVW.out r hrm n hn3
          obtain ⟨b1, o1, rfl, hb1, hcw1⟩ := HCE.out j q.1 (by rw [List.getElem?_map, hq]; rfl)
          obtain ⟨b2', o2', hbe, hb2', hcw2⟩ := HCE.out l r.1 (by rw [List.getElem?_map, hr]; rfl)
          obtain ⟨rfl, rfl⟩ : b1 = b2' ∧ o1 = o2' := by simpa using hbe
          rw [hm2] at hcw1
          rw [hn2] at hcw2
          obtain ⟨wr, hwr⟩ : ∃ W : World, W = wr := ⟨_, rfl⟩
          subst hwr
          have hca := ((bcell HG5.out).1 _ _ hb1).trans hcw1
          have hcb := ((bcell HG5.out).1 _ _ hb1).trans hcw2
          have hbw : b1 < wr.heap.size := (bcell HG5.out).2.2 _ hb1
          obtain ⟨-, h3 | ⟨tb, tof, cp, hsp, hbl, hcs⟩⟩ := TsA.lasts _ _ _ _ HTT2.out HG5.out
          · have := h3.1; rw [this] at ht; cases ht
          have hsp1 : sp = some ⟨tb, tof, none⟩ := by simp at hsp; exact hsp.1
          subst hsp1
          have X := CsF.nine (hcs m t ht)
          have Y := CsF.nine (hcs n s hs)
          have HO1 := Lib.hid (HOFX.out t (List.mem_of_getElem? ht))
          have HO2 := Lib.hid (HOFX.out s (List.mem_of_getElem? hs))
          obtain ⟨⟨ba, ba'⟩, ⟨bb, bb'⟩, -, -, ⟨be, be'⟩, ⟨bf, bf'⟩, -, -⟩ := HPL.out t (List.mem_of_getElem? ht)
          obtain ⟨⟨ca, ca'⟩, ⟨cb, cb'⟩, -, -, ⟨ce, ce'⟩, ⟨cf, cf'⟩, -, -⟩ := HPL.out s (List.mem_of_getElem? hs)
          have hst2 : es.take (l + 1) = es.take l ++ [r] := by rw [List.take_add_one, hr]; rfl
          have HST2 := Lib.hid hst2
          have HDIF := Lib.hid (show q.2.sb - r.2.sa = (t.b - t.e) - (s.a - s.f) by rw [hqb', hra'])
          have HRK := Lib.hid (show r.1 = (n : Int) from hn2)
          have HQK := Lib.hid (show q.1 = (m : Int) from hm2)
          have hesl : es = es.take l ++ [r] ++ es.drop (l + 1) := by
            have e2 : es = es.take (l + 1) ++ es.drop (l + 1) := (List.take_append_drop _ _).symm
            rw [hst2] at e2
            exact e2
          have HESL := Lib.hid hesl
          obtain ⟨ta, tbb, tc, td, te, tf, tg, th, tz⟩ := t
          obtain ⟨sa, sb, sc, sd, se, sf, sg, sh, sz⟩ := s
          simp only at X Y HO1 HO2 HDIF ba ba' bb bb' be be' bf bf' ca ca' cb cb' ce ce' cf cf'
          have hml : m < k.p.l.length := hm1
          have hnl : n < k.p.l.length := hn1
          have h12 := HLN.out
          have c7 := (HB2.out.grow HG5.out).cell (i := 7) rfl
          have cl := (HB2.out.grow HG5.out).lt
          clear hcw1 hcw2 hbe hst2 hm2 hn2 hm3 hn3 hr hrm ht hs hsp hcs hesl hqa' hqb' hra' hrb'
          go_upto_region 8 with fail
          refine region2 24 ?_ ?_ ?_
          · kernel_rfl
          · kernel_rfl
          simp only [List.take_succ_cons, List.take_zero, List.drop_succ_cons, List.drop_zero]
          apply ceq (D := [(2, none)]) rfl (by kernel_rfl)
          · intro ρ W ⟨p1,p2,p3⟩ hG hF K hK; (try simp [FD] at hF); have ⟨hc, hf, hz⟩ := bdr hG; go_simp; exact hK _ gv
          apply ceq (D := [(24, some 0)]) rfl (by kernel_rfl)
          · intro ρ W ⟨p1,p2,p3⟩ hG hF K hK; (try simp [FD] at hF); have ⟨hc, hf, hz⟩ := bdr hG; go_simp; exact hK _ gv
          apply ceq (D := [(25, some 0)]) rfl (by kernel_rfl)
          · intro ρ W ⟨p1,p2,p3⟩ hG hF K hK; (try simp [FD] at hF); have ⟨hc, hf, hz⟩ := bdr hG; go_simp; exact hK _ gv
          apply ceq (D := [(7, none)]) rfl (by kernel_rfl)
          · intro ρ W ⟨p1,p2,p3⟩ hG hF K hK; (try simp [FD] at hF); have ⟨hc, hf, hz⟩ := bdr hG; go_simp; exact hK _ gv
          apply ceq (D := [(8, none)]) rfl (by kernel_rfl)
          · intro ρ W ⟨p1,p2,p3⟩ hG hF K hK; (try simp [FD] at hF); have ⟨hc, hf, hz⟩ := bdr hG; go_simp; exact hK _ gv
          apply ceq (D := [(27, some 1), (28, some 0)]) rfl (by kernel_rfl)
          · intro ρ W ⟨p1,p2,p3⟩ hG hF K hK; (try simp [FD] at hF); have ⟨hc, hf, hz⟩ := bdr hG; go_simp; exact hK _ gv
          apply ceq (D := [(29, some 0)]) rfl (by kernel_rfl)
          · intro ρ W ⟨p1,p2,p3⟩ hG hF K hK; (try simp [FD] at hF); have ⟨hc, hf, hz⟩ := bdr hG; go_simp; exact hK _ gv
          apply ceq (D := [(26, some 4), (30, some 0)]) rfl (by kernel_rfl)
          · intro ρ W ⟨p1,p2,p3⟩ hG hF K hK; (try simp [FD] at hF); have ⟨hc, hf, hz⟩ := bdr hG; go_simp; exact hK _ gv
          apply ceq (D := [(31, some 0)]) rfl (by kernel_rfl)
          · intro ρ W ⟨p1,p2,p3⟩ hG hF K hK; (try simp [FD] at hF); have ⟨hc, hf, hz⟩ := bdr hG; go_simp; exact hK _ gv
          apply ceq (D := [(32, some 0)]) rfl (by kernel_rfl)
          · intro ρ W ⟨p1,p2,p3⟩ hG hF K hK; (try simp [FD] at hF); have ⟨hc, hf, hz⟩ := bdr hG; go_simp; exact hK _ (gc (HO1.out _))
          apply ceq (D := [(33, some 0)]) rfl (by kernel_rfl)
          · intro ρ W ⟨p1,p2,p3⟩ hG hF K hK; (try simp [FD] at hF); have ⟨hc, hf, hz⟩ := bdr hG; have hq := fld23_1; go_simp; exact hK _ gv
          apply ceq (D := [(2, none)]) rfl (by kernel_rfl)
          · intro ρ W ⟨p1,p2,p3⟩ hG hF K hK; (try simp [FD] at hF); have ⟨hc, hf, hz⟩ := bdr hG; go_simp; exact hK _ gv
          apply ceq (D := [(35, some 0)]) rfl (by kernel_rfl)
          · intro ρ W ⟨p1,p2,p3⟩ hG hF K hK; (try simp [FD] at hF); have ⟨hc, hf, hz⟩ := bdr hG; go_simp; exact hK _ gv
          apply ceq (D := [(36, some 0)]) rfl (by kernel_rfl)
          · intro ρ W ⟨p1,p2,p3⟩ hG hF K hK; (try simp [FD] at hF); have ⟨hc, hf, hz⟩ := bdr hG; go_simp; exact hK _ gv
          apply ceq (D := [(7, none)]) rfl (by kernel_rfl)
          · intro ρ W ⟨p1,p2,p3⟩ hG hF K hK; (try simp [FD] at hF); have ⟨hc, hf, hz⟩ := bdr hG; go_simp; exact hK _ gv
          apply ceq (D := [(9, none)]) rfl (by kernel_rfl)
          · intro ρ W ⟨p1,p2,p3⟩ hG hF K hK; (try simp [FD] at hF); have ⟨hc, hf, hz⟩ := bdr hG; go_simp; exact hK _ gv
          apply ceq (D := [(38, some 1), (39, some 0)]) rfl (by kernel_rfl)
          · intro ρ W ⟨p1,p2,p3⟩ hG hF K hK; (try simp [FD] at hF); have ⟨hc, hf, hz⟩ := bdr hG; go_simp; exact hK _ gv
          apply ceq (D := [(40, some 0)]) rfl (by kernel_rfl)
          · intro ρ W ⟨p1,p2,p3⟩ hG hF K hK; (try simp [FD] at hF); have ⟨hc, hf, hz⟩ := bdr hG; go_simp; exact hK _ gv
          apply ceq (D := [(37, some 4), (41, some 0)]) rfl (by kernel_rfl)
          · intro ρ W ⟨p1,p2,p3⟩ hG hF K hK; (try simp [FD] at hF); have ⟨hc, hf, hz⟩ := bdr hG; go_simp; exact hK _ gv
          apply ceq (D := [(42, some 0)]) rfl (by kernel_rfl)
          · intro ρ W ⟨p1,p2,p3⟩ hG hF K hK; (try simp [FD] at hF); have ⟨hc, hf, hz⟩ := bdr hG; go_simp; exact hK _ gv
          apply ceq (D := [(43, some 0)]) rfl (by kernel_rfl)
          · intro ρ W ⟨p1,p2,p3⟩ hG hF K hK; (try simp [FD] at hF); have ⟨hc, hf, hz⟩ := bdr hG; go_simp; exact hK _ (gc (HO2.out _))
          apply ceq (D := [(44, some 0)]) rfl (by kernel_rfl)
          · intro ρ W ⟨p1,p2,p3⟩ hG hF K hK; (try simp [FD] at hF); have ⟨hc, hf, hz⟩ := bdr hG; have hq := fld23_0; go_simp; exact hK _ gv
          apply ceq (D := [(34, some 11), (45, some 0)]) rfl (by kernel_rfl)
          · intro ρ W ⟨p1,p2,p3⟩ hG hF K hK; (try simp [FD] at hF); have ⟨hc, hf, hz⟩ := bdr hG; go_simp; exact hK _ gv
          apply ceq (D := [(1, none)]) rfl (by kernel_rfl)
          · intro ρ W ⟨p1,p2,p3⟩ hG hF K hK; (try simp [FD] at hF); have ⟨hc, hf, hz⟩ := bdr hG; go_simp; exact hK _ gv
          refine cdn ?_
          intro vs W hG hV
          obtain ⟨e23, e22, -⟩ := hV
          simp only [Nat.reduceSub] at e22 e23
          simp only [lay, Act.put, List.getElem?_toArray, List.getElem?_cons_succ, List.getElem?_cons_zero, Option.bind_some, List.setIfInBounds_toArray, List.set_cons_succ, List.set_cons_zero]
          generalize vs 0 = v0, vs 1 = v1, vs 2 = v2, vs 3 = v3, vs 4 = v4, vs 5 = v5, vs 6 = v6, vs 7 = v7, vs 8 = v8, vs 9 = v9, vs 10 = v10, vs 11 = v11, vs 12 = v12, vs 13 = v13, vs 14 = v14, vs 15 = v15, vs 16 = v16, vs 17 = v17, vs 18 = v18, vs 19 = v19, vs 20 = v20, vs 21 = v21
          generalize vs 22 = v22 at *
          generalize vs 23 = v23 at *
          subst e22
          subst e23
          obtain ⟨hc, hf, hz⟩ := bcell hG
          have HG6 := Lib.hid (Gr.tr HG5.out hG)
          have hca6 := ((bcell hG).1 _ _ hbw).trans hca
          have hcb6 := ((bcell hG).1 _ _ hbw).trans hcb
          have hbw6 : b1 < W.heap.size := (bcell hG).2.2 _ hbw
          clear hc hf hz hG X Y c7 cl hca hcb hbw
          by_cases hgt : most < (tbb - te) - (sa - sf)
          · have HE := Lib.hid (show x = (m : Int) ∧ y = (n : Int) ∧ b = true by
              have e1 : apartIn es most q.2 = some r.1 := apartIn_some HESL.out HZ5.out (by rw [HDIF.out]; exact hgt)
              have e2 := HSP.out
              rw [e1] at e2
              dsimp only at e2
              rcases HAP.out with ⟨g1, g2⟩ | ⟨-, -, -, g2⟩
              · rw [g2] at e2
                have e3 := Option.some.inj e2
                exact ⟨(Prod.mk.inj e3).1.trans HQK.out, (Prod.mk.inj e3).2.trans HRK.out, g1⟩
              · rw [g2] at e2; cases e2)
            go_upto_region 9 with fail
            refine region2 11 ?_ ?_ ?_
            · kernel_rfl
            · kernel_rfl
            simp only [List.take_succ_cons, List.take_zero, List.drop_succ_cons, List.drop_zero]
            apply ceq (D := [(7, none)]) rfl (by kernel_rfl)
            · intro ρ W ⟨p1,p2,p3⟩ hG hF K hK; (try simp [FD] at hF); have ⟨hc, hf, hz⟩ := bdr hG; go_simp; exact hK _ gv
            apply ceq (D := [(8, none)]) rfl (by kernel_rfl)
            · intro ρ W ⟨p1,p2,p3⟩ hG hF K hK; (try simp [FD] at hF); have ⟨hc, hf, hz⟩ := bdr hG; go_simp; exact hK _ gv
            apply ceq (D := [(49, some 1), (50, some 0)]) rfl (by kernel_rfl)
            · intro ρ W ⟨p1,p2,p3⟩ hG hF K hK; (try simp [FD] at hF); have ⟨hc, hf, hz⟩ := bdr hG; go_simp; exact hK _ gv
            apply ceq (D := [(51, some 0)]) rfl (by kernel_rfl)
            · intro ρ W ⟨p1,p2,p3⟩ hG hF K hK; (try simp [FD] at hF); have ⟨hc, hf, hz⟩ := bdr hG; go_simp; exact hK _ gv
            apply ceq (D := [(7, none)]) rfl (by kernel_rfl)
            · intro ρ W ⟨p1,p2,p3⟩ hG hF K hK; (try simp [FD] at hF); have ⟨hc, hf, hz⟩ := bdr hG; go_simp; exact hK _ gv
            apply ceq (D := [(9, none)]) rfl (by kernel_rfl)
            · intro ρ W ⟨p1,p2,p3⟩ hG hF K hK; (try simp [FD] at hF); have ⟨hc, hf, hz⟩ := bdr hG; go_simp; exact hK _ gv
            apply ceq (D := [(53, some 1), (54, some 0)]) rfl (by kernel_rfl)
            · intro ρ W ⟨p1,p2,p3⟩ hG hF K hK; (try simp [FD] at hF); have ⟨hc, hf, hz⟩ := bdr hG; go_simp; exact hK _ gv
            apply ceq (D := [(55, some 0)]) rfl (by kernel_rfl)
            · intro ρ W ⟨p1,p2,p3⟩ hG hF K hK; (try simp [FD] at hF); have ⟨hc, hf, hz⟩ := bdr hG; go_simp; exact hK _ gv
            apply ceq (D := [(52, some 4)]) rfl (by kernel_rfl)
            · intro ρ W ⟨p1,p2,p3⟩ hG hF K hK; (try simp [FD] at hF); have ⟨hc, hf, hz⟩ := bdr hG; go_simp; exact hK _ gv
            apply ceq (D := [(56, some 1)]) rfl (by kernel_rfl)
            · intro ρ W ⟨p1,p2,p3⟩ hG hF K hK; (try simp [FD] at hF); have ⟨hc, hf, hz⟩ := bdr hG; go_simp; exact hK _ gv
            apply ceq (D := []) rfl (by kernel_rfl)
            · intro ρ W ⟨p1,p2,p3⟩ hG hF K hK; (try simp [FD] at hF); have ⟨hc, hf, hz⟩ := bdr hG; go_simp; exact hK _ gv
            refine cdn ?_
            intro vs W hG hV
            obtain ⟨e10, e9, e8, -⟩ := hV
            simp only [Nat.reduceSub] at e8 e9
            simp only [Nat.reduceSub] at e10
            simp only [lay, Act.put, List.getElem?_toArray, List.getElem?_cons_succ, List.getElem?_cons_zero, Option.bind_some, List.setIfInBounds_toArray, List.set_cons_succ, List.set_cons_zero]
            generalize vs 0 = v0, vs 1 = v1, vs 2 = v2, vs 3 = v3, vs 4 = v4, vs 5 = v5, vs 6 = v6, vs 7 = v7
            generalize vs 8 = v8 at *
            generalize vs 9 = v9 at *
            generalize vs 10 = v10 at *
            subst e8
            subst e9
            subst e10
            obtain ⟨hc, hf, hz⟩ := bcell hG
            have HG7 := Lib.hid (Gr.tr HG6.out hG)
            clear hc hf hz hG
            go_wp2_with fail
            exact bodyPost_ret (v := .tuple #[.int .i64 (m : Int), .int .i64 (n : Int), .bool true]) (by simp [results, Tryz.results71, go_sem]) rfl ⟨by rw [HE.out.1, HE.out.2.1, HE.out.2.2], Gr.tr HG2.out HG7.out⟩
          · have hgt' : (tbb - te) - (sa - sf) ≤ most := by omega
            go_wp2
            exact ⟨⟨l + 1, by omega, by go_num, HG6.out, fun r' hr' => by
              rw [HST2.out] at hr'
              rcases List.mem_append.1 hr' with h | h
              · exact HZ5.out r' h
              · simp at h; rw [h, HDIF.out]; exact hgt'⟩, by simp [intOf]; omega⟩
        · have hle : l = L := by omega
          subst hle
          have hltd2 : decide ((l : Int) < (l : Int)) = false := by simp
          have HNO := Lib.hid (show apartIn es most q.2 = none from apartIn_none fun r hr => HZ5.out r (by rw [List.take_of_length_le (by omega)]; exact hr))
          go_wp2
          exact ⟨⟨j + 1, by omega, by go_num, HG5.out, fun r' hr' => by
            rw [HST.out] at hr'
            rcases List.mem_append.1 hr' with h | h
            · exact HZ.out r' h
            · simp at h; rw [h]; exact HNO.out⟩, by simp [intOf]; omega⟩
    · have hjl : j = L := by omega
      subst hjl
      have hltd : decide ((j : Int) < (j : Int)) = false := by simp
      have HE := Lib.hid (show x = 0 ∧ y = 0 ∧ b = false by
        have e1 : apartOf es most es = none := by
          have := apartOf_skip (es := es) (most := most) (l := es) (r := []) (fun q hq => HZ.out q (by rw [List.take_of_length_le (by omega)]; exact hq))
          rw [List.append_nil] at this
          rw [this]; rfl
        rcases HAP.out with ⟨g1, g2⟩ | ⟨g1, g2, g3, -⟩
        · rw [e1] at g2; cases g2
        · exact ⟨g2, g3, g1⟩)
      go_wp2_with fail
      exact bodyPost_ret (v := .tuple #[.int .i64 0, .int .i64 0, .bool false]) (by simp [results, Tryz.results71, go_sem]) rfl ⟨by rw [HE.out.1, HE.out.2.1, HE.out.2.2], Gr.tr HG2.out HG.out⟩
end Go.Proofs.YtcngaohfemdfjaaGreat
