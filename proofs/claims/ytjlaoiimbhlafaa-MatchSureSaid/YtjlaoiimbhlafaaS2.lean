import Derived.Test.YtjlaoiimbhlafaaS1
import Derived.Laws.StructEq
set_option linter.unusedVariables false
set_option linter.unusedSimpArgs false
namespace Go.Proofs.Ytjlaoiimbhlafaa
open Go.RowKit Go.Shelf

open MW
attribute [local go_sem] Oper.semAt_some run_store_func
attribute [local go_sem ↓] Go.wp_at_zero Go.wp_at_succ
attribute [local go_sem] guard55 guard24 neq55 eql24 neq24
attribute [-go_sem] run_eql_struct run_neq_struct
set_option maxRecDepth 100000 in
set_option maxHeartbeats 8000000 in
theorem lsure_yes (r : Rr) (w : World) (hl : r.L.length ≤ 24 → MksAt r.L r.lp w) (hr : r.R.length ≤ 24 → MksAt r.R r.rp w) (hg : r.great 10 = false) (h1 : r.L.length ≤ 24) (h2 : r.R.length ≤ 24) (hok : r.ok = true) (hz : r.lkd.all0 ≠ 0) :
    Calls Try.prog 9 #[r.val] w fun e w' => e = .returned (.bool true) ∧ Below w.heap.size w w' := by
  have H14 := Lib.hid (fun W (hg : Gr w W) => great10_any r W (fun h => (hl h).grow hg) (fun h => (hr h).grow hg))
  rw [hg] at H14
  have HCan := Lib.hid (fun W (hg : Gr w W) => can23_yes r W ((hl h1).grow hg) ((hr h2).grow hg) hok hz)
  have HSur := Lib.hid (fun W (hg : Gr w W) => sure25_yes r W ((hl h1).grow hg) ((hr h2).grow hg) hok hz)
  have HHid := Lib.hid (fun W (hg : Gr w W) => hides27_yes r W ((hl h1).grow hg) ((hr h2).grow hg) hok hz)
  have H38 := Lib.hid (fun W (hg : Gr w W) => rows38_is r W ((hl h1).grow hg) ((hr h2).grow hg) true hok)
  have hl10 : r.L.length ≤ 10 := (Rr.ok_parts hok).1
  have hr10 : r.R.length ≤ 10 := (Rr.ok_parts hok).2.1
  have HSHN := Lib.hid (fun i W (hi : i < r.L.length) (hs : (r.shE i).s = false) (hg : Gr w W) => shift30_none r W ((hl h1).grow hg) ((hr h2).grow hg) hok hz i hi hs)
  have HSHS := Lib.hid (fun i W (hi : i < r.L.length) (hs : (r.shE i).s = true) (hg : Gr w W) => shift30_some r W ((hl h1).grow hg) ((hr h2).grow hg) hok hz i hi hs)
  have HSOF := Lib.hid (fun i j x y W (hx : r.L[i]? = some x) (hy : r.R[j]? = some y) (hxi : x.In) (hyi : y.In) (hg : Gr w W) => shiftOf_any r i j x y W ((hl h1).grow hg) ((hr h2).grow hg) hx hy hxi hyi)
  have HOK := Lib.hid hok
  have HZ := Lib.hid hz
  have HLT := Lib.hid r.hdL_lt
  have HRT := Lib.hid r.hdR_lt
  have f1 : ((r.hdL : Int) / 2 ^ r.L.length) = 0 := shr_0 r.hdL_lt
  have f2 : ((r.hdR : Int) / 2 ^ r.R.length) = 0 := shr_0 r.hdR_lt
  have f3 : decide ((r.hdL : Int) < 0) = false := by simp
  have f4 : decide ((r.hdR : Int) < 0) = false := by simp
  have f5 : (0 : Int) ≤ r.hdL := by omega
  have f6 : (0 : Int) ≤ r.hdR := by omega
  clear hl hr hg hok hz
  have HB := Lib.hid (Box.fresh w r.cs 26)
  have HG := Lib.hid (show Gr w (w.alloc (Obj.cells r.cs.toArray 26)) from Gr.alloc _ _)
  unfold Rr.cs at HB HG
  unfold Rr.val at *
  obtain ⟨r0, r1, r2, r3, r4⟩ := cells5 HB.out
  have rl := HB.out.lt
  go_enter Try.func9, Try.ntmps9
  go_wp2_with (first | (go_at_call 14; (with_reducible refine (H14.out _ (by first | exact HG.out | exact Gr.tr HG.out (Gr.alloc _ _) | exact Gr.tr HG.out ((Gr.alloc _ _).tr (Gr.alloc _ _)) | exact Gr.tr HG.out (Gr.drew _))).mono ?_); rintro e wg ⟨rfl, hb⟩; have HG := Lib.hid (show Gr w wg from by first | exact Gr.tr HG.out hb | exact Gr.tr (HG.out.tr (Gr.alloc _ _)) hb | exact Gr.tr (HG.out.tr ((Gr.alloc _ _).tr (Gr.alloc _ _))) hb | exact Gr.tr (HG.out.tr (Gr.drew _)) hb); have HB := Lib.hid (HB.out.grow (by first | exact hb | exact Gr.tr (Gr.alloc _ _) hb | exact Gr.tr ((Gr.alloc _ _).tr (Gr.alloc _ _)) hb | exact Gr.tr (Gr.drew _) hb)); clear r0 r1 r2 r3 r4 rl; obtain ⟨r0, r1, r2, r3, r4⟩ := cells5 HB.out; have rl := HB.out.lt; clear hb) | (go_at_call 15; (with_reducible refine (alive_any _).mono ?_); rintro e wa ⟨rfl, hb⟩; have HG := Lib.hid (show Gr w wa from by first | exact Gr.tr HG.out hb | exact Gr.tr (HG.out.tr (Gr.alloc _ _)) hb | exact Gr.tr (HG.out.tr ((Gr.alloc _ _).tr (Gr.alloc _ _))) hb | exact Gr.tr (HG.out.tr (Gr.drew _)) hb); have HB := Lib.hid (HB.out.grow (by first | exact hb | exact Gr.tr (Gr.alloc _ _) hb | exact Gr.tr ((Gr.alloc _ _).tr (Gr.alloc _ _)) hb | exact Gr.tr (Gr.drew _) hb)); clear r0 r1 r2 r3 r4 rl; obtain ⟨r0, r1, r2, r3, r4⟩ := cells5 HB.out; have rl := HB.out.lt; clear hb) | (go_at_call 23; (with_reducible refine (HCan.out _ (by first | exact HG.out | exact Gr.tr HG.out (Gr.alloc _ _) | exact Gr.tr HG.out ((Gr.alloc _ _).tr (Gr.alloc _ _)) | exact Gr.tr HG.out (Gr.drew _))).mono ?_); rintro e wc ⟨⟨pc, kc, rfl, hx⟩, hb⟩; have HG := Lib.hid (show Gr w wc from by first | exact Gr.tr HG.out hb | exact Gr.tr (HG.out.tr (Gr.alloc _ _)) hb | exact Gr.tr (HG.out.tr ((Gr.alloc _ _).tr (Gr.alloc _ _))) hb | exact Gr.tr (HG.out.tr (Gr.drew _)) hb); have HB := Lib.hid (HB.out.grow (by first | exact hb | exact Gr.tr (Gr.alloc _ _) hb | exact Gr.tr ((Gr.alloc _ _).tr (Gr.alloc _ _)) hb | exact Gr.tr (Gr.drew _) hb)); clear r0 r1 r2 r3 r4 rl; obtain ⟨r0, r1, r2, r3, r4⟩ := cells5 HB.out; have rl := HB.out.lt; have HCN := Lib.hid hx; clear hx; clear hb) | (go_at_call 25; (with_reducible refine (HSur.out _ (by first | exact HG.out | exact Gr.tr HG.out (Gr.alloc _ _) | exact Gr.tr HG.out ((Gr.alloc _ _).tr (Gr.alloc _ _)) | exact Gr.tr HG.out (Gr.drew _))).mono ?_); rintro e ws ⟨⟨ps, ks, rfl, hx⟩, hb⟩; have HG := Lib.hid (show Gr w ws from by first | exact Gr.tr HG.out hb | exact Gr.tr (HG.out.tr (Gr.alloc _ _)) hb | exact Gr.tr (HG.out.tr ((Gr.alloc _ _).tr (Gr.alloc _ _))) hb | exact Gr.tr (HG.out.tr (Gr.drew _)) hb); have HB := Lib.hid (HB.out.grow (by first | exact hb | exact Gr.tr (Gr.alloc _ _) hb | exact Gr.tr ((Gr.alloc _ _).tr (Gr.alloc _ _)) hb | exact Gr.tr (Gr.drew _) hb)); (try have HCN := Lib.hid (HCN.out.grow (by first | exact hb | exact Gr.tr (Gr.alloc _ _) hb | exact Gr.tr ((Gr.alloc _ _).tr (Gr.alloc _ _)) hb | exact Gr.tr (Gr.drew _) hb))); clear r0 r1 r2 r3 r4 rl; obtain ⟨r0, r1, r2, r3, r4⟩ := cells5 HB.out; have rl := HB.out.lt; have HSU := Lib.hid hx; clear hx; clear hb) | (go_at_call 27; (with_reducible refine (HHid.out _ (by first | exact HG.out | exact Gr.tr HG.out (Gr.alloc _ _) | exact Gr.tr HG.out ((Gr.alloc _ _).tr (Gr.alloc _ _)) | exact Gr.tr HG.out (Gr.drew _))).mono ?_); rintro e wh ⟨rfl, hb⟩; have HG := Lib.hid (show Gr w wh from by first | exact Gr.tr HG.out hb | exact Gr.tr (HG.out.tr (Gr.alloc _ _)) hb | exact Gr.tr (HG.out.tr ((Gr.alloc _ _).tr (Gr.alloc _ _))) hb | exact Gr.tr (HG.out.tr (Gr.drew _)) hb); have HB := Lib.hid (HB.out.grow (by first | exact hb | exact Gr.tr (Gr.alloc _ _) hb | exact Gr.tr ((Gr.alloc _ _).tr (Gr.alloc _ _)) hb | exact Gr.tr (Gr.drew _) hb)); (try have HCN := Lib.hid (HCN.out.grow (by first | exact hb | exact Gr.tr (Gr.alloc _ _) hb | exact Gr.tr ((Gr.alloc _ _).tr (Gr.alloc _ _)) hb | exact Gr.tr (Gr.drew _) hb))); (try have HSU := Lib.hid (HSU.out.grow (by first | exact hb | exact Gr.tr (Gr.alloc _ _) hb | exact Gr.tr ((Gr.alloc _ _).tr (Gr.alloc _ _)) hb | exact Gr.tr (Gr.drew _) hb))); clear r0 r1 r2 r3 r4 rl; obtain ⟨r0, r1, r2, r3, r4⟩ := cells5 HB.out; have rl := HB.out.lt; clear hb) | (go_at_call 38; (with_reducible refine (H38.out _ (by first | exact HG.out | exact Gr.tr HG.out (Gr.alloc _ _) | exact Gr.tr HG.out ((Gr.alloc _ _).tr (Gr.alloc _ _)) | exact Gr.tr HG.out (Gr.drew _))).mono ?_); rintro e wz ⟨rfl, hb⟩; have HG := Lib.hid (show Gr w wz from by first | exact Gr.tr HG.out hb | exact Gr.tr (HG.out.tr (Gr.alloc _ _)) hb | exact Gr.tr (HG.out.tr ((Gr.alloc _ _).tr (Gr.alloc _ _))) hb | exact Gr.tr (HG.out.tr (Gr.drew _)) hb); have HB := Lib.hid (HB.out.grow (by first | exact hb | exact Gr.tr (Gr.alloc _ _) hb | exact Gr.tr ((Gr.alloc _ _).tr (Gr.alloc _ _)) hb | exact Gr.tr (Gr.drew _) hb)); (try have HCN := Lib.hid (HCN.out.grow (by first | exact hb | exact Gr.tr (Gr.alloc _ _) hb | exact Gr.tr ((Gr.alloc _ _).tr (Gr.alloc _ _)) hb | exact Gr.tr (Gr.drew _) hb))); (try have HSU := Lib.hid (HSU.out.grow (by first | exact hb | exact Gr.tr (Gr.alloc _ _) hb | exact Gr.tr ((Gr.alloc _ _).tr (Gr.alloc _ _)) hb | exact Gr.tr (Gr.drew _) hb))); clear r0 r1 r2 r3 r4 rl; obtain ⟨r0, r1, r2, r3, r4⟩ := cells5 HB.out; have rl := HB.out.lt; clear hb))
  clear f1 f2 f3 f4 H14 HCan HSur HHid H38
  go_loopw [122, 10] (fun t a wr => ∃ i : Nat, i ≤ r.L.length ∧ t = .int .i64 i ∧ a = .int .i64 (orTo r.lkd.ptn i : Nat) ∧ Hid (Gr wz wr)) (fun t _ _ => (20 - intOf t).toNat)
  case atStart => exact ⟨0, Nat.zero_le _, rfl, rfl, Lib.hid (Gr.same _)⟩
  case round =>
    clear r0 r1 r2 r3 r4 rl
    obtain ⟨i, hi, rfl, rfl, HR⟩ := hrel
    obtain ⟨r0, r1, r2, r3, r4⟩ := cells5 (HB.out.grow HR.out)
    have rl := (HB.out.grow HR.out).lt
    by_cases hlt : i < r.L.length
    · have HC9 := (HCN.out.grow HR.out) i hlt
      have HS9 := (HSU.out.grow HR.out) i hlt
      dsimp only at HC9 HS9
      obtain ⟨bc, oc, hpc, hbc, hcc⟩ := HC9
      obtain ⟨bs, os, hps, hbs, hcs⟩ := HS9
      subst hpc hps
      have g1 : (i : Int) < r.L.length := by omega
      have hm : r.lkd.ptn i < 2 ^ r.R.length := Rr.ptn_lt i
      have hm4 := lt_4096 hm hr10
      have hdL4 := lt_4096 HLT.out hl10
      have HONE := Lib.hid (Rr.one_is HOK.out HZ.out hlt)
      have HSET := Lib.hid (Rr.set_or HOK.out HZ.out hlt)
      have HSN := Lib.hid (HSHN.out i · hlt)
      have HSS := Lib.hid (HSHS.out i · hlt)
      have HWN := Lib.hid (Rr.shW_none (r := r) (i := i))
      have HWA := Lib.hid (Rr.shW_all HOK.out hlt)
      have e1 : ((r.lkd.ptn i : Int) / 2 ^ r.R.length) = 0 := shr_0 hm
      have e2 : decide ((r.lkd.ptn i : Int) < 0) = false := by simp
      have e3 : (0 : Int) ≤ r.lkd.ptn i := by omega
      have HOR := Lib.hid (show orTo r.lkd.ptn (i + 1) = orTo r.lkd.ptn i ||| r.lkd.ptn i from rfl)
      have HORL : orTo r.lkd.ptn i < 2 ^ 10 := orTo_lt _ 10 (fun j => Nat.lt_of_lt_of_le (Rr.ptn_lt j) (Nat.pow_le_pow_right (by omega) hr10)) i
      have HORN := or_n (orTo r.lkd.ptn i) (r.lkd.ptn i) (by omega) (by omega)
      have HORM := Lib.hid (HOR.out ▸ rfl : (orTo r.lkd.ptn i ||| r.lkd.ptn i) = orTo r.lkd.ptn (i + 1))
      by_cases hm0 : r.lkd.ptn i = 0
      · -- no partner
        have hb := HSET.out hm0
        have hW := HWN.out.2 hm0
        have hsf : (r.shE i).s = false := by rw [HWA.out, hW]; rfl
        have HSH := Lib.hid (HSN.out · hsf)
        have hsur : r.lkd.surTo i r.lkd.nR = -1 := by
          rcases HONE.out with ⟨h1, -⟩ | ⟨-, h2⟩
          · unfold Rr.one at h1
            rw [hm0] at h1
            simp at h1
          · exact h2
        have e4 := bit_1 (k := i) (by omega) hb
        have HORN : bits BinOp.or IntKind.i64 ((orTo r.lkd.ptn i : Nat) : Int) 0 = ((orTo r.lkd.ptn i : Nat) : Int) := by have := HORN; rw [hm0] at this; simpa using this
        rw [hm0] at hcc e1 e2 e3
        rw [hsur] at hcs
        have HORZ := Lib.hid (show orTo r.lkd.ptn (i + 1) = orTo r.lkd.ptn i by rw [HOR.out, hm0]; simp)
        clear hsur hW hsf hb hm hm4 hdL4 HSET HOR HORM HONE e1 e2 e3
        have hm0' := Lib.hid hm0
        clear hm0
        generalize orTo r.lkd.ptn i = oi at *
        go_wp2_with (first | (go_at_call 30; (with_reducible refine (HSH.out _ (HG.out.tr (by first | exact HR.out | exact Gr.tr HR.out (Gr.alloc _ _) | exact Gr.tr HR.out ((Gr.alloc _ _).tr (Gr.alloc _ _)) | exact Gr.tr HR.out (Gr.drew _)))).mono ?_); rintro e w5 ⟨rfl, hb⟩; have HR := Lib.hid (show Gr wz w5 from by first | exact Gr.tr HR.out hb | exact Gr.tr (HR.out.tr (Gr.alloc _ _)) hb | exact Gr.tr (HR.out.tr ((Gr.alloc _ _).tr (Gr.alloc _ _))) hb | exact Gr.tr (HR.out.tr (Gr.drew _)) hb); clear r0 r1 r2 r3 r4 rl; obtain ⟨r0, r1, r2, r3, r4⟩ := cells5 (HB.out.grow HR.out); have rl := (HB.out.grow HR.out).lt; clear hb))
        exact ⟨⟨i + 1, by omega, by go_num, by rw [HORZ.out], Lib.hid (HR.out.tr (Gr.alloc _ _))⟩, by simp [intOf]; omega⟩
      · obtain ⟨q, hq⟩ : ∃ q, r.shW i r.R.length = some q := by
          cases h : r.shW i r.R.length with
          | none => exact absurd (HWN.out.1 h) hm0
          | some q => exact ⟨q, rfl⟩
        have hst : (r.shE i).s = true := by rw [HWA.out, hq]; rfl
        have HSH := Lib.hid (HSS.out · hst)
        have hqa : (r.shE i).a = q.1 := by rw [HWA.out, hq]; rfl
        have hqb : (r.shE i).b = q.2 := by rw [HWA.out, hq]; rfl
        rw [hqa, hqb] at HSH
        have HQ := Lib.hid hq
        obtain ⟨qa, qb⟩ := q
        dsimp only at HSH
        clear hq hst hqa hqb
        have e4 : ((r.lkd.ptn i : Int) == 0) = false := by simp; omega
        have e7 : ((r.lkd.ptn i : Int) != 0) = true := by simp; omega
        have e5 : bits BinOp.and IntKind.i64 (r.lkd.ptn i : Int) ((r.lkd.ptn i : Int) - 1) = ((r.lkd.ptn i &&& (r.lkd.ptn i - 1) : Nat) : Int) := by
          rw [show ((r.lkd.ptn i : Int) - 1) = ((r.lkd.ptn i - 1 : Nat) : Int) by omega]
          exact and_n _ _ (by omega) (by omega)
        have HM := Lib.hid hm
        have HSO := Lib.hid (fun k (hk : k < r.R.length) (hb : (r.lkd.ptn i).testBit k = true) => show ∃ a b : Int, a ≤ b ∧ r.shv i k = (a, b) ∧ ∀ W, Gr w W → Calls Try.prog 39 #[r.val, .int .i64 i, .int .i64 k] W fun e w' => e = .returned (.agg #[.int .i64 a, .int .i64 b]) ∧ Below W.heap.size W w' by
          obtain ⟨h1, h2⟩ := Rr.ptn_fit HOK.out hlt hb
          obtain ⟨x, hx⟩ : ∃ x, r.L[i]? = some x := ⟨_, List.getElem?_eq_getElem hlt⟩
          obtain ⟨y, hy⟩ : ∃ y, r.R[k]? = some y := ⟨_, List.getElem?_eq_getElem h1⟩
          obtain ⟨-, -, p3, p4, -⟩ := Rr.ok_parts HOK.out
          have hle := Rr.shv_le h2
          have e := Rr.shOf_shv hx hy h2
          refine ⟨(r.shv i k).1, (r.shv i k).2, hle, rfl, fun W hg => ?_⟩
          have := HSOF.out i k x y W hx hy (Mrk.in_of_ok (p3 x (List.mem_of_getElem? hx))) (Mrk.in_of_ok (p4 y (List.mem_of_getElem? hy))) hg
          rw [e] at this
          exact this)
        unfold Rr.val at HSO
        have HWS := Lib.hid (fun k => r.shW_succ i k)
        have HW0 := Lib.hid (show r.shW i 0 = none from rfl)
        have HM10 : r.lkd.ptn i < 1024 := hm4
        clear hm HSET HWN HWA HSN HSS HORL hm4
        obtain ⟨av, hav⟩ : ∃ av : Nat, av = r.lkd.ptn i &&& (r.lkd.ptn i - 1) := ⟨_, rfl⟩
        rw [← hav] at e5
        have HCS : (((av : Int) == 0) = true ∧ bits BinOp.and IntKind.i64 ((r.hdL : Int) / 2 ^ i) 1 = 0 ∧ ∃ c : Nat, c < 10 ∧ r.lkd.surTo i r.lkd.nR = c ∧ r.lkd.ptn i = 2 ^ c) ∨
            ((((av : Int) == 0) = true ∧ bits BinOp.and IntKind.i64 ((r.hdL : Int) / 2 ^ i) 1 = 1) ∨ ((av : Int) == 0) = false) ∧ r.lkd.surTo i r.lkd.nR = -1 := by
          rcases HONE.out with ⟨h1, c, hc, hsur, hpow⟩ | ⟨h1, hsur⟩
          · left
            unfold Rr.one at h1
            simp only [Bool.and_eq_true, decide_eq_true_eq, Bool.not_eq_true'] at h1
            refine ⟨?_, bit_0 (by omega) h1.2, c, hc, hsur, hpow⟩
            rw [hav, h1.1.2]; rfl
          · right
            refine ⟨?_, hsur⟩
            by_cases ha : av = 0
            · left
              refine ⟨by rw [ha]; rfl, bit_1 (by omega) ?_⟩
              unfold Rr.one at h1
              rw [← hav, ha, decide_eq_true hm0] at h1
              simpa using h1
            · right
              simp; omega
        have HQQ := HQ
        clear hav hm0 HONE hdL4
        rcases HCS with ⟨a1, a2, c, hc, hsur, hpow⟩ | ⟨⟨a1, a2⟩ | a1, hsur⟩
        case' inl =>
          rw [hsur] at hcs
          have a3 : (if 0 < c then (c : Int) else 0) = c := by split <;> omega
          have a5 : ((r.lkd.ptn i : Int) != wrap64 (2 ^ c)) = false := by rw [sh_in c (by omega), hpow]; simp
          have a4 : ((r.lkd.ptn i : Int) != wrap64 (2 ^ (if 0 < c then (c : Int) else 0).toNat)) = false := by rw [a3, Int.toNat_natCast]; exact a5
          have a6 : ((c : Int) == -1) = false := by first | (simp; done) | (simp; omega)
          have a8 : ((c : Int) != -1) = true := by first | (simp; done) | (simp; omega)
          have a7 : (0 : Int) ≤ c := by omega
          have HPW := Lib.hid hpow
          clear hsur hpow
        case' inr.inl =>
          rw [hsur] at hcs
          clear hsur
        case' inr.inr =>
          rw [hsur] at hcs
          obtain ⟨z, hz⟩ : ∃ z : Int, z = (av : Int) := ⟨_, rfl⟩
          rw [← hz] at e5 a1
          have a2 : (z != 0) = true := by simpa using a1
          have a9 : decide (z = 0) = false := by simpa using a1
          clear hsur hz
        all_goals
          generalize hmm : r.lkd.ptn i = m at *
          have HMM := Lib.hid hmm
          clear hmm
          generalize orTo r.lkd.ptn i = oi at *
          go_wp2_with (first | (go_at_call 30; (with_reducible refine (HSH.out _ (HG.out.tr (by first | exact HR.out | exact Gr.tr HR.out (Gr.alloc _ _) | exact Gr.tr HR.out ((Gr.alloc _ _).tr (Gr.alloc _ _)) | exact Gr.tr HR.out (Gr.drew _)))).mono ?_); rintro e w5 ⟨rfl, hb⟩; have HR := Lib.hid (show Gr wz w5 from by first | exact Gr.tr HR.out hb | exact Gr.tr (HR.out.tr (Gr.alloc _ _)) hb | exact Gr.tr (HR.out.tr ((Gr.alloc _ _).tr (Gr.alloc _ _))) hb | exact Gr.tr (HR.out.tr (Gr.drew _)) hb); clear r0 r1 r2 r3 r4 rl; obtain ⟨r0, r1, r2, r3, r4⟩ := cells5 (HB.out.grow HR.out); have rl := (HB.out.grow HR.out).lt; clear hb))
        all_goals
          have hs5 := HR.out.size
          have hwz := (HB.out).lt
          have HSB := Lib.hid ((Box.fresh w5 [.int .i64 qa, .int .i64 qb] 24).grow (Gr.alloc _ (Obj.cells #[.int .i64 0, .int .i64 0] 24)))
          have HWB := Lib.hid (show Box ((w5.alloc (Obj.cells #[.int .i64 qa, .int .i64 qb] 24)).alloc (Obj.cells #[.int .i64 0, .int .i64 0] 24)) (w5.heap.size + 1) [.int .i64 0, .int .i64 0] 24 by
            have := Box.fresh (w5.alloc (Obj.cells #[.int .i64 qa, .int .i64 qb] 24)) [.int .i64 0, .int .i64 0] 24
            simpa using this)
          have HR := Lib.hid (show Gr wz ((w5.alloc (Obj.cells #[.int .i64 qa, .int .i64 qb] 24)).alloc (Obj.cells #[.int .i64 0, .int .i64 0] 24)) from HR.out.tr ((Gr.alloc _ _).tr (Gr.alloc _ _)))
          generalize ((w5.alloc (Obj.cells #[.int .i64 qa, .int .i64 qb] 24)).alloc (Obj.cells #[.int .i64 0, .int .i64 0] 24)) = wy at *
          generalize w5.heap.size = bS at *
          clear r0 r1 r2 r3 r4 rl hcc hcs HSH
          go_loopw [206, 17] (fun t sm wr => ∃ k : Nat, k ≤ r.R.length ∧ t = .int .i64 k ∧ sm = .bool (r.shW i k).isSome ∧ Hid (Gr wz wr) ∧ Hid (Box wr bS [.int .i64 qa, .int .i64 qb] 24) ∧ Hid (Box wr (bS + 1) [.int .i64 (wLo (r.shW i k)), .int .i64 (wHi (r.shW i k))] 24)) (fun t _ _ => (20 - intOf t).toNat)
          case atStart => exact ⟨0, Nat.zero_le _, rfl, by rw [HW0.out]; rfl, HR, HSB, by rw [HW0.out]; exact HWB⟩
          case round =>
            clear HR HSB HWB
            obtain ⟨k, hk, rfl, rfl, HR, HSB, HWB⟩ := hrel
            obtain ⟨r0, r1, r2, r3, r4⟩ := cells5 (HB.out.grow HR.out)
            have rl := (HB.out.grow HR.out).lt
            obtain ⟨z0, z1, zf, zg, zl⟩ := HWB.out.two
            by_cases hkl : k < r.R.length
            · have g2 : (k : Int) < r.R.length := by omega
              cases hbt : m.testBit k with
              | false =>
                have e8 := bit_0 (k := k) (by omega) hbt
                have HWK := Lib.hid (show r.shW i (k + 1) = r.shW i k by rw [HWS.out, hbt]; rfl)
                clear hbt
                go_wp2_with fail
                exact ⟨⟨k + 1, by omega, by go_num, by rw [HWK.out], HR, HSB, by rw [HWK.out]; exact HWB⟩, by simp [intOf]; omega⟩
              | true =>
                have e8 := bit_1 (k := k) (by omega) hbt
                obtain ⟨a, b, hab, hsv, hcall⟩ := HSO.out k hkl hbt
                have HSO2 := Lib.hid hcall
                have HWK := Lib.hid (show r.shW i (k + 1) = tk (r.shW i k) (a, b) by rw [HWS.out, hbt, hsv]; rfl)
                have e9 : decide (b < a) = false := by simp; omega
                have e10 : ¬ b < a := by omega
                clear hbt hcall hsv
                cases hoo : r.shW i k with
                | none =>
                  rw [hoo] at z0 z1 HWB HWK
                  dsimp only [wLo, wHi, Option.getD_none, Option.getD_some] at z0 z1 HWB
                  go_wp2_with (first | (go_at_call 39; clear z0 z1 zf zg zl; (with_reducible refine (HSO2.out _ (HG.out.tr (by first | exact HR.out | exact Gr.tr HR.out (Gr.alloc _ _) | exact Gr.tr HR.out ((Gr.alloc _ _).tr (Gr.alloc _ _)) | exact Gr.tr HR.out (Gr.drew _)))).mono ?_); rintro e w6 ⟨rfl, hb⟩; have HR := Lib.hid (show Gr wz w6 from by first | exact Gr.tr HR.out hb | exact Gr.tr (HR.out.tr (Gr.alloc _ _)) hb | exact Gr.tr (HR.out.tr ((Gr.alloc _ _).tr (Gr.alloc _ _))) hb | exact Gr.tr (HR.out.tr (Gr.drew _)) hb); (try have HSB := Lib.hid (HSB.out.grow (by first | exact hb | exact Gr.tr (Gr.alloc _ _) hb | exact Gr.tr ((Gr.alloc _ _).tr (Gr.alloc _ _)) hb | exact Gr.tr (Gr.drew _) hb))); (try have HWB := Lib.hid (HWB.out.grow (by first | exact hb | exact Gr.tr (Gr.alloc _ _) hb | exact Gr.tr ((Gr.alloc _ _).tr (Gr.alloc _ _)) hb | exact Gr.tr (Gr.drew _) hb))); clear r0 r1 r2 r3 r4 rl; obtain ⟨r0, r1, r2, r3, r4⟩ := cells5 (HB.out.grow HR.out); have rl := (HB.out.grow HR.out).lt; obtain ⟨z0, z1, zf, zg, zl⟩ := HWB.out.two; clear hb) | (go_at_call 35; clear z0 z1 zf zg zl; (with_reducible refine (span35_any _ _ _).mono ?_); rintro e w7 ⟨rfl, hb⟩; have HR := Lib.hid (show Gr wz w7 from Gr.tr (bgr ((HR.out.setCell (by simp; omega) _).setCell (by simp; omega) _) (by have := HR.out.size; simp; omega) (Gr.alloc _ _)) hb); have HSB := Lib.hid ((((HSB.out.other (by omega) 0 _).other (by omega) 1 _).grow (Gr.alloc _ _)).grow hb); have HWB := Lib.hid (show Box w7 (bS + 1) [.int .i64 a, .int .i64 b] 24 from (((HWB.out.put 0 _).put 1 _).grow (Gr.alloc _ _)).grow hb); obtain ⟨z0, z1, zf, zg, zl⟩ := HWB.out.two; clear r0 r1 r2 r3 r4 rl hb))
                  exact ⟨⟨k + 1, by omega, by go_num, by rw [HWK.out]; rfl, Lib.hid ((HR.out.setCell (by simp; omega) _).setCell (by simp; omega) _), Lib.hid ((HSB.out.other (by omega) 0 _).other (by omega) 1 _), by rw [HWK.out]; exact Lib.hid ((HWB.out.put 0 _).put 1 _)⟩, by simp [intOf]; omega⟩
                | some p =>
                  obtain ⟨pa, pb⟩ := p
                  rw [hoo] at z0 z1 HWB HWK
                  dsimp only [wLo, wHi, Option.getD_none, Option.getD_some] at z0 z1 HWB
                  have hmn : (if a < pa then a else pa) = mnI pa a := rfl
                  have hmx : (if pb < b then b else pb) = mxI pb b := rfl
                  have hmn2 : min pa a = mnI pa a := by unfold mnI; omega
                  have hmx2 : max pb b = mxI pb b := by unfold mxI; omega
                  have HTK := Lib.hid (show tk (some (pa, pb)) (a, b) = some (mnI pa a, mxI pb b) from rfl)
                  generalize mnI pa a = mn at *
                  generalize mxI pb b = mx at *
                  rw [HTK.out] at HWK
                  go_wp2_with (first | (go_at_call 39; clear z0 z1 zf zg zl; (with_reducible refine (HSO2.out _ (HG.out.tr (by first | exact HR.out | exact Gr.tr HR.out (Gr.alloc _ _) | exact Gr.tr HR.out ((Gr.alloc _ _).tr (Gr.alloc _ _)) | exact Gr.tr HR.out (Gr.drew _)))).mono ?_); rintro e w6 ⟨rfl, hb⟩; have HR := Lib.hid (show Gr wz w6 from by first | exact Gr.tr HR.out hb | exact Gr.tr (HR.out.tr (Gr.alloc _ _)) hb | exact Gr.tr (HR.out.tr ((Gr.alloc _ _).tr (Gr.alloc _ _))) hb | exact Gr.tr (HR.out.tr (Gr.drew _)) hb); (try have HSB := Lib.hid (HSB.out.grow (by first | exact hb | exact Gr.tr (Gr.alloc _ _) hb | exact Gr.tr ((Gr.alloc _ _).tr (Gr.alloc _ _)) hb | exact Gr.tr (Gr.drew _) hb))); (try have HWB := Lib.hid (HWB.out.grow (by first | exact hb | exact Gr.tr (Gr.alloc _ _) hb | exact Gr.tr ((Gr.alloc _ _).tr (Gr.alloc _ _)) hb | exact Gr.tr (Gr.drew _) hb))); clear r0 r1 r2 r3 r4 rl; obtain ⟨r0, r1, r2, r3, r4⟩ := cells5 (HB.out.grow HR.out); have rl := (HB.out.grow HR.out).lt; obtain ⟨z0, z1, zf, zg, zl⟩ := HWB.out.two; clear hb) | (go_at_call 35; clear z0 z1 zf zg zl; (with_reducible refine (span35_any _ _ _).mono ?_); rintro e w7 ⟨rfl, hb⟩; have HR := Lib.hid (show Gr wz w7 from by first | exact Gr.tr HR.out hb | exact Gr.tr (HR.out.tr (Gr.alloc _ _)) hb | exact Gr.tr (HR.out.tr ((Gr.alloc _ _).tr (Gr.alloc _ _))) hb | exact Gr.tr (HR.out.tr (Gr.drew _)) hb); (try have HSB := Lib.hid (HSB.out.grow (by first | exact hb | exact Gr.tr (Gr.alloc _ _) hb | exact Gr.tr ((Gr.alloc _ _).tr (Gr.alloc _ _)) hb | exact Gr.tr (Gr.drew _) hb))); (try have HWB := Lib.hid (HWB.out.grow (by first | exact hb | exact Gr.tr (Gr.alloc _ _) hb | exact Gr.tr ((Gr.alloc _ _).tr (Gr.alloc _ _)) hb | exact Gr.tr (Gr.drew _) hb))); clear r0 r1 r2 r3 r4 rl; obtain ⟨r0, r1, r2, r3, r4⟩ := cells5 (HB.out.grow HR.out); have rl := (HB.out.grow HR.out).lt; obtain ⟨z0, z1, zf, zg, zl⟩ := HWB.out.two; clear hb))
                  exact ⟨⟨k + 1, by omega, by go_num, by rw [HWK.out]; rfl, Lib.hid ((HR.out.setCell (by simp; omega) _).setCell (by simp; omega) _), Lib.hid ((HSB.out.other (by omega) 0 _).other (by omega) 1 _), by rw [HWK.out]; exact Lib.hid ((HWB.out.put 0 _).put 1 _)⟩, by simp [intOf]; omega⟩
            · have hkn : k = r.R.length := by omega
              subst hkn
              have HEN := Lib.hid (show wLo (r.shW i r.R.length) = qa ∧ wHi (r.shW i r.R.length) = qb by rw [HQ.out]; exact ⟨rfl, rfl⟩)
              rw [HEN.out.1, HEN.out.2] at HWB
              clear z0 z1 zf zg zl
              obtain ⟨z0, z1, zf, zg, zl⟩ := HWB.out.two
              obtain ⟨s0, s1, -, -, sl⟩ := HSB.out.two
              go_wp2_with fail
              exact ⟨⟨i + 1, by omega, by go_num, by rw [← HORM.out], HR⟩, by simp [intOf]; omega⟩
    · have hin : i = r.L.length := by omega
      subst hin
      have HOL : orTo r.lkd.ptn r.L.length < 2 ^ 10 := orTo_lt _ 10 (fun j => Nat.lt_of_lt_of_le (Rr.ptn_lt j) (Nat.pow_le_pow_right (by omega) hr10)) _
      have HRO := Lib.hid (fun k (hk : k < r.R.length) (h : (orTo r.lkd.ptn r.L.length).testBit k = false) => Rr.right_or HOK.out HZ.out hk (fun i hi => by
        cases hb : (r.lkd.ptn i).testBit k with
        | false => rfl
        | true => rw [(orTo_bit r.lkd.ptn k r.L.length).2 ⟨i, hi, hb⟩] at h; cases h))
      have hdR4 := lt_4096 HRT.out hr10
      generalize orTo r.lkd.ptn r.L.length = oz at *
      go_wp2_with fail
      go_loopw [249] (fun t wr => ∃ k : Nat, k ≤ r.R.length ∧ t = .int .i64 k ∧ Hid (Gr wz wr)) (fun t _ => (20 - intOf t).toNat)
      case atStart => exact ⟨0, Nat.zero_le _, rfl, HR⟩
      case round =>
        clear HR r0 r1 r2 r3 r4 rl
        obtain ⟨k, hk, rfl, HR⟩ := hrel
        obtain ⟨r0, r1, r2, r3, r4⟩ := cells5 (HB.out.grow HR.out)
        have rl := (HB.out.grow HR.out).lt
        by_cases hkl : k < r.R.length
        · have g2 : (k : Int) < r.R.length := by omega
          cases hbt : oz.testBit k with
          | true =>
            have e8 := bit_1 (k := k) (by omega) hbt
            clear hbt
            go_wp2_with fail
            exact ⟨⟨k + 1, by omega, by go_num, HR⟩, by simp [intOf]; omega⟩
          | false =>
            have e8 := bit_0 (k := k) (by omega) hbt
            have e9 := bit_1 (k := k) (by omega) (HRO.out k hkl hbt)
            clear hbt
            go_wp2_with fail
            exact ⟨⟨k + 1, by omega, by go_num, HR⟩, by simp [intOf]; omega⟩
        · have hkn : k = r.R.length := by omega
          subst hkn
          have HG := Lib.hid (HG.out.tr HR.out)
          have HB := Lib.hid (HB.out.grow HR.out)
          go_wp2_with (first | (go_at_call 15; (with_reducible refine (alive_any _).mono ?_); rintro e wa ⟨rfl, hb⟩; have HG := Lib.hid (show Gr w wa from by first | exact Gr.tr HG.out hb | exact Gr.tr (HG.out.tr (Gr.alloc _ _)) hb | exact Gr.tr (HG.out.tr ((Gr.alloc _ _).tr (Gr.alloc _ _))) hb | exact Gr.tr (HG.out.tr (Gr.drew _)) hb); have HB := Lib.hid (HB.out.grow (by first | exact hb | exact Gr.tr (Gr.alloc _ _) hb | exact Gr.tr ((Gr.alloc _ _).tr (Gr.alloc _ _)) hb | exact Gr.tr (Gr.drew _) hb)); clear r0 r1 r2 r3 r4 rl; obtain ⟨r0, r1, r2, r3, r4⟩ := cells5 HB.out; have rl := HB.out.lt; clear hb))
          go_ret
          exact ⟨rfl, HG.out⟩
/-- MatchSure is true, whatever the rows are. -/
theorem lsure_any (r : Rr) (w : World) (hl : r.L.length ≤ 24 → MksAt r.L r.lp w) (hr : r.R.length ≤ 24 → MksAt r.R r.rp w) :
    Calls Try.prog 9 #[r.val] w fun e w' => e = .returned (.bool true) ∧ Below w.heap.size w w' := by
  cases hg : r.great 10 with
  | true => exact lsure_great r w hl hr hg
  | false =>
    have hb := hg
    unfold Rr.great at hb
    simp only [Bool.or_eq_false_iff, decide_eq_false_iff_not] at hb
    cases hok : r.ok with
    | false => exact lsure_no r w hl hr hg (by omega) (by omega) hok
    | true =>
      by_cases hz : r.lkd.all0 = 0
      · exact lsure_zero r w hl hr hg (by omega) (by omega) hok hz
      · exact lsure_yes r w hl hr hg (by omega) (by omega) hok hz

end Go.Proofs.Ytjlaoiimbhlafaa
