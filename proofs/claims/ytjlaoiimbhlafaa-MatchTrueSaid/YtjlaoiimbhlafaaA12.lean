import Derived.Test.YtjlaoiimbhlafaaA11
set_option linter.unusedVariables false
set_option linter.unusedSimpArgs false
namespace Go.Proofs.Ytjlaoiimbhlafaa
open Go.RowKit Go.Shelf

open MW
attribute [local go_sem] Oper.semAt_some run_store_func
attribute [local go_sem ↓] Go.wp_at_zero Go.wp_at_succ
attribute [local go_sem] guard55 guard24 neq55 eql24 neq24
attribute [-go_sem] run_eql_struct run_neq_struct
theorem PrsIn.grw {v : Value} {l : List (Nat × Nat)} {w w' : World} (h : PrsIn v l w) (hg : Gr w w') : PrsIn v l w' := by
  obtain ⟨p, c, hv, h⟩ := h
  exact ⟨p, c, hv, fun i x hx => by
    obtain ⟨b, o, h1, h2, h3, h4⟩ := h i x hx
    exact ⟨b, o, h1, (bcell hg).2.2 _ h2, by rw [(bcell hg).1 _ _ h2]; exact h3, by rw [(bcell hg).1 _ _ h2]; exact h4⟩⟩
theorem IntsIn.grw {v : Value} {l : List Int} {w w' : World} (h : IntsIn v l w) (hg : Gr w w') : IntsIn v l w' := by
  obtain ⟨p, c, hv, h⟩ := h
  exact ⟨p, c, hv, fun i x hx => by
    obtain ⟨b, o, h1, h2, h3⟩ := h i x hx
    exact ⟨b, o, h1, (bcell hg).2.2 _ h2, by rw [(bcell hg).1 _ _ h2]; exact h3⟩⟩
theorem afew20 (r : Rr) (w : World) (hl : MksAt r.L r.lp w) (hr : MksAt r.R r.rp w) {l : List (Nat × Nat)} {n : Nat} {c : Int} (hf : r.fewest = (l, n, c)) :
    Calls Try.prog 20 #[r.val] w fun e w' => (∃ v, e = .returned (.tuple #[v, .int .i64 n, .int .i64 c])) ∧ Below w.heap.size w w' := by
  have h := Fewest_any r w hl hr
  rw [hf] at h
  refine h.mono ?_
  rintro e w' ⟨⟨v, h1, h2⟩, h3⟩
  exact ⟨⟨v, h1⟩, h3⟩
set_option maxRecDepth 100000 in
set_option maxHeartbeats 8000000 in
theorem ltrue_nil (p : Option Addr) (cap : Nat) (w : World) :
    Calls Try.prog 7 #[.slice p 0 cap] w fun e w' => e = .returned (.bool true) ∧ Below w.heap.size w w' := by
  go_enter Try.func7, Try.ntmps7
  go_wp2_with (first | (go_at_call 15; (with_reducible refine (alive_any _).mono ?_); rintro e wa ⟨rfl, hb⟩; have HGA := Lib.hid (show Gr w wa from hb); clear hb))
  go_ret
  exact ⟨rfl, HGA.out⟩
set_option maxRecDepth 100000 in
set_option maxHeartbeats 8000000 in
theorem ltrue_some {b o len cap : Nat} {w : World} (hy : ByIn b o len w) :
    Calls Try.prog 7 #[.slice (some ⟨b, o, none⟩) len cap] w fun e w' => e = .returned (.bool true) ∧ Below w.heap.size w w' := by
  have hl0 : 0 < len := hy.1
  have hl1 : ¬ (len : Int) = 0 := by omega
  have hlm : len ≤ maxLen := hy.2.1
  have hlm2 : (len : Int) ≤ 9223372036854775807 := by unfold maxLen at hlm; omega
  have HY := Lib.hid hy
  clear hy hlm
  go_enter Try.func7, Try.ntmps7
  apply wp_seq_k
  intro K0 hK0
  have HK0 := Lib.hid hK0
  clear hK0
  go_wp2_with fail
  refine HK0.out _ _ ?_
  clear HK0
  apply wp_seq_k
  intro K0 hK0
  have HK0 := Lib.hid hK0
  clear hK0
  go_wp2_with fail
  refine HK0.out _ _ ?_
  clear HK0
  apply wp_seq_k
  intro K0 hK0
  have HK0 := Lib.hid hK0
  clear hK0
  go_wp2_with fail
  refine (draws_any b o len cap w HY.out).mono ?_
  rintro e w1 ⟨rfl, hb1, hd1⟩
  have hb : b < w.heap.size := HY.out.2.2.1
  have hA : w.heap.size + 1 < w1.heap.size := by obtain ⟨m, h1, -⟩ := hd1.at_; exact h1.lt
  have hBl : w.heap.size < w1.heap.size := by omega
  have HM := Lib.hid (made_any hd1 hA hBl (by omega))
  have HB1 := Lib.hid (show Below w.heap.size w w1 from hb1)
  clear hb1 hd1
  unfold drawV at *
  dsimp only
  go_wp2_with fail
  refine (HM.out).mono ?_
  rintro e w2 ⟨r, P, S, vp, vi, rfl, hm⟩
  obtain ⟨mok, mway, mlen, msh, mml, mmr, ⟨pp, kpp, rfl, hpp⟩, ⟨pi, kpi, rfl, hpi⟩, ⟨i, mdn⟩⟩ := hm
  have HPP := Lib.hid (show PrsIn (.slice pp P.length kpp) P w2 from ⟨pp, kpp, rfl, hpp⟩)
  have HPI := Lib.hid (show IntsIn (.slice pi S.length kpi) S w2 from ⟨pi, kpi, rfl, hpi⟩)
  have HG2 := Lib.hid (show Gr w w2 from mdn.below HB1.out (by omega) (by omega))
  have HML := Lib.hid mml
  have HMR := Lib.hid mmr
  have HALL := Lib.hid (show r.ok = true ∧ P ∈ r.ways ∧ S.length = P.length ∧ (∀ (k : Nat) (x : Nat × Nat) (v : Int), P[k]? = some x → S[k]? = some v → (r.shv x.1 x.2).1 ≤ v ∧ v ≤ (r.shv x.1 x.2).2) from ⟨mok, mway, mlen, msh⟩)
  have hz : r.lkd.all0 ≠ 0 := Rr.way_all0 mok mway
  have H18 := Lib.hid (fun W (hg : Gr w2 W) => count18_yes r W (mml.grow hg) (mmr.grow hg) mok)
  have hfe : r.fewest = ((r.lkd.wh r.lkd.few).fst, r.lkd.few, 0) := by unfold Rr.fewest; rw [if_pos mok, if_neg hz]
  have H20 := Lib.hid (fun W (hg : Gr w2 W) => afew20 r W (mml.grow hg) (mmr.grow hg) hfe)
  have H23 := Lib.hid (fun W (hg : Gr w2 W) => can23_yes r W (mml.grow hg) (mmr.grow hg) mok hz)
  have H25 := Lib.hid (fun W (hg : Gr w2 W) => sure25_yes r W (mml.grow hg) (mmr.grow hg) mok hz)
  have H27 := Lib.hid (fun W (hg : Gr w2 W) => hides27_yes r W (mml.grow hg) (mmr.grow hg) mok hz)
  unfold Rr.val at *
  unfold SlPost at H23 H25
  have hfew := Rr.tr_few mok mway
  obtain ⟨p1, p2, -⟩ := Rr.ok_parts mok
  have hPl : 2 * P.length ≤ r.L.length + r.R.length := by omega
  have ha1 : ¬ ((r.lkd.all0 : Nat) : Int) < 1 := by omega
  generalize hfw : r.lkd.few = fw at *
  generalize hal : r.lkd.all0 = al at *
  have hfw2 : ¬ ((r.L.length : Int) + r.R.length - 2 * P.length) < (fw : Int) := by omega
  have hfw0 : (0 : Int) ≤ fw := by omega
  clear hfw hal hfe mok mway mlen msh mml mmr hpp hpi mdn hz HM HY HB1
  have HB := Lib.hid (Box.fresh w2 r.cs 26)
  have HR := Lib.hid (show Gr w2 (w2.alloc (Obj.cells r.cs.toArray 26)) from Gr.alloc _ _)
  have HBR := HB
  unfold Rr.cs at HB HR
  dsimp only
  go_wp2_with fail
  obtain ⟨r0, r1, r2, r3, r4⟩ := cells5 HB.out
  have rl := HB.out.lt
  refine HK0.out _ _ ?_
  clear HK0
  apply wp_seq_k
  intro K0 hK0
  have HK0 := Lib.hid hK0
  clear hK0
  go_wp2_with (first | (go_at_call 18; clear r0 r1 r2 r3 r4 rl; (with_reducible refine (H18.out _ HR.out).mono ?_); rintro e w4 ⟨rfl, hb⟩; have HR := Lib.hid (HR.out.tr hb); have HB := Lib.hid (HB.out.grow hb); have HBR := Lib.hid (HBR.out.grow hb); obtain ⟨r0, r1, r2, r3, r4⟩ := cells5 HB.out; have rl := HB.out.lt; clear hb; dsimp only) | (go_at_call 20; clear r0 r1 r2 r3 r4 rl; (with_reducible refine (H20.out _ HR.out).mono ?_); rintro e w5 ⟨⟨v20, rfl⟩, hb⟩; have HR := Lib.hid (HR.out.tr hb); have HB := Lib.hid (HB.out.grow hb); have HBR := Lib.hid (HBR.out.grow hb); obtain ⟨r0, r1, r2, r3, r4⟩ := cells5 HB.out; have rl := HB.out.lt; clear hb; dsimp only) | (go_at_call 23; clear r0 r1 r2 r3 r4 rl; (with_reducible refine (H23.out _ HR.out).mono ?_); rintro e w6 ⟨⟨pc, kc, rfl, hC⟩, hb⟩; have HR := Lib.hid (HR.out.tr hb); have HB := Lib.hid (HB.out.grow hb); have HBR := Lib.hid (HBR.out.grow hb); obtain ⟨r0, r1, r2, r3, r4⟩ := cells5 HB.out; have rl := HB.out.lt; have HC := Lib.hid hC; clear hC; clear hb; dsimp only) | (go_at_call 25; clear r0 r1 r2 r3 r4 rl; (with_reducible refine (H25.out _ HR.out).mono ?_); rintro e w7 ⟨⟨ps, ks, rfl, hS⟩, hb⟩; have HR := Lib.hid (HR.out.tr hb); have HB := Lib.hid (HB.out.grow hb); have HBR := Lib.hid (HBR.out.grow hb); obtain ⟨r0, r1, r2, r3, r4⟩ := cells5 HB.out; have rl := HB.out.lt; have HS := Lib.hid hS; clear hS; have HC := Lib.hid (HC.out.grow hb); clear hb; dsimp only) | (go_at_call 27; clear r0 r1 r2 r3 r4 rl; (with_reducible refine (H27.out _ HR.out).mono ?_); rintro e w8 ⟨rfl, hb⟩; have HR := Lib.hid (HR.out.tr hb); have HB := Lib.hid (HB.out.grow hb); have HBR := Lib.hid (HBR.out.grow hb); obtain ⟨r0, r1, r2, r3, r4⟩ := cells5 HB.out; have rl := HB.out.lt; have HS := Lib.hid (HS.out.grow hb); have HC := Lib.hid (HC.out.grow hb); clear hb; dsimp only))
  refine HK0.out _ _ ?_
  clear HK0
  apply wp_seq_k
  intro K0 hK0
  have HK0 := Lib.hid hK0
  clear hK0
  go_wp2_with (first | (go_at_call 18; clear r0 r1 r2 r3 r4 rl; (with_reducible refine (H18.out _ HR.out).mono ?_); rintro e w4 ⟨rfl, hb⟩; have HR := Lib.hid (HR.out.tr hb); have HB := Lib.hid (HB.out.grow hb); have HBR := Lib.hid (HBR.out.grow hb); obtain ⟨r0, r1, r2, r3, r4⟩ := cells5 HB.out; have rl := HB.out.lt; clear hb; dsimp only) | (go_at_call 20; clear r0 r1 r2 r3 r4 rl; (with_reducible refine (H20.out _ HR.out).mono ?_); rintro e w5 ⟨⟨v20, rfl⟩, hb⟩; have HR := Lib.hid (HR.out.tr hb); have HB := Lib.hid (HB.out.grow hb); have HBR := Lib.hid (HBR.out.grow hb); obtain ⟨r0, r1, r2, r3, r4⟩ := cells5 HB.out; have rl := HB.out.lt; clear hb; dsimp only) | (go_at_call 23; clear r0 r1 r2 r3 r4 rl; (with_reducible refine (H23.out _ HR.out).mono ?_); rintro e w6 ⟨⟨pc, kc, rfl, hC⟩, hb⟩; have HR := Lib.hid (HR.out.tr hb); have HB := Lib.hid (HB.out.grow hb); have HBR := Lib.hid (HBR.out.grow hb); obtain ⟨r0, r1, r2, r3, r4⟩ := cells5 HB.out; have rl := HB.out.lt; have HC := Lib.hid hC; clear hC; clear hb; dsimp only) | (go_at_call 25; clear r0 r1 r2 r3 r4 rl; (with_reducible refine (H25.out _ HR.out).mono ?_); rintro e w7 ⟨⟨ps, ks, rfl, hS⟩, hb⟩; have HR := Lib.hid (HR.out.tr hb); have HB := Lib.hid (HB.out.grow hb); have HBR := Lib.hid (HBR.out.grow hb); obtain ⟨r0, r1, r2, r3, r4⟩ := cells5 HB.out; have rl := HB.out.lt; have HS := Lib.hid hS; clear hS; have HC := Lib.hid (HC.out.grow hb); clear hb; dsimp only) | (go_at_call 27; clear r0 r1 r2 r3 r4 rl; (with_reducible refine (H27.out _ HR.out).mono ?_); rintro e w8 ⟨rfl, hb⟩; have HR := Lib.hid (HR.out.tr hb); have HB := Lib.hid (HB.out.grow hb); have HBR := Lib.hid (HBR.out.grow hb); obtain ⟨r0, r1, r2, r3, r4⟩ := cells5 HB.out; have rl := HB.out.lt; have HS := Lib.hid (HS.out.grow hb); have HC := Lib.hid (HC.out.grow hb); clear hb; dsimp only))
  refine HK0.out _ _ ?_
  clear HK0
  apply wp_seq_k
  intro K0 hK0
  have HK0 := Lib.hid hK0
  clear hK0
  go_wp2_with (first | (go_at_call 18; clear r0 r1 r2 r3 r4 rl; (with_reducible refine (H18.out _ HR.out).mono ?_); rintro e w4 ⟨rfl, hb⟩; have HR := Lib.hid (HR.out.tr hb); have HB := Lib.hid (HB.out.grow hb); have HBR := Lib.hid (HBR.out.grow hb); obtain ⟨r0, r1, r2, r3, r4⟩ := cells5 HB.out; have rl := HB.out.lt; clear hb; dsimp only) | (go_at_call 20; clear r0 r1 r2 r3 r4 rl; (with_reducible refine (H20.out _ HR.out).mono ?_); rintro e w5 ⟨⟨v20, rfl⟩, hb⟩; have HR := Lib.hid (HR.out.tr hb); have HB := Lib.hid (HB.out.grow hb); have HBR := Lib.hid (HBR.out.grow hb); obtain ⟨r0, r1, r2, r3, r4⟩ := cells5 HB.out; have rl := HB.out.lt; clear hb; dsimp only) | (go_at_call 23; clear r0 r1 r2 r3 r4 rl; (with_reducible refine (H23.out _ HR.out).mono ?_); rintro e w6 ⟨⟨pc, kc, rfl, hC⟩, hb⟩; have HR := Lib.hid (HR.out.tr hb); have HB := Lib.hid (HB.out.grow hb); have HBR := Lib.hid (HBR.out.grow hb); obtain ⟨r0, r1, r2, r3, r4⟩ := cells5 HB.out; have rl := HB.out.lt; have HC := Lib.hid hC; clear hC; clear hb; dsimp only) | (go_at_call 25; clear r0 r1 r2 r3 r4 rl; (with_reducible refine (H25.out _ HR.out).mono ?_); rintro e w7 ⟨⟨ps, ks, rfl, hS⟩, hb⟩; have HR := Lib.hid (HR.out.tr hb); have HB := Lib.hid (HB.out.grow hb); have HBR := Lib.hid (HBR.out.grow hb); obtain ⟨r0, r1, r2, r3, r4⟩ := cells5 HB.out; have rl := HB.out.lt; have HS := Lib.hid hS; clear hS; have HC := Lib.hid (HC.out.grow hb); clear hb; dsimp only) | (go_at_call 27; clear r0 r1 r2 r3 r4 rl; (with_reducible refine (H27.out _ HR.out).mono ?_); rintro e w8 ⟨rfl, hb⟩; have HR := Lib.hid (HR.out.tr hb); have HB := Lib.hid (HB.out.grow hb); have HBR := Lib.hid (HBR.out.grow hb); obtain ⟨r0, r1, r2, r3, r4⟩ := cells5 HB.out; have rl := HB.out.lt; have HS := Lib.hid (HS.out.grow hb); have HC := Lib.hid (HC.out.grow hb); clear hb; dsimp only))
  refine HK0.out _ _ ?_
  clear HK0
  apply wp_seq_k
  intro K0 hK0
  have HK0 := Lib.hid hK0
  clear hK0
  go_wp2_with (first | (go_at_call 18; clear r0 r1 r2 r3 r4 rl; (with_reducible refine (H18.out _ HR.out).mono ?_); rintro e w4 ⟨rfl, hb⟩; have HR := Lib.hid (HR.out.tr hb); have HB := Lib.hid (HB.out.grow hb); have HBR := Lib.hid (HBR.out.grow hb); obtain ⟨r0, r1, r2, r3, r4⟩ := cells5 HB.out; have rl := HB.out.lt; clear hb; dsimp only) | (go_at_call 20; clear r0 r1 r2 r3 r4 rl; (with_reducible refine (H20.out _ HR.out).mono ?_); rintro e w5 ⟨⟨v20, rfl⟩, hb⟩; have HR := Lib.hid (HR.out.tr hb); have HB := Lib.hid (HB.out.grow hb); have HBR := Lib.hid (HBR.out.grow hb); obtain ⟨r0, r1, r2, r3, r4⟩ := cells5 HB.out; have rl := HB.out.lt; clear hb; dsimp only) | (go_at_call 23; clear r0 r1 r2 r3 r4 rl; (with_reducible refine (H23.out _ HR.out).mono ?_); rintro e w6 ⟨⟨pc, kc, rfl, hC⟩, hb⟩; have HR := Lib.hid (HR.out.tr hb); have HB := Lib.hid (HB.out.grow hb); have HBR := Lib.hid (HBR.out.grow hb); obtain ⟨r0, r1, r2, r3, r4⟩ := cells5 HB.out; have rl := HB.out.lt; have HC := Lib.hid hC; clear hC; clear hb; dsimp only) | (go_at_call 25; clear r0 r1 r2 r3 r4 rl; (with_reducible refine (H25.out _ HR.out).mono ?_); rintro e w7 ⟨⟨ps, ks, rfl, hS⟩, hb⟩; have HR := Lib.hid (HR.out.tr hb); have HB := Lib.hid (HB.out.grow hb); have HBR := Lib.hid (HBR.out.grow hb); obtain ⟨r0, r1, r2, r3, r4⟩ := cells5 HB.out; have rl := HB.out.lt; have HS := Lib.hid hS; clear hS; have HC := Lib.hid (HC.out.grow hb); clear hb; dsimp only) | (go_at_call 27; clear r0 r1 r2 r3 r4 rl; (with_reducible refine (H27.out _ HR.out).mono ?_); rintro e w8 ⟨rfl, hb⟩; have HR := Lib.hid (HR.out.tr hb); have HB := Lib.hid (HB.out.grow hb); have HBR := Lib.hid (HBR.out.grow hb); obtain ⟨r0, r1, r2, r3, r4⟩ := cells5 HB.out; have rl := HB.out.lt; have HS := Lib.hid (HS.out.grow hb); have HC := Lib.hid (HC.out.grow hb); clear hb; dsimp only))
  refine HK0.out _ _ ?_
  clear HK0
  apply wp_seq_k
  intro K0 hK0
  have HK0 := Lib.hid hK0
  clear hK0
  go_wp2_with (first | (go_at_call 18; clear r0 r1 r2 r3 r4 rl; (with_reducible refine (H18.out _ HR.out).mono ?_); rintro e w4 ⟨rfl, hb⟩; have HR := Lib.hid (HR.out.tr hb); have HB := Lib.hid (HB.out.grow hb); have HBR := Lib.hid (HBR.out.grow hb); obtain ⟨r0, r1, r2, r3, r4⟩ := cells5 HB.out; have rl := HB.out.lt; clear hb; dsimp only) | (go_at_call 20; clear r0 r1 r2 r3 r4 rl; (with_reducible refine (H20.out _ HR.out).mono ?_); rintro e w5 ⟨⟨v20, rfl⟩, hb⟩; have HR := Lib.hid (HR.out.tr hb); have HB := Lib.hid (HB.out.grow hb); have HBR := Lib.hid (HBR.out.grow hb); obtain ⟨r0, r1, r2, r3, r4⟩ := cells5 HB.out; have rl := HB.out.lt; clear hb; dsimp only) | (go_at_call 23; clear r0 r1 r2 r3 r4 rl; (with_reducible refine (H23.out _ HR.out).mono ?_); rintro e w6 ⟨⟨pc, kc, rfl, hC⟩, hb⟩; have HR := Lib.hid (HR.out.tr hb); have HB := Lib.hid (HB.out.grow hb); have HBR := Lib.hid (HBR.out.grow hb); obtain ⟨r0, r1, r2, r3, r4⟩ := cells5 HB.out; have rl := HB.out.lt; have HC := Lib.hid hC; clear hC; clear hb; dsimp only) | (go_at_call 25; clear r0 r1 r2 r3 r4 rl; (with_reducible refine (H25.out _ HR.out).mono ?_); rintro e w7 ⟨⟨ps, ks, rfl, hS⟩, hb⟩; have HR := Lib.hid (HR.out.tr hb); have HB := Lib.hid (HB.out.grow hb); have HBR := Lib.hid (HBR.out.grow hb); obtain ⟨r0, r1, r2, r3, r4⟩ := cells5 HB.out; have rl := HB.out.lt; have HS := Lib.hid hS; clear hS; have HC := Lib.hid (HC.out.grow hb); clear hb; dsimp only) | (go_at_call 27; clear r0 r1 r2 r3 r4 rl; (with_reducible refine (H27.out _ HR.out).mono ?_); rintro e w8 ⟨rfl, hb⟩; have HR := Lib.hid (HR.out.tr hb); have HB := Lib.hid (HB.out.grow hb); have HBR := Lib.hid (HBR.out.grow hb); obtain ⟨r0, r1, r2, r3, r4⟩ := cells5 HB.out; have rl := HB.out.lt; have HS := Lib.hid (HS.out.grow hb); have HC := Lib.hid (HC.out.grow hb); clear hb; dsimp only))
  refine HK0.out _ _ ?_
  clear HK0
  apply wp_seq_k
  intro K0 hK0
  have HK0 := Lib.hid hK0
  clear hK0
  go_wp2_with fail
  refine HK0.out _ _ ?_
  clear HK0
  apply wp_seq_k
  intro K0 hK0
  have HK0 := Lib.hid hK0
  clear hK0
  go_wp2_with fail
  refine HK0.out _ _ ?_
  clear HK0
  exact ltrue_row r P S w2.heap.size kpp kpi kc ks pp pi pc ps w w8 w8 HALL.out.1 HALL.out.2.1 HALL.out.2.2.1 HALL.out.2.2.2 HBR.out (HG2.out.tr HR.out) (HML.out.grow HR.out) (HMR.out.grow HR.out) (PrsIn.grw HPP.out HR.out) (IntsIn.grw HPI.out HR.out) HC.out HS.out

end Go.Proofs.Ytjlaoiimbhlafaa
