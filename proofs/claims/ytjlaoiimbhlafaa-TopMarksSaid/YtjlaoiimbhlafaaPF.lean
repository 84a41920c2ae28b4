import Derived.Test.YtjlaoiimbhlafaaPE
set_option linter.unusedVariables false
set_option linter.unusedSimpArgs false
section
namespace Go.Proofs.Ytjlaoiimbhlafaa
open Go.RowKit Go.Shelf

open MW
attribute [local go_sem] Oper.semAt_some run_store_func
set_option maxRecDepth 100000 in
set_option maxHeartbeats 2000000 in
theorem in72_any (n lo hi : Int) (w : World) :
    Calls Try.prog 72 #[.int .i64 n, .int .i64 lo, .int .i64 hi] w fun e w' => e = .returned (.bool (decide (lo ≤ n) && decide (n ≤ hi))) ∧ Below w.heap.size w w' := by
  cases h1 : decide (lo ≤ n) with
  | false =>
    go_enter Try.func72, Try.ntmps72
    go_wp2
    go_ret
    exact ⟨rfl, Below.refl _ _⟩
  | true =>
    go_enter Try.func72, Try.ntmps72
    go_wp2
    go_ret
    exact ⟨by simp, Below.refl _ _⟩
set_option maxRecDepth 100000 in
set_option maxHeartbeats 2000000 in
theorem span79_a (a b lo hi : Int) (w : World) (h1 : decide (lo ≤ a) = false) :
    Calls Try.prog 79 #[.agg #[.int .i64 a, .int .i64 b], .int .i64 lo, .int .i64 hi] w fun e w' => e = .returned (.bool false) ∧ Below w.heap.size w w' := by
  have HB := Lib.hid (Box.fresh w [.int .i64 a, .int .i64 b] 24)
  have z0 := HB.out.cell (i := 0) rfl
  have z1 := HB.out.cell (i := 1) rfl
  have zl := HB.out.lt
  have hd := Gr.alloc w (Obj.cells #[.int .i64 a, .int .i64 b] 24)
  have HD := Lib.hid hd
  clear hd
  go_enter Try.func79, Try.ntmps79
  go_wp2_with fail
  go_ret
  exact ⟨by simp, HD.out⟩
set_option maxRecDepth 100000 in
set_option maxHeartbeats 2000000 in
theorem span79_b (a b lo hi : Int) (w : World) (h1 : decide (lo ≤ a) = true) (h2 : decide (a ≤ b) = false) :
    Calls Try.prog 79 #[.agg #[.int .i64 a, .int .i64 b], .int .i64 lo, .int .i64 hi] w fun e w' => e = .returned (.bool false) ∧ Below w.heap.size w w' := by
  have HB := Lib.hid (Box.fresh w [.int .i64 a, .int .i64 b] 24)
  have z0 := HB.out.cell (i := 0) rfl
  have z1 := HB.out.cell (i := 1) rfl
  have zl := HB.out.lt
  have hd := Gr.alloc w (Obj.cells #[.int .i64 a, .int .i64 b] 24)
  have HD := Lib.hid hd
  clear hd
  go_enter Try.func79, Try.ntmps79
  go_wp2_with fail
  go_ret
  exact ⟨by simp, HD.out⟩
set_option maxRecDepth 100000 in
set_option maxHeartbeats 2000000 in
theorem span79_c (a b lo hi : Int) (w : World) (h1 : decide (lo ≤ a) = true) (h2 : decide (a ≤ b) = true) :
    Calls Try.prog 79 #[.agg #[.int .i64 a, .int .i64 b], .int .i64 lo, .int .i64 hi] w fun e w' => e = .returned (.bool (decide (b ≤ hi))) ∧ Below w.heap.size w w' := by
  have HB := Lib.hid (Box.fresh w [.int .i64 a, .int .i64 b] 24)
  have z0 := HB.out.cell (i := 0) rfl
  have z1 := HB.out.cell (i := 1) rfl
  have zl := HB.out.lt
  have hd := Gr.alloc w (Obj.cells #[.int .i64 a, .int .i64 b] 24)
  have HD := Lib.hid hd
  clear hd
  go_enter Try.func79, Try.ntmps79
  go_wp2_with fail
  go_ret
  exact ⟨by simp, HD.out⟩
theorem span79_any (a b lo hi : Int) (w : World) :
    Calls Try.prog 79 #[.agg #[.int .i64 a, .int .i64 b], .int .i64 lo, .int .i64 hi] w fun e w' => e = .returned (.bool (okS a b lo hi)) ∧ Below w.heap.size w w' := by
  unfold okS
  cases h1 : decide (lo ≤ a) with
  | false => rw [Bool.false_and, Bool.and_false]; exact span79_a a b lo hi w h1
  | true =>
    cases h2 : decide (a ≤ b) with
    | false => exact span79_b a b lo hi w h1 h2
    | true => exact span79_c a b lo hi w h1 h2
theorem okRow_no' {l : List Mrk} {n : Nat} {m : Mrk} (hm : l[n]? = some m) (hn : m.ok = false) : okRow l = false := by
  unfold okRow
  have : l.all Mrk.ok = false := by
    rw [List.all_eq_false]
    exact ⟨m, List.mem_of_getElem? hm, by simp [hn]⟩
  rw [this, Bool.and_false]
set_option maxRecDepth 100000 in
set_option maxHeartbeats 2000000 in
theorem row78_any (l : List Mrk) (p : Option Addr) (cap : Nat) (w : World) (hl : MksAt l p w) :
    Calls Try.prog 78 #[.slice p l.length cap] w fun e w' => e = .returned (.bool (okRow l)) ∧ Below w.heap.size w w' := by
  have HL := Lib.hid hl
  have hlen := hl.1
  clear hl
  go_enter Try.func78, Try.ntmps78
  go_wp2
  go_loopw [3] (fun t wr => ∃ n : Nat, n ≤ l.length ∧ t = .int .i64 n ∧ Hid (Gr w wr) ∧ Hid (∀ j m, j < n → l[j]? = some m → m.ok = true)) (fun t _ => (2000 - intOf t).toNat)
  case atStart => exact ⟨0, Nat.zero_le _, rfl, Lib.hid (Gr.same _), Lib.hid fun j m hj => absurd hj (by omega)⟩
  case round =>
    obtain ⟨n, hn, rfl, HG, HN⟩ := hrel
    by_cases hlt : n < l.length
    · have hd : (n : Int) < l.length := by omega
      obtain ⟨m, hm⟩ : ∃ m, l[n]? = some m := ⟨l[n], List.getElem?_eq_getElem hlt⟩
      obtain ⟨b, o, rfl, hb, z0, z1, z2, z3⟩ := (HL.out.grow HG.out).2 n m hm
      have HM := Lib.hid hm
      have H1 := Lib.hid (fun W => span79_any m.a m.b 0 65536 W)
      have H2 := Lib.hid (fun W => span79_any m.c m.d 0 1000 W)
      have HOK := Lib.hid (show m.ok = (okS m.a m.b 0 65536 && okS m.c m.d 0 1000) from rfl)
      clear hm
      cases ha : okS m.a m.b 0 65536 with
      | false =>
        rw [ha] at H1
        have hno : m.ok = false := by rw [HOK.out, ha]; rfl
        have HR := Lib.hid (okRow_no' HM.out hno)
        clear ha hno
        go_wp2_with (go_at_call 79; refine (H1.out _).mono ?_; rintro e w1 ⟨rfl, hb1⟩; have HG1 := Lib.hid (Gr.tr HG.out hb1); obtain ⟨hc, hf, hz⟩ := bcell hb1; have lb1 := hz _ hb; have z0 := (hc _ _ hb).trans z0; have z1 := (hc _ _ hb).trans z1; have z2 := (hc _ _ hb).trans z2; have z3 := (hc _ _ hb).trans z3; clear hb1 hc hf hz H1)
        go_ret
        exact ⟨by rw [HR.out]; rfl, HG1.out⟩
      | true =>
        cases hb' : okS m.c m.d 0 1000 with
        | false =>
          rw [ha] at H1
          rw [hb'] at H2
          have hno : m.ok = false := by rw [HOK.out, ha, hb']; rfl
          have HR := Lib.hid (okRow_no' HM.out hno)
          clear ha hb' hno
          go_wp2_with (first | (go_at_call 79; refine (H1.out _).mono ?_; rintro e w1 ⟨rfl, hb1⟩; have HG1 := Lib.hid (Gr.tr HG.out hb1); obtain ⟨hc, hf, hz⟩ := bcell hb1; have lb1 := hz _ hb; have z0 := (hc _ _ hb).trans z0; have z1 := (hc _ _ hb).trans z1; have z2 := (hc _ _ hb).trans z2; have z3 := (hc _ _ hb).trans z3; clear hb1 hc hf hz H1) | (go_at_call 79; refine (H2.out _).mono ?_; rintro e w2 ⟨rfl, hb2⟩; have HG2 := Lib.hid (Gr.tr HG1.out hb2); clear hb2))
          go_ret
          exact ⟨by rw [HR.out]; rfl, HG2.out⟩
        | true =>
          rw [ha] at H1
          rw [hb'] at H2
          have hyes : m.ok = true := by rw [HOK.out, ha, hb']; rfl
          have HY := Lib.hid hyes
          clear ha hb' hyes
          go_wp2_with (first | (go_at_call 79; refine (H1.out _).mono ?_; rintro e w1 ⟨rfl, hb1⟩; have HG1 := Lib.hid (Gr.tr HG.out hb1); obtain ⟨hc, hf, hz⟩ := bcell hb1; have lb1 := hz _ hb; have z0 := (hc _ _ hb).trans z0; have z1 := (hc _ _ hb).trans z1; have z2 := (hc _ _ hb).trans z2; have z3 := (hc _ _ hb).trans z3; clear hb1 hc hf hz H1) | (go_at_call 79; refine (H2.out _).mono ?_; rintro e w2 ⟨rfl, hb2⟩; have HG2 := Lib.hid (Gr.tr HG1.out hb2); clear hb2))
          refine ⟨⟨n + 1, by omega, by go_num, HG2, Lib.hid fun j m' hj hm' => ?_⟩, by simp [intOf]; omega⟩
          by_cases hjn : j = n
          · rw [hjn, HM.out] at hm'
            rw [← Option.some.inj hm']
            exact HY.out
          · exact HN.out j m' (by omega) hm'
    · have hin : n = l.length := by omega
      have hall : l.all Mrk.ok = true := by
        rw [List.all_eq_true]
        intro m hm
        obtain ⟨j, hj⟩ := List.getElem?_of_mem hm
        exact HN.out j m (by have := (List.getElem?_eq_some_iff.1 hj).1; omega) hj
      have HR := Lib.hid (show okRow l = decide (l.length ≤ 10) by unfold okRow; rw [hall, Bool.and_true])
      clear hall
      subst hin
      go_wp2_with fail
      go_ret
      exact ⟨by rw [HR.out]; first | (simp; done) | (simp; omega), HG.out⟩

end Go.Proofs.Ytjlaoiimbhlafaa
end
section
namespace Go.Proofs.Ytjlaoiimbhlafaa
open Go.RowKit Go.Shelf

open MW
attribute [local go_sem] Oper.semAt_some run_store_func
set_option maxRecDepth 100000 in
set_option maxHeartbeats 2000000 in
theorem rows38_0 (r : Rr) (w : World) (hl : MksAt r.L r.lp w) (hr : MksAt r.R r.rp w) (h0 : okRow r.L = false) :
    Calls Try.prog 38 #[r.val] w fun e w' => e = .returned (.bool false) ∧ Below w.heap.size w w' := by
  have HL := Lib.hid (fun W (hg : Gr w W) => row78_any r.L r.lp r.lc W (hl.grow hg))
  have HR := Lib.hid (fun W (hg : Gr w W) => row78_any r.R r.rp r.rc W (hr.grow hg))
  have HS := Lib.hid (fun W => span79_any r.s r.t (-65536) 65536 W)
  have HI := Lib.hid (fun W => in72_any r.h 0 20 W)
  rw [h0] at HL
  have HB := Lib.hid (Box.fresh w r.cs 26)
  have HG := Lib.hid (show Gr w (w.alloc (Obj.cells r.cs.toArray 26)) from Gr.alloc _ _)
  unfold Rr.cs at HB HG
  unfold Rr.val at *
  obtain ⟨r0, r1, r2, r3, r4⟩ := cells5 HB.out
  have rl := HB.out.lt
  clear hl hr h0
  go_enter Try.func38, Try.ntmps38
  go_wp2_with (first | (go_at_call 78; (with_reducible refine (HL.out _ HG.out).mono ?_); rintro e w1 ⟨rfl, hb⟩; have HG := Lib.hid (Gr.tr HG.out hb); have HB := Lib.hid (HB.out.grow hb); clear hb r0 r1 r2 r3 r4 rl; obtain ⟨r0, r1, r2, r3, r4⟩ := cells5 HB.out; have rl := HB.out.lt))
  go_ret
  exact ⟨rfl, HG.out⟩
set_option maxRecDepth 100000 in
set_option maxHeartbeats 2000000 in
theorem rows38_1 (r : Rr) (w : World) (hl : MksAt r.L r.lp w) (hr : MksAt r.R r.rp w) (h0 : okRow r.L = true) (h1 : okRow r.R = false) :
    Calls Try.prog 38 #[r.val] w fun e w' => e = .returned (.bool false) ∧ Below w.heap.size w w' := by
  have HL := Lib.hid (fun W (hg : Gr w W) => row78_any r.L r.lp r.lc W (hl.grow hg))
  have HR := Lib.hid (fun W (hg : Gr w W) => row78_any r.R r.rp r.rc W (hr.grow hg))
  have HS := Lib.hid (fun W => span79_any r.s r.t (-65536) 65536 W)
  have HI := Lib.hid (fun W => in72_any r.h 0 20 W)
  rw [h0] at HL
  rw [h1] at HR
  have HB := Lib.hid (Box.fresh w r.cs 26)
  have HG := Lib.hid (show Gr w (w.alloc (Obj.cells r.cs.toArray 26)) from Gr.alloc _ _)
  unfold Rr.cs at HB HG
  unfold Rr.val at *
  obtain ⟨r0, r1, r2, r3, r4⟩ := cells5 HB.out
  have rl := HB.out.lt
  clear hl hr h0 h1
  go_enter Try.func38, Try.ntmps38
  go_wp2_with (first | (go_at_call 78; (with_reducible refine (HL.out _ HG.out).mono ?_); rintro e w1 ⟨rfl, hb⟩; have HG := Lib.hid (Gr.tr HG.out hb); have HB := Lib.hid (HB.out.grow hb); clear hb r0 r1 r2 r3 r4 rl; obtain ⟨r0, r1, r2, r3, r4⟩ := cells5 HB.out; have rl := HB.out.lt) | (go_at_call 78; (with_reducible refine (HR.out _ HG.out).mono ?_); rintro e w2 ⟨rfl, hb⟩; have HG := Lib.hid (Gr.tr HG.out hb); have HB := Lib.hid (HB.out.grow hb); clear hb r0 r1 r2 r3 r4 rl; obtain ⟨r0, r1, r2, r3, r4⟩ := cells5 HB.out; have rl := HB.out.lt))
  go_ret
  exact ⟨rfl, HG.out⟩
set_option maxRecDepth 100000 in
set_option maxHeartbeats 2000000 in
theorem rows38_2 (r : Rr) (w : World) (hl : MksAt r.L r.lp w) (hr : MksAt r.R r.rp w) (h0 : okRow r.L = true) (h1 : okRow r.R = true) (h2 : okS r.s r.t (-65536) 65536 = false) :
    Calls Try.prog 38 #[r.val] w fun e w' => e = .returned (.bool false) ∧ Below w.heap.size w w' := by
  have HL := Lib.hid (fun W (hg : Gr w W) => row78_any r.L r.lp r.lc W (hl.grow hg))
  have HR := Lib.hid (fun W (hg : Gr w W) => row78_any r.R r.rp r.rc W (hr.grow hg))
  have HS := Lib.hid (fun W => span79_any r.s r.t (-65536) 65536 W)
  have HI := Lib.hid (fun W => in72_any r.h 0 20 W)
  rw [h0] at HL
  rw [h1] at HR
  rw [h2] at HS
  have HB := Lib.hid (Box.fresh w r.cs 26)
  have HG := Lib.hid (show Gr w (w.alloc (Obj.cells r.cs.toArray 26)) from Gr.alloc _ _)
  unfold Rr.cs at HB HG
  unfold Rr.val at *
  obtain ⟨r0, r1, r2, r3, r4⟩ := cells5 HB.out
  have rl := HB.out.lt
  clear hl hr h0 h1 h2
  go_enter Try.func38, Try.ntmps38
  go_wp2_with (first | (go_at_call 78; (with_reducible refine (HL.out _ HG.out).mono ?_); rintro e w1 ⟨rfl, hb⟩; have HG := Lib.hid (Gr.tr HG.out hb); have HB := Lib.hid (HB.out.grow hb); clear hb r0 r1 r2 r3 r4 rl; obtain ⟨r0, r1, r2, r3, r4⟩ := cells5 HB.out; have rl := HB.out.lt) | (go_at_call 78; (with_reducible refine (HR.out _ HG.out).mono ?_); rintro e w2 ⟨rfl, hb⟩; have HG := Lib.hid (Gr.tr HG.out hb); have HB := Lib.hid (HB.out.grow hb); clear hb r0 r1 r2 r3 r4 rl; obtain ⟨r0, r1, r2, r3, r4⟩ := cells5 HB.out; have rl := HB.out.lt) | (go_at_call 79; (with_reducible refine (HS.out _).mono ?_); rintro e w3 ⟨rfl, hb⟩; have HG := Lib.hid (Gr.tr HG.out hb); have HB := Lib.hid (HB.out.grow hb); clear hb r0 r1 r2 r3 r4 rl; obtain ⟨r0, r1, r2, r3, r4⟩ := cells5 HB.out; have rl := HB.out.lt))
  go_ret
  exact ⟨rfl, HG.out⟩
set_option maxRecDepth 100000 in
set_option maxHeartbeats 2000000 in
theorem rows38_3 (r : Rr) (w : World) (hl : MksAt r.L r.lp w) (hr : MksAt r.R r.rp w) (h0 : okRow r.L = true) (h1 : okRow r.R = true) (h2 : okS r.s r.t (-65536) 65536 = true) :
    Calls Try.prog 38 #[r.val] w fun e w' => e = .returned (.bool (decide (0 ≤ r.h) && decide (r.h ≤ 20))) ∧ Below w.heap.size w w' := by
  have HL := Lib.hid (fun W (hg : Gr w W) => row78_any r.L r.lp r.lc W (hl.grow hg))
  have HR := Lib.hid (fun W (hg : Gr w W) => row78_any r.R r.rp r.rc W (hr.grow hg))
  have HS := Lib.hid (fun W => span79_any r.s r.t (-65536) 65536 W)
  have HI := Lib.hid (fun W => in72_any r.h 0 20 W)
  rw [h0] at HL
  rw [h1] at HR
  rw [h2] at HS
  have HB := Lib.hid (Box.fresh w r.cs 26)
  have HG := Lib.hid (show Gr w (w.alloc (Obj.cells r.cs.toArray 26)) from Gr.alloc _ _)
  unfold Rr.cs at HB HG
  unfold Rr.val at *
  obtain ⟨r0, r1, r2, r3, r4⟩ := cells5 HB.out
  have rl := HB.out.lt
  clear hl hr h0 h1 h2
  go_enter Try.func38, Try.ntmps38
  go_wp2_with (first | (go_at_call 78; (with_reducible refine (HL.out _ HG.out).mono ?_); rintro e w1 ⟨rfl, hb⟩; have HG := Lib.hid (Gr.tr HG.out hb); have HB := Lib.hid (HB.out.grow hb); clear hb r0 r1 r2 r3 r4 rl; obtain ⟨r0, r1, r2, r3, r4⟩ := cells5 HB.out; have rl := HB.out.lt) | (go_at_call 78; (with_reducible refine (HR.out _ HG.out).mono ?_); rintro e w2 ⟨rfl, hb⟩; have HG := Lib.hid (Gr.tr HG.out hb); have HB := Lib.hid (HB.out.grow hb); clear hb r0 r1 r2 r3 r4 rl; obtain ⟨r0, r1, r2, r3, r4⟩ := cells5 HB.out; have rl := HB.out.lt) | (go_at_call 79; (with_reducible refine (HS.out _).mono ?_); rintro e w3 ⟨rfl, hb⟩; have HG := Lib.hid (Gr.tr HG.out hb); have HB := Lib.hid (HB.out.grow hb); clear hb r0 r1 r2 r3 r4 rl; obtain ⟨r0, r1, r2, r3, r4⟩ := cells5 HB.out; have rl := HB.out.lt) | (go_at_call 72; (with_reducible refine (HI.out _).mono ?_); rintro e w4 ⟨rfl, hb⟩; have HG := Lib.hid (Gr.tr HG.out hb); have HB := Lib.hid (HB.out.grow hb); clear hb r0 r1 r2 r3 r4 rl; obtain ⟨r0, r1, r2, r3, r4⟩ := cells5 HB.out; have rl := HB.out.lt))
  go_ret
  exact ⟨rfl, HG.out⟩
theorem rows38_any (r : Rr) (w : World) (hl : MksAt r.L r.lp w) (hr : MksAt r.R r.rp w) :
    Calls Try.prog 38 #[r.val] w fun e w' => e = .returned (.bool r.ok) ∧ Below w.heap.size w w' := by
  unfold Rr.ok
  cases h0 : okRow r.L with
  | false => simp only [Bool.false_and]; exact rows38_0 r w hl hr h0
  | true =>
    cases h1 : okRow r.R with
    | false => simp only [Bool.false_and, Bool.and_false]; exact rows38_1 r w hl hr h0 h1
    | true =>
      cases h2 : okS r.s r.t (-65536) 65536 with
      | false => simp only [Bool.false_and, Bool.and_false]; exact rows38_2 r w hl hr h0 h1 h2
      | true => simp only [Bool.true_and]; exact rows38_3 r w hl hr h0 h1 h2

end Go.Proofs.Ytjlaoiimbhlafaa
end
section
namespace Go.Proofs.Ytjlaoiimbhlafaa
open Go.RowKit Go.Shelf

open MW
attribute [local go_sem] Oper.semAt_some run_store_func
/-- What great says. -/
def Rr.great (r : Rr) (most : Nat) : Bool := decide (24 < r.L.length) || (decide (24 < r.R.length) || ((decide (most < r.L.length) || decide (most < r.R.length)) && r.ok))
set_option maxRecDepth 100000 in
set_option maxHeartbeats 2000000 in
theorem great_1 (r : Rr) (most : Nat) (w : World) (h0 : 24 < r.L.length) :
    Calls Try.prog 14 #[r.val, .int .i64 most] w fun e w' => e = .returned (.bool true) ∧ Below w.heap.size w w' := by
  have d1 : decide ((24 : Int) < (r.L.length : Int)) = true := by simp; omega
  have d1' : decide (24 < r.L.length) = true := by simp; omega
  clear h0
  have HB := Lib.hid (Box.fresh w r.cs 26)
  have HG := Lib.hid (show Gr w (w.alloc (Obj.cells r.cs.toArray 26)) from Gr.alloc _ _)
  unfold Rr.cs at HB HG
  unfold Rr.val at *
  obtain ⟨r0, r1, r2, r3, r4⟩ := cells5 HB.out
  have rl := HB.out.lt
  go_enter Try.func14, Try.ntmps14
  go_wp2_with fail
  go_ret
  exact ⟨rfl, HG.out⟩
set_option maxRecDepth 100000 in
set_option maxHeartbeats 2000000 in
theorem great_2 (r : Rr) (most : Nat) (w : World) (h0 : r.L.length ≤ 24) (h1 : 24 < r.R.length) :
    Calls Try.prog 14 #[r.val, .int .i64 most] w fun e w' => e = .returned (.bool true) ∧ Below w.heap.size w w' := by
  have d1 : decide ((24 : Int) < (r.L.length : Int)) = false := by simp; omega
  have d1' : decide (24 < r.L.length) = false := by simp; omega
  have d2 : decide ((24 : Int) < (r.R.length : Int)) = true := by simp; omega
  have d2' : decide (24 < r.R.length) = true := by simp; omega
  clear h0 h1
  have HB := Lib.hid (Box.fresh w r.cs 26)
  have HG := Lib.hid (show Gr w (w.alloc (Obj.cells r.cs.toArray 26)) from Gr.alloc _ _)
  unfold Rr.cs at HB HG
  unfold Rr.val at *
  obtain ⟨r0, r1, r2, r3, r4⟩ := cells5 HB.out
  have rl := HB.out.lt
  go_enter Try.func14, Try.ntmps14
  go_wp2_with fail
  go_ret
  exact ⟨rfl, HG.out⟩
set_option maxRecDepth 100000 in
set_option maxHeartbeats 2000000 in
theorem great_3 (r : Rr) (most : Nat) (w : World) (hl : MksAt r.L r.lp w) (hr : MksAt r.R r.rp w) (h0 : r.L.length ≤ 24) (h1 : r.R.length ≤ 24) (h2 : most < r.L.length) :
    Calls Try.prog 14 #[r.val, .int .i64 most] w fun e w' => e = .returned (.bool r.ok) ∧ Below w.heap.size w w' := by
  have HC := Lib.hid (fun W (hg : Gr w W) => rows38_any r W (hl.grow hg) (hr.grow hg))
  clear hl hr
  have d1 : decide ((24 : Int) < (r.L.length : Int)) = false := by simp; omega
  have d1' : decide (24 < r.L.length) = false := by simp; omega
  have d2 : decide ((24 : Int) < (r.R.length : Int)) = false := by simp; omega
  have d2' : decide (24 < r.R.length) = false := by simp; omega
  have d3 : decide ((most : Int) < (r.L.length : Int)) = true := by simp; omega
  have d3' : decide (most < r.L.length) = true := by simp; omega
  clear h0 h1 h2
  have HB := Lib.hid (Box.fresh w r.cs 26)
  have HG := Lib.hid (show Gr w (w.alloc (Obj.cells r.cs.toArray 26)) from Gr.alloc _ _)
  unfold Rr.cs at HB HG
  unfold Rr.val at *
  obtain ⟨r0, r1, r2, r3, r4⟩ := cells5 HB.out
  have rl := HB.out.lt
  go_enter Try.func14, Try.ntmps14
  go_wp2_with (go_at_call 38; refine (HC.out _ HG.out).mono ?_; rintro e w1 ⟨rfl, hb⟩; have HG := Lib.hid (Gr.tr HG.out hb); clear hb)
  go_ret
  exact ⟨rfl, HG.out⟩
set_option maxRecDepth 100000 in
set_option maxHeartbeats 2000000 in
theorem great_4 (r : Rr) (most : Nat) (w : World) (hl : MksAt r.L r.lp w) (hr : MksAt r.R r.rp w) (h0 : r.L.length ≤ 24) (h1 : r.R.length ≤ 24) (h2 : r.L.length ≤ most) (h3 : most < r.R.length) :
    Calls Try.prog 14 #[r.val, .int .i64 most] w fun e w' => e = .returned (.bool r.ok) ∧ Below w.heap.size w w' := by
  have HC := Lib.hid (fun W (hg : Gr w W) => rows38_any r W (hl.grow hg) (hr.grow hg))
  clear hl hr
  have d1 : decide ((24 : Int) < (r.L.length : Int)) = false := by simp; omega
  have d1' : decide (24 < r.L.length) = false := by simp; omega
  have d2 : decide ((24 : Int) < (r.R.length : Int)) = false := by simp; omega
  have d2' : decide (24 < r.R.length) = false := by simp; omega
  have d3 : decide ((most : Int) < (r.L.length : Int)) = false := by simp; omega
  have d3' : decide (most < r.L.length) = false := by simp; omega
  have d4 : decide ((most : Int) < (r.R.length : Int)) = true := by simp; omega
  have d4' : decide (most < r.R.length) = true := by simp; omega
  clear h0 h1 h2 h3
  have HB := Lib.hid (Box.fresh w r.cs 26)
  have HG := Lib.hid (show Gr w (w.alloc (Obj.cells r.cs.toArray 26)) from Gr.alloc _ _)
  unfold Rr.cs at HB HG
  unfold Rr.val at *
  obtain ⟨r0, r1, r2, r3, r4⟩ := cells5 HB.out
  have rl := HB.out.lt
  go_enter Try.func14, Try.ntmps14
  go_wp2_with (go_at_call 38; refine (HC.out _ HG.out).mono ?_; rintro e w1 ⟨rfl, hb⟩; have HG := Lib.hid (Gr.tr HG.out hb); clear hb)
  go_ret
  exact ⟨rfl, HG.out⟩
set_option maxRecDepth 100000 in
set_option maxHeartbeats 2000000 in
theorem great_5 (r : Rr) (most : Nat) (w : World) (h0 : r.L.length ≤ 24) (h1 : r.R.length ≤ 24) (h2 : r.L.length ≤ most) (h3 : r.R.length ≤ most) :
    Calls Try.prog 14 #[r.val, .int .i64 most] w fun e w' => e = .returned (.bool false) ∧ Below w.heap.size w w' := by
  have d1 : decide ((24 : Int) < (r.L.length : Int)) = false := by simp; omega
  have d1' : decide (24 < r.L.length) = false := by simp; omega
  have d2 : decide ((24 : Int) < (r.R.length : Int)) = false := by simp; omega
  have d2' : decide (24 < r.R.length) = false := by simp; omega
  have d3 : decide ((most : Int) < (r.L.length : Int)) = false := by simp; omega
  have d3' : decide (most < r.L.length) = false := by simp; omega
  have d4 : decide ((most : Int) < (r.R.length : Int)) = false := by simp; omega
  have d4' : decide (most < r.R.length) = false := by simp; omega
  clear h0 h1 h2 h3
  have HB := Lib.hid (Box.fresh w r.cs 26)
  have HG := Lib.hid (show Gr w (w.alloc (Obj.cells r.cs.toArray 26)) from Gr.alloc _ _)
  unfold Rr.cs at HB HG
  unfold Rr.val at *
  obtain ⟨r0, r1, r2, r3, r4⟩ := cells5 HB.out
  have rl := HB.out.lt
  go_enter Try.func14, Try.ntmps14
  go_wp2_with fail
  go_ret
  exact ⟨rfl, HG.out⟩
theorem great_any (r : Rr) (most : Nat) (w : World) (hl : r.L.length ≤ 24 → MksAt r.L r.lp w) (hr : r.R.length ≤ 24 → MksAt r.R r.rp w) :
    Calls Try.prog 14 #[r.val, .int .i64 most] w fun e w' => e = .returned (.bool (r.great most)) ∧ Below w.heap.size w w' := by
  unfold Rr.great
  by_cases h1 : 24 < r.L.length
  · rw [decide_eq_true h1, Bool.true_or]; exact great_1 r most w h1
  rw [decide_eq_false h1, Bool.false_or]
  by_cases h2 : 24 < r.R.length
  · rw [decide_eq_true h2, Bool.true_or]; exact great_2 r most w (by omega) h2
  rw [decide_eq_false h2, Bool.false_or]
  by_cases h3 : most < r.L.length
  · rw [decide_eq_true h3, Bool.true_or, Bool.true_and]; exact great_3 r most w (hl (by omega)) (hr (by omega)) (by omega) (by omega) h3
  rw [decide_eq_false h3, Bool.false_or]
  by_cases h4 : most < r.R.length
  · rw [decide_eq_true h4, Bool.true_and]; exact great_4 r most w (hl (by omega)) (hr (by omega)) (by omega) (by omega) (by omega) h4
  rw [decide_eq_false h4, Bool.false_and]
  exact great_5 r most w (by omega) (by omega) (by omega) (by omega)

end Go.Proofs.Ytjlaoiimbhlafaa
end
section
namespace Go.Proofs.Ytjlaoiimbhlafaa
open Go.RowKit Go.Shelf

open MW
attribute [local go_sem] Oper.semAt_some run_store_func
theorem isM_in (i : Int) (n : Nat) : (decide (0 ≤ i) && decide (i ≤ (n : Int) - 1)) = isM i n := by
  unfold isM
  congr 1
  rw [decide_eq_decide]
  omega
set_option maxRecDepth 100000 in
set_option maxHeartbeats 2000000 in
theorem marks50_a (r : Rr) (i j : Int) (w : World) (hL : r.L.length ≤ 1000) (hR : r.R.length ≤ 1000) (h : isM i r.L.length = false) :
    Calls Try.prog 50 #[r.val, .int .i64 i, .int .i64 j] w fun e w' => e = .returned (.bool false) ∧ Below w.heap.size w w' := by
  have H1 := Lib.hid (fun W => in72_any i 0 ((r.L.length : Int) - 1) W)
  have H2 := Lib.hid (fun W => in72_any j 0 ((r.R.length : Int) - 1) W)
  rw [isM_in] at H1 H2
  rw [h] at H1
  have HB := Lib.hid (Box.fresh w r.cs 26)
  have HG := Lib.hid (show Gr w (w.alloc (Obj.cells r.cs.toArray 26)) from Gr.alloc _ _)
  unfold Rr.cs at HB HG
  unfold Rr.val at *
  obtain ⟨r0, r1, r2, r3, r4⟩ := cells5 HB.out
  have rl := HB.out.lt
  clear h
  go_enter Try.func50, Try.ntmps50
  go_wp2_with (first | (go_at_call 72; (with_reducible refine (H1.out _).mono ?_); rintro e w1 ⟨rfl, hb⟩; have HG := Lib.hid (Gr.tr HG.out hb); have HB := Lib.hid (HB.out.grow hb); clear hb r0 r1 r2 r3 r4 rl; obtain ⟨r0, r1, r2, r3, r4⟩ := cells5 HB.out; have rl := HB.out.lt))
  go_ret
  exact ⟨rfl, HG.out⟩
set_option maxRecDepth 100000 in
set_option maxHeartbeats 2000000 in
theorem marks50_b (r : Rr) (i j : Int) (w : World) (hL : r.L.length ≤ 1000) (hR : r.R.length ≤ 1000) (h : isM i r.L.length = true) :
    Calls Try.prog 50 #[r.val, .int .i64 i, .int .i64 j] w fun e w' => e = .returned (.bool (isM j r.R.length)) ∧ Below w.heap.size w w' := by
  have H1 := Lib.hid (fun W => in72_any i 0 ((r.L.length : Int) - 1) W)
  have H2 := Lib.hid (fun W => in72_any j 0 ((r.R.length : Int) - 1) W)
  rw [isM_in] at H1 H2
  rw [h] at H1
  have HB := Lib.hid (Box.fresh w r.cs 26)
  have HG := Lib.hid (show Gr w (w.alloc (Obj.cells r.cs.toArray 26)) from Gr.alloc _ _)
  unfold Rr.cs at HB HG
  unfold Rr.val at *
  obtain ⟨r0, r1, r2, r3, r4⟩ := cells5 HB.out
  have rl := HB.out.lt
  clear h
  go_enter Try.func50, Try.ntmps50
  go_wp2_with (first | (go_at_call 72; (with_reducible refine (H1.out _).mono ?_); rintro e w1 ⟨rfl, hb⟩; have HG := Lib.hid (Gr.tr HG.out hb); have HB := Lib.hid (HB.out.grow hb); clear hb r0 r1 r2 r3 r4 rl; obtain ⟨r0, r1, r2, r3, r4⟩ := cells5 HB.out; have rl := HB.out.lt) | (go_at_call 72; (with_reducible refine (H2.out _).mono ?_); rintro e w2 ⟨rfl, hb⟩; have HG := Lib.hid (Gr.tr HG.out hb); have HB := Lib.hid (HB.out.grow hb); clear hb r0 r1 r2 r3 r4 rl; obtain ⟨r0, r1, r2, r3, r4⟩ := cells5 HB.out; have rl := HB.out.lt))
  go_ret
  exact ⟨rfl, HG.out⟩
theorem marks50_any (r : Rr) (i j : Int) (w : World) (hL : r.L.length ≤ 1000) (hR : r.R.length ≤ 1000) :
    Calls Try.prog 50 #[r.val, .int .i64 i, .int .i64 j] w fun e w' => e = .returned (.bool (isM i r.L.length && isM j r.R.length)) ∧ Below w.heap.size w w' := by
  cases h : isM i r.L.length with
  | false => exact marks50_a r i j w hL hR h
  | true => rw [Bool.true_and]; exact marks50_b r i j w hL hR h
set_option maxRecDepth 100000 in
set_option maxHeartbeats 2000000 in
theorem hidden58_any (r : Rr) (p : Option Addr) (n c : Nat) (w : World) (hL : r.L.length ≤ 1000) (hR : r.R.length ≤ 1000) (hn : n ≤ 1000) :
    Calls Try.prog 58 #[r.val, .slice p n c] w fun e w' => e = .returned (.int .i64 ((r.L.length : Int) + r.R.length - 2 * n)) ∧ Below w.heap.size w w' := by
  have HB := Lib.hid (Box.fresh w r.cs 26)
  have HG := Lib.hid (show Gr w (w.alloc (Obj.cells r.cs.toArray 26)) from Gr.alloc _ _)
  unfold Rr.cs at HB HG
  unfold Rr.val at *
  obtain ⟨r0, r1, r2, r3, r4⟩ := cells5 HB.out
  have rl := HB.out.lt
  go_enter Try.func58, Try.ntmps58
  go_wp2_with fail
  go_ret
  exact ⟨rfl, HG.out⟩

end Go.Proofs.Ytjlaoiimbhlafaa
end
section
namespace Go.Proofs.Ytjlaoiimbhlafaa
open Go.RowKit Go.Shelf

open MW
attribute [local go_sem] Oper.semAt_some run_store_func
set_option maxRecDepth 100000 in
set_option maxHeartbeats 2000000 in
theorem common80_any (a b c d : Int) (w : World) :
    Calls Try.prog 80 #[spV a b, spV c d] w fun e w' => e = .returned (spV (mxI a c) (mnI b d)) ∧ Below w.heap.size w w' := by
  have h1 : (if a < c then c else a) = mxI a c := rfl
  have h2 : (if d < b then d else b) = mnI b d := rfl
  have h3 : max a c = mxI a c := by unfold mxI; omega
  have h4 : min b d = mnI b d := by unfold mnI; omega
  generalize mxI a c = x at *
  generalize mnI b d = y at *
  unfold spV at *
  go_enter Try.func80, Try.ntmps80
  go_wp2_with fail
  have HZ : Box (((w.alloc (Obj.cells #[.int .i64 a, .int .i64 b] 24)).alloc (Obj.cells #[.int .i64 c, .int .i64 d] 24)).alloc (Obj.cells #[.int .i64 x, .int .i64 y] 24)) (w.heap.size + 1 + 1) [.int .i64 x, .int .i64 y] 24 := by
    have := Box.fresh ((w.alloc (Obj.cells #[.int .i64 a, .int .i64 b] 24)).alloc (Obj.cells #[.int .i64 c, .int .i64 d] 24)) [.int .i64 x, .int .i64 y] 24
    simpa using this
  have HB : Below w.heap.size w (((w.alloc (Obj.cells #[.int .i64 a, .int .i64 b] 24)).alloc (Obj.cells #[.int .i64 c, .int .i64 d] 24)).alloc (Obj.cells #[.int .i64 x, .int .i64 y] 24)) := ((Gr.alloc _ _).tr (Gr.alloc _ _)).tr (Gr.alloc _ _)
  generalize ((w.alloc (Obj.cells #[.int .i64 a, .int .i64 b] 24)).alloc (Obj.cells #[.int .i64 c, .int .i64 d] 24)).alloc (Obj.cells #[.int .i64 x, .int .i64 y] 24) = wz at *
  have y0 := HZ.cell (i := 0) rfl
  have y1 := HZ.cell (i := 1) rfl
  exact bodyPost_ret (v := .agg #[.int .i64 x, .int .i64 y]) (by simp [results, Try.f80, go_sem, y0, y1]) rfl ⟨rfl, HB⟩

end Go.Proofs.Ytjlaoiimbhlafaa
end
