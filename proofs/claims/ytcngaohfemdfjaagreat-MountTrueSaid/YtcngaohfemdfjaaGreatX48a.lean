import Derived.Test.YtcngaohfemdfjaaGreatY34
import Derived.Test.YtcngaohfemdfjaaGreatY33
import Derived.Test.YtcngaohfemdfjaaGreatX44
import Derived.Test.YtcngaohfemdfjaaGreatXg
import Derived.Test.YtcngaohfemdfjaaGreatX45
import Derived.Test.YtcngaohfemdfjaaGreatX46a
import Derived.Test.YtcngaohfemdfjaaGreatX48
import Derived.Test.YtcngaohfemdfjaaGreatY06
import Derived.RegionTactic
import Derived.Deep.QuietTactic
import Derived.BigQuiet
set_option linter.unusedVariables false
set_option linter.unusedSimpArgs false
namespace Go.Proofs.YtcngaohfemdfjaaGreat
open Go.RowKit
set_option maxRecDepth 100000 in
set_option maxHeartbeats 2000000 in
theorem ltrue_many (k : Cd) (v : Value) (w : World) (hl : 40 < k.p.l.length) :
    Calls Tryz.prog 5 #[.agg k.cs.toArray, v] w fun e w' => e = .returned (.bool true) ∧ Below w.heap.size w w' := by
  have d : decide (40 < (k.p.l.length : Int)) = true := by simp; omega
  have d' : decide (40 < k.p.l.length) = true := by simp; omega
  clear hl
  have p7 : ∀ h : 7 < k.cs.length, k.cs[7] = .slice k.sp k.p.l.length k.cap := fun _ => rfl
  have p10 : ∀ h : 10 < k.cs.length, k.cs[10] = .int .i64 k.cuts := fun _ => rfl
  have hl : k.cs.length = 17 := rfl
  go_enter Tryz.func5, Tryz.ntmps5
  go_wp2_with fail
  refine (awake_any _).mono ?_
  rintro e wz ⟨rfl, hbz⟩
  go_wp2
  exact bodyPost_ret (v := .bool true) (by simp [results, Tryz.results5, go_sem]) rfl ⟨rfl, Gr.tr (Gr.alloc _ _) hbz⟩
set_option maxRecDepth 100000 in
set_option maxHeartbeats 2000000 in
theorem ltrue_none (k : Cd) (sa : Option Addr) (cap : Nat) (w : World) (hl : k.p.l.length ≤ 40) :
    Calls Tryz.prog 5 #[.agg k.cs.toArray, .slice sa 0 cap] w fun e w' => e = .returned (.bool true) ∧ Below w.heap.size w w' := by
  have d : decide (40 < (k.p.l.length : Int)) = false := by simp; omega
  have d' : decide (40 < k.p.l.length) = false := by simp; omega
  clear hl
  have p7 : ∀ h : 7 < k.cs.length, k.cs[7] = .slice k.sp k.p.l.length k.cap := fun _ => rfl
  have p10 : ∀ h : 10 < k.cs.length, k.cs[10] = .int .i64 k.cuts := fun _ => rfl
  have hl : k.cs.length = 17 := rfl
  go_enter Tryz.func5, Tryz.ntmps5
  go_wp2_with fail
  refine (awake_any _).mono ?_
  rintro e wz ⟨rfl, hbz⟩
  go_wp2
  exact bodyPost_ret (v := .bool true) (by simp [results, Tryz.results5, go_sem]) rfl ⟨rfl, Gr.tr (Gr.alloc _ _) hbz⟩
set_option maxRecDepth 100000 in
set_option maxHeartbeats 2000000 in
theorem ltrue_cuts (k : Cd) (sa : Option Addr) (len cap : Nat) (hy : 0 < len) (w : World) (hl : k.p.l.length ≤ 40) (hT : ThingsAt k.p.l (.slice k.sp k.p.l.length k.cap) w) (hc : Hid ((k.okc && k.p.ok) = true)) (hn : 20 < k.cuts) :
    Calls Tryz.prog 5 #[.agg k.cs.toArray, .slice sa len cap] w fun e w' => e = .returned (.bool true) ∧ Below w.heap.size w w' := by
  have d : decide (40 < (k.p.l.length : Int)) = false := by simp; omega
  have d' : decide (40 < k.p.l.length) = false := by simp; omega
  have x1 : ((len : Int) == 0) = false := by simp; omega
  have x2 : (len == 0) = false := by simp; omega
  have y1 : decide (20 < k.cuts) = true := by simpa using hn
  have HT := Lib.hid hT
  clear hl hT
  have p7 : ∀ h : 7 < k.cs.length, k.cs[7] = .slice k.sp k.p.l.length k.cap := fun _ => rfl
  have p10 : ∀ h : 10 < k.cs.length, k.cs[10] = .int .i64 k.cuts := fun _ => rfl
  have hl : k.cs.length = 17 := rfl
  have HB := Lib.hid (Box.fresh w k.cs 28)
  go_enter Tryz.func5, Tryz.ntmps5
  go_wp2_with (first | (with_reducible refine wpList_stopLoad (ty := 28) rfl ?_; unfold Stop; first | refine wpList_loadBox row28 rfl (HB.out) rfl rfl rfl ?_ | refine wpList_loadPartG row28 rfl (HB.out) (Cd.whole k) rfl rfl rfl ?_))
  refine (card_is (b := true) hc.out (ThingsAt.lasts _ _ _ _ HT.out (Gr.alloc _ _))).mono ?_
  rintro e w1 ⟨rfl, hb1⟩
  go_wp2_with fail
  refine (awake_any _).mono ?_
  rintro e wz ⟨rfl, hbz⟩
  go_wp2
  exact bodyPost_ret (v := .bool true) (by simp [results, Tryz.results5, go_sem]) rfl ⟨rfl, Gr.tr ((Gr.alloc _ _).tr hb1) hbz⟩
set_option maxRecDepth 100000 in
set_option maxHeartbeats 4000000 in
theorem ltrue_err_few (k : Cd) (sa : Option Addr) (len cap : Nat) (hy : 0 < len) (w : World) (hl : k.p.l.length ≤ 40) (hT : ThingsAt k.p.l (.slice k.sp k.p.l.length k.cap) w) (hn : k.cuts ≤ 20) (x y f : Int) (hx : (x != 0) = true) (hxy : (y == x) = true ∨ ((y == x) = false ∧ (x == 11) = true ∧ (y == 0) = true)) (ht : Hid (k.trimA = (⟨0, 0, 0, 0⟩, x))) (hs : Hid (k.seenA = (f, y))) :
    Calls Tryz.prog 5 #[.agg k.cs.toArray, .slice sa len cap] w fun e w' => e = .returned (.bool true) ∧ Below w.heap.size w w' := by
  have d : decide (40 < (k.p.l.length : Int)) = false := by simp; omega
  have d' : decide (40 < k.p.l.length) = false := by simp; omega
  have x1 : ((len : Int) == 0) = false := by simp; omega
  have x2 : (len == 0) = false := by simp; omega
  have y1 : decide (20 < k.cuts) = false := by simpa using hn
  have HT := Lib.hid hT
  clear hl hT
  have p7 : ∀ h : 7 < k.cs.length, k.cs[7] = .slice k.sp k.p.l.length k.cap := fun _ => rfl
  have p10 : ∀ h : 10 < k.cs.length, k.cs[10] = .int .i64 k.cuts := fun _ => rfl
  have hl : k.cs.length = 17 := rfl
  have HB := Lib.hid (Box.fresh w k.cs 28)
  go_enter Tryz.func5, Tryz.ntmps5
  have HG1 := Lib.hid (Gr.alloc w (Obj.cells k.cs.toArray 28))
  have HB1 := Lib.hid HB.out
  go_wp2_with (first | (with_reducible refine wpList_stopLoad (ty := 28) rfl ?_; unfold Stop; first | refine wpList_loadBox row28 rfl (HB1.out) rfl rfl rfl ?_ | refine wpList_loadPartG row28 rfl (HB1.out) (Cd.whole k) rfl rfl rfl ?_))
  refine (mtrim_is ht.out (ThingsAt.lasts _ _ _ _ HT.out HG1.out)).mono ?_
  rintro e w2 ⟨rfl, hb2⟩
  have HB2 := Lib.hid ((HB1.out.grow hb2).grow (Gr.alloc w2 (Obj.cells #[.int .i64 0, .int .i64 0, .int .i64 0, .int .i64 0] 30)))
  have HG2 := Lib.hid ((HG1.out.tr hb2).tr (Gr.alloc w2 (Obj.cells #[.int .i64 0, .int .i64 0, .int .i64 0, .int .i64 0] 30)))
  have HZ2 := Lib.hid (Box.fresh w2 [.int .i64 0, .int .i64 0, .int .i64 0, .int .i64 0] 30)
  clear hb2
  go_wp2_with (first | (with_reducible refine wpList_stopLoad (ty := 28) rfl ?_; unfold Stop; first | refine wpList_loadBox row28 rfl (HB2.out) rfl rfl rfl ?_ | refine wpList_loadPartG row28 rfl (HB2.out) (Cd.whole k) rfl rfl rfl ?_))
  refine (seen_is hs.out (ThingsAt.lasts _ _ _ _ HT.out HG2.out)).mono ?_
  rintro e w3 ⟨rfl, hb3⟩
  have HG3 := Lib.hid (HG2.out.tr hb3)
  have hz3 := HZ2.out.grow hb3
  have z0 := hz3.cell (i := 0) rfl
  have z1 := hz3.cell (i := 1) rfl
  have z2 := hz3.cell (i := 2) rfl
  have z3 := hz3.cell (i := 3) rfl
  have zl := hz3.lt
  clear hb3 hz3
  rcases hxy with hxy | ⟨hxy, hx1, hx2⟩
  all_goals
    go_wp2_with fail
    refine (awake_any _).mono ?_
    rintro e wz ⟨rfl, hbz⟩
    go_wp2
    exact bodyPost_ret (v := .bool true) (by simp [results, Tryz.results5, go_sem]) rfl ⟨rfl, Gr.tr HG3.out hbz⟩
set_option maxRecDepth 100000 in
set_option maxHeartbeats 4000000 in
theorem ltrue_err_none (k : Cd) (sa : Option Addr) (len cap : Nat) (hy : 0 < len) (w : World) (hl : k.p.l.length ≤ 40) (hT : ThingsAt k.p.l (.slice k.sp k.p.l.length k.cap) w) (hn : 20 < k.cuts) (hc : Hid ((k.okc && k.p.ok) = false)) (x y f : Int) (hx : (x != 0) = true) (hxy : (y == x) = true ∨ ((y == x) = false ∧ (x == 11) = true ∧ (y == 0) = true)) (ht : Hid (k.trimA = (⟨0, 0, 0, 0⟩, x))) (hs : Hid (k.seenA = (f, y))) :
    Calls Tryz.prog 5 #[.agg k.cs.toArray, .slice sa len cap] w fun e w' => e = .returned (.bool true) ∧ Below w.heap.size w w' := by
  have d : decide (40 < (k.p.l.length : Int)) = false := by simp; omega
  have d' : decide (40 < k.p.l.length) = false := by simp; omega
  have x1 : ((len : Int) == 0) = false := by simp; omega
  have x2 : (len == 0) = false := by simp; omega
  have y1 : decide (20 < k.cuts) = true := by simpa using hn
  have HT := Lib.hid hT
  clear hl hT
  have p7 : ∀ h : 7 < k.cs.length, k.cs[7] = .slice k.sp k.p.l.length k.cap := fun _ => rfl
  have p10 : ∀ h : 10 < k.cs.length, k.cs[10] = .int .i64 k.cuts := fun _ => rfl
  have hl : k.cs.length = 17 := rfl
  have HB := Lib.hid (Box.fresh w k.cs 28)
  go_enter Tryz.func5, Tryz.ntmps5
  go_wp2_with (first | (with_reducible refine wpList_stopLoad (ty := 28) rfl ?_; unfold Stop; first | refine wpList_loadBox row28 rfl (HB.out) rfl rfl rfl ?_ | refine wpList_loadPartG row28 rfl (HB.out) (Cd.whole k) rfl rfl rfl ?_))
  refine (card_is (b := false) hc.out (ThingsAt.lasts _ _ _ _ HT.out (Gr.alloc _ _))).mono ?_
  rintro e w1 ⟨rfl, hb1⟩
  have HG1 := Lib.hid ((Gr.alloc w (Obj.cells k.cs.toArray 28)).tr hb1)
  have HB1 := Lib.hid (HB.out.grow hb1)
  clear hb1
  go_wp2_with (first | (with_reducible refine wpList_stopLoad (ty := 28) rfl ?_; unfold Stop; first | refine wpList_loadBox row28 rfl (HB1.out) rfl rfl rfl ?_ | refine wpList_loadPartG row28 rfl (HB1.out) (Cd.whole k) rfl rfl rfl ?_))
  refine (mtrim_is ht.out (ThingsAt.lasts _ _ _ _ HT.out HG1.out)).mono ?_
  rintro e w2 ⟨rfl, hb2⟩
  have HB2 := Lib.hid ((HB1.out.grow hb2).grow (Gr.alloc w2 (Obj.cells #[.int .i64 0, .int .i64 0, .int .i64 0, .int .i64 0] 30)))
  have HG2 := Lib.hid ((HG1.out.tr hb2).tr (Gr.alloc w2 (Obj.cells #[.int .i64 0, .int .i64 0, .int .i64 0, .int .i64 0] 30)))
  have HZ2 := Lib.hid (Box.fresh w2 [.int .i64 0, .int .i64 0, .int .i64 0, .int .i64 0] 30)
  clear hb2
  go_wp2_with (first | (with_reducible refine wpList_stopLoad (ty := 28) rfl ?_; unfold Stop; first | refine wpList_loadBox row28 rfl (HB2.out) rfl rfl rfl ?_ | refine wpList_loadPartG row28 rfl (HB2.out) (Cd.whole k) rfl rfl rfl ?_))
  refine (seen_is hs.out (ThingsAt.lasts _ _ _ _ HT.out HG2.out)).mono ?_
  rintro e w3 ⟨rfl, hb3⟩
  have HG3 := Lib.hid (HG2.out.tr hb3)
  have hz3 := HZ2.out.grow hb3
  have z0 := hz3.cell (i := 0) rfl
  have z1 := hz3.cell (i := 1) rfl
  have z2 := hz3.cell (i := 2) rfl
  have z3 := hz3.cell (i := 3) rfl
  have zl := hz3.lt
  clear hb3 hz3
  rcases hxy with hxy | ⟨hxy, hx1, hx2⟩
  all_goals
    go_wp2_with fail
    refine (awake_any _).mono ?_
    rintro e wz ⟨rfl, hbz⟩
    go_wp2
    exact bodyPost_ret (v := .bool true) (by simp [results, Tryz.results5, go_sem]) rfl ⟨rfl, Gr.tr HG3.out hbz⟩
end Go.Proofs.YtcngaohfemdfjaaGreat
