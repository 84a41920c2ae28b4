import Derived.Test.YtcngaohfemdfjaaGreatY34
import Derived.Test.YtcngaohfemdfjaaGreatY33
import Derived.Test.YtcngaohfemdfjaaGreatX44
import Derived.Test.YtcngaohfemdfjaaGreatXg
import Derived.Test.YtcngaohfemdfjaaGreatX45
import Derived.RegionTactic
set_option linter.unusedVariables false
set_option linter.unusedSimpArgs false
namespace Go.Proofs.YtcngaohfemdfjaaGreat
open Go.RowKit
set_option maxRecDepth 100000 in
set_option maxHeartbeats 2000000 in
theorem least_many (k : Cd) (v : Value) (w : World) (hl : 40 < k.p.l.length) :
    Calls Tryz.prog 6 #[.agg k.cs.toArray, v] w fun e w' => e = .returned (.bool true) ∧ Below w.heap.size w w' := by
  have d : decide (40 < (k.p.l.length : Int)) = true := by simp; omega
  have d' : decide (40 < k.p.l.length) = true := by simp; omega
  clear hl
  have p7 : ∀ h : 7 < k.cs.length, k.cs[7] = .slice k.sp k.p.l.length k.cap := fun _ => rfl
  have p10 : ∀ h : 10 < k.cs.length, k.cs[10] = .int .i64 k.cuts := fun _ => rfl
  have hl : k.cs.length = 17 := rfl
  go_enter Tryz.func6, Tryz.ntmps6
  go_wp2_with fail
  refine (awake_any _).mono ?_
  rintro e wz ⟨rfl, hbz⟩
  go_wp2
  exact bodyPost_ret (v := .bool true) (by simp [results, Tryz.results6, go_sem]) rfl ⟨rfl, Gr.tr (Gr.alloc _ _) hbz⟩
set_option maxRecDepth 100000 in
set_option maxHeartbeats 2000000 in
theorem least_none (k : Cd) (sa : Option Addr) (cap : Nat) (w : World) (hl : k.p.l.length ≤ 40) :
    Calls Tryz.prog 6 #[.agg k.cs.toArray, .slice sa 0 cap] w fun e w' => e = .returned (.bool true) ∧ Below w.heap.size w w' := by
  have d : decide (40 < (k.p.l.length : Int)) = false := by simp; omega
  have d' : decide (40 < k.p.l.length) = false := by simp; omega
  clear hl
  have p7 : ∀ h : 7 < k.cs.length, k.cs[7] = .slice k.sp k.p.l.length k.cap := fun _ => rfl
  have p10 : ∀ h : 10 < k.cs.length, k.cs[10] = .int .i64 k.cuts := fun _ => rfl
  have hl : k.cs.length = 17 := rfl
  go_enter Tryz.func6, Tryz.ntmps6
  go_wp2_with fail
  refine (awake_any _).mono ?_
  rintro e wz ⟨rfl, hbz⟩
  go_wp2
  exact bodyPost_ret (v := .bool true) (by simp [results, Tryz.results6, go_sem]) rfl ⟨rfl, Gr.tr (Gr.alloc _ _) hbz⟩
set_option maxRecDepth 100000 in
set_option maxHeartbeats 2000000 in
theorem least_card (k : Cd) (sa : Option Addr) (len cap : Nat) (hy : 0 < len) (w : World) (hl : k.p.l.length ≤ 40) (hT : ThingsAt k.p.l (.slice k.sp k.p.l.length k.cap) w) (hc : Hid ((k.okc && k.p.ok) = false)) :
    Calls Tryz.prog 6 #[.agg k.cs.toArray, .slice sa len cap] w fun e w' => e = .returned (.bool true) ∧ Below w.heap.size w w' := by
  have d : decide (40 < (k.p.l.length : Int)) = false := by simp; omega
  have d' : decide (40 < k.p.l.length) = false := by simp; omega
  have x1 : ((len : Int) == 0) = false := by simp; omega
  have x2 : (len == 0) = false := by simp; omega
  have HT := Lib.hid hT
  clear hl hT
  have p7 : ∀ h : 7 < k.cs.length, k.cs[7] = .slice k.sp k.p.l.length k.cap := fun _ => rfl
  have p10 : ∀ h : 10 < k.cs.length, k.cs[10] = .int .i64 k.cuts := fun _ => rfl
  have hl : k.cs.length = 17 := rfl
  have HB := Lib.hid (Box.fresh w k.cs 28)
  go_enter Tryz.func6, Tryz.ntmps6
  go_wp2_with (first | (with_reducible refine wpList_stopLoad (ty := 28) rfl ?_; unfold Stop; first | refine wpList_loadBox row28 rfl (HB.out) rfl rfl rfl ?_ | refine wpList_loadPartG row28 rfl (HB.out) (Cd.whole k) rfl rfl rfl ?_))
  refine (card_is (b := false) hc.out (ThingsAt.lasts _ _ _ _ HT.out (Gr.alloc _ _))).mono ?_
  rintro e w1 ⟨rfl, hb1⟩
  go_wp2_with fail
  refine (awake_any _).mono ?_
  rintro e wz ⟨rfl, hbz⟩
  go_wp2
  exact bodyPost_ret (v := .bool true) (by simp [results, Tryz.results6, go_sem]) rfl ⟨rfl, Gr.tr ((Gr.alloc _ _).tr hb1) hbz⟩
set_option maxRecDepth 100000 in
set_option maxHeartbeats 2000000 in
theorem least_cuts (k : Cd) (sa : Option Addr) (len cap : Nat) (hy : 0 < len) (w : World) (hl : k.p.l.length ≤ 40) (hT : ThingsAt k.p.l (.slice k.sp k.p.l.length k.cap) w) (hc : Hid ((k.okc && k.p.ok) = true)) (hn : 20 < k.cuts) :
    Calls Tryz.prog 6 #[.agg k.cs.toArray, .slice sa len cap] w fun e w' => e = .returned (.bool true) ∧ Below w.heap.size w w' := by
  have d : decide (40 < (k.p.l.length : Int)) = false := by simp; omega
  have d' : decide (40 < k.p.l.length) = false := by simp; omega
  have x1 : ((len : Int) == 0) = false := by simp; omega
  have x2 : (len == 0) = false := by simp; omega
  have y1 : decide (20 < k.cuts) = true := by simpa using hn
  have HT := Lib.hid hT
  clear hl hT
  have p7 : ∀ h : 7 < k.cs.length, k.cs[7] = .slice k.sp k.p.l.length k.cap := fun _ => rfl
  have p10 : ∀ h : 10 < k.cs.length, k.cs[10] = .int .i64 k.cuts := fun _ => rfl
  have hl : k.cs.length = 17 := rfl
  have HB := Lib.hid (Box.fresh w k.cs 28)
  go_enter Tryz.func6, Tryz.ntmps6
  go_wp2_with (first | (with_reducible refine wpList_stopLoad (ty := 28) rfl ?_; unfold Stop; first | refine wpList_loadBox row28 rfl (HB.out) rfl rfl rfl ?_ | refine wpList_loadPartG row28 rfl (HB.out) (Cd.whole k) rfl rfl rfl ?_))
  refine (card_is (b := true) hc.out (ThingsAt.lasts _ _ _ _ HT.out (Gr.alloc _ _))).mono ?_
  rintro e w1 ⟨rfl, hb1⟩
  have hc10 := (HB.out.grow hb1).cell (i := 10) rfl
  have hcl := (HB.out.grow hb1).lt
  go_wp2_with fail
  refine (awake_any _).mono ?_
  rintro e wz ⟨rfl, hbz⟩
  go_wp2
  exact bodyPost_ret (v := .bool true) (by simp [results, Tryz.results6, go_sem]) rfl ⟨rfl, Gr.tr ((Gr.alloc _ _).tr hb1) hbz⟩
set_option maxRecDepth 100000 in
set_option maxHeartbeats 4000000 in
theorem least_err (k : Cd) (b o len cap : Nat) (w : World) (hl : k.p.l.length ≤ 40) (hT : ThingsAt k.p.l (.slice k.sp k.p.l.length k.cap) w) (hy : ByIn b o len w) (hc : Hid ((k.okc && k.p.ok) = true)) (hn : k.cuts ≤ 20) (ht : Hid (k.trimA = (⟨0, 0, 0, 0⟩, 4))) :
    Calls Tryz.prog 6 #[.agg k.cs.toArray, .slice (some ⟨b, o, none⟩) len cap] w fun e w' => e = .returned (.bool true) ∧ Below w.heap.size w w' := by
  have d : decide (40 < (k.p.l.length : Int)) = false := by simp; omega
  have d' : decide (40 < k.p.l.length) = false := by simp; omega
  have x1 : ((len : Int) == 0) = false := by have := hy.1; simp; omega
  have x2 : (len == 0) = false := by have := hy.1; simp; omega
  have y1 : decide (20 < k.cuts) = false := by simpa using hn
  have HT := Lib.hid hT
  have HY := Lib.hid hy
  clear hl hT hy
  have p7 : ∀ h : 7 < k.cs.length, k.cs[7] = .slice k.sp k.p.l.length k.cap := fun _ => rfl
  have p10 : ∀ h : 10 < k.cs.length, k.cs[10] = .int .i64 k.cuts := fun _ => rfl
  have hl : k.cs.length = 17 := rfl
  have HB := Lib.hid (Box.fresh w k.cs 28)
  go_enter Tryz.func6, Tryz.ntmps6
  go_wp2_with (first | (with_reducible refine wpList_stopLoad (ty := 28) rfl ?_; unfold Stop; first | refine wpList_loadBox row28 rfl (HB.out) rfl rfl rfl ?_ | refine wpList_loadPartG row28 rfl (HB.out) (Cd.whole k) rfl rfl rfl ?_))
  refine (card_is (b := true) hc.out (ThingsAt.lasts _ _ _ _ HT.out (Gr.alloc _ _))).mono ?_
  rintro e w1 ⟨rfl, hb1⟩
  have HB1 := Lib.hid (HB.out.grow hb1)
  have hc10 := HB1.out.cell (i := 10) rfl
  have hcl := HB1.out.lt
  have HG1 := Lib.hid ((Gr.alloc w (Obj.cells k.cs.toArray 28)).tr hb1)
  clear hb1
  go_wp2_with (first | (with_reducible refine wpList_stopLoad (ty := 28) rfl ?_; unfold Stop; first | refine wpList_loadBox row28 rfl (HB1.out) rfl rfl rfl ?_ | refine wpList_loadPartG row28 rfl (HB1.out) (Cd.whole k) rfl rfl rfl ?_))
  refine (mtrim_is ht.out (ThingsAt.lasts _ _ _ _ HT.out HG1.out)).mono ?_
  rintro e w2 ⟨rfl, hb2⟩
  have HB2 := Lib.hid (HB1.out.grow hb2)
  have HG2 := Lib.hid (HG1.out.tr hb2)
  clear hb2 hc10
  go_wp2_with fail
  refine (awake_any _).mono ?_
  rintro e wz ⟨rfl, hbz⟩
  go_wp2
  exact bodyPost_ret (v := .bool true) (by simp [results, Tryz.results6, go_sem]) rfl ⟨rfl, Gr.tr (Gr.tr HG2.out (Gr.alloc _ _)) hbz⟩
end Go.Proofs.YtcngaohfemdfjaaGreat
