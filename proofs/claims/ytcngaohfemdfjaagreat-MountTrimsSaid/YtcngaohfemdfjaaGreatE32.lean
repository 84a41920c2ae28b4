import Derived.Test.YtcngaohfemdfjaaGreatE28
import Derived.Test.YtcngaohfemdfjaaGreatE29
import Derived.Test.YtcngaohfemdfjaaGreatE30
import Derived.Test.YtcngaohfemdfjaaGreatE31
set_option linter.unusedVariables false
set_option linter.unusedSimpArgs false
set_option maxRecDepth 100000
set_option maxHeartbeats 60000000
namespace Go.Proofs.YtcngaohfemdfjaaGreat
open Go.RowKit
def Cd.seenA (k : Cd) : Int × Int := if k.err [] = 0 then ((setTo k.p.sees : Nat), 0) else (0, k.err [])
def Cd.hurtsA (k : Cd) (u : Cu) : Int × Int × Int :=
  if k.err [u] = 0 then (if (⟨k, 0, u⟩ : Tm).first k.p.sees = (0, 0) then (0, 0, 0) else (((⟨k, 0, u⟩ : Tm).first k.p.sees).1, ((⟨k, 0, u⟩ : Tm).first k.p.sees).2, 11)) else (0, 0, k.err [u])
def Cd.trimA (k : Cd) : Cu × Int := if k.err [] = 0 then (match k.trim with | some u => (u, 0) | none => (⟨0, 0, 0, 0⟩, 11)) else (⟨0, 0, 0, 0⟩, k.err [])
def Cd.whyA (k : Cd) : Int × Int × Int × Int := if k.err [] = 0 then (match k.trim with | some _ => (0, 0, 0, 0) | none => (k.obst.1, k.obst.2.1, k.obst.2.2, 11)) else (0, 0, 0, k.err [])
def Cd.eyesA (k : Cd) (u : Cu) : Int × Int × Int := if k.err [u] = 0 then (⟨k, 0, u⟩ : Tm).eyes else (0, 0, k.err [u])
def Cd.roomA (k : Cd) (u : Cu) : Int × Int × Int := if k.err [u] = 0 then (⟨k, 0, u⟩ : Tm).room else (0, 0, k.err [u])
def Cd.deepA (k : Cd) (u : Cu) : Int × Int × Int := if k.err [u] = 0 then (if (⟨k, 0, u⟩ : Tm).room.2.2 = 0 then k.deepS (⟨k, 0, u⟩ : Tm).room.1 (⟨k, 0, u⟩ : Tm).room.2.1 else (0, 0, (⟨k, 0, u⟩ : Tm).room.2.2)) else (0, 0, k.err [u])
theorem Seen_any (k : Cd) (w : World) (hT : TsA k.p.l (.slice k.sp k.p.l.length k.cap) w) :
    Calls Tryz.prog 14 #[.agg k.cs.toArray] w fun e w' => e = .returned (.tuple #[.int .i64 k.seenA.1, .int .i64 k.seenA.2]) ∧ Below w.heap.size w w' := by
  unfold Cd.seenA
  by_cases h : k.err [] = 0
  · rw [if_pos h]
    exact Seen_ok k w hT h
  · rw [if_neg h]
    exact Seen_no k w hT rfl h
theorem Hurts_any (k : Cd) (u : Cu) (w : World) (hT : TsA k.p.l (.slice k.sp k.p.l.length k.cap) w) :
    Calls Tryz.prog 16 #[.agg k.cs.toArray, u.val] w fun e w' => e = .returned (.tuple #[.int .i64 (k.hurtsA u).1, .int .i64 (k.hurtsA u).2.1, .int .i64 (k.hurtsA u).2.2]) ∧ Below w.heap.size w w' := by
  unfold Cd.hurtsA
  by_cases h : k.err [u] = 0
  · rw [if_pos h]
    by_cases hf : (⟨k, 0, u⟩ : Tm).first k.p.sees = (0, 0)
    · rw [if_pos hf]
      exact Hurts_not k u w hT h hf ⟨rfl, rfl⟩
    · rw [if_neg hf]
      exact Hurts_yes k u w hT h rfl (fun hc => hf (Prod.ext hc.1 hc.2))
  · rw [if_neg h]
    exact Hurts_no k u w hT rfl h
theorem Trim_any (k : Cd) (w : World) (hT : TsA k.p.l (.slice k.sp k.p.l.length k.cap) w) :
    Calls Tryz.prog 25 #[.agg k.cs.toArray] w fun e w' => e = .returned (.tuple #[k.trimA.1.val, .int .i64 k.trimA.2]) ∧ Below w.heap.size w w' := by
  unfold Cd.trimA
  by_cases h : k.err [] = 0
  · rw [if_pos h]
    cases ht : k.trim with
    | some u => exact Trim_ok k w hT h (Pr.sees_ok (Cd.err_zero h).1) (Pr.len_ok (Cd.err_zero h).1) ht
    | none => exact Trim_none k w hT h (Pr.sees_ok (Cd.err_zero h).1) (Pr.len_ok (Cd.err_zero h).1) ht
  · rw [if_neg h]
    exact Trim_no k w hT rfl h
theorem Why_any (k : Cd) (w : World) (hT : TsA k.p.l (.slice k.sp k.p.l.length k.cap) w) :
    Calls Tryz.prog 27 #[.agg k.cs.toArray] w fun e w' => e = .returned (.tuple #[.int .i64 k.whyA.1, .int .i64 k.whyA.2.1, .int .i64 k.whyA.2.2.1, .int .i64 k.whyA.2.2.2]) ∧ Below w.heap.size w w' := by
  unfold Cd.whyA
  by_cases h : k.err [] = 0
  · rw [if_pos h]
    cases ht : k.trim with
    | some u => exact Why_ok k w hT h (Pr.sees_ok (Cd.err_zero h).1) (Pr.len_ok (Cd.err_zero h).1) ht
    | none => exact Why_none k w hT h (Pr.sees_ok (Cd.err_zero h).1) (Pr.len_ok (Cd.err_zero h).1) ht rfl
  · rw [if_neg h]
    exact Why_no k w hT rfl h
theorem Eyes_any (k : Cd) (u : Cu) (w : World) (hT : TsA k.p.l (.slice k.sp k.p.l.length k.cap) w) :
    Calls Tryz.prog 18 #[.agg k.cs.toArray, u.val] w fun e w' => e = .returned (.tuple #[.agg #[.int .i64 (k.eyesA u).1, .int .i64 (k.eyesA u).2.1], .int .i64 (k.eyesA u).2.2]) ∧ Below w.heap.size w w' := by
  unfold Cd.eyesA
  by_cases h : k.err [u] = 0
  · rw [if_pos h]
    exact Eyes_ok k u w hT h rfl
  · rw [if_neg h]
    exact Eyes_no k u w hT rfl h
theorem Room_any (k : Cd) (u : Cu) (w : World) (hT : TsA k.p.l (.slice k.sp k.p.l.length k.cap) w) :
    Calls Tryz.prog 20 #[.agg k.cs.toArray, u.val] w fun e w' => e = .returned (.tuple #[.agg #[.int .i64 (k.roomA u).1, .int .i64 (k.roomA u).2.1], .int .i64 (k.roomA u).2.2]) ∧ Below w.heap.size w w' := by
  unfold Cd.roomA
  by_cases h : k.err [u] = 0
  · rw [if_pos h]
    exact Room_ok k u w hT h rfl
  · rw [if_neg h]
    exact Room_no k u w hT rfl h
theorem Depths_any (k : Cd) (u : Cu) (w : World) (hT : TsA k.p.l (.slice k.sp k.p.l.length k.cap) w) :
    Calls Tryz.prog 22 #[.agg k.cs.toArray, u.val] w fun e w' => e = .returned (.tuple #[.agg #[.int .i64 (k.deepA u).1, .int .i64 (k.deepA u).2.1], .int .i64 (k.deepA u).2.2]) ∧ Below w.heap.size w w' := by
  unfold Cd.deepA
  by_cases h : k.err [u] = 0
  · rw [if_pos h]
    by_cases hr : (⟨k, 0, u⟩ : Tm).room.2.2 = 0
    · rw [if_pos hr]
      exact Depths_deep k u w hT h (Prod.ext rfl (Prod.ext rfl hr))
    · rw [if_neg hr]
      exact Depths_none k u w hT h rfl hr
  · rw [if_neg h]
    exact Depths_no k u w hT rfl h
def farC (sp : Option Addr) (cap : Nat) : Cd := ⟨smp, sp, cap, 3200, 50, 20, 6000, 6500, 300, 900, 50, 80⟩
theorem smp_seen (sp : Option Addr) (cap : Nat) : (smpC sp cap).seenA = (3, 0) := by kernel_rfl
theorem smp_hurts (sp : Option Addr) (cap : Nat) : (smpC sp cap).hurtsA ⟨2, 0, 0, 2⟩ = (1, 2, 11) := by kernel_rfl
theorem smp_trim (sp : Option Addr) (cap : Nat) : (smpC sp cap).trimA = (⟨2, 1, 0, 3⟩, 0) := by kernel_rfl
theorem far_why (sp : Option Addr) (cap : Nat) : (farC sp cap).whyA = (2, 0, 1, 11) := by kernel_rfl
theorem smp_eyes (sp : Option Addr) (cap : Nat) : (smpC sp cap).eyesA ⟨2, 1, 0, 3⟩ = (5992, 7053, 0) := by kernel_rfl
theorem smp_room (sp : Option Addr) (cap : Nat) : (smpC sp cap).roomA ⟨2, 1, 0, 3⟩ = (50, 200, 0) := by kernel_rfl
theorem smp_deep (sp : Option Addr) (cap : Nat) : (smpC sp cap).deepA ⟨2, 1, 0, 3⟩ = (2956, 11700, 0) := by kernel_rfl
end Go.Proofs.YtcngaohfemdfjaaGreat
