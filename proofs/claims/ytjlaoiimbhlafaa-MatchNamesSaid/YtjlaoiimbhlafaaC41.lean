import Derived.Test.YtjlaoiimbhlafaaC40
set_option linter.unusedVariables false
set_option linter.unusedSimpArgs false
namespace Go.Proofs.Ytjlaoiimbhlafaa
open Go.RowKit Go.Shelf

open MW
theorem smp_ok (bL bR : Nat) : (smp bL bR).ok = true := by kernel_rfl
theorem smp_all0 (bL bR : Nat) : (smp bL bR).lkd.all0 = 2 := by kernel_rfl
theorem smp_fits20 (bL bR : Nat) : (smp bL bR).fits 2 0 = (false, 0) := by kernel_rfl
theorem smp_fits00 (bL bR : Nat) : (smp bL bR).fits 0 0 = (true, 0) := by kernel_rfl
theorem smp_counted (bL bR : Nat) : (smp bL bR).counted = (2, 0) := by kernel_rfl
theorem smp_fewest (bL bR : Nat) : (smp bL bR).fewest = ([(0, 0), (1, 1), (2, 2)], 1, 0) := by kernel_rfl
theorem smp_can (bL bR : Nat) : (smp bL bR).can = ([1, 2, 12], 0) := by kernel_rfl
theorem smp_surely (bL bR : Nat) : (smp bL bR).surely = ([0, 1, -1], 0) := by kernel_rfl
theorem smp_shift2 (bL bR : Nat) : (smp bL bR).shift 2 = (6, 20, 0) := by kernel_rfl
theorem smp_shift0 (bL bR : Nat) : (smp bL bR).shift 0 = (8, 12, 0) := by kernel_rfl
theorem smp_ask (bL bR : Nat) : (smp bL bR).ask = (2, 1, 0) := by kernel_rfl
theorem smp_hides (bL bR : Nat) : (smp bL bR).hides = (0, 12, 0) := by kernel_rfl

end Go.Proofs.Ytjlaoiimbhlafaa
