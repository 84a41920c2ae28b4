import Derived.Test.YtcngaohfemdfjaaGreatY34
import Derived.Test.YtcngaohfemdfjaaGreatY33
import Derived.Test.YtcngaohfemdfjaaGreatY06
import Derived.RegionTactic
import Derived.Test.YtcngaohfemdfjaaGreatX39
import Derived.Test.YtcngaohfemdfjaaGreatX40
set_option linter.unusedVariables false
set_option linter.unusedSimpArgs false
namespace Go.Proofs.YtcngaohfemdfjaaGreat
open Go.RowKit
theorem spanin_is {a b c d : Int} {v : Bool} {w : World} (h : (decide (c ≤ a) && decide (b ≤ d)) = v) :
    Calls Tryz.prog 37 #[.agg #[.int .i64 a, .int .i64 b], .agg #[.int .i64 c, .int .i64 d]] w fun e w' => e = .returned (.bool v) ∧ Below w.heap.size w w' := by
  rw [← h]; exact spanin_any a b c d w
end Go.Proofs.YtcngaohfemdfjaaGreat
