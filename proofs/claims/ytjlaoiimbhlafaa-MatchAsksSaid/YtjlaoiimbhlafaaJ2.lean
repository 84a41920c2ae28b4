import Derived.Test.YtjlaoiimbhlafaaJ1
import Derived.Test.YtjlaoiimbhlafaaW1
import Derived.Deep.RegionHeld3
import Derived.Deep.CutBlock
import Derived.Deep.DeepCutAuto
import Derived.Laws.StructEq
import Derived.Deep.AppendLies
set_option linter.unusedVariables false
set_option linter.unusedSimpArgs false
namespace Go.Proofs.Ytjlaoiimbhlafaa
open Go.RowKit Go.Shelf

open MW
attribute [local go_sem] Oper.semAt_some run_store_func
attribute [local go_sem ↓] Go.wp_at_zero Go.wp_at_succ
def Code.snd3 : Code → Code
  | .seq _ b => b
  | c => c
/-- What a call of the recursion gives. -/
def WsPost (r : Rr) (w0 W : World) (l : List (List (Nat × Nat))) (b : List (Nat × Nat)) (i k : Nat) (e : Ending) (W' : World) : Prop :=
  (∃ o', e = .returned o' ∧ OutAt w0.heap.size o' (l ++ wl r.fitm r.L.length r.R.length r.h b i k) W') ∧ Gr w0 W' ∧ Kp W W'
def WsOk (r : Rr) (w0 : World) (i : Nat) : Prop := ∀ (k : Nat) (b : List (Nat × Nat)) (v : Value) (l : List (List (Nat × Nat))) (o : Value) (W : World), k ≤ r.R.length → Gr w0 W → Pz v b W → b.length ≤ i → OutAt w0.heap.size o l W →
  (l ++ wl r.fitm r.L.length r.R.length r.h b i k).length ≤ 1000000 → Calls Try.prog 99 #[r.val, v, .int .i64 i, .int .i64 k, o] W (WsPost r w0 W l b i k)

end Go.Proofs.Ytjlaoiimbhlafaa
