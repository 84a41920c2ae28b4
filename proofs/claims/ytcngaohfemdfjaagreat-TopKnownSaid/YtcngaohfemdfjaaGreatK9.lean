import Derived.BigQuiet
import Derived.ChangeAlike
import Derived.Deep.AppendLies
import Derived.Deep.CutBlock
import Derived.Deep.DeepCutAuto
import Derived.Deep.Slices
import Derived.Deep.Strs
import Derived.Defers
import Derived.Laws.CopyOwn
import Derived.Laws.EntriesVeiled
import Derived.Laws.Pointers
import Derived.Laws.Rows
import Derived.Laws.StructEq
import Derived.Laws.Tables
import Derived.Lib.Hide
import Derived.Lib.SmallJoins
import Derived.LoopIn
import Derived.LoopN
import Derived.LoopNIn
import Derived.MapKept
import Derived.OrdersIn
import Derived.OwnWalkIn
import Derived.ProofKit
import Derived.RangeFuncBound
import Derived.RangeFuncCalls
import Derived.RangeFuncFrom
import Derived.RangeFuncLeaves
import Derived.RangeFuncNested
import Derived.Recover
import Derived.RegionTactic
import Derived.Shelf.Abstract
import Derived.Shelf.RegionOpen
import Derived.ShutString
import Derived.StillTail
import Derived.TacticsInMore
import Derived.Test.YtcngaohfemdfjaaGreatRows
import Derived.WalkKit
import Derived.WalkLawsBesides
import Derived.WalkMore
import Derived.WalkSpells
import Derived.Test.YtcngaohfemdfjaaGreatY05
import Derived.Test.YtcngaohfemdfjaaGreatY06
import Derived.Test.YtcngaohfemdfjaaGreatY07
import Derived.Test.YtcngaohfemdfjaaGreatY13
import Derived.Test.YtcngaohfemdfjaaGreatY24
import Derived.Test.YtcngaohfemdfjaaGreatY26
import Derived.Test.YtcngaohfemdfjaaGreatY28
import Derived.Test.YtcngaohfemdfjaaGreatY32
import Derived.Test.YtcngaohfemdfjaaGreatZ00
import Derived.Test.YtcngaohfemdfjaaGreatZ02
import Derived.Test.YtcngaohfemdfjaaGreatZ06
import Derived.Test.YtcngaohfemdfjaaGreatZ07
import Derived.Test.YtcngaohfemdfjaaGreatZ13
set_option linter.unusedVariables false
set_option linter.unusedSimpArgs false
namespace Go.Proofs.YtcngaohfemdfjaaGreat
open Go.RowKit
def SmpV (v : Value) (W : World) : Prop := ∃ sp cap, v = .agg (smpC sp cap).cs.toArray ∧ ThingsAt smp.l (.slice sp 6 cap) W
theorem SmpV.lasts : Lasts SmpV := fun _ _ _ ⟨sp, cap, h1, h2⟩ hg => ⟨sp, cap, h1, ThingsAt.lasts _ _ _ _ h2 hg⟩
theorem store_card (w : World) (vs : List Value) (hl : vs.length = 17) (h1 : vs.all (·.oneCell') = true) : ∃ W, (storeCells ⟨w.heap.size, 0, none⟩ vs).run Tryz.prog (w.alloc (Obj.cells #[.int .i64 0, .int .i64 0, .int .i64 0, .int .i64 0, .int .i64 0, .int .i64 0, .int .i64 0, .slice none 0 0, .int .i64 0, .int .i64 0, .int .i64 0, .int .i64 0, .int .i64 0, .int .i64 0, .int .i64 0, .int .i64 0, .int .i64 0] 28)) = .ok () W ∧ Box W w.heap.size vs 28 ∧ Gr w W :=
  ⟨_, run_storeBox (Box.fresh w zero28 28) hl.symm h1, (Box.fresh w zero28 28).row, Only.gr (Only.row _ _) (Gr.alloc _ _) (Nat.le_refl _)⟩
end Go.Proofs.YtcngaohfemdfjaaGreat
namespace Go.Proofs.YtcngaohfemdfjaaGreat
open Go.RowKit
theorem World.size_alloc (w : World) (o : Obj) : (w.alloc o).heap.size = w.heap.size + 1 := by simp
theorem eyes_is {k : Cd} {u : Cu} {x y e : Int} {w : World} (h : k.eyesA u = (x, y, e)) (hT : ThingsAt k.p.l (.slice k.sp k.p.l.length k.cap) w) :
    Calls Tryz.prog 18 #[.agg k.cs.toArray, .agg #[.int .i64 u.a, .int .i64 u.b, .int .i64 u.c, .int .i64 u.d]] w fun e' w' => e' = .returned (.tuple #[.agg #[.int .i64 x, .int .i64 y], .int .i64 e]) ∧ Below w.heap.size w w' := by
  have := Eyes_any k u w hT
  rw [h] at this
  exact this
theorem hurts_is {k : Cd} {u : Cu} {x y e : Int} {w : World} (h : k.hurtsA u = (x, y, e)) (hT : ThingsAt k.p.l (.slice k.sp k.p.l.length k.cap) w) :
    Calls Tryz.prog 16 #[.agg k.cs.toArray, .agg #[.int .i64 u.a, .int .i64 u.b, .int .i64 u.c, .int .i64 u.d]] w fun e' w' => e' = .returned (.tuple #[.int .i64 x, .int .i64 y, .int .i64 e]) ∧ Below w.heap.size w w' := by
  have := Hurts_any k u w hT
  rw [h] at this
  exact this
theorem seen_is {k : Cd} {x e : Int} {w : World} (h : k.seenA = (x, e)) (hT : ThingsAt k.p.l (.slice k.sp k.p.l.length k.cap) w) :
    Calls Tryz.prog 14 #[.agg k.cs.toArray] w fun e' w' => e' = .returned (.tuple #[.int .i64 x, .int .i64 e]) ∧ Below w.heap.size w w' := by
  have := Seen_any k w hT
  rw [h] at this
  exact this
theorem card_is {k : Cd} {b : Bool} {w : World} (h : (k.okc && k.p.ok) = b) (hT : ThingsAt k.p.l (.slice k.sp k.p.l.length k.cap) w) :
    Calls Tryz.prog 24 #[.agg k.cs.toArray] w fun e' w' => e' = .returned (.bool b) ∧ Below w.heap.size w w' := by
  have := rcard_any k w hT
  rw [h] at this
  exact this
end Go.Proofs.YtcngaohfemdfjaaGreat
