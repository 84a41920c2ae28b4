import Derived.Test.YtofdoadpaedogaaO1
import Derived.Test.YtofdoadpaedogaaR2
import Derived.Test.YtofdoadpaedogaaT33
namespace Go.Proofs.Ytofdoadpaedogaa
open Go.RowKit

/-! The calls of a pair, each with its answer by name. -/
theorem shift_is {p : Pr} {v : Value} {k x y e : Int} {w : World} (h : p.shift k = (x, y, e)) (hT : ThingsAt p.l v w) :
    Calls Try.prog 13 #[.agg #[.int .i64 p.fl, .int .i64 p.fh, .int .i64 p.bl, .int .i64 p.bh, .int .i64 p.ti, .int .i64 p.ne, .int .i64 p.fa, v], .int .i64 k] w fun e' w' => e' = .returned (.tuple #[.agg #[.int .i64 x, .int .i64 y], .int .i64 e]) ∧ Below w.heap.size w w' := by
  have := Shift_spec p v k w hT
  rw [h] at this
  exact this
theorem nearer_is {p : Pr} {v : Value} {a b x e : Int} {w : World} (h : p.nearer a b = (x, e)) (hT : ThingsAt p.l v w) :
    Calls Try.prog 15 #[.agg #[.int .i64 p.fl, .int .i64 p.fh, .int .i64 p.bl, .int .i64 p.bh, .int .i64 p.ti, .int .i64 p.ne, .int .i64 p.fa, v], .int .i64 a, .int .i64 b] w fun e' w' => e' = .returned (.tuple #[.int .i64 x, .int .i64 e]) ∧ Below w.heap.size w w' := by
  have := Nearer_spec p v a b w hT
  rw [h] at this
  exact this
theorem power_is {p : Pr} {v : Value} {x y e : Int} {w : World} (h : p.power = (x, y, e)) (hT : ThingsAt p.l v w) :
    Calls Try.prog 17 #[.agg #[.int .i64 p.fl, .int .i64 p.fh, .int .i64 p.bl, .int .i64 p.bh, .int .i64 p.ti, .int .i64 p.ne, .int .i64 p.fa, v]] w fun e' w' => e' = .returned (.tuple #[.agg #[.int .i64 x, .int .i64 y], .int .i64 e]) ∧ Below w.heap.size w w' := by
  have := Power_spec p v  w hT
  rw [h] at this
  exact this
theorem stands_is {p : Pr} {v : Value} {z x y e : Int} {w : World} (h : p.stands z = (x, y, e)) (hT : ThingsAt p.l v w) :
    Calls Try.prog 19 #[.agg #[.int .i64 p.fl, .int .i64 p.fh, .int .i64 p.bl, .int .i64 p.bh, .int .i64 p.ti, .int .i64 p.ne, .int .i64 p.fa, v], .int .i64 z] w fun e' w' => e' = .returned (.tuple #[.agg #[.int .i64 x, .int .i64 y], .int .i64 e]) ∧ Below w.heap.size w w' := by
  have := Stands_spec p v z w hT
  rw [h] at this
  exact this
theorem why_is {p : Pr} {v : Value} {k x e : Int} {w : World} (h : p.why k = (x, e)) (hT : ThingsAt p.l v w) :
    Calls Try.prog 21 #[.agg #[.int .i64 p.fl, .int .i64 p.fh, .int .i64 p.bl, .int .i64 p.bh, .int .i64 p.ti, .int .i64 p.ne, .int .i64 p.fa, v], .int .i64 k] w fun e' w' => e' = .returned (.tuple #[.int .i64 x, .int .i64 e]) ∧ Below w.heap.size w w' := by
  have := Why_spec p v k w hT
  rw [h] at this
  exact this
theorem distance_is {p : Pr} {v : Value} {k x y e : Int} {w : World} (h : p.distance k = (x, y, e)) (hT : ThingsAt p.l v w) :
    Calls Try.prog 23 #[.agg #[.int .i64 p.fl, .int .i64 p.fh, .int .i64 p.bl, .int .i64 p.bh, .int .i64 p.ti, .int .i64 p.ne, .int .i64 p.fa, v], .int .i64 k] w fun e' w' => e' = .returned (.tuple #[.agg #[.int .i64 x, .int .i64 y], .int .i64 e]) ∧ Below w.heap.size w w' := by
  have := Distance_spec p v k w hT
  rw [h] at this
  exact this
theorem fewest_is {p : Pr} {v : Value} {m x y e : Int} {w : World} (h : p.fewest = (m, x, y, e)) (hT : ThingsAt p.l v w) :
    Calls Try.prog 25 #[.agg #[.int .i64 p.fl, .int .i64 p.fh, .int .i64 p.bl, .int .i64 p.bh, .int .i64 p.ti, .int .i64 p.ne, .int .i64 p.fa, v]] w fun e' w' => e' = .returned (.tuple #[.int .i64 m, .agg #[.int .i64 x, .int .i64 y], .int .i64 e]) ∧ Below w.heap.size w w' := by
  have := Fewest_spec p v  w hT
  rw [h] at this
  exact this
theorem rpair_is {p : Pr} {v : Value} {b : Bool} {w : World} (h : p.ok = b) (hT : ThingsAt p.l v w) :
    Calls Try.prog 32 #[.agg #[.int .i64 p.fl, .int .i64 p.fh, .int .i64 p.bl, .int .i64 p.bh, .int .i64 p.ti, .int .i64 p.ne, .int .i64 p.fa, v]] w fun e' w' => e' = .returned (.bool b) ∧ Below w.heap.size w w' := by
  rw [← h]; exact rpair_any _ _ _ _ _ _ _ _ p.l w hT
end Go.Proofs.Ytofdoadpaedogaa
