/-
  No cell of these rows narrows 'for every input' (looked for: loops, veiled, ifaces, maps, wideKeys, modest, calm, conditions, laid).
  DERIVED. THE GIVEN ROWS OF THIS SEAT. 11 by the template 'for every input the law returns true; each argument reads behind the call as it read before'; 0 by the template 'total and deterministic' (their statements: YtjlaoiimbhlafaaTotals.lean).
  GIVEN WITH THE SEED: the statements are not yours to turn. If you find one false, say at which input.
  Laid BY PROGRAM, IN A SANDBOX (cutbox-rows.mjs): the forced cells as the released guide's own fill.sh prints them over the translation 1fee5042ce7562bf… (all of the seat's roots in one cut). By AI agents, Wed Nov 11 2026. No macro, syntax, notation, axiom, sorry.
-/
import Derived.Test.YtjlaoiimbhlafaaChecked
import GoSem.Claim
import GoSem.ClaimJoined
import GoSem.ClaimMapViews
import Derived.JoinedTies
import Derived.KernelRfl
namespace Go.Proofs.Ytjlaoiimbhlafaa
/- THE CELL 'sum', in the pinned program and in every row, IS THE sha256 OF THE DUMP (.gsa) THAT YtjlaoiimbhlafaaProg.lean LOADS. Nothing in Lean hashes anything: it is a label: what it is worth is what the hold of that sum in a sandbox is worth. -/
noncomputable def Try.pinned : Pinned := { name := "ytjlaoiimbhlafaa", sum := "1fee5042ce7562bf623ca688a2baa6aff34d439666906d1ad6d619d17212367d", checked := Try.checked }
namespace Rows
def none {H : Type} : Left H := { results := [], args := [] }

/-- 'pairworkslaw02.MatchCounts': WHATEVER THE INPUT: true; the input reads as it did. -/
def matchCountsSpec : ChangeSpec := { name := "matchCounts", fn := fun _ => fun
  | [d1, d2, d3] => { results := [.lit (.bool true)], args := [d1, d2, d3] }
  | _ => none }
def matchCountsRow : OpenClaim := { program := "ytjlaoiimbhlafaa", sum := "1fee5042ce7562bf623ca688a2baa6aff34d439666906d1ad6d619d17212367d", func := "pairworks/pairworkslaw02.MatchCounts", spec := "matchCounts", unfollowed := true, recurses := true, plainKeys := false, apart := false }
def MatchCountsSaid : Prop := matchCountsRow.holds Try.pinned (OpenSpec.ofChange matchCountsSpec)

/-- ITS FALSE NEIGHBOUR: 'it returns false'. Refute it at one input. -/
def matchCountsWrong : ChangeSpec := { name := "matchCounts", fn := fun _ => fun
  | [d1, d2, d3] => { results := [.lit (.bool false)], args := [d1, d2, d3] }
  | _ => none }
def MatchCountsWrongFalsely : Prop := matchCountsRow.holds Try.pinned (OpenSpec.ofChange matchCountsWrong)

/-- 'pairworkslaw02.MatchSets': WHATEVER THE INPUT: true; the input reads as it did. -/
def matchSetsSpec : ChangeSpec := { name := "matchSets", fn := fun _ => fun
  | [d] => { results := [.lit (.bool true)], args := [d] }
  | _ => none }
def matchSetsRow : OpenClaim := { program := "ytjlaoiimbhlafaa", sum := "1fee5042ce7562bf623ca688a2baa6aff34d439666906d1ad6d619d17212367d", func := "pairworks/pairworkslaw02.MatchSets", spec := "matchSets", unfollowed := true, recurses := true, plainKeys := false, apart := false }
def MatchSetsSaid : Prop := matchSetsRow.holds Try.pinned (OpenSpec.ofChange matchSetsSpec)

/-- ITS FALSE NEIGHBOUR: 'it returns false'. Refute it at one input. -/
def matchSetsWrong : ChangeSpec := { name := "matchSets", fn := fun _ => fun
  | [d] => { results := [.lit (.bool false)], args := [d] }
  | _ => none }
def MatchSetsWrongFalsely : Prop := matchSetsRow.holds Try.pinned (OpenSpec.ofChange matchSetsWrong)

/-- 'pairworkslaw02.MatchAsks': WHATEVER THE INPUT: true; the input reads as it did. -/
def matchAsksSpec : ChangeSpec := { name := "matchAsks", fn := fun _ => fun
  | [d1, d2] => { results := [.lit (.bool true)], args := [d1, d2] }
  | _ => none }
def matchAsksRow : OpenClaim := { program := "ytjlaoiimbhlafaa", sum := "1fee5042ce7562bf623ca688a2baa6aff34d439666906d1ad6d619d17212367d", func := "pairworks/pairworkslaw02.MatchAsks", spec := "matchAsks", unfollowed := true, recurses := true, plainKeys := false, apart := false }
def MatchAsksSaid : Prop := matchAsksRow.holds Try.pinned (OpenSpec.ofChange matchAsksSpec)

/-- ITS FALSE NEIGHBOUR: 'it returns false'. Refute it at one input. -/
def matchAsksWrong : ChangeSpec := { name := "matchAsks", fn := fun _ => fun
  | [d1, d2] => { results := [.lit (.bool false)], args := [d1, d2] }
  | _ => none }
def MatchAsksWrongFalsely : Prop := matchAsksRow.holds Try.pinned (OpenSpec.ofChange matchAsksWrong)

/-- 'pairworkslaw02.MatchNames': WHATEVER THE INPUT: true; the input reads as it did. -/
def matchNamesSpec : ChangeSpec := { name := "matchNames", fn := fun _ => fun
  | [] => { results := [.lit (.bool true)], args := [] }
  | _ => none }
def matchNamesRow : OpenClaim := { program := "ytjlaoiimbhlafaa", sum := "1fee5042ce7562bf623ca688a2baa6aff34d439666906d1ad6d619d17212367d", func := "pairworks/pairworkslaw02.MatchNames", spec := "matchNames", unfollowed := true, recurses := true, plainKeys := false, apart := false }
def MatchNamesSaid : Prop := matchNamesRow.holds Try.pinned (OpenSpec.ofChange matchNamesSpec)

/-- ITS FALSE NEIGHBOUR: 'it returns false'. Refute it at one input. -/
def matchNamesWrong : ChangeSpec := { name := "matchNames", fn := fun _ => fun
  | [] => { results := [.lit (.bool false)], args := [] }
  | _ => none }
def MatchNamesWrongFalsely : Prop := matchNamesRow.holds Try.pinned (OpenSpec.ofChange matchNamesWrong)

/-- 'pairworkslaw02.MatchTrue': WHATEVER THE INPUT: true; the input reads as it did. -/
def matchTrueSpec : ChangeSpec := { name := "matchTrue", fn := fun _ => fun
  | [d] => { results := [.lit (.bool true)], args := [d] }
  | _ => none }
def matchTrueRow : OpenClaim := { program := "ytjlaoiimbhlafaa", sum := "1fee5042ce7562bf623ca688a2baa6aff34d439666906d1ad6d619d17212367d", func := "pairworks/pairworkslaw02.MatchTrue", spec := "matchTrue", unfollowed := true, recurses := true, plainKeys := false, apart := false }
def MatchTrueSaid : Prop := matchTrueRow.holds Try.pinned (OpenSpec.ofChange matchTrueSpec)

/-- ITS FALSE NEIGHBOUR: 'it returns false'. Refute it at one input. -/
def matchTrueWrong : ChangeSpec := { name := "matchTrue", fn := fun _ => fun
  | [d] => { results := [.lit (.bool false)], args := [d] }
  | _ => none }
def MatchTrueWrongFalsely : Prop := matchTrueRow.holds Try.pinned (OpenSpec.ofChange matchTrueWrong)

/-- 'pairworkslaw02.MatchFewest': WHATEVER THE INPUT: true; the input reads as it did. -/
def matchFewestSpec : ChangeSpec := { name := "matchFewest", fn := fun _ => fun
  | [d1, d2] => { results := [.lit (.bool true)], args := [d1, d2] }
  | _ => none }
def matchFewestRow : OpenClaim := { program := "ytjlaoiimbhlafaa", sum := "1fee5042ce7562bf623ca688a2baa6aff34d439666906d1ad6d619d17212367d", func := "pairworks/pairworkslaw02.MatchFewest", spec := "matchFewest", unfollowed := true, recurses := true, plainKeys := false, apart := false }
def MatchFewestSaid : Prop := matchFewestRow.holds Try.pinned (OpenSpec.ofChange matchFewestSpec)

/-- ITS FALSE NEIGHBOUR: 'it returns false'. Refute it at one input. -/
def matchFewestWrong : ChangeSpec := { name := "matchFewest", fn := fun _ => fun
  | [d1, d2] => { results := [.lit (.bool false)], args := [d1, d2] }
  | _ => none }
def MatchFewestWrongFalsely : Prop := matchFewestRow.holds Try.pinned (OpenSpec.ofChange matchFewestWrong)

/-- 'pairworkslaw02.MatchSure': WHATEVER THE INPUT: true; the input reads as it did. -/
def matchSureSpec : ChangeSpec := { name := "matchSure", fn := fun _ => fun
  | [d] => { results := [.lit (.bool true)], args := [d] }
  | _ => none }
def matchSureRow : OpenClaim := { program := "ytjlaoiimbhlafaa", sum := "1fee5042ce7562bf623ca688a2baa6aff34d439666906d1ad6d619d17212367d", func := "pairworks/pairworkslaw02.MatchSure", spec := "matchSure", unfollowed := true, recurses := true, plainKeys := false, apart := false }
def MatchSureSaid : Prop := matchSureRow.holds Try.pinned (OpenSpec.ofChange matchSureSpec)

/-- ITS FALSE NEIGHBOUR: 'it returns false'. Refute it at one input. -/
def matchSureWrong : ChangeSpec := { name := "matchSure", fn := fun _ => fun
  | [d] => { results := [.lit (.bool false)], args := [d] }
  | _ => none }
def MatchSureWrongFalsely : Prop := matchSureRow.holds Try.pinned (OpenSpec.ofChange matchSureWrong)

/-- 'pairworkslaw02.MatchAsk': WHATEVER THE INPUT: true; the input reads as it did. -/
def matchAskSpec : ChangeSpec := { name := "matchAsk", fn := fun _ => fun
  | [d1, d2] => { results := [.lit (.bool true)], args := [d1, d2] }
  | _ => none }
def matchAskRow : OpenClaim := { program := "ytjlaoiimbhlafaa", sum := "1fee5042ce7562bf623ca688a2baa6aff34d439666906d1ad6d619d17212367d", func := "pairworks/pairworkslaw02.MatchAsk", spec := "matchAsk", unfollowed := true, recurses := true, plainKeys := false, apart := false }
def MatchAskSaid : Prop := matchAskRow.holds Try.pinned (OpenSpec.ofChange matchAskSpec)

/-- ITS FALSE NEIGHBOUR: 'it returns false'. Refute it at one input. -/
def matchAskWrong : ChangeSpec := { name := "matchAsk", fn := fun _ => fun
  | [d1, d2] => { results := [.lit (.bool false)], args := [d1, d2] }
  | _ => none }
def MatchAskWrongFalsely : Prop := matchAskRow.holds Try.pinned (OpenSpec.ofChange matchAskWrong)

/-- 'pairworkslaw02.MatchMore': WHATEVER THE INPUT: true; the input reads as it did. -/
def matchMoreSpec : ChangeSpec := { name := "matchMore", fn := fun _ => fun
  | [d1, d2, d3] => { results := [.lit (.bool true)], args := [d1, d2, d3] }
  | _ => none }
def matchMoreRow : OpenClaim := { program := "ytjlaoiimbhlafaa", sum := "1fee5042ce7562bf623ca688a2baa6aff34d439666906d1ad6d619d17212367d", func := "pairworks/pairworkslaw02.MatchMore", spec := "matchMore", unfollowed := true, recurses := true, plainKeys := false, apart := false }
def MatchMoreSaid : Prop := matchMoreRow.holds Try.pinned (OpenSpec.ofChange matchMoreSpec)

/-- ITS FALSE NEIGHBOUR: 'it returns false'. Refute it at one input. -/
def matchMoreWrong : ChangeSpec := { name := "matchMore", fn := fun _ => fun
  | [d1, d2, d3] => { results := [.lit (.bool false)], args := [d1, d2, d3] }
  | _ => none }
def MatchMoreWrongFalsely : Prop := matchMoreRow.holds Try.pinned (OpenSpec.ofChange matchMoreWrong)

/-- 'pairworkslaw02.MatchTurned': WHATEVER THE INPUT: true; the input reads as it did. -/
def matchTurnedSpec : ChangeSpec := { name := "matchTurned", fn := fun _ => fun
  | [d] => { results := [.lit (.bool true)], args := [d] }
  | _ => none }
def matchTurnedRow : OpenClaim := { program := "ytjlaoiimbhlafaa", sum := "1fee5042ce7562bf623ca688a2baa6aff34d439666906d1ad6d619d17212367d", func := "pairworks/pairworkslaw02.MatchTurned", spec := "matchTurned", unfollowed := true, recurses := true, plainKeys := false, apart := false }
def MatchTurnedSaid : Prop := matchTurnedRow.holds Try.pinned (OpenSpec.ofChange matchTurnedSpec)

/-- ITS FALSE NEIGHBOUR: 'it returns false'. Refute it at one input. -/
def matchTurnedWrong : ChangeSpec := { name := "matchTurned", fn := fun _ => fun
  | [d] => { results := [.lit (.bool false)], args := [d] }
  | _ => none }
def MatchTurnedWrongFalsely : Prop := matchTurnedRow.holds Try.pinned (OpenSpec.ofChange matchTurnedWrong)

/-- 'pairworkstop.TopMarks': WHATEVER THE INPUT: true; the input reads as it did. -/
def topMarksSpec : ChangeSpec := { name := "topMarks", fn := fun _ => fun
  | [d] => { results := [.lit (.bool true)], args := [d] }
  | _ => none }
def topMarksRow : OpenClaim := { program := "ytjlaoiimbhlafaa", sum := "1fee5042ce7562bf623ca688a2baa6aff34d439666906d1ad6d619d17212367d", func := "pairworks/pairworkstop.TopMarks", spec := "topMarks", unfollowed := true, recurses := true, plainKeys := false, apart := false }
def TopMarksSaid : Prop := topMarksRow.holds Try.pinned (OpenSpec.ofChange topMarksSpec)

/-- ITS FALSE NEIGHBOUR: 'it returns false'. Refute it at one input. -/
def topMarksWrong : ChangeSpec := { name := "topMarks", fn := fun _ => fun
  | [d] => { results := [.lit (.bool false)], args := [d] }
  | _ => none }
def TopMarksWrongFalsely : Prop := topMarksRow.holds Try.pinned (OpenSpec.ofChange topMarksWrong)

/- THE SECOND FORM. 'bulk': how many values and letters a reading holds, each counted each time it is reached (what is shared counts as often as it is met; a slice's spare places count too). A statement '..UptoSaid' is the law's where the arguments, and the package variables that the reading takes, are together of bulk at most 1048576: NARROWER than '..Said'. Prove '..Said' where nothing that the law and all that it calls make is longer than what came in: it says more and counts as full. Else prove '..UptoSaid'. A law counts once. -/
mutual
def uptoBulk {H : Type} : DataW H → Nat
  | .lit (.string bytes) => bytes.length + 1
  | .lit _ => 1
  | .nil => 1
  | .ptr d => uptoBulk d + 1
  | .slice elems spare => uptoBulkAll elems + uptoBulkAll spare + 1
  | .agg parts => uptoBulkAll parts + 1
  | .iface _ d => uptoBulk d + 1
  | .map entries => uptoBulkEntries entries + 1
  | .held _ => 1
def uptoBulkAll {H : Type} : List (DataW H) → Nat
  | [] => 0
  | d :: r => uptoBulk d + uptoBulkAll r
def uptoBulkEntries {H : Type} : List (Lit × DataW H) → Nat
  | [] => 0
  | x :: r => uptoBulkEntry x + uptoBulkEntries r
def uptoBulkEntry {H : Type} : Lit × DataW H → Nat
  | (.string bytes, d) => bytes.length + uptoBulk d + 1
  | (_, d) => uptoBulk d + 1
 end
def uptoSmall : (H : Type) → List (DataW H) → Bool := fun _ ds => decide (uptoBulkAll ds ≤ 1048576)
def OpenSpec.upto (s : _root_.Go.ChangeSpec) : _root_.Go.OpenSpec := { _root_.Go.OpenSpec.ofChange s with cond := some uptoSmall }

/-- 'pairworkslaw02.MatchCounts', WHERE WHAT IT READS IS OF BULK AT MOST 1048576: true; the input reads as it did. -/
def matchCountsUptoRow : OpenClaim := { program := "ytjlaoiimbhlafaa", sum := "1fee5042ce7562bf623ca688a2baa6aff34d439666906d1ad6d619d17212367d", func := "pairworks/pairworkslaw02.MatchCounts", spec := "matchCounts", unfollowed := true, recurses := true, plainKeys := false, apart := false, narrowed := true }
def MatchCountsUptoSaid : Prop := matchCountsUptoRow.holds Try.pinned (OpenSpec.upto matchCountsSpec)

/-- 'pairworkslaw02.MatchSets', WHERE WHAT IT READS IS OF BULK AT MOST 1048576: true; the input reads as it did. -/
def matchSetsUptoRow : OpenClaim := { program := "ytjlaoiimbhlafaa", sum := "1fee5042ce7562bf623ca688a2baa6aff34d439666906d1ad6d619d17212367d", func := "pairworks/pairworkslaw02.MatchSets", spec := "matchSets", unfollowed := true, recurses := true, plainKeys := false, apart := false, narrowed := true }
def MatchSetsUptoSaid : Prop := matchSetsUptoRow.holds Try.pinned (OpenSpec.upto matchSetsSpec)

/-- 'pairworkslaw02.MatchAsks', WHERE WHAT IT READS IS OF BULK AT MOST 1048576: true; the input reads as it did. -/
def matchAsksUptoRow : OpenClaim := { program := "ytjlaoiimbhlafaa", sum := "1fee5042ce7562bf623ca688a2baa6aff34d439666906d1ad6d619d17212367d", func := "pairworks/pairworkslaw02.MatchAsks", spec := "matchAsks", unfollowed := true, recurses := true, plainKeys := false, apart := false, narrowed := true }
def MatchAsksUptoSaid : Prop := matchAsksUptoRow.holds Try.pinned (OpenSpec.upto matchAsksSpec)

/-- 'pairworkslaw02.MatchNames', WHERE WHAT IT READS IS OF BULK AT MOST 1048576: true; the input reads as it did. -/
def matchNamesUptoRow : OpenClaim := { program := "ytjlaoiimbhlafaa", sum := "1fee5042ce7562bf623ca688a2baa6aff34d439666906d1ad6d619d17212367d", func := "pairworks/pairworkslaw02.MatchNames", spec := "matchNames", unfollowed := true, recurses := true, plainKeys := false, apart := false, narrowed := true }
def MatchNamesUptoSaid : Prop := matchNamesUptoRow.holds Try.pinned (OpenSpec.upto matchNamesSpec)

/-- 'pairworkslaw02.MatchTrue', WHERE WHAT IT READS IS OF BULK AT MOST 1048576: true; the input reads as it did. -/
def matchTrueUptoRow : OpenClaim := { program := "ytjlaoiimbhlafaa", sum := "1fee5042ce7562bf623ca688a2baa6aff34d439666906d1ad6d619d17212367d", func := "pairworks/pairworkslaw02.MatchTrue", spec := "matchTrue", unfollowed := true, recurses := true, plainKeys := false, apart := false, narrowed := true }
def MatchTrueUptoSaid : Prop := matchTrueUptoRow.holds Try.pinned (OpenSpec.upto matchTrueSpec)

/-- 'pairworkslaw02.MatchFewest', WHERE WHAT IT READS IS OF BULK AT MOST 1048576: true; the input reads as it did. -/
def matchFewestUptoRow : OpenClaim := { program := "ytjlaoiimbhlafaa", sum := "1fee5042ce7562bf623ca688a2baa6aff34d439666906d1ad6d619d17212367d", func := "pairworks/pairworkslaw02.MatchFewest", spec := "matchFewest", unfollowed := true, recurses := true, plainKeys := false, apart := false, narrowed := true }
def MatchFewestUptoSaid : Prop := matchFewestUptoRow.holds Try.pinned (OpenSpec.upto matchFewestSpec)

/-- 'pairworkslaw02.MatchSure', WHERE WHAT IT READS IS OF BULK AT MOST 1048576: true; the input reads as it did. -/
def matchSureUptoRow : OpenClaim := { program := "ytjlaoiimbhlafaa", sum := "1fee5042ce7562bf623ca688a2baa6aff34d439666906d1ad6d619d17212367d", func := "pairworks/pairworkslaw02.MatchSure", spec := "matchSure", unfollowed := true, recurses := true, plainKeys := false, apart := false, narrowed := true }
def MatchSureUptoSaid : Prop := matchSureUptoRow.holds Try.pinned (OpenSpec.upto matchSureSpec)

/-- 'pairworkslaw02.MatchAsk', WHERE WHAT IT READS IS OF BULK AT MOST 1048576: true; the input reads as it did. -/
def matchAskUptoRow : OpenClaim := { program := "ytjlaoiimbhlafaa", sum := "1fee5042ce7562bf623ca688a2baa6aff34d439666906d1ad6d619d17212367d", func := "pairworks/pairworkslaw02.MatchAsk", spec := "matchAsk", unfollowed := true, recurses := true, plainKeys := false, apart := false, narrowed := true }
def MatchAskUptoSaid : Prop := matchAskUptoRow.holds Try.pinned (OpenSpec.upto matchAskSpec)

/-- 'pairworkslaw02.MatchMore', WHERE WHAT IT READS IS OF BULK AT MOST 1048576: true; the input reads as it did. -/
def matchMoreUptoRow : OpenClaim := { program := "ytjlaoiimbhlafaa", sum := "1fee5042ce7562bf623ca688a2baa6aff34d439666906d1ad6d619d17212367d", func := "pairworks/pairworkslaw02.MatchMore", spec := "matchMore", unfollowed := true, recurses := true, plainKeys := false, apart := false, narrowed := true }
def MatchMoreUptoSaid : Prop := matchMoreUptoRow.holds Try.pinned (OpenSpec.upto matchMoreSpec)

/-- 'pairworkslaw02.MatchTurned', WHERE WHAT IT READS IS OF BULK AT MOST 1048576: true; the input reads as it did. -/
def matchTurnedUptoRow : OpenClaim := { program := "ytjlaoiimbhlafaa", sum := "1fee5042ce7562bf623ca688a2baa6aff34d439666906d1ad6d619d17212367d", func := "pairworks/pairworkslaw02.MatchTurned", spec := "matchTurned", unfollowed := true, recurses := true, plainKeys := false, apart := false, narrowed := true }
def MatchTurnedUptoSaid : Prop := matchTurnedUptoRow.holds Try.pinned (OpenSpec.upto matchTurnedSpec)

/-- 'pairworkstop.TopMarks', WHERE WHAT IT READS IS OF BULK AT MOST 1048576: true; the input reads as it did. -/
def topMarksUptoRow : OpenClaim := { program := "ytjlaoiimbhlafaa", sum := "1fee5042ce7562bf623ca688a2baa6aff34d439666906d1ad6d619d17212367d", func := "pairworks/pairworkstop.TopMarks", spec := "topMarks", unfollowed := true, recurses := true, plainKeys := false, apart := false, narrowed := true }
def TopMarksUptoSaid : Prop := topMarksUptoRow.holds Try.pinned (OpenSpec.upto topMarksSpec)

end Rows
end Go.Proofs.Ytjlaoiimbhlafaa
