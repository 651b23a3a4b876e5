/-
  No cell of these rows narrows 'for every input' (looked for: loops, veiled, ifaces, maps, wideKeys, modest, calm, conditions, laid).
  DERIVED. THE GIVEN ROWS OF THIS SEAT. 5 by the template 'for every input the law returns true; each argument reads behind the call as it read before'; 0 by the template 'total and deterministic' (their statements: YtjagjbelmonpmaaTotals.lean).
  GIVEN WITH THE SEED: the statements are not yours to turn. If you find one false, say at which input.
  Laid BY PROGRAM, IN A SANDBOX (cutbox-rows.mjs): the forced cells as the released guide's own fill.sh prints them over the translation e6032ac2b7829d04… (all of the seat's roots in one cut). By AI agents, Wed Nov 11 2026. No macro, syntax, notation, axiom, sorry.
-/
import Derived.Test.YtjagjbelmonpmaaChecked
import GoSem.Claim
import GoSem.ClaimJoined
import GoSem.ClaimMapViews
import Derived.JoinedTies
import Derived.KernelRfl
namespace Go.Proofs.Ytjagjbelmonpmaa
/- THE CELL 'sum', in the pinned program and in every row, IS THE sha256 OF THE DUMP (.gsa) THAT YtjagjbelmonpmaaProg.lean LOADS. Nothing in Lean hashes anything: it is a label: what it is worth is what the hold of that sum in a sandbox is worth. -/
noncomputable def Try.pinned : Pinned := { name := "ytjagjbelmonpmaa", sum := "e6032ac2b7829d04a37c5bc4e6c0b88206e589ae2a62472af4fc6bcac654491e", checked := Try.checked }
namespace Rows
def none {H : Type} : Left H := { results := [], args := [] }

/-- 'kreisellaw01.TrackMarks': WHATEVER THE INPUT: true; the input reads as it did. -/
def trackMarksSpec : ChangeSpec := { name := "trackMarks", fn := fun _ => fun
  | [d1, d2, d3, d4, d5] => { results := [.lit (.bool true)], args := [d1, d2, d3, d4, d5] }
  | _ => none }
def trackMarksRow : OpenClaim := { program := "ytjagjbelmonpmaa", sum := "e6032ac2b7829d04a37c5bc4e6c0b88206e589ae2a62472af4fc6bcac654491e", func := "kreisel/kreisellaw01.TrackMarks", spec := "trackMarks", unfollowed := true, recurses := true, apart := false }
def TrackMarksSaid : Prop := trackMarksRow.holds Try.pinned (OpenSpec.ofChange trackMarksSpec)

/-- ITS FALSE NEIGHBOUR: 'it returns false'. Refute it at one input. -/
def trackMarksWrong : ChangeSpec := { name := "trackMarks", fn := fun _ => fun
  | [d1, d2, d3, d4, d5] => { results := [.lit (.bool false)], args := [d1, d2, d3, d4, d5] }
  | _ => none }
def TrackMarksWrongFalsely : Prop := trackMarksRow.holds Try.pinned (OpenSpec.ofChange trackMarksWrong)

/-- 'kreisellaw01.TrackNarrows': WHATEVER THE INPUT: true; the input reads as it did. -/
def trackNarrowsSpec : ChangeSpec := { name := "trackNarrows", fn := fun _ => fun
  | [d1, d2] => { results := [.lit (.bool true)], args := [d1, d2] }
  | _ => none }
def trackNarrowsRow : OpenClaim := { program := "ytjagjbelmonpmaa", sum := "e6032ac2b7829d04a37c5bc4e6c0b88206e589ae2a62472af4fc6bcac654491e", func := "kreisel/kreisellaw01.TrackNarrows", spec := "trackNarrows", unfollowed := true, recurses := true, apart := false }
def TrackNarrowsSaid : Prop := trackNarrowsRow.holds Try.pinned (OpenSpec.ofChange trackNarrowsSpec)

/-- ITS FALSE NEIGHBOUR: 'it returns false'. Refute it at one input. -/
def trackNarrowsWrong : ChangeSpec := { name := "trackNarrows", fn := fun _ => fun
  | [d1, d2] => { results := [.lit (.bool false)], args := [d1, d2] }
  | _ => none }
def TrackNarrowsWrongFalsely : Prop := trackNarrowsRow.holds Try.pinned (OpenSpec.ofChange trackNarrowsWrong)

/-- 'kreisellaw01.TrackSpots': WHATEVER THE INPUT: true; the input reads as it did. -/
def trackSpotsSpec : ChangeSpec := { name := "trackSpots", fn := fun _ => fun
  | [d1, d2, d3, d4] => { results := [.lit (.bool true)], args := [d1, d2, d3, d4] }
  | _ => none }
def trackSpotsRow : OpenClaim := { program := "ytjagjbelmonpmaa", sum := "e6032ac2b7829d04a37c5bc4e6c0b88206e589ae2a62472af4fc6bcac654491e", func := "kreisel/kreisellaw01.TrackSpots", spec := "trackSpots", unfollowed := true, recurses := true, apart := false }
def TrackSpotsSaid : Prop := trackSpotsRow.holds Try.pinned (OpenSpec.ofChange trackSpotsSpec)

/-- ITS FALSE NEIGHBOUR: 'it returns false'. Refute it at one input. -/
def trackSpotsWrong : ChangeSpec := { name := "trackSpots", fn := fun _ => fun
  | [d1, d2, d3, d4] => { results := [.lit (.bool false)], args := [d1, d2, d3, d4] }
  | _ => none }
def TrackSpotsWrongFalsely : Prop := trackSpotsRow.holds Try.pinned (OpenSpec.ofChange trackSpotsWrong)

/-- 'kreisellaw01.TrackUseless': WHATEVER THE INPUT: true; the input reads as it did. -/
def trackUselessSpec : ChangeSpec := { name := "trackUseless", fn := fun _ => fun
  | [d1, d2, d3] => { results := [.lit (.bool true)], args := [d1, d2, d3] }
  | _ => none }
def trackUselessRow : OpenClaim := { program := "ytjagjbelmonpmaa", sum := "e6032ac2b7829d04a37c5bc4e6c0b88206e589ae2a62472af4fc6bcac654491e", func := "kreisel/kreisellaw01.TrackUseless", spec := "trackUseless", unfollowed := true, recurses := true, apart := false }
def TrackUselessSaid : Prop := trackUselessRow.holds Try.pinned (OpenSpec.ofChange trackUselessSpec)

/-- ITS FALSE NEIGHBOUR: 'it returns false'. Refute it at one input. -/
def trackUselessWrong : ChangeSpec := { name := "trackUseless", fn := fun _ => fun
  | [d1, d2, d3] => { results := [.lit (.bool false)], args := [d1, d2, d3] }
  | _ => none }
def TrackUselessWrongFalsely : Prop := trackUselessRow.holds Try.pinned (OpenSpec.ofChange trackUselessWrong)

/-- 'kreisellaw01.TrackJoined': WHATEVER THE INPUT: true; the input reads as it did. -/
def trackJoinedSpec : ChangeSpec := { name := "trackJoined", fn := fun _ => fun
  | [d1, d2, d3] => { results := [.lit (.bool true)], args := [d1, d2, d3] }
  | _ => none }
def trackJoinedRow : OpenClaim := { program := "ytjagjbelmonpmaa", sum := "e6032ac2b7829d04a37c5bc4e6c0b88206e589ae2a62472af4fc6bcac654491e", func := "kreisel/kreisellaw01.TrackJoined", spec := "trackJoined", unfollowed := true, recurses := true, apart := false }
def TrackJoinedSaid : Prop := trackJoinedRow.holds Try.pinned (OpenSpec.ofChange trackJoinedSpec)

/-- ITS FALSE NEIGHBOUR: 'it returns false'. Refute it at one input. -/
def trackJoinedWrong : ChangeSpec := { name := "trackJoined", fn := fun _ => fun
  | [d1, d2, d3] => { results := [.lit (.bool false)], args := [d1, d2, d3] }
  | _ => none }
def TrackJoinedWrongFalsely : Prop := trackJoinedRow.holds Try.pinned (OpenSpec.ofChange trackJoinedWrong)

/- THE SECOND FORM. 'bulk': how many values and letters a reading holds, each counted each time it is reached (what is shared counts as often as it is met; a slice's spare places count too). A statement '..UptoSaid' is the law's where the arguments, and the package variables that the reading takes, are together of bulk at most 1048576: NARROWER than '..Said'. Prove '..Said' where nothing that the law and all that it calls make is longer than what came in: it says more and counts as full. Else prove '..UptoSaid'. A law counts once. -/
mutual
def uptoBulk {H : Type} : DataW H → Nat
  | .lit (.string bytes) => bytes.length + 1
  | .lit _ => 1
  | .nil => 1
  | .ptr d => uptoBulk d + 1
  | .slice elems spare => uptoBulkAll elems + uptoBulkAll spare + 1
  | .agg parts => uptoBulkAll parts + 1
  | .iface _ d => uptoBulk d + 1
  | .map entries => uptoBulkEntries entries + 1
  | .held _ => 1
def uptoBulkAll {H : Type} : List (DataW H) → Nat
  | [] => 0
  | d :: r => uptoBulk d + uptoBulkAll r
def uptoBulkEntries {H : Type} : List (Lit × DataW H) → Nat
  | [] => 0
  | x :: r => uptoBulkEntry x + uptoBulkEntries r
def uptoBulkEntry {H : Type} : Lit × DataW H → Nat
  | (.string bytes, d) => bytes.length + uptoBulk d + 1
  | (_, d) => uptoBulk d + 1
 end
def uptoSmall : (H : Type) → List (DataW H) → Bool := fun _ ds => decide (uptoBulkAll ds ≤ 1048576)
def OpenSpec.upto (s : _root_.Go.ChangeSpec) : _root_.Go.OpenSpec := { _root_.Go.OpenSpec.ofChange s with cond := some uptoSmall }

/-- 'kreisellaw01.TrackMarks', WHERE WHAT IT READS IS OF BULK AT MOST 1048576: true; the input reads as it did. -/
def trackMarksUptoRow : OpenClaim := { program := "ytjagjbelmonpmaa", sum := "e6032ac2b7829d04a37c5bc4e6c0b88206e589ae2a62472af4fc6bcac654491e", func := "kreisel/kreisellaw01.TrackMarks", spec := "trackMarks", unfollowed := true, recurses := true, apart := false, narrowed := true }
def TrackMarksUptoSaid : Prop := trackMarksUptoRow.holds Try.pinned (OpenSpec.upto trackMarksSpec)

/-- 'kreisellaw01.TrackNarrows', WHERE WHAT IT READS IS OF BULK AT MOST 1048576: true; the input reads as it did. -/
def trackNarrowsUptoRow : OpenClaim := { program := "ytjagjbelmonpmaa", sum := "e6032ac2b7829d04a37c5bc4e6c0b88206e589ae2a62472af4fc6bcac654491e", func := "kreisel/kreisellaw01.TrackNarrows", spec := "trackNarrows", unfollowed := true, recurses := true, apart := false, narrowed := true }
def TrackNarrowsUptoSaid : Prop := trackNarrowsUptoRow.holds Try.pinned (OpenSpec.upto trackNarrowsSpec)

/-- 'kreisellaw01.TrackSpots', WHERE WHAT IT READS IS OF BULK AT MOST 1048576: true; the input reads as it did. -/
def trackSpotsUptoRow : OpenClaim := { program := "ytjagjbelmonpmaa", sum := "e6032ac2b7829d04a37c5bc4e6c0b88206e589ae2a62472af4fc6bcac654491e", func := "kreisel/kreisellaw01.TrackSpots", spec := "trackSpots", unfollowed := true, recurses := true, apart := false, narrowed := true }
def TrackSpotsUptoSaid : Prop := trackSpotsUptoRow.holds Try.pinned (OpenSpec.upto trackSpotsSpec)

/-- 'kreisellaw01.TrackUseless', WHERE WHAT IT READS IS OF BULK AT MOST 1048576: true; the input reads as it did. -/
def trackUselessUptoRow : OpenClaim := { program := "ytjagjbelmonpmaa", sum := "e6032ac2b7829d04a37c5bc4e6c0b88206e589ae2a62472af4fc6bcac654491e", func := "kreisel/kreisellaw01.TrackUseless", spec := "trackUseless", unfollowed := true, recurses := true, apart := false, narrowed := true }
def TrackUselessUptoSaid : Prop := trackUselessUptoRow.holds Try.pinned (OpenSpec.upto trackUselessSpec)

/-- 'kreisellaw01.TrackJoined', WHERE WHAT IT READS IS OF BULK AT MOST 1048576: true; the input reads as it did. -/
def trackJoinedUptoRow : OpenClaim := { program := "ytjagjbelmonpmaa", sum := "e6032ac2b7829d04a37c5bc4e6c0b88206e589ae2a62472af4fc6bcac654491e", func := "kreisel/kreisellaw01.TrackJoined", spec := "trackJoined", unfollowed := true, recurses := true, apart := false, narrowed := true }
def TrackJoinedUptoSaid : Prop := trackJoinedUptoRow.holds Try.pinned (OpenSpec.upto trackJoinedSpec)

end Rows
end Go.Proofs.Ytjagjbelmonpmaa
