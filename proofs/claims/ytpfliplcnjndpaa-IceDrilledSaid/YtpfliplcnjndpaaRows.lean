/-
  No cell of these rows narrows 'for every input' (looked for: loops, veiled, ifaces, maps, wideKeys, modest, calm, conditions, laid).
  DERIVED. THE GIVEN ROWS OF THIS SEAT. 10 by the template 'for every input the law returns true; each argument reads behind the call as it read before'; 0 by the template 'total and deterministic' (their statements: YtpfliplcnjndpaaTotals.lean).
  GIVEN WITH THE SEED: the statements are not yours to turn. If you find one false, say at which input.
  Laid BY PROGRAM, IN A SANDBOX (cutbox-rows.mjs): the forced cells as the released guide's own fill.sh prints them over the translation b1c82da135d12821… (all of the seat's roots in one cut). By AI agents, Wed Nov 11 2026. No macro, syntax, notation, axiom, sorry.
-/
import Derived.Test.YtpfliplcnjndpaaChecked
import GoSem.Claim
import GoSem.ClaimJoined
import GoSem.ClaimMapViews
import Derived.JoinedTies
import Derived.KernelRfl
namespace Go.Proofs.Ytpfliplcnjndpaa
/- THE CELL 'sum', in the pinned program and in every row, IS THE sha256 OF THE DUMP (.gsa) THAT YtpfliplcnjndpaaProg.lean LOADS. Nothing in Lean hashes anything: it is a label: what it is worth is what the hold of that sum in a sandbox is worth. -/
noncomputable def Try.pinned : Pinned := { name := "ytpfliplcnjndpaa", sum := "b1c82da135d128210d9fbbb9c7d8613707b2545bda7399957c53afd6f37f514e", checked := Try.checked }
namespace Rows
def none {H : Type} : Left H := { results := [], args := [] }

/-- 'kreisellaw02.IceThicks': WHATEVER THE INPUT: true; the input reads as it did. -/
def iceThicksSpec : ChangeSpec := { name := "iceThicks", fn := fun _ => fun
  | [d1, d2, d3, d4] => { results := [.lit (.bool true)], args := [d1, d2, d3, d4] }
  | _ => none }
def iceThicksRow : OpenClaim := { program := "ytpfliplcnjndpaa", sum := "b1c82da135d128210d9fbbb9c7d8613707b2545bda7399957c53afd6f37f514e", func := "kreisel/kreisellaw02.IceThicks", spec := "iceThicks", unfollowed := true, recurses := true, plainKeys := false, apart := false }
def IceThicksSaid : Prop := iceThicksRow.holds Try.pinned (OpenSpec.ofChange iceThicksSpec)

/-- ITS FALSE NEIGHBOUR: 'it returns false'. Refute it at one input. -/
def iceThicksWrong : ChangeSpec := { name := "iceThicks", fn := fun _ => fun
  | [d1, d2, d3, d4] => { results := [.lit (.bool false)], args := [d1, d2, d3, d4] }
  | _ => none }
def IceThicksWrongFalsely : Prop := iceThicksRow.holds Try.pinned (OpenSpec.ofChange iceThicksWrong)

/-- 'kreisellaw02.IceThins': WHATEVER THE INPUT: true; the input reads as it did. -/
def iceThinsSpec : ChangeSpec := { name := "iceThins", fn := fun _ => fun
  | [d1, d2] => { results := [.lit (.bool true)], args := [d1, d2] }
  | _ => none }
def iceThinsRow : OpenClaim := { program := "ytpfliplcnjndpaa", sum := "b1c82da135d128210d9fbbb9c7d8613707b2545bda7399957c53afd6f37f514e", func := "kreisel/kreisellaw02.IceThins", spec := "iceThins", unfollowed := true, recurses := true, plainKeys := false, apart := false }
def IceThinsSaid : Prop := iceThinsRow.holds Try.pinned (OpenSpec.ofChange iceThinsSpec)

/-- ITS FALSE NEIGHBOUR: 'it returns false'. Refute it at one input. -/
def iceThinsWrong : ChangeSpec := { name := "iceThins", fn := fun _ => fun
  | [d1, d2] => { results := [.lit (.bool false)], args := [d1, d2] }
  | _ => none }
def IceThinsWrongFalsely : Prop := iceThinsRow.holds Try.pinned (OpenSpec.ofChange iceThinsWrong)

/-- 'kreisellaw02.IceTrue': WHATEVER THE INPUT: true; the input reads as it did. -/
def iceTrueSpec : ChangeSpec := { name := "iceTrue", fn := fun _ => fun
  | [d1, d2] => { results := [.lit (.bool true)], args := [d1, d2] }
  | _ => none }
def iceTrueRow : OpenClaim := { program := "ytpfliplcnjndpaa", sum := "b1c82da135d128210d9fbbb9c7d8613707b2545bda7399957c53afd6f37f514e", func := "kreisel/kreisellaw02.IceTrue", spec := "iceTrue", unfollowed := true, recurses := true, plainKeys := false, apart := false }
def IceTrueSaid : Prop := iceTrueRow.holds Try.pinned (OpenSpec.ofChange iceTrueSpec)

/-- ITS FALSE NEIGHBOUR: 'it returns false'. Refute it at one input. -/
def iceTrueWrong : ChangeSpec := { name := "iceTrue", fn := fun _ => fun
  | [d1, d2] => { results := [.lit (.bool false)], args := [d1, d2] }
  | _ => none }
def IceTrueWrongFalsely : Prop := iceTrueRow.holds Try.pinned (OpenSpec.ofChange iceTrueWrong)

/-- 'kreisellaw02.IceEnds': WHATEVER THE INPUT: true; the input reads as it did. -/
def iceEndsSpec : ChangeSpec := { name := "iceEnds", fn := fun _ => fun
  | [d1, d2] => { results := [.lit (.bool true)], args := [d1, d2] }
  | _ => none }
def iceEndsRow : OpenClaim := { program := "ytpfliplcnjndpaa", sum := "b1c82da135d128210d9fbbb9c7d8613707b2545bda7399957c53afd6f37f514e", func := "kreisel/kreisellaw02.IceEnds", spec := "iceEnds", unfollowed := true, recurses := true, plainKeys := false, apart := false }
def IceEndsSaid : Prop := iceEndsRow.holds Try.pinned (OpenSpec.ofChange iceEndsSpec)

/-- ITS FALSE NEIGHBOUR: 'it returns false'. Refute it at one input. -/
def iceEndsWrong : ChangeSpec := { name := "iceEnds", fn := fun _ => fun
  | [d1, d2] => { results := [.lit (.bool false)], args := [d1, d2] }
  | _ => none }
def IceEndsWrongFalsely : Prop := iceEndsRow.holds Try.pinned (OpenSpec.ofChange iceEndsWrong)

/-- 'kreisellaw02.IceGoesOn': WHATEVER THE INPUT: true; the input reads as it did. -/
def iceGoesOnSpec : ChangeSpec := { name := "iceGoesOn", fn := fun _ => fun
  | [d1, d2, d3] => { results := [.lit (.bool true)], args := [d1, d2, d3] }
  | _ => none }
def iceGoesOnRow : OpenClaim := { program := "ytpfliplcnjndpaa", sum := "b1c82da135d128210d9fbbb9c7d8613707b2545bda7399957c53afd6f37f514e", func := "kreisel/kreisellaw02.IceGoesOn", spec := "iceGoesOn", unfollowed := true, recurses := true, plainKeys := false, apart := false }
def IceGoesOnSaid : Prop := iceGoesOnRow.holds Try.pinned (OpenSpec.ofChange iceGoesOnSpec)

/-- ITS FALSE NEIGHBOUR: 'it returns false'. Refute it at one input. -/
def iceGoesOnWrong : ChangeSpec := { name := "iceGoesOn", fn := fun _ => fun
  | [d1, d2, d3] => { results := [.lit (.bool false)], args := [d1, d2, d3] }
  | _ => none }
def IceGoesOnWrongFalsely : Prop := iceGoesOnRow.holds Try.pinned (OpenSpec.ofChange iceGoesOnWrong)

/-- 'kreisellaw02.IceMost': WHATEVER THE INPUT: true; the input reads as it did. -/
def iceMostSpec : ChangeSpec := { name := "iceMost", fn := fun _ => fun
  | [d1, d2, d3] => { results := [.lit (.bool true)], args := [d1, d2, d3] }
  | _ => none }
def iceMostRow : OpenClaim := { program := "ytpfliplcnjndpaa", sum := "b1c82da135d128210d9fbbb9c7d8613707b2545bda7399957c53afd6f37f514e", func := "kreisel/kreisellaw02.IceMost", spec := "iceMost", unfollowed := true, recurses := true, plainKeys := false, apart := false }
def IceMostSaid : Prop := iceMostRow.holds Try.pinned (OpenSpec.ofChange iceMostSpec)

/-- ITS FALSE NEIGHBOUR: 'it returns false'. Refute it at one input. -/
def iceMostWrong : ChangeSpec := { name := "iceMost", fn := fun _ => fun
  | [d1, d2, d3] => { results := [.lit (.bool false)], args := [d1, d2, d3] }
  | _ => none }
def IceMostWrongFalsely : Prop := iceMostRow.holds Try.pinned (OpenSpec.ofChange iceMostWrong)

/-- 'kreisellaw02.IceDrilled': WHATEVER THE INPUT: true; the input reads as it did. -/
def iceDrilledSpec : ChangeSpec := { name := "iceDrilled", fn := fun _ => fun
  | [d1, d2, d3, d4] => { results := [.lit (.bool true)], args := [d1, d2, d3, d4] }
  | _ => none }
def iceDrilledRow : OpenClaim := { program := "ytpfliplcnjndpaa", sum := "b1c82da135d128210d9fbbb9c7d8613707b2545bda7399957c53afd6f37f514e", func := "kreisel/kreisellaw02.IceDrilled", spec := "iceDrilled", unfollowed := true, recurses := true, plainKeys := false, apart := false }
def IceDrilledSaid : Prop := iceDrilledRow.holds Try.pinned (OpenSpec.ofChange iceDrilledSpec)

/-- ITS FALSE NEIGHBOUR: 'it returns false'. Refute it at one input. -/
def iceDrilledWrong : ChangeSpec := { name := "iceDrilled", fn := fun _ => fun
  | [d1, d2, d3, d4] => { results := [.lit (.bool false)], args := [d1, d2, d3, d4] }
  | _ => none }
def IceDrilledWrongFalsely : Prop := iceDrilledRow.holds Try.pinned (OpenSpec.ofChange iceDrilledWrong)

/-- 'kreisellaw01.TrackUseless': WHATEVER THE INPUT: true; the input reads as it did. -/
def trackUselessSpec : ChangeSpec := { name := "trackUseless", fn := fun _ => fun
  | [d1, d2, d3] => { results := [.lit (.bool true)], args := [d1, d2, d3] }
  | _ => none }
def trackUselessRow : OpenClaim := { program := "ytpfliplcnjndpaa", sum := "b1c82da135d128210d9fbbb9c7d8613707b2545bda7399957c53afd6f37f514e", func := "kreisel/kreisellaw01.TrackUseless", spec := "trackUseless", unfollowed := true, recurses := true, plainKeys := false, apart := false }
def TrackUselessSaid : Prop := trackUselessRow.holds Try.pinned (OpenSpec.ofChange trackUselessSpec)

/-- ITS FALSE NEIGHBOUR: 'it returns false'. Refute it at one input. -/
def trackUselessWrong : ChangeSpec := { name := "trackUseless", fn := fun _ => fun
  | [d1, d2, d3] => { results := [.lit (.bool false)], args := [d1, d2, d3] }
  | _ => none }
def TrackUselessWrongFalsely : Prop := trackUselessRow.holds Try.pinned (OpenSpec.ofChange trackUselessWrong)

/-- 'kreisellaw03.SlideMore': WHATEVER THE INPUT: true; the input reads as it did. -/
def slideMoreSpec : ChangeSpec := { name := "slideMore", fn := fun _ => fun
  | [d1, d2, d3, d4] => { results := [.lit (.bool true)], args := [d1, d2, d3, d4] }
  | _ => none }
def slideMoreRow : OpenClaim := { program := "ytpfliplcnjndpaa", sum := "b1c82da135d128210d9fbbb9c7d8613707b2545bda7399957c53afd6f37f514e", func := "kreisel/kreisellaw03.SlideMore", spec := "slideMore", unfollowed := true, recurses := true, plainKeys := false, apart := false }
def SlideMoreSaid : Prop := slideMoreRow.holds Try.pinned (OpenSpec.ofChange slideMoreSpec)

/-- ITS FALSE NEIGHBOUR: 'it returns false'. Refute it at one input. -/
def slideMoreWrong : ChangeSpec := { name := "slideMore", fn := fun _ => fun
  | [d1, d2, d3, d4] => { results := [.lit (.bool false)], args := [d1, d2, d3, d4] }
  | _ => none }
def SlideMoreWrongFalsely : Prop := slideMoreRow.holds Try.pinned (OpenSpec.ofChange slideMoreWrong)

/-- 'kreisellaw04.ScaleExamples': WHATEVER THE INPUT: true; the input reads as it did. -/
def scaleExamplesSpec : ChangeSpec := { name := "scaleExamples", fn := fun _ => fun
  | [] => { results := [.lit (.bool true)], args := [] }
  | _ => none }
def scaleExamplesRow : OpenClaim := { program := "ytpfliplcnjndpaa", sum := "b1c82da135d128210d9fbbb9c7d8613707b2545bda7399957c53afd6f37f514e", func := "kreisel/kreisellaw04.ScaleExamples", spec := "scaleExamples", unfollowed := true, recurses := true, plainKeys := false, apart := false }
def ScaleExamplesSaid : Prop := scaleExamplesRow.holds Try.pinned (OpenSpec.ofChange scaleExamplesSpec)

/-- ITS FALSE NEIGHBOUR: 'it returns false'. Refute it at one input. -/
def scaleExamplesWrong : ChangeSpec := { name := "scaleExamples", fn := fun _ => fun
  | [] => { results := [.lit (.bool false)], args := [] }
  | _ => none }
def ScaleExamplesWrongFalsely : Prop := scaleExamplesRow.holds Try.pinned (OpenSpec.ofChange scaleExamplesWrong)

/- THE SECOND FORM. 'bulk': how many values and letters a reading holds, each counted each time it is reached (what is shared counts as often as it is met; a slice's spare places count too). A statement '..UptoSaid' is the law's where the arguments, and the package variables that the reading takes, are together of bulk at most 1048576: NARROWER than '..Said'. Prove '..Said' where nothing that the law and all that it calls make is longer than what came in: it says more and counts as full. Else prove '..UptoSaid'. A law counts once. -/
mutual
def uptoBulk {H : Type} : DataW H → Nat
  | .lit (.string bytes) => bytes.length + 1
  | .lit _ => 1
  | .nil => 1
  | .ptr d => uptoBulk d + 1
  | .slice elems spare => uptoBulkAll elems + uptoBulkAll spare + 1
  | .agg parts => uptoBulkAll parts + 1
  | .iface _ d => uptoBulk d + 1
  | .map entries => uptoBulkEntries entries + 1
  | .held _ => 1
def uptoBulkAll {H : Type} : List (DataW H) → Nat
  | [] => 0
  | d :: r => uptoBulk d + uptoBulkAll r
def uptoBulkEntries {H : Type} : List (Lit × DataW H) → Nat
  | [] => 0
  | x :: r => uptoBulkEntry x + uptoBulkEntries r
def uptoBulkEntry {H : Type} : Lit × DataW H → Nat
  | (.string bytes, d) => bytes.length + uptoBulk d + 1
  | (_, d) => uptoBulk d + 1
 end
def uptoSmall : (H : Type) → List (DataW H) → Bool := fun _ ds => decide (uptoBulkAll ds ≤ 1048576)
def OpenSpec.upto (s : _root_.Go.ChangeSpec) : _root_.Go.OpenSpec := { _root_.Go.OpenSpec.ofChange s with cond := some uptoSmall }

/-- 'kreisellaw02.IceThicks', WHERE WHAT IT READS IS OF BULK AT MOST 1048576: true; the input reads as it did. -/
def iceThicksUptoRow : OpenClaim := { program := "ytpfliplcnjndpaa", sum := "b1c82da135d128210d9fbbb9c7d8613707b2545bda7399957c53afd6f37f514e", func := "kreisel/kreisellaw02.IceThicks", spec := "iceThicks", unfollowed := true, recurses := true, plainKeys := false, apart := false, narrowed := true }
def IceThicksUptoSaid : Prop := iceThicksUptoRow.holds Try.pinned (OpenSpec.upto iceThicksSpec)

/-- 'kreisellaw02.IceThins', WHERE WHAT IT READS IS OF BULK AT MOST 1048576: true; the input reads as it did. -/
def iceThinsUptoRow : OpenClaim := { program := "ytpfliplcnjndpaa", sum := "b1c82da135d128210d9fbbb9c7d8613707b2545bda7399957c53afd6f37f514e", func := "kreisel/kreisellaw02.IceThins", spec := "iceThins", unfollowed := true, recurses := true, plainKeys := false, apart := false, narrowed := true }
def IceThinsUptoSaid : Prop := iceThinsUptoRow.holds Try.pinned (OpenSpec.upto iceThinsSpec)

/-- 'kreisellaw02.IceTrue', WHERE WHAT IT READS IS OF BULK AT MOST 1048576: true; the input reads as it did. -/
def iceTrueUptoRow : OpenClaim := { program := "ytpfliplcnjndpaa", sum := "b1c82da135d128210d9fbbb9c7d8613707b2545bda7399957c53afd6f37f514e", func := "kreisel/kreisellaw02.IceTrue", spec := "iceTrue", unfollowed := true, recurses := true, plainKeys := false, apart := false, narrowed := true }
def IceTrueUptoSaid : Prop := iceTrueUptoRow.holds Try.pinned (OpenSpec.upto iceTrueSpec)

/-- 'kreisellaw02.IceEnds', WHERE WHAT IT READS IS OF BULK AT MOST 1048576: true; the input reads as it did. -/
def iceEndsUptoRow : OpenClaim := { program := "ytpfliplcnjndpaa", sum := "b1c82da135d128210d9fbbb9c7d8613707b2545bda7399957c53afd6f37f514e", func := "kreisel/kreisellaw02.IceEnds", spec := "iceEnds", unfollowed := true, recurses := true, plainKeys := false, apart := false, narrowed := true }
def IceEndsUptoSaid : Prop := iceEndsUptoRow.holds Try.pinned (OpenSpec.upto iceEndsSpec)

/-- 'kreisellaw02.IceGoesOn', WHERE WHAT IT READS IS OF BULK AT MOST 1048576: true; the input reads as it did. -/
def iceGoesOnUptoRow : OpenClaim := { program := "ytpfliplcnjndpaa", sum := "b1c82da135d128210d9fbbb9c7d8613707b2545bda7399957c53afd6f37f514e", func := "kreisel/kreisellaw02.IceGoesOn", spec := "iceGoesOn", unfollowed := true, recurses := true, plainKeys := false, apart := false, narrowed := true }
def IceGoesOnUptoSaid : Prop := iceGoesOnUptoRow.holds Try.pinned (OpenSpec.upto iceGoesOnSpec)

/-- 'kreisellaw02.IceMost', WHERE WHAT IT READS IS OF BULK AT MOST 1048576: true; the input reads as it did. -/
def iceMostUptoRow : OpenClaim := { program := "ytpfliplcnjndpaa", sum := "b1c82da135d128210d9fbbb9c7d8613707b2545bda7399957c53afd6f37f514e", func := "kreisel/kreisellaw02.IceMost", spec := "iceMost", unfollowed := true, recurses := true, plainKeys := false, apart := false, narrowed := true }
def IceMostUptoSaid : Prop := iceMostUptoRow.holds Try.pinned (OpenSpec.upto iceMostSpec)

/-- 'kreisellaw02.IceDrilled', WHERE WHAT IT READS IS OF BULK AT MOST 1048576: true; the input reads as it did. -/
def iceDrilledUptoRow : OpenClaim := { program := "ytpfliplcnjndpaa", sum := "b1c82da135d128210d9fbbb9c7d8613707b2545bda7399957c53afd6f37f514e", func := "kreisel/kreisellaw02.IceDrilled", spec := "iceDrilled", unfollowed := true, recurses := true, plainKeys := false, apart := false, narrowed := true }
def IceDrilledUptoSaid : Prop := iceDrilledUptoRow.holds Try.pinned (OpenSpec.upto iceDrilledSpec)

/-- 'kreisellaw01.TrackUseless', WHERE WHAT IT READS IS OF BULK AT MOST 1048576: true; the input reads as it did. -/
def trackUselessUptoRow : OpenClaim := { program := "ytpfliplcnjndpaa", sum := "b1c82da135d128210d9fbbb9c7d8613707b2545bda7399957c53afd6f37f514e", func := "kreisel/kreisellaw01.TrackUseless", spec := "trackUseless", unfollowed := true, recurses := true, plainKeys := false, apart := false, narrowed := true }
def TrackUselessUptoSaid : Prop := trackUselessUptoRow.holds Try.pinned (OpenSpec.upto trackUselessSpec)

/-- 'kreisellaw03.SlideMore', WHERE WHAT IT READS IS OF BULK AT MOST 1048576: true; the input reads as it did. -/
def slideMoreUptoRow : OpenClaim := { program := "ytpfliplcnjndpaa", sum := "b1c82da135d128210d9fbbb9c7d8613707b2545bda7399957c53afd6f37f514e", func := "kreisel/kreisellaw03.SlideMore", spec := "slideMore", unfollowed := true, recurses := true, plainKeys := false, apart := false, narrowed := true }
def SlideMoreUptoSaid : Prop := slideMoreUptoRow.holds Try.pinned (OpenSpec.upto slideMoreSpec)

/-- 'kreisellaw04.ScaleExamples', WHERE WHAT IT READS IS OF BULK AT MOST 1048576: true; the input reads as it did. -/
def scaleExamplesUptoRow : OpenClaim := { program := "ytpfliplcnjndpaa", sum := "b1c82da135d128210d9fbbb9c7d8613707b2545bda7399957c53afd6f37f514e", func := "kreisel/kreisellaw04.ScaleExamples", spec := "scaleExamples", unfollowed := true, recurses := true, plainKeys := false, apart := false, narrowed := true }
def ScaleExamplesUptoSaid : Prop := scaleExamplesUptoRow.holds Try.pinned (OpenSpec.upto scaleExamplesSpec)

end Rows
end Go.Proofs.Ytpfliplcnjndpaa
