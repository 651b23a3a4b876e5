/-
  No cell of these rows narrows 'for every input' (looked for: loops, veiled, ifaces, maps, wideKeys, modest, calm, conditions, laid).
  DERIVED. THE GIVEN ROWS OF THIS SEAT. 12 by the template 'for every input the law returns true; each argument reads behind the call as it read before'; 0 by the template 'total and deterministic' (their statements: YtaplmfpbjplagabTotals.lean).
  GIVEN WITH THE SEED: the statements are not yours to turn. If you find one false, say at which input.
  Laid BY PROGRAM, IN A SANDBOX (cutbox-rows.mjs): the forced cells as the released guide's own fill.sh prints them over the translation 1a2e2a93cad5c497… (all of the seat's roots in one cut). By AI agents, Wed Nov 11 2026. No macro, syntax, notation, axiom, sorry.
-/
import Derived.Test.YtaplmfpbjplagabChecked
import GoSem.Claim
import GoSem.ClaimJoined
import GoSem.ClaimMapViews
import Derived.JoinedTies
import Derived.KernelRfl
namespace Go.Proofs.Ytaplmfpbjplagab
/- THE CELL 'sum', in the pinned program and in every row, IS THE sha256 OF THE DUMP (.gsa) THAT YtaplmfpbjplagabProg.lean LOADS. Nothing in Lean hashes anything: it is a label: what it is worth is what the hold of that sum in a sandbox is worth. -/
noncomputable def Try.pinned : Pinned := { name := "ytaplmfpbjplagab", sum := "1a2e2a93cad5c49748d44cd59aa20c6712323652a33e63c649aba049af4f25ea", checked := Try.checked }
namespace Rows
def none {H : Type} : Left H := { results := [], args := [] }

/-- 'kreisellaw01.TrackLonger': WHATEVER THE INPUT: true; the input reads as it did. -/
def trackLongerSpec : ChangeSpec := { name := "trackLonger", fn := fun _ => fun
  | [d1, d2, d3, d4] => { results := [.lit (.bool true)], args := [d1, d2, d3, d4] }
  | _ => none }
def trackLongerRow : OpenClaim := { program := "ytaplmfpbjplagab", sum := "1a2e2a93cad5c49748d44cd59aa20c6712323652a33e63c649aba049af4f25ea", func := "kreisel/kreisellaw01.TrackLonger", spec := "trackLonger", unfollowed := true, recurses := true, plainKeys := false, apart := false }
def TrackLongerSaid : Prop := trackLongerRow.holds Try.pinned (OpenSpec.ofChange trackLongerSpec)

/-- ITS FALSE NEIGHBOUR: 'it returns false'. Refute it at one input. -/
def trackLongerWrong : ChangeSpec := { name := "trackLonger", fn := fun _ => fun
  | [d1, d2, d3, d4] => { results := [.lit (.bool false)], args := [d1, d2, d3, d4] }
  | _ => none }
def TrackLongerWrongFalsely : Prop := trackLongerRow.holds Try.pinned (OpenSpec.ofChange trackLongerWrong)

/-- 'kreisellaw01.TrackSteep': WHATEVER THE INPUT: true; the input reads as it did. -/
def trackSteepSpec : ChangeSpec := { name := "trackSteep", fn := fun _ => fun
  | [d1, d2] => { results := [.lit (.bool true)], args := [d1, d2] }
  | _ => none }
def trackSteepRow : OpenClaim := { program := "ytaplmfpbjplagab", sum := "1a2e2a93cad5c49748d44cd59aa20c6712323652a33e63c649aba049af4f25ea", func := "kreisel/kreisellaw01.TrackSteep", spec := "trackSteep", unfollowed := true, recurses := true, plainKeys := false, apart := false }
def TrackSteepSaid : Prop := trackSteepRow.holds Try.pinned (OpenSpec.ofChange trackSteepSpec)

/-- ITS FALSE NEIGHBOUR: 'it returns false'. Refute it at one input. -/
def trackSteepWrong : ChangeSpec := { name := "trackSteep", fn := fun _ => fun
  | [d1, d2] => { results := [.lit (.bool false)], args := [d1, d2] }
  | _ => none }
def TrackSteepWrongFalsely : Prop := trackSteepRow.holds Try.pinned (OpenSpec.ofChange trackSteepWrong)

/-- 'kreisellaw02.IceExamples': WHATEVER THE INPUT: true; the input reads as it did. -/
def iceExamplesSpec : ChangeSpec := { name := "iceExamples", fn := fun _ => fun
  | [] => { results := [.lit (.bool true)], args := [] }
  | _ => none }
def iceExamplesRow : OpenClaim := { program := "ytaplmfpbjplagab", sum := "1a2e2a93cad5c49748d44cd59aa20c6712323652a33e63c649aba049af4f25ea", func := "kreisel/kreisellaw02.IceExamples", spec := "iceExamples", unfollowed := true, recurses := true, plainKeys := false, apart := false }
def IceExamplesSaid : Prop := iceExamplesRow.holds Try.pinned (OpenSpec.ofChange iceExamplesSpec)

/-- ITS FALSE NEIGHBOUR: 'it returns false'. Refute it at one input. -/
def iceExamplesWrong : ChangeSpec := { name := "iceExamples", fn := fun _ => fun
  | [] => { results := [.lit (.bool false)], args := [] }
  | _ => none }
def IceExamplesWrongFalsely : Prop := iceExamplesRow.holds Try.pinned (OpenSpec.ofChange iceExamplesWrong)

/-- 'kreisellaw02.IceThicks': WHATEVER THE INPUT: true; the input reads as it did. -/
def iceThicksSpec : ChangeSpec := { name := "iceThicks", fn := fun _ => fun
  | [d1, d2, d3, d4] => { results := [.lit (.bool true)], args := [d1, d2, d3, d4] }
  | _ => none }
def iceThicksRow : OpenClaim := { program := "ytaplmfpbjplagab", sum := "1a2e2a93cad5c49748d44cd59aa20c6712323652a33e63c649aba049af4f25ea", func := "kreisel/kreisellaw02.IceThicks", spec := "iceThicks", unfollowed := true, recurses := true, plainKeys := false, apart := false }
def IceThicksSaid : Prop := iceThicksRow.holds Try.pinned (OpenSpec.ofChange iceThicksSpec)

/-- ITS FALSE NEIGHBOUR: 'it returns false'. Refute it at one input. -/
def iceThicksWrong : ChangeSpec := { name := "iceThicks", fn := fun _ => fun
  | [d1, d2, d3, d4] => { results := [.lit (.bool false)], args := [d1, d2, d3, d4] }
  | _ => none }
def IceThicksWrongFalsely : Prop := iceThicksRow.holds Try.pinned (OpenSpec.ofChange iceThicksWrong)

/-- 'kreisellaw02.IceThins': WHATEVER THE INPUT: true; the input reads as it did. -/
def iceThinsSpec : ChangeSpec := { name := "iceThins", fn := fun _ => fun
  | [d1, d2] => { results := [.lit (.bool true)], args := [d1, d2] }
  | _ => none }
def iceThinsRow : OpenClaim := { program := "ytaplmfpbjplagab", sum := "1a2e2a93cad5c49748d44cd59aa20c6712323652a33e63c649aba049af4f25ea", func := "kreisel/kreisellaw02.IceThins", spec := "iceThins", unfollowed := true, recurses := true, plainKeys := false, apart := false }
def IceThinsSaid : Prop := iceThinsRow.holds Try.pinned (OpenSpec.ofChange iceThinsSpec)

/-- ITS FALSE NEIGHBOUR: 'it returns false'. Refute it at one input. -/
def iceThinsWrong : ChangeSpec := { name := "iceThins", fn := fun _ => fun
  | [d1, d2] => { results := [.lit (.bool false)], args := [d1, d2] }
  | _ => none }
def IceThinsWrongFalsely : Prop := iceThinsRow.holds Try.pinned (OpenSpec.ofChange iceThinsWrong)

/-- 'kreisellaw02.IcePlans': WHATEVER THE INPUT: true; the input reads as it did. -/
def icePlansSpec : ChangeSpec := { name := "icePlans", fn := fun _ => fun
  | [d1, d2, d3] => { results := [.lit (.bool true)], args := [d1, d2, d3] }
  | _ => none }
def icePlansRow : OpenClaim := { program := "ytaplmfpbjplagab", sum := "1a2e2a93cad5c49748d44cd59aa20c6712323652a33e63c649aba049af4f25ea", func := "kreisel/kreisellaw02.IcePlans", spec := "icePlans", unfollowed := true, recurses := true, plainKeys := false, apart := false }
def IcePlansSaid : Prop := icePlansRow.holds Try.pinned (OpenSpec.ofChange icePlansSpec)

/-- ITS FALSE NEIGHBOUR: 'it returns false'. Refute it at one input. -/
def icePlansWrong : ChangeSpec := { name := "icePlans", fn := fun _ => fun
  | [d1, d2, d3] => { results := [.lit (.bool false)], args := [d1, d2, d3] }
  | _ => none }
def IcePlansWrongFalsely : Prop := icePlansRow.holds Try.pinned (OpenSpec.ofChange icePlansWrong)

/-- 'kreisellaw02.IceTrue': WHATEVER THE INPUT: true; the input reads as it did. -/
def iceTrueSpec : ChangeSpec := { name := "iceTrue", fn := fun _ => fun
  | [d1, d2] => { results := [.lit (.bool true)], args := [d1, d2] }
  | _ => none }
def iceTrueRow : OpenClaim := { program := "ytaplmfpbjplagab", sum := "1a2e2a93cad5c49748d44cd59aa20c6712323652a33e63c649aba049af4f25ea", func := "kreisel/kreisellaw02.IceTrue", spec := "iceTrue", unfollowed := true, recurses := true, plainKeys := false, apart := false }
def IceTrueSaid : Prop := iceTrueRow.holds Try.pinned (OpenSpec.ofChange iceTrueSpec)

/-- ITS FALSE NEIGHBOUR: 'it returns false'. Refute it at one input. -/
def iceTrueWrong : ChangeSpec := { name := "iceTrue", fn := fun _ => fun
  | [d1, d2] => { results := [.lit (.bool false)], args := [d1, d2] }
  | _ => none }
def IceTrueWrongFalsely : Prop := iceTrueRow.holds Try.pinned (OpenSpec.ofChange iceTrueWrong)

/-- 'kreisellaw02.IceEnds': WHATEVER THE INPUT: true; the input reads as it did. -/
def iceEndsSpec : ChangeSpec := { name := "iceEnds", fn := fun _ => fun
  | [d1, d2] => { results := [.lit (.bool true)], args := [d1, d2] }
  | _ => none }
def iceEndsRow : OpenClaim := { program := "ytaplmfpbjplagab", sum := "1a2e2a93cad5c49748d44cd59aa20c6712323652a33e63c649aba049af4f25ea", func := "kreisel/kreisellaw02.IceEnds", spec := "iceEnds", unfollowed := true, recurses := true, plainKeys := false, apart := false }
def IceEndsSaid : Prop := iceEndsRow.holds Try.pinned (OpenSpec.ofChange iceEndsSpec)

/-- ITS FALSE NEIGHBOUR: 'it returns false'. Refute it at one input. -/
def iceEndsWrong : ChangeSpec := { name := "iceEnds", fn := fun _ => fun
  | [d1, d2] => { results := [.lit (.bool false)], args := [d1, d2] }
  | _ => none }
def IceEndsWrongFalsely : Prop := iceEndsRow.holds Try.pinned (OpenSpec.ofChange iceEndsWrong)

/-- 'kreisellaw02.IceLeast': WHATEVER THE INPUT: true; the input reads as it did. -/
def iceLeastSpec : ChangeSpec := { name := "iceLeast", fn := fun _ => fun
  | [d1, d2] => { results := [.lit (.bool true)], args := [d1, d2] }
  | _ => none }
def iceLeastRow : OpenClaim := { program := "ytaplmfpbjplagab", sum := "1a2e2a93cad5c49748d44cd59aa20c6712323652a33e63c649aba049af4f25ea", func := "kreisel/kreisellaw02.IceLeast", spec := "iceLeast", unfollowed := true, recurses := true, plainKeys := false, apart := false }
def IceLeastSaid : Prop := iceLeastRow.holds Try.pinned (OpenSpec.ofChange iceLeastSpec)

/-- ITS FALSE NEIGHBOUR: 'it returns false'. Refute it at one input. -/
def iceLeastWrong : ChangeSpec := { name := "iceLeast", fn := fun _ => fun
  | [d1, d2] => { results := [.lit (.bool false)], args := [d1, d2] }
  | _ => none }
def IceLeastWrongFalsely : Prop := iceLeastRow.holds Try.pinned (OpenSpec.ofChange iceLeastWrong)

/-- 'kreisellaw02.IceNeeded': WHATEVER THE INPUT: true; the input reads as it did. -/
def iceNeededSpec : ChangeSpec := { name := "iceNeeded", fn := fun _ => fun
  | [d1, d2] => { results := [.lit (.bool true)], args := [d1, d2] }
  | _ => none }
def iceNeededRow : OpenClaim := { program := "ytaplmfpbjplagab", sum := "1a2e2a93cad5c49748d44cd59aa20c6712323652a33e63c649aba049af4f25ea", func := "kreisel/kreisellaw02.IceNeeded", spec := "iceNeeded", unfollowed := true, recurses := true, plainKeys := false, apart := false }
def IceNeededSaid : Prop := iceNeededRow.holds Try.pinned (OpenSpec.ofChange iceNeededSpec)

/-- ITS FALSE NEIGHBOUR: 'it returns false'. Refute it at one input. -/
def iceNeededWrong : ChangeSpec := { name := "iceNeeded", fn := fun _ => fun
  | [d1, d2] => { results := [.lit (.bool false)], args := [d1, d2] }
  | _ => none }
def IceNeededWrongFalsely : Prop := iceNeededRow.holds Try.pinned (OpenSpec.ofChange iceNeededWrong)

/-- 'kreisellaw02.IceShort': WHATEVER THE INPUT: true; the input reads as it did. -/
def iceShortSpec : ChangeSpec := { name := "iceShort", fn := fun _ => fun
  | [d] => { results := [.lit (.bool true)], args := [d] }
  | _ => none }
def iceShortRow : OpenClaim := { program := "ytaplmfpbjplagab", sum := "1a2e2a93cad5c49748d44cd59aa20c6712323652a33e63c649aba049af4f25ea", func := "kreisel/kreisellaw02.IceShort", spec := "iceShort", unfollowed := true, recurses := true, plainKeys := false, apart := false }
def IceShortSaid : Prop := iceShortRow.holds Try.pinned (OpenSpec.ofChange iceShortSpec)

/-- ITS FALSE NEIGHBOUR: 'it returns false'. Refute it at one input. -/
def iceShortWrong : ChangeSpec := { name := "iceShort", fn := fun _ => fun
  | [d] => { results := [.lit (.bool false)], args := [d] }
  | _ => none }
def IceShortWrongFalsely : Prop := iceShortRow.holds Try.pinned (OpenSpec.ofChange iceShortWrong)

/-- 'kreisellaw02.IceMore': WHATEVER THE INPUT: true; the input reads as it did. -/
def iceMoreSpec : ChangeSpec := { name := "iceMore", fn := fun _ => fun
  | [d1, d2] => { results := [.lit (.bool true)], args := [d1, d2] }
  | _ => none }
def iceMoreRow : OpenClaim := { program := "ytaplmfpbjplagab", sum := "1a2e2a93cad5c49748d44cd59aa20c6712323652a33e63c649aba049af4f25ea", func := "kreisel/kreisellaw02.IceMore", spec := "iceMore", unfollowed := true, recurses := true, plainKeys := false, apart := false }
def IceMoreSaid : Prop := iceMoreRow.holds Try.pinned (OpenSpec.ofChange iceMoreSpec)

/-- ITS FALSE NEIGHBOUR: 'it returns false'. Refute it at one input. -/
def iceMoreWrong : ChangeSpec := { name := "iceMore", fn := fun _ => fun
  | [d1, d2] => { results := [.lit (.bool false)], args := [d1, d2] }
  | _ => none }
def IceMoreWrongFalsely : Prop := iceMoreRow.holds Try.pinned (OpenSpec.ofChange iceMoreWrong)

/- THE SECOND FORM. 'bulk': how many values and letters a reading holds, each counted each time it is reached (what is shared counts as often as it is met; a slice's spare places count too). A statement '..UptoSaid' is the law's where the arguments, and the package variables that the reading takes, are together of bulk at most 1048576: NARROWER than '..Said'. Prove '..Said' where nothing that the law and all that it calls make is longer than what came in: it says more and counts as full. Else prove '..UptoSaid'. A law counts once. -/
mutual
def uptoBulk {H : Type} : DataW H → Nat
  | .lit (.string bytes) => bytes.length + 1
  | .lit _ => 1
  | .nil => 1
  | .ptr d => uptoBulk d + 1
  | .slice elems spare => uptoBulkAll elems + uptoBulkAll spare + 1
  | .agg parts => uptoBulkAll parts + 1
  | .iface _ d => uptoBulk d + 1
  | .map entries => uptoBulkEntries entries + 1
  | .held _ => 1
def uptoBulkAll {H : Type} : List (DataW H) → Nat
  | [] => 0
  | d :: r => uptoBulk d + uptoBulkAll r
def uptoBulkEntries {H : Type} : List (Lit × DataW H) → Nat
  | [] => 0
  | x :: r => uptoBulkEntry x + uptoBulkEntries r
def uptoBulkEntry {H : Type} : Lit × DataW H → Nat
  | (.string bytes, d) => bytes.length + uptoBulk d + 1
  | (_, d) => uptoBulk d + 1
 end
def uptoSmall : (H : Type) → List (DataW H) → Bool := fun _ ds => decide (uptoBulkAll ds ≤ 1048576)
def OpenSpec.upto (s : _root_.Go.ChangeSpec) : _root_.Go.OpenSpec := { _root_.Go.OpenSpec.ofChange s with cond := some uptoSmall }

/-- 'kreisellaw01.TrackLonger', WHERE WHAT IT READS IS OF BULK AT MOST 1048576: true; the input reads as it did. -/
def trackLongerUptoRow : OpenClaim := { program := "ytaplmfpbjplagab", sum := "1a2e2a93cad5c49748d44cd59aa20c6712323652a33e63c649aba049af4f25ea", func := "kreisel/kreisellaw01.TrackLonger", spec := "trackLonger", unfollowed := true, recurses := true, plainKeys := false, apart := false, narrowed := true }
def TrackLongerUptoSaid : Prop := trackLongerUptoRow.holds Try.pinned (OpenSpec.upto trackLongerSpec)

/-- 'kreisellaw01.TrackSteep', WHERE WHAT IT READS IS OF BULK AT MOST 1048576: true; the input reads as it did. -/
def trackSteepUptoRow : OpenClaim := { program := "ytaplmfpbjplagab", sum := "1a2e2a93cad5c49748d44cd59aa20c6712323652a33e63c649aba049af4f25ea", func := "kreisel/kreisellaw01.TrackSteep", spec := "trackSteep", unfollowed := true, recurses := true, plainKeys := false, apart := false, narrowed := true }
def TrackSteepUptoSaid : Prop := trackSteepUptoRow.holds Try.pinned (OpenSpec.upto trackSteepSpec)

/-- 'kreisellaw02.IceExamples', WHERE WHAT IT READS IS OF BULK AT MOST 1048576: true; the input reads as it did. -/
def iceExamplesUptoRow : OpenClaim := { program := "ytaplmfpbjplagab", sum := "1a2e2a93cad5c49748d44cd59aa20c6712323652a33e63c649aba049af4f25ea", func := "kreisel/kreisellaw02.IceExamples", spec := "iceExamples", unfollowed := true, recurses := true, plainKeys := false, apart := false, narrowed := true }
def IceExamplesUptoSaid : Prop := iceExamplesUptoRow.holds Try.pinned (OpenSpec.upto iceExamplesSpec)

/-- 'kreisellaw02.IceThicks', WHERE WHAT IT READS IS OF BULK AT MOST 1048576: true; the input reads as it did. -/
def iceThicksUptoRow : OpenClaim := { program := "ytaplmfpbjplagab", sum := "1a2e2a93cad5c49748d44cd59aa20c6712323652a33e63c649aba049af4f25ea", func := "kreisel/kreisellaw02.IceThicks", spec := "iceThicks", unfollowed := true, recurses := true, plainKeys := false, apart := false, narrowed := true }
def IceThicksUptoSaid : Prop := iceThicksUptoRow.holds Try.pinned (OpenSpec.upto iceThicksSpec)

/-- 'kreisellaw02.IceThins', WHERE WHAT IT READS IS OF BULK AT MOST 1048576: true; the input reads as it did. -/
def iceThinsUptoRow : OpenClaim := { program := "ytaplmfpbjplagab", sum := "1a2e2a93cad5c49748d44cd59aa20c6712323652a33e63c649aba049af4f25ea", func := "kreisel/kreisellaw02.IceThins", spec := "iceThins", unfollowed := true, recurses := true, plainKeys := false, apart := false, narrowed := true }
def IceThinsUptoSaid : Prop := iceThinsUptoRow.holds Try.pinned (OpenSpec.upto iceThinsSpec)

/-- 'kreisellaw02.IcePlans', WHERE WHAT IT READS IS OF BULK AT MOST 1048576: true; the input reads as it did. -/
def icePlansUptoRow : OpenClaim := { program := "ytaplmfpbjplagab", sum := "1a2e2a93cad5c49748d44cd59aa20c6712323652a33e63c649aba049af4f25ea", func := "kreisel/kreisellaw02.IcePlans", spec := "icePlans", unfollowed := true, recurses := true, plainKeys := false, apart := false, narrowed := true }
def IcePlansUptoSaid : Prop := icePlansUptoRow.holds Try.pinned (OpenSpec.upto icePlansSpec)

/-- 'kreisellaw02.IceTrue', WHERE WHAT IT READS IS OF BULK AT MOST 1048576: true; the input reads as it did. -/
def iceTrueUptoRow : OpenClaim := { program := "ytaplmfpbjplagab", sum := "1a2e2a93cad5c49748d44cd59aa20c6712323652a33e63c649aba049af4f25ea", func := "kreisel/kreisellaw02.IceTrue", spec := "iceTrue", unfollowed := true, recurses := true, plainKeys := false, apart := false, narrowed := true }
def IceTrueUptoSaid : Prop := iceTrueUptoRow.holds Try.pinned (OpenSpec.upto iceTrueSpec)

/-- 'kreisellaw02.IceEnds', WHERE WHAT IT READS IS OF BULK AT MOST 1048576: true; the input reads as it did. -/
def iceEndsUptoRow : OpenClaim := { program := "ytaplmfpbjplagab", sum := "1a2e2a93cad5c49748d44cd59aa20c6712323652a33e63c649aba049af4f25ea", func := "kreisel/kreisellaw02.IceEnds", spec := "iceEnds", unfollowed := true, recurses := true, plainKeys := false, apart := false, narrowed := true }
def IceEndsUptoSaid : Prop := iceEndsUptoRow.holds Try.pinned (OpenSpec.upto iceEndsSpec)

/-- 'kreisellaw02.IceLeast', WHERE WHAT IT READS IS OF BULK AT MOST 1048576: true; the input reads as it did. -/
def iceLeastUptoRow : OpenClaim := { program := "ytaplmfpbjplagab", sum := "1a2e2a93cad5c49748d44cd59aa20c6712323652a33e63c649aba049af4f25ea", func := "kreisel/kreisellaw02.IceLeast", spec := "iceLeast", unfollowed := true, recurses := true, plainKeys := false, apart := false, narrowed := true }
def IceLeastUptoSaid : Prop := iceLeastUptoRow.holds Try.pinned (OpenSpec.upto iceLeastSpec)

/-- 'kreisellaw02.IceNeeded', WHERE WHAT IT READS IS OF BULK AT MOST 1048576: true; the input reads as it did. -/
def iceNeededUptoRow : OpenClaim := { program := "ytaplmfpbjplagab", sum := "1a2e2a93cad5c49748d44cd59aa20c6712323652a33e63c649aba049af4f25ea", func := "kreisel/kreisellaw02.IceNeeded", spec := "iceNeeded", unfollowed := true, recurses := true, plainKeys := false, apart := false, narrowed := true }
def IceNeededUptoSaid : Prop := iceNeededUptoRow.holds Try.pinned (OpenSpec.upto iceNeededSpec)

/-- 'kreisellaw02.IceShort', WHERE WHAT IT READS IS OF BULK AT MOST 1048576: true; the input reads as it did. -/
def iceShortUptoRow : OpenClaim := { program := "ytaplmfpbjplagab", sum := "1a2e2a93cad5c49748d44cd59aa20c6712323652a33e63c649aba049af4f25ea", func := "kreisel/kreisellaw02.IceShort", spec := "iceShort", unfollowed := true, recurses := true, plainKeys := false, apart := false, narrowed := true }
def IceShortUptoSaid : Prop := iceShortUptoRow.holds Try.pinned (OpenSpec.upto iceShortSpec)

/-- 'kreisellaw02.IceMore', WHERE WHAT IT READS IS OF BULK AT MOST 1048576: true; the input reads as it did. -/
def iceMoreUptoRow : OpenClaim := { program := "ytaplmfpbjplagab", sum := "1a2e2a93cad5c49748d44cd59aa20c6712323652a33e63c649aba049af4f25ea", func := "kreisel/kreisellaw02.IceMore", spec := "iceMore", unfollowed := true, recurses := true, plainKeys := false, apart := false, narrowed := true }
def IceMoreUptoSaid : Prop := iceMoreUptoRow.holds Try.pinned (OpenSpec.upto iceMoreSpec)

end Rows
end Go.Proofs.Ytaplmfpbjplagab
