/-
  No cell of these rows narrows 'for every input' (looked for: loops, veiled, ifaces, maps, wideKeys, modest, calm, conditions, laid).
  DERIVED. THE GIVEN ROWS OF THIS SEAT. 3 by the template 'for every input the law returns true; each argument reads behind the call as it read before'; 0 by the template 'total and deterministic' (their statements: YtkkcejiejlppeaaTotals.lean).
  GIVEN WITH THE SEED: the statements are not yours to turn. If you find one false, say at which input.
  Laid BY PROGRAM, IN A SANDBOX (cutbox-rows.mjs): the forced cells as the released guide's own fill.sh prints them over the translation e976eb2fa2347d49… (all of the seat's roots in one cut). By AI agents, Wed Nov 11 2026. No macro, syntax, notation, axiom, sorry.
-/
import Derived.Test.YtkkcejiejlppeaaChecked
import GoSem.Claim
import GoSem.ClaimJoined
import GoSem.ClaimMapViews
import Derived.JoinedTies
import Derived.KernelRfl
namespace Go.Proofs.Ytkkcejiejlppeaa
/- THE CELL 'sum', in the pinned program and in every row, IS THE sha256 OF THE DUMP (.gsa) THAT YtkkcejiejlppeaaProg.lean LOADS. Nothing in Lean hashes anything: it is a label: what it is worth is what the hold of that sum in a sandbox is worth. -/
noncomputable def Try.pinned : Pinned := { name := "ytkkcejiejlppeaa", sum := "e976eb2fa2347d492de01ff2f023c948294092113b819cd8d0e941bfb27f8914", checked := Try.checked }
namespace Rows
def none {H : Type} : Left H := { results := [], args := [] }

/-- 'kreisellaw02.IceTrue': WHATEVER THE INPUT: true; the input reads as it did. -/
def iceTrueSpec : ChangeSpec := { name := "iceTrue", fn := fun _ => fun
  | [d1, d2] => { results := [.lit (.bool true)], args := [d1, d2] }
  | _ => none }
def iceTrueRow : OpenClaim := { program := "ytkkcejiejlppeaa", sum := "e976eb2fa2347d492de01ff2f023c948294092113b819cd8d0e941bfb27f8914", func := "kreisel/kreisellaw02.IceTrue", spec := "iceTrue", unfollowed := true, recurses := true, plainKeys := false, apart := false }
def IceTrueSaid : Prop := iceTrueRow.holds Try.pinned (OpenSpec.ofChange iceTrueSpec)

/-- ITS FALSE NEIGHBOUR: 'it returns false'. Refute it at one input. -/
def iceTrueWrong : ChangeSpec := { name := "iceTrue", fn := fun _ => fun
  | [d1, d2] => { results := [.lit (.bool false)], args := [d1, d2] }
  | _ => none }
def IceTrueWrongFalsely : Prop := iceTrueRow.holds Try.pinned (OpenSpec.ofChange iceTrueWrong)

/-- 'kreisellaw02.IceEnds': WHATEVER THE INPUT: true; the input reads as it did. -/
def iceEndsSpec : ChangeSpec := { name := "iceEnds", fn := fun _ => fun
  | [d1, d2] => { results := [.lit (.bool true)], args := [d1, d2] }
  | _ => none }
def iceEndsRow : OpenClaim := { program := "ytkkcejiejlppeaa", sum := "e976eb2fa2347d492de01ff2f023c948294092113b819cd8d0e941bfb27f8914", func := "kreisel/kreisellaw02.IceEnds", spec := "iceEnds", unfollowed := true, recurses := true, plainKeys := false, apart := false }
def IceEndsSaid : Prop := iceEndsRow.holds Try.pinned (OpenSpec.ofChange iceEndsSpec)

/-- ITS FALSE NEIGHBOUR: 'it returns false'. Refute it at one input. -/
def iceEndsWrong : ChangeSpec := { name := "iceEnds", fn := fun _ => fun
  | [d1, d2] => { results := [.lit (.bool false)], args := [d1, d2] }
  | _ => none }
def IceEndsWrongFalsely : Prop := iceEndsRow.holds Try.pinned (OpenSpec.ofChange iceEndsWrong)

/-- 'kreisellaw02.IceBeside': WHATEVER THE INPUT: true; the input reads as it did. -/
def iceBesideSpec : ChangeSpec := { name := "iceBeside", fn := fun _ => fun
  | [d1, d2, d3, d4] => { results := [.lit (.bool true)], args := [d1, d2, d3, d4] }
  | _ => none }
def iceBesideRow : OpenClaim := { program := "ytkkcejiejlppeaa", sum := "e976eb2fa2347d492de01ff2f023c948294092113b819cd8d0e941bfb27f8914", func := "kreisel/kreisellaw02.IceBeside", spec := "iceBeside", unfollowed := true, recurses := true, plainKeys := false, apart := false }
def IceBesideSaid : Prop := iceBesideRow.holds Try.pinned (OpenSpec.ofChange iceBesideSpec)

/-- ITS FALSE NEIGHBOUR: 'it returns false'. Refute it at one input. -/
def iceBesideWrong : ChangeSpec := { name := "iceBeside", fn := fun _ => fun
  | [d1, d2, d3, d4] => { results := [.lit (.bool false)], args := [d1, d2, d3, d4] }
  | _ => none }
def IceBesideWrongFalsely : Prop := iceBesideRow.holds Try.pinned (OpenSpec.ofChange iceBesideWrong)

/- THE SECOND FORM. 'bulk': how many values and letters a reading holds, each counted each time it is reached (what is shared counts as often as it is met; a slice's spare places count too). A statement '..UptoSaid' is the law's where the arguments, and the package variables that the reading takes, are together of bulk at most 1048576: NARROWER than '..Said'. Prove '..Said' where nothing that the law and all that it calls make is longer than what came in: it says more and counts as full. Else prove '..UptoSaid'. A law counts once. -/
mutual
def uptoBulk {H : Type} : DataW H → Nat
  | .lit (.string bytes) => bytes.length + 1
  | .lit _ => 1
  | .nil => 1
  | .ptr d => uptoBulk d + 1
  | .slice elems spare => uptoBulkAll elems + uptoBulkAll spare + 1
  | .agg parts => uptoBulkAll parts + 1
  | .iface _ d => uptoBulk d + 1
  | .map entries => uptoBulkEntries entries + 1
  | .held _ => 1
def uptoBulkAll {H : Type} : List (DataW H) → Nat
  | [] => 0
  | d :: r => uptoBulk d + uptoBulkAll r
def uptoBulkEntries {H : Type} : List (Lit × DataW H) → Nat
  | [] => 0
  | x :: r => uptoBulkEntry x + uptoBulkEntries r
def uptoBulkEntry {H : Type} : Lit × DataW H → Nat
  | (.string bytes, d) => bytes.length + uptoBulk d + 1
  | (_, d) => uptoBulk d + 1
 end
def uptoSmall : (H : Type) → List (DataW H) → Bool := fun _ ds => decide (uptoBulkAll ds ≤ 1048576)
def OpenSpec.upto (s : _root_.Go.ChangeSpec) : _root_.Go.OpenSpec := { _root_.Go.OpenSpec.ofChange s with cond := some uptoSmall }

/-- 'kreisellaw02.IceTrue', WHERE WHAT IT READS IS OF BULK AT MOST 1048576: true; the input reads as it did. -/
def iceTrueUptoRow : OpenClaim := { program := "ytkkcejiejlppeaa", sum := "e976eb2fa2347d492de01ff2f023c948294092113b819cd8d0e941bfb27f8914", func := "kreisel/kreisellaw02.IceTrue", spec := "iceTrue", unfollowed := true, recurses := true, plainKeys := false, apart := false, narrowed := true }
def IceTrueUptoSaid : Prop := iceTrueUptoRow.holds Try.pinned (OpenSpec.upto iceTrueSpec)

/-- 'kreisellaw02.IceEnds', WHERE WHAT IT READS IS OF BULK AT MOST 1048576: true; the input reads as it did. -/
def iceEndsUptoRow : OpenClaim := { program := "ytkkcejiejlppeaa", sum := "e976eb2fa2347d492de01ff2f023c948294092113b819cd8d0e941bfb27f8914", func := "kreisel/kreisellaw02.IceEnds", spec := "iceEnds", unfollowed := true, recurses := true, plainKeys := false, apart := false, narrowed := true }
def IceEndsUptoSaid : Prop := iceEndsUptoRow.holds Try.pinned (OpenSpec.upto iceEndsSpec)

/-- 'kreisellaw02.IceBeside', WHERE WHAT IT READS IS OF BULK AT MOST 1048576: true; the input reads as it did. -/
def iceBesideUptoRow : OpenClaim := { program := "ytkkcejiejlppeaa", sum := "e976eb2fa2347d492de01ff2f023c948294092113b819cd8d0e941bfb27f8914", func := "kreisel/kreisellaw02.IceBeside", spec := "iceBeside", unfollowed := true, recurses := true, plainKeys := false, apart := false, narrowed := true }
def IceBesideUptoSaid : Prop := iceBesideUptoRow.holds Try.pinned (OpenSpec.upto iceBesideSpec)

end Rows
end Go.Proofs.Ytkkcejiejlppeaa
