/-
  No cell of these rows narrows 'for every input' (looked for: loops, veiled, ifaces, maps, wideKeys, modest, calm, conditions, laid).
  DERIVED. THE GIVEN ROWS OF THIS SEAT. 5 by the template 'for every input the law returns true; each argument reads behind the call as it read before'; 0 by the template 'total and deterministic' (their statements: YtgaojjbkaoankaaTotals.lean).
  GIVEN WITH THE SEED: the statements are not yours to turn. If you find one false, say at which input.
  Laid BY PROGRAM, IN A SANDBOX (cutbox-rows.mjs): the forced cells as the released guide's own fill.sh prints them over the translation 138147dd893b0dac… (all of the seat's roots in one cut). By AI agents, Wed Nov 11 2026. No macro, syntax, notation, axiom, sorry.
-/
import Derived.Test.YtgaojjbkaoankaaChecked
import GoSem.Claim
import GoSem.ClaimJoined
import GoSem.ClaimMapViews
import Derived.JoinedTies
import Derived.KernelRfl
namespace Go.Proofs.Ytgaojjbkaoankaa
/- THE CELL 'sum', in the pinned program and in every row, IS THE sha256 OF THE DUMP (.gsa) THAT YtgaojjbkaoankaaProg.lean LOADS. Nothing in Lean hashes anything: it is a label: what it is worth is what the hold of that sum in a sandbox is worth. -/
noncomputable def Try.pinned : Pinned := { name := "ytgaojjbkaoankaa", sum := "138147dd893b0dac728171d0f0329b445503342c16e44709a7e578addd2fb0f9", checked := Try.checked }
namespace Rows
def none {H : Type} : Left H := { results := [], args := [] }

/-- 'kreisellaw02.IcePlans': WHATEVER THE INPUT: true; the input reads as it did. -/
def icePlansSpec : ChangeSpec := { name := "icePlans", fn := fun _ => fun
  | [d1, d2, d3] => { results := [.lit (.bool true)], args := [d1, d2, d3] }
  | _ => none }
def icePlansRow : OpenClaim := { program := "ytgaojjbkaoankaa", sum := "138147dd893b0dac728171d0f0329b445503342c16e44709a7e578addd2fb0f9", func := "kreisel/kreisellaw02.IcePlans", spec := "icePlans", unfollowed := true, recurses := true, plainKeys := false, apart := false }
def IcePlansSaid : Prop := icePlansRow.holds Try.pinned (OpenSpec.ofChange icePlansSpec)

/-- ITS FALSE NEIGHBOUR: 'it returns false'. Refute it at one input. -/
def icePlansWrong : ChangeSpec := { name := "icePlans", fn := fun _ => fun
  | [d1, d2, d3] => { results := [.lit (.bool false)], args := [d1, d2, d3] }
  | _ => none }
def IcePlansWrongFalsely : Prop := icePlansRow.holds Try.pinned (OpenSpec.ofChange icePlansWrong)

/-- 'kreisellaw02.IceLeast': WHATEVER THE INPUT: true; the input reads as it did. -/
def iceLeastSpec : ChangeSpec := { name := "iceLeast", fn := fun _ => fun
  | [d1, d2] => { results := [.lit (.bool true)], args := [d1, d2] }
  | _ => none }
def iceLeastRow : OpenClaim := { program := "ytgaojjbkaoankaa", sum := "138147dd893b0dac728171d0f0329b445503342c16e44709a7e578addd2fb0f9", func := "kreisel/kreisellaw02.IceLeast", spec := "iceLeast", unfollowed := true, recurses := true, plainKeys := false, apart := false }
def IceLeastSaid : Prop := iceLeastRow.holds Try.pinned (OpenSpec.ofChange iceLeastSpec)

/-- ITS FALSE NEIGHBOUR: 'it returns false'. Refute it at one input. -/
def iceLeastWrong : ChangeSpec := { name := "iceLeast", fn := fun _ => fun
  | [d1, d2] => { results := [.lit (.bool false)], args := [d1, d2] }
  | _ => none }
def IceLeastWrongFalsely : Prop := iceLeastRow.holds Try.pinned (OpenSpec.ofChange iceLeastWrong)

/-- 'kreisellaw02.IceNeeded': WHATEVER THE INPUT: true; the input reads as it did. -/
def iceNeededSpec : ChangeSpec := { name := "iceNeeded", fn := fun _ => fun
  | [d1, d2] => { results := [.lit (.bool true)], args := [d1, d2] }
  | _ => none }
def iceNeededRow : OpenClaim := { program := "ytgaojjbkaoankaa", sum := "138147dd893b0dac728171d0f0329b445503342c16e44709a7e578addd2fb0f9", func := "kreisel/kreisellaw02.IceNeeded", spec := "iceNeeded", unfollowed := true, recurses := true, plainKeys := false, apart := false }
def IceNeededSaid : Prop := iceNeededRow.holds Try.pinned (OpenSpec.ofChange iceNeededSpec)

/-- ITS FALSE NEIGHBOUR: 'it returns false'. Refute it at one input. -/
def iceNeededWrong : ChangeSpec := { name := "iceNeeded", fn := fun _ => fun
  | [d1, d2] => { results := [.lit (.bool false)], args := [d1, d2] }
  | _ => none }
def IceNeededWrongFalsely : Prop := iceNeededRow.holds Try.pinned (OpenSpec.ofChange iceNeededWrong)

/-- 'kreisellaw02.IceShort': WHATEVER THE INPUT: true; the input reads as it did. -/
def iceShortSpec : ChangeSpec := { name := "iceShort", fn := fun _ => fun
  | [d] => { results := [.lit (.bool true)], args := [d] }
  | _ => none }
def iceShortRow : OpenClaim := { program := "ytgaojjbkaoankaa", sum := "138147dd893b0dac728171d0f0329b445503342c16e44709a7e578addd2fb0f9", func := "kreisel/kreisellaw02.IceShort", spec := "iceShort", unfollowed := true, recurses := true, plainKeys := false, apart := false }
def IceShortSaid : Prop := iceShortRow.holds Try.pinned (OpenSpec.ofChange iceShortSpec)

/-- ITS FALSE NEIGHBOUR: 'it returns false'. Refute it at one input. -/
def iceShortWrong : ChangeSpec := { name := "iceShort", fn := fun _ => fun
  | [d] => { results := [.lit (.bool false)], args := [d] }
  | _ => none }
def IceShortWrongFalsely : Prop := iceShortRow.holds Try.pinned (OpenSpec.ofChange iceShortWrong)

/-- 'kreisellaw02.IceMore': WHATEVER THE INPUT: true; the input reads as it did. -/
def iceMoreSpec : ChangeSpec := { name := "iceMore", fn := fun _ => fun
  | [d1, d2] => { results := [.lit (.bool true)], args := [d1, d2] }
  | _ => none }
def iceMoreRow : OpenClaim := { program := "ytgaojjbkaoankaa", sum := "138147dd893b0dac728171d0f0329b445503342c16e44709a7e578addd2fb0f9", func := "kreisel/kreisellaw02.IceMore", spec := "iceMore", unfollowed := true, recurses := true, plainKeys := false, apart := false }
def IceMoreSaid : Prop := iceMoreRow.holds Try.pinned (OpenSpec.ofChange iceMoreSpec)

/-- ITS FALSE NEIGHBOUR: 'it returns false'. Refute it at one input. -/
def iceMoreWrong : ChangeSpec := { name := "iceMore", fn := fun _ => fun
  | [d1, d2] => { results := [.lit (.bool false)], args := [d1, d2] }
  | _ => none }
def IceMoreWrongFalsely : Prop := iceMoreRow.holds Try.pinned (OpenSpec.ofChange iceMoreWrong)

/- THE SECOND FORM. 'bulk': how many values and letters a reading holds, each counted each time it is reached (what is shared counts as often as it is met; a slice's spare places count too). A statement '..UptoSaid' is the law's where the arguments, and the package variables that the reading takes, are together of bulk at most 1048576: NARROWER than '..Said'. Prove '..Said' where nothing that the law and all that it calls make is longer than what came in: it says more and counts as full. Else prove '..UptoSaid'. A law counts once. -/
mutual
def uptoBulk {H : Type} : DataW H → Nat
  | .lit (.string bytes) => bytes.length + 1
  | .lit _ => 1
  | .nil => 1
  | .ptr d => uptoBulk d + 1
  | .slice elems spare => uptoBulkAll elems + uptoBulkAll spare + 1
  | .agg parts => uptoBulkAll parts + 1
  | .iface _ d => uptoBulk d + 1
  | .map entries => uptoBulkEntries entries + 1
  | .held _ => 1
def uptoBulkAll {H : Type} : List (DataW H) → Nat
  | [] => 0
  | d :: r => uptoBulk d + uptoBulkAll r
def uptoBulkEntries {H : Type} : List (Lit × DataW H) → Nat
  | [] => 0
  | x :: r => uptoBulkEntry x + uptoBulkEntries r
def uptoBulkEntry {H : Type} : Lit × DataW H → Nat
  | (.string bytes, d) => bytes.length + uptoBulk d + 1
  | (_, d) => uptoBulk d + 1
 end
def uptoSmall : (H : Type) → List (DataW H) → Bool := fun _ ds => decide (uptoBulkAll ds ≤ 1048576)
def OpenSpec.upto (s : _root_.Go.ChangeSpec) : _root_.Go.OpenSpec := { _root_.Go.OpenSpec.ofChange s with cond := some uptoSmall }

/-- 'kreisellaw02.IcePlans', WHERE WHAT IT READS IS OF BULK AT MOST 1048576: true; the input reads as it did. -/
def icePlansUptoRow : OpenClaim := { program := "ytgaojjbkaoankaa", sum := "138147dd893b0dac728171d0f0329b445503342c16e44709a7e578addd2fb0f9", func := "kreisel/kreisellaw02.IcePlans", spec := "icePlans", unfollowed := true, recurses := true, plainKeys := false, apart := false, narrowed := true }
def IcePlansUptoSaid : Prop := icePlansUptoRow.holds Try.pinned (OpenSpec.upto icePlansSpec)

/-- 'kreisellaw02.IceLeast', WHERE WHAT IT READS IS OF BULK AT MOST 1048576: true; the input reads as it did. -/
def iceLeastUptoRow : OpenClaim := { program := "ytgaojjbkaoankaa", sum := "138147dd893b0dac728171d0f0329b445503342c16e44709a7e578addd2fb0f9", func := "kreisel/kreisellaw02.IceLeast", spec := "iceLeast", unfollowed := true, recurses := true, plainKeys := false, apart := false, narrowed := true }
def IceLeastUptoSaid : Prop := iceLeastUptoRow.holds Try.pinned (OpenSpec.upto iceLeastSpec)

/-- 'kreisellaw02.IceNeeded', WHERE WHAT IT READS IS OF BULK AT MOST 1048576: true; the input reads as it did. -/
def iceNeededUptoRow : OpenClaim := { program := "ytgaojjbkaoankaa", sum := "138147dd893b0dac728171d0f0329b445503342c16e44709a7e578addd2fb0f9", func := "kreisel/kreisellaw02.IceNeeded", spec := "iceNeeded", unfollowed := true, recurses := true, plainKeys := false, apart := false, narrowed := true }
def IceNeededUptoSaid : Prop := iceNeededUptoRow.holds Try.pinned (OpenSpec.upto iceNeededSpec)

/-- 'kreisellaw02.IceShort', WHERE WHAT IT READS IS OF BULK AT MOST 1048576: true; the input reads as it did. -/
def iceShortUptoRow : OpenClaim := { program := "ytgaojjbkaoankaa", sum := "138147dd893b0dac728171d0f0329b445503342c16e44709a7e578addd2fb0f9", func := "kreisel/kreisellaw02.IceShort", spec := "iceShort", unfollowed := true, recurses := true, plainKeys := false, apart := false, narrowed := true }
def IceShortUptoSaid : Prop := iceShortUptoRow.holds Try.pinned (OpenSpec.upto iceShortSpec)

/-- 'kreisellaw02.IceMore', WHERE WHAT IT READS IS OF BULK AT MOST 1048576: true; the input reads as it did. -/
def iceMoreUptoRow : OpenClaim := { program := "ytgaojjbkaoankaa", sum := "138147dd893b0dac728171d0f0329b445503342c16e44709a7e578addd2fb0f9", func := "kreisel/kreisellaw02.IceMore", spec := "iceMore", unfollowed := true, recurses := true, plainKeys := false, apart := false, narrowed := true }
def IceMoreUptoSaid : Prop := iceMoreUptoRow.holds Try.pinned (OpenSpec.upto iceMoreSpec)

end Rows
end Go.Proofs.Ytgaojjbkaoankaa
