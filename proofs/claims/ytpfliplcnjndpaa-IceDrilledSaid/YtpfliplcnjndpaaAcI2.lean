/- The code of functions of the program, as abstract code. -/
import Derived.Test.YtpfliplcnjndpaaAc0
import Derived.Test.YtpfliplcnjndpaaProg
import Derived.Test.YtpfliplcnjndpaaAcI0
import Derived.KernelRfl
set_option linter.unusedSimpArgs false
set_option linter.unusedVariables false
set_option maxRecDepth 100000
set_option maxHeartbeats 4000000
namespace Go.Proofs
open Go.Abs
/- kreisel/ice.rules$2 -/
def ac_ice_rules_2 : AC := .seq (.ops [⟨some 1, .box (.t 0), none⟩, ⟨some 2, .mov (.c (.int .i64 0)), none⟩] (some [1])) (.seq (.ops [⟨some 3, .fieldAddr (.t 1) 8, none⟩, ⟨some 4, .load1 (.t 3), none⟩, ⟨some 2, .mov (.t 4), none⟩] (some [2])) (.ret))
theorem ok_ice_rules_2 : FnOK Try.prog F.ice_rules_2 ac_ice_rules_2 [.t 2] 1 := ⟨Try.f283, Try.func283, by kernel_rfl, by kernel_rfl, by kernel_rfl, by kernel_rfl⟩
/- kreisel/ice.rules$3 -/
def ac_ice_rules_3 : AC := .seq (.ops [⟨some 1, .box (.t 0), none⟩, ⟨some 2, .mov (.c (.bool false)), none⟩] (some [])) (.seq (.ops [⟨some 2, .mov (.c (.bool true)), none⟩] (some [2])) (.ret))
theorem ok_ice_rules_3 : FnOK Try.prog F.ice_rules_3 ac_ice_rules_3 [.t 2] 1 := ⟨Try.f284, Try.func284, by kernel_rfl, by kernel_rfl, by kernel_rfl, by kernel_rfl⟩
/- kreisel/ice.rules$4 -/
def ac_ice_rules_4 : AC := .seq (.ops [⟨some 1, .box (.t 0), none⟩, ⟨some 2, .mov (.c (.int .i64 0)), none⟩] (some [1])) (.seq (.ops [⟨some 3, .fieldAddr (.t 1) 9, none⟩, ⟨some 4, .load1 (.t 3), none⟩, ⟨some 2, .mov (.t 4), none⟩] (some [2])) (.ret))
theorem ok_ice_rules_4 : FnOK Try.prog F.ice_rules_4 ac_ice_rules_4 [.t 2] 1 := ⟨Try.f285, Try.func285, by kernel_rfl, by kernel_rfl, by kernel_rfl, by kernel_rfl⟩
end Go.Proofs
