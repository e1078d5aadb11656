/- strings.TrimSuffix as a plain function, and the contract of the program's: where the plain one has an answer, the program has it. Conditions: slices read as lists. -/
import Derived.Test.YtgfepdfamhnppaaDoorChecked
import Derived.Test.YtgfepdfamhnppaaDoorGoM
import Derived.Test.YtgfepdfamhnppaaDoorGxInternalStringsliteTrimSuffix
import Derived.WalkKit
import Derived.WalkSpells
import Derived.WalkLawsBesides
import Derived.BigQuiet
import Derived.OwnWalk
import Derived.Deep.LoopGhost
import Derived.Deep.QuietTactic
import Derived.IntWalk
import Derived.Lib.QuietBelow
namespace Go.Proofs.YtgfepdfamhnppaaDoor.GxStringsTrimSuffix
set_option linter.unusedVariables false
set_option linter.unusedSimpArgs false
open Go.RowKit
open Go.Proofs.YtgfepdfamhnppaaDoor.Rowed Go.Proofs.YtgfepdfamhnppaaDoor.Turn Go.Proofs.YtgfepdfamhnppaaDoor.Aid Go.Proofs.YtgfepdfamhnppaaDoor.GoP Go.Proofs.YtgfepdfamhnppaaDoor.GoM

def P (s_0 : ByteArray) (suffix : ByteArray) : Option (ByteArray) :=
  Option.bind (Go.Proofs.YtgfepdfamhnppaaDoor.GxInternalStringsliteTrimSuffix.P s_0 suffix) fun (t_3 : ByteArray) =>
  some t_3

set_option maxRecDepth 100000 in
set_option maxHeartbeats 2000000 in
theorem C (s_0 : ByteArray) (suffix : ByteArray)   (w : World)   {r : ByteArray} (H : Hid (P s_0 suffix = some r)) :
    Calls Tryd.prog 18 #[.string s_0, .string suffix] w (Gives (.string r) w) := by
  have HB := Lib.hid (Below.refl w.heap.size w)
  unfold P at H
  go_enter Tryd.func18, Tryd.ntmps18
  replace H := bind_hid H
  obtain ⟨t_3, qt_3, H⟩ := H
  go_wp2_with fail
  go_at_call 30
  refine (Go.Proofs.YtgfepdfamhnppaaDoor.GxInternalStringsliteTrimSuffix.C (s_0) (suffix)  _   qt_3).mono ?_
  rintro e_t_3 wt_3 ⟨rfl, bt_3⟩
  have HBwt_3 := Lib.hid (Below.step HB.out bt_3)
  clear bt_3
  obtain rfl := ret_hid H
  go_wp2_with fail
  go_ret
  exact ⟨rfl, HBwt_3.out⟩
end Go.Proofs.YtgfepdfamhnppaaDoor.GxStringsTrimSuffix
