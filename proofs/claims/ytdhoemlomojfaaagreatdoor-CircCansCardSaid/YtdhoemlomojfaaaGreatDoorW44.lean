/- DERIVED. EvNm. By an AI agent. -/
import Derived.Test.YtdhoemlomojfaaaGreatDoorW43
import Derived.Test.YtdhoemlomojfaaaGreatDoorW10
import Derived.Test.YtdhoemlomojfaaaGreatDoorW41
import Derived.Test.YtdhoemlomojfaaaGreatDoorW15
import Derived.Test.YtdhoemlomojfaaaGreatDoorW39
import Derived.Test.YtdhoemlomojfaaaGreatDoorW38
import Derived.Test.YtdhoemlomojfaaaGreatDoorW03
import Derived.RangeFuncNested
import Derived.RangeFuncBound
import Derived.RangeFuncCalls
import Derived.RangeFuncLeaves
import Derived.RangeFuncBox
import Derived.Shelf.Abstract
import Derived.Shelf.RegionOpen
import Derived.WalkKit
import Derived.OwnWalkIn
import Derived.TacticsInMore
import Derived.LoopNIn
import Derived.LoopIn
set_option linter.unusedVariables false
set_option linter.unusedSimpArgs false
namespace Go.Proofs.YtdhoemlomojfaaaGreatDoor.Ev
open Go Go.ChangeShapes Go.WideShapes Go.ChangeAt Go.RowKit Lx Args Pa Sh Go.Proofs.YtdhoemlomojfaaaGreatDoor.Nm WMath Fl
section
attribute [local go_sem] Oper.semAt_some
/-! Names' words, as a map. -/
section
variable {w : World} {b n : Nat} {kn : Kn} {s : Bs}
end
/-! Names, gone through backward. -/
end
end Go.Proofs.YtdhoemlomojfaaaGreatDoor.Ev
