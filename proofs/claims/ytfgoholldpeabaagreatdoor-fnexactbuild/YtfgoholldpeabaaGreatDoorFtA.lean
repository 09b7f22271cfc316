import Derived.Test.YtfgoholldpeabaaGreatDoorTNLookS
namespace Go.Proofs.YtfgoholldpeabaaGreatDoor
open _root_.Go.Proofs.Tryz Go.RowKit
set_option linter.unusedVariables false
set_option linter.unusedSimpArgs false

end Go.Proofs.YtfgoholldpeabaaGreatDoor
