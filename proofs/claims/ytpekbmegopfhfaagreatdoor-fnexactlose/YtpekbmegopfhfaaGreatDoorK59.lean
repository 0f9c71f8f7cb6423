import Derived.Test.YtpekbmegopfhfaaGreatDoorK49
set_option maxRecDepth 100000
set_option maxHeartbeats 16000000
namespace Go.Proofs.YtpekbmegopfhfaaGreatDoor
open Go.ChangeShapes Go.WideShapes Go.ChangeAt Go.RowKit _root_.Go.Proofs.Tryz
end Go.Proofs.YtpekbmegopfhfaaGreatDoor
