import Derived.Test.YtfmeclmjdpbacaaGreatDoorX13
import Derived.Test.YtfmeclmjdpbacaaGreatDoorX07
set_option maxRecDepth 100000
set_option maxHeartbeats 16000000
namespace Go.Proofs.YtfmeclmjdpbacaaGreatDoor
open ChangeShapes WideShapes ChangeAt RowKit _root_.Go.Proofs.Tryz List World Value
