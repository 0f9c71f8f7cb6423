import Derived.Test.YtfmeclmjdpbacaaGreatDoorX01
import Derived.Test.YtfmeclmjdpbacaaGreatDoorProg
import Derived.Conc.RwLib
import Derived.Conc.MuLone
import Derived.KernelRfl
set_option maxRecDepth 100000
set_option maxHeartbeats 16000000
namespace Go.Proofs.YtfmeclmjdpbacaaGreatDoor
open ChangeShapes WideShapes ChangeAt RowKit _root_.Go.Proofs.Tryz List World Value
abbrev Acn:Go.Conc.Locks.MuLink:={lock:=71,unlock:=72,ilock:=110,iunlock:=111,lockSlow:=155,unlockSlow:=158,disable:=151,enable:=153,acquire:=154,relMerge:=156,cas32:=152,add32:=157,tMutex:=131,tIMutex:=129,tPMutex:=173,tPIMutex:=205,tPI32:=207,tUP:=209,tNoCopy:=126,tU32:=127}
theorem Gw:Go.Conc.Locks.MuLib prog Acn:=
 ⟨func71,func72,func110,func111,func151,func153,func154,func156,func152,func157,underlying129,runUnderlying129,sizeOf129,isAgg129,zeroValue129,underlying131,runUnderlying131,sizeOf131,isAgg131,zeroValue131,underlying173,runUnderlying173,sizeOf173,isAgg173,zeroValue173,underlying205,runUnderlying205,sizeOf205,isAgg205,zeroValue205,underlying207,runUnderlying207,sizeOf207,isAgg207,zeroValue207,underlying209,runUnderlying209,sizeOf209,isAgg209,zeroValue209,underlying126,runUnderlying126,sizeOf126,isAgg126,zeroValue126,underlying21,runUnderlying21,sizeOf21,isAgg21,zeroValue21,Yr⟩
