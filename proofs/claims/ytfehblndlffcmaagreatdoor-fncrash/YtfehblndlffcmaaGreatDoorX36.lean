import Derived.Test.YtfehblndlffcmaaGreatDoorX34
import Derived.Test.YtfehblndlffcmaaGreatDoorX35
set_option maxRecDepth 100000
set_option maxHeartbeats 16000000
open Option renaming some->an,none->ba
open Bool renaming true->bg,false->bq
open Go.RowKit renaming Below->bs
open Decidable renaming decide->bx
open Go.Obj renaming cells->ca
open Go.Value renaming slice->cr,agg->ct,bool->ef
open Or renaming inl->dp,inr->eb
open Go.Ground renaming data->ed
open List renaming length->eh,toArray->ei
open Go.World renaming cell?->ek,grownBy->ep,setCell->ev
namespace Go.Proofs.YtfehblndlffcmaaGreatDoor
open ChangeShapes WideShapes ChangeAt RowKit _root_.Go.Proofs.Tryz List World Value
variable{b n c q g:Nat}{a:Zk}{p:Int}{w X Y:Zh}{u v:Vd}{r:Rs}
theorem Rp(c:Nat)(o:n<=maxLen)(b:UZ w a n)(l:n<=c)(j:Env w):
 D8 3 #[C3 a n c] w λe d=>e=C5 (ef bg)/\Zz w d:=by
 refine Qz a n c j ((Qx c o b l).ai ?_);rintro e d ⟨q,k,rfl,⟨u,p,rfl,f,g,h,i⟩,m,b⟩;exact⟨u,p,k,rfl,⟨f,g,h,i⟩,m,b⟩
