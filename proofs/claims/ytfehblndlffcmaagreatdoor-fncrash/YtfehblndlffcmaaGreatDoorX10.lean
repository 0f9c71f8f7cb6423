import Derived.Test.YtfehblndlffcmaaGreatDoorX08
import Derived.Test.YtfehblndlffcmaaGreatDoorX06
set_option maxRecDepth 100000
set_option maxHeartbeats 16000000
open List renaming length->eh
namespace Go.Proofs.YtfehblndlffcmaaGreatDoor
open ChangeShapes WideShapes ChangeAt RowKit _root_.Go.Proofs.Tryz List World Value
section
attribute [local go_sem↓] Go.wp_at_zero Go.wp_at_succ
structure Vj (wd:Int) (ks:List Kd) (ps:List Pd) (ls:List Ld):Prop where
 w8:wd<=8
 nk:eh ks<=600
 np:eh ps<=100
 nl:eh ls<=200
 cz:∀k∈ks,eh k.D<=30
 sum:∀k∈ks,(k.sum.size:Int)=wd
 rsz:∀k∈ks,∀r∈k.D,(r.size:Int)=wd
 ref:∀k∈ks,∀r∈k.D,AA ks r
 de:∀p∈ps,AA ks p.sum
 iq:∀l∈ls,AA ks l.sum
 uniq:∀u∈ks,∀v∈ks,u.sum=v.sum->u=v
theorem Vj.sz{b:Int}{a:C9}{f:Db}{e:Da}(h:Vj b a f e){s:Zi}(c:AA a s):(s.size:Int)=b:=by obtain⟨u,d,rfl⟩:=c;exact h.sum u d
theorem AW.same{w g:Zh}{b:Nat}{i f e d:Int}{T P L:D4}(h:AW w b i f e d T P L)(r:g.1[b]?=w.1[b]?):AW g b i f e d T P L:=by obtain⟨k,l,m,n,o,p,q,s⟩:=h;have c:=λj=>cell?_of_block (a:=⟨b,j,none⟩) r;refine⟨(c 0).ag k,(c 1).ag l,(c 2).ag m,(c 3).ag n,(c 4).ag o,(c 5).ag p,(c 6).ag q,?_⟩;exact gG
theorem Ti{a:Db}{b:Da}(f:eh a<=100)(e:eh b<=200):eh (Dx a b)<=300:=by unfold Dx;have c:=Ft (b.map (·.sum)) ((a.map (·.sum)).foldl BR []);have d:=Ft (a.map (·.sum)) [];simp at c d;omega
