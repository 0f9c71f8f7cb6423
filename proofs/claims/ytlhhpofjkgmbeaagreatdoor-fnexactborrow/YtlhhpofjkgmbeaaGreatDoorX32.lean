import Derived.Test.YtlhhpofjkgmbeaaGreatDoorX31
set_option maxRecDepth 100000
set_option maxHeartbeats 16000000
namespace Go.Proofs.YtlhhpofjkgmbeaaGreatDoor
open Go.ChangeShapes Go.WideShapes Go.ChangeAt Go.RowKit _root_.Go.Proofs.Tryz
section
open Go.ChangeShapes Go.WideShapes Go.ChangeAt Go.RowKit Go.Deep
theorem WY:prog.cellsOf 33=17:=by kernel_rfl
theorem ZT:prog.cellsOf 24=2:=by kernel_rfl
theorem WZ:prog.cellsOf 31=6:=by kernel_rfl
theorem Aao{α:Type}{l:List α}(h:l.length=5):∃a b c d e,l=[a,b,c,d,e]:=by match l,h with|[a,b,c,d,e],_=>exact⟨a,b,c,d,e,rfl⟩
theorem ZU{α:Type}{l:List α}(h:l.length=17):∃i j k m n o p q r s a b c d e f g,l=[i,j,k,m,n,o,p,q,r,s,a,b,c,d,e,f,g]:=by match l,h with|[i,j,k,m,n,o,p,q,r,s,a,b,c,d,e,f,g],_=>exact⟨i,j,k,m,n,o,p,q,r,s,a,b,c,d,e,f,g,rfl⟩
section
variable {H:Type} {enc:TypeId×Value->H} {W:Zh} {base:Nat} {spare:Nat->Bool} {held:Bool} {fuel:Nat} {y:DataW H×List MemPlace}
theorem Ua{g i:Value}(h:DataW.trod enc prog W base spare held fuel 24 [g,i]=some y):
 ∃a e c b f d,g=.slice a (List.length c) e/\i=.slice b (List.length d) f/\Ad W W.heap.size a c/\Ad W W.heap.size b d/\c.length<=maxLen/\(∀s∈c,ByteArray.size s<=maxLen)/\d.length<=maxLen/\(∀s∈d,ByteArray.size s<=maxLen):=by
 obtain⟨x,z,n,_,_,q,r⟩:=trod_struct2 underlying24 h;have j:DataW.trod enc prog W base spare held n 22 [g]=some x:=by simpa [Fk]using q
 have k:DataW.trod enc prog W base spare held n 22 [i]=some z:=by simpa [Fk]using r
 obtain⟨a,e,c,w,u,t,v⟩:=Gf j;obtain⟨b,f,d,p,m,l,o⟩:=Gf k;exact⟨a,e,c,b,f,d,w,p,u,m,t,v,l,o⟩
theorem PM{j k c2 c3 c4 m c6:Value}(h:DataW.trod enc prog W base spare held fuel 29 [j,k,c2,c3,c4,m,c6]=some y):
 ∃q g given ae a i p o l n d f e,j=Zg q/\k=Zg g/\c2=Zg given/\c3=Zg ae/\c4=.slice a (List.length d) i/\m=.slice p (List.length f) o/\c6=.slice l (List.length e) n/\Bv W W.heap.size a p l d f e/\Ns d/\Nt f/\Nu e:=by
 obtain⟨U,c,_,_,_,hlen,b⟩:=DataW.trod_struct underlying29 h;obtain⟨N,O,P,Q,R,S,T,rfl⟩:=Aam (l:=U) hlen;have u:DataW.trod enc prog W base spare held c 3 [j]=some N:=by simpa [DS]using b 0 _ rfl
 have v:DataW.trod enc prog W base spare held c 3 [k]=some O:=by simpa [DS]using b 1 _ rfl
 have w:DataW.trod enc prog W base spare held c 3 [c2]=some P:=by simpa [DS]using b 2 _ rfl
 have x:DataW.trod enc prog W base spare held c 3 [c3]=some Q:=by simpa [DS]using b 3 _ rfl
 have z:DataW.trod enc prog W base spare held c 25 [c4]=some R:=by simpa [cKs]using b 4 _ rfl
 have A:DataW.trod enc prog W base spare held c 26 [m]=some S:=by simpa [cPs]using b 5 _ rfl
 have B:DataW.trod enc prog W base spare held c 27 [c6]=some T:=by simpa [cLs]using b 6 _ rfl
 obtain⟨q,C,_⟩:=Cq u;obtain⟨g,D,_⟩:=Cq v;obtain⟨given,E,_⟩:=Cq w;obtain⟨ae,F,_⟩:=Cq x;obtain⟨a,i,d,G,K,r,_⟩:=RU z;obtain⟨p,o,f,I,M,t⟩:=TZ A;obtain⟨l,n,e,J,L,s⟩:=PL B;exact⟨q,g,given,ae,a,i,p,o,l,n,d,f,e,C,D,E,F,G,I,J,⟨K,M,L⟩,r,t,s⟩
theorem PN{k m c2 c3 c4 n:Value}(h:DataW.trod enc prog W base spare held fuel 31 [k,m,c2,c3,c4,n]=some y):
 ∃(o ag e p:Int) (j:Zk) (g:Nat) (i:Zk) (f:Nat) (d b:Zl),k=Zg o/\m=.slice j (List.length d) g/\c2=.slice i (List.length b) f/\c3=Zg ag/\c4=Zg e/\n=Zg p/\Ad W W.heap.size j d/\Ad W W.heap.size i b/\
  d.length<=maxLen/\(∀s∈d,ByteArray.size s<=maxLen)/\b.length<=maxLen/\(∀s∈b,ByteArray.size s<=maxLen):=by
 obtain⟨R,c,_,_,_,hlen,a⟩:=DataW.trod_struct underlying31 h;obtain⟨L,M,N,O,P,Q,rfl⟩:=Aan (l:=R) hlen;have v:DataW.trod enc prog W base spare held c 3 [k]=some L:=by simpa [DS]using a 0 _ rfl
 have w:DataW.trod enc prog W base spare held c 22 [m]=some M:=by simpa [DS,Fk]using a 1 _ rfl
 have x:DataW.trod enc prog W base spare held c 22 [c2]=some N:=by simpa [DS,Fk]using a 2 _ rfl
 have z:DataW.trod enc prog W base spare held c 3 [c3]=some O:=by simpa [DS,Fk]using a 3 _ rfl
 have A:DataW.trod enc prog W base spare held c 3 [c4]=some P:=by simpa [DS,Fk]using a 4 _ rfl
 have B:DataW.trod enc prog W base spare held c 3 [n]=some Q:=by simpa [DS,Fk]using a 5 _ rfl
 obtain⟨o,C,_⟩:=Cq v;obtain⟨ag,F,_⟩:=Cq z;obtain⟨e,G,_⟩:=Cq A;obtain⟨p,I,_⟩:=Cq B;obtain⟨j,g,d,D,K,t,u⟩:=Gf w;obtain⟨i,f,b,E,J,q,r⟩:=Gf x;exact⟨o,ag,e,p,j,g,i,f,d,b,C,D,E,F,G,I,K,J,t,u,q,r⟩
theorem RV{r:Reach}{M:Nat}{u:Value}{d:DataW H}{pl:List MemPlace}(hv:Value.okWide prog W r M 33 u)(h:DataW.Trod enc prog W base spare held 33 u d pl):
 ∃(v:Vd) (a:Va),u=.agg (Yi v a)/\BR W W.heap.size a v/\Vk v:=by
 obtain⟨w,rfl,K⟩:=okWide_struct underlying33 hv;obtain⟨fuel,hf⟩:=h;obtain⟨xs,e,_,_,_,hlen,c⟩:=DataW.trod_struct underlying33 hf;obtain⟨o,p,c2,c3,c4,q,c6,c7,s,t,f,g,Mx,i,j,k,m,n⟩:=ZU (l:=w.toList) (by rw[Array.length_toList,K,WY]);obtain⟨x0,x1,x2,x3,x4,rfl⟩:=Aao (l:=xs) hlen;have b:(Value.agg w).cells.toList=[o,p,c2,c3,c4,q,c6,c7,s,t,f,g,Mx,i,j,k,m]:=by rw[←n];rfl
 have V:DataW.trod enc prog W base spare held e 3 [o]=some x0:=by simpa [b,DS]using c 0 _ rfl
 have X:DataW.trod enc prog W base spare held e 3 [p]=some x1:=by simpa [b,DS]using c 1 _ rfl
 have Y:DataW.trod enc prog W base spare held e 24 [c2,c3]=some x2:=by simpa [b,ZT]using c 2 _ rfl
 have Z:DataW.trod enc prog W base spare held e 29 [c4,q,c6,c7,s,t,f]=some x3:=by simpa [b,YR]using c 3 _ rfl
 have f4:DataW.trod enc prog W base spare held e 31 [g,Mx,i,j,k,m]=some x4:=by simpa [b,WZ]using c 4 _ rfl
 obtain⟨wd,h0,_⟩:=Cq V;obtain⟨ak,h1,_⟩:=Cq X;obtain⟨sa,sc,ss,ta,tc,tt,h2,h3,G,I,N,O,P,Q⟩:=Ua Y;obtain⟨sw,L,given,ae,ka,kc,pa,pc,la,lc,ks,ps,ls,h4,h5,h6,h7,h8,h9,z,J,hk,hp,hl⟩:=PM Z;obtain⟨ph,ag,x,ro,qa,qc,ma,mc,qs,ms,A,B,C,D,E,F,hq,hm,R,S,T,U⟩:=PN f4;refine⟨⟨wd,ak,ss,tt,sw,L,given,ae,ks,ps,ls,ph,qs,ms,ag,x,ro⟩,⟨sa,sc,ta,tc,ka,kc,pa,pc,la,lc,qa,qc,ma,mc⟩,?_,⟨G,I,J,hq,hm⟩,⟨N,O,P,Q,hk,hp,hl,R,S,T,U⟩⟩
 congr 1;apply Array.toList_inj.1;rw[n,h0,h1,h2,h3,h4,h5,h6,h7,h8,h9,z,A,B,C,D,E,F]
end
end
end Go.Proofs.YtlhhpofjkgmbeaaGreatDoor
