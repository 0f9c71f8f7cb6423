import Derived.Test.YtcankpdbabaacaaGreatDoorX32
set_option maxRecDepth 100000
set_option maxHeartbeats 16000000
namespace Go.Proofs.YtcankpdbabaacaaGreatDoor
open Go.ChangeShapes Go.WideShapes Go.ChangeAt Go.RowKit _root_.Go.Proofs.Tryz
section
open Go.ChangeShapes Go.WideShapes Go.ChangeAt Go.RowKit Go.Deep
theorem ZP:prog.cellsOf 33=17:=Yt
theorem Acx:prog.cellsOf 24=2:=Yt
theorem ZQ:prog.cellsOf 31=6:=Yt
theorem Adp{α:Type}{l:List α}(h:l.length=5):∃a b c d e,l=[a,b,c,d,e]:=by match l,h with|[a,b,c,d,e],_=>exact⟨a,b,c,d,e,rfl⟩
theorem Acy{α:Type}{l:List α}(h:l.length=17):∃i j k m n o p q r s a b c d e f g,l=[i,j,k,m,n,o,p,q,r,s,a,b,c,d,e,f,g]:=by match l,h with|[i,j,k,m,n,o,p,q,r,s,a,b,c,d,e,f,g],_=>exact⟨i,j,k,m,n,o,p,q,r,s,a,b,c,d,e,f,g,rfl⟩
section
variable {H:Type} {enc:TypeId×Value->H} {W:Zh} {base:Nat} {spare:Nat->Bool} {held:Bool} {fuel:Nat} {y:DataW H×List MemPlace}
theorem Vk{g i:Value}(h:DataW.trod enc prog W base spare held fuel 24 [g,i]=some y):
 ∃a e c b f d,g=.slice a (List.length c) e/\i=.slice b (List.length d) f/\Ad W W.heap.size a c/\Ad W W.heap.size b d/\c.length<=maxLen/\(∀s∈c,ByteArray.size s<=maxLen)/\d.length<=maxLen/\(∀s∈d,ByteArray.size s<=maxLen):=by
 obtain⟨z,A,n,_,_,q,r⟩:=trod_struct2 underlying24 h;have j:DataW.trod enc prog W base spare held n 22 [g]=some z:=by simpa [FG]using q
 have k:DataW.trod enc prog W base spare held n 22 [i]=some A:=by simpa [FG]using r
 obtain⟨a,e,c,x,u,t,v⟩:=Gy j;obtain⟨b,f,d,p,m,l,o⟩:=Gy k;exact⟨a,e,c,b,f,d,x,p,u,m,t,v,l,o⟩
theorem QQ{m n c2 c3 c4 o c6:Value}(h:DataW.trod enc prog W base spare held fuel 29 [m,n,c2,c3,c4,o,c6]=some y):
 ∃s j c b a k p r l q f i g,m=Zg s/\n=Zg j/\c2=Zg c/\c3=Zg b/\c4=.slice a (List.length f) k/\o=.slice p (List.length i) r/\c6=.slice l (List.length g) q/\BI W W.heap.size a p l f i g/\Ou f/\Ov i/\Ow g:=by
 obtain⟨Y,e,_,_,_,hlen,d⟩:=DataW.trod_struct underlying29 h;obtain⟨Q,R,S,T,U,V,X,rfl⟩:=Adn (l:=Y) hlen;have x:DataW.trod enc prog W base spare held e 3 [m]=some Q:=by simpa [Ep]using d 0 _ rfl
 have z:DataW.trod enc prog W base spare held e 3 [n]=some R:=by simpa [Ep]using d 1 _ rfl
 have A:DataW.trod enc prog W base spare held e 3 [c2]=some S:=by simpa [Ep]using d 2 _ rfl
 have B:DataW.trod enc prog W base spare held e 3 [c3]=some T:=by simpa [Ep]using d 3 _ rfl
 have C:DataW.trod enc prog W base spare held e 25 [c4]=some U:=by simpa [cKs]using d 4 _ rfl
 have D:DataW.trod enc prog W base spare held e 26 [o]=some V:=by simpa [cPs]using d 5 _ rfl
 have E:DataW.trod enc prog W base spare held e 27 [c6]=some X:=by simpa [cLs]using d 6 _ rfl
 obtain⟨s,F,_⟩:=Cz x;obtain⟨j,G,_⟩:=Cz z;obtain⟨c,I,_⟩:=Cz A;obtain⟨b,J,_⟩:=Cz B;obtain⟨a,k,f,K,N,t,_⟩:=Te C;obtain⟨p,r,i,L,P,v⟩:=Vj D;obtain⟨l,q,g,M,O,u⟩:=QO E;exact⟨s,j,c,b,a,k,p,r,l,q,f,i,g,F,G,I,J,K,L,M,⟨N,P,O⟩,t,v,u⟩
theorem QR{m n c2 c3 c4 o:Value}(h:DataW.trod enc prog W base spare held fuel 31 [m,n,c2,c3,c4,o]=some y):
 ∃(p i e q:Int) (k:Zk) (g:Nat) (j:Zk) (f:Nat) (d b:Zl),m=Zg p/\n=.slice k (List.length d) g/\c2=.slice j (List.length b) f/\c3=Zg i/\c4=Zg e/\o=Zg q/\Ad W W.heap.size k d/\Ad W W.heap.size j b/\
  d.length<=maxLen/\(∀s∈d,ByteArray.size s<=maxLen)/\b.length<=maxLen/\(∀s∈b,ByteArray.size s<=maxLen):=by
 obtain⟨T,c,_,_,_,hlen,a⟩:=DataW.trod_struct underlying31 h;obtain⟨N,O,P,Q,R,S,rfl⟩:=Ado (l:=T) hlen;have x:DataW.trod enc prog W base spare held c 3 [m]=some N:=by simpa [Ep]using a 0 _ rfl
 have z:DataW.trod enc prog W base spare held c 22 [n]=some O:=by simpa [Ep,FG]using a 1 _ rfl
 have A:DataW.trod enc prog W base spare held c 22 [c2]=some P:=by simpa [Ep,FG]using a 2 _ rfl
 have B:DataW.trod enc prog W base spare held c 3 [c3]=some Q:=by simpa [Ep,FG]using a 3 _ rfl
 have C:DataW.trod enc prog W base spare held c 3 [c4]=some R:=by simpa [Ep,FG]using a 4 _ rfl
 have D:DataW.trod enc prog W base spare held c 3 [o]=some S:=by simpa [Ep,FG]using a 5 _ rfl
 obtain⟨p,E,_⟩:=Cz x;obtain⟨i,I,_⟩:=Cz B;obtain⟨e,J,_⟩:=Cz C;obtain⟨q,K,_⟩:=Cz D;obtain⟨k,g,d,F,M,u,v⟩:=Gy z;obtain⟨j,f,b,G,L,r,t⟩:=Gy A;exact⟨p,i,e,q,k,g,j,f,d,b,E,F,G,I,J,K,M,L,u,v,r,t⟩
theorem Tf{r:Reach}{P:Nat}{u:Value}{d:DataW H}{pl:List MemPlace}(hv:Value.okWide prog W r P 33 u)(h:DataW.Trod enc prog W base spare held 33 u d pl):
 ∃(v:Vd) (a:Va),u=.agg (Xz v a)/\Ca W W.heap.size a v/\Wq v:=by
 obtain⟨x,rfl,L⟩:=okWide_struct underlying33 hv;obtain⟨fuel,hf⟩:=h;obtain⟨xs,g,_,_,_,hlen,e⟩:=DataW.trod_struct underlying33 hf;obtain⟨p,q,c2,c3,c4,s,c6,c7,t,c9,i,j,KF,k,m,FE,n,o⟩:=Acy (l:=x.toList) (by rw[Array.length_toList,L,ZP]);obtain⟨x0,x1,x2,x3,x4,rfl⟩:=Adp (l:=xs) hlen;have b:(Value.agg x).cells.toList=[p,q,c2,c3,c4,s,c6,c7,t,c9,i,j,KF,k,m,FE,n]:=by rw[<-o];rfl
 have Z:DataW.trod enc prog W base spare held g 3 [p]=some x0:=by simpa [b,Ep]using e 0 _ rfl
 have f1:DataW.trod enc prog W base spare held g 3 [q]=some x1:=by simpa [b,Ep]using e 1 _ rfl
 have f2:DataW.trod enc prog W base spare held g 24 [c2,c3]=some x2:=by simpa [b,Acx]using e 2 _ rfl
 have f3:DataW.trod enc prog W base spare held g 29 [c4,s,c6,c7,t,c9,i]=some x3:=by simpa [b,Abq]using e 3 _ rfl
 have f4:DataW.trod enc prog W base spare held g 31 [j,KF,k,m,FE,n]=some x4:=by simpa [b,ZQ]using e 4 _ rfl
 obtain⟨wd,h0,_⟩:=Cz Z;obtain⟨M,h1,_⟩:=Cz f1;obtain⟨sa,sc,ss,ta,tc,tt,h2,h3,I,J,Q,R,S,T⟩:=Vk f2;obtain⟨sw,N,f,c,ka,kc,pa,pc,la,lc,ks,ps,ls,h4,h5,h6,h7,h8,h9,A,K,hk,hp,hl⟩:=QQ f3;obtain⟨ph,O,z,ro,qa,qc,ma,mc,qs,ms,B,C,D,E,F,G,hq,hm,U,V,X,Y⟩:=QR f4;refine⟨⟨wd,M,ss,tt,sw,N,f,c,ks,ps,ls,ph,qs,ms,O,z,ro⟩,⟨sa,sc,ta,tc,ka,kc,pa,pc,la,lc,qa,qc,ma,mc⟩,?_,⟨I,J,K,hq,hm⟩,⟨Q,R,S,T,hk,hp,hl,U,V,X,Y⟩⟩;congr 1
 apply Array.toList_inj.1;rw[o,h0,h1,h2,h3,h4,h5,h6,h7,h8,h9,A,B,C,D,E,F,G]
end
end
end Go.Proofs.YtcankpdbabaacaaGreatDoor
