import Derived.Test.YtdofmfnmackjhaaGreatDoorX17
import Derived.Test.YtdofmfnmackjhaaGreatDoorX18
import Derived.Test.YtdofmfnmackjhaaGreatDoorX15
set_option maxRecDepth 100000
set_option maxHeartbeats 16000000
namespace Go.Proofs.YtdofmfnmackjhaaGreatDoor
open ChangeShapes WideShapes ChangeAt RowKit _root_.Go.Proofs.Tryz List World Value
variable{a e ai:Int}{x:Pd}{w:Zh}{g c n i d m N:Nat}{V:List Nat}
theorem Tc{a:Dv}{k:Nat}{x:Ld}(n:Int)(c:a[k]?=some x):Bu (a.take (k+1)) n=Bu (a.take k) n++(if x.G=n then []else [x]):=by obtain⟨b,rfl⟩:=Zw c;unfold Bu;rw[Zu b,filter_append];by_cases h:a[k].G=n<;>simp[h]
theorem Oa(a:Dv)(n:Int):(Bu a n).length=a.length↔¬∃x∈a,x.G=n:=by unfold Bu;rw[length_filter_eq_length_iff];simp
def UJ(w w':Zh)(e:Ending)(wd now given births:Int)(T P:Value)(ls:List Ld)(n:Int):Prop:=
 Below w.1.size w w'/\(((¬∃x∈ls,x.G=n)/\e=.returned (.agg #[Zg 5,Ze,Ze,Ze,Ze,Zb,Zb,Zb,Zc,Ze,Zc,Zc]))\/
  ((∃x∈ls,x.G=n)/\∃g c,e=.returned (.agg #[Ze,Zg wd,Zg now,Zg given,Zg births,T,P,.slice (some ⟨g,0,none⟩) (Bu ls n).length c,Zc,Ze,Zc,Zc])/\w'.ownsRow w.1.size 73 3 (.slice (some ⟨g,0,none⟩) (Bu ls n).length c) (Bu ls n).length (Ab lC (Bu ls n))))
theorem Td(t h d b:Int)(p l B:Zk)(s r o m F:Nat)(a:Dv)(n:Int)(w:Zh)(f:AS w w.1.size B a)(hl:a.length<=1000):
 D8 74 #[.agg (Yg t h d b p s r l o m B a.length F),Zg n] w λe j=>UJ w j e t h d b (C3 p s r) (C3 l o m) a n:=by
 have⟨W,j⟩:=Ae ((w.alloc (.cells (Yg t h d b p s r l o m B a.length F) 27)).alloc (.cells Xz 36));have A:=(Bi j).1;have u:=(Bi j).2.1;have C:=(Bi j).2.2.1;have D:Aa W (w.1.size+1) z12:=by have S:=Aa.new (w.alloc (.cells (Yg t h d b p s r l o m B a.length F) 27)) z12 36;rw[Al]at S;rw[j];exact S
 have L:Hid (∀X,Below (w.1.size+2) W X->Aa X w.1.size (Yh t h d b p s r l o m B a.length F)/\Aa X (w.1.size+1) z12):=λX y=>⟨Aa.same C (y.block _ Yv),Aa.same D (y.block _ Yv)⟩;have HW:=Yw j;have zG:Hid (W.1.size=w.1.size+2):=u;have y:w.1.size+2<=W.1.size:=Yv
 have HR:Hid (AS w w.1.size B a):=f;have zB:Hid (Zz w W):=A;have z:Below W.1.size W (W.alloc (.cells #[] 73)):=Zy;have zC:Hid ((W.alloc (.cells #[] 73)).ownsRow (w.1.size+2) 73 3 (Yz W.1.size 0 0) 0 []):=ownsRow_lit (base:=w.1.size+2) (e:=73) (size:=3) W #[] 0 Yv Yo rfl;have zA:Hid (Below (w.1.size+2) W (W.alloc (.cells #[] 73))):=z.aj y
 clear j u C D f A z;go_enter func74,ntmps74;go_upto_region 1 with fail;rw[<-HW.o];go_wp2
 go_loopw [5,6] (λv i wr=>∃(k g c:Nat),k<=a.length/\i=Zg k/\v=Yz g (Bu (a.take k) n).length c/\Hid (wr.ownsRow (w.1.size+2) 73 3 (Yz g (Bu (a.take k) n).length c) (Bu (a.take k) n).length (Ab lC (Bu (a.take k) n))/\Below (w.1.size+2) W wr)) (λ_ i _=>a.length -(intOf i).toNat)
 case atStart=>exact⟨0,W.1.size,0,Az _,rfl,by simp[Bu],⟨by simpa [Bu,Ab]using zC.o,zA⟩⟩
 case round=>
  obtain⟨k,g,c,hk,rfl,rfl,f⟩:=hrel;have j:Below w.1.size w wr:=zB.ah (f.2.aj Yv);have H:w.1.size+2<=wr.1.size:=Zm y f.2.size;obtain⟨v0,T,U,Y,Z,i,X,v7⟩:=Be (L _ f.2).1;by_cases hlt:k<a.length
  .obtain⟨b',zI,ha,hb,u⟩:=(AS.A HR j).at hlt;subst ha;have P:Hid (a[k]?=some a[k]):=Zv hlt;obtain⟨K,M,Q⟩:=u k _ P;have G:=Yw (Tc n P);have zH:(Bu (a.take k) n).length<=1000:=by have:=length_filter_le (λx:Ld=> !decide (x.G=n)) (a.take k);unfold Bu;rw[Ct]at this;omega
   clear u;generalize a[k]=x at *
   generalize hGk:Bu (a.take k) n=gk at *
   have zF:=Yw hGk;clear hGk;by_cases hxn:x.G=n
   .have A:(x.G !=n)=false:=by simp[hxn]
    have C:Hid (Bu (a.take (k+1)) n=gk):=by show _=_;rw[G.o,if_pos hxn,append_nil]
    clear hxn;go_wp2;exact⟨⟨k+1,g,c,Yv,Yn,by rw[C.o],⟨by rw[C.o];exact f.1,f.2⟩⟩,Ys⟩
   .have A:(x.G !=n)=true:=by simp[hxn]
    have C:Hid (Bu (a.take (k+1)) n=gk++[x]):=by show _=_;rw[G.o,if_neg hxn]
    clear hxn;obtain⟨R,u,N,E,D,z,J⟩:=OM wr (w.1.size+2) _ gk f.1 x Yv H 25;have I:Below (w.1.size+2) wr N:=Ad.grown z H (λq e=>(Ac f.1 e).1);have O:Hid (N.ownsRow (w.1.size+2) 73 3 (Yz R (gk.length+1) u) (gk++[x]).length (Ab lC (gk++[x]))/\Below (w.1.size+2) W N):=⟨D,f.2.ah I⟩;have zE:b'<wr.1.size:=Dz j.size
    clear D z J I;go_wp2_with (at_builtin;refine wpList_append_run rfl _ _ 25 25 rfl rfl rfl E ?_);clear E K M Q v0 T U Y Z i X;go_wp2;exact⟨⟨k+1,R,u,Yv,Yn,by rw[C.o,Ak];rfl,⟨by rw[C.o,Ak];exact Ak▸O.1,O.2⟩⟩,Ys⟩
  .obtain rfl:k=a.length:=Yv
   have E:=f.1;rw[Zt (Zx)]at E |-;have K:=Yw E;have z:Hid (Zz w wr):=j;obtain⟨⟨T,q0⟩,⟨U,q1⟩,⟨Y,q2⟩,⟨Z,q3⟩,⟨i,q4⟩,⟨X,q5⟩,⟨y6,q6⟩,⟨y7,q7⟩,⟨y8,q8⟩,⟨y9,q9⟩,⟨I,zJ⟩,J,zK⟩:=Bf (L _ f.2).2;have f6:=((L _ f.2).1 6 _ rfl).2;by_cases hex:∃x∈a,x.G=n
   .have M:¬(Bu a n).length=a.length:=λe=>(Oa a n).1 e hex;have A:(((Bu a n).length:Int)==(a.length:Int))=false:=Yt
    have D:Hid (∃x∈a,x.G=n):=hex;clear M hex E j f;go_wp2;refine C0 (.agg #[Ze,Zg t,Zg h,Zg d,Zg b,C3 p s r,C3 l o m,Yz g (Bu a n).length c,Zc,Ze,Zc,Zc]) (by simp[results,results74,go_sem,T,U,Y,Z,i,X,y6,y7,y8,y9,I,J]) ?_
    have Q:=(Tn.set (V:=[w.1.size,w.1.size+1]) wr w.1.size 6 (Yz g (Bu a n).length c) Yu).ah (Tn.aj (Bs (wr.setCell (Zd (w.1.size) 6) (Yz g (Bu a n).length c)) (w.1.size+1) Ze (Zg t) (Zg h) (Zg d) (Zg b) (C3 p s r) (C3 l o m) (Yz g (Bu a n).length c) Zc Ze Zc Zc) Yu)
    exact⟨z.ah (Q.A z.size (by intro v M;simp at M;omega)),.inr ⟨D,g,c,rfl,(As K (λq A=>Q.block q (Ac K A).2 (by have:=(Ac K A).1;simp;omega))).aj Yv⟩⟩
   .have e:(Bu a n).length=a.length:=(Oa a n).2 hex;have A:(((Bu a n).length:Int)==(a.length:Int))=true:=Yt
    have D:Hid (¬∃x∈a,x.G=n):=hex;clear e hex E j f;go_wp2;refine C0 (.agg (Xy 5)) (by simp[results,results74,go_sem,T,U,Y,Z,i,X,y6,y7,y8,y9,I,J]) ?_;exact⟨z.ah (Tn.A (Bs wr (w.1.size+1) _ _ _ _ _ _ _ _ _ _ _ _) z.size (by intro v M;simp at M;omega)),.inl ⟨D,rfl⟩⟩
theorem Te{a:Nat}{b:Dy}(h:w.ownsRow a 71 2 (Yz g n c) n (Ab pC b))(j:b[i]?=some x)(s:Zi):(w.setCell (Zd g (i *2+1)) (C4 s)).ownsRow a 71 2 (Yz g n c) n (Ab pC (b.set i ⟨x.name,s⟩)):=by
 have m:=(Zw j).1;have f:=(h.stored (i *2+1) (C4 s)).1;have l:(Ab pC b)[i *2]?=some (C4 x.name):=by have:=BN Ce j (show 0<2 by decide);simpa [pC]using this
 have d:=PV m (⟨x.name,s⟩:Pd);have k:(Ab pC b).set (i *2) (C4 x.name)=Ab pC b:=by have⟨o,e⟩:=Zw l;rw[<-e];exact set_getElem_self o
 rw[k]at d;rw[d]at f;exact f
theorem YT(l d m:Nat)(O P L:D4)(v q f c:Int)(u:Dj)(j:Dy)(A:Dv)(n s:Zi)(w:Zh)(h:DU w l d m O P L v q f c u j A)(U:∀k∈u,(k.sum.size:Int)=v)(G:Am u s)(hl:j.length<=200)(z:j.Pairwise (λa b=>less a.name b.name=true))(K:∃x∈j,x.name=n):
 D8 92 #[Yy d,C4 n,C4 s] w λe o=>e=C5 (.tuple #[])/\∃M,DU o l d m O M L v q f c u (Bh j n s) A/\Tn (d::P.ownBlock.toList) w o:=by
 have F:0<j.length:=by obtain⟨x,a,_⟩:=K;exact length_pos_of_mem a
 have⟨g,p,R⟩:=JU h.I.cj F;subst R;have HN:=Yw (EI l d m O (C7 g j p) L v q f c u j A s w h.I U G);have V:=Yw h;have B:=Yw z;have Q:=Yw K;go_enter func92,ntmps92;go_wp2_with fail;refine HN.Ai ?_;rintro e k ⟨rfl,C⟩;have H:=V.A C;have Y:=Yw (JV l d m O L g p v q f c u j A n k H hl B);go_wp2_with fail;refine Y.Ai ?_;rintro e r ⟨i,rfl,J,I⟩;have⟨x,t,D⟩:=J.at Q B
 have E:decide (∃x,j[i]?=some x/\x.name=n)=true:=by simpa using ⟨x,t,D⟩
 have zC:=(Zw t).1;have W:Hid (Bh j n s=j.set i ⟨n,s⟩):=VX J t D B;have o:=H.A I;obtain⟨c6,_⟩:=o.I.box 6 _ rfl;have zA:r.cell? (Zd g (i *2+1))=some (C4 x.sum):=by have:=(o.I.cj.cellAt (i *2+1) Yv).ah (BN Ce t (show 1<2 by decide));simpa [pC]using this
 have zB:r.frozen? ⟨g,i *2+1,none⟩=false:=o.I.cj.frozenAt _;have T:g≠d:=((Dp o.I.ap).2.2.1 g rfl).1;have y:=Te o.I.cj t s;rw[D]at y;have Z:∃M,DU (r.setCell (Zd g (i *2+1)) (C4 s)) l d m O M L v q f c u (Bh j n s) A/\Tn (d::(C7 g j p).ownBlock.toList) w (r.setCell (Zd g (i *2+1)) (C4 s)):=by
  have N:Tn (d::(C7 g j p).ownBlock.toList) r (r.setCell (Zd g (i *2+1)) (C4 s)):=(AP r g _ _).aj (by intro b M;simp[ownBlock]at M |-;exact .inr M);have S:Aa (r.setCell (Zd g (i *2+1)) (C4 s)) d [Zg v,.map (some m),Zg q,Zg f,Zg c,O,C7 g j p,L]:=Aa.same o.I.box (Below.heap_setCell _ _ _ _ (λe=>T e.symm))
  refine⟨C7 g j p,o.iw N S ?_ (.inl rfl),(Tn.of (C.ah (I.aj C.size))).ah N⟩;rw[W.o,length_set];exact y
 have X:=Yw Z;rw[E];go_wp2;refine bodyPost_ret (results_none rfl _ _ _) rfl ?_;exact⟨rfl,X⟩
theorem QY(c d m:Nat)(O P L:D4)(l j b a:Int)(g:Dj)(p:Dy)(o:Dv)(n s:Zi)(w:Zh)(h:DU w c d m O P L l j b a g p o)(i:∀k∈g,(k.sum.size:Int)=l)(f:¬Am g s):
 D8 92 #[Yy d,C4 n,C4 s] w λe q=>e=.panicked [{v:=Cl 2 ⟨#[]⟩ ⟨#[]⟩,recovered:=false}]/\Zz w q:=by
 have HN:=Yw (Ky c d m O P L l j b a g p o s w h.I i f);clear h i f;go_enter func92,ntmps92;go_wp2_with fail;refine HN.Ai ?_;rintro e i ⟨rfl,f⟩;go_wp2;exact⟨rfl,rfl,f⟩
theorem Wc(j d m:Nat)(O P L:D4)(r q f c:Int)(o:Dj)(g:Dy)(B:Dv)(n s:Zi)(w:Zh)(h:DU w j d m O P L r q f c o g B)(I:∀k∈o,(k.sum.size:Int)=r)(u:Am o s)(Q:g.length=100)(l:g.Pairwise (λa b=>less a.name b.name=true))(J:¬∃x∈g,x.name=n):
 D8 92 #[Yy d,C4 n,C4 s] w λe p=>e=.panicked [{v:=Cl 4 ⟨#[]⟩ ⟨#[]⟩,recovered:=false}]/\Zz w p:=by
 have⟨C,A,H⟩:=Aq h.I.cj;subst H;have HN:=Yw (EI j d m O (C1 C g A) L r q f c o g B s w h.I I u);have M:=Yw h;have E:=Yw l;have F:=Yw J;have D:=Yw Q;go_enter func92,ntmps92;go_wp2_with fail;refine HN.Ai ?_;rintro e T ⟨rfl,p⟩;have y:=M.A p;have N:=Yw (JW j d m O (C1 C g A) L r q f c o g B n T y (Dz D.o) E);go_wp2_with fail;refine N.Ai ?_
 rintro e U ⟨i,rfl,_,z⟩;have t:decide (∃x,g[i]?=some x/\x.name=n)=false:=by rw[decide_eq_false_iff_not];rintro⟨x,S,R⟩;exact F ⟨x,Zs S,R⟩
 have G:=y.A z;obtain⟨c6,_⟩:=G.I.box 6 _ rfl;have K:=Yw (p.ah (z.aj p.size));rw[t];go_wp2;exact⟨rfl,rfl,K⟩
section
open Go.ChangeShapes Go.WideShapes Go.ChangeAt Go.RowKit Go.Lib
theorem FY:∃i:TypeInfo,prog.info? 71=some i/\i.zero=some (.agg #[Zc,Zc])/\i.size=2/\i.bytes=32:=by have⟨e,d,a,b,c⟩:=info_parts GP;exact⟨e,d,a,b,c⟩
theorem Iw{b:Nat}(c:w.1[b]?=some (.cells #[C4 x.name,C4 x.sum] 71 (0,0))):∀j u,(Ab pC [x])[j]?=some u->w.cell? (Zd b j)=some u:=by intro j u a;rw[Ab,flatMap_cons,flatMap_nil,append_nil]at a;simp only[cell?,c];rw[<-a];simp[pC]
theorem OA(P:D4)(b:Dy)(x:Pd)(r:Nat)(w:Zh)(a:Nat)(n:w.ownsRow a 71 2 P b.length (Ab pC b))(E:b.length<=600)(d:a<=w.1.size)(p:w.1[r]?=some (.cells #[C4 x.name,C4 x.sum] 71 (0,0))):
 D8 119 #[P,Zg b.length,Yz r 1 1] w λe s=>∃c,e=C5 c/\s.ownsRow a 71 2 c (b.length+1) (Ab pC (b++[x]))/\w.grownBy s P.ownBlock/\(c.ownBlock=P.ownBlock\/c.ownBlock=some w.1.size):=by
 obtain⟨A,c,h,i,k⟩:=FY;obtain⟨q,s,o,f,m,_,t⟩:=run_append_own_at (P:=prog) w a 24 24 71 A _ 2 32 underlying24 c h i k rfl Yq P b.length (Ab pC b) n ⟨r,0,none⟩ 1 1 (Ab pC [x]) (by rw[Bq Ce];rfl) (λj u l=>by rw[A3,A0];exact Iw p j u l) (JD _) Yo Yv d;rw[<-Bn]at f;have l:=Yw (Zn f (Zn m t));clear f m t
 rcases n.2 with⟨e,v⟩|⟨g,t,B,e,D,z,C,f,m,y⟩
 .subst e;rw[v]at l |-;clear n p c h i k;go_enter func119,ntmps119;go_wp2_with (at_builtin;refine Lib.wpList_append_run _ rfl _ _ _ _ rfl _ _ rfl rfl _ _ o ?_);go_ret;exact⟨q,rfl,l⟩
 .subst e;clear n p c h i k z m y;unfold maxLen at f;by_cases hc:t=b.length
  .subst hc;go_enter func119,ntmps119;go_wp2_with (at_builtin;refine Lib.wpList_append_run _ rfl _ _ _ _ rfl _ _ rfl rfl _ _ o ?_);go_ret;exact⟨q,rfl,l⟩
  .go_enter func119,ntmps119;go_wp2_with (at_builtin;refine Lib.wpList_append_run _ rfl _ _ _ _ rfl _ _ rfl rfl _ _ o ?_);go_ret;exact⟨q,rfl,l⟩
theorem Mu(g b i:Nat)(a:Dy)(x:Pd)(r:Nat)(w:Zh)(l:Nat)(u:w.ownsRow l 71 2 (Yz g a.length b) a.length (Ab pC a))(hl:a.length<=600)(hi:i<a.length)(z:a.length+1<=b)(F:r≠g)(p:w.1[r]?=some (.cells #[C4 x.name,C4 x.sum] 71 (0,0))):
 D8 119 #[Yz g a.length b,Zg i,Yz r 1 1] w λe c=>e=C5 (Yz g (a.length+1) b)/\c.ownsRow l 71 2 (Yz g (a.length+1) b) (a.length+1) (Ab pC (a.take i++[x]++a.drop i))/\w.grownBy c (some g):=by
 obtain⟨H,d,L,y,M⟩:=FY;have⟨f,A,W,I,D,J⟩:∃f,w.1[g]?=some (.cells f 71 (0,0))/\a.length<=b/\b<=maxLen/\f.size=b *2/\f.toList.take (a.length *2)=Ab pC a:=by
  rcases u.2 with⟨e,_⟩|⟨g',N,f,e,hb,A,O,P,Q,R⟩
  .cases e
  .cases e;exact⟨f,A,O,P,Q,R⟩
 have G:=Bq Ce a;have B:(Ab pC [x]).length=2:=by rw[Bq Ce];rfl
 have E:((Ab pC a).drop (i *2)).length=(a.length -i) *2:=by rw[length_drop,G];omega
 have c:∀j,j<b *2->(w.cell? (Zd g j)).isSome=true:=λj m=>by simp only[cell?,A];rw[Cf Yv];rfl
 have K:∀n k,(callFunc 143 #[Yz r 1 1,C3 (some ⟨g,(i+1) *2,none⟩) n k]).run prog w=.ok (.value (.bool false)) w:=λn k=>by
  rw[run_callFunc_extern func143 Yr Yr Yr (e:=Extern.SlicesOverlaps.overlaps #[24,24] #[4]) Yr,
   Lib.run_overlaps_apart w 24 4 71 underlying24 2 (λw=>by simp[sizeOf,typeInfo,d,y]) ⟨r,0,none⟩ ⟨g,(i+1) *2,none⟩ 1 1 n k F 71 71 (#[C4 x.name,C4 x.sum]:Array Value).size f.size (by simp only[shape?,p]) (by simp only[shape?,A]) (by rw[D];omega) (by simp only[frozen?,p];rfl) (by simp[frozen?,p])]
  rfl
 have s:∀q o k,(Builtin.copy_ #[24,24] q #[C3 (some ⟨g,(i+1) *2,none⟩) (a.length+1 -(i+1)) o,C3 (some ⟨g,i *2,none⟩) (a.length+1 -i) k]).run prog w.drew=.ok (goInt (Nat.min (a.length+1 -i) (a.length+1 -(i+1)))) (w.drew.setCells g ((i+1) *2) ((Ab pC a).drop (i *2))):=λq o k=>
  CG w.drew 24 24 q 71 H 2 g ((i+1) *2) (a.length+1 -(i+1)) o ⟨g,i *2,none⟩ (a.length+1 -i) k ((Ab pC a).drop (i *2)) underlying24 d y (by rw[E];congr 1;show _=min _ _;omega)
   (fun j v m=>by
     rw[A3];rw[getElem?_drop]at m;have:=(Zw m).1;exact(u.cellAt _ Yv).ah m)
   (λj m=>c _ Yv) (λj _=>u.frozenAt _) (λv p=>JD _ v (mem_of_mem_drop p))
 obtain⟨n,k⟩:=Ae (w.drew.setCells g ((i+1) *2) ((Ab pC a).drop (i *2)));have C:∀q o,(Builtin.copy_ #[24,24] q #[C3 (some ⟨g,i *2,none⟩) (a.length+1 -i) o,Yz r 1 1]).run prog n=.ok (goInt (Nat.min 1 (a.length+1 -i))) (n.setCells g (i *2) (Ab pC [x])):=λq o=>
  CG n 24 24 q 71 H 2 g (i *2) (a.length+1 -i) o ⟨r,0,none⟩ 1 1 (Ab pC [x]) underlying24 d y (by rw[B,show Nat.min 1 (a.length+1 -i)=1 from Nat.min_eq_left Yv,Nat.one_mul])
   (fun j v m=>by
     rw[A3,A0,k,cell?_setCells_out g _ _ _ _ (λh _=>absurd h F)];exact Iw p j v m)
   (λj m=>by rw[k];exact Hv g ((Ab pC a).drop (i *2)) ((i+1) *2) w.drew (λt m=>c _ Yv) (i *2+j) (c _ Yv)) (λj _=>by rw[k,frozen?_setCells];exact u.frozenAt _) (JD _)
 have m:(n.setCells g (i *2) (Ab pC [x])).ownsRow l 71 2 (Yz g (a.length+1) b) (a.length+1) (Ab pC (a.take i++[x]++a.drop i))/\w.grownBy (n.setCells g (i *2) (Ab pC [x])) (some g):=by
  refine⟨?_,?_⟩
  .rw[Bn,Bn,<-FR Ce a i Yv,<-EE Ce a i Yv,k];exact Nu (w:=w.drew) (Ah u (Ad.drew)) Yv B z
  .rw[k];exact Aj (Dn (Ci g _ _ _)) (Ci g _ _ _)
 have o:=Yw m;rw[<-k]at s;unfold maxLen at I;have y:¬((i:Int)=(a.length:Int)):=Yv
 have X:(0:Int)<=(i:Int)+1:=Yv
 have Y:(i:Int)+1<=(a.length:Int)+1:=Yv
 have Z:((i:Int)+1).toNat=i+1:=Yv
 have h:((a.length:Int)+1).toNat=a.length+1:=Yv
 have j:(0:Int)<=(a.length:Int)+1:=Yv
 have t:(a.length:Int)+1<=(b:Int):=Yv
 have q:¬(b=i+1):=Yv
 have S:¬(b=i):=Yv
 have T:i<=a.length+1:=Yv
 have U:(i:Int)<=(a.length:Int)+1:=Yv
 have V:(i:Int)<=(a.length:Int):=Yv
 have mixed:prog.follows .mixedOrders=true:=Yr
 have v:IntKind.i64.wrap ((i:Int)+1)=(i:Int)+1:=by rw[IntKind.wrap_i64];omega
 have zA:IntKind.i64.wrap ((a.length:Int)+1)=(a.length:Int)+1:=by rw[IntKind.wrap_i64];omega
 clear u c m p A J D d L M G B E k;go_enter func119,ntmps119;go_wp2_with (simp only[K])
 go_region_law_o (refine Ez rfl _ _ 24 24 rfl (C3 (some ⟨g,(i+1) *2,none⟩) (a.length+1 -(i+1)) (b -(i+1))) (C3 (some ⟨g,i *2,none⟩) (a.length+1 -i) (b -i)) (by simp[Act.eval,Act.put]) (by simp[Act.eval,Act.put]) (s 3 (b -(i+1)) (b -i)) ?_)
 go_wp2_with (at_builtin;refine DI _ rfl _ _ 24 24 rfl _ _ rfl rfl (C _ _) ?_);go_ret;exact⟨rfl,o⟩
theorem Nc(g c i:Nat)(a:Dy)(x:Pd)(H:Nat)(w:Zh)(k:Nat)(E:w.ownsRow k 71 2 (Yz g a.length c) a.length (Ab pC a))(hl:a.length<=600)(hi:i<a.length)(D:c<a.length+1)(C:k<=w.1.size)(F:w.1[H]?=some (.cells #[C4 x.name,C4 x.sum] 71 (0,0))):
 D8 119 #[Yz g a.length c,Zg i,Yz H 1 1] w λe d=>∃G,e=C5 (Yz w.1.size (a.length+1) G)/\d.ownsRow k 71 2 (Yz w.1.size (a.length+1) G) (a.length+1) (Ab pC (a.take i++[x]++a.drop i))/\w.grownBy d none:=by
 obtain⟨R,l,Z,A,M⟩:=FY;have J:g<w.1.size:=(Ac E rfl).2;have Y:=(A2.1 F).1;have zM:a.length<=c:=by
  rcases E.2 with⟨e,_⟩|⟨g',zE,zF,e,y,hg,h1,h2,h3,h4⟩
  .cases e
  .cases e;exact h1
 have z:=Bq Ce a;have L:(Ab pC [x]).length=2:=by rw[Bq Ce];rfl
 have V:((Ab pC a).drop (i *2)).length=(a.length -i) *2:=by rw[length_drop,z];omega
 have K:((Ab pC a).take (i *2)).length=i *2:=by rw[Ct,z];omega
 have hold:(Builtin.firstCells R.size i (Yz g i c)).run prog w.drew=.ok ((Ab pC a).take (i *2)).toArray w.drew:=by
  rw[A];exact run_firstCells_some w.drew 2 i ⟨g,0,none⟩ i c ((Ab pC a).take (i *2)) K (λj v f=>by
   rw[A3,A0];rw[getElem?_take]at f;split at f
   .exact(E.cellAt _ Yv).ah f
   .cases f)
 have⟨G,O⟩:=Ae (grownCap w (a.length+1) c 71);have⟨p,zC,U⟩:∃p:Array Value,p=Value.cells (.agg #[Zc,Zc])/\p.size=2:=⟨_,rfl,Yr⟩;have⟨B,N⟩:∃B:Zj,B=(Builtin.zeroCells p (a.length+1 -i)).toList++(Builtin.zeroCells p (G -(a.length+1))).toList:=⟨_,rfl⟩;have zB:a.length+1<=G:=by rw[O];exact grownCap_ge w _ _ _
 have u:G<=maxLen:=by rw[O];exact grownCap_le_maxLen w (a.length+1) c 71 Yo
 have zA:i *2+B.length=G *2:=by rw[N];simp[Builtin.zeroCells,U];omega
 have X:∀n,(Builtin.append_ #[24,3] n #[Yz g i c,Zg ((a.length:Int)+1 -(i:Int))]).run prog w=
  .ok (Yz w.1.size (a.length+1) G) (w.drew.alloc (.cells ((Ab pC a).take (i *2)++B).toArray 71)):=λn=>by
  have W:i+(a.length+1 -i)=a.length+1:=Yv
  have h:=Lib.run_append_grow_zeros (P:=prog) w 24 3 n 71 R _ .i64 .i64 underlying24 underlying3 l Z (some ⟨g,0,none⟩) i c ((Ab pC a).take (i *2)) hold (a.length+1 -i) Yv (by rw[A];omega) Yv Yv (by rw[M];omega) (by rw[M,W];exact growslice_fits D Yv);rw[W,<-O,<-zC]at h;rw[show(a.length:Int)+1 -(i:Int)=((a.length+1 -i:Nat):Int) by omega,h,N]
  have e:((Ab pC a).take (i *2)).toArray++Builtin.zeroCells p (a.length+1 -i)++Builtin.zeroCells p (G -(a.length+1))=((Ab pC a).take (i *2)++((Builtin.zeroCells p (a.length+1 -i)).toList++(Builtin.zeroCells p (G -(a.length+1))).toList)).toArray:=by apply Array.toList_inj.1;simp
  rw[e]
 have⟨d,q⟩:=D6 w.drew ((Ab pC a).take (i *2)++B).toArray 71;have m:d.1[w.1.size]?=some (.cells ((Ab pC a).take (i *2)++B).toArray 71 (0,0)):=by rw[q];exact heap_alloc_new w.drew _
 have Q:∀j,j<G *2->(d.cell? (Zd (w.1.size) j)).isSome=true:=λj f=>by simp only[cell?,m];rw[Cf (by simp[K];omega)];rfl
 have I:∀j,d.frozen? ⟨w.1.size,j,none⟩=false:=λj=>by simp[frozen?,m]
 have hO:∀b,b<w.1.size->d.1[b]?=w.1[b]?:=λb y=>by rw[q];exact GH w.drew _ y
 have S:∀n s,(Builtin.copy_ #[24,24] n #[C3 (some ⟨w.1.size,i *2,none⟩) (a.length+1 -i) s,Yz H 1 1]).run prog d=.ok (goInt (Nat.min 1 (a.length+1 -i))) (d.setCells w.1.size (i *2) (Ab pC [x])):=λn s=>
  CG d 24 24 n 71 R 2 w.1.size (i *2) (a.length+1 -i) s ⟨H,0,none⟩ 1 1 (Ab pC [x]) underlying24 l A (by rw[L,show Nat.min 1 (a.length+1 -i)=1 from Nat.min_eq_left Yv,Nat.one_mul])
   (fun j v f=>by
     rw[A3,A0,cell?_of_block (hO H Y)];exact Iw F j v f)
   (λj f=>Q _ Yv) (λj _=>I _) (JD _)
 obtain⟨r,o⟩:=Ae ((d.setCells w.1.size (i *2) (Ab pC [x])).drew);have T:∀n s t,(Builtin.copy_ #[24,24] n #[C3 (some ⟨w.1.size,(i+1) *2,none⟩) (a.length+1 -(i+1)) s,C3 (some ⟨g,i *2,none⟩) (a.length -i) t]).run prog r=.ok (goInt (Nat.min (a.length -i) (a.length+1 -(i+1)))) (r.setCells w.1.size ((i+1) *2) ((Ab pC a).drop (i *2))):=λn s t=>
  CG r 24 24 n 71 R 2 w.1.size ((i+1) *2) (a.length+1 -(i+1)) s ⟨g,i *2,none⟩ (a.length -i) t ((Ab pC a).drop (i *2)) underlying24 l A (by rw[V];congr 1;show _=min _ _;omega)
   (fun j v f=>by
     rw[getElem?_drop]at f;have:=(Zw f).1;rw[A3,o,GF,cell?_setCells_out _ _ _ _ _ (λh _=>absurd h (Nat.ne_of_lt J)),cell?_of_block (hO g J)];exact(E.cellAt _ Yv).ah f)
   (λj f=>by rw[o,GF];exact Hv w.1.size (Ab pC [x]) (i *2) d (λt f=>Q _ Yv) ((i+1) *2+j) (Q _ Yv)) (λj _=>by rw[o,Jy,frozen?_setCells];exact I _) (λv F=>JD _ v (mem_of_mem_drop F))
 have f:(r.setCells w.1.size ((i+1) *2) ((Ab pC a).drop (i *2))).ownsRow k 71 2 (Yz w.1.size (a.length+1) G) (a.length+1) (Ab pC (a.take i++[x]++a.drop i))/\w.grownBy (r.setCells w.1.size ((i+1) *2) ((Ab pC a).drop (i *2))) none:=by
  refine⟨?_,?_⟩
  .rw[Bn,Bn,<-FR Ce a i Yv,<-EE Ce a i Yv,o,<-Jw];exact Ah (OR (w:=d) z Yv L C m zA zB u) (Ad.drew)
  .have s1:d.1.size=w.1.size+1:=by rw[q];simp
   have n:w.grownBy d none:=by rw[q];exact⟨rfl,rfl,rfl,Yu,λb y _=>GH w.drew _ y⟩
   have s:d.grownBy (r.setCells w.1.size ((i+1) *2) ((Ab pC a).drop (i *2))) (some w.1.size):=by rw[o];exact Aj (Aj (Ci w.1.size (Ab pC [x]) (i *2) d) (KI _ _)) (Ci w.1.size ((Ab pC a).drop (i *2)) ((i+1) *2) _)
   exact⟨s.os.ah n.os,s.tape.ah n.tape,s.output.ah n.output,Zm n.size s.size,λb y _=>(s.block b Yv Yt).ah (n.block b y Yu)⟩
 have j:=Yw f;have b:G<=9223372036854775807:=by unfold maxLen at u;omega
 have zR:¬((i:Int)=(a.length:Int)):=Yv
 have zS:(c:Int)<(a.length:Int)+1:=Yv
 have zN:(0:Int)<=(i:Int)+1:=Yv
 have zO:(i:Int)+1<=(a.length:Int)+1:=Yv
 have zP:((i:Int)+1).toNat=i+1:=Yv
 have t:¬(c=i):=Yv
 have v:¬(G=i):=Yv
 have zG:¬(G=i+1):=Yv
 have zH:i<=a.length+1:=Yv
 have zJ:(i:Int)<=(a.length:Int)+1:=Yv
 have zK:(i:Int)<=(a.length:Int):=Yv
 have mixed:prog.follows .mixedOrders=true:=Yr
 have zI:i<=c:=Yv
 have zT:IntKind.i64.wrap ((i:Int)+1)=(i:Int)+1:=by rw[IntKind.wrap_i64];omega
 have zU:IntKind.i64.wrap ((a.length:Int)+1)=(a.length:Int)+1:=by rw[IntKind.wrap_i64];omega
 have zV:IntKind.i64.wrap ((a.length:Int)+1 -(i:Int))=(a.length:Int)+1 -(i:Int):=by rw[IntKind.wrap_i64];omega
 rw[<-q]at X;clear E f F l Z M z L V K hold O N zA m Q I hO q J Y;go_enter func119,ntmps119;go_wp2_with (first
  |(at_builtin;refine Lib.wpList_append_run _ rfl _ _ _ _ rfl _ _ rfl rfl _ _ (X _) ?_)
  |(at_builtin;refine DI _ rfl _ _ 24 24 rfl _ _ rfl rfl (S _ _) ?_))
 go_region_law_o (refine Ez rfl _ _ 24 24 rfl (C3 (some ⟨w.1.size,(i+1) *2,none⟩) (a.length+1 -(i+1)) (G -(i+1))) (C3 (some ⟨g,i *2,none⟩) (a.length -i) (c -i)) (by simp[Act.eval,Act.put]) (by simp[Act.eval,Act.put]) (by rw[<-o];exact T 3 (G -(i+1)) (c -i)) ?_)
 go_wp2;go_ret;rw[<-o];exact⟨G,rfl,j⟩
theorem OB(P:D4)(i:Nat)(c:Dy)(x:Pd)(j:Nat)(w:Zh)(a:Nat)(l:w.ownsRow a 71 2 P c.length (Ab pC c))(o:c.length<=600)(B:i<=c.length)(d:a<=w.1.size)(s:P.ownBlock≠some j)(p:w.1[j]?=some (.cells #[C4 x.name,C4 x.sum] 71 (0,0))):
 D8 119 #[P,Zg i,Yz j 1 1] w λe m=>∃f,e=C5 f/\m.ownsRow a 71 2 f (c.length+1) (Ab pC (c.take i++[x]++c.drop i))/\w.grownBy m P.ownBlock/\(f.ownBlock=P.ownBlock\/f.ownBlock=some w.1.size):=by
 rcases Bz i c.length with h|h
 .rcases l.2 with⟨e,C⟩|⟨g,k,t,e,r,A,u,v,y,z⟩
  .omega
  .subst e;rcases Bz k (c.length+1)with n|n
   .refine Calls.mono (Nc g k i c x j w a l o h n d p) ?_;rintro e m ⟨G,rfl,q,f⟩;exact⟨_,rfl,q,⟨f.os,f.tape,f.output,f.size,λb r _=>f.block b r Yu⟩,.inr rfl⟩
   .refine Calls.mono (Mu g k i c x j w a l o h n (λe=>s (by rw[e];rfl)) p) ?_;rintro e m ⟨rfl,q,f⟩;exact⟨_,rfl,q,f,.inl rfl⟩
 .obtain rfl:i=c.length:=Yv
  rw[take_length,drop_length,append_nil];exact OA P c x j w a l o d p
end
theorem YU(j d m:Nat)(O P L:D4)(C r g c:Int)(u:Dj)(f:Dy)(F:Dv)(n s:Zi)(w:Zh)(h:DU w j d m O P L C r g c u f F)(zG:∀k∈u,(k.sum.size:Int)=C)(M:Am u s)(hl:f.length<100)(E:f.Pairwise (λa b=>less a.name b.name=true))(zH:¬∃x∈f,x.name=n):
 D8 92 #[Yy d,C4 n,C4 s] w λe l=>e=C5 (.tuple #[])/\∃Z,DU l j d m O Z L C r g c u (Bh f n s) F/\Tn (d::P.ownBlock.toList) w l:=by
 have⟨y,p,zC⟩:=Aq h.I.cj;subst zC;have HN:=Yw (EI j d m O (C1 y f p) L C r g c u f F s w h.I zG M);have HD:=Yw h;have zB:=Yw E;have N:=Yw zH;go_enter func92,ntmps92;go_wp2_with fail;refine HN.Ai ?_;rintro e w1 ⟨rfl,H⟩;have Q:=HD.A H;have HS:=Yw (JW j d m O (C1 y f p) L C r g c u f F n w1 Q Yv zB);go_wp2_with fail;refine HS.Ai ?_
 rintro e X ⟨i,rfl,V,R⟩;have J:decide (∃x,f[i]?=some x/\x.name=n)=false:=by rw[decide_eq_false_iff_not];rintro⟨x,hx,hn⟩;exact N ⟨x,Zs hx,hn⟩
 have Y:Hid (Bh f n s=f.take i++[⟨n,s⟩]++f.drop i):=QV V N;have G:=Q.A R;have HB:=Yw (H.ah (R.aj H.size));obtain⟨c6,_⟩:=G.I.box 6 _ rfl;have⟨A,W⟩:=D6 X #[C4 n,C4 s] 71;have a:=(AE W).1;have v:=G.A a;have q:=Yw v;have zA:=Yw a;have zF:=V.le
 have D:=OB (C1 y f p) i f ⟨n,s⟩ X.1.size A j v.I.cj Yv zF v.lo (λe=>Nat.lt_irrefl _ (Ac G.I.cj e).2) (by rw[W];exact heap_alloc_new X _);have HI:=Yw D;have HA:=Yw W;obtain⟨e6,_⟩:=v.I.box 6 _ rfl;rw[J];go_wp2_with fail;rw[<-HA.o];refine HI.Ai ?_;rintro e I ⟨Z,rfl,U,S,l⟩;have⟨z,B,zE⟩:=Aq U;subst zE
 have T:∀b,(C1 y f p).ownBlock=some b->b≠d:=λb t=>((Dp q.I.ap).2.2.1 b t).1;have K:∀b,(C3 z (f.length+1) B).ownBlock=some b->b≠d:=λb t=>by
  rcases l with l|l
  .exact T b (l▸t)
  .rw[l]at t;have:=q.I.box.lt;cases t;omega
 have o:=Aa.same q.I.box (S.block d q.I.box.lt (λe=>T d e.symm rfl));obtain⟨f6,k6⟩:=o 6 _ rfl;have hK:∃k,DU (I.setCell (Zd d 6) (C3 z (f.length+1) B)) j d m O k L C r g c u (Bh f n s) F/\Tn (d::(C1 y f p).ownBlock.toList) w (I.setCell (Zd d 6) (C3 z (f.length+1) B)):=by
  have k:Tn (d::(C1 y f p).ownBlock.toList) A (I.setCell (Zd d 6) (C3 z (f.length+1) B)):=
   ((EJ S).aj (λb t=>mem_cons_of_mem _ t)).ah ((AP I d 6 _).aj Yu)
  refine⟨_,q.iw k (o.set 6 _) ?_ ?_,((Tn.of HB).ah (Tn.of zA)).ah k⟩
  .have hlen:(Bh f n s).length=f.length+1:=by rw[Y.o];simp;omega
   rw[hlen,Y.o];exact BH U K 6 _
  .rcases l with l|l
   .exact .inl l
   .exact .inr ⟨_,l,Zx⟩
 have t:=Yw hK;go_wp2
 go_end0
 exact⟨rfl,t⟩
theorem YV{O P L a:Option Nat}(h:(d::m::(O.toList++(P.toList++L.toList))).Nodup)(e:∀b∈d::m::(O.toList++(P.toList++L.toList)),b<n)(c:a=O\/∃g,a=some g/\n<=g):(d::m::(a.toList++(P.toList++L.toList))).Nodup:=by
 rcases c with rfl|⟨g,rfl,f⟩
 .exact h
 .cases O<;>cases P<;>cases L<;>simp_all<;>grind
theorem DU.newK{o:Zh}{O P L:D4}{q p b j:Int}{C:Dj}{y:Dy}{x:Dv}(h:DU w c d m O P L q p b j C y x)(v:Tn (d::m::O.ownBlock.toList) w o){k:D4}{l:Dj}(r:Aa o d [Zg q,.map (some m),Zg p,Zg b,Zg a,k,P,L])(B:∃n f,n<=1000000+a.toNat/\AN o 75 m n f/\BS o c (vB d m k P L) q l f)(A:o.ownsRow c 75 8 k l.length (AH (l.map (·.sum))))(z:k.ownBlock=O.ownBlock\/∃g,k.ownBlock=some g/\w.1.size<=g):DU o c d m k P L q p b a l y x:=by
 have⟨D,s,t,u⟩:=Dp h.I.ap;refine⟨⟨r,B,A,As h.I.cj (λg i=>v.block g (Ac h.I.cj i).2 (λe=> ?_)),As h.I.dq (λg i=>v.block g (Ac h.I.dq i).2 (λe=> ?_)),h.I.bd,h.I.bm,YV h.I.ap h.I.dj z⟩⟩
 .rcases Bv.1 e with e|e
  .exact(t g i).1 e
  .rcases Bv.1 e with e|e
   .exact(t g i).2.1 e
   .exact(s g (D2 e)).2.2.1 i
 .rcases Bv.1 e with e|e
  .exact(u g i).1 e
  .rcases Bv.1 e with e|e
   .exact(u g i).2 e
   .exact(s g (D2 e)).2.2.2 i
theorem Nd{a:Dj}{x:Kd}(h:Fp (a.map (·.sum)) x.sum i):(a.map (·.sum)).take i++[x.sum]++(a.map (·.sum)).drop i=(De a x).map (·.sum):=by rw[SR h];simp[map_take,map_drop]
theorem BS.snoc{a:Nat}{c:Int}{j:Dj}{f:Lit->Option Value}(h:BS w a V c j f){x:Kd}{i:Zk}{rc:Nat}(t:(x.sum.size:Int)=c)(r:c<=8)(p:DG w a V i x.B):BS w a V c (j++[x]) (upd f (keyL x.sum) (CW x i rc)):=by
 intro s q;by_cases he:keyL s=keyL x.sum
 .have:s=x.sum:=key_inj he Yv Yv;subst this;exact .inr ⟨x,i,rc,Yu,rfl,CX _ _ _,p⟩
 .rw[Dh _ _ he];have k:x.sum≠s:=λe=>he (by rw[e]);rcases h s q with⟨d,g⟩|⟨u,l,m,d,g,n,o⟩
  .refine .inl ⟨d,λ⟨u,b,e⟩=> ?_⟩;rcases A7.1 b with b|b
   .exact g ⟨u,b,e⟩
   .simp at b;subst b;exact k e
  .exact .inr ⟨u,l,m,by simp[d],g,n,o⟩
theorem BS.same{base:Nat}{i:Int}{g a:Dj}{f:Lit->Option Value}(h:BS w base V i g f)(d:∀u,u∈a↔u∈g):BS w base V i a f:=by
 intro s j;rcases h s j with⟨b,c⟩|⟨u,l,m,b,c⟩
 .exact .inl ⟨b,λ⟨k,hk,e⟩=>c ⟨k,(d k).1 hk,e⟩⟩
 .exact .inr ⟨u,l,m,(d u).2 b,c⟩
def RI(w:Zh)(base:Nat)(V:List Nat)(m:Nat)(wd births:Int)(ks:List Kd):Prop:=∃n f,n<=1000000+births.toNat/\AN w 75 m n f/\BS w base V wd ks f
theorem RI.K{j:Zh}{U:List Nat}{k:Int}{i:Dj}(h:RI w c V m k a i)(g:Tn U w j)(p:∀b∈U,b∈V)(q:m∉U):RI j c V m k a i:=by obtain⟨n,f,l,e,o⟩:=h;exact⟨n,f,l,AN.same e (g.block m e.lt q),o.move g (λb d=> .inl (p b d)) (λb d=> .inl d)⟩
theorem HN.A{b:Zh}(h:HN w m N)(d:Zz w b):HN b m N:=by obtain⟨n,f,c,a⟩:=h;exact⟨n,f,c,a.ag d a.lt⟩
theorem HN.same{a:Zh}(h:HN w m N)(d:a.1[m]?=w.1[m]?):HN a m N:=by obtain⟨n,f,b,c⟩:=h;exact⟨n,f,b,AN.same c d⟩
theorem YW(j d m:Nat)(O P L:D4)(H J q a:Int)(c:Dj)(ps:Dy)(ls:Dv)(s n:Zi)(l:Zl)(D:Zk)(rc:Nat)(w:Zh)(h:DU w j d m O P L H J q a c ps ls)(zA:Ev H c)(yA:(s.size:Int)=H)(hl:c.length<600)(yE:0<=a)(yF:a<1000000000)(M:DG w j (vB d m O P L) D l):
 D8 117 #[Yy d,C4 s,.agg #[C4 n,C3 D l.length rc]] w λe k=>e=C5 (.tuple #[])/\(∃O',DU k j d m O' P L H J q (a+1) (De c ⟨s,a+1,n,l⟩) ps ls/\(O'.ownBlock=O.ownBlock\/∃g,O'.ownBlock=some g/\w.1.size<=g))/\Tn (d::m::O.ownBlock.toList) w k:=by
 have⟨r,t,zB⟩:=Aq h.I.ord;subst zB;have⟨W0,B⟩:=D6 w #[C4 n,C1 D l rc] 30;have y:=(AE B).1;have I:=(AE B).2.2;have o:=h.A y;have⟨X,F⟩:=D7 W0 d 4 (Zg (a+1));have yH:d<w.1.size:=h.I.box.lt;have E:Tn [d] W0 X:=by rw[F];exact AP _ _ _ _
 have z:Aa X d [Zg H,.map (some m),Zg J,Zg q,Zg (a+1),C1 r c t,P,L]:=by rw[F];exact o.I.box.set 4 _
 have C:=Dp o.I.ap;have G:Aa X w.1.size [C4 n,C1 D l rc]:=Aa.same I (E.block _ I.lt Yt);have N:X.ownsRow j 75 8 (C1 r c t) c.length (AH (c.map (·.sum))):=As o.I.ord (λg k=>E.block g (Ac o.I.ord k).2 (by simp;exact(C.2.1 g k).1))
 have Z:RI X j (vB d m (C1 r c t) P L) m H a c:=RI.K o.I.map E (by intro b k;simp at k;subst k;simp[vB]) (by simp;exact λe=>C.1 e.symm);have V:DG X j (vB d m (C1 r c t) P L) D l:=(M.move (U:=[]) (Tn.of y) Yu (λb k=> .inl k)).move E (by intro b k;simp at k;subst k;exact .inl (by simp[vB])) (λb k=> .inl k);obtain⟨c4,k4⟩:=o.I.box 4 _ rfl
 obtain⟨c5,_⟩:=o.I.box 5 _ rfl;have yJ:((c.length:Int)==600)=false:=Yt
 have yG:(a==1000000000)=false:=Yt
 have zO:=Yw B;have HX:=Yw F;have T:=Yw h;have HP:=Yw (Zn z (Zn G (Zn N (Zn Z V))));have HT:Hid (Tn [d] w X):=(Tn.of y).ah E;clear B F o h M I E z G N Z V y;go_enter func117,ntmps117;go_upto_region 1 with fail;rw[<-zO.o];go_wp2_with fail;rw[<-HX.o];refine(GR s X).aj ?_;rintro e y ⟨rfl,M⟩;have⟨K,Y⟩:=D6 y (Yk (kB s)) 75;have A:=(AE Y).1
 have F:Below X.1.size X K:=M.ah (A.aj M.size);have i:Aa K y.1.size (Au s):=by rw[Y];exact Aa.new y (Au s) 75
 have⟨z,G,N,Z,V⟩:=HP.o;have yD:j<=X.1.size:=Zm T.lo HT.size;have E:=z.A F;have u:=G.A F;have oK:=Ah N F;have rK:DG K j (vB d m (C1 r c t) P L) D l:=V.move (U:=[]) (Tn.of F) Yu (λb k=> .inl k);obtain⟨n1,f,zJ,zH,hH⟩:=RI.K Z (U:=[]) (Tn.of F) Yu Yu;have h:=zH;have C:=Dp T.I.ap;have yK:m<K.1.size:=h.lt
 obtain⟨B,zN,R,I⟩:=(h.ag (Below.refl K.1.size K).drew h.lt).put keyed underlying79 (val:=CW ⟨s,a+1,n,l⟩ D rc) Yo (CE s);have o:K.grownBy B (some m):=Dn I;have kl:y.1.size<K.1.size:=i.lt;have yL:m<w.1.size:=by have⟨_,_,_,zR,_⟩:=T.I.map;exact zR.lt
 have yM:w.1.size<y.1.size:=by have h1:=M.size;have h2:=G.lt;omega
 have k5:Aa B y.1.size (Au s):=Aa.aw (v:=.int .u8 (kB s 0)) i o Yv;have W:Aa B d _:=Aa.aw E o (λe=>C.1 e.symm);have t5:Aa B w.1.size [C4 n,C1 D l rc]:=Aa.aw u o Yv
 have P4:K.drew.cell? (Zd d 1)=some (.map (some m))/\K.drew.cell? (Zd d 4)=some (Zg (a+1))/\K.drew.cell? (Zd (w.1.size) 0)=some (C4 n)/\K.drew.cell? (Zd (w.1.size) 1)=some (C1 D l rc)/\_:=⟨(E 1 _ rfl).1,(E 4 _ rfl).1,(u 0 _ rfl).1,(u 1 _ rfl).1,Hd (w:=K.drew) i⟩
 have P5:B.cell? (Zd d 1)=some (.map (some m))/\B.cell? (Zd d 4)=some (Zg (a+1))/\B.cell? (Zd (w.1.size) 0)=some (C4 n)/\B.cell? (Zd (w.1.size) 1)=some (C1 D l rc)/\_:=⟨(W 1 _ rfl).1,(W 4 _ rfl).1,(t5 0 _ rfl).1,(t5 1 _ rfl).1,Hd k5⟩;have o5:B.ownsRow j 75 8 (C1 r c t) c.length (AH (c.map (·.sum))):=ownsRow.kept oK o (.inr (λe=>(C.2.1 m e).2.1 rfl))
 have Q:=Aas j d m r t P L H J q (a+1) c s B W o5 Yv (Dz zA.w8) (λx S=>Dz (zA.sz x S)) zA.dm;unfold Ca Cy at Q zN;unfold CW at zN;have HQ:=Yw Q;have S:=Yw (Zn W (Zn o5 (Zn k5 (Zn R (Zn o (Zn hH (Zn rK (Zn F zJ))))))));have HK:=Yw Y;clear z G N Z V E u oK rK zH h Q Y HP W o5 k5 R I o hH t5 i F A c4 k4 c5;go_upto_region 5 with fail;rw[<-HK.o]
 go_region_held3 (λX=>X.cell? (Zd d 1)=some (.map (some m))/\X.cell? (Zd d 4)=some (Zg (a+1))/\X.cell? (Zd (w.1.size) 0)=some (C4 n)/\X.cell? (Zd (w.1.size) 1)=some (C1 D l rc)/\(X.cell? (Zd (y.1.size) 0)=some (.int .u8 (kB s 0))/\X.cell? (Zd (y.1.size) 1)=some (.int .u8 (kB s 1))/\X.cell? (Zd (y.1.size) 2)=some (.int .u8 (kB s 2))/\X.cell? (Zd (y.1.size) 3)=some (.int .u8 (kB s 3))/\X.cell? (Zd (y.1.size) 4)=some (.int .u8 (kB s 4))/\X.cell? (Zd (y.1.size) 5)=some (.int .u8 (kB s 5))/\X.cell? (Zd (y.1.size) 6)=some (.int .u8 (kB s 6))/\X.cell? (Zd (y.1.size) 7)=some (.int .u8 (kB s 7))))
  (first|with_reducible exact P4|with_reducible exact P5)
  (fail)
 have⟨q0,q1,q2,q3,q4,q5,q6,q7⟩:=Hd S.2.2.1;go_wp2_with fail;refine HQ.Ai ?_;rintro e E ⟨i,rfl,zM,z⟩;have zE:=Aa.A S.1 z;have zX:=Aa.A (v:=.int .u8 (kB s 0)) S.2.2.1 z;have zK:E.ownsRow j 75 8 (C1 r c t) (c.map (·.sum)).length (Ab Au (c.map (·.sum))):=by rw[A9];exact Ah S.2.1 z
 have zW:i<=c.length:=by have:=zM.le;rwa[A9]at this
 have⟨A,hA⟩:=D6 E.drew (Au s).toArray 75;have N:Below E.1.size E A:=by rw[hA];exact Ad.drew.alloc (Zx) _
 have zF:j<=E.1.size:=by have h1:=S.2.2.2.2.1.size;have h2:=z.size;have h3:=S.2.2.2.2.2.2.2.1.size;omega
 have G:=Oy (C1 r c t) i (c.map (·.sum)) s E.1.size A j (Ah zK N) (by rw[A9];omega) (by rw[A9];exact zW) (Zm zF N.size) (λe=>Nat.lt_irrefl _ (Ac zK e).2) (by rw[hA];exact heap_alloc_new E.drew _);rw[A9,hA]at G;have HI:=Yw G;have Q:=Yw zM;have xA:=zE.A N;have zT:d<E.1.size:=zE.lt;obtain⟨y5,_⟩:=zE 5 _ rfl
 have⟨r0,r1,r2,r3,r4,r5,r6,r7⟩:=Hd zX;have H6:=Yw (Zn z (Zn N xA));have zG:=Yw hA;have zC:∀b,(C1 r c t).ownBlock=some b->b≠d/\b≠m:=λb k=>⟨(C.2.1 b k).1,(C.2.1 b k).2.1⟩;have zU:d<A.1.size:=xA.lt;go_upto_region 7 with fail;have zP:Below E.1.size E (E.alloc (.cells (Yk (kB s)) 75)):=Zy;have a5:=(zP.cell (p:=⟨d,5,none⟩) zT).ah y5;unfold Au Cy at HI
 go_region_law (first
  |(go_simp;go_at_call 139;refine HI.Ai ?_;rintro e V ⟨O',rfl,h,zV,zY⟩;have⟨oa',oc',zB⟩:=Aq h;subst zB;have Z:A.grownBy V (C1 r c t).ownBlock:=(by rw[zG.o];exact zV);have x7:=Aa.same H6.2.2 (Z.block d zU (λe=>(zC d e.symm).1 rfl));obtain⟨f5,k5⟩:=x7 5 _ rfl))
 all_goals
  have o:(C3 oa' (c.length+1) oc').ownBlock=(C1 r c t).ownBlock\/(C3 oa' (c.length+1) oc').ownBlock=some A.1.size:=by rw[zG.o];exact zY
  have H7:=Yw (Zn x7 (Zn Z (Zn o h)));have Y:(∃u,DU (V.setCell (Zd d 5) (C3 oa' (c.length+1) oc')) j d m u P L H J q (a+1) (De c ⟨s,a+1,n,l⟩) ps ls/\(u.ownBlock=(C1 r c t).ownBlock\/∃g,u.ownBlock=some g/\w.1.size<=g))/\Tn (d::m::(C1 r c t).ownBlock.toList) w (V.setCell (Zd d 5) (C3 oa' (c.length+1) oc')):=by
   have⟨W,o5,yN,R,I,hH,rK,F,zJ⟩:=S.o;have⟨z,N,xA⟩:=H6.o;have⟨x7,Z,o,h⟩:=H7.o;have t1:Tn (d::m::(C1 r c t).ownBlock.toList) w X:=HT.aj Yu
   have t2:Tn (d::(C1 r c t).ownBlock.toList) B (V.setCell (Zd d 5) (C3 oa' (c.length+1) oc')):=(((Tn.of z).ah (Tn.of N)).ah ((EJ Z).aj (λb k=>mem_cons_of_mem _ k))).ah ((AP V d 5 _).aj Yu)
   have t3:Tn (d::m::(C1 r c t).ownBlock.toList) K (V.setCell (Zd d 5) (C3 oa' (c.length+1) oc')):=(Tn.grown I Yu).ah (t2.aj (by intro b k;simp at k |-;rcases k with k|k<;>simp[k]));have tt:=(t1.ah (Tn.of F)).ah t3;have yC:w.1.size<=K.1.size:=Zm HT.size F.size;have yB:w.1.size<=A.1.size:=Zm (Zm (Zm yC I.size) z.size) N.size
   have yI:∀b∈d::m::(C1 r c t).ownBlock.toList,j<=b:=by
    intro b k;rcases Bv.1 k with rfl|k
    .exact T.I.bd
    .rcases Bv.1 k with rfl|k
     .exact T.I.bm
     .exact(Ac T.I.ord (D2 k)).1
   have zZ:(V.setCell (Zd d 5) (C3 oa' (c.length+1) oc')).1[m]?=B.1[m]?:=t2.block m R.lt (λe=>by
    rcases Bv.1 e with e|e
    .exact C.1 e.symm
    .exact(zC m (D2 e)).2 rfl)
   have zS:=AN.same R zZ;have zI:(C3 oa' (c.length+1) oc').ownBlock=(C1 r c t).ownBlock\/∃g,(C3 oa' (c.length+1) oc').ownBlock=some g/\w.1.size<=g:=by
    rcases o with o|o
    .exact .inl o
    .exact .inr ⟨_,o,yB⟩
   have g:∀b,(C3 oa' (c.length+1) oc').ownBlock=some b->b≠d:=λb k=>by
    rcases o with o|o
    .exact(zC b (o▸k)).1
    .rw[o]at k;cases k;omega
   refine⟨⟨_,T.newK tt (x7.set 5 _) ⟨n1+1,_,Yv,zS,?_⟩ ?_ zI,zI⟩,tt⟩
   .refine((hH.snoc (x:=⟨s,a+1,n,l⟩) (rc:=rc) yA zA.w8 rK).same (λu=>Ho)).move t3 (λb k=> .inl ?_) (λb k=> ?_)
    .unfold vB;simp only[Bv,A7]at k |-;rcases k with e|e|e
     .exact .inl e
     .exact .inr (.inl e)
     .exact .inr (.inr (.inl e))
    .unfold vB at k |-;simp only[Bv,A7]at k |-;rcases k with e|e|e|e|e
     .exact .inl (.inl e)
     .exact .inl (.inr (.inl e))
     .rcases o with o|o
      .rw[o]at e;exact .inl (.inr (.inr (.inl e)))
      .rw[o]at e;simp at e;exact .inr (by have h1:=I.size;have h2:=z.size;have h3:=N.size;omega)
     .exact .inl (.inr (.inr (.inr (.inl e))))
     .exact .inl (.inr (.inr (.inr (.inr e))))
   .rw[Lv,<-Nd (x:=⟨s,a+1,n,l⟩) Q.o];exact BH h g 5 _
  have u:=Yw Y;go_wp2
  go_end0
  exact⟨rfl,u⟩
theorem Wd(j d m:Nat)(O P L:D4)(y t c a:Int)(f:Dj)(x:Dy)(u:Dv)(s b:Zi)(o:Zk)(q p:Nat)(w:Zh)(h:DU w j d m O P L y t c a f x u)(C:f.length=600\/a=1000000000):
 D8 117 #[Yy d,C4 s,.agg #[C4 b,C3 o q p]] w λe g=>e=.panicked [{v:=Cl 4 ⟨#[]⟩ ⟨#[]⟩,recovered:=false}]/\Zz w g:=by
 have⟨D,E,r⟩:=Aq h.I.ord;subst r;have⟨z,i⟩:=D6 w #[C4 b,C3 o q p] 30;have g:=(AE i).1;have l:=h.A g;obtain⟨A,B⟩:=Aa.c2 l.I.box 4 5;have k:=Yw i;have n:=Yw g;clear i l h g;by_cases hk:f.length=600
 .have g:((f.length:Int)==600)=true:=Yt
  go_enter func117,ntmps117;go_upto_region 1 with fail;rw[<-k.o];go_wp2;exact⟨rfl,rfl,n⟩
 .have g:((f.length:Int)==600)=false:=Yt
  go_enter func117,ntmps117;go_upto_region 1 with fail;rw[<-k.o];go_wp2;exact⟨rfl,rfl,n⟩
def AX(text:Zi)(refs:Zl)(wd:Int):Zi:=CD (AB text refs wd).data.toList wd.toNat
theorem QZ(a:Int)(m n:Nat)(f:Lit->Option Value)(h:Dj)(W:Zh)(B:Nat)(s:Zi)(w:Zh)(k:AN w 75 m n f)(o:Holds W B a h f)(g:(s.size:Int)=a):
 (¬Am h s/\D8 79 #[.agg #[Zg a,.map (some m)],C4 s] w λe b=>e=C5 (.tuple #[.agg #[Zc,Ze,Zc,Zb],.bool false])/\Zz w b)\/
 ∃x c i,x∈h/\x.sum=s/\Af W B c x.B/\D8 79 #[.agg #[Zg a,.map (some m)],C4 s] w λe b=>e=C5 (.tuple #[.agg #[C4 x.sum,Zg x.born,C4 x.J,C3 c x.B.length i],.bool true])/\Zz w b:=by
 rcases o s g with⟨b,d⟩|⟨x,c,i,b,d,j,l⟩
 .exact .inl ⟨d,Hw a m n f s w k g _ _ _ _ _ ⟨_,_,_,rfl⟩ (by rw[b];rfl) (by rw[b];rfl)⟩
 .exact .inr ⟨x,c,i,b,d,l,Hw a m n f s w k g _ _ _ _ _ ⟨_,_,_,rfl⟩ (by rw[j];rfl) (by rw[j];rfl)⟩
def Abw(base d m:Nat)(O P L:Value)(wd now given births:Int)(ks:List Kd)(ps:List Pd)(ls:List Ld)(text:Zi)(refs:Zl)(w:Zh)(e:Ending)(w':Zh):Prop:=
 ((¬∀r∈refs,Am ks r)/\e=.panicked [{v:=Cl 2 ⟨#[]⟩ ⟨#[]⟩,recovered:=false}]/\Zz w w')\/
 ((∀r∈refs,Am ks r)/\(
   (∃k∈ks,k.sum=AX text refs wd/\AB k.J k.B wd=AB text refs wd/\e=.returned (.string (AX text refs wd))/\Zz w w')\/
   (∃k∈ks,k.sum=AX text refs wd/\AB k.J k.B wd≠AB text refs wd/\e=.panicked [{v:=Cl 3 (AB k.J k.B wd) (AB text refs wd),recovered:=false}]/\Zz w w')\/
   (¬Am ks (AX text refs wd)/\(ks.length=600\/births=1000000000)/\e=.panicked [{v:=Cl 4 ⟨#[]⟩ ⟨#[]⟩,recovered:=false}]/\Zz w w')\/
   (¬Am ks (AX text refs wd)/\ks.length<600/\births<1000000000/\e=.returned (.string (AX text refs wd))/\(∃O',DU w' base d m O' P L wd now given (births+1) (De ks ⟨AX text refs wd,births+1,text,refs⟩) ps ls/\(O'.ownBlock=O.ownBlock\/∃g,O'.ownBlock=some g/\w.1.size<=g))/\Tn (d::m::O.ownBlock.toList) w w')))
theorem YX(n d m:Nat)(O P L:D4)(l v j c:Int)(o:Dj)(I:Dy)(H:Dv)(f:Zi)(a:Zl)(B:Zk)(R:Nat)(w:Zh)(h:DU w n d m O P L l v j c o I H)(q:Ev l o)(h1:1<=l)(s:∀k∈o,k.J.size<=maxLen)(zH:((AX f a l).size:Int)=l)(zV:f.size<=maxLen)(yC:a.length<=1000)(zU:0<=c)(zY:c<=1000000000)(hr:DG w n (vB d m O P L) B a):
 D8 90 #[Yy d,.agg #[C4 f,C3 B a.length R]] w (Abw n d m O P L l v j c o I H f a w):=by
 have⟨W,p⟩:=D6 w #[C4 f,C1 B a R] 30;have y:=(AE p).1;have yE:=(AE p).2.1;have t:=(AE p).2.2;have u:=Yw p;have HD:Hid (∀X,Zz W X->DU X n d m O P L l v j c o I H/\DG X n (vB d m O P L) B a/\Aa X w.1.size [C4 f,C1 B a R]/\Zz w X):=λX z=>by have G:=y.ah (z.aj Yv);exact⟨h.A G,hr.move (U:=[]) (Tn.of G) Yu (λb G=> .inl G),Aa.A t z,G⟩
 have z:=Yw q;have zR:=Yw s;have yA:=h.lo;clear p h hr y q s;obtain⟨C,D⟩:=Aa.c2 t 0 1;go_enter func90,ntmps90;go_upto_region 1 with fail;rw[<-u.o];clear u;go_wp2
 go_loopw [15] (λi wr=>∃(k:Nat),k<=a.length/\i=Zg k/\Hid ((∀r∈a.take k,Am o r)/\Zz W wr)) (λi _=>a.length -(intOf i).toNat)
 case atStart=>exact⟨0,Az _,rfl,⟨λr hr=>by simp at hr,Ad⟩⟩
 case round=>
  clear C D t;obtain⟨k,hk,rfl,t⟩:=hrel;have⟨u,y,M,F⟩:=HD wr t.2;have zA:=Yw u;have X:=Yw F;obtain⟨C,D⟩:=Aa.c2 M 0 1;by_cases hlt:k<a.length
  .obtain⟨b,yF,ha,zZ,p⟩:=y.row.at hlt;subst ha;have HG:=Yw (Zv hlt);have J:=p k _ HG;have zS:=Yw (Zu hlt);clear p u y;generalize a[k]=r at *
   by_cases hth:Am o r
   .have p:=Yw (EI n d m O P L l v j c o I H r wr zA.I z.sz hth);have S:=Yw hth;clear hth;go_wp2_with fail;refine p.Ai ?_;rintro e h ⟨rfl,q⟩;have E:=Yw (t.2.ah (q.aj t.2.size));clear p q J C D M;go_wp2;refine⟨⟨k+1,Yv,Yn,⟨?_,E⟩⟩,Ys⟩;rw[zS.o];intro r' A;rcases A7.1 A with A|A
    .exact t.1 r' A
    .simp at A;rw[A];exact S.o
   .have zN:=Yw (Ky n d m O P L l v j c o I H r wr zA.I z.sz hth);have S:=Yw hth;clear hth;go_wp2_with fail;refine zN.Ai ?_;rintro e h ⟨rfl,q⟩;go_wp2;exact⟨rfl,.inl ⟨λp=>S (p r (Zs HG)),rfl,X.ah (q.aj X.size)⟩⟩
  .obtain rfl:k=a.length:=Yv
   have p:=t.1;rw[Zt (Zx)]at p;have s:=Yw p;obtain⟨J,_⟩:=u.I.box 0 _ rfl;have i:=Yw t.2;clear p t;have zW:=i.size;have p:Below wr.1.size wr wr.drew:=Ad.drew;have t:=Yw (Jv f B R a l wr.drew (Af.T y.row p) Yv zV);clear u y;go_upto_region 6 with fail;go_region_with (go_at_call 83;refine t.Ai ?_;rintro e h ⟨rfl,q⟩)
   all_goals
    have E:=Yw (i.ah ((p.ah q).aj zW));have⟨y,Q,Z,u⟩:=HD h E;obtain⟨N,_⟩:=y.I.box 0 _ rfl;have K:=Yw (IN (AB f a l) l h (Dl _ _ _) h1 z.w8);have zP:Hid (CD (AB f a l).data.toList l.toNat=AX f a l):=rfl;rw[zP.o]at K;generalize hFF:AB f a l=FF at *
    generalize hSS:AX f a l=SS at *
    clear q J C D M t p F;go_wp2_with fail;refine K.Ai ?_;rintro e C ⟨rfl,F⟩;have zK:=Yw (E.ah (F.aj E.size));have⟨q,D,J,p⟩:=HD C zK;obtain⟨d0,d1⟩:=Aa.c2 q.I.box 0 1;have r:=Yw q;have zO:=Yw D;have zT:=Yw J;have t:=Yw p;have⟨n3,f3,yB,V,T⟩:=q.I.map;clear F K N y Q Z u D J p q;rcases QZ l m n3 f3 o C C.1.size SS C V T.holds zH with⟨p,F⟩|⟨x,xa,xc,Q,zJ,zI,F⟩
    .have J:=Yw F;have zB:=Yw p;clear F p V T;go_wp2_with fail;refine J.Ai ?_;rintro e w4 ⟨rfl,q⟩;have⟨Y,y⟩:=D6 w4 #[Zc,Ze,Zc,Zb] 68;have M:=(AE y).1;have p:Hid (Zz C Y):=q.ah (M.aj q.size);have Z:=Yw y;have D:=r.A p;have g:=Aa.A zT p;obtain⟨y0,y1⟩:=Aa.c2 g 0 1;have u:=Yw (t.ah (p.aj t.size));by_cases hfull:o.length=600\/c=1000000000
     .have K:=Yw (Wd n d m O P L l v j c o I H SS f B a.length R Y D hfull);have zM:=Yw hfull;clear q y M D g hfull d0 d1 J;go_upto_region 10 with fail;rw[<-Z.o];go_wp2_with fail;refine K.Ai ?_;rintro e w5 ⟨rfl,N⟩;go_wp2;exact⟨rfl,.inr ⟨s,.inr (.inr (.inl ⟨hSS▸zB.o,zM,rfl,u.ah (N.aj u.size)⟩))⟩⟩
     .have zG:o.length<600:=Dz z.len
      have zF:c<1000000000:=Yv
      have K:=Yw (YW n d m O P L l v j c o I H SS f a B R Y D z zH zG zU zF (DG.move zO (U:=[]) (Tn.of p) Yu (λb G=> .inl G)));clear q y M D g hfull d0 d1 J;go_upto_region 10 with fail;rw[<-Z.o];go_wp2_with fail;refine K.Ai ?_;rintro e w5 ⟨rfl,⟨O',g,zC⟩,zE⟩;have HQ:=Yw (Zn g (Zn zC zE));clear g zC zE K;go_wp2;go_ret;subst hSS
      refine .inr ⟨s,.inr (.inr (.inr ⟨zB,zG,zF,rfl,⟨O',HQ.1,?_⟩,(Tn.of u).ah HQ.2.2⟩))⟩;rcases HQ.2.1 with e|⟨g,e,hg⟩
      .exact .inl e
      .exact .inr ⟨g,e,Zm u.size hg⟩
    .have J:=Yw F;have K:Hid (x∈o/\x.sum=SS):=⟨Q,zJ⟩;clear F V T;go_wp2_with fail;refine J.Ai ?_;rintro e w4 ⟨rfl,q⟩;have⟨Y,y⟩:=D6 w4 #[C4 x.sum,Zg x.born,C4 x.J,C1 xa x.B xc] 68;have M:=(AE y).1;have p:Hid (Zz C Y):=q.ah (M.aj q.size);have Z:=Yw y;have D:=r.A p;have yK:=(AE y).2.2;obtain⟨y2,y3⟩:=Aa.c2 yK 2 3
     obtain⟨e0,_⟩:=D.I.box 0 _ rfl;have u:=Yw (t.ah (p.aj t.size));have V:Below Y.1.size Y Y.drew:=Ad.drew;have zX:=D.lo;have F:=Af.T zI (p.ah (V.aj p.size));have T:=Yw (Jv x.J xa xc x.B l Y.drew F (Dz (z.B x Q).1) (zR x Q));clear q y M D yK d0 d1 J zI F Q zJ;go_upto_region 12 with fail;rw[<-Z.o]
     go_region_with (go_at_call 83;refine T.Ai ?_;rintro e w5 ⟨rfl,N⟩)
     all_goals
      have y:=Yw (u.ah ((V.ah N).aj u.size));clear N y2 y3 e0 T;by_cases hsame:AB x.J x.B l=FF
      .have J:(FF.toList !=FF.toList)=false:=Yu
       rw[hsame];have q:=Yw hsame;clear hsame;go_wp2;go_ret;subst hSS;exact .inr ⟨s,.inl ⟨x,K.1,K.2,q.ah hFF.symm,rfl,y⟩⟩
      .have q:=Yw hsame;have F:=Br hsame;have J:((AB x.J x.B l).toList !=FF.toList)=true:=by simp[bne,F]
       clear hsame;generalize hGG:AB x.J x.B l=GG at *
       have D:=Yw hGG;clear hGG;go_wp2;subst hSS;refine⟨rfl,.inr ⟨s,.inr (.inl ⟨x,K.1,K.2,?_,?_,y⟩)⟩⟩
       .rw[D.o,hFF];exact q.o
       .rw[D.o,hFF];rfl
def CA(wd births:Int)(ks:List Kd)(text:Zi)(refs:Zl)(ks1:List Kd)(ai:Int):Prop:=
 (∃k∈ks,k.sum=AX text refs wd/\AB k.J k.B wd=AB text refs wd/\ks1=ks/\ai=births)\/
 (¬Am ks (AX text refs wd)/\ks.length<600/\births<1000000000/\ks1=De ks ⟨AX text refs wd,births+1,text,refs⟩/\ai=births+1)
def Gk(wd given births:Int)(ks:List Kd)(ls:List Ld)(text:Zi)(refs:Zl)(c:Int)(a b:Zi):Prop:=
 ((¬∀r∈refs,Am ks r)/\c=2/\a=⟨#[]⟩/\b=⟨#[]⟩)\/
 ((∀r∈refs,Am ks r)/\(
   (∃k∈ks,k.sum=AX text refs wd/\AB k.J k.B wd≠AB text refs wd/\c=3/\a=AB k.J k.B wd/\b=AB text refs wd)\/
   (¬Am ks (AX text refs wd)/\(ks.length=600\/births=1000000000)/\c=4/\a=⟨#[]⟩/\b=⟨#[]⟩)\/
   ((∃ks1 ai,CA wd births ks text refs ks1 ai)/\(ls.length=200\/given=1000000000)/\c=4/\a=⟨#[]⟩/\b=⟨#[]⟩)))
theorem CA.there{i:Dj}{c:Zi}{b:Zl}{d:Dj}(h:CA e a i c b d ai):Am d (AX c b e):=by
 rcases h with⟨k,f,g,_,rfl,_⟩|⟨_,_,_,rfl,_⟩
 .exact⟨k,f,g⟩
 .exact⟨⟨AX c b e,a+1,c,b⟩,Ho.2 Yu,rfl⟩
theorem CA.sz{ks:Dj}{d:Zi}{c:Zl}{g:Dj}(h:CA e a ks d c g ai)(f:∀k∈ks,(k.sum.size:Int)=e)(i:((AX d c e).size:Int)=e):∀k∈g,(k.sum.size:Int)=e:=by
 rcases h with⟨k,b,j,_,rfl,_⟩|⟨_,_,_,rfl,_⟩
 .exact f
 .intro k b;rcases A7.1 (Ho.1 b)with b|b
  .exact f k b
  .simp at b;rw[b];exact i
theorem OC(q d m:Nat)(O P L:D4)(p y f n:Int)(D:Dj)(Z:Dy)(B:Dv)(s K l:Zi)(u:Int)(i:Zl)(H:Zk)(J:Nat)(w:Zh)(h:DU w q d m O P L p y f n D Z B)(x:Ev p D)(h1:1<=p)(yS:∀k∈D,k.J.size<=maxLen)(yA:((AX l i p).size:Int)=p)(yR:l.size<=maxLen)(yO:i.length<=1000)(yG:0<=n)(yH:n<=1000000000)(N:DG w q (vB d m O P L) H i)(hl:B.length<=200)(yK:0<=f)(yY:f<=1000000000)(yM:0<=y)(yN:y<=1000000000)(yP:0<=u)(yQ:u<=1000000000):
 D8 62 #[Yy d,.agg (Yd 1 s K u l H i.length J)] w λe o=>(∃c a b,Gk p f n D B l i c a b/\e=.panicked [{v:=Cl c a b,recovered:=false}]/\Tn (vB d m O P L) w o)\/
  (∃z ai,(∀r∈i,Am D r)/\CA p n D l i z ai/\B.length<200/\f<1000000000/\e=C5 (.agg #[Ze,Ze,Ze,Ze,Ze,Zb,Zb,Zb,C4 (AX l i p),Zg (f+1),Zc,Zc])/\∃O' L',DU o q d m O' P L' p y (f+1) ai z Z (B++[⟨f+1,AX l i p,y+u⟩])/\Tn (vB d m O P L) w o):=by
 have⟨W,t⟩:=Ae (((w.alloc (.cells (Yd 1 s K u l H i.length J) 32)).alloc (.cells Xz 36)).alloc (.cells Xz 36));have A:=(BI t).1;have G:=(BI t).2.1;have M:=(BI t).2.2.1;have R:Aa W (w.1.size+1) z12:=by have h1:=Aa.new (w.alloc (.cells (Yd 1 s K u l H i.length J) 32)) z12 36;rw[Al]at h1;rw[t];exact Aa.A (v:=Ze) h1 (Zy)
 have Q:Aa W (w.1.size+2) z12:=by have h1:=Aa.new ((w.alloc (.cells (Yd 1 s K u l H i.length J) 32)).alloc (.cells Xz 36)) z12 36;rw[Al,Al]at h1;rw[t];exact h1
 have E:W.1[w.1.size+1]?=some (.cells Xz 36):=by rw[t,Below.heap_alloc _ _ _ Yu];have:=heap_alloc_new (w.alloc (.cells (Yd 1 s K u l H i.length J) 32)) (.cells Xz 36);rw[Al]at this;exact this
 have C:W.1[w.1.size+2]?=some (.cells Xz 36):=by have:=heap_alloc_new ((w.alloc (.cells (Yd 1 s K u l H i.length J) 32)).alloc (.cells Xz 36)) (.cells Xz 36);rw[Al,Al]at this;rw[t];exact this
 have I:=h.A A;have yX:=h.I.box.lt;have F:∀b∈vB d m O P L,b<w.1.size:=h.I.dj;have yW:q<=w.1.size:=h.lo;have HC:=Yw (YX q d m O P L p y f n D Z B l i H J W I x h1 yS yA yR yO yG yH (N.move (U:=[]) (Tn.of A) Yu (λb o=> .inl o)));have HW:=Yw t;have HZ:=Yw (Za R (Za Q (Za E (Za C (Za A (Za G M))))));have zT:Hid (∀b∈vB d m O P L,b<w.1.size):=F
 have yC:Hid (DU W q d m O P L p y f n D Z B):=I;have yD:Hid (∀k∈D,(k.sum.size:Int)=p):=x.sz;obtain⟨e0,e3,e4,e5⟩:=Aa.c4 M 0 3 4 5;clear t h I R Q E C A G M F N x;go_enter func62,ntmps62;go_upto_region 2 with fail;rw[<-HW.o];go_wp2_with fail;refine HC.Ai ?_;intro e E T;have zF:Tn (vB d m O P L) w W:=Tn.of HZ.2.2.2.2.1;obtain⟨hrefs,rfl,o⟩|⟨S,T⟩:=T
 .clear e0 e3 e4 e5;go_wp2;exact⟨rfl,.inl ⟨2,_,_,.inl ⟨hrefs,rfl,rfl,rfl⟩,rfl,zF.ah (Tn.of o)⟩⟩
 have zJ:(∃c a b,Gk p f n D B l i c a b/\e=.panicked [{v:=Cl c a b,recovered:=false}]/\Tn (vB d m O P L) W E)\/(e=C5 (C4 (AX l i p))/\∃z ai Y,CA p n D l i z ai/\DU E q d m Y P L p y f ai z Z B/\Tn (vB d m O P L) W E/\(Y.ownBlock=O.ownBlock\/∃g,Y.ownBlock=some g/\W.1.size<=g)):=by
  rcases T with⟨k,hk,hs,hf,rfl,o⟩|⟨k,hk,hs,hf,rfl,o⟩|⟨zA,x,rfl,o⟩|⟨zA,yL,yJ,rfl,⟨O',zM,zE⟩,ht⟩
  .exact .inr ⟨rfl,D,n,O,.inl ⟨k,hk,hs,hf,rfl,rfl⟩,yC.A o,Tn.of o,.inl rfl⟩
  .exact .inl ⟨3,_,_,.inr ⟨S,.inl ⟨k,hk,hs,hf,rfl,rfl,rfl⟩⟩,rfl,Tn.of o⟩
  .exact .inl ⟨4,_,_,.inr ⟨S,.inr (.inl ⟨zA,x,rfl,rfl,rfl⟩)⟩,rfl,Tn.of o⟩
  .exact .inr ⟨rfl,_,_,O',.inr ⟨zA,yL,yJ,rfl,rfl⟩,zM,ht.aj (by intro b o;unfold vB;simp at o |-;rcases o with rfl|rfl|o<;>simp[*]),zE⟩
 have zB:Hid (∀r∈i,Am D r):=S;obtain⟨c,a,b,zA,rfl,ht⟩|⟨rfl,z,ai,Y,G,zN,R,zM⟩:=zJ
 .clear e0 e3 e4 e5;go_wp2;exact⟨rfl,.inl ⟨c,a,b,zA,rfl,zF.ah ht⟩⟩
 have zz:=HZ.2.2.2.2.2.1;have r:∀j,w.1.size<=j->j∉vB d m O P L:=λj t h=>Dz (zT _ h)
 have zI:Aa E (w.1.size+1) z12:=Aa.same HZ.1 (R.block _ Yv (r _ Yv));have Q:Aa E (w.1.size+2) z12:=Aa.same HZ.2.1 (R.block _ Yv (r _ Yv));have zH:Aa E w.1.size (Yc 1 s K u l H i.length J):=Aa.same HZ.2.2.2.2.2.2 (R.block _ Yv (r _ Yv))
 have N:E.1[w.1.size+1]?=some (.cells Xz 36):=(R.block _ Yv (r _ Yv)).ah HZ.2.2.1;have t:E.1[w.1.size+2]?=some (.cells Xz 36):=(R.block _ Yv (r _ Yv)).ah HZ.2.2.2.1;have⟨X,hX⟩:=D7 E (w.1.size+2) 8 (C4 (AX l i p));have M:Tn [w.1.size+2] E X:=by rw[hX];exact AP _ _ _ _
 have A:Aa X (w.1.size+2) (z12.set 8 (C4 (AX l i p))):=by rw[hX];exact Q.set 8 _
 have F:Aa X (w.1.size+1) z12:=Aa.same zI (M.block _ zI.lt Yu);have zP:Aa X w.1.size (Yc 1 s K u l H i.length J):=Aa.same zH (M.block _ zH.lt Yu);have I:DU X q d m Y P L p y f ai z Z B:=zN.K M (by intro b o;simp at o;subst o;exact⟨Yv,zN.dz t Yv⟩);have o8:=(Q 8 _ rfl).2;have v8:=(Q 8 _ rfl).1;have C:=G.sz yD yA;have g:=Yw (Zn G (Zn zN (Zn R zM)))
 have zK:=Yw (Zn M (Zn A (Zn F (Zn I (Zn t N)))));have zU:=Yw hX;have yE:Hid (∃j,X.1[w.1.size+2]?=some (.cells j 36)):=⟨_,by rw[hX,setCell_eq_setRow E _ _ _ _ _ _ t];exact setRow_heap E _ _ _ _ _ t⟩;obtain⟨yF,_⟩:=zP 3 _ rfl;have s8:=(A 8 _ rfl).1;have yV:w.1.size+2<X.1.size:=A.lt;by_cases x:B.length=200\/f=1000000000
 .have HL:=Yw (NZ q d m Y P L p y f ai z Z B (AX l i p) u X I C G.there x);clear e0 e3 e4 e5 hX M A F zP I zI Q zH N t C HC;go_upto_region 5 with fail;rw[<-zU.o];go_wp2_with fail;refine HL.Ai ?_;rintro e j ⟨rfl,yI⟩;go_wp2;refine⟨rfl,.inl ⟨4,_,_,.inr ⟨zB,.inr (.inr ⟨⟨_,_,g.1⟩,x,rfl,rfl,rfl⟩)⟩,rfl,?_⟩⟩
  have t0:=(zF.ah g.2.2.1).fresh zK.1 (show w.1.size<=w.1.size+2 by omega);exact t0.ah (Tn.of yI)
 .have zZ:B.length<200:=Yv
  have zY:f<1000000000:=Yv
  have HL:=Yw (PH q d m Y P L p y f ai z Z B (AX l i p) u X I C G.there zZ yK zY yM yN yP yQ);clear e0 e3 e4 e5 hX M A F zP I zI Q zH N t C HC x;go_upto_region 5 with fail;rw[<-zU.o];go_wp2_with fail;refine HL.Ai ?_;rintro e j ⟨rfl,L',zG,Q⟩;have⟨M,A,F,I,t,N⟩:=zK.o;have C:∀b∈d::L.ownBlock.toList,b<w.1.size:=λb o=>zT b (by unfold vB;simp at o |-;rcases o with rfl|o<;>simp[*])
  have yB:Aa j (w.1.size+1) z12:=Aa.same F (Q.block _ F.lt (λh=>Dz (C _ h)));have x:Aa j (w.1.size+2) (z12.set 8 (C4 (AX l i p))):=Aa.same A (Q.block _ A.lt (λh=>Dz (C _ h)));have zX:X.1[w.1.size+1]?=_:=(M.block _ (Dz g.2.2.1.size) Yu).ah N
  have zW:j.1[w.1.size+1]?=some (.cells Xz 36):=(Q.block _ F.lt (λh=>Dz (C _ h))).ah zX;have⟨zS,zV⟩:=yE.o;have zE:j.1[w.1.size+2]?=some (.cells zS 36):=(Q.block _ A.lt (λh=>Dz (C _ h))).ah zV;have zC:=Yw (Zn zG (Zn Q (Zn (zG.dz zW Yv) (zG.dz zE Yv))))
  have⟨⟨y0,q0⟩,⟨y1,q1⟩,⟨y2,q2⟩,⟨y3,q3⟩,⟨y4,q4⟩,⟨y5,q5⟩,⟨y6,q6⟩,⟨y7,q7⟩,⟨y8,q8⟩,⟨y9,q9⟩,⟨yT,xB⟩,yU,xC⟩:=Bf yB;obtain⟨v0,p0⟩:=x 0 _ rfl;obtain⟨v1,p1⟩:=x 1 _ rfl;obtain⟨v2,p2⟩:=x 2 _ rfl;obtain⟨v3,p3⟩:=x 3 _ rfl;obtain⟨v4,p4⟩:=x 4 _ rfl;obtain⟨v5,p5⟩:=x 5 _ rfl;obtain⟨v6,p6⟩:=x 6 _ rfl;obtain⟨v7,p7⟩:=x 7 _ rfl;obtain⟨xG,p8⟩:=x 8 _ rfl;obtain⟨v9,p9⟩:=x 9 _ rfl;obtain⟨xD,yZ⟩:=x 10 _ rfl
  obtain⟨xF,xA⟩:=x 11 _ rfl;clear zG Q yB x zW zE zX M A F I t N HL C zV yF s8 o8 v8;go_wp2;refine C0 (.agg #[Ze,Ze,Ze,Ze,Ze,Zb,Zb,Zb,C4 (AX l i p),Zg (f+1),Zc,Zc]) (by simp[results,results62,go_sem,y0,y1,y2,y3,y4,y5,y6,y7,y8,y9,yT,yU]) ?_
  have t:=(Tn.set (V:=[w.1.size+1,w.1.size+2]) j (w.1.size+2) 9 (Zg (f+1)) Yu).ah (Tn.aj (Bs (j.setCell (Zd (w.1.size+2) 9) (Zg (f+1))) (w.1.size+1) Ze Ze Ze Ze Ze Zb Zb Zb (C4 (AX l i p)) (Zg (f+1)) Zc Zc) Yu)
  refine .inr ⟨z,ai,zB,g.1,zZ,zY,rfl,Y,L',zC.1.K t (by intro b o;simp at o;rcases o with rfl|rfl;exact⟨Yv,zC.2.2.1⟩;exact⟨Yv,zC.2.2.2⟩),?_⟩;have t0:=(zF.ah g.2.2.1).fresh zK.1 (show w.1.size<=w.1.size+2 by omega);have x:=t0.ah (zC.2.1.aj (V':=vB d m O P L) (by intro b o;unfold vB;simp at o |-;rcases o with rfl|o<;>simp[*]))
  exact⟨t.os.ah x.os,t.tape.ah x.tape,t.output.ah x.output,Zm x.size t.size,λb o A=>(t.block b (Zr o x.size) Yt).ah (x.block b o A)⟩
def YY(w w':Zh)(e:Ending)(wd now given births:Int)(T P L:Value)(ls:List Ld)(s:Zi)(hold:Int)(base:Nat):Prop:=
 Tn L.ownBlock.toList w w'/\(((200<=ls.length\/1000000000<=given)/\e=.returned (.agg #[Zg 4,Ze,Ze,Ze,Ze,Zb,Zb,Zb,Zc,Ze,Zc,Zc]))\/
  ((ls.length<200/\given<1000000000)/\∃g c,e=.returned (.agg #[Ze,Zg wd,Zg now,Zg (given+1),Zg births,T,P,.slice (some ⟨g,0,none⟩) (ls.length+1) c,Zc,Zg (given+1),Zc,Zc])/\w'.ownsRow base 73 3 (.slice (some ⟨g,0,none⟩) (ls.length+1) c) (ls++[(⟨given+1,s,now+hold⟩:Ld)]).length (Ab lC (ls++[(⟨given+1,s,now+hold⟩:Ld)]))/\(L.ownBlock=some g\/w.1.size<=g)))
theorem Ix(x i a d:Int)(r n k:Zk)(u t p o l j:Nat)(f:Dv)(s:Zi)(hold:Int)(w:Zh)(K:w.ownsRow j 73 3 (C3 k f.length l) f.length (Ab lC f))(zA:j<=w.1.size)(hl:f.length<=1000)(zO:0<=a)(zP:a<=1000000000)(zG:0<=i)(zH:i<=1000000000)(zI:0<=hold)(zJ:hold<=1000000000):
 D8 73 #[.agg (Yg x i a d r u t n p o k f.length l),C4 s,Zg hold] w λe m=>YY w m e x i a d (C3 r u t) (C3 n p o) (C3 k f.length l) f s hold j:=by
 have⟨W,m⟩:=Ae ((w.alloc (.cells (Yg x i a d r u t n p o k f.length l) 27)).alloc (.cells Xz 36));have C:=(Bi m).1;have T:=(Bi m).2.1;have A:=(Bi m).2.2.1;have O:Aa W (w.1.size+1) z12:=by have h1:=Aa.new (w.alloc (.cells (Yg x i a d r u t n p o k f.length l) 27)) z12 36;rw[Al]at h1;rw[m];exact h1
 have I:=Yw m;have HB:=Yw C;by_cases hfull:200<=f.length\/1000000000<=a
 .obtain⟨⟨y0,q0⟩,⟨y1,q1⟩,⟨y2,q2⟩,⟨y3,q3⟩,⟨y4,q4⟩,⟨y5,q5⟩,⟨y6,q6⟩,⟨y7,q7⟩,⟨y8,q8⟩,⟨y9,q9⟩,⟨G,zK⟩,H,zM⟩:=Bf O;have⟨v0,v1,v2,v3,v4,v5,v6,v7⟩:=Be A;have HF:=Yw hfull;have D:(decide ((200:Int)<=(f.length:Int))=true)\/(decide ((200:Int)<=(f.length:Int))=false/\decide ((1000000000:Int)<=a)=true):=by
   by_cases h:200<=f.length
   .left;simp;omega
   .right;refine⟨Yt,?_⟩;rcases hfull with Y|Y
    .exact absurd Y h
    .simpa using Y
  clear m A O C T hfull K;rcases D with D|⟨D,zN⟩
  all_goals
   go_enter func73,ntmps73;go_upto_region 1 with fail;rw[<-I.o];clear I;go_wp2;refine C0 (.agg (Xy 4)) (by simp[results,results73,go_sem,y0,y1,y2,y3,y4,y5,y6,y7,y8,y9,G,H]) ?_;exact⟨Tn.of (HB.ah (Tn.A (Bs W (w.1.size+1) _ _ _ _ _ _ _ _ _ _ _ _) HB.size (by intro v Z;simp at Z;omega))),.inl ⟨HF,rfl⟩⟩
 .have zF:f.length<200/\a<1000000000:=Yv
  have⟨X,J⟩:=D7 W (w.1.size) 2 (Zg (a+1));have L:Tn [w.1.size] W X:=by rw[J];exact AP _ _ _ _
  have M:Aa X w.1.size (Yh x i (a+1) d r u t n p o k f.length l):=by rw[J];exact A.set 2 _
  have q:=Aa.same O (L.block _ Yv Yu);have E:=C.ah (L.A C.size Yu);have z:∀g,(C1 k f l).ownBlock=some g->g<w.1.size:=λg y=>(Ac K y).2;have S:=Ah K E;have zU:w.1.size+2<=X.1.size:=Dz L.size
  obtain⟨g,c,N,F,R,y,Q⟩:=OM X j _ f S (⟨a+1,s,i+hold⟩:Ld) Yv Yv 25;dsimp only at F;have U:=Aa.same M (y.block _ M.lt (λe=>Dz (z _ e.symm)));have b:=Aa.same q (y.block _ Yv (λe=>Dz (z _ e.symm)));obtain⟨c2,f2⟩:=A 2 _ rfl;obtain⟨c6,_⟩:=A 6 _ rfl;obtain⟨d1,d2,d6⟩:=Aa.c3 M 1 2 6;have⟨i0,i1,i2,i3,i4,i5,i6,i7⟩:=Be U
  have⟨⟨y0,q0⟩,⟨y1,q1⟩,⟨y2,q2⟩,⟨y3,q3⟩,⟨y4,q4⟩,⟨y5,q5⟩,⟨y6,q6⟩,⟨y7,q7⟩,⟨y8,q8⟩,⟨y9,q9⟩,⟨G,zK⟩,H,zM⟩:=Bf b;have k6:=(U 6 _ rfl).2;have zT:=Hj zG zH zI zJ;have zR:¬((200:Int)<=(f.length:Int)):=Yv
  have zS:¬((1000000000:Int)<=a):=Yv
  have P:=Yw J;have B:=Yw (Za R (Za y Q));have zB:=Yw E;have zE:=Yw z;have zC:=Yw zF;clear m J A O M q L U b C T S K R y Q E z hfull;go_enter func73,ntmps73;go_upto_region 1 with fail;rw[<-I.o];clear I;go_upto_region 4 with fail;rw[<-P.o];clear P c2 f2 c6;go_wp2_with (at_builtin;refine wpList_append_run rfl _ _ 25 25 rfl rfl rfl F ?_);clear F d1 d2 d6;go_wp2
  refine C0 (.agg #[Ze,Zg x,Zg i,Zg (a+1),Zg d,C3 r u t,C3 n p o,Yz g (f.length+1) c,Zc,Zg (a+1),Zc,Zc]) (by simp[results,results73,go_sem,y0,y1,y2,y3,y4,y5,y6,y7,y8,y9,G,H]) ?_
  have m:=(Tn.set (V:=[w.1.size,w.1.size+1]) N w.1.size 6 (Yz g (f.length+1) c) Yu).ah (Tn.aj (Bs (N.setCell (Zd (w.1.size) 6) (Yz g (f.length+1) c)) (w.1.size+1) Ze (Zg x) (Zg i) (Zg (a+1)) (Zg d) (C3 r u t) (C3 n p o) (Yz g (f.length+1) c) Zc (Zg (a+1)) Zc Zc) Yu);have y:=(Tn.of zB).ah (EJ B.2.1);have A:g<w.1.size\/w.1.size+2<=g:=by
   rcases B.2.2 with e|e
   .exact .inl (zE g e)
   .exact .inr Yv
  refine⟨⟨m.os.ah y.os,m.tape.ah y.tape,m.output.ah y.output,Zm y.size m.size,λb z Z=>(m.block b (Zr z y.size) Yt).ah (y.block b z Z)⟩,.inr ⟨zC,g,c,rfl,As B.1 (λq z=>m.block q (Ac B.1 z).2 ?_),?_⟩⟩
  .obtain rfl:g=q:=by simpa [ownBlock]using z
   simp;omega
  .rcases B.2.2 with e|e
   .exact .inl e
   .exact .inr Yv
theorem KTo.A{d:Zh}{rs:Zj}{b:Dj}(h:KTo w c g rs b)(a:Zz w d):KTo d c g rs b:=
 ⟨h.len,Ah h.ak a,λi k r e f=>Ah (h.B i k r e f) a,h.j,h.inc⟩
