import Derived.Test.YtoglnpagihdhpaaGreatDoorX12
import Derived.Test.YtoglnpagihdhpaaGreatDoorX07
set_option maxRecDepth 100000
set_option maxHeartbeats 16000000
namespace Go.Proofs.YtoglnpagihdhpaaGreatDoor
open ChangeShapes WideShapes ChangeAt RowKit _root_.Go.Proofs.Tryz
variable{w:Zh}{a b:List Ld}{e:TypeId}{size i g cap j:Nat}{v:Value}{n:Int}{d:List Pd}{x:Pd}{s:Zi}
structure DK (ls:List Pd) (n:Zi) (i:Nat):Prop where
 le:i<=ls.length
 lo:∀j x,j<i->ls[j]?=some x->less x.name n=true
 hi:∀j x,i<=j->ls[j]?=some x->less x.name n=false
theorem Jk(g cap:Nat)(c:List Pd)(n:Zi)(w:Zh)(B:Nat)(z:w.ownsRow B 69 2 (Yz g c.length cap) c.length (Ab pC c))(Y:c.length<=600)(l:c.Pairwise (fun a b=>less a.name b.name=true)):
 Calls prog 153 #[Yz g c.length cap,.string n,.func (.func 154) #[] #[]] w fun e Q=>∃i:Nat,e=.returned (.tuple #[Zg i,.bool (decide (∃x,c[i]?=some x/\x.name=n))])/\DK c n i/\Zz w Q:=by
 have T:=(Ac z rfl).2;have V:=Yw z;have I:Hid (∀(X:Zh),Zz w X->∀k x,c[k]?=some x->X.cell? (Zd g (k *2))=some (.string x.name)/\X.cell? (Zd g (k *2+1))=some (.string x.sum)):=fun X O k x A=>by have h:=Ag z O;have W:=(Zw A).1;have m:∀j,j<2->X.cell? (Zd g (k *2+j))=(pC x)[j]?:=fun j F=>(h.cellAt (k *2+j) Yv).trans (Cz Cg A F);exact⟨by simpa [pC]using m 0 Yq,by simpa [pC]using m 1 Yq⟩
 have J:=Yw l;clear z l;go_enter func153,ntmps153;have S:=enters_of func154 Yr rfl;go_wp2
 go_loopw [9,10] (fun i j wr=>∃lo d:Nat,i=Zg lo/\j=Zg d/\lo<=d/\d<=c.length/\Hid ((∀j x,j<lo->c[j]?=some x->less x.name n=true)/\(∀j x,d<=j->c[j]?=some x->less x.name n=false))/\Zz w wr) (fun i j _=>(intOf j).toNat -(intOf i).toNat)
 case atStart=>exact⟨0,c.length,rfl,rfl,Nat.zero_le _,Zx,⟨fun j x h=>by omega,fun j x h A=>by have:=(Zw A).1;omega⟩,Ae⟩
 case round=>
  obtain⟨lo,d,rfl,rfl,U,C,v,f⟩:=hrel;have D:=f.size;by_cases hlt:lo<d
  .have u:(lo+d)/2<c.length:=Yv
   have o:=Yw (Zv u);generalize c[(lo+d)/2]=x at *
   obtain⟨r0,G⟩:=I.o wr f _ _ o.o;go_wp2_with fail;refine(Mc x n wr).mono ?_;rintro e R ⟨rfl,t⟩;have r:=f.trans (t.mono D);clear r0 G;by_cases m:less x.name n=true
   .have P:decide (En x.name n<0)=true:=by simpa using (Ps _ _).2 m
    have s:=Yw m;clear m;generalize En x.name n=cv at *
    go_wp2;refine⟨⟨(lo+d)/2+1,d,Yn,rfl,Yv,C,⟨?_,v.o.2⟩,r⟩,Ys⟩;intro j y F q;rcases Nat.lt_or_ge j ((lo+d)/2)with h|h
    .have:=List.pairwise_iff_getElem.1 J.o j ((lo+d)/2) Yv u h;obtain⟨_,rfl⟩:=Zw q;obtain⟨_,e⟩:=Zw o.o;rw[e]at this;exact Cb this s.o
    .obtain rfl:j=(lo+d)/2:=Yv
     rw[o.o]at q;cases q;exact s.o
   .have P:decide (En x.name n<0)=false:=by simpa using fun e=>m ((Ps _ _).1 e)
    have s:Hid (less x.name n=false):=by show _=_;simpa using m
    clear m;generalize En x.name n=cv at *
    go_wp2;refine⟨⟨lo,(lo+d)/2,rfl,Yn,Yv,Yv,⟨v.o.1,?_⟩,r⟩,Ys⟩;intro j y F q;rcases Nat.lt_or_ge ((lo+d)/2) j with h|h
    .have L:=(Zw q).1;have:=List.pairwise_iff_getElem.1 J.o ((lo+d)/2) j u L h;obtain⟨_,rfl⟩:=Zw q;obtain⟨_,e⟩:=Zw o.o;rw[e]at this;have K:=s.o;cases h':less c[j].name n with
     |false=>rfl
     |true=>rw[Cb this h']at K;cases K
    .obtain rfl:j=(lo+d)/2:=Yv
     rw[o.o]at q;cases q;exact s.o
  .obtain rfl:lo=d:=Yv
   have H:Hid (DK c n lo):=⟨C,v.o.1,v.o.2⟩;by_cases hn:lo<c.length
   .have o:=Yw (Zv hn);generalize c[lo]=x at *
    obtain⟨r0,G⟩:=I.o wr f _ _ o.o;have M:(lo:Int)<c.length:=Yv
    go_wp2_with fail;refine(Mc x n wr).mono ?_;rintro e R ⟨rfl,t⟩;have r:=f.trans (t.mono D);clear r0 G;have E:Hid (decide (∃y,c[lo]?=some y/\y.name=n)=(En x.name n==0)):=by
     show _=_;rw[o.o];by_cases h:x.name=n
     .rw[(JO x.name n).2 h];simp[h]
     .have N:¬En x.name n=0:=fun e=>h ((JO x.name n).1 e);rw[show(En x.name n==0)=false by simpa using N];simp[h]
    generalize En x.name n=cv at *
    go_wp2
    go_ret2
    exact⟨lo,by rw[E.o];first|rfl|simp[Act.put],H.o,r⟩
   .have E:Hid (decide (∃y,c[lo]?=some y/\y.name=n)=false):=by show _=_;rw[List.getElem?_eq_none Yv];simp
    have M:¬((lo:Int)<c.length):=Yv
    go_wp2
    go_ret2
    exact⟨lo,by rw[E.o];first|rfl|simp[Act.put],H.o,f⟩
theorem JT{a:Nat}{n:Nat}{b:Zj}(h:w.ownsRow a e size v n b)(d:0<n):∃g cap,v=Yz g n cap:=by
 rcases h.2 with⟨_,f⟩|⟨g,cap,c,rfl,_⟩
 .omega
 .exact⟨g,cap,rfl⟩
theorem JP.at{f:List Ld}(h:JP f n i)(m:∃x∈f,x.H=n)(c:f.Pairwise (fun a b=>a.H<b.H)):∃x,f[i]?=some x/\x.H=n:=by
 obtain⟨x,r,q⟩:=m;obtain⟨j,g⟩:=List.getElem?_of_mem r;have l:=(Zw g).1;have k:i=j:=by
  rcases Nat.lt_trichotomy i j with d|d|d
  .have s:=h.hi i f[i] (Zx) (Zv Yv);have o:=List.pairwise_iff_getElem.1 c i j Yv l d;obtain⟨_,e⟩:=Zw g;rw[e]at o;omega
  .exact d
  .have:=h.lo j x d g;omega
 exact⟨x,k▸g,q⟩
theorem DK.at{f:List Pd}{n:Zi}(h:DK f n i)(r:∃x∈f,x.name=n)(c:f.Pairwise (fun a b=>less a.name b.name=true)):∃x,f[i]?=some x/\x.name=n:=by
 obtain⟨x,s,k⟩:=r;obtain⟨j,g⟩:=List.getElem?_of_mem s;have q:=(Zw g).1;have o:i=j:=by
  rcases Nat.lt_trichotomy i j with d|d|d
  .have l:=h.hi i f[i] (Zx) (Zv Yv);have m:=List.pairwise_iff_getElem.1 c i j Yv q d;obtain⟨_,e⟩:=Zw g;rw[e,k]at m;rw[m]at l;cases l
  .exact d
  .have:=h.lo j x d g;rw[k,BI]at this;cases this
 exact⟨x,o▸g,k⟩
def Br(ls:List Ld)(n:Int):List Ld:=ls.filter (fun x=> !decide (x.H=n))
def Bc(ps:List Pd)(n:Zi):List Pd:=ps.filter (fun x=> !decide (x.name=n))
theorem He{A:Type}{q:A->Bool}:∀{xs:List A} {i:Nat} {x:A},xs[i]?=some x->q x=false->(∀j y,xs[j]?=some y->j≠i->q y=true)->xs.filter q=xs.eraseIdx i
 |[],i,x,hx,_,_=>by simp at hx
 |y::ys,0,x,hx,hq,ho=>by
  simp only[List.getElem?_cons_zero,Option.some.injEq]at hx;subst hx;rw[List.filter_cons,hq,List.eraseIdx_cons_zero];simp only[Bool.false_eq_true,if_false];exact List.filter_eq_self.2 (fun z c=>by
   obtain⟨j,a⟩:=List.getElem?_of_mem c;exact ho (j+1) z (by simpa using a) Yv)
 |y::ys,i+1,x,hx,hq,ho=>by have b:=ho 0 y Yu Yv;rw[List.filter_cons,b,List.eraseIdx_cons_succ];simp only[if_true];rw[He (i:=i) (x:=x) (by simpa using hx) hq (fun j z a d=>ho (j+1) z (by simpa using a) Yv)]
theorem Qn{d:List Ld}{x:Ld}(g:d[i]?=some x)(q:x.H=n)(c:d.Pairwise (fun a b=>a.H<b.H)):Br d n=d.eraseIdx i:=by
 refine He g (by simp[q]) (fun j y m o=> ?_);have e:=(Zw g).1;have f:=(Zw m).1;obtain⟨_,k⟩:=Zw g;obtain⟨_,l⟩:=Zw m;rcases Nat.lt_or_gt_of_ne o with h|h
 .have:=List.pairwise_iff_getElem.1 c j i f e h;rw[k,l]at this;simp;omega
 .have:=List.pairwise_iff_getElem.1 c i j e f h;rw[k,l]at this;simp;omega
theorem Pu{n:Zi}(m:d[i]?=some x)(l:x.name=n)(c:d.Pairwise (fun a b=>less a.name b.name=true)):Bc d n=d.eraseIdx i:=by
 refine He m (by simp[l]) (fun j y r s=> ?_);have g:=(Zw m).1;have k:=(Zw r).1;obtain⟨_,o⟩:=Zw m;obtain⟨_,q⟩:=Zw r;have f:y.name≠n:=fun e=>by
  rcases Nat.lt_or_gt_of_ne s with h|h
  .have:=List.pairwise_iff_getElem.1 c j i k g h;rw[o,q,e,l,BI]at this;cases this
  .have:=List.pairwise_iff_getElem.1 c i j g k h;rw[o,q,e,l,BI]at this;cases this
 simpa using f
theorem Vw(j d m:Nat)(O P L:Value)(Q now k c:Int)(M:List Kd)(N:List Pd)(f:List Ld)(n:Int)(w:Zh)(h:DU w j d m O P L Q now k c M N f)(hl:f.length<=200)(o:f.Pairwise (fun a b=>a.H<b.H))(z:∃x∈f,x.H=n):
 Calls prog 117 #[.pointer (some ⟨d,0,none⟩),Zg n] w fun e V=>e=.returned (.tuple #[])/\∃K,DU V j d m O P K Q now k c M N (Br f n)/\Tn (d::L.ownBlock.toList) w V:=by
 have E:0<f.length:=by obtain⟨x,hx,_⟩:=z;exact List.length_pos_of_mem hx
 obtain⟨g,cap,Y⟩:=JT h.I.ck E;subst Y;have R:Hid _:=h;have u:Hid _:=o;have F:Hid _:=z;have S:Hid _:=Hw g cap f n w j h.I.ck (by omega) o;obtain⟨c7,_⟩:=h.I.box 7 _ rfl;clear h o z;go_enter func117,ntmps117;go_wp2_with fail;refine S.Ah ?_;rintro e W ⟨i,rfl,J,v⟩;obtain⟨x,t,A⟩:=J.at F.o u.o;have q:decide (∃x,f[i]?=some x/\x.H=n)=true:=by simpa using ⟨x,t,A⟩
 have G:=(Zw t).1;have Z:Hid _:=Qn t A u.o;have s:=R.o.below v;have r:Hid _:=s;have X:Hid _:=v;have D:Hid _:=Mb g cap i f W j s.I.ck (by omega) G;obtain⟨e7,_⟩:=s.I.box 7 _ rfl;rw[q];clear q t A J s v R S F u c7;go_wp2_with fail;refine D.Ah ?_;rintro e C ⟨rfl,I,y⟩;have H:∀b,(Value.slice (some ⟨g,0,none⟩) (f.length -1) cap).ownBlock=some b->b≠d:=fun b B=>((Dj r.o.I.ap).2.2.2 b B).1
 have l:=Aa.same r.o.I.box (y.block d r.o.I.box.lt (fun e=>H g rfl (Option.some.inj e).symm));obtain⟨f7,k7⟩:=l 7 _ rfl;have T:∃K,DU (C.setCell (Zd d 7) (.slice (some ⟨g,0,none⟩) (f.length -1) cap)) j d m O P K Q now k c M N (Br f n)/\Tn (d::(Value.slice (some ⟨g,0,none⟩) f.length cap).ownBlock.toList) w (C.setCell (Zd d 7) (.slice (some ⟨g,0,none⟩) (f.length -1) cap)):=by
  have U:Tn (d::(Value.slice (some ⟨g,0,none⟩) f.length cap).ownBlock.toList) W (C.setCell (Zd d 7) (.slice (some ⟨g,0,none⟩) (f.length -1) cap)):=
   ((Di y).mono (by intro b B;simp[Value.ownBlock]at B |-;exact .inr B)).trans ((Bl C d 7 _).mono (by simp))
  refine⟨_,r.o.ik U (l.set 7 _) ?_ (.inl rfl),(Tn.of X.o).trans U⟩;rw[Z.o,List.length_eraseIdx,if_pos G];exact BM I H 7 _
 have HK:Hid _:=T;clear T I y l e7;go_wp2
 go_end0
 exact⟨rfl,HK.o⟩
theorem JU(k d m:Nat)(O L:Value)(g cap:Nat)(A now l j:Int)(v:List Kd)(f:List Pd)(y:List Ld)(n:Zi)(w:Zh)(h:DU w k d m O (Yz g f.length cap) L A now l j v f y)(B:f.length<=200)(c:f.Pairwise (fun a b=>less a.name b.name=true)):
 Calls prog 133 #[Yy d,.string n] w fun e z=>∃i:Nat,e=.returned (.tuple #[Zg i,.bool (decide (∃x,f[i]?=some x/\x.name=n))])/\DK f n i/\Zz w z:=by
 have u:=Yw (Jk g cap f n w k h.I.ci Yv c);obtain⟨c6,_⟩:=h.I.box 6 _ rfl;clear h c;go_enter func133,ntmps133;go_wp2_with fail;refine u.Ah ?_;rintro e C ⟨i,rfl,t,s⟩;obtain⟨q,o⟩:∃q,decide (∃x,f[i]?=some x/\x.name=n)=q:=⟨_,rfl⟩;have r:=Yw o;rw[o];clear o;go_wp2
 go_ret2
 exact⟨i,by rw[r.o];rfl,t,s⟩
theorem TY(k d m:Nat)(O P L:Value)(F now f c:Int)(C:List Kd)(j:List Pd)(D:List Ld)(n:Zi)(w:Zh)(h:DU w k d m O P L F now f c C j D)(hl:j.length<=200)(o:j.Pairwise (fun a b=>less a.name b.name=true))(z:∃x∈j,x.name=n):
 Calls prog 116 #[.pointer (some ⟨d,0,none⟩),.string n] w fun e V=>e=.returned (.tuple #[])/\∃Q,DU V k d m O Q L F now f c C (Bc j n) D/\Tn (d::P.ownBlock.toList) w V:=by
 have H:0<j.length:=by obtain⟨x,hx,_⟩:=z;exact List.length_pos_of_mem hx
 obtain⟨g,cap,Y⟩:=JT h.I.ci H;subst Y;have R:Hid _:=h;have u:Hid _:=o;have I:Hid _:=z;have S:Hid _:=JU k d m O L g cap F now f c C j D n w h hl o;clear h o z;go_enter func116,ntmps116;go_wp2_with fail;refine S.Ah ?_;rintro e W ⟨i,rfl,N,v⟩;obtain⟨x,t,A⟩:=N.at I.o u.o;have q:decide (∃x,j[i]?=some x/\x.name=n)=true:=by simpa using ⟨x,t,A⟩
 have J:=(Zw t).1;have Z:Hid _:=Pu t A u.o;have s:=R.o.below v;have r:Hid _:=s;have X:Hid _:=v;have G:Hid _:=NR g cap i j W k s.I.ci (by omega) J;obtain⟨e6,_⟩:=s.I.box 6 _ rfl;rw[q];clear q t A N s v R S I u;go_wp2_with fail;refine G.Ah ?_;rintro e E ⟨rfl,M,y⟩;have K:∀b,(Value.slice (some ⟨g,0,none⟩) (j.length -1) cap).ownBlock=some b->b≠d:=fun b B=>((Dj r.o.I.ap).2.2.1 b B).1
 have l:=Aa.same r.o.I.box (y.block d r.o.I.box.lt (fun e=>K g rfl (Option.some.inj e).symm));obtain⟨f6,k6⟩:=l 6 _ rfl;have T:∃Q,DU (E.setCell (Zd d 6) (.slice (some ⟨g,0,none⟩) (j.length -1) cap)) k d m O Q L F now f c C (Bc j n) D/\Tn (d::(Value.slice (some ⟨g,0,none⟩) j.length cap).ownBlock.toList) w (E.setCell (Zd d 6) (.slice (some ⟨g,0,none⟩) (j.length -1) cap)):=by
  have U:Tn (d::(Value.slice (some ⟨g,0,none⟩) j.length cap).ownBlock.toList) W (E.setCell (Zd d 6) (.slice (some ⟨g,0,none⟩) (j.length -1) cap)):=
   ((Di y).mono (by intro b B;simp[Value.ownBlock]at B |-;exact .inr B)).trans ((Bl E d 6 _).mono (by simp))
  refine⟨_,r.o.ij U (l.set 6 _) ?_ (.inl rfl),(Tn.of X.o).trans U⟩;rw[Z.o,List.length_eraseIdx,if_pos J];exact BM M K 6 _
 have HK:Hid _:=T;clear T M y l e6;go_wp2
 go_end0
 exact⟨rfl,HK.o⟩
def AK(ls:List Ld)(n:Int):List Ld:=ls.filter (fun x=> !decide (x.R<=n))
theorem NE(x:Ld)(b d:Nat)(n:Int)(w:Zh)(f:w.cell? (Zd b 0)=some (Yy d))(g:w.cell? (Zd d 2)=some (Zg n)):
 Calls prog 141 #[.agg #[Zg x.H,.string x.sum,Zg x.R],Yy b] w fun e m=>e=.returned (.bool (decide (x.R<=n)))/\Zz w m:=by
 obtain⟨W,c⟩:=Af (w.alloc (.cells #[Zg x.H,.string x.sum,Zg x.R] 71));have a:=(AB c).1;have l:W.cell? (Zd (w.heap.size) 2)=some (Zg x.R):=by rw[c];simp[go_sem]
 have i:=(a.cell (p:=⟨b,0,none⟩) (World.block_lt_of_cell? w _ f)).trans f;have c2:=(a.cell (p:=⟨d,2,none⟩) (World.block_lt_of_cell? w _ g)).trans g;have o:b<W.heap.size/\d<W.heap.size:=⟨World.block_lt_of_cell? W _ i,World.block_lt_of_cell? W _ c2⟩;have h:=Yw c;clear c f g;go_enter func141,ntmps141;go_upto_region 1 with fail;rw[<-h.o];clear h;have k:=Yw a;clear a;cases hbb:decide (x.R<=n)
 all_goals
  have j:=Yw hbb;go_region_with fail
  all_goals
   clear l i c2;go_wp2;go_ret;exact⟨by rw[j.o];rfl,k.o.drew⟩
def XL(ls:List Ld)(n r:Int):Prop:=(r= -1/\∀x∈ls,n<x.R)\/∃(i:Nat) (x:Ld),r=i/\ls[i]?=some x/\x.R<=n/\∀j y,j<i->ls[j]?=some y->n<y.R
theorem Jl(a:Zk)(cap b d:Nat)(n:Int)(f:List Ld)(w:Zh)(l:AM w w.heap.size a f)(S:f.length<=1048576)(v:w.cell? (Zd b 0)=some (Yy d))(A:w.cell? (Zd d 2)=some (Zg n)):
 Calls prog 159 #[.slice a f.length cap,.func (.func 141) #[] #[Yy b]] w fun e L=>∃r:Int,e=.returned (Zg r)/\XL f n r/\Zz w L:=by
 have C:=World.block_lt_of_cell? w _ v;have E:=World.block_lt_of_cell? w _ A;go_enter func159,ntmps159;go_wp2
 go_loopw [8] (fun i wr=>∃k:Nat,k<=f.length/\i=Zg k/\Hid (∀j x,j<k->f[j]?=some x->n<x.R)/\Zz w wr) (fun i _=>f.length -(intOf i).toNat)
 case atStart=>exact⟨0,Nat.zero_le _,rfl,(fun j x h=>by omega),Ae⟩
 case round=>
  obtain⟨k,R,rfl,g,c⟩:=hrel;have G:=c.size;by_cases hlt:k<f.length
  .obtain⟨N,M,J,Q,q⟩:=(l.below c).at hlt;subst J;have s:=Yw (Zv hlt);obtain⟨O,P,c2⟩:=q k _ s.o;have D:=(c.cell (p:=⟨b,0,none⟩) C).trans v;have F:=(c.cell (p:=⟨d,2,none⟩) E).trans A;clear q l;generalize f[k]=x at *
   go_wp2_with fail;refine(NE x b d n wr D F).mono ?_;rintro e T ⟨rfl,B⟩;have o:=c.trans (B.mono G);by_cases h:x.R<=n
   .have m:decide (x.R<=n)=true:=by simpa using h
    have I:=Yw h;rw[m];clear h m;go_wp2;go_ret;exact⟨_,rfl,.inr ⟨k,x,rfl,s.o,I.o,g.o⟩,o⟩
   .have H:Hid (∀j y,j<k+1->f[j]?=some y->n<y.R):=by
     intro j y z t;rcases Nat.lt_or_ge j k with u|u
     .exact g.o j y u t
     .obtain rfl:j=k:=Yv
      rw[s.o]at t;cases t;exact Int.not_le.1 h
    have m:decide (x.R<=n)=false:=by simpa using h
    rw[m];clear h m;go_wp2;exact⟨⟨k+1,Yv,Yn,H,o⟩,Ys⟩
  .go_wp2;go_ret;refine⟨_,rfl,.inl ⟨rfl,fun x K=> ?_⟩,c⟩;obtain⟨j,z,rfl⟩:=List.getElem_of_mem K;exact g.o j _ Yv (Zv z)
theorem Si(x:Kd)(a:List Kd):FB (x::a)=x.B.length+FB a:=by simp[FB]
structure Vx (w:Zh) (base:Nat) (T:Value) (rs:Zj) (ks:List Kd):Prop where
 len:rs.length=ks.length
 ak:w.ownsRow base 66 4 T ks.length (Ab kC (ks.zip rs))
 B:∀(i:Nat) (k:Kd) (r:Value),ks[i]?=some k->rs[i]?=some r->w.ownsRow base 9 1 r k.B.length (k.B.map Value.string)
 nd:(T.ownBlock.toList++rs.filterMap Value.ownBlock).Nodup
theorem Pv:∀{zs:List Pd} {i:Nat},i<zs.length->∀y:Pd,((Ab pC zs).set (i *2) (.string y.name)).set (i *2+1) (.string y.sum)=Ab pC (zs.set i y)
 |[],i,h,_=>by simp at h
 |z::zs,0,h,y=>by simp[Ab,pC]
 |z::zs,i+1,h,y=>by
  have b:=Pv (zs:=zs) (i:=i) (by simpa using h) y;have e:Ab pC (z::zs)=pC z++Ab pC zs:=by simp[Ab]
  have a:Ab pC ((z::zs).set (i+1) y)=pC z++Ab pC (zs.set i y):=by simp[Ab]
  rw[e,a,<-b,show(i+1) *2=(pC z).length+i *2 by rw[Cg];omega];rw[List.set_append_right _ _ Yv,Nat.add_sub_cancel_left,show(pC z).length+i *2+1=(pC z).length+(i *2+1) by omega,List.set_append_right _ _ Yv,Nat.add_sub_cancel_left]
theorem Pw:∀{zs:List Ld} {i:Nat},i<zs.length->∀y:Ld,(((Ab lC zs).set (i *3) (Zg y.H)).set (i *3+1) (.string y.sum)).set (i *3+2) (Zg y.R)=Ab lC (zs.set i y)
 |[],i,h,_=>by simp at h
 |z::zs,0,h,y=>by simp[Ab,lC]
 |z::zs,i+1,h,y=>by
  have b:=Pw (zs:=zs) (i:=i) (by simpa using h) y;have e:Ab lC (z::zs)=lC z++Ab lC zs:=by simp[Ab]
  have a:Ab lC ((z::zs).set (i+1) y)=lC z++Ab lC (zs.set i y):=by simp[Ab]
  rw[e,a,<-b,show(i+1) *3=(lC z).length+i *3 by rw[CU];omega];rw[List.set_append_right _ _ Yv,Nat.add_sub_cancel_left,show(lC z).length+i *3+1=(lC z).length+(i *3+1) by omega,List.set_append_right _ _ Yv,Nat.add_sub_cancel_left,show(lC z).length+i *3+2=(lC z).length+(i *3+2) by omega,List.set_append_right _ _ Yv,Nat.add_sub_cancel_left]
theorem TZ(k:Nat):∀v∈(Builtin.zeroCells #[Ze,Zc,Ze] k).toList,v.oneCell'=true:=by
 intro v a;simp only[Builtin.zeroCells,Array.toList_map,List.mem_map]at a;obtain⟨i,_,rfl⟩:=a;have b:i%3=0\/i%3=1\/i%3=2:=Yv
 show(#[Value.int .i64 0,Zc,Ze][i%3]!).oneCell'=true;rcases b with h|h|h<;>rw[h]<;>rfl
theorem Lg(w:Zh)(l:TypeId)(b o k c:Nat)(m:0<k)(h:∀j,j<k *3->(w.cell? (Zd b (o+j))).isSome=true)(i:∀j,j<k *3->w.frozen? ⟨b,o+j,none⟩=false):
 (Builtin.clear_ #[28] l #[.slice (some ⟨b,o,none⟩) k c]).run prog w=.ok (.tuple #[]) (w.setCells b o (Builtin.zeroCells #[Ze,Zc,Ze] k).toList):=by
 have d:(Builtin.zeroCells #[Ze,Zc,Ze] k).toList.length=k *3:=by rw[Array.length_toList,size_zeroCells];rfl
 have a:=run_storeCells_cells (P:=prog) b o (Builtin.zeroCells #[Ze,Zc,Ze] k).toList 0 w (by rw[d];simpa using h) (by rw[d];simpa using i) (TZ k);simp only[Nat.add_zero]at a;have g:=NA;have f:(Value.agg #[Ze,Zc,Ze]).cells= #[Ze,Zc,Ze]:=rfl;obtain⟨e,rfl⟩:∃e,k=e+1:=⟨k -1,Yv⟩;simp[Builtin.clear_,run_underlying underlying28,g,f,a]
theorem Vy{a n:Nat}(h:w.ownsRow a 71 3 (Yz g n cap) n (Ab lC b))(f:i<b.length)(y:Ld):(((w.setCell (Zd g (i *3)) (Zg y.H)).setCell (Zd g (i *3+1)) (.string y.sum)).setCell (Zd g (i *3+2)) (Zg y.R)).ownsRow a 71 3 (Yz g n cap) n (Ab lC (b.set i y)):=by have d:=(h.stored (i *3) (Zg y.H)).1;have e:=(d.stored (i *3+1) (.string y.sum)).1;have c:=(e.stored (i *3+2) (Zg y.R)).1;rw[Pw f y]at c;exact c
structure FL (ls cur:List Ld) (n:Int) (i j:Nat):Prop where
 len:cur.length=ls.length
 kept:cur.take i=AK (ls.take j) n
 rest:cur.drop j=ls.drop j
 lt:i<j
 le:j<=ls.length
theorem FL.start{x:Ld}(c:a[i]?=some x)(k:x.R<=n)(h:∀j y,j<i->a[j]?=some y->n<y.R):FL a a n i (i+1):=by
 have d:=(Zw c).1;obtain⟨_,e⟩:=Zw c;refine⟨rfl,?_,rfl,Yv,Yv⟩;unfold AK;rw[Zu d,List.filter_append,e];have g:(a.take i).filter (fun x=> !decide (x.R<=n))=a.take i:=List.filter_eq_self.2 (fun y l=>by
  obtain⟨j,b⟩:=List.getElem?_of_mem l;have f:=(Zw b).1;rw[List.length_take]at f;have:=h j y Yv (by rw[List.getElem?_take_of_lt Yv]at b;exact b);simp;omega)
 rw[g];simp[k]
theorem FL.at(h:FL b a n i j)(c:j<b.length):a[j]?=some b[j]:=by have:=congrArg (fun l=>l[0]?) h.rest;simp only[List.getElem?_drop,Nat.add_zero]at this;rw[this,Zv c]
theorem FL.skip(h:FL a b n i j)(c:j<a.length)(d:a[j].R<=n):FL a b n i (j+1):=by
 refine⟨h.len,?_,?_,by have:=h.lt;omega,Yv⟩
 .rw[h.kept];unfold AK;rw[Zu c,List.filter_append];simp[d]
 .have:=congrArg (List.drop 1) h.rest;rw[List.drop_drop,List.drop_drop]at this;exact this
theorem FL.move(h:FL a b n i j)(e:j<a.length)(g:n<a[j].R):FL a (b.set i a[j]) n (i+1) (j+1):=by
 have f:=h.lt;have hlen:=h.len;have c:i<b.length:=Yv
 refine⟨by rw[List.length_set];exact hlen,?_,?_,Yv,Yv⟩
 .have d:¬a[j].R<=n:=Yv
  rw[Zu (by rw[List.length_set];exact c),List.take_set_of_le (Zx),h.kept,List.getElem_set_self];unfold AK;rw[Zu e,List.filter_append];simp[d]
 .have:=congrArg (List.drop 1) h.rest;rw[List.drop_drop,List.drop_drop]at this;rw[List.drop_set_of_lt Yv];exact this
theorem FL.done(h:FL a b n i a.length):b.take i=AK a n/\(AK a n).length=i:=by have c:=h.kept;rw[Zt (Zx)]at c;refine⟨c,?_⟩;rw[<-c,List.length_take];have:=h.lt;have:=h.len;omega
theorem MG(g cap m b d:Nat)(n:Int)(a:List Ld)(w:Zh)(V:w.ownsRow m 71 3 (Yz g a.length cap) a.length (Ab lC a))(hl:a.length<=200)(hc:w.cell? (Zd b 0)=some (Yy d))(hn:w.cell? (Zd d 2)=some (Zg n))(zC:b≠g)(zG:d≠g):
 Calls prog 140 #[Yz g a.length cap,.func (.func 141) #[] #[Yy b]] w fun e w'=>e=.returned (Yz g (AK a n).length cap)/\w'.ownsRow m 71 3 (Yz g (AK a n).length cap) (AK a n).length (Ab lC (AK a n))/\w.grownBy w' (some g):=by
 have Z:a.length<=cap/\cap<=maxLen:=by
  rcases V.2 with⟨e,_⟩|⟨g',zN,l,e,hb,hg,h1,h2,h3,h4⟩
  .cases e
  .cases e;exact⟨h1,h2⟩
 obtain⟨zS,zM⟩:=Z;unfold maxLen at zM;have HX:=Yw (Jl (some ⟨g,0,none⟩) cap b d n a w (AM.own V) Yv hc hn);have HO:=Yw V;have HC:Hid (∀X,w.grownBy X (some g)->X.cell? (Zd b 0)=some (Yy d)/\X.cell? (Zd d 2)=some (Zg n)):=fun X hX=>⟨hX.cell hc (fun e=>zC (Option.some.inj e)),hX.cell hn (fun e=>zG (Option.some.inj e))⟩;clear V hc hn zC zG;go_enter func140,ntmps140;go_wp2_with fail
 refine HX.Ah ?_;rintro e w1 ⟨r,rfl,hr,N⟩;have J:Hid (w1.ownsRow m 71 3 (Yz g a.length cap) a.length (Ab lC a)):=Ag HO.o N;have H:Hid (w.grownBy w1 (some g)):=Al _ N;clear N HX HO;rcases hr with⟨rfl,u⟩|⟨i,x,rfl,S,zK,zJ⟩
 .have HE:Hid (AK a n=a):=List.filter_eq_self.2 (fun y hy=>by have:=u y hy;simp;omega);clear u;go_wp2;go_ret;rw[HE.o];exact⟨rfl,J.o,H.o⟩
 .have HM:Hid (FL a a n i (i+1)):=FL.start S zK zJ;have zT:((i:Int)== -1)=false:=Yu
  have Q:i<a.length:=(Zw S).1;clear S zK zJ;go_wp2
  go_loopw [5,6] (fun vi vj wr=>∃(c f:Nat) (l:List Ld),vi=Zg c/\vj=Zg f/\c<f/\f<=a.length/\Hid (FL a l n c f/\wr.ownsRow m 71 3 (Yz g a.length cap) a.length (Ab lC l)/\w.grownBy wr (some g))) (fun _ j _=>a.length -(intOf j).toNat)
  case atStart=>exact⟨i,i+1,a,rfl,Yn,Yv,Yv,HM.o,J.o,H.o⟩
  case round=>
   clear HM J H Q;obtain⟨c,f,l,rfl,rfl,zU,zV,q⟩:=hrel;by_cases hlt:f<a.length
   .have HG:Hid (l[f]?=some a[f]):=q.o.1.at hlt;have L:Hid (a[f].R<=n->FL a l n c (f+1)):=fun h=>q.o.1.skip hlt h;have I:Hid (n<a[f].R->FL a (l.set c a[f]) n (c+1) (f+1)):=fun h=>q.o.1.move hlt h;have zE:l.length=a.length:=q.o.1.len;generalize a[f]=x at *
    have B:∀k,k<3->wr.cell? (Zd g (f *3+k))=(lC x)[k]?:=fun k hk=>(q.o.2.1.cellAt (f *3+k) Yv).trans (Cz CU HG.o hk);have c0:wr.cell? (Zd g (f *3))=some (Zg x.H):=by simpa [lC]using B 0 Yq
    have c1:wr.cell? (Zd g (f *3+1))=some (.string x.sum):=by simpa [lC]using B 1 Yq
    have c2:wr.cell? (Zd g (f *3+2))=some (Zg x.R):=by simpa [lC]using B 2 Yq
    obtain⟨W,E⟩:=Af (wr.alloc (.cells #[Zg x.H,.string x.sum,Zg x.R] 71));have bW:=(AB E).1;have zW:=(AB E).2.2;have HZ:Hid (Aa W _ _):=(AB E).2.2;have P:w.grownBy W (some g):=Ar q.o.2.2 (Al _ bW);have K:Hid (W.ownsRow m 71 3 (Yz g a.length cap) a.length (Ab lC l)/\w.grownBy W (some g)):=⟨Ag q.o.2.1 bW,P⟩;obtain⟨zB,zF⟩:=HC.o W P;have zI:=NE x b d n W zB zF;have HW:=Yw E
    have zR:(f:Int)<a.length:=Yv
    have zX:wr.heap.size<W.heap.size:=zW.lt;clear E B bW zW P zB zF q;go_upto_region 8 with fail;rw[<-HW.o];clear HW c0 c1 c2;obtain⟨z0,z1,z2⟩:=Aa.c3 HZ.o 0 1 2;go_wp2_with fail;refine zI.mono ?_;rintro e G ⟨rfl,A⟩;have s:Hid (G.ownsRow m 71 3 (Yz g a.length cap) a.length (Ab lC l)/\w.grownBy G (some g)):=⟨Ag K.o.1 A,Ar K.o.2 (Al _ A)⟩;have M:=Aa.below HZ.o A;clear z0 z1 z2 A K zI HZ
    by_cases ht:x.R<=n
    .have F:decide (x.R<=n)=true:=by simpa using ht
     have HS:Hid (FL a l n c (f+1)):=L.o ht;rw[F];clear F ht L I M;go_wp2;exact⟨⟨c,f+1,l,rfl,Yn,Yv,Yv,HS.o,s.o.1,s.o.2⟩,Ys⟩
    .have F:decide (x.R<=n)=false:=by simpa using ht
     have HS:Hid (FL a (l.set c x) n (c+1) (f+1)):=I.o (Int.not_le.1 ht);have Q:c<l.length:=Yv
     have z:=Vy s.o.1 Q x;have C:∀o,G.frozen? ⟨g,o,none⟩=false:=fun o=>s.o.1.frozenAt o;have D:∀k,k<3->∃v,G.cell? (Zd g (c *3+k))=some v:=fun k hk=>⟨_,(s.o.1.cellAt (c *3+k) Yv).trans (Zv (by rw[By CU];omega))⟩;obtain⟨v0,s0⟩:=D 0 Yq;obtain⟨v1,s1⟩:=D 1 Yq;obtain⟨v2,s2⟩:=D 2 Yq;rw[Nat.add_zero]at s0;have q0:=C (c *3);have q1:=C (c *3+1);have q2:=C (c *3+2)
     have t:=Yw (Zn z (Ar s.o.2 (Ar (Ar (AA G g (c *3) (Zg x.H)) (AA _ g (c *3+1) (.string x.sum))) (AA _ g (c *3+2) (Zg x.R)))));obtain⟨z0,z1,z2⟩:=Aa.c3 M 0 1 2;have zP:(c:Int)<a.length:=Yv
     rw[F];clear F ht L I M z D C;go_wp2;exact⟨⟨c+1,f+1,l.set c x,Yn,Yn,Yv,Yv,HS.o,t.o.1,t.o.2⟩,Ys⟩
   .obtain rfl:f=a.length:=Yv
    obtain⟨R,zH⟩:=q.o.1.done;have zE:l.length=a.length:=q.o.1.len;have HK:Hid ((AK a n).length=c/\l.take c=AK a n):=⟨zH,R⟩;have T:=q.o.2.1;have HG:Hid (w.grownBy wr (some g)):=q.o.2.2;have hcut:wr.ownsRow m 71 3 (Yz g c cap) c (Ab lC (AK a n)):=by rw[<-R];have zA:=T;rw[<-zE]at zA;exact Lf CU zA c Yv
    have O:∀j,j<(a.length -c) *3->(wr.cell? (Zd g (c *3+j))).isSome=true/\wr.frozen? ⟨g,c *3+j,none⟩=false:=fun j U=>by refine⟨?_,T.frozenAt _⟩;rw[T.cellAt (c *3+j) Yv,Zv (by rw[By CU];omega)];rfl
    have zO:=Lg wr 0 g (c *3) (a.length -c) (cap -c) Yv (fun j U=>(O j U).1) (fun j U=>(O j U).2);have Y:=Yw hcut;have e1:c<=a.length:=Yv
    have e2:¬cap=c:=Yv
    have e3:c<=cap:=Yv
    clear R zH T hcut O q;go_wp2;go_ret;rw[HK.o.1];exact⟨rfl,Hb _ _ _ Y.o (Zx),Ar HG.o (Cd g _ _ _)⟩
theorem MH(a:Zk)(cap b d:Nat)(n:Int)(w:Zh)(h:w.cell? (Zd b 0)=some (Yy d))(j:w.cell? (Zd d 2)=some (Zg n)):
 Calls prog 140 #[.slice a 0 cap,.func (.func 141) #[] #[Yy b]] w fun e l=>e=.returned (.slice a 0 cap)/\Zz w l:=by
 have g:=Yw (Jl a cap b d n [] w (.inl rfl) Yu h j);go_enter func140,ntmps140;go_wp2_with fail;refine g.Ah ?_;rintro e m ⟨r,rfl,k,c⟩;rcases k with⟨rfl,_⟩|⟨i,x,_,f,_⟩
 .go_wp2;go_ret;exact⟨rfl,c⟩
 .simp at f
theorem Qo(h b d:Nat)(L:Value)(n:Int)(f:List Ld)(w:Zh)(l:w.ownsRow h 71 3 L f.length (Ab lC f))(t:f.length<=200)(j:w.cell? (Zd b 0)=some (Yy d))(k:w.cell? (Zd d 2)=some (Zg n))(m:L.ownBlock≠some b)(o:L.ownBlock≠some d):
 Calls prog 140 #[L,.func (.func 141) #[] #[Yy b]] w fun e i=>∃a c,e=.returned (.slice a (AK f n).length c)/\i.ownsRow h 71 3 (.slice a (AK f n).length c) (AK f n).length (Ab lC (AK f n))/\w.grownBy i L.ownBlock/\(Value.slice a (AK f n).length c).ownBlock=L.ownBlock:=by
 rcases l.2 with⟨rfl,u⟩|⟨g,cap,v,rfl,_⟩
 .have:f=[]:=List.eq_nil_of_length_eq_zero u;subst this;refine(MH none 0 b d n w j k).mono ?_;rintro e i ⟨rfl,s⟩;exact⟨none,0,rfl,World.ownsRow_nil _ _ _ _,Al _ s,rfl⟩
 .refine(MG g cap h b d n f w l t j k (fun e=>m (by rw[e];rfl)) (fun e=>o (by rw[e];rfl))).mono ?_;rintro e i ⟨rfl,q,r⟩;exact⟨_,_,rfl,q,r,rfl⟩
theorem Vz(n d m:Nat)(O P L:Value)(q now k i:Int)(E:List Kd)(F:List Pd)(j:List Ld)(f:Int)(w:Zh)(h:DU w n d m O P L q now k i E F j)(hl:j.length<=200)(zE:0<=now)(zF:0<=f)(hs:now+f<=1000000000):
 Calls prog 118 #[.pointer (some ⟨d,0,none⟩),.int .i64 f] w fun e u=>e=.returned (.tuple #[])/\∃R,DU u n d m O P R q (now+f) k i E F (AK j (now+f))/\Tn (d::L.ownBlock.toList) w u:=by
 obtain⟨o,l,zC⟩:=As h.I.ck;subst zC;have zG:=h.I.box.lt;obtain⟨W,B⟩:=Af (w.alloc (.cells #[.pointer (some ⟨d,0,none⟩)] 57));have S:=(AB B).1;have H:=(AB B).2.2;have r:=h.below S;obtain⟨X,C⟩:=Af (W.setCell ⟨d,2,none⟩ (.int .i64 (now+f)));have G:Tn [d] W X:=by rw[C];exact Bl _ _ _ _
 have A:Aa X d [.int .i64 q,.map (some m),.int .i64 (now+f),.int .i64 k,.int .i64 i,O,P,.slice o j.length l]:=by rw[C];exact r.I.box.set 2 _
 have zX:Aa X w.heap.size [.pointer (some ⟨d,0,none⟩)]:=Aa.same H (G.block _ H.lt Yt);have y:∀g,(Value.slice o j.length l).ownBlock=some g->g≠d:=fun g D=>((Dj h.I.ap).2.2.2 g D).1;have K:X.ownsRow n 71 3 (.slice o j.length l) j.length (Ab lC j):=Ak r.I.ck (fun g D=>G.block g (Ac r.I.ck D).2 (by simp;exact y g D))
 have I:(Value.slice o j.length l).ownBlock≠some w.heap.size:=fun e=>by have:=(Ac h.I.ck e).2;omega
 have J:(Value.slice o j.length l).ownBlock≠some d:=fun e=>y d e rfl
 have HF:Hid (∀Y,Zz X Y->Calls prog 140 #[.slice o j.length l,.func (.func 141) #[] #[.pointer (some ⟨w.heap.size,0,none⟩)]] Y fun e u=>∃a c,e=.returned (.slice a (AK j (now+f)).length c)/\u.ownsRow n 71 3 (.slice a (AK j (now+f)).length c) (AK j (now+f)).length (Ab lC (AK j (now+f)))/\Y.grownBy u (Value.slice o j.length l).ownBlock/\(Value.slice a (AK j (now+f)).length c).ownBlock=(Value.slice o j.length l).ownBlock):=fun Y T=>
  Qo n w.heap.size d _ (now+f) j Y (Ag K T) hl ((Aa.below zX T) 0 _ rfl).1 ((A.below T) 2 _ rfl).1 I J
 have HD:Hid (DU W n d m O P (.slice o j.length l) q now k i E F j):=r;have zA:Hid (Zz w W):=S;have zB:Hid (Tn [d] W X):=G;have v:Hid (Aa X d [.int .i64 q,.map (some m),.int .i64 (now+f),.int .i64 k,.int .i64 i,O,P,.slice o j.length l]):=A;have x:Hid (Aa X w.heap.size [.pointer (some ⟨d,0,none⟩)]):=zX;have HW:Hid _:=B;have HX:Hid _:=C;obtain⟨z0,_⟩:=H 0 _ rfl;obtain⟨c2,f2⟩:=r.I.box 2 _ rfl
 have zI:IntKind.i64.wrap (now+f)=now+f:=Hd zE Yv zF Yv;have zH:¬(1000000000<now+f):=Yv
 clear h S H r C B G A zX K;go_enter func118,ntmps118;go_upto_region 1 with fail;rw[<-HW.o];clear HW;go_upto_region 4 with fail;rw[<-HX.o];clear HX z0 c2 f2;have D0:Below X.heap.size X X.drew:=Ae.drew;obtain⟨z0,_⟩:=x.o 0 _ rfl;obtain⟨c7,_⟩:=v.o 7 _ rfl
 go_region_with (go_at_call 140;refine Calls.mono (HF.o X.drew D0) ?_;rintro e t ⟨V,Z,rfl,M,s,N⟩;have z:Aa t d [.int .i64 q,.map (some m),.int .i64 (now+f),.int .i64 k,.int .i64 i,O,P,.slice o j.length l]:=Aa.same v.o (s.block d v.o.lt (fun e=>J e.symm));have Q:Aa t w.heap.size [.pointer (some ⟨d,0,none⟩)]:=Aa.same x.o (s.block w.heap.size x.o.lt (fun e=>I e.symm));obtain⟨g7,k7⟩:=z 7 _ rfl;obtain⟨y0,_⟩:=Q 0 _ rfl)
 all_goals
  have hK:∃R,DU (t.setCell ⟨d,7,none⟩ (.slice V (AK j (now+f)).length Z)) n d m O P R q (now+f) k i E F (AK j (now+f))/\Tn (d::(Value.slice o j.length l).ownBlock.toList) w (t.setCell ⟨d,7,none⟩ (.slice V (AK j (now+f)).length Z)):=by
   have t1:Tn (d::(Value.slice o j.length l).ownBlock.toList) W (t.setCell ⟨d,7,none⟩ (.slice V (AK j (now+f)).length Z)):=
    ((zB.o.mono Yu).trans ((Tn.of D0).trans ((Di s).mono (fun b U=>List.mem_cons_of_mem _ U)))).trans ((Bl t d 7 _).mono Yu)
   exact⟨_,HD.o.ik t1 (z.set 7 _) (BM M (fun b U=>y b (N▸U)) 7 _) (.inl N),(Tn.of zA.o).trans t1⟩
  have HK:Hid _:=hK;clear hK M s z Q z0 c7;go_wp2
  go_end0
  exact⟨rfl,HK.o⟩
theorem Ks(g d m:Nat)(O P L:Value)(l now b a:Int)(c:List Kd)(A:List Pd)(z:List Ld)(s:Zi)(w:Zh)(j:Dr w g d m O P L l now b a c A z)(t:∀k∈c,(k.sum.size:Int)=l)(u:¬Au c s):
 Calls prog 131 #[Yy d,.string s] w fun e B=>e=.panicked [{v:=Cj 2 ⟨#[]⟩ ⟨#[]⟩,recovered:=false}]/\Zz w B:=by
 obtain⟨n,f,E,q,o⟩:=j.map;obtain⟨ok,i,h⟩:=Gp l m n f c w w.heap.size s w q o.holds t;have y:ok=false:=by
  cases ok with
  |false=>rfl
  |true=>exact absurd (i.1 rfl) u
 subst y;obtain⟨C,D⟩:=Aa.c2 j.box 0 1;have x:=Yw (h w Ae);clear j q o i h;go_enter func131,ntmps131;go_wp2_with fail;refine x.Ah ?_;rintro e F ⟨rfl,r⟩;go_wp2;exact⟨rfl,rfl,r⟩
theorem Px(c d m:Nat)(O P L:Value)(l now b a:Int)(g:List Kd)(o:List Pd)(n:List Ld)(s:Zi)(f:Int)(w:Zh)(h:DU w c d m O P L l now b a g o n)(i:∀k∈g,(k.sum.size:Int)=l)(j:¬Au g s):
 Calls prog 114 #[Yy d,.string s,Zg f] w fun e r=>e=.panicked [{v:=Cj 2 ⟨#[]⟩ ⟨#[]⟩,recovered:=false}]/\Zz w r:=by
 have HN:=Yw (Ks c d m O P L l now b a g o n s w h.I i j);clear h i j;go_enter func114,ntmps114;go_wp2_with fail;refine HN.Ah ?_;rintro e t ⟨rfl,q⟩;go_wp2;exact⟨rfl,rfl,q⟩
theorem NF(i d m:Nat)(O P L:Value)(t now a c:Int)(o:List Kd)(u:List Pd)(j:List Ld)(s:Zi)(l:Int)(w:Zh)(h:DU w i d m O P L t now a c o u j)(q:∀k∈o,(k.sum.size:Int)=t)(r:Au o s)(b:j.length=200\/a=1000000000):
 Calls prog 114 #[Yy d,.string s,Zg l] w fun e z=>e=.panicked [{v:=Cj 4 ⟨#[]⟩ ⟨#[]⟩,recovered:=false}]/\Zz w z:=by
 have HN:=Yw (EE i d m O P L t now a c o u j s w h.I q r);obtain⟨D,C,x⟩:=As h.I.ck;subst x;have n:=Yw h;clear h q r;by_cases h1:j.length=200
 .have y:((j.length:Int)==200)=true:=Yt
  clear b h1;go_enter func114,ntmps114;go_wp2_with fail;refine HN.Ah ?_;rintro e A ⟨rfl,g⟩;have f:=n.o.below g;obtain⟨c3,c7⟩:=Aa.c2 f.I.box 3 7;clear f n HN;go_wp2;exact⟨rfl,rfl,g⟩
 .have y:((j.length:Int)==200)=false:=Yt
  have B:(a==1000000000)=true:=by
   rcases b with h|h
   .exact absurd h h1
   .rw[h];rfl
  clear b h1;go_enter func114,ntmps114;go_wp2_with fail;refine HN.Ah ?_;rintro e A ⟨rfl,g⟩;have f:=n.o.below g;obtain⟨c3,c7⟩:=Aa.c2 f.I.box 3 7;clear f n HN;go_wp2;exact⟨rfl,rfl,g⟩
theorem Ua(g d m:Nat)(O P L:Value)(y now c b:Int)(s:List Kd)(u:List Pd)(t:List Ld)(a:Int)(w:Zh)(h:DU w g d m O P L y now c b s u t)(n:0<=now)(o:now<=1000000000)(q:0<=a)(r:a<=1000000000)(A:1000000000<now+a):
 Calls prog 118 #[Yy d,Zg a] w fun e x=>e=.panicked [{v:=Cj 4 ⟨#[]⟩ ⟨#[]⟩,recovered:=false}]/\Zz w x:=by
 obtain⟨W,f⟩:=Af (w.alloc (.cells #[Yy d] 57));have j:=(AB f).1;have l:=(AB f).2.2;have k:=h.below j;have i:=Yw f;have z:=Hd n o q r;obtain⟨B,_⟩:=l 0 _ rfl;obtain⟨c2,_⟩:=k.I.box 2 _ rfl;clear h k f l;go_enter func118,ntmps118;go_upto_region 1 with fail;rw[<-i.o];clear i;go_wp2;exact⟨rfl,rfl,j⟩
theorem Md(a:Zk)(cap:Nat)(n:Int)(w:Zh):
 Calls prog 136 #[.slice a 0 cap,Zg n,.func (.func 137) #[] #[]] w fun e b=>e=.returned (.tuple #[Ze,.bool false])/\Zz w b:=by
 go_enter func136,ntmps136;go_wp2
 go_loopw [9,10] (fun i j wr=>i=Zg 0/\j=Zg 0/\wr=w) (fun _ _ _=>0)
 case atStart=>exact⟨rfl,rfl,rfl⟩
 case round=>
  obtain⟨rfl,rfl,rfl⟩:=hrel;go_wp2
  go_ret2
  exact⟨by first|rfl|simp[Act.put],Ae⟩
theorem NU(a:Zk)(cap:Nat)(n:Zi)(w:Zh):
 Calls prog 153 #[.slice a 0 cap,.string n,.func (.func 154) #[] #[]] w fun e b=>e=.returned (.tuple #[Ze,.bool false])/\Zz w b:=by
 go_enter func153,ntmps153;go_wp2
 go_loopw [9,10] (fun i j wr=>i=Zg 0/\j=Zg 0/\wr=w) (fun _ _ _=>0)
 case atStart=>exact⟨rfl,rfl,rfl⟩
 case round=>
  obtain⟨rfl,rfl,rfl⟩:=hrel;go_wp2
  go_ret2
  exact⟨by first|rfl|simp[Act.put],Ae⟩
theorem XM(d:Nat)(L:Value)(c:List Ld)(n:Int)(w:Zh)(k:w.ownsRow d 71 3 L c.length (Ab lC c))(o:c.length<=600)(f:c.Pairwise (fun a b=>a.H<b.H)):
 Calls prog 136 #[L,Zg n,.func (.func 137) #[] #[]] w fun e l=>∃i:Nat,e=.returned (.tuple #[Zg i,.bool (decide (∃x,c[i]?=some x/\x.H=n))])/\JP c n i/\Zz w l:=by
 rcases k.2 with⟨rfl,r⟩|⟨g,cap,s,rfl,_⟩
 .have:c=[]:=List.eq_nil_of_length_eq_zero r;subst this;refine(Md none 0 n w).mono ?_;rintro e l ⟨rfl,m⟩;exact⟨0,Yu,⟨Zx,fun j x h=>by omega,fun j x _ q=>by simp at q⟩,m⟩
 .exact Hw g cap c n w d k o f
theorem XN(d:Nat)(P:Value)(c:List Pd)(n:Zi)(w:Zh)(k:w.ownsRow d 69 2 P c.length (Ab pC c))(o:c.length<=600)(f:c.Pairwise (fun a b=>less a.name b.name=true)):
 Calls prog 153 #[P,.string n,.func (.func 154) #[] #[]] w fun e l=>∃i:Nat,e=.returned (.tuple #[Zg i,.bool (decide (∃x,c[i]?=some x/\x.name=n))])/\DK c n i/\Zz w l:=by
 rcases k.2 with⟨rfl,r⟩|⟨g,cap,s,rfl,_⟩
 .have:c=[]:=List.eq_nil_of_length_eq_zero r;subst this;refine(NU none 0 n w).mono ?_;rintro e l ⟨rfl,m⟩;exact⟨0,Yu,⟨Zx,fun j x h=>by omega,fun j x _ q=>by simp at q⟩,m⟩
 .exact Jk g cap c n w d k o f
theorem XO(g d m:Nat)(O P L:Value)(C now l f:Int)(z:List Kd)(A:List Pd)(k:List Ld)(n:Int)(w:Zh)(h:DU w g d m O P L C now l f z A k)(E:k.length<=200)(c:k.Pairwise (fun a b=>a.H<b.H))(q:¬∃x∈k,x.H=n):
 Calls prog 117 #[Yy d,Zg n] w fun e B=>e=.panicked [{v:=Cj 5 ⟨#[]⟩ ⟨#[]⟩,recovered:=false}]/\Zz w B:=by
 have r:=Yw (XM g L k n w h.I.ck Yv c);obtain⟨F,D,s⟩:=As h.I.ck;subst s;have o:=Yw q;obtain⟨c7,_⟩:=h.I.box 7 _ rfl;clear h c q;go_enter func117,ntmps117;go_wp2_with fail;refine r.Ah ?_;rintro e G ⟨i,rfl,_,t⟩;have j:decide (∃x,k[i]?=some x/\x.H=n)=false:=by rw[decide_eq_false_iff_not];rintro⟨x,y,u⟩;exact o.o ⟨x,Zs y,u⟩
 rw[j];clear j r o c7;go_wp2;exact⟨rfl,rfl,t⟩
theorem JV(j d m:Nat)(O P L:Value)(A now k f:Int)(v:List Kd)(g:List Pd)(y:List Ld)(n:Zi)(w:Zh)(h:DU w j d m O P L A now k f v g y)(C:g.length<=200)(c:g.Pairwise (fun a b=>less a.name b.name=true)):
 Calls prog 133 #[Yy d,.string n] w fun e z=>∃i:Nat,e=.returned (.tuple #[Zg i,.bool (decide (∃x,g[i]?=some x/\x.name=n))])/\DK g n i/\Zz w z:=by
 have u:=Yw (XN j P g n w h.I.ci Yv c);obtain⟨D,B,r⟩:=As h.I.ci;subst r;obtain⟨c6,_⟩:=h.I.box 6 _ rfl;clear h c;go_enter func133,ntmps133;go_wp2_with fail;refine u.Ah ?_;rintro e E ⟨i,rfl,t,s⟩;obtain⟨o,l⟩:∃o,decide (∃x,g[i]?=some x/\x.name=n)=o:=⟨_,rfl⟩;have q:=Yw l;rw[l];clear l;go_wp2
 go_ret2
 exact⟨i,by rw[q.o];rfl,t,s⟩
theorem VA(j d m:Nat)(O P L:Value)(u now f c:Int)(s:List Kd)(l:List Pd)(t:List Ld)(n:Zi)(w:Zh)(h:DU w j d m O P L u now f c s l t)(z:l.length<=200)(g:l.Pairwise (fun a b=>less a.name b.name=true))(q:¬∃x∈l,x.name=n):
 Calls prog 116 #[Yy d,.string n] w fun e C=>e=.panicked [{v:=Cj 5 ⟨#[]⟩ ⟨#[]⟩,recovered:=false}]/\Zz w C:=by
 have r:=Yw (JV j d m O P L u now f c s l t n w h z g);have o:=Yw q;clear h g q;go_enter func116,ntmps116;go_wp2_with fail;refine r.Ah ?_;rintro e D ⟨i,rfl,_,y⟩;have k:decide (∃x,l[i]?=some x/\x.name=n)=false:=by rw[decide_eq_false_iff_not];rintro⟨x,B,A⟩;exact o.o ⟨x,Zs B,A⟩
 rw[k];clear k r o;go_wp2;exact⟨rfl,rfl,y⟩
theorem BZ{b:Nat}{n:Nat}{f:Zj}(h:w.ownsRow b e size v n f)(c:v.ownBlock=some g):∃a,w.heap[g]?=some (.cells a e):=by
 rcases h.2 with⟨rfl,_⟩|⟨i,cap,a,rfl,_,d,_⟩
 .cases c
 .cases c;exact⟨a,d⟩
theorem DU.dj{k d m:Nat}{O P L:Value}{v now i g:Int}{s:List Kd}{u:List Pd}{t:List Ld}(h:DU w k d m O P L v now i g s u t){R:Nat}{l:Array Value}(j:w.heap[R]?=some (.cells l 32))(r:R≠d):R∉vB d m O P L/\NS w R:=by
 refine⟨fun a=> ?_,fun l fz e=>by rw[j]at e;cases e⟩;unfold vB at a;simp only[List.mem_cons,List.mem_append,Option.mem_toList]at a;rcases a with a|a|a|a|a
 .exact r a
 .obtain⟨n,f,_,q,_⟩:=h.I.map;obtain⟨D,⟨x,clock,o,_⟩,_⟩:=q;rw[<-a,j]at o;cases o
 .obtain⟨c,b⟩:=BZ h.I.ord a;rw[j]at b;cases b
 .obtain⟨c,b⟩:=BZ h.I.ci a;rw[j]at b;cases b
 .obtain⟨c,b⟩:=BZ h.I.ck a;rw[j]at b;cases b
theorem MI(i d m:Nat)(O P L:Value)(Q now f c:Int)(M:List Kd)(N:List Pd)(o:List Ld)(s t A:Zi)(g:Int)(u:Zk)(z y:Nat)(w:Zh)(h:DU w i d m O P L Q now f c M N o)(hl:o.length<=200)(q:o.Pairwise (fun a b=>a.H<b.H))(zA:∃x∈o,x.H=g):
 Calls prog 77 #[Yy d,.agg (Xz 5 s t g A u z y)] w fun e U=>e=.returned (.agg z12.toArray)/\∃L',DU U i d m O P L' Q now f c M N (Br o g)/\Tn (d::L.ownBlock.toList) w U:=by
 obtain⟨W,j⟩:=Af (((w.alloc (.cells (Xz 5 s t g A u z y) 38)).alloc (.cells Xy 32)).alloc (.cells Xy 32));have K:=(Bo j).1;have H:=(Bo j).2.1;have Y:=(Bo j).2.2.1;have zR:Aa W (w.heap.size+1) z12:=by have r:=Aa.new (w.alloc (.cells (Xz 5 s t g A u z y) 38)) z12 32;rw[World.size_alloc]at r;rw[j];exact Aa.below (v:=Ze) r (Zy)
 have Z:Aa W (w.heap.size+2) z12:=by have r:=Aa.new ((w.alloc (.cells (Xz 5 s t g A u z y) 38)).alloc (.cells Xy 32)) z12 32;rw[World.size_alloc,World.size_alloc]at r;rw[j];exact r
 have F:W.heap[w.heap.size+1]?=some (.cells Xy 32):=by rw[j,Below.heap_alloc _ _ _ Yu];have:=heap_alloc_new (w.alloc (.cells (Xz 5 s t g A u z y) 38)) (.cells Xy 32);rw[World.size_alloc]at this;exact this
 have T:=h.below K;have zE:=h.I.box.lt;have G:∀b∈d::L.ownBlock.toList,b<w.heap.size:=fun b n=>h.I.cz b (by unfold vB;simp at n |-;rcases n with rfl|n<;>simp[*]);have R:=Yw (Vw i d m O P L Q now f c M N o g W T hl q zA);have S:=Yw j
 have l:Hid (Aa W (w.heap.size+1) z12/\Aa W (w.heap.size+2) z12/\W.heap[w.heap.size+1]?=some (.cells Xy 32)/\Zz w W/\W.heap.size=w.heap.size+3/\i<=w.heap.size):=⟨zR,Z,F,K,H,h.lo⟩;have C:=Yw G;obtain⟨e0,e1,e2,e3⟩:=Aa.c4 Y 0 1 2 3;clear j h T zR Z F K H Y G;go_enter func77,ntmps77;go_upto_region 2 with fail;rw[<-S.o];clear S;go_wp2_with fail;refine R.Ah ?_;rintro e X ⟨rfl,V,D,k⟩
 have zz:=l.o.2.2.2.2.1;have J:=Aa.same l.o.1 (k.block _ Yv (fun h=>by have:=C.o _ h;omega));have I:=Aa.same l.o.2.1 (k.block _ Yv (fun h=>by have:=C.o _ h;omega));have E:=(k.block _ Yv (fun h=>by have:=C.o _ h;omega)).trans l.o.2.2.1;have B:=Yw (Zn D (Zn k (D.dj E Yv)))
 obtain⟨⟨y0,q0⟩,⟨y1,q1⟩,⟨y2,q2⟩,⟨y3,q3⟩,⟨y4,q4⟩,⟨y5,q5⟩,⟨y6,q6⟩,⟨y7,q7⟩,⟨y8,q8⟩,⟨y9,q9⟩,⟨zB,zF⟩,zC,zG⟩:=AS J;obtain⟨⟨v0,_⟩,⟨v1,_⟩,⟨v2,_⟩,⟨v3,_⟩,⟨v4,_⟩,⟨v5,_⟩,⟨v6,_⟩,⟨v7,_⟩,⟨v8,_⟩,⟨v9,_⟩,⟨zH,_⟩,zI,_⟩:=AS I;clear D k J I E e0 e1 e2 e3 R zz;go_wp2
 refine bodyPost_ret (v:=.agg z12.toArray) (by simp[results,results77,go_sem,y0,y1,y2,y3,y4,y5,y6,y7,y8,y9,zB,zC,z12]) rfl ⟨rfl,V,B.o.1.K (Ba X (w.heap.size+1) _ _ _ _ _ _ _ _ _ _ _ _) (by intro b n;simp at n;subst n;exact⟨by have:=l.o.2.2.2.2.2;omega,B.o.2.2⟩),Tn.fresh ((Tn.of l.o.2.2.2.1).trans B.o.2.1) (Ba X (w.heap.size+1) _ _ _ _ _ _ _ _ _ _ _ _) Yv⟩
theorem MJ(g d m:Nat)(O P L:Value)(K now f a:Int)(I:List Kd)(J:List Pd)(A:List Ld)(s o u:Zi)(c:Int)(q:Zk)(t r:Nat)(w:Zh)(h:DU w g d m O P L K now f a I J A)(hl:A.length<=200)(Y:0<=now)(Z:0<=c)(hs:now+c<=1000000000):
 Calls prog 77 #[Yy d,.agg (Xz 6 s o c u q t r)] w fun e R=>e=.returned (.agg z12.toArray)/\∃L',DU R g d m O P L' K (now+c) f a I J (AK A (now+c))/\Tn (d::L.ownBlock.toList) w R:=by
 obtain⟨W,i⟩:=Af (((w.alloc (.cells (Xz 6 s o c u q t r) 38)).alloc (.cells Xy 32)).alloc (.cells Xy 32));have H:=(Bo i).1;have E:=(Bo i).2.1;have T:=(Bo i).2.2.1;have X:Aa W (w.heap.size+1) z12:=by have n:=Aa.new (w.alloc (.cells (Xz 6 s o c u q t r) 38)) z12 32;rw[World.size_alloc]at n;rw[i];exact Aa.below (v:=Ze) n (Zy)
 have U:Aa W (w.heap.size+2) z12:=by have n:=Aa.new ((w.alloc (.cells (Xz 6 s o c u q t r) 38)).alloc (.cells Xy 32)) z12 32;rw[World.size_alloc,World.size_alloc]at n;rw[i];exact n
 have C:W.heap[w.heap.size+1]?=some (.cells Xy 32):=by rw[i,Below.heap_alloc _ _ _ Yu];have:=heap_alloc_new (w.alloc (.cells (Xz 6 s o c u q t r) 38)) (.cells Xy 32);rw[World.size_alloc]at this;exact this
 have Q:=h.below H;have zC:=h.I.box.lt;have D:∀b∈d::L.ownBlock.toList,b<w.heap.size:=fun b l=>h.I.cz b (by unfold vB;simp at l |-;rcases l with rfl|l<;>simp[*]);have M:=Yw (Vz g d m O P L K now f a I J A c W Q hl Y Z hs);have N:=Yw i
 have k:Hid (Aa W (w.heap.size+1) z12/\Aa W (w.heap.size+2) z12/\W.heap[w.heap.size+1]?=some (.cells Xy 32)/\Zz w W/\W.heap.size=w.heap.size+3/\g<=w.heap.size):=⟨X,U,C,H,E,h.lo⟩;have y:=Yw D;obtain⟨e0,e1,e2,e3⟩:=Aa.c4 T 0 1 2 3;clear i h Q X U C H E T D;go_enter func77,ntmps77;go_upto_region 2 with fail;rw[<-N.o];clear N;go_wp2_with fail;refine M.Ah ?_;rintro e S ⟨rfl,V,z,j⟩
 have zz:=k.o.2.2.2.2.1;have G:=Aa.same k.o.1 (j.block _ Yv (fun h=>by have:=y.o _ h;omega));have F:=Aa.same k.o.2.1 (j.block _ Yv (fun h=>by have:=y.o _ h;omega));have B:=(j.block _ Yv (fun h=>by have:=y.o _ h;omega)).trans k.o.2.2.1;have x:=Yw (Zn z (Zn j (z.dj B Yv)))
 obtain⟨⟨y0,q0⟩,⟨y1,q1⟩,⟨y2,q2⟩,⟨y3,q3⟩,⟨y4,q4⟩,⟨y5,q5⟩,⟨y6,q6⟩,⟨y7,q7⟩,⟨y8,q8⟩,⟨y9,q9⟩,⟨zA,zE⟩,zB,zF⟩:=AS G;obtain⟨⟨v0,_⟩,⟨v1,_⟩,⟨v2,_⟩,⟨v3,_⟩,⟨v4,_⟩,⟨v5,_⟩,⟨v6,_⟩,⟨v7,_⟩,⟨v8,_⟩,⟨v9,_⟩,⟨zG,_⟩,zH,_⟩:=AS F;clear z j G F B e0 e1 e2 e3 M zz;go_wp2
 refine bodyPost_ret (v:=.agg z12.toArray) (by simp[results,results77,go_sem,y0,y1,y2,y3,y4,y5,y6,y7,y8,y9,zA,zB,z12]) rfl ⟨rfl,V,x.o.1.K (Ba S (w.heap.size+1) _ _ _ _ _ _ _ _ _ _ _ _) (by intro b l;simp at l;subst l;exact⟨by have:=k.o.2.2.2.2.2;omega,x.o.2.2⟩),Tn.fresh ((Tn.of k.o.2.2.2.1).trans x.o.2.1) (Ba S (w.heap.size+1) _ _ _ _ _ _ _ _ _ _ _ _) Yv⟩
theorem Me(g d m:Nat)(O P L:Value)(Q now f c:Int)(M:List Kd)(q:List Pd)(N:List Ld)(s j A:Zi)(l:Int)(u:Zk)(z y:Nat)(w:Zh)(h:DU w g d m O P L Q now f c M q N)(hl:q.length<=200)(r:q.Pairwise (fun a b=>less a.name b.name=true))(zA:∃x∈q,x.name=j):
 Calls prog 77 #[Yy d,.agg (Xz 3 s j l A u z y)] w fun e U=>e=.returned (.agg z12.toArray)/\∃P',DU U g d m O P' L Q now f c M (Bc q j) N/\Tn (d::P.ownBlock.toList) w U:=by
 obtain⟨W,i⟩:=Af (((w.alloc (.cells (Xz 3 s j l A u z y) 38)).alloc (.cells Xy 32)).alloc (.cells Xy 32));have K:=(Bo i).1;have H:=(Bo i).2.1;have Y:=(Bo i).2.2.1;have zR:Aa W (w.heap.size+1) z12:=by have t:=Aa.new (w.alloc (.cells (Xz 3 s j l A u z y) 38)) z12 32;rw[World.size_alloc]at t;rw[i];exact Aa.below (v:=Ze) t (Zy)
 have Z:Aa W (w.heap.size+2) z12:=by have t:=Aa.new ((w.alloc (.cells (Xz 3 s j l A u z y) 38)).alloc (.cells Xy 32)) z12 32;rw[World.size_alloc,World.size_alloc]at t;rw[i];exact t
 have F:W.heap[w.heap.size+1]?=some (.cells Xy 32):=by rw[i,Below.heap_alloc _ _ _ Yu];have:=heap_alloc_new (w.alloc (.cells (Xz 3 s j l A u z y) 38)) (.cells Xy 32);rw[World.size_alloc]at this;exact this
 have T:=h.below K;have zE:=h.I.box.lt;have G:∀b∈d::P.ownBlock.toList,b<w.heap.size:=fun b o=>h.I.cz b (by unfold vB;simp at o |-;rcases o with rfl|o<;>simp[*]);have R:=Yw (TY g d m O P L Q now f c M q N j W T hl r zA);have S:=Yw i
 have n:Hid (Aa W (w.heap.size+1) z12/\Aa W (w.heap.size+2) z12/\W.heap[w.heap.size+1]?=some (.cells Xy 32)/\Zz w W/\W.heap.size=w.heap.size+3/\g<=w.heap.size):=⟨zR,Z,F,K,H,h.lo⟩;have C:=Yw G;obtain⟨e0,e1,e2,e3⟩:=Aa.c4 Y 0 1 2 3;clear i h T zR Z F K H Y G;go_enter func77,ntmps77;go_upto_region 2 with fail;rw[<-S.o];clear S;go_wp2_with fail;refine R.Ah ?_;rintro e X ⟨rfl,V,D,k⟩
 have zz:=n.o.2.2.2.2.1;have J:=Aa.same n.o.1 (k.block _ Yv (fun h=>by have:=C.o _ h;omega));have I:=Aa.same n.o.2.1 (k.block _ Yv (fun h=>by have:=C.o _ h;omega));have E:=(k.block _ Yv (fun h=>by have:=C.o _ h;omega)).trans n.o.2.2.1;have B:=Yw (Zn D (Zn k (D.dj E Yv)))
 obtain⟨⟨y0,q0⟩,⟨y1,q1⟩,⟨y2,q2⟩,⟨y3,q3⟩,⟨y4,q4⟩,⟨y5,q5⟩,⟨y6,q6⟩,⟨y7,q7⟩,⟨y8,q8⟩,⟨y9,q9⟩,⟨zB,zF⟩,zC,zG⟩:=AS J;obtain⟨⟨v0,_⟩,⟨v1,_⟩,⟨v2,_⟩,⟨v3,_⟩,⟨v4,_⟩,⟨v5,_⟩,⟨v6,_⟩,⟨v7,_⟩,⟨v8,_⟩,⟨v9,_⟩,⟨zH,_⟩,zI,_⟩:=AS I;clear D k J I E e0 e1 e2 e3 R zz;go_wp2
 refine bodyPost_ret (v:=.agg z12.toArray) (by simp[results,results77,go_sem,y0,y1,y2,y3,y4,y5,y6,y7,y8,y9,zB,zC,z12]) rfl ⟨rfl,V,B.o.1.K (Ba X (w.heap.size+1) _ _ _ _ _ _ _ _ _ _ _ _) (by intro b o;simp at o;subst o;exact⟨by have:=n.o.2.2.2.2.2;omega,B.o.2.2⟩),Tn.fresh ((Tn.of n.o.2.2.2.1).trans B.o.2.1) (Ba X (w.heap.size+1) _ _ _ _ _ _ _ _ _ _ _ _) Yv⟩
theorem ML(d:Nat)(s j q:Zi)(g:Int)(m:Zk)(o n:Nat)(c:Int)(a b:Zi)(w:Zh)(h:∀X,Zz w X->Calls prog 116 #[Yy d,.string j] X fun e k=>e=.panicked [{v:=Cj c a b,recovered:=false}]/\Zz X k):
 Calls prog 77 #[Yy d,.agg (Xz 3 s j g q m o n)] w fun e k=>e=.panicked [{v:=Cj c a b,recovered:=false}]/\Zz w k:=by
 obtain⟨W,f⟩:=Af (((w.alloc (.cells (Xz 3 s j g q m o n) 38)).alloc (.cells Xy 32)).alloc (.cells Xy 32));have i:=(Bo f).1;have r:=(Bo f).2.2.1;have u:=Yw (h W i);have l:=Yw f;obtain⟨x,y,z,A⟩:=Aa.c4 r 0 1 2 3;clear f r h;go_enter func77,ntmps77;go_upto_region 2 with fail;rw[<-l.o];clear l;go_wp2_with fail;refine u.Ah ?_;rintro e B ⟨rfl,t⟩;exact⟨rfl,rfl,i.trans (t.mono i.size)⟩
theorem Iz(d:Nat)(s l q:Zi)(f:Int)(m:Zk)(o n:Nat)(c:Int)(a b:Zi)(w:Zh)(h:∀X,Zz w X->Calls prog 114 #[Yy d,.string s,Zg f] X fun e j=>e=.panicked [{v:=Cj c a b,recovered:=false}]/\Zz X j):
 Calls prog 77 #[Yy d,.agg (Xz 4 s l f q m o n)] w fun e j=>e=.panicked [{v:=Cj c a b,recovered:=false}]/\Zz w j:=by
 obtain⟨W,g⟩:=Af (((w.alloc (.cells (Xz 4 s l f q m o n) 38)).alloc (.cells Xy 32)).alloc (.cells Xy 32));have i:=(Bo g).1;have r:=(Bo g).2.2.1;have u:=Yw (h W i);have k:=Yw g;obtain⟨x,y,z,A⟩:=Aa.c4 r 0 1 2 3;clear g r h;go_enter func77,ntmps77;go_upto_region 2 with fail;rw[<-k.o];clear k;go_wp2_with fail;refine u.Ah ?_;rintro e B ⟨rfl,t⟩;exact⟨rfl,rfl,i.trans (t.mono i.size)⟩
theorem NV(d:Nat)(s l q:Zi)(f:Int)(m:Zk)(o n:Nat)(c:Int)(a b:Zi)(w:Zh)(h:∀X,Zz w X->Calls prog 117 #[Yy d,Zg f] X fun e j=>e=.panicked [{v:=Cj c a b,recovered:=false}]/\Zz X j):
 Calls prog 77 #[Yy d,.agg (Xz 5 s l f q m o n)] w fun e j=>e=.panicked [{v:=Cj c a b,recovered:=false}]/\Zz w j:=by
 obtain⟨W,g⟩:=Af (((w.alloc (.cells (Xz 5 s l f q m o n) 38)).alloc (.cells Xy 32)).alloc (.cells Xy 32));have i:=(Bo g).1;have r:=(Bo g).2.2.1;have u:=Yw (h W i);have k:=Yw g;obtain⟨x,y,z,A⟩:=Aa.c4 r 0 1 2 3;clear g r h;go_enter func77,ntmps77;go_upto_region 2 with fail;rw[<-k.o];clear k;go_wp2_with fail;refine u.Ah ?_;rintro e B ⟨rfl,t⟩;exact⟨rfl,rfl,i.trans (t.mono i.size)⟩
theorem NW(d:Nat)(s l q:Zi)(f:Int)(m:Zk)(o n:Nat)(c:Int)(a b:Zi)(w:Zh)(h:∀X,Zz w X->Calls prog 118 #[Yy d,Zg f] X fun e j=>e=.panicked [{v:=Cj c a b,recovered:=false}]/\Zz X j):
 Calls prog 77 #[Yy d,.agg (Xz 6 s l f q m o n)] w fun e j=>e=.panicked [{v:=Cj c a b,recovered:=false}]/\Zz w j:=by
 obtain⟨W,g⟩:=Af (((w.alloc (.cells (Xz 6 s l f q m o n) 38)).alloc (.cells Xy 32)).alloc (.cells Xy 32));have i:=(Bo g).1;have r:=(Bo g).2.2.1;have u:=Yw (h W i);have k:=Yw g;obtain⟨x,y,z,A⟩:=Aa.c4 r 0 1 2 3;clear g r h;go_enter func77,ntmps77;go_upto_region 2 with fail;rw[<-k.o];clear k;go_wp2_with fail;refine u.Ah ?_;rintro e B ⟨rfl,t⟩;exact⟨rfl,rfl,i.trans (t.mono i.size)⟩
theorem JW(d:Nat)(s j q:Zi)(g:Int)(m:Zk)(o n:Nat)(c:Int)(a b:Zi)(w:Zh)(h:∀X,Zz w X->Calls prog 115 #[Yy d,.string j,.string s] X fun e k=>e=.panicked [{v:=Cj c a b,recovered:=false}]/\Zz X k):
 Calls prog 77 #[Yy d,.agg (Xz 2 s j g q m o n)] w fun e k=>e=.panicked [{v:=Cj c a b,recovered:=false}]/\Zz w k:=by
 obtain⟨W,f⟩:=Af (((w.alloc (.cells (Xz 2 s j g q m o n) 38)).alloc (.cells Xy 32)).alloc (.cells Xy 32));have i:=(Bo f).1;have r:=(Bo f).2.2.1;have u:=Yw (h W i);have l:=Yw f;obtain⟨x,y,z,A⟩:=Aa.c4 r 0 1 2 3;clear f r h;go_enter func77,ntmps77;go_upto_region 2 with fail;rw[<-l.o];clear l;go_wp2_with fail;refine u.Ah ?_;rintro e B ⟨rfl,t⟩;exact⟨rfl,rfl,i.trans (t.mono i.size)⟩
theorem Mf(i d m:Nat)(O P L:Value)(F now a c:Int)(D:List Kd)(S:List Pd)(E:List Ld)(s u B:Zi)(f:Int)(x:Zk)(z y:Nat)(w:Zh)(h:DU w i d m O P L F now a c D S E)(zF:∀k∈D,(k.sum.size:Int)=F)(zH:Au D s)(hl:E.length<200)(zA:0<=a)(zB:a<1000000000)(zC:0<=now)(zE:now<=1000000000)(zG:0<=f)(g:f<=1000000000):
 Calls prog 77 #[Yy d,.agg (Xz 4 s u f B x z y)] w fun e Y=>e=.returned (.agg #[Ze,Ze,Ze,Ze,Ze,Zb,Zb,Zb,Zc,Zg (a+1),Zc,Zc])/\∃L',DU Y i d m O P L' F now (a+1) c D S (E++[⟨a+1,s,now+f⟩])/\Tn (d::L.ownBlock.toList) w Y:=by
 obtain⟨W,j⟩:=Af (((w.alloc (.cells (Xz 4 s u f B x z y) 38)).alloc (.cells Xy 32)).alloc (.cells Xy 32));have R:=(Bo j).1;have M:=(Bo j).2.1;have xE:=(Bo j).2.2.1;have zR:Aa W (w.heap.size+1) z12:=by have C:=Aa.new (w.alloc (.cells (Xz 4 s u f B x z y) 38)) z12 32;rw[World.size_alloc]at C;rw[j];exact Aa.below (v:=Ze) C (Zy)
 have zO:Aa W (w.heap.size+2) z12:=by have C:=Aa.new ((w.alloc (.cells (Xz 4 s u f B x z y) 38)).alloc (.cells Xy 32)) z12 32;rw[World.size_alloc,World.size_alloc]at C;rw[j];exact C
 have J:W.heap[w.heap.size+1]?=some (.cells Xy 32):=by rw[j,Below.heap_alloc _ _ _ Yu];have:=heap_alloc_new (w.alloc (.cells (Xz 4 s u f B x z y) 38)) (.cells Xy 32);rw[World.size_alloc]at this;exact this
 have H:W.heap[w.heap.size+2]?=some (.cells Xy 32):=by have:=heap_alloc_new ((w.alloc (.cells (Xz 4 s u f B x z y) 38)).alloc (.cells Xy 32)) (.cells Xy 32);rw[World.size_alloc,World.size_alloc]at this;rw[j];exact this
 have X:=h.below R;have zK:=h.I.box.lt;have K:∀b∈d::L.ownBlock.toList,b<w.heap.size:=fun b l=>h.I.cz b (by unfold vB;simp at l |-;rcases l with rfl|l<;>simp[*]);have T:=Yw (Pp i d m O P L F now a c D S E s f W X zF zH hl zA zB zC zE zG g);have U:=Yw j
 have n:Hid (Aa W (w.heap.size+1) z12/\Aa W (w.heap.size+2) z12/\W.heap[w.heap.size+1]?=some (.cells Xy 32)/\W.heap[w.heap.size+2]?=some (.cells Xy 32)/\Zz w W/\W.heap.size=w.heap.size+3/\i<=w.heap.size):=⟨zR,zO,J,H,R,M,h.lo⟩;have q:=Yw K;obtain⟨e0,e1,e2,e3⟩:=Aa.c4 xE 0 1 2 3;clear j h X zR zO J H R M xE K;go_enter func77,ntmps77;go_upto_region 2 with fail;rw[<-U.o];clear U;go_wp2_with fail
 refine T.Ah ?_;rintro e Z ⟨rfl,V,t,g⟩;have zz:=n.o.2.2.2.2.2.1;have Q:=Aa.same n.o.1 (g.block _ Yv (fun h=>by have:=q.o _ h;omega));have N:=Aa.same n.o.2.1 (g.block _ Yv (fun h=>by have:=q.o _ h;omega));have I:=(g.block _ Yv (fun h=>by have:=q.o _ h;omega)).trans n.o.2.2.1;have G:=(g.block _ Yv (fun h=>by have:=q.o _ h;omega)).trans n.o.2.2.2.1
 have o:=Yw (Zn t (Zn g (Zn (t.dj I Yv) (t.dj G Yv))));obtain⟨⟨y0,q0⟩,⟨y1,q1⟩,⟨y2,q2⟩,⟨y3,q3⟩,⟨y4,q4⟩,⟨y5,q5⟩,⟨y6,q6⟩,⟨y7,q7⟩,⟨y8,q8⟩,⟨y9,q9⟩,⟨zI,zP⟩,zJ,zS⟩:=AS Q;obtain⟨⟨v0,p0⟩,⟨v1,p1⟩,⟨v2,p2⟩,⟨v3,p3⟩,⟨v4,p4⟩,⟨v5,p5⟩,⟨v6,p6⟩,⟨v7,p7⟩,⟨v8,p8⟩,⟨v9,p9⟩,⟨zT,zM⟩,zU,zN⟩:=AS N;clear t g Q N I G e0 e1 e2 e3 T zz;go_wp2
 refine bodyPost_ret (v:=.agg #[Ze,Ze,Ze,Ze,Ze,Zb,Zb,Zb,Zc,Zg (a+1),Zc,Zc]) (by simp[results,results77,go_sem,y0,y1,y2,y3,y4,y5,y6,y7,y8,y9,zI,zJ]) rfl ?_;have r:=(Tn.set (V:=[w.heap.size+1,w.heap.size+2]) Z (w.heap.size+2) 9 (Zg (a+1)) Yu).trans (Tn.mono (Ba (Z.setCell (Zd (w.heap.size+2) 9) (Zg (a+1))) (w.heap.size+1) Ze Ze Ze Ze Ze Zb Zb Zb Zc (Zg (a+1)) Zc Zc) Yu)
 refine⟨rfl,V,o.o.1.K r (by intro b l;simp at l;have:=n.o.2.2.2.2.2.2;rcases l with rfl|rfl;exact⟨Yv,o.o.2.2.1⟩;exact⟨Yv,o.o.2.2.2⟩),?_⟩;have A:=(Tn.of (V:=d::L.ownBlock.toList) n.o.2.2.2.2.1).trans o.o.2.1;exact⟨r.os.trans A.os,r.tape.trans A.tape,r.output.trans A.output,Zm A.size r.size,fun b l hv=>(r.block b (Zr l A.size) Yt).trans (A.block b l hv)⟩
def Bh(ps:List Pd)(n s:Zi):List Pd:=ps.filter (fun x=>less x.name n)++[⟨n,s⟩]++ps.filter (fun x=> !(less x.name n)&& !decide (x.name=n))
theorem DK.split{b:List Pd}{n:Zi}(h:DK b n i):b.filter (fun x=>less x.name n)=b.take i:=by
 have e:=(List.take_append_drop i b).symm
 conv=>lhs;rw[e]
 rw[List.filter_append,List.filter_eq_self.2 (fun x c=> ?_),List.filter_eq_nil_iff.2 (fun x c=> ?_),List.append_nil]
 .obtain⟨j,a⟩:=List.getElem?_of_mem c;rw[List.getElem?_drop]at a;rw[h.hi (i+j) x Yv a];simp
 .obtain⟨j,a⟩:=List.getElem?_of_mem c;have d:=(Zw a).1;rw[List.length_take]at d;rw[List.getElem?_take_of_lt Yv]at a;exact h.lo j x Yv a
theorem DK.ic{b:List Pd}{n:Zi}(h:DK b n i):b.filter (fun x=> !(less x.name n)&& !decide (x.name=n))=(b.drop i).filter (fun x=> !decide (x.name=n)):=by
 have e:=(List.take_append_drop i b).symm
 conv=>lhs;rw[e]
 rw[List.filter_append,List.filter_eq_nil_iff.2 (fun x c=> ?_),List.nil_append]
 .refine List.filter_congr (fun x c=> ?_);obtain⟨j,a⟩:=List.getElem?_of_mem c;rw[List.getElem?_drop]at a;rw[h.hi (i+j) x Yv a];simp
 .obtain⟨j,a⟩:=List.getElem?_of_mem c;have d:=(Zw a).1;rw[List.length_take]at d;rw[List.getElem?_take_of_lt Yv]at a;rw[h.lo j x Yv a];simp
theorem Qp{a:List Pd}{n:Zi}(h:DK a n i)(b:¬∃x∈a,x.name=n):Bh a n s=a.take i++[⟨n,s⟩]++a.drop i:=by unfold Bh;rw[h.split,h.ic,List.filter_eq_self.2 (fun x d=> ?_)];have c:x.name≠n:=fun e=>b ⟨x,List.mem_of_mem_drop d,e⟩;simpa using c
theorem VB{n:Zi}(h:DK d n i)(r:d[i]?=some x)(k:x.name=n)(c:d.Pairwise (fun a b=>less a.name b.name=true)):Bh d n s=d.set i ⟨n,s⟩:=by
 obtain⟨f,e⟩:=Zw r;unfold Bh;rw[h.split,h.ic,List.drop_eq_getElem_cons f,List.filter_cons,e,k];simp only[decide_true,Bool.not_true,Bool.false_eq_true,if_false];rw[List.filter_eq_self.2 (fun y t=> ?_),List.set_eq_take_append_cons_drop,if_pos f,List.append_assoc]
 .rfl
 .obtain⟨j,g⟩:=List.getElem?_of_mem t;rw[List.getElem?_drop]at g;obtain⟨l,o⟩:=Zw g;have:=List.pairwise_iff_getElem.1 c i (i+1+j) f l Yv;rw[e,o,k]at this;have m:y.name≠n:=fun q=>by rw[q,BI]at this;cases this
  simpa using m
theorem Sj{a n:Nat}{b:List Pd}(h:w.ownsRow a 69 2 (Yz g n cap) n (Ab pC b))(f:b[i]?=some x)(s:Zi):(w.setCell (Zd g (i *2+1)) (.string s)).ownsRow a 69 2 (Yz g n cap) n (Ab pC (b.set i ⟨x.name,s⟩)):=by
 have l:=(Zw f).1;have d:=(h.stored (i *2+1) (.string s)).1;have k:(Ab pC b)[i *2]?=some (.string x.name):=by have:=Cz Cg f (show 0<2 by decide);simpa [pC]using this
 have c:=Pv l (⟨x.name,s⟩:Pd);have j:(Ab pC b).set (i *2) (.string x.name)=Ab pC b:=by obtain⟨m,e⟩:=Zw k;rw[<-e];exact List.set_getElem_self m
 rw[j]at c;rw[c]at d;exact d
theorem XP(l d m:Nat)(O P L:Value)(y now f c:Int)(u:List Kd)(j:List Pd)(E:List Ld)(n s:Zi)(w:Zh)(h:DU w l d m O P L y now f c u j E)(M:∀k∈u,(k.sum.size:Int)=y)(A:Au u s)(hl:j.length<=200)(q:j.Pairwise (fun a b=>less a.name b.name=true))(I:∃x∈j,x.name=n):
 Calls prog 115 #[Yy d,.string n,.string s] w fun e V=>e=.returned (.tuple #[])/\∃N,DU V l d m O N L y now f c u (Bh j n s) E/\Tn (d::P.ownBlock.toList) w V:=by
 have J:0<j.length:=by obtain⟨x,hx,_⟩:=I;exact List.length_pos_of_mem hx
 obtain⟨g,cap,W⟩:=JT h.I.ci J;subst W;have HN:=Yw (EE l d m O (Yz g j.length cap) L y now f c u j E s w h.I M A);have Q:=Yw h;have B:=Yw q;have K:Hid (∃x∈j,x.name=n):=I;clear h q I M A;go_enter func115,ntmps115;go_wp2_with fail;refine HN.Ah ?_;rintro e w1 ⟨rfl,C⟩;have F:=Q.o.below C;have R:=Yw (JU l d m O L g cap y now f c u j E n w1 F hl B.o);clear HN;go_wp2_with fail
 refine R.Ah ?_;rintro e v ⟨i,rfl,H,G⟩;obtain⟨x,r,D⟩:=H.at K.o B.o;have z:decide (∃x,j[i]?=some x/\x.name=n)=true:=by simpa using ⟨x,r,D⟩
 have zC:i<j.length:=(Zw r).1;have HE:Hid (Bh j n s=j.set i ⟨n,s⟩):=VB H r D B.o;have o:=F.below G;obtain⟨c6,_⟩:=o.I.box 6 _ rfl;have zA:v.cell? (Zd g (i *2+1))=some (.string x.sum):=by have:=(o.I.ci.cellAt (i *2+1) Yv).trans (Cz Cg r (show 1<2 by decide));simpa [pC]using this
 have zB:v.frozen? ⟨g,i *2+1,none⟩=false:=o.I.ci.frozenAt _;have Y:g≠d:=((Dj o.I.ap).2.2.1 g rfl).1;have t:=Sj o.I.ci r s;rw[D]at t;have S:∃N,DU (v.setCell (Zd g (i *2+1)) (.string s)) l d m O N L y now f c u (Bh j n s) E/\Tn (d::(Yz g j.length cap).ownBlock.toList) w (v.setCell (Zd g (i *2+1)) (.string s)):=by
  have U:Tn (d::(Yz g j.length cap).ownBlock.toList) v (v.setCell (Zd g (i *2+1)) (.string s)):=(Bl v g _ _).mono (by intro b T;simp[Value.ownBlock]at T |-;exact .inr T);have X:Aa (v.setCell (Zd g (i *2+1)) (.string s)) d [Zg y,.map (some m),Zg now,Zg f,Zg c,O,Yz g j.length cap,L]:=Aa.same o.I.box (Below.heap_setCell _ _ _ _ (fun e=>Y e.symm))
  refine⟨Yz g j.length cap,o.ij U X ?_ (.inl rfl),(Tn.of (C.trans (G.mono C.size))).trans U⟩;rw[HE.o,List.length_set];exact t
 have HK:=Yw S;have Z:(i:Int)<j.length:=Yv
 rw[z];clear z S t r D H F o C G Q R K B;go_wp2;refine bodyPost_ret (results_none rfl _ _ _) rfl ?_;exact⟨rfl,HK.o⟩
theorem Qq(c d m:Nat)(O P L:Value)(j now b a:Int)(g:List Kd)(o:List Pd)(l:List Ld)(n s:Zi)(w:Zh)(h:DU w c d m O P L j now b a g o l)(i:∀k∈g,(k.sum.size:Int)=j)(f:¬Au g s):
 Calls prog 115 #[Yy d,.string n,.string s] w fun e r=>e=.panicked [{v:=Cj 2 ⟨#[]⟩ ⟨#[]⟩,recovered:=false}]/\Zz w r:=by
 have HN:=Yw (Ks c d m O P L j now b a g o l s w h.I i f);clear h i f;go_enter func115,ntmps115;go_wp2_with fail;refine HN.Ah ?_;rintro e t ⟨rfl,q⟩;go_wp2;exact⟨rfl,rfl,q⟩
theorem VC(l d m:Nat)(O P L:Value)(z now f c:Int)(t:List Kd)(g:List Pd)(G:List Ld)(n s:Zi)(w:Zh)(h:DU w l d m O P L z now f c t g G)(D:∀k∈t,(k.sum.size:Int)=z)(q:Au t s)(J:g.length=100)(j:g.Pairwise (fun a b=>less a.name b.name=true))(E:¬∃x∈g,x.name=n):
 Calls prog 115 #[Yy d,.string n,.string s] w fun e T=>e=.panicked [{v:=Cj 4 ⟨#[]⟩ ⟨#[]⟩,recovered:=false}]/\Zz w T:=by
 obtain⟨K,F,N⟩:=As h.I.ci;subst N;have HN:=Yw (EE l d m O (.slice K g.length F) L z now f c t g G s w h.I D q);have H:=Yw h;have A:=Yw j;have B:=Yw E;have V:((g.length:Int)==100)=true:=Yt
 have M:=Yw J;clear h j E D q J;go_enter func115,ntmps115;go_wp2_with fail;refine HN.Ah ?_;rintro e U ⟨rfl,r⟩;have u:=H.o.below r;have I:=Yw (JV l d m O (.slice K g.length F) L z now f c t g G n U u (by have:=M.o;omega) A.o);clear HN;go_wp2_with fail;refine I.Ah ?_;rintro e W ⟨i,rfl,_,y⟩;have o:decide (∃x,g[i]?=some x/\x.name=n)=false:=by rw[decide_eq_false_iff_not];rintro⟨x,S,R⟩;exact B.o ⟨x,Zs S,R⟩
 have C:=u.below y;obtain⟨c6,_⟩:=C.I.box 6 _ rfl;have Q:=Yw (r.trans (y.mono r.size));rw[o];clear o u C r y H I B A;go_wp2;exact⟨rfl,rfl,Q.o⟩
end Go.Proofs.YtoglnpagihdhpaaGreatDoor
