import Derived.Test.YtckmnfhmoankmaaGreatDoorX19
set_option maxRecDepth 100000
set_option maxHeartbeats 16000000
namespace Go.Proofs.YtckmnfhmoankmaaGreatDoor
open Go.ChangeShapes Go.WideShapes Go.ChangeAt Go.RowKit _root_.Go.Proofs.Tryz
theorem Aa.fs{X:Zh}{b n:Nat}{l:Zj}(h:Aa X b l)(c:l.length=n+1):b<X.heap.size:=by
 cases l with
 |nil=>simp at c
 |cons a l=>exact h.lt
theorem NC{X:Zh}{b:Nat}{d:Dd}{a:Zj}(h:Aa X b (dL d a))(c:a.length=17):(X.cell? (Ze b 0)=some (Zg d.c)/\X.frozen? ⟨b,0,none⟩=false)/\(X.cell? (Ze b 20)=some (.string d.a)/\X.frozen? ⟨b,20,none⟩=false)/\X.cell? (Ze b 21)=some (.string d.b)/\X.frozen? ⟨b,21,none⟩=false:=by obtain⟨m,n,o,p,q,r,s,t,u,v,e,f,g,i,j,k,l,rfl⟩:=KP c;exact⟨h 0 _ rfl,h 20 _ rfl,h 21 _ rfl⟩
theorem Mb{X:Zh}{b:Nat}{d:Dd}{a:Zj}(h:Aa X b (dL d a))(c:Int):Aa (X.setCell (Ze b 0) (Zg c)) b (dL ⟨c,d.v,d.s,d.n,d.a,d.b⟩ a):=h.set 0 _
theorem WV{X:Zh}{b:Nat}{d:Dd}{a:Zj}(h:Aa X b (dL d a))(e:a.length=17)(c:Int)(p q:Zi):Aa (((X.setCell (Ze b 0) (Zg c)).setCell (Ze b 20) (.string p)).setCell (Ze b 21) (.string q)) b (dL ⟨c,d.v,d.s,d.n,p,q⟩ a):=by obtain⟨n,o,r,s,t,u,v,w,x,y,f,g,i,j,k,l,m,rfl⟩:=KP e;exact((h.set 0 _).set 20 _).set 21 _
def JA(v:Vd)(e:Ed)(Z:Rs->Zk->Nat->Zk->Nat->Zk->Nat->Zh->Prop)(X:Zh)(ch:Zj):Prop:=
 (∃c p q,e.no v c p q/\ch=Ch c p q)∨∃r ta tc pa pc la lc,e.yes v r/\ch=[Zf,Zg v.wd,Zg r.now,Zg r.given,Zg r.ae,.slice ta r.ks.length tc,.slice pa r.ps.length pc,.slice la r.ls.length lc,.string r.sm,Zg r.le,Zd,Zd]/\Z r ta tc pa pc la lc X
theorem JA.small{v:Vd}{e:Ed}{Z:Rs->Zk->Nat->Zk->Nat->Zk->Nat->Zh->Prop}{X:Zh}{a:Zj}(h:JA v e Z X a):a.length=12/\∀u∈a,u.oneCell'=true:=by
 rcases h with⟨c,p,q,_,rfl⟩|⟨r,i,j,f,g,b,d,_,rfl,_⟩
 ·exact⟨rfl,by simp[Ch,Value.oneCell']⟩
 ·exact⟨rfl,by simp[Value.oneCell']⟩
def Gx(v:Vd)(e:Ed)(w:Zh)(o:Ending)(w':Zh):Prop:=
 ∃d vs,Gz v e d/\o=.returned (.agg (dL d vs).toArray)/\(∀V X',(∀b∈V,b<w.heap.size)->Tn V w' X'->Ly d.v X'.heap.size X' vs)/\Zz w w'
theorem LA{v:Vd}{e:Ed}{w X:Zh}{c D:Zj}{d:Dd}(f:Aa X (w.heap.size+2) AQ/\Zz w X)(m:∀V a,(∀b∈V,b<w.heap.size+3)->Tn V X a->Ly d.v a.heap.size a c)(l:Gz v e d)(p:c.length=17/\∀u∈c,u.oneCell'=true)(j:D=dL d c):
 (D.length=22/\∀u∈D,u.oneCell'=true)/\X.there (w.heap.size+2) 0 D.toArray.size/\Aa (X.setCells (w.heap.size+2) 0 D.toArray.toList) (w.heap.size+2) D/\Gx v e w (.returned (.agg D.toArray)) (X.setCells (w.heap.size+2) 0 D.toArray.toList):=by
 have g:D.length=22/\∀u∈D,u.oneCell'=true:=by rw[j];exact Jz p
 have k:=Ax (w.heap.size+2) D 0 X;refine⟨g,?_,f.1.aw D (by rw[g.1];rfl),d,c,l,by rw[j],fun V a o n=>m ((w.heap.size+2)::V) a (fun b i=> ?_) ((k.mono (by simp)).trans (n.mono (by simp;intro b i;exact .inr i))),f.2.trans (k.below f.2.size (by simp))⟩
 ·rw[show D.toArray.size=22 from by rw[List.size_toArray];exact g.1];exact f.1.there
 ·rcases List.mem_cons.1 i with h|h
  ·omega
  ·have:=o b h;omega
theorem AU.db{c X:Zh}{base n:Nat}{S U T P L Q M:Value}{j:Zj}{v:Vd}(h:AU c base S U T P L Q M j v)(l:n<=base)(e:Zz c X):∀V a,(∀b∈V,b<n)->Tn V X a->Ly v a.heap.size a (Cd v S U T P L Q M):=fun V a g f=>by refine(h.stays (((Tn.of (V:=[]) e).mono (by simp)).trans f) (fun b i d=> ?_)).gl;have k:=h.lo b d;have:=g b i;omega
theorem AU.ap{w:Zh}{base:Nat}{S U T P L Q M:Value}{c:Zj}{v:Vd}(h:AU w base S U T P L Q M c v):(∀g,Ao U=some g->Ao S≠some g)/\∀g,Ao U=some g->Ao Q≠some g/\Ao M≠some g:=by
 have a:=h.nd;unfold CJ at a;generalize Bk T P L c=B at *
 simp only[List.nodup_append,List.mem_append,Option.mem_toList]at a;refine⟨fun g b f=>a.1.2.2 g f g b rfl,fun g b=>⟨fun e=> ?_,fun d=> ?_⟩⟩
 ·exact a.2.2 g (.inr b) g (.inr (.inl e)) rfl
 ·exact a.2.2 g (.inr b) g (.inr (.inr d)) rfl
theorem WW{v:Vd}{L:Nat}{X:Zh}{b:Zj}(h:Ly v L X b):b.length=17/\∀u∈b,u.oneCell'=true:=by obtain⟨a,rfl,_⟩:=h;exact⟨rfl,by simp[Cd,Value.oneCell']⟩
theorem YJ{v:Vd}{e:Ed}{r:Rs}{X:Zh}{C D E F G:Nat}{k m s p b g d:Zk}{l o n t q c i h f:Nat}{a j:Zl}{B:Zj}(y:v.wd=v.sw)(J:Al X C (.slice k v.ss.length l) v.ss)(K:Al X D (.slice m o n) a)(z:a=v.tt++[e.br v.wd])(A:o=a.length)(x:AV X E (.slice s r.ks.length t) (.slice p r.ps.length q) (.slice b r.ls.length c) B r.ks r.ps r.ls)(I:Al X F (.slice g i h) j)(w:j=shQ v.ph r.ks v.qs v.ms (e.held r))(u:i=j.length)(H:Al X G (.slice d v.ms.length f) v.ms):
 Ly (doV v e r) X.heap.size X [Zg v.wd,Zg v.aj,.slice k v.ss.length l,.slice m o n,Zg v.wd,Zg r.now,Zg r.given,Zg r.ae,.slice s r.ks.length t,.slice p r.ps.length q,.slice b r.ls.length c,Zg v.ph,.slice g i h,.slice d v.ms.length f,Zg v.ag,Zg v.at_,Zg v.ro]:=by
 subst A u;subst z w;refine⟨⟨k,l,m,n,s,t,p,q,b,c,g,h,d,f⟩,?_,⟨J.fh,K.fh,x.get,I.fh,H.fh⟩⟩;unfold Cd doV;simp only[←y]
def Hl(v:Vd)(e:Ed)(w:Zh)(o:Ending)(w':Zh):Prop:=
 ∃d S U T P L Q M rs,Gz v e d/\o=.returned (.agg (Ki d S U T P L Q M).toArray)/\AU w' w.heap.size S U T P L Q M rs d.v/\Zz w w'
def RN(v:Vd)(e:Ed)(lo:Nat)(w:Zh)(o:Ending)(w':Zh):Prop:=
 Below lo w w'/\((∃c p q,Gy v e c p q/\o=.returned (.agg #[Zg c,Zf,Zf,Zc,Zc,Zf,Zf,Zf,Zf,Zc,Zc,Zc,Zf,Zc,Zc,Zf,Zf,Zf,Zd,Zf,.string p,.string q]))∨(∃r S U T P L Q M rs,Jy v e r/\o=.returned (.agg (Ki (dyes v e r) S U T P L Q M).toArray)/\AU w' lo S U T P L Q M rs (doV v e r)))
theorem Ql{X:Zh}{base:Nat}{S U T P L Q M:Value}{b:Zj}{d:Dd}(h:AU X base S U T P L Q M b d.v):(Ki d S U T P L Q M).length=22/\∀u∈Ki d S U T P L Q M,u.oneCell'=true:=by obtain⟨a,h,_⟩:=h.gl;exact Jz (vs:=Cd d.v S U T P L Q M) ⟨rfl,by rw[h];simp[Cd,Value.oneCell']⟩
theorem RN.form{v:Vd}{e:Ed}{lo:Nat}{w b:Zh}{o:Ending}(h:RN v e lo w o b):Below lo w b/\∃(c:Int) (zs tl:Zj),o=.returned (.agg (Zg c::(zs++tl)).toArray)/\zs.length=17/\tl.length=4/\(∀u∈Zg c::(zs++tl),u.oneCell'=true)/\((∃p q,Gy v e c p q/\tl=[Zd,Zf,.string p,.string q])∨(c=0/\∃r S U T P L Q M a,Jy v e r/\Zg c::(zs++tl)=Ki (dyes v e r) S U T P L Q M/\AU b lo S U T P L Q M a (doV v e r))):=by
 obtain⟨g,⟨c,p,q,h,rfl⟩|⟨r,S,U,T,P,L,Q,M,a,h,rfl,f⟩⟩:=h
 ·exact⟨g,c,Yb,[Zd,Zf,.string p,.string q],rfl,rfl,rfl,by simp[Value.oneCell'],.inl ⟨p,q,h,rfl⟩⟩
 ·exact⟨g,0,Cd (doV v e r) S U T P L Q M,[.string r.sm,Zg r.le,Zd,Zd],rfl,rfl,rfl,(Ql (d:=dyes v e r) f).2,.inr ⟨rfl,r,S,U,T,P,L,Q,M,a,h,rfl,f⟩⟩
theorem TM(v:Vd)(e:Ed)(s:Value)(m:Zj)(gf:Nat)(rv:Value)(ra:Zk)(rc:Nat)(Dk:Nat->Nat->Zh->Prop)(w:Zh)(hl:(s::m).length=17)
 (eg:∀args X,(callFunc gf args).run prog X=.ok (.enter gf args) X)
 (hD:∀X,Zz w X->Calls prog 52 #[.agg (s::m).toArray] X fun o G=>Zz X G/\((¬DR v/\o=.returned (.tuple #[.pointer none,.bool false]))∨(DR v/\∃k,o=.returned (.tuple #[Yz k,.bool true])/\Dk X.heap.size k G)))
 (hM:∀X,Zz w X->Calls prog gf #[rv] X fun o G=>o=.returned (.agg (Ym e.kd e.s e.nm e.num e.tx ra e.rf.length rc))/\Zz X G)
 (yN:∀lo k X G,Dk lo k X->Zz X G->Dk lo k G)
 (hK:∀lo k X,w.heap.size<=lo->DR v->Dk lo k X->Zz w X->Calls prog 53 #[Yz k,.agg (Ym e.kd e.s e.nm e.num e.tx ra e.rf.length rc)] X (RN v e lo X))
 (hC:DR v->∀X,Zz w X->Calls prog 54 #[.agg (s::m).toArray] X fun o G=>∃(S U T P L Q M:Value) (rs:Zj),o=.returned (.agg (Cd v S U T P L Q M).toArray)/\AU G X.heap.size S U T P L Q M rs v/\Zz X G):
 Calls prog 27 #[.agg (s::m).toArray,.func (.func gf) #[rv] #[]] w (Hl v e w):=by
 obtain⟨W,hW⟩:∃W,W=(w.alloc (.cells (s::m).toArray 46)).alloc (.cells Ya 48):=⟨_,rfl⟩;have bW:=(Bj hW).1;have zW:=(Bj hW).2.1;have HX:Hid (Aa W w.heap.size (s::m)/\Aa W (w.heap.size+1) AQ):=⟨(Bj hW).2.2.1,(Bj (k:=AQ) hW).2.2.2⟩;have O:=Yx bW;have yJ:Hid ((s::m).length=17):=hl;have HD:=Yx hD;have HM:=Yx hM;have zV:=Yx yN;have HK:=Yx hK;have HC:=Yx hC;have HW:=Yx hW;clear hW hD hM yN hK hC hl bW
 go_enter func27,ntmps27;go_upto_region 1 with fail;rw[←HW.o];clear HW;go_wp2_with (refine wpList_load_mid rfl 46 _ rfl w.heap.size 0 rfl (s::m) _ HX.o.1.range underlying46 rfl (by rw[yJ.o];kernel_rfl) ?_);refine(HD.o W O.o).mono ?_;rintro o w1 ⟨A,⟨yQ,rfl⟩|⟨zM,k,rfl,yP⟩⟩
 ·have b1:=O.o.trans (A.mono O.o.size);have x1:=Aa.below (v:=Zf) HX.o.2 A;obtain⟨C,f⟩:∃Y,Y=w1.setCells (w.heap.size+1) 0 (Xz 1):=⟨_,rfl⟩;have V:Aa C (w.heap.size+1) (Xz 1):=by rw[f];exact x1.aw _ rfl
  have yS:Hid (Zz w C):=b1.trans (by rw[f];exact(Ax _ _ _ _).below b1.size (by simp));have yH:=Yx (Zn (show((Xy 1):Array Value).all (·.oneCell')=true by simp[Value.oneCell']) x1.there);have zA:=Yx V;have zP:=Yx yQ;have Z:=Yx f;clear f V yQ x1 b1 HD HM zV HK HC HX O A;go_wp2_with (refine wpList_store_mid rfl 48 _ _ rfl (w.heap.size+1) 0 (Xy 1) rfl rfl yH.o.2 (by kernel_rfl) yH.o.1 ?_);rw[←Z.o]
  refine bodyPost_ret (BL results27 _ _ (w.heap.size+1) (Xz 1) _ rfl (Aa.range zA.o) underlying48 rfl (by kernel_rfl)) rfl ?_;exact⟨EV 1 v0 ⟨#[]⟩ ⟨#[]⟩,Zc,Zc,Zc,Zc,Zc,Zc,Zc,[],.inl ⟨zP.o,rfl⟩,rfl,AU.nil _ _,yS.o⟩
 ·have z1:=A.size;have zY:Hid (Aa w1 w.heap.size (s::m)/\Aa w1 (w.heap.size+1) AQ):=⟨Aa.below HX.o.1 A,Aa.below (v:=Zf) HX.o.2 A⟩;have zN:Hid (Zz w w1):=O.o.trans (A.mono O.o.size);have HY:=Yx zM;have zJ:=Yx yP;clear A zM yP HX HD;go_wp2_with fail;refine(HM.o w1 zN.o).mono ?_;rintro o w2 ⟨rfl,J⟩;have z2:=J.size
  have zZ:Hid (Aa w2 w.heap.size (s::m)/\Aa w2 (w.heap.size+1) AQ):=⟨Aa.below zY.o.1 J,Aa.below (v:=Zf) zY.o.2 J⟩;have zU:Hid (Zz w w2):=zN.o.trans (J.mono zN.o.size);have yI:=Yx (HK.o W.heap.size k w2 O.o.size HY.o (zV.o _ _ _ _ zJ.o J) zU.o);clear J HM zV zJ HK zY zN;go_wp2_with fail;refine Calls.mono yI.o ?_;intro o d zK;obtain⟨zE,c,zs,tl,rfl,yE,zG,N,H⟩:=zK.form;have z3:=zE.size
  obtain⟨D,zC⟩:∃D:Zj,D=Zg c::(zs++tl):=⟨_,rfl⟩;have t:D.length=22:=by rw[zC];simp[yE,zG]
  have yM:D[0]?=some (Zg c):=by rw[zC];rfl
  rw[←zC]at N ⊢;obtain⟨B,yB⟩:∃Y,Y=(d.alloc (.cells Ya 48)).setCells d.heap.size 0 D.toArray.toList:=⟨_,rfl⟩;have I:=boxed (X:=d) (cs:=D) (z:=AQ) (T:=48) (by rw[t];rfl);have e4:B=(d.alloc (.cells AQ.toArray 48)).setCells d.heap.size 0 D:=yB;rw[←e4]at I;obtain⟨x4,b4,z4⟩:=I
  have l:Hid ((d.alloc (.cells Ya 48)).there d.heap.size 0 D.toArray.size/\D.length=22/\∀x∈D,x.oneCell'=true):=⟨by rw[show D.toArray.size=22 from by rw[List.size_toArray];exact t];exact(Aa.new d AQ 48).there,t,N⟩;have yA:=Yx (Zb (Aa.same zZ.o.1 (zE.block _ (by omega))) (Aa.same zZ.o.2 (zE.block _ (by omega))))
  have F:Hid (Aa B w.heap.size (s::m)/\Aa B (w.heap.size+1) AQ/\Aa B d.heap.size D):=⟨Aa.below yA.o.1 b4,Aa.below (v:=Zf) yA.o.2 b4,x4⟩;have b3:Below w.heap.size w d:=zU.o.trans (zE.mono O.o.size);have g:Hid (Zz w B/\Zz d B/\w.heap.size+2<=d.heap.size):=⟨b3.trans (b4.mono b3.size),b4,by omega⟩;obtain⟨u0,_⟩:=x4 0 _ yM;have n:=Yx (Zn zC (Zn yE zG));have zO:=Yx H;have yK:=Yx yB
  have yV:W.heap.size=w.heap.size+2:=zW;clear yB e4 x4 b4 b3 zK zE zC t yM yE zG N H zZ yA zU yI;go_upto_region 5 with(refine wpList_store_mid rfl 48 _ _ rfl d.heap.size 0 D.toArray rfl rfl l.o.1 (by rw[List.size_toArray,l.o.2.1];kernel_rfl) (all_oneCell_toArray l.o.2.2) ?_);rw[←yK.o];clear yK;by_cases hc:c=0
  ·subst hc;obtain⟨C,f⟩:∃Y,Y=B.setCells (w.heap.size+1) 0 D.toArray.toList:=⟨_,rfl⟩;have t9:Tn [w.heap.size+1] B C:=by rw[f];exact Ax _ _ _ _
   have V:Aa C (w.heap.size+1) D:=by rw[f];exact F.o.2.1.aw D (by rw[l.o.2.1];rfl)
   have E:Hid (B.there (w.heap.size+1) 0 D.toArray.size):=by show B.there (w.heap.size+1) 0 D.toArray.size;rw[show D.toArray.size=22 from by rw[List.size_toArray];exact l.o.2.1];exact F.o.2.1.there
   have K:Hid (Hl v e w (.returned (.agg D.toArray)) C):=by
    rcases zO.o with⟨p,q,hn,_⟩|⟨_,r,S,U,T,P,L,Q,M,rs,hy,hd,ha⟩
    ·exact absurd rfl hn.code
    ·refine⟨dyes v e r,S,U,T,P,L,Q,M,rs,.inr ⟨HY.o,.inr ⟨r,hy,rfl⟩⟩,by rw[n.o.1,hd],?_,g.o.1.trans (t9.below g.o.1.size (by simp))⟩;exact((ha.below g.o.2.1).stays t9 (fun b I yC=>by have:=(ha.below g.o.2.1).lo b yC;simp at I;omega)).mono (by omega)
   have zA:=Yx V;have Z:=Yx f;clear f t9 V zO n HC HY;go_wp2_with (first
    |refine wpList_load_mid rfl 48 _ rfl d.heap.size 0 rfl D _ F.o.2.2.range underlying48 rfl (by rw[l.o.2.1];kernel_rfl) ?_
    |refine wpList_store_mid rfl 48 _ _ rfl (w.heap.size+1) 0 D.toArray rfl rfl E.o (by rw[List.size_toArray,l.o.2.1];kernel_rfl) (all_oneCell_toArray l.o.2.2) ?_)
   rw[←Z.o];exact bodyPost_ret (BL results27 _ _ (w.heap.size+1) D _ rfl (Aa.range zA.o) underlying48 rfl (by rw[l.o.2.1];kernel_rfl)) rfl K.o
  ·have yU:(c==0)=false:=by simpa using hc
   have zP:Hid (∃p q,Gy v e c p q/\tl=[Zd,Zf,.string p,.string q]):=by
    rcases zO.o with h|⟨h,_⟩
    ·exact h
    ·exact absurd h hc
   clear hc zO;go_wp2_with (refine wpList_load_mid rfl 46 _ rfl w.heap.size 0 rfl (s::m) _ F.o.1.range underlying46 rfl (by rw[yJ.o];kernel_rfl) ?_);refine(HC.o HY.o B g.o.1).mono ?_;rintro o w5 ⟨S,U,T,P,L,Q,M,rs,rfl,zS,zF⟩;have z5:=zF.size;obtain⟨y,zI⟩:∃y,y=Cd v S U T P L Q M:=⟨_,rfl⟩;have zH:y.length=17:=by rw[zI];rfl
   have yD:∀u∈y,u.oneCell'=true:=by obtain⟨a,h,_⟩:=zS.gl;rw[zI,h];simp[Cd,Value.oneCell']
   rw[←zI];have x5:Aa w5 d.heap.size ([Zg c]++(zs++tl)):=by have h:=F.o.2.2;rw[n.o.1]at h;exact Aa.below h zF
   obtain⟨R,zR⟩:∃Y,Y=w5.setCells d.heap.size 1 y.toArray.toList:=⟨_,rfl⟩;have t6:Tn [d.heap.size] w5 R:=by rw[zR];exact Ax _ _ _ _
   have x6:Aa R d.heap.size (Zg c::(y++tl)):=by rw[zR];exact Aa.dm y [Zg c] zs tl w5 x5 (by rw[zH,n.o.2.1])
   have yR:w5.there d.heap.size 1 y.toArray.size:=fun j hj=>by rw[List.size_toArray,zH]at hj;have h1:=x5 (1+j) _ (Zv (by simp[n.o.2.1,n.o.2.2];omega));exact⟨by rw[h1.1];rfl,h1.2⟩
   have zX:=Yx (Zb yR (Zb zH yD));obtain⟨i,zB⟩:∃i:Zj,i=Zg c::(y++tl):=⟨_,rfl⟩;have t:i.length=22:=by rw[zB];simp[zH,n.o.2.2]
   have yO:∀u∈i,u.oneCell'=true:=fun u hu=>by
    have h1:=l.o.2.2 u;rw[n.o.1]at h1;rw[zB]at hu;simp only[List.mem_cons,List.mem_append]at hu h1;rcases hu with rfl|hu|hu
    ·rfl
    ·exact yD u hu
    ·exact h1 (.inr (.inr hu))
   rw[←zB]at x6;have yG:=Aa.below (v:=Zf) F.o.2.1 zF;have zT:Aa R (w.heap.size+1) AQ:=Aa.same yG (t6.block _ yG.lt (by have:=g.o.2.2;simp;omega));have yT:=Yx (Zb x6 zT);obtain⟨C,f⟩:∃Y,Y=R.setCells (w.heap.size+1) 0 i.toArray.toList:=⟨_,rfl⟩;have t9:Tn [w.heap.size+1] R C:=by rw[f];exact Ax _ _ _ _
   have V:Aa C (w.heap.size+1) i:=by rw[f];exact zT.aw i (by rw[t];rfl)
   have E:Hid (R.there (w.heap.size+1) 0 i.toArray.size/\i.length=22/\∀u∈i,u.oneCell'=true):=⟨by rw[show i.toArray.size=22 from by rw[List.size_toArray];exact t];exact zT.there,t,yO⟩;have yF:Tn [d.heap.size,w.heap.size+1] w5 C:=(t6.mono (by simp)).trans (t9.mono (by simp));have K:Hid (Hl v e w (.returned (.agg i.toArray)) C):=by
    obtain⟨p,q,hn,zG⟩:=zP.o;have I:=g.o.1.trans (zF.mono g.o.1.size);refine⟨EV c v p q,S,U,T,P,L,Q,M,rs,.inr ⟨HY.o,.inl ⟨c,p,q,hn,rfl⟩⟩,by rw[zB,zG,zI];rfl,?_,I.trans (yF.below I.size (by have:=g.o.2.2;simp;omega))⟩;exact(zS.stays yF (fun b I yC=>by have:=zS.lo b yC;have:=g.o.2.2;have:=g.o.2.1.size;simp at I;omega)).mono g.o.1.size
   have zA:=Yx V;have yL:=Yx zR;have Z:=Yx f;clear zR f t6 t9 yF x5 x6 V yG zT yR zH yD zI zB t yO zS zF zP n HC HY F l;go_upto_region 7 with(refine wpList_store_mid rfl 46 _ _ rfl d.heap.size 1 y.toArray rfl rfl zX.o.1 (by rw[List.size_toArray,zX.o.2.1];kernel_rfl) (all_oneCell_toArray zX.o.2.2) ?_);rw[←yL.o];clear yL;go_wp2_with (first
    |refine wpList_load_mid rfl 48 _ rfl d.heap.size 0 rfl i _ yT.o.1.range underlying48 rfl (by rw[E.o.2.1];kernel_rfl) ?_
    |refine wpList_store_mid rfl 48 _ _ rfl (w.heap.size+1) 0 i.toArray rfl rfl E.o.1 (by rw[List.size_toArray,E.o.2.1];kernel_rfl) (all_oneCell_toArray E.o.2.2) ?_)
   rw[←Z.o];exact bodyPost_ret (BL results27 _ _ (w.heap.size+1) i _ rfl (Aa.range zA.o) underlying48 rfl (by rw[E.o.2.1];kernel_rfl)) rfl K.o
def vN:Vd:=⟨0,0,[],[],0,0,0,0,[],[],[],0,[],[],0,0,0⟩
def vZ(v:Vd):Vd:={vN with wd:=v.wd,aj:=v.aj}
def vY(v:Vd):Vd:={v with ph:=0,ag:=0,at_:=0,ro:=0}
theorem PK(v:Vd)(a:Va)(w:Zh)(hr:Cc w w.heap.size a v)(hf:Cy v):
 Calls prog 7 #[.agg (Yg v a)] w fun e w'=>∃g k h i j o p H,e=.returned (.agg (Cd v (Za g v.ss.length v.ss.length) (Za k v.tt.length v.tt.length) (Za h v.ks.length v.ks.length) (Za i v.ps.length v.ps.length) (Za j v.ls.length v.ls.length) (Za o v.qs.length v.qs.length) (Za p v.ms.length v.ms.length)).toArray)/\AU w' w.heap.size (Za g v.ss.length v.ss.length) (Za k v.tt.length v.tt.length) (Za h v.ks.length v.ks.length) (Za i v.ps.length v.ps.length) (Za j v.ls.length v.ls.length) (Za o v.qs.length v.qs.length) (Za p v.ms.length v.ms.length) H v/\(∀x∈H,∃q n c,x=Za q n c)/\Zz w w':=by
 obtain⟨z,I⟩:∃W,W=((w.alloc (.cells (Yg v a) 33)).alloc (.cells Xx 46)).alloc (.cells #[Zg v.wd,Zg v.aj,Zc,Zc,Zf,Zf,Zf,Zf,Zc,Zc,Zc,Zf,Zc,Zc,Zf,Zf,Zf] 46):=⟨_,rfl⟩;have E:Hid (Zz w z):=(Bh I).1;have xE:=(Bh I).2.1
 have zE:Hid (Aa z w.heap.size (Cd v (.slice a.sa v.ss.length a.sc) (.slice a.ta v.tt.length a.tc) (.slice a.ka v.ks.length a.kc) (.slice a.pa v.ps.length a.pc) (.slice a.la v.ls.length a.lc) (.slice a.qa v.qs.length a.qc) (.slice a.ma v.ms.length a.mc))):=(Bh (l:=(Cd v (.slice a.sa v.ss.length a.sc) (.slice a.ta v.tt.length a.tc) (.slice a.ka v.ks.length a.kc) (.slice a.pa v.ps.length a.pc) (.slice a.la v.ls.length a.lc) (.slice a.qa v.qs.length a.qc) (.slice a.ma v.ms.length a.mc))) I).2.2.1
 have zF:Hid (Aa z (w.heap.size+1) (Cd vN Zc Zc Zc Zc Zc Zc Zc)):=(Bh (l:=(Cd v (.slice a.sa v.ss.length a.sc) (.slice a.ta v.tt.length a.tc) (.slice a.ka v.ks.length a.kc) (.slice a.pa v.ps.length a.pc) (.slice a.la v.ls.length a.lc) (.slice a.qa v.qs.length a.qc) (.slice a.ma v.ms.length a.mc))) (k:=(Cd vN Zc Zc Zc Zc Zc Zc Zc)) I).2.2.2.1
 have Z:Hid (Aa z (w.heap.size+1+1) (Cd (vZ v) Zc Zc Zc Zc Zc Zc Zc)):=(Bh (l:=(Cd v (.slice a.sa v.ss.length a.sc) (.slice a.ta v.tt.length a.tc) (.slice a.ka v.ks.length a.kc) (.slice a.pa v.ps.length a.pc) (.slice a.la v.ls.length a.lc) (.slice a.qa v.qs.length a.qc) (.slice a.ma v.ms.length a.mc))) (k:=(Cd vN Zc Zc Zc Zc Zc Zc Zc)) (m:=(Cd (vZ v) Zc Zc Zc Zc Zc Zc Zc)) I).2.2.2.2
 have HR:Hid (∀X,Zz w X->Cc X X.heap.size a v):=fun X hX=>hr.af hX;have zR:=Yx I;clear I hr;go_enter func7,ntmps7;go_wp2_with fail;rw[←zR.o];clear zR;refine(SC a.sa a.ta a.sc a.tc v.ss v.tt z (HR.o z E.o).s (HR.o z E.o).t hf.s hf.t).mono ?_;rintro e w1 ⟨g,k,rfl,_,zV,zY,O,D⟩;have z1:=D.size
 obtain⟨A,Q⟩:∃X,X=((w1.setCell (Ze (w.heap.size+1+1) 2) (Za g v.ss.length v.ss.length)).setCell (Ze (w.heap.size+1+1) 3) (Za k v.tt.length v.tt.length)):=⟨_,rfl⟩;have t1:Tn [w.heap.size+1+1] w1 A:=by rw[Q];exact(Tn.set _ _ _ _ (by simp)).trans (Tn.set _ _ _ _ (by simp))
 have xD:A.heap.size=w1.heap.size:=by rw[Q];simp
 have r:=Yx (Aa.same (Aa.below zE.o D) (t1.block _ (by omega) (by simp<;>omega)));have zG:=Yx (Aa.same (Aa.below zF.o D) (t1.block _ (by omega) (by simp<;>omega)));have s:Hid (Aa A (w.heap.size+1+1) (Cd (vZ v) (Za g v.ss.length v.ss.length) (Za k v.tt.length v.tt.length) Zc Zc Zc Zc Zc)):=by have K:=Aa.below Z.o D;show Aa A (w.heap.size+1+1) (Cd (vZ v) (Za g v.ss.length v.ss.length) (Za k v.tt.length v.tt.length) Zc Zc Zc Zc Zc);rw[Q];exact((K.set 2 _).set 3 _)
 have N:Hid (Zz w A):=(E.o.trans (D.mono E.o.size)).trans (t1.below (by omega) (by simp<;>omega));have zJ:Hid (A.ownsRow z.heap.size 9 1 (Za g v.ss.length v.ss.length) v.ss.length (v.ss.map Value.string)):=BM zY t1 (by simp;omega);have zN:Hid (A.ownsRow z.heap.size 9 1 (Za k v.tt.length v.tt.length) v.tt.length (v.tt.map Value.string)):=BM O t1 (by simp;omega)
 have HN:Hid (g<k/\k<w1.heap.size):=⟨zV,(Ac O (g:=k) rfl).2⟩;clear zY O zV;obtain⟨e2,f2⟩:=Aa.below Z.o D 2 _ rfl;obtain⟨e3,f3⟩:=Aa.below Z.o D 3 _ rfl;have zS:=Yx Q;clear Q;go_upto_region 5 with fail;rw[←zS.o];clear zS e2 f2 e3 f3 D t1 zE zF Z;obtain⟨y4,_⟩:=r.o 4 _ rfl;obtain⟨y5,_⟩:=r.o 5 _ rfl;obtain⟨y6,_⟩:=r.o 6 _ rfl;obtain⟨y7,_⟩:=r.o 7 _ rfl;obtain⟨y8,_⟩:=r.o 8 _ rfl;obtain⟨y9,_⟩:=r.o 9 _ rfl
 obtain⟨yW,_⟩:=r.o 10 _ rfl;go_wp2_with fail;refine(PG v.sw v.now v.given v.ae a.ka a.pa a.la a.kc a.pc a.lc v.ks v.ps v.ls A (HR.o A N.o).st hf.st).mono ?_;rintro e V ⟨h,i,j,H,rfl,zB,zZ,d⟩;have z2:=d.size
 obtain⟨t,R⟩:∃X,X=(((((((V.setCell (Ze (w.heap.size+1+1) 4) (Zg v.sw)).setCell (Ze (w.heap.size+1+1) 5) (Zg v.now)).setCell (Ze (w.heap.size+1+1) 6) (Zg v.given)).setCell (Ze (w.heap.size+1+1) 7) (Zg v.ae)).setCell (Ze (w.heap.size+1+1) 8) (Za h v.ks.length v.ks.length)).setCell (Ze (w.heap.size+1+1) 9) (Za i v.ps.length v.ps.length)).setCell (Ze (w.heap.size+1+1) 10) (Za j v.ls.length v.ls.length)):=⟨_,rfl⟩
 have U:Tn [w.heap.size+1+1] V t:=by rw[R];exact((((((Tn.set _ _ _ _ (by simp)).trans (Tn.set _ _ _ _ (by simp))).trans (Tn.set _ _ _ _ (by simp))).trans (Tn.set _ _ _ _ (by simp))).trans (Tn.set _ _ _ _ (by simp))).trans (Tn.set _ _ _ _ (by simp))).trans (Tn.set _ _ _ _ (by simp))
 have xF:t.heap.size=V.heap.size:=by rw[R];simp
 have B:=Yx (Aa.same (Aa.below r.o d) (U.block _ (by omega) (by simp<;>omega)));have zH:=Yx (Aa.same (Aa.below zG.o d) (U.block _ (by omega) (by simp<;>omega)));have C:Hid (Aa t (w.heap.size+1+1) (Cd (vY v) (Za g v.ss.length v.ss.length) (Za k v.tt.length v.tt.length) (Za h v.ks.length v.ks.length) (Za i v.ps.length v.ps.length) (Za j v.ls.length v.ls.length) Zc Zc)):=by
  have K:=Aa.below s.o d;show Aa t (w.heap.size+1+1) (Cd (vY v) (Za g v.ss.length v.ss.length) (Za k v.tt.length v.tt.length) (Za h v.ks.length v.ks.length) (Za i v.ps.length v.ps.length) (Za j v.ls.length v.ls.length) Zc Zc);rw[R];exact(((((((K.set 4 _).set 5 _).set 6 _).set 7 _).set 8 _).set 9 _).set 10 _)
 have F:Hid (Zz w t):=(N.o.trans (d.mono N.o.size)).trans (U.below (by omega) (by simp<;>omega));have zK:Hid (t.ownsRow z.heap.size 9 1 (Za g v.ss.length v.ss.length) v.ss.length (v.ss.map Value.string)):=BM (Ag zJ.o d) U (by simp;omega);have zO:Hid (t.ownsRow z.heap.size 9 1 (Za k v.tt.length v.tt.length) v.tt.length (v.tt.map Value.string)):=BM (Ag zN.o d) U (by simp;omega)
 have zM:Hid (AV t A.heap.size (Za h v.ks.length v.ks.length) (Za i v.ps.length v.ps.length) (Za j v.ls.length v.ls.length) H v.ks v.ps v.ls):=zB.al U (by simp;omega);have yC:Hid (∀b∈Bk (Za h v.ks.length v.ks.length) (Za i v.ps.length v.ps.length) (Za j v.ls.length v.ls.length) H,b<V.heap.size):=zB.cf;have yE:=Yx zZ;clear zB zZ zJ zN y4 y5 y6 y7 y8 y9 yW;obtain⟨e4,f4⟩:=Aa.below s.o d 4 _ rfl
 obtain⟨e5,f5⟩:=Aa.below s.o d 5 _ rfl;obtain⟨e6,f6⟩:=Aa.below s.o d 6 _ rfl;obtain⟨e7,f7⟩:=Aa.below s.o d 7 _ rfl;obtain⟨e8,f8⟩:=Aa.below s.o d 8 _ rfl;obtain⟨e9,f9⟩:=Aa.below s.o d 9 _ rfl;obtain⟨yH,yO⟩:=Aa.below s.o d 10 _ rfl;have zT:=Yx R;clear R;go_upto_region 6 with fail;rw[←zT.o];clear zT e4 f4 e5 f5 e6 f6 e7 f7 e8 f8 e9 f9 yH yO d U r zG s;obtain⟨yX,_⟩:=B.o 11 _ rfl
 obtain⟨yY,_⟩:=B.o 12 _ rfl;obtain⟨yZ,_⟩:=B.o 13 _ rfl;obtain⟨xA,_⟩:=B.o 14 _ rfl;obtain⟨xB,_⟩:=B.o 15 _ rfl;obtain⟨xC,_⟩:=B.o 16 _ rfl;go_wp2_with fail;refine(Pr v.ph v.ag v.at_ v.ro a.qa a.ma a.qc a.mc v.qs v.ms t (HR.o t F.o).q (HR.o t F.o).m hf.r).mono ?_;rintro e w3 ⟨o,p,rfl,_,zW,zC,P,f⟩;have z3:=f.size
 obtain⟨u,S⟩:∃X,X=((((((w3.setCell (Ze (w.heap.size+1+1) 11) (Zg v.ph)).setCell (Ze (w.heap.size+1+1) 12) (Za o v.qs.length v.qs.length)).setCell (Ze (w.heap.size+1+1) 13) (Za p v.ms.length v.ms.length)).setCell (Ze (w.heap.size+1+1) 14) (Zg v.ag)).setCell (Ze (w.heap.size+1+1) 15) (Zg v.at_)).setCell (Ze (w.heap.size+1+1) 16) (Zg v.ro)):=⟨_,rfl⟩
 have L:Tn [w.heap.size+1+1] w3 u:=by rw[S];exact(((((Tn.set _ _ _ _ (by simp)).trans (Tn.set _ _ _ _ (by simp))).trans (Tn.set _ _ _ _ (by simp))).trans (Tn.set _ _ _ _ (by simp))).trans (Tn.set _ _ _ _ (by simp))).trans (Tn.set _ _ _ _ (by simp))
 have xG:u.heap.size=w3.heap.size:=by rw[S];simp
 have yA:=Yx (Aa.same (Aa.below B.o f) (L.block _ (by omega) (by simp<;>omega)));have zA:=Yx (Aa.same (Aa.below zH.o f) (L.block _ (by omega) (by simp<;>omega)))
 have zI:Hid (Aa u (w.heap.size+1+1) (Cd v (Za g v.ss.length v.ss.length) (Za k v.tt.length v.tt.length) (Za h v.ks.length v.ks.length) (Za i v.ps.length v.ps.length) (Za j v.ls.length v.ls.length) (Za o v.qs.length v.qs.length) (Za p v.ms.length v.ms.length))):=by
  have K:=Aa.below C.o f;show Aa u (w.heap.size+1+1) (Cd v (Za g v.ss.length v.ss.length) (Za k v.tt.length v.tt.length) (Za h v.ks.length v.ks.length) (Za i v.ps.length v.ps.length) (Za j v.ls.length v.ls.length) (Za o v.qs.length v.qs.length) (Za p v.ms.length v.ms.length));rw[S];exact((((((K.set 11 _).set 12 _).set 13 _).set 14 _).set 15 _).set 16 _)
 have Y:Hid (Zz w u):=(F.o.trans (f.mono F.o.size)).trans (L.below (by omega) (by simp<;>omega));have M:AU u z.heap.size (Za g v.ss.length v.ss.length) (Za k v.tt.length v.tt.length) (Za h v.ks.length v.ks.length) (Za i v.ps.length v.ps.length) (Za j v.ls.length v.ls.length) (Za o v.qs.length v.qs.length) (Za p v.ms.length v.ms.length) H v:=
  (AU.of (n1:=w1.heap.size) (n2:=V.heap.size) (Al.own (BM (Ag zK.o f) L (by simp;omega))) (Al.own (BM (Ag zO.o f) L (by simp;omega))) (fun b K h2=>by cases K;cases h2;exact absurd HN.o.1 (Nat.lt_irrefl _)) (fun b y=>by have hN:=HN.o;rcases y with y|y<;>cases y;exact Nat.lt_trans hN.1 hN.2;exact hN.2) (xD▸(zM.o.below f).al L (by simp;omega)) (by omega) yC.o (Al.own ((BM zC L (by simp;omega)).mono (by omega))) (Al.own ((BM P L (by simp;omega)).mono (by omega))) (fun b y=>by have q1:=(Ac zC (g:=o) rfl).1;have q2:=(Ac P (g:=p) rfl).1;rcases y with y|y<;>cases y;(show V.heap.size<=o;omega);(show V.heap.size<=p;omega)) (by omega) (fun b K h2=>by cases K;cases h2;exact absurd zW (Nat.lt_irrefl _)))
 have zP:Hid (AU u w.heap.size (Za g v.ss.length v.ss.length) (Za k v.tt.length v.tt.length) (Za h v.ks.length v.ks.length) (Za i v.ps.length v.ps.length) (Za j v.ls.length v.ls.length) (Za o v.qs.length v.qs.length) (Za p v.ms.length v.ms.length) H v):=M.mono (by omega)
 have yD:Hid (∀b∈CJ (Za g v.ss.length v.ss.length) (Za k v.tt.length v.tt.length) (Za h v.ks.length v.ks.length) (Za i v.ps.length v.ps.length) (Za j v.ls.length v.ls.length) (Za o v.qs.length v.qs.length) (Za p v.ms.length v.ms.length) H,w.heap.size+1<b):=fun b y=>by have:=M.lo b y;omega
 clear M zC P zW zK zO zM yX yY yZ xA xB xC;obtain⟨yI,yP⟩:=Aa.below C.o f 11 _ rfl;obtain⟨yJ,yQ⟩:=Aa.below C.o f 12 _ rfl;obtain⟨yK,yR⟩:=Aa.below C.o f 13 _ rfl;obtain⟨yL,yS⟩:=Aa.below C.o f 14 _ rfl;obtain⟨yM,yT⟩:=Aa.below C.o f 15 _ rfl;obtain⟨yN,yU⟩:=Aa.below C.o f 16 _ rfl;have zU:=Yx S;clear S;go_upto_region 7 with fail;rw[←zU.o];clear zU yI yP yJ yQ yK yR yL yS yM yT yN yU f L B zH C
 obtain⟨W4,T⟩:∃X,X=u.setCells (w.heap.size+1) 0 (Cd v (Za g v.ss.length v.ss.length) (Za k v.tt.length v.tt.length) (Za h v.ks.length v.ks.length) (Za i v.ps.length v.ps.length) (Za j v.ls.length v.ls.length) (Za o v.qs.length v.qs.length) (Za p v.ms.length v.ms.length)).toArray.toList:=⟨_,rfl⟩;have t4:Tn [w.heap.size+1] u W4:=by rw[T];exact Ax _ _ _ _
 have x4:Aa W4 (w.heap.size+1) (Cd v (Za g v.ss.length v.ss.length) (Za k v.tt.length v.tt.length) (Za h v.ks.length v.ks.length) (Za i v.ps.length v.ps.length) (Za j v.ls.length v.ls.length) (Za o v.qs.length v.qs.length) (Za p v.ms.length v.ms.length)):=by rw[T];exact zA.o.aw _ rfl
 have HV:Hid (AU W4 w.heap.size (Za g v.ss.length v.ss.length) (Za k v.tt.length v.tt.length) (Za h v.ks.length v.ks.length) (Za i v.ps.length v.ps.length) (Za j v.ls.length v.ls.length) (Za o v.qs.length v.qs.length) (Za p v.ms.length v.ms.length) H v):=zP.o.stays t4 (fun b y yV=>by have:=yD.o b yV;simp at y;omega);have yB:Hid (Zz w W4):=Y.o.trans (t4.below Y.o.size (by simp))
 obtain⟨G,J⟩:∃G,G=(Cd v (Za g v.ss.length v.ss.length) (Za k v.tt.length v.tt.length) (Za h v.ks.length v.ks.length) (Za i v.ps.length v.ps.length) (Za j v.ls.length v.ls.length) (Za o v.qs.length v.qs.length) (Za p v.ms.length v.ms.length)):=⟨_,rfl⟩;have zX:G.toArray.size=17:=by rw[J];rfl
 have HI:Hid (u.there (w.heap.size+1) 0 G.toArray.size/\∀x∈G,x.oneCell'=true):=⟨by rw[zX];exact zA.o.there,by rw[J];simp[Cd,Value.oneCell']⟩;have HL:Hid (G.length=17):=by show G.length=17;rw[J];rfl
 have HC:Hid (Aa u (w.heap.size+1+1) G):=J▸zI.o;rw[←J]at x4 T;have yG:=Yx x4;have yF:=Yx T;have HE:=Yx J;clear zX J x4 T t4 zI zA yA zP;go_wp2_with (first
  |refine wpList_load_mid rfl 46 _ rfl (w.heap.size+1+1) 0 rfl G _ HC.o.range underlying46 rfl (by rw[HL.o];kernel_rfl) ?_
  |refine wpList_store_mid rfl 46 _ _ rfl (w.heap.size+1) 0 G.toArray rfl rfl HI.o.1 (by rw[List.size_toArray,HL.o];kernel_rfl) (all_oneCell_toArray HI.o.2) ?_)
 rw[←yF.o];refine bodyPost_ret (BL results7 _ _ (w.heap.size+1) G _ rfl (Aa.range yG.o) underlying46 rfl (by rw[HL.o];kernel_rfl)) rfl ?_;exact⟨g,k,h,i,j,o,p,by rw[HE.o],H,HV.o,yE.o,yB.o⟩
end Go.Proofs.YtckmnfhmoankmaaGreatDoor
