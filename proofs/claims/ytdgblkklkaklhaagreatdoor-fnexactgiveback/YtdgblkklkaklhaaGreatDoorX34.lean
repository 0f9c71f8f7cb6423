import Derived.Test.YtdgblkklkaklhaaGreatDoorX33
set_option maxRecDepth 100000
set_option maxHeartbeats 16000000
namespace Go.Proofs.YtdgblkklkaklhaaGreatDoor
open Go.ChangeShapes Go.WideShapes Go.ChangeAt Go.RowKit _root_.Go.Proofs.Tryz
def Hc(v:Vd)(e:Ed)(w:Zh)(o:Ending)(w':Zh):Prop:=
 ∃d S U T P L Q M rs,Hu v e d/\o=.returned (.agg (JZ d S U T P L Q M).toArray)/\AL w' w.heap.size S U T P L Q M rs d.v/\Zz w w'
def RN(v:Vd)(e:Ed)(lo:Nat)(w:Zh)(o:Ending)(w':Zh):Prop:=
 Below lo w w'/\((∃c p q,Hb v e c p q/\o=.returned (.agg #[Zg c,Zf,Zf,Zc,Zc,Zf,Zf,Zf,Zf,Zc,Zc,Zc,Zf,Zc,Zc,Zf,Zf,Zf,Zd,Zf,.string p,.string q]))∨(∃r S U T P L Q M rs,Jt v e r/\o=.returned (.agg (JZ (dyes v e r) S U T P L Q M).toArray)/\AL w' lo S U T P L Q M rs (doV v e r)))
theorem Qk{X:Zh}{base:Nat}{S U T P L Q M:Value}{b:Zj}{d:Dd}(h:AL X base S U T P L Q M b d.v):(JZ d S U T P L Q M).length=22/\∀u∈JZ d S U T P L Q M,u.oneCell'=true:=by obtain⟨a,h,_⟩:=h.gj;exact Ju (vs:=BS d.v S U T P L Q M) ⟨rfl,by rw[h];simp[BS,Value.oneCell']⟩
theorem RN.form{v:Vd}{e:Ed}{lo:Nat}{w b:Zh}{o:Ending}(h:RN v e lo w o b):Below lo w b/\∃(c:Int) (zs tl:Zj),o=.returned (.agg (Zg c::(zs++tl)).toArray)/\zs.length=17/\tl.length=4/\(∀u∈Zg c::(zs++tl),u.oneCell'=true)/\((∃p q,Hb v e c p q/\tl=[Zd,Zf,.string p,.string q])∨(c=0/\∃r S U T P L Q M a,Jt v e r/\Zg c::(zs++tl)=JZ (dyes v e r) S U T P L Q M/\AL b lo S U T P L Q M a (doV v e r))):=by
 obtain⟨g,⟨c,p,q,h,rfl⟩|⟨r,S,U,T,P,L,Q,M,a,h,rfl,f⟩⟩:=h
 ·exact⟨g,c,Xz,[Zd,Zf,.string p,.string q],rfl,rfl,rfl,by simp[Value.oneCell'],.inl ⟨p,q,h,rfl⟩⟩
 ·exact⟨g,0,BS (doV v e r) S U T P L Q M,[.string r.sm,Zg r.le,Zd,Zd],rfl,rfl,rfl,(Qk (d:=dyes v e r) f).2,.inr ⟨rfl,r,S,U,T,P,L,Q,M,a,h,rfl,f⟩⟩
theorem TM(v:Vd)(e:Ed)(s:Value)(m:Zj)(gf:Nat)(rv:Value)(ra:Zk)(rc:Nat)(Dk:Nat->Nat->Zh->Prop)(w:Zh)(hl:(s::m).length=17)
 (eg:∀args X,(callFunc gf args).run prog X=.ok (.enter gf args) X)
 (hD:∀X,Zz w X->Calls prog 45 #[.agg (s::m).toArray] X fun o G=>Zz X G/\((¬Ei v/\o=.returned (.tuple #[.pointer none,.bool false]))∨(Ei v/\∃k,o=.returned (.tuple #[Yz k,.bool true])/\Dk X.heap.size k G)))
 (hM:∀X,Zz w X->Calls prog gf #[rv] X fun o G=>o=.returned (.agg (Yp e.kd e.s e.nm e.num e.tx ra e.rf.length rc))/\Zz X G)
 (yN:∀lo k X G,Dk lo k X->Zz X G->Dk lo k G)
 (hK:∀lo k X,w.heap.size<=lo->Ei v->Dk lo k X->Zz w X->Calls prog 46 #[Yz k,.agg (Yp e.kd e.s e.nm e.num e.tx ra e.rf.length rc)] X (RN v e lo X))
 (hC:Ei v->∀X,Zz w X->Calls prog 47 #[.agg (s::m).toArray] X fun o G=>∃(S U T P L Q M:Value) (rs:Zj),o=.returned (.agg (BS v S U T P L Q M).toArray)/\AL G X.heap.size S U T P L Q M rs v/\Zz X G):
 Calls prog 20 #[.agg (s::m).toArray,.func (.func gf) #[rv] #[]] w (Hc v e w):=by
 obtain⟨W,hW⟩:∃W,W=(w.alloc (.cells (s::m).toArray 43)).alloc (.cells Yc 45):=⟨_,rfl⟩;have bW:=(AW hW).1;have zW:=(AW hW).2.1;have HX:Hid (Aa W w.heap.size (s::m)/\Aa W (w.heap.size+1) CN):=⟨(AW hW).2.2.1,(AW (k:=CN) hW).2.2.2⟩;have O:=Yx bW;have yJ:Hid ((s::m).length=17):=hl;have HD:=Yx hD;have HM:=Yx hM;have zV:=Yx yN;have HK:=Yx hK;have HC:=Yx hC;have HW:=Yx hW;clear hW hD hM yN hK hC hl bW
 go_enter func20,ntmps20;go_upto_region 1 with fail;rw[←HW.o];clear HW;go_wp2_with (refine wpList_load_mid rfl 43 _ rfl w.heap.size 0 rfl (s::m) _ HX.o.1.range underlying43 rfl (by rw[yJ.o];kernel_rfl) ?_);refine(HD.o W O.o).mono ?_;rintro o w1 ⟨A,⟨yQ,rfl⟩|⟨zM,k,rfl,yP⟩⟩
 ·have b1:=O.o.trans (A.mono O.o.size);have x1:=Aa.below (v:=Zf) HX.o.2 A;obtain⟨C,f⟩:∃Y,Y=w1.setCells (w.heap.size+1) 0 (Xy 1):=⟨_,rfl⟩;have V:Aa C (w.heap.size+1) (Xy 1):=by rw[f];exact x1.ba _ rfl
  have yS:Hid (Zz w C):=b1.trans (by rw[f];exact(AP _ _ _ _).below b1.size (by simp));have yH:=Yx (Zn (show((Xx 1):Array Value).all (·.oneCell')=true by simp[Value.oneCell']) x1.there);have zA:=Yx V;have zP:=Yx yQ;have Z:=Yx f;clear f V yQ x1 b1 HD HM zV HK HC HX O A;go_wp2_with (refine wpList_store_mid rfl 45 _ _ rfl (w.heap.size+1) 0 (Xx 1) rfl rfl yH.o.2 (by kernel_rfl) yH.o.1 ?_);rw[←Z.o]
  refine bodyPost_ret (BN results20 _ _ (w.heap.size+1) (Xy 1) _ rfl (Aa.range zA.o) underlying45 rfl (by kernel_rfl)) rfl ?_;exact⟨Fz 1 v0 ⟨#[]⟩ ⟨#[]⟩,Zc,Zc,Zc,Zc,Zc,Zc,Zc,[],.inl ⟨zP.o,rfl⟩,rfl,AL.nil _ _,yS.o⟩
 ·have z1:=A.size;have zY:Hid (Aa w1 w.heap.size (s::m)/\Aa w1 (w.heap.size+1) CN):=⟨Aa.below HX.o.1 A,Aa.below (v:=Zf) HX.o.2 A⟩;have zN:Hid (Zz w w1):=O.o.trans (A.mono O.o.size);have HY:=Yx zM;have zJ:=Yx yP;clear A zM yP HX HD;go_wp2_with fail;refine(HM.o w1 zN.o).mono ?_;rintro o w2 ⟨rfl,J⟩;have z2:=J.size
  have zZ:Hid (Aa w2 w.heap.size (s::m)/\Aa w2 (w.heap.size+1) CN):=⟨Aa.below zY.o.1 J,Aa.below (v:=Zf) zY.o.2 J⟩;have zU:Hid (Zz w w2):=zN.o.trans (J.mono zN.o.size);have yI:=Yx (HK.o W.heap.size k w2 O.o.size HY.o (zV.o _ _ _ _ zJ.o J) zU.o);clear J HM zV zJ HK zY zN;go_wp2_with fail;refine Calls.mono yI.o ?_;intro o d zK;obtain⟨zE,c,zs,tl,rfl,yE,zG,N,H⟩:=zK.form;have z3:=zE.size
  obtain⟨D,zC⟩:∃D:Zj,D=Zg c::(zs++tl):=⟨_,rfl⟩;have t:D.length=22:=by rw[zC];simp[yE,zG]
  have yM:D[0]?=some (Zg c):=by rw[zC];rfl
  rw[←zC]at N ⊢;obtain⟨B,yB⟩:∃Y,Y=(d.alloc (.cells Yc 45)).setCells d.heap.size 0 D.toArray.toList:=⟨_,rfl⟩;have I:=boxed (X:=d) (cs:=D) (z:=CN) (T:=45) (by rw[t];rfl);have e4:B=(d.alloc (.cells CN.toArray 45)).setCells d.heap.size 0 D:=yB;rw[←e4]at I;obtain⟨x4,b4,z4⟩:=I
  have l:Hid ((d.alloc (.cells Yc 45)).there d.heap.size 0 D.toArray.size/\D.length=22/\∀x∈D,x.oneCell'=true):=⟨by rw[show D.toArray.size=22 from by rw[List.size_toArray];exact t];exact(Aa.new d CN 45).there,t,N⟩;have yA:=Yx (Zb (Aa.same zZ.o.1 (zE.block _ (by omega))) (Aa.same zZ.o.2 (zE.block _ (by omega))))
  have F:Hid (Aa B w.heap.size (s::m)/\Aa B (w.heap.size+1) CN/\Aa B d.heap.size D):=⟨Aa.below yA.o.1 b4,Aa.below (v:=Zf) yA.o.2 b4,x4⟩;have b3:Below w.heap.size w d:=zU.o.trans (zE.mono O.o.size);have g:Hid (Zz w B/\Zz d B/\w.heap.size+2<=d.heap.size):=⟨b3.trans (b4.mono b3.size),b4,by omega⟩;obtain⟨u0,_⟩:=x4 0 _ yM;have n:=Yx (Zn zC (Zn yE zG));have zO:=Yx H;have yK:=Yx yB
  have yV:W.heap.size=w.heap.size+2:=zW;clear yB e4 x4 b4 b3 zK zE zC t yM yE zG N H zZ yA zU yI;go_upto_region 5 with(refine wpList_store_mid rfl 45 _ _ rfl d.heap.size 0 D.toArray rfl rfl l.o.1 (by rw[List.size_toArray,l.o.2.1];kernel_rfl) (all_oneCell_toArray l.o.2.2) ?_);rw[←yK.o];clear yK;by_cases hc:c=0
  ·subst hc;obtain⟨C,f⟩:∃Y,Y=B.setCells (w.heap.size+1) 0 D.toArray.toList:=⟨_,rfl⟩;have t9:Tn [w.heap.size+1] B C:=by rw[f];exact AP _ _ _ _
   have V:Aa C (w.heap.size+1) D:=by rw[f];exact F.o.2.1.ba D (by rw[l.o.2.1];rfl)
   have E:Hid (B.there (w.heap.size+1) 0 D.toArray.size):=by show B.there (w.heap.size+1) 0 D.toArray.size;rw[show D.toArray.size=22 from by rw[List.size_toArray];exact l.o.2.1];exact F.o.2.1.there
   have K:Hid (Hc v e w (.returned (.agg D.toArray)) C):=by
    rcases zO.o with⟨p,q,hn,_⟩|⟨_,r,S,U,T,P,L,Q,M,rs,hy,hd,ha⟩
    ·exact absurd rfl hn.code
    ·refine⟨dyes v e r,S,U,T,P,L,Q,M,rs,.inr ⟨HY.o,.inr ⟨r,hy,rfl⟩⟩,by rw[n.o.1,hd],?_,g.o.1.trans (t9.below g.o.1.size (by simp))⟩;exact((ha.below g.o.2.1).stays t9 (fun b I yC=>by have:=(ha.below g.o.2.1).lo b yC;simp at I;omega)).mono (by omega)
   have zA:=Yx V;have Z:=Yx f;clear f t9 V zO n HC HY;go_wp2_with (first
    |refine wpList_load_mid rfl 45 _ rfl d.heap.size 0 rfl D _ F.o.2.2.range underlying45 rfl (by rw[l.o.2.1];kernel_rfl) ?_
    |refine wpList_store_mid rfl 45 _ _ rfl (w.heap.size+1) 0 D.toArray rfl rfl E.o (by rw[List.size_toArray,l.o.2.1];kernel_rfl) (all_oneCell_toArray l.o.2.2) ?_)
   rw[←Z.o];exact bodyPost_ret (BN results20 _ _ (w.heap.size+1) D _ rfl (Aa.range zA.o) underlying45 rfl (by rw[l.o.2.1];kernel_rfl)) rfl K.o
  ·have yU:(c==0)=false:=by simpa using hc
   have zP:Hid (∃p q,Hb v e c p q/\tl=[Zd,Zf,.string p,.string q]):=by
    rcases zO.o with h|⟨h,_⟩
    ·exact h
    ·exact absurd h hc
   clear hc zO;go_wp2_with (refine wpList_load_mid rfl 43 _ rfl w.heap.size 0 rfl (s::m) _ F.o.1.range underlying43 rfl (by rw[yJ.o];kernel_rfl) ?_);refine(HC.o HY.o B g.o.1).mono ?_;rintro o w5 ⟨S,U,T,P,L,Q,M,rs,rfl,zS,zF⟩;have z5:=zF.size;obtain⟨y,zI⟩:∃y,y=BS v S U T P L Q M:=⟨_,rfl⟩;have zH:y.length=17:=by rw[zI];rfl
   have yD:∀u∈y,u.oneCell'=true:=by obtain⟨a,h,_⟩:=zS.gj;rw[zI,h];simp[BS,Value.oneCell']
   rw[←zI];have x5:Aa w5 d.heap.size ([Zg c]++(zs++tl)):=by have h:=F.o.2.2;rw[n.o.1]at h;exact Aa.below h zF
   obtain⟨R,zR⟩:∃Y,Y=w5.setCells d.heap.size 1 y.toArray.toList:=⟨_,rfl⟩;have t6:Tn [d.heap.size] w5 R:=by rw[zR];exact AP _ _ _ _
   have x6:Aa R d.heap.size (Zg c::(y++tl)):=by rw[zR];exact Aa.dv y [Zg c] zs tl w5 x5 (by rw[zH,n.o.2.1])
   have yR:w5.there d.heap.size 1 y.toArray.size:=fun j hj=>by rw[List.size_toArray,zH]at hj;have h1:=x5 (1+j) _ (Zv (by simp[n.o.2.1,n.o.2.2];omega));exact⟨by rw[h1.1];rfl,h1.2⟩
   have zX:=Yx (Zb yR (Zb zH yD));obtain⟨i,zB⟩:∃i:Zj,i=Zg c::(y++tl):=⟨_,rfl⟩;have t:i.length=22:=by rw[zB];simp[zH,n.o.2.2]
   have yO:∀u∈i,u.oneCell'=true:=fun u hu=>by
    have h1:=l.o.2.2 u;rw[n.o.1]at h1;rw[zB]at hu;simp only[List.mem_cons,List.mem_append]at hu h1;rcases hu with rfl|hu|hu
    ·rfl
    ·exact yD u hu
    ·exact h1 (.inr (.inr hu))
   rw[←zB]at x6;have yG:=Aa.below (v:=Zf) F.o.2.1 zF;have zT:Aa R (w.heap.size+1) CN:=Aa.same yG (t6.block _ yG.lt (by have:=g.o.2.2;simp;omega));have yT:=Yx (Zb x6 zT);obtain⟨C,f⟩:∃Y,Y=R.setCells (w.heap.size+1) 0 i.toArray.toList:=⟨_,rfl⟩;have t9:Tn [w.heap.size+1] R C:=by rw[f];exact AP _ _ _ _
   have V:Aa C (w.heap.size+1) i:=by rw[f];exact zT.ba i (by rw[t];rfl)
   have E:Hid (R.there (w.heap.size+1) 0 i.toArray.size/\i.length=22/\∀u∈i,u.oneCell'=true):=⟨by rw[show i.toArray.size=22 from by rw[List.size_toArray];exact t];exact zT.there,t,yO⟩;have yF:Tn [d.heap.size,w.heap.size+1] w5 C:=(t6.mono (by simp)).trans (t9.mono (by simp));have K:Hid (Hc v e w (.returned (.agg i.toArray)) C):=by
    obtain⟨p,q,hn,zG⟩:=zP.o;have I:=g.o.1.trans (zF.mono g.o.1.size);refine⟨Fz c v p q,S,U,T,P,L,Q,M,rs,.inr ⟨HY.o,.inl ⟨c,p,q,hn,rfl⟩⟩,by rw[zB,zG,zI];rfl,?_,I.trans (yF.below I.size (by have:=g.o.2.2;simp;omega))⟩;exact(zS.stays yF (fun b I yC=>by have:=zS.lo b yC;have:=g.o.2.2;have:=g.o.2.1.size;simp at I;omega)).mono g.o.1.size
   have zA:=Yx V;have yL:=Yx zR;have Z:=Yx f;clear zR f t6 t9 yF x5 x6 V yG zT yR zH yD zI zB t yO zS zF zP n HC HY F l;go_upto_region 7 with(refine wpList_store_mid rfl 43 _ _ rfl d.heap.size 1 y.toArray rfl rfl zX.o.1 (by rw[List.size_toArray,zX.o.2.1];kernel_rfl) (all_oneCell_toArray zX.o.2.2) ?_);rw[←yL.o];clear yL;go_wp2_with (first
    |refine wpList_load_mid rfl 45 _ rfl d.heap.size 0 rfl i _ yT.o.1.range underlying45 rfl (by rw[E.o.2.1];kernel_rfl) ?_
    |refine wpList_store_mid rfl 45 _ _ rfl (w.heap.size+1) 0 i.toArray rfl rfl E.o.1 (by rw[List.size_toArray,E.o.2.1];kernel_rfl) (all_oneCell_toArray E.o.2.2) ?_)
   rw[←Z.o];exact bodyPost_ret (BN results20 _ _ (w.heap.size+1) i _ rfl (Aa.range zA.o) underlying45 rfl (by rw[E.o.2.1];kernel_rfl)) rfl K.o
theorem LK{A:Type}{c:A->Zj}{n:Nat}(h:∀x,(c x).length=n)(m:0<n){a:List A}{b:Zj}(o:b.length=a.length *n)(l:∀i x j,a[i]?=some x->j<n->b[i *n+j]?=(c x)[j]?):b=Ab c a:=by
 apply List.ext_getElem?;intro k;have p:=Bu h a;by_cases hlt:k<a.length *n
 ·have g:k/n<a.length:=Nat.div_lt_of_lt_mul (by rw[Nat.mul_comm];exact hlt);have d:k%n<n:=Nat.mod_lt _ m;have e:k=k/n *n+k%n:=by rw[Nat.mul_comm];exact(Nat.div_add_mod k n).symm
  have f:=Zv g;rw[e,l _ _ _ f d,Bp h f d]
 ·rw[List.getElem?_eq_none (by omega),List.getElem?_eq_none (by omega)]
theorem EV.gp{w:Zh}{lo g:Nat}{a:List Pd}(h:EV w lo g a):w.ownsRow lo 137 2 (Za g a.length a.length) a.length (Ab pC a):=by
 obtain⟨m,b,k⟩:=h;have e:m=Ab pC a:=LK BI (by omega) b.1 (fun i x j l f=>by
  obtain⟨c,d⟩:=k i x l
  match j,f with
  |0,_=>exact c
  |1,_=>exact d)
 exact e▸b
theorem EX.gp{w:Zh}{lo g:Nat}{a:List Ld}(h:EX w lo g a):w.ownsRow lo 139 3 (Za g a.length a.length) a.length (Ab lC a):=by
 obtain⟨n,b,l⟩:=h;have e:n=Ab lC a:=LK Co (by omega) b.1 (fun i x j m k=>by
  obtain⟨c,d,f⟩:=l i x m
  match j,k with
  |0,_=>exact c
  |1,_=>exact d
  |2,_=>exact f)
 exact e▸b
structure Hv (w:Zh) (lo g:Nat) (rs:Zj) (ks:List Kd):Prop where
 len:rs.length=ks.length
 ai:w.ownsRow lo 131 4 (.slice (some ⟨g,0,none⟩) ks.length ks.length) ks.length (Ab kC (ks.zip rs))
 refs:∀(i:Nat) (k:Kd) (r:Value),ks[i]?=some k->rs[i]?=some r->w.ownsRow (g+1) 9 1 r k.refs.length (k.refs.map Value.string)
 sm:∀r∈rs,∃q n c,r=.slice (some ⟨q,0,none⟩) n c
 inc:(rs.filterMap Value.ownBlock).Pairwise (·<·)
theorem EN.to{w:Zh}{lo g:Nat}{m:List Kd}(h:EN w lo g m):∃l,Hv w lo g l m:=by
 obtain⟨t,C,A,N⟩:=h;have d:∀i,i<m.length->∃q n,t[i *4+3]?=some (Za q n n):=fun i D=>by obtain⟨_,_,_,q,o,_⟩:=A i _ (Zv D);exact⟨q,_,o⟩
 obtain⟨l,p⟩:∃l,l=(List.range m.length).map (fun i=>t[i *4+3]?.getD undef):=⟨_,rfl⟩;have B:l.length=m.length:=by rw[p];simp
 have u:∀i,i<m.length->l[i]?=some (t[i *4+3]?.getD undef):=fun i h=>by rw[p,List.getElem?_map,List.getElem?_range h];rfl
 refine⟨l,B,?_,?_,?_,?_⟩
 ·have e:t=Ab kC (m.zip l):=LK DX (by omega) (by rw[C.1,List.length_zip,B,Nat.min_self]) (fun i x j P O=>by
   obtain⟨z,G⟩:=List.getElem?_zip_eq_some.1 P;obtain⟨H,I,J,q,o,_⟩:=A i _ z;have f:=u i (Zw z).1;rw[G,o]at f
   match j,O with
   |0,_=>exact H
   |1,_=>exact I
   |2,_=>exact J
   |3,_=>exact o.trans f.symm)
  exact e▸C
 ·intro i k r a F;obtain⟨_,_,_,q,o,K⟩:=A i k a;have f:=u i (Zw a).1;rw[o,F]at f;cases f;exact K
 ·intro r f;rw[p]at f;obtain⟨i,a,rfl⟩:=List.mem_map.1 f;obtain⟨q,n,s⟩:=d i (List.mem_range.1 a);exact⟨q,_,_,by rw[s];rfl⟩
 ·rw[p,List.filterMap_map,List.pairwise_filterMap];refine List.Pairwise.imp_of_mem (R:=(·<·)) ?_ List.pairwise_lt_range;intro i j a v E b L c M;obtain⟨q,n,s⟩:=d i (List.mem_range.1 a);obtain⟨Q,S,y⟩:=d j (List.mem_range.1 v);have:=N i j q Q _ _ _ _ E (List.mem_range.1 v) s y;simp[s,Value.ownBlock]at L;simp[y,Value.ownBlock]at M;omega
theorem Hv.tn{V:List Nat}{w l:Zh}{lo g:Nat}{j:Zj}{f:List Kd}(h:Hv w lo g j f)(e:Tn V w l)(d:∀b∈V,b<lo):Hv l lo g j f:=
 ⟨h.len,Bn h.ai e d,fun i k r a c=>Bn (h.refs i k r a c) e (fun b m=>by have a:=d b m;have c:=(Ac h.ai (g:=g) rfl).1;omega),h.sm,h.inc⟩
theorem Hv.below{w c:Zh}{lo g:Nat}{rs:Zj}{b:List Kd}(h:Hv w lo g rs b)(a:Zz w c):Hv c lo g rs b:=
 ⟨h.len,Ae h.ai a,fun i k r d e=>Ae (h.refs i k r d e) a,h.sm,h.inc⟩
theorem Hv.gp{w:Zh}{lo g q r n1:Nat}{f:Zj}{e:List Kd}{c:List Pd}{a:List Ld}(h:Hv w lo g f e)(y:g<n1)(m:∀b∈f.filterMap Value.ownBlock,b<n1)(z:n1<=q)(A:q<r)(u:w.ownsRow lo 137 2 (Za q c.length c.length) c.length (Ab pC c))(t:w.ownsRow lo 139 3 (Za r a.length a.length) a.length (Ab lC a)):
 AO w lo (Za g e.length e.length) (Za q c.length c.length) (Za r a.length a.length) f e c a:=by
 have de:=(Ac h.ai (g:=g) rfl).1;refine⟨h.len,h.ai,fun i k x p s=>(h.refs i k x p s).mono (by omega),u,t,?_⟩;have j:∀b∈f.filterMap Value.ownBlock,g<b:=fun b j=>by
  obtain⟨x,v,o⟩:=List.mem_filterMap.1 j;obtain⟨i,l⟩:=List.getElem?_of_mem v;have n:i<e.length:=by rw[←h.len];exact(Zw l).1
  exact(Ac (h.refs i _ x (Zv n) l) o).1
 show(g::q::r::f.filterMap Value.ownBlock).Nodup;refine List.nodup_cons.2 ⟨?_,List.nodup_cons.2 ⟨?_,List.nodup_cons.2 ⟨fun d=> ?_,h.inc.imp (fun h=>Nat.ne_of_lt h)⟩⟩⟩
 ·simp only[List.mem_cons,not_or];exact⟨by omega,by omega,fun d=>by have:=j g d;omega⟩
 ·simp only[List.mem_cons,not_or];exact⟨by omega,fun d=>by have:=m q d;omega⟩
 ·have:=m r d;omega
theorem Hv.cg{w:Zh}{lo g:Nat}{d:Zj}{c:List Kd}(h:Hv w lo g d c):∀b∈d.filterMap Value.ownBlock,b<w.heap.size:=fun b j=>by
 obtain⟨x,k,f⟩:=List.mem_filterMap.1 j;obtain⟨i,a⟩:=List.getElem?_of_mem k;have e:i<c.length:=by rw[←h.len];exact(Zw a).1
 exact(Ac (h.refs i _ x (Zv e) a) f).2
theorem PB(j i given ae:Int)(a p l:Zk)(K M L:Nat)(f:List Kd)(d:List Pd)(h:List Ld)(w:Zh)(Q:Bv w w.heap.size a p l f d h)(hf:Nw f d h):
 Calls prog 18 #[.agg (Ys j i given ae a f.length K p d.length M l h.length L)] w fun e w'=>∃g q r C,e=.returned (.agg (Ys j i given ae (some ⟨g,0,none⟩) f.length f.length (some ⟨q,0,none⟩) d.length d.length (some ⟨r,0,none⟩) h.length h.length))/\AO w' w.heap.size (Za g f.length f.length) (Za q d.length d.length) (Za r h.length h.length) C f d h/\(∀x∈C,∃q n c,x=Za q n c)/\Zz w w':=by
 obtain⟨s,z⟩:∃W,W=((w.alloc (.cells (Ys j i given ae a f.length K p d.length M l h.length L) 29)).alloc (.cells Yu 40)).alloc (.cells #[Zg j,Zg i,Zg given,Zg ae,Zc,Zc,Zc] 40):=⟨_,rfl⟩;have E:Hid (Zz w s):=(Bm z).1;have yD:=(Bm z).2.1;have zG:Hid (Aa s w.heap.size (Yt j i given ae a f.length K p d.length M l h.length L)):=(Bm z).2.2.1;have zH:Hid (Aa s (w.heap.size+1) Xw):=(Bm (k:=Xw) z).2.2.2.1
 have zB:Hid (Aa s (w.heap.size+1+1) [Zg j,Zg i,Zg given,Zg ae,Zc,Zc,Zc]):=(Bm (m:=[Zg j,Zg i,Zg given,Zg ae,Zc,Zc,Zc]) z).2.2.2.2;have HR:Hid (∀X,Zz w X->Bv X X.heap.size a p l f d h):=fun X hX=>Q.af hX;have zR:=Yx z;clear z Q;go_enter func18,ntmps18;go_wp2_with fail;rw[←zR.o];clear zR;refine(OP a K f s (HR.o s E.o).k hf.k hf.r).mono ?_;rintro e T ⟨g,rfl,hg,D,A⟩;have z1:=A.size
 obtain⟨B,H⟩:∃X,X=T.setCell (Ze (w.heap.size+1+1) 4) (Za g f.length f.length):=⟨_,rfl⟩;have V:Tn [w.heap.size+1+1] T B:=by rw[H];exact Tn.set _ _ _ _ (by simp)
 have yE:B.heap.size=T.heap.size:=by rw[H];simp
 have Z:=Yx (Aa.same (Aa.below zG.o A) (V.block _ (by omega) (by simp<;>omega)));have zI:Hid (Aa B (w.heap.size+1) Xw):=Aa.same (Aa.below (v:=Zf) zH.o A) (V.block _ (by omega) (by simp<;>omega));have zC:Hid (Aa B (w.heap.size+1+1) (Yt j i given ae (some ⟨g,0,none⟩) f.length f.length none 0 0 none 0 0)):=by have U:=Aa.below zB.o A;show Aa B (w.heap.size+1+1) (Yt j i given ae (some ⟨g,0,none⟩) f.length f.length none 0 0 none 0 0);rw[H];exact U.set 4 _
 have F:Hid (Zz w B):=(E.o.trans (A.mono E.o.size)).trans (V.below (by omega) (by simp<;>omega));obtain⟨C,D⟩:=D.to;have zM:Hid (Hv B s.heap.size g C f):=D.tn V (by simp;omega);have HN:Hid (g<T.heap.size/\∀b∈C.filterMap Value.ownBlock,b<T.heap.size):=⟨(Ac D.ai (g:=g) rfl).2,D.cg⟩;clear D;obtain⟨e1,f1⟩:=Aa.below zB.o A 4 _ rfl;have zS:=Yx H;clear H;go_upto_region 7 with fail;rw[←zS.o]
 clear zS e1 f1 A V zG zH zB;obtain⟨y5,_⟩:=Z.o 5 _ rfl;go_wp2_with fail;refine(Qv p M d B (HR.o B F.o).p hf.p).mono ?_;rintro e w2 ⟨q,rfl,hq,zF,u⟩;have z2:=u.size;obtain⟨y,I⟩:∃X,X=w2.setCell (Ze (w.heap.size+1+1) 5) (Za q d.length d.length):=⟨_,rfl⟩;have S:Tn [w.heap.size+1+1] w2 y:=by rw[I];exact Tn.set _ _ _ _ (by simp)
 have yF:y.heap.size=w2.heap.size:=by rw[I];simp
 have zA:=Yx (Aa.same (Aa.below Z.o u) (S.block _ (by omega) (by simp<;>omega)));have zJ:Hid (Aa y (w.heap.size+1) Xw):=Aa.same (Aa.below (v:=Zf) zI.o u) (S.block _ (by omega) (by simp<;>omega));have zE:Hid (Aa y (w.heap.size+1+1) (Yt j i given ae (some ⟨g,0,none⟩) f.length f.length (some ⟨q,0,none⟩) d.length d.length none 0 0)):=by have U:=Aa.below zC.o u;show Aa y (w.heap.size+1+1) (Yt j i given ae (some ⟨g,0,none⟩) f.length f.length (some ⟨q,0,none⟩) d.length d.length none 0 0);rw[I];exact U.set 5 _
 have G:Hid (Zz w y):=(F.o.trans (u.mono F.o.size)).trans (S.below (by omega) (by simp<;>omega));have zN:Hid (Hv y s.heap.size g C f):=(zM.o.below u).tn S (by simp;omega);have zP:Hid (y.ownsRow s.heap.size 137 2 (Za q d.length d.length) d.length (Ab pC d)):=Bn (zF.gp.mono (by omega)) S (by simp;omega);have HQ:Hid (q<w2.heap.size):=(Ac zF.gp (g:=q) rfl).2;clear zF zM y5
 obtain⟨e2,f2⟩:=Aa.below zC.o u 5 _ rfl;have zT:=Yx I;clear I;go_upto_region 8 with fail;rw[←zT.o];clear zT e2 f2 u S Z zI zC;obtain⟨y6,_⟩:=zA.o 6 _ rfl;go_wp2_with fail;refine(Ny l L h y (HR.o y G.o).l hf.l).mono ?_;rintro e w3 ⟨r,rfl,hr,zV,o⟩;have z3:=o.size;obtain⟨t,J⟩:∃X,X=w3.setCell (Ze (w.heap.size+1+1) 6) (Za r h.length h.length):=⟨_,rfl⟩
 have N:Tn [w.heap.size+1+1] w3 t:=by rw[J];exact Tn.set _ _ _ _ (by simp)
 have yG:t.heap.size=w3.heap.size:=by rw[J];simp
 have yC:=Yx (Aa.same (Aa.below zA.o o) (N.block _ (by omega) (by simp<;>omega)));have zK:Hid (Aa t (w.heap.size+1) Xw):=Aa.same (Aa.below (v:=Zf) zJ.o o) (N.block _ (by omega) (by simp<;>omega));have zX:Hid (Aa t (w.heap.size+1+1) (Yt j i given ae (some ⟨g,0,none⟩) f.length f.length (some ⟨q,0,none⟩) d.length d.length (some ⟨r,0,none⟩) h.length h.length)):=by have U:=Aa.below zE.o o;show Aa t (w.heap.size+1+1) (Yt j i given ae (some ⟨g,0,none⟩) f.length f.length (some ⟨q,0,none⟩) d.length d.length (some ⟨r,0,none⟩) h.length h.length);rw[J];exact U.set 6 _
 have O:Hid (Zz w t):=(G.o.trans (o.mono G.o.size)).trans (N.below (by omega) (by simp<;>omega));have zO:Hid (Hv t s.heap.size g C f):=(zN.o.below o).tn N (by simp;omega);have zZ:Hid (t.ownsRow s.heap.size 137 2 (Za q d.length d.length) d.length (Ab pC d)):=Bn (Ae zP.o o) N (by simp;omega)
 have zY:Hid (t.ownsRow s.heap.size 139 3 (Za r h.length h.length) h.length (Ab lC h)):=Bn (zV.gp.mono (by omega)) N (by simp;omega);clear zV zN zP y6;obtain⟨e3,f3⟩:=Aa.below zE.o o 6 _ rfl;have zU:=Yx J;clear J;go_upto_region 9 with fail;rw[←zU.o];clear zU e3 f3 o N zA zJ zE
 obtain⟨W4,R⟩:∃X,X=t.setCells (w.heap.size+1) 0 (Yt j i given ae (some ⟨g,0,none⟩) f.length f.length (some ⟨q,0,none⟩) d.length d.length (some ⟨r,0,none⟩) h.length h.length):=⟨_,rfl⟩;have Y:Tn [w.heap.size+1] t W4:=by rw[R];exact AP _ _ _ _
 have x4:Aa W4 (w.heap.size+1) (Yt j i given ae (some ⟨g,0,none⟩) f.length f.length (some ⟨q,0,none⟩) d.length d.length (some ⟨r,0,none⟩) h.length h.length):=by rw[R];exact zK.o.ba _ rfl
 have HS:Hid (AO W4 w.heap.size (Za g f.length f.length) (Za q d.length d.length) (Za r h.length h.length) C f d h):=(((zO.o.tn Y (by simp;omega)).gp (n1:=T.heap.size) HN.o.1 HN.o.2 (by omega) (by have:=HQ.o;omega) (Bn zZ.o Y (by simp;omega)) (Bn zY.o Y (by simp;omega))).mono (by omega));have zW:Hid (Zz w W4):=O.o.trans (Y.below O.o.size (by simp))
 have P:((Ys j i given ae (some ⟨g,0,none⟩) f.length f.length (some ⟨q,0,none⟩) d.length d.length (some ⟨r,0,none⟩) h.length h.length):Array Value).all (·.oneCell')=true:=by simp[Value.oneCell']
 have HI:=Yx (Zn P zK.o.there);have yB:=Yx x4;have yA:=Yx R;clear P x4 R Y;go_wp2_with (first
  |refine wpList_load_mid rfl 40 _ rfl (w.heap.size+1+1) 0 rfl (Yt j i given ae (some ⟨g,0,none⟩) f.length f.length (some ⟨q,0,none⟩) d.length d.length (some ⟨r,0,none⟩) h.length h.length) _ zX.o.range underlying40 rfl (by kernel_rfl) ?_
  |refine wpList_store_mid rfl 40 _ _ rfl (w.heap.size+1) 0 (Ys j i given ae (some ⟨g,0,none⟩) f.length f.length (some ⟨q,0,none⟩) d.length d.length (some ⟨r,0,none⟩) h.length h.length) rfl rfl HI.o.2 (by kernel_rfl) HI.o.1 ?_)
 rw[←yA.o];refine bodyPost_ret (BN results18 _ _ (w.heap.size+1) (Yt j i given ae (some ⟨g,0,none⟩) f.length f.length (some ⟨q,0,none⟩) d.length d.length (some ⟨r,0,none⟩) h.length h.length) _ rfl (Aa.range yB.o) underlying40 rfl (by kernel_rfl)) rfl ?_;exact⟨g,q,r,C,rfl,HS.o,zO.o.sm,zW.o⟩
def vN:Vd:=⟨0,0,[],[],0,0,0,0,[],[],[],0,[],[],0,0,0⟩
def vZ(v:Vd):Vd:={vN with wd:=v.wd,ak:=v.ak}
def vY(v:Vd):Vd:={v with ph:=0,ag:=0,at_:=0,ro:=0}
theorem PC(v:Vd)(a:Va)(w:Zh)(hr:BR w w.heap.size a v)(hf:Cr v):
 Calls prog 6 #[.agg (Yi v a)] w fun e w'=>∃g k h i j o p H,e=.returned (.agg (BS v (Za g v.ss.length v.ss.length) (Za k v.tt.length v.tt.length) (Za h v.ks.length v.ks.length) (Za i v.ps.length v.ps.length) (Za j v.ls.length v.ls.length) (Za o v.qs.length v.qs.length) (Za p v.ms.length v.ms.length)).toArray)/\AL w' w.heap.size (Za g v.ss.length v.ss.length) (Za k v.tt.length v.tt.length) (Za h v.ks.length v.ks.length) (Za i v.ps.length v.ps.length) (Za j v.ls.length v.ls.length) (Za o v.qs.length v.qs.length) (Za p v.ms.length v.ms.length) H v/\(∀x∈H,∃q n c,x=Za q n c)/\Zz w w':=by
 obtain⟨z,I⟩:∃W,W=((w.alloc (.cells (Yi v a) 33)).alloc (.cells Ya 43)).alloc (.cells #[Zg v.wd,Zg v.ak,Zc,Zc,Zf,Zf,Zf,Zf,Zc,Zc,Zc,Zf,Zc,Zc,Zf,Zf,Zf] 43):=⟨_,rfl⟩;have E:Hid (Zz w z):=(Bm I).1;have xE:=(Bm I).2.1
 have zE:Hid (Aa z w.heap.size (BS v (.slice a.sa v.ss.length a.sc) (.slice a.ta v.tt.length a.tc) (.slice a.ka v.ks.length a.kc) (.slice a.pa v.ps.length a.pc) (.slice a.la v.ls.length a.lc) (.slice a.qa v.qs.length a.qc) (.slice a.ma v.ms.length a.mc))):=(Bm (l:=(BS v (.slice a.sa v.ss.length a.sc) (.slice a.ta v.tt.length a.tc) (.slice a.ka v.ks.length a.kc) (.slice a.pa v.ps.length a.pc) (.slice a.la v.ls.length a.lc) (.slice a.qa v.qs.length a.qc) (.slice a.ma v.ms.length a.mc))) I).2.2.1
 have zF:Hid (Aa z (w.heap.size+1) (BS vN Zc Zc Zc Zc Zc Zc Zc)):=(Bm (l:=(BS v (.slice a.sa v.ss.length a.sc) (.slice a.ta v.tt.length a.tc) (.slice a.ka v.ks.length a.kc) (.slice a.pa v.ps.length a.pc) (.slice a.la v.ls.length a.lc) (.slice a.qa v.qs.length a.qc) (.slice a.ma v.ms.length a.mc))) (k:=(BS vN Zc Zc Zc Zc Zc Zc Zc)) I).2.2.2.1
 have Z:Hid (Aa z (w.heap.size+1+1) (BS (vZ v) Zc Zc Zc Zc Zc Zc Zc)):=(Bm (l:=(BS v (.slice a.sa v.ss.length a.sc) (.slice a.ta v.tt.length a.tc) (.slice a.ka v.ks.length a.kc) (.slice a.pa v.ps.length a.pc) (.slice a.la v.ls.length a.lc) (.slice a.qa v.qs.length a.qc) (.slice a.ma v.ms.length a.mc))) (k:=(BS vN Zc Zc Zc Zc Zc Zc Zc)) (m:=(BS (vZ v) Zc Zc Zc Zc Zc Zc Zc)) I).2.2.2.2
 have HR:Hid (∀X,Zz w X->BR X X.heap.size a v):=fun X hX=>hr.af hX;have zR:=Yx I;clear I hr;go_enter func6,ntmps6;go_wp2_with fail;rw[←zR.o];clear zR;refine(TC a.sa a.ta a.sc a.tc v.ss v.tt z (HR.o z E.o).s (HR.o z E.o).t hf.s hf.t).mono ?_;rintro e w1 ⟨g,k,rfl,_,zV,zY,O,D⟩;have z1:=D.size
 obtain⟨A,Q⟩:∃X,X=((w1.setCell (Ze (w.heap.size+1+1) 2) (Za g v.ss.length v.ss.length)).setCell (Ze (w.heap.size+1+1) 3) (Za k v.tt.length v.tt.length)):=⟨_,rfl⟩;have t1:Tn [w.heap.size+1+1] w1 A:=by rw[Q];exact(Tn.set _ _ _ _ (by simp)).trans (Tn.set _ _ _ _ (by simp))
 have xD:A.heap.size=w1.heap.size:=by rw[Q];simp
 have r:=Yx (Aa.same (Aa.below zE.o D) (t1.block _ (by omega) (by simp<;>omega)));have zG:=Yx (Aa.same (Aa.below zF.o D) (t1.block _ (by omega) (by simp<;>omega)));have s:Hid (Aa A (w.heap.size+1+1) (BS (vZ v) (Za g v.ss.length v.ss.length) (Za k v.tt.length v.tt.length) Zc Zc Zc Zc Zc)):=by have K:=Aa.below Z.o D;show Aa A (w.heap.size+1+1) (BS (vZ v) (Za g v.ss.length v.ss.length) (Za k v.tt.length v.tt.length) Zc Zc Zc Zc Zc);rw[Q];exact((K.set 2 _).set 3 _)
 have N:Hid (Zz w A):=(E.o.trans (D.mono E.o.size)).trans (t1.below (by omega) (by simp<;>omega));have zJ:Hid (A.ownsRow z.heap.size 9 1 (Za g v.ss.length v.ss.length) v.ss.length (v.ss.map Value.string)):=Bn zY t1 (by simp;omega);have zN:Hid (A.ownsRow z.heap.size 9 1 (Za k v.tt.length v.tt.length) v.tt.length (v.tt.map Value.string)):=Bn O t1 (by simp;omega)
 have HN:Hid (g<k/\k<w1.heap.size):=⟨zV,(Ac O (g:=k) rfl).2⟩;clear zY O zV;obtain⟨e2,f2⟩:=Aa.below Z.o D 2 _ rfl;obtain⟨e3,f3⟩:=Aa.below Z.o D 3 _ rfl;have zS:=Yx Q;clear Q;go_upto_region 5 with fail;rw[←zS.o];clear zS e2 f2 e3 f3 D t1 zE zF Z;obtain⟨y4,_⟩:=r.o 4 _ rfl;obtain⟨y5,_⟩:=r.o 5 _ rfl;obtain⟨y6,_⟩:=r.o 6 _ rfl;obtain⟨y7,_⟩:=r.o 7 _ rfl;obtain⟨y8,_⟩:=r.o 8 _ rfl;obtain⟨y9,_⟩:=r.o 9 _ rfl
 obtain⟨yW,_⟩:=r.o 10 _ rfl;go_wp2_with fail;refine(PB v.sw v.now v.given v.ae a.ka a.pa a.la a.kc a.pc a.lc v.ks v.ps v.ls A (HR.o A N.o).st hf.st).mono ?_;rintro e V ⟨h,i,j,H,rfl,zB,zZ,d⟩;have z2:=d.size
 obtain⟨t,R⟩:∃X,X=(((((((V.setCell (Ze (w.heap.size+1+1) 4) (Zg v.sw)).setCell (Ze (w.heap.size+1+1) 5) (Zg v.now)).setCell (Ze (w.heap.size+1+1) 6) (Zg v.given)).setCell (Ze (w.heap.size+1+1) 7) (Zg v.ae)).setCell (Ze (w.heap.size+1+1) 8) (Za h v.ks.length v.ks.length)).setCell (Ze (w.heap.size+1+1) 9) (Za i v.ps.length v.ps.length)).setCell (Ze (w.heap.size+1+1) 10) (Za j v.ls.length v.ls.length)):=⟨_,rfl⟩
 have U:Tn [w.heap.size+1+1] V t:=by rw[R];exact((((((Tn.set _ _ _ _ (by simp)).trans (Tn.set _ _ _ _ (by simp))).trans (Tn.set _ _ _ _ (by simp))).trans (Tn.set _ _ _ _ (by simp))).trans (Tn.set _ _ _ _ (by simp))).trans (Tn.set _ _ _ _ (by simp))).trans (Tn.set _ _ _ _ (by simp))
 have xF:t.heap.size=V.heap.size:=by rw[R];simp
 have B:=Yx (Aa.same (Aa.below r.o d) (U.block _ (by omega) (by simp<;>omega)));have zH:=Yx (Aa.same (Aa.below zG.o d) (U.block _ (by omega) (by simp<;>omega)));have C:Hid (Aa t (w.heap.size+1+1) (BS (vY v) (Za g v.ss.length v.ss.length) (Za k v.tt.length v.tt.length) (Za h v.ks.length v.ks.length) (Za i v.ps.length v.ps.length) (Za j v.ls.length v.ls.length) Zc Zc)):=by
  have K:=Aa.below s.o d;show Aa t (w.heap.size+1+1) (BS (vY v) (Za g v.ss.length v.ss.length) (Za k v.tt.length v.tt.length) (Za h v.ks.length v.ks.length) (Za i v.ps.length v.ps.length) (Za j v.ls.length v.ls.length) Zc Zc);rw[R];exact(((((((K.set 4 _).set 5 _).set 6 _).set 7 _).set 8 _).set 9 _).set 10 _)
 have F:Hid (Zz w t):=(N.o.trans (d.mono N.o.size)).trans (U.below (by omega) (by simp<;>omega));have zK:Hid (t.ownsRow z.heap.size 9 1 (Za g v.ss.length v.ss.length) v.ss.length (v.ss.map Value.string)):=Bn (Ae zJ.o d) U (by simp;omega);have zO:Hid (t.ownsRow z.heap.size 9 1 (Za k v.tt.length v.tt.length) v.tt.length (v.tt.map Value.string)):=Bn (Ae zN.o d) U (by simp;omega)
 have zM:Hid (AO t A.heap.size (Za h v.ks.length v.ks.length) (Za i v.ps.length v.ps.length) (Za j v.ls.length v.ls.length) H v.ks v.ps v.ls):=zB.an U (by simp;omega);have yC:Hid (∀b∈Bb (Za h v.ks.length v.ks.length) (Za i v.ps.length v.ps.length) (Za j v.ls.length v.ls.length) H,b<V.heap.size):=zB.cg;have yE:=Yx zZ;clear zB zZ zJ zN y4 y5 y6 y7 y8 y9 yW;obtain⟨e4,f4⟩:=Aa.below s.o d 4 _ rfl
 obtain⟨e5,f5⟩:=Aa.below s.o d 5 _ rfl;obtain⟨e6,f6⟩:=Aa.below s.o d 6 _ rfl;obtain⟨e7,f7⟩:=Aa.below s.o d 7 _ rfl;obtain⟨e8,f8⟩:=Aa.below s.o d 8 _ rfl;obtain⟨e9,f9⟩:=Aa.below s.o d 9 _ rfl;obtain⟨yH,yO⟩:=Aa.below s.o d 10 _ rfl;have zT:=Yx R;clear R;go_upto_region 6 with fail;rw[←zT.o];clear zT e4 f4 e5 f5 e6 f6 e7 f7 e8 f8 e9 f9 yH yO d U r zG s;obtain⟨yX,_⟩:=B.o 11 _ rfl
 obtain⟨yY,_⟩:=B.o 12 _ rfl;obtain⟨yZ,_⟩:=B.o 13 _ rfl;obtain⟨xA,_⟩:=B.o 14 _ rfl;obtain⟨xB,_⟩:=B.o 15 _ rfl;obtain⟨xC,_⟩:=B.o 16 _ rfl;go_wp2_with fail;refine(Pw v.ph v.ag v.at_ v.ro a.qa a.ma a.qc a.mc v.qs v.ms t (HR.o t F.o).q (HR.o t F.o).m hf.r).mono ?_;rintro e w3 ⟨o,p,rfl,_,zW,zC,P,f⟩;have z3:=f.size
 obtain⟨u,S⟩:∃X,X=((((((w3.setCell (Ze (w.heap.size+1+1) 11) (Zg v.ph)).setCell (Ze (w.heap.size+1+1) 12) (Za o v.qs.length v.qs.length)).setCell (Ze (w.heap.size+1+1) 13) (Za p v.ms.length v.ms.length)).setCell (Ze (w.heap.size+1+1) 14) (Zg v.ag)).setCell (Ze (w.heap.size+1+1) 15) (Zg v.at_)).setCell (Ze (w.heap.size+1+1) 16) (Zg v.ro)):=⟨_,rfl⟩
 have L:Tn [w.heap.size+1+1] w3 u:=by rw[S];exact(((((Tn.set _ _ _ _ (by simp)).trans (Tn.set _ _ _ _ (by simp))).trans (Tn.set _ _ _ _ (by simp))).trans (Tn.set _ _ _ _ (by simp))).trans (Tn.set _ _ _ _ (by simp))).trans (Tn.set _ _ _ _ (by simp))
 have xG:u.heap.size=w3.heap.size:=by rw[S];simp
 have yA:=Yx (Aa.same (Aa.below B.o f) (L.block _ (by omega) (by simp<;>omega)));have zA:=Yx (Aa.same (Aa.below zH.o f) (L.block _ (by omega) (by simp<;>omega)))
 have zI:Hid (Aa u (w.heap.size+1+1) (BS v (Za g v.ss.length v.ss.length) (Za k v.tt.length v.tt.length) (Za h v.ks.length v.ks.length) (Za i v.ps.length v.ps.length) (Za j v.ls.length v.ls.length) (Za o v.qs.length v.qs.length) (Za p v.ms.length v.ms.length))):=by
  have K:=Aa.below C.o f;show Aa u (w.heap.size+1+1) (BS v (Za g v.ss.length v.ss.length) (Za k v.tt.length v.tt.length) (Za h v.ks.length v.ks.length) (Za i v.ps.length v.ps.length) (Za j v.ls.length v.ls.length) (Za o v.qs.length v.qs.length) (Za p v.ms.length v.ms.length));rw[S];exact((((((K.set 11 _).set 12 _).set 13 _).set 14 _).set 15 _).set 16 _)
 have Y:Hid (Zz w u):=(F.o.trans (f.mono F.o.size)).trans (L.below (by omega) (by simp<;>omega));have M:AL u z.heap.size (Za g v.ss.length v.ss.length) (Za k v.tt.length v.tt.length) (Za h v.ks.length v.ks.length) (Za i v.ps.length v.ps.length) (Za j v.ls.length v.ls.length) (Za o v.qs.length v.qs.length) (Za p v.ms.length v.ms.length) H v:=
  (AL.of (n1:=w1.heap.size) (n2:=V.heap.size) (Ao.own (Bn (Ae zK.o f) L (by simp;omega))) (Ao.own (Bn (Ae zO.o f) L (by simp;omega))) (fun b K h2=>by cases K;cases h2;exact absurd HN.o.1 (Nat.lt_irrefl _)) (fun b y=>by have hN:=HN.o;rcases y with y|y<;>cases y;exact Nat.lt_trans hN.1 hN.2;exact hN.2) (xD▸(zM.o.below f).an L (by simp;omega)) (by omega) yC.o (Ao.own ((Bn zC L (by simp;omega)).mono (by omega))) (Ao.own ((Bn P L (by simp;omega)).mono (by omega))) (fun b y=>by have q1:=(Ac zC (g:=o) rfl).1;have q2:=(Ac P (g:=p) rfl).1;rcases y with y|y<;>cases y;(show V.heap.size<=o;omega);(show V.heap.size<=p;omega)) (by omega) (fun b K h2=>by cases K;cases h2;exact absurd zW (Nat.lt_irrefl _)))
 have zP:Hid (AL u w.heap.size (Za g v.ss.length v.ss.length) (Za k v.tt.length v.tt.length) (Za h v.ks.length v.ks.length) (Za i v.ps.length v.ps.length) (Za j v.ls.length v.ls.length) (Za o v.qs.length v.qs.length) (Za p v.ms.length v.ms.length) H v):=M.mono (by omega)
 have yD:Hid (∀b∈Cx (Za g v.ss.length v.ss.length) (Za k v.tt.length v.tt.length) (Za h v.ks.length v.ks.length) (Za i v.ps.length v.ps.length) (Za j v.ls.length v.ls.length) (Za o v.qs.length v.qs.length) (Za p v.ms.length v.ms.length) H,w.heap.size+1<b):=fun b y=>by have:=M.lo b y;omega
 clear M zC P zW zK zO zM yX yY yZ xA xB xC;obtain⟨yI,yP⟩:=Aa.below C.o f 11 _ rfl;obtain⟨yJ,yQ⟩:=Aa.below C.o f 12 _ rfl;obtain⟨yK,yR⟩:=Aa.below C.o f 13 _ rfl;obtain⟨yL,yS⟩:=Aa.below C.o f 14 _ rfl;obtain⟨yM,yT⟩:=Aa.below C.o f 15 _ rfl;obtain⟨yN,yU⟩:=Aa.below C.o f 16 _ rfl;have zU:=Yx S;clear S;go_upto_region 7 with fail;rw[←zU.o];clear zU yI yP yJ yQ yK yR yL yS yM yT yN yU f L B zH C
 obtain⟨W4,T⟩:∃X,X=u.setCells (w.heap.size+1) 0 (BS v (Za g v.ss.length v.ss.length) (Za k v.tt.length v.tt.length) (Za h v.ks.length v.ks.length) (Za i v.ps.length v.ps.length) (Za j v.ls.length v.ls.length) (Za o v.qs.length v.qs.length) (Za p v.ms.length v.ms.length)).toArray.toList:=⟨_,rfl⟩;have t4:Tn [w.heap.size+1] u W4:=by rw[T];exact AP _ _ _ _
 have x4:Aa W4 (w.heap.size+1) (BS v (Za g v.ss.length v.ss.length) (Za k v.tt.length v.tt.length) (Za h v.ks.length v.ks.length) (Za i v.ps.length v.ps.length) (Za j v.ls.length v.ls.length) (Za o v.qs.length v.qs.length) (Za p v.ms.length v.ms.length)):=by rw[T];exact zA.o.ba _ rfl
 have HV:Hid (AL W4 w.heap.size (Za g v.ss.length v.ss.length) (Za k v.tt.length v.tt.length) (Za h v.ks.length v.ks.length) (Za i v.ps.length v.ps.length) (Za j v.ls.length v.ls.length) (Za o v.qs.length v.qs.length) (Za p v.ms.length v.ms.length) H v):=zP.o.stays t4 (fun b y yV=>by have:=yD.o b yV;simp at y;omega);have yB:Hid (Zz w W4):=Y.o.trans (t4.below Y.o.size (by simp))
 obtain⟨G,J⟩:∃G,G=(BS v (Za g v.ss.length v.ss.length) (Za k v.tt.length v.tt.length) (Za h v.ks.length v.ks.length) (Za i v.ps.length v.ps.length) (Za j v.ls.length v.ls.length) (Za o v.qs.length v.qs.length) (Za p v.ms.length v.ms.length)):=⟨_,rfl⟩;have zX:G.toArray.size=17:=by rw[J];rfl
 have HI:Hid (u.there (w.heap.size+1) 0 G.toArray.size/\∀x∈G,x.oneCell'=true):=⟨by rw[zX];exact zA.o.there,by rw[J];simp[BS,Value.oneCell']⟩;have HL:Hid (G.length=17):=by show G.length=17;rw[J];rfl
 have HC:Hid (Aa u (w.heap.size+1+1) G):=J▸zI.o;rw[←J]at x4 T;have yG:=Yx x4;have yF:=Yx T;have HE:=Yx J;clear zX J x4 T t4 zI zA yA zP;go_wp2_with (first
  |refine wpList_load_mid rfl 43 _ rfl (w.heap.size+1+1) 0 rfl G _ HC.o.range underlying43 rfl (by rw[HL.o];kernel_rfl) ?_
  |refine wpList_store_mid rfl 43 _ _ rfl (w.heap.size+1) 0 G.toArray rfl rfl HI.o.1 (by rw[List.size_toArray,HL.o];kernel_rfl) (all_oneCell_toArray HI.o.2) ?_)
 rw[←yF.o];refine bodyPost_ret (BN results6 _ _ (w.heap.size+1) G _ rfl (Aa.range yG.o) underlying43 rfl (by rw[HL.o];kernel_rfl)) rfl ?_;exact⟨g,k,h,i,j,o,p,by rw[HE.o],H,HV.o,yE.o,yB.o⟩
end Go.Proofs.YtdgblkklkaklhaaGreatDoor
