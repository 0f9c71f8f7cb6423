import Derived.Test.YtfehblndlffcmaaGreatDoorX32
import Derived.Test.YtfehblndlffcmaaGreatDoorX21
set_option maxRecDepth 100000
set_option maxHeartbeats 16000000
open Option renaming some->an,none->ba
open Bool renaming true->bg,false->bq
open Go.RowKit renaming Below->bs
open Decidable renaming decide->bx
open Go.Obj renaming cells->ca
open Go.Value renaming slice->cr,agg->ct,bool->ef
open Or renaming inl->dp,inr->eb
open Go.Ground renaming data->ed
open List renaming length->eh,toArray->ei
open Go.World renaming cell?->ek,grownBy->ep,setCell->ev
namespace Go.Proofs.YtfehblndlffcmaaGreatDoor
open ChangeShapes WideShapes ChangeAt RowKit _root_.Go.Proofs.Tryz List World Value
variable{b n c q g:Nat}{a:Zk}{p:Int}{w X Y:Zh}{u v:Vd}{r:Rs}
section
structure FI (w X:Zh) (b:Nat) (a:Zk) (n c:Nat) (p:Int) (q:Nat) (S:Value) (ss:Zl):Prop where
 box:Aa X q [S,Zb]
 ow:Ak X (w.1.size+1) S ss
 ap:∀g,Al S=an g->g≠q
 z:Aa X w.1.size AU
 rd:AB X b a n c p
 gr:ep w X (an b)
 lt:w.1.size<q
 sz:∀s∈ss,s.size<=5000
theorem FI.go{f:Int}{S:D4}{i:Zl}(h:FI w X b a n c p q S i)(d:ep X Y (an b))(l:AB Y b a n c f)(m:b<w.1.size):FI w Y b a n c f q S i:=by have k:=h.lt;exact⟨h.box.au d Yv,h.ow.S (Tn.grown (V:=[b]) d Yu) (λg e j=>by have:=(h.ow.bh e).1;simp at j;omega),h.ap,h.z.au d Yv,l,Ai h.gr d,k,h.sz⟩
theorem FI.A{S:D4}{e:Zl}(h:FI w X b a n c p q S e)(d:Zz X Y)(f:b<w.1.size):FI w Y b a n c p q S e:=h.go (Af _ d) (h.rd.A d) f
theorem FI.push{S:D4}{d:Zl}(h:FI w X b a n c p q S d)(B:b<w.1.size)(t:Zi)(A:t.size<=5000)(C:eh d<=60000):
 ∃i j Y,(Builtin.append_ #[23,23] 23 #[S,Yz X.1.size 1 1]).run prog (X.alloc (ca #[C4 t] 9))=.ok (C3 i (eh d+1) j) Y/\Aa Y q [S,Zb]/\FI w (ev Y (Zd q 0) (C3 i (eh d+1) j)) b a n c p q (C3 i (eh d+1) j) (d++[t]):=by
 have y:=h.lt;have o:=h.box.lt;have⟨i,j,Y,r,u,l,v,x⟩:=MG X (w.1.size+1) q 0 S d t h.ow h.ap o Yv Yv;have k:∀g∈q::(Al S).toList,w.1.size<g:=λg f=>by
  rcases Cf.1 f with e|e
  .omega
  exact(h.ow.bh (By.1 e)).1
 have m:=Aa.same h.box u;refine⟨i,j,Y,r,m,m.set 0 _,v,λg e=> ?_,Aa.same h.z (l.block _ h.z.lt (λe=>Dl (k _ e))),h.rd.S l (λg f=>Dl (k g f)) (λe=>Dl (k _ e)),Cs h.gr l (λg f=> dp (Dl (k g f))),y,λs z=> ?_⟩
 .rcases x g e with f|f
  .exact h.ap g f
  omega
 rcases Bw.1 z with e|e
 .exact h.sz s e
 rw[mem_singleton.1 e];exact A
def Qw(q m:Nat)(w:Zh):Nat:=match ek w (Zd q 0)with
 |some (cr _ n _)=>m -n
 |_=>0
theorem Bc.off{w':Zh}{a:Va}{o:Nat}(h:Bc w w.1.size a u)(c:FP w o)(d:Tn [o] w w'):Bc w' w'.1.size a u/\∀A,a.Q=an A->FY w A u.B->FY w' A u.B:=
 have f:∀{b:Zk} {ss:Zl},Ab w w.1.size b ss->Ab w' w'.1.size b ss:=λh=>h.off (n:=0) (λ_ _=>Aq _) c d Yu
 ⟨⟨f h.s,f h.t,(h.st.off c d).1,f h.q,f h.m⟩,(h.st.off c d).2⟩
theorem FP.set{c a:Zj}(h:FP X g)(e:Aa X g c)(i:eh a=eh c)(l:∀v∈a,∀s,v≠C4 s):FP (X.setCells g 0 a) g:=λk s b=>by
 rcases Cg k (eh a) with d|d
 .have:=cell?_setCells_in g a 0 X (λj f=>by rw[Ay,(e j _ (Zv Yv)).1];rfl) k d;rw[Ay]at this;rw[this]at b;exact gA
 rw[cell?_setCells_out g a 0 X _ (λ_ _=> eb Yt)]at b;exact h k s b
structure VSx (u:Vd) (a:Va):Prop where
 fit:Dz u
 st:Ic u.B u.ps u.ls
 cap:Kv a u
 p:a.L=ba->a.P=0
 l:a.K=ba->a.O=0
 q:Dy a.Z (eh u.H) a.y
 m:Dy a.g (eh u.ms) a.j
 rq:eh u.H<=60000/\eh u.ms<=60000
 C:eh u.C<=a.T
 cz:∀k∈u.B,eh k.D<=30
def VG(p:Nat->Prop)(X:Zh)(cs:Zj):Prop:=∃(u:Vd) (a:Va),cs=Bd u (cr a.Y (eh u.ss) a.sc) (cr a.V (eh u.C) a.T) (cr a.Q (eh u.B) a.W) (cr a.L (eh u.ps) a.P) (cr a.K (eh u.ls) a.O) (cr a.Z (eh u.H) a.y) (cr a.g (eh u.ms) a.j)/\VSx u a/\∀V Y,(∀g∈V,p g)->Tn V X Y->Bc Y Y.1.size a u/\∀A,a.Q=an A->FY Y A u.B
theorem CS.vg{p:Nat->Prop}{g:Zj}(h:CS p w g):VG p w g:=by have⟨u,a,c,e,d⟩:=h.fix;have b:=(d [] w Yu (Tn.of Ae)).2;have:=c.rq;exact⟨u,a,e,⟨c.fit,c.st,b.cap,b.p,b.l,b.q,b.m,Yv,b.t.1,λk f=>(c.sm k f).2.1⟩,λV Y f hT=>⟨(d V Y f hT).1,(d V Y f hT).2.k⟩⟩
theorem VG.S{p:Nat->Prop}{d:Zh}{c:Zj}(h:VG p w c){V:List Nat}(l:Tn V w d)(k:∀b∈V,p b):VG p d c:=by obtain⟨u,a,e,i,j⟩:=h;exact⟨u,a,e,i,λg X f hT=>j (V++g) X (λb g=>(Bw.1 g).elim (k b) (f b)) ((l.ai gA).ag (hT.ai gA))⟩
theorem VG.A{p:Nat->Prop}{b:Zh}{a:Zj}(h:VG p w a)(c:Zz w b):VG p b a:=h.S (V:=[]) (Tn.of c) Yu
theorem VG.less{p c:Nat->Prop}{b:Zj}(h:VG p w b)(k:∀g,c g->p g):VG c w b:=by obtain⟨u,a,e,d,f⟩:=h;exact⟨u,a,e,d,λV X i=>f V X (λg j=>k g (i g j))⟩
theorem VG.add{p:Nat->Prop}{c:Zj}(h:VG p X c)(v:FP X g)(z:g<X.1.size):VG (λx=>p x\/x=g) X c:=by
 obtain⟨u,a,e,n,o⟩:=h;refine⟨u,a,e,n,λV Y t hT=> ?_⟩;have A:g<Y.1.size:=gC;have b:({Y with heap:=Y.1.setIfInBounds g X.1[g]}:Zh).1[g]?=X.1[g]?:=gA;have j:∀i,i≠g->({Y with heap:=Y.1.setIfInBounds g X.1[g]}:Zh).1[i]?=Y.1[i]?:=gG;obtain⟨q,y⟩:=o (V.filter (·≠g)) {Y with heap:=Y.1.setIfInBounds g X.1[g]} (λx w=>by
  obtain⟨d,r⟩:=B6.1 w;exact(t x d).resolve_right gA) ⟨hT.os,hT.tape,hT.output,D2 hT.size,λi f m=>by
   by_cases hig:i=g
   .rw[hig];exact b
   exact(j i hig).ag (hT.block i f (λl=>m (B6.2 ⟨l,D2 hig⟩)))⟩
 have m:FP ({Y with heap:=Y.1.setIfInBounds g X.1[g]}:Zh) g:=λk s l=>v k s ((cell?_of_block (a:=⟨g,k,ba⟩) b).symm.ag l);obtain⟨d,r⟩:=q.off m (w':=Y) ⟨rfl,rfl,rfl,Yu,λi _ f=>(j i gA).symm⟩;exact gA
theorem VG.sd{p:Nat->Prop}{cs:Zj}(h:VG p w cs):Is p w cs:=λV X d hT=>by obtain⟨u,a,e,b,c⟩:=h;exact⟨u,a,e,(c V X d hT).1,b.cap,b.fit,b.C⟩
theorem VG.noS{p:Nat->Prop}{b:Zj}(h:VG p w b):∀v∈b,∀s,v≠C4 s:=by obtain⟨u,a,rfl,_⟩:=h;simp[Bd]
theorem VG.round{p:Nat->Prop}{a:Va}(b:VSx u a)(h:∀V Y,(∀g∈V,p g)->Tn V X Y->Bc Y Y.1.size a u/\∀A,a.Q=an A->FY Y A u.B){ph top at_ ro:Int}{qa ma:Zk}{qc mc:Nat}{qs ms:Zl}(i:Dy qa (eh qs) qc)(d:Dy ma (eh ms) mc)(f:eh qs<=60000/\eh ms<=60000)(e:∀V Y,(∀g∈V,p g)->Tn V X Y->Ab Y Y.1.size qa qs/\Ab Y Y.1.size ma ms):
 VG p X ([Zg u.wd,Zg u.lim,C3 a.Y (eh u.ss) a.sc,C3 a.V (eh u.C) a.T,Zg u.J,Zg u.F,Zg u.G,Zg u.E,C3 a.Q (eh u.B) a.W,C3 a.L (eh u.ps) a.P,C3 a.K (eh u.ls) a.O]++((Xu ph qa (eh qs) qc ma (eh ms) mc top at_ ro)++[])):=
 ⟨{u with I:=ph,H:=qs,ms:=ms,N:=top,M:=at_,ro:=ro},{a with Z:=qa,y:=qc,g:=ma,j:=mc},rfl,⟨⟨b.fit.s,b.fit.t,b.fit.ss,b.fit.C,b.fit.st,⟨by show eh qs<=_;omega,by show eh ms<=_;omega⟩⟩,b.st,⟨b.cap.s,b.cap.t,d.1⟩,b.p,b.l,i,d,f,b.C,b.cz⟩,λV Y c hT=>⟨⟨(h V Y c hT).1.s,(h V Y c hT).1.t,(h V Y c hT).1.st,(e V Y c hT).1,(e V Y c hT).2⟩,(h V Y c hT).2⟩⟩
end
theorem XW(b:Nat)(a:Zk)(n c:Nat)(p:Int)(w:Zh)(h:AB w b a n c p)(hp:0<=p)(vL:p<=600000):
 D8 39 #[Yy b] w (YS w b a n c p 50000):=by
 obtain⟨M,W,hW⟩:=h.lt,D6 w Xo 34;have bW:=(Ax hW).1;have zV:Hid (W.1.size=w.1.size+1):=(Ax hW).2.1;have HZ:Hid (Aa W w.1.size AU):=(Ax (l:=AU) hW).2.2;have HR:Hid (AB W b a n c p/\ep w W (an b)):=⟨h.A bW,Af _ bW⟩;have HW:=Yw hW;clear hW bW h;delta D8;go_in;go_upto_region 1 with fail;rw[<-HW.o];clear HW;have⟨A,hA⟩:=D6 W #[Zg 8,Zg 1] 3;obtain⟨bA,zA,cA⟩:=Ax (l:=[Zg 8,Zg 1]) hA;have HP:=Yw (AE 2 (HR.1.A bA) hp Yv Yv Yv);have yG:Hid (ep w A (an b)/\Aa A w.1.size AU):=⟨Ai HR.2 (Af _ bA),Aa.A (v:=Ze) HZ bA⟩;subst hA;go_wp2_with fail;refine HP.Aj ?_;rintro e X ⟨x',rfl,x0,x1,yN,zS⟩;obtain⟨j,rfl⟩:∃j:Nat,x'=j:=⟨x'.toNat,Yv⟩;obtain⟨⟨wd,hv⟩,xP,X1,yK⟩:=Eg (cA.au zS (Dl zV.o)) Yu (j:=j) Yt,zS.size,D6 X #[Zb,Zb] 25;obtain⟨bX,_,cX⟩:=Ax (l:=[Zb,Zb]) yK;have yD:Hid (FI w X1 b a n c (p+1) X.1.size Zb []):=⟨cX,Ak.nil _ _,λg e=>by simp[Al]at e,Aa.A (v:=Ze) (yG.2.au zS Yv) bX,yN.A bX,Ai yG.1 (Ai zS (Af _ bX)),Dl zV.o,Yu⟩;have vO:w.1.size<X.1.size:=Dl zV.o;have yZ:=Yw yK;simp only[Ao]at xP;clear yK bX cX yN zS HP yG cA bA HR HZ zV;go_upto_block 0 with fail;rw[<-yZ.o];clear yZ hv xP zA;generalize X.1.size=q at *
 clear x0 x1;go_cut [] (λT=>Hid (∃S f,FI w T b a n c (p+1) q S f/\eh f<=4))
 case first=>
  go_wp2;go_loopw [5,6] (λs i wr=>∃(k:Nat) (s5:Zi) (S:D4) (f:Zl),s=C4 s5/\i=Zg k/\k<=4/\Hid (FI w wr b a n c (p+1) q S f/\eh f=k)) (λ_ i _=>4 -(intOf i).toNat)
  case atStart=>exact⟨0,⟨#[]⟩,_,[],rfl,rfl,Yv,yD,rfl⟩
  clear yD;obtain⟨k,s5,S,f,rfl,rfl,xV,r⟩:=hrel;by_cases hk:k<4
  case neg=>have e1:bx ((k:Int)<4)=bq:=decide_eq_false Yv;have HX:Hid (∃S f,FI w wr b a n c (p+1) q S f/\eh f<=4):=⟨S,f,r.1,by rw[r.2];exact xV⟩;clear r;go_wp2;go_meet;exact HX
  have e1:bx ((k:Int)<4)=bg:=decide_eq_true Yv;obtain⟨HD,ua,uc,hU,_⟩:=Yw (Nb 1 k wr Yv Yv Yv),r.1.ow.row;subst hU;go_wp2_with fail;refine HD.Aj ?_;rintro e w4 ⟨s4,rfl,xY,yL⟩;have xU:¬(9223372036854775807<4+s4.size):=Yv;have⟨tx,yP⟩:∃t:Zi,t=⟨#[102,117,108,108]⟩++s4:=⟨_,rfl⟩;have h5:(⟨#[102,117,108,108]⟩:Zi).size=4:=rfl;have vQ:tx.size<=10:=by rw[yP,ByteArray.size_append];omega
  have⟨w5,yQ⟩:=D6 w4 #[C4 (⟨#[102,117,108,108]⟩++s4),Zb] 76;obtain⟨b5,z5,c5⟩:=Ax (l:=[C4 (⟨#[102,117,108,108]⟩++s4),Zb]) yQ;rw[<-yP]at c5;have O:Hid (FI w w5 b a n c (p+1) q (C2 ua f uc) f/\Aa w5 w4.1.size [C4 tx,Zb]):=⟨(r.1.A yL M).A b5 M,c5⟩;have Hl:Hid (eh f=k):=r.2;have yB:Hid (∀Y,bs w4.1.size w5 Y->FI w Y b a n c (p+1) q (C2 ua f uc) f):=λY hY=>(r.1.A yL M).A (b5.ag hY) M;have xA:=Yw yQ;have zI:w4.1.size<w5.1.size:=Yv;clear yQ b5 z5 c5 yL r HD yP e1;go_upto_if 29 with fail;rw[<-xA.o];clear xA h5 xU xY;generalize w4.1.size=g at *
  go_cut [29] (λ_ T=>∃(ra:Zk) (rc:Nat) (rs:Zl),Hid (FI w T b a n c (p+1) q (C2 ua f uc) f/\Aa T g [C4 tx,C2 ra rs rc]/\Ab T T.1.size ra rs/\eh rs<=1))
  case first=>
   by_cases he:s5=⟨#[]⟩
   .have e5:(!s5.toList.isEmpty)=bq:=(by rw[he];simp);rw[e5];go_wp2;go_meet;exact⟨ba,0,[],O.1,O.2,dp rfl,Yu⟩
   have e5:(!s5.toList.isEmpty)=bg:=(by rw[Qh he];rfl);rw[e5];have⟨B,hB⟩:=D7 w5 g 1 (Yz w5.1.size 1 1);have⟨A,hA⟩:=D6 B #[C4 s5] 9;obtain⟨bA,zA,cA⟩:=Ax (l:=[C4 s5]) hA;have zB:B.1.size=w5.1.size:=(by rw[hB];simp);rw[zB]at cA;have xE:Tn [g] w5 B:=(by rw[hB];exact AX _ _ _ _);have cB:Aa B g [C4 tx,Yz w5.1.size 1 1]:=(by rw[hB];exact O.2.set 1 _);obtain⟨y1,f1⟩:=O.2 1 _ rfl;have HE:Hid (FI w A b a n c (p+1) q (C2 ua f uc) f/\Aa A g [C4 tx,Yz w5.1.size 1 1]/\Ab A A.1.size (an ⟨w5.1.size,0,ba⟩) [s5]):=by
    refine⟨yB _ ((xE.A Yv Yu).ag (bA.ai Yv)),Aa.A cB bA,eb ⟨w5.1.size,0,rfl,cA.lt,λi s hs=> ?_⟩⟩;cases i with
    |zero=>cases hs;exact(cA 0 _ rfl).1
    |succ i=>simp at hs
   subst hA hB;clear bA cA xE cB zB zA yB O;go_wp2;go_meet;exact⟨_,1,[s5],HE.1,HE.2.1,HE.2.2,Yu⟩
  clear O yB zI;revert wc;rintro w6 ⟨ra,rc,rs,H6⟩;obtain⟨⟨v0,_⟩,⟨v1,_⟩,yN⟩:=H6.2.1 0 _ rfl,H6.2.1 1 _ rfl,H6.2.2.2;have yT:=Yw (GJ tx rc wd H6.2.2.1 Yv Yo);go_wp2_with fail;refine yT.Aj ?_;rintro e w7 ⟨rfl,yM⟩;have yV:=Yw (KA (AG tx rs wd) wd w7 (Dl (Ov tx rs wd)));clear yT v0 v1;go_wp2_with fail;refine yV.Aj ?_;rintro e w8 ⟨s8,rfl,_,xF⟩;have Q:=yM.ag (xF.ai yM.size);have zE:=Ab.X H6.2.2.1 (Q.ag (Ae.drew.ai Q.size));have⟨t,zZ,hC⟩:∃t:Zi,t.size<=5000/\D8 43 #[ct (Ye 1 ⟨#[]⟩ ⟨#[]⟩ 1 tx ra (eh rs) rc),Zg wd] w8.drew (λe w'=>e=C5 (C4 t)/\bs w8.drew.1.size w8.drew w'):=⟨_,IQ 1 ⟨#[]⟩ ⟨#[]⟩ 1 tx rs wd,IX 1 ⟨#[]⟩ ⟨#[]⟩ 1 tx ra rc rs wd w8.drew zE Yv Yo (Aq _)⟩;have HC:=Yw hC;have h8:=H6.1.A Q M;have xS:=Yw h8.box;have xR:Hid (∀X,Zz w8 X->∃d vc Y,(Builtin.append_ #[23,23] 23 #[C2 ua f uc,Yz X.1.size 1 1]).run prog (X.alloc (ca #[C4 t] 9))=.ok (C3 d (eh f+1) vc) Y/\Aa Y q [C2 ua f uc,Zb]/\FI w (ev Y (Zd q 0) (C3 d (eh f+1) vc)) b a n c (p+1) q (C3 d (eh f+1) vc) (f++[t])):=λX hX=>(h8.A hX M).push M t zZ (Dl Hl.o);obtain⟨u1,_⟩:=h8.box 0 _ rfl;have yR:=Aa.A H6.2.1 Q;obtain⟨⟨v0,_⟩,v1,_⟩:=yR 0 _ rfl,yR 1 _ rfl;clear yR h8 hC zE Q yM xF H6 yV;go_upto_region 11 with fail
  go_region_law (first
   |(go_simp;go_at_call 43;refine HC.Aj ?_;rintro e wf ⟨rfl,xG⟩;have bf:bs w8.1.size w8 wf:=BO xG;have zf:=bf.size;have⟨d,vc,Y,hr,zM,hL⟩:=xR wf bf;have hx:=Aa.A xS bf;have m1:=(hx 0 _ rfl).1;obtain⟨y1,f1⟩:=zM 0 _ rfl;have a1:ek (wf.alloc (ca #[C4 t] 9)) (Zd q 0)=an (C2 ua f uc):=(Aa.A hx (Zy) 0 _ rfl).1;have HE:=Yw hL;clear hx zM hL xG;go_wp2_with fail)
   |(refine Bu Yp (.tmp 39) (.tmp 44) 23 23 Yp Yp Yp hr ?_))
  all_goals
   go_wp2;exact⟨⟨k+1,s8,_,f++[t],rfl,Yn,Yv,HE,by have:=Hl.o;simp;omega⟩,Ys⟩
 clear yD;revert wc;intro X2 HH;have⟨S,f,hI,hl⟩:=HH.o;have yE:Hid (FI w X2 b a n c (p+1) q S f/\eh f<=4):=⟨hI,hl⟩;clear HH hI hl;have HC:Hid (D8 43 #[ct #[Zg 6,Zc,Zc,Zg 1,Zc,Zb],Zg wd] X2 _):=IX 6 ⟨#[]⟩ ⟨#[]⟩ 1 ⟨#[]⟩ ba 0 [] wd X2 (dp rfl) (Aq _) (Aq _) (Aq _);go_wp2_with fail;refine HC.Aj ?_;rintro e X3 ⟨rfl,zJ⟩;have zZ:=IQ 6 ⟨#[]⟩ ⟨#[]⟩ 1 ⟨#[]⟩ [] wd;generalize Cv 6 ⟨#[]⟩ ⟨#[]⟩ 1 ⟨#[]⟩ [] wd=tw at *
 have J:=yE.1.A zJ M;have HP:=Yw (AE 4 J.rd Yv Yv Yv Yv);have N:=Yw J;clear HC zJ J;go_wp2_with fail;refine HP.Aj ?_;rintro e X4 ⟨x',rfl,x0,x1,xN,xH⟩;have⟨m,hm⟩:∃m:Nat,4000 -x'=m:=⟨(4000 -x').toNat,Yv⟩;have xW:m<=4000/\3996<=m:=Yv;have zT:Hid (FI w X4 b a n c (p+1+1) q S f/\eh f<=4):=⟨N.go xH xN M,yE.2⟩;clear xN xH HP N yE;go_upto_block 2 with fail;try rw[hm]
 clear hm x0 x1;go_cut [] (λT=>Hid (∃S f,FI w T b a n c (p+1+1) q S f/\eh f<=4000))
 case first=>
  go_wp2;go_loopw [54] (λ_ wr=>∃(U:D4) (zs:Zl),eh zs<=4000/\Hid (FI w wr b a n c (p+1+1) q U zs)) (λ_ wr=>Qw q m wr)
  case atStart=>exact⟨_,f,Dl zT.2,zT.1⟩
  clear zT;obtain⟨U,zs,vC,r⟩:=hrel;have⟨ua,uc,hU,_⟩:=r.ow.row;subst hU;obtain⟨u1,_⟩:=r.box 0 _ rfl;have vK:Qw q m wr=m -eh zs:=by unfold Qw;rw[u1]
  by_cases xJ:eh zs<m
  .have e2:bx ((eh zs:Int)<(m:Int))=bg:=decide_eq_true Yv;have⟨d,vc,Y,xX,zM,hL⟩:=r.push M tw zZ Yv;obtain⟨y1,f1⟩:=zM 0 _ rfl;have vP:q<Y.1.size:=zM.lt;have HE:=Yw hL;clear zM hL r;go_wp2_with (at_builtin;refine wpList_append_run rfl _ _ 23 23 rfl rfl rfl xX ?_);refine⟨⟨_,zs++[tw],Yt,HE⟩,?_⟩;have yS:Qw q m (ev Y (Zd q 0) (C3 d (eh zs+1) vc))=m -(eh zs+1):=(by unfold Qw;rw[(HE.box 0 _ rfl).1]);exact Nat.lt_of_le_of_lt (Nat.le_of_eq yS) Yv
  have e2:bx ((eh zs:Int)<(m:Int))=bq:=decide_eq_false Yv;have HX:Hid (∃S f,FI w wr b a n c (p+1+1) q S f/\eh f<=4000):=⟨_,zs,r,vC⟩;clear r;go_wp2;go_meet;exact HX
 clear zT;revert wc;intro X5 HH;have⟨S,f,hI,hl⟩:=HH.o;have⟨ua,uc,hU,_⟩:=hI.ow.row;subst hU;have O:Hid (FI w X5 b a n c (p+1+1) q (C2 ua f uc) f/\eh f<=4000):=⟨hI,hl⟩;clear HH hI hl xW zZ;go_upto_region 16 with fail;have vM:0<=p+1+1/\p+1+1<=600002:=Yv;generalize hp3':p+1+1=p3 at *
 refine Ip [65,66,67,68,69,70,71,72,64,73,74,10] 13 _ rfl Yr Yr Yr Yr Yr Yq Yr [(12,1),(12,4)] Yr (λL X=>∃H,(AB X b a n c H/\p3<=H/\H<=p3+1/\(L 3=bq->H=p3))/\ep w X (an b)/\Aa X w.1.size AU/\(L 7=bq->FI w X b a n c H q (C2 ua f uc) f)/\(L 7=bg->L 6=bg)) (λi X v=>match i with
  |0=>v=Zg wd
  |1=>∃g,v=Yz g 2 2/\g≠b/\Aa X g [Zg 1000000,Zg 60]
  |2=>v=Yy b
  |3=>∃j:Nat,v=Zg j/\j<2
  |4=>∃g j,v=Yx g j/\g≠b/\g<X.1.size/\∃y:Int,ek X (Zd g j)=an (Zg y)
  |5=>∃y:Int,v=Zg y
  |6=>v=ct #[C2 ua f uc,Zb]
  |7=>∃(o:Zj) (cd:Int),v=.tuple #[ct (ei o),Zg cd]/\VG (λg=>g<=w.1.size) X o
  |8=>∃(o:Zj) (cd:Int),v=.tuple #[ct (ei o),Zg cd]/\VG (λg=>g<=w.1.size) X o
  |9=>∃o:Zj,v=ct (ei o)/\VG (λg=>g<=w.1.size) X o
  |10=>∃cd:Int,v=Zg cd
  |11=>∃g cs,v=Yy g/\w.1.size<g/\FP X g/\Aa X g cs/\g<X.1.size/\VG (λg=>g<=w.1.size) X cs
  |_=>True) (λj X Y=>(j=3/\ep X Y (an b))\/Zz X Y\/(j=12/\∃g o,w.1.size<g/\FP X g/\g<X.1.size/\Tn [g] X Y/\FP Y g/\Aa Y g o/\VG (λg=>g<=w.1.size) Y o)) ?_ ⟨p3,⟨O.1.rd.drew,Yv,Yv,λ_=>rfl⟩,Ai O.1.gr (Af _ Ae.drew),Aa.A (v:=Ze) O.1.z Ae.drew,λ_=>O.1.A Ae.drew M,λh=>h⟩ ?_ ?_
 .intro j i X Y v vI xK vG hE hT;have yA:∀{o},VG (λg=>g<=w.1.size) X o->VG (λg=>g<=w.1.size) Y o:=λhv=>by
   rcases hE with⟨_,hg⟩|Q|⟨_,g,_,z,G,J,h4,_⟩
   .exact hv.S (Tn.grown (V:=[b]) hg Yu) Yt
   .exact hv.A Q
   exact((hv.add G J).S h4 Yu).less (λg hg=> dp hg)
  rcases i with _|_|_|_|_|_|_|_|_|_|_|_|_|_<;>first|exact hT|exact trivial|skip
  .obtain⟨g,e,z,G⟩:=hT;rcases hE with⟨_,hg⟩|Q|⟨rfl,_⟩
   .exact⟨g,e,z,G.au hg (Ne.symm z)⟩
   .exact⟨g,e,z,Aa.A G Q⟩
   exact absurd Yu xK
  .obtain⟨g,k,e,z,G,y,J⟩:=hT;rcases hE with⟨_,hg⟩|Q|⟨rfl,_⟩
   .exact⟨g,k,e,z,Zr G hg.size,y,(cell?_of_block (a:=⟨g,k,ba⟩) (hg.block g G (λe=>z N3))).ag J⟩
   .exact⟨g,k,e,z,Zr G Q.size,y,(Q.cell (p:=⟨g,k,ba⟩) G).ag J⟩
   exact absurd Yu xK
  .obtain⟨o,cd,e,z⟩:=hT;exact⟨o,cd,e,yA z⟩
  .obtain⟨o,cd,e,z⟩:=hT;exact⟨o,cd,e,yA z⟩
  .obtain⟨o,e,z⟩:=hT;exact⟨o,e,yA z⟩
  obtain⟨g,cs,e,z,G,J,h4,h5⟩:=hT;have zG:Y.1[g]?=X.1[g]? ->X.1.size<=Y.1.size->∃g cs,v=Yy g/\w.1.size<g/\FP Y g/\Aa Y g cs/\g<Y.1.size/\VG (λg=>g<=w.1.size) Y cs:=λhs hz=>⟨g,cs,e,z,λk s hc=>G k s ((cell?_of_block (a:=⟨g,k,ba⟩) hs).symm.ag hc),Aa.same J hs,Yv,yA h5⟩;rcases hE with⟨_,hg⟩|Q|⟨_,g',o,k1,k2,k3,k4,k5,k6,k7⟩
  .exact zG (hg.block g h4 (λe=>Dl (A8 e))) hg.size
  .exact zG (Q.block g h4) Q.size
  by_cases hgg:g=g'
  .subst hgg;exact⟨g,o,e,z,k5,k6,Zr h4 k4.size,k7⟩
  exact zG (k4.block g h4 (D2 hgg)) k4.size
 .intro i o' L x X hi ho hL hD hJ hd K D;obtain⟨H,⟨hr,zF,zX,zJ⟩,zK,hz,zP,xD⟩:=hJ;have zN:Bj L i 7=bg->Bj L i 6=bg:=λh=>by
   unfold Bj at h |-;split
   .rfl
   split at h
   .rename_i e
    subst e;cases ho;exact hD ⟨6,ed⟩ Yu Yp
   exact xD h
  have zC:i≠3->∀Y,Zz X Y->∃H,(AB Y b a n c H/\p3<=H/\H<=p3+1/\(Bj L i 3=bq->H=p3))/\ep w Y (an b)/\Aa Y w.1.size AU/\(Bj L i 7=bq->FI w Y b a n c H q (C2 ua f uc) f)/\(Bj L i 7=bg->Bj L i 6=bg):=λJ Y hY=>⟨H,⟨hr.A hY,zF,zX,λh=>zJ (by unfold Bj at h;rw[if_neg (Ne.symm J)]at h;exact h)⟩,Ai zK (Af _ hY),Aa.A (v:=Ze) hz hY,λh=>(zP (by unfold Bj at h;split at h;cases h;exact h)).A hY M,zN⟩;have hX:(i=3/\ep X X (an b))\/Zz X X\/(i=12/\∃g o,w.1.size<g/\FP X g/\g<X.1.size/\Tn [g] X X/\FP X g/\Aa X g o/\VG (λg=>g<=w.1.size) X o):=eb (dp Ae);have xZ:w.1.size<X.1.size:=hz.lt;rcases(show i=0\/i=1\/i=2\/i=3\/i=4\/i=5\/i=6\/i=7\/i=8\/i=9\/i=10\/i=11\/i=12 by omega)with rfl|rfl|rfl|rfl|rfl|rfl|rfl|rfl|rfl|rfl|rfl|rfl|rfl<;>cases ho<;>simp only[AY,Act.put,Zq,Zp,Zo]at D |-
  .go_simp;exact D.out _ X rfl hX (zC Yv X Ae)
  .have hA:bs X.1.size X (X.alloc (ca #[Zg 1000000,Zg 60] 3)):=Zy;go_simp;exact D.out _ _ ⟨X.1.size,rfl,Yv,Aa.new X [Zg 1000000,Zg 60] _⟩ (eb (dp hA)) (zC Yv _ hA)
  .go_simp;exact D.out _ X rfl hX (zC Yv X Ae)
  .rw[show x 2=Yy b from hd ⟨2,ed⟩ Yu Yp]at D |-;have vN:=zJ hL;have HP:=Yw (AE 2 hr Yv Yv Yv Yv);go_simp;refine HP.Aj ?_;rintro e Y ⟨y,rfl,y0,y1,xM,zY⟩;obtain⟨j,rfl⟩:∃j:Nat,y=j:=⟨y.toNat,Yv⟩;exact D.out _ Y ⟨j,rfl,Yv⟩ (dp ⟨trivial,zY⟩) ⟨H+1,⟨xM,Yv,Yv,λh=>by unfold Bj at h;simp at h⟩,Ai zK zY,hz.au zY Yv,λh=>(zP (by unfold Bj at h;rw[if_neg Yq]at h;exact h)).go zY xM M,zN⟩
  .obtain⟨g,e1,z,G⟩:=hd ⟨1,ed⟩ Yu Yp;have⟨j,e3,J⟩:=hd ⟨3,ed⟩ Yu Yp;rw[e1,e3]at D |-;obtain⟨y,hy⟩:=Eg G Yu (j:=j) Yt;have xI:=Aa.lt (v:=Zg 1000000) G;have h7:(j:Int)<2:=Yv;clear G;go_simp;exact D.out _ X ⟨g,j,rfl,z,xI,y,hy⟩ hX (zC Yv X Ae)
  .obtain⟨g,j,e4,z,G,y,J⟩:=hd ⟨4,ed⟩ Yu Yp;rw[e4]at D |-;go_simp;exact D.out _ X ⟨y,rfl⟩ hX (zC Yv X Ae)
  .have h7:L 7=bq:=by
    cases h:L 7 with
    |false=>rfl
    |true=>exact absurd (xD h) (by rw[hL];simp)
   obtain⟨⟨c0,_⟩,c1,_⟩:=(zP h7).box 0 _ rfl,(zP h7).box 1 _ rfl;go_simp;exact D.out _ X rfl hX (zC Yv X Ae)
  .obtain⟨y,e5⟩:=hd ⟨5,ed⟩ Yu Yp;rw[show x 0=Zg wd from hd ⟨0,ed⟩ Yu Yp,e5,show x 6=ct #[C2 ua f uc,Zb]from hd ⟨6,ed⟩ Yu Yp]at D |-;have hF:=zP hL;have⟨_,_,e,zE⟩:=hF.ow.row;cases e;have HO:=Yw (Qu wd y ua ba uc 0 f [] X zE (dp rfl) hF.ow.cap.2 (λ_=>⟨rfl,rfl⟩) ⟨Dl O.2,Yu,λs hs=>Dl (hF.sz s hs),Yu⟩);clear hF zE;go_simp;refine HO.Aj ?_;rintro e Y ⟨cd,o,rfl,hv,Q⟩;exact D.out _ Y ⟨o,cd,rfl,(hv.p (λg hg=>Yv)).vg⟩ (eb (dp Q)) (zC Yv Y Q)
  .obtain⟨o,cd,e,z⟩:=hd ⟨7,ed⟩ Yu Yp;rw[e]at D |-;go_simp;exact D.out _ X ⟨o,cd,rfl,z⟩ hX (zC Yv X Ae)
  .obtain⟨o,cd,e,z⟩:=hd ⟨8,ed⟩ Yu Yp;rw[e]at D |-;go_simp;exact D.out _ X ⟨o,rfl,z⟩ hX (zC Yv X Ae)
  .obtain⟨o,cd,e,z⟩:=hd ⟨8,ed⟩ Yu Yp;rw[e]at D |-;go_simp;exact D.out _ X ⟨cd,rfl⟩ hX (zC Yv X Ae)
  .have hA:bs X.1.size X (X.alloc (ca (ei AU) 34)):=Zy;have hN:FP (X.alloc (ca (ei AU) 34)) X.1.size:=FP.of (heap_alloc_new X _) (by simp[AU]);have xJ:X.1.size<(X.alloc (ca (ei AU) 34)).1.size:=Yu;go_simp;exact D.out _ _ ⟨X.1.size,AU,rfl,xZ,hN,Aa.new X AU _,xJ,((RZ (w.1.size+1) _).p (λg hg=>Yv)).vg⟩ (eb (dp hA)) (zC Yv _ hA)
  obtain⟨o,e9,h9⟩:=hd ⟨9,ed⟩ Yu Yp;have⟨g,cs,e,z,G,J,h4,h5⟩:=hd ⟨11,ed⟩ Yu Yp;rw[e9,e]at D |-;obtain⟨l1,l2,tY⟩:=h9.sd.len,h5.sd.len,AD g o 0 X;have h7:L 7=bg:=hD ⟨7,.chain⟩ Yu Yp;refine wp_store_mid 34 _ _ rfl g 0 (ei o) rfl rfl (by rw[A0,l1.1,<-l2.1];exact J.there) (by rw[A0,l1.1];kernel_rfl) (all_oneCell_toArray l1.2) ?_;exact D.out undef _ trivial (eb (eb ⟨trivial,g,o,z,G,h4,tY,G.set J (by rw[l1.1,l2.1]) h9.noS,J.aw o (by rw[l1.1,l2.1]),((h9.add G h4).S tY Yu).less (λg hg=> dp hg)⟩)) ⟨H,⟨hr.S tY Yt Yt,zF,zX,λh=>zJ (by unfold Bj at h;rw[if_neg Yq]at h;exact h)⟩,Cs zK tY Yt,Aa.same hz (tY.block _ hz.lt Yt),(λh=>by unfold Bj at h;rw[if_neg Yq,h7]at h;cases h),zN⟩
 intro L x X hL hJ hT K D;obtain⟨cd,xB⟩:=hT 10 Yq (λj=>Yu);obtain⟨g,cs,xC,z,G,J,h4,h5⟩:=hT 11 Yq (λj=>Yu);obtain⟨H,⟨hr,zF,zX,_⟩,zK,hz,_,_⟩:=hJ;simp only[AY,Act.put,Zq,Zp,Zo];rw[xB,xC];have HV:Hid (Aa X g cs/\VG (λx=>x<=w.1.size\/x=g) X cs/\AB X b a n c H/\ep w X (an b)/\Aa X w.1.size AU):=⟨J,h5.add G h4,hr,zK,hz⟩;clear hT G J h4 h5 hr zK hz O xB xC;go_simp;refine D.out _ _ ?_;clear D K;have HP:=Yw (AE 14 HV.2.2.1 Yv Yv Yv Yv);go_wp2_with fail;refine HP.Aj ?_;rintro e X7 ⟨y,rfl,y0,y1,xO,zI⟩;obtain⟨k0,rfl⟩:∃k:Nat,y=k:=⟨y.toNat,Yv⟩;have H7:Hid (Aa X7 g cs/\VG (λx=>x<=w.1.size\/x=g) X7 cs/\AB X7 b a n c (H+1)/\ep w X7 (an b)/\Aa X7 w.1.size AU):=by
  obtain⟨k1,k2,_,k4,k5⟩:=HV.o;have⟨v,l,e⟩:∃v l,cs=v::l:=by
   have:=k2.sd.len.1;cases cs with
   |nil=>simp at this
   |cons v l=>exact⟨v,l,rfl⟩
  rw[e]at k1 |-;rw[e]at k2;exact⟨k1.au zI Yv,k2.S (Tn.grown (V:=[b]) zI Yu) Yt,xO,Ai k4 zI,k5.au zI Yv⟩
 have xL:p<=H+1/\H+1<=p+50000:=Yv;generalize H+1=p7 at *
 clear xO zI HP HV zF zX;have yC:Hid (∀T cs,Aa T g cs->VG (λx=>x<=w.1.size\/x=g) T cs->AB T b a n c p7->ep w T (an b)->Aa T w.1.size AU->Jf w b a n c p 50000 g T):=λT cs k1 k2 k3 k4 k5=>⟨cs,⟨p7,k3,xL.1,xL.2⟩,k4,k5,k1,k2.sd,z⟩;go_upto_block 4 with fail;go_cut [] (λT=>Hid (Jf w b a n c p 50000 g T))
 case rest=>
  clear H7 yC;revert wc;intro Z HH;have⟨cs,hL⟩:=HH.o;have HE:=Yw (MJ (w:=w) (X:=Z) (b:=b) (a:=a) (n:=n) (c:=c) (p:=p) (k:=50000) (cs:=cs) hL.rd hL.gr hL.z (λV Y hV hT=>hL.rv V Y (λg hg=> dp (hV g hg)) hT) M);have xT:Hid (Aa Z g cs):=hL.x;clear HH hL;go_wp2_with (first
   |refine wpList_load_mid rfl 34 _ rfl g 0 rfl cs _ (Aa.range xT) underlying34 rfl (by rw[HE.1.2.1];kernel_rfl) ?_
   |refine wpList_store_mid rfl 34 _ _ rfl w.1.size 0 (ei cs) rfl rfl HE.1.1 (by rw[A0,HE.1.2.1];kernel_rfl) (all_oneCell_toArray HE.1.2.2) ?_)
  exact bodyPost_ret (AM results39 _ _ w.1.size cs _ rfl (Aa.range HE.2.1) underlying34 rfl (by rw[HE.1.2.1];kernel_rfl)) rfl HE.2.2
 go_wp2;go_loopw [12] (λkk wr=>∃(k:Nat) (cs:Zj),kk=Zg k/\k<=13/\Hid (Aa wr g cs/\VG (λx=>x<=w.1.size\/x=g) wr cs/\AB wr b a n c p7/\ep w wr (an b)/\Aa wr w.1.size AU)) (λkk _=>(intOf kk).toNat)
 case atStart=>exact⟨k0,cs,rfl,Yv,H7⟩
 clear H7 y0 y1;obtain⟨k,cs,rfl,vE,r⟩:=hrel;by_cases hk:0<k
 case neg=>
  obtain rfl:k=0:=Yv;have HX:Hid (Jf w b a n c p 50000 g wr):=yC wr cs r.1 r.2.1 r.2.2.1 r.2.2.2.1 r.2.2.2.2;clear r;go_wp2;go_meet;exact HX
 obtain⟨k2,rfl⟩:∃k2,k=k2+1:=⟨k -1,Yv⟩;have vJ:bx ((0:Int)<((k2+1:Nat):Int))=bg:=Yu
 obtain⟨u,d,rfl,P,yO⟩:=r.2.1;have hr:=yO [] wr Yu (Tn.of Ae);have HU:=Yw (Abd u.J u.F u.G u.E d.W d.P d.O u.I u.N u.M u.ro hr.1.st hr.2 P.p P.l P.st.k P.st.p P.fit.st hr.1.q hr.1.m P.q P.m P.rq.1 P.rq.2 P.st.n P.cz);have yW:=Yw P;have yU:=Yw yO;have xI:g<wr.1.size:=r.1.lt;clear hr P yO;go_wp2_with (first
  |refine wpList_load_mid rfl 30 _ rfl g 4 rfl (C7 u.J u.F u.G u.E d.Q u.B d.W d.L u.ps d.P d.K u.ls d.O) _ (Aa.dq [Zg u.wd,Zg u.lim,C2 d.Y u.ss d.sc,C2 d.V u.C d.T] (C7 u.J u.F u.G u.E d.Q u.B d.W d.L u.ps d.P d.K u.ls d.O) (Xu u.I d.Z (eh u.H) d.y d.g (eh u.ms) d.j u.N u.M u.ro) r.1) underlying30 rfl Yr ?_
  |refine wpList_load_mid rfl 32 _ rfl g 11 rfl (Xu u.I d.Z (eh u.H) d.y d.g (eh u.ms) d.j u.N u.M u.ro) _ (Aa.dq [Zg u.wd,Zg u.lim,C2 d.Y u.ss d.sc,C2 d.V u.C d.T,Zg u.J,Zg u.F,Zg u.G,Zg u.E,C2 d.Q u.B d.W,C2 d.L u.ps d.P,C2 d.K u.ls d.O] (Xu u.I d.Z (eh u.H) d.y d.g (eh u.ms) d.j u.N u.M u.ro) [] r.1) underlying32 rfl Yr ?_)
 refine HU.Aj ?_;rintro e w1 ⟨⟨i0,i1,i2,i3,i4,a5,n5,k5,a6,n6,k6,a7,n7,k7,ph,F,E,ro,qa,ma,da,qc,mc,dn,dc,qs,ms,rfl,hq,hm,hl,xQ⟩,zF⟩;have⟨C,hC⟩:∃C:Zj,[Zg i0,Zg i1,Zg i2,Zg i3,Zg i4,C3 a5 n5 k5,C3 a6 n6 k6,C3 a7 n7 k7,Zg ph,C2 qa qs qc,C2 ma ms mc,Zg F,Zg E,Zg ro,C3 da dn dc]=C:=⟨_,rfl⟩;rw[hC];have zO:Hid (eh C=15/\∀u∈C,u.oneCell'=bg):=by rw[<-hC];exact⟨rfl,by simp[oneCell']⟩
 have⟨W2,yJ⟩:=D6 w1 Xv 128;obtain⟨⟨yH,vD,c2⟩,I,zW⟩:=Ax (l:=Dj) yJ,Ag (W2.setCells w1.1.size 0 (ei C).toList);have t3:Tn [w1.1.size] W2 I:=by rw[zW];exact AD _ _ _ _
 have yI:bs w1.1.size w1 I:=yH.ag (t3.A yH.size Yu);have zH:=zF.ag (yI.ai zF.size);have yX:Hid (W2.there w1.1.size 0 (ei C).size):=by rw[show (ei C).size=15 from by rw[A0];exact zO.1];exact c2.there
 have N:Hid (Aa I w1.1.size [Zg i0,Zg i1,Zg i2,Zg i3,Zg i4,C3 a5 n5 k5,C3 a6 n6 k6,C3 a7 n7 k7,Zg ph,C2 qa qs qc,C2 ma ms mc,Zg F,Zg E,Zg ro,C3 da dn dc]/\Aa I g (Xp u d)/\VG (λx=>x<=w.1.size\/x=g) I (Xp u d)/\AB I b a n c p7/\ep w I (an b)/\Aa I w.1.size AU/\VG (λx=>x<=w.1.size\/x=g) I ([Zg u.wd,Zg u.lim,C2 d.Y u.ss d.sc,C2 d.V u.C d.T,Zg u.J,Zg u.F,Zg u.G,Zg u.E,C2 d.Q u.B d.W,C2 d.L u.ps d.P,C2 d.K u.ls d.O]++((Xu ph qa (eh qs) qc ma (eh ms) mc F E ro)++[]))):=by
  refine⟨by rw[zW,hC];exact c2.aw C (by rw[zO.1];rfl),Aa.A r.1 zH,r.2.1.A zH,r.2.2.1.A zH,Ai r.2.2.2.1 (Af _ zH),Aa.A (v:=Ze) r.2.2.2.2 zH,VG.round yW (λV Y hV hT=>yU V Y hV ((Tn.of zH).ag hT)) hq hm hl (λV Y hV hT=>xQ V Y (λx hx=> ?_) ((Tn.of yI).ag hT))⟩;have:=r.2.2.2.1.size;have:=hV x hx;omega
 have yF:=Yw yJ;have yY:=Yw zW;have vH:g≠w1.1.size:=Dl zF.size;clear hC yJ yH vD c2 zW t3 yI zH xQ zF HU yW yU r hq hm hl;go_upto_region 21 with(refine wpList_store_mid rfl 128 _ _ rfl w1.1.size 0 (ei C) rfl rfl (by rw[<-yF.o];exact yX.o) (by rw[A0,zO.1];kernel_rfl) (all_oneCell_toArray zO.2) ?_);rw[<-yF.o];rw[<-yY.o];clear yF yY yX zO;obtain⟨vF,_⟩:=N.1 14 _ rfl;by_cases hdn:0<dn
 .have e1:bx ((0:Int)<(dn:Int))=bg:=decide_eq_true Yv;have HX:Hid (Jf w b a n c p 50000 g I):=yC I _ N.2.1 N.2.2.1 N.2.2.2.1 N.2.2.2.2.1 N.2.2.2.2.2.1;clear N;go_wp2;go_meet;exact HX
 have e1:bx ((0:Int)<(dn:Int))=bq:=decide_eq_false Yv;have t4:=AD g (Xu ph qa (eh qs) qc ma (eh ms) mc F E ro) 11 I;have vA:=N.2.2.2.2.2.1.lt;have H4:Hid (I.there g 11 6/\Aa (I.setCells g 11 (Xu ph qa (eh qs) qc ma (eh ms) mc F E ro)) g ([Zg u.wd,Zg u.lim,C2 d.Y u.ss d.sc,C2 d.V u.C d.T,Zg u.J,Zg u.F,Zg u.G,Zg u.E,C2 d.Q u.B d.W,C2 d.L u.ps d.P,C2 d.K u.ls d.O]++((Xu ph qa (eh qs) qc ma (eh ms) mc F E ro)++[]))/\VG (λx=>x<=w.1.size\/x=g) (I.setCells g 11 (Xu ph qa (eh qs) qc ma (eh ms) mc F E ro)) ([Zg u.wd,Zg u.lim,C2 d.Y u.ss d.sc,C2 d.V u.C d.T,Zg u.J,Zg u.F,Zg u.G,Zg u.E,C2 d.Q u.B d.W,C2 d.L u.ps d.P,C2 d.K u.ls d.O]++((Xu ph qa (eh qs) qc ma (eh ms) mc F E ro)++[]))/\AB (I.setCells g 11 (Xu ph qa (eh qs) qc ma (eh ms) mc F E ro)) b a n c p7/\ep w (I.setCells g 11 (Xu ph qa (eh qs) qc ma (eh ms) mc F E ro)) (an b)/\Aa (I.setCells g 11 (Xu ph qa (eh qs) qc ma (eh ms) mc F E ro)) w.1.size AU):=
  ⟨Aa.cw [Zg u.wd,Zg u.lim,C2 d.Y u.ss d.sc,C2 d.V u.C d.T,Zg u.J,Zg u.F,Zg u.G,Zg u.E,C2 d.Q u.B d.W,C2 d.L u.ps d.P,C2 d.K u.ls d.O] (Xu u.I d.Z (eh u.H) d.y d.g (eh u.ms) d.j u.N u.M u.ro) [] N.2.1,Aa.dy (Xu ph qa (eh qs) qc ma (eh ms) mc F E ro) [Zg u.wd,Zg u.lim,C2 d.Y u.ss d.sc,C2 d.V u.C d.T,Zg u.J,Zg u.F,Zg u.G,Zg u.E,C2 d.Q u.B d.W,C2 d.L u.ps d.P,C2 d.K u.ls d.O] (Xu u.I d.Z (eh u.H) d.y d.g (eh u.ms) d.j u.N u.M u.ro) [] I N.2.1 rfl,N.2.2.2.2.2.2.S t4 Yu,N.2.2.2.1.S t4 Yt Yt,Cs N.2.2.2.2.1 t4 Yt,Aa.same N.2.2.2.2.2.1 (t4.block _ vA Yt)⟩
 have HM:Hid (I.rangeAt w1.1.size 8 (Xu ph qa (eh qs) qc ma (eh ms) mc F E ro)):=Aa.dq [Zg i0,Zg i1,Zg i2,Zg i3,Zg i4,C3 a5 n5 k5,C3 a6 n6 k6,C3 a7 n7 k7] (Xu ph qa (eh qs) qc ma (eh ms) mc F E ro) [C3 da dn dc] N.1;have zU:Hid (eh ((Xu ph qa (eh qs) qc ma (eh ms) mc F E ro):Zj)=6/\∀u∈((Xu ph qa (eh qs) qc ma (eh ms) mc F E ro):Zj),u.oneCell'=bg):=⟨rfl,by simp[oneCell']⟩;clear t4 N;generalize ((Xu ph qa (eh qs) qc ma (eh ms) mc F E ro):Zj)=R at *
 replace H4:Hid (I.there g 11 (ei R).size/\_):=⟨by rw[show (ei R).size=6 from by rw[A0];exact zU.1];exact H4.1,H4.2⟩;go_wp2_with (first
  |refine wpList_load_mid rfl 32 _ rfl w1.1.size 8 rfl R _ HM underlying32 rfl (by rw[zU.1];kernel_rfl) ?_
  |refine wpList_store_mid rfl 32 _ _ rfl g 11 (ei R) rfl rfl H4.1 (by rw[A0,zU.1];kernel_rfl) (all_oneCell_toArray zU.2) ?_)
 exact⟨⟨k2,_,Yn,Yv,H4.2⟩,by simp[intOf]⟩
