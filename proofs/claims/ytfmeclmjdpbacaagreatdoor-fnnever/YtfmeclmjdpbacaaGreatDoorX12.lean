import Derived.Test.YtfmeclmjdpbacaaGreatDoorX08
import Derived.Lib.LaidTab
import Derived.LaidHandle
import Derived.Test.YtfmeclmjdpbacaaGreatDoorCards
import Derived.Test.YtfmeclmjdpbacaaGreatDoorTie
import Derived.OpenVars
import Derived.Deep.DeepHandedRow
import Derived.BigRegion
set_option maxRecDepth 100000
set_option maxHeartbeats 16000000
open Option renaming some->ai,none->an
open Bool renaming true->ay,false->ba
open Go.RowKit renaming Below->bg
open Decidable renaming decide->bq
open Go.Obj renaming cells->bs
open Go.Value renaming agg->ca,pointer->ea,bool->ec
open Or renaming inl->cr
open List renaming length->ed,toArray->ee
open Go.World renaming cell?->eh,ownsRow->ej,grownBy->ek
open Go renaming maxLen->eo
namespace Go.Proofs.YtfmeclmjdpbacaaGreatDoor
open ChangeShapes WideShapes ChangeAt RowKit _root_.Go.Proofs.Tryz List World Value
variable{H:Type}{W w:Zh}{d a f g n kind:Int}{l:List UInt8}{p:List MemPlace}{b k:Nat}{c:Zl}{rest s t:Zi}{bad:Bool}
theorem ZD:prog.globalNamed "loop.example/kilnvault/impl.kindParts" =ai 5:=Yr
theorem UZ:(prog.globals[5]?).map (·.type)=ai 266:=Yr
theorem Vb:prog.cellsOf 225=4:=Yr
theorem Tb:prog.cellsOf 4=1:=Yr
theorem ZE{α:Type}{l:List α}(h:ed l=4):∃a b c d,l=[a,b,c,d]:=by
 match l,h with
 |[a,b,c,d],_=>exact⟨a,b,c,d,rfl⟩
theorem Ri{e:TypeId×Value->H}{d:Nat}{spare:Nat->Bool}{held:Bool}{i:Nat}{l:Zj}{a b c:Bool}{m:Int}(h:DataW.trod e prog W d spare held i 225 l=ai (.agg [.lit (.bool a),.lit (.bool b),.lit (.bool c),.lit (.int .i64 m)],p)):l=[.bool a,.bool b,.bool c,.int .i64 m]:=by
 have⟨I,g,_,r,q,hlen,f⟩:=DataW.trod_struct underlying225 h;rw[Vb]at q;obtain⟨v0,w,x,y,rfl⟩:=ZE q;obtain⟨z,A,B,C,rfl⟩:=ZE hlen;have s:DataW.trod e prog W d spare held g 4 [v0]=ai z:=by simpa [Tb]using f 0 _ rfl
 have t:DataW.trod e prog W d spare held g 4 [w]=ai A:=by simpa [Tb]using f 1 _ rfl
 have u:DataW.trod e prog W d spare held g 4 [x]=ai B:=by simpa [Tb]using f 2 _ rfl
 have v:DataW.trod e prog W d spare held g 3 [y]=ai C:=by simpa [Agd]using f 3 _ rfl
 obtain⟨D,j,rfl⟩:=DataW.trod_bool underlying4 s;obtain⟨E,k,rfl⟩:=DataW.trod_bool underlying4 t;obtain⟨F,n,rfl⟩:=DataW.trod_bool underlying4 u;obtain⟨G,o,rfl,_⟩:=DataW.trod_int underlying3 v;simp at j k n o r;obtain⟨⟨rfl,rfl,rfl,rfl⟩,_⟩:=r;rw[j,k,n,o]
theorem Qj{f:Array Value}(c:W.var? prog "loop.example/kilnvault/impl.kindParts" =ai f)(q:DataW.trod (λ_=>()) prog W 0 (λ_=>ay) ba b 266 f.toList=ai (Rows.laid_loop_example_kilnvault_impl_kindParts,p)):JY W:=by
 obtain⟨i,v,_,s,u,hlen,g⟩:=DataW.trod_array underlying266 q;rw[Vb]at g;have m:i.map (·.1)=_:=(DataW.agg.inj (Prod.mk.inj s).1).symm;intro k n o;have e:(i.map (·.1))[k]?=ai (.agg [.lit (.bool (Dx k)),.lit (.bool (DR k)),.lit (.bool (CC k)),.lit (.int .i64 (CH k))]):=by
  rw[m]
  match k,n,o with
  |1,_,_=>rfl
  |2,_,_=>rfl
  |3,_,_=>rfl
  |4,_,_=>rfl
  |5,_,_=>rfl
  |6,_,_=>rfl
  |7,_,_=>rfl
 rw[getElem?_map]at e;have⟨⟨w,x⟩,t,d⟩:=Option.map_eq_some_iff.1 e;simp only at d;subst d;have h:=g k Yv;rw[t]at h;have l:=Ri h;have a:∀j,j<4->W.cell? ⟨5,k *4+j,an⟩=([.bool (Dx k),.bool (DR k),.bool (CC k),.int .i64 (CH k)]:Zj)[j]?:=by intro j r;rw[World.var?_cell ZD c,<-l,getElem?_take_of_lt r,getElem?_drop];simp
 exact⟨a 0 Yv,a 1 Yv,a 2 Yv,a 3 Yv⟩
theorem Adq:prog.globalNamed "errors.errorType" =ai 4:=Yr
theorem Aez:(prog.cutTypes.find? (·.1== "internal/reflectlite.rtype")).map (·.2)=ai 268:=Yr
theorem Vc:prog.types.size+100=443:=Yr
theorem Adr:((range (443 -100)).filter λt=>prog.rowNamed t [101,114,114,111,114])=[186]:=Yr
theorem Ads(h:handlesMet prog [("errors.errorType",Rows.laid_errors_errorType)] W):IH W:=by
 obtain⟨c,u,j,d,e,k,f,a⟩:=h _ (mem_singleton.2 rfl);have g:=(A2 d).symm;subst g;obtain rfl:=A2 (Aez.symm.ag e);have b:j∈(range (443 -100)).filter λt=>prog.rowNamed t [101,114,114,111,114]:=A8.2 ⟨mem_range.2 (C8 Vc),f⟩;rw[Adr]at b;obtain rfl:=mem_singleton.1 b;have i:typeHandle prog 186=Yx 9 186:=Yr;rw[i]at a;unfold IH;simpa using World.var?_cell Adq a 0
theorem Jp{e:String}{g:Nat}{a:Array Value}{j:String}{d:DataW Unit}(i:prog.globalNamed e=ai g)(c:W.var? prog e=ai a)(h:DataW.trod (λ_=>()) prog W 0 (λ_=>ay) ba b 186 a.toList=ai (.iface j d,p)):∃t v,eh W (Zd g 0)=ai (.iface t v):=by
 have⟨_,u,v,f,_,_⟩:=iface_of_trod underlying186 h;refine⟨u,v,?_⟩;rw[World.var?_cell i c];have:a[0]?=a.toList[0]?:=Yu;rw[this,f];rfl
theorem Ql:prog.globalNamed "loop.example/kilnvault/impl.errWidth" =ai 0/\(prog.globals[0]?).map (·.type)=ai 186:=⟨Yr,Yr⟩
theorem Qm:prog.globalNamed "loop.example/kilnvault/impl.errKind" =ai 1/\(prog.globals[1]?).map (·.type)=ai 186:=⟨Yr,Yr⟩
theorem Qn:prog.globalNamed "loop.example/kilnvault/impl.errShort" =ai 6/\(prog.globals[6]?).map (·.type)=ai 186:=⟨Yr,Yr⟩
theorem Qo:prog.globalNamed "loop.example/kilnvault/impl.errThing" =ai 7/\(prog.globals[7]?).map (·.type)=ai 186:=⟨Yr,Yr⟩
theorem Tc:prog.globalNamed "loop.example/kilnvault/impl.errLong" =ai 2/\(prog.globals[2]?).map (·.type)=ai 186:=⟨Yr,Yr⟩
theorem Qp:prog.globalNamed "loop.example/kilnvault/impl.errParts" =ai 3/\(prog.globals[3]?).map (·.type)=ai 186:=⟨Yr,Yr⟩
def ZF:List (String×DataW Unit):=
 [("loop.example/kilnvault/impl.kindParts",Rows.laid_loop_example_kilnvault_impl_kindParts),("loop.example/kilnvault/impl.errWidth",Rows.laid_loop_example_kilnvault_impl_errWidth),("loop.example/kilnvault/impl.errKind",Rows.laid_loop_example_kilnvault_impl_errKind),("loop.example/kilnvault/impl.errShort",Rows.laid_loop_example_kilnvault_impl_errShort),
   ("loop.example/kilnvault/impl.errThing",Rows.laid_loop_example_kilnvault_impl_errThing),("loop.example/kilnvault/impl.errLong",Rows.laid_loop_example_kilnvault_impl_errLong),("loop.example/kilnvault/impl.errParts",Rows.laid_loop_example_kilnvault_impl_errParts)]
theorem Adt(h:laidMet prog ZF W)(F:handlesMet prog [("errors.errorType",Rows.laid_errors_errorType)] W):Env W:=by
 obtain⟨ps,G,_⟩:=h;obtain⟨g1,t1,M,S,p1,q1,k,r,y,b,H,_⟩:=G;obtain⟨g2,t2,N,T,p2,q2,l,s,z,c,I,_⟩:=H;obtain⟨g3,t3,O,U,p3,q3,m,t,A,d,J,_⟩:=I;obtain⟨g4,t4,P,V,p4,q4,n,u,B,e,K,_⟩:=J;obtain⟨g5,t5,Q,X,p5,q5,o,v,C,f,L,_⟩:=K;obtain⟨g6,t6,c6,Y,p6,q6,p,w,D,i,r6,_⟩:=L;obtain⟨g7,t7,R,Z,p7,q7,q,x,E,j,r7,_⟩:=r6;obtain rfl:=A2 (ZD.symm.ag k);obtain rfl:=A2 (UZ.symm.ag r);obtain rfl:=A2 (Ql.1.symm.ag l);obtain rfl:=A2 (Ql.2.symm.ag s);obtain rfl:=A2 (Qm.1.symm.ag m);obtain rfl:=A2 (Qm.2.symm.ag t);obtain rfl:=A2 (Qn.1.symm.ag n);obtain rfl:=A2 (Qn.2.symm.ag u);obtain rfl:=A2 (Qo.1.symm.ag o);obtain rfl:=A2 (Qo.2.symm.ag v);obtain rfl:=A2 (Tc.1.symm.ag p);obtain rfl:=A2 (Tc.2.symm.ag w);obtain rfl:=A2 (Qp.1.symm.ag q);obtain rfl:=A2 (Qp.2.symm.ag x);refine⟨Qj y b,Ads F,?_⟩;intro g a;simp only[Bh,not_mem_nil,or_false]at a;rcases a with rfl|rfl|rfl|rfl|rfl|rfl
 .exact Jp Ql.1 z c
 .exact Jp Qm.1 A d
 .exact Jp Tc.1 D i
 .exact Jp Qp.1 E j
 .exact Jp Qn.1 B e
 exact Jp Qo.1 C f
def putCells(cs:Array Value):Obj->Obj
 |bs _ t frozen=> bs cs t frozen
 |o=>o
def La(n:Nat):Value:=.iface 313 (ea (ai ⟨n,0,an⟩))
noncomputable def envWorld (os:Os):Zh:=
 let w0:=World.holding prog os ⟨#[],#[],[]⟩
 {w0 with heap:=(((((((((((((w0.1.modify 5 (putCells #[ec ba,ec ba,ec ba,Ze,ec ba,ec ba,ec ay,Zg 100000,ec ay,ec ay,ec ba,Ze,ec ay,ec ba,ec ba,Ze,ec ba,ec ay,ec ba,Zg 100000,ec ba,ec ba,ec ba,Zg 1000000000,ec ba,ec ba,ec ba,Zg 100000,ec ba,ec ay,ec ba,Ze])).modify 4 (putCells #[.iface 268 (ca #[ea (ai ⟨9,186,an⟩)])])).modify 0 (putCells #[La w0.1.size])).modify 1 (putCells #[La (w0.1.size+1)])).modify 6 (putCells #[La (w0.1.size+2)])).modify 7 (putCells #[La (w0.1.size+3)])).modify 2 (putCells #[La (w0.1.size+4)])).modify 3 (putCells #[La (w0.1.size+5)])).push (bs #[.string ⟨#[110,111,32,119,105,100,116,104]⟩] 331)).push (bs #[.string ⟨#[110,111,32,107,105,110,100,32,111,102,32,101,110,116,114,121]⟩] 331)).push (bs #[.string ⟨#[105,116,32,101,110,100,115,32,116,111,111,32,101,97,114,108,121]⟩] 331)).push (bs #[.string ⟨#[105,116,115,32,116,104,105,110,103,32,105,115,32,110,111,110,101]⟩] 331)).push (bs #[.string ⟨#[105,116,32,103,111,101,115,32,111,110,32,98,101,104,105,110,100,32,105,116,115,32,101,110,100]⟩] 331)).push (bs #[.string ⟨#[97,32,112,97,114,116,32,105,115,32,110,111,116,32,97,115,32,105,116,115,32,107,105,110,100,32,97,115,107,115]⟩] 331)}
theorem EZ{a:TypeId×Value->H}{P:Program}{f:Nat->Bool}{n:String}{e:List String}{c:List (DataW H)}{l:List MemPlace}(h:DataW.TrodVars a P w f (n::e) c l):∃d b q,c=d::b/\DataW.TrodVars a P w f e b q:=by
 cases c with
 |nil=>exact h.elim
 |cons d b=>obtain⟨g,t,m,j,p,q,_,_,_,_,k,_⟩:=h;exact⟨d,b,q,rfl,k⟩
noncomputable def heldE {H:Type} (a:TypeId×Value->H) (os:Os) (i:Nat):DataW H:=.held (a (313,Yy ((World.holding prog os ⟨#[],#[],[]⟩).1.size+i)))
theorem Ve(k:Int)(b a:Zi)(n:Int)(t:Zi){i:Zk}(h:Nat)(f:Int)(g:Ad w w.1.size i c)(l:ed c<=1048576)(o:t.size<=eo)(q:a.size<=eo):
 D4 102 #[ca (EV k b a n t i (ed c) h),Zg f] w λe d=>e=C1 (C0 (Cs k b a n t c f))/\Zz w d:=by
 cases hok:Ca k b a n t c f with
 |true=>rw[show Cs k b a n t c f=⟨ee (Dh k.toNat b a n t c)⟩from by unfold Cs;rw[if_pos hok]];unfold Ca at hok;simp only[Bool.and_eq_true,decide_eq_true_eq]at hok;obtain⟨m,rfl⟩:∃m:Nat,k=m:=⟨k.toNat,Yv⟩;rw[Int.toNat_natCast]at hok |-;exact UA m b a n t h f Yv Yv g l o hok.2
 |false=>rw[show Cs k b a n t c f=ByteArray.empty from by unfold Cs;rw[if_neg Yt]];have j:bg w.1.size w (w.alloc (bs (EV k b a n t i (ed c) h) 117)):=gB;have d:=Wu k b a n t h f (g.U j) l o q;rw[hok]at d;clear hok;delta D4;go_in;go_wp2_with fail;refine d.ah ?_;rintro e r ⟨rfl,p⟩;go_wp2;go_ret;exact⟨rfl,j.ag (p.ah Yu)⟩
def Fa(k:Int):Bool:=bq (1<=k/\k<=7)
def Fm(k:Int):Bool:=Fa k&&Dx k.toNat
def Eu(k:Int):Bool:=Fa k&&DR k.toNat
def CO(k:Int):Bool:=Fa k&&CC k.toNat
def Fo(k:Int):Int:=if Fa k=ay then CH k.toNat else 0
theorem Rj(k:Int)(hT:JY w):
 D4 170 #[Zg k] w λe a=>e=C1 (.tuple #[ca #[ec (Fm k),ec (Eu k),ec (CO k),Zg (Fo k)],ec (Fa k)])/\Zz w a:=by
 by_cases hk:1<=k/\k<=7
 .obtain⟨m,rfl⟩:∃m:Nat,k=m:=⟨k.toNat,Yv⟩;have a:Fa (m:Int)=ay:=decide_eq_true hk;rw[show Fm (m:Int)=Dx m by simp[Fm,a],show Eu (m:Int)=DR m by simp[Eu,a],show CO (m:Int)=CC m by simp[CO,a],show Fo (m:Int)=CH m by simp[Fo,a],a];exact Lo m w hT Yv Yv
 have a:Fa k=ba:=decide_eq_false hk;rw[show Fm k=ba by simp[Fm,a],show Eu k=ba by simp[Eu,a],show CO k=ba by simp[CO,a],show Fo k=0 by simp[Fo,a],a];exact MD k w hk
theorem WU(n:Int)(w:Zh):
 D4 45 #[Zg n] w λe a=>e=C1 (ec (bq (1<=n/\n<=8)))/\a=w:=by
 by_cases h1:1<=n
 .by_cases h2:n<=8
  .delta D4;go_in;go_wp2;go_ret;exact⟨AE Yt,rfl⟩
  have b:bq (n<=8)=ba:=Yt;delta D4;go_in;go_wp2;go_ret;exact⟨rfl,rfl⟩
 have a:bq (1<=n)=ba:=Yt;delta D4;go_in;go_wp2;go_ret;exact⟨rfl,rfl⟩
def GS(wd:Int):Bool:= !bq (1<=wd/\wd<=8)
def EO(s:Zi)(wd:Int):Zi×Zi×Bool:=Bp s (GS wd) (1:Nat)
def AU(s:Zi)(wd:Int):Int:=CN (EO s wd).1.data.toList
def Gc(s:Zi)(wd:Int):Bool:=(EO s wd).2.2|| !Fa (AU s wd)
def EH(s:Zi)(wd:Int):Zi×Zi×Bool:=Bp (EO s wd).2.1 (Gc s wd) (4:Nat)
def FB(s:Zi)(wd:Int):Int:=CN (EH s wd).1.data.toList
def FM(s:Zi)(wd:Int):Zi×Zi×Bool:=Bp (EH s wd).2.1 (EH s wd).2.2 (1:Nat)
def On(s:Zi)(wd:Int):Int:=CN (FM s wd).1.data.toList
def Cb(s:Zi)(wd:Int):Zi×Zi×Bool:=Bp (FM s wd).2.1 (FM s wd).2.2 (On s wd)
def Bn(s:Zi)(wd:Int):Zi×Zi×Bool:=if Eu (AU s wd)=ay then Bp (Cb s wd).2.1 (Cb s wd).2.2 wd else (⟨#[]⟩,(Cb s wd).2)
def Bl(s:Zi)(wd:Int):Zi×Zl:=if CO (AU s wd)=ay then ((rd (Fw (Bn s wd).2.1 (Bn s wd).2.2) wd).1,(rd (Fw (Bn s wd).2.1 (Bn s wd).2.2) wd).2.1)else (⟨#[]⟩,[])
def Dl(s:Zi)(wd:Int):Zi×Bool:=if CO (AU s wd)=ay then (Kz (Bn s wd).2.1 (Bn s wd).2.2,GA (Bn s wd).2.1 (Bn s wd).2.2 wd)else (Bn s wd).2
def Gd(s:Zi)(wd:Int):Bool:=(Dl s wd).2|| !bq ((Dl s wd).1.size=0)
def KF(s:Zi)(wd:Int):Bool:=Ca (AU s wd) (Bn s wd).1 (Cb s wd).1 (FB s wd) (Bl s wd).1 (Bl s wd).2 wd
def CR(s:Zi)(wd:Int):Bool:=Gd s wd|| !KF s wd
theorem FU{a:Bool}(h:(Bp rest a n).2.2=ba):a=ba:=by
 unfold Bp at h;cases a
 .rfl
 simp at h
theorem Sc(s:Zi)(a:Int):(rd s a).1.size<=s.size:=by
 unfold rd;split
 .split
  .exact Aw _
  unfold Lq Eb;split
  .simp;omega
  exact Aw _
 exact Aw _
theorem Fp(rest:Zi)(a:Bool)(n:Int):(Bp rest a n).1.size<=rest.size/\(Bp rest a n).2.1.size<=rest.size:=by
 unfold Bp;split
 .exact⟨Aw _,Zx⟩
 split
 .exact⟨Aw _,Zx⟩
 simp;omega
structure EW (w W:Zh) (b:Nat) (rest:Zi) (kind:Int) (bad:Bool):Prop where
 rs:Ez W b rest kind bad
 env:Env W
 gr:ek w W (ai b)
 fy:Aa W w.1.size [Ze,Zc,Zc,Ze,Zc,Zb]
def Pp(b:Nat):Prop:=∀g∈[0,1,2,3,6,7,5,4],g<b
theorem EW.step{e:Zh}{c:Zi}{g d:Bool}(h:EW w W b rest kind g)(i:Pp b)(j:b<w.1.size)(k:Ez e b c a d)(f:ek W e (ai b)):EW w e b c a d:=
 ⟨k,h.env.jm f i,h.gr.ag f,h.fy.br f j⟩
theorem EW.A{c:Zh}(h:EW w W b rest kind bad)(a:Zz W c):EW w c b rest kind bad:=
 ⟨h.rs.A a,h.env.A a,h.gr.ag (Al _ a),h.fy.A a⟩
theorem EW.set{a:Bool}(h:EW w W b rest kind a)(c:Pp b)(i:b<w.1.size)(B j:Nat)(v:Dg)(f:w.1.size<B):EW w (W.setCell (Zd B j) v) b rest kind a:=
 ⟨h.rs.br (Ao W B j v) Yv,h.env.jm (Ao W B j v) (λg d=>C8 (c g d)),h.gr.andThen (Ao W B j v) (λd e=>by cases e;exact cr Yv),h.fy.az (Ao W B j v) Yv⟩
theorem Td(s:Zi)(a:Int):0<=On s a:=(MF _).1
theorem WV{c:Int}(h:(Cb s c).2.2=ba):0<=c:=by have e:=FU h;have d:=FU e;have b:=FU d;unfold Gc at b;have a:=FU (Bool.or_eq_false_iff.1 b).1;unfold GS at a;simp at a;omega
theorem Abe{wd:Int}(j:s.size<=1048576):(Cb s wd).1.size<=1048576/\(Bn s wd).2.1.size<=1048576/\(Bl s wd).1.size<=1048576/\(Dl s wd).1.size<=1048576:=by
 obtain⟨f,g,h,b,i⟩:=Fp s (GS wd) (1:Nat),Fp (EO s wd).2.1 (Gc s wd) (4:Nat),Fp (EH s wd).2.1 (EH s wd).2.2 (1:Nat),Fp (FM s wd).2.1 (FM s wd).2.2 (On s wd),Fp (Cb s wd).2.1 (Cb s wd).2.2 wd;have k:=Zm f.2 j;have l:=Zm g.2 k;have c:=Zm h.2 l;have d:=Zm b.2 c;have e:=Zm b.1 c;have a:(Bn s wd).2.1.size<=1048576:=by
  unfold Bn;split
  .exact Zm i.2 d
  exact d
 refine⟨e,a,?_,?_⟩
 .unfold Bl;split
  .exact Zm (Sc _ _) (RS a)
  exact Aw _
 unfold Dl;split
 .exact Zm (Fp _ _ _).2 a
 exact a
theorem WW(s:Zi)(a:Int):ed (Bl s a).2<=255:=by
 unfold Bl;split
 .exact YZ _ _
 exact Aw _
theorem EW.lt(h:EW w W b rest kind bad):w.1.size<W.1.size:=h.fy.lt
theorem Vf(wd:Int)(h:Ez w b s 0 ba)(m:Env w)(l:Pp b)(hs:s.size<=1048576):
 D4 133 #[Yy b,Zg wd] w λe g=>∃v,e=C1 (ca #[Zg (AU s wd),C0 (Bn s wd).1,C0 (Cb s wd).1,Zg (FB s wd),C0 (Bl s wd).1,v])/\
  ej g w.1.size 9 1 v (ed (Bl s wd).2) ((Bl s wd).2.map string)/\Ez g b (Dl s wd).1 (AU s wd) (CR s wd)/\ek w g (ai b):=by
 obtain⟨c,i,W,f⟩:=h.lt,Yw l,Du w Xy 117;have a:=(Av f).1;have d:Hid (EW w W b s 0 ba):=⟨h.A a,m.A a,Al _ a,by rw[f];exact Aa.new w _ _⟩;have n:=Yw f;clear f h m l a;have⟨l,m,f⟩:=d.env.er 0 Yu;delta D4;go_in;go_upto_region 1 with fail;rw[<-n.o];clear n;have o:bq (1<=wd/\wd<=8)= !GS wd:=by unfold GS;simp
 go_upto_if 10 with(go_at_call 45;refine(WU wd _).ah ?_;rintro e g ⟨rfl,a⟩;rw[a];clear a g);go_cut [] (λg=>Hid (EW w g b s 0 (GS wd)))
 case first=>
  cases hb0:GS wd with
  |true=>go_wp2_with fail;refine(Gp l m d.rs).ah ?_;rintro e w1 ⟨rfl,h1,g1⟩;go_wp2_with fail;go_meet;rw[hb0];exact d.step i c h1 g1
  |false=>go_wp2_with fail;go_meet;rw[hb0];exact d.o
 case rest=>
 revert wc;intro w1 n;clear d f o;have⟨st,sv,f⟩:=n.env.er 6 Yu;go_wp2_with fail;refine(Hf 1 st sv n.rs Yv f).ah ?_;rintro e w2 ⟨rfl,t,r⟩;have d:Hid (EW w w2 b (EO s wd).2.1 0 (EO s wd).2.2):=n.step i c t r;rw[show CN (Bp s (GS wd) (1:Nat)).1.data.toList=AU s wd from rfl];have⟨W3,a⟩:=D2 w2 b 1 (Zg (AU s wd));have o:Hid (EW w W3 b (EO s wd).2.1 (AU s wd) (EO s wd).2.2):=by rw[a];exact d.step i c (d.rs.setKind _) (Ao _ _ _ _)
 have⟨yB,_,E,x,F,B,C,D⟩:=d.rs;have q:=Yw a;clear a t r f n;go_upto_region 4 with fail;rw[<-q.o];clear q E x F B C D d;have⟨yC,_,E,x,F,B,C,D⟩:=o.rs;go_wp2_with fail;refine(Rj (AU s wd) o.env.iz).ah ?_;rintro e w4 ⟨rfl,t⟩;have u:Hid (EW w w4 b (EO s wd).2.1 (AU s wd) (EO s wd).2.2):=o.A t;have⟨T,a⟩:=Du w4 #[ec (Fm (AU s wd)),ec (Eu (AU s wd)),ec (CO (AU s wd)),Zg (Fo (AU s wd))] 225;have r:=(Av a).1;have d:Hid (EW w T b (EO s wd).2.1 (AU s wd) (EO s wd).2.2):=u.A r;have⟨U,n⟩:=Ag w4.1.size;have y:Hid (Aa T U [ec (Fm (AU s wd)),ec (Eu (AU s wd)),ec (CO (AU s wd)),Zg (Fo (AU s wd))]):=by rw[a,n];exact Aa.new w4 _ _
 have yF:w.1.size<U:=by rw[n];exact u.lt
 have q:=Yw a;have HU:=Yw n;clear a n r t o u E x F B C D;have⟨l,m,f⟩:=d.env.er 1 Yu;go_upto_region 5 with fail;rw[<-q.o,<-HU.o];clear q HU;go_upto_if 28 with fail;go_cut [6] (λ_ g=>Hid (EW w g b (EO s wd).2.1 (AU s wd) (Gc s wd))/\Hid (Aa g U [ec (Fm (AU s wd)),ec (Eu (AU s wd)),ec (CO (AU s wd)),Zg (Fo (AU s wd))]))
 case first=>
  cases hi:Fa (AU s wd)with
  |true=>go_wp2_with fail;go_meet;refine⟨?_,y⟩;rw[show Gc s wd=(EO s wd).2.2 by unfold Gc;rw[hi];simp];exact d.o
  |false=>go_wp2_with fail;refine(Gp l m d.rs).ah ?_;rintro e a ⟨rfl,h6,g6⟩;go_wp2_with fail;go_meet;refine⟨?_,y.br g6 Yv⟩;rw[show Gc s wd=ay by unfold Gc;rw[hi];simp];exact d.step i c h6 g6
 case rest=>
 revert wc;intro a hcut;obtain⟨n,z⟩:=hcut;clear d y f;have⟨d,zE⟩:∃d:Nat,d=0:=⟨_,rfl⟩;clear zE d;have r:=Yw (n.A ((Below.refl a.1.size a).drew));have q:bg a.1.size a (a.alloc (bs Xy 117)):=Zy;have o:=Yw (n.A q.drew);have t:Hid (Aa (a.alloc (bs Xy 117)).drew a.1.size Xx):=Aa.new a _ _;have⟨yD,_,E,x,F,B,C,D⟩:=n.rs;have M:eh (a.alloc (bs Xy 117)) (Zd b 1)=ai (Zg (AU s wd)):=(q.cell (p:=⟨b,1,an⟩) n.rs.lt).ag x;have⟨l,m,f⟩:=r.env.er 6 Yu;obtain⟨⟨zS,zT,y⟩,zH,zV⟩:=o.env.er 6 Yu,n.rs.lt,n.lt;clear q;go_upto_region 7 with fail;go_cut [7] (λv g=>∃d:Nat,v=Yy d/\a.1.size<=d/\Hid (EW w g b (EH s wd).2.1 (AU s wd) (EH s wd).2.2)/\Hid (ek a g (ai b))/\Hid (Aa g d [Zg (AU s wd),Zc,Zc,Zg (FB s wd),Zc,Zb]))
 case first=>
  go_region_with (first
   |(go_at_call 169;refine(Hf 4 l m r.rs Yv f).ah ?_;rintro e u ⟨rfl,X,N⟩;have S:Hid (EW w u b (EH s wd).2.1 (AU s wd) (EH s wd).2.2):=r.step i c X N;obtain⟨er7,_,y0,y1,y2,_,_,_⟩:=X;have K:=N;have zU:=S.rs.lt)
   |(go_at_call 169;refine(Hf 4 zS zT o.rs Yv y).ah ?_;rintro e u ⟨rfl,X,N⟩;have S:Hid (EW w u b (EH s wd).2.1 (AU s wd) (EH s wd).2.2):=o.step i c X N;obtain⟨er7,_,y0,y1,y2,_,_,_⟩:=X;have H:=Aa.br t N zH;have Y:=(H 0 _ rfl);have P:=(H 1 _ rfl);have I:=(H 2 _ rfl);have Z:=(H 3 _ rfl);have Q:=(H 4 _ rfl);have R:=(H 5 _ rfl);obtain⟨Y,y0f⟩:=Y;obtain⟨P,y1f⟩:=P;obtain⟨I,y2f⟩:=I;obtain⟨Z,y3f⟩:=Z;obtain⟨Q,y4f⟩:=Q;obtain⟨R,y5f⟩:=R;have zI:=N;have zU:=S.rs.lt))
  all_goals go_wp2_with fail
  all_goals go_meet
  all_goals first
   |(have hA:bg u.1.size u (u.alloc (bs #[Zg (AU s wd),Zc,Zc,Zg (FB s wd),Zc,Zb] 117)):=Zy
     exact⟨u.1.size,rfl,K.size,S.A hA,((Al (ai b) (Below.refl a.1.size a).drew).ag K).ag (Al _ hA),Aa.new u _ _⟩)
   |(have A:w.1.size<a.1.size:=zV
     refine⟨a.1.size,rfl,Zx,?_,?_,?_⟩
     .exact(((((S.set i c a.1.size 0 _ A).set i c a.1.size 1 _ A).set i c a.1.size 2 _ A).set i c a.1.size 3 _ A).set i c a.1.size 4 _ A).set i c a.1.size 5 _ A
     .have g0:ek a u (ai b):=(Al (ai b) ((Below.refl a.1.size a).alloc (Zx) _).drew).ag zI;exact(((((g0.andThen (Ao _ a.1.size 0 _) (λj e=>by cases e;exact cr (Zx))).andThen (Ao _ a.1.size 1 _) (λj e=>by cases e;exact cr (Zx))).andThen (Ao _ a.1.size 2 _) (λj e=>by cases e;exact cr (Zx))).andThen (Ao _ a.1.size 3 _) (λj e=>by cases e;exact cr (Zx))).andThen (Ao _ a.1.size 4 _) (λj e=>by cases e;exact cr (Zx))).andThen (Ao _ a.1.size 5 _) (λj e=>by cases e;exact cr (Zx))
     exact(((((H.set 0 _).set 1 _).set 2 _).set 3 _).set 4 _).set 5 _)
 case rest=>
 revert wc;intro w8 hcut;obtain⟨d,rfl,zE,q,G,L⟩:=hcut;have yE:U<d:=Zr z.lt zE;have J:Hid (Aa w8 U [ec (Fm (AU s wd)),ec (Eu (AU s wd)),ec (CO (AU s wd)),Zg (Fo (AU s wd))]):=z.br G Yv;clear n z r o t E x F B C D M f y G;have t:w.1.size<d:=Yv;have⟨l,m,f⟩:=q.env.er 6 Yu;go_wp2_with fail;refine(Hf 1 l m q.rs Yv f).ah ?_;rintro e w9 ⟨rfl,r,n⟩;have o:Hid (EW w w9 b (FM s wd).2.1 (AU s wd) (FM s wd).2.2):=q.step i c r n;have z:Hid (Aa w9 d [Zg (AU s wd),Zc,Zc,Zg (FB s wd),Zc,Zb]):=L.br n Yv;have y:Hid (Aa w9 U [ec (Fm (AU s wd)),ec (Eu (AU s wd)),ec (CO (AU s wd)),Zg (Fo (AU s wd))]):=J.br n Yv;rw[show CN (Bp (EH s wd).2.1 (EH s wd).2.2 (1:Nat)).1.data.toList=On s wd from rfl];clear q L J r n f;have⟨l,m,f⟩:=o.env.er 6 Yu;go_wp2_with fail;refine(JB b _ _ _ (On s wd) l m w9 o.rs (λ_=>Td s wd) f).ah ?_;rintro e O ⟨rfl,q,n⟩;have G:Hid (EW w O b (Cb s wd).2.1 (AU s wd) (Cb s wd).2.2):=o.step i c q n;have r:Hid (Aa O d [Zg (AU s wd),Zc,Zc,Zg (FB s wd),Zc,Zb]):=z.br n Yv;have L:Hid (Aa O U [ec (Fm (AU s wd)),ec (Eu (AU s wd)),ec (CO (AU s wd)),Zg (Fo (AU s wd))]):=y.br n Yv;rw[show(Bp (FM s wd).2.1 (FM s wd).2.2 (On s wd)).1=(Cb s wd).1 from rfl];clear o z y q n f;obtain⟨⟨I,M⟩,z,n⟩:=r 2 _ rfl,D2 O d 2 (C0 (Cb s wd).1);have o:Hid (EW w z b (Cb s wd).2.1 (AU s wd) (Cb s wd).2.2):=by rw[n];exact G.set i c d 2 _ t
 have J:Hid (Aa z d [Zg (AU s wd),Zc,C0 (Cb s wd).1,Zg (FB s wd),Zc,Zb]):=by rw[n];exact r.set 2 _
 have y:Hid (Aa z U [ec (Fm (AU s wd)),ec (Eu (AU s wd)),ec (CO (AU s wd)),Zg (Fo (AU s wd))]):=by rw[n];exact L.az (Ao _ _ _ _) Yv
 have q:=Yw n;clear n G r L;go_upto_region 9 with fail;rw[<-q.o];clear q I M;obtain⟨M,_⟩:=y 1 _ rfl;go_upto_if 45 with fail;go_cut [] (λg=>Hid (EW w g b (Bn s wd).2.1 (AU s wd) (Bn s wd).2.2)/\Hid (Aa g U [ec (Fm (AU s wd)),ec (Eu (AU s wd)),ec (CO (AU s wd)),Zg (Fo (AU s wd))])/\Hid (Aa g d [Zg (AU s wd),C0 (Bn s wd).1,C0 (Cb s wd).1,Zg (FB s wd),Zc,Zb]))
 case first=>
  cases hu:Eu (AU s wd)with
  |true=>
   have e5:Hid (Bn s wd=Bp (Cb s wd).2.1 (Cb s wd).2.2 wd):=by show _=_;unfold Bn;rw[if_pos hu]
   have⟨l,m,f⟩:=o.env.er 6 Yu;go_wp2_with fail;refine(JB b _ _ _ wd l m z o.rs (λh=>WV h) f).ah ?_;rintro e zF ⟨rfl,L,n⟩;rw[<-e5.o]at L |-;have q:=o.step i c L n;have r:=J.br n Yv;obtain⟨G,P,yI⟩:=y.br n Yv,r 1 _ rfl;clear L n f M o J y;go_wp2_with fail;go_meet;refine⟨q.set i c d 1 _ t,?_,r.set 1 _⟩;exact G.az (Ao _ _ _ _) Yv
  |false=>
   have e5:Hid (Bn s wd=(⟨#[]⟩,(Cb s wd).2)):=(by show _=_;unfold Bn;rw[if_neg (by rw[hu];decide)]);go_wp2_with fail;go_meet;rw[e5.o];exact⟨o,y,J⟩
 case rest=>
 revert wc;intro zF hcut;obtain⟨q,G,r⟩:=hcut;clear o J y M;obtain⟨zA,k,_⟩:=Yw (Abe (wd:=wd) hs),G 2 _ rfl;go_upto_if 51 with fail;go_cut [] (λg=>∃(n:Zk) (o:Nat),Hid (EW w g b (Dl s wd).1 (AU s wd) (Dl s wd).2)/\Hid (Aa g d (Xw (AU s wd) ((Bn s wd).1) ((Cb s wd).1) (FB s wd) ((Bl s wd).1) n (ed (Bl s wd).2) o))/\Hid (ej g (w.1.size+1) 9 1 (Cw n (Bl s wd).2 o) (ed (Bl s wd).2) ((Bl s wd).2.map string)))
 case first=>
  cases hu:CO (AU s wd)with
  |true=>
   have e6:Hid (Dl s wd=(Kz (Bn s wd).2.1 (Bn s wd).2.2,GA (Bn s wd).2.1 (Bn s wd).2.2 wd)):=(by show _=_;unfold Dl;rw[if_pos hu]);have V:Hid (Bl s wd=((rd (Fw (Bn s wd).2.1 (Bn s wd).2.2) wd).1,(rd (Fw (Bn s wd).2.1 (Bn s wd).2.2) wd).2.1)):=(by show _=_;unfold Bl;rw[if_pos hu]);go_wp2_with fail;refine(US wd q.rs q.env i zA.2.1).ah ?_;rintro e zW ⟨v,rfl,ho,y,L⟩;have J:(rd (Fw (Bn s wd).2.1 (Bn s wd).2.2) wd).1=(Bl s wd).1:=(by rw[V.o]);have M:(rd (Fw (Bn s wd).2.1 (Bn s wd).2.2) wd).2.1=(Bl s wd).2:=(by rw[V.o]);rw[M]at ho;rw[J];clear J M;have y:Ez zW b (Dl s wd).1 (AU s wd) (Dl s wd).2:=by rw[e6.o];exact y
   have⟨n,o,hv,_⟩:=Ey ho;subst hv;have zM:=q.step i c y L;have yA:=q.lt;have M:=r.br L Yv;obtain⟨zZ,⟨Q,yJ⟩,R,yK⟩:=M.lt,M 4 _ rfl,M 5 _ rfl;have J:d<zF.1.size:=r.lt;clear y L k q G r e6 V;go_wp2_with fail;go_meet;exact⟨n,o,(zM.set i c d 4 _ t).set i c d 5 _ t,(M.set 4 _).set 5 _,(ownsRow_setCell_below (ownsRow_setCell_below ho J _) J _).ah Yv⟩
  |false=>
   have e6:Hid (Dl s wd=(Bn s wd).2):=(by show _=_;unfold Dl;rw[if_neg (by rw[hu];decide)]);have V:Hid (Bl s wd=(⟨#[]⟩,[])):=(by show _=_;unfold Bl;rw[if_neg (by rw[hu];decide)]);go_wp2_with fail;go_meet;rw[e6.o,V.o];exact⟨an,0,q,r,ownsRow_nil _ _ _ _⟩
 case rest=>
 revert wc;intro zX hcut;obtain⟨n,o,y,zB,L⟩:=hcut;clear q G r k;have⟨zY,_,E,x,F,B,C,D⟩:=y.rs;have⟨l,m,f⟩:=y.env.er 2 Yu;have q:∀k,(Cw n (Bl s wd).2 o).ownBlock=ai k->b<k:=λk r=>C8 (L.lt k r).1;have zJ:=Yw q;clear q;go_upto_if 60 with fail;go_cut [] (λg=>Hid (EW w g b (Dl s wd).1 (AU s wd) (Gd s wd))/\Hid (Aa g d (Xw (AU s wd) ((Bn s wd).1) ((Cb s wd).1) (FB s wd) ((Bl s wd).1) n (ed (Bl s wd).2) o))/\Hid (ej g (w.1.size+1) 9 1 (Cw n (Bl s wd).2 o) (ed (Bl s wd).2) ((Bl s wd).2.map string)))
 case first=>
  have zK:=Yw (Ob (s:=(Dl s wd).1));cases hq:(Dl s wd).1.toList.isEmpty with
  |true=>
   have q:(Dl s wd).1.size=0:=by have:=zK.o;rw[hq]at this;simpa using this.symm
   have h0:=Yw q;clear q;clear hq;go_wp2_with fail;go_meet;rw[show Gd s wd=(Dl s wd).2 by unfold Gd;rw[decide_eq_true h0.o];simp];exact⟨y,zB,L⟩
  |false=>
   have q:¬(Dl s wd).1.size=0:=(by have:=zK.o;rw[hq]at this;simpa using this.symm);have h0:=Yw q;clear q;clear hq;go_wp2_with fail;refine(Gp l m y.rs).ah ?_;rintro e yG ⟨rfl,r,q⟩;have zN:=y.step i c r q;have zP:=zB.br q Yv;have zO:=L.kept q (.inr (λe=>C8 (zJ b e)));clear r q E x F B C D f;go_wp2_with fail;go_meet;rw[show Gd s wd=ay by unfold Gd;rw[decide_eq_false h0.o];simp];exact⟨zN,zP,zO⟩
 case rest=>
 revert wc;intro zG hcut;obtain⟨G,zC,k⟩:=hcut;clear y zB L E x F B C D f;obtain⟨Y,P,I,Z,Q,R⟩:=Aa.c6 zC 0 1 2 3 4 5;have hlen:=WW s wd;have D:Hid (Ad zG zG.1.size n (Bl s wd).2):=by have⟨a',c',hv,L⟩:=Ey k;cases hv;exact L
 go_wp2_with fail;refine(Wv (AU s wd) (Bn s wd).1 (Cb s wd).1 (FB s wd) (Bl s wd).1 n o (Bl s wd).2 wd G.env.iz D Yv (by have:=zA.2.2.1;unfold eo;omega) (by have:=zA.1;unfold eo;omega)).ah ?_;rintro e x ⟨rfl,q⟩;rw[show Ca (AU s wd) (Bn s wd).1 (Cb s wd).1 (FB s wd) (Bl s wd).1 (Bl s wd).2 wd=KF s wd from rfl];have r:Hid (EW w x b (Dl s wd).1 (AU s wd) (Gd s wd)):=G.A q;have B:Hid (Aa x d (Xw (AU s wd) ((Bn s wd).1) ((Cb s wd).1) (FB s wd) ((Bl s wd).1) n (ed (Bl s wd).2) o)):=zC.A q;have y:Hid (ej x (w.1.size+1) 9 1 (Cw n (Bl s wd).2 o) (ed (Bl s wd).2) ((Bl s wd).2.map string)):=k.kept (Al an q) (Classical.em _);clear G zC k Y P I Z Q R q;have⟨l,m,f⟩:=r.env.er 3 Yu;go_upto_if 67 with fail;go_cut [] (λg=>Hid (EW w g b (Dl s wd).1 (AU s wd) (CR s wd))/\Hid (Aa g d (Xw (AU s wd) ((Bn s wd).1) ((Cb s wd).1) (FB s wd) ((Bl s wd).1) n (ed (Bl s wd).2) o))/\Hid (ej g (w.1.size+1) 9 1 (Cw n (Bl s wd).2 o) (ed (Bl s wd).2) ((Bl s wd).2.map string)))
 case first=>
  cases hok:KF s wd with
  |true=>go_wp2_with fail;go_meet;rw[show CR s wd=Gd s wd by unfold CR;rw[hok];simp];exact⟨r,B,y⟩
  |false=>go_wp2_with fail;refine(Gp l m r.rs).ah ?_;rintro e k ⟨rfl,q,g⟩;have C:=r.step i c q g;have F:=B.br g Yv;have E:=y.kept g (.inr (λe=>C8 (zJ b e)));clear q g f;go_wp2_with fail;go_meet;rw[show CR s wd=ay by unfold CR;rw[hok];simp];exact⟨C,F,E⟩
 case rest=>
 revert wc;intro yH hcut;obtain⟨g,G,q⟩:=hcut;clear r B y f;obtain⟨⟨Y,P,I,Z,Q,R⟩,⟨r0,y⟩,⟨r1,B⟩,⟨r2,q2⟩,⟨r3,q3⟩,⟨r4,q4⟩,r5,q5⟩:=Aa.c6 G 0 1 2 3 4 5,g.fy 0 _ rfl,g.fy 1 _ rfl,g.fy 2 _ rfl,g.fy 3 _ rfl,g.fy 4 _ rfl,g.fy 5 _ rfl;have f:b≠w.1.size:=Yv;go_wp2;refine Co (ca (Ye (AU s wd) ((Bn s wd).1) ((Cb s wd).1) (FB s wd) ((Bl s wd).1) n (ed (Bl s wd).2) o)) (by simp[results,results133,go_sem, *]) ?_;have r:w.1.size<w.1.size+1:=Yv;refine⟨_,rfl,?_,?_,?_⟩
 .refine ownsRow.ah ?_ (Nat.le_succ w.1.size)
  iterate 6 (refine ownsRow_setCell_below ?_ r _)
  exact q.o
 .exact(((((g.rs.br (Ao _ w.1.size 0 _) f).br (Ao _ w.1.size 1 _) f).br (Ao _ w.1.size 2 _) f).br (Ao _ w.1.size 3 _) f).br (Ao _ w.1.size 4 _) f).br (Ao _ w.1.size 5 _) f
 exact(((((g.gr.andThen (Ao _ w.1.size 0 _) (λj e=>by cases e;exact cr (Zx))).andThen (Ao _ w.1.size 1 _) (λj e=>by cases e;exact cr (Zx))).andThen (Ao _ w.1.size 2 _) (λj e=>by cases e;exact cr (Zx))).andThen (Ao _ w.1.size 3 _) (λj e=>by cases e;exact cr (Zx))).andThen (Ao _ w.1.size 4 _) (λj e=>by cases e;exact cr (Zx))).andThen (Ao _ w.1.size 5 _) (λj e=>by cases e;exact cr (Zx))
abbrev AJ(l:List UInt8):Zi:=⟨ee l⟩
theorem Jq(s:Zi):AJ s.data.toList=s:=rfl
theorem Io(l:List UInt8)(a b:Nat):(AJ l).extract a b=AJ ((l.drop a).take (b -a)):=by apply ByteArray.ext;rw[ByteArray.data_extract];apply Array.ext';simp[take_drop]
theorem Ck(l:List UInt8):(AJ l).size=ed l:=by simp[ByteArray.size]
def JJ(T:List UInt8)(wd i:Nat):Zi:=AJ ((T.drop (i *wd)).take wd)
theorem Vg(T:List UInt8)(a:Nat):∀k,k *a<=ed T->flat ((range k).map (JJ T a))=T.take (k *a):=by
 intro k;induction k with
 |zero=>intro _;simp[flat]
 |succ k ih=>
  intro h;have b:k *a<=ed T:=gG;rw[range_succ,map_append];unfold flat at *
  rw[flatMap_append,ih b];simp only[map_cons,map_nil,flatMap_cons,flatMap_nil,append_nil,JJ];rw[Nat.succ_mul,take_add]
theorem Vh(a:Zl)(t:List UInt8)(b:Nat)(h:∀s∈a,s.size=b):(range (ed a)).map (JJ (flat a++t) b)=a:=by
 induction a with
 |nil=>rfl
 |cons s r ih=>
  have c:ed s.data.toList=b:=gA;have e:=ih (λx d=>h x gA);have d:flat (s::r)++t=s.data.toList++(flat r++t):=by simp[flat]
  rw[length_cons,range_succ_eq_map,map_cons,map_map,d];congr 1
  .unfold JJ;rw[Nat.zero_mul,drop_zero,take_left' c]
  refine Eq.trans ?_ e;apply map_congr_left;intro i _;simp only[Function.comp,JJ];congr 2;rw[show Nat.succ i *b=ed s.data.toList+i *b by rw[Nat.succ_mul,c];omega,<-drop_drop,drop_left]
theorem rd_mk(c:UInt8)(T:List UInt8)(a:Int)(e:1<=a)(f:a<=8):
 rd (AJ (c::T)) a=if c.toNat *a.toNat<=ed T/\AL (AJ (T.drop (c.toNat *a.toNat))) ((range c.toNat).map (JJ T a.toNat)) a=ay then (AJ (T.drop (c.toNat *a.toNat)),(range c.toNat).map (JJ T a.toNat),ay)else (⟨#[]⟩,[],ba):=by
 obtain⟨W,rfl⟩:∃W:Nat,a=W:=⟨a.toNat,Yv⟩;have b:(AJ (c::T)).size=ed T+1:=by rw[Ck];rfl
 have d:(AJ (c::T)).extract 1 (AJ (c::T)).size=AJ T:=by rw[b,Io];simp
 have j:Eb (AJ (c::T)) W c.toNat=AJ (T.drop (c.toNat *W)):=by unfold Eb;rw[d,Io,b];congr 2;rw[show((c.toNat:Int) *(W:Int)).toNat=c.toNat *W by rw[<-Int.natCast_mul];rfl];exact Zt Yu
 have h:BQ (AJ (c::T)) W c.toNat=(range c.toNat).map (JJ T W):=by unfold BQ;apply map_congr_left;intro i _;unfold Ky JJ;rw[d,Io];congr 2;rw[show((i:Int) *(W:Int)).toNat=i *W by rw[<-Int.natCast_mul];rfl,show((i:Int) *(W:Int)+(W:Int)).toNat=i *W+W by rw[<-Int.natCast_mul];omega];congr 1;omega
 have g:((c.toNat:Int) *(W:Int)<=((AJ (c::T)).size:Int) -1)↔c.toNat *W<=ed T:=Yv;unfold rd;rw[if_pos ⟨e,f⟩];simp only[head?_cons];unfold Lq;rw[j,h];simp only[g,Int.toNat_natCast]
theorem WX(h:(rd (AJ l) a).2.2=ay):AL (rd (AJ l) a).1 (rd (AJ l) a).2.1 a=ay/\Bu (rd (AJ l) a).1 (rd (AJ l) a).2.1=l:=by
 by_cases hw:1<=a/\a<=8
 .cases l with
  |nil=>unfold rd at h;rw[if_pos hw]at h;simp at h
  |cons c T=>
   rw[rd_mk c T a hw.1 hw.2]at h |-;split at h
   case isTrue hc=>
    rw[if_pos hc];refine⟨hc.2,?_⟩;simp only[Bu,A7,length_range];rw[Vg T a.toNat c.toNat hc.1];simp
   case isFalse hc=>simp at h
 unfold rd at h;rw[if_neg hw]at h;simp at h
theorem Lx{a:Zl}{b:Int}(h:AL t a b=ay):rd (AJ (Bu t a)) b=(t,a,ay):=by
 have p:=Bs h;have d:∀s∈a,s.size=b.toNat:=λs c=>by have⟨i,f⟩:=A3 c;have:=p.size f;omega
 have g:(UInt8.ofNat (ed a)).toNat=ed a:=by have:=p.C;simp;omega
 have c:ed (flat a)=ed a *b.toNat:=by rw[De,p.bz]
 unfold Bu;rw[rd_mk _ _ b p.lo p.hi,g,Vh a t.data.toList b.toNat d];have e:(flat a++t.data.toList).drop (ed a *b.toNat)=t.data.toList:=gA;rw[e,Jq,if_pos ⟨by rw[Am,c];omega,h⟩]
section
structure ER where
 k:Int
 sum:Zi
 name:Zi
 n:Int
 t:Zi
 ss:Zl
 ok:Bool
def Ip:ER:=⟨0,⟨#[]⟩,⟨#[]⟩,0,⟨#[]⟩,[],ba⟩
def AI(s:Zi)(wd:Int):ER:=
 if CR s wd=ay then Ip else ⟨AU s wd,(Bn s wd).1,(Cb s wd).1,FB s wd,(Bl s wd).1,(Bl s wd).2,ay⟩
def Oo(k:Int)(rest:List UInt8):Zi:=if k=1 then ⟨#[]⟩else AJ rest
def Oq(k:Int)(rest:List UInt8)(wd:Int):Zi:=if k=1 then (rd (AJ rest) wd).1 else ⟨#[]⟩
def Ot(k:Int)(rest:List UInt8)(wd:Int):Zl:=if k=1 then (rd (AJ rest) wd).2.1 else []
def Nv(k n:Int)(name rest l:List UInt8)(wd:Int):Bool:=
 Ca k (Oo k rest) (AJ name) n (Oq k rest wd) (Ot k rest wd) wd&&bq (Cs k (Oo k rest) (AJ name) n (Oq k rest wd) (Ot k rest wd) wd=AJ l)
theorem EI(l:List UInt8)(n:Nat)(h:n<=ed l):Bp (AJ l) ba n=(AJ (l.take n),AJ (l.drop n),ba):=by unfold Bp;rw[if_neg Yq,if_neg (by rw[Ck];omega),Io,Io,Ck];simp;exact Zt Yu
theorem FC(l:List UInt8)(n:Int)(h:(ed l:Int)<n):Bp (AJ l) ba n=(⟨#[]⟩,AJ l,ay):=by unfold Bp;rw[if_neg Yq,if_pos (by rw[Ck];exact h)]
theorem Hi(r:Zi)(n:Int):Bp r ay n=(⟨#[]⟩,r,ay):=by simp[Bp]
theorem JK{b:Int}(h:(Cb s b).2.2=ay):CR s b=ay:=by
 cases hb:CR s b with
 |true=>rfl
 |false=>
  unfold CR at hb;have d:=(Bool.or_eq_false_iff.1 hb).1;unfold Gd at d;have a:=(Bool.or_eq_false_iff.1 d).1;have c:(Bn s b).2.2=ba:=by
   unfold Dl at a;split at a
   .simp only[GA]at a;exact FU (Bool.or_eq_false_iff.1 a).1
   exact a
  have e:(Cb s b).2.2=ba:=by
   unfold Bn at c;split at c
   .exact FU c
   exact c
  rw[e]at h;cases h
theorem LW(h:(FM s a).2.2=ay):(Cb s a).2.2=ay:=by unfold Cb;rw[h,Hi]
theorem Qq(h:(EH s a).2.2=ay):(FM s a).2.2=ay:=by unfold FM;rw[h,Hi]
theorem WY(h:Gc s a=ay):(EH s a).2.2=ay:=by unfold EH;rw[h,Hi]
theorem Gq(h:Gc s a=ay):CR s a=ay:=JK (LW (Qq (WY h)))
theorem WZ(h:¬(1<=a/\a<=8)):CR s a=ay:=by refine Gq ?_;unfold Gc EO;rw[show GS a=ay by unfold GS;simp;omega,Hi];rfl
theorem ZG(b:1<=a)(c:a<=8):GS a=ba:=by unfold GS;simp[b,c]
theorem ZH(a:UInt8):CN [a]=(a.toNat:Int):=by simp[CN]
theorem Te(a b c d:UInt8):CN [a,b,c,d]=(a.toNat:Int) *16777216+(b.toNat:Int) *65536+(c.toNat:Int) *256+(d.toNat:Int):=by simp only[CN,foldl_cons,foldl_nil];omega
theorem Adu(b:1<=a)(c:a<=8):CR (AJ []) a=ay:=by refine Gq ?_;unfold Gc EO;rw[ZG b c,FC [] _ Yu];rfl
theorem Lb{b:Int}(a:UInt8)(l:List UInt8)(c:1<=b)(d:b<=8):EO (AJ (a::l)) b=(AJ [a],AJ l,ba):=by unfold EO;rw[ZG c d,EI _ _ Yu];rfl
theorem Vi{b:Int}(a:UInt8)(l:List UInt8)(c:1<=b)(d:b<=8):AU (AJ (a::l)) b=(a.toNat:Int):=by unfold AU;rw[Lb a l c d];exact ZH a
theorem Hp{b:Int}(a:UInt8)(l:List UInt8)(c:1<=b)(d:b<=8):Gc (AJ (a::l)) b= !Fa (a.toNat:Int):=by unfold Gc;rw[Lb a l c d,Vi a l c d];rfl
theorem XA(a:UInt8)(l:List UInt8)(b:1<=d)(c:d<=8)(e:ed l<4):CR (AJ (a::l)) d=ay:=by
 cases hk:Fa (a.toNat:Int)with
 |false=>exact Gq (by rw[Hp a l b c,hk];rfl)
 |true=>refine JK (LW (Qq ?_));unfold EH;rw[Hp a l b c,hk,Lb a l b c];rw[show(!true)=ba from rfl,FC l _ Yv]
theorem Tf(b c d e f:UInt8)(l:List UInt8)(g:1<=a)(h:a<=8)(i:Fa (b.toNat:Int)=ay):EH (AJ (b::c::d::e::f::l)) a=(AJ [c,d,e,f],AJ l,ba):=by unfold EH;rw[Hp _ _ g h,i,Lb _ _ g h];rw[show(!true)=ba from rfl,EI _ _ Yu];rfl
theorem XB{b:Int}(a c d e f:UInt8)(g:1<=b)(h:b<=8)(i:Fa (a.toNat:Int)=ay):CR (AJ [a,c,d,e,f]) b=ay:=by refine JK (LW ?_);unfold FM;rw[Tf a c d e f [] g h i,FC [] _ Yu]
theorem Tg{c:Int}(a d e f g b:UInt8)(T:List UInt8)(h:1<=c)(i:c<=8)(j:Fa (a.toNat:Int)=ay):FM (AJ (a::d::e::f::g::b::T)) c=(AJ [b],AJ T,ba):=by unfold FM;rw[Tf a d e f g (b::T) h i j,EI _ _ Yu];rfl
theorem Adv{c:Int}(b d e f g a:UInt8)(T:List UInt8)(h:1<=c)(i:c<=8)(j:Fa (b.toNat:Int)=ay):On (AJ (b::d::e::f::g::a::T)) c=(a.toNat:Int):=by unfold On;rw[Tg b d e f g a T h i j];exact ZH a
theorem XC(a c d e f b:UInt8)(T:List UInt8)(h:1<=g)(i:g<=8)(j:Fa (a.toNat:Int)=ay)(hT:ed T<b.toNat):CR (AJ (a::c::d::e::f::b::T)) g=ay:=by refine JK ?_;unfold Cb;rw[Adv a c d e f b T h i j,Tg a c d e f b T h i j,FC T _ Yv]
theorem Afa(b c d e f a:UInt8)(T:List UInt8)(h:1<=g)(i:g<=8)(j:Fa (b.toNat:Int)=ay)(hT:a.toNat<=ed T):Cb (AJ (b::c::d::e::f::a::T)) g=(AJ (T.take a.toNat),AJ (T.drop a.toNat),ba):=by unfold Cb;rw[Adv b c d e f a T h i j,Tg b c d e f a T h i j,EI T _ hT]
theorem Agg(a b c d e:UInt8)(l:List UInt8)(g:1<=f)(h:f<=8)(i:Fa (a.toNat:Int)=ay):FB (AJ (a::b::c::d::e::l)) f=CN [b,c,d,e]:=by unfold FB;rw[Tf a b c d e l g h i]
theorem Hq(a:UInt8)(x:Int)(h:x=(a.toNat:Int)):u8 x=a:=by subst h;simp[u8]
theorem XD(e a b c d f:UInt8):BK (e.toNat:Int) (CN [a,b,c,d]) (f.toNat:Int)=[e,a,b,c,d,f]:=by have g:=a.toNat_lt;have h:=b.toNat_lt;have i:=c.toNat_lt;have j:=d.toNat_lt;unfold BK;rw[Te];rw[Hq e _ rfl,Hq f _ rfl,Hq a _ Yv,Hq b _ Yv,Hq c _ Yv,Hq d _ Yv]
theorem Abf(h:Fa (k:Int)=ay):1<=k/\k<=7:=by unfold Fa at h;simp at h;omega
theorem Abg{k:Int}{b a:Zi}(h:Fa k=ba):Ca k b a n t c d=ba:=by unfold Ca;unfold Fa at h;rw[h];rfl
theorem IM{b a:Zi}(h:Ca (k:Int) b a n t c d=ay):CL k b a n t c d=ay:=by unfold Ca at h;exact(Bool.and_eq_true_iff.1 h).2
theorem Sd{b a:Zi}{e:Zl}(h:Ca (k:Int) b a n t e d=ay):DW (DR k) b d=ay:=by have c:=IM h;unfold CL at c;exact(Bool.and_eq_true_iff.1 (Bool.and_eq_true_iff.1 c).2).1
theorem Th(h:(AJ l).size=0):AJ l=⟨#[]⟩:=by rw[Ck]at h;rw[A9 h]
theorem JL{b a:Zi}(h:Ca (k:Int) b a n t c d=ay):Cs k b a n t c d=AJ l↔Dh k b a n t c=l:=by
 unfold Cs;rw[if_pos h,Int.toNat_natCast];constructor
 .intro e;have:=congrArg (λs:Zi=>s.data.toList) e;simpa using this
 intro e;rw[e]
theorem KG(b f g i j c:UInt8)(T:List UInt8)(y:1<=a)(z:a<=8)(hT:c.toNat<=ed T):
 AI (AJ (b::f::g::i::j::c::T)) a=
  if Nv (b.toNat:Int) (CN [f,g,i,j]) (T.take c.toNat) (T.drop c.toNat) (b::f::g::i::j::c::T) a=ay then
   ⟨(b.toNat:Int),Oo (b.toNat:Int) (T.drop c.toNat),AJ (T.take c.toNat),CN [f,g,i,j],Oq (b.toNat:Int) (T.drop c.toNat) a,Ot (b.toNat:Int) (T.drop c.toNat) a,ay⟩
  else Ip:=by
 cases hk:Fa (b.toNat:Int)with
 |false=>unfold AI;rw[if_pos (Gq (by rw[Hp _ _ y z,hk];rfl)),if_neg (by unfold Nv;rw[Abg hk];simp)]
 |true=>
  have⟨R,S⟩:=Abf hk;obtain⟨k,o,w⟩:=Afa b f g i j c T y z hk hT,Vi b (f::g::i::j::c::T) y z,Agg b f g i j (c::T) y z hk;have L:(AJ (T.take c.toNat)).size=c.toNat:=by rw[Ck];simp;omega
  have B:∀x:List UInt8,BK (b.toNat:Int) (CN [f,g,i,j]) ((AJ (T.take c.toNat)).size:Int)++(AJ (T.take c.toNat)).data.toList++x=(b::f::g::i::j::c::T)↔x=T.drop c.toNat:=by
   intro x;rw[L,XD];constructor
   .intro h;have P:T.take c.toNat++x=T:=gA;have Q:T.take c.toNat++x=T.take c.toNat++T.drop c.toNat:=Yt;exact gG
   intro h;rw[h];simp
  generalize hs:(AJ (b::f::g::i::j::c::T))=s at *
  generalize hnm:AJ (T.take c.toNat)=name at *
  generalize hrs:T.drop c.toNat=rest at *
  generalize hn:CN [f,g,i,j]=n at *
  by_cases hk1:b.toNat=1
  .
   have E:Eu (AU s a)=ba:=(by rw[o,hk1];rfl);have F:CO (AU s a)=ay:=(by rw[o,hk1];rfl);have d:Bn s a=(⟨#[]⟩,AJ rest,ba):=(by unfold Bn;rw[if_neg Yt,k]);have D:Fw (AJ rest) ba=AJ rest:=(by unfold Fw;rw[Ck,EI _ _ (Zx)];simp);have N:Kz (AJ rest) ba=⟨#[]⟩:=(by unfold Kz;rw[Ck,EI _ _ (Zx)];simp);have I:GA (AJ rest) ba a= !(rd (AJ rest) a).2.2:=(by unfold GA;rw[D,Ck,EI _ _ (Zx)];rfl);have p:Bl s a=((rd (AJ rest) a).1,(rd (AJ rest) a).2.1):=(by unfold Bl;rw[if_pos F,d];simp only[D]);have q:Dl s a=(⟨#[]⟩, !(rd (AJ rest) a).2.2):=(by unfold Dl;rw[if_pos F,d];simp only[N,I]);have t:KF s a=Ca (b.toNat:Int) ⟨#[]⟩ name n (rd (AJ rest) a).1 (rd (AJ rest) a).2.1 a:=(by unfold KF;rw[o,w,k,d,p]);have r:CR s a=(!(rd (AJ rest) a).2.2|| !Ca (b.toNat:Int) ⟨#[]⟩ name n (rd (AJ rest) a).1 (rd (AJ rest) a).2.1 a):=(by unfold CR Gd;rw[t,q];simp[ByteArray.size]);have u:((b.toNat:Int)=1):=Yv
   unfold AI Nv Oo Oq Ot;rw[if_pos u,if_pos u,if_pos u,hnm,r,o,d,k,w,p];simp only;cases m:Ca (b.toNat:Int) ⟨#[]⟩ name n (rd (AJ rest) a).1 (rd (AJ rest) a).2.1 a with
   |false=>simp
   |true=>
    have H:=JL (l:=b::f::g::i::j::c::T) m;have O:=(Ea (IM m)).fh hk1;have J:Dh b.toNat ⟨#[]⟩ name n (rd (AJ rest) a).1 (rd (AJ rest) a).2.1=(b::f::g::i::j::c::T)↔Bu (rd (AJ rest) a).1 (rd (AJ rest) a).2.1=rest:=(by rw[<-B];unfold Dh;rw[if_pos hk1];simp);rw[J]at H;have K:Bu (rd (AJ rest) a).1 (rd (AJ rest) a).2.1=rest↔(rd (AJ rest) a).2.2=ay:=by
     constructor
     .intro e;have:=Lx O;rw[e]at this;rw[this]
     intro e;exact(WX e).2
    rw[K]at H;cases hr:(rd (AJ rest) a).2.2 with
    |true=>rw[if_neg Yu,if_pos gA]
    |false=>rw[if_pos Yu,if_neg gA]
  have F:CO (AU s a)=ba:=by rw[o];unfold CO CC;simp[hk1]
  have u:¬((b.toNat:Int)=1):=Yv;have p:Bl s a=(⟨#[]⟩,[]):=by unfold Bl;rw[if_neg Yt]
  have q:Dl s a=(Bn s a).2:=by unfold Dl;rw[if_neg Yt]
  have v:∀A,Ca (b.toNat:Int) A name n ⟨#[]⟩ [] a=ay->A=AJ rest->Cs (b.toNat:Int) A name n ⟨#[]⟩ [] a=s:=by intro A m e;rw[<-hs];refine(JL (l:=b::f::g::i::j::c::T) m).2 ?_;unfold Dh;rw[if_neg hk1,e,append_nil];exact(B rest).2 rfl
  unfold AI Nv Oo Oq Ot;rw[if_neg u,if_neg u,if_neg u,hnm,hs];cases hu:DR b.toNat with
  |true=>
   have E:Eu (AU s a)=ay:=(by rw[o];unfold Eu;rw[hk,Int.toNat_natCast,hu];rfl);have d:Bn s a=Bp (AJ rest) ba a:=(by unfold Bn;rw[if_pos E,k]);obtain⟨W,rfl⟩:∃W:Nat,a=W:=⟨a.toNat,Yv⟩;by_cases hsz:ed rest=W
   .rw[EI rest W Yv,Zt Yv,drop_of_length_le Yv]at d;have t:KF s W=Ca (b.toNat:Int) (AJ rest) name n ⟨#[]⟩ [] W:=(by unfold KF;rw[o,w,k,d,p]);have r:CR s W= !Ca (b.toNat:Int) (AJ rest) name n ⟨#[]⟩ [] W:=by unfold CR Gd;rw[t,q,d];simp[ByteArray.size]
    rw[r,o,d,k,w,p];simp only;cases m:Ca (b.toNat:Int) (AJ rest) name n ⟨#[]⟩ [] W with
    |false=>simp
    |true=>rw[if_neg Yu,if_pos (by simp;exact v _ m rfl)]
   have M:Ca (b.toNat:Int) (AJ rest) name n ⟨#[]⟩ [] W=ba:=by
    cases m:Ca (b.toNat:Int) (AJ rest) name n ⟨#[]⟩ [] W with
    |false=>rfl
    |true=>have:=Sd m;rw[hu]at this;unfold DW at this;rw[if_pos rfl,Ck]at this;simp at this;omega
   have G:CR s W=ay:=by
    unfold CR Gd;rw[q,d];by_cases hl:ed rest<W
    .rw[FC rest _ Yv];simp
    rw[EI rest W Yv];have:(AJ (rest.drop W)).size≠0:=(by rw[Ck];simp;omega);simp[this]
   rw[if_pos G,if_neg gA]
  |false=>
   have E:Eu (AU s a)=ba:=(by rw[o];unfold Eu;rw[hk,Int.toNat_natCast,hu];rfl);have d:Bn s a=(⟨#[]⟩,AJ rest,ba):=(by unfold Bn;rw[if_neg Yt,k]);by_cases hsz:ed rest=0
   .have C:=Th (by rw[Ck];exact hsz);have t:KF s a=Ca (b.toNat:Int) (AJ rest) name n ⟨#[]⟩ [] a:=(by unfold KF;rw[o,w,k,d,p,C]);have r:CR s a= !Ca (b.toNat:Int) (AJ rest) name n ⟨#[]⟩ [] a:=by unfold CR Gd;rw[t,q,d];simp[Ck,hsz]
    rw[r,o,d,k,w,p];simp only;cases m:Ca (b.toNat:Int) (AJ rest) name n ⟨#[]⟩ [] a with
    |false=>simp
    |true=>rw[if_neg Yu,if_pos (by simp;exact v _ m rfl),C]
   have M:Ca (b.toNat:Int) (AJ rest) name n ⟨#[]⟩ [] a=ba:=by
    cases m:Ca (b.toNat:Int) (AJ rest) name n ⟨#[]⟩ [] a with
    |false=>rfl
    |true=>have:=Sd m;rw[hu]at this;unfold DW at this;rw[if_neg Yq,Ck]at this;simp at this;simp[this]at hsz
   have G:CR s a=ay:=by
    unfold CR Gd;rw[q,d];have:(AJ rest).size≠0:=(by rw[Ck];exact hsz);simp[this]
   rw[if_pos G,if_neg gA]
end
def Dm(s:Zi)(wd:Int)(w:Zh)(e:Ending)(w':Zh):Prop:=
 ∃v,e=.returned (.tuple #[ca #[Zg (AI s wd).k,.string (AI s wd).sum,.string (AI s wd).name,Zg (AI s wd).n,.string (AI s wd).t,v],ec (AI s wd).ok])/\
  ej w' w.1.size 9 1 v (ed (AI s wd).ss) ((AI s wd).ss.map Value.string)/\Zz w w'
theorem Ti(s:Zi)(a:Int)(Y:s.size<=1048576)(r:Env w):
 D4 89 #[C0 s,Zg a] w (Dm s a w):=by
 have⟨m,c⟩:=Du w Xy 117;obtain⟨u,n,y,d,f⟩:=(Av c).1,(Av c).2.1,(Av c).2.2,Du m #[C0 s,Ze,.nilIface] 188;have x:=(Av f).1;have V:m.1.size<d.1.size:=gB;have O:Hid (Aa d w.1.size Xx):=gD;have F:bg w.1.size w d:=gB;have I:Hid (Env d):=r.A F;have J:Hid (Pp m.1.size):=λg i=>C8 (r.lt g i);have M:Hid (Ez d m.1.size s 0 ba):=by refine⟨an,rfl,?_⟩;have:=Aa.new m [C0 s,Ze,.nilIface] 188;rw[<-f]at this;exact⟨(this 0 _ rfl).1,(this 1 _ rfl).1,(this 2 _ rfl).1,(this 0 _ rfl).2,(this 1 _ rfl).2,(this 2 _ rfl).2⟩
 obtain⟨i,l,b,o⟩:=Yw c,Yw f,Ag m.1.size;have zA:w.1.size<b:=Yv;have t:=Yw o;rw[<-o]at J M V;clear c f r y o u x;delta D4;go_in;go_upto_region 2 with fail;rw[<-i.o,<-l.o,<-n,<-t.o];clear i l t n;go_wp2_with fail;refine(Vf a M I J Y).ah ?_;rintro e x ⟨v,rfl,K,G,i⟩;have⟨S,T,Z,_⟩:=Ey K;subst Z;obtain⟨zC,n,r⟩:=i.size,Du x (Ye (AU s a) ((Bn s a).1) ((Cb s a).1) (FB s a) ((Bl s a).1) S (ed (Bl s a).2) T) 117;have U:=(Av r).1;have W:x.1.size+1=n.1.size:=gB;obtain⟨P,f,t⟩:=(Av r).2.2,Du n #[ea an] 190;have E:=(Av t).1;have X:n.1.size<f.1.size:=gB;have u:=(Av t).2.2;have H:=P.A E;have l:bg x.1.size x f:=gB;obtain⟨c,Q,L,R⟩:=(O.az i (show b≠w.1.size by omega)).A l,(I.jm i J).A l,G.A l,(K.kept (Al an l) (Classical.em _));have N:bg w.1.size w f:=F.ag (Below.trans (B:=w.1.size) ⟨i.os,i.tape,i.output,i.size,λk o=>i.block k Yv (λe=>C8 (A2 e))⟩ (l.ah Yv));obtain⟨C,D,z,o,y⟩:=Yw r,Yw t,Yw (Zn Q (Zn R N)),Ag n.1.size;rw[<-y]at u;have A:Hid (o=n.1.size):=y;have zB:x.1.size<o:=Yv;clear y;clear r t U E l P K G i Q R N O I M;go_upto_region 4 with fail;rw[<-C.o,<-D.o,<-A.o];clear C D A W X;have i:b<o:=Yv;have y:w.1.size<o:=Yv
 obtain⟨N,D,I,K,C,_,_,_⟩:=L;cases N with
 |none=>
  have t:Hid (CR s a=ba):=gH;simp only[JA]at C;go_wp2_with fail;refine(Adg _ f).ah ?_;rintro e A ⟨rfl,i⟩;rw[i];clear i A;obtain⟨⟨z0,z1,z2,z3,z4,z5⟩,⟨r0,O⟩,⟨X,P⟩,⟨g,Q⟩,⟨k,R⟩,⟨L,U⟩,r5,W⟩:=Aa.c6 H 0 1 2 3 4 5,c 0 _ rfl,c 1 _ rfl,c 2 _ rfl,c 3 _ rfl,c 4 _ rfl,c 5 _ rfl;clear H c u I K C D;go_wp2;refine Co (.tuple #[ca (Ye (AU s a) ((Bn s a).1) ((Cb s a).1) (FB s a) ((Bl s a).1) S (ed (Bl s a).2) T),ec ay]) (by simp[results,results89,go_sem, *]) ?_;have G:AI s a=⟨AU s a,(Bn s a).1,(Cb s a).1,FB s a,(Bl s a).1,(Bl s a).2,ay⟩:=by unfold AI;rw[if_neg (by rw[t.o];decide)]
  unfold Dm;rw[G];have E:w.1.size<d.1.size:=Yv;refine⟨_,rfl,?_,?_⟩
  .refine ownsRow.ah ?_ (Nat.le_of_lt E)
   iterate 6 (refine ownsRow_setCell_below ?_ E _)
   exact z.2.1
  iterate 6 (refine Below.setCell ?_ (show w.1.size<=w.1.size from Zx) _)
  exact z.2.2
 |some q=>
  have t:Hid (CR s a=ay):=gH;simp only[JA]at C;go_wp2_with fail;refine(Adm q o (.pointer an) z.1.jq (u 0 _ rfl).1 (u 0 _ rfl).2).ah ?_;rintro e A ⟨rfl,r⟩;have i:∀j v,eh f (Zd (w.1.size) j)=ai v->eh A (Zd (w.1.size) j)=ai v:=λj v h=>(r.cell (p:=⟨w.1.size,j,an⟩) y).ag h;have l:∀j,f.frozen? ⟨w.1.size,j,an⟩=ba->A.frozen? ⟨w.1.size,j,an⟩=ba:=λj h=>(r.frozen (p:=⟨w.1.size,j,an⟩) y).ag h;obtain⟨r0,X,g,k,L,r5,O,P,Q⟩:=i 0 _ (c 0 _ rfl).1,i 1 _ (c 1 _ rfl).1,i 2 _ (c 2 _ rfl).1,i 3 _ (c 3 _ rfl).1,i 4 _ (c 4 _ rfl).1,i 5 _ (c 5 _ rfl).1,l 0 (c 0 _ rfl).2,l 1 (c 1 _ rfl).2,l 2 (c 2 _ rfl).2;obtain⟨R,U,W,M⟩:=l 3 (c 3 _ rfl).2,l 4 (c 4 _ rfl).2,l 5 (c 5 _ rfl).2,Yw (z.2.2.ag (r.ah (Nat.le_of_lt y)));clear i l H c u I K C D r;go_wp2;refine Co (.tuple #[ca Xy,ec ba]) (by simp[results,results89,go_sem, *]) ?_;have G:AI s a=Ip:=by unfold AI;rw[if_pos t.o]
  unfold Dm;rw[G];refine⟨Zb,rfl,ownsRow_nil _ _ _ _,?_⟩
  iterate 6 (refine Below.setCell ?_ (show w.1.size<=w.1.size from Zx) _)
  exact M.o
theorem JM(n:Int)(w:Zh):
 D4 35 #[Zg n] w λe a=>e=C1 (ec (bq (1<=n/\n<=8)))/\a=w:=by
 by_cases h1:1<=n
 .by_cases h2:n<=8
  .delta D4;go_in;go_wp2;go_ret;exact⟨AE Yt,rfl⟩
  have b:bq (n<=8)=ba:=Yt;delta D4;go_in;go_wp2;go_ret;exact⟨rfl,rfl⟩
 have a:bq (1<=n)=ba:=Yt;delta D4;go_in;go_wp2;go_ret;exact⟨rfl,rfl⟩
theorem Ou(h:¬(1<=a/\a<=8)):AI s a=Ip:=by unfold AI;rw[if_pos (WZ h)]
theorem Ov{e:Int}(b:1<=e)(c:e<=8)(d:ed l<6):AI (AJ l) e=Ip:=by
 unfold AI;rw[if_pos]
 match l,d with
 |[],_=>exact Adu b c
 |a::l,d=>
  by_cases h4:ed l<4
  .exact XA a l b c h4
  cases hk:Fa (a.toNat:Int)with
  |false=>exact Gq (by rw[Hp _ _ b c,hk];rfl)
  |true=>
   match l,d,h4 with
   |[a1,a2,a3,a4],_,_=>exact XB a a1 a2 a3 a4 b c hk
   |[],_,h4=>simp at h4
   |[_],_,h4=>simp at h4
   |[_,_],_,h4=>simp at h4
   |[_,_,_],_,h4=>simp at h4
theorem Qr{a d e f g b:UInt8}{T:List UInt8}{c:Int}(h:1<=c)(i:c<=8)(hT:ed T<b.toNat):AI (AJ (a::d::e::f::g::b::T)) c=Ip:=by
 unfold AI;rw[if_pos];cases hk:Fa (a.toNat:Int)with
 |false=>exact Gq (by rw[Hp _ _ h i,hk];rfl)
 |true=>exact XC a d e f g b T h i hk hT
theorem Iq{b:Int}{a:Zh}(h:AI s b=Ip)(c:Zz w a):Dm s b w (.returned (.tuple #[ca Xy,ec ba])) a:=by unfold Dm;rw[h];exact⟨Zb,rfl,ownsRow_nil _ _ _ _,c⟩
theorem Tj(s:Zi)(a:Int)(w:Zh)(h:¬(1<=a/\a<=8)):
 D4 79 #[C0 s,Zg a] w (Dm s a w):=by
 have d:bq (1<=a/\a<=8)=ba:=Yt;have HN:=Yw (Ou (s:=s) h);clear h;delta D4;go_in;go_wp2_with (go_at_call 35;refine(JM a _).ah ?_;rintro e c ⟨rfl,b⟩;rw[b];clear b c);exact Co (.tuple #[ca Xy,ec ba]) Kf (Iq HN (Zy))
theorem Tk(s:Zi)(a:Int)(w:Zh)(c:1<=a)(d:a<=8)(f:s.size<6):
 D4 79 #[C0 s,Zg a] w (Dm s a w):=by
 have i:bq (1<=a/\a<=8)=ay:=Yt;have h:bq ((s.size:Int)<6)=ay:=Yt;have HN:=Yw (Ov (l:=s.data.toList) c d f);delta D4;go_in;go_wp2_with (go_at_call 35;refine(JM a _).ah ?_;rintro e g ⟨rfl,b⟩;rw[b];clear b g);exact Co (.tuple #[ca Xy,ec ba]) Kf (Iq HN (Zy))
theorem Tl(s:Zi)(a:Int)(w:Zh)(n:s.size<=1048576)(j:1<=a)(k:a<=8)(c:Nat)(l:6<=s.size)(d:s[5].toNat=c)(g:AI s a=Ip)(m:s.size<6+c):
 D4 79 #[C0 s,Zg a] w (Dm s a w):=by
 have i:c<256:=by rw[<-d];exact s[5].toNat_lt
 have f:=Cm s[5];rw[d]at f;have HN:=Yw g;delta D4;go_in;go_wp2_with (go_at_call 35;refine(JM a _).ah ?_;rintro e h ⟨rfl,b⟩;rw[b];clear b h);exact Co (.tuple #[ca Xy,ec ba]) Kf (Iq HN (Zy))
theorem Tm(s:Zi)(b:Int)(c r t y O k:Nat)(w:Zh)(h:s.size<=1048576)(E:1<=b)(F:b<=8)(h6:6<=s.size)(G:s[0].toNat=c)(H:s[1].toNat=r)(I:s[2].toNat=t)(J:s[3].toNat=y)(K:s[4].toNat=O)(Z:s[5].toNat=k)(hf:6+k<=s.size)(a m:Zi)(j:s.extract 6 (6+k)=a)(N:s.extract (6+k) s.size=m)(n:Int)(v:(r:Int) *16777216+(t:Int) *65536+(y:Int) *256+(O:Int)=n)(i g:Zi)(d:Zl)(P:i=if (c:Int)=1 then ⟨#[]⟩else m)(X:g=if (c:Int)=1 then (rd m b).1 else ⟨#[]⟩)(u:d=if (c:Int)=1 then (rd m b).2.1 else [])(e:AI s b=if (Ca c i a n g d b&&bq (Cs c i a n g d b=s))=ay then ⟨c,i,a,n,g,d,ay⟩else Ip):
 D4 79 #[C0 s,Zg b] w (Dm s b w):=by
 have B:bq (1<=b/\b<=8)=ay:=by simp[E,F]
 have L:bq ((s.size:Int)<6)=ba:=Yt;have l5:(5:Int)<s.size:=Yv;have M:bq ((s.size:Int)<6+(k:Int))=ba:=Yt;have l:c<256:=by rw[<-G];exact s[0].toNat_lt
 have o:r<256:=by rw[<-H];exact s[1].toNat_lt
 have q:t<256:=by rw[<-I];exact s[2].toNat_lt
 have x:y<256:=by rw[<-J];exact s[3].toNat_lt
 have z:O<256:=by rw[<-K];exact s[4].toNat_lt
 have Y:k<256:=by rw[<-Z];exact s[5].toNat_lt
 obtain⟨Q,R,S,T,U,V⟩:=Cm s[0],Cm s[1],Cm s[2],Cm s[3],Cm s[4],Cm s[5];rw[G]at Q;rw[H]at R;rw[I]at S;rw[J]at T;rw[K]at U;rw[Z]at V;obtain⟨A,D,C,HX,f⟩:=Yw (Zn l (Zn o (Zn q (Zn x z)))),Yw (Zn Q (Zn R (Zn S (Zn T U)))),Yw (Zn G (Zn H (Zn I (Zn J K)))),Yw (Zn h (Zn E F)),Yw (Zn j (Zn N (Zn v (Zn P (Zn X (Zn u e))))));clear j N v P X u e;clear l o q x z Q R S T U G H I J K;have⟨W,j⟩:=Du w Xy 117;have N:=(Av j).1;have hz:w.1.size<W.1.size:=by rw[j];simp
 have R0:Hid (Aa W _ _):=(Av j).2.2;have u:=Yw j;clear j;delta D4;go_in;go_upto_region 1 with fail;rw[<-u.o];clear u;go_upto_region 3 with(go_at_call 35;refine(JM b _).ah ?_;rintro e u ⟨rfl,j⟩;rw[j];clear j u);go_cut [6] (λv u=>v=Yy W.1.size/\u=(W.alloc (bs #[Zg (c:Int),Zc,Zc,Zg n,Zc,Zb] 117)).drew)
 case first=>
  have⟨l,o,q,x,z⟩:=A.o;have m1:=Fj ((r:Int) *16777216) Yv Yv;have m2:=Fj ((t:Int) *65536) Yv Yv;have m3:=Fj ((y:Int) *256) Yv Yv;have p1:=Fj ((r:Int) *16777216+(t:Int) *65536) Yv Yv;have p2:=Fj ((r:Int) *16777216+(t:Int) *65536+(y:Int) *256) Yv Yv;have p3:=Fj ((r:Int) *16777216+(t:Int) *65536+(y:Int) *256+(O:Int)) Yv Yv;have l0:(0:Int)<s.size:=Yv;have l1:(1:Int)<s.size:=Yv;have l2:(2:Int)<s.size:=Yv;have l3:(3:Int)<s.size:=Yv;have l4:(4:Int)<s.size:=Yv;obtain⟨⟨Q,R,S,T,U⟩,G,H,I,J,K⟩:=D.o,C.o;clear l o q x z Y M L B;clear V l5
  go_big_region
  go_wp2_with fail;go_meet;exact⟨rfl,by rw[f.2.2.1]⟩
 case rest=>
 revert wc;intro W3 hcut;obtain⟨rfl,l⟩:=hcut;have zB:=hf;clear Y M L B A D C HX;have q:bg W.1.size W W3:=by rw[l];exact(Zy).drew
 have D:Aa W3 W.1.size [Zg (c:Int),Zc,Zc,Zg n,Zc,Zb]:=by rw[l];exact Aa.new W _ _
 obtain⟨R3,X,B,L⟩:=R0.A q,N.ag (q.ah (Nat.le_of_lt hz)),Ag W.1.size;rw[<-L]at D;obtain⟨HB,x,zF⟩:=Yw L,D 2 _ rfl;have C:w.1.size<B:=Yv;have⟨A,j⟩:=D2 W3 B 2 (C0 a);have o:Hid (Aa A B [Zg (c:Int),Zc,C0 a,Zg n,Zc,Zb]):=by rw[j];exact D.set 2 _
 have R4:Hid (Aa A w.1.size Xx):=by rw[j];exact R3.az (Ao _ _ _ _) Yv
 have z:Hid (Zz w A):=by rw[j];exact X.setCell (p:=⟨B,2,an⟩) (Nat.le_of_lt C) _
 obtain⟨M,P,Y⟩:=Yw j,Yw f.1,Yw f.2.1;rw[<-L];clear l q j R3 X L D;have l:((6:Int)+(k:Int)).toNat=6+k:=Yv;have q:(6:Int)<=6+(k:Int):=Yv;have D:(6:Int)+(k:Int)<=(s.size:Int):=Yv;go_upto_region 6 with fail;rw[P.o,Y.o,<-M.o];have X:m.size<=1048576:=by rw[<-Y.o];simp;omega
 have zE:a.size<=1048576:=by rw[<-P.o];simp;omega
 have j:=HB.symm;clear M P Y x zF l q D V l5 R0 N hz j HB;clear Z;clear hf zB h6;have HX:=Yw (Zn h (Zn E F));clear h E F;obtain⟨q,_⟩:=o 0 _ rfl;go_upto_if 63 with fail;go_cut [] (λu=>∃(j:Zk) (l:Nat),Hid (Aa u B (Xw (c:Int) i a n g j (ed d) l))/\Hid (Aa u w.1.size Xx)/\Hid (ej u (w.1.size+1) 9 1 (Cw j d l) (ed d) (d.map string))/\Hid (Zz w u))
 case first=>
  by_cases hk:(c:Int)=1
  .have e1:Hid (i=⟨#[]⟩):=(by show _=_;rw[f.2.2.2.1,if_pos hk]);have e2:Hid (g=(rd m b).1):=(by show _=_;rw[f.2.2.2.2.1,if_pos hk]);have P:Hid (d=(rd m b).2.1):=(by show _=_;rw[f.2.2.2.2.2.1,if_pos hk]);have hq:((c:Int)==1)=ay:=C9 hk;have HK:=Yw hk;clear hk;go_wp2_with fail;have D:=UO m b A X;unfold EX at D;refine D.ah ?_;rintro e V ⟨v,rfl,ho,u⟩;rw[<-P.o]at ho;rw[<-e2.o];have⟨j,l,hv,_⟩:=Ey ho;subst hv;obtain⟨Z5,R5,Z⟩:=Aa.A o u,Aa.A R4 u,o.lt;obtain⟨⟨E,zI⟩,⟨F,zJ⟩,B5⟩:=Z5 4 _ rfl,Z5 5 _ rfl,z.ag (u.ah z.size);clear D u q hq;go_wp2_with fail;go_meet;refine⟨j,l,?_,?_,?_,?_⟩
   .rw[e1.o];exact(Z5.set 4 _).set 5 _
   .exact(R5.az (Ao _ B 4 _) Yv).az (Ao _ B 5 _) Yv
   .exact(ownsRow_setCell_below (ownsRow_setCell_below ho Z _) Z _).ah Yv
   exact(B5.setCell (p:=⟨B,4,an⟩) (Nat.le_of_lt C) _).setCell (p:=⟨B,5,an⟩) (Nat.le_of_lt C) _
  have e1:Hid (i=m):=by show _=_;rw[f.2.2.2.1,if_neg hk]
  have e2:Hid (g=⟨#[]⟩):=by show _=_;rw[f.2.2.2.2.1,if_neg hk]
  have P:Hid (d=[]):=by show _=_;rw[f.2.2.2.2.2.1,if_neg hk]
  have hq:((c:Int)==1)=ba:=C9 hk;obtain⟨D,zH⟩:=o 1 _ rfl;have HK:=Yw hk;clear hk;go_wp2_with fail;go_meet;refine⟨an,0,?_,?_,?_,?_⟩
  .rw[e1.o,e2.o,P.o];exact o.set 1 _
  .exact R4.az (Ao _ B 1 _) Yv
  .rw[P.o];exact ownsRow_nil _ _ _ _
  exact z.setCell (p:=⟨B,1,an⟩) (Nat.le_of_lt C) _
 case rest=>
 revert wc;intro w6 hcut;obtain⟨j,l,Z6,R6,h,Y⟩:=hcut;clear o R4 z q;obtain⟨q,D,x,N,E,F⟩:=Aa.c6 Z6 0 1 2 3 4 5;have u:ed d<=255:=by
  rw[f.2.2.2.2.2.1];split
  .exact YZ _ _
  exact Aw _
 have M:g.size<=eo:=by
  rw[f.2.2.2.2.1];unfold eo;split
  .have:=Sc m b;omega
  exact Aw _
 have o:a.size<=eo:=Yo;have L:Hid (Ad w6 w6.1.size j d):=by have⟨a',c',hv,hr⟩:=Ey h;cases hv;exact hr
 have z:=Yw (Zn u (Zn M o));clear u M o X zE;go_wp2_with fail;refine(Wu (c:Int) i a n g l b L (C8 z.1) z.2.1 z.2.2).ah ?_;rintro e X ⟨rfl,o⟩;have Z7:Hid (Aa X B (Xw (c:Int) i a n g j (ed d) l)):=Z6.A o;have u:Hid (Aa X w.1.size Xx):=R6.A o
 have O7:Hid (ej X (w.1.size+1) 9 1 (Cw j d l) (ed d) (d.map string)):=h.kept (Al an o) (Classical.em _);have B7:=Yw (Y.ag (o.ah Y.size));have S7:=Yw (Ad.U L o);clear Z6 R6 h Y L o q D x N E F;obtain⟨q,D,x,N,E,F⟩:=Aa.c6 Z7 0 1 2 3 4 5;cases hok:Ca (c:Int) i a n g d b with
 |false=>
  have L:Hid (AI s b=Ip):=by show _=_;rw[f.2.2.2.2.2.2,if_neg (by rw[hok];simp)]
  obtain⟨⟨r0,q0⟩,⟨r1,q1⟩,⟨r2,q2⟩,⟨r3,q3⟩,⟨r4,q4⟩,r5,q5⟩:=u 0 _ rfl,u 1 _ rfl,u 2 _ rfl,u 3 _ rfl,u 4 _ rfl,u 5 _ rfl;clear q D x N E F hok;go_wp2;refine Co (.tuple #[ca Xy,ec ba]) J4 ?_;refine Iq L ?_
  iterate 6 (refine Below.setCell ?_ (show w.1.size<=w.1.size from Zx) _)
  exact B7.o
 |true=>
  have Y:=Yw hok;clear hok;go_wp2_with fail;refine(Ve (c:Int) i a n g l b S7 (C8 z.1) z.2.1 z.2.2).ah ?_;rintro e w8 ⟨rfl,o⟩;obtain⟨Z8,R8,h,M⟩:=Z7.A o,u.A o,O7.kept (Al an o) (Classical.em _),B7.ag (o.ah B7.size);clear q D x N E F;obtain⟨⟨q,D,x,N,E,F⟩,⟨r0,q0⟩,r1,q1⟩:=Aa.c6 Z8 0 1 2 3 4 5,R8 0 _ rfl,R8 1 _ rfl;obtain⟨⟨r2,q2⟩,⟨r3,q3⟩,⟨r4,q4⟩,⟨r5,q5⟩,HC⟩:=R8 2 _ rfl,R8 3 _ rfl,R8 4 _ rfl,R8 5 _ rfl,Yw (Zn h M);clear Z8 R8 h M o;have⟨M,o⟩:=Ag (Cs (c:Int) i a n g d b);rw[<-o];by_cases heq:M=s
  .have L:Hid (AI s b=⟨c,i,a,n,g,d,ay⟩):=(by show _=_;rw[f.2.2.2.2.2.2,if_pos (by rw[Y.o,<-o,heq];simp)]);subst heq;clear o;go_wp2;refine Co (.tuple #[ca (Ye (c:Int) i a n g j (ed d) l),ec ay]) J4 ?_;unfold Dm;rw[L.o];have zA:w.1.size<w.1.size+1:=Nat.lt_succ_self _;refine⟨_,rfl,?_,?_⟩
   .refine ownsRow.ah ?_ (Nat.le_of_lt zA)
    iterate 6 (refine ownsRow_setCell_below ?_ zA _)
    exact HC.1
   iterate 6 (refine Below.setCell ?_ (show w.1.size<=w.1.size from Zx) _)
   exact HC.2
  have L:Hid (AI s b=Ip):=by show _=_;rw[f.2.2.2.2.2.2,if_neg (by rw[Y.o,<-o];simpa using heq)]
  have zC:(M.toList==s.toList)=ba:=by rw[beq_eq_false_iff_ne];intro h;rw[ByteArray.toList_eq,ByteArray.toList_eq]at h;exact heq (ByteArray.ext (Array.toList_inj.1 h))
  have zG:(M.toList !=s.toList)=ay:=by rw[bne,zC];rfl
  clear o heq;go_wp2;refine Co (.tuple #[ca Xy,ec ba]) J4 ?_;refine Iq L ?_
  iterate 6 (refine Below.setCell ?_ (show w.1.size<=w.1.size from Zx) _)
  exact HC.2
theorem Tp(s:Zi)(a:Int)(w:Zh)(d:s.size<=1048576):
 D4 79 #[C0 s,Zg a] w (Dm s a w):=by
 by_cases hw:1<=a/\a<=8
 case neg=>exact Tj s a w hw
 obtain⟨b,c⟩:=hw;by_cases h6:s.size<6
 .exact Tk s a w b c h6
 obtain⟨l,rfl⟩:∃l,s=AJ l:=⟨s.data.toList,rfl⟩;rw[Ck]at d h6
 match l,d,h6 with
 |a0::a1::a2::a3::a4::a5::T,d,h6=>
  have e:(AJ (a0::a1::a2::a3::a4::a5::T)).size=ed T+6:=by rw[Ck];rfl
  by_cases hT:a5.toNat<=ed T
  .refine Tm _ a a0.toNat a1.toNat a2.toNat a3.toNat a4.toNat a5.toNat w gA b c Yv rfl rfl rfl rfl rfl rfl Yv (AJ (T.take a5.toNat)) (AJ (T.drop a5.toNat)) ?_ ?_ (CN [a1,a2,a3,a4]) (Te a1 a2 a3 a4).symm _ _ _ rfl rfl rfl ?_
   .rw[Io,show 6+a5.toNat -6=a5.toNat by omega];rfl
   .rw[e,Io];congr 2;rw[show 6+a5.toNat=a5.toNat+6 by omega];show(T.drop a5.toNat).take _=_;exact Zt Yu
   exact KG a0 a1 a2 a3 a4 a5 T b c hT
  exact Tl _ a w gA b c a5.toNat Yv rfl (Qr b c Yv) Yv
 |[],_,h6=>simp at h6
 |[_],_,h6=>simp at h6
 |[_,_],_,h6=>simp at h6
 |[_,_,_],_,h6=>simp at h6
 |[_,_,_,_],_,h6=>simp at h6
 |[_,_,_,_,_],_,h6=>simp at h6
theorem Jr{x:Int}(a:0<=x)(h:x<256):((u8 x).toNat:Int)=x:=by
 have:(u8 x).toNat=x.toNat:=by simp[u8];omega
 omega
theorem Abh(a:0<=n)(b:n<=1000000000):CN [u8 (n/16777216),u8 (n/65536%256),u8 (n/256%256),u8 (n%256)]=n:=by rw[Te,Jr Yv Yv,Jr Yv Yv,Jr Yv Yv,Jr Yv Yv];omega
theorem Ox(h:s.size=0):s=⟨#[]⟩:=by have:ed s.data.toList=0:=h;have:=A9 this;rw[<-Jq s,this]
theorem KH{k:Int}{b a:Zi}(h:Ca k b a n t c f=ay):AI (Cs k b a n t c f) f=⟨k,b,a,n,t,c,ay⟩:=by
 have r:=h;unfold Ca at r;simp only[Bool.and_eq_true,decide_eq_true_eq]at r;obtain⟨m,rfl⟩:∃m:Nat,k=m:=⟨k.toNat,Yv⟩;have d:=Ea (IM h);have i:=IM h;unfold CL at i;simp only[Bool.and_eq_true]at i;obtain⟨_,y,_,_,e⟩:=i;have hT:=(JL h).2 rfl;have A:((u8 (m:Int)).toNat:Int)=m:=Jr Yv Yv;have q:(u8 (a.size:Int)).toNat=a.size:=by have:=Jr (x:=(a.size:Int)) Yv (C8 d.name);omega
 have l:ed a.data.toList=a.size:=rfl;obtain⟨j,X,p⟩:=Abh d.n0 d.n1,Ag (b.data.toList++(if m=1 then Bu t c else []));have s:Dh m b a n t c=u8 (m:Int)::u8 (n/16777216)::u8 (n/65536%256)::u8 (n/256%256)::u8 (n%256)::u8 (a.size:Int)::(a.data.toList++X):=by rw[p];unfold Dh BK;simp
 have hS:Oo (m:Int) X=b/\Oq (m:Int) X f=t/\Ot (m:Int) X f=c:=by
  by_cases h1:m=1
  .subst h1;have u:=Ox (by simpa [DW,DR]using y);have v:X=Bu t c:=(by rw[p,u];simp);rw[v];unfold Oo Oq Ot;have B:=Lx (d.fh rfl);have o:((1:Nat):Int)=1:=rfl;rw[if_pos o,if_pos o,if_pos o,B];exact⟨u.symm,rfl,rfl⟩
  have g:¬((m:Int)=1):=Yv;have w:X=b.data.toList:=by rw[p,if_neg h1];simp
  have z:CC m=ba:=by simp[CC,h1]
  rw[z]at e;simp only[GN,Bool.false_eq_true,if_false,decide_eq_true_eq]at e;unfold Oo Oq Ot;rw[if_neg g,if_neg g,if_neg g,w];exact⟨Jq b,(Ox e.1).symm,(A9 e.2).symm⟩
 rw[hT,s,KG _ _ _ _ _ _ _ d.w1 d.w2 (by rw[q];simp),A,j,q];rw[show(a.data.toList++X).take a.size=a.data.toList from take_left' l,show(a.data.toList++X).drop a.size=X from drop_left' l,Jq,hS.1,hS.2.1,hS.2.2];rw[if_pos];unfold Nv;rw[hS.1,hS.2.1,hS.2.2,Jq,h,hT,s];simp
theorem GJ(h:(AI s a).ok=ay):Ca (AI s a).k (AI s a).sum (AI s a).name (AI s a).n (AI s a).t (AI s a).ss a=ay/\Cs (AI s a).k (AI s a).sum (AI s a).name (AI s a).n (AI s a).t (AI s a).ss a=s:=by
 by_cases hw:1<=a/\a<=8
 case neg=>rw[Ou hw]at h;cases h
 obtain⟨b,c⟩:=hw;obtain⟨l,rfl⟩:∃l,s=AJ l:=⟨s.data.toList,rfl⟩;by_cases h6:ed l<6
 .rw[Ov b c h6]at h;cases h
 .match l,h6,h with
  |a0::a1::a2::a3::a4::a5::T,h6,h=>
   by_cases hT:a5.toNat<=ed T
   .rw[KG a0 a1 a2 a3 a4 a5 T b c hT]at h |-;split at h
    case isTrue hc=>
     rw[if_pos hc];unfold Nv at hc;rw[Bool.and_eq_true,decide_eq_true_eq]at hc;exact hc
    case isFalse hc=>cases h
   rw[Qr b c Yv]at h;cases h
  |[],h6,_=>simp at h6
  |[_],h6,_=>simp at h6
  |[_,_],h6,_=>simp at h6
  |[_,_,_],h6,_=>simp at h6
  |[_,_,_,_],h6,_=>simp at h6
  |[_,_,_,_,_],h6,_=>simp at h6
theorem Vj{T e:TypeId}{B:Nat}{c:Zj}{i:Zh}(h:Lib.IsBuilder T e B b c w)(a:Zz w i):Lib.IsBuilder T e B b c i:=by
 have g:∀p,Lib.BuilderAt T e B b p c w->Lib.BuilderAt T e B b p c i:=by rintro p ⟨m,v,f,d,l⟩;have j:b<w.1.size:=(A0.1 f).1;exact⟨m,v,(a.block b j).ag f,d.kept (row:=an) ⟨a.os,a.tape,a.output,a.size,λk n _=>a.block k n⟩ (by cases hv:v.ownBlock<;>simp),l⟩
 rcases h with h|h
 .exact cr (g _ h)
 exact .inr (g _ h)
theorem XE(k n m:Int)(b:0<=n)(c:n<=1000000000)(j:Nat)(a:j<4):
 Lib.byteCells ((BK k n m).take (1+j))++[int .u8 (n/2^(8 *(3 -j))%256)]=Lib.byteCells ((BK k n m).take (1+(j+1))):=by
 rw[Fi (n/2^(8 *(3 -j))%256) Yv Yv]
 match j,a with
 |0,_=>
  have:n/2^(8 *(3 -0))%256=n/16777216:=by show n/16777216%256=n/16777216;omega
  rw[this];rfl
 |1,_=>rfl
 |2,_=>rfl
 |3,_=>
  have:n/2^(8 *(3 -3))%256=n%256:=by show n/1%256=n%256;omega
  rw[this];rfl
theorem XF(k n m:Int)(a:0<=m)(b:m<256):Lib.byteCells ((BK k n m).take (1+4))++[int .u8 m]=Lib.byteCells (BK k n m):=by rw[Fi m a b];rfl
theorem KI(k n m:Int)(j:Nat):ed (Lib.byteCells ((BK k n m).take j))<=6:=by rw[Lib.byteCells_length];have:ed (BK k n m)=6:=rfl;simp[this];omega
theorem Vk(k:Nat)(f a:Zi)(n:Int)(t:Zi){s:Zk}(q:Nat){g:Zl}(C:Int)(hT:JY w)(X:1<=k)(Y:k<=7)(h:Ad w w.1.size s g)(Z:ed g<=1048576)(ht:t.size<=eo)(m:CL k f a n t g C=ay):
 D4 120 #[ca (EV k f a n t s (ed g) q),Zg C] w λe b=>e=C1 (C0 ⟨ee (Dh k f a n t g)⟩)/\Zz w b:=by
 have hp:=Ea m;obtain⟨zH,zI,W,J,T,U,x⟩:=hp;have l:bg w.1.size w (w.alloc (bs (EV k f a n t s (ed g) q) 117)):=Zy;delta D4;go_in;go_wp2_with fail;refine(ME k f a n t q C (hT.A l) X Y (h.U l) Z ht Yo).ah ?_;rintro e b ⟨rfl,c⟩;rw[m];have hz:=c.size;simp at hz;have d:w.1.size<b.1.size:=Yv;have o:=l.ag (c.ah Yu);have L:eh b (Zd (w.1.size) 0)=ai (Zg k):=by rw[c.cell (p:=⟨w.1.size,0,an⟩) Yu];simp
 have M:eh b (Zd (w.1.size) 1)=ai (C0 f):=by rw[c.cell (p:=⟨w.1.size,1,an⟩) Yu];simp
 have N:eh b (Zd (w.1.size) 2)=ai (C0 a):=by rw[c.cell (p:=⟨w.1.size,2,an⟩) Yu];simp
 have x3:eh b (Zd (w.1.size) 3)=ai (Zg n):=by rw[c.cell (p:=⟨w.1.size,3,an⟩) Yu];simp
 have x4:eh b (Zd (w.1.size) 4)=ai (C0 t):=by rw[c.cell (p:=⟨w.1.size,4,an⟩) Yu];simp
 have x5:eh b (Zd (w.1.size) 5)=ai (Cw s g q):=by rw[c.cell (p:=⟨w.1.size,5,an⟩) Yu];simp
 have y:=h.A o;have P:=Yw m;clear m x h c l;have l:=Lib.fresh_isBuilder 216 5 b;have m:bg b.1.size b (b.alloc (bs #[ea an,Zb] 216)):=Zy;go_wp2_with fail;refine(FH _ l Yu Yu).ah ?_;rintro e w2 ⟨rfl,c,h⟩;have r:=m.ag h;have u:[]++[int .u8 (k:Int)]=Lib.byteCells ((BK k n a.size).take 1):=by rw[Fi k Yv Yv];rfl
 rw[u]at c;clear l m h u;go_wp2;go_loopw [15] (λi wr=>∃(j:Nat),j<=4/\i=Zg j/\Lib.IsBuilder 216 5 b.1.size b.1.size (Lib.byteCells ((BK k n a.size).take (1+j))) wr/\Zz b wr) (λi _=>4 -(intOf i).toNat)
 case atStart=>exact⟨0,Aw _,rfl,c,r⟩
 clear c r;obtain⟨j,hj,rfl,l,c⟩:=hrel;have H:=c.size;have I:eh wr (Zd (w.1.size) 0)=ai (Zg k):=(c.cell (p:=⟨w.1.size,0,an⟩) d).ag L;have A:eh wr (Zd (w.1.size) 1)=ai (C0 f):=(c.cell (p:=⟨w.1.size,1,an⟩) d).ag M;have z:eh wr (Zd (w.1.size) 2)=ai (C0 a):=(c.cell (p:=⟨w.1.size,2,an⟩) d).ag N;have B:eh wr (Zd (w.1.size) 3)=ai (Zg n):=(c.cell (p:=⟨w.1.size,3,an⟩) d).ag x3;by_cases hlt:j<4
 .have v:=KI k n a.size (1+j);have V:=Yw (XE k n a.size T U j hlt);go_wp2_with fail;refine(FH _ l Yv H).ah ?_;rintro e K ⟨rfl,m,r⟩;rw[V.o]at m;have u:=c.ag r;clear l c r I A z B;go_wp2;exact⟨⟨j+1,Yv,Yn,m,u⟩,Ys⟩
 obtain rfl:j=4:=Yv;have v:=KI k n a.size (1+4);go_wp2_with fail;refine(FH _ l Yv H).ah ?_;rintro e K ⟨rfl,m,r⟩;rw[XF k n a.size Yv Yv]at m;have h:=c.ag r;have E:=h.size;have z:eh K (Zd (w.1.size) 2)=ai (C0 a):=(h.cell (p:=⟨w.1.size,2,an⟩) d).ag N;clear l c r I A B v;have v:ed (Lib.byteCells (BK k n a.size))=6:=rfl;go_wp2_with fail;refine(DT a m Yv E).ah ?_;rintro e i ⟨rfl,r,u⟩;rw[<-Lib.byteCells_append]at r;have l:=h.ag u;have F:=l.size;have A:eh i (Zd (w.1.size) 1)=ai (C0 f):=(l.cell (p:=⟨w.1.size,1,an⟩) d).ag M;clear m h u z v;have v:ed (Lib.byteCells (BK k n a.size++a.data.toList))=6+a.size:=by rw[Lib.byteCells_length];simp[BK];omega
 go_wp2_with fail;refine(DT f r Yv F).ah ?_;rintro e B ⟨rfl,h,m⟩;rw[<-Lib.byteCells_append]at h;have c:=l.ag m;have u:=c.size;have I:eh B (Zd (w.1.size) 0)=ai (Zg k):=(c.cell (p:=⟨w.1.size,0,an⟩) d).ag L;have y4:eh B (Zd (w.1.size) 4)=ai (C0 t):=(c.cell (p:=⟨w.1.size,4,an⟩) d).ag x4;have y5:eh B (Zd (w.1.size) 5)=ai (Cw s g q):=(c.cell (p:=⟨w.1.size,5,an⟩) d).ag x5;have z:=y.A (c.ah Yv);have zA:=o.ag (c.ah o.size);clear r l m A v;have v:ed (Lib.byteCells (BK k n a.size++a.data.toList++f.data.toList))=6+a.size+f.size:=by rw[Lib.byteCells_length];simp[BK];omega
 by_cases hk1:k=1
 .subst hk1;have x:=(Ea P).fh rfl;have A:=Bs x;obtain⟨zB,zG,zF⟩:=A.bu,A.Q,A.C;go_wp2_with fail;refine(NI t s q g C B (z.ah Yv) x).ah ?_;rintro e w6 ⟨rfl,r⟩;have D:=Vj h r;have zJ:=r.size;have zC:ed (Bu t g)<=3000:=by have:=De g;simp[Bu,this];omega
  have l:(ByteArray.mk (ee (Bu t g))).size=ed (Bu t g):=by simp[ByteArray.size]
  have O:=Yw l;clear l;go_wp2_with fail;refine(DT _ D (by rw[O.o];omega) Yv).ah ?_;rintro e w7 ⟨rfl,m,Q⟩;have R:Lib.byteCells (BK (1:Nat) n a.size++a.data.toList++f.data.toList)++Lib.byteCells (ByteArray.mk (ee (Bu t g))).data.toList=Lib.byteCells (Dh 1 f a n t g):=by rw[<-Lib.byteCells_append];rfl
  rw[R]at m;have l:=(c.ag (r.ah u)).ag Q;have G:=l.size;go_wp2_with fail;refine(Tryz.Builder_String_any b.1.size b.1.size _ _ m G).ah ?_;rintro e w8 ⟨rfl,v⟩;go_wp2;go_ret;exact⟨rfl,o.ag ((l.ag v).ah o.size)⟩
 have zE:((k:Int)==1)=ba:=beq_eq_false_iff_ne.2 Yv;have S:BK k n a.size++a.data.toList++f.data.toList=Dh k f a n t g:=by unfold Dh;rw[if_neg hk1,append_nil]
 rw[S]at h;go_wp2_with fail;refine(Tryz.Builder_String_any b.1.size b.1.size _ _ h u).ah ?_;rintro e w8 ⟨rfl,v⟩;go_wp2;go_ret;exact⟨rfl,o.ag ((c.ag v).ah o.size)⟩
theorem Vl(k:Int)(b a:Zi)(n:Int)(t:Zi)(i:Zk)(h:Nat)(c:Zl)(f:Int)(w:Zh)(hT:JY w)(g:Ad w w.1.size i c)(l:ed c<=1048576)(o:t.size<=eo)(q:a.size<=eo):
 D4 120 #[ca (EV k b a n t i (ed c) h),Zg f] w λe d=>e=C1 (C0 (Cs k b a n t c f))/\Zz w d:=by
 cases hok:Ca k b a n t c f with
 |true=>rw[show Cs k b a n t c f=⟨ee (Dh k.toNat b a n t c)⟩from by unfold Cs;rw[if_pos hok]];unfold Ca at hok;simp only[Bool.and_eq_true,decide_eq_true_eq]at hok;obtain⟨m,rfl⟩:∃m:Nat,k=m:=⟨k.toNat,Yv⟩;rw[Int.toNat_natCast]at hok |-;exact Vk m b a n t h f hT Yv Yv g l o hok.2
 |false=>rw[show Cs k b a n t c f=ByteArray.empty from by unfold Cs;rw[if_neg (by rw[hok];decide)]];have j:bg w.1.size w (w.alloc (bs (EV k b a n t i (ed c) h) 117)):=Zy;have d:=Wv k b a n t i h c f (hT.A j) (g.U j) l o q;rw[hok]at d;clear hok;delta D4;go_in;go_wp2_with fail;refine d.ah ?_;rintro e r ⟨rfl,p⟩;go_wp2;go_ret;exact⟨rfl,j.ag (p.ah Yu)⟩
