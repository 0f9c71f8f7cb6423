import Derived.Test.YtfehblndlffcmaaGreatDoorX05
import Derived.Lib.LaidTab
import Derived.LaidHandle
import Derived.Test.YtfehblndlffcmaaGreatDoorCards
import Derived.Test.YtfehblndlffcmaaGreatDoorTie
import Derived.OpenVars
import Derived.Deep.DeepHandedRow
import Derived.Deep.LoopGhost
import Derived.RegionTactic
set_option maxRecDepth 100000
set_option maxHeartbeats 16000000
open Option renaming some->an
open Bool renaming true->bg,false->bq
open Go.Obj renaming cells->ca
open Go.Value renaming bool->ef
namespace Go.Proofs.YtfehblndlffcmaaGreatDoor
open ChangeShapes WideShapes ChangeAt RowKit _root_.Go.Proofs.Tryz List World Value
variable{H:Type}{W w:Zh}{p:List MemPlace}{b g:Nat}
theorem YK:prog.globalNamed "loop.example/kilnvault/impl.kindParts" =an 5:=Yr
theorem Vb:(prog.globals[5]?).map (·.type)=an 219:=Yr
theorem Vc:prog.cellsOf 189=4:=Yr
theorem Tg:prog.cellsOf 4=1:=Yr
theorem YL{α:Type}{l:List α}(h:l.length=4):∃a b c d,l=[a,b,c,d]:=by
 match l,h with
 |[a,b,c,d],_=>exact⟨a,b,c,d,rfl⟩
theorem QY{e:TypeId×Value->H}{d:Nat}{spare:Nat->Bool}{held:Bool}{i:Nat}{l:Zj}{a b c:Bool}{m:Int}(h:DataW.trod e prog W d spare held i 189 l=an (.agg [.lit (.bool a),.lit (.bool b),.lit (.bool c),.lit (.int .i64 m)],p)):l=[.bool a,.bool b,.bool c,.int .i64 m]:=by
 have⟨I,g,_,r,q,hlen,f⟩:=DataW.trod_struct underlying189 h;rw[Vc]at q;obtain⟨v0,w,x,y,rfl⟩:=YL q;obtain⟨z,A,B,C,rfl⟩:=YL hlen;have s:DataW.trod e prog W d spare held g 4 [v0]=an z:=by simpa [Tg]using f 0 _ rfl
 have t:DataW.trod e prog W d spare held g 4 [w]=an A:=by simpa [Tg]using f 1 _ rfl
 have u:DataW.trod e prog W d spare held g 4 [x]=an B:=by simpa [Tg]using f 2 _ rfl
 have v:DataW.trod e prog W d spare held g 3 [y]=an C:=by simpa [Afc]using f 3 _ rfl
 obtain⟨D,j,rfl⟩:=DataW.trod_bool underlying4 s;obtain⟨E,k,rfl⟩:=DataW.trod_bool underlying4 t;obtain⟨F,n,rfl⟩:=DataW.trod_bool underlying4 u;obtain⟨G,o,rfl,_⟩:=DataW.trod_int underlying3 v;simp at j k n o r;obtain⟨⟨rfl,rfl,rfl,rfl⟩,_⟩:=r;rw[j,k,n,o]
theorem PO{f:Array Value}(c:W.var? prog "loop.example/kilnvault/impl.kindParts" =an f)(q:DataW.trod (λ_=>()) prog W 0 (λ_=>bg) bq b 219 f.toList=an (Rows.laid_loop_example_kilnvault_impl_kindParts,p)):Mg W:=by
 obtain⟨i,v,_,s,u,hlen,g⟩:=DataW.trod_array underlying219 q;rw[Vc]at g;have m:i.map (·.1)=_:=(DataW.agg.inj (Prod.mk.inj s).1).symm;intro k n o;have e:(i.map (·.1))[k]?=an (.agg [.lit (.bool (DC k)),.lit (.bool (Ea k)),.lit (.bool (CQ k)),.lit (.int .i64 (CG k))]):=by
  rw[m]
  match k,n,o with
  |1,_,_=>rfl
  |2,_,_=>rfl
  |3,_,_=>rfl
  |4,_,_=>rfl
  |5,_,_=>rfl
  |6,_,_=>rfl
  |7,_,_=>rfl
 rw[getElem?_map]at e;have⟨⟨w,x⟩,t,d⟩:=Option.map_eq_some_iff.1 e;simp only at d;subst d;have h:=g k Yv;rw[t]at h;have l:=QY h;have a:∀j,j<4->W.cell? ⟨5,k *4+j,none⟩=([.bool (DC k),.bool (Ea k),.bool (CQ k),.int .i64 (CG k)]:Zj)[j]?:=by intro j r;rw[World.var?_cell YK c,<-l,getElem?_take_of_lt r,getElem?_drop];simp
 exact⟨a 0 Yv,a 1 Yv,a 2 Yv,a 3 Yv⟩
theorem Acn:prog.globalNamed "errors.errorType" =an 4:=Yr
theorem Adz:(prog.cutTypes.find? (·.1== "internal/reflectlite.rtype")).map (·.2)=an 225:=Yr
theorem Ve:prog.types.size+100=420:=Yr
theorem Aco:((range (420 -100)).filter λt=>prog.rowNamed t [101,114,114,111,114])=[154]:=Yr
theorem Acp(h:handlesMet prog [("errors.errorType",Rows.laid_errors_errorType)] W):ID W:=by
 obtain⟨c,u,j,d,e,k,f,a⟩:=h _ (mem_singleton.2 rfl);have g:=(A8 d).symm;subst g;obtain rfl:=A8 (Adz.symm.ag e);have b:j∈(range (420 -100)).filter λt=>prog.rowNamed t [101,114,114,111,114]:=B6.2 ⟨mem_range.2 (Dl Ve),f⟩;rw[Aco]at b;obtain rfl:=mem_singleton.1 b;have i:typeHandle prog 154=Yx 9 154:=Yr;rw[i]at a;unfold ID;simpa using World.var?_cell Acn a 0
theorem IZ{e:String}{a:Array Value}{j:String}{d:DataW Unit}(i:prog.globalNamed e=an g)(c:W.var? prog e=an a)(h:DataW.trod (λ_=>()) prog W 0 (λ_=>bg) bq b 154 a.toList=an (.iface j d,p)):∃t v,W.cell? (Zd g 0)=an (.iface t v):=by
 have⟨_,u,v,f,_,_⟩:=iface_of_trod underlying154 h;refine⟨u,v,?_⟩;rw[World.var?_cell i c];have:a[0]?=a.toList[0]?:=Yu;rw[this,f];rfl
theorem PQ:prog.globalNamed "loop.example/kilnvault/impl.errWidth" =an 0/\(prog.globals[0]?).map (·.type)=an 154:=⟨Yr,Yr⟩
theorem PR:prog.globalNamed "loop.example/kilnvault/impl.errKind" =an 1/\(prog.globals[1]?).map (·.type)=an 154:=⟨Yr,Yr⟩
theorem PS:prog.globalNamed "loop.example/kilnvault/impl.errShort" =an 6/\(prog.globals[6]?).map (·.type)=an 154:=⟨Yr,Yr⟩
theorem PT:prog.globalNamed "loop.example/kilnvault/impl.errThing" =an 7/\(prog.globals[7]?).map (·.type)=an 154:=⟨Yr,Yr⟩
theorem Th:prog.globalNamed "loop.example/kilnvault/impl.errLong" =an 2/\(prog.globals[2]?).map (·.type)=an 154:=⟨Yr,Yr⟩
theorem PU:prog.globalNamed "loop.example/kilnvault/impl.errParts" =an 3/\(prog.globals[3]?).map (·.type)=an 154:=⟨Yr,Yr⟩
def YM:List (String×DataW Unit):=
 [("loop.example/kilnvault/impl.kindParts",Rows.laid_loop_example_kilnvault_impl_kindParts),("loop.example/kilnvault/impl.errWidth",Rows.laid_loop_example_kilnvault_impl_errWidth),("loop.example/kilnvault/impl.errKind",Rows.laid_loop_example_kilnvault_impl_errKind),("loop.example/kilnvault/impl.errShort",Rows.laid_loop_example_kilnvault_impl_errShort),
   ("loop.example/kilnvault/impl.errThing",Rows.laid_loop_example_kilnvault_impl_errThing),("loop.example/kilnvault/impl.errLong",Rows.laid_loop_example_kilnvault_impl_errLong),("loop.example/kilnvault/impl.errParts",Rows.laid_loop_example_kilnvault_impl_errParts)]
theorem Acq(h:laidMet prog YM W)(F:handlesMet prog [("errors.errorType",Rows.laid_errors_errorType)] W):Env W:=by
 obtain⟨ps,G,_⟩:=h;obtain⟨g1,t1,M,S,p1,q1,k,r,y,b,H,_⟩:=G;obtain⟨g2,t2,N,T,p2,q2,l,s,z,c,I,_⟩:=H;obtain⟨g3,t3,O,U,p3,q3,m,t,A,d,J,_⟩:=I;obtain⟨g4,t4,P,V,p4,q4,n,u,B,e,K,_⟩:=J;obtain⟨g5,t5,Q,X,p5,q5,o,v,C,f,L,_⟩:=K;obtain⟨g6,t6,c6,Y,p6,q6,p,w,D,i,r6,_⟩:=L;obtain⟨g7,t7,R,Z,p7,q7,q,x,E,j,r7,_⟩:=r6;obtain rfl:=A8 (YK.symm.ag k);obtain rfl:=A8 (Vb.symm.ag r);obtain rfl:=A8 (PQ.1.symm.ag l);obtain rfl:=A8 (PQ.2.symm.ag s);obtain rfl:=A8 (PR.1.symm.ag m);obtain rfl:=A8 (PR.2.symm.ag t);obtain rfl:=A8 (PS.1.symm.ag n);obtain rfl:=A8 (PS.2.symm.ag u);obtain rfl:=A8 (PT.1.symm.ag o);obtain rfl:=A8 (PT.2.symm.ag v);obtain rfl:=A8 (Th.1.symm.ag p);obtain rfl:=A8 (Th.2.symm.ag w);obtain rfl:=A8 (PU.1.symm.ag q);obtain rfl:=A8 (PU.2.symm.ag x);refine⟨PO y b,Acp F,?_⟩;intro g a;simp only[Cf,not_mem_nil,or_false]at a;rcases a with rfl|rfl|rfl|rfl|rfl|rfl
 .exact IZ PQ.1 z c
 .exact IZ PR.1 A d
 .exact IZ Th.1 D i
 .exact IZ PU.1 E j
 .exact IZ PS.1 B e
 exact IZ PT.1 C f
def putCells(cs:Array Value):Obj->Obj
 |ca _ t frozen=> ca cs t frozen
 |o=>o
def KM(n:Nat):Value:=.iface 289 (.pointer (an ⟨n,0,none⟩))
noncomputable def envWorld (os:Os):Zh:=
 let w0:=World.holding prog os ⟨#[],#[],[]⟩
 {w0 with heap:=(((((((((((((w0.1.modify 5 (putCells #[ef bq,ef bq,ef bq,Ze,ef bq,ef bq,ef bg,Zg 100000,ef bg,ef bg,ef bq,Ze,ef bg,ef bq,ef bq,Ze,ef bq,ef bg,ef bq,Zg 100000,ef bq,ef bq,ef bq,Zg 1000000000,ef bq,ef bq,ef bq,Zg 100000,ef bq,ef bg,ef bq,Ze])).modify 4 (putCells #[.iface 225 (.agg #[.pointer (an ⟨9,154,none⟩)])])).modify 0 (putCells #[KM w0.1.size])).modify 1 (putCells #[KM (w0.1.size+1)])).modify 6 (putCells #[KM (w0.1.size+2)])).modify 7 (putCells #[KM (w0.1.size+3)])).modify 2 (putCells #[KM (w0.1.size+4)])).modify 3 (putCells #[KM (w0.1.size+5)])).push (ca #[.string ⟨#[110,111,32,119,105,100,116,104]⟩] 308)).push (ca #[.string ⟨#[110,111,32,107,105,110,100,32,111,102,32,101,110,116,114,121]⟩] 308)).push (ca #[.string ⟨#[105,116,32,101,110,100,115,32,116,111,111,32,101,97,114,108,121]⟩] 308)).push (ca #[.string ⟨#[105,116,115,32,116,104,105,110,103,32,105,115,32,110,111,110,101]⟩] 308)).push (ca #[.string ⟨#[105,116,32,103,111,101,115,32,111,110,32,98,101,104,105,110,100,32,105,116,115,32,101,110,100]⟩] 308)).push (ca #[.string ⟨#[97,32,112,97,114,116,32,105,115,32,110,111,116,32,97,115,32,105,116,115,32,107,105,110,100,32,97,115,107,115]⟩] 308)}
theorem ES{a:TypeId×Value->H}{P:Program}{f:Nat->Bool}{n:String}{e:List String}{c:List (DataW H)}{l:List MemPlace}(h:DataW.TrodVars a P w f (n::e) c l):∃d b q,c=d::b/\DataW.TrodVars a P w f e b q:=by
 cases c with
 |nil=>exact h.elim
 |cons d b=>obtain⟨g,t,m,j,p,q,_,_,_,_,k,_⟩:=h;exact⟨d,b,q,rfl,k⟩
noncomputable def heldE {H:Type} (a:TypeId×Value->H) (os:Os) (i:Nat):DataW H:=.held (a (289,Yy ((World.holding prog os ⟨#[],#[],[]⟩).1.size+i)))
theorem GN{s:Zi}{a:Int}(h:(AK s a).ok=bg):Cn (AK s a).k (AK s a).sum (AK s a).name (AK s a).n (AK s a).t (AK s a).ss a=bg/\Cv (AK s a).k (AK s a).sum (AK s a).name (AK s a).n (AK s a).t (AK s a).ss a=s:=by
 by_cases hw:1<=a/\a<=8
 case neg=>rw[NI hw]at h;cases h
 obtain⟨b,c⟩:=hw;obtain⟨l,rfl⟩:∃l,s=AJ l:=⟨s.data.toList,rfl⟩;by_cases h6:l.length<6
 .rw[NJ b c h6]at h;cases h
 .match l,h6,h with
  |a0::a1::a2::a3::a4::a5::T,h6,h=>
   by_cases hT:a5.toNat<=T.length
   .rw[NH a0 a1 a2 a3 a4 a5 T b c hT]at h |-;split at h
    case isTrue hc=>
     rw[if_pos hc];unfold Py at hc;rw[Bool.and_eq_true,decide_eq_true_eq]at hc;exact hc
    case isFalse hc=>cases h
   rw[PA b c Yv]at h;cases h
  |[],h6,_=>simp at h6
  |[_],h6,_=>simp at h6
  |[_,_],h6,_=>simp at h6
  |[_,_,_],h6,_=>simp at h6
  |[_,_,_,_],h6,_=>simp at h6
  |[_,_,_,_,_],h6,_=>simp at h6
section
attribute [local go_sem↓] Go.wp_at_zero Go.wp_at_succ
def PV:Obj->Bool
 |ca _ t _=> !(t==9)
 |_=>bg
structure RN (n0:Nat) (V:List Nat) (W W':Zh):Prop where
 os:W'.os=W.os
 tape:W'.tape=W.tape
 output:W'.output=W.output
 size:W.1.size<=W'.1.size
 old:∀q,q<n0->q∉V->W'.1[q]?=W.1[q]?
 own:∀q o,n0<=q->W.1[q]?=an o->PV o=bg->W'.1[q]?=an o
theorem RN.refl(a:Nat)(V:List Nat)(W:Zh):RN a V W W:=⟨rfl,rfl,rfl,Zx,λ_ _ _=>rfl,λ_ _ _ h _=>h⟩
theorem RN.trans{V:List Nat}{X Y Z:Zh}(h:RN b V X Y)(k:RN b V Y Z):RN b V X Z:=
 ⟨k.os.ag h.os,k.tape.ag h.tape,k.output.ag h.output,Zm h.size k.size,λq a c=>(k.old q a c).ag (h.old q a c),λq o a d c=>k.own q o a (h.own q o a d c) c⟩
abbrev RN.ag:=@RN.trans
def Abides(n0:Nat)(J:Zl->Zh->Prop):Prop:=
 ∀vs W W',J vs W->W'.os=W.os->W'.tape=W.tape->W'.output=W.output->W.1.size<=W'.1.size->(∀q,q<n0->W'.1[q]?=W.1[q]?)->(∀q o,n0<=q->W.1[q]?=an o->PV o=bq->W'.1[q]?=an o)->J vs W'
theorem Abides.A{n0:Nat}{J:Zl->Zh->Prop}(h:Abides n0 J){c:Zl}{b:Zh}(e:J c W)(a:Zz W b)(f:n0<=W.1.size):J c b:=
 h c W b e a.os a.tape a.output a.size (λq d=>a.block q Yv) (λq o _ d _=>(a.block q (A6.1 d).1).ag d)
theorem CD.same{a:Zh}{K:TypeId}{n c:Nat}{f:Lit->Option Value}(h:CD w K b n c f)(j:a.1[b]?=w.1[b]?):CD a K b n c f:=by obtain⟨D,⟨d,clock,e,g⟩,i⟩:=h;exact⟨D,⟨d,clock,j.ag e,g⟩,i⟩
theorem Gp.not(h:Gp w g):∃o,w.1[g]?=an o/\PV o=bg:=by obtain⟨c,f,h⟩:=h;exact⟨_,h,rfl⟩
