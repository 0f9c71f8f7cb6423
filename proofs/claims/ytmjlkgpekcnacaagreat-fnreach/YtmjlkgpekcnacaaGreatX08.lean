import Derived.Test.YtmjlkgpekcnacaaGreatX07
import Derived.Sort.Walk0
import Derived.LaidEql
import Derived.Stop.Asserts
import Derived.RowKitTokens
import Derived.BigRegion
set_option maxRecDepth 100000
set_option maxHeartbeats 16000000
namespace Go.Proofs.YtmjlkgpekcnacaaGreat
open Go.ChangeShapes Go.WideShapes Go.ChangeAt Go.RowKit _root_.Go.Proofs.Tryz
variable{kd num wd now given births c:Int}{s nm text a b t:Zi}{refs:Zl}{ks:List Kd}{ps:List Pd}{ls:List Ld}{w wr:Zh}{g d m R n k:Nat}{r:Rs}{v:Value}{o:Obj}{row:Option Nat}{p:Addr}{l:List UInt8}
section
theorem Mq{A:Type}{R:A->A->Prop}(l:∀a b c,R a b->R b c->R a c){e:List A}(h:∀(j:Nat) p q,e[j]?=some p->e[j+1]?=some q->R p q):e.Pairwise R:=by
 have m:∀(d i:Nat) u v,e[i]?=some u->e[i+d+1]?=some v->R u v:=by
  intro d;induction d with
  |zero=>intro i u v g f;exact h i u v g f
  |succ d ih=>intro i u v g f;have t:=(Zw f).1;have k:e[i+d+1]?=some e[i+d+1]:=Zv Yv;exact l _ _ _ (ih i u _ g k) (h _ _ _ k (by rw[show i+d+1+1=i+(d+1)+1 by omega];exact f))
 rw[List.pairwise_iff_getElem];intro i j n o r;exact m (j -i -1) i _ _ (Zv n) (by rw[show i+(j -i -1)+1=j by omega];exact Zv o)
section
variable {wd now given births:Int} {ks:List Kd} {ps:List Pd} {ls:List Ld}
theorem Bq.aj(h:Bq wd now given births ks ps ls):∀k∈ks,EK k.E k.B wd:=fun k b=>by obtain⟨i,a⟩:=List.getElem?_of_mem b;exact AX (h.th i k a).ok
theorem Bq.cf(h:Bq wd now given births ks ps ls):Gs wd ks:=by
 have sz:∀k∈ks,(k.sum.size:Int)=wd:=fun k c=>by obtain⟨i,g⟩:=List.getElem?_of_mem c;rw[(h.th i k g).sum];exact EY k wd h.ca.gu
 have d:(ks.map (·.sum)).Pairwise (fun a b=>less a b=true):=by refine Ug (fun j p q e f=> ?_);rw[List.getElem?_map]at e f;obtain⟨u,l,rfl⟩:=Option.map_eq_some_iff.1 e;obtain⟨v,m,rfl⟩:=Option.map_eq_some_iff.1 f;exact(h.th (j+1) v m).up j u rfl l
 exact⟨JX d,d,sz,fun k c=>⟨by have:=(h.aj k c).B;omega,Mo (h.aj k c).all⟩,h.nth,h.ca.ib⟩
theorem EQ(h:Ci kd s nm num text refs wd=true):1<=kd/\kd<=7/\Uh kd.toNat s nm num text refs wd:=by unfold Ci at h;simp only[Bool.and_eq_true,decide_eq_true_eq]at h;exact⟨h.1.1,h.1.2,FC h.2⟩
theorem NA(h:Ci kd s nm num text refs wd=true):refs.length<=30:=by
 unfold Ci at h;simp only[Bool.and_eq_true,decide_eq_true_eq]at h;have h2:=h.2;unfold Ei at h2;simp only[Bool.and_eq_true,decide_eq_true_eq]at h2;have a:=h2.2.2.2.2;unfold Ku at a;split at a
 .exact(AX a).B
 .have b:=(of_decide_eq_true a).2;omega
theorem IM.of(h:Bq wd now given births ks ps ls)(g:Ci kd s nm num text refs wd=true)(l:text.size<=maxLen):IM wd now given births ks ps ls kd num text refs:=by
 obtain⟨m,n,e⟩:=EQ g;refine⟨h.cf,h.ca.gu,h.np,h.nl,?_,?_,h.ca.ci,h.ca.gd,h.ca.bk,h.ca.fg,h.ca.ak,h.ca.dx,m,n,e.n0,e.n1,fun k i=> ?_,l,by have:=NA g;omega⟩
 .exact Mq (R:=fun(a b:Pd)=>less a.name b.name=true) (fun a b c h1 h2=>Cm h1 h2) (fun j p q d f=>(h.du (j+1) q f).up j p rfl d)
 .exact Mq (R:=fun(a b:Ld)=>a.H<b.H) (fun a b c h1 h2=>by omega) (fun j p q d f=>(h.br (j+1) q f).up j p rfl d)
 .have:=(h.aj k i).E;unfold maxLen;omega
theorem Mr(ks:List Kd)(x:Kd):(EH ks x).Perm (x::ks):=by unfold EH;have h1:(ks.filter (fun k=>less k.sum x.sum)++ks.filter (fun k=> !(less k.sum x.sum))).Perm ks:=List.filter_append_perm _ _;rw[List.append_assoc];exact(List.perm_middle (a:=x) (l₁:=ks.filter (fun k=>less k.sum x.sum)) (l₂:=ks.filter (fun k=> !(less k.sum x.sum)))).trans (h1.cons x)
theorem JY(ps:List Pd)(n s:Zi):(BC ps n s).length<=ps.length+1/\((∃x∈ps,x.name=n)->(BC ps n s).length<=ps.length):=by
 have h:∀(l:List Pd),(l.filter (fun x=>less x.name n)).length+(l.filter (fun x=> !(less x.name n)&& !decide (x.name=n))).length+(l.filter (fun x=>decide (x.name=n))).length=l.length:=by
  intro l;induction l with
  |nil=>rfl
  |cons x l ih=>
   by_cases hn:x.name=n
   .simp[hn,BU];omega
   .cases hl:less x.name n<;>simp[hl,hn]<;>omega
 have h1:=h ps;unfold BC;rw[List.length_append,List.length_append];refine⟨Yt,fun⟨x,hx,hxn⟩=> ?_⟩;have h2:0<(ps.filter (fun x=>decide (x.name=n))).length:=List.length_pos_of_mem (List.mem_filter.2 ⟨hx,by simpa using hxn⟩);simp;omega
end
theorem FW.code(h:FW wd now given births ks ps ls kd s nm num text refs c a b):2<=c/\c<=6:=by rcases h with⟨_,⟨_,rfl,_⟩|⟨_,⟨_,_,_,_,rfl,_⟩|⟨_,_,rfl,_⟩|⟨_,_,rfl,_⟩⟩⟩|⟨_,_,⟨_,⟨_,rfl⟩|⟨_,_,_,rfl⟩⟩|⟨_,_,rfl⟩|⟨_,⟨_,rfl⟩|⟨_,_,rfl⟩⟩|⟨_,_,rfl⟩|⟨_,_,rfl⟩|⟨_,⟨_,rfl⟩|⟨_,_,rfl⟩⟩⟩<;>omega
theorem Dr.gj{O P L:Value}(h:Dr w g d m O P L wd now given births ks ps ls){j:Array Value}(b:w.heap[R]?=some (.cells j 134))(l:R≠d):R∉vB d m O P L:=by
 unfold vB;simp only[List.mem_cons,List.mem_append,Option.mem_toList,not_or];refine⟨l,?_,?_,?_,?_⟩
 .rintro rfl;obtain⟨n,f,_,k,_⟩:=h.map;obtain⟨D,⟨o,clock,i,_⟩,_⟩:=k;rw[b]at i;cases i
 .intro e;obtain⟨c,a⟩:=Ch h.ord e;rw[b]at a;simp at a
 .intro e;obtain⟨c,a⟩:=Ch h.du e;rw[b]at a;simp at a
 .intro e;obtain⟨c,a⟩:=Ch h.gi e;rw[b]at a;simp at a
theorem Mp.stays{a:Nat}{g:Zh}{i:Array Value}(h:Mp a d m wd r w)(f:w.heap[R]?=some (.cells i 134))(j:a<=R)(k:R≠d)(l:Tn [R] w g):Mp a d m wd r g:=by obtain⟨O,P,L,b⟩:=h;exact⟨O,P,L,b.apart l j (b.gj f k) (fun c fz e=>by rw[f]at e;simp at e)⟩
end
section
section
variable {wd now given births:Int} {ks:List Kd} {ps:List Pd} {ls:List Ld} {kd:Int} {s nm:Zi} {num:Int} {text:Zi} {refs:Zl}
theorem Cz.co{c d:List Kd}{a b:Int}(h1:Cz wd births ks text refs c a)(h2:Cz wd births ks text refs d b):c=d/\a=b:=by
 rcases h1 with⟨k,f,g,_,rfl,rfl⟩|⟨e,_,_,rfl,rfl⟩<;>rcases h2 with⟨k',hk',hs',_,rfl,rfl⟩|⟨hno',_,_,rfl,rfl⟩
 .exact⟨rfl,rfl⟩
 .exact absurd ⟨k,f,g⟩ hno'
 .exact absurd ⟨k',hk',hs'⟩ e
 .exact⟨rfl,rfl⟩
theorem GK.co(m:(ks.map (·.sum)).Nodup){x:Int}{u v:Zi}(h1:GK wd given births ks ls text refs c a b)(h2:GK wd given births ks ls text refs x u v):c=x/\a=u/\b=v:=by
 have n:∀k∈ks,k.sum=Cb text refs wd->AB k.E k.B wd≠AB text refs wd->∀j o,¬Cz wd births ks text refs j o:=by
  intro k f g q j o r;rcases r with⟨t,d,e,h,_⟩|⟨i,_⟩
  .have:=Gr m f d (g.trans e.symm);subst this;exact q h
  .exact i ⟨k,f,g⟩
 rcases h1 with⟨y,rfl,rfl,rfl⟩|⟨l,h1⟩<;>rcases h2 with⟨hn',rfl,rfl,rfl⟩|⟨hall',h2⟩
 .exact⟨rfl,rfl,rfl⟩
 .exact absurd hall' y
 .exact absurd l hn'
 .rcases h1 with⟨k,f,g,q,rfl,rfl,rfl⟩|⟨i,_,rfl,rfl,rfl⟩|⟨⟨j,o,r⟩,_,rfl,rfl,rfl⟩<;>rcases h2 with⟨t,d,e,h,rfl,rfl,rfl⟩|⟨hno',_,rfl,rfl,rfl⟩|⟨⟨ks2,b2,hy'⟩,_,rfl,rfl,rfl⟩
  .have:=Gr m f d (g.trans e.symm);subst this;exact⟨rfl,rfl,rfl⟩
  .exact absurd ⟨k,f,g⟩ hno'
  .exact absurd hy' (n k f g q _ _)
  .exact absurd ⟨t,d,e⟩ i
  .exact⟨rfl,rfl,rfl⟩
  .exact⟨rfl,rfl,rfl⟩
  .exact absurd r (n t d e h _ _)
  .exact⟨rfl,rfl,rfl⟩
  .exact⟨rfl,rfl,rfl⟩
theorem GK.not(n:(ks.map (·.sum)).Nodup)(h1:GK wd given births ks ls text refs c a b){u:List Kd}{o:Int}(h2:Cz wd births ks text refs u o)(h:∀r∈refs,Aw ks r)(z:ls.length<200)(y:given<1000000000):False:=by
 rcases h1 with⟨t,_⟩|⟨_,⟨k,i,j,q,_⟩|⟨f,d,_⟩|⟨_,d,_⟩⟩
 .exact t h
 .rcases h2 with⟨l,e,g,m,_⟩|⟨f,_⟩
  .have:=Gr n i e (j.trans g.symm);subst this;exact q m
  .exact f ⟨k,i,j⟩
 .rcases h2 with⟨l,e,g,_⟩|⟨_,v,x,_⟩
  .exact f ⟨l,e,g⟩
  .omega
 .omega
theorem FW.co(i:(ks.map (·.sum)).Nodup){g:Int}{e f:Zi}(h1:FW wd now given births ks ps ls kd s nm num text refs c a b)(h2:FW wd now given births ks ps ls kd s nm num text refs g e f):c=g/\a=e/\b=f:=by
 rcases h1 with⟨j,h1⟩|⟨rfl,rfl,h1⟩<;>rcases h2 with⟨hk',h2⟩|⟨rfl,rfl,h2⟩
 .exact h1.co i h2
 .omega
 .omega
 .refine⟨?_,rfl,rfl⟩;rcases h1 with⟨d,⟨h1,rfl⟩|⟨h1,h,k,rfl⟩⟩|⟨d,h1,rfl⟩|⟨d,⟨h1,rfl⟩|⟨h1,h,rfl⟩⟩|⟨d,h1,rfl⟩|⟨d,h1,rfl⟩|⟨d,⟨h1,rfl⟩|⟨h1,h,rfl⟩⟩<;>rcases h2 with⟨k2,⟨h2,rfl⟩|⟨h2,x2,y2,rfl⟩⟩|⟨k2,h2,rfl⟩|⟨k2,⟨h2,rfl⟩|⟨h2,x2,rfl⟩⟩|⟨k2,h2,rfl⟩|⟨k2,h2,rfl⟩|⟨k2,⟨h2,rfl⟩|⟨h2,x2,rfl⟩⟩<;>first|rfl|omega|exact absurd h2 h1|exact absurd h1 h2
theorem Ep.co{b:Rs}(h1:Ep wd now given births ks ps ls kd s nm num text refs r)(h2:Ep wd now given births ks ps ls kd s nm num text refs b):r=b:=by rcases h1 with⟨a,_,_,_,d,e,c,rfl⟩|⟨a,_,_,rfl⟩|⟨a,_,rfl⟩|⟨a,_,_,_,rfl⟩|⟨a,_,rfl⟩|⟨a,_,rfl⟩|⟨a,_,_,rfl⟩<;>rcases h2 with⟨k2,_,_,_,ks2,b2,y2,rfl⟩|⟨k2,_,_,rfl⟩|⟨k2,_,rfl⟩|⟨k2,_,_,_,rfl⟩|⟨k2,_,rfl⟩|⟨k2,_,rfl⟩|⟨k2,_,_,rfl⟩<;>first|rfl|omega|(obtain⟨rfl,rfl⟩:=c.co y2;rfl)
theorem FW.not(h:(ks.map (·.sum)).Nodup)(h1:FW wd now given births ks ps ls kd s nm num text refs c a b)(h2:Ep wd now given births ks ps ls kd s nm num text refs r):False:=by rcases h2 with⟨f,g,j,i,l,m,k,_⟩|⟨f,e,d,_⟩|⟨f,e,_⟩|⟨f,e,d,n,_⟩|⟨f,e,_⟩|⟨f,e,_⟩|⟨f,e,d,_⟩<;>rcases h1 with⟨k1,h1⟩|⟨_,_,⟨k1,⟨h1,_⟩|⟨h1,x1,z1,_⟩⟩|⟨k1,h1,_⟩|⟨k1,⟨h1,_⟩|⟨h1,x1,_⟩⟩|⟨k1,h1,_⟩|⟨k1,h1,_⟩|⟨k1,⟨h1,_⟩|⟨h1,x1,_⟩⟩⟩<;>first|omega|exact absurd e h1|exact absurd x1 d|exact h1.not h k g j i|(rcases d with d|d;exact x1 d;omega)
end
end
section
open Go.Proofs
theorem Hl(h:a.toList=b.toList):a=b:=by rw[Lib.toList_data,Lib.toList_data]at h;cases a;cases b;simpa using h
theorem Kv:less a b=true↔a.toList<b.toList:=by unfold less;rw[bytesLess_eq,decide_eq_true_iff]
theorem Kw(h:less a b=false)(c:a≠b):less b a=true:=by
 rw[Kv];have h1:¬a.toList<b.toList:=fun e=>by rw[Kv.2 e]at h;cases h
 have h2:=List.not_lt.1 h1;by_cases e:b.toList<a.toList
 .exact e
 .exact absurd (Hl (Std.le_antisymm (List.not_lt.1 e) h2)) c
end
section
structure Gu (wd now given births:Int) (ks:List Kd) (ps:List Pd) (ls:List Ld):Prop where
 cf:Gs wd ks
 w1:1<=wd
 np:ps.length<=100
 nl:ls.length<=200
 cg:ps.Pairwise (fun a b=>less a.name b.name=true)
 dh:ls.Pairwise (fun a b=>a.H<b.H)
 db:0<=now
 ci:now<=1000000000
 bx:0<=given
 bk:given<=1000000000
 bj:0<=births
 ak:births<=1000000000
 cj:∀k∈ks,k.E.size<=2000
 cu:∀k∈ks,k.B.length<=30
 fh:∀x∈ls,x.H<=given
theorem Gu.zero(h1:1<=wd)(a:wd<=8):Gu wd 0 0 0 [] [] []:=
 ⟨⟨Yu,Yu,Yu,by intro k b;simp at b,Yu,a⟩,h1,Yu,Yu,Yu,Yu,Yv,Yv,Yv,Yv,Yv,Yv,Yu,Yu,Yu⟩
section
variable {wd now given births:Int} {ks:List Kd} {ps:List Pd} {ls:List Ld} {kd:Int} {s nm:Zi} {num:Int} {text:Zi} {refs:Zl}
theorem Gu.jm(h:Gu wd now given births ks ps ls)(a:Ci kd s nm num text refs wd=true)(c:text.size<=maxLen):IM wd now given births ks ps ls kd num text refs:=by obtain⟨d,f,e⟩:=EQ a;exact⟨h.cf,h.w1,h.np,h.nl,h.cg,h.dh,h.db,h.ci,h.bx,h.bk,h.bj,h.ak,d,f,e.n0,e.n1,fun k b=>by have:=h.cj k b;unfold maxLen;omega,c,by have:=NA a;omega⟩
theorem Tb(h:Ci kd s nm num text refs wd=true):text.size<=2000:=by
 unfold Ci at h;simp only[Bool.and_eq_true,decide_eq_true_eq]at h;have h2:=h.2;unfold Ei at h2;simp only[Bool.and_eq_true,decide_eq_true_eq]at h2;have a:=h2.2.2.2.2;unfold Ku at a;split at a
 .exact(AX a).E
 .have b:=(of_decide_eq_true a).1;omega
theorem OD(n s:Zi)(h:ps.Pairwise (fun a b=>less a.name b.name=true)):(BC ps n s).Pairwise (fun a b=>less a.name b.name=true):=by
 unfold BC;rw[List.pairwise_append,List.pairwise_append];have e:∀y∈ps.filter (fun x=> !(less x.name n)&& !decide (x.name=n)),less n y.name=true:=fun y d=>by have h2:=(List.mem_filter.1 d).2;simp only[Bool.and_eq_true,Bool.not_eq_true',decide_eq_false_iff_not]at h2;exact Kw h2.1 h2.2
 refine⟨⟨h.filter _,Yu,fun x c y d=> ?_⟩,h.filter _,fun x c y d=> ?_⟩
 .rw[List.mem_singleton]at d;subst d;exact(List.mem_filter.1 c).2
 .rcases List.mem_append.1 c with c|c
  .exact Cm (List.mem_filter.1 c).2 (e y d)
  .rw[List.mem_singleton]at c;subst c;exact e y d
theorem OE{x:Kd}(h:(ks.map (·.sum)).Pairwise (fun a b=>less a b=true))(g:¬Aw ks x.sum):((EH ks x).map (·.sum)).Pairwise (fun a b=>less a b=true):=by
 rw[List.pairwise_map]at h |-;unfold EH;rw[List.pairwise_append,List.pairwise_append];have f:∀y∈ks.filter (fun k=> !(less k.sum x.sum)),less x.sum y.sum=true:=fun y c=>by obtain⟨h1,h2⟩:=List.mem_filter.1 c;simp only[Bool.not_eq_true']at h2;exact Kw h2 (fun e=>g ⟨y,h1,e⟩)
 refine⟨⟨h.filter _,Yu,fun y c z d=> ?_⟩,h.filter _,fun y c z d=> ?_⟩
 .rw[List.mem_singleton]at d;subst d;exact(List.mem_filter.1 c).2
 .rcases List.mem_append.1 c with c|c
  .exact Cm (List.mem_filter.1 c).2 (f z d)
  .rw[List.mem_singleton]at c;subst c;exact f z d
theorem Gs.drop(h:Gs wd ks)(t:Zi):Gs wd (Eg ks t):=by have a:(Eg ks t).Sublist ks:=List.filter_sublist;exact⟨h.nd.sublist (a.map _),h.dy.sublist (a.map _),fun k b=>h.sz k (a.subset b),fun k b=>h.B k (a.subset b),Zm a.length_le h.len,h.w8⟩
theorem Gu.step(h:Gu wd now given births ks ps ls)(B:Ci kd s nm num text refs wd=true)(i:Ep wd now given births ks ps ls kd s nm num text refs r):Gu wd r.D r.G r.C r.ks r.ps r.ls:=by
 obtain⟨N,O,e⟩:=EQ B;have I:=e.n0;have J:=e.n1;have g:∀x:Ld,x.H=given+1->(ls++[x]).Pairwise (fun a b=>a.H<b.H)/\∀y∈ls++[x],y.H<=given+1:=fun x m=>by
  refine⟨?_,fun y i=> ?_⟩
  .rw[List.pairwise_append];refine⟨h.dh,Yu,fun y i z t=> ?_⟩;rw[List.mem_singleton]at t;subst t;have:=h.fh y i;omega
  .rcases List.mem_append.1 i with i|i
   .have:=h.fh y i;omega
   .rw[List.mem_singleton]at i;subst i;omega
 rcases i with⟨rfl,_,D,C,K,L,i,rfl⟩|⟨_,_,f,rfl⟩|⟨_,_,rfl⟩|⟨_,_,D,C,rfl⟩|⟨_,_,rfl⟩|⟨_,F,rfl⟩|⟨_,_,_,rfl⟩
 .have n:(ls++[(⟨given+1,Cb text refs wd,now+num⟩:Ld)]).length<=200:=Yt
  have j:=g ⟨given+1,Cb text refs wd,now+num⟩ rfl;have u:=h.bx;have l:=AX (e.dv rfl);rcases i with⟨_,_,_,_,rfl,rfl⟩|⟨A,H,M,rfl,rfl⟩
  .exact⟨h.cf,h.w1,h.np,n,h.cg,j.1,h.db,h.ci,by show 0<=given+1;omega,by show given+1<=_;omega,h.bj,h.ak,h.cj,h.cu,j.2⟩
  .have E:=Mr ks ⟨Cb text refs wd,births+1,text,refs⟩;have G:=h.bj;have d:∀k∈EH ks ⟨Cb text refs wd,births+1,text,refs⟩,k=⟨Cb text refs wd,births+1,text,refs⟩\/k∈ks:=fun k c=>List.mem_cons.1 (E.mem_iff.1 c);have v:Gs wd (EH ks ⟨Cb text refs wd,births+1,text,refs⟩):=by
    have q:=OE (x:=⟨Cb text refs wd,births+1,text,refs⟩) h.cf.dy A;refine⟨JX q,q,fun k c=> ?_,fun k c=> ?_,by rw[SK];omega,h.cf.w8⟩
    .rcases d k c with rfl|c
     .exact FJ _ _ _ h.w1
     .exact h.cf.sz k c
    .rcases d k c with rfl|c
     .exact⟨by have:=l.B;show refs.length<=_;omega,Mo l.all⟩
     .exact h.cf.B k c
   refine⟨v,h.w1,h.np,n,h.cg,j.1,h.db,h.ci,by show 0<=given+1;omega,by show given+1<=_;omega,by show 0<=births+1;omega,by show births+1<=_;omega,fun k c=> ?_,fun k c=> ?_,j.2⟩
   .rcases d k c with rfl|c
    .exact l.E
    .exact h.cj k c
   .rcases d k c with rfl|c
    .exact l.B
    .exact h.cu k c
 .have o:=JY ps nm s;refine⟨h.cf,h.w1,?_,h.nl,OD nm s h.cg,h.dh,h.db,h.ci,h.bx,h.bk,h.bj,h.ak,h.cj,h.cu,h.fh⟩;rcases f with f|f
  .exact Zm (o.2 f) h.np
  .exact Zm o.1 Yv
 .exact⟨h.cf,h.w1,Zm (List.length_filter_le _ _) h.np,h.nl,h.cg.filter _,h.dh,h.db,h.ci,h.bx,h.bk,h.bj,h.ak,h.cj,h.cu,h.fh⟩
 .have j:=g ⟨given+1,s,now+num⟩ rfl;have u:=h.bx;exact⟨h.cf,h.w1,h.np,Yt,h.cg,j.1,h.db,h.ci,by show 0<=given+1;omega,by show given+1<=_;omega,h.bj,h.ak,h.cj,h.cu,j.2⟩
 .exact⟨h.cf,h.w1,h.np,Zm (List.length_filter_le _ _) h.nl,h.cg,h.dh.filter _,h.db,h.ci,h.bx,h.bk,h.bj,h.ak,h.cj,h.cu,fun x m=>h.fh x (List.mem_filter.1 m).1⟩
 .have:=h.db;exact⟨h.cf,h.w1,h.np,Zm (List.length_filter_le _ _) h.nl,h.cg,h.dh.filter _,by show 0<=now+num;omega,F,h.bx,h.bk,h.bj,h.ak,h.cj,h.cu,fun x m=>h.fh x (List.mem_filter.1 m).1⟩
 .exact⟨h.cf.drop s,h.w1,h.np,h.nl,h.cg,h.dh,h.db,h.ci,h.bx,h.bk,h.bj,h.ak,fun k c=>h.cj k (List.mem_filter.1 c).1,fun k c=>h.cu k (List.mem_filter.1 c).1,h.fh⟩
end
end
theorem NB(k:Int)(b a:Zi)(n:Int)(t:Zi)(g:Zk)(cap:Nat)(c:Zl)(wd:Int)(w:Zh)(f:Ab w w.heap.size g c)(i:c.length<=1048576)(j:t.size<=maxLen)(o:a.size<=maxLen):
 Calls prog 118 #[.agg (Ik k b a n t g c.length cap),Zg wd] w fun e q=>e=.returned (.string (CI k b a n t c wd))/\Zz w q:=by
 cases hok:Ci k b a n t c wd with
 |true=>rw[show CI k b a n t c wd=⟨(DF k.toNat b a n t c).toArray⟩from by unfold CI;rw[if_pos hok]];unfold Ci at hok;simp only[Bool.and_eq_true,decide_eq_true_eq]at hok;obtain⟨m,rfl⟩:∃m:Nat,k=m:=⟨k.toNat,Yv⟩;rw[Int.toNat_natCast]at hok |-;exact Rp m b a n t g cap c wd w Yv Yv f i j hok.2
 |false=>rw[show CI k b a n t c wd=ByteArray.empty from by unfold CI;rw[if_neg (by rw[hok];decide)]];have h:Below w.heap.size w (w.alloc (.cells (Ik k b a n t g c.length cap) 162)):=Zy;have d:=Ta k b a n t g cap c wd _ (f.M h) i j o;rw[hok]at d;clear hok;go_enter func118,ntmps118;go_wp2_with fail;refine d.mono ?_;rintro e r ⟨rfl,l⟩;go_wp2;go_ret;exact⟨rfl,h.trans (l.mono Yu)⟩
section
open Go.RowKit Go.Extern.Stop Go.Stop Go.Extern
abbrev rv(t:Nat)(a:Addr)(f:Int):Value:=.agg #[.pointer (some ⟨0,t,none⟩),.pointer (some a),.int .u64 f]
end
theorem Cw(b:UInt8):wrap64 (b.toNat:Int)=(b.toNat:Int):=by have h:=b.toNat_lt;simp[wrap64];omega
theorem Gd(x:Int)(h: -9223372036854775808<=x)(a:x<9223372036854775808):IntKind.i64.wrap x=x:=by rw[IntKind.wrap_i64];omega
theorem Vs(h1:1<=wd)(a:k<n):0<=(k:Int) *wd/\(k:Int) *wd<=(n:Int) *wd/\((k:Int)+1) *wd=(k:Int) *wd+wd/\(k:Int) *wd+wd<=(n:Int) *wd:=by refine⟨Int.mul_nonneg Yv Yv,Int.mul_le_mul_of_nonneg_right Yv Yv,by rw[Int.add_mul,Int.one_mul],?_⟩;have:((k:Int)+1) *wd<=(n:Int) *wd:=Int.mul_le_mul_of_nonneg_right Yv Yv;rw[Int.add_mul,Int.one_mul]at this;exact this
theorem Pk(b:n<256)(h1:1<=wd)(h2:wd<=8):0<=(n:Int) *wd/\(n:Int) *wd<=2040:=by refine⟨Int.mul_nonneg Yv Yv,?_⟩;have a:(n:Int) *wd<=255 *wd:=Int.mul_le_mul_of_nonneg_right Yv Yv;omega
def Er(s:Zi)(wd:Int)(n:Nat):Zi:=(s.extract 1 s.size).extract ((n:Int) *wd).toNat (s.size -1)
def LH(s:Zi)(wd:Int)(i:Nat):Zi:=(s.extract 1 s.size).extract ((i:Int) *wd).toNat ((i:Int) *wd+wd).toNat
def Ck(s:Zi)(wd:Int)(k:Nat):Zl:=(List.range k).map (LH s wd)
theorem Dt(s:Zi)(wd:Int)(k:Nat):(Ck s wd k).length=k:=by simp[Ck]
theorem Qc(s:Zi)(wd:Int)(k:Nat):(Ck s wd k).map Value.string++[Value.string (LH s wd k)]=(Ck s wd (k+1)).map Value.string:=by simp[Ck,List.range_succ]
theorem Ms{b:Zh}{x:Value}(e:(wr.alloc o).drew.grownBy b row)(a:wr.cell? p=some x)(d:some p.block≠row):b.cell? p=some x:=by refine e.cell ?_ d;have c:=World.block_lt_of_cell? wr p a;exact(World.cell?_alloc_lt wr o p c).trans a
theorem OF{a:Zh}(d:(wr.alloc o).drew.grownBy a row)(b:p.block<wr.heap.size)(c:some p.block≠row):a.frozen? p=wr.frozen? p:=by have h1:=World.frozen?_of_block (d.block p.block Yt c);rw[h1];exact World.frozen?_alloc_old wr o p (Nat.ne_of_lt b)
theorem Vt{a:Nat}{e:TypeId}{d:Zj}(h:w.ownsRow a e 1 v n d){b:Nat}(f:b<a):some b≠v.ownBlock:=by intro c;have:=(h.lt b c.symm).1;omega
theorem Ji{b:Nat}{ss:Zl}(h:w.ownsRow b 9 1 v ss.length (ss.map Value.string)):∃a cap,v=.slice a ss.length cap/\Ab w w.heap.size a ss:=by
 rcases h.2 with⟨c,d⟩|⟨g,cap,e,c,_⟩
 .exact⟨none,0,by rw[c,d],.inl (List.eq_nil_of_length_eq_zero d)⟩
 .subst c;exact⟨_,_,rfl,Ab.own h⟩
theorem Rq{a:Zh}{cap:Nat}{cj:Zi}{W:Zh}(l:w.heap.size+1<wr.heap.size)(e:wr.ownsRow (w.heap.size+2) 9 1 v k ((Ck s wd k).map Value.string))(d:Below (w.heap.size+1) W wr)(c:a.ownsRow (w.heap.size+2) 9 1 (Yz g (k+1) cap) (k+1) ((Ck s wd k).map Value.string++[.string (LH s wd k)]))(b:(wr.alloc o).drew.grownBy a v.ownBlock)(f:a.cell? (Zd (w.heap.size+1) 0)=some (.string cj))(h:a.cell? (Zd (w.heap.size+1) 1)=some v)(i:a.frozen? ⟨w.heap.size+1,1,none⟩=false):
 (a.setCell (Zd (w.heap.size+1) 1) (Yz g (k+1) cap)).cell? (Zd (w.heap.size+1) 0)=some (.string cj)/\
 (a.setCell (Zd (w.heap.size+1) 1) (Yz g (k+1) cap)).cell? (Zd (w.heap.size+1) 1)=some (Yz g (k+1) cap)/\
 (a.setCell (Zd (w.heap.size+1) 1) (Yz g (k+1) cap)).frozen? ⟨w.heap.size+1,1,none⟩=false/\
 (a.setCell (Zd (w.heap.size+1) 1) (Yz g (k+1) cap)).ownsRow (w.heap.size+2) 9 1 (Yz g (k+1) cap) (k+1) ((Ck s wd (k+1)).map Value.string)/\
 Below (w.heap.size+1) W (a.setCell (Zd (w.heap.size+1) 1) (Yz g (k+1) cap)):=by
 refine⟨?_,?_,?_,?_,?_⟩
 .rw[<-f];exact World.cell?_setCell_other _ _ _ _ Yu
 .exact World.cell?_setCell_same' _ _ _ (by rw[h];rfl)
 .rw[World.frozen?_setCell];exact i
 .rw[<-Qc];exact ownsRow_setCell_below c Yu _
 .exact(((d.alloc Yv o).drew).grown b Yt (fun k j=>by have:=(e.lt k j).1;omega)).setCell Yu _
def JN(w:Zh)(e:Ending)(w':Zh):Prop:=e=.returned (.tuple #[.agg #[Zc,Zb],.bool false])/\Zz w w'
theorem Vu(s:Zi)(a b:Nat)(d:b<=s.size -1)(c:0<s.size):(s.extract 1 s.size).extract a b=s.extract (1+a) (1+b):=by rw[ByteArray.extract_extract];congr 1;omega
theorem UE(a:0<s.size)(b:0<=(k:Int) *wd)(h1:1<=wd)(c:(k:Int) *wd+wd<=s.size -1):s.extract (1+(k:Int) *wd).toNat (1+(k:Int) *wd+wd).toNat=LH s wd k:=by unfold LH;rw[Vu s _ _ Yv a,show(1+(k:Int) *wd).toNat=1+((k:Int) *wd).toNat from by omega,show(1+(k:Int) *wd+wd).toNat=1+((k:Int) *wd+wd).toNat from by omega]
theorem UF(a:0<s.size)(b:0<=(n:Int) *wd):s.extract (1+(n:Int) *wd).toNat s.size=Er s wd n:=by unfold Er;rw[Vu s _ _ Yv a,show(1+(n:Int) *wd).toNat=1+((n:Int) *wd).toNat from by omega,show 1+(s.size -1)=s.size from by omega]
theorem Rr(s:Zi)(wd:Int)(n:Nat)(w:Zh)(hs:s.size<=1048576)(h1:1<=wd)(h2:wd<=8)(M:0<s.size)(L:s[0].toNat=n)(zA:(n:Int) *wd<=s.size -1):
 Calls prog 121 #[.string s,Zg wd] w fun e Q=>
  (Ay (Er s wd n) (Ck s wd n) wd=true->∃v,e=.returned (.tuple #[.agg #[.string (Er s wd n),v],.bool true])/\Q.ownsRow w.heap.size 9 1 v n ((Ck s wd n).map Value.string))/\
  (Ay (Er s wd n) (Ck s wd n) wd=false->e=.returned (.tuple #[.agg #[Zc,Zb],.bool false]))/\Zz w Q:=by
 obtain⟨i0,hi,X,Y,Z⟩:=info_parts BW;have zC:(0:Int)<s.size:=Yv
 have zF:((s.size:Int)==0)=false:=beq_eq_false_iff_ne.2 Yv;have hn:n<256:=by rw[<-L];exact s[0].toNat_lt
 have H:=Pk hn h1 h2;have W:=Cw s[0];rw[L]at W;go_enter func121,ntmps121;go_wp2;obtain⟨cj,t⟩:∃cj,cj=Er s wd n:=⟨_,rfl⟩;rw[UF M H.1,<-t];have y:=Yw t;clear t
 go_loopw [8] (fun i wr=>∃(k:Nat) (v:Value),k<=n/\i=Zg k/\wr.cell? (Zd (w.heap.size+1) 0)=some (.string cj)/\wr.cell? (Zd (w.heap.size+1) 1)=some v/\wr.frozen? ⟨w.heap.size+1,1,none⟩=false/\
  wr.ownsRow (w.heap.size+2) 9 1 v k ((Ck s wd k).map Value.string)/\Below (w.heap.size+1) (w.alloc (Obj.cells #[Value.string ⟨#[]⟩,Value.slice none 0 0] 35)) wr) (fun i _=>n -(intOf i).toNat)
 case atStart=>exact⟨0,Zb,Nat.zero_le _,rfl,by simp[go_sem],by simp[go_sem],by simp[go_sem],World.ownsRow_nil _ _ _ _,(Below.refl _ _).alloc Yu _⟩
 case round=>
  obtain⟨k,v,O,rfl,r,z,K,m,c⟩:=hrel;have U:=c.size;simp at U;by_cases hlt:k<n
  .obtain⟨m1,m2,m3,m4⟩:=Vs h1 hlt;have zB:(k:Int)<n:=Yv
   have e1:=Gd ((k:Int) *wd) Yv Yv;have e2:=Gd (1+(k:Int) *wd) Yv Yv;have e3:=Gd (1+(k:Int) *wd+wd) Yv Yv;have b1:(0:Int)<=1+(k:Int) *wd:=Yv
   have b2:1+(k:Int) *wd<=1+(k:Int) *wd+wd:=Yv
   have b3:1+(k:Int) *wd+wd<=(s.size:Int):=Yv
   have F:=Yw (UE M m1 h1 (by omega:(k:Int) *wd+wd<=s.size -1));have E:=Vt m (b:=w.heap.size+1) Yv;have q:=World.block_lt_of_cell? wr _ r;clear m3;go_wp2
   go_region_law (refine step_append_lies _ rfl (.tmp 45) (.tmp 58) 29 rfl (w.heap.size+2) 9 i0 Zc 1 16 underlying29 hi X Y Z rfl Yr v k ((Ck s wd k).map Value.string) rfl (World.ownsRow.alloc m _) ⟨wr.heap.size,0,none⟩ 1 1 [.string (s.extract (1+(k:Int) *wd).toNat (1+(k:Int) *wd+wd).toNat)] rfl rfl (cell_one_new wr (.string (s.extract (1+(k:Int) *wd).toNat (1+(k:Int) *wd+wd).toNat)) 9) (by simp[Value.oneCell']) Yr Yp Yv Yt (wr.heap.size+1) Yu ?_;intro g cap w1 o d zG zE;have J:=Ms d r E;have S:=Ms d z E;have T:=(OF (p:=⟨w.heap.size+1,1,none⟩) d Yt E).trans K)
   all_goals
    rw[F.o]at o;have R:=Rq q m c o d J S T;have D:=Yw R;clear R m c o d J r z K;go_wp2;refine⟨⟨_,_,_,_,_,_,_,_,_,_,_,_,_,_,_,_,_,_,_,_,_,_,_,⟨k+1,_,Yv,?_,D.o.1,D.o.2.1,D.o.2.2.1,D.o.2.2.2.1,D.o.2.2.2.2⟩,rfl⟩,?_⟩
    .go_num
    .simp[intOf];omega
  .obtain rfl:k=n:=Yv
   have q:=World.block_lt_of_cell? wr _ r;obtain⟨a,cap,P,G⟩:=Ji (ss:=Ck s wd k) (by rw[Dt];exact m);rw[Dt]at P;subst P;have A:(wr.cell? (Zd (w.heap.size) 0))=some Zc:=by rw[c.cell (p:=⟨w.heap.size,0,none⟩) Yu];simp
   have B:(wr.cell? (Zd (w.heap.size) 1))=some Zb:=by rw[c.cell (p:=⟨w.heap.size,1,none⟩) Yu];simp
   have u:wr.frozen? ⟨w.heap.size,0,none⟩=false:=by rw[c.frozen (p:=⟨w.heap.size,0,none⟩) Yu];simp
   have x:wr.frozen? ⟨w.heap.size,1,none⟩=false:=by rw[c.frozen (p:=⟨w.heap.size,1,none⟩) Yu];simp
   have V:cj.size<=maxLen:=by rw[y.o];simp[Er,maxLen];omega
   have l:=Cl cj a cap (Ck s wd k) wd wr G (by rw[Dt];omega) V;rw[Dt]at l;have j:w.heap.size<wr.heap.size:=Yv
   go_wp2_with fail;refine l.mono ?_;rintro e w2 ⟨rfl,f⟩;have N:=(Zy).trans (c.mono Yv);have I:=N.trans (f.mono N.size);have C:=m.kept (row:=none) ⟨f.os,f.tape,f.output,f.size,fun k O _=>f.block k O⟩ (by cases a<;>simp[Value.ownBlock]);have r:=(f.cell (p:=⟨w.heap.size+1,0,none⟩) q).trans r;have z:=(f.cell (p:=⟨w.heap.size+1,1,none⟩) q).trans z
   have A:=(f.cell (p:=⟨w.heap.size,0,none⟩) j).trans A;have B:=(f.cell (p:=⟨w.heap.size,1,none⟩) j).trans B;have u:=(f.frozen (p:=⟨w.heap.size,0,none⟩) j).trans u;have x:=(f.frozen (p:=⟨w.heap.size,1,none⟩) j).trans x;cases hok:Ay cj (Ck s wd k) wd with
   |true=>
    clear l;go_wp2;refine bodyPost_ret (v:=.tuple #[.agg #[.string cj,.slice a k cap],.bool true]) (by simp[results,results121,go_sem,A,B]) rfl ⟨fun _=>⟨.slice a k cap,?_,?_⟩,fun h=> ?_,?_⟩
    .rw[y.o]
    .exact(ownsRow_setCell_below (ownsRow_setCell_below C Yu _) Yu _).mono Yv
    .rw[<-y.o,hok]at h;cases h
    .exact(I.setCell Yu _).setCell Yu _
   |false=>
    clear l;go_wp2;refine bodyPost_ret (v:=.tuple #[.agg #[Zc,Zb],.bool false]) (by simp[results,results121,go_sem,A,B]) rfl ⟨fun h=> ?_,fun _=>rfl,?_⟩
    .rw[<-y.o,hok]at h;cases h
    .exact(I.setCell Yu _).setCell Yu _
theorem Rt(s:Zi)(wd:Int)(w:Zh)(h:¬(1<=wd/\wd<=8)):
 Calls prog 121 #[.string s,Zg wd] w (JN w):=by
 by_cases h1:1<=wd
 .have h2:decide (wd<=8)=false:=Yt
  go_enter func121,ntmps121;go_wp2;exact bodyPost_ret (v:=.tuple #[.agg #[Zc,Zb],.bool false]) (by simp[results,results121,go_sem]) rfl ⟨rfl,Zy⟩
 .go_enter func121,ntmps121;go_wp2;exact bodyPost_ret (v:=.tuple #[.agg #[Zc,Zb],.bool false]) (by simp[results,results121,go_sem]) rfl ⟨rfl,Zy⟩
theorem Ru(s:Zi)(wd:Int)(w:Zh)(h1:1<=wd)(h2:wd<=8)(b:s.size=0):
 Calls prog 121 #[.string s,Zg wd] w (JN w):=by
 have a:=beq_iff_eq.2 Yv;go_enter func121,ntmps121;go_wp2;exact bodyPost_ret (v:=.tuple #[.agg #[Zc,Zb],.bool false]) (by simp[results,results121,go_sem]) rfl ⟨rfl,Zy⟩
theorem Rv(s:Zi)(wd:Int)(n:Nat)(w:Zh)(i:s.size<=1048576)(h1:1<=wd)(h2:wd<=8)(h:0<s.size)(a:s[0].toNat=n)(c:(s.size:Int) -1<(n:Int) *wd):
 Calls prog 121 #[.string s,Zg wd] w (JN w):=by
 have d:(0:Int)<s.size:=Yv
 have e:((s.size:Int)==0)=false:=beq_eq_false_iff_ne.2 Yv;have g:n<256:=by rw[<-a];exact s[0].toNat_lt
 have f:=Pk g h1 h2;have b:=Cw s[0];rw[a]at b;go_enter func121,ntmps121;go_wp2;exact bodyPost_ret (v:=.tuple #[.agg #[Zc,Zb],.bool false]) (by simp[results,results121,go_sem]) rfl ⟨rfl,Zy⟩
def Mt(s:Zi)(wd:Int)(n:Nat):Zi×Zl×Bool:=
 if (n:Int) *wd<=s.size -1/\Ay (Er s wd n) (Ck s wd n) wd=true then (Er s wd n,Ck s wd n,true)else (⟨#[]⟩,[],false)
def rd(s:Zi)(wd:Int):Zi×Zl×Bool:=
 if 1<=wd/\wd<=8 then
  match s.data.toList.head? with
  |none=>(⟨#[]⟩,[],false)
  |some b=>Mt s wd b.toNat
 else (⟨#[]⟩,[],false)
def Fu(s:Zi)(wd:Int)(w:Zh)(e:Ending)(w':Zh):Prop:=
 ∃v,e=.returned (.tuple #[.agg #[.string (rd s wd).1,v],.bool (rd s wd).2.2])/\w'.ownsRow w.heap.size 9 1 v (rd s wd).2.1.length ((rd s wd).2.1.map Value.string)/\Zz w w'
theorem UG(a:0<s.size):s.data.toList.head?=some s[0]:=by rw[List.head?_eq_getElem?,Zv (by simpa using a)];rfl
theorem Wg(s:Zi)(wd:Int):(rd s wd).2.1.length<=255:=by
 unfold rd;split
 .split
  .simp
  .rename_i b _
   unfold Mt;have:=b.toNat_lt;split
   .simp[Dt];omega
   .simp
 .simp
theorem Io(h:rd s wd=(⟨#[]⟩,[],false)):∀e a,JN w e a->Fu s wd w e a:=by rintro e a ⟨rfl,b⟩;unfold Fu;rw[h];exact⟨Zb,rfl,World.ownsRow_nil _ _ _ _,b⟩
theorem Vv(g:rd s wd=Mt s wd n)(b:(n:Int) *wd<=s.size -1):∀e a,
 ((Ay (Er s wd n) (Ck s wd n) wd=true->∃v,e=.returned (.tuple #[.agg #[.string (Er s wd n),v],.bool true])/\a.ownsRow w.heap.size 9 1 v n ((Ck s wd n).map Value.string))/\
   (Ay (Er s wd n) (Ck s wd n) wd=false->e=.returned (.tuple #[.agg #[Zc,Zb],.bool false]))/\Zz w a)->Fu s wd w e a:=by
 rintro e a ⟨h1,h2,c⟩;unfold Fu;rw[g];unfold Mt;cases hok:Ay (Er s wd n) (Ck s wd n) wd with
 |true=>rw[if_pos ⟨b,rfl⟩];obtain⟨v,d,f⟩:=h1 hok;exact⟨v,d,by simpa [Dt]using f,c⟩
 |false=>rw[if_neg Yu];exact⟨Zb,h2 hok,World.ownsRow_nil _ _ _ _,c⟩
theorem Rw(s:Zi)(wd:Int)(w:Zh)(b:s.size<=1048576):Calls prog 121 #[.string s,Zg wd] w (Fu s wd w):=by
 by_cases hw:1<=wd/\wd<=8
 .by_cases h0:0<s.size
  .have a:rd s wd=Mt s wd s[0].toNat:=by unfold rd;rw[if_pos hw,UG h0]
   by_cases hfit:(s[0].toNat:Int) *wd<=s.size -1
   .exact(Rr s wd _ w b hw.1 hw.2 h0 rfl hfit).mono (Vv a hfit)
   .exact(Rv s wd _ w b hw.1 hw.2 h0 rfl Yv).mono (Io (by rw[a];unfold Mt;rw[if_neg (fun h=>hfit h.1)]))
  .refine(Ru s wd w hw.1 hw.2 Yv).mono (Io ?_);have c:s.data.toList=[]:=List.eq_nil_of_length_eq_zero (by have d:s.data.toList.length=s.size:=Array.length_toList;omega);unfold rd;rw[if_pos hw,c];rfl
 .exact(Rt s wd w hw).mono (Io (by unfold rd;rw[if_neg hw]))
def Dc(rest:Zi)(bad:Bool)(n:Int):Zi×Zi×Bool:=
 if bad=true then (⟨#[]⟩,rest,true)else if (rest.size:Int)<n then (⟨#[]⟩,rest,true)else (rest.extract 0 n.toNat,rest.extract n.toNat rest.size,false)
def Fc(l:List UInt8):Int:=l.foldl (fun a b=>a *256+(b.toNat:Int)) 0
def NC(rest:Zi)(bad:Bool):Zi:=(Dc rest bad rest.size).1
def ND(rest:Zi)(bad:Bool):Zi:=(Dc rest bad rest.size).2.1
def Ng(rest:Zi)(bad:Bool)(wd:Int):Bool:=(Dc rest bad rest.size).2.2|| !(rd (NC rest bad) wd).2.2
def FK(k:Int):Bool:=decide (1<=k/\k<=7)
def LI(k:Int):Bool:=FK k&&Kt k.toNat
def Jj(k:Int):Bool:=FK k&&Hk k.toNat
def NE(wd:Int):Bool:= !decide (1<=wd/\wd<=8)
def Kx(s:Zi)(wd:Int):Zi×Zi×Bool:=Dc s (NE wd) (1:Nat)
def Hm(s:Zi)(wd:Int):Int:=Fc (Kx s wd).1.data.toList
def Ky(s:Zi)(wd:Int):Bool:=(Kx s wd).2.2|| !FK (Hm s wd)
def Ip(s:Zi)(wd:Int):Zi×Zi×Bool:=Dc (Kx s wd).2.1 (Ky s wd) (4:Nat)
def Ui(s:Zi)(wd:Int):Int:=Fc (Ip s wd).1.data.toList
def Iq(s:Zi)(wd:Int):Zi×Zi×Bool:=Dc (Ip s wd).2.1 (Ip s wd).2.2 (1:Nat)
def Vw(s:Zi)(wd:Int):Int:=Fc (Iq s wd).1.data.toList
def FU(s:Zi)(wd:Int):Zi×Zi×Bool:=Dc (Iq s wd).2.1 (Iq s wd).2.2 (Vw s wd)
def Du(s:Zi)(wd:Int):Zi×Zi×Bool:=if LI (Hm s wd)=true then Dc (FU s wd).2.1 (FU s wd).2.2 wd else (⟨#[]⟩,(FU s wd).2)
def Jk(s:Zi)(wd:Int):Zi×Zl:=if Jj (Hm s wd)=true then ((rd (NC (Du s wd).2.1 (Du s wd).2.2) wd).1,(rd (NC (Du s wd).2.1 (Du s wd).2.2) wd).2.1)else (⟨#[]⟩,[])
def Kz(s:Zi)(wd:Int):Zi×Bool:=if Jj (Hm s wd)=true then (ND (Du s wd).2.1 (Du s wd).2.2,Ng (Du s wd).2.1 (Du s wd).2.2 wd)else (Du s wd).2
def KA(s:Zi)(wd:Int):Bool:=(Kz s wd).2|| !decide ((Kz s wd).1.size=0)
def LJ(s:Zi)(wd:Int):Bool:=Ci (Hm s wd) (Du s wd).1 (FU s wd).1 (Ui s wd) (Jk s wd).1 (Jk s wd).2 wd
def Dv(s:Zi)(wd:Int):Bool:=KA s wd|| !LJ s wd
theorem Mu{rest:Zi}{a:Bool}{n:Int}(h:(Dc rest a n).2.2=false):a=false:=by
 unfold Dc at h;cases a
 .rfl
 .simp at h
theorem UH(s:Zi)(wd:Int):(rd s wd).1.size<=s.size:=by
 unfold rd;split
 .split
  .exact Nat.zero_le _
  .unfold Mt Er;split
   .simp;omega
   .exact Nat.zero_le _
 .exact Nat.zero_le _
abbrev AF(l:List UInt8):Zi:=⟨l.toArray⟩
theorem UI(s:Zi):AF s.data.toList=s:=rfl
theorem Gv(l:List UInt8)(a b:Nat):(AF l).extract a b=AF ((l.drop a).take (b -a)):=by apply ByteArray.ext;rw[ByteArray.data_extract];apply Array.ext';simp[List.take_drop]
theorem BD(l:List UInt8):(AF l).size=l.length:=by simp[ByteArray.size]
def Ir(T:List UInt8)(wd i:Nat):Zi:=AF ((T.drop (i *wd)).take wd)
theorem Rx(T:List UInt8)(wd:Nat):∀k,k *wd<=T.length->flat ((List.range k).map (Ir T wd))=T.take (k *wd):=by
 intro k;induction k with
 |zero=>intro _;simp[flat]
 |succ k ih=>
  intro h;have a:k *wd<=T.length:=by rw[Nat.succ_mul]at h;omega
  rw[List.range_succ,List.map_append];unfold flat at *
  rw[List.flatMap_append,ih a];simp only[List.map_cons,List.map_nil,List.flatMap_cons,List.flatMap_nil,List.append_nil,Ir];rw[Nat.succ_mul,List.take_add]
theorem Ry(a:Zl)(t:List UInt8)(wd:Nat)(h:∀s∈a,s.size=wd):(List.range a.length).map (Ir (flat a++t) wd)=a:=by
 induction a with
 |nil=>rfl
 |cons s r ih=>
  have b:s.data.toList.length=wd:=h s (List.mem_cons_self ..);have d:=ih (fun x e=>h x (by simp[e]));have c:flat (s::r)++t=s.data.toList++(flat r++t):=by simp[flat]
  rw[List.length_cons,List.range_succ_eq_map,List.map_cons,List.map_map,c];congr 1
  .unfold Ir;rw[Nat.zero_mul,List.drop_zero,List.take_left' b]
  .refine Eq.trans ?_ d;apply List.map_congr_left;intro i _;simp only[Function.comp,Ir];congr 2;rw[show Nat.succ i *wd=s.data.toList.length+i *wd by rw[Nat.succ_mul,b];omega,<-List.drop_drop,List.drop_left]
theorem rd_mk(c:UInt8)(T:List UInt8)(wd:Int)(h1:1<=wd)(h2:wd<=8):
 rd (AF (c::T)) wd=if c.toNat *wd.toNat<=T.length/\Ay (AF (T.drop (c.toNat *wd.toNat))) ((List.range c.toNat).map (Ir T wd.toNat)) wd=true then (AF (T.drop (c.toNat *wd.toNat)),(List.range c.toNat).map (Ir T wd.toNat),true)else (⟨#[]⟩,[],false):=by
 obtain⟨W,rfl⟩:∃W:Nat,wd=W:=⟨wd.toNat,Yv⟩;have a:(AF (c::T)).size=T.length+1:=by rw[BD];rfl
 have b:(AF (c::T)).extract 1 (AF (c::T)).size=AF T:=by rw[a,Gv];simp
 have f:Er (AF (c::T)) W c.toNat=AF (T.drop (c.toNat *W)):=by unfold Er;rw[b,Gv,a];congr 2;rw[show((c.toNat:Int) *(W:Int)).toNat=c.toNat *W by rw[<-Int.natCast_mul];rfl];exact Zt Yu
 have e:Ck (AF (c::T)) W c.toNat=(List.range c.toNat).map (Ir T W):=by unfold Ck;apply List.map_congr_left;intro i _;unfold LH Ir;rw[b,Gv];congr 2;rw[show((i:Int) *(W:Int)).toNat=i *W by rw[<-Int.natCast_mul];rfl,show((i:Int) *(W:Int)+(W:Int)).toNat=i *W+W by rw[<-Int.natCast_mul];omega];congr 1;omega
 have d:((c.toNat:Int) *(W:Int)<=((AF (c::T)).size:Int) -1)↔c.toNat *W<=T.length:=by rw[a,<-Int.natCast_mul];omega
 unfold rd;rw[if_pos ⟨h1,h2⟩];simp only[List.head?_cons];unfold Mt;rw[f,e];simp only[d,Int.toNat_natCast]
theorem Tc(h:(rd (AF l) wd).2.2=true):Ay (rd (AF l) wd).1 (rd (AF l) wd).2.1 wd=true/\BG (rd (AF l) wd).1 (rd (AF l) wd).2.1=l:=by
 by_cases hw:1<=wd/\wd<=8
 .cases l with
  |nil=>unfold rd at h;rw[if_pos hw]at h;simp at h
  |cons c T=>
   rw[rd_mk c T wd hw.1 hw.2]at h |-;split at h
   case isTrue hc=>
    rw[if_pos hc];refine⟨hc.2,?_⟩;simp only[BG,List.length_map,List.length_range];rw[Rx T wd.toNat c.toNat hc.1];simp
   case isFalse hc=>simp at h
 .unfold rd at h;rw[if_neg hw]at h;simp at h
theorem OG{a:Zl}(h:Ay t a wd=true):rd (AF (BG t a)) wd=(t,a,true):=by
 have p:=AX h;have c:∀s∈a,s.size=wd.toNat:=fun s g=>by obtain⟨i,e⟩:=List.getElem?_of_mem g;have:=p.size e;omega
 have f:(UInt8.ofNat a.length).toNat=a.length:=by have:=p.B;simp;omega
 have b:(flat a).length=a.length *wd.toNat:=by rw[Dh,p.bn]
 unfold BG;rw[rd_mk _ _ wd p.lo p.hi,f,Ry a t.data.toList wd.toNat c];have d:(flat a++t.data.toList).drop (a.length *wd.toNat)=t.data.toList:=by rw[<-b,List.drop_left]
 rw[d,UI,if_pos ⟨by rw[List.length_append,b];omega,h⟩]
section
structure ER where
 k:Int
 sum:Zi
 name:Zi
 n:Int
 t:Zi
 ss:Zl
 ok:Bool
def Hb:ER:=⟨0,⟨#[]⟩,⟨#[]⟩,0,⟨#[]⟩,[],false⟩
def Bi(s:Zi)(wd:Int):ER:=
 if Dv s wd=true then Hb else ⟨Hm s wd,(Du s wd).1,(FU s wd).1,Ui s wd,(Jk s wd).1,(Jk s wd).2,true⟩
def Rz(k:Int)(rest:List UInt8):Zi:=if k=1 then ⟨#[]⟩else AF rest
def RC(k:Int)(rest:List UInt8)(wd:Int):Zi:=if k=1 then (rd (AF rest) wd).1 else ⟨#[]⟩
def RD(k:Int)(rest:List UInt8)(wd:Int):Zl:=if k=1 then (rd (AF rest) wd).2.1 else []
def NF(k n:Int)(name rest l:List UInt8)(wd:Int):Bool:=
 Ci k (Rz k rest) (AF name) n (RC k rest wd) (RD k rest wd) wd&&decide (CI k (Rz k rest) (AF name) n (RC k rest wd) (RD k rest wd) wd=AF l)
theorem DG(l:List UInt8)(n:Nat)(h:n<=l.length):Dc (AF l) false n=(AF (l.take n),AF (l.drop n),false):=by unfold Dc;rw[if_neg Yr,if_neg (by rw[BD];omega),Gv,Gv,BD];simp;exact Zt Yu
theorem Ey(l:List UInt8)(n:Int)(h:(l.length:Int)<n):Dc (AF l) false n=(⟨#[]⟩,AF l,true):=by unfold Dc;rw[if_neg Yr,if_pos (by rw[BD];exact h)]
theorem Ge(r:Zi)(n:Int):Dc r true n=(⟨#[]⟩,r,true):=by simp[Dc]
theorem Is(h:(FU s wd).2.2=true):Dv s wd=true:=by
 cases hb:Dv s wd with
 |true=>rfl
 |false=>
  unfold Dv at hb;have c:=(Bool.or_eq_false_iff.1 hb).1;unfold KA at c;have a:=(Bool.or_eq_false_iff.1 c).1;have b:(Du s wd).2.2=false:=by
   unfold Kz at a;split at a
   .simp only[Ng]at a;exact Mu (Bool.or_eq_false_iff.1 a).1
   .exact a
  have d:(FU s wd).2.2=false:=by
   unfold Du at b;split at b
   .exact Mu b
   .exact b
  rw[d]at h;cases h
theorem KB(h:(Iq s wd).2.2=true):(FU s wd).2.2=true:=by unfold FU;rw[h,Ge]
theorem NG(h:(Ip s wd).2.2=true):(Iq s wd).2.2=true:=by unfold Iq;rw[h,Ge]
theorem Td(h:Ky s wd=true):(Ip s wd).2.2=true:=by unfold Ip;rw[h,Ge]
theorem Fv(h:Ky s wd=true):Dv s wd=true:=Is (KB (NG (Td h)))
theorem Te(h:¬(1<=wd/\wd<=8)):Dv s wd=true:=by refine Fv ?_;unfold Ky Kx;rw[show NE wd=true by unfold NE;simp;omega,Ge];rfl
theorem Uj(h1:1<=wd)(h2:wd<=8):NE wd=false:=by unfold NE;simp[h1,h2]
theorem Uk(a:UInt8):Fc [a]=(a.toNat:Int):=by simp[Fc]
theorem Ul(a b c d:UInt8):Fc [a,b,c,d]=(a.toNat:Int) *16777216+(b.toNat:Int) *65536+(c.toNat:Int) *256+(d.toNat:Int):=by simp only[Fc,List.foldl_cons,List.foldl_nil];omega
section
variable {wd:Int} (h1:1<=wd) (h2:wd<=8)
theorem Vx(h1:1<=wd)(h2:wd<=8):Dv (AF []) wd=true:=by refine Fv ?_;unfold Ky Kx;rw[Uj h1 h2,Ey [] _ Yu];rfl
theorem JO(a:UInt8)(l:List UInt8)(h1:1<=wd)(h2:wd<=8):Kx (AF (a::l)) wd=(AF [a],AF l,false):=by unfold Kx;rw[Uj h1 h2,DG _ _ Yu];rfl
theorem RE(a:UInt8)(l:List UInt8)(h1:1<=wd)(h2:wd<=8):Hm (AF (a::l)) wd=(a.toNat:Int):=by unfold Hm;rw[JO a l h1 h2];exact Uk a
theorem Gl(a:UInt8)(l:List UInt8)(h1:1<=wd)(h2:wd<=8):Ky (AF (a::l)) wd= !FK (a.toNat:Int):=by unfold Ky;rw[JO a l h1 h2,RE a l h1 h2];rfl
theorem Tf(a:UInt8)(l:List UInt8)(h1:1<=wd)(h2:wd<=8)(b:l.length<4):Dv (AF (a::l)) wd=true:=by
 cases hk:FK (a.toNat:Int)with
 |false=>exact Fv (by rw[Gl a l h1 h2,hk];rfl)
 |true=>refine Is (KB (NG ?_));unfold Ip;rw[Gl a l h1 h2,hk,JO a l h1 h2];rw[show(!true)=false from rfl,Ey l _ Yv]
theorem Qd(a b c d e:UInt8)(l:List UInt8)(h1:1<=wd)(h2:wd<=8)(f:FK (a.toNat:Int)=true):Ip (AF (a::b::c::d::e::l)) wd=(AF [b,c,d,e],AF l,false):=by unfold Ip;rw[Gl _ _ h1 h2,f,JO _ _ h1 h2];rw[show(!true)=false from rfl,DG _ _ Yu];rfl
theorem Tg(a b c d e:UInt8)(h1:1<=wd)(h2:wd<=8)(f:FK (a.toNat:Int)=true):Dv (AF [a,b,c,d,e]) wd=true:=by refine Is (KB ?_);unfold Iq;rw[Qd a b c d e [] h1 h2 f,Ey [] _ Yu]
theorem Qe(a c d e f b:UInt8)(T:List UInt8)(h1:1<=wd)(h2:wd<=8)(g:FK (a.toNat:Int)=true):Iq (AF (a::c::d::e::f::b::T)) wd=(AF [b],AF T,false):=by unfold Iq;rw[Qd a c d e f (b::T) h1 h2 g,DG _ _ Yu];rfl
theorem Vy(b c d e f a:UInt8)(T:List UInt8)(h1:1<=wd)(h2:wd<=8)(g:FK (b.toNat:Int)=true):Vw (AF (b::c::d::e::f::a::T)) wd=(a.toNat:Int):=by unfold Vw;rw[Qe b c d e f a T h1 h2 g];exact Uk a
theorem Th(a c d e f b:UInt8)(T:List UInt8)(h1:1<=wd)(h2:wd<=8)(g:FK (a.toNat:Int)=true)(h:T.length<b.toNat):Dv (AF (a::c::d::e::f::b::T)) wd=true:=by refine Is ?_;unfold FU;rw[Vy a c d e f b T h1 h2 g,Qe a c d e f b T h1 h2 g,Ey T _ Yv]
theorem Wh(b c d e f a:UInt8)(T:List UInt8)(h1:1<=wd)(h2:wd<=8)(g:FK (b.toNat:Int)=true)(h:a.toNat<=T.length):FU (AF (b::c::d::e::f::a::T)) wd=(AF (T.take a.toNat),AF (T.drop a.toNat),false):=by unfold FU;rw[Vy b c d e f a T h1 h2 g,Qe b c d e f a T h1 h2 g,DG T _ h]
theorem WL(a b c d e:UInt8)(l:List UInt8)(h1:1<=wd)(h2:wd<=8)(f:FK (a.toNat:Int)=true):Ui (AF (a::b::c::d::e::l)) wd=Fc [b,c,d,e]:=by unfold Ui;rw[Qd a b c d e l h1 h2 f]
theorem Gm(a:UInt8)(x:Int)(h:x=(a.toNat:Int)):u8 x=a:=by subst h;simp[u8]
theorem Ti(e a b c d f:UInt8):CS (e.toNat:Int) (Fc [a,b,c,d]) (f.toNat:Int)=[e,a,b,c,d,f]:=by have g:=a.toNat_lt;have h:=b.toNat_lt;have i:=c.toNat_lt;have j:=d.toNat_lt;unfold CS;rw[Ul];rw[Gm e _ rfl,Gm f _ rfl,Gm a _ Yv,Gm b _ Yv,Gm c _ Yv,Gm d _ Yv]
end
theorem UJ(h:FK (k:Int)=true):1<=k/\k<=7:=by unfold FK at h;simp at h;omega
theorem UK{k:Int}{n:Int}{c:Zl}(h:FK k=false):Ci k b a n t c wd=false:=by unfold Ci;unfold FK at h;rw[h];rfl
theorem Mv{n:Int}{c:Zl}(h:Ci (k:Int) b a n t c wd=true):Ei k b a n t c wd=true:=by unfold Ci at h;exact(Bool.and_eq_true_iff.1 h).2
theorem Pm{n:Int}{d:Zl}(h:Ci (k:Int) b a n t d wd=true):Eh (Kt k) b wd=true:=by have c:=Mv h;unfold Ei at c;exact(Bool.and_eq_true_iff.1 (Bool.and_eq_true_iff.1 c).2).1
theorem Qf(h:(AF l).size=0):AF l=⟨#[]⟩:=by rw[BD]at h;rw[List.eq_nil_of_length_eq_zero h]
theorem La{n:Int}{c:Zl}(h:Ci (k:Int) b a n t c wd=true):CI k b a n t c wd=AF l↔DF k b a n t c=l:=by
 unfold CI;rw[if_pos h,Int.toNat_natCast];constructor
 .intro e;have:=congrArg (fun s:Zi=>s.data.toList) e;simpa using this
 .intro e;rw[e]
theorem Mw(a d f g i b:UInt8)(T:List UInt8)(h1:1<=wd)(h2:wd<=8)(Q:b.toNat<=T.length):
 Bi (AF (a::d::f::g::i::b::T)) wd=
  if NF (a.toNat:Int) (Fc [d,f,g,i]) (T.take b.toNat) (T.drop b.toNat) (a::d::f::g::i::b::T) wd=true then
   ⟨(a.toNat:Int),Rz (a.toNat:Int) (T.drop b.toNat),AF (T.take b.toNat),Fc [d,f,g,i],RC (a.toNat:Int) (T.drop b.toNat) wd,RD (a.toNat:Int) (T.drop b.toNat) wd,true⟩
  else Hb:=by
 cases hk:FK (a.toNat:Int)with
 |false=>unfold Bi;rw[if_pos (Fv (by rw[Gl _ _ h1 h2,hk];rfl)),if_neg (by unfold NF;rw[UK hk];simp)]
 |true=>
  obtain⟨R,S⟩:=UJ hk;have j:=Wh a d f g i b T h1 h2 hk Q;have m:=RE a (d::f::g::i::b::T) h1 h2;have y:=WL a d f g i (b::T) h1 h2 hk;have L:(AF (T.take b.toNat)).size=b.toNat:=by rw[BD];simp;omega
  have E:∀x:List UInt8,CS (a.toNat:Int) (Fc [d,f,g,i]) ((AF (T.take b.toNat)).size:Int)++(AF (T.take b.toNat)).data.toList++x=(a::d::f::g::i::b::T)↔x=T.drop b.toNat:=by
   intro x;rw[L,Ti];constructor
   .intro h;have O:T.take b.toNat++x=T:=by simpa using h
    have P:T.take b.toNat++x=T.take b.toNat++T.drop b.toNat:=by rw[O,List.take_append_drop]
    exact List.append_cancel_left P
   .intro h;rw[h];simp
  generalize hs:(AF (a::d::f::g::i::b::T))=s at *
  generalize hnm:AF (T.take b.toNat)=name at *
  generalize hrs:T.drop b.toNat=rest at *
  generalize hn:Fc [d,f,g,i]=n at *
  by_cases hk1:a.toNat=1
  .
   have z:LI (Hm s wd)=false:=by rw[m,hk1];rfl
   have A:Jj (Hm s wd)=true:=by rw[m,hk1];rfl
   have c:Du s wd=(⟨#[]⟩,AF rest,false):=by unfold Du;rw[if_neg (by rw[z];decide),j]
   have G:NC (AF rest) false=AF rest:=by unfold NC;rw[BD,DG _ _ (Zx)];simp
   have M:ND (AF rest) false=⟨#[]⟩:=by unfold ND;rw[BD,DG _ _ (Zx)];simp
   have I:Ng (AF rest) false wd= !(rd (AF rest) wd).2.2:=by unfold Ng;rw[G,BD,DG _ _ (Zx)];rfl
   have o:Jk s wd=((rd (AF rest) wd).1,(rd (AF rest) wd).2.1):=by unfold Jk;rw[if_pos A,c];simp only[G]
   have q:Kz s wd=(⟨#[]⟩, !(rd (AF rest) wd).2.2):=by unfold Kz;rw[if_pos A,c];simp only[M,I]
   have t:LJ s wd=Ci (a.toNat:Int) ⟨#[]⟩ name n (rd (AF rest) wd).1 (rd (AF rest) wd).2.1 wd:=by unfold LJ;rw[m,y,j,c,o]
   have r:Dv s wd=(!(rd (AF rest) wd).2.2|| !Ci (a.toNat:Int) ⟨#[]⟩ name n (rd (AF rest) wd).1 (rd (AF rest) wd).2.1 wd):=by unfold Dv KA;rw[t,q];simp[ByteArray.size]
   have u:((a.toNat:Int)=1):=Yv
   unfold Bi NF Rz RC RD;rw[if_pos u,if_pos u,if_pos u,hnm,r,m,c,j,y,o];simp only;cases k:Ci (a.toNat:Int) ⟨#[]⟩ name n (rd (AF rest) wd).1 (rd (AF rest) wd).2.1 wd with
   |false=>simp
   |true=>
    have C:=La (l:=a::d::f::g::i::b::T) k;have N:=(FC (Mv k)).dv hk1;have J:DF a.toNat ⟨#[]⟩ name n (rd (AF rest) wd).1 (rd (AF rest) wd).2.1=(a::d::f::g::i::b::T)↔BG (rd (AF rest) wd).1 (rd (AF rest) wd).2.1=rest:=by rw[<-E];unfold DF;rw[if_pos hk1];simp
    rw[J]at C;have K:BG (rd (AF rest) wd).1 (rd (AF rest) wd).2.1=rest↔(rd (AF rest) wd).2.2=true:=by
     constructor
     .intro e;have:=OG N;rw[e]at this;rw[this]
     .intro e;exact(Tc e).2
    rw[K]at C;cases hr:(rd (AF rest) wd).2.2 with
    |true=>rw[if_neg Yu,if_pos (by simp;exact C.2 hr)]
    |false=>rw[if_pos Yu,if_neg (by simp;intro h;have:=C.1 h;rw[hr]at this;cases this)]
  .have A:Jj (Hm s wd)=false:=by rw[m];unfold Jj Hk;simp[hk1]
   have u:¬((a.toNat:Int)=1):=Yv
   have o:Jk s wd=(⟨#[]⟩,[]):=by unfold Jk;rw[if_neg (by rw[A];decide)]
   have q:Kz s wd=(Du s wd).2:=by unfold Kz;rw[if_neg (by rw[A];decide)]
   have v:∀D,Ci (a.toNat:Int) D name n ⟨#[]⟩ [] wd=true->D=AF rest->CI (a.toNat:Int) D name n ⟨#[]⟩ [] wd=s:=by intro D k e;rw[<-hs];refine(La (l:=a::d::f::g::i::b::T) k).2 ?_;unfold DF;rw[if_neg hk1,e,List.append_nil];exact(E rest).2 rfl
   unfold Bi NF Rz RC RD;rw[if_neg u,if_neg u,if_neg u,hnm,hs];cases hu:Kt a.toNat with
   |true=>
    have z:LI (Hm s wd)=true:=by rw[m];unfold LI;rw[hk,Int.toNat_natCast,hu];rfl
    have c:Du s wd=Dc (AF rest) false wd:=by unfold Du;rw[if_pos z,j]
    obtain⟨W,rfl⟩:∃W:Nat,wd=W:=⟨wd.toNat,Yv⟩;by_cases hsz:rest.length=W
    .rw[DG rest W Yv,Zt Yv,List.drop_of_length_le Yv]at c;have t:LJ s W=Ci (a.toNat:Int) (AF rest) name n ⟨#[]⟩ [] W:=by unfold LJ;rw[m,y,j,c,o]
     have r:Dv s W= !Ci (a.toNat:Int) (AF rest) name n ⟨#[]⟩ [] W:=by unfold Dv KA;rw[t,q,c];simp[ByteArray.size]
     rw[r,m,c,j,y,o];simp only;cases k:Ci (a.toNat:Int) (AF rest) name n ⟨#[]⟩ [] W with
     |false=>simp
     |true=>rw[if_neg Yu,if_pos (by simp;exact v _ k rfl)]
    .have B:Ci (a.toNat:Int) (AF rest) name n ⟨#[]⟩ [] W=false:=by
      cases k:Ci (a.toNat:Int) (AF rest) name n ⟨#[]⟩ [] W with
      |false=>rfl
      |true=>have:=Pm k;rw[hu]at this;unfold Eh at this;rw[if_pos rfl,BD]at this;simp at this;omega
     have H:Dv s W=true:=by
      unfold Dv KA;rw[q,c];by_cases hl:rest.length<W
      .rw[Ey rest _ Yv];simp
      .rw[DG rest W Yv];have:(AF (rest.drop W)).size≠0:=by rw[BD];simp;omega
       simp[this]
     rw[if_pos H,if_neg (by rw[B];simp)]
   |false=>
    have z:LI (Hm s wd)=false:=by rw[m];unfold LI;rw[hk,Int.toNat_natCast,hu];rfl
    have c:Du s wd=(⟨#[]⟩,AF rest,false):=by unfold Du;rw[if_neg (by rw[z];decide),j]
    by_cases hsz:rest.length=0
    .have F:=Qf (by rw[BD];exact hsz);have t:LJ s wd=Ci (a.toNat:Int) (AF rest) name n ⟨#[]⟩ [] wd:=by unfold LJ;rw[m,y,j,c,o,F]
     have r:Dv s wd= !Ci (a.toNat:Int) (AF rest) name n ⟨#[]⟩ [] wd:=by unfold Dv KA;rw[t,q,c];simp[BD,hsz]
     rw[r,m,c,j,y,o];simp only;cases k:Ci (a.toNat:Int) (AF rest) name n ⟨#[]⟩ [] wd with
     |false=>simp
     |true=>rw[if_neg Yu,if_pos (by simp;exact v _ k rfl),F]
    .have B:Ci (a.toNat:Int) (AF rest) name n ⟨#[]⟩ [] wd=false:=by
      cases k:Ci (a.toNat:Int) (AF rest) name n ⟨#[]⟩ [] wd with
      |false=>rfl
      |true=>have:=Pm k;rw[hu]at this;unfold Eh at this;rw[if_neg Yr,BD]at this;simp at this;simp[this]at hsz
     have H:Dv s wd=true:=by
      unfold Dv KA;rw[q,c];have:(AF rest).size≠0:=by rw[BD];exact hsz
      simp[this]
     rw[if_pos H,if_neg (by rw[B];simp)]
end
def DA(s:Zi)(wd:Int)(w:Zh)(e:Ending)(w':Zh):Prop:=
 ∃v,e=.returned (.tuple #[.agg #[Zg (Bi s wd).k,.string (Bi s wd).sum,.string (Bi s wd).name,Zg (Bi s wd).n,.string (Bi s wd).t,v],.bool (Bi s wd).ok])/\
  w'.ownsRow w.heap.size 9 1 v (Bi s wd).ss.length ((Bi s wd).ss.map Value.string)/\Zz w w'
theorem It(n:Int)(w:Zh):
 Calls prog 22 #[Zg n] w fun e a=>e=.returned (.bool (decide (1<=n/\n<=8)))/\a=w:=by
 by_cases h1:1<=n
 .by_cases h2:n<=8
  .go_enter func22,ntmps22;go_wp2;go_ret;exact⟨AH (by simp[h1,h2]),rfl⟩
  .have c:decide (n<=8)=false:=by simpa using h2
   go_enter func22,ntmps22;go_wp2;go_ret;exact⟨rfl,rfl⟩
 .have b:decide (1<=n)=false:=by simpa using h1
  go_enter func22,ntmps22;go_wp2;go_ret;exact⟨rfl,rfl⟩
theorem Mx(h:¬(1<=wd/\wd<=8)):Bi s wd=Hb:=by unfold Bi;rw[if_pos (Te h)]
theorem My(h1:1<=wd)(h2:wd<=8)(b:l.length<6):Bi (AF l) wd=Hb:=by
 unfold Bi;rw[if_pos]
 match l,b with
 |[],_=>exact Vx h1 h2
 |a::l,b=>
  by_cases h4:l.length<4
  .exact Tf a l h1 h2 h4
  .cases hk:FK (a.toNat:Int)with
   |false=>exact Fv (by rw[Gl _ _ h1 h2,hk];rfl)
   |true=>
    match l,b,h4 with
    |[a1,a2,a3,a4],_,_=>exact Tg a a1 a2 a3 a4 h1 h2 hk
    |[],_,h4=>simp at h4
    |[_],_,h4=>simp at h4
    |[_,_],_,h4=>simp at h4
    |[_,_,_],_,h4=>simp at h4
theorem NH{a c d e f b:UInt8}{T:List UInt8}(h1:1<=wd)(h2:wd<=8)(g:T.length<b.toNat):Bi (AF (a::c::d::e::f::b::T)) wd=Hb:=by
 unfold Bi;rw[if_pos];cases hk:FK (a.toNat:Int)with
 |false=>exact Fv (by rw[Gl _ _ h1 h2,hk];rfl)
 |true=>exact Th a c d e f b T h1 h2 hk g
theorem Gw{a:Zh}(h:Bi s wd=Hb)(b:Zz w a):DA s wd w (.returned (.tuple #[.agg Ya,.bool false])) a:=by unfold DA;rw[h];exact⟨Zb,rfl,World.ownsRow_nil _ _ _ _,b⟩
theorem Qg(s:Zi)(wd:Int)(w:Zh)(h:¬(1<=wd/\wd<=8)):
 Calls prog 110 #[.string s,Zg wd] w (DA s wd w):=by
 have c:decide (1<=wd/\wd<=8)=false:=by simpa using h
 have HN:=Yw (Mx (s:=s) h);clear h;go_enter func110,ntmps110;go_wp2_with (go_at_call 22;refine(It wd _).mono ?_;rintro e b ⟨rfl,a⟩;rw[a];clear a b);exact bodyPost_ret (v:=.tuple #[.agg Ya,.bool false]) (by simp[results,results110,go_sem]) rfl (Gw HN.o (Zy))
theorem Qh(s:Zi)(wd:Int)(w:Zh)(h1:1<=wd)(h2:wd<=8)(b:s.size<6):
 Calls prog 110 #[.string s,Zg wd] w (DA s wd w):=by
 have f:decide (1<=wd/\wd<=8)=true:=by simp[h1,h2]
 have d:decide ((s.size:Int)<6)=true:=Yt
 have HN:=Yw (My (l:=s.data.toList) h1 h2 b);go_enter func110,ntmps110;go_wp2_with (go_at_call 22;refine(It wd _).mono ?_;rintro e c ⟨rfl,a⟩;rw[a];clear a c);exact bodyPost_ret (v:=.tuple #[.agg Ya,.bool false]) (by simp[results,results110,go_sem]) rfl (Gw HN.o (Zy))
theorem Qi(s:Zi)(wd:Int)(w:Zh)(o:s.size<=1048576)(h1:1<=wd)(h2:wd<=8)(a:Nat)(l:6<=s.size)(c:s[5].toNat=a)(d:Bi s wd=Hb)(n:s.size<6+a):
 Calls prog 110 #[.string s,Zg wd] w (DA s wd w):=by
 have m:decide (1<=wd/\wd<=8)=true:=by simp[h1,h2]
 have h:decide ((s.size:Int)<6)=false:=Yt
 have j:(5:Int)<s.size:=Yv
 have i:decide ((s.size:Int)<6+(a:Int))=true:=Yt
 have k:a<256:=by rw[<-c];exact s[5].toNat_lt
 have f:=Cw s[5];rw[c]at f;have HN:=Yw d;clear d;go_enter func110,ntmps110;go_wp2_with (go_at_call 22;refine(It wd _).mono ?_;rintro e g ⟨rfl,b⟩;rw[b];clear b g);exact bodyPost_ret (v:=.tuple #[.agg Ya,.bool false]) (by simp[results,results110,go_sem]) rfl (Gw HN.o (Zy))
theorem Qj(s:Zi)(wd:Int)(b u x A Z j:Nat)(w:Zh)(hs:s.size<=1048576)(h1:1<=wd)(h2:wd<=8)(h6:6<=s.size)(L:s[0].toNat=b)(M:s[1].toNat=u)(N:s[2].toNat=x)(O:s[3].toNat=A)(P:s[4].toNat=Z)(g5:s[5].toNat=j)(hf:6+j<=s.size)(a l:Zi)(zM:s.extract 6 (6+j)=a)(zP:s.extract (6+j) s.size=l)(n:Int)(hn:(u:Int) *16777216+(x:Int) *65536+(A:Int) *256+(Z:Int)=n)(g f:Zi)(c:Zl)(zR:g=if (b:Int)=1 then ⟨#[]⟩else l)(zU:f=if (b:Int)=1 then (rd l wd).1 else ⟨#[]⟩)(zO:c=if (b:Int)=1 then (rd l wd).2.1 else [])(hR:Bi s wd=if (Ci b g a n f c wd&&decide (CI b g a n f c wd=s))=true then ⟨b,g,a,n,f,c,true⟩else Hb):
 Calls prog 110 #[.string s,Zg wd] w (DA s wd w):=by
 have hd:decide (1<=wd/\wd<=8)=true:=by simp[h1,h2]
 have zH:decide ((s.size:Int)<6)=false:=Yt
 have l5:(5:Int)<s.size:=Yv
 have zI:decide ((s.size:Int)<6+(j:Int))=false:=Yt
 have b0:b<256:=by rw[<-L];exact s[0].toNat_lt
 have b1:u<256:=by rw[<-M];exact s[1].toNat_lt
 have b2:x<256:=by rw[<-N];exact s[2].toNat_lt
 have b3:A<256:=by rw[<-O];exact s[3].toNat_lt
 have b4:Z<256:=by rw[<-P];exact s[4].toNat_lt
 have b5:j<256:=by rw[<-g5];exact s[5].toNat_lt
 have w0:=Cw s[0];have w1:=Cw s[1];have w2:=Cw s[2];have w3:=Cw s[3];have w4:=Cw s[4];have T:=Cw s[5];rw[L]at w0;rw[M]at w1;rw[N]at w2;rw[O]at w3;rw[P]at w4;rw[g5]at T;have zA:=Yw (Zn b0 (Zn b1 (Zn b2 (Zn b3 b4))));have zF:=Yw (Zn w0 (Zn w1 (Zn w2 (Zn w3 w4))));have zB:=Yw (Zn L (Zn M (Zn N (Zn O P))));have HX:=Yw (Zn hs (Zn h1 h2));have d:=Yw (Zn zM (Zn zP (Zn hn (Zn zR (Zn zU (Zn zO hR))))))
 clear zM zP hn zR zU zO hR;clear b0 b1 b2 b3 b4 w0 w1 w2 w3 w4 L M N O P;obtain⟨W,R⟩:∃W,W=w.alloc (.cells Ya 162):=⟨_,rfl⟩;have zW:=(Bc R).1;have hz:w.heap.size<W.heap.size:=by rw[R];simp
 have R0:Hid (Aa W _ _):=(Bc R).2.2;have HW:=Yw R;clear R;go_enter func110,ntmps110;go_upto_region 1 with fail;rw[<-HW.o];clear HW;go_upto_region 3 with(go_at_call 22;refine(It wd _).mono ?_;rintro e w' ⟨rfl,zV⟩;rw[zV];clear zV w');go_cut [6] (fun v H=>v=Yy W.heap.size/\H=(W.alloc (.cells #[Zg (b:Int),Zc,Zc,Zg n,Zc,Zb] 162)).drew)
 case first=>
  obtain⟨b0,b1,b2,b3,b4⟩:=zA.o;have m1:=Gd ((u:Int) *16777216) Yv Yv;have m2:=Gd ((x:Int) *65536) Yv Yv;have m3:=Gd ((A:Int) *256) Yv Yv;have p1:=Gd ((u:Int) *16777216+(x:Int) *65536) Yv Yv;have p2:=Gd ((u:Int) *16777216+(x:Int) *65536+(A:Int) *256) Yv Yv
  have p3:=Gd ((u:Int) *16777216+(x:Int) *65536+(A:Int) *256+(Z:Int)) Yv Yv;have l0:(0:Int)<s.size:=Yv
  have l1:(1:Int)<s.size:=Yv
  have l2:(2:Int)<s.size:=Yv
  have l3:(3:Int)<s.size:=Yv
  have l4:(4:Int)<s.size:=Yv
  obtain⟨w0,w1,w2,w3,w4⟩:=zF.o;obtain⟨L,M,N,O,P⟩:=zB.o;clear b0 b1 b2 b3 b4 b5 zI zH hd;have H5:=Yw (Zn g5 (Zn T l5));clear T l5
  go_big_region
  go_wp2_with fail;go_meet;exact⟨rfl,by rw[d.o.2.2.1]⟩
 case rest=>
 revert wc;intro W3 hcut;obtain⟨rfl,X⟩:=hcut;have zY:=hf;clear b5 zI zH hd zA zF zB HX;have Y:Below W.heap.size W W3:=by rw[X];exact(Zy).drew
 have Z3:Aa W3 W.heap.size [Zg (b:Int),Zc,Zc,Zg n,Zc,Zb]:=by rw[X];exact Aa.new W _ _
 have R3:=R0.o.below Y;have B3:=zW.trans (Y.mono (Nat.le_of_lt hz));obtain⟨B,hB⟩:∃B,B=W.heap.size:=⟨_,rfl⟩;rw[<-hB]at Z3;have HB:=Yw hB;obtain⟨z,yB⟩:=Z3 2 _ rfl;have G:w.heap.size<B:=Yv
 obtain⟨D,q⟩:∃D,D=W3.setCell (Zd B 2) (.string a):=⟨_,rfl⟩;have E:Hid (Aa D B [Zg (b:Int),Zc,.string a,Zg n,Zc,Zb]):=by rw[q];exact Z3.set 2 _
 have R4:Hid (Aa D w.heap.size Xz):=by rw[q];exact R3.aw (Be _ _ _ _) Yv
 have B4:Hid (Zz w D):=by rw[q];exact B3.setCell (p:=⟨B,2,none⟩) (Nat.le_of_lt G) _
 have zE:=Yw q;have Hn:=Yw d.o.1;have Hr:=Yw d.o.2.1;rw[<-hB];clear X Y q R3 B3 hB Z3;have e6:((6:Int)+(j:Int)).toNat=6+j:=Yv
 have u1:(6:Int)<=6+(j:Int):=Yv
 have u2:(6:Int)+(j:Int)<=(s.size:Int):=Yv
 go_upto_region 6 with fail;rw[Hn.o,Hr.o,<-zE.o];have zS:l.size<=1048576:=by rw[<-Hr.o];simp;omega
 have yA:a.size<=1048576:=by rw[<-Hn.o];simp;omega
 have zX:=HB.o.symm;clear zE Hn Hr z yB e6 u1 u2 T l5 R0 zW hz zX HB;clear g5;clear hf zY h6;have HX:=Yw (Zn hs (Zn h1 h2));clear hs h1 h2;obtain⟨o,_⟩:=E.o 0 _ rfl
 go_upto_if 63 with fail
 go_cut [] (fun H=>∃(i:Zk) (k:Nat),Hid (Aa H B (Yd (b:Int) g a n f i c.length k))/\Hid (Aa H w.heap.size Xz)/\Hid (H.ownsRow (w.heap.size+1) 9 1 (.slice i c.length k) c.length (c.map Value.string))/\Hid (Zz w H))
 case first=>
  by_cases hk:(b:Int)=1
  .have e1:Hid (g=⟨#[]⟩):=by show _=_;rw[d.o.2.2.2.1,if_pos hk]
   have e2:Hid (f=(rd l wd).1):=by show _=_;rw[d.o.2.2.2.2.1,if_pos hk]
   have e3:Hid (c=(rd l wd).2.1):=by show _=_;rw[d.o.2.2.2.2.2.1,if_pos hk]
   have hq:((b:Int)==1)=true:=by simpa using hk
   have HK:=Yw hk;clear hk;go_wp2_with fail;have HR:=Rw l wd D zS;unfold Fu at HR;refine HR.mono ?_;rintro e T ⟨v,rfl,ho,F⟩;rw[<-e3.o]at ho;rw[<-e2.o];obtain⟨i,k,hv,_⟩:=Ji ho;subst hv;have Z5:=Aa.below E.o F;have R5:=Aa.below R4.o F;have zG:=E.o.lt;obtain⟨J,yE⟩:=Z5 4 _ rfl;obtain⟨K,yF⟩:=Z5 5 _ rfl;have B5:=B4.o.trans (F.mono B4.o.size);clear HR F o hq;go_wp2_with fail;go_meet
   refine⟨i,k,?_,?_,?_,?_⟩
   .rw[e1.o];exact(Z5.set 4 _).set 5 _
   .exact(R5.aw (Be _ B 4 _) Yv).aw (Be _ B 5 _) Yv
   .exact(ownsRow_setCell_below (ownsRow_setCell_below ho zG _) zG _).mono Yv
   .exact(B5.setCell (p:=⟨B,4,none⟩) (Nat.le_of_lt G) _).setCell (p:=⟨B,5,none⟩) (Nat.le_of_lt G) _
  .have e1:Hid (g=l):=by show _=_;rw[d.o.2.2.2.1,if_neg hk]
   have e2:Hid (f=⟨#[]⟩):=by show _=_;rw[d.o.2.2.2.2.1,if_neg hk]
   have e3:Hid (c=[]):=by show _=_;rw[d.o.2.2.2.2.2.1,if_neg hk]
   have hq:((b:Int)==1)=false:=by simpa using hk
   obtain⟨I,yD⟩:=E.o 1 _ rfl;have HK:=Yw hk;clear hk;go_wp2_with fail;go_meet;refine⟨none,0,?_,?_,?_,?_⟩
   .rw[e1.o,e2.o,e3.o];exact E.o.set 1 _
   .exact R4.o.aw (Be _ B 1 _) Yv
   .rw[e3.o];exact World.ownsRow_nil _ _ _ _
   .exact B4.o.setCell (p:=⟨B,1,none⟩) (Nat.le_of_lt G) _
 case rest=>
 revert wc;intro w6 hcut;obtain⟨i,k,Z6,R6,O6,B6⟩:=hcut;clear E R4 B4 o;obtain⟨o,I,z,U,J,K⟩:=Aa.c6 Z6.o 0 1 2 3 4 5;have zN:c.length<=255:=by
  rw[d.o.2.2.2.2.2.1];split
  .exact Wg _ _
  .exact Nat.zero_le _
 have zT:f.size<=maxLen:=by
  rw[d.o.2.2.2.2.1];unfold maxLen;split
  .have:=UH l wd;omega
  .exact Nat.zero_le _
 have zK:a.size<=maxLen:=Yp
 have V:Hid (Ab w6 w6.heap.size i c):=by obtain⟨a',c',hv,hr⟩:=Ji O6.o;cases hv;exact hr
 have C:=Yw (Zn zN (Zn zT zK));clear zN zT zK zS yA;go_wp2_with fail;refine(Ta (b:Int) g a n f i k c wd w6 V.o (by have:=C.o.1;omega) C.o.2.1 C.o.2.2).mono ?_;rintro e w7 ⟨rfl,m⟩;have Z7:Hid (Aa w7 B (Yd (b:Int) g a n f i c.length k)):=Z6.o.below m;have y:Hid (Aa w7 w.heap.size Xz):=R6.o.below m
 have O7:Hid (w7.ownsRow (w.heap.size+1) 9 1 (.slice i c.length k) c.length (c.map Value.string)):=O6.o.kept (Ae none m) (Classical.em _);have B7:=Yw (B6.o.trans (m.mono B6.o.size));have S7:=Yw (Ab.M V.o m);clear Z6 R6 O6 B6 V m o I z U J K;obtain⟨o,I,z,U,J,K⟩:=Aa.c6 Z7.o 0 1 2 3 4 5;cases hok:Ci (b:Int) g a n f c wd with
 |false=>
  have Q:Hid (Bi s wd=Hb):=by show _=_;rw[d.o.2.2.2.2.2.2,if_neg (by rw[hok];simp)]
  obtain⟨r0,q0⟩:=y.o 0 _ rfl;obtain⟨r1,q1⟩:=y.o 1 _ rfl;obtain⟨r2,q2⟩:=y.o 2 _ rfl;obtain⟨r3,q3⟩:=y.o 3 _ rfl;obtain⟨r4,q4⟩:=y.o 4 _ rfl;obtain⟨r5,q5⟩:=y.o 5 _ rfl;clear o I z U J K hok;go_wp2;refine bodyPost_ret (v:=.tuple #[.agg Ya,.bool false]) (by simp[results,results110,go_sem, *]) rfl ?_;refine Gw Q.o ?_
  iterate 6 (refine Below.setCell ?_ (show w.heap.size<=w.heap.size from Zx) _)
  exact B7.o
 |true=>
  have zC:=Yw hok;clear hok;go_wp2_with fail;refine(NB (b:Int) g a n f i k c wd w7 S7.o (by have:=C.o.1;omega) C.o.2.1 C.o.2.2).mono ?_;rintro e w8 ⟨rfl,r⟩;have Z8:=Z7.o.below r;have R8:=y.o.below r;have O8:=O7.o.kept (Ae none r) (Classical.em _);have B8:=B7.o.trans (r.mono B7.o.size);clear o I z U J K;obtain⟨o,I,z,U,J,K⟩:=Aa.c6 Z8 0 1 2 3 4 5;obtain⟨r0,q0⟩:=R8 0 _ rfl;obtain⟨r1,q1⟩:=R8 1 _ rfl
  obtain⟨r2,q2⟩:=R8 2 _ rfl;obtain⟨r3,q3⟩:=R8 3 _ rfl;obtain⟨r4,q4⟩:=R8 4 _ rfl;obtain⟨r5,q5⟩:=R8 5 _ rfl;have HC:=Yw (Zn O8 B8);clear Z8 R8 O8 B8 r;obtain⟨S,t⟩:∃S,S=CI (b:Int) g a n f c wd:=⟨_,rfl⟩;rw[<-t];by_cases heq:S=s
  .have Q:Hid (Bi s wd=⟨b,g,a,n,f,c,true⟩):=by show _=_;rw[d.o.2.2.2.2.2.2,if_pos (by rw[zC.o,<-t,heq];simp)]
   subst heq;clear t;go_wp2;refine bodyPost_ret (v:=.tuple #[.agg (Ye (b:Int) g a n f i c.length k),.bool true]) (by simp[results,results110,go_sem, *]) rfl ?_;unfold DA;rw[Q.o];have zJ:w.heap.size<w.heap.size+1:=Nat.lt_succ_self _;refine⟨_,rfl,?_,?_⟩
   .refine World.ownsRow.mono ?_ (Nat.le_of_lt zJ)
    iterate 6 (refine ownsRow_setCell_below ?_ zJ _)
    exact HC.o.1
   .iterate 6 (refine Below.setCell ?_ (show w.heap.size<=w.heap.size from Zx) _)
    exact HC.o.2
  .have Q:Hid (Bi s wd=Hb):=by show _=_;rw[d.o.2.2.2.2.2.2,if_neg (by rw[zC.o,<-t];simpa using heq)]
   have zZ:(S.toList==s.toList)=false:=by rw[beq_eq_false_iff_ne];intro h;rw[ByteArray.toList_eq,ByteArray.toList_eq]at h;exact heq (ByteArray.ext (Array.toList_inj.1 h))
   have yC:(S.toList !=s.toList)=true:=by rw[bne,zZ];rfl
   clear t heq;go_wp2;refine bodyPost_ret (v:=.tuple #[.agg Ya,.bool false]) (by simp[results,results110,go_sem, *]) rfl ?_;refine Gw Q.o ?_
   iterate 6 (refine Below.setCell ?_ (show w.heap.size<=w.heap.size from Zx) _)
   exact HC.o.2
theorem Ql(s:Zi)(wd:Int)(w:Zh)(a:s.size<=1048576):
 Calls prog 110 #[.string s,Zg wd] w (DA s wd w):=by
 by_cases hw:1<=wd/\wd<=8
 .obtain⟨h1,h2⟩:=hw;by_cases h6:s.size<6
  .exact Qh s wd w h1 h2 h6
  .obtain⟨l,rfl⟩:∃l,s=AF l:=⟨s.data.toList,rfl⟩;rw[BD]at a h6
   match l,a,h6 with
   |a0::a1::a2::a3::a4::a5::T,a,h6=>
    have b:(AF (a0::a1::a2::a3::a4::a5::T)).size=T.length+6:=by rw[BD];rfl
    by_cases hT:a5.toNat<=T.length
    .refine Qj _ wd a0.toNat a1.toNat a2.toNat a3.toNat a4.toNat a5.toNat w (by rw[BD];exact a) h1 h2 Yv rfl rfl rfl rfl rfl rfl Yv (AF (T.take a5.toNat)) (AF (T.drop a5.toNat)) ?_ ?_ (Fc [a1,a2,a3,a4]) (Ul a1 a2 a3 a4).symm _ _ _ rfl rfl rfl ?_
     .rw[Gv,show 6+a5.toNat -6=a5.toNat by omega];rfl
     .rw[b,Gv];congr 2;rw[show 6+a5.toNat=a5.toNat+6 by omega];show(T.drop a5.toNat).take _=_;exact Zt Yu
     .exact Mw a0 a1 a2 a3 a4 a5 T h1 h2 hT
    .exact Qi _ wd w (by rw[BD];exact a) h1 h2 a5.toNat Yv rfl (NH h1 h2 Yv) Yv
   |[],_,h6=>simp at h6
   |[_],_,h6=>simp at h6
   |[_,_],_,h6=>simp at h6
   |[_,_,_],_,h6=>simp at h6
   |[_,_,_,_],_,h6=>simp at h6
   |[_,_,_,_,_],_,h6=>simp at h6
 .exact Qg s wd w hw
end Go.Proofs.YtmjlkgpekcnacaaGreat
