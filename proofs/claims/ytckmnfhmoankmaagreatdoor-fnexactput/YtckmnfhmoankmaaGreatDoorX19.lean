import Derived.Test.YtckmnfhmoankmaaGreatDoorX14
import Derived.Test.YtckmnfhmoankmaaGreatDoorX09
import Derived.Test.YtckmnfhmoankmaaGreatDoorX17
set_option maxRecDepth 100000
set_option maxHeartbeats 16000000
namespace Go.Proofs.YtckmnfhmoankmaaGreatDoor
open Go.ChangeShapes Go.WideShapes Go.ChangeAt Go.RowKit _root_.Go.Proofs.Tryz
section
theorem ZU{A:Type}{R:A->A->Prop}(l:∀a b c,R a b->R b c->R a c){e:List A}(h:∀(j:Nat) p q,e[j]?=some p->e[j+1]?=some q->R p q):e.Pairwise R:=by
 have m:∀(d i:Nat) u v,e[i]?=some u->e[i+d+1]?=some v->R u v:=by
  intro d;induction d with
  |zero=>intro i u v g f;exact h i u v g f
  |succ d ih=>intro i u v g f;have t:=(Zw f).1;have k:e[i+d+1]?=some e[i+d+1]:=Zv (by omega);exact l _ _ _ (ih i u _ g k) (h _ _ _ k (by rw[show i+d+1+1=i+(d+1)+1 by omega];exact f))
 rw[List.pairwise_iff_getElem];intro i j n o r;exact m (j -i -1) i _ _ (Zv n) (by rw[show i+(j -i -1)+1=j by omega];exact Zv o)
section
variable {wd now given ae:Int} {ks:List Kd} {ps:List Pd} {ls:List Ld}
theorem Ib{kd:Int}{s nm:Zi}{num:Int}{text:Zi}{refs:Zl}(h:Cs kd s nm num text refs wd=true):1<=kd/\kd<=7/\VG kd.toNat s nm num text refs wd:=by unfold Cs at h;simp only[Bool.and_eq_true,decide_eq_true_eq]at h;exact⟨h.1.1,h.1.2,Ek h.2⟩
theorem Vn{kd:Int}{s nm:Zi}{num:Int}{text:Zi}{refs:Zl}(h:Cs kd s nm num text refs wd=true):refs.length<=30:=by
 unfold Cs at h;simp only[Bool.and_eq_true,decide_eq_true_eq]at h;have b:=h.2;unfold CS at b;simp only[Bool.and_eq_true,decide_eq_true_eq]at b;have a:=b.2.2.2.2;unfold Ig at a;split at a
 ·exact(BB a).refs
 ·have c:=(of_decide_eq_true a).2;omega
theorem TJ(ks:List Kd)(x:Kd):(DL ks x).Perm (x::ks):=by unfold DL;have b:(ks.filter (fun k=>less k.sum x.sum)++ks.filter (fun k=> !(less k.sum x.sum))).Perm ks:=List.filter_append_perm _ _;rw[List.append_assoc];exact(List.perm_middle (a:=x) (l₁:=ks.filter (fun k=>less k.sum x.sum)) (l₂:=ks.filter (fun k=> !(less k.sum x.sum)))).trans (b.cons x)
theorem Ke(ps:List Pd)(n s:Zi):(Bw ps n s).length<=ps.length+1/\((∃x∈ps,x.name=n)->(Bw ps n s).length<=ps.length):=by
 have h:∀(l:List Pd),(l.filter (fun x=>less x.name n)).length+(l.filter (fun x=> !(less x.name n)&& !decide (x.name=n))).length+(l.filter (fun x=>decide (x.name=n))).length=l.length:=by
  intro l;induction l with
  |nil=>rfl
  |cons x l ih=>
   by_cases hn:x.name=n
   ·simp[hn,Cr];omega
   ·cases hl:less x.name n<;>simp[hl,hn]<;>omega
 have a:=h ps;unfold Bw;rw[List.length_append,List.length_append];refine⟨by simp;omega,fun⟨x,hx,hxn⟩=> ?_⟩;have b:0<(ps.filter (fun x=>decide (x.name=n))).length:=List.length_pos_of_mem (List.mem_filter.2 ⟨hx,by simpa using hxn⟩);simp;omega
end
theorem FI.code{wd now given ae:Int}{ks:List Kd}{ps:List Pd}{ls:List Ld}{kd:Int}{s nm:Zi}{num:Int}{text:Zi}{refs:Zl}{c:Int}{a b:Zi}(h:FI wd now given ae ks ps ls kd s nm num text refs c a b):2<=c/\c<=6:=by rcases h with⟨_,⟨_,rfl,_⟩|⟨_,⟨_,_,_,_,rfl,_⟩|⟨_,_,rfl,_⟩|⟨_,_,rfl,_⟩⟩⟩|⟨_,_,⟨_,⟨_,rfl⟩|⟨_,_,_,rfl⟩⟩|⟨_,_,rfl⟩|⟨_,⟨_,rfl⟩|⟨_,_,rfl⟩⟩|⟨_,_,rfl⟩|⟨_,_,rfl⟩|⟨_,⟨_,rfl⟩|⟨_,_,rfl⟩⟩⟩<;>omega
theorem Dr.cm{w:Zh}{base d m:Nat}{O P L:Value}{wd now given ae:Int}{ks:List Kd}{ps:List Pd}{ls:List Ld}(h:Dr w base d m O P L wd now given ae ks ps ls){R:Nat}{i:Array Value}(b:w.heap[R]?=some (.cells i 90))(k:R≠d):R∉vB d m O P L:=by
 unfold vB;simp only[List.mem_cons,List.mem_append,Option.mem_toList,not_or];refine⟨k,?_,?_,?_,?_⟩
 ·rintro rfl;obtain⟨n,f,_,j,_⟩:=h.map;obtain⟨D,⟨l,clock,g,_⟩,_⟩:=j;rw[b]at g;cases g
 ·intro e;obtain⟨c,a⟩:=BX h.ord e;rw[b]at a;simp at a
 ·intro e;obtain⟨c,a⟩:=BX h.cl e;rw[b]at a;simp at a
 ·intro e;obtain⟨c,a⟩:=BX h.ci e;rw[b]at a;simp at a
theorem IW.stays{base d m:Nat}{wd:Int}{r:Rs}{w f:Zh}{R:Nat}{g:Array Value}(h:IW base d m wd r w)(b:w.heap[R]?=some (.cells g 90))(i:base<=R)(j:R≠d)(k:Tn [R] w f):IW base d m wd r f:=by obtain⟨O,P,L,a⟩:=h;exact⟨O,P,L,a.apart k i (a.cm b j) (fun c l e=>by rw[b]at e;simp at e)⟩
end
section
structure FL (wd now given ae:Int) (ks:List Kd) (ps:List Pd) (ls:List Ld):Prop where
 bn:FA wd ks
 w1:1<=wd
 np:ps.length<=100
 nl:ls.length<=200
 bu:ps.Pairwise (fun a b=>less a.name b.name=true)
 cw:ls.Pairwise (fun a b=>a.num<b.num)
 cn:0<=now
 da:now<=1000000000
 bj:0<=given
 bt:given<=1000000000
 ba:0<=ae
 ah:ae<=1000000000
 br:∀k∈ks,k.text.size<=2000
 dt:∀k∈ks,k.refs.length<=30
 fc:∀x∈ls,x.num<=given
theorem FL.zero{wd:Int}(a:1<=wd)(b:wd<=8):FL wd 0 0 0 [] [] []:=
 ⟨⟨by simp,by simp,by simp,by intro k c;simp at c,by simp,b⟩,a,by simp,by simp,by simp,by simp,by omega,by omega,by omega,by omega,by omega,by omega,by simp,by simp,by simp⟩
section
variable {wd now given ae:Int} {ks:List Kd} {ps:List Pd} {ls:List Ld} {kd:Int} {s nm:Zi} {num:Int} {text:Zi} {refs:Zl}
theorem FL.gy(h:FL wd now given ae ks ps ls)(a:Cs kd s nm num text refs wd=true)(c:text.size<=maxLen):IV wd now given ae ks ps ls kd num text refs:=by obtain⟨d,f,e⟩:=Ib a;exact⟨h.bn,h.w1,h.np,h.nl,h.bu,h.cw,h.cn,h.da,h.bj,h.bt,h.ba,h.ah,d,f,e.n0,e.n1,fun k b=>by have:=h.br k b;unfold maxLen;omega,c,by have:=Vn a;omega⟩
theorem OK(h:Cs kd s nm num text refs wd=true):text.size<=2000:=by
 unfold Cs at h;simp only[Bool.and_eq_true,decide_eq_true_eq]at h;have b:=h.2;unfold CS at b;simp only[Bool.and_eq_true,decide_eq_true_eq]at b;have a:=b.2.2.2.2;unfold Ig at a;split at a
 ·exact(BB a).text
 ·have c:=(of_decide_eq_true a).1;omega
theorem PH{ps:List Pd}(n s:Zi)(h:ps.Pairwise (fun a b=>less a.name b.name=true)):(Bw ps n s).Pairwise (fun a b=>less a.name b.name=true):=by
 unfold Bw;rw[List.pairwise_append,List.pairwise_append];have e:∀y∈ps.filter (fun x=> !(less x.name n)&& !decide (x.name=n)),less n y.name=true:=fun y d=>by have f:=(List.mem_filter.1 d).2;simp only[Bool.and_eq_true,Bool.not_eq_true',decide_eq_false_iff_not]at f;exact Om f.1 f.2
 refine⟨⟨h.filter _,by simp,fun x c y d=> ?_⟩,h.filter _,fun x c y d=> ?_⟩
 ·rw[List.mem_singleton]at d;subst d;exact(List.mem_filter.1 c).2
 ·rcases List.mem_append.1 c with c|c
  ·exact CD (List.mem_filter.1 c).2 (e y d)
  ·rw[List.mem_singleton]at c;subst c;exact e y d
theorem PI{ks:List Kd}{x:Kd}(h:(ks.map (·.sum)).Pairwise (fun a b=>less a b=true))(i:¬Ay ks x.sum):((DL ks x).map (·.sum)).Pairwise (fun a b=>less a b=true):=by
 rw[List.pairwise_map]at h ⊢;unfold DL;rw[List.pairwise_append,List.pairwise_append];have f:∀y∈ks.filter (fun k=> !(less k.sum x.sum)),less x.sum y.sum=true:=fun y c=>by obtain⟨j,g⟩:=List.mem_filter.1 c;simp only[Bool.not_eq_true']at g;exact Om g (fun e=>i ⟨y,j,e⟩)
 refine⟨⟨h.filter _,by simp,fun y c z d=> ?_⟩,h.filter _,fun y c z d=> ?_⟩
 ·rw[List.mem_singleton]at d;subst d;exact(List.mem_filter.1 c).2
 ·rcases List.mem_append.1 c with c|c
  ·exact CD (List.mem_filter.1 c).2 (f z d)
  ·rw[List.mem_singleton]at c;subst c;exact f z d
theorem FA.drop(h:FA wd ks)(t:Zi):FA wd (EP ks t):=by have a:(EP ks t).Sublist ks:=List.filter_sublist;exact⟨h.nd.sublist (a.map _),h.dd.sublist (a.map _),fun k b=>h.sz k (a.subset b),fun k b=>h.refs k (a.subset b),Zm a.length_le h.len,h.w8⟩
theorem FL.step(h:FL wd now given ae ks ps ls)(w:Cs kd s nm num text refs wd=true){r:Rs}(i:Eg wd now given ae ks ps ls kd s nm num text refs r):FL wd r.now r.given r.ae r.ks r.ps r.ls:=by
 obtain⟨L,M,e⟩:=Ib w;have G:=e.n0;have H:=e.n1;have g:∀x:Ld,x.num=given+1->(ls++[x]).Pairwise (fun a b=>a.num<b.num)/\∀y∈ls++[x],y.num<=given+1:=fun x m=>by
  refine⟨?_,fun y i=> ?_⟩
  ·rw[List.pairwise_append];refine⟨h.cw,by simp,fun y i z q=> ?_⟩;rw[List.mem_singleton]at q;subst q;have:=h.fc y i;omega
  ·rcases List.mem_append.1 i with i|i
   ·have:=h.fc y i;omega
   ·rw[List.mem_singleton]at i;subst i;omega
 rcases i with⟨rfl,_,B,A,I,J,i,rfl⟩|⟨_,_,f,rfl⟩|⟨_,_,rfl⟩|⟨_,_,B,A,rfl⟩|⟨_,_,rfl⟩|⟨_,D,rfl⟩|⟨_,_,_,rfl⟩
 ·have n:(ls++[(⟨given+1,Bm text refs wd,now+num⟩:Ld)]).length<=200:=by simp;omega
  have j:=g ⟨given+1,Bm text refs wd,now+num⟩ rfl;have t:=h.bj;have l:=BB (e.df rfl);rcases i with⟨_,_,_,_,rfl,rfl⟩|⟨v,F,K,rfl,rfl⟩
  ·exact⟨h.bn,h.w1,h.np,n,h.bu,j.1,h.cn,h.da,by show 0<=given+1;omega,by show given+1<=_;omega,h.ba,h.ah,h.br,h.dt,j.2⟩
  ·have C:=TJ ks ⟨Bm text refs wd,ae+1,text,refs⟩;have E:=h.ba;have d:∀k∈DL ks ⟨Bm text refs wd,ae+1,text,refs⟩,k=⟨Bm text refs wd,ae+1,text,refs⟩∨k∈ks:=fun k c=>List.mem_cons.1 (C.mem_iff.1 c);have u:FA wd (DL ks ⟨Bm text refs wd,ae+1,text,refs⟩):=by
    have p:=PI (x:=⟨Bm text refs wd,ae+1,text,refs⟩) h.bn.dd v;refine⟨OZ p,p,fun k c=> ?_,fun k c=> ?_,by rw[OG];omega,h.bn.w8⟩
    ·rcases d k c with rfl|c
     ·exact Gq _ _ _ h.w1
     ·exact h.bn.sz k c
    ·rcases d k c with rfl|c
     ·exact⟨by have:=l.refs;show refs.length<=_;omega,Se l.all⟩
     ·exact h.bn.refs k c
   refine⟨u,h.w1,h.np,n,h.bu,j.1,h.cn,h.da,by show 0<=given+1;omega,by show given+1<=_;omega,by show 0<=ae+1;omega,by show ae+1<=_;omega,fun k c=> ?_,fun k c=> ?_,j.2⟩
   ·rcases d k c with rfl|c
    ·exact l.text
    ·exact h.br k c
   ·rcases d k c with rfl|c
    ·exact l.refs
    ·exact h.dt k c
 ·have o:=Ke ps nm s;refine⟨h.bn,h.w1,?_,h.nl,PH nm s h.bu,h.cw,h.cn,h.da,h.bj,h.bt,h.ba,h.ah,h.br,h.dt,h.fc⟩;rcases f with f|f
  ·exact Zm (o.2 f) h.np
  ·exact Zm o.1 (by omega)
 ·exact⟨h.bn,h.w1,Zm (List.length_filter_le _ _) h.np,h.nl,h.bu.filter _,h.cw,h.cn,h.da,h.bj,h.bt,h.ba,h.ah,h.br,h.dt,h.fc⟩
 ·have j:=g ⟨given+1,s,now+num⟩ rfl;have t:=h.bj;exact⟨h.bn,h.w1,h.np,by simp;omega,h.bu,j.1,h.cn,h.da,by show 0<=given+1;omega,by show given+1<=_;omega,h.ba,h.ah,h.br,h.dt,j.2⟩
 ·exact⟨h.bn,h.w1,h.np,Zm (List.length_filter_le _ _) h.nl,h.bu,h.cw.filter _,h.cn,h.da,h.bj,h.bt,h.ba,h.ah,h.br,h.dt,fun x m=>h.fc x (List.mem_filter.1 m).1⟩
 ·have:=h.cn;exact⟨h.bn,h.w1,h.np,Zm (List.length_filter_le _ _) h.nl,h.bu,h.cw.filter _,by show 0<=now+num;omega,D,h.bj,h.bt,h.ba,h.ah,h.br,h.dt,fun x m=>h.fc x (List.mem_filter.1 m).1⟩
 ·exact⟨h.bn.drop s,h.w1,h.np,h.nl,h.bu,h.cw,h.cn,h.da,h.bj,h.bt,h.ba,h.ah,fun k c=>h.br k (List.mem_filter.1 c).1,fun k c=>h.dt k (List.mem_filter.1 c).1,h.fc⟩
end
end
section
section
variable {wd now given ae:Int} {ks:List Kd} {ps:List Pd} {ls:List Ld} {kd:Int} {s nm:Zi} {num:Int} {text:Zi} {refs:Zl}
theorem Cu.dj{c d:List Kd}{a b:Int}(f:Cu wd ae ks text refs c a)(g:Cu wd ae ks text refs d b):c=d/\a=b:=by
 rcases f with⟨k,h,i,_,rfl,rfl⟩|⟨e,_,_,rfl,rfl⟩<;>rcases g with⟨k',hk',hs',_,rfl,rfl⟩|⟨hno',_,_,rfl,rfl⟩
 ·exact⟨rfl,rfl⟩
 ·exact absurd ⟨k,h,i⟩ hno'
 ·exact absurd ⟨k',hk',hs'⟩ e
 ·exact⟨rfl,rfl⟩
theorem Gg.dj(m:(ks.map (·.sum)).Nodup){c x:Int}{a b v w:Zi}(p:Gg wd given ae ks ls text refs c a b)(q:Gg wd given ae ks ls text refs x v w):c=x/\a=v/\b=w:=by
 have n:∀k∈ks,k.sum=Bm text refs wd->AH k.text k.refs wd≠AH text refs wd->∀j o,¬Cu wd ae ks text refs j o:=by
  intro k f g r j o t;rcases t with⟨u,d,e,h,_⟩|⟨i,_⟩
  ·have:=GU m f d (g.trans e.symm);subst this;exact r h
  ·exact i ⟨k,f,g⟩
 rcases p with⟨y,rfl,rfl,rfl⟩|⟨l,p⟩<;>rcases q with⟨hn',rfl,rfl,rfl⟩|⟨hall',q⟩
 ·exact⟨rfl,rfl,rfl⟩
 ·exact absurd hall' y
 ·exact absurd l hn'
 ·rcases p with⟨k,f,g,r,rfl,rfl,rfl⟩|⟨i,_,rfl,rfl,rfl⟩|⟨⟨j,o,t⟩,_,rfl,rfl,rfl⟩<;>rcases q with⟨u,d,e,h,rfl,rfl,rfl⟩|⟨hno',_,rfl,rfl,rfl⟩|⟨⟨ks2,b2,hy'⟩,_,rfl,rfl,rfl⟩
  ·have:=GU m f d (g.trans e.symm);subst this;exact⟨rfl,rfl,rfl⟩
  ·exact absurd ⟨k,f,g⟩ hno'
  ·exact absurd hy' (n k f g r _ _)
  ·exact absurd ⟨u,d,e⟩ i
  ·exact⟨rfl,rfl,rfl⟩
  ·exact⟨rfl,rfl,rfl⟩
  ·exact absurd t (n u d e h _ _)
  ·exact⟨rfl,rfl,rfl⟩
  ·exact⟨rfl,rfl,rfl⟩
theorem Gg.not(o:(ks.map (·.sum)).Nodup){c:Int}{a b:Zi}(q:Gg wd given ae ks ls text refs c a b){v:List Kd}{p:Int}(i:Cu wd ae ks text refs v p)(h:∀r∈refs,Ay ks r)(z:ls.length<200)(y:given<1000000000):False:=by
 rcases q with⟨u,_⟩|⟨_,⟨k,j,l,t,_⟩|⟨f,d,_⟩|⟨_,d,_⟩⟩
 ·exact u h
 ·rcases i with⟨m,e,g,n,_⟩|⟨f,_⟩
  ·have:=GU o j e (l.trans g.symm);subst this;exact t n
  ·exact f ⟨k,j,l⟩
 ·rcases i with⟨m,e,g,_⟩|⟨_,w,x,_⟩
  ·exact f ⟨m,e,g⟩
  ·omega
 ·omega
theorem FI.dj(k:(ks.map (·.sum)).Nodup){c i:Int}{a b g h:Zi}(d:FI wd now given ae ks ps ls kd s nm num text refs c a b)(e:FI wd now given ae ks ps ls kd s nm num text refs i g h):c=i/\a=g/\b=h:=by
 rcases d with⟨l,d⟩|⟨rfl,rfl,d⟩<;>rcases e with⟨hk',e⟩|⟨rfl,rfl,e⟩
 ·exact d.dj k e
 ·omega
 ·omega
 ·refine⟨?_,rfl,rfl⟩;rcases d with⟨f,⟨d,rfl⟩|⟨d,j,m,rfl⟩⟩|⟨f,d,rfl⟩|⟨f,⟨d,rfl⟩|⟨d,j,rfl⟩⟩|⟨f,d,rfl⟩|⟨f,d,rfl⟩|⟨f,⟨d,rfl⟩|⟨d,j,rfl⟩⟩<;>rcases e with⟨k2,⟨e,rfl⟩|⟨e,x2,y2,rfl⟩⟩|⟨k2,e,rfl⟩|⟨k2,⟨e,rfl⟩|⟨e,x2,rfl⟩⟩|⟨k2,e,rfl⟩|⟨k2,e,rfl⟩|⟨k2,⟨e,rfl⟩|⟨e,x2,rfl⟩⟩<;>first|rfl|omega|exact absurd e d|exact absurd d e
theorem Eg.dj{r b:Rs}(c:Eg wd now given ae ks ps ls kd s nm num text refs r)(d:Eg wd now given ae ks ps ls kd s nm num text refs b):r=b:=by rcases c with⟨a,_,_,_,f,g,e,rfl⟩|⟨a,_,_,rfl⟩|⟨a,_,rfl⟩|⟨a,_,_,_,rfl⟩|⟨a,_,rfl⟩|⟨a,_,rfl⟩|⟨a,_,_,rfl⟩<;>rcases d with⟨k2,_,_,_,ks2,b2,y2,rfl⟩|⟨k2,_,_,rfl⟩|⟨k2,_,rfl⟩|⟨k2,_,_,_,rfl⟩|⟨k2,_,rfl⟩|⟨k2,_,rfl⟩|⟨k2,_,_,rfl⟩<;>first|rfl|omega|(obtain⟨rfl,rfl⟩:=e.dj y2;rfl)
theorem FI.not(i:(ks.map (·.sum)).Nodup){c:Int}{a b:Zi}{r:Rs}(d:FI wd now given ae ks ps ls kd s nm num text refs c a b)(j:Eg wd now given ae ks ps ls kd s nm num text refs r):False:=by rcases j with⟨g,h,l,k,n,o,m,_⟩|⟨g,f,e,_⟩|⟨g,f,_⟩|⟨g,f,e,p,_⟩|⟨g,f,_⟩|⟨g,f,_⟩|⟨g,f,e,_⟩<;>rcases d with⟨k1,d⟩|⟨_,_,⟨k1,⟨d,_⟩|⟨d,x1,z1,_⟩⟩|⟨k1,d,_⟩|⟨k1,⟨d,_⟩|⟨d,x1,_⟩⟩|⟨k1,d,_⟩|⟨k1,d,_⟩|⟨k1,⟨d,_⟩|⟨d,x1,_⟩⟩⟩<;>first|omega|exact absurd f d|exact absurd x1 e|exact d.not i m h l k|(rcases e with e|e;exact x1 e;omega)
end
end
theorem RI(w:Zh)(base:Nat):AV w base Zc Zc Zc [] [] [] []:=
 ⟨rfl,⟨rfl,.inl ⟨rfl,rfl⟩⟩,fun i k r a=>(by simp at a),⟨rfl,.inl ⟨rfl,rfl⟩⟩,⟨rfl,.inl ⟨rfl,rfl⟩⟩,List.nodup_nil⟩
structure An where
 code:Int
 wd:Int
 now:Int
 given:Int
 ae:Int
 le:Int
 sm:Zi
 a:Zi
 b:Zi
 ks:List Kd
 ps:List Pd
 ls:List Ld
def r0:Rs:=⟨⟨#[]⟩,0,0,0,0,[],[],[]⟩
def Kf(wd:Int)(r:Rs)(x:Zi)(r':Rs):Prop:=(AF x wd).ok=true/\Eg wd r.now r.given r.ae r.ks r.ps r.ls (AF x wd).k (AF x wd).sum (AF x wd).name (AF x wd).n (AF x wd).t (AF x wd).ss r'
def ZV(wd:Int)(r:Rs)(x:Zi):Prop:=(AF x wd).ok=false∨∃c a b,FI wd r.now r.given r.ae r.ks r.ps r.ls (AF x wd).k (AF x wd).sum (AF x wd).name (AF x wd).n (AF x wd).t (AF x wd).ss c a b
def Dt(wd:Int):Rs->Zl->Rs->Prop
 |r,[],r'=>r'=r
 |r,x::xs,r'=>∃r1,Kf wd r x r1/\Dt wd r1 xs r'
def Gi(wd:Int)(xs:Zl)(n:Nat):Prop:=∃k r x,n=k+1/\xs[k]?=some x/\Dt wd r0 (xs.take k) r/\ZV wd r x
def Rs.ok(wd:Int)(r:Rs):Prop:=FL wd r.now r.given r.ae r.ks r.ps r.ls
theorem Dt.snoc{wd:Int}{x:Zi}{a b:Rs}(c:Kf wd a x b):∀{xs:Zl} {r:Rs},Dt wd r xs a->Dt wd r (xs++[x]) b
 |[],r,h=>by obtain rfl:a=r:=h;exact⟨b,c,rfl⟩
 |y::ys,r,h=>by obtain⟨f,d,e⟩:=h;exact⟨f,d,Dt.snoc c e⟩
theorem Kf.dj{wd:Int}{r a b:Rs}{x:Zi}(h:Kf wd r x a)(k:Kf wd r x b):a=b:=h.2.dj k.2
theorem Kf.ok{wd:Int}{r a:Rs}{x:Zi}(h:Kf wd r x a)(b:r.ok wd):a.ok wd:=FL.step b (Hz h.1).1 h.2
theorem Kf.not{wd:Int}{r f:Rs}{x:Zi}(h:Kf wd r x f)(d:r.ok wd):¬ZV wd r x:=by
 rintro(e|⟨c,a,b,e⟩)
 ·rw[h.1]at e;cases e
 ·exact e.not d.bn.nd h.2
theorem Dt.dj{wd:Int}:∀{xs:Zl} {r a b:Rs},Dt wd r xs a->Dt wd r xs b->a=b
 |[],r,a,b,h,k=>by have c:=h;have d:=k;rw[c,d]
 |x::xs,r,a,b,h,k=>by obtain⟨g,c,d⟩:=h;obtain⟨i,e,f⟩:=k;obtain rfl:=c.dj e;exact Dt.dj d f
theorem Dt.ok{wd:Int}:∀{xs:Zl} {r r':Rs},Dt wd r xs r'->r.ok wd->r'.ok wd
 |[],r,r',h,hr=>by obtain rfl:r'=r:=h;exact hr
 |x::xs,r,r',h,hr=>by obtain⟨c,a,b⟩:=h;exact Dt.ok b (a.ok hr)
theorem Dt.at{wd:Int}:∀{xs:Zl} {r r':Rs},Dt wd r xs r'->∀{k:Nat} {x:Zi},xs[k]?=some x->∃a b,Dt wd r (xs.take k) a/\Kf wd a x b
 |[],r,r',h,k,x,hx=>by simp at hx
 |y::ys,r,r',h,k,x,hx=>by
  obtain⟨d,c,e⟩:=h;cases k with
  |zero=>simp at hx;subst hx;exact⟨r,d,rfl,c⟩
  |succ k=>obtain⟨a,b,f,g⟩:=Dt.at e (k:=k) (x:=x) (by simpa using hx);exact⟨a,b,⟨d,c,f⟩,g⟩
theorem Ic{wd:Int}(a:1<=wd)(b:wd<=8):r0.ok wd:=FL.zero a b
theorem Gi.not{wd:Int}{b:Zl}{n:Nat}{r:Rs}(c:1<=wd)(g:wd<=8)(h:Gi wd b n):¬Dt wd r0 b r:=fun i=>by obtain⟨k,l,x,rfl,j,a,d⟩:=h;obtain⟨m,o,e,f⟩:=i.at j;obtain rfl:=a.dj e;exact f.not (a.ok (Ic c g)) d
def VR(wd:Int)(xs:Zl)(x:An):Prop:=
 (¬((1<=wd/\wd<=8)/\xs.length<=4000)/\x=⟨1,0,0,0,0,0,⟨#[]⟩,⟨#[]⟩,⟨#[]⟩,[],[],[]⟩)∨
 (((1<=wd/\wd<=8)/\xs.length<=4000)/\(
   (∃n:Nat,Gi wd xs n/\x=⟨7,0,0,0,0,n,⟨#[]⟩,⟨#[]⟩,⟨#[]⟩,[],[],[]⟩)∨
   (∃r,Dt wd r0 xs r/\x=⟨0,wd,r.now,r.given,r.ae,0,⟨#[]⟩,⟨#[]⟩,⟨#[]⟩,r.ks,r.ps,r.ls⟩)))
structure Vd where
 wd:Int
 aj:Int
 ss:Zl
 tt:Zl
 sw:Int
 now:Int
 given:Int
 ae:Int
 ks:List Kd
 ps:List Pd
 ls:List Ld
 ph:Int
 qs:Zl
 ms:Zl
 ag:Int
 at_:Int
 ro:Int
structure Va where
 sa:Zk
 sc:Nat
 ta:Zk
 tc:Nat
 ka:Zk
 kc:Nat
 pa:Zk
 pc:Nat
 la:Zk
 lc:Nat
 qa:Zk
 qc:Nat
 ma:Zk
 mc:Nat
abbrev Yg(v:Vd)(a:Va):Array Value:=#[.int .i64 v.wd,.int .i64 v.aj,.slice a.sa v.ss.length a.sc,.slice a.ta v.tt.length a.tc,.int .i64 v.sw,.int .i64 v.now,.int .i64 v.given,.int .i64 v.ae,.slice a.ka v.ks.length a.kc,.slice a.pa v.ps.length a.pc,.slice a.la v.ls.length a.lc,.int .i64 v.ph,.slice a.qa v.qs.length a.qc,.slice a.ma v.ms.length a.mc,.int .i64 v.ag,.int .i64 v.at_,.int .i64 v.ro]
abbrev Ye(v:Vd)(a:Va):List Value:=[.int .i64 v.wd,.int .i64 v.aj,.slice a.sa v.ss.length a.sc,.slice a.ta v.tt.length a.tc,.int .i64 v.sw,.int .i64 v.now,.int .i64 v.given,.int .i64 v.ae,.slice a.ka v.ks.length a.kc,.slice a.pa v.ps.length a.pc,.slice a.la v.ls.length a.lc,.int .i64 v.ph,.slice a.qa v.qs.length a.qc,.slice a.ma v.ms.length a.mc,.int .i64 v.ag,.int .i64 v.at_,.int .i64 v.ro]
abbrev Yd(v:Vd)(a:Option Addr)(b:Nat)(c:Option Addr)(d:Nat)(e:Option Addr)(f:Nat)(g:Option Addr)(h:Nat)(i:Option Addr)(j:Nat)(k:Option Addr)(l:Nat)(m:Option Addr)(n:Nat):Array Value:=#[.int .i64 v.wd,.int .i64 v.aj,.slice a v.ss.length b,.slice c v.tt.length d,.int .i64 v.sw,.int .i64 v.now,.int .i64 v.given,.int .i64 v.ae,.slice e v.ks.length f,.slice g v.ps.length h,.slice i v.ls.length j,.int .i64 v.ph,.slice k v.qs.length l,.slice m v.ms.length n,.int .i64 v.ag,.int .i64 v.at_,.int .i64 v.ro]
abbrev Yc(v:Vd)(a:Option Addr)(b:Nat)(c:Option Addr)(d:Nat)(e:Option Addr)(f:Nat)(g:Option Addr)(h:Nat)(i:Option Addr)(j:Nat)(k:Option Addr)(l:Nat)(m:Option Addr)(n:Nat):List Value:=[.int .i64 v.wd,.int .i64 v.aj,.slice a v.ss.length b,.slice c v.tt.length d,.int .i64 v.sw,.int .i64 v.now,.int .i64 v.given,.int .i64 v.ae,.slice e v.ks.length f,.slice g v.ps.length h,.slice i v.ls.length j,.int .i64 v.ph,.slice k v.qs.length l,.slice m v.ms.length n,.int .i64 v.ag,.int .i64 v.at_,.int .i64 v.ro]
structure Cc (w:Zh) (B:Nat) (a:Va) (v:Vd):Prop where
 s:Ad w B a.sa v.ss
 t:Ad w B a.ta v.tt
 st:BJ w B a.ka a.pa a.la v.ks v.ps v.ls
 q:Ad w B a.qa v.qs
 m:Ad w B a.ma v.ms
theorem Cc.ak{w c:Zh}{B:Nat}{a:Va}{v:Vd}(h:Cc w B a v)(b:Below B w c):Cc c B a v:=
 ⟨h.s.below b,h.t.below b,h.st.ak b,h.q.below b,h.m.below b⟩
theorem Cc.mono{w:Zh}{B B':Nat}{a:Va}{v:Vd}(h:Cc w B a v)(b:B<=B'):Cc w B' a v:=
 ⟨h.s.mono b,h.t.mono b,h.st.mono b,h.q.mono b,h.m.mono b⟩
theorem Cc.af{w b:Zh}{a:Va}{v:Vd}(h:Cc w w.heap.size a v)(c:Zz w b):Cc b b.heap.size a v:=(h.ak c).mono c.size
structure Aaf (a:Va) (v:Vd):Prop where
 s:a.sa=none->v.ss.length=0/\a.sc=0
 t:a.ta=none->v.tt.length=0/\a.tc=0
 m:v.ms.length<=a.mc
structure Cy (v:Vd):Prop where
 s:v.ss.length<=1048576
 t:v.tt.length<=1048576
 ss:∀s∈v.ss,s.size<=1048576
 tt:∀s∈v.tt,s.size<=1048576
 st:Qt v.ks v.ps v.ls
 r:FT v.qs v.ms
 rn:AI v.ks<=1048576
structure CZ (v:Vd) (r:Rs):Prop where
 wd:1<=v.wd/\v.wd<=8
 aj:0<=v.aj/\v.aj<=1000000
 log:DA v.ss v.tt=true
 run:Dt v.wd r0 (v.ss++v.tt) r
 same:(v.wd=v.sw/\r.now=v.now/\r.given=v.given/\r.ae=v.ae)/\r.ks=v.ks/\r.ps=v.ps/\r.ls=v.ls
 round:AX v.wd v.ae v.ph v.ag v.at_ v.ro v.qs v.ms
def DR(v:Vd):Prop:=∃r,CZ v r
theorem IM{a b:Zl}(h:DA a b=true):(a++b).length<=4000:=by unfold DA at h;simp at h;rw[List.length_append];exact h.1
theorem FK{w:Zh}{b:Nat}{j k l m n o p q r t a c d e f g i:Value}(h:Aa w b [j,k,l,m,n,o,p,q,r,t,a,c,d,e,f,g,i]):w.cell? (Ze b 0)=some j/\w.cell? (Ze b 1)=some k/\w.cell? (Ze b 2)=some l/\w.cell? (Ze b 3)=some m/\w.cell? (Ze b 4)=some n/\w.cell? (Ze b 5)=some o/\w.cell? (Ze b 6)=some p/\w.cell? (Ze b 7)=some q/\w.cell? (Ze b 8)=some r/\w.cell? (Ze b 9)=some t/\w.cell? (Ze b 10)=some a/\w.cell? (Ze b 11)=some c/\w.cell? (Ze b 12)=some d/\w.cell? (Ze b 13)=some e/\w.cell? (Ze b 14)=some f/\w.cell? (Ze b 15)=some g/\w.cell? (Ze b 16)=some i:=
 ⟨(h 0 _ rfl).1,(h 1 _ rfl).1,(h 2 _ rfl).1,(h 3 _ rfl).1,(h 4 _ rfl).1,(h 5 _ rfl).1,(h 6 _ rfl).1,(h 7 _ rfl).1,(h 8 _ rfl).1,(h 9 _ rfl).1,(h 10 _ rfl).1,(h 11 _ rfl).1,(h 12 _ rfl).1,(h 13 _ rfl).1,(h 14 _ rfl).1,(h 15 _ rfl).1,(h 16 _ rfl).1⟩
structure Vo (v:Vd):Prop where
 s:v.ss.length<=maxLen
 ss:∀s∈v.ss,s.size<=maxLen
 t:v.tt.length<=maxLen
 tt:∀s∈v.tt,s.size<=maxLen
 k:NJ v.ks
 p:NK v.ps
 l:NL v.ls
 q:v.qs.length<=maxLen
 qs:∀s∈v.qs,s.size<=maxLen
 m:v.ms.length<=maxLen
 ms:∀s∈v.ms,s.size<=maxLen
theorem Kg(v:Vd)(a b:Va)(w:Zh)(hr:Cc w w.heap.size a v)(hq:Cc w w.heap.size b v)(S:Cy v):
 Calls prog 11 #[.agg (Yg v a),.agg (Yg v b)] w fun e w'=>e=.returned (.bool true)/\Zz w w':=by
 obtain⟨W,u⟩:∃W,W=(w.alloc (.cells (Yg v a) 46)).alloc (.cells (Yg v b) 46):=⟨_,rfl⟩;have R:=(Bj u).1;have x0:=(Bj u).2.2.1;have x1:Aa W (w.heap.size+1) (Ye v b):=by have h1:=Aa.new (w.alloc (.cells (Yg v a) 46)) (Ye v b) 46;rw[World.size_alloc]at h1;rw[u];exact h1
 have Q:Hid (∀X,Zz W X->Aa X w.heap.size (Ye v a)/\Aa X (w.heap.size+1) (Ye v b)):=fun X hX=>⟨Aa.below x0 hX,Aa.below x1 hX⟩;have d:=Yx (Zn (hr.af R) (hq.af R));have HW:=Yx u;obtain⟨x,y,z,A,B,C,D,E,F,G,g,h,i,j,k,l,m⟩:=FK x0;obtain⟨H,I,J,K,L,M,N,z7,O,P,n,o,z12,p,q,r,t⟩:=FK x1;clear u x0 x1 hr hq
 have HL:=Yx (SD a.sa a.ta b.sa b.ta a.sc a.tc b.sc b.tc v.ss v.tt W d.o.1.s d.o.1.t d.o.2.s d.o.2.t S.s S.t);go_enter func11,ntmps11;go_upto_region 1 with fail;rw[←HW.o];clear HW;go_wp2_with fail;refine Calls.mono HL.o ?_;rintro e Y ⟨rfl,T⟩;have f:=Yx T;clear x y z A B C D E F G g h i j k l m H I J K L M N z7 O P n o z12 p q r t T HL;obtain⟨x,y,z,A,B,C,D,E,F,G,g,h,i,j,k,l,m⟩:=FK (Q.o Y f.o).1
 obtain⟨H,I,J,K,L,M,N,z7,O,P,n,o,z12,p,q,r,t⟩:=FK (Q.o Y f.o).2;have HS:=Yx (Pp v.sw v.now v.given v.ae a.ka a.pa a.la b.ka b.pa b.la a.kc a.pc a.lc b.kc b.pc b.lc v.ks v.ps v.ls Y (d.o.1.st.af f.o) (d.o.2.st.af f.o) S.st);go_wp2_with fail;refine Calls.mono HS.o ?_;rintro e Z ⟨rfl,U⟩;have c:=Yx (f.o.trans (U.mono f.o.size))
 clear x y z A B C D E F G g h i j k l m H I J K L M N z7 O P n o z12 p q r t U HS;obtain⟨x,y,z,A,B,C,D,E,F,G,g,h,i,j,k,l,m⟩:=FK (Q.o Z c.o).1;obtain⟨H,I,J,K,L,M,N,z7,O,P,n,o,z12,p,q,r,t⟩:=FK (Q.o Z c.o).2;have HQ:=Yx (Pq v.ph v.ag v.at_ v.ro a.qa a.ma b.qa b.ma a.qc a.mc b.qc b.mc v.qs v.ms Z (d.o.1.q.af c.o) (d.o.1.m.af c.o) (d.o.2.q.af c.o) (d.o.2.m.af c.o) S.r);go_wp2_with fail
 refine Calls.mono HQ.o ?_;rintro e w3 ⟨rfl,V⟩;have zA:=Yx (R.trans ((c.o.trans (V.mono c.o.size)).mono R.size));clear x y z A B C D E F G g h i j k l m H I J K L M N z7 O P n o z12 p q r t V HQ;go_wp2;go_ret;exact⟨rfl,zA.o⟩
structure Gs (n kmax feq fmark:Nat) (R:Nat->Zh->Zj->Prop) (O:Nat->Nat->Zh->Zj->Prop) (M:Nat->Nat->Zh->Zj->Nat->Prop):Prop where
 eq:∀(X:Zh) (cs ds:Zj),R X.heap.size X cs->R X.heap.size X ds->Calls prog feq #[.agg cs.toArray,.agg ds.toArray] X fun e X'=>e=.returned (.bool true)/\Zz X X'
 mark:∀(lo N:Nat) (X:Zh) (cs:Zj) (k:Nat),O lo N X cs->1<=k->k<=kmax->Calls prog fmark #[.agg cs.toArray,Zg k] X fun e X'=>(∃K:Nat,e=.returned (Zg K)/\1<=K/\K<=90000000/\M lo N X' cs K)/\Below lo X X'/\∀q,N<=q->q<X.heap.size->X'.heap[q]?=X.heap[q]?
 bi:∀(L:Nat) (X X':Zh) (cs:Zj),R L X cs->Below L X X'->R L X' cs
 bh:∀(L L':Nat) (X:Zh) (cs:Zj),R L X cs->L<=L'->R L' X cs
 bz:∀(lo N:Nat) (X X':Zh) (cs:Zj),O lo N X cs->X.heap.size<=X'.heap.size->(∀q,lo<=q->q<N->X'.heap[q]?=X.heap[q]?)->O lo N X' cs
 fy:∀(lo N:Nat) (X X':Zh) (cs:Zj) (K:Nat),M lo N X cs K->X.heap.size<=X'.heap.size->(∀q,lo<=q->q<N->X'.heap[q]?=X.heap[q]?)->M lo N X' cs K
 ft:∀(lo N:Nat) (X:Zh) (cs:Zj),O lo N X cs->N<=X.heap.size/\R X.heap.size X cs
 cj:∀(L:Nat) (X:Zh) (cs:Zj),R L X cs->cs.length=n/\∀u∈cs,u.oneCell'=true
structure L1 (RA:Nat->Zh->Zj->Prop) (w X:Zh) (A sc:Zj) (pS L:Nat):Prop where
 cz:Below w.heap.size w X
 bA:Aa X w.heap.size A
 bS:Aa X pS sc
 rS:RA L X sc
 l0:w.heap.size<L
 l1:pS<L
 le:L<=X.heap.size
theorem L1.ak{n c i a:Nat}{d:Nat->Zh->Zj->Prop}{l:Nat->Nat->Zh->Zj->Prop}{j:Nat->Nat->Zh->Zj->Nat->Prop}(k:Gs n c i a d l j){w X e:Zh}{A g:Zj}{f L:Nat}(h:L1 d w X A g f L)(b:Below L X e):L1 d w e A g f L:=
 ⟨h.cz.trans (b.mono (by have:=h.l0;omega)),Aa.same h.bA (b.block _ h.l0),Aa.same h.bS (b.block _ h.l1),k.bi _ _ _ _ h.rS b,h.l0,h.l1,Zm h.le b.size⟩
structure L2 (OX:Nat->Nat->Zh->Zj->Prop) (X:Zh) (xc:Zj) (L pX N:Nat):Prop where
 bX:Aa X pX xc
 oX:OX L N X xc
 l1:N<=pX
 le:pX<X.heap.size
theorem L2.ak{n c i a:Nat}{l:Nat->Zh->Zj->Prop}{d:Nat->Nat->Zh->Zj->Prop}{j:Nat->Nat->Zh->Zj->Nat->Prop}(k:Gs n c i a l d j){X e:Zh}{g:Zj}{L f N:Nat}(h:L2 d X g L f N)(b:Zz X e):L2 d e g L f N:=
 ⟨Aa.same h.bX (b.block _ h.le),k.bz _ _ _ _ _ h.oX b.size (fun q _ m=>b.block q (by have:=h.l1;have:=h.le;omega)),h.l1,Zr h.le b.size⟩
structure L3 (P:Nat->Nat->Zh->Zj->Prop) (X:Zh) (gc:Zj) (lo pG N:Nat):Prop where
 bG:Aa X pG gc
 oG:P lo N X gc
 l1:N<=pG
 le:pG<X.heap.size
theorem L3.stays{P:Nat->Nat->Zh->Zj->Prop}(k:∀(lo N:Nat) (X a:Zh) (c:Zj),P lo N X c->X.heap.size<=a.heap.size->(∀q,lo<=q->q<N->a.heap[q]?=X.heap[q]?)->P lo N a c){X a:Zh}{d:Zj}{lo b N B:Nat}(h:L3 P X d lo b N)(l:B<=lo)(g:B<=b)(f:X.heap.size<=a.heap.size)(e:∀q,B<=q->q<X.heap.size->a.heap[q]?=X.heap[q]?):L3 P a d lo b N:=
 ⟨Aa.same h.bG (e _ g h.le),k _ _ _ _ _ h.oG f (fun q i j=>e q (by omega) (by have:=h.l1;have:=h.le;omega)),h.l1,Zr h.le f⟩
theorem L3.ak{P:Nat->Nat->Zh->Zj->Prop}(k:∀(lo N:Nat) (X a:Zh) (cs:Zj),P lo N X cs->X.heap.size<=a.heap.size->(∀q,lo<=q->q<N->a.heap[q]?=X.heap[q]?)->P lo N a cs){X a:Zh}{b:Zj}{lo d N:Nat}(h:L3 P X b lo d N)(c:Zz X a):L3 P a b lo d N:=
 h.stays (B:=0) k (Nat.zero_le _) (Nat.zero_le _) c.size (fun q _ e=>c.block q e)
theorem boxed{X:Zh}{cs z:Zj}{T:TypeId}(b:cs.length=z.length):Aa ((X.alloc (.cells z.toArray T)).setCells X.heap.size 0 cs) X.heap.size cs/\Zz X ((X.alloc (.cells z.toArray T)).setCells X.heap.size 0 cs)/\((X.alloc (.cells z.toArray T)).setCells X.heap.size 0 cs).heap.size=X.heap.size+1:=by have a:=Aa.new X z T;have c:=Ax X.heap.size cs 0 (X.alloc (.cells z.toArray T));refine⟨a.aw cs b,(Zy).trans (c.below (by simp) (by simp)),?_⟩;rw[Hq];simp
theorem Hk{P:Program}{c:Array Oper}{rest:List Oper}{f:Oper}{a:Act}{w:Zh}{Q:Exit->Act->Zh->Prop}(p:Region.wanted f (yielded c a.tmps)=true)(g:TypeId)(x:Operand)(m:f.op=.load g x)
 (b o:Nat) (q:a.eval x=Yy b o) (e:Zj) (d:TypeDesc) (j:w.rangeAt b o e)
 (n:P.underlying g=some d) (k:d.isRow=true) (l:(P.info? g).map (·.size)=some e.length)
 (h:wpList P c Q rest (a.put f.dst (.agg e.toArray)) w):wpList P c Q (f::rest) a w:=
 wpList_step fun _ i=>by rw[if_pos p];exact wp_load_mid g x m b o q e d j n k l (i _ _ h)
def CJ(S U T P L Q M:Value)(rs:Zj):List Nat:=((Ao S).toList++(Ao U).toList)++(Bk T P L rs++((Ao Q).toList++(Ao M).toList))
structure AU (w:Zh) (base:Nat) (S U T P L Q M:Value) (rs:Zj) (v:Vd):Prop where
 s:Al w base S v.ss
 u:Al w base U v.tt
 st:AV w base T P L rs v.ks v.ps v.ls
 q:Al w base Q v.qs
 m:Al w base M v.ms
 nd:(CJ S U T P L Q M rs).Nodup
theorem AU.lo{w:Zh}{base:Nat}{S U T P L Q M:Value}{b:Zj}{v:Vd}(h:AU w base S U T P L Q M b v):∀g∈CJ S U T P L Q M b,base<=g:=by
 intro g a;unfold CJ at a;simp only[List.mem_append,Option.mem_toList]at a;rcases a with(a|a)|a|a|a
 ·exact(h.s.cg a).1
 ·exact(h.u.cg a).1
 ·exact h.st.lo g a
 ·exact(h.q.cg a).1
 ·exact(h.m.cg a).1
theorem AU.cf{w:Zh}{base:Nat}{S U T P L Q M:Value}{b:Zj}{v:Vd}(h:AU w base S U T P L Q M b v):∀g∈CJ S U T P L Q M b,g<w.heap.size:=by
 intro g a;unfold CJ at a;simp only[List.mem_append,Option.mem_toList]at a;rcases a with(a|a)|a|a|a
 ·exact(h.s.cg a).2
 ·exact(h.u.cg a).2
 ·exact h.st.cf g a
 ·exact(h.q.cg a).2
 ·exact(h.m.cg a).2
theorem AU.stays{w i:Zh}{base:Nat}{S U T P L Q M:Value}{d:Zj}{v:Vd}(h:AU w base S U T P L Q M d v){V:List Nat}(c:Tn V w i)(j:∀b∈V,b∉CJ S U T P L Q M d):AU i base S U T P L Q M d v:=by have e:∀b∈CJ S U T P L Q M d,b∉V:=fun b f k=>j b k f;unfold CJ at e;simp only[List.mem_append,Option.mem_toList]at e;exact⟨h.s.al c (fun g a=>e g (.inl (.inl a))),h.u.al c (fun g a=>e g (.inl (.inr a))),h.st.apart c (fun b f l=>e b (.inr (.inl l)) f),h.q.al c (fun g a=>e g (.inr (.inr (.inl a)))),h.m.al c (fun g a=>e g (.inr (.inr (.inr a)))),h.nd⟩
theorem AU.below{w a:Zh}{base:Nat}{S U T P L Q M:Value}{rs:Zj}{v:Vd}(h:AU w base S U T P L Q M rs v)(b:Zz w a):AU a base S U T P L Q M rs v:=
 h.stays (V:=[]) (Tn.of b) (by simp)
theorem AU.mono{w:Zh}{base base':Nat}{S U T P L Q M:Value}{rs:Zj}{v:Vd}(h:AU w base S U T P L Q M rs v)(a:base'<=base):AU w base' S U T P L Q M rs v:=
 ⟨h.s.mono a,h.u.mono a,h.st.mono a,h.q.mono a,h.m.mono a,h.nd⟩
theorem AU.of{w:Zh}{base n1 n2:Nat}{S U T P L Q M:Value}{h:Zj}{v:Vd}(x:Al w base S v.ss)(y:Al w base U v.tt)(l:∀g,Ao S=some g->Ao U≠some g)(n:∀g,Ao S=some g∨Ao U=some g->g<n1)
 (f:AV w n1 T P L h v.ks v.ps v.ls) (c:base<=n1) (p:∀g∈Bk T P L h,g<n2) (t:Al w base Q v.qs) (r:Al w base M v.ms) (i:∀g,Ao Q=some g∨Ao M=some g->n2<=g) (A:n1<=n2) (k:∀g,Ao Q=some g->Ao M≠some g):AU w base S U T P L Q M h v:=by
 refine⟨x,y,f.mono c,t,r,?_⟩;have j:=f.nd;rw[Fp]at j;have du:=f.lo;unfold CJ;generalize Bk T P L h=B at *
 generalize Ao S=s at *
 generalize Ao U=u at *
 generalize Ao Q=q at *
 generalize Ao M=m at *
 have one:∀o:Option Nat,o.toList.Nodup:=fun o=>by cases o<;>simp
 simp only[List.nodup_append,List.mem_append,Option.mem_toList];refine⟨⟨one _,one _,fun a d b c e=>l a d (e▸c)⟩,⟨j,⟨one _,one _,fun a d b c e=>k a d (e▸c)⟩,fun a d b c e=> ?_⟩,fun a d b c e=> ?_⟩
 ·have z:=p a d;have C:=i b c;omega
 ·have z:=n a d;rcases c with c|c
  ·have:=du b c;omega
  ·have:=i b c;omega
def EU(k:Nat)(v:Vd):Vd:=
 {v with
  ss:=marks k v.ss.length
  tt:=marks (k+v.ss.length) v.tt.length
  ks:=Cm (k+v.ss.length+v.tt.length) v.ks
  ps:=Ee (k+v.ss.length+v.tt.length+v.ks.length *3+AI v.ks) v.ps
  ls:=Ef (k+v.ss.length+v.tt.length+v.ks.length *3+AI v.ks+v.ps.length *2) v.ls
  qs:=marks (k+v.ss.length+v.tt.length+CN v.ks v.ps v.ls) v.qs.length
  ms:=marks (k+v.ss.length+v.tt.length+CN v.ks v.ps v.ls+v.qs.length) v.ms.length}
def Df(v:Vd):Nat:=v.ss.length+v.tt.length+CN v.ks v.ps v.ls+v.qs.length+v.ms.length
theorem Vp(base k:Nat)(S U:Value)(a c:Zl)(w:Zh)(r:Al w base S a)(t:Al w base U c)(x:∀g,Ao S=some g->Ao U≠some g)(O:1<=k)(R:k+a.length+c.length<=100000000):
 Calls prog 33 #[.agg #[S,U],Zg k] w fun e C=>e=.returned (Zg (k+a.length+c.length:Nat))/\Al C base S (marks k a.length)/\Al C base U (marks (k+a.length) c.length)/\Tn ((Ao S).toList++(Ao U).toList) w C:=by
 obtain⟨j,l,rfl,_⟩:=r.row;obtain⟨f,i,rfl,_⟩:=t.row;obtain⟨W,p⟩:∃W,W=w.alloc (.cells #[.slice j a.length l,.slice f c.length i] 38):=⟨_,rfl⟩;have u:=(AJ p).1;have G:=(AJ p).2.2;have F:Hid (Aa W _ _):=(AJ p).2.2;obtain⟨Q,_⟩:=G 0 _ rfl;have B:Hid (Al W base (.slice j a.length l) a/\Al W base (.slice f c.length i) c):=⟨r.below u,t.below u⟩
 have K:Hid ((∀g,Ao (.slice j a.length l)=some g->g<w.heap.size)/\(∀g,Ao (.slice f c.length i)=some g->g<w.heap.size)):=⟨fun g d=>(r.cg d).2,fun g d=>(t.cg d).2⟩;have HN:=Yx x;have E:=Yx p;have M:Hid (Zz w W):=u;clear r t x p G u;go_enter func33,ntmps33;go_upto_region 1 with fail;rw[←E.o];clear E;go_wp2_with fail;refine(HJ base k _ a W B.o.1 O (by omega)).mono ?_;rintro e o ⟨rfl,y,m⟩
 have L:w.heap.size<W.heap.size:=Aa.lt F.o;have A:Aa o w.heap.size [.slice j a.length l,.slice f c.length i]:=Aa.same F.o (m.block _ L (fun e=>by have:=K.o.1 _ e.symm;omega));have v:Al o base (.slice f c.length i) c:=B.o.2.stays m.size (fun g d=>m.block g (B.o.2.cg d).2 (fun e=>HN.o g e.symm d));obtain⟨P,_⟩:=A 1 _ rfl;have H:Hid (Al o base (.slice f c.length i) c):=v;have q:=Yx (Zb y m)
 clear Q A v y m;go_wp2_with fail;refine(HJ base (k+a.length) _ c o H.o (by omega) (by omega)).mono ?_;rintro e D ⟨rfl,z,n⟩;have J:Hid (Al D base (.slice j a.length l) (marks k a.length)):=q.o.1.stays n.size (fun g d=>n.block g (q.o.1.cg d).2 (fun e=>HN.o g d e.symm))
 have N:Hid (Tn ((Ao (.slice j a.length l)).toList++(Ao (.slice f c.length i)).toList) w D):=((Tn.of M.o).trans ((CG q.o.2).mono (by simp;exact fun b h=> .inl h))).trans ((CG n).mono (by simp;exact fun b h=> .inr h));have I:=Yx z;clear P z n;go_wp2;go_ret;exact⟨rfl,J.o,I.o,N.o⟩
theorem vnd{S U T P L Q M:Value}{c:Zj}(h:(CJ S U T P L Q M c).Nodup):
 (∀g,Ao S=some g->Ao U≠some g/\g∉Bk T P L c/\Ao Q≠some g/\Ao M≠some g)/\(∀g,Ao U=some g->g∉Bk T P L c/\Ao Q≠some g/\Ao M≠some g)/\(∀g∈Bk T P L c,Ao Q≠some g/\Ao M≠some g)/\(∀g,Ao Q=some g->Ao M≠some g):=by
 unfold CJ at h;generalize Bk T P L c=B at *
 generalize Ao S=s at *
 generalize Ao U=u at *
 generalize Ao Q=q at *
 generalize Ao M=m at *
 simp only[List.nodup_append,List.mem_append,Option.mem_toList]at h;obtain⟨⟨_,_,f⟩,⟨_,⟨_,_,i⟩,d⟩,b⟩:=h
 refine⟨fun g a=>⟨fun e=>f g a g e rfl,fun e=>b g (.inl a) g (.inl e) rfl,fun e=>b g (.inl a) g (.inr (.inl e)) rfl,fun e=>b g (.inl a) g (.inr (.inr e)) rfl⟩,fun g a=>⟨fun e=>b g (.inr a) g (.inl e) rfl,fun e=>b g (.inr a) g (.inr (.inl e)) rfl,fun e=>b g (.inr a) g (.inr (.inr e)) rfl⟩,fun g a=>⟨fun e=>d g a g (.inl e) rfl,fun e=>d g a g (.inr e) rfl⟩,fun g a e=>i g a g e rfl⟩
theorem Lx(v:Vd)(base k:Nat)(S U T P L Q M:Value)(x:Zj)(w:Zh)(h:AU w base S U T P L Q M x v)(hk:1<=k)(H:k+Df v<=100000000):
 Calls prog 13 #[.agg #[Zg v.wd,Zg v.aj,S,U,Zg v.sw,Zg v.now,Zg v.given,Zg v.ae,T,P,L,Zg v.ph,Q,M,Zg v.ag,Zg v.at_,Zg v.ro],Zg k] w fun e w'=>e=.returned (Zg (k+Df v:Nat))/\AU w' base S U T P L Q M x (EU k v)/\Tn (CJ S U T P L Q M x) w w':=by
 obtain⟨d,f,rfl,_⟩:=h.s.row;obtain⟨i,j,rfl,_⟩:=h.u.row;obtain⟨y,z,rfl⟩:=Ar h.st.ai;obtain⟨q,r,rfl⟩:=Ar h.st.pins;obtain⟨m,n,rfl⟩:=Ar h.st.an;obtain⟨t,u,rfl,_⟩:=h.q.row;obtain⟨o,p,rfl,_⟩:=h.m.row;obtain⟨W,I⟩:∃W,W=w.alloc (.cells (Yd v d f i j y z q r m n t u o p) 46):=⟨_,rfl⟩;have a:=(AJ I).1;have hz:=(AJ I).2.2;have HZ:Hid (Aa W _ _):=(AJ I).2.2
 have G:Hid (AU W base (.slice d v.ss.length f) (.slice i v.tt.length j) (.slice y v.ks.length z) (.slice q v.ps.length r) (.slice m v.ls.length n) (.slice t v.qs.length u) (.slice o v.ms.length p) x v):=h.below a
 have J:Hid (∀g∈CJ (.slice d v.ss.length f) (.slice i v.tt.length j) (.slice y v.ks.length z) (.slice q v.ps.length r) (.slice m v.ls.length n) (.slice t v.qs.length u) (.slice o v.ms.length p) x,g<w.heap.size):=h.cf;have HN:=Yx (vnd h.nd)
 have zT:Hid ((CJ (.slice d v.ss.length f) (.slice i v.tt.length j) (.slice y v.ks.length z) (.slice q v.ps.length r) (.slice m v.ls.length n) (.slice t v.qs.length u) (.slice o v.ms.length p) x).Nodup):=h.nd;have zR:w.heap.size<W.heap.size:=Aa.lt hz;obtain⟨c2,c3⟩:=Aa.c2 hz 2 3;have HW:=Yx I;have HB:Hid (Zz w W):=a;have yA:k+v.ss.length+v.tt.length<=100000000:=by unfold Df at H;omega
 have yB:k+v.ss.length+v.tt.length+CN v.ks v.ps v.ls<=100000000:=by unfold Df at H;omega
 have yC:k+v.ss.length+v.tt.length+CN v.ks v.ps v.ls+v.qs.length+v.ms.length<=100000000:=by unfold Df at H;omega
 have zS:Hid (k+Df v=k+v.ss.length+v.tt.length+CN v.ks v.ps v.ls+v.qs.length+v.ms.length):=by show k+Df v=_;unfold Df;omega
 rw[zS.o];clear h I hz a H;go_enter func13,ntmps13;go_upto_region 1 with fail;rw[←HW.o];clear HW;go_wp2_with fail;refine(Vp base k _ _ v.ss v.tt W G.o.s G.o.u (fun g c=>(HN.o.1 g c).1) hk yA).mono ?_;rintro e O ⟨rfl,zJ,zN,A⟩;have n1:∀b∈(Ao (.slice d v.ss.length f)).toList++(Ao (.slice i v.tt.length j)).toList,b<w.heap.size:=fun b a=>J.o b (by unfold CJ;exact List.mem_append.2 (.inl a))
 have z1:Aa O w.heap.size (Yc v d f i j y z q r m n t u o p):=Aa.same HZ.o (A.block _ zR (fun e=>by have:=n1 _ e;omega));have K:∀b∈(Ao (.slice d v.ss.length f)).toList++(Ao (.slice i v.tt.length j)).toList,b∉Bk (.slice y v.ks.length z) (.slice q v.ps.length r) (.slice m v.ls.length n) x/\Ao (.slice t v.qs.length u)≠some b/\Ao (.slice o v.ms.length p)≠some b:=by
  intro b a;simp only[List.mem_append,Option.mem_toList]at a;rcases a with a|a
  ·exact(HN.o.1 b a).2
  ·exact HN.o.2.1 b a
 have X:=G.o.st.apart A (fun b a=>(K b a).1);have zG:=G.o.q.al A (fun g c e=>(K g e).2.1 c);have zC:=G.o.m.al A (fun g c e=>(K g e).2.2 c);have C:=Yx (Zn zJ (Zn zN (Zn X (Zn zG (Zn zC ((Tn.of HB.o).trans A))))));have E:w.heap.size<O.heap.size:=Zr zR A.size;have V:=Yx z1;clear zJ zN X zG zC A c2 c3 HZ G K n1;obtain⟨c4,c5,c6,c7,c8,c9,zU⟩:=Aa.c7 z1 4 5 6 7 8 9 10;clear z1;go_wp2_with fail
 refine(RD v.sw v.now v.given v.ae base (k+v.ss.length+v.tt.length) _ _ _ x v.ks v.ps v.ls O C.o.2.2.1 (by omega) yB).mono ?_;rintro e R ⟨rfl,Y,l⟩;have z2:Aa R w.heap.size (Yc v d f i j y z q r m n t u o p):=Aa.same V.o (l.block _ E (fun e=>by have:=J.o _ (by unfold CJ;exact List.mem_append.2 (.inr (List.mem_append.2 (.inl e))));omega));have zK:=C.o.1.al l (fun g c e=>(HN.o.1 g c).2.1 e)
 have zO:=C.o.2.1.al l (fun g c e=>(HN.o.2.1 g c).1 e);have zH:=C.o.2.2.2.1.al l (fun g c e=>(HN.o.2.2.1 g e).1 c);have zE:=C.o.2.2.2.2.1.al l (fun g c e=>(HN.o.2.2.1 g e).2 c)
 have zA:Tn (CJ (.slice d v.ss.length f) (.slice i v.tt.length j) (.slice y v.ks.length z) (.slice q v.ps.length r) (.slice m v.ls.length n) (.slice t v.qs.length u) (.slice o v.ms.length p) x) w R:=(C.o.2.2.2.2.2.mono (fun b a=>by unfold CJ;exact List.mem_append.2 (.inl a))).trans (l.mono (fun b a=>by unfold CJ;exact List.mem_append.2 (.inr (List.mem_append.2 (.inl a)))))
 have D:=Yx (Zn zK (Zn zO (Zn Y (Zn zH (Zn zE zA)))));have yD:w.heap.size<R.heap.size:=Zr E l.size;clear zK zO Y zH zE l zA C V c4 c5 c6 c7 c8 c9 zU;obtain⟨zV,MN,zW,zX,zY,zZ⟩:=Aa.c6 z2 11 12 13 14 15 16;clear z2;go_wp2_with fail
 refine(Rr v.ph v.ag v.at_ v.ro base (k+v.ss.length+v.tt.length+CN v.ks v.ps v.ls) _ _ v.qs v.ms R D.o.2.2.2.1 D.o.2.2.2.2.1 (fun g c=>HN.o.2.2.2 g c) (by omega) yC).mono ?_;rintro e w3 ⟨rfl,zI,zF,B⟩
 have N:∀b∈(Ao (.slice t v.qs.length u)).toList++(Ao (.slice o v.ms.length p)).toList,Ao (.slice d v.ss.length f)≠some b/\Ao (.slice i v.tt.length j)≠some b/\b∉Bk (.slice y v.ks.length z) (.slice q v.ps.length r) (.slice m v.ls.length n) x:=by
  intro b a;simp only[List.mem_append,Option.mem_toList]at a;rcases a with a|a
  ·exact⟨fun e=>(HN.o.1 b e).2.2.1 a,fun e=>(HN.o.2.1 b e).2.1 a,fun e=>(HN.o.2.2.1 b e).1 a⟩
  ·exact⟨fun e=>(HN.o.1 b e).2.2.2 a,fun e=>(HN.o.2.1 b e).2.2 a,fun e=>(HN.o.2.2.1 b e).2 a⟩
 have zM:=D.o.1.al B (fun g c e=>(N g e).1 c);have zP:=D.o.2.1.al B (fun g c e=>(N g e).2.1 c);have Z:=D.o.2.2.1.apart B (fun b a=>(N b a).2.2)
 have zB:Tn (CJ (.slice d v.ss.length f) (.slice i v.tt.length j) (.slice y v.ks.length z) (.slice q v.ps.length r) (.slice m v.ls.length n) (.slice t v.qs.length u) (.slice o v.ms.length p) x) w w3:=D.o.2.2.2.2.2.trans (B.mono (fun b a=>by unfold CJ;exact List.mem_append.2 (.inr (List.mem_append.2 (.inr a)))));have F:Hid (_/\_):=Zn zB (Zn zM (Zn zP (Zn Z (Zn zI zF))))
 clear zM zP Z zI zF B zB D N zV MN zW zX zY zZ J HN;go_wp2;go_ret;exact⟨rfl,⟨F.o.2.1,F.o.2.2.1,F.o.2.2.2.1,F.o.2.2.2.2.1,F.o.2.2.2.2.2,zT.o⟩,F.o.1⟩
theorem RJ(v:Vd)(base k:Nat)(S U T P L Q M:Value)(F:Zj)(w:Zh)(h:AU w base S U T P L Q M F (EU k v))(hk:1<=k)(d:k+Df v<=100000000):
 Calls prog 37 #[.agg #[Zg v.wd,Zg v.aj,S,U,Zg v.sw,Zg v.now,Zg v.given,Zg v.ae,T,P,L,Zg v.ph,Q,M,Zg v.ag,Zg v.at_,Zg v.ro],Zg k] w fun e w'=>e=.returned (Zg (k+Df v:Nat))/\Zz w w':=by
 obtain⟨i,u,X,hS⟩:=h.s.row;obtain⟨j,z,Z,hU⟩:=h.u.row;obtain⟨x,y,Y⟩:=Ar h.st.ai;obtain⟨q,r,R⟩:=Ar h.st.pins;obtain⟨n,o,N⟩:=Ar h.st.an;obtain⟨g,t,V,hQ⟩:=h.q.row;obtain⟨f,p,O,hM⟩:=h.m.row;have l1:(EU k v).ss.length=v.ss.length:=BS _ _;have l2:(EU k v).tt.length=v.tt.length:=BS _ _;have l3:(EU k v).ks.length=v.ks.length:=BW _ _;have l4:(EU k v).ps.length=v.ps.length:=EI _ _
 have l5:(EU k v).ls.length=v.ls.length:=FG _ _;have l6:(EU k v).qs.length=v.qs.length:=BS _ _;have l7:(EU k v).ms.length=v.ms.length:=BS _ _;rw[l1]at X;rw[l2]at Z;rw[l3]at Y;rw[l4]at R;rw[l5]at N;rw[l6]at V;rw[l7]at O;subst X Z Y R N V O;obtain⟨W,m⟩:∃W,W=w.alloc (.cells (Yd v i u j z x y q r n o g t f p) 46):=⟨_,rfl⟩;have hb:=(AJ m).1;have hz:=(AJ m).2.2;have K:Hid (Aa W _ _):=(AJ m).2.2
 have I:Hid (AV w base (.slice x v.ks.length y) (.slice q v.ps.length r) (.slice n v.ls.length o) F (Cm (k+v.ss.length+v.tt.length) v.ks) (Ee (k+v.ss.length+v.tt.length+v.ks.length *3+AI v.ks) v.ps) (Ef (k+v.ss.length+v.tt.length+v.ks.length *3+AI v.ks+v.ps.length *2) v.ls)):=h.st;have l:=Yx (Zb hS (Zb hU (Zb hQ hM)));obtain⟨c2,c3⟩:=Aa.c2 hz 2 3;have J:=Yx m;have b:Hid (Zz w W):=hb
 have zJ:k+v.ss.length+v.tt.length<=100000000:=by unfold Df at d;omega
 have zK:k+v.ss.length+v.tt.length+CN v.ks v.ps v.ls<=100000000:=by unfold Df at d;omega
 have zM:k+v.ss.length+v.tt.length+CN v.ks v.ps v.ls+v.qs.length+v.ms.length<=100000000:=by unfold Df at d;omega
 have zB:Hid (k+Df v=k+v.ss.length+v.tt.length+CN v.ks v.ps v.ls+v.qs.length+v.ms.length):=by show k+Df v=_;unfold Df;omega
 rw[zB.o];clear h m hz hb d hS hU hQ hM l1 l2 l3 l4 l5 l6 l7;go_enter func37,ntmps37;go_upto_region 1 with fail;rw[←J.o];clear J;go_wp2_with fail;refine(Pf i j v.ss.length v.tt.length u z k W ((l.o.1.below b.o).mono b.o.size) ((l.o.2.1.below b.o).mono b.o.size) hk zJ).mono ?_;rintro e C ⟨rfl,A⟩;have H:Aa C w.heap.size (Yc v i u j z x y q r n o g t f p):=Aa.below K.o A;have D:=Yx H
 have c:Hid (Zz w C):=b.o.trans (A.mono b.o.size);obtain⟨c4,c5,c6,c7,c8,c9,zC⟩:=Aa.c7 H 4 5 6 7 8 9 10;clear H A c2 c3 K b;go_wp2_with fail;refine(RE v.sw v.now v.given v.ae base (k+v.ss.length+v.tt.length) _ _ _ F v.ks v.ps v.ls C (I.o.below c.o) (by omega) zK).mono ?_;rintro e G ⟨rfl,B⟩;have z2:Aa G w.heap.size (Yc v i u j z x y q r n o g t f p):=Aa.below D.o B
 have a:Hid (Zz w G):=c.o.trans (B.mono c.o.size);obtain⟨zE,MN,zF,zG,zH,zI⟩:=Aa.c6 z2 11 12 13 14 15 16;clear z2 B c4 c5 c6 c7 c8 c9 zC D c;go_wp2_with fail;refine(Nc v.ph v.ag v.at_ v.ro g f v.qs.length v.ms.length t p (k+v.ss.length+v.tt.length+CN v.ks v.ps v.ls) G ((l.o.2.2.1.below a.o).mono a.o.size) ((l.o.2.2.2.below a.o).mono a.o.size) (by omega) zM).mono ?_;rintro e w3 ⟨rfl,E⟩
 have zA:Hid (Zz w w3):=a.o.trans (E.mono a.o.size);clear zE MN zF zG zH zI E a l I;go_wp2;go_ret;exact⟨rfl,zA.o⟩
def Cd(v:Vd)(S U T P L Q M:Value):Zj:=[Zg v.wd,Zg v.aj,S,U,Zg v.sw,Zg v.now,Zg v.given,Zg v.ae,T,P,L,Zg v.ph,Q,M,Zg v.ag,Zg v.at_,Zg v.ro]
def Ly(v:Vd)(L:Nat)(X:Zh)(cs:Zj):Prop:=
 ∃a:Va,cs=Cd v (.slice a.sa v.ss.length a.sc) (.slice a.ta v.tt.length a.tc) (.slice a.ka v.ks.length a.kc) (.slice a.pa v.ps.length a.pc) (.slice a.la v.ls.length a.lc) (.slice a.qa v.qs.length a.qc) (.slice a.ma v.ms.length a.mc)/\Cc X L a v
def Kh(v u:Vd)(lo N:Nat)(X:Zh)(cs:Zj):Prop:=
 (N<=X.heap.size/\lo<=X.heap.size)/\∃S U T P L Q M rs,cs=Cd v S U T P L Q M/\AU X lo S U T P L Q M rs u/\∀g∈CJ S U T P L Q M rs,g<N
theorem AU.gl{X:Zh}{base:Nat}{S U T P L Q M:Value}{o:Zj}{v:Vd}(h:AU X base S U T P L Q M o v):Ly v X.heap.size X (Cd v S U T P L Q M):=by obtain⟨p,q,rfl,a⟩:=h.s.row;obtain⟨u,w,rfl,b⟩:=h.u.row;obtain⟨r,t,k,l,f,g,rfl,rfl,rfl,c⟩:=h.st.rows;obtain⟨m,n,rfl,d⟩:=h.q.row;obtain⟨i,j,rfl,e⟩:=h.m.row;exact⟨⟨p,q,u,w,r,t,k,l,f,g,m,n,i,j⟩,rfl,⟨a,b,c,d,e⟩⟩
theorem AV.at{w w':Zh}{base:Nat}{T P L:Value}{c:Zj}{ks:List Kd}{ps:List Pd}{ls:List Ld}(h:AV w base T P L c ks ps ls)(b:∀g∈Bk T P L c,w'.heap[g]?=w.heap[g]?):AV w' base T P L c ks ps ls:=
 ⟨h.len,Ak h.ai (fun g a=>b g (by unfold Bk;simp[a])),fun i k r e d=>Ak (h.refs i k r e d) (fun g a=>b g (by unfold Bk;simp only[List.mem_append,List.mem_filterMap];exact .inr (.inr (.inr ⟨r,Zs d,a⟩)))),Ak h.pins (fun g a=>b g (by unfold Bk;simp[a])),Ak h.an (fun g a=>b g (by unfold Bk;simp[a])),h.nd⟩
theorem AU.ak{X c:Zh}{lo N:Nat}{S U T P L Q M:Value}{d:Zj}{u:Vd}(b:AU X lo S U T P L Q M d u)(h:∀g∈CJ S U T P L Q M d,g<N)(f:X.heap.size<=c.heap.size)(j:∀q,lo<=q->q<N->c.heap[q]?=X.heap[q]?):AU c lo S U T P L Q M d u:=by
 have e:∀g∈CJ S U T P L Q M d,c.heap[g]?=X.heap[g]?:=fun g a=>j g (b.lo g a) (h g a);have i:∀g∈Bk T P L d,c.heap[g]?=X.heap[g]?:=fun g a=>e g (by unfold CJ;simp only[List.mem_append];exact .inr (.inl a));unfold CJ at e;simp only[List.mem_append,Option.mem_toList]at e
 exact⟨b.s.stays f (fun g a=>e g (.inl (.inl a))),b.u.stays f (fun g a=>e g (.inl (.inr a))),b.st.at i,b.q.stays f (fun g a=>e g (.inr (.inr (.inl a)))),b.m.stays f (fun g a=>e g (.inr (.inr (.inr a)))),b.nd⟩
theorem Kh.ak{v u:Vd}{lo N:Nat}{X a:Zh}{cs:Zj}(h:Kh v u lo N X cs)(b:X.heap.size<=a.heap.size)(f:∀q,lo<=q->q<N->a.heap[q]?=X.heap[q]?):Kh v u lo N a cs:=by obtain⟨d,S,U,T,P,L,Q,M,g,rfl,e,c⟩:=h;exact⟨⟨Zm d.1 b,Zm d.2 b⟩,S,U,T,P,L,Q,M,g,rfl,e.ak c b f,c⟩
theorem Cy.gz{v:Vd}(h:Cy v):1000+Df v<=90000000:=by unfold Df CN;have:=h.s;have:=h.t;have:=h.st.k;have:=h.st.p;have:=h.st.l;have:=h.r.q;have:=h.r.m;have:=h.rn;omega
theorem ZI(v:Vd)(l:Cy v):Gs 17 1 11 13 (Ly v) (Kh v v) (fun lo N X d K=>K=1+Df v/\Kh v (EU 1 v) lo N X d):=by
 refine⟨?_,?_,?_,?_,?_,?_,?_,?_⟩
 ·rintro X d z ⟨a,rfl,c⟩ ⟨b,rfl,g⟩;exact Kg v a b X c g l
 ·rintro lo N X d k ⟨f,S,U,T,P,L,Q,M,o,rfl,c,g⟩ w x;obtain rfl:k=1:=by omega
  refine(Lx v lo 1 S U T P L Q M o X c (by omega) (by have:=l.gz;omega)).mono ?_;rintro e j ⟨rfl,r,i⟩;exact⟨⟨1+Df v,rfl,by omega,by have:=l.gz;omega,rfl,⟨Zm f.1 i.size,Zm f.2 i.size⟩,S,U,T,P,L,Q,M,o,rfl,r,g⟩,i.below f.2 c.lo,fun q A p=>i.block q p (fun e=>by have:=g q e;omega)⟩
 ·rintro L X j d ⟨a,rfl,c⟩ t;exact⟨a,rfl,c.ak t⟩
 ·rintro L y X d ⟨a,rfl,c⟩ u;exact⟨a,rfl,c.mono u⟩
 ·intro lo N X j d h n m;exact h.ak n m
 ·rintro lo N X j d K ⟨rfl,h⟩ n m;exact⟨rfl,h.ak n m⟩
 ·rintro lo N X d ⟨f,S,U,T,P,L,Q,M,o,rfl,c,_⟩;exact⟨f.1,c.gl⟩
 ·rintro L X d ⟨a,rfl,_⟩;exact⟨rfl,by simp[Cd,Value.oneCell']⟩
theorem YG(v:Vd)(d:Cy v)(lo N:Nat)(X:Zh)(a:Zj)(K:Nat)(h:K=1+Df v/\Kh v (EU 1 v) lo N X a):
 Calls prog 37 #[.agg a.toArray,Zg 1] X fun e b=>e=.returned (Zg K)/\Zz X b:=by
 obtain⟨rfl,g,S,U,T,P,L,Q,M,f,rfl,c,_⟩:=h;exact RJ v lo 1 S U T P L Q M f X c (by omega) (by have:=d.gz;omega)
theorem AU.voa{X:Zh}{base:Nat}{S U T P L Q M:Value}{a:Zj}{v:Vd}(h:AU X base S U T P L Q M a v)(b:base<=X.heap.size):Kh v v base X.heap.size X (Cd v S U T P L Q M):=
 ⟨⟨Zx,b⟩,S,U,T,P,L,Q,M,a,rfl,h,h.cf⟩
theorem Dr.fg{V i:Zh}{base d m B:Nat}{O P L:Value}{wd now given ae:Int}{ks:List Kd}{ps:List Pd}{ls:List Ld}(h:Dr V base d m O P L wd now given ae ks ps ls)(u:d<B)(v:m<B)(t:base<=B){row:Option Nat}(k:V.grownBy i row)(l:∀r,row=some r->B<=r/\∃o,V.heap[r]?=some o/\Bu o=true):Dr i base d m O P L wd now given ae ks ps ls:=by
 refine(DU.al ⟨h⟩ (CG k) (fun r j=> ?_)).dr;obtain⟨q,o,b,f⟩:=l r (by simpa using j);refine⟨by omega,fun g=> ?_,fun n p e=> ?_⟩
 ·unfold vB at g;simp only[List.mem_cons,List.mem_append,Option.mem_toList]at g;rcases g with e|e|e|e|e
  ·omega
  ·omega
  ·obtain⟨c,a⟩:=BX h.ord e;rw[b]at a;cases a;simp[Bu]at f
  ·obtain⟨c,a⟩:=BX h.cl e;rw[b]at a;cases a;simp[Bu]at f
  ·obtain⟨c,a⟩:=BX h.ci e;rw[b]at a;cases a;simp[Bu]at f
 ·rw[b]at e;cases e;simp[Bu]at f
theorem Dr.bw{V:Zh}{base d m b:Nat}{O P L:Value}{wd now given ae:Int}{ks:List Kd}{ps:List Pd}{ls:List Ld}(h:Dr V base d m O P L wd now given ae ks ps ls){o:Obj}(g:V.heap[b]?=some o)(f:Bu o=true)(j:b≠d)(k:b≠m):b∉vB d m O P L/\NS V b:=by
 refine⟨fun i=> ?_,fun l n e=> ?_⟩
 ·unfold vB at i;simp only[List.mem_cons,List.mem_append,Option.mem_toList]at i;rcases i with e|e|e|e|e
  ·exact j e
  ·exact k e
  ·obtain⟨c,a⟩:=BX h.ord e;rw[g]at a;cases a;simp[Bu]at f
  ·obtain⟨c,a⟩:=BX h.cl e;rw[g]at a;cases a;simp[Bu]at f
  ·obtain⟨c,a⟩:=BX h.ci e;rw[g]at a;cases a;simp[Bu]at f
 ·rw[g]at e;cases e;simp[Bu]at f
theorem Dr.rebase{V:Zh}{base a d m:Nat}{O P L:Value}{wd now given ae:Int}{ps:List Pd}{ls:List Ld}(h:Dr V base d m O P L wd now given ae [] ps ls)(b:a<=base):Dr V a d m O P L wd now given ae [] ps ls:=by
 obtain⟨n,f,c,e,g⟩:=h.map;refine⟨h.box,⟨n,f,c,e,fun s i=> ?_⟩,h.ord.mono b,h.cl.mono b,h.ci.mono b,Zm b h.bd,Zm b h.bm,h.ap⟩;rcases g s i with h|⟨u,_,_,j,_⟩
 ·exact .inl h
 ·simp at j
theorem Dr.fw{V j:Zh}{base d m B:Nat}{O P L:Value}{wd now given ae:Int}{ks:List Kd}{ps:List Pd}{ls:List Ld}(h:Dr V base d m O P L wd now given ae ks ps ls)(n:d<B)(p:m<B)(k:Tn (vB d m O P L) V j):BA B V j:=by
 refine⟨k.size,fun b o l f g=>(k.block b (Array.getElem?_eq_some_iff.1 f).1 (fun i=> ?_)).trans f⟩;unfold vB at i;simp only[List.mem_cons,List.mem_append,Option.mem_toList]at i;rcases i with e|e|e|e|e
 ·omega
 ·omega
 ·obtain⟨c,a⟩:=BX h.ord e;rw[f]at a;cases a;simp[Bu]at g
 ·obtain⟨c,a⟩:=BX h.cl e;rw[f]at a;cases a;simp[Bu]at g
 ·obtain⟨c,a⟩:=BX h.ci e;rw[f]at a;cases a;simp[Bu]at g
theorem BA.ia{B:Nat}{W c:Zh}{row:Option Nat}(d:W.grownBy c row)(a:∀j,row=some j->j<B):BA B W c:=
 ⟨d.size,fun b _ f h _=>(d.block b (Array.getElem?_eq_some_iff.1 h).1 (fun e=>by have:=a b e.symm;omega)).trans h⟩
theorem BA.below{B:Nat}{V a:Zh}(h:Zz V a):BA B V a:=⟨h.size,fun b _ _ c _=>(h.block b (Array.getElem?_eq_some_iff.1 c).1).trans c⟩
section
attribute [local go_sem] Oper.semAt_some
theorem Qj{V:Zh}{z B:Nat}{T U:TypeId}{v:Value}(g:Boxed V (z+1) T (.pointer none))(d:Boxed V (z+1+1) U v)(h:z+1+1<B)(u:Value):BA B V ((V.setCell (Ze (z+1) 0) (.pointer none)).setCell (Ze (z+1+1) 0) u)/\Below z V ((V.setCell (Ze (z+1) 0) (.pointer none)).setCell (Ze (z+1+1) 0) u)/\Boxed ((V.setCell (Ze (z+1) 0) (.pointer none)).setCell (Ze (z+1+1) 0) u) (z+1) T (.pointer none)/\Boxed ((V.setCell (Ze (z+1) 0) (.pointer none)).setCell (Ze (z+1+1) 0) u) (z+1+1) U u:=by
 have b:=grownBy_setCell' V (z+1) (.pointer none);have c:=grownBy_setCell' (V.setCell (Ze (z+1) 0) (.pointer none)) (z+1+1) u;have a:=g.set (.pointer none);have f:Boxed (V.setCell (Ze (z+1) 0) (.pointer none)) (z+1+1) U v:=(b.block _ (Array.getElem?_eq_some_iff.1 d).1 (fun e=>by have:=Option.some.inj e;omega)).trans d
 refine⟨(BA.ia b (fun j e=>by cases e;omega)).trans (BA.ia c (fun j e=>by cases e;omega)),(Below.setCell (Below.setCell (Below.refl _ _) (show z<=z+1 by omega) _) (show z<=z+1+1 by omega) _),(c.block _ (Array.getElem?_eq_some_iff.1 a).1 (fun e=>by have:=Option.some.inj e;omega)).trans a,f.set u⟩
theorem RK(wd:Int)(gf:Nat)(pre lb:Array Value)(xs:Zl)(w:Zh)(h1:1<=wd)(h8:wd<=8)(hx:xs.length<=100000)(hs:∀s∈xs,s.size<=1048576)(hE:Env w)(eg:∀args w,(callFunc gf args).run prog w=.ok (.enter gf args) w)(yI:∀W,Zz w W->Fe prog gf (fun l=>pre++ #[.func (.yield l) #[] #[]]++lb) xs w.heap.size W):
 Calls prog 97 #[Zg wd,.func (.func gf) pre lb] w fun e w'=>Zz w w'/\((∃n:Nat,Gi wd xs n/\e=.returned (.tuple #[.pointer none,Zg n]))∨(∃r d m O P L base,Dt wd r0 xs r/\e=.returned (.tuple #[Yz d,Zf])/\Dr w' base d m O P L wd r.now r.given r.ae r.ks r.ps r.ls/\(w.heap.size<=base/\base+4<=m))):=by
 refine(callsIn_wide (n:=3)).1 ?_;refine callsIn_of_wp_marks func97 rfl trivial ?_ rfl;simp only[ntmps97,List.size_toArray,List.length_cons,List.length_nil,Nat.reduceAdd,Nat.reduceSub,Array.replicate_succ,Array.replicate_zero,List.push_toArray,List.append_toArray,List.nil_append,List.cons_append]
 obtain⟨W0,N⟩:∃W,W=((w.alloc (.cells #[Zg wd] 3)).alloc (.cells #[.pointer none] 146)).alloc (.cells #[Zf] 3):=⟨_,rfl⟩;have b0:=(Bh N).1;have z0:=(Bh N).2.1;have HD:=Yx (Jo wd 0 0 0 none none none 0 0 0 [] [] [] W0 ⟨.inl rfl,.inl rfl,.inl rfl⟩ (by simp) (by simp) (by simp) (by simp) h8);have yK:=Yx N
 gi_wp2_with fail
 refine⟨trivial,?_⟩;rw[←yK.o];refine(callsIn_wide.2 HD.o).mono ?_;rintro e f ⟨d,m,O,P,L,rfl,zB,_,_,zF⟩;have yB:=b0.trans (zF.mono b0.size);obtain⟨t,zE⟩:∃W,W=(f.alloc (.cells #[Yz d] 146)).alloc (.cells #[Zf] 3):=⟨_,rfl⟩;have yL:=Yx zE;have y:=(Bj zE).1;have zK:Below w.heap.size w t:=yB.trans (y.mono yB.size);have z2:=(Bj zE).2.1;have xG:w.heap.size+3<=f.heap.size:=by have:=zF.size;omega
 have x2:Boxed t w.heap.size 3 (Zg wd):=by show t.heap[w.heap.size]?=_;rw[y.block _ (by omega),zF.block _ (by omega),N,Below.heap_alloc _ _ _ (by simp;omega),Below.heap_alloc _ _ _ (by simp)];exact heap_alloc_new w _
 have x4:Boxed t (w.heap.size+1) 146 (.pointer none):=by show t.heap[w.heap.size+1]?=_;rw[y.block _ (by omega),zF.block _ (by omega),N,Below.heap_alloc _ _ _ (by simp)];have:=heap_alloc_new (w.alloc (.cells #[Zg wd] 3)) (.cells #[.pointer none] 146);rw[World.size_alloc]at this;exact this
 have x5:Boxed t (w.heap.size+1+1) 3 Zf:=by show t.heap[w.heap.size+1+1]?=_;rw[y.block _ (by omega),zF.block _ (by omega),N];have:=heap_alloc_new ((w.alloc (.cells #[Zg wd] 3)).alloc (.cells #[.pointer none] 146)) (.cells #[Zf] 3);rw[World.size_alloc,World.size_alloc]at this;exact this
 have x6:Boxed t f.heap.size 146 (Yz d):=by show t.heap[f.heap.size]?=_;rw[zE,Below.heap_alloc _ _ _ (by simp)];exact heap_alloc_new f _
 have x7:Boxed t (f.heap.size+1) 3 Zf:=by show t.heap[f.heap.size+1]?=_;rw[zE];have:=heap_alloc_new (f.alloc (.cells #[Yz d] 146)) (.cells #[Zf] 3);rw[World.size_alloc]at this;exact this
 have yD:d<f.heap.size:=zB.cf d (by simp[vB]);have yE:m<f.heap.size:=zB.cf m (by simp[vB]);have xB:=zB.bd;have xD:=zB.bm;have yU:Dr t w.heap.size d m O P L wd 0 0 0 [] [] []:=(zB.below y).rebase (by omega);have HE:Hid (∀V,Zz w V->Env V):=fun V hV=>hE.below hV;clear HD yK N zE zB zF y yB b0 hE
 gi_wp2_with fail
 rw[←yL.o];clear yL;have Q:∀(b:Nat) (T:TypeId) (v:Value),b<t.heap.size->Co t.heap.size (fun _ V=>Boxed V b T v):=fun b T v A=>CV (.cells #[v] T) A;refine GY (gf:=gf) (pre:=pre) (lb:=lb) rfl eg (xs:=xs) (n0:=w.heap.size) (yI t zK) zK.size rfl
  (fun k V=>Zz w V/\Boxed V w.heap.size 3 (Zg wd)/\Boxed V (w.heap.size+1) 146 (.pointer none)/\Boxed V (w.heap.size+1+1) 3 Zf/\Boxed V f.heap.size 146 (Yz d)/\Boxed V (f.heap.size+1) 3 (Zg k)/\∃r O P L,Dt wd r0 (xs.take k) r/\Dr V w.heap.size d m O P L wd r.now r.given r.ae r.ks r.ps r.ls)
  (fun _ V=>Zz w V/\∃n:Nat,Gi wd xs n/\Boxed V (w.heap.size+1) 146 (.pointer none)/\Boxed V (w.heap.size+1+1) 3 (Zg n))
  ?stI ?stX ⟨zK,x2,x4,x5,x6,x7,r0,O,P,L,rfl,yU⟩
  (fun s=>{tmps:= #[Zg wd,.func (.func gf) pre lb,Yz w.heap.size,undef,Yz (w.heap.size+1),Yz (w.heap.size+1+1),Yz f.heap.size,Yz (f.heap.size+1),.string s,undef,undef,Zg wd,.agg #[Zg wd,Zf,Zf,Zf,Zc,Zc,Zc],Yz d,.func (.func gf) pre lb,.string s,undef,undef,undef,undef,undef,undef,undef,undef,undef,undef,undef,undef,undef,undef,undef,undef,undef,undef,undef],defers:=[]}) ?assign ?body ?done ?stop
 case stI=>
  refine fun k V S row hJ C M=> ?_;obtain⟨q1,q2,q3,q4,q5,q6,r,O,P,L,q7,q8⟩:=hJ;exact⟨DH w (Zx) zK.size k V S row q1 C M,Q _ _ _ (by omega) k V S row q2 C M,Q _ _ _ (by omega) k V S row q3 C M,Q _ _ _ (by omega) k V S row q4 C M,Q _ _ _ (by omega) k V S row q5 C M,Q _ _ _ (by omega) k V S row q6 C M,r,O,P,L,q7,q8.fg (B:=t.heap.size) (by omega) (by omega) (by omega) C M⟩
 case stX=>
  refine fun k V S row hJ C M=> ?_;obtain⟨q1,n,q2,q3,q4⟩:=hJ;exact⟨DH w (Zx) zK.size k V S row q1 C M,n,q2,Q _ _ _ (by omega) k V S row q3 C M,Q _ _ _ (by omega) k V S row q4 C M⟩
 case assign=>
  intro l2 m2 s V K hK
  gi_wp2
  exact hK
 case body=>
  rintro l2 m2 k s V zR ⟨zH,y2,y4,y5,y6,y7,r,O,P,L,u,Cj⟩ yR;have yY:k<xs.length:=(Zw zR).1;obtain⟨E,zC⟩:∃E,E=V.setCell (Ze (f.heap.size+1) 0) (Zg ((k:Int)+1)):=⟨_,rfl⟩;have z:V.grownBy E (some (f.heap.size+1)):=by rw[zC];exact grownBy_setCell' V _ _
  have xL:E.heap.size=V.heap.size:=by rw[zC];simp
  have zW:Below w.heap.size w E:=by rw[zC];exact zH.setCell (p:=⟨f.heap.size+1,0,none⟩) (by show w.heap.size<=f.heap.size+1;omega) _
  have u7:Boxed E (f.heap.size+1) 3 (Zg ((k:Int)+1)):=by rw[zC];exact y7.set _
  have ou:∀{b:Nat} {T:TypeId} {v:Value},Boxed V b T v->b≠f.heap.size+1->Boxed E b T v:=fun {b T v} A hne=>(z.block b (Array.getElem?_eq_some_iff.1 A).1 (fun e=>hne (Option.some.inj e))).trans A;have u2:=ou y2 (by omega);have u4:=ou y4 (by omega);have u5:=ou y5 (by omega);have u6:=ou y6 (by omega)
  have zU:=Cj.fg (B:=f.heap.size) yD yE (by omega) z (fun q e=>by cases e;exact⟨by omega,_,y7,by simp[Bu]⟩);have HR:=Yx (Rb s wd E (hs s (Zs zR)) (HE.o E zW));have c7:=y7.cell;have f7:=y7.frozen;have c2:=y2.cell;have xF:¬w.heap.size=f.heap.size+1:=by omega
  have yJ:=Yx zC;clear zC
  gi_wp2_with fail
  rw[←yJ.o];clear yJ;refine⟨trivial,fun h=>by simp[Fence.wide]at h,?_⟩;refine(callsIn_wide.2 HR.o).mono ?_;rintro e V2 ⟨v,rfl,zZ,y⟩;obtain⟨ra,rc,rfl⟩:=Ar zZ;obtain⟨J,zY⟩:∃J,J=V2.alloc (.cells (Ym ((AF s wd).k) ((AF s wd).sum) ((AF s wd).name) ((AF s wd).n) ((AF s wd).t) ra ((AF s wd).ss.length) rc) 67):=⟨_,rfl⟩;have zT:=(AJ zY).1;have zG:Below E.heap.size E J:=y.trans (zT.mono y.size)
  have zJ:Below w.heap.size w J:=zW.trans (zG.mono zW.size);have o3:∀{b:Nat} {T:TypeId} {v:Value},Boxed E b T v->Boxed J b T v:=fun {b T v} A=>(zG.block b (Array.getElem?_eq_some_iff.1 A).1).trans A;have t2:=o3 u2;have t4:=o3 u4;have t5:=o3 u5;have t6:=o3 u6;have t7:=o3 u7;have o:=zU.below zG;have e3:=(AJ zY).2.2
  have yG:BA t.heap.size V J:=(BA.ia z (fun j e=>by cases e;omega)).trans (BA.below zG);have yH:Below w.heap.size V J:=(show Below w.heap.size V E from⟨z.os,z.tape,z.output,z.size,fun b A=>z.block b (by have:=zH.size;omega) (fun e=>by have:=Option.some.inj e;omega)⟩).trans (zG.mono zW.size);have yA:=Yx zY;have xK:w.heap.size+3<=V2.heap.size:=by have h1:=y.size;have h2:=yR;omega
  have xJ:f.heap.size+1<V2.heap.size:=by have h1:=y.size;have h2:=yR;omega
  clear zY;cases hok:(AF s wd).ok with
  |false=>
   have zI:Gi wd xs (k+1):=⟨k,r,s,rfl,zR,u,.inl hok⟩;have yT:=t7.cell;have f5:=t5.frozen;have f4:=t4.frozen;have d4:=t4.cell;have d5:=t5.cell;clear c7 c2 f7 e3 HR zZ;have I:=Yx (Qj (B:=t.heap.size) t4 t5 (by omega) (Zg ((k:Int)+1)))
   gi_wp2_with fail
   rw[←yA.o];refine⟨trivial,?_⟩
   gi_wp2_with fail
   gi_region
   all_goals gi_wp2_with fail
   all_goals exact⟨yG.trans ⟨I.o.1.size,I.o.1.same⟩,zJ.trans I.o.2.1.drew,k+1,zI,I.o.2.2.1,I.o.2.2.2⟩
  |true=>
   have yP:=(Hz hok).1;have zS:IV wd r.now r.given r.ae r.ks r.ps r.ls (AF s wd).k (AF s wd).n (AF s wd).t (AF s wd).ss:=FL.gy (u.ok (Ic h1 h8)) yP (by have:=OK yP;unfold maxLen;omega);have yF:=Ag zZ zT;have Z:=zU.cf;have zV:DE J w.heap.size (vB d m O P L) ra (AF s wd).ss:=by
    rcases yF.2 with⟨_,h0⟩|⟨g,xA,yM,hv,xC,C,_⟩
    ·exact .inl (List.eq_nil_of_length_eq_zero h0)
    ·cases hv;refine .inr ⟨g,0,rfl,(Array.getElem?_eq_some_iff.1 C).1,fun F=>by have:=Z g F;omega,.inr ⟨by omega,yM,C⟩,fun i x hx=> ?_⟩;rcases Ad.own yF with h|⟨b',yZ,e',_,hc⟩
     ·rw[h]at hx;simp at hx
     ·cases e';exact hc i x hx
   have HA:Hid _:=Kb d (vB d m O P L) (AF s wd).k (AF s wd).sum (AF s wd).name (AF s wd).t (AF s wd).n ra (AF s wd).ss.length rc (fun c a b=>FI wd r.now r.given r.ae r.ks r.ps r.ls (AF s wd).k (AF s wd).sum (AF s wd).name (AF s wd).n (AF s wd).t (AF s wd).ss c a b) (fun sm le X=>∃r',Eg wd r.now r.given r.ae r.ks r.ps r.ls (AF s wd).k (AF s wd).sum (AF s wd).name (AF s wd).n (AF s wd).t (AF s wd).ss r'/\r'.sm=sm/\r'.le=le/\IW w.heap.size d m wd r' X) J o.cf (fun sm le X X' R yM q1 q2 q3 q4=>by
    obtain⟨r',z,g2,g3,g4⟩:=q1;have xH:=zG.size;exact⟨r',z,g2,g3,g4.stays q2 (by omega) (by omega) q4⟩) (fun X hX=>Lu w.heap.size d m O P L wd r.now r.given r.ae r.ks r.ps r.ls (AF s wd).k (AF s wd).sum (AF s wd).name (AF s wd).n (AF s wd).t (AF s wd).ss ra rc X (DU.below ⟨o⟩ hX) zS (zV.move (U:=[]) (Tn.of hX) (by simp) (fun b A=> .inl A)))
   have d6:V2.cell? (Ze (f.heap.size) 0)=some (Yz d):=(y.cell (p:=⟨f.heap.size,0,none⟩) (by show f.heap.size<_;omega)).trans u6.cell;have xI:f.heap.size<V2.heap.size:=by omega
   have yS:Hid (xs.take (k+1)=xs.take k++[s]):=by have hq:=Zu yY;rw[(Zw zR).2]at hq;exact hq
   clear c7 c2 f7 HR zZ yF zV zS Z e3
   gi_wp2_with fail
   rw[←yA.o];clear yA;refine⟨trivial,fun h=>by simp[Fence.wide]at h,?_⟩;refine(callsIn_wide.2 HA.o).mono ?_;intro e Y yV;obtain⟨c,a',b',zP,rfl,G⟩|⟨sm,le,rfl,⟨r',hy,_,_,⟨O',P',L',yN⟩⟩,G⟩:=yV
   ·have xE:(c !=0)=true:=by have:=zP.code;simp;omega
    have zI:Gi wd xs (k+1):=⟨k,r,s,rfl,zR,u,.inr ⟨c,a',b',zP⟩⟩;have H:=o.fw (B:=f.heap.size) yD yE G;have zO:Below w.heap.size J Y:=G.below zJ.size (fun b F=>by
     have:=o;unfold vB at F;simp only[List.mem_cons,List.mem_append,Option.mem_toList]at F;rcases F with h|h|h|h|h
     ·rw[h];exact this.bd
     ·rw[h];exact this.bm
     ·exact(Ac this.ord h).1
     ·exact(Ac this.cl h).1
     ·exact(Ac this.ci h).1)
    have s7:Boxed Y (f.heap.size+1) 3 (Zg ((k:Int)+1)):=H.same _ _ (by omega) t7 (by simp[Bu]);have s4:Boxed Y (w.heap.size+1) 146 (.pointer none):=(G.block _ (Array.getElem?_eq_some_iff.1 t4).1 (o.bw t4 (by simp[Bu]) (by omega) (by omega)).1).trans t4;have s5:Boxed Y (w.heap.size+1+1) 3 Zf:=(G.block _ (Array.getElem?_eq_some_iff.1 t5).1 (o.bw t5 (by simp[Bu]) (by omega) (by omega)).1).trans t5
    have I:=Yx (Qj (B:=t.heap.size) s4 s5 (by omega) (Zg ((k:Int)+1)));have yT:=s7.cell;have f5:=s5.frozen;have f4:=s4.frozen;have d4:=s4.cell;have d5:=s5.cell;have K4:=Yx (Zn (H.mono (B':=t.heap.size) (by omega)) zO);clear H zO G zP d6 HA;have yX:∀X:Zh,(Instr.field 90 (.agg #[Zg c,Zf,Zf,Zf,Zf,Zc,Zc,Zc,Zd,Zf,.string a',.string b']) 0).run prog X=.ok (Zg c) X:=fun _=>by kernel_rfl
    have yQ:(Ch c a' b').toArray= #[Zg c,Zf,Zf,Zf,Zf,Zc,Zc,Zc,Zd,Zf,.string a',.string b']:=rfl;rw[yQ];clear yQ
    gi_wp2_with fail
    gi_region
    all_goals gi_wp2_with fail
    all_goals exact⟨(yG.trans K4.o.1).trans ⟨I.o.1.size,I.o.1.same⟩,(zJ.trans K4.o.2).trans I.o.2.1.drew,k+1,zI,I.o.2.2.1,I.o.2.2.2⟩
   ·have H:=o.fw (B:=f.heap.size) yD yE G;have zO:Below w.heap.size J Y:=G.below zJ.size (fun b F=>by
     have:=o;unfold vB at F;simp only[List.mem_cons,List.mem_append,Option.mem_toList]at F;rcases F with h|h|h|h|h
     ·rw[h];exact this.bd
     ·rw[h];exact this.bm
     ·exact(Ac this.ord h).1
     ·exact(Ac this.cl h).1
     ·exact(Ac this.ci h).1)
    have s7:Boxed Y (f.heap.size+1) 3 (Zg ((k:Int)+1)):=H.same _ _ (by omega) t7 (by simp[Bu]);have s6:Boxed Y f.heap.size 146 (Yz d):=H.same _ _ (by omega) t6 (by simp[Bu]);have s2:Boxed Y w.heap.size 3 (Zg wd):=(G.block _ (Array.getElem?_eq_some_iff.1 t2).1 (o.bw t2 (by simp[Bu]) (by omega) (by omega)).1).trans t2
    have s4:Boxed Y (w.heap.size+1) 146 (.pointer none):=(G.block _ (Array.getElem?_eq_some_iff.1 t4).1 (o.bw t4 (by simp[Bu]) (by omega) (by omega)).1).trans t4;have s5:Boxed Y (w.heap.size+1+1) 3 Zf:=(G.block _ (Array.getElem?_eq_some_iff.1 t5).1 (o.bw t5 (by simp[Bu]) (by omega) (by omega)).1).trans t5;have zA:Dt wd r0 (xs.take (k+1)) r':=by rw[yS.o];exact u.snoc ⟨hok,hy⟩
    have K4:=Yx (Zn (H.mono (B':=t.heap.size) (by omega)) zO);have HF:=Yx (Zn s7 (Zn s6 (Zn s2 (Zn s4 (Zn s5 (Zn zA yN))))));clear H zO G d6 HA s7 s6 s2 s4 s5 zA yN hy;have yX:∀X:Zh,(Instr.field 90 (.agg #[Zf,Zf,Zf,Zf,Zf,Zc,Zc,Zc,.string sm,Zg le,Zd,Zd]) 0).run prog X=.ok Zf X:=fun _=>by kernel_rfl
    gi_wp2_with fail
    exact⟨yG.trans K4.o.1,⟨zJ.trans K4.o.2,HF.o.2.2.1,HF.o.2.2.2.1,HF.o.2.2.2.2.1,HF.o.2.1,HF.o.1,r',O',P',L',HF.o.2.2.2.2.2.1,HF.o.2.2.2.2.2.2⟩,yH.trans K4.o.2⟩
 case done=>
  rintro D V hD ⟨zH,y2,y4,y5,y6,y7,r,O,P,L,u,Cj⟩ hK;rw[Zt (Zx)]at u;have c6:=y6.cell;have f4:=y4.frozen;have d4:=y4.cell;have f5:=y5.frozen;have d5:=y5.cell;have z:=grownBy_setCell' V (w.heap.size+1) (Yz d);have g2:=grownBy_setCell' (V.setCell (Ze (w.heap.size+1) 0) (Yz d)) (w.heap.size+1+1) Zf;obtain⟨R1,zM⟩:∃R,R=V.setCell (Ze (w.heap.size+1) 0) (Yz d):=⟨_,rfl⟩
  obtain⟨R2,zN⟩:∃R,R=R1.setCell (Ze (w.heap.size+1+1) 0) Zf:=⟨_,rfl⟩;rw[←zM]at z g2;rw[←zN]at g2;have p4:Boxed R1 (w.heap.size+1) 146 (Yz d):=by rw[zM];exact y4.set _
  have p5:Boxed R1 (w.heap.size+1+1) 3 Zf:=(z.block _ (Array.getElem?_eq_some_iff.1 y5).1 (fun e=>by have:=Option.some.inj e;omega)).trans y5;have q5:Boxed R2 (w.heap.size+1+1) 3 Zf:=by rw[zN];exact p5.set _
  have q4:Boxed R2 (w.heap.size+1) 146 (Yz d):=(g2.block _ (Array.getElem?_eq_some_iff.1 p4).1 (fun e=>by have:=Option.some.inj e;omega)).trans p4
  have zX:R2.heap[D]?=some (.deferred (some [])):=(g2.block _ (by have:=z.size;have:=(Array.getElem?_eq_some_iff.1 hK).1;omega) (fun e=>by have:=Option.some.inj e;omega)).trans ((z.block _ (Array.getElem?_eq_some_iff.1 hK).1 (fun e=>by have:=Option.some.inj e;omega)).trans hK);have yC:=DU.al ⟨Cj⟩ (CG z) (fun b A=>by
   obtain rfl:b=w.heap.size+1:=by simpa using A
   exact⟨by omega,Cj.bw y4 (by simp[Bu]) (by omega) (by omega)⟩)
  have yO:=DU.al yC (CG g2) (fun b A=>by
   obtain rfl:b=w.heap.size+1+1:=by simpa using A
   exact⟨by omega,yC.dr.bw p5 (by simp[Bu]) (by omega) (by omega)⟩)
  have yW:=yO.dr.fg (B:=t.heap.size) (by omega) (by omega) (by omega) (grownBy_putObj' R2 D (.deferred none)) (fun r e=>by cases e;exact⟨hD,_,zX,rfl⟩);have e4:=cell_kept q4.cell (grownBy_putObj' _ D (.deferred none)) (fun r e=>by cases e;exact⟨_,zX,rfl⟩);have e5:=cell_kept q5.cell (grownBy_putObj' _ D (.deferred none)) (fun r e=>by cases e;exact⟨_,zX,rfl⟩)
  have bR:Below w.heap.size w R2:=by rw[zN,zM];exact(zH.setCell (p:=⟨w.heap.size+1,0,none⟩) (by show _<=_+1;omega) _).setCell (p:=⟨w.heap.size+1+1,0,none⟩) (by show _<=_+1+1;omega) _
  have HR:=Yx (Zn zM zN);clear z g2 zM zN p4 p5 q4 q5 yC yO Cj
  gi_wp2_with fail
  rw[←HR.o.1,←HR.o.2];refine⟨by simp,.inl ⟨_,_,rfl,run_takeDeferred zX,?_⟩⟩;refine⟨.tuple #[Yz d,Zf],by simp[results,results97,go_sem,e4,e5],?_,.inr ⟨r,d,m,O,P,L,w.heap.size,u,rfl,yW,Zx,by omega⟩⟩;exact bR.trans ⟨rfl,rfl,rfl,by simp,fun i hi=>World.putObj_heap_other (by omega)⟩
 case stop=>
  rintro D k V hD ⟨zH,n,zP,y4,y5⟩ hK;have d4:=cell_kept y4.cell (grownBy_putObj' _ D (.deferred none)) (fun r e=>by cases e;exact⟨_,hK,rfl⟩);have d5:=cell_kept y5.cell (grownBy_putObj' _ D (.deferred none)) (fun r e=>by cases e;exact⟨_,hK,rfl⟩)
  gi_wp2
  refine⟨by simp,.inl ⟨_,_,rfl,run_takeDeferred hK,?_⟩⟩;refine⟨.tuple #[.pointer none,Zg n],by simp[results,results97,go_sem,d4,d5],?_,.inl ⟨n,zP,rfl⟩⟩;exact zH.trans ⟨rfl,rfl,rfl,by simp,fun i hi=>World.putObj_heap_other (by omega)⟩
end
def Aag(wd:Int)(xs:Zl)(w:Zh)(e:Ending)(w':Zh):Prop:=
 ∃(x:An) (T P L:Value) (rs:Zj),VR wd xs x/\e=.returned (.agg #[Zg x.code,Zg x.wd,Zg x.now,Zg x.given,Zg x.ae,T,P,L,.string x.sm,Zg x.le,.string x.a,.string x.b])/\AV w' w.heap.size T P L rs x.ks x.ps x.ls/\Zz w w'
theorem MN{w:Zh}{b:Nat}{d e f g i j k l m n a c:Value}(h:Aa w b [d,e,f,g,i,j,k,l,m,n,a,c]):(w.cell? (Ze b 0)=some d/\w.frozen? ⟨b,0,none⟩=false)/\(w.cell? (Ze b 1)=some e/\w.frozen? ⟨b,1,none⟩=false)/\(w.cell? (Ze b 2)=some f/\w.frozen? ⟨b,2,none⟩=false)/\(w.cell? (Ze b 3)=some g/\w.frozen? ⟨b,3,none⟩=false)/\(w.cell? (Ze b 4)=some i/\w.frozen? ⟨b,4,none⟩=false)/\(w.cell? (Ze b 5)=some j/\w.frozen? ⟨b,5,none⟩=false)/\(w.cell? (Ze b 6)=some k/\w.frozen? ⟨b,6,none⟩=false)/\(w.cell? (Ze b 7)=some l/\w.frozen? ⟨b,7,none⟩=false)/\(w.cell? (Ze b 8)=some m/\w.frozen? ⟨b,8,none⟩=false)/\(w.cell? (Ze b 9)=some n/\w.frozen? ⟨b,9,none⟩=false)/\(w.cell? (Ze b 10)=some a/\w.frozen? ⟨b,10,none⟩=false)/\w.cell? (Ze b 11)=some c/\w.frozen? ⟨b,11,none⟩=false:=
 ⟨h 0 _ rfl,h 1 _ rfl,h 2 _ rfl,h 3 _ rfl,h 4 _ rfl,h 5 _ rfl,h 6 _ rfl,h 7 _ rfl,h 8 _ rfl,h 9 _ rfl,h 10 _ rfl,h 11 _ rfl⟩
theorem c6{w:Zh}{b:Nat}{a c d e f g:Value}(h:Aa w b [a,c,d,e,f,g]):(w.cell? (Ze b 0)=some a/\w.frozen? ⟨b,0,none⟩=false)/\(w.cell? (Ze b 1)=some c/\w.frozen? ⟨b,1,none⟩=false)/\(w.cell? (Ze b 2)=some d/\w.frozen? ⟨b,2,none⟩=false)/\(w.cell? (Ze b 3)=some e/\w.frozen? ⟨b,3,none⟩=false)/\(w.cell? (Ze b 4)=some f/\w.frozen? ⟨b,4,none⟩=false)/\w.cell? (Ze b 5)=some g/\w.frozen? ⟨b,5,none⟩=false:=
 ⟨h 0 _ rfl,h 1 _ rfl,h 2 _ rfl,h 3 _ rfl,h 4 _ rfl,h 5 _ rfl⟩
def RdS(n:Nat)(w:Zh)(ta pa la:Zk)(ks:List Kd)(ps:List Pd)(ls:List Ld):Prop:=∀V w',(∀b∈V,b<n)->Tn V w w'->BJ w' w'.heap.size ta pa la ks ps ls
theorem AV.rdS{w:Zh}{base:Nat}{c b a:Zk}{n l k:Nat}{m:Zj}{ks:List Kd}{ps:List Pd}{ls:List Ld}(h:AV w base (.slice c ks.length n) (.slice b ps.length l) (.slice a ls.length k) m ks ps ls):RdS base w c b a ks ps ls:=fun V o g j=>by obtain⟨_,_,_,_,_,_,d,e,f,i⟩:=(h.al j g).rows;cases d;cases e;cases f;exact i
theorem AV.get{w:Zh}{base:Nat}{c b a:Zk}{g e d:Nat}{f:Zj}{ks:List Kd}{ps:List Pd}{ls:List Ld}(h:AV w base (.slice c ks.length g) (.slice b ps.length e) (.slice a ls.length d) f ks ps ls):BJ w w.heap.size c b a ks ps ls:=
 h.rdS [] w (by simp) (Tn.of (Below.refl _ _))
theorem Aa.fb{w:Zh}{B:Nat}(a c d:Zj)(h:Aa w B (a++(c++d))):w.rangeAt B a.length c:=fun j v b=>by refine(h (a.length+j) v ?_).1;rw[List.getElem?_append_right (by omega),Nat.add_sub_cancel_left,List.getElem?_append_left (Zw b).1];exact b
theorem RL(n:Int)(w:Zh):
 Calls prog 95 #[Zg n] w fun e a=>e=.returned (.bool (decide (0<=n/\n<=1000000)))/\a=w:=by
 by_cases h1:0<=n
 ·by_cases h2:n<=1000000
  ·go_enter func95,ntmps95;go_wp2;go_ret;exact⟨Av (by simp[h1,h2]),rfl⟩
  ·have c:decide (n<=1000000)=false:=by simpa using h2
   go_enter func95,ntmps95;go_wp2;go_ret;exact⟨rfl,rfl⟩
 ·have b:decide (0<=n)=false:=by simpa using h1
  go_enter func95,ntmps95;go_wp2;go_ret;exact⟨rfl,rfl⟩
structure Ma (w:Zh) (lo k d m base:Nat) (O P L:Value) (v:Vd) (a:Va) (r:Rs):Prop where
 box:Aa w k [.int .i32 0,.int .u32 0,Zg v.wd,Zg v.aj,.slice a.sa v.ss.length a.sc,.slice a.ta v.tt.length a.tc,Zg v.sw,Zg v.now,Zg v.given,Zg v.ae,.slice a.ka v.ks.length a.kc,.slice a.pa v.ps.length a.pc,.slice a.la v.ls.length a.lc,Zg v.ph,.slice a.qa v.qs.length a.qc,.slice a.ma v.ms.length a.mc,Zg v.ag,Zg v.at_,Zg v.ro,.pointer (some ⟨d,0,none⟩)]
 dr:Dr w base d m O P L v.wd r.now r.given r.ae r.ks r.ps r.ls
 du:lo<=base
 fq:lo<=k
 lt:∀b∈vB d m O P L,b<k
 db:base+4<=m
 ty:∃cur,w.heap[k]?=some (.cells cur 171)
def ZX(w w':Zh)(v:Vd)(p:Value)(n:Int):Prop:=
 (∃k:Nat,Gi v.wd (v.ss++v.tt) k/\p=.pointer none/\n=k)∨(∃r d m O P L base,Dt v.wd r0 (v.ss++v.tt) r/\p=.pointer (some ⟨d,0,none⟩)/\n=0/\Dr w' base d m O P L v.wd r.now r.given r.ae r.ks r.ps r.ls/\(w.heap.size<=base/\base+4<=m))
theorem RM(v:Vd)(a:Va)(w:Zh)(hr:Cc w w.heap.size a v)(hf:Cy v)(hE:Env w):
 Calls prog 52 #[.agg (Yg v a)] w fun e l=>Zz w l/\((¬DR v/\e=.returned (.tuple #[.pointer none,.bool false]))∨(∃r k d m O P L base,CZ v r/\e=.returned (.tuple #[Yz k,.bool true])/\Ma l w.heap.size k d m base O P L v a r)):=by
 obtain⟨W,hW⟩:∃W,W=w.alloc (.cells (Yg v a) 46):=⟨_,rfl⟩;have bW:=(AJ hW).1;have zW:=(AJ hW).2.1;have xW:=(AJ hW).2.2;have HX:Hid (Aa W _ _):=(AJ hW).2.2;have HR:=Yx hr;have HW:=Yx hW;have zE:=Yx (Qy v.wd W);have zH:=Yx (RL v.aj W);have zK:=Yx (Gt a.sa a.ta a.sc a.tc v.ss v.tt W (hr.s.af bW) (hr.t.af bW) hf.s hf.t hf.ss hf.tt);obtain⟨N,Q,R,U,y4,y5,y6,y7,y8,y9,q,t,x,y,z,A,B⟩:=FK xW;clear hW xW hr
 by_cases hwd:1<=v.wd/\v.wd<=8
 ·rw[decide_eq_true hwd]at zE;by_cases hlim:0<=v.aj/\v.aj<=1000000
  ·rw[decide_eq_true hlim]at zH;cases hlog:DA v.ss v.tt with
   |true=>
    rw[hlog]at zK;have yK:=IM hlog;have xA:v.ss.length<=4000:=by rw[List.length_append]at yK;omega
    have xB:v.tt.length<=4000:=by rw[List.length_append]at yK;omega
    have HD:Hid (∀X,Calls prog 98 #[.agg #[.slice a.sa v.ss.length a.sc,.slice a.ta v.tt.length a.tc]] X fun e l=>e=.returned (.agg #[.slice a.sa v.ss.length a.sc,.slice a.ta v.tt.length a.tc])/\Zz X l):=fun X=>GF a.sa a.ta v.ss.length v.tt.length a.sc a.tc X
    have HP:Hid (∀X,Zz w X->Calls prog 97 #[Zg v.wd,.func (.func 99) #[.agg #[.slice a.sa v.ss.length a.sc,.slice a.ta v.tt.length a.tc]] #[]] X fun e l=>∃p n,e=.returned (.tuple #[p,Zg n])/\Hid (ZX X l v p n)/\Zz X l):=fun X f=>by
     refine(RK v.wd 99 #[.agg #[.slice a.sa v.ss.length a.sc,.slice a.ta v.tt.length a.tc]] #[] (v.ss++v.tt) X hwd.1 hwd.2 (by omega) (fun s hs=>by rcases List.mem_append.1 hs with h|h;exact hf.ss s h;exact hf.tt s h) (hE.below f) (enters_of func99 (by kernel_rfl) rfl) (fun V hV=>by
      have hb:=f.trans (hV.mono f.size);have h1:=NW a.sa a.ta a.sc a.tc v.ss v.tt X.heap.size V ((HR.o.s.below hb).mono f.size) ((HR.o.t.below hb).mono f.size) hV.size (by unfold maxLen;omega) (by unfold maxLen;omega);simpa using h1)).mono ?_
     rintro e l ⟨hb,⟨n,zP,rfl⟩|⟨r,d,m,O,P,L,base,G,rfl,Cj,o⟩⟩
     ·exact⟨_,_,rfl,.inl ⟨n,zP,rfl,rfl⟩,hb⟩
     ·exact⟨_,_,rfl,.inr ⟨r,d,m,O,P,L,base,G,rfl,rfl,Cj,o⟩,hb⟩
    clear hE;go_enter func52,ntmps52;go_wp2_with fail;rw[←HW.o];refine Calls.mono zE.o ?_;rintro e w1 ⟨rfl,c⟩;replace c:=c.symm;subst c;go_wp2_with fail;refine Calls.mono zH.o ?_;rintro e w1 ⟨rfl,c⟩;replace c:=c.symm;subst c;go_wp2_with fail;refine Calls.mono zK.o ?_;rintro e w2 ⟨rfl,zI⟩;have x2:=Aa.below HX.o zI;have z2:w.heap.size+1<=w2.heap.size:=by have:=zI.size;omega
    have yH:=Yx x2;have zT:=Yx (bW.trans (zI.mono bW.size));clear N Q R U y4 y5 y6 y7 y8 y9 q t x y z A B zE zH zK zI HW;obtain⟨N,Q,R,U,_⟩:=FK x2;clear x2;go_upto_region 3 with fail;generalize (.agg (Yg v a):Value)=dv0;go_cut [4,5] (fun p u wx=>∃n:Int,u=Zg n/\Hid (ZX w wx v p n/\Zz w2 wx))
    case first=>
     go_region_with (first
      |(go_at_call 98;refine(HD.o w2.drew).mono ?_;rintro e w3 ⟨rfl,yQ⟩;have zU:Below w2.heap.size w2 w3:=(Below.refl w2.heap.size w2).drew.trans yQ;obtain⟨u0,u1,u2,u3,_⟩:=FK (Aa.below yH.o zU);have yJ:=zT.o.trans (zU.mono zT.o.size))
      |(go_at_call 97;refine(HP.o w3 yJ).mono ?_;rintro e w4 ⟨p,n,rfl,yO,yR⟩;have yM:=zU.trans (yR.mono zU.size)))
     all_goals
      go_wp2_with fail;go_meet;refine⟨n,rfl,?_,yM⟩;rcases yO.o with h|⟨r,d,m,O,P,L,base,q1,q2,q3,q4,q5⟩
      ·exact .inl h
      ·exact .inr ⟨r,d,m,O,P,L,base,q1,q2,q3,q4,Zm yJ.size q5.1,q5.2⟩
    case rest=>
     clear N Q R U HD HP;obtain⟨n,rfl,HQ⟩:=hcut;have yI:=Yx (Aa.below yH.o HQ.o.2);have H:=Yx (zT.o.trans (HQ.o.2.mono zT.o.size));rcases HQ.o.1 with⟨k,zP,hp,hn⟩|⟨r,d,m,O,P,L,base,G,hp,hn,Cj,o⟩
     ·subst hp hn;have xC:0<(k:Int):=by obtain⟨j,_,_,rfl,_⟩:=zP;omega
      have yP:0<k:=by omega
      have xD:=decide_eq_true yP;have zM:Hid (¬DR v):=fun⟨r,h⟩=>Gi.not hwd.1 hwd.2 zP h.run;clear zP HQ;go_upto_region 4 with fail
      go_region
      all_goals go_wp2
      all_goals refine bodyPost_ret (v:=.tuple #[.pointer none,.bool false]) (by simp[results,results52,go_sem]) rfl ?_
      all_goals exact⟨H.o.drew,.inl ⟨zM.o,rfl⟩⟩
     ·subst hp hn;have i:=G.ok (Ic hwd.1 hwd.2);have zJ:=Yx G;have zY:Hid (∀X,Zz wc X->Dr X base d m O P L v.wd r.now r.given r.ae r.ks r.ps r.ls):=fun X f=>Cj.below f;have zG:=Yx o
      have yB:Hid (∀X,Zz wc X->Calls prog 101 #[Yz d] X fun e l=>∃(E:Zk) (M:Nat) (D:Zk) (J:Nat) (C:Zk) (I:Nat),e=.returned (.agg (Ys v.wd r.now r.given r.ae E r.ks.length M D r.ps.length J C r.ls.length I))/\BJ l l.heap.size E D C r.ks r.ps r.ls/\Zz X l):=fun X f=>by refine(Jg base d m O P L v.wd r.now r.given r.ae r.ks r.ps r.ls X (Cj.below f) i.bn.nd i.bn.sz i.bn.len i.np i.nl i.dt).mono ?_;rintro e l ⟨T,P',L',rs,rfl,hS,hb⟩;obtain⟨E,M,D,J,C,I,rfl,rfl,rfl,hg⟩:=hS.rows;exact⟨E,M,D,J,C,I,rfl,hg,hb⟩
      have yA:Hid (∀(X:Zh) (E D C:Zk) (M J I:Nat),Zz w X->BJ X X.heap.size E D C r.ks r.ps r.ls->Calls prog 100 #[.agg (Ys v.wd r.now r.given r.ae E r.ks.length M D r.ps.length J C r.ls.length I),.agg (Ys v.sw v.now v.given v.ae a.ka v.ks.length a.kc a.pa v.ps.length a.pc a.la v.ls.length a.lc)] X fun e l=>Ap ((v.wd=v.sw/\r.now=v.now/\r.given=v.given/\r.ae=v.ae)/\r.ks=v.ks/\r.ps=v.ps/\r.ls=v.ls) X l e):=fun X E D C M J I f hS=>Nf v.wd r.now r.given r.ae v.sw v.now v.given v.ae E D C a.ka a.pa a.la M J I a.kc a.pc a.lc r.ks v.ks r.ps v.ps r.ls v.ls X hS ((HR.o.st.ak f).mono f.size) ⟨by have:=i.bn.len;omega,by have:=i.np;omega,by have:=i.nl;omega⟩ ⟨hf.st.k,hf.st.p,hf.st.l⟩ (fun k hk=>by have:=i.dt k hk;omega) hf.st.r
      have yG:Hid (∀X,Zz w X->Calls prog 102 #[.agg (Yr v.ph a.qa v.qs.length a.qc a.ma v.ms.length a.mc v.ag v.at_ v.ro),Zg v.wd,Zg r.ae] X fun e l=>Ap (AX v.wd r.ae v.ph v.ag v.at_ v.ro v.qs v.ms) X l e):=fun X f=>LL v.ph v.ag v.at_ v.ro v.wd r.ae a.qa a.ma a.qc a.mc v.qs v.ms X (HR.o.q.af f) (HR.o.m.af f) hf.r hwd.2 i.ah;clear G Cj o i HQ
      obtain⟨N,Q,R,U,y4,y5,y6,y7,y8,y9,q,t,x,y,z,A,B⟩:=FK yI.o;have zX:Hid (∀X,Zz wc X->Aa X w.heap.size (Ye v a)):=fun X f=>Aa.below yI.o f
      have Z:Hid (∀X,Zz wc X->X.cell? (Ze (w.heap.size) 4)=some (Zg v.sw)/\X.cell? (Ze (w.heap.size) 5)=some (Zg v.now)/\X.cell? (Ze (w.heap.size) 6)=some (Zg v.given)/\X.cell? (Ze (w.heap.size) 7)=some (Zg v.ae)/\X.cell? (Ze (w.heap.size) 8)=some (.slice a.ka v.ks.length a.kc)/\X.cell? (Ze (w.heap.size) 9)=some (.slice a.pa v.ps.length a.pc)/\X.cell? (Ze (w.heap.size) 10)=some (.slice a.la v.ls.length a.lc)/\X.cell? (Ze (w.heap.size) 11)=some (Zg v.ph)/\X.cell? (Ze (w.heap.size) 12)=some (.slice a.qa v.qs.length a.qc)/\X.cell? (Ze (w.heap.size) 13)=some (.slice a.ma v.ms.length a.mc)/\X.cell? (Ze (w.heap.size) 14)=some (Zg v.ag)/\X.cell? (Ze (w.heap.size) 15)=some (Zg v.at_)/\X.cell? (Ze (w.heap.size) 16)=some (Zg v.ro)/\X.cell? (Ze d 0)=some (Zg v.wd)/\X.cell? (Ze d 4)=some (Zg r.ae)):=fun X f=>by
       obtain⟨n0,n1,n2,n3,n4,n5,n6,n7,n8,n9,yS,yT,yU,yV,yW,yX,yY⟩:=FK (zX.o X f);exact⟨n4,n5,n6,n7,n8,n9,yS,yT,yU,yV,yW,yX,yY,((zY.o X f).box 0 _ rfl).1,((zY.o X f).box 4 _ rfl).1⟩
      have HL:Hid (∀X,Zz wc X->Zz w X):=fun X f=>H.o.trans (f.mono H.o.size);have D0:Below wc.heap.size wc wc.drew:=(Below.refl _ _).drew;by_cases hP:(v.wd=v.sw/\r.now=v.now/\r.given=v.given/\r.ae=v.ae)/\r.ks=v.ks/\r.ps=v.ps/\r.ls=v.ls
      ·by_cases hQ:AX v.wd r.ae v.ph v.ag v.at_ v.ro v.qs v.ms
       ·have yL:Hid (CZ v r):=⟨hwd,hlim,hlog,zJ.o,hP,hP.1.2.2.2▸hQ⟩;have zN:=Yx hP;have zZ:=Yx hQ;clear hP hQ;go_upto_region 4 with fail;generalize (.agg (Yg v a):Value)=dv0;go_cut [56] (fun u wx=>u=.bool false/\Hid (Zz wc wx))
        case first=>
         clear N Q R U y4 y5 y6 y7 y8 y9 q t x y z A B
         go_region_held3 (fun X=>X.cell? (Ze (w.heap.size) 4)=some (Zg v.sw)/\X.cell? (Ze (w.heap.size) 5)=some (Zg v.now)/\X.cell? (Ze (w.heap.size) 6)=some (Zg v.given)/\X.cell? (Ze (w.heap.size) 7)=some (Zg v.ae)/\X.cell? (Ze (w.heap.size) 8)=some (.slice a.ka v.ks.length a.kc)/\X.cell? (Ze (w.heap.size) 9)=some (.slice a.pa v.ps.length a.pc)/\X.cell? (Ze (w.heap.size) 10)=some (.slice a.la v.ls.length a.lc)/\X.cell? (Ze (w.heap.size) 11)=some (Zg v.ph)/\X.cell? (Ze (w.heap.size) 12)=some (.slice a.qa v.qs.length a.qc)/\X.cell? (Ze (w.heap.size) 13)=some (.slice a.ma v.ms.length a.mc)/\X.cell? (Ze (w.heap.size) 14)=some (Zg v.ag)/\X.cell? (Ze (w.heap.size) 15)=some (Zg v.at_)/\X.cell? (Ze (w.heap.size) 16)=some (Zg v.ro)/\X.cell? (Ze d 0)=some (Zg v.wd)/\X.cell? (Ze d 4)=some (Zg r.ae))
          (first
            |with_reducible exact Z.o _ D0
            |with_reducible exact Z.o _ F
            |with_reducible exact Z.o _ Y
            |with_reducible exact Z.o _ B7)
          (first
            |(go_at_call 101;refine Calls.mono (yB.o wc.drew D0) ?_;rintro e w5 ⟨E,M,D,J,C,I,rfl,zA,zR⟩;have F:Below wc.heap.size wc w5:=D0.trans zR)
            |(go_at_call 100;refine Calls.mono (yA.o w5 E D C M J I (HL.o _ F) zA) ?_;rintro e w6 ⟨bb,rfl,zB,zS⟩;have Y:=F.trans (zS.mono F.size);clear zA;obtain rfl:bb=true:=zB.2 zN.o;clear zB)
            |(go_at_call 102;refine Calls.mono (yG.o w6 (HL.o _ Y)) ?_;rintro e w7 ⟨cc,rfl,zO,yD⟩;have B7:=Y.trans (yD.mono Y.size);obtain rfl:cc=true:=zO.2 zZ.o;clear zO))
         all_goals (go_wp2_with fail;go_meet;exact⟨rfl,B7⟩)
        case rest=>
         clear N Q R U y4 y5 y6 y7 y8 y9 q t x y z A B;obtain⟨rfl,zC⟩:=hcut;have zF:Below w.heap.size w _:=H.o.trans (zC.o.mono H.o.size);have yE:=Yx ((zX.o _ zC.o).range);have yF:=Yx (zY.o _ zC.o);go_wp2_with (refine wpList_load_mid rfl 46 _ rfl w.heap.size 0 rfl (Ye v a) _ yE.o underlying46 rfl (by kernel_rfl) ?_)
         refine bodyPost_ret (v:=.tuple #[Yz wc.heap.size,.bool true]) (by simp[results,results52,go_sem]) rfl ?_
         refine⟨zF.alloc zF.size _,.inr ⟨r,_,d,m,O,P,L,base,yL.o,rfl,Aa.new _ [.int .i32 0,.int .u32 0,Zg v.wd,Zg v.aj,.slice a.sa v.ss.length a.sc,.slice a.ta v.tt.length a.tc,Zg v.sw,Zg v.now,Zg v.given,Zg v.ae,.slice a.ka v.ks.length a.kc,.slice a.pa v.ps.length a.pc,.slice a.la v.ls.length a.lc,Zg v.ph,.slice a.qa v.qs.length a.qc,.slice a.ma v.ms.length a.mc,Zg v.ag,Zg v.at_,Zg v.ro,Yz d] 171,(yF.o).below (Zy),zG.o.1,zF.size,fun b hb=>yF.o.cf b hb,zG.o.2,_,heap_alloc_new _ _⟩⟩
       ·have zM:Hid (¬DR v):=fun⟨r',h⟩=>by obtain rfl:=zJ.o.dj h.run;exact hQ (by rw[hP.1.2.2.2];exact h.round)
        have zN:=Yx hP;have zZ:=Yx hQ;clear hP hQ;go_upto_region 4 with fail;generalize (.agg (Yg v a):Value)=dv0;go_cut [56] (fun u wx=>u=.bool true/\Hid (Zz wc wx))
        case first=>
         clear N Q R U y4 y5 y6 y7 y8 y9 q t x y z A B
         go_region_held3 (fun X=>X.cell? (Ze (w.heap.size) 4)=some (Zg v.sw)/\X.cell? (Ze (w.heap.size) 5)=some (Zg v.now)/\X.cell? (Ze (w.heap.size) 6)=some (Zg v.given)/\X.cell? (Ze (w.heap.size) 7)=some (Zg v.ae)/\X.cell? (Ze (w.heap.size) 8)=some (.slice a.ka v.ks.length a.kc)/\X.cell? (Ze (w.heap.size) 9)=some (.slice a.pa v.ps.length a.pc)/\X.cell? (Ze (w.heap.size) 10)=some (.slice a.la v.ls.length a.lc)/\X.cell? (Ze (w.heap.size) 11)=some (Zg v.ph)/\X.cell? (Ze (w.heap.size) 12)=some (.slice a.qa v.qs.length a.qc)/\X.cell? (Ze (w.heap.size) 13)=some (.slice a.ma v.ms.length a.mc)/\X.cell? (Ze (w.heap.size) 14)=some (Zg v.ag)/\X.cell? (Ze (w.heap.size) 15)=some (Zg v.at_)/\X.cell? (Ze (w.heap.size) 16)=some (Zg v.ro)/\X.cell? (Ze d 0)=some (Zg v.wd)/\X.cell? (Ze d 4)=some (Zg r.ae))
          (first
            |with_reducible exact Z.o _ D0
            |with_reducible exact Z.o _ F
            |with_reducible exact Z.o _ Y
            |with_reducible exact Z.o _ B7)
          (first
            |(go_at_call 101;refine Calls.mono (yB.o wc.drew D0) ?_;rintro e w5 ⟨E,M,D,J,C,I,rfl,zA,zR⟩;have F:Below wc.heap.size wc w5:=D0.trans zR)
            |(go_at_call 100;refine Calls.mono (yA.o w5 E D C M J I (HL.o _ F) zA) ?_;rintro e w6 ⟨bb,rfl,zB,zS⟩;have Y:=F.trans (zS.mono F.size);clear zA;obtain rfl:bb=true:=zB.2 zN.o;clear zB)
            |(go_at_call 102;refine Calls.mono (yG.o w6 (HL.o _ Y)) ?_;rintro e w7 ⟨cc,rfl,zO,yD⟩;have B7:=Y.trans (yD.mono Y.size);obtain rfl:cc=false:=(by cases cc with|false=>rfl|true=>exact absurd (zO.1 rfl) zZ.o);clear zO))
         all_goals (go_wp2_with fail;go_meet;exact⟨rfl,B7⟩)
        case rest=>
         clear N Q R U y4 y5 y6 y7 y8 y9 q t x y z A B;obtain⟨rfl,zC⟩:=hcut;have zF:Below w.heap.size w _:=H.o.trans (zC.o.mono H.o.size);go_wp2;refine bodyPost_ret (v:=.tuple #[.pointer none,.bool false]) (by simp[results,results52,go_sem]) rfl ?_;exact⟨zF,.inl ⟨zM.o,rfl⟩⟩
      ·have zM:Hid (¬DR v):=fun⟨r',h⟩=>by obtain rfl:=zJ.o.dj h.run;exact hP h.same
       have zN:=Yx hP;clear hP;go_upto_region 4 with fail;generalize (.agg (Yg v a):Value)=dv0;go_cut [56] (fun u wx=>u=.bool true/\Hid (Zz wc wx))
       case first=>
        clear N Q R U y4 y5 y6 y7 y8 y9 q t x y z A B
        have yC:Hid (∀X,Zz wc X->X.rangeAt w.heap.size 4 (Yt v.sw v.now v.given v.ae a.ka v.ks.length a.kc a.pa v.ps.length a.pc a.la v.ls.length a.lc)):=fun X f=>Aa.fb [Zg v.wd,Zg v.aj,.slice a.sa v.ss.length a.sc,.slice a.ta v.tt.length a.tc] (Yt v.sw v.now v.given v.ae a.ka v.ks.length a.kc a.pa v.ps.length a.pc a.la v.ls.length a.lc) (Yj v.ph a.qa v.qs.length a.qc a.ma v.ms.length a.mc v.ag v.at_ v.ro) (zX.o X f)
        refine wp_region_held_drew (S:=fun X=>X.rangeAt w.heap.size 4 (Yt v.sw v.now v.given v.ae a.ka v.ks.length a.kc a.pa v.ps.length a.pc a.la v.ls.length a.lc)) (by kernel_rfl) (yC.o _ D0) (fun hS=> ?_);refine Br 0 ⟨some 32,.move (.tmp 5),3,AL,#[],none⟩ Zf (by exact hS) ?_;try simp only[Act.put,Zq,Zp,Zo]
        refine Br 1 ⟨some 33,.binOp .gtr 3 (.tmp 32) (.const Zf) 3,4,AL,#[Ai 0],none⟩ (.bool false) (by exact hS) ?_;try simp only[Act.put,Zq,Zp,Zo]
        refine Br 2 ⟨some 34,.move (.tmp 33),4,AL,#[Ai 1],none⟩ (.bool false) (by exact hS) ?_;try simp only[Act.put,Zq,Zp,Zo]
        refine Br 3 ⟨some 35,.move (.tmp 4),146,AL,#[⟨2,.guard⟩],some (2,false)⟩ (Yz d) (by exact hS) ?_;try simp only[Act.put,Zq,Zp,Zo]
        refine Br 5 ⟨some 37,.fieldAddr 46 (.tmp 1) 3,0,AL,#[⟨2,.guard⟩],some (2,false)⟩ (Yy w.heap.size 4) (by exact hS) ?_;try simp only[Act.put,Zq,Zp,Zo]
        refine Di 6 ⟨some 38,.load 43 (.tmp 37),43,AL,#[Ai 5,⟨2,.guard⟩],some (2,false)⟩ (.agg (Ys v.sw v.now v.given v.ae a.ka v.ks.length a.kc a.pa v.ps.length a.pc a.la v.ls.length a.lc)) (by exact yieldsIf_load_mid (by rfl) 43 _ rfl w.heap.size 4 rfl (Yt v.sw v.now v.given v.ae a.ka v.ks.length a.kc a.pa v.ps.length a.pc a.la v.ls.length a.lc) _ (fun X h=>h) underlying43 rfl (by kernel_rfl)) (by exact hS) ?_
        try simp only[Act.put,Zq,Zp,Zo]
        refine AM 4 ⟨some 36,.call {callee:=Callee.value (.func 101),args:= #[.tmp 35],argTypes:= #[146]},43,AL,#[Ai 3,⟨2,.chain⟩,⟨2,.guard⟩],some (2,false)⟩ (fun K hK=> ?_);go_simp;refine Calls.mono (yB.o wc.drew D0) ?_;rintro e w5 ⟨E,M,D,J,C,I,rfl,zA,zR⟩;have F:=D0.trans zR;try go_simp
        refine hK.out _ _ (yC.o w5 F) (fun yZ=> ?_);clear hK K;refine AM 7 ⟨some 39,.call {callee:=Callee.value (.func 100),args:= #[.tmp 36,.tmp 38],argTypes:= #[43,43]},4,AL,#[Ai 4,Ai 6,⟨4,.chain⟩,⟨2,.guard⟩],some (2,false)⟩ (fun K hK=> ?_);go_simp;refine Calls.mono (yA.o w5 E D C M J I (HL.o _ F) zA) ?_;rintro e w6 ⟨bb,rfl,zB,zS⟩;have Y:=F.trans (zS.mono F.size)
        obtain rfl:bb=false:=(by cases bb with|false=>rfl|true=>exact absurd (zB.1 rfl) zN.o);clear zB zA;try go_simp
        refine hK.out _ _ (yC.o w6 Y) (fun g=> ?_);clear hK K;refine Br 8 ⟨some 40,.unOp .not 4 (.tmp 39),4,AL,#[Ai 7,⟨2,.guard⟩],some (2,false)⟩ (.bool true) (by exact g) ?_;try simp only[Act.put,Zq,Zp,Zo]
        refine Br 9 ⟨some 41,.pick (.tmp 34) (.const (.bool true)) (.tmp 40),4,AL,#[Ai 2,Ai 8],none⟩ (.bool true) (by exact g) ?_;try simp only[Act.put,Zq,Zp,Zo]
        refine Br 10 ⟨some 42,.move (.tmp 41),4,AL,#[Ai 9,⟨7,.chain⟩],none⟩ (.bool true) (by exact g) ?_;try simp only[Act.put,Zq,Zp,Zo]
        refine Io 11 ⟨some 43,.fieldAddr 46 (.tmp 1) 4,0,AL,#[⟨10,.guard⟩],some (10,false)⟩ (by exact g) ?_;try simp only[Act.put,Zq,Zp,Zo]
        refine Io 12 ⟨some 44,.load 44 (.tmp 43),44,AL,#[Ai 11,⟨10,.guard⟩],some (10,false)⟩ (by exact g) ?_;try simp only[Act.put,Zq,Zp,Zo]
        refine Io 13 ⟨some 45,.move (.tmp 4),146,AL,#[⟨10,.guard⟩],some (10,false)⟩ (by exact g) ?_;try simp only[Act.put,Zq,Zp,Zo]
        refine Io 14 ⟨some 46,.nilCheck (.tmp 45),0,AL,#[Ai 13,⟨10,.guard⟩],some (10,false)⟩ (by exact g) ?_;try simp only[Act.put,Zq,Zp,Zo]
        refine Io 15 ⟨some 47,.fieldAddr 162 (.tmp 46) 0,0,AL,#[Ai 14,⟨10,.guard⟩],some (10,false)⟩ (by exact g) ?_;try simp only[Act.put,Zq,Zp,Zo]
        refine Io 16 ⟨some 48,.fieldAddr 159 (.tmp 47) 0,0,AL,#[Ai 15,⟨10,.guard⟩],some (10,false)⟩ (by exact g) ?_;try simp only[Act.put,Zq,Zp,Zo]
        refine Io 17 ⟨some 49,.load 3 (.tmp 48),3,AL,#[Ai 16,⟨10,.guard⟩],some (10,false)⟩ (by exact g) ?_;try simp only[Act.put,Zq,Zp,Zo]
        refine Io 18 ⟨some 50,.move (.tmp 4),146,AL,#[⟨10,.guard⟩],some (10,false)⟩ (by exact g) ?_;try simp only[Act.put,Zq,Zp,Zo]
        refine Io 19 ⟨some 51,.nilCheck (.tmp 50),0,AL,#[Ai 18,⟨10,.guard⟩],some (10,false)⟩ (by exact g) ?_;try simp only[Act.put,Zq,Zp,Zo]
        refine Io 20 ⟨some 52,.fieldAddr 162 (.tmp 51) 3,0,AL,#[Ai 19,⟨10,.guard⟩],some (10,false)⟩ (by exact g) ?_;try simp only[Act.put,Zq,Zp,Zo]
        refine Io 21 ⟨some 53,.load 3 (.tmp 52),3,AL,#[Ai 20,⟨10,.guard⟩],some (10,false)⟩ (by exact g) ?_;try simp only[Act.put,Zq,Zp,Zo]
        refine Io 22 ⟨some 54,.call {callee:=Callee.value (.func 102),args:= #[.tmp 44,.tmp 49,.tmp 53],argTypes:= #[44,3,3]},4,AL,#[Ai 12,Ai 17,Ai 21,⟨10,.chain⟩,⟨10,.guard⟩],some (10,false)⟩ (by exact g) ?_;try simp only[Act.put,Zq,Zp,Zo]
        refine Io 23 ⟨some 55,.unOp .not 4 (.tmp 54),4,AL,#[Ai 22,⟨10,.guard⟩],some (10,false)⟩ (by exact g) ?_;try simp only[Act.put,Zq,Zp,Zo]
        refine Br 24 ⟨some 56,.pick (.tmp 42) (.const (.bool true)) (.tmp 55),4,AL,#[Ai 10,Ai 23],none⟩ (.bool true) (by exact g) ?_;try simp only[Act.put,Zq,Zp,Zo]
        refine wpAnyH_done (by kernel_rfl) ?_ _;go_wp2_with fail;go_meet;exact⟨rfl,Y⟩
       case rest=>
        clear N Q R U y4 y5 y6 y7 y8 y9 q t x y z A B;obtain⟨rfl,zC⟩:=hcut;have zF:Below w.heap.size w _:=H.o.trans (zC.o.mono H.o.size);go_wp2;refine bodyPost_ret (v:=.tuple #[.pointer none,.bool false]) (by simp[results,results52,go_sem]) rfl ?_;exact⟨zF,.inl ⟨zM.o,rfl⟩⟩
   |false=>
    rw[hlog]at zK;have zV:DA v.ss v.tt=true->False:=fun h=>by rw[hlog]at h;cases h
    go_enter func52,ntmps52;go_wp2_with fail;rw[←HW.o];refine Calls.mono zE.o ?_;rintro e w1 ⟨rfl,c⟩;replace c:=c.symm;subst c;go_wp2_with fail;refine Calls.mono zH.o ?_;rintro e w1 ⟨rfl,c⟩;replace c:=c.symm;subst c;go_wp2_with fail;refine Calls.mono zK.o ?_;rintro e w2 ⟨rfl,zI⟩;have yN:=bW.trans (zI.mono bW.size);clear N Q R U y4 y5 y6 y7 y8 y9 q t x y z A B;go_wp2
    refine bodyPost_ret (v:=.tuple #[.pointer none,.bool false]) (by simp[results,results52,go_sem]) rfl ?_;exact⟨yN,.inl ⟨fun⟨r,h⟩=>zV h.log,rfl⟩⟩
  ·rw[decide_eq_false hlim]at zH;go_enter func52,ntmps52;go_wp2_with fail;rw[←HW.o];refine Calls.mono zE.o ?_;rintro e w1 ⟨rfl,c⟩;replace c:=c.symm;subst c;go_wp2_with fail;refine Calls.mono zH.o ?_;rintro e w1 ⟨rfl,c⟩;replace c:=c.symm;subst c;clear N Q R U y4 y5 y6 y7 y8 y9 q t x y z A B;go_wp2
   refine bodyPost_ret (v:=.tuple #[.pointer none,.bool false]) (by simp[results,results52,go_sem]) rfl ?_;exact⟨bW,.inl ⟨fun⟨r,h⟩=>hlim h.aj,rfl⟩⟩
 ·rw[decide_eq_false hwd]at zE;go_enter func52,ntmps52;go_wp2_with fail;rw[←HW.o];refine Calls.mono zE.o ?_;rintro e w1 ⟨rfl,c⟩;replace c:=c.symm;subst c;clear N Q R U y4 y5 y6 y7 y8 y9 q t x y z A B;go_wp2;refine bodyPost_ret (v:=.tuple #[.pointer none,.bool false]) (by simp[results,results52,go_sem]) rfl ?_;exact⟨bW,.inl ⟨fun⟨r,h⟩=>hwd h.wd,rfl⟩⟩
def v0:Vd:=⟨0,0,[],[],0,0,0,0,[],[],[],0,[],[],0,0,0⟩
theorem AU.nil(w:Zh)(base:Nat):AU w base Zc Zc Zc Zc Zc Zc Zc [] v0:=
 ⟨Al.nil _ _,Al.nil _ _,⟨rfl,⟨rfl,.inl ⟨rfl,rfl⟩⟩,(fun i k r h=>by cases i<;>cases h),⟨rfl,.inl ⟨rfl,rfl⟩⟩,⟨rfl,.inl ⟨rfl,rfl⟩⟩,List.nodup_nil⟩,Al.nil _ _,Al.nil _ _,List.nodup_nil⟩
theorem Al.fh{w:Zh}{base n c:Nat}{a:Zk}{b:Zl}(h:Al w base (.slice a n c) b):Ad w w.heap.size a b:=by obtain⟨f,g,e,d⟩:=h.row;cases e;exact d
theorem YH:Cy v0:=⟨by simp[v0],by simp[v0],by simp[v0],by simp[v0],⟨by simp[v0],by simp[v0],by simp[v0],by simp[v0]⟩,⟨by simp[v0],by simp[v0]⟩,by simp[v0,AI]⟩
structure Ed where
 kd:Int
 s:Zi
 nm:Zi
 num:Int
 tx:Zi
 rf:Zl
def Ed.ok(e:Ed)(wd:Int):Bool:=Cs e.kd e.s e.nm e.num e.tx e.rf wd
def Ed.br(e:Ed)(wd:Int):Zi:=CF e.kd e.s e.nm e.num e.tx e.rf wd
def Ed.no(e:Ed)(v:Vd)(c:Int)(a b:Zi):Prop:=FI v.wd v.now v.given v.ae v.ks v.ps v.ls e.kd e.s e.nm e.num e.tx e.rf c a b
def Ed.yes(e:Ed)(v:Vd)(r:Rs):Prop:=Eg v.wd v.now v.given v.ae v.ks v.ps v.ls e.kd e.s e.nm e.num e.tx e.rf r
def Ed.di(e:Ed)(v:Vd)(r:Rs):Bool:=decide (e.kd=1)&&decide (v.aj<CH v.wd r.ks)
def Ed.gm(e:Ed)(v:Vd)(r:Rs):Prop:=e.di v r=true
def Ed.held(e:Ed)(r:Rs):Zi:=if e.kd=1 then r.sm else e.s
structure Dd where
 c:Int
 v:Vd
 s:Zi
 n:Int
 a:Zi
 b:Zi
def EV(c:Int)(v:Vd)(a b:Zi):Dd:=⟨c,v,⟨#[]⟩,0,a,b⟩
noncomputable def doV (v:Vd) (e:Ed) (r:Rs):Vd:={v with tt:=v.tt++[e.br v.wd],now:=r.now,given:=r.given,ae:=r.ae,ks:=r.ks,ps:=r.ps,ls:=r.ls,qs:=shQ v.ph r.ks v.qs v.ms (e.held r)}
noncomputable def dyes (v:Vd) (e:Ed) (r:Rs):Dd:=⟨0,doV v e r,r.sm,r.le,⟨#[]⟩,⟨#[]⟩⟩
def Gy(v:Vd)(e:Ed)(c:Int)(a b:Zi):Prop:=
 (e.ok v.wd=false/\c=1/\a=⟨#[]⟩/\b=⟨#[]⟩)∨(e.ok v.wd=true/\(e.no v c a b∨(a=⟨#[]⟩/\b=⟨#[]⟩/\∃r,e.yes v r/\((e.gm v r/\c=8)∨(¬e.gm v r/\v.ss.length+v.tt.length=4000/\c=9)))))
def Jy(v:Vd)(e:Ed)(r:Rs):Prop:=e.ok v.wd=true/\e.yes v r/\¬e.gm v r/\¬v.ss.length+v.tt.length=4000
def Gz(v:Vd)(e:Ed)(d:Dd):Prop:=(¬DR v/\d=EV 1 v0 ⟨#[]⟩ ⟨#[]⟩)∨(DR v/\((∃c a b,Gy v e c a b/\d=EV c v a b)∨∃r,Jy v e r/\d=dyes v e r))
theorem CZ.dx{v:Vd}{r:Rs}(h:CZ v r):FL v.wd v.now v.given v.ae v.ks v.ps v.ls:=by have a:FL v.wd r.now r.given r.ae r.ks r.ps r.ls:=h.run.ok (Ic h.wd.1 h.wd.2);obtain⟨⟨_,b,c,d⟩,e,f,g⟩:=h.same;rw[b,c,d,e,f,g]at a;exact a
theorem Gy.code{v:Vd}{e:Ed}{c:Int}{a b:Zi}(h:Gy v e c a b):c≠0:=by
 rcases h with⟨_,h,_⟩|⟨_,h|⟨_,_,r,_,⟨_,h⟩|⟨_,_,h⟩⟩⟩
 ·omega
 ·have:=FI.code h;omega
 ·omega
 ·omega
theorem Gy.dj{v:Vd}{r:Rs}(m:CZ v r){e:Ed}{c j:Int}{a b g i:Zi}(h:Gy v e c a b)(k:Gy v e j g i):c=j/\a=g/\b=i:=by
 have f:=m.dx.bn.nd;rcases h with⟨d,rfl,rfl,rfl⟩|⟨d,h|⟨rfl,rfl,n,l,h⟩⟩<;>rcases k with⟨k1,rfl,rfl,rfl⟩|⟨k1,k|⟨rfl,rfl,r2,ky,k⟩⟩
 ·exact⟨rfl,rfl,rfl⟩
 ·rw[d]at k1;cases k1
 ·rw[d]at k1;cases k1
 ·rw[d]at k1;cases k1
 ·exact FI.dj f h k
 ·exact(FI.not f h ky).elim
 ·rw[d]at k1;cases k1
 ·exact(FI.not f k l).elim
 ·obtain rfl:=Eg.dj l ky;rcases h with⟨h,rfl⟩|⟨h,_,rfl⟩<;>rcases k with⟨k,rfl⟩|⟨k,_,rfl⟩
  ·exact⟨rfl,rfl,rfl⟩
  ·exact absurd h k
  ·exact absurd k h
  ·exact⟨rfl,rfl,rfl⟩
theorem Gy.not{v:Vd}{r:Rs}(g:CZ v r){e:Ed}{c:Int}{a b:Zi}(h:Gy v e c a b){n:Rs}(k:Jy v e n):False:=by
 obtain⟨d,f,l,m⟩:=k;rcases h with⟨i,_⟩|⟨_,h|⟨_,_,o,j,h⟩⟩
 ·rw[i]at d;cases d
 ·exact FI.not g.dx.bn.nd h f
 ·obtain rfl:=Eg.dj j f;rcases h with⟨h,_⟩|⟨_,h,_⟩
  ·exact l h
  ·exact m h
theorem Gz.dj{v:Vd}{e:Ed}{d g:Dd}(h:Gz v e d)(k:Gz v e g):d=g:=by
 rcases h with⟨h,rfl⟩|⟨⟨r,h⟩,i⟩<;>rcases k with⟨k,rfl⟩|⟨k,kk⟩
 ·rfl
 ·exact absurd k h
 ·exact absurd ⟨r,h⟩ k
 ·rcases i with⟨c,a,b,f,rfl⟩|⟨j,f,rfl⟩<;>rcases kk with⟨c',a',b',k1,rfl⟩|⟨r2,k1,rfl⟩
  ·obtain⟨rfl,rfl,rfl⟩:=f.dj h k1;rfl
  ·exact(f.not h k1).elim
  ·exact(k1.not h f).elim
  ·rw[Eg.dj f.2.1 k1.2.1]
theorem Ed.dz{e:Ed}{wd:Int}(h:e.ok wd=true):(e.br wd).size<=5000:=by
 obtain⟨_,_,p⟩:=Ib h;unfold Ed.br CF;rw[if_pos (show Cs e.kd e.s e.nm e.num e.tx e.rf wd=true from h)];show(De e.kd.toNat e.s e.nm e.num e.tx e.rf).toArray.size<=5000;have c:=p.sum;have d:=p.name;have f:(if e.kd.toNat=1 then BD e.tx e.rf else []).length<=3000:=by
  split
  ·next hk=>
   have a:=BB (p.df hk);have b:=a.az;have g:=a.text;rw[BD,List.length_cons,List.length_append,Dg];simp only[Array.length_toList];have i:e.tx.data.size=e.tx.size:=rfl;omega
  ·simp
 rw[List.size_toArray];unfold De Cj;simp only[List.length_append,List.length_cons,List.length_nil,Array.length_toList];have a:e.s.data.size=e.s.size:=rfl;have b:e.nm.data.size=e.nm.size:=rfl;omega
theorem Gz.fit{v:Vd}{e:Ed}{d:Dd}(h:Gz v e d)(i:Cy v):Cy d.v:=by
 rcases h with⟨_,rfl⟩|⟨⟨r,l⟩,⟨c,a,b,_,rfl⟩|⟨g,m,rfl⟩⟩
 ·exact YH
 ·exact i
 ·have j:=l.dx.step m.1 m.2.1;have p:=j.bn.len;have q:=j.np;have t:=j.nl;have u:=Vl j.dt;have n:=IM l.log;rw[List.length_append]at n;have w:=Ed.dz m.1;refine⟨i.s,?_,i.ss,?_,⟨by show g.ks.length<=_;omega,fun k o=>by have:=j.dt k o;omega,by show g.ps.length<=_;omega,by show g.ls.length<=_;omega⟩,⟨?_,i.r.m⟩,by show AI g.ks<=_;omega⟩
  ·show(v.tt++[e.br v.wd]).length<=_;rw[List.length_append,List.length_singleton];omega
  ·intro s f;rcases List.mem_append.1 f with f|f
   ·exact i.tt s f
   ·rw[List.mem_singleton]at f;subst f;omega
  ·show(shQ v.ph g.ks v.qs v.ms (e.held g)).length<=_;have x:=l.round.dy.nq;unfold shQ;split
   ·rw[List.length_append,List.length_singleton];omega
   ·omega
def Ki(d:Dd)(S U T P L Q M:Value):Zj:=Zg d.c::(Cd d.v S U T P L Q M++[.string d.s,Zg d.n,.string d.a,.string d.b])
def AQ:Zj:=[Zf,Zf,Zf,Zc,Zc,Zf,Zf,Zf,Zf,Zc,Zc,Zc,Zf,Zc,Zc,Zf,Zf,Zf,Zd,Zf,Zd,Zd]
theorem cell_of_block{X W:Zh}{d:Nat}(h:X.heap[d]?=W.heap[d]?)(j:Nat):X.cell? (Ze d j)=W.cell? (Ze d j):=by simp[World.cell?,h]
theorem Aa.dv{w:Zh}{o:Nat}{t:TypeId}{l:Zj}(h:w.heap[o]?=some (.cells l.toArray t (0,0))):Aa w o l:=fun j v a=>by refine⟨?_,by simp[World.frozen?,h]⟩;simp[World.cell?,h];exact a
theorem Aa.dm{B:Nat}:∀(vs l1 l2 l3:Zj) (w:Zh),Aa w B (l1++(l2++l3))->vs.length=l2.length->Aa (w.setCells B l1.length vs) B (l1++(vs++l3))
 |[],l1,[],l3,w,h,_=>h
 |v::r,l1,u::l2,l3,w,h,hl=>by have a:=h.set l1.length v;rw[show(l1++(u::l2++l3)).set l1.length v=(l1++[v])++(l2++l3) by simp]at a;have b:=Aa.dm r (l1++[v]) l2 l3 _ a (by simpa using hl);rw[List.length_append,List.length_singleton,List.append_assoc,List.singleton_append,←List.cons_append]at b;exact b
 |[],_,_::_,_,_,_,h=>by simp at h
 |_::_,_,[],_,_,_,h=>by simp at h
theorem Aa.dq{w:Zh}{B:Nat}(a c d:Zj)(h:Aa w B (a++(c++d))):w.there B a.length c.length:=fun j e=>by have b:=h (a.length+j) _ (Zv (by simp;omega));exact⟨by rw[b.1];rfl,b.2⟩
theorem YI{X:Zh}{b:Nat}{u v:Value}(c:X.cell? (Ze b 0)=some u)(d:X.cell? (Ze b 1)=some v):X.rangeAt b 0 [u,v]:=fun j x a=>by
 match j with
 |0=>cases a;exact c
 |1=>cases a;exact d
 |_+2=>simp at a
theorem Iv{X a c:Zh}{k b:Nat}{z:Value}{l cs i:Zj}(g:Aa X k (.int .i32 1::l))(h:Aa X b (z::i))(o:cs.length=(z::i).length)(m:k≠b)(f:a=X.setCells b 0 cs)(j:c=a.setCell (Ze k 0) (.int .i32 0)):
 a.cell? (Ze k 0)=some (.int .i32 1)/\a.frozen? ⟨k,0,none⟩=false/\Aa c b cs/\Tn [b,k] X c:=by
 have e:Tn [b] X a:=by rw[f];exact Ax _ _ _ _
 have d:Tn [k] a c:=by rw[j];exact Tn.set _ _ _ _ (by simp)
 have r:Aa a b cs:=by rw[f];exact h.aw cs o
 have p:=Aa.same g (e.block _ g.lt (by simp;exact m));obtain⟨q,n⟩:=p 0 _ rfl;exact⟨q,n,Aa.same r (d.block _ (Zr h.lt e.size) (by simp;omega)),(e.mono (by simp)).trans (d.mono (by simp))⟩
theorem AU.apart{w:Zh}{base:Nat}{S U T P L Q M:Value}{f:Zj}{v:Vd}(y:Al w base S v.ss)(z:Al w base U v.tt)(l:∀g,Ao S=some g->Ao U≠some g)(h:AV w base T P L f v.ks v.ps v.ls)(x:Al w base Q v.qs)(t:Al w base M v.ms)(k:∀g,Ao Q=some g->Ao M≠some g)
 (n:∀g,Ao S=some g∨Ao U=some g->g∉Bk T P L f) (p:∀g,Ao Q=some g∨Ao M=some g->g∉Bk T P L f) (r:∀g i,Ao S=some g∨Ao U=some g->Ao Q=some i∨Ao M=some i->g≠i):AU w base S U T P L Q M f v:=by
 refine⟨y,z,h,x,t,?_⟩;have j:=h.nd;rw[Fp]at j;unfold CJ;generalize Bk T P L f=B at *
 generalize Ao S=s at *
 generalize Ao U=u at *
 generalize Ao Q=q at *
 generalize Ao M=m at *
 have one:∀o:Option Nat,o.toList.Nodup:=fun o=>by cases o<;>simp
 simp only[List.nodup_append,List.mem_append,Option.mem_toList];refine⟨⟨one _,one _,fun a d b c e=>l a d (e▸c)⟩,⟨j,⟨one _,one _,fun a d b c e=>k a d (e▸c)⟩,fun a d b c e=>p b c (e▸d)⟩,fun a d b c e=> ?_⟩;rcases c with c|c
 ·exact n a d (e▸c)
 ·exact r a b d c e
theorem Qk{V:List Nat}{a b c:Zh}(d:Tn [] a b)(e:Tn V b c):Tn V a c:=(d.mono (by simp)).trans e
def Lz(v:Vd)(et:Zi)(n:Nat)(X:Zh)(sa:Zk)(sn sc:Nat)(ua:Zk)(un uc:Nat)(c:Int):Prop:=
 (v.ss.length+v.tt.length=4000/\(c==(0:Int))=false)∨(¬v.ss.length+v.tt.length=4000/\c=0/\sn=v.ss.length/\un=(v.tt++[et]).length/\Al X n (.slice sa sn sc) v.ss/\Al X n (.slice ua un uc) (v.tt++[et])/\∀g,Ao (.slice sa sn sc)=some g->Ao (.slice ua un uc)≠some g)
theorem TL{b X:Zh}{v:Vd}{q:Zi}{n a:Nat}{d:Zk}{f e:Nat}{i:Zk}{k j:Nat}{c:Int}(B:Aa X a [Zc,Zc])(h:Zz b X)(A:b.heap.size<=a)(C:a<n)(r:b.heap.size<=n)(m:Lz v q n X d f e i k j c):
 Hid (Aa (X.setCells a 0 [.slice d f e,.slice i k j]) a [.slice d f e,.slice i k j]/\b.heap.size<=a/\Zz b (X.setCells a 0 [.slice d f e,.slice i k j])/\Lz v q b.heap.size (X.setCells a 0 [.slice d f e,.slice i k j]) d f e i k j c):=by
 have t:=Ax a [.slice d f e,.slice i k j] 0 X;refine⟨B.aw _ rfl,A,h.trans (t.below h.size (by simp;omega)),?_⟩;rcases m with m|⟨u,w,x,y,o,p,z⟩
 ·exact .inl m
 ·exact .inr ⟨u,w,x,y,(o.mono r).al t (fun g l=>by have:=(o.cg l).1;simp;omega),(p.mono r).al t (fun g l=>by have:=(p.cg l).1;simp;omega),z⟩
theorem WU{k a:Zh}{v:Vd}{m:Zi}{n:Nat}{d:Zk}{f e:Nat}{g:Zk}{j i:Nat}{c:Int}(h:Zz k a)(o:k.heap.size<=n)(l:Lz v m n a d f e g j i c):
 Hid (Aa ((a.alloc (.cells #[Zc,Zc] 38)).setCells a.heap.size 0 [.slice d f e,.slice g j i]) a.heap.size [.slice d f e,.slice g j i]/\k.heap.size<=a.heap.size/\Zz k ((a.alloc (.cells #[Zc,Zc] 38)).setCells a.heap.size 0 [.slice d f e,.slice g j i])/\Lz v m k.heap.size ((a.alloc (.cells #[Zc,Zc] 38)).setCells a.heap.size 0 [.slice d f e,.slice g j i]) d f e g j i c):=by
 obtain⟨x,b,_⟩:=boxed (X:=a) (cs:=[.slice d f e,.slice g j i]) (z:=[Zc,Zc]) (T:=38) rfl;refine⟨x,h.size,h.trans (b.mono h.size),?_⟩;rcases l with l|⟨p,q,r,t,u,w,y⟩
 ·exact .inl l
 ·exact .inr ⟨p,q,r,t,(u.mono o).below b,(w.mono o).below b,y⟩
theorem Ky{a:Zi}(h:¬a=⟨#[]⟩):a.toList.isEmpty=false:=by
 cases e:a.toList with
 |nil=>exact absurd (toList_inj (b:=⟨#[]⟩) (by rw[e];simp)) h
 |cons x l=>rfl
theorem OL(b:Nat)(p q:Zi)(w:Zh)(d:w.cell? (Ze b 0)=some (.string p))(e:w.cell? (Ze b 1)=some (.string q)):
 Calls prog 111 #[Za b 2 2] w fun o c=>o=.returned (.string (if p=⟨#[]⟩then q else p))/\c=w:=by
 go_enter func111,ntmps111;go_wp2
 go_loop [8] (fun i=>i=Zg 0∨(i=Zg 1/\p=⟨#[]⟩)∨(i=Zg 2/\p=⟨#[]⟩/\q=⟨#[]⟩)) (fun i=>2 -(intOf i).toNat)
 case atStart=>exact .inl rfl
 case round=>
  rcases hrel with rfl|⟨rfl,rfl⟩|⟨rfl,rfl,rfl⟩
  ·by_cases hp:p=⟨#[]⟩
   ·subst hp;go_wp2;exact⟨by simp,by simp[intOf]⟩
   ·have a:=Ky hp;go_wp2;go_ret;simp
  ·by_cases hq:q=⟨#[]⟩
   ·subst hq;go_wp2;exact⟨by simp,by simp[intOf]⟩
   ·have a:=Ky hq;go_wp2;go_ret;simp
  ·go_wp2;go_ret;simp
def dL(d:Dd)(vs:Zj):Zj:=Zg d.c::(vs++[.string d.s,Zg d.n,.string d.a,.string d.b])
theorem JL{X:Zh}{b:Nat}{d:Dd}{vs:Zj}(h:Aa X b (dL d vs))(a:vs.length=17):X.cell? (Ze b 0)=some (Zg d.c)/\X.cell? (Ze b 18)=some (.string d.s)/\X.cell? (Ze b 19)=some (Zg d.n)/\X.cell? (Ze b 20)=some (.string d.a)/\X.cell? (Ze b 21)=some (.string d.b)/\X.rangeAt b 1 vs:=by
 have e:∀j u,[Value.string d.s,Zg d.n,.string d.a,.string d.b][j]?=some u->X.cell? (Ze b (18+j))=some u:=fun j u c=>(h (18+j) u (by
  unfold dL;rw[show 18+j=(17+j)+1 by omega,List.getElem?_cons_succ,List.getElem?_append_right (by omega),a,show 17+j -17=j by omega];exact c)).1
 exact⟨(h 0 _ rfl).1,e 0 _ rfl,e 1 _ rfl,e 2 _ rfl,e 3 _ rfl,Aa.fb [Zg d.c] vs _ h⟩
theorem Jz{d:Dd}{vs:Zj}(h:vs.length=17/\∀u∈vs,u.oneCell'=true):(dL d vs).length=22/\∀u∈dL d vs,u.oneCell'=true:=by
 refine⟨by simp[dL,h.1],fun u a=> ?_⟩;simp only[dL,List.mem_cons,List.mem_append,List.not_mem_nil,or_false]at a;rcases a with rfl|a|rfl|rfl|rfl|rfl
 ·rfl
 ·exact h.2 u a
 ·rfl
 ·rfl
 ·rfl
 ·rfl
theorem Aah{l:Nat}{R:Nat->Zh->Zj->Prop}{O:Nat->Nat->Zh->Zj->Prop}{M:Nat->Nat->Zh->Zj->Nat->Prop}(d:Dd)(h:Gs 17 l 11 13 R O M)(du:∀lo N X vs,O lo N X vs->lo<=X.heap.size):
 Gs 22 l 10 15 (fun L X b=>∃vs,b=dL d vs/\R L X vs) (fun lo N X b=>∃vs,b=dL d vs/\O lo N X vs) (fun lo N X b K=>∃vs,b=dL d vs/\M lo N X vs K):=by
 refine⟨?_,?_,?_,?_,?_,?_,?_,?_⟩
 ·rintro X b ds ⟨vs,rfl,a⟩ ⟨j,rfl,r⟩;have g:=(h.cj _ _ _ a).1;have u:=(h.cj _ _ _ r).1;obtain⟨W,f⟩:∃W,W=(X.alloc (.cells (dL d vs).toArray 48)).alloc (.cells (dL d j).toArray 48):=⟨_,rfl⟩;have c:=(Bj f).1;have C:=(Bj f).2.2.1;have D:=(Bj f).2.2.2;have zW:=(Bj f).2.1;obtain⟨a0,G,H,I,J,P⟩:=JL C g;obtain⟨b0,Q,S,T,U,V⟩:=JL D u;have y:Hid (vs.length=17/\j.length=17):=⟨g,u⟩
  have E:Hid (∀Y,Zz W Y->(Y.cell? (Ze (X.heap.size) 18)=some (.string d.s)/\Y.cell? (Ze (X.heap.size) 19)=some (Zg d.n)/\Y.cell? (Ze (X.heap.size) 20)=some (.string d.a)/\Y.cell? (Ze (X.heap.size) 21)=some (.string d.b))/\Y.cell? (Ze (X.heap.size+1) 18)=some (.string d.s)/\Y.cell? (Ze (X.heap.size+1) 19)=some (Zg d.n)/\Y.cell? (Ze (X.heap.size+1) 20)=some (.string d.a)/\Y.cell? (Ze (X.heap.size+1) 21)=some (.string d.b)):=fun Y hY=>by
   obtain⟨_,p1,p2,p3,p4,_⟩:=JL (d:=d) (vs:=vs) (Aa.below (v:=Zg d.c) C hY) g;obtain⟨_,q1,q2,q3,q4,_⟩:=JL (d:=d) (vs:=j) (Aa.below (v:=Zg d.c) D hY) u;exact⟨⟨p1,p2,p3,p4⟩,q1,q2,q3,q4⟩
  have n:=Yx (Zb P V);have t:=Yx (h.eq W vs j (h.bh _ _ _ _ (h.bi _ _ _ _ a c) c.size) (h.bh _ _ _ _ (h.bi _ _ _ _ r c) c.size));have m:=Yx c;have o:=Yx f;clear f C D a r h g u c P V G H I J Q S T U;generalize dL d vs=p at *
  generalize dL d j=q at *
  go_enter func10,ntmps10;go_upto_region 1 with fail;rw[←o.o];clear o;go_wp2_with (first
   |refine wpList_load_mid rfl 46 _ rfl X.heap.size 1 rfl vs _ n.o.1 underlying46 rfl (by rw[y.o.1];kernel_rfl) ?_
   |refine wpList_load_mid rfl 46 _ rfl (X.heap.size+1) 1 rfl j _ n.o.2 underlying46 rfl (by rw[y.o.2];kernel_rfl) ?_)
  refine Calls.mono t.o ?_;rintro e w1 ⟨rfl,i⟩;obtain⟨⟨G,H,I,J⟩,Q,S,T,U⟩:=E.o w1 i;clear E t n y;go_wp2;go_ret;exact⟨rfl,m.o.trans (i.mono m.o.size)⟩
 ·rintro lo N X b k ⟨vs,rfl,a⟩ zF zG;have g:=(h.cj _ _ _ (h.ft _ _ _ _ a).2).1;have hN:=(h.ft _ _ _ _ a).1;have z:=du _ _ _ _ a;obtain⟨W,f⟩:∃W,W=X.alloc (.cells (dL d vs).toArray 48):=⟨_,rfl⟩;have c:=(AJ f).1;have n:Hid (W.rangeAt X.heap.size 1 vs/\vs.length=17):=⟨(JL (AJ f).2.2 g).2.2.2.2.2,g⟩;have t:=Yx (h.mark lo N W vs k (h.bz _ _ _ _ _ a c.size (fun q _ hq=>c.block q (by omega))) zF zG)
  have m:=Yx c;have o:=Yx f;clear f a h g c;generalize hp:dL d vs=p at *
  have HP:=Yx hp;clear hp;go_enter func15,ntmps15;go_upto_region 1 with fail;rw[←o.o];clear o;go_wp2_with (refine wpList_load_mid rfl 46 _ rfl X.heap.size 1 rfl vs _ n.o.1 underlying46 rfl (by rw[n.o.2];kernel_rfl) ?_);refine Calls.mono t.o ?_;rintro e w1 ⟨⟨K,rfl,zC,zE,Z⟩,i,w⟩;have HM:=Yx Z;have zA:=Yx i;have zB:=Yx w;clear Z i w;go_wp2;go_ret
  exact⟨⟨K,rfl,zC,zE,vs,HP.o.symm,HM.o⟩,(m.o.mono z).trans zA.o,fun q hq x=>(zB.o q hq (Zr x m.o.size)).trans (m.o.block q x)⟩
 ·rintro L X F b ⟨vs,rfl,a⟩ hb;exact⟨vs,rfl,h.bi _ _ _ _ a hb⟩
 ·rintro L L' X b ⟨vs,rfl,a⟩ z;exact⟨vs,rfl,h.bh _ _ _ _ a z⟩
 ·rintro lo N X F b ⟨vs,rfl,a⟩ B A;exact⟨vs,rfl,h.bz _ _ _ _ _ a B A⟩
 ·rintro lo N X F b K ⟨vs,rfl,a⟩ B A;exact⟨vs,rfl,h.fy _ _ _ _ _ _ a B A⟩
 ·rintro lo N X b ⟨vs,rfl,a⟩;obtain⟨r,h3⟩:=h.ft _ _ _ _ a;exact⟨r,vs,rfl,h3⟩
 ·rintro L X b ⟨vs,rfl,a⟩;exact Jz (h.cj _ _ _ a)
theorem ZJ{M:Nat->Nat->Zh->Zj->Nat->Prop}(d:Dd)(o:∀lo N X a K,M lo N X a K->a.length=17)(h:∀(lo N:Nat) (X:Zh) (a:Zj) (K:Nat),M lo N X a K->Calls prog 37 #[.agg a.toArray,Zg 1] X fun e b=>e=.returned (Zg K)/\Zz X b)
 (n:∀(lo N:Nat) (X b:Zh) (a:Zj) (K:Nat),M lo N X a K->Zz X b->M lo N b a K) (lo N:Nat) (X:Zh) (m:Zj) (K:Nat) (t:∃a,m=dL d a/\M lo N X a K):
 Calls prog 16 #[.agg m.toArray,Zg 1] X fun e b=>e=.returned (Zg K)/\Zz X b:=by
 obtain⟨a,rfl,g⟩:=t;have i:=o _ _ _ _ _ g;obtain⟨W,c⟩:∃W,W=X.alloc (.cells (dL d a).toArray 48):=⟨_,rfl⟩;have f:=(AJ c).1;have k:Hid (W.rangeAt X.heap.size 1 a/\a.length=17):=⟨(JL (AJ c).2.2 i).2.2.2.2.2,i⟩;have r:=Yx (h lo N W a K (n _ _ _ _ _ _ g f));have j:=Yx f;have l:=Yx c;clear c g h i f n o;generalize dL d a=p at *
 go_enter func16,ntmps16;go_upto_region 1 with fail;rw[←l.o];clear l;go_wp2_with (refine wpList_load_mid rfl 46 _ rfl X.heap.size 1 rfl a _ k.o.1 underlying46 rfl (by rw[k.o.2];kernel_rfl) ?_);refine Calls.mono r.o ?_;rintro e u ⟨rfl,q⟩;go_wp2;go_ret;exact⟨rfl,j.o.trans (q.mono j.o.size)⟩
end Go.Proofs.YtckmnfhmoankmaaGreatDoor
