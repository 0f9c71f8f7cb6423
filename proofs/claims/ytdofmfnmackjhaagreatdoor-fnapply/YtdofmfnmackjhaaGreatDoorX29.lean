import Derived.Test.YtdofmfnmackjhaaGreatDoorX27
import Derived.Test.YtdofmfnmackjhaaGreatDoorX28
import Derived.Test.YtdofmfnmackjhaaGreatDoorX21
set_option maxRecDepth 100000
set_option maxHeartbeats 16000000
namespace Go.Proofs.YtdofmfnmackjhaaGreatDoor
open ChangeShapes WideShapes ChangeAt RowKit _root_.Go.Proofs.Tryz List World Value
variable{b c base e B d n:Nat}{S U T P L Q M u:Value}{v:Vd}{j X:Zh}{f rs l:Zj}{a p m i g:Int}{ps:Dy}{s:Zi}{r:Rs}
def DZ(S U T P L Q M:Value)(rs:Zj):List Nat:=((Ap S).toList++(Ap U).toList)++(BX T P L rs++((Ap Q).toList++(Ap M).toList))
structure AM (w:Zh) (base:Nat) (S U T P L Q M:Value) (rs:Zj) (v:Vd):Prop where
 s:Ar w base S v.ss
 u:Ar w base U v.E
 R:Ba w base T P L rs v.ks v.ps v.ls
 q:Ar w base Q v.H
 m:Ar w base M v.ms
 nd:(DZ S U T P L Q M rs).Nodup
theorem AM.lo{w:Zh}{c:Zj}(h:AM w b S U T P L Q M c v):∀g∈DZ S U T P L Q M c,b<=g:=by
 intro g a;unfold DZ at a;simp only[A7,A8]at a;rcases a with(a|a)|a|a|a
 .exact(h.s.g a).1
 .exact(h.u.g a).1
 .exact h.R.lo g a
 .exact(h.q.g a).1
 .exact(h.m.g a).1
theorem AM.dj{w:Zh}{c:Zj}(h:AM w b S U T P L Q M c v):∀g∈DZ S U T P L Q M c,g<w.1.size:=by
 intro g a;unfold DZ at a;simp only[A7,A8]at a;rcases a with(a|a)|a|a|a
 .exact(h.s.g a).2
 .exact(h.u.g a).2
 .exact h.R.dj g a
 .exact(h.q.g a).2
 .exact(h.m.g a).2
theorem AM.stays{w:Zh}(h:AM w c S U T P L Q M f v){V:List Nat}(d:Tn V w j)(k:∀b∈V,b∉DZ S U T P L Q M f):AM j c S U T P L Q M f v:=by have e:∀b∈DZ S U T P L Q M f,b∉V:=λb i a=>k b a i;unfold DZ at e;simp only[A7,A8]at e;exact⟨h.s.K d (λg a=>e g (.inl (.inl a))),h.u.K d (λg a=>e g (.inl (.inr a))),h.R.apart d (λb i l=>e b (.inr (.inl l)) i),h.q.K d (λg a=>e g (.inr (.inr (.inl a)))),h.m.K d (λg a=>e g (.inr (.inr (.inr a)))),h.nd⟩
theorem AM.A{w a:Zh}(h:AM w base S U T P L Q M rs v)(b:Zz w a):AM a base S U T P L Q M rs v:=
 h.stays (V:=[]) (Tn.of b) Yu
theorem AM.mono{w:Zh}{base':Nat}(h:AM w base S U T P L Q M rs v)(a:base'<=base):AM w base' S U T P L Q M rs v:=
 ⟨h.s.aj a,h.u.aj a,h.R.aj a,h.q.aj a,h.m.aj a,h.nd⟩
abbrev AM.aj:=@AM.mono
theorem AM.same{w e:Zh}(h:AM w base S U T P L Q M f v)(d:w.1.size<=e.1.size)(c:∀b,base<=b->b<w.1.size->e.1[b]?=w.1[b]?):AM e base S U T P L Q M f v:=
 ⟨h.s.stays d (λg a=>c g (h.s.g a).1 (h.s.g a).2),h.u.stays d (λg a=>c g (h.u.g a).1 (h.u.g a).2),h.R.same c,h.q.stays d (λg a=>c g (h.q.g a).1 (h.q.g a).2),h.m.stays d (λg a=>c g (h.m.g a).1 (h.m.g a).2),h.nd⟩
theorem AM.of{w:Zh}{n1 n2:Nat}{j:Zj}(A:Ar w c S v.ss)(C:Ar w c U v.E)(p:∀g,Ap S=some g->Ap U≠some g)(t:∀g,Ap S=some g\/Ap U=some g->g<n1)(i:Ba w n1 T P L j v.ks v.ps v.ls)(d:c<=n1)(x:∀g∈BX T P L j,g<n2)(z:Ar w c Q v.H)(y:Ar w c M v.ms)(k:∀g,Ap Q=some g\/Ap M=some g->n2<=g)(E:n1<=n2)(n:∀g,Ap Q=some g->Ap M≠some g):AM w c S U T P L Q M j v:=by
 refine⟨A,C,i.aj d,z,y,?_⟩;have l:=i.nd;rw[Fo]at l;have r:=i.lo;unfold DZ;generalize BX T P L j=B at *
 generalize Ap S=s at *
 generalize Ap U=u at *
 generalize Ap Q=q at *
 generalize Ap M=m at *
 have h:∀o:Option Nat,o.toList.Nodup:=λo=>by cases o<;>simp
 simp only[nodup_append,A7,A8];refine⟨⟨h _,h _,λa f b d e=>p a f (e▸d)⟩,⟨l,⟨h _,h _,λa f b d e=>n a f (e▸d)⟩,λa f b d e=> ?_⟩,λa f b d e=> ?_⟩
 .have D:=x a f;have F:=k b d;omega
 .have D:=t a f;rcases d with d|d
  .have:=r b d;omega
  .have:=k b d;omega
def Aaw(v:Vd):Nat:=v.ss.length+v.E.length+Aar v.ks v.ps v.ls+v.H.length+v.ms.length
theorem Aa.gu{w:Zh}(a c d:Zj)(h:Aa w B (a++(c++d))):w.rangeAt B a.length c:=λj v b=>by refine(h (a.length+j) v ?_).1;rw[getElem?_append_right Yv,Nat.add_sub_cancel_left,getElem?_append_left (Zw b).1];exact b
def v0:Vd:=⟨0,0,[],[],0,0,0,0,[],[],[],0,[],[],0,0,0⟩
def Tp(wd lim:Int)(ss tt:Zl)(r:Rs):Vd:=⟨wd,lim,ss,tt,wd,r.D,r.F,r.C,r.ks,r.ps,r.ls,0,[],[],0,0,0⟩
def GC(wd lim:Int)(ss tt:Zl)(c:Int)(v:Vd):Prop:=
 (¬((1<=wd/\wd<=8)/\(0<=lim/\lim<=1000000)/\Cv ss tt=true)/\c=1/\v=v0)\/
 (((1<=wd/\wd<=8)/\(0<=lim/\lim<=1000000)/\Cv ss tt=true)/\(((∃n,MA wd (ss++tt) n)/\c=2/\v=v0)\/(∃r,CZ wd r0 (ss++tt) r/\c=0/\v=Tp wd lim ss tt r)))
theorem AM.nil(w:Zh)(a:Nat):AM w a Zb Zb Zb Zb Zb Zb Zb [] v0:=
 ⟨Ar.nil _ _,Ar.nil _ _,⟨rfl,⟨rfl,.inl ⟨rfl,rfl⟩⟩,(λi k r h=>by cases i<;>cases h),⟨rfl,.inl ⟨rfl,rfl⟩⟩,⟨rfl,.inl ⟨rfl,rfl⟩⟩,nodup_nil⟩,Ar.nil _ _,Ar.nil _ _,nodup_nil⟩
def Acx(wd lim:Int)(ss tt:Zl)(w:Zh)(e:Ending)(w':Zh):Prop:=
 ∃(c:Int) (v:Vd) (S U T P L Q M:Value) (rs:Zj),GC wd lim ss tt c v/\e=.returned (.tuple #[.agg #[Zg v.wd,Zg v.lim,S,U,Zg v.O,Zg v.D,Zg v.F,Zg v.C,T,P,L,Zg v.M,Q,M,Zg v.U,Zg v.V,Zg v.ro],Zg c])/\AM w' w.1.size S U T P L Q M rs v/\Zz w w'
def BU:Zj:=[Ze,Ze,Zb,Zb,Ze,Ze,Ze,Ze,Zb,Zb,Zb,Ze,Zb,Zb,Ze,Ze,Ze]
theorem Nh(w:Zh)(b:Nat)(v:D4)(f d:List (Kd×Value))(m:w.ownsRow b 68 4 v f.length (Ab kC f))(l:Zk)(c:Nat)(p:l=none->d.length=0/\c=0)(H:∀A,l=some A->∀j u,(Ab kC d)[j]?=some u->w.cell? (A.add j)=some u)(K:∀z∈d,∃a n c,z.2=C3 a n c)(M:f.length<=1000000)(L:d.length<=1000000)(i:b<=w.1.size)(t:v≠Zb)(q:TypeId):
 ∃g h k,(Builtin.append_ #[23,23] q #[v,C3 l d.length c]).run prog w=.ok (Yz g (f.length+d.length) h) k/\k.ownsRow b 68 4 (Yz g (f.length+d.length) h) (f++d).length (Ab kC (f++d))/\w.grownBy k v.ownBlock:=by
 have⟨x,s,y,B,C⟩:=info_parts GY;cases l with
 |none=>obtain⟨E,rfl⟩:=p rfl;have J:=Bl E;subst J;obtain⟨g,h,rfl,_,_⟩:=BF m t;exact⟨g,h,w,run_append_owned_none (P:=prog) w b 23 q 68 x 4 underlying23 s _ _ _ m,by rw[append_nil];exact m,⟨rfl,rfl,rfl,Zx,λ_ _ _=>rfl⟩⟩
 |some A=>
  obtain⟨N,k,I,r,F,G,_⟩:=run_append_own_at (P:=prog) w b 23 q 68 x _ 4 64 underlying23 s y B C rfl Yq v f.length (Ab kC f) m A d.length c (Ab kC d) (Bq Cn _) (H A rfl) (λu o=>by
   have⟨z,D,o⟩:=mem_flatMap.1 o;have⟨a,n,c,e⟩:=K z D;simp[kC,e]at o;rcases o with rfl|rfl|rfl|rfl<;>rfl) Yo Yv i
  obtain⟨g,h,rfl,_,_⟩:=BF r (λe=>t (G.1 e).1);exact⟨g,h,k,I,by rw[Fb,Ak];exact r,F⟩
theorem CU{P:Program}{w:Zh}{o:Oper}{a:Act}{K:Act->Zh->Prop}{Q:Exit->Act->Zh->Prop}(b x:Operand)(t:TypeId)(e:o.op=.call {callee:=.builtin .append,args:= #[b,x],argTypes:= #[t,t]}){v c:D4}{d:Zh}(g:a.eval b=v)(i:a.eval x=u)(f:(Builtin.append_ #[t,t] o.type #[v,u]).run P w=.ok c d)(h:K (a.put o.dst c) d):Oper.wp P o a w K Q:=by unfold Oper.wp execOp;simp only[e,resolve,invoke,builtin,Sem.run_bind,Sem.run_pure,Result.andThen_ok,map_toArray,map_cons,map_nil,g,i,f];exact h
structure Mz (base:Nat) (X:Zh) (n:Nat) (z:Kd×Value):Prop where
 row:X.ownsRow base 9 1 z.2 z.1.B.length (z.1.B.map Value.string)
 j:z.1.sum.size<=8
 tx:z.1.J.size<=10
 rl:z.1.B.length<=1
 rs:∀s∈z.1.B,s.size<=8
 bo:0<=z.1.born/\z.1.born<=n
structure Ob (w wr:Zh) (n:Nat) (T:Value) (zs:List (Kd×Value)):Prop where
 cf:Aa wr w.1.size z7
 box:Aa wr (w.1.size+1) [Zg 8,Ze,Ze,Zg n,T,Zb,Zb]
 ow:wr.ownsRow (w.1.size+2) 68 4 T zs.length (Ab kC zs)
 zz:∀z∈zs,Mz (w.1.size+2) wr n z
 bl:Below w.1.size w wr
theorem Mz.A{w:Zh}{z:Kd×Value}(h:Mz base w n z)(a:Zz w X):Mz base X n z:=⟨Ah h.row a,h.j,h.tx,h.rl,h.rs,h.bo⟩
theorem Ob.A{w wr:Zh}{b:List (Kd×Value)}(h:Ob w wr n T b)(a:Zz wr X):Ob w X n T b:=
 ⟨Aa.A h.cf a,Aa.A h.box a,Ah h.ow a,λz c=>(h.zz z c).A a,h.bl.ah (a.aj h.bl.size)⟩
theorem IK{w:Zh}{b:List (Kd×Value)}(h:w.ownsRow d 68 4 T b.length (Ab kC b)){k:Nat}(o:k<=b.length):T=Zb/\b=[]\/∃g a,T=Yz g b.length a/\d<=g/\g<w.1.size/\b.length<=a/\a<=maxLen/\(∀j u,(Ab kC (b.take k))[j]?=some u->w.cell? ((⟨g,0,none⟩:Addr).add j)=some u)/\∃c,(if a=k then some (⟨g,0,none⟩:Addr)else some ⟨g,k *4,none⟩)=some ⟨g,c,none⟩/\∀j u,(Ab kC (b.drop k))[j]?=some u->w.cell? (Zd g (c+j))=some u:=by
 rcases h.2 with⟨e,i⟩|⟨g,a,p,e,n,s,l,m,q,r⟩
 .exact .inl ⟨e,Bl i⟩
 .subst e;refine .inr ⟨g,a,rfl,n,(h.lt g rfl).2,l,m,λj u c=> ?_,?_⟩
  .rw[A3,A0];have f:=(Zw c).1;rw[Bq Cn,Ct]at f;rw[h.cellAt j Yv];rw[<-take_append_drop k b,Bn,getElem?_append_left (by rw[Bq Cn,Ct];omega)];exact c
  .by_cases hc:a=k
   .refine⟨0,by rw[if_pos hc],λj u c=> ?_⟩;rw[drop_of_length_le Yv]at c;simp[Ab]at c
   .refine⟨k *4,by rw[if_neg hc],λj u c=> ?_⟩;rw[<-EE Cn b k o,getElem?_drop]at c;have f:=(Zw c).1;rw[Bq Cn]at f;exact(h.cellAt _ Yv).ah c
theorem LA{w:Zh}{a f:Nat}{c:Zk}{b:Zl}(h:w.ownsRow a 9 1 (C3 c n f) b.length (b.map string)):Af w w.1.size c b:=by
 rcases h.2 with⟨_,d⟩|⟨g,i,j,e,_⟩
 .exact .inl (Bl d)
 .cases e;exact Af.own h
structure MnP (w:Zh) (n:Nat) (e:Ending) (w':Zh):Prop where
 ex:∃T zs,e=.returned (.agg #[Zg 8,Ze,Ze,Zg n,T,Zb,Zb])/\w'.ownsRow (w.1.size+2) 68 4 T zs.length (Ab kC zs)/\(∀z∈zs,Mz (w.1.size+2) w' n z)/\zs.length<=n/\Zz w w'
theorem Qf(n:Nat)(apart:Bool)(w:Zh)(hn:n<=1000):
 D8 49 #[Zg n,.bool apart] w (MnP w n):=by
 have⟨W,b⟩:=Ae ((w.alloc (.cells Yi 27)).alloc (.cells #[Zg 8,Ze,Ze,Zg n,Zb,Zb,Zb] 27));have hb:Below w.1.size w W:=by rw[b];exact(Zy).alloc Yu _
 have F:Hid (Ob w W n Zb []):=by
  refine⟨?_,?_,ownsRow_nil _ _ _ _,Yu,hb⟩
  .rw[b];exact Aa.A (Aa.new w z7 27) (Zy)
  .have B:=Aa.new (w.alloc (.cells Yi 27)) [Zg 8,Ze,Ze,Zg n,Zb,Zb,Zb] 27;rw[Al]at B;rw[b];exact B
 have d:=Yw b;clear b hb;go_enter func49,ntmps49;go_upto_region 2 with fail;rw[<-d.o];clear d;go_wp2
 go_loopw [6,7] (λd i wr=>∃(k:Nat) (last:Zi) (T:D4) (b:List (Kd×Value)),i=Zg (k:Int)/\d=C4 last/\1<=k/\k<=n+1/\last.size<=8/\b.length<k/\Hid (Ob w wr n T b)) (λ_ i _=>n+1 -(intOf i).toNat)
 case atStart=>exact⟨1,_,_,[],rfl,rfl,Yv,Yv,Yq,Yu,F⟩
 case round=>
  clear F;obtain⟨k,last,T,b,rfl,rfl,yI,yJ,I,yN,F⟩:=hrel;by_cases hk:k<=n
  .have d:=Yw (YF 9 k wr Yv (by have:(10:Int)^9=1000000000:=rfl;omega) Yv);go_wp2_with fail;refine d.Ai ?_;clear d;rintro e w1 ⟨t,rfl,zZ,r⟩;have⟨N,d⟩:=D6 w1 #[C4 t,Zb] 30;have C:=(AE d).1;have G:=(AE d).2.1;have E:Aa N w1.1.size [C4 t,Zb]:=(AE (l:=[C4 t,Zb]) d).2.2;have D:Below wr.1.size wr N:=r.ah (C.aj r.size)
   have f:Hid (Zz wr N/\Aa N w1.1.size [C4 t,Zb]/\wr.1.size<=w1.1.size/\N.1.size=w1.1.size+1):=⟨D,E,r.size,G⟩;have y:=Yw d;clear d C G E D r;go_upto_region 7 with fail;rw[<-y.o];clear y;go_cut [26] (λv r=>∃c:Bool,v=.bool c/\r=N)
   case first=>
    cases apart with
    |true=>go_wp2;go_meet;exact⟨_,rfl,rfl⟩
    |false=>go_wp2;go_meet;exact⟨_,rfl,rfl⟩
   revert wc;rintro N ⟨cc,rfl,rfl⟩
   go_upto_if 26 with fail
   go_cut [8,26] (λv _ r=>∃(o:Nat) (rv:D4) (d:Zl),v=Yy o/\Hid (Aa r o [C4 t,rv]/\r.ownsRow (w.1.size+2) 9 1 rv d.length (d.map string)/\d.length<=1/\(∀s∈d,s.size<=8)/\Zz wr r))
   case first=>
    cases cc with
    |true=>
     have⟨Y,hY⟩:=D7 N (w1.1.size) 1 (Yz N.1.size 1 1);have b2:Below Y.1.size Y (Y.alloc (.cells #[C4 last] 9)):=Zy;have y:Y.1.size=N.1.size:=by rw[hY];simp
     have HS:Hid (Zz wr (Y.alloc (.cells #[C4 last] 9))/\Aa (Y.alloc (.cells #[C4 last] 9)) w1.1.size [C4 t,Yz N.1.size 1 1]/\(Y.alloc (.cells #[C4 last] 9)).ownsRow (w.1.size+2) 9 1 (Yz N.1.size 1 1) 1 [C4 last]):=by
      have⟨B,O,h3,h4⟩:=f.o;have h5:Below wr.1.size wr Y:=by rw[hY];exact B.setCell (p:=⟨w1.1.size,1,none⟩) h3 _
      have h6:Aa Y w1.1.size [C4 t,Yz N.1.size 1 1]:=by rw[hY];exact O.set 1 _
      refine⟨h5.ah (b2.aj h5.size),Aa.A h6 b2,?_⟩;rw[<-y];refine ownsRow_lit (base:=w.1.size+2) (e:=9) (size:=1) Y #[C4 last] 1 ?_ Yo rfl;have:=F.bl.size;have:=F.box.lt;omega
     obtain⟨c0,q0⟩:=f.2.1 0 _ rfl;obtain⟨c1,q1⟩:=f.2.1 1 _ rfl;have zC:w1.1.size<N.1.size:=f.2.1.lt;subst hY;clear b2 y;go_wp2;go_meet;exact⟨_,_,[last],rfl,HS.2.1,HS.2.2,Yu,Yt,HS.1⟩
    |false=>go_wp2;go_meet;exact⟨_,_,[],rfl,f.2.1,ownsRow_nil _ _ _ _,Yu,Yu,f.1⟩
   case rest=>
    revert wc;intro w2 hcut;obtain⟨o,rv,d,rfl,y⟩:=hcut;clear f;have⟨V,rc,zX⟩:=Aq y.2.1;subst zX;have f:Af w2 w2.1.size V d:=LA y.2.1;have HF:=Yw (Ht t V rc d 8 w2 f (Dz y.2.2.1) Yo);obtain⟨c0,_⟩:=y.1 0 _ rfl;obtain⟨c1,_⟩:=y.1 1 _ rfl;clear f;go_wp2_with fail;refine HF.Ai ?_;rintro e w3 ⟨rfl,E⟩
    have G:=Yw (IM (AB t d 8) 8 w3 (Dl _ _ _) Yv Yv);have yM:(CD (AB t d 8).data.toList (8:Int).toNat).size=8:=JN _ _;generalize AB t d 8=FF at *
    generalize CD FF.data.toList (8:Int).toNat=S at *
    go_wp2_with fail;refine G.Ai ?_;rintro e f ⟨rfl,H⟩;have C:Below w2.1.size w2 f:=E.ah (H.aj E.size);have D:Hid (Ob w f n T b):=(F.A y.2.2.2.2).A C;have zJ:Hid (Aa f o [C4 t,C1 V d rc]/\Mz (w.1.size+2) f n (⟨S,k,t,d⟩,C1 V d rc)):=⟨Aa.A y.1 C,⟨Ah y.2.1 C,by simp only;omega,zZ,y.2.2.1,y.2.2.2.1,by simp only;omega⟩⟩
    clear HF G E H C y F c0 c1 I;have⟨ta,tc,C⟩:=Aq D.ow;subst C;go_wp2
    go_loopw [9] (λj r=>∃m:Nat,m<=b.length/\j=Zg (m:Int)/\r=f) (λj _=>b.length -(intOf j).toNat)
    case atStart=>exact⟨0,Yv,rfl,rfl⟩
    case round=>
     obtain⟨m,hm,rfl,rfl⟩:=hrel;obtain⟨b4,_⟩:=D.box 4 _ rfl;go_upto_region 11 with fail;go_cut [47] (λv r=>∃c:Bool,v=.bool c/\(c=true->m<b.length)/\r=wr)
     case first=>
      by_cases zC:m<b.length
      .rcases IK D.ow hm with⟨_,e⟩|⟨g,zE,e,_,hg,zR,zI,_⟩
       .rw[e]at zC;simp at zC
       .cases e;have E:=Zv zC;have c0:=D.ow.cellAt (m *4) Yv;have y:=BN Cn E (show 0<4 by decide);rw[Nat.add_zero]at y;rw[y]at c0;generalize b[m]=z at *
        have c1:wr.cell? (Zd g (m *4))=some (C4 z.1.sum):=c0;clear E y c0;go_wp2;go_meet;exact⟨_,rfl,λ_=>zC,rfl⟩
      .go_wp2;go_meet;exact⟨_,rfl,(λh=>by cases h),rfl⟩
     revert wc;rintro f ⟨cc,rfl,y,rfl⟩;cases cc with
     |true=>have zC:=y rfl;go_wp2;exact⟨⟨m+1,Yv,Yn,by first|trivial|rfl⟩,Ys⟩
     |false=>
      clear y;have⟨A,U⟩:=D6 f #[] 68;have E:=(AE (l:=[]) U).1;have u:=(AE (l:=[]) U).2.1;have G:A.ownsRow f.1.size 68 4 (Yz f.1.size 0 0) ([]:List (Kd×Value)).length (Ab kC []):=by rw[U];exact ownsRow_lit (base:=f.1.size) (e:=68) (size:=4) f #[] 0 (Zx) Yo rfl
      have Q:Hid (Ob w A n (C1 ta b tc) b):=D.A E;have HZ:Hid (∀z∈b,∃a n c,z.2=C3 a n c):=λz J=>by have⟨a,c,e⟩:=Aq (D.zz z J).row;exact⟨a,_,c,e⟩
      have y:f.1.size<=A.1.size:=Yv
      obtain⟨s,_⟩:=Q.box 4 _ rfl;have R:=Yw G;have M:Hid (Zz f A):=E;clear G E;go_upto_region 13 with fail;go_cut [10] (λv r=>∃g c,v=Yz g m c/\Hid (r.ownsRow f.1.size 68 4 (Yz g m c) (b.take m).length (Ab kC (b.take m))/\Zz f r))
      case first=>
       have Z:(b.take m).length=m:=by rw[Ct];omega
       have zT:Yz f.1.size 0 0≠Zb:=λe=>by cases e
       rcases IK Q.ow hm with⟨e,e'⟩|⟨g,zE,e,_,hg,zR,zI,r,_⟩
       .subst e';cases e;obtain rfl:m=0:=D2 hm
        obtain⟨g,zE,X,I,P,E⟩:=Nh A f.1.size _ [] [] R none 0 (λ_=>⟨rfl,rfl⟩) (λ_ e=>by cases e) Yu Yu Yu y zT 23;have HO:Hid (X.ownsRow f.1.size 68 4 (Yz g 0 zE) 0 []/\Zz f X):=⟨P,M.grown E y (λq H=>by simp[ownBlock]at H;omega)⟩;clear P E Z;subst U;go_wp2_with (at_builtin;refine wpList_append_run rfl _ _ 23 23 rfl rfl rfl I ?_);go_wp2;go_meet
        exact⟨g,zE,rfl,HO.1,HO.2⟩
       .cases e;unfold maxLen at zI;obtain⟨G,zH,X,I,P,E⟩:=Nh A f.1.size _ [] (b.take m) R (some ⟨g,0,none⟩) tc (λe=>by cases e) (λx e=>by cases e;exact r) (λz J=>HZ z (mem_of_mem_take J)) Yu Yv y zT 23;rw[Z]at I P;simp only[length_nil,A0,nil_append]at I P
        have HO:Hid (X.ownsRow f.1.size 68 4 (Yz G m zH) (b.take m).length (Ab kC (b.take m))/\Zz f X):=⟨P,M.grown E y (λq H=>by simp[ownBlock]at H;omega)⟩;clear P E Z r;subst U;go_wp2_with (at_builtin;refine wpList_append_run rfl _ _ 23 23 rfl rfl rfl I ?_);go_wp2;go_meet;exact⟨G,zH,rfl,HO.1,HO.2⟩
      case rest=>
       clear R M Q s U u y b4;revert wc;intro w5 hcut;obtain⟨g,c,rfl,HL⟩:=hcut;have yK:f.1.size<=w5.1.size:=HL.2.size;have yF:=Ac HL.1 (g:=g) rfl;have HF:Hid (∀X,Below f.1.size w5 X->Aa X (w.1.size+1) [Zg 8,Ze,Ze,Zg n,C1 ta b tc,Zb,Zb]/\Aa X o [C4 t,C1 V d rc]/\X.ownsRow (w.1.size+2) 68 4 (C1 ta b tc) b.length (Ab kC b)):=λX hX=>by have hb:Below f.1.size f X:=HL.2.ah hX;exact⟨Aa.A D.box hb,Aa.A zJ.1 hb,Ah D.ow hb⟩
       have⟨zn,r⟩:∃z:Kd×Value,z=(⟨S,k,t,d⟩,C1 V d rc):=⟨_,rfl⟩;have zK:=Yw r;clear r;go_upto_region 14 with fail
       refine Co [56,57,58,59,60,61,62,63,64,65,66,67] 12 rfl _ rfl Yr Yr Yr Yr Yr Yq Yr [(11,5),(11,6)] Yr (λL X=>Below f.1.size w5 X/\(L 6=false->X.ownsRow f.1.size 68 4 (Yz g m c) (b.take m).length (Ab kC (b.take m)))/\w5.1.size<=X.1.size) (λi X v=>match i with
        |0=>v=Yz g m c
        |1=>v=C4 S
        |2=>v=Zg k
        |3=>v=.agg #[C4 t,C1 V d rc]
        |4=>v=.agg #[C4 S,Zg k,C4 t,C1 V d rc]
        |5=>∃q,v=Yz q 1 1/\q≠g/\Aa X q [C4 S,Zg k,C4 t,C1 V d rc]
        |6=>∃G y,v=Yz G (m+1) y/\X.ownsRow f.1.size 68 4 (Yz G (m+1) y) (b.take m++[zn]).length (Ab kC (b.take m++[zn]))
        |7=>v=Yx (w.1.size+1) 4
        |8=>v=C1 ta b tc
        |9=>v=Zg m
        |10=>∃ad y,v=C1 ad (b.drop m) y/\(ad=none/\(b.drop m).length=0/\y=0\/∃R Q,ad=some ⟨R,Q,none⟩/\R<f.1.size/\∀j u,(Ab kC (b.drop m))[j]?=some u->X.cell? (Zd R (Q+j))=some u)
        |11=>∃G y,v=Yz G (b.length+1) y/\X.ownsRow f.1.size 68 4 (Yz G (b.length+1) y) (b.take m++[zn]++b.drop m).length (Ab kC (b.take m++[zn]++b.drop m))
        |_=>True) (λj X Y=>Below f.1.size X Y/\(j≠11->X.grownBy Y (some g))/\(j≠6->j≠11->Zz X Y)) ?_ ⟨Ad.drew,λ_=>Ah HL.1 Ad.drew,Zx⟩ ?_ ?_
       .intro j i X Y v zS zU zV hE C;obtain⟨B,O,h3⟩:=hE;rcases i with _|_|_|_|_|_|_|_|_|_|_|_|_
        .exact C
        .exact C
        .exact C
        .exact C
        .exact C
        .obtain⟨q,e,H,hc⟩:=C;exact⟨q,e,H,hc.aw (O (λe=>zU (by rw[e];simp))) H.symm⟩
        .obtain⟨G,y,e,P⟩:=C;exact⟨G,y,e,Ah P (h3 (λe=>zS e) (λe=>zU (by rw[e];simp)))⟩
        .exact C
        .exact C
        .exact C
        .obtain⟨ad,y,e,hn|⟨R,Q,ea,hb,hc⟩⟩:=C
         .exact⟨ad,y,e,.inl hn⟩
         .exact⟨ad,y,e,.inr ⟨R,Q,ea,hb,λj u hu=>(B.cell (p:=⟨R,Q+j,none⟩) hb).ah (hc j u hu)⟩⟩
        .obtain⟨G,y,e,P⟩:=C;exact⟨G,y,e,Ah P (h3 (λe=>by subst e;have h9:=zV.symm.ah (by kernel_rfl:_=true);cases h9) (λe=>zS e))⟩
        .trivial
       .intro i o' L x X hi P hL hD Z s K r;have zM:=Z.2.2;have I:Below f.1.size X X/\(i≠11->X.grownBy X (some g))/\(i≠6->i≠11->Zz X X):=⟨Ad,λ_=>⟨rfl,rfl,rfl,Zx,λ_ _ _=>rfl⟩,λ_ _=>Below.refl _ _⟩
        have M:i≠6->∀Y,Zz X Y->Below f.1.size w5 Y/\(BJ L i 6=false->Y.ownsRow f.1.size 68 4 (Yz g m c) (b.take m).length (Ab kC (b.take m)))/\w5.1.size<=Y.1.size:=λh6 Y hY=>⟨Z.1.ah (hY.aj Yv),λh=>Ah (Z.2.1 (by unfold BJ at h;rw[if_neg (Ne.symm h6)]at h;exact h)) hY,Zm zM hY.size⟩
        rcases(show i=0\/i=1\/i=2\/i=3\/i=4\/i=5\/i=6\/i=7\/i=8\/i=9\/i=10\/i=11 by omega)with rfl|rfl|rfl|rfl|rfl|rfl|rfl|rfl|rfl|rfl|rfl|rfl<;>cases P<;>simp only[Bk,Act.put,Zq,Zp,Zo]at r |-
        .go_simp;exact r.out _ X rfl I (M Yv X Ad)
        .go_simp;exact r.out _ X rfl I (M Yv X Ad)
        .go_simp;exact r.out _ X rfl I (M Yv X Ad)
        .obtain⟨_,f2,_⟩:=HF X Z.1;obtain⟨c0,_⟩:=f2 0 _ rfl;obtain⟨c1,_⟩:=f2 1 _ rfl;clear f2;go_simp;exact r.out _ X rfl I (M Yv X Ad)
        .have d1:=s ⟨1,.data⟩ Yu Yp;have d2:=s ⟨2,.data⟩ Yu Yp;have d3:=s ⟨3,.data⟩ Yu Yp;rw[show x 1=C4 S from d1,show x 2=Zg k from d2,show x 3=.agg #[C4 t,C1 V d rc]from d3]at r |-;go_simp;exact r.out _ X rfl I (M Yv X Ad)
        .have d4:=s ⟨4,.data⟩ Yu Yp;rw[show x 4=.agg #[C4 S,Zg k,C4 t,C1 V d rc]from d4]at r |-;have U:Below X.1.size X (X.alloc (.cells #[C4 S,Zg k,C4 t,C1 V d rc] 68)):=Zy;go_simp;exact r.out _ _ ⟨X.1.size,rfl,Yv,Aa.new X _ _⟩ ⟨U.aj Yv,λ_=>Ag _ U,λ_ _=>U⟩ (M Yv _ U)
        .have d0:=s ⟨0,.data⟩ Yu Yp;have⟨q,e5,yL,H⟩:=s ⟨5,.data⟩ Yu Yp;rw[show x 0=Yz g m c from d0,e5]at r |-
         obtain⟨G,y,X',zG,zF,E⟩:=Nh X f.1.size _ (b.take m) [zn] (Z.2.1 hL) (some ⟨q,0,none⟩) 1 (λe=>by cases e) (λA e j u hu=>by cases e;rw[A3,A0];exact(H j u (by rw[zK.o]at hu;simpa [Ab,kC]using hu)).1) (by rw[zK.o];simp) (by rw[Ct];omega) Yu Yv (λe=>by cases e) 23
         rw[show(b.take m).length=m from by rw[Ct];omega]at zG zF;have zB:Below f.1.size X X':=Ad.grown E Yv (λq H=>by simp[ownBlock]at H;omega);refine CU (.tmp 56) (.tmp 61) 23 rfl rfl rfl zG ?_;exact r.out _ X' ⟨G,y,rfl,zF⟩ ⟨zB,λ_=>E,λh=>absurd rfl h⟩ ⟨Z.1.ah zB,λh=>by unfold BJ at h;simp at h,Zm zM E.size⟩
        .go_simp;exact r.out _ X rfl I (M Yv X Ad)
        .have d7:=s ⟨7,.data⟩ Yu Yp;rw[show x 7=Yx (w.1.size+1) 4from d7]at r |-;have⟨f1,_⟩:=HF X Z.1;obtain⟨c4,_⟩:=f1 4 _ rfl;clear f1;go_simp;exact r.out _ X rfl I (M Yv X Ad)
        .go_simp;exact r.out _ X rfl I (M Yv X Ad)
        .have d8:=s ⟨8,.data⟩ Yu Yp;have d9:=s ⟨9,.data⟩ Yu Yp;rw[show x 8=C1 ta b tc from d8,show x 9=Zg m from d9]at r |-;have zW:(b.drop m).length=b.length -m:=length_drop;rcases IK (HF X Z.1).2.2 hm with⟨e,e'⟩|⟨R,zE,e,_,yE,zR,zI,_,Q,U,zN⟩
         .subst e';cases e;obtain rfl:m=0:=D2 hm
          go_simp;exact r.out _ X ⟨none,0,rfl,.inl ⟨rfl,rfl,rfl⟩⟩ I (M Yv X Ad)
         .cases e;unfold maxLen at zI;have yG:m<=tc:=Yv
          have zO:R<f.1.size:=Dz (Ac D.ow (g:=R) rfl)
          go_simp;rw[<-zW];exact r.out _ X ⟨_,_,rfl,.inr ⟨R,Q,rfl,zO,zN⟩⟩ I (M Yv X Ad)
        .obtain⟨g6,c6,e6,h6⟩:=s ⟨6,.data⟩ Yu Yp;have⟨ad,c0,e0,zP⟩:=s ⟨10,.data⟩ Yu Yp;rw[e6,e0]at r |-;obtain⟨G,y,X',zG,zF,E⟩:=Nh X f.1.size _ (b.take m++[zn]) (b.drop m) h6 ad c0 (λe=>by rcases zP with h|⟨R,Q,ea,_⟩;exact h.2;rw[ea]at e;cases e) (λA e j u hu=>by
          rcases zP with h|⟨R,Q,ea,_,h⟩
          .rw[h.1]at e;cases e
          .rw[ea]at e;cases e;rw[A3];exact h j u hu) (λz J=>HZ z (mem_of_mem_drop J)) Yt Yt Yv (λe=>by cases e) 23
         rw[show(b.take m++[zn]).length=m+1 from by simp;omega,show m+1+(b.drop m).length=b.length+1 from by simp;omega]at zG;rw[show(b.take m++[zn]).length+(b.drop m).length=b.length+1 from by simp;omega]at zF;have u:Below f.1.size X X':=Ad.grown E Yv (λq H=>(Ac h6 H).1);refine CU (.tmp 62) (.tmp 66) 23 rfl rfl rfl zG ?_
         exact r.out _ X' ⟨G,y,rfl,zF⟩ ⟨u,λh=>absurd rfl h,λ_ h=>absurd rfl h⟩ ⟨Z.1.ah u,(λh=>by unfold BJ at h;simp at h;rw[hD ⟨6,.data⟩ Yu Yp]at h;cases h),Zm zM E.size⟩
       .intro L x X hL Z C K r;simp only[Bk,Act.put,Zq,Zp,Zo];have⟨g1,c1,e1,B⟩:=C 11 Yq (λj=>Yu);rw[e1];go_simp;refine r.out _ _ ?_;clear r K C;have zB:Below f.1.size f X:=HL.2.ah Z.1;have O:=D.A zB;have yA:=O.bl.size;have yC:=D.box.lt;have yD:=Ac B (g:=g1) rfl
        have HN:Hid (Ob w (X.setCell (Zd (w.1.size+1) 4) (Yz g1 (b.length+1) c1)) n (Yz g1 (b.length+1) c1) (b.take m++[zn]++b.drop m)):=by
         refine⟨Aa.same O.cf ?_,O.box.set 4 _,BH (B.aj Yv) (λq H=>by simp[ownBlock]at H;omega) 4 _,λz J=> ?_,O.bl.setCell (p:=⟨w.1.size+1,4,none⟩) Yu _⟩
         .exact(AP X (w.1.size+1) 4 _).block _ O.cf.lt Yu
         .have r:Mz (w.1.size+2) X n z:=by
           simp only[A7,mem_singleton]at J;rcases J with(J|J)|J
           .exact O.zz z (mem_of_mem_take J)
           .rw[J,zK.o];exact zJ.2.A zB
           .exact O.zz z (mem_of_mem_drop J)
          exact⟨BH r.row (λq H=>Dz (Ac r.row H).1) 4 _,r.j,r.tx,r.rl,r.rs,r.bo⟩
        obtain⟨K,q4⟩:=O.box 4 _ rfl;have yB:w.1.size+1<X.1.size:=O.box.lt;clear O zB HF HL D zJ B;go_wp2;exact⟨⟨k+1,S,_,_,Yn,rfl,Yv,Yv,Yv,Yt,HN⟩,Ys⟩
  .obtain⟨ta,tc,C⟩:=Aq F.ow;subst C;obtain⟨b0,b1,b2,b3,b4,b5,b6⟩:=Aa.c7 F.box 0 1 2 3 4 5 6;have⟨⟨O,q0⟩,⟨y1,q1⟩,⟨y2,q2⟩,⟨y3,q3⟩,⟨K,q4⟩,⟨y5,q5⟩,y6,q6⟩:=Hb F.cf;have yH:¬(k:Int)<=n:=Yv
   have D:Hid (∀X,Tn [w.1.size] wr X->X.ownsRow (w.1.size+2) 68 4 (C1 ta b tc) b.length (Ab kC b)/\(∀z∈b,Mz (w.1.size+2) X n z)/\b.length<=n/\Zz w X):=λX hX=>by refine⟨As F.ow (λg hg=>hX.block g (Ac F.ow hg).2 (by have:=(Ac F.ow hg).1;simp;omega)),λz J=> ?_,Yv,F.bl.ah (hX.A F.bl.size Yu)⟩;have B:=F.zz z J;exact⟨As B.row (λg hg=>hX.block g (Ac B.row hg).2 (by have:=(Ac B.row hg).1;simp;omega)),B.j,B.tx,B.rl,B.rs,B.bo⟩
   clear F;go_wp2;refine C0 (.agg #[Zg 8,Ze,Ze,Zg n,C1 ta b tc,Zb,Zb]) (by simp[results,results49,go_sem,O,y1,y2,y3,K,y5,y6]) ⟨_,b,rfl,D.o _ ?_⟩
   repeat refine Tn.ah ?_ (Tn.set _ _ _ _ Yu)
   exact Tn.of Ad
structure XH (k:Kd):Prop where
 s:k.sum.size<=8
 t:k.J.size<=maxLen
 n:k.B.length<=1048576
 r:∀s∈k.B,s.size<=maxLen
 b:(Lit.int .i64 k.born).wf=true
theorem XH.sl{k:Kd}(h:XH k):k.sum.size<=maxLen:=Zm h.s Yo
structure Oc (ks:List Kd) (ps:List Pd) (ls:List Ld):Prop where
 k:∀k∈ks,XH k
 kn:ks.length<=1048576
 p:∀p∈ps,p.name.size<=maxLen/\p.sum.size<=maxLen
 pn:ps.length<=1048576
 l:∀l∈ls,l.sum.size<=maxLen
 ln:ls.length<=1048576
theorem Oc.km{b:Dj}{e:Dy}{d:Dv}(h:Oc b e d):Iq b/\IP e/\La d/\JA b e d/\∀k∈b,(Lit.int .i64 k.born).wf=true:=by
 have f:=h.kn;have g:=h.pn;have i:=h.ln;have m:(1048576:Nat)<=maxLen:=Yo
 exact⟨⟨Yv,λk a=>Zm (h.k k a).s Yv,λk a=>(h.k k a).t,λk a=>Zm (h.k k a).n m,λk a=>(h.k k a).r⟩,⟨Yv,λp c=>(h.p p c).1,λp c=>(h.p p c).2⟩,⟨Yv,h.l⟩,⟨f,λk a=>(h.k k a).n,g,i⟩,λk a=>(h.k k a).b⟩
structure Qg (X:Zh) (cs:Zj):Prop where
 ex:∃(wd now given births:Int) (ta:Zk) (tc:Nat) (pa:Zk) (pc:Nat) (la:Zk) (lc:Nat) (ks:List Kd) (ps:List Pd) (ls:List Ld),cs=[Zg wd,Zg now,Zg given,Zg births,.slice ta ks.length tc,.slice pa ps.length pc,.slice la ls.length lc]/\Bx X X.1.size ta pa la ks ps ls/\Oc ks ps ls/\(∀A,ta=some A->IF X A ks)/\(pa=none->pc=0)/\(la=none->lc=0)
theorem Hf.w{b:Dj}{d:Dv}(h:Hf b ps d)(c:∀k∈b,IE k):Oc b ps d:=by have e:=h.n;exact⟨λk a=>⟨(c k a).2.2.2,h.k.J k a,Dz (c k a).2.1,h.k.ref k a,h.b k a⟩,Yv,λp a=>⟨h.p.name p a,h.p.sum p a⟩,Yv,h.l.sum,Yv⟩
theorem Wl{w:Zh}{f s:Nat}{o:Zk}{d:List (Kd×Value)}(h:w.ownsRow f 68 4 (C3 o n s) d.length (Ab kC d))(r:∀z∈d,∃b l,z.2=C3 b z.1.B.length l/\Af w w.1.size b z.1.B):AW w w.1.size o (d.map (·.1)):=by
 rcases h.2 with⟨_,p⟩|⟨g,t,u,e,_⟩
 .exact .inl (by rw[Bl p];rfl)
 .cases e;refine .inr ⟨g,0,rfl,(h.lt g rfl).2,λi k m=> ?_⟩;rw[getElem?_map]at m;obtain⟨z,a,rfl⟩:=Option.map_eq_some_iff.1 m;have⟨b,l,e,q⟩:=r z (Zs a);have v:=(Zw a).1;have c:∀j,j<4->w.cell? (Zd g (0+i *4+j))=(kC z)[j]?:=λj m=>by rw[A0,h.cellAt (i *4+j) Yv];exact BN Cn a m
  exact⟨c 0 Yv,c 1 Yv,c 2 Yv,b,l,(c 3 Yv).ah (congrArg some e),q⟩
theorem ZE{b:Int}(a:0<=b)(c:b<=1000):(Lit.int .i64 b).wf=true:=by simp[Lit.wf,IntKind.min,IntKind.max,IntKind.signed,IntKind.bits];omega
def Bw(v:Vd)(S U T P L Q M:Value):Zj:=[Zg v.wd,Zg v.lim,S,U,Zg v.O,Zg v.D,Zg v.F,Zg v.C,T,P,L,Zg v.M,Q,M,Zg v.U,Zg v.V,Zg v.ro]
def VRa(v:Vd)(L:Nat)(X:Zh)(cs:Zj):Prop:=
 ∃a:Va,cs=Bw v (.slice a.i v.ss.length a.sc) (.slice a.Y v.E.length a.Z) (.slice a.W v.ks.length a.X) (.slice a.N v.ps.length a.Q) (.slice a.L v.ls.length a.P) (.slice a.qa v.H.length a.qc) (.slice a.y v.ms.length a.mc)/\Df X L a v
theorem AM.jr{a:Nat}{p:Zj}(h:AM X a S U T P L Q M p v):VRa v X.1.size X (Bw v S U T P L Q M):=by obtain⟨q,r,rfl,b⟩:=h.s.row;obtain⟨u,w,rfl,c⟩:=h.u.row;obtain⟨s,t,l,m,g,i,rfl,rfl,rfl,d⟩:=h.R.rows;obtain⟨n,o,rfl,e⟩:=h.q.row;obtain⟨j,k,rfl,f⟩:=h.m.row;exact⟨⟨q,r,u,w,s,t,l,m,g,i,n,o,j,k⟩,rfl,⟨b,c,d,e,f⟩⟩
theorem Ba.at{w w':Zh}{c:Zj}{ks:Dj}{f:Dy}{e:Dv}(h:Ba w base T P L c ks f e)(b:∀g∈BX T P L c,w'.1[g]?=w.1[g]?):Ba w' base T P L c ks f e:=
 ⟨h.len,As h.ak (λg a=>b g (by unfold BX;simp[a])),λi k r j d=>As (h.B i k r j d) (λg a=>b g (by unfold BX;simp only[A7,mem_filterMap];exact .inr (.inr (.inr ⟨r,Zs d,a⟩)))),As h.pins (λg a=>b g (by unfold BX;simp[a])),As h.au (λg a=>b g (by unfold BX;simp[a])),h.nd⟩
theorem FZ.jn(h:FZ v):1000+Aaw v<=90000000:=by unfold Aaw Aar;have:=h.s;have:=h.t;have:=h.R.k;have:=h.R.p;have:=h.R.l;have:=h.r.q;have:=h.r.m;have:=h.rn;omega
structure Aay (ss E:Zl):Prop where
 s:ss.length<=1048576
 t:E.length<=1048576
 ss:∀s∈ss,s.size<=1048576
 E:∀s∈E,s.size<=1048576
theorem Ar.iy{w:Zh}{a:Zk}{d:Zl}(h:Ar w b (C3 a n c) d):Af w w.1.size a d:=by have⟨g,i,e,f⟩:=h.row;cases e;exact f
theorem MB:FZ v0:=⟨by simp[v0],by simp[v0],by simp[v0],by simp[v0],⟨by simp[v0],by simp[v0],by simp[v0],by simp[v0]⟩,⟨by simp[v0],by simp[v0]⟩,by simp[v0,Fz]⟩
theorem MC{a b:Zl}{k:Int}(e:∀s∈a,s.size<=1048576)(f:∀s∈b,s.size<=1048576):(BD a b k).length<=1048576/\∀s∈BD a b k,s.size<=1048576:=by
 unfold BD;split
 .next h=>
  have c:=EM h;rw[Ak]at c;refine⟨?_,λs d=> ?_⟩
  .rw[Ak,Ct];omega
  .rcases A7.1 d with h|h
   .exact e s h
   .exact f s (mem_of_mem_take h)
 .exact⟨Yu,Yu⟩
theorem ZF{w:Zh}{l:Zl}(h:w.ownsRow n 9 1 u l.length (l.map Value.string)):∃a c,u=.slice a l.length c/\Af w w.1.size a l/\(a=none->l.length=0/\c=0):=by
 obtain⟨a,c,rfl,b⟩:=(Ar.own h).row;refine⟨a,c,rfl,b,fun e=> ?_⟩;subst e;rcases h.2 with⟨e,_⟩|⟨g,d,f,e,_⟩
 .injection e with _ e2 e3;exact⟨e2,e3⟩
 .injection e with e1;cases e1
theorem GC.fit{e f:Zl}{c:Int}(h:GC m i e f c v)(a:Aay e f):FZ v:=by
 rcases h with⟨_,_,rfl⟩|⟨g,⟨_,_,rfl⟩|⟨r,l,_,rfl⟩⟩
 .exact MB
 .exact MB
 .have b:=l.ok (FJ g.1.1 g.1.2);have n:=b.bt.len;have o:=b.np;have p:=b.nl;have d:=b.fc;have q:=Lz d;exact⟨a.s,a.t,a.ss,a.E,⟨by show r.ks.length<=_;omega,λk j=>Dz (d k j),by show r.ps.length<=_;omega,by show r.ls.length<=_;omega⟩,⟨by simp[Tp],by simp[Tp]⟩,by show Fz r.ks<=_;omega⟩
structure Ed where
 kd:Int
 s:Zi
 nm:Zi
 G:Int
 tx:Zi
 rf:Zl
def Ed.ok(e:Ed)(wd:Int):Bool:=Bp e.kd e.s e.nm e.G e.tx e.rf wd
def Ed.cz(e:Ed)(wd:Int):Zi:=CY e.kd e.s e.nm e.G e.tx e.rf wd
def Ed.no(e:Ed)(v:Vd)(c:Int)(a b:Zi):Prop:=Ep v.wd v.D v.F v.C v.ks v.ps v.ls e.kd e.s e.nm e.G e.tx e.rf c a b
def Ed.yes(e:Ed)(v:Vd)(r:Rs):Prop:=BP v.wd v.D v.F v.C v.ks v.ps v.ls e.kd e.s e.nm e.G e.tx e.rf r
def Ed.fw(e:Ed)(v:Vd)(r:Rs):Bool:=decide (e.kd=1)&&decide (v.lim<DK v.wd r.ks)
def Ed.jq(e:Ed)(v:Vd)(r:Rs):Prop:=e.fw v r=true
def Ed.held(e:Ed)(r:Rs):Zi:=if e.kd=1 then r.j else e.s
structure Dd where
 c:Int
 v:Vd
 s:Zi
 n:Int
 a:Zi
 b:Zi
def Fe(c:Int)(v:Vd)(a b:Zi):Dd:=⟨c,v,⟨#[]⟩,0,a,b⟩
noncomputable def doV (v:Vd) (e:Ed) (r:Rs):Vd:={v with E:=v.E++[e.cz v.wd],D:=r.D,F:=r.F,C:=r.C,ks:=r.ks,ps:=r.ps,ls:=r.ls,H:=shQ v.M r.ks v.H v.ms (e.held r)}
noncomputable def dyes (v:Vd) (e:Ed) (r:Rs):Dd:=⟨0,doV v e r,r.j,r.le,⟨#[]⟩,⟨#[]⟩⟩
def DNo(v:Vd)(e:Ed)(c:Int)(a b:Zi):Prop:=
 (e.ok v.wd=false/\c=1/\a=⟨#[]⟩/\b=⟨#[]⟩)\/(e.ok v.wd=true/\(e.no v c a b\/(a=⟨#[]⟩/\b=⟨#[]⟩/\∃r,e.yes v r/\((e.jq v r/\c=8)\/(¬e.jq v r/\v.ss.length+v.E.length=4000/\c=9)))))
def Aaz(v:Vd)(e:Ed)(r:Rs):Prop:=e.ok v.wd=true/\e.yes v r/\¬e.jq v r/\¬v.ss.length+v.E.length=4000
def Il(v:Vd)(e:Ed)(d:Dd):Prop:=(¬CB v/\d=Fe 1 v0 ⟨#[]⟩ ⟨#[]⟩)\/(CB v/\((∃c a b,DNo v e c a b/\d=Fe c v a b)\/∃r,Aaz v e r/\d=dyes v e r))
theorem ES.fy(h:ES v r):FN v.wd v.D v.F v.C v.ks v.ps v.ls:=by have a:FN v.wd r.D r.F r.C r.ks r.ps r.ls:=h.run.ok (FJ h.wd.1 h.wd.2);have⟨⟨_,b,c,d⟩,e,e6,f⟩:=h.same;rw[b,c,d,e,e6,f]at a;exact a
theorem Ed.fg{e:Ed}{b:Int}(h:e.ok b=true):(e.cz b).size<=5000:=by
 obtain⟨_,_,p⟩:=Ee h;unfold Ed.cz CY;rw[if_pos (show Bp e.kd e.s e.nm e.G e.tx e.rf b=true from h)];show(Ej e.kd.toNat e.s e.nm e.G e.tx e.rf).toArray.size<=5000;have d:=p.sum;have f:=p.name;have g:(if e.kd.toNat=1 then Ch e.tx e.rf else []).length<=3000:=by
  split
  .next hk=>
   have a:=Bj (p.fp hk);have c:=a.bz;have i:=a.J;rw[Ch,length_cons,Ak,Er];simp only[Array.length_toList];have j:e.tx.data.size=e.tx.size:=rfl;omega
  .simp
 rw[A1];unfold Ej Cm;simp only[Ak,length_cons,length_nil,Array.length_toList];have a:e.s.data.size=e.s.size:=rfl;have c:e.nm.data.size=e.nm.size:=rfl;omega
theorem Il.fit{e:Ed}{d:Dd}(h:Il v e d)(i:FZ v):FZ d.v:=by
 rcases h with⟨_,rfl⟩|⟨⟨r,l⟩,⟨c,a,b,_,rfl⟩|⟨g,m,rfl⟩⟩
 .exact MB
 .exact i
 .have j:=l.fy.step m.1 m.2.1;have o:=j.bt.len;have p:=j.np;have q:=j.nl;have t:=Lz j.fc;have n:=EM l.log;rw[Ak]at n;have u:=Ed.fg m.1;refine⟨i.s,?_,i.ss,?_,⟨by show g.ks.length<=_;omega,λk f=>Dz (j.fc k f),by show g.ps.length<=_;omega,by show g.ls.length<=_;omega⟩,⟨?_,i.r.m⟩,by show Fz g.ks<=_;omega⟩
  .show(v.E++[e.cz v.wd]).length<=_;rw[Ak,length_singleton];omega
  .intro s f;rcases A7.1 f with f|f
   .exact i.E s f
   .rw[mem_singleton]at f;subst f;omega
  .show(shQ v.M g.ks v.H v.ms (e.held g)).length<=_;have w:=l.round.ft.nq;unfold shQ;split
   .rw[Ak,length_singleton];omega
   .omega
def EU:Zj:=[Ze,Ze,Ze,Zb,Zb,Ze,Ze,Ze,Ze,Zb,Zb,Zb,Ze,Zb,Zb,Ze,Ze,Ze,Zc,Ze,Zc,Zc]
theorem Aa.jo{w:Zh}{o:Nat}{t:TypeId}(h:w.1[o]?=some (.cells l.toArray t (0,0))):Aa w o l:=λj v a=>by refine⟨?_,by simp[frozen?,h]⟩;simp[cell?,h];exact a
theorem Aa.gd:∀(vs l1 l2 l3:Zj) (w:Zh),Aa w B (l1++(l2++l3))->vs.length=l2.length->Aa (w.setCells B l1.length vs) B (l1++(vs++l3))
 |[],l1,[],l3,w,h,_=>h
 |v::r,l1,u::l2,l3,w,h,hl=>by have a:=h.set l1.length v;rw[show(l1++(u::l2++l3)).set l1.length v=(l1++[v])++(l2++l3) by simp]at a;have b:=Aa.gd r (l1++[v]) l2 l3 _ a (D2 hl);rw[Ak,length_singleton,append_assoc,singleton_append,<-cons_append]at b;exact b
 |[],_,_::_,_,_,_,h=>by simp at h
 |_::_,_,[],_,_,_,h=>by simp at h
theorem Aa.fs{w:Zh}(a c d:Zj)(h:Aa w B (a++(c++d))):w.there B a.length c.length:=λj b=>by have b:=h (a.length+j) _ (Zv Yt);exact⟨by rw[b.1];rfl,b.2⟩
theorem AM.apart{w:Zh}{i:Zj}(z:Ar w c S v.ss)(A:Ar w c U v.E)(n:∀g,Ap S=some g->Ap U≠some g)(j:Ba w c T P L i v.ks v.ps v.ls)(y:Ar w c Q v.H)(x:Ar w c M v.ms)(l:∀g,Ap Q=some g->Ap M≠some g)(p:∀g,Ap S=some g\/Ap U=some g->g∉BX T P L i)(r:∀g,Ap Q=some g\/Ap M=some g->g∉BX T P L i)(t:∀g d,Ap S=some g\/Ap U=some g->Ap Q=some d\/Ap M=some d->g≠d):AM w c S U T P L Q M i v:=by
 refine⟨z,A,j,y,x,?_⟩;have k:=j.nd;rw[Fo]at k;unfold DZ;generalize BX T P L i=B at *
 generalize Ap S=s at *
 generalize Ap U=u at *
 generalize Ap Q=q at *
 generalize Ap M=m at *
 have h:∀o:Option Nat,o.toList.Nodup:=λo=>by cases o<;>simp
 simp only[nodup_append,A7,A8];refine⟨⟨h _,h _,λa f b d e=>n a f (e▸d)⟩,⟨k,⟨h _,h _,λa f b d e=>l a f (e▸d)⟩,λa f b d e=>r b d (e▸f)⟩,λa f b d e=> ?_⟩;rcases d with d|d
 .exact p a f (e▸d)
 .exact t a b f d e
theorem Wm{a:Zi}(h:¬a=⟨#[]⟩):a.toList.isEmpty=false:=by
 cases e:a.toList with
 |nil=>exact absurd (toList_inj (b:=⟨#[]⟩) (by rw[e];simp)) h
 |cons x l=>rfl
def dL(d:Dd)(vs:Zj):Zj:=Zg d.c::(vs++[.string d.s,Zg d.n,.string d.a,.string d.b])
theorem Abz{d:Dd}{a:Zj}(h:Aa X b (dL d a))(c:a.length=17):X.cell? (Zd b 0)=some (Zg d.c)/\X.cell? (Zd b 18)=some (C4 d.s)/\X.cell? (Zd b 19)=some (Zg d.n)/\X.cell? (Zd b 20)=some (C4 d.a)/\X.cell? (Zd b 21)=some (C4 d.b)/\X.rangeAt b 1 a:=by
 have e:∀j u,[C4 d.s,Zg d.n,C4 d.a,C4 d.b][j]?=some u->X.cell? (Zd b (18+j))=some u:=λj u f=>(h (18+j) u (by
  unfold dL;rw[show 18+j=(17+j)+1 by omega,getElem?_cons_succ,getElem?_append_right Yv,c,show 17+j -17=j by omega];exact f)).1
 exact⟨(h 0 _ rfl).1,e 0 _ rfl,e 1 _ rfl,e 2 _ rfl,e 3 _ rfl,Aa.gu [Zg d.c] a _ h⟩
theorem MD{d:Dd}{b:Zj}(h:b.length=17/\∀u∈b,u.oneCell'=true):(dL d b).length=22/\∀u∈dL d b,u.oneCell'=true:=by
 refine⟨by simp[dL,h.1],λu a=> ?_⟩;simp only[dL,Bv,A7,not_mem_nil,or_false]at a;rcases a with rfl|a|rfl|rfl|rfl|rfl
 .rfl
 .exact h.2 u a
 .rfl
 .rfl
 .rfl
 .rfl
theorem Aa.js(h:Aa X b l)(c:l.length=n+1):b<X.1.size:=by
 cases l with
 |nil=>simp at c
 |cons a l=>exact h.lt
theorem ON{d:Dd}{a:Zj}(h:Aa X b (dL d a))(c:a.length=17):(X.cell? (Zd b 0)=some (Zg d.c)/\X.frozen? ⟨b,0,none⟩=false)/\(X.cell? (Zd b 20)=some (C4 d.a)/\X.frozen? ⟨b,20,none⟩=false)/\X.cell? (Zd b 21)=some (C4 d.b)/\X.frozen? ⟨b,21,none⟩=false:=by obtain⟨m,n,o,p,q,r,s,t,u,v,e,f,g,i,j,k,l,rfl⟩:=IB c;exact⟨h 0 _ rfl,h 20 _ rfl,h 21 _ rfl⟩
theorem Ni{d:Dd}{a:Zj}(h:Aa X b (dL d a))(c:Int):Aa (X.setCell (Zd b 0) (Zg c)) b (dL ⟨c,d.v,d.s,d.n,d.a,d.b⟩ a):=h.set 0 _
theorem ZG{d:Dd}{a:Zj}(h:Aa X b (dL d a))(e:a.length=17)(c:Int)(p q:Zi):Aa (((X.setCell (Zd b 0) (Zg c)).setCell (Zd b 20) (.string p)).setCell (Zd b 21) (.string q)) b (dL ⟨c,d.v,d.s,d.n,p,q⟩ a):=by obtain⟨n,o,r,s,t,u,v,w,x,y,f,g,i,j,k,l,m,rfl⟩:=IB e;exact((h.set 0 _).set 20 _).set 21 _
def Kg(v:Vd)(e:Ed)(Z:Rs->Zk->Nat->Zk->Nat->Zk->Nat->Zh->Prop)(X:Zh)(ch:Zj):Prop:=
 (∃c p q,e.no v c p q/\ch=BE c p q)\/∃r ta tc pa pc la lc,e.yes v r/\ch=[Ze,Zg v.wd,Zg r.D,Zg r.F,Zg r.C,.slice ta r.ks.length tc,.slice pa r.ps.length pc,.slice la r.ls.length lc,.string r.j,Zg r.le,Zc,Zc]/\Z r ta tc pa pc la lc X
theorem Kg.small{e:Ed}{Z:Rs->Zk->Nat->Zk->Nat->Zk->Nat->Zh->Prop}{a:Zj}(h:Kg v e Z X a):a.length=12/\∀u∈a,u.oneCell'=true:=by
 rcases h with⟨c,p,q,_,rfl⟩|⟨r,i,j,f,g,b,d,_,rfl,_⟩
 .exact⟨rfl,by simp[BE,oneCell']⟩
 .exact⟨rfl,by simp[oneCell']⟩
theorem AM.dh{d:Zh}{a:Nat}{i:Zj}(h:AM d a S U T P L Q M i v)(k:n<=a)(e:Zz d X):∀V c,(∀b∈V,b<n)->Tn V X c->VRa v c.1.size c (Bw v S U T P L Q M):=λV c f c=>by refine(h.stays (((Tn.of (V:=[]) e).aj Yu).ah c) (λb g c=> ?_)).jr;have j:=h.lo b c;have:=f b g;omega
theorem AM.ap{w:Zh}{d:Zj}(h:AM w c S U T P L Q M d v):(∀g,Ap U=some g->Ap S≠some g)/\∀g,Ap U=some g->Ap Q≠some g/\Ap M≠some g:=by
 have a:=h.nd;unfold DZ at a;generalize BX T P L d=B at *
 simp only[nodup_append,A7,A8]at a;refine⟨λg b e=>a.1.2.2 g e g b rfl,λg b=>⟨λf=> ?_,λe=> ?_⟩⟩
 .exact a.2.2 g (.inr b) g (.inr (.inl f)) rfl
 .exact a.2.2 g (.inr b) g (.inr (.inr e)) rfl
def Kh(wd:Int)(ks:List Kd):Prop:=∀k∈ks,AG k.J k.B wd=true
theorem Kh.step{f b:Int}{n:Dj}{w:Dy}{v:Dv}{o:Zi}{d:Zi}{c:Zl}(h:Kh g n)(q:Bp m s o i d c g=true)(j:BP g p f b n w v m s o i d c r):Kh g r.ks:=by
 have⟨D,E,e⟩:=Ee q;rcases j with⟨rfl,_,u,t,z,A,j,rfl⟩|⟨_,_,l,rfl⟩|⟨_,_,rfl⟩|⟨_,_,u,t,rfl⟩|⟨_,_,rfl⟩|⟨_,C,rfl⟩|⟨_,_,_,rfl⟩
 .rcases j with⟨_,_,_,_,rfl,rfl⟩|⟨y,x,B,rfl,rfl⟩
  .exact h
  .intro k a;rcases A7.1 (Ho.1 a)with a|a
   .exact h k a
   .rw[mem_singleton]at a;subst a;exact e.fp rfl
 .exact h
 .exact h
 .exact h
 .exact h
 .exact h
 .exact λk a=>h k (filter_sublist.subset a)
theorem CZ.tok:∀{xs:Zl} {r r':Rs},CZ a r xs r'->Kh a r.ks->Kh a r'.ks
 |[],r,r',h,hr=>by obtain rfl:r'=r:=h;exact hr
 |x::xs,r,r',h,hr=>by obtain⟨d,b,c⟩:=h;exact CZ.tok c (hr.step (Ih b.1).1 b.2)
theorem ES.tok(h:ES v r):Kh v.wd v.ks:=by have a:=h.run.tok (by intro k b;cases b);rwa[h.same.2.1]at a
def Wn(w:Zh)(lo:Nat)(a:Zk)(ss:Zl):Prop:=
 ss=[]\/∃b off,a=some ⟨b,off,none⟩/\b<lo/\(∃cur,w.1[b]?=some (.cells cur 9))/\∀i s,ss[i]?=some s->w.cell? (Zd b (off+i))=some (.string s)
theorem Wn.A{w:Zh}{a:Zk}{g:Zl}(h:Wn w e a g)(f:Below e w j):Wn j e a g:=by
 rcases h with h|⟨b,c,l,d,⟨k,m⟩,o⟩
 .exact .inl h
 .exact .inr ⟨b,c,l,d,⟨k,(f.block b d).ah m⟩,λi s n=>(f.cell (p:=⟨b,c+i,none⟩) d).ah (o i s n)⟩
theorem Dr.zero{V:Zh}{m:Nat}{O:D4}{c:Int}{k:Dj}{o:Dy}{l:Dv}(h:Dr V e d m O P L p g c a k o l)(G:e+4<=m):Dr V 0 d m O P L p g c a k o l:=by
 have⟨n,f,r,t,v⟩:=h.map;refine⟨h.box,⟨n,f,r,t,λs i=> ?_⟩,h.ord.aj (Az _),h.cj.aj (Az _),h.dq.aj (Az _),Az _,Az _,h.ap⟩;rcases v s i with h|⟨u,E,F,B,C,D,j⟩
 .exact .inl h
 .refine .inr ⟨u,E,F,B,C,D,?_⟩;rcases j with j|⟨b,q,w,x,A,i,y⟩
  .exact .inl j
  .refine .inr ⟨b,q,w,x,A,.inr ⟨Az _,?_⟩,y⟩;rcases i with⟨_,I,z,H⟩|⟨_,i⟩
   .simp[vB]at z;omega
   .exact i
theorem Qc.has{m:Nat}{Z:Zh}(h:Qc 0 d m a r X)(b:∀k∈r.ks,(k.sum.size:Int)=a)(g:Z.1[m]?=X.1[m]?)(s:Zi):RZ Z a m r.ks s:=by obtain⟨O,P,L,h⟩:=h;have⟨n,f,i,c,e⟩:=h.map;exact Fm a m n f r.ks X X.1.size s Z (c.same g) e.holds b
theorem Rg(v:Vd)(a:Va)(w:Zh)(A:∀X,Zz w X->D8 106 #[.agg #[C3 a.i v.ss.length a.sc,C3 a.Y v.E.length a.Z]] X λe l=>∃x j y k,e=C5 (.agg #[Yz x v.ss.length j,Yz y v.E.length k])/\l.ownsRow X.1.size 9 1 (Yz x v.ss.length j) v.ss.length (v.ss.map string)/\l.ownsRow X.1.size 9 1 (Yz y v.E.length k) v.E.length (v.E.map string)/\x≠y/\Zz X l)(G:∀X,Zz w X->D8 31 #[.agg (Yg v.O v.D v.F v.C a.W v.ks.length a.X a.N v.ps.length a.Q a.L v.ls.length a.P)] X λe l=>∃T P L q,e=C5 (.agg #[Zg v.O,Zg v.D,Zg v.F,Zg v.C,T,P,L])/\Ba l X.1.size T P L q v.ks v.ps v.ls/\(∀u∈T::P::L::q,∃g n c,u=Yz g n c)/\Zz X l)(D:∀X,Zz w X->D8 158 #[.agg (Ya v.M a.qa v.H.length a.qc a.y v.ms.length a.mc v.U v.V v.ro)] X λe l=>∃i d f b,e=C5 (.agg (Ya v.M (some ⟨i,0,none⟩) v.H.length d (some ⟨f,0,none⟩) v.ms.length b v.U v.V v.ro))/\l.ownsRow X.1.size 9 1 (Yz i v.H.length d) v.H.length (v.H.map string)/\l.ownsRow X.1.size 9 1 (Yz f v.ms.length b) v.ms.length (v.ms.map string)/\i≠f/\Zz X l):
 D8 134 #[.agg (Xq v a)] w λe l=>∃(S U T P L Q M:D4) (q:Zj),e=C5 (.agg #[Zg v.wd,Zg v.lim,S,U,Zg v.O,Zg v.D,Zg v.F,Zg v.C,T,P,L,Zg v.M,Q,M,Zg v.U,Zg v.V,Zg v.ro])/\AM l w.1.size S U T P L Q M q v/\(∀u∈S::U::Q::M::T::P::L::q,∃g n c,u=Yz g n c)/\Zz w l:=by
 have⟨W,t⟩:=Ae ((w.alloc (.cells (Xq v a) 100)).alloc (.cells Xp 100));have B:=(Bi t).1;have zW:=(Bi t).2.1;have HX:Hid (Aa W _ _):=(Bi t).2.2.1;have HZ:Hid (Aa W (w.1.size+1) Xo):=by have A:=Aa.new (w.alloc (.cells (Xq v a) 100)) Xo 100;rw[Al]at A;show Aa W (w.1.size+1) Xo;rw[t];exact A
 have H1:=Yw A;have H2:=Yw G;have H3:=Yw D;have F:Hid (∀X,Zz W X->Aa X w.1.size (Xn v a)):=λX z=>Aa.A HX z;have C:=Yw t;clear t A G D;go_enter func134,ntmps134;go_upto_region 1 with fail;rw[<-C.o];clear C
 go_cut [0] (λu t=>∃x j y k r s o p l m q i d f b,Hid (Aa t (w.1.size+1) (Xm v (some ⟨x,0,none⟩) j (some ⟨y,0,none⟩) k r s o p l m (some ⟨i,0,none⟩) d (some ⟨f,0,none⟩) b)/\Zz w t/\AM t w.1.size (C7 x v.ss j) (C7 y v.E k) (C1 r v.ks s) (C1 o v.ps p) (C1 l v.ls m) (C7 i v.H d) (C7 f v.ms b) q v/\∀u∈(C1 r v.ks s)::(C1 o v.ps p)::(C1 l v.ls m)::q,∃g n c,u=Yz g n c))
 case first=>
  refine wp_region_held_drew (S:=λX=>Aa X w.1.size (Xn v a)) Yr (F _ Ad.drew) (λt=> ?_);refine BZ 0 (Yy w.1.size) ?_;try simp only[Act.put,Zq,Zp,Zo]
  refine Fl 1 (Zg v.wd) rfl (by exact Or.inl ⟨Yp,λX z=>by have h0:=(z 0 _ rfl).1;go_simp⟩) ?_;try simp only[Act.put,Zq,Zp,Zo]
  refine BZ 2 (Yx w.1.size 1) ?_;try simp only[Act.put,Zq,Zp,Zo]
  refine Fl 3 (Zg v.lim) rfl (by exact Or.inl ⟨Yp,λX z=>by have h0:=(z 1 _ rfl).1;go_simp⟩) ?_;try simp only[Act.put,Zq,Zp,Zo]
  refine BZ 4 (Yx w.1.size 2) ?_;try simp only[Act.put,Zq,Zp,Zo]
  refine Fl 5 (.agg #[C1 a.i v.ss a.sc,C1 a.Y v.E a.Z]) rfl (by exact yieldsIf_load_mid Yp 96 _ rfl (w.1.size) 2 rfl [C1 a.i v.ss a.sc,C1 a.Y v.E a.Z] _ (λX h=>Aa.gu [Zg v.wd,Zg v.lim] [C1 a.i v.ss a.sc,C1 a.Y v.E a.Z] [Zg v.O,Zg v.D,Zg v.F,Zg v.C,C1 a.W v.ks a.X,C1 a.N v.ps a.Q,C1 a.L v.ls a.P,Zg v.M,C1 a.qa v.H a.qc,C1 a.y v.ms a.mc,Zg v.U,Zg v.V,Zg v.ro] h) underlying96 rfl Yr) ?_
  try simp only[Act.put,Zq,Zp,Zo]
  refine BZ 7 (Yx w.1.size 4) ?_;try simp only[Act.put,Zq,Zp,Zo]
  refine Fl 8 (.agg (C9 v.O v.D v.F v.C a.W v.ks a.X a.N v.ps a.Q a.L v.ls a.P)) rfl (by exact yieldsIf_load_mid Yp 27 _ rfl (w.1.size) 4 rfl (C8 v.O v.D v.F v.C a.W v.ks a.X a.N v.ps a.Q a.L v.ls a.P) _ (λX h=>Aa.gu [Zg v.wd,Zg v.lim,C1 a.i v.ss a.sc,C1 a.Y v.E a.Z] (C8 v.O v.D v.F v.C a.W v.ks a.X a.N v.ps a.Q a.L v.ls a.P) (Xw v.M a.qa v.H.length a.qc a.y v.ms.length a.mc v.U v.V v.ro) h) underlying27 rfl Yr) ?_
  try simp only[Act.put,Zq,Zp,Zo]
  refine BZ 10 (Yx w.1.size 11) ?_;try simp only[Act.put,Zq,Zp,Zo]
  refine Fl 11 (.agg (Ya v.M a.qa v.H.length a.qc a.y v.ms.length a.mc v.U v.V v.ro)) rfl (by exact yieldsIf_load_mid Yp 98 _ rfl (w.1.size) 11 rfl (Xw v.M a.qa v.H.length a.qc a.y v.ms.length a.mc v.U v.V v.ro) _ (λX h=>Aa.gu [Zg v.wd,Zg v.lim,C1 a.i v.ss a.sc,C1 a.Y v.E a.Z,Zg v.O,Zg v.D,Zg v.F,Zg v.C,C1 a.W v.ks a.X,C1 a.N v.ps a.Q,C1 a.L v.ls a.P] (Xw v.M a.qa v.H.length a.qc a.y v.ms.length a.mc v.U v.V v.ro) [] h) underlying98 rfl Yr) ?_
  try simp only[Act.put,Zq,Zp,Zo]
  refine CL 6 (λK z=> ?_);go_simp;refine(H1 W.drew B.drew).aj ?_;rintro e w1 ⟨x,j,y,k,rfl,zG,C,h,zF⟩;have V:=(Below.refl W.1.size W).drew.ah zF;try go_simp
  refine z.out _ _ (F w1 V) (λt=> ?_);clear z K;try simp only[Act.put,Zq,Zp,Zo]
  refine CL 9 (λK z=> ?_);go_simp;refine(H2 w1 (B.ah (V.aj B.size))).aj ?_;rintro e w2 ⟨T,P,L,q,rfl,O,zB,H⟩;obtain⟨r,s,o,p,l,m,rfl,rfl,rfl,_⟩:=O.rows;have E:=V.ah (H.aj V.size);try go_simp
  refine z.out _ _ (F w2 E) (λt=> ?_);clear z K;try simp only[Act.put,Zq,Zp,Zo]
  refine CL 12 (λK z=> ?_);go_simp;refine(H3 w2 (B.ah (E.aj B.size))).aj ?_;rintro e N ⟨i,d,f,b,rfl,zH,D,n,I⟩;have J:Below W.1.size W N:=E.ah (I.aj E.size);try go_simp
  refine z.out _ _ (F N J) (λt=> ?_);clear z K;try simp only[Act.put,Zq,Zp,Zo]
  refine BZ 13 (.agg (Xl v (some ⟨x,0,none⟩) j (some ⟨y,0,none⟩) k r s o p l m (some ⟨i,0,none⟩) d (some ⟨f,0,none⟩) b)) ?_;try simp only[Act.put,Zq,Zp,Zo]
  refine CL 14 (λK z=> ?_)
  have zE:AM N W.1.size (C7 x v.ss j) (C7 y v.E k) (C1 r v.ks s) (C1 o v.ps p) (C1 l v.ls m) (C7 i v.H d) (C7 f v.ms b) q v:=AM.of (n1:=w1.1.size) (n2:=w2.1.size) (Ar.own (Ah (Ah zG H) I)) (Ar.own (Ah (Ah C H) I)) (λg A G=>by cases A;cases G;exact h rfl) (λg t=>by rcases t with t|t;(cases t;exact(zG.lt _ rfl).2);(cases t;exact(C.lt _ rfl).2)) (O.A I) zF.size O.dj (Ar.own (zH.aj E.size)) (Ar.own (D.aj E.size)) (λg t=>by rcases t with t|t;(cases t;exact(zH.lt _ rfl).1);(cases t;exact(D.lt _ rfl).1)) H.size (λg A G=>by cases A;cases G;exact n rfl)
  have zA:((Xl v (some ⟨x,0,none⟩) j (some ⟨y,0,none⟩) k r s o p l m (some ⟨i,0,none⟩) d (some ⟨f,0,none⟩) b):Array Value).all (·.oneCell')=true:=by simp[oneCell']
  have zC:=Aa.A (v:=Ze) HZ J;have⟨Z,R⟩:=Ae (N.setCells (w.1.size+1) 0 (Xm v (some ⟨x,0,none⟩) j (some ⟨y,0,none⟩) k r s o p l m (some ⟨i,0,none⟩) d (some ⟨f,0,none⟩) b));have x9:Aa Z (w.1.size+1) (Xm v (some ⟨x,0,none⟩) j (some ⟨y,0,none⟩) k r s o p l m (some ⟨i,0,none⟩) d (some ⟨f,0,none⟩) b):=by rw[R];exact zC.ay _ rfl
  have X:Tn [w.1.size+1] N Z:=by rw[R];exact AV _ _ _ _
  have z3:=J.size;have B9:Below w.1.size w Z:=(B.ah (J.aj B.size)).ah (X.A Yv Yu);have zI:AM Z w.1.size (C7 x v.ss j) (C7 y v.E k) (C1 r v.ks s) (C1 o v.ps p) (C1 l v.ls m) (C7 i v.H d) (C7 f v.ms b) q v:=(zE.stays X (λg t Y=>by have:=zE.lo g Y;simp at t;omega)).aj Yv
  have c:=Yw (Zn x9 (Zn B9 (Zn zI zB)));have g:=Aa.same (Aa.A HX J) (X.block _ Yv Yu);rw[if_pos Yp];refine wp_store_mid 100 _ _ rfl (w.1.size+1) 0 (Xl v (some ⟨x,0,none⟩) j (some ⟨y,0,none⟩) k r s o p l m (some ⟨i,0,none⟩) d (some ⟨f,0,none⟩) b) rfl rfl zC.there Yr zA ?_;try rw[<-R]
  refine z.out _ _ g (λY=> ?_);clear z K;try simp only[Act.put]
  refine wpAnyH_done Yr ?_ _;go_wp2_with fail;go_meet;exact⟨x,j,y,k,r,s,o,p,l,m,q,i,d,f,b,c⟩
 case rest=>
  obtain⟨x,j,y,k,r,s,o,p,l,m,q,i,d,f,b,Y⟩:=hcut;go_wp2;refine bodyPost_ret (AY results134 _ _ (w.1.size+1) (Xm v (some ⟨x,0,none⟩) j (some ⟨y,0,none⟩) k r s o p l m (some ⟨i,0,none⟩) d (some ⟨f,0,none⟩) b) _ rfl Y.1.range underlying100 rfl Yr) rfl ?_;refine⟨_,_,_,_,_,_,_,q,rfl,Y.2.2.1,λu z=> ?_,Y.2.1⟩;rcases Bv.1 z with rfl|z
  .exact⟨_,_,_,rfl⟩
  rcases Bv.1 z with rfl|z
  .exact⟨_,_,_,rfl⟩
  rcases Bv.1 z with rfl|z
  .exact⟨_,_,_,rfl⟩
  rcases Bv.1 z with rfl|z
  .exact⟨_,_,_,rfl⟩
  exact Y.2.2.2 u z
structure RX (wd births:Int) (ks:List Kd) (ps:List Pd) (ls:List Ld):Prop where
 b1:∀k∈ks,1<=k.born/\k.born<=births
 un:∀x∈ks,∀y∈ks,x.born=y.born->x=y
 rs:∀k∈ks,∀r∈k.B,(r.size:Int)=wd
 gx:∀p∈ps,(p.sum.size:Int)=wd
 ig:∀l∈ls,(l.sum.size:Int)=wd
theorem Jc{b:Int}{a:Dj}(h:Ev b a)(c:Am a s):(s.size:Int)=b:=by obtain⟨u,d,e⟩:=c;rw[<-e];exact h.sz u d
theorem RX.step{o A j:Int}{u:Dj}{z:Dy}{w:Dv}{F:Int}{C:Zi}{D:Int}{d:Zi}{c:Zl}(h:RX o a u z w)(t:FN o A j a u z w)(i:BP o A j a u z w F s C D d c r):RX o r.C r.ks r.ps r.ls:=by
 have m:∀(x:Ld),(x.sum.size:Int)=o->∀l∈w++[x],(l.sum.size:Int)=o:=λx n l g=>by
  rcases A7.1 g with g|g
  .exact h.ig l g
  .rw[mem_singleton.1 g];exact n
 rcases i with⟨rfl,q,g,J,G,H,i,rfl⟩|⟨_,q,_,rfl⟩|⟨_,_,rfl⟩|⟨_,q,_,_,rfl⟩|⟨_,_,rfl⟩|⟨_,_,rfl⟩|⟨_,_,_,rfl⟩
 .rcases i with⟨_,_,_,_,rfl,rfl⟩|⟨_,_,_,rfl,rfl⟩
  .exact⟨h.b1,h.un,h.rs,h.gx,m _ (EK _ _ _ t.w1)⟩
  .have v:∀k∈De u ⟨AX d c o,a+1,d,c⟩,k=⟨AX d c o,a+1,d,c⟩\/k∈u:=λk f=>Bv.1 ((Ef u _).mem_iff.1 f);have I:=t.az;refine⟨λk f=> ?_,λx n y i e=> ?_,λk f r b=> ?_,h.gx,m _ (EK _ _ _ t.w1)⟩
   .rcases v k f with rfl|f
    .exact⟨by show 1<=a+1;omega,Int.le_refl _⟩
    .have:=h.b1 k f;exact⟨this.1,by show _<=a+1;omega⟩
   .rcases v x n with rfl|n<;>rcases v y i with rfl|i
    .rfl
    .have:=(h.b1 y i).2;have E:a+1=y.born:=e;omega
    .have:=(h.b1 x n).2;have E:x.born=a+1:=e;omega
    .exact h.un x n y i e
   .rcases v k f with rfl|f
    .exact Jc t.bt (q r b)
    .exact h.rs k f r b
 .refine⟨h.b1,h.un,h.rs,λp B=> ?_,h.ig⟩;have b:p∈Bh z C s:=B;unfold Bh at b;rcases A7.1 b with b|b
  .rcases A7.1 b with b|b
   .exact h.gx p (Bb.1 b).1
   .rw[mem_singleton.1 b];exact Jc t.bt q
  .exact h.gx p (Bb.1 b).1
 .exact⟨h.b1,h.un,h.rs,λp B=>h.gx p (Bb.1 B).1,h.ig⟩
 .exact⟨h.b1,h.un,h.rs,h.gx,m _ (Jc t.bt q)⟩
 .exact⟨h.b1,h.un,h.rs,h.gx,λl g=>h.ig l (Bb.1 g).1⟩
 .exact⟨h.b1,h.un,h.rs,h.gx,λl g=>h.ig l (Bb.1 g).1⟩
 .exact⟨λk f=>h.b1 k (Bb.1 f).1,λx n y i e=>h.un x (Bb.1 n).1 y (Bb.1 i).1 e,λk f=>h.rs k (Bb.1 f).1,h.gx,h.ig⟩
theorem CZ.rx:∀{xs:Zl} {r r':Rs},CZ a r xs r'->r.ok a->RX a r.C r.ks r.ps r.ls->RX a r'.C r'.ks r'.ps r'.ls
 |[],r,r',h,_,hx=>by obtain rfl:r'=r:=h;exact hx
 |x::xs,r,r',h,hr,hx=>by obtain⟨d,b,c⟩:=h;exact CZ.rx c (b.ok hr) (hx.step hr b.2)
def UR.and(u r:UR):UR:=⟨r.ks,r.M,r.U,r.V,r.ro,r.H,r.ms,u.ds++r.ds⟩
def EN(v:Vd):UR:=⟨v.ks,v.M,v.U,v.V,v.ro,v.H,v.ms,[]⟩
def Qh(ps:List Pd)(ls:List Ld)(births:Int)(u r:UR):Prop:=UTo u.ks ps ls births u.M u.U u.V u.ro u.H u.ms r
structure Ki (wd births:Int) (ps:List Pd) (ls:List Ld) (free:Nat) (u:UR):Prop where
 ok:UOk wd births u.ks ps ls u.M u.ro u.H u.ms
 un:∀x∈u.ks,∀y∈u.ks,x.born=y.born->x=y
 ql:u.H.length<=23200
 ml:u.ms.length<=600
 dl:u.ds.length+u.ks.length<=600
 df:u.ds.length<=free
theorem ME(h:ES v r):Ki v.wd v.C v.ps v.ls (4000 -(v.ss++v.E).length) (EN v):=by
 have a:=h.fy;have c:RX v.wd r.C r.ks r.ps r.ls:=h.run.rx (FJ h.wd.1 h.wd.2) ⟨by simp[r0],by simp[r0],by simp[r0],by simp[r0],by simp[r0]⟩;have⟨⟨_,_,_,e⟩,f,e6,g⟩:=h.same;rw[e,f,e6,g]at c;have b:=h.round;have j:=b.ft.nq;have i:=b.ft.nm
 refine⟨⟨a.bt,λk d=>(c.b1 k d).1,λk d=>⟨a.fc k d,c.rs k d⟩,a.np,a.nl,c.gx,c.ig,a.az,a.ai,?_,b.jy,b.kk,b.ft.q,b.ft.m,by show v.H.length<=_;omega,by show v.ms.length<=_;omega⟩,c.un,by show v.H.length<=_;omega,by show v.ms.length<=_;omega,by show 0+v.ks.length<=600;have:=a.bt.len;omega,Az _⟩;rcases b.M with h|h|h
 .exact .inl h.1
 .exact .inr (.inl h.1)
 .exact .inr (.inr h.1)
theorem Tq{e:Int}{j:Dy}{i:Dv}(m:∀p∈j,(p.sum.size:Int)=e)(k:∀l∈i,(l.sum.size:Int)=e):∀x∈DQ j i,(x.size:Int)=e:=by
 have b:∀(f c:Zl),(∀x∈f,(x.size:Int)=e)->(∀x∈c,(x.size:Int)=e)->∀x∈f.foldl BO c,(x.size:Int)=e:=by
  intro f;induction f with
  |nil=>intro c _ h x a;exact h x a
  |cons y ys ih=>
   intro c d g;refine ih _ (λx a=>d x (mem_cons_of_mem _ a)) (λx a=> ?_);unfold BO at a;split at a
   .exact g x a
   .rcases A7.1 a with a|a
    .exact g x a
    .rw[mem_singleton.1 a];exact d y Yu
 unfold DQ;refine b _ _ (λx a=> ?_) (b _ _ (λx a=> ?_) Yu)
 .obtain⟨l,d,rfl⟩:=mem_map.1 a;exact k l d
 .obtain⟨p,d,rfl⟩:=mem_map.1 a;exact m p d
theorem Ki.step{c:Int}{p:Dy}{o:Dv}{free:Nat}{u r:UR}(h:Ki g c p o free u)(z:Qh p o c u r)(G:u.ro≠1000000000)(D:r.H.length<=23200)(C:r.ms.length<=600)(n:r.ds=[]\/u.ds.length<free):Ki g c p o free (u.and r):=by
 have a:=UTo.sub z;have f:=h.ok.r1;have d:=h.ok.r0;have hlen:=a.length_le;have A:Ev g r.ks:=by have k:=h.ok.ok;exact⟨k.nd.sublist (a.map _),k.dm.sublist (a.map _),λx b=>k.sz x (a.subset b),λx b=>k.B x (a.subset b),Zm hlen k.len,k.w8⟩
 have B:∀x∈r.ks,∀y∈r.ks,x.born=y.born->x=y:=λx b y i e=>h.un x (a.subset b) y (a.subset i) e;have m:∀k∈r.ks,1<=k.born:=λk l=>h.ok.born k (a.subset l);have hrefs:∀k∈r.ks,k.B.length<=30/\∀r∈k.B,(r.size:Int)=g:=λk l=>h.ok.B k (a.subset l)
 have i:∀(t:r.M=0\/r.M=1\/r.M=2) (j:0<=r.ro) (w:r.ro<=1000000000) (v:∀x∈r.H,(x.size:Int)=g) (q:∀x∈r.ms,(x.size:Int)=g),(r.ds.length+r.ks.length<=u.ks.length)->r.ds.length<=1->Ki g c p o free (u.and r):=λt j w v q E E=>by
  have F:=h.dl;have E:=h.df;refine⟨⟨A,m,hrefs,h.ok.pl,h.ok.ll,h.ok.gx,h.ok.ig,h.ok.b0,h.ok.b1,t,j,w,v,q,by show r.H.length<=_;omega,by show r.ms.length<=_;omega⟩,B,D,C,?_,?_⟩
  .show(u.ds++r.ds).length+r.ks.length<=600;rw[Ak];omega
  .show(u.ds++r.ds).length<=free;rw[Ak];rcases n with n|n
   .rw[n,length_nil];omega
   .omega
 cases z with
 |begin j=>exact i (.inr (.inl rfl)) d f (Tq h.ok.gx h.ok.ig) h.ok.jm Yu Yu
 |mark j s q0 qs' ms' hqq hmm=>
  have q:∀x∈q0,(x.size:Int)=g:=λx b=>h.ok.kg x (by rw[hqq];exact mem_cons_of_mem _ b);have t:(s.size:Int)=g:=h.ok.kg s (by rw[hqq];simp);rcases hmm with⟨_,rfl,rfl⟩|⟨k,l,_,_,rfl,rfl⟩
  .exact i h.ok.kh d f q h.ok.jm Yu Yu
  .refine i h.ok.kh d f (λx b=> ?_) (λx b=> ?_) Yu Yu
   .rcases A7.1 b with b|b
    .exact q x b
    .exact(h.ok.B k l).2 x (Bb.1 b).1
   .rcases A7.1 b with b|b
    .exact h.ok.jm x b
    .rw[mem_singleton.1 b];exact t
 |rest j hqq hn=>exact i (.inl rfl) (by show 0<=u.ro+1;omega) (by show u.ro+1<=_;omega) Yu Yu Yu Yu
 |ag j hqq x b l=>exact i (.inr (.inr rfl)) d f Yu h.ok.jm Yu Yu
 |drop j hqq x b hmm l=>
  refine i (.inr (.inr rfl)) d f Yu h.ok.jm ?_ Yu;have j:(CJ u.ks x.sum).length<u.ks.length:=by unfold CJ;exact length_filter_lt_length_iff_exists.2 ⟨x,b.1,Yu⟩
  show 1+(CJ u.ks x.sum).length<=u.ks.length;omega
theorem UTo.some{c:Dv}{u r:UR}(h:Qh ps c a u r)(b:r.ds≠[]):r.H=[]/\r.ms=u.ms/\∃s,r.ds=[s]:=by
 cases h with
 |begin h0=>exact absurd rfl b
 |mark h0 s q0 qs' ms' hqq hmm=>exact absurd rfl b
 |rest h0 hqq hn=>exact absurd rfl b
 |ag h0 hqq x hx hk=>exact absurd rfl b
 |drop h0 hqq x hx hmm hk=>exact⟨rfl,rfl,_,rfl⟩
inductive ClTo (births:Int) (ps:List Pd) (ls:List Ld) (free units:Nat):Nat->UR->Option (UR×Nat)->Prop
 |fin (n:Nat) (u:UR) (h:units<=n):ClTo births ps ls free units n u (some (u,n))
 |old (n:Nat) (u:UR) (h:n<units) (hr:u.ro=1000000000):ClTo births ps ls free units n u none
 |full (n:Nat) (u r:UR) (h:n<units) (hr:u.ro≠1000000000) (ht:Qh ps ls births u r) (hd:r.ds≠[]) (hf:¬u.ds.length<free):ClTo births ps ls free units n u (some (u,n))
 |long (n:Nat) (u r:UR) (h:n<units) (hr:u.ro≠1000000000) (ht:Qh ps ls births u r) (hl:23200<r.H.length\/600<r.ms.length):ClTo births ps ls free units n u none
 |step (n:Nat) (u r:UR) (o:Option (UR×Nat)) (h:n<units) (hr:u.ro≠1000000000) (ht:Qh ps ls births u r) (hq:r.H.length<=23200) (hm:r.ms.length<=600) (hf:r.ds=[]\/u.ds.length<free) (hs:ClTo births ps ls free units (n+1) (u.and r) o):ClTo births ps ls free units n u o
