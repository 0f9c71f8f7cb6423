import Derived.Test.YtoglnpagihdhpaaGreatDoorX05
import Derived.Test.YtoglnpagihdhpaaGreatDoorX04
import Derived.Test.YtoglnpagihdhpaaGreatDoorX03
import Derived.BigRegion
set_option maxRecDepth 100000
set_option maxHeartbeats 16000000
namespace Go.Proofs.YtoglnpagihdhpaaGreatDoor
open ChangeShapes WideShapes ChangeAt RowKit _root_.Go.Proofs.Tryz
variable{w e c W V:Zh}{b k:Nat}{rest a s t:Zi}{kind n wd:Int}{bad:Bool}{l:List UInt8}{u v:Value}
theorem Abn:prog.cellsOf 3=1:=Yr
def IP:Zk->Value
 |none=> .nilIface
 |some q=> .iface 77 (.pointer (some q))
structure QR (w:Zh) (b:Nat) (rest:Zi) (kind:Int) (er:Zk):Prop where
 x0:w.cell? (Zd b 0)=some (.string rest)
 x1:w.cell? (Zd b 1)=some (Zg kind)
 x2:w.cell? (Zd b 2)=some (IP er)
 f0:w.frozen? ⟨b,0,none⟩=false
 f1:w.frozen? ⟨b,1,none⟩=false
 f2:w.frozen? ⟨b,2,none⟩=false
def DP(w:Zh)(b:Nat)(rest:Zi)(kind:Int)(bad:Bool):Prop:=∃er:Zk,er.isSome=bad/\QR w b rest kind er
theorem QR.lt{a:Zk}(h:QR w b rest kind a):b<w.heap.size:=World.block_lt_of_cell? w _ h.x0
theorem QR.below{d:Zk}(h:QR w b rest kind d)(a:Zz w e):QR e b rest kind d:=by have c:=h.lt;exact⟨(a.cell (p:=⟨b,0,none⟩) c).trans h.x0,(a.cell (p:=⟨b,1,none⟩) c).trans h.x1,(a.cell (p:=⟨b,2,none⟩) c).trans h.x2,(a.frozen (p:=⟨b,0,none⟩) c).trans h.f0,(a.frozen (p:=⟨b,1,none⟩) c).trans h.f1,(a.frozen (p:=⟨b,2,none⟩) c).trans h.f2⟩
theorem DP.below{a:Zh}(h:DP w b rest kind bad)(d:Zz w a):DP a b rest kind bad:=by obtain⟨c,h1,h2⟩:=h;exact⟨c,h1,h2.below d⟩
theorem Ga(b:Nat)(rest:Zi)(kind:Int)(bad:Bool)(d:TypeId)(f:Value)(w:Zh)(h:DP w b rest kind bad):
 Calls prog 56 #[Yy b,.iface d f] w fun e c=>e=.returned (.tuple #[])/\DP c b rest kind true/\w.grownBy c (some b):=by
 obtain⟨g,rfl,h⟩:=h;have o:=h.lt;obtain⟨l,m,a,i,j,k⟩:=h;cases g with
 |none=>
  simp only[IP]at a;go_enter func56,ntmps56;go_wp2
  go_end0
  refine⟨rfl,⟨some ⟨w.heap.size,0,none⟩,rfl,?_⟩,?_⟩
  .have n:b≠w.heap.size:=Yv
   constructor<;>simp[IP,go_sem, *]
  .exact(AA _ _ _ _).trans (World.grownBy_alloc _ _ _)
 |some q=>
  simp only[IP]at a;go_enter func56,ntmps56;go_wp2
  go_end0
  exact⟨rfl,⟨some q,rfl,⟨l,m,a,i,j,k⟩⟩,World.grownBy.refl _ _⟩
def Bj(rest:Zi)(bad:Bool)(n:Int):Zi×Zi×Bool:=
 if bad=true then (⟨#[]⟩,rest,true)else if (rest.size:Int)<n then (⟨#[]⟩,rest,true)else (rest.extract 0 n.toNat,rest.extract n.toNat rest.size,false)
theorem IQ(b:Nat)(rest:Zi)(kind:Int)(bad:Bool)(n:Int)(c:TypeId)(d:Value)(w:Zh)(h:DP w b rest kind bad)(r:bad=false->0<=n)(v:w.cell? (Zd 6 0)=some (.iface c d)):
 Calls prog 59 #[Yy b,Zg n] w fun e f=>e=.returned (.string (Bj rest bad n).1)/\DP f b (Bj rest bad n).2.1 kind (Bj rest bad n).2.2/\w.grownBy f (some b):=by
 have o:=h;obtain⟨i,rfl,h⟩:=h;have x:=h.lt;obtain⟨s,t,a,j,k,l⟩:=h;cases i with
 |none=>
  simp only[IP]at a;have u:=r rfl;by_cases hf:(rest.size:Int)<n
  .rw[show Bj rest (none:Zk).isSome n=(⟨#[]⟩,rest,true) by simp[Bj,hf]];have g:decide ((rest.size:Int)<n)=true:=by simpa using hf
   go_enter func59,ntmps59;go_wp2_with fail;refine(Ga b rest kind false c d w o).mono ?_;rintro e y ⟨rfl,h1,m⟩;go_wp2;go_ret;exact⟨rfl,h1,m⟩
  .rw[show Bj rest (none:Zk).isSome n=(rest.extract 0 n.toNat,rest.extract n.toNat rest.size,false) by simp[Bj,hf]];have g:decide ((rest.size:Int)<n)=false:=by simpa using hf
   go_enter func59,ntmps59;go_wp2;go_ret;refine⟨rfl,⟨none,rfl,?_⟩,AA _ _ _ _⟩;constructor<;>simp[IP,go_sem, *]
 |some q=>rw[show Bj rest (some q:Zk).isSome n=(⟨#[]⟩,rest,true) by simp[Bj]];simp only[IP]at a;go_enter func59,ntmps59;go_wp2;go_ret;exact⟨rfl,⟨some q,rfl,⟨s,t,a,j,k,l⟩⟩,World.grownBy.refl _ _⟩
def CB(l:List UInt8):Int:=l.foldl (fun a b=>a *256+(b.toNat:Int)) 0
theorem TC(l:List UInt8)(b:UInt8):CB (l++[b])=CB l *256+(b.toNat:Int):=by simp[CB]
theorem XA(l:List UInt8):∀a:Int,0<=a->0<=l.foldl (fun a b=>a *256+(b.toNat:Int)) a/\l.foldl (fun a b=>a *256+(b.toNat:Int)) a<(a+1) *256^l.length:=by
 induction l with
 |nil=>intro a c;simp;omega
 |cons b l ih=>intro a c;have d:=b.toNat_lt;obtain⟨h1,h2⟩:=ih (a *256+(b.toNat:Int)) Yv;refine⟨h1,Int.lt_of_lt_of_le h2 ?_⟩;rw[List.length_cons,Int.pow_succ,<-Int.mul_assoc,Int.mul_right_comm];exact Int.mul_le_mul_of_nonneg_right Yv (Int.pow_nonneg Yv)
theorem LS(l:List UInt8):0<=CB l/\CB l<256^l.length:=by have:=XA l 0 (Int.le_refl _);simpa [CB]using this
theorem Vb(a b:Nat)(f:a<2^30)(g:b<256):bits .or .i64 ((a:Int) *256) (b:Int)=(a:Int) *256+b:=by
 have c:((a:Int) *256)=((a *256:Nat):Int):=Yv
 have e:a *256|||b=a *256+b:=by have:=Nat.shiftLeft_add_eq_or_of_lt (i:=8) (b:=b) Yv a;rw[Nat.shiftLeft_eq,show(2:Nat)^8=256 from rfl]at this;omega
 have d:(BitVec.ofInt 64 ((a:Int) *256)|||BitVec.ofInt 64 (b:Int)).toNat=a *256+b:=by rw[c,BitVec.toNat_or,BitVec.ofInt_natCast,BitVec.ofInt_natCast,BitVec.toNat_ofNat,BitVec.toNat_ofNat,Nat.mod_eq_of_lt Yv,Nat.mod_eq_of_lt Yv,e]
 show IntKind.i64.wrap ((BitVec.ofInt 64 ((a:Int) *256)|||BitVec.ofInt 64 (b:Int)).toNat:Int)=_;rw[d,Et _ Yv Yv];omega
theorem GL(b:Nat)(rest:Zi)(kind:Int)(bad:Bool)(n:Nat)(m:TypeId)(o:Value)(w:Zh)(h:DP w b rest kind bad)(D:n<=4)(q:w.cell? (Zd 6 0)=some (.iface m o)):
 Calls prog 57 #[Yy b,Zg (n:Int)] w fun e r=>e=.returned (Zg (CB (Bj rest bad n).1.data.toList))/\DP r b (Bj rest bad n).2.1 kind (Bj rest bad n).2.2/\w.grownBy r (some b):=by
 have u:(Bj rest bad n).1.size<=4:=by
  unfold Bj;split
  .exact Nat.zero_le _
  .split
   .exact Nat.zero_le _
   .simp;omega
 go_enter func57,ntmps57;go_wp2_with fail;refine(IQ b rest kind bad n m o w h (fun _=>by omega) q).mono ?_;rintro e E ⟨rfl,h1,l⟩;have v:=Yw (Zn h1 l);clear h1 l h q;obtain⟨a,d⟩:=Af ((Bj rest bad n).1);rw[<-d]at u |-;have y:=Yw d;clear d;go_wp2
 go_loop [6,13] (fun x i=>∃k:Nat,k<=a.size/\i=Zg k/\x=Zg (CB (a.data.toList.take k))) (fun _ i=>a.size -(intOf i).toNat)
 case atStart=>exact⟨0,Nat.zero_le _,rfl,rfl⟩
 case round=>
  obtain⟨k,C,rfl,rfl⟩:=hrel;by_cases hlt:k<a.size
  .have j:=LS (a.data.toList.take k);have c:CB (a.data.toList.take (k+1))=CB (a.data.toList.take k) *256+(a[k].toNat:Int):=by rw[<-TC,Zu (by simpa using hlt)];rfl
   have A:CB (a.data.toList.take k)<16777216:=by
    have h2:=j.2;have s:(a.data.toList.take k).length=0\/(a.data.toList.take k).length=1\/(a.data.toList.take k).length=2\/(a.data.toList.take k).length=3:=Yt
    rcases s with f|f|f|f<;>rw[f]at h2<;>simp at h2<;>omega
   obtain⟨X,z⟩:∃X:Nat,CB (a.data.toList.take k)=(X:Int):=⟨_,(Int.toNat_of_nonneg j.1).symm⟩;have t:=Vb X a[k].toNat Yv a[k].toNat_lt;rw[z]at c |-;have B:IntKind.i64.wrap ((X:Int) *256)=(X:Int) *256:=Et _ Yv Yv;clear j;go_wp2;exact⟨⟨k+1,Yv,Yn,by rw[c,Ca,t]⟩,Ys⟩
  .obtain rfl:k=a.size:=Yv
   have g:a.data.toList.take a.size=a.data.toList:=Zt Yu;rw[g];go_wp2;go_ret;exact⟨by rw[<-y.o];rfl,v.o⟩
structure Env (w:Zh):Prop where
 io:It w
 jl:Hs w
 er:∀g∈[0,1,2,3,6,7],∃t v,w.cell? (Zd g 0)=some (.iface t v)
theorem Env.lt(h:Env w):∀g∈[0,1,2,3,6,7,5,4],g<w.heap.size:=by
 intro g b;have h1:=h.er;obtain⟨c,_⟩:=h.io 1 Yv Yv;have d:=World.block_lt_of_cell? w _ c;have e:=World.block_lt_of_cell? w _ h.jl;have a:∀g∈[0,1,2,3,6,7],g<w.heap.size:=fun g b=>by obtain⟨t,v,f⟩:=h1 g b;exact World.block_lt_of_cell? w _ f
 simp only[List.mem_cons,List.not_mem_nil,or_false]at b a;rcases b with rfl|rfl|rfl|rfl|rfl|rfl|rfl|rfl
 .exact a _ Yu
 .exact a _ Yu
 .exact a _ Yu
 .exact a _ Yu
 .exact a _ Yu
 .exact a _ Yu
 .exact d
 .exact e
theorem Env.of(h:Env w)(a:∀p:Addr,p.block∈[0,1,2,3,6,7,5,4]->c.cell? p=w.cell? p):Env c:=by
 refine⟨fun k h1 f=> ?_,?_,fun g b=> ?_⟩
 .obtain⟨d,e,c2,c3⟩:=h.io k h1 f;exact⟨(a ⟨_,_,none⟩ Yu).trans d,(a ⟨_,_,none⟩ Yu).trans e,(a ⟨_,_,none⟩ Yu).trans c2,(a ⟨_,_,none⟩ Yu).trans c3⟩
 .exact(a ⟨_,_,none⟩ Yu).trans h.jl
 .obtain⟨t,v,i⟩:=h.er g b;refine⟨t,v,(a ⟨g,0,none⟩ ?_).trans i⟩;simp only[List.mem_cons,List.not_mem_nil,or_false]at b |-;omega
theorem Env.below{a:Zh}(h:Env w)(b:Zz w a):Env a:=
 h.of fun _ c=>b.cell (h.lt _ c)
theorem Env.jh(h:Env w)(f:w.grownBy c (some b))(d:∀g∈[0,1,2,3,6,7,5,4],g<b):Env c:=
 h.of fun p a=>f.cell_far p (h.lt _ a) (fun e=>by have:=d _ a;injection e;omega)
theorem DP.lt(h:DP w b rest kind bad):b<w.heap.size:=by obtain⟨a,_,h⟩:=h;exact h.lt
theorem DP.setKind(h:DP w b rest kind bad)(k:Int):DP (w.setCell (Zd b 1) (Zg k)) b rest k bad:=by obtain⟨a,h1,f,g,i,c,d,e⟩:=h;refine⟨a,h1,?_⟩;constructor<;>simp[go_sem, *]
theorem DP.co{g:Zh}{c:Nat}(h:DP w b rest kind bad)(a:w.grownBy g (some c))(i:b≠c):DP g b rest kind bad:=by obtain⟨j,h1,h⟩:=h;have d:=h.lt;have f:some b≠some c:=fun e=>i (by injection e);exact⟨j,h1,(a.cell_far ⟨b,0,none⟩ d f).trans h.x0,(a.cell_far ⟨b,1,none⟩ d f).trans h.x1,(a.cell_far ⟨b,2,none⟩ d f).trans h.x2,(a.frozen_far ⟨b,0,none⟩ d f).trans h.f0,(a.frozen_far ⟨b,1,none⟩ d f).trans h.f1,(a.frozen_far ⟨b,2,none⟩ d f).trans h.f2⟩
def EZ(rest:Zi)(bad:Bool):Zi:=(Bj rest bad rest.size).1
def JJ(rest:Zi)(bad:Bool):Zi:=(Bj rest bad rest.size).2.1
def Gk(rest:Zi)(bad:Bool)(wd:Int):Bool:=(Bj rest bad rest.size).2.2|| !(rd (EZ rest bad) wd).2.2
theorem QS(h:rest.size<=1048576):(EZ rest bad).size<=1048576:=by
 unfold EZ Bj;split
 .exact Nat.zero_le _
 .split
  .exact Nat.zero_le _
  .simp;omega
theorem TD(b:Nat)(rest:Zi)(kind:Int)(bad:Bool)(wd:Int)(w:Zh)(h:DP w b rest kind bad)(he:Env w)(hb:∀g∈[0,1,2,3,6,7,5,4],g<b)(hs:rest.size<=1048576):
 Calls prog 60 #[Yy b,Zg wd] w fun e U=>∃v,e=.returned (.agg #[.string (rd (EZ rest bad) wd).1,v])/\
  U.ownsRow w.heap.size 9 1 v (rd (EZ rest bad) wd).2.1.length ((rd (EZ rest bad) wd).2.1.map Value.string)/\DP U b (JJ rest bad) kind (Gk rest bad wd)/\w.grownBy U (some b):=by
 obtain⟨W,n⟩:=Af (w.alloc (.cells #[Zc,Zb] 36));have A:=(AB n).1;have r0:W.cell? (Zd (w.heap.size) 0)=some Zc:=by rw[n];simp
 have r1:W.cell? (Zd (w.heap.size) 1)=some Zb:=by rw[n];simp
 have P:W.frozen? ⟨w.heap.size,0,none⟩=false:=by rw[n];simp
 have Q:W.frozen? ⟨w.heap.size,1,none⟩=false:=by rw[n];simp
 have C:w.heap.size<W.heap.size:=by rw[n];simp
 have d:=h.lt;have zA:=h.below A;have T:=he.below A;obtain⟨gt,gv,G⟩:=T.er 6 Yu;have Y:=Yw n;have L:=QS (bad:=bad) hs;obtain⟨er,F,x0,x1,x2,f0,f1,f2⟩:=zA;have X:Hid (DP W b rest kind bad):=⟨er,F,x0,x1,x2,f0,f1,f2⟩;clear n h;go_enter func60,ntmps60;go_upto_region 1 with fail;rw[<-Y.o];go_wp2_with fail;refine(IQ b rest kind bad rest.size gt gv W X.o (fun _=>by omega) G).mono ?_
 rintro e t ⟨rfl,h1,m⟩;rw[show(Bj rest bad rest.size).1=EZ rest bad from rfl];obtain⟨a,y⟩:=Af (EZ rest bad);rw[<-y]at L |-;have r:=Yw y;have S:=fun W'=>Tj a wd W' L;unfold Ez at S;have V:=Yw S;clear S x0 x1 x2 f0 f1 f2 F G y;go_wp2_with fail;refine(V.o t).mono ?_;rintro e o ⟨v,rfl,B,z⟩;obtain⟨u,c2,hv,_⟩:=DO B;subst hv;have zE:=m.size;have D:=z.size
 obtain⟨f,l⟩:=Af (o.alloc (.cells #[.string (rd a wd).1,.slice u (rd a wd).2.1.length c2] 36));have s:=(AB l).1;have t0:f.cell? (Zd (o.heap.size) 0)=some (.string (rd a wd).1):=by rw[l];simp
 have t1:f.cell? (Zd (o.heap.size) 1)=some (.slice u (rd a wd).2.1.length c2):=by rw[l];simp
 have M:o.heap.size<f.heap.size:=by rw[l];simp
 have zC:=s.size;have c:=z.trans (s.mono D);have q0:=(c.cell (p:=⟨w.heap.size,0,none⟩) Yt).trans ((m.cell_far ⟨w.heap.size,0,none⟩ C (Iq d)).trans r0);have q1:=(c.cell (p:=⟨w.heap.size,1,none⟩) Yt).trans ((m.cell_far ⟨w.heap.size,1,none⟩ C (Iq d)).trans r1)
 have N:=(c.frozen (p:=⟨w.heap.size,0,none⟩) Yt).trans ((m.frozen_far ⟨w.heap.size,0,none⟩ C (Iq d)).trans P);have O:=(c.frozen (p:=⟨w.heap.size,1,none⟩) Yt).trans ((m.frozen_far ⟨w.heap.size,1,none⟩ C (Iq d)).trans Q);have K:=h1.below c;have Z:=(T.jh m hb).below c;have x:=((Al (some b) A).trans m).trans (Al (some b) c);have I:=B.kept (Al none s) (Classical.em _)
 have H:∀k,(Value.slice u (rd a wd).2.1.length c2).ownBlock=some k->t.heap.size<=k:=fun k hk=>(B.lt k hk).1;obtain⟨kt,kv,zB⟩:=Z.er 7 Yu;have q:=Yw (Zn K (Zn x (Zn I H)));have E:=Yw l;clear K x I Z h1 m z B r0 r1 P Q T X V H Y c s l;go_upto_region 2 with fail;rw[<-E.o];clear E;cases hok:(rd a wd).2.2 with
 |true=>
  go_wp2;refine bodyPost_ret (v:=.agg #[.string (rd a wd).1,.slice u (rd a wd).2.1.length c2]) (by simp[results,results60,go_sem, *]) rfl ?_;refine⟨_,by rw[<-r.o],?_,?_,?_⟩
  .rw[<-r.o];exact(ownsRow_setCell_below (ownsRow_setCell_below q.o.2.2.1 (show w.heap.size<t.heap.size by omega) _) (show w.heap.size<t.heap.size by omega) _).mono Yv
  .have:Gk rest bad wd=(Bj rest bad rest.size).2.2:=by unfold Gk;rw[<-r.o,hok];simp
   rw[this];exact(q.o.1.co (AA _ w.heap.size 0 _) Yv).co (AA _ w.heap.size 1 _) Yv
  .exact(q.o.2.1.andThen (AA _ w.heap.size 0 _) (fun j e=>by cases e;exact .inl (Zx))).andThen (AA _ w.heap.size 1 _) (fun j e=>by cases e;exact .inl (Zx))
 |false=>
  go_wp2_with fail;refine(Ga b _ kind _ kt kv f q.o.1).mono ?_;rintro e w4 ⟨rfl,h4,i⟩;have zF:=i.size;have t0:=(i.cell_far ⟨o.heap.size,0,none⟩ M (Iq (show b<o.heap.size by omega))).trans t0;have t1:=(i.cell_far ⟨o.heap.size,1,none⟩ M (Iq (show b<o.heap.size by omega))).trans t1;have q0:=(i.cell_far ⟨w.heap.size,0,none⟩ (show w.heap.size<f.heap.size by omega) (Iq d)).trans q0
  have q1:=(i.cell_far ⟨w.heap.size,1,none⟩ (show w.heap.size<f.heap.size by omega) (Iq d)).trans q1;have N:=(i.frozen_far ⟨w.heap.size,0,none⟩ (show w.heap.size<f.heap.size by omega) (Iq d)).trans N;have O:=(i.frozen_far ⟨w.heap.size,1,none⟩ (show w.heap.size<f.heap.size by omega) (Iq d)).trans O;have J:=q.o.2.2.1.kept i (.inr (fun e=>by have:=q.o.2.2.2 b e;omega));have x:=q.o.2.1.trans i
  have R:=Yw (Zn h4 (Zn x J));clear h4 x J i zB;go_wp2;refine bodyPost_ret (v:=.agg #[.string (rd a wd).1,.slice u (rd a wd).2.1.length c2]) (by simp[results,results60,go_sem, *]) rfl ?_;refine⟨_,by rw[<-r.o],?_,?_,?_⟩
  .rw[<-r.o];exact(ownsRow_setCell_below (ownsRow_setCell_below R.o.2.2 (show w.heap.size<t.heap.size by omega) _) (show w.heap.size<t.heap.size by omega) _).mono Yv
  .have:Gk rest bad wd=true:=by unfold Gk;rw[<-r.o,hok];simp
   rw[this];exact(R.o.1.co (AA _ w.heap.size 0 _) Yv).co (AA _ w.heap.size 1 _) Yv
  .exact(R.o.2.1.andThen (AA _ w.heap.size 0 _) (fun j e=>by cases e;exact .inl (Zx))).andThen (AA _ w.heap.size 1 _) (fun j e=>by cases e;exact .inl (Zx))
def EC(k:Int):Bool:=decide (1<=k/\k<=7)
def EP(k:Int):Bool:=EC k&&CP k.toNat
def DI(k:Int):Bool:=EC k&&DG k.toNat
def Cw(k:Int):Bool:=EC k&&CD k.toNat
def EQ(k:Int):Int:=if EC k=true then Cc k.toNat else 0
theorem Qf(k:Int)(w:Zh)(b:It w):
 Calls prog 58 #[Zg k] w fun e c=>e=.returned (.tuple #[.agg #[.bool (EP k),.bool (DI k),.bool (Cw k),Zg (EQ k)],.bool (EC k)])/\Zz w c:=by
 by_cases hk:1<=k/\k<=7
 .obtain⟨m,rfl⟩:∃m:Nat,k=m:=⟨k.toNat,Yv⟩;have a:EC (m:Int)=true:=decide_eq_true hk;rw[show EP (m:Int)=CP m by simp[EP,a],show DI (m:Int)=DG m by simp[DI,a],show Cw (m:Int)=CD m by simp[Cw,a],show EQ (m:Int)=Cc m by simp[EQ,a],a];exact KE m w b Yv Yv
 .have a:EC k=false:=decide_eq_false hk;rw[show EP k=false by simp[EP,a],show DI k=false by simp[DI,a],show Cw k=false by simp[Cw,a],show EQ k=0 by simp[EQ,a],a];exact LD k w hk
theorem Vc(n:Int)(w:Zh):
 Calls prog 16 #[Zg n] w fun e a=>e=.returned (.bool (decide (1<=n/\n<=8)))/\a=w:=by
 by_cases h1:1<=n
 .by_cases h2:n<=8
  .go_enter func16,ntmps16;go_wp2;go_ret;exact⟨Az (by simp[h1,h2]),rfl⟩
  .have c:decide (n<=8)=false:=by simpa using h2
   go_enter func16,ntmps16;go_wp2;go_ret;exact⟨rfl,rfl⟩
 .have b:decide (1<=n)=false:=by simpa using h1
  go_enter func16,ntmps16;go_wp2;go_ret;exact⟨rfl,rfl⟩
def Gz(wd:Int):Bool:= !decide (1<=wd/\wd<=8)
def El(s:Zi)(wd:Int):Zi×Zi×Bool:=Bj s (Gz wd) (1:Nat)
def AR(s:Zi)(wd:Int):Int:=CB (El s wd).1.data.toList
def FG(s:Zi)(wd:Int):Bool:=(El s wd).2.2|| !EC (AR s wd)
def Ea(s:Zi)(wd:Int):Zi×Zi×Bool:=Bj (El s wd).2.1 (FG s wd) (4:Nat)
def Fe(s:Zi)(wd:Int):Int:=CB (Ea s wd).1.data.toList
def Fp(s:Zi)(wd:Int):Zi×Zi×Bool:=Bj (Ea s wd).2.1 (Ea s wd).2.2 (1:Nat)
def Nt(s:Zi)(wd:Int):Int:=CB (Fp s wd).1.data.toList
def BO(s:Zi)(wd:Int):Zi×Zi×Bool:=Bj (Fp s wd).2.1 (Fp s wd).2.2 (Nt s wd)
def Bg(s:Zi)(wd:Int):Zi×Zi×Bool:=if DI (AR s wd)=true then Bj (BO s wd).2.1 (BO s wd).2.2 wd else (⟨#[]⟩,(BO s wd).2)
def Bd(s:Zi)(wd:Int):Zi×Zl:=if Cw (AR s wd)=true then ((rd (EZ (Bg s wd).2.1 (Bg s wd).2.2) wd).1,(rd (EZ (Bg s wd).2.1 (Bg s wd).2.2) wd).2.1)else (⟨#[]⟩,[])
def CL(s:Zi)(wd:Int):Zi×Bool:=if Cw (AR s wd)=true then (JJ (Bg s wd).2.1 (Bg s wd).2.2,Gk (Bg s wd).2.1 (Bg s wd).2.2 wd)else (Bg s wd).2
def FH(s:Zi)(wd:Int):Bool:=(CL s wd).2|| !decide ((CL s wd).1.size=0)
def JK(s:Zi)(wd:Int):Bool:=Bw (AR s wd) (Bg s wd).1 (BO s wd).1 (Fe s wd) (Bd s wd).1 (Bd s wd).2 wd
def CC(s:Zi)(wd:Int):Bool:=FH s wd|| !JK s wd
theorem Fy(h:(Bj rest bad n).2.2=false):bad=false:=by
 unfold Bj at h;cases bad
 .rfl
 .simp at h
theorem QT(s:Zi)(wd:Int):(rd s wd).1.size<=s.size:=by
 unfold rd;split
 .split
  .exact Nat.zero_le _
  .unfold KG Dy;split
   .simp;omega
   .exact Nat.zero_le _
 .exact Nat.zero_le _
theorem ES(rest:Zi)(bad:Bool)(n:Int):(Bj rest bad n).1.size<=rest.size/\(Bj rest bad n).2.1.size<=rest.size:=by
 unfold Bj;split
 .exact⟨Nat.zero_le _,Zx⟩
 .split
  .exact⟨Nat.zero_le _,Zx⟩
  .simp;omega
structure EW (w W:Zh) (b:Nat) (rest:Zi) (kind:Int) (bad:Bool):Prop where
 rs:DP W b rest kind bad
 env:Env W
 gr:w.grownBy W (some b)
 gd:Aa W w.heap.size [Ze,Zc,Zc,Ze,Zc,Zb]
def Ol(b:Nat):Prop:=∀g∈[0,1,2,3,6,7,5,4],g<b
theorem EW.step{c:Zi}{a:Int}{d:Bool}(h:EW w W b rest kind bad)(g:Ol b)(i:b<w.heap.size)(j:DP e b c a d)(f:W.grownBy e (some b)):EW w e b c a d:=
 ⟨j,h.env.jh f g,h.gr.trans f,h.gd.co f i⟩
theorem EW.below(h:EW w W b rest kind bad)(a:Zz W c):EW w c b rest kind bad:=
 ⟨h.rs.below a,h.env.below a,h.gr.trans (Al _ a),h.gd.below a⟩
theorem EW.set(h:EW w W b rest kind bad)(a:Ol b)(f:b<w.heap.size)(B j:Nat)(v:Value)(d:w.heap.size<B):EW w (W.setCell (Zd B j) v) b rest kind bad:=
 ⟨h.rs.co (AA W B j v) Yv,h.env.jh (AA W B j v) (fun g c=>by have:=a g c;omega),h.gr.andThen (AA W B j v) (fun i e=>by cases e;exact .inl Yv),h.gd.bu (AA W B j v) Yv⟩
theorem RM(s:Zi)(wd:Int):0<=Nt s wd:=(LS _).1
theorem Ve(h:(BO s wd).2.2=false):0<=wd:=by have b:=Fy h;have h2:=Fy b;have h1:=Fy h2;unfold FG at h1;have a:=Fy (Bool.or_eq_false_iff.1 h1).1;unfold Gz at a;simp at a;omega
theorem XB(h:s.size<=1048576):(BO s wd).1.size<=1048576/\(Bg s wd).2.1.size<=1048576/\(Bd s wd).1.size<=1048576/\(CL s wd).1.size<=1048576:=by
 have h1:=ES s (Gz wd) (1:Nat);have h2:=ES (El s wd).2.1 (FG s wd) (4:Nat);have f:=ES (Ea s wd).2.1 (Ea s wd).2.2 (1:Nat);have b:=ES (Fp s wd).2.1 (Fp s wd).2.2 (Nt s wd);have g:=ES (BO s wd).2.1 (BO s wd).2.2 wd;have i:=Zm h1.2 h;have j:=Zm h2.2 i;have c:=Zm f.2 j;have d:=Zm b.2 c;have e:=Zm b.1 c;have a:(Bg s wd).2.1.size<=1048576:=by
  unfold Bg;split
  .exact Zm g.2 d
  .exact d
 refine⟨e,a,?_,?_⟩
 .unfold Bd;split
  .exact Zm (QT _ _) (QS a)
  .exact Nat.zero_le _
 .unfold CL;split
  .exact Zm (ES _ _ _).2 a
  .exact a
theorem Vf(s:Zi)(wd:Int):(Bd s wd).2.length<=255:=by
 unfold Bd;split
 .exact Wj _ _
 .exact Nat.zero_le _
theorem EW.lt(h:EW w W b rest kind bad):w.heap.size<W.heap.size:=h.gd.lt
theorem TE(b:Nat)(s:Zi)(wd:Int)(w:Zh)(h:DP w b s 0 false)(he:Env w)(ha:Ol b)(hs:s.size<=1048576):
 Calls prog 25 #[Yy b,Zg wd] w fun e w'=>∃v,e=.returned (.agg #[Zg (AR s wd),.string (Bg s wd).1,.string (BO s wd).1,Zg (Fe s wd),.string (Bd s wd).1,v])/\
  w'.ownsRow w.heap.size 9 1 v (Bd s wd).2.length ((Bd s wd).2.map Value.string)/\DP w' b (CL s wd).1 (AR s wd) (CC s wd)/\w.grownBy w' (some b):=by
 have c:=h.lt;have i:=Yw ha;obtain⟨W,hW⟩:=Af (w.alloc (.cells Yc 38));have zI:=(AB hW).1;have E0:Hid (EW w W b s 0 false):=⟨h.below zI,he.below zI,Al _ zI,by rw[hW];exact Aa.new w _ _⟩;have HW:=Yw hW;clear hW h he ha zI;obtain⟨l,m,f⟩:=E0.o.env.er 0 Yu;go_enter func25,ntmps25;go_upto_region 1 with fail;rw[<-HW.o];clear HW;have xH:decide (1<=wd/\wd<=8)= !Gz wd:=by unfold Gz;simp
 go_upto_if 10 with(go_at_call 16;refine(Vc wd _).mono ?_;rintro e w' ⟨rfl,yS⟩;rw[yS];clear yS w')
 go_cut [] (fun g=>Hid (EW w g b s 0 (Gz wd)))
 case first=>
  cases hb0:Gz wd with
  |true=>go_wp2_with fail;refine(Ga b _ _ _ l m W E0.o.rs).mono ?_;rintro e w1 ⟨rfl,h1,g1⟩;go_wp2_with fail;go_meet;rw[hb0];exact E0.o.step i.o c h1 g1
  |false=>go_wp2_with fail;go_meet;rw[hb0];exact E0.o
 case rest=>
 revert wc;intro w1 E1;clear E0 f xH;obtain⟨st,sv,f⟩:=E1.o.env.er 6 Yu;go_wp2_with fail;refine(GL b s 0 (Gz wd) 1 st sv w1 E1.o.rs Yv f).mono ?_;rintro e w2 ⟨rfl,h2,g2⟩;have E2:Hid (EW w w2 b (El s wd).2.1 0 (El s wd).2.2):=E1.o.step i.o c h2 g2;rw[show CB (Bj s (Gz wd) (1:Nat)).1.data.toList=AR s wd from rfl];obtain⟨W3,zY⟩:=Af (w2.setCell (Zd b 1) (Zg (AR s wd)))
 have E3:Hid (EW w W3 b (El s wd).2.1 (AR s wd) (El s wd).2.2):=by rw[zY];exact E2.o.step i.o c (E2.o.rs.setKind _) (AA _ _ _ _)
 obtain⟨xP,_,J,A,K,G,H,I⟩:=E2.o.rs;have yG:=Yw zY;clear zY h2 g2 f E1;go_upto_region 4 with fail;rw[<-yG.o];clear yG J A K G H I E2;obtain⟨xQ,_,J,A,K,G,H,I⟩:=E3.o.rs;go_wp2_with fail;refine(Qf (AR s wd) W3 E3.o.env.io).mono ?_;rintro e w4 ⟨rfl,yP⟩;have E4:Hid (EW w w4 b (El s wd).2.1 (AR s wd) (El s wd).2.2):=E3.o.below yP
 obtain⟨W5,zH⟩:=Af (w4.alloc (.cells #[.bool (EP (AR s wd)),.bool (DI (AR s wd)),.bool (Cw (AR s wd)),Zg (EQ (AR s wd))] 124));have yN:=(AB zH).1;have E5:Hid (EW w W5 b (El s wd).2.1 (AR s wd) (El s wd).2.2):=E4.o.below yN;obtain⟨U,hU⟩:=Af w4.heap.size
 have U5:Hid (Aa W5 U [.bool (EP (AR s wd)),.bool (DI (AR s wd)),.bool (Cw (AR s wd)),Zg (EQ (AR s wd))]):=by rw[zH,hU];exact Aa.new w4 _ _
 have xT:w.heap.size<U:=by rw[hU];exact E4.o.lt
 have yH:=Yw zH;have HU:=Yw hU;clear zH hU yN yP E3 E4 J A K G H I;obtain⟨l,m,f⟩:=E5.o.env.er 1 Yu;go_upto_region 5 with fail;rw[<-yH.o,<-HU.o];clear yH HU
 go_upto_if 28 with fail
 go_cut [6] (fun _ g=>Hid (EW w g b (El s wd).2.1 (AR s wd) (FG s wd))/\Hid (Aa g U [.bool (EP (AR s wd)),.bool (DI (AR s wd)),.bool (Cw (AR s wd)),Zg (EQ (AR s wd))]))
 case first=>
  cases hi:EC (AR s wd)with
  |true=>go_wp2_with fail;go_meet;refine⟨?_,U5.o⟩;rw[show FG s wd=(El s wd).2.2 by unfold FG;rw[hi];simp];exact E5.o
  |false=>go_wp2_with fail;refine(Ga b _ _ _ l m W5 E5.o.rs).mono ?_;rintro e a ⟨rfl,h6,g6⟩;go_wp2_with fail;go_meet;refine⟨?_,U5.o.co g6 Yv⟩;rw[show FG s wd=true by unfold FG;rw[hi];simp];exact E5.o.step i.o c h6 g6
 case rest=>
 revert wc;intro a hcut;obtain⟨P,U6⟩:=hcut;clear E5 U5 f;obtain⟨d,zX⟩:∃d:Nat,d=0:=⟨_,rfl⟩;clear zX d;have D6:=Yw (P.o.below ((Below.refl a.heap.size a).drew));have zZ:Below a.heap.size a (a.alloc (.cells Yc 38)):=Zy;have X:=Yw (P.o.below zZ.drew);have yJ:Hid (Aa (a.alloc (.cells Yc 38)).drew a.heap.size Yb):=Aa.new a _ _;obtain⟨xR,_,J,A,K,G,H,I⟩:=P.o.rs
 have xK:(a.alloc (.cells Yc 38)).cell? (Zd b 1)=some (Zg (AR s wd)):=(zZ.cell (p:=⟨b,1,none⟩) P.o.rs.lt).trans A;obtain⟨l,m,f⟩:=D6.o.env.er 6 Yu;obtain⟨xD,xE,yQ⟩:=X.o.env.er 6 Yu;have yC:=P.o.rs.lt;have xG:=P.o.lt;clear zZ;go_upto_region 7 with fail
 go_cut [7] (fun v g=>∃d:Nat,v=Yy d/\a.heap.size<=d/\Hid (EW w g b (Ea s wd).2.1 (AR s wd) (Ea s wd).2.2)/\Hid (a.grownBy g (some b))/\Hid (Aa g d [Zg (AR s wd),Zc,Zc,Zg (Fe s wd),Zc,Zb]))
 case first=>
  go_region_with (first
   |(go_at_call 57;refine(GL b _ _ _ 4 l m a.drew D6.o.rs Yv f).mono ?_;rintro e z ⟨rfl,h7,g7⟩;have E7:Hid (EW w z b (Ea s wd).2.1 (AR s wd) (Ea s wd).2.2):=D6.o.step i.o c h7 g7;obtain⟨er7,_,y0,y1,y2,_,_,_⟩:=h7;have V:=g7;have xF:=E7.o.rs.lt)
   |(go_at_call 57;refine(GL b _ _ _ 4 xD xE _ X.o.rs Yv yQ).mono ?_;rintro e z ⟨rfl,h7,g7⟩;have E7:Hid (EW w z b (Ea s wd).2.1 (AR s wd) (Ea s wd).2.2):=X.o.step i.o c h7 g7;obtain⟨er7,_,y0,y1,y2,_,_,_⟩:=h7;have Q:=Aa.co yJ.o g7 yC;have z0:=(Q 0 _ rfl);have z1:=(Q 1 _ rfl);have R:=(Q 2 _ rfl);have z3:=(Q 3 _ rfl);have z4:=(Q 4 _ rfl);have z5:=(Q 5 _ rfl);obtain⟨z0,y0f⟩:=z0;obtain⟨z1,y1f⟩:=z1;obtain⟨R,y2f⟩:=R;obtain⟨z3,y3f⟩:=z3;obtain⟨z4,y4f⟩:=z4;obtain⟨z5,y5f⟩:=z5;have yD:=g7;have xF:=E7.o.rs.lt))
  all_goals go_wp2_with fail
  all_goals go_meet
  all_goals first
   |(have hA:Below z.heap.size z (z.alloc (.cells #[Zg (AR s wd),Zc,Zc,Zg (Fe s wd),Zc,Zb] 38)):=Zy
     exact⟨z.heap.size,rfl,V.size,E7.o.below hA,((Al (some b) (Below.refl a.heap.size a).drew).trans V).trans (Al _ hA),Aa.new z _ _⟩)
   |(have F:w.heap.size<a.heap.size:=xG
     refine⟨a.heap.size,rfl,Zx,?_,?_,?_⟩
     .exact(((((E7.o.set i.o c a.heap.size 0 _ F).set i.o c a.heap.size 1 _ F).set i.o c a.heap.size 2 _ F).set i.o c a.heap.size 3 _ F).set i.o c a.heap.size 4 _ F).set i.o c a.heap.size 5 _ F
     .have g0:a.grownBy z (some b):=(Al (some b) ((Below.refl a.heap.size a).alloc (Zx) _).drew).trans yD
      exact(((((g0.andThen (AA _ a.heap.size 0 _) (fun j e=>by cases e;exact .inl (Zx))).andThen (AA _ a.heap.size 1 _) (fun j e=>by cases e;exact .inl (Zx))).andThen (AA _ a.heap.size 2 _) (fun j e=>by cases e;exact .inl (Zx))).andThen (AA _ a.heap.size 3 _) (fun j e=>by cases e;exact .inl (Zx))).andThen (AA _ a.heap.size 4 _) (fun j e=>by cases e;exact .inl (Zx))).andThen (AA _ a.heap.size 5 _) (fun j e=>by cases e;exact .inl (Zx))
     .exact(((((Q.set 0 _).set 1 _).set 2 _).set 3 _).set 4 _).set 5 _)
 case rest=>
 revert wc;intro w8 hcut;obtain⟨d,rfl,zX,E8,G8,Z8⟩:=hcut;have xS:U<d:=Zr U6.o.lt zX;have U8:Hid (Aa w8 U [.bool (EP (AR s wd)),.bool (DI (AR s wd)),.bool (Cw (AR s wd)),Zg (EQ (AR s wd))]):=U6.o.co G8.o Yv;clear P U6 D6 X yJ J A K G H I xK f yQ G8;have x:w.heap.size<d:=Yv
 obtain⟨l,m,f⟩:=E8.o.env.er 6 Yu;go_wp2_with fail;refine(GL b _ _ _ 1 l m w8 E8.o.rs Yv f).mono ?_;rintro e w9 ⟨rfl,h9,g9⟩;have E9:Hid (EW w w9 b (Fp s wd).2.1 (AR s wd) (Fp s wd).2.2):=E8.o.step i.o c h9 g9;have Z9:Hid (Aa w9 d [Zg (AR s wd),Zc,Zc,Zg (Fe s wd),Zc,Zb]):=Z8.o.co g9 Yv
 have U9:Hid (Aa w9 U [.bool (EP (AR s wd)),.bool (DI (AR s wd)),.bool (Cw (AR s wd)),Zg (EQ (AR s wd))]):=U8.o.co g9 Yv;rw[show CB (Bj (Ea s wd).2.1 (Ea s wd).2.2 (1:Nat)).1.data.toList=Nt s wd from rfl];clear E8 Z8 U8 h9 g9 f;obtain⟨l,m,f⟩:=E9.o.env.er 6 Yu;go_wp2_with fail;refine(IQ b _ _ _ (Nt s wd) l m w9 E9.o.rs (fun _=>RM s wd) f).mono ?_;rintro e zJ ⟨rfl,yK,zB⟩
 have yE:Hid (EW w zJ b (BO s wd).2.1 (AR s wd) (BO s wd).2.2):=E9.o.step i.o c yK zB;have zR:Hid (Aa zJ d [Zg (AR s wd),Zc,Zc,Zg (Fe s wd),Zc,Zb]):=Z9.o.co zB Yv;have yI:Hid (Aa zJ U [.bool (EP (AR s wd)),.bool (DI (AR s wd)),.bool (Cw (AR s wd)),Zg (EQ (AR s wd))]):=U9.o.co zB Yv;rw[show(Bj (Fp s wd).2.1 (Fp s wd).2.2 (Nt s wd)).1=(BO s wd).1 from rfl];clear E9 Z9 U9 yK zB f
 obtain⟨R,xL⟩:=zR.o 2 _ rfl;obtain⟨D,q⟩:=Af (zJ.setCell (Zd d 2) (.string (BO s wd).1));have B:Hid (EW w D b (BO s wd).2.1 (AR s wd) (BO s wd).2.2):=by rw[q];exact yE.o.set i.o c d 2 _ x
 have Z:Hid (Aa D d [Zg (AR s wd),Zc,.string (BO s wd).1,Zg (Fe s wd),Zc,Zb]):=by rw[q];exact zR.o.set 2 _
 have M:Hid (Aa D U [.bool (EP (AR s wd)),.bool (DI (AR s wd)),.bool (Cw (AR s wd)),Zg (EQ (AR s wd))]):=by rw[q];exact yI.o.bu (AA _ _ _ _) Yv
 have S:=Yw q;clear q yE zR yI;go_upto_region 9 with fail;rw[<-S.o];clear S R xL;obtain⟨u1,_⟩:=M.o 1 _ rfl
 go_upto_if 45 with fail
 go_cut [] (fun g=>Hid (EW w g b (Bg s wd).2.1 (AR s wd) (Bg s wd).2.2)/\Hid (Aa g U [.bool (EP (AR s wd)),.bool (DI (AR s wd)),.bool (Cw (AR s wd)),Zg (EQ (AR s wd))])/\Hid (Aa g d [Zg (AR s wd),.string (Bg s wd).1,.string (BO s wd).1,Zg (Fe s wd),Zc,Zb]))
 case first=>
  cases hu:DI (AR s wd)with
  |true=>
   have e5:Hid (Bg s wd=Bj (BO s wd).2.1 (BO s wd).2.2 wd):=by show _=_;unfold Bg;rw[if_pos hu]
   obtain⟨l,m,f⟩:=B.o.env.er 6 Yu;go_wp2_with fail;refine(IQ b _ _ _ wd l m D B.o.rs (fun h=>Ve h) f).mono ?_;rintro e yA ⟨rfl,zW,zC⟩;rw[<-e5.o]at zW |-;have r:=B.o.step i.o c zW zC;have u:=Z.o.co zC Yv;have N:=M.o.co zC Yv;obtain⟨z1,xX⟩:=u 1 _ rfl;clear zW zC f u1 B Z M;go_wp2_with fail;go_meet;refine⟨r.set i.o c d 1 _ x,?_,u.set 1 _⟩;exact N.bu (AA _ _ _ _) Yv
  |false=>
   have e5:Hid (Bg s wd=(⟨#[]⟩,(BO s wd).2)):=by show _=_;unfold Bg;rw[if_neg (by rw[hu];decide)]
   go_wp2_with fail;go_meet;rw[e5.o];exact⟨B.o,M.o,Z.o⟩
 case rest=>
 revert wc;intro yA hcut;obtain⟨r,N,u⟩:=hcut;clear B Z M u1;have zN:=Yw (XB (wd:=wd) hs);obtain⟨u2,_⟩:=N.o 2 _ rfl
 go_upto_if 51 with fail
 go_cut [] (fun g=>∃(n:Zk) (o:Nat),Hid (EW w g b (CL s wd).1 (AR s wd) (CL s wd).2)/\Hid (Aa g d (Ya (AR s wd) ((Bg s wd).1) ((BO s wd).1) (Fe s wd) ((Bd s wd).1) n ((Bd s wd).2.length) o))/\Hid (g.ownsRow (w.heap.size+1) 9 1 (.slice n (Bd s wd).2.length o) (Bd s wd).2.length ((Bd s wd).2.map Value.string)))
 case first=>
  cases hu:Cw (AR s wd)with
  |true=>
   have e6:Hid (CL s wd=(JJ (Bg s wd).2.1 (Bg s wd).2.2,Gk (Bg s wd).2.1 (Bg s wd).2.2 wd)):=by show _=_;unfold CL;rw[if_pos hu]
   have et:Hid (Bd s wd=((rd (EZ (Bg s wd).2.1 (Bg s wd).2.2) wd).1,(rd (EZ (Bg s wd).2.1 (Bg s wd).2.2) wd).2.1)):=by show _=_;unfold Bd;rw[if_pos hu]
   go_wp2_with fail;refine(TD b _ _ _ wd yA r.o.rs r.o.env i.o zN.o.2.1).mono ?_;rintro e xI ⟨v,rfl,ho,zG,zV⟩;have t1:(rd (EZ (Bg s wd).2.1 (Bg s wd).2.2) wd).1=(Bd s wd).1:=by rw[et.o]
   have t2:(rd (EZ (Bg s wd).2.1 (Bg s wd).2.2) wd).2.1=(Bd s wd).2:=by rw[et.o]
   rw[t2]at ho;rw[t1];clear t1 t2;have zG:DP xI b (CL s wd).1 (AR s wd) (CL s wd).2:=by rw[e6.o];exact zG
   obtain⟨n,o,hv,_⟩:=DO ho;subst hv;have yT:=r.o.step i.o c zG zV;have xO:=r.o.lt;have zA:=u.o.co zV Yv;have xN:=zA.lt;obtain⟨z4,xY⟩:=zA 4 _ rfl;obtain⟨z5,xZ⟩:=zA 5 _ rfl;have T:d<yA.heap.size:=u.o.lt;clear zG zV u2 r N u e6 et;go_wp2_with fail;go_meet
   exact⟨n,o,(yT.set i.o c d 4 _ x).set i.o c d 5 _ x,(zA.set 4 _).set 5 _,(ownsRow_setCell_below (ownsRow_setCell_below ho T _) T _).mono Yv⟩
  |false=>
   have e6:Hid (CL s wd=(Bg s wd).2):=by show _=_;unfold CL;rw[if_neg (by rw[hu];decide)]
   have et:Hid (Bd s wd=(⟨#[]⟩,[])):=by show _=_;unfold Bd;rw[if_neg (by rw[hu];decide)]
   go_wp2_with fail;go_meet;rw[e6.o,et.o];exact⟨none,0,r.o,u.o,World.ownsRow_nil _ _ _ _⟩
 case rest=>
 revert wc;intro xJ hcut;obtain⟨n,o,C,zS,Y⟩:=hcut;clear r N u u2;obtain⟨xM,_,J,A,K,G,H,I⟩:=C.o.rs;obtain⟨l,m,f⟩:=C.o.env.er 2 Yu;have yO:∀k,(Value.slice n (Bd s wd).2.length o).ownBlock=some k->b<k:=fun k hk=>by have:=(Y.o.lt k hk).1;omega
 have yF:=Yw yO;clear yO
 go_upto_if 60 with fail
 go_cut [] (fun g=>Hid (EW w g b (CL s wd).1 (AR s wd) (FH s wd))/\Hid (Aa g d (Ya (AR s wd) ((Bg s wd).1) ((BO s wd).1) (Fe s wd) ((Bd s wd).1) n ((Bd s wd).2.length) o))/\Hid (g.ownsRow (w.heap.size+1) 9 1 (.slice n (Bd s wd).2.length o) (Bd s wd).2.length ((Bd s wd).2.map Value.string)))
 case first=>
  have yR:=Yw (FC (s:=(CL s wd).1));cases hq:(CL s wd).1.toList.isEmpty with
  |true=>
   have O:(CL s wd).1.size=0:=by have:=yR.o;rw[hq]at this;simpa using this.symm
   have h0:=Yw O;clear O;clear hq;go_wp2_with fail;go_meet;rw[show FH s wd=(CL s wd).2 by unfold FH;rw[decide_eq_true h0.o];simp];exact⟨C.o,zS.o,Y.o⟩
  |false=>
   have O:¬(CL s wd).1.size=0:=by have:=yR.o;rw[hq]at this;simpa using this.symm
   have h0:=Yw O;clear O;clear hq;go_wp2_with fail;refine(Ga b _ _ _ l m xJ C.o.rs).mono ?_;rintro e xU ⟨rfl,yL,zE⟩;have yU:=C.o.step i.o c yL zE;have xA:=zS.o.co zE Yv;have yX:=Y.o.kept zE (.inr (fun e=>by have:=yF.o b e;omega));clear yL zE J A K G H I f;go_wp2_with fail;go_meet;rw[show FH s wd=true by unfold FH;rw[decide_eq_false h0.o];simp];exact⟨yU,xA,yX⟩
 case rest=>
 revert wc;intro yB hcut;obtain⟨zM,zT,zO⟩:=hcut;clear C zS Y J A K G H I f;obtain⟨z0,z1,R,z3,z4,z5⟩:=Aa.c6 zT.o 0 1 2 3 4 5;have hlen:=Vf s wd;have yW:Hid (Ad yB yB.heap.size n (Bd s wd).2):=by obtain⟨a',c',hv,hr⟩:=DO zO.o;cases hv;exact hr
 go_wp2_with fail;refine(UF (AR s wd) (Bg s wd).1 (BO s wd).1 (Fe s wd) (Bd s wd).1 n o (Bd s wd).2 wd yB zM.o.env.io yW.o Yv (by have:=zN.o.2.2.1;unfold maxLen;omega) (by have:=zN.o.1;unfold maxLen;omega)).mono ?_;rintro e zK ⟨rfl,y⟩;rw[show Bw (AR s wd) (Bg s wd).1 (BO s wd).1 (Fe s wd) (Bd s wd).1 (Bd s wd).2 wd=JK s wd from rfl]
 have L:Hid (EW w zK b (CL s wd).1 (AR s wd) (FH s wd)):=zM.o.below y;have zU:Hid (Aa zK d (Ya (AR s wd) ((Bg s wd).1) ((BO s wd).1) (Fe s wd) ((Bd s wd).1) n ((Bd s wd).2.length) o)):=zT.o.below y;have zP:Hid (zK.ownsRow (w.heap.size+1) 9 1 (.slice n (Bd s wd).2.length o) (Bd s wd).2.length ((Bd s wd).2.map Value.string)):=zO.o.kept (Al none y) (Classical.em _);clear zM zT zO z0 z1 R z3 z4 z5 y
 obtain⟨l,m,f⟩:=L.o.env.er 3 Yu
 go_upto_if 67 with fail
 go_cut [] (fun g=>Hid (EW w g b (CL s wd).1 (AR s wd) (CC s wd))/\Hid (Aa g d (Ya (AR s wd) ((Bg s wd).1) ((BO s wd).1) (Fe s wd) ((Bd s wd).1) n ((Bd s wd).2.length) o))/\Hid (g.ownsRow (w.heap.size+1) 9 1 (.slice n (Bd s wd).2.length o) (Bd s wd).2.length ((Bd s wd).2.map Value.string)))
 case first=>
  cases hok:JK s wd with
  |true=>go_wp2_with fail;go_meet;rw[show CC s wd=FH s wd by unfold CC;rw[hok];simp];exact⟨L.o,zU.o,zP.o⟩
  |false=>go_wp2_with fail;refine(Ga b _ _ _ l m zK L.o.rs).mono ?_;rintro e xV ⟨rfl,yM,zF⟩;have yV:=L.o.step i.o c yM zF;have xB:=zU.o.co zF Yv;have yY:=zP.o.kept zF (.inr (fun e=>by have:=yF.o b e;omega));clear yM zF f;go_wp2_with fail;go_meet;rw[show CC s wd=true by unfold CC;rw[hok];simp];exact⟨yV,xB,yY⟩
 case rest=>
 revert wc;intro xW hcut;obtain⟨t,xC,yZ⟩:=hcut;clear L zU zP f;obtain⟨z0,z1,R,z3,z4,z5⟩:=Aa.c6 xC.o 0 1 2 3 4 5;obtain⟨r0,q0⟩:=t.o.gd 0 _ rfl;obtain⟨r1,q1⟩:=t.o.gd 1 _ rfl;obtain⟨r2,q2⟩:=t.o.gd 2 _ rfl;obtain⟨r3,q3⟩:=t.o.gd 3 _ rfl;obtain⟨r4,q4⟩:=t.o.gd 4 _ rfl;obtain⟨r5,q5⟩:=t.o.gd 5 _ rfl;have E:b≠w.heap.size:=Yv
 go_wp2;refine bodyPost_ret (v:=.agg (Xz (AR s wd) ((Bg s wd).1) ((BO s wd).1) (Fe s wd) ((Bd s wd).1) n ((Bd s wd).2.length) o)) (by simp[results,results25,go_sem, *]) rfl ?_;have hz:w.heap.size<w.heap.size+1:=Yv
 refine⟨_,rfl,?_,?_,?_⟩
 .refine World.ownsRow.mono ?_ (Nat.le_succ w.heap.size)
  iterate 6 (refine ownsRow_setCell_below ?_ hz _)
  exact yZ.o
 .exact(((((t.o.rs.co (AA _ w.heap.size 0 _) E).co (AA _ w.heap.size 1 _) E).co (AA _ w.heap.size 2 _) E).co (AA _ w.heap.size 3 _) E).co (AA _ w.heap.size 4 _) E).co (AA _ w.heap.size 5 _) E
 .exact(((((t.o.gr.andThen (AA _ w.heap.size 0 _) (fun j e=>by cases e;exact .inl (Zx))).andThen (AA _ w.heap.size 1 _) (fun j e=>by cases e;exact .inl (Zx))).andThen (AA _ w.heap.size 2 _) (fun j e=>by cases e;exact .inl (Zx))).andThen (AA _ w.heap.size 3 _) (fun j e=>by cases e;exact .inl (Zx))).andThen (AA _ w.heap.size 4 _) (fun j e=>by cases e;exact .inl (Zx))).andThen (AA _ w.heap.size 5 _) (fun j e=>by cases e;exact .inl (Zx))
section
structure ER where
 k:Int
 sum:Zi
 name:Zi
 n:Int
 t:Zi
 ss:Zl
 ok:Bool
def FJ:ER:=⟨0,⟨#[]⟩,⟨#[]⟩,0,⟨#[]⟩,[],false⟩
def Av(s:Zi)(wd:Int):ER:=
 if CC s wd=true then FJ else ⟨AR s wd,(Bg s wd).1,(BO s wd).1,Fe s wd,(Bd s wd).1,(Bd s wd).2,true⟩
def TF(k:Int)(rest:List UInt8):Zi:=if k=1 then ⟨#[]⟩else AH rest
def TG(k:Int)(rest:List UInt8)(wd:Int):Zi:=if k=1 then (rd (AH rest) wd).1 else ⟨#[]⟩
def TH(k:Int)(rest:List UInt8)(wd:Int):Zl:=if k=1 then (rd (AH rest) wd).2.1 else []
def Pc(k n:Int)(name rest l:List UInt8)(wd:Int):Bool:=
 Bw k (TF k rest) (AH name) n (TG k rest wd) (TH k rest wd) wd&&decide (Ch k (TF k rest) (AH name) n (TG k rest wd) (TH k rest wd) wd=AH l)
theorem Eb(l:List UInt8)(n:Nat)(h:n<=l.length):Bj (AH l) false n=(AH (l.take n),AH (l.drop n),false):=by unfold Bj;rw[if_neg Yq,if_neg (by rw[BN];omega),GX,GX,BN];simp;exact Zt Yu
theorem Ff(l:List UInt8)(n:Int)(h:(l.length:Int)<n):Bj (AH l) false n=(⟨#[]⟩,AH l,true):=by unfold Bj;rw[if_neg Yq,if_pos (by rw[BN];exact h)]
theorem GM(r:Zi)(n:Int):Bj r true n=(⟨#[]⟩,r,true):=by simp[Bj]
theorem IS(h:(BO s wd).2.2=true):CC s wd=true:=by
 cases hb:CC s wd with
 |true=>rfl
 |false=>
  unfold CC at hb;have c:=(Bool.or_eq_false_iff.1 hb).1;unfold FH at c;have a:=(Bool.or_eq_false_iff.1 c).1;have b:(Bg s wd).2.2=false:=by
   unfold CL at a;split at a
   .simp only[Gk]at a;exact Fy (Bool.or_eq_false_iff.1 a).1
   .exact a
  have d:(BO s wd).2.2=false:=by
   unfold Bg at b;split at b
   .exact Fy b
   .exact b
  rw[d]at h;cases h
theorem Le(h:(Fp s wd).2.2=true):(BO s wd).2.2=true:=by unfold BO;rw[h,GM]
theorem Pe(h:(Ea s wd).2.2=true):(Fp s wd).2.2=true:=by unfold Fp;rw[h,GM]
theorem Vg(h:FG s wd=true):(Ea s wd).2.2=true:=by unfold Ea;rw[h,GM]
theorem Gb(h:FG s wd=true):CC s wd=true:=IS (Le (Pe (Vg h)))
theorem Vh(h:¬(1<=wd/\wd<=8)):CC s wd=true:=by refine Gb ?_;unfold FG El;rw[show Gz wd=true by unfold Gz;simp;omega,GM];rfl
theorem Wn(h1:1<=wd)(h2:wd<=8):Gz wd=false:=by unfold Gz;simp[h1,h2]
theorem Wo(a:UInt8):CB [a]=(a.toNat:Int):=by simp[CB]
theorem Wp(a b c d:UInt8):CB [a,b,c,d]=(a.toNat:Int) *16777216+(b.toNat:Int) *65536+(c.toNat:Int) *256+(d.toNat:Int):=by simp only[CB,List.foldl_cons,List.foldl_nil];omega
section
variable {wd:Int} (h1:1<=wd) (h2:wd<=8)
theorem ZF(h1:1<=wd)(h2:wd<=8):CC (AH []) wd=true:=by refine Gb ?_;unfold FG El;rw[Wn h1 h2,Ff [] _ Yu];rfl
theorem Kp(a:UInt8)(l:List UInt8)(h1:1<=wd)(h2:wd<=8):El (AH (a::l)) wd=(AH [a],AH l,false):=by unfold El;rw[Wn h1 h2,Eb _ _ Yu];rfl
theorem TI(a:UInt8)(l:List UInt8)(h1:1<=wd)(h2:wd<=8):AR (AH (a::l)) wd=(a.toNat:Int):=by unfold AR;rw[Kp a l h1 h2];exact Wo a
theorem GP(a:UInt8)(l:List UInt8)(h1:1<=wd)(h2:wd<=8):FG (AH (a::l)) wd= !EC (a.toNat:Int):=by unfold FG;rw[Kp a l h1 h2,TI a l h1 h2];rfl
theorem Vi(a:UInt8)(l:List UInt8)(h1:1<=wd)(h2:wd<=8)(b:l.length<4):CC (AH (a::l)) wd=true:=by
 cases hk:EC (a.toNat:Int)with
 |false=>exact Gb (by rw[GP a l h1 h2,hk];rfl)
 |true=>refine IS (Le (Pe ?_));unfold Ea;rw[GP a l h1 h2,hk,Kp a l h1 h2];rw[show(!true)=false from rfl,Ff l _ Yv]
theorem RN(a b c d e:UInt8)(l:List UInt8)(h1:1<=wd)(h2:wd<=8)(f:EC (a.toNat:Int)=true):Ea (AH (a::b::c::d::e::l)) wd=(AH [b,c,d,e],AH l,false):=by unfold Ea;rw[GP _ _ h1 h2,f,Kp _ _ h1 h2];rw[show(!true)=false from rfl,Eb _ _ Yu];rfl
theorem Vj(a b c d e:UInt8)(h1:1<=wd)(h2:wd<=8)(f:EC (a.toNat:Int)=true):CC (AH [a,b,c,d,e]) wd=true:=by refine IS (Le ?_);unfold Fp;rw[RN a b c d e [] h1 h2 f,Ff [] _ Yu]
theorem RO(a c d e f b:UInt8)(T:List UInt8)(h1:1<=wd)(h2:wd<=8)(g:EC (a.toNat:Int)=true):Fp (AH (a::c::d::e::f::b::T)) wd=(AH [b],AH T,false):=by unfold Fp;rw[RN a c d e f (b::T) h1 h2 g,Eb _ _ Yu];rfl
theorem ZG(b c d e f a:UInt8)(T:List UInt8)(h1:1<=wd)(h2:wd<=8)(g:EC (b.toNat:Int)=true):Nt (AH (b::c::d::e::f::a::T)) wd=(a.toNat:Int):=by unfold Nt;rw[RO b c d e f a T h1 h2 g];exact Wo a
theorem Vk(a c d e f b:UInt8)(T:List UInt8)(h1:1<=wd)(h2:wd<=8)(g:EC (a.toNat:Int)=true)(h:T.length<b.toNat):CC (AH (a::c::d::e::f::b::T)) wd=true:=by refine IS ?_;unfold BO;rw[ZG a c d e f b T h1 h2 g,RO a c d e f b T h1 h2 g,Ff T _ Yv]
theorem Aaq(b c d e f a:UInt8)(T:List UInt8)(h1:1<=wd)(h2:wd<=8)(g:EC (b.toNat:Int)=true)(h:a.toNat<=T.length):BO (AH (b::c::d::e::f::a::T)) wd=(AH (T.take a.toNat),AH (T.drop a.toNat),false):=by unfold BO;rw[ZG b c d e f a T h1 h2 g,RO b c d e f a T h1 h2 g,Eb T _ h]
theorem Abo(a b c d e:UInt8)(l:List UInt8)(h1:1<=wd)(h2:wd<=8)(f:EC (a.toNat:Int)=true):Fe (AH (a::b::c::d::e::l)) wd=CB [b,c,d,e]:=by unfold Fe;rw[RN a b c d e l h1 h2 f]
theorem GQ(a:UInt8)(x:Int)(h:x=(a.toNat:Int)):u8 x=a:=by subst h;simp[u8]
theorem Vl(e a b c d f:UInt8):Ck (e.toNat:Int) (CB [a,b,c,d]) (f.toNat:Int)=[e,a,b,c,d,f]:=by have g:=a.toNat_lt;have h:=b.toNat_lt;have i:=c.toNat_lt;have j:=d.toNat_lt;unfold Ck;rw[Wp];rw[GQ e _ rfl,GQ f _ rfl,GQ a _ Yv,GQ b _ Yv,GQ c _ Yv,GQ d _ Yv]
end
theorem XC(h:EC (k:Int)=true):1<=k/\k<=7:=by unfold EC at h;simp at h;omega
theorem XD{k:Int}{b:Zi}{c:Zl}(h:EC k=false):Bw k b a n t c wd=false:=by unfold Bw;unfold EC at h;rw[h];rfl
theorem Nu{b:Zi}{c:Zl}(h:Bw (k:Int) b a n t c wd=true):Cu k b a n t c wd=true:=by unfold Bw at h;exact(Bool.and_eq_true_iff.1 h).2
theorem QU{b:Zi}{d:Zl}(h:Bw (k:Int) b a n t d wd=true):DZ (DG k) b wd=true:=by have c:=Nu h;unfold Cu at c;exact(Bool.and_eq_true_iff.1 (Bool.and_eq_true_iff.1 c).2).1
theorem RP(h:(AH l).size=0):AH l=⟨#[]⟩:=by rw[BN]at h;rw[List.eq_nil_of_length_eq_zero h]
theorem LW{b:Zi}{c:Zl}(h:Bw (k:Int) b a n t c wd=true):Ch k b a n t c wd=AH l↔CY k b a n t c=l:=by
 unfold Ch;rw[if_pos h,Int.toNat_natCast];constructor
 .intro e;have:=congrArg (fun s:Zi=>s.data.toList) e;simpa using this
 .intro e;rw[e]
theorem Nv(a d f g i b:UInt8)(T:List UInt8)(h1:1<=wd)(h2:wd<=8)(P:b.toNat<=T.length):
 Av (AH (a::d::f::g::i::b::T)) wd=
  if Pc (a.toNat:Int) (CB [d,f,g,i]) (T.take b.toNat) (T.drop b.toNat) (a::d::f::g::i::b::T) wd=true then
   ⟨(a.toNat:Int),TF (a.toNat:Int) (T.drop b.toNat),AH (T.take b.toNat),CB [d,f,g,i],TG (a.toNat:Int) (T.drop b.toNat) wd,TH (a.toNat:Int) (T.drop b.toNat) wd,true⟩
  else FJ:=by
 cases hk:EC (a.toNat:Int)with
 |false=>unfold Av;rw[if_pos (Gb (by rw[GP _ _ h1 h2,hk];rfl)),if_neg (by unfold Pc;rw[XD hk];simp)]
 |true=>
  obtain⟨Q,R⟩:=XC hk;have j:=Aaq a d f g i b T h1 h2 hk P;have m:=TI a (d::f::g::i::b::T) h1 h2;have w:=Abo a d f g i (b::T) h1 h2 hk;have K:(AH (T.take b.toNat)).size=b.toNat:=by rw[BN];simp;omega
  have D:∀x:List UInt8,Ck (a.toNat:Int) (CB [d,f,g,i]) ((AH (T.take b.toNat)).size:Int)++(AH (T.take b.toNat)).data.toList++x=(a::d::f::g::i::b::T)↔x=T.drop b.toNat:=by
   intro x;rw[K,Vl];constructor
   .intro h;have N:T.take b.toNat++x=T:=by simpa using h
    have O:T.take b.toNat++x=T.take b.toNat++T.drop b.toNat:=by rw[N,List.take_append_drop]
    exact List.append_cancel_left O
   .intro h;rw[h];simp
  generalize hs:(AH (a::d::f::g::i::b::T))=s at *
  generalize hnm:AH (T.take b.toNat)=name at *
  generalize hrs:T.drop b.toNat=rest at *
  generalize hn:CB [d,f,g,i]=n at *
  by_cases hk1:a.toNat=1
  .
   have y:DI (AR s wd)=false:=by rw[m,hk1];rfl
   have z:Cw (AR s wd)=true:=by rw[m,hk1];rfl
   have c:Bg s wd=(⟨#[]⟩,AH rest,false):=by unfold Bg;rw[if_neg (by rw[y];decide),j]
   have F:EZ (AH rest) false=AH rest:=by unfold EZ;rw[BN,Eb _ _ (Zx)];simp
   have L:JJ (AH rest) false=⟨#[]⟩:=by unfold JJ;rw[BN,Eb _ _ (Zx)];simp
   have H:Gk (AH rest) false wd= !(rd (AH rest) wd).2.2:=by unfold Gk;rw[F,BN,Eb _ _ (Zx)];rfl
   have o:Bd s wd=((rd (AH rest) wd).1,(rd (AH rest) wd).2.1):=by unfold Bd;rw[if_pos z,c];simp only[F]
   have q:CL s wd=(⟨#[]⟩, !(rd (AH rest) wd).2.2):=by unfold CL;rw[if_pos z,c];simp only[L,H]
   have t:JK s wd=Bw (a.toNat:Int) ⟨#[]⟩ name n (rd (AH rest) wd).1 (rd (AH rest) wd).2.1 wd:=by unfold JK;rw[m,w,j,c,o]
   have r:CC s wd=(!(rd (AH rest) wd).2.2|| !Bw (a.toNat:Int) ⟨#[]⟩ name n (rd (AH rest) wd).1 (rd (AH rest) wd).2.1 wd):=by unfold CC FH;rw[t,q];simp[ByteArray.size]
   have u:((a.toNat:Int)=1):=Yv
   unfold Av Pc TF TG TH;rw[if_pos u,if_pos u,if_pos u,hnm,r,m,c,j,w,o];simp only;cases k:Bw (a.toNat:Int) ⟨#[]⟩ name n (rd (AH rest) wd).1 (rd (AH rest) wd).2.1 wd with
   |false=>simp
   |true=>
    have B:=LW (l:=a::d::f::g::i::b::T) k;have M:=(Eh (Nu k)).dt hk1;have I:CY a.toNat ⟨#[]⟩ name n (rd (AH rest) wd).1 (rd (AH rest) wd).2.1=(a::d::f::g::i::b::T)↔BG (rd (AH rest) wd).1 (rd (AH rest) wd).2.1=rest:=by rw[<-D];unfold CY;rw[if_pos hk1];simp
    rw[I]at B;have J:BG (rd (AH rest) wd).1 (rd (AH rest) wd).2.1=rest↔(rd (AH rest) wd).2.2=true:=by
     constructor
     .intro e;have:=Qa M;rw[e]at this;rw[this]
     .intro e;exact(UN e).2
    rw[J]at B;cases hr:(rd (AH rest) wd).2.2 with
    |true=>rw[if_neg Yu,if_pos (by simp;exact B.2 hr)]
    |false=>rw[if_pos Yu,if_neg (by simp;intro h;have:=B.1 h;rw[hr]at this;cases this)]
  .have z:Cw (AR s wd)=false:=by rw[m];unfold Cw CD;simp[hk1]
   have u:¬((a.toNat:Int)=1):=Yv
   have o:Bd s wd=(⟨#[]⟩,[]):=by unfold Bd;rw[if_neg (by rw[z];decide)]
   have q:CL s wd=(Bg s wd).2:=by unfold CL;rw[if_neg (by rw[z];decide)]
   have v:∀C,Bw (a.toNat:Int) C name n ⟨#[]⟩ [] wd=true->C=AH rest->Ch (a.toNat:Int) C name n ⟨#[]⟩ [] wd=s:=by intro C k e;rw[<-hs];refine(LW (l:=a::d::f::g::i::b::T) k).2 ?_;unfold CY;rw[if_neg hk1,e,List.append_nil];exact(D rest).2 rfl
   unfold Av Pc TF TG TH;rw[if_neg u,if_neg u,if_neg u,hnm,hs];cases hu:DG a.toNat with
   |true=>
    have y:DI (AR s wd)=true:=by rw[m];unfold DI;rw[hk,Int.toNat_natCast,hu];rfl
    have c:Bg s wd=Bj (AH rest) false wd:=by unfold Bg;rw[if_pos y,j]
    obtain⟨W,rfl⟩:∃W:Nat,wd=W:=⟨wd.toNat,Yv⟩;by_cases hsz:rest.length=W
    .rw[Eb rest W Yv,Zt Yv,List.drop_of_length_le Yv]at c;have t:JK s W=Bw (a.toNat:Int) (AH rest) name n ⟨#[]⟩ [] W:=by unfold JK;rw[m,w,j,c,o]
     have r:CC s W= !Bw (a.toNat:Int) (AH rest) name n ⟨#[]⟩ [] W:=by unfold CC FH;rw[t,q,c];simp[ByteArray.size]
     rw[r,m,c,j,w,o];simp only;cases k:Bw (a.toNat:Int) (AH rest) name n ⟨#[]⟩ [] W with
     |false=>simp
     |true=>rw[if_neg Yu,if_pos (by simp;exact v _ k rfl)]
    .have A:Bw (a.toNat:Int) (AH rest) name n ⟨#[]⟩ [] W=false:=by
      cases k:Bw (a.toNat:Int) (AH rest) name n ⟨#[]⟩ [] W with
      |false=>rfl
      |true=>have:=QU k;rw[hu]at this;unfold DZ at this;rw[if_pos rfl,BN]at this;simp at this;omega
     have G:CC s W=true:=by
      unfold CC FH;rw[q,c];by_cases hl:rest.length<W
      .rw[Ff rest _ Yv];simp
      .rw[Eb rest W Yv];have:(AH (rest.drop W)).size≠0:=by rw[BN];simp;omega
       simp[this]
     rw[if_pos G,if_neg (by rw[A];simp)]
   |false=>
    have y:DI (AR s wd)=false:=by rw[m];unfold DI;rw[hk,Int.toNat_natCast,hu];rfl
    have c:Bg s wd=(⟨#[]⟩,AH rest,false):=by unfold Bg;rw[if_neg (by rw[y];decide),j]
    by_cases hsz:rest.length=0
    .have E:=RP (by rw[BN];exact hsz);have t:JK s wd=Bw (a.toNat:Int) (AH rest) name n ⟨#[]⟩ [] wd:=by unfold JK;rw[m,w,j,c,o,E]
     have r:CC s wd= !Bw (a.toNat:Int) (AH rest) name n ⟨#[]⟩ [] wd:=by unfold CC FH;rw[t,q,c];simp[BN,hsz]
     rw[r,m,c,j,w,o];simp only;cases k:Bw (a.toNat:Int) (AH rest) name n ⟨#[]⟩ [] wd with
     |false=>simp
     |true=>rw[if_neg Yu,if_pos (by simp;exact v _ k rfl),E]
    .have A:Bw (a.toNat:Int) (AH rest) name n ⟨#[]⟩ [] wd=false:=by
      cases k:Bw (a.toNat:Int) (AH rest) name n ⟨#[]⟩ [] wd with
      |false=>rfl
      |true=>have:=QU k;rw[hu]at this;unfold DZ at this;rw[if_neg Yq,BN]at this;simp at this;simp[this]at hsz
     have G:CC s wd=true:=by
      unfold CC FH;rw[q,c];have:(AH rest).size≠0:=by rw[BN];exact hsz
      simp[this]
     rw[if_pos G,if_neg (by rw[A];simp)]
end
def CM(s:Zi)(wd:Int)(w:Zh)(e:Ending)(w':Zh):Prop:=
 ∃v,e=.returned (.tuple #[.agg #[Zg (Av s wd).k,.string (Av s wd).sum,.string (Av s wd).name,Zg (Av s wd).n,.string (Av s wd).t,v],.bool (Av s wd).ok])/\
  w'.ownsRow w.heap.size 9 1 v (Av s wd).ss.length ((Av s wd).ss.map Value.string)/\Zz w w'
theorem LX(s:Zi)(wd:Int)(w:Zh)(hs:s.size<=1048576)(he:Env w):
 Calls prog 8 #[.string s,Zg wd] w (CM s wd w):=by
 obtain⟨l,m⟩:=Af (w.alloc (.cells Yc 38));have D:=(AB m).1;have W:=(AB m).2.1;have R0:=(AB m).2.2;obtain⟨c,n⟩:=Af (l.alloc (.cells #[.string s,Ze,.nilIface] 75));have E:=(AB n).1;have zA:l.heap.size<c.heap.size:=by rw[n];simp
 have R1:Hid (Aa c w.heap.size Yb):=R0.below E;have S:Below w.heap.size w c:=D.trans (E.mono D.size);have Y:Hid (Env c):=he.below S;have ha:Hid (Ol l.heap.size):=fun g hg=>by have:=he.lt g hg;omega
 have x1:Hid (DP c l.heap.size s 0 false):=by refine⟨none,rfl,?_⟩;have:=Aa.new l [.string s,Ze,.nilIface] 75;rw[<-n]at this;exact⟨(this 0 _ rfl).1,(this 1 _ rfl).1,(this 2 _ rfl).1,(this 0 _ rfl).2,(this 1 _ rfl).2,(this 2 _ rfl).2⟩
 have O:=Yw m;have P:=Yw n;obtain⟨b,hb⟩:=Af l.heap.size;have zF:w.heap.size<b:=Yv
 have HB:=Yw hb;rw[<-hb]at ha x1 zA;clear m n he R0 hb D E;go_enter func8,ntmps8;go_upto_region 2 with fail;rw[<-O.o,<-P.o,<-W,<-HB.o];clear O P HB W;go_wp2_with fail;refine(TE b s wd c x1.o Y.o ha.o hs).mono ?_;rintro e C ⟨v,rfl,ho,U,f⟩;obtain⟨ra,rc,hv,_⟩:=DO ho;subst hv;have zH:=f.size
 obtain⟨t,o⟩:=Af (C.alloc (.cells (Xz (AR s wd) ((Bg s wd).1) ((BO s wd).1) (Fe s wd) ((Bd s wd).1) ra ((Bd s wd).2.length) rc) 38));have F:=(AB o).1;have zB:C.heap.size+1=t.heap.size:=by rw[o];simp
 have Z3:=(AB o).2.2;obtain⟨d,r⟩:=Af (t.alloc (.cells #[.pointer none] 77));have G:=(AB r).1;have zC:t.heap.size<d.heap.size:=by rw[r];simp
 have A:=(AB r).2.2;have X:=Z3.below G;have i:Below C.heap.size C d:=F.trans (G.mono F.size);have a:=(R1.o.bu f (show b≠w.heap.size by omega)).below i;have e4:=(Y.o.jh f ha.o).below i;have r4:=U.below i;have o4:=(ho.kept (Al none i) (Classical.em _))
 have B4:Below w.heap.size w d:=S.trans (Below.trans (B:=w.heap.size) ⟨f.os,f.tape,f.output,f.size,fun k hk=>f.block k Yv (fun e=>by have:=Option.some.inj e;omega)⟩ (i.mono Yv));have Q:=Yw o;have R:=Yw r;have K:=Yw (Zn e4 (Zn o4 B4));obtain⟨x,J⟩:=Af t.heap.size;rw[<-J]at A;have N:Hid (x=t.heap.size):=J;have zG:C.heap.size<x:=Yv
 clear J;clear o r F G i Z3 ho U f e4 o4 B4 R1 Y x1;go_upto_region 4 with fail;rw[<-Q.o,<-R.o,<-N.o];clear Q R N zB zC;have zE:b<x:=Yv
 have I:w.heap.size<x:=Yv
 obtain⟨er,z,y0,y1,M,_,_,_⟩:=r4;cases er with
 |none=>
  have H:Hid (CC s wd=false):=z.symm;simp only[IP]at M;go_wp2_with fail;refine(YQ _ d).mono ?_;rintro e L ⟨rfl,V⟩;rw[V];clear V L;obtain⟨z0,z1,z2,z3,z4,z5⟩:=Aa.c6 X 0 1 2 3 4 5;obtain⟨r0,q0⟩:=a 0 _ rfl;obtain⟨r1,q1⟩:=a 1 _ rfl;obtain⟨r2,q2⟩:=a 2 _ rfl;obtain⟨r3,q3⟩:=a 3 _ rfl;obtain⟨r4,q4⟩:=a 4 _ rfl;obtain⟨r5,q5⟩:=a 5 _ rfl;clear X a A y0 y1 M z;go_wp2
  refine bodyPost_ret (v:=.tuple #[.agg (Xz (AR s wd) ((Bg s wd).1) ((BO s wd).1) (Fe s wd) ((Bd s wd).1) ra ((Bd s wd).2.length) rc),.bool true]) (by simp[results,results8,go_sem, *]) rfl ?_;have Z:Av s wd=⟨AR s wd,(Bg s wd).1,(BO s wd).1,Fe s wd,(Bd s wd).1,(Bd s wd).2,true⟩:=by unfold Av;rw[if_neg (by rw[H.o];decide)]
  unfold CM;rw[Z];have T:w.heap.size<c.heap.size:=Yv
  refine⟨_,rfl,?_,?_⟩
  .refine World.ownsRow.mono ?_ (Nat.le_of_lt T)
   iterate 6 (refine ownsRow_setCell_below ?_ T _)
   exact K.o.2.1
  .iterate 6 (refine Below.setCell ?_ (show w.heap.size<=w.heap.size from Zx) _)
   exact K.o.2.2
 |some q=>
  have H:Hid (CC s wd=true):=z.symm;simp only[IP]at M;go_wp2_with fail;refine(YW q x (.pointer none) d K.o.1.jl (A 0 _ rfl).1 (A 0 _ rfl).2).mono ?_;rintro e L ⟨rfl,y⟩;have u:∀j v,d.cell? (Zd (w.heap.size) j)=some v->L.cell? (Zd (w.heap.size) j)=some v:=fun j v h=>(y.cell (p:=⟨w.heap.size,j,none⟩) I).trans h
  have h1:∀j,d.frozen? ⟨w.heap.size,j,none⟩=false->L.frozen? ⟨w.heap.size,j,none⟩=false:=fun j h=>(y.frozen (p:=⟨w.heap.size,j,none⟩) I).trans h;have r0:=u 0 _ (a 0 _ rfl).1;have r1:=u 1 _ (a 1 _ rfl).1;have r2:=u 2 _ (a 2 _ rfl).1;have r3:=u 3 _ (a 3 _ rfl).1;have r4:=u 4 _ (a 4 _ rfl).1;have r5:=u 5 _ (a 5 _ rfl).1;have q0:=h1 0 (a 0 _ rfl).2;have q1:=h1 1 (a 1 _ rfl).2
  have q2:=h1 2 (a 2 _ rfl).2;have q3:=h1 3 (a 3 _ rfl).2;have q4:=h1 4 (a 4 _ rfl).2;have q5:=h1 5 (a 5 _ rfl).2;have B5:=Yw (K.o.2.2.trans (y.mono (Nat.le_of_lt I)));clear u h1 X a A y0 y1 M z y;go_wp2;refine bodyPost_ret (v:=.tuple #[.agg Yc,.bool false]) (by simp[results,results8,go_sem, *]) rfl ?_;have Z:Av s wd=FJ:=by unfold Av;rw[if_pos H.o]
  unfold CM;rw[Z];refine⟨Zb,rfl,World.ownsRow_nil _ _ _ _,?_⟩
  iterate 6 (refine Below.setCell ?_ (show w.heap.size<=w.heap.size from Zx) _)
  exact B5.o
theorem IT(n:Int)(w:Zh):
 Calls prog 20 #[Zg n] w fun e a=>e=.returned (.bool (decide (1<=n/\n<=8)))/\a=w:=by
 by_cases h1:1<=n
 .by_cases h2:n<=8
  .go_enter func20,ntmps20;go_wp2;go_ret;exact⟨Az (by simp[h1,h2]),rfl⟩
  .have c:decide (n<=8)=false:=by simpa using h2
   go_enter func20,ntmps20;go_wp2;go_ret;exact⟨rfl,rfl⟩
 .have b:decide (1<=n)=false:=by simpa using h1
  go_enter func20,ntmps20;go_wp2;go_ret;exact⟨rfl,rfl⟩
theorem Nw(h:¬(1<=wd/\wd<=8)):Av s wd=FJ:=by unfold Av;rw[if_pos (Vh h)]
theorem Nx(h1:1<=wd)(h2:wd<=8)(b:l.length<6):Av (AH l) wd=FJ:=by
 unfold Av;rw[if_pos]
 match l,b with
 |[],_=>exact ZF h1 h2
 |a::l,b=>
  by_cases h4:l.length<4
  .exact Vi a l h1 h2 h4
  .cases hk:EC (a.toNat:Int)with
   |false=>exact Gb (by rw[GP _ _ h1 h2,hk];rfl)
   |true=>
    match l,b,h4 with
    |[a1,a2,a3,a4],_,_=>exact Vj a a1 a2 a3 a4 h1 h2 hk
    |[],_,h4=>simp at h4
    |[_],_,h4=>simp at h4
    |[_,_],_,h4=>simp at h4
    |[_,_,_],_,h4=>simp at h4
theorem Pf{a c d e f b:UInt8}{T:List UInt8}(h1:1<=wd)(h2:wd<=8)(g:T.length<b.toNat):Av (AH (a::c::d::e::f::b::T)) wd=FJ:=by
 unfold Av;rw[if_pos];cases hk:EC (a.toNat:Int)with
 |false=>exact Gb (by rw[GP _ _ h1 h2,hk];rfl)
 |true=>exact Vk a c d e f b T h1 h2 hk g
theorem Hc{a:Zh}(h:Av s wd=FJ)(b:Zz w a):CM s wd w (.returned (.tuple #[.agg Yc,.bool false])) a:=by unfold CM;rw[h];exact⟨Zb,rfl,World.ownsRow_nil _ _ _ _,b⟩
theorem RQ(s:Zi)(wd:Int)(w:Zh)(h:¬(1<=wd/\wd<=8)):
 Calls prog 21 #[.string s,Zg wd] w (CM s wd w):=by
 have c:decide (1<=wd/\wd<=8)=false:=by simpa using h
 have HN:=Yw (Nw (s:=s) h);clear h;go_enter func21,ntmps21;go_wp2_with (go_at_call 20;refine(IT wd _).mono ?_;rintro e b ⟨rfl,a⟩;rw[a];clear a b);exact bodyPost_ret (v:=.tuple #[.agg Yc,.bool false]) (by simp[results,results21,go_sem]) rfl (Hc HN.o (Zy))
theorem RS(s:Zi)(wd:Int)(w:Zh)(h1:1<=wd)(h2:wd<=8)(b:s.size<6):
 Calls prog 21 #[.string s,Zg wd] w (CM s wd w):=by
 have f:decide (1<=wd/\wd<=8)=true:=by simp[h1,h2]
 have d:decide ((s.size:Int)<6)=true:=Yt
 have HN:=Yw (Nx (l:=s.data.toList) h1 h2 b);go_enter func21,ntmps21;go_wp2_with (go_at_call 20;refine(IT wd _).mono ?_;rintro e c ⟨rfl,a⟩;rw[a];clear a c);exact bodyPost_ret (v:=.tuple #[.agg Yc,.bool false]) (by simp[results,results21,go_sem]) rfl (Hc HN.o (Zy))
theorem RT(s:Zi)(wd:Int)(w:Zh)(o:s.size<=1048576)(h1:1<=wd)(h2:wd<=8)(a:Nat)(l:6<=s.size)(c:s[5].toNat=a)(d:Av s wd=FJ)(n:s.size<6+a):
 Calls prog 21 #[.string s,Zg wd] w (CM s wd w):=by
 have m:decide (1<=wd/\wd<=8)=true:=by simp[h1,h2]
 have h:decide ((s.size:Int)<6)=false:=Yt
 have j:(5:Int)<s.size:=Yv
 have i:decide ((s.size:Int)<6+(a:Int))=true:=Yt
 have k:a<256:=by rw[<-c];exact s[5].toNat_lt
 have f:=Ca s[5];rw[c]at f;have HN:=Yw d;clear d;go_enter func21,ntmps21;go_wp2_with (go_at_call 20;refine(IT wd _).mono ?_;rintro e g ⟨rfl,b⟩;rw[b];clear b g);exact bodyPost_ret (v:=.tuple #[.agg Yc,.bool false]) (by simp[results,results21,go_sem]) rfl (Hc HN.o (Zy))
theorem RU(s:Zi)(wd:Int)(b u x A Z j:Nat)(w:Zh)(hs:s.size<=1048576)(h1:1<=wd)(h2:wd<=8)(h6:6<=s.size)(L:s[0].toNat=b)(M:s[1].toNat=u)(N:s[2].toNat=x)(O:s[3].toNat=A)(P:s[4].toNat=Z)(g5:s[5].toNat=j)(hf:6+j<=s.size)(a l:Zi)(zM:s.extract 6 (6+j)=a)(zP:s.extract (6+j) s.size=l)(n:Int)(hn:(u:Int) *16777216+(x:Int) *65536+(A:Int) *256+(Z:Int)=n)(g f:Zi)(c:Zl)(zR:g=if (b:Int)=1 then ⟨#[]⟩else l)(zU:f=if (b:Int)=1 then (rd l wd).1 else ⟨#[]⟩)(zO:c=if (b:Int)=1 then (rd l wd).2.1 else [])(hR:Av s wd=if (Bw b g a n f c wd&&decide (Ch b g a n f c wd=s))=true then ⟨b,g,a,n,f,c,true⟩else FJ):
 Calls prog 21 #[.string s,Zg wd] w (CM s wd w):=by
 have hd:decide (1<=wd/\wd<=8)=true:=by simp[h1,h2]
 have zH:decide ((s.size:Int)<6)=false:=Yt
 have l5:(5:Int)<s.size:=Yv
 have zI:decide ((s.size:Int)<6+(j:Int))=false:=Yt
 have b0:b<256:=by rw[<-L];exact s[0].toNat_lt
 have b1:u<256:=by rw[<-M];exact s[1].toNat_lt
 have b2:x<256:=by rw[<-N];exact s[2].toNat_lt
 have b3:A<256:=by rw[<-O];exact s[3].toNat_lt
 have b4:Z<256:=by rw[<-P];exact s[4].toNat_lt
 have b5:j<256:=by rw[<-g5];exact s[5].toNat_lt
 have w0:=Ca s[0];have w1:=Ca s[1];have w2:=Ca s[2];have w3:=Ca s[3];have w4:=Ca s[4];have T:=Ca s[5];rw[L]at w0;rw[M]at w1;rw[N]at w2;rw[O]at w3;rw[P]at w4;rw[g5]at T;have zA:=Yw (Zn b0 (Zn b1 (Zn b2 (Zn b3 b4))));have zF:=Yw (Zn w0 (Zn w1 (Zn w2 (Zn w3 w4))));have zB:=Yw (Zn L (Zn M (Zn N (Zn O P))));have HX:=Yw (Zn hs (Zn h1 h2));have d:=Yw (Zn zM (Zn zP (Zn hn (Zn zR (Zn zU (Zn zO hR))))))
 clear zM zP hn zR zU zO hR;clear b0 b1 b2 b3 b4 w0 w1 w2 w3 w4 L M N O P;obtain⟨W,R⟩:=Af (w.alloc (.cells Yc 38));have zW:=(AB R).1;have hz:w.heap.size<W.heap.size:=by rw[R];simp
 have R0:Hid (Aa W _ _):=(AB R).2.2;have HW:=Yw R;clear R;go_enter func21,ntmps21;go_upto_region 1 with fail;rw[<-HW.o];clear HW;go_upto_region 3 with(go_at_call 20;refine(IT wd _).mono ?_;rintro e w' ⟨rfl,zV⟩;rw[zV];clear zV w');go_cut [6] (fun v H=>v=Yy W.heap.size/\H=(W.alloc (.cells #[Zg (b:Int),Zc,Zc,Zg n,Zc,Zb] 38)).drew)
 case first=>
  obtain⟨b0,b1,b2,b3,b4⟩:=zA.o;have m1:=Et ((u:Int) *16777216) Yv Yv;have m2:=Et ((x:Int) *65536) Yv Yv;have m3:=Et ((A:Int) *256) Yv Yv;have p1:=Et ((u:Int) *16777216+(x:Int) *65536) Yv Yv;have p2:=Et ((u:Int) *16777216+(x:Int) *65536+(A:Int) *256) Yv Yv
  have p3:=Et ((u:Int) *16777216+(x:Int) *65536+(A:Int) *256+(Z:Int)) Yv Yv;have l0:(0:Int)<s.size:=Yv
  have l1:(1:Int)<s.size:=Yv
  have l2:(2:Int)<s.size:=Yv
  have l3:(3:Int)<s.size:=Yv
  have l4:(4:Int)<s.size:=Yv
  obtain⟨w0,w1,w2,w3,w4⟩:=zF.o;obtain⟨L,M,N,O,P⟩:=zB.o;clear b0 b1 b2 b3 b4 b5 zI zH hd;have H5:=Yw (Zn g5 (Zn T l5));clear T l5
  go_big_region
  go_wp2_with fail;go_meet;exact⟨rfl,by rw[d.o.2.2.1]⟩
 case rest=>
 revert wc;intro W3 hcut;obtain⟨rfl,X⟩:=hcut;have zY:=hf;clear b5 zI zH hd zA zF zB HX;have Y:Below W.heap.size W W3:=by rw[X];exact(Zy).drew
 have Z3:Aa W3 W.heap.size [Zg (b:Int),Zc,Zc,Zg n,Zc,Zb]:=by rw[X];exact Aa.new W _ _
 have R3:=R0.o.below Y;have B3:=zW.trans (Y.mono (Nat.le_of_lt hz));obtain⟨B,hB⟩:=Af W.heap.size;rw[<-hB]at Z3;have HB:=Yw hB;obtain⟨z,yB⟩:=Z3 2 _ rfl;have G:w.heap.size<B:=Yv
 obtain⟨D,q⟩:=Af (W3.setCell (Zd B 2) (.string a));have E:Hid (Aa D B [Zg (b:Int),Zc,.string a,Zg n,Zc,Zb]):=by rw[q];exact Z3.set 2 _
 have R4:Hid (Aa D w.heap.size Yb):=by rw[q];exact R3.bu (AA _ _ _ _) Yv
 have B4:Hid (Zz w D):=by rw[q];exact B3.setCell (p:=⟨B,2,none⟩) (Nat.le_of_lt G) _
 have zE:=Yw q;have Hn:=Yw d.o.1;have Hr:=Yw d.o.2.1;rw[<-hB];clear X Y q R3 B3 hB Z3;have e6:((6:Int)+(j:Int)).toNat=6+j:=Yv
 have u1:(6:Int)<=6+(j:Int):=Yv
 have u2:(6:Int)+(j:Int)<=(s.size:Int):=Yv
 go_upto_region 6 with fail;rw[Hn.o,Hr.o,<-zE.o];have zS:l.size<=1048576:=by rw[<-Hr.o];simp;omega
 have yA:a.size<=1048576:=by rw[<-Hn.o];simp;omega
 have zX:=HB.o.symm;clear zE Hn Hr z yB e6 u1 u2 T l5 R0 zW hz zX HB;clear g5;clear hf zY h6;have HX:=Yw (Zn hs (Zn h1 h2));clear hs h1 h2;obtain⟨o,_⟩:=E.o 0 _ rfl
 go_upto_if 63 with fail
 go_cut [] (fun H=>∃(i:Zk) (k:Nat),Hid (Aa H B (Ya (b:Int) g a n f i c.length k))/\Hid (Aa H w.heap.size Yb)/\Hid (H.ownsRow (w.heap.size+1) 9 1 (.slice i c.length k) c.length (c.map Value.string))/\Hid (Zz w H))
 case first=>
  by_cases hk:(b:Int)=1
  .have e1:Hid (g=⟨#[]⟩):=by show _=_;rw[d.o.2.2.2.1,if_pos hk]
   have e2:Hid (f=(rd l wd).1):=by show _=_;rw[d.o.2.2.2.2.1,if_pos hk]
   have e3:Hid (c=(rd l wd).2.1):=by show _=_;rw[d.o.2.2.2.2.2.1,if_pos hk]
   have hq:((b:Int)==1)=true:=by simpa using hk
   have HK:=Yw hk;clear hk;go_wp2_with fail;have HR:=Tk l wd D zS;unfold Ez at HR;refine HR.mono ?_;rintro e T ⟨v,rfl,ho,F⟩;rw[<-e3.o]at ho;rw[<-e2.o];obtain⟨i,k,hv,_⟩:=DO ho;subst hv;have Z5:=Aa.below E.o F;have R5:=Aa.below R4.o F;have zG:=E.o.lt;obtain⟨J,yE⟩:=Z5 4 _ rfl;obtain⟨K,yF⟩:=Z5 5 _ rfl;have B5:=B4.o.trans (F.mono B4.o.size);clear HR F o hq;go_wp2_with fail;go_meet
   refine⟨i,k,?_,?_,?_,?_⟩
   .rw[e1.o];exact(Z5.set 4 _).set 5 _
   .exact(R5.bu (AA _ B 4 _) Yv).bu (AA _ B 5 _) Yv
   .exact(ownsRow_setCell_below (ownsRow_setCell_below ho zG _) zG _).mono Yv
   .exact(B5.setCell (p:=⟨B,4,none⟩) (Nat.le_of_lt G) _).setCell (p:=⟨B,5,none⟩) (Nat.le_of_lt G) _
  .have e1:Hid (g=l):=by show _=_;rw[d.o.2.2.2.1,if_neg hk]
   have e2:Hid (f=⟨#[]⟩):=by show _=_;rw[d.o.2.2.2.2.1,if_neg hk]
   have e3:Hid (c=[]):=by show _=_;rw[d.o.2.2.2.2.2.1,if_neg hk]
   have hq:((b:Int)==1)=false:=by simpa using hk
   obtain⟨I,yD⟩:=E.o 1 _ rfl;have HK:=Yw hk;clear hk;go_wp2_with fail;go_meet;refine⟨none,0,?_,?_,?_,?_⟩
   .rw[e1.o,e2.o,e3.o];exact E.o.set 1 _
   .exact R4.o.bu (AA _ B 1 _) Yv
   .rw[e3.o];exact World.ownsRow_nil _ _ _ _
   .exact B4.o.setCell (p:=⟨B,1,none⟩) (Nat.le_of_lt G) _
 case rest=>
 revert wc;intro w6 hcut;obtain⟨i,k,Z6,R6,O6,B6⟩:=hcut;clear E R4 B4 o;obtain⟨o,I,z,U,J,K⟩:=Aa.c6 Z6.o 0 1 2 3 4 5;have zN:c.length<=255:=by
  rw[d.o.2.2.2.2.2.1];split
  .exact Wj _ _
  .exact Nat.zero_le _
 have zT:f.size<=maxLen:=by
  rw[d.o.2.2.2.2.1];unfold maxLen;split
  .have:=QT l wd;omega
  .exact Nat.zero_le _
 have zK:a.size<=maxLen:=Yo
 have V:Hid (Ad w6 w6.heap.size i c):=by obtain⟨a',c',hv,hr⟩:=DO O6.o;cases hv;exact hr
 have C:=Yw (Zn zN (Zn zT zK));clear zN zT zK zS yA;go_wp2_with fail;refine(UE (b:Int) g a n f i k c wd w6 V.o (by have:=C.o.1;omega) C.o.2.1 C.o.2.2).mono ?_;rintro e w7 ⟨rfl,m⟩;have Z7:Hid (Aa w7 B (Ya (b:Int) g a n f i c.length k)):=Z6.o.below m;have y:Hid (Aa w7 w.heap.size Yb):=R6.o.below m
 have O7:Hid (w7.ownsRow (w.heap.size+1) 9 1 (.slice i c.length k) c.length (c.map Value.string)):=O6.o.kept (Al none m) (Classical.em _);have B7:=Yw (B6.o.trans (m.mono B6.o.size));have S7:=Yw (Ad.N V.o m);clear Z6 R6 O6 B6 V m o I z U J K;obtain⟨o,I,z,U,J,K⟩:=Aa.c6 Z7.o 0 1 2 3 4 5;cases hok:Bw (b:Int) g a n f c wd with
 |false=>
  have Q:Hid (Av s wd=FJ):=by show _=_;rw[d.o.2.2.2.2.2.2,if_neg (by rw[hok];simp)]
  obtain⟨r0,q0⟩:=y.o 0 _ rfl;obtain⟨r1,q1⟩:=y.o 1 _ rfl;obtain⟨r2,q2⟩:=y.o 2 _ rfl;obtain⟨r3,q3⟩:=y.o 3 _ rfl;obtain⟨r4,q4⟩:=y.o 4 _ rfl;obtain⟨r5,q5⟩:=y.o 5 _ rfl;clear o I z U J K hok;go_wp2;refine bodyPost_ret (v:=.tuple #[.agg Yc,.bool false]) (by simp[results,results21,go_sem, *]) rfl ?_;refine Hc Q.o ?_
  iterate 6 (refine Below.setCell ?_ (show w.heap.size<=w.heap.size from Zx) _)
  exact B7.o
 |true=>
  have zC:=Yw hok;clear hok;go_wp2_with fail;refine(OH (b:Int) g a n f i k c wd w7 S7.o (by have:=C.o.1;omega) C.o.2.1 C.o.2.2).mono ?_;rintro e w8 ⟨rfl,r⟩;have Z8:=Z7.o.below r;have R8:=y.o.below r;have O8:=O7.o.kept (Al none r) (Classical.em _);have B8:=B7.o.trans (r.mono B7.o.size);clear o I z U J K;obtain⟨o,I,z,U,J,K⟩:=Aa.c6 Z8 0 1 2 3 4 5;obtain⟨r0,q0⟩:=R8 0 _ rfl;obtain⟨r1,q1⟩:=R8 1 _ rfl
  obtain⟨r2,q2⟩:=R8 2 _ rfl;obtain⟨r3,q3⟩:=R8 3 _ rfl;obtain⟨r4,q4⟩:=R8 4 _ rfl;obtain⟨r5,q5⟩:=R8 5 _ rfl;have HC:=Yw (Zn O8 B8);clear Z8 R8 O8 B8 r;obtain⟨S,t⟩:=Af (Ch (b:Int) g a n f c wd);rw[<-t];by_cases heq:S=s
  .have Q:Hid (Av s wd=⟨b,g,a,n,f,c,true⟩):=by show _=_;rw[d.o.2.2.2.2.2.2,if_pos (by rw[zC.o,<-t,heq];simp)]
   subst heq;clear t;go_wp2;refine bodyPost_ret (v:=.tuple #[.agg (Xz (b:Int) g a n f i c.length k),.bool true]) (by simp[results,results21,go_sem, *]) rfl ?_;unfold CM;rw[Q.o];have zJ:w.heap.size<w.heap.size+1:=Nat.lt_succ_self _;refine⟨_,rfl,?_,?_⟩
   .refine World.ownsRow.mono ?_ (Nat.le_of_lt zJ)
    iterate 6 (refine ownsRow_setCell_below ?_ zJ _)
    exact HC.o.1
   .iterate 6 (refine Below.setCell ?_ (show w.heap.size<=w.heap.size from Zx) _)
    exact HC.o.2
  .have Q:Hid (Av s wd=FJ):=by show _=_;rw[d.o.2.2.2.2.2.2,if_neg (by rw[zC.o,<-t];simpa using heq)]
   have zZ:(S.toList==s.toList)=false:=by rw[beq_eq_false_iff_ne];intro h;rw[ByteArray.toList_eq,ByteArray.toList_eq]at h;exact heq (ByteArray.ext (Array.toList_inj.1 h))
   have yC:(S.toList !=s.toList)=true:=by rw[bne,zZ];rfl
   clear t heq;go_wp2;refine bodyPost_ret (v:=.tuple #[.agg Yc,.bool false]) (by simp[results,results21,go_sem, *]) rfl ?_;refine Hc Q.o ?_
   iterate 6 (refine Below.setCell ?_ (show w.heap.size<=w.heap.size from Zx) _)
   exact HC.o.2
theorem RW(s:Zi)(wd:Int)(w:Zh)(a:s.size<=1048576):
 Calls prog 21 #[.string s,Zg wd] w (CM s wd w):=by
 by_cases hw:1<=wd/\wd<=8
 .obtain⟨h1,h2⟩:=hw;by_cases h6:s.size<6
  .exact RS s wd w h1 h2 h6
  .obtain⟨l,rfl⟩:∃l,s=AH l:=⟨s.data.toList,rfl⟩;rw[BN]at a h6
   match l,a,h6 with
   |a0::a1::a2::a3::a4::a5::T,a,h6=>
    have b:(AH (a0::a1::a2::a3::a4::a5::T)).size=T.length+6:=by rw[BN];rfl
    by_cases hT:a5.toNat<=T.length
    .refine RU _ wd a0.toNat a1.toNat a2.toNat a3.toNat a4.toNat a5.toNat w (by rw[BN];exact a) h1 h2 Yv rfl rfl rfl rfl rfl rfl Yv (AH (T.take a5.toNat)) (AH (T.drop a5.toNat)) ?_ ?_ (CB [a1,a2,a3,a4]) (Wp a1 a2 a3 a4).symm _ _ _ rfl rfl rfl ?_
     .rw[GX,show 6+a5.toNat -6=a5.toNat by omega];rfl
     .rw[b,GX];congr 2;rw[show 6+a5.toNat=a5.toNat+6 by omega];show(T.drop a5.toNat).take _=_;exact Zt Yu
     .exact Nv a0 a1 a2 a3 a4 a5 T h1 h2 hT
    .exact RT _ wd w (by rw[BN];exact a) h1 h2 a5.toNat Yv rfl (Pf h1 h2 Yv) Yv
   |[],_,h6=>simp at h6
   |[_],_,h6=>simp at h6
   |[_,_],_,h6=>simp at h6
   |[_,_,_],_,h6=>simp at h6
   |[_,_,_,_],_,h6=>simp at h6
   |[_,_,_,_,_],_,h6=>simp at h6
 .exact RQ s wd w hw
theorem DQ(h:(Av s wd).ok=true):Bw (Av s wd).k (Av s wd).sum (Av s wd).name (Av s wd).n (Av s wd).t (Av s wd).ss wd=true/\Ch (Av s wd).k (Av s wd).sum (Av s wd).name (Av s wd).n (Av s wd).t (Av s wd).ss wd=s:=by
 by_cases hw:1<=wd/\wd<=8
 .obtain⟨h1,h2⟩:=hw;obtain⟨l,rfl⟩:∃l,s=AH l:=⟨s.data.toList,rfl⟩;by_cases h6:l.length<6
  .rw[Nx h1 h2 h6]at h;cases h
  .match l,h6,h with
   |a0::a1::a2::a3::a4::a5::T,h6,h=>
    by_cases hT:a5.toNat<=T.length
    .rw[Nv a0 a1 a2 a3 a4 a5 T h1 h2 hT]at h |-;split at h
     case isTrue hc=>
      rw[if_pos hc];unfold Pc at hc;rw[Bool.and_eq_true,decide_eq_true_eq]at hc;exact hc
     case isFalse hc=>cases h
    .rw[Pf h1 h2 Yv]at h;cases h
   |[],h6,_=>simp at h6
   |[_],h6,_=>simp at h6
   |[_,_],h6,_=>simp at h6
   |[_,_,_],h6,_=>simp at h6
   |[_,_,_,_],h6,_=>simp at h6
   |[_,_,_,_,_],h6,_=>simp at h6
 .rw[Nw hw]at h;cases h
structure KK (w V:Zh) (u v:Value):Prop where
 b0:V.cell? (Zd (w.heap.size) 0)=some u
 b1:V.cell? (Zd (w.heap.size) 1)=some v
 r0:V.cell? (Zd (w.heap.size+1) 0)=some Zb
 r1:V.cell? (Zd (w.heap.size+1) 1)=some Zb
 f:∀o,V.frozen? ⟨w.heap.size+1,o,none⟩=false
 cu:Below w.heap.size w V
 le:w.heap.size+2<=V.heap.size
theorem KK.alloc(h:KK w V u v)(o:Obj):KK w (V.alloc o) u v:=by
 have a:=(Below.refl V.heap.size V).alloc (Zx) o;have:=h.le;exact⟨(a.cell (p:=⟨w.heap.size,0,none⟩) Yt).trans h.b0,(a.cell (p:=⟨w.heap.size,1,none⟩) Yt).trans h.b1,(a.cell (p:=⟨w.heap.size+1,0,none⟩) Yt).trans h.r0,(a.cell (p:=⟨w.heap.size+1,1,none⟩) Yt).trans h.r1,
  fun o=>(a.frozen (p:=⟨w.heap.size+1,o,none⟩) Yt).trans (h.f o),h.cu.alloc h.cu.size o,Yt⟩
theorem KK.drew(h:KK w V u v):KK w V.drew u v:=⟨h.b0,h.b1,h.r0,h.r1,h.f,h.cu.drew,h.le⟩
theorem KK.grown{b:Zh}{q:Nat}(h:KK w V u v)(a:V.grownBy b (some q))(d:w.heap.size+2<=q):KK w b u v:=by
 have:=h.le;have:=a.size;exact⟨a.cell h.b0 Yt,a.cell h.b1 Yt,a.cell h.r0 Yt,a.cell h.r1 Yt,
  fun o=>(a.frozen_far ⟨w.heap.size+1,o,none⟩ Yt Yt).trans (h.f o),h.cu.grown a h.cu.size (fun k c=>by cases c;omega),Yv⟩
end Go.Proofs.YtoglnpagihdhpaaGreatDoor
