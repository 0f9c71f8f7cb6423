import Derived.Test.YtckmnfhmoankmaaGreatDoorX05
import Derived.Test.YtckmnfhmoankmaaGreatDoorX04
import Derived.Test.YtckmnfhmoankmaaGreatDoorX03
import Derived.Lib.LaidTab
import Derived.LaidHandle
import Derived.Test.YtckmnfhmoankmaaGreatDoorCards
import Derived.Test.YtckmnfhmoankmaaGreatDoorTie
import Derived.OpenVars
import Derived.Deep.DeepHandedRow
import Derived.BigRegion
set_option maxRecDepth 100000
set_option maxHeartbeats 16000000
namespace Go.Proofs.YtckmnfhmoankmaaGreatDoor
open Go.ChangeShapes Go.WideShapes Go.ChangeAt Go.RowKit _root_.Go.Proofs.Tryz
theorem Aad:prog.cellsOf 3=1:=by kernel_rfl
theorem VJ:prog.globalNamed "loop.example/kilnvault/impl.kindParts" =some 0:=by kernel_rfl
theorem Tc:(prog.globals[0]?).map (·.type)=some 235:=by kernel_rfl
theorem Td:prog.cellsOf 195=4:=by kernel_rfl
theorem QV:prog.cellsOf 4=1:=by kernel_rfl
theorem VK{α:Type}{l:List α}(h:l.length=4):∃a b c d,l=[a,b,c,d]:=by
 match l,h with
 |[a,b,c,d],_=>exact⟨a,b,c,d,rfl⟩
theorem Pw{H:Type}{d:TypeId×Value->H}{W:Zh}{base:Nat}{spare:Nat->Bool}{held:Bool}{g:Nat}{l:Zj}{p:List MemPlace}{a b c:Bool}{m:Int}
 (h:DataW.trod d prog W base spare held g 195 l=some (.agg [.lit (.bool a),.lit (.bool b),.lit (.bool c),.lit (.int .i64 m)],p)):l=[.bool a,.bool b,.bool c,.int .i64 m]:=by
 obtain⟨G,f,_,q,o,hlen,e⟩:=DataW.trod_struct underlying195 h;rw[Td]at o;obtain⟨v0,v,w,x,rfl⟩:=VK o;obtain⟨y,z,A,B,rfl⟩:=VK hlen;have r:DataW.trod d prog W base spare held f 4 [v0]=some y:=by simpa [QV]using e 0 _ rfl
 have s:DataW.trod d prog W base spare held f 4 [v]=some z:=by simpa [QV]using e 1 _ rfl
 have t:DataW.trod d prog W base spare held f 4 [w]=some A:=by simpa [QV]using e 2 _ rfl
 have u:DataW.trod d prog W base spare held f 3 [x]=some B:=by simpa [Aad]using e 3 _ rfl
 obtain⟨C,i,rfl⟩:=DataW.trod_bool underlying4 r;obtain⟨D,j,rfl⟩:=DataW.trod_bool underlying4 s;obtain⟨E,k,rfl⟩:=DataW.trod_bool underlying4 t;obtain⟨F,n,rfl,_⟩:=DataW.trod_int underlying3 u;simp at i j k n q;obtain⟨⟨rfl,rfl,rfl,rfl⟩,_⟩:=q;rw[i,j,k,n]
theorem Ot{W:Zh}{f:Array Value}{b:Nat}{p:List MemPlace}(c:W.var? prog "loop.example/kilnvault/impl.kindParts" =some f)
 (o:DataW.trod (fun _=>()) prog W 0 (fun _=>true) false b 235 f.toList=some (Rows.laid_loop_example_kilnvault_impl_kindParts,p)):Jh W:=by
 obtain⟨i,u,_,r,t,hlen,g⟩:=DataW.trod_array underlying235 o;rw[Td]at g;have m:i.map (·.1)=_:=(DataW.agg.inj (Prod.mk.inj r).1).symm;intro k h1 n;have e:(i.map (·.1))[k]?=some (.agg [.lit (.bool (Dq k)),.lit (.bool (DG k)),.lit (.bool (CO k)),.lit (.int .i64 (CE k))]):=by
  rw[m]
  match k,h1,n with
  |1,_,_=>rfl
  |2,_,_=>rfl
  |3,_,_=>rfl
  |4,_,_=>rfl
  |5,_,_=>rfl
  |6,_,_=>rfl
  |7,_,_=>rfl
 rw[List.getElem?_map]at e;obtain⟨⟨v,w⟩,s,d⟩:=Option.map_eq_some_iff.1 e;simp only at d;subst d;have h:=g k (by omega);rw[s]at h;have l:=Pw h;have a:∀j,j<4->W.cell? ⟨0,k *4+j,none⟩=([.bool (Dq k),.bool (DG k),.bool (CO k),.int .i64 (CE k)]:Zj)[j]?:=by intro j q;rw[World.var?_cell VJ c,←l,List.getElem?_take_of_lt q,List.getElem?_drop];simp
 exact⟨a 0 (by omega),a 1 (by omega),a 2 (by omega),a 3 (by omega)⟩
def IG:Zk->Value
 |none=> .nilIface
 |some q=> .iface 222 (.pointer (some q))
structure Qb (w:Zh) (b:Nat) (rest:Zi) (kind:Int) (er:Zk):Prop where
 x0:w.cell? (Ze b 0)=some (.string rest)
 x1:w.cell? (Ze b 1)=some (Zg kind)
 x2:w.cell? (Ze b 2)=some (IG er)
 f0:w.frozen? ⟨b,0,none⟩=false
 f1:w.frozen? ⟨b,1,none⟩=false
 f2:w.frozen? ⟨b,2,none⟩=false
def DQ(w:Zh)(b:Nat)(rest:Zi)(kind:Int)(bad:Bool):Prop:=∃er:Zk,er.isSome=bad/\Qb w b rest kind er
theorem Qb.lt{w:Zh}{b:Nat}{rest:Zi}{kind:Int}{a:Zk}(h:Qb w b rest kind a):b<w.heap.size:=World.block_lt_of_cell? w _ h.x0
theorem Qb.below{w e:Zh}{b:Nat}{rest:Zi}{kind:Int}{d:Zk}(h:Qb w b rest kind d)(a:Zz w e):Qb e b rest kind d:=by have c:=h.lt;exact⟨(a.cell (p:=⟨b,0,none⟩) c).trans h.x0,(a.cell (p:=⟨b,1,none⟩) c).trans h.x1,(a.cell (p:=⟨b,2,none⟩) c).trans h.x2,(a.frozen (p:=⟨b,0,none⟩) c).trans h.f0,(a.frozen (p:=⟨b,1,none⟩) c).trans h.f1,(a.frozen (p:=⟨b,2,none⟩) c).trans h.f2⟩
theorem DQ.below{w a:Zh}{b:Nat}{rest:Zi}{kind:Int}{bad:Bool}(h:DQ w b rest kind bad)(d:Zz w a):DQ a b rest kind bad:=by obtain⟨c,h1,h2⟩:=h;exact⟨c,h1,h2.below d⟩
theorem FU(b:Nat)(rest:Zi)(kind:Int)(d:Bool)(f:TypeId)(g:Value)(w:Zh)(h:DQ w b rest kind d):
 Calls prog 185 #[Yz b,.iface f g] w fun e c=>e=.returned (.tuple #[])/\DQ c b rest kind true/\w.grownBy c (some b):=by
 obtain⟨i,rfl,h⟩:=h;have p:=h.lt;obtain⟨m,n,a,j,k,l⟩:=h;cases i with
 |none=>
  simp only[IG]at a;go_enter func185,ntmps185;go_wp2
  go_end0
  refine⟨rfl,⟨some ⟨w.heap.size,0,none⟩,rfl,?_⟩,?_⟩
  ·have o:b≠w.heap.size:=by omega
   constructor<;>simp[IG,go_sem, *]
  ·exact(Az _ _ _ _).trans (World.grownBy_alloc _ _ _)
 |some q=>
  simp only[IG]at a;go_enter func185,ntmps185;go_wp2
  go_end0
  exact⟨rfl,⟨some q,rfl,⟨m,n,a,j,k,l⟩⟩,World.grownBy.refl _ _⟩
def Bn(rest:Zi)(bad:Bool)(n:Int):Zi×Zi×Bool:=
 if bad=true then (⟨#[]⟩,rest,true)else if (rest.size:Int)<n then (⟨#[]⟩,rest,true)else (rest.extract 0 n.toNat,rest.extract n.toNat rest.size,false)
theorem IH(b:Nat)(rest:Zi)(kind:Int)(a:Bool)(n:Int)(d:TypeId)(f:Value)(w:Zh)(h:DQ w b rest kind a)(r:a=false->0<=n)(v:w.cell? (Ze 6 0)=some (.iface d f)):
 Calls prog 187 #[Yz b,Zg n] w fun e g=>e=.returned (.string (Bn rest a n).1)/\DQ g b (Bn rest a n).2.1 kind (Bn rest a n).2.2/\w.grownBy g (some b):=by
 have p:=h;obtain⟨j,rfl,h⟩:=h;have x:=h.lt;obtain⟨s,t,c,k,l,m⟩:=h;cases j with
 |none=>
  simp only[IG]at c;have u:=r rfl;by_cases hf:(rest.size:Int)<n
  ·rw[show Bn rest (none:Zk).isSome n=(⟨#[]⟩,rest,true) by simp[Bn,hf]];have i:decide ((rest.size:Int)<n)=true:=by simpa using hf
   go_enter func187,ntmps187;go_wp2_with fail;refine(FU b rest kind false d f w p).mono ?_;rintro e y ⟨rfl,h1,o⟩;go_wp2;go_ret;exact⟨rfl,h1,o⟩
  ·rw[show Bn rest (none:Zk).isSome n=(rest.extract 0 n.toNat,rest.extract n.toNat rest.size,false) by simp[Bn,hf]];have i:decide ((rest.size:Int)<n)=false:=by simpa using hf
   go_enter func187,ntmps187;go_wp2;go_ret;refine⟨rfl,⟨none,rfl,?_⟩,Az _ _ _ _⟩;constructor<;>simp[IG,go_sem, *]
 |some q=>rw[show Bn rest (some q:Zk).isSome n=(⟨#[]⟩,rest,true) by simp[Bn]];simp only[IG]at c;go_enter func187,ntmps187;go_wp2;go_ret;exact⟨rfl,⟨some q,rfl,⟨s,t,c,k,l,m⟩⟩,World.grownBy.refl _ _⟩
def CL(l:List UInt8):Int:=l.foldl (fun a b=>a *256+(b.toNat:Int)) 0
theorem Te(l:List UInt8)(b:UInt8):CL (l++[b])=CL l *256+(b.toNat:Int):=by simp[CL]
theorem Ww(l:List UInt8):∀a:Int,0<=a->0<=l.foldl (fun a b=>a *256+(b.toNat:Int)) a/\l.foldl (fun a b=>a *256+(b.toNat:Int)) a<(a+1) *256^l.length:=by
 induction l with
 |nil=>intro a c;simp;omega
 |cons b l ih=>intro a c;have d:=b.toNat_lt;obtain⟨h1,h2⟩:=ih (a *256+(b.toNat:Int)) (by omega);refine⟨h1,Int.lt_of_lt_of_le h2 ?_⟩;rw[List.length_cons,Int.pow_succ,←Int.mul_assoc,Int.mul_right_comm];exact Int.mul_le_mul_of_nonneg_right (by omega) (Int.pow_nonneg (by omega))
theorem Lh(l:List UInt8):0<=CL l/\CL l<256^l.length:=by have:=Ww l 0 (Int.le_refl _);simpa [CL]using this
theorem UK(a b:Nat)(f:a<2^30)(g:b<256):bits .or .i64 ((a:Int) *256) (b:Int)=(a:Int) *256+b:=by
 have c:((a:Int) *256)=((a *256:Nat):Int):=by omega
 have e:a *256|||b=a *256+b:=by have:=Nat.shiftLeft_add_eq_or_of_lt (i:=8) (b:=b) (by omega) a;rw[Nat.shiftLeft_eq,show(2:Nat)^8=256 from rfl]at this;omega
 have d:(BitVec.ofInt 64 ((a:Int) *256)|||BitVec.ofInt 64 (b:Int)).toNat=a *256+b:=by rw[c,BitVec.toNat_or,BitVec.ofInt_natCast,BitVec.ofInt_natCast,BitVec.toNat_ofNat,BitVec.toNat_ofNat,Nat.mod_eq_of_lt (by omega),Nat.mod_eq_of_lt (by omega),e]
 show IntKind.i64.wrap ((BitVec.ofInt 64 ((a:Int) *256)|||BitVec.ofInt 64 (b:Int)).toNat:Int)=_;rw[d,Et _ (by omega) (by omega)];omega
theorem GJ(b:Nat)(rest:Zi)(kind:Int)(c:Bool)(n:Nat)(o:TypeId)(p:Value)(w:Zh)(h:DQ w b rest kind c)(D:n<=4)(q:w.cell? (Ze 6 0)=some (.iface o p)):
 Calls prog 186 #[Yz b,Zg (n:Int)] w fun e r=>e=.returned (Zg (CL (Bn rest c n).1.data.toList))/\DQ r b (Bn rest c n).2.1 kind (Bn rest c n).2.2/\w.grownBy r (some b):=by
 have u:(Bn rest c n).1.size<=4:=by
  unfold Bn;split
  ·exact Nat.zero_le _
  ·split
   ·exact Nat.zero_le _
   ·simp;omega
 go_enter func186,ntmps186;go_wp2_with fail;refine(IH b rest kind c n o p w h (fun _=>by omega) q).mono ?_;rintro e E ⟨rfl,h1,m⟩;have v:=Yx (Zn h1 m);clear h1 m h q;obtain⟨a,f⟩:∃a,a=(Bn rest c n).1:=⟨_,rfl⟩;rw[←f]at u ⊢;have y:=Yx f;clear f;go_wp2
 go_loop [6,13] (fun x i=>∃k:Nat,k<=a.size/\i=Zg k/\x=Zg (CL (a.data.toList.take k))) (fun _ i=>a.size -(intOf i).toNat)
 case atStart=>exact⟨0,Nat.zero_le _,rfl,rfl⟩
 case round=>
  obtain⟨k,C,rfl,rfl⟩:=hrel;by_cases hlt:k<a.size
  ·have l:=Lh (a.data.toList.take k);have d:CL (a.data.toList.take (k+1))=CL (a.data.toList.take k) *256+(a[k].toNat:Int):=by rw[←Te,Zu (by simpa using hlt)];rfl
   have A:CL (a.data.toList.take k)<16777216:=by
    have h2:=l.2;have s:(a.data.toList.take k).length=0∨(a.data.toList.take k).length=1∨(a.data.toList.take k).length=2∨(a.data.toList.take k).length=3:=by simp;omega
    rcases s with g|g|g|g<;>rw[g]at h2<;>simp at h2<;>omega
   obtain⟨X,z⟩:∃X:Nat,CL (a.data.toList.take k)=(X:Int):=⟨_,(Int.toNat_of_nonneg l.1).symm⟩;have t:=UK X a[k].toNat (by omega) a[k].toNat_lt;rw[z]at d ⊢;have B:IntKind.i64.wrap ((X:Int) *256)=(X:Int) *256:=Et _ (by omega) (by omega);clear l;go_wp2;exact⟨⟨k+1,by omega,by go_num,by rw[d,Ci,t]⟩,by simp[intOf];omega⟩
  ·obtain rfl:k=a.size:=by omega
   have j:a.data.toList.take a.size=a.data.toList:=Zt (by simp);rw[j];go_wp2;go_ret;exact⟨by rw[←y.o];rfl,v.o⟩
structure Env (w:Zh):Prop where
 gp:Jh w
 ib:Ny w
 er:∀g∈[1,2,3,4,6,7],∃t v,w.cell? (Ze g 0)=some (.iface t v)
theorem Env.lt{w:Zh}(h:Env w):∀g∈[1,2,3,4,6,7,0,5],g<w.heap.size:=by
 intro g b;have h1:=h.er;obtain⟨c,_⟩:=h.gp 1 (by omega) (by omega);have d:=World.block_lt_of_cell? w _ c;have e:=World.block_lt_of_cell? w _ h.ib;have a:∀g∈[1,2,3,4,6,7],g<w.heap.size:=fun g b=>by obtain⟨t,v,f⟩:=h1 g b;exact World.block_lt_of_cell? w _ f
 simp only[List.mem_cons,List.not_mem_nil,or_false]at b a;rcases b with rfl|rfl|rfl|rfl|rfl|rfl|rfl|rfl
 ·exact a _ (by simp)
 ·exact a _ (by simp)
 ·exact a _ (by simp)
 ·exact a _ (by simp)
 ·exact a _ (by simp)
 ·exact a _ (by simp)
 ·exact d
 ·exact e
theorem Env.of{w c:Zh}(h:Env w)(a:∀p:Addr,p.block∈[1,2,3,4,6,7,0,5]->c.cell? p=w.cell? p):Env c:=by
 refine⟨fun k h1 f=> ?_,?_,fun g b=> ?_⟩
 ·obtain⟨d,e,c2,c3⟩:=h.gp k h1 f;exact⟨(a ⟨_,_,none⟩ (by simp)).trans d,(a ⟨_,_,none⟩ (by simp)).trans e,(a ⟨_,_,none⟩ (by simp)).trans c2,(a ⟨_,_,none⟩ (by simp)).trans c3⟩
 ·exact(a ⟨_,_,none⟩ (by simp)).trans h.ib
 ·obtain⟨t,v,i⟩:=h.er g b;refine⟨t,v,(a ⟨g,0,none⟩ ?_).trans i⟩;simp only[List.mem_cons,List.not_mem_nil,or_false]at b ⊢;omega
theorem Env.below{w a:Zh}(h:Env w)(b:Zz w a):Env a:=
 h.of fun _ c=>b.cell (h.lt _ c)
theorem Env.gx{w c:Zh}{b:Nat}(h:Env w)(f:w.grownBy c (some b))(d:∀g∈[1,2,3,4,6,7,0,5],g<b):Env c:=
 h.of fun p a=>f.cell_far p (h.lt _ a) (fun e=>by have:=d _ a;injection e;omega)
theorem DQ.lt{w:Zh}{b:Nat}{rest:Zi}{kind:Int}{bad:Bool}(h:DQ w b rest kind bad):b<w.heap.size:=by obtain⟨a,_,h⟩:=h;exact h.lt
theorem DQ.setKind{w:Zh}{b:Nat}{rest:Zi}{kind:Int}{a:Bool}(h:DQ w b rest kind a)(k:Int):DQ (w.setCell (Ze b 1) (Zg k)) b rest k a:=by obtain⟨c,h1,g,i,j,d,e,f⟩:=h;refine⟨c,h1,?_⟩;constructor<;>simp[go_sem, *]
theorem DQ.db{w i:Zh}{b c:Nat}{rest:Zi}{kind:Int}{g:Bool}(h:DQ w b rest kind g)(a:w.grownBy i (some c))(j:b≠c):DQ i b rest kind g:=by obtain⟨k,h1,h⟩:=h;have d:=h.lt;have f:some b≠some c:=fun e=>j (by injection e);exact⟨k,h1,(a.cell_far ⟨b,0,none⟩ d f).trans h.x0,(a.cell_far ⟨b,1,none⟩ d f).trans h.x1,(a.cell_far ⟨b,2,none⟩ d f).trans h.x2,(a.frozen_far ⟨b,0,none⟩ d f).trans h.f0,(a.frozen_far ⟨b,1,none⟩ d f).trans h.f1,(a.frozen_far ⟨b,2,none⟩ d f).trans h.f2⟩
def EZ(rest:Zi)(bad:Bool):Zi:=(Bn rest bad rest.size).1
def Jt(rest:Zi)(bad:Bool):Zi:=(Bn rest bad rest.size).2.1
def Gf(rest:Zi)(bad:Bool)(wd:Int):Bool:=(Bn rest bad rest.size).2.2|| !(rd (EZ rest bad) wd).2.2
theorem Qc{rest:Zi}{bad:Bool}(h:rest.size<=1048576):(EZ rest bad).size<=1048576:=by
 unfold EZ Bn;split
 ·exact Nat.zero_le _
 ·split
  ·exact Nat.zero_le _
  ·simp;omega
theorem Tf(b:Nat)(rest:Zi)(kind:Int)(bad:Bool)(wd:Int)(w:Zh)(h:DQ w b rest kind bad)(he:Env w)(hb:∀g∈[1,2,3,4,6,7,0,5],g<b)(hs:rest.size<=1048576):
 Calls prog 188 #[Yz b,Zg wd] w fun e U=>∃v,e=.returned (.agg #[.string (rd (EZ rest bad) wd).1,v])/\
  U.ownsRow w.heap.size 9 1 v (rd (EZ rest bad) wd).2.1.length ((rd (EZ rest bad) wd).2.1.map Value.string)/\DQ U b (Jt rest bad) kind (Gf rest bad wd)/\w.grownBy U (some b):=by
 obtain⟨W,n⟩:∃W,W=w.alloc (.cells #[Zd,Zc] 51):=⟨_,rfl⟩;have A:=(AJ n).1;have r0:W.cell? (Ze (w.heap.size) 0)=some Zd:=by rw[n];simp
 have r1:W.cell? (Ze (w.heap.size) 1)=some Zc:=by rw[n];simp
 have P:W.frozen? ⟨w.heap.size,0,none⟩=false:=by rw[n];simp
 have Q:W.frozen? ⟨w.heap.size,1,none⟩=false:=by rw[n];simp
 have C:w.heap.size<W.heap.size:=by rw[n];simp
 have d:=h.lt;have zA:=h.below A;have T:=he.below A;obtain⟨gt,gv,G⟩:=T.er 6 (by simp);have Y:=Yx n;have L:=Qc (bad:=bad) hs;obtain⟨er,F,x0,x1,x2,f0,f1,f2⟩:=zA;have X:Hid (DQ W b rest kind bad):=⟨er,F,x0,x1,x2,f0,f1,f2⟩;clear n h;go_enter func188,ntmps188;go_upto_region 1 with fail;rw[←Y.o];go_wp2_with fail;refine(IH b rest kind bad rest.size gt gv W X.o (fun _=>by omega) G).mono ?_
 rintro e t ⟨rfl,h1,m⟩;rw[show(Bn rest bad rest.size).1=EZ rest bad from rfl];obtain⟨a,y⟩:∃a,a=EZ rest bad:=⟨_,rfl⟩;rw[←y]at L ⊢;have r:=Yx y;have S:=fun W'=>Sw a wd W' L;unfold Ey at S;have V:=Yx S;clear S x0 x1 x2 f0 f1 f2 F G y;go_wp2_with fail;refine(V.o t).mono ?_;rintro e o ⟨v,rfl,B,z⟩;obtain⟨u,c2,hv,_⟩:=DP B;subst hv;have zE:=m.size;have D:=z.size
 obtain⟨f,l⟩:∃f,f=o.alloc (.cells #[.string (rd a wd).1,.slice u (rd a wd).2.1.length c2] 51):=⟨_,rfl⟩;have s:=(AJ l).1;have t0:f.cell? (Ze (o.heap.size) 0)=some (.string (rd a wd).1):=by rw[l];simp
 have t1:f.cell? (Ze (o.heap.size) 1)=some (.slice u (rd a wd).2.1.length c2):=by rw[l];simp
 have M:o.heap.size<f.heap.size:=by rw[l];simp
 have zC:=s.size;have c:=z.trans (s.mono D);have q0:=(c.cell (p:=⟨w.heap.size,0,none⟩) (by simp;omega)).trans ((m.cell_far ⟨w.heap.size,0,none⟩ C (IQ d)).trans r0);have q1:=(c.cell (p:=⟨w.heap.size,1,none⟩) (by simp;omega)).trans ((m.cell_far ⟨w.heap.size,1,none⟩ C (IQ d)).trans r1)
 have N:=(c.frozen (p:=⟨w.heap.size,0,none⟩) (by simp;omega)).trans ((m.frozen_far ⟨w.heap.size,0,none⟩ C (IQ d)).trans P);have O:=(c.frozen (p:=⟨w.heap.size,1,none⟩) (by simp;omega)).trans ((m.frozen_far ⟨w.heap.size,1,none⟩ C (IQ d)).trans Q);have K:=h1.below c;have Z:=(T.gx m hb).below c;have x:=((AA (some b) A).trans m).trans (AA (some b) c);have I:=B.kept (AA none s) (Classical.em _)
 have H:∀k,(Value.slice u (rd a wd).2.1.length c2).ownBlock=some k->t.heap.size<=k:=fun k hk=>(B.lt k hk).1;obtain⟨kt,kv,zB⟩:=Z.er 7 (by simp);have q:=Yx (Zn K (Zn x (Zn I H)));have E:=Yx l;clear K x I Z h1 m z B r0 r1 P Q T X V H Y c s l;go_upto_region 2 with fail;rw[←E.o];clear E;cases hok:(rd a wd).2.2 with
 |true=>
  go_wp2;refine bodyPost_ret (v:=.agg #[.string (rd a wd).1,.slice u (rd a wd).2.1.length c2]) (by simp[results,results188,go_sem, *]) rfl ?_;refine⟨_,by rw[←r.o],?_,?_,?_⟩
  ·rw[←r.o];exact(ownsRow_setCell_below (ownsRow_setCell_below q.o.2.2.1 (show w.heap.size<t.heap.size by omega) _) (show w.heap.size<t.heap.size by omega) _).mono (by omega)
  ·have:Gf rest bad wd=(Bn rest bad rest.size).2.2:=by unfold Gf;rw[←r.o,hok];simp
   rw[this];exact(q.o.1.db (Az _ w.heap.size 0 _) (by omega)).db (Az _ w.heap.size 1 _) (by omega)
  ·exact(q.o.2.1.andThen (Az _ w.heap.size 0 _) (fun j e=>by cases e;exact .inl (Zx))).andThen (Az _ w.heap.size 1 _) (fun j e=>by cases e;exact .inl (Zx))
 |false=>
  go_wp2_with fail;refine(FU b _ kind _ kt kv f q.o.1).mono ?_;rintro e w4 ⟨rfl,h4,i⟩;have zF:=i.size;have t0:=(i.cell_far ⟨o.heap.size,0,none⟩ M (IQ (show b<o.heap.size by omega))).trans t0;have t1:=(i.cell_far ⟨o.heap.size,1,none⟩ M (IQ (show b<o.heap.size by omega))).trans t1;have q0:=(i.cell_far ⟨w.heap.size,0,none⟩ (show w.heap.size<f.heap.size by omega) (IQ d)).trans q0
  have q1:=(i.cell_far ⟨w.heap.size,1,none⟩ (show w.heap.size<f.heap.size by omega) (IQ d)).trans q1;have N:=(i.frozen_far ⟨w.heap.size,0,none⟩ (show w.heap.size<f.heap.size by omega) (IQ d)).trans N;have O:=(i.frozen_far ⟨w.heap.size,1,none⟩ (show w.heap.size<f.heap.size by omega) (IQ d)).trans O;have J:=q.o.2.2.1.kept i (.inr (fun e=>by have:=q.o.2.2.2 b e;omega));have x:=q.o.2.1.trans i
  have R:=Yx (Zn h4 (Zn x J));clear h4 x J i zB;go_wp2;refine bodyPost_ret (v:=.agg #[.string (rd a wd).1,.slice u (rd a wd).2.1.length c2]) (by simp[results,results188,go_sem, *]) rfl ?_;refine⟨_,by rw[←r.o],?_,?_,?_⟩
  ·rw[←r.o];exact(ownsRow_setCell_below (ownsRow_setCell_below R.o.2.2 (show w.heap.size<t.heap.size by omega) _) (show w.heap.size<t.heap.size by omega) _).mono (by omega)
  ·have:Gf rest bad wd=true:=by unfold Gf;rw[←r.o,hok];simp
   rw[this];exact(R.o.1.db (Az _ w.heap.size 0 _) (by omega)).db (Az _ w.heap.size 1 _) (by omega)
  ·exact(R.o.2.1.andThen (Az _ w.heap.size 0 _) (fun j e=>by cases e;exact .inl (Zx))).andThen (Az _ w.heap.size 1 _) (fun j e=>by cases e;exact .inl (Zx))
theorem XY:prog.globalNamed "errors.errorType" =some 5:=by kernel_rfl
theorem ZC:(prog.cutTypes.find? (·.1== "internal/reflectlite.rtype")).map (·.2)=some 285:=by kernel_rfl
theorem Tg:prog.types.size+100=455:=by kernel_rfl
theorem XZ:((List.range (455 -100)).filter fun t=>prog.rowNamed t [101,114,114,111,114])=[209]:=by kernel_rfl
theorem YA{W:Zh}(h:handlesMet prog [("errors.errorType",Rows.laid_errors_errorType)] W):Ny W:=by
 obtain⟨name,u,i,c,d,j,e,a⟩:=h _ (List.mem_singleton.2 rfl);have f:=(Option.some.inj c).symm;subst f;obtain rfl:=Option.some.inj (ZC.symm.trans d);have b:i∈(List.range (455 -100)).filter fun t=>prog.rowNamed t [101,114,114,111,114]:=List.mem_filter.2 ⟨List.mem_range.2 (by have:=Tg;omega),e⟩;rw[XZ]at b;obtain rfl:=List.mem_singleton.1 b;have g:typeHandle prog 209=Yy 9 209:=by kernel_rfl
 rw[g]at a;unfold Ny;simpa using World.var?_cell XY a 0
theorem Is{W:Zh}{e:String}{g:Nat}{a:Array Value}{b:Nat}{j:String}{d:DataW Unit}{p:List MemPlace}(i:prog.globalNamed e=some g)(c:W.var? prog e=some a)
 (h:DataW.trod (fun _=>()) prog W 0 (fun _=>true) false b 209 a.toList=some (.iface j d,p)):∃t v,W.cell? (Ze g 0)=some (.iface t v):=by
 obtain⟨_,u,v,f,_,_⟩:=iface_of_trod underlying209 h;refine⟨u,v,?_⟩;rw[World.var?_cell i c];have:a[0]?=a.toList[0]?:=by simp
 rw[this,f];rfl
theorem Ou:prog.globalNamed "loop.example/kilnvault/impl.errWidth" =some 1/\(prog.globals[1]?).map (·.type)=some 209:=⟨by kernel_rfl,by kernel_rfl⟩
theorem Ov:prog.globalNamed "loop.example/kilnvault/impl.errKind" =some 2/\(prog.globals[2]?).map (·.type)=some 209:=⟨by kernel_rfl,by kernel_rfl⟩
theorem Ow:prog.globalNamed "loop.example/kilnvault/impl.errShort" =some 6/\(prog.globals[6]?).map (·.type)=some 209:=⟨by kernel_rfl,by kernel_rfl⟩
theorem Ox:prog.globalNamed "loop.example/kilnvault/impl.errThing" =some 7/\(prog.globals[7]?).map (·.type)=some 209:=⟨by kernel_rfl,by kernel_rfl⟩
theorem QW:prog.globalNamed "loop.example/kilnvault/impl.errLong" =some 3/\(prog.globals[3]?).map (·.type)=some 209:=⟨by kernel_rfl,by kernel_rfl⟩
theorem Oy:prog.globalNamed "loop.example/kilnvault/impl.errParts" =some 4/\(prog.globals[4]?).map (·.type)=some 209:=⟨by kernel_rfl,by kernel_rfl⟩
def VL:List (String×DataW Unit):=
 [("loop.example/kilnvault/impl.kindParts",Rows.laid_loop_example_kilnvault_impl_kindParts),("loop.example/kilnvault/impl.errWidth",Rows.laid_loop_example_kilnvault_impl_errWidth),("loop.example/kilnvault/impl.errKind",Rows.laid_loop_example_kilnvault_impl_errKind),("loop.example/kilnvault/impl.errShort",Rows.laid_loop_example_kilnvault_impl_errShort),
   ("loop.example/kilnvault/impl.errThing",Rows.laid_loop_example_kilnvault_impl_errThing),("loop.example/kilnvault/impl.errLong",Rows.laid_loop_example_kilnvault_impl_errLong),("loop.example/kilnvault/impl.errParts",Rows.laid_loop_example_kilnvault_impl_errParts)]
theorem YB{W:Zh}(h:laidMet prog VL W)(F:handlesMet prog [("errors.errorType",Rows.laid_errors_errorType)] W):Env W:=by
 obtain⟨ps,G,_⟩:=h;obtain⟨X,t1,N,P,p1,q1,k,r,y,b,H,_⟩:=G;obtain⟨Y,t2,c2,Q,p2,q2,l,s,z,c,I,_⟩:=H;obtain⟨Z,t3,c3,R,p3,q3,m,t,A,d,J,_⟩:=I;obtain⟨g4,t4,c4,S,p4,q4,n,u,B,e,K,_⟩:=J;obtain⟨g5,t5,O,T,p5,q5,o,v,C,f,L,_⟩:=K;obtain⟨g6,t6,c6,U,p6,q6,p,w,D,i,M,_⟩:=L;obtain⟨g7,t7,c7,V,p7,q7,q,x,E,j,r7,_⟩:=M;obtain rfl:=Option.some.inj (VJ.symm.trans k);obtain rfl:=Option.some.inj (Tc.symm.trans r)
 obtain rfl:=Option.some.inj (Ou.1.symm.trans l);obtain rfl:=Option.some.inj (Ou.2.symm.trans s);obtain rfl:=Option.some.inj (Ov.1.symm.trans m);obtain rfl:=Option.some.inj (Ov.2.symm.trans t);obtain rfl:=Option.some.inj (Ow.1.symm.trans n);obtain rfl:=Option.some.inj (Ow.2.symm.trans u);obtain rfl:=Option.some.inj (Ox.1.symm.trans o);obtain rfl:=Option.some.inj (Ox.2.symm.trans v)
 obtain rfl:=Option.some.inj (QW.1.symm.trans p);obtain rfl:=Option.some.inj (QW.2.symm.trans w);obtain rfl:=Option.some.inj (Oy.1.symm.trans q);obtain rfl:=Option.some.inj (Oy.2.symm.trans x);refine⟨Ot y b,YA F,?_⟩;intro g a;simp only[List.mem_cons,List.not_mem_nil,or_false]at a;rcases a with rfl|rfl|rfl|rfl|rfl|rfl
 ·exact Is Ou.1 z c
 ·exact Is Ov.1 A d
 ·exact Is QW.1 D i
 ·exact Is Oy.1 E j
 ·exact Is Ow.1 B e
 ·exact Is Ox.1 C f
def putCells(cs:Array Value):Obj->Obj
 |.cells _ t frozen=> .cells cs t frozen
 |o=>o
def JG(n:Nat):Value:=.iface 322 (.pointer (some ⟨n,0,none⟩))
noncomputable def envWorld (os:Os):Zh:=
 let w0:=World.holding prog os ⟨#[],#[],[]⟩
 {w0 with heap:=(((((((((((((w0.heap.modify 0 (putCells #[.bool false,.bool false,.bool false,Zf,.bool false,.bool false,.bool true,Zg 100000,.bool true,.bool true,.bool false,Zf,.bool true,.bool false,.bool false,Zf,.bool false,.bool true,.bool false,Zg 100000,.bool false,.bool false,.bool false,Zg 1000000000,.bool false,.bool false,.bool false,Zg 100000,.bool false,.bool true,.bool false,Zf])).modify 5 (putCells #[.iface 285 (.agg #[.pointer (some ⟨9,209,none⟩)])])).modify 1 (putCells #[JG w0.heap.size])).modify 2 (putCells #[JG (w0.heap.size+1)])).modify 6 (putCells #[JG (w0.heap.size+2)])).modify 7 (putCells #[JG (w0.heap.size+3)])).modify 3 (putCells #[JG (w0.heap.size+4)])).modify 4 (putCells #[JG (w0.heap.size+5)])).push (.cells #[.string ⟨#[110,111,32,119,105,100,116,104]⟩] 341)).push (.cells #[.string ⟨#[110,111,32,107,105,110,100,32,111,102,32,101,110,116,114,121]⟩] 341)).push (.cells #[.string ⟨#[105,116,32,101,110,100,115,32,116,111,111,32,101,97,114,108,121]⟩] 341)).push (.cells #[.string ⟨#[105,116,115,32,116,104,105,110,103,32,105,115,32,110,111,110,101]⟩] 341)).push (.cells #[.string ⟨#[105,116,32,103,111,101,115,32,111,110,32,98,101,104,105,110,100,32,105,116,115,32,101,110,100]⟩] 341)).push (.cells #[.string ⟨#[97,32,112,97,114,116,32,105,115,32,110,111,116,32,97,115,32,105,116,115,32,107,105,110,100,32,97,115,107,115]⟩] 341)}
theorem EE{H:Type}{a:TypeId×Value->H}{P:Program}{w:Zh}{f:Nat->Bool}{n:String}{e:List String}{c:List (DataW H)}{l:List MemPlace}(h:DataW.TrodVars a P w f (n::e) c l):∃d b q,c=d::b/\DataW.TrodVars a P w f e b q:=by
 cases c with
 |nil=>exact h.elim
 |cons d b=>obtain⟨g,t,m,j,p,q,_,_,_,_,k,_⟩:=h;exact⟨d,b,q,rfl,k⟩
noncomputable def heldE {H:Type} (a:TypeId×Value->H) (os:Os) (i:Nat):DataW H:=.held (a (322,Yz ((World.holding prog os ⟨#[],#[],[]⟩).heap.size+i)))
def EF(k:Int):Bool:=decide (1<=k/\k<=7)
def EQ(k:Int):Bool:=EF k&&Dq k.toNat
def DK(k:Int):Bool:=EF k&&DG k.toNat
def CI(k:Int):Bool:=EF k&&CO k.toNat
def ES(k:Int):Int:=if EF k=true then CE k.toNat else 0
theorem Px(k:Int)(w:Zh)(b:Jh w):
 Calls prog 141 #[Zg k] w fun e c=>e=.returned (.tuple #[.agg #[.bool (EQ k),.bool (DK k),.bool (CI k),Zg (ES k)],.bool (EF k)])/\Zz w c:=by
 by_cases hk:1<=k/\k<=7
 ·obtain⟨m,rfl⟩:∃m:Nat,k=m:=⟨k.toNat,by omega⟩;have a:EF (m:Int)=true:=decide_eq_true hk;rw[show EQ (m:Int)=Dq m by simp[EQ,a],show DK (m:Int)=DG m by simp[DK,a],show CI (m:Int)=CO m by simp[CI,a],show ES (m:Int)=CE m by simp[ES,a],a];exact JT m w b (by omega) (by omega)
 ·have a:EF k=false:=decide_eq_false hk;rw[show EQ k=false by simp[EQ,a],show DK k=false by simp[DK,a],show CI k=false by simp[CI,a],show ES k=0 by simp[ES,a],a];exact KN k w hk
theorem UL(n:Int)(w:Zh):
 Calls prog 94 #[Zg n] w fun e a=>e=.returned (.bool (decide (1<=n/\n<=8)))/\a=w:=by
 by_cases h1:1<=n
 ·by_cases h2:n<=8
  ·go_enter func94,ntmps94;go_wp2;go_ret;exact⟨Av (by simp[h1,h2]),rfl⟩
  ·have c:decide (n<=8)=false:=by simpa using h2
   go_enter func94,ntmps94;go_wp2;go_ret;exact⟨rfl,rfl⟩
 ·have b:decide (1<=n)=false:=by simpa using h1
  go_enter func94,ntmps94;go_wp2;go_ret;exact⟨rfl,rfl⟩
def Gv(wd:Int):Bool:= !decide (1<=wd/\wd<=8)
def En(s:Zi)(wd:Int):Zi×Zi×Bool:=Bn s (Gv wd) (1:Nat)
def AT(s:Zi)(wd:Int):Int:=CL (En s wd).1.data.toList
def FB(s:Zi)(wd:Int):Bool:=(En s wd).2.2|| !EF (AT s wd)
def Eb(s:Zi)(wd:Int):Zi×Zi×Bool:=Bn (En s wd).2.1 (FB s wd) (4:Nat)
def Ff(s:Zi)(wd:Int):Int:=CL (Eb s wd).1.data.toList
def Fm(s:Zi)(wd:Int):Zi×Zi×Bool:=Bn (Eb s wd).2.1 (Eb s wd).2.2 (1:Nat)
def MC(s:Zi)(wd:Int):Int:=CL (Fm s wd).1.data.toList
def BV(s:Zi)(wd:Int):Zi×Zi×Bool:=Bn (Fm s wd).2.1 (Fm s wd).2.2 (MC s wd)
def Bl(s:Zi)(wd:Int):Zi×Zi×Bool:=if DK (AT s wd)=true then Bn (BV s wd).2.1 (BV s wd).2.2 wd else (⟨#[]⟩,(BV s wd).2)
def Bi(s:Zi)(wd:Int):Zi×Zl:=if CI (AT s wd)=true then ((rd (EZ (Bl s wd).2.1 (Bl s wd).2.2) wd).1,(rd (EZ (Bl s wd).2.1 (Bl s wd).2.2) wd).2.1)else (⟨#[]⟩,[])
def CW(s:Zi)(wd:Int):Zi×Bool:=if CI (AT s wd)=true then (Jt (Bl s wd).2.1 (Bl s wd).2.2,Gf (Bl s wd).2.1 (Bl s wd).2.2 wd)else (Bl s wd).2
def FC(s:Zi)(wd:Int):Bool:=(CW s wd).2|| !decide ((CW s wd).1.size=0)
def Ju(s:Zi)(wd:Int):Bool:=Cs (AT s wd) (Bl s wd).1 (BV s wd).1 (Ff s wd) (Bi s wd).1 (Bi s wd).2 wd
def CM(s:Zi)(wd:Int):Bool:=FC s wd|| !Ju s wd
theorem Fu{rest:Zi}{a:Bool}{n:Int}(h:(Bn rest a n).2.2=false):a=false:=by
 unfold Bn at h;cases a
 ·rfl
 ·simp at h
theorem Qd(s:Zi)(wd:Int):(rd s wd).1.size<=s.size:=by
 unfold rd;split
 ·split
  ·exact Nat.zero_le _
  ·unfold JV Dw;split
   ·simp;omega
   ·exact Nat.zero_le _
 ·exact Nat.zero_le _
theorem ET(rest:Zi)(a:Bool)(n:Int):(Bn rest a n).1.size<=rest.size/\(Bn rest a n).2.1.size<=rest.size:=by
 unfold Bn;split
 ·exact⟨Nat.zero_le _,Zx⟩
 ·split
  ·exact⟨Nat.zero_le _,Zx⟩
  ·simp;omega
structure EW (w W:Zh) (b:Nat) (rest:Zi) (kind:Int) (bad:Bool):Prop where
 rs:DQ W b rest kind bad
 env:Env W
 gr:w.grownBy W (some b)
 fo:Aa W w.heap.size [Zf,Zd,Zd,Zf,Zd,Zc]
def NB(b:Nat):Prop:=∀g∈[1,2,3,4,6,7,0,5],g<b
theorem EW.step{w W e:Zh}{b:Nat}{rest c:Zi}{kind a:Int}{g d:Bool}(h:EW w W b rest kind g)(i:NB b)(j:b<w.heap.size)(k:DQ e b c a d)(f:W.grownBy e (some b)):EW w e b c a d:=
 ⟨k,h.env.gx f i,h.gr.trans f,h.fo.db f j⟩
theorem EW.below{w W c:Zh}{b:Nat}{rest:Zi}{kind:Int}{bad:Bool}(h:EW w W b rest kind bad)(a:Zz W c):EW w c b rest kind bad:=
 ⟨h.rs.below a,h.env.below a,h.gr.trans (AA _ a),h.fo.below a⟩
theorem EW.set{w W:Zh}{b:Nat}{rest:Zi}{kind:Int}{a:Bool}(h:EW w W b rest kind a)(c:NB b)(i:b<w.heap.size)(B j:Nat)(v:Value)(f:w.heap.size<B):EW w (W.setCell (Ze B j) v) b rest kind a:=
 ⟨h.rs.db (Az W B j v) (by omega),h.env.gx (Az W B j v) (fun g d=>by have:=c g d;omega),h.gr.andThen (Az W B j v) (fun k e=>by cases e;exact .inl (by omega)),h.fo.co (Az W B j v) (by omega)⟩
theorem QX(s:Zi)(wd:Int):0<=MC s wd:=(Lh _).1
theorem UM{s:Zi}{wd:Int}(h:(BV s wd).2.2=false):0<=wd:=by have b:=Fu h;have h2:=Fu b;have h1:=Fu h2;unfold FB at h1;have a:=Fu (Bool.or_eq_false_iff.1 h1).1;unfold Gv at a;simp at a;omega
theorem Wx{s:Zi}{wd:Int}(h:s.size<=1048576):(BV s wd).1.size<=1048576/\(Bl s wd).2.1.size<=1048576/\(Bi s wd).1.size<=1048576/\(CW s wd).1.size<=1048576:=by
 have h1:=ET s (Gv wd) (1:Nat);have h2:=ET (En s wd).2.1 (FB s wd) (4:Nat);have f:=ET (Eb s wd).2.1 (Eb s wd).2.2 (1:Nat);have b:=ET (Fm s wd).2.1 (Fm s wd).2.2 (MC s wd);have g:=ET (BV s wd).2.1 (BV s wd).2.2 wd;have i:=Zm h1.2 h;have j:=Zm h2.2 i;have c:=Zm f.2 j;have d:=Zm b.2 c;have e:=Zm b.1 c;have a:(Bl s wd).2.1.size<=1048576:=by
  unfold Bl;split
  ·exact Zm g.2 d
  ·exact d
 refine⟨e,a,?_,?_⟩
 ·unfold Bi;split
  ·exact Zm (Qd _ _) (Qc a)
  ·exact Nat.zero_le _
 ·unfold CW;split
  ·exact Zm (ET _ _ _).2 a
  ·exact a
theorem UN(s:Zi)(wd:Int):(Bi s wd).2.length<=255:=by
 unfold Bi;split
 ·exact VH _ _
 ·exact Nat.zero_le _
theorem EW.lt{w W:Zh}{b:Nat}{rest:Zi}{kind:Int}{bad:Bool}(h:EW w W b rest kind bad):w.heap.size<W.heap.size:=h.fo.lt
theorem Th(b:Nat)(s:Zi)(wd:Int)(w:Zh)(h:DQ w b s 0 false)(he:Env w)(ha:NB b)(hs:s.size<=1048576):
 Calls prog 158 #[Yz b,Zg wd] w fun e w'=>∃v,e=.returned (.agg #[Zg (AT s wd),.string (Bl s wd).1,.string (BV s wd).1,Zg (Ff s wd),.string (Bi s wd).1,v])/\
  w'.ownsRow w.heap.size 9 1 v (Bi s wd).2.length ((Bi s wd).2.map Value.string)/\DQ w' b (CW s wd).1 (AT s wd) (CM s wd)/\w.grownBy w' (some b):=by
 have c:=h.lt;have i:=Yx ha;obtain⟨W,hW⟩:∃W,W=w.alloc (.cells Yp 67):=⟨_,rfl⟩;have zI:=(AJ hW).1;have E0:Hid (EW w W b s 0 false):=⟨h.below zI,he.below zI,AA _ zI,by rw[hW];exact Aa.new w _ _⟩;have HW:=Yx hW;clear hW h he ha zI;obtain⟨l,m,f⟩:=E0.o.env.er 1 (by simp);go_enter func158,ntmps158;go_upto_region 1 with fail;rw[←HW.o];clear HW;have xH:decide (1<=wd/\wd<=8)= !Gv wd:=by unfold Gv;simp
 go_upto_if 10 with(go_at_call 94;refine(UL wd _).mono ?_;rintro e w' ⟨rfl,yS⟩;rw[yS];clear yS w')
 go_cut [] (fun g=>Hid (EW w g b s 0 (Gv wd)))
 case first=>
  cases hb0:Gv wd with
  |true=>go_wp2_with fail;refine(FU b _ _ _ l m W E0.o.rs).mono ?_;rintro e w1 ⟨rfl,h1,g1⟩;go_wp2_with fail;go_meet;rw[hb0];exact E0.o.step i.o c h1 g1
  |false=>go_wp2_with fail;go_meet;rw[hb0];exact E0.o
 case rest=>
 revert wc;intro w1 E1;clear E0 f xH;obtain⟨st,sv,f⟩:=E1.o.env.er 6 (by simp);go_wp2_with fail;refine(GJ b s 0 (Gv wd) 1 st sv w1 E1.o.rs (by omega) f).mono ?_;rintro e w2 ⟨rfl,h2,g2⟩;have E2:Hid (EW w w2 b (En s wd).2.1 0 (En s wd).2.2):=E1.o.step i.o c h2 g2;rw[show CL (Bn s (Gv wd) (1:Nat)).1.data.toList=AT s wd from rfl];obtain⟨W3,zY⟩:∃W3,W3=w2.setCell (Ze b 1) (Zg (AT s wd)):=⟨_,rfl⟩
 have E3:Hid (EW w W3 b (En s wd).2.1 (AT s wd) (En s wd).2.2):=by rw[zY];exact E2.o.step i.o c (E2.o.rs.setKind _) (Az _ _ _ _)
 obtain⟨xP,_,J,A,K,G,H,I⟩:=E2.o.rs;have yG:=Yx zY;clear zY h2 g2 f E1;go_upto_region 4 with fail;rw[←yG.o];clear yG J A K G H I E2;obtain⟨xQ,_,J,A,K,G,H,I⟩:=E3.o.rs;go_wp2_with fail;refine(Px (AT s wd) W3 E3.o.env.gp).mono ?_;rintro e w4 ⟨rfl,yP⟩;have E4:Hid (EW w w4 b (En s wd).2.1 (AT s wd) (En s wd).2.2):=E3.o.below yP
 obtain⟨W5,zH⟩:∃W5,W5=w4.alloc (.cells #[.bool (EQ (AT s wd)),.bool (DK (AT s wd)),.bool (CI (AT s wd)),Zg (ES (AT s wd))] 195):=⟨_,rfl⟩;have yN:=(AJ zH).1;have E5:Hid (EW w W5 b (En s wd).2.1 (AT s wd) (En s wd).2.2):=E4.o.below yN;obtain⟨U,hU⟩:∃U,U=w4.heap.size:=⟨_,rfl⟩
 have U5:Hid (Aa W5 U [.bool (EQ (AT s wd)),.bool (DK (AT s wd)),.bool (CI (AT s wd)),Zg (ES (AT s wd))]):=by rw[zH,hU];exact Aa.new w4 _ _
 have xT:w.heap.size<U:=by rw[hU];exact E4.o.lt
 have yH:=Yx zH;have HU:=Yx hU;clear zH hU yN yP E3 E4 J A K G H I;obtain⟨l,m,f⟩:=E5.o.env.er 2 (by simp);go_upto_region 5 with fail;rw[←yH.o,←HU.o];clear yH HU
 go_upto_if 28 with fail
 go_cut [6] (fun _ g=>Hid (EW w g b (En s wd).2.1 (AT s wd) (FB s wd))/\Hid (Aa g U [.bool (EQ (AT s wd)),.bool (DK (AT s wd)),.bool (CI (AT s wd)),Zg (ES (AT s wd))]))
 case first=>
  cases hi:EF (AT s wd)with
  |true=>go_wp2_with fail;go_meet;refine⟨?_,U5.o⟩;rw[show FB s wd=(En s wd).2.2 by unfold FB;rw[hi];simp];exact E5.o
  |false=>go_wp2_with fail;refine(FU b _ _ _ l m W5 E5.o.rs).mono ?_;rintro e a ⟨rfl,h6,g6⟩;go_wp2_with fail;go_meet;refine⟨?_,U5.o.db g6 (by omega)⟩;rw[show FB s wd=true by unfold FB;rw[hi];simp];exact E5.o.step i.o c h6 g6
 case rest=>
 revert wc;intro a hcut;obtain⟨P,U6⟩:=hcut;clear E5 U5 f;obtain⟨d,zX⟩:∃d:Nat,d=0:=⟨_,rfl⟩;clear zX d;have D6:=Yx (P.o.below ((Below.refl a.heap.size a).drew));have zZ:Below a.heap.size a (a.alloc (.cells Yp 67)):=Zy;have X:=Yx (P.o.below zZ.drew);have yJ:Hid (Aa (a.alloc (.cells Yp 67)).drew a.heap.size Yo):=Aa.new a _ _;obtain⟨xR,_,J,A,K,G,H,I⟩:=P.o.rs
 have xK:(a.alloc (.cells Yp 67)).cell? (Ze b 1)=some (Zg (AT s wd)):=(zZ.cell (p:=⟨b,1,none⟩) P.o.rs.lt).trans A;obtain⟨l,m,f⟩:=D6.o.env.er 6 (by simp);obtain⟨xD,xE,yQ⟩:=X.o.env.er 6 (by simp);have yC:=P.o.rs.lt;have xG:=P.o.lt;clear zZ;go_upto_region 7 with fail
 go_cut [7] (fun v g=>∃d:Nat,v=Yz d/\a.heap.size<=d/\Hid (EW w g b (Eb s wd).2.1 (AT s wd) (Eb s wd).2.2)/\Hid (a.grownBy g (some b))/\Hid (Aa g d [Zg (AT s wd),Zd,Zd,Zg (Ff s wd),Zd,Zc]))
 case first=>
  go_region_with (first
   |(go_at_call 186;refine(GJ b _ _ _ 4 l m a.drew D6.o.rs (by omega) f).mono ?_;rintro e z ⟨rfl,h7,g7⟩;have E7:Hid (EW w z b (Eb s wd).2.1 (AT s wd) (Eb s wd).2.2):=D6.o.step i.o c h7 g7;obtain⟨er7,_,y0,y1,y2,_,_,_⟩:=h7;have V:=g7;have xF:=E7.o.rs.lt)
   |(go_at_call 186;refine(GJ b _ _ _ 4 xD xE _ X.o.rs (by omega) yQ).mono ?_;rintro e z ⟨rfl,h7,g7⟩;have E7:Hid (EW w z b (Eb s wd).2.1 (AT s wd) (Eb s wd).2.2):=X.o.step i.o c h7 g7;obtain⟨er7,_,y0,y1,y2,_,_,_⟩:=h7;have Q:=Aa.db yJ.o g7 yC;have z0:=(Q 0 _ rfl);have z1:=(Q 1 _ rfl);have R:=(Q 2 _ rfl);have z3:=(Q 3 _ rfl);have z4:=(Q 4 _ rfl);have z5:=(Q 5 _ rfl);obtain⟨z0,y0f⟩:=z0;obtain⟨z1,y1f⟩:=z1;obtain⟨R,y2f⟩:=R;obtain⟨z3,y3f⟩:=z3;obtain⟨z4,y4f⟩:=z4;obtain⟨z5,y5f⟩:=z5;have yD:=g7;have xF:=E7.o.rs.lt))
  all_goals go_wp2_with fail
  all_goals go_meet
  all_goals first
   |(have hA:Below z.heap.size z (z.alloc (.cells #[Zg (AT s wd),Zd,Zd,Zg (Ff s wd),Zd,Zc] 67)):=Zy
     exact⟨z.heap.size,rfl,V.size,E7.o.below hA,((AA (some b) (Below.refl a.heap.size a).drew).trans V).trans (AA _ hA),Aa.new z _ _⟩)
   |(have F:w.heap.size<a.heap.size:=xG
     refine⟨a.heap.size,rfl,Zx,?_,?_,?_⟩
     ·exact(((((E7.o.set i.o c a.heap.size 0 _ F).set i.o c a.heap.size 1 _ F).set i.o c a.heap.size 2 _ F).set i.o c a.heap.size 3 _ F).set i.o c a.heap.size 4 _ F).set i.o c a.heap.size 5 _ F
     ·have g0:a.grownBy z (some b):=(AA (some b) ((Below.refl a.heap.size a).alloc (Zx) _).drew).trans yD
      exact(((((g0.andThen (Az _ a.heap.size 0 _) (fun j e=>by cases e;exact .inl (Zx))).andThen (Az _ a.heap.size 1 _) (fun j e=>by cases e;exact .inl (Zx))).andThen (Az _ a.heap.size 2 _) (fun j e=>by cases e;exact .inl (Zx))).andThen (Az _ a.heap.size 3 _) (fun j e=>by cases e;exact .inl (Zx))).andThen (Az _ a.heap.size 4 _) (fun j e=>by cases e;exact .inl (Zx))).andThen (Az _ a.heap.size 5 _) (fun j e=>by cases e;exact .inl (Zx))
     ·exact(((((Q.set 0 _).set 1 _).set 2 _).set 3 _).set 4 _).set 5 _)
 case rest=>
 revert wc;intro w8 hcut;obtain⟨d,rfl,zX,E8,G8,Z8⟩:=hcut;have xS:U<d:=Zr U6.o.lt zX;have U8:Hid (Aa w8 U [.bool (EQ (AT s wd)),.bool (DK (AT s wd)),.bool (CI (AT s wd)),Zg (ES (AT s wd))]):=U6.o.db G8.o (by omega);clear P U6 D6 X yJ J A K G H I xK f yQ G8;have x:w.heap.size<d:=by omega
 obtain⟨l,m,f⟩:=E8.o.env.er 6 (by simp);go_wp2_with fail;refine(GJ b _ _ _ 1 l m w8 E8.o.rs (by omega) f).mono ?_;rintro e w9 ⟨rfl,h9,g9⟩;have E9:Hid (EW w w9 b (Fm s wd).2.1 (AT s wd) (Fm s wd).2.2):=E8.o.step i.o c h9 g9;have Z9:Hid (Aa w9 d [Zg (AT s wd),Zd,Zd,Zg (Ff s wd),Zd,Zc]):=Z8.o.db g9 (by omega)
 have U9:Hid (Aa w9 U [.bool (EQ (AT s wd)),.bool (DK (AT s wd)),.bool (CI (AT s wd)),Zg (ES (AT s wd))]):=U8.o.db g9 (by omega);rw[show CL (Bn (Eb s wd).2.1 (Eb s wd).2.2 (1:Nat)).1.data.toList=MC s wd from rfl];clear E8 Z8 U8 h9 g9 f;obtain⟨l,m,f⟩:=E9.o.env.er 6 (by simp);go_wp2_with fail;refine(IH b _ _ _ (MC s wd) l m w9 E9.o.rs (fun _=>QX s wd) f).mono ?_;rintro e zJ ⟨rfl,yK,zB⟩
 have yE:Hid (EW w zJ b (BV s wd).2.1 (AT s wd) (BV s wd).2.2):=E9.o.step i.o c yK zB;have zR:Hid (Aa zJ d [Zg (AT s wd),Zd,Zd,Zg (Ff s wd),Zd,Zc]):=Z9.o.db zB (by omega);have yI:Hid (Aa zJ U [.bool (EQ (AT s wd)),.bool (DK (AT s wd)),.bool (CI (AT s wd)),Zg (ES (AT s wd))]):=U9.o.db zB (by omega);rw[show(Bn (Fm s wd).2.1 (Fm s wd).2.2 (MC s wd)).1=(BV s wd).1 from rfl];clear E9 Z9 U9 yK zB f
 obtain⟨R,xL⟩:=zR.o 2 _ rfl;obtain⟨D,q⟩:∃D,D=zJ.setCell (Ze d 2) (.string (BV s wd).1):=⟨_,rfl⟩;have B:Hid (EW w D b (BV s wd).2.1 (AT s wd) (BV s wd).2.2):=by rw[q];exact yE.o.set i.o c d 2 _ x
 have Z:Hid (Aa D d [Zg (AT s wd),Zd,.string (BV s wd).1,Zg (Ff s wd),Zd,Zc]):=by rw[q];exact zR.o.set 2 _
 have M:Hid (Aa D U [.bool (EQ (AT s wd)),.bool (DK (AT s wd)),.bool (CI (AT s wd)),Zg (ES (AT s wd))]):=by rw[q];exact yI.o.co (Az _ _ _ _) (by omega)
 have S:=Yx q;clear q yE zR yI;go_upto_region 9 with fail;rw[←S.o];clear S R xL;obtain⟨u1,_⟩:=M.o 1 _ rfl
 go_upto_if 45 with fail
 go_cut [] (fun g=>Hid (EW w g b (Bl s wd).2.1 (AT s wd) (Bl s wd).2.2)/\Hid (Aa g U [.bool (EQ (AT s wd)),.bool (DK (AT s wd)),.bool (CI (AT s wd)),Zg (ES (AT s wd))])/\Hid (Aa g d [Zg (AT s wd),.string (Bl s wd).1,.string (BV s wd).1,Zg (Ff s wd),Zd,Zc]))
 case first=>
  cases hu:DK (AT s wd)with
  |true=>
   have e5:Hid (Bl s wd=Bn (BV s wd).2.1 (BV s wd).2.2 wd):=by show _=_;unfold Bl;rw[if_pos hu]
   obtain⟨l,m,f⟩:=B.o.env.er 6 (by simp);go_wp2_with fail;refine(IH b _ _ _ wd l m D B.o.rs (fun h=>UM h) f).mono ?_;rintro e yA ⟨rfl,zW,zC⟩;rw[←e5.o]at zW ⊢;have r:=B.o.step i.o c zW zC;have u:=Z.o.db zC (by omega);have N:=M.o.db zC (by omega);obtain⟨z1,xX⟩:=u 1 _ rfl;clear zW zC f u1 B Z M;go_wp2_with fail;go_meet;refine⟨r.set i.o c d 1 _ x,?_,u.set 1 _⟩;exact N.co (Az _ _ _ _) (by omega)
  |false=>
   have e5:Hid (Bl s wd=(⟨#[]⟩,(BV s wd).2)):=by show _=_;unfold Bl;rw[if_neg (by rw[hu];decide)]
   go_wp2_with fail;go_meet;rw[e5.o];exact⟨B.o,M.o,Z.o⟩
 case rest=>
 revert wc;intro yA hcut;obtain⟨r,N,u⟩:=hcut;clear B Z M u1;have zN:=Yx (Wx (wd:=wd) hs);obtain⟨u2,_⟩:=N.o 2 _ rfl
 go_upto_if 51 with fail
 go_cut [] (fun g=>∃(n:Zk) (o:Nat),Hid (EW w g b (CW s wd).1 (AT s wd) (CW s wd).2)/\Hid (Aa g d (Yn (AT s wd) ((Bl s wd).1) ((BV s wd).1) (Ff s wd) ((Bi s wd).1) n ((Bi s wd).2.length) o))/\Hid (g.ownsRow (w.heap.size+1) 9 1 (.slice n (Bi s wd).2.length o) (Bi s wd).2.length ((Bi s wd).2.map Value.string)))
 case first=>
  cases hu:CI (AT s wd)with
  |true=>
   have e6:Hid (CW s wd=(Jt (Bl s wd).2.1 (Bl s wd).2.2,Gf (Bl s wd).2.1 (Bl s wd).2.2 wd)):=by show _=_;unfold CW;rw[if_pos hu]
   have et:Hid (Bi s wd=((rd (EZ (Bl s wd).2.1 (Bl s wd).2.2) wd).1,(rd (EZ (Bl s wd).2.1 (Bl s wd).2.2) wd).2.1)):=by show _=_;unfold Bi;rw[if_pos hu]
   go_wp2_with fail;refine(Tf b _ _ _ wd yA r.o.rs r.o.env i.o zN.o.2.1).mono ?_;rintro e xI ⟨v,rfl,ho,zG,zV⟩;have t1:(rd (EZ (Bl s wd).2.1 (Bl s wd).2.2) wd).1=(Bi s wd).1:=by rw[et.o]
   have t2:(rd (EZ (Bl s wd).2.1 (Bl s wd).2.2) wd).2.1=(Bi s wd).2:=by rw[et.o]
   rw[t2]at ho;rw[t1];clear t1 t2;have zG:DQ xI b (CW s wd).1 (AT s wd) (CW s wd).2:=by rw[e6.o];exact zG
   obtain⟨n,o,hv,_⟩:=DP ho;subst hv;have yT:=r.o.step i.o c zG zV;have xO:=r.o.lt;have zA:=u.o.db zV (by omega);have xN:=zA.lt;obtain⟨z4,xY⟩:=zA 4 _ rfl;obtain⟨z5,xZ⟩:=zA 5 _ rfl;have T:d<yA.heap.size:=u.o.lt;clear zG zV u2 r N u e6 et;go_wp2_with fail;go_meet
   exact⟨n,o,(yT.set i.o c d 4 _ x).set i.o c d 5 _ x,(zA.set 4 _).set 5 _,(ownsRow_setCell_below (ownsRow_setCell_below ho T _) T _).mono (by omega)⟩
  |false=>
   have e6:Hid (CW s wd=(Bl s wd).2):=by show _=_;unfold CW;rw[if_neg (by rw[hu];decide)]
   have et:Hid (Bi s wd=(⟨#[]⟩,[])):=by show _=_;unfold Bi;rw[if_neg (by rw[hu];decide)]
   go_wp2_with fail;go_meet;rw[e6.o,et.o];exact⟨none,0,r.o,u.o,World.ownsRow_nil _ _ _ _⟩
 case rest=>
 revert wc;intro xJ hcut;obtain⟨n,o,C,zS,Y⟩:=hcut;clear r N u u2;obtain⟨xM,_,J,A,K,G,H,I⟩:=C.o.rs;obtain⟨l,m,f⟩:=C.o.env.er 3 (by simp);have yO:∀k,(Value.slice n (Bi s wd).2.length o).ownBlock=some k->b<k:=fun k hk=>by have:=(Y.o.lt k hk).1;omega
 have yF:=Yx yO;clear yO
 go_upto_if 60 with fail
 go_cut [] (fun g=>Hid (EW w g b (CW s wd).1 (AT s wd) (FC s wd))/\Hid (Aa g d (Yn (AT s wd) ((Bl s wd).1) ((BV s wd).1) (Ff s wd) ((Bi s wd).1) n ((Bi s wd).2.length) o))/\Hid (g.ownsRow (w.heap.size+1) 9 1 (.slice n (Bi s wd).2.length o) (Bi s wd).2.length ((Bi s wd).2.map Value.string)))
 case first=>
  have yR:=Yx (Fz (s:=(CW s wd).1));cases hq:(CW s wd).1.toList.isEmpty with
  |true=>
   have O:(CW s wd).1.size=0:=by have:=yR.o;rw[hq]at this;simpa using this.symm
   have h0:=Yx O;clear O;clear hq;go_wp2_with fail;go_meet;rw[show FC s wd=(CW s wd).2 by unfold FC;rw[decide_eq_true h0.o];simp];exact⟨C.o,zS.o,Y.o⟩
  |false=>
   have O:¬(CW s wd).1.size=0:=by have:=yR.o;rw[hq]at this;simpa using this.symm
   have h0:=Yx O;clear O;clear hq;go_wp2_with fail;refine(FU b _ _ _ l m xJ C.o.rs).mono ?_;rintro e xU ⟨rfl,yL,zE⟩;have yU:=C.o.step i.o c yL zE;have xA:=zS.o.db zE (by omega);have yX:=Y.o.kept zE (.inr (fun e=>by have:=yF.o b e;omega));clear yL zE J A K G H I f;go_wp2_with fail;go_meet;rw[show FC s wd=true by unfold FC;rw[decide_eq_false h0.o];simp];exact⟨yU,xA,yX⟩
 case rest=>
 revert wc;intro yB hcut;obtain⟨zM,zT,zO⟩:=hcut;clear C zS Y J A K G H I f;obtain⟨z0,z1,R,z3,z4,z5⟩:=Aa.c6 zT.o 0 1 2 3 4 5;have hlen:=UN s wd;have yW:Hid (Ad yB yB.heap.size n (Bi s wd).2):=by obtain⟨a',c',hv,hr⟩:=DP zO.o;cases hv;exact hr
 go_wp2_with fail;refine(Um (AT s wd) (Bl s wd).1 (BV s wd).1 (Ff s wd) (Bi s wd).1 n o (Bi s wd).2 wd yB zM.o.env.gp yW.o (by omega) (by have:=zN.o.2.2.1;unfold maxLen;omega) (by have:=zN.o.1;unfold maxLen;omega)).mono ?_;rintro e zK ⟨rfl,y⟩;rw[show Cs (AT s wd) (Bl s wd).1 (BV s wd).1 (Ff s wd) (Bi s wd).1 (Bi s wd).2 wd=Ju s wd from rfl]
 have L:Hid (EW w zK b (CW s wd).1 (AT s wd) (FC s wd)):=zM.o.below y;have zU:Hid (Aa zK d (Yn (AT s wd) ((Bl s wd).1) ((BV s wd).1) (Ff s wd) ((Bi s wd).1) n ((Bi s wd).2.length) o)):=zT.o.below y;have zP:Hid (zK.ownsRow (w.heap.size+1) 9 1 (.slice n (Bi s wd).2.length o) (Bi s wd).2.length ((Bi s wd).2.map Value.string)):=zO.o.kept (AA none y) (Classical.em _);clear zM zT zO z0 z1 R z3 z4 z5 y
 obtain⟨l,m,f⟩:=L.o.env.er 4 (by simp)
 go_upto_if 67 with fail
 go_cut [] (fun g=>Hid (EW w g b (CW s wd).1 (AT s wd) (CM s wd))/\Hid (Aa g d (Yn (AT s wd) ((Bl s wd).1) ((BV s wd).1) (Ff s wd) ((Bi s wd).1) n ((Bi s wd).2.length) o))/\Hid (g.ownsRow (w.heap.size+1) 9 1 (.slice n (Bi s wd).2.length o) (Bi s wd).2.length ((Bi s wd).2.map Value.string)))
 case first=>
  cases hok:Ju s wd with
  |true=>go_wp2_with fail;go_meet;rw[show CM s wd=FC s wd by unfold CM;rw[hok];simp];exact⟨L.o,zU.o,zP.o⟩
  |false=>go_wp2_with fail;refine(FU b _ _ _ l m zK L.o.rs).mono ?_;rintro e xV ⟨rfl,yM,zF⟩;have yV:=L.o.step i.o c yM zF;have xB:=zU.o.db zF (by omega);have yY:=zP.o.kept zF (.inr (fun e=>by have:=yF.o b e;omega));clear yM zF f;go_wp2_with fail;go_meet;rw[show CM s wd=true by unfold CM;rw[hok];simp];exact⟨yV,xB,yY⟩
 case rest=>
 revert wc;intro xW hcut;obtain⟨t,xC,yZ⟩:=hcut;clear L zU zP f;obtain⟨z0,z1,R,z3,z4,z5⟩:=Aa.c6 xC.o 0 1 2 3 4 5;obtain⟨r0,q0⟩:=t.o.fo 0 _ rfl;obtain⟨r1,q1⟩:=t.o.fo 1 _ rfl;obtain⟨r2,q2⟩:=t.o.fo 2 _ rfl;obtain⟨r3,q3⟩:=t.o.fo 3 _ rfl;obtain⟨r4,q4⟩:=t.o.fo 4 _ rfl;obtain⟨r5,q5⟩:=t.o.fo 5 _ rfl;have E:b≠w.heap.size:=by omega
 go_wp2;refine bodyPost_ret (v:=.agg (Ym (AT s wd) ((Bl s wd).1) ((BV s wd).1) (Ff s wd) ((Bi s wd).1) n ((Bi s wd).2.length) o)) (by simp[results,results158,go_sem, *]) rfl ?_;have hz:w.heap.size<w.heap.size+1:=by omega
 refine⟨_,rfl,?_,?_,?_⟩
 ·refine World.ownsRow.mono ?_ (Nat.le_succ w.heap.size)
  iterate 6 (refine ownsRow_setCell_below ?_ hz _)
  exact yZ.o
 ·exact(((((t.o.rs.db (Az _ w.heap.size 0 _) E).db (Az _ w.heap.size 1 _) E).db (Az _ w.heap.size 2 _) E).db (Az _ w.heap.size 3 _) E).db (Az _ w.heap.size 4 _) E).db (Az _ w.heap.size 5 _) E
 ·exact(((((t.o.gr.andThen (Az _ w.heap.size 0 _) (fun j e=>by cases e;exact .inl (Zx))).andThen (Az _ w.heap.size 1 _) (fun j e=>by cases e;exact .inl (Zx))).andThen (Az _ w.heap.size 2 _) (fun j e=>by cases e;exact .inl (Zx))).andThen (Az _ w.heap.size 3 _) (fun j e=>by cases e;exact .inl (Zx))).andThen (Az _ w.heap.size 4 _) (fun j e=>by cases e;exact .inl (Zx))).andThen (Az _ w.heap.size 5 _) (fun j e=>by cases e;exact .inl (Zx))
section
structure ER where
 k:Int
 sum:Zi
 name:Zi
 n:Int
 t:Zi
 ss:Zl
 ok:Bool
def He:ER:=⟨0,⟨#[]⟩,⟨#[]⟩,0,⟨#[]⟩,[],false⟩
def AF(s:Zi)(wd:Int):ER:=
 if CM s wd=true then He else ⟨AT s wd,(Bl s wd).1,(BV s wd).1,Ff s wd,(Bi s wd).1,(Bi s wd).2,true⟩
def Ti(k:Int)(rest:List UInt8):Zi:=if k=1 then ⟨#[]⟩else AE rest
def Tj(k:Int)(rest:List UInt8)(wd:Int):Zi:=if k=1 then (rd (AE rest) wd).1 else ⟨#[]⟩
def Tk(k:Int)(rest:List UInt8)(wd:Int):Zl:=if k=1 then (rd (AE rest) wd).2.1 else []
def Oz(k n:Int)(name rest l:List UInt8)(wd:Int):Bool:=
 Cs k (Ti k rest) (AE name) n (Tj k rest wd) (Tk k rest wd) wd&&decide (CF k (Ti k rest) (AE name) n (Tj k rest wd) (Tk k rest wd) wd=AE l)
theorem Ec(l:List UInt8)(n:Nat)(h:n<=l.length):Bn (AE l) false n=(AE (l.take n),AE (l.drop n),false):=by unfold Bn;rw[if_neg (by decide),if_neg (by rw[BR];omega),GX,GX,BR];simp;exact Zt (by simp)
theorem Fg(l:List UInt8)(n:Int)(h:(l.length:Int)<n):Bn (AE l) false n=(⟨#[]⟩,AE l,true):=by unfold Bn;rw[if_neg (by decide),if_pos (by rw[BR];exact h)]
theorem GK(r:Zi)(n:Int):Bn r true n=(⟨#[]⟩,r,true):=by simp[Bn]
theorem II{s:Zi}{wd:Int}(h:(BV s wd).2.2=true):CM s wd=true:=by
 cases hb:CM s wd with
 |true=>rfl
 |false=>
  unfold CM at hb;have c:=(Bool.or_eq_false_iff.1 hb).1;unfold FC at c;have a:=(Bool.or_eq_false_iff.1 c).1;have b:(Bl s wd).2.2=false:=by
   unfold CW at a;split at a
   ·simp only[Gf]at a;exact Fu (Bool.or_eq_false_iff.1 a).1
   ·exact a
  have d:(BV s wd).2.2=false:=by
   unfold Bl at b;split at b
   ·exact Fu b
   ·exact b
  rw[d]at h;cases h
theorem Ks{s:Zi}{wd:Int}(h:(Fm s wd).2.2=true):(BV s wd).2.2=true:=by unfold BV;rw[h,GK]
theorem OB{s:Zi}{wd:Int}(h:(Eb s wd).2.2=true):(Fm s wd).2.2=true:=by unfold Fm;rw[h,GK]
theorem UO{s:Zi}{wd:Int}(h:FB s wd=true):(Eb s wd).2.2=true:=by unfold Eb;rw[h,GK]
theorem FV{s:Zi}{wd:Int}(h:FB s wd=true):CM s wd=true:=II (Ks (OB (UO h)))
theorem UP{s:Zi}{wd:Int}(h:¬(1<=wd/\wd<=8)):CM s wd=true:=by refine FV ?_;unfold FB En;rw[show Gv wd=true by unfold Gv;simp;omega,GK];rfl
theorem VM{wd:Int}(h1:1<=wd)(h2:wd<=8):Gv wd=false:=by unfold Gv;simp[h1,h2]
theorem VN(a:UInt8):CL [a]=(a.toNat:Int):=by simp[CL]
theorem VO(a b c d:UInt8):CL [a,b,c,d]=(a.toNat:Int) *16777216+(b.toNat:Int) *65536+(c.toNat:Int) *256+(d.toNat:Int):=by simp only[CL,List.foldl_cons,List.foldl_nil];omega
section
variable {wd:Int} (h1:1<=wd) (h2:wd<=8)
theorem YC(h1:1<=wd)(h2:wd<=8):CM (AE []) wd=true:=by refine FV ?_;unfold FB En;rw[VM h1 h2,Fg [] _ (by simp)];rfl
theorem JH(a:UInt8)(l:List UInt8)(h1:1<=wd)(h2:wd<=8):En (AE (a::l)) wd=(AE [a],AE l,false):=by unfold En;rw[VM h1 h2,Ec _ _ (by simp)];rfl
theorem Tl(a:UInt8)(l:List UInt8)(h1:1<=wd)(h2:wd<=8):AT (AE (a::l)) wd=(a.toNat:Int):=by unfold AT;rw[JH a l h1 h2];exact VN a
theorem GN(a:UInt8)(l:List UInt8)(h1:1<=wd)(h2:wd<=8):FB (AE (a::l)) wd= !EF (a.toNat:Int):=by unfold FB;rw[JH a l h1 h2,Tl a l h1 h2];rfl
theorem UQ(a:UInt8)(l:List UInt8)(h1:1<=wd)(h2:wd<=8)(b:l.length<4):CM (AE (a::l)) wd=true:=by
 cases hk:EF (a.toNat:Int)with
 |false=>exact FV (by rw[GN a l h1 h2,hk];rfl)
 |true=>refine II (Ks (OB ?_));unfold Eb;rw[GN a l h1 h2,hk,JH a l h1 h2];rw[show(!true)=false from rfl,Fg l _ (by omega)]
theorem QY(a b c d e:UInt8)(l:List UInt8)(h1:1<=wd)(h2:wd<=8)(f:EF (a.toNat:Int)=true):Eb (AE (a::b::c::d::e::l)) wd=(AE [b,c,d,e],AE l,false):=by unfold Eb;rw[GN _ _ h1 h2,f,JH _ _ h1 h2];rw[show(!true)=false from rfl,Ec _ _ (by simp)];rfl
theorem UR(a b c d e:UInt8)(h1:1<=wd)(h2:wd<=8)(f:EF (a.toNat:Int)=true):CM (AE [a,b,c,d,e]) wd=true:=by refine II (Ks ?_);unfold Fm;rw[QY a b c d e [] h1 h2 f,Fg [] _ (by simp)]
theorem QZ(a c d e f b:UInt8)(T:List UInt8)(h1:1<=wd)(h2:wd<=8)(g:EF (a.toNat:Int)=true):Fm (AE (a::c::d::e::f::b::T)) wd=(AE [b],AE T,false):=by unfold Fm;rw[QY a c d e f (b::T) h1 h2 g,Ec _ _ (by simp)];rfl
theorem YD(b c d e f a:UInt8)(T:List UInt8)(h1:1<=wd)(h2:wd<=8)(g:EF (b.toNat:Int)=true):MC (AE (b::c::d::e::f::a::T)) wd=(a.toNat:Int):=by unfold MC;rw[QZ b c d e f a T h1 h2 g];exact VN a
theorem US(a c d e f b:UInt8)(T:List UInt8)(h1:1<=wd)(h2:wd<=8)(g:EF (a.toNat:Int)=true)(h:T.length<b.toNat):CM (AE (a::c::d::e::f::b::T)) wd=true:=by refine II ?_;unfold BV;rw[YD a c d e f b T h1 h2 g,QZ a c d e f b T h1 h2 g,Fg T _ (by omega)]
theorem ZD(b c d e f a:UInt8)(T:List UInt8)(h1:1<=wd)(h2:wd<=8)(g:EF (b.toNat:Int)=true)(h:a.toNat<=T.length):BV (AE (b::c::d::e::f::a::T)) wd=(AE (T.take a.toNat),AE (T.drop a.toNat),false):=by unfold BV;rw[YD b c d e f a T h1 h2 g,QZ b c d e f a T h1 h2 g,Ec T _ h]
theorem Aae(a b c d e:UInt8)(l:List UInt8)(h1:1<=wd)(h2:wd<=8)(f:EF (a.toNat:Int)=true):Ff (AE (a::b::c::d::e::l)) wd=CL [b,c,d,e]:=by unfold Ff;rw[QY a b c d e l h1 h2 f]
theorem GO(a:UInt8)(x:Int)(h:x=(a.toNat:Int)):u8 x=a:=by subst h;simp[u8]
theorem UT(e a b c d f:UInt8):Cj (e.toNat:Int) (CL [a,b,c,d]) (f.toNat:Int)=[e,a,b,c,d,f]:=by have g:=a.toNat_lt;have h:=b.toNat_lt;have i:=c.toNat_lt;have j:=d.toNat_lt;unfold Cj;rw[VO];rw[GO e _ rfl,GO f _ rfl,GO a _ (by omega),GO b _ (by omega),GO c _ (by omega),GO d _ (by omega)]
end
theorem Wy{k:Nat}(h:EF (k:Int)=true):1<=k/\k<=7:=by unfold EF at h;simp at h;omega
theorem Wz{k:Int}{a name:Zi}{n:Int}{t:Zi}{b:Zl}{wd:Int}(h:EF k=false):Cs k a name n t b wd=false:=by unfold Cs;unfold EF at h;rw[h];rfl
theorem MD{k:Nat}{a name:Zi}{n:Int}{t:Zi}{b:Zl}{wd:Int}(h:Cs (k:Int) a name n t b wd=true):CS k a name n t b wd=true:=by unfold Cs at h;exact(Bool.and_eq_true_iff.1 h).2
theorem Qe{k:Nat}{a name:Zi}{n:Int}{t:Zi}{c:Zl}{wd:Int}(h:Cs (k:Int) a name n t c wd=true):DX (DG k) a wd=true:=by have b:=MD h;unfold CS at b;exact(Bool.and_eq_true_iff.1 (Bool.and_eq_true_iff.1 b).2).1
theorem Ra{l:List UInt8}(h:(AE l).size=0):AE l=⟨#[]⟩:=by rw[BR]at h;rw[List.eq_nil_of_length_eq_zero h]
theorem Li{k:Nat}{a name:Zi}{n:Int}{t:Zi}{b:Zl}{wd:Int}{l:List UInt8}(h:Cs (k:Int) a name n t b wd=true):CF k a name n t b wd=AE l↔De k a name n t b=l:=by
 unfold CF;rw[if_pos h,Int.toNat_natCast];constructor
 ·intro e;have:=congrArg (fun s:Zi=>s.data.toList) e;simpa using this
 ·intro e;rw[e]
theorem ME(a d f g i b:UInt8)(T:List UInt8){wd:Int}(h1:1<=wd)(h2:wd<=8)(O:b.toNat<=T.length):
 AF (AE (a::d::f::g::i::b::T)) wd=
  if Oz (a.toNat:Int) (CL [d,f,g,i]) (T.take b.toNat) (T.drop b.toNat) (a::d::f::g::i::b::T) wd=true then
   ⟨(a.toNat:Int),Ti (a.toNat:Int) (T.drop b.toNat),AE (T.take b.toNat),CL [d,f,g,i],Tj (a.toNat:Int) (T.drop b.toNat) wd,Tk (a.toNat:Int) (T.drop b.toNat) wd,true⟩
  else He:=by
 cases hk:EF (a.toNat:Int)with
 |false=>unfold AF;rw[if_pos (FV (by rw[GN _ _ h1 h2,hk];rfl)),if_neg (by unfold Oz;rw[Wz hk];simp)]
 |true=>
  obtain⟨P,Q⟩:=Wy hk;have j:=ZD a d f g i b T h1 h2 hk O;have m:=Tl a (d::f::g::i::b::T) h1 h2;have v:=Aae a d f g i (b::T) h1 h2 hk;have J:(AE (T.take b.toNat)).size=b.toNat:=by rw[BR];simp;omega
  have C:∀x:List UInt8,Cj (a.toNat:Int) (CL [d,f,g,i]) ((AE (T.take b.toNat)).size:Int)++(AE (T.take b.toNat)).data.toList++x=(a::d::f::g::i::b::T)↔x=T.drop b.toNat:=by
   intro x;rw[J,UT];constructor
   ·intro h;have M:T.take b.toNat++x=T:=by simpa using h
    have N:T.take b.toNat++x=T.take b.toNat++T.drop b.toNat:=by rw[M,List.take_append_drop]
    exact List.append_cancel_left N
   ·intro h;rw[h];simp
  generalize hs:(AE (a::d::f::g::i::b::T))=s at *
  generalize hnm:AE (T.take b.toNat)=name at *
  generalize hrs:T.drop b.toNat=rest at *
  generalize hn:CL [d,f,g,i]=n at *
  by_cases hk1:a.toNat=1
  ·
   have w:DK (AT s wd)=false:=by rw[m,hk1];rfl
   have y:CI (AT s wd)=true:=by rw[m,hk1];rfl
   have c:Bl s wd=(⟨#[]⟩,AE rest,false):=by unfold Bl;rw[if_neg (by rw[w];decide),j]
   have E:EZ (AE rest) false=AE rest:=by unfold EZ;rw[BR,Ec _ _ (Zx)];simp
   have K:Jt (AE rest) false=⟨#[]⟩:=by unfold Jt;rw[BR,Ec _ _ (Zx)];simp
   have G:Gf (AE rest) false wd= !(rd (AE rest) wd).2.2:=by unfold Gf;rw[E,BR,Ec _ _ (Zx)];rfl
   have o:Bi s wd=((rd (AE rest) wd).1,(rd (AE rest) wd).2.1):=by unfold Bi;rw[if_pos y,c];simp only[E]
   have p:CW s wd=(⟨#[]⟩, !(rd (AE rest) wd).2.2):=by unfold CW;rw[if_pos y,c];simp only[K,G]
   have r:Ju s wd=Cs (a.toNat:Int) ⟨#[]⟩ name n (rd (AE rest) wd).1 (rd (AE rest) wd).2.1 wd:=by unfold Ju;rw[m,v,j,c,o]
   have q:CM s wd=(!(rd (AE rest) wd).2.2|| !Cs (a.toNat:Int) ⟨#[]⟩ name n (rd (AE rest) wd).1 (rd (AE rest) wd).2.1 wd):=by unfold CM FC;rw[r,p];simp[ByteArray.size]
   have t:((a.toNat:Int)=1):=by omega
   unfold AF Oz Ti Tj Tk;rw[if_pos t,if_pos t,if_pos t,hnm,q,m,c,j,v,o];simp only;cases k:Cs (a.toNat:Int) ⟨#[]⟩ name n (rd (AE rest) wd).1 (rd (AE rest) wd).2.1 wd with
   |false=>simp
   |true=>
    have A:=Li (l:=a::d::f::g::i::b::T) k;have L:=(Ek (MD k)).df hk1;have H:De a.toNat ⟨#[]⟩ name n (rd (AE rest) wd).1 (rd (AE rest) wd).2.1=(a::d::f::g::i::b::T)↔BD (rd (AE rest) wd).1 (rd (AE rest) wd).2.1=rest:=by rw[←C];unfold De;rw[if_pos hk1];simp
    rw[H]at A;have I:BD (rd (AE rest) wd).1 (rd (AE rest) wd).2.1=rest↔(rd (AE rest) wd).2.2=true:=by
     constructor
     ·intro e;have:=Pe L;rw[e]at this;rw[this]
     ·intro e;exact(Uu e).2
    rw[I]at A;cases hr:(rd (AE rest) wd).2.2 with
    |true=>rw[if_neg (by simp),if_pos (by simp;exact A.2 hr)]
    |false=>rw[if_pos (by simp),if_neg (by simp;intro h;have:=A.1 h;rw[hr]at this;cases this)]
  ·have y:CI (AT s wd)=false:=by rw[m];unfold CI CO;simp[hk1]
   have t:¬((a.toNat:Int)=1):=by omega
   have o:Bi s wd=(⟨#[]⟩,[]):=by unfold Bi;rw[if_neg (by rw[y];decide)]
   have p:CW s wd=(Bl s wd).2:=by unfold CW;rw[if_neg (by rw[y];decide)]
   have u:∀B,Cs (a.toNat:Int) B name n ⟨#[]⟩ [] wd=true->B=AE rest->CF (a.toNat:Int) B name n ⟨#[]⟩ [] wd=s:=by intro B k e;rw[←hs];refine(Li (l:=a::d::f::g::i::b::T) k).2 ?_;unfold De;rw[if_neg hk1,e,List.append_nil];exact(C rest).2 rfl
   unfold AF Oz Ti Tj Tk;rw[if_neg t,if_neg t,if_neg t,hnm,hs];cases hu:DG a.toNat with
   |true=>
    have w:DK (AT s wd)=true:=by rw[m];unfold DK;rw[hk,Int.toNat_natCast,hu];rfl
    have c:Bl s wd=Bn (AE rest) false wd:=by unfold Bl;rw[if_pos w,j]
    obtain⟨W,rfl⟩:∃W:Nat,wd=W:=⟨wd.toNat,by omega⟩;by_cases hsz:rest.length=W
    ·rw[Ec rest W (by omega),Zt (by omega),List.drop_of_length_le (by omega)]at c;have r:Ju s W=Cs (a.toNat:Int) (AE rest) name n ⟨#[]⟩ [] W:=by unfold Ju;rw[m,v,j,c,o]
     have q:CM s W= !Cs (a.toNat:Int) (AE rest) name n ⟨#[]⟩ [] W:=by unfold CM FC;rw[r,p,c];simp[ByteArray.size]
     rw[q,m,c,j,v,o];simp only;cases k:Cs (a.toNat:Int) (AE rest) name n ⟨#[]⟩ [] W with
     |false=>simp
     |true=>rw[if_neg (by simp),if_pos (by simp;exact u _ k rfl)]
    ·have z:Cs (a.toNat:Int) (AE rest) name n ⟨#[]⟩ [] W=false:=by
      cases k:Cs (a.toNat:Int) (AE rest) name n ⟨#[]⟩ [] W with
      |false=>rfl
      |true=>have:=Qe k;rw[hu]at this;unfold DX at this;rw[if_pos rfl,BR]at this;simp at this;omega
     have F:CM s W=true:=by
      unfold CM FC;rw[p,c];by_cases hl:rest.length<W
      ·rw[Fg rest _ (by omega)];simp
      ·rw[Ec rest W (by omega)];have:(AE (rest.drop W)).size≠0:=by rw[BR];simp;omega
       simp[this]
     rw[if_pos F,if_neg (by rw[z];simp)]
   |false=>
    have w:DK (AT s wd)=false:=by rw[m];unfold DK;rw[hk,Int.toNat_natCast,hu];rfl
    have c:Bl s wd=(⟨#[]⟩,AE rest,false):=by unfold Bl;rw[if_neg (by rw[w];decide),j]
    by_cases hsz:rest.length=0
    ·have D:=Ra (by rw[BR];exact hsz);have r:Ju s wd=Cs (a.toNat:Int) (AE rest) name n ⟨#[]⟩ [] wd:=by unfold Ju;rw[m,v,j,c,o,D]
     have q:CM s wd= !Cs (a.toNat:Int) (AE rest) name n ⟨#[]⟩ [] wd:=by unfold CM FC;rw[r,p,c];simp[BR,hsz]
     rw[q,m,c,j,v,o];simp only;cases k:Cs (a.toNat:Int) (AE rest) name n ⟨#[]⟩ [] wd with
     |false=>simp
     |true=>rw[if_neg (by simp),if_pos (by simp;exact u _ k rfl),D]
    ·have z:Cs (a.toNat:Int) (AE rest) name n ⟨#[]⟩ [] wd=false:=by
      cases k:Cs (a.toNat:Int) (AE rest) name n ⟨#[]⟩ [] wd with
      |false=>rfl
      |true=>have:=Qe k;rw[hu]at this;unfold DX at this;rw[if_neg (by decide),BR]at this;simp at this;simp[this]at hsz
     have F:CM s wd=true:=by
      unfold CM FC;rw[p,c];have:(AE rest).size≠0:=by rw[BR];exact hsz
      simp[this]
     rw[if_pos F,if_neg (by rw[z];simp)]
end
def CX(s:Zi)(wd:Int)(w:Zh)(e:Ending)(w':Zh):Prop:=
 ∃v,e=.returned (.tuple #[.agg #[Zg (AF s wd).k,.string (AF s wd).sum,.string (AF s wd).name,Zg (AF s wd).n,.string (AF s wd).t,v],.bool (AF s wd).ok])/\
  w'.ownsRow w.heap.size 9 1 v (AF s wd).ss.length ((AF s wd).ss.map Value.string)/\Zz w w'
theorem Rb(s:Zi)(wd:Int)(w:Zh)(hs:s.size<=1048576)(he:Env w):
 Calls prog 127 #[.string s,Zg wd] w (CX s wd w):=by
 obtain⟨l,m⟩:∃l,l=w.alloc (.cells Yp 67):=⟨_,rfl⟩;have D:=(AJ m).1;have W:=(AJ m).2.1;have R0:=(AJ m).2.2;obtain⟨c,n⟩:∃c,c=l.alloc (.cells #[.string s,Zf,.nilIface] 220):=⟨_,rfl⟩;have E:=(AJ n).1;have zA:l.heap.size<c.heap.size:=by rw[n];simp
 have R1:Hid (Aa c w.heap.size Yo):=R0.below E;have S:Below w.heap.size w c:=D.trans (E.mono D.size);have Y:Hid (Env c):=he.below S;have ha:Hid (NB l.heap.size):=fun g hg=>by have:=he.lt g hg;omega
 have x1:Hid (DQ c l.heap.size s 0 false):=by refine⟨none,rfl,?_⟩;have:=Aa.new l [.string s,Zf,.nilIface] 220;rw[←n]at this;exact⟨(this 0 _ rfl).1,(this 1 _ rfl).1,(this 2 _ rfl).1,(this 0 _ rfl).2,(this 1 _ rfl).2,(this 2 _ rfl).2⟩
 have O:=Yx m;have P:=Yx n;obtain⟨b,hb⟩:∃b,b=l.heap.size:=⟨_,rfl⟩;have zF:w.heap.size<b:=by omega
 have HB:=Yx hb;rw[←hb]at ha x1 zA;clear m n he R0 hb D E;go_enter func127,ntmps127;go_upto_region 2 with fail;rw[←O.o,←P.o,←W,←HB.o];clear O P HB W;go_wp2_with fail;refine(Th b s wd c x1.o Y.o ha.o hs).mono ?_;rintro e C ⟨v,rfl,ho,U,f⟩;obtain⟨ra,rc,hv,_⟩:=DP ho;subst hv;have zH:=f.size
 obtain⟨t,o⟩:∃t,t=C.alloc (.cells (Ym (AT s wd) ((Bl s wd).1) ((BV s wd).1) (Ff s wd) ((Bi s wd).1) ra ((Bi s wd).2.length) rc) 67):=⟨_,rfl⟩;have F:=(AJ o).1;have zB:C.heap.size+1=t.heap.size:=by rw[o];simp
 have Z3:=(AJ o).2.2;obtain⟨d,r⟩:∃d,d=t.alloc (.cells #[.pointer none] 222):=⟨_,rfl⟩;have G:=(AJ r).1;have zC:t.heap.size<d.heap.size:=by rw[r];simp
 have A:=(AJ r).2.2;have X:=Z3.below G;have i:Below C.heap.size C d:=F.trans (G.mono F.size);have a:=(R1.o.co f (show b≠w.heap.size by omega)).below i;have e4:=(Y.o.gx f ha.o).below i;have r4:=U.below i;have o4:=(ho.kept (AA none i) (Classical.em _))
 have B4:Below w.heap.size w d:=S.trans (Below.trans (B:=w.heap.size) ⟨f.os,f.tape,f.output,f.size,fun k hk=>f.block k (by omega) (fun e=>by have:=Option.some.inj e;omega)⟩ (i.mono (by omega)));have Q:=Yx o;have R:=Yx r;have K:=Yx (Zn e4 (Zn o4 B4));obtain⟨x,J⟩:∃x,x=t.heap.size:=⟨_,rfl⟩;rw[←J]at A;have N:Hid (x=t.heap.size):=J;have zG:C.heap.size<x:=by omega
 clear J;clear o r F G i Z3 ho U f e4 o4 B4 R1 Y x1;go_upto_region 4 with fail;rw[←Q.o,←R.o,←N.o];clear Q R N zB zC;have zE:b<x:=by omega
 have I:w.heap.size<x:=by omega
 obtain⟨er,z,y0,y1,M,_,_,_⟩:=r4;cases er with
 |none=>
  have H:Hid (CM s wd=false):=z.symm;simp only[IG]at M;go_wp2_with fail;refine(XI _ d).mono ?_;rintro e L ⟨rfl,V⟩;rw[V];clear V L;obtain⟨z0,z1,z2,z3,z4,z5⟩:=Aa.c6 X 0 1 2 3 4 5;obtain⟨r0,q0⟩:=a 0 _ rfl;obtain⟨r1,q1⟩:=a 1 _ rfl;obtain⟨r2,q2⟩:=a 2 _ rfl;obtain⟨r3,q3⟩:=a 3 _ rfl;obtain⟨r4,q4⟩:=a 4 _ rfl;obtain⟨r5,q5⟩:=a 5 _ rfl;clear X a A y0 y1 M z;go_wp2
  refine bodyPost_ret (v:=.tuple #[.agg (Ym (AT s wd) ((Bl s wd).1) ((BV s wd).1) (Ff s wd) ((Bi s wd).1) ra ((Bi s wd).2.length) rc),.bool true]) (by simp[results,results127,go_sem, *]) rfl ?_;have Z:AF s wd=⟨AT s wd,(Bl s wd).1,(BV s wd).1,Ff s wd,(Bi s wd).1,(Bi s wd).2,true⟩:=by unfold AF;rw[if_neg (by rw[H.o];decide)]
  unfold CX;rw[Z];have T:w.heap.size<c.heap.size:=by omega
  refine⟨_,rfl,?_,?_⟩
  ·refine World.ownsRow.mono ?_ (Nat.le_of_lt T)
   iterate 6 (refine ownsRow_setCell_below ?_ T _)
   exact K.o.2.1
  ·iterate 6 (refine Below.setCell ?_ (show w.heap.size<=w.heap.size from Zx) _)
   exact K.o.2.2
 |some q=>
  have H:Hid (CM s wd=true):=z.symm;simp only[IG]at M;go_wp2_with fail;refine(XO q x (.pointer none) d K.o.1.ib (A 0 _ rfl).1 (A 0 _ rfl).2).mono ?_;rintro e L ⟨rfl,y⟩;have u:∀j v,d.cell? (Ze (w.heap.size) j)=some v->L.cell? (Ze (w.heap.size) j)=some v:=fun j v h=>(y.cell (p:=⟨w.heap.size,j,none⟩) I).trans h
  have h1:∀j,d.frozen? ⟨w.heap.size,j,none⟩=false->L.frozen? ⟨w.heap.size,j,none⟩=false:=fun j h=>(y.frozen (p:=⟨w.heap.size,j,none⟩) I).trans h;have r0:=u 0 _ (a 0 _ rfl).1;have r1:=u 1 _ (a 1 _ rfl).1;have r2:=u 2 _ (a 2 _ rfl).1;have r3:=u 3 _ (a 3 _ rfl).1;have r4:=u 4 _ (a 4 _ rfl).1;have r5:=u 5 _ (a 5 _ rfl).1;have q0:=h1 0 (a 0 _ rfl).2;have q1:=h1 1 (a 1 _ rfl).2
  have q2:=h1 2 (a 2 _ rfl).2;have q3:=h1 3 (a 3 _ rfl).2;have q4:=h1 4 (a 4 _ rfl).2;have q5:=h1 5 (a 5 _ rfl).2;have B5:=Yx (K.o.2.2.trans (y.mono (Nat.le_of_lt I)));clear u h1 X a A y0 y1 M z y;go_wp2;refine bodyPost_ret (v:=.tuple #[.agg Yp,.bool false]) (by simp[results,results127,go_sem, *]) rfl ?_;have Z:AF s wd=He:=by unfold AF;rw[if_pos H.o]
  unfold CX;rw[Z];refine⟨Zc,rfl,World.ownsRow_nil _ _ _ _,?_⟩
  iterate 6 (refine Below.setCell ?_ (show w.heap.size<=w.heap.size from Zx) _)
  exact B5.o
theorem IJ(n:Int)(w:Zh):
 Calls prog 68 #[Zg n] w fun e a=>e=.returned (.bool (decide (1<=n/\n<=8)))/\a=w:=by
 by_cases h1:1<=n
 ·by_cases h2:n<=8
  ·go_enter func68,ntmps68;go_wp2;go_ret;exact⟨Av (by simp[h1,h2]),rfl⟩
  ·have c:decide (n<=8)=false:=by simpa using h2
   go_enter func68,ntmps68;go_wp2;go_ret;exact⟨rfl,rfl⟩
 ·have b:decide (1<=n)=false:=by simpa using h1
  go_enter func68,ntmps68;go_wp2;go_ret;exact⟨rfl,rfl⟩
theorem MF{s:Zi}{wd:Int}(h:¬(1<=wd/\wd<=8)):AF s wd=He:=by unfold AF;rw[if_pos (UP h)]
theorem MG{l:List UInt8}{wd:Int}(h1:1<=wd)(h2:wd<=8)(b:l.length<6):AF (AE l) wd=He:=by
 unfold AF;rw[if_pos]
 match l,b with
 |[],_=>exact YC h1 h2
 |a::l,b=>
  by_cases h4:l.length<4
  ·exact UQ a l h1 h2 h4
  ·cases hk:EF (a.toNat:Int)with
   |false=>exact FV (by rw[GN _ _ h1 h2,hk];rfl)
   |true=>
    match l,b,h4 with
    |[a1,a2,a3,a4],_,_=>exact UR a a1 a2 a3 a4 h1 h2 hk
    |[],_,h4=>simp at h4
    |[_],_,h4=>simp at h4
    |[_,_],_,h4=>simp at h4
    |[_,_,_],_,h4=>simp at h4
theorem OC{a c d e f b:UInt8}{T:List UInt8}{wd:Int}(h1:1<=wd)(h2:wd<=8)(g:T.length<b.toNat):AF (AE (a::c::d::e::f::b::T)) wd=He:=by
 unfold AF;rw[if_pos];cases hk:EF (a.toNat:Int)with
 |false=>exact FV (by rw[GN _ _ h1 h2,hk];rfl)
 |true=>exact US a c d e f b T h1 h2 hk g
theorem Hf{s:Zi}{wd:Int}{w a:Zh}(h:AF s wd=He)(b:Zz w a):CX s wd w (.returned (.tuple #[.agg Yp,.bool false])) a:=by unfold CX;rw[h];exact⟨Zc,rfl,World.ownsRow_nil _ _ _ _,b⟩
theorem Rc(s:Zi)(wd:Int)(w:Zh)(h:¬(1<=wd/\wd<=8)):
 Calls prog 122 #[.string s,Zg wd] w (CX s wd w):=by
 have c:decide (1<=wd/\wd<=8)=false:=by simpa using h
 have HN:=Yx (MF (s:=s) h);clear h;go_enter func122,ntmps122;go_wp2_with (go_at_call 68;refine(IJ wd _).mono ?_;rintro e b ⟨rfl,a⟩;rw[a];clear a b);exact bodyPost_ret (v:=.tuple #[.agg Yp,.bool false]) (by simp[results,results122,go_sem]) rfl (Hf HN.o (Zy))
theorem Rd(s:Zi)(wd:Int)(w:Zh)(h1:1<=wd)(h2:wd<=8)(b:s.size<6):
 Calls prog 122 #[.string s,Zg wd] w (CX s wd w):=by
 have f:decide (1<=wd/\wd<=8)=true:=by simp[h1,h2]
 have d:decide ((s.size:Int)<6)=true:=by simp;omega
 have HN:=Yx (MG (l:=s.data.toList) h1 h2 b);go_enter func122,ntmps122;go_wp2_with (go_at_call 68;refine(IJ wd _).mono ?_;rintro e c ⟨rfl,a⟩;rw[a];clear a c);exact bodyPost_ret (v:=.tuple #[.agg Yp,.bool false]) (by simp[results,results122,go_sem]) rfl (Hf HN.o (Zy))
theorem Re(s:Zi)(wd:Int)(w:Zh)(o:s.size<=1048576)(h1:1<=wd)(h2:wd<=8)(a:Nat)(l:6<=s.size)(c:s[5].toNat=a)(d:AF s wd=He)(n:s.size<6+a):
 Calls prog 122 #[.string s,Zg wd] w (CX s wd w):=by
 have m:decide (1<=wd/\wd<=8)=true:=by simp[h1,h2]
 have h:decide ((s.size:Int)<6)=false:=by simp;omega
 have j:(5:Int)<s.size:=by omega
 have i:decide ((s.size:Int)<6+(a:Int))=true:=by simp;omega
 have k:a<256:=by rw[←c];exact s[5].toNat_lt
 have f:=Ci s[5];rw[c]at f;have HN:=Yx d;clear d;go_enter func122,ntmps122;go_wp2_with (go_at_call 68;refine(IJ wd _).mono ?_;rintro e g ⟨rfl,b⟩;rw[b];clear b g);exact bodyPost_ret (v:=.tuple #[.agg Yp,.bool false]) (by simp[results,results122,go_sem]) rfl (Hf HN.o (Zy))
theorem Rf(s:Zi)(wd:Int)(a t u z Y i:Nat)(w:Zh)(hs:s.size<=1048576)(h1:1<=wd)(h2:wd<=8)(h6:6<=s.size)(K:s[0].toNat=a)(L:s[1].toNat=t)(M:s[2].toNat=u)(N:s[3].toNat=z)(O:s[4].toNat=Y)(g5:s[5].toNat=i)(hf:6+i<=s.size)
 (name k:Zi) (zM:s.extract 6 (6+i)=name) (zP:s.extract (6+i) s.size=k) (n:Int) (hn:(t:Int) *16777216+(u:Int) *65536+(z:Int) *256+(Y:Int)=n)
 (f d:Zi) (b:Zl) (zR:f=if (a:Int)=1 then ⟨#[]⟩else k) (zU:d=if (a:Int)=1 then (rd k wd).1 else ⟨#[]⟩) (zO:b=if (a:Int)=1 then (rd k wd).2.1 else [])
 (hR:AF s wd=if (Cs a f name n d b wd&&decide (CF a f name n d b wd=s))=true then ⟨a,f,name,n,d,b,true⟩else He):
 Calls prog 122 #[.string s,Zg wd] w (CX s wd w):=by
 have hd:decide (1<=wd/\wd<=8)=true:=by simp[h1,h2]
 have zH:decide ((s.size:Int)<6)=false:=by simp;omega
 have l5:(5:Int)<s.size:=by omega
 have zI:decide ((s.size:Int)<6+(i:Int))=false:=by simp;omega
 have b0:a<256:=by rw[←K];exact s[0].toNat_lt
 have b1:t<256:=by rw[←L];exact s[1].toNat_lt
 have b2:u<256:=by rw[←M];exact s[2].toNat_lt
 have b3:z<256:=by rw[←N];exact s[3].toNat_lt
 have b4:Y<256:=by rw[←O];exact s[4].toNat_lt
 have b5:i<256:=by rw[←g5];exact s[5].toNat_lt
 have w0:=Ci s[0];have w1:=Ci s[1];have w2:=Ci s[2];have w3:=Ci s[3];have w4:=Ci s[4];have S:=Ci s[5];rw[K]at w0;rw[L]at w1;rw[M]at w2;rw[N]at w3;rw[O]at w4;rw[g5]at S;have zA:=Yx (Zn b0 (Zn b1 (Zn b2 (Zn b3 b4))));have zF:=Yx (Zn w0 (Zn w1 (Zn w2 (Zn w3 w4))));have zB:=Yx (Zn K (Zn L (Zn M (Zn N O))));have HX:=Yx (Zn hs (Zn h1 h2));have c:=Yx (Zn zM (Zn zP (Zn hn (Zn zR (Zn zU (Zn zO hR))))))
 clear zM zP hn zR zU zO hR;clear b0 b1 b2 b3 b4 w0 w1 w2 w3 w4 K L M N O;obtain⟨W,Q⟩:∃W,W=w.alloc (.cells Yp 67):=⟨_,rfl⟩;have zW:=(AJ Q).1;have hz:w.heap.size<W.heap.size:=by rw[Q];simp
 have R0:Hid (Aa W _ _):=(AJ Q).2.2;have HW:=Yx Q;clear Q;go_enter func122,ntmps122;go_upto_region 1 with fail;rw[←HW.o];clear HW;go_upto_region 3 with(go_at_call 68;refine(IJ wd _).mono ?_;rintro e w' ⟨rfl,zV⟩;rw[zV];clear zV w');go_cut [6] (fun v G=>v=Yz W.heap.size/\G=(W.alloc (.cells #[Zg (a:Int),Zd,Zd,Zg n,Zd,Zc] 67)).drew)
 case first=>
  obtain⟨b0,b1,b2,b3,b4⟩:=zA.o;have m1:=Et ((t:Int) *16777216) (by omega) (by omega);have m2:=Et ((u:Int) *65536) (by omega) (by omega);have m3:=Et ((z:Int) *256) (by omega) (by omega);have p1:=Et ((t:Int) *16777216+(u:Int) *65536) (by omega) (by omega);have p2:=Et ((t:Int) *16777216+(u:Int) *65536+(z:Int) *256) (by omega) (by omega)
  have p3:=Et ((t:Int) *16777216+(u:Int) *65536+(z:Int) *256+(Y:Int)) (by omega) (by omega);have l0:(0:Int)<s.size:=by omega
  have l1:(1:Int)<s.size:=by omega
  have l2:(2:Int)<s.size:=by omega
  have l3:(3:Int)<s.size:=by omega
  have l4:(4:Int)<s.size:=by omega
  obtain⟨w0,w1,w2,w3,w4⟩:=zF.o;obtain⟨K,L,M,N,O⟩:=zB.o;clear b0 b1 b2 b3 b4 b5 zI zH hd;have H5:=Yx (Zn g5 (Zn S l5));clear S l5
  go_big_region
  go_wp2_with fail;go_meet;exact⟨rfl,by rw[c.o.2.2.1]⟩
 case rest=>
 revert wc;intro W3 hcut;obtain⟨rfl,V⟩:=hcut;have zY:=hf;clear b5 zI zH hd zA zF zB HX;have X:Below W.heap.size W W3:=by rw[V];exact(Zy).drew
 have Z3:Aa W3 W.heap.size [Zg (a:Int),Zd,Zd,Zg n,Zd,Zc]:=by rw[V];exact Aa.new W _ _
 have R3:=R0.o.below X;have B3:=zW.trans (X.mono (Nat.le_of_lt hz));obtain⟨B,hB⟩:∃B,B=W.heap.size:=⟨_,rfl⟩;rw[←hB]at Z3;have HB:=Yx hB;obtain⟨y,yB⟩:=Z3 2 _ rfl;have F:w.heap.size<B:=by omega
 obtain⟨C,o⟩:∃C,C=W3.setCell (Ze B 2) (.string name):=⟨_,rfl⟩;have D:Hid (Aa C B [Zg (a:Int),Zd,.string name,Zg n,Zd,Zc]):=by rw[o];exact Z3.set 2 _
 have R4:Hid (Aa C w.heap.size Yo):=by rw[o];exact R3.co (Az _ _ _ _) (by omega)
 have Z:Hid (Zz w C):=by rw[o];exact B3.setCell (p:=⟨B,2,none⟩) (Nat.le_of_lt F) _
 have zE:=Yx o;have Hn:=Yx c.o.1;have Hr:=Yx c.o.2.1;rw[←hB];clear V X o R3 B3 hB Z3;have e6:((6:Int)+(i:Int)).toNat=6+i:=by omega
 have u1:(6:Int)<=6+(i:Int):=by omega
 have u2:(6:Int)+(i:Int)<=(s.size:Int):=by omega
 go_upto_region 6 with fail;rw[Hn.o,Hr.o,←zE.o];have zS:k.size<=1048576:=by rw[←Hr.o];simp;omega
 have yA:name.size<=1048576:=by rw[←Hn.o];simp;omega
 have zX:=HB.o.symm;clear zE Hn Hr y yB e6 u1 u2 S l5 R0 zW hz zX HB;clear g5;clear hf zY h6;have HX:=Yx (Zn hs (Zn h1 h2));clear hs h1 h2;obtain⟨m,_⟩:=D.o 0 _ rfl
 go_upto_if 63 with fail
 go_cut [] (fun G=>∃(g:Zk) (j:Nat),Hid (Aa G B (Yn (a:Int) f name n d g b.length j))/\Hid (Aa G w.heap.size Yo)/\Hid (G.ownsRow (w.heap.size+1) 9 1 (.slice g b.length j) b.length (b.map Value.string))/\Hid (Zz w G))
 case first=>
  by_cases hk:(a:Int)=1
  ·have e1:Hid (f=⟨#[]⟩):=by show _=_;rw[c.o.2.2.2.1,if_pos hk]
   have e2:Hid (d=(rd k wd).1):=by show _=_;rw[c.o.2.2.2.2.1,if_pos hk]
   have e3:Hid (b=(rd k wd).2.1):=by show _=_;rw[c.o.2.2.2.2.2.1,if_pos hk]
   have hq:((a:Int)==1)=true:=by simpa using hk
   have HK:=Yx hk;clear hk;go_wp2_with fail;have HR:=Sx k wd C zS;unfold Ey at HR;refine HR.mono ?_;rintro e S ⟨v,rfl,ho,E⟩;rw[←e3.o]at ho;rw[←e2.o];obtain⟨g,j,hv,_⟩:=DP ho;subst hv;have Z5:=Aa.below D.o E;have R5:=Aa.below R4.o E;have zG:=D.o.lt;obtain⟨I,yE⟩:=Z5 4 _ rfl;obtain⟨J,yF⟩:=Z5 5 _ rfl;have B5:=Z.o.trans (E.mono Z.o.size);clear HR E m hq;go_wp2_with fail;go_meet;refine⟨g,j,?_,?_,?_,?_⟩
   ·rw[e1.o];exact(Z5.set 4 _).set 5 _
   ·exact(R5.co (Az _ B 4 _) (by omega)).co (Az _ B 5 _) (by omega)
   ·exact(ownsRow_setCell_below (ownsRow_setCell_below ho zG _) zG _).mono (by omega)
   ·exact(B5.setCell (p:=⟨B,4,none⟩) (Nat.le_of_lt F) _).setCell (p:=⟨B,5,none⟩) (Nat.le_of_lt F) _
  ·have e1:Hid (f=k):=by show _=_;rw[c.o.2.2.2.1,if_neg hk]
   have e2:Hid (d=⟨#[]⟩):=by show _=_;rw[c.o.2.2.2.2.1,if_neg hk]
   have e3:Hid (b=[]):=by show _=_;rw[c.o.2.2.2.2.2.1,if_neg hk]
   have hq:((a:Int)==1)=false:=by simpa using hk
   obtain⟨H,yD⟩:=D.o 1 _ rfl;have HK:=Yx hk;clear hk;go_wp2_with fail;go_meet;refine⟨none,0,?_,?_,?_,?_⟩
   ·rw[e1.o,e2.o,e3.o];exact D.o.set 1 _
   ·exact R4.o.co (Az _ B 1 _) (by omega)
   ·rw[e3.o];exact World.ownsRow_nil _ _ _ _
   ·exact Z.o.setCell (p:=⟨B,1,none⟩) (Nat.le_of_lt F) _
 case rest=>
 revert wc;intro w6 hcut;obtain⟨g,j,Z6,R6,O6,B6⟩:=hcut;clear D R4 Z m;obtain⟨m,H,y,T,I,J⟩:=Aa.c6 Z6.o 0 1 2 3 4 5;have zN:b.length<=255:=by
  rw[c.o.2.2.2.2.2.1];split
  ·exact VH _ _
  ·exact Nat.zero_le _
 have zT:d.size<=maxLen:=by
  rw[c.o.2.2.2.2.1];unfold maxLen;split
  ·have:=Qd k wd;omega
  ·exact Nat.zero_le _
 have zK:name.size<=maxLen:=by unfold maxLen;omega
 have U:Hid (Ad w6 w6.heap.size g b):=by obtain⟨a',c',hv,hr⟩:=DP O6.o;cases hv;exact hr
 have A:=Yx (Zn zN (Zn zT zK));clear zN zT zK zS yA;go_wp2_with fail;refine(Ul (a:Int) f name n d g j b wd w6 U.o (by have:=A.o.1;omega) A.o.2.1 A.o.2.2).mono ?_;rintro e w7 ⟨rfl,l⟩;have Z7:Hid (Aa w7 B (Yn (a:Int) f name n d g b.length j)):=Z6.o.below l;have x:Hid (Aa w7 w.heap.size Yo):=R6.o.below l
 have O7:Hid (w7.ownsRow (w.heap.size+1) 9 1 (.slice g b.length j) b.length (b.map Value.string)):=O6.o.kept (AA none l) (Classical.em _);have B7:=Yx (B6.o.trans (l.mono B6.o.size));have S7:=Yx (Ad.af U.o l);clear Z6 R6 O6 B6 U l m H y T I J;obtain⟨m,H,y,T,I,J⟩:=Aa.c6 Z7.o 0 1 2 3 4 5;cases hok:Cs (a:Int) f name n d b wd with
 |false=>
  have P:Hid (AF s wd=He):=by show _=_;rw[c.o.2.2.2.2.2.2,if_neg (by rw[hok];simp)]
  obtain⟨r0,q0⟩:=x.o 0 _ rfl;obtain⟨r1,q1⟩:=x.o 1 _ rfl;obtain⟨r2,q2⟩:=x.o 2 _ rfl;obtain⟨r3,q3⟩:=x.o 3 _ rfl;obtain⟨r4,q4⟩:=x.o 4 _ rfl;obtain⟨r5,q5⟩:=x.o 5 _ rfl;clear m H y T I J hok;go_wp2;refine bodyPost_ret (v:=.tuple #[.agg Yp,.bool false]) (by simp[results,results122,go_sem, *]) rfl ?_;refine Hf P.o ?_
  iterate 6 (refine Below.setCell ?_ (show w.heap.size<=w.heap.size from Zx) _)
  exact B7.o
 |true=>
  have zC:=Yx hok;clear hok;go_wp2_with fail;refine(Sy (a:Int) f name n d g j b wd w7 S7.o (by have:=A.o.1;omega) A.o.2.1 A.o.2.2).mono ?_;rintro e w8 ⟨rfl,q⟩;have Z8:=Z7.o.below q;have R8:=x.o.below q;have O8:=O7.o.kept (AA none q) (Classical.em _);have B8:=B7.o.trans (q.mono B7.o.size);clear m H y T I J;obtain⟨m,H,y,T,I,J⟩:=Aa.c6 Z8 0 1 2 3 4 5;obtain⟨r0,q0⟩:=R8 0 _ rfl
  obtain⟨r1,q1⟩:=R8 1 _ rfl;obtain⟨r2,q2⟩:=R8 2 _ rfl;obtain⟨r3,q3⟩:=R8 3 _ rfl;obtain⟨r4,q4⟩:=R8 4 _ rfl;obtain⟨r5,q5⟩:=R8 5 _ rfl;have HC:=Yx (Zn O8 B8);clear Z8 R8 O8 B8 q;obtain⟨R,r⟩:∃R,R=CF (a:Int) f name n d b wd:=⟨_,rfl⟩;rw[←r];by_cases heq:R=s
  ·have P:Hid (AF s wd=⟨a,f,name,n,d,b,true⟩):=by show _=_;rw[c.o.2.2.2.2.2.2,if_pos (by rw[zC.o,←r,heq];simp)]
   subst heq;clear r;go_wp2;refine bodyPost_ret (v:=.tuple #[.agg (Ym (a:Int) f name n d g b.length j),.bool true]) (by simp[results,results122,go_sem, *]) rfl ?_;unfold CX;rw[P.o];have zJ:w.heap.size<w.heap.size+1:=Nat.lt_succ_self _;refine⟨_,rfl,?_,?_⟩
   ·refine World.ownsRow.mono ?_ (Nat.le_of_lt zJ)
    iterate 6 (refine ownsRow_setCell_below ?_ zJ _)
    exact HC.o.1
   ·iterate 6 (refine Below.setCell ?_ (show w.heap.size<=w.heap.size from Zx) _)
    exact HC.o.2
  ·have P:Hid (AF s wd=He):=by show _=_;rw[c.o.2.2.2.2.2.2,if_neg (by rw[zC.o,←r];simpa using heq)]
   have zZ:(R.toList==s.toList)=false:=by rw[beq_eq_false_iff_ne];intro h;rw[ByteArray.toList_eq,ByteArray.toList_eq]at h;exact heq (ByteArray.ext (Array.toList_inj.1 h))
   have yC:(R.toList !=s.toList)=true:=by rw[bne,zZ];rfl
   clear r heq;go_wp2;refine bodyPost_ret (v:=.tuple #[.agg Yp,.bool false]) (by simp[results,results122,go_sem, *]) rfl ?_;refine Hf P.o ?_
   iterate 6 (refine Below.setCell ?_ (show w.heap.size<=w.heap.size from Zx) _)
   exact HC.o.2
theorem Rg(s:Zi)(wd:Int)(w:Zh)(a:s.size<=1048576):
 Calls prog 122 #[.string s,Zg wd] w (CX s wd w):=by
 by_cases hw:1<=wd/\wd<=8
 ·obtain⟨h1,h2⟩:=hw;by_cases h6:s.size<6
  ·exact Rd s wd w h1 h2 h6
  ·obtain⟨l,rfl⟩:∃l,s=AE l:=⟨s.data.toList,rfl⟩;rw[BR]at a h6
   match l,a,h6 with
   |a0::a1::a2::a3::a4::a5::T,a,h6=>
    have b:(AE (a0::a1::a2::a3::a4::a5::T)).size=T.length+6:=by rw[BR];rfl
    by_cases hT:a5.toNat<=T.length
    ·refine Rf _ wd a0.toNat a1.toNat a2.toNat a3.toNat a4.toNat a5.toNat w (by rw[BR];exact a) h1 h2 (by omega) rfl rfl rfl rfl rfl rfl (by omega) (AE (T.take a5.toNat)) (AE (T.drop a5.toNat)) ?_ ?_ (CL [a1,a2,a3,a4]) (VO a1 a2 a3 a4).symm _ _ _ rfl rfl rfl ?_
     ·rw[GX,show 6+a5.toNat -6=a5.toNat by omega];rfl
     ·rw[b,GX];congr 2;rw[show 6+a5.toNat=a5.toNat+6 by omega];show(T.drop a5.toNat).take _=_;exact Zt (by simp)
     ·exact ME a0 a1 a2 a3 a4 a5 T h1 h2 hT
    ·exact Re _ wd w (by rw[BR];exact a) h1 h2 a5.toNat (by omega) rfl (OC h1 h2 (by omega)) (by omega)
   |[],_,h6=>simp at h6
   |[_],_,h6=>simp at h6
   |[_,_],_,h6=>simp at h6
   |[_,_,_],_,h6=>simp at h6
   |[_,_,_,_],_,h6=>simp at h6
   |[_,_,_,_,_],_,h6=>simp at h6
 ·exact Rc s wd w hw
theorem Hz{s:Zi}{wd:Int}(h:(AF s wd).ok=true):Cs (AF s wd).k (AF s wd).sum (AF s wd).name (AF s wd).n (AF s wd).t (AF s wd).ss wd=true/\CF (AF s wd).k (AF s wd).sum (AF s wd).name (AF s wd).n (AF s wd).t (AF s wd).ss wd=s:=by
 by_cases hw:1<=wd/\wd<=8
 ·obtain⟨h1,h2⟩:=hw;obtain⟨l,rfl⟩:∃l,s=AE l:=⟨s.data.toList,rfl⟩;by_cases h6:l.length<6
  ·rw[MG h1 h2 h6]at h;cases h
  ·match l,h6,h with
   |a0::a1::a2::a3::a4::a5::T,h6,h=>
    by_cases hT:a5.toNat<=T.length
    ·rw[ME a0 a1 a2 a3 a4 a5 T h1 h2 hT]at h ⊢;split at h
     case isTrue hc=>
      rw[if_pos hc];unfold Oz at hc;rw[Bool.and_eq_true,decide_eq_true_eq]at hc;exact hc
     case isFalse hc=>cases h
    ·rw[OC h1 h2 (by omega)]at h;cases h
   |[],h6,_=>simp at h6
   |[_],h6,_=>simp at h6
   |[_,_],h6,_=>simp at h6
   |[_,_,_],h6,_=>simp at h6
   |[_,_,_,_],h6,_=>simp at h6
   |[_,_,_,_,_],h6,_=>simp at h6
 ·rw[MF hw]at h;cases h
theorem Ng(a b:Zk)(c d:Nat)(f h:Zl)(w:Zh)(I:Ad w w.heap.size a f)(H:Ad w w.heap.size b h)(P:f.length<=1048576)(M:h.length<=1048576):
 Calls prog 112 #[.agg #[.slice a f.length c,.slice b h.length d]] w fun e C=>∃x k y l,e=.returned (.agg #[.slice x f.length k,.slice y h.length l])/\
  C.ownsRow w.heap.size 9 1 (.slice x f.length k) f.length (f.map Value.string)/\C.ownsRow w.heap.size 9 1 (.slice y h.length l) h.length (h.map Value.string)/\(∀g,(Value.slice x f.length k).ownBlock=some g->(Value.slice y h.length l).ownBlock≠some g)/\Zz w C:=by
 obtain⟨W,m⟩:∃W,W=(w.alloc (.cells #[.slice a f.length c,.slice b h.length d] 38)).alloc (.cells #[Zc,Zc] 38):=⟨_,rfl⟩;have j:=(Bj m).1;have K:=(Bj m).2.2.1;have L:Aa W (w.heap.size+1) [Zc,Zc]:=by have h1:=Aa.new (w.alloc (.cells #[.slice a f.length c,.slice b h.length d] 38)) [Zc,Zc] 38;rw[World.size_alloc]at h1;rw[m];exact h1
 have Q:=(Bj m).2.1;have G:=Yx m;have t:Hid (Aa W _ _):=(Bj m).2.2.1;have o:Hid (Aa W (w.heap.size+1) [Zc,Zc]):=L;have F:Hid (Ad w w.heap.size a f):=I;have E:Hid (Ad w w.heap.size b h):=H;obtain⟨N,O⟩:=Aa.c2 K 0 1;clear m K L I H;go_enter func112,ntmps112;go_upto_region 1 with fail;rw[←G.o];clear G;go_region_with (first
  |(go_at_call 136;refine(Ew a c f W.drew (Ad.af (w:=w) F.o j.drew) P).mono ?_;rintro e J ⟨x,k,rfl,q,u⟩;have i:Below W.heap.size W J:=(Below.refl W.heap.size W).drew.trans u;obtain⟨b1,_⟩:=Aa.below t.o i 1 _ rfl)
  |(go_at_call 136;refine(Ew b d h J (Ad.af (w:=w) E.o (j.trans (i.mono j.size))) M).mono ?_;rintro e D ⟨y,l,rfl,r,p⟩;have n:Below W.heap.size W D:=i.trans (p.mono i.size);obtain⟨d0,e0⟩:=Aa.below o.o n 0 _ rfl;obtain⟨d1,e1⟩:=Aa.below o.o n 1 _ rfl))
 all_goals
  have z:D.ownsRow (w.heap.size+2) 9 1 (.slice x f.length k) f.length (f.map Value.string):=(CQ q p).mono (by simp;omega);have A:D.ownsRow (w.heap.size+2) 9 1 (.slice y h.length l) h.length (h.map Value.string):=r.mono (by have:=i.size;omega)
  have B:∀g,(Value.slice x f.length k).ownBlock=some g->(Value.slice y h.length l).ownBlock≠some g:=fun g h1 h2=>by have R:=(Ac q h1).2;have S:=(Ac r h2).1;omega
  have s:=Yx (Zn z (Zn A (Zn B (j.trans (n.mono j.size)))));clear z A q r u p i n t o F E N O j B;go_wp2;refine bodyPost_ret (v:=.agg #[.slice x f.length k,.slice y h.length l]) (by simp[results,results112,go_sem,d0,d1]) rfl ⟨x,k,y,l,rfl,?_,?_,s.o.2.2.1,?_⟩
  ·refine World.ownsRow.mono ?_ (show w.heap.size<=w.heap.size+2 by omega)
   iterate 2 (refine ownsRow_setCell_below ?_ (by simp<;>omega) _)
   exact s.o.1
  ·refine World.ownsRow.mono ?_ (show w.heap.size<=w.heap.size+2 by omega)
   iterate 2 (refine ownsRow_setCell_below ?_ (by simp<;>omega) _)
   exact s.o.2.1
  ·iterate 2 (refine Below.setCell ?_ (by simp) _)
   exact s.o.2.2.2
section
attribute [local go_sem↓] Go.wp_at_zero Go.wp_at_succ
def EG(ss tt:Zl)(e:Zi):Int:=if DA ss tt=true/\e.size<=5000 then (if ss.length+tt.length=4000 then 2 else 0)else 1
theorem EH{w a:Zh}{b B:Nat}{u v:Value}(h:w.cell? (Ze b 0)=some u/\w.cell? (Ze b 1)=some v)(d:Below B w a)(c:b<B):a.cell? (Ze b 0)=some u/\a.cell? (Ze b 1)=some v:=
 ⟨(d.cell (p:=⟨b,0,none⟩) c).trans h.1,(d.cell (p:=⟨b,1,none⟩) c).trans h.2⟩
theorem Rh(a b:Zk)(c d:Nat)(l i:Zl)(A:Zi)(w:Zh)(hr:Ad w w.heap.size a l)(hq:Ad w w.heap.size b i)(hl:l.length<=1048576)(yC:i.length<=1048576)
 (hs:∀s∈l,s.size<=1048576) (yE:∀s∈i,s.size<=1048576) (yL:DA l i=true) (he:A.size<=5000) (hn:¬l.length+i.length=4000):
 Calls prog 108 #[.agg #[.slice a l.length c,.slice b i.length d],.string A] w fun e R=>∃v u,e=.returned (.tuple #[.agg #[v,u],Zf])/\
  R.ownsRow w.heap.size 9 1 v l.length (l.map Value.string)/\R.ownsRow w.heap.size 9 1 u (i++[A]).length ((i++[A]).map Value.string)/\(v.ownBlock=none∨v.ownBlock≠u.ownBlock)/\Zz w R:=by
 obtain⟨i0,hi,zX,zY,zZ⟩:=info_parts CP;have zP:Below w.heap.size w ((w.alloc (.cells #[.slice a l.length c,.slice b i.length d] 38)).alloc (.cells #[Zc,Zc] 38)):=(Zy).alloc (by simp) _;have yO:decide ((5000:Int)<(A.size:Int))=false:=by simp;omega
 go_enter func108,ntmps108;go_wp2_with fail;refine(Gt a b c d l i _ (hr.af zP) (hq.af zP) hl yC hs yE).mono ?_;rintro e w1 ⟨rfl,T⟩;have zV:=zP.trans (T.mono (by simp;omega));have zK:=T.size;simp at zK;have c0:w1.cell? (Ze (w.heap.size) 0)=some (.slice a l.length c):=by rw[T.cell (p:=⟨w.heap.size,0,none⟩) (by simp;omega)];simp[go_sem]
 have c1:w1.cell? (Ze (w.heap.size) 1)=some (.slice b i.length d):=by rw[T.cell (p:=⟨w.heap.size,1,none⟩) (by simp;omega)];simp[go_sem]
 have r0:w1.cell? (Ze (w.heap.size+1) 0)=some Zc:=by rw[T.cell (p:=⟨w.heap.size+1,0,none⟩) (by simp)];simp[go_sem]
 have r1:w1.cell? (Ze (w.heap.size+1) 1)=some Zc:=by rw[T.cell (p:=⟨w.heap.size+1,1,none⟩) (by simp)];simp[go_sem]
 have f0:∀o,w1.frozen? ⟨w.heap.size+1,o,none⟩=false:=fun o=>by rw[T.frozen (p:=⟨w.heap.size+1,o,none⟩) (by simp)];simp[go_sem]
 have HR:=Yx (Zn r0 (Zn r1 f0));have zT:=Yx (Zn hr hq);clear T r0 r1 f0 hr hq hs yE;rw[yL];go_wp2_with fail;refine(GF a b l.length i.length c d _).mono ?_;rintro e X ⟨rfl,zF⟩;have zW:=zV.trans (zF.mono zV.size)
 have zN:Hid (X.cell? (Ze (w.heap.size+1) 0)=some Zc/\X.cell? (Ze (w.heap.size+1) 1)=some Zc/\∀o,X.frozen? ⟨w.heap.size+1,o,none⟩=false):=⟨(zF.cell (p:=⟨w.heap.size+1,0,none⟩) (by simp;omega)).trans HR.o.1,(zF.cell (p:=⟨w.heap.size+1,1,none⟩) (by simp;omega)).trans HR.o.2.1,fun o=>(zF.frozen (p:=⟨w.heap.size+1,o,none⟩) (by simp;omega)).trans (HR.o.2.2 o)⟩;have yA:=zF.size;clear zF HR c0 c1
 go_wp2_with fail;refine(Jl a b l.length i.length c d _ hl yC).mono ?_;rintro e q ⟨rfl,zH⟩;have zE:Below w.heap.size w q:=(zW.alloc zW.size _).trans (zH.mono (by simp;omega));have yF:=zH.size;simp at yF;have d0:q.cell? (Ze (X.heap.size) 0)=some (.slice a l.length c)/\q.cell? (Ze (X.heap.size) 1)=some (.slice b i.length d):=EH (B:=X.heap.size+1) ⟨by simp,by simp⟩ (zH.mono (by simp)) (by omega)
 have zR:Below X.heap.size X q:=(Zy).trans (zH.mono (by simp));have q0:=(zR.cell (p:=⟨w.heap.size+1,0,none⟩) (by simp;omega)).trans zN.o.1;have q1:=(zR.cell (p:=⟨w.heap.size+1,1,none⟩) (by simp;omega)).trans zN.o.2.1;have qf:∀o,q.frozen? ⟨w.heap.size+1,o,none⟩=false:=fun o=>(zR.frozen (p:=⟨w.heap.size+1,o,none⟩) (by simp;omega)).trans (zN.o.2.2 o)
 have yP:((l.length:Int)+i.length==4000)=false:=by simp;omega
 have S:X.heap.size<q.heap.size:=by omega
 have P:w.heap.size+1<q.heap.size:=by omega
 have yN:w.heap.size+1<X.heap.size:=by omega
 generalize X.heap.size=D at *
 have hK:∀W,Zz q W->Calls prog 149 #[.func (.func 128) #[.agg #[.slice a l.length c]] #[]] W fun e R=>∃v,e=.returned v/\R.ownsRow W.heap.size 9 1 v l.length (l.map Value.string)/\Zz W R:=fun W hB=>by have Y:=zE.trans (hB.mono zE.size);exact JX 128 _ (enters_of func128 (by kernel_rfl) rfl) l w.heap.size _ (Mt a c l w.heap.size W (zT.o.1.below Y) Y.size (by unfold maxLen;omega)) Y.size (by omega)
 have hO:∀W,Zz q W->Calls prog 149 #[.func (.func 129) #[.agg #[.slice a l.length c,.slice b i.length d]] #[]] W fun e R=>∃v,e=.returned v/\R.ownsRow W.heap.size 9 1 v i.length (i.map Value.string)/\Zz W R:=fun W hB=>by have Y:=zE.trans (hB.mono zE.size);exact JX 129 _ (enters_of func129 (by kernel_rfl) rfl) i w.heap.size _ (Mu _ b d i w.heap.size W (zT.o.2.below Y) Y.size (by unfold maxLen;omega)) Y.size (by omega)
 have HK:=Yx hK;have HO:=Yx hO;have zC:=Yx zE;clear hK hO zE zH zR zN zT zW zV zP zK yA yF;have yB:Below q.heap.size q q.drew:=(Below.refl _ _).drew;have zO:∀o,Zz q (q.alloc o).drew:=fun o=>(Zy).drew;go_wp2;go_region_held3 (fun R=>R.cell? (Ze D 0)=some (.slice a l.length c)/\R.cell? (Ze D 1)=some (.slice b i.length d))
  (first|exact F|exact⟨by rw[World.cell?_setCell_other _ _ _ _ (by simp<;>omega),World.cell?_setCell_other _ _ _ _ (by simp<;>omega)];exact F.1,by rw[World.cell?_setCell_other _ _ _ _ (by simp<;>omega),World.cell?_setCell_other _ _ _ _ (by simp<;>omega)];exact F.2⟩|exact I|exact EH I (Zy) L|exact zU|exact EH zU (Zy) K|exact d0|exact EH d0 (zO _) S|go_keep)
  (first
    |(go_at_call 149;guard_target=~Calls prog 149 #[Value.func (Fn.func 128) #[Value.agg #[Value.slice a l.length c]] #[]] (World.drew q) _;refine(HK.o q.drew yB).mono ?_;rintro e m ⟨yM,rfl,r,M⟩;obtain⟨av,cv,rfl,_⟩:=Gl r;have x:Below q.heap.size q m:=yB.trans (M.mono (by first|omega|simp));have zU:=EH d0 x S;have O:=x.size;have K:D<m.heap.size:=Zr S O;have r:m.ownsRow q.heap.size 9 1 (.slice av l.length cv) l.length (l.map Value.string):=r.mono (by first|omega|simp))
    |(go_at_call 149;guard_target=~Calls prog 149 #[Value.func (Fn.func 128) #[Value.agg #[Value.slice a l.length c]] #[]] (World.drew (World.alloc q _)) _;refine(HK.o (q.alloc _).drew (zO _)).mono ?_;rintro e m ⟨yM,rfl,r,M⟩;obtain⟨av,cv,rfl,_⟩:=Gl r;have x:Below q.heap.size q m:=(zO _).trans (M.mono (by first|omega|simp));have zU:=EH d0 x S;have O:=x.size;have K:D<m.heap.size:=Zr S O;have r:m.ownsRow q.heap.size 9 1 (.slice av l.length cv) l.length (l.map Value.string):=r.mono (by first|omega|simp);have yK:q.heap.size<m.heap.size:=(by have:=M.size;simp at this;omega);have yH:m.cell? (Ze (q.heap.size) 0)=some (.string A):=(by rw[M.cell (p:=⟨q.heap.size,0,none⟩) (by simp)];simp[go_sem]))
    |(go_at_call 149;have yD:=yH;guard_target=~Calls prog 149 #[Value.func (Fn.func 129) #[Value.agg #[Value.slice a l.length c,Value.slice b i.length d]] #[]] m _;refine(HO.o m x).mono ?_;rintro e y ⟨yJ,rfl,f,t⟩;obtain⟨au,cu,rfl,_⟩:=Gl f;have C:Below q.heap.size q y:=x.trans (t.mono (by first|omega|(simp;omega)));have I:=EH d0 C S;have E:m.heap.size<=y.heap.size:=(by have:=t.size;first|omega|(simp at this;omega));have L:D<y.heap.size:=Zr K E;have f:y.ownsRow m.heap.size 9 1 (.slice au i.length cu) i.length (i.map Value.string):=f.mono (by first|omega|simp);have N:=CQ r t;have yI:=(t.cell (p:=⟨q.heap.size,0,none⟩) (by simp;omega)).trans yH)
    |(go_at_call 149;guard_target=~Calls prog 149 #[Value.func (Fn.func 129) #[Value.agg #[Value.slice a l.length c,Value.slice b i.length d]] #[]] m _;refine(HO.o m x).mono ?_;rintro e y ⟨yJ,rfl,f,t⟩;obtain⟨au,cu,rfl,_⟩:=Gl f;have C:Below q.heap.size q y:=x.trans (t.mono (by first|omega|(simp;omega)));have I:=EH d0 C S;have E:m.heap.size<=y.heap.size:=(by have:=t.size;first|omega|(simp at this;omega));have L:D<y.heap.size:=Zr K E;have f:y.ownsRow m.heap.size 9 1 (.slice au i.length cu) i.length (i.map Value.string):=f.mono (by first|omega|simp);have N:=CQ r t)
    |(go_at_call 149;guard_target=~Calls prog 149 #[Value.func (Fn.func 129) #[Value.agg #[Value.slice a l.length c,Value.slice b i.length d]] #[]] (World.alloc m _) _;refine(HO.o (m.alloc _) (x.alloc O _)).mono ?_;rintro e y ⟨yJ,rfl,f,t⟩;obtain⟨au,cu,rfl,_⟩:=Gl f;have C:Below q.heap.size q y:=(x.alloc O _).trans (t.mono (by first|omega|(simp;omega)));have I:=EH d0 C S;have E:m.heap.size<=y.heap.size:=(by have:=t.size;first|omega|(simp at this;omega));have L:D<y.heap.size:=Zr K E;have f:y.ownsRow m.heap.size 9 1 (.slice au i.length cu) i.length (i.map Value.string):=f.mono (by first|omega|simp);have N:=CQ (CQ r ((Below.refl m.heap.size m).alloc (Zx) (.cells #[.string A] 9))) t;have yG:y.cell? (Ze (m.heap.size) 0)=some (.string A):=(by rw[t.cell (p:=⟨m.heap.size,0,none⟩) (by simp)];simp[go_sem]))
    |(have yD:=yI;refine step_append_lies y (by rfl) (.tmp 28) (.tmp 30) 22 (by rfl) m.heap.size 9 i0 Zd 1 16 underlying22 hi zX zY zZ rfl (by decide) (.slice au i.length cu) i.length (i.map Value.string) (by rfl) f ⟨q.heap.size,0,none⟩ 1 1 [.string A] (by rfl) rfl (fun j u U=>by cases j with|zero=>(simp at U;subst U;simpa [Go.WideShapes.add_plain]using yI)|succ j=>simp at U) (fun u hu=>by simp at hu;subst hu;rfl) (by omega) (by unfold maxLen;omega) (by omega) E _ rfl ?_;intro H n z G h Q Z;have F:z.cell? (Ze D 0)=some (.slice a l.length c)/\z.cell? (Ze D 1)=some (.slice b i.length d):=⟨h.cell I.1 (fun e=>by have:=(f.lt D e.symm).1;omega),h.cell I.2 (fun e=>by have:=(f.lt D e.symm).1;omega)⟩;have zG:=Hm (v:=.slice av l.length cv) f (fun g hg=>(r.lt g hg).2);have V:=N.kept h zG;have zM:=h.size;have J:=C;have y0:=h.cell ((J.cell (p:=⟨w.heap.size+1,0,none⟩) P).trans q0) (fun e=>by have:=(f.lt (w.heap.size+1) e.symm).1;omega);have y1:=h.cell ((J.cell (p:=⟨w.heap.size+1,1,none⟩) P).trans q1) (fun e=>by have:=(f.lt (w.heap.size+1) e.symm).1;omega);have yf:∀o,z.frozen? ⟨w.heap.size+1,o,none⟩=false:=(fun o=>(h.frozen_far ⟨w.heap.size+1,o,none⟩ (by simp;omega) (fun e=>by have:=(f.lt (w.heap.size+1) e.symm).1;omega)).trans ((J.frozen (p:=⟨w.heap.size+1,o,none⟩) P).trans (qf o))))
    |(have yD:=yG;refine step_append_lies y (by rfl) (.tmp 28) (.tmp 30) 22 (by rfl) m.heap.size 9 i0 Zd 1 16 underlying22 hi zX zY zZ rfl (by decide) (.slice au i.length cu) i.length (i.map Value.string) (by rfl) f ⟨m.heap.size,0,none⟩ 1 1 [.string A] (by rfl) rfl (fun j u U=>by cases j with|zero=>(simp at U;subst U;simpa [Go.WideShapes.add_plain]using yG)|succ j=>simp at U) (fun u hu=>by simp at hu;subst hu;rfl) (by omega) (by unfold maxLen;omega) (by omega) E _ rfl ?_;intro H n z G h Q Z;have F:z.cell? (Ze D 0)=some (.slice a l.length c)/\z.cell? (Ze D 1)=some (.slice b i.length d):=⟨h.cell I.1 (fun e=>by have:=(f.lt D e.symm).1;omega),h.cell I.2 (fun e=>by have:=(f.lt D e.symm).1;omega)⟩;have zG:=Hm (v:=.slice av l.length cv) f (fun g hg=>(r.lt g hg).2);have V:=N.kept h zG;have zM:=h.size;have J:=C;have y0:=h.cell ((J.cell (p:=⟨w.heap.size+1,0,none⟩) P).trans q0) (fun e=>by have:=(f.lt (w.heap.size+1) e.symm).1;omega);have y1:=h.cell ((J.cell (p:=⟨w.heap.size+1,1,none⟩) P).trans q1) (fun e=>by have:=(f.lt (w.heap.size+1) e.symm).1;omega);have yf:∀o,z.frozen? ⟨w.heap.size+1,o,none⟩=false:=(fun o=>(h.frozen_far ⟨w.heap.size+1,o,none⟩ (by simp;omega) (fun e=>by have:=(f.lt (w.heap.size+1) e.symm).1;omega)).trans ((J.frozen (p:=⟨w.heap.size+1,o,none⟩) P).trans (qf o))))
    |(refine step_append_lies (y.alloc (.cells #[.string A] 9)) (by rfl) (.tmp 28) (.tmp 30) 22 (by rfl) m.heap.size 9 i0 Zd 1 16 underlying22 hi zX zY zZ rfl (by decide) (.slice au i.length cu) i.length (i.map Value.string) (by rfl) (f.alloc _) ⟨y.heap.size,0,none⟩ 1 1 [.string A] (by rfl) rfl (fun j u U=>by cases j with|zero=>(simp at U;subst U;simp[Go.WideShapes.add_plain])|succ j=>simp at U) (fun u hu=>by simp at hu;subst hu;rfl) (by omega) (by unfold maxLen;omega) (by omega) (by simp;omega) _ rfl ?_;intro H n z G h Q Z;have F:z.cell? (Ze D 0)=some (.slice a l.length c)/\z.cell? (Ze D 1)=some (.slice b i.length d):=⟨h.cell (EH I (Zy) L).1 (fun e=>by have:=(f.lt D e.symm).1;omega),h.cell (EH I (Zy) L).2 (fun e=>by have:=(f.lt D e.symm).1;omega)⟩;have zG:=Hm (v:=.slice av l.length cv) f (fun g hg=>(r.lt g hg).2);have V:=(N.alloc _).kept h zG;have zM:=h.size;have J:=(C.alloc (by omega) (.cells #[.string A] 9));have y0:=h.cell ((J.cell (p:=⟨w.heap.size+1,0,none⟩) P).trans q0) (fun e=>by have:=(f.lt (w.heap.size+1) e.symm).1;omega);have y1:=h.cell ((J.cell (p:=⟨w.heap.size+1,1,none⟩) P).trans q1) (fun e=>by have:=(f.lt (w.heap.size+1) e.symm).1;omega);have yf:∀o,z.frozen? ⟨w.heap.size+1,o,none⟩=false:=(fun o=>(h.frozen_far ⟨w.heap.size+1,o,none⟩ (by simp;omega) (fun e=>by have:=(f.lt (w.heap.size+1) e.symm).1;omega)).trans ((J.frozen (p:=⟨w.heap.size+1,o,none⟩) P).trans (qf o)))))
 all_goals
  have zI:Below w.heap.size w z:=(zC.o.trans (J.mono zC.o.size)).grown h (Zm zC.o.size J.size) (fun k hk=>by have:=(f.lt k hk).1;have:=zC.o.size;omega);have zS:z.ownsRow w.heap.size 9 1 (Za H (i++[A]).length n) (i++[A]).length ((i++[A]).map Value.string):=by have:=World.ownsRow.mono G (show w.heap.size<=m.heap.size by have:=zC.o.size;omega);simpa using this
  have zB:=World.ownsRow.mono V (show w.heap.size+2<=q.heap.size by omega);have zA:=World.ownsRow.mono G (show w.heap.size+2<=m.heap.size by omega);have zJ:(Value.slice av l.length cv).ownBlock=none∨(Value.slice av l.length cv).ownBlock≠(Za H (i++[A]).length n).ownBlock:=by rw[show(i++[A]).length=i.length+1 by simp];exact Hm (v:=.slice av l.length cv) G (fun g hg=>(r.lt g hg).2)
  have HF:Hid (((z.setCell (Ze (w.heap.size+1) 0) (.slice av l.length cv)).setCell (Ze (w.heap.size+1) 1) (Za H (i.length+1) n)).ownsRow w.heap.size 9 1 (.slice av l.length cv) l.length (l.map Value.string)/\
   ((z.setCell (Ze (w.heap.size+1) 0) (.slice av l.length cv)).setCell (Ze (w.heap.size+1) 1) (Za H (i.length+1) n)).ownsRow w.heap.size 9 1 (Za H (i++[A]).length n) (i++[A]).length ((i++[A]).map Value.string)/\
   Zz w ((z.setCell (Ze (w.heap.size+1) 0) (.slice av l.length cv)).setCell (Ze (w.heap.size+1) 1) (Za H (i.length+1) n))):=
   ⟨(ownsRow_setCell_below (ownsRow_setCell_below zB (by simp) _) (by simp) _).mono (by omega),by
     have:=(ownsRow_setCell_below (ownsRow_setCell_below zA (a:=⟨w.heap.size+1,0,none⟩) (by simp) (.slice av l.length cv)) (a:=⟨w.heap.size+1,1,none⟩) (by simp) (Za H (i.length+1) n)).mono (show w.heap.size<=w.heap.size+2 by omega);simpa using this,(zI.setCell (p:=⟨w.heap.size+1,0,none⟩) (by simp) _).setCell (p:=⟨w.heap.size+1,1,none⟩) (by simp) _⟩
  have HA:=Yx zJ;clear G h Q V zS zB zA zJ zI J HK HO zC F zO;go_wp2;refine bodyPost_ret (v:=.tuple #[.agg #[.slice av l.length cv,Za H (i.length+1) n],Zf]) (by simp[results,results108,go_sem,y0,y1]) rfl ⟨_,Za H (i++[A]).length n,by simp,HF.o.1,HF.o.2.1,HA.o,HF.o.2.2⟩
end
section
attribute [local go_sem↓] Go.wp_at_zero Go.wp_at_succ
theorem Ri(a b:Zk)(c d:Nat)(f g:Zl)(j:Zi)(w:Zh)(I:Ad w w.heap.size a f)(H:Ad w w.heap.size b g)(G:f.length<=1048576)(C:g.length<=1048576)
 (J:∀s∈f,s.size<=1048576) (D:∀s∈g,s.size<=1048576) (M:EG f g j≠0):
 Calls prog 108 #[.agg #[.slice a f.length c,.slice b g.length d],.string j] w fun e T=>e=.returned (.tuple #[.agg #[Zc,Zc],Zg (EG f g j)])/\Zz w T:=by
 have x:Below w.heap.size w ((w.alloc (.cells #[.slice a f.length c,.slice b g.length d] 38)).alloc (.cells #[Zc,Zc] 38)):=(Zy).alloc (by simp) _;go_enter func108,ntmps108;go_wp2_with fail;refine(Gt a b c d f g _ (I.af x) (H.af x) G C J D).mono ?_;rintro e r ⟨rfl,i⟩;have m:=x.trans (i.mono (by simp;omega));have A:=i.size;simp at A
 have O:r.cell? (Ze (w.heap.size) 0)=some (.slice a f.length c):=by rw[i.cell (p:=⟨w.heap.size,0,none⟩) (by simp;omega)];simp[go_sem]
 have P:r.cell? (Ze (w.heap.size) 1)=some (.slice b g.length d):=by rw[i.cell (p:=⟨w.heap.size,1,none⟩) (by simp;omega)];simp[go_sem]
 have r0:r.cell? (Ze (w.heap.size+1) 0)=some Zc:=by rw[i.cell (p:=⟨w.heap.size+1,0,none⟩) (by simp)];simp[go_sem]
 have z:r.cell? (Ze (w.heap.size+1) 1)=some Zc:=by rw[i.cell (p:=⟨w.heap.size+1,1,none⟩) (by simp)];simp[go_sem]
 have F:∀o,r.frozen? ⟨w.heap.size+1,o,none⟩=false:=fun o=>by rw[i.frozen (p:=⟨w.heap.size+1,o,none⟩) (by simp)];simp[go_sem]
 clear i I H J D;cases hok:DA f g with
 |false=>
  have q:EG f g j=1:=by simp[EG,hok]
  go_wp2;exact bodyPost_ret (v:=.tuple #[.agg #[Zc,Zc],Zg 1]) (by simp[results,results108,go_sem,r0,z]) rfl ⟨by rw[q],(m.setCell (p:=⟨w.heap.size+1,0,none⟩) (by simp) _).setCell (p:=⟨w.heap.size+1,1,none⟩) (by simp) _⟩
 |true=>
  by_cases he:j.size<=5000
  ·have Q:f.length+g.length=4000:=by apply Classical.byContradiction;intro h;exact M (by simp[EG,hok,he,h])
   have q:EG f g j=2:=by simp[EG,hok,he,Q]
   have L:decide ((5000:Int)<(j.size:Int))=false:=by simp;omega
   have y:=Yx (Zn r0 (Zn z F));clear r0 z F;go_wp2_with fail;refine(GF a b f.length g.length c d _).mono ?_;rintro e t ⟨rfl,k⟩;have B:=m.trans (k.mono m.size)
   have l:Hid (t.cell? (Ze (w.heap.size+1) 0)=some Zc/\t.cell? (Ze (w.heap.size+1) 1)=some Zc/\∀o,t.frozen? ⟨w.heap.size+1,o,none⟩=false):=⟨(k.cell (p:=⟨w.heap.size+1,0,none⟩) (by simp;omega)).trans y.o.1,(k.cell (p:=⟨w.heap.size+1,1,none⟩) (by simp;omega)).trans y.o.2.1,fun o=>(k.frozen (p:=⟨w.heap.size+1,o,none⟩) (by simp;omega)).trans (y.o.2.2 o)⟩;have N:=k.size;clear k y O P;go_wp2_with fail
   refine(Jl a b f.length g.length c d _ G C).mono ?_;rintro e E ⟨rfl,u⟩;have K:Below w.heap.size w E:=(B.alloc B.size _).trans (u.mono (by simp;omega));have n:Below t.heap.size t E:=(Zy).trans (u.mono (by simp));have R:=(n.cell (p:=⟨w.heap.size+1,0,none⟩) (by simp;omega)).trans l.o.1;have S:=(n.cell (p:=⟨w.heap.size+1,1,none⟩) (by simp;omega)).trans l.o.2.1
   have V:∀o,E.frozen? ⟨w.heap.size+1,o,none⟩=false:=fun o=>(n.frozen (p:=⟨w.heap.size+1,o,none⟩) (by simp;omega)).trans (l.o.2.2 o);have U:((f.length:Int)+g.length==4000)=true:=by simp;omega
   clear u n l;go_wp2;exact bodyPost_ret (v:=.tuple #[.agg #[Zc,Zc],Zg 2]) (by simp[results,results108,go_sem,R,S]) rfl ⟨by rw[q],(K.setCell (p:=⟨w.heap.size+1,0,none⟩) (by simp) _).setCell (p:=⟨w.heap.size+1,1,none⟩) (by simp) _⟩
  ·have q:EG f g j=1:=by simp[EG,hok,he]
   have L:decide ((5000:Int)<(j.size:Int))=true:=by simp;omega
   go_wp2;exact bodyPost_ret (v:=.tuple #[.agg #[Zc,Zc],Zg 1]) (by simp[results,results108,go_sem,r0,z]) rfl ⟨by rw[q],(m.setCell (p:=⟨w.heap.size+1,0,none⟩) (by simp) _).setCell (p:=⟨w.heap.size+1,1,none⟩) (by simp) _⟩
end
theorem Tm(a b:Zk)(c d:Nat)(f h:Zl)(w:Zh)(M:Ad w w.heap.size a f)(L:Ad w w.heap.size b h)(ha:a=none->f.length=0/\c=0)(hb:b=none->h.length=0/\d=0)(hl:f.length<=1048576)(zA:h.length<=1048576):
 Calls prog 72 #[.agg #[.slice a f.length c,.slice b h.length d]] w fun e S=>∃g u,e=.returned (Za g (f++h).length u)/\S.ownsRow w.heap.size 9 1 (Za g (f++h).length u) (f++h).length ((f++h).map Value.string)/\Zz w S:=by
 obtain⟨N,K,y,z,A⟩:=info_parts CP;obtain⟨W,m⟩:∃W,W=w.alloc (.cells #[.slice a f.length c,.slice b h.length d] 38):=⟨_,rfl⟩;have o:=(AJ m).1;have zW:=(AJ m).2.1;have F:=(AJ m).2.2;have B:Below W.heap.size W (W.alloc (.cells #[] 9)):=Zy;have P:(W.alloc (.cells #[] 9)).drew.ownsRow (w.heap.size+1) 9 1 (Za (w.heap.size+1) 0 0) 0 (([]:Zl).map Value.string):=by have h1:=World.ownsRow_lit (base:=w.heap.size+1) (e:=9) (size:=1) W #[] 0 (by omega) (by unfold maxLen;omega) rfl;rw[zW]at h1;exact h1
 have R:=(Ad.below M (o.trans (B.drew.mono o.size))).fe;have H:=Aa.below F B;obtain⟨y0,y1⟩:=Aa.c2 F 0 1;obtain⟨z0,z1⟩:=Aa.c2 H 0 1;have I:=Yx m;have J:=Yx (Zn H (o.trans (B.mono o.size)));have X:Hid (Ad w w.heap.size b h):=L;clear m F H M L;go_enter func72,ntmps72;go_upto_region 1 with fail;rw[←I.o];clear I
 go_region_law (first
  |(refine Fk (W.alloc (.cells #[] 9)).drew rfl (.tmp 3) (.tmp 5) 22 rfl (w.heap.size+1) 9 N Zd 16 underlying22 K y z A rfl (w.heap.size+1) 0 0 [] rfl P a f.length c f rfl rfl ha R (by unfold maxLen;omega) (by omega) (by simp<;>omega) ?_;intro D p E l j q s;simp only[Nat.zero_add,List.nil_append]at l;have G:Aa E w.heap.size [.slice a f.length c,.slice b h.length d]:=(Aa.same J.o.1 (j.block _ (by simp<;>omega) (by simp<;>omega)));have n:Below w.heap.size w E:=(J.o.2.drew.grown j (by simp<;>omega) (fun k C=>by cases C;omega));have Y:=(G 0 _ rfl).1;have Z:=(G 1 _ rfl).1;have Q:=(Ad.below X.o n).fe;have U:=j.size;simp at U)
  |(refine Fk E rfl (.tmp 6) (.tmp 8) 22 rfl (w.heap.size+1) 9 N Zd 16 underlying22 K y z A rfl D f.length p f rfl l b h.length d h rfl rfl hb Q (by unfold maxLen;omega) (by omega) (by omega) ?_;intro O i T x v r t))
 all_goals
  have l6:w.heap.size+1<=D:=(l.lt D rfl).1;have V:Hid (T.ownsRow w.heap.size 9 1 (Za O (f.length+h.length) i) (f.length+h.length) ((f++h).map Value.string)/\Zz w T):=⟨x.mono (by omega),n.grown v n.size (fun k C=>by cases C;omega)⟩;clear l j q s G n Y Z Q U x v r t P R y0 y1 z0 z1;go_wp2;go_ret;rw[List.length_append];exact⟨O,i,rfl,V.o⟩
structure JZ (w V:Zh) (u v:Value):Prop where
 b0:V.cell? (Ze (w.heap.size) 0)=some u
 b1:V.cell? (Ze (w.heap.size) 1)=some v
 r0:V.cell? (Ze (w.heap.size+1) 0)=some Zc
 r1:V.cell? (Ze (w.heap.size+1) 1)=some Zc
 f:∀o,V.frozen? ⟨w.heap.size+1,o,none⟩=false
 cz:Below w.heap.size w V
 le:w.heap.size+2<=V.heap.size
theorem JZ.alloc{w V:Zh}{u v:Value}(h:JZ w V u v)(o:Obj):JZ w (V.alloc o) u v:=by
 have a:=(Below.refl V.heap.size V).alloc (Zx) o;have:=h.le;exact⟨(a.cell (p:=⟨w.heap.size,0,none⟩) (by simp;omega)).trans h.b0,(a.cell (p:=⟨w.heap.size,1,none⟩) (by simp;omega)).trans h.b1,(a.cell (p:=⟨w.heap.size+1,0,none⟩) (by simp;omega)).trans h.r0,(a.cell (p:=⟨w.heap.size+1,1,none⟩) (by simp;omega)).trans h.r1,
  fun o=>(a.frozen (p:=⟨w.heap.size+1,o,none⟩) (by simp;omega)).trans (h.f o),h.cz.alloc h.cz.size o,by simp;omega⟩
theorem JZ.drew{w V:Zh}{u v:Value}(h:JZ w V u v):JZ w V.drew u v:=⟨h.b0,h.b1,h.r0,h.r1,h.f,h.cz.drew,h.le⟩
theorem JZ.grown{w V b:Zh}{u v:Value}{q:Nat}(h:JZ w V u v)(a:V.grownBy b (some q))(d:w.heap.size+2<=q):JZ w b u v:=by
 have:=h.le;have:=a.size;exact⟨a.cell h.b0 (by simp;omega),a.cell h.b1 (by simp;omega),a.cell h.r0 (by simp;omega),a.cell h.r1 (by simp;omega),
  fun o=>(a.frozen_far ⟨w.heap.size+1,o,none⟩ (by simp;omega) (by simp;omega)).trans (h.f o),h.cz.grown a h.cz.size (fun k c=>by cases c;omega),by omega⟩
theorem Tp(g h c d:Nat)(j k:Zl)(w:Zh)(hr:Ad w w.heap.size (some ⟨g,0,none⟩) j)(Q:Ad w w.heap.size (some ⟨h,0,none⟩) k)(hl:j.length<=1048576)(zH:k.length<=1048576):
 Calls prog 75 #[.agg #[Za g j.length c,Za h k.length d]] w fun e w'=>∃x cx y cy,e=.returned (.agg #[Za x j.length cx,Za y k.length cy])/\
  w'.ownsRow w.heap.size 9 1 (Za x j.length cx) j.length (j.map Value.string)/\w'.ownsRow w.heap.size 9 1 (Za y k.length cy) k.length (k.map Value.string)/\x≠y/\Zz w w':=by
 obtain⟨R,N,B,C,D⟩:=info_parts CP;have zB:Below w.heap.size w ((w.alloc (.cells #[Za g j.length c,Za h k.length d] 38)).alloc (.cells #[Zc,Zc] 38)):=(Zy).alloc (by simp) _;obtain⟨W,hW⟩:∃W,W=(w.alloc (.cells #[Za g j.length c,Za h k.length d] 38)).alloc (.cells #[Zc,Zc] 38):=⟨_,rfl⟩;have P:JZ w W (Za g j.length c) (Za h k.length d):=by rw[hW];exact⟨by simp[go_sem],by simp[go_sem],by simp[go_sem],by simp[go_sem],fun o=>by simp[go_sem],zB,by simp⟩
 have HW:=Yx hW;have z:=Yx P;go_enter func75,ntmps75;go_wp2_with fail;rw[←HW.o];obtain⟨b0,b1,r0,r1,f0,_,zI⟩:=P;obtain⟨a0,a1,_,_,_,_,_⟩:=z.o.alloc (.cells #[] 9);obtain⟨zF,zG,_,_,_,_,_⟩:=(z.o.alloc (.cells #[] 9)).alloc (.cells #[] 9);clear hW zB HW
 have oA:(W.alloc (.cells #[] 9)).drew.ownsRow (w.heap.size+2) 9 1 (Za W.heap.size 0 0) 0 (([]:Zl).map Value.string):=World.ownsRow_lit W #[] 0 (by omega) (by unfold maxLen;omega) rfl
 have H:((W.alloc (.cells #[] 9)).alloc (.cells #[] 9)).drew.ownsRow (w.heap.size+2) 9 1 (Za W.heap.size 0 0) 0 (([]:Zl).map Value.string):=World.ownsRow.alloc (World.ownsRow_lit W #[] 0 (by omega) (by unfold maxLen;omega) rfl) _;have I:((W.alloc (.cells #[] 9)).alloc (.cells #[] 9)).drew.ownsRow (w.heap.size+2) 9 1 (Za (W.heap.size+1) 0 0) 0 (([]:Zl).map Value.string):=by have h1:=World.ownsRow_lit (base:=w.heap.size+2) (e:=9) (size:=1) (W.alloc (.cells #[] 9)) #[] 0 (by simp;omega) (by unfold maxLen;omega) rfl;rw[World.size_alloc]at h1;exact h1
 have zC:=(hr.below (z.o.alloc (.cells #[] 9)).drew.cz).cells;have zE:=(Q.below (z.o.alloc (.cells #[] 9)).drew.cz).cells;have G:=(hr.below ((z.o.alloc (.cells #[] 9)).alloc (.cells #[] 9)).drew.cz).cells;have zA:=(Q.below ((z.o.alloc (.cells #[] 9)).alloc (.cells #[] 9)).drew.cz).cells
 go_region_law (first
  |(guard_target=if Region.wanted _ _=true then Oper.wp _ _ _ (W.alloc (.cells #[] 9)).drew _ _ else _;refine Cx (W.alloc (.cells #[] 9)).drew rfl (.tmp 3) (.tmp 5) 22 rfl (w.heap.size+2) 9 R Zd 16 underlying22 N B C D rfl (W.heap.size) 0 0 [] rfl oA ⟨g,0,none⟩ j.length c j rfl rfl zC (by unfold maxLen;omega) (by omega) (by first|omega|(simp;omega)) ?_;intro S F K u m n L;simp only[Nat.zero_add,List.nil_append]at u;have J:=m.size;simp at J n;have l:=(z.o.alloc _).drew.grown m (by omega);have c0:=l.b0;have c1:=l.b1;have d0:=(l.alloc (.cells #[] 9)).b0;have d1:=(l.alloc (.cells #[] 9)).b1;have T:=J)
  |(guard_target=if Region.wanted _ _=true then Oper.wp _ _ _ ((W.alloc (.cells #[] 9)).alloc (.cells #[] 9)).drew _ _ else _;refine Cx ((W.alloc (.cells #[] 9)).alloc (.cells #[] 9)).drew rfl (.tmp 3) (.tmp 5) 22 rfl (w.heap.size+2) 9 R Zd 16 underlying22 N B C D rfl (W.heap.size) 0 0 [] rfl H ⟨g,0,none⟩ j.length c j rfl rfl G (by unfold maxLen;omega) (by omega) (by first|omega|(simp;omega)) ?_;intro S F K u m n L;simp only[Nat.zero_add,List.nil_append]at u;have J:=m.size;simp at J n;have l:=((z.o.alloc _).alloc _).drew.grown m (by omega);have c0:=l.b0;have c1:=l.b1;have s:=I.kept m (.inr (by simp[Value.ownBlock]));have U:=J)
  |(guard_target=if Region.wanted _ _=true then Oper.wp _ _ _ ((W.alloc (.cells #[] 9)).alloc (.cells #[] 9)).drew _ _ else _;refine Cx ((W.alloc (.cells #[] 9)).alloc (.cells #[] 9)).drew rfl (.tmp 3) (.tmp 5) 22 rfl (w.heap.size+2) 9 R Zd 16 underlying22 N B C D rfl (W.heap.size+1) 0 0 [] rfl I ⟨g,0,none⟩ j.length c j rfl rfl G (by unfold maxLen;omega) (by omega) (by first|omega|(simp;omega)) ?_;intro S F K u m n L;simp only[Nat.zero_add,List.nil_append]at u;have J:=m.size;simp at J n;have l:=((z.o.alloc _).alloc _).drew.grown m (by omega);have c0:=l.b0;have c1:=l.b1;have s:=H.kept m (.inr (by simp[Value.ownBlock]));have V:=J)
  |(have t:=T;refine Cx (K.alloc (.cells #[] 9)) rfl (.tmp 7) (.tmp 9) 22 rfl (w.heap.size+2) 9 R Zd 16 underlying22 N B C D rfl (K.heap.size) 0 0 [] rfl (World.ownsRow_lit K #[] 0 (by omega) (by unfold maxLen;omega) rfl) ⟨h,0,none⟩ k.length d k rfl rfl (Q.below (l.alloc _).cz).cells (by unfold maxLen;omega) (by omega) (by first|omega|(simp;omega)) ?_;intro E r w9 f b i A;simp only[Nat.zero_add,List.nil_append]at f;have X:=b.size;(try simp at X i);have Y:=(u.alloc _).kept b (.inr (by simp[Value.ownBlock];omega));have M:=f;have O:S≠E:=(by omega);have q:=(l.alloc _).grown b (by omega);have y0:=q.r0;have y1:=q.r1;have yf:=q.f)
  |(have t:=U;refine Cx K rfl (.tmp 7) (.tmp 9) 22 rfl (w.heap.size+2) 9 R Zd 16 underlying22 N B C D rfl (W.heap.size+1) 0 0 [] rfl s ⟨h,0,none⟩ k.length d k rfl rfl (Q.below l.cz).cells (by unfold maxLen;omega) (by omega) (by first|omega|(simp;omega)) ?_;intro E r w9 f b i A;simp only[Nat.zero_add,List.nil_append]at f;have X:=b.size;(try simp at X i);have Y:=u.kept b (.inr (by simp[Value.ownBlock];omega));have M:=f;have O:S≠E:=(by omega);have q:=l.grown b (by omega);have y0:=q.r0;have y1:=q.r1;have yf:=q.f)
  |(have t:=V;refine Cx K rfl (.tmp 7) (.tmp 9) 22 rfl (w.heap.size+2) 9 R Zd 16 underlying22 N B C D rfl (W.heap.size) 0 0 [] rfl s ⟨h,0,none⟩ k.length d k rfl rfl (Q.below l.cz).cells (by unfold maxLen;omega) (by omega) (by first|omega|(simp;omega)) ?_;intro E r w9 f b i A;simp only[Nat.zero_add,List.nil_append]at f;have X:=b.size;(try simp at X i);have Y:=u.kept b (.inr (by simp[Value.ownBlock];omega));have M:=f;have O:S≠E:=(by omega);have q:=l.grown b (by omega);have y0:=q.r0;have y1:=q.r1;have yf:=q.f))
 all_goals
  have Z:=Yx (Zn Y (Zn M (Zn O q)));clear q;clear Y M O oA H I zC zE G zA hr Q z;go_wp2;refine bodyPost_ret (v:=.agg #[Za S j.length F,Za E k.length r]) (by simp[results,results75,go_sem,y0,y1]) rfl ⟨_,_,_,_,rfl,?_,?_,Z.o.2.2.1,?_⟩
  ·exact(ownsRow_setCell_below (ownsRow_setCell_below Z.o.1 (a:=⟨w.heap.size+1,0,none⟩) (by simp) _) (a:=⟨w.heap.size+1,1,none⟩) (by simp) _).mono (by omega)
  ·exact(ownsRow_setCell_below (ownsRow_setCell_below Z.o.2.1 (a:=⟨w.heap.size+1,0,none⟩) (by simp) _) (a:=⟨w.heap.size+1,1,none⟩) (by simp) _).mono (by omega)
  ·exact(Z.o.2.2.2.cz.setCell (p:=⟨w.heap.size+1,0,none⟩) (by simp) _).setCell (p:=⟨w.heap.size+1,1,none⟩) (by simp) _
end Go.Proofs.YtckmnfhmoankmaaGreatDoor
