import Derived.Test.YtcankpdbabaacaaGreatDoorX24
import Derived.Laws.Tables
set_option maxRecDepth 100000
set_option maxHeartbeats 16000000
namespace Go.Proofs.YtcankpdbabaacaaGreatDoor
open Go.ChangeShapes Go.WideShapes Go.ChangeAt Go.RowKit _root_.Go.Proofs.Tryz
variable{v:Vd}{r:Rs}{c j a:Int}{b s:Zi}{n B free:Nat}{u:UR}{w V X:Zh}{S U T P L Q M:Value}
structure Ed where
 kd:Int
 s:Zi
 nm:Zi
 V:Int
 tx:Zi
 rf:Zl
def Ed.ok(e:Ed)(wd:Int):Bool:=Cn e.kd e.s e.nm e.V e.tx e.rf wd
def Ed.cn(e:Ed)(wd:Int):Zi:=Cr e.kd e.s e.nm e.V e.tx e.rf wd
def Ed.no(e:Ed)(v:Vd)(c:Int)(a b:Zi):Prop:=GJ v.wd v.F v.G v.E v.A v.ps v.ls e.kd e.s e.nm e.V e.tx e.rf c a b
def Ed.yes(e:Ed)(v:Vd)(r:Rs):Prop:=FO v.wd v.F v.G v.E v.A v.ps v.ls e.kd e.s e.nm e.V e.tx e.rf r
def Ed.bigB(e:Ed)(v:Vd)(r:Rs):Bool:=decide (e.kd=1)&&decide (v.U<Acm v.wd r.A)
def Ed.jd(e:Ed)(v:Vd)(r:Rs):Prop:=e.bigB v r=true
def Ed.held(e:Ed)(r:Rs):Zi:=if e.kd=1 then r.sm else e.s
structure Dd where
 c:Int
 v:Vd
 s:Zi
 n:Int
 a:Zi
 b:Zi
def dno(c:Int)(v:Vd)(a b:Zi):Dd:=⟨c,v,⟨#[]⟩,0,a,b⟩
noncomputable def doV (v:Vd) (e:Ed) (r:Rs):Vd:={v with C:=v.C++[e.cn v.wd],F:=r.F,G:=r.G,E:=r.E,A:=r.A,ps:=r.ps,ls:=r.ls,D:=shQ v.H r.A v.D v.ms (e.held r)}
noncomputable def dyes (v:Vd) (e:Ed) (r:Rs):Dd:=⟨0,doV v e r,r.sm,r.le,⟨#[]⟩,⟨#[]⟩⟩
def Nr(v:Vd)(e:Ed)(c:Int)(a b:Zi):Prop:=
 (e.ok v.wd=false/\c=1/\a=⟨#[]⟩/\b=⟨#[]⟩)\/(e.ok v.wd=true/\(e.no v c a b\/(a=⟨#[]⟩/\b=⟨#[]⟩/\∃r,e.yes v r/\((e.jd v r/\c=8)\/(¬e.jd v r/\v.ss.length+v.C.length=4000/\c=9)))))
def SP(v:Vd)(e:Ed)(r:Rs):Prop:=e.ok v.wd=true/\e.yes v r/\¬e.jd v r/\¬v.ss.length+v.C.length=4000
def DTo(v:Vd)(e:Ed)(d:Dd):Prop:=(¬FY v/\d=dno 1 v0 ⟨#[]⟩ ⟨#[]⟩)\/(FY v/\((∃c a b,Nr v e c a b/\d=dno c v a b)\/∃r,SP v e r/\d=dyes v e r))
theorem DZ.gw(h:DZ v r):Hu v.wd v.F v.G v.E v.A v.ps v.ls:=by have a:Hu v.wd r.F r.G r.E r.A r.ps r.ls:=h.run.ok (GW h.wd.1 h.wd.2);obtain⟨⟨_,b,c,d⟩,e,f,g⟩:=h.same;rw[b,c,d,e,f,g]at a;exact a
theorem Nr.cj(m:DZ v r){e:Ed}{a g i:Zi}(h:Nr v e c a b)(k:Nr v e j g i):c=j/\a=g/\b=i:=by
 have f:=m.gw.bx.nd;rcases h with⟨d,rfl,rfl,rfl⟩|⟨d,h|⟨rfl,rfl,n,l,h⟩⟩<;>rcases k with⟨k1,rfl,rfl,rfl⟩|⟨k1,k|⟨rfl,rfl,r2,ky,k⟩⟩
 .exact⟨rfl,rfl,rfl⟩
 .rw[d]at k1;cases k1
 .rw[d]at k1;cases k1
 .rw[d]at k1;cases k1
 .exact GJ.cj f h k
 .exact(GJ.not f h ky).elim
 .rw[d]at k1;cases k1
 .exact(GJ.not f k l).elim
 .obtain rfl:=FO.cj l ky;rcases h with⟨h,rfl⟩|⟨h,_,rfl⟩<;>rcases k with⟨k,rfl⟩|⟨k,_,rfl⟩
  .exact⟨rfl,rfl,rfl⟩
  .exact absurd h k
  .exact absurd k h
  .exact⟨rfl,rfl,rfl⟩
theorem Nr.not(g:DZ v r){e:Ed}{a:Zi}(h:Nr v e c a b){n:Rs}(k:SP v e n):False:=by
 obtain⟨d,f,l,m⟩:=k;rcases h with⟨i,_⟩|⟨_,h|⟨_,_,o,j,h⟩⟩
 .rw[i]at d;cases d
 .exact GJ.not g.gw.bx.nd h f
 .obtain rfl:=FO.cj j f;rcases h with⟨h,_⟩|⟨_,h,_⟩
  .exact l h
  .exact m h
theorem DTo.cj{e:Ed}{d g:Dd}(h:DTo v e d)(k:DTo v e g):d=g:=by
 rcases h with⟨h,rfl⟩|⟨⟨r,h⟩,i⟩<;>rcases k with⟨k,rfl⟩|⟨k,kk⟩
 .rfl
 .exact absurd k h
 .exact absurd ⟨r,h⟩ k
 .rcases i with⟨c,a,b,f,rfl⟩|⟨j,f,rfl⟩<;>rcases kk with⟨c',a',b',k1,rfl⟩|⟨r2,k1,rfl⟩
  .obtain⟨rfl,rfl,rfl⟩:=f.cj h k1;rfl
  .exact(f.not h k1).elim
  .exact(k1.not h f).elim
  .rw[FO.cj f.2.1 k1.2.1]
theorem Ed.txt_size{e:Ed}{b:Int}(h:e.ok b=true):(e.cn b).size<=5000:=by
 obtain⟨_,_,p⟩:=Io h;unfold Ed.cn Cr;rw[if_pos (show Cn e.kd e.s e.nm e.V e.tx e.rf b=true from h)];show(Dk e.kd.toNat e.s e.nm e.V e.tx e.rf).toArray.size<=5000;have d:=p.sum;have f:=p.name;have g:(if e.kd.toNat=1 then BE e.tx e.rf else []).length<=3000:=by
  split
  .next hk=>
   have a:=BL (p.dv hk);have c:=a.ba;have i:=a.M;rw[BE,List.length_cons,List.length_append,DE];simp only[Array.length_toList];have j:e.tx.data.size=e.tx.size:=rfl;omega
  .simp
 rw[List.size_toArray];unfold Dk BZ;simp only[List.length_append,List.length_cons,List.length_nil,Array.length_toList];have a:e.s.data.size=e.s.size:=rfl;have c:e.nm.data.size=e.nm.size:=rfl;omega
structure RX (wd births:Int) (ks:List Kd) (ps:List Pd) (ls:List Ld):Prop where
 b1:∀k∈ks,1<=k.born/\k.born<=births
 un:∀x∈ks,∀y∈ks,x.born=y.born->x=y
 rs:∀k∈ks,∀r∈k.B,(r.size:Int)=wd
 fx:∀p∈ps,(p.sum.size:Int)=wd
 gl:∀l∈ls,(l.sum.size:Int)=wd
theorem Jk{b:Int}{a:List Kd}(h:Dj b a)(c:Av a s):(s.size:Int)=b:=by obtain⟨u,hu,e⟩:=c;rw[<-e];exact h.sz u hu
theorem RX.step{o B:Int}{u:List Kd}{A:List Pd}{z:List Ld}{H:Int}{E:Zi}{F:Int}{d:Zi}{c:Zl}(h:RX o a u A z)(t:Hu o B j a u A z)(i:FO o B j a u A z H s E F d c r):RX o r.E r.A r.ps r.ls:=by
 have m:∀(x:Ld),(x.sum.size:Int)=o->∀l∈z++[x],(l.sum.size:Int)=o:=fun x n l g=>by
  rcases List.mem_append.1 g with g|g
  .exact h.gl l g
  .rw[List.mem_singleton.1 g];exact n
 rcases i with⟨rfl,q,g,L,I,J,i,rfl⟩|⟨_,q,_,rfl⟩|⟨_,_,rfl⟩|⟨_,q,_,_,rfl⟩|⟨_,_,rfl⟩|⟨_,_,rfl⟩|⟨_,_,_,rfl⟩
 .rcases i with⟨_,_,_,_,rfl,rfl⟩|⟨_,_,_,rfl,rfl⟩
  .exact⟨h.b1,h.un,h.rs,h.fx,m _ (Im _ _ _ t.w1)⟩
  .have v:∀k∈DH u ⟨Bh d c o,a+1,d,c⟩,k=⟨Bh d c o,a+1,d,c⟩\/k∈u:=fun k f=>List.mem_cons.1 ((Ni u _).mem_iff.1 f);have K:=t.az;refine⟨fun k f=> ?_,fun x n y i e=> ?_,fun k f r D=> ?_,h.fx,m _ (Im _ _ _ t.w1)⟩
   .rcases v k f with rfl|f
    .exact⟨by show 1<=a+1;omega,Int.le_refl _⟩
    .have:=h.b1 k f;exact⟨this.1,by show _<=a+1;omega⟩
   .rcases v x n with rfl|n<;>rcases v y i with rfl|i
    .rfl
    .have:=(h.b1 y i).2;have G:a+1=y.born:=e;omega
    .have:=(h.b1 x n).2;have G:x.born=a+1:=e;omega
    .exact h.un x n y i e
   .rcases v k f with rfl|f
    .exact Jk t.bx (q r D)
    .exact h.rs k f r D
 .refine⟨h.b1,h.un,h.rs,fun p C=> ?_,h.gl⟩;have b:p∈Bl A E s:=C;unfold Bl at b;rcases List.mem_append.1 b with b|b
  .rcases List.mem_append.1 b with b|b
   .exact h.fx p (List.mem_filter.1 b).1
   .rw[List.mem_singleton.1 b];exact Jk t.bx q
  .exact h.fx p (List.mem_filter.1 b).1
 .exact⟨h.b1,h.un,h.rs,fun p C=>h.fx p (List.mem_filter.1 C).1,h.gl⟩
 .exact⟨h.b1,h.un,h.rs,h.fx,m _ (Jk t.bx q)⟩
 .exact⟨h.b1,h.un,h.rs,h.fx,fun l g=>h.gl l (List.mem_filter.1 g).1⟩
 .exact⟨h.b1,h.un,h.rs,h.fx,fun l g=>h.gl l (List.mem_filter.1 g).1⟩
 .exact⟨fun k f=>h.b1 k (List.mem_filter.1 f).1,fun x n y i e=>h.un x (List.mem_filter.1 n).1 y (List.mem_filter.1 i).1 e,fun k f=>h.rs k (List.mem_filter.1 f).1,h.fx,h.gl⟩
theorem Ds.rx:∀{xs:Zl} {r r':Rs},Ds a r xs r'->r.ok a->RX a r.E r.A r.ps r.ls->RX a r'.E r'.A r'.ps r'.ls
 |[],r,r',h,_,hx=>by obtain rfl:r'=r:=h;exact hx
 |x::xs,r,r',h,hr,hx=>by obtain⟨d,b,c⟩:=h;exact Ds.rx c (b.ok hr) (hx.step hr b.2)
def UR.and(u r:UR):UR:=⟨r.A,r.H,r.K,r.J,r.ro,r.D,r.ms,u.L++r.L⟩
def CR(v:Vd):UR:=⟨v.A,v.H,v.K,v.J,v.ro,v.D,v.ms,[]⟩
def Ip(ps:List Pd)(ls:List Ld)(births:Int)(u r:UR):Prop:=UTo u.A ps ls births u.H u.K u.J u.ro u.D u.ms r
structure GK (wd births:Int) (ps:List Pd) (ls:List Ld) (free:Nat) (u:UR):Prop where
 ok:XI wd births u.A ps ls u.H u.ro u.D u.ms
 un:∀x∈u.A,∀y∈u.A,x.born=y.born->x=y
 ql:u.D.length<=23200
 ml:u.ms.length<=600
 dl:u.L.length+u.A.length<=600
 df:u.L.length<=free
theorem JY(h:DZ v r):GK v.wd v.E v.ps v.ls (4000 -(v.ss++v.C).length) (CR v):=by
 have a:=h.gw;have c:RX v.wd r.E r.A r.ps r.ls:=h.run.rx (GW h.wd.1 h.wd.2) ⟨by simp[r0],by simp[r0],by simp[r0],by simp[r0],by simp[r0]⟩;obtain⟨⟨_,_,_,e⟩,f,g,i⟩:=h.same;rw[e,f,g,i]at c;have b:=h.round;have l:=b.dx.nq;have j:=b.dx.nm
 refine⟨⟨a.bx,fun k d=>(c.b1 k d).1,fun k d=>⟨a.fe k d,c.rs k d⟩,a.np,a.nl,c.fx,c.gl,a.az,a.ai,?_,b.jf,b.iz,b.dx.q,b.dx.m,by show v.D.length<=_;omega,by show v.ms.length<=_;omega⟩,c.un,by show v.D.length<=_;omega,by show v.ms.length<=_;omega,by show 0+v.A.length<=600;have:=a.bx.len;omega,Nat.zero_le _⟩;rcases b.H with h|h|h
 .exact .inl h.1
 .exact .inr (.inl h.1)
 .exact .inr (.inr h.1)
theorem SQ{e:Int}{j:List Pd}{i:List Ld}(m:∀p∈j,(p.sum.size:Int)=e)(k:∀l∈i,(l.sum.size:Int)=e):∀x∈CI j i,(x.size:Int)=e:=by
 have b:∀(f c:Zl),(∀x∈f,(x.size:Int)=e)->(∀x∈c,(x.size:Int)=e)->∀x∈f.foldl AK c,(x.size:Int)=e:=by
  intro f;induction f with
  |nil=>intro c _ h x a;exact h x a
  |cons y ys ih=>
   intro c d g;refine ih _ (fun x a=>d x (List.mem_cons_of_mem _ a)) (fun x a=> ?_);unfold AK at a;split at a
   .exact g x a
   .rcases List.mem_append.1 a with a|a
    .exact g x a
    .rw[List.mem_singleton.1 a];exact d y Yv
 unfold CI;refine b _ _ (fun x a=> ?_) (b _ _ (fun x a=> ?_) Yv)
 .obtain⟨l,d,rfl⟩:=List.mem_map.1 a;exact k l d
 .obtain⟨p,d,rfl⟩:=List.mem_map.1 a;exact m p d
theorem GK.step{g:Int}{p:List Pd}{o:List Ld}{r:UR}(h:GK g c p o free u)(B:Ip p o c u r)(M:u.ro≠1000000000)(F:r.D.length<=23200)(E:r.ms.length<=600)(n:r.L=[]\/u.L.length<free):GK g c p o free (u.and r):=by
 have a:=UTo.sub B;have f:=h.ok.r1;have d:=h.ok.r0;have hlen:=a.length_le;have C:Dj g r.A:=by have k:=h.ok.ok;exact⟨k.nd.sublist (a.map _),k.dh.sublist (a.map _),fun x b=>k.sz x (a.subset b),fun x b=>k.B x (a.subset b),Zm hlen k.len,k.w8⟩
 have D:∀x∈r.A,∀y∈r.A,x.born=y.born->x=y:=fun x b y H e=>h.un x (a.subset b) y (a.subset H) e;have m:∀k∈r.A,1<=k.born:=fun k l=>h.ok.born k (a.subset l);have hrefs:∀k∈r.A,k.B.length<=30/\∀r∈k.B,(r.size:Int)=g:=fun k l=>h.ok.B k (a.subset l)
 have i:∀(t:r.H=0\/r.H=1\/r.H=2) (j:0<=r.ro) (A:r.ro<=1000000000) (z:∀x∈r.D,(x.size:Int)=g) (q:∀x∈r.ms,(x.size:Int)=g),(r.L.length+r.A.length<=u.A.length)->r.L.length<=1->GK g c p o free (u.and r):=fun t j A z q N I=>by
  have K:=h.dl;have J:=h.df;refine⟨⟨C,m,hrefs,h.ok.pl,h.ok.ll,h.ok.fx,h.ok.gl,h.ok.b0,h.ok.b1,t,j,A,z,q,by show r.D.length<=_;omega,by show r.ms.length<=_;omega⟩,D,F,E,?_,?_⟩
  .show(u.L++r.L).length+r.A.length<=600;rw[List.length_append];omega
  .show(u.L++r.L).length<=free;rw[List.length_append];rcases n with n|n
   .rw[n,List.length_nil];omega
   .omega
 cases B with
 |begin j=>exact i (.inr (.inl rfl)) d f (SQ h.ok.fx h.ok.gl) h.ok.gu Yv Yv
 |mark j s q0 qs' ms' hqq hmm=>
  have v:∀x∈q0,(x.size:Int)=g:=fun x b=>h.ok.je x (by rw[hqq];exact List.mem_cons_of_mem _ b);have G:(s.size:Int)=g:=h.ok.je s (by rw[hqq];simp);rcases hmm with⟨_,rfl,rfl⟩|⟨k,l,_,_,rfl,rfl⟩
  .exact i h.ok.jc d f v h.ok.gu Yv Yv
  .refine i h.ok.jc d f (fun x b=> ?_) (fun x b=> ?_) Yv Yv
   .rcases List.mem_append.1 b with b|b
    .exact v x b
    .exact(h.ok.B k l).2 x (List.mem_filter.1 b).1
   .rcases List.mem_append.1 b with b|b
    .exact h.ok.gu x b
    .rw[List.mem_singleton.1 b];exact G
 |rest j hqq hn=>exact i (.inl rfl) (by show 0<=u.ro+1;omega) (by show u.ro+1<=_;omega) Yv Yv Yv Yv
 |ah j hqq x b l=>exact i (.inr (.inr rfl)) d f Yv h.ok.gu Yv Yv
 |drop j hqq x b hmm l=>
  refine i (.inr (.inr rfl)) d f Yv h.ok.gu ?_ Yv;have L:(CB u.A x.sum).length<u.A.length:=by unfold CB;exact List.length_filter_lt_length_iff_exists.2 ⟨x,b.1,Yv⟩
  show 1+(CB u.A x.sum).length<=u.A.length;omega
theorem UTo.some{ps:List Pd}{c:List Ld}{r:UR}(h:Ip ps c a u r)(b:r.L≠[]):r.D=[]/\r.ms=u.ms/\∃s,r.L=[s]:=by
 cases h with
 |begin h0=>exact absurd rfl b
 |mark h0 s q0 qs' ms' hqq hmm=>exact absurd rfl b
 |rest h0 hqq hn=>exact absurd rfl b
 |ah h0 hqq x hx hk=>exact absurd rfl b
 |drop h0 hqq x hx hmm hk=>exact⟨rfl,rfl,_,rfl⟩
inductive ClTo (births:Int) (ps:List Pd) (ls:List Ld) (free units:Nat):Nat->UR->Option (UR×Nat)->Prop
 |fin (n:Nat) (u:UR) (h:units<=n):ClTo births ps ls free units n u (some (u,n))
 |old (n:Nat) (u:UR) (h:n<units) (hr:u.ro=1000000000):ClTo births ps ls free units n u none
 |full (n:Nat) (u r:UR) (h:n<units) (hr:u.ro≠1000000000) (ht:Ip ps ls births u r) (hd:r.L≠[]) (hf:¬u.L.length<free):ClTo births ps ls free units n u (some (u,n))
 |long (n:Nat) (u r:UR) (h:n<units) (hr:u.ro≠1000000000) (ht:Ip ps ls births u r) (hl:23200<r.D.length\/600<r.ms.length):ClTo births ps ls free units n u none
 |step (n:Nat) (u r:UR) (o:Option (UR×Nat)) (h:n<units) (hr:u.ro≠1000000000) (ht:Ip ps ls births u r) (hq:r.D.length<=23200) (hm:r.ms.length<=600) (hf:r.L=[]\/u.L.length<free) (hs:ClTo births ps ls free units (n+1) (u.and r) o):ClTo births ps ls free units n u o
theorem ClTo.cj{p:Int}{l:List Pd}{k:List Ld}{f:Nat}{m:Option (UR×Nat)}(q:ClTo c l k free f n u m):∀{j},GK p c l k free u->ClTo c l k free f n u j->m=j:=by
 have one:∀{u r1 r2:UR},GK p c l k free u->Ip l k c u r1->Ip l k c u r2->r1=r2:=fun d a b=>UTo.cj d.un d.ok.ok.nd a b;induction q with
 |fin n u h=>intro j d g;cases g<;>first|rfl|omega
 |old n u h hr=>intro j d g;cases g<;>first|rfl|omega|contradiction
 |full n u r h hr ht hd i=>
  intro j d g;cases g with
  |fin _ _ h'=>omega
  |old _ _ h' hr'=>exact absurd hr' hr
  |full _ _ r' h' hr' ht' hd' e=>rfl
  |long _ _ r' h' hr' ht' hl'=>cases one d ht ht';have:=UTo.some ht hd;have:=d.ml;simp_all;omega
  |step _ _ r' _ h' hr' ht' hq' hm' e hs'=>
   cases one d ht ht';rcases e with e|e
   .exact absurd e hd
   .exact absurd e i
 |long n u r h hr ht hl=>
  intro j d g;cases g with
  |fin _ _ h'=>omega
  |old _ _ h' hr'=>rfl
  |full _ _ r' h' hr' ht' hd' e=>cases one d ht ht';have:=UTo.some ht hd';have:=d.ml;simp_all;omega
  |long _ _ r' h' hr' ht' hl'=>rfl
  |step _ _ r' _ h' hr' ht' hq' hm' e hs'=>cases one d ht ht';omega
 |step n u r o h hr ht hq hm i hs ih=>
  intro j d g;cases g with
  |fin _ _ h'=>omega
  |old _ _ h' hr'=>exact absurd hr' hr
  |full _ _ r' h' hr' ht' hd' e=>
   cases one d ht ht';rcases i with i|i
   .exact absurd i hd'
   .exact absurd i e
  |long _ _ r' h' hr' ht' hl'=>cases one d ht ht';omega
  |step _ _ r' _ h' hr' ht' hq' hm' e hs'=>cases one d ht ht';exact ih (d.step ht hr hq hm i) hs'
theorem QD(l f d m:Int)(j h:Zk)(k i:Nat)(a c:Zl)(w:Zh)(P:Ad w w.heap.size j a)(O:Ad w w.heap.size h c)(X:FT j a.length k)(U:FT h c.length i)(Z:a.length<=100000000)(Y:c.length<=100000000):
 Calls prog 48 #[.agg (Ya l j a.length k h c.length i f d m)] w fun e G=>∃x p y r,e=.returned (.agg (Ya l (some ⟨x,0,none⟩) a.length p (some ⟨y,0,none⟩) c.length r f d m))/\
  G.ownsRow w.heap.size 9 1 (Za x a.length p) a.length (a.map Value.string)/\G.ownsRow w.heap.size 9 1 (Za y c.length r) c.length (c.map Value.string)/\x≠y/\Zz w G:=by
 obtain⟨W,q⟩:∃W,W=((w.alloc (.cells (Ya l j a.length k h c.length i f d m) 41)).alloc (.cells Xp 41)).alloc (.cells (Ya l j a.length k h c.length i f d m) 41):=⟨_,rfl⟩;have z:Below w.heap.size w W:=by rw[q];exact((Zy).alloc Yv _).alloc Yu _
 have zB:w.heap.size+3<=W.heap.size:=by rw[q];simp
 have K:Aa W (w.heap.size+1+1) (Xs l j a.length k h c.length i f d m):=by rw[q];simpa using Aa.new ((w.alloc (.cells (Ya l j a.length k h c.length i f d m) 41)).alloc (.cells Xp 41)) (Xs l j a.length k h c.length i f d m) 41
 have Q:Aa W (w.heap.size+1) Xo:=by have N:=Aa.new (w.alloc (.cells (Ya l j a.length k h c.length i f d m) 41)) Xo 41;rw[World.size_alloc]at N;rw[q];exact Aa.below N (Zy)
 have J:Aa W w.heap.size (Xs l j a.length k h c.length i f d m):=by rw[q];exact Aa.below (Aa.below (Aa.new w _ _) (Zy)) (Zy)
 obtain⟨x,p,H,F,A,n⟩:=Pv W j k a (P.j z) X.2 Z 22;have rA:(W.alloc (.cells #[] 9)).cell? (Ze (w.heap.size) 1)=some (.slice j a.length k):=((Aa.below J (Zy)) 1 _ rfl).1;obtain⟨V,D⟩:∃V,V=H.setCell (Ze (w.heap.size+1+1) 1) (Za x a.length p):=⟨_,rfl⟩;have zC:=n.size;have t:Tn [w.heap.size+1+1] H V:=by rw[D];exact AM _ _ _ _
 have zF:=t.size;have u:Below w.heap.size w H:=z.trans (n.mono z.size);have s:Below w.heap.size w V:=u.trans (t.below u.size Yu);have R:Aa V w.heap.size (Xs l j a.length k h c.length i f d m):=Aa.same (Aa.below J n) (t.block _ Yw Yu);have S:Aa V (w.heap.size+1) Xo:=Aa.same (Aa.below Q n) (t.block _ Yw Yv)
 have T:Aa V (w.heap.size+1+1) (Xs l (some ⟨x,0,none⟩) a.length p h c.length i f d m):=by rw[D];exact(Aa.below K n).set 1 _
 have lx:=Ac A (g:=x) rfl;have E:=Dh A t (fun b hb=>by simp at hb;omega);obtain⟨y,r,I,zA,B,o⟩:=Pv V h i c (O.j s) U.2 Y 22;have rB:(V.alloc (.cells #[] 9)).cell? (Ze (w.heap.size) 2)=some (.slice h c.length i):=((Aa.below R (Zy)) 2 _ rfl).1;have ly:=Ac B (g:=y) rfl;obtain⟨⟨k0,g0⟩,⟨k1,g1⟩,⟨k2,g2⟩,⟨k3,g3⟩,⟨k4,g4⟩,⟨k5,g5⟩⟩:=r6 (Aa.below S o)
 obtain⟨⟨n0,m0⟩,⟨n1,m1⟩,⟨n2,m2⟩,⟨n3,m3⟩,⟨n4,m4⟩,⟨n5,m5⟩⟩:=r6 (Aa.below T o);obtain⟨_,⟨p1,q1⟩,_⟩:=r6 (Aa.below K n);have zE:=o.size;have C:Hid (I.ownsRow (w.heap.size+3) 9 1 (Za x a.length p) a.length (a.map Value.string)/\I.ownsRow (w.heap.size+3) 9 1 (Za y c.length r) c.length (c.map Value.string)/\x≠y/\Zz w I):=⟨(Ae E o).mono zB,B.mono Yw,Yw,s.trans (o.mono s.size)⟩;have M:=Yx q
 have L:=Yx D;clear q D J Q K R S T E A B n o t s u P O;go_enter func48,ntmps48;go_upto_region 2 with fail;rw[<-M.o];clear M;go_upto_region 3 with(at_builtin;refine wpList_append_run rfl _ _ 22 22 rfl rfl rfl F ?_);rw[<-L.o];clear L rA p1 q1 F;go_wp2_with (first
  |(at_builtin;refine wpList_append_run rfl _ _ 22 22 rfl rfl rfl zA ?_)
  |go_in)
 refine bodyPost_ret (v:=.agg (Ya l (some ⟨x,0,none⟩) a.length p (some ⟨y,0,none⟩) c.length r f d m)) (by simp[results,results48,go_sem,k0,k1,k2,k3,k4,k5]) rfl ⟨x,p,y,r,rfl,?_,?_,C.o.2.2.1,?_⟩
 .refine World.ownsRow.mono ?_ (show w.heap.size<=w.heap.size+3 by omega)
  iterate 7 (refine ownsRow_setCell_below ?_ Yv _)
  exact C.o.1
 .refine World.ownsRow.mono ?_ (show w.heap.size<=w.heap.size+3 by omega)
  iterate 7 (refine ownsRow_setCell_below ?_ Yv _)
  exact C.o.2.1
 .iterate 7 (refine Below.setCell ?_ Yo _)
  exact C.o.2.2.2
theorem Ad.cells{g:Nat}{c:Zl}(h:Ad w B (some ⟨g,0,none⟩) c):∀j s,c[j]?=some s->w.cell? ((⟨g,0,none⟩:Addr).add j)=some (.string s):=by
 intro j s a;rcases h with h|⟨b,f,d,_,e⟩
 .subst h;simp at a
 .cases d;have:=e j s a;rw[Go.WideShapes.add_plain];simpa using this
theorem Ad.take{a:Zk}{c:Zl}(h:Ad w B a c)(K:Nat):Ad w B a (c.take K):=by
 rcases h with h|⟨q,d,e,f,g⟩
 .exact .inl (by simp[h])
 .refine .inr ⟨q,d,e,f,fun i s b=>g i s ?_⟩;have j:=(Zw b).1;simp at j;rw[List.getElem?_take_of_lt Yw]at b;exact b
structure KG (w V:Zh) (u v:Value):Prop where
 b0:V.cell? (Ze (w.heap.size) 0)=some u
 b1:V.cell? (Ze (w.heap.size) 1)=some v
 r0:V.cell? (Ze (w.heap.size+1) 0)=some Zc
 r1:V.cell? (Ze (w.heap.size+1) 1)=some Zc
 f:∀o,V.frozen? ⟨w.heap.size+1,o,none⟩=false
 br:Below w.heap.size w V
 le:w.heap.size+2<=V.heap.size
theorem KG.alloc{u v:Value}(h:KG w V u v)(o:Obj):KG w (V.alloc o) u v:=by
 have a:=(Below.refl V.heap.size V).alloc (Zx) o;have:=h.le;exact⟨(a.cell (p:=⟨w.heap.size,0,none⟩) Yu).trans h.b0,(a.cell (p:=⟨w.heap.size,1,none⟩) Yu).trans h.b1,(a.cell (p:=⟨w.heap.size+1,0,none⟩) Yu).trans h.r0,(a.cell (p:=⟨w.heap.size+1,1,none⟩) Yu).trans h.r1,
  fun o=>(a.frozen (p:=⟨w.heap.size+1,o,none⟩) Yu).trans (h.f o),h.br.alloc h.br.size o,Yu⟩
theorem KG.drew{u v:Value}(h:KG w V u v):KG w V.drew u v:=⟨h.b0,h.b1,h.r0,h.r1,h.f,h.br.drew,h.le⟩
theorem KG.grown{b:Zh}{u v:Value}{q:Nat}(h:KG w V u v)(a:V.grownBy b (some q))(d:w.heap.size+2<=q):KG w b u v:=by
 have:=h.le;have:=a.size;exact⟨a.cell h.b0 Yu,a.cell h.b1 Yu,a.cell h.r0 Yu,a.cell h.r1 Yu,
  fun o=>(a.frozen_far ⟨w.heap.size+1,o,none⟩ Yu Yu).trans (h.f o),h.br.grown a h.br.size (fun k c=>by cases c;omega),Yw⟩
theorem UQ(z A:Zk)(c d:Nat)(h i:Zl)(w:Zh)(hr:Ad w w.heap.size z h)(Q:Ad w w.heap.size A i)(Y:z=none->h.length=0/\c=0)(Z:A=none->i.length=0/\d=0)(hl:h.length<=1048576)(zH:i.length<=1048576):
 Calls prog 46 #[.agg #[.slice z h.length c,.slice A i.length d]] w fun e w'=>∃x cx y cy,e=.returned (.agg #[Za x h.length cx,Za y i.length cy])/\
  w'.ownsRow w.heap.size 9 1 (Za x h.length cx) h.length (h.map Value.string)/\w'.ownsRow w.heap.size 9 1 (Za y i.length cy) i.length (i.map Value.string)/\x≠y/\Zz w w':=by
 obtain⟨R,N,B,C,D⟩:=info_parts Dw;have zB:Below w.heap.size w ((w.alloc (.cells #[.slice z h.length c,.slice A i.length d] 35)).alloc (.cells #[Zc,Zc] 35)):=(Zy).alloc Yv _;obtain⟨W,hW⟩:∃W,W=(w.alloc (.cells #[.slice z h.length c,.slice A i.length d] 35)).alloc (.cells #[Zc,Zc] 35):=⟨_,rfl⟩;have P:KG w W (.slice z h.length c) (.slice A i.length d):=by rw[hW];exact⟨by simp[go_sem],by simp[go_sem],by simp[go_sem],by simp[go_sem],fun o=>by simp[go_sem],zB,Yv⟩
 have HW:=Yx hW;have t:=Yx P;go_enter func46,ntmps46;go_wp2_with fail;rw[<-HW.o];obtain⟨b0,b1,r0,r1,f0,_,zI⟩:=P;obtain⟨a0,a1,_,_,_,_,_⟩:=t.o.alloc (.cells #[] 9);obtain⟨zF,zG,_,_,_,_,_⟩:=(t.o.alloc (.cells #[] 9)).alloc (.cells #[] 9);clear hW zB HW
 have oA:(W.alloc (.cells #[] 9)).drew.ownsRow (w.heap.size+2) 9 1 (Za W.heap.size 0 0) 0 (([]:Zl).map Value.string):=World.ownsRow_lit W #[] 0 Yw Yq rfl
 have H:((W.alloc (.cells #[] 9)).alloc (.cells #[] 9)).drew.ownsRow (w.heap.size+2) 9 1 (Za W.heap.size 0 0) 0 (([]:Zl).map Value.string):=World.ownsRow.alloc (World.ownsRow_lit W #[] 0 Yw Yq rfl) _;have I:((W.alloc (.cells #[] 9)).alloc (.cells #[] 9)).drew.ownsRow (w.heap.size+2) 9 1 (Za (W.heap.size+1) 0 0) 0 (([]:Zl).map Value.string):=by have h1:=World.ownsRow_lit (base:=w.heap.size+2) (e:=9) (size:=1) (W.alloc (.cells #[] 9)) #[] 0 Yu Yq rfl;rw[World.size_alloc]at h1;exact h1
 have zC:=(hr.below (t.o.alloc (.cells #[] 9)).drew.br).bj;have zE:=(Q.below (t.o.alloc (.cells #[] 9)).drew.br).bj;have G:=(hr.below ((t.o.alloc (.cells #[] 9)).alloc (.cells #[] 9)).drew.br).bj;have zA:=(Q.below ((t.o.alloc (.cells #[] 9)).alloc (.cells #[] 9)).drew.br).bj
 go_region_law (first
  |(guard_target=if Region.wanted _ _=true then Oper.wp _ _ _ (W.alloc (.cells #[] 9)).drew _ _ else _;refine BJ (W.alloc (.cells #[] 9)).drew rfl (.tmp 3) (.tmp 5) 22 rfl (w.heap.size+2) 9 R Zd 16 underlying22 N B C D rfl (W.heap.size) 0 0 [] rfl oA z h.length c h rfl rfl Y zC Yq Yw Yn ?_;intro S F K s k l L;simp only[Nat.zero_add,List.nil_append]at s;have J:=k.size;simp at J l;have j:=(t.o.alloc _).drew.grown k Yw;have c0:=j.b0;have c1:=j.b1;have d0:=(j.alloc (.cells #[] 9)).b0;have d1:=(j.alloc (.cells #[] 9)).b1;have T:=J)
  |(guard_target=if Region.wanted _ _=true then Oper.wp _ _ _ ((W.alloc (.cells #[] 9)).alloc (.cells #[] 9)).drew _ _ else _;refine BJ ((W.alloc (.cells #[] 9)).alloc (.cells #[] 9)).drew rfl (.tmp 3) (.tmp 5) 22 rfl (w.heap.size+2) 9 R Zd 16 underlying22 N B C D rfl (W.heap.size) 0 0 [] rfl H z h.length c h rfl rfl Y G Yq Yw Yn ?_;intro S F K s k l L;simp only[Nat.zero_add,List.nil_append]at s;have J:=k.size;simp at J l;have j:=((t.o.alloc _).alloc _).drew.grown k Yw;have c0:=j.b0;have c1:=j.b1;have q:=I.kept k (.inr (by simp[Value.ownBlock]));have U:=J)
  |(guard_target=if Region.wanted _ _=true then Oper.wp _ _ _ ((W.alloc (.cells #[] 9)).alloc (.cells #[] 9)).drew _ _ else _;refine BJ ((W.alloc (.cells #[] 9)).alloc (.cells #[] 9)).drew rfl (.tmp 3) (.tmp 5) 22 rfl (w.heap.size+2) 9 R Zd 16 underlying22 N B C D rfl (W.heap.size+1) 0 0 [] rfl I z h.length c h rfl rfl Y G Yq Yw Yn ?_;intro S F K s k l L;simp only[Nat.zero_add,List.nil_append]at s;have J:=k.size;simp at J l;have j:=((t.o.alloc _).alloc _).drew.grown k Yw;have c0:=j.b0;have c1:=j.b1;have q:=H.kept k (.inr (by simp[Value.ownBlock]));have V:=J)
  |(have r:=T;refine BJ (K.alloc (.cells #[] 9)) rfl (.tmp 7) (.tmp 9) 22 rfl (w.heap.size+2) 9 R Zd 16 underlying22 N B C D rfl (K.heap.size) 0 0 [] rfl (World.ownsRow_lit K #[] 0 Yw Yq rfl) A i.length d i rfl rfl Z (Q.below (j.alloc _).br).bj Yq Yw Yn ?_;intro E n w9 f b g u;simp only[Nat.zero_add,List.nil_append]at f;have X:=b.size;(try simp at X g);have F6:=(s.alloc _).kept b (.inr (by simp[Value.ownBlock];omega));have M:=f;have O:S≠E:=Yw;have m:=(j.alloc _).grown b Yw;have y0:=m.r0;have y1:=m.r1;have yf:=m.f)
  |(have r:=U;refine BJ K rfl (.tmp 7) (.tmp 9) 22 rfl (w.heap.size+2) 9 R Zd 16 underlying22 N B C D rfl (W.heap.size+1) 0 0 [] rfl q A i.length d i rfl rfl Z (Q.below j.br).bj Yq Yw Yn ?_;intro E n w9 f b g u;simp only[Nat.zero_add,List.nil_append]at f;have X:=b.size;(try simp at X g);have F6:=s.kept b (.inr (by simp[Value.ownBlock];omega));have M:=f;have O:S≠E:=Yw;have m:=j.grown b Yw;have y0:=m.r0;have y1:=m.r1;have yf:=m.f)
  |(have r:=V;refine BJ K rfl (.tmp 7) (.tmp 9) 22 rfl (w.heap.size+2) 9 R Zd 16 underlying22 N B C D rfl (W.heap.size) 0 0 [] rfl q A i.length d i rfl rfl Z (Q.below j.br).bj Yq Yw Yn ?_;intro E n w9 f b g u;simp only[Nat.zero_add,List.nil_append]at f;have X:=b.size;(try simp at X g);have F6:=s.kept b (.inr (by simp[Value.ownBlock];omega));have M:=f;have O:S≠E:=Yw;have m:=j.grown b Yw;have y0:=m.r0;have y1:=m.r1;have yf:=m.f))
 all_goals
  have HF:=Yx (Zn F6 (Zn M (Zn O m)));clear m;clear F6 M O oA H I zC zE G zA hr Q t;go_wp2;refine bodyPost_ret (v:=.agg #[Za S h.length F,Za E i.length n]) (by simp[results,results46,go_sem,y0,y1]) rfl ⟨_,_,_,_,rfl,?_,?_,HF.o.2.2.1,?_⟩
  .exact(ownsRow_setCell_below (ownsRow_setCell_below HF.o.1 (a:=⟨w.heap.size+1,0,none⟩) Yv _) (a:=⟨w.heap.size+1,1,none⟩) Yv _).mono Yw
  .exact(ownsRow_setCell_below (ownsRow_setCell_below HF.o.2.1 (a:=⟨w.heap.size+1,0,none⟩) Yv _) (a:=⟨w.heap.size+1,1,none⟩) Yv _).mono Yw
  .exact(HF.o.2.2.2.br.setCell (p:=⟨w.heap.size+1,0,none⟩) Yv _).setCell (p:=⟨w.heap.size+1,1,none⟩) Yv _
theorem QE(v:Vd)(a:Va)(w:Zh)(C:∀X,Zz w X->Calls prog 46 #[.agg #[.slice a.R v.ss.length a.Z,.slice a.N v.C.length a.O]] X fun e z=>∃x j y k,e=.returned (.agg #[Za x v.ss.length j,Za y v.C.length k])/\z.ownsRow X.heap.size 9 1 (Za x v.ss.length j) v.ss.length (v.ss.map Value.string)/\z.ownsRow X.heap.size 9 1 (Za y v.C.length k) v.C.length (v.C.map Value.string)/\x≠y/\Zz X z)(I:∀X,Zz w X->Calls prog 47 #[.agg (Yi v.T v.F v.G v.E a.x v.A.length a.kc a.Q v.ps.length a.W a.P v.ls.length a.X)] X fun e z=>∃T P L q,e=.returned (.agg #[Zg v.T,Zg v.F,Zg v.G,Zg v.E,T,P,L])/\Bf z X.heap.size T P L q v.A v.ps v.ls/\(∀u∈T::P::L::q,∃g n c,u=Za g n c)/\Zz X z)(h3:∀X,Zz w X->Calls prog 48 #[.agg (Ya v.H a.i v.D.length a.qc a.g v.ms.length a.y v.K v.J v.ro)] X fun e z=>∃i d f b,e=.returned (.agg (Ya v.H (some ⟨i,0,none⟩) v.D.length d (some ⟨f,0,none⟩) v.ms.length b v.K v.J v.ro))/\z.ownsRow X.heap.size 9 1 (Za i v.D.length d) v.D.length (v.D.map Value.string)/\z.ownsRow X.heap.size 9 1 (Za f v.ms.length b) v.ms.length (v.ms.map Value.string)/\i≠f/\Zz X z):
 Calls prog 18 #[.agg (Xz v a)] w fun e z=>∃(S U T P L Q M:Value) (q:Zj),e=.returned (.agg #[Zg v.wd,Zg v.U,S,U,Zg v.T,Zg v.F,Zg v.G,Zg v.E,T,P,L,Zg v.H,Q,M,Zg v.K,Zg v.J,Zg v.ro])/\AU z w.heap.size S U T P L Q M q v/\(∀u∈S::U::Q::M::T::P::L::q,∃g n c,u=Za g n c)/\Zz w z:=by
 obtain⟨W,J⟩:∃W,W=(w.alloc (.cells (Xz v a) 43)).alloc (.cells Xv 43):=⟨_,rfl⟩;have D:=(Bo J).1;have zW:=(Bo J).2.1;have HX:Hid (Aa W _ _):=(Bo J).2.2.1;have HZ:Hid (Aa W (w.heap.size+1) Xu):=by have C:=Aa.new (w.alloc (.cells (Xz v a) 43)) Xu 43;rw[World.size_alloc]at C;show Aa W (w.heap.size+1) Xu;rw[J];exact C
 have H1:=Yx C;have H2:=Yx I;have H3:=Yx h3;have H:Hid (∀X,Zz W X->Aa X w.heap.size (Xy v a)):=fun X V=>Aa.below HX.o V;have HW:=Yx J;clear J C I h3;go_enter func18,ntmps18;go_upto_region 1 with fail;rw[<-HW.o];clear HW
 go_cut [0] (fun u wx=>∃x j y k r s o p l m q i d f b,Hid (Aa wx (w.heap.size+1) (Xq v (some ⟨x,0,none⟩) j (some ⟨y,0,none⟩) k r s o p l m (some ⟨i,0,none⟩) d (some ⟨f,0,none⟩) b)/\Zz w wx/\AU wx w.heap.size (Za x v.ss.length j) (Za y v.C.length k) (.slice r v.A.length s) (.slice o v.ps.length p) (.slice l v.ls.length m) (Za i v.D.length d) (Za f v.ms.length b) q v/\∀u∈(.slice r v.A.length s)::(.slice o v.ps.length p)::(.slice l v.ls.length m)::q,∃g n c,u=Za g n c))
 case first=>
  refine wp_region_held_drew (S:=fun X=>Aa X w.heap.size (Xy v a)) Yt (H.o _ (Below.refl _ _).drew) (fun B=> ?_);refine EI 0 ⟨some 3,.fieldAddr 43 (.tmp 1) 0,0,Bz,#[],none⟩ (Yz w.heap.size) (by exact B) ?_;try simp only[Act.put,Zq,Zp,Zo]
  refine Kx 1 ⟨some 4,.load 3 (.tmp 3),3,Bz,#[BP 0],none⟩ (Zg v.wd) (by exact Or.inl ⟨Yr,fun X V=>by have h0:=(V 0 _ rfl).1;go_simp⟩) (by exact B) ?_;try simp only[Act.put,Zq,Zp,Zo]
  refine EI 2 ⟨some 5,.fieldAddr 43 (.tmp 1) 1,0,Bz,#[],none⟩ (Yy w.heap.size 1) (by exact B) ?_;try simp only[Act.put,Zq,Zp,Zo]
  refine Kx 3 ⟨some 6,.load 3 (.tmp 5),3,Bz,#[BP 2],none⟩ (Zg v.U) (by exact Or.inl ⟨Yr,fun X V=>by have h0:=(V 1 _ rfl).1;go_simp⟩) (by exact B) ?_;try simp only[Act.put,Zq,Zp,Zo]
  refine EI 4 ⟨some 7,.fieldAddr 43 (.tmp 1) 2,0,Bz,#[],none⟩ (Yy w.heap.size 2) (by exact B) ?_;try simp only[Act.put,Zq,Zp,Zo]
  refine Kx 5 ⟨some 8,.load 35 (.tmp 7),35,Bz,#[BP 4],none⟩ (.agg #[.slice a.R v.ss.length a.Z,.slice a.N v.C.length a.O]) (by exact yieldsIf_load_mid Yr 35 _ rfl (w.heap.size) 2 rfl [.slice a.R v.ss.length a.Z,.slice a.N v.C.length a.O] _ (fun X h=>Aa.gy [Zg v.wd,Zg v.U] [.slice a.R v.ss.length a.Z,.slice a.N v.C.length a.O] [Zg v.T,Zg v.F,Zg v.G,Zg v.E,.slice a.x v.A.length a.kc,.slice a.Q v.ps.length a.W,.slice a.P v.ls.length a.X,Zg v.H,.slice a.i v.D.length a.qc,.slice a.g v.ms.length a.y,Zg v.K,Zg v.J,Zg v.ro] h) underlying35 rfl Yt) (by exact B) ?_
  try simp only[Act.put,Zq,Zp,Zo]
  refine EI 7 ⟨some 10,.fieldAddr 43 (.tmp 1) 3,0,Bz,#[],none⟩ (Yy w.heap.size 4) (by exact B) ?_;try simp only[Act.put,Zq,Zp,Zo]
  refine Kx 8 ⟨some 11,.load 40 (.tmp 10),40,Bz,#[BP 7],none⟩ (.agg (Yi v.T v.F v.G v.E a.x v.A.length a.kc a.Q v.ps.length a.W a.P v.ls.length a.X)) (by exact yieldsIf_load_mid Yr 40 _ rfl (w.heap.size) 4 rfl (Yj v.T v.F v.G v.E a.x v.A.length a.kc a.Q v.ps.length a.W a.P v.ls.length a.X) _ (fun X h=>Aa.gy [Zg v.wd,Zg v.U,.slice a.R v.ss.length a.Z,.slice a.N v.C.length a.O] (Yj v.T v.F v.G v.E a.x v.A.length a.kc a.Q v.ps.length a.W a.P v.ls.length a.X) (Xs v.H a.i v.D.length a.qc a.g v.ms.length a.y v.K v.J v.ro) h) underlying40 rfl Yt) (by exact B) ?_
  try simp only[Act.put,Zq,Zp,Zo]
  refine EI 10 ⟨some 13,.fieldAddr 43 (.tmp 1) 4,0,Bz,#[],none⟩ (Yy w.heap.size 11) (by exact B) ?_;try simp only[Act.put,Zq,Zp,Zo]
  refine Kx 11 ⟨some 14,.load 41 (.tmp 13),41,Bz,#[BP 10],none⟩ (.agg (Ya v.H a.i v.D.length a.qc a.g v.ms.length a.y v.K v.J v.ro)) (by exact yieldsIf_load_mid Yr 41 _ rfl (w.heap.size) 11 rfl (Xs v.H a.i v.D.length a.qc a.g v.ms.length a.y v.K v.J v.ro) _ (fun X h=>Aa.gy [Zg v.wd,Zg v.U,.slice a.R v.ss.length a.Z,.slice a.N v.C.length a.O,Zg v.T,Zg v.F,Zg v.G,Zg v.E,.slice a.x v.A.length a.kc,.slice a.Q v.ps.length a.W,.slice a.P v.ls.length a.X] (Xs v.H a.i v.D.length a.qc a.g v.ms.length a.y v.K v.J v.ro) [] h) underlying41 rfl Yt) (by exact B) ?_
  try simp only[Act.put,Zq,Zp,Zo]
  refine GH 6 ⟨some 9,.call {callee:=Callee.value (.func 46),args:= #[.tmp 8],argTypes:= #[35]},35,Bz,#[BP 5],none⟩ (fun K A=> ?_);go_simp;refine(H1.o W.drew D.drew).mono ?_;rintro e w1 ⟨x,j,y,k,rfl,zK,E,zC,zJ⟩;have B1:=(Below.refl W.heap.size W).drew.trans zJ;try go_simp
  refine A.out _ _ (H.o w1 B1) (fun zS=> ?_);clear A K;try simp only[Act.put,Zq,Zp,Zo]
  refine GH 9 ⟨some 12,.call {callee:=Callee.value (.func 47),args:= #[.tmp 11],argTypes:= #[40]},40,Bz,#[BP 8,⟨6,.chain⟩],none⟩ (fun K A=> ?_);go_simp;refine(H2.o w1 (D.trans (B1.mono D.size))).mono ?_;rintro e w2 ⟨T,P,L,q,rfl,Z,zG,N⟩;obtain⟨r,s,o,p,l,m,rfl,rfl,rfl,_⟩:=Z.rows;have G:=B1.trans (N.mono B1.size);try go_simp
  refine A.out _ _ (H.o w2 G) (fun zT=> ?_);clear A K;try simp only[Act.put,Zq,Zp,Zo]
  refine GH 12 ⟨some 15,.call {callee:=Callee.value (.func 48),args:= #[.tmp 14],argTypes:= #[41]},41,Bz,#[BP 11,⟨9,.chain⟩],none⟩ (fun K A=> ?_);go_simp;refine(H3.o w2 (D.trans (G.mono D.size))).mono ?_;rintro e Y ⟨i,d,f,b,rfl,zM,F,zE,O⟩;have R:Below W.heap.size W Y:=G.trans (O.mono G.size);try go_simp
  refine A.out _ _ (H.o Y R) (fun zN=> ?_);clear A K;try simp only[Act.put,Zq,Zp,Zo]
  refine EI 13 ⟨some 16,.build 43 #[(0,.tmp 4),(1,.tmp 6),(2,.tmp 9),(3,.tmp 12),(4,.tmp 15)],43,Bz,#[BP 1,BP 3,BP 6,BP 9,BP 12],none⟩ (.agg (Xr v (some ⟨x,0,none⟩) j (some ⟨y,0,none⟩) k r s o p l m (some ⟨i,0,none⟩) d (some ⟨f,0,none⟩) b)) (by exact zN) ?_;try simp only[Act.put,Zq,Zp,Zo]
  refine GH 14 ⟨none,.store 43 (.tmp 2) (.tmp 16),0,Bz,#[BP 13,⟨12,.chain⟩,BS 0,BS 1,BS 2,BS 3,BS 4,BS 5,BS 6,BS 7,BS 8,BS 9,BS 10,BS 11,BS 12,BS 13],none⟩ (fun K A=> ?_)
  have zI:AU Y W.heap.size (Za x v.ss.length j) (Za y v.C.length k) (.slice r v.A.length s) (.slice o v.ps.length p) (.slice l v.ls.length m) (Za i v.D.length d) (Za f v.ms.length b) q v:=AU.of (n1:=w1.heap.size) (n2:=w2.heap.size) (Aj.own (Ae (Ae zK N) O)) (Aj.own (Ae (Ae E N) O)) (fun g C I=>by cases C;cases I;exact zC rfl) (fun g t=>by rcases t with t|t;(cases t;exact(zK.lt _ rfl).2);(cases t;exact(E.lt _ rfl).2)) (Z.below O) zJ.size Z.cf (Aj.own (zM.mono G.size)) (Aj.own (F.mono G.size)) (fun g t=>by rcases t with t|t;(cases t;exact(zM.lt _ rfl).1);(cases t;exact(F.lt _ rfl).1)) N.size (fun g C I=>by cases C;cases I;exact zE rfl)
  have zF:((Xr v (some ⟨x,0,none⟩) j (some ⟨y,0,none⟩) k r s o p l m (some ⟨i,0,none⟩) d (some ⟨f,0,none⟩) b):Array Value).all (·.oneCell')=true:=by simp[Value.oneCell']
  have zH:=Aa.below (v:=Zf) HZ.o R;obtain⟨W9,zA⟩:∃X,X=Y.setCells (w.heap.size+1) 0 (Xq v (some ⟨x,0,none⟩) j (some ⟨y,0,none⟩) k r s o p l m (some ⟨i,0,none⟩) d (some ⟨f,0,none⟩) b):=⟨_,rfl⟩;have x9:Aa W9 (w.heap.size+1) (Xq v (some ⟨x,0,none⟩) j (some ⟨y,0,none⟩) k r s o p l m (some ⟨i,0,none⟩) d (some ⟨f,0,none⟩) b):=by rw[zA];exact zH.ck _ rfl
  have t9:Tn [w.heap.size+1] Y W9:=by rw[zA];exact Df _ _ _ _
  have z3:=R.size;have B9:Below w.heap.size w W9:=(D.trans (R.mono D.size)).trans (t9.below Yw Yv);have zP:AU W9 w.heap.size (Za x v.ss.length j) (Za y v.C.length k) (.slice r v.A.length s) (.slice o v.ps.length p) (.slice l v.ls.length m) (Za i v.D.length d) (Za f v.ms.length b) q v:=(zI.stays t9 (fun g t zR=>by have:=zI.lo g zR;simp at t;omega)).mono Yw
  have zB:=Yx (Zn x9 (Zn B9 (Zn zP zG)));have zO:=Aa.same (Aa.below HX.o R) (t9.block _ Yw Yv);rw[if_pos Yr];refine wp_store_mid 43 _ _ rfl (w.heap.size+1) 0 (Xr v (some ⟨x,0,none⟩) j (some ⟨y,0,none⟩) k r s o p l m (some ⟨i,0,none⟩) d (some ⟨f,0,none⟩) b) rfl rfl zH.there Yt zF ?_;try rw[<-zA]
  refine A.out _ _ zO (fun zU=> ?_);clear A K;try simp only[Act.put]
  refine wpAnyH_done Yt ?_ _;go_wp2_with fail;go_meet;exact⟨x,j,y,k,r,s,o,p,l,m,q,i,d,f,b,zB.o⟩
 case rest=>
  obtain⟨x,j,y,k,r,s,o,p,l,m,q,i,d,f,b,HQ⟩:=hcut;go_wp2;refine bodyPost_ret (Ce results18 _ _ (w.heap.size+1) (Xq v (some ⟨x,0,none⟩) j (some ⟨y,0,none⟩) k r s o p l m (some ⟨i,0,none⟩) d (some ⟨f,0,none⟩) b) _ rfl HQ.o.1.range underlying43 rfl Yt) rfl ?_;refine⟨_,_,_,_,_,_,_,q,rfl,HQ.o.2.2.1,fun u hu=> ?_,HQ.o.2.1⟩;rcases List.mem_cons.1 hu with rfl|hu
  .exact⟨_,_,_,rfl⟩
  rcases List.mem_cons.1 hu with rfl|hu
  .exact⟨_,_,_,rfl⟩
  rcases List.mem_cons.1 hu with rfl|hu
  .exact⟨_,_,_,rfl⟩
  rcases List.mem_cons.1 hu with rfl|hu
  .exact⟨_,_,_,rfl⟩
  exact HQ.o.2.2.2 u hu
def XK(d:Dd)(S U T P L Q M:Value):Zj:=Zg d.c::(Bx d.v S U T P L Q M++[.string d.s,Zg d.n,.string d.a,.string d.b])
theorem Aa.fp:∀(vs l1 l2 l3:Zj) (w:Zh),Aa w B (l1++(l2++l3))->vs.length=l2.length->Aa (w.setCells B l1.length vs) B (l1++(vs++l3))
 |[],l1,[],l3,w,h,_=>h
 |v::r,l1,u::l2,l3,w,h,hl=>by have a:=h.set l1.length v;rw[show(l1++(u::l2++l3)).set l1.length v=(l1++[v])++(l2++l3) by simp]at a;have b:=Aa.fp r (l1++[v]) l2 l3 _ a (by simpa using hl);rw[List.length_append,List.length_singleton,List.append_assoc,List.singleton_append,<-List.cons_append]at b;exact b
 |[],_,_::_,_,_,_,h=>by simp at h
 |_::_,_,[],_,_,_,h=>by simp at h
theorem Aa.fg(a c d:Zj)(h:Aa w B (a++(c++d))):w.there B a.length c.length:=fun j e=>by have b:=h (a.length+j) _ (Zv Yu);exact⟨by rw[b.1];rfl,b.2⟩
theorem ZK{a c:Zh}{k b:Nat}{z:Value}{l cs i:Zj}(g:Aa X k (.int .i32 1::l))(h:Aa X b (z::i))(o:cs.length=(z::i).length)(m:k≠b)(f:a=X.setCells b 0 cs)(j:c=a.setCell (Ze k 0) (.int .i32 0)):
 a.cell? (Ze k 0)=some (.int .i32 1)/\a.frozen? ⟨k,0,none⟩=false/\Aa c b cs/\Tn [b,k] X c:=by
 have e:Tn [b] X a:=by rw[f];exact Df _ _ _ _
 have d:Tn [k] a c:=by rw[j];exact Tn.set _ _ _ _ Yv
 have r:Aa a b cs:=by rw[f];exact h.ck cs o
 have p:=Aa.same g (e.block _ g.lt (by simp;exact m));obtain⟨q,n⟩:=p 0 _ rfl;exact⟨q,n,Aa.same r (d.block _ (Zr h.lt e.size) Yu),(e.mono Yv).trans (d.mono Yv)⟩
theorem AU.apart{c:Nat}{h:Zj}(z:Aj w c S v.ss)(hu:Aj w c U v.C)(n:∀g,Af S=some g->Af U≠some g)(i:Bf w c T P L h v.A v.ps v.ls)(y:Aj w c Q v.D)(x:Aj w c M v.ms)(l:∀g,Af Q=some g->Af M≠some g)(p:∀g,Af S=some g\/Af U=some g->g∉Bj T P L h)(r:∀g,Af Q=some g\/Af M=some g->g∉Bj T P L h)(t:∀g j,Af S=some g\/Af U=some g->Af Q=some j\/Af M=some j->g≠j):AU w c S U T P L Q M h v:=by
 refine⟨z,hu,i,y,x,?_⟩;have k:=i.nd;rw[FA]at k;unfold CC;generalize Bj T P L h=B at *
 generalize Af S=s at *
 generalize Af U=u at *
 generalize Af Q=q at *
 generalize Af M=m at *
 have one:∀o:Option Nat,o.toList.Nodup:=fun o=>by cases o<;>simp
 simp only[List.nodup_append,List.mem_append,Option.mem_toList];refine⟨⟨one _,one _,fun a f b d e=>n a f (e▸d)⟩,⟨k,⟨one _,one _,fun a f b d e=>l a f (e▸d)⟩,fun a f b d e=>r b d (e▸f)⟩,fun a f b d e=> ?_⟩;rcases d with d|d
 .exact p a f (e▸d)
 .exact t a b f d e
def dL(d:Dd)(vs:Zj):Zj:=Zg d.c::(vs++[.string d.s,Zg d.n,.string d.a,.string d.b])
theorem Abd{d:Dd}{vs:Zj}(h:vs.length=17/\∀u∈vs,u.oneCell'=true):(dL d vs).length=22/\∀u∈dL d vs,u.oneCell'=true:=by
 refine⟨by simp[dL,h.1],fun u hu=> ?_⟩;simp only[dL,List.mem_cons,List.mem_append,List.not_mem_nil,or_false]at hu;rcases hu with rfl|hu|rfl|rfl|rfl|rfl
 .rfl
 .exact h.2 u hu
 .rfl
 .rfl
 .rfl
 .rfl
theorem NX{P:Program}{c:Array Oper}{rest:List Oper}{b:Oper}{a:Act}{Q:Exit->Act->Zh->Prop}(f:b.guard=none)(t:TypeId)(parts:Array (Nat×Operand))(g:b.op=.build t parts)(l:List (Nat×Value))(e:(parts.map fun(i,x)=>(i,a.eval x)).toList=l)(cells:Array Value)(d:P.built t l=some cells)(h:wpList P c Q rest (a.put b.dst (.agg cells)) w):wpList P c Q (b::rest) a w:=
 wpList_build f t parts g (by rw[e,d];rfl) (by rw[e,d];exact h)
theorem Abe{s:Zj}(h:s.length=17):∃i j k l m n o p q r a b c d e f g,s=[i,j,k,l,m,n,o,p,q,r,a,b,c,d,e,f,g]:=by
 match s,h with
 |[i,j,k,l,m,n,o,p,q,r,a,b,c,d,e,f,g],_=>exact⟨i,j,k,l,m,n,o,p,q,r,a,b,c,d,e,f,g,rfl⟩
theorem AU.co{d:Zh}{a:Nat}{k:Zj}(h:AU d a S U T P L Q M k v)(m:n<=a)(f:Zz d X):∀V c,(∀b∈V,b<n)->Tn V X c->XJ v c.heap.size c (Bx v S U T P L Q M):=fun V c i g=>by refine(h.stays (((Tn.of (V:=[]) f).mono Yv).trans g) (fun b j e=> ?_)).io;have l:=h.lo b e;have:=i b j;omega
theorem AU.ap{b:Nat}{c:Zj}(h:AU w b S U T P L Q M c v):(∀g,Af U=some g->Af S≠some g)/\∀g,Af U=some g->Af Q≠some g/\Af M≠some g:=by
 have a:=h.nd;unfold CC at a;generalize Bj T P L c=B at *
 simp only[List.nodup_append,List.mem_append,Option.mem_toList]at a;refine⟨fun g hu f=>a.1.2.2 g f g hu rfl,fun g hu=>⟨fun e=> ?_,fun d=> ?_⟩⟩
 .exact a.2.2 g (.inr hu) g (.inr (.inl e)) rfl
 .exact a.2.2 g (.inr hu) g (.inr (.inr d)) rfl
theorem Mw(o f c b:Int)(a p l:Zk)(n m k j i:Nat)(d:List Kd)(s:Zi)(w:Zh)(r:By w w.heap.size a d)(zB:d.length<=1000)(t:¬Av d s):
 Calls prog 53 #[.agg (Yi o f c b a d.length n p m k l j i),.string s] w fun e N=>e=.returned (.agg (Cq 2 ⟨#[]⟩ ⟨#[]⟩).toArray)/\Zz w N:=by
 obtain⟨W,g⟩:∃W,W=(w.alloc (.cells (Yi o f c b a d.length n p m k l j i) 40)).alloc (.cells Yg 88):=⟨_,rfl⟩;have h:=(Bo g).1;have A:=(Bo g).2.2.1;have B:Aa W (w.heap.size+1) z12:=by have y:=Aa.new (w.alloc (.cells (Yi o f c b a d.length n p m k l j i) 40)) z12 88;rw[World.size_alloc]at y;rw[g];exact y
 have u:=Yx (Fp o f c b a n (.slice p m k) (.slice l j i) d s W w.heap.size (By.below r h) h.size Yw);have zA:=IK t;have x:=Yx g;have C:=Yx B;obtain⟨v0,G,H,I,J,K,L,M⟩:=AR A;clear g A B r t;go_enter func53,ntmps53;go_upto_region 1 with fail;rw[<-x.o];clear x;go_wp2_with fail;refine Calls.mono u.o ?_;rintro e O ⟨rfl,q⟩
 obtain⟨⟨P,q0⟩,⟨Q,q1⟩,⟨R,q2⟩,⟨S,q3⟩,⟨T,q4⟩,⟨U,q5⟩,⟨V,q6⟩,⟨X,q7⟩,⟨Y,q8⟩,⟨Z,q9⟩,⟨D,zC⟩,E,zE⟩:=AY (Aa.below (v:=Zf) C.o q);have z:=h.trans (q.mono h.size);generalize CU d s=fi at *
 clear v0 G H I J K L M u;go_wp2;refine bodyPost_ret (v:=.agg (Cq 2 ⟨#[]⟩ ⟨#[]⟩).toArray) (by simp[results,results53,go_sem,P,Q,R,S,T,U,V,X,Y,Z,D,E,Cq]) rfl ?_;exact⟨rfl,z.trans (Tn.below (Bd O (w.heap.size+1) _ _ _ _ _ _ _ _ _ _ _ _) z.size (by intro v F;simp at F;omega))⟩
theorem DC(g:Int)(y:Nat)(args:Array Value)(u f c a:Int)(q n k:Zk)(tn r p o m l:Nat)(s x d:Zi)(i:Int)(ra:Zk)(C B:Nat)(w:Zh)(V:List Nat)(Q:Zh->Ending->Zh->Prop)(T:Ending->Zh->Prop)(hk:(g=1/\y=137/\args= #[.agg (Yi u f c a q tn r n p o k m l),.agg (Yh g s x i d ra C B)])\/(g=2/\y=138/\args= #[.agg (Yi u f c a q tn r n p o k m l),.agg (Yh g s x i d ra C B)])\/(g=3/\y=139/\args= #[.agg (Yi u f c a q tn r n p o k m l),.string x])\/(g=5/\y=141/\args= #[.agg (Yi u f c a q tn r n p o k m l),Zg i])\/(g=6/\y=142/\args= #[.agg (Yi u f c a q tn r n p o k m l),Zg i])\/(g=7/\y=53/\args= #[.agg (Yi u f c a q tn r n p o k m l),.string s]))(hV:∀b∈V,b<w.heap.size)(hc:∀X,Zz w X->w.heap.size+3<=X.heap.size->Calls prog y args X (Q X))(hf:∀X e t,Q X e t->Tn V X t/\∃(c0 c1 c2 c3 c4:Int) (M:Zk) (O N:Nat) (I:Zk) (K J:Nat) (E:Zk) (H F:Nat) (L:Zi) (G:Int) (U Y:Zi),e=.returned (.agg #[Zg c0,Zg c1,Zg c2,Zg c3,Zg c4,.slice M O N,.slice I K J,.slice E H F,.string L,Zg G,.string U,.string Y]))(hq:∀X e t j,Zz w X->w.heap.size+3<=X.heap.size->Q X e t->Tn [w.heap.size+2] t j->T e j):
 Calls prog 91 #[.agg (Yi u f c a q tn r n p o k m l),.agg (Yh g s x i d ra C B)] w T:=by
 obtain⟨W,A⟩:∃W,W=((w.alloc (.cells (Yi u f c a q tn r n p o k m l) 40)).alloc (.cells (Yh g s x i d ra C B) 66)).alloc (.cells Yg 88):=⟨_,rfl⟩;have Z:=(Bq A).1;have zE:=(Bq A).2.1;have x0:=(Bq A).2.2.1;have xe:Aa W (w.heap.size+1) (Ye g s x i d ra C B):=by have z:=Aa.new (w.alloc (.cells (Yi u f c a q tn r n p o k m l) 40)) (Ye g s x i d ra C B) 66;rw[World.size_alloc]at z;rw[A];exact Aa.below z (Zy)
 have x1:Aa W (w.heap.size+2) z12:=by have z:=Aa.new ((w.alloc (.cells (Yi u f c a q tn r n p o k m l) 40)).alloc (.cells (Yh g s x i d ra C B) 66)) z12 88;rw[World.size_alloc,World.size_alloc]at z;rw[A];exact z
 have HC:=Yx (hc W Z Yw);have HQ:Hid (∀e t j,Q W e t->Tn [w.heap.size+2] t j->T e j):=fun e t j z h2=>hq W e t j Z Yw z h2;have HF:=Yx (hf W);have P:Hid (Aa W (w.heap.size+2) z12):=x1;have HV:Hid (∀b∈V,b<w.heap.size):=hV;have HW:=Yx A;obtain⟨v0,v1,v2,v3,v4,v5,v6⟩:=Aa.c7 x0 0 1 2 3 4 5 6;obtain⟨e0,e1,e2,e3,e4,e5⟩:=Aa.c6 xe 0 1 2 3 4 5;clear A x0 xe x1 hc hq hf hV Z
 rcases hk with⟨rfl,rfl,rfl⟩|⟨rfl,rfl,rfl⟩|⟨rfl,rfl,rfl⟩|⟨rfl,rfl,rfl⟩|⟨rfl,rfl,rfl⟩|⟨rfl,rfl,rfl⟩
 all_goals
  go_enter func91,ntmps91;go_upto_region 1 with fail;rw[<-HW.o];clear HW;go_wp2_with fail;refine Calls.mono HC.o ?_;intro e w1 D;obtain⟨R,c0,c1,c2,c3,c4,M,O,N,I,K,J,E,H,F,L,G,U,Y,rfl⟩:=HF.o e w1 D;have S:Aa w1 (w.heap.size+2) z12:=Aa.same P.o (R.block _ P.o.lt (fun h=>by have:=HV.o _ h;omega))
  obtain⟨⟨y0,q0⟩,⟨y1,q1⟩,⟨y2,q2⟩,⟨y3,q3⟩,⟨y4,q4⟩,⟨y5,q5⟩,⟨y6,q6⟩,⟨y7,q7⟩,⟨y8,q8⟩,⟨y9,q9⟩,⟨zB,zF⟩,zC,zG⟩:=AY S;have zA:=Yx D;clear D S R v0 v1 v2 v3 v4 v5 v6 e0 e1 e2 e3 e4 e5 HC HF;go_wp2
  refine bodyPost_ret (v:=.agg #[Zg c0,Zg c1,Zg c2,Zg c3,Zg c4,.slice M O N,.slice I K J,.slice E H F,.string L,Zg G,.string U,.string Y]) (by simp[results,results91,go_sem,y0,y1,y2,y3,y4,y5,y6,y7,y8,y9,zB,zC]) rfl ?_;exact HQ.o _ _ _ zA.o (Bd w1 (w.heap.size+2) _ _ _ _ _ _ _ _ _ _ _ _)
theorem NY(j d b a:Int)(r o l:Zk)(tn t q p n m:Nat)(s M f:Zi)(g:Int)(ra:Zk)(O N:Nat)(w:Zh)(L:Int)(Q:Zh->Ending->Zh->Prop)(Q':Ending->Zh->Prop)(zO:∀X,Zz w X->Calls prog 50 #[.agg (Yi j d b a r tn t o q p l n m),.string s] X fun e i=>e=.returned (Zg L)/\Zz X i)(zN:0<=L->∀X,Zz w X->w.heap.size+3<=X.heap.size->Calls prog 47 #[.agg (Yi j d b a r tn t o q p l n m)] X fun e i=>(∃G I H D F E A C B,e=.returned (.agg (Yi j d b a G I H D F E A C B))/\∀Y,Zz i Y->Calls prog 140 #[.agg (Yi j d b a G I H D F E A C B),.string s,Zg g] Y (Q X))/\Zz X i)(hf:∀X e i,Zz w X->Q X e i->Zz X i/\∃(c0 c1 c2 c3 c4:Int) (G:Zk) (I H:Nat) (D:Zk) (F E:Nat) (A:Zk) (C B:Nat) (zA:Zi) (Z:Int) (a' b':Zi),e=.returned (.agg #[Zg c0,Zg c1,Zg c2,Zg c3,Zg c4,.slice G I H,.slice D F E,.slice A C B,.string zA,Zg Z,.string a',.string b']))(zR:L<0->∀i,Zz w i->Q' (.returned (.agg (Cq 2 ⟨#[]⟩ ⟨#[]⟩).toArray)) i)(hq:0<=L->∀X e i zT,Zz w X->w.heap.size+3<=X.heap.size->Q X e i->Tn [w.heap.size+2] i zT->Q' e zT):
 Calls prog 91 #[.agg (Yi j d b a r tn t o q p l n m),.agg (Yh 4 s M g f ra O N)] w Q':=by
 obtain⟨W,J⟩:∃W,W=((w.alloc (.cells (Yi j d b a r tn t o q p l n m) 40)).alloc (.cells (Yh 4 s M g f ra O N) 66)).alloc (.cells Yg 88):=⟨_,rfl⟩;have bW:=(Bq J).1;have zZ:=(Bq J).2.1;have k:=(Bq J).2.2.1;have y:Aa W (w.heap.size+1) (Ye 4 s M g f ra O N):=by have S:=Aa.new (w.alloc (.cells (Yi j d b a r tn t o q p l n m) 40)) (Ye 4 s M g f ra O N) 66;rw[World.size_alloc]at S;rw[J];exact Aa.below S (Zy)
 have P:Aa W (w.heap.size+2) z12:=by have S:=Aa.new ((w.alloc (.cells (Yi j d b a r tn t o q p l n m) 40)).alloc (.cells (Yh 4 s M g f ra O N) 66)) z12 88;rw[World.size_alloc,World.size_alloc]at S;rw[J];exact S
 have zH:=Yx (zO W bW);have K:Hid (∀X,Zz W X->Aa X w.heap.size (Yj j d b a r tn t o q p l n m)/\Aa X (w.heap.size+1) (Ye 4 s M g f ra O N)/\Aa X (w.heap.size+2) z12/\Zz w X):=fun X x=>⟨Aa.below k x,Aa.below y x,Aa.below (v:=Zf) P x,bW.trans (x.mono bW.size)⟩;have HW:=Yx J;have zG:=Yx zN;have HF:=Yx hf;have zV:=Yx zR;have HQ:=Yx hq;obtain⟨v0,v1,v2,v3,v4,v5,v6⟩:=Aa.c7 k 0 1 2 3 4 5 6
 obtain⟨e0,e1,e2,e3,e4,e5⟩:=Aa.c6 y 0 1 2 3 4 5;clear J k y P zO zN hf zR hq bW;go_enter func91,ntmps91;go_upto_region 1 with fail;rw[<-HW.o];clear HW;go_wp2_with fail;refine Calls.mono zH.o ?_;rintro e c ⟨rfl,zK⟩;have T:Hid (Zz W c):=zK;clear v0 v1 v2 v3 v4 v5 v6 e0 e1 e2 e3 e4 e5 zH zK;obtain⟨k,y,P,V⟩:=K.o c T.o;by_cases hneg:L<0
 .obtain⟨⟨y0,q0⟩,⟨y1,q1⟩,⟨y2,q2⟩,⟨y3,q3⟩,⟨y4,q4⟩,⟨y5,q5⟩,⟨y6,q6⟩,⟨y7,q7⟩,⟨y8,q8⟩,⟨y9,q9⟩,⟨zB,zX⟩,zC,zY⟩:=AY P;have zE:=Yx V;clear k y P V K;go_wp2;refine bodyPost_ret (v:=.agg (Cq 2 ⟨#[]⟩ ⟨#[]⟩).toArray) (by simp[results,results91,go_sem,y0,y1,y2,y3,y4,y5,y6,y7,y8,y9,zB,zC,Cq]) rfl ?_
  exact zV.o hneg _ (zE.o.trans (Tn.below (Bd c (w.heap.size+2) _ _ _ _ _ _ _ _ _ _ _ _) zE.o.size (by intro v hv;simp at hv;omega)))
 .have h0:0<=L:=Yw
  have D1:Below c.heap.size c c.drew:=(Below.refl _ _).drew;have bd:=T.o.trans (D1.mono T.o.size);have u:=(K.o _ bd).2.2.2;have zS:w.heap.size+3<=c.drew.heap.size:=by have:=bd.size;omega
  have zF:=Yx (zG.o h0 c.drew u zS);have z:=Yx bd
  have P1:c.drew.cell? (Ze (w.heap.size) 0)=some (Zg j)/\c.drew.cell? (Ze (w.heap.size) 1)=some (Zg d)/\c.drew.cell? (Ze (w.heap.size) 2)=some (Zg b)/\c.drew.cell? (Ze (w.heap.size) 3)=some (Zg a)/\c.drew.cell? (Ze (w.heap.size) 4)=some (.slice r tn t)/\c.drew.cell? (Ze (w.heap.size) 5)=some (.slice o q p)/\c.drew.cell? (Ze (w.heap.size) 6)=some (.slice l n m)/\c.drew.cell? (Ze (w.heap.size+1) 1)=some (.string s)/\c.drew.cell? (Ze (w.heap.size+1) 3)=some (Zg g):=⟨(k 0 _ rfl).1,(k 1 _ rfl).1,(k 2 _ rfl).1,(k 3 _ rfl).1,(k 4 _ rfl).1,(k 5 _ rfl).1,(k 6 _ rfl).1,(y 1 _ rfl).1,(y 3 _ rfl).1⟩
  have HS:Hid (∀X,Zz W X->X.cell? (Ze (w.heap.size) 0)=some (Zg j)/\X.cell? (Ze (w.heap.size) 1)=some (Zg d)/\X.cell? (Ze (w.heap.size) 2)=some (Zg b)/\X.cell? (Ze (w.heap.size) 3)=some (Zg a)/\X.cell? (Ze (w.heap.size) 4)=some (.slice r tn t)/\X.cell? (Ze (w.heap.size) 5)=some (.slice o q p)/\X.cell? (Ze (w.heap.size) 6)=some (.slice l n m)/\X.cell? (Ze (w.heap.size+1) 1)=some (.string s)/\X.cell? (Ze (w.heap.size+1) 3)=some (Zg g)):=fun X x=>by
   obtain⟨h,R,_⟩:=K.o X x;exact⟨(h 0 _ rfl).1,(h 1 _ rfl).1,(h 2 _ rfl).1,(h 3 _ rfl).1,(h 4 _ rfl).1,(h 5 _ rfl).1,(h 6 _ rfl).1,(R 1 _ rfl).1,(R 3 _ rfl).1⟩
  have zJ:Hid (∀X Y,Zz W X->Tn [w.heap.size+1+1] X Y->Y.cell? (Ze (w.heap.size) 0)=some (Zg j)/\Y.cell? (Ze (w.heap.size) 1)=some (Zg d)/\Y.cell? (Ze (w.heap.size) 2)=some (Zg b)/\Y.cell? (Ze (w.heap.size) 3)=some (Zg a)/\Y.cell? (Ze (w.heap.size) 4)=some (.slice r tn t)/\Y.cell? (Ze (w.heap.size) 5)=some (.slice o q p)/\Y.cell? (Ze (w.heap.size) 6)=some (.slice l n m)/\Y.cell? (Ze (w.heap.size+1) 1)=some (.string s)/\Y.cell? (Ze (w.heap.size+1) 3)=some (Zg g)):=fun X Y x hY=>by
   obtain⟨z0,z1,_⟩:=K.o X x;have h:=Aa.same z0 (hY.block _ z0.lt Yu);have R:=Aa.same z1 (hY.block _ z1.lt Yv);exact⟨(h 0 _ rfl).1,(h 1 _ rfl).1,(h 2 _ rfl).1,(h 3 _ rfl).1,(h 4 _ rfl).1,(h 5 _ rfl).1,(h 6 _ rfl).1,(R 1 _ rfl).1,(R 3 _ rfl).1⟩
  have zU:=hneg;clear k y P V bd P1;go_upto_region 11 with fail
  go_region_held3 (fun X=>X.cell? (Ze (w.heap.size) 0)=some (Zg j)/\X.cell? (Ze (w.heap.size) 1)=some (Zg d)/\X.cell? (Ze (w.heap.size) 2)=some (Zg b)/\X.cell? (Ze (w.heap.size) 3)=some (Zg a)/\X.cell? (Ze (w.heap.size) 4)=some (.slice r tn t)/\X.cell? (Ze (w.heap.size) 5)=some (.slice o q p)/\X.cell? (Ze (w.heap.size) 6)=some (.slice l n m)/\X.cell? (Ze (w.heap.size+1) 1)=some (.string s)/\X.cell? (Ze (w.heap.size+1) 3)=some (Zg g))
   (first|with_reducible exact HS.o _ z.o|with_reducible exact HS.o _ B2|with_reducible exact HS.o _ B3|with_reducible exact zJ.o _ _ B3 (Bd _ _ _ _ _ _ _ _ _ _ _ _ _ _))
   (first
     |(go_at_call 47;refine Calls.mono zF.o ?_;rintro e w2 ⟨⟨G,I,H,D,F,E,A,C,B,rfl,zP⟩,zM⟩;have B2:Below W.heap.size W w2:=z.o.trans (zM.mono z.o.size);have zI:=Yx (zP w2 (Below.refl _ _));clear zP zM)
     |(go_at_call 140;refine Calls.mono zI.o ?_;intro e w3 U;obtain⟨hb3,c0,c1,c2,c3,c4,ua',un',uc',va',vn',vc',xa',xn',xc',zA,Z,a',b',rfl⟩:=HF.o c.drew e w3 u U;have B3:Below W.heap.size W w3:=z.o.trans (hb3.mono z.o.size);have zW:=Yx U;obtain⟨_,_,zz1,_⟩:=K.o w3 B3;obtain⟨⟨y0,q0⟩,⟨y1,q1⟩,⟨y2,q2⟩,⟨y3,q3⟩,⟨y4,q4⟩,⟨y5,q5⟩,⟨y6,q6⟩,⟨y7,q7⟩,⟨y8,q8⟩,⟨y9,q9⟩,⟨zB,zX⟩,zC,zY⟩:=AY zz1;clear U hb3 zz1))
  clear zI zF HS zJ zG HF;go_wp2;refine bodyPost_ret (v:=.agg #[Zg c0,Zg c1,Zg c2,Zg c3,Zg c4,.slice ua' un' uc',.slice va' vn' vc',.slice xa' xn' xc',.string zA,Zg Z,.string a',.string b']) (by simp[results,results91,go_sem,y0,y1,y2,y3,y4,y5,y6,y7,y8,y9,zB,zC]) rfl ?_;exact HQ.o h0 c.drew _ _ _ u zS zW.o (Bd w3 (w.heap.size+2) _ _ _ _ _ _ _ _ _ _ _ _)
end Go.Proofs.YtcankpdbabaacaaGreatDoor
