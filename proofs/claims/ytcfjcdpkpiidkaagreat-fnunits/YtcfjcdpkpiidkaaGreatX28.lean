import Derived.Test.YtcfjcdpkpiidkaaGreatX26
set_option maxRecDepth 100000
set_option maxHeartbeats 16000000
namespace Go.Proofs.YtcfjcdpkpiidkaaGreat
open ChangeShapes WideShapes ChangeAt RowKit _root_.Go.Proofs.Tryz
variable{w X:Zh}{a k j n b1 b2 b3 b4 b5 y:Nat}{b c:Zl}{g e l:Zk}{f:List Pd}{d now num:Int}{o:An}{s:Zi}{r:Rs}{P L S U T Q M:Value}{v:Vd}
theorem CT.srows{b:Nat}{c:Zk}{i:List (Kd×Value)}{d:List Ld}(h:CT w a b g e c k j i f d):AW w w.heap.size g e c (i.map (·.1)) f d:=⟨h.cu,h.fp,h.fs⟩
def XG(r:Rs)(xa:Zk)(_:Nat)(pa:Zk)(pc:Nat)(la:Zk)(lc:Nat)(X:Zh):Prop:=
 ∃base b zs,zs.map (·.1)=r.ks/\CT X base b xa pa la pc lc zs r.ps r.ls
def XH(v:Vd)(cs:Zj)(V:List Nat)(X:Zh):Prop:=
 ∃base b p l tc pc lc zs,cs=[Zg v.P,Zg v.E,Zg v.G,Zg v.C,.slice (some ⟨b,0,none⟩) zs.length tc,.slice (some ⟨p,0,none⟩) v.ps.length pc,.slice (some ⟨l,0,none⟩) v.ls.length lc]/\V=[l]/\zs.map (·.1)=v.ks/\CT X base b (some ⟨b,0,none⟩) (some ⟨p,0,none⟩) (some ⟨l,0,none⟩) pc lc zs v.ps v.ls
theorem Fe.sz{c b:Int}{j:List Kd}{u:List Pd}{q:List Ld}{o:Int}{t:Zi}{f:Zi}{e:Zl}(l:1<=d)(h:∀k∈j,(k.sum.size:Int)=d)(g:Fe d now c b j u q o s t num f e r):∀k∈r.ks,(k.sum.size:Int)=d:=by
 rcases g with⟨rfl,_,n,m,y,z,g,rfl⟩|⟨_,_,i,rfl⟩|⟨_,_,rfl⟩|⟨_,_,n,m,rfl⟩|⟨_,_,rfl⟩|⟨_,B,rfl⟩|⟨_,_,_,rfl⟩
 .rcases g with⟨_,_,_,_,rfl,rfl⟩|⟨x,v,A,rfl,rfl⟩
  .exact h
  .intro k a;rcases List.mem_append.1 (NO.1 a)with a|a
   .exact h k a
   .rw[List.mem_singleton]at a;subst a;exact FA _ _ _ l
 .exact h
 .exact h
 .exact h
 .exact h
 .exact h
 .exact fun k a=>h k (List.filter_sublist.subset a)
theorem Wl{g:Int}{b:List Kd}(h:My g b):∀k∈b,∀s∈k.B,s≠⟨#[]⟩:=fun k d x f e=>by have a:=AV (h k d);obtain⟨i,c⟩:=List.getElem?_of_mem f;have:=a.size c;rw[e]at this;have j:=a.y;have l:((⟨#[]⟩:Zi).size:Int)=0:=rfl;omega
theorem Bb.jk{lo:Nat}{z:Nat}{a:Zj}{d:List Kd}{x:List Pd}{v:List Ld}(h:Bb X lo (.slice l n z) P L a d x v):∀A,l=some A->KJ X A d:=fun A r i k b y f=>by
 subst r;have s:=(Zw b).1;have t:i<a.length:=by rw[h.len];exact s
 have j:=Zv t;have e:=h.B i k _ b j;have u:(d.zip a)[i]?=some (k,a[i]):=List.getElem?_zip_eq_some.2 ⟨b,j⟩;have m:=BZ Cb u (show 3<4 by decide);rcases h.aj.2 with⟨c,_⟩|⟨g,cap,B,c,_⟩
 .cases c
 cases c;have o:=h.aj.cellAt (i *4+3) Yv;rw[Nat.zero_add,o,m]at f;have q:a[i]=.slice none k.B.length y:=by injection f
 rw[q]at e;exact Dy e rfl
structure Ov (w:Zh) (a:Va) (v:Vd):Prop where
 s:Ev a.g v.ss.length a.sc
 t:Ev a.X v.A.length a.Z
 q:Ev a.i v.D.length a.qc
 m:Ev a.j v.ms.length a.mc
 k:∀A,a.U=some A->KJ w A v.ks
 p:a.N=none->a.T=0
 l:a.K=none->a.Q=0
 so:∃rs,Bb w 0 (.slice a.U v.ks.length a.W) (.slice a.N v.ps.length a.T) (.slice a.K v.ls.length a.Q) rs v.ks v.ps v.ls
def Ll(v:Vd)(L:Nat)(X:Zh)(cs:Zj):Prop:=
 ∃a:Va,cs=Bn v (.slice a.g v.ss.length a.sc) (.slice a.X v.A.length a.Z) (.slice a.U v.ks.length a.W) (.slice a.N v.ps.length a.T) (.slice a.K v.ls.length a.Q) (.slice a.i v.D.length a.qc) (.slice a.j v.ms.length a.mc)/\CO X L a v/\Ov X a v
theorem PH{i k o m c:Zk}{l q d h f:Nat}{b:Zj}(t:Ah X b1 (.slice i v.ss.length j) v.ss)(u:Ah X b2 (.slice k v.A.length l) v.A)(a:Bb X b3 (.slice o v.ks.length q) (.slice m v.ps.length n) (.slice c v.ls.length d) b v.ks v.ps v.ls)(s:Ah X b4 (.slice g v.D.length h) v.D)(r:Ah X b5 (.slice e v.ms.length f) v.ms):
 Ll v X.heap.size X (Bn v (.slice i v.ss.length j) (.slice k v.A.length l) (.slice o v.ks.length q) (.slice m v.ps.length n) (.slice c v.ls.length d) (.slice g v.D.length h) (.slice e v.ms.length f)):=
 ⟨⟨i,j,k,l,o,q,m,n,c,d,g,h,e,f⟩,rfl,⟨t.ie,u.ie,a.get,s.ie,r.ie⟩,⟨t.cap,u.cap,s.cap,r.cap,a.jk,Dy a.pins,Dy a.aq,b,a.mono (Nat.zero_le _)⟩⟩
theorem AG.io{c:Zj}(h:AG X a S U T P L Q M c v):Ll v X.heap.size X (Bn v S U T P L Q M):=by obtain⟨s,u,b,q,m,_⟩:=h;obtain⟨y,z,rfl,d⟩:=s.row;obtain⟨C,D,rfl,e⟩:=u.row;obtain⟨A,B,o,r,j,k,rfl,rfl,rfl,f⟩:=b.rows;obtain⟨t,x,rfl,g⟩:=q.row;obtain⟨l,n,rfl,i⟩:=m.row;exact PH s u b q m
theorem AG.ir{d:Zh}{k:Zj}(h:AG d a S U T P L Q M k v)(m:n<=a)(f:Zz d X):∀V c,(∀b∈V,b<n)->Tn V X c->Ll v c.heap.size c (Bn v S U T P L Q M):=fun V c i g=>by refine(h.stays (((Tn.of (V:=[]) f).mono Yu).trans g) (fun b j e=> ?_)).io;have l:=h.y b e;have:=i b j;omega
theorem Wm{e:Ed}{n q x t j:Zk}{o f s u i c m:Nat}{d:Zl}{F:Zj}(C:v.wd=v.P)(J:Ah X b1 (.slice n v.ss.length o) v.ss)(K:Ah X b2 (.slice q f s) b)(D:b=v.A++[e.cn v.wd])(E:f=b.length)(B:Bb X b3 (.slice x r.ks.length y) (.slice t r.ps.length u) (.slice g r.ls.length i) F r.ks r.ps r.ls)(I:Ah X b4 (.slice l c m) d)(A:d=shQ v.H r.ks v.D v.ms (e.held r))(z:c=d.length)(H:Ah X b5 (.slice j v.ms.length k) v.ms):
 Ll (doV v e r) X.heap.size X [Zg v.wd,Zg v.lim,.slice n v.ss.length o,.slice q f s,Zg v.wd,Zg r.E,Zg r.G,Zg r.C,.slice x r.ks.length y,.slice t r.ps.length u,.slice g r.ls.length i,Zg v.H,.slice l c m,.slice j v.ms.length k,Zg v.O,Zg v.M,Zg v.ro]:=by
 subst E z;subst D A;obtain⟨a,h,G⟩:=PH (v:=doV v e r) (b1:=b1) (b2:=b2) (b3:=b3) (b4:=b4) (b5:=b5) J K B I H;refine⟨a,?_,G⟩;rw[<-h];unfold Bn doV;simp only[<-C]
def Wn(v:Vd)(e:Ed)(w:Zh)(o:Ending)(w':Zh):Prop:=
 ∃d vs,IC v e d/\o=.returned (.agg (dL d vs).toArray)/\(∀V X',(∀b∈V,b<w.heap.size)->Tn V w' X'->Ll d.v X'.heap.size X' vs)/\Zz w w'
theorem Jj{e:Ed}{c D:Zj}{d:Dd}(f:Aa X (w.heap.size+2) En/\Zz w X)(m:∀V a,(∀b∈V,b<w.heap.size+3)->Tn V X a->Ll d.v a.heap.size a c)(l:IC v e d)(q:c.length=17/\∀u∈c,u.oneCell'=true)(j:D=dL d c):
 (D.length=22/\∀u∈D,u.oneCell'=true)/\X.there (w.heap.size+2) 0 D.toArray.size/\Aa (X.setCells (w.heap.size+2) 0 D.toArray.toList) (w.heap.size+2) D/\Wn v e w (.returned (.agg D.toArray)) (X.setCells (w.heap.size+2) 0 D.toArray.toList):=by
 have g:D.length=22/\∀u∈D,u.oneCell'=true:=by rw[j];exact Lj q
 have k:=AF (w.heap.size+2) D 0 X;refine⟨g,?_,f.1.ar D (by rw[g.1];rfl),d,c,l,by rw[j],fun V a o n=>m ((w.heap.size+2)::V) a (fun b i=> ?_) ((k.mono Yu).trans (n.mono (by simp;intro b i;exact .inr i))),f.2.trans (k.below f.2.size Yu)⟩
 .rw[show D.toArray.size=22 from by rw[List.size_toArray];exact g.1];exact f.1.there
 .rcases List.mem_cons.1 i with h|h
  .omega
  .have:=o b h;omega
theorem Ov.cap{a:Va}(h:Ov w a v):TQ a v:=⟨h.s.2,h.t.2,h.m.1⟩
theorem Ov.cp{a:Va}(h:Ov w a v)(f:CO w w.heap.size a v)(b:Gu v)(g:Cl v):Ji w a v:=by
 obtain⟨r,d⟩:=g;have c:=Ol d;have i:v.ks.length<=600:=by have:=c.dl;unfold Ec at this;simp at this;omega
 exact⟨f,h.s.2,h.t.2,h.q,h.m,h.k,h.p,h.l,b.s,b.t,by have:=b.r.q;omega,by have:=b.r.m;omega,i,c.ok.pl,c.ok.ll,fun k e=>(c.ok.B k e).1⟩
def PN(ps:List Pd):Prop:=∀p∈ps,p.name.size<=40
theorem PN.step{m e b:Int}{q:List Kd}{j:List Pd}{t:List Ld}{l:Int}{i:Zi}{d:Zi}(h:PN j)(n:Ca l s i num d c m=true)(k:Fe m now e b q j t l s i num d c r):PN r.ps:=by
 have o:=(EK n).2.2.name;rcases k with⟨rfl,g,y,x,u,v,k,rfl⟩|⟨_,g,_,rfl⟩|⟨_,_,rfl⟩|⟨_,g,_,_,rfl⟩|⟨_,_,rfl⟩|⟨_,_,rfl⟩|⟨_,_,_,rfl⟩
 .exact h
 .intro p a;have f:p∈BD j i s:=a;unfold BD at f;rcases List.mem_append.1 f with a|a
  .rcases List.mem_append.1 a with a|a
   .exact h p (List.mem_filter.1 a).1
   .rw[List.mem_singleton.1 a];exact o
  .exact h p (List.mem_filter.1 a).1
 .exact fun p a=>h p (List.mem_filter.1 a).1
 .exact h
 .exact h
 .exact h
 .exact h
theorem Cx.pn{c:Int}:∀{xs:Zl} {r r':Rs},Cx c r xs r'->PN r.ps->PN r'.ps
 |[],r,r',h,hr=>by obtain rfl:r'=r:=h;exact hr
 |x::xs,r,r',h,hr=>by obtain⟨d,a,b⟩:=h;exact Cx.pn b (hr.step (GK a.1).1 a.2)
theorem SK{j a:Int}{h:List Kd}{g:List Pd}{i:List Ld}(c:Gr j now d a h g i)(f:RX j a h g i)(n:PN g)(v:j<=8):Gm h g i:=by
 have q:=c.ak;have r:=c.bt.len;have t:=c.np;have u:=c.nl
 refine⟨⟨Yo,fun k b=>by have:=c.bt.sz k b;unfold maxLen;omega,fun k b=>by have:=c.cn k b;unfold maxLen;omega,fun k b=>by have:=c.di k b;unfold maxLen;omega,fun k b s o=>by have:=f.rs k b s o;unfold maxLen;omega⟩,⟨Yo,fun p e=>by have:=n p e;unfold maxLen;omega,fun p e=>by have:=f.fg p e;unfold maxLen;omega⟩,⟨Yo,fun l m=>by have:=f.fv l m;unfold maxLen;omega⟩,fun k b=> ?_,Yv⟩
 have:=f.b1 k b;simp[Lit.wf,IntKind.min,IntKind.max,IntKind.signed,IntKind.bits];omega
theorem Em.ji(h:Em v r):RX v.wd v.C v.ks v.ps v.ls/\PN v.ps:=by have c:RX v.wd r.C r.ks r.ps r.ls:=h.run.rx (Fs h.wd.1 h.wd.2) ⟨by simp[r0],by simp[r0],by simp[r0],by simp[r0],by simp[r0]⟩;have b:=h.run.pn (by intro p g;cases g);obtain⟨⟨_,_,_,d⟩,e,a,f⟩:=h.same;rw[d,e,a,f]at c;rw[a]at b;exact⟨c,b⟩
def Ir(wd lim:Int)(ss tt:Zl)(o:An):Vd:=⟨wd,lim,ss,tt,o.wd,o.E,o.G,o.C,o.ks,o.ps,o.ls,0,[],[],0,0,0⟩
theorem Uj{a lim:Int}(d:((1<=a/\a<=8)/\(0<=lim/\lim<=1000000)/\Dg b c=true))(h:PD a (b++c) o):(o.code≠0/\GR a lim b c 2 v0)\/(o.code=0/\GR a lim b c 0 (Ir a lim b c o)):=by
 rcases h with⟨h,_⟩|⟨_,⟨n,h,rfl⟩|⟨r,h,rfl⟩⟩
 .exact absurd ⟨d.1,Eb d.2.2⟩ h
 .exact .inl ⟨Yu,.inr ⟨d,.inl ⟨⟨n,h⟩,rfl,rfl⟩⟩⟩
 .exact .inr ⟨rfl,.inr ⟨d,.inr ⟨r,h,rfl,rfl⟩⟩⟩
theorem SL{j a d:Zh}{r:Zj}{x l:Nat}{v t:Int}(m:Bb a j.heap.size T P L r o.ks o.ps o.ls)(u:Zz a d)(q:d.ownsRow a.heap.size 9 1 (Yz x b.length k) b.length (b.map Value.string))(i:d.ownsRow a.heap.size 9 1 (Yz y c.length l) c.length (c.map Value.string))(s:x≠y)(e:j.heap.size<=a.heap.size):
 AG d j.heap.size (Yz x b.length k) (Yz y c.length l) T P L Zb Zb r (Ir v t b c o):=by
 have f:=m.below u;have z:=(q.lt x rfl).1;have A:=(i.lt y rfl).1;refine⟨Ah.own (q.mono e),Ah.own (i.mono e),f,Ah.nil _ _,Ah.nil _ _,?_⟩;have n:=f.nd;rw[EJ]at n;have g:=m.co;unfold Dw;simp only[Aj,Option.toList_some,Option.toList_none,List.append_nil,List.singleton_append];refine List.nodup_cons.2 ⟨fun h=> ?_,List.nodup_cons.2 ⟨fun h=> ?_,n⟩⟩
 .rcases List.mem_cons.1 h with h|h
  .exact s h
  .have:=g x h;omega
 .have:=g y h;omega
theorem MC(m lim:Int)(a b:Zk)(c d:Nat)(f i:Zl)(w:Zh)(hr:Ab w w.heap.size a f)(hq:Ab w w.heap.size b i)(ha:a=none->f.length=0/\c=0)(hb:b=none->i.length=0/\d=0)(hl:f.length<=1048576)(zS:i.length<=1048576)(hs:∀s∈f,s.size<=1048576)(ht:∀s∈i,s.size<=1048576):
 Calls prog 48 #[Zg m,Zg lim,.agg #[.slice a f.length c,.slice b i.length d]] w (WU m lim f i w):=by
 obtain⟨W,hW⟩:=Af ((w.alloc (.cells #[.slice a f.length c,.slice b i.length d] 67)).alloc (.cells Xp 69));have M:=(Bf hW).1;have zW:=(Bf hW).2.1;have xW:=(Bf hW).2.2.1;have xZ:Aa W (w.heap.size+1) Xo:=by have h1:=Aa.new (w.alloc (.cells #[.slice a f.length c,.slice b i.length d] 67)) Xo 69;rw[World.size_alloc]at h1;rw[hW];exact h1
 have HX:Hid (Aa W _ _):=(Bf hW).2.2.1;have HZ:Hid (Aa W (w.heap.size+1) Xo):=xZ;have HR:Hid (∀X,Zz w X->Ab X X.heap.size a f/\Ab X X.heap.size b i):=fun X N=>⟨hr.L N,hq.L N⟩;have HW:=Yw hW;have R:=Yw (FL m W);have zA:=Yw (Cc lim 0 1000000 W);have zC:=Yw (DL a b c d f i W w.heap.size M.size (hr.below M) (hq.below M) hl zS hs ht);obtain⟨y0,y1⟩:=Aa.c2 xW 0 1;clear hW xW xZ hr hq
 by_cases hwd:1<=m/\m<=8
 .rw[decide_eq_true hwd]at R;by_cases hlim:0<=lim/\lim<=1000000
  .rw[decide_eq_true hlim]at zA;cases hlog:Dg f i with
   |true=>
    rw[hlog]at zC;have yT:=Eb hlog;obtain⟨xs,zI⟩:=Af (f++i);have HA:Hid (∀X,Zz w X->Calls prog 69 #[.agg #[.slice a f.length c,.slice b i.length d]] X fun e Z=>∃g cap,e=.returned (Yz g xs.length cap)/\Z.ownsRow X.heap.size 9 1 (Yz g xs.length cap) xs.length (xs.map Value.string)/\Zz X Z):=fun X N=>by rw[zI];exact Mg a b c d f i X (HR.o X N).1 (HR.o X N).2 ha hb hl zS
    have HS:Hid (∀(X:Zh) (g cap:Nat),Ab X X.heap.size (some ⟨g,0,none⟩) xs->Calls prog 68 #[Zg m,Yz g xs.length cap] X fun e Z=>∃(o:An) (z:Zk) (A:Nat) (r:Zk) (t:Nat) (n:Zk) (q:Nat) (rs:Zj),e=.returned (.agg #[Zg o.code,Zg o.wd,Zg o.E,Zg o.G,Zg o.C,.slice z o.ks.length A,.slice r o.ps.length t,.slice n o.ls.length q,.string o.sm,Zg o.le,.string o.a,.string o.b])/\PD m (f++i) o/\Bb Z X.heap.size (.slice z o.ks.length A) (.slice r o.ps.length t) (.slice n o.ls.length q) rs o.ks o.ps o.ls/\Zz X Z):=fun X g cap h=>by
     refine(JR m _ _ xs X h (by rw[zI];omega) (fun s hx=>by rw[zI]at hx;rcases List.mem_append.1 hx with h|h;exact hs s h;exact ht s h)).mono ?_;rintro e Z ⟨o,T,P,L,rs,I,rfl,hS,hb⟩;obtain⟨z,A,r,t,n,q,rfl,rfl,rfl,_⟩:=hS.rows;exact⟨o,z,A,r,t,n,q,rs,rfl,zI▸I,hS,hb⟩
    have HG:=Yw (Za hwd (Za hlim hlog));clear hs ht zI;go_enter func48,ntmps48;go_wp2_with fail;rw[<-HW.o];refine R.Am ?_;rintro e w1 ⟨rfl,j⟩;replace j:=j.symm;subst j;go_wp2_with fail;refine zA.Am ?_;rintro e w1 ⟨rfl,j⟩;replace j:=j.symm;subst j;go_wp2_with fail;refine zC.Am ?_;rintro e w2 ⟨rfl,zG⟩;have x2:=Aa.below HX.o zG;have yA:=Yw x2
    have yC:Hid (Aa w2 (w.heap.size+1) Xo):=Aa.below (v:=Ze) HZ.o zG;have z2:w.heap.size+2<=w2.heap.size:=by have:=zG.size;omega
    have zK:Hid (Zz w w2):=M.trans (zG.mono M.size);clear y0 y1 R zA zC zG HW HX HZ;obtain⟨y0,y1⟩:=Aa.c2 x2 0 1;clear x2;go_wp2_with fail;refine(HA.o w2 zK.o).mono ?_;rintro e w3 ⟨g,cap,rfl,yH,zH⟩;have yB:=Yw (Aa.below yA.o zH);have yD:Hid (Aa w3 (w.heap.size+1) Xo):=Aa.below (v:=Ze) yC.o zH;have z3:=zH.size;have zM:Hid (Zz w w3):=zK.o.trans (zH.mono zK.o.size);have yI:=Ab.own yH
    clear y0 y1 zH yA yC zK yH;go_wp2_with fail;refine(HS.o w3 g cap yI).mono ?_;rintro e O ⟨o,z,A,r,t,n,q,rs,rfl,I,yF,J⟩;have z4:=J.size;obtain⟨B,zF⟩:=Af (O.alloc (.cells #[Zg o.code,Zg o.wd,Zg o.E,Zg o.G,Zg o.C,.slice z o.ks.length A,.slice r o.ps.length t,.slice n o.ls.length q,.string o.sm,Zg o.le,.string o.a,.string o.b] 115));have zE:=(AL zF).1;have yU:=(AL zF).2.1
    have zR:Hid (Aa B _ _):=(AL zF).2.2;have zP:=Yw (Aa.below (Aa.below yB.o J) zE);have zB:Hid (Aa B (w.heap.size+1) Xo):=Aa.below (v:=Ze) (Aa.below (v:=Ze) yD.o J) zE;have D:Hid (Zz w B):=(zM.o.trans (J.mono zM.o.size)).trans (zE.mono (Zm zM.o.size z4));have zY:Hid (Bb B w3.heap.size (.slice z o.ks.length A) (.slice r o.ps.length t) (.slice n o.ls.length q) rs o.ks o.ps o.ls):=yF.below zE
    have zT:Hid (w3.heap.size<=B.heap.size):=by show w3.heap.size<=B.heap.size;omega
    have HC:Hid (∀X,Zz B X->Calls prog 70 #[.agg #[.slice a f.length c,.slice b i.length d]] X fun e Z=>∃x E y F,e=.returned (.agg #[Yz x f.length E,Yz y i.length F])/\Z.ownsRow X.heap.size 9 1 (Yz x f.length E) f.length (f.map Value.string)/\Z.ownsRow X.heap.size 9 1 (Yz y i.length F) i.length (i.map Value.string)/\x≠y/\Zz X Z):=fun X N=>Mb a b c d f i X (HR.o X (D.o.trans (N.mono D.o.size))).1 (HR.o X (D.o.trans (N.mono D.o.size))).2 ha hb hl zS
    obtain⟨⟨yQ,_⟩,_⟩:=UD zR.o;have zO:=Yw (Uj (lim:=lim) HG.o I);have zN:=Yw zF;clear I yF J zE zF yB yD zM HA HS HR HG yI;rcases zO.o with⟨Y,I⟩|⟨Y,I⟩
    .have yM:(o.code==0)=false:=by simpa using Y
     have yN:(o.code !=0)=true:=by simpa using Y
     have U:Hid (GR m lim f i 2 v0):=I;clear zO I Y HC zY zP;go_upto_region 4 with fail;rw[<-zN.o];clear zN;have k:(Xp:Array Value).all (·.oneCell')=true:=by simp[Value.oneCell']
     have H:B.there (w.heap.size+1) 0 17:=(zB.o).there;have G:=Yw (Zn k H);obtain⟨C,l⟩:=Af (B.setCells (w.heap.size+1) 0 Xo);have Q:Aa C (w.heap.size+1) Xo:=by rw[l];exact(zB.o).ar _ rfl
     have b9:Below w.heap.size w C:=(D.o).trans (by rw[l];exact(AF _ _ _ _).below (D.o).size Yu);have V:=Yw l;clear k H l;go_wp2_with (refine wpList_store_mid rfl 69 _ _ rfl (w.heap.size+1) 0 Xp rfl rfl G.o.2 Yr G.o.1 ?_);rw[<-V.o];refine bodyPost_ret (Fu results48 _ _ (w.heap.size+1) Xo _ rfl rfl Q.range underlying69 rfl Yr) rfl ?_
     exact⟨2,v0,_,_,_,_,_,_,_,[],U.o,rfl,AG.nil _ _,b9⟩
    .have yM:(o.code==0)=true:=by simpa using Y
     have yN:(o.code !=0)=false:=by simpa using Y
     have zU:Hid (GR m lim f i 0 (Ir m lim f i o)):=I;clear zO I Y
     have zZ:Hid (∀X,Zz B X->X.rangeAt w.heap.size 0 [.slice a f.length c,.slice b i.length d]/\X.rangeAt O.heap.size 1 (Yh o.wd o.E o.G o.C z o.ks.length A r o.ps.length t n o.ls.length q)):=fun X N=>⟨(Aa.below zP.o N).range,Aa.fh [Zg o.code] (Yh o.wd o.E o.G o.C z o.ks.length A r o.ps.length t n o.ls.length q) [.string o.sm,Zg o.le,.string o.a,.string o.b] (Aa.below zR.o N)⟩
     go_upto_region 6 with fail;rw[<-zN.o];clear zN yQ
     go_cut [7] (fun u wx=>u=Zg 0/\∃x E y F,Hid (Aa wx (w.heap.size+1) [Zg m,Zg lim,Yz x f.length E,Yz y i.length F,Zg o.wd,Zg o.E,Zg o.G,Zg o.C,.slice z o.ks.length A,.slice r o.ps.length t,.slice n o.ls.length q,Ze,Zb,Zb,Ze,Ze,Ze]/\Zz w wx/\AG wx w.heap.size (Yz x f.length E) (Yz y i.length F) (.slice z o.ks.length A) (.slice r o.ps.length t) (.slice n o.ls.length q) Zb Zb rs (Ir m lim f i o)))
     case first=>
      refine wp_region_held_drew (S:=fun X=>X.rangeAt w.heap.size 0 [.slice a f.length c,.slice b i.length d]/\X.rangeAt O.heap.size 1 (Yh o.wd o.E o.G o.C z o.ks.length A r o.ps.length t n o.ls.length q)) Yr (zZ.o _ Ad.drew) (fun hS=> ?_);refine BF 0 (Zg m) ?_;refine BF 1 (Zg lim) ?_
      refine EG 2 (.agg #[.slice a f.length c,.slice b i.length d]) rfl (by exact yieldsIf_load_mid Yp 67 _ rfl (w.heap.size) 0 rfl [.slice a f.length c,.slice b i.length d] _ (fun X h=>h.1) underlying67 rfl Yr) ?_;refine BF 4 (Yx O.heap.size 1) ?_
      refine EG 5 (.agg (Yg o.wd o.E o.G o.C z o.ks.length A r o.ps.length t n o.ls.length q)) rfl (by exact yieldsIf_load_mid Yp 27 _ rfl (O.heap.size) 1 rfl (Yh o.wd o.E o.G o.C z o.ks.length A r o.ps.length t n o.ls.length q) _ (fun X h=>h.2) underlying27 rfl Yr) ?_;try simp only[Act.put]
      refine Cm 3 (fun K hK=> ?_);go_simp;refine(HC.o B.drew Ad.drew).mono ?_;rintro e w5 ⟨x,E,y,F,rfl,yP,zX,zV,yL⟩;have B5:Below B.heap.size B w5:=(Below.refl B.heap.size B).drew.trans yL;try go_simp
      refine hK.out _ _ (zZ.o w5 B5) (fun yR=> ?_);clear hK K;try simp only[Act.put]
      refine BF 6 (.agg #[Zg m,Zg lim,Yz x f.length E,Yz y i.length F,Zg o.wd,Zg o.E,Zg o.G,Zg o.C,.slice z o.ks.length A,.slice r o.ps.length t,.slice n o.ls.length q,Ze,Zb,Zb,Ze,Ze,Ze]) ?_;try simp only[Act.put]
      refine Cm 7 (fun K hK=> ?_);have yG:AG w5 w3.heap.size (Yz x f.length E) (Yz y i.length F) (.slice z o.ks.length A) (.slice r o.ps.length t) (.slice n o.ls.length q) Zb Zb rs (Ir m lim f i o):=SL zY.o B5 yP zX zV zT.o
      have k:(#[Zg m,Zg lim,Yz x f.length E,Yz y i.length F,Zg o.wd,Zg o.E,Zg o.G,Zg o.C,.slice z o.ks.length A,.slice r o.ps.length t,.slice n o.ls.length q,Ze,Zb,Zb,Ze,Ze,Ze]:Array Value).all (·.oneCell')=true:=by simp[Value.oneCell']
      have yE:Aa w5 (w.heap.size+1) Xo:=Aa.below (v:=Ze) zB.o B5;obtain⟨C,l⟩:=Af (w5.setCells (w.heap.size+1) 0 [Zg m,Zg lim,Yz x f.length E,Yz y i.length F,Zg o.wd,Zg o.E,Zg o.G,Zg o.C,.slice z o.ks.length A,.slice r o.ps.length t,.slice n o.ls.length q,Ze,Zb,Zb,Ze,Ze,Ze])
      have Q:Aa C (w.heap.size+1) [Zg m,Zg lim,Yz x f.length E,Yz y i.length F,Zg o.wd,Zg o.E,Zg o.G,Zg o.C,.slice z o.ks.length A,.slice r o.ps.length t,.slice n o.ls.length q,Ze,Zb,Zb,Ze,Ze,Ze]:=by rw[l];exact yE.ar _ rfl
      have t9:Tn [w.heap.size+1] w5 C:=by rw[l];exact AF _ _ _ _
      have z5:=B5.size;have B9:Below w.heap.size w C:=(D.o.trans (B5.mono D.o.size)).trans (t9.below (by have:=D.o.size;omega) Yu);have yK:AG C w.heap.size (Yz x f.length E) (Yz y i.length F) (.slice z o.ks.length A) (.slice r o.ps.length t) (.slice n o.ls.length q) Zb Zb rs (Ir m lim f i o):=(yG.stays t9 (fun g hg yO=>by have:=yG.y g yO;simp at hg;omega)).mono Yv
      have zJ:=Yw (Zn Q (Zn B9 yK))
      have yJ:C.rangeAt w.heap.size 0 [.slice a f.length c,.slice b i.length d]/\C.rangeAt O.heap.size 1 (Yh o.wd o.E o.G o.C z o.ks.length A r o.ps.length t n o.ls.length q):=⟨(Aa.same (Aa.below zP.o B5) (t9.block _ Yv Yu)).range,Aa.fh [Zg o.code] (Yh o.wd o.E o.G o.C z o.ks.length A r o.ps.length t n o.ls.length q) [.string o.sm,Zg o.le,.string o.a,.string o.b] (Aa.same (Aa.below zR.o B5) (t9.block _ Yv Yt))⟩
      rw[if_pos Yp];refine wp_store_mid 69 _ _ rfl (w.heap.size+1) 0 #[Zg m,Zg lim,Yz x f.length E,Yz y i.length F,Zg o.wd,Zg o.E,Zg o.G,Zg o.C,.slice z o.ks.length A,.slice r o.ps.length t,.slice n o.ls.length q,Ze,Zb,Zb,Ze,Ze,Ze] rfl rfl yE.there Yr k ?_;try rw[<-l]
      refine hK.out _ _ yJ (fun yS=> ?_);clear hK K;try simp only[Act.put]
      refine BF 8 Ze ?_;try simp only[Act.put]
      refine wpAnyH_done Yr ?_ _;go_wp2_with fail;go_meet;exact⟨rfl,x,E,y,F,zJ.o.1,zJ.o.2⟩
     case rest=>
      obtain⟨rfl,x,E,y,F,HQ⟩:=hcut;have Q:=HQ.o.1;go_wp2;refine bodyPost_ret (Fu results48 _ _ (w.heap.size+1) [Zg m,Zg lim,Yz x f.length E,Yz y i.length F,Zg o.wd,Zg o.E,Zg o.G,Zg o.C,.slice z o.ks.length A,.slice r o.ps.length t,.slice n o.ls.length q,Ze,Zb,Zb,Ze,Ze,Ze] _ rfl rfl Q.range underlying69 rfl Yr) rfl ?_
      exact⟨0,Ir m lim f i o,_,_,_,_,_,_,_,rs,zU.o,rfl,HQ.o.2.2,HQ.o.2.1⟩
   |false=>
    rw[hlog]at zC;have U:Hid (GR m lim f i 1 v0):=.inl ⟨fun h=>by rw[hlog]at h;exact absurd h.2.2 Yu,rfl,rfl⟩;go_enter func48,ntmps48;go_wp2_with fail;rw[<-HW.o];refine R.Am ?_;rintro e w1 ⟨rfl,j⟩;replace j:=j.symm;subst j;go_wp2_with fail;refine zA.Am ?_;rintro e w1 ⟨rfl,j⟩;replace j:=j.symm;subst j;go_wp2_with fail;refine zC.Am ?_;rintro e O ⟨rfl,J⟩
    have zB:Hid (Aa O (w.heap.size+1) Xo):=Aa.below (v:=Ze) HZ.o J;have D:Hid (Zz w O):=M.trans (J.mono M.size);clear y0 y1 J HX HZ;have k:(Xp:Array Value).all (·.oneCell')=true:=by simp[Value.oneCell']
    have H:O.there (w.heap.size+1) 0 17:=(zB.o).there;have G:=Yw (Zn k H);obtain⟨C,l⟩:=Af (O.setCells (w.heap.size+1) 0 Xo);have Q:Aa C (w.heap.size+1) Xo:=by rw[l];exact(zB.o).ar _ rfl
    have b9:Below w.heap.size w C:=(D.o).trans (by rw[l];exact(AF _ _ _ _).below (D.o).size Yu);have V:=Yw l;clear k H l;go_wp2_with (refine wpList_store_mid rfl 69 _ _ rfl (w.heap.size+1) 0 Xp rfl rfl G.o.2 Yr G.o.1 ?_);rw[<-V.o];refine bodyPost_ret (Fu results48 _ _ (w.heap.size+1) Xo _ rfl rfl Q.range underlying69 rfl Yr) rfl ?_
    exact⟨1,v0,_,_,_,_,_,_,_,[],U.o,rfl,AG.nil _ _,b9⟩
  .rw[decide_eq_false hlim]at zA;have U:Hid (GR m lim f i 1 v0):=.inl ⟨fun h=>hlim h.2.1,rfl,rfl⟩;go_enter func48,ntmps48;go_wp2_with fail;rw[<-HW.o];refine R.Am ?_;rintro e w1 ⟨rfl,j⟩;replace j:=j.symm;subst j;go_wp2_with fail;refine zA.Am ?_;rintro e w1 ⟨rfl,j⟩;replace j:=j.symm;subst j;clear y0 y1 HX;have k:(Xp:Array Value).all (·.oneCell')=true:=by simp[Value.oneCell']
   have H:W.there (w.heap.size+1) 0 17:=(HZ.o).there;have G:=Yw (Zn k H);obtain⟨C,l⟩:=Af (W.setCells (w.heap.size+1) 0 Xo);have Q:Aa C (w.heap.size+1) Xo:=by rw[l];exact(HZ.o).ar _ rfl
   have b9:Below w.heap.size w C:=(M).trans (by rw[l];exact(AF _ _ _ _).below (M).size Yu);have V:=Yw l;clear k H l;go_wp2_with (refine wpList_store_mid rfl 69 _ _ rfl (w.heap.size+1) 0 Xp rfl rfl G.o.2 Yr G.o.1 ?_);rw[<-V.o];refine bodyPost_ret (Fu results48 _ _ (w.heap.size+1) Xo _ rfl rfl Q.range underlying69 rfl Yr) rfl ?_
   exact⟨1,v0,_,_,_,_,_,_,_,[],U.o,rfl,AG.nil _ _,b9⟩
 .rw[decide_eq_false hwd]at R;have U:Hid (GR m lim f i 1 v0):=.inl ⟨fun h=>hwd h.1,rfl,rfl⟩;go_enter func48,ntmps48;go_wp2_with fail;rw[<-HW.o];refine R.Am ?_;rintro e w1 ⟨rfl,j⟩;replace j:=j.symm;subst j;clear y0 y1 HX;have k:(Xp:Array Value).all (·.oneCell')=true:=by simp[Value.oneCell']
  have H:W.there (w.heap.size+1) 0 17:=(HZ.o).there;have G:=Yw (Zn k H);obtain⟨C,l⟩:=Af (W.setCells (w.heap.size+1) 0 Xo);have Q:Aa C (w.heap.size+1) Xo:=by rw[l];exact(HZ.o).ar _ rfl
  have b9:Below w.heap.size w C:=(M).trans (by rw[l];exact(AF _ _ _ _).below (M).size Yu);have V:=Yw l;clear k H l;go_wp2_with (refine wpList_store_mid rfl 69 _ _ rfl (w.heap.size+1) 0 Xp rfl rfl G.o.2 Yr G.o.1 ?_);rw[<-V.o];refine bodyPost_ret (Fu results48 _ _ (w.heap.size+1) Xo _ rfl rfl Q.range underlying69 rfl Yr) rfl ?_
  exact⟨1,v0,_,_,_,_,_,_,_,[],U.o,rfl,AG.nil _ _,b9⟩
theorem ClTo.civ{g a:Int}{e:List Ld}{free d:Nat}{u:UR}{o:Option (UR×Nat)}(h:ClTo a f e free d n u o):Jg g a f e free u->∀p∈o,Jg g a f e free p.1:=by
 induction h with
 |fin n u h=>intro b p c;cases c;exact b
 |old n u h hr=>intro b p c;cases c
 |full n u r h hr ht hd hf=>intro b p c;cases c;exact b
 |long n u r h hr ht hl=>intro b p c;cases c
 |step n u r o h hr ht hq hm hf hs ih=>exact fun b=>ih (b.step ht hr hq hm hf)
theorem Uk(a:Int)(s:Zi):(ID a s).size<=5000:=by
 unfold ID;by_cases h:Ca 7 s ⟨#[]⟩ 0 ⟨#[]⟩ [] a=true
 .exact Ed.fe (e:=⟨7,s,⟨#[]⟩,0,⟨#[]⟩,[]⟩) h
 .unfold Cw;rw[if_neg h];exact Nat.zero_le _
end Go.Proofs.YtcfjcdpkpiidkaaGreat
