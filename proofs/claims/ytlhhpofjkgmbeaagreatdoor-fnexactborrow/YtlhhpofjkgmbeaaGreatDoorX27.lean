import Derived.Test.YtlhhpofjkgmbeaaGreatDoorX26
set_option maxRecDepth 100000
set_option maxHeartbeats 16000000
namespace Go.Proofs.YtlhhpofjkgmbeaaGreatDoor
open Go.ChangeShapes Go.WideShapes Go.ChangeAt Go.RowKit _root_.Go.Proofs.Tryz
def OE(wd:Int)(ks:List Kd):Prop:=∀k∈ks,AJ k.text k.refs wd=true
theorem OE.step{b l given ae:Int}{i:List Kd}{q:List Pd}{p:List Ld}{g:Int}{s j:Zi}{c:Int}{text:Zi}{refs:Zl}(h:OE b i)(m:Cg g s j c text refs b=true){r:Rs}(d:DP b l given ae i q p g s j c text refs r):OE b r.ks:=by
 obtain⟨z,A,e⟩:=Gg m;rcases d with⟨rfl,_,o,n,v,w,d,rfl⟩|⟨_,_,f,rfl⟩|⟨_,_,rfl⟩|⟨_,_,o,n,rfl⟩|⟨_,_,rfl⟩|⟨_,y,rfl⟩|⟨_,_,_,rfl⟩
 ·rcases d with⟨_,_,_,_,rfl,rfl⟩|⟨u,t,x,rfl,rfl⟩
  ·exact h
  ·intro k a;rcases List.mem_append.1 (GR.1 a)with a|a
   ·exact h k a
   ·rw[List.mem_singleton]at a;subst a;exact e.dh rfl
 ·exact h
 ·exact h
 ·exact h
 ·exact h
 ·exact h
 ·exact fun k a=>h k (List.filter_sublist.subset a)
theorem Da.tok{a:Int}:∀{xs:Zl} {r r':Rs},Da a r xs r'->OE a r.ks->OE a r'.ks
 |[],r,r',h,hr=>by obtain rfl:r'=r:=h;exact hr
 |x::xs,r,r',h,hr=>by obtain⟨d,b,c⟩:=h;exact Da.tok c (hr.step (Hq b.1).1 b.2)
theorem CM.tok{v:Vd}{r:Rs}(h:CM v r):OE v.wd v.ks:=by have a:=h.run.tok (by intro k b;cases b);rwa[h.same.2.1]at a
def IH(w:Zh)(lo:Nat)(a:Zk)(ss:Zl):Prop:=
 ss=[]∨∃b off,a=some ⟨b,off,none⟩/\b<lo/\(∃cur,w.heap[b]?=some (.cells cur 9))/\∀i s,ss[i]?=some s->w.cell? (Ze b (off+i))=some (.string s)
theorem IH.below{w g:Zh}{lo:Nat}{a:Zk}{f:Zl}(h:IH w lo a f)(e:Below lo w g):IH g lo a f:=by
 rcases h with h|⟨b,c,k,d,⟨j,l⟩,n⟩
 ·exact .inl h
 ·exact .inr ⟨b,c,k,d,⟨j,(e.block b d).trans l⟩,fun i s m=>(e.cell (p:=⟨b,c+i,none⟩) d).trans (n i s m)⟩
theorem IH.row{w:Zh}{lo:Nat}{a:Zk}{c:Zl}(h:IH w lo a c)(g:lo<=w.heap.size):Ad w w.heap.size a c:=by
 rcases h with h|⟨b,d,e,f,_,i⟩
 ·exact .inl h
 ·exact .inr ⟨b,d,e,Zr f g,i⟩
theorem IH.ay{w:Zh}{lo:Nat}{V:List Nat}{a:Zk}{c:Zl}(h:IH w lo a c)(j:lo<=w.heap.size)(e:∀b∈V,lo<=b):De w 0 V a c:=by
 rcases h with h|⟨b,d,f,g,i,k⟩
 ·exact .inl h
 ·exact .inr ⟨b,d,f,Zr g j,fun h=>by have:=e b h;omega,.inr ⟨Nat.zero_le _,i⟩,k⟩
theorem Dr.zero{V:Zh}{base d m:Nat}{O P L:Value}{k a given ae:Int}{g:List Kd}{j:List Pd}{i:List Ld}(h:Dr V base d m O P L k a given ae g j i)(E:base+4<=m):Dr V 0 d m O P L k a given ae g j i:=by
 obtain⟨n,f,o,p,q⟩:=h.map;refine⟨h.box,⟨n,f,o,p,fun s x=> ?_⟩,h.ord.mono (Nat.zero_le _),h.ci.mono (Nat.zero_le _),h.ck.mono (Nat.zero_le _),Nat.zero_le _,Nat.zero_le _,h.ap⟩;rcases q s x with h|⟨u,C,D,z,A,B,e⟩
 ·exact .inl h
 ·refine .inr ⟨u,C,D,z,A,B,?_⟩;rcases e with e|⟨b,l,r,t,y,c,v⟩
  ·exact .inl e
  ·refine .inr ⟨b,l,r,t,y,.inr ⟨Nat.zero_le _,?_⟩,v⟩;rcases c with⟨_,G,w,F⟩|⟨_,c⟩
   ·simp[vB]at w;omega
   ·exact c
theorem Dr.low{w:Zh}{base d m:Nat}{O P L:Value}{j f given ae:Int}{g:List Kd}{i:List Pd}{h:List Ld}(a:Dr w base d m O P L j f given ae g i h):∀b∈vB d m O P L,base<=b:=by
 intro b c;unfold vB at c;simp only[List.mem_cons,List.mem_append,Option.mem_toList]at c;rcases c with rfl|rfl|e|e|e
 ·exact a.bd
 ·exact a.bm
 ·exact(Ac a.ord e).1
 ·exact(Ac a.ci e).1
 ·exact(Ac a.ck e).1
theorem IN.has{d m:Nat}{a:Int}{r:Rs}{X Z:Zh}(h:IN 0 d m a r X)(b:∀k∈r.ks,(k.sum.size:Int)=a)(g:Z.heap[m]?=X.heap[m]?)(s:Zi):VD Z a m r.ks s:=by obtain⟨O,P,L,h⟩:=h;obtain⟨n,f,i,c,e⟩:=h.map;exact IV a m n f r.ks X X.heap.size s Z (c.same g) e.holds b
theorem IN.an{d m:Nat}{f:Int}{r:Rs}{X c:Zh}{R:Nat}(h:IN 0 d m f r X)(g:R≠d)(a:X.heap.size<=R∨∃b,X.heap[R]?=some (.cells b 82))(e:Tn [R] X c):IN 0 d m f r c:=by
 rcases a with a|⟨b,a⟩
 ·obtain⟨O,P,L,h⟩:=h;exact⟨O,P,L,h.below (e.below (Zx) (by simp;exact a))⟩
 ·exact h.stays a (Nat.zero_le _) g e
theorem TO{T e:TypeId}{B b:Nat}{c:Zj}{w i:Zh}(h:Lib.IsBuilder T e B b c w)(a:Zz w i):Lib.IsBuilder T e B b c i:=by
 have g:∀p,Lib.BuilderAt T e B b p c w->Lib.BuilderAt T e B b p c i:=by rintro p ⟨m,v,f,d,l⟩;have j:b<w.heap.size:=(Array.getElem?_eq_some_iff.1 f).1;exact⟨m,v,(a.block b j).trans f,d.kept (row:=none) ⟨a.os,a.tape,a.output,a.size,fun k n _=>a.block k n⟩ (by cases hv:v.ownBlock<;>simp),l⟩
 rcases h with h|h
 ·exact .inl (g _ h)
 ·exact .inr (g _ h)
theorem Vo(k n m:Int)(b:0<=n)(c:n<=1000000000)(j:Nat)(a:j<4):
 Lib.byteCells ((BZ k n m).take (1+j))++[Value.int .u8 (n/2^(8 *(3 -j))%256)]=Lib.byteCells ((BZ k n m).take (1+(j+1))):=by
 rw[EG (n/2^(8 *(3 -j))%256) (by omega) (by omega)]
 match j,a with
 |0,_=>
  have:n/2^(8 *(3 -0))%256=n/16777216:=by show n/16777216%256=n/16777216;omega
  rw[this];rfl
 |1,_=>rfl
 |2,_=>rfl
 |3,_=>
  have:n/2^(8 *(3 -3))%256=n%256:=by show n/1%256=n%256;omega
  rw[this];rfl
theorem Vp(k n m:Int)(a:0<=m)(b:m<256):Lib.byteCells ((BZ k n m).take (1+4))++[Value.int .u8 m]=Lib.byteCells (BZ k n m):=by rw[EG m a b];rfl
theorem Jy(k n m:Int)(j:Nat):(Lib.byteCells ((BZ k n m).take j)).length<=6:=by rw[Lib.byteCells_length];have:(BZ k n m).length=6:=rfl;simp[this];omega
theorem TP(k:Nat)(f name:Zi)(n:Int)(t:Zi)(A:Zk)(u:Nat)(g:Zl)(P:Int)(w:Zh)(hT:Jk w)(h1:1<=k)(h7:k<=7)
 (y:Ad w w.heap.size A g) (hl:g.length<=1048576) (ht:t.size<=maxLen) (H:CG k f name n t g P=true):
 Calls prog 104 #[.agg (Ep k f name n t A g.length u),Zg P] w fun e w'=>e=.returned (.string ⟨(CR k f name n t g).toArray⟩)/\Zz w w':=by
 have hp:=DZ H;obtain⟨zW,zX,zO,zE,zK,zM,I⟩:=hp;have E:Below w.heap.size w (w.alloc (.cells (Ep k f name n t A g.length u) 60)):=Zy;go_enter func104,ntmps104;go_wp2_with fail;refine(KZ k f name n t A u g P _ (hT.below E) h1 h7 (y.af E) hl ht (by unfold maxLen;omega)).mono ?_;rintro e a ⟨rfl,o⟩;rw[H];have hz:=o.size;simp at hz;have d:w.heap.size<a.heap.size:=by omega
 have r:=E.trans (o.mono (by simp));have x0:a.cell? (Ze (w.heap.size) 0)=some (Zg k):=by rw[o.cell (p:=⟨w.heap.size,0,none⟩) (by simp)];simp
 have x1:a.cell? (Ze (w.heap.size) 1)=some (.string f):=by rw[o.cell (p:=⟨w.heap.size,1,none⟩) (by simp)];simp
 have x2:a.cell? (Ze (w.heap.size) 2)=some (.string name):=by rw[o.cell (p:=⟨w.heap.size,2,none⟩) (by simp)];simp
 have x3:a.cell? (Ze (w.heap.size) 3)=some (Zg n):=by rw[o.cell (p:=⟨w.heap.size,3,none⟩) (by simp)];simp
 have x4:a.cell? (Ze (w.heap.size) 4)=some (.string t):=by rw[o.cell (p:=⟨w.heap.size,4,none⟩) (by simp)];simp
 have x5:a.cell? (Ze (w.heap.size) 5)=some (.slice A g.length u):=by rw[o.cell (p:=⟨w.heap.size,5,none⟩) (by simp)];simp
 have J:=y.below r;have zG:=Yx H;clear H I y o E;have s:=Lib.fresh_isBuilder 206 5 a;have X:Below a.heap.size a (a.alloc (.cells #[.pointer none,Zc] 206)):=Zy;go_wp2_with fail;refine(EU a.heap.size a.heap.size [] _ _ s (by simp) (by simp)).mono ?_;rintro e w2 ⟨rfl,v,V⟩;have Y:=X.trans V;have zA:[]++[Value.int .u8 (k:Int)]=Lib.byteCells ((BZ k n name.size).take 1):=by rw[EG k (by omega) (by omega)];rfl
 rw[zA]at v;clear s X V zA;go_wp2
 go_loopw [15] (fun i wr=>∃(j:Nat),j<=4/\i=Zg j/\Lib.IsBuilder 206 5 a.heap.size a.heap.size (Lib.byteCells ((BZ k n name.size).take (1+j))) wr/\Zz a wr) (fun i _=>4 -(intOf i).toNat)
 case atStart=>exact⟨0,Nat.zero_le _,rfl,v,Y⟩
 case round=>
  clear v Y;obtain⟨j,hj,rfl,s,c⟩:=hrel;have zC:=c.size;have y0:wr.cell? (Ze (w.heap.size) 0)=some (Zg k):=(c.cell (p:=⟨w.heap.size,0,none⟩) d).trans x0;have Q:wr.cell? (Ze (w.heap.size) 1)=some (.string f):=(c.cell (p:=⟨w.heap.size,1,none⟩) d).trans x1;have y2:wr.cell? (Ze (w.heap.size) 2)=some (.string name):=(c.cell (p:=⟨w.heap.size,2,none⟩) d).trans x2
  have y3:wr.cell? (Ze (w.heap.size) 3)=some (Zg n):=(c.cell (p:=⟨w.heap.size,3,none⟩) d).trans x3;by_cases hlt:j<4
  ·have zB:=Jy k n name.size (1+j);have zN:=Yx (Vo k n name.size zK zM j hlt);go_wp2_with fail;refine(EU a.heap.size a.heap.size _ _ _ s (by omega) zC).mono ?_;rintro e w3 ⟨rfl,m,z⟩;rw[zN.o]at m;have F:=c.trans z;clear s c z y0 Q y2 y3;go_wp2;exact⟨⟨j+1,by omega,by go_num,m,F⟩,by simp[intOf];omega⟩
  ·obtain rfl:j=4:=by omega
   have zB:=Jy k n name.size (1+4);go_wp2_with fail;refine(EU a.heap.size a.heap.size _ _ _ s (by omega) zC).mono ?_;rintro e w3 ⟨rfl,m,z⟩;rw[Vp k n name.size (by omega) (by omega)]at m;have h:=c.trans z;have S:=h.size;have y2:w3.cell? (Ze (w.heap.size) 2)=some (.string name):=(h.cell (p:=⟨w.heap.size,2,none⟩) d).trans x2;clear s c z y0 Q y3 zB
   have G:(Lib.byteCells (BZ k n name.size)).length=6:=rfl;go_wp2_with fail;refine(Df a.heap.size a.heap.size _ name _ m (by omega) S).mono ?_;rintro e w4 ⟨rfl,x,F⟩;rw[←Lib.byteCells_append]at x;have l:=h.trans F;have T:=l.size;have Q:w4.cell? (Ze (w.heap.size) 1)=some (.string f):=(l.cell (p:=⟨w.heap.size,1,none⟩) d).trans x1;clear m h F y2 G
   have G:(Lib.byteCells (BZ k n name.size++name.data.toList)).length=6+name.size:=by rw[Lib.byteCells_length];simp[BZ];omega
   go_wp2_with fail;refine(Df a.heap.size a.heap.size _ f _ x (by omega) T).mono ?_;rintro e O ⟨rfl,q,W⟩;rw[←Lib.byteCells_append]at q;have b:=l.trans W;have D:=b.size;have y0:O.cell? (Ze (w.heap.size) 0)=some (Zg k):=(b.cell (p:=⟨w.heap.size,0,none⟩) d).trans x0;have y4:O.cell? (Ze (w.heap.size) 4)=some (.string t):=(b.cell (p:=⟨w.heap.size,4,none⟩) d).trans x4
   have y5:O.cell? (Ze (w.heap.size) 5)=some (.slice A g.length u):=(b.cell (p:=⟨w.heap.size,5,none⟩) d).trans x5;have K:=J.below (b.mono (by omega));have zP:=r.trans (b.mono r.size);clear x l W Q G;have G:(Lib.byteCells (BZ k n name.size++name.data.toList++f.data.toList)).length=6+name.size+f.size:=by rw[Lib.byteCells_length];simp[BZ];omega
   by_cases hk1:k=1
   ·subst hk1;have I:=(DZ zG.o).dh rfl;have N:=BA I;have zR:=N.az;have zV:=N.text;have zU:=N.refs;go_wp2_with fail;refine(LQ t A u g P O (K.mono (by omega)) I).mono ?_;rintro e w6 ⟨rfl,L⟩;have R:=TO q L;have zY:=L.size;have zS:(BB t g).length<=3000:=by have:=Dl g;simp[BB,this];omega
    have Z:(ByteArray.mk (BB t g).toArray).size=(BB t g).length:=by simp[ByteArray.size]
    have zF:=Yx Z;clear Z;go_wp2_with fail;refine(Df a.heap.size a.heap.size _ _ _ R (by rw[zF.o];omega) (by omega)).mono ?_;rintro e w7 ⟨rfl,C,zH⟩;have zI:Lib.byteCells (BZ (1:Nat) n name.size++name.data.toList++f.data.toList)++Lib.byteCells (ByteArray.mk (BB t g).toArray).data.toList=Lib.byteCells (CR 1 f name n t g):=by rw[←Lib.byteCells_append];rfl
    rw[zI]at C;have B:=(b.trans (L.mono D)).trans zH;have U:=B.size;go_wp2_with fail;refine(Tryz.Builder_String_any a.heap.size a.heap.size _ _ C U).mono ?_;rintro e w8 ⟨rfl,M⟩;go_wp2;go_ret;exact⟨rfl,r.trans ((B.trans M).mono r.size)⟩
   ·have zT:((k:Int)==1)=false:=beq_eq_false_iff_ne.2 (by omega);have zJ:BZ k n name.size++name.data.toList++f.data.toList=CR k f name n t g:=by unfold CR;rw[if_neg hk1,List.append_nil]
    rw[zJ]at q;go_wp2_with fail;refine(Tryz.Builder_String_any a.heap.size a.heap.size _ _ q D).mono ?_;rintro e w8 ⟨rfl,M⟩;go_wp2;go_ret;exact⟨rfl,r.trans ((b.trans M).mono r.size)⟩
theorem YM(k:Int)(a name:Zi)(n:Int)(t:Zi)(h:Zk)(g:Nat)(b:Zl)(d:Int)(w:Zh)(j:Jk w)
 (f:Ad w w.heap.size h b) (l:b.length<=1048576) (o:t.size<=maxLen) (q:name.size<=maxLen):
 Calls prog 104 #[.agg (Ep k a name n t h b.length g),Zg d] w fun e r=>e=.returned (.string (Cv k a name n t b d))/\Zz w r:=by
 cases hok:Cg k a name n t b d with
 |true=>rw[show Cv k a name n t b d=⟨(CR k.toNat a name n t b).toArray⟩from by unfold Cv;rw[if_pos hok]];unfold Cg at hok;simp only[Bool.and_eq_true,decide_eq_true_eq]at hok;obtain⟨m,rfl⟩:∃m:Nat,k=m:=⟨k.toNat,by omega⟩;rw[Int.toNat_natCast]at hok ⊢;exact TP m a name n t h g b d w j (by omega) (by omega) f l o hok.2
 |false=>rw[show Cv k a name n t b d=ByteArray.empty from by unfold Cv;rw[if_neg (by rw[hok];decide)]];have i:Below w.heap.size w (w.alloc (.cells (Ep k a name n t h b.length g) 60)):=Zy;have c:=UK k a name n t h g b d _ (j.below i) (f.af i) l o q;rw[hok]at c;clear hok;go_enter func104,ntmps104;go_wp2_with fail;refine c.mono ?_;rintro e s ⟨rfl,p⟩;go_wp2;go_ret;exact⟨rfl,i.trans (p.mono (by simp))⟩
section
attribute [local go_sem↓] Go.wp_at_zero Go.wp_at_succ
def Ew(ss tt:Zl)(e:Zi):Int:=if Dc ss tt=true/\e.size<=5000 then (if ss.length+tt.length=4000 then 2 else 0)else 1
theorem Ex{w a:Zh}{b B:Nat}{u v:Value}(h:w.cell? (Ze b 0)=some u/\w.cell? (Ze b 1)=some v)(d:Below B w a)(c:b<B):a.cell? (Ze b 0)=some u/\a.cell? (Ze b 1)=some v:=
 ⟨(d.cell (p:=⟨b,0,none⟩) c).trans h.1,(d.cell (p:=⟨b,1,none⟩) c).trans h.2⟩
theorem RO(a b:Zk)(c d:Nat)(l i:Zl)(A:Zi)(w:Zh)(hr:Ad w w.heap.size a l)(hq:Ad w w.heap.size b i)(hl:l.length<=1048576)(yC:i.length<=1048576)
 (hs:∀s∈l,s.size<=1048576) (yE:∀s∈i,s.size<=1048576) (yL:Dc l i=true) (he:A.size<=5000) (hn:¬l.length+i.length=4000):
 Calls prog 103 #[.agg #[.slice a l.length c,.slice b i.length d],.string A] w fun e R=>∃v u,e=.returned (.tuple #[.agg #[v,u],Zf])/\
  R.ownsRow w.heap.size 9 1 v l.length (l.map Value.string)/\R.ownsRow w.heap.size 9 1 u (i++[A]).length ((i++[A]).map Value.string)/\(v.ownBlock=none∨v.ownBlock≠u.ownBlock)/\Zz w R:=by
 obtain⟨i0,hi,zX,zY,zZ⟩:=info_parts CK;have zP:Below w.heap.size w ((w.alloc (.cells #[.slice a l.length c,.slice b i.length d] 35)).alloc (.cells #[Zc,Zc] 35)):=(Zy).alloc (by simp) _;have yO:decide ((5000:Int)<(A.size:Int))=false:=by simp;omega
 go_enter func103,ntmps103;go_wp2_with fail;refine(Gl a b c d l i _ (hr.af zP) (hq.af zP) hl yC hs yE).mono ?_;rintro e w1 ⟨rfl,T⟩;have zV:=zP.trans (T.mono (by simp;omega));have zK:=T.size;simp at zK;have c0:w1.cell? (Ze (w.heap.size) 0)=some (.slice a l.length c):=by rw[T.cell (p:=⟨w.heap.size,0,none⟩) (by simp;omega)];simp[go_sem]
 have c1:w1.cell? (Ze (w.heap.size) 1)=some (.slice b i.length d):=by rw[T.cell (p:=⟨w.heap.size,1,none⟩) (by simp;omega)];simp[go_sem]
 have r0:w1.cell? (Ze (w.heap.size+1) 0)=some Zc:=by rw[T.cell (p:=⟨w.heap.size+1,0,none⟩) (by simp)];simp[go_sem]
 have r1:w1.cell? (Ze (w.heap.size+1) 1)=some Zc:=by rw[T.cell (p:=⟨w.heap.size+1,1,none⟩) (by simp)];simp[go_sem]
 have f0:∀o,w1.frozen? ⟨w.heap.size+1,o,none⟩=false:=fun o=>by rw[T.frozen (p:=⟨w.heap.size+1,o,none⟩) (by simp)];simp[go_sem]
 have HR:=Yx (Zn r0 (Zn r1 f0));have zT:=Yx (Zn hr hq);clear T r0 r1 f0 hr hq hs yE;rw[yL];go_wp2_with fail;refine(Gw a b l.length i.length c d _).mono ?_;rintro e X ⟨rfl,zF⟩;have zW:=zV.trans (zF.mono zV.size)
 have zN:Hid (X.cell? (Ze (w.heap.size+1) 0)=some Zc/\X.cell? (Ze (w.heap.size+1) 1)=some Zc/\∀o,X.frozen? ⟨w.heap.size+1,o,none⟩=false):=⟨(zF.cell (p:=⟨w.heap.size+1,0,none⟩) (by simp;omega)).trans HR.o.1,(zF.cell (p:=⟨w.heap.size+1,1,none⟩) (by simp;omega)).trans HR.o.2.1,fun o=>(zF.frozen (p:=⟨w.heap.size+1,o,none⟩) (by simp;omega)).trans (HR.o.2.2 o)⟩;have yA:=zF.size;clear zF HR c0 c1
 go_wp2_with fail;refine(Js a b l.length i.length c d _ hl yC).mono ?_;rintro e q ⟨rfl,zH⟩;have zE:Below w.heap.size w q:=(zW.alloc zW.size _).trans (zH.mono (by simp;omega));have yF:=zH.size;simp at yF;have d0:q.cell? (Ze (X.heap.size) 0)=some (.slice a l.length c)/\q.cell? (Ze (X.heap.size) 1)=some (.slice b i.length d):=Ex (B:=X.heap.size+1) ⟨by simp,by simp⟩ (zH.mono (by simp)) (by omega)
 have zR:Below X.heap.size X q:=(Zy).trans (zH.mono (by simp));have q0:=(zR.cell (p:=⟨w.heap.size+1,0,none⟩) (by simp;omega)).trans zN.o.1;have q1:=(zR.cell (p:=⟨w.heap.size+1,1,none⟩) (by simp;omega)).trans zN.o.2.1;have qf:∀o,q.frozen? ⟨w.heap.size+1,o,none⟩=false:=fun o=>(zR.frozen (p:=⟨w.heap.size+1,o,none⟩) (by simp;omega)).trans (zN.o.2.2 o)
 have yP:((l.length:Int)+i.length==4000)=false:=by simp;omega
 have S:X.heap.size<q.heap.size:=by omega
 have P:w.heap.size+1<q.heap.size:=by omega
 have yN:w.heap.size+1<X.heap.size:=by omega
 generalize X.heap.size=D at *
 have hK:∀W,Zz q W->Calls prog 147 #[.func (.func 126) #[.agg #[.slice a l.length c]] #[]] W fun e R=>∃v,e=.returned v/\R.ownsRow W.heap.size 9 1 v l.length (l.map Value.string)/\Zz W R:=fun W hB=>by have Y:=zE.trans (hB.mono zE.size);exact JY 126 _ (enters_of func126 (by kernel_rfl) rfl) l w.heap.size _ (Mv a c l w.heap.size W (zT.o.1.below Y) Y.size (by unfold maxLen;omega)) Y.size (by omega)
 have hO:∀W,Zz q W->Calls prog 147 #[.func (.func 127) #[.agg #[.slice a l.length c,.slice b i.length d]] #[]] W fun e R=>∃v,e=.returned v/\R.ownsRow W.heap.size 9 1 v i.length (i.map Value.string)/\Zz W R:=fun W hB=>by have Y:=zE.trans (hB.mono zE.size);exact JY 127 _ (enters_of func127 (by kernel_rfl) rfl) i w.heap.size _ (Mw _ b d i w.heap.size W (zT.o.2.below Y) Y.size (by unfold maxLen;omega)) Y.size (by omega)
 have HK:=Yx hK;have HO:=Yx hO;have zC:=Yx zE;clear hK hO zE zH zR zN zT zW zV zP zK yA yF;have yB:Below q.heap.size q q.drew:=(Below.refl _ _).drew;have zO:∀o,Zz q (q.alloc o).drew:=fun o=>(Zy).drew;go_wp2;go_region_held3 (fun R=>R.cell? (Ze D 0)=some (.slice a l.length c)/\R.cell? (Ze D 1)=some (.slice b i.length d))
  (first|exact F|exact⟨by rw[World.cell?_setCell_other _ _ _ _ (by simp<;>omega),World.cell?_setCell_other _ _ _ _ (by simp<;>omega)];exact F.1,by rw[World.cell?_setCell_other _ _ _ _ (by simp<;>omega),World.cell?_setCell_other _ _ _ _ (by simp<;>omega)];exact F.2⟩|exact I|exact Ex I (Zy) L|exact zU|exact Ex zU (Zy) K|exact d0|exact Ex d0 (zO _) S|go_keep)
  (first
    |(go_at_call 147;guard_target=~Calls prog 147 #[Value.func (Fn.func 126) #[Value.agg #[Value.slice a l.length c]] #[]] (World.drew q) _;refine(HK.o q.drew yB).mono ?_;rintro e m ⟨yM,rfl,r,M⟩;obtain⟨av,cv,rfl,_⟩:=Ga r;have x:Below q.heap.size q m:=yB.trans (M.mono (by first|omega|simp));have zU:=Ex d0 x S;have O:=x.size;have K:D<m.heap.size:=Zr S O;have r:m.ownsRow q.heap.size 9 1 (.slice av l.length cv) l.length (l.map Value.string):=r.mono (by first|omega|simp))
    |(go_at_call 147;guard_target=~Calls prog 147 #[Value.func (Fn.func 126) #[Value.agg #[Value.slice a l.length c]] #[]] (World.drew (World.alloc q _)) _;refine(HK.o (q.alloc _).drew (zO _)).mono ?_;rintro e m ⟨yM,rfl,r,M⟩;obtain⟨av,cv,rfl,_⟩:=Ga r;have x:Below q.heap.size q m:=(zO _).trans (M.mono (by first|omega|simp));have zU:=Ex d0 x S;have O:=x.size;have K:D<m.heap.size:=Zr S O;have r:m.ownsRow q.heap.size 9 1 (.slice av l.length cv) l.length (l.map Value.string):=r.mono (by first|omega|simp);have yK:q.heap.size<m.heap.size:=(by have:=M.size;simp at this;omega);have yH:m.cell? (Ze (q.heap.size) 0)=some (.string A):=(by rw[M.cell (p:=⟨q.heap.size,0,none⟩) (by simp)];simp[go_sem]))
    |(go_at_call 147;have yD:=yH;guard_target=~Calls prog 147 #[Value.func (Fn.func 127) #[Value.agg #[Value.slice a l.length c,Value.slice b i.length d]] #[]] m _;refine(HO.o m x).mono ?_;rintro e y ⟨yJ,rfl,f,t⟩;obtain⟨au,cu,rfl,_⟩:=Ga f;have C:Below q.heap.size q y:=x.trans (t.mono (by first|omega|(simp;omega)));have I:=Ex d0 C S;have E:m.heap.size<=y.heap.size:=(by have:=t.size;first|omega|(simp at this;omega));have L:D<y.heap.size:=Zr K E;have f:y.ownsRow m.heap.size 9 1 (.slice au i.length cu) i.length (i.map Value.string):=f.mono (by first|omega|simp);have N:=CW r t;have yI:=(t.cell (p:=⟨q.heap.size,0,none⟩) (by simp;omega)).trans yH)
    |(go_at_call 147;guard_target=~Calls prog 147 #[Value.func (Fn.func 127) #[Value.agg #[Value.slice a l.length c,Value.slice b i.length d]] #[]] m _;refine(HO.o m x).mono ?_;rintro e y ⟨yJ,rfl,f,t⟩;obtain⟨au,cu,rfl,_⟩:=Ga f;have C:Below q.heap.size q y:=x.trans (t.mono (by first|omega|(simp;omega)));have I:=Ex d0 C S;have E:m.heap.size<=y.heap.size:=(by have:=t.size;first|omega|(simp at this;omega));have L:D<y.heap.size:=Zr K E;have f:y.ownsRow m.heap.size 9 1 (.slice au i.length cu) i.length (i.map Value.string):=f.mono (by first|omega|simp);have N:=CW r t)
    |(go_at_call 147;guard_target=~Calls prog 147 #[Value.func (Fn.func 127) #[Value.agg #[Value.slice a l.length c,Value.slice b i.length d]] #[]] (World.alloc m _) _;refine(HO.o (m.alloc _) (x.alloc O _)).mono ?_;rintro e y ⟨yJ,rfl,f,t⟩;obtain⟨au,cu,rfl,_⟩:=Ga f;have C:Below q.heap.size q y:=(x.alloc O _).trans (t.mono (by first|omega|(simp;omega)));have I:=Ex d0 C S;have E:m.heap.size<=y.heap.size:=(by have:=t.size;first|omega|(simp at this;omega));have L:D<y.heap.size:=Zr K E;have f:y.ownsRow m.heap.size 9 1 (.slice au i.length cu) i.length (i.map Value.string):=f.mono (by first|omega|simp);have N:=CW (CW r ((Below.refl m.heap.size m).alloc (Zx) (.cells #[.string A] 9))) t;have yG:y.cell? (Ze (m.heap.size) 0)=some (.string A):=(by rw[t.cell (p:=⟨m.heap.size,0,none⟩) (by simp)];simp[go_sem]))
    |(have yD:=yI;refine step_append_lies y (by rfl) (.tmp 28) (.tmp 30) 22 (by rfl) m.heap.size 9 i0 Zd 1 16 underlying22 hi zX zY zZ rfl (by decide) (.slice au i.length cu) i.length (i.map Value.string) (by rfl) f ⟨q.heap.size,0,none⟩ 1 1 [.string A] (by rfl) rfl (fun j u U=>by cases j with|zero=>(simp at U;subst U;simpa [Go.WideShapes.add_plain]using yI)|succ j=>simp at U) (fun u hu=>by simp at hu;subst hu;rfl) (by omega) (by unfold maxLen;omega) (by omega) E _ rfl ?_;intro H n z G h Q Z;have F:z.cell? (Ze D 0)=some (.slice a l.length c)/\z.cell? (Ze D 1)=some (.slice b i.length d):=⟨h.cell I.1 (fun e=>by have:=(f.lt D e.symm).1;omega),h.cell I.2 (fun e=>by have:=(f.lt D e.symm).1;omega)⟩;have zG:=Hd (v:=.slice av l.length cv) f (fun g hg=>(r.lt g hg).2);have V:=N.kept h zG;have zM:=h.size;have J:=C;have y0:=h.cell ((J.cell (p:=⟨w.heap.size+1,0,none⟩) P).trans q0) (fun e=>by have:=(f.lt (w.heap.size+1) e.symm).1;omega);have y1:=h.cell ((J.cell (p:=⟨w.heap.size+1,1,none⟩) P).trans q1) (fun e=>by have:=(f.lt (w.heap.size+1) e.symm).1;omega);have yf:∀o,z.frozen? ⟨w.heap.size+1,o,none⟩=false:=(fun o=>(h.frozen_far ⟨w.heap.size+1,o,none⟩ (by simp;omega) (fun e=>by have:=(f.lt (w.heap.size+1) e.symm).1;omega)).trans ((J.frozen (p:=⟨w.heap.size+1,o,none⟩) P).trans (qf o))))
    |(have yD:=yG;refine step_append_lies y (by rfl) (.tmp 28) (.tmp 30) 22 (by rfl) m.heap.size 9 i0 Zd 1 16 underlying22 hi zX zY zZ rfl (by decide) (.slice au i.length cu) i.length (i.map Value.string) (by rfl) f ⟨m.heap.size,0,none⟩ 1 1 [.string A] (by rfl) rfl (fun j u U=>by cases j with|zero=>(simp at U;subst U;simpa [Go.WideShapes.add_plain]using yG)|succ j=>simp at U) (fun u hu=>by simp at hu;subst hu;rfl) (by omega) (by unfold maxLen;omega) (by omega) E _ rfl ?_;intro H n z G h Q Z;have F:z.cell? (Ze D 0)=some (.slice a l.length c)/\z.cell? (Ze D 1)=some (.slice b i.length d):=⟨h.cell I.1 (fun e=>by have:=(f.lt D e.symm).1;omega),h.cell I.2 (fun e=>by have:=(f.lt D e.symm).1;omega)⟩;have zG:=Hd (v:=.slice av l.length cv) f (fun g hg=>(r.lt g hg).2);have V:=N.kept h zG;have zM:=h.size;have J:=C;have y0:=h.cell ((J.cell (p:=⟨w.heap.size+1,0,none⟩) P).trans q0) (fun e=>by have:=(f.lt (w.heap.size+1) e.symm).1;omega);have y1:=h.cell ((J.cell (p:=⟨w.heap.size+1,1,none⟩) P).trans q1) (fun e=>by have:=(f.lt (w.heap.size+1) e.symm).1;omega);have yf:∀o,z.frozen? ⟨w.heap.size+1,o,none⟩=false:=(fun o=>(h.frozen_far ⟨w.heap.size+1,o,none⟩ (by simp;omega) (fun e=>by have:=(f.lt (w.heap.size+1) e.symm).1;omega)).trans ((J.frozen (p:=⟨w.heap.size+1,o,none⟩) P).trans (qf o))))
    |(refine step_append_lies (y.alloc (.cells #[.string A] 9)) (by rfl) (.tmp 28) (.tmp 30) 22 (by rfl) m.heap.size 9 i0 Zd 1 16 underlying22 hi zX zY zZ rfl (by decide) (.slice au i.length cu) i.length (i.map Value.string) (by rfl) (f.alloc _) ⟨y.heap.size,0,none⟩ 1 1 [.string A] (by rfl) rfl (fun j u U=>by cases j with|zero=>(simp at U;subst U;simp[Go.WideShapes.add_plain])|succ j=>simp at U) (fun u hu=>by simp at hu;subst hu;rfl) (by omega) (by unfold maxLen;omega) (by omega) (by simp;omega) _ rfl ?_;intro H n z G h Q Z;have F:z.cell? (Ze D 0)=some (.slice a l.length c)/\z.cell? (Ze D 1)=some (.slice b i.length d):=⟨h.cell (Ex I (Zy) L).1 (fun e=>by have:=(f.lt D e.symm).1;omega),h.cell (Ex I (Zy) L).2 (fun e=>by have:=(f.lt D e.symm).1;omega)⟩;have zG:=Hd (v:=.slice av l.length cv) f (fun g hg=>(r.lt g hg).2);have V:=(N.alloc _).kept h zG;have zM:=h.size;have J:=(C.alloc (by omega) (.cells #[.string A] 9));have y0:=h.cell ((J.cell (p:=⟨w.heap.size+1,0,none⟩) P).trans q0) (fun e=>by have:=(f.lt (w.heap.size+1) e.symm).1;omega);have y1:=h.cell ((J.cell (p:=⟨w.heap.size+1,1,none⟩) P).trans q1) (fun e=>by have:=(f.lt (w.heap.size+1) e.symm).1;omega);have yf:∀o,z.frozen? ⟨w.heap.size+1,o,none⟩=false:=(fun o=>(h.frozen_far ⟨w.heap.size+1,o,none⟩ (by simp;omega) (fun e=>by have:=(f.lt (w.heap.size+1) e.symm).1;omega)).trans ((J.frozen (p:=⟨w.heap.size+1,o,none⟩) P).trans (qf o)))))
 all_goals
  have zI:Below w.heap.size w z:=(zC.o.trans (J.mono zC.o.size)).grown h (Zm zC.o.size J.size) (fun k hk=>by have:=(f.lt k hk).1;have:=zC.o.size;omega);have zS:z.ownsRow w.heap.size 9 1 (Za H (i++[A]).length n) (i++[A]).length ((i++[A]).map Value.string):=by have:=World.ownsRow.mono G (show w.heap.size<=m.heap.size by have:=zC.o.size;omega);simpa using this
  have zB:=World.ownsRow.mono V (show w.heap.size+2<=q.heap.size by omega);have zA:=World.ownsRow.mono G (show w.heap.size+2<=m.heap.size by omega);have zJ:(Value.slice av l.length cv).ownBlock=none∨(Value.slice av l.length cv).ownBlock≠(Za H (i++[A]).length n).ownBlock:=by rw[show(i++[A]).length=i.length+1 by simp];exact Hd (v:=.slice av l.length cv) G (fun g hg=>(r.lt g hg).2)
  have HF:Hid (((z.setCell (Ze (w.heap.size+1) 0) (.slice av l.length cv)).setCell (Ze (w.heap.size+1) 1) (Za H (i.length+1) n)).ownsRow w.heap.size 9 1 (.slice av l.length cv) l.length (l.map Value.string)/\
   ((z.setCell (Ze (w.heap.size+1) 0) (.slice av l.length cv)).setCell (Ze (w.heap.size+1) 1) (Za H (i.length+1) n)).ownsRow w.heap.size 9 1 (Za H (i++[A]).length n) (i++[A]).length ((i++[A]).map Value.string)/\
   Zz w ((z.setCell (Ze (w.heap.size+1) 0) (.slice av l.length cv)).setCell (Ze (w.heap.size+1) 1) (Za H (i.length+1) n))):=
   ⟨(ownsRow_setCell_below (ownsRow_setCell_below zB (by simp) _) (by simp) _).mono (by omega),by
     have:=(ownsRow_setCell_below (ownsRow_setCell_below zA (a:=⟨w.heap.size+1,0,none⟩) (by simp) (.slice av l.length cv)) (a:=⟨w.heap.size+1,1,none⟩) (by simp) (Za H (i.length+1) n)).mono (show w.heap.size<=w.heap.size+2 by omega);simpa using this,(zI.setCell (p:=⟨w.heap.size+1,0,none⟩) (by simp) _).setCell (p:=⟨w.heap.size+1,1,none⟩) (by simp) _⟩
  have HA:=Yx zJ;clear G h Q V zS zB zA zJ zI J HK HO zC F zO;go_wp2;refine bodyPost_ret (v:=.tuple #[.agg #[.slice av l.length cv,Za H (i.length+1) n],Zf]) (by simp[results,results103,go_sem,y0,y1]) rfl ⟨_,Za H (i++[A]).length n,by simp,HF.o.1,HF.o.2.1,HA.o,HF.o.2.2⟩
end
section
attribute [local go_sem↓] Go.wp_at_zero Go.wp_at_succ
theorem RP(a b:Zk)(c d:Nat)(f g:Zl)(j:Zi)(w:Zh)(I:Ad w w.heap.size a f)(H:Ad w w.heap.size b g)(G:f.length<=1048576)(C:g.length<=1048576)
 (J:∀s∈f,s.size<=1048576) (D:∀s∈g,s.size<=1048576) (M:Ew f g j≠0):
 Calls prog 103 #[.agg #[.slice a f.length c,.slice b g.length d],.string j] w fun e T=>e=.returned (.tuple #[.agg #[Zc,Zc],Zg (Ew f g j)])/\Zz w T:=by
 have x:Below w.heap.size w ((w.alloc (.cells #[.slice a f.length c,.slice b g.length d] 35)).alloc (.cells #[Zc,Zc] 35)):=(Zy).alloc (by simp) _;go_enter func103,ntmps103;go_wp2_with fail;refine(Gl a b c d f g _ (I.af x) (H.af x) G C J D).mono ?_;rintro e r ⟨rfl,i⟩;have m:=x.trans (i.mono (by simp;omega));have A:=i.size;simp at A
 have O:r.cell? (Ze (w.heap.size) 0)=some (.slice a f.length c):=by rw[i.cell (p:=⟨w.heap.size,0,none⟩) (by simp;omega)];simp[go_sem]
 have P:r.cell? (Ze (w.heap.size) 1)=some (.slice b g.length d):=by rw[i.cell (p:=⟨w.heap.size,1,none⟩) (by simp;omega)];simp[go_sem]
 have r0:r.cell? (Ze (w.heap.size+1) 0)=some Zc:=by rw[i.cell (p:=⟨w.heap.size+1,0,none⟩) (by simp)];simp[go_sem]
 have z:r.cell? (Ze (w.heap.size+1) 1)=some Zc:=by rw[i.cell (p:=⟨w.heap.size+1,1,none⟩) (by simp)];simp[go_sem]
 have F:∀o,r.frozen? ⟨w.heap.size+1,o,none⟩=false:=fun o=>by rw[i.frozen (p:=⟨w.heap.size+1,o,none⟩) (by simp)];simp[go_sem]
 clear i I H J D;cases hok:Dc f g with
 |false=>
  have q:Ew f g j=1:=by simp[Ew,hok]
  go_wp2;exact bodyPost_ret (v:=.tuple #[.agg #[Zc,Zc],Zg 1]) (by simp[results,results103,go_sem,r0,z]) rfl ⟨by rw[q],(m.setCell (p:=⟨w.heap.size+1,0,none⟩) (by simp) _).setCell (p:=⟨w.heap.size+1,1,none⟩) (by simp) _⟩
 |true=>
  by_cases he:j.size<=5000
  ·have Q:f.length+g.length=4000:=by apply Classical.byContradiction;intro h;exact M (by simp[Ew,hok,he,h])
   have q:Ew f g j=2:=by simp[Ew,hok,he,Q]
   have L:decide ((5000:Int)<(j.size:Int))=false:=by simp;omega
   have y:=Yx (Zn r0 (Zn z F));clear r0 z F;go_wp2_with fail;refine(Gw a b f.length g.length c d _).mono ?_;rintro e t ⟨rfl,k⟩;have B:=m.trans (k.mono m.size)
   have l:Hid (t.cell? (Ze (w.heap.size+1) 0)=some Zc/\t.cell? (Ze (w.heap.size+1) 1)=some Zc/\∀o,t.frozen? ⟨w.heap.size+1,o,none⟩=false):=⟨(k.cell (p:=⟨w.heap.size+1,0,none⟩) (by simp;omega)).trans y.o.1,(k.cell (p:=⟨w.heap.size+1,1,none⟩) (by simp;omega)).trans y.o.2.1,fun o=>(k.frozen (p:=⟨w.heap.size+1,o,none⟩) (by simp;omega)).trans (y.o.2.2 o)⟩;have N:=k.size;clear k y O P;go_wp2_with fail
   refine(Js a b f.length g.length c d _ G C).mono ?_;rintro e E ⟨rfl,u⟩;have K:Below w.heap.size w E:=(B.alloc B.size _).trans (u.mono (by simp;omega));have n:Below t.heap.size t E:=(Zy).trans (u.mono (by simp));have R:=(n.cell (p:=⟨w.heap.size+1,0,none⟩) (by simp;omega)).trans l.o.1;have S:=(n.cell (p:=⟨w.heap.size+1,1,none⟩) (by simp;omega)).trans l.o.2.1
   have V:∀o,E.frozen? ⟨w.heap.size+1,o,none⟩=false:=fun o=>(n.frozen (p:=⟨w.heap.size+1,o,none⟩) (by simp;omega)).trans (l.o.2.2 o);have U:((f.length:Int)+g.length==4000)=true:=by simp;omega
   clear u n l;go_wp2;exact bodyPost_ret (v:=.tuple #[.agg #[Zc,Zc],Zg 2]) (by simp[results,results103,go_sem,R,S]) rfl ⟨by rw[q],(K.setCell (p:=⟨w.heap.size+1,0,none⟩) (by simp) _).setCell (p:=⟨w.heap.size+1,1,none⟩) (by simp) _⟩
  ·have q:Ew f g j=1:=by simp[Ew,hok,he]
   have L:decide ((5000:Int)<(j.size:Int))=true:=by simp;omega
   go_wp2;exact bodyPost_ret (v:=.tuple #[.agg #[Zc,Zc],Zg 1]) (by simp[results,results103,go_sem,r0,z]) rfl ⟨by rw[q],(m.setCell (p:=⟨w.heap.size+1,0,none⟩) (by simp) _).setCell (p:=⟨w.heap.size+1,1,none⟩) (by simp) _⟩
end
theorem TQ{w:Zh}{base:Nat}{e:TypeId}{size:Nat}{v:Value}{n:Nat}{a:Zj}(h:w.ownsRow base e size v n a):Ak v=v.ownBlock:=by rcases h.2 with⟨rfl,_⟩|⟨g,b,c,rfl,_⟩<;>rfl
theorem DP.held{a f given ae:Int}{l:List Kd}{ps:List Pd}{m:List Ld}{d:Int}{s n:Zi}{g:Int}{text:Zi}{refs:Zl}{r:Rs}(h:1<=a)(c:DP a f given ae l ps m d s n g text refs r):(if r.sm=⟨#[]⟩then s else r.sm)=if d=1 then r.sm else s:=by
 rcases c with⟨rfl,_,k,j,o,p,c,rfl⟩|⟨rfl,_,b,rfl⟩|⟨rfl,_,rfl⟩|⟨rfl,_,k,j,rfl⟩|⟨rfl,_,rfl⟩|⟨rfl,t,rfl⟩|⟨rfl,_,_,rfl⟩
 ·rw[if_pos rfl,if_neg];intro i;have:=Hp text refs a h;have e:Bf text refs a=⟨#[]⟩:=i;rw[e]at this;have q:((⟨#[]⟩:Zi).size:Int)=0:=rfl;omega
 all_goals simp
theorem YN(v:Vd)(a:Va)(e:Ed)(J:Zk)(N:Nat)(r:Rs)(lo k d m base:Nat)(O P L:Value)(n w:Zh)(Q:CM v r)(B:LJ w lo k d m base O P L v a r)(zR:n.heap.size<=lo)(G:Zz n w)(hr:BR n n.heap.size a v)(E:Cr v)(hE:Env n)(F:IH n n.heap.size J e.rf)(W:∃g h:Nat,a.qa=some ⟨g,0,none⟩/\a.ma=some ⟨h,0,none⟩)(hl:e.rf.length<=1048576)(t:e.tx.size<=maxLen)(hn:e.nm.size<=maxLen)(zM:e.kd≠1):
 Calls prog 46 #[Yz k,.agg (Yp e.kd e.s e.nm e.num e.tx J e.rf.length N)] w (RN v e lo w):=by
 obtain⟨⟨zP,e2,e3,e4⟩,e5,e6,e7⟩:=Q.same;have BZ:=B.dr;rw[e2,e3,e4,e5,e6,e7]at BZ;have hz:=BZ.zero B.cl;have zH:=Q.dw;have de:∀b∈vB d m O P L,lo<=b/\b<k:=fun b G=>⟨Zm B.de (BZ.low b G),B.lt b G⟩;obtain⟨zS,hk⟩:=B.ty;have zU:k<w.heap.size:=B.box.lt;have zN:k∉vB d m O P L:=fun h=>by have:=B.lt k h;omega
 have D:∀X,Below lo w X->Zz n X:=fun X l=>G.trans (l.mono zR);have C:∀z,e.ok v.wd=true->e.yes v z->FB v.wd z.now z.given z.ae z.ks z.ps z.ls:=fun z f j=>zH.step f j;have fq:=B.fq
 refine Aai lo k d m (vB d m O P L) v e _ _ _ _ _ _ _ _ _ _ _ _ _ _ _ J N (fun z X=>e.ok v.wd=true/\e.yes v z/\IN 0 d m v.wd z X) w B.box B.fq de ⟨by simp[vB],by simp[vB]⟩ ?_ (fun X l=> ?_) (fun I X l=> ?_) ?_ ?_ ?_ zM (fun I X l=> ?_) (fun I X l=> ?_) ?_ ?_ zP
 ·simp[Value.oneCell']
 ·exact UK e.kd e.s e.nm e.num e.tx J N e.rf v.wd X (hE.below (D X l)).gq ((F.below (D X l)).row (D X l).size) hl t hn
 ·have S:=hz.apart l (Nat.zero_le _) zN (fun zK fz he=>by rw[hk]at he;simp at he);have zB:Below n.heap.size n X:=G.trans (l.below G.size (by simp;omega));refine(JR d (vB d m O P L) e.kd e.s e.nm e.tx e.num J e.rf.length N (fun c p q=>e.no v c p q) (fun sm le X=>∃r,e.yes v r/\r.sm=sm/\r.le=le/\IN 0 d m v.wd r X) X S.cg ?_ (fun K zA=> ?_)).mono ?_
  ·rintro sm le Y Y' R zK ⟨r,f,j,i,h4⟩ hR zT t;exact⟨r,f,j,i,h4.stays hR (Nat.zero_le _) (by have:=S.box.lt;omega) t⟩
  ·have zC:=zB.trans (zA.mono zB.size);exact Lc 0 d m O P L v.wd v.now v.given v.ae v.ks v.ps v.ls e.kd e.s e.nm e.num e.tx e.rf J N K ⟨S.below zA⟩ (zH.ia I t) ((F.below zC).ay zC.size (fun b G=>by have:=de b G;omega))
  ·rintro o K (⟨c,p,q,f,rfl,t⟩|⟨sm,le,rfl,⟨r,f,j,i,h4⟩,t⟩)
   ·exact⟨t,c,_,_,p,q,rfl,.inl ⟨f,rfl,rfl⟩⟩
   ·exact⟨t,0,sm,le,_,_,rfl,.inr ⟨rfl,rfl,rfl,r,f,j,i,I,f,h4⟩⟩
 ·rintro r X K R ⟨f,j,i⟩ hR V t;exact⟨f,j,i.an (fun e=>hR (by rw[e];simp[vB])) V t⟩
 ·rintro r X ⟨_,_,O,P,L,i⟩;exact⟨(i.box 0 _ rfl).1,(i.box 1 _ rfl).1⟩
 ·rintro r X ⟨f,j,O,P,L,i⟩;have H:=C r f j;refine(IX 0 d m O P L v.wd r.now r.given r.ae r.ks r.ps r.ls X i H.bk.nd H.bk.sz H.bk.len H.np H.nl H.dq).mono ?_;rintro o K ⟨T,P',L',rs,rfl,U,A⟩;obtain⟨ta,tc,rfl⟩:=As U.ai;obtain⟨pa,pc,rfl⟩:=As U.pins;obtain⟨la,lc,rfl⟩:=As U.aq;exact⟨ta,tc,pa,pc,la,lc,rs,rfl,U,A⟩
 ·exact YM e.kd e.s e.nm e.num e.tx J N e.rf v.wd X (hE.below (D X l)).gq ((F.below (D X l)).row (D X l).size) hl t hn
 ·have hs:=hr.s.af (D X l);have zI:=hr.t.af (D X l);have zJ:=Ed.dx I;by_cases hfull:v.ss.length+v.tt.length=4000
  ·have V:Ew v.ss v.tt (e.bt v.wd)=2:=by unfold Ew;rw[if_pos ⟨Q.log,zJ⟩,if_pos hfull]
   refine(RP a.sa a.ta a.sc a.tc v.ss v.tt (e.bt v.wd) X hs zI E.s E.t E.ss E.tt (by rw[V];decide)).mono ?_;rintro o K ⟨rfl,A⟩;exact⟨A,none,0,0,none,0,0,_,rfl,.inl ⟨hfull,by rw[V];rfl⟩⟩
  ·refine(RO a.sa a.ta a.sc a.tc v.ss v.tt (e.bt v.wd) X hs zI E.s E.t E.ss E.tt Q.log zJ hfull).mono ?_;rintro o K ⟨s,u,rfl,f,j,i,A⟩;have k1:=TQ f;have k2:=TQ j;obtain⟨sa,sc,rfl⟩:=As f;obtain⟨ua,uc,rfl⟩:=As j;refine⟨A,sa,_,sc,ua,_,uc,0,rfl,.inr ⟨hfull,rfl,rfl,rfl,Ao.own f,Ao.own j,fun g M hu=> ?_⟩⟩;rw[k1]at M;rw[k2]at hu;rcases i with i|i
   ·rw[i]at M;cases M
   ·exact i (M.trans hu.symm)
 ·intro r hy;exact DP.held Q.wd.1 hy
 ·rintro r X Z ⟨f,j,i⟩ _ hZ zO;have zE:=D Z hZ;have H:=C r f j;have zG:=hr.q.af zE;have zF:=hr.m.af zE;obtain⟨g,h,W,hm⟩:=W;rw[W,hm];rw[W]at zG;rw[hm]at zF;refine(TI v.wd m r.ks (e.held r) v.ph v.ag v.at_ v.ro g h a.qc a.mc v.qs v.ms Z (i.has H.bk.sz zO _) zG zF E.r).mono ?_;rintro o Z' ⟨x,cx,y,cy,rfl,o1,o2,zV,A⟩;exact⟨A,_,cx,_,cy,rfl,Ao.own o1,Ao.own o2,fun g M hu=>by simp[Ak]at M hu;omega⟩
theorem Ln(n ag k o:Int)(a b:Zk)(u z:Nat)(d c:Zl)(w:Zh)(N:Ad w w.heap.size a d)(M:Ad w w.heap.size b c)(L:Gj d c):
 Calls prog 109 #[.agg (Yk n a d.length u b c.length z ag k o)] w fun e G=>∃x i y j,e=.returned (.agg (Yk n x d.length i y c.length j ag k o))/\
  G.ownsRow w.heap.size 9 1 (.slice x d.length i) d.length (d.map Value.string)/\G.ownsRow w.heap.size 9 1 (.slice y c.length j) c.length (c.map Value.string)/\(∀g,(Value.slice x d.length i).ownBlock=some g->(Value.slice y c.length j).ownBlock≠some g)/\Zz w G:=by
 obtain⟨W,l⟩:∃W,W=(w.alloc (.cells (Yk n a d.length u b c.length z ag k o) 41)).alloc (.cells Yj 41):=⟨_,rfl⟩;have h:=(AW l).1;have P:=(AW l).2.2.1;have Q:Aa W (w.heap.size+1) Xv:=by have A:=Aa.new (w.alloc (.cells (Yk n a d.length u b c.length z ag k o) 41)) Xv 41;rw[World.size_alloc]at A;rw[l];exact A
 have U:=(AW l).2.1;have K:=Yx l;have p:Hid (Aa W _ _):=(AW l).2.2.1;have B:Hid (Aa W (w.heap.size+1) Xv):=Q;have J:Hid (Ad w w.heap.size a d):=N;have I:Hid (Ad w w.heap.size b c):=M;obtain⟨R,S⟩:=Aa.c2 P 1 2;clear l Q P N M;go_enter func109,ntmps109;go_upto_region 1 with fail;rw[←K.o];clear K;go_region_with (first
  |(go_at_call 134;refine(El a u d W.drew (Ad.af (w:=w) J.o h.drew) L.q).mono ?_;rintro e O ⟨x,i,rfl,r,C⟩;have f:Below W.heap.size W O:=(Below.refl W.heap.size W).drew.trans C;obtain⟨b2,_⟩:=Aa.below p.o f 2 _ rfl)
  |(go_at_call 134;refine(El b z c O (Ad.af (w:=w) I.o (h.trans (f.mono h.size))) L.m).mono ?_;rintro e H ⟨y,j,rfl,s,q⟩;have m:Below W.heap.size W H:=f.trans (q.mono f.size);obtain⟨⟨c0,d0⟩,⟨c1,d1⟩,⟨c2,d2⟩,⟨c3,d3⟩,⟨c4,d4⟩,c5,d5⟩:=c6 (Aa.below p.o m);obtain⟨⟨k0,g0⟩,⟨k1,g1⟩,⟨k2,g2⟩,⟨k3,g3⟩,⟨k4,g4⟩,k5,g5⟩:=c6 (Aa.below (v:=Zf) B.o m)))
 all_goals
  have D:H.ownsRow (w.heap.size+2) 9 1 (.slice x d.length i) d.length (d.map Value.string):=(CW r q).mono (by simp;omega);have E:H.ownsRow (w.heap.size+2) 9 1 (.slice y c.length j) c.length (c.map Value.string):=s.mono (by have:=f.size;omega);have F:∀g,(Value.slice x d.length i).ownBlock=some g->(Value.slice y c.length j).ownBlock≠some g:=fun g A T=>by have V:=(Ac r A).2;have X:=(Ac s T).1;omega
  have t:=Yx (Zn D (Zn E (Zn F (h.trans (m.mono h.size)))));clear D E r s C q f m p B J I R S h F;go_wp2;refine bodyPost_ret (v:=.agg (Yk n x d.length i y c.length j ag k o)) (by simp[results,results109,go_sem,k0,k1,k2,k3,k4,k5]) rfl ⟨x,i,y,j,rfl,?_,?_,t.o.2.2.1,?_⟩
  ·refine World.ownsRow.mono ?_ (show w.heap.size<=w.heap.size+2 by omega)
   iterate 8 (refine ownsRow_setCell_below ?_ (by simp<;>omega) _)
   exact t.o.1
  ·refine World.ownsRow.mono ?_ (show w.heap.size<=w.heap.size+2 by omega)
   iterate 8 (refine ownsRow_setCell_below ?_ (by simp<;>omega) _)
   exact t.o.2.1
  ·iterate 8 (refine Below.setCell ?_ (by simp) _)
   exact t.o.2.2.2
theorem Lo(v:Vd)(a:Va)(r:Rs)(w:Zh)(hr:BR w w.heap.size a v)(hf:Cr v)(J:CM v r):
 Calls prog 47 #[.agg (Yi v a)] w fun e w'=>∃(S U T P L Q M:Value) (rs:Zj),e=.returned (.agg #[Zg v.wd,Zg v.ak,S,U,Zg v.sw,Zg v.now,Zg v.given,Zg v.ae,T,P,L,Zg v.ph,Q,M,Zg v.ag,Zg v.at_,Zg v.ro])/\AL w' w.heap.size S U T P L Q M rs v/\Zz w w':=by
 obtain⟨W,hW⟩:∃W,W=(w.alloc (.cells (Yi v a) 43)).alloc (.cells Ya 43):=⟨_,rfl⟩;have bW:=(AW hW).1;have zW:=(AW hW).2.1;have zA:Hid (Aa W _ _):=(AW hW).2.2.1;have yU:Hid (Aa W (w.heap.size+1) Xz):=by have p:=Aa.new (w.alloc (.cells (Yi v a) 43)) Xz 43;rw[World.size_alloc]at p;show Aa W (w.heap.size+1) Xz;rw[hW];exact p
 have HR:Hid (∀X,Zz w X->BR X X.heap.size a v):=fun X hX=>hr.af hX;have yX:=J.run.ok (FX J.wd.1 J.wd.2);have Z:Hid (v.wd=v.sw/\r.ks=v.ks/\r.ps=v.ps/\r.ls=v.ls):=⟨J.same.1.1,J.same.2⟩;have n:Hid (FB v.sw r.now r.given r.ae v.ks v.ps v.ls):=by have p:FB v.wd r.now r.given r.ae r.ks r.ps r.ls:=yX;rw[Z.o.1,Z.o.2.1,Z.o.2.2.1,Z.o.2.2.2]at p;exact p
 have HW:=Yx hW;have Y:Hid (Zz w W):=bW;have f1:=hf.s;have f2:=hf.t;have xA:Hid (Gj v.qs v.ms):=hf.r;obtain⟨e2,e3⟩:=Aa.c2 zA.o 2 3;clear hW hr bW hf J yX Z;go_enter func47,ntmps47;go_upto_region 1 with fail;rw[←HW.o];clear HW;go_wp2_with fail;refine(Na a.sa a.ta a.sc a.tc v.ss v.tt W (HR.o W Y.o).s (HR.o W Y.o).t f1 f2).mono ?_;rintro e w1 ⟨x,f,y,h,rfl,yI,K,zF,G⟩;have z1:=G.size;clear e2 e3
 obtain⟨o,zB⟩:∃X,X=((w1.setCell (Ze (w.heap.size) 2) (.slice x v.ss.length f)).setCell (Ze (w.heap.size) 3) (.slice y v.tt.length h)):=⟨_,rfl⟩;have t1:Tn [w.heap.size] w1 o:=by rw[zB];exact(Tn.set _ _ _ _ (by simp)).trans (Tn.set _ _ _ _ (by simp))
 have xE:o.heap.size=w1.heap.size:=by rw[zB];simp
 have yK:Hid (Aa o (w.heap.size+1) Xz):=Aa.same (Aa.below (v:=Zf) yU.o G) (t1.block _ (by omega) (by simp<;>omega));have c:Hid (Aa o w.heap.size (Yd v x f y h a.ka a.kc a.pa a.pc a.la a.lc a.qa a.qc a.ma a.mc)):=by have p:Aa w1 w.heap.size (Yh v a):=Aa.below zA.o G;show Aa o w.heap.size (Yd v x f y h a.ka a.kc a.pa a.pc a.la a.lc a.qa a.qc a.ma a.mc);rw[zB];exact((p.set 2 _).set 3 _)
 have D:Hid (Zz w o):=(Y.o.trans (G.mono Y.o.size)).trans (t1.below (by omega) (by simp));have zK:Hid (o.ownsRow W.heap.size 9 1 (.slice x v.ss.length f) v.ss.length (v.ss.map Value.string)):=Bn yI t1 (by simp;omega);have zM:Hid (o.ownsRow W.heap.size 9 1 (.slice y v.tt.length h) v.tt.length (v.tt.map Value.string)):=Bn K t1 (by simp;omega);have yO:=Yx zF;obtain⟨e2,f2⟩:=(Aa.below zA.o G) 2 _ rfl
 obtain⟨e3,f3⟩:=(Aa.below zA.o G) 3 _ rfl;have yR:=Yx zB;have yN:Hid ((∀g,(Value.slice x v.ss.length f).ownBlock=some g->g<w1.heap.size)/\(∀g,(Value.slice y v.tt.length h).ownBlock=some g->g<w1.heap.size)):=⟨fun g i=>(Ac yI i).2,fun g i=>(Ac K i).2⟩;clear zB yI K zF Y;go_upto_region 2 with fail;rw[←yR.o];clear yR e2 f2 e3 f3 G t1 zA yU;obtain⟨e4,f4⟩:=(c.o) 4 _ rfl;obtain⟨e5,f5⟩:=(c.o) 5 _ rfl
 obtain⟨e6,f6⟩:=(c.o) 6 _ rfl;obtain⟨e7,f7⟩:=(c.o) 7 _ rfl;obtain⟨e8,f8⟩:=(c.o) 8 _ rfl;obtain⟨e9,f9⟩:=(c.o) 9 _ rfl;obtain⟨zR,zZ⟩:=(c.o) 10 _ rfl;have HD:=Yx (IZ v.sw v.now v.given v.ae a.ka a.pa a.la a.kc a.pc a.lc v.ks v.ps v.ls o (HR.o o D.o).st n.o.bk.len n.o.np n.o.nl n.o.bk.sz n.o.bk.w8);go_wp2_with fail;refine Calls.mono HD.o ?_;rintro e w2 ⟨d,m,O,P,L,rfl,yV,_,_,yG⟩
 have yQ:=Yx (IX (o.heap.size+1) d m O P L v.sw v.now v.given v.ae v.ks v.ps v.ls w2 yV n.o.bk.nd n.o.bk.sz n.o.bk.len n.o.np n.o.nl n.o.dq);have z2:=yG.size;have zP:Hid (Zz o w2):=yG;clear e4 f4 e5 f5 e6 f6 e7 f7 e8 f8 e9 f9 zR zZ HD yV yG;go_wp2_with fail;refine Calls.mono yQ.o ?_;rintro e w3 ⟨T,P',L',rs,rfl,zN,yH⟩;obtain⟨z,A,t,u,q,s,rfl,rfl,rfl,_⟩:=zN.rows;have z3:=yH.size
 have b:Below o.heap.size o w3:=zP.o.trans (yH.mono zP.o.size)
 obtain⟨F,zC⟩:∃X,X=(((((((w3.setCell (Ze (w.heap.size) 4) (Zg v.sw)).setCell (Ze (w.heap.size) 5) (Zg v.now)).setCell (Ze (w.heap.size) 6) (Zg v.given)).setCell (Ze (w.heap.size) 7) (Zg v.ae)).setCell (Ze (w.heap.size) 8) (.slice z v.ks.length A)).setCell (Ze (w.heap.size) 9) (.slice t v.ps.length u)).setCell (Ze (w.heap.size) 10) (.slice q v.ls.length s)):=⟨_,rfl⟩
 have t3:Tn [w.heap.size] w3 F:=by rw[zC];exact((((((Tn.set _ _ _ _ (by simp)).trans (Tn.set _ _ _ _ (by simp))).trans (Tn.set _ _ _ _ (by simp))).trans (Tn.set _ _ _ _ (by simp))).trans (Tn.set _ _ _ _ (by simp))).trans (Tn.set _ _ _ _ (by simp))).trans (Tn.set _ _ _ _ (by simp))
 have xF:F.heap.size=w3.heap.size:=by rw[zC];simp
 have yZ:Hid (Aa F (w.heap.size+1) Xz):=Aa.same (Aa.below (v:=Zf) yK.o b) (t3.block _ (by omega) (by simp<;>omega));have j:Hid (Aa F w.heap.size (Yd v x f y h z A t u q s a.qa a.qc a.ma a.mc)):=by have p:Aa w3 w.heap.size (Yd v x f y h a.ka a.kc a.pa a.pc a.la a.lc a.qa a.qc a.ma a.mc):=Aa.below c.o b;show Aa F w.heap.size (Yd v x f y h z A t u q s a.qa a.qc a.ma a.mc);rw[zC];exact(((((((p.set 4 _).set 5 _).set 6 _).set 7 _).set 8 _).set 9 _).set 10 _)
 have l:Hid (Zz w F):=(D.o.trans (b.mono D.o.size)).trans (t3.below (by have:=D.o.size;omega) (by simp));replace zK:Hid (F.ownsRow W.heap.size 9 1 (.slice x v.ss.length f) v.ss.length (v.ss.map Value.string)):=Bn (Ae zK.o b) t3 (by simp;omega);replace zM:Hid (F.ownsRow W.heap.size 9 1 (.slice y v.tt.length h) v.tt.length (v.tt.map Value.string)):=Bn (Ae zM.o b) t3 (by simp;omega)
 have zJ:Hid ((∀g,(Value.slice x v.ss.length f).ownBlock=some g->g<w2.heap.size)/\(∀g,(Value.slice y v.tt.length h).ownBlock=some g->g<w2.heap.size)/\∀g∈Bb (.slice z v.ks.length A) (.slice t v.ps.length u) (.slice q v.ls.length s) rs,g<w3.heap.size):=⟨fun g i=>by have:=yN.o.1 g i;omega,fun g i=>by have:=yN.o.2 g i;omega,zN.cg⟩
 have yP:Hid (AO F w2.heap.size (.slice z v.ks.length A) (.slice t v.ps.length u) (.slice q v.ls.length s) rs v.ks v.ps v.ls):=zN.an t3 (by simp;omega);obtain⟨e4,f4⟩:=(Aa.below c.o b) 4 _ rfl;obtain⟨e5,f5⟩:=(Aa.below c.o b) 5 _ rfl;obtain⟨e6,f6⟩:=(Aa.below c.o b) 6 _ rfl;obtain⟨e7,f7⟩:=(Aa.below c.o b) 7 _ rfl;obtain⟨e8,f8⟩:=(Aa.below c.o b) 8 _ rfl;obtain⟨e9,f9⟩:=(Aa.below c.o b) 9 _ rfl
 obtain⟨zR,zZ⟩:=(Aa.below c.o b) 10 _ rfl;have yS:=Yx zC;clear zC zN yQ zP;go_upto_region 3 with fail;rw[←yS.o];clear yS e4 f4 e5 f5 e6 f6 e7 f7 e8 f8 e9 f9 zR zZ yH b t3 c yK D;obtain⟨zS,yA⟩:=(j.o) 11 _ rfl;obtain⟨zT,yB⟩:=(j.o) 12 _ rfl;obtain⟨zU,yC⟩:=(j.o) 13 _ rfl;obtain⟨zV,yD⟩:=(j.o) 14 _ rfl;obtain⟨zX,yE⟩:=(j.o) 15 _ rfl;obtain⟨zY,yF⟩:=(j.o) 16 _ rfl;go_wp2_with fail
 refine(Ln v.ph v.ag v.at_ v.ro a.qa a.ma a.qc a.mc v.qs v.ms F (HR.o F l.o).q (HR.o F l.o).m xA.o).mono ?_;rintro e w4 ⟨I,C,H,B,rfl,yW,zH,zG,k⟩;clear zS yA zT yB zU yC zV yD zX yE zY yF;have z4:=k.size
 obtain⟨N,zE⟩:∃X,X=((((((w4.setCell (Ze (w.heap.size) 11) (Zg v.ph)).setCell (Ze (w.heap.size) 12) (.slice I v.qs.length C)).setCell (Ze (w.heap.size) 13) (.slice H v.ms.length B)).setCell (Ze (w.heap.size) 14) (Zg v.ag)).setCell (Ze (w.heap.size) 15) (Zg v.at_)).setCell (Ze (w.heap.size) 16) (Zg v.ro)):=⟨_,rfl⟩;have R:Tn [w.heap.size] w4 N:=by rw[zE];exact(((((Tn.set _ _ _ _ (by simp)).trans (Tn.set _ _ _ _ (by simp))).trans (Tn.set _ _ _ _ (by simp))).trans (Tn.set _ _ _ _ (by simp))).trans (Tn.set _ _ _ _ (by simp))).trans (Tn.set _ _ _ _ (by simp))
 have xG:N.heap.size=w4.heap.size:=by rw[zE];simp
 have yL:Hid (Aa N (w.heap.size+1) Xz):=Aa.same (Aa.below (v:=Zf) yZ.o k) (R.block _ (by omega) (by simp<;>omega));have yY:Hid (Aa N w.heap.size (Yd v x f y h z A t u q s I C H B)):=by have p:Aa w4 w.heap.size (Yd v x f y h z A t u q s a.qa a.qc a.ma a.mc):=Aa.below j.o k;show Aa N w.heap.size (Yd v x f y h z A t u q s I C H B);rw[zE];exact((((((p.set 11 _).set 12 _).set 13 _).set 14 _).set 15 _).set 16 _)
 obtain⟨W5,zO⟩:∃X,X=N.setCells (w.heap.size+1) 0 (Yd v x f y h z A t u q s I C H B):=⟨_,rfl⟩;have V:Tn [w.heap.size+1] N W5:=by rw[zO];exact AP _ _ _ _
 have x5:Aa W5 (w.heap.size+1) (Yd v x f y h z A t u q s I C H B):=by rw[zO];exact yL.o.ba _ rfl
 have xD:=V.size;have q1:=Bn (Bn (Ae zK.o k) R (by simp;omega)) V (by simp;omega);have q2:=Bn (Bn (Ae zM.o k) R (by simp;omega)) V (by simp;omega);have q3:=((yP.o.below k).an R (by simp;omega)).an V (by simp;omega);have q4:=Bn (Bn yW R (by simp;omega)) V (by simp;omega);have q5:=Bn (Bn zH R (by simp;omega)) V (by simp;omega)
 have yJ:Hid (Zz w W5):=((l.o.trans (k.mono l.o.size)).trans (R.below (by have:=l.o.size;omega) (by simp))).trans (V.below (by have:=l.o.size;omega) (by simp));have HV:Hid (AL W5 w.heap.size (.slice x v.ss.length f) (.slice y v.tt.length h) (.slice z v.ks.length A) (.slice t v.ps.length u) (.slice q v.ls.length s) (.slice I v.qs.length C) (.slice H v.ms.length B) rs v):=
  AL.of (n1:=w2.heap.size) (n2:=w3.heap.size) (Ao.own (q1.mono (by omega))) (Ao.own (q2.mono (by omega))) (fun g p=>yO.o g p) (fun g i=>by rcases i with i|i;exact zJ.o.1 g i;exact zJ.o.2.1 g i) q3 (by omega) zJ.o.2.2 (Ao.own (q4.mono (by omega))) (Ao.own (q5.mono (by omega))) (fun g i=>by rcases i with i|i;(have:=(Ac q4 i).1;omega);(have:=(Ac q5 i).1;omega)) z3 (fun g p=>zG g p)
 obtain⟨zS,yA⟩:=(Aa.below j.o k) 11 _ rfl;obtain⟨zT,yB⟩:=(Aa.below j.o k) 12 _ rfl;obtain⟨zU,yC⟩:=(Aa.below j.o k) 13 _ rfl;obtain⟨zV,yD⟩:=(Aa.below j.o k) 14 _ rfl;obtain⟨zX,yE⟩:=(Aa.below j.o k) 15 _ rfl;obtain⟨zY,yF⟩:=(Aa.below j.o k) 16 _ rfl;have yT:=Yx zE;have xB:=Yx zO;have xC:=Yx x5;clear zE zO yW zH zG q1 q2 q3 q4 q5 x5 R V zK zM yP yO zJ;go_upto_region 4 with fail;rw[←yT.o]
 clear yT zS yA zT yB zU yC zV yD zX yE zY yF;have zI:((Ye v x f y h z A t u q s I C H B):Array Value).all (·.oneCell')=true:=by simp[Value.oneCell']
 have E:N.there (w.heap.size+1) 0 17:=yL.o.there;have yM:=Yx (Zn zI E);clear zI E;go_wp2_with (first
  |refine wpList_load_mid rfl 43 _ rfl w.heap.size 0 rfl (Yd v x f y h z A t u q s I C H B) _ yY.o.range underlying43 rfl (by kernel_rfl) ?_
  |refine wpList_store_mid rfl 43 _ _ rfl (w.heap.size+1) 0 (Ye v x f y h z A t u q s I C H B) rfl rfl yM.o.2 (by kernel_rfl) yM.o.1 ?_)
 rw[←xB.o];refine bodyPost_ret (BN results47 _ _ (w.heap.size+1) (Yd v x f y h z A t u q s I C H B) _ rfl (Aa.range xC.o) underlying43 rfl (by kernel_rfl)) rfl ?_;exact⟨_,_,_,_,_,_,_,rs,rfl,HV.o,yJ.o⟩
theorem LJ.below{w c:Zh}{lo k d m base:Nat}{O P L:Value}{v:Vd}{a:Va}{r:Rs}(h:LJ w lo k d m base O P L v a r)(b:Zz w c):LJ c lo k d m base O P L v a r:=by obtain⟨e,f⟩:=h.ty;exact⟨Aa.below h.box b,h.dr.below b,h.de,h.fq,h.lt,h.cl,e,(b.block k h.box.lt).trans f⟩
theorem TR(v:Vd)(a:Va)(e:Ed)(f:Nat)(rv:Value)(l:Zk)(t:Nat)(w:Zh)(y:∀args X,(callFunc f args).run prog X=.ok (.enter f args) X)(s:BR w w.heap.size a v)(q:Cr v)(u:Env w)(n:IH w w.heap.size l e.rf)(C:∃g h:Nat,a.qa=some ⟨g,0,none⟩/\a.ma=some ⟨h,0,none⟩)(A:e.rf.length<=1048576)(D:e.tx.size<=maxLen)(B:e.nm.size<=maxLen)(x:e.kd≠1)
 (z:∀X,Zz w X->Calls prog f #[rv] X fun o p=>o=.returned (.agg (Yp e.kd e.s e.nm e.num e.tx l e.rf.length t))/\Zz X p):
 Calls prog 20 #[.agg (Yi v a),.func (.func f) #[rv] #[]] w (Hc v e w):=by
 refine TM v e _ _ f rv l t (fun lo k X=>∃r d m base O P L,CM v r/\LJ X lo k d m base O P L v a r) w rfl y (fun X j=> ?_) z ?_ ?_ ?_
 ·refine(RI v a X (s.af j) q (u.below j)).mono ?_;rintro o p ⟨c,h|⟨r,k,d,m,O,P,L,base,b,rfl,i⟩⟩
  ·exact⟨c,.inl h⟩
  ·exact⟨c,.inr ⟨⟨r,b⟩,k,rfl,r,d,m,base,O,P,L,b,i⟩⟩
 ·rintro lo k X p ⟨r,d,m,base,O,P,L,b,i⟩ c;exact⟨r,d,m,base,O,P,L,b,i.below c⟩
 ·rintro lo k X de _ ⟨r,d,m,base,O,P,L,b,i⟩ c;exact YN v a e l t r lo k d m base O P L w X b i de c s q u n C A D B x
 ·rintro⟨r,b⟩ X j;exact Lo v a r X (s.af j) q b
end Go.Proofs.YtlhhpofjkgmbeaaGreatDoor
