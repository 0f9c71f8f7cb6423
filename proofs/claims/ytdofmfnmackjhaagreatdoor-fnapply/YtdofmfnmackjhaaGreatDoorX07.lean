import Derived.Test.YtdofmfnmackjhaaGreatDoorX01
import Derived.Deep.Slices
set_option maxRecDepth 100000
set_option maxHeartbeats 16000000
namespace Go.Proofs.YtdofmfnmackjhaaGreatDoor
open ChangeShapes WideShapes ChangeAt RowKit _root_.Go.Proofs.Tryz List World Value
variable{w e:Zh}{b n c g:Nat}{a:Zk}{p:Int}
structure AD (w:Zh) (b:Nat) (a:Zk) (n c:Nat) (p:Int):Prop where
 c0:w.cell? (Zd b 0)=some (.slice a n c)
 c1:w.cell? (Zd b 1)=some (Zg p)
 f1:w.frozen? ⟨b,1,none⟩=false
 lt:b<w.1.size
 n2:n<=2000
 bytes:n=0\/∃q off,a=some ⟨q,off,none⟩/\q<b/\∀j,j<n->∃x:Int,w.cell? (Zd q (off+j))=some (.int .u8 x)/\0<=x/\x<256
theorem AD.next(h:AD w b a n c p)(d:Int):AD (w.setCell (Zd b 1) (Zg d)) b a n c d:=by
 obtain⟨m,o,r,g,i,f⟩:=h;refine⟨by simp[go_sem,m],by simp[go_sem,o],by simpa [go_sem]using r,D2 g,i,?_⟩;rcases f with h|⟨q,l,u,k,z⟩
 .exact .inl h
 .refine .inr ⟨q,l,u,k,λj y=> ?_⟩;have⟨x,v,s,t⟩:=z j y;exact⟨x,by rw[cell?_setCell_other _ _ _ _ (by intro e;injection e;omega)];exact v,s,t⟩
theorem AD.drew(h:AD w b a n c p):AD w.drew b a n c p:=⟨h.c0,h.c1,h.f1,h.lt,h.n2,h.bytes⟩
theorem AD.drewN(h:AD w b a n c p)(k:Nat):AD (w.drewN k) b a n c p:=⟨h.c0,h.c1,h.f1,h.lt,h.n2,h.bytes⟩
theorem QI{a:Zh}{r:Option Nat}(h:w.grownBy a r)(k:Nat):w.grownBy (a.drewN k) r:=⟨h.os,h.tape,h.output,h.size,h.block⟩
theorem Vs{f h:Zh}(a:w.grownBy f (some b))(c:f.grownBy h (some g))(j:w.1.size<=g):w.grownBy h (some b):=
 ⟨c.os.ah a.os,c.tape.ah a.tape,c.output.ah a.output,Zm a.size c.size,λk d i=>(c.block k (Zr d a.size) (by intro e;cases e;omega)).ah (a.block k d i)⟩
theorem Ph(w:Zh)(g p:Nat)(v:D4):w.grownBy (w.setCell (Zd g p) v) (some g):=
 ⟨rfl,rfl,rfl,Yu,λi _ a=>Below.heap_setCell _ _ _ _ (λe=>a (by rw[e]))⟩
theorem AD.grown(h:AD w b a n c p)(d:w.grownBy e (some g))(u:b<g):AD e b a n c p:=by
 have v:=d.size;have s:=h.lt;refine⟨d.cell h.c0 Yt,d.cell h.c1 Yt,(d.frozen_far ⟨b,1,none⟩ s Yt).ah h.f1,Yv,h.n2,?_⟩;rcases h.bytes with h|⟨q,i,m,f,t⟩
 .exact .inl h
 .refine .inr ⟨q,i,m,f,λj r=> ?_⟩;have⟨x,o,k,l⟩:=t j r;exact⟨x,d.cell o Yt,k,l⟩
theorem AD.A{g:Zh}(h:AD w b a n c p)(d:Zz w g):AD g b a n c p:=by
 have e:=h.lt;refine⟨(d.cell (p:=⟨b,0,none⟩) e).ah h.c0,(d.cell (p:=⟨b,1,none⟩) e).ah h.c1,(d.frozen (p:=⟨b,1,none⟩) e).ah h.f1,Zr e d.size,h.n2,?_⟩;rcases h.bytes with h|⟨q,f,m,i,s⟩
 .exact .inl h
 .refine .inr ⟨q,f,m,i,λj r=> ?_⟩;have⟨x,o,k,l⟩:=s j r;exact⟨x,(d.cell (p:=⟨q,f+j,none⟩) Yt).ah o,k,l⟩
theorem BM{a:Int}(b:0<=a)(c:a<=2000000000):IntKind.i64.wrap a=a:=by unfold IntKind.wrap;simp[IntKind.signed,IntKind.bits];omega
theorem Vt(a b:Nat)(d:a<2^30)(e:b<2^30):∃z:Nat,bits .xor .i64 (a:Int) (b:Int)=(z:Int):=by
 refine⟨a^^^b,?_⟩;have f:a^^^b<2^30:=Nat.xor_lt_two_pow d e;have c:(BitVec.ofInt 64 (a:Int)^^^BitVec.ofInt 64 (b:Int)).toNat=a^^^b:=by rw[BitVec.toNat_xor,BitVec.ofInt_natCast,BitVec.ofInt_natCast,BitVec.toNat_ofNat,BitVec.toNat_ofNat,Nat.mod_eq_of_lt Yv,Nat.mod_eq_of_lt Yv]
 show IntKind.i64.wrap ((BitVec.ofInt 64 (a:Int)^^^BitVec.ofInt 64 (b:Int)).toNat:Int)=_;rw[c];exact BM Yv Yv
theorem AK(b:Nat)(a:Zk)(n c:Nat)(p m:Int)(w:Zh)(h:AD w b a n c p)(hp:0<=p)(L:p<=1000000)(hm:1<=m)(I:m<=10000):
 D8 16 #[Yy b,Zg m] w λe d=>∃r:Int,e=C5 (Zg r)/\0<=r/\r<m/\AD d b a n c (p+1)/\w.grownBy d (some b):=by
 have HN:Hid (AD (w.setCell (Zd b 1) (Zg (p+1))) b a n c (p+1)/\w.grownBy (w.setCell (Zd b 1) (Zg (p+1))) (some b)):=⟨h.next _,Ph _ _ _ _⟩;obtain⟨R,S,V,G,J,o⟩:=h;have H:(m==0)=false:=beq_eq_false_iff_ne.2 Yv;by_cases hn:n=0
 .subst hn;go_enter func16,ntmps16;go_wp2;go_ret;exact⟨0,rfl,Yv,Yv,HN.1,HN.2⟩
 .obtain⟨q,Q,D,M,i⟩:=o.resolve_left hn;subst D;have K:((n:Int)==0)=false:=beq_eq_false_iff_ne.2 Yv;go_enter func16,ntmps16;by_cases hk:p<n
  .obtain⟨x,l,A,B⟩:=i p.toNat Yv;obtain⟨k,rfl⟩:∃k:Nat,p=k:=⟨p.toNat,Yv⟩;simp only[Int.toNat_natCast]at l;go_wp2;go_ret;exact⟨_,rfl,Int.emod_nonneg _ Yv,Int.emod_lt_of_pos _ Yv,HN.1,HN.2⟩
  .obtain⟨k,rfl⟩:∃k:Nat,p=k:=⟨p.toNat,Yv⟩;have F:decide ((k:Int)<(n:Int))=false:=Yt
   have u:k%n<n:=Nat.mod_lt _ Yv;have v:(k *7+3)%n<n:=Nat.mod_lt _ Yv;obtain⟨x,l,A,B⟩:=i _ u;obtain⟨y,hd,N,O⟩:=i _ v;have T:(k:Int)%(n:Int)=((k%n:Nat):Int):=Yu
   have U:((k:Int) *7+3)%(n:Int)=(((k *7+3)%n:Nat):Int):=Yu
   have t:k/n<=k:=Nat.div_le_self _ _;have C:(k:Int)/(n:Int)=((k/n:Nat):Int):=Yu
   have s:k/n<=1000000:=Yv
   have⟨d,f⟩:=Ae (k/n);rw[<-f]at C t s;clear f;have f:IntKind.i64.wrap ((k:Int) *7)=(k:Int) *7:=BM Yv Yv;have W:IntKind.i64.wrap ((k:Int) *7+3)=(k:Int) *7+3:=BM Yv Yv;have Y:IntKind.i64.wrap (x *131)=x *131:=BM Yv Yv;have Z:IntKind.i64.wrap (y *1117)=y *1117:=BM Yv Yv
   have e:IntKind.i64.wrap (x *131+y *1117)=x *131+y *1117:=BM Yv Yv;have r:IntKind.i64.wrap ((k:Int) *29)=(k:Int) *29:=BM Yv Yv;have g7:IntKind.i64.wrap (x *131+y *1117+(k:Int) *29)=x *131+y *1117+(k:Int) *29:=BM Yv Yv;have g8:IntKind.i64.wrap ((d:Int) *53)=(d:Int) *53:=BM Yv Yv
   have g9:IntKind.i64.wrap (x *131+y *1117+(k:Int) *29+(d:Int) *53)=x *131+y *1117+(k:Int) *29+(d:Int) *53:=BM Yv Yv;generalize k%n=i1 at *
   generalize (k *7+3)%n=i2 at *
   go_wp2;go_quiet (fail);have⟨X,j⟩:∃X:Nat,x *131+y *1117+(k:Int) *29+(d:Int) *53=X:=⟨(x *131+y *1117+(k:Int) *29+(d:Int) *53).toNat,Yv⟩;have g:X<2^30:=Yv
   have f:(X:Int)/64=((X/64:Nat):Int):=Yu
   have⟨z,E⟩:=Vt X (X/64) g Yv;rw[<-f,<-j]at E;have P:(z:Int).tmod m=(z:Int)%m:=Int.tmod_eq_emod_of_nonneg Yv;clear f j g X;go_wp2;go_ret;exact⟨(z:Int)%m,Yp,Int.emod_nonneg _ Yv,Int.emod_lt_of_pos _ Yv,AD.drewN HN.1 _,QI HN.2 _⟩
theorem Sj(a:Zk)(n c:Nat)(w:Zh)(t:n<=maxLen)(m:n=0\/∃q b,a=some ⟨q,b,none⟩/\q<w.1.size/\∀j,j<n->∃x:Int,w.cell? (Zd q (b+j))=some (.int .u8 x)/\0<=x/\x<256)(u:n<=c):
 D8 13 #[C3 a n c] w λe g=>∃d f,e=C5 (Yy w.1.size)/\AD g w.1.size a d f 0/\Zz w g:=by
 have g:∀o,Zz w (w.alloc o):=λo=>Zy;unfold maxLen at t;have l:∀d f,d<=n->d<=2000->AD (w.alloc (.cells #[C3 a d f,Ze] 94)) w.1.size a d f 0:=λd f d d=>by
  refine⟨by simp[go_sem],by simp[go_sem],by simp[go_sem],Yu,d,?_⟩;rcases m with h|⟨q,b,d,f,i⟩
  .exact .inl Yv
  .refine .inr ⟨q,b,d,f,λj k=> ?_⟩;have⟨x,r,s⟩:=i j Yv;exact⟨x,((g _).cell (p:=⟨q,b+j,none⟩) f).ah r,s⟩
 have k:=Yw l;clear l;by_cases h:n<=2000
 .have l:decide ((2000:Int)<(n:Int))=false:=Yt
  go_enter func13,ntmps13;go_wp2;go_ret;exact⟨n,c,rfl,k.o n c (Zx) h,g _⟩
 .have l:decide ((2000:Int)<(n:Int))=true:=Yt
  have⟨q,b,d,f,i⟩:=m.resolve_left Yv;subst d;clear i;go_enter func13,ntmps13;go_wp2;go_ret;exact⟨2000,_,rfl,k.o 2000 _ Yv (Zx),g _⟩
theorem Ku{a:Int}(b:0<=a)(c:a<256):IntKind.u8.wrap a=a:=by unfold IntKind.wrap;simp[IntKind.signed,IntKind.bits];omega
theorem ED(l:List Int):(strOfNums l).size=l.length:=by unfold strOfNums;simp[ByteArray.size]
theorem TW:(prog.info? 5).map (λi=>(i.zero,i.size,i.bytes))=some (some (.int .u8 0),1,1):=Yr
structure GJ (w w':Zh) (b:Nat) (a:Zk) (n c:Nat) (p:Int) (k:Int):Prop where
 R:∃p',AD w' b a n c p'/\p<=p'/\p'<=p+k
 gr:w.grownBy w' (some b)
theorem Sk(b:Nat)(a:Zk)(n c:Nat)(p:Int)(w:Zh)(h:AD w b a n c p)(hp:0<=p)(zC:p<=900000):
 D8 50 #[Yy b] w λe d=>∃s,e=C5 (C4 s)/\s.size<=16/\GJ w d b a n c p 10:=by
 have⟨i0,K,R,S,U⟩:=info_parts TW;go_enter func50,ntmps50;go_wp2_with fail;refine(AK b a n c p 9 w h hp Yv Yv Yv).aj ?_;rintro e M ⟨r,rfl,r0,r1,I,H⟩;have C:Hid (GJ w M b a n c p 10):=⟨⟨_,I,Yv,Yv⟩,H⟩;by_cases q0:r=0
 .have zF:(r==0)=true:=D2 q0
  go_wp2;go_ret;exact⟨_,rfl,Yq,C⟩
 by_cases q1:r=1
 .have zG:(r==1)=true:=D2 q1
  go_wp2;go_ret;exact⟨_,rfl,Yq,C⟩
 by_cases q2:r=2
 .have zH:(r==2)=true:=D2 q2
  go_wp2;go_ret;exact⟨_,rfl,Yq,C⟩
 by_cases q3:r=3
 .have zI:(r==3)=true:=D2 q3
  go_wp2;go_ret;exact⟨_,rfl,Yq,C⟩
 go_wp2_with fail;refine(AK b a n c (p+1) 4 M I Yv Yv Yv Yv).aj ?_;rintro e d ⟨k,rfl,k0,k1,J,g2⟩;have D:=Aj H g2;have X:=D.size;have zA:=J.lt;have z:Below d.1.size d (d.alloc (.cells #[] 5)):=Zy;have B:=Yw (J.A z);have A:=Yw (Aj D (Ag (some b) z))
 have x:Hid ((d.alloc (.cells #[] 5)).ownsRow d.1.size 5 1 (Yz d.1.size 0 0) 0 (([]:List Int).map (int .u8))):=ownsRow_lit d #[] 0 (Zx) Yo rfl;go_wp2
 go_loopw [4,5] (λv i wr=>∃(j g q:Nat) (f:List Int),(j:Int)<=k+1/\f.length=j/\i=Zg j/\v=Yz g j q/\Hid (wr.ownsRow d.1.size 5 1 (Yz g j q) j (f.map (int .u8)))/\Hid (AD wr b a n c (p+1+1+j))/\Hid (w.grownBy wr (some b))) (λ_ i _=>(k+1).toNat -(intOf i).toNat)
 case atStart=>exact⟨0,_,_,[],Yv,rfl,rfl,rfl,x,D2 B,A⟩
 case round=>
  obtain⟨j,g,q,f,hj,E,rfl,rfl,x,B,A⟩:=hrel;have lg:=x.lt g rfl;by_cases hlt:(j:Int)<=k
  .have hd:decide ((j:Int)<=k)=true:=D2 hlt
   go_wp2_with fail;refine(AK b a n c (p+1+1+j) 6 wr B Yv Yv Yv Yv).aj ?_;rintro e m ⟨y,rfl,y0,y1,h3,F⟩;have wy:IntKind.i64.wrap (97+y)=97+y:=BM Yv Yv;have wu:IntKind.u8.wrap (97+y)=97+y:=Ku Yv Yv;have s:=Yw (ownsRow.kept x F (.inr (by simp[ownBlock];omega)));have zE:=F.size;go_wp2_with (first
    |(at_builtin;refine wpList_append_lies _ rfl _ _ 22 rfl d.1.size 5 i0 (.int .u8 0) 1 1 underlying22 K R S U rfl Yq _ j (f.map (int .u8)) rfl ?d0 ⟨m.1.size,0,none⟩ 1 1 [.int .u8 (97+y)] rfl rfl ?d1 ?d2 Yq ?d3 ?d4 ?d5 _ rfl ?_)
    |go_in)
   case d0=>exact ownsRow.alloc s _
   case d1=>exact cell_one_new m _ 5
   case d2=>intro u L;simp at L;subst L;rfl
   case d3=>unfold maxLen;omega
   case d4=>omega
   case d5=>simp;omega
   intro G l t Q O V W;have z:Below m.1.size m (m.alloc (.cells #[.int .u8 (97+y)] 5)):=Zy;have o:(m.alloc (.cells #[.int .u8 (97+y)] 5)).grownBy t (some g):=by simpa [ownBlock]using O
   have Z:Hid (AD t b a n c (p+1+1+((j+1:Nat):Int))):=by have:=(h3.A z).grown o Yv;rw[show p+1+1+((j+1:Nat):Int)=p+1+1+(j:Int)+1 by omega];exact this
   have N:(m.alloc (.cells #[.int .u8 (97+y)] 5)).grownBy t (some g):=o;have Y:Hid (w.grownBy t (some b)):=Vs (Aj A (Aj F (Ag _ z))) N Yv;have v:Hid (t.ownsRow d.1.size 5 1 (Yz G (j+1) l) (j+1) ((f++[97+y]).map (int .u8))):=by
    have h9:t.ownsRow d.1.size 5 1 (Yz G (j+1) l) (j+1) ((f++[97+y]).map (int .u8)):=D2 Q
    exact h9
   go_wp2;exact⟨⟨j+1,G,l,f++[97+y],Yv,by simp[E],Yn,Yu,v,Z,Y⟩,Ys⟩
  .have hd:decide ((j:Int)<=k)=false:=D2 hlt
   have zB:=run_convert_bytes_arg (P:=prog) wr 22 5 underlying22 underlying5 g 0 j q f E (λi K=>by
    rw[A0,x.cellAt i Yt,getElem?_map,Zv Yv];simp[getD,Zv (show i<f.length by omega)]) 9 underlying9
   have i:=ED f;generalize strOfNums f=T at *
   go_wp2;go_ret;exact⟨T,rfl,Yv,⟨_,B,Yv,Yv⟩,A⟩
theorem LQ(s:Zi)(n:Nat)(w:Zh)(f:1<=s.size)(r:s.size *n<=100000):
 D8 52 #[C4 s,Zg n] w λe a=>∃T:Zi,e=C5 (C4 T)/\T.size=s.size *n/\a=w:=by
 go_enter func52,ntmps52;go_wp2
 go_loop [0,1,5] (λu m o=>∃(S T:Zi) (k:Nat),u=C4 S/\m=Zg k/\o=C4 T/\1<=S.size/\T.size+S.size *k=s.size *n) (λ_ m _=>(intOf m).toNat)
 case atStart=>exact⟨s,⟨#[]⟩,n,rfl,rfl,rfl,f,by show 0+_=_;omega⟩
 case round=>
  obtain⟨S,T,k,rfl,rfl,rfl,g,d⟩:=hrel;by_cases hk:0<k
  .have q:decide ((0:Int)<(k:Int))=true:=Yt
   have i:S.size<=S.size *k:=Nat.le_mul_of_pos_right _ hk;have j:=Nat.div_add_mod k 2;have l:k<=100000:=Dz (Nat.le_mul_of_pos_left k g)
   rcases Nat.mod_two_eq_zero_or_one k with b|b
   .have h:((k:Int)%2==1)=false:=by rw[show(k:Int)%2=((k%2:Nat):Int) by simp,b];rfl
    have c:Hid (T.size+(S++S).size *(k/2)=s.size *n):=by
     show _=_;rw[<-d,ByteArray.size_append];have:k=2 *(k/2):=Yv
     conv=>rhs;rw[this]
     rw[<-Nat.mul_assoc];congr 2;omega
    have a:1<=(S++S).size:=by rw[ByteArray.size_append];omega
    go_wp2;exact⟨⟨S++S,T,k/2,rfl,Yu,rfl,a,c⟩,Ys⟩
   .have h:((k:Int)%2==1)=true:=by rw[show(k:Int)%2=((k%2:Nat):Int) by simp,b];rfl
    have c:Hid ((T++S).size+(S++S).size *(k/2)=s.size *n):=by
     show _=_;rw[<-d,ByteArray.size_append,ByteArray.size_append];have e:k=2 *(k/2)+1:=Yv
     have p:S.size *k=S.size+(S.size+S.size) *(k/2):=by
      conv=>lhs;rw[e]
      rw[Nat.mul_add,Nat.mul_one,<-Nat.mul_assoc,Nat.add_comm];congr 2;omega
     omega
    have a:1<=(S++S).size:=by rw[ByteArray.size_append];omega
    go_wp2;exact⟨⟨S++S,T++S,k/2,rfl,Yu,rfl,a,c⟩,Ys⟩
  .obtain rfl:k=0:=Yv
   go_wp2;go_ret;exact⟨T,rfl,D2 d,rfl⟩
theorem TY(b:Nat)(a:Zk)(n c:Nat)(p:Int)(w:Zh)(h:AD w b a n c p)(m:0<=p)(i:p<=1000000):
 D8 16 #[Yy b,Ze] w λe d=>e=C5 Ze/\AD d b a n c (p+1)/\w.grownBy d (some b):=by
 have HN:Hid (AD (w.setCell (Zd b 1) (Zg (p+1))) b a n c (p+1)/\w.grownBy (w.setCell (Zd b 1) (Zg (p+1))) (some b)):=⟨h.next _,Ph _ _ _ _⟩;obtain⟨j,k,l,f,g,d⟩:=h;have o:IntKind.i64.wrap (p+1)=p+1:=BM Yv Yv;clear d;go_enter func16,ntmps16;go_wp2;go_ret;exact⟨rfl,HN.1,HN.2⟩
theorem Vu(b:Nat)(a:Zk)(n c:Nat)(p:Int)(m:Nat)(w:Zh)(h:AD w b a n c p)(j:0<=p)(f:p<=1000000)(k:m<=10000):
 D8 16 #[Yy b,Zg m] w λe d=>∃r:Nat,e=C5 (Zg r)/\(m=0\/r<m)/\AD d b a n c (p+1)/\w.grownBy d (some b):=by
 by_cases hz:m=0
 .subst hz;refine(TY b a n c p w h j f).aj ?_;rintro e d ⟨rfl,g,i⟩;exact⟨0,rfl,.inl rfl,g,i⟩
 .refine(AK b a n c p m w h j f Yv Yv).aj ?_;rintro e d ⟨r,rfl,r0,l,g,i⟩;exact⟨r.toNat,by congr 2;omega,.inr Yv,g,i⟩
def Rq(w:Zh)(a:Zk)(n:Nat):Prop:=n=0\/∃q off,a=some ⟨q,off,none⟩/\q<w.1.size/\∀j,j<n->∃x:Int,w.cell? (Zd q (off+j))=some (.int .u8 x)/\0<=x/\x<256
theorem Rq.A(h:Rq w a n)(c:Zz w e):Rq e a n:=by
 rcases h with h|⟨q,b,i,d,l⟩
 .exact .inl h
 .refine .inr ⟨q,b,i,Zr d c.size,λj k=> ?_⟩;have⟨x,f,g⟩:=l j k;exact⟨x,(c.cell (p:=⟨q,b+j,none⟩) d).ah f,g⟩
theorem QJ{X Y:Zh}(h:Zz w X)(a:X.grownBy Y (some b))(d:w.1.size<=b):Below w.1.size w Y:=
 h.ah ⟨a.os,a.tape,a.output,a.size,λi c=>a.block i (Zr c h.size) (λe=>by injection e with e;omega)⟩
theorem Aad:prog.cellsOf 5=1:=Yr
theorem Sl{H:Type}{r:TypeId×Value->H}{W:Zh}{g:Nat}{spare:Nat->Bool}{held:Bool}{i:Nat}{v:D4}{y:DataW H×List MemPlace}
 (h:DataW.trod r prog W g spare held i 22 [v]=some y):
 ∃a n d,v=.slice a n d/\Rq W a n/\n<=d/\n<=maxLen:=by
 rcases Go.Deep.open_slice1 underlying22 Aad h with⟨c,_⟩|⟨a,f,d,m,n,V,D,B,c,_,w,C,s,_,l⟩
 .simp at c;subst c;exact⟨none,0,0,rfl,.inl rfl,Zx,Az _⟩
 .simp at c;subst c;refine⟨some a,f,d,rfl,?_,w,by omega⟩;have A:f<=m:=by rw[s];split<;>omega
  by_cases h0:f=0
  .exact .inl h0
  .obtain⟨b,k,spot⟩:=a;have e:spot=none:=by simpa [Addr.add]using cell?_spot (l 0 (by omega)).1
   subst e;refine .inr ⟨b,k,rfl,?_,λj o=> ?_⟩
   .exact A6 W ⟨b,k+0,none⟩ (by rw[<-A3];exact(l 0 (by omega)).1)
   .obtain⟨o,t⟩:=l j (by omega);have⟨z,q,_,x⟩:=DataW.trod_int underlying5 t;simp at q;rw[A3,q]at o;refine⟨z,o,?_⟩;have u:=range_u8 (zs:=[z]) (by intro n p;simp at p;subst p;exact x) 0;simp at u;omega
