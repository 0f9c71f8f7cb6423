import Derived.Test.YtcfjcdpkpiidkaaGreatX01
set_option maxRecDepth 100000
set_option maxHeartbeats 16000000
namespace Go.Proofs.YtcfjcdpkpiidkaaGreat
open ChangeShapes WideShapes ChangeAt RowKit _root_.Go.Proofs.Tryz
variable{w f:Zh}{b n c g:Nat}{a:Zk}{p:Int}
structure AA (w:Zh) (b:Nat) (a:Zk) (n c:Nat) (p:Int):Prop where
 c0:w.cell? (Zd b 0)=some (.slice a n c)
 c1:w.cell? (Zd b 1)=some (Zg p)
 f1:w.frozen? ⟨b,1,none⟩=false
 lt:b<w.heap.size
 n2:n<=2000
 bytes:n=0\/∃q off,a=some ⟨q,off,none⟩/\q<b/\∀j,j<n->∃x:Int,w.cell? (Zd q (off+j))=some (.int .u8 x)/\0<=x/\x<256
theorem AA.next(h:AA w b a n c p)(d:Int):AA (w.setCell (Zd b 1) (Zg d)) b a n c d:=by
 obtain⟨l,m,o,g,i,f⟩:=h;refine⟨by simp[go_sem,l],by simp[go_sem,m],by simpa [go_sem]using o,by simpa using g,i,?_⟩;rcases f with h|⟨q,off,t,k,y⟩
 .exact .inl h
 .refine .inr ⟨q,off,t,k,fun j v=> ?_⟩;obtain⟨x,u,r,s⟩:=y j v;exact⟨x,by rw[World.cell?_setCell_other _ _ _ _ (by intro e;injection e;omega)];exact u,r,s⟩
theorem AA.drew(h:AA w b a n c p):AA w.drew b a n c p:=⟨h.c0,h.c1,h.f1,h.lt,h.n2,h.bytes⟩
theorem AA.drewN(h:AA w b a n c p)(k:Nat):AA (w.drewN k) b a n c p:=⟨h.c0,h.c1,h.f1,h.lt,h.n2,h.bytes⟩
theorem OL{a:Zh}{r:Option Nat}(h:w.grownBy a r)(k:Nat):w.grownBy (a.drewN k) r:=⟨h.os,h.tape,h.output,h.size,h.block⟩
theorem Tg{h:Zh}(a:w.grownBy f (some b))(c:f.grownBy h (some g))(j:w.heap.size<=g):w.grownBy h (some b):=
 ⟨c.os.trans a.os,c.tape.trans a.tape,c.output.trans a.output,Zm a.size c.size,fun k d i=>(c.block k (Zr d a.size) (by intro e;cases e;omega)).trans (a.block k d i)⟩
theorem Nh(w:Zh)(g p:Nat)(v:Value):w.grownBy (w.setCell (Zd g p) v) (some g):=
 ⟨rfl,rfl,rfl,Yu,fun i _ a=>Below.heap_setCell _ _ _ _ (fun e=>a (by rw[e]))⟩
theorem AA.grown{e:Zh}(h:AA w b a n c p)(d:w.grownBy e (some g))(t:b<g):AA e b a n c p:=by
 have u:=d.size;have r:=h.lt;refine⟨d.cell h.c0 Yt,d.cell h.c1 Yt,(d.frozen_far ⟨b,1,none⟩ r Yt).trans h.f1,Yv,h.n2,?_⟩;rcases h.bytes with h|⟨q,off,l,f,s⟩
 .exact .inl h
 .refine .inr ⟨q,off,l,f,fun j o=> ?_⟩;obtain⟨x,m,i,k⟩:=s j o;exact⟨x,d.cell m Yt,i,k⟩
theorem AA.below(h:AA w b a n c p)(d:Zz w f):AA f b a n c p:=by
 have e:=h.lt;refine⟨(d.cell (p:=⟨b,0,none⟩) e).trans h.c0,(d.cell (p:=⟨b,1,none⟩) e).trans h.c1,(d.frozen (p:=⟨b,1,none⟩) e).trans h.f1,Zr e d.size,h.n2,?_⟩;rcases h.bytes with h|⟨q,off,l,g,r⟩
 .exact .inl h
 .refine .inr ⟨q,off,l,g,fun j o=> ?_⟩;obtain⟨x,m,i,k⟩:=r j o;exact⟨x,(d.cell (p:=⟨q,off+j,none⟩) Yt).trans m,i,k⟩
theorem Bs{a:Int}(b:0<=a)(c:a<=2000000000):IntKind.i64.wrap a=a:=by unfold IntKind.wrap;simp[IntKind.signed,IntKind.bits];omega
theorem Th(a b:Nat)(d:a<2^30)(e:b<2^30):∃z:Nat,bits .xor .i64 (a:Int) (b:Int)=(z:Int):=by
 refine⟨a^^^b,?_⟩;have f:a^^^b<2^30:=Nat.xor_lt_two_pow d e;have c:(BitVec.ofInt 64 (a:Int)^^^BitVec.ofInt 64 (b:Int)).toNat=a^^^b:=by rw[BitVec.toNat_xor,BitVec.ofInt_natCast,BitVec.ofInt_natCast,BitVec.toNat_ofNat,BitVec.toNat_ofNat,Nat.mod_eq_of_lt Yv,Nat.mod_eq_of_lt Yv]
 show IntKind.i64.wrap ((BitVec.ofInt 64 (a:Int)^^^BitVec.ofInt 64 (b:Int)).toNat:Int)=_;rw[c];exact Bs Yv Yv
theorem AR(b:Nat)(a:Zk)(n c:Nat)(p m:Int)(w:Zh)(h:AA w b a n c p)(hp:0<=p)(O:p<=1000000)(hm:1<=m)(L:m<=10000):
 Calls prog 29 #[Yy b,Zg m] w fun e t=>∃r:Int,e=.returned (Zg r)/\0<=r/\r<m/\AA t b a n c (p+1)/\w.grownBy t (some b):=by
 have HN:Hid (AA (w.setCell (Zd b 1) (Zg (p+1))) b a n c (p+1)/\w.grownBy (w.setCell (Zd b 1) (Zg (p+1))) (some b)):=⟨h.next _,Nh _ _ _ _⟩;obtain⟨T,U,Y,I,M,j⟩:=h;have w1:IntKind.i64.wrap (p+1)=p+1:=Bs Yv Yv;have K:decide (m<1)=false:=Yt
 have J:(m==0)=false:=beq_eq_false_iff_ne.2 Yv;by_cases hn:n=0
 .subst hn;go_enter func29,ntmps29;go_wp2;go_ret;exact⟨0,rfl,Yv,Yv,HN.o.1,HN.o.2⟩
 .obtain⟨q,off,F,P,g⟩:=j.resolve_left hn;subst F;have N:((n:Int)==0)=false:=beq_eq_false_iff_ne.2 Yv;go_enter func29,ntmps29;by_cases hk:p<n
  .obtain⟨x,s,C,D⟩:=g p.toNat Yv;obtain⟨k,rfl⟩:∃k:Nat,p=k:=⟨p.toNat,Yv⟩;simp only[Int.toNat_natCast]at s;go_wp2;go_ret;exact⟨_,rfl,Int.emod_nonneg _ Yv,Int.emod_lt_of_pos _ Yv,HN.o.1,HN.o.2⟩
  .obtain⟨k,rfl⟩:∃k:Nat,p=k:=⟨p.toNat,Yv⟩;have H:decide ((k:Int)<(n:Int))=false:=Yt
   have A:k%n<n:=Nat.mod_lt _ Yv;have B:(k *7+3)%n<n:=Nat.mod_lt _ Yv;obtain⟨x,s,C,D⟩:=g _ A;obtain⟨y,hd,Q,R⟩:=g _ B;have V:(k:Int)%(n:Int)=((k%n:Nat):Int):=Yu
   have W:((k:Int) *7+3)%(n:Int)=(((k *7+3)%n:Nat):Int):=Yu
   have v:k/n<=k:=Nat.div_le_self _ _;have E:(k:Int)/(n:Int)=((k/n:Nat):Int):=Yu
   have u:k/n<=1000000:=Yv
   obtain⟨d,l⟩:=Af (k/n);rw[<-l]at E v u;clear l;have Z:IntKind.i64.wrap ((k:Int) *7)=(k:Int) *7:=Bs Yv Yv;have g2:IntKind.i64.wrap ((k:Int) *7+3)=(k:Int) *7+3:=Bs Yv Yv;have g3:IntKind.i64.wrap (x *131)=x *131:=Bs Yv Yv;have g4:IntKind.i64.wrap (y *1117)=y *1117:=Bs Yv Yv
   have g5:IntKind.i64.wrap (x *131+y *1117)=x *131+y *1117:=Bs Yv Yv;have g6:IntKind.i64.wrap ((k:Int) *29)=(k:Int) *29:=Bs Yv Yv;have g7:IntKind.i64.wrap (x *131+y *1117+(k:Int) *29)=x *131+y *1117+(k:Int) *29:=Bs Yv Yv;have g8:IntKind.i64.wrap ((d:Int) *53)=(d:Int) *53:=Bs Yv Yv
   have g9:IntKind.i64.wrap (x *131+y *1117+(k:Int) *29+(d:Int) *53)=x *131+y *1117+(k:Int) *29+(d:Int) *53:=Bs Yv Yv;generalize k%n=i1 at *
   generalize (k *7+3)%n=i2 at *
   clear g j;go_wp2;go_quiet (fail);obtain⟨X,o⟩:∃X:Nat,x *131+y *1117+(k:Int) *29+(d:Int) *53=X:=⟨(x *131+y *1117+(k:Int) *29+(d:Int) *53).toNat,Yv⟩;have i:X<2^30:=Yv
   have f:(X:Int)/64=((X/64:Nat):Int):=Yu
   obtain⟨z,G⟩:=Th X (X/64) i Yv;rw[<-f,<-o]at G;have S:(z:Int).tmod m=(z:Int)%m:=Int.tmod_eq_emod_of_nonneg Yv;clear f o i X;go_wp2;go_ret;exact⟨(z:Int)%m,Yp,Int.emod_nonneg _ Yv,Int.emod_lt_of_pos _ Yv,AA.drewN HN.o.1 _,OL HN.o.2 _⟩
theorem PY(a:Zk)(n c:Nat)(w:Zh)(z:n<=maxLen)(r:n=0\/∃q off,a=some ⟨q,off,none⟩/\q<w.heap.size/\∀j,j<n->∃x:Int,w.cell? (Zd q (off+j))=some (.int .u8 x)/\0<=x/\x<256)(B:n<=c):
 Calls prog 13 #[.slice a n c] w fun e s=>∃b d,e=.returned (Yy w.heap.size)/\AA s w.heap.size a b d 0/\Zz w s:=by
 have f:∀o,Zz w (w.alloc o):=fun o=>Zy;unfold maxLen at z;have m:∀b d,b<=n->b<=2000->AA (w.alloc (.cells #[.slice a b d,Ze] 75)) w.heap.size a b d 0:=fun b d A t=>by
  refine⟨by simp[go_sem],by simp[go_sem],by simp[go_sem],Yu,t,?_⟩;rcases r with h|⟨q,off,g,i,k⟩
  .exact .inl Yv
  .refine .inr ⟨q,off,g,i,fun j C=> ?_⟩;obtain⟨x,u,v⟩:=k j Yv;exact⟨x,((f _).cell (p:=⟨q,off+j,none⟩) i).trans u,v⟩
 have l:=Yw m;clear m;by_cases h:n<=2000
 .have y:decide ((2000:Int)<(n:Int))=false:=Yt
  go_enter func13,ntmps13;go_wp2;go_ret;exact⟨n,c,rfl,l.o n c (Zx) h,f _⟩
 .have y:decide ((2000:Int)<(n:Int))=true:=Yt
  obtain⟨q,off,g,i,k⟩:=r.resolve_left Yv;subst g;clear k;go_enter func13,ntmps13;go_wp2;go_ret;exact⟨2000,_,rfl,l.o 2000 _ Yv (Zx),f _⟩
theorem Jo{a:Int}(b:0<=a)(c:a<256):IntKind.u8.wrap a=a:=by unfold IntKind.wrap;simp[IntKind.signed,IntKind.bits];omega
theorem DX(l:List Int):(strOfNums l).size=l.length:=by unfold strOfNums;simp[ByteArray.size]
theorem RD:(prog.info? 5).map (fun i=>(i.zero,i.size,i.bytes))=some (some (.int .u8 0),1,1):=Yr
structure GD (w w':Zh) (b:Nat) (a:Zk) (n c:Nat) (p:Int) (k:Int):Prop where
 R:∃p',AA w' b a n c p'/\p<=p'/\p'<=p+k
 gr:w.grownBy w' (some b)
theorem PZ(b:Nat)(a:Zk)(n c:Nat)(p:Int)(w:Zh)(h:AA w b a n c p)(hp:0<=p)(zH:p<=900000):
 Calls prog 83 #[Yy b] w fun e w'=>∃s,e=.returned (.string s)/\s.size<=16/\GD w w' b a n c p 10:=by
 obtain⟨i0,R,V,W,X⟩:=info_parts RD;go_enter func83,ntmps83;go_wp2_with fail;refine(AR b a n c p 9 w h hp Yv Yv Yv).mono ?_;rintro e U ⟨r,rfl,r0,r1,L,J⟩;have B:Hid (GD w U b a n c p 10):=⟨⟨_,L,Yv,Yv⟩,J⟩;by_cases q0:r=0
 .have Y:(r==0)=true:=by simpa using q0
  clear q0;go_wp2;go_ret;exact⟨_,rfl,Yq,B.o⟩
 have Y:(r==0)=false:=by simpa using q0
 by_cases q1:r=1
 .have Z:(r==1)=true:=by simpa using q1
  clear q0 q1;go_wp2;go_ret;exact⟨_,rfl,Yq,B.o⟩
 have Z:(r==1)=false:=by simpa using q1
 by_cases q2:r=2
 .have zA:(r==2)=true:=by simpa using q2
  clear q0 q1 q2;go_wp2;go_ret;exact⟨_,rfl,Yq,B.o⟩
 have zA:(r==2)=false:=by simpa using q2
 by_cases q3:r=3
 .have zB:(r==3)=true:=by simpa using q3
  clear q0 q1 q2 q3;go_wp2;go_ret;exact⟨_,rfl,Yq,B.o⟩
 have zB:(r==3)=false:=by simpa using q3
 clear B;go_wp2_with fail;refine(AR b a n c (p+1) 4 U L Yv Yv Yv Yv).mono ?_;rintro e d ⟨k,rfl,k0,k1,M,O⟩;have C:=Ap J O;have zE:=C.size;have zF:=M.lt;have q:Below d.heap.size d (d.alloc (.cells #[] 5)):=Zy;have z:=Yw (M.below q);have x:=Yw (Ap C (Ak (some b) q))
 have o:Hid ((d.alloc (.cells #[] 5)).ownsRow d.heap.size 5 1 (Yz d.heap.size 0 0) 0 (([]:List Int).map (Value.int .u8))):=World.ownsRow_lit d #[] 0 (Zx) Yo rfl;clear J O C L M q h;go_wp2
 go_loopw [4,5] (fun v i wr=>∃(j g cap:Nat) (f:List Int),(j:Int)<=k+1/\f.length=j/\i=Zg j/\v=Yz g j cap/\Hid (wr.ownsRow d.heap.size 5 1 (Yz g j cap) j (f.map (Value.int .u8)))/\Hid (AA wr b a n c (p+1+1+j))/\Hid (w.grownBy wr (some b))) (fun _ i _=>(k+1).toNat -(intOf i).toNat)
 case atStart=>exact⟨0,_,_,[],Yv,rfl,rfl,rfl,o,by simpa using z,x⟩
 case round=>
  clear z x o;obtain⟨j,g,cap,f,hj,I,rfl,rfl,o,z,x⟩:=hrel;have lg:=o.o.lt g rfl;by_cases hlt:(j:Int)<=k
  .have hd:decide ((j:Int)<=k)=true:=by simpa using hlt
   go_wp2_with fail;refine(AR b a n c (p+1+1+j) 6 wr z.o Yv Yv Yv Yv).mono ?_;rintro e t ⟨y,rfl,y0,y1,Q,D⟩;have wy:IntKind.i64.wrap (97+y)=97+y:=Bs Yv Yv;have wu:IntKind.u8.wrap (97+y)=97+y:=Jo Yv Yv;have N:=Yw (World.ownsRow.kept o.o D (.inr (by simp[Value.ownBlock];omega)));have zJ:=D.size;go_wp2_with (first
    |(at_builtin;refine wpList_append_lies _ rfl _ _ 22 rfl d.heap.size 5 i0 (.int .u8 0) 1 1 underlying22 R V W X rfl Yq _ j (f.map (Value.int .u8)) rfl ?d0 ⟨t.heap.size,0,none⟩ 1 1 [.int .u8 (97+y)] rfl rfl ?d1 ?d2 Yq ?d3 ?d4 ?d5 _ rfl ?_)
    |go_in)
   case d0=>exact World.ownsRow.alloc N.o _
   case d1=>exact cell_one_new t _ 5
   case d2=>intro u S;simp at S;subst S;rfl
   case d3=>unfold maxLen;omega
   case d4=>omega
   case d5=>simp;omega
   intro K l A H G E zC;have q:Below t.heap.size t (t.alloc (.cells #[.int .u8 (97+y)] 5)):=Zy;have m:(t.alloc (.cells #[.int .u8 (97+y)] 5)).grownBy A (some g):=by simpa [Value.ownBlock]using G
   have H4:Hid (AA A b a n c (p+1+1+((j+1:Nat):Int))):=by have:=(Q.below q).grown m Yv;rw[show p+1+1+((j+1:Nat):Int)=p+1+1+(j:Int)+1 by omega];exact this
   have F:(t.alloc (.cells #[.int .u8 (97+y)] 5)).grownBy A (some g):=m;have G4:Hid (w.grownBy A (some b)):=Tg (Ap x.o (Ap D (Ak _ q))) F Yv;have O5:Hid (A.ownsRow d.heap.size 5 1 (Yz K (j+1) l) (j+1) ((f++[97+y]).map (Value.int .u8))):=by
    have h9:A.ownsRow d.heap.size 5 1 (Yz K (j+1) l) (j+1) ((f++[97+y]).map (Value.int .u8)):=by simpa using H
    exact h9
   clear H G m F q Q D o N z x E;go_wp2;exact⟨⟨j+1,K,l,f++[97+y],Yv,by simp[I],Yn,Yu,O5,H4,G4⟩,Ys⟩
  .have hd:decide ((j:Int)<=k)=false:=by simpa using hlt
   have zG:=run_convert_bytes_arg (P:=prog) wr 22 5 underlying22 underlying5 g 0 j cap f I (fun i R=>by
    rw[Nat.zero_add,o.o.cellAt i Yt,List.getElem?_map,Zv Yv];simp[List.getD,Zv (show i<f.length by omega)]) 9 underlying9
   have zI:=DX f;generalize strOfNums f=T at *
   go_wp2;go_ret;exact⟨T,rfl,Yv,⟨_,z.o,Yv,Yv⟩,x.o⟩
theorem Qa(s:Zi)(n:Nat)(w:Zh)(h:1<=s.size)(A:s.size *n<=100000):
 Calls prog 85 #[.string s,Zg n] w fun e l=>∃T:Zi,e=.returned (.string T)/\T.size=s.size *n/\l=w:=by
 go_enter func85,ntmps85;go_wp2
 go_loop [0,1,5] (fun u m o=>∃(S T:Zi) (k:Nat),u=.string S/\m=Zg k/\o=.string T/\1<=S.size/\T.size+S.size *k=s.size *n) (fun _ m _=>(intOf m).toNat)
 case atStart=>exact⟨s,⟨#[]⟩,n,rfl,rfl,rfl,h,by show 0+_=_;omega⟩
 case round=>
  obtain⟨S,T,k,rfl,rfl,rfl,i,a⟩:=hrel;by_cases hk:0<k
  .have z:decide ((0:Int)<(k:Int))=true:=Yt
   have q:S.size<=S.size *k:=Nat.le_mul_of_pos_right _ hk;have r:S.size<=100000:=Yv
   have t:T.size<=100000:=Yv
   have c:=Nat.div_add_mod k 2;have x:k/2<k:=Nat.div_lt_self hk Yv;have v:k<=100000:=by have:=Nat.le_mul_of_pos_left k i;omega
   have g:wrap64 ((k:Int)/2)=(k:Int)/2:=by unfold wrap64;omega
   rcases Nat.mod_two_eq_zero_or_one k with d|d
   .have j:((k:Int)%2==1)=false:=by rw[show(k:Int)%2=((k%2:Nat):Int) by simp,d];rfl
    have f:Hid (T.size+(S++S).size *(k/2)=s.size *n):=by
     show _=_;rw[<-a,ByteArray.size_append];have:k=2 *(k/2):=Yv
     conv=>rhs;rw[this]
     rw[<-Nat.mul_assoc];congr 2;omega
    have b:1<=(S++S).size:=by rw[ByteArray.size_append];omega
    clear c a;go_wp2;exact⟨⟨S++S,T,k/2,rfl,Yu,rfl,b,f.o⟩,Ys⟩
   .have j:((k:Int)%2==1)=true:=by rw[show(k:Int)%2=((k%2:Nat):Int) by simp,d];rfl
    have f:Hid ((T++S).size+(S++S).size *(k/2)=s.size *n):=by
     show _=_;rw[<-a,ByteArray.size_append,ByteArray.size_append];have e:k=2 *(k/2)+1:=Yv
     have y:S.size *k=S.size+(S.size+S.size) *(k/2):=by
      conv=>lhs;rw[e]
      rw[Nat.mul_add,Nat.mul_one,<-Nat.mul_assoc,Nat.add_comm];congr 2;omega
     omega
    have b:1<=(S++S).size:=by rw[ByteArray.size_append];omega
    clear c a;go_wp2;exact⟨⟨S++S,T++S,k/2,rfl,Yu,rfl,b,f.o⟩,Ys⟩
  .obtain rfl:k=0:=Yv
   go_wp2;go_ret;exact⟨T,rfl,by simpa using a,rfl⟩
theorem RE(b:Nat)(a:Zk)(n c:Nat)(p:Int)(w:Zh)(h:AA w b a n c p)(o:0<=p)(j:p<=1000000):
 Calls prog 29 #[Yy b,Ze] w fun e d=>e=.returned Ze/\AA d b a n c (p+1)/\w.grownBy d (some b):=by
 have HN:Hid (AA (w.setCell (Zd b 1) (Zg (p+1))) b a n c (p+1)/\w.grownBy (w.setCell (Zd b 1) (Zg (p+1))) (some b)):=⟨h.next _,Nh _ _ _ _⟩;obtain⟨k,l,m,g,i,f⟩:=h;have q:IntKind.i64.wrap (p+1)=p+1:=Bs Yv Yv;clear f;go_enter func29,ntmps29;go_wp2;go_ret;exact⟨rfl,HN.o.1,HN.o.2⟩
theorem Ti(b:Nat)(a:Zk)(n c:Nat)(p:Int)(m:Nat)(w:Zh)(h:AA w b a n c p)(j:0<=p)(f:p<=1000000)(k:m<=10000):
 Calls prog 29 #[Yy b,Zg m] w fun e d=>∃r:Nat,e=.returned (Zg r)/\(m=0\/r<m)/\AA d b a n c (p+1)/\w.grownBy d (some b):=by
 by_cases hz:m=0
 .subst hz;refine(RE b a n c p w h j f).mono ?_;rintro e d ⟨rfl,g,i⟩;exact⟨0,rfl,.inl rfl,g,i⟩
 .refine(AR b a n c p m w h j f Yv Yv).mono ?_;rintro e d ⟨r,rfl,r0,l,g,i⟩;exact⟨r.toNat,by congr 2;omega,.inr Yv,g,i⟩
end Go.Proofs.YtcfjcdpkpiidkaaGreat
