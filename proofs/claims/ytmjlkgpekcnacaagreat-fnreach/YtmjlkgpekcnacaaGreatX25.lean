import Derived.Deep.CutBlock
import Derived.Test.YtmjlkgpekcnacaaGreatX19
set_option maxRecDepth 100000
set_option maxHeartbeats 16000000
namespace Go.Proofs.YtmjlkgpekcnacaaGreat
open Go.ChangeShapes Go.WideShapes Go.ChangeAt Go.RowKit _root_.Go.Proofs.Tryz
variable{w X Y:Zh}{b n c g q cap size:Nat}{d i p K now e:Int}{a:Zk}{f:List Ld}{L T P:Value}{j:List Pd}{l:Zj}
theorem Sh(b:Nat)(a:Zk)(n c:Nat)(p:Int)(w:Zh)(h:AE w b a n c p)(o:0<=p)(j:p<=1000000):
 Calls prog 43 #[Yy b,Ze] w fun e d=>e=.returned Ze/\AE d b a n c (p+1)/\w.grownBy d (some b):=by
 have HN:Hid (AE (w.setCell (Zd b 1) (Zg (p+1))) b a n c (p+1)/\w.grownBy (w.setCell (Zd b 1) (Zg (p+1))) (some b)):=⟨h.next _,Nz _ _ _ _⟩;obtain⟨k,l,m,g,i,f⟩:=h;have q:IntKind.i64.wrap (p+1)=p+1:=Bs Yv Yv;clear f;go_enter func43,ntmps43;go_wp2;go_ret;exact⟨rfl,HN.o.1,HN.o.2⟩
theorem TM(b:Nat)(a:Zk)(n c:Nat)(p:Int)(m:Nat)(w:Zh)(h:AE w b a n c p)(j:0<=p)(f:p<=1000000)(k:m<=10000):
 Calls prog 43 #[Yy b,Zg m] w fun e d=>∃r:Nat,e=.returned (Zg r)/\(m=0\/r<m)/\AE d b a n c (p+1)/\w.grownBy d (some b):=by
 by_cases hz:m=0
 .subst hz;refine(Sh b a n c p w h j f).mono ?_;rintro e d ⟨rfl,g,i⟩;exact⟨0,rfl,.inl rfl,g,i⟩
 .refine(AU b a n c p m w h j f Yv Yv).mono ?_;rintro e d ⟨r,rfl,r0,l,g,i⟩;exact⟨r.toNat,by congr 2;omega,.inr Yv,g,i⟩
theorem TN{d:Zk}{i:Nat}{a:Zl}(h:w.ownsRow b 9 1 (.slice d a.length i) a.length (a.map Value.string)):Ab w w.heap.size d a/\(d=none->a.length=0/\i=0):=by
 rcases h.2 with⟨c,f⟩|⟨g,cap,k,c,_,_,j,_⟩
 .injection c with e1 e2 e3;subst e1;exact⟨.inl (List.eq_nil_of_length_eq_zero f),fun _=>⟨f,e3⟩⟩
 .cases c;exact⟨Ab.own h,fun e=>by cases e⟩
theorem Ej.fin{V:Zh}{g:Int}{TX RF Q:Nat}{t':Zi}{d:Zk}{f:Nat}{L:Zl}(r:t'.size<=TX)(k:L.length<=RF)(q:∀s∈L,s.size<=8)(m:V.ownsRow (Q+1) 9 1 (.slice d L.length f) L.length (L.map Value.string))(o:AE V b a n c g)(h:p<=g)(j:g<=p+K)(l:w.grownBy V (some b))(t:w.heap.size<Q)(u:b<w.heap.size):
 Ej w ((V.setCell (Zd Q 0) (.string t')).setCell (Zd Q 1) (.slice d L.length f)) (.returned (.agg #[.string t',.slice d L.length f])) b a n c p K TX RF:=by
 refine⟨⟨t',_,_,L,rfl,r,k,q,?_⟩,⟨g,?_,h,j⟩,?_⟩
 .exact(ownsRow_setCell_below (ownsRow_setCell_below m (a:=⟨Q,0,none⟩) (Nat.lt_succ_self Q) _) (a:=⟨Q,1,none⟩) (Nat.lt_succ_self Q) _).mono Yv
 .exact(o.grown (Be _ Q 0 _) Yv).grown (Be _ Q 1 _) Yv
 .exact(l.andThen (Be _ Q 0 _) (fun i e=>by cases e;exact .inl Yv)).andThen (Be _ Q 1 _) (fun i e=>by cases e;exact .inl Yv)
theorem Oe(b:Nat)(a:Zk)(n c:Nat)(p:Int)(t:Zi)(ra:Zk)(rc:Nat)(d:Zl)(w:Zh)(h:AE w b a n c p)(hp:0<=p)(xO:p<=800000)(hr:Ab w w.heap.size ra d)(yB:ra=none->d.length=0/\rc=0)(ht:t.size<=2000)(hl:d.length<=30)(D:∀s∈d,s.size<=8):
 Calls prog 65 #[Yy b,.agg #[.string t,.slice ra d.length rc]] w fun e w'=>Ej w w' e b a n c p 2 2001 31:=by
 obtain⟨i0,hi,zY,zZ,yA⟩:=info_parts BW;have V:=h.lt;obtain⟨G,zC⟩:∃G,G=w.alloc (.cells #[.string t,.slice ra d.length rc] 35):=⟨_,rfl⟩;have zN:Below w.heap.size w G:=by rw[zC];exact Zy
 have T0:Aa G w.heap.size [.string t,.slice ra d.length rc]:=by rw[zC];exact Aa.new w _ _
 have yC:G.heap.size=w.heap.size+1:=by rw[zC];simp
 obtain⟨W,hW⟩:∃W,W=G.alloc (.cells #[Zc,Zb] 35):=⟨_,rfl⟩;have zO:Below G.heap.size G W:=by rw[hW];exact Zy
 have R1:Aa W G.heap.size [Zc,Zb]:=by rw[hW];exact Aa.new G _ _
 have T1:=T0.below zO;have zI:Below w.heap.size w W:=zN.trans (zO.mono zN.size);obtain⟨Q,hQ⟩:∃Q,Q=G.heap.size:=⟨_,rfl⟩;have U:w.heap.size<Q:=Yv
 rw[<-hQ]at R1;have HZ:Hid (w.heap.size+1=Q):=by show _=_;omega
 obtain⟨t0,_⟩:=T1 0 _ rfl;obtain⟨t1,_⟩:=T1 1 _ rfl;have yE:=Yw zC;have HW:=Yw hW;have HR:Hid (Ab W W.heap.size ra d):=hr.M zI;have HC:Hid (Aa W Q [Zc,Zb]/\AE W b a n c p/\w.grownBy W (some b)):=⟨R1,h.below zI,Ae _ zI⟩;have xI:Q<W.heap.size:=R1.lt;clear zC hW hQ zN zO T0 R1 T1 zI yC h hr;go_enter func65,ntmps65;go_upto_region 1 with fail;rw[<-yE.o,<-HW.o,HZ.o];clear yE HW HZ;go_wp2_with fail
 refine(FA t ra rc d W HR.o yB Yv).mono ?_;rintro e w1 ⟨g,I,rfl,zV,zM⟩;obtain⟨M,zK⟩:∃M,M=w1.alloc (.cells #[.string t,Yz g d.length I] 35):=⟨_,rfl⟩;have zP:Below w1.heap.size w1 M:=by rw[zK];exact Zy
 have J:Below W.heap.size W M:=zM.trans (zP.mono zM.size);obtain⟨B,hB⟩:∃B,B=w1.heap.size:=⟨_,rfl⟩;have B2:Aa M B [.string t,Yz g d.length I]:=by rw[zK,hB];exact Aa.new w1 _ _
 have xG:Q<B:=by have:=zM.size;omega
 have yU:=zV.lt g rfl;have xC:g<B:=by rw[hB];exact yU.2
 have O2:M.ownsRow (Q+1) 9 1 (Yz g d.length I) d.length (d.map Value.string):=(zV.kept (Ae none zP) (Classical.em _)).mono Yv;have HD:Hid (Aa M Q [Zc,Zb]/\AE M b a n c p/\w.grownBy M (some b)):=⟨HC.o.1.below J,HC.o.2.1.below J,HC.o.2.2.trans (Ae _ J)⟩;have yF:=Yw zK;have HB:=Yw hB;have Z:=Yw (Zn B2 O2);clear zK hB zP J HC HR B2 O2 zV zM t0 t1;go_upto_region 2 with fail;rw[<-yF.o,<-HB.o]
 clear yF HB;go_wp2_with fail;refine(AU b a n c p 5 M HD.o.2.1 Yv Yv Yv Yv).mono ?_;rintro e f ⟨r,rfl,r0,r1,s3,g3⟩;have y:Hid (Aa f Q [Zc,Zb]/\AE f b a n c (p+1)/\w.grownBy f (some b)):=⟨HD.o.1.dt g3 Yv,s3,HD.o.2.2.trans g3⟩;have B3:Hid (Aa f B [.string t,Yz g d.length I]):=Aa.dt Z.o.1 g3 Yv;have xL:Q+1<=g:=(World.ownsRow.lt Z.o.2 g rfl).1
 have O3:Hid (f.ownsRow (Q+1) 9 1 (Yz g d.length I) d.length (d.map Value.string)):=World.ownsRow.kept Z.o.2 g3 (.inr (by simp[Value.ownBlock];omega));clear HD Z s3 g3;have yI:B<f.heap.size:=B3.o.lt;obtain⟨x0,f0⟩:=B3.o 0 _ rfl;obtain⟨S,f1⟩:=B3.o 1 _ rfl;obtain⟨y0,q0⟩:=y.o.1 0 _ rfl;obtain⟨y1,q1⟩:=y.o.1 1 _ rfl;have yK:¬B=Q:=Yv
 have xE:¬Q=B:=Yv
 by_cases c0:r=0
 .subst c0;go_wp2_with fail;refine(AU b a n c (p+1) 2 f y.o.2.1 Yv Yv Yv Yv).mono ?_;rintro e w4 ⟨r',rfl,yX,yY,s4,g4⟩;obtain⟨m,rfl⟩:∃m:Nat,r'=m:=⟨r'.toNat,Yv⟩;have zU:=Qa ⟨#[116]⟩ (2000+m) w4 Yr (by show 1 *(2000+m)<=100000;omega);rw[show((2000+m:Nat):Int)=2000+(m:Int) by omega]at zU;have HM:=Yw zU;have X4:=B3.o.dt g4 Yv
  have Y4:=y.o.1.dt g4 Yv;have O4:=O3.o.kept g4 (.inr (by simp[Value.ownBlock];omega));have G4:=y.o.2.2.trans g4;clear zU x0 S f0 f1 y0 y1 q0 q1;go_wp2_with fail;refine Calls.mono HM.o ?_;rintro e w5 ⟨T,rfl,hT,yM⟩;rw[yM];clear yM w5;obtain⟨x0,f0⟩:=X4 0 _ rfl;obtain⟨S,f1⟩:=X4 1 _ rfl;obtain⟨y0,q0⟩:=Y4 0 _ rfl;obtain⟨y1,q1⟩:=Y4 1 _ rfl
  have HT:Hid (T.size<=2001):=by show _<=_;rw[hT];show 1 *(2000+m)<=2001;omega
  clear hT;go_wp2;refine bodyPost_ret (v:=.agg #[.string T,Yz g d.length I]) (by simp[results,results65,go_sem, *]) rfl ?_;refine Ej.fin HT.o Yv D (O4.kept (Be _ B 0 _) (.inr (by simp[Value.ownBlock];omega))) (s4.grown (Be _ B 0 _) Yv) Yv Yv (G4.andThen (Be _ B 0 _) (fun i e=>by cases e;exact .inl Yv)) U V
 .have d0:(r==0)=false:=by simpa using c0
  by_cases c1:r=1
  .subst c1;go_wp2_with (first
    |(at_builtin;refine wpList_append_own_at _ rfl _ _ 29 rfl (Q+1) 9 i0 Zc 1 16 underlying29 hi zY zZ yA rfl Yr _ d.length (d.map Value.string) rfl ?d0 ⟨f.heap.size,0,none⟩ 1 1 [.string ⟨#[120]⟩] rfl rfl ?d1 ?d2 ?d3 ?d4 ?d5 ?_))
   case d0=>exact O3.o.alloc _
   case d1=>
    intro j u C;cases j with
    |zero=>simp at C;subst C;simp[Addr.add]
    |succ j=>simp at C
   case d2=>intro u C;simp at C;subst C;rfl
   case d3=>unfold maxLen;omega
   case d4=>omega
   case d5=>simp;omega
   intro v' F l o x zF;obtain⟨z,c6,zX⟩:∃z c6,v'=Yz z (d.length+1) c6:=by
    rcases Joins.ownsRow_forms l with⟨e1,_⟩|hf
    .exact(x e1).elim
    .exact hf
   subst zX;have b6:Below (Q+1) f F:=((Below.refl _ _).alloc Yv _).grown o Yt (fun i hi=>by simp[Value.ownBlock]at hi;omega);have q:f.grownBy F (some g):=⟨b6.os,b6.tape,b6.output,b6.size,fun i hi yK=>by
    have h1:=o.block i Yt (by simpa [Value.ownBlock]using yK);rw[h1];exact(Ae none ((Below.refl f.heap.size f).alloc (Zx) _)).block i hi Yu⟩
   have H:=B3.o.aw q Yv;have Y6:=y.o.1.aw q Yv;have G6:=y.o.2.2.andThen q (fun i e=>by cases e;exact .inl Yv);have S6:=y.o.2.1.grown q Yv;have xK:=l.lt z rfl;have Y:z≠B:=by rcases zF with h|h<;>simp[Value.ownBlock]at h<;>omega
   have O6:F.ownsRow (Q+1) 9 1 (Yz z (d++[ByteArray.mk #[120]]).length c6) (d++[ByteArray.mk #[120]]).length ((d++[ByteArray.mk #[120]]).map Value.string):=by
    have:(d++[ByteArray.mk #[120]]).length=d.length+1:=Yu
    rw[this,List.map_append];exact l
   have HF:=Yw (Zn G6 (Zn S6 O6));clear l o x zF x0 S f0 f1 y0 y1 q0 q1;obtain⟨x0,f0⟩:=H 0 _ rfl;obtain⟨S,f1⟩:=H 1 _ rfl;obtain⟨y0,q0⟩:=Y6 0 _ rfl;obtain⟨y1,q1⟩:=Y6 1 _ rfl;go_wp2;refine bodyPost_ret (v:=.agg #[.string t,Yz z (d.length+1) c6]) (by simp[results,results65,go_sem, *]) rfl ?_;have K:d.length+1=(d++[ByteArray.mk #[120]]).length:=Yu
   rw[K];refine Ej.fin Yv Yt ?_ (HF.o.2.2.kept (Be _ B 1 _) (.inr (by simp[Value.ownBlock];omega))) (HF.o.2.1.grown (Be _ B 1 _) Yv) Yv Yv (HF.o.1.andThen (Be _ B 1 _) (fun i e=>by cases e;exact .inl Yv)) U V;intro s zG;rcases List.mem_append.1 zG with h|h
   .exact D s h
   .simp at h;subst h;decide
  .have d1:(r==1)=false:=by simpa using c1
   by_cases c2:r=2
   .subst c2;by_cases hl0:0<d.length
    .have dl:decide ((0:Int)<(d.length:Int))=true:=decide_eq_true Yv;have HX:Hid (d[0]?=some d[0]):=Zv hl0;have yW:d[0]∈d:=List.getElem_mem hl0;generalize d[0]=X at *
     have cX:f.cell? (Zd g 0)=some (.string X):=by
      have:=Ab.own O3.o;rcases this with h|⟨b',off,e1,_,h3⟩
      .subst h;simp at hl0
      .cases e1;simpa using h3 0 X HX.o
     have xJ:g<f.heap.size:=(O3.o.lt g rfl).2;have yN:=Yw hl0;have xN:(0:Int)<(d.length:Int):=Yv
     have zT:Below f.heap.size f (f.alloc (.cells #[.string X] 9)):=Zy;have oA:(f.alloc (.cells #[.string X] 9)).drew.ownsRow (Q+1) 9 1 (Yz g d.length I) d.length (d.map Value.string):=O3.o.kept (Ae none zT.drew) (Classical.em _);have nA:∀A,(some ⟨f.heap.size,0,none⟩:Zk)=some A->∀i s,[X][i]?=some s->(f.alloc (.cells #[.string X] 9)).drew.cell? (A.add i)=some (.string s):=by
      intro A e i s D;injection e with e;subst e;cases i with
      |zero=>simp at D;subst D;simp[Addr.add]
      |succ i=>simp at D
     have xB:(f.alloc (.cells #[.string X] 9)).cell? (Zd B 1)=some (Yz g d.length I):=(zT.cell (p:=⟨B,1,none⟩) yI).trans S;clear hl0;go_upto_region 10 with fail
     go_region_law (first
      |(refine Av (f.alloc (.cells #[.string X] 9)).drew rfl (.tmp 37) (.tmp 42) 29 rfl (Q+1) 9 i0 Zc 16 underlying29 hi zY zZ yA rfl g d.length I d rfl oA (some ⟨f.heap.size,0,none⟩) 1 1 [X] rfl rfl (fun e=>by cases e) nA Yp Yv Yt ?_;intro z c6 F zW yJ zH xD;have q:f.grownBy F (some g):=(Ae (some g) zT.drew).trans yJ;have H:=B3.o.aw q Yv;have Y6:=y.o.1.aw q Yv;obtain⟨yZ,yP⟩:=H 0 _ rfl;obtain⟨xA,yQ⟩:=H 1 _ rfl;obtain⟨y0',q0'⟩:=Y6 0 _ rfl;obtain⟨y1',q1'⟩:=Y6 1 _ rfl))
     all_goals
      have Y:z≠B:=by
       have:=yI;rcases zH with h|h
       .omega
       .simp at h;omega
      have HF:=Yw (Zn (y.o.2.2.andThen q (fun i e=>by cases e;exact .inl Yv)) (Zn (y.o.2.1.grown q Yv) zW));have yV:=(zW.lt z rfl).1;clear zW yJ zH H Y6 oA nA xB x0 S f0 f1 y0 y1 q0 q1 cX;go_wp2;refine bodyPost_ret (v:=.agg #[.string t,Yz z (d.length+1) c6]) (by simp[results,results65,go_sem, *]) rfl ?_;have K:d.length+1=(d++[X]).length:=Yu
      rw[K];refine Ej.fin Yv Yt ?_ (World.ownsRow.kept (by rw[<-K];exact HF.o.2.2) (Be _ B 1 _) (.inr (by simp[Value.ownBlock];omega))) (HF.o.2.1.grown (Be _ B 1 _) Yv) Yv Yv (HF.o.1.andThen (Be _ B 1 _) (fun i e=>by cases e;exact .inl Yv)) U V;intro s zG;rcases List.mem_append.1 zG with h|h
      .exact D s h
      .simp at h;subst h;exact D _ yW
    .have dl:decide ((0:Int)<(d.length:Int))=false:=decide_eq_false Yv;have yN:=Yw hl0;clear hl0;go_wp2;refine bodyPost_ret (v:=.agg #[.string t,Yz g d.length I]) (by simp[results,results65,go_sem, *]) rfl ?_;exact Ej.fin (t':=t) (L:=d) (TX:=2001) (RF:=31) Yv Yv D O3.o y.o.2.1 Yv Yv y.o.2.2 U V
   .have d2:(r==2)=false:=by simpa using c2
    by_cases c3:r=3
    .subst c3;have yR:Below f.heap.size f (f.alloc (.cells #[] 9)):=Zy;obtain⟨N,zE⟩:∃N,N=(f.setCell (Zd B 1) (Yz f.heap.size 0 0)).alloc (.cells #[] 9):=⟨_,rfl⟩;have zB:f.grownBy N (some B):=by rw[zE];exact(Be _ B 1 _).trans (World.grownBy_alloc _ _ _)
     have X4:Aa N B [.string t,Yz f.heap.size 0 0]:=by rw[zE];exact Aa.below (B3.o.set 1 _) (Zy)
     have o4:N.ownsRow (Q+1) 9 1 (Yz f.heap.size 0 0) 0 (([]:Zl).map Value.string):=by have:=World.ownsRow_lit (base:=Q+1) (e:=9) (size:=1) (f.setCell (Zd B 1) (Yz f.heap.size 0 0)) #[] 0 Yt Yp rfl;rw[World.size_setCell]at this;rw[zE];exact this
     have E4:Hid (Aa N Q [Zc,Zb]/\AE N b a n c (p+1)/\w.grownBy N (some b)):=⟨y.o.1.aw zB Yv,y.o.2.1.grown zB Yv,y.o.2.2.andThen zB (fun i e=>by cases e;exact .inl Yv)⟩;have yH:=Yw X4;have yD:=Yw o4;have yG:=Yw zE;have xF:=zB.size;clear zE zB X4 o4 yR;go_upto_region 13 with fail;rw[<-yG.o];clear yG x0 S f0 f1 y0 y1 q0 q1;go_wp2_with fail
     refine(AU b a n c (p+1) 2 N E4.o.2.1 Yv Yv Yv Yv).mono ?_;rintro e w5 ⟨r',rfl,yX,yY,s5,g5⟩;obtain⟨m,rfl⟩:∃m:Nat,r'=m:=⟨r'.toNat,Yv⟩;have X5:Hid (Aa w5 B [.string t,Yz f.heap.size 0 0]):=Aa.dt yH.o g5 Yv;have E5:Hid (Aa w5 Q [Zc,Zb]/\AE w5 b a n c (p+1+1)/\w.grownBy w5 (some b)):=⟨E4.o.1.dt g5 Yv,s5,E4.o.2.2.trans g5⟩
     have O5:Hid (w5.ownsRow (Q+1) 9 1 (Yz f.heap.size 0 0) 0 (([]:Zl).map Value.string)):=yD.o.kept g5 (.inr (by simp[Value.ownBlock];omega));clear s5 g5 yH E4 yD;go_wp2
     go_loopw [7] (fun i wr=>∃(k R ck:Nat) (L:Zl),i=Zg k/\k<=30+m/\L.length=k/\B≠R/\Hid (Aa wr B [.string t,Yz R L.length ck])/\Hid (∀s∈L,s.size<=8)/\Hid (wr.ownsRow (Q+1) 9 1 (Yz R L.length ck) L.length (L.map Value.string))/\Hid (Aa wr Q [Zc,Zb]/\AE wr b a n c (p+1+1)/\w.grownBy wr (some b))) (fun i _=>30+m -(intOf i).toNat)
     case atStart=>exact⟨0,f.heap.size,0,[],rfl,Yv,rfl,Yv,X5.o,(fun s D=>by cases D),O5.o,E5.o⟩
     case round=>
      obtain⟨k,R,ck,L,rfl,hk,zJ,yS,X,HS,O,E⟩:=hrel;have xH:B<wr.heap.size:=X.o.lt;obtain⟨x0,f0⟩:=X.o 0 _ rfl;obtain⟨S,f1⟩:=X.o 1 _ rfl;have xM:=O.o.lt R rfl;by_cases hlt:k<30+m
      .have dk:decide ((k:Int)<30+(m:Int))=true:=decide_eq_true Yv;have xP:IntKind.u8.wrap (33+(k:Int))=33+(k:Int):=JM Yv Yv;have yT:=run_convert_bytes_arg (P:=prog) (wr.alloc (.cells #[.int .u8 (33+(k:Int))] 5)) 22 5 underlying22 underlying5 wr.heap.size 0 1 1 [33+(k:Int)] rfl (fun i hi=>by
        obtain rfl:i=0:=Yv
        simp) 9 underlying9
       have yL:=DT [33+(k:Int)];generalize strOfNums [33+(k:Int)]=T at *
       have zR:Below wr.heap.size wr (wr.alloc (.cells #[.int .u8 (33+(k:Int))] 5)):=Zy;have zS:Below wr.heap.size wr ((wr.alloc (.cells #[.int .u8 (33+(k:Int))] 5)).alloc (.cells #[.string T] 9)):=zR.alloc zR.size _;have zA:=Yw zJ;clear zJ;go_wp2_with (first
        |(at_builtin;refine wpList_append_own_at _ rfl _ _ 29 rfl (Q+1) 9 i0 Zc 1 16 underlying29 hi zY zZ yA rfl Yr _ L.length (L.map Value.string) rfl ?d0 ⟨wr.heap.size+1,0,none⟩ 1 1 [.string T] rfl rfl ?d1 ?d2 ?d3 ?d4 ?d5 ?_))
       case d0=>exact O.o.kept (Ae none zS) (Classical.em _)
       case d1=>
        intro j u C;cases j with
        |zero=>simp at C;subst C;simp[Addr.add]
        |succ j=>simp at C
       case d2=>intro u C;simp at C;subst C;rfl
       case d3=>have:=zA.o;unfold maxLen;omega
       case d4=>have:=zA.o;omega
       case d5=>simp;omega
       intro v' F l o x zF;obtain⟨z,c6,zX⟩:∃z c6,v'=Yz z (L.length+1) c6:=by
        rcases Joins.ownsRow_forms l with⟨e1,_⟩|hf
        .exact(x e1).elim
        .exact hf
       subst zX;have q:wr.grownBy F (some R):=(Ae (some R) zS).trans (by simpa [Value.ownBlock]using o);have Y:B≠z:=by rcases zF with h|h<;>simp[Value.ownBlock]at h<;>omega
       have H:=X.o.aw q (fun e=>yS e.symm);obtain⟨yZ,yP⟩:=H 0 _ rfl;obtain⟨xA,yQ⟩:=H 1 _ rfl;have yV:=(l.lt z rfl).1;have HN:Hid (F.ownsRow (Q+1) 9 1 (Yz z (L++[T]).length c6) (L++[T]).length ((L++[T]).map Value.string)):=by
        have:(L++[T]).length=L.length+1:=Yu
        rw[this,List.map_append];exact l
       have Z:Hid (Aa F Q [Zc,Zb]/\AE F b a n c (p+1+1)/\w.grownBy F (some b)):=⟨E.o.1.aw q Yv,E.o.2.1.grown q Yv,E.o.2.2.andThen q (fun i e=>by cases e;exact .inl Yv)⟩;have HT:Hid (∀s∈L++[T],s.size<=8):=by
        intro s zG;rcases List.mem_append.1 zG with h|h
        .exact HS.o s h
        .simp at h;subst h;simp at yL;omega
       have yO:=Yw H;clear l o x zF H yT yL zR zS q x0 S f0 f1;go_wp2;have K:(L++[T]).length=L.length+1:=Yu
       refine⟨⟨k+1,z,c6,L++[T],Yo,Yv,by rw[K,zA.o],Y,?_,HT,?_,?_⟩,by simp[intOf];omega⟩
       .rw[K];exact yO.o.set 1 _
       .exact HN.o.kept (Be _ B 1 _) (.inr (by simp[Value.ownBlock];omega))
       .exact⟨Z.o.1.aw (Be _ B 1 _) Yv,Z.o.2.1.grown (Be _ B 1 _) Yv,Z.o.2.2.andThen (Be _ B 1 _) (fun i e=>by cases e;exact .inl Yv)⟩
      .obtain rfl:k=30+m:=Yv
       have dk:decide (((30+m:Nat):Int)<30+(m:Int))=false:=decide_eq_false Yv;obtain⟨y0,q0⟩:=E.o.1 0 _ rfl;obtain⟨y1,q1⟩:=E.o.1 1 _ rfl;have zA:=Yw zJ;clear zJ;go_wp2;refine bodyPost_ret (v:=.agg #[.string t,Yz R L.length ck]) (by simp[results,results65,go_sem, *]) rfl ?_
       exact Ej.fin (t':=t) (L:=L) (TX:=2001) (RF:=31) Yv (by have:=zA.o;omega) HS.o O.o E.o.2.1 Yv Yv E.o.2.2 U V
    .have d3:(r==3)=false:=by simpa using c3
     go_wp2;refine bodyPost_ret (v:=.agg #[.string (t++⟨#[122]⟩),Yz g d.length I]) (by simp[results,results65,go_sem, *]) rfl ?_
     refine Ej.fin (by rw[ByteArray.size_append];show t.size+1<=2001;omega) Yv D (O3.o.kept (Be _ B 0 _) (.inr (by simp[Value.ownBlock];omega))) (y.o.2.1.grown (Be _ B 0 _) Yv) Yv Yv (y.o.2.2.andThen (Be _ B 0 _) (fun i e=>by cases e;exact .inl Yv)) U V
structure JC (w:Zh) (b:Nat) (a:Zk) (n c:Nat) (p:Int) (q:Nat) (wd now given births:Int) (T P L:Value) (zs:List (Kd×Value)) (ps:List Pd) (ls:List Ld) (X:Zh):Prop where
 box:Aa X q [Zg wd,Zg now,Zg given,Zg births,T,P,L]
 N:BF X (w.heap.size+2) q T P L zs ps ls
 z:Aa X (w.heap.size+1) z7
 rd:AE X b a n c p
 gr:w.grownBy X (some b)
 q:w.heap.size+2<=q
theorem JC.go{k:Int}{l:List (Kd×Value)}{g:List Ld}(h:JC w b a n c p q k now e d T P L l j g X)(f:X.grownBy Y (some b))(o:AE Y b a n c i)(r:b<w.heap.size):JC w b a n c i q k now e d T P L l j g Y:=by have m:=h.q;exact⟨h.box.aw f Yv,h.N.I (Tn.grown (V:=[b]) f Yu) Yt,h.z.aw f Yv,o,Am h.gr f,m⟩
theorem JC.H{o:Int}{i:List (Kd×Value)}{g:List Pd}(h:JC w b a n c p q o now e d T P L i g f X)(r:b<w.heap.size)(j:Nat)(s:j<4)(x:Int):DD w b a n c p 0 q (X.setCell (Zd q j) (Zg x)):=by
 have t:=h.q;have m:=Bd X q j (Zg x);refine⟨?_,Aa.same h.z (m.block _ h.z.lt Yt),⟨p,h.rd.I m Yt Yt,Yv,Yv⟩,CY h.gr m Yt⟩;have k:=h.box.set j (Zg x);have l:=h.N.I m Yu;rcases(show j=0\/j=1\/j=2\/j=3 by omega)with rfl|rfl|rfl|rfl
 .exact⟨x,now,e,d,T,P,L,i,g,f,k,l⟩
 .exact⟨o,x,e,d,T,P,L,i,g,f,k,l⟩
 .exact⟨o,now,x,d,T,P,L,i,g,f,k,l⟩
 .exact⟨o,now,e,x,T,P,L,i,g,f,k,l⟩
theorem DD.more(h:DD w b a n c p K q X)(l:d<=p)(m:p+K<=d+e):DD w b a n c d e q X:=by obtain⟨i,j,⟨k,g,o,r⟩,f⟩:=h;exact⟨i,j,⟨k,g,Yv,Yv⟩,f⟩
theorem Pt{j:Nat}(h:Aa X q l)(d:∀i,i<l.length->∃s:Zi,s.size<=3/\l[i]?=some (.string s))(c:j<l.length):∃s:Zi,s.size<=3/\X.cell? (Zd q j)=some (.string s):=by obtain⟨s,a,b⟩:=d j c;exact⟨s,a,(h j _ b).1⟩
theorem Ve(s:Zi)(a:Int)(w:Zh)(f:s.size<=100000):Calls prog 50 #[.string s,Zg a] w fun e b=>∃t,e=.returned (.string t)/\t.size<=maxLen/\Zz w b:=by
 have d:(100000:Nat)<=maxLen:=Yp
 by_cases h:1<=a/\a<=8
 .refine(Fl s a w Yv h.1 h.2).mono ?_;rintro e b ⟨rfl,c⟩;exact⟨_,rfl,by rw[Jw];omega,c⟩
 .refine(OZ s a w Yv).mono ?_;rintro e b ⟨rfl,rfl⟩;exact⟨_,rfl,Yr,Below.refl _ _⟩
theorem Hu{j:Nat}(h:Aa X q l)(b:∀u∈l,∃x,u=Zg x)(a:j<l.length):∃x,X.cell? (Zd q j)=some (Zg x):=by obtain⟨x,c⟩:=b _ (List.getElem_mem a);exact⟨x,(h j _ (Zv a)).1.trans (by rw[c])⟩
theorem JD{a:Nat}{e:TypeId}{d:Zj}(h:w.ownsRow a e size (Yz g n cap) n d)(j:Nat):w.frozen? ⟨g,j,none⟩=false:=by
 rcases h.2 with⟨e,_⟩|⟨i,b,f,e,_,c,_⟩
 .cases e
 .cases e;simp[World.frozen?,c]
theorem Og{a:Nat}{e:TypeId}{c:Zj}(h:w.ownsRow a e size (Yz g n cap) n c)(j:Nat)(b:j<n *size):∃u,w.cell? (Zd g j)=some u:=by rw[h.cellAt j b];exact⟨_,Zv (by rw[h.1];exact b)⟩
theorem JC.rows{r:Int}{s k:List (Kd×Value)}{o:List Pd}{m i:List Ld}(h:JC w b a n c p q r now e d T P L s o m X)(u:b<w.heap.size)(f:Tn [g] X Y)(v:w.heap.size+2<=g)(t:g≠q)(l:BF Y (w.heap.size+2) q T P L k j i):DD w b a n c p 0 q Y:=
 ⟨⟨_,_,_,_,_,_,_,_,_,_,Aa.same h.box (f.block _ h.box.lt Yt),l⟩,Aa.same h.z (f.block _ h.z.lt Yt),⟨p,h.rd.I f Yt Yt,Yv,Yv⟩,CY h.gr f Yt⟩
theorem JC.same{j:List (Kd×Value)}{g:List Pd}(h:JC w b a n c p q i now e d T P L j g f X):DD w b a n c p 0 q X:=
 ⟨⟨_,_,_,_,_,_,_,_,_,_,h.box,h.N⟩,h.z,⟨p,h.rd,Yv,Yv⟩,h.gr⟩
theorem Si(b:Nat)(a:Zk)(n c:Nat)(p:Int)(sw now H G:Int)(ka pa la:Zk)(kc pc lc:Nat)(I:List Kd)(R:List Pd)(O:List Ld)(w:Zh)(h:AE w b a n c p)(hp:0<=p)(tM:p<=750000)(yA:AZ w w.heap.size ka pa la I R O)(yO:∀A,ka=some A->KY w A I)(vZ:pa=none->pc=0)(vV:la=none->lc=0)(xO:Gy I R O)(xD:∀k∈I,Ht k):
 Calls prog 44 #[.pointer (some ⟨b,0,none⟩),.agg #[.int .i64 sw,.int .i64 now,.int .i64 H,.int .i64 G,.slice ka I.length kc,.slice pa R.length pc,.slice la O.length lc]] w (RW w b a n c p 40):=by
 have zE:=h.lt;obtain⟨W,hW⟩:∃W,W=(w.alloc (.cells #[.int .i64 sw,.int .i64 now,.int .i64 H,.int .i64 G,.slice ka I.length kc,.slice pa R.length pc,.slice la O.length lc] 27)).alloc (.cells #[.int .i64 0,.int .i64 0,.int .i64 0,.int .i64 0,.slice none 0 0,.slice none 0 0,.slice none 0 0] 27):=⟨_,rfl⟩
 obtain⟨bW,zW,cW,c7⟩:=Bm (l:=[.int .i64 sw,.int .i64 now,.int .i64 H,.int .i64 G,.slice ka I.length kc,.slice pa R.length pc,.slice la O.length lc]) (k:=z7) hW;obtain⟨s0,s1,s2,s3,s4,s5,s6⟩:=Aa.c7 cW 0 1 2 3 4 5 6;have hn:=xO.n
 have xW:Hid _:=GL sw now H G ka pa la kc pc lc I R O W (yA.M bW) (fun A hA=>by have hk:=yO A hA;have N:=yA.k;rw[hA]at N;exact hk.af N bW) vZ vV hn.1 hn.2.1 hn.2.2 (fun k hk=>(xD k hk).2.1)
 have H0:Hid (Aa W w.heap.size [.int .i64 sw,.int .i64 now,.int .i64 H,.int .i64 G,.slice ka I.length kc,.slice pa R.length pc,.slice la O.length lc]/\Aa W (w.heap.size+1) z7/\AE W b a n c p/\w.grownBy W (some b)/\W.heap.size=w.heap.size+2):=⟨cW,c7,h.below bW,Ae _ bW,zW⟩;have xE:Hid (NX I R O/\∀k∈I,Ht k):=⟨xO.w xD,xD⟩;have HW:Hid _:=hW;clear hW bW zW cW c7 yA yO xO xD h;go_enter func44,ntmps44
 go_upto_region 1 with fail;rw[<-HW.o];clear HW;go_wp2_with fail;refine Calls.mono xW.o ?_;rintro e w1 ⟨T,P,L,rs,rfl,hS,hf,xB⟩;obtain⟨g,tn,tc,rfl⟩:=hf T (by simp);obtain⟨U,pn,zC,rfl⟩:=hf P (by simp);obtain⟨Z,ln,zA,rfl⟩:=hf L (by simp)
 obtain⟨X0,xA⟩:∃X,X=w1.alloc (.cells #[.int .i64 sw,.int .i64 now,.int .i64 H,.int .i64 G,.slice (some ⟨g,0,none⟩) tn tc,.slice (some ⟨U,0,none⟩) pn zC,.slice (some ⟨Z,0,none⟩) ln zA] 27):=⟨_,rfl⟩;have bX:=(Bc (l:=[.int .i64 sw,.int .i64 now,.int .i64 H,.int .i64 G,.slice (some ⟨g,0,none⟩) tn tc,.slice (some ⟨U,0,none⟩) pn zC,.slice (some ⟨Z,0,none⟩) ln zA]) xA).1
 have cX:=(Bc (l:=[.int .i64 sw,.int .i64 now,.int .i64 H,.int .i64 G,.slice (some ⟨g,0,none⟩) tn tc,.slice (some ⟨U,0,none⟩) pn zC,.slice (some ⟨Z,0,none⟩) ln zA]) xA).2.2;have zZ:Below W.heap.size W X0:=xB.trans (bX.mono xB.size);have tP:=xB.size;have xP:=H0.o.2.2.2.2
 have yZ:Hid (JC w b a n c p w1.heap.size sw now H G (.slice (some ⟨g,0,none⟩) tn tc) (.slice (some ⟨U,0,none⟩) pn zC) (.slice (some ⟨Z,0,none⟩) ln zA) (I.zip rs) R O X0):=
  ⟨cX,(hS.io (fun g hg=>⟨by have:=hS.lo g hg;omega,fun e=>by have:=hS.di g hg;omega⟩) xE.o.1).below bX,Aa.below (v:=.int .i64 0) H0.o.2.1 zZ,H0.o.2.2.1.below zZ,Am H0.o.2.2.2.1 (Ae _ zZ),by omega⟩
 have xX:Hid (R.length<=100):=hn.2.1;have zS:Hid ((∀z∈I.zip rs,Ht z.1)/\(I.zip rs).length=I.length):=⟨fun z hz=>xE.o.2 z.1 (List.of_mem_zip hz).1,by rw[List.length_zip,hS.len,Nat.min_self]⟩
 have xV:Hid (∀X,X0.grownBy X (some b)->Aa X w.heap.size [.int .i64 sw,.int .i64 now,.int .i64 H,.int .i64 G,.slice ka I.length kc,.slice pa R.length pc,.slice la O.length lc]):=fun X hX=>(Aa.below H0.o.1 zZ).aw hX (by omega);obtain rfl:tn=I.length:=by obtain⟨_,_,e⟩:=Ax hS.aj;injection e
 obtain rfl:pn=R.length:=by obtain⟨_,_,e⟩:=Ax hS.pins;injection e
 obtain rfl:ln=O.length:=by obtain⟨_,_,e⟩:=Ax hS.aq;injection e
 have xZ:Hid _:=xA;clear xA bX cX zZ xB hS hf xW H0 xE s0 s1 s2 s3 s4 s5 s6;generalize I.zip rs=zs at *
 go_upto_region 2 with fail;rw[<-xZ.o];clear xZ;generalize w1.heap.size=q at *
 obtain⟨v4,_⟩:=yZ.o.box 4 _ rfl;go_wp2_with fail;refine(TM b a n c p I.length X0 yZ.o.rd hp (by omega) (by omega)).mono ?_;rintro e X1 ⟨k,rfl,hk,vG,xJ⟩;clear v4;go_wp2_with fail;refine(AU b a n c (p+1) 12 X1 vG (by omega) (by omega) (by omega) (by omega)).mono ?_;rintro e S ⟨r,rfl,r0,r1,zN,zH⟩
 have B:Hid (JC w b a n c (p+1+1) q sw now H G (.slice (some ⟨g,0,none⟩) I.length tc) (.slice (some ⟨U,0,none⟩) R.length zC) (.slice (some ⟨Z,0,none⟩) O.length zA) zs R O S):=yZ.o.go (Am xJ zH) zN zE;have vC:=xV.o S (Am xJ zH);have HQ:Hid (S.cell? ⟨w.heap.size,0,none⟩=some (.int .i64 sw)):=(vC 0 _ rfl).1;clear vG zN xJ zH yZ xV vC;generalize vY:p+1+1=p1 at *
 have xN:q<S.heap.size:=B.o.box.lt;have tN:=B.o.q
 go_upto_block 0 with fail
 go_cut [6] (fun _ wx=>Hid (DD w b a n c p 40 q wx))
 case rest=>
  clear B HQ;revert wc;intro Y HE;obtain⟨tI,xU,yR,yM,T',P',L',xQ,tH,tF,hB,hS⟩:=HE.o.ex;obtain⟨ta,tn,o⟩:=Ax hS.t.o;obtain⟨tG,pn,hP⟩:=Ax hS.p.o;obtain⟨tE,ln,hL⟩:=Ax hS.l.o;subst o hP hL;have HS:Hid _:=hS;obtain⟨x0,x1,x2,x3,x4,x5,x6⟩:=Aa.c7 hB 0 1 2 3 4 5 6;obtain⟨⟨y0,f0⟩,⟨y1,f1⟩,⟨y2,f2⟩,⟨y3,f3⟩,⟨y4,f4⟩,⟨y5,f5⟩,y6,f6⟩:=Jb HE.o.z;clear hS hB;go_wp2
  refine bodyPost_ret (v:=.agg #[.int .i64 tI,.int .i64 xU,.int .i64 yR,.int .i64 yM,.slice ta xQ.length tn,.slice tG tH.length pn,.slice tE tF.length ln]) (by simp[results,results44,go_sem,y0,y1,y2,y3,y4,y5,y6]) rfl (HE.o.fin HS.o zE ?_)
  repeat refine Tn.trans ?_ (Tn.set _ _ _ _ (by simp))
  exact Tn.of (Below.refl _ _)
 rcases(show r=0\/r=1\/r=2\/r=3\/r=4\/r=5\/r=6\/r=7\/r=8\/r=9\/r=10\/r=11 by omega)with rfl|rfl|rfl|rfl|rfl|rfl|rfl|rfl|rfl|rfl|rfl|rfl
 .go_wp2_with fail;refine(AU b a n c p1 11 S B.o.rd (by omega) (by omega) (by omega) (by omega)).mono ?_;rintro e X3 ⟨x,rfl,x0,x1,zK,zI⟩;have zF:Hid _:=B.o.go zI zK zE;obtain⟨y0,f0⟩:=zF.o.box 0 _ rfl;have xM:q<X3.heap.size:=zF.o.box.lt;have HE:Hid (∀x,DD w b a n c p 40 q (X3.setCell ⟨q,0,none⟩ (.int .i64 x))):=fun x=>(zF.o.H zE 0 (by omega) x).more (by omega) (by omega);clear zK zI zF B HQ;go_wp2
  go_meet;exact HE.o _
 .obtain⟨A,hA⟩:∃A,A=S.alloc (.cells #[.int .i64 (-1),.int .i64 1000000000,.int .i64 1000000001] 3):=⟨_,rfl⟩;have bA:=(Bc (l:=[.int .i64 (-1),.int .i64 1000000000,.int .i64 1000000001]) hA).1;have cA:=(Bc (l:=[.int .i64 (-1),.int .i64 1000000000,.int .i64 1000000001]) hA).2.2;have zO:Hid _:=B.o.go (Ae _ bA) (B.o.rd.below bA) zE
  have HP:Hid _:=AU b a n c p1 3 A zO.o.rd (by omega) (by omega) (by omega) (by omega);subst hA;go_wp2_with fail;refine Calls.mono HP.o ?_;rintro e X3 ⟨x,rfl,x0,x1,zK,zI⟩;obtain⟨j,rfl⟩:∃j:Nat,x=j:=⟨x.toNat,by omega⟩;have zF:Hid _:=zO.o.go zI zK zE;obtain⟨v,hv⟩:=Hu (cA.aw zI (by omega)) (by simp) (j:=j) (by simp;omega);obtain⟨y0,f0⟩:=zF.o.box 1 _ rfl;have xM:q<X3.heap.size:=zF.o.box.lt
  have yX:=zI.size;have HE:Hid (∀x,DD w b a n c p 40 q (X3.setCell ⟨q,1,none⟩ (.int .i64 x))):=fun x=>(zF.o.H zE 1 (by omega) x).more (by omega) (by omega);simp only[World.size_alloc]at yX;clear zK zI zF B HQ zO HP cA bA;go_wp2;go_meet;exact HE.o _
 .obtain⟨A,hA⟩:∃A,A=S.alloc (.cells #[.int .i64 (-1),.int .i64 0,.int .i64 1,.int .i64 1000000000,.int .i64 1000000001] 3):=⟨_,rfl⟩;have bA:=(Bc (l:=[.int .i64 (-1),.int .i64 0,.int .i64 1,.int .i64 1000000000,.int .i64 1000000001]) hA).1;have cA:=(Bc (l:=[.int .i64 (-1),.int .i64 0,.int .i64 1,.int .i64 1000000000,.int .i64 1000000001]) hA).2.2
  have zO:Hid _:=B.o.go (Ae _ bA) (B.o.rd.below bA) zE;have HP:Hid _:=AU b a n c p1 5 A zO.o.rd (by omega) (by omega) (by omega) (by omega);subst hA;go_wp2_with fail;refine Calls.mono HP.o ?_;rintro e X3 ⟨x,rfl,x0,x1,zK,zI⟩;obtain⟨j,rfl⟩:∃j:Nat,x=j:=⟨x.toNat,by omega⟩;have zF:Hid _:=zO.o.go zI zK zE;obtain⟨v,hv⟩:=Hu (cA.aw zI (by omega)) (by simp) (j:=j) (by simp;omega)
  obtain⟨y0,f0⟩:=zF.o.box 3 _ rfl;have xM:q<X3.heap.size:=zF.o.box.lt;have yX:=zI.size;have HE:Hid (∀x,DD w b a n c p 40 q (X3.setCell ⟨q,3,none⟩ (.int .i64 x))):=fun x=>(zF.o.H zE 3 (by omega) x).more (by omega) (by omega);simp only[World.size_alloc]at yX;clear zK zI zF B HQ zO HP cA bA;go_wp2;go_meet;exact HE.o _
 .obtain⟨A,hA⟩:∃A,A=S.alloc (.cells #[.int .i64 (-1),.int .i64 0,.int .i64 1000000000,.int .i64 1000000001] 3):=⟨_,rfl⟩;have bA:=(Bc (l:=[.int .i64 (-1),.int .i64 0,.int .i64 1000000000,.int .i64 1000000001]) hA).1;have cA:=(Bc (l:=[.int .i64 (-1),.int .i64 0,.int .i64 1000000000,.int .i64 1000000001]) hA).2.2;have zO:Hid _:=B.o.go (Ae _ bA) (B.o.rd.below bA) zE
  have HP:Hid _:=AU b a n c p1 4 A zO.o.rd (by omega) (by omega) (by omega) (by omega);subst hA;go_wp2_with fail;refine Calls.mono HP.o ?_;rintro e X3 ⟨x,rfl,x0,x1,zK,zI⟩;obtain⟨j,rfl⟩:∃j:Nat,x=j:=⟨x.toNat,by omega⟩;have zF:Hid _:=zO.o.go zI zK zE;obtain⟨v,hv⟩:=Hu (cA.aw zI (by omega)) (by simp) (j:=j) (by simp;omega);obtain⟨y0,f0⟩:=zF.o.box 2 _ rfl;have xM:q<X3.heap.size:=zF.o.box.lt
  have yX:=zI.size;have HE:Hid (∀x,DD w b a n c p 40 q (X3.setCell ⟨q,2,none⟩ (.int .i64 x))):=fun x=>(zF.o.H zE 2 (by omega) x).more (by omega) (by omega);simp only[World.size_alloc]at yX;clear zK zI zF B HQ zO HP cA bA;go_wp2;go_meet;exact HE.o _
 .by_cases hz:I.length=0
  .have zR:¬(0:Int)<(I.length:Int):=by omega
   clear hz hk;have HE:Hid (DD w b a n c p 40 q S):=B.o.same.more (by omega) (by omega);obtain⟨v4,_⟩:=B.o.box 4 _ rfl;clear B HQ;go_wp2;go_meet;exact HE
  have zR:(0:Int)<(I.length:Int):=by omega
  have yV:k<I.length:=by omega
  have yE:k<zs.length:=by rw[zS.o.2];exact yV
  have yP:=Zv yE;have HB:Hid (Ht zs[k].1):=zS.o.1 _ (List.getElem_mem yE)
  have HF:Hid (∀X,S.grownBy X (some b)->Aa X q [.int .i64 sw,.int .i64 now,.int .i64 H,.int .i64 G,.slice (some ⟨g,0,none⟩) I.length tc,.slice (some ⟨U,0,none⟩) R.length zC,.slice (some ⟨Z,0,none⟩) O.length zA]/\BF X (w.heap.size+2) q (.slice (some ⟨g,0,none⟩) I.length tc) (.slice (some ⟨U,0,none⟩) R.length zC) (.slice (some ⟨Z,0,none⟩) O.length zA) zs R O):=fun X hX=>⟨B.o.box.aw hX (by omega),B.o.N.I (Tn.grown (V:=[b]) hX (by simp)) (by simp;omega)⟩
  have HC:Hid (∀X,S.grownBy X (some b)->∃ra rc,zs[k].2=.slice ra zs[k].1.B.length rc/\X.cell? ⟨g,k *4+2,none⟩=some (.string zs[k].1.E)/\X.cell? ⟨g,k *4+3,none⟩=some (.slice ra zs[k].1.B.length rc)/\X.frozen? ⟨g,k *4+2,none⟩=false/\X.frozen? ⟨g,k *4+3,none⟩=false/\Ab X X.heap.size ra zs[k].1.B/\(ra=none->zs[k].1.B.length=0/\rc=0)/\g<X.heap.size):=fun X hX=>by
   have hS:=(HF.o X hX).2;have N:=(hS.r _ (List.getElem_mem yE)).o;obtain⟨ra,rc,e⟩:=Ax N;have ho:=hS.t.o;rw[zS.o.2]at ho;have c2:=ho.cellAt (k *4+2) (by omega);have c3:=ho.cellAt (k *4+3) (by omega);rw[Cd Ce yP (show 2<4 by decide)]at c2;rw[Cd Ce yP (show 3<4 by decide)]at c3;have vM:X.cell? ⟨g,k *4+3,none⟩=some (.slice ra zs[k].1.B.length rc):=by rw[<-e];exact c3
   rw[e]at N;have Q:=TN N;exact⟨ra,rc,e,c2,vM,JD ho _,JD ho _,Q.1,Q.2,(Ad ho (g:=g) rfl).2⟩
  have yB:=(Ad B.o.N.t.o (g:=g) rfl).1;have yK:g≠q:=fun e=>B.o.N.t.q (by rw[e];rfl);obtain⟨v4,_⟩:=B.o.box 4 _ rfl;generalize zs[k]=z at *
  go_upto_region 15 with fail;rw[decide_eq_true (show 0<I.length by omega)];clear v4;obtain⟨ra,rc,vJ,_⟩:=HC.o S (AK _ _);have vA:Hid (z.2=.slice ra z.1.B.length rc):=vJ;clear vJ
  refine BS [59,60,61,62,63,64,65,66,67,68,69,70,71] 13 rfl _ rfl (by kernel_rfl) (by kernel_rfl) (by kernel_rfl) (by kernel_rfl) (by kernel_rfl) (by decide) (by kernel_rfl) [] (by kernel_rfl) (fun L X=>(∃F,AE X b a n c F/\p1<=F/\F<=p1+2/\(L 10=false->F=p1))/\S.grownBy X (some b)) (fun i X v=>match i with
   |0=>v=.pointer (some ⟨q,4,none⟩)
   |1=>v=.slice (some ⟨g,0,none⟩) I.length tc
   |2=>v=.int .i64 k
   |3=>v=.pointer (some ⟨b,0,none⟩)
   |4=>v=.pointer (some ⟨q,4,none⟩)
   |5=>v=.slice (some ⟨g,0,none⟩) I.length tc
   |6=>v=.int .i64 k
   |7=>v=.pointer (some ⟨g,k *4,none⟩)
   |8=>v=.pointer (some ⟨g,k *4+2,none⟩)
   |9=>v=.agg #[.string z.1.E,.slice ra z.1.B.length rc]
   |10=>∃(t:Zi) (yF:Zk) (yG:Nat) (ss:Zl),v=.agg #[.string t,.slice yF ss.length yG]/\t.size<=2001/\ss.length<=31/\(∀s∈ss,s.size<=8)/\Ow X (w.heap.size+2) q 9 1 (.slice yF ss.length yG) ss.length (ss.map Value.string)
   |11=>v=.pointer (some ⟨g,k *4,none⟩)
   |12=>v=.pointer (some ⟨g,k *4+2,none⟩)
   |_=>True) (fun _ X Y=>X.grownBy Y (some b)) ?_ ⟨⟨p1,B.o.rd.drew,by omega,by omega,fun _=>rfl⟩,⟨rfl,rfl,rfl,Zx,fun _ _ _=>rfl⟩⟩ ?_ ?_
  .intro j i X Y v zX yD yJ hE o;rcases i with _|_|_|_|_|_|_|_|_|_|_|_|_|_
   .exact o
   .exact o
   .exact o
   .exact o
   .exact o
   .exact o
   .exact o
   .exact o
   .exact o
   .exact o
   .obtain⟨t,yF,yG,ss,e,N,Q,h3,h4⟩:=o;exact⟨t,yF,yG,ss,e,N,Q,h3,h4.I (Tn.grown (V:=[b]) hE (by simp)) (by simp;omega)⟩
   .exact o
   .exact o
   .trivial
  .intro i o' L x X hi ho hL hD D J K f;have M:X.grownBy X (some b):=AK _ _;have C:i≠10->∀Y,Zz X Y->(∃F,AE Y b a n c F/\p1<=F/\F<=p1+2/\(Bn L i 10=false->F=p1))/\S.grownBy Y (some b):=fun h6 Y hY=>⟨D.1.imp (fun F h=>⟨h.1.below hY,h.2.1,h.2.2.1,fun h9=>h.2.2.2 (by unfold Bn at h9;rw[if_neg (Ne.symm h6)]at h9;exact h9)⟩),Am D.2 (Ae _ hY)⟩
   rcases(show i=0\/i=1\/i=2\/i=3\/i=4\/i=5\/i=6\/i=7\/i=8\/i=9\/i=10\/i=11\/i=12 by omega)with rfl|rfl|rfl|rfl|rfl|rfl|rfl|rfl|rfl|rfl|rfl|rfl|rfl<;>cases ho<;>simp only[Bb,Act.put,Zq,Zp,Zo]at f |-
   .go_simp;exact f.out _ X rfl M (C (by omega) X (Below.refl _ _))
   .have d0:=J ⟨0,.data⟩ (by simp) (by rfl);rw[show x 0=.pointer (some ⟨q,4,none⟩)from d0]at f |-;obtain⟨f1,_⟩:=HF.o X D.2;obtain⟨c4,_⟩:=f1 4 _ rfl;clear f1;go_simp;exact f.out _ X rfl M (C (by omega) X (Below.refl _ _))
   .go_simp;exact f.out _ X rfl M (C (by omega) X (Below.refl _ _))
   .go_simp;exact f.out _ X rfl M (C (by omega) X (Below.refl _ _))
   .go_simp;exact f.out _ X rfl M (C (by omega) X (Below.refl _ _))
   .have d4:=J ⟨4,.data⟩ (by simp) (by rfl);rw[show x 4=.pointer (some ⟨q,4,none⟩)from d4]at f |-;obtain⟨f1,_⟩:=HF.o X D.2;obtain⟨c4,_⟩:=f1 4 _ rfl;clear f1;go_simp;exact f.out _ X rfl M (C (by omega) X (Below.refl _ _))
   .go_simp;exact f.out _ X rfl M (C (by omega) X (Below.refl _ _))
   .have d5:=J ⟨5,.data⟩ (by simp) (by rfl);have d6:=J ⟨6,.data⟩ (by simp) (by rfl);rw[show x 5=.slice (some ⟨g,0,none⟩) I.length tc from d5,show x 6=.int .i64 k from d6]at f |-;go_simp;exact f.out _ X rfl M (C (by omega) X (Below.refl _ _))
   .have d7:=J ⟨7,.data⟩ (by simp) (by rfl);rw[show x 7=.pointer (some ⟨g,k *4,none⟩)from d7]at f |-;go_simp;exact f.out _ X rfl M (C (by omega) X (Below.refl _ _))
   .have d8:=J ⟨8,.data⟩ (by simp) (by rfl);rw[show x 8=.pointer (some ⟨g,k *4+2,none⟩)from d8]at f |-;obtain⟨vK,vL,e1,c2,c3,_⟩:=HC.o X D.2;rw[vA.o]at e1;injection e1 with e2 e3 e4;subst e2 e4;go_simp;exact f.out _ X rfl M (C (by omega) X (Below.refl _ _))
   .have d3:=J ⟨3,.data⟩ (by simp) (by rfl);have d9:=J ⟨9,.data⟩ (by simp) (by rfl);rw[show x 3=.pointer (some ⟨b,0,none⟩)from d3,show x 9=.agg #[.string z.1.E,.slice ra z.1.B.length rc]from d9]at f |-;obtain⟨⟨F,zG,zT,zU,zJ⟩,zB⟩:=D;obtain⟨vK,vL,e1,c2,c3,_,_,tA,vX,_⟩:=HC.o X zB;rw[vA.o]at e1;injection e1 with e2 e3 e4;subst e2 e4;have xC:=zJ hL;clear c2 c3 e3;go_simp
    refine(Oe b a n c F z.1.E ra rc z.1.B X zG (by omega) (by omega) tA vX HB.o.1 HB.o.2.1 HB.o.2.2).mono ?_;rintro e X' ⟨⟨t,yF,yG,ss,rfl,vI,tB,tC,zM⟩,⟨⟨p2,zN,h3,h4⟩,zH⟩⟩;have vD:=zB.size;exact f.out _ X' ⟨t,yF,yG,ss,rfl,vI,tB,tC,zM.mono (by omega),fun e=>by have:=(Ad zM e).1;omega⟩ zH ⟨⟨p2,zN,by omega,by omega,fun h=>by unfold Bn at h;simp at h⟩,Am zB zH⟩
   .have d1:=J ⟨1,.data⟩ (by simp) (by rfl);have d2:=J ⟨2,.data⟩ (by simp) (by rfl);rw[show x 1=.slice (some ⟨g,0,none⟩) I.length tc from d1,show x 2=.int .i64 k from d2]at f |-;go_simp;exact f.out _ X rfl M (C (by omega) X (Below.refl _ _))
   .have vN:=J ⟨11,.data⟩ (by simp) (by rfl);rw[show x 11=.pointer (some ⟨g,k *4,none⟩)from vN]at f |-;go_simp;exact f.out _ X rfl M (C (by omega) X (Below.refl _ _))
  .intro L x X hL D o K f;simp only[Bb,Act.put,Zq,Zp,Zo];obtain⟨t,yF,yG,ss,e1,N,Q,h3,h4⟩:=o 10 (by decide) (fun j=>by simp);have xG:=o 12 (by decide) (fun j=>by simp);obtain⟨⟨F,zG,zT,zU,zJ⟩,zB⟩:=D;obtain⟨vK,vL,_,c2,c3,f2,f3,_,_,xK⟩:=HC.o X zB;have hI:=B.o.go zB zG zE;have hm:(100000:Nat)<=maxLen:=by unfold maxLen;omega
   have HE:Hid (DD w b a n c p 40 q ((X.setCell ⟨g,k *4+2,none⟩ (.string t)).setCell ⟨g,k *4+3,none⟩ (.slice yF ss.length yG))):=(hI.rows zE (Tn.trans (Bd X g _ _) (Bd _ g _ _)) yB yK (hI.N.setT yP h4 (by omega) (by omega) (fun s hs=>by have:=h3 s hs;omega))).more (by omega) (by omega);rw[e1,show x 12=.pointer (some ⟨g,k *4+2,none⟩)from xG];clear o hI h4 HF HC B HB;go_simp;refine f.out _ _ ?_
   clear f K;go_wp2;go_meet;exact HE
 .by_cases hz:I.length<=1
  .have zR:¬(1:Int)<(I.length:Int):=by omega
   clear hz hk;have HE:Hid (DD w b a n c p 40 q S):=B.o.same.more (by omega) (by omega);obtain⟨v4,_⟩:=B.o.box 4 _ rfl;clear B HQ;go_wp2;go_meet;exact HE
  have zR:(1:Int)<(I.length:Int):=by omega
  have xP:0<I.length:=by omega
  obtain⟨z0,z1,zr,tD⟩:∃z0 z1 zr,zs=z0::z1::zr:=by
   have hl:=zS.o.2
   match zs,hl with
   |[],hl=>simp at hl;omega
   |[_],hl=>simp at hl;omega
   |z0::z1::zr,_=>exact⟨z0,z1,zr,rfl⟩
  subst tD
  have HF:Hid (∀X,S.grownBy X (some b)->Aa X q [.int .i64 sw,.int .i64 now,.int .i64 H,.int .i64 G,.slice (some ⟨g,0,none⟩) I.length tc,.slice (some ⟨U,0,none⟩) R.length zC,.slice (some ⟨Z,0,none⟩) O.length zA]/\BF X (w.heap.size+2) q (.slice (some ⟨g,0,none⟩) I.length tc) (.slice (some ⟨U,0,none⟩) R.length zC) (.slice (some ⟨Z,0,none⟩) O.length zA) (z0::z1::zr) R O):=fun X hX=>⟨B.o.box.aw hX (by omega),B.o.N.I (Tn.grown (V:=[b]) hX (by simp)) (by simp;omega)⟩
  have HC:Hid (∀X,S.grownBy X (some b)->X.cell? ⟨g,5,none⟩=some (.int .i64 z1.1.born)/\X.cell? ⟨g,1,none⟩=some (.int .i64 z0.1.born)/\X.frozen? ⟨g,1,none⟩=false/\g<X.heap.size):=fun X hX=>by have ho:=(HF.o X hX).2.t.o;rw[zS.o.2]at ho;exact⟨ho.cellAt 5 (by omega),ho.cellAt 1 (by omega),JD ho _,(Ad ho (g:=g) rfl).2⟩
  have xY:Hid ((Lit.int .i64 z1.1.born).wf=true):=(B.o.N.w.k z1.1 (by simp)).b;have yB:=(Ad B.o.N.t.o (g:=g) rfl).1;have yK:g≠q:=fun e=>B.o.N.t.q (by rw[e];rfl);obtain⟨v4,_⟩:=B.o.box 4 _ rfl;go_upto_region 18 with fail;try rw[decide_eq_true (show 1<I.length by omega)]
  clear v4;refine BS [78,79,80,81,82,83,84,85,86] 9 rfl _ rfl (by kernel_rfl) (by kernel_rfl) (by kernel_rfl) (by kernel_rfl) (by kernel_rfl) (by decide) (by kernel_rfl) [] (by kernel_rfl) (fun L X=>(∃F,AE X b a n c F/\p1<=F/\F<=p1+2/\(L 99=false->F=p1))/\S.grownBy X (some b)) (fun i X v=>match i with
   |0=>v=.pointer (some ⟨q,4,none⟩)
   |1=>v=.slice (some ⟨g,0,none⟩) I.length tc
   |2=>v=.pointer (some ⟨q,4,none⟩)
   |3=>v=.slice (some ⟨g,0,none⟩) I.length tc
   |4=>v=.pointer (some ⟨g,4,none⟩)
   |5=>v=.pointer (some ⟨g,5,none⟩)
   |6=>v=.int .i64 z1.1.born
   |7=>v=.pointer (some ⟨g,0,none⟩)
   |8=>v=.pointer (some ⟨g,1,none⟩)
   |_=>True) (fun _ X Y=>X.grownBy Y (some b)) ?_ ⟨⟨p1,B.o.rd.drew,by omega,by omega,fun _=>rfl⟩,⟨rfl,rfl,rfl,Zx,fun _ _ _=>rfl⟩⟩ ?_ ?_
  .intro j i X Y v zX yD yJ hE o;rcases i with _|_|_|_|_|_|_|_|_|_
   .exact o
   .exact o
   .exact o
   .exact o
   .exact o
   .exact o
   .exact o
   .exact o
   .exact o
   .trivial
  .intro i o' L x X hi ho hL hD D J K f;have M:X.grownBy X (some b):=AK _ _;have C:i≠99->∀Y,Zz X Y->(∃F,AE Y b a n c F/\p1<=F/\F<=p1+2/\(Bn L i 99=false->F=p1))/\S.grownBy Y (some b):=fun h6 Y hY=>⟨D.1.imp (fun F h=>⟨h.1.below hY,h.2.1,h.2.2.1,fun h9=>h.2.2.2 (by unfold Bn at h9;rw[if_neg (Ne.symm h6)]at h9;exact h9)⟩),Am D.2 (Ae _ hY)⟩
   rcases(show i=0\/i=1\/i=2\/i=3\/i=4\/i=5\/i=6\/i=7\/i=8 by omega)with rfl|rfl|rfl|rfl|rfl|rfl|rfl|rfl|rfl<;>cases ho<;>simp only[Bb,Act.put,Zq,Zp,Zo]at f |-
   .go_simp;exact f.out _ X rfl M (C (by omega) X (Below.refl _ _))
   .have d0:=J ⟨0,.data⟩ (by simp) (by rfl);rw[show x 0=.pointer (some ⟨q,4,none⟩)from d0]at f |-;obtain⟨f1,_⟩:=HF.o X D.2;obtain⟨c4,_⟩:=f1 4 _ rfl;clear f1;go_simp;exact f.out _ X rfl M (C (by omega) X (Below.refl _ _))
   .go_simp;exact f.out _ X rfl M (C (by omega) X (Below.refl _ _))
   .have d2:=J ⟨2,.data⟩ (by simp) (by rfl);rw[show x 2=.pointer (some ⟨q,4,none⟩)from d2]at f |-;obtain⟨f1,_⟩:=HF.o X D.2;obtain⟨c4,_⟩:=f1 4 _ rfl;clear f1;go_simp;exact f.out _ X rfl M (C (by omega) X (Below.refl _ _))
   .have d3:=J ⟨3,.data⟩ (by simp) (by rfl);rw[show x 3=.slice (some ⟨g,0,none⟩) I.length tc from d3]at f |-;go_simp;exact f.out _ X rfl M (C (by omega) X (Below.refl _ _))
   .have d4:=J ⟨4,.data⟩ (by simp) (by rfl);rw[show x 4=.pointer (some ⟨g,4,none⟩)from d4]at f |-;go_simp;exact f.out _ X rfl M (C (by omega) X (Below.refl _ _))
   .have d5:=J ⟨5,.data⟩ (by simp) (by rfl);rw[show x 5=.pointer (some ⟨g,5,none⟩)from d5]at f |-;obtain⟨c5,_⟩:=HC.o X D.2;go_simp;exact f.out _ X rfl M (C (by omega) X (Below.refl _ _))
   .have d1:=J ⟨1,.data⟩ (by simp) (by rfl);rw[show x 1=.slice (some ⟨g,0,none⟩) I.length tc from d1]at f |-;go_simp;exact f.out _ X rfl M (C (by omega) X (Below.refl _ _))
   .have d7:=J ⟨7,.data⟩ (by simp) (by rfl);rw[show x 7=.pointer (some ⟨g,0,none⟩)from d7]at f |-;go_simp;exact f.out _ X rfl M (C (by omega) X (Below.refl _ _))
  .intro L x X hL D o K f;simp only[Bb,Act.put,Zq,Zp,Zo];have d6:=o 6 (by decide) (fun j=>by simp);have d8:=o 8 (by decide) (fun j=>by simp);obtain⟨⟨F,zG,zT,zU,zJ⟩,zB⟩:=D;obtain⟨c5,c1,f1,xK⟩:=HC.o X zB;have hI:=B.o.go zB zG zE;have HE:Hid (DD w b a n c p 40 q (X.setCell ⟨g,1,none⟩ (.int .i64 z1.1.born))):=(hI.rows zE (Bd X g _ _) yB yK (hI.N.setB xY.o)).more (by omega) (by omega)
   rw[show x 6=.int .i64 z1.1.born from d6,show x 8=.pointer (some ⟨g,1,none⟩)from d8];clear o hI HF HC B xY;go_simp;refine f.out _ _ ?_;clear f K;go_wp2;go_meet;exact HE
 .by_cases hz:I.length=0
  .have zR:¬(0:Int)<(I.length:Int):=by omega
   clear hz hk;have HE:Hid (DD w b a n c p 40 q S):=B.o.same.more (by omega) (by omega);obtain⟨v4,_⟩:=B.o.box 4 _ rfl;clear B HQ;go_wp2;go_meet;exact HE
  have zR:(0:Int)<(I.length:Int):=by omega
  have yV:k<I.length:=by omega
  have yE:k<zs.length:=by rw[zS.o.2];exact yV
  have vS:k+1<=zs.length:=yE;have tR:=zS.o.2;have tK:IntKind.i64.wrap ((k:Int)+1)=(k:Int)+1:=Bs (by omega) (by omega)
  have HG:Hid (∀X,Zz S X->Aa X q [.int .i64 sw,.int .i64 now,.int .i64 H,.int .i64 G,.slice (some ⟨g,0,none⟩) I.length tc,.slice (some ⟨U,0,none⟩) R.length zC,.slice (some ⟨Z,0,none⟩) O.length zA]/\X.ownsRow (w.heap.size+2) 37 4 (.slice (some ⟨g,0,none⟩) zs.length tc) zs.length (Ai kC zs)):=fun X hX=>by have N:=Ap B.o.N.t.o hX;refine⟨Aa.below B.o.box hX,?_⟩;rw[zS.o.2]at N |-;exact N
  have HZ:Hid (∀z∈zs,∃a n c,z.2=.slice a n c):=fun z hz=>by obtain⟨a,c,e⟩:=Ax (B.o.N.r z hz).o;exact⟨a,_,c,e⟩
  have yB:=Ad B.o.N.t.o (g:=g) rfl;obtain⟨v4,_⟩:=B.o.box 4 _ rfl;go_upto_region 21 with fail;try rw[decide_eq_true (show 0<I.length by omega)]
  clear v4;refine BS [93,94,95,96,97,98,99,100,101,102,103,104,105] 13 rfl _ rfl (by kernel_rfl) (by kernel_rfl) (by kernel_rfl) (by kernel_rfl) (by kernel_rfl) (by decide) (by kernel_rfl) [(5,0),(11,0),(11,5)] (by kernel_rfl) (fun _ X=>Zz S X/\S.heap.size<=X.heap.size) (fun i X v=>match i with
   |0=>∃m,v=.slice (some ⟨m,0,none⟩) 0 0/\X.ownsRow S.heap.size 37 4 (.slice (some ⟨m,0,none⟩) 0 0) 0 []
   |1=>v=.pointer (some ⟨q,4,none⟩)
   |2=>v=.slice (some ⟨g,0,none⟩) I.length tc
   |3=>v=.int .i64 k
   |4=>v=.slice (some ⟨g,0,none⟩) k tc
   |5=>∃g' c',v=.slice (some ⟨g',0,none⟩) k c'/\X.ownsRow S.heap.size 37 4 (.slice (some ⟨g',0,none⟩) k c') (zs.take k).length (Ai kC (zs.take k))
   |6=>v=.pointer (some ⟨q,4,none⟩)
   |7=>v=.slice (some ⟨g,0,none⟩) I.length tc
   |8=>v=.int .i64 k
   |9=>v=.int .i64 ((k:Int)+1)
   |10=>∃off c',v=.slice (some ⟨g,off,none⟩) (zs.drop (k+1)).length c'/\∀j u,(Ai kC (zs.drop (k+1)))[j]?=some u->S.cell? ⟨g,off+j,none⟩=some u
   |11=>∃g' c',v=.slice (some ⟨g',0,none⟩) (I.length -1) c'/\X.ownsRow S.heap.size 37 4 (.slice (some ⟨g',0,none⟩) (I.length -1) c') (zs.take k++zs.drop (k+1)).length (Ai kC (zs.take k++zs.drop (k+1)))
   |12=>v=.pointer (some ⟨q,4,none⟩)
   |_=>True) (fun j X Y=>Below S.heap.size X Y/\(j≠5->j≠11->Zz X Y)) ?_ ⟨(Below.refl _ _).drew,Zx⟩ ?_ ?_
  .intro j i X Y v zX yD yJ hE o;obtain⟨N,h3⟩:=hE;rcases i with _|_|_|_|_|_|_|_|_|_|_|_|_|_
   .obtain⟨m,e,h⟩:=o;exact⟨m,e,Ap h (h3 (fun e=>yD (by rw[e];simp)) (fun e=>yD (by rw[e];simp)))⟩
   .exact o
   .exact o
   .exact o
   .exact o
   .obtain⟨g',c',e,h⟩:=o;exact⟨g',c',e,Ap h (h3 (fun e=>zX e) (fun e=>yD (by rw[e];simp)))⟩
   .exact o
   .exact o
   .exact o
   .exact o
   .exact o
   .obtain⟨g',c',e,h⟩:=o;exact⟨g',c',e,Ap h (h3 (fun e=>by subst e;have h9:=yJ.symm.trans (by kernel_rfl:_=true);cases h9) (fun e=>zX e))⟩
   .exact o
   .trivial
  .intro i o' L x X hi ho hL hD D J K f;have M:Below S.heap.size X X/\(i≠5->i≠11->Zz X X):=⟨Below.refl _ _,fun _ _=>Below.refl _ _⟩;rcases(show i=0\/i=1\/i=2\/i=3\/i=4\/i=5\/i=6\/i=7\/i=8\/i=9\/i=10\/i=11\/i=12 by omega)with rfl|rfl|rfl|rfl|rfl|rfl|rfl|rfl|rfl|rfl|rfl|rfl|rfl<;>cases ho<;>simp only[Bb,Act.put,Zq,Zp,Zo]at f |-
   .have hA:Below X.heap.size X (X.alloc (.cells #[] 37)):=Zy;have zV:=D.2;go_simp;exact f.out _ _ ⟨X.heap.size,rfl,World.ownsRow_lit (base:=S.heap.size) (e:=37) (size:=4) X #[] 0 zV (by unfold maxLen;omega) rfl⟩ ⟨hA.mono zV,fun _ _=>hA⟩ ⟨D.1.trans (hA.mono zV),Zm zV hA.size⟩
   .go_simp;exact f.out _ X rfl M D
   .have d1:=J ⟨1,.data⟩ (by simp) (by rfl);rw[show x 1=.pointer (some ⟨q,4,none⟩)from d1]at f |-;obtain⟨f1,_⟩:=HG.o X D.1;obtain⟨c4,_⟩:=f1 4 _ rfl;clear f1;go_simp;exact f.out _ X rfl M D
   .go_simp;exact f.out _ X rfl M D
   .have d2:=J ⟨2,.data⟩ (by simp) (by rfl);have d3:=J ⟨3,.data⟩ (by simp) (by rfl);rw[show x 2=.slice (some ⟨g,0,none⟩) I.length tc from d2,show x 3=.int .i64 k from d3]at f |-;have yO:I.length<=tc/\tc<=maxLen:=by
     rcases(HG.o X D.1).2.2 with⟨e,_⟩|⟨_,_,_,e,_,_,N,Q,_⟩
     .cases e
     .cases e;omega
    unfold maxLen at yO;have vP:k<=tc:=by omega
    go_simp;exact f.out _ X rfl M D
   .obtain⟨m,e0,h0⟩:=J ⟨0,.data⟩ (by simp) (by rfl);have d4:=J ⟨4,.data⟩ (by simp) (by rfl);rw[e0,show x 4=.slice (some ⟨g,0,none⟩) k tc from d4]at f |-;have hl:(zs.take k).length=k:=by rw[List.length_take];omega
    have yA:=(HG.o X D.1).2;obtain⟨g',c',X',zY,zM,yC⟩:=LR X S.heap.size _ [] (zs.take k) h0 (some ⟨g,0,none⟩) tc (fun e=>by cases e) (fun A' e j u hu=>by
     cases e;rcases Hs yA (Nat.le_of_lt yE)with⟨e,_⟩|⟨g2,cap,e,_,_,_,_,xR,_⟩
     .cases e
     .cases e;exact xR j u hu) (fun z hz=>HZ.o z (List.mem_of_mem_take hz)) (by simp) (by omega) D.2 (fun e=>by cases e) 23
    rw[hl]at zY zM;simp only[List.length_nil,Nat.zero_add,List.nil_append]at zY zM;have zV:=D.2;have yI:Below S.heap.size X X':=(Below.refl _ _).grown yC zV (fun q hq=>(Ad h0 hq).1);refine CA (.tmp 93) (.tmp 97) 23 rfl rfl rfl zY ?_;exact f.out _ X' ⟨g',c',rfl,zM⟩ ⟨yI,fun h=>absurd rfl h⟩ ⟨D.1.trans yI,Zm zV yC.size⟩
   .go_simp;exact f.out _ X rfl M D
   .have d6:=J ⟨6,.data⟩ (by simp) (by rfl);rw[show x 6=.pointer (some ⟨q,4,none⟩)from d6]at f |-;obtain⟨f1,_⟩:=HG.o X D.1;obtain⟨c4,_⟩:=f1 4 _ rfl;clear f1;go_simp;exact f.out _ X rfl M D
   .go_simp;exact f.out _ X rfl M D
   .have d8:=J ⟨8,.data⟩ (by simp) (by rfl);rw[show x 8=.int .i64 k from d8]at f |-;go_simp;exact f.out _ X rfl M D
   .have d7:=J ⟨7,.data⟩ (by simp) (by rfl);have d9:=J ⟨9,.data⟩ (by simp) (by rfl);rw[show x 7=.slice (some ⟨g,0,none⟩) I.length tc from d7,show x 9=.int .i64 ((k:Int)+1)from d9]at f |-;have yO:I.length<=tc/\tc<=maxLen:=by
     rcases(HG.o X D.1).2.2 with⟨e,_⟩|⟨_,_,_,e,_,_,N,Q,_⟩
     .cases e
     .cases e;omega
    have vU:(zs.drop (k+1)).length=I.length -(k+1):=by rw[List.length_drop];omega
    rcases Hs (HG.o S (Below.refl _ _)).2 vS with⟨e,_⟩|⟨g2,cap,e,_,_,_,_,_,off,hA,xS⟩
    .cases e
    .cases e;unfold maxLen at yO;have vP:k+1<=tc:=by omega
     have vI:((k:Int)+1).toNat=k+1:=by omega
     have tL:(0:Int)<=(k:Int)+1:=by omega
     have vY:(k:Int)+1<=(I.length:Int):=by omega
     go_simp;try rw[hA]
     try rw[<-vU]
     exact f.out _ X ⟨off,_,rfl,xS⟩ M D
   .obtain⟨g6,c6,e6,h6⟩:=J ⟨5,.data⟩ (by simp) (by rfl);obtain⟨off,c0,e0,vO⟩:=J ⟨10,.data⟩ (by simp) (by rfl);rw[e6,e0]at f |-;obtain⟨g',c',X',zY,zM,yC⟩:=LR X S.heap.size _ (zs.take k) (zs.drop (k+1)) h6 (some ⟨g,off,none⟩) c0 (fun e=>by cases e) (fun A e j u hu=>by
     cases e;rw[Go.WideShapes.add_plain];exact(D.1.cell (p:=⟨g,off+j,none⟩) yB.2).trans (vO j u hu)) (fun z hz=>HZ.o z (List.mem_of_mem_drop hz)) (by simp;omega) (by simp;omega) D.2 (fun e=>by cases e) 23
    rw[show(zs.take k).length=k from by rw[List.length_take];omega,show k+(zs.drop (k+1)).length=I.length -1 from by rw[List.length_drop];omega]at zY zM;have zV:=D.2;have yY:Below S.heap.size X X':=(Below.refl _ _).grown yC zV (fun q hq=>(Ad h6 hq).1);refine CA (.tmp 98) (.tmp 103) 23 rfl rfl rfl zY ?_;exact f.out _ X' ⟨g',c',rfl,zM⟩ ⟨yY,fun _ h=>absurd rfl h⟩ ⟨D.1.trans yY,Zm zV yC.size⟩
   .go_simp;exact f.out _ X rfl M D
  .intro L x X hL D o K f;simp only[Bb,Act.put,Zq,Zp,Zo];obtain⟨g',c',e1,ho⟩:=o 11 (by decide) (fun j=>by simp);have d:=o 12 (by decide) (fun j=>by simp);obtain⟨hB,_⟩:=HG.o X D.1;have tJ:=Ad ho (g:=g') rfl;have HE:Hid (DD w b a n c p 40 q (X.setCell ⟨q,4,none⟩ (.slice (some ⟨g',0,none⟩) (I.length -1) c'))):=by
    have ht:=Bd X q 4 (.slice (some ⟨g',0,none⟩) (I.length -1) c');have hS:=(B.o.N.below D.1).aj (T':=.slice (some ⟨g',0,none⟩) (I.length -1) c') (Tn.of (Below.refl _ _)) ⟨ho.mono (by omega),fun e=>by simp[Value.ownBlock]at e;omega⟩ (fun z hz=> .inl (by rcases List.mem_append.1 hz with h|h;exact List.mem_of_mem_take h;exact List.mem_of_mem_drop h)) (by simp;omega)
    have hZ:=Aa.below (v:=.int .i64 0) B.o.z D.1;exact⟨⟨_,_,_,_,_,_,_,_,_,_,hB.set 4 _,hS.I ht (by simp)⟩,Aa.same hZ (ht.block _ hZ.lt (by simp;omega)),⟨p1,(B.o.rd.below D.1).I ht (by simp;omega) (by simp;omega),by omega,by omega⟩,CY (Am B.o.gr (Ae _ D.1)) ht (by simp;omega)⟩
   obtain⟨y4,f4⟩:=hB 4 _ rfl;have xN:=hB.lt;rw[e1,show x 12=.pointer (some ⟨q,4,none⟩)from d];clear o hB HG B HQ ho D;go_simp;refine f.out _ _ ?_;clear f K;go_wp2;go_meet;exact HE
 .have HF:Hid (∀X,S.grownBy X (some b)->Aa X q [.int .i64 sw,.int .i64 now,.int .i64 H,.int .i64 G,.slice (some ⟨g,0,none⟩) I.length tc,.slice (some ⟨U,0,none⟩) R.length zC,.slice (some ⟨Z,0,none⟩) O.length zA]/\BF X (w.heap.size+2) q (.slice (some ⟨g,0,none⟩) I.length tc) (.slice (some ⟨U,0,none⟩) R.length zC) (.slice (some ⟨Z,0,none⟩) O.length zA) zs R O):=fun X hX=>⟨B.o.box.aw hX (by omega),B.o.N.I (Tn.grown (V:=[b]) hX (by simp)) (by simp;omega)⟩
  have vQ:=Ad B.o.N.p.o (g:=U) rfl;have xT:U≠q:=fun e=>B.o.N.p.q (by rw[e];rfl);have vR:g≠U:=fun e=>by obtain⟨c1,N⟩:=Ch B.o.N.t.o (g:=g) rfl;obtain⟨c2,Q⟩:=Ch B.o.N.p.o (g:=U) rfl;rw[e,Q]at N;cases N
  have HG:Hid (∀X,Tn [b,U] S X->Aa X q [.int .i64 sw,.int .i64 now,.int .i64 H,.int .i64 G,.slice (some ⟨g,0,none⟩) I.length tc,.slice (some ⟨U,0,none⟩) R.length zC,.slice (some ⟨Z,0,none⟩) O.length zA]/\Aa X (w.heap.size+1) z7/\X.cell? ⟨w.heap.size,0,none⟩=some (.int .i64 sw)):=fun X hX=>⟨Aa.same B.o.box (hX.block _ B.o.box.lt (by simp;omega)),Aa.same B.o.z (hX.block _ B.o.z.lt (by simp;omega)),(World.cell?_of_block (a:=⟨w.heap.size,0,none⟩) (hX.block w.heap.size (by omega) (by simp;omega))).trans HQ.o⟩
  have hn:=B.o.N.w.pn;have yW:R.length<=100:=xX.o;go_upto_region 23 with fail
  refine BS [108,109,110,111,112,113,114,115,116,117,118,119,120,121] 14 rfl _ rfl (by kernel_rfl) (by kernel_rfl) (by kernel_rfl) (by kernel_rfl) (by kernel_rfl) (by decide) (by kernel_rfl) [] (by kernel_rfl) (fun L X=>(∃F,AE X b a n c F/\p1<=F/\F<=p1+2/\(L 4=false->F=p1))/\Tn [b,U] S X/\(L 12=false->S.grownBy X (some b))) (fun i X v=>match i with
   |0=>v=.pointer (some ⟨q,5,none⟩)
   |1=>v=.slice (some ⟨U,0,none⟩) R.length zC
   |2=>∃E,v=.slice (some ⟨E,0,none⟩) 4 4/\E≠b/\E≠U/\Aa X E [.string ⟨#[112]⟩,.string ⟨#[122]⟩,.string ⟨#[]⟩,.string ⟨#[120,32,121]⟩]
   |3=>v=.pointer (some ⟨b,0,none⟩)
   |4=>∃j:Nat,v=.int .i64 j/\j<4
   |5=>∃E j',v=.pointer (some ⟨E,j',none⟩)/\E≠b/\E≠U/\E<X.heap.size/\∃s:Zi,s.size<=3/\X.cell? ⟨E,j',none⟩=some (.string s)
   |6=>∃s:Zi,v=.string s/\s.size<=3
   |7=>v=.pointer (some ⟨w.heap.size,0,none⟩)
   |8=>v=.int .i64 sw
   |9=>∃s:Zi,v=.string s/\s.size<=maxLen
   |10=>∃s u:Zi,v=.agg #[.string s,.string u]/\s.size<=3/\u.size<=maxLen
   |11=>∃E,v=.slice (some ⟨E,0,none⟩) 1 1/\E≠b/\E≠U/\∃s u:Zi,s.size<=3/\u.size<=maxLen/\Aa X E [.string s,.string u]
   |12=>∃g' c' y,v=.slice (some ⟨g',0,none⟩) (R.length+1) c'/\BF X (w.heap.size+2) q (.slice (some ⟨g,0,none⟩) I.length tc) (.slice (some ⟨g',0,none⟩) (R.length+1) c') (.slice (some ⟨Z,0,none⟩) O.length zA) zs (R++[y]) O
   |13=>v=.pointer (some ⟨q,5,none⟩)
   |_=>True) (fun j X Y=>Tn [b,U] X Y/\(j≠12->X.grownBy Y (some b))) ?_ ⟨⟨p1,B.o.rd.drew,by omega,by omega,fun _=>rfl⟩,Tn.of (Below.refl _ _).drew,fun _=>⟨rfl,rfl,rfl,Zx,fun _ _ _=>rfl⟩⟩ ?_ ?_
  .intro j i X Y v zX yD yJ hE o;rcases i with _|_|_|_|_|_|_|_|_|_|_|_|_|_|_
   .exact o
   .exact o
   .obtain⟨E,e,N,h0,Q⟩:=o;exact⟨E,e,N,h0,Aa.same Q (hE.1.block _ Q.lt (by simp;exact⟨N,h0⟩))⟩
   .exact o
   .exact o
   .obtain⟨E,j',e,N,h0,Q,s,h3,h4⟩:=o;exact⟨E,j',e,N,h0,Zr Q hE.1.size,s,h3,(World.cell?_of_block (a:=⟨E,j',none⟩) (hE.1.block E Q (by simp;exact⟨N,h0⟩))).trans h4⟩
   .exact o
   .exact o
   .exact o
   .exact o
   .exact o
   .obtain⟨E,e,N,h0,s,u,hs,hu,Q⟩:=o;exact⟨E,e,N,h0,s,u,hs,hu,Aa.same Q (hE.1.block _ Q.lt (by simp;exact⟨N,h0⟩))⟩
   .obtain⟨g',c',y,e,N⟩:=o;exact⟨g',c',y,e,N.I (Tn.grown (V:=[b]) (hE.2 (fun e=>zX e)) (by simp)) (by simp;omega)⟩
   .exact o
   .trivial
  .intro i o' L x X hi ho hL hD D J K f;have M:Tn [b,U] X X/\(i≠12->X.grownBy X (some b)):=⟨Tn.of (Below.refl _ _),fun _=>AK _ _⟩
   have C:i≠4->i≠12->∀Y,Zz X Y->(∃F,AE Y b a n c F/\p1<=F/\F<=p1+2/\(Bn L i 4=false->F=p1))/\Tn [b,U] S Y/\(Bn L i 12=false->S.grownBy Y (some b)):=fun h6 h7 Y hY=>⟨D.1.imp (fun F h=>⟨h.1.below hY,h.2.1,h.2.2.1,fun h9=>h.2.2.2 (by unfold Bn at h9;rw[if_neg (Ne.symm h6)]at h9;exact h9)⟩),D.2.1.trans (Tn.of hY),fun h9=>Am (D.2.2 (by unfold Bn at h9;rw[if_neg (Ne.symm h7)]at h9;exact h9)) (Ae _ hY)⟩
   rcases(show i=0\/i=1\/i=2\/i=3\/i=4\/i=5\/i=6\/i=7\/i=8\/i=9\/i=10\/i=11\/i=12\/i=13 by omega)with rfl|rfl|rfl|rfl|rfl|rfl|rfl|rfl|rfl|rfl|rfl|rfl|rfl|rfl<;>cases ho<;>simp only[Bb,Act.put,Zq,Zp,Zo]at f |-
   .go_simp;exact f.out _ X rfl M (C (by omega) (by omega) X (Below.refl _ _))
   .have d0:=J ⟨0,.data⟩ (by simp) (by rfl);rw[show x 0=.pointer (some ⟨q,5,none⟩)from d0]at f |-;obtain⟨f1,_⟩:=HG.o X D.2.1;obtain⟨c4,_⟩:=f1 5 _ rfl;clear f1;go_simp;exact f.out _ X rfl M (C (by omega) (by omega) X (Below.refl _ _))
   .have hA:Below X.heap.size X (X.alloc (.cells #[.string ⟨#[112]⟩,.string ⟨#[122]⟩,.string ⟨#[]⟩,.string ⟨#[120,32,121]⟩] 9)):=Zy;have yT:=D.2.1.size;go_simp;exact f.out _ _ ⟨X.heap.size,rfl,by omega,by omega,Aa.new X _ _⟩ ⟨Tn.of hA,fun _=>Ae _ hA⟩ (C (by omega) (by omega) _ hA)
   .go_simp;exact f.out _ X rfl M (C (by omega) (by omega) X (Below.refl _ _))
   .have d:=J ⟨3,.data⟩ (by simp) (by rfl);rw[show x 3=.pointer (some ⟨b,0,none⟩)from d]at f |-;obtain⟨⟨F,zG,zT,zU,zJ⟩,zB,yW⟩:=D;have xC:=zJ hL;go_simp;refine(AU b a n c F 4 X zG (by omega) (by omega) (by omega) (by omega)).mono ?_;rintro e X' ⟨y,rfl,y0,y1,zN,zH⟩;have zP:Tn [b,U] X X':=Tn.grown zH (by simp)
    exact f.out _ X' ⟨y.toNat,by congr 1;omega,by omega⟩ ⟨zP,fun _=>zH⟩ ⟨⟨F+1,zN,by omega,by omega,fun h=>by unfold Bn at h;simp at h⟩,zB.trans zP,fun h=>Am (yW (by unfold Bn at h;rw[if_neg (by omega)]at h;exact h)) zH⟩
   .obtain⟨E,e1,N,h0,Q⟩:=J ⟨2,.data⟩ (by simp) (by rfl);obtain⟨j,e2,h3⟩:=J ⟨4,.data⟩ (by simp) (by rfl);rw[e1,e2]at f |-;obtain⟨s,hs,h4⟩:=Pt Q (by intro i hi;simp at hi;rcases(show i=0\/i=1\/i=2\/i=3 by omega)with rfl|rfl|rfl|rfl<;>first|exact⟨_,by decide,rfl⟩|omega) (j:=j) (by simp;omega);have h5:=Q.lt;have h6:(j:Int)<4:=by omega
    clear Q;go_simp;exact f.out _ X ⟨E,j,rfl,N,h0,h5,s,hs,h4⟩ M (C (by omega) (by omega) X (Below.refl _ _))
   .obtain⟨E,j',e1,N,h0,Q,s,hs,h3⟩:=J ⟨5,.data⟩ (by simp) (by rfl);rw[e1]at f |-;go_simp;exact f.out _ X ⟨s,rfl,hs⟩ M (C (by omega) (by omega) X (Below.refl _ _))
   .go_simp;exact f.out _ X rfl M (C (by omega) (by omega) X (Below.refl _ _))
   .have d7:=J ⟨7,.data⟩ (by simp) (by rfl);rw[show x 7=.pointer (some ⟨w.heap.size,0,none⟩)from d7]at f |-;obtain⟨_,_,c0⟩:=HG.o X D.2.1;go_simp;exact f.out _ X rfl M (C (by omega) (by omega) X (Below.refl _ _))
   .have d:=J ⟨8,.data⟩ (by simp) (by rfl);rw[show x 8=.int .i64 sw from d]at f |-;go_simp;refine(Ve _ sw X (by decide)).mono ?_;rintro e X' ⟨u,rfl,hu,xI⟩;exact f.out _ X' ⟨u,rfl,hu⟩ ⟨Tn.of xI,fun _=>Ae _ xI⟩ (C (by omega) (by omega) _ xI)
   .obtain⟨s,e1,hs⟩:=J ⟨6,.data⟩ (by simp) (by rfl);obtain⟨u,e2,hu⟩:=J ⟨9,.data⟩ (by simp) (by rfl);rw[e1,e2]at f |-;go_simp;exact f.out _ X ⟨s,u,rfl,hs,hu⟩ M (C (by omega) (by omega) X (Below.refl _ _))
   .obtain⟨s,u,e1,hs,hu⟩:=J ⟨10,.data⟩ (by simp) (by rfl);rw[e1]at f |-;have hA:Below X.heap.size X (X.alloc (.cells #[.string s,.string u] 58)):=Zy;have yT:=D.2.1.size;go_simp;exact f.out _ _ ⟨X.heap.size,rfl,by omega,by omega,s,u,hs,hu,Aa.new X _ _⟩ ⟨Tn.of hA,fun _=>Ae _ hA⟩ (C (by omega) (by omega) _ hA)
   .have d:=J ⟨1,.data⟩ (by simp) (by rfl);obtain⟨E,e1,N,h0,s,u,hs,hu,Q⟩:=J ⟨11,.data⟩ (by simp) (by rfl);rw[show x 1=.slice (some ⟨U,0,none⟩) R.length zC from d,e1]at f |-;have hS:=(HF.o X (D.2.2 hL)).2;have vD:=D.2.1.size;obtain⟨g',c',X',zY,zM,yC,yU⟩:=TF X (w.heap.size+2) _ R ⟨s,u⟩ hS.p.o E Q (by omega) (by omega) 24;have yQ:X.grownBy X' (some U):=yC;have yH:Tn [U] X X':=Tn.grown yQ (by simp)
    have zP:Tn [b,U] X X':=yH.mono (by simp);have xL:(Value.slice (some ⟨g',0,none⟩) (R.length+1) c').ownBlock≠some q:=fun e=>by simp[Value.ownBlock]at yU e;rcases yU with h|h<;>omega
    have hm:(10:Nat)<=maxLen:=by unfold maxLen;omega
    have xH:=hS.pins yH ⟨zM,xL⟩ (fun p hp=>by rcases List.mem_append.1 hp with h|h;exact .inl h;rw[List.mem_singleton.1 h];exact .inr ⟨by simp only;omega,hu⟩) (by rw[List.length_append];simp;omega);refine CA (.tmp 109) (.tmp 119) 24 rfl rfl rfl zY ?_
    exact f.out _ X' ⟨g',c',⟨s,u⟩,rfl,xH⟩ ⟨zP,fun h=>absurd rfl h⟩ ⟨D.1.imp (fun F h=>⟨h.1.I yH (by simp;omega) (by simp;omega),h.2.1,h.2.2.1,fun h9=>h.2.2.2 (by unfold Bn at h9;rw[if_neg (by omega)]at h9;exact h9)⟩),D.2.1.trans zP,fun h=>by unfold Bn at h;simp at h⟩
   .go_simp;exact f.out _ X rfl M (C (by omega) (by omega) X (Below.refl _ _))
  .intro L x X hL D o K f;simp only[Bb,Act.put,Zq,Zp,Zo];obtain⟨g',c',y,e1,hS⟩:=o 12 (by decide) (fun j=>by simp);have d:=o 13 (by decide) (fun j=>by simp);obtain⟨⟨F,zG,zT,zU,zJ⟩,zB,_⟩:=D;obtain⟨hB,hZ,_⟩:=HG.o X zB;have HE:Hid (DD w b a n c p 40 q (X.setCell ⟨q,5,none⟩ (.slice (some ⟨g',0,none⟩) (R.length+1) c'))):=by
    have ht:=Bd X q 5 (.slice (some ⟨g',0,none⟩) (R.length+1) c');refine⟨⟨_,_,_,_,_,_,_,_,_,_,hB.set 5 _,hS.I ht (by simp)⟩,Aa.same hZ (ht.block _ hZ.lt (by simp;omega)),⟨F,zG.I ht (by simp;omega) (by simp;omega),by omega,by omega⟩,CY (CY B.o.gr zB (by simp;omega)) ht (by simp;omega)⟩
   obtain⟨y5,f5⟩:=hB 5 _ rfl;have xN:=hB.lt;rw[e1,show x 13=.pointer (some ⟨q,5,none⟩)from d];clear o hS hB hZ HF HG B HQ;go_simp;refine f.out _ _ ?_;clear f K;go_wp2;go_meet;exact HE
 .by_cases hz:I.length=0
  .have zR:¬(0:Int)<(I.length:Int):=by omega
   clear hz hk;have HE:Hid (DD w b a n c p 40 q S):=B.o.same.more (by omega) (by omega);obtain⟨v4,_⟩:=B.o.box 4 _ rfl;clear B HQ;go_wp2;go_meet;exact HE
  have zR:(0:Int)<(I.length:Int):=by omega
  have yV:k<I.length:=by omega
  have yE:k<zs.length:=by rw[zS.o.2];exact yV
  have yP:=Zv yE
  have HF:Hid (∀X,S.grownBy X (some b)->Aa X q [.int .i64 sw,.int .i64 now,.int .i64 H,.int .i64 G,.slice (some ⟨g,0,none⟩) I.length tc,.slice (some ⟨U,0,none⟩) R.length zC,.slice (some ⟨Z,0,none⟩) O.length zA]/\BF X (w.heap.size+2) q (.slice (some ⟨g,0,none⟩) I.length tc) (.slice (some ⟨U,0,none⟩) R.length zC) (.slice (some ⟨Z,0,none⟩) O.length zA) zs R O):=fun X hX=>⟨B.o.box.aw hX (by omega),B.o.N.I (Tn.grown (V:=[b]) hX (by simp)) (by simp;omega)⟩
  have vQ:=Ad B.o.N.p.o (g:=U) rfl;have xT:U≠q:=fun e=>B.o.N.p.q (by rw[e];rfl);have vR:g≠U:=fun e=>by obtain⟨c1,N⟩:=Ch B.o.N.t.o (g:=g) rfl;obtain⟨c2,Q⟩:=Ch B.o.N.p.o (g:=U) rfl;rw[e,Q]at N;cases N
  have HG:Hid (∀X,Tn [b,U] S X->Aa X q [.int .i64 sw,.int .i64 now,.int .i64 H,.int .i64 G,.slice (some ⟨g,0,none⟩) I.length tc,.slice (some ⟨U,0,none⟩) R.length zC,.slice (some ⟨Z,0,none⟩) O.length zA]/\Aa X (w.heap.size+1) z7/\X.cell? ⟨w.heap.size,0,none⟩=some (.int .i64 sw)):=fun X hX=>⟨Aa.same B.o.box (hX.block _ B.o.box.lt (by simp;omega)),Aa.same B.o.z (hX.block _ B.o.z.lt (by simp;omega)),(World.cell?_of_block (a:=⟨w.heap.size,0,none⟩) (hX.block w.heap.size (by omega) (by simp;omega))).trans HQ.o⟩
  have hn:=B.o.N.w.pn;have yW:R.length<=100:=xX.o;have HC:Hid (∀X,Tn [b,U] S X->∃s:Zi,s.size<=maxLen/\X.cell? ⟨g,k *4,none⟩=some (.string s)):=fun X hX=>by have ho:=B.o.N.t.o;have vW:=Ad ho (g:=g) rfl;rw[zS.o.2]at ho;have c0:=ho.cellAt (k *4+0) (by omega);rw[Cd Ce yP (show 0<4 by decide)]at c0;exact⟨zs[k].1.sum,(B.o.N.w.k _ (List.mem_map.2 ⟨_,List.getElem_mem yE,rfl⟩)).s,(World.cell?_of_block (a:=⟨g,k *4,none⟩) (hX.block _ vW.2 (by simp;omega))).trans c0⟩
  obtain⟨v4,_⟩:=B.o.box 4 _ rfl;clear yP;go_upto_region 26 with fail;try rw[decide_eq_true (show 0<I.length by omega)]
  clear v4;refine BS [128,129,130,131,132,133,134,135,136,137,138,139,140,141,142,143,144] 17 rfl _ rfl (by kernel_rfl) (by kernel_rfl) (by kernel_rfl) (by kernel_rfl) (by kernel_rfl) (by decide) (by kernel_rfl) [] (by kernel_rfl) (fun L X=>(∃F,AE X b a n c F/\p1<=F/\F<=p1+2/\(L 4=false->F=p1))/\Tn [b,U] S X/\(L 15=false->S.grownBy X (some b))) (fun i X v=>match i with
   |0=>v=.pointer (some ⟨q,5,none⟩)
   |1=>v=.slice (some ⟨U,0,none⟩) R.length zC
   |2=>∃E,v=.slice (some ⟨E,0,none⟩) 2 2/\E≠b/\E≠U/\Aa X E [.string ⟨#[97]⟩,.string ⟨#[122]⟩]
   |3=>v=.pointer (some ⟨b,0,none⟩)
   |4=>∃j:Nat,v=.int .i64 j/\j<2
   |5=>∃E j',v=.pointer (some ⟨E,j',none⟩)/\E≠b/\E≠U/\E<X.heap.size/\∃s:Zi,s.size<=3/\X.cell? ⟨E,j',none⟩=some (.string s)
   |6=>∃s:Zi,v=.string s/\s.size<=3
   |7=>v=.pointer (some ⟨q,4,none⟩)
   |8=>v=.slice (some ⟨g,0,none⟩) I.length tc
   |9=>v=.int .i64 k
   |10=>v=.pointer (some ⟨g,k *4,none⟩)
   |11=>v=.pointer (some ⟨g,k *4,none⟩)
   |12=>∃s:Zi,v=.string s/\s.size<=maxLen
   |13=>∃s u:Zi,v=.agg #[.string s,.string u]/\s.size<=3/\u.size<=maxLen
   |14=>∃E,v=.slice (some ⟨E,0,none⟩) 1 1/\E≠b/\E≠U/\∃s u:Zi,s.size<=3/\u.size<=maxLen/\Aa X E [.string s,.string u]
   |15=>∃g' c' y,v=.slice (some ⟨g',0,none⟩) (R.length+1) c'/\BF X (w.heap.size+2) q (.slice (some ⟨g,0,none⟩) I.length tc) (.slice (some ⟨g',0,none⟩) (R.length+1) c') (.slice (some ⟨Z,0,none⟩) O.length zA) zs (R++[y]) O
   |16=>v=.pointer (some ⟨q,5,none⟩)
   |_=>True) (fun j X Y=>Tn [b,U] X Y/\(j≠15->X.grownBy Y (some b))) ?_ ⟨⟨p1,B.o.rd.drew,by omega,by omega,fun _=>rfl⟩,Tn.of (Below.refl _ _).drew,fun _=>⟨rfl,rfl,rfl,Zx,fun _ _ _=>rfl⟩⟩ ?_ ?_
  .intro j i X Y v zX yD yJ hE o;rcases i with _|_|_|_|_|_|_|_|_|_|_|_|_|_|_|_|_|_
   .exact o
   .exact o
   .obtain⟨E,e,N,h0,Q⟩:=o;exact⟨E,e,N,h0,Aa.same Q (hE.1.block _ Q.lt (by simp;exact⟨N,h0⟩))⟩
   .exact o
   .exact o
   .obtain⟨E,j',e,N,h0,Q,s,h3,h4⟩:=o;exact⟨E,j',e,N,h0,Zr Q hE.1.size,s,h3,(World.cell?_of_block (a:=⟨E,j',none⟩) (hE.1.block E Q (by simp;exact⟨N,h0⟩))).trans h4⟩
   .exact o
   .exact o
   .exact o
   .exact o
   .exact o
   .exact o
   .exact o
   .exact o
   .obtain⟨E,e,N,h0,s,u,hs,hu,Q⟩:=o;exact⟨E,e,N,h0,s,u,hs,hu,Aa.same Q (hE.1.block _ Q.lt (by simp;exact⟨N,h0⟩))⟩
   .obtain⟨g',c',y,e,N⟩:=o;exact⟨g',c',y,e,N.I (Tn.grown (V:=[b]) (hE.2 (fun e=>zX e)) (by simp)) (by simp;omega)⟩
   .exact o
   .trivial
  .intro i o' L x X hi ho hL hD D J K f;have M:Tn [b,U] X X/\(i≠15->X.grownBy X (some b)):=⟨Tn.of (Below.refl _ _),fun _=>AK _ _⟩
   have C:i≠4->i≠15->∀Y,Zz X Y->(∃F,AE Y b a n c F/\p1<=F/\F<=p1+2/\(Bn L i 4=false->F=p1))/\Tn [b,U] S Y/\(Bn L i 15=false->S.grownBy Y (some b)):=fun h6 h7 Y hY=>⟨D.1.imp (fun F h=>⟨h.1.below hY,h.2.1,h.2.2.1,fun h9=>h.2.2.2 (by unfold Bn at h9;rw[if_neg (Ne.symm h6)]at h9;exact h9)⟩),D.2.1.trans (Tn.of hY),fun h9=>Am (D.2.2 (by unfold Bn at h9;rw[if_neg (Ne.symm h7)]at h9;exact h9)) (Ae _ hY)⟩
   rcases(show i=0\/i=1\/i=2\/i=3\/i=4\/i=5\/i=6\/i=7\/i=8\/i=9\/i=10\/i=11\/i=12\/i=13\/i=14\/i=15\/i=16 by omega)with rfl|rfl|rfl|rfl|rfl|rfl|rfl|rfl|rfl|rfl|rfl|rfl|rfl|rfl|rfl|rfl|rfl<;>cases ho<;>simp only[Bb,Act.put,Zq,Zp,Zo]at f |-
   .go_simp;exact f.out _ X rfl M (C (by omega) (by omega) X (Below.refl _ _))
   .have d0:=J ⟨0,.data⟩ (by simp) (by rfl);rw[show x 0=.pointer (some ⟨q,5,none⟩)from d0]at f |-;obtain⟨f1,_⟩:=HG.o X D.2.1;obtain⟨c4,_⟩:=f1 5 _ rfl;clear f1;go_simp;exact f.out _ X rfl M (C (by omega) (by omega) X (Below.refl _ _))
   .have hA:Below X.heap.size X (X.alloc (.cells #[.string ⟨#[97]⟩,.string ⟨#[122]⟩] 9)):=Zy;have yT:=D.2.1.size;go_simp;exact f.out _ _ ⟨X.heap.size,rfl,by omega,by omega,Aa.new X _ _⟩ ⟨Tn.of hA,fun _=>Ae _ hA⟩ (C (by omega) (by omega) _ hA)
   .go_simp;exact f.out _ X rfl M (C (by omega) (by omega) X (Below.refl _ _))
   .have d:=J ⟨3,.data⟩ (by simp) (by rfl);rw[show x 3=.pointer (some ⟨b,0,none⟩)from d]at f |-;obtain⟨⟨F,zG,zT,zU,zJ⟩,zB,yW⟩:=D;have xC:=zJ hL;go_simp;refine(AU b a n c F 2 X zG (by omega) (by omega) (by omega) (by omega)).mono ?_;rintro e X' ⟨y,rfl,y0,y1,zN,zH⟩;have zP:Tn [b,U] X X':=Tn.grown zH (by simp)
    exact f.out _ X' ⟨y.toNat,by congr 1;omega,by omega⟩ ⟨zP,fun _=>zH⟩ ⟨⟨F+1,zN,by omega,by omega,fun h=>by unfold Bn at h;simp at h⟩,zB.trans zP,fun h=>Am (yW (by unfold Bn at h;rw[if_neg (by omega)]at h;exact h)) zH⟩
   .obtain⟨E,e1,N,h0,Q⟩:=J ⟨2,.data⟩ (by simp) (by rfl);obtain⟨j,e2,h3⟩:=J ⟨4,.data⟩ (by simp) (by rfl);rw[e1,e2]at f |-;obtain⟨s,hs,h4⟩:=Pt Q (by intro i hi;simp at hi;rcases(show i=0\/i=1\/i=2\/i=3 by omega)with rfl|rfl|rfl|rfl<;>first|exact⟨_,by decide,rfl⟩|omega) (j:=j) (by simp;omega);have h5:=Q.lt;have h6:(j:Int)<2:=by omega
    clear Q;go_simp;exact f.out _ X ⟨E,j,rfl,N,h0,h5,s,hs,h4⟩ M (C (by omega) (by omega) X (Below.refl _ _))
   .obtain⟨E,j',e1,N,h0,Q,s,hs,h3⟩:=J ⟨5,.data⟩ (by simp) (by rfl);rw[e1]at f |-;go_simp;exact f.out _ X ⟨s,rfl,hs⟩ M (C (by omega) (by omega) X (Below.refl _ _))
   .go_simp;exact f.out _ X rfl M (C (by omega) (by omega) X (Below.refl _ _))
   .have d7:=J ⟨7,.data⟩ (by simp) (by rfl);rw[show x 7=.pointer (some ⟨q,4,none⟩)from d7]at f |-;obtain⟨f1,_⟩:=HG.o X D.2.1;obtain⟨c4,_⟩:=f1 4 _ rfl;clear f1;go_simp;exact f.out _ X rfl M (C (by omega) (by omega) X (Below.refl _ _))
   .go_simp;exact f.out _ X rfl M (C (by omega) (by omega) X (Below.refl _ _))
   .have d8:=J ⟨8,.data⟩ (by simp) (by rfl);have d9:=J ⟨9,.data⟩ (by simp) (by rfl);rw[show x 8=.slice (some ⟨g,0,none⟩) I.length tc from d8,show x 9=.int .i64 k from d9]at f |-;go_simp;exact f.out _ X rfl M (C (by omega) (by omega) X (Below.refl _ _))
   .have xF:=J ⟨10,.data⟩ (by simp) (by rfl);rw[show x 10=.pointer (some ⟨g,k *4,none⟩)from xF]at f |-;go_simp;exact f.out _ X rfl M (C (by omega) (by omega) X (Below.refl _ _))
   .have d:=J ⟨11,.data⟩ (by simp) (by rfl);rw[show x 11=.pointer (some ⟨g,k *4,none⟩)from d]at f |-;obtain⟨s,hs,c0⟩:=HC.o X D.2.1;go_simp;exact f.out _ X ⟨s,rfl,hs⟩ M (C (by omega) (by omega) X (Below.refl _ _))
   .obtain⟨s,e1,hs⟩:=J ⟨6,.data⟩ (by simp) (by rfl);obtain⟨u,e2,hu⟩:=J ⟨12,.data⟩ (by simp) (by rfl);rw[e1,e2]at f |-;go_simp;exact f.out _ X ⟨s,u,rfl,hs,hu⟩ M (C (by omega) (by omega) X (Below.refl _ _))
   .obtain⟨s,u,e1,hs,hu⟩:=J ⟨13,.data⟩ (by simp) (by rfl);rw[e1]at f |-;have hA:Below X.heap.size X (X.alloc (.cells #[.string s,.string u] 58)):=Zy;have yT:=D.2.1.size;go_simp;exact f.out _ _ ⟨X.heap.size,rfl,by omega,by omega,s,u,hs,hu,Aa.new X _ _⟩ ⟨Tn.of hA,fun _=>Ae _ hA⟩ (C (by omega) (by omega) _ hA)
   .have d:=J ⟨1,.data⟩ (by simp) (by rfl);obtain⟨E,e1,N,h0,s,u,hs,hu,Q⟩:=J ⟨14,.data⟩ (by simp) (by rfl);rw[show x 1=.slice (some ⟨U,0,none⟩) R.length zC from d,e1]at f |-;have hS:=(HF.o X (D.2.2 hL)).2;have vD:=D.2.1.size;obtain⟨g',c',X',zY,zM,yC,yU⟩:=TF X (w.heap.size+2) _ R ⟨s,u⟩ hS.p.o E Q (by omega) (by omega) 24;have yQ:X.grownBy X' (some U):=yC;have yH:Tn [U] X X':=Tn.grown yQ (by simp)
    have zP:Tn [b,U] X X':=yH.mono (by simp);have xL:(Value.slice (some ⟨g',0,none⟩) (R.length+1) c').ownBlock≠some q:=fun e=>by simp[Value.ownBlock]at yU e;rcases yU with h|h<;>omega
    have hm:(10:Nat)<=maxLen:=by unfold maxLen;omega
    have xH:=hS.pins yH ⟨zM,xL⟩ (fun p hp=>by rcases List.mem_append.1 hp with h|h;exact .inl h;rw[List.mem_singleton.1 h];exact .inr ⟨by simp only;omega,hu⟩) (by rw[List.length_append];simp;omega);refine CA (.tmp 129) (.tmp 142) 24 rfl rfl rfl zY ?_
    exact f.out _ X' ⟨g',c',⟨s,u⟩,rfl,xH⟩ ⟨zP,fun h=>absurd rfl h⟩ ⟨D.1.imp (fun F h=>⟨h.1.I yH (by simp;omega) (by simp;omega),h.2.1,h.2.2.1,fun h9=>h.2.2.2 (by unfold Bn at h9;rw[if_neg (by omega)]at h9;exact h9)⟩),D.2.1.trans zP,fun h=>by unfold Bn at h;simp at h⟩
   .go_simp;exact f.out _ X rfl M (C (by omega) (by omega) X (Below.refl _ _))
  .intro L x X hL D o K f;simp only[Bb,Act.put,Zq,Zp,Zo];obtain⟨g',c',y,e1,hS⟩:=o 15 (by decide) (fun j=>by simp);have d:=o 16 (by decide) (fun j=>by simp);obtain⟨⟨F,zG,zT,zU,zJ⟩,zB,_⟩:=D;obtain⟨hB,hZ,_⟩:=HG.o X zB;have HE:Hid (DD w b a n c p 40 q (X.setCell ⟨q,5,none⟩ (.slice (some ⟨g',0,none⟩) (R.length+1) c'))):=by
    have ht:=Bd X q 5 (.slice (some ⟨g',0,none⟩) (R.length+1) c');refine⟨⟨_,_,_,_,_,_,_,_,_,_,hB.set 5 _,hS.I ht (by simp)⟩,Aa.same hZ (ht.block _ hZ.lt (by simp;omega)),⟨F,zG.I ht (by simp;omega) (by simp;omega),by omega,by omega⟩,CY (CY B.o.gr zB (by simp;omega)) ht (by simp;omega)⟩
   obtain⟨y5,f5⟩:=hB 5 _ rfl;have xN:=hB.lt;rw[e1,show x 16=.pointer (some ⟨q,5,none⟩)from d];clear o hS hB hZ HF HG B HQ;go_simp;refine f.out _ _ ?_;clear f K;go_wp2;go_meet;exact HE
 .by_cases hz:O.length=0
  .have zR:¬(0:Int)<(O.length:Int):=by omega
   clear hz;have HE:Hid (DD w b a n c p 40 q S):=B.o.same.more (by omega) (by omega);obtain⟨v4,_⟩:=B.o.box 6 _ rfl;clear B HQ;go_wp2;go_meet;exact HE
  have zR:(0:Int)<(O.length:Int):=by omega
  have xP:0<O.length:=by omega
  obtain⟨l0,lr,yL⟩:∃l0 lr,O=l0::lr:=by
   match O,hz with
   |[],hz=>exact absurd rfl hz
   |l0::lr,_=>exact⟨l0,lr,rfl⟩
  have vT:(l0::lr).length=O.length:=by rw[yL]
  have HF:Hid (∀X,S.grownBy X (some b)->Aa X q [.int .i64 sw,.int .i64 now,.int .i64 H,.int .i64 G,.slice (some ⟨g,0,none⟩) I.length tc,.slice (some ⟨U,0,none⟩) R.length zC,.slice (some ⟨Z,0,none⟩) O.length zA]/\BF X (w.heap.size+2) q (.slice (some ⟨g,0,none⟩) I.length tc) (.slice (some ⟨U,0,none⟩) R.length zC) (.slice (some ⟨Z,0,none⟩) O.length zA) zs R O):=fun X hX=>⟨B.o.box.aw hX (by omega),B.o.N.I (Tn.grown (V:=[b]) hX (by simp)) (by simp;omega)⟩
  have yS:Hid (∀X,BF X (w.heap.size+2) q (.slice (some ⟨g,0,none⟩) I.length tc) (.slice (some ⟨U,0,none⟩) R.length zC) (.slice (some ⟨Z,0,none⟩) O.length zA) zs R O->BF X (w.heap.size+2) q (.slice (some ⟨g,0,none⟩) I.length tc) (.slice (some ⟨U,0,none⟩) R.length zC) (.slice (some ⟨Z,0,none⟩) O.length zA) zs R (l0::lr)):=fun X h=>by rw[yL]at h |-;exact h
  have HC:Hid (∀X,S.grownBy X (some b)->(∃u,X.cell? ⟨Z,2,none⟩=some u)/\X.frozen? ⟨Z,2,none⟩=false/\Z<X.heap.size):=fun X hX=>by have ho:=(HF.o X hX).2.l.o;exact⟨Og ho 2 (by omega),JD ho _,(Ad ho (g:=Z) rfl).2⟩
  have yB:=(Ad B.o.N.l.o (g:=Z) rfl).1;have yK:Z≠q:=fun e=>B.o.N.l.q (by rw[e];rfl);obtain⟨v4,_⟩:=B.o.box 6 _ rfl;clear yL;go_upto_region 29 with fail;try rw[decide_eq_true (show 0<O.length by omega)]
  clear v4;refine BS [151,152,153,154,155,156,157,158,159,160,161,162] 12 rfl _ rfl (by kernel_rfl) (by kernel_rfl) (by kernel_rfl) (by kernel_rfl) (by kernel_rfl) (by decide) (by kernel_rfl) [] (by kernel_rfl) (fun L X=>(∃F,AE X b a n c F/\p1<=F/\F<=p1+2/\(L 6=false->F=p1))/\S.grownBy X (some b)) (fun i X v=>match i with
   |0=>v=.pointer (some ⟨q,6,none⟩)
   |1=>v=.slice (some ⟨Z,0,none⟩) O.length zA
   |2=>v=.pointer (some ⟨q,1,none⟩)
   |3=>v=.int .i64 now
   |4=>∃E,v=.slice (some ⟨E,0,none⟩) 4 4/\E≠b/\Aa X E [.int .i64 0,.int .i64 1,.int .i64 100000,.int .i64 100001]
   |5=>v=.pointer (some ⟨b,0,none⟩)
   |6=>∃j:Nat,v=.int .i64 j/\j<4
   |7=>∃E j',v=.pointer (some ⟨E,j',none⟩)/\E≠b/\E<X.heap.size/\∃y:Int,X.cell? ⟨E,j',none⟩=some (.int .i64 y)
   |8=>∃y:Int,v=.int .i64 y
   |9=>∃y:Int,v=.int .i64 y
   |10=>v=.pointer (some ⟨Z,0,none⟩)
   |11=>v=.pointer (some ⟨Z,2,none⟩)
   |_=>True) (fun _ X Y=>X.grownBy Y (some b)) ?_ ⟨⟨p1,B.o.rd.drew,by omega,by omega,fun _=>rfl⟩,⟨rfl,rfl,rfl,Zx,fun _ _ _=>rfl⟩⟩ ?_ ?_
  .intro j i X Y v zX yD yJ hE o;rcases i with _|_|_|_|_|_|_|_|_|_|_|_|_
   .exact o
   .exact o
   .exact o
   .exact o
   .obtain⟨E,e,N,Q⟩:=o;exact⟨E,e,N,Q.aw hE (Ne.symm N)⟩
   .exact o
   .exact o
   .obtain⟨E,j',e,N,Q,h3⟩:=o;obtain⟨y,h4⟩:=h3;exact⟨E,j',e,N,Zr Q hE.size,y,(World.cell?_of_block (a:=⟨E,j',none⟩) (hE.block E Q (fun e=>N (by injection e)))).trans h4⟩
   .exact o
   .exact o
   .exact o
   .exact o
   .trivial
  .intro i o' L x X hi ho hL hD D J K f;have M:X.grownBy X (some b):=AK _ _;have C:i≠6->∀Y,Zz X Y->(∃F,AE Y b a n c F/\p1<=F/\F<=p1+2/\(Bn L i 6=false->F=p1))/\S.grownBy Y (some b):=fun h6 Y hY=>⟨D.1.imp (fun F h=>⟨h.1.below hY,h.2.1,h.2.2.1,fun h9=>h.2.2.2 (by unfold Bn at h9;rw[if_neg (Ne.symm h6)]at h9;exact h9)⟩),Am D.2 (Ae _ hY)⟩
   rcases(show i=0\/i=1\/i=2\/i=3\/i=4\/i=5\/i=6\/i=7\/i=8\/i=9\/i=10\/i=11 by omega)with rfl|rfl|rfl|rfl|rfl|rfl|rfl|rfl|rfl|rfl|rfl|rfl<;>cases ho<;>simp only[Bb,Act.put,Zq,Zp,Zo]at f |-
   .go_simp;exact f.out _ X rfl M (C (by omega) X (Below.refl _ _))
   .have d0:=J ⟨0,.data⟩ (by simp) (by rfl);rw[show x 0=.pointer (some ⟨q,6,none⟩)from d0]at f |-;obtain⟨f1,_⟩:=HF.o X D.2;obtain⟨c4,_⟩:=f1 6 _ rfl;clear f1;go_simp;exact f.out _ X rfl M (C (by omega) X (Below.refl _ _))
   .go_simp;exact f.out _ X rfl M (C (by omega) X (Below.refl _ _))
   .have d2:=J ⟨2,.data⟩ (by simp) (by rfl);rw[show x 2=.pointer (some ⟨q,1,none⟩)from d2]at f |-;obtain⟨f1,_⟩:=HF.o X D.2;obtain⟨c4,_⟩:=f1 1 _ rfl;clear f1;go_simp;exact f.out _ X rfl M (C (by omega) X (Below.refl _ _))
   .have hA:Below X.heap.size X (X.alloc (.cells #[.int .i64 0,.int .i64 1,.int .i64 100000,.int .i64 100001] 3)):=Zy;have yT:=D.2.size;go_simp;exact f.out _ _ ⟨X.heap.size,rfl,by omega,Aa.new X _ _⟩ (Ae _ hA) (C (by omega) _ hA)
   .go_simp;exact f.out _ X rfl M (C (by omega) X (Below.refl _ _))
   .have d:=J ⟨5,.data⟩ (by simp) (by rfl);rw[show x 5=.pointer (some ⟨b,0,none⟩)from d]at f |-;obtain⟨⟨F,zG,zT,zU,zJ⟩,zB⟩:=D;have xC:=zJ hL;go_simp;refine(AU b a n c F 4 X zG (by omega) (by omega) (by omega) (by omega)).mono ?_;rintro e X' ⟨y,rfl,y0,y1,zN,zH⟩;exact f.out _ X' ⟨y.toNat,by congr 1;omega,by omega⟩ zH ⟨⟨F+1,zN,by omega,by omega,fun h=>by unfold Bn at h;simp at h⟩,Am zB zH⟩
   .obtain⟨E,e1,N,Q⟩:=J ⟨4,.data⟩ (by simp) (by rfl);obtain⟨j,e2,h3⟩:=J ⟨6,.data⟩ (by simp) (by rfl);rw[e1,e2]at f |-;obtain⟨y,h4⟩:=Hu Q (by simp) (j:=j) (by simp;omega);have h5:=Q.lt;have h6:(j:Int)<4:=by omega
    clear Q;go_simp;exact f.out _ X ⟨E,j,rfl,N,h5,y,h4⟩ M (C (by omega) X (Below.refl _ _))
   .obtain⟨E,j',e1,N,Q,y,h3⟩:=J ⟨7,.data⟩ (by simp) (by rfl);rw[e1]at f |-;go_simp;exact f.out _ X ⟨y,rfl⟩ M (C (by omega) X (Below.refl _ _))
   .have d3:=J ⟨3,.data⟩ (by simp) (by rfl);obtain⟨y,e1⟩:=J ⟨8,.data⟩ (by simp) (by rfl);rw[show x 3=.int .i64 now from d3,e1]at f |-;go_simp;exact f.out _ X ⟨_,rfl⟩ M (C (by omega) X (Below.refl _ _))
   .have d1:=J ⟨1,.data⟩ (by simp) (by rfl);rw[show x 1=.slice (some ⟨Z,0,none⟩) O.length zA from d1]at f |-;go_simp;exact f.out _ X rfl M (C (by omega) X (Below.refl _ _))
   .have xF:=J ⟨10,.data⟩ (by simp) (by rfl);rw[show x 10=.pointer (some ⟨Z,0,none⟩)from xF]at f |-;go_simp;exact f.out _ X rfl M (C (by omega) X (Below.refl _ _))
  .intro L x X hL D o K f;simp only[Bb,Act.put,Zq,Zp,Zo];obtain⟨y,e1⟩:=o 9 (by decide) (fun j=>by simp);have d:=o 11 (by decide) (fun j=>by simp);obtain⟨⟨F,zG,zT,zU,zJ⟩,zB⟩:=D;obtain⟨⟨u,c1⟩,f1,xK⟩:=HC.o X zB;have hI:=B.o.go zB zG zE;have HE:Hid (DD w b a n c p 40 q (X.setCell ⟨Z,2,none⟩ (.int .i64 y))):=(hI.rows zE (Bd X Z _ _) yB yK ((yS.o X hI.N).iq y).1).more (by omega) (by omega)
   rw[e1,show x 11=.pointer (some ⟨Z,2,none⟩)from d];clear o hI HF HC B yS;go_simp;refine f.out _ _ ?_;clear f K;go_wp2;go_meet;exact HE
 .by_cases hz:O.length=0
  .have zR:¬(0:Int)<(O.length:Int):=by omega
   clear hz;have HE:Hid (DD w b a n c p 40 q S):=B.o.same.more (by omega) (by omega);obtain⟨v4,_⟩:=B.o.box 6 _ rfl;clear B HQ;go_wp2;go_meet;exact HE
  have zR:(0:Int)<(O.length:Int):=by omega
  have xP:0<O.length:=by omega
  obtain⟨l0,lr,yL⟩:∃l0 lr,O=l0::lr:=by
   match O,hz with
   |[],hz=>exact absurd rfl hz
   |l0::lr,_=>exact⟨l0,lr,rfl⟩
  have vT:(l0::lr).length=O.length:=by rw[yL]
  have HF:Hid (∀X,S.grownBy X (some b)->Aa X q [.int .i64 sw,.int .i64 now,.int .i64 H,.int .i64 G,.slice (some ⟨g,0,none⟩) I.length tc,.slice (some ⟨U,0,none⟩) R.length zC,.slice (some ⟨Z,0,none⟩) O.length zA]/\BF X (w.heap.size+2) q (.slice (some ⟨g,0,none⟩) I.length tc) (.slice (some ⟨U,0,none⟩) R.length zC) (.slice (some ⟨Z,0,none⟩) O.length zA) zs R O):=fun X hX=>⟨B.o.box.aw hX (by omega),B.o.N.I (Tn.grown (V:=[b]) hX (by simp)) (by simp;omega)⟩
  have yS:Hid (∀X,BF X (w.heap.size+2) q (.slice (some ⟨g,0,none⟩) I.length tc) (.slice (some ⟨U,0,none⟩) R.length zC) (.slice (some ⟨Z,0,none⟩) O.length zA) zs R O->BF X (w.heap.size+2) q (.slice (some ⟨g,0,none⟩) I.length tc) (.slice (some ⟨U,0,none⟩) R.length zC) (.slice (some ⟨Z,0,none⟩) O.length zA) zs R (l0::lr)):=fun X h=>by rw[yL]at h |-;exact h
  have HC:Hid (∀X,S.grownBy X (some b)->(∃u,X.cell? ⟨Z,0,none⟩=some u)/\X.frozen? ⟨Z,0,none⟩=false/\Z<X.heap.size):=fun X hX=>by have ho:=(HF.o X hX).2.l.o;exact⟨Og ho 0 (by omega),JD ho _,(Ad ho (g:=Z) rfl).2⟩
  have yB:=(Ad B.o.N.l.o (g:=Z) rfl).1;have yK:Z≠q:=fun e=>B.o.N.l.q (by rw[e];rfl);obtain⟨v4,_⟩:=B.o.box 6 _ rfl;clear yL;go_upto_region 32 with fail;try rw[decide_eq_true (show 0<O.length by omega)]
  clear v4;refine BS [169,170,171,172,173,174,175,176,177,178,179,180,181,182] 14 rfl _ rfl (by kernel_rfl) (by kernel_rfl) (by kernel_rfl) (by kernel_rfl) (by kernel_rfl) (by decide) (by kernel_rfl) [] (by kernel_rfl) (fun L X=>(∃F,AE X b a n c F/\p1<=F/\F<=p1+2/\(L 9=false->F=p1))/\S.grownBy X (some b)) (fun i X v=>match i with
   |0=>v=.pointer (some ⟨q,6,none⟩)
   |1=>v=.slice (some ⟨Z,0,none⟩) O.length zA
   |2=>v=.pointer (some ⟨q,2,none⟩)
   |3=>v=.int .i64 H
   |4=>v=.pointer (some ⟨q,2,none⟩)
   |5=>v=.int .i64 H
   |6=>∃y:Int,v=.int .i64 y
   |7=>∃E,v=.slice (some ⟨E,0,none⟩) 3 3/\E≠b/\∃y,Aa X E [.int .i64 0,.int .i64 H,.int .i64 y]
   |8=>v=.pointer (some ⟨b,0,none⟩)
   |9=>∃j:Nat,v=.int .i64 j/\j<3
   |10=>∃E j',v=.pointer (some ⟨E,j',none⟩)/\E≠b/\E<X.heap.size/\∃y:Int,X.cell? ⟨E,j',none⟩=some (.int .i64 y)
   |11=>∃y:Int,v=.int .i64 y
   |12=>v=.pointer (some ⟨Z,0,none⟩)
   |13=>v=.pointer (some ⟨Z,0,none⟩)
   |_=>True) (fun _ X Y=>X.grownBy Y (some b)) ?_ ⟨⟨p1,B.o.rd.drew,by omega,by omega,fun _=>rfl⟩,⟨rfl,rfl,rfl,Zx,fun _ _ _=>rfl⟩⟩ ?_ ?_
  .intro j i X Y v zX yD yJ hE o;rcases i with _|_|_|_|_|_|_|_|_|_|_|_|_|_|_
   .exact o
   .exact o
   .exact o
   .exact o
   .exact o
   .exact o
   .exact o
   .obtain⟨E,e,N,y,Q⟩:=o;exact⟨E,e,N,y,Q.aw hE (Ne.symm N)⟩
   .exact o
   .exact o
   .obtain⟨E,j',e,N,Q,h3⟩:=o;obtain⟨y,h4⟩:=h3;exact⟨E,j',e,N,Zr Q hE.size,y,(World.cell?_of_block (a:=⟨E,j',none⟩) (hE.block E Q (fun e=>N (by injection e)))).trans h4⟩
   .exact o
   .exact o
   .exact o
   .trivial
  .intro i o' L x X hi ho hL hD D J K f;have M:X.grownBy X (some b):=AK _ _;have C:i≠9->∀Y,Zz X Y->(∃F,AE Y b a n c F/\p1<=F/\F<=p1+2/\(Bn L i 9=false->F=p1))/\S.grownBy Y (some b):=fun h6 Y hY=>⟨D.1.imp (fun F h=>⟨h.1.below hY,h.2.1,h.2.2.1,fun h9=>h.2.2.2 (by unfold Bn at h9;rw[if_neg (Ne.symm h6)]at h9;exact h9)⟩),Am D.2 (Ae _ hY)⟩
   rcases(show i=0\/i=1\/i=2\/i=3\/i=4\/i=5\/i=6\/i=7\/i=8\/i=9\/i=10\/i=11\/i=12\/i=13 by omega)with rfl|rfl|rfl|rfl|rfl|rfl|rfl|rfl|rfl|rfl|rfl|rfl|rfl|rfl<;>cases ho<;>simp only[Bb,Act.put,Zq,Zp,Zo]at f |-
   .go_simp;exact f.out _ X rfl M (C (by omega) X (Below.refl _ _))
   .have d0:=J ⟨0,.data⟩ (by simp) (by rfl);rw[show x 0=.pointer (some ⟨q,6,none⟩)from d0]at f |-;obtain⟨f1,_⟩:=HF.o X D.2;obtain⟨c4,_⟩:=f1 6 _ rfl;clear f1;go_simp;exact f.out _ X rfl M (C (by omega) X (Below.refl _ _))
   .go_simp;exact f.out _ X rfl M (C (by omega) X (Below.refl _ _))
   .have d2:=J ⟨2,.data⟩ (by simp) (by rfl);rw[show x 2=.pointer (some ⟨q,2,none⟩)from d2]at f |-;obtain⟨f1,_⟩:=HF.o X D.2;obtain⟨c4,_⟩:=f1 2 _ rfl;clear f1;go_simp;exact f.out _ X rfl M (C (by omega) X (Below.refl _ _))
   .go_simp;exact f.out _ X rfl M (C (by omega) X (Below.refl _ _))
   .have d4:=J ⟨4,.data⟩ (by simp) (by rfl);rw[show x 4=.pointer (some ⟨q,2,none⟩)from d4]at f |-;obtain⟨f1,_⟩:=HF.o X D.2;obtain⟨c4,_⟩:=f1 2 _ rfl;clear f1;go_simp;exact f.out _ X rfl M (C (by omega) X (Below.refl _ _))
   .have d:=J ⟨5,.data⟩ (by simp) (by rfl);rw[show x 5=.int .i64 H from d]at f |-;go_simp;exact f.out _ X ⟨_,rfl⟩ M (C (by omega) X (Below.refl _ _))
   .have d3:=J ⟨3,.data⟩ (by simp) (by rfl);obtain⟨y,e1⟩:=J ⟨6,.data⟩ (by simp) (by rfl);rw[show x 3=.int .i64 H from d3,e1]at f |-;have hA:Below X.heap.size X (X.alloc (.cells #[.int .i64 0,.int .i64 H,.int .i64 y] 3)):=Zy;have yT:=D.2.size;go_simp;exact f.out _ _ ⟨X.heap.size,rfl,by omega,y,Aa.new X _ _⟩ (Ae _ hA) (C (by omega) _ hA)
   .go_simp;exact f.out _ X rfl M (C (by omega) X (Below.refl _ _))
   .have d:=J ⟨8,.data⟩ (by simp) (by rfl);rw[show x 8=.pointer (some ⟨b,0,none⟩)from d]at f |-;obtain⟨⟨F,zG,zT,zU,zJ⟩,zB⟩:=D;have xC:=zJ hL;go_simp;refine(AU b a n c F 3 X zG (by omega) (by omega) (by omega) (by omega)).mono ?_;rintro e X' ⟨y,rfl,y0,y1,zN,zH⟩;exact f.out _ X' ⟨y.toNat,by congr 1;omega,by omega⟩ zH ⟨⟨F+1,zN,by omega,by omega,fun h=>by unfold Bn at h;simp at h⟩,Am zB zH⟩
   .obtain⟨E,e1,N,y',Q⟩:=J ⟨7,.data⟩ (by simp) (by rfl);obtain⟨j,e2,h3⟩:=J ⟨9,.data⟩ (by simp) (by rfl);rw[e1,e2]at f |-;obtain⟨y,h4⟩:=Hu Q (by simp) (j:=j) (by simp;omega);have h5:=Q.lt;have h6:(j:Int)<3:=by omega
    clear Q;go_simp;exact f.out _ X ⟨E,j,rfl,N,h5,y,h4⟩ M (C (by omega) X (Below.refl _ _))
   .obtain⟨E,j',e1,N,Q,y,h3⟩:=J ⟨10,.data⟩ (by simp) (by rfl);rw[e1]at f |-;go_simp;exact f.out _ X ⟨y,rfl⟩ M (C (by omega) X (Below.refl _ _))
   .have d1:=J ⟨1,.data⟩ (by simp) (by rfl);rw[show x 1=.slice (some ⟨Z,0,none⟩) O.length zA from d1]at f |-;go_simp;exact f.out _ X rfl M (C (by omega) X (Below.refl _ _))
   .have xG:=J ⟨12,.data⟩ (by simp) (by rfl);rw[show x 12=.pointer (some ⟨Z,0,none⟩)from xG]at f |-;go_simp;exact f.out _ X rfl M (C (by omega) X (Below.refl _ _))
  .intro L x X hL D o K f;simp only[Bb,Act.put,Zq,Zp,Zo];obtain⟨y,e1⟩:=o 11 (by decide) (fun j=>by simp);have d:=o 13 (by decide) (fun j=>by simp);obtain⟨⟨F,zG,zT,zU,zJ⟩,zB⟩:=D;obtain⟨⟨u,c1⟩,f1,xK⟩:=HC.o X zB;have hI:=B.o.go zB zG zE;have HE:Hid (DD w b a n c p 40 q (X.setCell ⟨Z,0,none⟩ (.int .i64 y))):=(hI.rows zE (Bd X Z _ _) yB yK ((yS.o X hI.N).iq y).2).more (by omega) (by omega)
   rw[e1,show x 13=.pointer (some ⟨Z,0,none⟩)from d];clear o hI HF HC B yS;go_simp;refine f.out _ _ ?_;clear f K;go_wp2;go_meet;exact HE
 .go_wp2_with fail;refine(AU b a n c p1 2 S B.o.rd (by omega) (by omega) (by omega) (by omega)).mono ?_;rintro e X3 ⟨x,rfl,x0,x1,zK,zI⟩;have zF:Hid _:=B.o.go zI zK zE;go_wp2_with fail;refine(AU b a n c (p1+1) 2 X3 zF.o.rd (by omega) (by omega) (by omega) (by omega)).mono ?_;rintro e X4 ⟨y,rfl,y0,y1,vH,vE⟩;have yN:Hid _:=zF.o.go vE vH zE;obtain⟨j,rfl⟩:∃j:Nat,x=j:=⟨x.toNat,by omega⟩
  have HM:Hid _:=NU (600+j) (y==0) X4 (by omega);have vF:((600+j:Nat):Int)=600+(j:Int):=by omega
  rw[vF]at HM;clear zK vH zI vE B zF HQ vF;go_wp2_with fail;refine Calls.mono HM.o ?_;clear HM;rintro e X5 hM;obtain⟨ta,tm,xQ,rfl,hS,yI⟩:=hM.io (q:=0) (by omega) (by omega);have tO:=yN.o.gr.size;have tQ:=yN.o.z.lt;have HS:Hid _:=hS;have HR:Hid ((∃F,AE X5 b a n c F/\p<=F/\F<=p+40)/\w.grownBy X5 (some b)):=⟨⟨_,yN.o.rd.below yI,by omega,by omega⟩,Am yN.o.gr (Ae _ yI)⟩
  obtain⟨⟨y0,f0⟩,⟨y1,f1⟩,⟨y2,f2⟩,⟨y3,f3⟩,⟨y4,f4⟩,⟨y5,f5⟩,y6,f6⟩:=Jb (Aa.below (v:=.int .i64 0) yN.o.z yI);clear hS yI hM yN;go_wp2
  refine bodyPost_ret (v:=.agg #[.int .i64 8,.int .i64 0,.int .i64 0,.int .i64 ((600+j:Nat):Int),.slice ta xQ.length tm,.slice none 0 0,.slice none 0 0]) (by simp[results,results44,go_sem,y0,y1,y2,y3,y4,y5,y6]) rfl (HS.o.fin (r:=w.heap.size+1) HR.o.1 HR.o.2 zE ?_ (by omega) (by omega))
  repeat refine Tn.trans ?_ (Tn.set _ _ _ _ (by simp))
  exact Tn.of (Below.refl _ _)
end Go.Proofs.YtmjlkgpekcnacaaGreat
