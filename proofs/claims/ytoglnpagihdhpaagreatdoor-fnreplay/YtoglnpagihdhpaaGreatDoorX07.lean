import Derived.Test.YtoglnpagihdhpaaGreatDoorX03
set_option maxRecDepth 100000
set_option maxHeartbeats 16000000
namespace Go.Proofs.YtoglnpagihdhpaaGreatDoor
open ChangeShapes WideShapes ChangeAt RowKit _root_.Go.Proofs.Tryz
variable{a:List Kd}{b q n j g lo N B k:Nat}{c e f wd:Int}{w d wr W:Zh}{Q M s t r:Value}{x:Kd}
def BP(w w':Zh):Prop:=∀b o,(w.cell? (Zd b o)).isSome=true->(w'.cell? (Zd b o)).isSome=true/\(w.frozen? ⟨b,o,none⟩=false->w'.frozen? ⟨b,o,none⟩=false)
theorem BP.refl(w:Zh):BP w w:=fun _ _ h=>⟨h,fun h=>h⟩
theorem BP.trans{a b c:Zh}(d:BP a b)(e:BP b c):BP a c:=fun p o h=>⟨(e p o (d p o h).1).1,fun f=>(e p o (d p o h).1).2 ((d p o h).2 f)⟩
theorem BP.cf(h:Zz w d):BP w d:=fun b o c=>by obtain⟨v,e⟩:=Option.isSome_iff_exists.1 c;have a:=World.block_lt_of_cell? w ⟨b,o,none⟩ e;rw[h.cell (p:=⟨b,o,none⟩) a,h.frozen (p:=⟨b,o,none⟩) a];exact⟨c,fun h=>h⟩
theorem BP.setCell(w:Zh)(g p:Nat)(v:Value):BP w (w.setCell ⟨g,p,none⟩ v):=fun b o a=>by
 refine⟨?_,fun h=>by simpa [go_sem]using h⟩;by_cases e:(⟨b,o,none⟩:Addr)=⟨g,p,none⟩
 .rw[<-e,World.cell?_setCell_same' _ _ _ a];rfl
 .rw[World.cell?_setCell_other _ _ _ _ (fun c=>e c.symm)];exact a
def Wr(w:Zh)(q n:Nat):Prop:=∀j,j<n->(w.cell? (Zd q j)).isSome=true/\w.frozen? ⟨q,j,none⟩=false
theorem Wr.alive{c:Zh}(h:Wr w q n)(b:BP w c):Wr c q n:=fun j a=>⟨(b q j (h j a).1).1,(b q j (h j a).1).2 (h j a).2⟩
theorem Wr.at(h:Wr w q n)(a:j<n):∃v,w.cell? (Zd q j)=some v:=Option.isSome_iff_exists.1 (h j a).1
theorem Wr.own{a cap size:Nat}{e:TypeId}{b:Zj}(h:w.ownsRow a e size (Yz g n cap) n b):Wr w g (n *size):=fun j c=>by have d:=h.1;refine⟨?_,h.frozenAt j⟩;rw[h.cellAt j Yv,Zv Yv];rfl
theorem Nn(w:Zh)(g p:Nat)(v:Value):w.grownBy (w.setCell (Zd g p) v) (some g):=
 ⟨rfl,rfl,rfl,Yu,fun i _ a=>Below.heap_setCell _ _ _ _ (fun e=>a (by rw[e]))⟩
def No(w wr:Zh)(g n:Nat):Prop:=Wr wr g n/\w.grownBy wr (some g)/\BP w wr
theorem No.new(h:Wr w g n):No w w g n:=⟨h,Bf _ _,BP.refl _⟩
theorem No.below{b:Zh}(h:No w wr g n)(a:Zz wr b):No w b g n:=
 ⟨h.1.alive (BP.cf a),Ar h.2.1 (Al _ a),h.2.2.trans (BP.cf a)⟩
theorem No.set(h:No w wr g n)(o:Nat)(v:Value):No w (wr.setCell (Zd g o) v) g n:=
 ⟨h.1.alive (BP.setCell _ _ _ _),Ar h.2.1 (Nn _ _ _ _),h.2.2.trans (BP.setCell _ _ _ _)⟩
structure JE (w wr:Zh) (lo N g:Nat) (ks:List Kd):Prop where
 row:Wr wr g (ks.length *4)
 cu:Below lo w wr
 al:BP w wr
 co:∀k,N<=k->k<w.heap.size->wr.heap[k]?=w.heap[k]?
 B:∀i x,ks[i]?=some x->∃q c,wr.cell? (Zd g (i *4+3))=some (.slice (some ⟨q,0,none⟩) x.B.length c)/\g<q/\q<N/\Wr wr q x.B.length
theorem JE.new{a:Zh}{f:List Kd}(h:FU a lo g f)(c:Zz a w):JE w w lo a.heap.size g f:=by obtain⟨n,d,l,_⟩:=h;have k:=(d.lt g rfl).2;refine⟨(Wr.own d).alive (BP.cf c),Ae,BP.refl _,fun _ _ _=>rfl,fun i x e=> ?_⟩;have m:=(Zw e).1;obtain⟨_,_,_,q,j,b⟩:=l i x e;refine⟨q,_,(c.cell (p:=⟨g,i *4+3,none⟩) k).trans ((d.cellAt _ Yv).trans j),(World.ownsRow.lt b q rfl).1,(World.ownsRow.lt b q rfl).2,?_⟩;have:=(Wr.own b).alive (BP.cf c);rwa[Nat.mul_one]at this
theorem JE.below{f:Zh}{e:List Kd}(h:JE w wr lo N g e)(l:lo<=wr.heap.size)(a:Zz wr f):JE w f lo N g e:=
 ⟨h.row.alive (BP.cf a),h.cu.trans (a.mono l),h.al.trans (BP.cf a),fun k b d=>(a.block k (Zr d h.cu.size)).trans (h.co k b d),fun i x n=>by
  obtain⟨q,c,b,d,j,m⟩:=h.B i x n;exact⟨q,c,(a.cell (p:=⟨g,i *4+3,none⟩) (World.block_lt_of_cell? wr ⟨g,i *4+3,none⟩ b)).trans b,d,j,m.alive (BP.cf a)⟩⟩
theorem JE.set{f:List Kd}(h:JE w wr lo N g f)(m:lo<=g)(r:g<N)(j c:Nat)(s:c<=2)(v:Value):JE w (wr.setCell (Zd g (j *4+c)) v) lo N g f:=
 ⟨h.row.alive (BP.setCell _ _ _ _),h.cu.setCell (p:=⟨g,j *4+c,none⟩) (by simpa using m) _,h.al.trans (BP.setCell _ _ _ _),fun k b a=>((Nn wr g (j *4+c) v).block k (Zr a h.cu.size) (by intro e;cases e;omega)).trans (h.co k b a),fun i x o=>by
  obtain⟨q,d,b,a,l,n⟩:=h.B i x o;refine⟨q,d,?_,a,l,n.alive (BP.setCell _ _ _ _)⟩;rw[World.cell?_setCell_other _ _ _ _ (by intro e;injection e;omega)];exact b⟩
theorem JE.grown{j:Zh}{l:List Kd}(h:JE w wr lo N g l)(n:lo<=wr.heap.size)(f:wr.grownBy j (some q))(c:BP wr j)(y:g<q)(u:q<N)(v:lo<=g):JE w j lo N g l:=
 ⟨h.row.alive c,h.cu.grown f n (fun k r=>by cases r;omega),h.al.trans c,fun k b a=>(f.block k (Zr a h.cu.size) (by intro e;cases e;omega)).trans (h.co k b a),fun i x s=>by
  obtain⟨t,d,b,a,m,o⟩:=h.B i x s;exact⟨t,d,f.cell b Yt,a,m,o.alive c⟩⟩
theorem Fw(a:Zk)(cap:Nat)(c:Zl)(s:Zi)(w:Zh)(B:Nat)(f:Ad w B a c)(F:c.length<=1048576):
 Calls prog 103 #[.slice a c.length cap,.string s] w fun e v=>e=.returned (.bool (c.any (fun x=>decide (x=s))))/\v=w:=by
 go_enter func103,ntmps103;go_wp2
 go_loop [5] (fun i=>∃k:Nat,k<=c.length/\i=Zg k/\Hid (∀j x,j<k->c[j]?=some x->x≠s)) (fun i=>c.length -(intOf i).toNat)
 case atStart=>exact⟨0,Nat.zero_le _,rfl,fun j x h=>by omega⟩
 case round=>
  obtain⟨k,E,rfl,d⟩:=hrel;by_cases hlt:k<c.length
  .obtain⟨b,A,r,D,o⟩:=f.at hlt;subst r;have g:=Yw (Zv hlt);have C:=o k _ g;clear o f;generalize c[k]=x at *
   by_cases he:x=s
   .subst he;have t:Hid (c.any (fun y=>decide (y=x))=true):=by show _=_;rw[List.any_eq_true];exact⟨x,Zs g.o,Yu⟩
    go_wp2;go_ret;exact⟨Az t.o.symm,rfl⟩
   .have z:=Bz he;have q:Hid (∀j y,j<k+1->c[j]?=some y->y≠s):=by
     intro j y l m;rcases Nat.lt_or_ge j k with n|n
     .exact d.o j y n m
     .obtain rfl:j=k:=Yv
      rw[g.o]at m;cases m;exact he
    clear he d g;go_wp2;exact⟨⟨k+1,Yv,Yn,q⟩,Ys⟩
  .go_wp2;go_ret;refine⟨Az ?_,rfl⟩
   symm
   rw[List.any_eq_false];intro x u;obtain⟨j,l⟩:=List.getElem?_of_mem u;simpa using d.o j x (by have:=(Zw l).1;omega) l
theorem Wk{c:Zl}(h:∀(j:Nat) p q,c[j]?=some p->c[j+1]?=some q->less p q=true):c.Pairwise (fun a b=>less a b=true):=by
 have k:∀(d i:Nat) u v,c[i]?=some u->c[i+d+1]?=some v->less u v=true:=by
  intro d;induction d with
  |zero=>intro i u v f e;exact h i u v f e
  |succ d ih=>intro i u v f e;have o:=(Zw e).1;have g:c[i+d+1]?=some c[i+d+1]:=Zv Yv;exact Cb (ih i u _ f g) (h _ _ _ g (by rw[show i+d+1+1=i+(d+1)+1 by omega];exact e))
 rw[List.pairwise_iff_getElem];intro i j l m n;exact k (j -i -1) i _ _ (Zv l) (by rw[show i+(j -i -1)+1=j by omega];exact Zv m)
theorem KI{d:Zl}(h:d.Pairwise (fun a b=>less a b=true)):d.Nodup:=by refine List.Pairwise.imp ?_ h;intro a b c e;rw[e,BI]at c;cases c
theorem Np{g:Int}{d:Zl}(h:DC g d=true):d.Pairwise (fun a b=>less a b=true):=by refine Wk (fun j p q f c=> ?_);have e:=(Zw c).1;unfold DC at h;rw[List.all_eq_true]at h;have:=h (j+1) (by simpa using e);rw[DV c f]at this;simp at this;exact this.2
def BW(w:Zh)(b:Nat)(ph:Int)(Q M:Value)(top at_ ro:Int):Prop:=
 w.cell? ⟨b,0,none⟩=some (.int .i64 ph)/\w.cell? ⟨b,1,none⟩=some Q/\w.cell? ⟨b,2,none⟩=some M/\w.cell? ⟨b,3,none⟩=some (.int .i64 top)/\
  w.cell? ⟨b,4,none⟩=some (.int .i64 at_)/\w.cell? ⟨b,5,none⟩=some (.int .i64 ro)/\b<w.heap.size
theorem BW.new(w:Zh)(c b a d:Int)(Q M:Value)(t:TypeId):BW (w.alloc (.cells #[Zg c,Q,M,Zg b,Zg a,Zg d] t)) w.heap.size c Q M b a d:=
 ⟨Yu,Yu,Yu,Yu,Yu,Yu,Yu⟩
theorem BW.ag{i:Zh}{d g:Int}(h:BW w b f Q M e d g)(a:Below B w i)(c:b<B):BW i b f Q M e d g:=by
 obtain⟨j,k,l,m,n,o,q⟩:=h;exact⟨(a.cell (p:=⟨b,0,none⟩) c).trans j,(a.cell (p:=⟨b,1,none⟩) c).trans k,(a.cell (p:=⟨b,2,none⟩) c).trans l,(a.cell (p:=⟨b,3,none⟩) c).trans m,
  (a.cell (p:=⟨b,4,none⟩) c).trans n,(a.cell (p:=⟨b,5,none⟩) c).trans o,Zr q a.size⟩
theorem BW.below{f:Zh}{d a:Int}(h:BW w b d Q M c a e)(g:Zz w f):BW f b d Q M c a e:=h.ag g h.2.2.2.2.2.2
structure RH (qs ms:Zl):Prop where
 q:qs.length<=1048576
 m:ms.length<=1048576
theorem Fx(n lo a:Int)(w:Zh):
 Calls prog 80 #[Zg n,Zg lo,Zg a] w fun e b=>e=.returned (.bool (decide (lo<=n/\n<=a)))/\b=w:=by
 by_cases h1:lo<=n
 .by_cases h2:n<=a
  .go_enter func80,ntmps80;go_wp2;go_ret;exact⟨Az (by simp[h1,h2]),rfl⟩
  .go_enter func80,ntmps80;go_wp2;go_ret;exact⟨Az (by simp[h2]),rfl⟩
 .have c:decide (lo<=n)=false:=by simpa using h1
  go_enter func80,ntmps80;go_wp2;go_ret;exact⟨Az Yu,rfl⟩
theorem JF(n:Int)(w:Zh):
 Calls prog 108 #[Zg n] w fun e a=>e=.returned (.bool (decide (0<=n/\n<=1000000000)))/\a=w:=by
 by_cases h1:0<=n
 .by_cases h2:n<=1000000000
  .go_enter func108,ntmps108;go_wp2;go_ret;exact⟨Az (by simp[h1,h2]),rfl⟩
  .have c:decide (n<=1000000000)=false:=by simpa using h2
   go_enter func108,ntmps108;go_wp2;go_ret;exact⟨rfl,rfl⟩
 .have b:decide (0<=n)=false:=by simpa using h1
  go_enter func108,ntmps108;go_wp2;go_ret;exact⟨rfl,rfl⟩
theorem BW.grown{g:Zh}{d:Int}(h:BW w b e Q M d c f)(a:w.grownBy g (some q))(o:b≠q):BW g b e Q M d c f:=by obtain⟨i,j,k,l,m,n,s⟩:=h;have r:=a.size;exact⟨a.cell i Yt,a.cell j Yt,a.cell k Yt,a.cell l Yt,a.cell m Yt,a.cell n Yt,Yv⟩
theorem Fb(r j i s:Int)(g h D B:Nat)(a d:Zl)(w:Zh)(hq:Ad w w.heap.size (some ⟨g,0,none⟩) a)(hm:Ad w w.heap.size (some ⟨h,0,none⟩) d)(hf:RH a d):
 Calls prog 149 #[.agg (Ye r (some ⟨g,0,none⟩) a.length D (some ⟨h,0,none⟩) d.length B j i s)] w fun e X=>∃x l y C,e=.returned (.agg (Ye r (some ⟨x,0,none⟩) a.length l (some ⟨y,0,none⟩) d.length C j i s))/\
  X.ownsRow w.heap.size 9 1 (Yz x a.length l) a.length (a.map Value.string)/\X.ownsRow w.heap.size 9 1 (Yz y d.length C) d.length (d.map Value.string)/\x≠y/\Zz w X:=by
 have zF:=hf.q;have zE:=hf.m;obtain⟨i0,hi,R,S,T⟩:=info_parts Cq;obtain⟨W,q⟩:=Af (((w.alloc (.cells (Ye r (some ⟨g,0,none⟩) a.length D (some ⟨h,0,none⟩) d.length B j i s) 49)).alloc (.cells Yd 49)).alloc (.cells (Ye r (some ⟨g,0,none⟩) a.length D (some ⟨h,0,none⟩) d.length B j i s) 49));have u:Below w.heap.size w W:=by rw[q];exact((Zy).alloc Yu _).alloc Yt _
 have x2:BW W (w.heap.size+1+1) r (Yz g a.length D) (Yz h d.length B) j i s:=by rw[q];exact⟨by simp[go_sem],by simp[go_sem],by simp[go_sem],by simp[go_sem],by simp[go_sem],by simp[go_sem],Yu⟩
 have x1:BW W (w.heap.size+1) 0 Zb Zb 0 0 0:=by rw[q];exact⟨by simp[go_sem],by simp[go_sem],by simp[go_sem],by simp[go_sem],by simp[go_sem],by simp[go_sem],Ym⟩
 have x0:BW W w.heap.size r (Yz g a.length D) (Yz h d.length B) j i s:=by rw[q];exact⟨by simp[go_sem],by simp[go_sem],by simp[go_sem],by simp[go_sem],by simp[go_sem],by simp[go_sem],Ym⟩
 have f2:∀o,W.frozen? ⟨w.heap.size+1+1,o,none⟩=false:=fun o=>by rw[q];simp[go_sem]
 have f1:∀o,W.frozen? ⟨w.heap.size+1,o,none⟩=false:=fun o=>by rw[q];simp[go_sem]
 have zC:W.heap.size=w.heap.size+3:=by rw[q];simp
 have Z:=Yw q;clear q;go_enter func149,ntmps149;go_wp2_with (first
  |(at_builtin;refine wpList_append_own _ rfl _ _ 23 rfl (w.heap.size+3) 9 i0 Zc 1 16 underlying23 hi R S T rfl Yq _ 0 (([]:Zl).map Value.string) rfl ?d0 ⟨g,0,none⟩ a.length D (a.map Value.string) rfl ?d1 ?d2 ?d3 ?d4 ?d5 ?d6 ?_)
  |go_in)
 all_goals try rw[<-Z.o]
 case d0=>
  have:=World.ownsRow_lit (base:=w.heap.size+3) (e:=9) (size:=1) W #[] 0 Yv Yo rfl;rw[zC]at this;exact this
 case d1=>simp
 case d2=>exact(hq.below (u.alloc u.size _)).dm
 case d3=>exact Ri a
 case d4=>unfold maxLen;omega
 case d5=>omega
 case d6=>simp;omega
 intro v1 m z F M;have G:∃x l,v1=Yz x a.length l:=by have:=KT z M;simpa using this
 obtain⟨x,l,rfl⟩:=G;try simp only[Nat.zero_add,List.map_nil,List.nil_append]at z
 have I:=F.size;have b:(W.alloc (.cells #[] 9)).grownBy m (some (w.heap.size+3)):=by simpa [Value.ownBlock]using F
 have f:Below W.heap.size W (W.alloc (.cells #[] 9)):=Zy;have y0:=(x0.below f).grown b Yv;have y1:=(x1.below f).grown b Yv;have y2:=(x2.below f).grown b Yv;have e2:∀o,m.frozen? ⟨w.heap.size+1+1,o,none⟩=false:=fun o=>(b.frozen_far ⟨w.heap.size+1+1,o,none⟩ Ym Ym).trans ((f.frozen (p:=⟨w.heap.size+1+1,o,none⟩) Ym).trans (f2 o))
 have e1:∀o,m.frozen? ⟨w.heap.size+1,o,none⟩=false:=fun o=>(b.frozen_far ⟨w.heap.size+1,o,none⟩ Ym Ym).trans ((f.frozen (p:=⟨w.heap.size+1,o,none⟩) Ym).trans (f1 o));have J:Below w.heap.size w m:=(u.trans (f.mono u.size)).grown b Yt (fun k U=>by cases U;omega);have lx:=z.lt x rfl;simp at I;obtain⟨a0,a1,a2,a3,a4,a5,a6⟩:=y0
 obtain⟨b0,b1,b2,b3,b4,b5,b6⟩:=y1;obtain⟨c0,c1,c2,c3,c4,c5,c6⟩:=y2;clear x0 x1 x2 f1 f2 f F b M Z u;obtain⟨V,n⟩:=Af (m.setCell (Zd (w.heap.size+1+1) 1) (Yz x a.length l));have t:Below w.heap.size w V:=by rw[n];exact J.setCell (p:=⟨w.heap.size+1+1,1,none⟩) Ym _
 have zB:V.heap.size=m.heap.size:=by rw[n];simp
 have O:V.ownsRow (w.heap.size+3) 9 1 (Yz x a.length l) a.length (a.map Value.string):=by rw[n];exact ownsRow_setCell_below z Yu _
 have r1:BW V (w.heap.size+1) 0 Zb Zb 0 0 0:=by rw[n];exact⟨by simp[go_sem,b0],by simp[go_sem,b1],by simp[go_sem,b2],by simp[go_sem,b3],by simp[go_sem,b4],by simp[go_sem,b5],by simpa using b6⟩
 have r2:BW V (w.heap.size+1+1) r (Yz x a.length l) (Yz h d.length B) j i s:=by rw[n];exact⟨by simp[go_sem,c0],by simp[go_sem,c1],by simp[go_sem,c2],by simp[go_sem,c3],by simp[go_sem,c4],by simp[go_sem,c5],by simpa using c6⟩
 have k1:∀o,V.frozen? ⟨w.heap.size+1,o,none⟩=false:=fun o=>by rw[n];simp[go_sem,e1]
 have k2:∀o,V.frozen? ⟨w.heap.size+1+1,o,none⟩=false:=fun o=>by rw[n];simp[go_sem,e2]
 have Y:=Yw n;clear n;go_wp2_with (first
  |(at_builtin;refine wpList_append_own _ rfl _ _ 23 rfl m.heap.size 9 i0 Zc 1 16 underlying23 hi R S T rfl Yq _ 0 (([]:Zl).map Value.string) rfl ?e0 ⟨h,0,none⟩ d.length B (d.map Value.string) rfl ?e1 ?e2 ?e3 ?e4 ?e5 ?e6 ?_)
  |go_in)
 all_goals try rw[<-Y.o]
 case e0=>
  have:=World.ownsRow_lit (base:=m.heap.size) (e:=9) (size:=1) V #[] 0 Yv Yo rfl;rw[zB]at this;exact this
 case e1=>simp
 case e2=>exact(hm.below (t.alloc t.size _)).dm
 case e3=>exact Ri d
 case e4=>unfold maxLen;omega
 case e5=>omega
 case e6=>simp;omega
 intro v2 E A L N;have G:∃y C,v2=Yz y d.length C:=by have:=KT A N;simpa using this
 obtain⟨y,C,rfl⟩:=G;try simp only[Nat.zero_add,List.map_nil,List.nil_append]at A
 have c:(V.alloc (.cells #[] 9)).grownBy E (some m.heap.size):=by simpa [Value.ownBlock]using L
 have f:Below V.heap.size V (V.alloc (.cells #[] 9)):=Zy;have s1:=(r1.below f).grown c Yv;have s2:=(r2.below f).grown c Yv;have t2:∀o,E.frozen? ⟨w.heap.size+1+1,o,none⟩=false:=fun o=>(c.frozen_far ⟨w.heap.size+1+1,o,none⟩ Ym Ym).trans ((f.frozen (p:=⟨w.heap.size+1+1,o,none⟩) Ym).trans (k2 o))
 have t1:∀o,E.frozen? ⟨w.heap.size+1,o,none⟩=false:=fun o=>(c.frozen_far ⟨w.heap.size+1,o,none⟩ Ym Ym).trans ((f.frozen (p:=⟨w.heap.size+1,o,none⟩) Ym).trans (k1 o));have K:Below w.heap.size w E:=(t.trans (f.mono t.size)).grown c Yt (fun k U=>by cases U;omega);have ly:=A.lt y rfl
 have P:E.ownsRow (w.heap.size+3) 9 1 (Yz x a.length l) a.length (a.map Value.string):=(O.alloc _).kept c (.inr (by simp[Value.ownBlock];omega));have Q:=A.mono (show w.heap.size+3<=m.heap.size by omega);have zA:x≠y:=Yv
 have H:=Yw (Zn P (Zn Q (Zn zA K)));obtain⟨m0,m1,m2,m3,m4,m5,m6⟩:=s1;obtain⟨n0,n1,n2,n3,n4,n5,n6⟩:=s2;clear a0 a1 a2 a3 a4 a5 a6 b0 b1 b2 b3 b4 b5 b6 c0 c1 c2 c3 c4 c5 c6 P Q A L c f r1 r2 k1 k2 O z t J K Y e1 e2 N;go_wp2
 refine bodyPost_ret (v:=.agg (Ye r (some ⟨x,0,none⟩) a.length l (some ⟨y,0,none⟩) d.length C j i s)) (by simp[results,results149,go_sem,m0,m1,m2,m3,m4,m5]) rfl ⟨x,l,y,C,rfl,?_,?_,H.o.2.2.1,?_⟩
 .refine World.ownsRow.mono ?_ (show w.heap.size<=w.heap.size+3 by omega)
  iterate 7 (refine ownsRow_setCell_below ?_ Yu _)
  exact H.o.1
 .refine World.ownsRow.mono ?_ (show w.heap.size<=w.heap.size+3 by omega)
  iterate 7 (refine ownsRow_setCell_below ?_ Yu _)
  exact H.o.2.1
 .iterate 7 (refine Below.setCell ?_ Ym _)
  exact H.o.2.2.2
section
open Classical in
end
section
attribute [local go_sem↓] Go.wp_at_zero Go.wp_at_succ
def TS(W:Zh)(b c:Nat)(wd:Value)(s t r:Value)(w':Zh):Prop:=
 w'.cell? (Zd b 0)=some wd/\w'.cell? (Zd c 0)=some s/\w'.cell? (Zd c 2)=some t/\w'.cell? (Zd c 3)=some r/\Zz W w'
theorem TS.ag{e:Zh}{c:Nat}{g:Value}(h:TS W b c g s t r e)(a:Zz e d)(m:b<W.heap.size)(n:c<W.heap.size):TS W b c g s t r d:=by obtain⟨i,j,k,l,f⟩:=h;have:=f.size;exact⟨(a.cell (p:=⟨b,0,none⟩) Yt).trans i,(a.cell (p:=⟨c,0,none⟩) Yt).trans j,(a.cell (p:=⟨c,2,none⟩) Yt).trans k,(a.cell (p:=⟨c,3,none⟩) Yt).trans l,f.trans (a.mono this)⟩
theorem TS.drew{a:Zh}{c:Nat}{d:Value}(h:TS W b c d s t r a):TS W b c d s t r a.drew:=⟨h.1,h.2.1,h.2.2.1,h.2.2.2.1,h.2.2.2.2.drew⟩
theorem TS.new{ty:TypeId}(s b t r:Value)(d:wr.cell? (Zd (w.heap.size) 0)=some (Zg c))(e:w.heap.size<wr.heap.size):
 Below wr.heap.size wr ((wr.alloc (.cells #[s,b,t,r] ty)).drewN n)/\((wr.alloc (.cells #[s,b,t,r] ty)).drewN n).heap.size=wr.heap.size+1/\
  TS ((wr.alloc (.cells #[s,b,t,r] ty)).drewN n) w.heap.size wr.heap.size (Zg c) s t r ((wr.alloc (.cells #[s,b,t,r] ty)).drewN n):=by
 have a:Below wr.heap.size wr ((wr.alloc (.cells #[s,b,t,r] ty)).drewN n):=AZ (Zy) _;refine⟨a,by rw[IG];simp,(a.cell (p:=⟨w.heap.size,0,none⟩) e).trans d,?_,?_,?_,Ae⟩
 all_goals rw[IF];simp
theorem KZ(c now l f:Int)(a:Zk)(I:Nat)(P L:Value)(d:List Kd)(w:Zh)(B:Bu w w.heap.size a d)(hm:Rk d)(hl:d.length<=1048576)(T:∀k∈d,k.B.length<=1048576)(h1:1<=c)(h8:c<=8):
 Calls prog 66 #[.agg #[Zg c,Zg now,Zg l,Zg f,.slice a d.length I,P,L]] w fun e s=>∃b,e=.returned (.bool b)/\(b=true↔d.length<=600/\∀(i:Nat) k,d[i]?=some k->Jr c d i k)/\Zz w s:=by
 have zC:Below w.heap.size w (w.alloc (.cells #[Zg c,Zg now,Zg l,Zg f,.slice a d.length I,P,L] 30)):=Zy;by_cases hn:600<d.length
 .go_enter func66,ntmps66;go_wp2;go_ret;exact⟨_,rfl,by simp;intro h;omega,zC⟩
 .have Y:=AN.new w c now l f (.slice a d.length I) P L 30;go_enter func66,ntmps66;go_wp2
  go_loopw [12] (fun i wr=>∃k:Nat,k<=d.length/\i=Zg k/\Zz w wr/\AN wr w.heap.size c now l f (.slice a d.length I) P L/\Hid (∀j x,j<k->d[j]?=some x->Jr c d j x)) (fun i _=>d.length -(intOf i).toNat)
  case atStart=>exact⟨0,Nat.zero_le _,rfl,zC,Y,fun j x h=>by omega⟩
  case round=>
   obtain⟨k,hk,rfl,g,zA,o⟩:=hrel;by_cases hlt:k<d.length
   .obtain⟨b,zF,ha,hb,X⟩:=(B.below g).at hlt;subst ha;have D:d[k]?=some d[k]:=Zv hlt;obtain⟨V,W,c2,r,t,c3,Q⟩:=X k _ D;obtain⟨Z,x1,x2,x3,x4,x5,x6,J⟩:=zA;have v:=List.getElem_mem hlt;have G:=hm.J _ v;have H:=T _ v
    match k,hk,hlt,o,D,V,W,c2,c3,Q,G,H with
    |0,hk,hlt,o,D,V,W,c2,c3,Q,G,H=>
     have C:=Yw D;clear X B hm T v D;simp only[Nat.zero_mul,Nat.add_zero]at V W c2 c3;generalize d[0]=x at *
     go_wp2;go_quiet (fail);go_wp2;obtain⟨z,z1,R⟩:=TS.new (n:=nq) (ty:=66) (.string x.sum) (Zg x.born) (.string x.J) (.slice r x.B.length t) Z J;generalize hW1:(wr.alloc (Obj.cells #[Value.string x.sum,Value.int IntKind.i64 x.born,Value.string x.J,Value.slice r x.B.length t] 66)).drewN nq=W1 at *
     have E:Ad W1 W1.heap.size r x.B:=(Q.mono g.size).N z;have S:AN W1 w.heap.size c now l f (.slice (some ⟨b,zF,none⟩) d.length I) P L:=AN.ag ⟨Z,x1,x2,x3,x4,x5,x6,J⟩ z J;obtain⟨t0,t1,t2,t3,t4⟩:=R;have q0:=Aw.cell t0 Yv;have q1:=Aw.cell t1 Yv;have q2:=Aw.cell t2 Yv;have q3:=Aw.cell t3 Yv;have zG:=Aw.ne W1
     have O:∀n:Aw W1,Calls prog 79 #[.agg #[.string x.J,.slice r x.B.length t],Zg c] n.w fun e s=>e=.returned (.bool (AF x.J x.B c))/\Below n.w.heap.size n.w s:=fun n=>Jh x.J r t x.B c _ (E.N n.h) H G
     have M:∀n:Aw W1,Calls prog 33 #[.agg #[.string x.J,.slice r x.B.length t],Zg c] n.w fun e s=>e=.returned (.string (AE x.J x.B c))/\Below n.w.heap.size n.w s:=fun n=>Hk x.J r t x.B c _ (E.N n.h) H G;have N:∀n:Aw W1,Calls prog 109 #[.string (AE x.J x.B c),Zg c] n.w fun e s=>e=.returned (.string (Hl x c))/\Below n.w.heap.size n.w s:=fun n=>KS _ c _ (FA _ _ _) h1 h8;have A:=Yw (Zn M N)
     have u:=Yw O;clear M N O;generalize AE x.J x.B c=fx at *
     generalize hsx:Hl x c=sx at *
     have m:=g.trans (z.mono g.size);cases hok:AF x.J x.B c with
     |false=>
      rw[hok]at u;refine Ax Yr Yr ?_
      repeat (go_big_quiet_step (exact Aw.calls (u.o _)))
      refine wpQuiet_nil ?_;intro n;go_wp2;go_ret;refine⟨_,rfl,?_,m.trans (n.h.mono m.size)⟩;simp;intro _;exact⟨_,_,C.o,fun h=>by rw[h.ok]at hok;cases hok⟩
     |true=>
      rw[hok]at u;by_cases hs:x.sum=sx
      .have U:(x.sum.toList !=sx.toList)=false:=by rw[hs];simp
       have HA:Hid (∀q y,q<0+1->d[q]?=some y->Jr c d q y):=by
        intro q y hj F;rcases Nat.lt_or_ge q (0)with K|K
        .exact o.o q y K F
        .obtain rfl:q=0:=Yv
         rw[C.o]at F;cases F;exact⟨hok,by rw[hsx];exact hs,fun j p h=>by omega⟩
       refine Ax Yr Yr ?_
       repeat (go_big_quiet_step (first|exact Aw.calls (u.o _)|exact Aw.calls (A.o.1 _)|exact Aw.calls (A.o.2 _)))
       refine wpQuiet_nil ?_;intro n;go_wp2;exact⟨⟨0+1,Yv,Yn,m.trans (n.h.mono m.size),S.ag n.h Yv,HA⟩,Ys⟩
      .have U:(x.sum.toList !=sx.toList)=true:=by simp[Bz hs,bne]
       have zB:=Bz hs;refine Ax Yr Yr ?_
       repeat (go_big_quiet_step (first|exact Aw.calls (u.o _)|exact Aw.calls (A.o.1 _)|exact Aw.calls (A.o.2 _)))
       refine wpQuiet_nil ?_;intro n;go_wp2;go_ret;refine⟨_,rfl,?_,m.trans (n.h.mono m.size)⟩;simp;intro _;exact⟨_,_,C.o,fun h=>hs (by rw[<-hsx];exact h.sum)⟩
    |j+1,hk,hlt,o,D,V,W,c2,c3,Q,G,H=>
     have C:=Yw D;have HP:Hid (d[j]?=some d[j]):=Zv Yv;obtain⟨d0,_,_,_⟩:=X j _ HP.o;clear X B hm T v D;generalize d[j+1]=x at *
     generalize d[j]=p at *
     have zK:IntKind.i64.wrap (j:Int)=(j:Int):=wrap_small Yv Yv;have zI:(0:Int)<=(j:Int):=Yv
     have zH:b<wr.heap.size:=Yv
     have zJ:(j:Int)<(d.length:Int):=Yv
     cases hless:Op.bytesLess p.sum.toList x.sum.toList with
     |false=>go_wp2;go_quiet (fail);go_wp2;go_ret;refine⟨_,rfl,?_,AZ (g.alloc g.size _) _⟩;simp;intro _;exact⟨_,_,C.o,fun h=>by have:=h.up j p rfl HP.o;unfold less at this;rw[hless]at this;cases this⟩
     |true=>
      go_wp2;go_quiet (fail);go_wp2;obtain⟨z,z1,R⟩:=TS.new (n:=nq) (ty:=66) (.string x.sum) (Zg x.born) (.string x.J) (.slice r x.B.length t) Z J;generalize hW1:(wr.alloc (Obj.cells #[Value.string x.sum,Value.int IntKind.i64 x.born,Value.string x.J,Value.slice r x.B.length t] 66)).drewN nq=W1 at *
      have E:Ad W1 W1.heap.size r x.B:=(Q.mono g.size).N z;have S:AN W1 w.heap.size c now l f (.slice (some ⟨b,zF,none⟩) d.length I) P L:=AN.ag ⟨Z,x1,x2,x3,x4,x5,x6,J⟩ z J;obtain⟨t0,t1,t2,t3,t4⟩:=R;have q0:=Aw.cell t0 Yv;have q1:=Aw.cell t1 Yv;have q2:=Aw.cell t2 Yv;have q3:=Aw.cell t3 Yv;have zG:=Aw.ne W1
      have O:∀n:Aw W1,Calls prog 79 #[.agg #[.string x.J,.slice r x.B.length t],Zg c] n.w fun e s=>e=.returned (.bool (AF x.J x.B c))/\Below n.w.heap.size n.w s:=fun n=>Jh x.J r t x.B c _ (E.N n.h) H G
      have M:∀n:Aw W1,Calls prog 33 #[.agg #[.string x.J,.slice r x.B.length t],Zg c] n.w fun e s=>e=.returned (.string (AE x.J x.B c))/\Below n.w.heap.size n.w s:=fun n=>Hk x.J r t x.B c _ (E.N n.h) H G;have N:∀n:Aw W1,Calls prog 109 #[.string (AE x.J x.B c),Zg c] n.w fun e s=>e=.returned (.string (Hl x c))/\Below n.w.heap.size n.w s:=fun n=>KS _ c _ (FA _ _ _) h1 h8;have A:=Yw (Zn M N)
      have u:=Yw O;clear M N O;generalize AE x.J x.B c=fx at *
      generalize hsx:Hl x c=sx at *
      have m:=g.trans (z.mono g.size);cases hok:AF x.J x.B c with
      |false=>
       rw[hok]at u;refine Ax Yr Yr ?_
       repeat (go_big_quiet_step (exact Aw.calls (u.o _)))
       refine wpQuiet_nil ?_;intro n;go_wp2;go_ret;refine⟨_,rfl,?_,m.trans (n.h.mono m.size)⟩;simp;intro _;exact⟨_,_,C.o,fun h=>by rw[h.ok]at hok;cases hok⟩
      |true=>
       rw[hok]at u;by_cases hs:x.sum=sx
       .have U:(x.sum.toList !=sx.toList)=false:=by rw[hs];simp
        have HA:Hid (∀q y,q<(j+1)+1->d[q]?=some y->Jr c d q y):=by
         intro q y hj F;rcases Nat.lt_or_ge q ((j+1))with K|K
         .exact o.o q y K F
         .obtain rfl:q=(j+1):=Yv
          rw[C.o]at F;cases F;exact⟨hok,by rw[hsx];exact hs,fun j2 p2 h zE=>by cases h;rw[HP.o]at zE;cases zE;exact hless⟩
        refine Ax Yr Yr ?_
        repeat (go_big_quiet_step (first|exact Aw.calls (u.o _)|exact Aw.calls (A.o.1 _)|exact Aw.calls (A.o.2 _)))
        refine wpQuiet_nil ?_;intro n;go_wp2;exact⟨⟨(j+1)+1,Yv,Yn,m.trans (n.h.mono m.size),S.ag n.h Yv,HA⟩,Ys⟩
       .have U:(x.sum.toList !=sx.toList)=true:=by simp[Bz hs,bne]
        have zB:=Bz hs;refine Ax Yr Yr ?_
        repeat (go_big_quiet_step (first|exact Aw.calls (u.o _)|exact Aw.calls (A.o.1 _)|exact Aw.calls (A.o.2 _)))
        refine wpQuiet_nil ?_;intro n;go_wp2;go_ret;refine⟨_,rfl,?_,m.trans (n.h.mono m.size)⟩;simp;intro _;exact⟨_,_,C.o,fun h=>hs (by rw[<-hsx];exact h.sum)⟩
   .go_wp2;go_ret;exact⟨_,rfl,by simp;exact⟨Yv,fun i x Y=>o.o i x (by have:=(Zw Y).1;omega) Y⟩,g⟩
end
section
attribute [local go_sem↓] Go.wp_at_zero Go.wp_at_succ
def EA(w:Zh)(b:Nat)(wd:Int)(m:Nat):Prop:=w.cell? (Zd b 0)=some (Zg wd)/\w.cell? (Zd b 1)=some (.map (some m))/\b<w.heap.size
theorem EA.new(w:Zh)(a:Int)(m:Nat)(t:TypeId):EA (w.alloc (.cells #[Zg a,.map (some m)] t)) w.heap.size a m:=⟨Yu,Yu,Yu⟩
theorem EA.ag{m:Nat}(h:EA w b e m)(a:Below B w d)(c:b<B):EA d b e m:=
 ⟨(a.cell (p:=⟨b,0,none⟩) c).trans h.1,(a.cell (p:=⟨b,1,none⟩) c).trans h.2.1,Zr h.2.2 a.size⟩
theorem MC(r now g d:Int)(T P L:Value)(a:Zk)(K m:Nat)(I:List Kd)(c:List Pd)(w:Zh)(u:AO w w.heap.size a c)(hm:Rl c)(hl:c.length<=1048576)(q:∀s,Rr w r m I s)(hX:P=.slice a c.length K):
 Calls prog 69 #[.agg #[Zg r,Zg now,Zg g,Zg d,T,P,L],.agg #[Zg r,.map (some m)]] w fun e w'=>Aq (c.length<=100/\∀(i:Nat) x,c[i]?=some x->Lx I c i x) w w' e:=by
 subst hX;have R:∀o1 o2,Zz w ((w.alloc o1).alloc o2):=fun o1 o2=>(Zy).alloc Yu _;by_cases hn:100<c.length
 .go_enter func69,ntmps69;go_wp2;go_ret;exact Aq.no (fun h=>by omega) (R _ _)
 .have Q:=AN.below (AN.new w r now g d T (.slice a c.length K) L 30) (Ae.alloc (Zx) (.cells #[Zg r,.map (some m)] 104));have hh:EA ((w.alloc (.cells #[Zg r,Zg now,Zg g,Zg d,T,(.slice a c.length K),L] 30)).alloc (.cells #[Zg r,.map (some m)] 104)) (w.heap.size+1) r m:=⟨by simp[go_sem],by simp[go_sem],Yu⟩;go_enter func69,ntmps69;go_wp2
  go_loopw [14] (fun i wr=>∃k:Nat,k<=c.length/\i=Zg k/\Zz w wr/\Hid (AN wr w.heap.size r now g d T (.slice a c.length K) L)/\Hid (EA wr (w.heap.size+1) r m)/\Hid (∀(j:Nat) x,j<k->c[j]?=some x->Lx I c j x)) (fun i _=>c.length -(intOf i).toNat)
  case atStart=>exact⟨0,Nat.zero_le _,rfl,R _ _,Q,hh,fun j x h=>by omega⟩
  case round=>
   obtain⟨k,Z,rfl,f,Y,W,l⟩:=hrel;obtain⟨x0,x1,x2,x3,x4,x5,x6,x7⟩:=Y.o;obtain⟨g0,g1,g2⟩:=W.o;by_cases hlt:k<c.length
   .obtain⟨b,zF,ha,hb,O⟩:=(u.below f).at hlt;subst ha;have z:c[k]?=some c[k]:=Zv hlt;obtain⟨M,N⟩:=O k _ z;have t:=List.getElem_mem hlt;have J:=hm.name _ t;have zA:b<wr.heap.size:=Yv
    match k,Z,hlt,l,z,M,N,J with
    |0,Z,hlt,l,z,M,N,J=>
     have v:=Yw z;clear O u hm t z;simp only[Nat.zero_mul,Nat.add_zero]at M N;generalize c[0]=x at *
     go_wp2;go_quiet (fail);have o:Below w.heap.size w ((wr.alloc (Obj.cells #[Value.string x.name,Value.string x.sum] 69)).drewN nq):=AZ (f.alloc f.size _) _;have D:Below wr.heap.size wr ((wr.alloc (Obj.cells #[Value.string x.name,Value.string x.sum] 69)).drewN nq):=AZ (Zy) _;obtain⟨ok,F,E⟩:=q x.sum;have V:=Yw (E _ o);clear q E;go_wp2_with fail;refine(Jq x.name _ J).mono ?_
     rintro e w1 ⟨rfl,rfl⟩;cases hnm:Cr x.name with
     |false=>go_wp2;go_ret;refine Aq.no (fun h=> ?_) (o);exact by have:=(h.2 _ _ v.o).name;rw[hnm]at this;cases this
     |true=>
      go_wp2_with fail;refine V.Ah ?_;rintro e w2 ⟨rfl,B⟩;have A:=o.trans (B.mono o.size);have C:=D.trans (B.mono D.size);cases ok with
      |false=>go_wp2;go_ret;refine Aq.no (fun h=> ?_) (A);exact by have:=F.2 (h.2 _ _ v.o).sum;cases this
      |true=>
       have U:Hid (∀(n:Nat) y,n<0+1->c[n]?=some y->Lx I c n y):=by
        intro n y hj G;rcases Nat.lt_or_ge n (0)with H|H
        .exact l.o n y H G
        .obtain rfl:n=0:=Yv
         rw[v.o]at G;cases G;exact⟨hnm,fun j p h=>by omega,F.1 rfl⟩
       go_wp2;exact⟨⟨0+1,Yv,Yn,A,AN.ag Y.o C x7,EA.ag W.o C g2,U⟩,Ys⟩
    |j+1,Z,hlt,l,z,M,N,J=>
     have v:=Yw z;have X:Hid (c[j]?=some c[j]):=Zv Yv;obtain⟨d0,_⟩:=O j _ X.o;clear O u hm t z;generalize c[j+1]=x at *
     generalize c[j]=p at *
     have zE:IntKind.i64.wrap (j:Int)=(j:Int):=wrap_small Yv Yv;have zB:(0:Int)<=(j:Int):=Yv
     have zC:(j:Int)<(c.length:Int):=Yv
     cases hless:Op.bytesLess p.name.toList x.name.toList with
     |false=>go_wp2;go_quiet (fail);go_wp2;go_ret;refine Aq.no (fun h=> ?_) (AZ (f.alloc f.size _) _);exact by have:=(h.2 _ _ v.o).up j p rfl X.o;unfold less at this;rw[hless]at this;cases this
     |true=>
      go_wp2;go_quiet (fail);have o:Below w.heap.size w ((wr.alloc (Obj.cells #[Value.string x.name,Value.string x.sum] 69)).drewN nq):=AZ (f.alloc f.size _) _;have D:Below wr.heap.size wr ((wr.alloc (Obj.cells #[Value.string x.name,Value.string x.sum] 69)).drewN nq):=AZ (Zy) _;obtain⟨ok,F,E⟩:=q x.sum;have V:=Yw (E _ o);clear q E;go_wp2_with fail;refine(Jq x.name _ J).mono ?_
      rintro e w1 ⟨rfl,rfl⟩;cases hnm:Cr x.name with
      |false=>go_wp2;go_ret;refine Aq.no (fun h=> ?_) (o);exact by have:=(h.2 _ _ v.o).name;rw[hnm]at this;cases this
      |true=>
       go_wp2_with fail;refine V.Ah ?_;rintro e w2 ⟨rfl,B⟩;have A:=o.trans (B.mono o.size);have C:=D.trans (B.mono D.size);cases ok with
       |false=>go_wp2;go_ret;refine Aq.no (fun h=> ?_) (A);exact by have:=F.2 (h.2 _ _ v.o).sum;cases this
       |true=>
        have U:Hid (∀(n:Nat) y,n<(j+1)+1->c[n]?=some y->Lx I c n y):=by
         intro n y hj G;rcases Nat.lt_or_ge n ((j+1))with H|H
         .exact l.o n y H G
         .obtain rfl:n=(j+1):=Yv
          rw[v.o]at G;cases G;exact⟨hnm,fun j2 p2 h S=>by cases h;rw[X.o]at S;cases S;exact hless,F.1 rfl⟩
        go_wp2;exact⟨⟨(j+1)+1,Yv,Yn,A,AN.ag Y.o C x7,EA.ag W.o C g2,U⟩,Ys⟩
   .go_wp2;go_ret;exact Aq.yes ⟨Yv,fun i x Q=>l.o i x (by have:=(Zw Q).1;omega) Q⟩ f
theorem La(C now c g:Int)(T P L:Value)(a:Zk)(ac m:Nat)(ks:List Kd)(d:List Ld)(w:Zh)(G:AM w w.heap.size a d)(hm:Rm d)(hl:d.length<=1048576)(zB:0<=now)(zC:now<=1000000000)(v:∀s,Rr w C m ks s)(hX:L=.slice a d.length ac):
 Calls prog 70 #[.agg #[Zg C,Zg now,Zg c,Zg g,T,P,L],.agg #[Zg C,.map (some m)]] w fun e w'=>Aq (d.length<=200/\∀(i:Nat) x,d[i]?=some x->Ip now c ks d i x) w w' e:=by
 subst hX;have U:∀o1 o2,Zz w ((w.alloc o1).alloc o2):=fun o1 o2=>(Zy).alloc Yu _;by_cases hn:200<d.length
 .go_enter func70,ntmps70;go_wp2;go_ret;exact Aq.no (fun h=>by omega) (U _ _)
 .have V:=AN.below (AN.new w C now c g T P (.slice a d.length ac) 30) (Ae.alloc (Zx) (.cells #[Zg C,.map (some m)] 104));have hh:EA ((w.alloc (.cells #[Zg C,Zg now,Zg c,Zg g,T,P,(.slice a d.length ac)] 30)).alloc (.cells #[Zg C,.map (some m)] 104)) (w.heap.size+1) C m:=⟨by simp[go_sem],by simp[go_sem],Yu⟩;go_enter func70,ntmps70;go_wp2
  go_loopw [14] (fun i wr=>∃k:Nat,k<=d.length/\i=Zg k/\Zz w wr/\Hid (AN wr w.heap.size C now c g T P (.slice a d.length ac))/\Hid (EA wr (w.heap.size+1) C m)/\Hid (∀(j:Nat) x,j<k->d[j]?=some x->Ip now c ks d j x)) (fun i _=>d.length -(intOf i).toNat)
  case atStart=>exact⟨0,Nat.zero_le _,rfl,U _ _,V,hh,fun j x h=>by omega⟩
  case round=>
   obtain⟨k,hk,rfl,f,O,X,n⟩:=hrel;obtain⟨x0,x1,x2,x3,x4,x5,x6,x7⟩:=O.o;obtain⟨g0,g1,g2⟩:=X.o;by_cases hlt:k<d.length
   .obtain⟨b,zI,ha,hb,hc⟩:=(G.below f).at hlt;subst ha;have J:d[k]?=some d[k]:=Zv hlt;obtain⟨R,S,c2⟩:=hc k _ J;have F:=List.getElem_mem hlt;have m1:=hm.sum _ F;have zE:b<wr.heap.size:=Yv
    match k,hk,hlt,n,J,R,S,c2,m1 with
    |0,hk,hlt,n,J,R,S,c2,m1=>
     have q:=Yw J;clear hc G hm F J;simp only[Nat.zero_mul,Nat.add_zero]at R S c2;generalize d[0]=x at *
     go_wp2;go_quiet (fail);have l:Below w.heap.size w ((wr.alloc (Obj.cells #[Value.int IntKind.i64 x.H,Value.string x.sum,Value.int IntKind.i64 x.R] 71)).drewN nq):=AZ (f.alloc f.size _) _;have A:Below wr.heap.size wr ((wr.alloc (Obj.cells #[Value.int IntKind.i64 x.H,Value.string x.sum,Value.int IntKind.i64 x.R] 71)).drewN nq):=AZ (Zy) _
     have Y:((wr.alloc (Obj.cells #[Value.int IntKind.i64 x.H,Value.string x.sum,Value.int IntKind.i64 x.R] 71)).drewN nq).cell? (Zd (wr.heap.size) 2)=some (Zg x.R):=by rw[IF];simp
     have Z:((wr.alloc (Obj.cells #[Value.int IntKind.i64 x.H,Value.string x.sum,Value.int IntKind.i64 x.R] 71)).drewN nq).heap.size=wr.heap.size+1:=by rw[IG];simp
     obtain⟨ok,B,M⟩:=v x.sum;have W:=Yw (M _ l);have N:=Yw (Zn Y Z);clear v M Y Z;by_cases hlo:1<=x.H
     .have E:decide (x.H<1)=false:=Yt
      by_cases hhi:x.H<=c
      .have D:decide (c<x.H)=false:=Yt
       go_wp2_with fail;refine W.Ah ?_;rintro e w2 ⟨rfl,r⟩;have z:=l.trans (r.mono l.size);have t:=A.trans (r.mono A.size);cases ok with
       |false=>go_wp2;go_ret;refine Aq.no (fun h=> ?_) (z);exact by have:=B.2 (h.2 _ _ q.o).sum;cases this
       |true=>
        obtain⟨y0,y1,y2,y3,y4,y5,y6,y7⟩:=AN.ag O.o t x7;have e2:=(r.cell (p:=⟨wr.heap.size,2,none⟩) (by rw[N.o.2];simp)).trans N.o.1;have u:=Yw (Zn z (Zn (AN.ag O.o t x7) (EA.ag X.o t g2)));have HO:=Yw (B.1 rfl);clear x0 x1 x2 x3 x4 x5 x6 g0 g1 A r z t O X B W N U V hh f m1 R S c2 l;by_cases ht1:now<x.R
        .have H:decide (x.R<=now)=false:=Yt
         by_cases ht2:x.R<=now+100000
         .have I:decide (now+100000<x.R)=false:=Yt
          have HA:Hid (∀(o:Nat) y,o<0+1->d[o]?=some y->Ip now c ks d o y):=by
           intro o y hj Q;rcases Nat.lt_or_ge o (0)with h'|h'
           .exact n.o o y h' Q
           .obtain rfl:o=0:=Yv
            rw[q.o]at Q;cases Q;exact⟨hlo,hhi,fun j p h=>by omega,HO.o,ht1,ht2⟩
          go_wp2;exact⟨⟨0+1,Yv,Yn,u.o.1,u.o.2.1,u.o.2.2,HA⟩,Ys⟩
         .have I:decide (now+100000<x.R)=true:=Yt
          go_wp2;go_ret;refine Aq.no (fun h=> ?_) (u.o.1);exact by have:=(h.2 _ _ q.o).je;omega
        .have H:decide (x.R<=now)=true:=Yt
         go_wp2;go_ret;refine Aq.no (fun h=> ?_) (u.o.1);exact by have:=(h.2 _ _ q.o).iy;omega
      .have D:decide (c<x.H)=true:=Yt
       go_wp2;go_ret;refine Aq.no (fun h=> ?_) (l);exact by have:=(h.2 _ _ q.o).hi;omega
     .have E:decide (x.H<1)=true:=Yt
      go_wp2;go_ret;refine Aq.no (fun h=> ?_) (l);exact by have:=(h.2 _ _ q.o).lo;omega
    |j+1,hk,hlt,n,J,R,S,c2,m1=>
     have q:=Yw J;have HP:Hid (d[j]?=some d[j]):=Zv Yv;obtain⟨d0,_,_⟩:=hc j _ HP.o;clear hc G hm F J;generalize d[j+1]=x at *
     generalize d[j]=p at *
     have zH:IntKind.i64.wrap (j:Int)=(j:Int):=wrap_small Yv Yv;have zF:(0:Int)<=(j:Int):=Yv
     have zG:(j:Int)<(d.length:Int):=Yv
     by_cases hless:p.H<x.H
     .have K:decide (x.H<=p.H)=false:=Yt
      go_wp2;go_quiet (fail);have l:Below w.heap.size w ((wr.alloc (Obj.cells #[Value.int IntKind.i64 x.H,Value.string x.sum,Value.int IntKind.i64 x.R] 71)).drewN nq):=AZ (f.alloc f.size _) _;have A:Below wr.heap.size wr ((wr.alloc (Obj.cells #[Value.int IntKind.i64 x.H,Value.string x.sum,Value.int IntKind.i64 x.R] 71)).drewN nq):=AZ (Zy) _
      have Y:((wr.alloc (Obj.cells #[Value.int IntKind.i64 x.H,Value.string x.sum,Value.int IntKind.i64 x.R] 71)).drewN nq).cell? (Zd (wr.heap.size) 2)=some (Zg x.R):=by rw[IF];simp
      have Z:((wr.alloc (Obj.cells #[Value.int IntKind.i64 x.H,Value.string x.sum,Value.int IntKind.i64 x.R] 71)).drewN nq).heap.size=wr.heap.size+1:=by rw[IG];simp
      obtain⟨ok,B,M⟩:=v x.sum;have W:=Yw (M _ l);have N:=Yw (Zn Y Z);clear v M Y Z;by_cases hlo:1<=x.H
      .have E:decide (x.H<1)=false:=Yt
       by_cases hhi:x.H<=c
       .have D:decide (c<x.H)=false:=Yt
        go_wp2_with fail;refine W.Ah ?_;rintro e w2 ⟨rfl,r⟩;have z:=l.trans (r.mono l.size);have t:=A.trans (r.mono A.size);cases ok with
        |false=>go_wp2;go_ret;refine Aq.no (fun h=> ?_) (z);exact by have:=B.2 (h.2 _ _ q.o).sum;cases this
        |true=>
         obtain⟨y0,y1,y2,y3,y4,y5,y6,y7⟩:=AN.ag O.o t x7;have e2:=(r.cell (p:=⟨wr.heap.size,2,none⟩) (by rw[N.o.2];simp)).trans N.o.1;have u:=Yw (Zn z (Zn (AN.ag O.o t x7) (EA.ag X.o t g2)));have HO:=Yw (B.1 rfl);clear x0 x1 x2 x3 x4 x5 x6 g0 g1 A r z t O X B W N U V hh f m1 R S c2 l;by_cases ht1:now<x.R
         .have H:decide (x.R<=now)=false:=Yt
          by_cases ht2:x.R<=now+100000
          .have I:decide (now+100000<x.R)=false:=Yt
           have HA:Hid (∀(o:Nat) y,o<(j+1)+1->d[o]?=some y->Ip now c ks d o y):=by
            intro o y hj Q;rcases Nat.lt_or_ge o ((j+1))with h'|h'
            .exact n.o o y h' Q
            .obtain rfl:o=(j+1):=Yv
             rw[q.o]at Q;cases Q;exact⟨hlo,hhi,fun j2 p2 h zA=>by cases h;rw[HP.o]at zA;cases zA;exact hless,HO.o,ht1,ht2⟩
           go_wp2;exact⟨⟨(j+1)+1,Yv,Yn,u.o.1,u.o.2.1,u.o.2.2,HA⟩,Ys⟩
          .have I:decide (now+100000<x.R)=true:=Yt
           go_wp2;go_ret;refine Aq.no (fun h=> ?_) (u.o.1);exact by have:=(h.2 _ _ q.o).je;omega
         .have H:decide (x.R<=now)=true:=Yt
          go_wp2;go_ret;refine Aq.no (fun h=> ?_) (u.o.1);exact by have:=(h.2 _ _ q.o).iy;omega
       .have D:decide (c<x.H)=true:=Yt
        go_wp2;go_ret;refine Aq.no (fun h=> ?_) (l);exact by have:=(h.2 _ _ q.o).hi;omega
      .have E:decide (x.H<1)=true:=Yt
       go_wp2;go_ret;refine Aq.no (fun h=> ?_) (l);exact by have:=(h.2 _ _ q.o).lo;omega
     .have K:decide (x.H<=p.H)=true:=Yt
      go_wp2;go_quiet (fail);go_wp2;go_ret;refine Aq.no (fun h=> ?_) (AZ (f.alloc f.size _) _);exact by have:=(h.2 _ _ q.o).up j p rfl HP.o;omega
   .go_wp2;go_ret;exact Aq.yes ⟨Yv,fun i x V=>n.o i x (by have:=(Zw V).1;omega) V⟩ f
end
section
attribute [local go_sem↓] Go.wp_at_zero Go.wp_at_succ
def seen(ks:List Kd)(k:Nat)(n:Int):Bool:=(ks.take k).any (fun x=>decide (x.born=n))
def flags(ks:List Kd)(k:Nat):Zj:=(List.range 601).map (fun(n:Nat)=>Value.bool (seen ks k n))
def later(ks:List Kd)(k:Nat):List Int:=((ks.take k).map (·.born)).filter (fun b=>decide (600<b))
theorem Nq(b:a[k]?=some x):a.take (k+1)=a.take k++[x]:=by obtain⟨h,rfl⟩:=Zw b;exact Zu h
theorem Tx(b:a[k]?=some x)(n:Int):seen a (k+1) n=(seen a k n||decide (x.born=n)):=by unfold seen;rw[Nq b,List.any_append];simp
theorem OR{c:List Kd}{n:Int}:seen c k n=true↔∃j p,j<k/\c[j]?=some p/\p.born=n:=by
 unfold seen;rw[List.any_eq_true];constructor
 .rintro⟨p,b,h⟩;obtain⟨j,a⟩:=List.getElem?_of_mem b;have d:=(Zw a).1;simp at d;rw[List.getElem?_take_of_lt Yv]at a;exact⟨j,p,Yv,a,by simpa using h⟩
 .rintro⟨j,p,a,b,h⟩;exact⟨p,Zs (i:=j) (by rw[List.getElem?_take_of_lt a];exact b),by simpa using h⟩
theorem JG(h:∀(i:Nat) k,a[i]?=some k->Jr c a i k):∀(d i:Nat) u v,a[i]?=some u->a[i+d+1]?=some v->less u.sum v.sum=true
 |0,i,u,v,hu,hv=>(h _ _ hv).up i u rfl hu
 |d+1,i,u,v,hu,hv=>by have e:=(Zw hv).1;have b:a[i+d+1]?=some (a[i+d+1]'(by omega)):=Zv Yv;exact Cb (JG h d i u _ hu b) ((h _ _ hv).up _ _ Yv b)
theorem UX{b:List Kd}(h:∀(i:Nat) k,b[i]?=some k->Jr f b i k){i:Nat}{u v:Kd}(d:b[i]?=some u)(a:b[j]?=some v)(e:u.sum=v.sum):u=v:=by
 rcases Nat.lt_trichotomy i j with c|c|c
 .have:=JG h (j -i -1) i u v d (by rw[show i+(j -i -1)+1=j from by omega];exact a);rw[e,BI]at this;cases this
 .subst c;rw[d]at a;cases a;rfl
 .have:=JG h (i -j -1) j v u a (by rw[show j+(i -j -1)+1=i from by omega];exact d);rw[e,BI]at this;cases this
structure ZC (w wr:Zh) (ks:List Kd) (k:Nat) (v:Value):Prop where
 cu:Below w.heap.size w wr
 fl:wr.ownsRow (w.heap.size+1) 4 1 (.slice (some ⟨w.heap.size+1,0,none⟩) 601 601) 601 (flags ks k)
 M:wr.ownsRow (w.heap.size+2) 3 1 v (later ks k).length ((later ks k).map (Value.int .i64))
theorem ZC.ag{a:Zh}{c:List Kd}{v:Value}(h:ZC w wr c k v)(b:Zz wr a):ZC w a c k v:=
 ⟨h.cu.trans (b.mono h.cu.size),h.fl.kept (Al none b) (.inr (by simp[Value.ownBlock])),h.M.kept (Al none b) (by cases v.ownBlock<;>simp)⟩
end
section
attribute [local go_sem↓] Go.wp_at_zero Go.wp_at_succ
theorem Lb:Maps.Keyed prog 3:=Maps.int_keyed underlying3
def ZD(ks:List Kd)(k:Nat)(f:Lit->Option Value):Prop:=∀z:Int,f (.int .i64 z)=if seen ks k z=true then some (.int .i64 1)else none
theorem Lc(H now A d:Int)(P L:Value)(a:Zk)(ac m:Nat)(g:List Kd)(w:Zh)(R:Bu w w.heap.size a g)(hl:g.length<=1048576)(zO:∀k∈g,k.B.length<=1048576)(zK:∀k∈g,(Lit.int .i64 k.born).wf=true)
 (yI:∀(i:Nat) k,g[i]?=some k->Jr H g i k) (F:∀s,YP w H m g s):
 Calls prog 68 #[.agg #[.int .i64 H,.int .i64 now,.int .i64 A,.int .i64 d,.slice a g.length ac,P,L],.agg #[.int .i64 H,.map (some m)]] w fun e w'=>Aq ((∀(i:Nat) k,g[i]?=some k->Js d g i k)/\(∀(i:Nat) k,g[i]?=some k->Lw g k)) w w' e:=by
 have yY:= @run_makeMap prog;go_enter func68,ntmps68;go_wp2;obtain⟨E,B⟩:=Af (((w.alloc (Obj.cells #[Value.int IntKind.i64 H,Value.int IntKind.i64 now,Value.int IntKind.i64 A,Value.int IntKind.i64 d,Value.slice a g.length ac,P,L] 30)).alloc (Obj.cells #[Value.int IntKind.i64 H,Value.map (some m)] 104)).alloc (Obj.map #[] 0));have Y:Below w.heap.size w E:=by rw[B];exact(((Zy).alloc (by simp) _).alloc (by simp;omega) _)
 have xO:E.heap.size=w.heap.size+3:=by rw[B];simp
 have zH:AJ E 3 (w.heap.size+1+1) 0 (fun _=>none):=by have:=AJ.new ((w.alloc (Obj.cells #[Value.int IntKind.i64 H,Value.int IntKind.i64 now,Value.int IntKind.i64 A,Value.int IntKind.i64 d,Value.slice a g.length ac,P,L] 30)).alloc (Obj.cells #[Value.int IntKind.i64 H,Value.map (some m)] 104)) 3;rw[B];simpa using this
 have s3:E.cell? ⟨w.heap.size,3,none⟩=some (.int .i64 d):=by rw[B];simp[go_sem]
 have g0:E.cell? ⟨w.heap.size+1,0,none⟩=some (.int .i64 H):=by rw[B];simp[go_sem]
 have g1:E.cell? ⟨w.heap.size+1,1,none⟩=some (.map (some m)):=by rw[B];simp[go_sem]
 rw[<-B];clear B yY
 go_loopw [16] (fun i wr=>∃(k:Nat) (f:Lit->Option Value),k<=g.length/\i=.int .i64 k/\Hid (AJ wr 3 (w.heap.size+1+1) k f)/\Hid (ZD g k f)/\Hid (E.grownBy wr (some (w.heap.size+1+1)))/\Hid (∀(j:Nat) x,j<k->g[j]?=some x->Js d g j x/\Lw g x)) (fun i _=>g.length -(intOf i).toNat)
 case atStart=>exact⟨0,_,Nat.zero_le _,rfl,zH,fun z=>by simp[seen],Bf _ _,fun j x h=>by omega⟩
 case round=>
  obtain⟨k,f,hk,rfl,HM,HO,zW,K⟩:=hrel;have J:E.grownBy wr (some (w.heap.size+1+1)):=zW.o;have n:Below w.heap.size w wr:=Y.grown J (by omega) (by intro j hj;cases hj;omega);have xP:=J.size;by_cases hlt:k<g.length
  .obtain⟨b,xQ,ha,hb,hc⟩:=(R.below n).at hlt;subst ha;have S:Hid (g[k]?=some g[k]):=Zv hlt;obtain⟨c0,c1,c2,ra,rc,c3,hr⟩:=hc k _ S.o;have Q:=List.getElem_mem hlt;have xN:=zO _ Q;have yK:=zK _ Q;have xL:b<wr.heap.size:=by omega
   have t3:=J.cell s3 (by simp;omega);have D:keyOf prog 3 (.int .i64 g[k].born)=some (.int .i64 g[k].born):=Maps.keyOf_int_mk underlying3 yK;have HR:Hid _:=hr;generalize g[k]=x at *
   clear hc hr Q;have zJ:Below wr.heap.size wr (wr.alloc (Obj.cells #[Value.string x.sum,Value.int IntKind.i64 x.born,Value.string x.J,Value.slice ra x.B.length rc] 66)):=Zy;have zI:=HM.o.ag zJ (by omega);have zM:=zI.look Lb underlying197 (QH _) D;rw[HO.o]at zM
   have zS:∃c:Int,(if seen g k x.born=true then some (Value.int .i64 1)else none).getD (.int .i64 0)=.int .i64 c/\(c=if seen g k x.born=true then 1 else 0):=by cases seen g k x.born<;>exact⟨_,rfl,rfl⟩
   obtain⟨c,yA,C⟩:=zS;rw[yA]at zM;have xF:0<=c:=by rw[C];split<;>omega
   have xG:c<=1:=by rw[C];split<;>omega
   obtain⟨o,xD,zN,I⟩:=zI.put Lb underlying197 (val:=.int .i64 (c+1)) (by unfold maxLen;omega) D;have O:=zN.look Lb underlying197 (QH _) D;rw[Df]at O;simp only[Option.getD_some]at O;have zB:E.grownBy o (some (w.heap.size+1+1)):=Ar J (Ar (Al _ zJ) I);have zY:Below w.heap.size w o:=Y.grown zB (by omega) (by intro j hj;cases hj;omega)
   have u1:o.cell? ⟨wr.heap.size,1,none⟩=some (.int .i64 x.born):=I.cell (by simp) (by simp;omega);have u3:o.cell? ⟨wr.heap.size,3,none⟩=some (.slice ra x.B.length rc):=I.cell (by simp) (by simp;omega);have v3:=zB.cell s3 (by simp;omega);have yL:wr.heap.size<o.heap.size:=by have:=I.size;simp at this;omega
   have U:Below w.heap.size wr o:=(Ae.alloc n.size _).grown I (by simp;have:=n.size;omega) (by intro j hj;cases hj;omega);have yO:Hid (Ad o w.heap.size ra x.B):=Ad.below HR.o U;have G:Hid _:=Zn zN (Zn zB zY);have HP:Hid _:=Zn J n;have HF:Hid _:=F;have zR:Hid _:=Zn R (Zn zO (Zn zK yI));clear zI zN I zB zY J n U HR R zO zK yI F HM zW D zJ yA yK zH Y s3 t3;by_cases hlo:1<=x.born
   .have zU:decide (x.born<1)=false:=by simp;omega
    by_cases hhi:x.born<=d
    .have zT:decide (d<x.born)=false:=by simp;omega
     cases hse:seen g k x.born with
     |true=>
      have zA:c=1:=by rw[C,hse];rfl
      have hd:decide (1<c+1)=true:=by simp;omega
      have zX:Hid _:=hse;clear C hse zA;go_wp2;go_ret;refine Aq.no (fun h=> ?_) G.o.2.2;obtain⟨j',p',yW,yZ,yT⟩:=OR.1 zX.o;exact(h.1 _ _ S.o).new j' p' yW yZ yT
     |false=>
      have zA:c=0:=by rw[C,hse];rfl
      have hd:decide (1<c+1)=false:=by simp;omega
      have zX:Hid _:=hse;have HB:Hid (Js d g k x):=⟨hlo,hhi,fun j2 p2 yX xA he=>by
       have:=OR.2 ⟨j2,p2,yX,xA,he⟩;rw[hse]at this;cases this⟩
      have yN:Hid (ZD g (k+1) (upd f (.int .i64 x.born) (.int .i64 (c+1)))):=by
       intro z;rw[Tx S.o];by_cases hz:z=x.born
       .subst hz;rw[Df,zA];simp
       .rw[Db _ _ (fun e=>hz (by cases e;rfl)),HO.o];have:decide (x.born=z)=false:=by simp;exact fun e=>hz e.symm
        rw[this];simp
      clear C hse zA HO;go_wp2;clear HP zM xD O;generalize hN:wr.heap.size=N at *
      go_loopw [46] (fun jv wz=>∃q:Nat,q<=x.B.length/\jv=.int .i64 q/\Hid (Zz o wz)/\Hid (∀(r:Nat) s,r<q->x.B[r]?=some s->∃u∈g,u.sum=s/\u.born<x.born)) (fun jv _=>x.B.length -(intOf jv).toNat)
      case atStart=>exact⟨0,Nat.zero_le _,rfl,Ae,fun r s h=>by omega⟩
      case round=>
       obtain⟨q,hq,rfl,yM,yG⟩:=hrel;have l:Below o.heap.size o wr:=yM.o;have Z:Below w.heap.size w wr:=G.o.2.2.trans (l.mono G.o.2.2.size);have y1:=(l.cell (p:=⟨N,1,none⟩) yL).trans u1;have p0:=(l.cell (p:=⟨w.heap.size+1,0,none⟩) (by simp;omega)).trans (G.o.2.1.cell g0 (by simp));have p1:=(l.cell (p:=⟨w.heap.size+1,1,none⟩) (by simp;omega)).trans (G.o.2.1.cell g1 (by simp))
       have zZ:N<wr.heap.size:=Zr yL l.size;have xJ:w.heap.size+1<wr.heap.size:=by have:=l.size;omega
       by_cases hql:q<x.B.length
       .have yE:Ad wr w.heap.size ra x.B:=Ad.below yO.o (l.mono (by omega));obtain⟨rb,xI,xB,xM,yF⟩:=yE.at hql;subst xB;have HS:Hid (x.B[q]?=some x.B[q]):=Zv hql;have es:=yF q _ HS.o;have xH:rb<wr.heap.size:=by omega
        generalize x.B[q]=s at *
        obtain⟨u,bo,t,sa,sb,sc,ok,yC,yB⟩:=HF.o s;have HC:Hid _:=yB wr Z;have zF:Hid _:=yC;have V:Hid _:=Zn l Z;clear yB yC yF yE l Z;go_wp2_with fail;refine HC.Ah ?_;rintro e w4 ⟨rfl,T⟩;have y4:=(T.cell (p:=⟨N,1,none⟩) zZ).trans y1;have xK:N<w4.heap.size:=Zr zZ T.size;have zG:Below w.heap.size w w4:=V.o.2.trans (T.mono V.o.2.size)
        have M:Below o.heap.size o w4:=V.o.1.trans (T.mono V.o.1.size);have zE:Hid _:=Zn zG M;have xC:o.heap.size<=w4.heap.size:=M.size;have yH:w.heap.size<=w4.heap.size:=zG.size;clear T zG M y1 p0 p1 es HC;cases ok with
        |false=>go_wp2;go_ret;refine Aq.no (fun h=> ?_) (zE.o.1.alloc yH _);obtain⟨v,hv,zC,_⟩:=h.2 _ _ S.o s (Zs HS.o);exact zF.o.no rfl ⟨v,hv,zC⟩
        |true=>
         obtain⟨v,hv,zC,yJ⟩:=zF.o.yes rfl;have X:Hid _:=Zn hv (Zn zC yJ);clear hv zC yJ zF;by_cases hlt2:bo<x.born
         .have yS:decide (x.born<=bo)=false:=by simp;omega
          have HN:Hid (∀(r:Nat) s,r<q+1->x.B[r]?=some s->∃u∈g,u.sum=s/\u.born<x.born):=by
           intro r s' yD zP;rcases Nat.lt_or_ge r q with h'|h'
           .exact yG.o r s' h' zP
           .obtain rfl:r=q:=by omega
            rw[HS.o]at zP;cases zP;exact⟨v,X.o.1,X.o.2.1,by rw[X.o.2.2];exact hlt2⟩
          go_wp2;exact⟨⟨q+1,by omega,by go_num,zE.o.2.alloc xC _,HN⟩,by simp[intOf];omega⟩
         .have yS:decide (x.born<=bo)=true:=by simp;omega
          go_wp2;go_ret;refine Aq.no (fun h=> ?_) (zE.o.1.alloc yH _);obtain⟨v',xE,zV,yR⟩:=h.2 _ _ S.o s (Zs HS.o);obtain⟨i2,yU⟩:=List.getElem?_of_mem X.o.1;obtain⟨i3,yV⟩:=List.getElem?_of_mem xE;have:=UX zR.o.2.2.2 yU yV (by rw[X.o.2.1,zV]);subst this;rw[X.o.2.2]at yR;omega
       .have HN:Hid (∀(j:Nat) y,j<k+1->g[j]?=some y->Js d g j y/\Lw g y):=by
         intro j y hj hy;rcases Nat.lt_or_ge j k with h'|h'
         .exact K.o j y h' hy
         .obtain rfl:j=k:=by omega
          rw[S.o]at hy;cases hy;refine⟨HB.o,fun r yD=> ?_⟩;obtain⟨p,hp⟩:=List.getElem?_of_mem yD;exact yG.o p r (by have:=(Zw hp).1;omega) hp
        have yQ:Hid (AJ wr 3 (w.heap.size+1+1) (k+1) (upd f (.int .i64 x.born) (.int .i64 (c+1)))):=G.o.1.ag l (by omega);have yP:Hid (E.grownBy wr (some (w.heap.size+1+1))):=Ar G.o.2.1 (Al _ l);clear l Z y1 p0 p1;go_wp2;exact⟨⟨k+1,_,by omega,by go_num,yQ,yN,yP,HN⟩,by simp[intOf];omega⟩
    .have zT:decide (d<x.born)=true:=by simp;omega
     clear C;go_wp2;go_ret;refine Aq.no (fun h=> ?_) G.o.2.2;have:=(h.1 _ _ S.o).hi;omega
   .have zU:decide (x.born<1)=true:=by simp;omega
    clear C;go_wp2;go_ret;refine Aq.no (fun h=> ?_) G.o.2.2;have:=(h.1 _ _ S.o).lo;omega
  .clear HM HO zH Y;go_wp2;go_ret;exact Aq.yes ⟨fun i x hx=>(K.o i x (by have:=(Zw hx).1;omega) hx).1,fun i x hx=>(K.o i x (by have:=(Zw hx).1;omega) hx).2⟩ n
end
theorem Tz(d now b a:Int)(T P L:Value)(w:Zh):
 Calls prog 65 #[.agg #[Zg d,Zg now,Zg b,Zg a,T,P,L]] w fun e g=>Aq (SN d now b a) w g e:=by
 have c:Below w.heap.size w (w.alloc (.cells #[Zg d,Zg now,Zg b,Zg a,T,P,L] 30)):=Zy;go_enter func65,ntmps65;go_wp2_with fail;refine(LC d _).mono ?_;rintro e f ⟨rfl,rfl⟩;by_cases h0:1<=d/\d<=8
 .rw[decide_eq_true h0];go_wp2_with fail;refine(JF now _).mono ?_;rintro e f ⟨rfl,rfl⟩;by_cases h1:0<=now/\now<=1000000000
  .rw[decide_eq_true h1];go_wp2_with fail;refine(JF b _).mono ?_;rintro e f ⟨rfl,rfl⟩;by_cases h2:0<=b/\b<=1000000000
   .rw[decide_eq_true h2];go_wp2_with fail;refine(JF a _).mono ?_;rintro e f ⟨rfl,rfl⟩;by_cases h3:0<=a/\a<=1000000000
    .rw[decide_eq_true h3];go_wp2;go_ret;exact Aq.yes ⟨h0.1,h0.2,h1.1,h1.2,h2.1,h2.2,h3.1,h3.2⟩ c
    .rw[decide_eq_false h3];go_wp2;go_ret;exact Aq.no (fun h=>h3 ⟨h.ai,h.fv⟩) c
   .rw[decide_eq_false h2];go_wp2;go_ret;exact Aq.no (fun h=>h2 ⟨h.bh,h.gm⟩) c
  .rw[decide_eq_false h1];go_wp2;go_ret;exact Aq.no (fun h=>h1 ⟨h.cn,h.ig⟩) c
 .rw[decide_eq_false h0];go_wp2;go_ret;exact Aq.no (fun h=>h0 ⟨h.im,h.jf⟩) c
theorem LM(g now c b:Int)(a p l:Zk)(J pc lc:Nat)(d:List Kd)(A:List Pd)(z:List Ld)(w:Zh)(j:Bt w w.heap.size a p l d A z)(hk:Rk d)(hp:Rl A)(hl:Rm z)(G:Ro d A z)(zN:∀k∈d,(Lit.int .i64 k.born).wf=true):
 Calls prog 27 #[.agg (Yg g now c b a d.length J p A.length pc l z.length lc)] w fun e w'=>Aq (CF g now c b d A z) w w' e:=by
 have yB:Below w.heap.size w (w.alloc (.cells (Yg g now c b a d.length J p A.length pc l z.length lc) 30)):=Zy;have hx:=AN.new w g now c b (.slice a d.length J) (.slice p A.length pc) (.slice l z.length lc) 30;have zY:=Yw zN;clear zN;go_enter func27,ntmps27;go_wp2_with fail;refine(Tz g now c b _ _ _ _).mono ?_;rintro e w1 ⟨b1,rfl,V,Z⟩;have L:=yB.trans (Z.mono Yu);have yG:=hx.below Z
 clear Z hx;cases b1 with
 |false=>go_wp2;go_ret;exact Aq.no (fun h=>by have:=V.2 h.dz;cases this) L
 |true=>
  have F:=V.1 rfl;clear V;obtain⟨n,o,q,r,t,u,v,x⟩:=yG;go_wp2_with fail;refine(KZ g now c b a J _ _ d _ (j.N L).k hk G.k G.r F.im F.jf).mono ?_;rintro e w2 ⟨b2,rfl,X,zA⟩;have M:=L.trans (zA.mono L.size);have yH:=AN.below ⟨n,o,q,r,t,u,v,x⟩ zA;clear zA n o q r t u v x;cases b2 with
  |false=>go_wp2;go_ret;exact Aq.no (fun h=>by have:=X.2 ⟨h.nth,h.th⟩;cases this) M
  |true=>
   obtain⟨hn,Y⟩:=X.1 rfl;have zG:=Yw Y;clear X;have zT:∀k∈d,(k.sum.size:Int)=g:=fun k yC=>by obtain⟨i,hi⟩:=List.getElem?_of_mem yC;rw[(Y i k hi).sum];exact GH k g F.im
   have I:=Yw zT;clear Y zT;obtain⟨n,o,q,r,t,u,v,x⟩:=yH;go_wp2_with fail;refine(KD g now c b a J _ _ d _ (j.N M).k G.k I.o F.jf).mono ?_;rintro e T ⟨m,f,rfl,hm,hM,hH,Q⟩;have y:=M.trans (Q.mono M.size);have zV:=AN.below ⟨n,o,q,r,t,u,v,x⟩ Q;have z3:=Q.size;have HH:=Yw hH;clear Q n o q r t u v x hH;obtain⟨R,C⟩:=Af (T.alloc (.cells #[Zg g,.map (some m)] 104))
   have K:Below T.heap.size T R:=by rw[C];exact Zy
   have s3:R.heap.size=T.heap.size+1:=by rw[C];simp
   have q3:EA R T.heap.size g m:=by rw[C];exact EA.new _ _ _ _
   have H:=zV.below K;have P:=hM.ag K hM.lt;have y:=y.trans (K.mono y.size);have zH:=Yw C;clear C K hM;obtain⟨n,o,q,r,t,u,v,x⟩:=zV;have HQ:=Yw (Zn H q3);clear H q3;go_wp2_with fail;rw[<-zH.o];refine(Lc g now c b _ _ a J m d R (j.N y).k G.k G.r zY.o zG.o (fun s=>LB g m _ f d _ _ s R P HH.o I.o)).mono ?_;rintro e w4 ⟨b4,rfl,zI,D⟩;have N:=y.trans (D.mono y.size);have zW:=AN.below HQ.o.1 D
   have zO:=EA.ag HQ.o.2 D HQ.o.2.2.2;have B:=P.ag D P.lt;clear D n o q r t u v x zH P HQ;have zB:=Yw zI;clear zI;cases b4 with
   |false=>clear zW zO B;go_wp2;go_ret;exact Aq.no (fun h=>by have:=zB.o.2 ⟨h.born,h.ref⟩;cases this) N
   |true=>
    obtain⟨zM,zS⟩:=zB.o.1 rfl;have zF:=Yw (Zn zM zS);clear zM zS;obtain⟨n,o,q,r,t,u,v,x⟩:=zW;obtain⟨g0,g1,S⟩:=zO;go_wp2_with fail;refine(MC g now c b _ _ _ p pc m d A w4 (j.N N).p hp G.p (fun s=>Gp g m _ f d _ _ s w4 B HH.o I.o) rfl).mono ?_;rintro e w5 ⟨b5,rfl,zJ,E⟩;have O:=N.trans (E.mono N.size);have zX:=AN.below ⟨n,o,q,r,t,u,v,x⟩ E;have zP:=EA.ag ⟨g0,g1,S⟩ E S;have U:=B.ag E B.lt
    clear E n o q r t u v x g0 g1 S B;have zC:=Yw zJ;clear zJ;cases b5 with
    |false=>clear zX zP U;go_wp2;go_ret;exact Aq.no (fun h=>by have:=zC.o.2 ⟨h.np,h.ci⟩;cases this) O
    |true=>
     obtain⟨yF,zR⟩:=zC.o.1 rfl;have zZ:=Yw zR;clear zR;obtain⟨n,o,q,r,t,u,v,x⟩:=zX;obtain⟨g0,g1,S⟩:=zP;go_wp2_with fail;refine(La g now c b _ _ _ l lc m d z w5 (j.N O).l hl G.l F.cn F.ig (fun s=>Gp g m _ f d _ _ s w5 U HH.o I.o) rfl).mono ?_;rintro e w6 ⟨b6,rfl,zK,zU⟩;have yA:=O.trans (zU.mono O.size);have zE:=Yw zK;clear zK n o q r t u v x g0 g1 S U zU;go_wp2;go_ret
     refine⟨_,rfl,⟨fun h=> ?_,fun h=>zE.o.2 ⟨h.nl,h.ia⟩⟩,yA⟩;obtain⟨yE,yD⟩:=zE.o.1 h;exact⟨F,hn,yF,yE,zG.o,zF.o.1,zF.o.2,zZ.o,yD⟩
section
def IN(wd:Int)(k:Kd):Int:=1+k.B.length *wd+k.J.size
def DA(wd:Int)(ks:List Kd):Int:=(ks.map (IN wd)).sum
theorem LN(b:a[k]?=some x):DA wd (a.take (k+1))=DA wd (a.take k)+IN wd x:=by unfold DA;rw[Nq b,List.map_append,List.sum_append];simp
theorem OS(h:AF x.J x.B wd=true):1<=IN wd x/\IN wd x<=2241/\0<=(x.B.length:Int) *wd/\(x.B.length:Int) *wd<=240:=by have h:=Be h;have b:=h.lo;have a:=h.hi;have c:=h.B;have d:=h.J;have e:0<=(x.B.length:Int) *wd:=Int.mul_nonneg Yv Yv;have f:(x.B.length:Int) *wd<=30 *8:=Int.mul_le_mul Yv a Yv Yv;unfold IN;omega
theorem OT(h:∀(i:Nat) k,a[i]?=some k->AF k.J k.B wd=true):∀k,k<=a.length->0<=DA wd (a.take k)/\DA wd (a.take k)<=2241 *k
 |0,_=>by simp[DA]
 |k+1,hk=>by have c:=OT h k Yv;have b:a[k]?=some (a[k]'(by omega)):=Zv Yv;have:=OS (h k _ b);rw[LN b];omega
theorem RI(wd now f d:Int)(a:Zk)(l:Nat)(P L:Value)(c:List Kd)(w:Zh)(g:Bu w w.heap.size a c)(T:c.length<=600)(h:∀(i:Nat) k,c[i]?=some k->AF k.J k.B wd=true):
 Calls prog 145 #[.agg #[Zg wd,Zg now,Zg f,Zg d,.slice a c.length l,P,L]] w fun e F=>e=.returned (Zg (DA wd c))/\Zz w F:=by
 have s:Below w.heap.size w (w.alloc (.cells #[Zg wd,Zg now,Zg f,Zg d,.slice a c.length l,P,L] 30)):=Zy;go_enter func145,ntmps145;go_wp2
 go_loopw [3,4] (fun n i wr=>∃(k m:Nat),k<=c.length/\i=Zg k/\n=Zg (DA wd (c.take k))/\wr=(w.alloc (.cells #[Zg wd,Zg now,Zg f,Zg d,.slice a c.length l,P,L] 30)).drewN m) (fun _ i _=>c.length -(intOf i).toNat)
 case atStart=>exact⟨0,0,Nat.zero_le _,rfl,by simp[DA],rfl⟩
 case round=>
  obtain⟨k,m,C,rfl,rfl,rfl⟩:=hrel;by_cases hlt:k<c.length
  .obtain⟨b,I,B,S,r⟩:=g.at hlt;subst B;have j:Hid (c[k]?=some c[k]):=Zv hlt;obtain⟨J,K,c2,U,V,c3,_⟩:=r k _ j.o;have t:=OS (h k _ j.o);have u:=OT h k C;have v:=Yw (LN (wd:=wd) j.o);have G:(0:Int)<=(k:Int):=Yv
   have H:(k:Int)<(c.length:Int):=Yv
   obtain⟨o,q,y,z⟩:=t;obtain⟨D,E⟩:=u;have A:DA wd (c.take k)<=1344600:=Yv
   generalize c[k]=x at *
   unfold IN at o q;generalize hRK:DA wd (c.take k)=R at *
   have M:IntKind.i64.wrap (R+1)=R+1:=IH Yv Yv;have N:IntKind.i64.wrap ((x.B.length:Int) *wd)=(x.B.length:Int) *wd:=IH Yv Yv;have O:IntKind.i64.wrap (R+1+(x.B.length:Int) *wd)=R+1+(x.B.length:Int) *wd:=IH Yv Yv;have Q:IntKind.i64.wrap (R+1+(x.B.length:Int) *wd+x.J.size)=R+1+(x.B.length:Int) *wd+x.J.size:=IH Yv Yv
   clear r g h o q y z D E A hRK;go_wp2;go_quiet (fail);go_wp2;refine⟨⟨k+1,_,Yv,Yn,?_,rfl⟩,Ys⟩;rw[v.o];unfold IN;congr 1;omega
  .go_wp2;go_ret;exact⟨Re (by rw[Zt Yv]),AZ s _⟩
open Classical in
end
def BF(out:Zl)(s:Zi):Zl:=if out.any (fun x=>decide (x=s))=true then out else out++[s]
theorem Qe(a:Zl)(s:Zi):(BF a s).length<=a.length+1:=by unfold BF;split<;>simp
theorem Nr{a:Zl}{x:Zi}(o:Zl)(b:a[k]?=some x):(a.take (k+1)).foldl BF o=BF ((a.take k).foldl BF o) x:=by obtain⟨h,rfl⟩:=Zw b;rw[Zu h,List.foldl_append];rfl
theorem Ie(a o:Zl):(a.foldl BF o).length<=o.length+a.length:=by
 induction a generalizing o with
 |nil=>simp
 |cons x a ih=>have b:=ih (BF o x);have c:=Qe o x;simp only[List.foldl_cons,List.length_cons];omega
theorem OU{d:Nat}{a:Zk}{c:Nat}{b:Zl}(h:w.ownsRow d 9 1 (.slice a b.length c) b.length (b.map Value.string)):Ad w w.heap.size a b:=by
 rcases h.2 with⟨e,f⟩|⟨g,cap,i,e,_⟩
 .exact .inl (List.eq_nil_of_length_eq_zero f)
 .cases e;exact Ad.own h
def DH(ps:List Pd)(ls:List Ld):Zl:=(ls.map (·.sum)).foldl BF ((ps.map (·.sum)).foldl BF [])
theorem RJ(E now h d:Int)(T:Value)(p l:Zk)(D C:Nat)(a:List Pd)(f:List Ld)(w:Zh)(hp:AO w w.heap.size p a)(hq:AM w w.heap.size l f)(zI:a.length<=100)(zH:f.length<=200):
 Calls prog 150 #[.agg #[Zg E,Zg now,Zg h,Zg d,T,.slice p a.length D,.slice l f.length C]] w fun e w'=>∃g c,e=.returned (Yz g (DH a f).length c)/\w'.ownsRow (w.heap.size+1) 9 1 (Yz g (DH a f).length c) (DH a f).length ((DH a f).map Value.string)/\Zz w w':=by
 obtain⟨i0,Z,Q,R,S⟩:=info_parts Cq;have zB:=Yw hp;have zA:=Yw hq;have Y:=AN.new w E now h d T (.slice p a.length D) (.slice l f.length C) 30;have P:Below w.heap.size w (w.alloc (.cells #[Zg E,Zg now,Zg h,Zg d,T,.slice p a.length D,.slice l f.length C] 30)):=Zy;clear hp hq;unfold DH;go_enter func150,ntmps150;go_wp2
 go_loopw [3,4] (fun v i wr=>∃(k g c:Nat),k<=a.length/\i=Zg k/\v=Yz g (((a.map (·.sum)).take (k)).foldl BF []).length c/\Hid (wr.ownsRow (w.heap.size+1) 9 1 (Yz g (((a.map (·.sum)).take (k)).foldl BF []).length c) (((a.map (·.sum)).take (k)).foldl BF []).length ((((a.map (·.sum)).take (k)).foldl BF []).map Value.string))/\Zz w wr/\Hid (AN wr w.heap.size E now h d T (.slice p a.length D) (.slice l f.length C))) (fun _ i _=>a.length -(intOf i).toNat)
 case atStart=>
  refine⟨0,w.heap.size+1,0,Nat.zero_le _,rfl,Yu,?_,P.alloc P.size _,Y.ag (Zy) Y.2.2.2.2.2.2.2⟩;have:=World.ownsRow_lit (e:=9) (w.alloc (.cells #[Zg E,Zg now,Zg h,Zg d,T,.slice p a.length D,.slice l f.length C] 30)) #[] (size:=1) 0 (base:=w.heap.size+1) Yu (by simp[maxLen]) rfl
  rw[show(w.alloc (.cells #[Zg E,Zg now,Zg h,Zg d,T,.slice p a.length D,.slice l f.length C] 30)).heap.size=w.heap.size+1 from by simp]at this;exact this
 case round=>
  clear Y;obtain⟨k,g,c,hk,rfl,rfl,q,n,z⟩:=hrel;obtain⟨x0,x1,x2,x3,x4,x5,x6,x7⟩:=z.o;by_cases hlt:k<a.length
  .obtain⟨b,zG,W,hb,I⟩:=(AO.below zB.o n).at hlt;subst W;have H:Hid (a[k]?=some a[k]):=Zv hlt;obtain⟨_,c1⟩:=I k _ H.o;have zC:b<wr.heap.size:=Yv
   have HN:Hid ((a.map (·.sum))[k]?=some a[k].sum):=by show _=_;rw[List.getElem?_map,H.o];rfl
   clear I;generalize a[k]=x at *
   have hlen:(((a.map (·.sum)).take (k)).foldl BF []).length<=0+k:=by
    have:=Ie ((a.map (·.sum)).take k) ([])
    skip
    simp at this;omega
   have G:=Yw (Nr ([]) HN.o);generalize hO:((a.map (·.sum)).take (k)).foldl BF []=O at *
   have zE:=(q.o.lt g rfl).1;have zF:=(q.o.lt g rfl).2;have V:Hid (Ad wr wr.heap.size (some ⟨g,0,none⟩) O):=OU q.o;go_wp2_with fail;refine(Fw _ c O x.sum wr _ V.o Yv).mono ?_;rintro e K ⟨rfl,rfl⟩;cases hin:O.any (fun y=>decide (y=x.sum))with
   |true=>
    have r:Hid (((a.map (·.sum)).take (k+1)).foldl BF []=O):=by show _=_;rw[G.o];unfold BF;rw[if_pos hin]
    go_wp2;refine⟨⟨k+1,g,c,Yv,Yn,by rw[r.o],?_,n,z⟩,Ys⟩;rw[r.o];exact q
   |false=>
    have r:Hid (((a.map (·.sum)).take (k+1)).foldl BF []=O++[x.sum]):=by show _=_;rw[G.o];unfold BF;rw[if_neg (by rw[hin];decide)]
    go_wp2_with (first
     |(at_builtin;refine wpList_append_own _ rfl _ _ 23 rfl (w.heap.size+1) 9 i0 Zc 1 16 underlying23 Z Q R S rfl Yq _ O.length (O.map Value.string) rfl ?d0 ⟨K.heap.size,0,none⟩ 1 1 [.string x.sum] rfl rfl ?d1 ?d2 ?d3 ?d4 ?d5 ?_)
     |go_in)
    case d0=>exact q.o.alloc _
    case d1=>exact cell_one_new _ _ _
    case d2=>intro u J;simp at J;subst J;rfl
    case d3=>unfold maxLen;omega
    case d4=>omega
    case d5=>simp;omega
    intro v' t m o _;obtain⟨B,A,N,_,_⟩:=m.form Yv;subst N;have s:Below (w.heap.size+1) K t:=(Ae.alloc Yv _).grown o Yt (by intro j X;simp[Value.ownBlock]at X;omega);have U:Hid (Zz w t):=n.trans (s.mono Yv);have M:=Yw (AN.ag z.o s Yv)
    have L:Hid (t.ownsRow (w.heap.size+1) 9 1 (Yz B (O.length+1) A) (O.length+1) ((O++[x.sum]).map Value.string)):=(by simpa using m:World.ownsRow t (w.heap.size+1) 9 1 (Yz B (O.length+1) A) (O.length+1) ((O++[x.sum]).map Value.string));clear m o s;go_wp2;refine⟨⟨k+1,B,A,Yv,Yn,by rw[r.o];simp,?_,U.o,M⟩,Ys⟩;rw[r.o,List.length_append];exact L
  .rw[Zt Yt]at q |-;go_wp2
   go_loopw [3,5] (fun v i wr=>∃(k g c:Nat),k<=f.length/\i=Zg k/\v=Yz g (((f.map (·.sum)).take (k)).foldl BF ((a.map (·.sum)).foldl BF [])).length c/\Hid (wr.ownsRow (w.heap.size+1) 9 1 (Yz g (((f.map (·.sum)).take (k)).foldl BF ((a.map (·.sum)).foldl BF [])).length c) (((f.map (·.sum)).take (k)).foldl BF ((a.map (·.sum)).foldl BF [])).length ((((f.map (·.sum)).take (k)).foldl BF ((a.map (·.sum)).foldl BF [])).map Value.string))/\Zz w wr/\Hid (AN wr w.heap.size E now h d T (.slice p a.length D) (.slice l f.length C))) (fun _ i _=>f.length -(intOf i).toNat)
   case atStart=>exact⟨0,g,c,Nat.zero_le _,rfl,rfl,q,n,z⟩
   case round=>
    clear x0 x1 x2 x3 x4 x5 x6 x7;obtain⟨k,g,c,hk,rfl,rfl,q,n,z⟩:=hrel;obtain⟨x0,x1,x2,x3,x4,x5,x6,x7⟩:=z.o;by_cases hlt:k<f.length
    .obtain⟨b,zG,W,hb,I⟩:=(AM.below zA.o n).at hlt;subst W;have H:Hid (f[k]?=some f[k]):=Zv hlt;obtain⟨_,c1,_⟩:=I k _ H.o;have zC:b<wr.heap.size:=Yv
     have HN:Hid ((f.map (·.sum))[k]?=some f[k].sum):=by show _=_;rw[List.getElem?_map,H.o];rfl
     clear I;generalize f[k]=x at *
     have hlen:(((f.map (·.sum)).take (k)).foldl BF ((a.map (·.sum)).foldl BF [])).length<=a.length+k:=by have:=Ie ((f.map (·.sum)).take k) ((a.map (·.sum)).foldl BF []);have F:=Ie (a.map (·.sum)) [];simp at F;simp at this;omega
     have G:=Yw (Nr ((a.map (·.sum)).foldl BF []) HN.o);generalize hO:((f.map (·.sum)).take (k)).foldl BF ((a.map (·.sum)).foldl BF [])=O at *
     have zE:=(q.o.lt g rfl).1;have zF:=(q.o.lt g rfl).2;have V:Hid (Ad wr wr.heap.size (some ⟨g,0,none⟩) O):=OU q.o;go_wp2_with fail;refine(Fw _ c O x.sum wr _ V.o Yv).mono ?_;rintro e K ⟨rfl,rfl⟩;cases hin:O.any (fun y=>decide (y=x.sum))with
     |true=>
      have r:Hid (((f.map (·.sum)).take (k+1)).foldl BF ((a.map (·.sum)).foldl BF [])=O):=by show _=_;rw[G.o];unfold BF;rw[if_pos hin]
      go_wp2;refine⟨⟨k+1,g,c,Yv,Yn,by rw[r.o],?_,n,z⟩,Ys⟩;rw[r.o];exact q
     |false=>
      have r:Hid (((f.map (·.sum)).take (k+1)).foldl BF ((a.map (·.sum)).foldl BF [])=O++[x.sum]):=by show _=_;rw[G.o];unfold BF;rw[if_neg (by rw[hin];decide)]
      go_wp2_with (first
       |(at_builtin;refine wpList_append_own _ rfl _ _ 23 rfl (w.heap.size+1) 9 i0 Zc 1 16 underlying23 Z Q R S rfl Yq _ O.length (O.map Value.string) rfl ?d0 ⟨K.heap.size,0,none⟩ 1 1 [.string x.sum] rfl rfl ?d1 ?d2 ?d3 ?d4 ?d5 ?_)
       |go_in)
      case d0=>exact q.o.alloc _
      case d1=>exact cell_one_new _ _ _
      case d2=>intro u J;simp at J;subst J;rfl
      case d3=>unfold maxLen;omega
      case d4=>omega
      case d5=>simp;omega
      intro v' t m o _;obtain⟨B,A,N,_,_⟩:=m.form Yv;subst N;have s:Below (w.heap.size+1) K t:=(Ae.alloc Yv _).grown o Yt (by intro j X;simp[Value.ownBlock]at X;omega);have U:Hid (Zz w t):=n.trans (s.mono Yv);have M:=Yw (AN.ag z.o s Yv)
      have L:Hid (t.ownsRow (w.heap.size+1) 9 1 (Yz B (O.length+1) A) (O.length+1) ((O++[x.sum]).map Value.string)):=(by simpa using m:World.ownsRow t (w.heap.size+1) 9 1 (Yz B (O.length+1) A) (O.length+1) ((O++[x.sum]).map Value.string));clear m o s;go_wp2;refine⟨⟨k+1,B,A,Yv,Yn,by rw[r.o];simp,?_,U.o,M⟩,Ys⟩;rw[r.o,List.length_append];exact L
    .rw[Zt Yt]at q |-;go_wp2;go_ret;exact⟨_,_,rfl,q.o,n⟩
end Go.Proofs.YtoglnpagihdhpaaGreatDoor
