import Derived.Test.YtckmnfhmoankmaaGreatDoorX10
import Derived.Test.YtckmnfhmoankmaaGreatDoorX11
set_option maxRecDepth 100000
set_option maxHeartbeats 16000000
namespace Go.Proofs.YtckmnfhmoankmaaGreatDoor
open Go.ChangeShapes Go.WideShapes Go.ChangeAt Go.RowKit _root_.Go.Proofs.Tryz
theorem Ns(a:Zk)(c:Nat)(s:Zi)(w:Zh):
 Calls prog 234 #[.slice a 0 c,Cw s,.func (.func 235) #[] #[]] w fun e d=>e=.returned (.tuple #[Zf,.bool false])/\Zz w d:=by
 unfold Cw Da;go_enter func234,ntmps234;go_wp2
 go_loopw [9,10] (fun i j wr=>i=Zg 0/\j=Zg 0/\Zz w wr) (fun _ _ _=>0)
 case atStart=>exact⟨rfl,rfl,Zy⟩
 case round=>
  obtain⟨rfl,rfl,b⟩:=hrel;have f:=AG.ne wr;go_wp2;refine AN (by kernel_rfl) (by kernel_rfl) ?_
  repeat (go_big_quiet_step (fail))
  refine wpQuiet_nil ?_;intro m;go_wp2
  go_ret2
  exact⟨by first|rfl|simp[Act.put],b.trans (m.h.mono b.size)⟩
theorem WI(base:Nat)(O:Value)(c:Zl)(s:Zi)(w:Zh)(f:w.ownsRow base 191 8 O c.length (AW c))(p:c.length<=600)(m:s.size<=8)(n:∀x∈c,x.size=s.size)(d:c.Pairwise (fun a b=>less a b=true)):
 Calls prog 234 #[O,Cw s,.func (.func 235) #[] #[]] w fun e k=>∃i:Nat,e=.returned (.tuple #[Zg i,.bool (decide (c[i]?=some s))])/\Fs c s i/\Zz w k:=by
 rcases f.2 with⟨rfl,r⟩|⟨g,l,t,rfl,_⟩
 ·have:c=[]:=List.eq_nil_of_length_eq_zero r;subst this;refine(Ns none 0 s w).mono ?_;rintro e k ⟨rfl,o⟩;exact⟨0,by simp,⟨Zx,fun j x h=>by omega,fun j x _ q=>by simp at q⟩,o⟩
 ·exact KT g l c s w base f p m n d
theorem YE(base d m:Nat)(j:Zk)(k:Nat)(P L:Value)(S B given ae:Int)(c:List Kd)(s:Zi)(w:Zh)(f:Aa w d [Zg S,.map (some m),Zg B,Zg given,Zg ae,.slice j c.length k,P,L])(g:w.ownsRow base 191 8 (.slice j c.length k) c.length (AW (c.map (·.sum))))
 (M:c.length<=600) (z:s.size<=8) (A:∀x∈c,x.sum.size=s.size) (h:(c.map (·.sum)).Pairwise (fun a b=>less a b=true)):
 Calls prog 215 #[Yz d,Cw s] w fun e R=>∃i:Nat,e=.returned (.tuple #[Zg i,.bool (decide ((c.map (·.sum))[i]?=some s))])/\Fs (c.map (·.sum)) s i/\Zz w R:=by
 obtain⟨W,n⟩:∃W,W=w.alloc (.cells (Yw (kB s)) 191):=⟨_,rfl⟩;have l:=(AJ n).1;have t:Aa W w.heap.size (Am s):=by rw[n];exact Aa.new w (Am s) 191
 have o:W.drew.ownsRow base 191 8 (.slice j c.length k) (c.map (·.sum)).length (AW (c.map (·.sum))):=by rw[List.length_map];exact Ag g l.drew
 have q:=Yx (WI base (.slice j c.length k) (c.map (·.sum)) s W.drew o (by rw[List.length_map];exact M) z (fun x N=>by obtain⟨y,O,rfl⟩:=List.mem_map.1 N;exact A y O) h)
 have K:W.drew.cell? (Ze d 5)=some (.slice j c.length k)/\(W.drew.cell? (Ze (w.heap.size) 0)=some (.int .u8 (kB s 0))/\W.drew.cell? (Ze (w.heap.size) 1)=some (.int .u8 (kB s 1))/\W.drew.cell? (Ze (w.heap.size) 2)=some (.int .u8 (kB s 2))/\W.drew.cell? (Ze (w.heap.size) 3)=some (.int .u8 (kB s 3))/\W.drew.cell? (Ze (w.heap.size) 4)=some (.int .u8 (kB s 4))/\W.drew.cell? (Ze (w.heap.size) 5)=some (.int .u8 (kB s 5))/\W.drew.cell? (Ze (w.heap.size) 6)=some (.int .u8 (kB s 6))/\W.drew.cell? (Ze (w.heap.size) 7)=some (.int .u8 (kB s 7))):=⟨(Aa.below f l 5 _ rfl).1,GZ (w:=W.drew) t⟩
 have r:=Yx n;clear n t o f g;unfold Cw Da at *
 go_enter func215,ntmps215;go_upto_region 1 with fail;rw[←r.o];clear r;obtain⟨Q,C,D,E,F,G,H,I,J⟩:=K;go_region_with (go_at_call 234;refine Calls.mono q.o ?_;rintro e T ⟨i,rfl,v,u⟩)
 all_goals
  have p:=Yx (Zn v (l.trans ((DF u).mono l.size)));clear v u Q C D E F G H I J q;go_wp2
  go_ret2
  exact⟨i,by first|rfl|simp[Act.put],p.o.1,p.o.2⟩
def DL(ks:List Kd)(x:Kd):List Kd:=ks.filter (fun k=>less k.sum x.sum)++[x]++ks.filter (fun k=> !(less k.sum x.sum))
theorem Hi{a:List Kd}{x u:Kd}:u∈DL a x↔u∈a++[x]:=by
 unfold DL;simp only[List.mem_append,List.mem_filter,List.mem_singleton];cases less u.sum x.sum<;>simp
 ·constructor
  ·rintro(h|h)
   ·exact .inr h
   ·exact .inl h
  ·rintro(h|h)
   ·exact .inr h
   ·exact .inl h
theorem OG(a:List Kd)(x:Kd):(DL a x).length=a.length+1:=by
 unfold DL;rw[List.length_append,List.length_append];have:∀l:List Kd,(l.filter (fun k=>less k.sum x.sum)).length+(l.filter (fun k=> !(less k.sum x.sum))).length=l.length:=by
  intro l;induction l with
  |nil=>rfl
  |cons y l ih=>cases h:less y.sum x.sum<;>simp[h]<;>omega
 have:=this a;simp;omega
theorem Ru{b:List Kd}{x:Kd}{i:Nat}(h:Fs (b.map (·.sum)) x.sum i):DL b x=b.take i++[x]++b.drop i:=by
 have lo:∀k∈b.take i,less k.sum x.sum=true:=fun k a=>by obtain⟨j,c⟩:=List.getElem?_of_mem a;have f:=(Zw c).1;rw[List.length_take]at f;rw[List.getElem?_take_of_lt (by omega)]at c;exact h.lo j k.sum (by omega) (by rw[List.getElem?_map,c];rfl)
 have d:∀k∈b.drop i,less k.sum x.sum=false:=fun k a=>by obtain⟨j,c⟩:=List.getElem?_of_mem a;rw[List.getElem?_drop]at c;exact h.hi (i+j) k.sum (by omega) (by rw[List.getElem?_map,c];rfl)
 have e:=(List.take_append_drop i b).symm;unfold DL
 conv=>lhs;rw[e]
 rw[List.filter_append,List.filter_append,List.filter_eq_self.2 lo,List.filter_eq_nil_iff.2 (fun k a=>by rw[d k a];simp),List.filter_eq_nil_iff.2 (fun k a=>by rw[lo k a];simp),List.filter_eq_self.2 (fun k a=>by rw[d k a];rfl)];simp
theorem WJ{d m n:Nat}{O P L a:Option Nat}(h:(d::m::(O.toList++(P.toList++L.toList))).Nodup)(e:∀b∈d::m::(O.toList++(P.toList++L.toList)),b<n)(c:a=O∨∃g,a=some g/\n<=g):(d::m::(a.toList++(P.toList++L.toList))).Nodup:=by
 rcases c with rfl|⟨g,rfl,f⟩
 ·exact h
 ·cases O<;>cases P<;>cases L<;>simp_all<;>grind
theorem DU.newK{w j:Zh}{base d m:Nat}{O P L:Value}{l k given ae:Int}{z:List Kd}{u:List Pd}{t:List Ld}(h:DU w base d m O P L l k given ae z u t)(s:Tn (d::m::O.ownBlock.toList) w j){c:Value}{i:List Kd}{a:Int}(o:Aa j d [Zg l,.map (some m),Zg k,Zg given,Zg a,c,P,L])(y:∃n f,n<=1000000+a.toNat/\Bs j 191 m n f/\Cb j base (vB d m c P L) l i f)(x:j.ownsRow base 191 8 c i.length (AW (i.map (·.sum))))(v:c.ownBlock=O.ownBlock∨∃g,c.ownBlock=some g/\w.heap.size<=g):DU j base d m c P L l k given a i u t:=by
 obtain⟨A,p,q,r⟩:=Dp h.dr.ap;refine⟨⟨o,y,x,Ak h.dr.cl (fun g b=>s.block g (Ac h.dr.cl b).2 (fun e=> ?_)),Ak h.dr.ci (fun g b=>s.block g (Ac h.dr.ci b).2 (fun e=> ?_)),h.dr.bd,h.dr.bm,WJ h.dr.ap h.dr.cf v⟩⟩
 ·rcases List.mem_cons.1 e with e|e
  ·exact(q g b).1 e
  ·rcases List.mem_cons.1 e with e|e
   ·exact(q g b).2.1 e
   ·exact(p g (by simpa using e)).2.2.1 b
 ·rcases List.mem_cons.1 e with e|e
  ·exact(r g b).1 e
  ·rcases List.mem_cons.1 e with e|e
   ·exact(r g b).2 e
   ·exact(p g (by simpa using e)).2.2.2 b
theorem LX{a:List Kd}{x:Kd}{i:Nat}(h:Fs (a.map (·.sum)) x.sum i):(a.map (·.sum)).take i++[x.sum]++(a.map (·.sum)).drop i=(DL a x).map (·.sum):=by rw[Ru h];simp[List.map_take,List.map_drop]
theorem Cb.snoc{w:Zh}{base:Nat}{V:List Nat}{b:Int}{i:List Kd}{f:Lit->Option Value}(h:Cb w base V b i f){x:Kd}{g:Zk}{rc:Nat}(r:(x.sum.size:Int)=b)(q:b<=8)(o:DE w base V g x.refs):Cb w base V b (i++[x]) (upd f (keyL x.sum) (Es x g rc)):=by
 intro s p;by_cases he:keyL s=keyL x.sum
 ·have:s=x.sum:=key_inj he (by omega) (by omega);subst this;exact .inr ⟨x,g,rc,by simp,rfl,DV _ _ _,o⟩
 ·rw[DO _ _ he];have j:x.sum≠s:=fun e=>he (by rw[e]);rcases h s p with⟨c,d⟩|⟨u,k,l,c,d,m,n⟩
  ·refine .inl ⟨c,fun⟨u,a,e⟩=> ?_⟩;rcases List.mem_append.1 a with a|a
   ·exact d ⟨u,a,e⟩
   ·simp at a;subst a;exact j e
  ·exact .inr ⟨u,k,l,by simp[c],d,m,n⟩
theorem Cb.same{w:Zh}{base:Nat}{V:List Nat}{i:Int}{g a:List Kd}{f:Lit->Option Value}(h:Cb w base V i g f)(d:∀u,u∈a↔u∈g):Cb w base V i a f:=by
 intro s j;rcases h s j with⟨b,c⟩|⟨u,l,m,b,c⟩
 ·exact .inl ⟨b,fun⟨k,hk,e⟩=>c ⟨k,(d k).1 hk,e⟩⟩
 ·exact .inr ⟨u,l,m,(d u).2 b,c⟩
def Qh(w:Zh)(base:Nat)(V:List Nat)(m:Nat)(wd ae:Int)(ks:List Kd):Prop:=∃n f,n<=1000000+ae.toNat/\Bs w 191 m n f/\Cb w base V wd ks f
theorem Qh.al{w g:Zh}{base m:Nat}{U V:List Nat}{i ae:Int}{e:List Kd}(h:Qh w base V m i ae e)(d:Tn U w g)(l:∀b∈U,b∈V)(o:m∉U):Qh g base V m i ae e:=by obtain⟨n,f,j,c,k⟩:=h;exact⟨n,f,j,Bs.same c (d.block m c.lt o),k.move d (fun b a=> .inl (l b a)) (fun b a=> .inl a)⟩
theorem HN.below{w b:Zh}{m N:Nat}(h:HN w m N)(d:Zz w b):HN b m N:=by obtain⟨n,f,c,a⟩:=h;exact⟨n,f,c,a.ak d a.lt⟩
theorem WK(base d m:Nat)(O P L:Value)(E G given ae:Int)(a:List Kd)(ps:List Pd)(ls:List Ld)(s text:Zi)(refs:Zl)(B:Zk)(rc:Nat)(w:Zh)(h:DU w base d m O P L E G given ae a ps ls)(zC:FA E a)(yG:(s.size:Int)=E)(hl:a.length<600)(yK:0<=ae)(yL:ae<1000000000)(hr:DE w base (vB d m O P L) B refs):
 Calls prog 204 #[Yz d,.string s,.agg #[.string text,.slice B refs.length rc]] w fun e w'=>e=.returned (.tuple #[])/\(∃O',DU w' base d m O' P L E G given (ae+1) (DL a ⟨s,ae+1,text,refs⟩) ps ls/\(O'.ownBlock=O.ownBlock∨∃g,O'.ownBlock=some g/\w.heap.size<=g))/\Tn (d::m::O.ownBlock.toList) w w':=by
 obtain⟨k,l,zH⟩:=Ar h.dr.ord;subst zH;obtain⟨W0,zB⟩:∃W,W=w.alloc (.cells #[.string text,.slice B refs.length rc] 51):=⟨_,rfl⟩;have Z:=(AJ zB).1;have x0:=(AJ zB).2.2;have y:=h.below Z;obtain⟨X,hX⟩:∃X,X=W0.setCell (Ze d 4) (Zg (ae+1)):=⟨_,rfl⟩;have yN:d<w.heap.size:=h.dr.box.lt;have tX:Tn [d] W0 X:=by rw[hX];exact EA _ _ _ _
 have N:Aa X d [Zg E,.map (some m),Zg G,Zg given,Zg (ae+1),.slice k a.length l,P,L]:=by rw[hX];exact y.dr.box.set 4 _
 have z:=Dp y.dr.ap;have xX:Aa X w.heap.size [.string text,.slice B refs.length rc]:=Aa.same x0 (tX.block _ x0.lt (by simp;omega));have oX:X.ownsRow base 191 8 (.slice k a.length l) a.length (AW (a.map (·.sum))):=Ak y.dr.ord (fun g hg=>tX.block g (Ac y.dr.ord hg).2 (by simp;exact(z.2.1 g hg).1))
 have uX:Qh X base (vB d m (.slice k a.length l) P L) m E ae a:=Qh.al y.dr.map tX (by intro b c;simp at c;subst c;simp[vB]) (by simp;exact fun e=>z.1 e.symm);have rX:DE X base (vB d m (.slice k a.length l) P L) B refs:=(hr.move (U:=[]) (Tn.of Z) (by simp) (fun b c=> .inl c)).move tX (by intro b c;simp at c;subst c;exact .inl (by simp[vB])) (fun b c=> .inl c);obtain⟨c4,k4⟩:=y.dr.box 4 _ rfl
 obtain⟨c5,_⟩:=y.dr.box 5 _ rfl;have yP:((a.length:Int)==600)=false:=by simp;omega
 have yM:(ae==1000000000)=false:=by simp;omega
 have zP:=Yx zB;have HX:=Yx hX;have T:=Yx h;have HP:=Yx (Zn N (Zn xX (Zn oX (Zn uX rX))));have HT:Hid (Tn [d] w X):=(Tn.of Z).trans tX;clear zB hX y h hr x0 tX N xX oX uX rX Z;go_enter func204,ntmps204;go_upto_region 1 with fail;rw[←zP.o];go_wp2_with fail;rw[←HX.o];clear HX zP;refine(LI s X).mono ?_;rintro e o ⟨rfl,H⟩;obtain⟨K,V⟩:∃W,W=o.alloc (.cells (Yw (kB s)) 191):=⟨_,rfl⟩;have zS:=(AJ V).1
 have D:Below X.heap.size X K:=H.trans (zS.mono H.size);have kK:Aa K o.heap.size (Am s):=by rw[V];exact Aa.new o (Am s) 191
 obtain⟨N,xX,oX,uX,rX⟩:=HP.o;have yJ:base<=X.heap.size:=Zm T.o.lo HT.o.size;have zA:=N.below D;have xK:=xX.below D;have oK:=Ag oX D;have rK:DE K base (vB d m (.slice k a.length l) P L) B refs:=rX.move (U:=[]) (Tn.of D) (by simp) (fun b c=> .inl c);obtain⟨n1,f,zY,zT,hH⟩:=Qh.al uX (U:=[]) (Tn.of D) (by simp) (by simp);have hM:=zT;have z:=Dp T.o.dr.ap;have yQ:m<K.heap.size:=hM.lt
 obtain⟨t,zM,Q,F⟩:=(hM.ak (Below.refl K.heap.size K).drew hM.lt).put keyed underlying157 (val:=Es ⟨s,ae+1,text,refs⟩ B rc) (by unfold maxLen;omega) (EM s);have n:K.grownBy t (some m):=Dn F;have kl:o.heap.size<K.heap.size:=kK.lt;have yR:m<w.heap.size:=by obtain⟨_,_,_,yA,_⟩:=T.o.dr.map;exact yA.lt
 have yS:w.heap.size<o.heap.size:=by have h1:=H.size;have h2:=xX.lt;omega
 have k5:Aa t o.heap.size (Am s):=Aa.co (v:=.int .u8 (kB s 0)) kK n (by omega);have x5:Aa t d _:=Aa.co zA n (fun e=>z.1 e.symm);have t5:Aa t w.heap.size [.string text,.slice B refs.length rc]:=Aa.co xK n (by omega)
 have P4:K.drew.cell? (Ze d 1)=some (.map (some m))/\K.drew.cell? (Ze d 4)=some (Zg (ae+1))/\K.drew.cell? (Ze (w.heap.size) 0)=some (.string text)/\K.drew.cell? (Ze (w.heap.size) 1)=some (.slice B refs.length rc)/\_:=⟨(zA 1 _ rfl).1,(zA 4 _ rfl).1,(xK 0 _ rfl).1,(xK 1 _ rfl).1,GZ (w:=K.drew) kK⟩
 have P5:t.cell? (Ze d 1)=some (.map (some m))/\t.cell? (Ze d 4)=some (Zg (ae+1))/\t.cell? (Ze (w.heap.size) 0)=some (.string text)/\t.cell? (Ze (w.heap.size) 1)=some (.slice B refs.length rc)/\_:=⟨(x5 1 _ rfl).1,(x5 4 _ rfl).1,(t5 0 _ rfl).1,(t5 1 _ rfl).1,GZ k5⟩
 have o5:t.ownsRow base 191 8 (.slice k a.length l) a.length (AW (a.map (·.sum))):=World.ownsRow.kept oK n (.inr (fun e=>(z.2.1 m e).2.1 rfl));have M:=YE base d m k l P L E G given (ae+1) a s t x5 o5 (by omega) (by have:=zC.w8;omega) (fun x hx=>by have:=zC.sz x hx;omega) zC.dd;unfold Cw Da at M zM;unfold Es at zM;have HQ:=Yx M
 have I:=Yx (Zn x5 (Zn o5 (Zn k5 (Zn Q (Zn n (Zn hH (Zn rK (Zn D zY))))))));have HK:=Yx V;clear N xX oX uX rX zA xK oK rK zT hM M V HP x5 o5 k5 Q F n hH t5 kK D zS c4 k4 c5;go_upto_region 5 with fail;rw[←HK.o];clear HK
 go_region_held3 (fun X=>X.cell? (Ze d 1)=some (.map (some m))/\X.cell? (Ze d 4)=some (Zg (ae+1))/\X.cell? (Ze (w.heap.size) 0)=some (.string text)/\X.cell? (Ze (w.heap.size) 1)=some (.slice B refs.length rc)/\(X.cell? (Ze (o.heap.size) 0)=some (.int .u8 (kB s 0))/\X.cell? (Ze (o.heap.size) 1)=some (.int .u8 (kB s 1))/\X.cell? (Ze (o.heap.size) 2)=some (.int .u8 (kB s 2))/\X.cell? (Ze (o.heap.size) 3)=some (.int .u8 (kB s 3))/\X.cell? (Ze (o.heap.size) 4)=some (.int .u8 (kB s 4))/\X.cell? (Ze (o.heap.size) 5)=some (.int .u8 (kB s 5))/\X.cell? (Ze (o.heap.size) 6)=some (.int .u8 (kB s 6))/\X.cell? (Ze (o.heap.size) 7)=some (.int .u8 (kB s 7))))
  (first|with_reducible exact P4|with_reducible exact P5)
  (fail)
 obtain⟨q0,q1,q2,q3,q4,q5,q6,q7⟩:=GZ I.o.2.2.1;clear P4 P5 zM;go_wp2_with fail;refine Calls.mono HQ.o ?_;rintro e C ⟨i,rfl,zK,q⟩;have zE:=Aa.below I.o.1 q;have zW:=Aa.below (v:=.int .u8 (kB s 0)) I.o.2.2.1 q;have zJ:C.ownsRow base 191 8 (.slice k a.length l) (a.map (·.sum)).length (Ab Am (a.map (·.sum))):=by rw[List.length_map];exact Ag I.o.2.1 q
 have yE:i<=a.length:=by have:=zK.le;rwa[List.length_map]at this
 obtain⟨A,hA⟩:∃A,A=C.drew.alloc (.cells (Am s).toArray 191):=⟨_,rfl⟩;have J:Below C.heap.size C A:=by rw[hA];exact(Below.refl _ _).drew.alloc (Zx) _
 have zN:base<=C.heap.size:=by have h1:=I.o.2.2.2.2.1.size;have h2:=q.size;have h3:=I.o.2.2.2.2.2.2.2.1.size;omega
 have r:=No (.slice k a.length l) i (a.map (·.sum)) s C.heap.size A base (Ag zJ J) (by rw[List.length_map];omega) (by rw[List.length_map];exact yE) (Zm zN J.size) (fun e=>Nat.lt_irrefl _ (Ac zJ e).2) (by rw[hA];exact heap_alloc_new C.drew _);rw[List.length_map,hA]at r;have HI:=Yx r;have M:=Yx zK;have xA:=zE.below J;have yC:d<C.heap.size:=zE.lt;obtain⟨y5,_⟩:=zE 5 _ rfl
 obtain⟨r0,r1,r2,r3,r4,r5,r6,r7⟩:=GZ zW;have H6:=Yx (Zn q (Zn J xA));have zF:=Yx hA;have zI:∀b,(Value.slice k a.length l).ownBlock=some b->b≠d/\b≠m:=fun b c=>⟨(z.2.1 b c).1,(z.2.1 b c).2.1⟩;have yD:d<A.heap.size:=xA.lt;clear q0 q1 q2 q3 q4 q5 q6 q7 zK r HQ zJ zE zW;go_upto_region 7 with fail;have zR:Below C.heap.size C (C.alloc (.cells (Yw (kB s)) 191)):=Zy
 have a5:=(zR.cell (p:=⟨d,5,none⟩) yC).trans y5;clear xA hA zR;unfold Am Da at HI
 go_region_law (first
  |(go_simp;go_at_call 224;refine Calls.mono HI.o ?_;rintro e Y ⟨O',rfl,S,zV,zX⟩;obtain⟨oa',oc',zH⟩:=Ar S;subst zH;have R:A.grownBy Y (Value.slice k a.length l).ownBlock:=(by rw[zF.o];exact zV);have x7:=Aa.same H6.o.2.2 (R.block d yD (fun e=>(zI d e.symm).1 rfl));obtain⟨f5,k5⟩:=x7 5 _ rfl))
 all_goals
  have j:(Value.slice oa' (a.length+1) oc').ownBlock=(Value.slice k a.length l).ownBlock∨(Value.slice oa' (a.length+1) oc').ownBlock=some A.heap.size:=by rw[zF.o];exact zX
  have H7:=Yx (Zn x7 (Zn R (Zn j S)));clear zX zV R x7 S j HI a5 r0 r1 r2 r3 r4 r5 r6 r7 y5 zF
  have V:(∃zG,DU (Y.setCell (Ze d 5) (.slice oa' (a.length+1) oc')) base d m zG P L E G given (ae+1) (DL a ⟨s,ae+1,text,refs⟩) ps ls/\(zG.ownBlock=(Value.slice k a.length l).ownBlock∨∃g,zG.ownBlock=some g/\w.heap.size<=g))/\Tn (d::m::(Value.slice k a.length l).ownBlock.toList) w (Y.setCell (Ze d 5) (.slice oa' (a.length+1) oc')):=by
   obtain⟨x5,o5,yT,Q,F,hH,rK,D,zY⟩:=I.o;obtain⟨q,J,xA⟩:=H6.o;obtain⟨x7,R,j,S⟩:=H7.o;have t1:Tn (d::m::(Value.slice k a.length l).ownBlock.toList) w X:=HT.o.mono (by simp)
   have t2:Tn (d::(Value.slice k a.length l).ownBlock.toList) t (Y.setCell (Ze d 5) (.slice oa' (a.length+1) oc')):=(((Tn.of q).trans (Tn.of J)).trans ((CG R).mono (fun b c=>List.mem_cons_of_mem _ c))).trans ((EA Y d 5 _).mono (by simp))
   have t3:Tn (d::m::(Value.slice k a.length l).ownBlock.toList) K (Y.setCell (Ze d 5) (.slice oa' (a.length+1) oc')):=(Tn.grown F (by simp)).trans (t2.mono (by intro b c;simp at c ⊢;rcases c with c|c<;>simp[c]));have tt:=(t1.trans (Tn.of D)).trans t3;have yI:w.heap.size<=K.heap.size:=Zm HT.o.size D.size;have yH:w.heap.size<=A.heap.size:=Zm (Zm (Zm yI F.size) q.size) J.size
   have yO:∀b∈d::m::(Value.slice k a.length l).ownBlock.toList,base<=b:=by
    intro b c;rcases List.mem_cons.1 c with rfl|c
    ·exact T.o.dr.bd
    ·rcases List.mem_cons.1 c with rfl|c
     ·exact T.o.dr.bm
     ·exact(Ac T.o.dr.ord (by simpa using c)).1
   have yF:(Y.setCell (Ze d 5) (.slice oa' (a.length+1) oc')).heap[m]?=t.heap[m]?:=t2.block m Q.lt (fun e=>by
    rcases List.mem_cons.1 e with e|e
    ·exact z.1 e.symm
    ·exact(zI m (by simpa using e)).2 rfl)
   have yB:=Bs.same Q yF;have zU:(Value.slice oa' (a.length+1) oc').ownBlock=(Value.slice k a.length l).ownBlock∨∃g,(Value.slice oa' (a.length+1) oc').ownBlock=some g/\w.heap.size<=g:=by
    rcases j with j|j
    ·exact .inl j
    ·exact .inr ⟨_,j,yH⟩
   have zO:∀b,(Value.slice oa' (a.length+1) oc').ownBlock=some b->b≠d:=fun b c=>by
    rcases j with j|j
    ·exact(zI b (j▸c)).1
    ·rw[j]at c;cases c;omega
   refine⟨⟨_,T.o.newK tt (x7.set 5 _) ⟨n1+1,_,by omega,yB,?_⟩ ?_ zU,zU⟩,tt⟩
   ·refine((hH.snoc (x:=⟨s,ae+1,text,refs⟩) (rc:=rc) yG zC.w8 rK).same (fun u=>Hi)).move t3 (fun b c=> .inl ?_) (fun b c=> ?_)
    ·unfold vB;simp only[List.mem_cons,List.mem_append]at c ⊢;rcases c with e|e|e
     ·exact .inl e
     ·exact .inr (.inl e)
     ·exact .inr (.inr (.inl e))
    ·unfold vB at c ⊢;simp only[List.mem_cons,List.mem_append]at c ⊢;rcases c with e|e|e|e|e
     ·exact .inl (.inl e)
     ·exact .inl (.inr (.inl e))
     ·rcases j with j|j
      ·rw[j]at e;exact .inl (.inr (.inr (.inl e)))
      ·rw[j]at e;simp at e;exact .inr (by have h1:=F.size;have h2:=q.size;have h3:=J.size;omega)
     ·exact .inl (.inr (.inr (.inr (.inl e))))
     ·exact .inl (.inr (.inr (.inr (.inr e))))
   ·rw[OG,←LX (x:=⟨s,ae+1,text,refs⟩) M.o];exact Bv S zO 5 _
  have zZ:=Yx V;clear V H7 H6 I;go_wp2
  go_end0
  exact⟨rfl,zZ.o⟩
theorem Vg(base d m:Nat)(O P L:Value)(x q given ae:Int)(a:List Kd)(t:List Pd)(r:List Ld)(s text:Zi)(k:Zk)(n l:Nat)(w:Zh)(h:DU w base d m O P L x q given ae a t r)(j:a.length=600∨ae=1000000000):
 Calls prog 204 #[Yz d,.string s,.agg #[.string text,.slice k n l]] w fun e u=>e=.panicked [{v:=ay 4 ⟨#[]⟩ ⟨#[]⟩,recovered:=false}]/\Zz w u:=by
 obtain⟨B,C,o⟩:=Ar h.dr.ord;subst o;obtain⟨z,c⟩:∃W,W=w.alloc (.cells #[.string text,.slice k n l] 51):=⟨_,rfl⟩;have b:=(AJ c).1;have g:=h.below b;obtain⟨c4,A⟩:=Aa.c2 g.dr.box 4 5;have f:=Yx c;have i:=Yx b;clear c g h b;by_cases hk:a.length=600
 ·have p:((a.length:Int)==600)=true:=by simp;omega
  clear j hk;go_enter func204,ntmps204;go_upto_region 1 with fail;rw[←f.o];go_wp2;exact⟨rfl,rfl,i.o⟩
 ·have p:((a.length:Int)==600)=false:=by simp;omega
  have y:(ae==1000000000)=true:=by simp;omega
  clear j hk;go_enter func204,ntmps204;go_upto_region 1 with fail;rw[←f.o];go_wp2;exact⟨rfl,rfl,i.o⟩
def Bm(text:Zi)(refs:Zl)(wd:Int):Zi:=EK (AH text refs wd).data.toList wd.toNat
theorem PD(a:Int)(m n:Nat)(f:Lit->Option Value)(h:List Kd)(W:Zh)(B:Nat)(s:Zi)(w:Zh)(l:Bs w 191 m n f)(p:Holds W B a h f)(g:(s.size:Int)=a):
 (¬Ay h s/\Calls prog 183 #[.agg #[Zg a,.map (some m)],.string s] w fun e j=>e=.returned (.tuple #[.agg #[Zd,Zf,Zd,Zc],.bool false])/\Zz w j)∨
 ∃x c i,x∈h/\x.sum=s/\Ad W B c x.refs/\Calls prog 183 #[.agg #[Zg a,.map (some m)],.string s] w fun e j=>e=.returned (.tuple #[.agg #[.string x.sum,Zg x.born,.string x.text,.slice c x.refs.length i],.bool true])/\Zz w j:=by
 rcases p s g with⟨b,d⟩|⟨x,c,i,b,d,k,o⟩
 ·exact .inl ⟨d,Hs a m n f s w l g _ _ _ _ _ ⟨_,_,_,rfl⟩ (by rw[b];rfl) (by rw[b];rfl)⟩
 ·exact .inr ⟨x,c,i,b,d,o,Hs a m n f s w l g _ _ _ _ _ ⟨_,_,_,rfl⟩ (by rw[k];rfl) (by rw[k];rfl)⟩
def ZE(base d m:Nat)(O P L:Value)(wd now given ae:Int)(ks:List Kd)(ps:List Pd)(ls:List Ld)(text:Zi)(refs:Zl)(w:Zh)(e:Ending)(w':Zh):Prop:=
 ((¬∀r∈refs,Ay ks r)/\e=.panicked [{v:=ay 2 ⟨#[]⟩ ⟨#[]⟩,recovered:=false}]/\Zz w w')∨
 ((∀r∈refs,Ay ks r)/\(
   (∃k∈ks,k.sum=Bm text refs wd/\AH k.text k.refs wd=AH text refs wd/\e=.returned (.string (Bm text refs wd))/\Zz w w')∨
   (∃k∈ks,k.sum=Bm text refs wd/\AH k.text k.refs wd≠AH text refs wd/\e=.panicked [{v:=ay 3 (AH k.text k.refs wd) (AH text refs wd),recovered:=false}]/\Zz w w')∨
   (¬Ay ks (Bm text refs wd)/\(ks.length=600∨ae=1000000000)/\e=.panicked [{v:=ay 4 ⟨#[]⟩ ⟨#[]⟩,recovered:=false}]/\Zz w w')∨
   (¬Ay ks (Bm text refs wd)/\ks.length<600/\ae<1000000000/\e=.returned (.string (Bm text refs wd))/\(∃O',DU w' base d m O' P L wd now given (ae+1) (DL ks ⟨Bm text refs wd,ae+1,text,refs⟩) ps ls/\(O'.ownBlock=O.ownBlock∨∃g,O'.ownBlock=some g/\w.heap.size<=g))/\Tn (d::m::O.ownBlock.toList) w w')))
theorem WL(base d m:Nat)(O P L:Value)(a s given ae:Int)(c:List Kd)(G:List Pd)(F:List Ld)(text:Zi)(refs:Zl)(y:Zk)(V:Nat)(w:Zh)(h:DU w base d m O P L a s given ae c G F)(yC:FA a c)(h1:1<=a)(yF:∀k∈c,k.text.size<=maxLen)(yE:((Bm text refs a).size:Int)=a)(yW:text.size<=maxLen)(xE:refs.length<=1000)(yU:0<=ae)(xB:ae<=1000000000)(hr:DE w base (vB d m O P L) y refs):
 Calls prog 174 #[Yz d,.agg #[.string text,.slice y refs.length V]] w (ZE base d m O P L a s given ae c G F text refs w):=by
 obtain⟨W,hW⟩:∃W,W=w.alloc (.cells #[.string text,.slice y refs.length V] 51):=⟨_,rfl⟩;have bW:=(AJ hW).1;have xF:=(AJ hW).2.1;have x0:=(AJ hW).2.2;have HW:=Yx hW;have HD:Hid (∀X,Zz W X->DU X base d m O P L a s given ae c G F/\DE X base (vB d m O P L) y refs/\Aa X w.heap.size [.string text,.slice y refs.length V]/\Zz w X):=fun X hX=>by have E:=bW.trans (hX.mono (by omega));exact⟨h.below E,hr.move (U:=[]) (Tn.of E) (by simp) (fun b E=> .inl E),Aa.below x0 hX,E⟩
 have u:=Yx yC;have yP:=Yx yF;have du:=h.lo;clear hW h hr bW yC yF;obtain⟨Z,zA⟩:=Aa.c2 x0 0 1;go_enter func174,ntmps174;go_upto_region 1 with fail;rw[←HW.o];clear HW;go_wp2
 go_loopw [15] (fun i wr=>∃(k:Nat),k<=refs.length/\i=Zg k/\Hid ((∀r∈refs.take k,Ay c r)/\Zz W wr)) (fun i _=>refs.length -(intOf i).toNat)
 case atStart=>exact⟨0,Nat.zero_le _,rfl,⟨fun r hr=>by simp at hr,Below.refl _ _⟩⟩
 case round=>
  clear Z zA x0;obtain⟨k,hk,rfl,D⟩:=hrel;obtain⟨Q,R,xr,zZ⟩:=HD.o wr D.o.2;have zM:=Yx Q;have zJ:=Yx zZ;obtain⟨Z,zA⟩:=Aa.c2 xr 0 1;by_cases hlt:k<refs.length
  ·obtain⟨b,xG,ha,xC,hc⟩:=R.row.at hlt;subst ha;have HG:=Yx (Zv hlt);have c0:=hc k _ HG.o;have yQ:=Yx (Zu hlt);clear hc Q R;generalize refs[k]=r at *
   by_cases hth:Ay c r
   ·have zR:=Yx (Ez base d m O P L a s given ae c G F r wr zM.o.dr u.o.sz hth);have zC:=Yx hth;clear hth;go_wp2_with fail;refine Calls.mono zR.o ?_;rintro e w2 ⟨rfl,q⟩;have B:=Yx (D.o.2.trans (q.mono D.o.2.size));clear zR q c0 Z zA xr;go_wp2;refine⟨⟨k+1,by omega,by go_num,⟨?_,B.o⟩⟩,by simp[intOf];omega⟩;rw[yQ.o];intro r' v;rcases List.mem_append.1 v with v|v
    ·exact D.o.1 r' v
    ·simp at v;rw[v];exact zC.o
   ·have yM:=Yx (JJ base d m O P L a s given ae c G F r wr zM.o.dr u.o.sz hth);have zC:=Yx hth;clear hth;go_wp2_with fail;refine Calls.mono yM.o ?_;rintro e w2 ⟨rfl,q⟩;go_wp2;exact⟨rfl,.inl ⟨fun f=>zC.o (f r (Zs HG.o)),rfl,zJ.o.trans (q.mono zJ.o.size)⟩⟩
  ·obtain rfl:k=refs.length:=by omega
   have f:=D.o.1;rw[Zt (Zx)]at f;have n:=Yx f;obtain⟨c0,_⟩:=Q.dr.box 0 _ rfl;have zI:=Yx D.o.2;clear f D;have yY:=zI.o.size;have D0:Below wr.heap.size wr wr.drew:=(Below.refl _ _).drew;have HF:=Yx (IZ text y V refs a wr.drew (Ad.af R.row D0) (by omega) yW);clear Q R;go_upto_region 6 with fail;go_region_with (go_at_call 148;refine Calls.mono HF.o ?_;rintro e w2 ⟨rfl,q⟩)
   all_goals
    have B:=Yx (zI.o.trans ((D0.trans q).mono yY));obtain⟨zS,yT,yZ,zG⟩:=HD.o w2 B.o;obtain⟨yS,_⟩:=zS.dr.box 0 _ rfl;have HS:=Yx (Ub (AH text refs a) a w2 (Jf _ _ _) h1 u.o.w8);have yO:Hid (EK (AH text refs a).data.toList a.toNat=Bm text refs a):=rfl;rw[yO.o]at HS;generalize hFF:AH text refs a=FF at *
    generalize hSS:Bm text refs a=SS at *
    clear q c0 Z zA xr HF D0 zZ;go_wp2_with fail;refine Calls.mono HS.o ?_;rintro e z ⟨rfl,zX⟩;have yJ:=Yx (B.o.trans (zX.mono B.o.size));obtain⟨N,zW,yI,H⟩:=HD.o z yJ.o;obtain⟨d0,d1⟩:=Aa.c2 N.dr.box 0 1;have zK:=Yx N;have yN:=Yx zW;have yR:=Yx yI;have o:=Yx H;obtain⟨n3,f3,xD,zF,zE⟩:=N.dr.map;clear zX HS yS zS yT yZ zG zW yI H N
    rcases PD a m n3 f3 c z z.heap.size SS z zF zE.holds yE with⟨yB,C⟩|⟨x,xa,xc,T,yH,yG,C⟩
    ·have J:=Yx C;have zP:=Yx yB;clear C yB zF zE;go_wp2_with fail;refine Calls.mono J.o ?_;rintro e w4 ⟨rfl,l⟩;obtain⟨Y,t⟩:∃Y,Y=w4.alloc (.cells #[Zd,Zf,Zd,Zc] 137):=⟨_,rfl⟩;have M:=(AJ t).1;have j:Hid (Zz z Y):=l.trans (M.mono l.size);have HY:=Yx t;have A:=zK.o.below j.o;have yX:=Aa.below yR.o j.o;obtain⟨y0,y1⟩:=Aa.c2 yX 0 1;have p:=Yx (o.o.trans (j.o.mono o.o.size))
     by_cases hfull:c.length=600∨ae=1000000000
     ·have HL:=Yx (Vg base d m O P L a s given ae c G F SS text y refs.length V Y A hfull);have yL:=Yx hfull;clear l t M A yX hfull d0 d1 J;go_upto_region 10 with fail;rw[←HY.o];go_wp2_with fail;refine Calls.mono HL.o ?_;rintro e w5 ⟨rfl,S⟩;go_wp2;exact⟨rfl,.inr ⟨n.o,.inr (.inr (.inl ⟨hSS▸zP.o,yL.o,rfl,p.o.trans (S.mono p.o.size)⟩))⟩⟩
     ·have yA:c.length<600:=by have:=u.o.len;omega
      have zY:ae<1000000000:=by omega
      have HL:=Yx (WK base d m O P L a s given ae c G F SS text refs y V Y A u.o yE yA yU zY (DE.move yN.o (U:=[]) (Tn.of j.o) (by simp) (fun b E=> .inl E)));clear l t M A yX hfull d0 d1 J;go_upto_region 10 with fail;rw[←HY.o];go_wp2_with fail;refine Calls.mono HL.o ?_;rintro e w5 ⟨rfl,⟨O',zT,zU⟩,zV⟩;have HQ:=Yx (Zn zT (Zn zU zV));clear zT zU zV HL;go_wp2;go_ret;subst hSS
      refine .inr ⟨n.o,.inr (.inr (.inr ⟨zP.o,yA,zY,rfl,⟨O',HQ.o.1,?_⟩,(Tn.of p.o).trans HQ.o.2.2⟩))⟩;rcases HQ.o.2.1 with e|⟨g,e,hg⟩
      ·exact .inl e
      ·exact .inr ⟨g,e,Zm p.o.size hg⟩
    ·have J:=Yx C;have K:Hid (x∈c/\x.sum=SS):=⟨T,yH⟩;clear C zF zE;go_wp2_with fail;refine Calls.mono J.o ?_;rintro e w4 ⟨rfl,l⟩;obtain⟨Y,t⟩:∃Y,Y=w4.alloc (.cells #[.string x.sum,Zg x.born,.string x.text,.slice xa x.refs.length xc] 137):=⟨_,rfl⟩;have M:=(AJ t).1;have j:Hid (Zz z Y):=l.trans (M.mono l.size);have HY:=Yx t;have A:=zK.o.below j.o;have yK:=(AJ t).2.2;obtain⟨y2,y3⟩:=Aa.c2 yK 2 3
     obtain⟨e0,_⟩:=A.dr.box 0 _ rfl;have p:=Yx (o.o.trans (j.o.mono o.o.size));have DY:Below Y.heap.size Y Y.drew:=(Below.refl _ _).drew;have xA:=A.lo;have I:=Ad.af yG (j.o.trans (DY.mono j.o.size));have zN:=Yx (IZ x.text xa xc x.refs a Y.drew I (by have:=(u.o.refs x T).1;omega) (yP.o x T));clear l t M A yK d0 d1 J yG I T yH;go_upto_region 12 with fail;rw[←HY.o]
     go_region_with (go_at_call 148;refine Calls.mono zN.o ?_;rintro e w5 ⟨rfl,S⟩)
     all_goals
      have zH:=Yx (p.o.trans ((DY.trans S).mono p.o.size));clear S y2 y3 e0 zN;by_cases hsame:AH x.text x.refs a=FF
      ·have hq:(FF.toList !=FF.toList)=false:=by simp
       rw[hsame];have zB:=Yx hsame;clear hsame;go_wp2;go_ret;subst hSS;exact .inr ⟨n.o,.inl ⟨x,K.o.1,K.o.2,zB.o.trans hFF.symm,rfl,zH.o⟩⟩
      ·have zB:=Yx hsame;have yV:=Ca hsame;have hq:((AH x.text x.refs a).toList !=FF.toList)=true:=by simp[bne,yV]
       clear hsame;generalize hGG:AH x.text x.refs a=GG at *
       have zO:=Yx hGG;clear hGG;go_wp2;subst hSS;refine⟨rfl,.inr ⟨n.o,.inr (.inl ⟨x,K.o.1,K.o.2,?_,?_,zH.o⟩)⟩⟩
       ·rw[zO.o,hFF];exact zB.o
       ·rw[zO.o,hFF];rfl
def Cu(wd ae:Int)(ks:List Kd)(text:Zi)(refs:Zl)(ks1:List Kd)(ah:Int):Prop:=
 (∃k∈ks,k.sum=Bm text refs wd/\AH k.text k.refs wd=AH text refs wd/\ks1=ks/\ah=ae)∨
 (¬Ay ks (Bm text refs wd)/\ks.length<600/\ae<1000000000/\ks1=DL ks ⟨Bm text refs wd,ae+1,text,refs⟩/\ah=ae+1)
def Gg(wd given ae:Int)(ks:List Kd)(ls:List Ld)(text:Zi)(refs:Zl)(c:Int)(a b:Zi):Prop:=
 ((¬∀r∈refs,Ay ks r)/\c=2/\a=⟨#[]⟩/\b=⟨#[]⟩)∨
 ((∀r∈refs,Ay ks r)/\(
   (∃k∈ks,k.sum=Bm text refs wd/\AH k.text k.refs wd≠AH text refs wd/\c=3/\a=AH k.text k.refs wd/\b=AH text refs wd)∨
   (¬Ay ks (Bm text refs wd)/\(ks.length=600∨ae=1000000000)/\c=4/\a=⟨#[]⟩/\b=⟨#[]⟩)∨
   ((∃ks1 ah,Cu wd ae ks text refs ks1 ah)/\(ls.length=200∨given=1000000000)/\c=4/\a=⟨#[]⟩/\b=⟨#[]⟩)))
theorem Cu.there{b ae:Int}{e:List Kd}{text:Zi}{refs:Zl}{a:List Kd}{ah:Int}(h:Cu b ae e text refs a ah):Ay a (Bm text refs b):=by
 rcases h with⟨k,c,d,_,rfl,_⟩|⟨_,_,_,rfl,_⟩
 ·exact⟨k,c,d⟩
 ·exact⟨⟨Bm text refs b,ae+1,text,refs⟩,Hi.2 (by simp),rfl⟩
theorem Cu.sz{b ae:Int}{e:List Kd}{text:Zi}{refs:Zl}{d:List Kd}{ah:Int}(h:Cu b ae e text refs d ah)(c:∀k∈e,(k.sum.size:Int)=b)(f:((Bm text refs b).size:Int)=b):∀k∈d,(k.sum.size:Int)=b:=by
 rcases h with⟨k,a,g,_,rfl,_⟩|⟨_,_,_,rfl,_⟩
 ·exact c
 ·intro k a;rcases List.mem_append.1 (Hi.1 a)with a|a
  ·exact c k a
  ·simp at a;rw[a];exact f
theorem Nt(base d m:Nat)(O P L:Value)(i q given ae:Int)(z:List Kd)(T:List Pd)(x:List Ld)(s K text:Zi)(n:Int)(refs:Zl)(G:Zk)(I:Nat)(w:Zh)(h:DU w base d m O P L i q given ae z T x)(zS:FA i z)(h1:1<=i)(yZ:∀k∈z,k.text.size<=maxLen)(yF:((Bm text refs i).size:Int)=i)(yY:text.size<=maxLen)(yV:refs.length<=1000)(yN:0<=ae)(yO:ae<=1000000000)(hr:DE w base (vB d m O P L) G refs)(hl:x.length<=200)(yR:0<=given)(xG:given<=1000000000)(yT:0<=q)(yU:q<=1000000000)(yW:0<=n)(yX:n<=1000000000):
 Calls prog 147 #[Yz d,.agg (Ym 1 s K n text G refs.length I)] w fun e w'=>(∃c a b,Gg i given ae z x text refs c a b/\e=.panicked [{v:=ay c a b,recovered:=false}]/\Tn (vB d m O P L) w w')∨
  (∃t ah,(∀r∈refs,Ay z r)/\Cu i ae z text refs t ah/\x.length<200/\given<1000000000/\e=.returned (.agg #[Zf,Zf,Zf,Zf,Zf,Zc,Zc,Zc,.string (Bm text refs i),Zg (given+1),Zd,Zd])/\∃O' L',DU w' base d m O' P L' i q (given+1) ah t T (x++[⟨given+1,Bm text refs i,q+n⟩])/\Tn (vB d m O P L) w w'):=by
 obtain⟨W,J⟩:∃W,W=((w.alloc (.cells (Ym 1 s K n text G refs.length I) 67)).alloc (.cells Yl 90)).alloc (.cells Yl 90):=⟨_,rfl⟩;have hB:=(Bh J).1;have yG:=(Bh J).2.1;have xE:=(Bh J).2.2.1;have zR:Aa W (w.heap.size+1) z12:=by have h1:=Aa.new (w.alloc (.cells (Ym 1 s K n text G refs.length I) 67)) z12 90;rw[World.size_alloc]at h1;rw[J];exact Aa.below (v:=Zf) h1 (Zy)
 have zO:Aa W (w.heap.size+2) z12:=by have h1:=Aa.new ((w.alloc (.cells (Ym 1 s K n text G refs.length I) 67)).alloc (.cells Yl 90)) z12 90;rw[World.size_alloc,World.size_alloc]at h1;rw[J];exact h1
 have yB:W.heap[w.heap.size+1]?=some (.cells Yl 90):=by rw[J,Below.heap_alloc _ _ _ (by simp)];have:=heap_alloc_new (w.alloc (.cells (Ym 1 s K n text G refs.length I) 67)) (.cells Yl 90);rw[World.size_alloc]at this;exact this
 have zY:W.heap[w.heap.size+2]?=some (.cells Yl 90):=by have:=heap_alloc_new ((w.alloc (.cells (Ym 1 s K n text G refs.length I) 67)).alloc (.cells Yl 90)) (.cells Yl 90);rw[World.size_alloc,World.size_alloc]at this;rw[J];exact this
 have hD:=h.below hB;have xF:=h.dr.box.lt;have yE:∀b∈vB d m O P L,b<w.heap.size:=h.dr.cf;have xD:base<=w.heap.size:=h.lo;have HC:=Yx (WL base d m O P L i q given ae z T x text refs G I W hD zS h1 yZ yF yY yV yN yO (hr.move (U:=[]) (Tn.of hB) (by simp) (fun b f=> .inl f)));have HW:=Yx J;have HZ:=Yx (Zb zR (Zb zO (Zb yB (Zb zY (Zb hB (Zb yG xE))))));have zV:Hid (∀b∈vB d m O P L,b<w.heap.size):=yE
 have yI:Hid (DU W base d m O P L i q given ae z T x):=hD;have yJ:Hid (∀k∈z,(k.sum.size:Int)=i):=zS.sz;obtain⟨e0,e3,e4,e5⟩:=Aa.c4 xE 0 3 4 5;clear J h hD zR zO yB zY hB yG xE yE hr zS;go_enter func147,ntmps147;go_upto_region 2 with fail;rw[←HW.o];clear HW;go_wp2_with fail;refine Calls.mono HC.o ?_;intro e A D;have zG:Tn (vB d m O P L) w W:=Tn.of HZ.o.2.2.2.2.1;obtain⟨hrefs,rfl,f⟩|⟨C,D⟩:=D
 ·clear e0 e3 e4 e5;go_wp2;exact⟨rfl,.inl ⟨2,_,_,.inl ⟨hrefs,rfl,rfl,rfl⟩,rfl,zG.trans (Tn.of f)⟩⟩
 have zK:(∃c a b,Gg i given ae z x text refs c a b/\e=.panicked [{v:=ay c a b,recovered:=false}]/\Tn (vB d m O P L) W A)∨(e=.returned (.string (Bm text refs i))/\∃t ah S,Cu i ae z text refs t ah/\DU A base d m S P L i q given ah t T x/\Tn (vB d m O P L) W A/\(S.ownBlock=O.ownBlock∨∃g,S.ownBlock=some g/\W.heap.size<=g)):=by
  rcases D with⟨k,hk,hs,hf,rfl,f⟩|⟨k,hk,hs,hf,rfl,f⟩|⟨zA,o,rfl,f⟩|⟨zA,yS,yQ,rfl,⟨O',zN,zF⟩,ht⟩
  ·exact .inr ⟨rfl,z,ae,O,.inl ⟨k,hk,hs,hf,rfl,rfl⟩,yI.o.below f,Tn.of f,.inl rfl⟩
  ·exact .inl ⟨3,_,_,.inr ⟨C,.inl ⟨k,hk,hs,hf,rfl,rfl,rfl⟩⟩,rfl,Tn.of f⟩
  ·exact .inl ⟨4,_,_,.inr ⟨C,.inr (.inl ⟨zA,o,rfl,rfl,rfl⟩)⟩,rfl,Tn.of f⟩
  ·exact .inr ⟨rfl,_,_,O',.inr ⟨zA,yS,yQ,rfl,rfl⟩,zN,ht.mono (by intro b f;unfold vB;simp at f ⊢;rcases f with rfl|rfl|f<;>simp[*]),zF⟩
 clear D;have zC:Hid (∀r∈refs,Ay z r):=C;clear C;obtain⟨c,a,b,zA,rfl,ht⟩|⟨rfl,t,ah,S,F,zP,R,zN⟩:=zK
 ·clear e0 e3 e4 e5;go_wp2;exact⟨rfl,.inl ⟨c,a,b,zA,rfl,zG.trans ht⟩⟩
 have zz:=HZ.o.2.2.2.2.2.1;have Z:∀j,w.heap.size<=j->j∉vB d m O P L:=fun j hj h=>by have:=zV.o _ h;omega
 have zJ:Aa A (w.heap.size+1) z12:=Aa.same HZ.o.1 (R.block _ (by omega) (Z _ (by omega)));have zB:Aa A (w.heap.size+2) z12:=Aa.same HZ.o.2.1 (R.block _ (by omega) (Z _ (by omega)));have zI:Aa A w.heap.size (Yn 1 s K n text G refs.length I):=Aa.same HZ.o.2.2.2.2.2.2 (R.block _ (by omega) (Z _ (by omega)))
 have N:A.heap[w.heap.size+1]?=some (.cells Yl 90):=(R.block _ (by omega) (Z _ (by omega))).trans HZ.o.2.2.1;have l:A.heap[w.heap.size+2]?=some (.cells Yl 90):=(R.block _ (by omega) (Z _ (by omega))).trans HZ.o.2.2.2.1;obtain⟨X,hX⟩:∃X,X=A.setCell (Ze (w.heap.size+2) 8) (.string (Bm text refs i)):=⟨_,rfl⟩;have M:Tn [w.heap.size+2] A X:=by rw[hX];exact EA _ _ _ _
 have u:Aa X (w.heap.size+2) (z12.set 8 (.string (Bm text refs i))):=by rw[hX];exact zB.set 8 _
 have B:Aa X (w.heap.size+1) z12:=Aa.same zJ (M.block _ zJ.lt (by simp));have zT:Aa X w.heap.size (Yn 1 s K n text G refs.length I):=Aa.same zI (M.block _ zI.lt (by simp));have H:DU X base d m S P L i q given ah t T x:=zP.al M (by intro b f;simp at f;subst f;exact⟨by omega,zP.cm l (by omega)⟩);have o8:=(zB 8 _ rfl).2;have v8:=(zB 8 _ rfl).1;have E:=F.sz yJ.o yF;have Y:=Yx (Zn F (Zn zP (Zn R zN)))
 have zM:=Yx (Zn M (Zn u (Zn B (Zn H (Zn l N)))));have zW:=Yx hX;have yK:Hid (∃yL,X.heap[w.heap.size+2]?=some (.cells yL 90)):=⟨_,by rw[hX,setCell_eq_setRow A _ _ _ _ _ _ l];exact setRow_heap A _ _ _ _ _ l⟩;obtain⟨yM,_⟩:=zT 3 _ rfl;have s8:=(u 8 _ rfl).1;have xC:w.heap.size+2<X.heap.size:=u.lt;by_cases o:x.length=200∨given=1000000000
 ·have HL:=Yx (MJ base d m S P L i q given ah t T x (Bm text refs i) n X H E F.there o);clear e0 e3 e4 e5 hX M u B zT H zJ zB zI N l E HC;go_upto_region 5 with fail;rw[←zW.o];go_wp2_with fail;refine Calls.mono HL.o ?_;rintro e w2 ⟨rfl,yP⟩;go_wp2;refine⟨rfl,.inl ⟨4,_,_,.inr ⟨zC.o,.inr (.inr ⟨⟨_,_,Y.o.1⟩,o,rfl,rfl,rfl⟩)⟩,rfl,?_⟩⟩
  have t0:=(zG.trans Y.o.2.2.1).fresh zM.o.1 (show w.heap.size<=w.heap.size+2 by omega);exact t0.trans (Tn.of yP)
 ·have yD:x.length<200:=by omega
  have yC:given<1000000000:=by omega
  have HL:=Yx (Oe base d m S P L i q given ah t T x (Bm text refs i) n X H E F.there yD yR yC yT yU yW yX);clear e0 e3 e4 e5 hX M u B zT H zJ zB zI N l E HC o;go_upto_region 5 with fail;rw[←zW.o];go_wp2_with fail;refine Calls.mono HL.o ?_;rintro e w2 ⟨rfl,L',zH,Q⟩;obtain⟨M,u,B,H,l,N⟩:=zM.o
  have y:∀b∈d::L.ownBlock.toList,b<w.heap.size:=fun b f=>zV.o b (by unfold vB;simp at f ⊢;rcases f with rfl|f<;>simp[*]);have yH:Aa w2 (w.heap.size+1) z12:=Aa.same B (Q.block _ B.lt (fun h=>by have:=y _ h;omega));have p:Aa w2 (w.heap.size+2) (z12.set 8 (.string (Bm text refs i))):=Aa.same u (Q.block _ u.lt (fun h=>by have:=y _ h;omega))
  have yA:X.heap[w.heap.size+1]?=_:=(M.block _ (by have:=Y.o.2.2.1.size;omega) (by simp)).trans N;have zZ:w2.heap[w.heap.size+1]?=some (.cells Yl 90):=(Q.block _ B.lt (fun h=>by have:=y _ h;omega)).trans yA;obtain⟨zU,zX⟩:=yK.o;have zF:w2.heap[w.heap.size+2]?=some (.cells zU 90):=(Q.block _ u.lt (fun h=>by have:=y _ h;omega)).trans zX
  have zE:=Yx (Zn zH (Zn Q (Zn (zH.cm zZ (by omega)) (zH.cm zF (by omega)))));obtain⟨⟨y0,q0⟩,⟨y1,q1⟩,⟨y2,q2⟩,⟨y3,q3⟩,⟨y4,q4⟩,⟨y5,q5⟩,⟨y6,q6⟩,⟨y7,q7⟩,⟨y8,q8⟩,⟨y9,q9⟩,⟨xA,xJ⟩,xB,xK⟩:=AZ yH;obtain⟨v0,p0⟩:=p 0 _ rfl;obtain⟨v1,p1⟩:=p 1 _ rfl;obtain⟨v2,p2⟩:=p 2 _ rfl;obtain⟨v3,p3⟩:=p 3 _ rfl;obtain⟨v4,p4⟩:=p 4 _ rfl;obtain⟨v5,p5⟩:=p 5 _ rfl;obtain⟨v6,p6⟩:=p 6 _ rfl;obtain⟨v7,p7⟩:=p 7 _ rfl
  obtain⟨xN,p8⟩:=p 8 _ rfl;obtain⟨v9,p9⟩:=p 9 _ rfl;obtain⟨xL,xH⟩:=p 10 _ rfl;obtain⟨xM,xI⟩:=p 11 _ rfl;clear zH Q yH p zZ zF yA M u B H l N HL y zX yM s8 o8 v8;go_wp2;refine bodyPost_ret (v:=.agg #[Zf,Zf,Zf,Zf,Zf,Zc,Zc,Zc,.string (Bm text refs i),Zg (given+1),Zd,Zd]) (by simp[results,results147,go_sem,y0,y1,y2,y3,y4,y5,y6,y7,y8,y9,xA,xB]) rfl ?_
  have T9:=(Tn.set (V:=[w.heap.size+1,w.heap.size+2]) w2 (w.heap.size+2) 9 (Zg (given+1)) (by simp)).trans (Tn.mono (Bq (w2.setCell (Ze (w.heap.size+2) 9) (Zg (given+1))) (w.heap.size+1) Zf Zf Zf Zf Zf Zc Zc Zc (.string (Bm text refs i)) (Zg (given+1)) Zd Zd) (by simp))
  refine .inr ⟨t,ah,zC.o,Y.o.1,yD,yC,rfl,S,L',zE.o.1.al T9 (by intro b f;simp at f;rcases f with rfl|rfl;exact⟨by omega,zE.o.2.2.1⟩;exact⟨by omega,zE.o.2.2.2⟩),?_⟩;have t0:=(zG.trans Y.o.2.2.1).fresh zM.o.1 (show w.heap.size<=w.heap.size+2 by omega);have t1:=t0.trans (zE.o.2.1.mono (V':=vB d m O P L) (by intro b f;unfold vB;simp at f ⊢;rcases f with rfl|f<;>simp[*]))
  exact⟨T9.os.trans t1.os,T9.tape.trans t1.tape,T9.output.trans t1.output,Zm t1.size T9.size,fun b f hv=>(T9.block b (Zr f t1.size) (by simp;omega)).trans (t1.block b f hv)⟩
theorem Kb(d:Nat)(V:List Nat)(t:Int)(s u A:Zi)(m:Int)(x:Zk)(z y:Nat)(G:Int->Zi->Zi->Prop)(D:Zi->Int->Zh->Prop)(w:Zh)(hV:∀b∈V,b<w.heap.size)
 (M:∀i g X X' R zE,D i g X->X.heap[R]?=some (.cells zE 90)->w.heap.size<=R->Tn [R] X X'->D i g X')
 (h:∀X,Zz w X->Calls prog 147 #[Yz d,.agg (Ym t s u m A x z y)] X fun e o=>(∃c a b,G c a b/\e=.panicked [{v:=ay c a b,recovered:=false}]/\Tn V X o)∨(∃i g,e=.returned (.agg #[Zf,Zf,Zf,Zf,Zf,Zc,Zc,Zc,.string i,Zg g,Zd,Zd])/\D i g o/\Tn V X o)):
 Calls prog 106 #[Yz d,.agg (Ym t s u m A x z y)] w fun e o=>(∃c a b,G c a b/\e=.returned (.agg (Ch c a b).toArray)/\Tn V w o)∨(∃i g,e=.returned (.agg #[Zf,Zf,Zf,Zf,Zf,Zc,Zc,Zc,.string i,Zg g,Zd,Zd])/\D i g o/\Tn V w o):=by
 suffices hs:∀Q:Ending->Zh->Prop,(∀c a b j,G c a b->Tn V w j->Q (.returned (.agg (Ch c a b).toArray)) j)->(∀i g j,D i g j->Tn V w j->Q (.returned (.agg #[Zf,Zf,Zf,Zf,Zf,Zc,Zc,Zc,.string i,Zg g,Zd,Zd])) j)->Calls prog 106 #[Yz d,.agg (Ym t s u m A x z y)] w Q from
  hs _ (fun c a b j q S=> .inl ⟨c,a,b,q,rfl,S⟩) (fun i g j q S=> .inr ⟨i,g,rfl,q,S⟩)
 intro Q H I;have zA:=Yx H;have zB:=Yx I;clear H I;have zG:∀(fn:Fn) (first cap:Array Value) (w:Zh),(Instr.makeFunc fn first cap).run prog w=.ok (.func fn first cap) w:=fun _ _ _ _=>rfl;obtain⟨W,n⟩:∃W,W=(w.alloc (.cells (Ym t s u m A x z y) 67)).alloc (.cells Yl 90):=⟨_,rfl⟩;have T:=(Bj n).1;have N:=(Bj n).2.1;have xE:=(Bj n).2.2.1;have zR:Aa W (w.heap.size+1) z12:=by have q:=Aa.new (w.alloc (.cells (Ym t s u m A x z y) 67)) z12 90;rw[World.size_alloc]at q;rw[n];exact q
 have K:W.heap[w.heap.size+1]?=some (.cells Yl 90):=by have:=heap_alloc_new (w.alloc (.cells (Ym t s u m A x z y) 67)) (.cells Yl 90);rw[World.size_alloc]at this;rw[n];exact this
 obtain⟨e0,e1,e2,e3,e4,e5⟩:=Aa.c6 xE 0 1 2 3 4 5;have P:=Yx (h W T);have HW:=Yx n;have p:=Yx (Zb zR (Zb K (Zb T N)));have HV:=Yx hV;have zC:=Yx M;clear n zR N xE h K T hV M
 go_enter_defers func106,ntmps106
 go_upto_region 1 with fail;rw[←HW.o];clear HW;go_wp2_with fail;refine Calls.mono P.o ?_;intro e w1 zF;have zz:=p.o.2.2.2;have r:w.heap.size+1∉V:=fun h=>by have:=HV.o _ h;omega
 obtain⟨c,a,b,L,rfl,l⟩|⟨i,g,rfl,hy,l⟩:=zF
 ·have B:=Aa.same p.o.1 (l.block _ (by omega) r);clear e0 e1 e2 e3 e4 e5 P;refine leaves_cons (f:=146) (args:= #[Yz (w.heap.size+1)]) (by simp) (by simp[go_sem]) ?_;refine(Pk (w.heap.size+1) c a b w1 B).mono ?_;rintro e u' j ⟨rfl,rfl,k,ht⟩;have U:=(k 0 _ rfl).1;have Y:=(k 1 _ rfl).1;have Z:=(k 2 _ rfl).1;have y3:=(k 3 _ rfl).1;have y4:=(k 4 _ rfl).1;have y5:=(k 5 _ rfl).1;have y6:=(k 6 _ rfl).1
  have y7:=(k 7 _ rfl).1;have y8:=(k 8 _ rfl).1;have y9:=(k 9 _ rfl).1;have E:=(k 10 _ rfl).1;have F:=(k 11 _ rfl).1;have C:Hid (G c a b/\Tn V w j):=⟨L,Tn.fresh ((Tn.of p.o.2.2.1).trans l) ht (by omega)⟩;clear k ht L;simp[Leaves,settle,results,results106,go_sem,U,Y,Z,y3,y4,y5,y6,y7,y8,y9,E,F];exact zA.o c a b _ C.o.1 C.o.2
 ·have B:=Aa.same p.o.1 (l.block _ (by omega) r);have J:=(l.block _ (by omega) r).trans p.o.2.1;have O:=Yx (Zn hy (Zn l J));obtain⟨⟨U,q0⟩,⟨Y,q1⟩,⟨Z,q2⟩,⟨y3,q3⟩,⟨y4,q4⟩,⟨y5,q5⟩,⟨y6,q6⟩,⟨y7,q7⟩,⟨y8,q8⟩,⟨y9,q9⟩,⟨E,zH⟩,F,zI⟩:=AZ B;clear hy l B J e0 e1 e2 e3 e4 e5 P zz r;go_wp2;refine leaves_cons (f:=146) (args:= #[Yz (w.heap.size+1)]) (by simp) (by simp[go_sem]) ?_
  refine(QG ⟨w.heap.size+1,0,none⟩ _).mono ?_;rintro e u' j ⟨rfl,rfl,rfl⟩;have HT:=Yx (Bq w1 (w.heap.size+1) Zf Zf Zf Zf Zf Zc Zc Zc (.string i) (Zg g) Zd Zd);have C:=Yx (Zn (zC.o i g _ _ _ _ O.o.1 O.o.2.2 (by omega) HT.o) (Tn.fresh ((Tn.of p.o.2.2.1).trans O.o.2.1) HT.o (by omega)));simp[Leaves,settle,results,results106,go_sem,U,Y,Z,y3,y4,y5,y6,y7,y8,y9,E,F];exact zB.o i g _ C.o.1 C.o.2
theorem WM(base d m:Nat)(O P L:Value)(o j given ae:Int)(i:List Kd)(f:List Pd)(p:List Ld)(n s:Zi)(w:Zh)(h:DU w base d m O P L o j given ae i f p)(q:∀k∈i,(k.sum.size:Int)=o)(g:Ay i s)(u:f.length<=100)(c:f.Pairwise (fun a b=>less a.name b.name=true))(l:(∃x∈f,x.name=n)∨f.length<100):
 Calls prog 176 #[Yz d,.string n,.string s] w fun e r=>e=.returned (.tuple #[])/\∃t,DU r base d m O t L o j given ae i (Bw f n s) p/\Tn (d::P.ownBlock.toList) w r:=by
 by_cases hth:∃x∈f,x.name=n
 ·exact WE base d m O P L o j given ae i f p n s w h q g (by omega) c hth
 ·exact WG base d m O P L o j given ae i f p n s w h q g (by rcases l with h|h;exact absurd h hth;exact h) c hth
theorem Nu(base d m:Nat)(O P L:Value)(E D given ae:Int)(r:List Kd)(j:List Pd)(Q:List Ld)(s f z:Zi)(i:Int)(t:Zk)(y u:Nat)(w:Zh)(h:DU w base d m O P L E D given ae r j Q)(zA:∀k∈r,(k.sum.size:Int)=E)(F:Ay r s)(hl:j.length<=100)(p:j.Pairwise (fun a b=>less a.name b.name=true))(o:(∃x∈j,x.name=f)∨j.length<100):
 Calls prog 147 #[Yz d,.agg (Ym 2 s f i z t y u)] w fun e U=>e=.returned (.agg z12.toArray)/\∃P',DU U base d m O P' L E D given ae r (Bw j f s) Q/\Tn (d::P.ownBlock.toList) w U:=by
 obtain⟨W,c⟩:∃W,W=((w.alloc (.cells (Ym 2 s f i z t y u) 67)).alloc (.cells Yl 90)).alloc (.cells Yl 90):=⟨_,rfl⟩;have N:=(Bh c).1;have J:=(Bh c).2.1;have Y:=(Bh c).2.2.1;have zR:Aa W (w.heap.size+1) z12:=by have q:=Aa.new (w.alloc (.cells (Ym 2 s f i z t y u) 67)) z12 90;rw[World.size_alloc]at q;rw[c];exact Aa.below (v:=Zf) q (Zy)
 have Z:Aa W (w.heap.size+2) z12:=by have q:=Aa.new ((w.alloc (.cells (Ym 2 s f i z t y u) 67)).alloc (.cells Yl 90)) z12 90;rw[World.size_alloc,World.size_alloc]at q;rw[c];exact q
 have H:W.heap[w.heap.size+1]?=some (.cells Yl 90):=by rw[c,Below.heap_alloc _ _ _ (by simp)];have:=heap_alloc_new (w.alloc (.cells (Ym 2 s f i z t y u) 67)) (.cells Yl 90);rw[World.size_alloc]at this;exact this
 have T:=h.below N;have zE:=h.dr.box.lt;have I:∀b∈d::P.ownBlock.toList,b<w.heap.size:=fun b n=>h.dr.cf b (by unfold vB;simp at n ⊢;rcases n with rfl|n<;>simp[*]);have R:=Yx (WM base d m O P L E D given ae r j Q f s W T zA F hl p o);have S:=Yx c
 have l:Hid (Aa W (w.heap.size+1) z12/\Aa W (w.heap.size+2) z12/\W.heap[w.heap.size+1]?=some (.cells Yl 90)/\Zz w W/\W.heap.size=w.heap.size+3/\base<=w.heap.size):=⟨zR,Z,H,N,J,h.lo⟩;have B:=Yx I;obtain⟨e0,e1,e2,e3⟩:=Aa.c4 Y 0 1 2 3;clear c h T zR Z H N J Y I;go_enter func147,ntmps147;go_upto_region 2 with fail;rw[←S.o];clear S;go_wp2_with fail;refine Calls.mono R.o ?_;rintro e X ⟨rfl,V,C,g⟩
 have zz:=l.o.2.2.2.2.1;have M:=Aa.same l.o.1 (g.block _ (by omega) (fun h=>by have:=B.o _ h;omega));have K:=Aa.same l.o.2.1 (g.block _ (by omega) (fun h=>by have:=B.o _ h;omega));have G:=(g.block _ (by omega) (fun h=>by have:=B.o _ h;omega)).trans l.o.2.2.1;have A:=Yx (Zn C (Zn g (C.cm G (by omega))))
 obtain⟨⟨y0,q0⟩,⟨y1,q1⟩,⟨y2,q2⟩,⟨y3,q3⟩,⟨y4,q4⟩,⟨y5,q5⟩,⟨y6,q6⟩,⟨y7,q7⟩,⟨y8,q8⟩,⟨y9,q9⟩,⟨zB,zF⟩,zC,zG⟩:=AZ M;obtain⟨⟨v0,_⟩,⟨v1,_⟩,⟨v2,_⟩,⟨v3,_⟩,⟨v4,_⟩,⟨v5,_⟩,⟨v6,_⟩,⟨v7,_⟩,⟨v8,_⟩,⟨v9,_⟩,⟨zH,_⟩,zI,_⟩:=AZ K;clear C g M K G e0 e1 e2 e3 R zz;go_wp2
 refine bodyPost_ret (v:=.agg z12.toArray) (by simp[results,results147,go_sem,y0,y1,y2,y3,y4,y5,y6,y7,y8,y9,zB,zC,z12]) rfl ⟨rfl,V,A.o.1.al (Bq X (w.heap.size+1) _ _ _ _ _ _ _ _ _ _ _ _) (by intro b n;simp at n;subst n;exact⟨by have:=l.o.2.2.2.2.2;omega,A.o.2.2⟩),Tn.fresh ((Tn.of l.o.2.2.2.1).trans A.o.2.1) (Bq X (w.heap.size+1) _ _ _ _ _ _ _ _ _ _ _ _) (by omega)⟩
theorem Lt(base d m:Nat)(O P L:Value)(F D given ae:Int)(n:List Kd)(x:List Pd)(t:List Ld)(s u B:Zi)(i:Int)(y:Zk)(A z:Nat)(w:Zh)(f:Dr w base d m O P L F D given ae n x t)(zC:FA F n)(hp:x.length<=100)(hl:t.length<=200)(zE:Ay n s)(o:¬(((∃p∈x,p.sum=s)∨∃l∈t,l.sum=s)∨∃k∈n,s∈k.refs)):
 Calls prog 147 #[Yz d,.agg (Ym 7 s u i B y A z)] w fun e X=>e=.returned (.agg z12.toArray)/\∃r,Dr X base d m r P L F D given ae (EP n s) x t/\r.ownBlock=O.ownBlock/\Tn (vB d m O P L) w X:=by
 obtain⟨W,a⟩:∃W,W=((w.alloc (.cells (Ym 7 s u i B y A z) 67)).alloc (.cells Yl 90)).alloc (.cells Yl 90):=⟨_,rfl⟩;have U:=(Bh a).1;have I:=(Bh a).2.1;have e0:W.cell? (Ze (w.heap.size) 0)=some (Zg 7):=by rw[a];simp[go_sem]
 have e1:W.cell? (Ze (w.heap.size) 1)=some (.string s):=by rw[a];simp[go_sem]
 have Z:Aa W (w.heap.size+1) z12:=by have g:=Aa.new (w.alloc (.cells (Ym 7 s u i B y A z) 67)) z12 90;rw[World.size_alloc]at g;rw[a];exact Aa.below (v:=Zf) g (Zy)
 have Y:Aa W (w.heap.size+2) z12:=by have g:=Aa.new ((w.alloc (.cells (Ym 7 s u i B y A z) 67)).alloc (.cells z12.toArray 90)) z12 90;rw[World.size_alloc,World.size_alloc]at g;rw[a];exact g
 have Q:=Yx (f.below U);have E:Hid (∀b∈vB d m O P L,b<w.heap.size):=by
  intro b c;unfold vB at c;simp only[List.mem_cons,List.mem_append,Option.mem_toList]at c;rcases c with rfl|rfl|c|c|c
  ·exact f.box.lt
  ·exact(f.map.choose_spec.choose_spec.2.1).lt
  ·exact(Ac f.ord c).2
  ·exact(Ac f.cl c).2
  ·exact(Ac f.ci c).2
 have HR:Hid (W.heap[w.heap.size+1]?=some (.cells Yl 90)):=by show _=_;rw[a,Below.heap_alloc _ _ _ (by simp)];have:=heap_alloc_new (w.alloc (.cells (Ym 7 s u i B y A z) 67)) (.cells Yl 90);rw[World.size_alloc]at this;exact this
 have N:base<=w.heap.size:=by have:=f.bd;have:=f.box.lt;omega
 have R:=Yx a;have S:=Yx (Zn Z Y);have C:=Yx I;clear a f Z Y I;go_enter func147,ntmps147;go_upto_region 2 with fail;rw[←R.o];clear R;go_wp2_with fail;refine(UD base d m O P L F D given ae n x t s W Q.o zC hp hl zE o).mono ?_;rintro e M ⟨rfl,r,H,V,j⟩;have K:=Aa.same S.o.1 (j.block _ (by have:=C.o;omega) (fun h=>by have:=E.o _ h;omega))
 have J:=Aa.same S.o.2 (j.block _ (by have:=C.o;omega) (fun h=>by have:=E.o _ h;omega));obtain⟨⟨y0,q0⟩,⟨y1,q1⟩,⟨y2,q2⟩,⟨y3,q3⟩,⟨y4,q4⟩,⟨y5,q5⟩,⟨y6,q6⟩,⟨y7,q7⟩,⟨y8,q8⟩,⟨y9,q9⟩,⟨zF,zH⟩,zG,zI⟩:=AZ K;obtain⟨⟨v0,_⟩,⟨v1,_⟩,⟨v2,_⟩,⟨v3,_⟩,⟨v4,_⟩,⟨v5,_⟩,⟨v6,_⟩,⟨v7,_⟩,⟨v8,_⟩,⟨v9,_⟩,⟨zJ,_⟩,zK,_⟩:=AZ J;have q:=Yx (Zn H (Zn V j));clear H V j K J e0 e1 Q;go_wp2;have zB:w.heap.size+1∉vB d m r P L:=fun h=>by
  have:w.heap.size+1∈vB d m O P L:=by unfold vB at h ⊢;rw[q.o.2.1]at h;exact h
  have:=E.o _ this;omega
 have zA:∀G T,M.heap[w.heap.size+1]?≠some (.cells G 9 T):=fun G T e=>by have g:=q.o.2.2.block (w.heap.size+1) (by have:=C.o;omega) (fun h=>by have:=E.o _ h;omega);rw[e,HR.o]at g;simp at g
 refine bodyPost_ret (v:=.agg z12.toArray) (by simp[results,results147,go_sem,y0,y1,y2,y3,y4,y5,y6,y7,y8,y9,zF,zG,z12]) rfl ⟨rfl,r,Dr.apart q.o.1 (Bq M _ _ _ _ _ _ _ _ _ _ _ _ _) (by omega) zB zA,q.o.2.1,Tn.fresh ((Tn.of U).trans q.o.2.2) (Bq M _ _ _ _ _ _ _ _ _ _ _ _ _) (by omega)⟩
theorem Kw(base d m:Nat)(O P L:Value)(n h given ae:Int)(b:List Kd)(f:List Pd)(c:List Ld)(s r y:Zi)(i:Int)(t:Zk)(x u:Nat)(w:Zh)(q:Dr w base d m O P L n h given ae b f c)(A:FA n b)(E:f.length<=100)(D:c.length<=200)(B:Ay b s)(g:((∃p∈f,p.sum=s)∨∃l∈c,l.sum=s)∨∃k∈b,s∈k.refs):
 Calls prog 147 #[Yz d,.agg (Ym 7 s r i y t x u)] w fun e F=>e=.panicked [{v:=ay 6 ⟨#[]⟩ ⟨#[]⟩,recovered:=false}]/\Zz w F:=by
 obtain⟨W,a⟩:∃W,W=((w.alloc (.cells (Ym 7 s r i y t x u) 67)).alloc (.cells Yl 90)).alloc (.cells Yl 90):=⟨_,rfl⟩;have j:=(Bh a).1;have G:W.cell? (Ze (w.heap.size) 0)=some (Zg 7):=by rw[a];simp[go_sem]
 have H:W.cell? (Ze (w.heap.size) 1)=some (.string s):=by rw[a];simp[go_sem]
 have C:=Yx (q.below j);have o:=Yx a;clear a q;go_enter func147,ntmps147;go_upto_region 2 with fail;rw[←o.o];clear o;go_wp2_with fail;refine(SL base d m O P L n h given ae b f c s W C.o A E D B g).mono ?_;rintro e I ⟨rfl,z⟩;exact⟨rfl,rfl,j.trans (z.mono j.size)⟩
theorem OH(base d m:Nat)(O P L:Value)(g f given ae:Int)(a:List Kd)(j:List Pd)(i:List Ld)(s:Zi)(w:Zh)(h:Dr w base d m O P L g f given ae a j i)(b:∀k∈a,(k.sum.size:Int)=g)(c:¬Ay a s):
 Calls prog 180 #[Yz d,.string s] w fun e n=>e=.panicked [{v:=ay 2 ⟨#[]⟩ ⟨#[]⟩,recovered:=false}]/\Zz w n:=by
 have HN:=Yx (JJ base d m O P L g f given ae a j i s w h b c);clear h b c;go_enter func180,ntmps180;go_wp2_with fail;refine Calls.mono HN.o ?_;rintro e o ⟨rfl,l⟩;go_wp2;exact⟨rfl,rfl,l⟩
theorem IX(base d m:Nat)(O P L:Value)(h c given ae:Int)(b:List Kd)(o:List Pd)(l:List Ld)(s n t:Zi)(f:Int)(p:Zk)(r q:Nat)(w:Zh)(j:Dr w base d m O P L h c given ae b o l)(x:∀k∈b,(k.sum.size:Int)=h)(y:¬Ay b s):
 Calls prog 147 #[Yz d,.agg (Ym 7 s n f t p r q)] w fun e A=>e=.panicked [{v:=ay 2 ⟨#[]⟩ ⟨#[]⟩,recovered:=false}]/\Zz w A:=by
 obtain⟨W,a⟩:∃W,W=((w.alloc (.cells (Ym 7 s n f t p r q) 67)).alloc (.cells Yl 90)).alloc (.cells Yl 90):=⟨_,rfl⟩;have g:=(Bh a).1;have B:W.cell? (Ze (w.heap.size) 0)=some (Zg 7):=by rw[a];simp[go_sem]
 have C:W.cell? (Ze (w.heap.size) 1)=some (.string s):=by rw[a];simp[go_sem]
 have z:=Yx (j.below g);have i:=Yx a;clear a j;go_enter func147,ntmps147;go_upto_region 2 with fail;rw[←i.o];clear i;go_wp2_with fail;refine(OH base d m O P L h c given ae b o l s W z.o x y).mono ?_;rintro e D ⟨rfl,u⟩;exact⟨rfl,rfl,g.trans (u.mono g.size)⟩
structure Rs where
 sm:Zi
 le:Int
 now:Int
 given:Int
 ae:Int
 ks:List Kd
 ps:List Pd
 ls:List Ld
def Eg(wd now given ae:Int)(ks:List Kd)(ps:List Pd)(ls:List Ld)(kd:Int)(s nm:Zi)(num:Int)(text:Zi)(refs:Zl)(r:Rs):Prop:=
 (kd=1/\(∀r∈refs,Ay ks r)/\ls.length<200/\given<1000000000/\∃ks1 ah,Cu wd ae ks text refs ks1 ah/\r=⟨Bm text refs wd,given+1,now,given+1,ah,ks1,ps,ls++[⟨given+1,Bm text refs wd,now+num⟩]⟩)∨
 (kd=2/\Ay ks s/\((∃x∈ps,x.name=nm)∨ps.length<100)/\r=⟨⟨#[]⟩,0,now,given,ae,ks,Bw ps nm s,ls⟩)∨
 (kd=3/\(∃x∈ps,x.name=nm)/\r=⟨⟨#[]⟩,0,now,given,ae,ks,Bg ps nm,ls⟩)∨
 (kd=4/\Ay ks s/\ls.length<200/\given<1000000000/\r=⟨⟨#[]⟩,given+1,now,given+1,ae,ks,ps,ls++[⟨given+1,s,now+num⟩]⟩)∨
 (kd=5/\(∃x∈ls,x.num=num)/\r=⟨⟨#[]⟩,0,now,given,ae,ks,ps,Bx ls num⟩)∨
 (kd=6/\now+num<=1000000000/\r=⟨⟨#[]⟩,0,now+num,given,ae,ks,ps,AP ls (now+num)⟩)∨
 (kd=7/\Ay ks s/\¬Ls ps ls ks s/\r=⟨⟨#[]⟩,0,now,given,ae,EP ks s,ps,ls⟩)
def FI(wd now given ae:Int)(ks:List Kd)(ps:List Pd)(ls:List Ld)(kd:Int)(s nm:Zi)(num:Int)(text:Zi)(refs:Zl)(c:Int)(a b:Zi):Prop:=
 (kd=1/\Gg wd given ae ks ls text refs c a b)∨
 (a=⟨#[]⟩/\b=⟨#[]⟩/\(
   (kd=2/\((¬Ay ks s/\c=2)∨(Ay ks s/\(¬∃x∈ps,x.name=nm)/\ps.length=100/\c=4)))∨
   (kd=3/\(¬∃x∈ps,x.name=nm)/\c=5)∨
   (kd=4/\((¬Ay ks s/\c=2)∨(Ay ks s/\(ls.length=200∨given=1000000000)/\c=4)))∨
   (kd=5/\(¬∃x∈ls,x.num=num)/\c=5)∨
   (kd=6/\1000000000<now+num/\c=4)∨
   (kd=7/\((¬Ay ks s/\c=2)∨(Ay ks s/\Ls ps ls ks s/\c=6)))))
structure IV (wd now given ae:Int) (ks:List Kd) (ps:List Pd) (ls:List Ld) (kd num:Int) (text:Zi) (refs:Zl):Prop where
 bn:FA wd ks
 w1:1<=wd
 np:ps.length<=100
 nl:ls.length<=200
 bu:ps.Pairwise (fun a b=>less a.name b.name=true)
 cw:ls.Pairwise (fun a b=>a.num<b.num)
 cn:0<=now
 da:now<=1000000000
 bj:0<=given
 bt:given<=1000000000
 ba:0<=ae
 ah:ae<=1000000000
 im:1<=kd
 ig:kd<=7
 fa:0<=num
 fp:num<=1000000000
 br:∀k∈ks,k.text.size<=maxLen
 ic:text.size<=maxLen
 ie:refs.length<=1000
theorem Gq(text:Zi)(refs:Zl)(a:Int)(h:1<=a):((Bm text refs a).size:Int)=a:=KK ⟨⟨#[]⟩,0,text,refs⟩ a h
def IW(base d m:Nat)(wd:Int)(r:Rs)(w:Zh):Prop:=∃O P L,Dr w base d m O P L wd r.now r.given r.ae r.ks r.ps r.ls
theorem Lu(base d m:Nat)(O P L:Value)(p i given ae:Int)(l:List Kd)(j:List Pd)(n:List Ld)(C:Int)(s o:Zi)(g:Int)(text:Zi)(refs:Zl)(u:Zk)(y:Nat)(w:Zh)(h:DU w base d m O P L p i given ae l j n)(f:IV p i given ae l j n C g text refs)(U:DE w base (vB d m O P L) u refs):
 Calls prog 147 #[Yz d,.agg (Ym C s o g text u refs.length y)] w fun e t=>(∃c a b,FI p i given ae l j n C s o g text refs c a b/\e=.panicked [{v:=ay c a b,recovered:=false}]/\Tn (vB d m O P L) w t)∨(∃N M,e=.returned (.agg #[Zf,Zf,Zf,Zf,Zf,Zc,Zc,Zc,.string N,Zg M,Zd,Zd])/\(∃r,Eg p i given ae l j n C s o g text refs r/\r.sm=N/\r.le=M/\IW base d m p r t)/\Tn (vB d m O P L) w t):=by
 have K:∀b∈d::P.ownBlock.toList,b∈vB d m O P L:=by intro b k;unfold vB;simp at k ⊢;rcases k with rfl|k<;>simp[*]
 have J:∀b∈d::L.ownBlock.toList,b∈vB d m O P L:=by intro b k;unfold vB;simp at k ⊢;rcases k with rfl|k<;>simp[*]
 have D:∀X,Zz w X->DU X base d m O P L p i given ae l j n:=fun X z=>h.below z;obtain rfl|rfl|rfl|rfl|rfl|rfl|rfl:C=1∨C=2∨C=3∨C=4∨C=5∨C=6∨C=7:=by have:=f.im;have:=f.ig;omega
 ·refine(Nt base d m O P L p i given ae l j n s o text g refs u y w h f.bn f.w1 f.br (Gq _ _ _ f.w1) f.ic f.ie f.ba f.ah U f.nl f.bj f.bt f.cn f.da f.fa f.fp).mono ?_;rintro e t (⟨c,a,b,T,rfl,A⟩|⟨Q,ah,G,V,F,E,rfl,R,I,B,A⟩)
  ·exact .inl ⟨c,a,b,.inl ⟨rfl,T⟩,rfl,A⟩
  ·exact .inr ⟨_,_,rfl,⟨_,.inl ⟨rfl,G,F,E,Q,ah,V,rfl⟩,rfl,rfl,⟨_,_,_,B.dr⟩⟩,A⟩
 ·by_cases hth:Ay l s
  ·by_cases hroom:(∃x∈j,x.name=o)∨j.length<100
   ·refine(Nu base d m O P L p i given ae l j n s o text g u refs.length y w h f.bn.sz hth f.np f.bu hroom).mono ?_;rintro e t ⟨rfl,S,B,A⟩;exact .inr ⟨_,_,rfl,⟨_,.inr (.inl ⟨rfl,hth,hroom,rfl⟩),rfl,rfl,⟨_,_,_,B.dr⟩⟩,A.mono K⟩
   ·have H:¬∃x∈j,x.name=o:=fun e=>hroom (.inl e);have q:j.length=100:=by have:=f.np;have W:¬j.length<100:=fun e=>hroom (.inr e);omega
    refine(Jw d s o text g u refs.length y 4 ⟨#[]⟩ ⟨#[]⟩ w (fun X z=>Vc base d m O P L p i given ae l j n o s X (D X z) f.bn.sz hth q f.bu H)).mono ?_;rintro e t ⟨rfl,k⟩;exact .inl ⟨4,_,_,.inr ⟨rfl,rfl,.inl ⟨rfl,.inr ⟨hth,H,q,rfl⟩⟩⟩,rfl,Tn.of k⟩
  ·refine(Jw d s o text g u refs.length y 2 ⟨#[]⟩ ⟨#[]⟩ w (fun X z=>PA base d m O P L p i given ae l j n o s X (D X z) f.bn.sz hth)).mono ?_;rintro e t ⟨rfl,k⟩;exact .inl ⟨2,_,_,.inr ⟨rfl,rfl,.inl ⟨rfl,.inl ⟨hth,rfl⟩⟩⟩,rfl,Tn.of k⟩
 ·by_cases hth:∃x∈j,x.name=o
  ·refine(Lo base d m O P L p i given ae l j n s o text g u refs.length y w h (by have:=f.np;omega) f.bu hth).mono ?_;rintro e t ⟨rfl,S,B,A⟩;exact .inr ⟨_,_,rfl,⟨_,.inr (.inr (.inl ⟨rfl,hth,rfl⟩)),rfl,rfl,⟨_,_,_,B.dr⟩⟩,A.mono K⟩
  ·refine(LU d s o text g u refs.length y 5 ⟨#[]⟩ ⟨#[]⟩ w (fun X z=>UZ base d m O P L p i given ae l j n o X (D X z) (by have:=f.np;omega) f.bu hth)).mono ?_;rintro e t ⟨rfl,k⟩;exact .inl ⟨5,_,_,.inr ⟨rfl,rfl,.inr (.inl ⟨rfl,hth,rfl⟩)⟩,rfl,Tn.of k⟩
 ·by_cases hth:Ay l s
  ·by_cases q:n.length=200∨given=1000000000
   ·refine(It d s o text g u refs.length y 4 ⟨#[]⟩ ⟨#[]⟩ w (fun X z=>MJ base d m O P L p i given ae l j n s g X (D X z) f.bn.sz hth q)).mono ?_;rintro e t ⟨rfl,k⟩;exact .inl ⟨4,_,_,.inr ⟨rfl,rfl,.inr (.inr (.inl ⟨rfl,.inr ⟨hth,q,rfl⟩⟩))⟩,rfl,Tn.of k⟩
   ·have F:n.length<200:=by have:=f.nl;omega
    have E:given<1000000000:=by have:=f.bt;omega
    refine(Lp base d m O P L p i given ae l j n s o text g u refs.length y w h f.bn.sz hth F f.bj E f.cn f.da f.fa f.fp).mono ?_;rintro e t ⟨rfl,I,B,A⟩;exact .inr ⟨_,_,rfl,⟨_,.inr (.inr (.inr (.inl ⟨rfl,hth,F,E,rfl⟩))),rfl,rfl,⟨_,_,_,B.dr⟩⟩,A.mono J⟩
  ·refine(It d s o text g u refs.length y 2 ⟨#[]⟩ ⟨#[]⟩ w (fun X z=>OE base d m O P L p i given ae l j n s g X (D X z) f.bn.sz hth)).mono ?_;rintro e t ⟨rfl,k⟩;exact .inl ⟨2,_,_,.inr ⟨rfl,rfl,.inr (.inr (.inl ⟨rfl,.inl ⟨hth,rfl⟩⟩))⟩,rfl,Tn.of k⟩
 ·by_cases hth:∃x∈n,x.num=g
  ·refine(LR base d m O P L p i given ae l j n s o text g u refs.length y w h f.nl f.cw hth).mono ?_;rintro e t ⟨rfl,I,B,A⟩;exact .inr ⟨_,_,rfl,⟨_,.inr (.inr (.inr (.inr (.inl ⟨rfl,hth,rfl⟩)))),rfl,rfl,⟨_,_,_,B.dr⟩⟩,A.mono J⟩
  ·refine(Nk d s o text g u refs.length y 5 ⟨#[]⟩ ⟨#[]⟩ w (fun X z=>WD base d m O P L p i given ae l j n g X (D X z) f.nl f.cw hth)).mono ?_;rintro e t ⟨rfl,k⟩;exact .inl ⟨5,_,_,.inr ⟨rfl,rfl,.inr (.inr (.inr (.inl ⟨rfl,hth,rfl⟩)))⟩,rfl,Tn.of k⟩
 ·by_cases hs:i+g<=1000000000
  ·refine(LS base d m O P L p i given ae l j n s o text g u refs.length y w h f.nl f.cn f.fa hs).mono ?_;rintro e t ⟨rfl,I,B,A⟩;exact .inr ⟨_,_,rfl,⟨_,.inr (.inr (.inr (.inr (.inr (.inl ⟨rfl,hs,rfl⟩))))),rfl,rfl,⟨_,_,_,B.dr⟩⟩,A.mono J⟩
  ·refine(Nl d s o text g u refs.length y 4 ⟨#[]⟩ ⟨#[]⟩ w (fun X z=>Tv base d m O P L p i given ae l j n g X (D X z) f.cn f.da f.fa f.fp (by omega))).mono ?_;rintro e t ⟨rfl,k⟩;exact .inl ⟨4,_,_,.inr ⟨rfl,rfl,.inr (.inr (.inr (.inr (.inl ⟨rfl,by omega,rfl⟩))))⟩,rfl,Tn.of k⟩
 ·by_cases hth:Ay l s
  ·by_cases huse:Ls j n l s
   ·refine(Kw base d m O P L p i given ae l j n s o text g u refs.length y w h.dr f.bn f.np f.nl hth huse).mono ?_;rintro e t ⟨rfl,k⟩;exact .inl ⟨6,_,_,.inr ⟨rfl,rfl,.inr (.inr (.inr (.inr (.inr ⟨rfl,.inr ⟨hth,huse,rfl⟩⟩))))⟩,rfl,Tn.of k⟩
   ·refine(Lt base d m O P L p i given ae l j n s o text g u refs.length y w h.dr f.bn f.np f.nl hth huse).mono ?_;rintro e t ⟨rfl,R,B,_,A⟩;exact .inr ⟨_,_,rfl,⟨_,.inr (.inr (.inr (.inr (.inr (.inr ⟨rfl,hth,huse,rfl⟩))))),rfl,rfl,⟨_,_,_,B⟩⟩,A⟩
  ·refine(IX base d m O P L p i given ae l j n s o text g u refs.length y w h.dr f.bn.sz hth).mono ?_;rintro e t ⟨rfl,k⟩;exact .inl ⟨2,_,_,.inr ⟨rfl,rfl,.inr (.inr (.inr (.inr (.inr ⟨rfl,.inl ⟨hth,rfl⟩⟩))))⟩,rfl,Tn.of k⟩
end Go.Proofs.YtckmnfhmoankmaaGreatDoor
