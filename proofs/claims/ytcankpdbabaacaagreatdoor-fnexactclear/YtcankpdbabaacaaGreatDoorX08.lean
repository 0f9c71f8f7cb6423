import Derived.Test.YtcankpdbabaacaaGreatDoorX07
set_option maxRecDepth 100000
set_option maxHeartbeats 16000000
namespace Go.Proofs.YtcankpdbabaacaaGreatDoor
open Go.ChangeShapes Go.WideShapes Go.ChangeAt Go.RowKit _root_.Go.Proofs.Tryz
variable{a b d:List Pd}{k i:Nat}{x:Pd}{w:Zh}{n s:Zi}
theorem IW(w:Zh)(a:Nat)(v:Value)(b:List Pd)(s:w.ownsRow a 163 2 v b.length (Ab pC b))(x:Pd)(r:b.length<=1000000)(h:a<=w.heap.size)(i:TypeId):
 ∃g cap d,(Builtin.append_ #[37,37] i #[v,Za w.heap.size 1 1]).run prog (w.alloc (.cells #[.string x.name,.string x.sum] 163))=.ok (Za g (b.length+1) cap) d/\d.ownsRow a 163 2 (Za g (b.length+1) cap) (b++[x]).length (Ab pC (b++[x]))/\w.grownBy d v.ownBlock/\(v.ownBlock=some g\/g=w.heap.size+1):=by
 obtain⟨y,q,l,m,n⟩:=info_parts GY;have k:=Ae s ((Below.refl _ _).alloc (Zx) (.cells #[.string x.name,.string x.sum] 163));have p:∀j u,(Ab pC [x])[j]?=some u->(w.alloc (.cells #[.string x.name,.string x.sum] 163)).cell? ((⟨w.heap.size,0,none⟩:Addr).add j)=some u:=by intro j u hu;rw[Go.WideShapes.add_plain,Nat.zero_add];exact(Aa.new w [.string x.name,.string x.sum] 163 j u (by simpa [Ab,pC]using hu)).1
 obtain⟨z,d,t,f,o,_,c⟩:=run_append_own_at (P:=prog) (w.alloc (.cells #[.string x.name,.string x.sum] 163)) a 37 i 163 y _ 2 32 underlying37 q l m n rfl Ys v b.length (Ab pC b) k ⟨w.heap.size,0,none⟩ 1 1 (Ab pC [x]) (by simp[Ab,pC]) p (by intro u hu;simp[Ab,pC]at hu;rcases hu with rfl|rfl<;>rfl) Yq Yw Yu
 obtain⟨g,cap,rfl,_,_⟩:=Cc f (fun e=>by subst e;rcases f.2 with⟨_,r⟩|⟨_,_,_,e,_⟩<;>first|omega|cases e);refine⟨g,cap,d,t,?_,(World.grownBy_alloc w _ _).trans o,?_⟩
 .rw[Iw,List.length_append];exact f
 .rcases c with c|c
  .exact .inl c.symm
  .right;simpa [Value.ownBlock]using c
theorem Qc(n:Zi)(c:a[k]?=some x):Ba (a.take (k+1)) n=Ba (a.take k) n++(if x.name=n then []else [x]):=by obtain⟨b,rfl⟩:=Zw c;unfold Ba;rw[Zu b,List.filter_append];by_cases h:a[k].name=n<;>simp[h]
theorem LJ(a:List Pd)(n:Zi):(Ba a n).length=a.length↔¬∃x∈a,x.name=n:=by unfold Ba;rw[List.length_filter_eq_length_iff];simp
def QY(w w':Zh)(e:Ending)(wd now given births:Int)(T P:Value)(ls:List Pd)(n:Zi):Prop:=
 Below w.heap.size w w'/\(((¬∃x∈ls,x.name=n)/\e=.returned (.agg #[Zg 5,Zf,Zf,Zf,Zf,Zc,Zc,Zc,Zd,Zf,Zd,Zd]))\/
  ((∃x∈ls,x.name=n)/\∃g c,e=.returned (.agg #[Zf,Zg wd,Zg now,Zg given,Zg births,T,.slice (some ⟨g,0,none⟩) (Ba ls n).length c,P,Zd,Zf,Zd,Zd])/\w'.ownsRow w.heap.size 163 2 (.slice (some ⟨g,0,none⟩) (Ba ls n).length c) (Ba ls n).length (Ab pC (Ba ls n))))
theorem Qd(s h d b:Int)(p l C:Zk)(tn r o m G:Nat)(a:List Pd)(n:Zi)(w:Zh)(u:AG w w.heap.size C a)(hl:a.length<=1000):
 Calls prog 139 #[.agg (Yi s h d b p tn r C a.length G l o m),.string n] w fun e w'=>QY w w' e s h d b (.slice p tn r) (.slice l o m) a n:=by
 obtain⟨W,A⟩:∃W,W=(w.alloc (.cells (Yi s h d b p tn r C a.length G l o m) 40)).alloc (.cells Yg 88):=⟨_,rfl⟩;have bW:=(Bo A).1;have P:=(Bo A).2.1;have x0:=(Bo A).2.2.1;have x1:Aa W (w.heap.size+1) z12:=by have h1:=Aa.new (w.alloc (.cells (Yi s h d b p tn r C a.length G l o m) 40)) z12 88;rw[World.size_alloc]at h1;rw[A];exact h1
 have U:Hid (∀X,Below (w.heap.size+2) W X->Aa X w.heap.size (Yj s h d b p tn r C a.length G l o m)/\Aa X (w.heap.size+1) z12):=fun X hX=>⟨Aa.same x0 (hX.block _ Yw),Aa.same x1 (hX.block _ Yw)⟩;have HW:=Yx A;have zH:Hid (W.heap.size=w.heap.size+2):=P;have y:w.heap.size+2<=W.heap.size:=Yw
 have HR:Hid (AG w w.heap.size C a):=u;have zA:Hid (Zz w W):=bW;have bA:Below W.heap.size W (W.alloc (.cells #[] 163)):=Zy;have I:Hid ((W.alloc (.cells #[] 163)).ownsRow (w.heap.size+2) 163 2 (Za W.heap.size 0 0) 0 []):=World.ownsRow_lit (base:=w.heap.size+2) (e:=163) (size:=2) W #[] 0 Yw Yq rfl
 have H:Hid (Below (w.heap.size+2) W (W.alloc (.cells #[] 163))):=bA.mono y;clear A P x0 x1 u bW bA;go_enter func139,ntmps139;go_upto_region 1 with fail;rw[<-HW.o];clear HW;go_wp2
 go_loopw [5,6] (fun v i wr=>∃(k g c:Nat),k<=a.length/\i=Zg k/\v=Za g (Ba (a.take k) n).length c/\Hid (wr.ownsRow (w.heap.size+2) 163 2 (Za g (Ba (a.take k) n).length c) (Ba (a.take k) n).length (Ab pC (Ba (a.take k) n))/\Below (w.heap.size+2) W wr)) (fun _ i _=>a.length -(intOf i).toNat)
 case atStart=>exact⟨0,W.heap.size,0,Nat.zero_le _,rfl,by simp[Ba],⟨by simpa [Ba,Ab]using I.o,H.o⟩⟩
 case round=>
  clear I H;obtain⟨k,g,c,hk,rfl,rfl,f⟩:=hrel;have j:Below w.heap.size w wr:=zA.o.trans (f.o.2.mono Yw);have Q:w.heap.size+2<=wr.heap.size:=Zm y f.o.2.size;obtain⟨v0,v1,v2,v3,v4,v5,v6,v7⟩:=AR (U.o _ f.o.2).1;by_cases hlt:k<a.length
  .obtain⟨b',zJ,ha,hb,K⟩:=(AG.below HR.o j).at hlt;subst ha;have HG:Hid (a[k]?=some a[k]):=Zv hlt;obtain⟨c0,c1⟩:=K k _ HG.o;have J:=Yx (Qc n HG.o);have zI:(Ba (a.take k) n).length<=1000:=by have:=List.length_filter_le (fun x:Pd=> !decide (x.name=n)) (a.take k);unfold Ba;rw[List.length_take]at this;omega
   clear K;generalize a[k]=x at *
   generalize hGk:Ba (a.take k) n=gk at *
   have zG:=Yx hGk;clear hGk;by_cases hxn:x.name=n
   .have B:(x.name.toList !=n.toList)=false:=by rw[hxn];simp
    have N:(x.name.toList==n.toList)=true:=by rw[hxn];simp
    have D:Hid (Ba (a.take (k+1)) n=gk):=by show _=_;rw[J.o,if_pos hxn,List.append_nil]
    clear hxn;go_wp2;exact⟨⟨k+1,g,c,Yw,Yp,by rw[D.o],⟨by rw[D.o];exact f.o.1,f.o.2⟩⟩,by simp[intOf];omega⟩
   .have N:(x.name.toList==n.toList)=false:=Cd hxn;have B:(x.name.toList !=n.toList)=true:=by simp[bne,N]
    have D:Hid (Ba (a.take (k+1)) n=gk++[x]):=by show _=_;rw[J.o,if_neg hxn]
    clear hxn;obtain⟨g8,t,Z,O,M,L,zC⟩:=IW wr (w.heap.size+2) _ gk f.o.1 x Yw Q 37;have b8:Below (w.heap.size+2) wr Z:=(Below.refl _ _).grown L Q (fun q e=>(Ac f.o.1 e).1);have H8:Hid (Z.ownsRow (w.heap.size+2) 163 2 (Za g8 (gk.length+1) t) (gk++[x]).length (Ab pC (gk++[x]))/\Below (w.heap.size+2) W Z):=⟨M,f.o.2.trans b8⟩;have zF:b'<wr.heap.size:=by have:=j.size;omega
    clear M L zC b8;go_wp2_with (at_builtin;refine wpList_append_run rfl _ _ 37 37 rfl rfl rfl O ?_);clear O c0 c1 v0 v1 v2 v3 v4 v5 v6;go_wp2;exact⟨⟨k+1,g8,t,Yw,Yp,by rw[D.o,List.length_append];rfl,⟨by rw[D.o,List.length_append];exact List.length_append▸H8.o.1,H8.o.2⟩⟩,by simp[intOf];omega⟩
  .obtain rfl:k=a.length:=Yw
   have F:=f.o.1;rw[Zt (Zx)]at F |-;have T:=Yx F;have z:Hid (Zz w wr):=j;obtain⟨⟨y0,q0⟩,⟨y1,q1⟩,⟨y2,q2⟩,⟨y3,q3⟩,⟨y4,q4⟩,⟨y5,q5⟩,⟨y6,q6⟩,⟨y7,q7⟩,⟨y8,q8⟩,⟨y9,q9⟩,⟨R,zK⟩,S,zM⟩:=AY (U.o _ f.o.2).2;have f6:=((U.o _ f.o.2).1 5 _ rfl).2;by_cases hex:∃x∈a,x.name=n
   .have zE:¬(Ba a n).length=a.length:=fun e=>(LJ a n).1 e hex;have B:(((Ba a n).length:Int)==(a.length:Int))=false:=Yu
    have E:Hid (∃x∈a,x.name=n):=hex;clear zE hex F j f;go_wp2;refine bodyPost_ret (v:=.agg #[Zf,Zg s,Zg h,Zg d,Zg b,.slice p tn r,Za g (Ba a n).length c,.slice l o m,Zd,Zf,Zd,Zd]) (by simp[results,results139,go_sem,y0,y1,y2,y3,y4,y5,y6,y7,y8,y9,R,S]) rfl ?_
    have T':=(Tn.set (V:=[w.heap.size,w.heap.size+1]) wr w.heap.size 5 (Za g (Ba a n).length c) Yv).trans (Tn.mono (Bd (wr.setCell (Ze (w.heap.size) 5) (Za g (Ba a n).length c)) (w.heap.size+1) Zf (Zg s) (Zg h) (Zg d) (Zg b) (.slice p tn r) (Za g (Ba a n).length c) (.slice l o m) Zd Zf Zd Zd) Yv)
    exact⟨z.o.trans (T'.below z.o.size (by intro v Y;simp at Y;omega)),.inr ⟨E.o,g,c,rfl,(Ak T.o (fun q B=>T'.block q (Ac T.o B).2 (by have:=(Ac T.o B).1;simp;omega))).mono Yw⟩⟩
   .have zB:(Ba a n).length=a.length:=(LJ a n).2 hex;have B:(((Ba a n).length:Int)==(a.length:Int))=true:=Yu
    have E:Hid (¬∃x∈a,x.name=n):=hex;clear zB hex F j f;go_wp2;refine bodyPost_ret (v:=.agg (Yf 5)) (by simp[results,results139,go_sem,y0,y1,y2,y3,y4,y5,y6,y7,y8,y9,R,S]) rfl ?_;exact⟨z.o.trans (Tn.below (Bd wr (w.heap.size+1) _ _ _ _ _ _ _ _ _ _ _ _) z.o.size (by intro v Y;simp at Y;omega)),.inl ⟨E.o,rfl⟩⟩
theorem Kh(g d m:Nat)(O P L:Value)(l u b a:Int)(c:List Kd)(A:List Pd)(z:List Ld)(s:Zi)(w:Zh)(j:Dr w g d m O P L l u b a c A z)(r:∀k∈c,(k.sum.size:Int)=l)(t:¬Av c s):
 Calls prog 214 #[Yz d,.string s] w fun e B=>e=.panicked [{v:=Ci 2 ⟨#[]⟩ ⟨#[]⟩,recovered:=false}]/\Zz w B:=by
 obtain⟨n,f,E,p,o⟩:=j.map;obtain⟨ok,i,h⟩:=MN l m n f c w w.heap.size s w p o.holds r;have y:ok=false:=by
  cases ok with
  |false=>rfl
  |true=>exact absurd (i.1 rfl) t
 subst y;obtain⟨C,D⟩:=Aa.c2 j.box 0 1;have x:=Yx (h w (Below.refl _ _));clear j p o i h;go_enter func214,ntmps214;go_wp2_with fail;refine Calls.mono x.o ?_;rintro e F ⟨rfl,q⟩;go_wp2;exact⟨rfl,rfl,q⟩
theorem OS(c d m:Nat)(O P L:Value)(n l b a:Int)(g:List Kd)(p:List Pd)(o:List Ld)(s:Zi)(f:Int)(w:Zh)(h:DU w c d m O P L n l b a g p o)(i:∀k∈g,(k.sum.size:Int)=n)(j:¬Av g s):
 Calls prog 182 #[Yz d,.string s,Zg f] w fun e r=>e=.panicked [{v:=Ci 2 ⟨#[]⟩ ⟨#[]⟩,recovered:=false}]/\Zz w r:=by
 have HN:=Yx (Kh c d m O P L n l b a g p o s w h.I i j);clear h i j;go_enter func182,ntmps182;go_wp2_with fail;refine Calls.mono HN.o ?_;rintro e t ⟨rfl,q⟩;go_wp2;exact⟨rfl,rfl,q⟩
theorem Nc(i d m:Nat)(O P L:Value)(t r a c:Int)(o:List Kd)(u:List Pd)(j:List Ld)(s:Zi)(l:Int)(w:Zh)(h:DU w i d m O P L t r a c o u j)(p:∀k∈o,(k.sum.size:Int)=t)(q:Av o s)(b:j.length=200\/a=1000000000):
 Calls prog 182 #[Yz d,.string s,Zg l] w fun e z=>e=.panicked [{v:=Ci 4 ⟨#[]⟩ ⟨#[]⟩,recovered:=false}]/\Zz w z:=by
 have HN:=Yx (ED i d m O P L t r a c o u j s w h.I p q);obtain⟨D,C,x⟩:=As h.I.ci;subst x;have n:=Yx h;clear h p q;by_cases h1:j.length=200
 .have y:((j.length:Int)==200)=true:=Yu
  clear b h1;go_enter func182,ntmps182;go_wp2_with fail;refine Calls.mono HN.o ?_;rintro e A ⟨rfl,g⟩;have f:=n.o.below g;obtain⟨c3,c7⟩:=Aa.c2 f.I.box 3 7;clear f n HN;go_wp2;exact⟨rfl,rfl,g⟩
 .have y:((j.length:Int)==200)=false:=Yu
  have B:(a==1000000000)=true:=by
   rcases b with h|h
   .exact absurd h h1
   .rw[h];rfl
  clear b h1;go_enter func182,ntmps182;go_wp2_with fail;refine Calls.mono HN.o ?_;rintro e A ⟨rfl,g⟩;have f:=n.o.below g;obtain⟨c3,c7⟩:=Aa.c2 f.I.box 3 7;clear f n HN;go_wp2;exact⟨rfl,rfl,g⟩
theorem TP(i d m:Nat)(O P L:Value)(y c f b:Int)(s:List Kd)(u:List Pd)(t:List Ld)(a:Int)(w:Zh)(h:DU w i d m O P L y c f b s u t)(o:0<=c)(p:c<=1000000000)(q:0<=a)(r:a<=1000000000)(A:1000000000<c+a):
 Calls prog 186 #[Yz d,Zg a] w fun e x=>e=.panicked [{v:=Ci 4 ⟨#[]⟩ ⟨#[]⟩,recovered:=false}]/\Zz w x:=by
 obtain⟨W,g⟩:∃W,W=w.alloc (.cells #[Yz d] 108):=⟨_,rfl⟩;have k:=(AA g).1;have n:=(AA g).2.2;have l:=h.below k;have j:=Yx g;have z:=Ho o p q r;obtain⟨B,_⟩:=n 0 _ rfl;obtain⟨c2,_⟩:=l.I.box 2 _ rfl;clear h l g n;go_enter func186,ntmps186;go_upto_region 1 with fail;rw[<-j.o];clear j;go_wp2;exact⟨rfl,rfl,k⟩
theorem LK(a:Zk)(cap:Nat)(n:Int)(w:Zh):
 Calls prog 220 #[.slice a 0 cap,Zg n,.func (.func 221) #[] #[]] w fun e b=>e=.returned (.tuple #[Zf,.bool false])/\Zz w b:=by
 go_enter func220,ntmps220;go_wp2
 go_loopw [9,10] (fun i j wr=>i=Zg 0/\j=Zg 0/\wr=w) (fun _ _ _=>0)
 case atStart=>exact⟨rfl,rfl,rfl⟩
 case round=>
  obtain⟨rfl,rfl,rfl⟩:=hrel;go_wp2
  go_ret2
  exact⟨by first|rfl|simp[Act.put],Below.refl _ _⟩
theorem NB(a:Zk)(cap:Nat)(n:Zi)(w:Zh):
 Calls prog 240 #[.slice a 0 cap,.string n,.func (.func 241) #[] #[]] w fun e b=>e=.returned (.tuple #[Zf,.bool false])/\Zz w b:=by
 go_enter func240,ntmps240;go_wp2
 go_loopw [9,10] (fun i j wr=>i=Zg 0/\j=Zg 0/\wr=w) (fun _ _ _=>0)
 case atStart=>exact⟨rfl,rfl,rfl⟩
 case round=>
  obtain⟨rfl,rfl,rfl⟩:=hrel;go_wp2
  go_ret2
  exact⟨by first|rfl|simp[Act.put],Below.refl _ _⟩
theorem YG(d:Nat)(L:Value)(c:List Ld)(n:Int)(w:Zh)(k:w.ownsRow d 164 3 L c.length (Ab lC c))(o:c.length<=600)(f:c.Pairwise (fun a b=>a.V<b.V)):
 Calls prog 220 #[L,Zg n,.func (.func 221) #[] #[]] w fun e l=>∃i:Nat,e=.returned (.tuple #[Zg i,.bool (decide (∃x,c[i]?=some x/\x.V=n))])/\JD c n i/\Zz w l:=by
 rcases k.2 with⟨rfl,q⟩|⟨g,cap,r,rfl,_⟩
 .have:c=[]:=List.eq_nil_of_length_eq_zero q;subst this;refine(LK none 0 n w).mono ?_;rintro e l ⟨rfl,m⟩;exact⟨0,Yv,⟨Zx,fun j x h=>by omega,fun j x _ p=>by simp at p⟩,m⟩
 .exact Ie g cap c n w d k o f
theorem YH(d:Nat)(P:Value)(c:List Pd)(n:Zi)(w:Zh)(k:w.ownsRow d 163 2 P c.length (Ab pC c))(o:c.length<=600)(f:c.Pairwise (fun a b=>less a.name b.name=true)):
 Calls prog 240 #[P,.string n,.func (.func 241) #[] #[]] w fun e l=>∃i:Nat,e=.returned (.tuple #[Zg i,.bool (decide (∃x,c[i]?=some x/\x.name=n))])/\DS c n i/\Zz w l:=by
 rcases k.2 with⟨rfl,q⟩|⟨g,cap,r,rfl,_⟩
 .have:c=[]:=List.eq_nil_of_length_eq_zero q;subst this;refine(NB none 0 n w).mono ?_;rintro e l ⟨rfl,m⟩;exact⟨0,Yv,⟨Zx,fun j x h=>by omega,fun j x _ p=>by simp at p⟩,m⟩
 .exact Jp g cap c n w d k o f
theorem YI(g d m:Nat)(O P L:Value)(B s l f:Int)(y:List Kd)(z:List Pd)(k:List Ld)(n:Int)(w:Zh)(h:DU w g d m O P L B s l f y z k)(D:k.length<=200)(c:k.Pairwise (fun a b=>a.V<b.V))(p:¬∃x∈k,x.V=n):
 Calls prog 185 #[Yz d,Zg n] w fun e A=>e=.panicked [{v:=Ci 5 ⟨#[]⟩ ⟨#[]⟩,recovered:=false}]/\Zz w A:=by
 have HS:=Yx (YG g L k n w h.I.ci Yw c);obtain⟨E,C,q⟩:=As h.I.ci;subst q;have o:=Yx p;obtain⟨c7,_⟩:=h.I.box 7 _ rfl;clear h c p;go_enter func185,ntmps185;go_wp2_with fail;refine Calls.mono HS.o ?_;rintro e F ⟨i,rfl,_,r⟩;have j:decide (∃x,k[i]?=some x/\x.V=n)=false:=by rw[decide_eq_false_iff_not];rintro⟨x,u,t⟩;exact o.o ⟨x,Zs u,t⟩
 rw[j];clear j HS o c7;go_wp2;exact⟨rfl,rfl,r⟩
theorem JJ(j d m:Nat)(O P L:Value)(z t k f:Int)(u:List Kd)(g:List Pd)(v:List Ld)(n:Zi)(w:Zh)(h:DU w j d m O P L z t k f u g v)(B:g.length<=200)(c:g.Pairwise (fun a b=>less a.name b.name=true)):
 Calls prog 217 #[Yz d,.string n] w fun e y=>∃i:Nat,e=.returned (.tuple #[Zg i,.bool (decide (∃x,g[i]?=some x/\x.name=n))])/\DS g n i/\Zz w y:=by
 have HS:=Yx (YH j P g n w h.I.cg Yw c);obtain⟨C,A,q⟩:=As h.I.cg;subst q;obtain⟨c6,_⟩:=h.I.box 6 _ rfl;clear h c;go_enter func217,ntmps217;go_wp2_with fail;refine Calls.mono HS.o ?_;rintro e D ⟨i,rfl,s,r⟩;obtain⟨o,l⟩:∃o,decide (∃x,g[i]?=some x/\x.name=n)=o:=⟨_,rfl⟩;have p:=Yx l;rw[l];clear l;go_wp2
 go_ret2
 exact⟨i,by rw[p.o];rfl,s,r⟩
theorem VH(j d m:Nat)(O P L:Value)(t q f c:Int)(r:List Kd)(l:List Pd)(s:List Ld)(n:Zi)(w:Zh)(h:DU w j d m O P L t q f c r l s)(y:l.length<=200)(g:l.Pairwise (fun a b=>less a.name b.name=true))(p:¬∃x∈l,x.name=n):
 Calls prog 184 #[Yz d,.string n] w fun e B=>e=.panicked [{v:=Ci 5 ⟨#[]⟩ ⟨#[]⟩,recovered:=false}]/\Zz w B:=by
 have HS:=Yx (JJ j d m O P L t q f c r l s n w h y g);have o:=Yx p;clear h g p;go_enter func184,ntmps184;go_wp2_with fail;refine Calls.mono HS.o ?_;rintro e C ⟨i,rfl,_,u⟩;have k:decide (∃x,l[i]?=some x/\x.name=n)=false:=by rw[decide_eq_false_iff_not];rintro⟨x,A,z⟩;exact o.o ⟨x,Zs A,z⟩
 rw[k];clear k HS o;go_wp2;exact⟨rfl,rfl,u⟩
theorem Cx{b:Nat}{e:TypeId}{size:Nat}{v:Value}{n:Nat}{f:Zj}(h:w.ownsRow b e size v n f){g:Nat}(c:v.ownBlock=some g):∃a,w.heap[g]?=some (.cells a e):=by
 rcases h.2 with⟨rfl,_⟩|⟨i,cap,a,rfl,_,d,_⟩
 .cases c
 .cases c;exact⟨a,d⟩
theorem DU.cz{d m:Nat}{O P L:Value}{v p i g:Int}{s:List Kd}{u:List Pd}{t:List Ld}(h:DU w k d m O P L v p i g s u t){R:Nat}{l:Array Value}(j:w.heap[R]?=some (.cells l 88))(r:R≠d):R∉vB d m O P L/\NS w R:=by
 refine⟨fun a=> ?_,fun l y e=>by rw[j]at e;cases e⟩;unfold vB at a;simp only[List.mem_cons,List.mem_append,Option.mem_toList]at a;rcases a with a|a|a|a|a
 .exact r a
 .obtain⟨n,f,_,q,_⟩:=h.I.map;obtain⟨D,⟨x,clock,o,_⟩,_⟩:=q;rw[<-a,j]at o;cases o
 .obtain⟨c,b⟩:=Cx h.I.ord a;rw[j]at b;cases b
 .obtain⟨c,b⟩:=Cx h.I.cg a;rw[j]at b;cases b
 .obtain⟨c,b⟩:=Cx h.I.ci a;rw[j]at b;cases b
theorem Mo(i d m:Nat)(O P L:Value)(N C f c:Int)(K:List Kd)(M:List Pd)(o:List Ld)(s r y:Zi)(g:Int)(ra:Zk)(u t:Nat)(w:Zh)(h:DU w i d m O P L N C f c K M o)(hl:o.length<=200)(p:o.Pairwise (fun a b=>a.V<b.V))(zA:∃x∈o,x.V=g):
 Calls prog 149 #[Yz d,.agg (Yh 5 s r g y ra u t)] w fun e T=>e=.returned (.agg z12.toArray)/\∃L',DU T i d m O P L' N C f c K M (Bp o g)/\Tn (d::L.ownBlock.toList) w T:=by
 obtain⟨W,j⟩:∃W,W=((w.alloc (.cells (Yh 5 s r g y ra u t) 66)).alloc (.cells Yg 88)).alloc (.cells Yg 88):=⟨_,rfl⟩;have J:=(Bq j).1;have G:=(Bq j).2.1;have X:=(Bq j).2.2.1;have Z:Aa W (w.heap.size+1) z12:=by have q:=Aa.new (w.alloc (.cells (Yh 5 s r g y ra u t) 66)) z12 88;rw[World.size_alloc]at q;rw[j];exact Aa.below (v:=Zf) q (Zy)
 have Y:Aa W (w.heap.size+2) z12:=by have q:=Aa.new ((w.alloc (.cells (Yh 5 s r g y ra u t) 66)).alloc (.cells Yg 88)) z12 88;rw[World.size_alloc,World.size_alloc]at q;rw[j];exact q
 have E:W.heap[w.heap.size+1]?=some (.cells Yg 88):=by rw[j,Below.heap_alloc _ _ _ Yv];have:=heap_alloc_new (w.alloc (.cells (Yh 5 s r g y ra u t) 66)) (.cells Yg 88);rw[World.size_alloc]at this;exact this
 have S:=h.below J;have zE:=h.I.box.lt;have F:∀b∈d::L.ownBlock.toList,b<w.heap.size:=fun b n=>h.I.cf b (by unfold vB;simp at n |-;rcases n with rfl|n<;>simp[*]);have Q:=Yx (VB i d m O P L N C f c K M o g W S hl p zA);have R:=Yx j
 have l:Hid (Aa W (w.heap.size+1) z12/\Aa W (w.heap.size+2) z12/\W.heap[w.heap.size+1]?=some (.cells Yg 88)/\Zz w W/\W.heap.size=w.heap.size+3/\i<=w.heap.size):=⟨Z,Y,E,J,G,h.lo⟩;have A:=Yx F;obtain⟨e0,e1,e2,e3⟩:=Aa.c4 X 0 1 2 3;clear j h S Z Y E J G X F;go_enter func149,ntmps149;go_upto_region 2 with fail;rw[<-R.o];clear R;go_wp2_with fail;refine Calls.mono Q.o ?_;rintro e U ⟨rfl,V,B,k⟩
 have zz:=l.o.2.2.2.2.1;have I:=Aa.same l.o.1 (k.block _ Yw (fun h=>by have:=A.o _ h;omega));have H:=Aa.same l.o.2.1 (k.block _ Yw (fun h=>by have:=A.o _ h;omega));have D:=(k.block _ Yw (fun h=>by have:=A.o _ h;omega)).trans l.o.2.2.1;have z:=Yx (Zn B (Zn k (B.cz D Yw)))
 obtain⟨⟨y0,q0⟩,⟨y1,q1⟩,⟨y2,q2⟩,⟨y3,q3⟩,⟨y4,q4⟩,⟨y5,q5⟩,⟨y6,q6⟩,⟨y7,q7⟩,⟨y8,q8⟩,⟨y9,q9⟩,⟨zB,zF⟩,zC,zG⟩:=AY I;obtain⟨⟨v0,_⟩,⟨v1,_⟩,⟨v2,_⟩,⟨v3,_⟩,⟨v4,_⟩,⟨v5,_⟩,⟨v6,_⟩,⟨v7,_⟩,⟨v8,_⟩,⟨v9,_⟩,⟨zH,_⟩,zI,_⟩:=AY H;clear B k I H D e0 e1 e2 e3 Q zz;go_wp2
 refine bodyPost_ret (v:=.agg z12.toArray) (by simp[results,results149,go_sem,y0,y1,y2,y3,y4,y5,y6,y7,y8,y9,zB,zC,z12]) rfl ⟨rfl,V,z.o.1.Y (Bd U (w.heap.size+1) _ _ _ _ _ _ _ _ _ _ _ _) (by intro b n;simp at n;subst n;exact⟨by have:=l.o.2.2.2.2.2;omega,z.o.2.2⟩),Tn.fresh ((Tn.of l.o.2.2.2.1).trans z.o.2.1) (Bd U (w.heap.size+1) _ _ _ _ _ _ _ _ _ _ _ _) Yw⟩
theorem Mp(g d m:Nat)(O P L:Value)(J i f a:Int)(H:List Kd)(I:List Pd)(z:List Ld)(s p t:Zi)(c:Int)(ra:Zk)(r q:Nat)(w:Zh)(h:DU w g d m O P L J i f a H I z)(hl:z.length<=200)(X:0<=i)(Y:0<=c)(hs:i+c<=1000000000):
 Calls prog 149 #[Yz d,.agg (Yh 6 s p c t ra r q)] w fun e Q=>e=.returned (.agg z12.toArray)/\∃L',DU Q g d m O P L' J (i+c) f a H I (AN z (i+c))/\Tn (d::L.ownBlock.toList) w Q:=by
 obtain⟨W,j⟩:∃W,W=((w.alloc (.cells (Yh 6 s p c t ra r q) 66)).alloc (.cells Yg 88)).alloc (.cells Yg 88):=⟨_,rfl⟩;have G:=(Bq j).1;have D:=(Bq j).2.1;have S:=(Bq j).2.2.1;have U:Aa W (w.heap.size+1) z12:=by have o:=Aa.new (w.alloc (.cells (Yh 6 s p c t ra r q) 66)) z12 88;rw[World.size_alloc]at o;rw[j];exact Aa.below (v:=Zf) o (Zy)
 have T:Aa W (w.heap.size+2) z12:=by have o:=Aa.new ((w.alloc (.cells (Yh 6 s p c t ra r q) 66)).alloc (.cells Yg 88)) z12 88;rw[World.size_alloc,World.size_alloc]at o;rw[j];exact o
 have B:W.heap[w.heap.size+1]?=some (.cells Yg 88):=by rw[j,Below.heap_alloc _ _ _ Yv];have:=heap_alloc_new (w.alloc (.cells (Yh 6 s p c t ra r q) 66)) (.cells Yg 88);rw[World.size_alloc]at this;exact this
 have N:=h.below G;have zB:=h.I.box.lt;have C:∀b∈d::L.ownBlock.toList,b<w.heap.size:=fun b n=>h.I.cf b (by unfold vB;simp at n |-;rcases n with rfl|n<;>simp[*]);have K:=Yx (VG g d m O P L J i f a H I z c W N hl X Y hs);have M:=Yx j
 have l:Hid (Aa W (w.heap.size+1) z12/\Aa W (w.heap.size+2) z12/\W.heap[w.heap.size+1]?=some (.cells Yg 88)/\Zz w W/\W.heap.size=w.heap.size+3/\g<=w.heap.size):=⟨U,T,B,G,D,h.lo⟩;have x:=Yx C;obtain⟨e0,e1,e2,e3⟩:=Aa.c4 S 0 1 2 3;clear j h N U T B G D S C;go_enter func149,ntmps149;go_upto_region 2 with fail;rw[<-M.o];clear M;go_wp2_with fail;refine Calls.mono K.o ?_;rintro e R ⟨rfl,V,y,k⟩
 have zz:=l.o.2.2.2.2.1;have F:=Aa.same l.o.1 (k.block _ Yw (fun h=>by have:=x.o _ h;omega));have E:=Aa.same l.o.2.1 (k.block _ Yw (fun h=>by have:=x.o _ h;omega));have A:=(k.block _ Yw (fun h=>by have:=x.o _ h;omega)).trans l.o.2.2.1;have u:=Yx (Zn y (Zn k (y.cz A Yw)))
 obtain⟨⟨y0,q0⟩,⟨y1,q1⟩,⟨y2,q2⟩,⟨y3,q3⟩,⟨y4,q4⟩,⟨y5,q5⟩,⟨y6,q6⟩,⟨y7,q7⟩,⟨y8,q8⟩,⟨y9,q9⟩,⟨Z,zC⟩,zA,zE⟩:=AY F;obtain⟨⟨v0,_⟩,⟨v1,_⟩,⟨v2,_⟩,⟨v3,_⟩,⟨v4,_⟩,⟨v5,_⟩,⟨v6,_⟩,⟨v7,_⟩,⟨v8,_⟩,⟨v9,_⟩,⟨zF,_⟩,zG,_⟩:=AY E;clear y k F E A e0 e1 e2 e3 K zz;go_wp2
 refine bodyPost_ret (v:=.agg z12.toArray) (by simp[results,results149,go_sem,y0,y1,y2,y3,y4,y5,y6,y7,y8,y9,Z,zA,z12]) rfl ⟨rfl,V,u.o.1.Y (Bd R (w.heap.size+1) _ _ _ _ _ _ _ _ _ _ _ _) (by intro b n;simp at n;subst n;exact⟨by have:=l.o.2.2.2.2.2;omega,u.o.2.2⟩),Tn.fresh ((Tn.of l.o.2.2.2.1).trans u.o.2.1) (Bd R (w.heap.size+1) _ _ _ _ _ _ _ _ _ _ _ _) Yw⟩
theorem LL(g d m:Nat)(O P L:Value)(N C f c:Int)(K:List Kd)(p:List Pd)(M:List Ld)(s j y:Zi)(l:Int)(ra:Zk)(u t:Nat)(w:Zh)(h:DU w g d m O P L N C f c K p M)(hl:p.length<=200)(q:p.Pairwise (fun a b=>less a.name b.name=true))(zA:∃x∈p,x.name=j):
 Calls prog 149 #[Yz d,.agg (Yh 3 s j l y ra u t)] w fun e T=>e=.returned (.agg z12.toArray)/\∃P',DU T g d m O P' L N C f c K (Ba p j) M/\Tn (d::P.ownBlock.toList) w T:=by
 obtain⟨W,i⟩:∃W,W=((w.alloc (.cells (Yh 3 s j l y ra u t) 66)).alloc (.cells Yg 88)).alloc (.cells Yg 88):=⟨_,rfl⟩;have J:=(Bq i).1;have G:=(Bq i).2.1;have X:=(Bq i).2.2.1;have Z:Aa W (w.heap.size+1) z12:=by have r:=Aa.new (w.alloc (.cells (Yh 3 s j l y ra u t) 66)) z12 88;rw[World.size_alloc]at r;rw[i];exact Aa.below (v:=Zf) r (Zy)
 have Y:Aa W (w.heap.size+2) z12:=by have r:=Aa.new ((w.alloc (.cells (Yh 3 s j l y ra u t) 66)).alloc (.cells Yg 88)) z12 88;rw[World.size_alloc,World.size_alloc]at r;rw[i];exact r
 have E:W.heap[w.heap.size+1]?=some (.cells Yg 88):=by rw[i,Below.heap_alloc _ _ _ Yv];have:=heap_alloc_new (w.alloc (.cells (Yh 3 s j l y ra u t) 66)) (.cells Yg 88);rw[World.size_alloc]at this;exact this
 have S:=h.below J;have zE:=h.I.box.lt;have F:∀b∈d::P.ownBlock.toList,b<w.heap.size:=fun b o=>h.I.cf b (by unfold vB;simp at o |-;rcases o with rfl|o<;>simp[*]);have Q:=Yx (TE g d m O P L N C f c K p M j W S hl q zA);have R:=Yx i
 have n:Hid (Aa W (w.heap.size+1) z12/\Aa W (w.heap.size+2) z12/\W.heap[w.heap.size+1]?=some (.cells Yg 88)/\Zz w W/\W.heap.size=w.heap.size+3/\g<=w.heap.size):=⟨Z,Y,E,J,G,h.lo⟩;have A:=Yx F;obtain⟨e0,e1,e2,e3⟩:=Aa.c4 X 0 1 2 3;clear i h S Z Y E J G X F;go_enter func149,ntmps149;go_upto_region 2 with fail;rw[<-R.o];clear R;go_wp2_with fail;refine Calls.mono Q.o ?_;rintro e U ⟨rfl,V,B,k⟩
 have zz:=n.o.2.2.2.2.1;have I:=Aa.same n.o.1 (k.block _ Yw (fun h=>by have:=A.o _ h;omega));have H:=Aa.same n.o.2.1 (k.block _ Yw (fun h=>by have:=A.o _ h;omega));have D:=(k.block _ Yw (fun h=>by have:=A.o _ h;omega)).trans n.o.2.2.1;have z:=Yx (Zn B (Zn k (B.cz D Yw)))
 obtain⟨⟨y0,q0⟩,⟨y1,q1⟩,⟨y2,q2⟩,⟨y3,q3⟩,⟨y4,q4⟩,⟨y5,q5⟩,⟨y6,q6⟩,⟨y7,q7⟩,⟨y8,q8⟩,⟨y9,q9⟩,⟨zB,zF⟩,zC,zG⟩:=AY I;obtain⟨⟨v0,_⟩,⟨v1,_⟩,⟨v2,_⟩,⟨v3,_⟩,⟨v4,_⟩,⟨v5,_⟩,⟨v6,_⟩,⟨v7,_⟩,⟨v8,_⟩,⟨v9,_⟩,⟨zH,_⟩,zI,_⟩:=AY H;clear B k I H D e0 e1 e2 e3 Q zz;go_wp2
 refine bodyPost_ret (v:=.agg z12.toArray) (by simp[results,results149,go_sem,y0,y1,y2,y3,y4,y5,y6,y7,y8,y9,zB,zC,z12]) rfl ⟨rfl,V,z.o.1.Y (Bd U (w.heap.size+1) _ _ _ _ _ _ _ _ _ _ _ _) (by intro b o;simp at o;subst o;exact⟨by have:=n.o.2.2.2.2.2;omega,z.o.2.2⟩),Tn.fresh ((Tn.of n.o.2.2.2.1).trans z.o.2.1) (Bd U (w.heap.size+1) _ _ _ _ _ _ _ _ _ _ _ _) Yw⟩
theorem Mq(d:Nat)(s j o:Zi)(g:Int)(ra:Zk)(n m:Nat)(c:Int)(a b:Zi)(w:Zh)(h:∀X,Zz w X->Calls prog 184 #[Yz d,.string j] X fun e k=>e=.panicked [{v:=Ci c a b,recovered:=false}]/\Zz X k):
 Calls prog 149 #[Yz d,.agg (Yh 3 s j g o ra n m)] w fun e k=>e=.panicked [{v:=Ci c a b,recovered:=false}]/\Zz w k:=by
 obtain⟨W,f⟩:∃W,W=((w.alloc (.cells (Yh 3 s j g o ra n m) 66)).alloc (.cells Yg 88)).alloc (.cells Yg 88):=⟨_,rfl⟩;have i:=(Bq f).1;have p:=(Bq f).2.2.1;have r:=Yx (h W i);have l:=Yx f;obtain⟨t,u,x,y⟩:=Aa.c4 p 0 1 2 3;clear f p h;go_enter func149,ntmps149;go_upto_region 2 with fail;rw[<-l.o];clear l;go_wp2_with fail;refine Calls.mono r.o ?_;rintro e z ⟨rfl,q⟩;exact⟨rfl,rfl,i.trans (q.mono i.size)⟩
theorem IJ(d:Nat)(s l o:Zi)(f:Int)(ra:Zk)(n m:Nat)(c:Int)(a b:Zi)(w:Zh)(h:∀X,Zz w X->Calls prog 182 #[Yz d,.string s,Zg f] X fun e j=>e=.panicked [{v:=Ci c a b,recovered:=false}]/\Zz X j):
 Calls prog 149 #[Yz d,.agg (Yh 4 s l f o ra n m)] w fun e j=>e=.panicked [{v:=Ci c a b,recovered:=false}]/\Zz w j:=by
 obtain⟨W,g⟩:∃W,W=((w.alloc (.cells (Yh 4 s l f o ra n m) 66)).alloc (.cells Yg 88)).alloc (.cells Yg 88):=⟨_,rfl⟩;have i:=(Bq g).1;have p:=(Bq g).2.2.1;have r:=Yx (h W i);have k:=Yx g;obtain⟨t,u,x,y⟩:=Aa.c4 p 0 1 2 3;clear g p h;go_enter func149,ntmps149;go_upto_region 2 with fail;rw[<-k.o];clear k;go_wp2_with fail;refine Calls.mono r.o ?_;rintro e z ⟨rfl,q⟩;exact⟨rfl,rfl,i.trans (q.mono i.size)⟩
theorem NC(d:Nat)(s l o:Zi)(f:Int)(ra:Zk)(n m:Nat)(c:Int)(a b:Zi)(w:Zh)(h:∀X,Zz w X->Calls prog 185 #[Yz d,Zg f] X fun e j=>e=.panicked [{v:=Ci c a b,recovered:=false}]/\Zz X j):
 Calls prog 149 #[Yz d,.agg (Yh 5 s l f o ra n m)] w fun e j=>e=.panicked [{v:=Ci c a b,recovered:=false}]/\Zz w j:=by
 obtain⟨W,g⟩:∃W,W=((w.alloc (.cells (Yh 5 s l f o ra n m) 66)).alloc (.cells Yg 88)).alloc (.cells Yg 88):=⟨_,rfl⟩;have i:=(Bq g).1;have p:=(Bq g).2.2.1;have r:=Yx (h W i);have k:=Yx g;obtain⟨t,u,x,y⟩:=Aa.c4 p 0 1 2 3;clear g p h;go_enter func149,ntmps149;go_upto_region 2 with fail;rw[<-k.o];clear k;go_wp2_with fail;refine Calls.mono r.o ?_;rintro e z ⟨rfl,q⟩;exact⟨rfl,rfl,i.trans (q.mono i.size)⟩
theorem ND(d:Nat)(s l o:Zi)(f:Int)(ra:Zk)(n m:Nat)(c:Int)(a b:Zi)(w:Zh)(h:∀X,Zz w X->Calls prog 186 #[Yz d,Zg f] X fun e j=>e=.panicked [{v:=Ci c a b,recovered:=false}]/\Zz X j):
 Calls prog 149 #[Yz d,.agg (Yh 6 s l f o ra n m)] w fun e j=>e=.panicked [{v:=Ci c a b,recovered:=false}]/\Zz w j:=by
 obtain⟨W,g⟩:∃W,W=((w.alloc (.cells (Yh 6 s l f o ra n m) 66)).alloc (.cells Yg 88)).alloc (.cells Yg 88):=⟨_,rfl⟩;have i:=(Bq g).1;have p:=(Bq g).2.2.1;have r:=Yx (h W i);have k:=Yx g;obtain⟨t,u,x,y⟩:=Aa.c4 p 0 1 2 3;clear g p h;go_enter func149,ntmps149;go_upto_region 2 with fail;rw[<-k.o];clear k;go_wp2_with fail;refine Calls.mono r.o ?_;rintro e z ⟨rfl,q⟩;exact⟨rfl,rfl,i.trans (q.mono i.size)⟩
theorem JK(d:Nat)(s j o:Zi)(g:Int)(ra:Zk)(n m:Nat)(c:Int)(a b:Zi)(w:Zh)(h:∀X,Zz w X->Calls prog 183 #[Yz d,.string j,.string s] X fun e k=>e=.panicked [{v:=Ci c a b,recovered:=false}]/\Zz X k):
 Calls prog 149 #[Yz d,.agg (Yh 2 s j g o ra n m)] w fun e k=>e=.panicked [{v:=Ci c a b,recovered:=false}]/\Zz w k:=by
 obtain⟨W,f⟩:∃W,W=((w.alloc (.cells (Yh 2 s j g o ra n m) 66)).alloc (.cells Yg 88)).alloc (.cells Yg 88):=⟨_,rfl⟩;have i:=(Bq f).1;have p:=(Bq f).2.2.1;have r:=Yx (h W i);have l:=Yx f;obtain⟨t,u,x,y⟩:=Aa.c4 p 0 1 2 3;clear f p h;go_enter func149,ntmps149;go_upto_region 2 with fail;rw[<-l.o];clear l;go_wp2_with fail;refine Calls.mono r.o ?_;rintro e z ⟨rfl,q⟩;exact⟨rfl,rfl,i.trans (q.mono i.size)⟩
theorem LM(i d m:Nat)(O P L:Value)(E n a c:Int)(C:List Kd)(R:List Pd)(D:List Ld)(s u A:Zi)(f:Int)(ra:Zk)(y x:Nat)(w:Zh)(h:DU w i d m O P L E n a c C R D)(zF:∀k∈C,(k.sum.size:Int)=E)(zH:Av C s)(hl:D.length<200)(zA:0<=a)(zB:a<1000000000)(zC:0<=n)(zE:n<=1000000000)(zG:0<=f)(g:f<=1000000000):
 Calls prog 149 #[Yz d,.agg (Yh 4 s u f A ra y x)] w fun e X=>e=.returned (.agg #[Zf,Zf,Zf,Zf,Zf,Zc,Zc,Zc,Zd,Zg (a+1),Zd,Zd])/\∃L',DU X i d m O P L' E n (a+1) c C R (D++[⟨a+1,s,n+f⟩])/\Tn (d::L.ownBlock.toList) w X:=by
 obtain⟨W,j⟩:∃W,W=((w.alloc (.cells (Yh 4 s u f A ra y x) 66)).alloc (.cells Yg 88)).alloc (.cells Yg 88):=⟨_,rfl⟩;have Q:=(Bq j).1;have K:=(Bq j).2.1;have Z:=(Bq j).2.2.1;have zR:Aa W (w.heap.size+1) z12:=by have B:=Aa.new (w.alloc (.cells (Yh 4 s u f A ra y x) 66)) z12 88;rw[World.size_alloc]at B;rw[j];exact Aa.below (v:=Zf) B (Zy)
 have zO:Aa W (w.heap.size+2) z12:=by have B:=Aa.new ((w.alloc (.cells (Yh 4 s u f A ra y x) 66)).alloc (.cells Yg 88)) z12 88;rw[World.size_alloc,World.size_alloc]at B;rw[j];exact B
 have I:W.heap[w.heap.size+1]?=some (.cells Yg 88):=by rw[j,Below.heap_alloc _ _ _ Yv];have:=heap_alloc_new (w.alloc (.cells (Yh 4 s u f A ra y x) 66)) (.cells Yg 88);rw[World.size_alloc]at this;exact this
 have G:W.heap[w.heap.size+2]?=some (.cells Yg 88):=by have:=heap_alloc_new ((w.alloc (.cells (Yh 4 s u f A ra y x) 66)).alloc (.cells Yg 88)) (.cells Yg 88);rw[World.size_alloc,World.size_alloc]at this;rw[j];exact this
 have U:=h.below Q;have zK:=h.I.box.lt;have J:∀b∈d::L.ownBlock.toList,b<w.heap.size:=fun b l=>h.I.cf b (by unfold vB;simp at l |-;rcases l with rfl|l<;>simp[*]);have S:=Yx (OL i d m O P L E n a c C R D s f W U zF zH hl zA zB zC zE zG g);have T:=Yx j
 have o:Hid (Aa W (w.heap.size+1) z12/\Aa W (w.heap.size+2) z12/\W.heap[w.heap.size+1]?=some (.cells Yg 88)/\W.heap[w.heap.size+2]?=some (.cells Yg 88)/\Zz w W/\W.heap.size=w.heap.size+3/\i<=w.heap.size):=⟨zR,zO,I,G,Q,K,h.lo⟩;have q:=Yx J;obtain⟨e0,e1,e2,e3⟩:=Aa.c4 Z 0 1 2 3;clear j h U zR zO I G Q K Z J;go_enter func149,ntmps149;go_upto_region 2 with fail;rw[<-T.o];clear T;go_wp2_with fail
 refine Calls.mono S.o ?_;rintro e Y ⟨rfl,V,t,g⟩;have zz:=o.o.2.2.2.2.2.1;have N:=Aa.same o.o.1 (g.block _ Yw (fun h=>by have:=q.o _ h;omega));have M:=Aa.same o.o.2.1 (g.block _ Yw (fun h=>by have:=q.o _ h;omega));have H:=(g.block _ Yw (fun h=>by have:=q.o _ h;omega)).trans o.o.2.2.1;have F:=(g.block _ Yw (fun h=>by have:=q.o _ h;omega)).trans o.o.2.2.2.1
 have p:=Yx (Zn t (Zn g (Zn (t.cz H Yw) (t.cz F Yw))));obtain⟨⟨y0,q0⟩,⟨y1,q1⟩,⟨y2,q2⟩,⟨y3,q3⟩,⟨y4,q4⟩,⟨y5,q5⟩,⟨y6,q6⟩,⟨y7,q7⟩,⟨y8,q8⟩,⟨y9,q9⟩,⟨zI,zP⟩,zJ,zS⟩:=AY N;obtain⟨⟨v0,p0⟩,⟨v1,p1⟩,⟨v2,p2⟩,⟨v3,p3⟩,⟨v4,p4⟩,⟨v5,p5⟩,⟨v6,p6⟩,⟨v7,p7⟩,⟨v8,p8⟩,⟨v9,p9⟩,⟨zT,zM⟩,zU,zN⟩:=AY M;clear t g N M H F e0 e1 e2 e3 S zz;go_wp2
 refine bodyPost_ret (v:=.agg #[Zf,Zf,Zf,Zf,Zf,Zc,Zc,Zc,Zd,Zg (a+1),Zd,Zd]) (by simp[results,results149,go_sem,y0,y1,y2,y3,y4,y5,y6,y7,y8,y9,zI,zJ]) rfl ?_;have r:=(Tn.set (V:=[w.heap.size+1,w.heap.size+2]) Y (w.heap.size+2) 9 (Zg (a+1)) Yv).trans (Tn.mono (Bd (Y.setCell (Ze (w.heap.size+2) 9) (Zg (a+1))) (w.heap.size+1) Zf Zf Zf Zf Zf Zc Zc Zc Zd (Zg (a+1)) Zd Zd) Yv)
 refine⟨rfl,V,p.o.1.Y r (by intro b l;simp at l;have:=o.o.2.2.2.2.2.2;rcases l with rfl|rfl;exact⟨Yw,p.o.2.2.1⟩;exact⟨Yw,p.o.2.2.2⟩),?_⟩;have z:=(Tn.of (V:=d::L.ownBlock.toList) o.o.2.2.2.2.1).trans p.o.2.1;exact⟨r.os.trans z.os,r.tape.trans z.tape,r.output.trans z.output,Zm z.size r.size,fun b l hv=>(r.block b (Zr l z.size) Yu).trans (z.block b l hv)⟩
def Bl(ps:List Pd)(n s:Zi):List Pd:=ps.filter (fun x=>less x.name n)++[⟨n,s⟩]++ps.filter (fun x=> !(less x.name n)&& !decide (x.name=n))
theorem DS.split(h:DS b n i):b.filter (fun x=>less x.name n)=b.take i:=by
 have e:=(List.take_append_drop i b).symm
 conv=>lhs;rw[e]
 rw[List.filter_append,List.filter_eq_self.2 (fun x c=> ?_),List.filter_eq_nil_iff.2 (fun x c=> ?_),List.append_nil]
 .obtain⟨j,a⟩:=List.getElem?_of_mem c;rw[List.getElem?_drop]at a;rw[h.hi (i+j) x Yw a];simp
 .obtain⟨j,a⟩:=List.getElem?_of_mem c;have d:=(Zw a).1;rw[List.length_take]at d;rw[List.getElem?_take_of_lt Yw]at a;exact h.lo j x Yw a
theorem DS.ib(h:DS b n i):b.filter (fun x=> !(less x.name n)&& !decide (x.name=n))=(b.drop i).filter (fun x=> !decide (x.name=n)):=by
 have e:=(List.take_append_drop i b).symm
 conv=>lhs;rw[e]
 rw[List.filter_append,List.filter_eq_nil_iff.2 (fun x c=> ?_),List.nil_append]
 .refine List.filter_congr (fun x c=> ?_);obtain⟨j,a⟩:=List.getElem?_of_mem c;rw[List.getElem?_drop]at a;rw[h.hi (i+j) x Yw a];simp
 .obtain⟨j,a⟩:=List.getElem?_of_mem c;have d:=(Zw a).1;rw[List.length_take]at d;rw[List.getElem?_take_of_lt Yw]at a;rw[h.lo j x Yw a];simp
theorem Qe(h:DS a n i)(b:¬∃x∈a,x.name=n):Bl a n s=a.take i++[⟨n,s⟩]++a.drop i:=by unfold Bl;rw[h.split,h.ib,List.filter_eq_self.2 (fun x d=> ?_)];have c:x.name≠n:=fun e=>b ⟨x,List.mem_of_mem_drop d,e⟩;simpa using c
theorem VI(h:DS d n i)(q:d[i]?=some x)(k:x.name=n)(c:d.Pairwise (fun a b=>less a.name b.name=true)):Bl d n s=d.set i ⟨n,s⟩:=by
 obtain⟨f,e⟩:=Zw q;unfold Bl;rw[h.split,h.ib,List.drop_eq_getElem_cons f,List.filter_cons,e,k];simp only[decide_true,Bool.not_true,Bool.false_eq_true,if_false];rw[List.filter_eq_self.2 (fun y r=> ?_),List.set_eq_take_append_cons_drop,if_pos f,List.append_assoc]
 .rfl
 .obtain⟨j,g⟩:=List.getElem?_of_mem r;rw[List.getElem?_drop]at g;obtain⟨l,o⟩:=Zw g;have:=List.pairwise_iff_getElem.1 c i (i+1+j) f l Yw;rw[e,o,k]at this;have m:y.name≠n:=fun p=>by rw[p,Co]at this;cases this
  simpa using m
def DT(ps:List Pd)(n:Zi):Bool:= !(ps.all (fun x=>less x.name n))
def BW(ps:List Pd)(n s:Zi):List Pd:=ps.filter (fun x=>less x.name n)++(if DT ps n then [⟨n,s⟩]else [])++ps.filter (fun x=> !(less x.name n)&& !decide (x.name=n))
theorem Ig(n:Zi)(c:a[k]?=some x):DT (a.take (k+1)) n=(DT (a.take k) n|| !(less x.name n)):=by obtain⟨b,rfl⟩:=Zw c;unfold DT;rw[Zu b,List.all_append];simp
theorem FM(h:DT a n=false):a.filter (fun x=> !(less x.name n)&& !decide (x.name=n))=[]:=by
 rw[List.filter_eq_nil_iff];intro x b;have:less x.name n=true:=by unfold DT at h;simp only[Bool.not_eq_false']at h;exact List.all_eq_true.1 h x b
 simp[this]
theorem RY(n s:Zi)(e:a[k]?=some x)(c:DT (a.take k) n=false)(d:less x.name n=true):BW (a.take (k+1)) n s=BW (a.take k) n s++[x]:=by have b:=Ig n e;rw[c,d]at b;unfold BW;rw[FM c,FM (by rw[b];rfl),b,c];obtain⟨f,rfl⟩:=Zw e;rw[Zu f,List.filter_append];simp[d]
theorem YJ(n s:Zi)(e:a[k]?=some x)(b:DT (a.take k) n=false)(d:less x.name n=false):BW (a.take (k+1)) n s=BW (a.take k) n s++[⟨n,s⟩]++(if x.name=n then []else [x]):=by
 have c:=Ig n e;rw[b,d]at c;unfold BW;rw[FM b,c,b];have g:=FM b;obtain⟨f,rfl⟩:=Zw e;rw[Zu f,List.filter_append,List.filter_append,g];by_cases hn:a[k].name=n
 .simp[hn,Co]
 .simp[d,hn]
theorem TQ(n s:Zi)(g:d.Pairwise (fun a b=>less a.name b.name=true))(p:d[k]?=some x)(i:DT (d.take k) n=true):x.name≠n/\BW (d.take (k+1)) n s=BW (d.take k) n s++[x]:=by
 have m:=Ig n p;rw[i,Bool.true_or]at m;obtain⟨l,rfl⟩:=Zw p;obtain⟨y,v,f⟩:∃y∈d.take k,less y.name n=false:=by unfold DT at i;simpa using i
 obtain⟨j,t⟩:=List.getElem?_of_mem v;obtain⟨q,e⟩:=Zw t;rw[List.length_take]at q;rw[List.getElem_take]at e;have c:=List.pairwise_iff_getElem.1 g j k Yw l Yw;rw[e]at c;have u:less d[k].name n=false:=by
  cases h:less d[k].name n with
  |false=>rfl
  |true=>rw[Cw c h]at f;cases f
 have o:d[k].name≠n:=fun r=>by rw[r]at c;rw[c]at f;cases f
 refine⟨o,?_⟩;unfold BW;rw[m,i,Zu l,List.filter_append,List.filter_append];simp[u,o]
theorem VJ(n s:Zi)(b:DT a n=true):BW a n s=Bl a n s:=by unfold BW Bl;rw[b];rfl
theorem YK(n s:Zi)(b:DT a n=false):BW a n s++[⟨n,s⟩]=Bl a n s:=by unfold BW Bl;rw[b,FM b];simp
theorem KS(a:List Pd)(n s:Zi):(BW a n s).length<=a.length+1:=by
 have h:∀(l:List Pd),(l.filter (fun x=>less x.name n)).length+(l.filter (fun x=> !(less x.name n)&& !decide (x.name=n))).length<=l.length:=by
  intro l;induction l with
  |nil=>simp
  |cons x l ih=>rw[List.filter_cons,List.filter_cons];cases less x.name n<;>by_cases hn:x.name=n<;>simp[hn]<;>omega
 have:=h a;unfold BW;rw[List.length_append,List.length_append];split<;>simp<;>omega
def WX(w w':Zh)(e:Ending)(wd now given births:Int)(T L:Value)(ps:List Pd)(n s:Zi):Prop:=
 Below w.heap.size w w'/\((100<(Bl ps n s).length/\e=.returned (.agg #[Zg 4,Zf,Zf,Zf,Zf,Zc,Zc,Zc,Zd,Zf,Zd,Zd]))\/
  ((Bl ps n s).length<=100/\∃g c,e=.returned (.agg #[Zf,Zg wd,Zg now,Zg given,Zg births,T,.slice (some ⟨g,0,none⟩) (Bl ps n s).length c,L,Zd,Zf,Zd,Zd])/\w'.ownsRow w.heap.size 163 2 (.slice (some ⟨g,0,none⟩) (Bl ps n s).length c) (Bl ps n s).length (Ab pC (Bl ps n s))))
theorem TR(K U j h kind zM:Int)(ta pa la ra:Zk)(tc pc lc ln rn rc:Nat)(Q:List Kd)(d:List Pd)(n s S:Zi)(w:Zh)(yU:By w w.heap.size ta Q)(zY:AG w w.heap.size pa d)(xP:Q.length<=1000)(hl:d.length<=1000)(yW:Av Q s)(zH:d.Pairwise (fun a b=>less a.name b.name=true)):
 Calls prog 138 #[.agg (Yi K U j h ta Q.length tc pa d.length pc la ln lc),.agg (Yh kind s n zM S ra rn rc)] w fun e w'=>WX w w' e K U j h (.slice ta Q.length tc) (.slice la ln lc) d n s:=by
 obtain⟨W,hW⟩:∃W,W=((w.alloc (.cells (Yi K U j h ta Q.length tc pa d.length pc la ln lc) 40)).alloc (.cells (Yh kind s n zM S ra rn rc) 66)).alloc (.cells Yg 88):=⟨_,rfl⟩;have bW:=(Bq hW).1;have xF:=(Bq hW).2.1;have x0:=(Bq hW).2.2.1;have xe:Aa W (w.heap.size+1) (Ye kind s n zM S ra rn rc):=by have h1:=Aa.new (w.alloc (.cells (Yi K U j h ta Q.length tc pa d.length pc la ln lc) 40)) (Ye kind s n zM S ra rn rc) 66;rw[World.size_alloc]at h1;rw[hW];exact Aa.below h1 (Zy)
 have x1:Aa W (w.heap.size+2) z12:=by have h1:=Aa.new ((w.alloc (.cells (Yi K U j h ta Q.length tc pa d.length pc la ln lc) 40)).alloc (.cells (Yh kind s n zM S ra rn rc) 66)) z12 88;rw[World.size_alloc,World.size_alloc]at h1;rw[hW];exact h1
 have yQ:=Yx (Fp K U j h ta tc (.slice pa d.length pc) (.slice la ln lc) Q s W w.heap.size (By.below yU bW) bW.size Yw);have xN:¬CU Q s<0:=by
  rcases Fc Q s with⟨_,hn⟩|⟨i,k,e,_⟩
  .exact absurd yW hn
  .omega
 have o:Hid (∀X,Below (w.heap.size+3) W X->Aa X w.heap.size (Yj K U j h ta Q.length tc pa d.length pc la ln lc)/\Aa X (w.heap.size+1) (Ye kind s n zM S ra rn rc)/\Aa X (w.heap.size+2) z12):=fun X hX=>⟨Aa.same x0 (hX.block _ Yw),Aa.same xe (hX.block _ Yw),Aa.same x1 (hX.block _ Yw)⟩;have HW:=Yx hW;have f:w.heap.size+3<=W.heap.size:=Yw
 have HR:Hid (AG w w.heap.size pa d):=zY;have yP:Hid (Zz w W):=bW;have xA:=Yx zH;obtain⟨v0,t,u,y,z,A,B,Y⟩:=AR x0;obtain⟨r,_⟩:=xe 1 _ rfl;clear hW xF x0 x1 xe zY bW yU yW zH;go_enter func138,ntmps138;go_upto_region 1 with fail;rw[<-HW.o];clear HW;go_wp2_with fail;refine Calls.mono yQ.o ?_;rintro e W1 ⟨rfl,yE⟩;have yN:w.heap.size+3<=W1.heap.size:=Zm f yE.size
 have yY:Hid (Below (w.heap.size+3) W W1):=yE.mono f;have bA:Below W1.heap.size W1 (W1.alloc (.cells #[] 163)):=Zy;have yR:Hid ((W1.alloc (.cells #[] 163)).ownsRow (w.heap.size+3) 163 2 (Za W1.heap.size 0 0) 0 []):=World.ownsRow_lit (base:=w.heap.size+3) (e:=163) (size:=2) W1 #[] 0 Yw Yq rfl
 have yO:Hid (Below (w.heap.size+3) W (W1.alloc (.cells #[] 163))):=yY.o.trans (bA.mono yN);generalize CU Q s=fi at *
 clear yQ bA yE r v0 t u y z A B Y;go_wp2
 go_loopw [5,6,7] (fun v dn i wr=>∃(k g c:Nat),k<=d.length/\i=Zg k/\dn=.bool (DT (d.take k) n)/\v=Za g (BW (d.take k) n s).length c/\Hid (wr.ownsRow (w.heap.size+3) 163 2 (Za g (BW (d.take k) n s).length c) (BW (d.take k) n s).length (Ab pC (BW (d.take k) n s))/\Below (w.heap.size+3) W wr)) (fun _ _ i _=>d.length -(intOf i).toNat)
 case atStart=>exact⟨0,W1.heap.size,0,Nat.zero_le _,rfl,rfl,by simp[BW,DT],⟨by simpa [BW,DT,Ab]using yR.o,yO.o⟩⟩
 case round=>
  clear yR yO;obtain⟨k,g,c,hk,rfl,rfl,rfl,R⟩:=hrel;have zP:Below w.heap.size w wr:=yP.o.trans (R.o.2.mono Yw);have yG:w.heap.size+3<=wr.heap.size:=Zm f R.o.2.size;obtain⟨v0,t,u,y,z,A,B,Y⟩:=AR (o.o _ R.o.2).1;obtain⟨r,F⟩:=Aa.c2 ((o.o _ R.o.2).2.1) 1 2;by_cases hlt:k<d.length
  .obtain⟨O,yC,ha,hb,yS⟩:=(AG.below HR.o zP).at hlt;subst ha;have HG:Hid (d[k]?=some d[k]):=Zv hlt;obtain⟨G,H⟩:=yS k _ HG.o;have yZ:∀X,Below (w.heap.size+3) W X->X.cell? (Ze O (yC+k *2))=some (.string d[k].name)/\X.cell? (Ze O (yC+k *2+1))=some (.string d[k].sum):=fun X hX=>by obtain⟨b2,xK,e2,_,xD⟩:=(AG.below HR.o (yP.o.trans (hX.mono Yw))).at hlt;cases e2;exact xD k _ HG.o
   have xO:(BW (d.take k) n s).length<=1001:=by have:=KS (d.take k) n s;rw[List.length_take]at this;omega
   have yM:O<wr.heap.size:=by have:=zP.size;omega
   clear yS;have I:=Yx (RY n s HG.o);have zN:=Yx (YJ n s HG.o);have L:=Yx (TQ n s xA.o HG.o);have HD:=Yx (Ig n HG.o);generalize d[k]=x at *
   generalize hGk:BW (d.take k) n s=gk at *
   generalize hDk:DT (d.take k) n=dk at *
   have xL:=Yx hGk;clear hGk hDk;have HC:=Yx yZ;have zC:=R.o.2;have yD:=R.o.1;have xU:=yG;have xS:=yM;cases dk with
   |true=>
    obtain⟨N,hE⟩:=L.o rfl;have HE:=Yx hE;have zI:Hid (DT (d.take (k+1)) n=true):=by show _=_;rw[HD.o];rfl
    have zJ:(x.name.toList==n.toList)=false:=Cd N;have hq:(x.name.toList !=n.toList)=true:=by simp[bne,zJ]
    clear hE I zN L N R;go_wp2;go_quiet (fail);have J:Below wr.heap.size wr (wr.drewN nq):=Cb (Below.refl _ _) _;generalize wr.drewN nq=wa at *
    have m:Below (w.heap.size+3) W wa:=zC.trans (J.mono (Zm f zC.size));have zA:=Ae yD J;have zG:w.heap.size+3<=wa.heap.size:=Zm f m.size;have yH:O<wa.heap.size:=Yw
    clear G H r F v0 t u y z A B;obtain⟨v0,t,u,y,z,A,B,Y⟩:=AR (o.o _ m).1;obtain⟨r,F⟩:=Aa.c2 ((o.o _ m).2.1) 1 2;obtain⟨G,H⟩:=HC.o wa m;go_wp2;go_quiet (fail);have J:Below wa.heap.size wa (wa.drewN nq):=Cb (Below.refl _ _) _;generalize wa.drewN nq=wb at *
    have T:Below (w.heap.size+3) W wb:=m.trans (J.mono (Zm f m.size));have zR:=Ae zA J;have zV:w.heap.size+3<=wb.heap.size:=Zm f T.size;have xG:O<wb.heap.size:=Yw
    clear G H r F v0 t u y z A B;obtain⟨v0,t,u,y,z,A,B,Y⟩:=AR (o.o _ T).1;obtain⟨r,F⟩:=Aa.c2 ((o.o _ T).2.1) 1 2;obtain⟨G,H⟩:=HC.o wb T;obtain⟨g8,p,wc,E,D,C,_⟩:=IW wb (w.heap.size+3) _ gk zR x Yn zV 37;have l:Below (w.heap.size+3) W wc:=T.trans ((Below.refl _ _).grown C zV (fun q e=>(Ac zR e).1));have yJ:w.heap.size+3<=wc.heap.size:=Zm f l.size
    have yI:O<wc.heap.size:=Yw
    have zB:=D;clear D C;go_wp2_with (at_builtin;refine wpList_append_run rfl _ _ 37 37 rfl rfl rfl E ?_);clear E;clear G H r F v0 t u y z A B;obtain⟨v0,t,u,y,z,A,B,Y⟩:=AR (o.o _ l).1;obtain⟨r,F⟩:=Aa.c2 ((o.o _ l).2.1) 1 2;obtain⟨G,H⟩:=HC.o wc l;have M:=Yx (Zn zB l);clear zB l;go_wp2
    exact⟨⟨k+1,g8,p,Yw,Yp,by rw[zI.o],by rw[HE.o];simp,⟨by rw[HE.o];simpa using M.o.1,M.o.2⟩⟩,by simp[intOf];omega⟩
   |false=>
    cases hless:Op.bytesLess x.name.toList n.toList with
    |true=>
     have HE:=Yx (I.o rfl hless);have zI:Hid (DT (d.take (k+1)) n=false):=by show _=_;rw[HD.o];unfold less;rw[hless];rfl
     have N:x.name≠n:=fun e=>by have:=Co n;unfold less at this;rw[e,this]at hless;cases hless
     have zJ:(x.name.toList==n.toList)=false:=Cd N;have hq:(x.name.toList !=n.toList)=true:=by simp[bne,zJ]
     clear I zN L N R;go_wp2;go_quiet (fail);have J:Below wr.heap.size wr (wr.drewN nq):=Cb (Below.refl _ _) _;generalize wr.drewN nq=wa at *
     have m:Below (w.heap.size+3) W wa:=zC.trans (J.mono (Zm f zC.size));have zA:=Ae yD J;have zG:w.heap.size+3<=wa.heap.size:=Zm f m.size;have yH:O<wa.heap.size:=Yw
     clear G H r F v0 t u y z A B;obtain⟨v0,t,u,y,z,A,B,Y⟩:=AR (o.o _ m).1;obtain⟨r,F⟩:=Aa.c2 ((o.o _ m).2.1) 1 2;obtain⟨G,H⟩:=HC.o wa m;go_wp2;go_quiet (fail);have J:Below wa.heap.size wa (wa.drewN nq):=Cb (Below.refl _ _) _;generalize wa.drewN nq=wb at *
     have T:Below (w.heap.size+3) W wb:=m.trans (J.mono (Zm f m.size));have zR:=Ae zA J;have zV:w.heap.size+3<=wb.heap.size:=Zm f T.size;have xG:O<wb.heap.size:=Yw
     clear G H r F v0 t u y z A B;obtain⟨v0,t,u,y,z,A,B,Y⟩:=AR (o.o _ T).1;obtain⟨r,F⟩:=Aa.c2 ((o.o _ T).2.1) 1 2;obtain⟨G,H⟩:=HC.o wb T;obtain⟨g8,p,wc,E,D,C,_⟩:=IW wb (w.heap.size+3) _ gk zR x Yn zV 37;have l:Below (w.heap.size+3) W wc:=T.trans ((Below.refl _ _).grown C zV (fun q e=>(Ac zR e).1));have yJ:w.heap.size+3<=wc.heap.size:=Zm f l.size
     have yI:O<wc.heap.size:=Yw
     have zB:=D;clear D C;go_wp2_with (at_builtin;refine wpList_append_run rfl _ _ 37 37 rfl rfl rfl E ?_);clear E;clear G H r F v0 t u y z A B;obtain⟨v0,t,u,y,z,A,B,Y⟩:=AR (o.o _ l).1;obtain⟨r,F⟩:=Aa.c2 ((o.o _ l).2.1) 1 2;obtain⟨G,H⟩:=HC.o wc l;have M:=Yx (Zn zB l);clear zB l;go_wp2
     exact⟨⟨k+1,g8,p,Yw,Yp,by rw[zI.o],by rw[HE.o];simp,⟨by rw[HE.o];simpa using M.o.1,M.o.2⟩⟩,by simp[intOf];omega⟩
    |false=>
     have yA:=Yx (zN.o rfl hless);have zI:Hid (DT (d.take (k+1)) n=true):=by show _=_;rw[HD.o];unfold less;rw[hless];rfl
     by_cases N:x.name=n
     .have zJ:(x.name.toList==n.toList)=true:=by rw[N];simp
      have hq:(x.name.toList !=n.toList)=false:=by rw[N];simp
      have HE:Hid (BW (d.take (k+1)) n s=gk++[⟨n,s⟩]):=by show _=_;rw[yA.o,if_pos N,List.append_nil]
      clear I zN L N R yA;go_wp2;go_quiet (fail);have J:Below wr.heap.size wr (wr.drewN nq):=Cb (Below.refl _ _) _;generalize wr.drewN nq=wa at *
      have m:Below (w.heap.size+3) W wa:=zC.trans (J.mono (Zm f zC.size));have zA:=Ae yD J;have zG:w.heap.size+3<=wa.heap.size:=Zm f m.size;have yH:O<wa.heap.size:=Yw
      clear G H r F v0 t u y z A B;obtain⟨v0,t,u,y,z,A,B,Y⟩:=AR (o.o _ m).1;obtain⟨r,F⟩:=Aa.c2 ((o.o _ m).2.1) 1 2;obtain⟨G,H⟩:=HC.o wa m;obtain⟨g8,p,wc,E,D,C,_⟩:=IW wa (w.heap.size+3) _ gk zA ⟨n,s⟩ Yn zG 37;have l:Below (w.heap.size+3) W wc:=m.trans ((Below.refl _ _).grown C zG (fun q e=>(Ac zA e).1));have yJ:w.heap.size+3<=wc.heap.size:=Zm f l.size
      have yI:O<wc.heap.size:=Yw
      have zB:=D;clear D C;go_wp2_with (at_builtin;refine wpList_append_run rfl _ _ 37 37 rfl rfl rfl E ?_);clear E;clear G H r F v0 t u y z A B;obtain⟨v0,t,u,y,z,A,B,Y⟩:=AR (o.o _ l).1;obtain⟨r,F⟩:=Aa.c2 ((o.o _ l).2.1) 1 2;obtain⟨G,H⟩:=HC.o wc l;go_wp2;go_quiet (fail);have J:Below wc.heap.size wc (wc.drewN nq):=Cb (Below.refl _ _) _;generalize wc.drewN nq=K at *
      have P:Below (w.heap.size+3) W K:=l.trans (J.mono (Zm f l.size));have zS:=Ae zB J;have yK:w.heap.size+3<=K.heap.size:=Zm f P.size;have xH:O<K.heap.size:=Yw
      clear G H r F v0 t u y z A B;obtain⟨v0,t,u,y,z,A,B,Y⟩:=AR (o.o _ P).1;obtain⟨r,F⟩:=Aa.c2 ((o.o _ P).2.1) 1 2;obtain⟨G,H⟩:=HC.o K P;have M:=Yx (Zn zS P);clear zS P;go_wp2;exact⟨⟨k+1,g8,p,Yw,Yp,by rw[zI.o],by rw[HE.o];simp,⟨by rw[HE.o];simpa using M.o.1,M.o.2⟩⟩,by simp[intOf];omega⟩
     .have zJ:(x.name.toList==n.toList)=false:=Cd N;have hq:(x.name.toList !=n.toList)=true:=by simp[bne,zJ]
      have HE:Hid (BW (d.take (k+1)) n s=(gk++[⟨n,s⟩])++[x]):=by show _=_;rw[yA.o,if_neg N]
      clear I zN L N R yA;go_wp2;go_quiet (fail);have J:Below wr.heap.size wr (wr.drewN nq):=Cb (Below.refl _ _) _;generalize wr.drewN nq=wa at *
      have m:Below (w.heap.size+3) W wa:=zC.trans (J.mono (Zm f zC.size));have zA:=Ae yD J;have zG:w.heap.size+3<=wa.heap.size:=Zm f m.size;have yH:O<wa.heap.size:=Yw
      clear G H r F v0 t u y z A B;obtain⟨v0,t,u,y,z,A,B,Y⟩:=AR (o.o _ m).1;obtain⟨r,F⟩:=Aa.c2 ((o.o _ m).2.1) 1 2;obtain⟨G,H⟩:=HC.o wa m;obtain⟨g8,p,wc,E,D,C,_⟩:=IW wa (w.heap.size+3) _ gk zA ⟨n,s⟩ Yn zG 37;have l:Below (w.heap.size+3) W wc:=m.trans ((Below.refl _ _).grown C zG (fun q e=>(Ac zA e).1));have yJ:w.heap.size+3<=wc.heap.size:=Zm f l.size
      have yI:O<wc.heap.size:=Yw
      have zB:=D;clear D C;go_wp2_with (at_builtin;refine wpList_append_run rfl _ _ 37 37 rfl rfl rfl E ?_);clear E;clear G H r F v0 t u y z A B;obtain⟨v0,t,u,y,z,A,B,Y⟩:=AR (o.o _ l).1;obtain⟨r,F⟩:=Aa.c2 ((o.o _ l).2.1) 1 2;obtain⟨G,H⟩:=HC.o wc l;go_wp2;go_quiet (fail);have J:Below wc.heap.size wc (wc.drewN nq):=Cb (Below.refl _ _) _;generalize wc.drewN nq=K at *
      have P:Below (w.heap.size+3) W K:=l.trans (J.mono (Zm f l.size));have zS:=Ae zB J;have yK:w.heap.size+3<=K.heap.size:=Zm f P.size;have xH:O<K.heap.size:=Yw
      clear G H r F v0 t u y z A B;obtain⟨v0,t,u,y,z,A,B,Y⟩:=AR (o.o _ P).1;obtain⟨r,F⟩:=Aa.c2 ((o.o _ P).2.1) 1 2;obtain⟨G,H⟩:=HC.o K P;obtain⟨g9,yL,we,zZ,zX,zW,_⟩:=IW K (w.heap.size+3) _ (gk++[⟨n,s⟩]) zS x Yn yK 37;have zK:Below (w.heap.size+3) W we:=P.trans ((Below.refl _ _).grown zW yK (fun q e=>(Ac zS e).1));have xT:w.heap.size+3<=we.heap.size:=Zm f zK.size
      have xR:O<we.heap.size:=Yw
      have yX:=zX;clear zX zW;go_wp2_with (at_builtin;refine wpList_append_run rfl _ _ 37 37 rfl rfl rfl zZ ?_);clear zZ;clear G H r F v0 t u y z A B;obtain⟨v0,t,u,y,z,A,B,Y⟩:=AR (o.o _ zK).1;obtain⟨r,F⟩:=Aa.c2 ((o.o _ zK).2.1) 1 2;obtain⟨G,H⟩:=HC.o we zK;have M:=Yx (Zn yX zK);clear yX zK;go_wp2
      exact⟨⟨k+1,g9,yL,Yw,Yp,by rw[zI.o],by rw[HE.o];simp,⟨by rw[HE.o];simpa using M.o.1,M.o.2⟩⟩,by simp[intOf];omega⟩
  .obtain rfl:k=d.length:=Yw
   have hO:=R.o.1;rw[Zt (Zx)]at hO |-;have Z:Hid (Zz w wr):=zP;cases hDn:DT d n with
   |true=>
    have zF:=VJ n s hDn;rw[zF]at hO |-;have M:=Yx hO;have xC:=KS d n s;rw[zF]at xC;have f5:=((o.o _ R.o.2).1 5 _ rfl).2;obtain⟨⟨y0,q0⟩,⟨y1,q1⟩,⟨y2,q2⟩,⟨y3,q3⟩,⟨y4,q4⟩,⟨y5,q5⟩,⟨y6,q6⟩,⟨y7,q7⟩,⟨y8,q8⟩,⟨y9,q9⟩,⟨zT,xI⟩,zU,xJ⟩:=AY (o.o _ R.o.2).2.2;clear hDn zF zP R r F;by_cases hbig:100<(Bl d n s).length
    .have hq:(100:Int)<((Bl d n s).length:Int):=Yw
     have zE:Hid (100<(Bl d n s).length):=hbig;clear hbig hO;go_wp2;refine bodyPost_ret (v:=.agg (Yf 4)) (by simp[results,results138,go_sem,y0,y1,y2,y3,y4,y5,y6,y7,y8,y9,zT,zU]) rfl ?_;exact⟨Z.o.trans (Tn.below (Bd wr (w.heap.size+2) _ _ _ _ _ _ _ _ _ _ _ _) Z.o.size (by intro v hv;simp at hv;omega)),.inl ⟨zE.o,rfl⟩⟩
    .have hq:¬(100:Int)<((Bl d n s).length:Int):=Yw
     have zE:Hid ((Bl d n s).length<=100):=by show _<=_;omega
     clear hbig hO;go_wp2;refine bodyPost_ret (v:=.agg #[Zf,Zg K,Zg U,Zg j,Zg h,.slice ta Q.length tc,Za g (Bl d n s).length c,.slice la ln lc,Zd,Zf,Zd,Zd]) (by simp[results,results138,go_sem,y0,y1,y2,y3,y4,y5,y6,y7,y8,y9,zT,zU]) rfl ?_
     have T':=(Tn.set (V:=[w.heap.size,w.heap.size+2]) wr w.heap.size 5 (Za g (Bl d n s).length c) Yv).trans (Tn.mono (Bd (wr.setCell (Ze (w.heap.size) 5) (Za g (Bl d n s).length c)) (w.heap.size+2) Zf (Zg K) (Zg U) (Zg j) (Zg h) (.slice ta Q.length tc) (Za g (Bl d n s).length c) (.slice la ln lc) Zd Zf Zd Zd) Yv)
     exact⟨Z.o.trans (T'.below Z.o.size (by intro v hv;simp at hv;omega)),.inr ⟨zE.o,g,c,rfl,(Ak M.o (fun q hq=>T'.block q (Ac M.o hq).2 (by have:=(Ac M.o hq).1;simp;omega))).mono Yw⟩⟩
   |false=>
    have xM:=KS d n s;have zF:=YK n s hDn;obtain⟨g8,p,w8,yV,yF,yT,xE⟩:=IW wr (w.heap.size+3) _ (BW d n s) hO ⟨n,s⟩ Yw yG 37;have b8:Below (w.heap.size+3) wr w8:=(Below.refl _ _).grown yT yG (fun q e=>(Ac hO e).1);have yB:Below (w.heap.size+3) W w8:=R.o.2.trans b8;have Z:Hid (Zz w w8):=Z.o.trans (b8.mono Yw)
    have zO:Hid ((Bl d n s).length=(BW d n s).length+1):=by show _=_;rw[<-zF];simp
    rw[zF,zO.o]at yF;have M:=Yx yF;have f5:=((o.o _ yB).1 5 _ rfl).2;obtain⟨⟨y0,q0⟩,⟨y1,q1⟩,⟨y2,q2⟩,⟨y3,q3⟩,⟨y4,q4⟩,⟨y5,q5⟩,⟨y6,q6⟩,⟨y7,q7⟩,⟨y8,q8⟩,⟨y9,q9⟩,⟨zT,xI⟩,zU,xJ⟩:=AY (o.o _ yB).2.2;obtain⟨z0,z1,z2,z3,z4,z5,z6,z7⟩:=AR (o.o _ yB).1;clear hDn zF zP R b8 yT xE yF yB hO;by_cases hbig:100<((BW d n s).length+1)
    .have hq:(100:Int)<((BW d n s).length:Int)+1:=Yw
     have zE:Hid (100<(Bl d n s).length):=by show _<_;rw[zO.o];exact hbig
     clear hbig;go_wp2_with (at_builtin;refine wpList_append_run rfl _ _ 37 37 rfl rfl rfl yV ?_);refine bodyPost_ret (v:=.agg (Yf 4)) (by simp[results,results138,go_sem,y0,y1,y2,y3,y4,y5,y6,y7,y8,y9,zT,zU]) rfl ?_;exact⟨Z.o.trans (Tn.below (Bd w8 (w.heap.size+2) _ _ _ _ _ _ _ _ _ _ _ _) Z.o.size (by intro v hv;simp at hv;omega)),.inl ⟨zE.o,rfl⟩⟩
    .have hq:¬(100:Int)<((BW d n s).length:Int)+1:=Yw
     have xQ:¬(100:Int)<(((BW d n s).length+1:Nat):Int):=Yw
     have zE:Hid ((Bl d n s).length<=100):=by show _<=_;rw[zO.o];omega
     clear hbig;go_wp2_with (at_builtin;refine wpList_append_run rfl _ _ 37 37 rfl rfl rfl yV ?_);refine bodyPost_ret (v:=.agg #[Zf,Zg K,Zg U,Zg j,Zg h,.slice ta Q.length tc,Za g8 ((BW d n s).length+1) p,.slice la ln lc,Zd,Zf,Zd,Zd]) (by simp[results,results138,go_sem,y0,y1,y2,y3,y4,y5,y6,y7,y8,y9,zT,zU]) rfl ?_
     have T':=(Tn.set (V:=[w.heap.size,w.heap.size+2]) w8 w.heap.size 5 (Za g8 ((BW d n s).length+1) p) Yv).trans (Tn.mono (Bd (w8.setCell (Ze (w.heap.size) 5) (Za g8 ((BW d n s).length+1) p)) (w.heap.size+2) Zf (Zg K) (Zg U) (Zg j) (Zg h) (.slice ta Q.length tc) (Za g8 ((BW d n s).length+1) p) (.slice la ln lc) Zd Zf Zd Zd) Yv)
     have xB:=(Ak M.o (fun q hq=>T'.block q (Ac M.o hq).2 (by have:=(Ac M.o hq).1;simp;omega))).mono (show w.heap.size<=w.heap.size+3 by omega);refine⟨Z.o.trans (T'.below Z.o.size (by intro v hv;simp at hv;omega)),.inr ⟨zE.o,g8,p,by rw[zO.o],?_⟩⟩;rw[zO.o];exact xB
end Go.Proofs.YtcankpdbabaacaaGreatDoor
