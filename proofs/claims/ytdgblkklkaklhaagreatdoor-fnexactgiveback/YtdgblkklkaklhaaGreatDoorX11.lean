import Derived.Test.YtdgblkklkaklhaaGreatDoorX10
set_option maxRecDepth 100000
set_option maxHeartbeats 16000000
namespace Go.Proofs.YtdgblkklkaklhaaGreatDoor
open Go.ChangeShapes Go.WideShapes Go.ChangeAt Go.RowKit _root_.Go.Proofs.Tryz
theorem Iu(w:Zh)(base:Nat)(v:Value)(a:List Pd)(t:w.ownsRow base 137 2 v a.length (Ab pC a))(x:Pd)(s:a.length<=1000000)(i:base<=w.heap.size)(k:TypeId):
 ∃g b d,(Builtin.append_ #[37,37] k #[v,Za w.heap.size 1 1]).run prog (w.alloc (.cells #[.string x.name,.string x.sum] 137))=.ok (Za g (a.length+1) b) d/\d.ownsRow base 137 2 (Za g (a.length+1) b) (a++[x]).length (Ab pC (a++[x]))/\w.grownBy d v.ownBlock/\(v.ownBlock=some g∨g=w.heap.size+1):=by
 obtain⟨z,r,m,n,o⟩:=info_parts Gy;have l:=Ae t ((Below.refl _ _).alloc (Zx) (.cells #[.string x.name,.string x.sum] 137));have q:∀j u,(Ab pC [x])[j]?=some u->(w.alloc (.cells #[.string x.name,.string x.sum] 137)).cell? ((⟨w.heap.size,0,none⟩:Addr).add j)=some u:=by intro j u f;rw[Go.WideShapes.add_plain,Nat.zero_add];exact(Aa.new w [.string x.name,.string x.sum] 137 j u (by simpa [Ab,pC]using f)).1
 obtain⟨A,d,y,h,p,_,c⟩:=run_append_own_at (P:=prog) (w.alloc (.cells #[.string x.name,.string x.sum] 137)) base 37 k 137 z _ 2 32 underlying37 r m n o rfl (by decide) v a.length (Ab pC a) l ⟨w.heap.size,0,none⟩ 1 1 (Ab pC [x]) (by simp[Ab,pC]) q (by intro u f;simp[Ab,pC]at f;rcases f with rfl|rfl<;>rfl) (by unfold maxLen;omega) (by omega) (by simp;omega)
 obtain⟨g,b,rfl,_,_⟩:=Cf h (fun e=>by subst e;rcases h.2 with⟨_,s⟩|⟨_,_,_,e,_⟩<;>first|omega|cases e);refine⟨g,b,d,y,?_,(World.grownBy_alloc w _ _).trans p,?_⟩
 ·rw[Hz,List.length_append];exact h
 ·rcases c with c|c
  ·exact .inl c.symm
  ·right;simpa [Value.ownBlock]using c
theorem OZ{a:List Pd}{k:Nat}{x:Pd}(n:Zi)(c:a[k]?=some x):AY (a.take (k+1)) n=AY (a.take k) n++(if x.name=n then []else [x]):=by obtain⟨b,rfl⟩:=Zw c;unfold AY;rw[Zu b,List.filter_append];by_cases h:a[k].name=n<;>simp[h]
theorem KO(a:List Pd)(n:Zi):(AY a n).length=a.length↔¬∃x∈a,x.name=n:=by unfold AY;rw[List.length_filter_eq_length_iff];simp
def PW(w w':Zh)(e:Ending)(wd now given ae:Int)(T P:Value)(ls:List Pd)(n:Zi):Prop:=
 Below w.heap.size w w'/\(((¬∃x∈ls,x.name=n)/\e=.returned (.agg #[Zg 5,Zf,Zf,Zf,Zf,Zc,Zc,Zc,Zd,Zf,Zd,Zd]))∨
  ((∃x∈ls,x.name=n)/\∃g c,e=.returned (.agg #[Zf,Zg wd,Zg now,Zg given,Zg ae,T,.slice (some ⟨g,0,none⟩) (AY ls n).length c,P,Zd,Zf,Zd,Zd])/\w'.ownsRow w.heap.size 137 2 (.slice (some ⟨g,0,none⟩) (AY ls n).length c) (AY ls n).length (Ab pC (AY ls n))))
theorem Pa(p d given ae:Int)(m h A:Zk)(tn o l j E:Nat)(a:List Pd)(n:Zi)(w:Zh)(s:AS w w.heap.size A a)(hl:a.length<=1000):
 Calls prog 77 #[.agg (Ys p d given ae m tn o A a.length E h l j),.string n] w fun e w'=>PW w w' e p d given ae (.slice m tn o) (.slice h l j) a n:=by
 obtain⟨W,y⟩:∃W,W=(w.alloc (.cells (Ys p d given ae m tn o A a.length E h l j) 40)).alloc (.cells Yr 82):=⟨_,rfl⟩;have bW:=(AW y).1;have N:=(AW y).2.1;have x0:=(AW y).2.2.1;have x1:Aa W (w.heap.size+1) z12:=by have h1:=Aa.new (w.alloc (.cells (Ys p d given ae m tn o A a.length E h l j) 40)) z12 82;rw[World.size_alloc]at h1;rw[y];exact h1
 have S:Hid (∀X,Below (w.heap.size+2) W X->Aa X w.heap.size (Yt p d given ae m tn o A a.length E h l j)/\Aa X (w.heap.size+1) z12):=fun X hX=>⟨Aa.same x0 (hX.block _ (by omega)),Aa.same x1 (hX.block _ (by omega))⟩;have HW:=Yx y;have zH:Hid (W.heap.size=w.heap.size+2):=N;have t:w.heap.size+2<=W.heap.size:=by omega
 have HR:Hid (AS w w.heap.size A a):=s;have zA:Hid (Zz w W):=bW;have bA:Below W.heap.size W (W.alloc (.cells #[] 137)):=Zy;have G:Hid ((W.alloc (.cells #[] 137)).ownsRow (w.heap.size+2) 137 2 (Za W.heap.size 0 0) 0 []):=World.ownsRow_lit (base:=w.heap.size+2) (e:=137) (size:=2) W #[] 0 (by omega) (by unfold maxLen;omega) rfl
 have F:Hid (Below (w.heap.size+2) W (W.alloc (.cells #[] 137))):=bA.mono t;clear y N x0 x1 s bW bA;go_enter func77,ntmps77;go_upto_region 1 with fail;rw[←HW.o];clear HW;go_wp2
 go_loopw [5,6] (fun v i wr=>∃(k g c:Nat),k<=a.length/\i=Zg k/\v=Za g (AY (a.take k) n).length c/\Hid (wr.ownsRow (w.heap.size+2) 137 2 (Za g (AY (a.take k) n).length c) (AY (a.take k) n).length (Ab pC (AY (a.take k) n))/\Below (w.heap.size+2) W wr)) (fun _ i _=>a.length -(intOf i).toNat)
 case atStart=>exact⟨0,W.heap.size,0,Nat.zero_le _,rfl,by simp[AY],⟨by simpa [AY,Ab]using G.o,F.o⟩⟩
 case round=>
  clear G F;obtain⟨k,g,c,hk,rfl,rfl,b⟩:=hrel;have f:Below w.heap.size w wr:=zA.o.trans (b.o.2.mono (by omega));have O:w.heap.size+2<=wr.heap.size:=Zm t b.o.2.size;obtain⟨v0,v1,v2,v3,v4,v5,v6,v7⟩:=Bw (S.o _ b.o.2).1;by_cases hlt:k<a.length
  ·obtain⟨b',zJ,ha,hb,I⟩:=(AS.below HR.o f).at hlt;subst ha;have Z:Hid (a[k]?=some a[k]):=Zv hlt;obtain⟨c0,c1⟩:=I k _ Z.o;have H:=Yx (OZ n Z.o);have zI:(AY (a.take k) n).length<=1000:=by have:=List.length_filter_le (fun x:Pd=> !decide (x.name=n)) (a.take k);unfold AY;rw[List.length_take]at this;omega
   clear I;generalize a[k]=x at *
   generalize hGk:AY (a.take k) n=gk at *
   have zG:=Yx hGk;clear hGk;by_cases hxn:x.name=n
   ·have z:(x.name.toList !=n.toList)=false:=by rw[hxn];simp
    have L:(x.name.toList==n.toList)=true:=by rw[hxn];simp
    have B:Hid (AY (a.take (k+1)) n=gk):=by show _=_;rw[H.o,if_pos hxn,List.append_nil]
    clear hxn;go_wp2;exact⟨⟨k+1,g,c,by omega,by go_num,by rw[B.o],⟨by rw[B.o];exact b.o.1,b.o.2⟩⟩,by simp[intOf];omega⟩
   ·have L:(x.name.toList==n.toList)=false:=BP hxn;have z:(x.name.toList !=n.toList)=true:=by simp[bne,L]
    have B:Hid (AY (a.take (k+1)) n=gk++[x]):=by show _=_;rw[H.o,if_neg hxn]
    clear hxn;obtain⟨g8,r,U,M,K,J,zC⟩:=Iu wr (w.heap.size+2) _ gk b.o.1 x (by omega) O 37;have b8:Below (w.heap.size+2) wr U:=(Below.refl _ _).grown J O (fun q e=>(Ac b.o.1 e).1);have Y:Hid (U.ownsRow (w.heap.size+2) 137 2 (Za g8 (gk.length+1) r) (gk++[x]).length (Ab pC (gk++[x]))/\Below (w.heap.size+2) W U):=⟨K,b.o.2.trans b8⟩;have zF:b'<wr.heap.size:=by have:=f.size;omega
    clear K J zC b8;go_wp2_with (at_builtin;refine wpList_append_run rfl _ _ 37 37 rfl rfl rfl M ?_);clear M c0 c1 v0 v1 v2 v3 v4 v5 v6;go_wp2;exact⟨⟨k+1,g8,r,by omega,by go_num,by rw[B.o,List.length_append];rfl,⟨by rw[B.o,List.length_append];exact List.length_append▸Y.o.1,Y.o.2⟩⟩,by simp[intOf];omega⟩
  ·obtain rfl:k=a.length:=by omega
   have D:=b.o.1;rw[Zt (Zx)]at D ⊢;have R:=Yx D;have u:Hid (Zz w wr):=f;obtain⟨⟨y0,q0⟩,⟨y1,q1⟩,⟨y2,q2⟩,⟨y3,q3⟩,⟨y4,q4⟩,⟨y5,q5⟩,⟨y6,q6⟩,⟨y7,q7⟩,⟨y8,q8⟩,⟨y9,q9⟩,⟨P,zK⟩,Q,zM⟩:=AT (S.o _ b.o.2).2;have f6:=((S.o _ b.o.2).1 5 _ rfl).2;by_cases hex:∃x∈a,x.name=n
   ·have zE:¬(AY a n).length=a.length:=fun e=>(KO a n).1 e hex;have z:(((AY a n).length:Int)==(a.length:Int))=false:=by simp;omega
    have C:Hid (∃x∈a,x.name=n):=hex;clear zE hex D f b;go_wp2;refine bodyPost_ret (v:=.agg #[Zf,Zg p,Zg d,Zg given,Zg ae,.slice m tn o,Za g (AY a n).length c,.slice h l j,Zd,Zf,Zd,Zd]) (by simp[results,results77,go_sem,y0,y1,y2,y3,y4,y5,y6,y7,y8,y9,P,Q]) rfl ?_
    have T':=(Tn.set (V:=[w.heap.size,w.heap.size+1]) wr w.heap.size 5 (Za g (AY a n).length c) (by simp)).trans (Tn.mono (Bh (wr.setCell (Ze (w.heap.size) 5) (Za g (AY a n).length c)) (w.heap.size+1) Zf (Zg p) (Zg d) (Zg given) (Zg ae) (.slice m tn o) (Za g (AY a n).length c) (.slice h l j) Zd Zf Zd Zd) (by simp))
    exact⟨u.o.trans (T'.below u.o.size (by intro v T;simp at T;omega)),.inr ⟨C.o,g,c,rfl,(Ai R.o (fun q z=>T'.block q (Ac R.o z).2 (by have:=(Ac R.o z).1;simp;omega))).mono (by omega)⟩⟩
   ·have zB:(AY a n).length=a.length:=(KO a n).2 hex;have z:(((AY a n).length:Int)==(a.length:Int))=true:=by simp;omega
    have C:Hid (¬∃x∈a,x.name=n):=hex;clear zB hex D f b;go_wp2;refine bodyPost_ret (v:=.agg (Yq 5)) (by simp[results,results77,go_sem,y0,y1,y2,y3,y4,y5,y6,y7,y8,y9,P,Q]) rfl ?_;exact⟨u.o.trans (Tn.below (Bh wr (w.heap.size+1) _ _ _ _ _ _ _ _ _ _ _ _) u.o.size (by intro v T;simp at T;omega)),.inl ⟨C.o,rfl⟩⟩
theorem JC(base d m:Nat)(O P L:Value)(h q given ae:Int)(a:List Kd)(x:List Pd)(u:List Ld)(s:Zi)(w:Zh)(g:Dr w base d m O P L h q given ae a x u)(o:∀k∈a,(k.sum.size:Int)=h)(p:¬Ax a s):
 Calls prog 201 #[Yz d,.string s] w fun e y=>e=.panicked [{v:=ay 2 ⟨#[]⟩ ⟨#[]⟩,recovered:=false}]/\Zz w y:=by
 obtain⟨n,f,B,j,i⟩:=g.map;obtain⟨ok,c,b⟩:=IV h m n f a w w.heap.size s w j i.holds o;have t:ok=false:=by
  cases ok with
  |false=>rfl
  |true=>exact absurd (c.1 rfl) p
 subst t;obtain⟨z,A⟩:=Aa.c2 g.box 0 1;have r:=Yx (b w (Below.refl _ _));clear g j i c b;go_enter func201,ntmps201;go_wp2_with fail;refine Calls.mono r.o ?_;rintro e C ⟨rfl,l⟩;go_wp2;exact⟨rfl,rfl,l⟩
theorem NQ(base d m:Nat)(O P L:Value)(i g given ae:Int)(b:List Kd)(l:List Pd)(j:List Ld)(s:Zi)(a:Int)(w:Zh)(h:DU w base d m O P L i g given ae b l j)(c:∀k∈b,(k.sum.size:Int)=i)(f:¬Ax b s):
 Calls prog 174 #[Yz d,.string s,Zg a] w fun e o=>e=.panicked [{v:=ay 2 ⟨#[]⟩ ⟨#[]⟩,recovered:=false}]/\Zz w o:=by
 have HN:=Yx (JC base d m O P L i g given ae b l j s w h.dr c f);clear h c f;go_enter func174,ntmps174;go_wp2_with fail;refine Calls.mono HN.o ?_;rintro e p ⟨rfl,n⟩;go_wp2;exact⟨rfl,rfl,n⟩
theorem Ml(base d m:Nat)(O P L:Value)(p o given ae:Int)(j:List Kd)(q:List Pd)(f:List Ld)(s:Zi)(g:Int)(w:Zh)(h:DU w base d m O P L p o given ae j q f)(l:∀k∈j,(k.sum.size:Int)=p)(n:Ax j s)(a:f.length=200∨given=1000000000):
 Calls prog 174 #[Yz d,.string s,Zg g] w fun e u=>e=.panicked [{v:=ay 4 ⟨#[]⟩ ⟨#[]⟩,recovered:=false}]/\Zz w u:=by
 have HN:=Yx (Em base d m O P L p o given ae j q f s w h.dr l n);obtain⟨A,z,r⟩:=As h.dr.ck;subst r;have i:=Yx h;clear h l n;by_cases h1:f.length=200
 ·have t:((f.length:Int)==200)=true:=by simp;omega
  clear a h1;go_enter func174,ntmps174;go_wp2_with fail;refine Calls.mono HN.o ?_;rintro e x ⟨rfl,c⟩;have b:=i.o.below c;obtain⟨c3,c7⟩:=Aa.c2 b.dr.box 3 7;clear b i HN;go_wp2;exact⟨rfl,rfl,c⟩
 ·have t:((f.length:Int)==200)=false:=by simp;omega
  have y:(given==1000000000)=true:=by
   rcases a with h|h
   ·exact absurd h h1
   ·rw[h];rfl
  clear a h1;go_enter func174,ntmps174;go_wp2_with fail;refine Calls.mono HN.o ?_;rintro e x ⟨rfl,c⟩;have b:=i.o.below c;obtain⟨c3,c7⟩:=Aa.c2 b.dr.box 3 7;clear b i HN;go_wp2;exact⟨rfl,rfl,c⟩
theorem SD(base d m:Nat)(O P L:Value)(t b given ae:Int)(p:List Kd)(r:List Pd)(q:List Ld)(a:Int)(w:Zh)(h:DU w base d m O P L t b given ae p r q)(k:0<=b)(l:b<=1000000000)(n:0<=a)(o:a<=1000000000)(x:1000000000<b+a):
 Calls prog 178 #[Yz d,Zg a] w fun e s=>e=.panicked [{v:=ay 4 ⟨#[]⟩ ⟨#[]⟩,recovered:=false}]/\Zz w s:=by
 obtain⟨W,c⟩:∃W,W=w.alloc (.cells #[Yz d] 141):=⟨_,rfl⟩;have g:=(AG c).1;have j:=(AG c).2.2;have i:=h.below g;have f:=Yx c;have u:=GO k l n o;obtain⟨y,_⟩:=j 0 _ rfl;obtain⟨c2,_⟩:=i.dr.box 2 _ rfl;clear h i c j;go_enter func178,ntmps178;go_upto_region 1 with fail;rw[←f.o];clear f;go_wp2;exact⟨rfl,rfl,g⟩
theorem KP(a:Zk)(b:Nat)(n:Int)(w:Zh):
 Calls prog 207 #[.slice a 0 b,Zg n,.func (.func 208) #[] #[]] w fun e c=>e=.returned (.tuple #[Zf,.bool false])/\Zz w c:=by
 go_enter func207,ntmps207;go_wp2
 go_loopw [9,10] (fun i j wr=>i=Zg 0/\j=Zg 0/\wr=w) (fun _ _ _=>0)
 case atStart=>exact⟨rfl,rfl,rfl⟩
 case round=>
  obtain⟨rfl,rfl,rfl⟩:=hrel;go_wp2
  go_ret2
  exact⟨by first|rfl|simp[Act.put],Below.refl _ _⟩
theorem MI(a:Zk)(b:Nat)(n:Zi)(w:Zh):
 Calls prog 224 #[.slice a 0 b,.string n,.func (.func 225) #[] #[]] w fun e c=>e=.returned (.tuple #[Zf,.bool false])/\Zz w c:=by
 go_enter func224,ntmps224;go_wp2
 go_loopw [9,10] (fun i j wr=>i=Zg 0/\j=Zg 0/\wr=w) (fun _ _ _=>0)
 case atStart=>exact⟨rfl,rfl,rfl⟩
 case round=>
  obtain⟨rfl,rfl,rfl⟩:=hrel;go_wp2
  go_ret2
  exact⟨by first|rfl|simp[Act.put],Below.refl _ _⟩
theorem Wj(base:Nat)(L:Value)(c:List Ld)(n:Int)(w:Zh)(f:w.ownsRow base 139 3 L c.length (Ab lC c))(o:c.length<=600)(d:c.Pairwise (fun a b=>a.num<b.num)):
 Calls prog 207 #[L,Zg n,.func (.func 208) #[] #[]] w fun e k=>∃i:Nat,e=.returned (.tuple #[Zg i,.bool (decide (∃x,c[i]?=some x/\x.num=n))])/\Jb c n i/\Zz w k:=by
 rcases f.2 with⟨rfl,q⟩|⟨g,l,r,rfl,_⟩
 ·have:c=[]:=List.eq_nil_of_length_eq_zero q;subst this;refine(KP none 0 n w).mono ?_;rintro e k ⟨rfl,m⟩;exact⟨0,by simp,⟨Zx,fun j x h=>by omega,fun j x _ p=>by simp at p⟩,m⟩
 ·exact Hg g l c n w base f o d
theorem Wk(base:Nat)(P:Value)(c:List Pd)(n:Zi)(w:Zh)(f:w.ownsRow base 137 2 P c.length (Ab pC c))(o:c.length<=600)(d:c.Pairwise (fun a b=>less a.name b.name=true)):
 Calls prog 224 #[P,.string n,.func (.func 225) #[] #[]] w fun e k=>∃i:Nat,e=.returned (.tuple #[Zg i,.bool (decide (∃x,c[i]?=some x/\x.name=n))])/\Dx c n i/\Zz w k:=by
 rcases f.2 with⟨rfl,q⟩|⟨g,l,r,rfl,_⟩
 ·have:c=[]:=List.eq_nil_of_length_eq_zero q;subst this;refine(MI none 0 n w).mono ?_;rintro e k ⟨rfl,m⟩;exact⟨0,by simp,⟨Zx,fun j x h=>by omega,fun j x _ p=>by simp at p⟩,m⟩
 ·exact IL g l c n w base f o d
theorem Wl(base d m:Nat)(O P L:Value)(z q given ae:Int)(t:List Kd)(u:List Pd)(g:List Ld)(n:Int)(w:Zh)(h:DU w base d m O P L z q given ae t u g)(B:g.length<=200)(c:g.Pairwise (fun a b=>a.num<b.num))(k:¬∃x∈g,x.num=n):
 Calls prog 177 #[Yz d,Zg n] w fun e y=>e=.panicked [{v:=ay 5 ⟨#[]⟩ ⟨#[]⟩,recovered:=false}]/\Zz w y:=by
 have l:=Yx (Wj base L g n w h.dr.ck (by omega) c);obtain⟨C,A,o⟩:=As h.dr.ck;subst o;have j:=Yx k;obtain⟨c7,_⟩:=h.dr.box 7 _ rfl;clear h c k;go_enter func177,ntmps177;go_wp2_with fail;refine Calls.mono l.o ?_;rintro e D ⟨i,rfl,_,p⟩;have f:decide (∃x,g[i]?=some x/\x.num=n)=false:=by rw[decide_eq_false_iff_not];rintro⟨x,s,r⟩;exact j.o ⟨x,Zs s,r⟩
 rw[f];clear f l j c7;go_wp2;exact⟨rfl,rfl,p⟩
theorem Jg(base d m:Nat)(O P L:Value)(v q given ae:Int)(s:List Kd)(f:List Pd)(t:List Ld)(n:Zi)(w:Zh)(h:DU w base d m O P L v q given ae s f t)(z:f.length<=200)(c:f.Pairwise (fun a b=>less a.name b.name=true)):
 Calls prog 204 #[Yz d,.string n] w fun e u=>∃i:Nat,e=.returned (.tuple #[Zg i,.bool (decide (∃x,f[i]?=some x/\x.name=n))])/\Dx f n i/\Zz w u:=by
 have r:=Yx (Wk base P f n w h.dr.ci (by omega) c);obtain⟨A,y,l⟩:=As h.dr.ci;subst l;obtain⟨c6,_⟩:=h.dr.box 6 _ rfl;clear h c;go_enter func204,ntmps204;go_wp2_with fail;refine Calls.mono r.o ?_;rintro e B ⟨i,rfl,p,o⟩;obtain⟨j,g⟩:∃j,decide (∃x,f[i]?=some x/\x.name=n)=j:=⟨_,rfl⟩;have k:=Yx g;rw[g];clear g;go_wp2
 go_ret2
 exact⟨i,by rw[k.o];rfl,p,o⟩
theorem Uy(base d m:Nat)(O P L:Value)(r l given ae:Int)(p:List Kd)(g:List Pd)(q:List Ld)(n:Zi)(w:Zh)(h:DU w base d m O P L r l given ae p g q)(t:g.length<=200)(c:g.Pairwise (fun a b=>less a.name b.name=true))(k:¬∃x∈g,x.name=n):
 Calls prog 176 #[Yz d,.string n] w fun e z=>e=.panicked [{v:=ay 5 ⟨#[]⟩ ⟨#[]⟩,recovered:=false}]/\Zz w z:=by
 have o:=Yx (Jg base d m O P L r l given ae p g q n w h t c);have j:=Yx k;clear h c k;go_enter func176,ntmps176;go_wp2_with fail;refine Calls.mono o.o ?_;rintro e A ⟨i,rfl,_,s⟩;have f:decide (∃x,g[i]?=some x/\x.name=n)=false:=by rw[decide_eq_false_iff_not];rintro⟨x,y,u⟩;exact j.o ⟨x,Zs y,u⟩
 rw[f];clear f o j;go_wp2;exact⟨rfl,rfl,s⟩
theorem BX{w:Zh}{base:Nat}{e:TypeId}{size:Nat}{v:Value}{n:Nat}{d:Zj}(h:w.ownsRow base e size v n d){g:Nat}(b:v.ownBlock=some g):∃a,w.heap[g]?=some (.cells a e):=by
 rcases h.2 with⟨rfl,_⟩|⟨i,f,a,rfl,_,c,_⟩
 ·cases b
 ·cases b;exact⟨a,c⟩
theorem DU.cm{w:Zh}{base d m:Nat}{O P L:Value}{s k given ae:Int}{p:List Kd}{r:List Pd}{q:List Ld}(h:DU w base d m O P L s k given ae p r q){R:Nat}{i:Array Value}(g:w.heap[R]?=some (.cells i 82))(o:R≠d):R∉vB d m O P L/\NS w R:=by
 refine⟨fun a=> ?_,fun i u e=>by rw[g]at e;cases e⟩;unfold vB at a;simp only[List.mem_cons,List.mem_append,Option.mem_toList]at a;rcases a with a|a|a|a|a
 ·exact o a
 ·obtain⟨n,f,_,l,_⟩:=h.dr.map;obtain⟨D,⟨t,clock,j,_⟩,_⟩:=l;rw[←a,g]at j;cases j
 ·obtain⟨c,b⟩:=BX h.dr.ord a;rw[g]at b;cases b
 ·obtain⟨c,b⟩:=BX h.dr.ci a;rw[g]at b;cases b
 ·obtain⟨c,b⟩:=BX h.dr.ck a;rw[g]at b;cases b
theorem LA(base d m:Nat)(O P L:Value)(K A given ae:Int)(I:List Kd)(J:List Pd)(k:List Ld)(s o t:Zi)(c:Int)(p:Zk)(r q:Nat)(w:Zh)(h:DU w base d m O P L K A given ae I J k)(hl:k.length<=200)(l:k.Pairwise (fun a b=>a.num<b.num))(Y:∃x∈k,x.num=c):
 Calls prog 145 #[Yz d,.agg (Yp 5 s o c t p r q)] w fun e R=>e=.returned (.agg z12.toArray)/\∃L',DU R base d m O P L' K A given ae I J (Bo k c)/\Tn (d::L.ownBlock.toList) w R:=by
 obtain⟨W,f⟩:∃W,W=((w.alloc (.cells (Yp 5 s o c t p r q) 60)).alloc (.cells Yr 82)).alloc (.cells Yr 82):=⟨_,rfl⟩;have H:=(Bm f).1;have E:=(Bm f).2.1;have T:=(Bm f).2.2.1;have X:Aa W (w.heap.size+1) z12:=by have n:=Aa.new (w.alloc (.cells (Yp 5 s o c t p r q) 60)) z12 82;rw[World.size_alloc]at n;rw[f];exact Aa.below (v:=Zf) n (Zy)
 have U:Aa W (w.heap.size+2) z12:=by have n:=Aa.new ((w.alloc (.cells (Yp 5 s o c t p r q) 60)).alloc (.cells Yr 82)) z12 82;rw[World.size_alloc,World.size_alloc]at n;rw[f];exact n
 have C:W.heap[w.heap.size+1]?=some (.cells Yr 82):=by rw[f,Below.heap_alloc _ _ _ (by simp)];have:=heap_alloc_new (w.alloc (.cells (Yp 5 s o c t p r q) 60)) (.cells Yr 82);rw[World.size_alloc]at this;exact this
 have Q:=h.below H;have zB:=h.dr.box.lt;have D:∀b∈d::L.ownBlock.toList,b<w.heap.size:=fun b j=>h.dr.cg b (by unfold vB;simp at j ⊢;rcases j with rfl|j<;>simp[*]);have M:=Yx (Us base d m O P L K A given ae I J k c W Q hl l Y);have N:=Yx f
 have i:Hid (Aa W (w.heap.size+1) z12/\Aa W (w.heap.size+2) z12/\W.heap[w.heap.size+1]?=some (.cells Yr 82)/\Zz w W/\W.heap.size=w.heap.size+3/\base<=w.heap.size):=⟨X,U,C,H,E,h.lo⟩;have y:=Yx D;obtain⟨e0,e1,e2,e3⟩:=Aa.c4 T 0 1 2 3;clear f h Q X U C H E T D;go_enter func145,ntmps145;go_upto_region 2 with fail;rw[←N.o];clear N;go_wp2_with fail;refine Calls.mono M.o ?_;rintro e S ⟨rfl,V,z,g⟩
 have zz:=i.o.2.2.2.2.1;have G:=Aa.same i.o.1 (g.block _ (by omega) (fun h=>by have:=y.o _ h;omega));have F:=Aa.same i.o.2.1 (g.block _ (by omega) (fun h=>by have:=y.o _ h;omega));have B:=(g.block _ (by omega) (fun h=>by have:=y.o _ h;omega)).trans i.o.2.2.1;have u:=Yx (Zn z (Zn g (z.cm B (by omega))))
 obtain⟨⟨y0,q0⟩,⟨y1,q1⟩,⟨y2,q2⟩,⟨y3,q3⟩,⟨y4,q4⟩,⟨y5,q5⟩,⟨y6,q6⟩,⟨y7,q7⟩,⟨y8,q8⟩,⟨y9,q9⟩,⟨Z,zC⟩,zA,zE⟩:=AT G;obtain⟨⟨v0,_⟩,⟨v1,_⟩,⟨v2,_⟩,⟨v3,_⟩,⟨v4,_⟩,⟨v5,_⟩,⟨v6,_⟩,⟨v7,_⟩,⟨v8,_⟩,⟨v9,_⟩,⟨zF,_⟩,zG,_⟩:=AT F;clear z g G F B e0 e1 e2 e3 M zz;go_wp2
 refine bodyPost_ret (v:=.agg z12.toArray) (by simp[results,results145,go_sem,y0,y1,y2,y3,y4,y5,y6,y7,y8,y9,Z,zA,z12]) rfl ⟨rfl,V,u.o.1.an (Bh S (w.heap.size+1) _ _ _ _ _ _ _ _ _ _ _ _) (by intro b j;simp at j;subst j;exact⟨by have:=i.o.2.2.2.2.2;omega,u.o.2.2⟩),Tn.fresh ((Tn.of i.o.2.2.2.1).trans u.o.2.1) (Bh S (w.heap.size+1) _ _ _ _ _ _ _ _ _ _ _ _) (by omega)⟩
theorem LB(base d m:Nat)(O P L:Value)(H c given ae:Int)(F:List Kd)(G:List Pd)(x:List Ld)(s l q:Zi)(a:Int)(n:Zk)(p o:Nat)(w:Zh)(h:DU w base d m O P L H c given ae F G x)(hl:x.length<=200)(T:0<=c)(U:0<=a)(hs:c+a<=1000000000):
 Calls prog 145 #[Yz d,.agg (Yp 6 s l a q n p o)] w fun e M=>e=.returned (.agg z12.toArray)/\∃Z,DU M base d m O P Z H (c+a) given ae F G (AK x (c+a))/\Tn (d::L.ownBlock.toList) w M:=by
 obtain⟨W,f⟩:∃W,W=((w.alloc (.cells (Yp 6 s l a q n p o) 60)).alloc (.cells Yr 82)).alloc (.cells Yr 82):=⟨_,rfl⟩;have E:=(Bm f).1;have B:=(Bm f).2.1;have Q:=(Bm f).2.2.1;have S:Aa W (w.heap.size+1) z12:=by have k:=Aa.new (w.alloc (.cells (Yp 6 s l a q n p o) 60)) z12 82;rw[World.size_alloc]at k;rw[f];exact Aa.below (v:=Zf) k (Zy)
 have R:Aa W (w.heap.size+2) z12:=by have k:=Aa.new ((w.alloc (.cells (Yp 6 s l a q n p o) 60)).alloc (.cells Yr 82)) z12 82;rw[World.size_alloc,World.size_alloc]at k;rw[f];exact k
 have z:W.heap[w.heap.size+1]?=some (.cells Yr 82):=by rw[f,Below.heap_alloc _ _ _ (by simp)];have:=heap_alloc_new (w.alloc (.cells (Yp 6 s l a q n p o) 60)) (.cells Yr 82);rw[World.size_alloc]at this;exact this
 have K:=h.below E;have zA:=h.dr.box.lt;have A:∀b∈d::L.ownBlock.toList,b<w.heap.size:=fun b j=>h.dr.cg b (by unfold vB;simp at j ⊢;rcases j with rfl|j<;>simp[*]);have I:=Yx (Ux base d m O P L H c given ae F G x a W K hl T U hs);have J:=Yx f
 have i:Hid (Aa W (w.heap.size+1) z12/\Aa W (w.heap.size+2) z12/\W.heap[w.heap.size+1]?=some (.cells Yr 82)/\Zz w W/\W.heap.size=w.heap.size+3/\base<=w.heap.size):=⟨S,R,z,E,B,h.lo⟩;have t:=Yx A;obtain⟨e0,e1,e2,e3⟩:=Aa.c4 Q 0 1 2 3;clear f h K S R z E B Q A;go_enter func145,ntmps145;go_upto_region 2 with fail;rw[←J.o];clear J;go_wp2_with fail;refine Calls.mono I.o ?_;rintro e N ⟨rfl,V,u,g⟩
 have zz:=i.o.2.2.2.2.1;have D:=Aa.same i.o.1 (g.block _ (by omega) (fun h=>by have:=t.o _ h;omega));have C:=Aa.same i.o.2.1 (g.block _ (by omega) (fun h=>by have:=t.o _ h;omega));have y:=(g.block _ (by omega) (fun h=>by have:=t.o _ h;omega)).trans i.o.2.2.1;have r:=Yx (Zn u (Zn g (u.cm y (by omega))))
 obtain⟨⟨y0,q0⟩,⟨y1,q1⟩,⟨y2,q2⟩,⟨y3,q3⟩,⟨y4,q4⟩,⟨y5,q5⟩,⟨y6,q6⟩,⟨y7,q7⟩,⟨y8,q8⟩,⟨y9,q9⟩,⟨X,zB⟩,Y,zC⟩:=AT D;obtain⟨⟨v0,_⟩,⟨v1,_⟩,⟨v2,_⟩,⟨v3,_⟩,⟨v4,_⟩,⟨v5,_⟩,⟨v6,_⟩,⟨v7,_⟩,⟨v8,_⟩,⟨v9,_⟩,⟨zE,_⟩,zF,_⟩:=AT C;clear u g D C y e0 e1 e2 e3 I zz;go_wp2
 refine bodyPost_ret (v:=.agg z12.toArray) (by simp[results,results145,go_sem,y0,y1,y2,y3,y4,y5,y6,y7,y8,y9,X,Y,z12]) rfl ⟨rfl,V,r.o.1.an (Bh N (w.heap.size+1) _ _ _ _ _ _ _ _ _ _ _ _) (by intro b j;simp at j;subst j;exact⟨by have:=i.o.2.2.2.2.2;omega,r.o.2.2⟩),Tn.fresh ((Tn.of i.o.2.2.2.1).trans r.o.2.1) (Bh N (w.heap.size+1) _ _ _ _ _ _ _ _ _ _ _ _) (by omega)⟩
theorem KQ(base d m:Nat)(O P L:Value)(K A given ae:Int)(I:List Kd)(l:List Pd)(J:List Ld)(s f t:Zi)(i:Int)(p:Zk)(r q:Nat)(w:Zh)(h:DU w base d m O P L K A given ae I l J)(hl:l.length<=200)(n:l.Pairwise (fun a b=>less a.name b.name=true))(Y:∃x∈l,x.name=f):
 Calls prog 145 #[Yz d,.agg (Yp 3 s f i t p r q)] w fun e R=>e=.returned (.agg z12.toArray)/\∃P',DU R base d m O P' L K A given ae I (AY l f) J/\Tn (d::P.ownBlock.toList) w R:=by
 obtain⟨W,c⟩:∃W,W=((w.alloc (.cells (Yp 3 s f i t p r q) 60)).alloc (.cells Yr 82)).alloc (.cells Yr 82):=⟨_,rfl⟩;have H:=(Bm c).1;have E:=(Bm c).2.1;have T:=(Bm c).2.2.1;have X:Aa W (w.heap.size+1) z12:=by have o:=Aa.new (w.alloc (.cells (Yp 3 s f i t p r q) 60)) z12 82;rw[World.size_alloc]at o;rw[c];exact Aa.below (v:=Zf) o (Zy)
 have U:Aa W (w.heap.size+2) z12:=by have o:=Aa.new ((w.alloc (.cells (Yp 3 s f i t p r q) 60)).alloc (.cells Yr 82)) z12 82;rw[World.size_alloc,World.size_alloc]at o;rw[c];exact o
 have C:W.heap[w.heap.size+1]?=some (.cells Yr 82):=by rw[c,Below.heap_alloc _ _ _ (by simp)];have:=heap_alloc_new (w.alloc (.cells (Yp 3 s f i t p r q) 60)) (.cells Yr 82);rw[World.size_alloc]at this;exact this
 have Q:=h.below H;have zB:=h.dr.box.lt;have D:∀b∈d::P.ownBlock.toList,b<w.heap.size:=fun b k=>h.dr.cg b (by unfold vB;simp at k ⊢;rcases k with rfl|k<;>simp[*]);have M:=Yx (St base d m O P L K A given ae I l J f W Q hl n Y);have N:=Yx c
 have j:Hid (Aa W (w.heap.size+1) z12/\Aa W (w.heap.size+2) z12/\W.heap[w.heap.size+1]?=some (.cells Yr 82)/\Zz w W/\W.heap.size=w.heap.size+3/\base<=w.heap.size):=⟨X,U,C,H,E,h.lo⟩;have y:=Yx D;obtain⟨e0,e1,e2,e3⟩:=Aa.c4 T 0 1 2 3;clear c h Q X U C H E T D;go_enter func145,ntmps145;go_upto_region 2 with fail;rw[←N.o];clear N;go_wp2_with fail;refine Calls.mono M.o ?_;rintro e S ⟨rfl,V,z,g⟩
 have zz:=j.o.2.2.2.2.1;have G:=Aa.same j.o.1 (g.block _ (by omega) (fun h=>by have:=y.o _ h;omega));have F:=Aa.same j.o.2.1 (g.block _ (by omega) (fun h=>by have:=y.o _ h;omega));have B:=(g.block _ (by omega) (fun h=>by have:=y.o _ h;omega)).trans j.o.2.2.1;have u:=Yx (Zn z (Zn g (z.cm B (by omega))))
 obtain⟨⟨y0,q0⟩,⟨y1,q1⟩,⟨y2,q2⟩,⟨y3,q3⟩,⟨y4,q4⟩,⟨y5,q5⟩,⟨y6,q6⟩,⟨y7,q7⟩,⟨y8,q8⟩,⟨y9,q9⟩,⟨Z,zC⟩,zA,zE⟩:=AT G;obtain⟨⟨v0,_⟩,⟨v1,_⟩,⟨v2,_⟩,⟨v3,_⟩,⟨v4,_⟩,⟨v5,_⟩,⟨v6,_⟩,⟨v7,_⟩,⟨v8,_⟩,⟨v9,_⟩,⟨zF,_⟩,zG,_⟩:=AT F;clear z g G F B e0 e1 e2 e3 M zz;go_wp2
 refine bodyPost_ret (v:=.agg z12.toArray) (by simp[results,results145,go_sem,y0,y1,y2,y3,y4,y5,y6,y7,y8,y9,Z,zA,z12]) rfl ⟨rfl,V,u.o.1.an (Bh S (w.heap.size+1) _ _ _ _ _ _ _ _ _ _ _ _) (by intro b k;simp at k;subst k;exact⟨by have:=j.o.2.2.2.2.2;omega,u.o.2.2⟩),Tn.fresh ((Tn.of j.o.2.2.2.1).trans u.o.2.1) (Bh S (w.heap.size+1) _ _ _ _ _ _ _ _ _ _ _ _) (by omega)⟩
theorem LC(d:Nat)(s j p:Zi)(g:Int)(m:Zk)(o n:Nat)(c:Int)(a b:Zi)(w:Zh)(h:∀X,Zz w X->Calls prog 176 #[Yz d,.string j] X fun e k=>e=.panicked [{v:=ay c a b,recovered:=false}]/\Zz X k):
 Calls prog 145 #[Yz d,.agg (Yp 3 s j g p m o n)] w fun e k=>e=.panicked [{v:=ay c a b,recovered:=false}]/\Zz w k:=by
 obtain⟨W,f⟩:∃W,W=((w.alloc (.cells (Yp 3 s j g p m o n) 60)).alloc (.cells Yr 82)).alloc (.cells Yr 82):=⟨_,rfl⟩;have i:=(Bm f).1;have q:=(Bm f).2.2.1;have t:=Yx (h W i);have l:=Yx f;obtain⟨u,x,y,z⟩:=Aa.c4 q 0 1 2 3;clear f q h;go_enter func145,ntmps145;go_upto_region 2 with fail;rw[←l.o];clear l;go_wp2_with fail;refine Calls.mono t.o ?_;rintro e A ⟨rfl,r⟩;exact⟨rfl,rfl,i.trans (r.mono i.size)⟩
theorem Im(d:Nat)(s l p:Zi)(f:Int)(m:Zk)(o n:Nat)(c:Int)(a b:Zi)(w:Zh)(h:∀X,Zz w X->Calls prog 174 #[Yz d,.string s,Zg f] X fun e j=>e=.panicked [{v:=ay c a b,recovered:=false}]/\Zz X j):
 Calls prog 145 #[Yz d,.agg (Yp 4 s l f p m o n)] w fun e j=>e=.panicked [{v:=ay c a b,recovered:=false}]/\Zz w j:=by
 obtain⟨W,g⟩:∃W,W=((w.alloc (.cells (Yp 4 s l f p m o n) 60)).alloc (.cells Yr 82)).alloc (.cells Yr 82):=⟨_,rfl⟩;have i:=(Bm g).1;have q:=(Bm g).2.2.1;have t:=Yx (h W i);have k:=Yx g;obtain⟨u,x,y,z⟩:=Aa.c4 q 0 1 2 3;clear g q h;go_enter func145,ntmps145;go_upto_region 2 with fail;rw[←k.o];clear k;go_wp2_with fail;refine Calls.mono t.o ?_;rintro e A ⟨rfl,r⟩;exact⟨rfl,rfl,i.trans (r.mono i.size)⟩
theorem MJ(d:Nat)(s l p:Zi)(f:Int)(m:Zk)(o n:Nat)(c:Int)(a b:Zi)(w:Zh)(h:∀X,Zz w X->Calls prog 177 #[Yz d,Zg f] X fun e j=>e=.panicked [{v:=ay c a b,recovered:=false}]/\Zz X j):
 Calls prog 145 #[Yz d,.agg (Yp 5 s l f p m o n)] w fun e j=>e=.panicked [{v:=ay c a b,recovered:=false}]/\Zz w j:=by
 obtain⟨W,g⟩:∃W,W=((w.alloc (.cells (Yp 5 s l f p m o n) 60)).alloc (.cells Yr 82)).alloc (.cells Yr 82):=⟨_,rfl⟩;have i:=(Bm g).1;have q:=(Bm g).2.2.1;have t:=Yx (h W i);have k:=Yx g;obtain⟨u,x,y,z⟩:=Aa.c4 q 0 1 2 3;clear g q h;go_enter func145,ntmps145;go_upto_region 2 with fail;rw[←k.o];clear k;go_wp2_with fail;refine Calls.mono t.o ?_;rintro e A ⟨rfl,r⟩;exact⟨rfl,rfl,i.trans (r.mono i.size)⟩
theorem ML(d:Nat)(s l p:Zi)(f:Int)(m:Zk)(o n:Nat)(c:Int)(a b:Zi)(w:Zh)(h:∀X,Zz w X->Calls prog 178 #[Yz d,Zg f] X fun e j=>e=.panicked [{v:=ay c a b,recovered:=false}]/\Zz X j):
 Calls prog 145 #[Yz d,.agg (Yp 6 s l f p m o n)] w fun e j=>e=.panicked [{v:=ay c a b,recovered:=false}]/\Zz w j:=by
 obtain⟨W,g⟩:∃W,W=((w.alloc (.cells (Yp 6 s l f p m o n) 60)).alloc (.cells Yr 82)).alloc (.cells Yr 82):=⟨_,rfl⟩;have i:=(Bm g).1;have q:=(Bm g).2.2.1;have t:=Yx (h W i);have k:=Yx g;obtain⟨u,x,y,z⟩:=Aa.c4 q 0 1 2 3;clear g q h;go_enter func145,ntmps145;go_upto_region 2 with fail;rw[←k.o];clear k;go_wp2_with fail;refine Calls.mono t.o ?_;rintro e A ⟨rfl,r⟩;exact⟨rfl,rfl,i.trans (r.mono i.size)⟩
theorem Jh(d:Nat)(s j p:Zi)(g:Int)(m:Zk)(o n:Nat)(c:Int)(a b:Zi)(w:Zh)(h:∀X,Zz w X->Calls prog 175 #[Yz d,.string j,.string s] X fun e k=>e=.panicked [{v:=ay c a b,recovered:=false}]/\Zz X k):
 Calls prog 145 #[Yz d,.agg (Yp 2 s j g p m o n)] w fun e k=>e=.panicked [{v:=ay c a b,recovered:=false}]/\Zz w k:=by
 obtain⟨W,f⟩:∃W,W=((w.alloc (.cells (Yp 2 s j g p m o n) 60)).alloc (.cells Yr 82)).alloc (.cells Yr 82):=⟨_,rfl⟩;have i:=(Bm f).1;have q:=(Bm f).2.2.1;have t:=Yx (h W i);have l:=Yx f;obtain⟨u,x,y,z⟩:=Aa.c4 q 0 1 2 3;clear f q h;go_enter func145,ntmps145;go_upto_region 2 with fail;rw[←l.o];clear l;go_wp2_with fail;refine Calls.mono t.o ?_;rintro e A ⟨rfl,r⟩;exact⟨rfl,rfl,i.trans (r.mono i.size)⟩
theorem KR(base d m:Nat)(O P L:Value)(C i given ae:Int)(A:List Kd)(N:List Pd)(B:List Ld)(s q y:Zi)(a:Int)(r:Zk)(u t:Nat)(w:Zh)(h:DU w base d m O P L C i given ae A N B)(zF:∀k∈A,(k.sum.size:Int)=C)(zH:Ax A s)(hl:B.length<200)(zA:0<=given)(zB:given<1000000000)(zC:0<=i)(zE:i<=1000000000)(zG:0<=a)(c:a<=1000000000):
 Calls prog 145 #[Yz d,.agg (Yp 4 s q a y r u t)] w fun e T=>e=.returned (.agg #[Zf,Zf,Zf,Zf,Zf,Zc,Zc,Zc,Zd,Zg (given+1),Zd,Zd])/\∃L',DU T base d m O P L' C i (given+1) ae A N (B++[⟨given+1,s,i+a⟩])/\Tn (d::L.ownBlock.toList) w T:=by
 obtain⟨W,f⟩:∃W,W=((w.alloc (.cells (Yp 4 s q a y r u t) 60)).alloc (.cells Yr 82)).alloc (.cells Yr 82):=⟨_,rfl⟩;have M:=(Bm f).1;have I:=(Bm f).2.1;have X:=(Bm f).2.2.1;have Z:Aa W (w.heap.size+1) z12:=by have z:=Aa.new (w.alloc (.cells (Yp 4 s q a y r u t) 60)) z12 82;rw[World.size_alloc]at z;rw[f];exact Aa.below (v:=Zf) z (Zy)
 have Y:Aa W (w.heap.size+2) z12:=by have z:=Aa.new ((w.alloc (.cells (Yp 4 s q a y r u t) 60)).alloc (.cells Yr 82)) z12 82;rw[World.size_alloc,World.size_alloc]at z;rw[f];exact z
 have G:W.heap[w.heap.size+1]?=some (.cells Yr 82):=by rw[f,Below.heap_alloc _ _ _ (by simp)];have:=heap_alloc_new (w.alloc (.cells (Yp 4 s q a y r u t) 60)) (.cells Yr 82);rw[World.size_alloc]at this;exact this
 have E:W.heap[w.heap.size+2]?=some (.cells Yr 82):=by have:=heap_alloc_new ((w.alloc (.cells (Yp 4 s q a y r u t) 60)).alloc (.cells Yr 82)) (.cells Yr 82);rw[World.size_alloc,World.size_alloc]at this;rw[f];exact this
 have S:=h.below M;have zK:=h.dr.box.lt;have H:∀b∈d::L.ownBlock.toList,b<w.heap.size:=fun b g=>h.dr.cg b (by unfold vB;simp at g ⊢;rcases g with rfl|g<;>simp[*]);have Q:=Yx (NJ base d m O P L C i given ae A N B s a W S zF zH hl zA zB zC zE zG c);have R:=Yx f
 have j:Hid (Aa W (w.heap.size+1) z12/\Aa W (w.heap.size+2) z12/\W.heap[w.heap.size+1]?=some (.cells Yr 82)/\W.heap[w.heap.size+2]?=some (.cells Yr 82)/\Zz w W/\W.heap.size=w.heap.size+3/\base<=w.heap.size):=⟨Z,Y,G,E,M,I,h.lo⟩;have n:=Yx H;obtain⟨e0,e1,e2,e3⟩:=Aa.c4 X 0 1 2 3;clear f h S Z Y G E M I X H;go_enter func145,ntmps145;go_upto_region 2 with fail;rw[←R.o];clear R;go_wp2_with fail
 refine Calls.mono Q.o ?_;rintro e U ⟨rfl,V,p,c⟩;have zz:=j.o.2.2.2.2.2.1;have K:=Aa.same j.o.1 (c.block _ (by omega) (fun h=>by have:=n.o _ h;omega));have J:=Aa.same j.o.2.1 (c.block _ (by omega) (fun h=>by have:=n.o _ h;omega));have F:=(c.block _ (by omega) (fun h=>by have:=n.o _ h;omega)).trans j.o.2.2.1;have D:=(c.block _ (by omega) (fun h=>by have:=n.o _ h;omega)).trans j.o.2.2.2.1
 have l:=Yx (Zn p (Zn c (Zn (p.cm F (by omega)) (p.cm D (by omega)))));obtain⟨⟨y0,q0⟩,⟨y1,q1⟩,⟨y2,q2⟩,⟨y3,q3⟩,⟨y4,q4⟩,⟨y5,q5⟩,⟨y6,q6⟩,⟨y7,q7⟩,⟨y8,q8⟩,⟨y9,q9⟩,⟨zI,zP⟩,zJ,zS⟩:=AT K;obtain⟨⟨v0,p0⟩,⟨v1,p1⟩,⟨v2,p2⟩,⟨v3,p3⟩,⟨v4,p4⟩,⟨v5,p5⟩,⟨v6,p6⟩,⟨v7,p7⟩,⟨v8,p8⟩,⟨v9,p9⟩,⟨zT,zM⟩,zU,zN⟩:=AT J;clear p c K J F D e0 e1 e2 e3 Q zz;go_wp2
 refine bodyPost_ret (v:=.agg #[Zf,Zf,Zf,Zf,Zf,Zc,Zc,Zc,Zd,Zg (given+1),Zd,Zd]) (by simp[results,results145,go_sem,y0,y1,y2,y3,y4,y5,y6,y7,y8,y9,zI,zJ]) rfl ?_
 have o:=(Tn.set (V:=[w.heap.size+1,w.heap.size+2]) U (w.heap.size+2) 9 (Zg (given+1)) (by simp)).trans (Tn.mono (Bh (U.setCell (Ze (w.heap.size+2) 9) (Zg (given+1))) (w.heap.size+1) Zf Zf Zf Zf Zf Zc Zc Zc Zd (Zg (given+1)) Zd Zd) (by simp));refine⟨rfl,V,l.o.1.an o (by intro b g;simp at g;have:=j.o.2.2.2.2.2.2;rcases g with rfl|rfl;exact⟨by omega,l.o.2.2.1⟩;exact⟨by omega,l.o.2.2.2⟩),?_⟩
 have x:=(Tn.of (V:=d::L.ownBlock.toList) j.o.2.2.2.2.1).trans l.o.2.1;exact⟨o.os.trans x.os,o.tape.trans x.tape,o.output.trans x.output,Zm x.size o.size,fun b g hv=>(o.block b (Zr g x.size) (by simp;omega)).trans (x.block b g hv)⟩
def Bl(ps:List Pd)(n s:Zi):List Pd:=ps.filter (fun x=>less x.name n)++[⟨n,s⟩]++ps.filter (fun x=> !(less x.name n)&& !decide (x.name=n))
theorem Dx.split{b:List Pd}{n:Zi}{i:Nat}(h:Dx b n i):b.filter (fun x=>less x.name n)=b.take i:=by
 have e:=(List.take_append_drop i b).symm
 conv=>lhs;rw[e]
 rw[List.filter_append,List.filter_eq_self.2 (fun x c=> ?_),List.filter_eq_nil_iff.2 (fun x c=> ?_),List.append_nil]
 ·obtain⟨j,a⟩:=List.getElem?_of_mem c;rw[List.getElem?_drop]at a;rw[h.hi (i+j) x (by omega) a];simp
 ·obtain⟨j,a⟩:=List.getElem?_of_mem c;have d:=(Zw a).1;rw[List.length_take]at d;rw[List.getElem?_take_of_lt (by omega)]at a;exact h.lo j x (by omega) a
theorem Dx.gh{b:List Pd}{n:Zi}{i:Nat}(h:Dx b n i):b.filter (fun x=> !(less x.name n)&& !decide (x.name=n))=(b.drop i).filter (fun x=> !decide (x.name=n)):=by
 have e:=(List.take_append_drop i b).symm
 conv=>lhs;rw[e]
 rw[List.filter_append,List.filter_eq_nil_iff.2 (fun x c=> ?_),List.nil_append]
 ·refine List.filter_congr (fun x c=> ?_);obtain⟨j,a⟩:=List.getElem?_of_mem c;rw[List.getElem?_drop]at a;rw[h.hi (i+j) x (by omega) a];simp
 ·obtain⟨j,a⟩:=List.getElem?_of_mem c;have d:=(Zw a).1;rw[List.length_take]at d;rw[List.getElem?_take_of_lt (by omega)]at a;rw[h.lo j x (by omega) a];simp
theorem Pb{a:List Pd}{n s:Zi}{i:Nat}(h:Dx a n i)(b:¬∃x∈a,x.name=n):Bl a n s=a.take i++[⟨n,s⟩]++a.drop i:=by unfold Bl;rw[h.split,h.gh,List.filter_eq_self.2 (fun x d=> ?_)];have c:x.name≠n:=fun e=>b ⟨x,List.mem_of_mem_drop d,e⟩;simpa using c
theorem Uz{d:List Pd}{n s:Zi}{i:Nat}{x:Pd}(h:Dx d n i)(q:d[i]?=some x)(k:x.name=n)(c:d.Pairwise (fun a b=>less a.name b.name=true)):Bl d n s=d.set i ⟨n,s⟩:=by
 obtain⟨f,e⟩:=Zw q;unfold Bl;rw[h.split,h.gh,List.drop_eq_getElem_cons f,List.filter_cons,e,k];simp only[decide_true,Bool.not_true,Bool.false_eq_true,if_false];rw[List.filter_eq_self.2 (fun y r=> ?_),List.set_eq_take_append_cons_drop,if_pos f,List.append_assoc]
 ·rfl
 ·obtain⟨j,g⟩:=List.getElem?_of_mem r;rw[List.getElem?_drop]at g;obtain⟨l,o⟩:=Zw g;have:=List.pairwise_iff_getElem.1 c i (i+1+j) f l (by omega);rw[e,o,k]at this;have m:y.name≠n:=fun p=>by rw[p,Ch]at this;cases this
  simpa using m
end Go.Proofs.YtdgblkklkaklhaaGreatDoor
