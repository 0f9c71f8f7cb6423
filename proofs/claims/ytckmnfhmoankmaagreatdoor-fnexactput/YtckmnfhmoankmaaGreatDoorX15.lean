import Derived.Test.YtckmnfhmoankmaaGreatDoorX14
set_option maxRecDepth 100000
set_option maxHeartbeats 16000000
namespace Go.Proofs.YtckmnfhmoankmaaGreatDoor
open Go.ChangeShapes Go.WideShapes Go.ChangeAt Go.RowKit _root_.Go.Proofs.Tryz
theorem Rv{a:List Ld}{k:Nat}{x:Ld}(n:Int)(c:a[k]?=some x):Bx (a.take (k+1)) n=Bx (a.take k) n++(if x.num=n then []else [x]):=by obtain⟨b,rfl⟩:=Zw c;unfold Bx;rw[Zu b,List.filter_append];by_cases h:a[k].num=n<;>simp[h]
theorem MM(a:List Ld)(n:Int):(Bx a n).length=a.length↔¬∃x∈a,x.num=n:=by unfold Bx;rw[List.length_filter_eq_length_iff];simp
def Tz(w w':Zh)(e:Ending)(wd now given ae:Int)(T P:Value)(ls:List Ld)(n:Int):Prop:=
 Below w.heap.size w w'/\(((¬∃x∈ls,x.num=n)/\e=.returned (.agg #[Zg 5,Zf,Zf,Zf,Zf,Zc,Zc,Zc,Zd,Zf,Zd,Zd]))∨
  ((∃x∈ls,x.num=n)/\∃g c,e=.returned (.agg #[Zf,Zg wd,Zg now,Zg given,Zg ae,T,P,.slice (some ⟨g,0,none⟩) (Bx ls n).length c,Zd,Zf,Zd,Zd])/\w'.ownsRow w.heap.size 144 3 (.slice (some ⟨g,0,none⟩) (Bx ls n).length c) (Bx ls n).length (Ab lC (Bx ls n))))
theorem Rw(p d given ae:Int)(m h A:Zk)(tn o l j E:Nat)(a:List Ld)(n:Int)(w:Zh)(s:Be w w.heap.size A a)(hl:a.length<=1000):
 Calls prog 86 #[.agg (Ys p d given ae m tn o h l j A a.length E),Zg n] w fun e w'=>Tz w w' e p d given ae (.slice m tn o) (.slice h l j) a n:=by
 obtain⟨W,y⟩:∃W,W=(w.alloc (.cells (Ys p d given ae m tn o h l j A a.length E) 43)).alloc (.cells Yl 90):=⟨_,rfl⟩;have bW:=(Bj y).1;have M:=(Bj y).2.1;have x0:=(Bj y).2.2.1;have x1:Aa W (w.heap.size+1) z12:=by have h1:=Aa.new (w.alloc (.cells (Ys p d given ae m tn o h l j A a.length E) 43)) z12 90;rw[World.size_alloc]at h1;rw[y];exact h1
 have R:Hid (∀X,Below (w.heap.size+2) W X->Aa X w.heap.size (Yt p d given ae m tn o h l j A a.length E)/\Aa X (w.heap.size+1) z12):=fun X hX=>⟨Aa.same x0 (hX.block _ (by omega)),Aa.same x1 (hX.block _ (by omega))⟩;have Z:=Yx y;have zH:Hid (W.heap.size=w.heap.size+2):=M;have t:w.heap.size+2<=W.heap.size:=by omega
 have HR:Hid (Be w w.heap.size A a):=s;have zA:Hid (Zz w W):=bW;have bA:Below W.heap.size W (W.alloc (.cells #[] 144)):=Zy;have G:Hid ((W.alloc (.cells #[] 144)).ownsRow (w.heap.size+2) 144 3 (Za W.heap.size 0 0) 0 []):=World.ownsRow_lit (base:=w.heap.size+2) (e:=144) (size:=3) W #[] 0 (by omega) (by unfold maxLen;omega) rfl
 have F:Hid (Below (w.heap.size+2) W (W.alloc (.cells #[] 144))):=bA.mono t;clear y M x0 x1 s bW bA;go_enter func86,ntmps86;go_upto_region 1 with fail;rw[←Z.o];clear Z;go_wp2
 go_loopw [5,6] (fun v i wr=>∃(k g c:Nat),k<=a.length/\i=Zg k/\v=Za g (Bx (a.take k) n).length c/\Hid (wr.ownsRow (w.heap.size+2) 144 3 (Za g (Bx (a.take k) n).length c) (Bx (a.take k) n).length (Ab lC (Bx (a.take k) n))/\Below (w.heap.size+2) W wr)) (fun _ i _=>a.length -(intOf i).toNat)
 case atStart=>exact⟨0,W.heap.size,0,Nat.zero_le _,rfl,by simp[Bx],⟨by simpa [Bx,Ab]using G.o,F.o⟩⟩
 case round=>
  clear G F;obtain⟨k,g,c,hk,rfl,rfl,b⟩:=hrel;have f:Below w.heap.size w wr:=zA.o.trans (b.o.2.mono (by omega));have N:w.heap.size+2<=wr.heap.size:=Zm t b.o.2.size;obtain⟨v0,v1,v2,v3,v4,v5,v6,v7⟩:=BG (R.o _ b.o.2).1;by_cases hlt:k<a.length
  ·obtain⟨b',zJ,ha,hb,I⟩:=(Be.below HR.o f).at hlt;subst ha;have Y:Hid (a[k]?=some a[k]):=Zv hlt;obtain⟨c0,c1,c2⟩:=I k _ Y.o;have H:=Yx (Rv n Y.o);have zI:(Bx (a.take k) n).length<=1000:=by have:=List.length_filter_le (fun x:Ld=> !decide (x.num=n)) (a.take k);unfold Bx;rw[List.length_take]at this;omega
   clear I;generalize a[k]=x at *
   generalize hGk:Bx (a.take k) n=gk at *
   have zG:=Yx hGk;clear hGk;by_cases hxn:x.num=n
   ·have z:(x.num !=n)=false:=by simp[hxn]
    have B:Hid (Bx (a.take (k+1)) n=gk):=by show _=_;rw[H.o,if_pos hxn,List.append_nil]
    clear hxn;go_wp2;exact⟨⟨k+1,g,c,by omega,by go_num,by rw[B.o],⟨by rw[B.o];exact b.o.1,b.o.2⟩⟩,by simp[intOf];omega⟩
   ·have z:(x.num !=n)=true:=by simp[hxn]
    have B:Hid (Bx (a.take (k+1)) n=gk++[x]):=by show _=_;rw[H.o,if_neg hxn]
    clear hxn;obtain⟨g8,r,T,L,K,J,zC⟩:=Nz wr (w.heap.size+2) _ gk b.o.1 x (by omega) N 41;have b8:Below (w.heap.size+2) wr T:=(Below.refl _ _).grown J N (fun q e=>(Ac b.o.1 e).1);have U:Hid (T.ownsRow (w.heap.size+2) 144 3 (Za g8 (gk.length+1) r) (gk++[x]).length (Ab lC (gk++[x]))/\Below (w.heap.size+2) W T):=⟨K,b.o.2.trans b8⟩;have zF:b'<wr.heap.size:=by have:=f.size;omega
    clear K J zC b8;go_wp2_with (at_builtin;refine wpList_append_run rfl _ _ 41 41 rfl rfl rfl L ?_);clear L c0 c1 c2 v0 v1 v2 v3 v4 v5 v6;go_wp2;exact⟨⟨k+1,g8,r,by omega,by go_num,by rw[B.o,List.length_append];rfl,⟨by rw[B.o,List.length_append];exact List.length_append▸U.o.1,U.o.2⟩⟩,by simp[intOf];omega⟩
  ·obtain rfl:k=a.length:=by omega
   have D:=b.o.1;rw[Zt (Zx)]at D ⊢;have Q:=Yx D;have u:Hid (Zz w wr):=f;obtain⟨⟨y0,q0⟩,⟨y1,q1⟩,⟨y2,q2⟩,⟨y3,q3⟩,⟨y4,q4⟩,⟨y5,q5⟩,⟨y6,q6⟩,⟨y7,q7⟩,⟨y8,q8⟩,⟨y9,q9⟩,⟨O,zK⟩,P,zM⟩:=AZ (R.o _ b.o.2).2;have f6:=((R.o _ b.o.2).1 6 _ rfl).2;by_cases hex:∃x∈a,x.num=n
   ·have zE:¬(Bx a n).length=a.length:=fun e=>(MM a n).1 e hex;have z:(((Bx a n).length:Int)==(a.length:Int))=false:=by simp;omega
    have C:Hid (∃x∈a,x.num=n):=hex;clear zE hex D f b;go_wp2;refine bodyPost_ret (v:=.agg #[Zf,Zg p,Zg d,Zg given,Zg ae,.slice m tn o,.slice h l j,Za g (Bx a n).length c,Zd,Zf,Zd,Zd]) (by simp[results,results86,go_sem,y0,y1,y2,y3,y4,y5,y6,y7,y8,y9,O,P]) rfl ?_
    have T':=(Tn.set (V:=[w.heap.size,w.heap.size+1]) wr w.heap.size 6 (Za g (Bx a n).length c) (by simp)).trans (Tn.mono (Bq (wr.setCell (Ze (w.heap.size) 6) (Za g (Bx a n).length c)) (w.heap.size+1) Zf (Zg p) (Zg d) (Zg given) (Zg ae) (.slice m tn o) (.slice h l j) (Za g (Bx a n).length c) Zd Zf Zd Zd) (by simp))
    exact⟨u.o.trans (T'.below u.o.size (by intro v S;simp at S;omega)),.inr ⟨C.o,g,c,rfl,(Ak Q.o (fun q z=>T'.block q (Ac Q.o z).2 (by have:=(Ac Q.o z).1;simp;omega))).mono (by omega)⟩⟩
   ·have zB:(Bx a n).length=a.length:=(MM a n).2 hex;have z:(((Bx a n).length:Int)==(a.length:Int))=true:=by simp;omega
    have C:Hid (¬∃x∈a,x.num=n):=hex;clear zB hex D f b;go_wp2;refine bodyPost_ret (v:=.agg (Yk 5)) (by simp[results,results86,go_sem,y0,y1,y2,y3,y4,y5,y6,y7,y8,y9,O,P]) rfl ?_;exact⟨u.o.trans (Tn.below (Bq wr (w.heap.size+1) _ _ _ _ _ _ _ _ _ _ _ _) u.o.size (by intro v S;simp at S;omega)),.inl ⟨C.o,rfl⟩⟩
theorem IK(w:Zh)(base:Nat)(v:Value)(a:List Pd)(t:w.ownsRow base 142 2 v a.length (Ab pC a))(x:Pd)(s:a.length<=1000000)(i:base<=w.heap.size)(k:TypeId):
 ∃g b d,(Builtin.append_ #[40,40] k #[v,Za w.heap.size 1 1]).run prog (w.alloc (.cells #[.string x.name,.string x.sum] 142))=.ok (Za g (a.length+1) b) d/\d.ownsRow base 142 2 (Za g (a.length+1) b) (a++[x]).length (Ab pC (a++[x]))/\w.grownBy d v.ownBlock/\(v.ownBlock=some g∨g=w.heap.size+1):=by
 obtain⟨z,r,m,n,o⟩:=info_parts GM;have l:=Ag t ((Below.refl _ _).alloc (Zx) (.cells #[.string x.name,.string x.sum] 142));have q:∀j u,(Ab pC [x])[j]?=some u->(w.alloc (.cells #[.string x.name,.string x.sum] 142)).cell? ((⟨w.heap.size,0,none⟩:Addr).add j)=some u:=by intro j u f;rw[Go.WideShapes.add_plain,Nat.zero_add];exact(Aa.new w [.string x.name,.string x.sum] 142 j u (by simpa [Ab,pC]using f)).1
 obtain⟨A,d,y,h,p,_,c⟩:=run_append_own_at (P:=prog) (w.alloc (.cells #[.string x.name,.string x.sum] 142)) base 40 k 142 z _ 2 32 underlying40 r m n o rfl (by decide) v a.length (Ab pC a) l ⟨w.heap.size,0,none⟩ 1 1 (Ab pC [x]) (by simp[Ab,pC]) q (by intro u f;simp[Ab,pC]at f;rcases f with rfl|rfl<;>rfl) (by unfold maxLen;omega) (by omega) (by simp;omega)
 obtain⟨g,b,rfl,_,_⟩:=Cp h (fun e=>by subst e;rcases h.2 with⟨_,s⟩|⟨_,_,_,e,_⟩<;>first|omega|cases e);refine⟨g,b,d,y,?_,(World.grownBy_alloc w _ _).trans p,?_⟩
 ·rw[Ih,List.length_append];exact h
 ·rcases c with c|c
  ·exact .inl c.symm
  ·right;simpa [Value.ownBlock]using c
theorem PE{a:List Pd}{k:Nat}{x:Pd}(n:Zi)(c:a[k]?=some x):Bg (a.take (k+1)) n=Bg (a.take k) n++(if x.name=n then []else [x]):=by obtain⟨b,rfl⟩:=Zw c;unfold Bg;rw[Zu b,List.filter_append];by_cases h:a[k].name=n<;>simp[h]
theorem Lv(a:List Pd)(n:Zi):(Bg a n).length=a.length↔¬∃x∈a,x.name=n:=by unfold Bg;rw[List.length_filter_eq_length_iff];simp
def Qi(w w':Zh)(e:Ending)(wd now given ae:Int)(T P:Value)(ls:List Pd)(n:Zi):Prop:=
 Below w.heap.size w w'/\(((¬∃x∈ls,x.name=n)/\e=.returned (.agg #[Zg 5,Zf,Zf,Zf,Zf,Zc,Zc,Zc,Zd,Zf,Zd,Zd]))∨
  ((∃x∈ls,x.name=n)/\∃g c,e=.returned (.agg #[Zf,Zg wd,Zg now,Zg given,Zg ae,T,.slice (some ⟨g,0,none⟩) (Bg ls n).length c,P,Zd,Zf,Zd,Zd])/\w'.ownsRow w.heap.size 142 2 (.slice (some ⟨g,0,none⟩) (Bg ls n).length c) (Bg ls n).length (Ab pC (Bg ls n))))
theorem PF(p d given ae:Int)(m h A:Zk)(tn o l j E:Nat)(a:List Pd)(n:Zi)(w:Zh)(s:Ba w w.heap.size A a)(hl:a.length<=1000):
 Calls prog 83 #[.agg (Ys p d given ae m tn o A a.length E h l j),.string n] w fun e w'=>Qi w w' e p d given ae (.slice m tn o) (.slice h l j) a n:=by
 obtain⟨W,y⟩:∃W,W=(w.alloc (.cells (Ys p d given ae m tn o A a.length E h l j) 43)).alloc (.cells Yl 90):=⟨_,rfl⟩;have bW:=(Bj y).1;have N:=(Bj y).2.1;have x0:=(Bj y).2.2.1;have x1:Aa W (w.heap.size+1) z12:=by have h1:=Aa.new (w.alloc (.cells (Ys p d given ae m tn o A a.length E h l j) 43)) z12 90;rw[World.size_alloc]at h1;rw[y];exact h1
 have S:Hid (∀X,Below (w.heap.size+2) W X->Aa X w.heap.size (Yt p d given ae m tn o A a.length E h l j)/\Aa X (w.heap.size+1) z12):=fun X hX=>⟨Aa.same x0 (hX.block _ (by omega)),Aa.same x1 (hX.block _ (by omega))⟩;have HW:=Yx y;have zH:Hid (W.heap.size=w.heap.size+2):=N;have t:w.heap.size+2<=W.heap.size:=by omega
 have HR:Hid (Ba w w.heap.size A a):=s;have zA:Hid (Zz w W):=bW;have bA:Below W.heap.size W (W.alloc (.cells #[] 142)):=Zy;have G:Hid ((W.alloc (.cells #[] 142)).ownsRow (w.heap.size+2) 142 2 (Za W.heap.size 0 0) 0 []):=World.ownsRow_lit (base:=w.heap.size+2) (e:=142) (size:=2) W #[] 0 (by omega) (by unfold maxLen;omega) rfl
 have F:Hid (Below (w.heap.size+2) W (W.alloc (.cells #[] 142))):=bA.mono t;clear y N x0 x1 s bW bA;go_enter func83,ntmps83;go_upto_region 1 with fail;rw[←HW.o];clear HW;go_wp2
 go_loopw [5,6] (fun v i wr=>∃(k g c:Nat),k<=a.length/\i=Zg k/\v=Za g (Bg (a.take k) n).length c/\Hid (wr.ownsRow (w.heap.size+2) 142 2 (Za g (Bg (a.take k) n).length c) (Bg (a.take k) n).length (Ab pC (Bg (a.take k) n))/\Below (w.heap.size+2) W wr)) (fun _ i _=>a.length -(intOf i).toNat)
 case atStart=>exact⟨0,W.heap.size,0,Nat.zero_le _,rfl,by simp[Bg],⟨by simpa [Bg,Ab]using G.o,F.o⟩⟩
 case round=>
  clear G F;obtain⟨k,g,c,hk,rfl,rfl,b⟩:=hrel;have f:Below w.heap.size w wr:=zA.o.trans (b.o.2.mono (by omega));have O:w.heap.size+2<=wr.heap.size:=Zm t b.o.2.size;obtain⟨v0,v1,v2,v3,v4,v5,v6,v7⟩:=BG (S.o _ b.o.2).1;by_cases hlt:k<a.length
  ·obtain⟨b',zJ,ha,hb,I⟩:=(Ba.below HR.o f).at hlt;subst ha;have Z:Hid (a[k]?=some a[k]):=Zv hlt;obtain⟨c0,c1⟩:=I k _ Z.o;have H:=Yx (PE n Z.o);have zI:(Bg (a.take k) n).length<=1000:=by have:=List.length_filter_le (fun x:Pd=> !decide (x.name=n)) (a.take k);unfold Bg;rw[List.length_take]at this;omega
   clear I;generalize a[k]=x at *
   generalize hGk:Bg (a.take k) n=gk at *
   have zG:=Yx hGk;clear hGk;by_cases hxn:x.name=n
   ·have z:(x.name.toList !=n.toList)=false:=by rw[hxn];simp
    have L:(x.name.toList==n.toList)=true:=by rw[hxn];simp
    have B:Hid (Bg (a.take (k+1)) n=gk):=by show _=_;rw[H.o,if_pos hxn,List.append_nil]
    clear hxn;go_wp2;exact⟨⟨k+1,g,c,by omega,by go_num,by rw[B.o],⟨by rw[B.o];exact b.o.1,b.o.2⟩⟩,by simp[intOf];omega⟩
   ·have L:(x.name.toList==n.toList)=false:=Ca hxn;have z:(x.name.toList !=n.toList)=true:=by simp[bne,L]
    have B:Hid (Bg (a.take (k+1)) n=gk++[x]):=by show _=_;rw[H.o,if_neg hxn]
    clear hxn;obtain⟨g8,r,U,M,K,J,zC⟩:=IK wr (w.heap.size+2) _ gk b.o.1 x (by omega) O 40;have b8:Below (w.heap.size+2) wr U:=(Below.refl _ _).grown J O (fun q e=>(Ac b.o.1 e).1);have Y:Hid (U.ownsRow (w.heap.size+2) 142 2 (Za g8 (gk.length+1) r) (gk++[x]).length (Ab pC (gk++[x]))/\Below (w.heap.size+2) W U):=⟨K,b.o.2.trans b8⟩;have zF:b'<wr.heap.size:=by have:=f.size;omega
    clear K J zC b8;go_wp2_with (at_builtin;refine wpList_append_run rfl _ _ 40 40 rfl rfl rfl M ?_);clear M c0 c1 v0 v1 v2 v3 v4 v5 v6;go_wp2;exact⟨⟨k+1,g8,r,by omega,by go_num,by rw[B.o,List.length_append];rfl,⟨by rw[B.o,List.length_append];exact List.length_append▸Y.o.1,Y.o.2⟩⟩,by simp[intOf];omega⟩
  ·obtain rfl:k=a.length:=by omega
   have D:=b.o.1;rw[Zt (Zx)]at D ⊢;have R:=Yx D;have u:Hid (Zz w wr):=f;obtain⟨⟨y0,q0⟩,⟨y1,q1⟩,⟨y2,q2⟩,⟨y3,q3⟩,⟨y4,q4⟩,⟨y5,q5⟩,⟨y6,q6⟩,⟨y7,q7⟩,⟨y8,q8⟩,⟨y9,q9⟩,⟨P,zK⟩,Q,zM⟩:=AZ (S.o _ b.o.2).2;have f6:=((S.o _ b.o.2).1 5 _ rfl).2;by_cases hex:∃x∈a,x.name=n
   ·have zE:¬(Bg a n).length=a.length:=fun e=>(Lv a n).1 e hex;have z:(((Bg a n).length:Int)==(a.length:Int))=false:=by simp;omega
    have C:Hid (∃x∈a,x.name=n):=hex;clear zE hex D f b;go_wp2;refine bodyPost_ret (v:=.agg #[Zf,Zg p,Zg d,Zg given,Zg ae,.slice m tn o,Za g (Bg a n).length c,.slice h l j,Zd,Zf,Zd,Zd]) (by simp[results,results83,go_sem,y0,y1,y2,y3,y4,y5,y6,y7,y8,y9,P,Q]) rfl ?_
    have T':=(Tn.set (V:=[w.heap.size,w.heap.size+1]) wr w.heap.size 5 (Za g (Bg a n).length c) (by simp)).trans (Tn.mono (Bq (wr.setCell (Ze (w.heap.size) 5) (Za g (Bg a n).length c)) (w.heap.size+1) Zf (Zg p) (Zg d) (Zg given) (Zg ae) (.slice m tn o) (Za g (Bg a n).length c) (.slice h l j) Zd Zf Zd Zd) (by simp))
    exact⟨u.o.trans (T'.below u.o.size (by intro v T;simp at T;omega)),.inr ⟨C.o,g,c,rfl,(Ak R.o (fun q z=>T'.block q (Ac R.o z).2 (by have:=(Ac R.o z).1;simp;omega))).mono (by omega)⟩⟩
   ·have zB:(Bg a n).length=a.length:=(Lv a n).2 hex;have z:(((Bg a n).length:Int)==(a.length:Int))=true:=by simp;omega
    have C:Hid (¬∃x∈a,x.name=n):=hex;clear zB hex D f b;go_wp2;refine bodyPost_ret (v:=.agg (Yk 5)) (by simp[results,results83,go_sem,y0,y1,y2,y3,y4,y5,y6,y7,y8,y9,P,Q]) rfl ?_;exact⟨u.o.trans (Tn.below (Bq wr (w.heap.size+1) _ _ _ _ _ _ _ _ _ _ _ _) u.o.size (by intro v T;simp at T;omega)),.inl ⟨C.o,rfl⟩⟩
def DM(ps:List Pd)(n:Zi):Bool:= !(ps.all (fun x=>less x.name n))
def BY(ps:List Pd)(n s:Zi):List Pd:=ps.filter (fun x=>less x.name n)++(if DM ps n then [⟨n,s⟩]else [])++ps.filter (fun x=> !(less x.name n)&& !decide (x.name=n))
theorem Ia{a:List Pd}{k:Nat}{x:Pd}(n:Zi)(c:a[k]?=some x):DM (a.take (k+1)) n=(DM (a.take k) n|| !(less x.name n)):=by obtain⟨b,rfl⟩:=Zw c;unfold DM;rw[Zu b,List.all_append];simp
theorem FJ{a:List Pd}{n:Zi}(h:DM a n=false):a.filter (fun x=> !(less x.name n)&& !decide (x.name=n))=[]:=by
 rw[List.filter_eq_nil_iff];intro x b;have:less x.name n=true:=by unfold DM at h;simp only[Bool.not_eq_false']at h;exact List.all_eq_true.1 h x b
 simp[this]
theorem Rx{a:List Pd}{k:Nat}{x:Pd}(n s:Zi)(e:a[k]?=some x)(c:DM (a.take k) n=false)(d:less x.name n=true):BY (a.take (k+1)) n s=BY (a.take k) n s++[x]:=by have b:=Ia n e;rw[c,d]at b;unfold BY;rw[FJ c,FJ (by rw[b];rfl),b,c];obtain⟨f,rfl⟩:=Zw e;rw[Zu f,List.filter_append];simp[d]
theorem WN{a:List Pd}{k:Nat}{x:Pd}(n s:Zi)(e:a[k]?=some x)(b:DM (a.take k) n=false)(d:less x.name n=false):BY (a.take (k+1)) n s=BY (a.take k) n s++[⟨n,s⟩]++(if x.name=n then []else [x]):=by
 have c:=Ia n e;rw[b,d]at c;unfold BY;rw[FJ b,c,b];have g:=FJ b;obtain⟨f,rfl⟩:=Zw e;rw[Zu f,List.filter_append,List.filter_append,g];by_cases hn:a[k].name=n
 ·simp[hn,Cr]
 ·simp[d,hn]
theorem TC{d:List Pd}{k:Nat}{x:Pd}(n s:Zi)(g:d.Pairwise (fun a b=>less a.name b.name=true))(p:d[k]?=some x)(i:DM (d.take k) n=true):x.name≠n/\BY (d.take (k+1)) n s=BY (d.take k) n s++[x]:=by
 have m:=Ia n p;rw[i,Bool.true_or]at m;obtain⟨l,rfl⟩:=Zw p;obtain⟨y,v,f⟩:∃y∈d.take k,less y.name n=false:=by unfold DM at i;simpa using i
 obtain⟨j,t⟩:=List.getElem?_of_mem v;obtain⟨q,e⟩:=Zw t;rw[List.length_take]at q;rw[List.getElem_take]at e;have c:=List.pairwise_iff_getElem.1 g j k (by omega) l (by omega);rw[e]at c;have u:less d[k].name n=false:=by
  cases h:less d[k].name n with
  |false=>rfl
  |true=>rw[CD c h]at f;cases f
 have o:d[k].name≠n:=fun r=>by rw[r]at c;rw[c]at f;cases f
 refine⟨o,?_⟩;unfold BY;rw[m,i,Zu l,List.filter_append,List.filter_append];simp[u,o]
theorem Vh{a:List Pd}(n s:Zi)(b:DM a n=true):BY a n s=Bw a n s:=by unfold BY Bw;rw[b];rfl
theorem WO{a:List Pd}(n s:Zi)(b:DM a n=false):BY a n s++[⟨n,s⟩]=Bw a n s:=by unfold BY Bw;rw[b,FJ b];simp
theorem Kx(a:List Pd)(n s:Zi):(BY a n s).length<=a.length+1:=by
 have h:∀(l:List Pd),(l.filter (fun x=>less x.name n)).length+(l.filter (fun x=> !(less x.name n)&& !decide (x.name=n))).length<=l.length:=by
  intro l;induction l with
  |nil=>simp
  |cons x l ih=>rw[List.filter_cons,List.filter_cons];cases less x.name n<;>by_cases hn:x.name=n<;>simp[hn]<;>omega
 have:=h a;unfold BY;rw[List.length_append,List.length_append];split<;>simp<;>omega
def VP(w w':Zh)(e:Ending)(wd now given ae:Int)(T L:Value)(ps:List Pd)(n s:Zi):Prop:=
 Below w.heap.size w w'/\((100<(Bw ps n s).length/\e=.returned (.agg #[Zg 4,Zf,Zf,Zf,Zf,Zc,Zc,Zc,Zd,Zf,Zd,Zd]))∨
  ((Bw ps n s).length<=100/\∃g c,e=.returned (.agg #[Zf,Zg wd,Zg now,Zg given,Zg ae,T,.slice (some ⟨g,0,none⟩) (Bw ps n s).length c,L,Zd,Zf,Zd,Zd])/\w'.ownsRow w.heap.size 142 2 (.slice (some ⟨g,0,none⟩) (Bw ps n s).length c) (Bw ps n s).length (Ab pC (Bw ps n s))))
theorem TD(I R given ae kind zM:Int)(ta pa la ra:Zk)(tc pc lc ln rn rc:Nat)(O:List Kd)(d:List Pd)(n s text:Zi)(w:Zh)(yU:BF w w.heap.size ta O)(zY:Ba w w.heap.size pa d)(xP:O.length<=1000)(hl:d.length<=1000)(yW:Ay O s)(zH:d.Pairwise (fun a b=>less a.name b.name=true)):
 Calls prog 82 #[.agg (Ys I R given ae ta O.length tc pa d.length pc la ln lc),.agg (Ym kind s n zM text ra rn rc)] w fun e w'=>VP w w' e I R given ae (.slice ta O.length tc) (.slice la ln lc) d n s:=by
 obtain⟨W,hW⟩:∃W,W=((w.alloc (.cells (Ys I R given ae ta O.length tc pa d.length pc la ln lc) 43)).alloc (.cells (Ym kind s n zM text ra rn rc) 67)).alloc (.cells Yl 90):=⟨_,rfl⟩;have bW:=(Bh hW).1;have xF:=(Bh hW).2.1;have x0:=(Bh hW).2.2.1;have xe:Aa W (w.heap.size+1) (Yn kind s n zM text ra rn rc):=by have h1:=Aa.new (w.alloc (.cells (Ys I R given ae ta O.length tc pa d.length pc la ln lc) 43)) (Yn kind s n zM text ra rn rc) 67;rw[World.size_alloc]at h1;rw[hW];exact Aa.below h1 (Zy)
 have x1:Aa W (w.heap.size+2) z12:=by have h1:=Aa.new ((w.alloc (.cells (Ys I R given ae ta O.length tc pa d.length pc la ln lc) 43)).alloc (.cells (Ym kind s n zM text ra rn rc) 67)) z12 90;rw[World.size_alloc,World.size_alloc]at h1;rw[hW];exact h1
 have yQ:=Yx (Fj I R given ae ta tc (.slice pa d.length pc) (.slice la ln lc) O s W w.heap.size (BF.below yU bW) bW.size (by omega));have xN:¬CR O s<0:=by
  rcases Fc O s with⟨_,hn⟩|⟨i,k,e,_⟩
  ·exact absurd yW hn
  ·omega
 have l:Hid (∀X,Below (w.heap.size+3) W X->Aa X w.heap.size (Yt I R given ae ta O.length tc pa d.length pc la ln lc)/\Aa X (w.heap.size+1) (Yn kind s n zM text ra rn rc)/\Aa X (w.heap.size+2) z12):=fun X hX=>⟨Aa.same x0 (hX.block _ (by omega)),Aa.same xe (hX.block _ (by omega)),Aa.same x1 (hX.block _ (by omega))⟩;have HW:=Yx hW;have f:w.heap.size+3<=W.heap.size:=by omega
 have HR:Hid (Ba w w.heap.size pa d):=zY;have yP:Hid (Zz w W):=bW;have xA:=Yx zH;obtain⟨v0,p,r,t,u,y,z,S⟩:=BG x0;obtain⟨o,_⟩:=xe 1 _ rfl;clear hW xF x0 x1 xe zY bW yU yW zH;go_enter func82,ntmps82;go_upto_region 1 with fail;rw[←HW.o];clear HW;go_wp2_with fail;refine Calls.mono yQ.o ?_;rintro e W1 ⟨rfl,yE⟩;have yN:w.heap.size+3<=W1.heap.size:=Zm f yE.size
 have yY:Hid (Below (w.heap.size+3) W W1):=yE.mono f;have bA:Below W1.heap.size W1 (W1.alloc (.cells #[] 142)):=Zy;have yR:Hid ((W1.alloc (.cells #[] 142)).ownsRow (w.heap.size+3) 142 2 (Za W1.heap.size 0 0) 0 []):=World.ownsRow_lit (base:=w.heap.size+3) (e:=142) (size:=2) W1 #[] 0 (by omega) (by unfold maxLen;omega) rfl
 have yO:Hid (Below (w.heap.size+3) W (W1.alloc (.cells #[] 142))):=yY.o.trans (bA.mono yN);generalize CR O s=fi at *
 clear yQ bA yE o v0 p r t u y z S;go_wp2
 go_loopw [5,6,7] (fun v dn i wr=>∃(k g c:Nat),k<=d.length/\i=Zg k/\dn=.bool (DM (d.take k) n)/\v=Za g (BY (d.take k) n s).length c/\Hid (wr.ownsRow (w.heap.size+3) 142 2 (Za g (BY (d.take k) n s).length c) (BY (d.take k) n s).length (Ab pC (BY (d.take k) n s))/\Below (w.heap.size+3) W wr)) (fun _ _ i _=>d.length -(intOf i).toNat)
 case atStart=>exact⟨0,W1.heap.size,0,Nat.zero_le _,rfl,rfl,by simp[BY,DM],⟨by simpa [BY,DM,Ab]using yR.o,yO.o⟩⟩
 case round=>
  clear yR yO;obtain⟨k,g,c,hk,rfl,rfl,rfl,P⟩:=hrel;have zP:Below w.heap.size w wr:=yP.o.trans (P.o.2.mono (by omega));have yG:w.heap.size+3<=wr.heap.size:=Zm f P.o.2.size;obtain⟨v0,p,r,t,u,y,z,S⟩:=BG (l.o _ P.o.2).1;obtain⟨o,D⟩:=Aa.c2 ((l.o _ P.o.2).2.1) 1 2;by_cases hlt:k<d.length
  ·obtain⟨M,yC,ha,hb,yS⟩:=(Ba.below HR.o zP).at hlt;subst ha;have HG:Hid (d[k]?=some d[k]):=Zv hlt;obtain⟨E,F⟩:=yS k _ HG.o;have yZ:∀X,Below (w.heap.size+3) W X->X.cell? (Ze M (yC+k *2))=some (.string d[k].name)/\X.cell? (Ze M (yC+k *2+1))=some (.string d[k].sum):=fun X hX=>by obtain⟨b2,xK,e2,_,xD⟩:=(Ba.below HR.o (yP.o.trans (hX.mono (by omega)))).at hlt;cases e2;exact xD k _ HG.o
   have xO:(BY (d.take k) n s).length<=1001:=by have:=Kx (d.take k) n s;rw[List.length_take]at this;omega
   have yM:M<wr.heap.size:=by have:=zP.size;omega
   clear yS;have G:=Yx (Rx n s HG.o);have zN:=Yx (WN n s HG.o);have J:=Yx (TC n s xA.o HG.o);have HD:=Yx (Ia n HG.o);generalize d[k]=x at *
   generalize hGk:BY (d.take k) n s=gk at *
   generalize hDk:DM (d.take k) n=dk at *
   have xL:=Yx hGk;clear hGk hDk;have U:=Yx yZ;have zC:=P.o.2;have yD:=P.o.1;have xU:=yG;have xS:=yM;cases dk with
   |true=>
    obtain⟨L,hE⟩:=J.o rfl;have HE:=Yx hE;have zI:Hid (DM (d.take (k+1)) n=true):=by show _=_;rw[HD.o];rfl
    have zJ:(x.name.toList==n.toList)=false:=Ca L;have Z:(x.name.toList !=n.toList)=true:=by simp[bne,zJ]
    clear hE G zN J L P;go_wp2;go_quiet (fail);have H:Below wr.heap.size wr (wr.drewN nq):=Cf (Below.refl _ _) _;generalize wr.drewN nq=wa at *
    have j:Below (w.heap.size+3) W wa:=zC.trans (H.mono (Zm f zC.size));have zA:=Ag yD H;have zG:w.heap.size+3<=wa.heap.size:=Zm f j.size;have yH:M<wa.heap.size:=by omega
    clear E F o D v0 p r t u y z;obtain⟨v0,p,r,t,u,y,z,S⟩:=BG (l.o _ j).1;obtain⟨o,D⟩:=Aa.c2 ((l.o _ j).2.1) 1 2;obtain⟨E,F⟩:=U.o wa j;go_wp2;go_quiet (fail);have H:Below wa.heap.size wa (wa.drewN nq):=Cf (Below.refl _ _) _;generalize wa.drewN nq=wb at *
    have Q:Below (w.heap.size+3) W wb:=j.trans (H.mono (Zm f j.size));have zR:=Ag zA H;have zV:w.heap.size+3<=wb.heap.size:=Zm f Q.size;have xG:M<wb.heap.size:=by omega
    clear E F o D v0 p r t u y z;obtain⟨v0,p,r,t,u,y,z,S⟩:=BG (l.o _ Q).1;obtain⟨o,D⟩:=Aa.c2 ((l.o _ Q).2.1) 1 2;obtain⟨E,F⟩:=U.o wb Q;obtain⟨Y,m,wc,C,B,A,_⟩:=IK wb (w.heap.size+3) _ gk zR x (by first|omega|(simp;omega)) zV 40;have h:Below (w.heap.size+3) W wc:=Q.trans ((Below.refl _ _).grown A zV (fun q e=>(Ac zR e).1));have yJ:w.heap.size+3<=wc.heap.size:=Zm f h.size
    have yI:M<wc.heap.size:=by omega
    have zB:=B;clear B A;go_wp2_with (at_builtin;refine wpList_append_run rfl _ _ 40 40 rfl rfl rfl C ?_);clear C;clear E F o D v0 p r t u y z;obtain⟨v0,p,r,t,u,y,z,S⟩:=BG (l.o _ h).1;obtain⟨o,D⟩:=Aa.c2 ((l.o _ h).2.1) 1 2;obtain⟨E,F⟩:=U.o wc h;have K:=Yx (Zn zB h);clear zB h;go_wp2
    exact⟨⟨k+1,Y,m,by omega,by go_num,by rw[zI.o],by rw[HE.o];simp,⟨by rw[HE.o];simpa using K.o.1,K.o.2⟩⟩,by simp[intOf];omega⟩
   |false=>
    cases hless:Op.bytesLess x.name.toList n.toList with
    |true=>
     have HE:=Yx (G.o rfl hless);have zI:Hid (DM (d.take (k+1)) n=false):=by show _=_;rw[HD.o];unfold less;rw[hless];rfl
     have L:x.name≠n:=fun e=>by have:=Cr n;unfold less at this;rw[e,this]at hless;cases hless
     have zJ:(x.name.toList==n.toList)=false:=Ca L;have Z:(x.name.toList !=n.toList)=true:=by simp[bne,zJ]
     clear G zN J L P;go_wp2;go_quiet (fail);have H:Below wr.heap.size wr (wr.drewN nq):=Cf (Below.refl _ _) _;generalize wr.drewN nq=wa at *
     have j:Below (w.heap.size+3) W wa:=zC.trans (H.mono (Zm f zC.size));have zA:=Ag yD H;have zG:w.heap.size+3<=wa.heap.size:=Zm f j.size;have yH:M<wa.heap.size:=by omega
     clear E F o D v0 p r t u y z;obtain⟨v0,p,r,t,u,y,z,S⟩:=BG (l.o _ j).1;obtain⟨o,D⟩:=Aa.c2 ((l.o _ j).2.1) 1 2;obtain⟨E,F⟩:=U.o wa j;go_wp2;go_quiet (fail);have H:Below wa.heap.size wa (wa.drewN nq):=Cf (Below.refl _ _) _;generalize wa.drewN nq=wb at *
     have Q:Below (w.heap.size+3) W wb:=j.trans (H.mono (Zm f j.size));have zR:=Ag zA H;have zV:w.heap.size+3<=wb.heap.size:=Zm f Q.size;have xG:M<wb.heap.size:=by omega
     clear E F o D v0 p r t u y z;obtain⟨v0,p,r,t,u,y,z,S⟩:=BG (l.o _ Q).1;obtain⟨o,D⟩:=Aa.c2 ((l.o _ Q).2.1) 1 2;obtain⟨E,F⟩:=U.o wb Q;obtain⟨Y,m,wc,C,B,A,_⟩:=IK wb (w.heap.size+3) _ gk zR x (by first|omega|(simp;omega)) zV 40;have h:Below (w.heap.size+3) W wc:=Q.trans ((Below.refl _ _).grown A zV (fun q e=>(Ac zR e).1));have yJ:w.heap.size+3<=wc.heap.size:=Zm f h.size
     have yI:M<wc.heap.size:=by omega
     have zB:=B;clear B A;go_wp2_with (at_builtin;refine wpList_append_run rfl _ _ 40 40 rfl rfl rfl C ?_);clear C;clear E F o D v0 p r t u y z;obtain⟨v0,p,r,t,u,y,z,S⟩:=BG (l.o _ h).1;obtain⟨o,D⟩:=Aa.c2 ((l.o _ h).2.1) 1 2;obtain⟨E,F⟩:=U.o wc h;have K:=Yx (Zn zB h);clear zB h;go_wp2
     exact⟨⟨k+1,Y,m,by omega,by go_num,by rw[zI.o],by rw[HE.o];simp,⟨by rw[HE.o];simpa using K.o.1,K.o.2⟩⟩,by simp[intOf];omega⟩
    |false=>
     have yA:=Yx (zN.o rfl hless);have zI:Hid (DM (d.take (k+1)) n=true):=by show _=_;rw[HD.o];unfold less;rw[hless];rfl
     by_cases L:x.name=n
     ·have zJ:(x.name.toList==n.toList)=true:=by rw[L];simp
      have Z:(x.name.toList !=n.toList)=false:=by rw[L];simp
      have HE:Hid (BY (d.take (k+1)) n s=gk++[⟨n,s⟩]):=by show _=_;rw[yA.o,if_pos L,List.append_nil]
      clear G zN J L P yA;go_wp2;go_quiet (fail);have H:Below wr.heap.size wr (wr.drewN nq):=Cf (Below.refl _ _) _;generalize wr.drewN nq=wa at *
      have j:Below (w.heap.size+3) W wa:=zC.trans (H.mono (Zm f zC.size));have zA:=Ag yD H;have zG:w.heap.size+3<=wa.heap.size:=Zm f j.size;have yH:M<wa.heap.size:=by omega
      clear E F o D v0 p r t u y z;obtain⟨v0,p,r,t,u,y,z,S⟩:=BG (l.o _ j).1;obtain⟨o,D⟩:=Aa.c2 ((l.o _ j).2.1) 1 2;obtain⟨E,F⟩:=U.o wa j;obtain⟨Y,m,wc,C,B,A,_⟩:=IK wa (w.heap.size+3) _ gk zA ⟨n,s⟩ (by first|omega|(simp;omega)) zG 40;have h:Below (w.heap.size+3) W wc:=j.trans ((Below.refl _ _).grown A zG (fun q e=>(Ac zA e).1));have yJ:w.heap.size+3<=wc.heap.size:=Zm f h.size
      have yI:M<wc.heap.size:=by omega
      have zB:=B;clear B A;go_wp2_with (at_builtin;refine wpList_append_run rfl _ _ 40 40 rfl rfl rfl C ?_);clear C;clear E F o D v0 p r t u y z;obtain⟨v0,p,r,t,u,y,z,S⟩:=BG (l.o _ h).1;obtain⟨o,D⟩:=Aa.c2 ((l.o _ h).2.1) 1 2;obtain⟨E,F⟩:=U.o wc h;go_wp2;go_quiet (fail);have H:Below wc.heap.size wc (wc.drewN nq):=Cf (Below.refl _ _) _;generalize wc.drewN nq=I at *
      have N:Below (w.heap.size+3) W I:=h.trans (H.mono (Zm f h.size));have zS:=Ag zB H;have yK:w.heap.size+3<=I.heap.size:=Zm f N.size;have xH:M<I.heap.size:=by omega
      clear E F o D v0 p r t u y z;obtain⟨v0,p,r,t,u,y,z,S⟩:=BG (l.o _ N).1;obtain⟨o,D⟩:=Aa.c2 ((l.o _ N).2.1) 1 2;obtain⟨E,F⟩:=U.o I N;have K:=Yx (Zn zS N);clear zS N;go_wp2;exact⟨⟨k+1,Y,m,by omega,by go_num,by rw[zI.o],by rw[HE.o];simp,⟨by rw[HE.o];simpa using K.o.1,K.o.2⟩⟩,by simp[intOf];omega⟩
     ·have zJ:(x.name.toList==n.toList)=false:=Ca L;have Z:(x.name.toList !=n.toList)=true:=by simp[bne,zJ]
      have HE:Hid (BY (d.take (k+1)) n s=(gk++[⟨n,s⟩])++[x]):=by show _=_;rw[yA.o,if_neg L]
      clear G zN J L P yA;go_wp2;go_quiet (fail);have H:Below wr.heap.size wr (wr.drewN nq):=Cf (Below.refl _ _) _;generalize wr.drewN nq=wa at *
      have j:Below (w.heap.size+3) W wa:=zC.trans (H.mono (Zm f zC.size));have zA:=Ag yD H;have zG:w.heap.size+3<=wa.heap.size:=Zm f j.size;have yH:M<wa.heap.size:=by omega
      clear E F o D v0 p r t u y z;obtain⟨v0,p,r,t,u,y,z,S⟩:=BG (l.o _ j).1;obtain⟨o,D⟩:=Aa.c2 ((l.o _ j).2.1) 1 2;obtain⟨E,F⟩:=U.o wa j;obtain⟨Y,m,wc,C,B,A,_⟩:=IK wa (w.heap.size+3) _ gk zA ⟨n,s⟩ (by first|omega|(simp;omega)) zG 40;have h:Below (w.heap.size+3) W wc:=j.trans ((Below.refl _ _).grown A zG (fun q e=>(Ac zA e).1));have yJ:w.heap.size+3<=wc.heap.size:=Zm f h.size
      have yI:M<wc.heap.size:=by omega
      have zB:=B;clear B A;go_wp2_with (at_builtin;refine wpList_append_run rfl _ _ 40 40 rfl rfl rfl C ?_);clear C;clear E F o D v0 p r t u y z;obtain⟨v0,p,r,t,u,y,z,S⟩:=BG (l.o _ h).1;obtain⟨o,D⟩:=Aa.c2 ((l.o _ h).2.1) 1 2;obtain⟨E,F⟩:=U.o wc h;go_wp2;go_quiet (fail);have H:Below wc.heap.size wc (wc.drewN nq):=Cf (Below.refl _ _) _;generalize wc.drewN nq=I at *
      have N:Below (w.heap.size+3) W I:=h.trans (H.mono (Zm f h.size));have zS:=Ag zB H;have yK:w.heap.size+3<=I.heap.size:=Zm f N.size;have xH:M<I.heap.size:=by omega
      clear E F o D v0 p r t u y z;obtain⟨v0,p,r,t,u,y,z,S⟩:=BG (l.o _ N).1;obtain⟨o,D⟩:=Aa.c2 ((l.o _ N).2.1) 1 2;obtain⟨E,F⟩:=U.o I N;obtain⟨g9,yL,we,zZ,zX,zW,_⟩:=IK I (w.heap.size+3) _ (gk++[⟨n,s⟩]) zS x (by first|omega|(simp;omega)) yK 40;have zK:Below (w.heap.size+3) W we:=N.trans ((Below.refl _ _).grown zW yK (fun q e=>(Ac zS e).1));have xT:w.heap.size+3<=we.heap.size:=Zm f zK.size
      have xR:M<we.heap.size:=by omega
      have yX:=zX;clear zX zW;go_wp2_with (at_builtin;refine wpList_append_run rfl _ _ 40 40 rfl rfl rfl zZ ?_);clear zZ;clear E F o D v0 p r t u y z;obtain⟨v0,p,r,t,u,y,z,S⟩:=BG (l.o _ zK).1;obtain⟨o,D⟩:=Aa.c2 ((l.o _ zK).2.1) 1 2;obtain⟨E,F⟩:=U.o we zK;have K:=Yx (Zn yX zK);clear yX zK;go_wp2
      exact⟨⟨k+1,g9,yL,by omega,by go_num,by rw[zI.o],by rw[HE.o];simp,⟨by rw[HE.o];simpa using K.o.1,K.o.2⟩⟩,by simp[intOf];omega⟩
  ·obtain rfl:k=d.length:=by omega
   have hO:=P.o.1;rw[Zt (Zx)]at hO ⊢;have T:Hid (Zz w wr):=zP;cases hDn:DM d n with
   |true=>
    have zF:=Vh n s hDn;rw[zF]at hO ⊢;have K:=Yx hO;have xC:=Kx d n s;rw[zF]at xC;have f5:=((l.o _ P.o.2).1 5 _ rfl).2;obtain⟨⟨y0,q0⟩,⟨y1,q1⟩,⟨y2,q2⟩,⟨y3,q3⟩,⟨y4,q4⟩,⟨y5,q5⟩,⟨y6,q6⟩,⟨y7,q7⟩,⟨y8,q8⟩,⟨y9,q9⟩,⟨zT,xI⟩,zU,xJ⟩:=AZ (l.o _ P.o.2).2.2;clear hDn zF zP P o D;by_cases hbig:100<(Bw d n s).length
    ·have Z:(100:Int)<((Bw d n s).length:Int):=by omega
     have zE:Hid (100<(Bw d n s).length):=hbig;clear hbig hO;go_wp2;refine bodyPost_ret (v:=.agg (Yk 4)) (by simp[results,results82,go_sem,y0,y1,y2,y3,y4,y5,y6,y7,y8,y9,zT,zU]) rfl ?_;exact⟨T.o.trans (Tn.below (Bq wr (w.heap.size+2) _ _ _ _ _ _ _ _ _ _ _ _) T.o.size (by intro v hv;simp at hv;omega)),.inl ⟨zE.o,rfl⟩⟩
    ·have Z:¬(100:Int)<((Bw d n s).length:Int):=by omega
     have zE:Hid ((Bw d n s).length<=100):=by show _<=_;omega
     clear hbig hO;go_wp2;refine bodyPost_ret (v:=.agg #[Zf,Zg I,Zg R,Zg given,Zg ae,.slice ta O.length tc,Za g (Bw d n s).length c,.slice la ln lc,Zd,Zf,Zd,Zd]) (by simp[results,results82,go_sem,y0,y1,y2,y3,y4,y5,y6,y7,y8,y9,zT,zU]) rfl ?_
     have T':=(Tn.set (V:=[w.heap.size,w.heap.size+2]) wr w.heap.size 5 (Za g (Bw d n s).length c) (by simp)).trans (Tn.mono (Bq (wr.setCell (Ze (w.heap.size) 5) (Za g (Bw d n s).length c)) (w.heap.size+2) Zf (Zg I) (Zg R) (Zg given) (Zg ae) (.slice ta O.length tc) (Za g (Bw d n s).length c) (.slice la ln lc) Zd Zf Zd Zd) (by simp))
     exact⟨T.o.trans (T'.below T.o.size (by intro v hv;simp at hv;omega)),.inr ⟨zE.o,g,c,rfl,(Ak K.o (fun q Z=>T'.block q (Ac K.o Z).2 (by have:=(Ac K.o Z).1;simp;omega))).mono (by omega)⟩⟩
   |false=>
    have xM:=Kx d n s;have zF:=WO n s hDn;obtain⟨Y,m,w8,yV,yF,yT,xE⟩:=IK wr (w.heap.size+3) _ (BY d n s) hO ⟨n,s⟩ (by omega) yG 40;have b8:Below (w.heap.size+3) wr w8:=(Below.refl _ _).grown yT yG (fun q e=>(Ac hO e).1);have yB:Below (w.heap.size+3) W w8:=P.o.2.trans b8;have T:Hid (Zz w w8):=T.o.trans (b8.mono (by omega))
    have zO:Hid ((Bw d n s).length=(BY d n s).length+1):=by show _=_;rw[←zF];simp
    rw[zF,zO.o]at yF;have K:=Yx yF;have f5:=((l.o _ yB).1 5 _ rfl).2;obtain⟨⟨y0,q0⟩,⟨y1,q1⟩,⟨y2,q2⟩,⟨y3,q3⟩,⟨y4,q4⟩,⟨y5,q5⟩,⟨y6,q6⟩,⟨y7,q7⟩,⟨y8,q8⟩,⟨y9,q9⟩,⟨zT,xI⟩,zU,xJ⟩:=AZ (l.o _ yB).2.2;obtain⟨z0,z1,z2,z3,z4,z5,z6,z7⟩:=BG (l.o _ yB).1;clear hDn zF zP P b8 yT xE yF yB hO;by_cases hbig:100<((BY d n s).length+1)
    ·have Z:(100:Int)<((BY d n s).length:Int)+1:=by omega
     have zE:Hid (100<(Bw d n s).length):=by show _<_;rw[zO.o];exact hbig
     clear hbig;go_wp2_with (at_builtin;refine wpList_append_run rfl _ _ 40 40 rfl rfl rfl yV ?_);refine bodyPost_ret (v:=.agg (Yk 4)) (by simp[results,results82,go_sem,y0,y1,y2,y3,y4,y5,y6,y7,y8,y9,zT,zU]) rfl ?_;exact⟨T.o.trans (Tn.below (Bq w8 (w.heap.size+2) _ _ _ _ _ _ _ _ _ _ _ _) T.o.size (by intro v hv;simp at hv;omega)),.inl ⟨zE.o,rfl⟩⟩
    ·have Z:¬(100:Int)<((BY d n s).length:Int)+1:=by omega
     have xQ:¬(100:Int)<(((BY d n s).length+1:Nat):Int):=by omega
     have zE:Hid ((Bw d n s).length<=100):=by show _<=_;rw[zO.o];omega
     clear hbig;go_wp2_with (at_builtin;refine wpList_append_run rfl _ _ 40 40 rfl rfl rfl yV ?_);refine bodyPost_ret (v:=.agg #[Zf,Zg I,Zg R,Zg given,Zg ae,.slice ta O.length tc,Za Y ((BY d n s).length+1) m,.slice la ln lc,Zd,Zf,Zd,Zd]) (by simp[results,results82,go_sem,y0,y1,y2,y3,y4,y5,y6,y7,y8,y9,zT,zU]) rfl ?_
     have T':=(Tn.set (V:=[w.heap.size,w.heap.size+2]) w8 w.heap.size 5 (Za Y ((BY d n s).length+1) m) (by simp)).trans (Tn.mono (Bq (w8.setCell (Ze (w.heap.size) 5) (Za Y ((BY d n s).length+1) m)) (w.heap.size+2) Zf (Zg I) (Zg R) (Zg given) (Zg ae) (.slice ta O.length tc) (Za Y ((BY d n s).length+1) m) (.slice la ln lc) Zd Zf Zd Zd) (by simp))
     have xB:=(Ak K.o (fun q Z=>T'.block q (Ac K.o Z).2 (by have:=(Ac K.o Z).1;simp;omega))).mono (show w.heap.size<=w.heap.size+3 by omega);refine⟨T.o.trans (T'.below T.o.size (by intro v hv;simp at hv;omega)),.inr ⟨zE.o,Y,m,by rw[zO.o],?_⟩⟩;rw[zO.o];exact xB
def WQ(w w':Zh)(e:Ending)(wd now given ae:Int)(T P L:Value)(ls:List Ld)(s:Zi)(hold:Int)(base:Nat):Prop:=
 Tn L.ownBlock.toList w w'/\(((200<=ls.length∨1000000000<=given)/\e=.returned (.agg #[Zg 4,Zf,Zf,Zf,Zf,Zc,Zc,Zc,Zd,Zf,Zd,Zd]))∨
  ((ls.length<200/\given<1000000000)/\∃g c,e=.returned (.agg #[Zf,Zg wd,Zg now,Zg (given+1),Zg ae,T,P,.slice (some ⟨g,0,none⟩) (ls.length+1) c,Zd,Zg (given+1),Zd,Zd])/\w'.ownsRow base 144 3 (.slice (some ⟨g,0,none⟩) (ls.length+1) c) (ls++[(⟨given+1,s,now+hold⟩:Ld)]).length (Ab lC (ls++[(⟨given+1,s,now+hold⟩:Ld)]))/\(L.ownBlock=some g∨w.heap.size<=g)))
theorem Gh(p d given ae:Int)(n k f:Zk)(tn o m l i base:Nat)(a:List Ld)(s:Zi)(hold:Int)(w:Zh)(H:w.ownsRow base 144 3 (.slice f a.length i) a.length (Ab lC a))(zA:base<=w.heap.size)(hl:a.length<=1000)(zO:0<=given)(zP:given<=1000000000)(zG:0<=d)(zH:d<=1000000000)(zI:0<=hold)(zJ:hold<=1000000000):
 Calls prog 85 #[.agg (Ys p d given ae n tn o k m l f a.length i),.string s,Zg hold] w fun e w'=>WQ w w' e p d given ae (.slice n tn o) (.slice k m l) (.slice f a.length i) a s hold base:=by
 obtain⟨W,j⟩:∃W,W=(w.alloc (.cells (Ys p d given ae n tn o k m l f a.length i) 43)).alloc (.cells Yl 90):=⟨_,rfl⟩;have z:=(Bj j).1;have Q:=(Bj j).2.1;have x:=(Bj j).2.2.1;have L:Aa W (w.heap.size+1) z12:=by have h1:=Aa.new (w.alloc (.cells (Ys p d given ae n tn o k m l f a.length i) 43)) z12 90;rw[World.size_alloc]at h1;rw[j];exact h1
 have F:=Yx j;have HB:=Yx z;by_cases hfull:200<=a.length∨1000000000<=given
 ·obtain⟨⟨U,q0⟩,⟨Y,q1⟩,⟨Z,q2⟩,⟨y3,q3⟩,⟨y4,q4⟩,⟨y5,q5⟩,⟨y6,q6⟩,⟨y7,q7⟩,⟨y8,q8⟩,⟨y9,q9⟩,⟨D,zK⟩,E,zM⟩:=AZ L;obtain⟨v0,v1,v2,v3,v4,v5,v6,v7⟩:=BG x;have HF:=Yx hfull;have A:(decide ((200:Int)<=(a.length:Int))=true)∨(decide ((200:Int)<=(a.length:Int))=false/\decide ((1000000000:Int)<=given)=true):=by
   by_cases h:200<=a.length
   ·left;simp;omega
   ·right;refine⟨by simp;omega,?_⟩;rcases hfull with S|S
    ·exact absurd S h
    ·simpa using S
  clear j x L z Q hfull H;rcases A with A|⟨A,zN⟩
  all_goals
   go_enter func85,ntmps85;go_upto_region 1 with fail;rw[←F.o];clear F;go_wp2;refine bodyPost_ret (v:=.agg (Yk 4)) (by simp[results,results85,go_sem,U,Y,Z,y3,y4,y5,y6,y7,y8,y9,D,E]) rfl ?_;exact⟨Tn.of (HB.o.trans (Tn.below (Bq W (w.heap.size+1) _ _ _ _ _ _ _ _ _ _ _ _) HB.o.size (by intro v T;simp at T;omega))),.inl ⟨HF.o,rfl⟩⟩
 ·have zF:a.length<200/\given<1000000000:=by omega
  obtain⟨X,G⟩:∃X,X=W.setCell (Ze (w.heap.size) 2) (Zg (given+1)):=⟨_,rfl⟩;have I:Tn [w.heap.size] W X:=by rw[G];exact EA _ _ _ _
  have J:Aa X w.heap.size (Yt p d (given+1) ae n tn o k m l f a.length i):=by rw[G];exact x.set 2 _
  have u1:=Aa.same L (I.block _ (by omega) (by simp));have B:=z.trans (I.below z.size (by simp));have du:∀g,(Value.slice f a.length i).ownBlock=some g->g<w.heap.size:=fun g hg=>(Ac H hg).2;have P:=Ag H B;have zV:w.heap.size+2<=X.heap.size:=by have:=I.size;omega
  obtain⟨g,c,K,C,O,t,N⟩:=Nz X base _ a P (⟨given+1,s,d+hold⟩:Ld) (by omega) (by omega) 41;dsimp only at C;have R:=Aa.same J (t.block _ J.lt (fun e=>by have:=du _ e.symm;omega));have e1:=Aa.same u1 (t.block _ (by omega) (fun e=>by have:=du _ e.symm;omega));obtain⟨c2,f2⟩:=x 2 _ rfl;obtain⟨c6,_⟩:=x 6 _ rfl;obtain⟨d1,d2,d6⟩:=Aa.c3 J 1 2 6;obtain⟨i0,i1,i2,i3,i4,i5,i6,i7⟩:=BG R
  obtain⟨⟨U,q0⟩,⟨Y,q1⟩,⟨Z,q2⟩,⟨y3,q3⟩,⟨y4,q4⟩,⟨y5,q5⟩,⟨y6,q6⟩,⟨y7,q7⟩,⟨y8,q8⟩,⟨y9,q9⟩,⟨D,zK⟩,E,zM⟩:=AZ e1;have k6:=(R 6 _ rfl).2;have zU:=Hb zG zH zI zJ;have zS:¬((200:Int)<=(a.length:Int)):=by omega
  have zT:¬((1000000000:Int)<=given):=by omega
  have M:=Yx G;have y:=Yx (Zb O (Zb t N));have zB:=Yx B;have zE:=Yx du;have zC:=Yx zF;clear j G x L J u1 I R e1 z Q P H O t N B du hfull;go_enter func85,ntmps85;go_upto_region 1 with fail;rw[←F.o];clear F;go_upto_region 4 with fail;rw[←M.o];clear M c2 f2 c6;go_wp2_with (at_builtin;refine wpList_append_run rfl _ _ 41 41 rfl rfl rfl C ?_);clear C d1 d2 d6;go_wp2
  refine bodyPost_ret (v:=.agg #[Zf,Zg p,Zg d,Zg (given+1),Zg ae,.slice n tn o,.slice k m l,Za g (a.length+1) c,Zd,Zg (given+1),Zd,Zd]) (by simp[results,results85,go_sem,U,Y,Z,y3,y4,y5,y6,y7,y8,y9,D,E]) rfl ?_
  have r:=(Tn.set (V:=[w.heap.size,w.heap.size+1]) K w.heap.size 6 (Za g (a.length+1) c) (by simp)).trans (Tn.mono (Bq (K.setCell (Ze (w.heap.size) 6) (Za g (a.length+1) c)) (w.heap.size+1) Zf (Zg p) (Zg d) (Zg (given+1)) (Zg ae) (.slice n tn o) (.slice k m l) (Za g (a.length+1) c) Zd (Zg (given+1)) Zd Zd) (by simp));have u:=(Tn.of zB.o).trans (CG y.o.2.1)
  have zR:g<w.heap.size∨w.heap.size+2<=g:=by
   rcases y.o.2.2 with e|e
   ·exact .inl (zE.o g e)
   ·exact .inr (by omega)
  refine⟨⟨r.os.trans u.os,r.tape.trans u.tape,r.output.trans u.output,Zm u.size r.size,fun b hb T=>(r.block b (Zr hb u.size) (by simp;omega)).trans (u.block b hb T)⟩,.inr ⟨zC.o,g,c,rfl,Ak y.o.1 (fun q hq=>r.block q (Ac y.o.1 hq).2 ?_),?_⟩⟩
  ·obtain rfl:g=q:=by simpa [Value.ownBlock]using hq
   simp;omega
  ·rcases y.o.2.2 with e|e
   ·exact .inl e
   ·exact .inr (by omega)
theorem Lw(w:Zh)(base:Nat)(v:Value)(b:List (Kd×Value))(A:w.ownsRow base 137 4 v b.length (Ab kC b))(z:Kd×Value)(C:∃a n c,z.2=.slice a n c)(y:b.length<=1000000)(l:base<=w.heap.size)(m:TypeId):
 ∃g d h,(Builtin.append_ #[39,39] m #[v,Za w.heap.size 1 1]).run prog (w.alloc (.cells #[.string z.1.sum,Zg z.1.born,.string z.1.text,z.2] 137))=.ok (Za g (b.length+1) d) h/\h.ownsRow base 137 4 (Za g (b.length+1) d) (b++[z]).length (Ab kC (b++[z]))/\w.grownBy h v.ownBlock/\(v.ownBlock=some g∨g=w.heap.size+1):=by
 obtain⟨D,x,p,q,r⟩:=info_parts GR;have o:=Ag A ((Below.refl _ _).alloc (Zx) (.cells #[.string z.1.sum,Zg z.1.born,.string z.1.text,z.2] 137));have t:∀j u,(Ab kC [z])[j]?=some u->(w.alloc (.cells #[.string z.1.sum,Zg z.1.born,.string z.1.text,z.2] 137)).cell? ((⟨w.heap.size,0,none⟩:Addr).add j)=some u:=by intro j u i;rw[Go.WideShapes.add_plain,Nat.zero_add];exact(Aa.new w [.string z.1.sum,Zg z.1.born,.string z.1.text,z.2] 137 j u (by simpa [Ab,kC]using i)).1
 obtain⟨E,h,B,k,s,_,f⟩:=run_append_own_at (P:=prog) (w.alloc (.cells #[.string z.1.sum,Zg z.1.born,.string z.1.text,z.2] 137)) base 39 m 137 D _ 4 64 underlying39 x p q r rfl (by decide) v b.length (Ab kC b) o ⟨w.heap.size,0,none⟩ 1 1 (Ab kC [z]) (by simp[Ab,kC]) t (by intro u i;obtain⟨a,n,c,e⟩:=C;simp[Ab,kC,e]at i;rcases i with rfl|rfl|rfl|rfl<;>rfl) (by unfold maxLen;omega) (by omega) (by simp;omega)
 obtain⟨g,d,rfl,_,_⟩:=Cp k (fun e=>by subst e;rcases k.2 with⟨_,y⟩|⟨_,_,_,e,_⟩<;>first|omega|cases e);refine⟨g,d,h,B,?_,(World.grownBy_alloc w _ _).trans s,?_⟩
 ·rw[Ih,List.length_append];exact k
 ·rcases f with f|f
  ·exact .inl f.symm
  ·right;simpa [Value.ownBlock]using f
def zD(zs:List (Kd×Value))(s:Zi):Bool:= !(zs.all (fun z=>less z.1.sum s))
def zQ(zs:List (Kd×Value))(one:Kd×Value):List (Kd×Value):=zs.filter (fun z=>less z.1.sum one.1.sum)++(if zD zs one.1.sum then [one]else [])++zs.filter (fun z=> !(less z.1.sum one.1.sum))
def BI(zs:List (Kd×Value))(one:Kd×Value):List (Kd×Value):=zs.filter (fun z=>less z.1.sum one.1.sum)++[one]++zs.filter (fun z=> !(less z.1.sum one.1.sum))
theorem OI(a:List (Kd×Value))(one:Kd×Value):(BI a one).map (·.1)=DL (a.map (·.1)) one.1:=by unfold BI DL;rw[List.map_append,List.map_append,List.filter_map,List.filter_map];rfl
theorem FZ{a:List (Kd×Value)}{one z:Kd×Value}(h:z∈BI a one):z∈a∨z=one:=by
 unfold BI at h;simp only[List.mem_append,List.mem_filter,List.mem_singleton]at h;rcases h with(h|h)|h
 ·exact .inl h.1
 ·exact .inr h
 ·exact .inl h.1
theorem JK{a:List (Kd×Value)}{k:Nat}{x:Kd×Value}(s:Zi)(c:a[k]?=some x):zD (a.take (k+1)) s=(zD (a.take k) s|| !(less x.1.sum s)):=by obtain⟨b,rfl⟩:=Zw c;unfold zD;rw[Zu b,List.all_append];simp
theorem IL{a:List (Kd×Value)}{s:Zi}(h:zD a s=false):a.filter (fun z=> !(less z.1.sum s))=[]:=by
 rw[List.filter_eq_nil_iff];intro x b;have:less x.1.sum s=true:=by unfold zD at h;simp only[Bool.not_eq_false']at h;exact List.all_eq_true.1 h x b
 simp[this]
theorem Vi{a:List (Kd×Value)}{k:Nat}{x:Kd×Value}(one:Kd×Value)(e:a[k]?=some x)(c:zD (a.take k) one.1.sum=false)(d:less x.1.sum one.1.sum=true):zQ (a.take (k+1)) one=zQ (a.take k) one++[x]:=by have b:=JK one.1.sum e;rw[c,d]at b;unfold zQ;rw[IL c,IL (by rw[b];rfl),b,c];obtain⟨f,rfl⟩:=Zw e;rw[Zu f,List.filter_append];simp[d]
theorem ZF{a:List (Kd×Value)}{k:Nat}{x:Kd×Value}(one:Kd×Value)(f:a[k]?=some x)(b:zD (a.take k) one.1.sum=false)(e:less x.1.sum one.1.sum=false):zQ (a.take (k+1)) one=zQ (a.take k) one++[one]++[x]:=by have c:=JK one.1.sum f;rw[b,e]at c;have d:=IL b;unfold zQ;rw[d,c,b];obtain⟨g,rfl⟩:=Zw f;rw[Zu g,List.filter_append,List.filter_append,d];simp[e]
theorem WR{c:List (Kd×Value)}{k:Nat}{x:Kd×Value}(one:Kd×Value)(f:(c.map (·.1.sum)).Pairwise (fun a b=>less a b=true))(n:c[k]?=some x)(g:zD (c.take k) one.1.sum=true):zQ (c.take (k+1)) one=zQ (c.take k) one++[x]:=by
 have m:=JK one.1.sum n;rw[g,Bool.true_or]at m;obtain⟨i,rfl⟩:=Zw n;obtain⟨y,r,l⟩:∃y∈c.take k,less y.1.sum one.1.sum=false:=by unfold zD at g;simpa using g
 obtain⟨j,p⟩:=List.getElem?_of_mem r;obtain⟨o,e⟩:=Zw p;rw[List.length_take]at o;rw[List.getElem_take]at e;have d:=List.pairwise_iff_getElem.1 f j k (by simp;omega) (by simpa using i) (by omega);rw[List.getElem_map,List.getElem_map,e]at d;have q:less c[k].1.sum one.1.sum=false:=by
  cases h:less c[k].1.sum one.1.sum with
  |false=>rfl
  |true=>rw[CD d h]at l;cases l
 unfold zQ;rw[m,g,Zu i,List.filter_append,List.filter_append];simp[q]
theorem YF{a:List (Kd×Value)}(one:Kd×Value)(b:zD a one.1.sum=true):zQ a one=BI a one:=by unfold zQ BI;rw[b];rfl
theorem ZG{a:List (Kd×Value)}(one:Kd×Value)(b:zD a one.1.sum=false):zQ a one++[one]=BI a one:=by unfold zQ BI;rw[b,IL b];simp
theorem TE(a:List (Kd×Value))(one:Kd×Value):(zQ a one).length<=a.length+1:=by
 have h:∀(l:List (Kd×Value)),(l.filter (fun z=>less z.1.sum one.1.sum)).length+(l.filter (fun z=> !(less z.1.sum one.1.sum))).length=l.length:=by
  intro l;induction l with
  |nil=>rfl
  |cons y l ih=>cases hl:less y.1.sum one.1.sum<;>simp[hl]<;>omega
 have:=h a;unfold zQ;rw[List.length_append,List.length_append];split<;>simp<;>omega
theorem LY{a:List Kd}{s:Zi}(h:Ay a s):∃(i:Nat) (k:Kd),CR a s=(i:Int)/\a[i]?=some k/\k.sum=s:=by
 rcases Fc a s with⟨_,d⟩|⟨i,k,e,b,c⟩
 ·exact absurd h d
 ·exact⟨i,k,e,b,c⟩
theorem Iu{a:List Kd}{s:Zi}(h:¬Ay a s):CR a s<0:=by
 rcases Fc a s with⟨e,_⟩|⟨i,k,e,b,c⟩
 ·omega
 ·exact absurd ⟨k,Zs b,c⟩ h
end Go.Proofs.YtckmnfhmoankmaaGreatDoor
