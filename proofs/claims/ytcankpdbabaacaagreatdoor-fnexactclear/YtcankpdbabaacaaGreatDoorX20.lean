import Derived.Test.YtcankpdbabaacaaGreatDoorX19
import Derived.Laws.ResultCell
set_option maxRecDepth 100000
set_option maxHeartbeats 16000000
namespace Go.Proofs.YtcankpdbabaacaaGreatDoor
open Go.ChangeShapes Go.WideShapes Go.ChangeAt Go.RowKit _root_.Go.Proofs.Tryz
variable{w e c X:Zh}{i b B f n lo L N:Nat}{d:Int}{g l:Zj}{Q M:Value}{a:Zl}{P:Program}
def Cm(w:Zh)(b:Nat)(ph:Int)(Q M:Value)(top at_ ro:Int):Prop:=
 w.cell? ⟨b,0,none⟩=some (.int .i64 ph)/\w.cell? ⟨b,1,none⟩=some Q/\w.cell? ⟨b,2,none⟩=some M/\w.cell? ⟨b,3,none⟩=some (.int .i64 top)/\
  w.cell? ⟨b,4,none⟩=some (.int .i64 at_)/\w.cell? ⟨b,5,none⟩=some (.int .i64 ro)/\b<w.heap.size
theorem Cm.new(w:Zh)(c b a d:Int)(Q M:Value)(t:TypeId):Cm (w.alloc (.cells #[Zg c,Q,M,Zg b,Zg a,Zg d] t)) w.heap.size c Q M b a d:=
 ⟨Yv,Yv,Yv,Yv,Yv,Yv,Yv⟩
theorem Cm.ah{i:Zh}{f e g:Int}(h:Cm w b f Q M e d g)(a:Below B w i)(c:b<B):Cm i b f Q M e d g:=by
 obtain⟨j,k,l,m,n,o,q⟩:=h;exact⟨(a.cell (p:=⟨b,0,none⟩) c).trans j,(a.cell (p:=⟨b,1,none⟩) c).trans k,(a.cell (p:=⟨b,2,none⟩) c).trans l,(a.cell (p:=⟨b,3,none⟩) c).trans m,
  (a.cell (p:=⟨b,4,none⟩) c).trans n,(a.cell (p:=⟨b,5,none⟩) c).trans o,Zr q a.size⟩
theorem Cm.below{f:Zh}{c a e:Int}(h:Cm w b d Q M c a e)(g:Zz w f):Cm f b d Q M c a e:=h.ah g h.2.2.2.2.2.2
theorem Rh(a:Zk)(cap:Nat)(b:Zl)(left:Int)(w:Zh)(B:Nat)(c:Ad w B a b)(i:b.length<=maxLen)(j:∀s∈b,s.size<=maxLen)(g:0<=left)(f:left<=1048576):
 Calls prog 36 #[.slice a b.length cap,Zg left] w fun e d=>∃r:Int,e=.returned (Zg r)/\d=w/\r<=left/\(0<=r->b.length<=1048576):=by
 by_cases hfit:(b.length:Int)+ax b<=left
 .refine(IE a cap b left w B c f hfit).mono ?_;rintro e d ⟨rfl,rfl⟩;exact⟨_,rfl,rfl,Yw,fun _=>by omega⟩
 .refine(Lf a cap b left w B c i j g f Yw).mono ?_;rintro e d ⟨rfl,rfl⟩;exact⟨_,rfl,rfl,Yw,fun h=>by omega⟩
structure IC (qs ms:Zl):Prop where
 q:qs.length<=1048576
 m:ms.length<=1048576
theorem Qw(l i g m:Int)(a b:Zk)(j k:Nat)(d c:Zl)(left:Int)(w:Zh)(v:Ad w w.heap.size a d)(u:Ad w w.heap.size b c)(t:d.length<=maxLen)(x:∀s∈d,s.size<=maxLen)(p:c.length<=maxLen)(q:∀s∈c,s.size<=maxLen)(B:0<=left)(C:left<=1048576):
 Calls prog 15 #[.agg (Ya l a d.length j b c.length k i g m),Zg left] w fun e z=>∃r:Int,e=.returned (Zg r)/\Zz w z/\(0<=r->IC d c):=by
 have f:Below w.heap.size w (w.alloc (.cells (Ya l a d.length j b c.length k i g m) 31)):=Zy;go_enter func15,ntmps15;go_wp2_with fail;refine(Rh a j d _ _ w.heap.size (v.below f) t x Yw Yw).mono ?_;rintro e E ⟨r,rfl,rfl,D,n⟩;by_cases h3:r<0
 .go_wp2;go_ret;exact⟨_,rfl,f,fun h=>by omega⟩
 .go_wp2_with fail;refine(Rh b k c _ _ w.heap.size (u.below f) p q Yw Yw).mono ?_;rintro e F ⟨y,rfl,rfl,A,o⟩;by_cases h4:y<0
  .go_wp2;go_ret;exact⟨_,rfl,f,fun h=>by omega⟩
  .go_wp2;go_ret;exact⟨_,rfl,f,fun _=>⟨n Yw,o Yw⟩⟩
theorem Qx(o g f p:Int)(a b j k:Zk)(r s h i:Nat)(d c:Zl)(w:Zh)(z:Ad w w.heap.size a d)(y:Ad w w.heap.size b c)(x:Ad w w.heap.size j d)(v:Ad w w.heap.size k c)(u:IC d c):
 Calls prog 29 #[.agg (Ya o a d.length r b c.length s g f p),.agg (Ya o j d.length h k c.length i g f p)] w fun e t=>e=.returned (.bool true)/\Zz w t:=by
 have l:Below w.heap.size w ((w.alloc (.cells (Ya o a d.length r b c.length s g f p) 41)).alloc (.cells (Ya o j d.length h k c.length i g f p) 41)):=(Zy).alloc Yv _;go_enter func29,ntmps29;go_wp2_with fail;refine(GX a j r h d _ _ _ (z.below l) (x.below l) u.q).mono ?_;rintro e t ⟨rfl,n,rfl⟩;have q:=Cb l n;go_wp2_with fail;refine(GX b k s i c _ _ _ (y.below q) (v.below q) u.m).mono ?_
 rintro e t ⟨rfl,m,rfl⟩;go_wp2;go_ret;exact⟨rfl,Cb l (n+m)⟩
theorem Qy(r q n t:Int)(a b:Zk)(A B:Nat)(c j:Zl)(w:Zh)(U:Ad w w.heap.size a c)(T:Ad w w.heap.size b j)(P:IC c j):
 Calls prog 23 #[.agg #[.int .i64 r,.slice a c.length A,.slice b j.length B,.int .i64 q,.int .i64 n,.int .i64 t]] w fun e L=>∃g k,e=.returned (.agg #[.int .i64 r,.slice (some ⟨g,0,none⟩) c.length c.length,.slice (some ⟨k,0,none⟩) j.length j.length,.int .i64 q,.int .i64 n,.int .i64 t])/\w.heap.size<=g/\g<k/\
  L.ownsRow w.heap.size 9 1 (.slice (some ⟨g,0,none⟩) c.length c.length) c.length (c.map Value.string)/\
  L.ownsRow w.heap.size 9 1 (.slice (some ⟨k,0,none⟩) j.length j.length) j.length (j.map Value.string)/\Zz w L:=by
 have y:Below w.heap.size w (((w.alloc (.cells #[.int .i64 r,.slice a c.length A,.slice b j.length B,.int .i64 q,.int .i64 n,.int .i64 t] 31)).alloc (.cells #[.int .i64 0,.slice none 0 0,.slice none 0 0,.int .i64 0,.int .i64 0,.int .i64 0] 41)).alloc (.cells #[.int .i64 r,.slice none 0 0,.slice none 0 0,.int .i64 0,.int .i64 0,.int .i64 0] 41)):=((Zy).alloc Yv _).alloc Yu _
 go_enter func23,ntmps23;go_wp2_with fail;refine(IF a A c _ (U.j y) P.q).mono ?_;rintro e Q ⟨g,rfl,R,s,C⟩;have D:=y.trans (C.mono Yu);obtain⟨d,z⟩:=Ke C;have V:=C.size;simp at V R;go_wp2_with fail;obtain⟨l,h⟩:∃l,l=Q.setCell ⟨w.heap.size+1+1,1,none⟩ (.slice (some ⟨g,0,none⟩) c.length c.length):=⟨_,rfl⟩;have u:Below w.heap.size w l:=by rw[h];exact D.setCell Yu _
 have zC:l.heap.size=Q.heap.size:=by rw[h];simp
 have x:l.ownsRow (w.heap.size+3) 9 1 (.slice (some ⟨g,0,none⟩) c.length c.length) c.length (c.map Value.string):=by rw[h];exact(ownsRow_setCell_below s Yv _).mono Yv
 have H:Cm l (w.heap.size+1+1) r (.slice (some ⟨g,0,none⟩) c.length c.length) (.slice none 0 0) 0 0 0:=by rw[h];exact⟨by simp[go_sem,d],by simp[go_sem,d],by simp[go_sem,d],by simp[go_sem,d],by simp[go_sem,d],by simp[go_sem,d],Yu⟩
 have I:Cm l (w.heap.size+1) 0 (.slice none 0 0) (.slice none 0 0) 0 0 0:=by rw[h];exact⟨by simp[go_sem,d],by simp[go_sem,d],by simp[go_sem,d],by simp[go_sem,d],by simp[go_sem,d],by simp[go_sem,d],Yu⟩
 have J:Cm l w.heap.size r (.slice a c.length A) (.slice b j.length B) q n t:=by rw[h];exact⟨by simp[go_sem,d],by simp[go_sem,d],by simp[go_sem,d],by simp[go_sem,d],by simp[go_sem,d],by simp[go_sem,d],Yu⟩
 have O:∀o,l.frozen? ⟨w.heap.size+1+1,o,none⟩=false:=fun o=>by rw[h];simp[go_sem,z]
 have N:∀o,l.frozen? ⟨w.heap.size+1,o,none⟩=false:=fun o=>by rw[h];simp[go_sem,z]
 rw[<-h];clear h s C d z;refine(IF b B j _ (T.j u) P.m).mono ?_;rintro e M ⟨k,rfl,hk,m,f⟩;have zB:=f.size;obtain⟨x0,x1,x2,x3,x4,x5,x6⟩:=H.below f;obtain⟨W,X,Y,Z,y4,y5,y6⟩:=I.below f;obtain⟨v0,v1,v2,v3,v4,v5,v6⟩:=J.below f;replace O:∀o,M.frozen? ⟨w.heap.size+1+1,o,none⟩=false:=fun o=>(f.frozen (p:=⟨w.heap.size+1+1,o,none⟩) Yu).trans (O o)
 replace N:∀o,M.frozen? ⟨w.heap.size+1,o,none⟩=false:=fun o=>(f.frozen (p:=⟨w.heap.size+1,o,none⟩) Yu).trans (N o);have zA:=(x.lt g rfl).2;have F:M.ownsRow (w.heap.size+3) 9 1 (.slice (some ⟨g,0,none⟩) c.length c.length) c.length (c.map Value.string):=x.kept (row:=none) ⟨f.os,f.tape,f.output,f.size,fun i S _=>f.block i S⟩ (.inr (by simp[Value.ownBlock]))
 have G:=m.mono (show w.heap.size+3<=l.heap.size by omega);have E:=u.trans (f.mono Yw);have K:Hid _:=Zn F (Zn G E);clear F G E m x H I J f D u y;go_wp2
 refine bodyPost_ret (v:=.agg #[.int .i64 r,.slice (some ⟨g,0,none⟩) c.length c.length,.slice (some ⟨k,0,none⟩) j.length j.length,.int .i64 q,.int .i64 n,.int .i64 t]) (by simp[results,results23,go_sem,W,X,Y,Z,y4,y5]) rfl ⟨g,k,rfl,Yw,Yw,?_,?_,?_⟩
 .refine World.ownsRow.mono ?_ (show w.heap.size<=w.heap.size+3 by omega)
  iterate 10 (refine ownsRow_setCell_below ?_ Yv _)
  exact K.o.1
 .refine World.ownsRow.mono ?_ (show w.heap.size<=w.heap.size+3 by omega)
  iterate 10 (refine ownsRow_setCell_below ?_ Yv _)
  exact K.o.2.1
 .iterate 10 (refine Below.setCell ?_ Yo _)
  exact K.o.2.2
section
attribute [local go_sem↓] Go.wp_at_zero Go.wp_at_succ
theorem ID(A s p D:Int)(q a:Zk)(C B z:Nat)(d:Zl)(w:Zh)(m:Ad w w.heap.size a d)(hl:d.length<=1048576):
 Calls prog 119 #[.agg (Ya A q C B a d.length z s p D)] w fun e H=>∃b c f,e=.returned (.map (some b))/\w.heap.size<=b/\AV H 183 b d.length c f/\MK d f c/\Zz w H:=by
 have M:= @run_makeMap prog;go_enter func119,ntmps119;go_wp2;obtain⟨o,h⟩:∃W,W=(w.alloc (Obj.cells (Ya A q C B a d.length z s p D) 41)).alloc (Obj.map #[] 0):=⟨_,rfl⟩;have J:Below w.heap.size w o:=by rw[h];exact(Zy).alloc Yv _
 have T:o.heap.size=w.heap.size+2:=by rw[h];simp
 have K:AV o 183 (w.heap.size+1) 0 0 (fun _=>none):=by have:=AV.new (w.alloc (Obj.cells (Ya A q C B a d.length z s p D) 41)) 183;rw[h];rw[World.size_alloc]at this;exact this
 rw[<-h];clear h M
 go_loopw [10] (fun i wr=>∃(k c:Nat) (f:Lit->Option Value),k<=d.length/\i=Zg k/\Hid (AV wr 183 (w.heap.size+1) k c f)/\Hid (MK (d.take k) f c)/\o.grownBy wr (some (w.heap.size+1))) (fun i _=>d.length -(intOf i).toNat)
 case atStart=>exact⟨0,0,_,Nat.zero_le _,rfl,K,by rw[List.take_zero];exact MK.nil,Ee _ _⟩
 case round=>
  obtain⟨k,c,f,Z,rfl,F,t,r⟩:=hrel;have l:Below w.heap.size w wr:=J.grown r Yw (by intro j P;cases P;omega);have U:=r.size;by_cases hlt:k<d.length
  .obtain⟨b,V,O,Y,G⟩:=(m.below l).at hlt;subst O;have E:Hid (d[k]?=some d[k]):=Zv hlt;have X:=G k _ E.o;clear G m;generalize d[k]=x at *
   obtain⟨n,Q,N,v,_⟩:=t.o.get (keyL x);have y:(d.take k).length=k:=Yu
   rw[y]at v;have S:IntKind.i64.wrap (n+1)=n+1:=Hi Yw Yw;go_wp2;go_region_with (first
    |(go_at_call 145;refine(Fy x _).mono ?_;rintro e R ⟨rfl,u⟩;have g:Below wr.heap.size wr R:=(Below.refl _ _).drew.trans (u.mono Yv);obtain⟨st,w3,w4,he,hl1,hl3,hs4,hm4,hg3,hg4⟩:=(F.o.ah g Yw).gx keyed underlying137 Yq GZ (CP x) (Zg (n+1));rw[Q]at he hl1 hl3;unfold goInt at he hs4))
   all_goals
    have L:o.grownBy w4 (some (w.heap.size+1)):=Aw r (Aw (Aq _ g) hg4);have HN:Hid (MK (d.take (k+1)) (upd f (keyL x) (Zg (n+1))) (if (f (keyL x)).isSome then c else c+1)):=by have:=t.o.snoc x N (by rw[y];exact v);rw[List.take_add_one,E.o];exact this
    have I:=Yx hm4;clear hm4 he hl1 hl3 hs4 hg3 hg4 g u;go_wp2;exact⟨⟨k+1,_,_,Yw,Yp,I,HN,L⟩,by simp[intOf];omega⟩
  .rw[Zt Yw]at t;obtain rfl:k=d.length:=Yw
   go_wp2;go_ret;exact⟨_,c,f,rfl,Yw,F.o,t.o,l⟩
end
section
attribute [local go_sem↓] Go.wp_at_zero Go.wp_at_succ
theorem UE(s:Zi)(a:Int)(b:Nat)(w:Zh)(f:w.cell? (Ze b 0)=some (Zg a)):
 Calls prog 151 #[.string s,Yz b] w fun e d=>e=.returned (.bool (!decide ((s.size:Int)=a)))/\d=w:=by
 go_enter func151,ntmps151;by_cases h:(s.size:Int)=a
 .have c:((s.size:Int) !=a)=false:=by simp[h]
  go_wp2;go_ret;exact⟨by simp[h],rfl⟩
 .have c:((s.size:Int) !=a)=true:=by simp[h]
  go_wp2;go_ret;exact⟨by simp[h],rfl⟩
theorem NO(a:Zk)(cap b:Nat)(c:Zl)(d:Int)(w:Zh)(B:Nat)(g:Ad w B a c)(G:c.length<=1048576)(v:w.cell? (Ze b 0)=some (Zg d)):
 Calls prog 188 #[.slice a c.length cap,.func (.func 151) #[] #[Yz b]] w fun e z=>∃r:Int,e=.returned (Zg r)/\(0<=r↔∃s∈c,¬(s.size:Int)=d)/\z=w:=by
 go_enter func188,ntmps188;go_wp2
 go_loop [8] (fun i=>∃k:Nat,k<=c.length/\i=Zg k/\Hid (∀j x,j<k->c[j]?=some x->(x.size:Int)=d)) (fun i=>c.length -(intOf i).toNat)
 case atStart=>exact⟨0,Nat.zero_le _,rfl,fun j x h=>by omega⟩
 case round=>
  obtain⟨k,F,rfl,f⟩:=hrel;by_cases hlt:k<c.length
  .obtain⟨C,A,u,E,l⟩:=g.at hlt;subst u;have n:=Yx (Zv hlt);have D:=l k _ n;clear l g;generalize c[k]=x at *
   go_wp2_with fail;refine(UE x d b w v).mono ?_;rintro e H ⟨rfl,rfl⟩;by_cases h:(x.size:Int)=d
   .have t:Hid (∀j y,j<k+1->c[j]?=some y->(y.size:Int)=d):=by
     intro j y q o;rcases Nat.lt_or_ge j k with p|p
     .exact f j y p o
     .obtain rfl:j=k:=Yw
      rw[n.o]at o;cases o;exact h
    have m:decide ((x.size:Int)=d)=true:=by simp[h]
    rw[m];go_wp2;exact⟨⟨k+1,Yw,Yp,t⟩,by simp[intOf];omega⟩
   .have m:decide ((x.size:Int)=d)=false:=by simp[h]
    rw[m];go_wp2;go_ret;exact⟨_,rfl,⟨fun _=>⟨x,Zs n.o,h⟩,fun _=>by omega⟩,rfl⟩
  .go_wp2;go_ret;refine⟨_,rfl,⟨fun h=>by omega,fun⟨s,hs,h⟩=> ?_⟩,rfl⟩;obtain⟨j,q,rfl⟩:=List.getElem_of_mem hs;exact absurd (f j _ Yw (Zv q)) h
open Classical in
theorem Hy(a:Zk)(cap b:Nat)(c:Zl)(d:Int)(w:Zh)(B:Nat)(f:Ad w B a c)(l:c.length<=1048576)(j:w.cell? (Ze b 0)=some (Zg d)):
 Calls prog 152 #[.slice a c.length cap,.func (.func 151) #[] #[Yz b]] w fun e m=>e=.returned (.bool (decide (∃s∈c,¬(s.size:Int)=d)))/\m=w:=by
 go_enter func152,ntmps152;go_wp2_with fail;refine(NO a cap b c d w B f l j).mono ?_;rintro e n ⟨r,rfl,g,rfl⟩;by_cases h:0<=r
 .have k:decide ((0:Int)<=r)=true:=by simpa using h
  go_wp2;go_ret;exact⟨by simp[g.1 h],rfl⟩
 .have k:decide ((0:Int)<=r)=false:=by simpa using h
  have i:¬∃s∈c,¬(s.size:Int)=d:=fun e=>h (g.2 e);go_wp2;go_ret;exact⟨by rw[decide_eq_false i];rfl,rfl⟩
structure Pt (wd:Int) (qs ms:Zl):Prop where
 nq:qs.length<=23200
 nm:ms.length<=600
 q:∀s∈qs,(s.size:Int)=wd
 m:∀s∈ms,(s.size:Int)=wd
 nd:ms.Nodup
theorem SC{i:Int}(l:i<=8)(d:∀s∈a,(s.size:Int)=i):(a.map keyL).Nodup↔a.Nodup:=by
 induction a with
 |nil=>simp
 |cons x r f=>
  have f:=f (fun s j=>d s (by simp[j]));simp only[List.map_cons,List.nodup_cons,f];have m:=d x Yv;constructor
  .rintro⟨b,c⟩;exact⟨fun h=>b (List.mem_map.2 ⟨x,h,rfl⟩),c⟩
  .rintro⟨b,c⟩;refine⟨fun h=> ?_,c⟩;obtain⟨y,g,e⟩:=List.mem_map.1 h;have k:=d y (by simp[g]);have:y=x:=key_inj e Yw Yw;subst this;exact b g
theorem NP(o k j q g:Int)(a b:Zk)(m n:Nat)(d c:Zl)(w:Zh)(O:Ad w w.heap.size a d)(E:Ad w w.heap.size b c)(t:IC d c)(N:g<=8):
 Calls prog 115 #[.agg (Ya o a d.length m b c.length n k j q),Zg g] w fun e Q=>Ap (Pt g d c) w Q e:=by
 have U:=t.q;have T:=t.m;have i:Below w.heap.size w ((w.alloc (.cells (Ya o a d.length m b c.length n k j q) 41)).alloc (.cells #[Zg g] 3)):=(Zy).alloc Yv _;go_enter func115,ntmps115;by_cases h1:d.length<=23200
 .have K:decide ((23200:Int)<(d.length:Int))=false:=Yu
  by_cases h2:c.length<=600
  .have L:decide ((600:Int)<(c.length:Int))=false:=Yu
   go_wp2_with fail;refine(Hy a m _ d g _ w.heap.size (O.below i) t.q (by simp[go_sem])).mono ?_;rintro e Z ⟨rfl,rfl⟩;by_cases h3:∃s∈d,¬(s.size:Int)=g
   .rw[decide_eq_true h3];go_wp2;go_ret;exact Ap.no (fun h=>by obtain⟨s,l,B⟩:=h3;exact B (h.q s l)) i
   .rw[decide_eq_false h3];go_wp2_with fail;refine(Hy b n _ c g _ w.heap.size (E.below i) t.m (by simp[go_sem])).mono ?_;rintro e F ⟨rfl,rfl⟩;by_cases h4:∃s∈c,¬(s.size:Int)=g
    .rw[decide_eq_true h4];go_wp2;go_ret;exact Ap.no (fun h=>by obtain⟨s,l,B⟩:=h4;exact B (h.m s l)) i
    .rw[decide_eq_false h4];have z:∀s∈d,(s.size:Int)=g:=fun s l=>Classical.byContradiction fun h=>h3 ⟨s,l,h⟩;have x:∀s∈c,(s.size:Int)=g:=fun s l=>Classical.byContradiction fun h=>h4 ⟨s,l,h⟩;have A:=Yx (Zn z x);clear z x h3 h4;go_wp2_with fail;obtain⟨W,C⟩:∃W,W=((w.alloc (.cells (Ya o a d.length m b c.length n k j q) 41)).alloc (.cells #[Zg g] 3)):=⟨_,rfl⟩
     have u:Cm W w.heap.size o (.slice a d.length m) (.slice b c.length n) k j q:=by rw[C];exact(Cm.new w o k j q _ _ 41).below (Zy)
     rw[<-C]at i |-;have X:=Yx u;have G:=Yx (E.j i);obtain⟨x0,x1,R,x3,x4,x5,S⟩:=u;clear C;go_region_with (first
      |(go_at_call 119;refine(ID o k j q a b d.length m n c W.drew G.o Yw).mono ?_;rintro e F ⟨Y,J,f,rfl,V,v,y,r⟩;have hlen:=fun P=>v.len underlying137 P;have y2:=(r.cell (p:=⟨w.heap.size,2,none⟩) S).trans R))
     all_goals
      have H:Hid (Zz w F):=(i.drew.trans (r.mono i.size));have I:=Yx y;clear hlen v y r;go_wp2;go_ret;refine⟨_,rfl,?_,H.o⟩;have D:=I.o.all;rw[SC N A.o.2]at D;have M:(J:Int)=c.length↔c.Nodup:=by rw[<-D];omega
      simp only[beq_iff_eq,M];exact⟨fun h=>⟨h1,h2,A.o.1,A.o.2,h⟩,fun h=>h.nd⟩
  .have L:decide ((600:Int)<(c.length:Int))=true:=Yu
   go_wp2;go_ret;exact Ap.no (fun h=>h2 h.nm) i
 .have K:decide ((23200:Int)<(d.length:Int))=true:=Yu
  go_wp2;go_ret;exact Ap.no (fun h=>h1 h.nq) i
end
theorem Gz(n lo a:Int)(w:Zh):
 Calls prog 17 #[Zg n,Zg lo,Zg a] w fun e b=>e=.returned (.bool (decide (lo<=n/\n<=a)))/\b=w:=by
 by_cases h1:lo<=n
 .by_cases h2:n<=a
  .go_enter func17,ntmps17;go_wp2;go_ret;exact⟨Ax (by simp[h1,h2]),rfl⟩
  .go_enter func17,ntmps17;go_wp2;go_ret;exact⟨Ax (by simp[h2]),rfl⟩
 .have c:decide (lo<=n)=false:=by simpa using h1
  go_enter func17,ntmps17;go_wp2;go_ret;exact⟨Ax Yv,rfl⟩
theorem UF(n:Int)(w:Zh):
 Calls prog 114 #[Zg n] w fun e a=>e=.returned (.bool (decide (0<=n/\n<=1000000000)))/\a=w:=by
 by_cases h1:0<=n
 .by_cases h2:n<=1000000000
  .go_enter func114,ntmps114;go_wp2;go_ret;exact⟨Ax (by simp[h1,h2]),rfl⟩
  .have c:decide (n<=1000000000)=false:=by simpa using h2
   go_enter func114,ntmps114;go_wp2;go_ret;exact⟨rfl,rfl⟩
 .have b:decide (0<=n)=false:=by simpa using h1
  go_enter func114,ntmps114;go_wp2;go_ret;exact⟨rfl,rfl⟩
section
attribute [local go_sem↓] Go.wp_at_zero Go.wp_at_succ
def EK(births ph top at_:Int)(qs ms:Zl):Prop:=
 (ph=0/\qs=[]/\ms=[]/\top=0/\at_=0)\/(ph=1/\0<=top/\top<=births/\at_=top+1)\/(ph=2/\0<=top/\top<=births/\1<=at_/\at_<=top+1)
structure AX (wd births H top at_ ro:Int) (qs ms:Zl):Prop where
 jf:0<=ro
 iz:ro<=1000000000
 dx:Pt wd qs ms
 H:EK births H top at_ qs ms
theorem Mv(m d f k l c:Int)(a b:Zk)(s t:Nat)(j i:Zl)(w:Zh)(F:Ad w w.heap.size a j)(E:Ad w w.heap.size b i)(z:IC j i)(D:l<=8)(H:c<=1000000000):
 Calls prog 68 #[.agg (Ya m a j.length s b i.length t d f k),Zg l,Zg c] w fun e G=>Ap (AX l c m d f k j i) w G e:=by
 have J:=z.q;have I:=z.m;have u:Below w.heap.size w (w.alloc (.cells (Ya m a j.length s b i.length t d f k) 41)):=Zy;have A:=Cm.new w m d f k (.slice a j.length s) (.slice b i.length t) 41;go_enter func68,ntmps68;go_wp2_with fail;refine(UF k _).mono ?_;rintro e N ⟨rfl,rfl⟩;by_cases h1:0<=k/\k<=1000000000
 .rw[decide_eq_true h1];go_wp2_with fail;refine(NP m d f k l a b s t j i _ (F.j u) (E.j u) z D).mono ?_;rintro e O ⟨C,rfl,r,q⟩;have g:=u.trans (q.mono Yv);obtain⟨Q,R,S,T,U,V,W⟩:=A.below q;clear q A;cases C with
  |false=>go_wp2;go_ret;exact Ap.no (fun h=>by have:=r.2 h.dx;cases this) g
  |true=>
   have o:=r.1 rfl;have HS:=Yx o;clear r o;by_cases p0:m=0
   .subst p0;by_cases e1:j.length=0
    .by_cases e2:i.length=0
     .by_cases e3:d=0
      .by_cases e4:f=0
       .go_wp2;go_ret;exact Ap.yes ⟨h1.1,h1.2,HS.o,.inl ⟨rfl,List.eq_nil_of_length_eq_zero e1,List.eq_nil_of_length_eq_zero e2,e3,e4⟩⟩ g
       .have y:(f==0)=false:=by simpa using e4
        go_wp2;go_ret;exact Ap.no (P:=AX l c 0 d f k j i) (fun h=>by have:=h.H;unfold EK at this;simp at this;have n:=this.2.2.2;omega) g
      .have p:(d==0)=false:=by simpa using e3
       go_wp2;go_ret;exact Ap.no (fun h=>by have:=h.H;unfold EK at this;simp at this;have n:=this.2.2.1;omega) g
     .have x:((i.length:Int)==0)=false:=beq_eq_false_iff_ne.2 Yw;go_wp2;go_ret;exact Ap.no (fun h=>by have:=h.H;unfold EK at this;simp at this;exact e2 (by rw[this.2.1];rfl)) g
    .have v:((j.length:Int)==0)=false:=beq_eq_false_iff_ne.2 Yw;go_wp2;go_ret;exact Ap.no (fun h=>by have:=h.H;unfold EK at this;simp at this;exact e1 (by rw[this.1];rfl)) g
   .have K:(m==0)=false:=by simpa using p0
    by_cases p1:m=1
    .subst p1;by_cases e1:0<=d
     .by_cases e2:d<=c
      .have B:IntKind.i64.wrap (d+1)=d+1:=Hi Yw Yw;by_cases e3:f=d+1
       .have p:(f==d+1)=true:=by simpa using e3
        go_wp2;go_ret;exact Ap.yes (P:=AX l c 1 d f k j i) ⟨h1.1,h1.2,HS.o,.inr (.inl ⟨rfl,e1,e2,e3⟩)⟩ g
       .have p:(f==d+1)=false:=by simpa using e3
        go_wp2;go_ret;exact Ap.no (P:=AX l c 1 d f k j i) (fun h=>by have:=h.H;unfold EK at this;simp at this;have n:=this.2.2;omega) g
      .have x:decide (d<=c)=false:=by simpa using e2
       go_wp2;go_ret;exact Ap.no (P:=AX l c 1 d f k j i) (fun h=>by have:=h.H;unfold EK at this;simp at this;have n:=this.2.1;omega) g
     .have v:decide (0<=d)=false:=by simpa using e1
      go_wp2;go_ret;exact Ap.no (P:=AX l c 1 d f k j i) (fun h=>by have:=h.H;unfold EK at this;simp at this;have n:=this.1;omega) g
    .have L:(m==1)=false:=by simpa using p1
     by_cases p2:m=2
     .subst p2;by_cases e1:0<=d
      .by_cases e2:d<=c
       .have B:IntKind.i64.wrap (d+1)=d+1:=Hi Yw Yw;by_cases e3:1<=f
        .by_cases e4:f<=d+1
         .have y:decide (f<=d+1)=true:=by simpa using e4
          go_wp2;go_ret;exact Ap.yes (P:=AX l c 2 d f k j i) ⟨h1.1,h1.2,HS.o,.inr (.inr ⟨rfl,e1,e2,e3,e4⟩)⟩ g
         .have y:decide (f<=d+1)=false:=by simpa using e4
          go_wp2;go_ret;exact Ap.no (P:=AX l c 2 d f k j i) (fun h=>by have:=h.H;unfold EK at this;simp at this;have n:=this.2.2.2;omega) g
        .have p:decide (1<=f)=false:=by simpa using e3
         go_wp2;go_ret;exact Ap.no (P:=AX l c 2 d f k j i) (fun h=>by have:=h.H;unfold EK at this;simp at this;have n:=this.2.2.1;omega) g
       .have x:decide (d<=c)=false:=by simpa using e2
        go_wp2;go_ret;exact Ap.no (P:=AX l c 2 d f k j i) (fun h=>by have:=h.H;unfold EK at this;simp at this;have n:=this.2.1;omega) g
      .have v:decide (0<=d)=false:=by simpa using e1
       go_wp2;go_ret;exact Ap.no (P:=AX l c 2 d f k j i) (fun h=>by have:=h.H;unfold EK at this;simp at this;have n:=this.1;omega) g
     .have M:(m==2)=false:=by simpa using p2
      go_wp2;go_ret;exact Ap.no (P:=AX l c m d f k j i) (fun h=>by rcases h.H with h|h|h;exact p0 h.1;exact p1 h.1;exact p2 h.1) g
 .rw[decide_eq_false h1];go_wp2;go_ret;exact Ap.no (fun h=>h1 ⟨h.jf,h.iz⟩) u
end
theorem UG(a b:Zk)(c d:Nat)(f g:Zl)(left:Int)(w:Zh)(l:Ad w w.heap.size a f)(k:Ad w w.heap.size b g)(m:left<=1048576)(j:(f.length:Int)+ax f+g.length+ax g<=left):
 Calls prog 13 #[.agg #[.slice a f.length c,.slice b g.length d],Zg left] w fun e i=>e=.returned (Zg (left -f.length -ax f -g.length -ax g))/\Zz w i:=by
 have h:Below w.heap.size w (w.alloc (.cells #[.slice a f.length c,.slice b g.length d] 24)):=Zy;go_enter func13,ntmps13;go_wp2_with fail;refine(IE a c f _ _ w.heap.size (l.below h) Yw Yw).mono ?_;rintro e i ⟨rfl,rfl⟩;go_wp2_with fail;refine(IE b d g _ _ w.heap.size (k.below h) Yw Yw).mono ?_;rintro e i ⟨rfl,rfl⟩;go_wp2;go_ret;exact⟨rfl,h⟩
theorem Wp(a b:Zk)(c d:Nat)(f g:Zl)(left:Int)(w:Zh)(j:Ad w w.heap.size a f)(o:Ad w w.heap.size b g)(n:f.length<=maxLen)(p:∀s∈f,s.size<=maxLen)(k:g.length<=maxLen)(l:∀s∈g,s.size<=maxLen)(q:0<=left)(r:left<=1048576)(m:left<(f.length:Int)+ax f+g.length+ax g):
 Calls prog 13 #[.agg #[.slice a f.length c,.slice b g.length d],Zg left] w fun e i=>e=.returned (Zg (-1))/\Zz w i:=by
 have h:Below w.heap.size w (w.alloc (.cells #[.slice a f.length c,.slice b g.length d] 24)):=Zy;by_cases hn:left<(f.length:Int)+ax f
 .go_enter func13,ntmps13;go_wp2_with fail;refine(Lf a c f _ _ w.heap.size (j.below h) n p Yw Yw Yw).mono ?_;rintro e i ⟨rfl,rfl⟩;go_wp2;go_ret;exact⟨rfl,h⟩
 .go_enter func13,ntmps13;go_wp2_with fail;refine(IE a c f _ _ w.heap.size (j.below h) Yw Yw).mono ?_;rintro e i ⟨rfl,rfl⟩;go_wp2_with fail;refine(Lf b d g _ _ w.heap.size (o.below h) k l Yw Yw Yw).mono ?_;rintro e i ⟨rfl,rfl⟩;go_wp2;go_ret;exact⟨rfl,h⟩
theorem UH(a b:Zk)(c d:Nat)(f l:Zl)(w:Zh)(P:Ad w w.heap.size a f)(O:Ad w w.heap.size b l)(N:f.length<=1048576)(K:l.length<=1048576):
 Calls prog 21 #[.agg #[.slice a f.length c,.slice b l.length d]] w fun e D=>∃g k,e=.returned (.agg #[Za g f.length f.length,Za k l.length l.length])/\w.heap.size<=g/\g<k/\
  D.ownsRow w.heap.size 9 1 (Za g f.length f.length) f.length (f.map Value.string)/\
  D.ownsRow w.heap.size 9 1 (Za k l.length l.length) l.length (l.map Value.string)/\Zz w D:=by
 have B:Below w.heap.size w (((w.alloc (.cells #[.slice a f.length c,.slice b l.length d] 24)).alloc (.cells #[Zc,Zc] 35)).alloc (.cells #[Zc,Zc] 35)):=((Zy).alloc Yv _).alloc Yu _;go_enter func21,ntmps21;go_wp2_with fail;refine(IF a c f _ (P.j B) N).mono ?_;rintro e H ⟨g,rfl,L,n,u⟩;have I:=B.trans (u.mono Yu);obtain⟨r,C⟩:=Ke u;have Q:=u.size;simp at Q L
 go_wp2_with fail;obtain⟨m,j⟩:∃m,m=H.setCell (Ze (w.heap.size+1+1) 0) (Za g f.length f.length):=⟨_,rfl⟩;have z:Below w.heap.size w m:=by rw[j];exact I.setCell Yu _
 have T:m.heap.size=H.heap.size:=by rw[j];simp
 have A:m.ownsRow (w.heap.size+1) 9 1 (Za g f.length f.length) f.length (f.map Value.string):=by rw[j];exact(ownsRow_setCell_below n Yv _).mono Yv
 have x:m.cell? (Ze (w.heap.size+1+1) 0)=some (Za g f.length f.length):=by rw[j];simp[go_sem,r]
 have y:m.cell? (Ze (w.heap.size+1+1) 1)=some Zc:=by rw[j];simp[go_sem,r]
 have s:m.cell? (Ze (w.heap.size+1) 0)=some Zc:=by rw[j];simp[go_sem,r]
 have t:m.cell? (Ze (w.heap.size+1) 1)=some Zc:=by rw[j];simp[go_sem,r]
 have G:∀o,m.frozen? ⟨w.heap.size+1+1,o,none⟩=false:=fun o=>by rw[j];simp[go_sem,C]
 have F:∀o,m.frozen? ⟨w.heap.size+1,o,none⟩=false:=fun o=>by rw[j];simp[go_sem,C]
 rw[<-j];clear j n u r C;refine(IF b d l _ (O.j z) K).mono ?_;rintro e E ⟨k,rfl,U,q,h⟩;have S:=h.size;replace x:=(h.cell (p:=⟨w.heap.size+1+1,0,none⟩) Yu).trans x;replace y:=(h.cell (p:=⟨w.heap.size+1+1,1,none⟩) Yu).trans y;replace s:=(h.cell (p:=⟨w.heap.size+1,0,none⟩) Yu).trans s;replace t:=(h.cell (p:=⟨w.heap.size+1,1,none⟩) Yu).trans t
 replace G:∀o,E.frozen? ⟨w.heap.size+1+1,o,none⟩=false:=fun o=>(h.frozen (p:=⟨w.heap.size+1+1,o,none⟩) Yu).trans (G o);replace F:∀o,E.frozen? ⟨w.heap.size+1,o,none⟩=false:=fun o=>(h.frozen (p:=⟨w.heap.size+1,o,none⟩) Yu).trans (F o);have R:=(A.lt g rfl).2
 have J:E.ownsRow (w.heap.size+1) 9 1 (Za g f.length f.length) f.length (f.map Value.string):=A.kept (row:=none) ⟨h.os,h.tape,h.output,h.size,fun i M _=>h.block i M⟩ (.inr (by simp[Value.ownBlock]));go_wp2;refine bodyPost_ret (v:=.agg #[Za g f.length f.length,Za k l.length l.length]) (by simp[results,results21,go_sem,s,t]) rfl ⟨g,k,rfl,Yw,Yw,?_,?_,?_⟩
 .refine(ownsRow_setCell_other (ownsRow_setCell_other (ownsRow_setCell_other J ?_ _) ?_ _) ?_ _).mono Yw<;>(simp[Value.ownBlock];omega)
 .refine(ownsRow_setCell_other (ownsRow_setCell_other (ownsRow_setCell_other q ?_ _) ?_ _) ?_ _).mono Yw<;>(simp[Value.ownBlock];omega)
 .exact(z.trans (h.mono Yw)).setCell Yu _|>.setCell Yv _|>.setCell Yv _
def Eo(ss tt:Zl):Bool:=decide (ss.length+tt.length<=4000)&&(ss++tt).all (fun s=>decide (s.size<=5000))
def DJ(ss:Zl):Bool:=ss.all (fun s=>decide (s.size<=5000))
theorem La(a b:Zl):Eo a b=(decide (a.length+b.length<=4000)&&(DJ a&&DJ b)):=by simp[Eo,DJ]
theorem JS(a:Zl)(k:Nat)(s:Zi)(h:a[k]?=some s):DJ (a.take (k+1))=(DJ (a.take k)&&decide (s.size<=5000)):=by obtain⟨b,rfl⟩:=Zw h;unfold DJ;rw[Zu b,List.all_append,List.all_cons,List.all_nil,Bool.and_true]
theorem Jg(a:Zl)(k:Nat)(s:Zi)(h:a[k]?=some s)(b:5000<s.size):DJ a=false:=by simp only[DJ,List.all_eq_false];exact⟨s,Zs h,Yu⟩
theorem NQ(a b:Zk)(c d:Nat)(f g:Zl)(w:Zh)(B:Nat)(G:B<=w.heap.size)(C:Ad w B a f)(A:Ad w B b g)(I:f.length<=1048576)(F:g.length<=1048576)(v:∀s∈f,s.size<=1048576)(r:∀s∈g,s.size<=1048576):
 Calls prog 41 #[.agg #[.slice a f.length c,.slice b g.length d]] w fun e D=>e=.returned (.bool (Eo f g))/\Zz w D:=by
 have l:Below w.heap.size w (w.alloc (.cells #[.slice a f.length c,.slice b g.length d] 35)):=Zy;go_enter func41,ntmps41;go_wp2
 go_loop [3] (fun i=>∃k:Nat,k<=f.length/\i=Zg k/\DJ (f.take k)=true) (fun i=>f.length -(intOf i).toNat)
 case atStart=>exact⟨0,Nat.zero_le _,rfl,by simp[DJ]⟩
 case round=>
  obtain⟨k,H,rfl,q⟩:=hrel;by_cases hlt:k<f.length
  .obtain⟨p,t,u,z,m⟩:=C.at hlt;subst u;have x:=(l.cell (p:=⟨p,t+k,none⟩) Yu).trans (m k f[k] (Zv hlt));have n:Hid (DJ (f.take (k+1))=(DJ (f.take k)&&decide (f[k].size<=5000))):=JS f k _ (Zv hlt);have o:Hid (5000<f[k].size->DJ f=false):=Jg f k _ (Zv hlt);have y:=v f[k] (List.getElem_mem hlt);clear m v r;generalize f[k]=s at *
   by_cases hbig:5000<s.size
   .go_wp2;go_ret;exact⟨by rw[La,o.o hbig];simp,l⟩
   .go_wp2;refine⟨⟨k+1,Yw,Yp,?_⟩,by simp[intOf];omega⟩;rw[n.o,q];simp;omega
  .rw[Zt Yw]at q;go_wp2
   go_loop [4] (fun i=>∃k:Nat,k<=g.length/\i=Zg k/\DJ (g.take k)=true) (fun i=>g.length -(intOf i).toNat)
   case atStart=>exact⟨0,Nat.zero_le _,rfl,by simp[DJ]⟩
   case round=>
    obtain⟨h,E,rfl,j⟩:=hrel;by_cases hlt2:h<g.length
    .obtain⟨p,t,u,z,m⟩:=A.at hlt2;subst u;have x:=(l.cell (p:=⟨p,t+h,none⟩) Yu).trans (m h g[h] (Zv hlt2));have n:Hid (DJ (g.take (h+1))=(DJ (g.take h)&&decide (g[h].size<=5000))):=JS g h _ (Zv hlt2);have o:Hid (5000<g[h].size->DJ g=false):=Jg g h _ (Zv hlt2);have y:=r g[h] (List.getElem_mem hlt2);clear m v r;generalize g[h]=s at *
     by_cases hbig:5000<s.size
     .go_wp2;go_ret;exact⟨by rw[La,o.o hbig];simp,l⟩
     .go_wp2;refine⟨⟨h+1,Yw,Yp,?_⟩,by simp[intOf];omega⟩;rw[n.o,j];simp;omega
    .rw[Zt Yw]at j;go_wp2;go_ret;refine⟨?_,l⟩;rw[La,q,j];simp;omega
theorem UI(a b h i:Zk)(c d l o:Nat)(f g:Zl)(w:Zh)(v:Ad w w.heap.size a f)(u:Ad w w.heap.size b g)(s:Ad w w.heap.size h f)(r:Ad w w.heap.size i g)(t:f.length<=1048576)(q:g.length<=1048576):
 Calls prog 27 #[.agg #[.slice a f.length c,.slice b g.length d],.agg #[.slice h f.length l,.slice i g.length o]] w fun e p=>e=.returned (.bool true)/\Zz w p:=by
 have j:Below w.heap.size w ((w.alloc (.cells #[.slice a f.length c,.slice b g.length d] 35)).alloc (.cells #[.slice h f.length l,.slice i g.length o] 35)):=(Zy).alloc Yv _;go_enter func27,ntmps27;go_wp2_with fail;refine(GX a h c l f _ _ _ (v.below j) (s.below j) t).mono ?_;rintro e p ⟨rfl,n,rfl⟩;have k:=Cb j n;go_wp2_with fail;refine(GX b i d o g _ _ _ (u.below k) (r.below k) q).mono ?_
 rintro e p ⟨rfl,m,rfl⟩;go_wp2;go_ret;exact⟨rfl,Cb j (n+m)⟩
structure Vd where
 wd:Int
 U:Int
 ss:Zl
 C:Zl
 T:Int
 F:Int
 G:Int
 E:Int
 A:List Kd
 ps:List Pd
 ls:List Ld
 H:Int
 D:Zl
 ms:Zl
 K:Int
 J:Int
 ro:Int
structure Va where
 R:Zk
 Z:Nat
 N:Zk
 O:Nat
 x:Zk
 kc:Nat
 Q:Zk
 W:Nat
 P:Zk
 X:Nat
 i:Zk
 qc:Nat
 g:Zk
 y:Nat
abbrev Xz(v:Vd)(a:Va):Array Value:=#[.int .i64 v.wd,.int .i64 v.U,.slice a.R v.ss.length a.Z,.slice a.N v.C.length a.O,.int .i64 v.T,.int .i64 v.F,.int .i64 v.G,.int .i64 v.E,.slice a.x v.A.length a.kc,.slice a.Q v.ps.length a.W,.slice a.P v.ls.length a.X,.int .i64 v.H,.slice a.i v.D.length a.qc,.slice a.g v.ms.length a.y,.int .i64 v.K,.int .i64 v.J,.int .i64 v.ro]
abbrev Xy(v:Vd)(a:Va):List Value:=[.int .i64 v.wd,.int .i64 v.U,.slice a.R v.ss.length a.Z,.slice a.N v.C.length a.O,.int .i64 v.T,.int .i64 v.F,.int .i64 v.G,.int .i64 v.E,.slice a.x v.A.length a.kc,.slice a.Q v.ps.length a.W,.slice a.P v.ls.length a.X,.int .i64 v.H,.slice a.i v.D.length a.qc,.slice a.g v.ms.length a.y,.int .i64 v.K,.int .i64 v.J,.int .i64 v.ro]
abbrev Xr(v:Vd)(a:Option Addr)(b:Nat)(c:Option Addr)(d:Nat)(e:Option Addr)(f:Nat)(g:Option Addr)(h:Nat)(i:Option Addr)(j:Nat)(k:Option Addr)(l:Nat)(m:Option Addr)(n:Nat):Array Value:=#[.int .i64 v.wd,.int .i64 v.U,.slice a v.ss.length b,.slice c v.C.length d,.int .i64 v.T,.int .i64 v.F,.int .i64 v.G,.int .i64 v.E,.slice e v.A.length f,.slice g v.ps.length h,.slice i v.ls.length j,.int .i64 v.H,.slice k v.D.length l,.slice m v.ms.length n,.int .i64 v.K,.int .i64 v.J,.int .i64 v.ro]
abbrev Xq(v:Vd)(a:Option Addr)(b:Nat)(c:Option Addr)(d:Nat)(e:Option Addr)(f:Nat)(g:Option Addr)(h:Nat)(i:Option Addr)(j:Nat)(k:Option Addr)(l:Nat)(m:Option Addr)(n:Nat):List Value:=[.int .i64 v.wd,.int .i64 v.U,.slice a v.ss.length b,.slice c v.C.length d,.int .i64 v.T,.int .i64 v.F,.int .i64 v.G,.int .i64 v.E,.slice e v.A.length f,.slice g v.ps.length h,.slice i v.ls.length j,.int .i64 v.H,.slice k v.D.length l,.slice m v.ms.length n,.int .i64 v.K,.int .i64 v.J,.int .i64 v.ro]
structure Ca (w:Zh) (B:Nat) (a:Va) (v:Vd):Prop where
 s:Ad w B a.R v.ss
 t:Ad w B a.N v.C
 st:BI w B a.x a.Q a.P v.A v.ps v.ls
 q:Ad w B a.i v.D
 m:Ad w B a.g v.ms
theorem Ca.ah{a:Va}{v:Vd}(h:Ca w B a v)(b:Below B w c):Ca c B a v:=
 ⟨h.s.below b,h.t.below b,h.st.ah b,h.q.below b,h.m.below b⟩
theorem Ca.mono{B':Nat}{a:Va}{v:Vd}(h:Ca w B a v)(b:B<=B'):Ca w B' a v:=
 ⟨h.s.mono b,h.t.mono b,h.st.mono b,h.q.mono b,h.m.mono b⟩
theorem Ca.j{b:Zh}{a:Va}{v:Vd}(h:Ca w w.heap.size a v)(c:Zz w b):Ca b b.heap.size a v:=(h.ah c).mono c.size
structure Aav (a:Va) (v:Vd):Prop where
 s:a.R=none->v.ss.length=0/\a.Z=0
 t:a.N=none->v.C.length=0/\a.O=0
 m:v.ms.length<=a.y
structure Dl (v:Vd):Prop where
 s:v.ss.length<=1048576
 t:v.C.length<=1048576
 ss:∀s∈v.ss,s.size<=1048576
 C:∀s∈v.C,s.size<=1048576
 st:Rw v.A v.ps v.ls
 r:IC v.D v.ms
 rn:AF v.A<=1048576
structure DZ (v:Vd) (r:Rs):Prop where
 wd:1<=v.wd/\v.wd<=8
 U:0<=v.U/\v.U<=1000000
 log:Eo v.ss v.C=true
 run:Ds v.wd r0 (v.ss++v.C) r
 same:(v.wd=v.T/\r.F=v.F/\r.G=v.G/\r.E=v.E)/\r.A=v.A/\r.ps=v.ps/\r.ls=v.ls
 round:AX v.wd v.E v.H v.K v.J v.ro v.D v.ms
def FY(v:Vd):Prop:=∃r,DZ v r
theorem Hz{b:Zl}(h:Eo a b=true):(a++b).length<=4000:=by unfold Eo at h;simp at h;rw[List.length_append];exact h.1
theorem Fh{j k l m n o p q r s a c d e f g i:Value}(h:Aa w b [j,k,l,m,n,o,p,q,r,s,a,c,d,e,f,g,i]):w.cell? (Ze b 0)=some j/\w.cell? (Ze b 1)=some k/\w.cell? (Ze b 2)=some l/\w.cell? (Ze b 3)=some m/\w.cell? (Ze b 4)=some n/\w.cell? (Ze b 5)=some o/\w.cell? (Ze b 6)=some p/\w.cell? (Ze b 7)=some q/\w.cell? (Ze b 8)=some r/\w.cell? (Ze b 9)=some s/\w.cell? (Ze b 10)=some a/\w.cell? (Ze b 11)=some c/\w.cell? (Ze b 12)=some d/\w.cell? (Ze b 13)=some e/\w.cell? (Ze b 14)=some f/\w.cell? (Ze b 15)=some g/\w.cell? (Ze b 16)=some i:=
 ⟨(h 0 _ rfl).1,(h 1 _ rfl).1,(h 2 _ rfl).1,(h 3 _ rfl).1,(h 4 _ rfl).1,(h 5 _ rfl).1,(h 6 _ rfl).1,(h 7 _ rfl).1,(h 8 _ rfl).1,(h 9 _ rfl).1,(h 10 _ rfl).1,(h 11 _ rfl).1,(h 12 _ rfl).1,(h 13 _ rfl).1,(h 14 _ rfl).1,(h 15 _ rfl).1,(h 16 _ rfl).1⟩
structure Wq (v:Vd):Prop where
 s:v.ss.length<=maxLen
 ss:∀s∈v.ss,s.size<=maxLen
 t:v.C.length<=maxLen
 C:∀s∈v.C,s.size<=maxLen
 k:Ou v.A
 p:Ov v.ps
 l:Ow v.ls
 q:v.D.length<=maxLen
 D:∀s∈v.D,s.size<=maxLen
 m:v.ms.length<=maxLen
 ms:∀s∈v.ms,s.size<=maxLen
theorem Qz(v:Vd)(a:Va)(w:Zh)(t:Ca w w.heap.size a v)(q:Wq v):
 Calls prog 4 #[.agg (Xz v a),Zg 1048576] w fun e u=>∃r:Int,e=.returned (Zg r)/\Zz w u/\(0<=r->Dl v):=by
 obtain⟨W,K⟩:∃W,W=w.alloc (.cells (Xz v a) 33):=⟨_,rfl⟩;have p:=(AA K).1;have V:=(AA K).2.2;have HX:Hid (∀X,Zz W X->Aa X w.heap.size (Xy v a)):=fun X hX=>Aa.below V hX;have Z:=Yx K;have R:=Yx t;have m:=Yx q
 have hL:Calls prog 13 #[.agg #[.slice a.R v.ss.length a.Z,.slice a.N v.C.length a.O],Zg 1048576] W fun e u=>∃r:Int,e=.returned (Zg r)/\Zz W u/\r<=1048576/\(0<=r->(v.ss.length:Int)+ax v.ss+v.C.length+ax v.C<=1048576):=by
  by_cases hfit:(v.ss.length:Int)+ax v.ss+v.C.length+ax v.C<=1048576
  .refine(UG a.R a.N a.Z a.O v.ss v.C 1048576 W (t.s.j p) (t.t.j p) Yw hfit).mono ?_;rintro e u ⟨rfl,S⟩;exact⟨_,rfl,S,Yw,fun _=>hfit⟩
  .refine(Wp a.R a.N a.Z a.O v.ss v.C 1048576 W (t.s.j p) (t.t.j p) q.s q.ss q.t q.C Yw Yw Yw).mono ?_;rintro e u ⟨rfl,S⟩;exact⟨_,rfl,S,Yw,fun h=>by omega⟩
 have Y:=Yx hL;obtain⟨x,y,z,A,B,C,D,E,F,G,c,d,f,g,j,k,l⟩:=Fh V;clear K V t q hL;go_enter func4,ntmps4;go_wp2_with fail;rw[<-Z.o];refine Calls.mono Y.o ?_;rintro e w1 ⟨r1,rfl,I,zE,O⟩;have H:=Yx I;have o:=Yx (p.trans (I.mono p.size));clear x y z A B C D E F G c d f g j k l I Y Z;by_cases n1:r1<0
 .go_wp2;go_ret;exact⟨_,rfl,o.o,fun h=>by omega⟩
 .have zB:=Yx (O Yw);obtain⟨x,y,z,A,B,C,D,E,F,G,c,d,f,g,j,k,l⟩:=Fh (HX.o w1 H.o);have HS:=Yx (TH v.T v.F v.G v.E a.x a.Q a.P a.kc a.W a.X v.A v.ps v.ls r1 w1 (R.o.st.j o.o) m.o.k m.o.p m.o.l Yw Yw);clear O;go_wp2_with fail;refine Calls.mono HS.o ?_;rintro e w2 ⟨r2,rfl,J,zF,P⟩;have zA:=Yx (H.o.trans (J.mono H.o.size));have b:=Yx (o.o.trans (J.mono o.o.size))
  clear x y z A B C D E F G c d f g j k l J HS;by_cases n2:r2<0
  .go_wp2;go_ret;exact⟨_,rfl,b.o,fun h=>by omega⟩
  .have L:=Yx (P Yw);obtain⟨x,y,z,A,B,C,D,E,F,G,c,d,f,g,j,k,l⟩:=Fh (HX.o w2 zA.o);have M:=Yx (Qw v.H v.K v.J v.ro a.i a.g a.qc a.y v.D v.ms r2 w2 (R.o.q.j b.o) (R.o.m.j b.o) m.o.q m.o.D m.o.m m.o.ms Yw Yw);clear P;go_wp2_with fail;refine Calls.mono M.o ?_;rintro e w3 ⟨r3,rfl,N,Q⟩;have n:=Yx (b.o.trans (N.mono b.o.size));have zC:Hid (0<=r3->Dl v):=fun h=>by
    have h1:=zB.o;refine⟨Yw,Yw,fun s U=> ?_,fun s U=> ?_,L.o.1,Q h,L.o.2⟩
    .obtain⟨i,T⟩:=List.getElem?_of_mem U;have:=QS v.ss i s T;omega
    .obtain⟨i,T⟩:=List.getElem?_of_mem U;have:=QS v.C i s T;omega
   clear x y z A B C D E F G c d f g j k l N M Q;by_cases n3:r3<0
   .go_wp2;go_ret;exact⟨_,rfl,n.o,fun h=>by omega⟩
   .go_wp2;go_ret;exact⟨_,rfl,n.o,zC.o⟩
theorem KC(v:Vd)(a b:Va)(w:Zh)(hr:Ca w w.heap.size a v)(hq:Ca w w.heap.size b v)(Q:Dl v):
 Calls prog 9 #[.agg (Xz v a),.agg (Xz v b)] w fun e w'=>e=.returned (.bool true)/\Zz w w':=by
 obtain⟨W,s⟩:∃W,W=(w.alloc (.cells (Xz v a) 43)).alloc (.cells (Xz v b) 43):=⟨_,rfl⟩;have P:=(Bo s).1;have Y:=(Bo s).2.2.1;have Z:Aa W (w.heap.size+1) (Xy v b):=by have h1:=Aa.new (w.alloc (.cells (Xz v a) 43)) (Xy v b) 43;rw[World.size_alloc]at h1;rw[s];exact h1
 have O:Hid (∀X,Zz W X->Aa X w.heap.size (Xy v a)/\Aa X (w.heap.size+1) (Xy v b)):=fun X hX=>⟨Aa.below Y hX,Aa.below Z hX⟩;have d:=Yx (Zn (hr.j P) (hq.j P));have HW:=Yx s;obtain⟨t,u,x,y,z,A,B,C,D,E,g,h,i,j,k,l,m⟩:=Fh Y;obtain⟨F,G,H,I,J,K,L,z7,M,N,n,o,z12,p,q,DK,r⟩:=Fh Z;clear s Y Z hr hq;have HL:=Yx (UI a.R a.N b.R b.N a.Z a.O b.Z b.O v.ss v.C W d.o.1.s d.o.1.t d.o.2.s d.o.2.t Q.s Q.t)
 go_enter func9,ntmps9;go_upto_region 1 with fail;rw[<-HW.o];clear HW;go_wp2_with fail;refine Calls.mono HL.o ?_;rintro e U ⟨rfl,R⟩;have f:=Yx R;clear t u x y z A B C D E g h i j k l m F G H I J K L z7 M N n o z12 p q DK r R HL;obtain⟨t,u,x,y,z,A,B,C,D,E,g,h,i,j,k,l,m⟩:=Fh (O.o U f.o).1;obtain⟨F,G,H,I,J,K,L,z7,M,N,n,o,z12,p,q,DK,r⟩:=Fh (O.o U f.o).2
 have HS:=Yx (Qv v.T v.F v.G v.E a.x a.Q a.P b.x b.Q b.P a.kc a.W a.X b.kc b.W b.X v.A v.ps v.ls U (d.o.1.st.j f.o) (d.o.2.st.j f.o) Q.st);go_wp2_with fail;refine Calls.mono HS.o ?_;rintro e V ⟨rfl,S⟩;have c:=Yx (f.o.trans (S.mono f.o.size));clear t u x y z A B C D E g h i j k l m F G H I J K L z7 M N n o z12 p q DK r S HS;obtain⟨t,u,x,y,z,A,B,C,D,E,g,h,i,j,k,l,m⟩:=Fh (O.o V c.o).1
 obtain⟨F,G,H,I,J,K,L,z7,M,N,n,o,z12,p,q,DK,r⟩:=Fh (O.o V c.o).2;have HQ:=Yx (Qx v.H v.K v.J v.ro a.i a.g b.i b.g a.qc a.y b.qc b.y v.D v.ms V (d.o.1.q.j c.o) (d.o.1.m.j c.o) (d.o.2.q.j c.o) (d.o.2.m.j c.o) Q.r);go_wp2_with fail;refine Calls.mono HQ.o ?_;rintro e w3 ⟨rfl,T⟩;have zA:=Yx (P.trans ((c.o.trans (T.mono c.o.size)).mono P.size))
 clear t u x y z A B C D E g h i j k l m F G H I J K L z7 M N n o z12 p q DK r T HQ;go_wp2;go_ret;exact⟨rfl,zA.o⟩
theorem Dh{V:List Nat}{e:TypeId}{size:Nat}{v:Value}{d:Zj}(h:w.ownsRow lo e size v n d)(i:Tn V w c)(g:∀b∈V,b<lo):c.ownsRow lo e size v n d:=
 Ak h (fun q a=>i.block q (Ac h a).2 (fun f=>by have j:=g q f;have k:=(Ac h a).1;omega))
theorem Aa.there(h:Aa w B l):w.there B 0 l.length:=fun j c=>by obtain⟨a,b⟩:=h j _ (Zv c);rw[Nat.zero_add];exact⟨by rw[a];rfl,b⟩
theorem Aa.range(h:Aa w B l):w.rangeAt B 0 l:=fun j v a=>by rw[Nat.zero_add];exact(h j v a).1
theorem Df(B:Nat):∀(vs:Zj) (o:Nat) (w:Zh),Tn [B] w (w.setCells B o vs)
 |[],_,w=>Tn.of (Below.refl _ _)
 |v::r,o,w=>(Tn.set w B o v Yv).trans (Df B r (o+1) (w.setCell (Ze B o) v))
theorem Aa.ck(h:Aa w B l)(a:Zj)(d:a.length=l.length):Aa (w.setCells B 0 a) B a:=fun j v c=>by have e:=(Zw c).1;have b:=World.rangeAt_setCells_same w B 0 a (d▸h.there) j v c;rw[Nat.zero_add]at b;refine⟨b,?_⟩;rw[World.frozen?_setCells];exact(h j _ (Zv Yw)).2
theorem Ce{e:Func}{p:Tmp}{c:TypeId}(h:e.results= #[.cell p c])(tmps:Array Value)(w:Zh)(b:Nat)(a:Zj)(d:TypeDesc)(k:tmps.getD p undef=Yz b)(g:w.rangeAt b 0 a)(hu:P.underlying c=some d)(i:d.isRow=true)(j:(P.info? c).map (·.size)=some a.length):
 (results e tmps).run P w=.ok (.agg a.toArray) w:=by
 have f:tmps[p]?.getD undef=Yz b:=by simpa using k
 simp[results,h,f,asAddr,run_loadVar_mid w b 0 c a d g hu i j]
theorem RC.ah{g p l:Nat}{b:List Kd}{d:List Pd}{c:List Ld}(h:RC w lo g p l b d c)(a:Zz w e):RC e lo g p l b d c:=⟨h.k.ah a,h.p.ah a,h.l.ah a⟩
def Ws(w:Zh)(lo:Nat)(a:Va)(v:Vd):Prop:=
 ∃(g k g3 q3 r3 g5 k5 lo1 lo2:Nat) (w2:Zh),a=⟨some ⟨g,0,none⟩,v.ss.length,some ⟨k,0,none⟩,v.C.length,some ⟨g3,0,none⟩,v.A.length,some ⟨q3,0,none⟩,v.ps.length,some ⟨r3,0,none⟩,v.ls.length,some ⟨g5,0,none⟩,v.D.length,some ⟨k5,0,none⟩,v.ms.length⟩/\
  g<k/\k<lo1/\lo<=lo1/\lo1<=lo2/\lo2<=w.heap.size/\g5<k5/\
  w.ownsRow lo 9 1 (.slice (some ⟨g,0,none⟩) v.ss.length v.ss.length) v.ss.length (v.ss.map Value.string)/\w.ownsRow lo 9 1 (.slice (some ⟨k,0,none⟩) v.C.length v.C.length) v.C.length (v.C.map Value.string)/\
  RC w2 lo1 g3 q3 r3 v.A v.ps v.ls/\w2.heap.size<=lo2/\(∀b,lo1<=b->b<w2.heap.size->w.heap[b]?=w2.heap[b]?)/\
  w.ownsRow lo2 9 1 (.slice (some ⟨g5,0,none⟩) v.D.length v.D.length) v.D.length (v.D.map Value.string)/\w.ownsRow lo2 9 1 (.slice (some ⟨k5,0,none⟩) v.ms.length v.ms.length) v.ms.length (v.ms.map Value.string)
theorem Ws.ah{l:Zh}{a:Va}{v:Vd}(h:Ws w lo a v)(F:w.heap.size<=l.heap.size)(d:∀b,lo<=b->b<w.heap.size->l.heap[b]?=w.heap[b]?):Ws l lo a v:=by obtain⟨g,k,s,H,I,t,G,p,r,J,u,x,y,z,A,B,C,i,j,D,m,n,e,f⟩:=h;refine⟨g,k,s,H,I,t,G,p,r,J,u,x,y,z,A,Zm B F,C,Ak i (fun q c=>d q (Ac i c).1 (Ac i c).2),Ak j (fun q c=>d q (Ac j c).1 (Ac j c).2),D,m,fun b E o=>(d b Yw Yw).trans (n b E o),Ak e (fun q c=>d q (by have:=(Ac e c).1;omega) (Ac e c).2),Ak f (fun q c=>d q (by have:=(Ac f c).1;omega) (Ac f c).2)⟩
structure JT (n kmax feq fmark:Nat) (R:Nat->Zh->Zj->Prop) (O:Nat->Nat->Zh->Zj->Prop) (M:Nat->Nat->Zh->Zj->Nat->Prop):Prop where
 eq:∀(X:Zh) (cs ds:Zj),R X.heap.size X cs->R X.heap.size X ds->Calls prog feq #[.agg cs.toArray,.agg ds.toArray] X fun e X'=>e=.returned (.bool true)/\Zz X X'
 mark:∀(lo N:Nat) (X:Zh) (cs:Zj) (k:Nat),O lo N X cs->1<=k->k<=kmax->Calls prog fmark #[.agg cs.toArray,Zg k] X fun e X'=>(∃K:Nat,e=.returned (Zg K)/\1<=K/\K<=90000000/\M lo N X' cs K)/\Below lo X X'/\∀q,N<=q->q<X.heap.size->X'.heap[q]?=X.heap[q]?
 dz:∀(L:Nat) (X X':Zh) (cs:Zj),R L X cs->Below L X X'->R L X' cs
 dt:∀(L L':Nat) (X:Zh) (cs:Zj),R L X cs->L<=L'->R L' X cs
 dw:∀(lo N:Nat) (X X':Zh) (cs:Zj),O lo N X cs->X.heap.size<=X'.heap.size->(∀q,lo<=q->q<N->X'.heap[q]?=X.heap[q]?)->O lo N X' cs
 keepM:∀(lo N:Nat) (X X':Zh) (cs:Zj) (K:Nat),M lo N X cs K->X.heap.size<=X'.heap.size->(∀q,lo<=q->q<N->X'.heap[q]?=X.heap[q]?)->M lo N X' cs K
 ij:∀(lo N:Nat) (X:Zh) (cs:Zj),O lo N X cs->N<=X.heap.size/\R X.heap.size X cs
 gd:∀(L:Nat) (X:Zh) (cs:Zj),R L X cs->cs.length=n/\∀u∈cs,u.oneCell'=true
structure L1 (RA:Nat->Zh->Zj->Prop) (w X:Zh) (A sc:Zj) (pS L:Nat):Prop where
 br:Below w.heap.size w X
 bA:Aa X w.heap.size A
 bS:Aa X pS sc
 rS:RA L X sc
 l0:w.heap.size<L
 l1:pS<L
 le:L<=X.heap.size
theorem L1.ah{c a:Nat}{d:Nat->Zh->Zj->Prop}{l:Nat->Nat->Zh->Zj->Prop}{j:Nat->Nat->Zh->Zj->Nat->Prop}(k:JT n c i a d l j){A:Zj}(h:L1 d w X A g f L)(b:Below L X e):L1 d w e A g f L:=
 ⟨h.br.trans (b.mono (by have:=h.l0;omega)),Aa.same h.bA (b.block _ h.l0),Aa.same h.bS (b.block _ h.l1),k.dz _ _ _ _ h.rS b,h.l0,h.l1,Zm h.le b.size⟩
structure L2 (OX:Nat->Nat->Zh->Zj->Prop) (X:Zh) (xc:Zj) (L pX N:Nat):Prop where
 bX:Aa X pX xc
 oX:OX L N X xc
 l1:N<=pX
 le:pX<X.heap.size
theorem L2.ah{c a:Nat}{RX:Nat->Zh->Zj->Prop}{d:Nat->Nat->Zh->Zj->Prop}{j:Nat->Nat->Zh->Zj->Nat->Prop}(k:JT n c i a RX d j)(h:L2 d X g L f N)(b:Zz X e):L2 d e g L f N:=
 ⟨Aa.same h.bX (b.block _ h.le),k.dw _ _ _ _ _ h.oX b.size (fun q _ l=>b.block q (by have:=h.l1;have:=h.le;omega)),h.l1,Zr h.le b.size⟩
structure L3 (P:Nat->Nat->Zh->Zj->Prop) (X:Zh) (gc:Zj) (lo pG N:Nat):Prop where
 bG:Aa X pG gc
 oG:P lo N X gc
 l1:N<=pG
 le:pG<X.heap.size
theorem L3.stays{P:Nat->Nat->Zh->Zj->Prop}(k:∀(lo N:Nat) (X a:Zh) (c:Zj),P lo N X c->X.heap.size<=a.heap.size->(∀q,lo<=q->q<N->a.heap[q]?=X.heap[q]?)->P lo N a c){a:Zh}{d:Zj}(h:L3 P X d lo b N)(l:B<=lo)(g:B<=b)(f:X.heap.size<=a.heap.size)(e:∀q,B<=q->q<X.heap.size->a.heap[q]?=X.heap[q]?):L3 P a d lo b N:=
 ⟨Aa.same h.bG (e _ g h.le),k _ _ _ _ _ h.oG f (fun q i j=>e q Yw (by have:=h.l1;have:=h.le;omega)),h.l1,Zr h.le f⟩
theorem L3.ah{P:Nat->Nat->Zh->Zj->Prop}(k:∀(lo N:Nat) (X a:Zh) (b:Zj),P lo N X b->X.heap.size<=a.heap.size->(∀q,lo<=q->q<N->a.heap[q]?=X.heap[q]?)->P lo N a b){a:Zh}{c:Zj}{e:Nat}(h:L3 P X c lo e N)(d:Zz X a):L3 P a c lo e N:=
 h.stays (B:=0) k (Nat.zero_le _) (Nat.zero_le _) d.size (fun q _ f=>d.block q f)
theorem boxed{cs z:Zj}{T:TypeId}(b:cs.length=z.length):Aa ((X.alloc (.cells z.toArray T)).setCells X.heap.size 0 cs) X.heap.size cs/\Zz X ((X.alloc (.cells z.toArray T)).setCells X.heap.size 0 cs)/\((X.alloc (.cells z.toArray T)).setCells X.heap.size 0 cs).heap.size=X.heap.size+1:=by have a:=Aa.new X z T;have c:=Df X.heap.size cs 0 (X.alloc (.cells z.toArray T));refine⟨a.ck cs b,(Zy).trans (c.below Yv Yv),?_⟩;rw[Gu];simp
theorem Ia{c:Array Oper}{rest:List Oper}{f:Oper}{a:Act}{Q:Exit->Act->Zh->Prop}(n:Region.wanted f (yielded c a.tmps)=true)(g:TypeId)(x:Operand)(m:f.op=.load g x)(b o:Nat)(p:a.eval x=Yy b o)(e:Zj)(d:TypeDesc)(j:w.rangeAt b o e)(hu:P.underlying g=some d)(k:d.isRow=true)(l:(P.info? g).map (·.size)=some e.length)(h:wpList P c Q rest (a.put f.dst (.agg e.toArray)) w):wpList P c Q (f::rest) a w:=
 wpList_step fun _ i=>by rw[if_pos n];exact wp_load_mid g x m b o p e d j hu k l (i _ _ h)
end Go.Proofs.YtcankpdbabaacaaGreatDoor
