import Derived.Test.YtlhhpofjkgmbeaaGreatDoorX19
import Derived.Laws.ResultCell
set_option maxRecDepth 100000
set_option maxHeartbeats 16000000
namespace Go.Proofs.YtlhhpofjkgmbeaaGreatDoor
open Go.ChangeShapes Go.WideShapes Go.ChangeAt Go.RowKit _root_.Go.Proofs.Tryz
def Bt(w:Zh)(b:Nat)(ph:Int)(Q M:Value)(ag at_ ro:Int):Prop:=
 w.cell? ⟨b,0,none⟩=some (.int .i64 ph)/\w.cell? ⟨b,1,none⟩=some Q/\w.cell? ⟨b,2,none⟩=some M/\w.cell? ⟨b,3,none⟩=some (.int .i64 ag)/\
  w.cell? ⟨b,4,none⟩=some (.int .i64 at_)/\w.cell? ⟨b,5,none⟩=some (.int .i64 ro)/\b<w.heap.size
theorem Bt.new(w:Zh)(b ag a c:Int)(Q M:Value)(t:TypeId):Bt (w.alloc (.cells #[Zg b,Q,M,Zg ag,Zg a,Zg c] t)) w.heap.size b Q M ag a c:=
 ⟨by simp,by simp,by simp,by simp,by simp,by simp,by simp⟩
theorem Bt.aj{w g:Zh}{b B:Nat}{e ag d f:Int}{Q M:Value}(h:Bt w b e Q M ag d f)(a:Below B w g)(c:b<B):Bt g b e Q M ag d f:=by
 obtain⟨i,j,k,l,m,n,o⟩:=h;exact⟨(a.cell (p:=⟨b,0,none⟩) c).trans i,(a.cell (p:=⟨b,1,none⟩) c).trans j,(a.cell (p:=⟨b,2,none⟩) c).trans k,(a.cell (p:=⟨b,3,none⟩) c).trans l,
  (a.cell (p:=⟨b,4,none⟩) c).trans m,(a.cell (p:=⟨b,5,none⟩) c).trans n,Zr o a.size⟩
theorem Bt.below{w e:Zh}{b:Nat}{c ag a d:Int}{Q M:Value}(h:Bt w b c Q M ag a d)(f:Zz w e):Bt e b c Q M ag a d:=h.aj f h.2.2.2.2.2.2
theorem Qf(a:Zk)(d:Nat)(b:Zl)(left:Int)(w:Zh)(B:Nat)(c:Ad w B a b)(j:b.length<=maxLen)(k:∀s∈b,s.size<=maxLen)(i:0<=left)(g:left<=1048576):
 Calls prog 29 #[.slice a b.length d,Zg left] w fun e f=>∃r:Int,e=.returned (Zg r)/\f=w/\r<=left/\(0<=r->b.length<=1048576):=by
 by_cases hfit:(b.length:Int)+aw b<=left
 ·refine(Ie a d b left w B c g hfit).mono ?_;rintro e f ⟨rfl,rfl⟩;exact⟨_,rfl,rfl,by omega,fun _=>by omega⟩
 ·refine(Kq a d b left w B c j k i g (by omega)).mono ?_;rintro e f ⟨rfl,rfl⟩;exact⟨_,rfl,rfl,by omega,fun h=>by omega⟩
structure Gj (qs ms:Zl):Prop where
 q:qs.length<=1048576
 m:ms.length<=1048576
theorem Pu(k ag g l:Int)(a b:Zk)(i j:Nat)(d c:Zl)(left:Int)(w:Zh)(u:Ad w w.heap.size a d)(t:Ad w w.heap.size b c)
 (q:d.length<=maxLen) (v:∀s∈d,s.size<=maxLen) (o:c.length<=maxLen) (p:∀s∈c,s.size<=maxLen) (A:0<=left) (B:left<=1048576):
 Calls prog 15 #[.agg (Yk k a d.length i b c.length j ag g l),Zg left] w fun e y=>∃r:Int,e=.returned (Zg r)/\Zz w y/\(0<=r->Gj d c):=by
 have f:Below w.heap.size w (w.alloc (.cells (Yk k a d.length i b c.length j ag g l) 31)):=Zy;go_enter func15,ntmps15;go_wp2_with fail;refine(Qf a i d _ _ w.heap.size (u.below f) q v (by omega) (by omega)).mono ?_;rintro e D ⟨r,rfl,rfl,C,m⟩;by_cases h3:r<0
 ·go_wp2;go_ret;exact⟨_,rfl,f,fun h=>by omega⟩
 ·go_wp2_with fail;refine(Qf b j c _ _ w.heap.size (t.below f) o p (by omega) (by omega)).mono ?_;rintro e E ⟨x,rfl,rfl,z,n⟩;by_cases h4:x<0
  ·go_wp2;go_ret;exact⟨_,rfl,f,fun h=>by omega⟩
  ·go_wp2;go_ret;exact⟨_,rfl,f,fun _=>⟨m (by omega),n (by omega)⟩⟩
theorem Pv(l ag f o:Int)(a b i j:Zk)(q r g h:Nat)(d c:Zl)(w:Zh)(y:Ad w w.heap.size a d)(x:Ad w w.heap.size b c)(v:Ad w w.heap.size i d)(u:Ad w w.heap.size j c)(t:Gj d c):
 Calls prog 24 #[.agg (Yk l a d.length q b c.length r ag f o),.agg (Yk l i d.length g j c.length h ag f o)] w fun e s=>e=.returned (.bool true)/\Zz w s:=by
 have k:Below w.heap.size w ((w.alloc (.cells (Yk l a d.length q b c.length r ag f o) 41)).alloc (.cells (Yk l i d.length g j c.length h ag f o) 41)):=(Zy).alloc (by simp) _;go_enter func24,ntmps24;go_wp2_with fail;refine(Ih a i q g d _ _ _ (y.below k) (v.below k) t.q).mono ?_;rintro e s ⟨rfl,n,rfl⟩;have p:=BV k n;go_wp2_with fail;refine(Ih b j r h c _ _ _ (x.below p) (u.below p) t.m).mono ?_
 rintro e s ⟨rfl,m,rfl⟩;go_wp2;go_ret;exact⟨rfl,BV k (n+m)⟩
theorem Pw(q ag n s:Int)(a b:Zk)(z A:Nat)(c j:Zl)(w:Zh)(T:Ad w w.heap.size a c)(S:Ad w w.heap.size b j)(O:Gj c j):
 Calls prog 19 #[.agg #[.int .i64 q,.slice a c.length z,.slice b j.length A,.int .i64 ag,.int .i64 n,.int .i64 s]] w fun e K=>∃g k,e=.returned (.agg #[.int .i64 q,.slice (some ⟨g,0,none⟩) c.length c.length,.slice (some ⟨k,0,none⟩) j.length j.length,.int .i64 ag,.int .i64 n,.int .i64 s])/\w.heap.size<=g/\g<k/\
  K.ownsRow w.heap.size 9 1 (.slice (some ⟨g,0,none⟩) c.length c.length) c.length (c.map Value.string)/\
  K.ownsRow w.heap.size 9 1 (.slice (some ⟨k,0,none⟩) j.length j.length) j.length (j.map Value.string)/\Zz w K:=by
 have x:Below w.heap.size w (((w.alloc (.cells #[.int .i64 q,.slice a c.length z,.slice b j.length A,.int .i64 ag,.int .i64 n,.int .i64 s] 31)).alloc (.cells #[.int .i64 0,.slice none 0 0,.slice none 0 0,.int .i64 0,.int .i64 0,.int .i64 0] 41)).alloc (.cells #[.int .i64 q,.slice none 0 0,.slice none 0 0,.int .i64 0,.int .i64 0,.int .i64 0] 41)):=((Zy).alloc (by simp) _).alloc (by simp;omega) _
 go_enter func19,ntmps19;go_wp2_with fail;refine(Ig a z c _ (T.af x) O.q).mono ?_;rintro e P ⟨g,rfl,Q,r,B⟩;have C:=x.trans (B.mono (by simp;omega));obtain⟨d,y⟩:=Jz B;have U:=B.size;simp at U Q;go_wp2_with fail;obtain⟨l,h⟩:∃l,l=P.setCell ⟨w.heap.size+1+1,1,none⟩ (.slice (some ⟨g,0,none⟩) c.length c.length):=⟨_,rfl⟩;have t:Below w.heap.size w l:=by rw[h];exact C.setCell (by simp;omega) _
 have zC:l.heap.size=P.heap.size:=by rw[h];simp
 have u:l.ownsRow (w.heap.size+3) 9 1 (.slice (some ⟨g,0,none⟩) c.length c.length) c.length (c.map Value.string):=by rw[h];exact(ownsRow_setCell_below r (by simp) _).mono (by simp)
 have G:Bt l (w.heap.size+1+1) q (.slice (some ⟨g,0,none⟩) c.length c.length) (.slice none 0 0) 0 0 0:=by rw[h];exact⟨by simp[go_sem,d],by simp[go_sem,d],by simp[go_sem,d],by simp[go_sem,d],by simp[go_sem,d],by simp[go_sem,d],by simp;omega⟩
 have H:Bt l (w.heap.size+1) 0 (.slice none 0 0) (.slice none 0 0) 0 0 0:=by rw[h];exact⟨by simp[go_sem,d],by simp[go_sem,d],by simp[go_sem,d],by simp[go_sem,d],by simp[go_sem,d],by simp[go_sem,d],by simp;omega⟩
 have I:Bt l w.heap.size q (.slice a c.length z) (.slice b j.length A) ag n s:=by rw[h];exact⟨by simp[go_sem,d],by simp[go_sem,d],by simp[go_sem,d],by simp[go_sem,d],by simp[go_sem,d],by simp[go_sem,d],by simp;omega⟩
 have N:∀o,l.frozen? ⟨w.heap.size+1+1,o,none⟩=false:=fun o=>by rw[h];simp[go_sem,y]
 have M:∀o,l.frozen? ⟨w.heap.size+1,o,none⟩=false:=fun o=>by rw[h];simp[go_sem,y]
 rw[←h];clear h r B d y;refine(Ig b A j _ (S.af t) O.m).mono ?_;rintro e L ⟨k,rfl,hk,m,f⟩;have zB:=f.size;obtain⟨x0,x1,x2,x3,x4,x5,x6⟩:=G.below f;obtain⟨V,W,X,Y,Z,y5,y6⟩:=H.below f;obtain⟨v0,v1,v2,v3,v4,v5,v6⟩:=I.below f;replace N:∀o,L.frozen? ⟨w.heap.size+1+1,o,none⟩=false:=fun o=>(f.frozen (p:=⟨w.heap.size+1+1,o,none⟩) (by simp;omega)).trans (N o)
 replace M:∀o,L.frozen? ⟨w.heap.size+1,o,none⟩=false:=fun o=>(f.frozen (p:=⟨w.heap.size+1,o,none⟩) (by simp;omega)).trans (M o);have zA:=(u.lt g rfl).2;have E:L.ownsRow (w.heap.size+3) 9 1 (.slice (some ⟨g,0,none⟩) c.length c.length) c.length (c.map Value.string):=u.kept (row:=none) ⟨f.os,f.tape,f.output,f.size,fun i R _=>f.block i R⟩ (.inr (by simp[Value.ownBlock]))
 have F:=m.mono (show w.heap.size+3<=l.heap.size by omega);have D:=t.trans (f.mono (by omega));have J:Hid _:=Zn E (Zn F D);clear E F D m u G H I f C t x;go_wp2
 refine bodyPost_ret (v:=.agg #[.int .i64 q,.slice (some ⟨g,0,none⟩) c.length c.length,.slice (some ⟨k,0,none⟩) j.length j.length,.int .i64 ag,.int .i64 n,.int .i64 s]) (by simp[results,results19,go_sem,V,W,X,Y,Z,y5]) rfl ⟨g,k,rfl,by omega,by omega,?_,?_,?_⟩
 ·refine World.ownsRow.mono ?_ (show w.heap.size<=w.heap.size+3 by omega)
  iterate 10 (refine ownsRow_setCell_below ?_ (by simp) _)
  exact J.o.1
 ·refine World.ownsRow.mono ?_ (show w.heap.size<=w.heap.size+3 by omega)
  iterate 10 (refine ownsRow_setCell_below ?_ (by simp) _)
  exact J.o.2.1
 ·iterate 10 (refine Below.setCell ?_ (by simp<;>omega) _)
  exact J.o.2.2
section
attribute [local go_sem↓] Go.wp_at_zero Go.wp_at_succ
theorem Px(z ag p C:Int)(q a:Zk)(B A y:Nat)(d:Zl)(w:Zh)(m:Ad w w.heap.size a d)(Z:d.length<=1048576):
 Calls prog 162 #[.agg (Yk z q B A a d.length y ag p C)] w fun e G=>∃b c f,e=.returned (.map (some b))/\w.heap.size<=b/\CF G 190 b d.length c f/\MK d f c/\Zz w G:=by
 have L:= @run_makeMap prog;go_enter func162,ntmps162;go_wp2;obtain⟨o,h⟩:∃W,W=(w.alloc (Obj.cells (Yk z q B A a d.length y ag p C) 41)).alloc (Obj.map #[] 0):=⟨_,rfl⟩;have I:Below w.heap.size w o:=by rw[h];exact(Zy).alloc (by simp) _
 have S:o.heap.size=w.heap.size+2:=by rw[h];simp
 have J:CF o 190 (w.heap.size+1) 0 0 (fun _=>none):=by have:=CF.new (w.alloc (Obj.cells (Yk z q B A a d.length y ag p C) 41)) 190;rw[h];rw[World.size_alloc]at this;exact this
 rw[←h];clear h L
 go_loopw [10] (fun i wr=>∃(k c:Nat) (f:Lit->Option Value),k<=d.length/\i=Zg k/\Hid (CF wr 190 (w.heap.size+1) k c f)/\Hid (MK (d.take k) f c)/\o.grownBy wr (some (w.heap.size+1))) (fun i _=>d.length -(intOf i).toNat)
 case atStart=>exact⟨0,0,_,Nat.zero_le _,rfl,J,by rw[List.take_zero];exact MK.nil,DI _ _⟩
 case round=>
  obtain⟨k,c,f,Y,rfl,E,s,r⟩:=hrel;have l:Below w.heap.size w wr:=I.grown r (by omega) (by intro j O;cases O;omega);have T:=r.size;by_cases hlt:k<d.length
  ·obtain⟨b,U,N,X,F⟩:=(m.below l).at hlt;subst N;have D:Hid (d[k]?=some d[k]):=Zv hlt;have V:=F k _ D.o;clear F m;generalize d[k]=x at *
   obtain⟨n,P,M,u,_⟩:=s.o.get (keyL x);have v:(d.take k).length=k:=by simp;omega
   rw[v]at u;have R:IntKind.i64.wrap (n+1)=n+1:=Ir (by omega) (by omega);go_wp2;go_region_with (first
    |(go_at_call 154;refine(Ij x _).mono ?_;rintro e Q ⟨rfl,t⟩;have g:Below wr.heap.size wr Q:=(Below.refl _ _).drew.trans (t.mono (by simp));obtain⟨st,w3,w4,he,hl1,hl3,hs4,hm4,hg3,hg4⟩:=(E.o.aj g (by omega)).bump keyed underlying225 (by unfold maxLen;omega) VY (EC x) (Zg (n+1));rw[P]at he hl1 hl3;unfold goInt at he hs4))
   all_goals
    have K:o.grownBy w4 (some (w.heap.size+1)):=Av r (Av (Au _ g) hg4);have HN:Hid (MK (d.take (k+1)) (upd f (keyL x) (Zg (n+1))) (if (f (keyL x)).isSome then c else c+1)):=by have:=s.o.snoc x M (by rw[v];exact u);rw[List.take_add_one,D.o];exact this
    have H:=Yx hm4;clear hm4 he hl1 hl3 hs4 hg3 hg4 g t;go_wp2;exact⟨⟨k+1,_,_,by omega,by go_num,H,HN,K⟩,by simp[intOf];omega⟩
  ·rw[Zt (by omega)]at s;obtain rfl:k=d.length:=by omega
   go_wp2;go_ret;exact⟨_,c,f,rfl,by omega,E.o,s.o,l⟩
end
section
attribute [local go_sem↓] Go.wp_at_zero Go.wp_at_succ
theorem Tw(s:Zi)(a:Int)(b:Nat)(w:Zh)(f:w.cell? (Ze b 0)=some (Zg a)):
 Calls prog 160 #[.string s,Yz b] w fun e d=>e=.returned (.bool (!decide ((s.size:Int)=a)))/\d=w:=by
 go_enter func160,ntmps160;by_cases h:(s.size:Int)=a
 ·have c:((s.size:Int) !=a)=false:=by simp[h]
  go_wp2;go_ret;exact⟨by simp[h],rfl⟩
 ·have c:((s.size:Int) !=a)=true:=by simp[h]
  go_wp2;go_ret;exact⟨by simp[h],rfl⟩
theorem MV(a:Zk)(t b:Nat)(c:Zl)(d:Int)(w:Zh)(B:Nat)(g:Ad w B a c)(H:c.length<=1048576)(z:w.cell? (Ze b 0)=some (Zg d)):
 Calls prog 192 #[.slice a c.length t,.func (.func 160) #[] #[Yz b]] w fun e A=>∃r:Int,e=.returned (Zg r)/\(0<=r↔∃s∈c,¬(s.size:Int)=d)/\A=w:=by
 go_enter func192,ntmps192;go_wp2
 go_loop [8] (fun i=>∃k:Nat,k<=c.length/\i=Zg k/\Hid (∀j x,j<k->c[j]?=some x->(x.size:Int)=d)) (fun i=>c.length -(intOf i).toNat)
 case atStart=>exact⟨0,Nat.zero_le _,rfl,fun j x h=>by omega⟩
 case round=>
  obtain⟨k,G,rfl,f⟩:=hrel;by_cases hlt:k<c.length
  ·obtain⟨D,C,v,F,l⟩:=g.at hlt;subst v;have n:=Yx (Zv hlt);have E:=l k _ n;clear l g;generalize c[k]=x at *
   go_wp2_with fail;refine(Tw x d b w z).mono ?_;rintro e I ⟨rfl,rfl⟩;by_cases h:(x.size:Int)=d
   ·have u:Hid (∀j y,j<k+1->c[j]?=some y->(y.size:Int)=d):=by
     intro j y q o;rcases Nat.lt_or_ge j k with p|p
     ·exact f j y p o
     ·obtain rfl:j=k:=by omega
      rw[n.o]at o;cases o;exact h
    have m:decide ((x.size:Int)=d)=true:=by simp[h]
    rw[m];go_wp2;exact⟨⟨k+1,by omega,by go_num,u⟩,by simp[intOf];omega⟩
   ·have m:decide ((x.size:Int)=d)=false:=by simp[h]
    rw[m];go_wp2;go_ret;exact⟨_,rfl,⟨fun _=>⟨x,Zs n.o,h⟩,fun _=>by omega⟩,rfl⟩
  ·go_wp2;go_ret;refine⟨_,rfl,⟨fun h=>by omega,fun⟨s,hs,h⟩=> ?_⟩,rfl⟩;obtain⟨j,q,rfl⟩:=List.getElem_of_mem hs;exact absurd (f j _ (by omega) (Zv q)) h
open Classical in
theorem GY(a:Zk)(g b:Nat)(c:Zl)(d:Int)(w:Zh)(B:Nat)(f:Ad w B a c)(m:c.length<=1048576)(k:w.cell? (Ze b 0)=some (Zg d)):
 Calls prog 161 #[.slice a c.length g,.func (.func 160) #[] #[Yz b]] w fun e n=>e=.returned (.bool (decide (∃s∈c,¬(s.size:Int)=d)))/\n=w:=by
 go_enter func161,ntmps161;go_wp2_with fail;refine(MV a g b c d w B f m k).mono ?_;rintro e o ⟨r,rfl,i,rfl⟩;by_cases h:0<=r
 ·have l:decide ((0:Int)<=r)=true:=by simpa using h
  go_wp2;go_ret;exact⟨by simp[i.1 h],rfl⟩
 ·have l:decide ((0:Int)<=r)=false:=by simpa using h
  have j:¬∃s∈c,¬(s.size:Int)=d:=fun e=>h (i.2 e);go_wp2;go_ret;exact⟨by rw[decide_eq_false j];rfl,rfl⟩
structure Ou (wd:Int) (qs ms:Zl):Prop where
 nq:qs.length<=23200
 nm:ms.length<=600
 q:∀s∈qs,(s.size:Int)=wd
 m:∀s∈ms,(s.size:Int)=wd
 nd:ms.Nodup
theorem Rw{i:Int}{a:Zl}(l:i<=8)(d:∀s∈a,(s.size:Int)=i):(a.map keyL).Nodup↔a.Nodup:=by
 induction a with
 |nil=>simp
 |cons x r f=>
  have f:=f (fun s j=>d s (by simp[j]));simp only[List.map_cons,List.nodup_cons,f];have m:=d x (by simp);constructor
  ·rintro⟨b,c⟩;exact⟨fun h=>b (List.mem_map.2 ⟨x,h,rfl⟩),c⟩
  ·rintro⟨b,c⟩;refine⟨fun h=> ?_,c⟩;obtain⟨y,g,e⟩:=List.mem_map.1 h;have k:=d y (by simp[g]);have:y=x:=key_inj e (by omega) (by omega);subst this;exact b g
theorem MW(n ag j o g:Int)(a b:Zk)(l m:Nat)(d c:Zl)(w:Zh)(N:Ad w w.heap.size a d)(D:Ad w w.heap.size b c)(r:Gj d c)(M:g<=8):
 Calls prog 136 #[.agg (Yk n a d.length l b c.length m ag j o),Zg g] w fun e P=>Ar (Ou g d c) w P e:=by
 have T:=r.q;have S:=r.m;have i:Below w.heap.size w ((w.alloc (.cells (Yk n a d.length l b c.length m ag j o) 41)).alloc (.cells #[Zg g] 3)):=(Zy).alloc (by simp) _;go_enter func136,ntmps136;by_cases h1:d.length<=23200
 ·have J:decide ((23200:Int)<(d.length:Int))=false:=by simp;omega
  by_cases h2:c.length<=600
  ·have K:decide ((600:Int)<(c.length:Int))=false:=by simp;omega
   go_wp2_with fail;refine(GY a l _ d g _ w.heap.size (N.below i) r.q (by simp[go_sem])).mono ?_;rintro e Y ⟨rfl,rfl⟩;by_cases h3:∃s∈d,¬(s.size:Int)=g
   ·rw[decide_eq_true h3];go_wp2;go_ret;exact Ar.no (fun h=>by obtain⟨s,k,A⟩:=h3;exact A (h.q s k)) i
   ·rw[decide_eq_false h3];go_wp2_with fail;refine(GY b m _ c g _ w.heap.size (D.below i) r.m (by simp[go_sem])).mono ?_;rintro e E ⟨rfl,rfl⟩;by_cases h4:∃s∈c,¬(s.size:Int)=g
    ·rw[decide_eq_true h4];go_wp2;go_ret;exact Ar.no (fun h=>by obtain⟨s,k,A⟩:=h4;exact A (h.m s k)) i
    ·rw[decide_eq_false h4];have y:∀s∈d,(s.size:Int)=g:=fun s k=>Classical.byContradiction fun h=>h3 ⟨s,k,h⟩;have v:∀s∈c,(s.size:Int)=g:=fun s k=>Classical.byContradiction fun h=>h4 ⟨s,k,h⟩;have z:=Yx (Zn y v);clear y v h3 h4;go_wp2_with fail;obtain⟨W,B⟩:∃W,W=((w.alloc (.cells (Yk n a d.length l b c.length m ag j o) 41)).alloc (.cells #[Zg g] 3)):=⟨_,rfl⟩
     have t:Bt W w.heap.size n (.slice a d.length l) (.slice b c.length m) ag j o:=by rw[B];exact(Bt.new w n ag j o _ _ 41).below (Zy)
     rw[←B]at i ⊢;have V:=Yx t;have F:=Yx (D.af i);obtain⟨Z,x1,Q,x3,x4,x5,R⟩:=t;clear B;go_region_with (first
      |(go_at_call 162;refine(Px n ag j o a b d.length l m c W.drew F.o (by omega)).mono ?_;rintro e E ⟨X,I,f,rfl,U,u,x,q⟩;have hlen:=fun O=>u.len underlying225 O;have y2:=(q.cell (p:=⟨w.heap.size,2,none⟩) R).trans Q))
     all_goals
      have G:Hid (Zz w E):=(i.drew.trans (q.mono i.size));have H:=Yx x;clear hlen u x q;go_wp2;go_ret;refine⟨_,rfl,?_,G.o⟩;have C:=H.o.all;rw[Rw M z.o.2]at C;have L:(I:Int)=c.length↔c.Nodup:=by rw[←C];omega
      simp only[beq_iff_eq,L];exact⟨fun h=>⟨h1,h2,z.o.1,z.o.2,h⟩,fun h=>h.nd⟩
  ·have K:decide ((600:Int)<(c.length:Int))=true:=by simp;omega
   go_wp2;go_ret;exact Ar.no (fun h=>h2 h.nm) i
 ·have J:decide ((23200:Int)<(d.length:Int))=true:=by simp;omega
  go_wp2;go_ret;exact Ar.no (fun h=>h1 h.nq) i
end
theorem Hs(n lo a:Int)(w:Zh):
 Calls prog 63 #[Zg n,Zg lo,Zg a] w fun e b=>e=.returned (.bool (decide (lo<=n/\n<=a)))/\b=w:=by
 by_cases h1:lo<=n
 ·by_cases h2:n<=a
  ·go_enter func63,ntmps63;go_wp2;go_ret;exact⟨Aw (by simp[h1,h2]),rfl⟩
  ·go_enter func63,ntmps63;go_wp2;go_ret;exact⟨Aw (by simp[h2]),rfl⟩
 ·have c:decide (lo<=n)=false:=by simpa using h1
  go_enter func63,ntmps63;go_wp2;go_ret;exact⟨Aw (by simp),rfl⟩
theorem Tx(n:Int)(w:Zh):
 Calls prog 135 #[Zg n] w fun e a=>e=.returned (.bool (decide (0<=n/\n<=1000000000)))/\a=w:=by
 by_cases h1:0<=n
 ·by_cases h2:n<=1000000000
  ·go_enter func135,ntmps135;go_wp2;go_ret;exact⟨Aw (by simp[h1,h2]),rfl⟩
  ·have c:decide (n<=1000000000)=false:=by simpa using h2
   go_enter func135,ntmps135;go_wp2;go_ret;exact⟨rfl,rfl⟩
 ·have b:decide (0<=n)=false:=by simpa using h1
  go_enter func135,ntmps135;go_wp2;go_ret;exact⟨rfl,rfl⟩
section
attribute [local go_sem↓] Go.wp_at_zero Go.wp_at_succ
def Ev(ae ph ag at_:Int)(qs ms:Zl):Prop:=
 (ph=0/\qs=[]/\ms=[]/\ag=0/\at_=0)∨(ph=1/\0<=ag/\ag<=ae/\at_=ag+1)∨(ph=2/\0<=ag/\ag<=ae/\1<=at_/\at_<=ag+1)
structure AR (wd ae ph ag at_ ro:Int) (qs ms:Zl):Prop where
 io:0<=ro
 ir:ro<=1000000000
 fc:Ou wd qs ms
 ph:Ev ae ph ag at_ qs ms
theorem LI(k ag c i j ae:Int)(a b:Zk)(q r:Nat)(g f:Zl)(w:Zh)(E:Ad w w.heap.size a g)(D:Ad w w.heap.size b f)(y:Gj g f)(C:j<=8)(G:ae<=1000000000):
 Calls prog 97 #[.agg (Yk k a g.length q b f.length r ag c i),Zg j,Zg ae] w fun e F=>Ar (AR j ae k ag c i g f) w F e:=by
 have I:=y.q;have H:=y.m;have s:Below w.heap.size w (w.alloc (.cells (Yk k a g.length q b f.length r ag c i) 41)):=Zy;have z:=Bt.new w k ag c i (.slice a g.length q) (.slice b f.length r) 41;go_enter func97,ntmps97;go_wp2_with fail;refine(Tx i _).mono ?_;rintro e M ⟨rfl,rfl⟩;by_cases h1:0<=i/\i<=1000000000
 ·rw[decide_eq_true h1];go_wp2_with fail;refine(MW k ag c i j a b q r g f _ (E.af s) (D.af s) y C).mono ?_;rintro e N ⟨B,rfl,p,o⟩;have d:=s.trans (o.mono (by simp));obtain⟨O,Q,R,S,T,U,V⟩:=z.below o;clear o z;cases B with
  |false=>go_wp2;go_ret;exact Ar.no (fun h=>by have:=p.2 h.fc;cases this) d
  |true=>
   have m:=p.1 rfl;have x:=Yx m;clear p m;by_cases p0:k=0
   ·subst p0;by_cases e1:g.length=0
    ·by_cases e2:f.length=0
     ·by_cases e3:ag=0
      ·by_cases e4:c=0
       ·go_wp2;go_ret;exact Ar.yes ⟨h1.1,h1.2,x.o,.inl ⟨rfl,List.eq_nil_of_length_eq_zero e1,List.eq_nil_of_length_eq_zero e2,e3,e4⟩⟩ d
       ·have v:(c==0)=false:=by simpa using e4
        go_wp2;go_ret;exact Ar.no (P:=AR j ae 0 ag c i g f) (fun h=>by have:=h.ph;unfold Ev at this;simp at this;have l:=this.2.2.2;omega) d
      ·have n:(ag==0)=false:=by simpa using e3
       go_wp2;go_ret;exact Ar.no (fun h=>by have:=h.ph;unfold Ev at this;simp at this;have l:=this.2.2.1;omega) d
     ·have u:((f.length:Int)==0)=false:=beq_eq_false_iff_ne.2 (by omega);go_wp2;go_ret;exact Ar.no (fun h=>by have:=h.ph;unfold Ev at this;simp at this;exact e2 (by rw[this.2.1];rfl)) d
    ·have t:((g.length:Int)==0)=false:=beq_eq_false_iff_ne.2 (by omega);go_wp2;go_ret;exact Ar.no (fun h=>by have:=h.ph;unfold Ev at this;simp at this;exact e1 (by rw[this.1];rfl)) d
   ·have J:(k==0)=false:=by simpa using p0
    by_cases p1:k=1
    ·subst p1;by_cases e1:0<=ag
     ·by_cases e2:ag<=ae
      ·have A:IntKind.i64.wrap (ag+1)=ag+1:=Ir (by omega) (by omega);by_cases e3:c=ag+1
       ·have n:(c==ag+1)=true:=by simpa using e3
        go_wp2;go_ret;exact Ar.yes (P:=AR j ae 1 ag c i g f) ⟨h1.1,h1.2,x.o,.inr (.inl ⟨rfl,e1,e2,e3⟩)⟩ d
       ·have n:(c==ag+1)=false:=by simpa using e3
        go_wp2;go_ret;exact Ar.no (P:=AR j ae 1 ag c i g f) (fun h=>by have:=h.ph;unfold Ev at this;simp at this;have l:=this.2.2;omega) d
      ·have u:decide (ag<=ae)=false:=by simpa using e2
       go_wp2;go_ret;exact Ar.no (P:=AR j ae 1 ag c i g f) (fun h=>by have:=h.ph;unfold Ev at this;simp at this;have l:=this.2.1;omega) d
     ·have t:decide (0<=ag)=false:=by simpa using e1
      go_wp2;go_ret;exact Ar.no (P:=AR j ae 1 ag c i g f) (fun h=>by have:=h.ph;unfold Ev at this;simp at this;have l:=this.1;omega) d
    ·have K:(k==1)=false:=by simpa using p1
     by_cases p2:k=2
     ·subst p2;by_cases e1:0<=ag
      ·by_cases e2:ag<=ae
       ·have A:IntKind.i64.wrap (ag+1)=ag+1:=Ir (by omega) (by omega);by_cases e3:1<=c
        ·by_cases e4:c<=ag+1
         ·have v:decide (c<=ag+1)=true:=by simpa using e4
          go_wp2;go_ret;exact Ar.yes (P:=AR j ae 2 ag c i g f) ⟨h1.1,h1.2,x.o,.inr (.inr ⟨rfl,e1,e2,e3,e4⟩)⟩ d
         ·have v:decide (c<=ag+1)=false:=by simpa using e4
          go_wp2;go_ret;exact Ar.no (P:=AR j ae 2 ag c i g f) (fun h=>by have:=h.ph;unfold Ev at this;simp at this;have l:=this.2.2.2;omega) d
        ·have n:decide (1<=c)=false:=by simpa using e3
         go_wp2;go_ret;exact Ar.no (P:=AR j ae 2 ag c i g f) (fun h=>by have:=h.ph;unfold Ev at this;simp at this;have l:=this.2.2.1;omega) d
       ·have u:decide (ag<=ae)=false:=by simpa using e2
        go_wp2;go_ret;exact Ar.no (P:=AR j ae 2 ag c i g f) (fun h=>by have:=h.ph;unfold Ev at this;simp at this;have l:=this.2.1;omega) d
      ·have t:decide (0<=ag)=false:=by simpa using e1
       go_wp2;go_ret;exact Ar.no (P:=AR j ae 2 ag c i g f) (fun h=>by have:=h.ph;unfold Ev at this;simp at this;have l:=this.1;omega) d
     ·have L:(k==2)=false:=by simpa using p2
      go_wp2;go_ret;exact Ar.no (P:=AR j ae k ag c i g f) (fun h=>by rcases h.ph with h|h|h;exact p0 h.1;exact p1 h.1;exact p2 h.1) d
 ·rw[decide_eq_false h1];go_wp2;go_ret;exact Ar.no (fun h=>h1 ⟨h.io,h.ir⟩) s
end
theorem Tz(a b:Zk)(c d:Nat)(f g:Zl)(left:Int)(w:Zh)(l:Ad w w.heap.size a f)(k:Ad w w.heap.size b g)
 (m:left<=1048576) (j:(f.length:Int)+aw f+g.length+aw g<=left):
 Calls prog 13 #[.agg #[.slice a f.length c,.slice b g.length d],Zg left] w fun e i=>e=.returned (Zg (left -f.length -aw f -g.length -aw g))/\Zz w i:=by
 have h:Below w.heap.size w (w.alloc (.cells #[.slice a f.length c,.slice b g.length d] 24)):=Zy;go_enter func13,ntmps13;go_wp2_with fail;refine(Ie a c f _ _ w.heap.size (l.below h) (by omega) (by omega)).mono ?_;rintro e i ⟨rfl,rfl⟩;go_wp2_with fail;refine(Ie b d g _ _ w.heap.size (k.below h) (by omega) (by omega)).mono ?_;rintro e i ⟨rfl,rfl⟩;go_wp2;go_ret;exact⟨rfl,h⟩
theorem Vj(a b:Zk)(c d:Nat)(f g:Zl)(left:Int)(w:Zh)(j:Ad w w.heap.size a f)(o:Ad w w.heap.size b g)
 (n:f.length<=maxLen) (p:∀s∈f,s.size<=maxLen) (k:g.length<=maxLen) (l:∀s∈g,s.size<=maxLen)
 (q:0<=left) (r:left<=1048576) (m:left<(f.length:Int)+aw f+g.length+aw g):
 Calls prog 13 #[.agg #[.slice a f.length c,.slice b g.length d],Zg left] w fun e i=>e=.returned (Zg (-1))/\Zz w i:=by
 have h:Below w.heap.size w (w.alloc (.cells #[.slice a f.length c,.slice b g.length d] 24)):=Zy;by_cases hn:left<(f.length:Int)+aw f
 ·go_enter func13,ntmps13;go_wp2_with fail;refine(Kq a c f _ _ w.heap.size (j.below h) n p (by omega) (by omega) (by omega)).mono ?_;rintro e i ⟨rfl,rfl⟩;go_wp2;go_ret;exact⟨rfl,h⟩
 ·go_enter func13,ntmps13;go_wp2_with fail;refine(Ie a c f _ _ w.heap.size (j.below h) (by omega) (by omega)).mono ?_;rintro e i ⟨rfl,rfl⟩;go_wp2_with fail;refine(Kq b d g _ _ w.heap.size (o.below h) k l (by omega) (by omega) (by omega)).mono ?_;rintro e i ⟨rfl,rfl⟩;go_wp2;go_ret;exact⟨rfl,h⟩
theorem TC(a b:Zk)(c d:Nat)(f l:Zl)(w:Zh)(P:Ad w w.heap.size a f)(O:Ad w w.heap.size b l)(N:f.length<=1048576)(K:l.length<=1048576):
 Calls prog 17 #[.agg #[.slice a f.length c,.slice b l.length d]] w fun e D=>∃g k,e=.returned (.agg #[Za g f.length f.length,Za k l.length l.length])/\w.heap.size<=g/\g<k/\
  D.ownsRow w.heap.size 9 1 (Za g f.length f.length) f.length (f.map Value.string)/\
  D.ownsRow w.heap.size 9 1 (Za k l.length l.length) l.length (l.map Value.string)/\Zz w D:=by
 have B:Below w.heap.size w (((w.alloc (.cells #[.slice a f.length c,.slice b l.length d] 24)).alloc (.cells #[Zc,Zc] 35)).alloc (.cells #[Zc,Zc] 35)):=((Zy).alloc (by simp) _).alloc (by simp;omega) _;go_enter func17,ntmps17;go_wp2_with fail;refine(Ig a c f _ (P.af B) N).mono ?_;rintro e H ⟨g,rfl,L,n,u⟩;have I:=B.trans (u.mono (by simp;omega));obtain⟨r,C⟩:=Jz u;have Q:=u.size;simp at Q L
 go_wp2_with fail;obtain⟨m,j⟩:∃m,m=H.setCell (Ze (w.heap.size+1+1) 0) (Za g f.length f.length):=⟨_,rfl⟩;have z:Below w.heap.size w m:=by rw[j];exact I.setCell (by simp;omega) _
 have T:m.heap.size=H.heap.size:=by rw[j];simp
 have A:m.ownsRow (w.heap.size+1) 9 1 (Za g f.length f.length) f.length (f.map Value.string):=by rw[j];exact(ownsRow_setCell_below n (by simp) _).mono (by simp)
 have x:m.cell? (Ze (w.heap.size+1+1) 0)=some (Za g f.length f.length):=by rw[j];simp[go_sem,r]
 have y:m.cell? (Ze (w.heap.size+1+1) 1)=some Zc:=by rw[j];simp[go_sem,r]
 have s:m.cell? (Ze (w.heap.size+1) 0)=some Zc:=by rw[j];simp[go_sem,r]
 have t:m.cell? (Ze (w.heap.size+1) 1)=some Zc:=by rw[j];simp[go_sem,r]
 have G:∀o,m.frozen? ⟨w.heap.size+1+1,o,none⟩=false:=fun o=>by rw[j];simp[go_sem,C]
 have F:∀o,m.frozen? ⟨w.heap.size+1,o,none⟩=false:=fun o=>by rw[j];simp[go_sem,C]
 rw[←j];clear j n u r C;refine(Ig b d l _ (O.af z) K).mono ?_;rintro e E ⟨k,rfl,U,q,h⟩;have S:=h.size;replace x:=(h.cell (p:=⟨w.heap.size+1+1,0,none⟩) (by simp;omega)).trans x;replace y:=(h.cell (p:=⟨w.heap.size+1+1,1,none⟩) (by simp;omega)).trans y;replace s:=(h.cell (p:=⟨w.heap.size+1,0,none⟩) (by simp;omega)).trans s;replace t:=(h.cell (p:=⟨w.heap.size+1,1,none⟩) (by simp;omega)).trans t
 replace G:∀o,E.frozen? ⟨w.heap.size+1+1,o,none⟩=false:=fun o=>(h.frozen (p:=⟨w.heap.size+1+1,o,none⟩) (by simp;omega)).trans (G o);replace F:∀o,E.frozen? ⟨w.heap.size+1,o,none⟩=false:=fun o=>(h.frozen (p:=⟨w.heap.size+1,o,none⟩) (by simp;omega)).trans (F o);have R:=(A.lt g rfl).2
 have J:E.ownsRow (w.heap.size+1) 9 1 (Za g f.length f.length) f.length (f.map Value.string):=A.kept (row:=none) ⟨h.os,h.tape,h.output,h.size,fun i M _=>h.block i M⟩ (.inr (by simp[Value.ownBlock]));go_wp2;refine bodyPost_ret (v:=.agg #[Za g f.length f.length,Za k l.length l.length]) (by simp[results,results17,go_sem,s,t]) rfl ⟨g,k,rfl,by omega,by omega,?_,?_,?_⟩
 ·refine(ownsRow_setCell_other (ownsRow_setCell_other (ownsRow_setCell_other J ?_ _) ?_ _) ?_ _).mono (by omega)<;>(simp[Value.ownBlock];omega)
 ·refine(ownsRow_setCell_other (ownsRow_setCell_other (ownsRow_setCell_other q ?_ _) ?_ _) ?_ _).mono (by omega)<;>(simp[Value.ownBlock];omega)
 ·exact(z.trans (h.mono (by omega))).setCell (by simp;omega) _|>.setCell (by simp) _|>.setCell (by simp) _
def Dc(ss tt:Zl):Bool:=decide (ss.length+tt.length<=4000)&&(ss++tt).all (fun s=>decide (s.size<=5000))
def Dp(ss:Zl):Bool:=ss.all (fun s=>decide (s.size<=5000))
theorem Ko(a b:Zl):Dc a b=(decide (a.length+b.length<=4000)&&(Dp a&&Dp b)):=by simp[Dc,Dp]
theorem Jp(a:Zl)(k:Nat)(s:Zi)(h:a[k]?=some s):Dp (a.take (k+1))=(Dp (a.take k)&&decide (s.size<=5000)):=by obtain⟨b,rfl⟩:=Zw h;unfold Dp;rw[Zu b,List.all_append,List.all_cons,List.all_nil,Bool.and_true]
theorem IF(a:Zl)(k:Nat)(s:Zi)(h:a[k]?=some s)(b:5000<s.size):Dp a=false:=by simp only[Dp,List.all_eq_false];exact⟨s,Zs h,by simp;omega⟩
theorem MY(a b:Zk)(c d:Nat)(f g:Zl)(w:Zh)(B:Nat)(G:B<=w.heap.size)(C:Ad w B a f)(A:Ad w B b g)(I:f.length<=1048576)(F:g.length<=1048576)
 (v:∀s∈f,s.size<=1048576) (r:∀s∈g,s.size<=1048576):
 Calls prog 64 #[.agg #[.slice a f.length c,.slice b g.length d]] w fun e D=>e=.returned (.bool (Dc f g))/\Zz w D:=by
 have l:Below w.heap.size w (w.alloc (.cells #[.slice a f.length c,.slice b g.length d] 35)):=Zy;go_enter func64,ntmps64;go_wp2
 go_loop [3] (fun i=>∃k:Nat,k<=f.length/\i=Zg k/\Dp (f.take k)=true) (fun i=>f.length -(intOf i).toNat)
 case atStart=>exact⟨0,Nat.zero_le _,rfl,by simp[Dp]⟩
 case round=>
  obtain⟨k,H,rfl,q⟩:=hrel;by_cases hlt:k<f.length
  ·obtain⟨p,t,u,z,m⟩:=C.at hlt;subst u;have x:=(l.cell (p:=⟨p,t+k,none⟩) (by simp;omega)).trans (m k f[k] (Zv hlt));have n:Hid (Dp (f.take (k+1))=(Dp (f.take k)&&decide (f[k].size<=5000))):=Jp f k _ (Zv hlt);have o:Hid (5000<f[k].size->Dp f=false):=IF f k _ (Zv hlt);have y:=v f[k] (List.getElem_mem hlt);clear m v r;generalize f[k]=s at *
   by_cases hbig:5000<s.size
   ·go_wp2;go_ret;exact⟨by rw[Ko,o.o hbig];simp,l⟩
   ·go_wp2;refine⟨⟨k+1,by omega,by go_num,?_⟩,by simp[intOf];omega⟩;rw[n.o,q];simp;omega
  ·rw[Zt (by omega)]at q;go_wp2
   go_loop [4] (fun i=>∃k:Nat,k<=g.length/\i=Zg k/\Dp (g.take k)=true) (fun i=>g.length -(intOf i).toNat)
   case atStart=>exact⟨0,Nat.zero_le _,rfl,by simp[Dp]⟩
   case round=>
    obtain⟨h,E,rfl,j⟩:=hrel;by_cases hlt2:h<g.length
    ·obtain⟨p,t,u,z,m⟩:=A.at hlt2;subst u;have x:=(l.cell (p:=⟨p,t+h,none⟩) (by simp;omega)).trans (m h g[h] (Zv hlt2));have n:Hid (Dp (g.take (h+1))=(Dp (g.take h)&&decide (g[h].size<=5000))):=Jp g h _ (Zv hlt2);have o:Hid (5000<g[h].size->Dp g=false):=IF g h _ (Zv hlt2);have y:=r g[h] (List.getElem_mem hlt2);clear m v r;generalize g[h]=s at *
     by_cases hbig:5000<s.size
     ·go_wp2;go_ret;exact⟨by rw[Ko,o.o hbig];simp,l⟩
     ·go_wp2;refine⟨⟨h+1,by omega,by go_num,?_⟩,by simp[intOf];omega⟩;rw[n.o,j];simp;omega
    ·rw[Zt (by omega)]at j;go_wp2;go_ret;refine⟨?_,l⟩;rw[Ko,q,j];simp;omega
theorem TD(a b h i:Zk)(c d l o:Nat)(f g:Zl)(w:Zh)(v:Ad w w.heap.size a f)(u:Ad w w.heap.size b g)(s:Ad w w.heap.size h f)(r:Ad w w.heap.size i g)
 (t:f.length<=1048576) (q:g.length<=1048576):
 Calls prog 22 #[.agg #[.slice a f.length c,.slice b g.length d],.agg #[.slice h f.length l,.slice i g.length o]] w fun e p=>e=.returned (.bool true)/\Zz w p:=by
 have j:Below w.heap.size w ((w.alloc (.cells #[.slice a f.length c,.slice b g.length d] 35)).alloc (.cells #[.slice h f.length l,.slice i g.length o] 35)):=(Zy).alloc (by simp) _;go_enter func22,ntmps22;go_wp2_with fail;refine(Ih a h c l f _ _ _ (v.below j) (s.below j) t).mono ?_;rintro e p ⟨rfl,n,rfl⟩;have k:=BV j n;go_wp2_with fail;refine(Ih b i d o g _ _ _ (u.below k) (r.below k) q).mono ?_
 rintro e p ⟨rfl,m,rfl⟩;go_wp2;go_ret;exact⟨rfl,BV j (n+m)⟩
structure Vd where
 wd:Int
 ak:Int
 ss:Zl
 tt:Zl
 sw:Int
 now:Int
 given:Int
 ae:Int
 ks:List Kd
 ps:List Pd
 ls:List Ld
 ph:Int
 qs:Zl
 ms:Zl
 ag:Int
 at_:Int
 ro:Int
structure Va where
 sa:Zk
 sc:Nat
 ta:Zk
 tc:Nat
 ka:Zk
 kc:Nat
 pa:Zk
 pc:Nat
 la:Zk
 lc:Nat
 qa:Zk
 qc:Nat
 ma:Zk
 mc:Nat
abbrev Yi(v:Vd)(a:Va):Array Value:=#[.int .i64 v.wd,.int .i64 v.ak,.slice a.sa v.ss.length a.sc,.slice a.ta v.tt.length a.tc,.int .i64 v.sw,.int .i64 v.now,.int .i64 v.given,.int .i64 v.ae,.slice a.ka v.ks.length a.kc,.slice a.pa v.ps.length a.pc,.slice a.la v.ls.length a.lc,.int .i64 v.ph,.slice a.qa v.qs.length a.qc,.slice a.ma v.ms.length a.mc,.int .i64 v.ag,.int .i64 v.at_,.int .i64 v.ro]
abbrev Yh(v:Vd)(a:Va):List Value:=[.int .i64 v.wd,.int .i64 v.ak,.slice a.sa v.ss.length a.sc,.slice a.ta v.tt.length a.tc,.int .i64 v.sw,.int .i64 v.now,.int .i64 v.given,.int .i64 v.ae,.slice a.ka v.ks.length a.kc,.slice a.pa v.ps.length a.pc,.slice a.la v.ls.length a.lc,.int .i64 v.ph,.slice a.qa v.qs.length a.qc,.slice a.ma v.ms.length a.mc,.int .i64 v.ag,.int .i64 v.at_,.int .i64 v.ro]
abbrev Ye(v:Vd)(a:Option Addr)(b:Nat)(c:Option Addr)(d:Nat)(e:Option Addr)(f:Nat)(g:Option Addr)(h:Nat)(i:Option Addr)(j:Nat)(k:Option Addr)(l:Nat)(m:Option Addr)(n:Nat):Array Value:=#[.int .i64 v.wd,.int .i64 v.ak,.slice a v.ss.length b,.slice c v.tt.length d,.int .i64 v.sw,.int .i64 v.now,.int .i64 v.given,.int .i64 v.ae,.slice e v.ks.length f,.slice g v.ps.length h,.slice i v.ls.length j,.int .i64 v.ph,.slice k v.qs.length l,.slice m v.ms.length n,.int .i64 v.ag,.int .i64 v.at_,.int .i64 v.ro]
abbrev Yd(v:Vd)(a:Option Addr)(b:Nat)(c:Option Addr)(d:Nat)(e:Option Addr)(f:Nat)(g:Option Addr)(h:Nat)(i:Option Addr)(j:Nat)(k:Option Addr)(l:Nat)(m:Option Addr)(n:Nat):List Value:=[.int .i64 v.wd,.int .i64 v.ak,.slice a v.ss.length b,.slice c v.tt.length d,.int .i64 v.sw,.int .i64 v.now,.int .i64 v.given,.int .i64 v.ae,.slice e v.ks.length f,.slice g v.ps.length h,.slice i v.ls.length j,.int .i64 v.ph,.slice k v.qs.length l,.slice m v.ms.length n,.int .i64 v.ag,.int .i64 v.at_,.int .i64 v.ro]
structure BR (w:Zh) (B:Nat) (a:Va) (v:Vd):Prop where
 s:Ad w B a.sa v.ss
 t:Ad w B a.ta v.tt
 st:Bv w B a.ka a.pa a.la v.ks v.ps v.ls
 q:Ad w B a.qa v.qs
 m:Ad w B a.ma v.ms
theorem BR.aj{w c:Zh}{B:Nat}{a:Va}{v:Vd}(h:BR w B a v)(b:Below B w c):BR c B a v:=
 ⟨h.s.below b,h.t.below b,h.st.aj b,h.q.below b,h.m.below b⟩
theorem BR.mono{w:Zh}{B B':Nat}{a:Va}{v:Vd}(h:BR w B a v)(b:B<=B'):BR w B' a v:=
 ⟨h.s.mono b,h.t.mono b,h.st.mono b,h.q.mono b,h.m.mono b⟩
theorem BR.af{w b:Zh}{a:Va}{v:Vd}(h:BR w w.heap.size a v)(c:Zz w b):BR b b.heap.size a v:=(h.aj c).mono c.size
structure Aae (a:Va) (v:Vd):Prop where
 s:a.sa=none->v.ss.length=0/\a.sc=0
 t:a.ta=none->v.tt.length=0/\a.tc=0
 m:v.ms.length<=a.mc
structure Cr (v:Vd):Prop where
 s:v.ss.length<=1048576
 t:v.tt.length<=1048576
 ss:∀s∈v.ss,s.size<=1048576
 tt:∀s∈v.tt,s.size<=1048576
 st:Nw v.ks v.ps v.ls
 r:Gj v.qs v.ms
 rn:AF v.ks<=1048576
structure CM (v:Vd) (r:Rs):Prop where
 wd:1<=v.wd/\v.wd<=8
 ak:0<=v.ak/\v.ak<=1000000
 log:Dc v.ss v.tt=true
 run:Da v.wd r0 (v.ss++v.tt) r
 same:(v.wd=v.sw/\r.now=v.now/\r.given=v.given/\r.ae=v.ae)/\r.ks=v.ks/\r.ps=v.ps/\r.ls=v.ls
 round:AR v.wd v.ae v.ph v.ag v.at_ v.ro v.qs v.ms
def Ei(v:Vd):Prop:=∃r,CM v r
theorem IG{a b:Zl}(h:Dc a b=true):(a++b).length<=4000:=by unfold Dc at h;simp at h;rw[List.length_append];exact h.1
theorem Fy{w:Zh}{b:Nat}{j k l m n o p q r s a c d e f g i:Value}(h:Aa w b [j,k,l,m,n,o,p,q,r,s,a,c,d,e,f,g,i]):w.cell? (Ze b 0)=some j/\w.cell? (Ze b 1)=some k/\w.cell? (Ze b 2)=some l/\w.cell? (Ze b 3)=some m/\w.cell? (Ze b 4)=some n/\w.cell? (Ze b 5)=some o/\w.cell? (Ze b 6)=some p/\w.cell? (Ze b 7)=some q/\w.cell? (Ze b 8)=some r/\w.cell? (Ze b 9)=some s/\w.cell? (Ze b 10)=some a/\w.cell? (Ze b 11)=some c/\w.cell? (Ze b 12)=some d/\w.cell? (Ze b 13)=some e/\w.cell? (Ze b 14)=some f/\w.cell? (Ze b 15)=some g/\w.cell? (Ze b 16)=some i:=
 ⟨(h 0 _ rfl).1,(h 1 _ rfl).1,(h 2 _ rfl).1,(h 3 _ rfl).1,(h 4 _ rfl).1,(h 5 _ rfl).1,(h 6 _ rfl).1,(h 7 _ rfl).1,(h 8 _ rfl).1,(h 9 _ rfl).1,(h 10 _ rfl).1,(h 11 _ rfl).1,(h 12 _ rfl).1,(h 13 _ rfl).1,(h 14 _ rfl).1,(h 15 _ rfl).1,(h 16 _ rfl).1⟩
structure Vk (v:Vd):Prop where
 s:v.ss.length<=maxLen
 ss:∀s∈v.ss,s.size<=maxLen
 t:v.tt.length<=maxLen
 tt:∀s∈v.tt,s.size<=maxLen
 k:Ns v.ks
 p:Nt v.ps
 l:Nu v.ls
 q:v.qs.length<=maxLen
 qs:∀s∈v.qs,s.size<=maxLen
 m:v.ms.length<=maxLen
 ms:∀s∈v.ms,s.size<=maxLen
theorem Py(v:Vd)(a:Va)(w:Zh)(t:BR w w.heap.size a v)(q:Vk v):
 Calls prog 4 #[.agg (Yi v a),Zg 1048576] w fun e u=>∃r:Int,e=.returned (Zg r)/\Zz w u/\(0<=r->Cr v):=by
 obtain⟨W,K⟩:∃W,W=w.alloc (.cells (Yi v a) 33):=⟨_,rfl⟩;have p:=(AG K).1;have V:=(AG K).2.2;have HX:Hid (∀X,Zz W X->Aa X w.heap.size (Yh v a)):=fun X hX=>Aa.below V hX;have HW:=Yx K;have R:=Yx t;have m:=Yx q
 have hL:Calls prog 13 #[.agg #[.slice a.sa v.ss.length a.sc,.slice a.ta v.tt.length a.tc],Zg 1048576] W fun e u=>∃r:Int,e=.returned (Zg r)/\Zz W u/\r<=1048576/\(0<=r->(v.ss.length:Int)+aw v.ss+v.tt.length+aw v.tt<=1048576):=by
  by_cases hfit:(v.ss.length:Int)+aw v.ss+v.tt.length+aw v.tt<=1048576
  ·refine(Tz a.sa a.ta a.sc a.tc v.ss v.tt 1048576 W (t.s.af p) (t.t.af p) (by omega) hfit).mono ?_;rintro e u ⟨rfl,S⟩;exact⟨_,rfl,S,by omega,fun _=>hfit⟩
  ·refine(Vj a.sa a.ta a.sc a.tc v.ss v.tt 1048576 W (t.s.af p) (t.t.af p) q.s q.ss q.t q.tt (by omega) (by omega) (by omega)).mono ?_;rintro e u ⟨rfl,S⟩;exact⟨_,rfl,S,by omega,fun h=>by omega⟩
 have Y:=Yx hL;obtain⟨x,y,z,A,B,C,D,E,F,G,c,d,f,g,j,k,l⟩:=Fy V;clear K V t q hL;go_enter func4,ntmps4;go_wp2_with fail;rw[←HW.o];refine Calls.mono Y.o ?_;rintro e w1 ⟨r1,rfl,I,zE,O⟩;have H:=Yx I;have o:=Yx (p.trans (I.mono p.size));clear x y z A B C D E F G c d f g j k l I Y HW;by_cases n1:r1<0
 ·go_wp2;go_ret;exact⟨_,rfl,o.o,fun h=>by omega⟩
 ·have zB:=Yx (O (by omega));obtain⟨x,y,z,A,B,C,D,E,F,G,c,d,f,g,j,k,l⟩:=Fy (HX.o w1 H.o);have Z:=Yx (Sw v.sw v.now v.given v.ae a.ka a.pa a.la a.kc a.pc a.lc v.ks v.ps v.ls r1 w1 (R.o.st.af o.o) m.o.k m.o.p m.o.l (by omega) (by omega));clear O;go_wp2_with fail;refine Calls.mono Z.o ?_;rintro e w2 ⟨r2,rfl,J,zF,P⟩;have zA:=Yx (H.o.trans (J.mono H.o.size));have b:=Yx (o.o.trans (J.mono o.o.size))
  clear x y z A B C D E F G c d f g j k l J Z;by_cases n2:r2<0
  ·go_wp2;go_ret;exact⟨_,rfl,b.o,fun h=>by omega⟩
  ·have L:=Yx (P (by omega));obtain⟨x,y,z,A,B,C,D,E,F,G,c,d,f,g,j,k,l⟩:=Fy (HX.o w2 zA.o);have M:=Yx (Pu v.ph v.ag v.at_ v.ro a.qa a.ma a.qc a.mc v.qs v.ms r2 w2 (R.o.q.af b.o) (R.o.m.af b.o) m.o.q m.o.qs m.o.m m.o.ms (by omega) (by omega));clear P;go_wp2_with fail;refine Calls.mono M.o ?_;rintro e w3 ⟨r3,rfl,N,Q⟩;have n:=Yx (b.o.trans (N.mono b.o.size));have zC:Hid (0<=r3->Cr v):=fun h=>by
    have h1:=zB.o;refine⟨by omega,by omega,fun s U=> ?_,fun s U=> ?_,L.o.1,Q h,L.o.2⟩
    ·obtain⟨i,T⟩:=List.getElem?_of_mem U;have:=PO v.ss i s T;omega
    ·obtain⟨i,T⟩:=List.getElem?_of_mem U;have:=PO v.tt i s T;omega
   clear x y z A B C D E F G c d f g j k l N M Q;by_cases n3:r3<0
   ·go_wp2;go_ret;exact⟨_,rfl,n.o,fun h=>by omega⟩
   ·go_wp2;go_ret;exact⟨_,rfl,n.o,zC.o⟩
theorem JV(v:Vd)(a b:Va)(w:Zh)(hr:BR w w.heap.size a v)(hq:BR w w.heap.size b v)(R:Cr v):
 Calls prog 9 #[.agg (Yi v a),.agg (Yi v b)] w fun e w'=>e=.returned (.bool true)/\Zz w w':=by
 obtain⟨W,t⟩:∃W,W=(w.alloc (.cells (Yi v a) 43)).alloc (.cells (Yi v b) 43):=⟨_,rfl⟩;have Q:=(AW t).1;have Z:=(AW t).2.2.1;have x1:Aa W (w.heap.size+1) (Yh v b):=by have h1:=Aa.new (w.alloc (.cells (Yi v a) 43)) (Yh v b) 43;rw[World.size_alloc]at h1;rw[t];exact h1
 have P:Hid (∀X,Zz W X->Aa X w.heap.size (Yh v a)/\Aa X (w.heap.size+1) (Yh v b)):=fun X hX=>⟨Aa.below Z hX,Aa.below x1 hX⟩;have d:=Yx (Zn (hr.af Q) (hq.af Q));have HW:=Yx t;obtain⟨u,x,y,z,A,B,C,D,E,F,g,h,i,j,k,l,m⟩:=Fy Z;obtain⟨G,H,I,J,K,L,M,z7,N,O,n,o,z12,p,q,r,s⟩:=Fy x1;clear t Z x1 hr hq
 have HL:=Yx (TD a.sa a.ta b.sa b.ta a.sc a.tc b.sc b.tc v.ss v.tt W d.o.1.s d.o.1.t d.o.2.s d.o.2.t R.s R.t);go_enter func9,ntmps9;go_upto_region 1 with fail;rw[←HW.o];clear HW;go_wp2_with fail;refine Calls.mono HL.o ?_;rintro e V ⟨rfl,S⟩;have f:=Yx S;clear u x y z A B C D E F g h i j k l m G H I J K L M z7 N O n o z12 p q r s S HL;obtain⟨u,x,y,z,A,B,C,D,E,F,g,h,i,j,k,l,m⟩:=Fy (P.o V f.o).1
 obtain⟨G,H,I,J,K,L,M,z7,N,O,n,o,z12,p,q,r,s⟩:=Fy (P.o V f.o).2;have HS:=Yx (Pt v.sw v.now v.given v.ae a.ka a.pa a.la b.ka b.pa b.la a.kc a.pc a.lc b.kc b.pc b.lc v.ks v.ps v.ls V (d.o.1.st.af f.o) (d.o.2.st.af f.o) R.st);go_wp2_with fail;refine Calls.mono HS.o ?_;rintro e Y ⟨rfl,T⟩;have c:=Yx (f.o.trans (T.mono f.o.size))
 clear u x y z A B C D E F g h i j k l m G H I J K L M z7 N O n o z12 p q r s T HS;obtain⟨u,x,y,z,A,B,C,D,E,F,g,h,i,j,k,l,m⟩:=Fy (P.o Y c.o).1;obtain⟨G,H,I,J,K,L,M,z7,N,O,n,o,z12,p,q,r,s⟩:=Fy (P.o Y c.o).2;have HQ:=Yx (Pv v.ph v.ag v.at_ v.ro a.qa a.ma b.qa b.ma a.qc a.mc b.qc b.mc v.qs v.ms Y (d.o.1.q.af c.o) (d.o.1.m.af c.o) (d.o.2.q.af c.o) (d.o.2.m.af c.o) R.r);go_wp2_with fail
 refine Calls.mono HQ.o ?_;rintro e w3 ⟨rfl,U⟩;have zA:=Yx (Q.trans ((c.o.trans (U.mono c.o.size)).mono Q.size));clear u x y z A B C D E F g h i j k l m G H I J K L M z7 N O n o z12 p q r s U HQ;go_wp2;go_ret;exact⟨rfl,zA.o⟩
theorem Bn{V:List Nat}{w c:Zh}{lo:Nat}{e:TypeId}{size:Nat}{v:Value}{n:Nat}{d:Zj}(h:w.ownsRow lo e size v n d)(i:Tn V w c)(g:∀b∈V,b<lo):c.ownsRow lo e size v n d:=
 Ai h (fun q a=>i.block q (Ac h a).2 (fun f=>by have j:=g q f;have k:=(Ac h a).1;omega))
theorem Aa.there{w:Zh}{B:Nat}{l:Zj}(h:Aa w B l):w.there B 0 l.length:=fun j c=>by obtain⟨a,b⟩:=h j _ (Zv c);rw[Nat.zero_add];exact⟨by rw[a];rfl,b⟩
theorem Aa.range{w:Zh}{B:Nat}{l:Zj}(h:Aa w B l):w.rangeAt B 0 l:=fun j v a=>by rw[Nat.zero_add];exact(h j v a).1
theorem AP(B:Nat):∀(vs:Zj) (o:Nat) (w:Zh),Tn [B] w (w.setCells B o vs)
 |[],_,w=>Tn.of (Below.refl _ _)
 |v::r,o,w=>(Tn.set w B o v (by simp)).trans (AP B r (o+1) (w.setCell (Ze B o) v))
theorem Aa.ba{w:Zh}{B:Nat}{l:Zj}(h:Aa w B l)(a:Zj)(d:a.length=l.length):Aa (w.setCells B 0 a) B a:=fun j v c=>by have e:=(Zw c).1;have b:=World.rangeAt_setCells_same w B 0 a (d▸h.there) j v c;rw[Nat.zero_add]at b;refine⟨b,?_⟩;rw[World.frozen?_setCells];exact(h j _ (Zv (by omega))).2
theorem BN{P:Program}{e:Func}{p:Tmp}{c:TypeId}(h:e.results= #[.cell p c])(tmps:Array Value)(w:Zh)(b:Nat)(a:Zj)(d:TypeDesc)
 (k:tmps.getD p undef=Yz b) (g:w.rangeAt b 0 a) (l:P.underlying c=some d) (i:d.isRow=true) (j:(P.info? c).map (·.size)=some a.length):
 (results e tmps).run P w=.ok (.agg a.toArray) w:=by
 have f:tmps[p]?.getD undef=Yz b:=by simpa using k
 simp[results,h,f,asAddr,run_loadVar_mid w b 0 c a d g l i j]
theorem GH.tn{V:List Nat}{w k:Zh}{lo g p l:Nat}{e:List Kd}{j:List Pd}{f:List Ld}(h:GH w lo g p l e j f)(c:Tn V w k)(a:∀b∈V,b<lo):GH k lo g p l e j f:=by obtain⟨D,d,u,t⟩:=h.k;obtain⟨C,y,n⟩:=h.p;obtain⟨B,v,m⟩:=h.l;refine⟨⟨D,Bn d c a,fun i x A=> ?_,t⟩,⟨C,Bn y c a,n⟩,⟨B,Bn v c a,m⟩⟩;obtain⟨o,q,c2,r,c3,z⟩:=u i x A;exact⟨o,q,c2,r,c3,Bn z c (fun b s=>by have E:=a b s;have F:=(d.lt g rfl).1;omega)⟩
theorem GH.aj{w e:Zh}{lo g p l:Nat}{b:List Kd}{d:List Pd}{c:List Ld}(h:GH w lo g p l b d c)(a:Zz w e):GH e lo g p l b d c:=⟨h.k.aj a,h.p.aj a,h.l.aj a⟩
def Vl(w:Zh)(lo:Nat)(a:Va)(v:Vd):Prop:=
 ∃(g k g3 q3 r3 g5 k5 lo1 lo2:Nat) (w2:Zh),a=⟨some ⟨g,0,none⟩,v.ss.length,some ⟨k,0,none⟩,v.tt.length,some ⟨g3,0,none⟩,v.ks.length,some ⟨q3,0,none⟩,v.ps.length,some ⟨r3,0,none⟩,v.ls.length,some ⟨g5,0,none⟩,v.qs.length,some ⟨k5,0,none⟩,v.ms.length⟩/\
  g<k/\k<lo1/\lo<=lo1/\lo1<=lo2/\lo2<=w.heap.size/\g5<k5/\
  w.ownsRow lo 9 1 (.slice (some ⟨g,0,none⟩) v.ss.length v.ss.length) v.ss.length (v.ss.map Value.string)/\w.ownsRow lo 9 1 (.slice (some ⟨k,0,none⟩) v.tt.length v.tt.length) v.tt.length (v.tt.map Value.string)/\
  GH w2 lo1 g3 q3 r3 v.ks v.ps v.ls/\w2.heap.size<=lo2/\(∀b,lo1<=b->b<w2.heap.size->w.heap[b]?=w2.heap[b]?)/\
  w.ownsRow lo2 9 1 (.slice (some ⟨g5,0,none⟩) v.qs.length v.qs.length) v.qs.length (v.qs.map Value.string)/\w.ownsRow lo2 9 1 (.slice (some ⟨k5,0,none⟩) v.ms.length v.ms.length) v.ms.length (v.ms.map Value.string)
theorem Vl.aj{w l:Zh}{lo:Nat}{a:Va}{v:Vd}(h:Vl w lo a v)(F:w.heap.size<=l.heap.size)(d:∀b,lo<=b->b<w.heap.size->l.heap[b]?=w.heap[b]?):Vl l lo a v:=by obtain⟨g,k,s,H,I,t,G,p,r,J,u,x,y,z,A,B,C,i,j,D,m,n,e,f⟩:=h;refine⟨g,k,s,H,I,t,G,p,r,J,u,x,y,z,A,Zm B F,C,Ai i (fun q c=>d q (Ac i c).1 (Ac i c).2),Ai j (fun q c=>d q (Ac j c).1 (Ac j c).2),D,m,fun b E o=>(d b (by omega) (by omega)).trans (n b E o),Ai e (fun q c=>d q (by have:=(Ac e c).1;omega) (Ac e c).2),Ai f (fun q c=>d q (by have:=(Ac f c).1;omega) (Ac f c).2)⟩
structure Iq (n kmax feq fmark:Nat) (R:Nat->Zh->Zj->Prop) (O:Nat->Nat->Zh->Zj->Prop) (M:Nat->Nat->Zh->Zj->Nat->Prop):Prop where
 eq:∀(X:Zh) (cs ds:Zj),R X.heap.size X cs->R X.heap.size X ds->Calls prog feq #[.agg cs.toArray,.agg ds.toArray] X fun e X'=>e=.returned (.bool true)/\Zz X X'
 mark:∀(lo N:Nat) (X:Zh) (cs:Zj) (k:Nat),O lo N X cs->1<=k->k<=kmax->Calls prog fmark #[.agg cs.toArray,Zg k] X fun e X'=>(∃K:Nat,e=.returned (Zg K)/\1<=K/\K<=90000000/\M lo N X' cs K)/\Below lo X X'/\∀q,N<=q->q<X.heap.size->X'.heap[q]?=X.heap[q]?
 dj:∀(L:Nat) (X X':Zh) (cs:Zj),R L X cs->Below L X X'->R L X' cs
 dd:∀(L L':Nat) (X:Zh) (cs:Zj),R L X cs->L<=L'->R L' X cs
 db:∀(lo N:Nat) (X X':Zh) (cs:Zj),O lo N X cs->X.heap.size<=X'.heap.size->(∀q,lo<=q->q<N->X'.heap[q]?=X.heap[q]?)->O lo N X' cs
 gi:∀(lo N:Nat) (X X':Zh) (cs:Zj) (K:Nat),M lo N X cs K->X.heap.size<=X'.heap.size->(∀q,lo<=q->q<N->X'.heap[q]?=X.heap[q]?)->M lo N X' cs K
 ga:∀(lo N:Nat) (X:Zh) (cs:Zj),O lo N X cs->N<=X.heap.size/\R X.heap.size X cs
 dy:∀(L:Nat) (X:Zh) (cs:Zj),R L X cs->cs.length=n/\∀u∈cs,u.oneCell'=true
structure L1 (RA:Nat->Zh->Zj->Prop) (w X:Zh) (A sc:Zj) (pS L:Nat):Prop where
 cf:Below w.heap.size w X
 bA:Aa X w.heap.size A
 bS:Aa X pS sc
 rS:RA L X sc
 l0:w.heap.size<L
 l1:pS<L
 le:L<=X.heap.size
theorem L1.aj{n c i a:Nat}{d:Nat->Zh->Zj->Prop}{l:Nat->Nat->Zh->Zj->Prop}{j:Nat->Nat->Zh->Zj->Nat->Prop}(k:Iq n c i a d l j){w X e:Zh}{A g:Zj}{f L:Nat}(h:L1 d w X A g f L)(b:Below L X e):L1 d w e A g f L:=
 ⟨h.cf.trans (b.mono (by have:=h.l0;omega)),Aa.same h.bA (b.block _ h.l0),Aa.same h.bS (b.block _ h.l1),k.dj _ _ _ _ h.rS b,h.l0,h.l1,Zm h.le b.size⟩
structure L2 (OX:Nat->Nat->Zh->Zj->Prop) (X:Zh) (xc:Zj) (L pX N:Nat):Prop where
 bX:Aa X pX xc
 oX:OX L N X xc
 l1:N<=pX
 le:pX<X.heap.size
theorem L2.aj{n c i a:Nat}{l:Nat->Zh->Zj->Prop}{d:Nat->Nat->Zh->Zj->Prop}{j:Nat->Nat->Zh->Zj->Nat->Prop}(k:Iq n c i a l d j){X e:Zh}{g:Zj}{L f N:Nat}(h:L2 d X g L f N)(b:Zz X e):L2 d e g L f N:=
 ⟨Aa.same h.bX (b.block _ h.le),k.db _ _ _ _ _ h.oX b.size (fun q _ m=>b.block q (by have:=h.l1;have:=h.le;omega)),h.l1,Zr h.le b.size⟩
structure L3 (P:Nat->Nat->Zh->Zj->Prop) (X:Zh) (gc:Zj) (lo pG N:Nat):Prop where
 bG:Aa X pG gc
 oG:P lo N X gc
 l1:N<=pG
 le:pG<X.heap.size
theorem L3.stays{P:Nat->Nat->Zh->Zj->Prop}(k:∀(lo N:Nat) (X a:Zh) (c:Zj),P lo N X c->X.heap.size<=a.heap.size->(∀q,lo<=q->q<N->a.heap[q]?=X.heap[q]?)->P lo N a c){X a:Zh}{d:Zj}{lo b N B:Nat}(h:L3 P X d lo b N)(l:B<=lo)(g:B<=b)(f:X.heap.size<=a.heap.size)(e:∀q,B<=q->q<X.heap.size->a.heap[q]?=X.heap[q]?):L3 P a d lo b N:=
 ⟨Aa.same h.bG (e _ g h.le),k _ _ _ _ _ h.oG f (fun q i j=>e q (by omega) (by have:=h.l1;have:=h.le;omega)),h.l1,Zr h.le f⟩
theorem L3.aj{P:Nat->Nat->Zh->Zj->Prop}(k:∀(lo N:Nat) (X a:Zh) (b:Zj),P lo N X b->X.heap.size<=a.heap.size->(∀q,lo<=q->q<N->a.heap[q]?=X.heap[q]?)->P lo N a b){X a:Zh}{c:Zj}{lo e N:Nat}(h:L3 P X c lo e N)(d:Zz X a):L3 P a c lo e N:=
 h.stays (B:=0) k (Nat.zero_le _) (Nat.zero_le _) d.size (fun q _ f=>d.block q f)
theorem boxed{X:Zh}{cs z:Zj}{T:TypeId}(b:cs.length=z.length):Aa ((X.alloc (.cells z.toArray T)).setCells X.heap.size 0 cs) X.heap.size cs/\Zz X ((X.alloc (.cells z.toArray T)).setCells X.heap.size 0 cs)/\((X.alloc (.cells z.toArray T)).setCells X.heap.size 0 cs).heap.size=X.heap.size+1:=by have a:=Aa.new X z T;have c:=AP X.heap.size cs 0 (X.alloc (.cells z.toArray T));refine⟨a.ba cs b,(Zy).trans (c.below (by simp) (by simp)),?_⟩;rw[Gb];simp
theorem GZ{P:Program}{c:Array Oper}{rest:List Oper}{f:Oper}{a:Act}{w:Zh}{Q:Exit->Act->Zh->Prop}(p:Region.wanted f (yielded c a.tmps)=true)(g:TypeId)(x:Operand)(m:f.op=.load g x)
 (b o:Nat) (q:a.eval x=Yy b o) (e:Zj) (d:TypeDesc) (j:w.rangeAt b o e)
 (n:P.underlying g=some d) (k:d.isRow=true) (l:(P.info? g).map (·.size)=some e.length)
 (h:wpList P c Q rest (a.put f.dst (.agg e.toArray)) w):wpList P c Q (f::rest) a w:=
 wpList_step fun _ i=>by rw[if_pos p];exact wp_load_mid g x m b o q e d j n k l (i _ _ h)
def Ao(w:Zh)(base:Nat)(v:Value)(ss:Zl):Prop:=
 (v=Zc/\ss=[])∨∃g off cap,v=.slice (some ⟨g,off,none⟩) ss.length cap/\base<=g/\g<w.heap.size/\ss.length<=cap/\cap<=maxLen/\
   (∀j,j<cap->(w.cell? (Ze g (off+j))).isSome=true/\w.frozen? ⟨g,off+j,none⟩=false)/\
   ∀i s,ss[i]?=some s->w.cell? (Ze g (off+i))=some (.string s)
theorem Ao.nil(w:Zh)(base:Nat):Ao w base Zc []:=.inl ⟨rfl,rfl⟩
theorem Ao.own{w:Zh}{base:Nat}{v:Value}{b:Zl}(h:w.ownsRow base 9 1 v b.length (b.map Value.string)):Ao w base v b:=by
 rcases h.2 with⟨rfl,p⟩|⟨g,k,c,rfl,l,d,m,o,e,q⟩
 ·exact .inl ⟨rfl,List.eq_nil_of_length_eq_zero p⟩
 ·have n:=(Array.getElem?_eq_some_iff.1 d).1;have a:∀j,w.cell? (Ze g (0+j))=c[j]?:=fun j=>by rw[Nat.zero_add];simp[World.cell?,d]
  refine .inr ⟨g,0,k,rfl,l,n,m,o,fun j t=>⟨?_,?_⟩,fun i s e=> ?_⟩
  ·rw[a,Array.getElem?_eq_getElem (by omega)];rfl
  ·simp[World.frozen?,d]
  ·have r:=(Zw e).1;rw[a];have f:(c.toList.take (b.length *1))[i]?=some (.string s):=by rw[q];simp[e]
   rw[List.getElem?_take_of_lt (by omega)]at f;simpa using f
theorem Ao.row{w:Zh}{base:Nat}{v:Value}{c:Zl}(h:Ao w base v c):∃a b,v=.slice a c.length b/\Ad w w.heap.size a c:=by
 rcases h with⟨rfl,rfl⟩|⟨g,d,b,rfl,i,e,_,_,_,f⟩
 ·exact⟨none,0,rfl,.inl rfl⟩
 ·exact⟨_,b,rfl,.inr ⟨g,d,rfl,e,f⟩⟩
theorem Ao.stays{w b:Zh}{base:Nat}{v:Value}{e:Zl}(h:Ao w base v e)(r:w.heap.size<=b.heap.size)(a:∀g,Ak v=some g->b.heap[g]?=w.heap[g]?):Ao b base v e:=by
 rcases h with h|⟨g,k,f,rfl,l,q,m,n,c,o⟩
 ·exact .inl h
 ·exact .inr ⟨g,k,f,rfl,l,by omega,m,n,fun j d=>⟨by rw[World.cell?_of_block (a g rfl)];exact(c j d).1,by rw[World.frozen?_of_block (a g rfl)];exact(c j d).2⟩,fun i s p=>(World.cell?_of_block (a g rfl)).trans (o i s p)⟩
theorem Ao.bj{w:Zh}{base:Nat}{v:Value}{d:Zl}(h:Ao w base v d){g:Nat}(a:Ak v=some g):base<=g/\g<w.heap.size:=by
 rcases h with⟨rfl,_⟩|⟨i,f,e,rfl,b,c,_⟩
 ·cases a
 ·cases a;exact⟨b,c⟩
theorem Ao.below{w c:Zh}{base:Nat}{v:Value}{b:Zl}(h:Ao w base v b)(a:Zz w c):Ao c base v b:=
 h.stays a.size (fun g e=>a.block g (h.bj e).2)
theorem Ao.an{w c:Zh}{V:List Nat}{base:Nat}{v:Value}{b:Zl}(h:Ao w base v b)(a:Tn V w c)(d:∀g,Ak v=some g->g∉V):Ao c base v b:=
 h.stays a.size (fun g e=>a.block g (h.bj e).2 (d g e))
theorem Ao.mono{w:Zh}{base base':Nat}{v:Value}{a:Zl}(h:Ao w base v a)(e:base'<=base):Ao w base' v a:=by
 rcases h with h|⟨g,c,b,rfl,d,rest⟩
 ·exact .inl h
 ·exact .inr ⟨g,c,b,rfl,by omega,rest⟩
theorem Ao.tail{w:Zh}{base g a n b:Nat}{s:Zi}{c:Zl}(h:Ao w base (.slice (some ⟨g,a,none⟩) n b) (s::c)):Ao w base (.slice (some ⟨g,a+1,none⟩) c.length (b -1)) c/\n=c.length+1/\n<=b/\w.cell? (Ze g a)=some (.string s):=by
 rcases h with⟨h,_⟩|⟨r,l,k,d,m,p,e,t,o,f⟩
 ·cases h
 ·simp only[List.length_cons]at d e;cases d;refine⟨.inr ⟨g,a+1,b -1,rfl,m,p,by omega,by omega,fun j u=> ?_,fun i s q=> ?_⟩,rfl,e,by simpa using f 0 s rfl⟩
  ·have:=o (j+1) (by omega);rw[show a+(j+1)=a+1+j by omega]at this;exact this
  ·have:=f (i+1) s (by simpa using q);rw[show a+(i+1)=a+1+i by omega]at this;exact this
theorem Ao.fresh(w:Zh)(base:Nat)(b:Zl)(c:Nat)(z:Array Value)(g:base<=w.heap.size)(e:b.length<=c)(f:c<=maxLen)(k:z.size=c -b.length):
 Ao (w.drew.alloc (.cells ((b.map Value.string).toArray++z) 9)) base (Za w.heap.size b.length c) b:=by
 have a:∀j,(w.drew.alloc (.cells ((b.map Value.string).toArray++z) 9)).cell? (Ze (w.heap.size) (0+j))=((b.map Value.string).toArray++z)[j]?:=fun j=>by rw[Nat.zero_add];show(w.drew.alloc (.cells ((b.map Value.string).toArray++z) 9)).cell? (Ze (w.drew.heap.size) j)=_;rw[World.cell?_alloc_at _ _ _ _ rfl]
 refine .inr ⟨w.heap.size,0,c,rfl,g,by simp,e,f,fun j l=>⟨?_,?_⟩,fun i s d=> ?_⟩
 ·rw[a,Array.getElem?_eq_getElem (by simp[k];omega)];rfl
 ·simp[go_sem]
 ·have h:=(Zw d).1;rw[a,Array.getElem?_append_left (by simpa using h)];simp[d]
theorem WQ(w:Zh)(base:Nat)(v:Value)(a:Zl)(V:Ao w base v a)(p:Addr)(A:Nat)(t:Zi)(B:w.cell? p=some (.string t))(X:a.length<=100000000)(r:base<=w.heap.size)(C:TypeId):
 ∃c d,(Builtin.append_ #[22,22] C #[v,.slice (some p) 1 A]).run prog w=.ok c d/\Ao d base c (a++[t])/\w.grownBy d (Ak v)/\(Ak c=Ak v∨Ak c=some w.heap.size):=by
 obtain⟨i,K,Q,n,R⟩:=info_parts CK;have o:Src prog i.size 22 (.slice (some p) 1 A) 1 [.string t] w:=by
  rw[n];exact Src.ofSlice w underlying22 p 1 A [.string t] rfl (fun j u l=>by
   match j,l with
   |0,l=>cases l;rw[show p.add 0=p from by cases p;simp[Addr.add]];exact B) (by simp[Value.oneCell'])
 have grow:∀(z:Zk) (b:Nat),b<a.length+1->(Builtin.firstCells i.size a.length (.slice z a.length b)).run prog w.drew=.ok (a.map Value.string).toArray w.drew->
  ∃c d,(Builtin.append_ #[22,22] C #[.slice z a.length b,.slice (some p) 1 A]).run prog w=.ok c d/\Ao d base c (a++[t])/\(∀row,w.grownBy d row)/\Ak c=some w.heap.size:=by
  intro z b E hold;have h:=run_append_grow_src w _ _ C _ i _ underlying22 K Q z a.length b (a.map Value.string) hold _ 1 [.string t] o E (by omega) (by
   have:=nextslicecap_le E;rw[R];omega)
  rw[show a.map Value.string++[.string t]=(a++[t]).map Value.string by simp]at h;have L:=grownCap_ge w (a.length+1) b 9;have O:=grownCap_le_maxLen w (a.length+1) b 9 (by unfold maxLen;omega)
  have D:=Ao.fresh w base (a++[t]) (grownCap w (a.length+1) b 9) (Builtin.zeroCells (Value.string ⟨#[]⟩).cells (grownCap w (a.length+1) b 9 -(a.length+1))) r (by simpa using L) O (by rw[size_zeroCells,List.length_append];simp[Value.cells]);rw[List.length_append]at D;exact⟨_,_,h,D,fun row=>⟨rfl,rfl,rfl,by simp,fun k J _=>heap_alloc_old w.drew _ J⟩,rfl⟩
 rcases V with⟨rfl,rfl⟩|⟨g,q,b,rfl,S,U,W,T,x,B⟩
 ·obtain⟨c,d,h,G,H,I⟩:=grow none 0 (by simp) (run_firstCells_none w.drew _ _ _ _);exact⟨c,d,h,G,H _,.inr I⟩
 ·by_cases hroom:a.length+1<=b
  ·have y:∀j,j<[Value.string t].length->(a.length *1+j)<b:=fun j f=>by simp at f;omega
   have h:=run_append_room_src w _ _ C _ i underlying22 K g q a.length b _ 1 [.string t] o hroom (fun j f=>by rw[n,Nat.add_assoc];exact(x _ (y j f)).1) (fun j f=>by rw[n,Nat.add_assoc];exact(x _ (y j f)).2);rw[n]at h
   refine⟨_,_,h,.inr ⟨g,q,b,by rw[List.length_append];rfl,S,by rw[Gb];exact U,by rw[List.length_append];exact hroom,T,fun j f=>⟨?_,?_⟩,fun k s m=> ?_⟩,⟨World.os_setCells _ _ _ _,IS _ _ _ _,World.output_setCells _ _ _ _,by rw[Gb];exact Zx,fun k J P=>World.heap_setCells_other _ _ _ _ J (fun e=>P (by rw[e];rfl))⟩,.inl rfl⟩
   ·exact Hx _ _ _ _ _ (x j f).1
   ·rw[World.frozen?_setCells];exact(x j f).2
   ·rcases Nat.lt_or_ge k a.length with F|F
    ·rw[List.getElem?_append_left F]at m;rw[World.cell?_setCells_out _ _ _ _ _ (fun _ _=> .inl (by simp;omega))];exact B k s m
    ·rw[List.getElem?_append_right F]at m;have N:k=a.length:=by have:=(Zw m).1;simp at this;omega
     subst N;simp at m;subst m;have M:=World.cell?_setCells_in g [.string t] (q+a.length *1) w (fun j f=>by rw[Nat.add_assoc];exact(x _ (y j f)).1) 0 (by simp);simpa using M
  ·obtain⟨c,d,h,G,H,I⟩:=grow (some ⟨g,q,none⟩) b (by omega) (run_firstCells_some w.drew _ _ _ _ _ _ (by rw[n];simp) (by
    intro j u l;obtain⟨s,m,rfl⟩:∃s,a[j]?=some s/\u=.string s:=by
     rw[List.getElem?_map]at l;cases e:a[j]? with
     |none=>rw[e]at l;cases l
     |some s=>rw[e]at l;cases l;exact⟨s,rfl,rfl⟩
    rw[Go.WideShapes.add_plain];exact B j s m))
   exact⟨c,d,h,G,H _,.inr I⟩
theorem MZ(o ag h q:Int)(a b:Zk)(n m c d k:Nat)(w:Zh)(u:Ad w w.heap.size a (marks k n))(v:Ad w w.heap.size b (marks (k+n) m))(x:1<=k)(z:k+n+m<=100000000):
 Calls prog 58 #[.agg (Yk o a n c b m d ag h q),Zg k] w fun e y=>e=.returned (Zg (k+n+m))/\Zz w y:=by
 have l:Below w.heap.size w (w.alloc (.cells (Yk o a n c b m d ag h q) 41)):=Zy;have A:¬((k:Int)+n<0):=by omega
 have t:¬((k:Int)+n+m<0):=by omega
 go_enter func58,ntmps58;go_wp2_with fail;refine(FZ a n c k w.heap.size _ (u.below l) (by simp) x (by omega)).mono ?_;rintro e r ⟨rfl,i⟩;have g:=l.trans (i.mono (by simp));have j:r.cell? (Ze (w.heap.size) 2)=some (.slice b m d):=by rw[i.cell (p:=⟨w.heap.size,2,none⟩) (by simp)];simp
 have f:=FZ b m d (k+n) w.heap.size r (v.below g) g.size (by omega) (by omega);rw[show((k+n:Nat):Int)=(k:Int)+n from by omega]at f;go_wp2_with fail;refine f.mono ?_;rintro e B ⟨rfl,s⟩;go_wp2;go_ret;exact⟨rfl,g.trans (s.mono g.size)⟩
end Go.Proofs.YtlhhpofjkgmbeaaGreatDoor
