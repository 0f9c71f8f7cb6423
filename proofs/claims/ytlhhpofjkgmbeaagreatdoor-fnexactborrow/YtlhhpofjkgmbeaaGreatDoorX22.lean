import Derived.Test.YtlhhpofjkgmbeaaGreatDoorX21
import Derived.RangeFuncNested
import Derived.Shelf.Abstract
import Derived.Shelf.RegionOpen
import Derived.RangeFuncBound
import Derived.RangeFuncCalls
import Derived.RangeFuncLeaves
import Derived.OwnWalkIn
import Derived.TacticsInMore
import Derived.LoopNIn
import Derived.LoopIn
set_option maxRecDepth 100000
set_option maxHeartbeats 16000000
namespace Go.Proofs.YtlhhpofjkgmbeaaGreatDoor
open Go.ChangeShapes Go.WideShapes Go.ChangeAt Go.RowKit _root_.Go.Proofs.Tryz
theorem RD(a b:Zk)(c d:Nat)(f g:Zl)(w:Zh)(z:Ad w w.heap.size a f)(v:Ad w w.heap.size b g)(W:f.length<=100000)(Q:g.length<=1048576):
 Calls prog 159 #[.slice a f.length c,.slice b g.length d] w fun e O=>Ar (f=g) w O e:=by
 have s:Hid (∀X,Zz w X->Ad X w.heap.size a f/\Ad X w.heap.size b g):=fun X u=>⟨z.below u,v.below u⟩;clear z v;by_cases hlen:f.length=g.length
 ·have F:((f.length:Int) !=(g.length:Int))=false:=by simp;omega
  have m:=Yx hlen;clear hlen;go_enter func159,ntmps159;go_wp2
  go_loopw [13] (fun i wr=>∃k:Nat,k<=f.length/\i=Zg k/\Hid (f.take k=g.take k/\Zz w wr)) (fun i _=>f.length -(intOf i).toNat)
  case atStart=>exact⟨0,Nat.zero_le _,rfl,⟨by simp,Below.refl _ _⟩⟩
  case round=>
   obtain⟨k,V,rfl,l⟩:=hrel;by_cases hlt:k<f.length
   ·have j:k<g.length:=by have:=m.o;omega
    obtain⟨rb,ro,M,I,p⟩:=(s.o wr l.o.2).1.at hlt;obtain⟨Y,Z,N,H,o⟩:=(s.o wr l.o.2).2.at j;subst M N;have T:=p k _ (Zv hlt);have U:=o k _ (Zv j);have A:=l.o.2.size;have S:=Zr I A;have R:=Zr H A;have D:=Yx (Zu hlt);have E:=Yx (Zu j);have HN:Hid (∀x y,f[k]?=some x->g[k]?=some y->x≠y->f≠g):=fun x y L t G e=>by subst e;rw[L]at t;exact G (Option.some.inj t)
    have B:=Yx (Zv hlt);have C:=Yx (Zv j);have P:(k:Int)<g.length:=by omega
    clear p o;generalize f[k]=x at *
    generalize g[k]=y at *
    have r:=Yx l.o.2;by_cases hxy:x=y
    ·subst hxy;have q:(x.toList !=x.toList)=false:=by simp
     go_wp2
     go_region
     all_goals go_wp2
     all_goals exact⟨⟨k+1,by omega,by go_num,⟨by rw[D.o,E.o,l.o.1],r.o.drew⟩⟩,by simp[intOf];omega⟩
    ·have q:=BP hxy;have K:(x.toList !=y.toList)=true:=by simp[bne,q]
     go_wp2
     go_region
     all_goals go_wp2
     all_goals go_ret
     all_goals exact Ar.no (fun h=>HN.o x y B.o C.o hxy h) r.o.drew
   ·obtain rfl:k=f.length:=by omega
    have n:=l.o.1;rw[Zt (Zx),Zt (by have:=m.o;omega)]at n;go_wp2;go_ret;exact Ar.yes n l.o.2
 ·have F:((f.length:Int)==(g.length:Int))=false:=by simp;omega
  have J:((f.length:Int) !=(g.length:Int))=true:=by simp;omega
  go_enter func159,ntmps159;go_wp2;go_ret;exact Ar.no (fun h=>hlen (by rw[h])) (Below.refl _ _)
theorem Kd.eq_iff(x y:Kd):x=y↔x.sum=y.sum/\x.born=y.born/\x.text=y.text/\x.refs=y.refs:=by cases x;cases y;simp
theorem Oy(x y:Kd)(a b:Zk)(c d:Nat)(w:Zh)(l:Ad w w.heap.size a x.refs)(k:Ad w w.heap.size b y.refs)(E:x.refs.length<=100000)(q:y.refs.length<=1048576):
 Calls prog 129 #[.agg #[.string x.sum,Zg x.born,.string x.text,.slice a x.refs.length c],.agg #[.string y.sum,Zg y.born,.string y.text,.slice b y.refs.length d]] w fun e M=>Ar (x=y) w M e:=by
 obtain⟨W,j⟩:∃W,W=(w.alloc (.cells #[.string x.sum,Zg x.born,.string x.text,.slice a x.refs.length c] 131)).alloc (.cells #[.string y.sum,Zg y.born,.string y.text,.slice b y.refs.length d] 131):=⟨_,rfl⟩;have g:=(AW j).1;have m:=(AW j).2.2.1;have n:Aa W (w.heap.size+1) [.string y.sum,Zg y.born,.string y.text,.slice b y.refs.length d]:=by have f:=Aa.new (w.alloc (.cells #[.string x.sum,Zg x.born,.string x.text,.slice a x.refs.length c] 131)) [.string y.sum,Zg y.born,.string y.text,.slice b y.refs.length d] 131;rw[World.size_alloc]at f;rw[j];exact f
 have v:=Yx (RD a b c d x.refs y.refs W (l.af g) (k.af g) E q);obtain⟨F,G,H,I⟩:=Aa.c4 m 0 1 2 3;obtain⟨v0,J,K,L⟩:=Aa.c4 n 0 1 2 3;have i:=Yx j;have u:=Yx (Kd.eq_iff x y);clear j l k m n;by_cases f:x.sum=y.sum
 ·have A:(x.sum.toList==y.sum.toList)=true:=by rw[f];simp
  have r:=Yx f;clear f;by_cases h2:x.born=y.born
  ·have B:(x.born==y.born)=true:=by simp[h2]
   have s:=Yx h2;clear h2;by_cases h3:x.text=y.text
   ·have C:(x.text.toList==y.text.toList)=true:=by rw[h3];simp
    have t:=Yx h3;clear h3;go_enter func129,ntmps129;go_upto_region 1 with fail;rw[←i.o];clear i;go_wp2_with fail;refine Calls.mono v.o ?_;rintro e N ⟨z,rfl,p,o⟩;have D:=g.trans (o.mono g.size);clear F G H I v0 J K L;go_wp2;go_ret;exact⟨z,rfl,by rw[p,u.o];exact⟨fun h=>⟨r.o,s.o,t.o,h⟩,fun h=>h.2.2.2⟩,D⟩
   ·have C:=BP h3;go_enter func129,ntmps129;go_upto_region 1 with fail;rw[←i.o];go_wp2_with fail
    all_goals (try go_wp2)
    all_goals (try go_ret)
    all_goals exact Ar.no (fun h=>h3 (by rw[h])) g
  ·have B:(x.born==y.born)=false:=by simp[h2]
   go_enter func129,ntmps129;go_upto_region 1 with fail;rw[←i.o];go_wp2_with fail
   all_goals (try go_wp2)
   all_goals (try go_ret)
   all_goals exact Ar.no (fun h=>h2 (by rw[h])) g
 ·have A:=BP f;go_enter func129,ntmps129;go_upto_region 1 with fail;rw[←i.o];go_wp2_with fail
  all_goals (try go_wp2)
  all_goals (try go_ret)
  all_goals exact Ar.no (fun h=>f (by rw[h])) g
theorem Nb(a b:Zk)(c d:Nat)(f g:List Kd)(w:Zh)(N:BH w w.heap.size a f)(M:BH w w.heap.size b g)(hl:f.length<=100000)(zF:g.length<=1048576)(p:∀k∈f,k.refs.length<=100000)(z:∀k∈g,k.refs.length<=1048576):
 Calls prog 128 #[.slice a f.length c,.slice b g.length d,.func (.func 129) #[] #[]] w fun e w'=>Ar (f=g) w w' e:=by
 have J:Hid (∀X,Zz w X->BH X w.heap.size a f/\BH X w.heap.size b g):=fun X L=>⟨N.below L,M.below L⟩;clear N M;by_cases hlen:f.length=g.length
 ·have V:((f.length:Int) !=(g.length:Int))=false:=by simp;omega
  have m:=Yx hlen;clear hlen;go_enter func128,ntmps128;go_wp2
  go_loopw [17] (fun i wr=>∃k:Nat,k<=f.length/\i=Zg k/\Hid (f.take k=g.take k/\Zz w wr)) (fun i _=>f.length -(intOf i).toNat)
  case atStart=>exact⟨0,Nat.zero_le _,rfl,⟨by simp,Below.refl _ _⟩⟩
  case round=>
   obtain⟨k,hk,rfl,l⟩:=hrel;by_cases hlt:k<f.length
   ·have j:k<g.length:=by have:=m.o;omega
    obtain⟨rb,ro,ha,Z,F⟩:=(J.o wr l.o.2).1.at hlt;obtain⟨qb,qo,hb,Y,D⟩:=(J.o wr l.o.2).2.at j;subst ha hb;obtain⟨c0,c1,c2,G,H,c3,E⟩:=F k _ (Zv hlt);obtain⟨d0,d1,d2,q,r,d3,o⟩:=D k _ (Zv j);have t:=l.o.2.size;have zH:=Zr Z t;have zG:=Zr Y t;have S:=Yx (Zu hlt);have T:=Yx (Zu j);have HN:Hid (∀x y,f[k]?=some x->g[k]?=some y->x≠y->f≠g):=fun x y p z W e=>by subst e;rw[p]at z;exact W (Option.some.inj z)
    have Q:=Yx (Zv hlt);have R:=Yx (Zv j);have zA:=p _ (List.getElem_mem hlt);have zB:=z _ (List.getElem_mem j);have zE:(k:Int)<g.length:=by omega
    clear F D;generalize f[k]=x at *
    generalize g[k]=y at *
    obtain⟨U,s⟩:∃U,U=(wr.alloc (.cells #[.string x.sum,Zg x.born,.string x.text,.slice G x.refs.length H] 131)).alloc (.cells #[.string y.sum,Zg y.born,.string y.text,.slice q y.refs.length r] 131):=⟨_,rfl⟩;have v:=(AW s).1;have I:=Yx (l.o.2.trans (v.mono t));have O:=(AW s).2.2.1;have P:Aa U (wr.heap.size+1) [.string y.sum,Zg y.born,.string y.text,.slice q y.refs.length r]:=by have p:=Aa.new (wr.alloc (.cells #[.string x.sum,Zg x.born,.string x.text,.slice G x.refs.length H] 131)) [.string y.sum,Zg y.born,.string y.text,.slice q y.refs.length r] 131;rw[World.size_alloc]at p;rw[s];exact p
    have K:=Yx (Oy x y G q H r U (Ad.af (Ad.mono E t) v) (Ad.af (Ad.mono o t) v) zA zB);obtain⟨m0,m1,m2,m3⟩:=Aa.c4 O 0 1 2 3;obtain⟨n0,n1,n2,n3⟩:=Aa.c4 P 0 1 2 3;have HU:=Yx s;clear s O P E o v;go_upto_region 7 with fail;rw[←HU.o];clear HU c0 c1 c2 c3 d0 d1 d2 d3;go_wp2_with fail;refine Calls.mono K.o ?_;rintro e w1 ⟨bb,rfl,C,B⟩;have A:=Yx (I.o.trans (B.mono I.o.size))
    clear m0 m1 m2 m3 n0 n1 n2 n3 K B;cases bb with
    |true=>have u:=C.1 rfl;go_wp2;exact⟨⟨k+1,by omega,by go_num,⟨by rw[S.o,T.o,l.o.1,u],A.o⟩⟩,by simp[intOf];omega⟩
    |false=>
     have u:x≠y:=fun e=>by have:=C.2 e;cases this
     go_wp2;go_ret;exact Ar.no (fun h=>HN.o x y Q.o R.o u h) A.o
   ·obtain rfl:k=f.length:=by omega
    have n:=l.o.1;rw[Zt (Zx),Zt (by have:=m.o;omega)]at n;go_wp2;go_ret;exact Ar.yes n l.o.2
 ·have V:((f.length:Int)==(g.length:Int))=false:=by simp;omega
  have zC:((f.length:Int) !=(g.length:Int))=true:=by simp;omega
  go_enter func128,ntmps128;go_wp2;go_ret;exact Ar.no (fun h=>hlen (by rw[h])) (Below.refl _ _)
theorem RE(a b:Zk)(c d:Nat)(f g:List Pd)(w:Zh)(B:AS w w.heap.size a f)(A:AS w w.heap.size b g)(hl:f.length<=100000)(Q:g.length<=1048576):
 Calls prog 130 #[.slice a f.length c,.slice b g.length d] w fun e O=>Ar (f=g) w O e:=by
 have u:Hid (∀X,Zz w X->AS X w.heap.size a f/\AS X w.heap.size b g):=fun X z=>⟨B.below z,A.below z⟩;clear B A;by_cases hlen:f.length=g.length
 ·have F:((f.length:Int) !=(g.length:Int))=false:=by simp;omega
  have m:=Yx hlen;clear hlen;go_enter func130,ntmps130;go_wp2
  go_loopw [13] (fun i wr=>∃k:Nat,k<=f.length/\i=Zg k/\Hid (f.take k=g.take k/\Zz w wr)) (fun i _=>f.length -(intOf i).toNat)
  case atStart=>exact⟨0,Nat.zero_le _,rfl,⟨by simp,Below.refl _ _⟩⟩
  case round=>
   obtain⟨k,Z,rfl,l⟩:=hrel;by_cases hlt:k<f.length
   ·have j:k<g.length:=by have:=m.o;omega
    obtain⟨rb,ro,M,J,r⟩:=(u.o wr l.o.2).1.at hlt;obtain⟨qb,qo,N,I,q⟩:=(u.o wr l.o.2).2.at j;subst M N;obtain⟨T,U⟩:=r k _ (Zv hlt);obtain⟨V,W⟩:=q k _ (Zv j);have C:=l.o.2.size;have S:=Zr J C;have R:=Zr I C;have D:=Yx (Zu hlt);have E:=Yx (Zu j);have HN:Hid (∀x y,f[k]?=some x->g[k]?=some y->x≠y->f≠g):=fun x y L v H e=>by subst e;rw[L]at v;exact H (Option.some.inj v)
    have o:=Yx (Zv hlt);have p:=Yx (Zv j);have P:(k:Int)<g.length:=by omega
    clear r q;generalize f[k]=x at *
    generalize g[k]=y at *
    have s:=Yx l.o.2;by_cases hxy:x=y
    ·subst hxy;go_wp2
     go_region
     all_goals go_wp2
     all_goals exact⟨⟨k+1,by omega,by go_num,⟨by rw[D.o,E.o,l.o.1],s.o.drew⟩⟩,by simp[intOf];omega⟩
    ·by_cases hn:x.name=y.name
     ·have hs:¬x.sum.toList=y.sum.toList:=fun e=>hxy (by
       have Y:=FN e;cases x;cases y;simp_all)
      have G:x.name.toList=y.name.toList:=by rw[hn]
      have t:=Yx hxy;clear hn hxy;go_wp2
      go_region
      all_goals go_wp2
      all_goals go_ret
      all_goals exact Ar.no (fun h=>HN.o x y o.o p.o t.o h) s.o.drew
     ·have G:¬x.name.toList=y.name.toList:=fun e=>hn (FN e);have t:=Yx hxy;clear hn hxy;go_wp2
      go_region
      all_goals go_wp2
      all_goals go_ret
      all_goals exact Ar.no (fun h=>HN.o x y o.o p.o t.o h) s.o.drew
   ·obtain rfl:k=f.length:=by omega
    have n:=l.o.1;rw[Zt (Zx),Zt (by have:=m.o;omega)]at n;go_wp2;go_ret;exact Ar.yes n l.o.2
 ·have F:((f.length:Int)==(g.length:Int))=false:=by simp;omega
  have K:((f.length:Int) !=(g.length:Int))=true:=by simp;omega
  go_enter func130,ntmps130;go_wp2;go_ret;exact Ar.no (fun h=>hlen (by rw[h])) (Below.refl _ _)
theorem RF(a b:Zk)(c d:Nat)(f g:List Ld)(w:Zh)(B:AU w w.heap.size a f)(A:AU w w.heap.size b g)(hl:f.length<=100000)(Q:g.length<=1048576):
 Calls prog 131 #[.slice a f.length c,.slice b g.length d] w fun e O=>Ar (f=g) w O e:=by
 have u:Hid (∀X,Zz w X->AU X w.heap.size a f/\AU X w.heap.size b g):=fun X z=>⟨B.below z,A.below z⟩;clear B A;by_cases hlen:f.length=g.length
 ·have F:((f.length:Int) !=(g.length:Int))=false:=by simp;omega
  have m:=Yx hlen;clear hlen;go_enter func131,ntmps131;go_wp2
  go_loopw [13] (fun i wr=>∃k:Nat,k<=f.length/\i=Zg k/\Hid (f.take k=g.take k/\Zz w wr)) (fun i _=>f.length -(intOf i).toNat)
  case atStart=>exact⟨0,Nat.zero_le _,rfl,⟨by simp,Below.refl _ _⟩⟩
  case round=>
   obtain⟨k,Z,rfl,l⟩:=hrel;by_cases hlt:k<f.length
   ·have j:k<g.length:=by have:=m.o;omega
    obtain⟨rb,ro,M,I,s⟩:=(u.o wr l.o.2).1.at hlt;obtain⟨qb,qo,N,H,r⟩:=(u.o wr l.o.2).2.at j;subst M N;obtain⟨T,U,c2⟩:=s k _ (Zv hlt);obtain⟨V,W,Y⟩:=r k _ (Zv j);have C:=l.o.2.size;have S:=Zr I C;have R:=Zr H C;have D:=Yx (Zu hlt);have E:=Yx (Zu j);have HN:Hid (∀x y,f[k]?=some x->g[k]?=some y->x≠y->f≠g):=fun x y L v G e=>by subst e;rw[L]at v;exact G (Option.some.inj v)
    have o:=Yx (Zv hlt);have p:=Yx (Zv j);have P:(k:Int)<g.length:=by omega
    clear s r;generalize f[k]=x at *
    generalize g[k]=y at *
    have q:=Yx l.o.2;by_cases hxy:x=y
    ·subst hxy;go_wp2
     go_region
     all_goals go_wp2
     all_goals exact⟨⟨k+1,by omega,by go_num,⟨by rw[D.o,E.o,l.o.1],q.o.drew⟩⟩,by simp[intOf];omega⟩
    ·have t:=Yx hxy;by_cases hn:x.num=y.num
     ·by_cases hs:x.sum=y.sum
      ·have ht:¬x.bf=y.bf:=fun e=>hxy (by
        cases x;cases y;simp_all)
       have J:x.sum.toList=y.sum.toList:=by rw[hs]
       clear hs hxy;go_wp2
       go_region
       all_goals go_wp2
       all_goals go_ret
       all_goals exact Ar.no (fun h=>HN.o x y o.o p.o t.o h) q.o.drew
      ·have J:¬x.sum.toList=y.sum.toList:=fun e=>hs (FN e);clear hs hxy;go_wp2
       go_region
       all_goals go_wp2
       all_goals go_ret
       all_goals exact Ar.no (fun h=>HN.o x y o.o p.o t.o h) q.o.drew
     ·clear hxy;go_wp2
      go_region
      all_goals go_wp2
      all_goals go_ret
      all_goals exact Ar.no (fun h=>HN.o x y o.o p.o t.o h) q.o.drew
   ·obtain rfl:k=f.length:=by omega
    have n:=l.o.1;rw[Zt (Zx),Zt (by have:=m.o;omega)]at n;go_wp2;go_ret;exact Ar.yes n l.o.2
 ·have F:((f.length:Int)==(g.length:Int))=false:=by simp;omega
  have K:((f.length:Int) !=(g.length:Int))=true:=by simp;omega
  go_enter func131,ntmps131;go_wp2;go_ret;exact Ar.no (fun h=>hlen (by rw[h])) (Below.refl _ _)
theorem Nc(D r given ae q g c b:Int)(a p l E C B:Zk)(H G F A u t:Nat)(x m:List Kd)(s i:List Pd)(y n:List Ld)(w:Zh)(hr:Bv w w.heap.size a p l x s y)(hq:Bv w w.heap.size E C B m i n)(hl:x.length<=100000/\s.length<=100000/\y.length<=100000)(zC:m.length<=1048576/\i.length<=1048576/\n.length<=1048576)(h1:∀k∈x,k.refs.length<=100000)(h2:∀k∈m,k.refs.length<=1048576):
 Calls prog 95 #[.agg (Ys D r given ae a x.length H p s.length G l y.length F),.agg (Ys q g c b E m.length A C i.length u B n.length t)] w fun e Z=>Ar ((D=q/\r=g/\given=c/\ae=b)/\x=m/\s=i/\y=n) w Z e:=by
 obtain⟨W,J⟩:∃W,W=(w.alloc (.cells (Ys D r given ae a x.length H p s.length G l y.length F) 40)).alloc (.cells (Ys q g c b E m.length A C i.length u B n.length t) 40):=⟨_,rfl⟩;have j:=(AW J).1;have d:=(AW J).2.2.1;have f:Aa W (w.heap.size+1) (Yt q g c b E m.length A C i.length u B n.length t):=by have h1:=Aa.new (w.alloc (.cells (Ys D r given ae a x.length H p s.length G l y.length F) 40)) (Yt q g c b E m.length A C i.length u B n.length t) 40;rw[World.size_alloc]at h1;rw[J];exact h1
 have HX:Hid (∀X,Zz W X->Aa X w.heap.size (Yt D r given ae a x.length H p s.length G l y.length F)/\Aa X (w.heap.size+1) (Yt q g c b E m.length A C i.length u B n.length t)/\Zz w X):=fun X z=>⟨Aa.below d z,Aa.below f z,j.trans (z.mono j.size)⟩;have HK:=Yx (Nb a E H A x m W (hr.af j).k (hq.af j).k hl.1 zC.1 h1 h2)
 have HP:Hid (∀X,Zz W X->Calls prog 130 #[.slice p s.length G,.slice C i.length u] X fun e Z=>Ar (s=i) X Z e):=fun X z=>RE p C G u s i X (hr.af (j.trans (z.mono j.size))).p (hq.af (j.trans (z.mono j.size))).p hl.2.1 zC.2.1
 have HL:Hid (∀X,Zz W X->Calls prog 131 #[.slice l y.length F,.slice B n.length t] X fun e Z=>Ar (y=n) X Z e):=fun X z=>RF l B F t y n X (hr.af (j.trans (z.mono j.size))).l (hq.af (j.trans (z.mono j.size))).l hl.2.2 zC.2.2;obtain⟨K,_⟩:=d 0 _ rfl;obtain⟨v0,_⟩:=f 0 _ rfl;obtain⟨L,_⟩:=d 1 _ rfl;obtain⟨R,_⟩:=f 1 _ rfl;obtain⟨M,_⟩:=d 2 _ rfl;obtain⟨S,_⟩:=f 2 _ rfl;obtain⟨N,_⟩:=d 3 _ rfl
 obtain⟨T,_⟩:=f 3 _ rfl;obtain⟨O,_⟩:=d 4 _ rfl;obtain⟨U,_⟩:=f 4 _ rfl;obtain⟨P,_⟩:=d 5 _ rfl;obtain⟨V,_⟩:=f 5 _ rfl;obtain⟨Q,_⟩:=d 6 _ rfl;obtain⟨Y,_⟩:=f 6 _ rfl;have v:=Yx J;clear J hr hq d f;by_cases e1:D=q
 ·have b1:(D==q)=true:=by simp[e1]
  have E1:=Yx e1;clear e1;by_cases e2:r=g
  ·have b2:(r==g)=true:=by simp[e2]
   have E2:=Yx e2;clear e2;by_cases e3:given=c
   ·have b3:(given==c)=true:=by simp[e3]
    have E3:=Yx e3;clear e3;by_cases e4:ae=b
    ·have b4:(ae==b)=true:=by simp[e4]
     have E4:=Yx e4;clear e4;go_enter func95,ntmps95;go_upto_region 1 with fail;rw[←v.o];clear v;go_wp2_with fail;refine Calls.mono HK.o ?_;rintro e w1 ⟨I,rfl,o,zG⟩;obtain⟨d,f,zJ⟩:=HX.o w1 zG;have zA:=Yx zG;clear K v0 L R M S N T O U P V Q Y;obtain⟨K,_⟩:=d 0 _ rfl;obtain⟨v0,_⟩:=f 0 _ rfl;obtain⟨L,_⟩:=d 1 _ rfl;obtain⟨R,_⟩:=f 1 _ rfl;obtain⟨M,_⟩:=d 2 _ rfl;obtain⟨S,_⟩:=f 2 _ rfl
     obtain⟨N,_⟩:=d 3 _ rfl;obtain⟨T,_⟩:=f 3 _ rfl;obtain⟨O,_⟩:=d 4 _ rfl;obtain⟨U,_⟩:=f 4 _ rfl;obtain⟨P,_⟩:=d 5 _ rfl;obtain⟨V,_⟩:=f 5 _ rfl;obtain⟨Q,_⟩:=d 6 _ rfl;obtain⟨Y,_⟩:=f 6 _ rfl;clear d f;cases I with
     |false=>
      have zE:x≠m:=fun e=>by have:=o.2 e;cases this
      go_wp2_with fail
      all_goals (try go_wp2)
      all_goals (try go_ret)
      all_goals exact Ar.no (fun h=>zE h.2.1) zJ
     |true=>
      have zH:=Yx (o.1 rfl);clear o;go_wp2_with fail;refine Calls.mono (HP.o w1 zA.o) ?_;rintro e w2 ⟨I,rfl,o,zM⟩;have zF:=Yx (zA.o.trans (zM.mono zA.o.size));obtain⟨d,f,zB⟩:=HX.o w2 zF.o;clear K v0 L R M S N T O U P V Q Y;obtain⟨K,_⟩:=d 0 _ rfl;obtain⟨v0,_⟩:=f 0 _ rfl;obtain⟨L,_⟩:=d 1 _ rfl;obtain⟨R,_⟩:=f 1 _ rfl;obtain⟨M,_⟩:=d 2 _ rfl;obtain⟨S,_⟩:=f 2 _ rfl;obtain⟨N,_⟩:=d 3 _ rfl
      obtain⟨T,_⟩:=f 3 _ rfl;obtain⟨O,_⟩:=d 4 _ rfl;obtain⟨U,_⟩:=f 4 _ rfl;obtain⟨P,_⟩:=d 5 _ rfl;obtain⟨V,_⟩:=f 5 _ rfl;obtain⟨Q,_⟩:=d 6 _ rfl;obtain⟨Y,_⟩:=f 6 _ rfl;clear d f;cases I with
      |false=>
       have zE:s≠i:=fun e=>by have:=o.2 e;cases this
       go_wp2_with fail
       all_goals (try go_wp2)
       all_goals (try go_ret)
       all_goals exact Ar.no (fun h=>zE h.2.2.1) zB
      |true=>have zI:=Yx (o.1 rfl);clear o;go_wp2_with fail;refine Calls.mono (HL.o w2 zF.o) ?_;rintro e w3 ⟨I,rfl,o,zN⟩;have zK:=zB.trans (zN.mono zB.size);clear K v0 L R M S N T O U P V Q Y;go_wp2;go_ret;exact⟨I,rfl,⟨fun h=>⟨⟨E1.o,E2.o,E3.o,E4.o⟩,zH.o,zI.o,o.1 h⟩,fun h=>o.2 h.2.2.2⟩,zK⟩
    ·have b4:(ae==b)=false:=by simp[e4]
     go_enter func95,ntmps95;go_upto_region 1 with fail;rw[←v.o];clear v;go_wp2_with fail
     all_goals (try go_wp2)
     all_goals (try go_ret)
     all_goals exact Ar.no (by first|exact id|exact fun h=>e4 h.1.2.2.2) j
   ·have b3:(given==c)=false:=by simp[e3]
    go_enter func95,ntmps95;go_upto_region 1 with fail;rw[←v.o];clear v;go_wp2_with fail
    all_goals (try go_wp2)
    all_goals (try go_ret)
    all_goals exact Ar.no (by first|exact id|exact fun h=>e3 h.1.2.2.1) j
  ·have b2:(r==g)=false:=by simp[e2]
   go_enter func95,ntmps95;go_upto_region 1 with fail;rw[←v.o];clear v;go_wp2_with fail
   all_goals (try go_wp2)
   all_goals (try go_ret)
   all_goals exact Ar.no (by first|exact id|exact fun h=>e2 h.1.2.1) j
 ·have b1:(D==q)=false:=by simp[e1]
  go_enter func95,ntmps95;go_upto_region 1 with fail;rw[←v.o];clear v;go_wp2_with fail
  all_goals (try go_wp2)
  all_goals (try go_ret)
  all_goals exact Ar.no (by first|exact id|exact fun h=>e1 h.1.1) j
section
open Go.RowKit
def Bj:Obj->Bool
 |.cells _ t _=> !(t==9||t==190||t==137||t==139)
 |_=>true
structure Bs (B:Nat) (W W':Zh):Prop where
 size:W.heap.size<=W'.heap.size
 same:∀b o,B<=b->W.heap[b]?=some o->Bj o=true->W'.heap[b]?=some o
theorem Bs.refl(B:Nat)(W:Zh):Bs B W W:=⟨Zx,fun _ _ _ h _=>h⟩
theorem Bs.trans{B:Nat}{X Y Z:Zh}(h:Bs B X Y)(k:Bs B Y Z):Bs B X Z:=⟨Zm h.size k.size,fun b o a d c=>k.same b o a (h.same b o a d c) c⟩
theorem Bs.mono{B B':Nat}{W a:Zh}(h:Bs B W a)(c:B<=B'):Bs B' W a:=⟨h.size,fun b o d=>h.same b o (by omega)⟩
def Ce(B:Nat)(J:Nat->Zh->Prop):Prop:=
 ∀k W W' row,J k W->W.grownBy W' row->(∀r,row=some r->B<=r/\∃o,W.heap[r]?=some o/\Bj o=true)->J k W'
theorem Ce.mono{B B':Nat}{J:Nat->Zh->Prop}(h:Ce B J)(c:B<=B'):Ce B' J:=
 fun k W b row f d a=>h k W b row f d (fun r e=>⟨Zm c (a r e).1,(a r e).2⟩)
theorem Ce.putObj{B:Nat}{J:Nat->Zh->Prop}(h:Ce B J){k:Nat}{W:Zh}{l:Nat}{o:Obj}(a:Obj)(c:J k W)(b:B<=l)(d:W.heap[l]?=some o)(f:Bj o=true):J k (W.putObj l a):=
 h k W _ (some l) c (grownBy_putObj' W l a) (fun r e=>by cases e;exact⟨b,o,d,f⟩)
theorem Ce.alloc{B:Nat}{J:Nat->Zh->Prop}(h:Ce B J){k:Nat}{W:Zh}(o:Obj)(b:J k W):J k (W.alloc o):=
 h k W _ none b ⟨rfl,rfl,rfl,by simp,fun i a _=>Below.heap_alloc W o i a⟩ (fun r e=>by cases e)
def ET(P:Program)(gf:Nat)(ar:Nat->Array Value)(xs:Zl)(n0:Nat)(w:Zh):Prop:=
 ∀(l:Nat) (J Jx:Nat->Zh->Prop) (W:Zh),Zz w W->Ce W.heap.size J->Ce W.heap.size Jx->
  (∀k W1 s,xs[k]?=some s->J k W1->W.heap.size<=W1.heap.size->∀m,YieldAt Fence.wide m P l #[.string s] W1 fun e W'=>
    Bs W.heap.size W1 W'/\((e=.returned (.bool true)/\J (k+1) W'/\Below n0 W1 W')∨(e=.returned (.bool false)/\Jx (k+1) W')))->
  J 0 W->∀m,CallsIn Fence.wide m P gf (ar l) W fun e W'=>(∃v,e=.returned v)/\(J xs.length W'∨∃k,Jx k W')
def YC(n0 B:Nat)(I:Nat->Zh->Prop)(Ix:Nat->Zh->Prop)(k:Nat)(W:Zh):Exit->Act->Zh->Prop
 |.normal,_,W'=>Bs B W W'/\I (k+1) W'/\Below n0 W W'
 |.ret,_,W'=>Bs B W W'/\Ix (k+1) W'
 |_,_,_=>False
theorem Ha{P:Program}{n:Nat}{g:Operand}{ps:Array Tmp}{assign body:Code}{Q:Exit->Act->Zh->Prop}{a:Act}{w:Zh}
 {gf:Nat} {pre lb:Array Value} (hg:a.eval g=.func (.func gf) pre lb) (eg:∀args w,(callFunc gf args).run P w=.ok (.enter gf args) w)
 {xs:Zl} {n0:Nat} (zA:ET P gf (fun l=>pre++ #[.func (.yield l) #[] #[]]++lb) xs n0 w) (zU:n0<=w.heap.size) (zP:ps.size=1)
 (I Y:Nat->Zh->Prop) (G:Ce w.heap.size I) (R:Ce w.heap.size Y) (h0:I 0 w) (a1:Zi->Act)
 (C:∀(l m:Nat) (s:Zi) (W:Zh) (K:Act->Zh->Prop),K (a1 s) W->
   assign.wpIn (Fence.wide.inRound l) m P (Exit.then K (fun _ _ _=>False)) {tmps:=(ps.zip #[.string s]).foldl (fun t (p,v)=>t.setIfInBounds p v) a.tmps,defers:=[]} W)
 (M:∀(l m k:Nat) (s:Zi) (W:Zh),xs[k]?=some s->I k W->w.heap.size+2<=W.heap.size->body.wpIn (Fence.wide.inRound l) m P (YC n0 w.heap.size I Y k W) (a1 s) W)
 (N:∀(D:Nat) (W:Zh),w.heap.size<=D->I xs.length W->W.heap[D]?=some (.deferred (some []))->Q .normal {a with defers:={target:=.collected D,args:= #[]}::a.defers} W)
 (O:∀(D k:Nat) (W:Zh),w.heap.size<=D->Y k W->W.heap[D]?=some (.deferred (some []))->Code.ret.wpIn Fence.wide n P Q {a with defers:={target:=.collected D,args:= #[]}::a.defers} W):
 (Code.rangeFunc g ps assign body).wpIn Fence.wide n P Q a w:=by
 refine wpIn_rangeFunc ?_;intro fn zK;obtain⟨c,d⟩:∃c:LoopState->Option Code->Loop,c=fun st pe=>{state:=st,pending:=pe,fn,tmps:=a.tmps,params:=ps,assign,body,defers:=w.heap.size}:=⟨_,rfl⟩;obtain⟨V,H⟩:∃V,V=(w.alloc (.deferred (some []))).alloc (.loop (c .ready none)):=⟨_,rfl⟩;have zT:V.heap.size=w.heap.size+2:=by rw[H];simp
 have zH:V.heap[w.heap.size+1]?=some (.loop (c .ready none)):=by have:=World.alloc_heap_new (w.alloc (.deferred (some []))) (.loop (c .ready none));rw[World.size_alloc]at this;rw[H];exact this
 have zG:V.heap[w.heap.size]?=some (.deferred (some [])):=by rw[H];exact(Below.heap_alloc _ _ _ (by simp)).trans (World.alloc_heap_new w _)
 have zF:Below w.heap.size w V:=by rw[H];exact((Below.refl _ w).alloc (Zx) _).alloc (by simp) _
 have zE:I 0 V:=by rw[H];exact G.alloc _ (G.alloc _ h0)
 refine⟨w.heap.size+1,[{target:=.collected w.heap.size,args:= #[]}],V,{target:=.fn (.func gf) lb,args:=pre++ #[.func (.yield (w.heap.size+1)) #[] #[]]},V,gf,
  pre++ #[.func (.yield (w.heap.size+1)) #[] #[]]++lb,V,?_,?_,fun _ _=>trivial,?_,fun h=>by simp[Fence.wide]at h,?_⟩
 ·rw[H,d];exact run_enterLoop_outer _ _ _ _ _
 ·simp only[resolve,hg];simp[go_sem]
 ·simp[invoke,go_sem,eg]
 ·have zB:∀{A:Zh} {row:Option Nat},(∀r,row=some r->V.heap.size<=r/\∃o:Obj,A.heap[r]?=some o/\Bj o=true)->(∀r,row=some r->w.heap.size<=r/\∃o:Obj,A.heap[r]?=some o/\Bj o=true):=
   fun j r e=>⟨by have:=(j r e).1;omega,(j r e).2⟩
  have f:∀{A B:Zh} {row:Option Nat} {k:Nat} {o:Obj},A.grownBy B row->(∀r,row=some r->V.heap.size<=r/\∃o:Obj,A.heap[r]?=some o/\Bj o=true)->k<V.heap.size->A.heap[k]?=some o->B.heap[k]?=some o:=
   fun {A B row k o} q j J Z=>(q.block k (Array.getElem?_eq_some_iff.1 Z).1 (fun e=>by have:=(j k e.symm).1;omega)).trans Z
  refine(zA (w.heap.size+1)
   (fun k W=>I k W/\W.heap[w.heap.size+1]?=some (.loop (c .ready none))/\W.heap[w.heap.size]?=some (.deferred (some [])))
   (fun k W=>Y k W/\W.heap[w.heap.size+1]?=some (.loop (c .done (some .ret)))/\W.heap[w.heap.size]?=some (.deferred (some [])))
   V zF
   (fun s A B row F q j=>⟨G s A B row F.1 q (zB j),f q j (by omega) F.2.1,f q j (by omega) F.2.2⟩)
   (fun s A B row F q j=>⟨R s A B row F.1 q (zB j),f q j (by omega) F.2.1,f q j (by omega) F.2.2⟩)
   ?_ ⟨zE,zH,zG⟩ _).mono ?_
  ·rintro k W s zR ⟨E,z,J⟩ zS m;have zO:w.heap.size+1<W.heap.size:=(Array.getElem?_eq_some_iff.1 z).1;have hy:=run_yield (P:=P) (args:= #[.string s]) z (by rw[d];exact zP.symm);rw[d]at hy;refine⟨fn,_,assign,body,hy,roundIn_of_wpIn zK (C _ _ s W _ ?_)⟩;clear hy;refine⟨_,run_beginRound z (by rw[d]),?_⟩
   have zN:(W.putObj (w.heap.size+1) (.loop {c .ready none with state:=.busy})).heap[w.heap.size+1]?=some (.loop {c .ready none with state:=.busy}):=World.putObj_heap_same zO;have zM:(W.putObj (w.heap.size+1) (.loop {c .ready none with state:=.busy})).heap[w.heap.size]?=some (.deferred (some [])):=(World.putObj_heap_other (by omega)).trans J
   refine wpIn_mono (M _ _ k s _ zR (G.putObj _ E (by omega) z rfl) (by rw[World.putObj_size];omega)) ?_;have fin:∀(jump:Option Code) (u:Zh),Bs w.heap.size (W.putObj (w.heap.size+1) (.loop {c .ready none with state:=.busy})) u->
    (Instr.endRound (w.heap.size+1) jump).run P u=.ok (.bool jump.isNone) (u.putObj (w.heap.size+1) (.loop (c (if jump.isNone then .ready else .done) jump)))/\
    u.heap[w.heap.size+1]?=some (.loop {c .ready none with state:=.busy})/\
    (u.putObj (w.heap.size+1) (.loop (c (if jump.isNone then .ready else .done) jump))).heap[w.heap.size+1]?=some (.loop (c (if jump.isNone then .ready else .done) jump))/\
    (u.putObj (w.heap.size+1) (.loop (c (if jump.isNone then .ready else .done) jump))).heap[w.heap.size]?=some (.deferred (some []))/\
    Bs V.heap.size W (u.putObj (w.heap.size+1) (.loop (c (if jump.isNone then .ready else .done) jump))):=fun jump u x=>by
    have y:=x.same _ _ (by omega) zN rfl;have:=run_endRound (P:=P) jump y;have zC:Bs V.heap.size W (u.putObj (w.heap.size+1) (.loop (c (if jump.isNone then .ready else .done) jump))):=by refine⟨by have:=x.size;rw[World.putObj_size]at this ⊢;exact this,fun b o hb Z hn=> ?_⟩;rw[World.putObj_heap_other (by omega)];exact x.same b o (by omega) ((World.putObj_heap_other (by omega)).trans Z) hn
    refine⟨?_,y,World.putObj_heap_same (Array.getElem?_eq_some_iff.1 y).1,(World.putObj_heap_other (by omega)).trans (x.same _ _ (Zx) zM rfl),zC⟩;rw[d]at this ⊢;exact this
   rintro e a3 u L;have zI:∀o,Below n0 W (W.putObj (w.heap.size+1) o):=fun o=>⟨rfl,rfl,rfl,by simp,fun i E=>World.putObj_heap_other (by omega)⟩;cases e with
   |normal=>obtain⟨x,S,zJ⟩:=L;obtain⟨j,y,X,T,U⟩:=fin none u x;exact⟨_,_,j,U,.inl ⟨rfl,⟨G.putObj _ S (by omega) y rfl,X,T⟩,((zI _).trans zJ).trans ⟨rfl,rfl,rfl,by simp,fun i E=>World.putObj_heap_other (by omega)⟩⟩⟩
   |ret=>obtain⟨x,S⟩:=L;obtain⟨j,y,X,T,U⟩:=fin (some .ret) u x;exact⟨_,_,j,U,.inr ⟨rfl,R.putObj _ S (by omega) y rfl,X,T⟩⟩
   |exit id=>exact L.elim
   |goto t=>exact L.elim
   |panic ch=>exact L.elim
   |outgrown=>exact L.elim
  ·rintro e W2 ⟨⟨v,rfl⟩,(⟨E,z,J⟩|⟨k,E,z,J⟩)⟩
   ·exact⟨none,_,by have:=run_endLoop (P:=P) z (by rw[d];simp);rw[d]at this;exact this,N _ _ (Zx) (G.putObj _ E (by omega) z rfl) ((World.putObj_heap_other (by omega)).trans J)⟩
   ·exact⟨some .ret,_,by have:=run_endLoop (P:=P) z (by rw[d];simp);rw[d]at this;exact this,O _ k _ (Zx) (R.putObj _ E (by omega) z rfl) ((World.putObj_heap_other (by omega)).trans J)⟩
end
section
open Go.RowKit
attribute [local go_sem] Oper.semAt_some
theorem Mv(a:Zk)(v:Nat)(c:Zl)(g:Nat)(w:Zh)(f:Ad w g a c)(o:g<=w.heap.size)(E:c.length<=maxLen):
 ET prog 126 (fun l=> #[.agg #[.slice a c.length v],.func (.yield l) #[] #[]]) c g w:=by
 intro l J I W r A F t z m;unfold maxLen at E;have d:=f.below (r.mono o);refine callsIn_of_wp func126 rfl trivial ?_ rfl;simp only[ntmps126,List.size_toArray,List.length_cons,List.length_nil,Nat.reduceAdd,Nat.reduceSub,Array.replicate_succ,Array.replicate_zero,List.push_toArray,List.append_toArray,List.nil_append,List.cons_append]
 gi_wp2
 gi_loopw [9] (fun i wr=>∃k:Nat,k<=c.length/\i=Zg k/\J k wr/\Below g W wr/\W.heap.size<=wr.heap.size)
  (fun i _=>c.length -(intOf i).toNat)
 case atStart=>exact⟨0,Nat.zero_le _,rfl,A.alloc _ z,(Below.refl _ _).alloc (Zm o r.size) _,by simp⟩
 case round=>
  obtain⟨k,N,rfl,n,p,q⟩:=hrel;by_cases hlt:k<c.length
  ·obtain⟨b,H,D,M,u⟩:=(d.below p).at hlt;subst D;have G:=u k c[k] (Zv hlt);obtain⟨L,tmps,assign,body,O,C⟩:=t k wr c[k] (Zv hlt) n q (m -1);clear u f d t;generalize c[k]=s at *
   gi_wp2
   refine⟨fun h=>by simp[Fence.wide]at h,C.mono ?_⟩;rintro e K ⟨B,(⟨rfl,x,y⟩|⟨rfl,j⟩)⟩
   ·gi_wp2
    go_roundw
    case rel=>exact⟨k+1,by omega,by simp,x,p.trans y,Zm q B.size⟩
    case measure=>simp[intOf];omega
   ·gi_wp2
    refine bodyPost_ret (results_none rfl _ _ _) rfl ?_;exact⟨⟨_,rfl⟩,.inr ⟨_,j⟩⟩
  ·obtain rfl:k=c.length:=by omega
   gi_wp2
   go_end0
   exact⟨⟨_,rfl⟩,.inl n⟩
theorem Mw(v:Value)(a:Zk)(x:Nat)(c:Zl)(g:Nat)(w:Zh)(f:Ad w g a c)(o:g<=w.heap.size)(F:c.length<=maxLen):
 ET prog 127 (fun l=> #[.agg #[v,.slice a c.length x],.func (.yield l) #[] #[]]) c g w:=by
 intro l J K W r B G t A m;unfold maxLen at F;have d:=f.below (r.mono o);refine callsIn_of_wp func127 rfl trivial ?_ rfl;simp only[ntmps127,List.size_toArray,List.length_cons,List.length_nil,Nat.reduceAdd,Nat.reduceSub,Array.replicate_succ,Array.replicate_zero,List.push_toArray,List.append_toArray,List.nil_append,List.cons_append]
 gi_wp2
 gi_loopw [9] (fun i wr=>∃k:Nat,k<=c.length/\i=Zg k/\J k wr/\Below g W wr/\W.heap.size<=wr.heap.size)
  (fun i _=>c.length -(intOf i).toNat)
 case atStart=>exact⟨0,Nat.zero_le _,rfl,B.alloc _ A,(Below.refl _ _).alloc (Zm o r.size) _,by simp⟩
 case round=>
  obtain⟨k,O,rfl,n,p,q⟩:=hrel;by_cases hlt:k<c.length
  ·obtain⟨b,I,E,N,u⟩:=(d.below p).at hlt;subst E;have H:=u k c[k] (Zv hlt);obtain⟨M,tmps,assign,body,P,D⟩:=t k wr c[k] (Zv hlt) n q (m -1);clear u f d t;generalize c[k]=s at *
   gi_wp2
   refine⟨fun h=>by simp[Fence.wide]at h,D.mono ?_⟩;rintro e L ⟨C,(⟨rfl,y,z⟩|⟨rfl,j⟩)⟩
   ·gi_wp2
    go_roundw
    case rel=>exact⟨k+1,by omega,by simp,y,p.trans z,Zm q C.size⟩
    case measure=>simp[intOf];omega
   ·gi_wp2
    refine bodyPost_ret (results_none rfl _ _ _) rfl ?_;exact⟨⟨_,rfl⟩,.inr ⟨_,j⟩⟩
  ·obtain rfl:k=c.length:=by omega
   gi_wp2
   go_end0
   exact⟨⟨_,rfl⟩,.inl n⟩
end
section
open Go.RowKit
attribute [local go_sem] Oper.semAt_some
theorem Ce.and{B:Nat}{J K:Nat->Zh->Prop}(h:Ce B J)(k:Ce B K):Ce B (fun n W=>J n W/\K n W):=
 fun n W a row c b d=>⟨h n W a row c.1 b d,k n W a row c.2 b d⟩
theorem DC{B c:Nat}(w:Zh)(i:c<=w.heap.size)(h:c<=B):Ce B (fun _ W=>Below c w W):=
 fun _ W g row a b f=>⟨b.os.trans a.os,b.tape.trans a.tape,b.output.trans a.output,Zm a.size b.size,fun k d=>
  (b.block k (by have:=a.size;omega) (fun e=>by have:=(f k e.symm).1;omega)).trans (a.block k d)⟩
theorem CJ{B b:Nat}(o:Obj)(g:b<B):Ce B (fun _ W=>W.heap[b]?=some o):=
 fun _ W f row a c d=>(c.block b (Array.getElem?_eq_some_iff.1 a).1 (fun e=>by have:=(d b e.symm).1;omega)).trans a
theorem Oz(a j:Zk)(c b:Nat)(d g:Zl)(n0:Nat)(w:Zh)(L:Ad w n0 a d)(z:Ad w n0 j g)(H:n0<=w.heap.size)(hl:d.length<=maxLen)(zE:g.length<=maxLen):
 ET prog 94 (fun l=> #[.agg #[.slice a d.length c,.slice j g.length b],.func (.yield l) #[] #[]]) (d++g) n0 w:=by
 intro l J T W Q v t U h0 m;refine callsIn_of_wp_marks func94 rfl trivial ?_ rfl;simp only[ntmps94,List.size_toArray,List.length_cons,List.length_nil,Nat.reduceAdd,Nat.reduceSub,Array.replicate_succ,Array.replicate_zero,List.push_toArray,List.append_toArray,List.nil_append,List.cons_append]
 gi_wp2
 have zA:=Zm H Q.size;obtain⟨q,p⟩:∃q,q=(W.alloc (.cells #[.slice a d.length c,.slice j g.length b] 148)).alloc (.cells #[.func (.yield l) #[] #[]] 124):=⟨_,rfl⟩;have zN:q.heap.size=W.heap.size+2:=by rw[p];simp
 have zC:q.heap[W.heap.size]?=some (.cells #[.slice a d.length c,.slice j g.length b] 148):=by rw[p];exact(Below.heap_alloc _ _ _ (by simp)).trans (World.alloc_heap_new _ _)
 have zI:q.heap[W.heap.size+1]?=some (.cells #[.func (.yield l) #[] #[]] 124):=by rw[p];have:=World.alloc_heap_new (W.alloc (.cells #[.slice a d.length c,.slice j g.length b] 148)) (.cells #[.func (.yield l) #[] #[]] 124);rwa[World.size_alloc]at this
 have N:Below n0 W q:=by rw[p];exact((Below.refl _ W).alloc zA _).alloc (by simp;omega) _
 have Z:J 0 q:=by rw[p];exact v.alloc _ (v.alloc _ h0)
 rw[←p];clear p;have zF:=(L.below (Q.mono H)).below N;have zG:=(z.below (Q.mono H)).below N;refine Ha (gf:=126) (pre:= #[.agg #[.slice a d.length c]]) (lb:= #[]) rfl (enters_of func126 (by kernel_rfl) rfl) (xs:=d) (n0:=n0)
  (by simpa using Mv a c d n0 q zF (by omega) hl) (by omega) rfl
  (fun k V=>J k V/\Below n0 q V/\V.heap[W.heap.size]?=some (.cells #[.slice a d.length c,.slice j g.length b] 148)/\V.heap[W.heap.size+1]?=some (.cells #[.func (.yield l) #[] #[]] 124))
  T ((v.mono (by omega)).and ((DC q (by omega) (by omega)).and ((CJ _ (by omega)).and (CJ _ (by omega))))) (t.mono (by omega))
  ⟨Z,Below.refl _ _,zC,zI⟩ (fun s=>{tmps:= #[.agg #[.slice a d.length c,.slice j g.length b],.func (.yield l) #[] #[],Yz W.heap.size,Yz (W.heap.size+1),.string s,undef,
   Yz W.heap.size,.agg #[.slice a d.length c],.func (.func 126) #[.agg #[.slice a d.length c]] #[],.string s,undef,undef,undef,undef,undef,undef,undef,undef,undef,undef,undef],defers:=[]}) ?assign ?body ?done ?stop
 case assign=>
  intro A B s V K f
  gi_wp2
  exact f
 case body=>
  rintro A B k s V I ⟨o,E,x,n⟩ zH;obtain⟨fn,tmps,assign,body,hy,P⟩:=U k V s (by rw[List.getElem?_append_left (Zw I).1];exact I) o (by omega) (B -1);have zB:V.cell? (Ze (W.heap.size+1) 0)=some (.func (.yield l) #[] #[]):=by simp[World.cell?,n]
  gi_wp2
  refine⟨fun h=>by simp[Fence.wide]at h,RoundIn.mono (F:=Fence.wide.inRound A) P ?_⟩;rintro e V3 ⟨i,(⟨rfl,C,y⟩|⟨rfl,r⟩)⟩
  ·gi_wp2
   exact⟨i.mono (by omega),⟨C,E.trans y,i.same _ _ (by omega) x rfl,i.same _ _ (by omega) n rfl⟩,y⟩
  ·gi_wp2
   exact⟨i.mono (by omega),r⟩
 case done=>
  rintro D V hD ⟨o,E,x,n⟩ f;have zK:V.cell? (Ze (W.heap.size) 0)=some (.slice a d.length c):=by simp[World.cell?,x]
  have zM:V.cell? (Ze (W.heap.size) 1)=some (.slice j g.length b):=by simp[World.cell?,x]
  gi_wp2
  have M:=(Array.getElem?_eq_some_iff.1 f).1;have zJ:=(Array.getElem?_eq_some_iff.1 n).1;refine Ha (gf:=127) (pre:= #[.agg #[.slice a d.length c,.slice j g.length b]]) (lb:= #[]) rfl (enters_of func127 (by kernel_rfl) rfl) (xs:=g) (n0:=n0)
   (by simpa using Mw (.slice a d.length c) j b g n0 V (zG.below E) (by omega) zE) (by omega) rfl
   (fun k X=>J (d.length+k) X/\X.heap[W.heap.size+1]?=some (.cells #[.func (.yield l) #[] #[]] 124)/\X.heap[D]?=some (.deferred (some [])))
   (fun _ X=>(∃k,T k X)/\X.heap[D]?=some (.deferred (some [])))
   (Ce.and (fun k X O row o R S=>(v.mono (by omega)) (d.length+k) X O row o R S) ((CJ _ zJ).and (CJ _ M))) (Ce.and (fun _ X O row o R S=>o.elim fun k hk=>⟨k,(t.mono (by omega)) k X O row hk R S⟩) (CJ _ M))
   ⟨o,n,f⟩ (fun s=>{tmps:= #[.agg #[.slice a d.length c,.slice j g.length b],.func (.yield l) #[] #[],Yz W.heap.size,Yz (W.heap.size+1),undef,.string s,
    Yz W.heap.size,.agg #[.slice a d.length c],.func (.func 126) #[.agg #[.slice a d.length c]] #[],undef,undef,undef,undef,undef,
    .agg #[.slice a d.length c,.slice j g.length b],.func (.func 127) #[.agg #[.slice a d.length c,.slice j g.length b]] #[],.string s,undef,undef,undef,undef],defers:=[]}) ?assign2 ?body2 ?done2 ?stop2
  case assign2=>
   intro A B s X K f
   gi_wp2
   exact f
  case body2=>
   rintro A B k s X I ⟨o,n,f⟩ zH;obtain⟨fn,tmps,assign,body,hy,P⟩:=U (d.length+k) X s (by rw[List.getElem?_append_right (by omega),Nat.add_sub_cancel_left];exact I) o (by omega) (B -1);have zB:X.cell? (Ze (W.heap.size+1) 0)=some (.func (.yield l) #[] #[]):=by simp[World.cell?,n]
   gi_wp2
   refine⟨fun h=>by simp[Fence.wide]at h,RoundIn.mono (F:=Fence.wide.inRound A) P ?_⟩;rintro e V3 ⟨i,(⟨rfl,C,y⟩|⟨rfl,r⟩)⟩
   ·gi_wp2
    exact⟨i.mono (by omega),⟨C,i.same _ _ (by omega) n rfl,i.same _ _ (by omega) f rfl⟩,y⟩
   ·gi_wp2
    exact⟨i.mono (by omega),⟨_,r⟩,i.same _ _ (by omega) f rfl⟩
  case done2=>
   rintro D2 X Y ⟨o,n,f⟩ u
   gi_wp2
   refine⟨by simp,.inl ⟨_,_,rfl,run_takeDeferred u,by simp,.inl ⟨_,_,rfl,run_takeDeferred ((World.putObj_heap_other (by omega)).trans f),?_⟩⟩⟩;refine⟨_,results_none rfl _ _ _,⟨_,rfl⟩,.inl ?_⟩;rw[List.length_append];exact v.putObj _ (v.putObj _ o (by omega) u rfl) (by omega) ((World.putObj_heap_other (by omega)).trans f) rfl
  case stop2=>
   rintro D2 k X Y ⟨⟨k2,G⟩,f⟩ u
   gi_wp2
   refine⟨by simp,.inl ⟨_,_,rfl,run_takeDeferred u,by simp,.inl ⟨_,_,rfl,run_takeDeferred ((World.putObj_heap_other (by omega)).trans f),?_⟩⟩⟩;refine⟨_,results_none rfl _ _ _,⟨_,rfl⟩,.inr ⟨k2,?_⟩⟩;exact t.putObj _ (t.putObj _ G (by omega) u rfl) (by omega) ((World.putObj_heap_other (by omega)).trans f) rfl
 case stop=>
  rintro D k V hD G f
  gi_wp2
  refine⟨by simp,.inl ⟨_,_,rfl,run_takeDeferred f,?_⟩⟩;exact⟨_,results_none rfl _ _ _,⟨_,rfl⟩,.inr ⟨k,t.putObj _ G (by omega) f rfl⟩⟩
end
theorem Dr.fg{V j:Zh}{base d m B:Nat}{O P L:Value}{p g given ae:Int}{k:List Kd}{n:List Pd}{l:List Ld}(h:Dr V base d m O P L p g given ae k n l)(y:d<B)(z:m<B)(x:base<=B){row:Option Nat}(s:V.grownBy j row)(t:∀r,row=some r->B<=r/\∃o,V.heap[r]?=some o/\Bj o=true):Dr j base d m O P L p g given ae k n l:=by
 refine(DU.an ⟨h⟩ (Ct s) (fun r q=> ?_)).dr;obtain⟨w,o,b,f⟩:=t r (by simpa using q);refine⟨by omega,fun i=> ?_,fun u v e=> ?_⟩
 ·unfold vB at i;simp only[List.mem_cons,List.mem_append,Option.mem_toList]at i;rcases i with e|e|e|e|e
  ·omega
  ·omega
  ·obtain⟨c,a⟩:=BX h.ord e;rw[b]at a;cases a;simp[Bj]at f
  ·obtain⟨c,a⟩:=BX h.ci e;rw[b]at a;cases a;simp[Bj]at f
  ·obtain⟨c,a⟩:=BX h.ck e;rw[b]at a;cases a;simp[Bj]at f
 ·rw[b]at e;cases e;simp[Bj]at f
theorem Dr.bz{V:Zh}{base d m b:Nat}{O P L:Value}{r j given ae:Int}{n:List Kd}{q:List Pd}{p:List Ld}(h:Dr V base d m O P L r j given ae n q p){o:Obj}(g:V.heap[b]?=some o)(f:Bj o=true)(k:b≠d)(l:b≠m):b∉vB d m O P L/\NS V b:=by
 refine⟨fun i=> ?_,fun s t e=> ?_⟩
 ·unfold vB at i;simp only[List.mem_cons,List.mem_append,Option.mem_toList]at i;rcases i with e|e|e|e|e
  ·exact k e
  ·exact l e
  ·obtain⟨c,a⟩:=BX h.ord e;rw[g]at a;cases a;simp[Bj]at f
  ·obtain⟨c,a⟩:=BX h.ci e;rw[g]at a;cases a;simp[Bj]at f
  ·obtain⟨c,a⟩:=BX h.ck e;rw[g]at a;cases a;simp[Bj]at f
 ·rw[g]at e;cases e;simp[Bj]at f
theorem Dr.rebase{V:Zh}{base a d m:Nat}{O P L:Value}{i c given ae:Int}{g:List Pd}{e:List Ld}(h:Dr V base d m O P L i c given ae [] g e)(b:a<=base):Dr V a d m O P L i c given ae [] g e:=by
 obtain⟨n,f,j,k,l⟩:=h.map;refine⟨h.box,⟨n,f,j,k,fun s o=> ?_⟩,h.ord.mono b,h.ci.mono b,h.ck.mono b,Zm b h.bd,Zm b h.bm,h.ap⟩;rcases l s o with h|⟨u,_,_,p,_⟩
 ·exact .inl h
 ·simp at p
theorem Dr.fs{V j:Zh}{base d m B:Nat}{O P L:Value}{r l given ae:Int}{n:List Kd}{q:List Pd}{p:List Ld}(h:Dr V base d m O P L r l given ae n q p)(t:d<B)(u:m<B)(k:Tn (vB d m O P L) V j):Bs B V j:=by
 refine⟨k.size,fun b o s f g=>(k.block b (Array.getElem?_eq_some_iff.1 f).1 (fun i=> ?_)).trans f⟩;unfold vB at i;simp only[List.mem_cons,List.mem_append,Option.mem_toList]at i;rcases i with e|e|e|e|e
 ·omega
 ·omega
 ·obtain⟨c,a⟩:=BX h.ord e;rw[f]at a;cases a;simp[Bj]at g
 ·obtain⟨c,a⟩:=BX h.ci e;rw[f]at a;cases a;simp[Bj]at g
 ·obtain⟨c,a⟩:=BX h.ck e;rw[f]at a;cases a;simp[Bj]at g
theorem Bs.ie{B:Nat}{W c:Zh}{row:Option Nat}(d:W.grownBy c row)(a:∀j,row=some j->j<B):Bs B W c:=
 ⟨d.size,fun b _ f h _=>(d.block b (Array.getElem?_eq_some_iff.1 h).1 (fun e=>by have:=a b e.symm;omega)).trans h⟩
theorem Bs.below{B:Nat}{V a:Zh}(h:Zz V a):Bs B V a:=⟨h.size,fun b _ _ c _=>(h.block b (Array.getElem?_eq_some_iff.1 c).1).trans c⟩
section
attribute [local go_sem] Oper.semAt_some
theorem Qg{V:Zh}{z B:Nat}{T U:TypeId}{v:Value}(g:Boxed V (z+1) T (.pointer none))(d:Boxed V (z+1+1) U v)(h:z+1+1<B)(u:Value):Bs B V ((V.setCell (Ze (z+1) 0) (.pointer none)).setCell (Ze (z+1+1) 0) u)/\Below z V ((V.setCell (Ze (z+1) 0) (.pointer none)).setCell (Ze (z+1+1) 0) u)/\Boxed ((V.setCell (Ze (z+1) 0) (.pointer none)).setCell (Ze (z+1+1) 0) u) (z+1) T (.pointer none)/\Boxed ((V.setCell (Ze (z+1) 0) (.pointer none)).setCell (Ze (z+1+1) 0) u) (z+1+1) U u:=by
 have b:=grownBy_setCell' V (z+1) (.pointer none);have c:=grownBy_setCell' (V.setCell (Ze (z+1) 0) (.pointer none)) (z+1+1) u;have a:=g.set (.pointer none);have f:Boxed (V.setCell (Ze (z+1) 0) (.pointer none)) (z+1+1) U v:=(b.block _ (Array.getElem?_eq_some_iff.1 d).1 (fun e=>by have:=Option.some.inj e;omega)).trans d
 refine⟨(Bs.ie b (fun j e=>by cases e;omega)).trans (Bs.ie c (fun j e=>by cases e;omega)),(Below.setCell (Below.setCell (Below.refl _ _) (show z<=z+1 by omega) _) (show z<=z+1+1 by omega) _),(c.block _ (Array.getElem?_eq_some_iff.1 a).1 (fun e=>by have:=Option.some.inj e;omega)).trans a,f.set u⟩
theorem RG(f:Int)(gf:Nat)(pre lb:Array Value)(xs:Zl)(w:Zh)(h1:1<=f)(h8:f<=8)(hx:xs.length<=100000)(hs:∀s∈xs,s.size<=1048576)(hE:Env w)(eg:∀args w,(callFunc gf args).run prog w=.ok (.enter gf args) w)(yJ:∀W,Zz w W->ET prog gf (fun l=>pre++ #[.func (.yield l) #[] #[]]++lb) xs w.heap.size W):
 Calls prog 92 #[Zg f,.func (.func gf) pre lb] w fun e w'=>Zz w w'/\((∃n:Nat,Di f xs n/\e=.returned (.tuple #[.pointer none,Zg n]))∨(∃r d m O P L base,Da f r0 xs r/\e=.returned (.tuple #[Yz d,Zf])/\Dr w' base d m O P L f r.now r.given r.ae r.ks r.ps r.ls/\(w.heap.size<=base/\base+4<=m))):=by
 refine(callsIn_wide (n:=3)).1 ?_;refine callsIn_of_wp_marks func92 rfl trivial ?_ rfl;simp only[ntmps92,List.size_toArray,List.length_cons,List.length_nil,Nat.reduceAdd,Nat.reduceSub,Array.replicate_succ,Array.replicate_zero,List.push_toArray,List.append_toArray,List.nil_append,List.cons_append]
 obtain⟨W0,Q⟩:∃W,W=((w.alloc (.cells #[Zg f] 3)).alloc (.cells #[.pointer none] 141)).alloc (.cells #[Zf] 3):=⟨_,rfl⟩;have b0:=(Bm Q).1;have z0:=(Bm Q).2.1;have HD:=Yx (IZ f 0 0 0 none none none 0 0 0 [] [] [] W0 ⟨.inl rfl,.inl rfl,.inl rfl⟩ (by simp) (by simp) (by simp) (by simp) h8);have yL:=Yx Q
 gi_wp2_with fail
 refine⟨trivial,?_⟩;rw[←yL.o];refine(callsIn_wide.2 HD.o).mono ?_;rintro e o ⟨d,m,O,P,L,rfl,zC,_,_,zG⟩;have yC:=b0.trans (zG.mono b0.size);obtain⟨u,zF⟩:∃W,W=(o.alloc (.cells #[Yz d] 141)).alloc (.cells #[Zf] 3):=⟨_,rfl⟩;have yM:=Yx zF;have z:=(AW zF).1;have zM:Below w.heap.size w u:=yC.trans (z.mono yC.size);have z2:=(AW zF).2.1;have xH:w.heap.size+3<=o.heap.size:=by have:=zG.size;omega
 have x2:Boxed u w.heap.size 3 (Zg f):=by show u.heap[w.heap.size]?=_;rw[z.block _ (by omega),zG.block _ (by omega),Q,Below.heap_alloc _ _ _ (by simp;omega),Below.heap_alloc _ _ _ (by simp)];exact heap_alloc_new w _
 have x4:Boxed u (w.heap.size+1) 141 (.pointer none):=by show u.heap[w.heap.size+1]?=_;rw[z.block _ (by omega),zG.block _ (by omega),Q,Below.heap_alloc _ _ _ (by simp)];have:=heap_alloc_new (w.alloc (.cells #[Zg f] 3)) (.cells #[.pointer none] 141);rw[World.size_alloc]at this;exact this
 have x5:Boxed u (w.heap.size+1+1) 3 Zf:=by show u.heap[w.heap.size+1+1]?=_;rw[z.block _ (by omega),zG.block _ (by omega),Q];have:=heap_alloc_new ((w.alloc (.cells #[Zg f] 3)).alloc (.cells #[.pointer none] 141)) (.cells #[Zf] 3);rw[World.size_alloc,World.size_alloc]at this;exact this
 have x6:Boxed u o.heap.size 141 (Yz d):=by show u.heap[o.heap.size]?=_;rw[zF,Below.heap_alloc _ _ _ (by simp)];exact heap_alloc_new o _
 have x7:Boxed u (o.heap.size+1) 3 Zf:=by show u.heap[o.heap.size+1]?=_;rw[zF];have:=heap_alloc_new (o.alloc (.cells #[Yz d] 141)) (.cells #[Zf] 3);rw[World.size_alloc]at this;exact this
 have yE:d<o.heap.size:=zC.cg d (by simp[vB]);have yF:m<o.heap.size:=zC.cg m (by simp[vB]);have xC:=zC.bd;have xE:=zC.bm;have yV:Dr u w.heap.size d m O P L f 0 0 0 [] [] []:=(zC.below z).rebase (by omega);have HE:Hid (∀V,Zz w V->Env V):=fun V hV=>hE.below hV;clear HD yL Q zF zC zG z yC b0 hE
 gi_wp2_with fail
 rw[←yM.o];clear yM;have S:∀(b:Nat) (T:TypeId) (v:Value),b<u.heap.size->Ce u.heap.size (fun _ V=>Boxed V b T v):=fun b T v C=>CJ (.cells #[v] T) C;refine Ha (gf:=gf) (pre:=pre) (lb:=lb) rfl eg (xs:=xs) (n0:=w.heap.size) (yJ u zM) zM.size rfl
  (fun k V=>Zz w V/\Boxed V w.heap.size 3 (Zg f)/\Boxed V (w.heap.size+1) 141 (.pointer none)/\Boxed V (w.heap.size+1+1) 3 Zf/\Boxed V o.heap.size 141 (Yz d)/\Boxed V (o.heap.size+1) 3 (Zg k)/\∃r O P L,Da f r0 (xs.take k) r/\Dr V w.heap.size d m O P L f r.now r.given r.ae r.ks r.ps r.ls)
  (fun _ V=>Zz w V/\∃n:Nat,Di f xs n/\Boxed V (w.heap.size+1) 141 (.pointer none)/\Boxed V (w.heap.size+1+1) 3 (Zg n))
  ?stI ?stX ⟨zM,x2,x4,x5,x6,x7,r0,O,P,L,rfl,yV⟩
  (fun s=>{tmps:= #[Zg f,.func (.func gf) pre lb,Yz w.heap.size,undef,Yz (w.heap.size+1),Yz (w.heap.size+1+1),Yz o.heap.size,Yz (o.heap.size+1),.string s,undef,undef,Zg f,.agg #[Zg f,Zf,Zf,Zf,Zc,Zc,Zc],Yz d,.func (.func gf) pre lb,.string s,undef,undef,undef,undef,undef,undef,undef,undef,undef,undef,undef,undef,undef,undef,undef,undef,undef,undef,undef],defers:=[]}) ?assign ?body ?done ?stop
 case stI=>
  refine fun k V Y row hJ E N=> ?_;obtain⟨q1,q2,q3,q4,q5,q6,r,O,P,L,q7,q8⟩:=hJ;exact⟨DC w (Zx) zM.size k V Y row q1 E N,S _ _ _ (by omega) k V Y row q2 E N,S _ _ _ (by omega) k V Y row q3 E N,S _ _ _ (by omega) k V Y row q4 E N,S _ _ _ (by omega) k V Y row q5 E N,S _ _ _ (by omega) k V Y row q6 E N,r,O,P,L,q7,q8.fg (B:=u.heap.size) (by omega) (by omega) (by omega) E N⟩
 case stX=>
  refine fun k V Y row hJ E N=> ?_;obtain⟨q1,n,q2,q3,q4⟩:=hJ;exact⟨DC w (Zx) zM.size k V Y row q1 E N,n,q2,S _ _ _ (by omega) k V Y row q3 E N,S _ _ _ (by omega) k V Y row q4 E N⟩
 case assign=>
  intro l2 m2 s V K hK
  gi_wp2
  exact hK
 case body=>
  rintro l2 m2 k s V zS ⟨zI,y2,y4,y5,y6,y7,r,O,P,L,y,BZ⟩ yS;have yZ:k<xs.length:=(Zw zS).1;obtain⟨F,zE⟩:∃F,F=V.setCell (Ze (o.heap.size+1) 0) (Zg ((k:Int)+1)):=⟨_,rfl⟩;have A:V.grownBy F (some (o.heap.size+1)):=by rw[zE];exact grownBy_setCell' V _ _
  have xM:F.heap.size=V.heap.size:=by rw[zE];simp
  have zX:Below w.heap.size w F:=by rw[zE];exact zI.setCell (p:=⟨o.heap.size+1,0,none⟩) (by show w.heap.size<=o.heap.size+1;omega) _
  have u7:Boxed F (o.heap.size+1) 3 (Zg ((k:Int)+1)):=by rw[zE];exact y7.set _
  have ou:∀{b:Nat} {T:TypeId} {v:Value},Boxed V b T v->b≠o.heap.size+1->Boxed F b T v:=fun {b T v} C hne=>(A.block b (Array.getElem?_eq_some_iff.1 C).1 (fun e=>hne (Option.some.inj e))).trans C;have u2:=ou y2 (by omega);have u4:=ou y4 (by omega);have u5:=ou y5 (by omega);have u6:=ou y6 (by omega)
  have zV:=BZ.fg (B:=o.heap.size) yE yF (by omega) A (fun q e=>by cases e;exact⟨by omega,_,y7,by simp[Bj]⟩);have HR:=Yx (Rg s f F (hs s (Zs zS)) (HE.o F zX));have c7:=y7.cell;have f7:=y7.frozen;have c2:=y2.cell;have xG:¬w.heap.size=o.heap.size+1:=by omega
  have yK:=Yx zE;clear zE
  gi_wp2_with fail
  rw[←yK.o];clear yK;refine⟨trivial,fun h=>by simp[Fence.wide]at h,?_⟩;refine(callsIn_wide.2 HR.o).mono ?_;rintro e V2 ⟨v,rfl,yA,z⟩;obtain⟨ra,rc,rfl⟩:=As yA;obtain⟨M,zZ⟩:∃M,M=V2.alloc (.cells (Yp ((AE s f).k) ((AE s f).sum) ((AE s f).name) ((AE s f).n) ((AE s f).t) ra ((AE s f).ss.length) rc) 60):=⟨_,rfl⟩;have zU:=(AG zZ).1;have zH:Below F.heap.size F M:=z.trans (zU.mono z.size)
  have zK:Below w.heap.size w M:=zX.trans (zH.mono zX.size);have o3:∀{b:Nat} {T:TypeId} {v:Value},Boxed F b T v->Boxed M b T v:=fun {b T v} C=>(zH.block b (Array.getElem?_eq_some_iff.1 C).1).trans C;have t2:=o3 u2;have t4:=o3 u4;have t5:=o3 u5;have t6:=o3 u6;have t7:=o3 u7;have t:=zV.below zH;have e3:=(AG zZ).2.2
  have yH:Bs u.heap.size V M:=(Bs.ie A (fun j e=>by cases e;omega)).trans (Bs.below zH);have yI:Below w.heap.size V M:=(show Below w.heap.size V F from⟨A.os,A.tape,A.output,A.size,fun b C=>A.block b (by have:=zI.size;omega) (fun e=>by have:=Option.some.inj e;omega)⟩).trans (zH.mono zX.size);have yB:=Yx zZ;have xL:w.heap.size+3<=V2.heap.size:=by have h1:=z.size;have h2:=yS;omega
  have xK:o.heap.size+1<V2.heap.size:=by have h1:=z.size;have h2:=yS;omega
  clear zZ;cases hok:(AE s f).ok with
  |false=>
   have zJ:Di f xs (k+1):=⟨k,r,s,rfl,zS,y,.inl hok⟩;have yU:=t7.cell;have f5:=t5.frozen;have f4:=t4.frozen;have d4:=t4.cell;have d5:=t5.cell;clear c7 c2 f7 e3 HR yA;have J:=Yx (Qg (B:=u.heap.size) t4 t5 (by omega) (Zg ((k:Int)+1)))
   gi_wp2_with fail
   rw[←yB.o];refine⟨trivial,?_⟩
   gi_wp2_with fail
   gi_region
   all_goals gi_wp2_with fail
   all_goals exact⟨yH.trans ⟨J.o.1.size,J.o.1.same⟩,zK.trans J.o.2.1.drew,k+1,zJ,J.o.2.2.1,J.o.2.2.2⟩
  |true=>
   have yQ:=(Hq hok).1;have zT:Ho f r.now r.given r.ae r.ks r.ps r.ls (AE s f).k (AE s f).n (AE s f).t (AE s f).ss:=FB.ia (y.ok (FX h1 h8)) yQ (by have:=Ol yQ;unfold maxLen;omega);have yG:=Ae yA zU;have zA:=zV.cg;have zW:De M w.heap.size (vB d m O P L) ra (AE s f).ss:=by
    rcases yG.2 with⟨_,h0⟩|⟨g,xB,yN,hv,xD,E,_⟩
    ·exact .inl (List.eq_nil_of_length_eq_zero h0)
    ·cases hv;refine .inr ⟨g,0,rfl,(Array.getElem?_eq_some_iff.1 E).1,fun G=>by have:=zA g G;omega,.inr ⟨by omega,yN,E⟩,fun i x hx=> ?_⟩;rcases Ad.own yG with h|⟨b',xA,e',_,hc⟩
     ·rw[h]at hx;simp at hx
     ·cases e';exact hc i x hx
   have HA:Hid _:=JR d (vB d m O P L) (AE s f).k (AE s f).sum (AE s f).name (AE s f).t (AE s f).n ra (AE s f).ss.length rc (fun c a b=>Fu f r.now r.given r.ae r.ks r.ps r.ls (AE s f).k (AE s f).sum (AE s f).name (AE s f).n (AE s f).t (AE s f).ss c a b) (fun sm le X=>∃r',DP f r.now r.given r.ae r.ks r.ps r.ls (AE s f).k (AE s f).sum (AE s f).name (AE s f).n (AE s f).t (AE s f).ss r'/\r'.sm=sm/\r'.le=le/\IN w.heap.size d m f r' X) M t.cg (fun sm le X X' R yN q1 q2 q3 q4=>by
    obtain⟨r',A,g2,g3,g4⟩:=q1;have xI:=zH.size;exact⟨r',A,g2,g3,g4.stays q2 (by omega) (by omega) q4⟩) (fun X hX=>Lc w.heap.size d m O P L f r.now r.given r.ae r.ks r.ps r.ls (AE s f).k (AE s f).sum (AE s f).name (AE s f).n (AE s f).t (AE s f).ss ra rc X (DU.below ⟨t⟩ hX) zT (zW.move (U:=[]) (Tn.of hX) (by simp) (fun b C=> .inl C)))
   have d6:V2.cell? (Ze (o.heap.size) 0)=some (Yz d):=(z.cell (p:=⟨o.heap.size,0,none⟩) (by show o.heap.size<_;omega)).trans u6.cell;have xJ:o.heap.size<V2.heap.size:=by omega
   have yT:Hid (xs.take (k+1)=xs.take k++[s]):=by have hq:=Zu yZ;rw[(Zw zS).2]at hq;exact hq
   clear c7 c2 f7 HR yA yG zW zT zA e3
   gi_wp2_with fail
   rw[←yB.o];clear yB;refine⟨trivial,fun h=>by simp[Fence.wide]at h,?_⟩;refine(callsIn_wide.2 HA.o).mono ?_;intro e Z yW;obtain⟨c,a',b',zR,rfl,H⟩|⟨sm,le,rfl,⟨r',hy,_,_,⟨O',P',L',yO⟩⟩,H⟩:=yW
   ·have xF:(c !=0)=true:=by have:=zR.code;simp;omega
    have zJ:Di f xs (k+1):=⟨k,r,s,rfl,zS,y,.inr ⟨c,a',b',zR⟩⟩;have I:=t.fs (B:=o.heap.size) yE yF H;have zP:Below w.heap.size M Z:=H.below zK.size (fun b G=>by
     have:=t;unfold vB at G;simp only[List.mem_cons,List.mem_append,Option.mem_toList]at G;rcases G with h|h|h|h|h
     ·rw[h];exact this.bd
     ·rw[h];exact this.bm
     ·exact(Ac this.ord h).1
     ·exact(Ac this.ci h).1
     ·exact(Ac this.ck h).1)
    have s7:Boxed Z (o.heap.size+1) 3 (Zg ((k:Int)+1)):=I.same _ _ (by omega) t7 (by simp[Bj]);have s4:Boxed Z (w.heap.size+1) 141 (.pointer none):=(H.block _ (Array.getElem?_eq_some_iff.1 t4).1 (t.bz t4 (by simp[Bj]) (by omega) (by omega)).1).trans t4;have s5:Boxed Z (w.heap.size+1+1) 3 Zf:=(H.block _ (Array.getElem?_eq_some_iff.1 t5).1 (t.bz t5 (by simp[Bj]) (by omega) (by omega)).1).trans t5
    have J:=Yx (Qg (B:=u.heap.size) s4 s5 (by omega) (Zg ((k:Int)+1)));have yU:=s7.cell;have f5:=s5.frozen;have f4:=s4.frozen;have d4:=s4.cell;have d5:=s5.cell;have K4:=Yx (Zn (I.mono (B':=u.heap.size) (by omega)) zP);clear I zP H zR d6 HA;have yY:∀X:Zh,(Instr.field 82 (.agg #[Zg c,Zf,Zf,Zf,Zf,Zc,Zc,Zc,Zd,Zf,.string a',.string b']) 0).run prog X=.ok (Zg c) X:=fun _=>by kernel_rfl
    have yR:(BW c a' b').toArray= #[Zg c,Zf,Zf,Zf,Zf,Zc,Zc,Zc,Zd,Zf,.string a',.string b']:=rfl;rw[yR];clear yR
    gi_wp2_with fail
    gi_region
    all_goals gi_wp2_with fail
    all_goals exact⟨(yH.trans K4.o.1).trans ⟨J.o.1.size,J.o.1.same⟩,(zK.trans K4.o.2).trans J.o.2.1.drew,k+1,zJ,J.o.2.2.1,J.o.2.2.2⟩
   ·have I:=t.fs (B:=o.heap.size) yE yF H;have zP:Below w.heap.size M Z:=H.below zK.size (fun b G=>by
     have:=t;unfold vB at G;simp only[List.mem_cons,List.mem_append,Option.mem_toList]at G;rcases G with h|h|h|h|h
     ·rw[h];exact this.bd
     ·rw[h];exact this.bm
     ·exact(Ac this.ord h).1
     ·exact(Ac this.ci h).1
     ·exact(Ac this.ck h).1)
    have s7:Boxed Z (o.heap.size+1) 3 (Zg ((k:Int)+1)):=I.same _ _ (by omega) t7 (by simp[Bj]);have s6:Boxed Z o.heap.size 141 (Yz d):=I.same _ _ (by omega) t6 (by simp[Bj]);have s2:Boxed Z w.heap.size 3 (Zg f):=(H.block _ (Array.getElem?_eq_some_iff.1 t2).1 (t.bz t2 (by simp[Bj]) (by omega) (by omega)).1).trans t2
    have s4:Boxed Z (w.heap.size+1) 141 (.pointer none):=(H.block _ (Array.getElem?_eq_some_iff.1 t4).1 (t.bz t4 (by simp[Bj]) (by omega) (by omega)).1).trans t4;have s5:Boxed Z (w.heap.size+1+1) 3 Zf:=(H.block _ (Array.getElem?_eq_some_iff.1 t5).1 (t.bz t5 (by simp[Bj]) (by omega) (by omega)).1).trans t5;have zB:Da f r0 (xs.take (k+1)) r':=by rw[yT.o];exact y.snoc ⟨hok,hy⟩
    have K4:=Yx (Zn (I.mono (B':=u.heap.size) (by omega)) zP);have HF:=Yx (Zn s7 (Zn s6 (Zn s2 (Zn s4 (Zn s5 (Zn zB yO))))));clear I zP H d6 HA s7 s6 s2 s4 s5 zB yO hy;have yY:∀X:Zh,(Instr.field 82 (.agg #[Zf,Zf,Zf,Zf,Zf,Zc,Zc,Zc,.string sm,Zg le,Zd,Zd]) 0).run prog X=.ok Zf X:=fun _=>by kernel_rfl
    gi_wp2_with fail
    exact⟨yH.trans K4.o.1,⟨zK.trans K4.o.2,HF.o.2.2.1,HF.o.2.2.2.1,HF.o.2.2.2.2.1,HF.o.2.1,HF.o.1,r',O',P',L',HF.o.2.2.2.2.2.1,HF.o.2.2.2.2.2.2⟩,yI.trans K4.o.2⟩
 case done=>
  rintro D V hD ⟨zI,y2,y4,y5,y6,y7,r,O,P,L,y,BZ⟩ hK;rw[Zt (Zx)]at y;have c6:=y6.cell;have f4:=y4.frozen;have d4:=y4.cell;have f5:=y5.frozen;have d5:=y5.cell;have A:=grownBy_setCell' V (w.heap.size+1) (Yz d);have g2:=grownBy_setCell' (V.setCell (Ze (w.heap.size+1) 0) (Yz d)) (w.heap.size+1+1) Zf;obtain⟨R1,zN⟩:∃R,R=V.setCell (Ze (w.heap.size+1) 0) (Yz d):=⟨_,rfl⟩
  obtain⟨R2,zO⟩:∃R,R=R1.setCell (Ze (w.heap.size+1+1) 0) Zf:=⟨_,rfl⟩;rw[←zN]at A g2;rw[←zO]at g2;have p4:Boxed R1 (w.heap.size+1) 141 (Yz d):=by rw[zN];exact y4.set _
  have p5:Boxed R1 (w.heap.size+1+1) 3 Zf:=(A.block _ (Array.getElem?_eq_some_iff.1 y5).1 (fun e=>by have:=Option.some.inj e;omega)).trans y5;have q5:Boxed R2 (w.heap.size+1+1) 3 Zf:=by rw[zO];exact p5.set _
  have q4:Boxed R2 (w.heap.size+1) 141 (Yz d):=(g2.block _ (Array.getElem?_eq_some_iff.1 p4).1 (fun e=>by have:=Option.some.inj e;omega)).trans p4
  have zY:R2.heap[D]?=some (.deferred (some [])):=(g2.block _ (by have:=A.size;have:=(Array.getElem?_eq_some_iff.1 hK).1;omega) (fun e=>by have:=Option.some.inj e;omega)).trans ((A.block _ (Array.getElem?_eq_some_iff.1 hK).1 (fun e=>by have:=Option.some.inj e;omega)).trans hK);have yD:=DU.an ⟨BZ⟩ (Ct A) (fun b C=>by
   obtain rfl:b=w.heap.size+1:=by simpa using C
   exact⟨by omega,BZ.bz y4 (by simp[Bj]) (by omega) (by omega)⟩)
  have yP:=DU.an yD (Ct g2) (fun b C=>by
   obtain rfl:b=w.heap.size+1+1:=by simpa using C
   exact⟨by omega,yD.dr.bz p5 (by simp[Bj]) (by omega) (by omega)⟩)
  have yX:=yP.dr.fg (B:=u.heap.size) (by omega) (by omega) (by omega) (grownBy_putObj' R2 D (.deferred none)) (fun r e=>by cases e;exact⟨hD,_,zY,rfl⟩);have e4:=cell_kept q4.cell (grownBy_putObj' _ D (.deferred none)) (fun r e=>by cases e;exact⟨_,zY,rfl⟩);have e5:=cell_kept q5.cell (grownBy_putObj' _ D (.deferred none)) (fun r e=>by cases e;exact⟨_,zY,rfl⟩)
  have bR:Below w.heap.size w R2:=by rw[zO,zN];exact(zI.setCell (p:=⟨w.heap.size+1,0,none⟩) (by show _<=_+1;omega) _).setCell (p:=⟨w.heap.size+1+1,0,none⟩) (by show _<=_+1+1;omega) _
  have HR:=Yx (Zn zN zO);clear A g2 zN zO p4 p5 q4 q5 yD yP BZ
  gi_wp2_with fail
  rw[←HR.o.1,←HR.o.2];refine⟨by simp,.inl ⟨_,_,rfl,run_takeDeferred zY,?_⟩⟩;refine⟨.tuple #[Yz d,Zf],by simp[results,results92,go_sem,e4,e5],?_,.inr ⟨r,d,m,O,P,L,w.heap.size,y,rfl,yX,Zx,by omega⟩⟩;exact bR.trans ⟨rfl,rfl,rfl,by simp,fun i hi=>World.putObj_heap_other (by omega)⟩
 case stop=>
  rintro D k V hD ⟨zI,n,zR,y4,y5⟩ hK;have d4:=cell_kept y4.cell (grownBy_putObj' _ D (.deferred none)) (fun r e=>by cases e;exact⟨_,hK,rfl⟩);have d5:=cell_kept y5.cell (grownBy_putObj' _ D (.deferred none)) (fun r e=>by cases e;exact⟨_,hK,rfl⟩)
  gi_wp2
  refine⟨by simp,.inl ⟨_,_,rfl,run_takeDeferred hK,?_⟩⟩;refine⟨.tuple #[.pointer none,Zg n],by simp[results,results92,go_sem,d4,d5],?_,.inl ⟨n,zR,rfl⟩⟩;exact zI.trans ⟨rfl,rfl,rfl,by simp,fun i hi=>World.putObj_heap_other (by omega)⟩
end
def Aaf(wd:Int)(xs:Zl)(w:Zh)(e:Ending)(w':Zh):Prop:=
 ∃(x:An) (T P L:Value) (rs:Zj),Ot wd xs x/\e=.returned (.agg #[Zg x.code,Zg x.wd,Zg x.now,Zg x.given,Zg x.ae,T,P,L,.string x.sm,Zg x.le,.string x.a,.string x.b])/\AO w' w.heap.size T P L rs x.ks x.ps x.ls/\Zz w w'
section
attribute [local go_sem] Oper.semAt_some
theorem JX{B:Nat}(p:Nat->Prop):Ce B (fun k _=>p k):=fun _ _ _ _ h _ _=>h
theorem Bs.of_grownBy{B:Nat}{W c:Zh}{row:Option Nat}(d:W.grownBy c row)(a:∀j,row=some j->j<B):Bs B W c:=
 ⟨d.size,fun b _ f h _=>(d.block b (Array.getElem?_eq_some_iff.1 h).1 (fun e=>by have:=a b e.symm;omega)).trans h⟩
theorem Gw(a b:Zk)(n m c d:Nat)(w:Zh):
 Calls prog 93 #[.agg #[.slice a n c,.slice b m d]] w fun e g=>e=.returned (.agg #[.slice a n c,.slice b m d])/\Zz w g:=by
 have f:Below w.heap.size w ((w.alloc (.cells #[.slice a n c,.slice b m d] 35)).alloc (.cells #[.slice a n c,.slice b m d] 148)):=(Zy).alloc (by simp) _;go_enter func93,ntmps93;go_wp2;refine bodyPost_ret (v:=.agg #[.slice a n c,.slice b m d]) (by simp[results,results93,go_sem]) rfl ⟨rfl,?_⟩;exact f
theorem Js(a b:Zk)(n m c d:Nat)(w:Zh)(i:n<=1048576)(h:m<=1048576):
 Calls prog 124 #[.agg #[.slice a n c,.slice b m d]] w fun e g=>e=.returned (Zg (n+m))/\Zz w g:=by
 have f:Below w.heap.size w (w.alloc (.cells #[.slice a n c,.slice b m d] 148)):=Zy;go_enter func124,ntmps124;go_wp2;go_ret;exact⟨rfl,f⟩
theorem Gl(a b:Zk)(c d:Nat)(f g:Zl)(w:Zh)(Z:Ad w w.heap.size a f)(Y:Ad w w.heap.size b g)(X:f.length<=1048576)(N:g.length<=1048576)
 (hs:∀s∈f,s.size<=1048576) (O:∀s∈g,s.size<=1048576):
 Calls prog 91 #[.agg #[.slice a f.length c,.slice b g.length d]] w fun e w'=>e=.returned (.bool (Dc f g))/\Zz w w':=by
 refine(callsIn_wide (n:=3)).1 ?_;refine callsIn_of_wp_marks func91 rfl trivial ?_ rfl;simp only[ntmps91,List.size_toArray,List.length_cons,List.length_nil,Nat.reduceAdd,Nat.reduceSub,Array.replicate_succ,Array.replicate_zero,List.push_toArray,List.append_toArray,List.nil_append,List.cons_append]
 gi_wp2_with fail
 refine⟨trivial,?_⟩;have G:Below w.heap.size w ((w.alloc (.cells #[.slice a f.length c,.slice b g.length d] 35)).alloc (.cells #[.bool false] 4)):=(Zy).alloc (by simp) _;have J:Boxed ((w.alloc (.cells #[.slice a f.length c,.slice b g.length d] 35)).alloc (.cells #[.bool false] 4)) (w.heap.size+1) 4 (.bool false):=by have:=Boxed.new (w.alloc (.cells #[.slice a f.length c,.slice b g.length d] 35)) 4 (.bool false);rwa[World.size_alloc]at this
 have M:((w.alloc (.cells #[.slice a f.length c,.slice b g.length d] 35)).alloc (.cells #[.bool false] 4)).heap.size=w.heap.size+2:=by simp
 refine(callsIn_wide.2 (Gw a b f.length g.length c d _)).mono ?_;rintro e x ⟨rfl,m⟩;have A:=G.trans (m.mono (by simp;omega));have I:Boxed x (w.heap.size+1) 4 (.bool false):=(m.block _ (by simp)).trans J;have P:=m.size;rw[M]at P;clear m J M G
 gi_wp2_with fail
 refine⟨trivial,?_⟩;have H:Below w.heap.size w (x.alloc (.cells #[.slice a f.length c,.slice b g.length d] 148)):=A.alloc A.size _;have L:=I.alloc (.cells #[.slice a f.length c,.slice b g.length d] 148);refine(callsIn_wide.2 (Js a b f.length g.length c d _ X N)).mono ?_;rintro e z ⟨rfl,q⟩;have l:=H.trans (q.mono (by simp;omega))
 have v:Boxed z (w.heap.size+1) 4 (.bool false):=(q.block _ (by simp;omega)).trans L;have Q:=q.size;simp at Q;have zA:z.cell? (Ze (x.heap.size) 0)=some (.slice a f.length c):=by rw[q.cell (p:=⟨x.heap.size,0,none⟩) (by simp)];simp
 have zB:z.cell? (Ze (x.heap.size) 1)=some (.slice b g.length d):=by rw[q.cell (p:=⟨x.heap.size,1,none⟩) (by simp)];simp
 have zF:=v.cell;have zG:=v.frozen;clear q L H I A;by_cases hlen:f.length+g.length<=4000
 ·gi_wp2_with fail
  have m:w.heap.size+1<z.heap.size:=v.lt;refine Ha (gf:=94) (pre:= #[.agg #[.slice a f.length c,.slice b g.length d]]) (lb:= #[]) rfl (enters_of func94 (by kernel_rfl) rfl) (xs:=f++g) (n0:=w.heap.size)
   (by simpa using Oz a b c d f g w.heap.size z (Z.below l) (Y.below l) l.size (by unfold maxLen;omega) (by unfold maxLen;omega)) l.size rfl
   (fun k V=>Zz w V/\Boxed V (w.heap.size+1) 4 (.bool false)/\Dp ((f++g).take k)=true)
   (fun _ V=>Zz w V/\Boxed V (w.heap.size+1) 4 (.bool false)/\Dp (f++g)=false)
   ((DC w (Zx) l.size).and ((CJ (.cells #[.bool false] 4) m).and (JX _)))
   ((DC w (Zx) l.size).and ((CJ (.cells #[.bool false] 4) m).and (JX _)))
   ⟨l,v,by simp[Dp]⟩ (fun s=>{tmps:= #[.agg #[.slice a f.length c,.slice b g.length d],Yz w.heap.size,Yz (w.heap.size+1),Yz x.heap.size,.string s,
    .agg #[.slice a f.length c,.slice b g.length d],.agg #[.slice a f.length c,.slice b g.length d],.agg #[.slice a f.length c,.slice b g.length d],Zg (f.length+g.length),.bool (decide ((4000:Int)<f.length+g.length)),
    .agg #[.slice a f.length c,.slice b g.length d],.func (.func 94) #[.agg #[.slice a f.length c,.slice b g.length d]] #[],.string s,undef,undef,undef],defers:=[]}) ?assign ?body ?done ?stop
  case assign=>
   intro l2 m2 s V K y
   gi_wp2
   exact y
  case body=>
   rintro l2 m2 k s V C ⟨t,o,u⟩ zE;have T:=o.cell;have U:=o.frozen;have R:s.size<=1048576:=by
    rcases List.mem_append.1 (Zs C)with h|h
    ·exact hs s h
    ·exact O s h
   by_cases hbig:5000<s.size
   ·gi_wp2
    refine⟨Bs.of_grownBy (grownBy_setCell' V _ _) (fun j e=>by cases e;exact m),t.setCell (p:=⟨w.heap.size+1,0,none⟩) (by simp) _,o.set _,IF _ k s C hbig⟩
   ·gi_wp2
    refine⟨Bs.refl _ _,⟨t,o,?_⟩,Below.refl _ _⟩;rw[Jp _ k s C,u];simp;omega
  case done=>
   rintro D V S ⟨t,o,u⟩ y;have T:=o.cell;have U:=o.frozen;rw[Zt (by omega)]at u;have zC:D≠w.heap.size+1:=by omega
   have F:(V.setCell (Ze (w.heap.size+1) 0) (.bool true)).heap[D]?=some (.deferred (some [])):=(KeepsOthers.setCell _ _ _).same D _ y rfl;have E:=o.set (.bool true);have B:=cell_kept E.cell (grownBy_putObj' _ D (.deferred none)) (fun r e=>by cases e;exact⟨_,F,rfl⟩)
   gi_wp2
   refine⟨by simp,.inl ⟨_,_,rfl,run_takeDeferred F,?_⟩⟩;refine⟨.bool true,by simp[results,results91,go_sem,B],?_,?_⟩
   ·simp only[Dc];rw[show(f++g).all (fun s=>decide (s.size<=5000))=true from u];simp[hlen]
   ·exact(t.setCell (p:=⟨w.heap.size+1,0,none⟩) (by simp) _).trans ⟨rfl,rfl,rfl,by simp,fun i W=>World.putObj_heap_other (by omega)⟩
  case stop=>
   rintro D k V S ⟨t,o,u⟩ y;have B:=cell_kept o.cell (grownBy_putObj' _ D (.deferred none)) (fun r e=>by cases e;exact⟨_,y,rfl⟩)
   gi_wp2
   refine⟨by simp,.inl ⟨_,_,rfl,run_takeDeferred y,?_⟩⟩;refine⟨.bool false,by simp[results,results91,go_sem,B],?_,?_⟩
   ·simp only[Dc];rw[show(f++g).all (fun s=>decide (s.size<=5000))=false from u];simp
   ·exact t.trans ⟨rfl,rfl,rfl,by simp,fun i W=>World.putObj_heap_other (by omega)⟩
 ·have E:=(v.set (.bool false)).cell
  gi_wp2
  refine⟨.bool false,by simp[results,results91,go_sem,E],?_,l.setCell (p:=⟨w.heap.size+1,0,none⟩) (by simp) _⟩;simp[Dc,hlen]
end
end Go.Proofs.YtlhhpofjkgmbeaaGreatDoor
