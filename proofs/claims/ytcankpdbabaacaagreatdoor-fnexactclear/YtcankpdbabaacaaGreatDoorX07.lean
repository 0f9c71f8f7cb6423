import Derived.Test.YtcankpdbabaacaaGreatDoorX06
set_option maxRecDepth 100000
set_option maxHeartbeats 16000000
namespace Go.Proofs.YtcankpdbabaacaaGreatDoor
open Go.ChangeShapes Go.WideShapes Go.ChangeAt Go.RowKit _root_.Go.Proofs.Tryz
variable{k j i g cap c:Nat}{a b:List Ld}{x:Ld}{w:Zh}{n:Int}
theorem TL{a:List Kd}{x:Kd}(f:a[j]?=some x):(Cj k a)[j]?=some (Kg (k+j *3+AF (a.take j)) x):=by
 obtain⟨c,rfl⟩:=Zw f;have d:=(List.take_append_drop j a).symm;have e:(Cj k (a.take j)).length=j:=by rw[BO,List.length_take];omega
 have b:(a.take j).length=j:=by rw[List.length_take];omega
 conv=>lhs;rw[d,Hq,b,List.drop_eq_getElem_cons c]
 rw[List.getElem?_append_right Yw,e,Nat.sub_self];rfl
theorem TM(n g cap k:Nat)(C:Zj)(a:List Kd)(w:Zh)(h:Gc w n (Za g a.length cap) C (Cj k a))(hk:1<=k)(zN:k+a.length *3+AF a<=100000000):
 Calls prog 132 #[Za g a.length cap,Zg k] w fun e D=>e=.returned (Zg (k+a.length *3+AF a:Nat))/\Zz w D:=by
 have N:=Yx h;have t:g<w.heap.size:=(Ac h.aj rfl).2;clear h;go_enter func132,ntmps132;go_wp2
 go_loopw [1,5] (fun v i wr=>∃(j K:Nat),j<=a.length/\i=Zg j/\v=Zg K/\Hid (K=k+j *3+AF (a.take j))/\Zz w wr) (fun _ i _=>a.length -(intOf i).toNat)
 case atStart=>exact⟨0,k,Nat.zero_le _,rfl,rfl,(show k=_ by simp[AF]),Below.refl _ _⟩
 case round=>
  obtain⟨j,K,hj,rfl,rfl,Q,c⟩:=hrel;have zB:=GR a j;have zG:=c.size;by_cases hlt:j<a.length
  .have zI:(j:Int)<a.length:=Yw
   have P:a[j]?=some a[j]:=Zv hlt;have M:=IV P;have G:=GR a (j+1);have s:=TL (k:=k) P;have f:=Q.o;rw[<-f]at s;generalize a[j]=x at *
   have zA:C.length=a.length:=N.o.len.trans (BO k a);obtain⟨r,F⟩:∃r,C[j]?=some r:=⟨C[j]' Yw,Zv Yw⟩;have u:=N.o.B j _ r s F;have L:(Kg K x).B.length=x.B.length:=BC _ _;rw[L]at u;obtain⟨ra,B,rfl⟩:=As u;have d:=N.o.aj;rw[BO]at d;have l:((Cj k a).zip C)[j]?=some (Kg K x,Value.slice ra x.B.length B):=(List.getElem?_zip_eq_some (z:=(Kg K x,Value.slice ra x.B.length B))).2 ⟨s,F⟩
   have zC:=d.1;have S:w.cell? (Ze g (j *4))=some (.string (BY K)):=(d.cellAt (j *4) Yw).trans (Br Et l (show 0<4 by decide));have T:w.cell? (Ze g (j *4+1))=some (Zg ((K:Int)+1)):=(d.cellAt (j *4+1) Yw).trans (Br Et l (show 1<4 by decide));have c2:w.cell? (Ze g (j *4+2))=some (.string (BY (K+1+1))):=(d.cellAt (j *4+2) Yw).trans (Br Et l (show 2<4 by decide))
   have c3:w.cell? (Ze g (j *4+3))=some (.slice ra x.B.length B):=(d.cellAt (j *4+3) Yw).trans (Br Et l (show 3<4 by decide));have HR:Hid (Ad w w.heap.size ra (marks (K+1+1+1) x.B.length)):=by
    have U:w.ownsRow n 9 1 (.slice ra (marks (K+1+1+1) x.B.length).length B) (marks (K+1+1+1) x.B.length).length ((marks (K+1+1+1) x.B.length).map Value.string):=by rw[BC];exact u
    rcases U.2 with⟨V,h0⟩|⟨q,zH,zJ,V,_⟩
    .exact .inl (List.eq_nil_of_length_eq_zero h0)
    .cases V;exact Ad.own U
   have zK:1<=K:=Yw
   have zM:K+3+x.B.length<=100000000:=Yw
   have HN:=Yx (Zn M f);clear d u P l s f M G F zA zC zB L;have W:=(c.cell (p:=⟨g,j *4,none⟩) t).trans S;have q0:=Ar.cell W (show g<wr.heap.size by omega);have E:=Ar.ne wr;have H:Hid (∀m:Ar wr,Calls prog 83 #[Zg K] m.w fun e D=>e=.returned (.string (BY K))/\Below m.w.heap.size m.w D):=fun m=>CD K _ m.w rfl Yw Yw;have O:=Yx (Zn T (Zn c2 c3));clear S T c2 c3 W;go_wp2
   refine Au Yt Yt ?_
   repeat (go_big_quiet_step (exact Ar.calls (H.o _)))
   refine wpQuiet_nil ?_;intro m;have A:Below w.heap.size w m.w:=c.trans (m.h.mono zG);have y1:=(A.cell (p:=⟨g,j *4+1,none⟩) t).trans O.o.1;have X:=(A.cell (p:=⟨g,j *4+2,none⟩) t).trans O.o.2.1;have Y:=(A.cell (p:=⟨g,j *4+3,none⟩) t).trans O.o.2.2;have zF:=A.size;generalize m.w=wm at *
   clear q0 E H m;have q2:=Ar.cell X (show g<wm.heap.size by omega);have E:=Ar.ne wm;have I:Hid (∀m:Ar wm,Calls prog 83 #[Zg ((K:Int)+1+1)] m.w fun e D=>e=.returned (.string (BY (K+1+1)))/\Below m.w.heap.size m.w D):=fun m=>CD (K+1+1) _ m.w Yw Yw Yw;have J:=Yx Y;clear X Y;go_wp2;refine Au Yt Yt ?_
   repeat (go_big_quiet_step (exact Ar.calls (I.o _)))
   refine wpQuiet_nil ?_;intro y;have o:Below w.heap.size w y.w:=A.trans (y.h.mono zF);have z3:=(y.h.cell (p:=⟨g,j *4+3,none⟩) (show g<wm.heap.size by omega)).trans J.o;have b:=Fv ra x.B.length B (K+1+1+1) w.heap.size y.w (Ad.below HR.o o) o.size Yw Yw;rw[show((K+1+1+1:Nat):Int)=(K:Int)+1+1+1 from by omega]at b;have R:=Yx b;have zE:=o.size;generalize y.w=w2 at *
   clear q2 E I y b y1 J;go_wp2_with fail;refine Calls.mono R.o ?_;rintro e w3 ⟨rfl,Z⟩;clear z3 R;go_wp2;exact⟨⟨j+1,K+1+1+1+x.B.length,Yw,Yp,Yp,(by have:=HN.o;show _=_;omega),o.trans (Z.mono zE)⟩,by simp[intOf];omega⟩
  .obtain rfl:j=a.length:=Yw
   have f:=Q.o;rw[Zt (Zx)]at f;subst f;go_wp2;go_ret;exact⟨rfl,c⟩
def Ei(k:Nat)(ps:List Pd):List Pd:=(List.range ps.length).map fun i=>⟨BY (k+i *2),BY (k+i *2+1)⟩
def Ej(k:Nat)(ls:List Ld):List Ld:=(List.range ls.length).map fun(i:Nat)=>⟨(k:Int)+(i:Int) *3,BY (k+i *3+1),(k:Int)+(i:Int) *3+1+1⟩
theorem EE(k:Nat)(a:List Pd):(Ei k a).length=a.length:=by simp[Ei]
theorem FK(k:Nat)(a:List Ld):(Ej k a).length=a.length:=by simp[Ej]
theorem MZ{a:List Pd}(h:i<a.length):(Ei k a)[i]?=some ⟨BY (k+i *2),BY (k+i *2+1)⟩:=by simp[Ei,h]
theorem Na(h:i<a.length):(Ej k a)[i]?=some ⟨(k:Int)+(i:Int) *3,BY (k+i *3+1),(k:Int)+(i:Int) *3+1+1⟩:=by simp[Ej,h]
theorem KP:∀{zs:List Pd} {i:Nat},i<zs.length->∀y:Pd,((Ab pC zs).set (i *2) (.string y.name)).set (i *2+1) (.string y.sum)=Ab pC (zs.set i y)
 |[],i,h,_=>by simp at h
 |z::zs,0,h,y=>by simp[Ab,pC]
 |z::zs,i+1,h,y=>by
  have b:=KP (zs:=zs) (i:=i) (by simpa using h) y;have e:Ab pC (z::zs)=pC z++Ab pC zs:=by simp[Ab]
  have a:Ab pC ((z::zs).set (i+1) y)=pC z++Ab pC (zs.set i y):=by simp[Ab]
  rw[e,a,<-b,show(i+1) *2=(pC z).length+i *2 by rw[BM];omega];rw[List.set_append_right _ _ Yw,Nat.add_sub_cancel_left,show(pC z).length+i *2+1=(pC z).length+(i *2+1) by omega,List.set_append_right _ _ Yw,Nat.add_sub_cancel_left]
theorem KQ:∀{zs:List Ld} {i:Nat},i<zs.length->∀y:Ld,(((Ab lC zs).set (i *3) (Zg y.V)).set (i *3+1) (.string y.sum)).set (i *3+2) (Zg y.bg)=Ab lC (zs.set i y)
 |[],i,h,_=>by simp at h
 |z::zs,0,h,y=>by simp[Ab,lC]
 |z::zs,i+1,h,y=>by
  have b:=KQ (zs:=zs) (i:=i) (by simpa using h) y;have e:Ab lC (z::zs)=lC z++Ab lC zs:=by simp[Ab]
  have a:Ab lC ((z::zs).set (i+1) y)=lC z++Ab lC (zs.set i y):=by simp[Ab]
  rw[e,a,<-b,show(i+1) *3=(lC z).length+i *3 by rw[Cy];omega];rw[List.set_append_right _ _ Yw,Nat.add_sub_cancel_left,show(lC z).length+i *3+1=(lC z).length+(i *3+1) by omega,List.set_append_right _ _ Yw,Nat.add_sub_cancel_left,show(lC z).length+i *3+2=(lC z).length+(i *3+2) by omega,List.set_append_right _ _ Yw,Nat.add_sub_cancel_left]
theorem Mk(a:Zk)(cap k:Nat)(w:Zh):Calls prog 80 #[.slice a 0 cap,Zg k] w fun e b=>e=.returned (Zg k)/\b=w:=by
 go_enter func80,ntmps80;go_wp2
 go_loopw [1,5] (fun v i wr=>v=Zg k/\i=Zg 0/\wr=w) (fun _ _ _=>0)
 case atStart=>exact⟨rfl,rfl,rfl⟩
 case round=>
  obtain⟨rfl,rfl,rfl⟩:=hrel;go_wp2;go_ret;exact⟨rfl,rfl⟩
theorem Ml(a:Zk)(cap k:Nat)(w:Zh):Calls prog 132 #[.slice a 0 cap,Zg k] w fun e b=>e=.returned (Zg k)/\b=w:=by
 go_enter func132,ntmps132;go_wp2
 go_loopw [1,5] (fun v i wr=>v=Zg k/\i=Zg 0/\wr=w) (fun _ _ _=>0)
 case atStart=>exact⟨rfl,rfl,rfl⟩
 case round=>
  obtain⟨rfl,rfl,rfl⟩:=hrel;go_wp2;go_ret;exact⟨rfl,rfl⟩
theorem Nz(a:Zk)(cap k:Nat)(w:Zh):Calls prog 81 #[.slice a 0 cap,Zg k] w fun e b=>e=.returned (Zg k)/\b=w:=by
 go_enter func81,ntmps81;go_wp2
 go_loopw [1,5] (fun v i wr=>v=Zg k/\i=Zg 0/\wr=w) (fun _ _ _=>0)
 case atStart=>exact⟨rfl,rfl,rfl⟩
 case round=>
  obtain⟨rfl,rfl,rfl⟩:=hrel;go_wp2;go_ret;exact⟨rfl,rfl⟩
theorem NA(a:Zk)(cap k:Nat)(w:Zh):Calls prog 133 #[.slice a 0 cap,Zg k] w fun e b=>e=.returned (Zg k)/\b=w:=by
 go_enter func133,ntmps133;go_wp2
 go_loopw [1,5] (fun v i wr=>v=Zg k/\i=Zg 0/\wr=w) (fun _ _ _=>0)
 case atStart=>exact⟨rfl,rfl,rfl⟩
 case round=>
  obtain⟨rfl,rfl,rfl⟩:=hrel;go_wp2;go_ret;exact⟨rfl,rfl⟩
theorem LG(a:Zk)(cap k:Nat)(w:Zh):Calls prog 82 #[.slice a 0 cap,Zg k] w fun e b=>e=.returned (Zg k)/\b=w:=by
 go_enter func82,ntmps82;go_wp2
 go_loopw [1,5] (fun v i wr=>v=Zg k/\i=Zg 0/\wr=w) (fun _ _ _=>0)
 case atStart=>exact⟨rfl,rfl,rfl⟩
 case round=>
  obtain⟨rfl,rfl,rfl⟩:=hrel;go_wp2;go_ret;exact⟨rfl,rfl⟩
theorem LH(a:Zk)(cap k:Nat)(w:Zh):Calls prog 134 #[.slice a 0 cap,Zg k] w fun e b=>e=.returned (Zg k)/\b=w:=by
 go_enter func134,ntmps134;go_wp2
 go_loopw [1,5] (fun v i wr=>v=Zg k/\i=Zg 0/\wr=w) (fun _ _ _=>0)
 case atStart=>exact⟨rfl,rfl,rfl⟩
 case round=>
  obtain⟨rfl,rfl,rfl⟩:=hrel;go_wp2;go_ret;exact⟨rfl,rfl⟩
theorem VD(c g cap k:Nat)(a:List Pd)(w:Zh)(h:w.ownsRow c 163 2 (Za g a.length cap) a.length (Ab pC a))(T:1<=k)(P:k+a.length *2<=100000000):
 Calls prog 81 #[Za g a.length cap,Zg k] w fun e A=>e=.returned (Zg (k+a.length *2:Nat))/\A.ownsRow c 163 2 (Za g a.length cap) a.length (Ab pC (Ei k a))/\w.grownBy A (some g):=by
 have s:=Yx h;clear h;go_enter func81,ntmps81;go_wp2
 go_loopw [1,5] (fun v i wr=>∃(j K:Nat) (d:List Pd),j<=a.length/\i=Zg j/\v=Zg K/\K=k+j *2/\Hid (d.length=a.length/\(∀i,i<j->d[i]?=(Ei k a)[i]?)/\wr.ownsRow c 163 2 (Za g a.length cap) a.length (Ab pC d)/\w.grownBy wr (some g))) (fun _ i _=>a.length -(intOf i).toNat)
 case atStart=>exact⟨0,k,a,Nat.zero_le _,rfl,rfl,Yw,rfl,(fun i h=>by omega),s.o,Ee _ _⟩
 case round=>
  clear s;obtain⟨j,K,d,S,rfl,rfl,r,b⟩:=hrel;by_cases hlt:j<a.length
  .have H:(j:Int)<a.length:=Yw
   have x:Hid (j *2+2<=(Ab pC d).length):=by show _<=_;have:=b.o.2.2.1.1;omega
   have p:=Yx r;have N:1<=K:=Yw
   have O:K+2<=100000000:=Yw
   clear r;go_wp2_with fail;refine(CD K _ _ rfl Yw Yw).mono ?_;rintro e J ⟨rfl,n⟩;have f:=x.o;have l:=Ae b.o.2.2.1 n;obtain⟨U,c2⟩:∃v,J.cell? (Ze g (j *2))=some v:=⟨_,(l.cellAt (j *2) Yw).trans (Zv Yw)⟩;have I:=l.frozenAt (j *2);have t:=Yx (Zn (l.stored (j *2) (.string (BY K))).1 (Aw b.o.2.2.2 (Aw (Aq _ n) (l.stored (j *2) (.string (BY K))).2)));clear l n f
   go_wp2_with fail;refine(CD (K+1) _ _ Yw Yw Yw).mono ?_;rintro e L ⟨rfl,o⟩;have f:=x.o;have m:=Ae t.o.1 o;have E:j *2+2<=((Ab pC d).set (j *2) (.string (BY K))).length:=by simpa using f
   obtain⟨V,c3⟩:∃v,L.cell? (Ze g (j *2+1))=some v:=⟨_,(m.cellAt (j *2+1) Yw).trans (Zv Yw)⟩;have Q:=m.frozenAt (j *2+1);have G:=b.o.1;have q:=(m.stored (j *2+1) (.string (BY (K+1)))).1;rw[KP Yw ⟨BY K,BY (K+1)⟩]at q;have u:=Yx (Zn q (Aw t.o.2 (Aw (Aq _ o) (m.stored (j *2+1) (.string (BY (K+1)))).2)));clear m q o c2 I f E G;go_wp2
   refine⟨⟨j+1,K+1+1,d.set j ⟨BY K,BY (K+1)⟩,Yw,Yp,Yp,by have:=p.o;omega,by rw[List.length_set];exact b.o.1,?_,u.o.1,u.o.2⟩,by simp[intOf];omega⟩;intro i R;rcases Nat.lt_or_ge i j with z|z
   .rw[List.getElem?_set_ne Yw];exact b.o.2.1 i z
   .obtain rfl:i=j:=Yw
    rw[List.getElem?_set_self (by have:=b.o.1;omega),MZ hlt,<-p.o]
  .obtain rfl:j=a.length:=Yw
   subst r;obtain⟨M,B,C,D⟩:=b.o;have F:d=Ei k a:=by
    apply List.ext_getElem?;intro i;rcases Nat.lt_or_ge i a.length with h|h
    .exact B i h
    .rw[List.getElem?_eq_none Yw,List.getElem?_eq_none (by rw[EE];omega)]
   subst F;have y:=Yx (Zn C D);clear M B C D b;go_wp2;go_ret;exact⟨rfl,y.o.1,y.o.2⟩
theorem RQ(c g cap k:Nat)(a:List Ld)(w:Zh)(h:w.ownsRow c 164 3 (Za g a.length cap) a.length (Ab lC a))(U:1<=k)(P:k+a.length *3<=100000000):
 Calls prog 82 #[Za g a.length cap,Zg k] w fun e B=>e=.returned (Zg (k+a.length *3:Nat))/\B.ownsRow c 164 3 (Za g a.length cap) a.length (Ab lC (Ej k a))/\w.grownBy B (some g):=by
 have t:=Yx h;clear h;go_enter func82,ntmps82;go_wp2
 go_loopw [1,5] (fun v i wr=>∃(j K:Nat) (d:List Ld),j<=a.length/\i=Zg j/\v=Zg K/\K=k+j *3/\Hid (d.length=a.length/\(∀i,i<j->d[i]?=(Ej k a)[i]?)/\wr.ownsRow c 164 3 (Za g a.length cap) a.length (Ab lC d)/\w.grownBy wr (some g))) (fun _ i _=>a.length -(intOf i).toNat)
 case atStart=>exact⟨0,k,a,Nat.zero_le _,rfl,rfl,Yw,rfl,(fun i h=>by omega),t.o,Ee _ _⟩
 case round=>
  clear t;obtain⟨j,K,d,T,rfl,rfl,q,b⟩:=hrel;by_cases hlt:j<a.length
  .have J:(j:Int)<a.length:=Yw
   have y:Hid (j *3+3<=(Ab lC d).length):=by show _<=_;have:=b.o.2.2.1.1;omega
   have o:=Yx q;have N:1<=K:=Yw
   have O:K+3<=100000000:=Yw
   clear q;have l:=y.o;have m:=b.o.2.2.1;obtain⟨V,c2⟩:∃v,wr.cell? (Ze g (j *3))=some v:=⟨_,(m.cellAt (j *3) Yw).trans (Zv Yw)⟩;have L:=m.frozenAt (j *3);have u:=Yx (Zn (m.stored (j *3) (Zg K)).1 (Aw b.o.2.2.2 (m.stored (j *3) (Zg K)).2));clear m l;go_wp2_with fail;refine(CD (K+1) _ _ Yw Yw Yw).mono ?_;rintro e C ⟨rfl,n⟩;have l:=y.o;have f:=Ae u.o.1 n
   have G:j *3+3<=((Ab lC d).set (j *3) (Zg K)).length:=by simpa using l
   obtain⟨W,c3⟩:∃v,C.cell? (Ze g (j *3+1))=some v:=⟨_,(f.cellAt (j *3+1) Yw).trans (Zv Yw)⟩;have Q:=f.frozenAt (j *3+1);obtain⟨X,c4⟩:∃v,C.cell? (Ze g (j *3+2))=some v:=⟨_,(f.cellAt (j *3+2) Yw).trans (Zv Yw)⟩;have R:=f.frozenAt (j *3+2);have I:=b.o.1;have r:=f.stored (j *3+1) (.string (BY (K+1)));have s:=r.1.stored (j *3+2) (Zg ((K:Int)+1+1));have p:=s.1
   rw[KQ Yw ⟨K,BY (K+1),(K:Int)+1+1⟩]at p;have x:=Yx (Zn p (Aw u.o.2 (Aw (Aq _ n) (Aw r.2 s.2))));clear f p r s n c2 L l G I;go_wp2;refine⟨⟨j+1,K+1+1+1,d.set j ⟨K,BY (K+1),(K:Int)+1+1⟩,Yw,Yp,Yp,by have:=o.o;omega,by rw[List.length_set];exact b.o.1,?_,x.o.1,x.o.2⟩,by simp[intOf];omega⟩;intro i S;rcases Nat.lt_or_ge i j with A|A
   .rw[List.getElem?_set_ne Yw];exact b.o.2.1 i A
   .obtain rfl:i=j:=Yw
    rw[List.getElem?_set_self (by have:=b.o.1;omega),Na hlt,o.o];simp
  .obtain rfl:j=a.length:=Yw
   subst q;obtain⟨M,D,E,F⟩:=b.o;have H:d=Ej k a:=by
    apply List.ext_getElem?;intro i;rcases Nat.lt_or_ge i a.length with h|h
    .exact D i h
    .rw[List.getElem?_eq_none Yw,List.getElem?_eq_none (by rw[FK];omega)]
   subst H;have z:=Yx (Zn E F);clear M D E F b;go_wp2;go_ret;exact⟨rfl,z.o.1,z.o.2⟩
theorem VE(c g cap k:Nat)(a:List Pd)(w:Zh)(h:w.ownsRow c 163 2 (Za g a.length cap) a.length (Ab pC (Ei k a)))(Q:1<=k)(O:k+a.length *2<=100000000):
 Calls prog 133 #[Za g a.length cap,Zg k] w fun e f=>e=.returned (Zg (k+a.length *2:Nat))/\Zz w f:=by
 have G:=Yx h;have s:=(Ac h rfl).2;clear h;go_enter func133,ntmps133;go_wp2
 go_loopw [1,5] (fun v i wr=>∃(j K:Nat),j<=a.length/\i=Zg j/\v=Zg K/\K=k+j *2/\Zz w wr) (fun _ i _=>a.length -(intOf i).toNat)
 case atStart=>exact⟨0,k,Nat.zero_le _,rfl,rfl,Yw,Below.refl _ _⟩
 case round=>
  obtain⟨j,K,P,rfl,rfl,o,b⟩:=hrel;have E:=b.size;by_cases hlt:j<a.length
  .have F:(j:Int)<a.length:=Yw
   have n:w.ownsRow c 163 2 (Za g a.length cap) a.length (Ab pC (Ei k a)):=G.o;have C:=n.1;have d:=MZ (k:=k) hlt;rw[<-o]at d;have u:w.cell? (Ze g (j *2))=some (.string (BY K)):=(n.cellAt (j *2) Yw).trans (Br BM d (show 0<2 by decide));have x:=(n.cellAt (j *2+1) Yw).trans (Br BM d (show 1<2 by decide));have A:=Yx o;have M:1<=K:=Yw
   have N:K+2<=100000000:=Yw
   clear o C d n;have y:=(b.cell (p:=⟨g,j *2,none⟩) s).trans u;have J:=Ar.cell y (show g<wr.heap.size by omega);have l:=Ar.ne wr;have q:Hid (∀m:Ar wr,Calls prog 83 #[Zg K] m.w fun e f=>e=.returned (.string (BY K))/\Below m.w.heap.size m.w f):=fun m=>CD K _ m.w rfl Yw Yw;have H:=Yx x;clear u x y;go_wp2;refine Au Yt Yt ?_
   repeat (go_big_quiet_step (exact Ar.calls (q.o _)))
   refine wpQuiet_nil ?_;intro m;have t:=b.trans (m.h.mono E);have z:=(t.cell (p:=⟨g,j *2+1,none⟩) s).trans H.o;have D:=t.size;generalize m.w=wm at *
   clear J l q m;have L:=Ar.cell z (show g<wm.heap.size by omega);have l:=Ar.ne wm;have r:Hid (∀m:Ar wm,Calls prog 83 #[Zg ((K:Int)+1)] m.w fun e f=>e=.returned (.string (BY (K+1)))/\Below m.w.heap.size m.w f):=fun m=>CD (K+1) _ m.w Yw Yw Yw;clear z;go_wp2;refine Au Yt Yt ?_
   repeat (go_big_quiet_step (exact Ar.calls (r.o _)))
   refine wpQuiet_nil ?_;intro I;have B:=t.trans (I.h.mono D);clear L l r;go_wp2;exact⟨⟨j+1,K+1+1,Yw,Yp,Yp,by have:=A.o;omega,B⟩,by simp[intOf];omega⟩
  .obtain rfl:j=a.length:=Yw
   subst o;go_wp2;go_ret;exact⟨rfl,b⟩
theorem RS(d g cap k:Nat)(a:List Ld)(w:Zh)(h:w.ownsRow d 164 3 (Za g a.length cap) a.length (Ab lC (Ej k a)))(L:1<=k)(I:k+a.length *3<=100000000):
 Calls prog 134 #[Za g a.length cap,Zg k] w fun e q=>e=.returned (Zg (k+a.length *3:Nat))/\Zz w q:=by
 have C:=Yx h;have n:=(Ac h rfl).2;clear h;go_enter func134,ntmps134;go_wp2
 go_loopw [1,5] (fun v i wr=>∃(j K:Nat),j<=a.length/\i=Zg j/\v=Zg K/\K=k+j *3/\Zz w wr) (fun _ i _=>a.length -(intOf i).toNat)
 case atStart=>exact⟨0,k,Nat.zero_le _,rfl,rfl,Yw,Below.refl _ _⟩
 case round=>
  obtain⟨j,K,J,rfl,rfl,f,b⟩:=hrel;have A:=b.size;by_cases hlt:j<a.length
  .have B:(j:Int)<a.length:=Yw
   have l:w.ownsRow d 164 3 (Za g a.length cap) a.length (Ab lC (Ej k a)):=C.o;have z:=l.1;have c:=Na (k:=k) hlt;rw[<-f]at c;have s:w.cell? (Ze g (j *3))=some (Zg K):=by have:=(l.cellAt (j *3) Yw).trans (Br Cy c (show 0<3 by decide));rw[this,f];simp[lC]
   have t:=(l.cellAt (j *3+1) Yw).trans (Br Cy c (show 1<3 by decide));have c2:w.cell? (Ze g (j *3+2))=some (Zg ((K:Int)+1+1)):=by have:=(l.cellAt (j *3+2) Yw).trans (Br Cy c (show 2<3 by decide));rw[this,f];simp[lC]
   have x:=Yx f;have G:1<=K:=Yw
   have H:K+3<=100000000:=Yw
   clear f z c l;have F:=(b.cell (p:=⟨g,j *3,none⟩) n).trans s;have u:=(b.cell (p:=⟨g,j *3+1,none⟩) n).trans t;have E:=Ar.cell u (show g<wr.heap.size by omega);have y:=Ar.ne wr;have o:Hid (∀m:Ar wr,Calls prog 83 #[Zg ((K:Int)+1)] m.w fun e q=>e=.returned (.string (BY (K+1)))/\Below m.w.heap.size m.w q):=fun m=>CD (K+1) _ m.w Yw Yw Yw;have D:=Yx c2;clear s t c2 u;go_wp2
   refine Au Yt Yt ?_
   repeat (go_big_quiet_step (exact Ar.calls (o.o _)))
   refine wpQuiet_nil ?_;intro m;have r:=b.trans (m.h.mono A);have M:=(r.cell (p:=⟨g,j *3+2,none⟩) n).trans D.o;clear E y o F;go_wp2;exact⟨⟨j+1,K+1+1+1,Yw,Yp,Yp,by have:=x.o;omega,r⟩,by simp[intOf];omega⟩
  .obtain rfl:j=a.length:=Yw
   subst f;go_wp2;go_ret;exact⟨rfl,b⟩
theorem TN(k:Nat):∀v∈(Builtin.zeroCells #[Zf,Zd,Zf] k).toList,v.oneCell'=true:=by
 intro v a;simp only[Builtin.zeroCells,Array.toList_map,List.mem_map]at a;obtain⟨i,_,rfl⟩:=a;have b:i%3=0\/i%3=1\/i%3=2:=Yw
 show(#[Value.int .i64 0,Zd,Zf][i%3]!).oneCell'=true;rcases b with h|h|h<;>rw[h]<;>rfl
theorem KR(w:Zh)(l:TypeId)(b o k c:Nat)(m:0<k)(h:∀j,j<k *3->(w.cell? (Ze b (o+j))).isSome=true)(i:∀j,j<k *3->w.frozen? ⟨b,o+j,none⟩=false):
 (Builtin.clear_ #[38] l #[.slice (some ⟨b,o,none⟩) k c]).run prog w=.ok (.tuple #[]) (w.setCells b o (Builtin.zeroCells #[Zf,Zd,Zf] k).toList):=by
 have d:(Builtin.zeroCells #[Zf,Zd,Zf] k).toList.length=k *3:=by rw[Array.length_toList,size_zeroCells];rfl
 have a:=run_storeCells_cells (P:=prog) b o (Builtin.zeroCells #[Zf,Zd,Zf] k).toList 0 w (by rw[d];simpa using h) (by rw[d];simpa using i) (TN k);simp only[Nat.add_zero]at a;have g:=MT;have f:(Value.agg #[Zf,Zd,Zf]).cells= #[Zf,Zd,Zf]:=rfl;obtain⟨e,rfl⟩:∃e,k=e+1:=⟨k -1,Yw⟩;simp[Builtin.clear_,run_underlying underlying38,g,f,a]
theorem VF{a n:Nat}(h:w.ownsRow a 164 3 (Za g n cap) n (Ab lC b))(f:i<b.length)(y:Ld):(((w.setCell (Ze g (i *3)) (Zg y.V)).setCell (Ze g (i *3+1)) (.string y.sum)).setCell (Ze g (i *3+2)) (Zg y.bg)).ownsRow a 164 3 (Za g n cap) n (Ab lC (b.set i y)):=by have d:=(h.stored (i *3) (Zg y.V)).1;have e:=(d.stored (i *3+1) (.string y.sum)).1;have c:=(e.stored (i *3+2) (Zg y.bg)).1;rw[KQ f y]at c;exact c
structure FL (ls cur:List Ld) (n:Int) (i j:Nat):Prop where
 len:cur.length=ls.length
 kept:cur.take i=AN (ls.take j) n
 rest:cur.drop j=ls.drop j
 lt:i<j
 le:j<=ls.length
theorem FL.start(c:a[i]?=some x)(k:x.bg<=n)(h:∀j y,j<i->a[j]?=some y->n<y.bg):FL a a n i (i+1):=by
 have d:=(Zw c).1;obtain⟨_,e⟩:=Zw c;refine⟨rfl,?_,rfl,Yw,Yw⟩;unfold AN;rw[Zu d,List.filter_append,e];have g:(a.take i).filter (fun x=> !decide (x.bg<=n))=a.take i:=List.filter_eq_self.2 (fun y l=>by
  obtain⟨j,b⟩:=List.getElem?_of_mem l;have f:=(Zw b).1;rw[List.length_take]at f;have:=h j y Yw (by rw[List.getElem?_take_of_lt Yw]at b;exact b);simp;omega)
 rw[g];simp[k]
theorem FL.at(h:FL b a n i j)(c:j<b.length):a[j]?=some b[j]:=by have:=congrArg (fun l=>l[0]?) h.rest;simp only[List.getElem?_drop,Nat.add_zero]at this;rw[this,Zv c]
theorem FL.skip(h:FL a b n i j)(c:j<a.length)(d:a[j].bg<=n):FL a b n i (j+1):=by
 refine⟨h.len,?_,?_,by have:=h.lt;omega,Yw⟩
 .rw[h.kept];unfold AN;rw[Zu c,List.filter_append];simp[d]
 .have:=congrArg (List.drop 1) h.rest;rw[List.drop_drop,List.drop_drop]at this;exact this
theorem FL.move(h:FL a b n i j)(e:j<a.length)(g:n<a[j].bg):FL a (b.set i a[j]) n (i+1) (j+1):=by
 have f:=h.lt;have hlen:=h.len;have c:i<b.length:=Yw
 refine⟨by rw[List.length_set];exact hlen,?_,?_,Yw,Yw⟩
 .have d:¬a[j].bg<=n:=Yw
  rw[Zu (by rw[List.length_set];exact c),List.take_set_of_le (Zx),h.kept,List.getElem_set_self];unfold AN;rw[Zu e,List.filter_append];simp[d]
 .have:=congrArg (List.drop 1) h.rest;rw[List.drop_drop,List.drop_drop]at this;rw[List.drop_set_of_lt Yw];exact this
theorem FL.done(h:FL a b n i a.length):b.take i=AN a n/\(AN a n).length=i:=by have c:=h.kept;rw[Zt (Zx)]at c;refine⟨c,?_⟩;rw[<-c,List.length_take];have:=h.lt;have:=h.len;omega
theorem Mm(g cap m b d:Nat)(n:Int)(a:List Ld)(w:Zh)(U:w.ownsRow m 164 3 (Za g a.length cap) a.length (Ab lC a))(hl:a.length<=200)(hc:w.cell? (Ze b 0)=some (Yz d))(hn:w.cell? (Ze d 2)=some (Zg n))(zB:b≠g)(zF:d≠g):
 Calls prog 224 #[Za g a.length cap,.func (.func 225) #[] #[Yz b]] w fun e w'=>e=.returned (Za g (AN a n).length cap)/\w'.ownsRow m 164 3 (Za g (AN a n).length cap) (AN a n).length (Ab lC (AN a n))/\w.grownBy w' (some g):=by
 have Y:a.length<=cap/\cap<=maxLen:=by
  rcases U.2 with⟨e,_⟩|⟨g',zM,l,e,hb,hg,h1,h2,h3,h4⟩
  .cases e
  .cases e;exact⟨h1,h2⟩
 obtain⟨zR,zK⟩:=Y;unfold maxLen at zK;have HX:=Yx (Jq (some ⟨g,0,none⟩) cap b d n a w (AI.own U) Yw hc hn);have HO:=Yx U;have HC:Hid (∀X,w.grownBy X (some g)->X.cell? (Ze b 0)=some (Yz d)/\X.cell? (Ze d 2)=some (Zg n)):=fun X hX=>⟨hX.cell hc (fun e=>zB (Option.some.inj e)),hX.cell hn (fun e=>zF (Option.some.inj e))⟩;clear U hc hn zB zF;go_enter func224,ntmps224;go_wp2_with fail
 refine Calls.mono HX.o ?_;rintro e w1 ⟨r,rfl,hr,M⟩;have I:Hid (w1.ownsRow m 164 3 (Za g a.length cap) a.length (Ab lC a)):=Ae HO.o M;have G:Hid (w.grownBy w1 (some g)):=Aq _ M;clear M HX HO;rcases hr with⟨rfl,t⟩|⟨i,x,rfl,R,zJ,zI⟩
 .have HE:Hid (AN a n=a):=List.filter_eq_self.2 (fun y hy=>by have:=t y hy;simp;omega);clear t;go_wp2;go_ret;rw[HE.o];exact⟨rfl,I.o,G.o⟩
 .have HM:Hid (FL a a n i (i+1)):=FL.start R zJ zI;have zS:((i:Int)== -1)=false:=Yv
  have P:i<a.length:=(Zw R).1;clear R zJ zI;go_wp2
  go_loopw [5,6] (fun vi vj wr=>∃(c f:Nat) (l:List Ld),vi=Zg c/\vj=Zg f/\c<f/\f<=a.length/\Hid (FL a l n c f/\wr.ownsRow m 164 3 (Za g a.length cap) a.length (Ab lC l)/\w.grownBy wr (some g))) (fun _ j _=>a.length -(intOf j).toNat)
  case atStart=>exact⟨i,i+1,a,rfl,Yp,Yw,Yw,HM.o,I.o,G.o⟩
  case round=>
   clear HM I G P;obtain⟨c,f,l,rfl,rfl,zT,zU,p⟩:=hrel;by_cases hlt:f<a.length
   .have HG:Hid (l[f]?=some a[f]):=p.o.1.at hlt;have K:Hid (a[f].bg<=n->FL a l n c (f+1)):=fun h=>p.o.1.skip hlt h;have H:Hid (n<a[f].bg->FL a (l.set c a[f]) n (c+1) (f+1)):=fun h=>p.o.1.move hlt h;have zC:l.length=a.length:=p.o.1.len;generalize a[f]=x at *
    have A:∀k,k<3->wr.cell? (Ze g (f *3+k))=(lC x)[k]?:=fun k hk=>(p.o.2.1.cellAt (f *3+k) Yw).trans (Br Cy HG.o hk);have c0:wr.cell? (Ze g (f *3))=some (Zg x.V):=by simpa [lC]using A 0 Ys
    have c1:wr.cell? (Ze g (f *3+1))=some (.string x.sum):=by simpa [lC]using A 1 Ys
    have c2:wr.cell? (Ze g (f *3+2))=some (Zg x.bg):=by simpa [lC]using A 2 Ys
    obtain⟨W,D⟩:∃W,W=wr.alloc (.cells #[Zg x.V,.string x.sum,Zg x.bg] 164):=⟨_,rfl⟩;have bW:=(AA D).1;have zW:=(AA D).2.2;have HZ:Hid (Aa W _ _):=(AA D).2.2;have O:w.grownBy W (some g):=Aw p.o.2.2 (Aq _ bW);have J:Hid (W.ownsRow m 164 3 (Za g a.length cap) a.length (Ab lC l)/\w.grownBy W (some g)):=⟨Ae p.o.2.1 bW,O⟩;obtain⟨zA,zE⟩:=HC.o W O;have zH:=MW x b d n W zA zE;have HW:=Yx D
    have zP:(f:Int)<a.length:=Yw
    have zV:wr.heap.size<W.heap.size:=zW.lt;clear D A bW zW O zA zE p;go_upto_region 8 with fail;rw[<-HW.o];clear HW c0 c1 c2;obtain⟨z0,z1,z2⟩:=Aa.c3 HZ.o 0 1 2;go_wp2_with fail;refine zH.mono ?_;rintro e F ⟨rfl,z⟩;have q:Hid (F.ownsRow m 164 3 (Za g a.length cap) a.length (Ab lC l)/\w.grownBy F (some g)):=⟨Ae J.o.1 z,Aw J.o.2 (Aq _ z)⟩;have L:=Aa.below HZ.o z;clear z0 z1 z2 z J zH HZ
    by_cases ht:x.bg<=n
    .have E:decide (x.bg<=n)=true:=by simpa using ht
     have HS:Hid (FL a l n c (f+1)):=K.o ht;rw[E];clear E ht K H L;go_wp2;exact⟨⟨c,f+1,l,rfl,Yp,Yw,Yw,HS.o,q.o.1,q.o.2⟩,by simp[intOf];omega⟩
    .have E:decide (x.bg<=n)=false:=by simpa using ht
     have HS:Hid (FL a (l.set c x) n (c+1) (f+1)):=H.o (Int.not_le.1 ht);have P:c<l.length:=Yw
     have u:=VF q.o.1 P x;have B:∀o,F.frozen? ⟨g,o,none⟩=false:=fun o=>q.o.1.frozenAt o;have C:∀k,k<3->∃v,F.cell? (Ze g (c *3+k))=some v:=fun k hk=>⟨_,(q.o.1.cellAt (c *3+k) Yw).trans (Zv (by rw[Bu Cy];omega))⟩;obtain⟨v0,s0⟩:=C 0 Ys;obtain⟨v1,s1⟩:=C 1 Ys;obtain⟨v2,s2⟩:=C 2 Ys;rw[Nat.add_zero]at s0;have q0:=B (c *3);have q1:=B (c *3+1);have q2:=B (c *3+2)
     have s:=Yx (Zn u (Aw q.o.2 (Aw (Aw (Az F g (c *3) (Zg x.V)) (Az _ g (c *3+1) (.string x.sum))) (Az _ g (c *3+2) (Zg x.bg)))));obtain⟨z0,z1,z2⟩:=Aa.c3 L 0 1 2;have zO:(c:Int)<a.length:=Yw
     rw[E];clear E ht K H L u C B;go_wp2;exact⟨⟨c+1,f+1,l.set c x,Yp,Yp,Yw,Yw,HS.o,s.o.1,s.o.2⟩,by simp[intOf];omega⟩
   .obtain rfl:f=a.length:=Yw
    obtain⟨Q,zG⟩:=p.o.1.done;have zC:l.length=a.length:=p.o.1.len;have HK:Hid ((AN a n).length=c/\l.take c=AN a n):=⟨zG,Q⟩;have S:=p.o.2.1;have HG:Hid (w.grownBy wr (some g)):=p.o.2.2;have hcut:wr.ownsRow m 164 3 (Za g c cap) c (Ab lC (AN a n)):=by rw[<-Q];have Z:=S;rw[<-zC]at Z;exact KO Cy Z c Yw
    have N:∀j,j<(a.length -c) *3->(wr.cell? (Ze g (c *3+j))).isSome=true/\wr.frozen? ⟨g,c *3+j,none⟩=false:=fun j T=>by refine⟨?_,S.frozenAt _⟩;rw[S.cellAt (c *3+j) Yw,Zv (by rw[Bu Cy];omega)];rfl
    have zN:=KR wr 0 g (c *3) (a.length -c) (cap -c) Yw (fun j T=>(N j T).1) (fun j T=>(N j T).2);have V:=Yx hcut;have e1:c<=a.length:=Yw
    have e2:¬cap=c:=Yw
    have e3:c<=cap:=Yw
    clear Q zG S hcut N p;go_wp2;go_ret;rw[HK.o.1];exact⟨rfl,Hm _ _ _ V.o (Zx),Aw HG.o (Ch g _ _ _)⟩
theorem Mn(a:Zk)(cap b d:Nat)(n:Int)(w:Zh)(h:w.cell? (Ze b 0)=some (Yz d))(j:w.cell? (Ze d 2)=some (Zg n)):
 Calls prog 224 #[.slice a 0 cap,.func (.func 225) #[] #[Yz b]] w fun e l=>e=.returned (.slice a 0 cap)/\Zz w l:=by
 have g:=Yx (Jq a cap b d n [] w (.inl rfl) Yv h j);go_enter func224,ntmps224;go_wp2_with fail;refine Calls.mono g.o ?_;rintro e m ⟨r,rfl,k,c⟩;rcases k with⟨rfl,_⟩|⟨i,x,_,f,_⟩
 .go_wp2;go_ret;exact⟨rfl,c⟩
 .simp at f
theorem Qb(h b d:Nat)(L:Value)(n:Int)(f:List Ld)(w:Zh)(l:w.ownsRow h 164 3 L f.length (Ab lC f))(s:f.length<=200)(j:w.cell? (Ze b 0)=some (Yz d))(k:w.cell? (Ze d 2)=some (Zg n))(m:L.ownBlock≠some b)(o:L.ownBlock≠some d):
 Calls prog 224 #[L,.func (.func 225) #[] #[Yz b]] w fun e i=>∃a c,e=.returned (.slice a (AN f n).length c)/\i.ownsRow h 164 3 (.slice a (AN f n).length c) (AN f n).length (Ab lC (AN f n))/\w.grownBy i L.ownBlock/\(Value.slice a (AN f n).length c).ownBlock=L.ownBlock:=by
 rcases l.2 with⟨rfl,t⟩|⟨g,cap,u,rfl,_⟩
 .have:f=[]:=List.eq_nil_of_length_eq_zero t;subst this;refine(Mn none 0 b d n w j k).mono ?_;rintro e i ⟨rfl,r⟩;exact⟨none,0,rfl,World.ownsRow_nil _ _ _ _,Aq _ r,rfl⟩
 .refine(Mm g cap h b d n f w l s j k (fun e=>m (by rw[e];rfl)) (fun e=>o (by rw[e];rfl))).mono ?_;rintro e i ⟨rfl,p,q⟩;exact⟨_,_,rfl,p,q,rfl⟩
theorem VG(o d m:Nat)(O P L:Value)(q j l i:Int)(E:List Kd)(F:List Pd)(k:List Ld)(f:Int)(w:Zh)(h:DU w o d m O P L q j l i E F k)(hl:k.length<=200)(zE:0<=j)(zF:0<=f)(hs:j+f<=1000000000):
 Calls prog 186 #[.pointer (some ⟨d,0,none⟩),.int .i64 f] w fun e u=>e=.returned (.tuple #[])/\∃R,DU u o d m O P R q (j+f) l i E F (AN k (j+f))/\Tn (d::L.ownBlock.toList) w u:=by
 obtain⟨p,n,zC⟩:=As h.I.ci;subst zC;have zG:=h.I.box.lt;obtain⟨W,B⟩:∃W,W=w.alloc (.cells #[.pointer (some ⟨d,0,none⟩)] 108):=⟨_,rfl⟩;have S:=(AA B).1;have H:=(AA B).2.2;have r:=h.below S;obtain⟨X,C⟩:∃X,X=W.setCell ⟨d,2,none⟩ (.int .i64 (j+f)):=⟨_,rfl⟩;have G:Tn [d] W X:=by rw[C];exact AM _ _ _ _
 have A:Aa X d [.int .i64 q,.map (some m),.int .i64 (j+f),.int .i64 l,.int .i64 i,O,P,.slice p k.length n]:=by rw[C];exact r.I.box.set 2 _
 have zX:Aa X w.heap.size [.pointer (some ⟨d,0,none⟩)]:=Aa.same H (G.block _ H.lt Yu);have y:∀g,(Value.slice p k.length n).ownBlock=some g->g≠d:=fun g D=>((Dq h.I.ap).2.2.2 g D).1;have K:X.ownsRow o 164 3 (.slice p k.length n) k.length (Ab lC k):=Ak r.I.ci (fun g D=>G.block g (Ac r.I.ci D).2 (by simp;exact y g D))
 have I:(Value.slice p k.length n).ownBlock≠some w.heap.size:=fun e=>by have:=(Ac h.I.ci e).2;omega
 have J:(Value.slice p k.length n).ownBlock≠some d:=fun e=>y d e rfl
 have HF:Hid (∀Y,Zz X Y->Calls prog 224 #[.slice p k.length n,.func (.func 225) #[] #[.pointer (some ⟨w.heap.size,0,none⟩)]] Y fun e u=>∃a c,e=.returned (.slice a (AN k (j+f)).length c)/\u.ownsRow o 164 3 (.slice a (AN k (j+f)).length c) (AN k (j+f)).length (Ab lC (AN k (j+f)))/\Y.grownBy u (Value.slice p k.length n).ownBlock/\(Value.slice a (AN k (j+f)).length c).ownBlock=(Value.slice p k.length n).ownBlock):=fun Y T=>
  Qb o w.heap.size d _ (j+f) k Y (Ae K T) hl ((Aa.below zX T) 0 _ rfl).1 ((A.below T) 2 _ rfl).1 I J
 have HD:Hid (DU W o d m O P (.slice p k.length n) q j l i E F k):=r;have zA:Hid (Zz w W):=S;have zB:Hid (Tn [d] W X):=G;have v:Hid (Aa X d [.int .i64 q,.map (some m),.int .i64 (j+f),.int .i64 l,.int .i64 i,O,P,.slice p k.length n]):=A;have x:Hid (Aa X w.heap.size [.pointer (some ⟨d,0,none⟩)]):=zX;have HW:Hid _:=B;have HX:Hid _:=C;obtain⟨z0,_⟩:=H 0 _ rfl;obtain⟨c2,f2⟩:=r.I.box 2 _ rfl
 have zI:IntKind.i64.wrap (j+f)=j+f:=Ho zE Yw zF Yw;have zH:¬(1000000000<j+f):=Yw
 clear h S H r C B G A zX K;go_enter func186,ntmps186;go_upto_region 1 with fail;rw[<-HW.o];clear HW;go_upto_region 4 with fail;rw[<-HX.o];clear HX z0 c2 f2;have D0:Below X.heap.size X X.drew:=(Below.refl _ _).drew;obtain⟨z0,_⟩:=x.o 0 _ rfl;obtain⟨c7,_⟩:=v.o 7 _ rfl
 go_region_with (go_at_call 224;refine Calls.mono (HF.o X.drew D0) ?_;rintro e t ⟨V,Z,rfl,M,s,N⟩;have z:Aa t d [.int .i64 q,.map (some m),.int .i64 (j+f),.int .i64 l,.int .i64 i,O,P,.slice p k.length n]:=Aa.same v.o (s.block d v.o.lt (fun e=>J e.symm));have Q:Aa t w.heap.size [.pointer (some ⟨d,0,none⟩)]:=Aa.same x.o (s.block w.heap.size x.o.lt (fun e=>I e.symm));obtain⟨g7,k7⟩:=z 7 _ rfl;obtain⟨y0,_⟩:=Q 0 _ rfl)
 all_goals
  have hK:∃R,DU (t.setCell ⟨d,7,none⟩ (.slice V (AN k (j+f)).length Z)) o d m O P R q (j+f) l i E F (AN k (j+f))/\Tn (d::(Value.slice p k.length n).ownBlock.toList) w (t.setCell ⟨d,7,none⟩ (.slice V (AN k (j+f)).length Z)):=by
   have t1:Tn (d::(Value.slice p k.length n).ownBlock.toList) W (t.setCell ⟨d,7,none⟩ (.slice V (AN k (j+f)).length Z)):=
    ((zB.o.mono Yv).trans ((Tn.of D0).trans ((BV s).mono (fun b U=>List.mem_cons_of_mem _ U)))).trans ((AM t d 7 _).mono Yv)
   exact⟨_,HD.o.ic t1 (z.set 7 _) (Bn M (fun b U=>y b (N▸U)) 7 _) (.inl N),(Tn.of zA.o).trans t1⟩
  have HK:Hid _:=hK;clear hK M s z Q z0 c7;go_wp2
  go_end0
  exact⟨rfl,HK.o⟩
theorem RT(B q c a:Int)(T:Value)(p l:Zk)(A z:Nat)(d:List Pd)(g:List Ld)(s:Zi)(w:Zh)(J:AG w w.heap.size p d)(I:AI w w.heap.size l g)(zB:d.length<=1000)(zA:g.length<=1000):
 Calls prog 94 #[.agg #[Zg B,Zg q,Zg c,Zg a,T,.slice p d.length A,.slice l g.length z],.string s] w fun e w'=>Ap ((∃p∈d,p.sum=s)\/∃l∈g,l.sum=s) w w' e:=by
 have N:=Yx J;have L:=Yx I;have K:=AZ.new w B q c a T (.slice p d.length A) (.slice l g.length z) 40;have n:Below w.heap.size w (w.alloc (.cells #[Zg B,Zg q,Zg c,Zg a,T,.slice p d.length A,.slice l g.length z] 40)):=Zy;obtain⟨W,E⟩:∃W,W=w.alloc (.cells #[Zg B,Zg q,Zg c,Zg a,T,.slice p d.length A,.slice l g.length z] 40):=⟨_,rfl⟩;rw[<-E]at K n;have H:=Yx E;clear J I E;obtain⟨U,V,X,Y,Z,q5,q6,q7⟩:=K
 clear U V X Y Z;go_enter func94,ntmps94;go_upto_region 1 with fail;rw[<-H.o];clear H;go_wp2
 go_loop [5] (fun i=>∃k:Nat,k<=d.length/\i=Zg k/\Hid (∀j x,j<k->d[j]?=some x->¬x.sum=s)) (fun i=>d.length -(intOf i).toNat)
 case atStart=>exact⟨0,Nat.zero_le _,rfl,(fun j x h=>by omega)⟩
 case round=>
  obtain⟨k,S,rfl,f⟩:=hrel;by_cases hlt:k<d.length
  .obtain⟨b,O,F,R,t⟩:=(AG.below N.o n).at hlt;subst F;have o:Hid (d[k]?=some d[k]):=Zv hlt;obtain⟨P,Q⟩:=t k _ o.o;clear t;generalize d[k]=x at *
   by_cases h:x.sum=s
   .have G:(x.sum.toList==s.toList)=true:=by rw[h];simp
    have D:=Yx h;clear h;go_wp2;refine bodyPost_ret (results_tmp rfl _ _ _) rfl ?_;exact Ap.yes (.inl ⟨x,Zs o.o,D.o⟩) n
   .have G:(x.sum.toList==s.toList)=false:=Cd h;have C:Hid (∀j y,j<k+1->d[j]?=some y->¬y.sum=s):=by
     intro j y u m;rcases Nat.lt_or_ge j k with r|r
     .exact f.o j y r m
     .obtain rfl:j=k:=Yw
      rw[o.o]at m;cases m;exact h
    clear h;go_wp2;exact⟨⟨k+1,Yw,Yp,C⟩,by simp[intOf];omega⟩
  .have M:Hid (¬∃p∈d,p.sum=s):=by rintro⟨y,m,v⟩;obtain⟨j,u,rfl⟩:=List.getElem_of_mem m;exact f.o j _ Yw (Zv u) v
   clear f;go_wp2
   go_loop [6] (fun i=>∃k:Nat,k<=g.length/\i=Zg k/\Hid (∀j x,j<k->g[j]?=some x->¬x.sum=s)) (fun i=>g.length -(intOf i).toNat)
   case atStart=>exact⟨0,Nat.zero_le _,rfl,(fun j x h=>by omega)⟩
   case round=>
    obtain⟨k,S,rfl,f⟩:=hrel;by_cases hlt:k<g.length
    .obtain⟨b,O,F,R,t⟩:=(AI.below L.o n).at hlt;subst F;have o:Hid (g[k]?=some g[k]):=Zv hlt;obtain⟨P,Q,c2⟩:=t k _ o.o;clear t;generalize g[k]=x at *
     by_cases h:x.sum=s
     .have G:(x.sum.toList==s.toList)=true:=by rw[h];simp
      have D:=Yx h;clear h;go_wp2;refine bodyPost_ret (results_tmp rfl _ _ _) rfl ?_;exact Ap.yes (.inr ⟨x,Zs o.o,D.o⟩) n
     .have G:(x.sum.toList==s.toList)=false:=Cd h;have C:Hid (∀j y,j<k+1->g[j]?=some y->¬y.sum=s):=by
       intro j y u m;rcases Nat.lt_or_ge j k with r|r
       .exact f.o j y r m
       .obtain rfl:j=k:=Yw
        rw[o.o]at m;cases m;exact h
      clear h;go_wp2;exact⟨⟨k+1,Yw,Yp,C⟩,by simp[intOf];omega⟩
    .go_wp2;refine bodyPost_ret (results_tmp rfl _ _ _) rfl ?_;refine Ap.no (fun e=> ?_) n;rcases e with e|⟨y,m,v⟩
     .exact absurd e M.o
     .obtain⟨j,u,rfl⟩:=List.getElem_of_mem m;exact absurd v (f.o j _ Yw (Zv u))
theorem Gd(a:Zk)(cap:Nat)(c:Zl)(s:Zi)(w:Zh)(B:Nat)(f:Ad w B a c)(E:c.length<=1048576):
 Calls prog 51 #[.slice a c.length cap,.string s] w fun e u=>e=.returned (.bool (c.any (fun x=>decide (x=s))))/\u=w:=by
 go_enter func51,ntmps51;go_wp2
 go_loop [5] (fun i=>∃k:Nat,k<=c.length/\i=Zg k/\Hid (∀j x,j<k->c[j]?=some x->x≠s)) (fun i=>c.length -(intOf i).toNat)
 case atStart=>exact⟨0,Nat.zero_le _,rfl,fun j x h=>by omega⟩
 case round=>
  obtain⟨k,D,rfl,d⟩:=hrel;by_cases hlt:k<c.length
  .obtain⟨b,z,q,C,o⟩:=f.at hlt;subst q;have g:=Yx (Zv hlt);have A:=o k _ g;clear o f;generalize c[k]=x at *
   by_cases he:x=s
   .subst he;have r:Hid (c.any (fun y=>decide (y=x))=true):=by show _=_;rw[List.any_eq_true];exact⟨x,Zs g.o,Yv⟩
    go_wp2;go_ret;exact⟨Ax r.o.symm,rfl⟩
   .have v:=Cd he;have p:Hid (∀j y,j<k+1->c[j]?=some y->y≠s):=by
     intro j y l m;rcases Nat.lt_or_ge j k with n|n
     .exact d.o j y n m
     .obtain rfl:j=k:=Yw
      rw[g.o]at m;cases m;exact he
    clear he d g;go_wp2;exact⟨⟨k+1,Yw,Yp,p⟩,by simp[intOf];omega⟩
  .go_wp2;go_ret;refine⟨Ax ?_,rfl⟩
   symm
   rw[List.any_eq_false];intro x t;obtain⟨j,l⟩:=List.getElem?_of_mem t;simpa using d.o j x (by have:=(Zw l).1;omega) l
def Bk(w:Zh)(b off:Nat)(zs:List (Kd×Value)):Prop:=
 ∀i z,zs[i]?=some z->(w.cell? (Ze b (off+i *4))=some (.string z.1.sum)/\w.cell? (Ze b (off+i *4+1))=some (Zg z.1.born)/\w.cell? (Ze b (off+i *4+2))=some (.string z.1.M)/\w.cell? (Ze b (off+i *4+3))=some z.2)/\∃ad rc,z.2=.slice (some ad) z.1.B.length rc/\Ad w w.heap.size (some ad) z.1.B
theorem Bk.below{e:Zh}{b a:Nat}{f:List (Kd×Value)}(h:Bk w b a f)(c:Zz w e)(d:b<w.heap.size):Bk e b a f:=by intro i z q;obtain⟨⟨j,k,l,m⟩,g,r,n,o⟩:=h i z q;exact⟨⟨(c.cell (p:=⟨b,a+i *4,none⟩) d).trans j,(c.cell (p:=⟨b,a+i *4+1,none⟩) d).trans k,(c.cell (p:=⟨b,a+i *4+2,none⟩) d).trans l,(c.cell (p:=⟨b,a+i *4+3,none⟩) d).trans m⟩,g,r,n,Ad.mono (Ad.below o c) c.size⟩
theorem Bk.dm{b:Nat}{d:List (Kd×Value)}(h:Bk w b c d)(o:b<w.heap.size):By w w.heap.size (some ⟨b,c,none⟩) (d.map (·.1)):=by
 refine .inr ⟨b,c,rfl,o,fun i k a=> ?_⟩;rw[List.getElem?_map]at a;cases hz:d[i]? with
 |none=>rw[hz]at a;cases a
 |some z=>rw[hz]at a;cases a;obtain⟨⟨f,g,j,l⟩,e,p,m,n⟩:=h i z hz;exact⟨f,g,j,some e,p,by rw[l,m],n⟩
theorem Bk.own{a:List (Kd×Value)}(h:w.ownsRow c 99 4 (Za g a.length cap) a.length (Ab kC a))(k:∀z∈a,∃e l,z.2=.slice (some e) z.1.B.length l/\Ad w w.heap.size (some e) z.1.B):Bk w g 0 a:=by
 intro i z d;have m:=(Zw d).1;have b:∀j,j<4->w.cell? (Ze g (i *4+j))=(kC z)[j]?:=fun j f=>(h.cellAt (i *4+j) Yw).trans (Br Et d f);refine⟨⟨?_,?_,?_,?_⟩,k z (Zs d)⟩
 .rw[Nat.zero_add];simpa [kC]using b 0 Ys
 .rw[Nat.zero_add];simpa [kC]using b 1 Ys
 .rw[Nat.zero_add];simpa [kC]using b 2 Ys
 .rw[Nat.zero_add];simpa [kC]using b 3 Ys
def BB(zs:List (Kd×Value))(s:Zi):List (Kd×Value):=zs.filter (fun z=> !decide (z.1.sum=s))
theorem JI(a:List (Kd×Value))(s:Zi):(BB a s).map (·.1)=CB (a.map (·.1)) s:=by unfold BB CB;rw[List.filter_map];rfl
theorem RU{a:List (Kd×Value)}{z:Kd×Value}(s:Zi)(c:a[k]?=some z):BB (a.take (k+1)) s=BB (a.take k) s++(if z.1.sum=s then []else [z]):=by obtain⟨b,rfl⟩:=Zw c;unfold BB;rw[Zu b,List.filter_append];by_cases h:a[k].1.sum=s<;>simp[h]
theorem AR{b:Nat}{e d c a:Int}{T P L:Value}(h:Aa w b [Zg e,Zg d,Zg c,Zg a,T,P,L]):AZ w b e d c a T P L:=
 ⟨(h 0 _ rfl).1,(h 1 _ rfl).1,(h 2 _ rfl).1,(h 3 _ rfl).1,(h 4 _ rfl).1,(h 5 _ rfl).1,(h 6 _ rfl).1,h.lt⟩
def CV(ps:List Pd)(ls:List Ld)(ks:List Kd)(s:Zi):Prop:=((∃p∈ps,p.sum=s)\/∃l∈ls,l.sum=s)\/∃k∈ks,s∈k.B
def QX(w w':Zh)(e:Ending)(wd now given births:Int)(P L:Value)(zs:List (Kd×Value))(ps:List Pd)(ls:List Ld)(s:Zi):Prop:=
 Below w.heap.size w w'/\((CV ps ls (zs.map (·.1)) s/\e=.returned (.agg #[Zg 6,Zf,Zf,Zf,Zf,Zc,Zc,Zc,Zd,Zf,Zd,Zd]))\/
  (¬CV ps ls (zs.map (·.1)) s/\∃g c,e=.returned (.agg #[Zf,Zg wd,Zg now,Zg given,Zg births,.slice (some ⟨g,0,none⟩) (BB zs s).length c,P,L,Zd,Zf,Zd,Zd])/\Bk w' g 0 (BB zs s)/\w.heap.size<=g/\g<w'.heap.size))
theorem LI(A m f a:Int)(b t J E D:Nat)(p l:Zk)(d:List (Kd×Value))(o:List Pd)(n:List Ld)(s:Zi)(w:Zh)(G:Bk w b t d)(zW:b<w.heap.size)(hp:AG w w.heap.size p o)(hl:AI w w.heap.size l n)(xA:d.length<=600)(yX:o.length<=100)(yW:n.length<=200)(hr:∀z∈d,z.1.B.length<=1000)(yB:Av (d.map (·.1)) s):
 Calls prog 53 #[.agg (Yi A m f a (some ⟨b,t,none⟩) d.length J p o.length E l n.length D),.string s] w fun e w'=>QX w w' e A m f a (.slice p o.length E) (.slice l n.length D) d o n s:=by
 obtain⟨W,R⟩:∃W,W=(w.alloc (.cells (Yi A m f a (some ⟨b,t,none⟩) d.length J p o.length E l n.length D) 40)).alloc (.cells Yg 88):=⟨_,rfl⟩;have hB:=(Bo R).1;have yZ:=(Bo R).2.1;have xW:AZ W w.heap.size A m f a (.slice (some ⟨b,t,none⟩) d.length J) (.slice p o.length E) (.slice l n.length D):=by rw[R];exact AZ.ah (AZ.new w A m f a _ _ _ 40) (Zy) Yv
 have zR:Aa W (w.heap.size+1) z12:=by have h1:=Aa.new (w.alloc (.cells (Yi A m f a (some ⟨b,t,none⟩) d.length J p o.length E l n.length D) 40)) z12 88;rw[World.size_alloc]at h1;rw[R];exact h1
 have HF:=Fp A m f a (some ⟨b,t,none⟩) J (.slice p o.length E) (.slice l n.length D) (d.map (·.1)) s W w.heap.size (By.below (G.dm zW) hB) hB.size (by rw[List.length_map];omega);rw[List.length_map]at HF;have yV:0<=CU (d.map (·.1)) s:=by
  rcases Fc (d.map (·.1)) s with⟨_,hn⟩|⟨i,k,e,_⟩
  .exact absurd yB hn
  .omega
 have zI:=Yx HF;have yJ:=Yx zR;have yF:Hid (Aa W _ _):=(Bo R).2.2.1;have yE:w.heap.size+1<W.heap.size:=Yw
 have HZ:=Yx G;have zM:=Yx (Zn hp hl);have HW:=Yx R;have zP:=Yx xW;clear R G hp hl zR HF yB;obtain⟨x0,x1,x2,x3,x4,x5,x6,x7⟩:=xW;go_enter func53,ntmps53;go_upto_region 1 with fail;rw[<-HW.o];clear HW;go_wp2_with fail;refine Calls.mono zI.o ?_;rintro e w1 ⟨rfl,N⟩;have yT:¬CU (d.map (·.1)) s<0:=Yw
 have zE:=Yx (AZ.below zP.o N);obtain⟨S,U,X,Y,Z,y5,y6,y7⟩:=zE.o;have I:Below w.heap.size w w1:=hB.trans (N.mono hB.size);clear x0 x1 x2 x3 x4 x5 x6 zI;generalize CU (d.map (·.1)) s=fi at *
 go_wp2_with fail;refine(RT A m f a (.slice (some ⟨b,t,none⟩) d.length J) p l E D o n s w1 (AG.mono (AG.below zM.o.1 I) I.size) (AI.mono (AI.below zM.o.2 I) I.size) Yw Yw).mono ?_;rintro e H ⟨ok,rfl,zZ,O⟩;have zA:Below w.heap.size w H:=I.trans (O.mono I.size);have zO:=Yx (AZ.below zE.o O);have z2:Aa H (w.heap.size+1) z12:=Aa.below (v:=Zf) (Aa.below (v:=Zf) yJ.o N) O;have zF:=Yx z2
 have zK:=Yx zZ;clear zZ S U X Y Z y5 y6 z2;cases ok
 .obtain⟨v0,v1,v2,v3,v4,v5,v6,v7⟩:=zO.o;have yN:w.heap.size+2<=H.heap.size:=by have:=N.size;have:=O.size;omega
  have bA:Below H.heap.size H (H.alloc (.cells #[] 99)):=Zy;go_wp2
  go_loopw [5,6] (fun v i wr=>∃(k g c:Nat),k<=d.length/\i=Zg k/\v=Za g (BB (d.take k) s).length c/\Hid (wr.ownsRow (w.heap.size+2) 99 4 (Za g (BB (d.take k) s).length c) (BB (d.take k) s).length (Ab kC (BB (d.take k) s))/\(∀z∈d.take k,¬s∈z.1.B)/\Aa wr w.heap.size (Yj A m f a (some ⟨b,t,none⟩) d.length J p o.length E l n.length D)/\Aa wr (w.heap.size+1) z12/\Zz w wr)) (fun _ i _=>d.length -(intOf i).toNat)
  case atStart=>
   refine⟨0,H.heap.size,0,Nat.zero_le _,rfl,by simp[BB],⟨?_,(fun z G=>by simp at G),Aa.below (Aa.below (Aa.below yF.o N) O) bA,Aa.below (v:=Zf) zF.o bA,zA.trans (bA.mono zA.size)⟩⟩;have:=World.ownsRow_lit (base:=w.heap.size+2) (e:=99) (size:=4) H #[] 0 yN Yq rfl;simpa [BB,Ab]using this
  case round=>
   clear zE zP zF zO v0 v1 v2 v3 v4 v5 v6 v7 bA;obtain⟨k,g,c,hk,rfl,rfl,B⟩:=hrel;obtain⟨v0,v1,v2,v3,v4,v5,v6,v7⟩:=AR B.o.2.2.1;have r:=B.o.2.2.2.2;have xB:=r.size;by_cases hlt:k<d.length
   .have HG:Hid (d[k]?=some d[k]):=Zv hlt;obtain⟨⟨c0,c1,c2,c3⟩,K,L,h4,h5⟩:=(Bk.below HZ.o r zW) k _ HG.o;have yY:=hr _ (List.getElem_mem hlt);have zN:=Yx (RU s HG.o);have yS:b<wr.heap.size:=Yw
    have yH:=Yx h5;have yI:Hid (d.take (k+1)=d.take k++[d[k]]):=Zu hlt;rw[h4]at c3;have H4:=Yx h4;clear h5 h4;generalize d[k]=z at *
    have yU:(BB (d.take k) s).length<=600:=by have:=List.length_filter_le (fun z:Kd×Value=> !decide (z.1.sum=s)) (d.take k);unfold BB;rw[List.length_take]at this;omega
    go_wp2_with fail;refine(Gd (some K) L z.1.B s wr wr.heap.size yH.o Yw).mono ?_;rintro e w3 ⟨rfl,rfl⟩;by_cases hin:s∈z.1.B
    .have hd:z.1.B.any (fun x=>decide (x=s))=true:=by simpa using hin
     rw[hd];obtain⟨⟨S,q0⟩,⟨U,q1⟩,⟨X,q2⟩,⟨Y,q3⟩,⟨Z,q4⟩,⟨y5,q5⟩,⟨y6,q6⟩,⟨y7,q7⟩,⟨y8,q8⟩,⟨y9,q9⟩,⟨P,yC⟩,Q,yD⟩:=AY B.o.2.2.2.1;have yK:=Yx hin;clear hin hd c0 c1 c2 c3 v0 v1 v2 v3 v4 v5 v6;go_wp2
     refine bodyPost_ret (v:=.agg (Yf 6)) (by simp[results,results53,go_sem,S,U,X,Y,Z,y5,y6,y7,y8,y9,P,Q]) rfl ⟨r.trans (Tn.below (Bd _ (w.heap.size+1) _ _ _ _ _ _ _ _ _ _ _ _) r.size Yv),.inl ⟨.inr ⟨z.1,List.mem_map.2 ⟨z,Zs HG.o,rfl⟩,yK.o⟩,rfl⟩⟩
    .have hd:z.1.B.any (fun x=>decide (x=s))=false:=by rw[List.any_eq_false];intro x hx e;exact hin (of_decide_eq_true e▸hx)
     rw[hd];have zJ:Hid (∀y∈d.take (k+1),¬s∈y.1.B):=by
      rw[yI.o];intro y hy;rcases List.mem_append.1 hy with hy|hy
      .exact B.o.2.1 y hy
      .simp at hy;rw[hy];exact hin
     clear hin hd;by_cases hzs:z.1.sum=s
     .have hq:(z.1.sum.toList !=s.toList)=false:=by rw[hzs];simp
      have yA:(z.1.sum.toList==s.toList)=true:=by rw[hzs];simp
      have F:=zN.o;rw[if_pos hzs,List.append_nil]at F;have M:=Yx F;clear F hzs;go_wp2;exact⟨⟨k+1,g,c,Yw,Yp,by rw[M.o],⟨by rw[M.o];exact B.o.1,zJ.o,B.o.2.2⟩⟩,by simp[intOf];omega⟩
     .have yA:(z.1.sum.toList==s.toList)=false:=Cd hzs;have hq:(z.1.sum.toList !=s.toList)=true:=by simp[bne,yA]
      have F:=zN.o;rw[if_neg hzs]at F;have M:=Yx F;clear F hzs;obtain⟨i0,hi,yO,yP,zC⟩:=info_parts Hf;have zY:=Ac B.o.1 (g:=g) rfl;go_wp2_with (first
       |(at_builtin;refine wpList_append_own_at _ rfl _ _ 36 rfl (w.heap.size+2) 99 i0 _ 4 64 underlying36 hi yO yP zC rfl Ys _ (BB (d.take k) s).length (Ab kC (BB (d.take k) s)) rfl ?d0 ⟨w3.heap.size,0,none⟩ 1 1 (kC (z.1,.slice (some K) z.1.B.length L)) rfl rfl ?d2 ?d3 ?d4 ?d5 ?d6 ?_)
       |go_in)
      case d0=>exact Ae B.o.1 (Zy)
      case d2=>
       intro j u hu;rw[Go.WideShapes.add_plain,Nat.zero_add];exact((Aa.new w3 (kC (z.1,.slice (some K) z.1.B.length L)) 99) j u hu).1
      case d3=>
       intro u hu;simp[kC]at hu;rcases hu with rfl|rfl|rfl|rfl<;>rfl
      case d4=>unfold maxLen;omega
      case d5=>omega
      case d6=>simp;omega
      intro v4 w4 zB zX yM yL;obtain⟨g4,c4,rfl,yQ,yR⟩:=Cc zB (fun e=>by subst e;rcases zB.2 with⟨_,hn⟩|⟨_,_,_,e,_⟩<;>first|omega|cases e);have b4:Below w3.heap.size w3 (w3.alloc (.cells #[.string z.1.sum,Zg z.1.born,.string z.1.M,.slice (some K) z.1.B.length L] 99)):=Zy;have C:w3.grownBy w4 (some g):=Aw (Aq _ b4) zX;have zC:z.2=.slice (some K) z.1.B.length L:=H4.o
      have zH:(BB (d.take (k+1)) s).length=(BB (d.take k) s).length+1:=by rw[M.o];simp
      have zU:Ab kC (BB (d.take (k+1)) s)=Ab kC (BB (d.take k) s)++kC (z.1,.slice (some K) z.1.B.length L):=by rw[M.o,Bm,<-zC];simp[Ab]
      have HF:Hid (w4.ownsRow (w.heap.size+2) 99 4 (Za g4 (BB (d.take (k+1)) s).length c4) (BB (d.take (k+1)) s).length (Ab kC (BB (d.take (k+1)) s))/\(∀y∈d.take (k+1),¬s∈y.1.B)/\Aa w4 w.heap.size (Yj A m f a (some ⟨b,t,none⟩) d.length J p o.length E l n.length D)/\Aa w4 (w.heap.size+1) z12/\Zz w w4):=by
       refine⟨by rw[zH,zU];exact zB,zJ.o,?_,?_,r.grown C Yw (fun q hq=>by cases hq;omega)⟩
       .exact Aa.bz B.o.2.2.1 C Yw
       .exact Aa.bz (v:=Zf) B.o.2.2.2.1 C Yw
      clear zB zX C yM yL b4 zU zC c0 c1 c2 c3 v0 v1 v2 v3 v4 v5 v6;have yG:=Yx zH;clear zH;go_wp2;exact⟨⟨k+1,g4,c4,Yw,Yp,by rw[yG.o],HF⟩,by simp[intOf];omega⟩
   .obtain rfl:k=d.length:=Yw
    have zV:=B.o;rw[Zt (Zx)]at zV;obtain⟨h1,h2,h3,h4,h5⟩:=zV;have zY:=Ac h1 (g:=g) rfl;have HE:=Yx (Zn h1 (Zn h2 h5));obtain⟨⟨S,q0⟩,⟨U,q1⟩,⟨X,q2⟩,⟨Y,q3⟩,⟨Z,q4⟩,⟨y5,q5⟩,⟨y6,q6⟩,⟨y7,q7⟩,⟨y8,q8⟩,⟨y9,q9⟩,⟨P,yC⟩,Q,yD⟩:=AY h4;have f4:=(h3 4 _ rfl).2;have H3:=Yx h3;clear h1 h2 h3 h4 h5;rw[Zt (Zx)];go_wp2
    have T:∀a0 a1 a2 a3 a4 a5 a6 a7 a8 a9 zS zT c4,Tn [w.heap.size,w.heap.size+1] wr _:=fun a0 a1 a2 a3 a4 a5 a6 a7 a8 a9 zS zT c4=>(Tn.set (V:=[w.heap.size,w.heap.size+1]) wr w.heap.size 4 c4 Yv).trans (Tn.mono (Bd (wr.setCell (Ze (w.heap.size) 4) c4) (w.heap.size+1) a0 a1 a2 a3 a4 a5 a6 a7 a8 a9 zS zT) Yv)
    refine bodyPost_ret (v:=.agg #[Zf,Zg A,Zg m,Zg f,Zg a,Za g (BB d s).length c,.slice p o.length E,.slice l n.length D,Zd,Zf,Zd,Zd]) (by simp[results,results53,go_sem,S,U,X,Y,Z,y5,y6,y7,y8,y9,P,Q]) rfl ?_;have T':=T Zf (Zg A) (Zg m) (Zg f) (Zg a) (Za g (BB d s).length c) (.slice p o.length E) (.slice l n.length D) Zd Zf Zd Zd (Za g (BB d s).length c)
    have zG:=HE.o.2.2.trans (Tn.below T' HE.o.2.2.size Yv);refine⟨zG,.inr ⟨?_,g,c,rfl,Bk.own (Ak HE.o.1 (fun q hq=>T'.block q (Ac HE.o.1 hq).2 (by have:=(Ac HE.o.1 hq).1;simp;omega))) (fun z G=> ?_),Yw,Zr zY.2 T'.size⟩⟩
    .rintro(h|⟨x,hx,hs⟩)
     .have:=zK.o.2 h;simp at this
     .obtain⟨z,G,rfl⟩:=List.mem_map.1 hx;exact HE.o.2.1 z G hs
    .obtain⟨i,hi⟩:=List.getElem?_of_mem (List.mem_filter.1 G).1;obtain⟨_,K,L,e,hs⟩:=HZ.o i z hi;exact⟨K,L,e,Ad.mono (Ad.below hs zG) zG.size⟩
 .obtain⟨⟨S,q0⟩,⟨U,q1⟩,⟨X,q2⟩,⟨Y,q3⟩,⟨Z,q4⟩,⟨y5,q5⟩,⟨y6,q6⟩,⟨y7,q7⟩,⟨y8,q8⟩,⟨y9,q9⟩,⟨P,yC⟩,Q,yD⟩:=AY zF.o;go_wp2;refine bodyPost_ret (v:=.agg (Yf 6)) (by simp[results,results53,go_sem,S,U,X,Y,Z,y5,y6,y7,y8,y9,P,Q]) rfl ⟨zA.trans (Tn.below (Bd H (w.heap.size+1) _ _ _ _ _ _ _ _ _ _ _ _) zA.size Yv),.inl ⟨.inl (zK.o.1 trivial),rfl⟩⟩
theorem RV(n:Int)(c:a[k]?=some x):Bp (a.take (k+1)) n=Bp (a.take k) n++(if x.V=n then []else [x]):=by obtain⟨b,rfl⟩:=Zw c;unfold Bp;rw[Zu b,List.filter_append];by_cases h:a[k].V=n<;>simp[h]
theorem Nb(a:List Ld)(n:Int):(Bp a n).length=a.length↔¬∃x∈a,x.V=n:=by unfold Bp;rw[List.length_filter_eq_length_iff];simp
def TO(w w':Zh)(e:Ending)(wd now given births:Int)(T P:Value)(ls:List Ld)(n:Int):Prop:=
 Below w.heap.size w w'/\(((¬∃x∈ls,x.V=n)/\e=.returned (.agg #[Zg 5,Zf,Zf,Zf,Zf,Zc,Zc,Zc,Zd,Zf,Zd,Zd]))\/
  ((∃x∈ls,x.V=n)/\∃g c,e=.returned (.agg #[Zf,Zg wd,Zg now,Zg given,Zg births,T,P,.slice (some ⟨g,0,none⟩) (Bp ls n).length c,Zd,Zf,Zd,Zd])/\w'.ownsRow w.heap.size 164 3 (.slice (some ⟨g,0,none⟩) (Bp ls n).length c) (Bp ls n).length (Ab lC (Bp ls n))))
theorem RW(s h d b:Int)(p l C:Zk)(tn r o m G:Nat)(a:List Ld)(n:Int)(w:Zh)(u:AI w w.heap.size C a)(hl:a.length<=1000):
 Calls prog 141 #[.agg (Yi s h d b p tn r l o m C a.length G),Zg n] w fun e w'=>TO w w' e s h d b (.slice p tn r) (.slice l o m) a n:=by
 obtain⟨W,A⟩:∃W,W=(w.alloc (.cells (Yi s h d b p tn r l o m C a.length G) 40)).alloc (.cells Yg 88):=⟨_,rfl⟩;have bW:=(Bo A).1;have O:=(Bo A).2.1;have x0:=(Bo A).2.2.1;have x1:Aa W (w.heap.size+1) z12:=by have h1:=Aa.new (w.alloc (.cells (Yi s h d b p tn r l o m C a.length G) 40)) z12 88;rw[World.size_alloc]at h1;rw[A];exact h1
 have T:Hid (∀X,Below (w.heap.size+2) W X->Aa X w.heap.size (Yj s h d b p tn r l o m C a.length G)/\Aa X (w.heap.size+1) z12):=fun X hX=>⟨Aa.same x0 (hX.block _ Yw),Aa.same x1 (hX.block _ Yw)⟩;have HW:=Yx A;have zH:Hid (W.heap.size=w.heap.size+2):=O;have y:w.heap.size+2<=W.heap.size:=Yw
 have HR:Hid (AI w w.heap.size C a):=u;have zA:Hid (Zz w W):=bW;have bA:Below W.heap.size W (W.alloc (.cells #[] 164)):=Zy;have I:Hid ((W.alloc (.cells #[] 164)).ownsRow (w.heap.size+2) 164 3 (Za W.heap.size 0 0) 0 []):=World.ownsRow_lit (base:=w.heap.size+2) (e:=164) (size:=3) W #[] 0 Yw Yq rfl
 have H:Hid (Below (w.heap.size+2) W (W.alloc (.cells #[] 164))):=bA.mono y;clear A O x0 x1 u bW bA;go_enter func141,ntmps141;go_upto_region 1 with fail;rw[<-HW.o];clear HW;go_wp2
 go_loopw [5,6] (fun v i wr=>∃(k g c:Nat),k<=a.length/\i=Zg k/\v=Za g (Bp (a.take k) n).length c/\Hid (wr.ownsRow (w.heap.size+2) 164 3 (Za g (Bp (a.take k) n).length c) (Bp (a.take k) n).length (Ab lC (Bp (a.take k) n))/\Below (w.heap.size+2) W wr)) (fun _ i _=>a.length -(intOf i).toNat)
 case atStart=>exact⟨0,W.heap.size,0,Nat.zero_le _,rfl,by simp[Bp],⟨by simpa [Bp,Ab]using I.o,H.o⟩⟩
 case round=>
  clear I H;obtain⟨k,g,c,hk,rfl,rfl,f⟩:=hrel;have j:Below w.heap.size w wr:=zA.o.trans (f.o.2.mono Yw);have P:w.heap.size+2<=wr.heap.size:=Zm y f.o.2.size;obtain⟨v0,v1,v2,v3,v4,v5,v6,v7⟩:=AR (T.o _ f.o.2).1;by_cases hlt:k<a.length
  .obtain⟨b',zJ,ha,hb,K⟩:=(AI.below HR.o j).at hlt;subst ha;have HG:Hid (a[k]?=some a[k]):=Zv hlt;obtain⟨c0,c1,c2⟩:=K k _ HG.o;have J:=Yx (RV n HG.o);have zI:(Bp (a.take k) n).length<=1000:=by have:=List.length_filter_le (fun x:Ld=> !decide (x.V=n)) (a.take k);unfold Bp;rw[List.length_take]at this;omega
   clear K;generalize a[k]=x at *
   generalize hGk:Bp (a.take k) n=gk at *
   have zG:=Yx hGk;clear hGk;by_cases hxn:x.V=n
   .have B:(x.V !=n)=false:=by simp[hxn]
    have D:Hid (Bp (a.take (k+1)) n=gk):=by show _=_;rw[J.o,if_pos hxn,List.append_nil]
    clear hxn;go_wp2;exact⟨⟨k+1,g,c,Yw,Yp,by rw[D.o],⟨by rw[D.o];exact f.o.1,f.o.2⟩⟩,by simp[intOf];omega⟩
   .have B:(x.V !=n)=true:=by simp[hxn]
    have D:Hid (Bp (a.take (k+1)) n=gk++[x]):=by show _=_;rw[J.o,if_neg hxn]
    clear hxn;obtain⟨g8,t,Y,N,M,L,zC⟩:=Oi wr (w.heap.size+2) _ gk f.o.1 x Yw P 38;have b8:Below (w.heap.size+2) wr Y:=(Below.refl _ _).grown L P (fun q e=>(Ac f.o.1 e).1);have Z:Hid (Y.ownsRow (w.heap.size+2) 164 3 (Za g8 (gk.length+1) t) (gk++[x]).length (Ab lC (gk++[x]))/\Below (w.heap.size+2) W Y):=⟨M,f.o.2.trans b8⟩;have zF:b'<wr.heap.size:=by have:=j.size;omega
    clear M L zC b8;go_wp2_with (at_builtin;refine wpList_append_run rfl _ _ 38 38 rfl rfl rfl N ?_);clear N c0 c1 c2 v0 v1 v2 v3 v4 v5 v6;go_wp2;exact⟨⟨k+1,g8,t,Yw,Yp,by rw[D.o,List.length_append];rfl,⟨by rw[D.o,List.length_append];exact List.length_append▸Z.o.1,Z.o.2⟩⟩,by simp[intOf];omega⟩
  .obtain rfl:k=a.length:=Yw
   have F:=f.o.1;rw[Zt (Zx)]at F |-;have S:=Yx F;have z:Hid (Zz w wr):=j;obtain⟨⟨y0,q0⟩,⟨y1,q1⟩,⟨y2,q2⟩,⟨y3,q3⟩,⟨y4,q4⟩,⟨y5,q5⟩,⟨y6,q6⟩,⟨y7,q7⟩,⟨y8,q8⟩,⟨y9,q9⟩,⟨Q,zK⟩,R,zM⟩:=AY (T.o _ f.o.2).2;have f6:=((T.o _ f.o.2).1 6 _ rfl).2;by_cases hex:∃x∈a,x.V=n
   .have zE:¬(Bp a n).length=a.length:=fun e=>(Nb a n).1 e hex;have B:(((Bp a n).length:Int)==(a.length:Int))=false:=Yu
    have E:Hid (∃x∈a,x.V=n):=hex;clear zE hex F j f;go_wp2;refine bodyPost_ret (v:=.agg #[Zf,Zg s,Zg h,Zg d,Zg b,.slice p tn r,.slice l o m,Za g (Bp a n).length c,Zd,Zf,Zd,Zd]) (by simp[results,results141,go_sem,y0,y1,y2,y3,y4,y5,y6,y7,y8,y9,Q,R]) rfl ?_
    have T':=(Tn.set (V:=[w.heap.size,w.heap.size+1]) wr w.heap.size 6 (Za g (Bp a n).length c) Yv).trans (Tn.mono (Bd (wr.setCell (Ze (w.heap.size) 6) (Za g (Bp a n).length c)) (w.heap.size+1) Zf (Zg s) (Zg h) (Zg d) (Zg b) (.slice p tn r) (.slice l o m) (Za g (Bp a n).length c) Zd Zf Zd Zd) Yv)
    exact⟨z.o.trans (T'.below z.o.size (by intro v U;simp at U;omega)),.inr ⟨E.o,g,c,rfl,(Ak S.o (fun q B=>T'.block q (Ac S.o B).2 (by have:=(Ac S.o B).1;simp;omega))).mono Yw⟩⟩
   .have zB:(Bp a n).length=a.length:=(Nb a n).2 hex;have B:(((Bp a n).length:Int)==(a.length:Int))=true:=Yu
    have E:Hid (¬∃x∈a,x.V=n):=hex;clear zB hex F j f;go_wp2;refine bodyPost_ret (v:=.agg (Yf 5)) (by simp[results,results141,go_sem,y0,y1,y2,y3,y4,y5,y6,y7,y8,y9,Q,R]) rfl ?_;exact⟨z.o.trans (Tn.below (Bd wr (w.heap.size+1) _ _ _ _ _ _ _ _ _ _ _ _) z.o.size (by intro v U;simp at U;omega)),.inl ⟨E.o,rfl⟩⟩
end Go.Proofs.YtcankpdbabaacaaGreatDoor
