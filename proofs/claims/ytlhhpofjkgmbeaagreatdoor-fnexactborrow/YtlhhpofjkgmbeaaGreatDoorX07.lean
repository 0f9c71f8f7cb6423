import Derived.Test.YtlhhpofjkgmbeaaGreatDoorX06
set_option maxRecDepth 100000
set_option maxHeartbeats 16000000
namespace Go.Proofs.YtlhhpofjkgmbeaaGreatDoor
open Go.ChangeShapes Go.WideShapes Go.ChangeAt Go.RowKit _root_.Go.Proofs.Tryz
theorem SB(k:Nat):∀v∈(Builtin.zeroCells #[Zf,Zd,Zf] k).toList,v.oneCell'=true:=by
 intro v a;simp only[Builtin.zeroCells,Array.toList_map,List.mem_map]at a;obtain⟨i,_,rfl⟩:=a;have b:i%3=0∨i%3=1∨i%3=2:=by omega
 show(#[Value.int .i64 0,Zd,Zf][i%3]!).oneCell'=true;rcases b with h|h|h<;>rw[h]<;>rfl
theorem Kk(w:Zh)(l:TypeId)(b o k c:Nat)(m:0<k)(h:∀j,j<k *3->(w.cell? (Ze b (o+j))).isSome=true)(i:∀j,j<k *3->w.frozen? ⟨b,o+j,none⟩=false):
 (Builtin.clear_ #[38] l #[.slice (some ⟨b,o,none⟩) k c]).run prog w=.ok (.tuple #[]) (w.setCells b o (Builtin.zeroCells #[Zf,Zd,Zf] k).toList):=by
 have d:(Builtin.zeroCells #[Zf,Zd,Zf] k).toList.length=k *3:=by rw[Array.length_toList,size_zeroCells];rfl
 have a:=run_storeCells_cells (P:=prog) b o (Builtin.zeroCells #[Zf,Zd,Zf] k).toList 0 w (by rw[d];simpa using h) (by rw[d];simpa using i) (SB k);simp only[Nat.add_zero]at a;have g:=Mc;have f:(Value.agg #[Zf,Zd,Zf]).cells= #[Zf,Zd,Zf]:=rfl;obtain⟨e,rfl⟩:∃e,k=e+1:=⟨k -1,by omega⟩;simp[Builtin.clear_,run_underlying underlying38,g,f,a]
theorem Uw{w:Zh}{base g a n:Nat}{b:List Ld}(h:w.ownsRow base 139 3 (Za g n a) n (Ab lC b)){i:Nat}(f:i<b.length)(y:Ld):(((w.setCell (Ze g (i *3)) (Zg y.num)).setCell (Ze g (i *3+1)) (.string y.sum)).setCell (Ze g (i *3+2)) (Zg y.bf)).ownsRow base 139 3 (Za g n a) n (Ab lC (b.set i y)):=by have d:=(h.stored (i *3) (Zg y.num)).1;have e:=(d.stored (i *3+1) (.string y.sum)).1;have c:=(e.stored (i *3+2) (Zg y.bf)).1;rw[Kj f y]at c;exact c
structure Fq (ls cur:List Ld) (n:Int) (i j:Nat):Prop where
 len:cur.length=ls.length
 kept:cur.take i=AK (ls.take j) n
 rest:cur.drop j=ls.drop j
 lt:i<j
 le:j<=ls.length
theorem Fq.start{a:List Ld}{n:Int}{i:Nat}{x:Ld}(c:a[i]?=some x)(k:x.bf<=n)(h:∀j y,j<i->a[j]?=some y->n<y.bf):Fq a a n i (i+1):=by
 have d:=(Zw c).1;obtain⟨_,e⟩:=Zw c;refine⟨rfl,?_,rfl,by omega,by omega⟩;unfold AK;rw[Zu d,List.filter_append,e];have g:(a.take i).filter (fun x=> !decide (x.bf<=n))=a.take i:=List.filter_eq_self.2 (fun y l=>by
  obtain⟨j,b⟩:=List.getElem?_of_mem l;have f:=(Zw b).1;rw[List.length_take]at f;have:=h j y (by omega) (by rw[List.getElem?_take_of_lt (by omega)]at b;exact b);simp;omega)
 rw[g];simp[k]
theorem Fq.at{b a:List Ld}{n:Int}{i j:Nat}(h:Fq b a n i j)(c:j<b.length):a[j]?=some b[j]:=by have:=congrArg (fun l=>l[0]?) h.rest;simp only[List.getElem?_drop,Nat.add_zero]at this;rw[this,Zv c]
theorem Fq.skip{a b:List Ld}{n:Int}{i j:Nat}(h:Fq a b n i j)(c:j<a.length)(d:a[j].bf<=n):Fq a b n i (j+1):=by
 refine⟨h.len,?_,?_,by have:=h.lt;omega,by omega⟩
 ·rw[h.kept];unfold AK;rw[Zu c,List.filter_append];simp[d]
 ·have:=congrArg (List.drop 1) h.rest;rw[List.drop_drop,List.drop_drop]at this;exact this
theorem Fq.move{a b:List Ld}{n:Int}{i j:Nat}(h:Fq a b n i j)(e:j<a.length)(g:n<a[j].bf):Fq a (b.set i a[j]) n (i+1) (j+1):=by
 have f:=h.lt;have hlen:=h.len;have c:i<b.length:=by omega
 refine⟨by rw[List.length_set];exact hlen,?_,?_,by omega,by omega⟩
 ·have d:¬a[j].bf<=n:=by omega
  rw[Zu (by rw[List.length_set];exact c),List.take_set_of_le (Zx),h.kept,List.getElem_set_self];unfold AK;rw[Zu e,List.filter_append];simp[d]
 ·have:=congrArg (List.drop 1) h.rest;rw[List.drop_drop,List.drop_drop]at this;rw[List.drop_set_of_lt (by omega)];exact this
theorem Fq.done{a b:List Ld}{n:Int}{i:Nat}(h:Fq a b n i a.length):b.take i=AK a n/\(AK a n).length=i:=by have c:=h.kept;rw[Zt (Zx)]at c;refine⟨c,?_⟩;rw[←c,List.length_take];have:=h.lt;have:=h.len;omega
theorem Ly(g m base b d:Nat)(n:Int)(a:List Ld)(w:Zh)(U:w.ownsRow base 139 3 (Za g a.length m) a.length (Ab lC a))(hl:a.length<=200)(hc:w.cell? (Ze b 0)=some (Yz d))(hn:w.cell? (Ze d 2)=some (Zg n))(zB:b≠g)(zF:d≠g):
 Calls prog 211 #[Za g a.length m,.func (.func 212) #[] #[Yz b]] w fun e w'=>e=.returned (Za g (AK a n).length m)/\w'.ownsRow base 139 3 (Za g (AK a n).length m) (AK a n).length (Ab lC (AK a n))/\w.grownBy w' (some g):=by
 have Y:a.length<=m/\m<=maxLen:=by
  rcases U.2 with⟨e,_⟩|⟨g',zM,l,e,hb,hg,h1,h2,h3,h4⟩
  ·cases e
  ·cases e;exact⟨h1,h2⟩
 obtain⟨zR,zK⟩:=Y;unfold maxLen at zK;have HX:=Yx (IM (some ⟨g,0,none⟩) m b d n a w (AU.own U) (by omega) hc hn);have HO:=Yx U;have HC:Hid (∀X,w.grownBy X (some g)->X.cell? (Ze b 0)=some (Yz d)/\X.cell? (Ze d 2)=some (Zg n)):=fun X hX=>⟨hX.cell hc (fun e=>zB (Option.some.inj e)),hX.cell hn (fun e=>zF (Option.some.inj e))⟩;clear U hc hn zB zF;go_enter func211,ntmps211;go_wp2_with fail
 refine Calls.mono HX.o ?_;rintro e w1 ⟨r,rfl,hr,M⟩;have I:Hid (w1.ownsRow base 139 3 (Za g a.length m) a.length (Ab lC a)):=Ae HO.o M;have G:Hid (w.grownBy w1 (some g)):=Au _ M;clear M HX HO;rcases hr with⟨rfl,t⟩|⟨i,x,rfl,R,zJ,zI⟩
 ·have HE:Hid (AK a n=a):=List.filter_eq_self.2 (fun y hy=>by have:=t y hy;simp;omega);clear t;go_wp2;go_ret;rw[HE.o];exact⟨rfl,I.o,G.o⟩
 ·have HM:Hid (Fq a a n i (i+1)):=Fq.start R zJ zI;have zS:((i:Int)== -1)=false:=by simp
  have P:i<a.length:=(Zw R).1;clear R zJ zI;go_wp2
  go_loopw [5,6] (fun vi vj wr=>∃(c f:Nat) (l:List Ld),vi=Zg c/\vj=Zg f/\c<f/\f<=a.length/\Hid (Fq a l n c f/\wr.ownsRow base 139 3 (Za g a.length m) a.length (Ab lC l)/\w.grownBy wr (some g))) (fun _ j _=>a.length -(intOf j).toNat)
  case atStart=>exact⟨i,i+1,a,rfl,by go_num,by omega,by omega,HM.o,I.o,G.o⟩
  case round=>
   clear HM I G P;obtain⟨c,f,l,rfl,rfl,zT,zU,p⟩:=hrel;by_cases hlt:f<a.length
   ·have HG:Hid (l[f]?=some a[f]):=p.o.1.at hlt;have K:Hid (a[f].bf<=n->Fq a l n c (f+1)):=fun h=>p.o.1.skip hlt h;have H:Hid (n<a[f].bf->Fq a (l.set c a[f]) n (c+1) (f+1)):=fun h=>p.o.1.move hlt h;have zC:l.length=a.length:=p.o.1.len;generalize a[f]=x at *
    have A:∀k,k<3->wr.cell? (Ze g (f *3+k))=(lC x)[k]?:=fun k hk=>(p.o.2.1.cellAt (f *3+k) (by omega)).trans (Bp Co HG.o hk);have c0:wr.cell? (Ze g (f *3))=some (Zg x.num):=by simpa [lC]using A 0 (by decide)
    have c1:wr.cell? (Ze g (f *3+1))=some (.string x.sum):=by simpa [lC]using A 1 (by decide)
    have c2:wr.cell? (Ze g (f *3+2))=some (Zg x.bf):=by simpa [lC]using A 2 (by decide)
    obtain⟨W,D⟩:∃W,W=wr.alloc (.cells #[Zg x.num,.string x.sum,Zg x.bf] 139):=⟨_,rfl⟩;have bW:=(AG D).1;have zW:=(AG D).2.2;have HZ:Hid (Aa W _ _):=(AG D).2.2;have O:w.grownBy W (some g):=Av p.o.2.2 (Au _ bW);have J:Hid (W.ownsRow base 139 3 (Za g a.length m) a.length (Ab lC l)/\w.grownBy W (some g)):=⟨Ae p.o.2.1 bW,O⟩;obtain⟨zA,zE⟩:=HC.o W O;have zH:=Mf x b d n W zA zE;have HW:=Yx D
    have zP:(f:Int)<a.length:=by omega
    have zV:wr.heap.size<W.heap.size:=zW.lt;clear D A bW zW O zA zE p;go_upto_region 8 with fail;rw[←HW.o];clear HW c0 c1 c2;obtain⟨z0,z1,z2⟩:=Aa.c3 HZ.o 0 1 2;go_wp2_with fail;refine zH.mono ?_;rintro e F ⟨rfl,z⟩;have q:Hid (F.ownsRow base 139 3 (Za g a.length m) a.length (Ab lC l)/\w.grownBy F (some g)):=⟨Ae J.o.1 z,Av J.o.2 (Au _ z)⟩;have L:=Aa.below HZ.o z;clear z0 z1 z2 z J zH HZ
    by_cases ht:x.bf<=n
    ·have E:decide (x.bf<=n)=true:=by simpa using ht
     have HS:Hid (Fq a l n c (f+1)):=K.o ht;rw[E];clear E ht K H L;go_wp2;exact⟨⟨c,f+1,l,rfl,by go_num,by omega,by omega,HS.o,q.o.1,q.o.2⟩,by simp[intOf];omega⟩
    ·have E:decide (x.bf<=n)=false:=by simpa using ht
     have HS:Hid (Fq a (l.set c x) n (c+1) (f+1)):=H.o (Int.not_le.1 ht);have P:c<l.length:=by omega
     have u:=Uw q.o.1 P x;have B:∀o,F.frozen? ⟨g,o,none⟩=false:=fun o=>q.o.1.frozenAt o;have C:∀k,k<3->∃v,F.cell? (Ze g (c *3+k))=some v:=fun k hk=>⟨_,(q.o.1.cellAt (c *3+k) (by omega)).trans (Zv (by rw[Bu Co];omega))⟩;obtain⟨v0,s0⟩:=C 0 (by decide);obtain⟨v1,s1⟩:=C 1 (by decide);obtain⟨v2,s2⟩:=C 2 (by decide);rw[Nat.add_zero]at s0;have q0:=B (c *3);have q1:=B (c *3+1);have q2:=B (c *3+2)
     have s:=Yx (Zn u (Av q.o.2 (Av (Av (Ay F g (c *3) (Zg x.num)) (Ay _ g (c *3+1) (.string x.sum))) (Ay _ g (c *3+2) (Zg x.bf)))));obtain⟨z0,z1,z2⟩:=Aa.c3 L 0 1 2;have zO:(c:Int)<a.length:=by omega
     rw[E];clear E ht K H L u C B;go_wp2;exact⟨⟨c+1,f+1,l.set c x,by go_num,by go_num,by omega,by omega,HS.o,s.o.1,s.o.2⟩,by simp[intOf];omega⟩
   ·obtain rfl:f=a.length:=by omega
    obtain⟨Q,zG⟩:=p.o.1.done;have zC:l.length=a.length:=p.o.1.len;have HK:Hid ((AK a n).length=c/\l.take c=AK a n):=⟨zG,Q⟩;have S:=p.o.2.1;have HG:Hid (w.grownBy wr (some g)):=p.o.2.2;have hcut:wr.ownsRow base 139 3 (Za g c m) c (Ab lC (AK a n)):=by rw[←Q];have Z:=S;rw[←zC]at Z;exact Kh Co Z c (by omega)
    have N:∀j,j<(a.length -c) *3->(wr.cell? (Ze g (c *3+j))).isSome=true/\wr.frozen? ⟨g,c *3+j,none⟩=false:=fun j T=>by refine⟨?_,S.frozenAt _⟩;rw[S.cellAt (c *3+j) (by omega),Zv (by rw[Bu Co];omega)];rfl
    have zN:=Kk wr 0 g (c *3) (a.length -c) (m -c) (by omega) (fun j T=>(N j T).1) (fun j T=>(N j T).2);have V:=Yx hcut;have e1:c<=a.length:=by omega
    have e2:¬m=c:=by omega
    have e3:c<=m:=by omega
    clear Q zG S hcut N p;go_wp2;go_ret;rw[HK.o.1];exact⟨rfl,GN _ _ _ V.o (Zx),Av HG.o (Cb g _ _ _)⟩
theorem Lz(a:Zk)(c b d:Nat)(n:Int)(w:Zh)(j:w.cell? (Ze b 0)=some (Yz d))(k:w.cell? (Ze d 2)=some (Zg n)):
 Calls prog 211 #[.slice a 0 c,.func (.func 212) #[] #[Yz b]] w fun e m=>e=.returned (.slice a 0 c)/\Zz w m:=by
 have h:=Yx (IM a c b d n [] w (.inl rfl) (by simp) j k);go_enter func211,ntmps211;go_wp2_with fail;refine Calls.mono h.o ?_;rintro e o ⟨r,rfl,l,f⟩;rcases l with⟨rfl,_⟩|⟨i,x,_,g,_⟩
 ·go_wp2;go_ret;exact⟨rfl,f⟩
 ·simp at g
theorem OY(base b d:Nat)(L:Value)(n:Int)(f:List Ld)(w:Zh)(k:w.ownsRow base 139 3 L f.length (Ab lC f))(s:f.length<=200)(i:w.cell? (Ze b 0)=some (Yz d))(j:w.cell? (Ze d 2)=some (Zg n))(m:L.ownBlock≠some b)(o:L.ownBlock≠some d):
 Calls prog 211 #[L,.func (.func 212) #[] #[Yz b]] w fun e h=>∃a c,e=.returned (.slice a (AK f n).length c)/\h.ownsRow base 139 3 (.slice a (AK f n).length c) (AK f n).length (Ab lC (AK f n))/\w.grownBy h L.ownBlock/\(Value.slice a (AK f n).length c).ownBlock=L.ownBlock:=by
 rcases k.2 with⟨rfl,t⟩|⟨g,l,u,rfl,_⟩
 ·have:f=[]:=List.eq_nil_of_length_eq_zero t;subst this;refine(Lz none 0 b d n w i j).mono ?_;rintro e h ⟨rfl,r⟩;exact⟨none,0,rfl,World.ownsRow_nil _ _ _ _,Au _ r,rfl⟩
 ·refine(Ly g l base b d n f w k s i j (fun e=>m (by rw[e];rfl)) (fun e=>o (by rw[e];rfl))).mono ?_;rintro e h ⟨rfl,p,q⟩;exact⟨_,_,rfl,p,q,rfl⟩
theorem Ux(base d m:Nat)(O P L:Value)(n i given ae:Int)(B:List Kd)(C:List Pd)(j:List Ld)(f:Int)(w:Zh)(h:DU w base d m O P L n i given ae B C j)(hl:j.length<=200)(zE:0<=i)(zF:0<=f)(hs:i+f<=1000000000):
 Calls prog 178 #[.pointer (some ⟨d,0,none⟩),.int .i64 f] w fun e r=>e=.returned (.tuple #[])/\∃M,DU r base d m O P M n (i+f) given ae B C (AK j (i+f))/\Tn (d::L.ownBlock.toList) w r:=by
 obtain⟨l,k,zC⟩:=As h.dr.ck;subst zC;have zG:=h.dr.box.lt;obtain⟨W,y⟩:∃W,W=w.alloc (.cells #[.pointer (some ⟨d,0,none⟩)] 141):=⟨_,rfl⟩;have N:=(AG y).1;have E:=(AG y).2.2;have o:=h.below N;obtain⟨X,z⟩:∃X,X=W.setCell ⟨d,2,none⟩ (.int .i64 (i+f)):=⟨_,rfl⟩;have D:Tn [d] W X:=by rw[z];exact En _ _ _ _
 have x:Aa X d [.int .i64 n,.map (some m),.int .i64 (i+f),.int .i64 given,.int .i64 ae,O,P,.slice l j.length k]:=by rw[z];exact o.dr.box.set 2 _
 have V:Aa X w.heap.size [.pointer (some ⟨d,0,none⟩)]:=Aa.same E (D.block _ E.lt (by simp;omega));have u:∀g,(Value.slice l j.length k).ownBlock=some g->g≠d:=fun g A=>((CZ h.dr.ap).2.2.2 g A).1;have H:X.ownsRow base 139 3 (.slice l j.length k) j.length (Ab lC j):=Ai o.dr.ck (fun g A=>D.block g (Ac o.dr.ck A).2 (by simp;exact u g A))
 have F:(Value.slice l j.length k).ownBlock≠some w.heap.size:=fun e=>by have:=(Ac h.dr.ck e).2;omega
 have G:(Value.slice l j.length k).ownBlock≠some d:=fun e=>u d e rfl
 have HF:Hid (∀Y,Zz X Y->Calls prog 211 #[.slice l j.length k,.func (.func 212) #[] #[.pointer (some ⟨w.heap.size,0,none⟩)]] Y fun e r=>∃a c,e=.returned (.slice a (AK j (i+f)).length c)/\r.ownsRow base 139 3 (.slice a (AK j (i+f)).length c) (AK j (i+f)).length (Ab lC (AK j (i+f)))/\Y.grownBy r (Value.slice l j.length k).ownBlock/\(Value.slice a (AK j (i+f)).length c).ownBlock=(Value.slice l j.length k).ownBlock):=fun Y Q=>
  OY base w.heap.size d _ (i+f) j Y (Ae H Q) hl ((Aa.below V Q) 0 _ rfl).1 ((x.below Q) 2 _ rfl).1 F G
 have HD:Hid (DU W base d m O P (.slice l j.length k) n i given ae B C j):=o;have zA:Hid (Zz w W):=N;have zB:Hid (Tn [d] W X):=D;have s:Hid (Aa X d [.int .i64 n,.map (some m),.int .i64 (i+f),.int .i64 given,.int .i64 ae,O,P,.slice l j.length k]):=x;have t:Hid (Aa X w.heap.size [.pointer (some ⟨d,0,none⟩)]):=V;have HW:Hid _:=y;have HX:Hid _:=z;obtain⟨U,_⟩:=E 0 _ rfl;obtain⟨c2,f2⟩:=o.dr.box 2 _ rfl
 have zI:IntKind.i64.wrap (i+f)=i+f:=GO zE (by omega) zF (by omega);have zH:¬(1000000000<i+f):=by omega
 clear h N E o z y D x V H;go_enter func178,ntmps178;go_upto_region 1 with fail;rw[←HW.o];clear HW;go_upto_region 4 with fail;rw[←HX.o];clear HX U c2 f2;have Z:Below X.heap.size X X.drew:=(Below.refl _ _).drew;obtain⟨U,_⟩:=t.o 0 _ rfl;obtain⟨c7,_⟩:=s.o 7 _ rfl
 go_region_with (go_at_call 211;refine Calls.mono (HF.o X.drew Z) ?_;rintro e q ⟨S,T,rfl,I,p,J⟩;have v:Aa q d [.int .i64 n,.map (some m),.int .i64 (i+f),.int .i64 given,.int .i64 ae,O,P,.slice l j.length k]:=Aa.same s.o (p.block d s.o.lt (fun e=>G e.symm));have K:Aa q w.heap.size [.pointer (some ⟨d,0,none⟩)]:=Aa.same t.o (p.block w.heap.size t.o.lt (fun e=>F e.symm));obtain⟨g7,k7⟩:=v 7 _ rfl;obtain⟨y0,_⟩:=K 0 _ rfl)
 all_goals
  have hK:∃M,DU (q.setCell ⟨d,7,none⟩ (.slice S (AK j (i+f)).length T)) base d m O P M n (i+f) given ae B C (AK j (i+f))/\Tn (d::(Value.slice l j.length k).ownBlock.toList) w (q.setCell ⟨d,7,none⟩ (.slice S (AK j (i+f)).length T)):=by
   have t1:Tn (d::(Value.slice l j.length k).ownBlock.toList) W (q.setCell ⟨d,7,none⟩ (.slice S (AK j (i+f)).length T)):=
    ((zB.o.mono (by simp)).trans ((Tn.of Z).trans ((Ct p).mono (fun b R=>List.mem_cons_of_mem _ R)))).trans ((En q d 7 _).mono (by simp))
   exact⟨_,HD.o.gm t1 (v.set 7 _) (Bk I (fun b R=>u b (J▸R)) 7 _) (.inl J),(Tn.of zA.o).trans t1⟩
  have HK:Hid _:=hK;clear hK I p v K U c7;go_wp2
  go_end0
  exact⟨rfl,HK.o⟩
theorem QN(z n given ae:Int)(T:Value)(p l:Zk)(v u:Nat)(a:List Pd)(d:List Ld)(s:Zi)(w:Zh)(H:AS w w.heap.size p a)(G:AU w w.heap.size l d)(zA:a.length<=1000)(Z:d.length<=1000):
 Calls prog 122 #[.agg #[Zg z,Zg n,Zg given,Zg ae,T,.slice p a.length v,.slice l d.length u],.string s] w fun e Y=>Ar ((∃p∈a,p.sum=s)∨∃l∈d,l.sum=s) w Y e:=by
 have L:=Yx H;have J:=Yx G;have I:=Bg.new w z n given ae T (.slice p a.length v) (.slice l d.length u) 40;have g:Below w.heap.size w (w.alloc (.cells #[Zg z,Zg n,Zg given,Zg ae,T,.slice p a.length v,.slice l d.length u] 40)):=Zy;obtain⟨W,C⟩:∃W,W=w.alloc (.cells #[Zg z,Zg n,Zg given,Zg ae,T,.slice p a.length v,.slice l d.length u] 40):=⟨_,rfl⟩;rw[←C]at I g;have F:=Yx C;clear H G C
 obtain⟨R,S,U,V,X,q5,q6,q7⟩:=I;clear R S U V X;go_enter func122,ntmps122;go_upto_region 1 with fail;rw[←F.o];clear F;go_wp2
 go_loop [5] (fun i=>∃k:Nat,k<=a.length/\i=Zg k/\Hid (∀j x,j<k->a[j]?=some x->¬x.sum=s)) (fun i=>a.length -(intOf i).toNat)
 case atStart=>exact⟨0,Nat.zero_le _,rfl,(fun j x h=>by omega)⟩
 case round=>
  obtain⟨k,Q,rfl,c⟩:=hrel;by_cases hlt:k<a.length
  ·obtain⟨b,M,D,P,q⟩:=(AS.below L.o g).at hlt;subst D;have m:Hid (a[k]?=some a[k]):=Zv hlt;obtain⟨N,O⟩:=q k _ m.o;clear q;generalize a[k]=x at *
   by_cases h:x.sum=s
   ·have E:(x.sum.toList==s.toList)=true:=by rw[h];simp
    have B:=Yx h;clear h;go_wp2;refine bodyPost_ret (results_tmp rfl _ _ _) rfl ?_;exact Ar.yes (.inl ⟨x,Zs m.o,B.o⟩) g
   ·have E:(x.sum.toList==s.toList)=false:=BP h;have A:Hid (∀j y,j<k+1->a[j]?=some y->¬y.sum=s):=by
     intro j y r f;rcases Nat.lt_or_ge j k with o|o
     ·exact c.o j y o f
     ·obtain rfl:j=k:=by omega
      rw[m.o]at f;cases f;exact h
    clear h;go_wp2;exact⟨⟨k+1,by omega,by go_num,A⟩,by simp[intOf];omega⟩
  ·have K:Hid (¬∃p∈a,p.sum=s):=by rintro⟨y,f,t⟩;obtain⟨j,r,rfl⟩:=List.getElem_of_mem f;exact c.o j _ (by omega) (Zv r) t
   clear c;go_wp2
   go_loop [6] (fun i=>∃k:Nat,k<=d.length/\i=Zg k/\Hid (∀j x,j<k->d[j]?=some x->¬x.sum=s)) (fun i=>d.length -(intOf i).toNat)
   case atStart=>exact⟨0,Nat.zero_le _,rfl,(fun j x h=>by omega)⟩
   case round=>
    obtain⟨k,Q,rfl,c⟩:=hrel;by_cases hlt:k<d.length
    ·obtain⟨b,M,D,P,q⟩:=(AU.below J.o g).at hlt;subst D;have m:Hid (d[k]?=some d[k]):=Zv hlt;obtain⟨N,O,c2⟩:=q k _ m.o;clear q;generalize d[k]=x at *
     by_cases h:x.sum=s
     ·have E:(x.sum.toList==s.toList)=true:=by rw[h];simp
      have B:=Yx h;clear h;go_wp2;refine bodyPost_ret (results_tmp rfl _ _ _) rfl ?_;exact Ar.yes (.inr ⟨x,Zs m.o,B.o⟩) g
     ·have E:(x.sum.toList==s.toList)=false:=BP h;have A:Hid (∀j y,j<k+1->d[j]?=some y->¬y.sum=s):=by
       intro j y r f;rcases Nat.lt_or_ge j k with o|o
       ·exact c.o j y o f
       ·obtain rfl:j=k:=by omega
        rw[m.o]at f;cases f;exact h
      clear h;go_wp2;exact⟨⟨k+1,by omega,by go_num,A⟩,by simp[intOf];omega⟩
    ·go_wp2;refine bodyPost_ret (results_tmp rfl _ _ _) rfl ?_;refine Ar.no (fun e=> ?_) g;rcases e with e|⟨y,f,t⟩
     ·exact absurd e K.o
     ·obtain⟨j,r,rfl⟩:=List.getElem_of_mem f;exact absurd t (c.o j _ (by omega) (Zv r))
theorem PU(a:Zk)(p:Nat)(c:Zl)(s:Zi)(w:Zh)(B:Nat)(f:Ad w B a c)(F:c.length<=1048576):
 Calls prog 85 #[.slice a c.length p,.string s] w fun e v=>e=.returned (.bool (c.any (fun x=>decide (x=s))))/\v=w:=by
 go_enter func85,ntmps85;go_wp2
 go_loop [5] (fun i=>∃k:Nat,k<=c.length/\i=Zg k/\Hid (∀j x,j<k->c[j]?=some x->x≠s)) (fun i=>c.length -(intOf i).toNat)
 case atStart=>exact⟨0,Nat.zero_le _,rfl,fun j x h=>by omega⟩
 case round=>
  obtain⟨k,E,rfl,d⟩:=hrel;by_cases hlt:k<c.length
  ·obtain⟨b,A,r,D,o⟩:=f.at hlt;subst r;have g:=Yx (Zv hlt);have C:=o k _ g;clear o f;generalize c[k]=x at *
   by_cases he:x=s
   ·subst he;have t:Hid (c.any (fun y=>decide (y=x))=true):=by show _=_;rw[List.any_eq_true];exact⟨x,Zs g.o,by simp⟩
    go_wp2;go_ret;exact⟨Aw t.o.symm,rfl⟩
   ·have z:=BP he;have q:Hid (∀j y,j<k+1->c[j]?=some y->y≠s):=by
     intro j y l m;rcases Nat.lt_or_ge j k with n|n
     ·exact d.o j y n m
     ·obtain rfl:j=k:=by omega
      rw[g.o]at m;cases m;exact he
    clear he d g;go_wp2;exact⟨⟨k+1,by omega,by go_num,q⟩,by simp[intOf];omega⟩
  ·go_wp2;go_ret;refine⟨Aw ?_,rfl⟩
   symm
   rw[List.any_eq_false];intro x u;obtain⟨j,l⟩:=List.getElem?_of_mem u;simpa using d.o j x (by have:=(Zw l).1;omega) l
def Bx(w:Zh)(b off:Nat)(zs:List (Kd×Value)):Prop:=
 ∀i z,zs[i]?=some z->(w.cell? (Ze b (off+i *4))=some (.string z.1.sum)/\w.cell? (Ze b (off+i *4+1))=some (Zg z.1.born)/\w.cell? (Ze b (off+i *4+2))=some (.string z.1.text)/\w.cell? (Ze b (off+i *4+3))=some z.2)/\∃ad rc,z.2=.slice (some ad) z.1.refs.length rc/\Ad w w.heap.size (some ad) z.1.refs
theorem Bx.below{w e:Zh}{b a:Nat}{f:List (Kd×Value)}(h:Bx w b a f)(c:Zz w e)(d:b<w.heap.size):Bx e b a f:=by intro i z q;obtain⟨⟨j,k,l,m⟩,g,r,n,o⟩:=h i z q;exact⟨⟨(c.cell (p:=⟨b,a+i *4,none⟩) d).trans j,(c.cell (p:=⟨b,a+i *4+1,none⟩) d).trans k,(c.cell (p:=⟨b,a+i *4+2,none⟩) d).trans l,(c.cell (p:=⟨b,a+i *4+3,none⟩) d).trans m⟩,g,r,n,Ad.mono (Ad.below o c) c.size⟩
theorem Bx.dm{w:Zh}{b c:Nat}{d:List (Kd×Value)}(h:Bx w b c d)(o:b<w.heap.size):BH w w.heap.size (some ⟨b,c,none⟩) (d.map (·.1)):=by
 refine .inr ⟨b,c,rfl,o,fun i k a=> ?_⟩;rw[List.getElem?_map]at a;cases hz:d[i]? with
 |none=>rw[hz]at a;cases a
 |some z=>rw[hz]at a;cases a;obtain⟨⟨f,g,j,l⟩,e,p,m,n⟩:=h i z hz;exact⟨f,g,j,some e,p,by rw[l,m],n⟩
theorem Bx.own{w:Zh}{base g e:Nat}{a:List (Kd×Value)}(h:w.ownsRow base 131 4 (Za g a.length e) a.length (Ab kC a))(k:∀z∈a,∃d l,z.2=.slice (some d) z.1.refs.length l/\Ad w w.heap.size (some d) z.1.refs):Bx w g 0 a:=by
 intro i z c;have m:=(Zw c).1;have b:∀j,j<4->w.cell? (Ze g (i *4+j))=(kC z)[j]?:=fun j f=>(h.cellAt (i *4+j) (by omega)).trans (Bp DX c f);refine⟨⟨?_,?_,?_,?_⟩,k z (Zs c)⟩
 ·rw[Nat.zero_add];simpa [kC]using b 0 (by decide)
 ·rw[Nat.zero_add];simpa [kC]using b 1 (by decide)
 ·rw[Nat.zero_add];simpa [kC]using b 2 (by decide)
 ·rw[Nat.zero_add];simpa [kC]using b 3 (by decide)
def BU(zs:List (Kd×Value))(s:Zi):List (Kd×Value):=zs.filter (fun z=> !decide (z.1.sum=s))
theorem Mj(a:List (Kd×Value))(s:Zi):(BU a s).map (·.1)=EE (a.map (·.1)) s:=by unfold BU EE;rw[List.filter_map];rfl
theorem QO{a:List (Kd×Value)}{k:Nat}{z:Kd×Value}(s:Zi)(c:a[k]?=some z):BU (a.take (k+1)) s=BU (a.take k) s++(if z.1.sum=s then []else [z]):=by obtain⟨b,rfl⟩:=Zw c;unfold BU;rw[Zu b,List.filter_append];by_cases h:a[k].1.sum=s<;>simp[h]
theorem Bw{w:Zh}{b:Nat}{c a given ae:Int}{T P L:Value}(h:Aa w b [Zg c,Zg a,Zg given,Zg ae,T,P,L]):Bg w b c a given ae T P L:=
 ⟨(h 0 _ rfl).1,(h 1 _ rfl).1,(h 2 _ rfl).1,(h 3 _ rfl).1,(h 4 _ rfl).1,(h 5 _ rfl).1,(h 6 _ rfl).1,h.lt⟩
def KN(ps:List Pd)(ls:List Ld)(ks:List Kd)(s:Zi):Prop:=((∃p∈ps,p.sum=s)∨∃l∈ls,l.sum=s)∨∃k∈ks,s∈k.refs
def PV(w w':Zh)(e:Ending)(wd now given ae:Int)(P L:Value)(zs:List (Kd×Value))(ps:List Pd)(ls:List Ld)(s:Zi):Prop:=
 Below w.heap.size w w'/\((KN ps ls (zs.map (·.1)) s/\e=.returned (.agg #[Zg 6,Zf,Zf,Zf,Zf,Zc,Zc,Zc,Zd,Zf,Zd,Zd]))∨
  (¬KN ps ls (zs.map (·.1)) s/\∃g c,e=.returned (.agg #[Zf,Zg wd,Zg now,Zg given,Zg ae,.slice (some ⟨g,0,none⟩) (BU zs s).length c,P,L,Zd,Zf,Zd,Zd])/\Bx w' g 0 (BU zs s)/\w.heap.size<=g/\g<w'.heap.size))
theorem QQ(r d given ae:Int)(b o H C B:Nat)(p l:Zk)(a:List (Kd×Value))(m:List Pd)(f:List Ld)(s:Zi)(w:Zh)(E:Bx w b o a)(zW:b<w.heap.size)(hp:AS w w.heap.size p m)(hl:AU w w.heap.size l f)(xA:a.length<=600)(yX:m.length<=100)(yW:f.length<=200)(hr:∀z∈a,z.1.refs.length<=1000)(yB:Ax (a.map (·.1)) s):
 Calls prog 82 #[.agg (Ys r d given ae (some ⟨b,o,none⟩) a.length H p m.length C l f.length B),.string s] w fun e w'=>PV w w' e r d given ae (.slice p m.length C) (.slice l f.length B) a m f s:=by
 obtain⟨W,P⟩:∃W,W=(w.alloc (.cells (Ys r d given ae (some ⟨b,o,none⟩) a.length H p m.length C l f.length B) 40)).alloc (.cells Yr 82):=⟨_,rfl⟩;have hB:=(AW P).1;have yZ:=(AW P).2.1;have xW:Bg W w.heap.size r d given ae (.slice (some ⟨b,o,none⟩) a.length H) (.slice p m.length C) (.slice l f.length B):=by rw[P];exact Bg.aj (Bg.new w r d given ae _ _ _ 40) (Zy) (by simp)
 have zR:Aa W (w.heap.size+1) z12:=by have h1:=Aa.new (w.alloc (.cells (Ys r d given ae (some ⟨b,o,none⟩) a.length H p m.length C l f.length B) 40)) z12 82;rw[World.size_alloc]at h1;rw[P];exact h1
 have HF:=FE r d given ae (some ⟨b,o,none⟩) H (.slice p m.length C) (.slice l f.length B) (a.map (·.1)) s W w.heap.size (BH.below (E.dm zW) hB) hB.size (by rw[List.length_map];omega);rw[List.length_map]at HF;have yV:0<=CE (a.map (·.1)) s:=by
  rcases FT (a.map (·.1)) s with⟨_,hn⟩|⟨i,k,e,_⟩
  ·exact absurd yB hn
  ·omega
 have zI:=Yx HF;have yJ:=Yx zR;have yF:Hid (Aa W _ _):=(AW P).2.2.1;have yE:w.heap.size+1<W.heap.size:=by omega
 have HZ:=Yx E;have zM:=Yx (Zn hp hl);have HW:=Yx P;have zP:=Yx xW;clear P E hp hl zR HF yB;obtain⟨x0,x1,x2,x3,x4,x5,x6,x7⟩:=xW;go_enter func82,ntmps82;go_upto_region 1 with fail;rw[←HW.o];clear HW;go_wp2_with fail;refine Calls.mono zI.o ?_;rintro e w1 ⟨rfl,L⟩;have yT:¬CE (a.map (·.1)) s<0:=by omega
 have zE:=Yx (Bg.below zP.o L);obtain⟨Q,R,S,U,X,Y,Z,y7⟩:=zE.o;have G:Below w.heap.size w w1:=hB.trans (L.mono hB.size);clear x0 x1 x2 x3 x4 x5 x6 zI;generalize CE (a.map (·.1)) s=fi at *
 go_wp2_with fail;refine(QN r d given ae (.slice (some ⟨b,o,none⟩) a.length H) p l C B m f s w1 (AS.mono (AS.below zM.o.1 G) G.size) (AU.mono (AU.below zM.o.2 G) G.size) (by omega) (by omega)).mono ?_;rintro e F ⟨ok,rfl,zZ,M⟩;have zA:Below w.heap.size w F:=G.trans (M.mono G.size);have zO:=Yx (Bg.below zE.o M);have z2:Aa F (w.heap.size+1) z12:=Aa.below (v:=Zf) (Aa.below (v:=Zf) yJ.o L) M
 have zF:=Yx z2;have zK:=Yx zZ;clear zZ Q R S U X Y Z z2;cases ok
 ·obtain⟨v0,v1,v2,v3,v4,v5,v6,v7⟩:=zO.o;have yN:w.heap.size+2<=F.heap.size:=by have:=L.size;have:=M.size;omega
  have bA:Below F.heap.size F (F.alloc (.cells #[] 131)):=Zy;go_wp2
  go_loopw [5,6] (fun v i wr=>∃(k g c:Nat),k<=a.length/\i=Zg k/\v=Za g (BU (a.take k) s).length c/\Hid (wr.ownsRow (w.heap.size+2) 131 4 (Za g (BU (a.take k) s).length c) (BU (a.take k) s).length (Ab kC (BU (a.take k) s))/\(∀z∈a.take k,¬s∈z.1.refs)/\Aa wr w.heap.size (Yt r d given ae (some ⟨b,o,none⟩) a.length H p m.length C l f.length B)/\Aa wr (w.heap.size+1) z12/\Zz w wr)) (fun _ i _=>a.length -(intOf i).toNat)
  case atStart=>
   refine⟨0,F.heap.size,0,Nat.zero_le _,rfl,by simp[BU],⟨?_,(fun z E=>by simp at E),Aa.below (Aa.below (Aa.below yF.o L) M) bA,Aa.below (v:=Zf) zF.o bA,zA.trans (bA.mono zA.size)⟩⟩;have:=World.ownsRow_lit (base:=w.heap.size+2) (e:=131) (size:=4) F #[] 0 yN (by unfold maxLen;omega) rfl;simpa [BU,Ab]using this
  case round=>
   clear zE zP zF zO v0 v1 v2 v3 v4 v5 v6 v7 bA;obtain⟨k,g,c,hk,rfl,rfl,t⟩:=hrel;obtain⟨v0,v1,v2,v3,v4,v5,v6,v7⟩:=Bw t.o.2.2.1;have n:=t.o.2.2.2.2;have xB:=n.size;by_cases hlt:k<a.length
   ·have HG:Hid (a[k]?=some a[k]):=Zv hlt;obtain⟨⟨c0,c1,c2,c3⟩,I,J,h4,h5⟩:=(Bx.below HZ.o n zW) k _ HG.o;have yY:=hr _ (List.getElem_mem hlt);have zN:=Yx (QO s HG.o);have yS:b<wr.heap.size:=by omega
    have yH:=Yx h5;have yI:Hid (a.take (k+1)=a.take k++[a[k]]):=Zu hlt;rw[h4]at c3;have H4:=Yx h4;clear h5 h4;generalize a[k]=z at *
    have yU:(BU (a.take k) s).length<=600:=by have:=List.length_filter_le (fun z:Kd×Value=> !decide (z.1.sum=s)) (a.take k);unfold BU;rw[List.length_take]at this;omega
    go_wp2_with fail;refine(PU (some I) J z.1.refs s wr wr.heap.size yH.o (by omega)).mono ?_;rintro e w3 ⟨rfl,rfl⟩;by_cases hin:s∈z.1.refs
    ·have hd:z.1.refs.any (fun x=>decide (x=s))=true:=by simpa using hin
     rw[hd];obtain⟨⟨Q,q0⟩,⟨R,q1⟩,⟨S,q2⟩,⟨U,q3⟩,⟨X,q4⟩,⟨Y,q5⟩,⟨Z,q6⟩,⟨y7,q7⟩,⟨y8,q8⟩,⟨y9,q9⟩,⟨N,yC⟩,O,yD⟩:=AT t.o.2.2.2.1;have yK:=Yx hin;clear hin hd c0 c1 c2 c3 v0 v1 v2 v3 v4 v5 v6;go_wp2
     refine bodyPost_ret (v:=.agg (Yq 6)) (by simp[results,results82,go_sem,Q,R,S,U,X,Y,Z,y7,y8,y9,N,O]) rfl ⟨n.trans (Tn.below (Bh _ (w.heap.size+1) _ _ _ _ _ _ _ _ _ _ _ _) n.size (by simp)),.inl ⟨.inr ⟨z.1,List.mem_map.2 ⟨z,Zs HG.o,rfl⟩,yK.o⟩,rfl⟩⟩
    ·have hd:z.1.refs.any (fun x=>decide (x=s))=false:=by rw[List.any_eq_false];intro x hx e;exact hin (of_decide_eq_true e▸hx)
     rw[hd];have zJ:Hid (∀y∈a.take (k+1),¬s∈y.1.refs):=by
      rw[yI.o];intro y hy;rcases List.mem_append.1 hy with hy|hy
      ·exact t.o.2.1 y hy
      ·simp at hy;rw[hy];exact hin
     clear hin hd;by_cases hzs:z.1.sum=s
     ·have hq:(z.1.sum.toList !=s.toList)=false:=by rw[hzs];simp
      have yA:(z.1.sum.toList==s.toList)=true:=by rw[hzs];simp
      have D:=zN.o;rw[if_pos hzs,List.append_nil]at D;have K:=Yx D;clear D hzs;go_wp2;exact⟨⟨k+1,g,c,by omega,by go_num,by rw[K.o],⟨by rw[K.o];exact t.o.1,zJ.o,t.o.2.2⟩⟩,by simp[intOf];omega⟩
     ·have yA:(z.1.sum.toList==s.toList)=false:=BP hzs;have hq:(z.1.sum.toList !=s.toList)=true:=by simp[bne,yA]
      have D:=zN.o;rw[if_neg hzs]at D;have K:=Yx D;clear D hzs;obtain⟨i0,hi,yO,yP,zC⟩:=info_parts GF;have zY:=Ac t.o.1 (g:=g) rfl;go_wp2_with (first
       |(at_builtin;refine wpList_append_own_at _ rfl _ _ 36 rfl (w.heap.size+2) 131 i0 _ 4 64 underlying36 hi yO yP zC rfl (by decide) _ (BU (a.take k) s).length (Ab kC (BU (a.take k) s)) rfl ?d0 ⟨w3.heap.size,0,none⟩ 1 1 (kC (z.1,.slice (some I) z.1.refs.length J)) rfl rfl ?d2 ?d3 ?d4 ?d5 ?d6 ?_)
       |go_in)
      case d0=>exact Ae t.o.1 (Zy)
      case d2=>
       intro j u hu;rw[Go.WideShapes.add_plain,Nat.zero_add];exact((Aa.new w3 (kC (z.1,.slice (some I) z.1.refs.length J)) 131) j u hu).1
      case d3=>
       intro u hu;simp[kC]at hu;rcases hu with rfl|rfl|rfl|rfl<;>rfl
      case d4=>unfold maxLen;omega
      case d5=>omega
      case d6=>simp;omega
      intro v4 w4 zB zX yM yL;obtain⟨g4,c4,rfl,yQ,yR⟩:=Cf zB (fun e=>by subst e;rcases zB.2 with⟨_,hn⟩|⟨_,_,_,e,_⟩<;>first|omega|cases e);have b4:Below w3.heap.size w3 (w3.alloc (.cells #[.string z.1.sum,Zg z.1.born,.string z.1.text,.slice (some I) z.1.refs.length J] 131)):=Zy;have A:w3.grownBy w4 (some g):=Av (Au _ b4) zX;have zC:z.2=.slice (some I) z.1.refs.length J:=H4.o
      have zH:(BU (a.take (k+1)) s).length=(BU (a.take k) s).length+1:=by rw[K.o];simp
      have zU:Ab kC (BU (a.take (k+1)) s)=Ab kC (BU (a.take k) s)++kC (z.1,.slice (some I) z.1.refs.length J):=by rw[K.o,Bi,←zC];simp[Ab]
      have HF:Hid (w4.ownsRow (w.heap.size+2) 131 4 (Za g4 (BU (a.take (k+1)) s).length c4) (BU (a.take (k+1)) s).length (Ab kC (BU (a.take (k+1)) s))/\(∀y∈a.take (k+1),¬s∈y.1.refs)/\Aa w4 w.heap.size (Yt r d given ae (some ⟨b,o,none⟩) a.length H p m.length C l f.length B)/\Aa w4 (w.heap.size+1) z12/\Zz w w4):=by
       refine⟨by rw[zH,zU];exact zB,zJ.o,?_,?_,n.grown A (by omega) (fun q hq=>by cases hq;omega)⟩
       ·exact Aa.cw t.o.2.2.1 A (by omega)
       ·exact Aa.cw (v:=Zf) t.o.2.2.2.1 A (by omega)
      clear zB zX A yM yL b4 zU zC c0 c1 c2 c3 v0 v1 v2 v3 v4 v5 v6;have yG:=Yx zH;clear zH;go_wp2;exact⟨⟨k+1,g4,c4,by omega,by go_num,by rw[yG.o],HF⟩,by simp[intOf];omega⟩
   ·obtain rfl:k=a.length:=by omega
    have zV:=t.o;rw[Zt (Zx)]at zV;obtain⟨h1,h2,h3,h4,h5⟩:=zV;have zY:=Ac h1 (g:=g) rfl;have HE:=Yx (Zn h1 (Zn h2 h5));obtain⟨⟨Q,q0⟩,⟨R,q1⟩,⟨S,q2⟩,⟨U,q3⟩,⟨X,q4⟩,⟨Y,q5⟩,⟨Z,q6⟩,⟨y7,q7⟩,⟨y8,q8⟩,⟨y9,q9⟩,⟨N,yC⟩,O,yD⟩:=AT h4;have f4:=(h3 4 _ rfl).2;have H3:=Yx h3;clear h1 h2 h3 h4 h5;rw[Zt (Zx)];go_wp2
    have T:∀a0 a1 a2 a3 a4 a5 a6 a7 a8 a9 zS zT c4,Tn [w.heap.size,w.heap.size+1] wr _:=fun a0 a1 a2 a3 a4 a5 a6 a7 a8 a9 zS zT c4=>(Tn.set (V:=[w.heap.size,w.heap.size+1]) wr w.heap.size 4 c4 (by simp)).trans (Tn.mono (Bh (wr.setCell (Ze (w.heap.size) 4) c4) (w.heap.size+1) a0 a1 a2 a3 a4 a5 a6 a7 a8 a9 zS zT) (by simp))
    refine bodyPost_ret (v:=.agg #[Zf,Zg r,Zg d,Zg given,Zg ae,Za g (BU a s).length c,.slice p m.length C,.slice l f.length B,Zd,Zf,Zd,Zd]) (by simp[results,results82,go_sem,Q,R,S,U,X,Y,Z,y7,y8,y9,N,O]) rfl ?_;have T':=T Zf (Zg r) (Zg d) (Zg given) (Zg ae) (Za g (BU a s).length c) (.slice p m.length C) (.slice l f.length B) Zd Zf Zd Zd (Za g (BU a s).length c)
    have zG:=HE.o.2.2.trans (Tn.below T' HE.o.2.2.size (by simp));refine⟨zG,.inr ⟨?_,g,c,rfl,Bx.own (Ai HE.o.1 (fun q hq=>T'.block q (Ac HE.o.1 hq).2 (by have:=(Ac HE.o.1 hq).1;simp;omega))) (fun z E=> ?_),by omega,Zr zY.2 T'.size⟩⟩
    ·rintro(h|⟨x,hx,hs⟩)
     ·have:=zK.o.2 h;simp at this
     ·obtain⟨z,E,rfl⟩:=List.mem_map.1 hx;exact HE.o.2.1 z E hs
    ·obtain⟨i,hi⟩:=List.getElem?_of_mem (List.mem_filter.1 E).1;obtain⟨_,I,J,e,hs⟩:=HZ.o i z hi;exact⟨I,J,e,Ad.mono (Ad.below hs zG) zG.size⟩
 ·obtain⟨⟨Q,q0⟩,⟨R,q1⟩,⟨S,q2⟩,⟨U,q3⟩,⟨X,q4⟩,⟨Y,q5⟩,⟨Z,q6⟩,⟨y7,q7⟩,⟨y8,q8⟩,⟨y9,q9⟩,⟨N,yC⟩,O,yD⟩:=AT zF.o;go_wp2;refine bodyPost_ret (v:=.agg (Yq 6)) (by simp[results,results82,go_sem,Q,R,S,U,X,Y,Z,y7,y8,y9,N,O]) rfl ⟨zA.trans (Tn.below (Bh F (w.heap.size+1) _ _ _ _ _ _ _ _ _ _ _ _) zA.size (by simp)),.inl ⟨.inl (zK.o.1 trivial),rfl⟩⟩
theorem QR{a:List Ld}{k:Nat}{x:Ld}(n:Int)(c:a[k]?=some x):Bo (a.take (k+1)) n=Bo (a.take k) n++(if x.num=n then []else [x]):=by obtain⟨b,rfl⟩:=Zw c;unfold Bo;rw[Zu b,List.filter_append];by_cases h:a[k].num=n<;>simp[h]
theorem Mk(a:List Ld)(n:Int):(Bo a n).length=a.length↔¬∃x∈a,x.num=n:=by unfold Bo;rw[List.length_filter_eq_length_iff];simp
def SC(w w':Zh)(e:Ending)(wd now given ae:Int)(T P:Value)(ls:List Ld)(n:Int):Prop:=
 Below w.heap.size w w'/\(((¬∃x∈ls,x.num=n)/\e=.returned (.agg #[Zg 5,Zf,Zf,Zf,Zf,Zc,Zc,Zc,Zd,Zf,Zd,Zd]))∨
  ((∃x∈ls,x.num=n)/\∃g c,e=.returned (.agg #[Zf,Zg wd,Zg now,Zg given,Zg ae,T,P,.slice (some ⟨g,0,none⟩) (Bo ls n).length c,Zd,Zf,Zd,Zd])/\w'.ownsRow w.heap.size 139 3 (.slice (some ⟨g,0,none⟩) (Bo ls n).length c) (Bo ls n).length (Ab lC (Bo ls n))))
theorem QS(p d given ae:Int)(m h A:Zk)(tn o l j E:Nat)(a:List Ld)(n:Int)(w:Zh)(s:AU w w.heap.size A a)(hl:a.length<=1000):
 Calls prog 80 #[.agg (Ys p d given ae m tn o h l j A a.length E),Zg n] w fun e w'=>SC w w' e p d given ae (.slice m tn o) (.slice h l j) a n:=by
 obtain⟨W,y⟩:∃W,W=(w.alloc (.cells (Ys p d given ae m tn o h l j A a.length E) 40)).alloc (.cells Yr 82):=⟨_,rfl⟩;have bW:=(AW y).1;have M:=(AW y).2.1;have x0:=(AW y).2.2.1;have x1:Aa W (w.heap.size+1) z12:=by have h1:=Aa.new (w.alloc (.cells (Ys p d given ae m tn o h l j A a.length E) 40)) z12 82;rw[World.size_alloc]at h1;rw[y];exact h1
 have R:Hid (∀X,Below (w.heap.size+2) W X->Aa X w.heap.size (Yt p d given ae m tn o h l j A a.length E)/\Aa X (w.heap.size+1) z12):=fun X hX=>⟨Aa.same x0 (hX.block _ (by omega)),Aa.same x1 (hX.block _ (by omega))⟩;have Z:=Yx y;have zH:Hid (W.heap.size=w.heap.size+2):=M;have t:w.heap.size+2<=W.heap.size:=by omega
 have HR:Hid (AU w w.heap.size A a):=s;have zA:Hid (Zz w W):=bW;have bA:Below W.heap.size W (W.alloc (.cells #[] 139)):=Zy;have G:Hid ((W.alloc (.cells #[] 139)).ownsRow (w.heap.size+2) 139 3 (Za W.heap.size 0 0) 0 []):=World.ownsRow_lit (base:=w.heap.size+2) (e:=139) (size:=3) W #[] 0 (by omega) (by unfold maxLen;omega) rfl
 have F:Hid (Below (w.heap.size+2) W (W.alloc (.cells #[] 139))):=bA.mono t;clear y M x0 x1 s bW bA;go_enter func80,ntmps80;go_upto_region 1 with fail;rw[←Z.o];clear Z;go_wp2
 go_loopw [5,6] (fun v i wr=>∃(k g c:Nat),k<=a.length/\i=Zg k/\v=Za g (Bo (a.take k) n).length c/\Hid (wr.ownsRow (w.heap.size+2) 139 3 (Za g (Bo (a.take k) n).length c) (Bo (a.take k) n).length (Ab lC (Bo (a.take k) n))/\Below (w.heap.size+2) W wr)) (fun _ i _=>a.length -(intOf i).toNat)
 case atStart=>exact⟨0,W.heap.size,0,Nat.zero_le _,rfl,by simp[Bo],⟨by simpa [Bo,Ab]using G.o,F.o⟩⟩
 case round=>
  clear G F;obtain⟨k,g,c,hk,rfl,rfl,b⟩:=hrel;have f:Below w.heap.size w wr:=zA.o.trans (b.o.2.mono (by omega));have N:w.heap.size+2<=wr.heap.size:=Zm t b.o.2.size;obtain⟨v0,v1,v2,v3,v4,v5,v6,v7⟩:=Bw (R.o _ b.o.2).1;by_cases hlt:k<a.length
  ·obtain⟨b',zJ,ha,hb,I⟩:=(AU.below HR.o f).at hlt;subst ha;have Y:Hid (a[k]?=some a[k]):=Zv hlt;obtain⟨c0,c1,c2⟩:=I k _ Y.o;have H:=Yx (QR n Y.o);have zI:(Bo (a.take k) n).length<=1000:=by have:=List.length_filter_le (fun x:Ld=> !decide (x.num=n)) (a.take k);unfold Bo;rw[List.length_take]at this;omega
   clear I;generalize a[k]=x at *
   generalize hGk:Bo (a.take k) n=gk at *
   have zG:=Yx hGk;clear hGk;by_cases hxn:x.num=n
   ·have z:(x.num !=n)=false:=by simp[hxn]
    have B:Hid (Bo (a.take (k+1)) n=gk):=by show _=_;rw[H.o,if_pos hxn,List.append_nil]
    clear hxn;go_wp2;exact⟨⟨k+1,g,c,by omega,by go_num,by rw[B.o],⟨by rw[B.o];exact b.o.1,b.o.2⟩⟩,by simp[intOf];omega⟩
   ·have z:(x.num !=n)=true:=by simp[hxn]
    have B:Hid (Bo (a.take (k+1)) n=gk++[x]):=by show _=_;rw[H.o,if_neg hxn]
    clear hxn;obtain⟨g8,r,T,L,K,J,zC⟩:=Nj wr (w.heap.size+2) _ gk b.o.1 x (by omega) N 38;have b8:Below (w.heap.size+2) wr T:=(Below.refl _ _).grown J N (fun q e=>(Ac b.o.1 e).1);have U:Hid (T.ownsRow (w.heap.size+2) 139 3 (Za g8 (gk.length+1) r) (gk++[x]).length (Ab lC (gk++[x]))/\Below (w.heap.size+2) W T):=⟨K,b.o.2.trans b8⟩;have zF:b'<wr.heap.size:=by have:=f.size;omega
    clear K J zC b8;go_wp2_with (at_builtin;refine wpList_append_run rfl _ _ 38 38 rfl rfl rfl L ?_);clear L c0 c1 c2 v0 v1 v2 v3 v4 v5 v6;go_wp2;exact⟨⟨k+1,g8,r,by omega,by go_num,by rw[B.o,List.length_append];rfl,⟨by rw[B.o,List.length_append];exact List.length_append▸U.o.1,U.o.2⟩⟩,by simp[intOf];omega⟩
  ·obtain rfl:k=a.length:=by omega
   have D:=b.o.1;rw[Zt (Zx)]at D ⊢;have Q:=Yx D;have u:Hid (Zz w wr):=f;obtain⟨⟨y0,q0⟩,⟨y1,q1⟩,⟨y2,q2⟩,⟨y3,q3⟩,⟨y4,q4⟩,⟨y5,q5⟩,⟨y6,q6⟩,⟨y7,q7⟩,⟨y8,q8⟩,⟨y9,q9⟩,⟨O,zK⟩,P,zM⟩:=AT (R.o _ b.o.2).2;have f6:=((R.o _ b.o.2).1 6 _ rfl).2;by_cases hex:∃x∈a,x.num=n
   ·have zE:¬(Bo a n).length=a.length:=fun e=>(Mk a n).1 e hex;have z:(((Bo a n).length:Int)==(a.length:Int))=false:=by simp;omega
    have C:Hid (∃x∈a,x.num=n):=hex;clear zE hex D f b;go_wp2;refine bodyPost_ret (v:=.agg #[Zf,Zg p,Zg d,Zg given,Zg ae,.slice m tn o,.slice h l j,Za g (Bo a n).length c,Zd,Zf,Zd,Zd]) (by simp[results,results80,go_sem,y0,y1,y2,y3,y4,y5,y6,y7,y8,y9,O,P]) rfl ?_
    have T':=(Tn.set (V:=[w.heap.size,w.heap.size+1]) wr w.heap.size 6 (Za g (Bo a n).length c) (by simp)).trans (Tn.mono (Bh (wr.setCell (Ze (w.heap.size) 6) (Za g (Bo a n).length c)) (w.heap.size+1) Zf (Zg p) (Zg d) (Zg given) (Zg ae) (.slice m tn o) (.slice h l j) (Za g (Bo a n).length c) Zd Zf Zd Zd) (by simp))
    exact⟨u.o.trans (T'.below u.o.size (by intro v S;simp at S;omega)),.inr ⟨C.o,g,c,rfl,(Ai Q.o (fun q z=>T'.block q (Ac Q.o z).2 (by have:=(Ac Q.o z).1;simp;omega))).mono (by omega)⟩⟩
   ·have zB:(Bo a n).length=a.length:=(Mk a n).2 hex;have z:(((Bo a n).length:Int)==(a.length:Int))=true:=by simp;omega
    have C:Hid (¬∃x∈a,x.num=n):=hex;clear zB hex D f b;go_wp2;refine bodyPost_ret (v:=.agg (Yq 5)) (by simp[results,results80,go_sem,y0,y1,y2,y3,y4,y5,y6,y7,y8,y9,O,P]) rfl ?_;exact⟨u.o.trans (Tn.below (Bh wr (w.heap.size+1) _ _ _ _ _ _ _ _ _ _ _ _) u.o.size (by intro v S;simp at S;omega)),.inl ⟨C.o,rfl⟩⟩
theorem Iu(w:Zh)(base:Nat)(v:Value)(a:List Pd)(t:w.ownsRow base 137 2 v a.length (Ab pC a))(x:Pd)(s:a.length<=1000000)(i:base<=w.heap.size)(k:TypeId):
 ∃g b d,(Builtin.append_ #[37,37] k #[v,Za w.heap.size 1 1]).run prog (w.alloc (.cells #[.string x.name,.string x.sum] 137))=.ok (Za g (a.length+1) b) d/\d.ownsRow base 137 2 (Za g (a.length+1) b) (a++[x]).length (Ab pC (a++[x]))/\w.grownBy d v.ownBlock/\(v.ownBlock=some g∨g=w.heap.size+1):=by
 obtain⟨z,r,m,n,o⟩:=info_parts Gy;have l:=Ae t ((Below.refl _ _).alloc (Zx) (.cells #[.string x.name,.string x.sum] 137));have q:∀j u,(Ab pC [x])[j]?=some u->(w.alloc (.cells #[.string x.name,.string x.sum] 137)).cell? ((⟨w.heap.size,0,none⟩:Addr).add j)=some u:=by intro j u f;rw[Go.WideShapes.add_plain,Nat.zero_add];exact(Aa.new w [.string x.name,.string x.sum] 137 j u (by simpa [Ab,pC]using f)).1
 obtain⟨A,d,y,h,p,_,c⟩:=run_append_own_at (P:=prog) (w.alloc (.cells #[.string x.name,.string x.sum] 137)) base 37 k 137 z _ 2 32 underlying37 r m n o rfl (by decide) v a.length (Ab pC a) l ⟨w.heap.size,0,none⟩ 1 1 (Ab pC [x]) (by simp[Ab,pC]) q (by intro u f;simp[Ab,pC]at f;rcases f with rfl|rfl<;>rfl) (by unfold maxLen;omega) (by omega) (by simp;omega)
 obtain⟨g,b,rfl,_,_⟩:=Cf h (fun e=>by subst e;rcases h.2 with⟨_,s⟩|⟨_,_,_,e,_⟩<;>first|omega|cases e);refine⟨g,b,d,y,?_,(World.grownBy_alloc w _ _).trans p,?_⟩
 ·rw[Hz,List.length_append];exact h
 ·rcases c with c|c
  ·exact .inl c.symm
  ·right;simpa [Value.ownBlock]using c
theorem OZ{a:List Pd}{k:Nat}{x:Pd}(n:Zi)(c:a[k]?=some x):AY (a.take (k+1)) n=AY (a.take k) n++(if x.name=n then []else [x]):=by obtain⟨b,rfl⟩:=Zw c;unfold AY;rw[Zu b,List.filter_append];by_cases h:a[k].name=n<;>simp[h]
theorem KO(a:List Pd)(n:Zi):(AY a n).length=a.length↔¬∃x∈a,x.name=n:=by unfold AY;rw[List.length_filter_eq_length_iff];simp
def PW(w w':Zh)(e:Ending)(wd now given ae:Int)(T P:Value)(ls:List Pd)(n:Zi):Prop:=
 Below w.heap.size w w'/\(((¬∃x∈ls,x.name=n)/\e=.returned (.agg #[Zg 5,Zf,Zf,Zf,Zf,Zc,Zc,Zc,Zd,Zf,Zd,Zd]))∨
  ((∃x∈ls,x.name=n)/\∃g c,e=.returned (.agg #[Zf,Zg wd,Zg now,Zg given,Zg ae,T,.slice (some ⟨g,0,none⟩) (AY ls n).length c,P,Zd,Zf,Zd,Zd])/\w'.ownsRow w.heap.size 137 2 (.slice (some ⟨g,0,none⟩) (AY ls n).length c) (AY ls n).length (Ab pC (AY ls n))))
theorem Pa(p d given ae:Int)(m h A:Zk)(tn o l j E:Nat)(a:List Pd)(n:Zi)(w:Zh)(s:AS w w.heap.size A a)(hl:a.length<=1000):
 Calls prog 77 #[.agg (Ys p d given ae m tn o A a.length E h l j),.string n] w fun e w'=>PW w w' e p d given ae (.slice m tn o) (.slice h l j) a n:=by
 obtain⟨W,y⟩:∃W,W=(w.alloc (.cells (Ys p d given ae m tn o A a.length E h l j) 40)).alloc (.cells Yr 82):=⟨_,rfl⟩;have bW:=(AW y).1;have N:=(AW y).2.1;have x0:=(AW y).2.2.1;have x1:Aa W (w.heap.size+1) z12:=by have h1:=Aa.new (w.alloc (.cells (Ys p d given ae m tn o A a.length E h l j) 40)) z12 82;rw[World.size_alloc]at h1;rw[y];exact h1
 have S:Hid (∀X,Below (w.heap.size+2) W X->Aa X w.heap.size (Yt p d given ae m tn o A a.length E h l j)/\Aa X (w.heap.size+1) z12):=fun X hX=>⟨Aa.same x0 (hX.block _ (by omega)),Aa.same x1 (hX.block _ (by omega))⟩;have HW:=Yx y;have zH:Hid (W.heap.size=w.heap.size+2):=N;have t:w.heap.size+2<=W.heap.size:=by omega
 have HR:Hid (AS w w.heap.size A a):=s;have zA:Hid (Zz w W):=bW;have bA:Below W.heap.size W (W.alloc (.cells #[] 137)):=Zy;have G:Hid ((W.alloc (.cells #[] 137)).ownsRow (w.heap.size+2) 137 2 (Za W.heap.size 0 0) 0 []):=World.ownsRow_lit (base:=w.heap.size+2) (e:=137) (size:=2) W #[] 0 (by omega) (by unfold maxLen;omega) rfl
 have F:Hid (Below (w.heap.size+2) W (W.alloc (.cells #[] 137))):=bA.mono t;clear y N x0 x1 s bW bA;go_enter func77,ntmps77;go_upto_region 1 with fail;rw[←HW.o];clear HW;go_wp2
 go_loopw [5,6] (fun v i wr=>∃(k g c:Nat),k<=a.length/\i=Zg k/\v=Za g (AY (a.take k) n).length c/\Hid (wr.ownsRow (w.heap.size+2) 137 2 (Za g (AY (a.take k) n).length c) (AY (a.take k) n).length (Ab pC (AY (a.take k) n))/\Below (w.heap.size+2) W wr)) (fun _ i _=>a.length -(intOf i).toNat)
 case atStart=>exact⟨0,W.heap.size,0,Nat.zero_le _,rfl,by simp[AY],⟨by simpa [AY,Ab]using G.o,F.o⟩⟩
 case round=>
  clear G F;obtain⟨k,g,c,hk,rfl,rfl,b⟩:=hrel;have f:Below w.heap.size w wr:=zA.o.trans (b.o.2.mono (by omega));have O:w.heap.size+2<=wr.heap.size:=Zm t b.o.2.size;obtain⟨v0,v1,v2,v3,v4,v5,v6,v7⟩:=Bw (S.o _ b.o.2).1;by_cases hlt:k<a.length
  ·obtain⟨b',zJ,ha,hb,I⟩:=(AS.below HR.o f).at hlt;subst ha;have Z:Hid (a[k]?=some a[k]):=Zv hlt;obtain⟨c0,c1⟩:=I k _ Z.o;have H:=Yx (OZ n Z.o);have zI:(AY (a.take k) n).length<=1000:=by have:=List.length_filter_le (fun x:Pd=> !decide (x.name=n)) (a.take k);unfold AY;rw[List.length_take]at this;omega
   clear I;generalize a[k]=x at *
   generalize hGk:AY (a.take k) n=gk at *
   have zG:=Yx hGk;clear hGk;by_cases hxn:x.name=n
   ·have z:(x.name.toList !=n.toList)=false:=by rw[hxn];simp
    have L:(x.name.toList==n.toList)=true:=by rw[hxn];simp
    have B:Hid (AY (a.take (k+1)) n=gk):=by show _=_;rw[H.o,if_pos hxn,List.append_nil]
    clear hxn;go_wp2;exact⟨⟨k+1,g,c,by omega,by go_num,by rw[B.o],⟨by rw[B.o];exact b.o.1,b.o.2⟩⟩,by simp[intOf];omega⟩
   ·have L:(x.name.toList==n.toList)=false:=BP hxn;have z:(x.name.toList !=n.toList)=true:=by simp[bne,L]
    have B:Hid (AY (a.take (k+1)) n=gk++[x]):=by show _=_;rw[H.o,if_neg hxn]
    clear hxn;obtain⟨g8,r,U,M,K,J,zC⟩:=Iu wr (w.heap.size+2) _ gk b.o.1 x (by omega) O 37;have b8:Below (w.heap.size+2) wr U:=(Below.refl _ _).grown J O (fun q e=>(Ac b.o.1 e).1);have Y:Hid (U.ownsRow (w.heap.size+2) 137 2 (Za g8 (gk.length+1) r) (gk++[x]).length (Ab pC (gk++[x]))/\Below (w.heap.size+2) W U):=⟨K,b.o.2.trans b8⟩;have zF:b'<wr.heap.size:=by have:=f.size;omega
    clear K J zC b8;go_wp2_with (at_builtin;refine wpList_append_run rfl _ _ 37 37 rfl rfl rfl M ?_);clear M c0 c1 v0 v1 v2 v3 v4 v5 v6;go_wp2;exact⟨⟨k+1,g8,r,by omega,by go_num,by rw[B.o,List.length_append];rfl,⟨by rw[B.o,List.length_append];exact List.length_append▸Y.o.1,Y.o.2⟩⟩,by simp[intOf];omega⟩
  ·obtain rfl:k=a.length:=by omega
   have D:=b.o.1;rw[Zt (Zx)]at D ⊢;have R:=Yx D;have u:Hid (Zz w wr):=f;obtain⟨⟨y0,q0⟩,⟨y1,q1⟩,⟨y2,q2⟩,⟨y3,q3⟩,⟨y4,q4⟩,⟨y5,q5⟩,⟨y6,q6⟩,⟨y7,q7⟩,⟨y8,q8⟩,⟨y9,q9⟩,⟨P,zK⟩,Q,zM⟩:=AT (S.o _ b.o.2).2;have f6:=((S.o _ b.o.2).1 5 _ rfl).2;by_cases hex:∃x∈a,x.name=n
   ·have zE:¬(AY a n).length=a.length:=fun e=>(KO a n).1 e hex;have z:(((AY a n).length:Int)==(a.length:Int))=false:=by simp;omega
    have C:Hid (∃x∈a,x.name=n):=hex;clear zE hex D f b;go_wp2;refine bodyPost_ret (v:=.agg #[Zf,Zg p,Zg d,Zg given,Zg ae,.slice m tn o,Za g (AY a n).length c,.slice h l j,Zd,Zf,Zd,Zd]) (by simp[results,results77,go_sem,y0,y1,y2,y3,y4,y5,y6,y7,y8,y9,P,Q]) rfl ?_
    have T':=(Tn.set (V:=[w.heap.size,w.heap.size+1]) wr w.heap.size 5 (Za g (AY a n).length c) (by simp)).trans (Tn.mono (Bh (wr.setCell (Ze (w.heap.size) 5) (Za g (AY a n).length c)) (w.heap.size+1) Zf (Zg p) (Zg d) (Zg given) (Zg ae) (.slice m tn o) (Za g (AY a n).length c) (.slice h l j) Zd Zf Zd Zd) (by simp))
    exact⟨u.o.trans (T'.below u.o.size (by intro v T;simp at T;omega)),.inr ⟨C.o,g,c,rfl,(Ai R.o (fun q z=>T'.block q (Ac R.o z).2 (by have:=(Ac R.o z).1;simp;omega))).mono (by omega)⟩⟩
   ·have zB:(AY a n).length=a.length:=(KO a n).2 hex;have z:(((AY a n).length:Int)==(a.length:Int))=true:=by simp;omega
    have C:Hid (¬∃x∈a,x.name=n):=hex;clear zB hex D f b;go_wp2;refine bodyPost_ret (v:=.agg (Yq 5)) (by simp[results,results77,go_sem,y0,y1,y2,y3,y4,y5,y6,y7,y8,y9,P,Q]) rfl ?_;exact⟨u.o.trans (Tn.below (Bh wr (w.heap.size+1) _ _ _ _ _ _ _ _ _ _ _ _) u.o.size (by intro v T;simp at T;omega)),.inl ⟨C.o,rfl⟩⟩
theorem JC(base d m:Nat)(O P L:Value)(h q given ae:Int)(a:List Kd)(x:List Pd)(u:List Ld)(s:Zi)(w:Zh)(g:Dr w base d m O P L h q given ae a x u)(o:∀k∈a,(k.sum.size:Int)=h)(p:¬Ax a s):
 Calls prog 201 #[Yz d,.string s] w fun e y=>e=.panicked [{v:=ay 2 ⟨#[]⟩ ⟨#[]⟩,recovered:=false}]/\Zz w y:=by
 obtain⟨n,f,B,j,i⟩:=g.map;obtain⟨ok,c,b⟩:=IV h m n f a w w.heap.size s w j i.holds o;have t:ok=false:=by
  cases ok with
  |false=>rfl
  |true=>exact absurd (c.1 rfl) p
 subst t;obtain⟨z,A⟩:=Aa.c2 g.box 0 1;have r:=Yx (b w (Below.refl _ _));clear g j i c b;go_enter func201,ntmps201;go_wp2_with fail;refine Calls.mono r.o ?_;rintro e C ⟨rfl,l⟩;go_wp2;exact⟨rfl,rfl,l⟩
theorem NQ(base d m:Nat)(O P L:Value)(i g given ae:Int)(b:List Kd)(l:List Pd)(j:List Ld)(s:Zi)(a:Int)(w:Zh)(h:DU w base d m O P L i g given ae b l j)(c:∀k∈b,(k.sum.size:Int)=i)(f:¬Ax b s):
 Calls prog 174 #[Yz d,.string s,Zg a] w fun e o=>e=.panicked [{v:=ay 2 ⟨#[]⟩ ⟨#[]⟩,recovered:=false}]/\Zz w o:=by
 have HN:=Yx (JC base d m O P L i g given ae b l j s w h.dr c f);clear h c f;go_enter func174,ntmps174;go_wp2_with fail;refine Calls.mono HN.o ?_;rintro e p ⟨rfl,n⟩;go_wp2;exact⟨rfl,rfl,n⟩
theorem Ml(base d m:Nat)(O P L:Value)(p o given ae:Int)(j:List Kd)(q:List Pd)(f:List Ld)(s:Zi)(g:Int)(w:Zh)(h:DU w base d m O P L p o given ae j q f)(l:∀k∈j,(k.sum.size:Int)=p)(n:Ax j s)(a:f.length=200∨given=1000000000):
 Calls prog 174 #[Yz d,.string s,Zg g] w fun e u=>e=.panicked [{v:=ay 4 ⟨#[]⟩ ⟨#[]⟩,recovered:=false}]/\Zz w u:=by
 have HN:=Yx (Em base d m O P L p o given ae j q f s w h.dr l n);obtain⟨A,z,r⟩:=As h.dr.ck;subst r;have i:=Yx h;clear h l n;by_cases h1:f.length=200
 ·have t:((f.length:Int)==200)=true:=by simp;omega
  clear a h1;go_enter func174,ntmps174;go_wp2_with fail;refine Calls.mono HN.o ?_;rintro e x ⟨rfl,c⟩;have b:=i.o.below c;obtain⟨c3,c7⟩:=Aa.c2 b.dr.box 3 7;clear b i HN;go_wp2;exact⟨rfl,rfl,c⟩
 ·have t:((f.length:Int)==200)=false:=by simp;omega
  have y:(given==1000000000)=true:=by
   rcases a with h|h
   ·exact absurd h h1
   ·rw[h];rfl
  clear a h1;go_enter func174,ntmps174;go_wp2_with fail;refine Calls.mono HN.o ?_;rintro e x ⟨rfl,c⟩;have b:=i.o.below c;obtain⟨c3,c7⟩:=Aa.c2 b.dr.box 3 7;clear b i HN;go_wp2;exact⟨rfl,rfl,c⟩
theorem SD(base d m:Nat)(O P L:Value)(t b given ae:Int)(p:List Kd)(r:List Pd)(q:List Ld)(a:Int)(w:Zh)(h:DU w base d m O P L t b given ae p r q)(k:0<=b)(l:b<=1000000000)(n:0<=a)(o:a<=1000000000)(x:1000000000<b+a):
 Calls prog 178 #[Yz d,Zg a] w fun e s=>e=.panicked [{v:=ay 4 ⟨#[]⟩ ⟨#[]⟩,recovered:=false}]/\Zz w s:=by
 obtain⟨W,c⟩:∃W,W=w.alloc (.cells #[Yz d] 141):=⟨_,rfl⟩;have g:=(AG c).1;have j:=(AG c).2.2;have i:=h.below g;have f:=Yx c;have u:=GO k l n o;obtain⟨y,_⟩:=j 0 _ rfl;obtain⟨c2,_⟩:=i.dr.box 2 _ rfl;clear h i c j;go_enter func178,ntmps178;go_upto_region 1 with fail;rw[←f.o];clear f;go_wp2;exact⟨rfl,rfl,g⟩
theorem KP(a:Zk)(b:Nat)(n:Int)(w:Zh):
 Calls prog 207 #[.slice a 0 b,Zg n,.func (.func 208) #[] #[]] w fun e c=>e=.returned (.tuple #[Zf,.bool false])/\Zz w c:=by
 go_enter func207,ntmps207;go_wp2
 go_loopw [9,10] (fun i j wr=>i=Zg 0/\j=Zg 0/\wr=w) (fun _ _ _=>0)
 case atStart=>exact⟨rfl,rfl,rfl⟩
 case round=>
  obtain⟨rfl,rfl,rfl⟩:=hrel;go_wp2
  go_ret2
  exact⟨by first|rfl|simp[Act.put],Below.refl _ _⟩
theorem MI(a:Zk)(b:Nat)(n:Zi)(w:Zh):
 Calls prog 224 #[.slice a 0 b,.string n,.func (.func 225) #[] #[]] w fun e c=>e=.returned (.tuple #[Zf,.bool false])/\Zz w c:=by
 go_enter func224,ntmps224;go_wp2
 go_loopw [9,10] (fun i j wr=>i=Zg 0/\j=Zg 0/\wr=w) (fun _ _ _=>0)
 case atStart=>exact⟨rfl,rfl,rfl⟩
 case round=>
  obtain⟨rfl,rfl,rfl⟩:=hrel;go_wp2
  go_ret2
  exact⟨by first|rfl|simp[Act.put],Below.refl _ _⟩
theorem Wj(base:Nat)(L:Value)(c:List Ld)(n:Int)(w:Zh)(f:w.ownsRow base 139 3 L c.length (Ab lC c))(o:c.length<=600)(d:c.Pairwise (fun a b=>a.num<b.num)):
 Calls prog 207 #[L,Zg n,.func (.func 208) #[] #[]] w fun e k=>∃i:Nat,e=.returned (.tuple #[Zg i,.bool (decide (∃x,c[i]?=some x/\x.num=n))])/\Jb c n i/\Zz w k:=by
 rcases f.2 with⟨rfl,q⟩|⟨g,l,r,rfl,_⟩
 ·have:c=[]:=List.eq_nil_of_length_eq_zero q;subst this;refine(KP none 0 n w).mono ?_;rintro e k ⟨rfl,m⟩;exact⟨0,by simp,⟨Zx,fun j x h=>by omega,fun j x _ p=>by simp at p⟩,m⟩
 ·exact Hg g l c n w base f o d
theorem Wk(base:Nat)(P:Value)(c:List Pd)(n:Zi)(w:Zh)(f:w.ownsRow base 137 2 P c.length (Ab pC c))(o:c.length<=600)(d:c.Pairwise (fun a b=>less a.name b.name=true)):
 Calls prog 224 #[P,.string n,.func (.func 225) #[] #[]] w fun e k=>∃i:Nat,e=.returned (.tuple #[Zg i,.bool (decide (∃x,c[i]?=some x/\x.name=n))])/\Dx c n i/\Zz w k:=by
 rcases f.2 with⟨rfl,q⟩|⟨g,l,r,rfl,_⟩
 ·have:c=[]:=List.eq_nil_of_length_eq_zero q;subst this;refine(MI none 0 n w).mono ?_;rintro e k ⟨rfl,m⟩;exact⟨0,by simp,⟨Zx,fun j x h=>by omega,fun j x _ p=>by simp at p⟩,m⟩
 ·exact IL g l c n w base f o d
theorem Wl(base d m:Nat)(O P L:Value)(z q given ae:Int)(t:List Kd)(u:List Pd)(g:List Ld)(n:Int)(w:Zh)(h:DU w base d m O P L z q given ae t u g)(B:g.length<=200)(c:g.Pairwise (fun a b=>a.num<b.num))(k:¬∃x∈g,x.num=n):
 Calls prog 177 #[Yz d,Zg n] w fun e y=>e=.panicked [{v:=ay 5 ⟨#[]⟩ ⟨#[]⟩,recovered:=false}]/\Zz w y:=by
 have l:=Yx (Wj base L g n w h.dr.ck (by omega) c);obtain⟨C,A,o⟩:=As h.dr.ck;subst o;have j:=Yx k;obtain⟨c7,_⟩:=h.dr.box 7 _ rfl;clear h c k;go_enter func177,ntmps177;go_wp2_with fail;refine Calls.mono l.o ?_;rintro e D ⟨i,rfl,_,p⟩;have f:decide (∃x,g[i]?=some x/\x.num=n)=false:=by rw[decide_eq_false_iff_not];rintro⟨x,s,r⟩;exact j.o ⟨x,Zs s,r⟩
 rw[f];clear f l j c7;go_wp2;exact⟨rfl,rfl,p⟩
theorem Jg(base d m:Nat)(O P L:Value)(v q given ae:Int)(s:List Kd)(f:List Pd)(t:List Ld)(n:Zi)(w:Zh)(h:DU w base d m O P L v q given ae s f t)(z:f.length<=200)(c:f.Pairwise (fun a b=>less a.name b.name=true)):
 Calls prog 204 #[Yz d,.string n] w fun e u=>∃i:Nat,e=.returned (.tuple #[Zg i,.bool (decide (∃x,f[i]?=some x/\x.name=n))])/\Dx f n i/\Zz w u:=by
 have r:=Yx (Wk base P f n w h.dr.ci (by omega) c);obtain⟨A,y,l⟩:=As h.dr.ci;subst l;obtain⟨c6,_⟩:=h.dr.box 6 _ rfl;clear h c;go_enter func204,ntmps204;go_wp2_with fail;refine Calls.mono r.o ?_;rintro e B ⟨i,rfl,p,o⟩;obtain⟨j,g⟩:∃j,decide (∃x,f[i]?=some x/\x.name=n)=j:=⟨_,rfl⟩;have k:=Yx g;rw[g];clear g;go_wp2
 go_ret2
 exact⟨i,by rw[k.o];rfl,p,o⟩
theorem Uy(base d m:Nat)(O P L:Value)(r l given ae:Int)(p:List Kd)(g:List Pd)(q:List Ld)(n:Zi)(w:Zh)(h:DU w base d m O P L r l given ae p g q)(t:g.length<=200)(c:g.Pairwise (fun a b=>less a.name b.name=true))(k:¬∃x∈g,x.name=n):
 Calls prog 176 #[Yz d,.string n] w fun e z=>e=.panicked [{v:=ay 5 ⟨#[]⟩ ⟨#[]⟩,recovered:=false}]/\Zz w z:=by
 have o:=Yx (Jg base d m O P L r l given ae p g q n w h t c);have j:=Yx k;clear h c k;go_enter func176,ntmps176;go_wp2_with fail;refine Calls.mono o.o ?_;rintro e A ⟨i,rfl,_,s⟩;have f:decide (∃x,g[i]?=some x/\x.name=n)=false:=by rw[decide_eq_false_iff_not];rintro⟨x,y,u⟩;exact j.o ⟨x,Zs y,u⟩
 rw[f];clear f o j;go_wp2;exact⟨rfl,rfl,s⟩
end Go.Proofs.YtlhhpofjkgmbeaaGreatDoor
