import Derived.Test.YtpekbmegopfhfaaGreatDoorK09
set_option maxRecDepth 100000
set_option maxHeartbeats 16000000
namespace Go.Proofs.YtpekbmegopfhfaaGreatDoor
open Go.ChangeShapes Go.WideShapes Go.ChangeAt Go.RowKit _root_.Go.Proofs.Tryz
theorem Ra (k:Nat):∀v∈(Builtin.zeroCells #[XK,XM,XK] k).toList,v.oneCell'=true:=by
 intro v hv;simp only[Builtin.zeroCells,Array.toList_map,List.mem_map] at hv;obtain⟨i,_,rfl⟩:=hv;have h3:i%3=0∨i%3=1∨i%3=2:=by omega
 show(#[Value.int .i64 0,XM,XK][i%3]!).oneCell'=true;rcases h3 with h|h|h<;>rw[h]<;>rfl
theorem Jo (w:World) (ty:TypeId) (b o k c:Nat) (hk:0<k) (hc:∀j,j<k *3->(w.cell? (XL b (o+j))).isSome=true) (hf:∀j,j<k *3->w.frozen? ⟨b,o+j,none⟩=false):
 (Builtin.clear_ #[26] ty #[.slice (some ⟨b,o,none⟩) k c]).run prog w=.ok (.tuple #[]) (w.setCells b o (Builtin.zeroCells #[XK,XM,XK] k).toList):=by
 have hl:(Builtin.zeroCells #[XK,XM,XK] k).toList.length=k *3:=by rw[Array.length_toList,size_zeroCells];rfl
 have zA:=run_storeCells_cells (P:=prog) b o (Builtin.zeroCells #[XK,XM,XK] k).toList 0 w (by rw[hl];simpa using hc) (by rw[hl];simpa using hf) (Ra k);simp only[Nat.add_zero] at zA;have zB:=Lb;have zC:(Value.agg #[XK,XM,XK]).cells= #[XK,XM,XK]:=rfl;obtain⟨k',rfl⟩:∃k',k=k'+1:=⟨k -1,by omega⟩;simp[Builtin.clear_,run_underlying underlying26,zB,zC,zA]
theorem ST {w:World} {base g cap n:Nat} {ls:List Ld} (h:w.ownsRow base 137 3 (.slice (some ⟨g,0,none⟩) n cap) n (Ab lC ls)) {i:Nat} (hi:i<ls.length) (y:Ld):(((w.setCell (XL g (i *3)) (XJ y.num)).setCell (XL g (i *3+1)) (.string y.sum)).setCell (XL g (i *3+2)) (XJ y.til)).ownsRow base 137 3 (.slice (some ⟨g,0,none⟩) n cap) n (Ab lC (ls.set i y)):=by
 have h1:=(h.stored (i *3) (XJ y.num)).1;have h2:=(h1.stored (i *3+1) (.string y.sum)).1;have h3:=(h2.stored (i *3+2) (XJ y.til)).1;rw[Jn hi y] at h3;exact h3
structure EQ (ls cur:List Ld) (n:Int) (i j:Nat):Prop where
 len:cur.length=ls.length
 kept:cur.take i=AG (ls.take j) n
 rest:cur.drop j=ls.drop j
 lt:i<j
 le:j<=ls.length
theorem EQ.start {ls:List Ld} {n:Int} {i:Nat} {x:Ld} (hx:ls[i]?=some x) (ht:x.til<=n) (hb:∀j y,j<i->ls[j]?=some y->n<y.til):EQ ls ls n i (i+1):=by
 have zB:=(XC hx).1;obtain⟨_,e⟩:=XC hx;refine⟨rfl,?_,rfl,by omega,by omega⟩;unfold AG;rw[XE zB,List.filter_append,e];have h1:(ls.take i).filter (fun x=> !decide (x.til<=n))=ls.take i:=List.filter_eq_self.2 (fun y hy=>by
  obtain⟨j,hj⟩:=List.getElem?_of_mem hy;have zA:=(XC hj).1;rw[List.length_take] at zA;have:=hb j y (by omega) (by rw[List.getElem?_take_of_lt (by omega)] at hj;exact hj);simp;omega)
 rw[h1];simp[ht]
theorem EQ.at {ls zA:List Ld} {n:Int} {i j:Nat} (h:EQ ls zA n i j) (hj:j<ls.length):zA[j]?=some ls[j]:=by
 have:=congrArg (fun l=>l[0]?) h.rest;simp only[List.getElem?_drop,Nat.add_zero] at this;rw[this,XD hj]
theorem EQ.skip {ls zA:List Ld} {n:Int} {i j:Nat} (h:EQ ls zA n i j) (hj:j<ls.length) (ht:ls[j].til<=n):EQ ls zA n i (j+1):=by
 refine⟨h.len,?_,?_,by have:=h.lt;omega,by omega⟩
 ·rw[h.kept]
  unfold AG;rw[XE hj,List.filter_append];simp[ht]
 ·have:=congrArg (List.drop 1) h.rest
  rw[List.drop_drop,List.drop_drop] at this;exact this
theorem EQ.move {ls zB:List Ld} {n:Int} {i j:Nat} (h:EQ ls zB n i j) (hj:j<ls.length) (ht:n<ls[j].til):EQ ls (zB.set i ls[j]) n (i+1) (j+1):=by
 have zF:=h.lt;have zA:=h.len;have zC:i<zB.length:=by omega
 refine⟨by rw[List.length_set];exact zA,?_,?_,by omega,by omega⟩
 ·have zE:¬ls[j].til<=n:=by omega
  rw[XE (by rw[List.length_set];exact zC),List.take_set_of_le (XB),h.kept,List.getElem_set_self];unfold AG;rw[XE hj,List.filter_append];simp[zE]
 ·have:=congrArg (List.drop 1) h.rest
  rw[List.drop_drop,List.drop_drop] at this;rw[List.drop_set_of_lt (by omega)];exact this
theorem EQ.done {ls zA:List Ld} {n:Int} {i:Nat} (h:EQ ls zA n i ls.length):zA.take i=AG ls n/\(AG ls n).length=i:=by
 have h1:=h.kept;rw[XF (XB)] at h1;refine⟨h1,?_⟩;rw[←h1,List.length_take];have:=h.lt;have:=h.len;omega
theorem Kx (g cap base b d:Nat) (n:Int) (ls:List Ld) (w:World) (ho:w.ownsRow base 137 3 (.slice (some ⟨g,0,none⟩) ls.length cap) ls.length (Ab lC ls)) (hl:ls.length<=200) (hc:w.cell? (XL b 0)=some (.pointer (some ⟨d,0,none⟩))) (hn:w.cell? (XL d 2)=some (XJ n)) (yI:b≠g) (yH:d≠g):
 Calls prog 208 #[.slice (some ⟨g,0,none⟩) ls.length cap,.func (.func 209) #[] #[.pointer (some ⟨b,0,none⟩)]] w fun e w'=>e=.returned (.slice (some ⟨g,0,none⟩) (AG ls n).length cap)/\w'.ownsRow base 137 3 (.slice (some ⟨g,0,none⟩) (AG ls n).length cap) (AG ls n).length (Ab lC (AG ls n))/\w.grownBy w' (some g):=by
 have zR:ls.length<=cap/\cap<=maxLen:=by
  rcases ho.2 with⟨e,_⟩|⟨g',yM,zA,e,hb,hg,h1,h2,h3,h4⟩
  ·cases e
  ·cases e;exact⟨h1,h2⟩
 obtain⟨yR,yL⟩:=zR;unfold maxLen at yL;have HX:Hid _:=HJ (some ⟨g,0,none⟩) cap b d n ls w (AR.own ho) (by omega) hc hn;have HO:Hid (w.ownsRow base 137 3 (.slice (some ⟨g,0,none⟩) ls.length cap) ls.length (Ab lC ls)):=ho
 have HC:Hid (∀X,w.grownBy X (some g)->X.cell? (XL b 0)=some (.pointer (some ⟨d,0,none⟩))/\X.cell? (XL d 2)=some (XJ n)):=fun X hX=>⟨hX.cell hc (fun e=>yI (Option.some.inj e)),hX.cell hn (fun e=>yH (Option.some.inj e))⟩;clear ho hc hn yI yH;go_enter func208,ntmps208;go_wp2_with fail;refine Calls.mono HX.o ?_;rintro e w1 ⟨r,rfl,hr,zM⟩
 have zN:Hid (w1.ownsRow base 137 3 (.slice (some ⟨g,0,none⟩) ls.length cap) ls.length (Ab lC ls)):=Ad HO.o zM;have zY:Hid (w.grownBy w1 (some g)):=Ax _ zM;clear zM HX HO;rcases hr with⟨rfl,zE⟩|⟨i,x,rfl,zZ,yE,yD⟩
 ·have HE:Hid (AG ls n=ls):=List.filter_eq_self.2 (fun y hy=>by have:=zE y hy;simp;omega)
  clear zE;go_wp2;go_ret;rw[HE.o];exact⟨rfl,zN.o,zY.o⟩
 ·have HM:Hid (EQ ls ls n i (i+1)):=EQ.start zZ yE yD
  have yU:((i:Int)== -1)=false:=by simp
  have zP:i<ls.length:=(XC zZ).1;clear zZ yE yD;go_wp2
  go_loopw [5,6] (fun vi vj wr=>∃(ii jj:Nat) (zA:List Ld),vi=XJ ii/\vj=XJ jj/\ii<jj/\jj<=ls.length/\Hid (EQ ls zA n ii jj/\wr.ownsRow base 137 3 (.slice (some ⟨g,0,none⟩) ls.length cap) ls.length (Ab lC zA)/\w.grownBy wr (some g))) (fun _ j _=>ls.length -(intOf j).toNat)
  case atStart=>exact⟨i,i+1,ls,rfl,by go_num,by omega,by omega,HM.o,zN.o,zY.o⟩
  case round=>
   clear HM zN zY zP;obtain⟨ii,jj,zA,rfl,rfl,yS,yQ,HI⟩:=hrel;by_cases hlt:jj<ls.length
   ·have HG:Hid (zA[jj]?=some ls[jj]):=HI.o.1.at hlt
    have zT:Hid (ls[jj].til<=n->EQ ls zA n ii (jj+1)):=fun h=>HI.o.1.skip hlt h;have zV:Hid (n<ls[jj].til->EQ ls (zA.set ii ls[jj]) n (ii+1) (jj+1)):=fun h=>HI.o.1.move hlt h;have yF:zA.length=ls.length:=HI.o.1.len;generalize ls[jj]=x at *
    have zH:∀k,k<3->wr.cell? (XL g (jj *3+k))=(lC x)[k]?:=fun k hk=>(HI.o.2.1.cellAt (jj *3+k) (by omega)).trans (Bl Cf HG.o hk);have c0:wr.cell? (XL g (jj *3))=some (XJ x.num):=by simpa [lC] using zH 0 (by decide)
    have c1:wr.cell? (XL g (jj *3+1))=some (.string x.sum):=by simpa [lC] using zH 1 (by decide)
    have c2:wr.cell? (XL g (jj *3+2))=some (XJ x.til):=by simpa [lC] using zH 2 (by decide)
    obtain⟨W,hW⟩:∃W,W=wr.alloc (.cells #[XJ x.num,.string x.sum,XJ x.til] 137):=⟨_,rfl⟩;have bW:=(Aq hW).1;have zW:=(Aq hW).2.2;have HZ:Hid (Aa W _ _):=(Aq hW).2.2;have zK:w.grownBy W (some g):=Ap HI.o.2.2 (Ax _ bW);have zU:Hid (W.ownsRow base 137 3 (.slice (some ⟨g,0,none⟩) ls.length cap) ls.length (Ab lC zA)/\w.grownBy W (some g)):=⟨Ad HI.o.2.1 bW,zK⟩;obtain⟨yJ,yC⟩:=HC.o W zK
    have yK:=Lf x b d n W yJ yC;have HW:Hid _:=hW;have yP:(jj:Int)<ls.length:=by omega
    have yT:wr.heap.size<W.heap.size:=zW.lt;clear hW zH bW zW zK yJ yC HI;go_upto_region 8 with fail;rw[←HW.o];clear HW c0 c1 c2;obtain⟨z0,z1,z2⟩:=Aa.c3 HZ.o 0 1 2;go_wp2_with fail;refine yK.mono ?_;rintro e w2 ⟨rfl,zJ⟩;have zB:Hid (w2.ownsRow base 137 3 (.slice (some ⟨g,0,none⟩) ls.length cap) ls.length (Ab lC zA)/\w.grownBy w2 (some g)):=⟨Ad zU.o.1 zJ,Ap zU.o.2 (Ax _ zJ)⟩
    have yA:=Aa.below HZ.o zJ;clear z0 z1 z2 zJ zU yK HZ;by_cases ht:x.til<=n
    ·have hd:decide (x.til<=n)=true:=by simpa using ht
     have HS:Hid (EQ ls zA n ii (jj+1)):=zT.o ht;rw[hd];clear hd ht zT zV yA;go_wp2;exact⟨⟨ii,jj+1,zA,rfl,by go_num,by omega,by omega,HS.o,zB.o.1,zB.o.2⟩,by simp[intOf];omega⟩
    ·have hd:decide (x.til<=n)=false:=by simpa using ht
     have HS:Hid (EQ ls (zA.set ii x) n (ii+1) (jj+1)):=zV.o (Int.not_le.1 ht);have zP:ii<zA.length:=by omega
     have zF:=ST zB.o.1 zP x;have zI:∀o,w2.frozen? ⟨g,o,none⟩=false:=fun o=>zB.o.1.frozenAt o;have zG:∀k,k<3->∃v,w2.cell? (XL g (ii *3+k))=some v:=fun k hk=>⟨_,(zB.o.1.cellAt (ii *3+k) (by omega)).trans (XD (by rw[Bo Cf];omega))⟩;obtain⟨v0,s0⟩:=zG 0 (by decide);obtain⟨v1,s1⟩:=zG 1 (by decide);obtain⟨v2,s2⟩:=zG 2 (by decide);rw[Nat.add_zero] at s0;have q0:=zI (ii *3);have q1:=zI (ii *3+1)
     have q2:=zI (ii *3+2);have zC:Hid _:=And.intro zF (Ap zB.o.2 (Ap (Ap (Av w2 g (ii *3) (XJ x.num)) (Av _ g (ii *3+1) (.string x.sum))) (Av _ g (ii *3+2) (XJ x.til))));obtain⟨z0,z1,z2⟩:=Aa.c3 yA 0 1 2;have yO:(ii:Int)<ls.length:=by omega
     rw[hd];clear hd ht zT zV yA zF zG zI;go_wp2;exact⟨⟨ii+1,jj+1,zA.set ii x,by go_num,by go_num,by omega,by omega,HS.o,zC.o.1,zC.o.2⟩,by simp[intOf];omega⟩
   ·obtain rfl:jj=ls.length:=by omega
    obtain⟨zS,yG⟩:=HI.o.1.done;have yF:zA.length=ls.length:=HI.o.1.len;have HK:Hid ((AG ls n).length=ii/\zA.take ii=AG ls n):=⟨yG,zS⟩;have hO:=HI.o.2.1;have HG:Hid (w.grownBy wr (some g)):=HI.o.2.2;have hcut:wr.ownsRow base 137 3 (.slice (some ⟨g,0,none⟩) ii cap) ii (Ab lC (AG ls n)):=by
     rw[←zS];have yB:=hO;rw[←yF] at yB;exact Jl Cf yB ii (by omega)
    have zX:∀j,j<(ls.length -ii) *3->(wr.cell? (XL g (ii *3+j))).isSome=true/\wr.frozen? ⟨g,ii *3+j,none⟩=false:=fun j hj=>by
     refine⟨?_,hO.frozenAt _⟩;rw[hO.cellAt (ii *3+j) (by omega),XD (by rw[Bo Cf];omega)];rfl
    have yN:=Jo wr 0 g (ii *3) (ls.length -ii) (cap -ii) (by omega) (fun j hj=>(zX j hj).1) (fun j hj=>(zX j hj).2);have zO:Hid _:=hcut;have e1:ii<=ls.length:=by omega
    have e2:¬cap=ii:=by omega
    have e3:ii<=cap:=by omega
    clear zS yG hO hcut zX HI;go_wp2;go_ret;rw[HK.o.1];exact⟨rfl,Gg _ _ _ zO.o (XB),Ap HG.o (BM g _ _ _)⟩
theorem Ky (a:Option Addr) (cap b d:Nat) (n:Int) (w:World) (hc:w.cell? (XL b 0)=some (.pointer (some ⟨d,0,none⟩))) (hn:w.cell? (XL d 2)=some (XJ n)):
 Calls prog 208 #[.slice a 0 cap,.func (.func 209) #[] #[.pointer (some ⟨b,0,none⟩)]] w fun e w'=>e=.returned (.slice a 0 cap)/\Xz w w':=by
 have HX:Hid _:=HJ a cap b d n [] w (.inl rfl) (by simp) hc hn;go_enter func208,ntmps208;go_wp2_with fail;refine Calls.mono HX.o ?_;rintro e w1 ⟨r,rfl,hr,zA⟩;rcases hr with⟨rfl,_⟩|⟨i,x,_,zB,_⟩
 ·go_wp2
  go_ret;exact⟨rfl,zA⟩
 ·simp at zB
theorem NG (base b d:Nat) (L:Value) (n:Int) (ls:List Ld) (w:World) (ho:w.ownsRow base 137 3 L ls.length (Ab lC ls)) (hl:ls.length<=200) (hc:w.cell? (XL b 0)=some (.pointer (some ⟨d,0,none⟩))) (hn:w.cell? (XL d 2)=some (XJ n)) (zA:L.ownBlock≠some b) (zB:L.ownBlock≠some d):
 Calls prog 208 #[L,.func (.func 209) #[] #[.pointer (some ⟨b,0,none⟩)]] w fun e w'=>∃a c,e=.returned (.slice a (AG ls n).length c)/\w'.ownsRow base 137 3 (.slice a (AG ls n).length c) (AG ls n).length (Ab lC (AG ls n))/\w.grownBy w' L.ownBlock/\(Value.slice a (AG ls n).length c).ownBlock=L.ownBlock:=by
 rcases ho.2 with⟨rfl,hz⟩|⟨g,cap,zC,rfl,_⟩
 ·have:ls=[]:=List.eq_nil_of_length_eq_zero hz
  subst this;refine(Ky none 0 b d n w hc hn).mono ?_;rintro e w' ⟨rfl,hb⟩;exact⟨none,0,rfl,World.ownsRow_nil _ _ _ _,Ax _ hb,rfl⟩
 ·refine(Kx g cap base b d n ls w ho hl hc hn (fun e=>zA (by rw[e];rfl)) (fun e=>zB (by rw[e];rfl))).mono ?_
  rintro e w' ⟨rfl,h1,h2⟩;exact⟨_,_,rfl,h1,h2,rfl⟩
theorem SV (base d m:Nat) (O P L:Value) (wd now given births:Int) (ks:List Kd) (ps:List Pd) (ls:List Ld) (zA:Int) (w:World) (h:DU w base d m O P L wd now given births ks ps ls) (hl:ls.length<=200) (zU:0<=now) (zR:0<=zA) (hs:now+zA<=1000000000):
 Calls prog 173 #[.pointer (some ⟨d,0,none⟩),XJ zA] w fun e w'=>e=.returned (.tuple #[])/\∃L',DU w' base d m O P L' wd (now+zA) given births ks ps (AG ls (now+zA))/\Tn (d::L.ownBlock.toList) w w':=by
 obtain⟨la,zB,zS⟩:=Ay h.dr.lea;subst zS;have yA:=h.dr.box.lt;obtain⟨W,hW⟩:∃W,W=w.alloc (.cells #[.pointer (some ⟨d,0,none⟩)] 82):=⟨_,rfl⟩;have bW:=(Aq hW).1;have zW:=(Aq hW).2.2;have hD:=h.below bW;obtain⟨X,hX⟩:∃X,X=W.setCell (XL d 2) (XJ (now+zA)):=⟨_,rfl⟩;have tX:Tn [d] W X:=by rw[hX];exact DR _ _ _ _
 have zI:Aa X d [XJ wd,.map (some m),XJ (now+zA),XJ given,XJ births,O,P,.slice la ls.length zB]:=by rw[hX];exact hD.dr.box.set 2 _
 have zX:Aa X w.heap.size [.pointer (some ⟨d,0,none⟩)]:=Aa.same zW (tX.block _ zW.lt (by simp;omega));have zF:∀g,(Value.slice la ls.length zB).ownBlock=some g->g≠d:=fun g hg=>((CR h.dr.ap).2.2.2 g hg).1;have zP:X.ownsRow base 137 3 (.slice la ls.length zB) ls.length (Ab lC ls):=Ah hD.dr.lea (fun g hg=>tX.block g (Ac hD.dr.lea hg).2 (by simp;exact zF g hg))
 have zK:(Value.slice la ls.length zB).ownBlock≠some w.heap.size:=fun e=>by have:=(Ac h.dr.lea e).2;omega
 have zM:(Value.slice la ls.length zB).ownBlock≠some d:=fun e=>zF d e rfl
 have HF:Hid (∀Y,Xz X Y->Calls prog 208 #[.slice la ls.length zB,.func (.func 209) #[] #[.pointer (some ⟨w.heap.size,0,none⟩)]] Y fun e w'=>∃a c,e=.returned (.slice a (AG ls (now+zA)).length c)/\w'.ownsRow base 137 3 (.slice a (AG ls (now+zA)).length c) (AG ls (now+zA)).length (Ab lC (AG ls (now+zA)))/\Y.grownBy w' (Value.slice la ls.length zB).ownBlock/\(Value.slice a (AG ls (now+zA)).length c).ownBlock=(Value.slice la ls.length zB).ownBlock):=fun Y hY=>
  NG base w.heap.size d _ (now+zA) ls Y (Ad zP hY) hl ((Aa.below zX hY) 0 _ rfl).1 ((zI.below hY) 2 _ rfl).1 zK zM
 have HD:Hid (DU W base d m O P (.slice la ls.length zB) wd now given births ks ps ls):=hD;have zV:Hid (Xz w W):=bW;have zT:Hid (Tn [d] W X):=tX;have zH:Hid (Aa X d [XJ wd,.map (some m),XJ (now+zA),XJ given,XJ births,O,P,.slice la ls.length zB]):=zI;have zG:Hid (Aa X w.heap.size [.pointer (some ⟨d,0,none⟩)]):=zX;have HW:Hid _:=hW;have HX:Hid _:=hX;obtain⟨z0,_⟩:=zW 0 _ rfl
 obtain⟨c2,f2⟩:=hD.dr.box 2 _ rfl;have zY:IntKind.i64.wrap (now+zA)=now+zA:=Gh zU (by omega) zR (by omega);have zZ:¬(1000000000<now+zA):=by omega
 clear h bW zW hD hX hW tX zI zX zP;go_enter func173,ntmps173;go_upto_region 1 with fail;rw[←HW.o];clear HW;go_upto_region 4 with fail;rw[←HX.o];clear HX z0 c2 f2;have D0:Below X.heap.size X X.drew:=(Below.refl _ _).drew;obtain⟨z0,_⟩:=zG.o 0 _ rfl;obtain⟨c7,_⟩:=zH.o 7 _ rfl
 go_region_with (go_at_call 208;refine Calls.mono (HF.o X.drew D0) ?_;rintro e w2 ⟨va,vc,rfl,zO,zC,zJ⟩;have zE:Aa w2 d [XJ wd,.map (some m),XJ (now+zA),XJ given,XJ births,O,P,.slice la ls.length zB]:=Aa.same zH.o (zC.block d zH.o.lt (fun e=>zM e.symm));have zN:Aa w2 w.heap.size [.pointer (some ⟨d,0,none⟩)]:=Aa.same zG.o (zC.block w.heap.size zG.o.lt (fun e=>zK e.symm));obtain⟨g7,k7⟩:=zE 7 _ rfl;obtain⟨y0,_⟩:=zN 0 _ rfl)
 all_goals
  have hK:∃L',DU (w2.setCell (XL d 7) (.slice va (AG ls (now+zA)).length vc)) base d m O P L' wd (now+zA) given births ks ps (AG ls (now+zA))/\Tn (d::(Value.slice la ls.length zB).ownBlock.toList) w (w2.setCell (XL d 7) (.slice va (AG ls (now+zA)).length vc)):=by
   have t1:Tn (d::(Value.slice la ls.length zB).ownBlock.toList) W (w2.setCell (XL d 7) (.slice va (AG ls (now+zA)).length vc)):=
    ((zT.o.mono (by simp)).trans ((Tn.of D0).trans ((Cn zC).mono (fun b hb=>List.mem_cons_of_mem _ hb)))).trans ((DR w2 d 7 _).mono (by simp))
   exact⟨_,HD.o.newL t1 (zE.set 7 _) (Bh zO (fun b hb=>zF b (zJ▸hb)) 7 _) (.inl zJ),(Tn.of zV.o).trans t1⟩
  have HK:Hid _:=hK;clear hK zO zC zE zN z0 c7;go_wp2
  go_end0
  exact⟨rfl,HK.o⟩
theorem Pu (wd now given births:Int) (T:Value) (p l:Option Addr) (pc lc:Nat) (ps:List Pd) (ls:List Ld) (s:ByteArray) (w:World) (hp:AQ w w.heap.size p ps) (hl:AR w w.heap.size l ls) (zI:ps.length<=1000) (zH:ls.length<=1000):
 Calls prog 133 #[.agg #[XJ wd,XJ now,XJ given,XJ births,T,.slice p ps.length pc,.slice l ls.length lc],.string s] w fun e w'=>Ak ((∃p∈ps,p.sum=s)∨∃l∈ls,l.sum=s) w w' e:=by
 have zE:Hid _:=hp;have zF:Hid _:=hl;have hx:=AT.new w wd now given births T (.slice p ps.length pc) (.slice l ls.length lc) 28;have zB:Below w.heap.size w (w.alloc (.cells #[XJ wd,XJ now,XJ given,XJ births,T,.slice p ps.length pc,.slice l ls.length lc] 28)):=XA;obtain⟨W,hW⟩:∃W,W=w.alloc (.cells #[XJ wd,XJ now,XJ given,XJ births,T,.slice p ps.length pc,.slice l ls.length lc] 28):=⟨_,rfl⟩
 rw[←hW] at hx zB;have HW:Hid _:=hW;clear hp hl hW;obtain⟨q0,q1,q2,q3,q4,q5,q6,q7⟩:=hx;clear q0 q1 q2 q3 q4;go_enter func133,ntmps133;go_upto_region 1 with fail;rw[←HW.o];clear HW;go_wp2
 go_loop [5] (fun i=>∃k:Nat,k<=ps.length/\i=XJ k/\Hid (∀j x,j<k->ps[j]?=some x->¬x.sum=s)) (fun i=>ps.length -(intOf i).toNat)
 case atStart=>exact⟨0,Nat.zero_le _,rfl,(fun j x h=>by omega)⟩
 case round=>
  obtain⟨k,hk,rfl,zA⟩:=hrel;by_cases hlt:k<ps.length
  ·obtain⟨b,off,ha,hb,hc⟩:=(AQ.below zE.o zB).at hlt
   subst ha;have HG:Hid (ps[k]?=some ps[k]):=XD hlt;obtain⟨c0,c1⟩:=hc k _ HG.o;clear hc;generalize ps[k]=x at *
   by_cases h:x.sum=s
   ·have hq:(x.sum.toList==s.toList)=true:=by rw[h];simp
    have Hh:Hid _:=h;clear h;go_wp2;refine bodyPost_ret (results_tmp rfl _ _ _) rfl ?_;exact Ak.yes (.inl ⟨x,XG HG.o,Hh.o⟩) zB
   ·have hq:(x.sum.toList==s.toList)=false:=BJ h
    have HA:Hid (∀j y,j<k+1->ps[j]?=some y->¬y.sum=s):=by
     intro j y hj hy;rcases Nat.lt_or_ge j k with h'|h'
     ·exact zA.o j y h' hy
     ·obtain rfl:j=k:=by omega
      rw[HG.o] at hy;cases hy;exact h
    clear h;go_wp2;exact⟨⟨k+1,by omega,by go_num,HA⟩,by simp[intOf];omega⟩
  ·have zG:Hid (¬∃p∈ps,p.sum=s):=by
    rintro⟨y,hy,zC⟩;obtain⟨j,hj,rfl⟩:=List.getElem_of_mem hy;exact zA.o j _ (by omega) (XD hj) zC
   clear zA;go_wp2
   go_loop [6] (fun i=>∃k:Nat,k<=ls.length/\i=XJ k/\Hid (∀j x,j<k->ls[j]?=some x->¬x.sum=s)) (fun i=>ls.length -(intOf i).toNat)
   case atStart=>exact⟨0,Nat.zero_le _,rfl,(fun j x h=>by omega)⟩
   case round=>
    obtain⟨k,hk,rfl,zA⟩:=hrel;by_cases hlt:k<ls.length
    ·obtain⟨b,off,ha,hb,hc⟩:=(AR.below zF.o zB).at hlt
     subst ha;have HG:Hid (ls[k]?=some ls[k]):=XD hlt;obtain⟨c0,c1,c2⟩:=hc k _ HG.o;clear hc;generalize ls[k]=x at *
     by_cases h:x.sum=s
     ·have hq:(x.sum.toList==s.toList)=true:=by rw[h];simp
      have Hh:Hid _:=h;clear h;go_wp2;refine bodyPost_ret (results_tmp rfl _ _ _) rfl ?_;exact Ak.yes (.inr ⟨x,XG HG.o,Hh.o⟩) zB
     ·have hq:(x.sum.toList==s.toList)=false:=BJ h
      have HA:Hid (∀j y,j<k+1->ls[j]?=some y->¬y.sum=s):=by
       intro j y hj hy;rcases Nat.lt_or_ge j k with h'|h'
       ·exact zA.o j y h' hy
       ·obtain rfl:j=k:=by omega
        rw[HG.o] at hy;cases hy;exact h
      clear h;go_wp2;exact⟨⟨k+1,by omega,by go_num,HA⟩,by simp[intOf];omega⟩
    ·go_wp2
     refine bodyPost_ret (results_tmp rfl _ _ _) rfl ?_;refine Ak.no (fun e=> ?_) zB;rcases e with e|⟨y,hy,zC⟩
     ·exact absurd e zG.o
     ·obtain⟨j,hj,rfl⟩:=List.getElem_of_mem hy
      exact absurd zC (zA.o j _ (by omega) (XD hj))
theorem OC (a:Option Addr) (cap:Nat) (ss:List ByteArray) (s:ByteArray) (w:World) (B:Nat) (zB:Ae w B a ss) (hl:ss.length<=1048576):
 Calls prog 115 #[.slice a ss.length cap,.string s] w fun e w'=>e=.returned (.bool (ss.any (fun x=>decide (x=s))))/\w'=w:=by
 go_enter func115,ntmps115;go_wp2
 go_loop [5] (fun i=>∃k:Nat,k<=ss.length/\i=XJ k/\Hid (∀j x,j<k->ss[j]?=some x->x≠s)) (fun i=>ss.length -(intOf i).toNat)
 case atStart=>exact⟨0,Nat.zero_le _,rfl,fun j x h=>by omega⟩
 case round=>
  obtain⟨k,hk,rfl,zA⟩:=hrel;by_cases hlt:k<ss.length
  ·obtain⟨b,off,ha,hb,hc⟩:=zB.at hlt
   subst ha;have hg:Hid _:=XD hlt;have c0:=hc k _ hg;clear hc zB;generalize ss[k]=x at *
   by_cases he:x=s
   ·subst he
    have hh:Hid (ss.any (fun y=>decide (y=x))=true):=by
     show _=_;rw[List.any_eq_true];exact⟨x,XG hg.o,by simp⟩
    go_wp2;go_ret;exact⟨Ao hh.o.symm,rfl⟩
   ·have zC:=BJ he
    have HA:Hid (∀j y,j<k+1->ss[j]?=some y->y≠s):=by
     intro j y hj hy;rcases Nat.lt_or_ge j k with h'|h'
     ·exact zA.o j y h' hy
     ·obtain rfl:j=k:=by omega
      rw[hg.o] at hy;cases hy;exact he
    clear he zA hg;go_wp2;exact⟨⟨k+1,by omega,by go_num,HA⟩,by simp[intOf];omega⟩
  ·go_wp2
   go_ret;refine⟨Ao ?_,rfl⟩
   symm
   rw[List.any_eq_false];intro x hx;obtain⟨j,hj⟩:=List.getElem?_of_mem hx;simpa using zA.o j x (by have:=(XC hj).1;omega) hj
def BE (w:World) (b off:Nat) (zs:List (Kd×Value)):Prop:=
 ∀i z,zs[i]?=some z->(w.cell? (XL b (off+i *4))=some (.string z.1.sum)/\w.cell? (XL b (off+i *4+1))=some (XJ z.1.born)/\w.cell? (XL b (off+i *4+2))=some (.string z.1.text)/\w.cell? (XL b (off+i *4+3))=some z.2)/\∃ad rc,z.2=.slice (some ad) z.1.refs.length rc/\Ae w w.heap.size (some ad) z.1.refs
theorem BE.below {w w':World} {b off:Nat} {zs:List (Kd×Value)} (h:BE w b off zs) (hb:Xz w w') (hl:b<w.heap.size):BE w' b off zs:=by
 intro i z hz;obtain⟨⟨h0,h1,h2,h3⟩,ad,rc,h4,h5⟩:=h i z hz;exact⟨⟨(hb.cell (p:=⟨b,off+i *4,none⟩) hl).trans h0,(hb.cell (p:=⟨b,off+i *4+1,none⟩) hl).trans h1,(hb.cell (p:=⟨b,off+i *4+2,none⟩) hl).trans h2,(hb.cell (p:=⟨b,off+i *4+3,none⟩) hl).trans h3⟩,ad,rc,h4,Ae.mono (Ae.below h5 hb) hb.size⟩
theorem BE.krow {w:World} {b off:Nat} {zs:List (Kd×Value)} (h:BE w b off zs) (hl:b<w.heap.size):Bx w w.heap.size (some ⟨b,off,none⟩) (zs.map (·.1)):=by
 refine .inr ⟨b,off,rfl,hl,fun i k hk=> ?_⟩;rw[List.getElem?_map] at hk;cases hz:zs[i]? with
 |none=>rw[hz] at hk;cases hk
 |some z=>
  rw[hz] at hk;cases hk;obtain⟨⟨h0,h1,h2,h3⟩,ad,rc,h4,h5⟩:=h i z hz;exact⟨h0,h1,h2,some ad,rc,by rw[h3,h4],h5⟩
theorem BE.own {w:World} {base g cap:Nat} {zs:List (Kd×Value)} (ho:w.ownsRow base 114 4 (.slice (some ⟨g,0,none⟩) zs.length cap) zs.length (Ab kC zs)) (hs:∀z∈zs,∃ad rc,z.2=.slice (some ad) z.1.refs.length rc/\Ae w w.heap.size (some ad) z.1.refs):BE w g 0 zs:=by
 intro i z hz;have hi:=(XC hz).1;have hc:∀j,j<4->w.cell? (XL g (i *4+j))=(kC z)[j]?:=fun j hj=>(ho.cellAt (i *4+j) (by omega)).trans (Bl DG hz hj);refine⟨⟨?_,?_,?_,?_⟩,hs z (XG hz)⟩
 ·rw[Nat.zero_add];simpa [kC] using hc 0 (by decide)
 ·rw[Nat.zero_add];simpa [kC] using hc 1 (by decide)
 ·rw[Nat.zero_add];simpa [kC] using hc 2 (by decide)
 ·rw[Nat.zero_add];simpa [kC] using hc 3 (by decide)
def BI (zs:List (Kd×Value)) (s:ByteArray):List (Kd×Value):=zs.filter (fun z=> !decide (z.1.sum=s))
theorem Li (zs:List (Kd×Value)) (s:ByteArray):(BI zs s).map (·.1)=Ef (zs.map (·.1)) s:=by
 unfold BI Ef;rw[List.filter_map];rfl
theorem Pv {zs:List (Kd×Value)} {k:Nat} {z:Kd×Value} (s:ByteArray) (hz:zs[k]?=some z):BI (zs.take (k+1)) s=BI (zs.take k) s++(if z.1.sum=s then [] else [z]):=by
 obtain⟨zA,rfl⟩:=XC hz;unfold BI;rw[XE zA,List.filter_append];by_cases h:zs[k].1.sum=s<;>simp[h]
theorem Br {w:World} {b:Nat} {wd now given births:Int} {T P L:Value} (h:Aa w b [XJ wd,XJ now,XJ given,XJ births,T,P,L]):AT w b wd now given births T P L:=
 ⟨(h 0 _ rfl).1,(h 1 _ rfl).1,(h 2 _ rfl).1,(h 3 _ rfl).1,(h 4 _ rfl).1,(h 5 _ rfl).1,(h 6 _ rfl).1,h.lt⟩
def JS (ps:List Pd) (ls:List Ld) (ks:List Kd) (s:ByteArray):Prop:=((∃p∈ps,p.sum=s)∨∃l∈ls,l.sum=s)∨∃k∈ks,s∈k.refs
def OD (w w':World) (e:Ending) (wd now given births:Int) (P L:Value) (zs:List (Kd×Value)) (ps:List Pd) (ls:List Ld) (s:ByteArray):Prop:=
 Below w.heap.size w w'/\((JS ps ls (zs.map (·.1)) s/\e=.returned (.agg #[XJ 6,XK,XK,XK,XK,XN,XN,XN,XM,XK,XM,XM]))∨
  (¬JS ps ls (zs.map (·.1)) s/\∃g c,e=.returned (.agg #[XK,XJ wd,XJ now,XJ given,XJ births,.slice (some ⟨g,0,none⟩) (BI zs s).length c,P,L,XM,XK,XM,XM])/\BE w' g 0 (BI zs s)/\w.heap.size<=g/\g<w'.heap.size))
theorem Pw (wd now given births:Int) (b off ac pc lc:Nat) (p l:Option Addr) (zs:List (Kd×Value)) (ps:List Pd) (ls:List Ld) (s:ByteArray) (w:World) (hz:BE w b off zs) (yA:b<w.heap.size) (hp:AQ w w.heap.size p ps) (hl:AR w w.heap.size l ls) (xB:zs.length<=600) (xI:ps.length<=100) (xG:ls.length<=200) (hr:∀z∈zs,z.1.refs.length<=1000) (yD:Au (zs.map (·.1)) s):
 Calls prog 91 #[.agg #[XJ wd,XJ now,XJ given,XJ births,.slice (some ⟨b,off,none⟩) zs.length ac,.slice p ps.length pc,.slice l ls.length lc],.string s] w fun e w'=>OD w w' e wd now given births (.slice p ps.length pc) (.slice l ls.length lc) zs ps ls s:=by
 obtain⟨W,hW⟩:∃W,W=(w.alloc (.cells #[XJ wd,XJ now,XJ given,XJ births,.slice (some ⟨b,off,none⟩) zs.length ac,.slice p ps.length pc,.slice l ls.length lc] 28)).alloc (.cells #[XK,XK,XK,XK,XK,XN,XN,XN,XM,XK,XM,XM] 30):=⟨_,rfl⟩;have hB:=(AP hW).1;have xC:=(AP hW).2.1
 have xW:AT W w.heap.size wd now given births (.slice (some ⟨b,off,none⟩) zs.length ac) (.slice p ps.length pc) (.slice l ls.length lc):=by rw[hW];exact AT.keep (AT.new w wd now given births _ _ _ 28) (XA) (by simp)
 have zR:Aa W (w.heap.size+1) As:=by
  have h1:=Aa.new (w.alloc (.cells #[XJ wd,XJ now,XJ given,XJ births,.slice (some ⟨b,off,none⟩) zs.length ac,.slice p ps.length pc,.slice l ls.length lc] 28)) As 30;rw[World.size_alloc] at h1;rw[hW];exact h1
 have HF:=Fb wd now given births (some ⟨b,off,none⟩) ac (.slice p ps.length pc) (.slice l ls.length lc) (zs.map (·.1)) s W w.heap.size (Bx.below (hz.krow yA) hB) hB.size (by rw[List.length_map];omega);rw[List.length_map] at HF;have xF:0<=Cy (zs.map (·.1)) s:=by
  rcases Fu (zs.map (·.1)) s with⟨_,hn⟩|⟨i,k,e,_⟩
  ·exact absurd yD hn
  ·omega
 have yC:Hid _:=HF;have yQ:Hid _:=zR;have yM:Hid (Aa W _ _):=(AP hW).2.2.1;have zX:w.heap.size+1<W.heap.size:=by omega
 have HZ:Hid _:=hz;have zY:Hid _:=And.intro hp hl;have HW:Hid _:=hW;have yG:Hid _:=xW;clear hW hz hp hl zR HF yD;obtain⟨x0,x1,x2,x3,x4,x5,x6,x7⟩:=xW;go_enter func91,ntmps91;go_upto_region 1 with fail;rw[←HW.o];clear HW;go_wp2_with fail;refine Calls.mono yC.o ?_;rintro e w1 ⟨rfl,zF⟩;have yZ:¬Cy (zs.map (·.1)) s<0:=by omega
 have zP:Hid _:=AT.below yG.o zF;obtain⟨y0,y1,y2,y3,y4,y5,y6,y7⟩:=zP.o;have zE:Below w.heap.size w w1:=hB.trans (zF.mono hB.size);clear x0 x1 x2 x3 x4 x5 x6 yC;generalize Cy (zs.map (·.1)) s=fi at *
 go_wp2_with fail;refine(Pu wd now given births (.slice (some ⟨b,off,none⟩) zs.length ac) p l pc lc ps ls s w1 (AQ.mono (AQ.below zY.o.1 zE) zE.size) (AR.mono (AR.below zY.o.2 zE) zE.size) (by omega) (by omega)).mono ?_;rintro e w2 ⟨ok,rfl,yE,zI⟩;have zK:Below w.heap.size w w2:=zE.trans (zI.mono zE.size);have yH:Hid _:=AT.below zP.o zI
 have z2:Aa w2 (w.heap.size+1) As:=Aa.below (v:=XK) (Aa.below (v:=XK) yQ.o zF) zI;have zT:Hid _:=z2;have zZ:Hid _:=yE;clear yE y0 y1 y2 y3 y4 y5 y6 z2;cases ok
 ·obtain⟨v0,v1,v2,v3,v4,v5,v6,v7⟩:=yH.o
  have yX:w.heap.size+2<=w2.heap.size:=by have:=zF.size;have:=zI.size;omega
  have bA:Below w2.heap.size w2 (w2.alloc (.cells #[] 114)):=XA;go_wp2
  go_loopw [5,6] (fun v i wr=>∃(k g c:Nat),k<=zs.length/\i=XJ k/\v=.slice (some ⟨g,0,none⟩) (BI (zs.take k) s).length c/\Hid (wr.ownsRow (w.heap.size+2) 114 4 (.slice (some ⟨g,0,none⟩) (BI (zs.take k) s).length c) (BI (zs.take k) s).length (Ab kC (BI (zs.take k) s))/\(∀z∈zs.take k,¬s∈z.1.refs)/\Aa wr w.heap.size [XJ wd,XJ now,XJ given,XJ births,.slice (some ⟨b,off,none⟩) zs.length ac,.slice p ps.length pc,.slice l ls.length lc]/\Aa wr (w.heap.size+1) As/\Xz w wr)) (fun _ i _=>zs.length -(intOf i).toNat)
  case atStart=>
   refine⟨0,w2.heap.size,0,Nat.zero_le _,rfl,by simp[BI],⟨?_,(fun z hz=>by simp at hz),Aa.below (Aa.below (Aa.below yM.o zF) zI) bA,Aa.below (v:=XK) zT.o bA,zK.trans (bA.mono zK.size)⟩⟩;have:=World.ownsRow_lit (base:=w.heap.size+2) (e:=114) (size:=4) w2 #[] 0 yX (by unfold maxLen;omega) rfl;simpa [BI,Ab] using this
  case round=>
   clear zP yG zT yH v0 v1 v2 v3 v4 v5 v6 v7 bA;obtain⟨k,g,c,hk,rfl,rfl,HI⟩:=hrel;obtain⟨v0,v1,v2,v3,v4,v5,v6,v7⟩:=Br HI.o.2.2.1;have zA:=HI.o.2.2.2.2;have xA:=zA.size;by_cases hlt:k<zs.length
   ·have HG:Hid (zs[k]?=some zs[k]):=XD hlt
    obtain⟨⟨c0,c1,c2,c3⟩,ad,rc,h4,h5⟩:=(BE.below HZ.o zA yA) k _ HG.o;have xD:=hr _ (List.getElem_mem hlt);have zU:Hid _:=Pv s HG.o;have xE:b<wr.heap.size:=by omega
    have yR:Hid _:=h5;have yN:Hid (zs.take (k+1)=zs.take k++[zs[k]]):=XE hlt;rw[h4] at c3;have H4:Hid _:=h4;clear h5 h4;generalize zs[k]=z at *
    have xH:(BI (zs.take k) s).length<=600:=by
     have:=List.length_filter_le (fun z:Kd×Value=> !decide (z.1.sum=s)) (zs.take k);unfold BI;rw[List.length_take] at this;omega
    go_wp2_with fail;refine(OC (some ad) rc z.1.refs s wr wr.heap.size yR.o (by omega)).mono ?_;rintro e w3 ⟨rfl,rfl⟩;by_cases hin:s∈z.1.refs
    ·have hd:z.1.refs.any (fun x=>decide (x=s))=true:=by simpa using hin
     rw[hd];obtain⟨⟨y0,q0⟩,⟨y1,q1⟩,⟨y2,q2⟩,⟨y3,q3⟩,⟨y4,q4⟩,⟨y5,q5⟩,⟨y6,q6⟩,⟨y7,q7⟩,⟨y8,q8⟩,⟨y9,q9⟩,⟨zG,yL⟩,zJ,yF⟩:=AS HI.o.2.2.2.1;have yV:Hid _:=hin;clear hin hd c0 c1 c2 c3 v0 v1 v2 v3 v4 v5 v6;go_wp2
     refine bodyPost_ret (v:=.agg #[XJ 6,XK,XK,XK,XK,XN,XN,XN,XM,XK,XM,XM]) (by simp[results,results91,go_sem,y0,y1,y2,y3,y4,y5,y6,y7,y8,y9,zG,zJ]) rfl ⟨zA.trans (Tn.below (Bc _ (w.heap.size+1) _ _ _ _ _ _ _ _ _ _ _ _) zA.size (by simp)),.inl ⟨.inr ⟨z.1,List.mem_map.2 ⟨z,XG HG.o,rfl⟩,yV.o⟩,rfl⟩⟩
    ·have hd:z.1.refs.any (fun x=>decide (x=s))=false:=by
      rw[List.any_eq_false];intro x hx e;exact hin (of_decide_eq_true e▸hx)
     rw[hd];have yJ:Hid (∀y∈zs.take (k+1),¬s∈y.1.refs):=by
      rw[yN.o];intro y hy;rcases List.mem_append.1 hy with hy|hy
      ·exact HI.o.2.1 y hy
      ·simp at hy
       rw[hy];exact hin
     clear hin hd;by_cases hzs:z.1.sum=s
     ·have hq:(z.1.sum.toList !=s.toList)=false:=by rw[hzs];simp
      have yB:(z.1.sum.toList==s.toList)=true:=by rw[hzs];simp
      have zC:=zU.o;rw[if_pos hzs,List.append_nil] at zC;have zH:Hid _:=zC;clear zC hzs;go_wp2;exact⟨⟨k+1,g,c,by omega,by go_num,by rw[zH.o],⟨by rw[zH.o];exact HI.o.1,yJ.o,HI.o.2.2⟩⟩,by simp[intOf];omega⟩
     ·have yB:(z.1.sum.toList==s.toList)=false:=BJ hzs
      have hq:(z.1.sum.toList !=s.toList)=true:=by simp[bne,yB]
      have zC:=zU.o;rw[if_neg hzs] at zC;have zH:Hid _:=zC;clear zC hzs;obtain⟨i0,hi,yP,yU,zN⟩:=info_parts Gc;have zW:=Ac HI.o.1 (g:=g) rfl;go_wp2_with (first
       |(at_builtin;refine wpList_append_own_at _ rfl _ _ 24 rfl (w.heap.size+2) 114 i0 _ 4 64 underlying24 hi yP yU zN rfl (by decide) _ (BI (zs.take k) s).length (Ab kC (BI (zs.take k) s)) rfl ?d0 ⟨w3.heap.size,0,none⟩ 1 1 (kC (z.1,.slice (some ad) z.1.refs.length rc)) rfl rfl ?d2 ?d3 ?d4 ?d5 ?d6 ?_)
       |go_in)
      case d0=>exact Ad HI.o.1 (XA)
      case d2=>
       intro j u hu;rw[Go.WideShapes.add_plain,Nat.zero_add];exact((Aa.new w3 (kC (z.1,.slice (some ad) z.1.refs.length rc)) 114) j u hu).1
      case d3=>
       intro u hu;simp[kC] at hu;rcases hu with rfl|rfl|rfl|rfl<;>rfl
      case d4=>unfold maxLen;omega
      case d5=>omega
      case d6=>simp;omega
      intro v4 w4 zM zV yY yS;obtain⟨g4,c4,rfl,yO,yW⟩:=BR zM (fun e=>by subst e;rcases zM.2 with⟨_,hn⟩|⟨_,_,_,e,_⟩<;>first|omega|cases e);have b4:Below w3.heap.size w3 (w3.alloc (.cells #[.string z.1.sum,XJ z.1.born,.string z.1.text,.slice (some ad) z.1.refs.length rc] 114)):=XA;have zB:w3.grownBy w4 (some g):=Ap (Ax _ b4) zV;have zN:z.2=.slice (some ad) z.1.refs.length rc:=H4.o
      have zO:(BI (zs.take (k+1)) s).length=(BI (zs.take k) s).length+1:=by rw[zH.o];simp
      have yK:Ab kC (BI (zs.take (k+1)) s)=Ab kC (BI (zs.take k) s)++kC (z.1,.slice (some ad) z.1.refs.length rc):=by
       rw[zH.o,Bf,←zN];simp[Ab]
      have HF:Hid (w4.ownsRow (w.heap.size+2) 114 4 (.slice (some ⟨g4,0,none⟩) (BI (zs.take (k+1)) s).length c4) (BI (zs.take (k+1)) s).length (Ab kC (BI (zs.take (k+1)) s))/\(∀y∈zs.take (k+1),¬s∈y.1.refs)/\Aa w4 w.heap.size [XJ wd,XJ now,XJ given,XJ births,.slice (some ⟨b,off,none⟩) zs.length ac,.slice p ps.length pc,.slice l ls.length lc]/\Aa w4 (w.heap.size+1) As/\Xz w w4):=by
       refine⟨by rw[zO,yK];exact zM,yJ.o,?_,?_,zA.grown zB (by omega) (fun q hq=>by cases hq;omega)⟩
       ·exact Aa.far' HI.o.2.2.1 zB (by omega)
       ·exact Aa.far' (v:=XK) HI.o.2.2.2.1 zB (by omega)
      clear zM zV zB yY yS b4 yK zN c0 c1 c2 c3 v0 v1 v2 v3 v4 v5 v6;have yT:Hid _:=zO;clear zO;go_wp2;exact⟨⟨k+1,g4,c4,by omega,by go_num,by rw[yT.o],HF⟩,by simp[intOf];omega⟩
   ·obtain rfl:k=zs.length:=by omega
    have yI:=HI.o;rw[XF (XB)] at yI;obtain⟨h1,h2,h3,h4,h5⟩:=yI;have zW:=Ac h1 (g:=g) rfl;have HE:Hid _:=And.intro h1 (And.intro h2 h5);obtain⟨⟨y0,q0⟩,⟨y1,q1⟩,⟨y2,q2⟩,⟨y3,q3⟩,⟨y4,q4⟩,⟨y5,q5⟩,⟨y6,q6⟩,⟨y7,q7⟩,⟨y8,q8⟩,⟨y9,q9⟩,⟨zG,yL⟩,zJ,yF⟩:=AS h4;have f4:=(h3 4 _ rfl).2;have H3:Hid _:=h3;clear h1 h2 h3 h4 h5;rw[XF (XB)];go_wp2
    have T:∀a0 a1 a2 a3 a4 a5 a6 a7 a8 a9 a10 a11 c4,Tn [w.heap.size,w.heap.size+1] wr _:=fun a0 a1 a2 a3 a4 a5 a6 a7 a8 a9 a10 a11 c4=>(Tn.set (V:=[w.heap.size,w.heap.size+1]) wr w.heap.size 4 c4 (by simp)).trans (Tn.mono (Bc (wr.setCell (XL (w.heap.size) 4) c4) (w.heap.size+1) a0 a1 a2 a3 a4 a5 a6 a7 a8 a9 a10 a11) (by simp))
    refine bodyPost_ret (v:=.agg #[XK,XJ wd,XJ now,XJ given,XJ births,.slice (some ⟨g,0,none⟩) (BI zs s).length c,.slice p ps.length pc,.slice l ls.length lc,XM,XK,XM,XM]) (by simp[results,results91,go_sem,y0,y1,y2,y3,y4,y5,y6,y7,y8,y9,zG,zJ]) rfl ?_
    have T':=T XK (XJ wd) (XJ now) (XJ given) (XJ births) (.slice (some ⟨g,0,none⟩) (BI zs s).length c) (.slice p ps.length pc) (.slice l ls.length lc) XM XK XM XM (.slice (some ⟨g,0,none⟩) (BI zs s).length c);have zS:=HE.o.2.2.trans (Tn.below T' HE.o.2.2.size (by simp))
    refine⟨zS,.inr ⟨?_,g,c,rfl,BE.own (Ah HE.o.1 (fun q hq=>T'.block q (Ac HE.o.1 hq).2 (by have:=(Ac HE.o.1 hq).1;simp;omega))) (fun z hz=> ?_),by omega,XH zW.2 T'.size⟩⟩
    ·rintro(h|⟨x,hx,hs⟩)
     ·have:=zZ.o.2 h
      simp at this
     ·obtain⟨z,hz,rfl⟩:=List.mem_map.1 hx
      exact HE.o.2.1 z hz hs
    ·obtain⟨i,hi⟩:=List.getElem?_of_mem (List.mem_filter.1 hz).1
     obtain⟨_,ad,rc,e,hs⟩:=HZ.o i z hi;exact⟨ad,rc,e,Ae.mono (Ae.below hs zS) zS.size⟩
 ·obtain⟨⟨y0,q0⟩,⟨y1,q1⟩,⟨y2,q2⟩,⟨y3,q3⟩,⟨y4,q4⟩,⟨y5,q5⟩,⟨y6,q6⟩,⟨y7,q7⟩,⟨y8,q8⟩,⟨y9,q9⟩,⟨zG,yL⟩,zJ,yF⟩:=AS zT.o
  go_wp2;refine bodyPost_ret (v:=.agg #[XJ 6,XK,XK,XK,XK,XN,XN,XN,XM,XK,XM,XM]) (by simp[results,results91,go_sem,y0,y1,y2,y3,y4,y5,y6,y7,y8,y9,zG,zJ]) rfl ⟨zK.trans (Tn.below (Bc w2 (w.heap.size+1) _ _ _ _ _ _ _ _ _ _ _ _) zK.size (by simp)),.inl ⟨.inl (zZ.o.1 trivial),rfl⟩⟩
theorem Px {ls:List Ld} {k:Nat} {x:Ld} (n:Int) (hx:ls[k]?=some x):Bk (ls.take (k+1)) n=Bk (ls.take k) n++(if x.num=n then [] else [x]):=by
 obtain⟨zA,rfl⟩:=XC hx;unfold Bk;rw[XE zA,List.filter_append];by_cases h:ls[k].num=n<;>simp[h]
theorem Ll (ls:List Ld) (n:Int):(Bk ls n).length=ls.length↔¬∃x∈ls,x.num=n:=by
 unfold Bk;rw[List.length_filter_eq_length_iff];simp
def Rb (w w':World) (e:Ending) (wd now given births:Int) (T P:Value) (ls:List Ld) (n:Int):Prop:=
 Below w.heap.size w w'/\(((¬∃x∈ls,x.num=n)/\e=.returned (.agg #[XJ 5,XK,XK,XK,XK,XN,XN,XN,XM,XK,XM,XM]))∨
  ((∃x∈ls,x.num=n)/\∃g c,e=.returned (.agg #[XK,XJ wd,XJ now,XJ given,XJ births,T,P,.slice (some ⟨g,0,none⟩) (Bk ls n).length c,XM,XK,XM,XM])/\w'.ownsRow w.heap.size 137 3 (.slice (some ⟨g,0,none⟩) (Bk ls n).length c) (Bk ls n).length (Ab lC (Bk ls n))))
theorem Py (wd now given births:Int) (ta pa la:Option Addr) (tn tc pn pc lc:Nat) (ls:List Ld) (n:Int) (w:World) (zE:AR w w.heap.size la ls) (hl:ls.length<=1000):
 Calls prog 89 #[.agg #[XJ wd,XJ now,XJ given,XJ births,.slice ta tn tc,.slice pa pn pc,.slice la ls.length lc],XJ n] w fun e w'=>Rb w w' e wd now given births (.slice ta tn tc) (.slice pa pn pc) ls n:=by
 obtain⟨W,hW⟩:∃W,W=(w.alloc (.cells #[XJ wd,XJ now,XJ given,XJ births,.slice ta tn tc,.slice pa pn pc,.slice la ls.length lc] 28)).alloc (.cells #[XK,XK,XK,XK,XK,XN,XN,XN,XM,XK,XM,XM] 30):=⟨_,rfl⟩;have bW:=(AP hW).1;have zO:=(AP hW).2.1;have x0:=(AP hW).2.2.1;have x1:Aa W (w.heap.size+1) As:=by
  have h1:=Aa.new (w.alloc (.cells #[XJ wd,XJ now,XJ given,XJ births,.slice ta tn tc,.slice pa pn pc,.slice la ls.length lc] 28)) As 30;rw[World.size_alloc] at h1;rw[hW];exact h1
 have HX:Hid (∀X,Below (w.heap.size+2) W X->Aa X w.heap.size [XJ wd,XJ now,XJ given,XJ births,.slice ta tn tc,.slice pa pn pc,.slice la ls.length lc]/\Aa X (w.heap.size+1) As):=fun X hX=>⟨Aa.same x0 (hX.block _ (by omega)),Aa.same x1 (hX.block _ (by omega))⟩;have HW:Hid _:=hW;have yD:Hid (W.heap.size=w.heap.size+2):=zO;have zC:w.heap.size+2<=W.heap.size:=by omega
 have HR:Hid (AR w w.heap.size la ls):=zE;have zW:Hid (Xz w W):=bW;have bA:Below W.heap.size W (W.alloc (.cells #[] 137)):=XA;have zK:Hid ((W.alloc (.cells #[] 137)).ownsRow (w.heap.size+2) 137 3 (.slice (some ⟨W.heap.size,0,none⟩) 0 0) 0 []):=World.ownsRow_lit (base:=w.heap.size+2) (e:=137) (size:=3) W #[] 0 (by omega) (by unfold maxLen;omega) rfl
 have zH:Hid (Below (w.heap.size+2) W (W.alloc (.cells #[] 137))):=bA.mono zC;clear hW zO x0 x1 zE bW bA;go_enter func89,ntmps89;go_upto_region 1 with fail;rw[←HW.o];clear HW;go_wp2
 go_loopw [5,6] (fun v i wr=>∃(k g c:Nat),k<=ls.length/\i=XJ k/\v=.slice (some ⟨g,0,none⟩) (Bk (ls.take k) n).length c/\Hid (wr.ownsRow (w.heap.size+2) 137 3 (.slice (some ⟨g,0,none⟩) (Bk (ls.take k) n).length c) (Bk (ls.take k) n).length (Ab lC (Bk (ls.take k) n))/\Below (w.heap.size+2) W wr)) (fun _ i _=>ls.length -(intOf i).toNat)
 case atStart=>exact⟨0,W.heap.size,0,Nat.zero_le _,rfl,by simp[Bk],⟨by simpa [Bk,Ab] using zK.o,zH.o⟩⟩
 case round=>
  clear zK zH;obtain⟨k,g,c,hk,rfl,rfl,HI⟩:=hrel;have zB:Below w.heap.size w wr:=zW.o.trans (HI.o.2.mono (by omega));have zJ:w.heap.size+2<=wr.heap.size:=XI zC HI.o.2.size;obtain⟨v0,v1,v2,v3,v4,v5,v6,v7⟩:=Br (HX.o _ HI.o.2).1;by_cases hlt:k<ls.length
  ·obtain⟨b',off,ha,hb,zN⟩:=(AR.below HR.o zB).at hlt
   subst ha;have HG:Hid (ls[k]?=some ls[k]):=XD hlt;obtain⟨c0,c1,c2⟩:=zN k _ HG.o;have zI:Hid _:=Px n HG.o;have zZ:(Bk (ls.take k) n).length<=1000:=by
    have:=List.length_filter_le (fun x:Ld=> !decide (x.num=n)) (ls.take k);unfold Bk;rw[List.length_take] at this;omega
   clear zN;generalize ls[k]=x at *
   generalize hGk:Bk (ls.take k) n=gk at *
   have yA:Hid _:=hGk;clear hGk;by_cases hxn:x.num=n
   ·have hq:(x.num !=n)=false:=by simp[hxn]
    have HE:Hid (Bk (ls.take (k+1)) n=gk):=by show _=_;rw[zI.o,if_pos hxn,List.append_nil]
    clear hxn;go_wp2;exact⟨⟨k+1,g,c,by omega,by go_num,by rw[HE.o],⟨by rw[HE.o];exact HI.o.1,HI.o.2⟩⟩,by simp[intOf];omega⟩
   ·have hq:(x.num !=n)=true:=by simp[hxn]
    have HE:Hid (Bk (ls.take (k+1)) n=gk++[x]):=by show _=_;rw[zI.o,if_neg hxn]
    clear hxn;obtain⟨g8,zA,w8,zM,zR,zP,zX⟩:=Mg wr (w.heap.size+2) _ gk HI.o.1 x (by omega) zJ 26;have b8:Below (w.heap.size+2) wr w8:=(Below.refl _ _).grown zP zJ (fun q e=>(Ac HI.o.1 e).1);have H8:Hid (w8.ownsRow (w.heap.size+2) 137 3 (.slice (some ⟨g8,0,none⟩) (gk.length+1) zA) (gk++[x]).length (Ab lC (gk++[x]))/\Below (w.heap.size+2) W w8):=⟨zR,HI.o.2.trans b8⟩
    have zU:b'<wr.heap.size:=by have:=zB.size;omega
    clear zR zP zX b8;go_wp2_with (at_builtin;refine wpList_append_run rfl _ _ 26 26 rfl rfl rfl zM ?_);clear zM c0 c1 c2 v0 v1 v2 v3 v4 v5 v6;go_wp2;exact⟨⟨k+1,g8,zA,by omega,by go_num,by rw[HE.o,List.length_append];rfl,⟨by rw[HE.o,List.length_append];exact List.length_append▸H8.o.1,H8.o.2⟩⟩,by simp[intOf];omega⟩
  ·obtain rfl:k=ls.length:=by omega
   have hO:=HI.o.1;rw[XF (XB)] at hO ⊢;have HO:Hid (wr.ownsRow (w.heap.size+2) 137 3 (.slice (some ⟨g,0,none⟩) (Bk ls n).length c) (Bk ls n).length (Ab lC (Bk ls n))):=hO;have zF:Hid (Xz w wr):=zB;obtain⟨⟨y0,q0⟩,⟨y1,q1⟩,⟨y2,q2⟩,⟨y3,q3⟩,⟨y4,q4⟩,⟨y5,q5⟩,⟨y6,q6⟩,⟨y7,q7⟩,⟨y8,q8⟩,⟨y9,q9⟩,⟨zS,yC⟩,zT,yB⟩:=AS (HX.o _ HI.o.2).2;have f6:=((HX.o _ HI.o.2).1 6 _ rfl).2;by_cases hex:∃x∈ls,x.num=n
   ·have zY:¬(Bk ls n).length=ls.length:=fun e=>(Ll ls n).1 e hex
    have hq:(((Bk ls n).length:Int)==(ls.length:Int))=false:=by simp;omega
    have zG:Hid (∃x∈ls,x.num=n):=hex;clear zY hex hO zB HI;go_wp2;refine bodyPost_ret (v:=.agg #[XK,XJ wd,XJ now,XJ given,XJ births,.slice ta tn tc,.slice pa pn pc,.slice (some ⟨g,0,none⟩) (Bk ls n).length c,XM,XK,XM,XM]) (by simp[results,results89,go_sem,y0,y1,y2,y3,y4,y5,y6,y7,y8,y9,zS,zT]) rfl ?_
    have T':=(Tn.set (V:=[w.heap.size,w.heap.size+1]) wr w.heap.size 6 (.slice (some ⟨g,0,none⟩) (Bk ls n).length c) (by simp)).trans (Tn.mono (Bc (wr.setCell (XL (w.heap.size) 6) (.slice (some ⟨g,0,none⟩) (Bk ls n).length c)) (w.heap.size+1) XK (XJ wd) (XJ now) (XJ given) (XJ births) (.slice ta tn tc) (.slice pa pn pc) (.slice (some ⟨g,0,none⟩) (Bk ls n).length c) XM XK XM XM) (by simp))
    exact⟨zF.o.trans (T'.below zF.o.size (by intro v hv;simp at hv;omega)),.inr ⟨zG.o,g,c,rfl,(Ah HO.o (fun q hq=>T'.block q (Ac HO.o hq).2 (by have:=(Ac HO.o hq).1;simp;omega))).mono (by omega)⟩⟩
   ·have zV:(Bk ls n).length=ls.length:=(Ll ls n).2 hex
    have hq:(((Bk ls n).length:Int)==(ls.length:Int))=true:=by simp;omega
    have zG:Hid (¬∃x∈ls,x.num=n):=hex;clear zV hex hO zB HI;go_wp2;refine bodyPost_ret (v:=.agg #[XJ 5,XK,XK,XK,XK,XN,XN,XN,XM,XK,XM,XM]) (by simp[results,results89,go_sem,y0,y1,y2,y3,y4,y5,y6,y7,y8,y9,zS,zT]) rfl ?_;exact⟨zF.o.trans (Tn.below (Bc wr (w.heap.size+1) _ _ _ _ _ _ _ _ _ _ _ _) zF.o.size (by intro v hv;simp at hv;omega)),.inl ⟨zG.o,rfl⟩⟩
end Go.Proofs.YtpekbmegopfhfaaGreatDoor
