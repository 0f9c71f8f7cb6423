import Derived.Test.YtmjlkgpekcnacaaGreatX03
import Derived.Laws.IdiomCopy
import Derived.Laws.NewBlocks
import Derived.Laws.AppendOwn
import Derived.Lib.AppendZerosOnto
import Derived.Lib.Overlaps
import Derived.Lib.Walk
import Derived.Laws.OwnMore
set_option maxRecDepth 100000
set_option maxHeartbeats 16000000
namespace Go.Proofs.YtmjlkgpekcnacaaGreat
open Go.ChangeShapes Go.WideShapes Go.ChangeAt Go.RowKit _root_.Go.Proofs.Tryz
variable{a:List Pd}{k b n d m B N:Nat}{x:Pd}{w:Zh}{e i ak:Int}{g:List Kd}{P:Program}{s:Zi}{V:List Nat}{F:Array Oper}{o:Oper}{E:Prop}
theorem Ig(w:Zh)(a:Nat)(v:Value)(b:List Pd)(y:w.ownsRow a 58 2 v b.length (Ai pC b))(x:Pd)(t:b.length<=1000000)(i:a<=w.heap.size)(k:TypeId):
 ∃g cap d,(Builtin.append_ #[24,24] k #[v,Yz w.heap.size 1 1]).run prog (w.alloc (.cells #[.string x.name,.string x.sum] 58))=.ok (Yz g (b.length+1) cap) d/\d.ownsRow a 58 2 (Yz g (b.length+1) cap) (b++[x]).length (Ai pC (b++[x]))/\w.grownBy d v.ownBlock/\(v.ownBlock=some g\/g=w.heap.size+1):=by
 obtain⟨A,s,m,n,o⟩:=info_parts LB;have l:=Ap y ((Below.refl _ _).alloc (Zx) (.cells #[.string x.name,.string x.sum] 58));have r:∀j u,(Ai pC [x])[j]?=some u->(w.alloc (.cells #[.string x.name,.string x.sum] 58)).cell? ((⟨w.heap.size,0,none⟩:Addr).add j)=some u:=by intro j u f;rw[Go.WideShapes.add_plain,Nat.zero_add];exact(Aa.new w [.string x.name,.string x.sum] 58 j u (by simpa [Ai,pC]using f)).1
 obtain⟨B,d,z,h,q,_,c⟩:=run_append_own_at (P:=prog) (w.alloc (.cells #[.string x.name,.string x.sum] 58)) a 24 k 58 A _ 2 32 underlying24 s m n o rfl Yr v b.length (Ai pC b) l ⟨w.heap.size,0,none⟩ 1 1 (Ai pC [x]) (by simp[Ai,pC]) r (by intro u f;simp[Ai,pC]at f;rcases f with rfl|rfl<;>rfl) Yp Yv Yt
 obtain⟨g,cap,rfl,_,_⟩:=Cs h (fun e=>by subst e;rcases h.2 with⟨_,t⟩|⟨_,_,_,e,_⟩<;>first|omega|cases e);refine⟨g,cap,d,z,?_,(World.grownBy_alloc w _ _).trans q,?_⟩
 .rw[Ex,List.length_append];exact h
 .rcases c with c|c
  .exact .inl c.symm
  .right;simpa [Value.ownBlock]using c
theorem Oz(n:Zi)(c:a[k]?=some x):Bk (a.take (k+1)) n=Bk (a.take k) n++(if x.name=n then []else [x]):=by obtain⟨b,rfl⟩:=Zw c;unfold Bk;rw[Zu b,List.filter_append];by_cases h:a[k].name=n<;>simp[h]
theorem KW(a:List Pd)(n:Zi):(Bk a n).length=a.length↔¬∃x∈a,x.name=n:=by unfold Bk;rw[List.length_filter_eq_length_iff];simp
def Pc(w w':Zh)(e:Ending)(wd now given births:Int)(T P:Value)(ls:List Pd)(n:Zi):Prop:=
 Below w.heap.size w w'/\(((¬∃x∈ls,x.name=n)/\e=.returned (.agg #[Zg 5,Ze,Ze,Ze,Ze,Zb,Zb,Zb,Zc,Ze,Zc,Zc]))\/
  ((∃x∈ls,x.name=n)/\∃g c,e=.returned (.agg #[Ze,Zg wd,Zg now,Zg given,Zg births,T,.slice (some ⟨g,0,none⟩) (Bk ls n).length c,P,Zc,Ze,Zc,Zc])/\w'.ownsRow w.heap.size 58 2 (.slice (some ⟨g,0,none⟩) (Bk ls n).length c) (Bk ls n).length (Ai pC (Bk ls n))))
theorem OB(s now d b:Int)(m j C:Zk)(r o pn l G:Nat)(a:List Pd)(n:Zi)(w:Zh)(u:AO w w.heap.size C a)(hl:a.length<=1000):
 Calls prog 125 #[.agg (Yj s now d b m r o C a.length G j pn l),.string n] w fun e w'=>Pc w w' e s now d b (.slice m r o) (.slice j pn l) a n:=by
 obtain⟨W,A⟩:∃W,W=(w.alloc (.cells (Yj s now d b m r o C a.length G j pn l) 27)).alloc (.cells Yi 134):=⟨_,rfl⟩;have bW:=(Bm A).1;have P:=(Bm A).2.1;have x0:=(Bm A).2.2.1;have x1:Aa W (w.heap.size+1) z12:=by have h1:=Aa.new (w.alloc (.cells (Yj s now d b m r o C a.length G j pn l) 27)) z12 134;rw[World.size_alloc]at h1;rw[A];exact h1
 have U:Hid (∀X,Below (w.heap.size+2) W X->Aa X w.heap.size (Yh s now d b m r o C a.length G j pn l)/\Aa X (w.heap.size+1) z12):=fun X hX=>⟨Aa.same x0 (hX.block _ Yv),Aa.same x1 (hX.block _ Yv)⟩;have HW:=Yw A;have zH:Hid (W.heap.size=w.heap.size+2):=P;have y:w.heap.size+2<=W.heap.size:=Yv
 have HR:Hid (AO w w.heap.size C a):=u;have zA:Hid (Zz w W):=bW;have bA:Below W.heap.size W (W.alloc (.cells #[] 58)):=Zy;have I:Hid ((W.alloc (.cells #[] 58)).ownsRow (w.heap.size+2) 58 2 (Yz W.heap.size 0 0) 0 []):=World.ownsRow_lit (base:=w.heap.size+2) (e:=58) (size:=2) W #[] 0 Yv Yp rfl;have H:Hid (Below (w.heap.size+2) W (W.alloc (.cells #[] 58))):=bA.mono y
 clear A P x0 x1 u bW bA;go_enter func125,ntmps125;go_upto_region 1 with fail;rw[<-HW.o];clear HW;go_wp2
 go_loopw [5,6] (fun v i wr=>∃(k g c:Nat),k<=a.length/\i=Zg k/\v=Yz g (Bk (a.take k) n).length c/\Hid (wr.ownsRow (w.heap.size+2) 58 2 (Yz g (Bk (a.take k) n).length c) (Bk (a.take k) n).length (Ai pC (Bk (a.take k) n))/\Below (w.heap.size+2) W wr)) (fun _ i _=>a.length -(intOf i).toNat)
 case atStart=>exact⟨0,W.heap.size,0,Nat.zero_le _,rfl,by simp[Bk],⟨by simpa [Bk,Ai]using I.o,H.o⟩⟩
 case round=>
  clear I H;obtain⟨k,g,c,hk,rfl,rfl,f⟩:=hrel;have h:Below w.heap.size w wr:=zA.o.trans (f.o.2.mono Yv);have Q:w.heap.size+2<=wr.heap.size:=Zm y f.o.2.size;obtain⟨v0,v1,v2,v3,v4,v5,v6,v7⟩:=AS (U.o _ f.o.2).1;by_cases hlt:k<a.length
  .obtain⟨b',off,ha,hb,K⟩:=(AO.below HR.o h).at hlt;subst ha;have HG:Hid (a[k]?=some a[k]):=Zv hlt;obtain⟨c0,c1⟩:=K k _ HG.o;have J:=Yw (Oz n HG.o);have zI:(Bk (a.take k) n).length<=1000:=by have:=List.length_filter_le (fun x:Pd=> !decide (x.name=n)) (a.take k);unfold Bk;rw[List.length_take]at this;omega
   clear K;generalize a[k]=x at *
   generalize hGk:Bk (a.take k) n=gk at *
   have zG:=Yw hGk;clear hGk;by_cases hxn:x.name=n
   .have B:(x.name.toList !=n.toList)=false:=by rw[hxn];simp
    have N:(x.name.toList==n.toList)=true:=by rw[hxn];simp
    have D:Hid (Bk (a.take (k+1)) n=gk):=by show _=_;rw[J.o,if_pos hxn,List.append_nil]
    clear hxn;go_wp2;exact⟨⟨k+1,g,c,Yv,Yo,by rw[D.o],⟨by rw[D.o];exact f.o.1,f.o.2⟩⟩,by simp[intOf];omega⟩
   .have N:(x.name.toList==n.toList)=false:=By hxn;have B:(x.name.toList !=n.toList)=true:=by simp[bne,N]
    have D:Hid (Bk (a.take (k+1)) n=gk++[x]):=by show _=_;rw[J.o,if_neg hxn]
    clear hxn;obtain⟨g8,t,Z,O,M,L,zC⟩:=Ig wr (w.heap.size+2) _ gk f.o.1 x Yv Q 24;have b8:Below (w.heap.size+2) wr Z:=(Below.refl _ _).grown L Q (fun q e=>(Ad f.o.1 e).1);have H8:Hid (Z.ownsRow (w.heap.size+2) 58 2 (Yz g8 (gk.length+1) t) (gk++[x]).length (Ai pC (gk++[x]))/\Below (w.heap.size+2) W Z):=⟨M,f.o.2.trans b8⟩;have zF:b'<wr.heap.size:=by have:=h.size;omega
    clear M L zC b8;go_wp2_with (at_builtin;refine wpList_append_run rfl _ _ 24 24 rfl rfl rfl O ?_);clear O c0 c1 v0 v1 v2 v3 v4 v5 v6;go_wp2;exact⟨⟨k+1,g8,t,Yv,Yo,by rw[D.o,List.length_append];rfl,⟨by rw[D.o,List.length_append];exact List.length_append▸H8.o.1,H8.o.2⟩⟩,by simp[intOf];omega⟩
  .obtain rfl:k=a.length:=Yv
   have F:=f.o.1;rw[Zt (Zx)]at F |-;have T:=Yw F;have z:Hid (Zz w wr):=h;obtain⟨⟨y0,q0⟩,⟨y1,q1⟩,⟨y2,q2⟩,⟨y3,q3⟩,⟨y4,q4⟩,⟨y5,q5⟩,⟨y6,q6⟩,⟨y7,q7⟩,⟨y8,q8⟩,⟨y9,q9⟩,⟨R,zJ⟩,S,zK⟩:=BL (U.o _ f.o.2).2;have f6:=((U.o _ f.o.2).1 5 _ rfl).2;by_cases hex:∃x∈a,x.name=n
   .have zE:¬(Bk a n).length=a.length:=fun e=>(KW a n).1 e hex;have B:(((Bk a n).length:Int)==(a.length:Int))=false:=Yt
    have E:Hid (∃x∈a,x.name=n):=hex;clear zE hex F h f;go_wp2;refine bodyPost_ret (v:=.agg #[Ze,Zg s,Zg now,Zg d,Zg b,.slice m r o,Yz g (Bk a n).length c,.slice j pn l,Zc,Ze,Zc,Zc]) (by simp[results,results125,go_sem,y0,y1,y2,y3,y4,y5,y6,y7,y8,y9,R,S]) rfl ?_
    have T':=(Tn.set (V:=[w.heap.size,w.heap.size+1]) wr w.heap.size 5 (Yz g (Bk a n).length c) Yu).trans (Tn.mono (BR (wr.setCell (Zd (w.heap.size) 5) (Yz g (Bk a n).length c)) (w.heap.size+1) Ze (Zg s) (Zg now) (Zg d) (Zg b) (.slice m r o) (Yz g (Bk a n).length c) (.slice j pn l) Zc Ze Zc Zc) Yu)
    exact⟨z.o.trans (T'.below z.o.size (by intro v Y;simp at Y;omega)),.inr ⟨E.o,g,c,rfl,(As T.o (fun q B=>T'.block q (Ad T.o B).2 (by have:=(Ad T.o B).1;simp;omega))).mono Yv⟩⟩
   .have zB:(Bk a n).length=a.length:=(KW a n).2 hex;have B:(((Bk a n).length:Int)==(a.length:Int))=true:=Yt
    have E:Hid (¬∃x∈a,x.name=n):=hex;clear zB hex F h f;go_wp2;refine bodyPost_ret (v:=.agg (Yg 5)) (by simp[results,results125,go_sem,y0,y1,y2,y3,y4,y5,y6,y7,y8,y9,R,S]) rfl ?_;exact⟨z.o.trans (Tn.below (BR wr (w.heap.size+1) _ _ _ _ _ _ _ _ _ _ _ _) z.o.size (by intro v Y;simp at Y;omega)),.inl ⟨E.o,rfl⟩⟩
theorem Ch{e:TypeId}{size:Nat}{v:Value}{f:Zj}(h:w.ownsRow b e size v n f){g:Nat}(c:v.ownBlock=some g):∃a,w.heap[g]?=some (.cells a e):=by
 rcases h.2 with⟨rfl,_⟩|⟨i,cap,a,rfl,_,d,_⟩
 .cases c
 .cases c;exact⟨a,d⟩
theorem DU.gj{O P L:Value}{v now g:Int}{s:List Kd}{u:List Pd}{t:List Ld}(h:DU w k d m O P L v now i g s u t){R:Nat}{l:Array Value}(j:w.heap[R]?=some (.cells l 134))(r:R≠d):R∉vB d m O P L/\NS w R:=by
 refine⟨fun a=> ?_,fun l fz e=>by rw[j]at e;cases e⟩;unfold vB at a;simp only[List.mem_cons,List.mem_append,Option.mem_toList]at a;rcases a with a|a|a|a|a
 .exact r a
 .obtain⟨n,f,_,q,_⟩:=h.dr.map;obtain⟨D,⟨x,clock,o,_⟩,_⟩:=q;rw[<-a,j]at o;cases o
 .obtain⟨c,b⟩:=Ch h.dr.ord a;rw[j]at b;cases b
 .obtain⟨c,b⟩:=Ch h.dr.du a;rw[j]at b;cases b
 .obtain⟨c,b⟩:=Ch h.dr.gi a;rw[j]at b;cases b
def BC(ps:List Pd)(n s:Zi):List Pd:=ps.filter (fun x=>less x.name n)++[⟨n,s⟩]++ps.filter (fun x=> !(less x.name n)&& !decide (x.name=n))
def Ds(ps:List Pd)(n:Zi):Bool:= !(ps.all (fun x=>less x.name n))
def BK(ps:List Pd)(n s:Zi):List Pd:=ps.filter (fun x=>less x.name n)++(if Ds ps n then [⟨n,s⟩]else [])++ps.filter (fun x=> !(less x.name n)&& !decide (x.name=n))
theorem GJ(n:Zi)(c:a[k]?=some x):Ds (a.take (k+1)) n=(Ds (a.take k) n|| !(less x.name n)):=by obtain⟨b,rfl⟩:=Zw c;unfold Ds;rw[Zu b,List.all_append];simp
theorem Fa{n:Zi}(h:Ds a n=false):a.filter (fun x=> !(less x.name n)&& !decide (x.name=n))=[]:=by
 rw[List.filter_eq_nil_iff];intro x b;have:less x.name n=true:=by unfold Ds at h;simp only[Bool.not_eq_false']at h;exact List.all_eq_true.1 h x b
 simp[this]
theorem PT(n s:Zi)(e:a[k]?=some x)(c:Ds (a.take k) n=false)(d:less x.name n=true):BK (a.take (k+1)) n s=BK (a.take k) n s++[x]:=by have b:=GJ n e;rw[c,d]at b;unfold BK;rw[Fa c,Fa (by rw[b];rfl),b,c];obtain⟨f,rfl⟩:=Zw e;rw[Zu f,List.filter_append];simp[d]
theorem Uw(n s:Zi)(e:a[k]?=some x)(b:Ds (a.take k) n=false)(d:less x.name n=false):BK (a.take (k+1)) n s=BK (a.take k) n s++[⟨n,s⟩]++(if x.name=n then []else [x]):=by
 have c:=GJ n e;rw[b,d]at c;unfold BK;rw[Fa b,c,b];have g:=Fa b;obtain⟨f,rfl⟩:=Zw e;rw[Zu f,List.filter_append,List.filter_append,g];by_cases hn:a[k].name=n
 .simp[hn,BU]
 .simp[d,hn]
theorem Rf{d:List Pd}(n s:Zi)(g:d.Pairwise (fun a b=>less a.name b.name=true))(q:d[k]?=some x)(i:Ds (d.take k) n=true):x.name≠n/\BK (d.take (k+1)) n s=BK (d.take k) n s++[x]:=by
 have m:=GJ n q;rw[i,Bool.true_or]at m;obtain⟨l,rfl⟩:=Zw q;obtain⟨y,z,f⟩:∃y∈d.take k,less y.name n=false:=by unfold Ds at i;simpa using i
 obtain⟨j,u⟩:=List.getElem?_of_mem z;obtain⟨r,e⟩:=Zw u;rw[List.length_take]at r;rw[List.getElem_take]at e;have c:=List.pairwise_iff_getElem.1 g j k Yv l Yv;rw[e]at c;have v:less d[k].name n=false:=by
  cases h:less d[k].name n with
  |false=>rfl
  |true=>rw[Cm c h]at f;cases f
 have o:d[k].name≠n:=fun t=>by rw[t]at c;rw[c]at f;cases f
 refine⟨o,?_⟩;unfold BK;rw[m,i,Zu l,List.filter_append,List.filter_append];simp[v,o]
theorem SJ(n s:Zi)(b:Ds a n=true):BK a n s=BC a n s:=by unfold BK BC;rw[b];rfl
theorem Ux(n s:Zi)(b:Ds a n=false):BK a n s++[⟨n,s⟩]=BC a n s:=by unfold BK BC;rw[b,Fa b];simp
theorem Kq(a:List Pd)(n s:Zi):(BK a n s).length<=a.length+1:=by
 have h:∀(l:List Pd),(l.filter (fun x=>less x.name n)).length+(l.filter (fun x=> !(less x.name n)&& !decide (x.name=n))).length<=l.length:=by
  intro l;induction l with
  |nil=>simp
  |cons x l ih=>rw[List.filter_cons,List.filter_cons];cases less x.name n<;>by_cases hn:x.name=n<;>simp[hn]<;>omega
 have:=h a;unfold BK;rw[List.length_append,List.length_append];split<;>simp<;>omega
def Uc(w w':Zh)(e:Ending)(wd now given births:Int)(T L:Value)(ps:List Pd)(n s:Zi):Prop:=
 Below w.heap.size w w'/\((100<(BC ps n s).length/\e=.returned (.agg #[Zg 4,Ze,Ze,Ze,Ze,Zb,Zb,Zb,Zc,Ze,Zc,Zc]))\/
  ((BC ps n s).length<=100/\∃g c,e=.returned (.agg #[Ze,Zg wd,Zg now,Zg given,Zg births,T,.slice (some ⟨g,0,none⟩) (BC ps n s).length c,L,Zc,Ze,Zc,Zc])/\w'.ownsRow w.heap.size 58 2 (.slice (some ⟨g,0,none⟩) (BC ps n s).length c) (BC ps n s).length (Ai pC (BC ps n s))))
theorem Rg(L now j h kind num:Int)(ta pa la ra:Zk)(tc pc lc ln rn rc:Nat)(R:List Kd)(d:List Pd)(n s T:Zi)(w:Zh)(yS:AI w w.heap.size ta R)(zX:AO w w.heap.size pa d)(xN:R.length<=1000)(hl:d.length<=1000)(yU:Aw R s)(zH:d.Pairwise (fun a b=>less a.name b.name=true)):
 Calls prog 124 #[.agg (Yj L now j h ta R.length tc pa d.length pc la ln lc),.agg (Ye kind s n num T ra rn rc)] w fun e w'=>Uc w w' e L now j h (.slice ta R.length tc) (.slice la ln lc) d n s:=by
 obtain⟨W,hW⟩:∃W,W=((w.alloc (.cells (Yj L now j h ta R.length tc pa d.length pc la ln lc) 27)).alloc (.cells (Ye kind s n num T ra rn rc) 162)).alloc (.cells Yi 134):=⟨_,rfl⟩;have bW:=(CZ hW).1;have xD:=(CZ hW).2.1;have x0:=(CZ hW).2.2.1;have xe:Aa W (w.heap.size+1) (Yd kind s n num T ra rn rc):=by have h1:=Aa.new (w.alloc (.cells (Yj L now j h ta R.length tc pa d.length pc la ln lc) 27)) (Yd kind s n num T ra rn rc) 162;rw[World.size_alloc]at h1;rw[hW];exact Aa.below h1 (Zy)
 have x1:Aa W (w.heap.size+2) z12:=by have h1:=Aa.new ((w.alloc (.cells (Yj L now j h ta R.length tc pa d.length pc la ln lc) 27)).alloc (.cells (Ye kind s n num T ra rn rc) 162)) z12 134;rw[World.size_alloc,World.size_alloc]at h1;rw[hW];exact h1
 have yO:=Yw (Cn L now j h ta tc (.slice pa d.length pc) (.slice la ln lc) R s W w.heap.size (AI.below yS bW) bW.size Yv);have xL:¬BX R s<0:=by
  rcases BV R s with⟨_,hn⟩|⟨i,k,e,_⟩
  .exact absurd yU hn
  .omega
 have o:Hid (∀X,Below (w.heap.size+3) W X->Aa X w.heap.size (Yh L now j h ta R.length tc pa d.length pc la ln lc)/\Aa X (w.heap.size+1) (Yd kind s n num T ra rn rc)/\Aa X (w.heap.size+2) z12):=fun X hX=>⟨Aa.same x0 (hX.block _ Yv),Aa.same xe (hX.block _ Yv),Aa.same x1 (hX.block _ Yv)⟩;have HW:=Yw hW;have f:w.heap.size+3<=W.heap.size:=Yv
 have HR:Hid (AO w w.heap.size pa d):=zX;have yN:Hid (Zz w W):=bW;have yY:=Yw zH;obtain⟨v0,u,y,z,A,B,C,Y⟩:=AS x0;obtain⟨t,_⟩:=xe 1 _ rfl;clear hW xD x0 x1 xe zX bW yS yU zH;go_enter func124,ntmps124;go_upto_region 1 with fail;rw[<-HW.o];clear HW;go_wp2_with fail;refine Calls.mono yO.o ?_;rintro e W1 ⟨rfl,yC⟩;have yL:w.heap.size+3<=W1.heap.size:=Zm f yC.size
 have yW:Hid (Below (w.heap.size+3) W W1):=yC.mono f;have bA:Below W1.heap.size W1 (W1.alloc (.cells #[] 58)):=Zy;have yP:Hid ((W1.alloc (.cells #[] 58)).ownsRow (w.heap.size+3) 58 2 (Yz W1.heap.size 0 0) 0 []):=World.ownsRow_lit (base:=w.heap.size+3) (e:=58) (size:=2) W1 #[] 0 Yv Yp rfl
 have yM:Hid (Below (w.heap.size+3) W (W1.alloc (.cells #[] 58))):=yW.o.trans (bA.mono yL);generalize BX R s=fi at *
 clear yO bA yC t v0 u y z A B C Y;go_wp2
 go_loopw [5,6,7] (fun v dn i wr=>∃(k g c:Nat),k<=d.length/\i=Zg k/\dn=.bool (Ds (d.take k) n)/\v=Yz g (BK (d.take k) n s).length c/\Hid (wr.ownsRow (w.heap.size+3) 58 2 (Yz g (BK (d.take k) n s).length c) (BK (d.take k) n s).length (Ai pC (BK (d.take k) n s))/\Below (w.heap.size+3) W wr)) (fun _ _ i _=>d.length -(intOf i).toNat)
 case atStart=>exact⟨0,W1.heap.size,0,Nat.zero_le _,rfl,rfl,by simp[BK,Ds],⟨by simpa [BK,Ds,Ai]using yP.o,yM.o⟩⟩
 case round=>
  clear yP yM;obtain⟨k,g,c,hk,rfl,rfl,rfl,S⟩:=hrel;have zO:Below w.heap.size w wr:=yN.o.trans (S.o.2.mono Yv);have yE:w.heap.size+3<=wr.heap.size:=Zm f S.o.2.size;obtain⟨v0,u,y,z,A,B,C,Y⟩:=AS (o.o _ S.o.2).1;obtain⟨t,G⟩:=Aa.c2 ((o.o _ S.o.2).2.1) 1 2;by_cases hlt:k<d.length
  .obtain⟨P,off,ha,hb,yQ⟩:=(AO.below HR.o zO).at hlt;subst ha;have HG:Hid (d[k]?=some d[k]):=Zv hlt;obtain⟨H,I⟩:=yQ k _ HG.o;have yX:∀X,Below (w.heap.size+3) W X->X.cell? (Zd P (off+k *2))=some (.string d[k].name)/\X.cell? (Zd P (off+k *2+1))=some (.string d[k].sum):=fun X hX=>by obtain⟨b2,xI,e2,_,xB⟩:=(AO.below HR.o (yN.o.trans (hX.mono Yv))).at hlt;cases e2;exact xB k _ HG.o
   have xM:(BK (d.take k) n s).length<=1001:=by have:=Kq (d.take k) n s;rw[List.length_take]at this;omega
   have yK:P<wr.heap.size:=by have:=zO.size;omega
   clear yQ;have J:=Yw (PT n s HG.o);have zM:=Yw (Uw n s HG.o);have M:=Yw (Rf n s yY.o HG.o);have HD:=Yw (GJ n HG.o);generalize d[k]=x at *
   generalize hGk:BK (d.take k) n s=gk at *
   generalize hDk:Ds (d.take k) n=dk at *
   have xJ:=Yw hGk;clear hGk hDk;have HC:=Yw yX;have zC:=S.o.2;have yB:=S.o.1;have xS:=yE;have xQ:=yK;cases dk with
   |true=>
    obtain⟨O,hE⟩:=M.o rfl;have HE:=Yw hE;have zI:Hid (Ds (d.take (k+1)) n=true):=by show _=_;rw[HD.o];rfl
    have zJ:(x.name.toList==n.toList)=false:=By O;have hq:(x.name.toList !=n.toList)=true:=by simp[bne,zJ]
    clear hE J zM M O S;go_wp2;go_quiet (fail);have K:Below wr.heap.size wr (wr.drewN nq):=AM (Below.refl _ _) _;generalize wr.drewN nq=wa at *
    have m:Below (w.heap.size+3) W wa:=zC.trans (K.mono (Zm f zC.size));have zA:=Ap yB K;have zG:w.heap.size+3<=wa.heap.size:=Zm f m.size;have yF:P<wa.heap.size:=Yv
    clear H I t G v0 u y z A B C;obtain⟨v0,u,y,z,A,B,C,Y⟩:=AS (o.o _ m).1;obtain⟨t,G⟩:=Aa.c2 ((o.o _ m).2.1) 1 2;obtain⟨H,I⟩:=HC.o wa m;go_wp2;go_quiet (fail);have K:Below wa.heap.size wa (wa.drewN nq):=AM (Below.refl _ _) _;generalize wa.drewN nq=wb at *
    have U:Below (w.heap.size+3) W wb:=m.trans (K.mono (Zm f m.size));have zP:=Ap zA K;have zU:w.heap.size+3<=wb.heap.size:=Zm f U.size;have xE:P<wb.heap.size:=Yv
    clear H I t G v0 u y z A B C;obtain⟨v0,u,y,z,A,B,C,Y⟩:=AS (o.o _ U).1;obtain⟨t,G⟩:=Aa.c2 ((o.o _ U).2.1) 1 2;obtain⟨H,I⟩:=HC.o wb U;obtain⟨g8,r,wc,F,E,D,_⟩:=Ig wb (w.heap.size+3) _ gk zP x Ym zU 24;have l:Below (w.heap.size+3) W wc:=U.trans ((Below.refl _ _).grown D zU (fun q e=>(Ad zP e).1));have yH:w.heap.size+3<=wc.heap.size:=Zm f l.size
    have yG:P<wc.heap.size:=Yv
    have zB:=E;clear E D;go_wp2_with (at_builtin;refine wpList_append_run rfl _ _ 24 24 rfl rfl rfl F ?_);clear F;clear H I t G v0 u y z A B C;obtain⟨v0,u,y,z,A,B,C,Y⟩:=AS (o.o _ l).1;obtain⟨t,G⟩:=Aa.c2 ((o.o _ l).2.1) 1 2;obtain⟨H,I⟩:=HC.o wc l;have N:=Yw (Zn zB l);clear zB l;go_wp2
    exact⟨⟨k+1,g8,r,Yv,Yo,by rw[zI.o],by rw[HE.o];simp,⟨by rw[HE.o];simpa using N.o.1,N.o.2⟩⟩,by simp[intOf];omega⟩
   |false=>
    cases hless:Op.bytesLess x.name.toList n.toList with
    |true=>
     have HE:=Yw (J.o rfl hless);have zI:Hid (Ds (d.take (k+1)) n=false):=by show _=_;rw[HD.o];unfold less;rw[hless];rfl
     have O:x.name≠n:=fun e=>by have:=BU n;unfold less at this;rw[e,this]at hless;cases hless
     have zJ:(x.name.toList==n.toList)=false:=By O;have hq:(x.name.toList !=n.toList)=true:=by simp[bne,zJ]
     clear J zM M O S;go_wp2;go_quiet (fail);have K:Below wr.heap.size wr (wr.drewN nq):=AM (Below.refl _ _) _;generalize wr.drewN nq=wa at *
     have m:Below (w.heap.size+3) W wa:=zC.trans (K.mono (Zm f zC.size));have zA:=Ap yB K;have zG:w.heap.size+3<=wa.heap.size:=Zm f m.size;have yF:P<wa.heap.size:=Yv
     clear H I t G v0 u y z A B C;obtain⟨v0,u,y,z,A,B,C,Y⟩:=AS (o.o _ m).1;obtain⟨t,G⟩:=Aa.c2 ((o.o _ m).2.1) 1 2;obtain⟨H,I⟩:=HC.o wa m;go_wp2;go_quiet (fail);have K:Below wa.heap.size wa (wa.drewN nq):=AM (Below.refl _ _) _;generalize wa.drewN nq=wb at *
     have U:Below (w.heap.size+3) W wb:=m.trans (K.mono (Zm f m.size));have zP:=Ap zA K;have zU:w.heap.size+3<=wb.heap.size:=Zm f U.size;have xE:P<wb.heap.size:=Yv
     clear H I t G v0 u y z A B C;obtain⟨v0,u,y,z,A,B,C,Y⟩:=AS (o.o _ U).1;obtain⟨t,G⟩:=Aa.c2 ((o.o _ U).2.1) 1 2;obtain⟨H,I⟩:=HC.o wb U;obtain⟨g8,r,wc,F,E,D,_⟩:=Ig wb (w.heap.size+3) _ gk zP x Ym zU 24;have l:Below (w.heap.size+3) W wc:=U.trans ((Below.refl _ _).grown D zU (fun q e=>(Ad zP e).1));have yH:w.heap.size+3<=wc.heap.size:=Zm f l.size
     have yG:P<wc.heap.size:=Yv
     have zB:=E;clear E D;go_wp2_with (at_builtin;refine wpList_append_run rfl _ _ 24 24 rfl rfl rfl F ?_);clear F;clear H I t G v0 u y z A B C;obtain⟨v0,u,y,z,A,B,C,Y⟩:=AS (o.o _ l).1;obtain⟨t,G⟩:=Aa.c2 ((o.o _ l).2.1) 1 2;obtain⟨H,I⟩:=HC.o wc l;have N:=Yw (Zn zB l);clear zB l;go_wp2
     exact⟨⟨k+1,g8,r,Yv,Yo,by rw[zI.o],by rw[HE.o];simp,⟨by rw[HE.o];simpa using N.o.1,N.o.2⟩⟩,by simp[intOf];omega⟩
    |false=>
     have zZ:=Yw (zM.o rfl hless);have zI:Hid (Ds (d.take (k+1)) n=true):=by show _=_;rw[HD.o];unfold less;rw[hless];rfl
     by_cases O:x.name=n
     .have zJ:(x.name.toList==n.toList)=true:=by rw[O];simp
      have hq:(x.name.toList !=n.toList)=false:=by rw[O];simp
      have HE:Hid (BK (d.take (k+1)) n s=gk++[⟨n,s⟩]):=by show _=_;rw[zZ.o,if_pos O,List.append_nil]
      clear J zM M O S zZ;go_wp2;go_quiet (fail);have K:Below wr.heap.size wr (wr.drewN nq):=AM (Below.refl _ _) _;generalize wr.drewN nq=wa at *
      have m:Below (w.heap.size+3) W wa:=zC.trans (K.mono (Zm f zC.size));have zA:=Ap yB K;have zG:w.heap.size+3<=wa.heap.size:=Zm f m.size;have yF:P<wa.heap.size:=Yv
      clear H I t G v0 u y z A B C;obtain⟨v0,u,y,z,A,B,C,Y⟩:=AS (o.o _ m).1;obtain⟨t,G⟩:=Aa.c2 ((o.o _ m).2.1) 1 2;obtain⟨H,I⟩:=HC.o wa m;obtain⟨g8,r,wc,F,E,D,_⟩:=Ig wa (w.heap.size+3) _ gk zA ⟨n,s⟩ Ym zG 24;have l:Below (w.heap.size+3) W wc:=m.trans ((Below.refl _ _).grown D zG (fun q e=>(Ad zA e).1));have yH:w.heap.size+3<=wc.heap.size:=Zm f l.size
      have yG:P<wc.heap.size:=Yv
      have zB:=E;clear E D;go_wp2_with (at_builtin;refine wpList_append_run rfl _ _ 24 24 rfl rfl rfl F ?_);clear F;clear H I t G v0 u y z A B C;obtain⟨v0,u,y,z,A,B,C,Y⟩:=AS (o.o _ l).1;obtain⟨t,G⟩:=Aa.c2 ((o.o _ l).2.1) 1 2;obtain⟨H,I⟩:=HC.o wc l;go_wp2;go_quiet (fail);have K:Below wc.heap.size wc (wc.drewN nq):=AM (Below.refl _ _) _;generalize wc.drewN nq=L at *
      have Q:Below (w.heap.size+3) W L:=l.trans (K.mono (Zm f l.size));have zR:=Ap zB K;have yI:w.heap.size+3<=L.heap.size:=Zm f Q.size;have xF:P<L.heap.size:=Yv
      clear H I t G v0 u y z A B C;obtain⟨v0,u,y,z,A,B,C,Y⟩:=AS (o.o _ Q).1;obtain⟨t,G⟩:=Aa.c2 ((o.o _ Q).2.1) 1 2;obtain⟨H,I⟩:=HC.o L Q;have N:=Yw (Zn zR Q);clear zR Q;go_wp2;exact⟨⟨k+1,g8,r,Yv,Yo,by rw[zI.o],by rw[HE.o];simp,⟨by rw[HE.o];simpa using N.o.1,N.o.2⟩⟩,by simp[intOf];omega⟩
     .have zJ:(x.name.toList==n.toList)=false:=By O;have hq:(x.name.toList !=n.toList)=true:=by simp[bne,zJ]
      have HE:Hid (BK (d.take (k+1)) n s=(gk++[⟨n,s⟩])++[x]):=by show _=_;rw[zZ.o,if_neg O]
      clear J zM M O S zZ;go_wp2;go_quiet (fail);have K:Below wr.heap.size wr (wr.drewN nq):=AM (Below.refl _ _) _;generalize wr.drewN nq=wa at *
      have m:Below (w.heap.size+3) W wa:=zC.trans (K.mono (Zm f zC.size));have zA:=Ap yB K;have zG:w.heap.size+3<=wa.heap.size:=Zm f m.size;have yF:P<wa.heap.size:=Yv
      clear H I t G v0 u y z A B C;obtain⟨v0,u,y,z,A,B,C,Y⟩:=AS (o.o _ m).1;obtain⟨t,G⟩:=Aa.c2 ((o.o _ m).2.1) 1 2;obtain⟨H,I⟩:=HC.o wa m;obtain⟨g8,r,wc,F,E,D,_⟩:=Ig wa (w.heap.size+3) _ gk zA ⟨n,s⟩ Ym zG 24;have l:Below (w.heap.size+3) W wc:=m.trans ((Below.refl _ _).grown D zG (fun q e=>(Ad zA e).1));have yH:w.heap.size+3<=wc.heap.size:=Zm f l.size
      have yG:P<wc.heap.size:=Yv
      have zB:=E;clear E D;go_wp2_with (at_builtin;refine wpList_append_run rfl _ _ 24 24 rfl rfl rfl F ?_);clear F;clear H I t G v0 u y z A B C;obtain⟨v0,u,y,z,A,B,C,Y⟩:=AS (o.o _ l).1;obtain⟨t,G⟩:=Aa.c2 ((o.o _ l).2.1) 1 2;obtain⟨H,I⟩:=HC.o wc l;go_wp2;go_quiet (fail);have K:Below wc.heap.size wc (wc.drewN nq):=AM (Below.refl _ _) _;generalize wc.drewN nq=L at *
      have Q:Below (w.heap.size+3) W L:=l.trans (K.mono (Zm f l.size));have zR:=Ap zB K;have yI:w.heap.size+3<=L.heap.size:=Zm f Q.size;have xF:P<L.heap.size:=Yv
      clear H I t G v0 u y z A B C;obtain⟨v0,u,y,z,A,B,C,Y⟩:=AS (o.o _ Q).1;obtain⟨t,G⟩:=Aa.c2 ((o.o _ Q).2.1) 1 2;obtain⟨H,I⟩:=HC.o L Q;obtain⟨g9,yJ,we,zY,zW,zV,_⟩:=Ig L (w.heap.size+3) _ (gk++[⟨n,s⟩]) zR x Ym yI 24;have zK:Below (w.heap.size+3) W we:=Q.trans ((Below.refl _ _).grown zV yI (fun q e=>(Ad zR e).1));have xR:w.heap.size+3<=we.heap.size:=Zm f zK.size
      have xP:P<we.heap.size:=Yv
      have yV:=zW;clear zW zV;go_wp2_with (at_builtin;refine wpList_append_run rfl _ _ 24 24 rfl rfl rfl zY ?_);clear zY;clear H I t G v0 u y z A B C;obtain⟨v0,u,y,z,A,B,C,Y⟩:=AS (o.o _ zK).1;obtain⟨t,G⟩:=Aa.c2 ((o.o _ zK).2.1) 1 2;obtain⟨H,I⟩:=HC.o we zK;have N:=Yw (Zn yV zK);clear yV zK;go_wp2
      exact⟨⟨k+1,g9,yJ,Yv,Yo,by rw[zI.o],by rw[HE.o];simp,⟨by rw[HE.o];simpa using N.o.1,N.o.2⟩⟩,by simp[intOf];omega⟩
  .obtain rfl:k=d.length:=Yv
   have hO:=S.o.1;rw[Zt (Zx)]at hO |-;have Z:Hid (Zz w wr):=zO;cases hDn:Ds d n with
   |true=>
    have zF:=SJ n s hDn;rw[zF]at hO |-;have N:=Yw hO;have xA:=Kq d n s;rw[zF]at xA;have f5:=((o.o _ S.o.2).1 5 _ rfl).2;obtain⟨⟨y0,q0⟩,⟨y1,q1⟩,⟨y2,q2⟩,⟨y3,q3⟩,⟨y4,q4⟩,⟨y5,q5⟩,⟨y6,q6⟩,⟨y7,q7⟩,⟨y8,q8⟩,⟨y9,q9⟩,⟨zS,xG⟩,zT,xH⟩:=BL (o.o _ S.o.2).2.2;clear hDn zF zO S t G;by_cases hbig:100<(BC d n s).length
    .have hq:(100:Int)<((BC d n s).length:Int):=Yv
     have zE:Hid (100<(BC d n s).length):=hbig;clear hbig hO;go_wp2;refine bodyPost_ret (v:=.agg (Yg 4)) (by simp[results,results124,go_sem,y0,y1,y2,y3,y4,y5,y6,y7,y8,y9,zS,zT]) rfl ?_;exact⟨Z.o.trans (Tn.below (BR wr (w.heap.size+2) _ _ _ _ _ _ _ _ _ _ _ _) Z.o.size (by intro v hv;simp at hv;omega)),.inl ⟨zE.o,rfl⟩⟩
    .have hq:¬(100:Int)<((BC d n s).length:Int):=Yv
     have zE:Hid ((BC d n s).length<=100):=by show _<=_;omega
     clear hbig hO;go_wp2;refine bodyPost_ret (v:=.agg #[Ze,Zg L,Zg now,Zg j,Zg h,.slice ta R.length tc,Yz g (BC d n s).length c,.slice la ln lc,Zc,Ze,Zc,Zc]) (by simp[results,results124,go_sem,y0,y1,y2,y3,y4,y5,y6,y7,y8,y9,zS,zT]) rfl ?_
     have T':=(Tn.set (V:=[w.heap.size,w.heap.size+2]) wr w.heap.size 5 (Yz g (BC d n s).length c) Yu).trans (Tn.mono (BR (wr.setCell (Zd (w.heap.size) 5) (Yz g (BC d n s).length c)) (w.heap.size+2) Ze (Zg L) (Zg now) (Zg j) (Zg h) (.slice ta R.length tc) (Yz g (BC d n s).length c) (.slice la ln lc) Zc Ze Zc Zc) Yu)
     exact⟨Z.o.trans (T'.below Z.o.size (by intro v hv;simp at hv;omega)),.inr ⟨zE.o,g,c,rfl,(As N.o (fun q hq=>T'.block q (Ad N.o hq).2 (by have:=(Ad N.o hq).1;simp;omega))).mono Yv⟩⟩
   |false=>
    have xK:=Kq d n s;have zF:=Ux n s hDn;obtain⟨g8,r,w8,yT,yD,yR,xC⟩:=Ig wr (w.heap.size+3) _ (BK d n s) hO ⟨n,s⟩ Yv yE 24;have b8:Below (w.heap.size+3) wr w8:=(Below.refl _ _).grown yR yE (fun q e=>(Ad hO e).1);have yA:Below (w.heap.size+3) W w8:=S.o.2.trans b8;have Z:Hid (Zz w w8):=Z.o.trans (b8.mono Yv)
    have zN:Hid ((BC d n s).length=(BK d n s).length+1):=by show _=_;rw[<-zF];simp
    rw[zF,zN.o]at yD;have N:=Yw yD;have f5:=((o.o _ yA).1 5 _ rfl).2;obtain⟨⟨y0,q0⟩,⟨y1,q1⟩,⟨y2,q2⟩,⟨y3,q3⟩,⟨y4,q4⟩,⟨y5,q5⟩,⟨y6,q6⟩,⟨y7,q7⟩,⟨y8,q8⟩,⟨y9,q9⟩,⟨zS,xG⟩,zT,xH⟩:=BL (o.o _ yA).2.2;obtain⟨z0,z1,z2,z3,z4,z5,z6,z7⟩:=AS (o.o _ yA).1;clear hDn zF zO S b8 yR xC yD yA hO;by_cases hbig:100<((BK d n s).length+1)
    .have hq:(100:Int)<((BK d n s).length:Int)+1:=Yv
     have zE:Hid (100<(BC d n s).length):=by show _<_;rw[zN.o];exact hbig
     clear hbig;go_wp2_with (at_builtin;refine wpList_append_run rfl _ _ 24 24 rfl rfl rfl yT ?_);refine bodyPost_ret (v:=.agg (Yg 4)) (by simp[results,results124,go_sem,y0,y1,y2,y3,y4,y5,y6,y7,y8,y9,zS,zT]) rfl ?_;exact⟨Z.o.trans (Tn.below (BR w8 (w.heap.size+2) _ _ _ _ _ _ _ _ _ _ _ _) Z.o.size (by intro v hv;simp at hv;omega)),.inl ⟨zE.o,rfl⟩⟩
    .have hq:¬(100:Int)<((BK d n s).length:Int)+1:=Yv
     have xO:¬(100:Int)<(((BK d n s).length+1:Nat):Int):=Yv
     have zE:Hid ((BC d n s).length<=100):=by show _<=_;rw[zN.o];omega
     clear hbig;go_wp2_with (at_builtin;refine wpList_append_run rfl _ _ 24 24 rfl rfl rfl yT ?_);refine bodyPost_ret (v:=.agg #[Ze,Zg L,Zg now,Zg j,Zg h,.slice ta R.length tc,Yz g8 ((BK d n s).length+1) r,.slice la ln lc,Zc,Ze,Zc,Zc]) (by simp[results,results124,go_sem,y0,y1,y2,y3,y4,y5,y6,y7,y8,y9,zS,zT]) rfl ?_
     have T':=(Tn.set (V:=[w.heap.size,w.heap.size+2]) w8 w.heap.size 5 (Yz g8 ((BK d n s).length+1) r) Yu).trans (Tn.mono (BR (w8.setCell (Zd (w.heap.size) 5) (Yz g8 ((BK d n s).length+1) r)) (w.heap.size+2) Ze (Zg L) (Zg now) (Zg j) (Zg h) (.slice ta R.length tc) (Yz g8 ((BK d n s).length+1) r) (.slice la ln lc) Zc Ze Zc Zc) Yu)
     have yZ:=(As N.o (fun q hq=>T'.block q (Ad N.o hq).2 (by have:=(Ad N.o hq).1;simp;omega))).mono (show w.heap.size<=w.heap.size+3 by omega);refine⟨Z.o.trans (T'.below Z.o.size (by intro v hv;simp at hv;omega)),.inr ⟨zE.o,g8,r,by rw[zN.o],?_⟩⟩;rw[zN.o];exact yZ
theorem IK(g:Nat):∀(vs:Zj) (o:Nat) (w:Zh),(w.setCells g o vs).heap.size=w.heap.size
 |[],_,_=>rfl
 |v::r,o,w=>by rw[World.setCells,IK g r];simp[World.setCell]
section
open Go.ChangeShapes Go.WideShapes Go.ChangeAt Go.RowKit Go.Lib
end
def EH(ks:List Kd)(x:Kd):List Kd:=ks.filter (fun k=>less k.sum x.sum)++[x]++ks.filter (fun k=> !(less k.sum x.sum))
theorem Ih{a:List Kd}{x u:Kd}:u∈EH a x↔u∈a++[x]:=by
 unfold EH;simp only[List.mem_append,List.mem_filter,List.mem_singleton];cases less u.sum x.sum<;>simp
 .constructor
  .rintro(h|h)
   .exact .inr h
   .exact .inl h
  .rintro(h|h)
   .exact .inr h
   .exact .inl h
theorem SK(a:List Kd)(x:Kd):(EH a x).length=a.length+1:=by
 unfold EH;rw[List.length_append,List.length_append];have:∀l:List Kd,(l.filter (fun k=>less k.sum x.sum)).length+(l.filter (fun k=> !(less k.sum x.sum))).length=l.length:=by
  intro l;induction l with
  |nil=>rfl
  |cons y l ih=>cases h:less y.sum x.sum<;>simp[h]<;>omega
 have:=this a;simp;omega
theorem Holds.same{W:Zh}{a:List Kd}{f:Lit->Option Value}(h:Holds W B i g f)(d:∀u,u∈a↔u∈g):Holds W B i a f:=by
 intro s j;rcases h s j with⟨b,c⟩|⟨u,l,m,b,c⟩
 .exact .inl ⟨b,fun⟨k,hk,e⟩=>c ⟨k,(d k).1 hk,e⟩⟩
 .exact .inr ⟨u,l,m,(d u).2 b,c⟩
theorem AP.less{K:TypeId}{f j:Lit->Option Value}(h:AP w K b n f)(k:AP w K b d j):AP w K b d f:=by obtain⟨D,⟨i,g,c,o,_,m⟩,l⟩:=h;obtain⟨t,⟨r,q,a,s,e,_⟩,_⟩:=k;rw[c]at a;cases a;exact⟨D,⟨i,g,c,o,e,m⟩,l⟩
section
open Go.ChangeShapes Go.WideShapes Go.ChangeAt Go.RowKit Go.Lib
end
theorem Ca.snoc{a:Nat}{c:Int}{j:List Kd}{f:Lit->Option Value}(h:Ca w a V c j f){x:Kd}{i:Zk}{rc:Nat}(v:(x.sum.size:Int)=c)(t:c<=8)(q:FT w a V i x.B):Ca w a V c (j++[x]) (upd f (keyL x.sum) (CE x i rc)):=by
 intro s r;by_cases he:keyL s=keyL x.sum
 .have:s=x.sum:=key_inj he Yv Yv;subst this;exact .inr ⟨x,i,rc,Yu,rfl,CG _ _ _,q⟩
 .rw[CO _ _ he];have k:x.sum≠s:=fun e=>he (by rw[e]);rcases h s r with⟨d,g⟩|⟨u,l,m,d,g,n,o⟩
  .refine .inl ⟨d,fun⟨u,b,e⟩=> ?_⟩;rcases List.mem_append.1 b with b|b
   .exact g ⟨u,b,e⟩
   .simp at b;subst b;exact k e
  .exact .inr ⟨u,l,m,by simp[d],g,n,o⟩
theorem Ca.same{base:Nat}{a:List Kd}{f:Lit->Option Value}(h:Ca w base V i g f)(d:∀u,u∈a↔u∈g):Ca w base V i a f:=by
 intro s j;rcases h s j with⟨b,c⟩|⟨u,l,m,b,c⟩
 .exact .inl ⟨b,fun⟨k,hk,e⟩=>c ⟨k,(d k).1 hk,e⟩⟩
 .exact .inr ⟨u,l,m,(d u).2 b,c⟩
def Vo(w:Zh)(base:Nat)(V:List Nat)(m:Nat)(wd births:Int)(ks:List Kd):Prop:=∃n f,n<=1000000+births.toNat/\AP w 52 m n f/\Ca w base V wd ks f
theorem Vo.I{j:Zh}{c:Nat}{U:List Nat}{k a:Int}{i:List Kd}(h:Vo w c V m k a i)(g:Tn U w j)(q:∀b∈U,b∈V)(r:m∉U):Vo j c V m k a i:=by obtain⟨n,f,l,e,o⟩:=h;exact⟨n,f,l,AP.same e (g.block m e.lt r),o.move g (fun b d=> .inl (q b d)) (fun b d=> .inl d)⟩
theorem HN.below{b:Zh}(h:HN w m N)(d:Zz w b):HN b m N:=by obtain⟨n,f,c,a⟩:=h;exact⟨n,f,c,a.af d a.lt⟩
theorem HN.same{a:Zh}(h:HN w m N)(d:a.heap[m]?=w.heap[m]?):HN a m N:=by obtain⟨n,f,b,c⟩:=h;exact⟨n,f,b,AP.same c d⟩
def Cb(text:Zi)(refs:Zl)(wd:Int):Zi:=Db (AB text refs wd).data.toList wd.toNat
def Cz(wd births:Int)(ks:List Kd)(text:Zi)(refs:Zl)(ks1:List Kd)(ak:Int):Prop:=
 (∃k∈ks,k.sum=Cb text refs wd/\AB k.E k.B wd=AB text refs wd/\ks1=ks/\ak=births)\/
 (¬Aw ks (Cb text refs wd)/\ks.length<600/\births<1000000000/\ks1=EH ks ⟨Cb text refs wd,births+1,text,refs⟩/\ak=births+1)
def GK(wd given births:Int)(ks:List Kd)(ls:List Ld)(text:Zi)(refs:Zl)(c:Int)(a b:Zi):Prop:=
 ((¬∀r∈refs,Aw ks r)/\c=2/\a=⟨#[]⟩/\b=⟨#[]⟩)\/
 ((∀r∈refs,Aw ks r)/\(
   (∃k∈ks,k.sum=Cb text refs wd/\AB k.E k.B wd≠AB text refs wd/\c=3/\a=AB k.E k.B wd/\b=AB text refs wd)\/
   (¬Aw ks (Cb text refs wd)/\(ks.length=600\/births=1000000000)/\c=4/\a=⟨#[]⟩/\b=⟨#[]⟩)\/
   ((∃ks1 ak,Cz wd births ks text refs ks1 ak)/\(ls.length=200\/given=1000000000)/\c=4/\a=⟨#[]⟩/\b=⟨#[]⟩)))
theorem Cz.there{a:Int}{i:List Kd}{c:Zi}{b:Zl}{d:List Kd}(h:Cz e a i c b d ak):Aw d (Cb c b e):=by
 rcases h with⟨k,f,g,_,rfl,_⟩|⟨_,_,_,rfl,_⟩
 .exact⟨k,f,g⟩
 .exact⟨⟨Cb c b e,a+1,c,b⟩,Ih.2 Yu,rfl⟩
theorem Cz.sz{a:Int}{ks:List Kd}{d:Zi}{c:Zl}(h:Cz e a ks d c g ak)(f:∀k∈ks,(k.sum.size:Int)=e)(i:((Cb d c e).size:Int)=e):∀k∈g,(k.sum.size:Int)=e:=by
 rcases h with⟨k,b,j,_,rfl,_⟩|⟨_,_,_,rfl,_⟩
 .exact f
 .intro k b;rcases List.mem_append.1 (Ih.1 b)with b|b
  .exact f k b
  .simp at b;rw[b];exact i
def Uy(w w':Zh)(e:Ending)(wd now given births:Int)(T P L:Value)(ls:List Ld)(s:Zi)(hold:Int)(base:Nat):Prop:=
 Tn L.ownBlock.toList w w'/\(((200<=ls.length\/1000000000<=given)/\e=.returned (.agg #[Zg 4,Ze,Ze,Ze,Ze,Zb,Zb,Zb,Zc,Ze,Zc,Zc]))\/
  ((ls.length<200/\given<1000000000)/\∃g c,e=.returned (.agg #[Ze,Zg wd,Zg now,Zg (given+1),Zg births,T,P,.slice (some ⟨g,0,none⟩) (ls.length+1) c,Zc,Zg (given+1),Zc,Zc])/\w'.ownsRow base 61 3 (.slice (some ⟨g,0,none⟩) (ls.length+1) c) (ls++[(⟨given+1,s,now+hold⟩:Ld)]).length (Ai lC (ls++[(⟨given+1,s,now+hold⟩:Ld)]))/\(L.ownBlock=some g\/w.heap.size<=g)))
theorem GZ(u now a d:Int)(o m j:Zk)(t r pn n k i:Nat)(f:List Ld)(s:Zi)(hold:Int)(w:Zh)(L:w.ownsRow i 61 3 (.slice j f.length k) f.length (Ai lC f))(zA:i<=w.heap.size)(hl:f.length<=1000)(zO:0<=a)(zP:a<=1000000000)(zG:0<=now)(zH:now<=1000000000)(zI:0<=hold)(zJ:hold<=1000000000):
 Calls prog 126 #[.agg (Yj u now a d o t r m pn n j f.length k),.string s,Zg hold] w fun e w'=>Uy w w' e u now a d (.slice o t r) (.slice m pn n) (.slice j f.length k) f s hold i:=by
 obtain⟨W,l⟩:∃W,W=(w.alloc (.cells (Yj u now a d o t r m pn n j f.length k) 27)).alloc (.cells Yi 134):=⟨_,rfl⟩;have D:=(Bm l).1;have U:=(Bm l).2.1;have B:=(Bm l).2.2.1;have P:Aa W (w.heap.size+1) z12:=by have h1:=Aa.new (w.alloc (.cells (Yj u now a d o t r m pn n j f.length k) 27)) z12 134;rw[World.size_alloc]at h1;rw[l];exact h1
 have J:=Yw l;have HB:=Yw D;by_cases hfull:200<=f.length\/1000000000<=a
 .obtain⟨⟨y0,q0⟩,⟨y1,q1⟩,⟨y2,q2⟩,⟨y3,q3⟩,⟨y4,q4⟩,⟨y5,q5⟩,⟨y6,q6⟩,⟨y7,q7⟩,⟨y8,q8⟩,⟨y9,q9⟩,⟨H,zK⟩,I,zM⟩:=BL P;obtain⟨v0,v1,v2,v3,v4,v5,v6,v7⟩:=AS B;have HF:=Yw hfull;have E:(decide ((200:Int)<=(f.length:Int))=true)\/(decide ((200:Int)<=(f.length:Int))=false/\decide ((1000000000:Int)<=a)=true):=by
   by_cases h:200<=f.length
   .left;simp;omega
   .right;refine⟨Yt,?_⟩;rcases hfull with Z|Z
    .exact absurd Z h
    .simpa using Z
  clear l B P D U hfull L;rcases E with E|⟨E,zN⟩
  all_goals
   go_enter func126,ntmps126;go_upto_region 1 with fail;rw[<-J.o];clear J;go_wp2;refine bodyPost_ret (v:=.agg (Yg 4)) (by simp[results,results126,go_sem,y0,y1,y2,y3,y4,y5,y6,y7,y8,y9,H,I]) rfl ?_;exact⟨Tn.of (HB.o.trans (Tn.below (BR W (w.heap.size+1) _ _ _ _ _ _ _ _ _ _ _ _) HB.o.size (by intro v hv;simp at hv;omega))),.inl ⟨HF.o,rfl⟩⟩
 .have zF:f.length<200/\a<1000000000:=Yv
  obtain⟨X,K⟩:∃X,X=W.setCell (Zd (w.heap.size) 2) (Zg (a+1)):=⟨_,rfl⟩;have M:Tn [w.heap.size] W X:=by rw[K];exact Bd _ _ _ _
  have N:Aa X w.heap.size (Yh u now (a+1) d o t r m pn n j f.length k):=by rw[K];exact B.set 2 _
  have u1:=Aa.same P (M.block _ Yv Yu);have F:=D.trans (M.below D.size Yu);have z:∀g,(Value.slice j f.length k).ownBlock=some g->g<w.heap.size:=fun g hg=>(Ad L hg).2;have T:=Ap L F;have zV:w.heap.size+2<=X.heap.size:=by have:=M.size;omega
  obtain⟨g,c,O,G,S,y,R⟩:=PL X i _ f T (⟨a+1,s,now+hold⟩:Ld) Yv Yv 25;dsimp only at G;have Y:=Aa.same N (y.block _ N.lt (fun e=>by have:=z _ e.symm;omega));have e1:=Aa.same u1 (y.block _ Yv (fun e=>by have:=z _ e.symm;omega));obtain⟨c2,f2⟩:=B 2 _ rfl;obtain⟨c6,_⟩:=B 6 _ rfl;obtain⟨d1,d2,d6⟩:=Aa.c3 N 1 2 6;obtain⟨i0,i1,i2,i3,i4,i5,i6,i7⟩:=AS Y
  obtain⟨⟨y0,q0⟩,⟨y1,q1⟩,⟨y2,q2⟩,⟨y3,q3⟩,⟨y4,q4⟩,⟨y5,q5⟩,⟨y6,q6⟩,⟨y7,q7⟩,⟨y8,q8⟩,⟨y9,q9⟩,⟨H,zK⟩,I,zM⟩:=BL e1;have k6:=(Y 6 _ rfl).2;have zU:=Nu zG zH zI zJ;have zS:¬((200:Int)<=(f.length:Int)):=Yv
  have zT:¬((1000000000:Int)<=a):=Yv
  have Q:=Yw K;have C:=Yw (Za S (Za y R));have zB:=Yw F;have zE:=Yw z;have zC:=Yw zF;clear l K B P N u1 M Y e1 D U T L S y R F z hfull;go_enter func126,ntmps126;go_upto_region 1 with fail;rw[<-J.o];clear J;go_upto_region 4 with fail;rw[<-Q.o];clear Q c2 f2 c6;go_wp2_with (at_builtin;refine wpList_append_run rfl _ _ 25 25 rfl rfl rfl G ?_);clear G d1 d2 d6;go_wp2
  refine bodyPost_ret (v:=.agg #[Ze,Zg u,Zg now,Zg (a+1),Zg d,.slice o t r,.slice m pn n,Yz g (f.length+1) c,Zc,Zg (a+1),Zc,Zc]) (by simp[results,results126,go_sem,y0,y1,y2,y3,y4,y5,y6,y7,y8,y9,H,I]) rfl ?_
  have x:=(Tn.set (V:=[w.heap.size,w.heap.size+1]) O w.heap.size 6 (Yz g (f.length+1) c) Yu).trans (Tn.mono (BR (O.setCell (Zd (w.heap.size) 6) (Yz g (f.length+1) c)) (w.heap.size+1) Ze (Zg u) (Zg now) (Zg (a+1)) (Zg d) (.slice o t r) (.slice m pn n) (Yz g (f.length+1) c) Zc (Zg (a+1)) Zc Zc) Yu);have A:=(Tn.of zB.o).trans (Nt C.o.2.1);have zR:g<w.heap.size\/w.heap.size+2<=g:=by
   rcases C.o.2.2 with e|e
   .exact .inl (zE.o g e)
   .exact .inr Yv
  refine⟨⟨x.os.trans A.os,x.tape.trans A.tape,x.output.trans A.output,Zm A.size x.size,fun b hb hv=>(x.block b (Zr hb A.size) Yt).trans (A.block b hb hv)⟩,.inr ⟨zC.o,g,c,rfl,As C.o.1 (fun q hq=>x.block q (Ad C.o.1 hq).2 ?_),?_⟩⟩
  .obtain rfl:g=q:=by simpa [Value.ownBlock]using hq
   simp;omega
  .rcases C.o.2.2 with e|e
   .exact .inl e
   .exact .inr Yv
theorem KX(w:Zh)(b:Nat)(v:Value)(d:List (Kd×Value))(B:w.ownsRow b 37 4 v d.length (Ai kC d))(z:Kd×Value)(D:∃a n c,z.2=.slice a n c)(A:d.length<=1000000)(l:b<=w.heap.size)(m:TypeId):
 ∃g cap h,(Builtin.append_ #[23,23] m #[v,Yz w.heap.size 1 1]).run prog (w.alloc (.cells #[.string z.1.sum,Zg z.1.born,.string z.1.E,z.2] 37))=.ok (Yz g (d.length+1) cap) h/\h.ownsRow b 37 4 (Yz g (d.length+1) cap) (d++[z]).length (Ai kC (d++[z]))/\w.grownBy h v.ownBlock/\(v.ownBlock=some g\/g=w.heap.size+1):=by
 obtain⟨E,y,q,r,s⟩:=info_parts Hz;have o:=Ap B ((Below.refl _ _).alloc (Zx) (.cells #[.string z.1.sum,Zg z.1.born,.string z.1.E,z.2] 37));have x:∀j u,(Ai kC [z])[j]?=some u->(w.alloc (.cells #[.string z.1.sum,Zg z.1.born,.string z.1.E,z.2] 37)).cell? ((⟨w.heap.size,0,none⟩:Addr).add j)=some u:=by intro j u i;rw[Go.WideShapes.add_plain,Nat.zero_add];exact(Aa.new w [.string z.1.sum,Zg z.1.born,.string z.1.E,z.2] 37 j u (by simpa [Ai,kC]using i)).1
 obtain⟨F,h,C,k,t,_,f⟩:=run_append_own_at (P:=prog) (w.alloc (.cells #[.string z.1.sum,Zg z.1.born,.string z.1.E,z.2] 37)) b 23 m 37 E _ 4 64 underlying23 y q r s rfl Yr v d.length (Ai kC d) o ⟨w.heap.size,0,none⟩ 1 1 (Ai kC [z]) (by simp[Ai,kC]) x (by intro u i;obtain⟨a,n,c,e⟩:=D;simp[Ai,kC,e]at i;rcases i with rfl|rfl|rfl|rfl<;>rfl) Yp Yv Yt
 obtain⟨g,cap,rfl,_,_⟩:=Cs k (fun e=>by subst e;rcases k.2 with⟨_,A⟩|⟨_,_,_,e,_⟩<;>first|omega|cases e);refine⟨g,cap,h,C,?_,(World.grownBy_alloc w _ _).trans t,?_⟩
 .rw[Ex,List.length_append];exact k
 .rcases f with f|f
  .exact .inl f.symm
  .right;simpa [Value.ownBlock]using f
def zD(zs:List (Kd×Value))(s:Zi):Bool:= !(zs.all (fun z=>less z.1.sum s))
def zQ(zs:List (Kd×Value))(one:Kd×Value):List (Kd×Value):=zs.filter (fun z=>less z.1.sum one.1.sum)++(if zD zs one.1.sum then [one]else [])++zs.filter (fun z=> !(less z.1.sum one.1.sum))
def Ct(zs:List (Kd×Value))(one:Kd×Value):List (Kd×Value):=zs.filter (fun z=>less z.1.sum one.1.sum)++[one]++zs.filter (fun z=> !(less z.1.sum one.1.sum))
theorem SL(a:List (Kd×Value))(one:Kd×Value):(Ct a one).map (·.1)=EH (a.map (·.1)) one.1:=by unfold Ct EH;rw[List.map_append,List.map_append,List.filter_map,List.filter_map];rfl
theorem Kr{a:List (Kd×Value)}{one z:Kd×Value}(h:z∈Ct a one):z∈a\/z=one:=by
 unfold Ct at h;simp only[List.mem_append,List.mem_filter,List.mem_singleton]at h;rcases h with(h|h)|h
 .exact .inl h.1
 .exact .inr h
 .exact .inl h.1
theorem JK{a:List (Kd×Value)}{x:Kd×Value}(s:Zi)(c:a[k]?=some x):zD (a.take (k+1)) s=(zD (a.take k) s|| !(less x.1.sum s)):=by obtain⟨b,rfl⟩:=Zw c;unfold zD;rw[Zu b,List.all_append];simp
theorem Ii{a:List (Kd×Value)}(h:zD a s=false):a.filter (fun z=> !(less z.1.sum s))=[]:=by
 rw[List.filter_eq_nil_iff];intro x b;have:less x.1.sum s=true:=by unfold zD at h;simp only[Bool.not_eq_false']at h;exact List.all_eq_true.1 h x b
 simp[this]
theorem SM{a:List (Kd×Value)}{x:Kd×Value}(one:Kd×Value)(e:a[k]?=some x)(c:zD (a.take k) one.1.sum=false)(d:less x.1.sum one.1.sum=true):zQ (a.take (k+1)) one=zQ (a.take k) one++[x]:=by have b:=JK one.1.sum e;rw[c,d]at b;unfold zQ;rw[Ii c,Ii (by rw[b];rfl),b,c];obtain⟨f,rfl⟩:=Zw e;rw[Zu f,List.filter_append];simp[d]
theorem We{a:List (Kd×Value)}{x:Kd×Value}(one:Kd×Value)(f:a[k]?=some x)(b:zD (a.take k) one.1.sum=false)(e:less x.1.sum one.1.sum=false):zQ (a.take (k+1)) one=zQ (a.take k) one++[one]++[x]:=by have c:=JK one.1.sum f;rw[b,e]at c;have d:=Ii b;unfold zQ;rw[d,c,b];obtain⟨g,rfl⟩:=Zw f;rw[Zu g,List.filter_append,List.filter_append,d];simp[e]
theorem Uz{c:List (Kd×Value)}{x:Kd×Value}(one:Kd×Value)(f:(c.map (·.1.sum)).Pairwise (fun a b=>less a b=true))(n:c[k]?=some x)(g:zD (c.take k) one.1.sum=true):zQ (c.take (k+1)) one=zQ (c.take k) one++[x]:=by
 have m:=JK one.1.sum n;rw[g,Bool.true_or]at m;obtain⟨i,rfl⟩:=Zw n;obtain⟨y,s,l⟩:∃y∈c.take k,less y.1.sum one.1.sum=false:=by unfold zD at g;simpa using g
 obtain⟨j,q⟩:=List.getElem?_of_mem s;obtain⟨o,e⟩:=Zw q;rw[List.length_take]at o;rw[List.getElem_take]at e;have d:=List.pairwise_iff_getElem.1 f j k Yt (by simpa using i) Yv;rw[List.getElem_map,List.getElem_map,e]at d;have r:less c[k].1.sum one.1.sum=false:=by
  cases h:less c[k].1.sum one.1.sum with
  |false=>rfl
  |true=>rw[Cm d h]at l;cases l
 unfold zQ;rw[m,g,Zu i,List.filter_append,List.filter_append];simp[r]
theorem Vp{a:List (Kd×Value)}(one:Kd×Value)(b:zD a one.1.sum=true):zQ a one=Ct a one:=by unfold zQ Ct;rw[b];rfl
theorem Wf{a:List (Kd×Value)}(one:Kd×Value)(b:zD a one.1.sum=false):zQ a one++[one]=Ct a one:=by unfold zQ Ct;rw[b,Ii b];simp
theorem Rh(a:List (Kd×Value))(one:Kd×Value):(zQ a one).length<=a.length+1:=by
 have h:∀(l:List (Kd×Value)),(l.filter (fun z=>less z.1.sum one.1.sum)).length+(l.filter (fun z=> !(less z.1.sum one.1.sum))).length=l.length:=by
  intro l;induction l with
  |nil=>rfl
  |cons y l ih=>cases hl:less y.1.sum one.1.sum<;>simp[hl]<;>omega
 have:=h a;unfold zQ;rw[List.length_append,List.length_append];split<;>simp<;>omega
theorem LF{a:List Kd}(h:Aw a s):∃(i:Nat) (k:Kd),BX a s=(i:Int)/\a[i]?=some k/\k.sum=s:=by
 rcases BV a s with⟨_,d⟩|⟨i,k,e,b,c⟩
 .exact absurd h d
 .exact⟨i,k,e,b,c⟩
theorem Hi{a:List Kd}(h:¬Aw a s):BX a s<0:=by
 rcases BV a s with⟨e,_⟩|⟨i,k,e,b,c⟩
 .omega
 .exact absurd ⟨k,Zs b,c⟩ h
theorem Ks(w:Zh){a:Act}{K:Act->Zh->Prop}{Q:Exit->Act->Zh->Prop}(O:o.guard=none)(J x:Operand)(t:TypeId)(Y:o.op=.call {callee:=.builtin .append,args:= #[J,x],argTypes:= #[t,t]})(b:Nat)(e:TypeId)(i:TypeInfo)(z:Value)(bytes:Nat)(ht:P.underlying t=some (.slice e))(W:P.info? e=some i)(hz:i.zero=some z)(y:i.size=1)(N:i.bytes=bytes)(R:z.cells.size=1)(q n I:Nat)(L:Zl)(B:a.eval J=Yz q n I)(D:w.ownsRow b e 1 (Yz q n I) n (L.map Value.string))(G:Addr)(m c:Nat)(C:Zl)(hx:a.eval x=.slice (some G) m c)(X:C.length=m)(v:∀j s,C[j]?=some s->w.cell? (G.add j)=some (.string s))(M:n+m<=maxLen)(d:(n+m) *bytes<=140737488355328)(l:b<=w.heap.size)(h:∀g cap k,k.ownsRow b e 1 (Yz g (n+m) cap) (n+m) ((L++C).map Value.string)->w.grownBy k (some q)->(g=q\/g=w.heap.size)->g<k.heap.size->K (a.put o.dst (Yz g (n+m) cap)) k):
 if Region.wanted o (yielded F a.tmps)=true then Oper.wp P o a w K Q else E:=by
 have hw:Region.wanted o (yielded F a.tmps)=true:=by simp[Region.wanted,O]
 rw[if_pos hw];obtain⟨v',k,Z,H,T,U,A⟩:=run_append_own_at (P:=P) w b t o.type e i z 1 bytes ht W hz y N R Yr _ n _ D G m c (C.map Value.string) (by simp[X])
  (fun j u f=>by
    rw[List.getElem?_map]at f;cases B:C[j]? with
    |none=>rw[B]at f;cases f
    |some s=>rw[B]at f;cases f;exact v j s B)
  (fun u f=>by obtain⟨s,_,rfl⟩:=List.mem_map.1 f;rfl) M d l
 have r:∃g cap,v'=Yz g (n+m) cap:=by
  rcases Joins.ownsRow_forms H with⟨S,_⟩|V
  .have:=(U.1 S).1;cases this
  .exact V
 obtain⟨g,cap,rfl⟩:=r;unfold Oper.wp execOp;simp only[Y,resolve,invoke,builtin,Sem.run_bind,Sem.run_pure,Result.andThen_ok,List.map_toArray,List.map_cons,List.map_nil,B,hx,Z];refine h g cap k (by rw[List.map_append];exact H) T ?_ (H.lt g rfl).2;rcases A with A|A
 .left;simpa [Value.ownBlock]using A
 .right;simpa [Value.ownBlock]using A
theorem Av(w:Zh){a:Act}{K:Act->Zh->Prop}{Q:Exit->Act->Zh->Prop}(D:o.guard=none)(G x:Operand)(t:TypeId)(L:o.op=.call {callee:=.builtin .append,args:= #[G,x],argTypes:= #[t,t]})(b:Nat)(e:TypeId)(i:TypeInfo)(z:Value)(bytes:Nat)(N:P.underlying t=some (.slice e))(I:P.info? e=some i)(X:i.zero=some z)(r:i.size=1)(S:i.bytes=bytes)(U:z.cells.size=1)(q n v:Nat)(H:Zl)(M:a.eval G=Yz q n v)(d:w.ownsRow b e 1 (Yz q n v) n (H.map Value.string))(u:Zk)(m c:Nat)(y:Zl)(O:a.eval x=.slice u m c)(J:y.length=m)(C:u=none->m=0/\c=0)(l:∀A,u=some A->∀j s,y[j]?=some s->w.cell? (A.add j)=some (.string s))(R:n+m<=maxLen)(f:(n+m) *bytes<=140737488355328)(k:b<=w.heap.size)(h:∀g cap B,B.ownsRow b e 1 (Yz g (n+m) cap) (n+m) ((H++y).map Value.string)->w.grownBy B (some q)->(g=q\/g=w.heap.size)->g<B.heap.size->K (a.put o.dst (Yz g (n+m) cap)) B):
 if Region.wanted o (yielded F a.tmps)=true then Oper.wp P o a w K Q else E:=by
 cases u with
 |some A=>exact Ks w D G x t L b e i z bytes N I X r S U q n v H M d A m c y O J (l A rfl) R f k h
 |none=>
  obtain⟨rfl,rfl⟩:=C rfl;have T:=List.eq_nil_of_length_eq_zero J;subst T;have W:Region.wanted o (yielded F a.tmps)=true:=by simp[Region.wanted,D]
  rw[if_pos W];have V:=run_append_owned_none (P:=P) w b t o.type e i 1 N I _ n _ d;unfold Oper.wp execOp;simp only[L,resolve,invoke,builtin,Sem.run_bind,Sem.run_pure,Result.andThen_ok,List.map_toArray,List.map_cons,List.map_nil,M,O,V];exact h q v w (by simpa using d) ⟨rfl,rfl,rfl,Zx,fun _ _ _=>rfl⟩ (.inl rfl) (d.lt q rfl).2
theorem Ab.bh{a:Zk}{d:Zl}(h:Ab w B a d):∀A,a=some A->∀j s,d[j]?=some s->w.cell? (A.add j)=some (.string s):=by
 rintro A rfl j s c;rcases h with h|⟨b,off,e,_,f⟩
 .subst h;simp at c
 .cases e;have:=f j s c;rw[Go.WideShapes.add_plain];exact this
theorem FA(t:Zi)(l:Zk)(o:Nat)(b:Zl)(w:Zh)(hr:Ab w w.heap.size l b)(z:l=none->b.length=0/\o=0)(hl:b.length<=1048576):
 Calls prog 101 #[.agg #[.string t,.slice l b.length o]] w fun e T=>∃g c,e=.returned (.agg #[.string t,Yz g b.length c])/\
  T.ownsRow w.heap.size 9 1 (Yz g b.length c) b.length (b.map Value.string)/\Zz w T:=by
 obtain⟨i0,hi,U,V,X⟩:=info_parts BW;obtain⟨m,d⟩:∃m,m=w.alloc (.cells #[.string t,.slice l b.length o] 35):=⟨_,rfl⟩;have q:=(Bc d).1;have K:=(Bc d).2.2;have A:=(Bc d).2.1;obtain⟨W,x⟩:∃W,W=m.alloc (.cells #[Zc,Zb] 35):=⟨_,rfl⟩;have r:=(Bc x).1;have u:=(Bc x).2.2;have L:=K.below r;have i:Below w.heap.size w W:=q.trans (r.mono q.size);have C:m.heap.size<W.heap.size:=u.lt
 obtain⟨B,N⟩:∃B,B=m.heap.size:=⟨_,rfl⟩;have F:w.heap.size<B:=Yv
 rw[<-N]at u C;have k:w.heap.size<W.heap.size:=Yv
 have E:=Yw d;have I:=Yw x;have J:Hid (w.heap.size+1=B):=by show _=_;omega
 obtain⟨R,S⟩:=Aa.c2 L 0 1;have h:Below W.heap.size W (W.alloc (.cells #[] 9)):=Zy;have P:(W.alloc (.cells #[] 9)).drew.ownsRow (B+1) 9 1 (Yz W.heap.size 0 0) 0 (([]:Zl).map Value.string):=World.ownsRow_lit W #[] 0 Yv Yp rfl;have Q:=(Ab.below hr (i.trans (h.drew.mono i.size))).bh
 have q0:(W.alloc (.cells #[] 9)).cell? (Zd (w.heap.size) 0)=some (.string t):=(h.cell (p:=⟨w.heap.size,0,none⟩) k).trans R;have q1:(W.alloc (.cells #[] 9)).cell? (Zd (w.heap.size) 1)=some (.slice l b.length o):=(h.cell (p:=⟨w.heap.size,1,none⟩) k).trans S;have HR:=Yw u;have D:=Yw i;clear d x N q r K u L i A;go_enter func101,ntmps101;go_upto_region 1 with fail;rw[<-E.o,<-I.o,J.o];clear E I J
 go_region_law (first
  |(refine Av (W.alloc (.cells #[] 9)).drew rfl (.tmp 5) (.tmp 7) 29 rfl (B+1) 9 i0 Zc 16 underlying29 hi U V X rfl W.heap.size 0 0 [] rfl P l b.length o b rfl rfl z Q Yp Yv Yt ?_;intro O f H s G y Y;simp only[Nat.zero_add,List.nil_append]at s;have n:Below W.heap.size W H:=h.drew.grown G Yu (fun j hj=>by cases hj;exact Zx);have M:=Aa.below HR.o n;obtain⟨y0,f0⟩:=M 0 _ rfl;obtain⟨y1,f1⟩:=M 1 _ rfl;have p0:=(n.cell (p:=⟨w.heap.size,0,none⟩) k).trans R;have p1:=(n.cell (p:=⟨w.heap.size,1,none⟩) k).trans S))
 all_goals
  have HO:=Yw s;have Z:Hid (Zz w H):=D.o.trans (n.mono D.o.size);clear s G y n P Q q0 q1;go_wp2;refine bodyPost_ret (v:=.agg #[.string t,Yz O b.length f]) (by simp[results,results101,go_sem, *]) rfl ?_;refine⟨_,_,rfl,?_,?_⟩
  .exact(ownsRow_setCell_below (ownsRow_setCell_below HO.o (a:=⟨B,0,none⟩) (Nat.lt_succ_self B) _) (a:=⟨B,1,none⟩) (Nat.lt_succ_self B) _).mono Yv
  .exact(Z.o.setCell (p:=⟨B,0,none⟩) (Nat.le_of_lt F) _).setCell (p:=⟨B,1,none⟩) (Nat.le_of_lt F) _
end Go.Proofs.YtmjlkgpekcnacaaGreat
