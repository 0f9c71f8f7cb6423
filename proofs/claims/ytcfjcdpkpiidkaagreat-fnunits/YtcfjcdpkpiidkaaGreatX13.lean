import Derived.Test.YtcfjcdpkpiidkaaGreatX08
import Derived.Test.YtcfjcdpkpiidkaaGreatX07
import Derived.Deep.LoopGhost
import Derived.RegionTactic
set_option maxRecDepth 100000
set_option maxHeartbeats 16000000
namespace Go.Proofs.YtcfjcdpkpiidkaaGreat
open ChangeShapes WideShapes ChangeAt RowKit _root_.Go.Proofs.Tryz
variable{a b:List Kd}{k i:Nat}{x:Kd}{n:Int}{w:Zh}{d:Zk}
section
attribute [local go_sem↓] Go.wp_at_zero Go.wp_at_succ
def seen(ks:List Kd)(k:Nat)(n:Int):Bool:=(ks.take k).any (fun x=>decide (x.born=n))
def flags(ks:List Kd)(k:Nat):Zj:=(List.range 601).map (fun(n:Nat)=>Value.bool (seen ks k n))
def later(ks:List Kd)(k:Nat):List Int:=((ks.take k).map (·.born)).filter (fun b=>decide (600<b))
theorem IW(b:a[k]?=some x):a.take (k+1)=a.take k++[x]:=by obtain⟨h,rfl⟩:=Zw b;exact Zu h
theorem GM(b:a[k]?=some x)(n:Int):seen a (k+1) n=(seen a k n||decide (x.born=n)):=by unfold seen;rw[IW b,List.any_append];simp
theorem DZ(a:List Kd)(k:Nat):(flags a k).length=601:=by simp[flags]
theorem Ea(a:List Kd)(k n:Nat)(h:n<601):(flags a k)[n]?=some (.bool (seen a k n)):=by simp[flags,h]
theorem QB(c:List Kd):flags c 0=List.replicate 601 (.bool false):=by unfold flags;rw[List.eq_replicate_iff];refine⟨Yu,fun b a=> ?_⟩;obtain⟨n,_,rfl⟩:=List.mem_map.1 a;simp[seen]
theorem Ml(b:a[k]?=some x)(c:0<=x.born)(d:x.born<=600):(flags a k).set x.born.toNat (.bool true)=flags a (k+1):=by
 apply List.ext_getElem?;intro n;by_cases hn:n<601
 .by_cases he:x.born.toNat=n
  .subst he;rw[List.getElem?_set_self (by rw[DZ];omega),Ea _ _ _ hn,GM b];have:decide (x.born=(x.born.toNat:Int))=true:=Yt
   rw[this];simp
  .rw[List.getElem?_set_ne he,Ea _ _ _ hn,Ea _ _ _ hn,GM b];have:decide (x.born=(n:Int))=false:=Yt
   rw[this];simp
 .rw[List.getElem?_eq_none (by simp[DZ];omega),List.getElem?_eq_none (by simp[DZ];omega)]
theorem Mm(b:a[k]?=some x)(c:600<x.born):flags a (k+1)=flags a k:=by
 apply List.ext_getElem?;intro n;by_cases hn:n<601
 .rw[Ea _ _ _ hn,Ea _ _ _ hn,GM b];have:decide (x.born=(n:Int))=false:=Yt
  rw[this];simp
 .rw[List.getElem?_eq_none (by simp[DZ];omega),List.getElem?_eq_none (by simp[DZ];omega)]
theorem FR(b:a[k]?=some x):later a (k+1)=later a k++(if 600<x.born then [x.born]else []):=by unfold later;rw[IW b,List.map_append,List.filter_append];by_cases h:600<x.born<;>simp[h]
theorem IX(a:List Kd)(k:Nat):(later a k).length<=k:=by unfold later;refine Zm (List.length_filter_le _ _) ?_;simp;omega
theorem Db{c:List Kd}:seen c k n=true↔∃j p,j<k/\c[j]?=some p/\p.born=n:=by
 unfold seen;rw[List.any_eq_true];constructor
 .rintro⟨p,b,h⟩;obtain⟨j,a⟩:=List.getElem?_of_mem b;have d:=(Zw a).1;simp at d;rw[List.getElem?_take_of_lt Yv]at a;exact⟨j,p,Yv,a,by simpa using h⟩
 .rintro⟨j,p,a,b,h⟩;exact⟨p,Zs (i:=j) (by rw[List.getElem?_take_of_lt a];exact b),by simpa using h⟩
theorem Mn(h:600<n):n∈later b k↔seen b k n=true:=by
 unfold later seen;simp only[List.mem_filter,List.mem_map,List.any_eq_true,decide_eq_true_eq];constructor
 .rintro⟨⟨p,a,rfl⟩,_⟩;exact⟨p,a,rfl⟩
 .rintro⟨p,a,rfl⟩;exact⟨⟨p,a,rfl⟩,h⟩
theorem TB:(prog.info? 4).map (fun i=>(i.zero,i.size,i.bytes))=some (some (.bool false),1,1):=Yr
theorem Vh:(prog.info? 3).map (fun i=>(i.zero,i.size,i.bytes))=some (some Ze,1,8):=Yr
theorem IY{c:Int}(h:∀(i:Nat) k,a[i]?=some k->DP c a i k):∀(d i:Nat) u v,a[i]?=some u->a[i+d+1]?=some v->less u.sum v.sum=true
 |0,i,u,v,hu,hv=>(h _ _ hv).up i u rfl hu
 |d+1,i,u,v,hu,hv=>by have e:=(Zw hv).1;have b:a[i+d+1]?=some (a[i+d+1]'(by omega)):=Zv Yv;exact BI (IY h d i u _ hu b) ((h _ _ hv).up _ _ Yv b)
theorem NI{f:Int}(h:∀(i:Nat) k,b[i]?=some k->DP f b i k){j:Nat}{u v:Kd}(d:b[i]?=some u)(a:b[j]?=some v)(e:u.sum=v.sum):u=v:=by
 rcases Nat.lt_trichotomy i j with c|c|c
 .have:=IY h (j -i -1) i u v d (by rw[show i+(j -i -1)+1=j from by omega];exact a);rw[e,BA]at this;cases this
 .subst c;rw[d]at a;cases a;rfl
 .have:=IY h (i -j -1) j v u a (by rw[show j+(i -j -1)+1=i from by omega];exact d);rw[e,BA]at this;cases this
structure JK (w wr:Zh) (ks:List Kd) (k:Nat) (v:Value):Prop where
 bx:Below w.heap.size w wr
 fl:wr.ownsRow (w.heap.size+1) 4 1 (.slice (some ⟨w.heap.size+1,0,none⟩) 601 601) 601 (flags ks k)
 K:wr.ownsRow (w.heap.size+2) 3 1 v (later ks k).length ((later ks k).map (Value.int .i64))
theorem JK.ah{wr a:Zh}{ks:List Kd}{v:Value}(h:JK w wr ks k v)(b:Zz wr a):JK w a ks k v:=
 ⟨h.bx.trans (b.mono h.bx.size),h.fl.kept (Ak none b) (.inr (by simp[Value.ownBlock])),h.K.kept (Ak none b) (by cases v.ownBlock<;>simp)⟩
def VY(wd births:Int)(ks:List Kd):Prop:=(∀(i:Nat) k,ks[i]?=some k->DP wd ks i k)/\(∀(i:Nat) k,ks[i]?=some k->DK births ks i k)/\(∀(i:Nat) k,ks[i]?=some k->Hs ks k)
theorem OQ(o now l d:Int)(a:Zk)(ac:Nat)(P L:Value)(f:List Kd)(w:Zh)(zG:AQ w w.heap.size a f)(hm:Ez f)(hl:f.length<=600)(yI:∀k∈f,k.B.length<=1048576)(h1:1<=o)(h8:o<=8):
 Calls prog 16 #[.agg #[.int .i64 o,.int .i64 now,.int .i64 l,.int .i64 d,.slice a f.length ac,P,L]] w fun e O=>∃b,e=.returned (.bool b)/\(b=true↔VY o d f)/\Zz w O:=by
 obtain⟨i0,hi,vC,vD,vE⟩:=info_parts TB;obtain⟨i1,xC,xJ,xK,xL⟩:=info_parts Vh;have xO:Below w.heap.size w (w.alloc (.cells #[.int .i64 o,.int .i64 now,.int .i64 l,.int .i64 d,.slice a f.length ac,P,L] 27)):=Zy;have hx:=Aq.new w o now l d (.slice a f.length ac) P L 27;go_enter func16,ntmps16
 go_wp2_with (at_make;refine wpList_make_full _ rfl _ _ 76 rfl (w.heap.size+1) 4 i0 (.bool false) 1 underlying76 hi vC vD .i64 .i64 _ _ 601 rfl rfl rfl rfl ?c1 ?c2 ?c3 ?_)
 case c1=>rw[vE];omega
 case c2=>unfold maxLen;omega
 case c3=>simp
 intro w1 zF A;rw[toList_madeCells_one]at zF;have T:Below (w.heap.size+1) (w.alloc (.cells #[.int .i64 o,.int .i64 now,.int .i64 l,.int .i64 d,.slice a f.length ac,P,L] 27)) w1:=Ad.grown A (by simp) (by simp);have xI:=hx.ah T (by omega);have H:=xO.trans (T.mono (by omega));have vJ:w.heap.size+1<w1.heap.size:=by have:=(zF.lt _ rfl).2;simpa using this
 clear A T hx;go_wp2
 go_loopw [4,5] (fun v i wr=>∃(k g c:Nat),k<=f.length/\i=.int .i64 k/\v=.slice (some ⟨g,0,none⟩) (later f k).length c/\Hid (JK w wr f k (.slice (some ⟨g,0,none⟩) (later f k).length c))/\Hid (Aq wr w.heap.size o now l d (.slice a f.length ac) P L)/\Hid (∀(j:Nat) x,j<k->f[j]?=some x->DP o f j x/\DK d f j x)) (fun _ i _=>f.length -(intOf i).toNat)
 case atStart=>
  refine⟨0,w1.heap.size,0,Nat.zero_le _,rfl,rfl,⟨H.alloc H.size _,?_,?_⟩,xI.ah (Zy) xI.2.2.2.2.2.2.2,fun j x h=>by omega⟩
  .rw[QB];exact zF.alloc _
  .exact World.ownsRow_lit w1 #[] 0 (by omega) (by simp[maxLen]) rfl
 case round=>
  obtain⟨k,g,c,hk,rfl,rfl,HL,HX,K⟩:=hrel;obtain⟨x0,x1,x2,x3,x4,x5,x6,x7⟩:=HX.o;by_cases hlt:k<f.length
  .obtain⟨b,off,ha,hb,hc⟩:=(zG.below HL.o.bx).at hlt;subst ha;have hg:f[k]?=some f[k]:=Zv hlt;obtain⟨c0,c1,c2,D,E,c3,hr⟩:=hc k _ hg;have Q:=List.getElem_mem hlt;have m1:=hm.F _ Q;have m2:=yI _ Q;have xP:b<wr.heap.size:=by omega
   have hL:=HL.o;clear HX HL zF
   match k,hk,hlt,K,hg,c0,c1,c2,c3,hr,m1,m2,hL with
   |0,hk,hlt,K,hg,c0,c1,c2,c3,hr,m1,m2,hL=>
    have C:Hid _:=hg;clear hc zG hm yI Q hg;simp only[Nat.zero_mul,Nat.add_zero]at c0 c1 c2 c3;generalize f[0]=x at *
    go_wp2;have T:Below wr.heap.size wr (wr.alloc (Obj.cells #[Value.string x.sum,Value.int IntKind.i64 x.born,Value.string x.F,Value.slice D x.B.length E] 65)):=Zy;have z1:(wr.alloc (Obj.cells #[Value.string x.sum,Value.int IntKind.i64 x.born,Value.string x.F,Value.slice D x.B.length E] 65)).heap.size=wr.heap.size+1:=by simp
    have t1:(wr.alloc (Obj.cells #[Value.string x.sum,Value.int IntKind.i64 x.born,Value.string x.F,Value.slice D x.B.length E] 65)).cell? ⟨wr.heap.size,0,none⟩=some (.string x.sum):=by simp
    have yE:(wr.alloc (Obj.cells #[Value.string x.sum,Value.int IntKind.i64 x.born,Value.string x.F,Value.slice D x.B.length E] 65)).cell? ⟨wr.heap.size,1,none⟩=some (.int .i64 x.born):=by simp
    have t2:(wr.alloc (Obj.cells #[Value.string x.sum,Value.int IntKind.i64 x.born,Value.string x.F,Value.slice D x.B.length E] 65)).cell? ⟨wr.heap.size,2,none⟩=some (.string x.F):=by simp
    have t3:(wr.alloc (Obj.cells #[Value.string x.sum,Value.int IntKind.i64 x.born,Value.string x.F,Value.slice D x.B.length E] 65)).cell? ⟨wr.heap.size,3,none⟩=some (.slice D x.B.length E):=by simp
    have zH:Aq (wr.alloc (Obj.cells #[Value.string x.sum,Value.int IntKind.i64 x.born,Value.string x.F,Value.slice D x.B.length E] 65)) w.heap.size o now l d (.slice (some ⟨b,off,none⟩) f.length ac) P L:=Aq.ah ⟨x0,x1,x2,x3,x4,x5,x6,x7⟩ T x7;generalize hW1:wr.alloc (Obj.cells #[Value.string x.sum,Value.int IntKind.i64 x.born,Value.string x.F,Value.slice D x.B.length E] 65)=W1 at *
    have yD:Ab W1 W1.heap.size D x.B:=(hr.mono hL.bx.size).L T;have q0:=Ae.cell zH.1 (by omega);have vF:=Ae.cell zH.2.2.2.1 (by omega);have vG:=Ae.cell zH.2.2.2.2.1 (by omega);have q1:=Ae.cell t1 (by omega);have q2:=Ae.cell t2 (by omega);have q3:=Ae.cell t3 (by omega);have q5:=Ae.cell yE (by omega);have xD:=Ae.ne W1
    have hV:∀n:Ae W1,Calls prog 32 #[.agg #[.string x.F,.slice D x.B.length E],.int .i64 o] n.w fun e O=>e=.returned (.bool (Az x.F x.B o))/\Below n.w.heap.size n.w O:=fun n=>Ci x.F D E x.B o _ (yD.L n.h) m2 m1
    have hF:∀n:Ae W1,Calls prog 34 #[.agg #[.string x.F,.slice D x.B.length E],.int .i64 o] n.w fun e O=>e=.returned (.string (AD x.F x.B o))/\Below n.w.heap.size n.w O:=fun n=>Ft x.F D E x.B o _ (yD.L n.h) m2 m1;have hS:∀n:Ae W1,Calls prog 33 #[.string (AD x.F x.B o),.int .i64 o] n.w fun e O=>e=.returned (.string (sumOf x o))/\Below n.w.heap.size n.w O:=fun n=>EY _ o _ (Dm _ _ _) h1 h8
    have hR:∀n:Ae W1,Calls prog 15 #[.int .i64 x.born,.int .i64 1,.int .i64 d] n.w fun e O=>e=.returned (.bool (decide (1<=x.born/\x.born<=d)))/\Below n.w.heap.size n.w O:=fun n=>(Cc _ _ _ _).mono (by rintro e O ⟨rfl,rfl⟩;exact⟨rfl,Ad⟩);have I:Hid _:=Zn hF hS;have S:Hid _:=hV;have R:Hid _:=hR;clear hF hS hV hR;generalize AD x.F x.B o=fx at *
    generalize hsx:sumOf x o=sx at *
    have H:=hL.bx.trans (T.mono hL.bx.size);cases hok:Az x.F x.B o with
    |false=>
     rw[hok]at S;refine Ai (by kernel_rfl) (by kernel_rfl) ?_
     repeat (go_big_quiet_step (first|exact Ae.calls (S.o _)|exact Ae.calls (I.o.1 _)|exact Ae.calls (I.o.2 _)|exact Ae.calls (R.o _)))
     refine wpQuiet_nil ?_;intro n;go_wp2;go_ret;refine⟨_,rfl,?_,H.trans (n.h.mono H.size)⟩;simp only[Bool.false_eq_true,false_iff];exact fun h=>by have:=(h.1 _ _ C.o).ok;rw[hok]at this;cases this
    |true=>
     rw[hok]at S;by_cases hs:x.sum=sx
     .have zI:(x.sum.toList !=sx.toList)=false:=by rw[hs];simp
      by_cases hrg:1<=x.born/\x.born<=d
      .rw[decide_eq_true hrg]at R;refine Ai (by kernel_rfl) (by kernel_rfl) ?_
       repeat (go_big_quiet_step (first|exact Ae.calls (S.o _)|exact Ae.calls (I.o.1 _)|exact Ae.calls (I.o.2 _)|exact Ae.calls (R.o _)))
       refine wpQuiet_nil ?_;intro n;have B:JK w n.w f (0) (.slice (some ⟨g,0,none⟩) (later f (0)).length c):=hL.ah (T.trans (n.h.mono (by omega)));have zN:=zH.ah n.h (by omega);obtain⟨y0,y1,y2,y3,y4,y5,y6,y7⟩:=zN;have n1:=Ae.cell yE (by omega) n;have nz:=n.size;by_cases hlow:x.born<=600
       .have zP:=B.fl.cellAt x.born.toNat (by omega);rw[Ea _ _ _ (by omega),Int.toNat_of_nonneg (by omega)]at zP;have xR:=B.fl.frozenAt x.born.toNat;cases hse:seen f (0) x.born with
        |true=>rw[hse]at zP;have HH:Hid _:=B;clear B hL S I R;go_wp2;go_ret;refine⟨_,rfl,?_,HH.o.bx⟩;simp only[Bool.false_eq_true,false_iff];obtain⟨t,p',zR,zU,zO⟩:=Db.1 hse;exact fun h=>(h.2.1 _ _ C.o).new t p' zR zU zO
        |false=>
         rw[hse]at zP;have zW:=B.fl.stored x.born.toNat (.bool true);rw[Ml C.o (by omega) hlow]at zW;have N:later f (0+1)=later f (0):=by rw[FR C.o,if_neg (by omega)];simp
         have yA:=B.bx.setCell (p:=⟨w.heap.size+1,x.born.toNat,none⟩) (by simp) (.bool true);have Y:=ownsRow_setCell_below B.K (a:=⟨w.heap.size+1,x.born.toNat,none⟩) (by simp) (.bool true);rw[<-N]at Y;have HN:Hid (JK w (n.w.setCell ⟨w.heap.size+1,x.born.toNat,none⟩ (.bool true)) f (0+1) (.slice (some ⟨g,0,none⟩) (later f (0)).length c)):=⟨yA,zW.1,by rw[<-N];exact Y⟩
         have HB:Hid (Aq (n.w.setCell ⟨w.heap.size+1,x.born.toNat,none⟩ (.bool true)) w.heap.size o now l d (.slice (some ⟨b,off,none⟩) f.length ac) P L):=by refine⟨?_,?_,?_,?_,?_,?_,?_,by simpa using y7⟩<;>(rw[World.cell?_setCell_other _ _ _ _ (by simp)];assumption)
         have HA:Hid (∀(t:Nat) y,t<0+1->f[t]?=some y->DP o f t y/\DK d f t y):=by
          intro t y hj W;rcases Nat.lt_or_ge t (0)with J|J
          .exact K.o t y J W
          .obtain rfl:t=0:=by omega
           rw[C.o]at W;cases W;refine⟨⟨hok,by rw[hsx];exact hs,fun j p h=>by omega⟩,⟨by omega,by omega,fun j2 p2 zS X he=> ?_⟩⟩;have:=Db.2 ⟨j2,p2,zS,X,he⟩;rw[hse]at this;cases this
         have zZ:Hid (later f (0+1)=later f (0)):=N;clear B hL S I R zW N Y yA;go_wp2;refine⟨⟨0+1,g,c,by omega,by go_num,by rw[zZ.o],?_,HB,HA⟩,by simp[intOf];omega⟩;rw[zZ.o];exact HN
       .have N:=B.K;have yC:=B.fl;have F:=B.bx;have hlen:=IX f (0);have zX:Hid (flags f (0+1)=flags f (0)):=Mm C.o (by omega);have Z:Hid (later f (0+1)=later f (0)++[x.born]):=by show _=_;rw[FR C.o,if_pos (by omega)]
        have U:Hid (x.born∈later f (0)↔seen f (0) x.born=true):=Mn (by omega);have yM:Hid (Aq n.w w.heap.size o now l d (.slice (some ⟨b,off,none⟩) f.length ac) P L):=⟨y0,y1,y2,y3,y4,y5,y6,y7⟩;have HT:Hid (DP o f (0) x):=⟨hok,by rw[hsx];exact hs,fun j p h=>by omega⟩;have yN:Hid (later f (0)=later f (0)):=rfl;generalize hlv:later f (0)=lv at *
        have HH:Hid _:=Zn N (Zn yC F);clear hL S I R B zI yN N yC;go_wp2
        go_loopw [7] (fun jv wq=>∃q m:Nat,q<=lv.length/\jv=.int .i64 q/\wq=n.w.drewN m/\Hid (∀r z,r<q->lv[r]?=some z->z≠x.born)) (fun jv _=>lv.length -(intOf jv).toNat)
        case atStart=>exact⟨0,0,Nat.zero_le _,rfl,rfl,fun r z h=>by omega⟩
        case round=>
         obtain⟨q,m,hq,rfl,rfl,zT⟩:=hrel;by_cases hqlt:q<lv.length
         .have yB:=HH.o.1.cellAt q (by simpa using hqlt);rw[List.getElem?_map,Zv hqlt]at yB;simp only[Option.map_some]at yB;have HQ:Hid (lv[q]?=some lv[q]):=Zv hqlt;have Q:Hid (lv[q]∈lv):=List.getElem_mem hqlt;have xE:(0:Int)<=(q:Int):=by omega
          have xF:(q:Int)<(lv.length:Int):=by omega
          generalize lv[q]=z at *
          by_cases hz:z=x.born
          .subst hz;go_wp2;go_quiet (fail);go_wp2;go_ret;refine⟨_,rfl,?_,AH (AH F _) _⟩;simp only[Bool.false_eq_true,false_iff];obtain⟨t,p',zR,zU,zO⟩:=Db.1 (U.o.1 Q.o);exact fun h=>(h.2.1 _ _ C.o).new t p' zR zU zO
          .have vA:(z==x.born)=false:=by simpa using hz
           have HN:Hid (∀r z,r<q+1->lv[r]?=some z->z≠x.born):=by
            intro r z' zB zA;rcases Nat.lt_or_ge r q with J|J
            .exact zT.o r z' J zA
            .obtain rfl:r=q:=by omega
             rw[HQ.o]at zA;cases zA;exact hz
           clear hz;go_wp2;go_quiet (fail);go_wp2;exact⟨⟨q+1,m+nq,by omega,by go_num,rfl,HN⟩,by simp[intOf];omega⟩
         .obtain rfl:q=lv.length:=by omega
          have zY:Hid (seen f (0) x.born=false):=by
           show _=_;cases hse:seen f (0) x.born with
           |false=>rfl
           |true=>obtain⟨r,zB⟩:=List.getElem?_of_mem (U.o.2 hse);exact absurd rfl (zT.o r _ (Zw zB).1 zB)
          have M:(n.w.drewN m).ownsRow (w.heap.size+2) 3 1 (.slice (some ⟨g,0,none⟩) lv.length c) lv.length (lv.map (Value.int .i64)):=HH.o.1;have zE:(n.w.drewN m).ownsRow (w.heap.size+1) 4 1 (.slice (some ⟨w.heap.size+1,0,none⟩) 601 601) 601 (flags f (0)):=HH.o.2.1;have xU:=(M.lt g rfl).1;have HD:Hid _:=Zn M zE;have yR:Below w.heap.size w (n.w.drewN m):=AH F _
          have zV:w.heap.size+2<=(n.w.drewN m).heap.size:=by have:=(M.lt g rfl).2;omega
          clear M zE;go_wp2_with (first
           |(at_builtin;refine wpList_append_own _ rfl _ _ 77 rfl (w.heap.size+2) 3 i1 (.int .i64 0) 1 8 underlying77 xC xJ xK xL rfl (by decide) _ lv.length (lv.map (Value.int .i64)) rfl ?d0 ⟨n.w.heap.size,0,none⟩ 1 1 [.int .i64 x.born] rfl rfl ?d1 ?d2 ?d3 ?d4 ?d5 ?_)
           |go_in)
          case d0=>exact HD.o.1.alloc _
          case d1=>exact cell_one_new _ _ _
          case d2=>intro u hu;simp at hu;subst hu;rfl
          case d3=>unfold maxLen;omega
          case d4=>omega
          case d5=>simp at zV |-;omega
          intro v' w2 G A _;obtain⟨g',c',yU,xS,xT⟩:=G.form (by omega);subst yU;have zM:Below (w.heap.size+2) (n.w.drewN m) w2:=(Ad.alloc zV _).grown A (by simp at zV |-;omega) (by intro k hk;simp[Value.ownBlock]at hk;omega);have CY:Hid _:=yM.o.ah ((AH Ad m:Below (w.heap.size+2) n.w (n.w.drewN m)).trans zM) (by omega)
          have zC:=(HD.o.2.alloc (.cells #[.int .i64 x.born] 3)).kept A (.inr (by simp[Value.ownBlock];omega));have HN:Hid (JK w w2 f (0+1) (.slice (some ⟨g',0,none⟩) (lv.length+1) c')):=⟨yR.trans (zM.mono (by omega)),by rw[zX.o];exact zC,by rw[Z.o];simpa using G⟩;have HA:Hid (∀(t:Nat) y,t<0+1->f[t]?=some y->DP o f t y/\DK d f t y):=by
           intro t y hj W;rcases Nat.lt_or_ge t (0)with J|J
           .exact K.o t y J W
           .obtain rfl:t=0:=by omega
            rw[C.o]at W;cases W;refine⟨HT.o,⟨by omega,by omega,fun j2 p2 zS X he=> ?_⟩⟩;have:=Db.2 ⟨j2,p2,zS,X,he⟩;rw[zY.o]at this;cases this
          clear G A zC zM;go_wp2;refine⟨⟨0+1,g',c',by omega,by go_num,by rw[Z.o];simp,?_,CY,HA⟩,by simp[intOf];omega⟩;rw[Z.o,List.length_append];exact HN
      .rw[decide_eq_false hrg]at R;refine Ai (by kernel_rfl) (by kernel_rfl) ?_
       repeat (go_big_quiet_step (first|exact Ae.calls (S.o _)|exact Ae.calls (I.o.1 _)|exact Ae.calls (I.o.2 _)|exact Ae.calls (R.o _)))
       refine wpQuiet_nil ?_;intro n;go_wp2;go_ret;refine⟨_,rfl,?_,H.trans (n.h.mono H.size)⟩;simp only[Bool.false_eq_true,false_iff];exact fun h=>hrg ⟨(h.2.1 _ _ C.o).y,(h.2.1 _ _ C.o).hi⟩
     .have zI:(x.sum.toList !=sx.toList)=true:=by simp[Bu hs,bne]
      have yW:=Bu hs;refine Ai (by kernel_rfl) (by kernel_rfl) ?_
      repeat (go_big_quiet_step (first|exact Ae.calls (S.o _)|exact Ae.calls (I.o.1 _)|exact Ae.calls (I.o.2 _)|exact Ae.calls (R.o _)))
      refine wpQuiet_nil ?_;intro n;go_wp2;go_ret;refine⟨_,rfl,?_,H.trans (n.h.mono H.size)⟩;simp only[Bool.false_eq_true,false_iff];exact fun h=>hs (by rw[<-hsx];exact(h.1 _ _ C.o).sum)
   |j+1,hk,hlt,K,hg,c0,c1,c2,c3,hr,m1,m2,hL=>
    have C:Hid _:=hg;have HP:Hid (f[j]?=some f[j]):=Zv (by omega);obtain⟨d0,_,_,_⟩:=hc j _ HP.o;clear hc zG hm yI Q hg;generalize f[j+1]=x at *
    generalize f[j]=p at *
    have vR:IntKind.i64.wrap (j:Int)=(j:Int):=wrap_small (by omega) (by omega);have xW:(0:Int)<=(j:Int):=by omega
    have xX:(j:Int)<(f.length:Int):=by omega
    go_wp2;have T:Below wr.heap.size wr (wr.alloc (Obj.cells #[Value.string x.sum,Value.int IntKind.i64 x.born,Value.string x.F,Value.slice D x.B.length E] 65)):=Zy;have z1:(wr.alloc (Obj.cells #[Value.string x.sum,Value.int IntKind.i64 x.born,Value.string x.F,Value.slice D x.B.length E] 65)).heap.size=wr.heap.size+1:=by simp
    have t1:(wr.alloc (Obj.cells #[Value.string x.sum,Value.int IntKind.i64 x.born,Value.string x.F,Value.slice D x.B.length E] 65)).cell? ⟨wr.heap.size,0,none⟩=some (.string x.sum):=by simp
    have yE:(wr.alloc (Obj.cells #[Value.string x.sum,Value.int IntKind.i64 x.born,Value.string x.F,Value.slice D x.B.length E] 65)).cell? ⟨wr.heap.size,1,none⟩=some (.int .i64 x.born):=by simp
    have t2:(wr.alloc (Obj.cells #[Value.string x.sum,Value.int IntKind.i64 x.born,Value.string x.F,Value.slice D x.B.length E] 65)).cell? ⟨wr.heap.size,2,none⟩=some (.string x.F):=by simp
    have t3:(wr.alloc (Obj.cells #[Value.string x.sum,Value.int IntKind.i64 x.born,Value.string x.F,Value.slice D x.B.length E] 65)).cell? ⟨wr.heap.size,3,none⟩=some (.slice D x.B.length E):=by simp
    have zH:Aq (wr.alloc (Obj.cells #[Value.string x.sum,Value.int IntKind.i64 x.born,Value.string x.F,Value.slice D x.B.length E] 65)) w.heap.size o now l d (.slice (some ⟨b,off,none⟩) f.length ac) P L:=Aq.ah ⟨x0,x1,x2,x3,x4,x5,x6,x7⟩ T x7;generalize hW1:wr.alloc (Obj.cells #[Value.string x.sum,Value.int IntKind.i64 x.born,Value.string x.F,Value.slice D x.B.length E] 65)=W1 at *
    have yD:Ab W1 W1.heap.size D x.B:=(hr.mono hL.bx.size).L T;have q0:=Ae.cell zH.1 (by omega);have vF:=Ae.cell zH.2.2.2.1 (by omega);have vG:=Ae.cell zH.2.2.2.2.1 (by omega);have q1:=Ae.cell t1 (by omega);have q2:=Ae.cell t2 (by omega);have q3:=Ae.cell t3 (by omega);have q5:=Ae.cell yE (by omega);have q6:=Ae.cell ((T.cell (p:=⟨b,off+j *4,none⟩) xP).trans d0) (by omega);have xD:=Ae.ne W1
    have hV:∀n:Ae W1,Calls prog 32 #[.agg #[.string x.F,.slice D x.B.length E],.int .i64 o] n.w fun e O=>e=.returned (.bool (Az x.F x.B o))/\Below n.w.heap.size n.w O:=fun n=>Ci x.F D E x.B o _ (yD.L n.h) m2 m1
    have hF:∀n:Ae W1,Calls prog 34 #[.agg #[.string x.F,.slice D x.B.length E],.int .i64 o] n.w fun e O=>e=.returned (.string (AD x.F x.B o))/\Below n.w.heap.size n.w O:=fun n=>Ft x.F D E x.B o _ (yD.L n.h) m2 m1;have hS:∀n:Ae W1,Calls prog 33 #[.string (AD x.F x.B o),.int .i64 o] n.w fun e O=>e=.returned (.string (sumOf x o))/\Below n.w.heap.size n.w O:=fun n=>EY _ o _ (Dm _ _ _) h1 h8
    have hR:∀n:Ae W1,Calls prog 15 #[.int .i64 x.born,.int .i64 1,.int .i64 d] n.w fun e O=>e=.returned (.bool (decide (1<=x.born/\x.born<=d)))/\Below n.w.heap.size n.w O:=fun n=>(Cc _ _ _ _).mono (by rintro e O ⟨rfl,rfl⟩;exact⟨rfl,Ad⟩);have I:Hid _:=Zn hF hS;have S:Hid _:=hV;have R:Hid _:=hR;clear hF hS hV hR;generalize AD x.F x.B o=fx at *
    generalize hsx:sumOf x o=sx at *
    have H:=hL.bx.trans (T.mono hL.bx.size);cases hok:Az x.F x.B o with
    |false=>
     rw[hok]at S;refine Ai (by kernel_rfl) (by kernel_rfl) ?_
     repeat (go_big_quiet_step (first|exact Ae.calls (S.o _)|exact Ae.calls (I.o.1 _)|exact Ae.calls (I.o.2 _)|exact Ae.calls (R.o _)))
     refine wpQuiet_nil ?_;intro n;go_wp2;go_ret;refine⟨_,rfl,?_,H.trans (n.h.mono H.size)⟩;simp only[Bool.false_eq_true,false_iff];exact fun h=>by have:=(h.1 _ _ C.o).ok;rw[hok]at this;cases this
    |true=>
     rw[hok]at S;by_cases hs:x.sum=sx
     .have zI:(x.sum.toList !=sx.toList)=false:=by rw[hs];simp
      cases hless:Op.bytesLess p.sum.toList sx.toList with
      |false=>
       refine Ai (by kernel_rfl) (by kernel_rfl) ?_
       repeat (go_big_quiet_step (first|exact Ae.calls (S.o _)|exact Ae.calls (I.o.1 _)|exact Ae.calls (I.o.2 _)|exact Ae.calls (R.o _)))
       refine wpQuiet_nil ?_;intro n;go_wp2;go_ret;refine⟨_,rfl,?_,H.trans (n.h.mono H.size)⟩;simp only[Bool.false_eq_true,false_iff];exact fun h=>by have:=(h.1 _ _ C.o).up j p rfl HP.o;unfold less at this;rw[hs,hless]at this;cases this
      |true=>
       by_cases hrg:1<=x.born/\x.born<=d
       .rw[decide_eq_true hrg]at R;refine Ai (by kernel_rfl) (by kernel_rfl) ?_
        repeat (go_big_quiet_step (first|exact Ae.calls (S.o _)|exact Ae.calls (I.o.1 _)|exact Ae.calls (I.o.2 _)|exact Ae.calls (R.o _)))
        refine wpQuiet_nil ?_;intro n;have B:JK w n.w f ((j+1)) (.slice (some ⟨g,0,none⟩) (later f ((j+1))).length c):=hL.ah (T.trans (n.h.mono (by omega)));have zN:=zH.ah n.h (by omega);obtain⟨y0,y1,y2,y3,y4,y5,y6,y7⟩:=zN;have n1:=Ae.cell yE (by omega) n;have nz:=n.size;by_cases hlow:x.born<=600
        .have zP:=B.fl.cellAt x.born.toNat (by omega);rw[Ea _ _ _ (by omega),Int.toNat_of_nonneg (by omega)]at zP;have xR:=B.fl.frozenAt x.born.toNat;cases hse:seen f ((j+1)) x.born with
         |true=>rw[hse]at zP;have HH:Hid _:=B;clear B hL S I R;go_wp2;go_ret;refine⟨_,rfl,?_,HH.o.bx⟩;simp only[Bool.false_eq_true,false_iff];obtain⟨t,p',zR,zU,zO⟩:=Db.1 hse;exact fun h=>(h.2.1 _ _ C.o).new t p' zR zU zO
         |false=>
          rw[hse]at zP;have zW:=B.fl.stored x.born.toNat (.bool true);rw[Ml C.o (by omega) hlow]at zW;have N:later f ((j+1)+1)=later f ((j+1)):=by rw[FR C.o,if_neg (by omega)];simp
          have yA:=B.bx.setCell (p:=⟨w.heap.size+1,x.born.toNat,none⟩) (by simp) (.bool true);have Y:=ownsRow_setCell_below B.K (a:=⟨w.heap.size+1,x.born.toNat,none⟩) (by simp) (.bool true);rw[<-N]at Y;have HN:Hid (JK w (n.w.setCell ⟨w.heap.size+1,x.born.toNat,none⟩ (.bool true)) f ((j+1)+1) (.slice (some ⟨g,0,none⟩) (later f ((j+1))).length c)):=⟨yA,zW.1,by rw[<-N];exact Y⟩
          have HB:Hid (Aq (n.w.setCell ⟨w.heap.size+1,x.born.toNat,none⟩ (.bool true)) w.heap.size o now l d (.slice (some ⟨b,off,none⟩) f.length ac) P L):=by refine⟨?_,?_,?_,?_,?_,?_,?_,by simpa using y7⟩<;>(rw[World.cell?_setCell_other _ _ _ _ (by simp)];assumption)
          have HA:Hid (∀(t:Nat) y,t<(j+1)+1->f[t]?=some y->DP o f t y/\DK d f t y):=by
           intro t y hj W;rcases Nat.lt_or_ge t ((j+1))with J|J
           .exact K.o t y J W
           .obtain rfl:t=(j+1):=by omega
            rw[C.o]at W;cases W;refine⟨⟨hok,by rw[hsx];exact hs,fun j2 p2 h X=>by cases h;rw[HP.o]at X;cases X;unfold less;rw[hs];exact hless⟩,⟨by omega,by omega,fun j2 p2 zS X he=> ?_⟩⟩;have:=Db.2 ⟨j2,p2,zS,X,he⟩;rw[hse]at this;cases this
          have zZ:Hid (later f ((j+1)+1)=later f ((j+1))):=N;clear B hL S I R zW N Y yA;go_wp2;refine⟨⟨(j+1)+1,g,c,by omega,by go_num,by rw[zZ.o],?_,HB,HA⟩,by simp[intOf];omega⟩;rw[zZ.o];exact HN
        .have N:=B.K;have yC:=B.fl;have F:=B.bx;have hlen:=IX f ((j+1));have zX:Hid (flags f ((j+1)+1)=flags f ((j+1))):=Mm C.o (by omega);have Z:Hid (later f ((j+1)+1)=later f ((j+1))++[x.born]):=by show _=_;rw[FR C.o,if_pos (by omega)]
         have U:Hid (x.born∈later f ((j+1))↔seen f ((j+1)) x.born=true):=Mn (by omega);have yM:Hid (Aq n.w w.heap.size o now l d (.slice (some ⟨b,off,none⟩) f.length ac) P L):=⟨y0,y1,y2,y3,y4,y5,y6,y7⟩;have HT:Hid (DP o f ((j+1)) x):=⟨hok,by rw[hsx];exact hs,fun j2 p2 h X=>by cases h;rw[HP.o]at X;cases X;unfold less;rw[hs];exact hless⟩;have yN:Hid (later f ((j+1))=later f ((j+1))):=rfl
         generalize hlv:later f ((j+1))=lv at *
         have HH:Hid _:=Zn N (Zn yC F);clear hL S I R B zI yN N yC;go_wp2
         go_loopw [7] (fun jv wq=>∃q m:Nat,q<=lv.length/\jv=.int .i64 q/\wq=n.w.drewN m/\Hid (∀r z,r<q->lv[r]?=some z->z≠x.born)) (fun jv _=>lv.length -(intOf jv).toNat)
         case atStart=>exact⟨0,0,Nat.zero_le _,rfl,rfl,fun r z h=>by omega⟩
         case round=>
          obtain⟨q,m,hq,rfl,rfl,zT⟩:=hrel;by_cases hqlt:q<lv.length
          .have yB:=HH.o.1.cellAt q (by simpa using hqlt);rw[List.getElem?_map,Zv hqlt]at yB;simp only[Option.map_some]at yB;have HQ:Hid (lv[q]?=some lv[q]):=Zv hqlt;have Q:Hid (lv[q]∈lv):=List.getElem_mem hqlt;have xE:(0:Int)<=(q:Int):=by omega
           have xF:(q:Int)<(lv.length:Int):=by omega
           generalize lv[q]=z at *
           by_cases hz:z=x.born
           .subst hz;go_wp2;go_quiet (fail);go_wp2;go_ret;refine⟨_,rfl,?_,AH (AH F _) _⟩;simp only[Bool.false_eq_true,false_iff];obtain⟨t,p',zR,zU,zO⟩:=Db.1 (U.o.1 Q.o);exact fun h=>(h.2.1 _ _ C.o).new t p' zR zU zO
           .have vA:(z==x.born)=false:=by simpa using hz
            have HN:Hid (∀r z,r<q+1->lv[r]?=some z->z≠x.born):=by
             intro r z' zB zA;rcases Nat.lt_or_ge r q with J|J
             .exact zT.o r z' J zA
             .obtain rfl:r=q:=by omega
              rw[HQ.o]at zA;cases zA;exact hz
            clear hz;go_wp2;go_quiet (fail);go_wp2;exact⟨⟨q+1,m+nq,by omega,by go_num,rfl,HN⟩,by simp[intOf];omega⟩
          .obtain rfl:q=lv.length:=by omega
           have zY:Hid (seen f ((j+1)) x.born=false):=by
            show _=_;cases hse:seen f ((j+1)) x.born with
            |false=>rfl
            |true=>obtain⟨r,zB⟩:=List.getElem?_of_mem (U.o.2 hse);exact absurd rfl (zT.o r _ (Zw zB).1 zB)
           have M:(n.w.drewN m).ownsRow (w.heap.size+2) 3 1 (.slice (some ⟨g,0,none⟩) lv.length c) lv.length (lv.map (Value.int .i64)):=HH.o.1;have zE:(n.w.drewN m).ownsRow (w.heap.size+1) 4 1 (.slice (some ⟨w.heap.size+1,0,none⟩) 601 601) 601 (flags f ((j+1))):=HH.o.2.1;have xU:=(M.lt g rfl).1;have HD:Hid _:=Zn M zE;have yR:Below w.heap.size w (n.w.drewN m):=AH F _
           have zV:w.heap.size+2<=(n.w.drewN m).heap.size:=by have:=(M.lt g rfl).2;omega
           clear M zE;go_wp2_with (first
            |(at_builtin;refine wpList_append_own _ rfl _ _ 77 rfl (w.heap.size+2) 3 i1 (.int .i64 0) 1 8 underlying77 xC xJ xK xL rfl (by decide) _ lv.length (lv.map (Value.int .i64)) rfl ?d0 ⟨n.w.heap.size,0,none⟩ 1 1 [.int .i64 x.born] rfl rfl ?d1 ?d2 ?d3 ?d4 ?d5 ?_)
            |go_in)
           case d0=>exact HD.o.1.alloc _
           case d1=>exact cell_one_new _ _ _
           case d2=>intro u hu;simp at hu;subst hu;rfl
           case d3=>unfold maxLen;omega
           case d4=>omega
           case d5=>simp at zV |-;omega
           intro v' w2 G A _;obtain⟨g',c',yU,xS,xT⟩:=G.form (by omega);subst yU;have zM:Below (w.heap.size+2) (n.w.drewN m) w2:=(Ad.alloc zV _).grown A (by simp at zV |-;omega) (by intro k hk;simp[Value.ownBlock]at hk;omega);have CY:Hid _:=yM.o.ah ((AH Ad m:Below (w.heap.size+2) n.w (n.w.drewN m)).trans zM) (by omega)
           have zC:=(HD.o.2.alloc (.cells #[.int .i64 x.born] 3)).kept A (.inr (by simp[Value.ownBlock];omega));have HN:Hid (JK w w2 f ((j+1)+1) (.slice (some ⟨g',0,none⟩) (lv.length+1) c')):=⟨yR.trans (zM.mono (by omega)),by rw[zX.o];exact zC,by rw[Z.o];simpa using G⟩;have HA:Hid (∀(t:Nat) y,t<(j+1)+1->f[t]?=some y->DP o f t y/\DK d f t y):=by
            intro t y hj W;rcases Nat.lt_or_ge t ((j+1))with J|J
            .exact K.o t y J W
            .obtain rfl:t=(j+1):=by omega
             rw[C.o]at W;cases W;refine⟨HT.o,⟨by omega,by omega,fun j2 p2 zS X he=> ?_⟩⟩;have:=Db.2 ⟨j2,p2,zS,X,he⟩;rw[zY.o]at this;cases this
           clear G A zC zM;go_wp2;refine⟨⟨(j+1)+1,g',c',by omega,by go_num,by rw[Z.o];simp,?_,CY,HA⟩,by simp[intOf];omega⟩;rw[Z.o,List.length_append];exact HN
       .rw[decide_eq_false hrg]at R;refine Ai (by kernel_rfl) (by kernel_rfl) ?_
        repeat (go_big_quiet_step (first|exact Ae.calls (S.o _)|exact Ae.calls (I.o.1 _)|exact Ae.calls (I.o.2 _)|exact Ae.calls (R.o _)))
        refine wpQuiet_nil ?_;intro n;go_wp2;go_ret;refine⟨_,rfl,?_,H.trans (n.h.mono H.size)⟩;simp only[Bool.false_eq_true,false_iff];exact fun h=>hrg ⟨(h.2.1 _ _ C.o).y,(h.2.1 _ _ C.o).hi⟩
     .have zI:(x.sum.toList !=sx.toList)=true:=by simp[Bu hs,bne]
      have yW:=Bu hs;refine Ai (by kernel_rfl) (by kernel_rfl) ?_
      repeat (go_big_quiet_step (first|exact Ae.calls (S.o _)|exact Ae.calls (I.o.1 _)|exact Ae.calls (I.o.2 _)|exact Ae.calls (R.o _)))
      refine wpQuiet_nil ?_;intro n;go_wp2;go_ret;refine⟨_,rfl,?_,H.trans (n.h.mono H.size)⟩;simp only[Bool.false_eq_true,false_iff];exact fun h=>hs (by rw[<-hsx];exact(h.1 _ _ C.o).sum)
  .have yF:Hid (∀(j:Nat) x,f[j]?=some x->DP o f j x/\DK d f j x):=fun j x hx=>K.o j x (by have:=(Zw hx).1;omega) hx;have yK:=HL.o.bx;have xN:=HX;clear zF HL K HX;go_wp2
   go_loopw [8] (fun iv wq=>∃i:Nat,i<=f.length/\iv=.int .i64 i/\Zz w wq/\Hid (Aq wq w.heap.size o now l d (.slice a f.length ac) P L)/\Hid (∀(j:Nat) x,j<i->f[j]?=some x->Hs f x)) (fun iv _=>f.length -(intOf iv).toNat)
   case atStart=>exact⟨0,Nat.zero_le _,rfl,yK,xN,fun j x h=>by omega⟩
   case round=>
    obtain⟨i,vO,rfl,zJ,yZ,yG⟩:=hrel;obtain⟨x0,x1,x2,x3,x4,x5,x6,x7⟩:=yZ.o;by_cases hilt:i<f.length
    .have yL:=zG.below zJ;obtain⟨b,off,ha,hb,hc⟩:=yL.at hilt;subst ha;have C:Hid (f[i]?=some f[i]):=Zv hilt;have HC:Hid _:=hc;generalize f[i]=x at *
     clear hc;have vQ:=yI x (Zs C.o);go_wp2
     go_loopw [9] (fun jv wz=>∃q:Nat,q<=x.B.length/\jv=.int .i64 q/\Zz w wz/\Hid (Aq wz w.heap.size o now l d (.slice (some ⟨b,off,none⟩) f.length ac) P L)/\Hid (∀(r:Nat) s,r<q->x.B[r]?=some s->∃u∈f,u.sum=s/\u.born<x.born)) (fun jv _=>x.B.length -(intOf jv).toNat)
     case atStart=>exact⟨0,Nat.zero_le _,rfl,zJ,yZ,fun r s h=>by omega⟩
     case round=>
      obtain⟨q,hq,rfl,zK,yO,xH⟩:=hrel;have V:=zG.below zK;obtain⟨b',yY,yQ,_,yS⟩:=V.at hilt;cases yQ;obtain⟨_,e1,_,D,E,e3,yT⟩:=yS i _ C.o;obtain⟨y0,y1,y2,y3,y4,y5,y6,y7⟩:=yO.o;clear x0 x1 x2 x3 x4 x5 x6 x7;have vM:(0:Int)<=(i:Int):=by omega
      have vN:(i:Int)<(f.length:Int):=by omega
      have xQ:b<wr.heap.size:=by omega
      by_cases hql:q<x.B.length
      .obtain⟨rb,vK,xY,vP,xG⟩:=yT.at hql;subst xY;have HS:Hid (x.B[q]?=some x.B[q]):=Zv hql;have es:=xG q _ HS.o;have xE:(0:Int)<=(q:Int):=by omega
       have xF:(q:Int)<(x.B.length:Int):=by omega
       have yV:rb<wr.heap.size:=by omega
       generalize x.B[q]=s at *
       have xB:∀n:Ae wr,Calls prog 18 #[.agg #[.int .i64 o,.int .i64 now,.int .i64 l,.int .i64 d,.slice (some ⟨b,off,none⟩) f.length ac,P,L],.string s] n.w fun e O=>e=.returned (.int .i64 (BQ f s))/\Below n.w.heap.size n.w O:=fun n=>Ck o now l d _ ac P L f s n.w w.heap.size (V.below (n.h.mono (by omega))) (by have:=n.h.size;omega) (by omega);have xM:Hid _:=xB;have q0:=Ae.cell y0 y7
       have q1:=Ae.cell y1 y7;have q2:=Ae.cell y2 y7;have q3:=Ae.cell y3 y7;have q4:=Ae.cell y4 y7;have q5:=Ae.cell y5 y7;have q6:=Ae.cell y6 y7;have q7:=Ae.cell e3 xQ;have q8:=Ae.cell es yV;have xD:=Ae.ne wr;have HK:Hid _:=V;clear xB yS xG yT V;go_wp2;refine Ai (by kernel_rfl) (by kernel_rfl) ?_
       repeat (go_big_quiet_step (exact Ae.calls (xM.o _)))
       refine wpQuiet_nil ?_;intro n;have zN:Below w.heap.size w n.w:=zK.trans (n.h.mono (by omega));have yP:AQ n.w w.heap.size (some ⟨b,off,none⟩) f:=AQ.below HK.o (n.h.mono (by omega));have xA:Hid (Aq n.w w.heap.size o now l d (.slice (some ⟨b,off,none⟩) f.length ac) P L):=Aq.ah yO.o n.h y7;obtain⟨z0,z1,z2,z3,z4,z5,z6,z7⟩:=xA.o;obtain⟨b',yY,yQ,_,yH⟩:=yP.at hilt;cases yQ
       obtain⟨_,f1,_,_⟩:=yH i _ C.o;rcases BM f s with⟨hf,zT⟩|⟨i2,u,hf,hu,yJ⟩
       .rw[hf];clear yH yP;go_wp2;go_quiet (fail);go_wp2;go_ret;refine⟨_,rfl,?_,AH zN _⟩;simp only[Bool.false_eq_true,false_iff];intro h;obtain⟨u,hu,yJ,_⟩:=h.2.2 _ _ C.o s (Zs HS.o);exact zT ⟨u,hu,yJ⟩
       .rw[hf];obtain⟨_,g1,_,_⟩:=yH i2 _ hu;have vH:=(Zw hu).1;have xW:(0:Int)<=(i2:Int):=by omega
        have xX:(i2:Int)<(f.length:Int):=by omega
        have vI:decide ((i2:Int)<0)=false:=by simp
        have HU:Hid _:=Zn hu yJ;clear yH yP hu yJ;by_cases hlt2:u.born<x.born
        .have hd:decide (x.born<=u.born)=false:=by simp;omega
         have HN:Hid (∀(r:Nat) s,r<q+1->x.B[r]?=some s->∃u∈f,u.sum=s/\u.born<x.born):=by
          intro r s' zB zI;rcases Nat.lt_or_ge r q with J|J
          .exact xH.o r s' J zI
          .obtain rfl:r=q:=by omega
           rw[HS.o]at zI;cases zI;exact⟨u,Zs HU.o.1,HU.o.2,hlt2⟩
         go_wp2;go_quiet (fail);go_wp2;exact⟨⟨q+1,by omega,by go_num,AH zN _,Aq.ah xA.o (AH Ad nq) z7,HN⟩,by simp[intOf];omega⟩
        .have hd:decide (x.born<=u.born)=true:=by simp;omega
         go_wp2;go_quiet (fail);go_wp2;go_ret;refine⟨_,rfl,?_,AH zN _⟩;simp only[Bool.false_eq_true,false_iff];intro h;obtain⟨u',xZ,yX,vL⟩:=h.2.2 _ _ C.o s (Zs HS.o);obtain⟨i3,xV⟩:=List.getElem?_of_mem xZ;have:=NI h.1 HU.o.1 xV (by rw[HU.o.2,yX]);subst this;omega
      .have HN:Hid (∀(j:Nat) y,j<i+1->f[j]?=some y->Hs f y):=by
        intro j y hj W;rcases Nat.lt_or_ge j i with J|J
        .exact yG.o j y J W
        .obtain rfl:j=i:=by omega
         rw[C.o]at W;cases W;intro r zB;obtain⟨p,hp⟩:=List.getElem?_of_mem zB;exact xH.o p r (by have:=(Zw hp).1;omega) hp
       clear yS yT V;go_wp2;exact⟨⟨i+1,by omega,by go_num,zK,yO,HN⟩,by simp[intOf];omega⟩
    .go_wp2;go_ret;refine⟨_,rfl,?_,zJ⟩;simp only[true_iff];exact⟨fun i k h=>(yF.o i k h).1,fun i k h=>(yF.o i k h).2,fun i k h=>yG.o i k (by have:=(Zw h).1;omega) h⟩
end
section
attribute [local go_sem↓] Go.wp_at_zero Go.wp_at_succ
theorem Km:Maps.Keyed prog 3:=Maps.int_keyed underlying3
def VZ(ks:List Kd)(k:Nat)(f:Lit->Option Value):Prop:=∀z:Int,f (.int .i64 z)=if seen ks k z=true then some (.int .i64 1)else none
theorem Kn(H now A d:Int)(P L:Value)(a:Zk)(ac m:Nat)(g:List Kd)(w:Zh)(R:AQ w w.heap.size a g)(hl:g.length<=1048576)(zO:∀k∈g,k.B.length<=1048576)(zK:∀k∈g,(Lit.int .i64 k.born).wf=true)
 (yI:∀(i:Nat) k,g[i]?=some k->DP H g i k) (F:∀s,VI w H m g s):
 Calls prog 57 #[.agg #[.int .i64 H,.int .i64 now,.int .i64 A,.int .i64 d,.slice a g.length ac,P,L],.agg #[.int .i64 H,.map (some m)]] w fun e w'=>Ao ((∀(i:Nat) k,g[i]?=some k->DK d g i k)/\(∀(i:Nat) k,g[i]?=some k->Hs g k)) w w' e:=by
 have yY:= @run_makeMap prog;go_enter func57,ntmps57;go_wp2;obtain⟨E,B⟩:=Af (((w.alloc (Obj.cells #[Value.int IntKind.i64 H,Value.int IntKind.i64 now,Value.int IntKind.i64 A,Value.int IntKind.i64 d,Value.slice a g.length ac,P,L] 27)).alloc (Obj.cells #[Value.int IntKind.i64 H,Value.map (some m)] 86)).alloc (Obj.map #[] 0));have Y:Below w.heap.size w E:=by rw[B];exact(((Zy).alloc (by simp) _).alloc (by simp;omega) _)
 have xO:E.heap.size=w.heap.size+3:=by rw[B];simp
 have zH:Bh E 3 (w.heap.size+1+1) 0 (fun _=>none):=by have:=Bh.new ((w.alloc (Obj.cells #[Value.int IntKind.i64 H,Value.int IntKind.i64 now,Value.int IntKind.i64 A,Value.int IntKind.i64 d,Value.slice a g.length ac,P,L] 27)).alloc (Obj.cells #[Value.int IntKind.i64 H,Value.map (some m)] 86)) 3;rw[B];simpa using this
 have s3:E.cell? ⟨w.heap.size,3,none⟩=some (.int .i64 d):=by rw[B];simp[go_sem]
 have g0:E.cell? ⟨w.heap.size+1,0,none⟩=some (.int .i64 H):=by rw[B];simp[go_sem]
 have g1:E.cell? ⟨w.heap.size+1,1,none⟩=some (.map (some m)):=by rw[B];simp[go_sem]
 rw[<-B];clear B yY
 go_loopw [16] (fun i wr=>∃(k:Nat) (f:Lit->Option Value),k<=g.length/\i=.int .i64 k/\Hid (Bh wr 3 (w.heap.size+1+1) k f)/\Hid (VZ g k f)/\Hid (E.grownBy wr (some (w.heap.size+1+1)))/\Hid (∀(j:Nat) x,j<k->g[j]?=some x->DK d g j x/\Hs g x)) (fun i _=>g.length -(intOf i).toNat)
 case atStart=>exact⟨0,_,Nat.zero_le _,rfl,zH,fun z=>by simp[seen],AJ _ _,fun j x h=>by omega⟩
 case round=>
  obtain⟨k,f,hk,rfl,HM,HO,zW,K⟩:=hrel;have J:E.grownBy wr (some (w.heap.size+1+1)):=zW.o;have n:Below w.heap.size w wr:=Y.grown J (by omega) (by intro j hj;cases hj;omega);have xP:=J.size;by_cases hlt:k<g.length
  .obtain⟨b,off,ha,hb,hc⟩:=(R.below n).at hlt;subst ha;have S:Hid (g[k]?=some g[k]):=Zv hlt;obtain⟨c0,c1,c2,ra,rc,c3,hr⟩:=hc k _ S.o;have Q:=List.getElem_mem hlt;have xN:=zO _ Q;have yK:=zK _ Q;have xL:b<wr.heap.size:=by omega
   have t3:=J.cell s3 (by simp;omega);have D:keyOf prog 3 (.int .i64 g[k].born)=some (.int .i64 g[k].born):=Maps.keyOf_int_mk underlying3 yK;have HR:Hid _:=hr;generalize g[k]=x at *
   clear hc hr Q;have zJ:Below wr.heap.size wr (wr.alloc (Obj.cells #[Value.string x.sum,Value.int IntKind.i64 x.born,Value.string x.F,Value.slice ra x.B.length rc] 65)):=Zy;have zI:=HM.o.ah zJ (by omega);have zM:=zI.look Km underlying139 (EI _) D;rw[HO.o]at zM
   have zS:∃c:Int,(if seen g k x.born=true then some (Value.int .i64 1)else none).getD (.int .i64 0)=.int .i64 c/\(c=if seen g k x.born=true then 1 else 0):=by cases seen g k x.born<;>exact⟨_,rfl,rfl⟩
   obtain⟨c,yA,C⟩:=zS;rw[yA]at zM;have xF:0<=c:=by rw[C];split<;>omega
   have xG:c<=1:=by rw[C];split<;>omega
   obtain⟨o,xD,zN,I⟩:=zI.put Km underlying139 (val:=.int .i64 (c+1)) (by unfold maxLen;omega) D;have O:=zN.look Km underlying139 (EI _) D;rw[CW]at O;simp only[Option.getD_some]at O;have zB:E.grownBy o (some (w.heap.size+1+1)):=Ap J (Ap (Ak _ zJ) I);have zY:Below w.heap.size w o:=Y.grown zB (by omega) (by intro j hj;cases hj;omega)
   have u1:o.cell? ⟨wr.heap.size,1,none⟩=some (.int .i64 x.born):=I.cell (by simp) (by simp;omega);have u3:o.cell? ⟨wr.heap.size,3,none⟩=some (.slice ra x.B.length rc):=I.cell (by simp) (by simp;omega);have v3:=zB.cell s3 (by simp;omega);have yL:wr.heap.size<o.heap.size:=by have:=I.size;simp at this;omega
   have U:Below w.heap.size wr o:=(Ad.alloc n.size _).grown I (by simp;have:=n.size;omega) (by intro j hj;cases hj;omega);have yO:Hid (Ab o w.heap.size ra x.B):=Ab.below HR.o U;have G:Hid _:=Zn zN (Zn zB zY);have HP:Hid _:=Zn J n;have HF:Hid _:=F;have zR:Hid _:=Zn R (Zn zO (Zn zK yI));clear zI zN I zB zY J n U HR R zO zK yI F HM zW D zJ yA yK zH Y s3 t3;by_cases hlo:1<=x.born
   .have zU:decide (x.born<1)=false:=by simp;omega
    by_cases hhi:x.born<=d
    .have zT:decide (d<x.born)=false:=by simp;omega
     cases hse:seen g k x.born with
     |true=>
      have zA:c=1:=by rw[C,hse];rfl
      have hd:decide (1<c+1)=true:=by simp;omega
      have zX:Hid _:=hse;clear C hse zA;go_wp2;go_ret;refine Ao.no (fun h=> ?_) G.o.2.2;obtain⟨j',p',yW,yZ,yT⟩:=Db.1 zX.o;exact(h.1 _ _ S.o).new j' p' yW yZ yT
     |false=>
      have zA:c=0:=by rw[C,hse];rfl
      have hd:decide (1<c+1)=false:=by simp;omega
      have zX:Hid _:=hse;have HB:Hid (DK d g k x):=⟨hlo,hhi,fun j2 p2 yX xA he=>by
       have:=Db.2 ⟨j2,p2,yX,xA,he⟩;rw[hse]at this;cases this⟩
      have yN:Hid (VZ g (k+1) (upd f (.int .i64 x.born) (.int .i64 (c+1)))):=by
       intro z;rw[GM S.o];by_cases hz:z=x.born
       .subst hz;rw[CW,zA];simp
       .rw[Dz _ _ (fun e=>hz (by cases e;rfl)),HO.o];have:decide (x.born=z)=false:=by simp;exact fun e=>hz e.symm
        rw[this];simp
      clear C hse zA HO;go_wp2;clear HP zM xD O;generalize hN:wr.heap.size=N at *
      go_loopw [46] (fun jv wz=>∃q:Nat,q<=x.B.length/\jv=.int .i64 q/\Hid (Zz o wz)/\Hid (∀(r:Nat) s,r<q->x.B[r]?=some s->∃u∈g,u.sum=s/\u.born<x.born)) (fun jv _=>x.B.length -(intOf jv).toNat)
      case atStart=>exact⟨0,Nat.zero_le _,rfl,Ad,fun r s h=>by omega⟩
      case round=>
       obtain⟨q,hq,rfl,yM,yG⟩:=hrel;have l:Below o.heap.size o wr:=yM.o;have Z:Below w.heap.size w wr:=G.o.2.2.trans (l.mono G.o.2.2.size);have y1:=(l.cell (p:=⟨N,1,none⟩) yL).trans u1;have p0:=(l.cell (p:=⟨w.heap.size+1,0,none⟩) (by simp;omega)).trans (G.o.2.1.cell g0 (by simp));have p1:=(l.cell (p:=⟨w.heap.size+1,1,none⟩) (by simp;omega)).trans (G.o.2.1.cell g1 (by simp))
       have zZ:N<wr.heap.size:=Zr yL l.size;have xJ:w.heap.size+1<wr.heap.size:=by have:=l.size;omega
       by_cases hql:q<x.B.length
       .have yE:Ab wr w.heap.size ra x.B:=Ab.below yO.o (l.mono (by omega));obtain⟨rb,xI,xB,xM,yF⟩:=yE.at hql;subst xB;have HS:Hid (x.B[q]?=some x.B[q]):=Zv hql;have es:=yF q _ HS.o;have xH:rb<wr.heap.size:=by omega
        generalize x.B[q]=s at *
        obtain⟨u,bo,t,sa,sb,sc,ok,yC,yB⟩:=HF.o s;have HC:Hid _:=yB wr Z;have zF:Hid _:=yC;have V:Hid _:=Zn l Z;clear yB yC yF yE l Z;go_wp2_with fail;refine HC.Am ?_;rintro e w4 ⟨rfl,T⟩;have y4:=(T.cell (p:=⟨N,1,none⟩) zZ).trans y1;have xK:N<w4.heap.size:=Zr zZ T.size;have zG:Below w.heap.size w w4:=V.o.2.trans (T.mono V.o.2.size)
        have M:Below o.heap.size o w4:=V.o.1.trans (T.mono V.o.1.size);have zE:Hid _:=Zn zG M;have xC:o.heap.size<=w4.heap.size:=M.size;have yH:w.heap.size<=w4.heap.size:=zG.size;clear T zG M y1 p0 p1 es HC;cases ok with
        |false=>go_wp2;go_ret;refine Ao.no (fun h=> ?_) (zE.o.1.alloc yH _);obtain⟨v,hv,zC,_⟩:=h.2 _ _ S.o s (Zs HS.o);exact zF.o.no rfl ⟨v,hv,zC⟩
        |true=>
         obtain⟨v,hv,zC,yJ⟩:=zF.o.yes rfl;have X:Hid _:=Zn hv (Zn zC yJ);clear hv zC yJ zF;by_cases hlt2:bo<x.born
         .have yS:decide (x.born<=bo)=false:=by simp;omega
          have HN:Hid (∀(r:Nat) s,r<q+1->x.B[r]?=some s->∃u∈g,u.sum=s/\u.born<x.born):=by
           intro r s' yD zP;rcases Nat.lt_or_ge r q with h'|h'
           .exact yG.o r s' h' zP
           .obtain rfl:r=q:=by omega
            rw[HS.o]at zP;cases zP;exact⟨v,X.o.1,X.o.2.1,by rw[X.o.2.2];exact hlt2⟩
          go_wp2;exact⟨⟨q+1,by omega,by go_num,zE.o.2.alloc xC _,HN⟩,by simp[intOf];omega⟩
         .have yS:decide (x.born<=bo)=true:=by simp;omega
          go_wp2;go_ret;refine Ao.no (fun h=> ?_) (zE.o.1.alloc yH _);obtain⟨v',xE,zV,yR⟩:=h.2 _ _ S.o s (Zs HS.o);obtain⟨i2,yU⟩:=List.getElem?_of_mem X.o.1;obtain⟨i3,yV⟩:=List.getElem?_of_mem xE;have:=NI zR.o.2.2.2 yU yV (by rw[X.o.2.1,zV]);subst this;rw[X.o.2.2]at yR;omega
       .have HN:Hid (∀(j:Nat) y,j<k+1->g[j]?=some y->DK d g j y/\Hs g y):=by
         intro j y hj hy;rcases Nat.lt_or_ge j k with h'|h'
         .exact K.o j y h' hy
         .obtain rfl:j=k:=by omega
          rw[S.o]at hy;cases hy;refine⟨HB.o,fun r yD=> ?_⟩;obtain⟨p,hp⟩:=List.getElem?_of_mem yD;exact yG.o p r (by have:=(Zw hp).1;omega) hp
        have yQ:Hid (Bh wr 3 (w.heap.size+1+1) (k+1) (upd f (.int .i64 x.born) (.int .i64 (c+1)))):=G.o.1.ah l (by omega);have yP:Hid (E.grownBy wr (some (w.heap.size+1+1))):=Ap G.o.2.1 (Ak _ l);clear l Z y1 p0 p1;go_wp2;exact⟨⟨k+1,_,by omega,by go_num,yQ,yN,yP,HN⟩,by simp[intOf];omega⟩
    .have zT:decide (d<x.born)=true:=by simp;omega
     clear C;go_wp2;go_ret;refine Ao.no (fun h=> ?_) G.o.2.2;have:=(h.1 _ _ S.o).hi;omega
   .have zU:decide (x.born<1)=true:=by simp;omega
    clear C;go_wp2;go_ret;refine Ao.no (fun h=> ?_) G.o.2.2;have:=(h.1 _ _ S.o).y;omega
  .clear HM HO zH Y;go_wp2;go_ret;exact Ao.yes ⟨fun i x hx=>(K.o i x (by have:=(Zw hx).1;omega) hx).1,fun i x hx=>(K.o i x (by have:=(Zw hx).1;omega) hx).2⟩ n
end
theorem Sa(d now b a:Int)(T P L:Value)(w:Zh):
 Calls prog 55 #[.agg #[Zg d,Zg now,Zg b,Zg a,T,P,L]] w fun e g=>Ao (MX d now b a) w g e:=by
 have c:Below w.heap.size w (w.alloc (.cells #[Zg d,Zg now,Zg b,Zg a,T,P,L] 27)):=Zy;go_enter func55,ntmps55;go_wp2_with fail;refine(PU d _).mono ?_;rintro e f ⟨rfl,rfl⟩;by_cases h0:1<=d/\d<=8
 .rw[decide_eq_true h0];go_wp2_with fail;refine(GH now _).mono ?_;rintro e f ⟨rfl,rfl⟩;by_cases h1:0<=now/\now<=1000000000
  .rw[decide_eq_true h1];go_wp2_with fail;refine(GH b _).mono ?_;rintro e f ⟨rfl,rfl⟩;by_cases h2:0<=b/\b<=1000000000
   .rw[decide_eq_true h2];go_wp2_with fail;refine(GH a _).mono ?_;rintro e f ⟨rfl,rfl⟩;by_cases h3:0<=a/\a<=1000000000
    .rw[decide_eq_true h3];go_wp2;go_ret;exact Ao.yes ⟨h0.1,h0.2,h1.1,h1.2,h2.1,h2.2,h3.1,h3.2⟩ c
    .rw[decide_eq_false h3];go_wp2;go_ret;exact Ao.no (fun h=>h3 ⟨h.ak,h.cj⟩) c
   .rw[decide_eq_false h2];go_wp2;go_ret;exact Ao.no (fun h=>h2 ⟨h.bi,h.fj⟩) c
  .rw[decide_eq_false h1];go_wp2;go_ret;exact Ao.no (fun h=>h1 ⟨h.ci,h.gi⟩) c
 .rw[decide_eq_false h0];go_wp2;go_ret;exact Ao.no (fun h=>h0 ⟨h.gj,h.gn⟩) c
theorem KS(g now c b:Int)(a p l:Zk)(J pc lc:Nat)(d:List Kd)(A:List Pd)(z:List Ld)(w:Zh)(j:AW w w.heap.size a p l d A z)(hk:Ez d)(hp:Gc A)(hl:JV z)(G:EZ d A z)(zN:∀k∈d,(Lit.int .i64 k.born).wf=true):
 Calls prog 35 #[.agg (Yg g now c b a d.length J p A.length pc l z.length lc)] w fun e w'=>Ao (AI g now c b d A z) w w' e:=by
 have yB:Below w.heap.size w (w.alloc (.cells (Yg g now c b a d.length J p A.length pc l z.length lc) 27)):=Zy;have hx:=Aq.new w g now c b (.slice a d.length J) (.slice p A.length pc) (.slice l z.length lc) 27;have zY:=Yw zN;clear zN;go_enter func35,ntmps35;go_wp2_with fail;refine(Sa g now c b _ _ _ _).mono ?_;rintro e w1 ⟨b1,rfl,V,Z⟩;have L:=yB.trans (Z.mono Yu);have yG:=hx.below Z
 clear Z hx;cases b1 with
 |false=>go_wp2;go_ret;exact Ao.no (fun h=>by have:=V.2 h.bh;cases this) L
 |true=>
  have F:=V.1 rfl;clear V;obtain⟨n,o,q,r,t,u,v,x⟩:=yG;go_wp2_with fail;refine(Ki g now c b a J _ _ d _ (j.L L).k hk G.k G.r F.gj F.gn).mono ?_;rintro e w2 ⟨b2,rfl,X,zA⟩;have M:=L.trans (zA.mono L.size);have yH:=Aq.below ⟨n,o,q,r,t,u,v,x⟩ zA;clear zA n o q r t u v x;cases b2 with
  |false=>go_wp2;go_ret;exact Ao.no (fun h=>by have:=X.2 ⟨h.nth,h.th⟩;cases this) M
  |true=>
   obtain⟨hn,Y⟩:=X.1 rfl;have zG:=Yw Y;clear X;have zT:∀k∈d,(k.sum.size:Int)=g:=fun k yC=>by obtain⟨i,hi⟩:=List.getElem?_of_mem yC;rw[(Y i k hi).sum];exact Eg k g F.gj
   have I:=Yw zT;clear Y zT;obtain⟨n,o,q,r,t,u,v,x⟩:=yH;go_wp2_with fail;refine(JD g now c b a J _ _ d _ (j.L M).k G.k I.o F.gn).mono ?_;rintro e T ⟨m,f,rfl,hm,hM,hH,Q⟩;have y:=M.trans (Q.mono M.size);have zV:=Aq.below ⟨n,o,q,r,t,u,v,x⟩ Q;have z3:=Q.size;have HH:=Yw hH;clear Q n o q r t u v x hH;obtain⟨R,C⟩:=Af (T.alloc (.cells #[Zg g,.map (some m)] 86))
   have K:Below T.heap.size T R:=by rw[C];exact Zy
   have s3:R.heap.size=T.heap.size+1:=by rw[C];simp
   have q3:CY R T.heap.size g m:=by rw[C];exact CY.new _ _ _ _
   have H:=zV.below K;have P:=hM.ah K hM.lt;have y:=y.trans (K.mono y.size);have zH:=Yw C;clear C K hM;obtain⟨n,o,q,r,t,u,v,x⟩:=zV;have HQ:=Yw (Zn H q3);clear H q3;go_wp2_with fail;rw[<-zH.o];refine(Kn g now c b _ _ a J m d R (j.L y).k G.k G.r zY.o zG.o (fun s=>KA g m _ f d _ _ s R P HH.o I.o)).mono ?_;rintro e w4 ⟨b4,rfl,zI,D⟩;have N:=y.trans (D.mono y.size);have zW:=Aq.below HQ.o.1 D
   have zO:=CY.ah HQ.o.2 D HQ.o.2.2.2;have B:=P.ah D P.lt;clear D n o q r t u v x zH P HQ;have zB:=Yw zI;clear zI;cases b4 with
   |false=>clear zW zO B;go_wp2;go_ret;exact Ao.no (fun h=>by have:=zB.o.2 ⟨h.born,h.ref⟩;cases this) N
   |true=>
    obtain⟨zM,zS⟩:=zB.o.1 rfl;have zF:=Yw (Zn zM zS);clear zM zS;obtain⟨n,o,q,r,t,u,v,x⟩:=zW;obtain⟨g0,g1,S⟩:=zO;go_wp2_with fail;refine(Lz g now c b _ _ _ p pc m d A w4 (j.L N).p hp G.p (fun s=>II g m _ f d _ _ s w4 B HH.o I.o) rfl).mono ?_;rintro e w5 ⟨b5,rfl,zJ,E⟩;have O:=N.trans (E.mono N.size);have zX:=Aq.below ⟨n,o,q,r,t,u,v,x⟩ E;have zP:=CY.ah ⟨g0,g1,S⟩ E S;have U:=B.ah E B.lt
    clear E n o q r t u v x g0 g1 S B;have zC:=Yw zJ;clear zJ;cases b5 with
    |false=>clear zX zP U;go_wp2;go_ret;exact Ao.no (fun h=>by have:=zC.o.2 ⟨h.np,h.cv⟩;cases this) O
    |true=>
     obtain⟨yF,zR⟩:=zC.o.1 rfl;have zZ:=Yw zR;clear zR;obtain⟨n,o,q,r,t,u,v,x⟩:=zX;obtain⟨g0,g1,S⟩:=zP;go_wp2_with fail;refine(Kj g now c b _ _ _ l lc m d z w5 (j.L O).l hl G.l F.ci F.gi (fun s=>II g m _ f d _ _ s w5 U HH.o I.o) rfl).mono ?_;rintro e w6 ⟨b6,rfl,zK,zU⟩;have yA:=O.trans (zU.mono O.size);have zE:=Yw zK;clear zK n o q r t u v x g0 g1 S U zU;go_wp2;go_ret
     refine⟨_,rfl,⟨fun h=> ?_,fun h=>zE.o.2 ⟨h.nl,h.bj⟩⟩,yA⟩;obtain⟨yE,yD⟩:=zE.o.1 h;exact⟨F,hn,yF,yE,zG.o,zF.o.1,zF.o.2,zZ.o,yD⟩
theorem TC{b:Nat}{a:Zl}(h:w.ownsRow b 9 1 (.slice d a.length i) a.length (a.map Value.string)):Ab w w.heap.size d a/\(d=none->a.length=0/\i=0):=by
 rcases h.2 with⟨c,f⟩|⟨g,cap,k,c,_,_,j,_⟩
 .injection c with e1 e2 e3;subst e1;exact⟨.inl (List.eq_nil_of_length_eq_zero f),fun _=>⟨f,e3⟩⟩
 .cases c;exact⟨Ab.own h,fun e=>by cases e⟩
theorem Ej.fin{V:Zh}{b:Nat}{a:Zk}{n c:Nat}{p g K:Int}{TX RF Q:Nat}{t':Zi}{f:Nat}{L:Zl}(r:t'.size<=TX)(k:L.length<=RF)(q:∀s∈L,s.size<=8)(m:V.ownsRow (Q+1) 9 1 (.slice d L.length f) L.length (L.map Value.string))(o:AA V b a n c g)(h:p<=g)(j:g<=p+K)(l:w.grownBy V (some b))(t:w.heap.size<Q)(u:b<w.heap.size):
 Ej w ((V.setCell (Zd Q 0) (.string t')).setCell (Zd Q 1) (.slice d L.length f)) (.returned (.agg #[.string t',.slice d L.length f])) b a n c p K TX RF:=by
 refine⟨⟨t',_,_,L,rfl,r,k,q,?_⟩,⟨g,?_,h,j⟩,?_⟩
 .exact(ownsRow_setCell_below (ownsRow_setCell_below m (a:=⟨Q,0,none⟩) (Nat.lt_succ_self Q) _) (a:=⟨Q,1,none⟩) (Nat.lt_succ_self Q) _).mono Yv
 .exact(o.grown (AY _ Q 0 _) Yv).grown (AY _ Q 1 _) Yv
 .exact(l.andThen (AY _ Q 0 _) (fun i e=>by cases e;exact .inl Yv)).andThen (AY _ Q 1 _) (fun i e=>by cases e;exact .inl Yv)
theorem NJ(b:Nat)(a:Zk)(n c:Nat)(p:Int)(t:Zi)(ra:Zk)(rc:Nat)(d:Zl)(w:Zh)(h:AA w b a n c p)(hp:0<=p)(xO:p<=800000)(hr:Ab w w.heap.size ra d)(yB:ra=none->d.length=0/\rc=0)(ht:t.size<=2000)(hl:d.length<=30)(D:∀s∈d,s.size<=8):
 Calls prog 53 #[Yy b,.agg #[.string t,.slice ra d.length rc]] w fun e w'=>Ej w w' e b a n c p 2 2001 31:=by
 obtain⟨i0,hi,zY,zZ,yA⟩:=info_parts BO;have V:=h.lt;obtain⟨G,zC⟩:=Af (w.alloc (.cells #[.string t,.slice ra d.length rc] 63));have zN:Below w.heap.size w G:=by rw[zC];exact Zy
 have T0:Aa G w.heap.size [.string t,.slice ra d.length rc]:=by rw[zC];exact Aa.new w _ _
 have yC:G.heap.size=w.heap.size+1:=by rw[zC];simp
 obtain⟨W,hW⟩:=Af (G.alloc (.cells #[Zc,Zb] 63));have zO:Below G.heap.size G W:=by rw[hW];exact Zy
 have R1:Aa W G.heap.size [Zc,Zb]:=by rw[hW];exact Aa.new G _ _
 have T1:=T0.below zO;have zI:Below w.heap.size w W:=zN.trans (zO.mono zN.size);obtain⟨Q,hQ⟩:=Af G.heap.size;have U:w.heap.size<Q:=Yv
 rw[<-hQ]at R1;have HZ:Hid (w.heap.size+1=Q):=by show _=_;omega
 obtain⟨t0,_⟩:=T1 0 _ rfl;obtain⟨t1,_⟩:=T1 1 _ rfl;have yE:=Yw zC;have HW:=Yw hW;have HR:Hid (Ab W W.heap.size ra d):=hr.L zI;have HC:Hid (Aa W Q [Zc,Zb]/\AA W b a n c p/\w.grownBy W (some b)):=⟨R1,h.below zI,Ak _ zI⟩;have xI:Q<W.heap.size:=R1.lt;clear zC hW hQ zN zO T0 R1 T1 zI yC h hr;go_enter func53,ntmps53;go_upto_region 1 with fail;rw[<-yE.o,<-HW.o,HZ.o];clear yE HW HZ;go_wp2_with fail
 refine(Fq t ra rc d W HR.o yB Yv).mono ?_;rintro e w1 ⟨g,I,rfl,zV,zM⟩;obtain⟨M,zK⟩:=Af (w1.alloc (.cells #[.string t,Yz g d.length I] 63));have zP:Below w1.heap.size w1 M:=by rw[zK];exact Zy
 have J:Below W.heap.size W M:=zM.trans (zP.mono zM.size);obtain⟨B,hB⟩:=Af w1.heap.size;have B2:Aa M B [.string t,Yz g d.length I]:=by rw[zK,hB];exact Aa.new w1 _ _
 have xG:Q<B:=by have:=zM.size;omega
 have yU:=zV.lt g rfl;have xC:g<B:=by rw[hB];exact yU.2
 have O2:M.ownsRow (Q+1) 9 1 (Yz g d.length I) d.length (d.map Value.string):=(zV.kept (Ak none zP) (Classical.em _)).mono Yv;have HD:Hid (Aa M Q [Zc,Zb]/\AA M b a n c p/\w.grownBy M (some b)):=⟨HC.o.1.below J,HC.o.2.1.below J,HC.o.2.2.trans (Ak _ J)⟩;have yF:=Yw zK;have HB:=Yw hB;have Z:=Yw (Zn B2 O2);clear zK hB zP J HC HR B2 O2 zV zM t0 t1;go_upto_region 2 with fail;rw[<-yF.o,<-HB.o]
 clear yF HB;go_wp2_with fail;refine(AR b a n c p 5 M HD.o.2.1 Yv Yv Yv Yv).mono ?_;rintro e f ⟨r,rfl,r0,r1,s3,g3⟩;have y:Hid (Aa f Q [Zc,Zb]/\AA f b a n c (p+1)/\w.grownBy f (some b)):=⟨HD.o.1.gm g3 Yv,s3,HD.o.2.2.trans g3⟩;have B3:Hid (Aa f B [.string t,Yz g d.length I]):=Aa.gm Z.o.1 g3 Yv;have xL:Q+1<=g:=(World.ownsRow.lt Z.o.2 g rfl).1
 have O3:Hid (f.ownsRow (Q+1) 9 1 (Yz g d.length I) d.length (d.map Value.string)):=World.ownsRow.kept Z.o.2 g3 (.inr (by simp[Value.ownBlock];omega));clear HD Z s3 g3;have yI:B<f.heap.size:=B3.o.lt;obtain⟨x0,f0⟩:=B3.o 0 _ rfl;obtain⟨S,f1⟩:=B3.o 1 _ rfl;obtain⟨y0,q0⟩:=y.o.1 0 _ rfl;obtain⟨y1,q1⟩:=y.o.1 1 _ rfl;have yK:¬B=Q:=Yv
 have xE:¬Q=B:=Yv
 by_cases c0:r=0
 .subst c0;go_wp2_with fail;refine(AR b a n c (p+1) 2 f y.o.2.1 Yv Yv Yv Yv).mono ?_;rintro e w4 ⟨r',rfl,yX,yY,s4,g4⟩;obtain⟨m,rfl⟩:∃m:Nat,r'=m:=⟨r'.toNat,Yv⟩;have zU:=Qa ⟨#[116]⟩ (2000+m) w4 Yq (by show 1 *(2000+m)<=100000;omega);rw[show((2000+m:Nat):Int)=2000+(m:Int) by omega]at zU;have HM:=Yw zU;have X4:=B3.o.gm g4 Yv
  have Y4:=y.o.1.gm g4 Yv;have O4:=O3.o.kept g4 (.inr (by simp[Value.ownBlock];omega));have G4:=y.o.2.2.trans g4;clear zU x0 S f0 f1 y0 y1 q0 q1;go_wp2_with fail;refine HM.Am ?_;rintro e w5 ⟨T,rfl,hT,yM⟩;rw[yM];clear yM w5;obtain⟨x0,f0⟩:=X4 0 _ rfl;obtain⟨S,f1⟩:=X4 1 _ rfl;obtain⟨y0,q0⟩:=Y4 0 _ rfl;obtain⟨y1,q1⟩:=Y4 1 _ rfl
  have HT:Hid (T.size<=2001):=by show _<=_;rw[hT];show 1 *(2000+m)<=2001;omega
  clear hT;go_wp2;refine bodyPost_ret (v:=.agg #[.string T,Yz g d.length I]) (by simp[results,results53,go_sem, *]) rfl ?_;refine Ej.fin HT.o Yv D (O4.kept (AY _ B 0 _) (.inr (by simp[Value.ownBlock];omega))) (s4.grown (AY _ B 0 _) Yv) Yv Yv (G4.andThen (AY _ B 0 _) (fun i e=>by cases e;exact .inl Yv)) U V
 .have d0:(r==0)=false:=by simpa using c0
  by_cases c1:r=1
  .subst c1;go_wp2_with (first
    |(at_builtin;refine wpList_append_own_at _ rfl _ _ 29 rfl (Q+1) 9 i0 Zc 1 16 underlying29 hi zY zZ yA rfl Yq _ d.length (d.map Value.string) rfl ?d0 ⟨f.heap.size,0,none⟩ 1 1 [.string ⟨#[120]⟩] rfl rfl ?d1 ?d2 ?d3 ?d4 ?d5 ?_))
   case d0=>exact O3.o.alloc _
   case d1=>
    intro j u C;cases j with
    |zero=>simp at C;subst C;simp[Addr.add]
    |succ j=>simp at C
   case d2=>intro u C;simp at C;subst C;rfl
   case d3=>unfold maxLen;omega
   case d4=>omega
   case d5=>simp;omega
   intro v' F l o x zF;obtain⟨z,c6,zX⟩:∃z c6,v'=Yz z (d.length+1) c6:=by
    rcases Joins.ownsRow_forms l with⟨e1,_⟩|hf
    .exact(x e1).elim
    .exact hf
   subst zX;have b6:Below (Q+1) f F:=(Ad.alloc Yv _).grown o Yt (fun i hi=>by simp[Value.ownBlock]at hi;omega);have q:f.grownBy F (some g):=⟨b6.os,b6.tape,b6.output,b6.size,fun i hi yK=>by
    have h1:=o.block i Yt (by simpa [Value.ownBlock]using yK);rw[h1];exact(Ak none ((Below.refl f.heap.size f).alloc (Zx) _)).block i hi Yu⟩
   have H:=B3.o.au q Yv;have Y6:=y.o.1.au q Yv;have G6:=y.o.2.2.andThen q (fun i e=>by cases e;exact .inl Yv);have S6:=y.o.2.1.grown q Yv;have xK:=l.lt z rfl;have Y:z≠B:=by rcases zF with h|h<;>simp[Value.ownBlock]at h<;>omega
   have O6:F.ownsRow (Q+1) 9 1 (Yz z (d++[ByteArray.mk #[120]]).length c6) (d++[ByteArray.mk #[120]]).length ((d++[ByteArray.mk #[120]]).map Value.string):=by
    have:(d++[ByteArray.mk #[120]]).length=d.length+1:=Yu
    rw[this,List.map_append];exact l
   have HF:=Yw (Zn G6 (Zn S6 O6));clear l o x zF x0 S f0 f1 y0 y1 q0 q1;obtain⟨x0,f0⟩:=H 0 _ rfl;obtain⟨S,f1⟩:=H 1 _ rfl;obtain⟨y0,q0⟩:=Y6 0 _ rfl;obtain⟨y1,q1⟩:=Y6 1 _ rfl;go_wp2;refine bodyPost_ret (v:=.agg #[.string t,Yz z (d.length+1) c6]) (by simp[results,results53,go_sem, *]) rfl ?_;have K:d.length+1=(d++[ByteArray.mk #[120]]).length:=Yu
   rw[K];refine Ej.fin Yv Yt ?_ (HF.o.2.2.kept (AY _ B 1 _) (.inr (by simp[Value.ownBlock];omega))) (HF.o.2.1.grown (AY _ B 1 _) Yv) Yv Yv (HF.o.1.andThen (AY _ B 1 _) (fun i e=>by cases e;exact .inl Yv)) U V;intro s zG;rcases List.mem_append.1 zG with h|h
   .exact D s h
   .simp at h;subst h;decide
  .have d1:(r==1)=false:=by simpa using c1
   by_cases c2:r=2
   .subst c2;by_cases hl0:0<d.length
    .have dl:decide ((0:Int)<(d.length:Int))=true:=decide_eq_true Yv;have HX:Hid (d[0]?=some d[0]):=Zv hl0;have yW:d[0]∈d:=List.getElem_mem hl0;generalize d[0]=X at *
     have cX:f.cell? (Zd g 0)=some (.string X):=by
      have:=Ab.own O3.o;rcases this with h|⟨b',off,e1,_,h3⟩
      .subst h;simp at hl0
      .cases e1;simpa using h3 0 X HX.o
     have xJ:g<f.heap.size:=(O3.o.lt g rfl).2;have yN:=Yw hl0;have xN:(0:Int)<(d.length:Int):=Yv
     have zT:Below f.heap.size f (f.alloc (.cells #[.string X] 9)):=Zy;have oA:(f.alloc (.cells #[.string X] 9)).drew.ownsRow (Q+1) 9 1 (Yz g d.length I) d.length (d.map Value.string):=O3.o.kept (Ak none zT.drew) (Classical.em _);have nA:∀A,(some ⟨f.heap.size,0,none⟩:Zk)=some A->∀i s,[X][i]?=some s->(f.alloc (.cells #[.string X] 9)).drew.cell? (A.add i)=some (.string s):=by
      intro A e i s D;injection e with e;subst e;cases i with
      |zero=>simp at D;subst D;simp[Addr.add]
      |succ i=>simp at D
     have xB:(f.alloc (.cells #[.string X] 9)).cell? (Zd B 1)=some (Yz g d.length I):=(zT.cell (p:=⟨B,1,none⟩) yI).trans S;clear hl0;go_upto_region 10 with fail
     go_region_law (first
      |(refine Ax (f.alloc (.cells #[.string X] 9)).drew rfl (.tmp 37) (.tmp 42) 29 rfl (Q+1) 9 i0 Zc 16 underlying29 hi zY zZ yA rfl g d.length I d rfl oA (some ⟨f.heap.size,0,none⟩) 1 1 [X] rfl rfl (fun e=>by cases e) nA Yo Yv Yt ?_;intro z c6 F zW yJ zH xD;have q:f.grownBy F (some g):=(Ak (some g) zT.drew).trans yJ;have H:=B3.o.au q Yv;have Y6:=y.o.1.au q Yv;obtain⟨yZ,yP⟩:=H 0 _ rfl;obtain⟨xA,yQ⟩:=H 1 _ rfl;obtain⟨y0',q0'⟩:=Y6 0 _ rfl;obtain⟨y1',q1'⟩:=Y6 1 _ rfl))
     all_goals
      have Y:z≠B:=by
       have:=yI;rcases zH with h|h
       .omega
       .simp at h;omega
      have HF:=Yw (Zn (y.o.2.2.andThen q (fun i e=>by cases e;exact .inl Yv)) (Zn (y.o.2.1.grown q Yv) zW));have yV:=(zW.lt z rfl).1;clear zW yJ zH H Y6 oA nA xB x0 S f0 f1 y0 y1 q0 q1 cX;go_wp2;refine bodyPost_ret (v:=.agg #[.string t,Yz z (d.length+1) c6]) (by simp[results,results53,go_sem, *]) rfl ?_;have K:d.length+1=(d++[X]).length:=Yu
      rw[K];refine Ej.fin Yv Yt ?_ (World.ownsRow.kept (by rw[<-K];exact HF.o.2.2) (AY _ B 1 _) (.inr (by simp[Value.ownBlock];omega))) (HF.o.2.1.grown (AY _ B 1 _) Yv) Yv Yv (HF.o.1.andThen (AY _ B 1 _) (fun i e=>by cases e;exact .inl Yv)) U V;intro s zG;rcases List.mem_append.1 zG with h|h
      .exact D s h
      .simp at h;subst h;exact D _ yW
    .have dl:decide ((0:Int)<(d.length:Int))=false:=decide_eq_false Yv;have yN:=Yw hl0;clear hl0;go_wp2;refine bodyPost_ret (v:=.agg #[.string t,Yz g d.length I]) (by simp[results,results53,go_sem, *]) rfl ?_;exact Ej.fin (t':=t) (L:=d) (TX:=2001) (RF:=31) Yv Yv D O3.o y.o.2.1 Yv Yv y.o.2.2 U V
   .have d2:(r==2)=false:=by simpa using c2
    by_cases c3:r=3
    .subst c3;have yR:Below f.heap.size f (f.alloc (.cells #[] 9)):=Zy;obtain⟨N,zE⟩:=Af ((f.setCell (Zd B 1) (Yz f.heap.size 0 0)).alloc (.cells #[] 9));have zB:f.grownBy N (some B):=by rw[zE];exact(AY _ B 1 _).trans (World.grownBy_alloc _ _ _)
     have X4:Aa N B [.string t,Yz f.heap.size 0 0]:=by rw[zE];exact Aa.below (B3.o.set 1 _) (Zy)
     have o4:N.ownsRow (Q+1) 9 1 (Yz f.heap.size 0 0) 0 (([]:Zl).map Value.string):=by have:=World.ownsRow_lit (base:=Q+1) (e:=9) (size:=1) (f.setCell (Zd B 1) (Yz f.heap.size 0 0)) #[] 0 Yt Yo rfl;rw[World.size_setCell]at this;rw[zE];exact this
     have E4:Hid (Aa N Q [Zc,Zb]/\AA N b a n c (p+1)/\w.grownBy N (some b)):=⟨y.o.1.au zB Yv,y.o.2.1.grown zB Yv,y.o.2.2.andThen zB (fun i e=>by cases e;exact .inl Yv)⟩;have yH:=Yw X4;have yD:=Yw o4;have yG:=Yw zE;have xF:=zB.size;clear zE zB X4 o4 yR;go_upto_region 13 with fail;rw[<-yG.o];clear yG x0 S f0 f1 y0 y1 q0 q1;go_wp2_with fail
     refine(AR b a n c (p+1) 2 N E4.o.2.1 Yv Yv Yv Yv).mono ?_;rintro e w5 ⟨r',rfl,yX,yY,s5,g5⟩;obtain⟨m,rfl⟩:∃m:Nat,r'=m:=⟨r'.toNat,Yv⟩;have X5:Hid (Aa w5 B [.string t,Yz f.heap.size 0 0]):=Aa.gm yH.o g5 Yv;have E5:Hid (Aa w5 Q [Zc,Zb]/\AA w5 b a n c (p+1+1)/\w.grownBy w5 (some b)):=⟨E4.o.1.gm g5 Yv,s5,E4.o.2.2.trans g5⟩
     have O5:Hid (w5.ownsRow (Q+1) 9 1 (Yz f.heap.size 0 0) 0 (([]:Zl).map Value.string)):=yD.o.kept g5 (.inr (by simp[Value.ownBlock];omega));clear s5 g5 yH E4 yD;go_wp2
     go_loopw [7] (fun i wr=>∃(k R ck:Nat) (L:Zl),i=Zg k/\k<=30+m/\L.length=k/\B≠R/\Hid (Aa wr B [.string t,Yz R L.length ck])/\Hid (∀s∈L,s.size<=8)/\Hid (wr.ownsRow (Q+1) 9 1 (Yz R L.length ck) L.length (L.map Value.string))/\Hid (Aa wr Q [Zc,Zb]/\AA wr b a n c (p+1+1)/\w.grownBy wr (some b))) (fun i _=>30+m -(intOf i).toNat)
     case atStart=>exact⟨0,f.heap.size,0,[],rfl,Yv,rfl,Yv,X5.o,(fun s D=>by cases D),O5.o,E5.o⟩
     case round=>
      obtain⟨k,R,ck,L,rfl,hk,zJ,yS,X,HS,O,E⟩:=hrel;have xH:B<wr.heap.size:=X.o.lt;obtain⟨x0,f0⟩:=X.o 0 _ rfl;obtain⟨S,f1⟩:=X.o 1 _ rfl;have xM:=O.o.lt R rfl;by_cases hlt:k<30+m
      .have dk:decide ((k:Int)<30+(m:Int))=true:=decide_eq_true Yv;have xP:IntKind.u8.wrap (33+(k:Int))=33+(k:Int):=Jo Yv Yv;have yT:=run_convert_bytes_arg (P:=prog) (wr.alloc (.cells #[.int .u8 (33+(k:Int))] 5)) 22 5 underlying22 underlying5 wr.heap.size 0 1 1 [33+(k:Int)] rfl (fun i hi=>by
        obtain rfl:i=0:=Yv
        simp) 9 underlying9
       have yL:=DX [33+(k:Int)];generalize strOfNums [33+(k:Int)]=T at *
       have zR:Below wr.heap.size wr (wr.alloc (.cells #[.int .u8 (33+(k:Int))] 5)):=Zy;have zS:Below wr.heap.size wr ((wr.alloc (.cells #[.int .u8 (33+(k:Int))] 5)).alloc (.cells #[.string T] 9)):=zR.alloc zR.size _;have zA:=Yw zJ;clear zJ;go_wp2_with (first
        |(at_builtin;refine wpList_append_own_at _ rfl _ _ 29 rfl (Q+1) 9 i0 Zc 1 16 underlying29 hi zY zZ yA rfl Yq _ L.length (L.map Value.string) rfl ?d0 ⟨wr.heap.size+1,0,none⟩ 1 1 [.string T] rfl rfl ?d1 ?d2 ?d3 ?d4 ?d5 ?_))
       case d0=>exact O.o.kept (Ak none zS) (Classical.em _)
       case d1=>
        intro j u C;cases j with
        |zero=>simp at C;subst C;simp[Addr.add]
        |succ j=>simp at C
       case d2=>intro u C;simp at C;subst C;rfl
       case d3=>have:=zA.o;unfold maxLen;omega
       case d4=>have:=zA.o;omega
       case d5=>simp;omega
       intro v' F l o x zF;obtain⟨z,c6,zX⟩:∃z c6,v'=Yz z (L.length+1) c6:=by
        rcases Joins.ownsRow_forms l with⟨e1,_⟩|hf
        .exact(x e1).elim
        .exact hf
       subst zX;have q:wr.grownBy F (some R):=(Ak (some R) zS).trans (by simpa [Value.ownBlock]using o);have Y:B≠z:=by rcases zF with h|h<;>simp[Value.ownBlock]at h<;>omega
       have H:=X.o.au q (fun e=>yS e.symm);obtain⟨yZ,yP⟩:=H 0 _ rfl;obtain⟨xA,yQ⟩:=H 1 _ rfl;have yV:=(l.lt z rfl).1;have HN:Hid (F.ownsRow (Q+1) 9 1 (Yz z (L++[T]).length c6) (L++[T]).length ((L++[T]).map Value.string)):=by
        have:(L++[T]).length=L.length+1:=Yu
        rw[this,List.map_append];exact l
       have Z:Hid (Aa F Q [Zc,Zb]/\AA F b a n c (p+1+1)/\w.grownBy F (some b)):=⟨E.o.1.au q Yv,E.o.2.1.grown q Yv,E.o.2.2.andThen q (fun i e=>by cases e;exact .inl Yv)⟩;have HT:Hid (∀s∈L++[T],s.size<=8):=by
        intro s zG;rcases List.mem_append.1 zG with h|h
        .exact HS.o s h
        .simp at h;subst h;simp at yL;omega
       have yO:=Yw H;clear l o x zF H yT yL zR zS q x0 S f0 f1;go_wp2;have K:(L++[T]).length=L.length+1:=Yu
       refine⟨⟨k+1,z,c6,L++[T],Yn,Yv,by rw[K,zA.o],Y,?_,HT,?_,?_⟩,Ys⟩
       .rw[K];exact yO.o.set 1 _
       .exact HN.o.kept (AY _ B 1 _) (.inr (by simp[Value.ownBlock];omega))
       .exact⟨Z.o.1.au (AY _ B 1 _) Yv,Z.o.2.1.grown (AY _ B 1 _) Yv,Z.o.2.2.andThen (AY _ B 1 _) (fun i e=>by cases e;exact .inl Yv)⟩
      .obtain rfl:k=30+m:=Yv
       have dk:decide (((30+m:Nat):Int)<30+(m:Int))=false:=decide_eq_false Yv;obtain⟨y0,q0⟩:=E.o.1 0 _ rfl;obtain⟨y1,q1⟩:=E.o.1 1 _ rfl;have zA:=Yw zJ;clear zJ;go_wp2;refine bodyPost_ret (v:=.agg #[.string t,Yz R L.length ck]) (by simp[results,results53,go_sem, *]) rfl ?_
       exact Ej.fin (t':=t) (L:=L) (TX:=2001) (RF:=31) Yv (by have:=zA.o;omega) HS.o O.o E.o.2.1 Yv Yv E.o.2.2 U V
    .have d3:(r==3)=false:=by simpa using c3
     go_wp2;refine bodyPost_ret (v:=.agg #[.string (t++⟨#[122]⟩),Yz g d.length I]) (by simp[results,results53,go_sem, *]) rfl ?_
     refine Ej.fin (by rw[ByteArray.size_append];show t.size+1<=2001;omega) Yv D (O3.o.kept (AY _ B 0 _) (.inr (by simp[Value.ownBlock];omega))) (y.o.2.1.grown (AY _ B 0 _) Yv) Yv Yv (y.o.2.2.andThen (AY _ B 0 _) (fun i e=>by cases e;exact .inl Yv)) U V
section
attribute [local go_sem↓] Go.wp_at_zero Go.wp_at_succ
def PA(ks:List Kd):List (Zi×Zi):=ks.flatMap (fun u=>u.B.map (fun r=>(u.sum,r)))
end
section
attribute [local go_sem↓] Go.wp_at_zero Go.wp_at_succ
inductive ReachE (E:List (Zi×Zi)) (fr:Zl):Zi->Prop
 |here {x:Zi}:x∈fr->ReachE E fr x
 |step {x y:Zi}:ReachE E fr y->x∈MQ E y->ReachE E fr x
theorem OR{E:List (Zi×Zi)}{b:Zl}(d:∀s∈b,Ay a s)(c:∀p∈E,Ay a p.2){s:Zi}(h:ReachE E b s):Ay a s:=by
 cases h with
 |here hx=>exact d _ hx
 |step _ hx=>
  unfold MQ at hx;rw[List.mem_filterMap]at hx;obtain⟨p,f,e⟩:=hx;split at e
  .cases e;exact c p f
  .cases e
end
section
attribute [local go_sem↓] Go.wp_at_zero Go.wp_at_succ
end
end Go.Proofs.YtcfjcdpkpiidkaaGreat
