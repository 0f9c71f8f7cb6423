import Derived.Test.YtmjlkgpekcnacaaGreatX12
import Derived.Deep.LoopGhost
import Derived.RegionTactic
set_option maxRecDepth 100000
set_option maxHeartbeats 16000000
namespace Go.Proofs.YtmjlkgpekcnacaaGreat
open Go.ChangeShapes Go.WideShapes Go.ChangeAt Go.RowKit _root_.Go.Proofs.Tryz
variable{ks c e:List Kd}{k b n i a q B g off:Nat}{x s:Zi}{w W X Y:Zh}{d now:Int}{v T P L:Value}{Q f o xs O:Zl}{V:List Nat}{K:TypeId}
theorem MO(C now j c:Int)(T:Value)(p l:Zk)(A z:Nat)(d:List Pd)(h:List Ld)(w:Zh)(J:AO w w.heap.size p d)(K:AR w w.heap.size l h)(zK:d.length<=100)(zJ:h.length<=200):
 Calls prog 46 #[.agg #[Zg C,Zg now,Zg j,Zg c,T,.slice p d.length A,.slice l h.length z]] w fun e V=>∃v,e=.returned v/\Bj V (w.heap.size+1) v (d.map (·.sum)++h.map (·.sum))/\Zz w V:=by
 have zB:=Yw J;have zA:=Yw K;have hx:=Ah.new w C now j c T (.slice p d.length A) (.slice l h.length z) 27;have zC:Below w.heap.size w (w.alloc (.cells #[Zg C,Zg now,Zg j,Zg c,T,.slice p d.length A,.slice l h.length z] 27)):=Zy;clear J K;go_enter func46,ntmps46;obtain⟨L,M,N,P,Q,R,S,U⟩:=hx;go_wp2
 go_loopw [3,11] (fun v i wr=>∃(k:Nat),k<=d.length/\i=Zg k/\Hid (Bj wr (w.heap.size+1) v ((d.map (·.sum)).take k))/\Zz w wr/\Hid (Ah wr w.heap.size C now j c T (.slice p d.length A) (.slice l h.length z))) (fun _ i _=>d.length -(intOf i).toNat)
 case atStart=>exact⟨0,Nat.zero_le _,rfl,.inl ⟨rfl,Yu⟩,zC,⟨L,M,N,P,Q,R,S,U⟩⟩
 case round=>
  clear L M N P Q R S U;obtain⟨k,hk,rfl,n,f,s⟩:=hrel;obtain⟨W,X,Y,Z,x4,x5,x6,t⟩:=s.o;by_cases hlt:k<d.length
  .obtain⟨b,off,H,hb,u⟩:=(AO.below zB.o f).at hlt;subst H;have G:Hid (d[k]?=some d[k]):=Zv hlt;obtain⟨c0,c1⟩:=u k _ G.o;have zE:b<wr.heap.size:=Yv
   have HN:Hid ((d.map (·.sum)).take (k+1)=(d.map (·.sum)).take k++[d[k].sum]):=by show _=_;rw[Zu (by simpa using hlt)];simp
   have zF:((d.map (·.sum)).take k).length<=100:=Yt
   clear u;generalize d[k]=x at *
   generalize (d.map (·.sum)).take k=O at *
   go_wp2_with fail;refine(Fs x.sum _).mono ?_;rintro e r ⟨rfl,o⟩;have a:Below wr.heap.size wr r:=((Below.refl wr.heap.size wr).alloc (Zx) _).trans (o.mono Yu);have zI:=f.size;have zH:=a.size;have zG:w.heap.size<wr.heap.size:=t;obtain⟨v',B,y,F,q,_⟩:=Ub r (w.heap.size+1) u3 O (n.o.below a) x.sum Yv Yv 71;unfold Cg at y
   have m:Below (w.heap.size+1) r B:=(Below.refl _ _).grown q Yv (fun g I=>(n.o.W I).1);have E:=Yw (Ah.af (Ah.af s.o a t) m Yv);have D:Hid (Zz w B):=(f.trans (a.mono Yv)).trans (m.mono Yv);clear o a q m;go_wp2_with (at_builtin;refine wpList_append_run rfl _ _ _ _ rfl rfl rfl y ?_);exact⟨⟨k+1,Yv,Yo,by rw[HN.o];exact F,D.o,E⟩,by simp[intOf];omega⟩
  .rw[Zt Yt]at n;go_wp2
   go_loopw [3,25] (fun v i wr=>∃(k:Nat),k<=h.length/\i=Zg k/\Hid (Bj wr (w.heap.size+1) v (d.map (·.sum)++(h.map (·.sum)).take k))/\Zz w wr/\Hid (Ah wr w.heap.size C now j c T (.slice p d.length A) (.slice l h.length z))) (fun _ i _=>h.length -(intOf i).toNat)
   case atStart=>exact⟨0,Nat.zero_le _,rfl,by simpa using n,f,s⟩
   case round=>
    clear W X Y Z x4 x5 x6 t;obtain⟨k,hk,rfl,n,f,s⟩:=hrel;obtain⟨W,X,Y,Z,x4,x5,x6,t⟩:=s.o;by_cases hlt:k<h.length
    .obtain⟨b,off,H,hb,u⟩:=(AR.below zA.o f).at hlt;subst H;have G:Hid (h[k]?=some h[k]):=Zv hlt;obtain⟨c0,c1,c2⟩:=u k _ G.o;have zE:b<wr.heap.size:=Yv
     have HN:Hid (d.map (·.sum)++(h.map (·.sum)).take (k+1)=(d.map (·.sum)++(h.map (·.sum)).take k)++[h[k].sum]):=by show _=_;rw[Zu (by simpa using hlt)];simp
     have zF:(d.map (·.sum)++(h.map (·.sum)).take k).length<=300:=Yt
     clear u;generalize h[k]=x at *
     generalize d.map (·.sum)++(h.map (·.sum)).take k=O at *
     go_wp2_with fail;refine(Fs x.sum _).mono ?_;rintro e r ⟨rfl,o⟩;have a:Below wr.heap.size wr r:=((Below.refl wr.heap.size wr).alloc (Zx) _).trans (o.mono Yu);have zI:=f.size;have zH:=a.size;have zG:w.heap.size<wr.heap.size:=t;obtain⟨v',B,y,F,q,_⟩:=Ub r (w.heap.size+1) u3 O (n.o.below a) x.sum Yv Yv 71;unfold Cg at y
     have m:Below (w.heap.size+1) r B:=(Below.refl _ _).grown q Yv (fun g I=>(n.o.W I).1);have E:=Yw (Ah.af (Ah.af s.o a t) m Yv);have D:Hid (Zz w B):=(f.trans (a.mono Yv)).trans (m.mono Yv);clear o a q m;go_wp2_with (at_builtin;refine wpList_append_run rfl _ _ _ _ rfl rfl rfl y ?_);exact⟨⟨k+1,Yv,Yo,by rw[HN.o];exact F,D.o,E⟩,by simp[intOf];omega⟩
    .rw[Zt Yt]at n;go_wp2;go_ret;exact⟨_,rfl,n.o,f⟩
section
attribute [local go_sem↓] Go.wp_at_zero Go.wp_at_succ
def ET(ks:List Kd):List (Zi×Zi):=ks.flatMap (fun u=>u.B.map (fun r=>(u.sum,r)))
def EE(ks:List Kd):List (Zi×Zi):=ks.flatMap (fun u=>u.B.map (fun r=>(r,u.sum)))
theorem TO{x:Kd}(h:ks[k]?=some x):ET (ks.take (k+1))=ET (ks.take k)++x.B.map (fun r=>(x.sum,r)):=by obtain⟨a,rfl⟩:=Zw h;unfold ET;rw[Zu a,List.flatMap_append];simp
theorem TP{x:Kd}(h:ks[k]?=some x):EE (ks.take (k+1))=EE (ks.take k)++x.B.map (fun r=>(r,x.sum)):=by obtain⟨a,rfl⟩:=Zw h;unfold EE;rw[Zu a,List.flatMap_append];simp
theorem IE(g:Kd->List (Zi×Zi))(a:∀u∈ks,(g u).length<=30):(ks.flatMap g).length<=30 *ks.length:=by
 induction ks with
 |nil=>simp
 |cons k ks ih=>have c:=ih (fun k b=>a k (by simp[b]));have d:=a k Yu;rw[List.flatMap_cons,List.length_append,List.length_cons];omega
theorem Lk.entry{d:Nat}{m:Int}{E:List (Zi×Zi)}{i:List Nat}{f:Lit->Option Value}(h:Lk w d b n m E i f)(o:n<=1000000)(s:Zi):
 ∃(c:Int) (a:Zh),(Instr.mapEntry 73 (.map (some b)) (.agg (Yl (kB s)))).run prog w=.ok (.tuple #[rowV f s,Zg c]) a/\w.grownBy a (some b)/\
  ∀W,W.heap[b]?=a.heap[b]? ->∀e,∃g,(Instr.entryStore 73 (.map (some b)) (goInt c) e).run prog W=.ok () g/\AP g 52 b (n+1) (upd f (keyL s) e)/\W.grownBy g (some b):=by
 obtain⟨c,a,j,k,l⟩:=h.map.entry keyed underlying73 Yp Ns (CD s);exact⟨c,a,j,k,l⟩
theorem Lk.more{j:Int}{E:List (Zi×Zi)}{d:List Nat}{f:Lit->Option Value}(h:Lk w a b n j E d f)(k:w.heap.size<=q):Lk w a b n j E (q::d) f:=
 ⟨h.map,h.row,h.apart,fun t i g e c=>by
  rcases List.mem_cons.1 c with rfl|c
  .have:=((h.row t i).W e).2;omega
  .exact h.dt t i g e c⟩
theorem Lk.less{E:List (Zi×Zi)}{c:List Nat}{f:Lit->Option Value}(h:Lk w a b n d E (q::c) f):Lk w a b n d E c f:=
 ⟨h.map,h.row,h.apart,fun t j g i e=>h.dt t j g i (List.mem_cons_of_mem _ e)⟩
theorem XC{a:Zh}{l:Zj}(h:a.heap[B]?=w.heap[B]? /\a.heap[b]?=w.heap[b]?)(d:Aa w b (v::l))(c:Aa w B (Yk (kB s))):
 a.cell? (Zd b 0)=some v/\a.cell? (Zd B 0)=some (.int .u8 (kB s 0))/\a.cell? (Zd B 1)=some (.int .u8 (kB s 1))/\a.cell? (Zd B 2)=some (.int .u8 (kB s 2))/\a.cell? (Zd B 3)=some (.int .u8 (kB s 3))/\a.cell? (Zd B 4)=some (.int .u8 (kB s 4))/\a.cell? (Zd B 5)=some (.int .u8 (kB s 5))/\a.cell? (Zd B 6)=some (.int .u8 (kB s 6))/\a.cell? (Zd B 7)=some (.int .u8 (kB s 7)):=
 ⟨(Aa.same d h.2 0 _ rfl).1,Wu h.1 c⟩
theorem IQ(h now g c:Int)(a:Zk)(C:Nat)(P L:Value)(ks:List Kd)(w:Zh)(J:AI w w.heap.size a ks)(hl:ks.length<=600)(I:∀k∈ks,k.B.length<=30)(zV:∀k∈ks,(k.sum.size:Int)=h)(zU:∀k∈ks,∀r∈k.B,(r.size:Int)=h)(h8:h<=8):
 Calls prog 47 #[.agg #[Zg h,Zg now,Zg g,Zg c,.slice a ks.length C,P,L]] w fun e y=>∃b n f,e=.returned (.map (some b))/\w.heap.size<b/\Lk y (b+1) b n h (ET ks) [] f/\Zz w y:=by
 have yH:= @run_makeMap prog;have zW:=Yw J;have N:=Yw (Zn I (Zn zV zU));have zC:Below w.heap.size w (w.alloc (.cells #[Zg h,Zg now,Zg g,Zg c,.slice a ks.length C,P,L] 27)):=Zy;have hx:=Ah.new w h now g c (.slice a ks.length C) P L 27;obtain⟨T,E⟩:∃W,W=(w.alloc (.cells #[Zg h,Zg now,Zg g,Zg c,.slice a ks.length C,P,L] 27)).alloc (.map #[] 0):=⟨_,rfl⟩;have yK:T.heap.size=w.heap.size+2:=by rw[E];simp
 have zO:Below w.heap.size w T:=by rw[E];exact zC.alloc zC.size _
 have zR:AP T 52 (w.heap.size+1) 0 (fun _=>none):=by have:=AP.new (w.alloc (.cells #[Zg h,Zg now,Zg g,Zg c,.slice a ks.length C,P,L] 27)) 52;rw[World.size_alloc]at this;rw[E];exact this
 have yC:Ah T w.heap.size h now g c (.slice a ks.length C) P L:=by rw[E];exact hx.af (Zy) hx.2.2.2.2.2.2.2
 have zI:Hid (Lk T (w.heap.size+1+1) (w.heap.size+1) 0 h [] [] (fun _=>none)):=Lk.new zR;clear J I zV zU hx zC zR;obtain⟨q0,q1,q2,q3,q4,q5,q6,q7⟩:=yC;go_enter func47,ntmps47;go_upto_region 2 with fail;rw[<-E];clear E yH;go_wp2
 go_loopw [13] (fun i wr=>∃(k:Nat) (f:Lit->Option Value),k<=ks.length/\i=Zg k/\Hid (Lk wr (w.heap.size+1+1) (w.heap.size+1) (ET (ks.take k)).length h (ET (ks.take k)) [] f)/\Zz w wr/\Hid (Ah wr w.heap.size h now g c (.slice a ks.length C) P L)/\w.heap.size+2<=wr.heap.size) (fun i _=>ks.length -(intOf i).toNat)
 case atStart=>exact⟨0,_,Nat.zero_le _,rfl,by rw[List.take_zero];exact zI,zO,⟨q0,q1,q2,q3,q4,q5,q6,q7⟩,Yv⟩
 case round=>
  rename Zh=>wo
  clear q0 q1 q2 q3 q4 q5 q6 q7 zI zO yK;obtain⟨k,f,hk,rfl,o,t,S,yZ⟩:=hrel;by_cases hlt:k<ks.length
  .obtain⟨b,off,ha,hb,hc⟩:=(AI.below zW.o t).at hlt;subst ha;have HG:Hid (ks[k]?=some ks[k]):=Zv hlt;obtain⟨c0,c1,c2,ra,rc,c3,zT⟩:=hc k _ HG.o;have v:ks[k]∈ks:=List.getElem_mem hlt;have yR:=N.o.1 _ v;have yJ:=N.o.2.1 _ v;have yA:=Yw (N.o.2.2 _ v);have yY:b<wo.heap.size:=Yv
   have HE:=Yw (TO HG.o);have yV:(ET (ks.take k)).length<=18000:=by
    have:=IE (ks:=ks.take k) (fun u=>u.B.map (fun r=>(u.sum,r))) (fun u hu=>by simpa using N.o.1 u (List.mem_of_mem_take hu));have h2:(ks.take k).length<=600:=Yt
    unfold ET;omega
   have zZ:=Yw zT;clear hc zT v;generalize ks[k]=x at *
   generalize ET (ks.take k)=E0 at *
   obtain⟨B,H⟩:∃B,B=wo.alloc (.cells #[.string x.sum,Zg x.born,.string x.E,.slice ra x.B.length rc] 37):=⟨_,rfl⟩;have zM:Below wo.heap.size wo B:=by rw[H];exact Zy
   have Z1:Aa B wo.heap.size [.string x.sum,Zg x.born,.string x.E,.slice ra x.B.length rc]:=by rw[H];exact Aa.new wo _ _
   have yL:B.heap.size=wo.heap.size+1:=by rw[H];simp
   obtain⟨z0,_⟩:=Z1 0 _ rfl;have zJ:=Yw H;have zK:=Yw Z1;have X:=Yw zM;clear H Z1 zM;obtain⟨x0,x1,x2,x3,x4,x5,x6,x7⟩:=S.o;go_upto_region 5 with fail;rw[<-zJ.o];clear zJ x0 x1 x2 x3 x4 x5 x6;go_wp2_with fail;refine(Fs x.sum B).mono ?_;rintro e D ⟨rfl,Q⟩;obtain⟨l,O⟩:∃l,l=D.alloc (Cg x.sum):=⟨_,rfl⟩;have zN:Below D.heap.size D l:=by rw[O];exact Zy
   have Y2:Aa l D.heap.size (Yk (kB x.sum)):=by rw[O];exact Aa.new D _ _
   have zA:Below B.heap.size B l:=Q.trans (zN.mono Q.size);have R:Below wo.heap.size wo l:=X.o.trans (zA.mono X.o.size);have Z2:Aa l wo.heap.size [.string x.sum,Zg x.born,.string x.E,.slice ra x.B.length rc]:=Aa.below zK.o zA;have yM:B.heap.size<=D.heap.size:=Q.size;have zH:D.heap.size<l.heap.size:=Y2.lt;have B2:Below w.heap.size wo l:=R.mono t.size
   have X2:Ah l w.heap.size h now g c (.slice (some ⟨b,off,none⟩) ks.length C) P L:=Ah.af S.o R x7;have L2:Lk l (w.heap.size+1+1) (w.heap.size+1) E0.length h E0 [wo.heap.size,D.heap.size] f:=Lk.af (Lk.gy o.o _ (by intro q U;simp at U;rcases U with rfl|rfl<;>omega)) R;have M:=Yw (Zn L2 (Zn B2 (Zn X2 (Zn Z2 Y2))));have Z:=Yw O;unfold Cg at Z;clear O L2 B2 X2 Y2 zN zA R Q zK X z0 x7
   obtain⟨z3,_⟩:=Z2 3 _ rfl;clear Z2;go_upto_region 6 with fail;rw[<-Z.o];obtain⟨A,zB⟩:∃A,A=wo.heap.size:=⟨_,rfl⟩;obtain⟨d,zP⟩:∃d,d=D.heap.size:=⟨_,rfl⟩;rw[<-zB,<-zP]at M |-;rw[<-zB]at z3;have yO:w.heap.size+2<=A:=Yv
   have yN:A<d:=Yv
   have zE:d<l.heap.size:=Yv
   clear Z zB zP yL yM zH;go_wp2
   go_loopw [24] (fun i wr=>∃(m:Nat) (f2:Lit->Option Value),m<=x.B.length/\i=Zg m/\Hid (Lk wr (w.heap.size+1+1) (w.heap.size+1) (E0.length+m) h (E0++(x.B.take m).map (fun r=>(x.sum,r))) [A,d] f2)/\Below w.heap.size wo wr/\Hid (Ah wr w.heap.size h now g c (.slice (some ⟨b,off,none⟩) ks.length C) P L)/\Hid (Aa wr A [.string x.sum,Zg x.born,.string x.E,.slice ra x.B.length rc]/\Aa wr d (Yk (kB x.sum)))/\d<wr.heap.size) (fun i _=>x.B.length -(intOf i).toNat)
   case atStart=>exact⟨0,f,Nat.zero_le _,rfl,(show Lk _ _ _ _ _ _ _ _ from by simpa using M.o.1),M.o.2.1,M.o.2.2.1,M.o.2.2.2,zE⟩
   case round=>
    clear M z3 o;obtain⟨m,f2,hm,rfl,o,j,S,s,G⟩:=hrel;by_cases hmlt:m<x.B.length
    .obtain⟨b',yS,yD,yX,zS⟩:=(Ab.below zZ.o j).at hmlt;subst yD;have Y:Hid (x.B[m]?=some x.B[m]):=Zv hmlt;have yF:=zS m _ Y.o;have zY:=Yw (Nr (fun r=>(x.sum,r)) Y.o);clear zS;generalize x.B[m]=r at *
     have yQ:(r.size:Int)=h:=yA.o r (Zs Y.o);obtain⟨y0,_⟩:=s.o.2 0 _ rfl;obtain⟨y1,_⟩:=s.o.2 1 _ rfl;obtain⟨y2,_⟩:=s.o.2 2 _ rfl;obtain⟨y3,_⟩:=s.o.2 3 _ rfl;obtain⟨y4,_⟩:=s.o.2 4 _ rfl;obtain⟨y5,_⟩:=s.o.2 5 _ rfl;obtain⟨y6,_⟩:=s.o.2 6 _ rfl;obtain⟨y7,_⟩:=s.o.2 7 _ rfl;have yW:(E0++(x.B.take m).map (fun r=>(x.sum,r))).length<=18030:=Yt
     have yP:b'<wr.heap.size:=by have:=j.size;omega
     have yI:w.heap.size+1<w.heap.size+1+1:=Nat.lt_succ_self _;have zG:w.heap.size+1+1<=wr.heap.size:=Yv
     have zF:∀q∈[A,d],q<wr.heap.size:=by intro q U;simp at U;rcases U with rfl|rfl<;>omega
     have kD:Below wr.heap.size wr wr.drew:=(Below.refl _ _).drew;go_upto_region 9 with fail;have F:d≠w.heap.size+1:=Yv
     have eD:wr.drew.heap[d]?=wr.heap[d]?:=rfl;have z:d∈[A,d]:=Yu
     go_region_held3 (fun y=>y.cell? (Zd d 0)=some (.int .u8 (kB x.sum 0))/\y.cell? (Zd d 1)=some (.int .u8 (kB x.sum 1))/\y.cell? (Zd d 2)=some (.int .u8 (kB x.sum 2))/\y.cell? (Zd d 3)=some (.int .u8 (kB x.sum 3))/\y.cell? (Zd d 4)=some (.int .u8 (kB x.sum 4))/\y.cell? (Zd d 5)=some (.int .u8 (kB x.sum 5))/\y.cell? (Zd d 6)=some (.int .u8 (kB x.sum 6))/\y.cell? (Zd d 7)=some (.int .u8 (kB x.sum 7)))
      (exact Wu (by assumption) s.o.2)
      (first
        |(go_at_call 21;refine(Fs r wr.drew).mono ?_;rintro e V ⟨rfl,yE⟩;have k3:Below wr.heap.size wr V:=kD.trans (yE.mono (Zx));have k4:Below wr.heap.size wr (V.alloc (Cg r)):=k3.alloc k3.size _;obtain⟨stC,wC,hEC,hgC,hsC⟩:=(o.o.af k4).entry Yv x.sum;have gC:wr.grownBy wC (some (w.heap.size+1)):=(Ae _ k4).trans hgC;have l3:w.heap.size+1<V.heap.size:=(by have:=k3.size;omega);obtain⟨vC,w4C,w5C,hrC,htC,hLC,hbC,haC,hzC⟩:=o.o.add yI zG zF gC yJ h8 hsC (R8.ff r hgC Yv) Yv 71;have e3:V.heap[d]?=wr.heap[d]?:=k3.block d G;have yB:(V.alloc (Cg r)).heap[d]?=wr.heap[d]?:=k4.block d G;have eC:wC.heap[d]?=wr.heap[d]?:=gC.block d G (fun e=>F (Option.some.inj e));have yT:=(haC d z F).2;have yU:=(haC d z F).1;unfold Cg at hEC yB;unfold goInt at htC)
        |(refine Cc Yq (.tmp 30) (.tmp 33) 71 71 Yq Yq Yq hrC ?_;have K:=Yw (Zn hLC (Zn hbC (Zn haC hzC)))))
     all_goals
      have hlen:E0.length+(m+1)=E0.length+m+1:=Yv
      clear y0 y1 y2 y3 y4 y5 y6 y7 yF;go_wp2;refine⟨⟨m+1,upd f2 (keyL x.sum) vC,Yv,Yo,?_,?_,?_,⟨?_,?_⟩,?_⟩,by simp[intOf];omega⟩
      .rw[zY.o,<-List.append_assoc,hlen];exact K.o.1
      .exact j.trans (K.o.2.1.mono Yv)
      .exact Ah.af S.o K.o.2.1 Yv
      .exact Aa.same s.o.1 (K.o.2.2.1 A Yu Yv).1
      .exact Aa.same s.o.2 (K.o.2.2.1 d Yu Yv).1
      .have:=K.o.2.2.2;omega
    .obtain rfl:m=x.B.length:=Yv
     rw[Zt (Zx),<-HE.o]at o;have yG:(ET (ks.take (k+1))).length=E0.length+x.B.length:=by rw[HE.o];simp
     rw[<-yG]at o;have zX:=Yw (Lk.free o.o);clear o;go_wp2;exact⟨⟨k+1,f2,Yv,Yo,zX,t.trans j,S,Yv⟩,by simp[intOf];omega⟩
  .rw[Zt Yv]at o;obtain rfl:k=ks.length:=Yv
   go_wp2;go_ret;exact⟨_,_,f,rfl,Yv,o.o,t⟩
end
section
attribute [local go_sem↓] Go.wp_at_zero Go.wp_at_succ
def Fi:Obj->Bool
 |.cells _ t _=> !(t==9)
 |_=>true
inductive ReachE (E:List (Zi×Zi)) (fr:Zl):Zi->Prop
 |here {x:Zi}:x∈fr->ReachE E fr x
 |step {x y:Zi}:ReachE E fr y->x∈Cf E y->ReachE E fr x
structure Wk (ks:List Kd) (E:List (Zi×Zi)) (fr vs Q:Zl):Prop where
 nd:vs.Nodup
 vr:∀s∈vs,ReachE E fr s
 qr:∀s∈Q,ReachE E fr s
 base:∀s∈fr,s∈vs\/s∈Q
 shut:∀s∈vs,∀t∈Cf E s,t∈vs\/t∈Q
 there:∀s∈vs,Aw ks s
theorem Wk.done{d:List Kd}{E:List (Zi×Zi)}{a b:Zl}(h:Wk d E a b []):s∈b↔ReachE E a s:=by
 refine⟨h.vr s,fun c=> ?_⟩;induction c with
 |here hx=>exact(h.base _ hx).resolve_right Yu
 |step _ hx ih=>exact(h.shut _ ih _ hx).resolve_right Yu
theorem Wk.skip{E:List (Zi×Zi)}{c b:Zl}(h:Wk e E c b (s::Q))(f:s∈b):Wk e E c b Q:=by
 have d:∀{t:Zi},t∈b\/t∈s::Q->t∈b\/t∈Q:=fun {t} h=>by
  rcases h with h|h
  .exact .inl h
  .rcases List.mem_cons.1 h with rfl|h
   .exact .inl f
   .exact .inr h
 exact⟨h.nd,h.vr,fun t a=>h.qr t (List.mem_cons_of_mem _ a),fun t a=>d (h.base t a),fun u g t a=>d (h.shut u g t a),h.there⟩
theorem Wk.visit{j:List Kd}{E:List (Zi×Zi)}{i:Zl}(h:Wk j E i f (s::Q))(n:s∉f)(o:Aw j s):Wk j E i (f++[s]) (Q++Cf E s):=by
 have g:ReachE E i s:=h.qr s Yu;have l:∀{t:Zi},t∈f\/t∈s::Q->t∈f++[s]\/t∈Q++Cf E s:=fun {t} h=>by
  rcases h with h|h
  .exact .inl (by simp[h])
  .rcases List.mem_cons.1 h with rfl|h
   .exact .inl Yu
   .exact .inr (by simp[h])
 refine⟨?_,fun t c=> ?_,fun t c=> ?_,fun t c=>l (h.base t c),fun u d t c=> ?_,fun t c=> ?_⟩
 .refine List.nodup_append.2 ⟨h.nd,Yu,fun a m b k e=> ?_⟩;simp at k;subst k;subst e;exact n m
 .rcases List.mem_append.1 c with c|c
  .exact h.vr t c
  .simp at c;subst c;exact g
 .rcases List.mem_append.1 c with c|c
  .exact h.qr t (List.mem_cons_of_mem _ c)
  .exact .step g c
 .rcases List.mem_append.1 d with d|d
  .exact l (h.shut u d t c)
  .simp at d;subst d;exact .inr (by simp[c])
 .rcases List.mem_append.1 c with c|c
  .exact h.there t c
  .simp at c;subst c;exact o
theorem FE{E:List (Zi×Zi)}{a:Zl}(c:∀s∈a,Aw ks s)(b:∀p∈E,Aw ks p.2)(h:ReachE E a s):Aw ks s:=by
 cases h with
 |here hx=>exact c _ hx
 |step _ hx=>
  unfold Cf at hx;rw[List.mem_filterMap]at hx;obtain⟨p,d,e⟩:=hx;split at e
  .cases e;exact b p d
  .cases e
theorem QF{i:List Kd}{d:Zl}(g:d.Nodup)(m:∀s∈d,Aw i s):d.length<=i.length:=by
 have h:∀(l:Zl),l.Nodup->∀(u:Zl),(∀x∈l,x∈u)->l.length<=u.length:=by
  intro l;induction l with
  |nil=>intro _ u _;simp
  |cons x xs ih=>
   intro h u c;obtain⟨o,g⟩:=List.nodup_cons.1 h;obtain⟨a,b,rfl⟩:=List.append_of_mem (c x Yu);have:=ih g (a++b) (fun y j=>by
    have f:=c y (by simp[j]);have k:y≠x:=fun e=>o (by rw[<-e];exact j);simp only[List.mem_append,List.mem_cons]at f |-;rcases f with h|h|h
    .exact .inl h
    .exact absurd h k
    .exact .inr h)
   simp only[List.length_cons,List.length_append]at this |-;omega
 have:=h d g (i.map (·.sum)) (fun s c=>by
  obtain⟨u,n,e⟩:=m s c;exact List.mem_map.2 ⟨u,n,e⟩)
 simpa using this
theorem Holds.get{f:Lit->Option Value}(h:Holds W B d ks f)(i:(s.size:Int)=d)(j:Aw ks s):∃u b c,u∈ks/\u.sum=s/\f (keyL s)=some (CE u b c):=by
 rcases h s i with⟨_,a⟩|⟨u,b,c,e,a,g,_⟩
 .exact absurd j a
 .exact⟨u,b,c,e,a,g⟩
structure Cr (n0:Nat) (V:List Nat) (W W':Zh):Prop where
 os:W'.os=W.os
 tape:W'.tape=W.tape
 output:W'.output=W.output
 size:W.heap.size<=W'.heap.size
 old:∀q,q<n0->q∉V->W'.heap[q]?=W.heap[q]?
 own:∀q o,n0<=q->W.heap[q]?=some o->Fi o=true->W'.heap[q]?=some o
theorem Cr.refl(a:Nat)(V:List Nat)(W:Zh):Cr a V W W:=⟨rfl,rfl,rfl,Zx,fun _ _ _=>rfl,fun _ _ _ h _=>h⟩
theorem Cr.trans{Z:Zh}(h:Cr b V X Y)(k:Cr b V Y Z):Cr b V X Z:=
 ⟨k.os.trans h.os,k.tape.trans h.tape,k.output.trans h.output,Zm h.size k.size,fun q a d=>(k.old q a d).trans (h.old q a d),fun q o a e c=>k.own q o a (h.own q o a e c) c⟩
def Abides(n0:Nat)(J:Zl->Zh->Prop):Prop:=
 ∀vs W W',J vs W->W'.os=W.os->W'.tape=W.tape->W'.output=W.output->W.heap.size<=W'.heap.size->(∀q,q<n0->W'.heap[q]?=W.heap[q]?)->(∀q o,n0<=q->W.heap[q]?=some o->Fi o=false->W'.heap[q]?=some o)->J vs W'
theorem Abides.below{e:Nat}{J:Zl->Zh->Prop}(h:Abides e J){c:Zl}{b:Zh}(f:J c W)(a:Zz W b)(g:e<=W.heap.size):J c b:=
 h c W b f a.os a.tape a.output a.size (fun q i=>a.block q Yv) (fun q o _ d _=>(a.block q (Array.getElem?_eq_some_iff.1 d).1).trans d)
theorem Abides.grown{f:Nat}{J:Zl->Zh->Prop}(h:Abides f J){g:Zl}{d:Zh}(j:J g W)(a:W.grownBy d (some b))(m:f<=W.heap.size)(l:f<=b)(k:∀o,W.heap[b]?=some o->Fi o=true):J g d:=
 h g W d j a.os a.tape a.output a.size (fun q c=>a.block q Yv (fun e=>by have:=Option.some.inj e;omega)) (fun q o _ c i=>by
  by_cases e:q=b
  .subst e;rw[k o c]at i;cases i
  .exact(a.block q (Array.getElem?_eq_some_iff.1 c).1 (fun h=>e (Option.some.inj h))).trans c)
end
section
attribute [local go_sem↓] Go.wp_at_zero Go.wp_at_succ
theorem Bj.nil0(w:Zh)(a:Nat)(h:a<=w.heap.size):Bj (w.alloc (.cells #[] 52)) a (Yz w.heap.size 0 0) []:=
 .inr ⟨w.heap.size,0,0,rfl,h,⟨_,_,heap_alloc_new w _⟩,Zx,Nat.zero_le _,fun j c=>by omega,fun i s b=>by simp at b⟩
theorem Bj.tail1(h:Bj w a (.slice (some ⟨g,off,none⟩) (s::Q).length 1) (s::Q)):Q=[]/\Bj w a (.slice (some ⟨g,off,none⟩) 0 0) []:=by
 rcases h with⟨b,_⟩|⟨m,e,d,b,f,k,c,n,o,q⟩
 .cases b
 .cases b;simp at c;refine⟨by simpa using c,.inr ⟨g,off,0,rfl,f,k,Zx,Nat.zero_le _,fun j r=>by omega,fun i s l=>by simp at l⟩⟩
theorem Bj.tail{cap:Nat}(h:Bj w a (.slice (some ⟨g,off,none⟩) (s::Q).length cap) (s::Q)):Bj w a (.slice (some ⟨g,off+8,none⟩) Q.length (cap -1)) Q:=by
 rcases h with⟨b,_⟩|⟨q,e,d,b,f,n,k,r,l,m⟩
 .cases b
 .cases b;simp at k;refine .inr ⟨g,off+8,cap -1,rfl,f,n,Yv,Yv,fun j c=> ?_,fun i t o j c=> ?_⟩
  .have:=l (8+j) Yv;rw[<-Nat.add_assoc]at this;exact this
  .have:=m (i+1) t (by simpa using o) j c;rw[show off+8+(i *8+j)=off+((i+1) *8+j) by omega];exact this
theorem QG(v:Value)(a:Zl)(w:Zh)(l:R8 w w.heap.size v a)(t:a.length<=1000):
 Calls prog 59 #[v] w fun e n=>∃f,e=.returned f/\Bj n w.heap.size f a/\Zz w n:=by
 have i:=l;rcases l with⟨rfl,rfl⟩|⟨g,off,cap,rfl,x,o⟩
 .have b:∀u:Zh,(binOp .eql 71 Zb Zb).run prog u=.ok (.bool true) u:=fun _=>by first|rfl|kernel_rfl
  go_enter func59,ntmps59;go_wp2;go_ret;exact⟨_,rfl,.inl ⟨rfl,rfl⟩,Below.refl _ _⟩
 .have d:Below w.heap.size w (w.alloc (.cells #[] 52)):=Zy;have b:∀u:Zh,(binOp .eql 71 (.slice (some ⟨g,off,none⟩) a.length cap) Zb).run prog u=.ok (.bool false) u:=fun _=>by first|rfl|kernel_rfl
  obtain⟨f,s,r,m,c,_⟩:=JI (w.alloc (.cells #[] 52)) w.heap.size _ [] (Bj.nil0 w _ (Zx)) _ a _ (i.below d) Yt Yu 71;have j:Below w.heap.size w s:=d.grown c Yu (fun k q=>by cases q;exact Zx);have h:=Yw (Zn m j);clear m c j d i o;go_enter func59,ntmps59;go_wp2_with (first
   |(at_builtin;refine wpList_append_run rfl _ _ _ _ rfl rfl rfl r ?_)
   |go_in)
  go_ret;exact⟨_,rfl,by simpa using h.o.1,h.o.2⟩
theorem Pu{c:Nat}{f:Lit->Option Value}(h:Br w K b n c f):∃o,w.heap[b]?=some o/\Fi o=true:=by obtain⟨D,⟨d,clock,a,_⟩,_⟩:=h;exact⟨_,a,rfl⟩
theorem Br.same{a:Zh}{c:Nat}{f:Lit->Option Value}(h:Br w K b n c f)(j:a.heap[b]?=w.heap[b]?):Br a K b n c f:=by obtain⟨D,⟨d,clock,e,g⟩,i⟩:=h;exact⟨D,⟨d,clock,j.trans e,g⟩,i⟩
theorem EX.not(h:EX w g):∃o,w.heap[g]?=some o/\Fi o=true:=by obtain⟨c,f,h⟩:=h;exact⟨_,h,rfl⟩
theorem Bj.iy{d:Zl}(h:Bj w a v d)(b:Al v=some g):EX w g:=by
 rcases h with⟨rfl,_⟩|⟨e,off,cap,rfl,_,c,_⟩
 .cases b
 .cases b;exact c
theorem Bj.vis{i:Zh}{e:Nat}(h:Bj w a v f)(d:Cr e V w i)(k:e<=a):Bj i a v f:=
 h.stays d.size (fun g b=>by
  obtain⟨o,c,j⟩:=(h.iy b).not;rw[d.own g o (by have:=(h.W b).1;omega) c j,c])
theorem Sl{c:Nat}{a:Zh}(h:Zz W a)(d:c<=W.heap.size):Cr c V W a:=
 ⟨h.os,h.tape,h.output,h.size,fun q e _=>h.block q Yv,fun q o _ b _=>(h.block q (Array.getElem?_eq_some_iff.1 b).1).trans b⟩
theorem QH{E:List (Zi×Zi)}{b:Zl}{a:Int}(d:∀s∈b,(s.size:Int)=a)(c:∀p∈E,(p.2.size:Int)=a)(h:ReachE E b s):(s.size:Int)=a:=by
 cases h with
 |here hx=>exact d _ hx
 |step _ hx=>
  unfold Cf at hx;rw[List.mem_filterMap]at hx;obtain⟨p,f,e⟩:=hx;split at e
  .cases e;exact c p f
  .cases e
theorem Cr.after(h:Cr w.heap.size V w X)(a:Below w.heap.size X Y):Cr w.heap.size V w Y:=
 ⟨a.os.trans h.os,a.tape.trans h.tape,a.output.trans h.output,Zm h.size a.size,fun q b d=>(a.block q b).trans (h.old q b d),fun q o b c _=>by have:=(Array.getElem?_eq_some_iff.1 c).1;omega⟩
theorem Abides.fw{J:Zl->Zh->Prop}(h:Abides g J){i:Zl}{f:Zh}{row:Option Nat}(m:J i W)(a:W.grownBy f row)(n:g<=W.heap.size)(j:∀b,row=some b->g<=b/\∃o,W.heap[b]?=some o/\Fi o=true):J i f:=
 h i W f m a.os a.tape a.output a.size (fun q c=>a.block q Yv (fun e=>by have:=(j q e.symm).1;omega)) (fun q o _ c k=>by
  refine(a.block q (Array.getElem?_eq_some_iff.1 c).1 (fun e=> ?_)).trans c;obtain⟨_,r,d,l⟩:=j q e.symm;rw[c]at d;cases d;rw[l]at k;cases k)
structure VQ (E:List (Zi×Zi)) (fr:Zl) (J:Zl->Zh->Prop) (V:List Nat) (w:Zh) (e:Ending) (w':Zh):Prop where
 ex:∃vs,(∃v,e=.returned v)/\J vs w'/\vs.Nodup/\(∀s,s∈vs↔ReachE E fr s)/\Cr w.heap.size V w w'
theorem IF(vf:FuncId)(cv:Value)(eg:∀args w,(callFunc vf args).run prog w=.ok (.enter vf args) w)(j:Int)(m nm:Nat)(fm:Lit->Option Value)(ks:List Kd)(W0:Zh)(B0:Nat)(fv:Value)(l:Zl)(zW b n:Nat)(E:List (Zi×Zi))(fl:Lit->Option Value)(V:List Nat)(J:Zl->Zh->Prop)(w:Zh)(hM:AP w 52 m nm fm)(hH:Holds W0 B0 j ks fm)(hF:R8 w w.heap.size fv l)(hL:Lk w zW b n j E [] fl)(yO:m∉V)(yJ:b∉V)(yS:∀t:Zi,(t.size:Int)=j->∀g,Al (rowV fl t)=some g->g∉V)(xY:ks.length<=600)(xW:l.length<=300)(xT:E.length<=18000)(h8:j<=8)(yK:∀s∈l,(s.size:Int)=j)(yC:∀p∈E,(p.2.size:Int)=j)(yL:∀s∈l,Aw ks s)(yD:∀p∈E,Aw ks p.2)(yF:J [] w)(hA:Abides w.heap.size J)(hv:∀d W u ra rc,d.length<600->u∈ks->J d W->w.heap.size<=W.heap.size->Calls prog vf #[CE u ra rc,cv] W fun e W'=>(∃v,e=.returned v)/\J (d++[u.sum]) W'/\Cr w.heap.size V W W'):
 Calls prog 39 #[.agg #[Zg j,.map (some m)],fv,.map (some b),.func (.func vf) #[] #[cv]] w fun e w'=>VQ E l J V w e w':=by
 have xH:= @run_makeMap prog;obtain⟨a,i⟩:∃W,W=(w.alloc (.cells #[Zg j,.map (some m)] 64)).alloc (.map #[] 0):=⟨_,rfl⟩;have zV:a.heap.size=w.heap.size+2:=by rw[i];simp
 have zG:Below w.heap.size w a:=by rw[i];exact(Zy).alloc Yu _
 have yH:Br a 52 (w.heap.size+1) 0 0 (fun _=>none):=by have:=Br.new (w.alloc (.cells #[Zg j,.map (some m)] 64)) 52;rw[World.size_alloc]at this;rw[i];exact this
 have yI:a.heap[w.heap.size]?=some (.cells #[Zg j,.map (some m)] 64):=by rw[i];exact(Below.heap_alloc _ _ _ Yu).trans (heap_alloc_new w _)
 have yE:R8 a w.heap.size fv l:=hF.below zG;have yG:J [] a:=hA.below yF zG (Zx);have O:=Yw (Zn hM (Zn hH (Zn hL (Zn yO (Zn yJ yS)))));have HQ:=Yw (Zn yK (Zn yC (Zn yL yD)));have HV:=Yw (Zn hA hv);have HI:=Yw (Zn yH (Zn yI (Zn yG (Zn zG yE))));have X:=Yw i;clear hM hH hL yO yJ yS yK yC yL yD hA hv yH yI yG zG yE yF hF i;go_enter func39,ntmps39;go_upto_region 2 with fail;rw[<-X.o];clear xH X
 go_wp2_with fail;refine(QG fv l a (HI.o.2.2.2.2.mono Yv) Yv).mono ?_;rintro e w2 ⟨v2,rfl,zU,Y⟩;have xO:=Y.size;have C2:Br w2 52 (w.heap.size+1) 0 0 (fun _=>none):=HI.o.1.af Y Yv;have X2:w2.heap[w.heap.size]?=some (.cells #[Zg j,.map (some m)] 64):=(Y.block _ Yv).trans HI.o.2.1;have J2:J [] w2:=HV.o.1.below HI.o.2.2.1 Y Yv
 have B2:Below w.heap.size w w2:=HI.o.2.2.2.1.trans (Y.mono Yv);have V2:Cr w.heap.size V w w2:=⟨B2.os,B2.tape,B2.output,B2.size,fun q A _=>B2.block q A,fun q o A ho _=>by have:=(Array.getElem?_eq_some_iff.1 ho).1;omega⟩;have K2:Wk ks E l [] l:=⟨List.nodup_nil,fun s S=>(by cases S),fun s S=> .here S,fun s S=> .inr S,fun s S=>(by cases S),fun s S=>(by cases S)⟩
 have Q2:Bj w2 (w.heap.size+2) v2 l:=by rw[zV]at zU;exact zU
 have f:=Yw (Zn C2 (Zn X2 (Zn J2 (Zn V2 (Zn K2 Q2)))));clear C2 X2 J2 B2 V2 K2 Q2 zU Y HI xO zV;go_wp2
 go_loopg [9] 20000000 (fun k v wr=>∃(d Q:Zl) (c R:Nat) (g:Lit->Option Value),(601 -d.length) *20000+Q.length<=k/\Q.length<=300+d.length *18000/\d.length<=600/\Hid (Br wr 52 (w.heap.size+1) R c g/\R<=d.length/\MK d g c)/\Hid (wr.heap[w.heap.size]?=some (.cells #[Zg j,.map (some m)] 64))/\Hid (J d wr)/\Hid (Cr w.heap.size V w wr)/\Hid (Wk ks E l d Q)/\Hid (Bj wr (w.heap.size+2) v Q)/\w.heap.size+2<=wr.heap.size)
 case atStart=>exact⟨[],l,0,0,_,Yt,Yt,Yu,⟨f.o.1,Zx,MK.nil⟩,f.o.2.1,f.o.2.2.1,f.o.2.2.2.1,f.o.2.2.2.2.1,f.o.2.2.2.2.2,by have:=(Array.getElem?_eq_some_iff.1 f.o.2.1).1;have:=f.o.1.lt;omega⟩
 case round=>
  clear f;obtain⟨d,Q,c,R,g,hk,zN,xN,HC,HX,HJ,yB,HK,HR,vF⟩:=hrel;cases Q with
  |nil=>
   have D:=Yw (Zn HJ.o (Zn HK.o.nd (Zn (fun s=>HK.o.done (s:=s)) yB.o)));rcases HR.o with⟨rfl,_⟩|⟨H,off,cap,rfl,_⟩
   .go_wp2
    go_end0
    exact⟨d,⟨_,rfl⟩,D.o⟩
   .go_wp2
    go_end0
    exact⟨d,⟨_,rfl⟩,D.o⟩
  |cons s Q=>
   have yA:Hid (∀{x:Zi},ReachE E l x->(x.size:Int)=j):=fun {x} h=>QH HQ.o.1 HQ.o.2.1 h;have yU:ReachE E l s:=HK.o.qr s Yu;have zC:=yA.o yU;have zJ:Aw ks s:=FE HQ.o.2.2.1 HQ.o.2.2.2 yU;have xA:=HR.o;rcases xA with⟨_,h⟩|⟨H,off,cap,rfl,xU,xF,xG,xR,xM,z⟩
   .cases h
   have xX:=xF.lt;have d0:wr.cell? (Zd H off)=some (.int .u8 (kB s 0)):=by simpa using z 0 s rfl 0 Yv
   have d1:wr.cell? (Zd H (off+1))=some (.int .u8 (kB s 1)):=by simpa using z 0 s rfl 1 Yv
   have d2:wr.cell? (Zd H (off+2))=some (.int .u8 (kB s 2)):=by simpa using z 0 s rfl 2 Yv
   have d3:wr.cell? (Zd H (off+3))=some (.int .u8 (kB s 3)):=by simpa using z 0 s rfl 3 Yv
   have d4:wr.cell? (Zd H (off+4))=some (.int .u8 (kB s 4)):=by simpa using z 0 s rfl 4 Yv
   have d5:wr.cell? (Zd H (off+5))=some (.int .u8 (kB s 5)):=by simpa using z 0 s rfl 5 Yv
   have d6:wr.cell? (Zd H (off+6))=some (.int .u8 (kB s 6)):=by simpa using z 0 s rfl 6 Yv
   have d7:wr.cell? (Zd H (off+7))=some (.int .u8 (kB s 7)):=by simpa using z 0 s rfl 7 Yv
   have yY:1<=cap:=by simp at xG;omega
   rw[List.length_cons];obtain⟨a,i⟩:∃a,a=wr.alloc (Cg s):=⟨_,rfl⟩;have I:Below wr.heap.size wr a:=by rw[i];exact Zy
   have G:Aa a wr.heap.size (Yk (kB s)):=by rw[i];exact Aa.new wr _ _
   have zV:a.heap.size=wr.heap.size+1:=by rw[i];simp
   have O1:a.heap[wr.heap.size]?=some (Cg s):=by rw[i];exact heap_alloc_new wr _
   have C1:Br a 52 (w.heap.size+1) R c g:=HC.o.1.af I HC.o.1.lt;have J1:J d a:=HV.o.1.below HJ.o I Yv;have V1:Cr w.heap.size V w a:=yB.o.trans (Sl I Yv);have X1:a.heap[w.heap.size]?=some (.cells #[Zg j,.map (some m)] 64):=(I.block _ Yv).trans HX.o
   have T1:∃T,(T=.slice (if cap=1 then some ⟨H,off,none⟩else some ⟨H,off+8,none⟩) Q.length (cap -1))/\Bj a (w.heap.size+2) T Q:=by
    refine⟨_,rfl,?_⟩;by_cases hc1:cap=1
    .subst hc1;obtain⟨rfl,h⟩:=HR.o.tail1;rw[if_pos rfl];exact h.below I
    .rw[if_neg hc1];exact HR.o.tail.below I
   obtain⟨N,hn,xJ,xK,yP⟩:=HC.o.2.2.get (keyL s);have zH:=C1.map.look keyed underlying50 (EO a) (CD s);rw[hn]at zH;have vA:IntKind.i64.wrap (N+1)=N+1:=Ia Yv Yv;obtain⟨T,yV,yQ⟩:=T1;have HT:Hid (Bj a (w.heap.size+2) T Q):=yQ;have f:=Yw (Zn C1 (Zn J1 (Zn V1 (Zn X1 (Zn G O1)))));have X:=Yw i;unfold Cg at X;have zF:(0<N)↔s∈d:=by
    rw[yP];constructor
    .intro h;obtain⟨y,hy,e⟩:=List.mem_map.1 h;have vC:=yA.o (HK.o.vr y hy);exact key_inj e Yv Yv▸hy
    .intro h;exact List.mem_map.2 ⟨s,h,rfl⟩
   clear i C1 J1 V1 X1 O1 yQ z xM HR yP I;unfold En EG at zH;go_upto_region 5 with fail;rw[<-X.o];clear X d0 d1 d2 d3 d4 d5 d6 d7;obtain⟨B,hB⟩:∃B,B=wr.heap.size:=⟨_,rfl⟩;rw[<-hB]at f G |-;have zY:=Yw hB;clear hB;obtain⟨y0,_⟩:=G 0 _ rfl;obtain⟨y1,_⟩:=G 1 _ rfl;obtain⟨y2,_⟩:=G 2 _ rfl;obtain⟨y3,_⟩:=G 3 _ rfl;obtain⟨y4,_⟩:=G 4 _ rfl;obtain⟨y5,_⟩:=G 5 _ rfl;obtain⟨y6,_⟩:=G 6 _ rfl
   obtain⟨y7,_⟩:=G 7 _ rfl;clear G;go_upto_region 6 with fail;rw[<-yV];clear yV;by_cases hpos:0<N
   .have xE:=zF.1 hpos;go_wp2
    go_roundg ((601 -d.length) *20000+Q.length)
    case measure=>simp at hk;omega
    case rel=>exact⟨d,Q,c,R,g,Zx,by simp at zN;omega,xN,⟨f.o.1,HC.o.2.1,HC.o.2.2⟩,f.o.2.2.2.1,f.o.2.1,f.o.2.2.1,HK.o.skip xE,HT,Yv⟩
   .have zB:s∉d:=fun h=>hpos (zF.2 h);have yZ:decide (0<N)=false:=by simpa using hpos
    have zE:(d++[s]).length<=600:=by have:=QF (HK.o.visit zB zJ).nd (HK.o.visit zB zJ).there;omega
    have xV:=HC.o.2.1;have kD:Below a.heap.size a a.drew:=(Below.refl _ _).drew;obtain⟨st,w3,w4,he,zS,zR,yT,zT,yM,zP⟩:=(f.o.1.af kD Yv).ia keyed underlying50 Yp EO (CD s) (Zg (N+1));rw[hn]at he zS zR;unfold goInt at he yT;unfold En EG at he zS zR;go_upto_region 7 with fail
    go_cut [] (fun wx=>∃c',Hid (Br wx 52 (w.heap.size+1) (R+1) c' (upd g (keyL s) (Zg (N+1)))/\MK (d++[s]) (upd g (keyL s) (Zg (N+1))) c')/\a.grownBy wx (some (w.heap.size+1)))
    case first=>
     have g4:a.grownBy w4 (some (w.heap.size+1)):=(Ae _ kD).trans zP;have yX:=HC.o.2.2.snoc s xJ xK;have D:=Yw (Zn zT (Zn yX g4));clear zT yX g4 yM zP zH
     go_region
     all_goals
      go_wp2_with fail;go_meet;exact⟨_,⟨D.o.1,D.o.2.1⟩,D.o.2.2⟩
    case rest=>
    revert wc;intro F hcut;obtain⟨c',zK,L⟩:=hcut;clear he zS zR yT zT yM zP zH y0 y1 y2 y3 y4 y5 y6 y7 w3 w4 kD;have xS:w.heap.size+2<=B:=by have:=zY.o;omega
    have xD:B<a.heap.size:=by have:=zY.o;omega
    have xP:=L.size;have O5:F.heap[B]?=some (Cg s):=(L.block B xD (fun e=>by have:=Option.some.inj e;omega)).trans f.o.2.2.2.2.2;have X5:F.heap[w.heap.size]?=some (.cells #[Zg j,.map (some m)] 64):=(L.block _ Yv (fun e=>by have:=Option.some.inj e;omega)).trans f.o.2.2.2.1;have J5:J d F:=HV.o.1.fw f.o.2.1 L Yv (fun q e=>by cases e;exact⟨Yv,Pu f.o.1⟩)
    have V5:Cr w.heap.size V w F:=f.o.2.2.1.after ((Below.refl _ _).grown L Yv (fun q e=>by cases e;omega));have M:Aa F B (Yk (kB s)):=Aa.same f.o.2.2.2.2.1 (O5.trans f.o.2.2.2.2.2.symm);have Q5:Bj F (w.heap.size+2) T Q:=Bj.stays HT.o xP (fun q A=>L.block q (Bj.W HT.o A).2 (fun e=>by have:=Option.some.inj e;have:=(Bj.W HT.o A).1;omega))
    have M5:AP F 52 m nm fm:=O.o.1.block (V5.old m O.o.1.lt O.o.2.2.2.1);obtain⟨u,ra,rc,hu,yW,zO⟩:=O.o.2.1.get zC zJ;have zI:=M5.look keyed underlying62 (Kp F) (CD s);rw[zO]at zI;have xQ:F.cell? (Zd (w.heap.size) 1)=some (.map (some m)):=by unfold World.cell?;simp[X5]
    have U:=Yw (Zn O5 (Zn X5 (Zn J5 (Zn V5 Q5))));obtain⟨y0,_⟩:=M 0 _ rfl;obtain⟨y1,_⟩:=M 1 _ rfl;obtain⟨y2,_⟩:=M 2 _ rfl;obtain⟨y3,_⟩:=M 3 _ rfl;obtain⟨y4,_⟩:=M 4 _ rfl;obtain⟨y5,_⟩:=M 5 _ rfl;obtain⟨y6,_⟩:=M 6 _ rfl;obtain⟨y7,_⟩:=M 7 _ rfl;have xC:=Yw M;have zZ:=Yw (Zn hu (Zn yW zO));clear O5 X5 J5 V5 Q5 M5 M L hu yW zO;unfold En EG CE at zI;simp only[Option.getD_some]at zI
    have xB:Hid (Calls prog vf #[.agg #[.string u.sum,Zg u.born,.string u.E,.slice ra u.B.length rc],cv] F fun e W'=>(∃v,e=.returned v)/\J (d++[u.sum]) W'/\Cr w.heap.size V F W'):=HV.o.2 d F u ra rc (by simp at zE;omega) zZ.o.1 U.o.2.2.1 Yv;go_wp2_with fail;refine Calls.mono xB.o ?_;rintro e r ⟨⟨rv,rfl⟩,zM,K⟩;rw[zZ.o.2.1]at zM;have vD:=K.size
    have O6:r.heap[B]?=some (Cg s):=K.own B _ Yv U.o.1 rfl;have X6:r.heap[w.heap.size]?=some (.cells #[Zg j,.map (some m)] 64):=K.own _ _ (Zx) U.o.2.1 rfl;have C6:Br r 52 (w.heap.size+1) (R+1) c' (upd g (keyL s) (Zg (N+1))):=zK.o.1.same (by
     obtain⟨o,ho,xI⟩:=Pu zK.o.1;rw[K.own _ o Yv ho xI,ho])
    have V6:Cr w.heap.size V w r:=U.o.2.2.2.1.trans K;have Q6:Bj r (w.heap.size+2) T Q:=U.o.2.2.2.2.vis K Yv;have P:Aa r B (Yk (kB s)):=Aa.same xC.o (O6.trans U.o.1.symm);have L6:AP r 52 b n fl:=O.o.2.2.1.map.block (V6.old b O.o.2.2.1.map.lt O.o.2.2.2.2.1);have R6:R8 r r.heap.size (rowV fl s) (Cf E s):=by have hr:=O.o.2.2.1.row s zC;refine(hr.read.stays (fun q A=> ?_)).mono V6.size;exact V6.old q (hr.W A).2 (O.o.2.2.2.2.2 s zC q A)
    have xZ:=Mk E s;obtain⟨vG,w7,xL,yR,Z,_⟩:=JI r (w.heap.size+2) T Q Q6 (rowV fl s) (Cf E s) _ R6 (by simp at zN;omega) Yv 71;have yN:=L6.look keyed underlying73 (Ns r) (CD s);have zX:(Instr.lookup 73 (.map (some b)) (En s) false).run prog r=.ok (rowV fl s) r:=yN;unfold En EG at zX
    have C:∀q,Al T=some q->w.heap.size<=q/\∃o,r.heap[q]?=some o/\Fi o=true:=fun q A=>⟨by have:=(Q6.W A).1;omega,(Q6.iy A).not⟩;have zA:∀q,Al T=some q->w.heap.size+2<=q:=fun q A=>(Q6.W A).1;have J7:J (d++[s]) w7:=HV.o.1.fw zM Z Yv C;have V7:Cr w.heap.size V w w7:=V6.after ((Below.refl _ _).grown Z Yv (fun q e=>(C q e).1))
    have X7:w7.heap[w.heap.size]?=some (.cells #[Zg j,.map (some m)] 64):=(Z.block _ Yv (fun e=>by have:=zA _ e.symm;omega)).trans X6;have C7:Br w7 52 (w.heap.size+1) (R+1) c' (upd g (keyL s) (Zg (N+1))):=C6.same (Z.block _ Yv (fun e=>by have:=zA _ e.symm;omega));have vE:=Z.size;have D:=Yw (Zn C7 (Zn X7 (Zn J7 (Zn V7 yR))));clear y0 y1 y2 y3 y4 y5 y6 y7 zI xQ yN
    obtain⟨y0,_⟩:=P 0 _ rfl;obtain⟨y1,_⟩:=P 1 _ rfl;obtain⟨y2,_⟩:=P 2 _ rfl;obtain⟨y3,_⟩:=P 3 _ rfl;obtain⟨y4,_⟩:=P 4 _ rfl;obtain⟨y5,_⟩:=P 5 _ rfl;obtain⟨y6,_⟩:=P 6 _ rfl;obtain⟨y7,_⟩:=P 7 _ rfl;clear O6 X6 C6 V6 Q6 P L6 R6 Z C zA J7 V7 X7 C7 yR zM K;go_wp2_with (at_builtin;refine wpList_append_run rfl _ _ _ _ rfl rfl rfl xL ?_)
    go_roundg ((601 -(d.length+1)) *20000+(Q++Cf E s).length)
    case measure=>
     simp at hk zE |-;omega
    case rel=>
     refine⟨d++[s],Q++Cf E s,c',R+1,_,Yu,?_,zE,⟨D.o.1,Yt,zK.o.2⟩,D.o.2.1,D.o.2.2.1,D.o.2.2.2.1,HK.o.visit zB zJ,D.o.2.2.2.2,Yv⟩;simp at zN |-;omega
end
section
attribute [local go_sem↓] Go.wp_at_zero Go.wp_at_succ
def Eu(l c:Nat)(vs:Zl)(W:Zh):Prop:=
 ∃(n cc:Nat) (f:Lit->Option Value),Br W 52 l n cc f/\n<=vs.length/\MK vs f cc/\W.cell? (Zd c 0)=some (.map (some l))/\c≠l
theorem Hd(b l c:Nat)(o:l<b)(m:c<b):Abides b (Eu l c):=by rintro r W q ⟨n,e,f,g,h,i,j,k⟩ _ _ _ _ d _;exact⟨n,e,f,g.same (d l o),h,i,(World.cell?_of_block (a:=⟨c,0,none⟩) (d c m)).trans j,k⟩
theorem MP{l c:Nat}{g:Zl}{a:Zh}(h:Eu l c g W)(e:Zz W a):Eu l c g a:=by obtain⟨n,i,f,b,j,k,d,m⟩:=h;exact⟨n,i,f,b.af e b.lt,j,k,(e.cell (p:=⟨c,0,none⟩) (World.block_lt_of_cell? W _ d)).trans d,m⟩
def SV(c l:Nat)(B:Nat)(s:Value)(w':Zh):Prop:=w'.cell? (Zd c 0)=some (.map (some l))/\w'.cell? (Zd B 0)=some s
end
theorem TQ:x∈AG o s↔x∈o\/x=s:=by
 unfold AG;split
 .rename_i h
  rw[List.any_eq_true]at h;obtain⟨y,a,e⟩:=h;simp at e;subst e;exact⟨.inl,fun h=>h.elim id (fun e=>e▸a)⟩
 .simp
theorem QI(h:o.Nodup):(AG o s).Nodup:=by
 unfold AG;split
 .exact h
 .rename_i hn
  rw[List.nodup_append];refine⟨h,Yu,fun a d b c e=>hn ?_⟩;simp at c;rw[List.any_eq_true];exact⟨a,d,by simp[e,c]⟩
theorem Dl:x∈xs.foldl AG o↔x∈o\/x∈xs:=by
 induction xs generalizing o with
 |nil=>simp
 |cons y ys ih=>
  rw[List.foldl_cons,ih,TQ];simp only[List.mem_cons];constructor
  .rintro((h|h)|h)
   .exact .inl h
   .exact .inr (.inl h)
   .exact .inr (.inr h)
  .rintro(h|h|h)
   .exact .inl (.inl h)
   .exact .inl (.inr h)
   .exact .inr h
theorem Ls{a:Zl}(h:o.Nodup):(a.foldl AG o).Nodup:=by
 induction a generalizing o with
 |nil=>exact h
 |cons y ys ih=>exact ih (QI h)
theorem Oi(h:o[i]?=some x):(xs.foldl AG o)[i]?=some x:=by
 induction xs generalizing o with
 |nil=>exact h
 |cons y ys ih=>
  refine ih ?_;unfold AG;split
  .exact h
  .rw[List.getElem?_append_left (Zw h).1];exact h
theorem Fx{l:Zl}(h:l.Nodup):∀{u:Zl},(∀x∈l,x∈u)->l.length<=u.length:=by
 induction l with
 |nil=>intro u _;simp
 |cons x xs ih=>
  intro u d;obtain⟨j,i⟩:=List.nodup_cons.1 h;obtain⟨a,b,rfl⟩:=List.append_of_mem (d x Yu);have:=ih i (u:=a++b) (fun y f=>by
   have c:=d y (by simp[f]);have g:y≠x:=fun e=>j (by rw[<-e];exact f);simp only[List.mem_append,List.mem_cons]at c |-;rcases c with h|h|h
   .exact .inl h
   .exact absurd h g
   .exact .inr h)
  simp only[List.length_cons,List.length_append]at this |-;omega
inductive Reach (ks:List Kd) (from':Zl):Zi->Prop
 |here {x:Zi}:x∈from'->Reach ks from' x
 |step {x y:Zi} {u:Kd}:Reach ks from' y->u∈ks->u.sum=y->x∈u.B->Reach ks from' x
def cw(ks:List Kd)(from':Zl):Zl:=from'++ks.flatMap (·.B)
theorem Km{from':Zl}(h:∀k∈ks,k.B.length<=30):(cw ks from').length<=from'.length+30 *ks.length:=by
 unfold cw;rw[List.length_append];have:(ks.flatMap (·.B)).length<=30 *ks.length:=by
  induction ks with
  |nil=>simp
  |cons k ks ih=>have b:=ih (fun k a=>h k (by simp[a]));have c:=h k Yu;rw[List.flatMap_cons,List.length_append,List.length_cons];omega
 omega
structure Fk (ks:List Kd) (from':Zl) (i:Nat) (O:Zl):Prop where
 nd:O.Nodup
 sub:∀x∈O,Reach ks from' x
 cw:∀x∈O,x∈cw ks from'
 base:∀x∈from',x∈O
 shut:∀j x u,j<i->O[j]?=some x->u∈ks->u.sum=x->∀r∈u.B,r∈O
theorem Fk.reach{a:Zl}(h:Fk c a O.length O):x∈O↔Reach c a x:=by
 refine⟨h.sub x,fun d=> ?_⟩;induction d with
 |here hx=>exact h.base _ hx
 |step _ hu hs hx ih=>obtain⟨j,b⟩:=List.getElem?_of_mem ih;exact h.shut j _ _ (Zw b).1 b hu hs _ hx
theorem Fk.start(c:List Kd)(a:Zl):Fk c a 0 (a.foldl AG []):=
 ⟨Ls List.nodup_nil,fun x b=> .here (by simpa using Dl.1 b),fun x b=>by unfold Go.Proofs.YtmjlkgpekcnacaaGreat.cw;have:=Dl.1 b;simp at this;simp[this],fun x b=>Dl.2 (.inr b),fun j x u d=>by omega⟩
theorem Fk.skip{a:Zl}(h:Fk c a i O)(k:O[i]?=some x)(g:¬Aw c x):Fk c a (i+1) O:=
 ⟨h.nd,h.sub,h.cw,h.base,fun j y u l b f e=>by
  rcases Nat.lt_or_ge j i with d|d
  .exact h.shut j y u d b f e
  .obtain rfl:j=i:=Yv
   rw[k]at b;cases b;exact absurd ⟨u,f,e⟩ g⟩
theorem Fk.go{b:Zl}(h:Fk e b i O){u:Kd}(k:O[i]?=some x)(n:u∈e)(q:u.sum=x)(c:∀v∈e,v.sum=x->v=u):Fk e b (i+1) (u.B.foldl AG O):=by
 refine⟨Ls h.nd,fun y a=> ?_,fun y a=> ?_,fun y a=>Dl.2 (.inl (h.base y a)),fun j y v s a o g r m=> ?_⟩
 .rcases Dl.1 a with a|a
  .exact h.sub y a
  .exact .step (h.sub x (Zs k)) n q a
 .rcases Dl.1 a with a|a
  .exact h.cw y a
  .unfold Go.Proofs.YtmjlkgpekcnacaaGreat.cw;exact List.mem_append.2 (.inr (List.mem_flatMap.2 ⟨u,n,a⟩))
 .have f:j<O.length:=by have:=(Zw k).1;omega
  have d:O[j]?=some y:=by rw[Zv f];have:=Oi (xs:=u.B) (Zv f);rw[this]at a;exact a
  rcases Nat.lt_or_ge j i with l|l
  .exact Dl.2 (.inl (h.shut j y v l d o g r m))
  .obtain rfl:j=i:=Yv
   rw[k]at d;cases d;obtain rfl:=c v o g;exact Dl.2 (.inr m)
theorem QJ(G now l h:Int)(a:Zk)(E:Nat)(P L:Value)(o:List Kd)(f:Zk)(fc:Nat)(m:Zl)(w:Zh)(U:AI w w.heap.size a o)(zO:Ab w w.heap.size f m)(hl:o.length<=600)(yU:m.length<=300)(J:∀k∈o,k.B.length<=30)(H:∀u∈o,∀v∈o,u.sum=v.sum->u=v):
 Calls prog 35 #[.agg #[Zg G,Zg now,Zg l,Zg h,.slice a o.length E,P,L],.slice f m.length fc] w fun e w'=>∃g c R,e=.returned (Yz g (List.length R) c)/\w'.ownsRow (w.heap.size+1) 9 1 (Yz g R.length c) R.length (R.map Value.string)/\Fk o m R.length R/\Zz w w':=by
 obtain⟨i0,hi,zT,zU,zV⟩:=info_parts BW;have zA:=Yw U;have zX:=Yw zO;have zW:=Km (from':=m) J;have HU:=Yw (Zn H J);have hx:=Ah.new w G now l h (.slice a o.length E) P L 27;have zN:Below w.heap.size w (w.alloc (.cells #[Zg G,Zg now,Zg l,Zg h,.slice a o.length E,P,L] 27)):=Zy;clear U zO H J;go_enter func35,ntmps35;go_wp2
 go_loopw [5,6] (fun v i wr=>∃(k g c:Nat),k<=m.length/\i=Zg k/\v=Yz g ((m.take k).foldl AG []).length c/\Hid (wr.ownsRow (w.heap.size+1) 9 1 (Yz g ((m.take k).foldl AG []).length c) ((m.take k).foldl AG []).length (((m.take k).foldl AG []).map Value.string))/\Zz w wr/\Hid (Ah wr w.heap.size G now l h (.slice a o.length E) P L)) (fun _ i _=>m.length -(intOf i).toNat)
 case atStart=>
  refine⟨0,w.heap.size+1,0,Nat.zero_le _,rfl,Yu,?_,zN.alloc zN.size _,hx.af (Zy) hx.2.2.2.2.2.2.2⟩;have:=World.ownsRow_lit (e:=9) (w.alloc (.cells #[Zg G,Zg now,Zg l,Zg h,.slice a o.length E,P,L] 27)) #[] (size:=1) 0 (base:=w.heap.size+1) Yu (by simp[maxLen]) rfl;rw[show(w.alloc (.cells #[Zg G,Zg now,Zg l,Zg h,.slice a o.length E,P,L] 27)).heap.size=w.heap.size+1 from by simp]at this
  exact this
 case round=>
  clear hx;obtain⟨k,g,c,hk,rfl,rfl,s,d,B⟩:=hrel;by_cases hlt:k<m.length
  .obtain⟨b,off,ha,hb,hc⟩:=(Ab.below zX.o d).at hlt;subst ha;have Q:Hid (m[k]?=some m[k]):=Zv hlt;have W:=hc k _ Q.o;have yS:b<wr.heap.size:=by have:=d.size;omega
   clear hc;generalize m[k]=x at *
   have hlen:((m.take k).foldl AG []).length<=k:=by have:=Dk (m.take k) [];simp at this;omega
   have Z:=Yw (GS [] Q.o);generalize hO:(m.take k).foldl AG []=O at *
   have zG:=(s.o.lt g rfl).1;have X:=(s.o.lt g rfl).2;have HR:Hid (Ab wr wr.heap.size (some ⟨g,0,none⟩) O):=Ix s.o;go_wp2_with fail;refine(DM _ c O x wr _ HR.o Yv).mono ?_;rintro e w1 ⟨rfl,rfl⟩;cases hin:O.any (fun y=>decide (y=x))with
   |true=>
    have C:Hid ((m.take (k+1)).foldl AG []=O):=by show _=_;rw[Z.o];unfold AG;rw[if_pos hin]
    go_wp2;refine⟨⟨k+1,g,c,Yv,Yo,by rw[C.o],?_,d,B⟩,by simp[intOf];omega⟩;rw[C.o];exact s
   |false=>
    have C:Hid ((m.take (k+1)).foldl AG []=O++[x]):=by show _=_;rw[Z.o];unfold AG;rw[if_neg (by rw[hin];decide)]
    go_wp2_with (first
     |(at_builtin;refine wpList_append_own _ rfl _ _ 29 rfl (w.heap.size+1) 9 i0 Zc 1 16 underlying29 hi zT zU zV rfl Yr _ O.length (O.map Value.string) rfl ?d0 ⟨w1.heap.size,0,none⟩ 1 1 [.string x] rfl rfl ?d1 ?d2 ?d3 ?d4 ?d5 ?_)
     |go_in)
    case d0=>exact s.o.alloc _
    case d1=>exact cell_one_new _ _ _
    case d2=>intro u F;simp at F;subst F;rfl
    case d3=>unfold maxLen;omega
    case d4=>omega
    case d5=>simp;omega
    intro v' I r A _;obtain⟨T,S,zI,_,_⟩:=r.form Yv;subst zI;have D:Below (w.heap.size+1) w1 I:=((Below.refl _ _).alloc Yv _).grown A Yt (by intro j hj;simp[Value.ownBlock]at hj;omega);have HB:Hid (Zz w I):=d.trans (D.mono Yv);have zE:=Yw (Ah.af B.o D Yv)
    have zB:Hid (I.ownsRow (w.heap.size+1) 9 1 (Yz T (O.length+1) S) (O.length+1) ((O++[x]).map Value.string)):=(by simpa using r:World.ownsRow I (w.heap.size+1) 9 1 (Yz T (O.length+1) S) (O.length+1) ((O++[x]).map Value.string));clear r A D;go_wp2;refine⟨⟨k+1,T,S,Yv,Yo,by rw[C.o];simp,?_,HB.o,zE⟩,by simp[intOf];omega⟩;rw[C.o,List.length_append];exact zB
  .rw[Zt Yv]at s |-;have t:Hid (Fk o m 0 (m.foldl AG [])):=Fk.start o m;generalize m.foldl AG []=O at *
   go_wp2
   go_loopw [5,7] (fun v i wr=>∃(k g c:Nat) (O:Zl),k<=O.length/\i=Zg k/\v=Yz g O.length c/\Hid (wr.ownsRow (w.heap.size+1) 9 1 (Yz g O.length c) O.length (O.map Value.string))/\Zz w wr/\Hid (Ah wr w.heap.size G now l h (.slice a o.length E) P L)/\Hid (Fk o m k O)) (fun _ i _=>(cw o m).length+1 -(intOf i).toNat)
   case atStart=>exact⟨0,g,c,O,Nat.zero_le _,rfl,rfl,s,d,B,t⟩
   case round=>
    clear s B t d;obtain⟨k,g,c,O,hk,rfl,rfl,s,d,B,t⟩:=hrel;obtain⟨x0,x1,x2,x3,x4,x5,x6,K⟩:=B.o;have yR:O.length<=(cw o m).length:=Fx t.o.nd t.o.cw;by_cases hlt:k<O.length
    .have Q:Hid (O[k]?=some O[k]):=Zv hlt;have W:=s.o.cellAt k (by simpa using hlt);rw[List.getElem?_map,Q.o]at W;simp only[Option.map_some]at W;have zG:=(s.o.lt g rfl).1;have X:=(s.o.lt g rfl).2;have yV:(0:Int)<=(k:Int):=Yv
     have yW:(k:Int)<(O.length:Int):=Yv
     generalize O[k]=x at *
     have hF:∀n:Ag wr,Calls prog 26 #[.agg #[Zg G,Zg now,Zg l,Zg h,.slice a o.length E,P,L],.string x] n.w fun e w'=>e=.returned (Zg (BX o x))/\Below n.w.heap.size n.w w':=fun n=>Cn G now l h a E _ _ o x n.w w.heap.size (AI.below zA.o (d.trans (n.h.mono d.size))) (by have:=n.h.size;have:=d.size;omega) Yv;have Z:=Yw hF;have q0:=Ag.cell x0 K;have q1:=Ag.cell x1 K;have q2:=Ag.cell x2 K
     have q3:=Ag.cell x3 K;have q4:=Ag.cell x4 K;have q5:=Ag.cell x5 K;have q6:=Ag.cell x6 K;have q7:=Ag.cell W X;have yX:=Ag.ne wr;have zJ:=d.size;clear hF;go_wp2;refine Aj Ys Ys ?_
     repeat (go_big_quiet_step (exact Ag.calls (Z.o _)))
     refine wpQuiet_nil ?_;intro n;have zC:Hid (n.w.ownsRow (w.heap.size+1) 9 1 (Yz g O.length c) O.length (O.map Value.string)):=World.ownsRow.kept s.o (Ae none n.h) (.inr (by simp[Value.ownBlock]));have N:Below w.heap.size w n.w:=d.trans (n.h.mono zJ);have V:=Yw (Ah.af B.o n.h K);have yY:=n.size;clear q0 q1 q2 q3 q4 q5 q6 q7 x0 x1 x2 x3 x4 x5 x6 W Z s B d
     rcases BV o x with⟨zF,yD⟩|⟨Y,u,zF,F,zS⟩
     .rw[zF];have M:Hid (Fk o m (k+1) O):=Fk.skip t.o Q.o yD;go_wp2;exact⟨⟨k+1,g,c,O,Yv,Yo,rfl,zC,N,V,M⟩,by simp[intOf];omega⟩
     .rw[zF];have yL:decide ((Y:Int)<0)=false:=Yu
      have zP:=(Zw F).1;obtain⟨b,off,ha,hb,hc⟩:=(AI.below zA.o N).at zP;subst ha;obtain⟨_,_,_,ra,rc,c3,hr⟩:=hc Y _ F;have zY:Hid (Ab w w.heap.size ra u.B):=by obtain⟨b',yO,yB,_,yC⟩:=AI.at zA.o zP;cases yB;obtain⟨_,_,_,xA,xB,zZ,yE⟩:=yC Y _ F;have:=(N.cell (p:=⟨b,off+Y *4+3,none⟩) hb).trans zZ;rw[c3]at this;simp at this;rw[this.1];exact yE
      have zH:=Zs F;have yN:=HU.o.2 u zH;have M:Hid (Fk o m (k+1) (u.B.foldl AG O)):=Fk.go t.o Q.o zH zS (fun v hv yG=>HU.o.1 v hv u zH (by rw[yG,zS]));have yA:∀q,((u.B.take q).foldl AG O).length<=O.length+30:=fun q=>by have:=Dk (u.B.take q) O;simp at this;omega
      have yI:(u.B.foldl AG O).length<=(cw o m).length:=Fx M.o.nd M.o.cw;have yQ:k+1<=(u.B.foldl AG O).length:=by have yH:=Oi (xs:=u.B) Q.o;have:=(Zw yH).1;omega
      obtain⟨y0,y1,y2,y3,y4,y5,y6,y7⟩:=V.o;have yJ:(0:Int)<=(Y:Int):=Yv
      have yK:(Y:Int)<(o.length:Int):=Yv
      have yT:b<n.w.heap.size:=Yv
      clear hc hr;go_wp2
      go_loopw [5,10] (fun v j wr=>∃(q g c:Nat),q<=u.B.length/\j=Zg q/\v=Yz g ((u.B.take q).foldl AG O).length c/\Hid (wr.ownsRow (w.heap.size+1) 9 1 (Yz g ((u.B.take q).foldl AG O).length c) ((u.B.take q).foldl AG O).length (((u.B.take q).foldl AG O).map Value.string))/\Zz w wr/\Hid (Ah wr w.heap.size G now l h (.slice (some ⟨b,off,none⟩) o.length E) P L)) (fun _ j _=>u.B.length -(intOf j).toNat)
      case atStart=>exact⟨0,g,c,Nat.zero_le _,rfl,rfl,zC,N,V⟩
      case round=>
       clear zC N V y0 y1 y2 y3 y4 y5 y6 y7 c3 X zG;obtain⟨q,g,c,hq,rfl,rfl,s,d,B⟩:=hrel;by_cases hql:q<u.B.length
       .obtain⟨rb,yP,yF,yZ,zR⟩:=(Ab.below zY.o d).at hql;subst yF;have zM:Hid (u.B[q]?=some u.B[q]):=Zv hql;have W:=zR q _ zM.o;have yM:rb<wr.heap.size:=by have:=d.size;omega
        clear zR;generalize u.B[q]=z at *
        have hlen:=yA q;have zK:=Yw (GS O zM.o);generalize hO2:(u.B.take q).foldl AG O=O2 at *
        have zG:=(s.o.lt g rfl).1;have X:=(s.o.lt g rfl).2;have HR:Hid (Ab wr wr.heap.size (some ⟨g,0,none⟩) O2):=Ix s.o;go_wp2_with fail;refine(DM _ c O2 z wr _ HR.o Yv).mono ?_;rintro e w1 ⟨rfl,rfl⟩;cases hin:O2.any (fun y=>decide (y=z))with
        |true=>
         have C:Hid ((u.B.take (q+1)).foldl AG O=O2):=by show _=_;rw[zK.o];unfold AG;rw[if_pos hin]
         go_wp2;refine⟨⟨q+1,g,c,Yv,Yo,by rw[C.o],?_,d,B⟩,by simp[intOf];omega⟩;rw[C.o];exact s
        |false=>
         have C:Hid ((u.B.take (q+1)).foldl AG O=O2++[z]):=by show _=_;rw[zK.o];unfold AG;rw[if_neg (by rw[hin];decide)]
         go_wp2_with (first
          |(at_builtin;refine wpList_append_own _ rfl _ _ 29 rfl (w.heap.size+1) 9 i0 Zc 1 16 underlying29 hi zT zU zV rfl Yr _ O2.length (O2.map Value.string) rfl ?d0 ⟨w1.heap.size,0,none⟩ 1 1 [.string z] rfl rfl ?d1 ?d2 ?d3 ?d4 ?d5 ?_)
          |go_in)
         case d0=>exact s.o.alloc _
         case d1=>exact cell_one_new _ _ _
         case d2=>intro u F;simp at F;subst F;rfl
         case d3=>unfold maxLen;omega
         case d4=>omega
         case d5=>simp;omega
         intro v' I r A _;obtain⟨T,S,zI,_,_⟩:=r.form Yv;subst zI;have D:Below (w.heap.size+1) w1 I:=((Below.refl _ _).alloc Yv _).grown A Yt (by intro j hj;simp[Value.ownBlock]at hj;omega);have HB:Hid (Zz w I):=d.trans (D.mono Yv);have zE:=Yw (Ah.af B.o D Yv)
         have zB:Hid (I.ownsRow (w.heap.size+1) 9 1 (Yz T (O2.length+1) S) (O2.length+1) ((O2++[z]).map Value.string)):=(by simpa using r:World.ownsRow I (w.heap.size+1) 9 1 (Yz T (O2.length+1) S) (O2.length+1) ((O2++[z]).map Value.string));clear r A D;go_wp2;refine⟨⟨q+1,T,S,Yv,Yo,by rw[C.o];simp,?_,HB.o,zE⟩,by simp[intOf];omega⟩;rw[C.o,List.length_append];exact zB
       .rw[Zt Yv]at s |-;generalize u.B.foldl AG O=O3 at *
        go_wp2;exact⟨⟨k+1,g,c,O3,Yv,Yo,rfl,s,d,B,M⟩,by simp[intOf];omega⟩
    .go_wp2;go_ret;obtain rfl:k=O.length:=Yv
     exact⟨_,_,_,rfl,s.o,t.o,d⟩
section
attribute [local go_sem↓] Go.wp_at_zero Go.wp_at_succ
theorem Lu{y:Zi}:x∈Cf (ET c) y↔∃u∈c,u.sum=y/\x∈u.B:=by
 unfold Cf ET;rw[List.mem_filterMap];constructor
 .rintro⟨p,a,e⟩;rw[List.mem_flatMap]at a;obtain⟨u,b,a⟩:=a;obtain⟨r,d,rfl⟩:=List.mem_map.1 a;split at e
  .rename_i h
   cases e;exact⟨u,b,h,d⟩
  .cases e
 .rintro⟨u,b,rfl,f⟩;exact⟨(u.sum,x),List.mem_flatMap.2 ⟨u,b,List.mem_map.2 ⟨x,f,rfl⟩⟩,Yu⟩
theorem GA{d:Zl}:ReachE (ET e) d s↔Reach e d s:=by
 constructor
 .intro h;induction h with
  |here a=>exact .here a
  |step _ a ih=>obtain⟨u,c,b,a⟩:=Lu.1 a;exact .step ih c b a
 .intro h;induction h with
  |here a=>exact .here a
  |step _ c b a ih=>exact .step ih (Lu.2 ⟨_,c,b,a⟩)
theorem QK{e d:Zl}(h:∀x,x∈e↔x∈d):Reach c e s↔Reach c d s:=by
 have go:∀{a b:Zl},(∀x,x∈a->x∈b)->∀{s:Zi},Reach c a s->Reach c b s:=fun {a b} hab {s} hr=>by
  induction hr with
  |here hx=>exact .here (hab _ hx)
  |step _ hu hs hx ih=>exact .step ih hu hs hx
 exact⟨go (fun x=>(h x).1),go (fun x=>(h x).2)⟩
structure CB (wd:Int) (ks:List Kd) (ps:List Pd) (ls:List Ld):Prop where
 w8:wd<=8
 nk:ks.length<=600
 np:ps.length<=100
 nl:ls.length<=200
 cu:∀k∈ks,k.B.length<=30
 sum:∀k∈ks,(k.sum.size:Int)=wd
 je:∀k∈ks,∀r∈k.B,(r.size:Int)=wd
 ref:∀k∈ks,∀r∈k.B,Aw ks r
 du:∀p∈ps,Aw ks p.sum
 br:∀l∈ls,Aw ks l.sum
 uniq:∀u∈ks,∀v∈ks,u.sum=v.sum->u=v
theorem CB.sz{a:Int}{e:List Pd}{d:List Ld}(h:CB a ks e d)(b:Aw ks s):(s.size:Int)=a:=by obtain⟨u,c,rfl⟩:=b;exact h.sum u c
theorem CB.roots{f:Int}{e:List Pd}{d:List Ld}(h:CB f c e d)(a:s∈e.map (·.sum)++d.map (·.sum)):Aw c s:=by
 rcases List.mem_append.1 a with a|a
 .obtain⟨p,b,rfl⟩:=List.mem_map.1 a;exact h.du p b
 .obtain⟨p,b,rfl⟩:=List.mem_map.1 a;exact h.br p b
theorem CB.dn{g:Int}{b:List Kd}{f:List Pd}{e:List Ld}(h:CB g b f e){p:Zi×Zi}(a:p∈ET b):Aw b p.2:=by unfold ET at a;obtain⟨u,d,a⟩:=List.mem_flatMap.1 a;obtain⟨r,c,rfl⟩:=List.mem_map.1 a;exact h.ref u d r c
theorem CB.gn{c:List Pd}{b:List Ld}(h:CB d ks c b):(ET ks).length<=18000:=by have e:=IE (ks:=ks) (fun u=>u.B.map (fun r=>(u.sum,r))) (fun u a=>by simpa using h.cu u a);have f:=h.nk;unfold ET;omega
structure Wq (ks:List Kd) (fr:Zl) (J:Zl->Zh->Prop) (V:List Nat) (w:Zh) (e:Ending) (w':Zh):Prop where
 ex:∃vs,(∃v,e=.returned v)/\J vs w'/\vs.Nodup/\(∀s,s∈vs↔Reach ks fr s)/\Cr w.heap.size V w w'
theorem Eb{c a:Int}(h:Ah w b d now c a T P L):w.cell? (Zd b 0)=some (Zg d)/\w.cell? (Zd b 1)=some (Zg now)/\w.cell? (Zd b 2)=some (Zg c)/\w.cell? (Zd b 3)=some (Zg a)/\w.cell? (Zd b 4)=some T/\w.cell? (Zd b 5)=some P/\w.cell? (Zd b 6)=some L:=
 ⟨h.1,h.2.1,h.2.2.1,h.2.2.2.1,h.2.2.2.2.1,h.2.2.2.2.2.1,h.2.2.2.2.2.2.1⟩
theorem JU(a:Zz w X)(h:Cr X.heap.size V X Y):Cr w.heap.size V w Y:=
 ⟨h.os.trans a.os,h.tape.trans a.tape,h.output.trans a.output,Zm a.size h.size,fun q b d=>(h.old q (Zr b a.size) d).trans (a.block q b),fun q o b c _=>by have:=(Array.getElem?_eq_some_iff.1 c).1;omega⟩
theorem Ah.same{f:Zh}{i e:Int}(h:Ah w b i now e d T P L)(r:f.heap[b]?=w.heap[b]?):Ah f b i now e d T P L:=by obtain⟨g,k,l,m,n,o,q,s⟩:=h;have c:=fun j=>World.cell?_of_block (a:=⟨b,j,none⟩) r;refine⟨(c 0).trans g,(c 1).trans k,(c 2).trans l,(c 3).trans m,(c 4).trans n,(c 5).trans o,(c 6).trans q,?_⟩;exact World.block_lt_of_cell? f _ ((c 0).trans g)
theorem Oj(P:FuncId)(cv:Value)(eg:∀args w,(callFunc P args).run prog w=.ok (.enter P args) w)(k now c b:Int)(a p l:Zk)(C O N:Nat)(f:List Kd)(o:List Pd)(n:List Ld)(V:List Nat)(J:Zl->Zh->Prop)(w:Zh)(hk:AI w w.heap.size a f)(E:AO w w.heap.size p o)(hq:AR w w.heap.size l n)(i:CB k f o n)(Z:∀q∈V,q<w.heap.size)(zB:J [] w)(hA:∀F,w.heap.size<=F->Abides F J)(hv:∀F A W u ra rc,w.heap.size<=F->A.length<600->u∈f->J A W->F<=W.heap.size->Calls prog P #[CE u ra rc,cv] W fun e W'=>(∃v,e=.returned v)/\J (A++[u.sum]) W'/\Cr F V W W'):
 Calls prog 17 #[.agg (Yj k now c b a f.length C p o.length O l n.length N),.func (.func P) #[] #[cv]] w fun e r=>Wq f (o.map (·.sum)++n.map (·.sum)) J V w e r:=by
 obtain⟨d,x⟩:∃d,d=w.alloc (.cells (Yj k now c b a f.length C p o.length O l n.length N) 27):=⟨_,rfl⟩;have z:Below w.heap.size w d:=by rw[x];exact Zy
 have z1:d.heap.size=w.heap.size+1:=by rw[x];simp
 have X1:Ah d w.heap.size k now c b (.slice a f.length C) (.slice p o.length O) (.slice l n.length N):=by rw[x];exact Ah.new w k now c b _ _ _ 27
 have bD:Below w.heap.size w d.drew:=z.drew;have kD:Below d.heap.size d d.drew:=(Below.refl _ _).drew;have zK:=Eb (X1.af kD Yv);have zA:=Yw x;have U:=Yw (Zn hk (Zn E hq));have j:=Yw i;have T:=Yw (Zn zB (Zn hA hv));have X:=Yw X1;have zJ:=i.nk;have zP:=i.np;have zO:=i.nl;have h8:=i.w8;have zM:=i.gn;clear x hk E hq i zB hA hv X1;go_enter func17,ntmps17;go_upto_region 1 with fail;rw[<-zA.o]
 clear zA;go_region_held3 (fun r=>r.cell? (Zd (w.heap.size) 0)=some (Zg k)/\r.cell? (Zd (w.heap.size) 1)=some (Zg now)/\r.cell? (Zd (w.heap.size) 2)=some (Zg c)/\r.cell? (Zd (w.heap.size) 3)=some (Zg b)/\r.cell? (Zd (w.heap.size) 4)=some (.slice a f.length C)/\r.cell? (Zd (w.heap.size) 5)=some (.slice p o.length O)/\r.cell? (Zd (w.heap.size) 6)=some (.slice l n.length N))
  (first|exact zK|exact zE|exact zF|exact zG|exact zH)
  (first
    |(go_at_call 30;refine(Ew k now c b a C _ _ f d.drew (AI.mono (AI.below U.o.1 bD) bD.size) Yv j.o.sum h8).mono ?_;rintro e w2 ⟨m,fm,rfl,zS,Y,hH,zI⟩;have K:Below d.heap.size d w2:=kD.trans (zI.mono (Zx));have zE:=Eb (Ah.af X.o K Yv);have G:Below w.heap.size w w2:=z.trans (K.mono z.size))
    |(go_at_call 46;refine(MO k now c b _ p l O N o n w2 (AO.mono (AO.below U.o.2.1 G) G.size) (AR.mono (AR.below U.o.2.2 G) G.size) zP zO).mono ?_;rintro e w3 ⟨fv,rfl,zR,D⟩;have L:Below d.heap.size d w3:=K.trans (D.mono K.size);have zF:=Eb (Ah.af X.o L Yv);have H:Below w.heap.size w w3:=z.trans (L.mono z.size))
    |(go_at_call 47;refine(IQ k now c b a C _ _ f w3 (AI.mono (AI.below U.o.1 H) H.size) zJ j.o.cu j.o.sum j.o.je h8).mono ?_;rintro e Q ⟨lb,ln,fl,rfl,zT,hL,y⟩;have M:Below d.heap.size d Q:=L.trans (y.mono L.size);have zG:=Eb (Ah.af X.o M Yv);have I:Below w.heap.size w Q:=z.trans (M.mono z.size))
    |(go_at_call 39;refine(IF P cv eg k m f.length fm f d.drew d.drew.heap.size fv (o.map (·.sum)++n.map (·.sum)) (lb+1) lb ln (ET f) fl V J Q ((Y.af D Y.lt).af y (Zr Y.lt D.size)) hH (R8.mono (R8.below zR.read y) y.size) hL (fun h=>by have:=Z m h;have:=bD.size;omega) (fun h=>by have:=Z lb h;have:=H.size;omega) (fun t ht g hg h=>by have:=Z g h;have:=((hL.row t ht).W hg).1;have:=H.size;omega) zJ Yt zM h8 (fun s hs=>j.o.sz (j.o.roots hs)) (fun p E=>j.o.sz (j.o.dn E)) (fun s hs=>j.o.roots hs) (fun p E=>j.o.dn E) ((T.o.2.1 w.heap.size (Zx)).below T.o.1 I (Zx)) (T.o.2.1 Q.heap.size I.size) (fun A W u ra rc h1 h2 h3 h4=>T.o.2.2 Q.heap.size A W u ra rc I.size h1 h2 h3 h4)).mono ?_;rintro e w5 ⟨A,⟨rv,rfl⟩,zC,zN,B,R⟩;have V5:Cr w.heap.size V w w5:=(JU I R);have S:=Yw (Zn zC (Zn zN (Zn B V5)));have zH:=Eb (Ah.same X.o ((R.old w.heap.size (by have:=M.size;omega) (fun h=>by have:=Z _ h;omega)).trans (M.block _ Yv)))))
 all_goals
  clear Y hH hL zI D y K L M G H I zE zF zG zH zC B R V5;go_wp2
  go_end0
  exact⟨A,⟨_,rfl⟩,S.o.1,S.o.2.1,fun s=>(S.o.2.2.1 s).trans GA,S.o.2.2.2⟩
end
theorem Lv{f:Int}{a:List Kd}(h:∀(i:Nat) k,a[i]?=some k->DO f a i k):∀(d i:Nat) u v,a[i]?=some u->a[i+d+1]?=some v->less u.sum v.sum=true:=by
 intro d;induction d with
 |zero=>intro i u v c b;exact(h _ _ b).up _ _ rfl c
 |succ d ih=>intro i u v c b;have g:=(Zw b).1;have e:a[i+d+1]?=some a[i+d+1]:=Zv Yv;exact Cm (ih i u _ c e) ((h _ _ b).up _ _ Yv e)
theorem Ec{g c:Int}{q:List Kd}{t:List Pd}{s:List Ld}(h:Bq g now d c q t s):CB g q t s:=by
 have x:∀k∈q,Ay k.E k.B g=true:=fun k b=>by obtain⟨i,a⟩:=List.getElem?_of_mem b;exact(h.th i k a).ok
 refine⟨h.ca.ib,h.nth,h.np,h.nl,fun k b=>(AX (x k b)).B,fun k b=> ?_,fun k b r n=> ?_,fun k b r n=> ?_,fun p A=> ?_,fun l z=> ?_,fun u o v B e=> ?_⟩
 .obtain⟨i,a⟩:=List.getElem?_of_mem b;rw[(h.th i k a).sum];exact EY k g h.ca.gu
 .obtain⟨i,a⟩:=List.getElem?_of_mem n;exact(AX (x k b)).size a
 .obtain⟨i,a⟩:=List.getElem?_of_mem b;obtain⟨u,o,y,_⟩:=h.ref i k a r n;exact⟨u,o,y⟩
 .obtain⟨i,a⟩:=List.getElem?_of_mem A;exact(h.du i p a).sum
 .obtain⟨i,a⟩:=List.getElem?_of_mem z;exact(h.br i l a).sum
 .obtain⟨i,a⟩:=List.getElem?_of_mem o;obtain⟨j,f⟩:=List.getElem?_of_mem B;rcases Nat.lt_trichotomy i j with m|m|m
  .have:=Lv h.th (j -i -1) i u v a (by rw[show i+(j -i -1)+1=j by omega];exact f);rw[e,BU]at this;cases this
  .subst m;rw[a]at f;exact Option.some.inj f
  .have:=Lv h.th (i -j -1) j v u f (by rw[show j+(i -j -1)+1=i by omega];exact a);rw[e,BU]at this;cases this
def Bl(ps:List Pd)(ls:List Ld):Zl:=ps.map (·.sum)++ls.map (·.sum)
end Go.Proofs.YtmjlkgpekcnacaaGreat
