import Derived.Test.YtcankpdbabaacaaGreatDoorX29
set_option maxRecDepth 100000
set_option maxHeartbeats 16000000
namespace Go.Proofs.YtcankpdbabaacaaGreatDoor
open Go.ChangeShapes Go.WideShapes Go.ChangeAt Go.RowKit _root_.Go.Proofs.Tryz
variable{B c mm n p base d m:Nat}{V:List Nat}{w w':Zh}{a:Zk}{b q r s:Option Nat}{t qs ms ns ds:Zl}{ks:List Kd}{at_ wd now given births ph top ro:Int}{O P L Q M D:Value}{ps:List Pd}{ls:List Ld}
theorem SZ(ps:List Pd)(ls:List Ld):CI ps ls=(ps.map (·.sum)++ls.map (·.sum)).foldl AK []:=by rw[List.foldl_append];rfl
theorem PI(base d m:Nat)(O P L:Value)(wd now given births:Int)(ks:List Kd)(ps:List Pd)(ls:List Ld)(w:Zh)(r:Dr w base d m O P L wd now given births ks ps ls)(U:ps.length<=100)(hl:ls.length<=200)(Z:∀p∈ps,(p.sum.size:Int)=wd)(Y:∀l∈ls,(l.sum.size:Int)=wd)(h8:wd<=8):
 Calls prog 163 #[Yz d] w fun e w'=>∃V,e=.returned V/\Aj w' w.heap.size V (CI ps ls)/\Zz w w':=by
 obtain⟨pa,zJ,rfl⟩:=As r.cg;obtain⟨la,zI,rfl⟩:=As r.ci;have zB:Hid (AG w w.heap.size pa ps):=AG.own r.cg;have zA:Hid (AI w w.heap.size la ls):=AI.own r.ci;have HD:=Yx r;have zF:=r.box.lt;have zG:∀(fn:Fn) (first cap:Array Value) (w:Zh),(Instr.makeFunc fn first cap).run prog w=.ok (.func fn first cap) w:=fun _ _ _ _=>rfl;have zH:= @run_makeMap prog;have N:Hid (∀x∈ps.map (·.sum),(x.size:Int)=wd):=by intro x hx;obtain⟨p,U,rfl⟩:=List.mem_map.1 hx;exact Z p U
 have X:Hid (∀x∈ls.map (·.sum),(x.size:Int)=wd):=by intro x hx;obtain⟨p,U,rfl⟩:=List.mem_map.1 hx;exact Y p U
 obtain⟨W,C⟩:∃W,W=((w.alloc (.cells #[Zc] 22)).alloc (.map #[] 0)).alloc (.cells #[.map (some (w.heap.size+1))] 137):=⟨_,rfl⟩;have bW:Below w.heap.size w W:=by rw[C];exact((Zy).alloc Yv _).alloc Yu _
 have H0:Hid (HS W w.heap.size (w.heap.size+2) w.heap.size []):=by
  have F:Aa W w.heap.size [Zc]:=by rw[C];exact Aa.below (Aa.below (Aa.new w [Zc] 22) (Zy)) (Zy)
  have G:AV W 183 (w.heap.size+1) 0 0 (fun _=>none):=by have:=AV.new (w.alloc (.cells #[Zc] 22)) 183;rw[World.size_alloc]at this;rw[C];exact this.ah (Zy) Yv
  have c2:Aa W (w.heap.size+2) [.map (some (w.heap.size+1))]:=by have:=Aa.new ((w.alloc (.cells #[Zc] 22)).alloc (.map #[] 0)) [.map (some (w.heap.size+1))] 137;rw[World.size_alloc,World.size_alloc]at this;rw[C];exact this
  exact⟨_,_,0,0,_,F,c2,Aj.nil _ _,G,MK.nil,Zx,(fun g hg=>by cases hg),Yw,Yw,Yw,Yw,Yw,Yw⟩
 obtain⟨p0,_⟩:=Aa.below r.box bW 6 _ rfl;have HW:=Yx C;clear C r Z Y;go_enter func163,ntmps163;go_upto_region 3 with fail;rw[<-HW.o];clear HW;go_wp2
 go_loopw [17] (fun i wr=>∃k:Nat,k<=ps.length/\i=Zg k/\Hid (HS wr w.heap.size (w.heap.size+2) w.heap.size ((ps.map (·.sum)).take k)/\Zz w wr)) (fun i _=>ps.length -(intOf i).toNat)
 case atStart=>exact⟨0,Nat.zero_le _,rfl,H0.o,bW⟩
 case round=>
  obtain⟨k,hk,rfl,q⟩:=hrel;have a:=q.o.2;have E:=a.size;by_cases hlt:k<ps.length
  .obtain⟨b,zE,ha,hb,H⟩:=(AG.below zB.o a).at hlt;subst ha;have HG:Hid (ps[k]?=some ps[k]):=Zv hlt;obtain⟨F,G⟩:=H k _ HG.o;have HT:Hid ((ps.map (·.sum)).take (k+1)=(ps.map (·.sum)).take k++[ps[k].sum]):=by show _=_;rw[Zu (by simpa using hlt)];simp
   have S:(ps[k].sum.size:Int)=wd:=N.o _ (List.mem_map.2 ⟨_,List.getElem_mem hlt,rfl⟩);clear H;generalize ps[k]=x at *
   obtain⟨h,j⟩:∃h,h=wr.alloc (.cells #[.string x.name,.string x.sum] 163):=⟨_,rfl⟩;have o:Below wr.heap.size wr h:=by rw[j];exact Zy
   have x1:h.cell? (Ze (wr.heap.size) 1)=some (.string x.sum):=by rw[j];simp[go_sem]
   have J:Hid (HS h w.heap.size (w.heap.size+2) w.heap.size ((ps.map (·.sum)).take k)):=q.o.1.below o;have s:=Yx j;have zC:=o.size;have R:Below w.heap.size w h:=a.trans (o.mono E);have K:Hid (∀y∈(ps.map (·.sum)).take k,(y.size:Int)=wd):=fun y A=>N.o y (List.mem_of_mem_take A);clear j o;go_upto_region 7 with fail;rw[<-s.o];clear s F G;go_wp2_with fail
   refine Calls.mono (KJ w.heap.size (w.heap.size+2) w.heap.size wd ((ps.map (·.sum)).take k) x.sum h J.o K.o S h8 Yu Yw) ?_;rintro e I ⟨⟨v,rfl⟩,u,t⟩;have HE:Hid (HS I w.heap.size (w.heap.size+2) w.heap.size ((ps.map (·.sum)).take (k+1))/\Zz w I):=⟨by rw[HT.o];exact u,R.trans t⟩;clear u t;go_wp2;exact⟨⟨k+1,Yw,Yp,HE⟩,by simp[intOf];omega⟩
  .have z:(ps.map (·.sum)).take k=ps.map (·.sum):=Zt Yu;have HJ:Hid (HS wr w.heap.size (w.heap.size+2) w.heap.size (ps.map (·.sum))):=z▸q.o.1;obtain⟨q0,_⟩:=Aa.below HD.o.box a 7 _ rfl;have HB:Hid (Zz w wr):=a;clear q z p0 bW;go_wp2
   go_loopw [31] (fun i wr=>∃k:Nat,k<=ls.length/\i=Zg k/\Hid (HS wr w.heap.size (w.heap.size+2) w.heap.size (ps.map (·.sum)++(ls.map (·.sum)).take k)/\Zz w wr)) (fun i _=>ls.length -(intOf i).toNat)
   case atStart=>exact⟨0,Nat.zero_le _,rfl,by simpa using HJ.o,a⟩
   case round=>
    clear q0 a E;obtain⟨k,hk,rfl,q⟩:=hrel;have a:=q.o.2;have E:=a.size;by_cases hlt:k<ls.length
    .obtain⟨b,zE,ha,hb,H⟩:=(AI.below zA.o a).at hlt;subst ha;have HG:Hid (ls[k]?=some ls[k]):=Zv hlt;obtain⟨F,G,c2⟩:=H k _ HG.o;have HT:Hid ((ls.map (·.sum)).take (k+1)=(ls.map (·.sum)).take k++[ls[k].sum]):=by show _=_;rw[Zu (by simpa using hlt)];simp
     have S:(ls[k].sum.size:Int)=wd:=X.o _ (List.mem_map.2 ⟨_,List.getElem_mem hlt,rfl⟩);clear H;generalize ls[k]=x at *
     obtain⟨h,j⟩:∃h,h=wr.alloc (.cells #[Zg x.V,.string x.sum,Zg x.bg] 164):=⟨_,rfl⟩;have o:Below wr.heap.size wr h:=by rw[j];exact Zy
     have x1:h.cell? (Ze (wr.heap.size) 1)=some (.string x.sum):=by rw[j];simp[go_sem]
     have J:Hid (HS h w.heap.size (w.heap.size+2) w.heap.size (ps.map (·.sum)++(ls.map (·.sum)).take k)):=q.o.1.below o;have s:=Yx j;have zC:=o.size;have R:Below w.heap.size w h:=a.trans (o.mono E);have K:Hid (∀y∈ps.map (·.sum)++(ls.map (·.sum)).take k,(y.size:Int)=wd):=fun y A=>by
      rcases List.mem_append.1 A with A|A
      .exact N.o y A
      .exact X.o y (List.mem_of_mem_take A)
     clear j o;go_upto_region 12 with fail;rw[<-s.o];clear s F G c2;go_wp2_with fail;refine Calls.mono (KJ w.heap.size (w.heap.size+2) w.heap.size wd (ps.map (·.sum)++(ls.map (·.sum)).take k) x.sum h J.o K.o S h8 Yu Yw) ?_;rintro e I ⟨⟨v,rfl⟩,u,t⟩
     have HE:Hid (HS I w.heap.size (w.heap.size+2) w.heap.size (ps.map (·.sum)++(ls.map (·.sum)).take (k+1))/\Zz w I):=⟨by rw[HT.o,<-List.append_assoc];exact u,R.trans t⟩;clear u t;go_wp2;exact⟨⟨k+1,Yw,Yp,HE⟩,by simp[intOf];omega⟩
    .have z:(ls.map (·.sum)).take k=ls.map (·.sum):=Zt Yu;obtain⟨V,b,n,c,f,h1,_,T,_⟩:=q.o.1;rw[z,<-SZ]at T;obtain⟨va,vc,rfl,_⟩:=T.row;obtain⟨s0,_⟩:=h1 0 _ rfl;have HF:=Yx T;clear h1 T z;go_wp2;go_ret;exact⟨_,rfl,HF.o,a⟩
section
structure BX (B:Nat) (V:List Nat) (w w':Zh):Prop where
 os:w'.os=w.os
 tape:w'.tape=w.tape
 output:w'.output=w.output
 size:w.heap.size<=w'.heap.size
 block:∀b,b<B->b∉V->w'.heap[b]?=w.heap[b]?
theorem BX.of(h:Below B w w'):BX B V w w':=⟨h.os,h.tape,h.output,h.size,fun b a _=>h.block b a⟩
theorem BX.tn(h:Tn V w w')(e:B<=w.heap.size):BX B V w w':=⟨h.os,h.tape,h.output,h.size,fun b f a=>h.block b Yw a⟩
theorem BX.trans{a b c:Zh}(h:BX B V a b)(k:BX B V b c):BX B V a c:=⟨k.os.trans h.os,k.tape.trans h.tape,k.output.trans h.output,Zm h.size k.size,fun x f e=>(k.block x f e).trans (h.block x f e)⟩
theorem BX.below{lo:Nat}(h:BX B V w w')(f:lo<=B)(a:∀b∈V,lo<=b):Below lo w w':=⟨h.os,h.tape,h.output,h.size,fun b g=>h.block b Yw (fun e=>by have:=a b e;omega)⟩
structure IS (c mm:Nat) (q r s:Option Nat):Prop where
 cm:c≠mm
 q:∀g,q=some g->g≠c/\g≠mm/\r≠some g/\s≠some g
 r:∀g,r=some g->g≠c/\g≠mm/\s≠some g
 s:∀g,s=some g->g≠c/\g≠mm
theorem IS.iq(h:IS c mm q r s)(i:∀g,b=some g->q=some g\/n<=g)(l:c<n)(o:mm<n)(j:∀g,r=some g->g<n)(k:∀g,s=some g->g<n):IS c mm b r s:=by
 refine⟨h.cm,fun g f=> ?_,h.r,h.s⟩;rcases i g f with a|a
 .exact h.q g a
 .exact⟨Yw,Yw,fun e=>by have:=j g e;omega,fun e=>by have:=k g e;omega⟩
theorem IS.newR{j:Option Nat}(h:IS c mm q r s)(i:∀g,j=some g->r=some g\/n<=g)(u:c<n)(v:mm<n)(p:∀g,q=some g->g<n)(t:∀g,s=some g->g<n):IS c mm q j s:=by
 refine⟨h.cm,fun g b=> ?_,fun g b=> ?_,h.s⟩
 .obtain⟨a,k,l,o⟩:=h.q g b;refine⟨a,k,fun e=> ?_,o⟩;rcases i g e with f|f
  .exact l f
  .have:=p g b;omega
 .rcases i g b with a|a
  .exact h.r g a
  .exact⟨Yw,Yw,fun e=>by have:=t g e;omega⟩
theorem IS.newS{l:Option Nat}(h:IS c mm q r s)(k:∀g,l=some g->s=some g\/n<=g)(u:c<n)(v:mm<n)(p:∀g,q=some g->g<n)(t:∀g,r=some g->g<n):IS c mm q r l:=by
 refine⟨h.cm,fun g a=> ?_,fun g a=> ?_,fun g a=> ?_⟩
 .obtain⟨b,i,j,o⟩:=h.q g a;refine⟨b,i,j,fun e=> ?_⟩;rcases k g e with f|f
  .exact o f
  .have:=p g a;omega
 .obtain⟨b,i,j⟩:=h.r g a;refine⟨b,i,fun e=> ?_⟩;rcases k g e with f|f
  .exact j f
  .have:=t g a;omega
 .rcases k g a with b|b
  .exact h.s g b
  .exact⟨Yw,Yw⟩
structure CM (w:Zh) (base B c d m:Nat) (O P L:Value) (wd now given births:Int) (ks:List Kd) (ps:List Pd) (ls:List Ld) (ph top at_ ro:Int) (Q M D:Value) (mm:Nat) (qs ms ns ds:Zl):Prop where
 I:Dr w base d m O P L wd now given births ks ps ls
 db:DB w base B d m O P L wd births ks
 box:Aa w c (GM d ph Q M top at_ ro mm D)
 q:Aj w B Q qs
 mr:Aj w B M ms
 dd:Aj w B D ds
 fw:∃n cc f,AV w 183 mm n cc f/\MK ns f cc/\n<=ns.length
 ap:IS c mm (Af Q) (Af M) (Af D)
 bc:B<=c
 bm:B<=mm
 bB:base<=B
section
variable {w w':Zh} {base B c d m:Nat} {O P L:Value} {wd now given births:Int} {ks:List Kd} {ps:List Pd} {ls:List Ld} {ph top at_ ro:Int} {Q M D:Value} {mm:Nat} {qs ms ns ds:Zl}
theorem Dr.dy(h:Dr w base d m O P L wd now given births ks ps ls)(l:DB w base B d m O P L wd births ks)(o:Tn V w w')(j:∀b∈V,B<=b):Dr w' base d m O P L wd now given births ks ps ls:=by have i:∀b∈vB d m O P L,w'.heap[b]?=w.heap[b]?:=fun b k=>o.block b (h.cf b k) (fun e=>by have:=j b e;have:=l.1 b k;omega);obtain⟨_,n,f,r,p,q,_⟩:=l.Y o j;exact⟨Aa.same h.box (i d (by simp[vB])),⟨n,f,r,p,q⟩,Ak h.ord (fun g a=>i g (by simp[vB,a])),Ak h.cg (fun g a=>i g (by simp[vB,a])),Ak h.ci (fun g a=>i g (by simp[vB,a])),h.bd,h.bm,h.ap⟩
theorem CM.hu(h:CM w base B c d m O P L wd now given births ks ps ls ph top at_ ro Q M D mm qs ms ns ds):∃n f,n<=1000000+births.toNat/\AT w 183 m n f/\Holds w B wd ks f:=by
 obtain⟨_,n,f,o,p,q,r⟩:=h.db;refine⟨n,f,o,p,fun s i=> ?_⟩;rcases q s i with l|⟨u,ra,k,v,x,j,e⟩
 .exact .inl l
 .refine .inr ⟨u,ra,k,v,x,j,?_⟩;rcases e with e|⟨b,a,g,_,_,_,t⟩
  .exact .inl e
  .by_cases hr:u.B.length=0
   .exact .inl (List.eq_nil_of_length_eq_zero hr)
   .exact .inr ⟨b,a,g,r s i u ra k j ⟨b,a,none⟩ g hr,t⟩
theorem CM.lo(h:CM w base B c d m O P L wd now given births ks ps ls ph top at_ ro Q M D mm qs ms ns ds):B<=w.heap.size:=by have:=h.bc;have:=h.box.lt;omega
theorem CM.Y(h:CM w base B c d m O P L wd now given births ks ps ls ph top at_ ro Q M D mm qs ms ns ds)(i:Tn V w w')(a:∀b∈V,B<=b/\b≠c/\b≠mm/\Af Q≠some b/\Af M≠some b/\Af D≠some b):CM w' base B c d m O P L wd now given births ks ps ls ph top at_ ro Q M D mm qs ms ns ds:=by
 obtain⟨n,o,f,l,p⟩:=h.fw;have q:=i.block c h.box.lt (fun e=>(a c e).2.1 rfl);exact⟨h.I.dy h.db i (fun b k=>(a b k).1),h.db.Y i (fun b k=>(a b k).1),Aa.same h.box q,h.q.Y i (fun g j e=>(a g e).2.2.2.1 j),h.mr.Y i (fun g j e=>(a g e).2.2.2.2.1 j),h.dd.Y i (fun g j e=>(a g e).2.2.2.2.2 j),⟨n,o,f,l.S (i.block mm l.lt (fun e=>(a mm e).2.2.1 rfl)),p⟩,h.ap,h.bc,h.bm,h.bB⟩
theorem CM.below(h:CM w base B c d m O P L wd now given births ks ps ls ph top at_ ro Q M D mm qs ms ns ds)(a:Zz w w'):CM w' base B c d m O P L wd now given births ks ps ls ph top at_ ro Q M D mm qs ms ns ds:=
 h.Y (V:=[]) (Tn.of a) Yv
theorem CM.put(h:CM w base B c d m O P L wd now given births ks ps ls ph top at_ ro Q M D mm qs ms ns ds)(j:Nat)(v:Value){x a s z:Int}{r q p:Value}{y u:Zl}(I:(GM d ph Q M top at_ ro mm D).set j v=GM d x r q a s z mm p)(N:Aj w B r y)(K:Aj w B q u)(H:Aj w B p t)(i:IS c mm (Af r) (Af q) (Af p)):
 CM (w.setCell (Ze c j) v) base B c d m O P L wd now given births ks ps ls x a s z r q p mm y u ns t:=by
 obtain⟨n,E,f,F,G⟩:=h.fw;have C:=AM w c j v;have A:∀b∈[c],B<=b:=by simp;exact h.bc
 have l:∀k,k≠c->(w.setCell (Ze c j) v).heap[k]?=w.heap[k]?:=fun k J=>Below.heap_setCell _ _ _ _ J;exact⟨h.I.dy h.db C A,h.db.Y C A,I▸h.box.set j v,N.stays (by simp) (fun g o=>l g (i.q g o).1),K.stays (by simp) (fun g o=>l g (i.r g o).1),H.stays (by simp) (fun g o=>l g (i.s g o).1),⟨n,E,f,F.S (l mm (fun e=>h.ap.cm e.symm)),G⟩,i,h.bc,h.bm,h.bB⟩
theorem CM.bumped(h:CM w base B c d m O P L wd now given births ks ps ls ph top at_ ro Q M D mm qs ms ns ds)(a:w.grownBy w' (some mm)){l:Nat}{f:Lit->Option Value}{j:Zl}(q:AV w' 183 mm n l f)(p:MK j f l)(t:n<=j.length):CM w' base B c d m O P L wd now given births ks ps ls ph top at_ ro Q M D mm qs ms j ds:=by
 have i:Tn [mm] w w':=Tn.grown a (by simp);have o:∀b∈[mm],B<=b:=by simp;exact h.bm
 have r:∀k,k<w.heap.size->k≠mm->w'.heap[k]?=w.heap[k]?:=fun k s e=>i.block k s (by simpa using e);exact⟨h.I.dy h.db i o,h.db.Y i o,Aa.same h.box (r c h.box.lt h.ap.cm),h.q.Y i (fun g a e=>(h.ap.q g a).2.1 (by simpa using e)),h.mr.Y i (fun g a e=>(h.ap.r g a).2.1 (by simpa using e)),h.dd.Y i (fun g a e=>(h.ap.s g a).2 (by simpa using e)),⟨n,l,f,q,p,t⟩,h.ap,h.bc,h.bm,h.bB⟩
theorem CM.ft(h:CM w base B c d m O P L wd now given births ks ps ls ph top at_ ro Q M D mm qs ms ns ds)(a:w.grownBy w' b)(I:∀g,b=some g->B<=g/\g≠c/\g≠mm)(j:Nat)(v:Value){q p o:Value}{A z:Zl}(K:(GM d ph Q M top at_ ro mm D).set j v=GM d ph q p top at_ ro mm o)(S:Aj w' B q A)(R:Aj w' B p z)(J:Aj w' B o t)(i:IS c mm (Af q) (Af p) (Af o)):
 CM (w'.setCell (Ze c j) v) base B c d m O P L wd now given births ks ps ls ph top at_ ro q p o mm A z ns t:=by
 obtain⟨n,G,f,C,H⟩:=h.fw;have s:=BV a;have r:∀g∈b.toList,B<=g/\g≠c/\g≠mm:=fun g a=>I g (by simpa using a);have E:=s.block c h.box.lt (fun e=>(r c e).2.1 rfl);have F:=h.I.dy h.db s (fun g a=>(r g a).1);have y:=h.db.Y s (fun g a=>(r g a).1);have x:=AM w' c j v;have u:∀b∈[c],B<=b:=by simp;exact h.bc
 have l:∀k,k≠c->(w'.setCell (Ze c j) v).heap[k]?=w'.heap[k]?:=fun k N=>Below.heap_setCell _ _ _ _ N;exact⟨F.dy y x u,y.Y x u,K▸(Aa.same h.box E).set j v,S.stays (by simp) (fun g a=>l g (i.q g a).1),R.stays (by simp) (fun g a=>l g (i.r g a).1),J.stays (by simp) (fun g a=>l g (i.s g a).1),⟨n,G,f,(C.S (s.block mm C.lt (fun e=>(r mm e).2.2 rfl))).S (l mm (fun e=>h.ap.cm e.symm)),H⟩,i,h.bc,h.bm,h.bB⟩
theorem My(h:CM w base B c d m O P L wd now given births ks ps ls ph top at_ ro Q M D mm qs ms ns ds){R:Value}{E:Nat}{i:Zl}(v:Aj w B R i)(_hRe:R=.slice a i.length E)(z:∀g,Af R=some g->g≠c)(t:Zi)(C:i.length<=100000000)(j:Nat):
 ∃l f k,(Builtin.append_ #[22,22] 22 #[R,Za w.heap.size 1 1]).run prog (w.alloc (.cells #[.string t] 9))=.ok (.slice l (i.length+1) f) k/\Aa k c (GM d ph Q M top at_ ro mm D)/\w.grownBy k (Af R)/\Aj k B (.slice l (i.length+1) f) (i++[t])/\(∀g,Af (.slice l (i.length+1) f)=some g->Af R=some g\/w.heap.size<=g)/\Tn (c::(Af R).toList) w (k.setCell (Ze c j) (.slice l (i.length+1) f))/\Below B w (k.setCell (Ze c j) (.slice l (i.length+1) f)):=by
 have u:Below w.heap.size w (w.alloc (.cells #[.string t] 9)):=Zy;have dj:=h.lo;obtain⟨F,k,y,n,A,p⟩:=IN (w.alloc (.cells #[.string t] 9)) B R i (v.below u) ⟨w.heap.size,0,none⟩ 1 t (by simp[go_sem]) C Yu 22;obtain⟨l,f,rfl,_⟩:=n.row;simp only[List.length_append,List.length_cons,List.length_nil,Nat.zero_add]at y n p;have s:w.grownBy k (Af R):=(Aq _ u).trans A
 have o:Aa k c _:=Aa.same h.box (s.block c h.box.lt (fun e=>z c e.symm rfl));have x:Tn (c::(Af R).toList) w (k.setCell (Ze c j) (.slice l (i.length+1) f)):=((BV s).mono (by simp;exact fun b h=> .inr h)).trans (Tn.set _ _ _ _ Yv);refine⟨l,f,k,y,o,s,n,fun g e=> ?_,x,x.below dj (fun b r=> ?_)⟩
 .rcases p with q|q
  .rw[q]at e;exact .inl e
  .rw[q]at e;have:=Option.some.inj e;simp at this;exact .inr Yw
 .rcases List.mem_cons.1 r with rfl|r
  .exact h.bc
  .exact(v.S (by simpa using r)).1
theorem CM.pushQ(h:CM w base B c d m O P L wd now given births ks ps ls ph top at_ ro (.slice a qs.length p) M D mm qs ms ns ds)(t:Zi)(z:qs.length<=100000000):
 ∃l i j,(Builtin.append_ #[22,22] 22 #[.slice a qs.length p,Za w.heap.size 1 1]).run prog (w.alloc (.cells #[.string t] 9))=.ok (.slice l (qs.length+1) i) j/\j.cell? (Ze c 2)=some (.slice a qs.length p)/\j.frozen? ⟨c,2,none⟩=false/\
  CM (j.setCell (Ze c 2) (.slice l (qs.length+1) i)) base B c d m O P L wd now given births ks ps ls ph top at_ ro (.slice l (qs.length+1) i) M D mm (qs++[t]) ms ns ds/\Tn (c::(Af (.slice a qs.length p)).toList) w (j.setCell (Ze c 2) (.slice l (qs.length+1) i))/\Below B w (j.setCell (Ze c 2) (.slice l (qs.length+1) i)):=by
 obtain⟨l,i,j,A,o,k,u,q,y,v⟩:=My h h.q rfl (fun g b=>(h.ap.q g b).1) t z 2;obtain⟨n,C,f,x,_⟩:=h.fw;have s:Aj j B M ms:=h.mr.stays k.size (fun g b=>k.block g (h.mr.S b).2 (fun e=>(h.ap.q g e.symm).2.2.1 b));have r:Aj j B D ds:=h.dd.stays k.size (fun g b=>k.block g (h.dd.S b).2 (fun e=>(h.ap.q g e.symm).2.2.2 b))
 exact⟨l,i,j,A,(o 2 _ rfl).1,(o 2 _ rfl).2,h.ft k (fun g b=>⟨(h.q.S b).1,(h.ap.q g b).1,(h.ap.q g b).2.1⟩) 2 _ rfl u s r (h.ap.iq q h.box.lt x.lt (fun g b=>(h.mr.S b).2) (fun g b=>(h.dd.S b).2)),y,v⟩
theorem CM.pushM(h:CM w base B c d m O P L wd now given births ks ps ls ph top at_ ro Q (.slice a ms.length p) D mm qs ms ns ds)(t:Zi)(z:ms.length<=100000000):
 ∃l i j,(Builtin.append_ #[22,22] 22 #[.slice a ms.length p,Za w.heap.size 1 1]).run prog (w.alloc (.cells #[.string t] 9))=.ok (.slice l (ms.length+1) i) j/\j.cell? (Ze c 3)=some (.slice a ms.length p)/\j.frozen? ⟨c,3,none⟩=false/\
  CM (j.setCell (Ze c 3) (.slice l (ms.length+1) i)) base B c d m O P L wd now given births ks ps ls ph top at_ ro Q (.slice l (ms.length+1) i) D mm qs (ms++[t]) ns ds/\Tn (c::(Af (.slice a ms.length p)).toList) w (j.setCell (Ze c 3) (.slice l (ms.length+1) i))/\Below B w (j.setCell (Ze c 3) (.slice l (ms.length+1) i)):=by
 obtain⟨l,i,j,A,o,k,s,q,y,v⟩:=My h h.mr rfl (fun g b=>(h.ap.r g b).1) t z 3;obtain⟨n,C,f,x,_⟩:=h.fw;have u:Aj j B Q qs:=h.q.stays k.size (fun g b=>k.block g (h.q.S b).2 (fun e=>(h.ap.q g b).2.2.1 e.symm));have r:Aj j B D ds:=h.dd.stays k.size (fun g b=>k.block g (h.dd.S b).2 (fun e=>(h.ap.r g e.symm).2.2 b))
 exact⟨l,i,j,A,(o 3 _ rfl).1,(o 3 _ rfl).2,h.ft k (fun g b=>⟨(h.mr.S b).1,(h.ap.r g b).1,(h.ap.r g b).2.1⟩) 3 _ rfl u s r (h.ap.newR q h.box.lt x.lt (fun g b=>(h.q.S b).2) (fun g b=>(h.dd.S b).2)),y,v⟩
theorem CM.pushD(h:CM w base B c d m O P L wd now given births ks ps ls ph top at_ ro Q M (.slice a ds.length p) mm qs ms ns ds)(t:Zi)(z:ds.length<=100000000):
 ∃l i j,(Builtin.append_ #[22,22] 22 #[.slice a ds.length p,Za w.heap.size 1 1]).run prog (w.alloc (.cells #[.string t] 9))=.ok (.slice l (ds.length+1) i) j/\j.cell? (Ze c 8)=some (.slice a ds.length p)/\j.frozen? ⟨c,8,none⟩=false/\
  CM (j.setCell (Ze c 8) (.slice l (ds.length+1) i)) base B c d m O P L wd now given births ks ps ls ph top at_ ro Q M (.slice l (ds.length+1) i) mm qs ms ns (ds++[t])/\Tn (c::(Af (.slice a ds.length p)).toList) w (j.setCell (Ze c 8) (.slice l (ds.length+1) i))/\Below B w (j.setCell (Ze c 8) (.slice l (ds.length+1) i)):=by
 obtain⟨l,i,j,A,o,k,s,q,y,v⟩:=My h h.dd rfl (fun g b=>(h.ap.s g b).1) t z 8;obtain⟨n,C,f,x,_⟩:=h.fw;have u:Aj j B Q qs:=h.q.stays k.size (fun g b=>k.block g (h.q.S b).2 (fun e=>(h.ap.q g b).2.2.2 e.symm));have r:Aj j B M ms:=h.mr.stays k.size (fun g b=>k.block g (h.mr.S b).2 (fun e=>(h.ap.r g b).2.2 e.symm))
 exact⟨l,i,j,A,(o 8 _ rfl).1,(o 8 _ rfl).2,h.ft k (fun g b=>⟨(h.dd.S b).1,(h.ap.s g b).1,(h.ap.s g b).2⟩) 8 _ rfl u r s (h.ap.newS q h.box.lt x.lt (fun g b=>(h.q.S b).2) (fun g b=>(h.mr.S b).2)),y,v⟩
end
end
theorem Vb(base B c d m:Nat)(O P L:Value)(wd now given births:Int)(ks:List Kd)(ps:List Pd)(ls:List Ld)(ph top at_ ro:Int)(Q M D:Value)(mm:Nat)(qs ms ns ds:Zl)(w:Zh)(h:CM w base B c d m O P L wd now given births ks ps ls ph top at_ ro Q M D mm qs ms ns ds)(Y:ps.length<=100)(X:ls.length<=200)(J:∀p∈ps,(p.sum.size:Int)=wd)(I:∀l∈ls,(l.sum.size:Int)=wd)(T:wd<=8)(zA:0<=births)(zB:births<=1000000000):
 Calls prog 123 #[Yz c] w fun e w'=>e=.returned (.tuple #[])/\∃V,CM w' base B c d m O P L wd now given births ks ps ls 1 births (births+1) ro V M D mm (CI ps ls) ms ns ds/\Below B w w':=by
 obtain⟨W,t⟩:∃W,W=w.setCell (Ze c 1) (Zg 1):=⟨_,rfl⟩;have a:CM W base B c d m O P L wd now given births ks ps ls 1 top at_ ro Q M D mm qs ms ns ds:=by rw[t];exact h.put 1 (Zg 1) rfl h.q h.mr h.dd h.ap
 have A:Below B w W:=by rw[t];exact(Below.refl _ _).setCell (by simpa using h.bc) _
 obtain⟨q1,N⟩:=h.box 1 _ rfl;obtain⟨v,_⟩:=a.box 0 _ rfl;obtain⟨q4,R⟩:=a.box 4 _ rfl;obtain⟨q5,S⟩:=a.box 5 _ rfl;obtain⟨K,_⟩:=a.I.box 4 _ rfl;have H:¬d=c:=fun e=>by have:=a.db.1 d (by simp[vB]);have:=a.bc;omega
 have zC:¬c=d:=fun e=>H e.symm;have r:=h.bc;have i:=Yx a;have y:=Yx t;have zE:=a.box.lt;have zF:=a.I.box.lt;clear t h a;go_enter func123,ntmps123;go_upto_region 1 with fail;rw[<-y.o];clear y q1 N;go_cut [] (fun G=>Hid (CM G base B c d m O P L wd now given births ks ps ls 1 births (births+1) ro Q M D mm qs ms ns ds/\Below B W G))
 case first=>
  go_region
  all_goals
   go_wp2_with fail;go_meet;have o:CM (W.setCell (Ze c 4) (Zg births)) base B c d m O P L wd now given births ks ps ls 1 births at_ ro Q M D mm qs ms ns ds:=i.o.put 4 (Zg births) rfl i.o.q i.o.mr i.o.dd i.o.ap
   have Z:CM ((W.setCell (Ze c 4) (Zg births)).setCell (Ze c 5) (Zg (births+1))) base B c d m O P L wd now given births ks ps ls 1 births (births+1) ro Q M D mm qs ms ns ds:=o.put 5 (Zg (births+1)) rfl o.q o.mr o.dd o.ap;exact⟨Z.below (Below.refl _ _).drew,(((Below.refl _ _).setCell (by simpa using r) _).setCell (by simpa using r) _).drew⟩
 case rest=>
  revert wc;intro E b;clear v q4 R q5 S K i;obtain⟨v,_⟩:=b.o.1.box 0 _ rfl;go_wp2_with fail;refine(PI base d m O P L wd now given births ks ps ls E b.o.1.I Y X J I T).mono ?_;rintro e F ⟨V,rfl,s,q⟩;have j:=b.o.1.below q;have dj:=b.o.1.lo;have u:IS c mm (Af V) (Af M) (Af D):=by obtain⟨n,cc,f,U,_⟩:=b.o.1.fw;exact j.ap.iq (n:=E.heap.size) (fun g k=> .inr (s.S k).1) b.o.1.box.lt U.lt (fun g k=>(b.o.1.mr.S k).2) (fun g k=>(b.o.1.dd.S k).2)
  have C:CM (F.setCell (Ze c 2) V) base B c d m O P L wd now given births ks ps ls 1 births (births+1) ro V M D mm (CI ps ls) ms ns ds:=j.put 2 V rfl (s.mono dj) j.mr j.dd u;have z:Below B w (F.setCell (Ze c 2) V):=((A.trans b.o.2).trans (q.mono dj)).setCell (by simpa using r) _;obtain⟨va,vc,rfl,_⟩:=s.row;obtain⟨q2,f2⟩:=j.box 2 _ rfl;have x:=Yx (Zn C z);clear j C z u s q v b A;go_wp2
  exact⟨rfl,_,results_none rfl _ _ _,rfl,_,x.o.1,x.o.2⟩
theorem Ob(base B c d m:Nat)(O P L:Value)(wd now given births:Int)(ks:List Kd)(ps:List Pd)(ls:List Ld)(ph top at_ ro:Int)(Q M D:Value)(mm:Nat)(s:Zi)(qs ms ds:Zl)(w:Zh)(h:CM w base B c d m O P L wd now given births ks ps ls ph top at_ ro Q M D mm (s::qs) ms ms ds)(yO:∀k∈ks,(k.sum.size:Int)=wd/\k.B.length<=30/\∀r∈k.B,(r.size:Int)=wd)(yQ:∀x∈ms,(x.size:Int)=wd)(S:(s.size:Int)=wd)(h8:wd<=8)(vE:qs.length<=1048576)(vD:ms.length<=1048576):
 Calls prog 124 #[Yz c] w fun e w'=>e=.returned (.tuple #[])/\∃Q' M' yV zT,CM w' base B c d m O P L wd now given births ks ps ls ph top at_ ro Q' M' D mm yV zT zT ds/\JV ks s qs ms yV zT/\Below B w w':=by
 obtain⟨g,p,cap,v,rfl,vA,ht,hn,xV,xK⟩:∃g p cap v,Q=.slice (some ⟨g,p,none⟩) (qs.length+1) cap/\((if cap=1 then some ⟨g,p,none⟩else some ⟨g,p+1,none⟩:Zk)=some ⟨g,v,none⟩)/\Aj w B (.slice (some ⟨g,v,none⟩) qs.length (cap -1)) qs/\qs.length+1<=cap/\cap<=maxLen/\w.cell? (Ze g p)=some (.string s):=by
  have hq:=h.q;rcases h.q with⟨_,e⟩|⟨g,p,cap,rfl,xJ,xM,xP,hc,_⟩
  .cases e
  .obtain⟨h1,_,h3,h4⟩:=hq.tail;by_cases h1c:cap=1
   .subst h1c;simp only[List.length_cons]at xP;have:qs=[]:=List.eq_nil_of_length_eq_zero Yw;subst this;exact⟨g,p,1,p,rfl,rfl,.inr ⟨g,p,0,rfl,xJ,xM,Zx,Yw,(fun j hj=>by omega),(fun i s S=>by simp at S)⟩,h3,hc,h4⟩
   .exact⟨g,p,cap,p+1,rfl,if_neg h1c,h1,h3,hc,h4⟩
 obtain⟨W,hW⟩:∃W,W=w.setCell (Ze c 2) (.slice (some ⟨g,v,none⟩) qs.length (cap -1)):=⟨_,rfl⟩;have z:CM W base B c d m O P L wd now given births ks ps ls ph top at_ ro (.slice (some ⟨g,v,none⟩) qs.length (cap -1)) M D mm qs ms ms ds:=by rw[hW];exact h.put 2 _ rfl ht h.mr h.dd h.ap
 have bW:Below B w W:=by rw[hW];exact(Below.refl _ _).setCell (by simpa using h.bc) _
 obtain⟨q2,f2⟩:=h.box 2 _ rfl;obtain⟨q0,_⟩:=z.box 0 _ rfl;obtain⟨d0,_⟩:=z.I.box 0 _ rfl;obtain⟨d1,_⟩:=z.I.box 1 _ rfl;have xX:=h.bc;have I:=Yx z;have HW:=Yx hW;have xY:=z.box.lt;have yN:=z.I.box.lt;have yX:Hid (∀g,Af M=some g->g<W.heap.size):=fun g hg=>(z.mr.S hg).2;have xW:mm<W.heap.size:=by obtain⟨n,R,f,hM,_⟩:=z.fw;exact hM.lt
 have zZ:=Yx yO;have yB:=Yx yQ;clear hW h z ht yO yQ;go_enter func124,ntmps124;go_upto_region 2 with fail;rw[<-HW.o];clear HW q2 f2 xK;by_cases hth:Av ks s
 .obtain⟨n1,f,xQ,hM,hH⟩:=I.o.hu;rcases hH s S with⟨_,xR⟩|⟨u,ra,T,hu,zK,zR,zE⟩
  .exact absurd hth xR
  have a:=Fz wd m n1 f s W hM S u.sum u.born u.M (.slice ra u.B.length T) true ⟨_,_,_,rfl⟩ (by rw[zR];rfl) (by rw[zR];rfl);have HR:Hid (Ad W B ra u.B):=zE;have zF:Hid (u∈ks/\u.sum=s):=⟨hu,zK⟩;clear hM hH zR zE hu zK;go_wp2_with fail;refine Calls.mono a ?_;rintro e l ⟨rfl,t⟩;obtain⟨H,zJ⟩:∃H,H=l.alloc (.cells #[.string u.sum,Zg u.born,.string u.M,.slice ra u.B.length T] 99):=⟨_,rfl⟩
  have b2:Below l.heap.size l H:=by rw[zJ];exact Zy
  have z2:Aa H l.heap.size [.string u.sum,Zg u.born,.string u.M,.slice ra u.B.length T]:=by rw[zJ];exact Aa.new l _ _
  have zH:Below W.heap.size W H:=t.trans (b2.mono t.size);have y:Hid (CM H base B c d m O P L wd now given births ks ps ls ph top at_ ro (.slice (some ⟨g,v,none⟩) qs.length (cap -1)) M D mm qs ms ms ds):=I.o.below zH;have yC:Hid (Ad H B ra u.B):=Ad.below HR.o (zH.mono I.o.lo);have yI:Below B w H:=bW.trans (zH.mono I.o.lo);have yF:=Yx zJ;have yG:=Yx z2;have vC:W.heap.size<=l.heap.size:=t.size
  clear zJ b2 z2 zH t I HR bW a q0 d0 d1 yN;go_upto_region 3 with fail;rw[<-yF.o];clear yF;have yA:Hid (∃n R f,AV H 183 mm n R f/\MK ms f R/\n<=ms.length):=y.o.fw;obtain⟨nk,R,fk,C,A,yS⟩:=yA.o;go_wp2_with fail;refine Calls.mono (FU c d ph top at_ ro (.slice (some ⟨g,v,none⟩) qs.length (cap -1)) M D mm nk R fk wd ms s H y.o.box C A yB.o S h8) ?_;rintro e w3 ⟨b,rfl,hb,Z⟩
  have U:Hid (CM w3 base B c d m O P L wd now given births ks ps ls ph top at_ ro (.slice (some ⟨g,v,none⟩) qs.length (cap -1)) M D mm qs ms ms ds):=y.o.below Z;have yJ:Below B w w3:=yI.trans (Z.mono y.o.lo);have yD:Hid (Ad w3 B ra u.B):=Ad.below yC.o (Z.mono y.o.lo);have zM:=Yx (Aa.below yG.o Z);have Hb:Hid (b=true↔s∈ms):=hb;clear C A yS yA hb Z y yC yG yI;cases b with
  |true=>have xA:Hid (s∈ms):=Hb.o.1 rfl;go_wp2;refine bodyPost_ret (results_none rfl _ _ _) rfl ?_;exact⟨rfl,_,_,qs,ms,U.o,.inl ⟨.inr xA.o,rfl,rfl⟩,yJ⟩
  |false=>
   have xB:Hid (s∉ms):=fun e=>by have:=Hb.o.2 e;cases this
   clear Hb;obtain⟨va,vc,xE,_⟩:=U.o.mr.row;subst xE;have HP:=U.o.pushM s Yw;obtain⟨K,E,w5,hr,c3,f3,zN,zO,zI⟩:=HP;obtain⟨X,hX⟩:∃X,X=w5.setCell (Ze c 3) (.slice K (ms.length+1) E):=⟨_,rfl⟩;rw[<-hX]at zN zO zI;obtain⟨q3,_⟩:=U.o.box 3 _ rfl;have xO:l.heap.size<w3.heap.size:=Aa.lt zM.o;have xN:¬l.heap.size=c:=Yw
   have xI:Below B w X:=yJ.trans zI;have yE:Hid (Ad X B ra u.B):=Ad.below yD.o zI;have F:=Yx zN;have HX:=Yx hX;have yH:Hid (Aa X l.heap.size [.string u.sum,Zg u.born,.string u.M,.slice ra u.B.length T]):=Aa.same zM.o (zO.block _ xO (fun e=>by
    rcases List.mem_cons.1 e with e|e
    .exact xN e
    .have:=yX.o _ (by simpa using e);omega))
   have yZ:Hid (∀X',Below B X X'->Ad X' B ra u.B):=fun X' xG=>Ad.below yE.o xG;clear hX zN zO zI U yD zM yE;go_wp2_with (first
    |(at_builtin;refine wpList_append_run rfl _ _ 22 22 rfl rfl rfl hr ?_)
    |go_in)
   clear hr q3;go_upto_region 5 with fail;rw[<-HX.o];clear HX c3 f3;have V:Hid (∀Y,Zz X Y->Y.cell? (Ze c 7)=some (.map (some mm))):=fun Y hY=>((F.o.box.below hY) 7 _ rfl).1;have D0:Below X.heap.size X X.drew:=(Below.refl _ _).drew;obtain⟨nk,R,fk,C,A,yS⟩:=F.o.fw;obtain⟨nn,yU,yR,yT,_⟩:=A.get (keyL s);have xS:IntKind.i64.wrap (nn+1)=nn+1:=Hi Yw Yw
   have HK:Hid (AV X 183 mm nk R fk/\MK ms fk R):=⟨C,A⟩;have xL:=F.o.box.lt;have zS:=F.o.ap.cm;have yP:=C.lt;clear C A
   go_cut [] (fun wx=>Hid (CM wx base B c d m O P L wd now given births ks ps ls ph top at_ ro (.slice (some ⟨g,v,none⟩) qs.length (cap -1)) (.slice K (ms.length+1) E) D mm qs (ms++[s]) (ms++[s]) ds/\Aa wx l.heap.size [.string u.sum,Zg u.born,.string u.M,.slice ra u.B.length T]/\Below B X wx))
   case first=>
    go_region_held3 (fun Y=>Y.cell? (Ze c 7)=some (.map (some mm)))
     (first|with_reducible exact V.o _ D0|with_reducible exact V.o _ k2|exact yK|exact yL)
     (first
       |(go_at_call 145;refine(Fy s X.drew).mono ?_;rintro e w6 ⟨rfl,xH⟩;have k2:Below X.heap.size X w6:=D0.trans (xH.mono D0.size);obtain⟨st,w7,w8,he,hl1,hl3,hs4,hm4,hg3,hg4⟩:=(HK.o.1.ah k2 yP).gx keyed underlying137 Yq GZ (CP s) (Zg (nn+1));rw[yU]at he hl1 hl3;unfold goInt at he hs4;have yK:w7.cell? (Ze c 7)=some (.map (some mm)):=hg3.cell (V.o _ k2) (by simpa using zS);have yL:w8.cell? (Ze c 7)=some (.map (some mm)):=hg4.cell (V.o _ k2) (by simpa using zS)))
    all_goals
     have g8:X.grownBy w8 (some mm):=(Aq _ k2).trans hg4;have HF:Hid (CM w8 base B c d m O P L wd now given births ks ps ls ph top at_ ro (.slice (some ⟨g,v,none⟩) qs.length (cap -1)) (.slice K (ms.length+1) E) D mm qs (ms++[s]) (ms++[s]) ds/\Aa w8 l.heap.size [.string u.sum,Zg u.born,.string u.M,.slice ra u.B.length T]/\Below B X w8):=
      ⟨F.o.bumped g8 hm4 (HK.o.2.snoc s yR yT) Yu,Aa.bz yH.o g8 Yw,(Below.refl _ _).grown g8 F.o.lo (fun q e=>by cases e;exact F.o.bm)⟩
     clear hm4 he hl1 hl3 hs4 hg3 hg4 yK yL k2 g8;go_wp2_with fail;go_meet;exact HF
   case rest=>
   revert wc;intro w9 H9;clear V D0 HK xS yU yR yT xL zS yP F yH;obtain⟨r3,_⟩:=H9.o.2.1 3 _ rfl;have zW:=Yx H9.o.1;have zV:Hid (Below B X w9):=H9.o.2.2;have vF:u.B.length<=30:=(zZ.o u zF.o.1).2.1;have yY:Hid (∀r∈u.B,(r.size:Int)=wd):=(zZ.o u zF.o.1).2.2;have zU:Hid (∀x∈ms++[s],(x.size:Int)=wd):=fun x hx=>by
    rcases List.mem_append.1 hx with hx|hx
    .exact yB.o x hx
    .simp at hx;rw[hx];exact S
   clear H9;go_wp2
   go_loopw [69] (fun i wr=>∃(k:Nat) (Qk:Value),k<=u.B.length/\i=Zg k/\Hid (CM wr base B c d m O P L wd now given births ks ps ls ph top at_ ro Qk (.slice K (ms.length+1) E) D mm (qs++fresh (ms++[s]) (u.B.take k)) (ms++[s]) (ms++[s]) ds/\Below B X wr)) (fun i _=>u.B.length -(intOf i).toNat)
   case atStart=>exact⟨0,_,Nat.zero_le _,rfl,by simpa [fresh]using zW.o,zV.o⟩
   case round=>
    clear zW zV r3;obtain⟨k,Qk,hk,rfl,J⟩:=hrel;by_cases hlt:k<u.B.length
    .obtain⟨b,vG,ha,hb,hc⟩:=(yZ.o _ J.o.2).at hlt;subst ha;have HG:Hid (u.B[k]?=some u.B[k]):=Zv hlt;have c0:=hc k _ HG.o;have xT:(u.B[k].size:Int)=wd:=yY.o _ (List.getElem_mem hlt);have zY:=Yx (LY (ms:=ms++[s]) HG.o);have xZ:(qs++fresh (ms++[s]) (u.B.take k)).length<=1048606:=by have:(fresh (ms++[s]) (u.B.take k)).length<=(u.B.take k).length:=List.length_filter_le _ _;simp at this |-;omega
     clear hc;generalize u.B[k]=x at *
     generalize hO:qs++fresh (ms++[s]) (u.B.take k)=qk at *
     have HO:=Yx hO;clear hO;obtain⟨xU,xC,xD,C,A,_⟩:=J.o.1.fw;go_wp2_with fail;refine Calls.mono (FU c d ph top at_ ro Qk (.slice K (ms.length+1) E) D mm xU xC xD wd (ms++[s]) x wr J.o.1.box C A zU.o xT h8) ?_;rintro e yW ⟨b2,rfl,yM,N⟩;have G:Hid (CM yW base B c d m O P L wd now given births ks ps ls ph top at_ ro Qk (.slice K (ms.length+1) E) D mm qk (ms++[s]) (ms++[s]) ds):=J.o.1.below N
     have zA:Below B X yW:=J.o.2.trans (N.mono J.o.1.lo);have zG:Hid (b2=true↔x∈ms++[s]):=yM;clear C A yM N c0 J;cases b2 with
     |true=>
      have HE:Hid (qs++fresh (ms++[s]) (u.B.take (k+1))=qk):=by show _=_;rw[zY.o.1 (zG.o.1 rfl)];exact HO.o
      clear zG;go_wp2;exact⟨⟨k+1,Qk,Yw,Yp,⟨by rw[HE.o];exact G.o,zA⟩⟩,by simp[intOf];omega⟩
     |false=>
      have HE:Hid (qs++fresh (ms++[s]) (u.B.take (k+1))=qk++[x]):=by show _=_;rw[zY.o.2 (fun e=>by have:=zG.o.2 e;cases this),<-List.append_assoc,HO.o]
      clear zG;obtain⟨ka,kc,xF,_⟩:=G.o.q.row;subst xF;obtain⟨a2,c2,vH,hr,g2,f2,zC,_,zB⟩:=G.o.pushQ x Yw;obtain⟨q2,_⟩:=G.o.box 2 _ rfl;have zX:=Yx (Zn zC (zA.trans zB));clear zC zB;go_wp2_with (first
       |(at_builtin;refine wpList_append_run rfl _ _ 22 22 rfl rfl rfl hr ?_)
       |go_in)
      clear hr q2;go_wp2;exact⟨⟨k+1,_,Yw,Yp,⟨by rw[HE.o];exact zX.o.1,zX.o.2⟩⟩,by simp[intOf];omega⟩
    .obtain rfl:k=u.B.length:=Yw
     have hE:=J.o.1;rw[Zt (Zx)]at hE;have HE:=Yx hE;clear hE;go_wp2;exact⟨rfl,_,results_none rfl _ _ _,rfl,_,_,_,_,HE.o,.inr ⟨u,zF.o.1,zF.o.2,xB.o,rfl,rfl⟩,xI.trans J.o.2⟩
 .obtain⟨n1,f,xQ,hM,hH⟩:=I.o.hu;have zP:f (keyL s)=none:=by
   rcases hH s S with⟨h,_⟩|⟨u,_,_,hu,zK,_⟩
   .exact h
   .exact absurd ⟨u,hu,zK⟩ hth
  have a:=Fz wd m n1 f s W hM S ⟨#[]⟩ 0 ⟨#[]⟩ Zc false ⟨_,_,_,rfl⟩ (by rw[zP];rfl) (by rw[zP];rfl);clear hM hH zP;go_wp2_with fail;refine Calls.mono a ?_;rintro e l ⟨rfl,t⟩;have y:Hid (∀o,CM (l.alloc o) base B c d m O P L wd now given births ks ps ls ph top at_ ro (.slice (some ⟨g,v,none⟩) qs.length (cap -1)) M D mm qs ms ms ds/\Below B w (l.alloc o)):=fun o=>
   ⟨I.o.below (t.alloc t.size o),bW.trans ((t.alloc t.size o).mono I.o.lo)⟩
  clear t I bW a q0 d0 d1 yN;go_wp2;refine bodyPost_ret (results_none rfl _ _ _) rfl ?_;exact⟨rfl,_,_,qs,ms,(y.o _).1,.inl ⟨.inl hth,rfl,rfl⟩,(y.o _).2⟩
def IT:Kd:=⟨⟨#[]⟩,0,⟨#[]⟩,[]⟩
def YB(ks:List Kd)(at_:Int)(u:Kd)(ra:Zk)(rc:Nat):Prop:=
 (u=IT/\ra=none/\rc=0/\∀y∈ks,¬y.born<at_)\/(u∈ks/\u.born<at_/\∀y∈ks,y.born<at_->y.born<=u.born)
theorem YB.snoc{u x:Kd}{ra:Zk}{rc:Nat}(h:YB ks at_ u ra rc)(n:1<=x.born):(¬x.born<at_->YB (ks++[x]) at_ u ra rc)/\(x.born<at_->¬u.born<x.born->YB (ks++[x]) at_ u ra rc)/\(x.born<at_->u.born<x.born->∀l rd,YB (ks++[x]) at_ x l rd):=by
 have j:∀{y:Kd},y∈ks++[x]->y∈ks\/y=x:=fun {y} a=>by
  rcases List.mem_append.1 a with a|a
  .exact .inl a
  .exact .inr (by simpa using a)
 refine⟨fun i=> ?_,fun i hu=> ?_,fun i hu l rd=> ?_⟩
 .rcases h with⟨e,g,f,k⟩|⟨e,g,f⟩
  .refine .inl ⟨e,g,f,fun y a=> ?_⟩;rcases j a with a|rfl
   .exact k y a
   .exact i
  .refine .inr ⟨List.mem_append_left _ e,g,fun y a b=> ?_⟩;rcases j a with a|rfl
   .exact f y a b
   .exact absurd b i
 .rcases h with⟨e,_⟩|⟨e,g,f⟩
  .exfalso;rw[e]at hu;exact hu (by show(0:Int)<_;omega)
  .refine .inr ⟨List.mem_append_left _ e,g,fun y a b=> ?_⟩;rcases j a with a|rfl
   .exact f y a b
   .omega
 .refine .inr ⟨List.mem_append_right _ Yv,i,fun y a b=> ?_⟩;rcases j a with a|rfl
  .rcases h with⟨_,_,_,k⟩|⟨_,_,f⟩
   .exact absurd b (k y a)
   .have:=f y a b;omega
  .omega
def Nu:Zj:=[Zd,Zf,Zd,Zc]
theorem Ka(base d m:Nat)(O P L:Value)(wd now given births at_:Int)(ks:List Kd)(ps:List Pd)(ls:List Ld)(w:Zh)(J:Dr w base d m O P L wd now given births ks ps ls)(zT:(ks.map (·.sum)).Nodup)(zU:∀k∈ks,(k.sum.size:Int)=wd)(hk:ks.length<=600)(zG:∀k∈ks,1<=k.born):
 Calls prog 120 #[Yz d,Zg at_] w fun e w'=>∃u ra g,e=.returned (.tuple #[CA u ra g,.bool (decide (0<u.born))])/\YB ks at_ u ra g/\Zz w w':=by
 obtain⟨oa,yD,rfl⟩:=As J.ord;have HD:=Yx J;have zZ:=J.box.lt;obtain⟨W,F⟩:∃W,W=(w.alloc (.cells #[Zd,Zf,Zd,Zc] 99)).alloc (.cells #[Zd,Zf,Zd,Zc] 99):=⟨_,rfl⟩;have hB:Below w.heap.size w W:=by rw[F];exact(Zy).alloc Yv _
 have zA:W.heap.size=w.heap.size+2:=by rw[F];simp
 have zR:Aa W w.heap.size Nu:=by rw[F];exact Aa.below (v:=Zd) (Aa.new w Nu 99) (Zy)
 have zY:Aa W (w.heap.size+1) [.string IT.sum,Zg IT.born,.string IT.M,.slice none IT.B.length 0]:=by have h1:=Aa.new (w.alloc (.cells #[Zd,Zf,Zd,Zc] 99)) Nu 99;rw[World.size_alloc]at h1;rw[F];exact h1
 obtain⟨e5,_⟩:=Aa.below J.box hB 5 _ rfl;have HW:=Yx F;have H0:=Yx (Zn zR zY);have zF:=Yx zA;clear F J zR zY zA;go_enter func120,ntmps120;go_upto_region 2 with fail;rw[<-HW.o];clear HW;go_wp2
 go_loopw [15] (fun i wr=>∃(k:Nat) (u:Kd) (ra:Zk) (g:Nat),k<=ks.length/\i=Zg k/\Hid (Aa wr (w.heap.size+1) [.string u.sum,Zg u.born,.string u.M,.slice ra u.B.length g]/\Aa wr w.heap.size Nu/\YB (ks.take k) at_ u ra g/\Zz w wr/\w.heap.size+2<=wr.heap.size)) (fun i _=>ks.length -(intOf i).toNat)
 case atStart=>exact⟨0,IT,none,0,Nat.zero_le _,rfl,⟨H0.o.2,H0.o.1,.inl ⟨rfl,rfl,rfl,(fun y hy=>by simp at hy)⟩,hB,by have:=zF.o;omega⟩⟩
 case round=>
  clear H0;obtain⟨k,u,ra,g,yA,rfl,f⟩:=hrel;have h:=f.o.2.2.2.1;have yC:=f.o.2.2.2.2;by_cases hlt:k<ks.length
  .have E:=Dr.below HD.o h;have n:=E.ord;obtain⟨og,oc,zS,_,yB⟩:=Cc n (fun e=>by injection e with _ h2 _;omega);cases zS;have HG:Hid (ks[k]?=some ks[k]):=Zv hlt;have l:ks[k]∈ks:=List.getElem_mem hlt;have Z:(ks.map (·.sum))[k]?=some ks[k].sum:=by simp[hlt]
   obtain⟨s,t,_,fj⟩:=E.look zT zU l;have zV:=zG _ l;have a:∀j,j<8->wr.cell? (Ze og (k *8+j))=some (.int .u8 (kB ks[k].sum j)):=fun j hj=>(n.cellAt _ Yw).trans (Eg Z hj);have Y:=a 0 Yw;have zI:=a 1 Yw;have zJ:=a 2 Yw;have zK:=a 3 Yw;have zM:=a 4 Yw;have zN:=a 5 Yw;have zO:=a 6 Yw;have zP:=a 7 Yw;rw[Nat.add_zero]at Y
   have dr:Aa wr d _:=E.box;have HT:Hid (ks.take (k+1)=ks.take k++[ks[k]]):=Zu hlt;have HS:=Yx (YB.snoc (x:=ks[k]) f.o.2.2.1 zV);unfold BU CE CA at fj;clear a Z n l E;generalize ks[k]=x at *
   obtain⟨b,q⟩:∃b,b=wr.alloc (.cells (Ym (kB x.sum)) 183):=⟨_,rfl⟩;have C:Below wr.heap.size wr b:=by rw[q];exact Zy
   have T:b.heap.size=wr.heap.size+1:=by rw[q];simp
   have K1:Aa b wr.heap.size (Al x.sum):=by rw[q];exact Aa.new wr (Al x.sum) 183
   have K:Hid (∀X,Zz b X->X.cell? (Ze d 1)=some (.map (some m))/\(X.cell? (Ze (wr.heap.size) 0)=some (.int .u8 (kB x.sum 0))/\X.cell? (Ze (wr.heap.size) 1)=some (.int .u8 (kB x.sum 1))/\X.cell? (Ze (wr.heap.size) 2)=some (.int .u8 (kB x.sum 2))/\X.cell? (Ze (wr.heap.size) 3)=some (.int .u8 (kB x.sum 3))/\X.cell? (Ze (wr.heap.size) 4)=some (.int .u8 (kB x.sum 4))/\X.cell? (Ze (wr.heap.size) 5)=some (.int .u8 (kB x.sum 5))/\X.cell? (Ze (wr.heap.size) 6)=some (.int .u8 (kB x.sum 6))/\X.cell? (Ze (wr.heap.size) 7)=some (.int .u8 (kB x.sum 7)))/\(Instr.lookup 119 (.map (some m)) (.agg (Ym (kB x.sum))) false).run prog X=.ok (.agg #[.string x.sum,Zg x.born,.string x.M,.slice s x.B.length t]) X):=
    fun X hX=>⟨((dr.below (C.trans (hX.mono C.size))) 1 _ rfl).1,ZY (hX.block _ Yw) K1,fj X (C.trans (hX.mono C.size))⟩
   have D0:Below b.heap.size b b.drew:=(Below.refl _ _).drew;have D1:∀o,Zz b (b.alloc o).drew:=fun o=>(Zy).drew;have V:=Yx q;have zE:=Yx T;have zB:=Yx C;clear q T fj K1 C dr;go_upto_region 5 with fail;rw[<-V.o];clear V Y zI zJ zK zM zN zO zP
   go_region_held3 (fun X=>X.cell? (Ze d 1)=some (.map (some m))/\(X.cell? (Ze (wr.heap.size) 0)=some (.int .u8 (kB x.sum 0))/\X.cell? (Ze (wr.heap.size) 1)=some (.int .u8 (kB x.sum 1))/\X.cell? (Ze (wr.heap.size) 2)=some (.int .u8 (kB x.sum 2))/\X.cell? (Ze (wr.heap.size) 3)=some (.int .u8 (kB x.sum 3))/\X.cell? (Ze (wr.heap.size) 4)=some (.int .u8 (kB x.sum 4))/\X.cell? (Ze (wr.heap.size) 5)=some (.int .u8 (kB x.sum 5))/\X.cell? (Ze (wr.heap.size) 6)=some (.int .u8 (kB x.sum 6))/\X.cell? (Ze (wr.heap.size) 7)=some (.int .u8 (kB x.sum 7)))/\(Instr.lookup 119 (.map (some m)) (.agg (Ym (kB x.sum))) false).run prog X=.ok (.agg #[.string x.sum,Zg x.born,.string x.M,.slice s x.B.length t]) X)
    (first|with_reducible exact K.o _ D0|with_reducible exact K.o _ (D1 _))
    (fail)
   all_goals
    clear K D0 D1;obtain⟨r,G⟩:∃r,r=(b.alloc (.cells #[.string x.sum,Zg x.born,.string x.M,.slice s x.B.length t] 99)).drew:=⟨_,rfl⟩;have b2:Below b.heap.size b r:=by rw[G];exact(Zy).drew
    have I:Aa r b.heap.size [.string x.sum,Zg x.born,.string x.M,.slice s x.B.length t]:=by rw[G];exact Aa.new b _ _
    have T:=zE.o;have p:Below wr.heap.size wr r:=zB.o.trans (b2.mono Yw);have U:=p.size;have A:=Aa.below f.o.1 p;have R2:=Aa.below (v:=Zd) f.o.2.1 p;obtain⟨y0,f0⟩:=A 0 _ rfl;obtain⟨y1,f1⟩:=A 1 _ rfl;obtain⟨y2,f2⟩:=A 2 _ rfl;obtain⟨y3,f3⟩:=A 3 _ rfl;obtain⟨k0,_⟩:=I 0 _ rfl;obtain⟨k1,_⟩:=I 1 _ rfl;obtain⟨k2,_⟩:=I 2 _ rfl;obtain⟨k3,_⟩:=I 3 _ rfl;have zW:¬w.heap.size+1=b.heap.size:=Yw
    have zX:¬b.heap.size=w.heap.size+1:=Yw
    have N:Below w.heap.size w r:=h.trans (p.mono Yw);have S:w.heap.size+2<=r.heap.size:=Yw
    have z:=Yx (Zn A R2);rw[<-G];clear G b2 I T p A R2 U;by_cases hx:x.born<at_
    .have d1:decide (x.born<at_)=true:=by simpa using hx
     by_cases hu:u.born<x.born
     .have d2:decide (u.born<x.born)=true:=by simpa using hu
      have H:Hid (YB (ks.take k++[x]) at_ x s t):=HS.o.2.2 hx hu s t;clear HS hx hu;go_wp2;refine⟨⟨k+1,x,s,t,Yw,Yp,⟨?_,?_,by rw[HT.o];exact H.o,?_,by simpa using S⟩⟩,by simp[intOf];omega⟩
      .exact((((z.o.1.set 0 _).set 1 _).set 2 _).set 3 _)
      .exact Aa.same z.o.2 (by rw[Below.heap_setCell _ _ _ _ Yv,Below.heap_setCell _ _ _ _ Yv,Below.heap_setCell _ _ _ _ Yv,Below.heap_setCell _ _ _ _ Yv])
      .exact(((N.setCell Yv _).setCell Yv _).setCell Yv _).setCell Yv _
     .have d2:decide (u.born<x.born)=false:=by simpa using hu
      have H:Hid (YB (ks.take k++[x]) at_ u ra g):=HS.o.2.1 hx hu;clear HS hx hu;go_wp2;exact⟨⟨k+1,u,ra,g,Yw,Yp,⟨z.o.1,z.o.2,by rw[HT.o];exact H.o,N,S⟩⟩,by simp[intOf];omega⟩
    .have d1:decide (x.born<at_)=false:=by simpa using hx
     have H:Hid (YB (ks.take k++[x]) at_ u ra g):=HS.o.1 hx;clear HS hx;go_wp2;exact⟨⟨k+1,u,ra,g,Yw,Yp,⟨z.o.1,z.o.2,by rw[HT.o];exact H.o,N,S⟩⟩,by simp[intOf];omega⟩
  .obtain rfl:k=ks.length:=Yw
   have R:=f.o.2.2.1;rw[Zt (Zx)]at R;have zC:Hid (YB ks at_ u ra g):=R;obtain⟨y0,_⟩:=f.o.1 0 _ rfl;obtain⟨y1,_⟩:=f.o.1 1 _ rfl;obtain⟨y2,_⟩:=f.o.1 2 _ rfl;obtain⟨y3,_⟩:=f.o.1 3 _ rfl;have r0:wr.cell? (Ze (w.heap.size) 0)=some Zd:=(f.o.2.1 0 _ rfl).1;have r1:wr.cell? (Ze (w.heap.size) 1)=some Zf:=(f.o.2.1 1 _ rfl).1;have r2:wr.cell? (Ze (w.heap.size) 2)=some Zd:=(f.o.2.1 2 _ rfl).1
   have r3:wr.cell? (Ze (w.heap.size) 3)=some Zc:=(f.o.2.1 3 _ rfl).1;have g0:=(f.o.2.1 0 _ rfl).2;have g1:=(f.o.2.1 1 _ rfl).2;have g2:=(f.o.2.1 2 _ rfl).2;have g3:=(f.o.2.1 3 _ rfl).2
   have S0:wr.drew.cell? (Ze (w.heap.size+1) 0)=some (.string u.sum)/\wr.drew.cell? (Ze (w.heap.size+1) 1)=some (Zg u.born)/\wr.drew.cell? (Ze (w.heap.size+1) 2)=some (.string u.M)/\wr.drew.cell? (Ze (w.heap.size+1) 3)=some (.slice ra u.B.length g):=⟨y0,y1,y2,y3⟩
   have zH:∀a0 a1 a2 a3,Zz w ((((wr.setCell (Ze (w.heap.size) 0) a0).setCell (Ze (w.heap.size) 1) a1).setCell (Ze (w.heap.size) 2) a2).setCell (Ze (w.heap.size) 3) a3):=fun a0 a1 a2 a3=>(((h.setCell Yv _).setCell Yv _).setCell Yv _).setCell Yv _;clear R;go_wp2
   go_region_held3 (fun X=>X.cell? (Ze (w.heap.size+1) 0)=some (.string u.sum)/\X.cell? (Ze (w.heap.size+1) 1)=some (Zg u.born)/\X.cell? (Ze (w.heap.size+1) 2)=some (.string u.M)/\X.cell? (Ze (w.heap.size+1) 3)=some (.slice ra u.B.length g))
    (first|with_reducible exact S0|(simp[go_sem];exact S0)|go_keep)
    (fail)
   all_goals
    go_wp2;refine bodyPost_ret (v:=.tuple #[CA u ra g,.bool (decide (0<u.born))]) (by simp[results,results120,go_sem,CA,r0,r1,r2,r3]) rfl ⟨u,ra,g,rfl,zC.o,(zH _ _ _ _).drew⟩
theorem Js(base B c d m:Nat)(O P L:Value)(wd now given births:Int)(ks:List Kd)(ps:List Pd)(ls:List Ld)(ph top at_ ro:Int)(Q M D:Value)(mm:Nat)(qs ms ds:Zl)(w:Zh)(h:CM w base B c d m O P L wd now given births ks ps ls ph top at_ ro Q M D mm qs ms ms ds)(s:Dj wd ks)(zV:∀k∈ks,1<=k.born)(hp:ps.length<=100)(hl:ls.length<=200)(yF:∀x∈ms,(x.size:Int)=wd)(yN:ds.length<=1000):
 Calls prog 125 #[.pointer (some ⟨c,0,none⟩)] w fun e w'=>BX B (vB d m O P L) w w'/\
  ((e=.returned (.bool false)/\(∀y∈ks,¬y.born<at_)/\CM w' base B c d m O P L wd now given births ks ps ls ph top at_ ro Q M D mm qs ms ms ds)\/
   (e=.returned (.bool true)/\∃u,Gs ks at_ u/\(((u.sum∈ms\/CV ps ls ks u.sum)/\CM w' base B c d m O P L wd now given births ks ps ls ph top u.born ro Q M D mm qs ms ms ds)\/(u.sum∉ms/\¬CV ps ls ks u.sum/\∃E,E.ownBlock=O.ownBlock/\∃D',CM w' base B c d m E P L wd now given births (CB ks u.sum) ps ls ph top u.born ro Q M D' mm qs ms ms (ds++[u.sum]))))):=by
 obtain⟨Da,Dc,rfl,_⟩:=h.dd.row;have HS:Hid (∀X,Zz w X->X.cell? ⟨c,0,none⟩=some (.pointer (some ⟨d,0,none⟩))/\X.cell? ⟨c,5,none⟩=some (.int .i64 at_)):=fun X f=>⟨((h.box.below f) 0 _ rfl).1,((h.box.below f) 5 _ rfl).1⟩
 have HY:Hid (∀X,Zz w X->Calls prog 120 #[.pointer (some ⟨d,0,none⟩),.int .i64 at_] X fun e w'=>∃u ra p,e=.returned (.tuple #[CA u ra p,.bool (decide (0<u.born))])/\YB ks at_ u ra p/\Zz X w'):=fun X f=>Ka base d m O P L wd now given births at_ ks ps ls X (h.I.below f) s.nd s.sz s.len zV
 have Y:Hid (CM w base B c d m O P L wd now given births ks ps ls ph top at_ ro Q M (.slice Da ds.length Dc) mm qs ms ms ds):=h;have z:Below w.heap.size w w.drew:=(Below.refl _ _).drew;have D1:∀o,Zz w (w.alloc o).drew:=fun o=>(Zy).drew;have yM:=h.box.lt
 have yO:∀(k:Int) (X:Zh),(Instr.field 88 (.agg #[.int .i64 k,.int .i64 0,.int .i64 0,.int .i64 0,.int .i64 0,.slice none 0 0,.slice none 0 0,.slice none 0 0,.string ⟨#[]⟩,.int .i64 0,.string ⟨#[]⟩,.string ⟨#[]⟩]) 0).run prog X=.ok (.int .i64 k) X:=fun _ _=>by first|rfl|kernel_rfl
 clear h;unfold CA at HY;go_enter func125,ntmps125;go_upto_region 1 with fail;go_cut [3,4] (fun v t wx=>∃(j:Nat) (u:Kd) (ra:Zk) (p:Nat),v=.pointer (some ⟨j,0,none⟩)/\t=.bool (decide (0<u.born))/\Hid (Aa wx j [.string u.sum,.int .i64 u.born,.string u.M,.slice ra u.B.length p]/\YB ks at_ u ra p/\Zz w wx/\w.heap.size<=j))
 case first=>
  go_region_held3 (fun X=>X.cell? ⟨c,0,none⟩=some (.pointer (some ⟨d,0,none⟩))/\X.cell? ⟨c,5,none⟩=some (.int .i64 at_))
   (first|with_reducible exact HS.o _ z|with_reducible exact HS.o _ (D1 _)|with_reducible exact HS.o _ V|with_reducible exact HS.o _ (zK _)|with_reducible exact HS.o _ (zM _ _ _ _))
   (first
     |(go_at_call 120;refine Calls.mono (HY.o _ z) ?_;rintro e T ⟨u,ra,p,rfl,hY,zA⟩;have V:Below w.heap.size w T:=z.trans (zA.mono z.size);have zK:∀o,Zz w (T.alloc o):=fun o=>V.alloc V.size o)
     |(go_at_call 120;refine Calls.mono (HY.o _ (D1 _)) ?_;rintro e T ⟨u,ra,p,rfl,hY,zA⟩;have V:Below w.heap.size w T:=(D1 _).trans (zA.mono (D1 _).size);have n0:Aa T w.heap.size Nu:=Aa.below (v:=.string ⟨#[]⟩) (Aa.new w Nu 99) (Cp zA);have zM:∀v0 v1 v2 v3,Zz w ((((T.setCell ⟨w.heap.size,0,none⟩ v0).setCell ⟨w.heap.size,1,none⟩ v1).setCell ⟨w.heap.size,2,none⟩ v2).setCell ⟨w.heap.size,3,none⟩ v3):=fun _ _ _ _=>(((V.setCell (by simp) _).setCell (by simp) _).setCell (by simp) _).setCell (by simp) _;obtain⟨m0,I⟩:=n0 0 _ rfl;obtain⟨m1,k1⟩:=n0 1 _ rfl;obtain⟨m2,k2⟩:=n0 2 _ rfl;obtain⟨m3,k3⟩:=n0 3 _ rfl))
  all_goals
   go_wp2_with fail;go_meet
   first
    |exact⟨_,u,ra,p,rfl,rfl,⟨(((n0.set 0 _).set 1 _).set 2 _).set 3 _,hY,zM _ _ _ _,Zx⟩⟩
    |exact⟨_,u,ra,p,rfl,rfl,⟨Aa.new T _ _,hY,zK _,V.size⟩⟩
 case rest=>
  revert wc;intro w3 hcut;obtain⟨j,u,ra,p,rfl,rfl,G⟩:=hcut;clear HS HY z D1;have zB:=G.o.2.2.1;have q:Hid (CM w3 base B c d m O P L wd now given births ks ps ls ph top at_ ro Q M (.slice Da ds.length Dc) mm qs ms ms ds):=Y.o.below zB;have dj:=Y.o.lo;have yB:¬j=c:=by have:=G.o.2.2.2;omega
  have yL:¬c=j:=fun e=>yB e.symm;have yE:=Y.o.bc;have zR:Hid (j∉vB d m O P L):=fun e=>by have:=Y.o.I.cf j e;have:=G.o.2.2.2;omega
  have yK:=Y.o.bB;rcases G.o.2.1 with⟨hu,_,_,U⟩|⟨hu,yC,A⟩
  .have hd:decide (0<u.born)=false:=by rw[hu];rfl
   have S:Hid (∀y∈ks,¬y.born<at_):=U;clear U hu;go_wp2;go_ret;exact⟨BX.of (zB.mono dj),.inl ⟨rfl,S.o,q.o⟩⟩
  .have hd:decide (0<u.born)=true:=by have:=zV u hu;simp;omega
   have zF:Hid (Gs ks at_ u):=⟨hu,yC,A⟩;have yG:=s.sz u hu;have h8:=s.w8;clear yC A;obtain⟨I,_⟩:=G.o.1 0 _ rfl;obtain⟨k1,_⟩:=G.o.1 1 _ rfl;obtain⟨q5,f5⟩:=q.o.box 5 _ rfl;obtain⟨W,hW⟩:∃W,W=w3.setCell ⟨c,5,none⟩ (.int .i64 u.born):=⟨_,rfl⟩;have a:Hid (CM W base B c d m O P L wd now given births ks ps ls ph top u.born ro Q M (.slice Da ds.length Dc) mm qs ms ms ds):=by show CM _ _ _ _ _ _ _ _ _ _ _ _ _ _ _ _ _ _ _ _ _ _ _ _ _ _ _ _;rw[hW];exact q.o.put 5 _ rfl q.o.q q.o.mr q.o.dd q.o.ap
   have J:Hid (Aa W j [.string u.sum,.int .i64 u.born,.string u.M,.slice ra u.B.length p]):=Aa.same G.o.1 (by rw[hW];exact Below.heap_setCell _ _ _ _ yB);have bW:Below B w W:=by rw[hW];exact(zB.mono dj).setCell (by simpa using yE) _
   have HW:Hid _:=hW;obtain⟨nk,cc,fk,r,N,_⟩:=a.o.fw;have F:Hid (∀X,Zz W X->Calls prog 121 #[.pointer (some ⟨c,0,none⟩),.string u.sum] X fun e w'=>Ap (u.sum∈ms) X w' e):=fun X f=>
    FU c d ph top u.born ro Q M (.slice Da ds.length Dc) mm nk cc fk wd ms u.sum X (a.o.box.below f) (r.ah f r.lt) N yF yG h8
   have zI:Av ks u.sum:=⟨u,hu,rfl⟩;have zO:Hid _:=zI;clear hW r N Y q G zB hu;go_upto_region 5 with fail;rw[<-HW.o];clear HW k1 q5 f5 I;obtain⟨I,_⟩:=J.o 0 _ rfl;obtain⟨p0,_⟩:=a.o.box 0 _ rfl;have zC:=Aa.lt J.o;have zY:=a.o.box.lt;by_cases hmk:u.sum∈ms
   .have Z:Hid (u.sum∈ms):=hmk;have H:Hid (∀n:Ar W,Calls prog 121 #[.pointer (some ⟨c,0,none⟩),.string u.sum] n.w fun e w'=>e=.returned (.bool true)/\Below n.w.heap.size n.w w'):=fun n=>(F.o _ n.h).mono (fun e w' ⟨b,he,hb,hbb⟩=>⟨by rw[he,hb.2 Z.o],hbb⟩);have qk:=Ar.cell I zC;have zH:=Ar.ne W;clear hmk I p0 F;refine Au (by kernel_rfl) (by kernel_rfl) ?_
    repeat (go_big_quiet_step (first|exact Ar.calls (H.o _)))
    refine wpQuiet_nil ?_;intro n;clear qk zH H;go_wp2;go_ret;exact⟨BX.of (bW.trans (n.h.mono a.o.lo)),.inr ⟨rfl,u,zF.o,.inl ⟨.inl Z.o,a.o.below n.h⟩⟩⟩
   .have Z:Hid (u.sum∉ms):=hmk;by_cases hin:CV ps ls ks u.sum
    .have K:Hid (CV ps ls ks u.sum):=hin;have H:Hid (∀n:Ar W,Calls prog 121 #[.pointer (some ⟨c,0,none⟩),.string u.sum] n.w fun e w'=>e=.returned (.bool false)/\Below n.w.heap.size n.w w'):=fun n=>(F.o _ n.h).mono (fun e w' ⟨b,he,hb,hbb⟩=>⟨by
      cases b with
      |true=>exact absurd (hb.1 rfl) Z.o
      |false=>exact he,hbb⟩)
     have S:Hid (∀n:Ar W,Calls prog 104 #[.pointer (some ⟨d,0,none⟩),.agg #[.int .i64 7,.string u.sum,.string ⟨#[]⟩,.int .i64 0,.string ⟨#[]⟩,.slice none 0 0]] n.w fun e w'=>e=.returned (.agg #[.int .i64 6,.int .i64 0,.int .i64 0,.int .i64 0,.int .i64 0,.slice none 0 0,.slice none 0 0,.slice none 0 0,.string ⟨#[]⟩,.int .i64 0,.string ⟨#[]⟩,.string ⟨#[]⟩])/\Below n.w.heap.size n.w w'):=fun n=>KN base d m O P L wd now given births ks ps ls u.sum n.w (a.o.I.below n.h) s hp hl zO.o K.o
     have qk:=Ar.cell I zC;have q0:=Ar.cell p0 zY;have zH:=Ar.ne W;clear hmk hin I p0 F zI;refine Au (by kernel_rfl) (by kernel_rfl) ?_
     repeat (go_big_quiet_step (first|exact Ar.calls (H.o _)|exact Ar.calls (S.o _)))
     refine wpQuiet_nil ?_;intro n;clear qk q0 zH H S;go_wp2;go_ret;exact⟨BX.of (bW.trans (n.h.mono a.o.lo)),.inr ⟨rfl,u,zF.o,.inl ⟨.inr K.o,a.o.below n.h⟩⟩⟩
    .have K:Hid (¬CV ps ls ks u.sum):=hin;have H:Hid (∀X,Zz W X->Calls prog 121 #[.pointer (some ⟨c,0,none⟩),.string u.sum] X fun e w'=>e=.returned (.bool false)/\Zz X w'):=fun X f=>(F.o _ f).mono (fun e w' ⟨b,he,hb,hbb⟩=>⟨by
      cases b with
      |true=>exact absurd (hb.1 rfl) Z.o
      |false=>exact he,hbb⟩)
     have S:Hid (∀X,Zz W X->Calls prog 104 #[.pointer (some ⟨d,0,none⟩),.agg #[.int .i64 7,.string u.sum,.string ⟨#[]⟩,.int .i64 0,.string ⟨#[]⟩,.slice none 0 0]] X fun e w'=>e=.returned (.agg #[.int .i64 0,.int .i64 0,.int .i64 0,.int .i64 0,.int .i64 0,.slice none 0 0,.slice none 0 0,.slice none 0 0,.string ⟨#[]⟩,.int .i64 0,.string ⟨#[]⟩,.string ⟨#[]⟩])/\∃E,Dr w' base d m E P L wd now given births (CB ks u.sum) ps ls/\E.ownBlock=O.ownBlock/\Tn (vB d m O P L) X w'/\WV X w' base d m O E P L wd births ks u.sum):=fun X f=>Lz base d m O P L wd now given births ks ps ls u.sum X (a.o.I.below f) s hp hl zO.o K.o
     have zP:Hid (c∉vB d m O P L):=fun e=>by have:=a.o.db.1 c e;omega
     have zE:Hid (∀X,Zz W X->X.cell? ⟨c,0,none⟩=some (.pointer (some ⟨d,0,none⟩))/\X.cell? ⟨j,0,none⟩=some (.string u.sum)):=fun X f=>⟨((a.o.box.below f) 0 _ rfl).1,((Aa.below J.o f) 0 _ rfl).1⟩;have zN:Hid (∀X X',Zz W X->Tn (vB d m O P L) X X'->X'.cell? ⟨c,0,none⟩=some (.pointer (some ⟨d,0,none⟩))/\X'.cell? ⟨j,0,none⟩=some (.string u.sum)):=fun X X' f hT=>
      ⟨(Aa.same (a.o.box.below f) (hT.block c (Zr zY f.size) (fun e=>zP.o e)) 0 _ rfl).1,(Aa.same (Aa.below J.o f) (hT.block j (Zr zC f.size) zR.o) 0 _ rfl).1⟩
     have z:Below W.heap.size W W.drew:=(Below.refl _ _).drew;clear hmk hin I p0 F zI;go_region_held3 (fun X=>X.cell? ⟨c,0,none⟩=some (.pointer (some ⟨d,0,none⟩))/\X.cell? ⟨j,0,none⟩=some (.string u.sum))
      (first|with_reducible exact zE.o _ z|with_reducible exact zE.o _ C|with_reducible exact zN.o _ _ C l)
      (first
        |(go_at_call 121;refine Calls.mono (H.o _ z) ?_;rintro e w6 ⟨rfl,zW⟩;have C:Below W.heap.size W w6:=z.trans (zW.mono z.size))
        |(go_at_call 104;refine Calls.mono (S.o _ C) ?_;rintro e w7 ⟨rfl,E,zZ,zG,l,yA⟩))
     all_goals
      have zJ:=a.o.lo;have yP:=C.size;have yQ:=l.size;have i:=a.o.below C;have R:∀g,B<=g->g∉vB d m O P L:=fun g hg e=>by have:=a.o.db.1 g e;omega
      have yH:vB d m E P L=vB d m O P L:=by unfold vB;rw[zG]
      have zX:w7.heap[c]?=w6.heap[c]?:=l.block c i.box.lt zP.o;obtain⟨nk,cc,fk,r,N⟩:=i.fw
      have h7:CM w7 base B c d m E P L wd now given births (CB ks u.sum) ps ls ph top u.born ro Q M (.slice Da ds.length Dc) mm qs ms ms ds:=⟨zZ,yA B (by omega) i.db,Aa.same i.box zX,i.q.Y l (fun g hg=>R g (i.q.S hg).1),i.mr.Y l (fun g hg=>R g (i.mr.S hg).1),i.dd.Y l (fun g hg=>R g (i.dd.S hg).1),⟨nk,cc,fk,r.S (l.block mm r.lt (R mm i.bm)),N⟩,i.ap,i.bc,i.bm,i.bB⟩
      have y7:Aa w7 j [.string u.sum,.int .i64 u.born,.string u.M,.slice ra u.B.length p]:=Aa.same (Aa.below J.o C) (l.block j (Zr zC C.size) zR.o);have zS:BX B (vB d m O P L) w w7:=(BX.of (bW.trans (C.mono zJ))).trans (BX.tn l (by omega));obtain⟨va,vc,w8,hr,x8,g8,zU,_,zT⟩:=(h7.below (Below.refl _ _).drew).pushD u.sum (by omega);have yD:Hid _:=zG
      have HE:Hid _:=Zn zU (zS.trans (BX.of ((Below.refl _ _).drew.trans zT)));obtain⟨yR,_⟩:=h7.box 8 _ rfl;obtain⟨yS,_⟩:=y7 0 _ rfl;have yI:c<w7.heap.size:=h7.box.lt;have yJ:j<w7.heap.size:=y7.lt;clear zZ zG l yA yH zS y7 zX zE zN S H C zW i h7 zU zT r N R;go_upto_region 6 with fail
      go_region_law (first
       |(refine Bv (by rfl) (.tmp 47) (.tmp 50) 22 22 (by rfl) (by rfl) (by rfl) hr ?_))
      all_goals
       clear hr;go_wp2;go_ret;exact⟨HE.o.2,.inr ⟨rfl,u,zF.o,.inr ⟨Z.o,K.o,_,yD.o,_,HE.o.1⟩⟩⟩
theorem CM.nil(h:CM w base B c d m O P L wd now given births ks ps ls ph top at_ ro Q M D mm qs ms ns ds):CM w base B c d m O P L wd now given births ks ps ls ph top at_ ro Q M D mm qs ms ns (ds++[]):=by rw[List.append_nil];exact h
theorem CM.gj{a:Nat}(h:CM w base B c d m O P L wd now given births ks ps ls ph top at_ ro Q M D mm qs ms ns ds)(p:Aa w' c (GM d 0 Zc Zc 0 0 (ro+1) a D))(k:Tn [c] w w')(s:w.heap.size<=a)(q:∃i f,AV w' 183 a 0 i f/\MK [] f i):CM w' base B c d m O P L wd now given births ks ps ls 0 0 0 (ro+1) Zc Zc D a [] [] [] ds:=by
 obtain⟨i,f,n,o⟩:=q;have l:∀b∈[c],B<=b:=by simp;exact h.bc
 have r:=h.box.lt;have dj:=h.lo;exact⟨h.I.dy h.db k l,h.db.Y k l,p,Aj.nil _ _,Aj.nil _ _,h.dd.Y k (fun g j e=>(h.ap.s g j).1 (by simpa using e)),⟨0,i,f,n,o,Zx⟩,⟨by omega,(fun g e=>by cases e),(fun g e=>by cases e),fun g j=>⟨(h.ap.s g j).1,by have:=(h.dd.S j).2;omega⟩⟩,h.bc,by omega,h.bB⟩
theorem WM(base B c d m:Nat)(O P L:Value)(wd now given births:Int)(ks:List Kd)(ps:List Pd)(ls:List Ld)(ph top at_ ro:Int)(Q M D:Value)(mm:Nat)(qs ms ds:Zl)(w:Zh)(h:CM w base B c d m O P L wd now given births ks ps ls ph top at_ ro Q M D mm qs ms ms ds)(q:XI wd births ks ps ls ph ro qs ms)(Y:ds.length<=1000):
 Calls prog 74 #[Yz c] w fun e w'=>e=.returned (.tuple #[])/\BX B (vB d m O P L) w w'/\∃U,U.ownBlock=O.ownBlock/\∃r,UTo ks ps ls births ph top at_ ro qs ms r/\∃Q' M' D' T,CM w' base B c d m U P L wd now given births r.A ps ls r.H r.K r.J r.ro Q' M' D' T r.D r.ms r.ms (ds++r.L):=by
 have HC:=Yx h;have b:=Yx q;obtain⟨z,v⟩:=h.box 1 _ rfl;obtain⟨H,I,rfl,_⟩:=h.q.row;obtain⟨A,x⟩:=h.box 2 _ rfl;have S:=h.bc;have zH:=h.bB;have zC:=q.ql;rcases q.jc with rfl|zA
 .clear h q;go_enter func74,ntmps74;go_wp2_with fail;refine(Vb base B c d m O P L wd now given births ks ps ls 0 top at_ ro _ M D mm qs ms ms ds w HC.o b.o.pl b.o.ll b.o.fx b.o.gl b.o.ok.w8 b.o.b0 b.o.b1).mono ?_;rintro e o ⟨rfl,V,g,i⟩;have a:=Yx (Zn g (BX.of (V:=vB d m O P L) i));clear g i z A v x;go_wp2
  go_end0
  exact⟨rfl,a.o.2,_,rfl,_,.begin rfl,_,_,_,_,a.o.1.nil⟩
 .have l:ph≠0:=by rcases zA with rfl|rfl<;>decide
  have zG:(ph==0)=false:=by simpa using l
  cases qs with
  |cons s q0=>
   clear h q;go_enter func74,ntmps74;go_wp2_with fail;refine(Ob base B c d m O P L wd now given births ks ps ls ph top at_ ro _ M D mm s q0 ms ds w HC.o (fun k j=>⟨b.o.ok.sz k j,(b.o.B k j).1,(b.o.B k j).2⟩) b.o.gu (b.o.je s Yv) b.o.ok.w8 (by simp at zC;omega) b.o.ml).mono ?_;rintro e o ⟨rfl,Q',M',zF,zE,g,Z,i⟩;have a:=Yx (Zn g (Zn Z (BX.of (V:=vB d m O P L) i)));clear g i Z z A v x;go_wp2
   go_end0
   exact⟨rfl,a.o.2.2,_,rfl,_,.mark l s q0 zF zE rfl a.o.2.1,_,_,_,_,a.o.1.nil⟩
  |nil=>
   rcases zA with rfl|rfl
   .obtain⟨W,X⟩:∃W,W=w.setCell (Ze c 1) (Zg 2):=⟨_,rfl⟩;have zB:Hid (CM W base B c d m O P L wd now given births ks ps ls 2 top at_ ro (.slice H 0 I) M D mm [] ms ms ds):=by show CM _ _ _ _ _ _ _ _ _ _ _ _ _ _ _ _ _ _ _ _ _ _ _ _ _ _ _ _;rw[X];exact h.put 1 _ rfl h.q h.mr h.dd h.ap
    have bW:Below B w W:=by rw[X];exact(Below.refl _ _).setCell (by simpa using S) _
    have HW:=Yx X;clear h q X;go_enter func74,ntmps74;go_upto_region 7 with fail;rw[<-HW.o];clear HW;go_wp2_with fail;refine(Js base B c d m O P L wd now given births ks ps ls 2 top at_ ro (.slice H 0 I) M D mm [] ms ds W zB.o b.o.ok b.o.born b.o.pl b.o.ll b.o.gu Y).mono ?_;rintro e o ⟨i,f⟩;rcases f with⟨rfl,N,g⟩|⟨rfl,u,hu,f⟩
    .have HN:Hid (∀y∈ks,¬y.born<at_):=N;have p:=Yx g;have R:Hid (BX B (vB d m O P L) w o):=(BX.of bW).trans i;clear N g z A v x;go_wp2_with fail;refine(PG c d 2 top at_ ro (.slice H 0 I) M D mm o p.o.box b.o.r0 b.o.r1).mono ?_;rintro e w2 ⟨rfl,T,E,t,G,F⟩;have C:BX B (vB d m O P L) w w2:=R.o.trans (BX.of (t.below p.o.lo (by simp;exact S)));have a:=Yx (Zn (p.o.gj E t G F) C);clear C E t G F
     go_wp2
     go_end0
     exact⟨rfl,a.o.2,_,rfl,_,.rest l rfl (fun y hy=>Int.not_lt.2 (HN.o y hy)),_,_,_,_,a.o.1.nil⟩
    .have J:Hid (BX B (vB d m O P L) w o):=(BX.of bW).trans i;rcases f with⟨j,n⟩|⟨K,j,U,hO,D',n⟩
     .have a:=Yx (Zn n (Zn hu j));clear n hu j z A v x;go_wp2
      go_end0
      exact⟨rfl,J.o,_,rfl,_,.ah l rfl u a.o.2.1 a.o.2.2,_,_,_,_,a.o.1.nil⟩
     .have a:=Yx (Zn n (Zn hu (Zn K j)));clear n hu j K z A v x;go_wp2
      go_end0
      exact⟨rfl,J.o,_,hO,_,.drop l rfl u a.o.2.1 a.o.2.2.1 a.o.2.2.2,_,_,_,_,a.o.1⟩
   .clear h q;go_enter func74,ntmps74;go_wp2_with fail;refine(Js base B c d m O P L wd now given births ks ps ls 2 top at_ ro (.slice H 0 I) M D mm [] ms ds w HC.o b.o.ok b.o.born b.o.pl b.o.ll b.o.gu Y).mono ?_;rintro e o ⟨i,f⟩;rcases f with⟨rfl,N,g⟩|⟨rfl,u,hu,f⟩
    .have HN:Hid (∀y∈ks,¬y.born<at_):=N;have p:=Yx g;have R:Hid (BX B (vB d m O P L) w o):=i;clear N g z A v x;go_wp2_with fail;refine(PG c d 2 top at_ ro (.slice H 0 I) M D mm o p.o.box b.o.r0 b.o.r1).mono ?_;rintro e w2 ⟨rfl,T,E,t,G,F⟩;have C:BX B (vB d m O P L) w w2:=R.o.trans (BX.of (t.below p.o.lo (by simp;exact S)));have a:=Yx (Zn (p.o.gj E t G F) C);clear C E t G F;go_wp2
     go_end0
     exact⟨rfl,a.o.2,_,rfl,_,.rest l rfl (fun y hy=>Int.not_lt.2 (HN.o y hy)),_,_,_,_,a.o.1.nil⟩
    .have J:Hid (BX B (vB d m O P L) w o):=i;rcases f with⟨j,n⟩|⟨K,j,U,hO,D',n⟩
     .have a:=Yx (Zn n (Zn hu j));clear n hu j z A v x;go_wp2
      go_end0
      exact⟨rfl,J.o,_,rfl,_,.ah l rfl u a.o.2.1 a.o.2.2,_,_,_,_,a.o.1.nil⟩
     .have a:=Yx (Zn n (Zn hu (Zn K j)));clear n hu j K z A v x;go_wp2
      go_end0
      exact⟨rfl,J.o,_,hO,_,.drop l rfl u a.o.2.1 a.o.2.2.1 a.o.2.2.2,_,_,_,_,a.o.1⟩
end Go.Proofs.YtcankpdbabaacaaGreatDoor
