import Derived.Test.YtmjlkgpekcnacaaGreatX28
import Derived.Test.YtmjlkgpekcnacaaGreatX26
set_option maxRecDepth 100000
set_option maxHeartbeats 16000000
namespace Go.Proofs.YtmjlkgpekcnacaaGreat
open Go.ChangeShapes Go.WideShapes Go.ChangeAt Go.RowKit _root_.Go.Proofs.Tryz
variable{ks:List Kd}{ps:List Pd}{s:Zi}{k:Nat}{x:Pd}{w:Zh}
section
attribute [local go_sem↓] Go.wp_at_zero Go.wp_at_succ
open Classical in
noncomputable def holdP (ks:List Kd) (ps:List Pd) (s:Zi):Zl:=(ps.filter (fun p=>decide (Reach ks [p.sum] s))).map (·.name)
open Classical in
noncomputable def holdL (ks:List Kd) (ls:List Ld) (s:Zi):List Int:=(ls.filter (fun p=>decide (Reach ks [p.sum] s))).map (·.H)
theorem Sw(h:ps[k]?=some x)(b:Reach ks [x.sum] s):holdP ks (ps.take (k+1)) s=holdP ks (ps.take k) s++[x.name]:=by obtain⟨a,rfl⟩:=Zw h;unfold holdP;rw[Zu a,List.filter_append,List.map_append];simp[b]
theorem TW(h:ps[k]?=some x)(b:¬Reach ks [x.sum] s):holdP ks (ps.take (k+1)) s=holdP ks (ps.take k) s:=by obtain⟨a,rfl⟩:=Zw h;unfold holdP;rw[Zu a,List.filter_append,List.map_append];simp[b]
theorem Sx{ps:List Ld}{x:Ld}(h:ps[k]?=some x)(b:Reach ks [x.sum] s):holdL ks (ps.take (k+1)) s=holdL ks (ps.take k) s++[x.H]:=by obtain⟨a,rfl⟩:=Zw h;unfold holdL;rw[Zu a,List.filter_append,List.map_append];simp[b]
theorem TY{ps:List Ld}{x:Ld}(h:ps[k]?=some x)(b:¬Reach ks [x.sum] s):holdL ks (ps.take (k+1)) s=holdL ks (ps.take k) s:=by obtain⟨a,rfl⟩:=Zw h;unfold holdL;rw[Zu a,List.filter_append,List.map_append];simp[b]
theorem MQ(ks:List Kd)(ps:List Pd)(s:Zi):(holdP ks ps s).length<=ps.length:=by unfold holdP;rw[List.length_map];exact List.length_filter_le _ _
theorem MR(ks:List Kd)(ps:List Ld)(s:Zi):(holdL ks ps s).length<=ps.length:=by unfold holdL;rw[List.length_map];exact List.length_filter_le _ _
def JF(wd now given births:Int)(ks:List Kd)(ps:List Pd)(ls:List Ld)(s:Zi):Prop:=Bq wd now given births ks ps ls/\Aw ks s
open Classical in
noncomputable def holdPA (wd now given births:Int) (ks:List Kd) (ps:List Pd) (ls:List Ld) (s:Zi):Zl:=if JF wd now given births ks ps ls s then holdP ks ps s else []
open Classical in
noncomputable def holdLA (wd now given births:Int) (ks:List Kd) (ps:List Pd) (ls:List Ld) (s:Zi):List Int:=if JF wd now given births ks ps ls s then holdL ks ls s else []
theorem Sy:∀args w,(callFunc 41 args).run prog w=.ok (.enter 41 args) w:=fun _ _=>rfl
structure WS (w:Zh) (P:Zl) (L:List Int) (e:Ending) (w':Zh):Prop where
 ex:∃v1 v2 B2,e=.returned (.tuple #[v1,v2])/\w'.ownsRow w.heap.size 9 1 v1 P.length (P.map Value.string)/\w'.ownsRow B2 3 1 v2 L.length (L.map (Value.int .i64))/\(∀g,v1.ownBlock=some g->g<B2)/\w.heap.size<=B2/\Zz w w'
theorem On(wd now given births:Int)(a p l:Zk)(G Y X:Nat)(ks:List Kd)(ps:List Pd)(ls:List Ld)(c:Zi)(w:Zh)(zP:AZ w w.heap.size a p l ks ps ls)(hk:Fm ks)(Q:FP ps)(hl:Hx ls)(hf:Fo ks ps ls)(yY:∀k∈ks,(Lit.int .i64 k.born).wf=true):
 Calls prog 14 #[.agg (Yj wd now given births a ks.length G p ps.length Y l ls.length X),.string c] w fun e I=>WS w (holdPA wd now given births ks ps ls c) (holdLA wd now given births ks ps ls c) e I:=by
 obtain⟨i0,hi,xS,xT,xU⟩:=info_parts BW;obtain⟨i1,xH,xO,xP,xQ⟩:=info_parts Pn;have vA:= @run_makeMap prog;have xZ:∀(fn:Fn) (first cap:Array Value) (w:Zh),(Instr.makeFunc fn first cap).run prog w=.ok (.func fn first cap) w:=fun _ _ _ _=>rfl;obtain⟨W1,zN⟩:∃W1,W1=w.alloc (.cells (Yj wd now given births a ks.length G p ps.length Y l ls.length X) 27):=⟨_,rfl⟩
 have b1:Below w.heap.size w W1:=by rw[zN];exact Zy
 have z1:W1.heap.size=w.heap.size+1:=by rw[zN];simp
 have X1:Ah W1 w.heap.size wd now given births (.slice a ks.length G) (.slice p ps.length Y) (.slice l ls.length X):=by rw[zN];exact Ah.new w wd now given births _ _ _ 27
 have yN:=Yw zN;have HR:=Yw zP;have HM:=Yw (Zn hk (Zn Q (Zn hl (Zn hf yY))));have HX:=Yw X1;obtain⟨Z,x1,x2,x3,x4,x5,x6,x7⟩:=X1;have xX:=hf.k;clear zN zP hk Q hl hf yY;go_enter func14,ntmps14;go_upto_region 1 with fail;rw[<-yN.o];clear yN;go_wp2_with fail;refine(De wd now given births a p l G Y X ks ps ls W1 (AZ.M HR.o b1) HM.o.1 HM.o.2.1 HM.o.2.2.1 HM.o.2.2.2.1 HM.o.2.2.2.2).mono ?_
 rintro e wA ⟨b2,rfl,zX,K⟩;have XA:Ah wA w.heap.size wd now given births (.slice a ks.length G) (.slice p ps.length Y) (.slice l ls.length X):=Ah.af HX.o K Yv;have BA:Below w.heap.size w wA:=b1.trans (K.mono b1.size);have zA:=K.size;clear Z x1 x2 x3 x4 x5 x6 x7;cases b2 with
 |false=>
  have HN:Hid (¬JF wd now given births ks ps ls c):=fun h=>by have:=zX.2 h.1;cases this
  clear zX XA K HX;go_wp2
  go_ret2
  refine⟨_,_,w.heap.size,rfl,?_,?_,(fun g hg=>by cases hg),Zx,BA⟩
  .unfold holdPA;rw[if_neg HN.o];exact World.ownsRow_nil _ _ _ _
  .unfold holdLA;rw[if_neg HN.o];exact World.ownsRow_nil _ _ _ _
 |true=>
  have hP:=zX.1 rfl;have HP:=Yw hP;have A:=Yw (Ec hP);have zV:=hP.nth;have vE:=hP.np;have vD:=hP.nl;have h8:=A.o.w8;have xA:=A.o.upLen;have yP:=Yw XA;obtain⟨Z,x1,x2,x3,x4,x5,x6,x7⟩:=XA;clear zX hP K HX;go_wp2_with fail;refine(Ew wd now given births a G _ _ ks wA (AI.mono (AI.below HR.o.k BA) BA.size) Yv A.o.sum h8).mono ?_;rintro e wB ⟨mB,fB,rfl,xY,yT,yR,zT⟩
  obtain⟨ok,zW,zG⟩:=GF wd mB _ fB ks _ _ c wB yT yR A.o.sum;have HC:=Yw (zG wB (Below.refl _ _));have zB:=zT.size;have BB:Below w.heap.size w wB:=BA.trans (zT.mono BA.size);have yQ:Hid (Ah wB w.heap.size wd now given births (.slice a ks.length G) (.slice p ps.length Y) (.slice l ls.length X)):=Ah.af yP.o zT Yv;clear Z x1 x2 x3 x4 x5 x6 x7 yT yR zG zT;go_wp2_with fail
  refine Calls.mono HC.o ?_;rintro e d ⟨rfl,K⟩;have z2:=K.size;have B2:Below w.heap.size w d:=BB.trans (K.mono BB.size);have X2:Ah d w.heap.size wd now given births (.slice a ks.length G) (.slice p ps.length Y) (.slice l ls.length X):=Ah.af yQ.o K Yv;clear HC K yQ yP;cases ok with
  |false=>
   have HN:Hid (¬JF wd now given births ks ps ls c):=fun h=>by have:=zW.2 h.2;cases this
   clear zW X2;go_wp2
   go_ret2
   refine⟨_,_,w.heap.size,rfl,?_,?_,(fun g hg=>by cases hg),Zx,B2⟩
   .unfold holdPA;rw[if_neg HN.o];exact World.ownsRow_nil _ _ _ _
   .unfold holdLA;rw[if_neg HN.o];exact World.ownsRow_nil _ _ _ _
  |true=>
  have HT:Hid (Aw ks c):=zW.1 rfl;have xC:=A.o.sz HT.o;clear zW;obtain⟨f,zH⟩:∃f,f=(d.alloc (.map #[] 0)).alloc (.cells #[.map (some d.heap.size)] 50):=⟨_,rfl⟩;have b3:Below d.heap.size d f:=by rw[zH];exact(Zy).alloc Yu _
  have z3:f.heap.size=d.heap.size+2:=by rw[zH];simp
  have M3:Br f 52 d.heap.size 0 0 (fun _=>none):=by rw[zH];exact(Br.new d 52).af (Zy) Yu
  have c3:f.cell? (Zd (d.heap.size+1) 0)=some (.map (some d.heap.size)):=by rw[zH];simp[go_sem]
  have J3:Eu d.heap.size (d.heap.size+1) [] f:=⟨0,0,_,M3,Zx,MK.nil,c3,Yv⟩;have X3:=X2.af b3 Yv;have L:Below w.heap.size w f:=B2.trans (b3.mono B2.size);have yO:=Yw zH;have J:=Yw X3;have zZ:Hid (Eu d.heap.size (d.heap.size+1) [] f):=J3;have bD:Below w.heap.size w f.drew:=L.drew;have kD:Below f.heap.size f f.drew:=(Below.refl _ _).drew;have S:=Eb (X3.af kD Yv)
  obtain⟨y0,y1,y2,y3,y4,y5,y6,y7⟩:=X2;clear zH M3 c3 J3 X3;go_upto_region 4 with fail;rw[<-yO.o];clear yO y0 y1 y2 y3 y4 y5 y6 y7;go_cut [32] (fun v wx=>∃vs:Zl,Hid (Eu d.heap.size (d.heap.size+1) vs wx/\(∀s,s∈vs↔ReachE (EE ks) [c] s)/\Cr f.heap.size [d.heap.size] f wx))
  case first=>
   go_region_held3 (fun I=>I.cell? (Zd (w.heap.size) 0)=some (Zg wd)/\I.cell? (Zd (w.heap.size) 1)=some (Zg now)/\I.cell? (Zd (w.heap.size) 2)=some (Zg given)/\I.cell? (Zd (w.heap.size) 3)=some (Zg births)/\I.cell? (Zd (w.heap.size) 4)=some (.slice a ks.length G)/\I.cell? (Zd (w.heap.size) 5)=some (.slice p ps.length Y)/\I.cell? (Zd (w.heap.size) 6)=some (.slice l ls.length X))
    (first|exact S|exact yU|exact yV|exact yW|exact yF|exact zE|exact xF)
    (first
      |(go_at_call 30;refine(Ew wd now given births a G _ _ ks f.drew (AI.mono (AI.below HR.o.k bD) bD.size) Yv A.o.sum h8).mono ?_;rintro e w4 ⟨m,fm,rfl,xW,hM,hH,yX⟩;have k4:Below f.heap.size f w4:=kD.trans (yX.mono (Zx));have yU:=Eb (Ah.af J.o k4 Yv))
      |(go_at_call 21;refine(Fs c w4).mono ?_;rintro e j ⟨rfl,U⟩;have k5:Below f.heap.size f j:=k4.trans (U.mono k4.size);have yV:=Eb (Ah.af J.o k5 Yv);have k6:Below f.heap.size f (j.alloc (Cg c)):=k5.alloc k5.size _;have yW:=Eb (Ah.af J.o k6 Yv);have q6:Below w4.heap.size w4 (j.alloc (Cg c)):=U.alloc U.size _;have vH:=k5.size)
      |(go_at_call 40;refine(Kn wd now given births a G _ _ ks (j.alloc (Cg c)) (AI.mono (AI.below HR.o.k (L.trans (k6.mono L.size))) (L.trans (k6.mono L.size)).size) zV A.o.cu A.o.sum A.o.je h8).mono ?_;rintro e w7 ⟨lb,ln,fl,rfl,xB,hL,O⟩;have R:Below f.heap.size f w7:=k6.trans (O.mono k6.size);have yF:=Eb (Ah.af J.o R Yv);have q7:=q6.trans (O.mono q6.size);have yJ:f.heap.size<lb:=(by simp at xB;omega))
      |(go_at_call 40;refine(Kn wd now given births a G _ _ ks j (AI.mono (AI.below HR.o.k (L.trans (k5.mono L.size))) (L.trans (k5.mono L.size)).size) zV A.o.cu A.o.sum A.o.je h8).mono ?_;rintro e w7 ⟨lb,ln,fl,rfl,xB,hL,O⟩;have R:Below f.heap.size f w7:=k5.trans (O.mono k5.size);have yF:=Eb (Ah.af J.o R Yv);have q8:Below w4.heap.size w4 (w7.alloc (Cg c)):=(U.trans (O.mono U.size)).alloc (U.trans (O.mono U.size)).size _;have z:Below f.heap.size f (w7.alloc (Cg c)):=R.alloc R.size _;have xF:=Eb (Ah.af J.o z Yv);have yS:Lk (w7.alloc (Cg c)) (lb+1) lb ln wd (EE ks) [] fl:=hL.af (Zy);have yJ:f.heap.size<lb:=Yv)
      |(go_at_call 39;refine(IF 41 (Yy (d.heap.size+1)) Sy wd m ks.length fm ks f.drew f.drew.heap.size (Yz j.heap.size 1 1) [c] (lb+1) lb ln (EE ks) fl [d.heap.size] (Eu d.heap.size (d.heap.size+1)) w7 (hM.af q7 hM.lt) hH (R8.mono (R8.below (R8.one j c) (O.mono Yu)) (by have:=O.size;simp at this;omega)) hL (fun h=>by simp at h;have:=kD.size;omega) (fun h=>by simp at h;omega) (fun t ht g hg h=>by simp at h;have:=((hL.row t ht).W hg).1;omega) zV Yu xA h8 (fun s M=>by simp at M;rw[M];exact xC) (fun p Q=>A.o.sz (A.o.up Q)) (fun s M=>by simp at M;rw[M];exact HT.o) (fun p Q=>A.o.up Q) (MP zZ.o R) (Hd _ _ _ (by have:=R.size;omega) (by have:=R.size;omega)) (fun vs W u ra rc h1 h2 h3 h4=>IS _ _ _ vs W u ra rc (by have:=R.size;omega) (by have:=R.size;omega) h4 h1 h3)).mono ?_;rintro e o ⟨vs,⟨rv,rfl⟩,zR,xL,V,zS⟩;have V8:Cr f.heap.size [d.heap.size] f o:=JU R zS;have HF:=Yw (Zn zR (Zn V V8));have zE:=Eb (Ah.same J.o (V8.old w.heap.size Yv Yt)))
      |(go_at_call 39;refine(IF 41 (Yy (d.heap.size+1)) Sy wd m ks.length fm ks f.drew f.drew.heap.size (Yz w7.heap.size 1 1) [c] (lb+1) lb ln (EE ks) fl [d.heap.size] (Eu d.heap.size (d.heap.size+1)) (w7.alloc (Cg c)) (hM.af q8 hM.lt) hH (R8.mono (R8.one w7 c) Yu) yS (fun h=>by simp at h;have:=kD.size;omega) (fun h=>by simp at h;omega) (fun t ht g hg h=>by simp at h;have:=((yS.row t ht).W hg).1;omega) zV Yu xA h8 (fun s M=>by simp at M;rw[M];exact xC) (fun p Q=>A.o.sz (A.o.up Q)) (fun s M=>by simp at M;rw[M];exact HT.o) (fun p Q=>A.o.up Q) (MP zZ.o z) (Hd _ _ _ (by have:=z.size;omega) (by have:=z.size;omega)) (fun vs W u ra rc h1 h2 h3 h4=>IS _ _ _ vs W u ra rc (by have:=z.size;omega) (by have:=z.size;omega) h4 h1 h3)).mono ?_;rintro e o ⟨vs,⟨rv,rfl⟩,zR,xL,V,zS⟩;have V8:Cr f.heap.size [d.heap.size] f o:=JU z zS;have HF:=Yw (Zn zR (Zn V V8));have zE:=Eb (Ah.same J.o (V8.old w.heap.size Yv Yt))))
   all_goals
    clear hM hH hL yX U O k4 k5 k6 R q6 yU yV yW yF zE zR V zS V8;go_wp2_with fail;go_meet;exact⟨vs,HF⟩
  case rest=>
  revert wc;intro j hcut;obtain⟨vs,HV⟩:=hcut;clear S kD bD zZ;have T:=HV.o.2.2;have z5:=T.size;have X5:Ah j w.heap.size wd now given births (.slice a ks.length G) (.slice p ps.length Y) (.slice l ls.length X):=Ah.same J.o (T.old _ Yv Yt)
  have B5:Below w.heap.size w j:=⟨T.os.trans L.os,T.tape.trans L.tape,T.output.trans L.output,Zm L.size T.size,fun q hq=>(T.old q Yv Yt).trans (L.block q hq)⟩;obtain⟨mn,mc,mf,m1,m2,m3,m4,m5⟩:=HV.o.1;have yB:=Yw (Zn m1 (Zn m3 m4));have yZ:d.heap.size+1<j.heap.size:=Yv
  have xJ:d.heap.size<j.heap.size:=Yv
  have yM:Hid (∀x:Zi,Aw ks x->∃H:Int,0<=H/\(0<H↔Reach ks [x] c)/\∀o:Zh,Zz j o->(Instr.lookup 50 (.map (some d.heap.size)) (En x) false).run prog o=.ok (Zg H) o):=by
   intro x hx;obtain⟨H,hn,yI,vC,xK⟩:=yB.o.2.1.get (keyL x);refine⟨H,yI,?_,fun o xV=> ?_⟩
   .rw[xK,<-TV,<-HV.o.2.1];have vF:=A.o.sz hx;constructor
    .intro h;obtain⟨y,hy,e⟩:=List.mem_map.1 h;have xR:=(HV.o.2.1 y).1 hy;have vG:=A.o.sz (FE (ks:=ks) (fun s M=>by simp at M;rw[M];exact HT.o) (fun p Q=>A.o.up Q) xR);exact key_inj e Yv Yv▸hy
    .intro h;exact List.mem_map.2 ⟨x,h,rfl⟩
   .have zU:=(yB.o.1.map.af xV xJ).look keyed underlying50 (EO o) (CD x);rw[hn]at zU;exact zU
  have yE:=Yw X5;have yL:=Yw m4;obtain⟨Z,x1,x2,x3,x4,x5,x6,x7⟩:=X5;clear T m1 m2 m3 m4 m5 yB J HV;go_wp2
  go_loopw [7,36] (fun v i wr=>∃(k:Nat),k<=ps.length/\i=Zg k/\Hid (wr.ownsRow j.heap.size 9 1 v (holdP ks (ps.take k) c).length ((holdP ks (ps.take k) c).map Value.string))/\Zz j wr) (fun _ i _=>ps.length -(intOf i).toNat)
  case atStart=>exact⟨0,Nat.zero_le _,rfl,World.ownsRow_nil _ _ _ _,Below.refl _ _⟩
  case round=>
   rename Zh=>w6
   clear Z x1 x2 x3 x4 x5 x6 x7;obtain⟨k,xI,rfl,zK,r⟩:=hrel;have B:Below j.heap.size j w6:=r;have B6:Below w.heap.size w w6:=B5.trans (B.mono B5.size);have z6:=B.size;have xD:=r.size;by_cases hlt:k<ps.length
   .obtain⟨b,off,ha,hb,hc⟩:=(AO.below HR.o.p B6).at hlt;subst ha;have HG:Hid (ps[k]?=some ps[k]):=Zv hlt;obtain⟨c0,c1⟩:=hc k _ HG.o;have yD:Hid (Aw ks ps[k].sum):=A.o.du _ (List.getElem_mem hlt);have xG:b<w6.heap.size:=by have:=B6.size;omega
    clear hc;generalize ps[k]=x at *
    obtain⟨H,yI,zO,D⟩:=yM.o x.sum yD.o;have zI:=Yw zO;have yA:=Yw D;have xN:=MQ ks (ps.take k) c;have yK:(ps.take k).length<=600:=Yt
    obtain⟨n,F⟩:∃n,n=w6.alloc (.cells #[.string x.name,.string x.sum] 58):=⟨_,rfl⟩;have b7:Below w6.heap.size w6 n:=by rw[F];exact Zy
    have n7:n.cell? (Zd (w6.heap.size) 0)=some (.string x.name):=by rw[F];simp[go_sem]
    have s7:n.cell? (Zd (w6.heap.size) 1)=some (.string x.sum):=by rw[F];simp[go_sem]
    have z7:n.heap.size=w6.heap.size+1:=by rw[F];simp
    have P:Below j.heap.size j n:=B.trans (b7.mono B.size);have zF:Below j.heap.size j n:=r.trans (b7.mono r.size);have m7:n.cell? (Zd (d.heap.size+1) 0)=some (.map (some d.heap.size)):=(P.cell (p:=⟨d.heap.size+1,0,none⟩) yZ).trans yL.o;have zM:=Yw F;have S:n.drew.cell? (Zd (d.heap.size+1) 0)=some (.map (some d.heap.size))/\n.drew.cell? (Zd (w6.heap.size) 1)=some (.string x.sum):=⟨m7,s7⟩
    have O7:Hid (n.ownsRow j.heap.size 9 1 u7 (holdP ks (ps.take k) c).length ((holdP ks (ps.take k) c).map Value.string)):=World.ownsRow.kept zK.o (Ae none b7) (Classical.em _);obtain⟨Z,x1,x2,x3,x4,x5,x6,x7⟩:=Ah.af yE.o B Yv;clear F D zO;go_upto_region 9 with fail;rw[<-zM.o];clear zM c0 c1 Z x1 x2 x3 x4 x5 x6 x7;go_cut [45] (fun v wx=>v=.bool (decide (0<H))/\Hid (Zz n wx))
    case first=>
     go_region_held3 (fun I=>I.cell? (Zd (d.heap.size+1) 0)=some (.map (some d.heap.size))/\I.cell? (Zd (w6.heap.size) 1)=some (.string x.sum))
      (first|exact S|exact zE)
      (first
        |(go_at_call 21;refine(Ef x.sum n.drew).mono ?_;rintro e o ⟨rfl,yG⟩;have z:Below n.heap.size n o:=(Below.refl _ _).drew.trans (yG.mono (Zx));have zU:=yA.o o (P.trans (z.mono P.size));have zE:o.cell? (Zd (d.heap.size+1) 0)=some (.map (some d.heap.size))/\o.cell? (Zd (w6.heap.size) 1)=some (.string x.sum):=⟨(z.cell (p:=⟨d.heap.size+1,0,none⟩) Yt).trans m7,(z.cell (p:=⟨w6.heap.size,1,none⟩) Yt).trans s7⟩))
     all_goals
      go_wp2_with fail;go_meet;exact⟨rfl,z⟩
    case rest=>
    revert wc;intro o hcut;obtain⟨rfl,K8⟩:=hcut;have z:=K8.o;have n8:o.cell? (Zd (w6.heap.size) 0)=some (.string x.name):=(z.cell (p:=⟨w6.heap.size,0,none⟩) Yt).trans n7;have O8:o.ownsRow j.heap.size 9 1 u7 (holdP ks (ps.take k) c).length ((holdP ks (ps.take k) c).map Value.string):=World.ownsRow.kept O7.o (Ae none z) (Classical.em _)
    have B8:Below j.heap.size j o:=zF.trans (z.mono zF.size);have z8:=z.size;clear S O7 K8 P zF b7 s7 n7 m7;by_cases h0:0<H
    .have hd:decide (0<H)=true:=by simpa using h0
     have HE:=Yw (Sw (ks:=ks) (s:=c) HG.o (zI.o.1 h0));have zJ:=Yw O8;clear O8;go_wp2_with (first
      |(at_builtin;refine wpList_append_own _ rfl _ _ 29 rfl j.heap.size 9 i0 Zc 1 16 underlying29 hi xS xT xU rfl Yr _ (holdP ks (ps.take k) c).length ((holdP ks (ps.take k) c).map Value.string) rfl ?d0 ⟨o.heap.size,0,none⟩ 1 1 [.string x.name] rfl rfl ?d1 ?d2 ?d3 ?d4 ?d5 ?_)
      |go_in)
     case d0=>exact World.ownsRow.alloc zJ.o _
     case d1=>exact cell_one_new _ _ _
     case d2=>intro u hu;simp at hu;subst hu;rfl
     case d3=>unfold maxLen;omega
     case d4=>omega
     case d5=>simp;omega
     intro v' w9 E C _;have yH:Below j.heap.size j w9:=(B8.alloc B8.size _).grown C Yt (fun q hq=>(World.ownsRow.lt zJ.o q hq).1);have zC:Hid (w9.ownsRow j.heap.size 9 1 v' (holdP ks (ps.take (k+1)) c).length ((holdP ks (ps.take (k+1)) c).map Value.string)):=by rw[HE.o,List.length_append,List.map_append];exact E
     clear E C;go_wp2;exact⟨⟨k+1,Yv,Yo,zC,yH⟩,by simp[intOf];omega⟩
    .have hd:decide (0<H)=false:=by simpa using h0
     have HE:=Yw (TW (ks:=ks) (s:=c) HG.o (fun h=>h0 (zI.o.2 h)));have zC:Hid (o.ownsRow j.heap.size 9 1 u7 (holdP ks (ps.take (k+1)) c).length ((holdP ks (ps.take (k+1)) c).map Value.string)):=by rw[HE.o];exact O8
     clear O8;go_wp2;exact⟨⟨k+1,Yv,Yo,zC,B8⟩,by simp[intOf];omega⟩
   .rw[Zt Yv]at zK;have xE:=Yw zK;have xM:∀g,u7.ownBlock=some g->g<w6.heap.size:=fun g hg=>(World.ownsRow.lt zK.o g hg).2;obtain⟨Z,x1,x2,x3,x4,x5,x6,x7⟩:=Ah.af yE.o B Yv;clear zK r xD;go_wp2
    go_loopw [10,55] (fun v i wr=>∃(k:Nat),k<=ls.length/\i=Zg k/\Hid (wr.ownsRow w6.heap.size 3 1 v (holdL ks (ls.take k) c).length ((holdL ks (ls.take k) c).map (Value.int .i64)))/\Zz w6 wr) (fun _ i _=>ls.length -(intOf i).toNat)
    case atStart=>exact⟨0,Nat.zero_le _,rfl,World.ownsRow_nil _ _ _ _,Below.refl _ _⟩
    case round=>
     rename Zh=>wl
     clear Z x1 x2 x3 x4 x5 x6 x7;obtain⟨k,xI,rfl,yC,r⟩:=hrel;have N:Below j.heap.size j wl:=B.trans (r.mono B.size);have zY:Below w.heap.size w wl:=B5.trans (N.mono B5.size);have vI:=N.size;have xD:=r.size;by_cases hlt:k<ls.length
     .obtain⟨b,off,ha,hb,hc⟩:=(AR.below HR.o.l zY).at hlt;subst ha;have HG:Hid (ls[k]?=some ls[k]):=Zv hlt;obtain⟨c0,c1,c2⟩:=hc k _ HG.o;have yD:Hid (Aw ks ls[k].sum):=A.o.br _ (List.getElem_mem hlt);have xG:b<wl.heap.size:=by have:=zY.size;omega
      clear hc;generalize ls[k]=x at *
      obtain⟨H,yI,zO,D⟩:=yM.o x.sum yD.o;have zI:=Yw zO;have yA:=Yw D;have xN:=MR ks (ls.take k) c;have yK:(ls.take k).length<=600:=Yt
      obtain⟨n,F⟩:∃n,n=wl.alloc (.cells #[Zg x.H,.string x.sum,Zg x.V] 61):=⟨_,rfl⟩;have b7:Below wl.heap.size wl n:=by rw[F];exact Zy
      have n7:n.cell? (Zd (wl.heap.size) 0)=some (Zg x.H):=by rw[F];simp[go_sem]
      have s7:n.cell? (Zd (wl.heap.size) 1)=some (.string x.sum):=by rw[F];simp[go_sem]
      have z7:n.heap.size=wl.heap.size+1:=by rw[F];simp
      have P:Below j.heap.size j n:=N.trans (b7.mono N.size);have zF:Below w6.heap.size w6 n:=r.trans (b7.mono r.size);have m7:n.cell? (Zd (d.heap.size+1) 0)=some (.map (some d.heap.size)):=(P.cell (p:=⟨d.heap.size+1,0,none⟩) yZ).trans yL.o;have zM:=Yw F;have S:n.drew.cell? (Zd (d.heap.size+1) 0)=some (.map (some d.heap.size))/\n.drew.cell? (Zd (wl.heap.size) 1)=some (.string x.sum):=⟨m7,s7⟩
      have O7:Hid (n.ownsRow w6.heap.size 3 1 u10 (holdL ks (ls.take k) c).length ((holdL ks (ls.take k) c).map (Value.int .i64))):=World.ownsRow.kept yC.o (Ae none b7) (Classical.em _);obtain⟨Z,x1,x2,x3,x4,x5,x6,x7⟩:=Ah.af yE.o N Yv;clear F D zO;go_upto_region 16 with fail;rw[<-zM.o];clear zM c0 c1 c2 Z x1 x2 x3 x4 x5 x6 x7;go_cut [64] (fun v wx=>v=.bool (decide (0<H))/\Hid (Zz n wx))
      case first=>
       go_region_held3 (fun I=>I.cell? (Zd (d.heap.size+1) 0)=some (.map (some d.heap.size))/\I.cell? (Zd (wl.heap.size) 1)=some (.string x.sum))
        (first|exact S|exact zE)
        (first
          |(go_at_call 21;refine(Ef x.sum n.drew).mono ?_;rintro e o ⟨rfl,yG⟩;have z:Below n.heap.size n o:=(Below.refl _ _).drew.trans (yG.mono (Zx));have zU:=yA.o o (P.trans (z.mono P.size));have zE:o.cell? (Zd (d.heap.size+1) 0)=some (.map (some d.heap.size))/\o.cell? (Zd (wl.heap.size) 1)=some (.string x.sum):=⟨(z.cell (p:=⟨d.heap.size+1,0,none⟩) Yt).trans m7,(z.cell (p:=⟨wl.heap.size,1,none⟩) Yt).trans s7⟩))
       all_goals
        go_wp2_with fail;go_meet;exact⟨rfl,z⟩
      case rest=>
      revert wc;intro o hcut;obtain⟨rfl,K8⟩:=hcut;have z:=K8.o;have n8:o.cell? (Zd (wl.heap.size) 0)=some (Zg x.H):=(z.cell (p:=⟨wl.heap.size,0,none⟩) Yt).trans n7;have O8:o.ownsRow w6.heap.size 3 1 u10 (holdL ks (ls.take k) c).length ((holdL ks (ls.take k) c).map (Value.int .i64)):=World.ownsRow.kept O7.o (Ae none z) (Classical.em _)
      have B8:Below w6.heap.size w6 o:=zF.trans (z.mono zF.size);have z8:=z.size;clear S O7 K8 P zF b7 s7 n7 m7;by_cases h0:0<H
      .have hd:decide (0<H)=true:=by simpa using h0
       have HE:=Yw (Sx (ks:=ks) (s:=c) HG.o (zI.o.1 h0));have zJ:=Yw O8;clear O8;go_wp2_with (first
        |(at_builtin;refine wpList_append_own _ rfl _ _ 40 rfl w6.heap.size 3 i1 Ze 1 8 underlying40 xH xO xP xQ rfl Yr _ (holdL ks (ls.take k) c).length ((holdL ks (ls.take k) c).map (Value.int .i64)) rfl ?d0 ⟨o.heap.size,0,none⟩ 1 1 [Zg x.H] rfl rfl ?d1 ?d2 ?d3 ?d4 ?d5 ?_)
        |go_in)
       case d0=>exact World.ownsRow.alloc zJ.o _
       case d1=>exact cell_one_new _ _ _
       case d2=>intro u hu;simp at hu;subst hu;rfl
       case d3=>unfold maxLen;omega
       case d4=>omega
       case d5=>simp;omega
       intro v' w9 E C _;have yH:Below w6.heap.size w6 w9:=(B8.alloc B8.size _).grown C Yt (fun q hq=>(World.ownsRow.lt zJ.o q hq).1);have zC:Hid (w9.ownsRow w6.heap.size 3 1 v' (holdL ks (ls.take (k+1)) c).length ((holdL ks (ls.take (k+1)) c).map (Value.int .i64))):=by rw[HE.o,List.length_append,List.map_append];exact E
       clear E C;go_wp2;exact⟨⟨k+1,Yv,Yo,zC,yH⟩,by simp[intOf];omega⟩
      .have hd:decide (0<H)=false:=by simpa using h0
       have HE:=Yw (TY (ks:=ks) (s:=c) HG.o (fun h=>h0 (zI.o.2 h)));have zC:Hid (o.ownsRow w6.heap.size 3 1 u10 (holdL ks (ls.take (k+1)) c).length ((holdL ks (ls.take (k+1)) c).map (Value.int .i64))):=by rw[HE.o];exact O8
       clear O8;go_wp2;exact⟨⟨k+1,Yv,Yo,zC,B8⟩,by simp[intOf];omega⟩
     .rw[Zt Yv]at yC;go_wp2
      go_ret2
      refine⟨_,_,w6.heap.size,rfl,?_,?_,xM,Yv,zY⟩
      .unfold holdPA;rw[if_pos ⟨HP.o,HT.o⟩];exact World.ownsRow.mono (World.ownsRow.kept xE.o (Ae none r) (Classical.em _)) Yv
      .unfold holdLA;rw[if_pos ⟨HP.o,HT.o⟩];exact yC.o
end
section
variable {wd now given births:Int} {ks:List Kd} {ps:List Pd} {ls:List Ld}
theorem JG(h:Bq wd now given births ks ps ls):s∈liveA wd now given births ks ps ls↔Reach ks (Bl ps ls) s:=by unfold liveA;rw[if_pos h];unfold liveL;rw[GU];exact JE (Ec h).live
open Classical in
theorem QS(h:Bq wd now given births ks ps ls){k:Kd}(a:k∈ks):k.sum∈wasteA wd now given births ks ps ls↔¬Reach ks (Bl ps ls) k.sum:=by
 unfold wasteA;rw[if_pos h];unfold wasteK;rw[List.mem_map];constructor
 .rintro⟨u,c,e⟩;rw[<-e];exact of_decide_eq_true (List.mem_filter.1 c).2
 .exact fun b=>⟨k,List.mem_filter.2 ⟨a,decide_eq_true b⟩,rfl⟩
theorem MS(p:Kd->Bool):∀(ks:List Kd),(ks.filter p).length+(ks.filter (fun k=> !p k)).length=ks.length
 |[]=>rfl
 |k::ks=>by have:=MS p ks;cases h:p k<;>simp[h]<;>omega
open Classical in
theorem VT(h:Bq wd now given births ks ps ls):(liveA wd now given births ks ps ls).length+(wasteA wd now given births ks ps ls).length=ks.length:=by
 have f:=h.cf.nd;have g:(liveA wd now given births ks ps ls).length=(ks.filter (fun k=>decide (Reach ks (Bl ps ls) k.sum))).length:=by
  have j:((ks.filter (fun k=>decide (Reach ks (Bl ps ls) k.sum))).map (·.sum)).length=(ks.filter (fun k=>decide (Reach ks (Bl ps ls) k.sum))).length:=List.length_map _;rw[<-j];refine Nat.le_antisymm (Fx ?_ (fun s b=> ?_)) (Fx ?_ (fun s b=> ?_))
  .unfold liveA;rw[if_pos h];unfold liveL;exact(GV _).imp (fun a e=>by rw[e,BU]at a;cases a)
  .have d:=(JG h).1 b;obtain⟨u,c,rfl⟩:=(Ec h).live s d;exact List.mem_map.2 ⟨u,List.mem_filter.2 ⟨c,decide_eq_true d⟩,rfl⟩
  .exact f.sublist (List.Sublist.map _ List.filter_sublist)
  .obtain⟨u,c,rfl⟩:=List.mem_map.1 b;exact(JG h).2 (of_decide_eq_true (List.mem_filter.1 c).2)
 have i:(wasteA wd now given births ks ps ls).length=(ks.filter (fun k=> !decide (Reach ks (Bl ps ls) k.sum))).length:=by unfold wasteA;rw[if_pos h];unfold wasteK;rw[List.length_map];congr 1;refine List.filter_congr (fun k _=> ?_);simp
 rw[g,i];exact MS _ _
theorem Sz{a:Zl}(h:Reach ks a s):∃x∈a,Reach ks [x] s:=by
 induction h with
 |here hx=>exact⟨_,hx,.here Yu⟩
 |step _ hu he hx ih=>obtain⟨x,b,c⟩:=ih;exact⟨x,b,.step c hu he hx⟩
theorem Lz{b:Zl}{x:Zi}(a:x∈b)(h:Reach ks [x] s):Reach ks b s:=by
 induction h with
 |here h=>simp at h;exact .here (h▸a)
 |step _ hu he a ih=>exact .step ih hu he a
open Classical in
theorem TZ(h:Bq wd now given births ks ps ls){k:Kd}(f:k∈ks):0<(holdPA wd now given births ks ps ls k.sum).length+(holdLA wd now given births ks ps ls k.sum).length↔Reach ks (Bl ps ls) k.sum:=by
 have e:JF wd now given births ks ps ls k.sum:=⟨h,k,f,rfl⟩;unfold holdPA holdLA;rw[if_pos e,if_pos e];unfold holdP holdL;rw[List.length_map,List.length_map];constructor
 .intro d;by_cases a:0<(ps.filter (fun p=>decide (Reach ks [p.sum] k.sum))).length
  .obtain⟨p,a⟩:=List.exists_mem_of_length_pos a;have:=List.mem_filter.1 a;exact Lz (List.mem_append.2 (.inl (List.mem_map.2 ⟨p,this.1,rfl⟩))) (of_decide_eq_true this.2)
  .have d:0<(ls.filter (fun p=>decide (Reach ks [p.sum] k.sum))).length:=Yv
   obtain⟨p,a⟩:=List.exists_mem_of_length_pos d;have:=List.mem_filter.1 a;exact Lz (List.mem_append.2 (.inr (List.mem_map.2 ⟨p,this.1,rfl⟩))) (of_decide_eq_true this.2)
 .intro g;obtain⟨x,b,c⟩:=Sz g;rcases List.mem_append.1 b with b|b
  .obtain⟨p,a,rfl⟩:=List.mem_map.1 b;exact Zr (List.length_pos_of_mem (List.mem_filter.2 ⟨a,decide_eq_true c⟩)) (Nat.le_add_right _ _)
  .obtain⟨p,a,rfl⟩:=List.mem_map.1 b;exact Zr (List.length_pos_of_mem (List.mem_filter.2 ⟨a,decide_eq_true c⟩)) (Nat.le_add_left _ _)
end
theorem SA(a b:Zk)(c d:Nat)(f g:Zl)(w:Zh)(q:Ab w w.heap.size a f)(o:Ab w w.heap.size b g)(Y:f.length<=1048576)(R:g.length<=1048576):
 Calls prog 10 #[.slice a f.length c,.slice b g.length d] w fun e P=>Aq (f=g) w P e:=by
 by_cases hlen:f.length=g.length
 .have E:((f.length:Int) !=(g.length:Int))=false:=Yt
  have n:=Yw hlen;have L:Hid (∀X,Zz w X->Ab X w.heap.size a f/\Ab X w.heap.size b g):=fun X z=>⟨q.below z,o.below z⟩;clear hlen q o;go_enter func10,ntmps10;go_wp2
  go_loopw [5] (fun i wr=>∃k:Nat,k<=f.length/\i=Zg k/\Hid (f.take k=g.take k/\Zz w wr)) (fun i _=>f.length -(intOf i).toNat)
  case atStart=>exact⟨0,Nat.zero_le _,rfl,⟨Yu,Below.refl _ _⟩⟩
  case round=>
   obtain⟨k,W,rfl,m⟩:=hrel;obtain⟨q,o⟩:=L.o wr m.o.2;by_cases hlt:k<f.length
   .have j:k<g.length:=by have:=n.o;omega
    obtain⟨rb,ro,N,H,t⟩:=q.at hlt;obtain⟨Z,qo,O,G,s⟩:=o.at j;subst N O;have U:=t k _ (Zv hlt);have V:=s k _ (Zv j);have T:=Zr H m.o.2.size;have S:=Zr G m.o.2.size;have C:=Yw (Zu hlt);have D:=Yw (Zu j);have HN:Hid (∀x y,f[k]?=some x->g[k]?=some y->x≠y->f≠g):=fun x y M v F e=>by subst e;rw[M]at v;exact F (Option.some.inj v)
    have A:=Yw (Zv hlt);have B:=Yw (Zv j);have Q:(k:Int)<g.length:=Yv
    clear t s q o;generalize f[k]=x at *
    generalize g[k]=y at *
    have r:=Yw m.o.2;by_cases hxy:x=y
    .subst hxy;have u:(x.toList !=x.toList)=false:=Yu
     go_wp2
     go_region
     all_goals go_wp2
     all_goals exact⟨⟨k+1,Yv,Yo,⟨by rw[C.o,D.o,m.o.1],r.o.drew⟩⟩,by simp[intOf];omega⟩
    .have u:=By hxy;have J:(x.toList !=y.toList)=true:=by simp[bne,u]
     go_wp2
     go_region
     all_goals go_wp2
     all_goals go_ret
     all_goals exact Aq.no (fun h=>HN.o x y A.o B.o hxy h) r.o.drew
   .obtain rfl:k=f.length:=Yv
    have l:=m.o.1;have r:=Yw m.o.2;rw[Zt (Zx),Zt (by have:=n.o;omega)]at l;have K:=Yw l;clear q o l;go_wp2;go_ret;exact Aq.yes K.o r.o
 .have E:((f.length:Int)==(g.length:Int))=false:=Yt
  have I:((f.length:Int) !=(g.length:Int))=true:=Yt
  go_enter func10,ntmps10;go_wp2;go_ret;exact Aq.no (fun h=>hlen (by rw[h])) (Below.refl _ _)
theorem Pv(a:Zk)(c:Nat)(b:Zl)(x:Zi)(w:Zh)(l:Ab w w.heap.size a b)(B:b.length<=1048576)(r:x∈b):
 Calls prog 13 #[.slice a b.length c,.string x] w fun e s=>e=.returned (.bool true)/\Zz w s:=by
 obtain⟨i,g⟩:=List.getElem?_of_mem r;have o:Hid (Ab w w.heap.size a b):=l;clear l;go_enter func13,ntmps13;go_wp2
 go_loopw [5] (fun j wr=>∃k:Nat,k<=i/\j=Zg k/\wr=w) (fun j _=>b.length -(intOf j).toNat)
 case atStart=>exact⟨0,Nat.zero_le _,rfl,rfl⟩
 case round=>
  obtain⟨k,A,rfl,rfl⟩:=hrel;have t:=(Zw g).1;have d:k<b.length:=Yv
  obtain⟨C,D,q,v,f⟩:=o.o.at d;subst q;have z:=f k _ (Zv d);have n:Hid (b[k]?=some b[k]):=Zv d;clear f;generalize b[k]=y at *
  by_cases hxy:y=x
  .subst hxy;have m:(y.toList==y.toList)=true:=Yu
   go_wp2;go_ret;exact⟨rfl,Below.refl _ _⟩
  .have m:=By hxy;have u:k≠i:=fun e=>by have h:=n.o;rw[e,g]at h;exact hxy (Option.some.inj h).symm
   go_wp2;exact⟨⟨k+1,Yv,Yo,trivial⟩,by simp[intOf];omega⟩
def Pw(w:Zh)(a:Zk)(n:Nat):Prop:=n=0\/∃q off,a=some ⟨q,off,none⟩/\q<w.heap.size/\∀j,j<n->∃x:Int,w.cell? (Zd q (off+j))=some (.int .u8 x)/\0<=x/\x<256
theorem Pw.below{d:Zh}{a:Zk}{n:Nat}(h:Pw w a n)(b:Zz w d):Pw d a n:=by
 rcases h with h|⟨q,off,g,c,k⟩
 .exact .inl h
 .refine .inr ⟨q,off,g,Zr c b.size,fun j i=> ?_⟩;obtain⟨x,e,f⟩:=k j i;exact⟨x,(b.cell (p:=⟨q,off+j,none⟩) c).trans e,f⟩
theorem OV{X Y:Zh}{b:Nat}(h:Zz w X)(a:X.grownBy Y (some b))(d:w.heap.size<=b):Below w.heap.size w Y:=
 h.trans ⟨a.os,a.tape,a.output,a.size,fun i c=>a.block i (Zr c h.size) (fun e=>by injection e with e;omega)⟩
theorem Oo(a:Zk)(n c:Nat)(w:Zh)(T:n<=maxLen)(L:Pw w a n)(S:n<=c):
 Calls prog 4 #[.slice a n c] w fun e M=>∃D,e=.returned (.agg D.toArray)/\Uo M D/\Zz w M:=by
 obtain⟨W,E⟩:∃W,W=w.alloc (.cells #[.int .i64 0,.int .i64 0,.int .i64 0,.int .i64 0,.slice none 0 0,.slice none 0 0,.slice none 0 0] 27):=⟨_,rfl⟩;obtain⟨C,O,c7⟩:=Bc (l:=z7) E;have G:Hid _:=PY a n c W T (L.below C) S;have h:Hid (Aa W w.heap.size z7/\Zz w W/\W.heap.size=w.heap.size+1):=⟨c7,C,O⟩;have H:Hid _:=E;clear E C O c7 L;go_enter func4,ntmps4;go_upto_region 1 with fail;rw[<-H.o];clear H
 go_wp2_with fail;refine Calls.mono G.o ?_;clear G;rintro e F ⟨U,Q,rfl,k,i⟩;obtain⟨I,m⟩:∃x,x=W.heap.size:=⟨_,rfl⟩;rw[<-m]at k |-;have zB:w.heap.size<I:=by have:=h.o.2.2;omega
 have g:Hid (Zz w F/\Aa F w.heap.size z7):=⟨h.o.2.1.trans (i.mono h.o.2.1.size),Aa.below (v:=.int .i64 0) h.o.1 i⟩;clear i m;go_wp2_with fail;refine(Vf I a U Q 0 F k (by omega) (by omega)).mono ?_;rintro e N ⟨⟨D,rfl,j⟩,CS⟩;obtain⟨B,f,d,b,z,A,t,u,q,r,o,y,s,R,_,_⟩:=(j [] N (by simp) (Tn.of (Below.refl _ _))).ex;subst R;have zA:=g.o.2.lt
 have P:Hid (∀Y,Tn [w.heap.size] N Y->Uo Y [.int .i64 B,.int .i64 f,.int .i64 d,.int .i64 b,.slice z o.length A,.slice t y.length u,.slice q s.length r]/\Zz w Y):=fun Y K=>by have J:=OV g.o.1 CS.gr (by omega);exact⟨j [w.heap.size] Y (by simp;omega) K,J.trans (K.below J.size (by simp))⟩
 obtain⟨⟨V,f0⟩,⟨X,f1⟩,⟨Z,f2⟩,⟨y3,f3⟩,⟨y4,f4⟩,⟨y5,f5⟩,y6,f6⟩:=Jb (g.o.2.aw CS.gr (by omega));clear j CS g h k;go_wp2;refine bodyPost_ret (v:=.agg #[.int .i64 B,.int .i64 f,.int .i64 d,.int .i64 b,.slice z o.length A,.slice t y.length u,.slice q s.length r]) (by simp[results,results4,go_sem,V,X,Z,y3,y4,y5,y6]) rfl ⟨_,rfl,P.o _ ?_⟩
 repeat refine Tn.trans ?_ (Tn.set _ _ _ _ (by simp))
 exact Tn.of (Below.refl _ _)
theorem VU(a:Zk)(c:Nat)(b:Zl)(x:Zi)(w:Zh)(g:Ab w w.heap.size a b)(s:b.length<=1048576)(h:x∉b):
 Calls prog 13 #[.slice a b.length c,.string x] w fun e m=>e=.returned (.bool false)/\Zz w m:=by
 have f:Hid (Ab w w.heap.size a b/\x∉b):=⟨g,h⟩;clear g h;go_enter func13,ntmps13;go_wp2
 go_loopw [5] (fun j wr=>∃k:Nat,k<=b.length/\j=Zg k/\wr=w) (fun j _=>b.length -(intOf j).toNat)
 case atStart=>exact⟨0,Nat.zero_le _,rfl,rfl⟩
 case round=>
  obtain⟨k,r,rfl,rfl⟩:=hrel;by_cases hlt:k<b.length
  .obtain⟨t,u,l,n,d⟩:=f.o.1.at hlt;subst l;have q:=d k _ (Zv hlt);have i:b[k]≠x:=fun e=>f.o.2 (e▸List.getElem_mem hlt);clear d;generalize b[k]=y at *
   have o:=By i;go_wp2;exact⟨⟨k+1,Yv,Yo,trivial⟩,by simp[intOf];omega⟩
  .go_wp2;go_ret;exact⟨rfl,Below.refl _ _⟩
theorem Px(a:Zk)(c:Nat)(b:Zl)(x:Zi)(w:Zh)(i:Ab w w.heap.size a b)(g:b.length<=1048576):
 Calls prog 13 #[.slice a b.length c,.string x] w fun e f=>Aq (x∈b) w f e:=by
 by_cases h:x∈b
 .refine(Pv a c b x w i g h).mono ?_;rintro e f ⟨rfl,d⟩;exact Aq.yes h d
 .refine(VU a c b x w i g h).mono ?_;rintro e f ⟨rfl,d⟩;exact Aq.no h d
theorem Vh{a:Bool}{R:Prop}{p l:Nat}(d:a=true↔R)(e:0<p+l↔R):a=decide (0<(p:Int)+(l:Int)):=by
 by_cases h:0<p+l
 .have b:a=true:=d.2 (e.1 h);have c:decide (0<(p:Int)+(l:Int))=true:=decide_eq_true Yv;rw[b,c]
 .have b:a=false:=by
   cases hc:a with
   |false=>rfl
   |true=>exact absurd (e.2 (d.1 hc)) h
  have c:decide (0<(p:Int)+(l:Int))=false:=decide_eq_false Yv;rw[b,c]
theorem WT{x:Int}(a:0<=x)(b:x<=2000000000):wrap64 x=x:=by unfold wrap64;omega
theorem Oq(a:Zk)(n c:Nat)(w:Zh)(hn:n<=maxLen)(hb:Pw w a n)(hc:n<=c):
 Calls prog 3 #[.slice a n c] w fun e w'=>e=.returned (.bool true)/\Zz w w':=by
 by_cases h20:(1048576:Int)<n
 .clear hb hc hn;go_enter func3,ntmps3;go_wp2;go_ret;exact⟨rfl,Below.refl _ _⟩
 have HD:Hid _:=Oo a n c w hn hb hc;clear hb hc hn;go_enter func3,ntmps3;go_wp2_with fail;refine Calls.mono HD.o ?_;clear HD;rintro e w1 ⟨cs,rfl,hS,yD⟩;obtain⟨wd,now,given,births,M,Q,J,P,I,O,ks,ps,ls,e7,zP,hw⟩:=hS.ex;subst e7;obtain⟨W,hW⟩:∃W,W=w1.alloc (.cells #[.int .i64 wd,.int .i64 now,.int .i64 given,.int .i64 births,.slice M ks.length Q,.slice J ps.length P,.slice I ls.length O] 27):=⟨_,rfl⟩
 obtain⟨bW,zW,cW⟩:=Bc (l:=[.int .i64 wd,.int .i64 now,.int .i64 given,.int .i64 births,.slice M ks.length Q,.slice J ps.length P,.slice I ls.length O]) hW;have HB:Hid (∀X,Zz W X->Zz w X):=fun X y=>yD.trans ((bW.trans (y.mono bW.size)).mono yD.size)
 have F:Hid (∀X,Zz W X->Aa X w1.heap.size [.int .i64 wd,.int .i64 now,.int .i64 given,.int .i64 births,.slice M ks.length Q,.slice J ps.length P,.slice I ls.length O]/\AZ X X.heap.size M J I ks ps ls):=fun X y=>⟨Aa.below cW y,(zP.M bW).M y⟩;obtain⟨xK,xO,xL,xS,xI⟩:=hw.km;have b:Hid (Fm ks/\FP ps/\Hx ls/\Fo ks ps ls/\∀k∈ks,(Lit.int .i64 k.born).wf=true):=⟨xK,xO,xL,xS,xI⟩;have HW:Hid _:=hW
 clear hW bW zW cW zP hw hS xK xO xL xS xI yD;go_upto_region 4 with fail;rw[<-HW.o];clear HW;generalize w1.heap.size=q at *
 have R:Hid _:=Ss wd now given births M J I Q P O ks ps ls W (F.o W (Below.refl _ _)).2 b.o.1 b.o.2.1 b.o.2.2.1 b.o.2.2.2.1 b.o.2.2.2.2;obtain⟨t,z,A,B,C,D,E⟩:=Aa.c7 (F.o W (Below.refl _ _)).1 0 1 2 3 4 5 6;go_wp2_with fail;refine Calls.mono R.o ?_;clear R t z A B C D E;rintro e w2 ⟨v,rfl,yG,zF⟩;have Z:=Su wd now given births ks ps ls b.o.2.2.2.1;obtain⟨zA,yJ,rfl⟩:=Ax yG;have u:Hid (Zz W w2):=zF
 have yR:Hid (∀X,Zz w2 X->Ab X X.heap.size zA (liveA wd now given births ks ps ls)):=fun X y=>Ab.mono (Ab.below (Gz yG) y) y.size;clear yG zF;have yW:Hid _:=QR wd now given births M J I Q P O ks ps ls w2 (F.o w2 u.o).2 b.o.1 b.o.2.1 b.o.2.2.1 b.o.2.2.2.1 b.o.2.2.2.2;obtain⟨t,z,A,B,C,D,E⟩:=Aa.c7 (F.o w2 u.o).1 0 1 2 3 4 5 6;go_wp2_with fail;refine Calls.mono yW.o ?_;clear yW t z A B C D E
 rintro e N ⟨v,rfl,yH,V⟩;obtain⟨yK,vI,rfl⟩:=Ax yH;have g:Hid (Zz W N/\Zz w2 N):=⟨u.o.trans (V.mono u.o.size),V⟩;have zU:(wasteA wd now given births ks ps ls).length<=1048576:=by
  unfold wasteA;split
  .exact Zm (Ly _ _ _) b.o.2.2.2.1.k
  .simp
 have zC:Hid (∀X,Zz N X->Ab X X.heap.size zA (liveA wd now given births ks ps ls)/\Ab X X.heap.size yK (wasteA wd now given births ks ps ls)):=fun X y=>⟨yR.o X (g.o.2.trans (y.mono g.o.2.size)),Ab.mono (Ab.below (Gz yH) y) y.size⟩;clear yH V yR;have HV:Hid _:=Fg wd now given births M J I Q P O ks ps ls N (F.o N g.o.1).2 b.o.1 b.o.2.1 b.o.2.2.2.1
 obtain⟨t,z,A,B,C,D,E⟩:=Aa.c7 (F.o N g.o.1).1 0 1 2 3 4 5 6;go_wp2_with fail;refine Calls.mono HV.o ?_;clear HV t z A B C D E;rintro e w4 ⟨bv,rfl,zT,Y⟩;have d:Hid (Zz W w4/\Zz N w4):=⟨g.o.1.trans (Y.mono g.o.1.size),Y⟩;clear Y;cases bv with
 |false=>
  have H:¬Bq wd now given births ks ps ls:=fun h=>by have:=zT.2 h;cases this
  have e1:liveA wd now given births ks ps ls=[]:=by unfold liveA;rw[if_neg H]
  have e2:wasteA wd now given births ks ps ls=[]:=by unfold wasteA;rw[if_neg H]
  have e3:roomOf wd now given births ks ps ls=0:=by unfold roomOf;rw[if_neg H]
  have HP:Hid _:=H;rw[e1,e2];have T:Hid _:=MF wd now given births M J I Q P O ks ps ls w4 (F.o w4 d.o.1).2 b.o.1 b.o.2.1 b.o.2.2.1 b.o.2.2.2.1 b.o.2.2.2.2;rw[e3]at T;obtain⟨t,z,A,B,C,D,E⟩:=Aa.c7 (F.o w4 d.o.1).1 0 1 2 3 4 5 6;clear H e1 e2 e3 zT Z zU zC u g;go_wp2_with fail;refine Calls.mono T.o ?_;clear T t z A B C D E;rintro e U ⟨rfl,L⟩;have m:Hid (Zz W U):=d.o.1.trans (L.mono d.o.1.size)
  have yQ:Hid _:=De wd now given births M J I Q P O ks ps ls U (F.o U m.o).2 b.o.1 b.o.2.1 b.o.2.2.1 b.o.2.2.2.1 b.o.2.2.2.2;obtain⟨t,z,A,B,C,D,E⟩:=Aa.c7 (F.o U m.o).1 0 1 2 3 4 5 6;clear L;go_wp2_with fail;refine Calls.mono yQ.o ?_;clear yQ t z A B C D E;rintro e K ⟨b6,rfl,zI,zG⟩;have yL:b6=false:=by
   cases b6 with
   |false=>rfl
   |true=>exact absurd (zI.1 rfl) HP.o
  subst yL;clear zI;go_wp2;go_ret;exact⟨rfl,HB.o K (m.o.trans (zG.mono m.o.size))⟩
 |true=>
  have H:Bq wd now given births ks ps ls:=zT.1 rfl;have HP:Hid (Bq wd now given births ks ps ls):=H;have xM:=VT H;have yV:Hid _:=St wd now given births M J I Q P O ks ps ls w4 (F.o w4 d.o.1).2 b.o.1 b.o.2.1 b.o.2.2.2.1;have yS:Hid (∀s,s∈liveA wd now given births ks ps ls↔Reach ks (Bl ps ls) s):=fun s=>JG H
  have xZ:Hid (∀k∈ks,(k.sum∈wasteA wd now given births ks ps ls↔¬Reach ks (Bl ps ls) k.sum)):=fun k hk=>QS H hk;have vA:ks.length<=600:=H.nth;have yU:Hid (ps.length<=100/\ls.length<=200):=⟨H.np,H.nl⟩;clear zT H;generalize liveA wd now given births ks ps ls=lv at *
  generalize wasteA wd now given births ks ps ls=wv at *
  obtain⟨t,z,A,B,C,D,E⟩:=Aa.c7 (F.o w4 d.o.1).1 0 1 2 3 4 5 6;go_wp2_with fail;refine Calls.mono yV.o ?_;clear yV t z A B C D E;rintro e U ⟨v,rfl,yI,L⟩;obtain⟨vG,vH,rfl⟩:=Ax yI;have m:Hid (Zz W U/\Zz N U):=⟨d.o.1.trans (L.mono d.o.1.size),d.o.2.trans (L.mono d.o.2.size)⟩;have yY:Hid _:=SA zA vG yJ vH lv lv U (zC.o U m.o.2).1 (Gz yI) Z Z;clear yI L d;go_wp2_with fail;refine Calls.mono yY.o ?_
  clear yY;rintro e K ⟨b6,rfl,zI,zG⟩;obtain rfl:b6=true:=zI.2 (by first|trivial|rfl);have S:Hid (Zz W K/\Zz N K):=⟨m.o.1.trans (zG.mono m.o.1.size),m.o.2.trans (zG.mono m.o.2.size)⟩
  have HF:Hid (∀X,Zz K X->Zz W X/\Aa X q [.int .i64 wd,.int .i64 now,.int .i64 given,.int .i64 births,.slice M ks.length Q,.slice J ps.length P,.slice I ls.length O]/\AZ X X.heap.size M J I ks ps ls/\Ab X X.heap.size zA lv/\Ab X X.heap.size yK wv):=fun X y=>by have h1:=S.o.1.trans (y.mono S.o.1.size);have h2:=S.o.2.trans (y.mono S.o.2.size);exact⟨h1,(F.o X h1).1,(F.o X h1).2,(zC.o X h2).1,(zC.o X h2).2⟩
  have zE:Hid (∀(i:Nat) k,ks[i]?=some k->Ay k.E k.B wd=true):=fun i k hk=>(HP.o.th i k hk).ok;clear zI zG m zC u g F;go_wp2
  go_loopw [6,7] (fun rv iv wr=>∃i:Nat,i<=ks.length/\iv=.int .i64 (i:Int)/\Hid (rv=.int .i64 (BM wd (ks.take i))/\Zz K wr)) (fun _ iv _=>ks.length -(intOf iv).toNat)
  case atStart=>exact⟨0,Nat.zero_le _,rfl,⟨by simp[BM],Below.refl _ _⟩⟩
  case round=>
   obtain⟨i,hi,rfl,HI⟩:=hrel;obtain⟨vC,xG⟩:=HI.o;subst vC;have zB:Hid (Zz K wr):=xG;clear HI xG;obtain⟨xE,yA,zR,xA,xB⟩:=HF.o wr zB.o;obtain⟨t,z,A,B,C,D,E⟩:=Aa.c7 yA 0 1 2 3 4 5 6;by_cases hlt:i<ks.length
   .obtain⟨kb,ko,vD,vL,xJ⟩:=zR.k.at hlt;subst vD;have HG:Hid (ks[i]?=some ks[i]):=Zv hlt;obtain⟨c0,c1,c2,ra,rc,c3,xQ⟩:=xJ i _ HG.o;have xY:Hid (BM wd (ks.take (i+1))=BM wd (ks.take i)+EF wd ks[i]):=Gg HG.o;have xR:=Iv zE.o i hi;have zN:=Iu (zE.o i _ HG.o);have xV:Hid _:=Kb (zE.o i _ HG.o);have zZ:Hid (ks[i]∈ks):=List.getElem_mem hlt;generalize ks[i]=x at *
    clear xJ;obtain⟨f,yC⟩:∃X,X=wr.alloc (.cells #[.string x.sum,.int .i64 x.born,.string x.E,.slice ra x.B.length rc] 37):=⟨_,rfl⟩;obtain⟨bX,_,cX⟩:=Bc (l:=[.string x.sum,.int .i64 x.born,.string x.E,.slice ra x.B.length rc]) yC;have G:Hid (∀X,Zz f X->Zz K X/\Aa X wr.heap.size [.string x.sum,.int .i64 x.born,.string x.E,.slice ra x.B.length rc]/\Ab X X.heap.size ra x.B):=fun X y=>by have h1:Below wr.heap.size wr X:=bX.trans (y.mono bX.size);exact⟨zB.o.trans (h1.mono zB.o.size),Aa.below cX y,Ab.mono (Ab.below xQ h1) h1.size⟩
    have yZ:Hid _:=yC;clear yC bX cX xQ xE yA zR xA xB zB;go_upto_region 15 with fail;rw[<-yZ.o];clear yZ c0 c1 c2 c3 t z A B C D E;generalize wr.heap.size=o at *
    clear wr;have vE:=(AX (zE.o i _ HG.o)).B;have vF:=(AX (zE.o i _ HG.o)).E;have yO:Hid _:=EL x.E ra rc x.B wd f (G.o f (Below.refl _ _)).2.2 (by omega) (by unfold maxLen;omega);obtain⟨k0,k1,k2,k3⟩:=Aa.c4 (G.o f (Below.refl _ _)).2.1 0 1 2 3;obtain⟨t,_⟩:=(HF.o f (G.o f (Below.refl _ _)).1).2.1 0 _ rfl;go_wp2_with fail;refine Calls.mono yO.o ?_;clear yO k0 k1 k2 k3 t;rintro e X2 ⟨rfl,zF⟩
    have u:Hid (Zz f X2):=zF;generalize AB x.E x.B wd=FF at *
    generalize hKR:EF wd x=KR at *
    generalize BM wd (ks.take i)=RK at *
    have xT:(FF.size:Int)=KR:=xV.o;have zJ:wrap64 (RK+KR)=RK+KR:=WT (by omega) (by omega);have R:Hid _:=Px zA yJ lv x.sum X2 (HF.o X2 (G.o X2 u.o).1).2.2.2.1 Z;obtain⟨k0,_⟩:=(G.o X2 u.o).2.1 0 _ rfl;clear zF;go_wp2_with fail;refine Calls.mono R.o ?_;clear R k0;rintro e X3 ⟨bi,rfl,xF,V⟩;have g:Hid (Zz f X3):=u.o.trans (V.mono u.o.size)
    have yX:Hid _:=Px yK vI wv x.sum X3 (HF.o X3 (G.o X3 g.o).1).2.2.2.2 zU;obtain⟨k0,_⟩:=(G.o X3 g.o).2.1 0 _ rfl;have zY:Hid (bi=true↔Reach ks (Bl ps ls) x.sum):=xF.trans (yS.o x.sum);clear V xF;go_wp2_with fail;refine Calls.mono yX.o ?_;clear yX k0;rintro e X4 ⟨bw,rfl,zK,Y⟩;have d:Hid (Zz f X4):=g.o.trans (Y.mono g.o.size);have xN:(bi==bw)=false:=by have h1:=zY.o;have h2:=zK.trans (xZ.o x zZ.o);cases bi<;>cases bw<;>simp_all
    clear zK Y
    go_upto_if 86 with fail
    go_cut [86] (fun _ wx=>Hid (Zz f wx))
    case first=>
     by_cases hi12:(i:Int)<12
     .have yB:=HF.o X4 (G.o X4 d.o).1;have yP:Hid _:=On wd now given births (some ⟨kb,ko,none⟩) J I Q P O ks ps ls x.sum X4 yB.2.2.1 b.o.1 b.o.2.1 b.o.2.2.1 b.o.2.2.2.1 b.o.2.2.2.2;obtain⟨t,z,A,B,C,D,E⟩:=Aa.c7 yB.2.1 0 1 2 3 4 5 6;obtain⟨k0,_⟩:=(G.o X4 d.o).2.1 0 _ rfl;have xW:Hid _:=TZ HP.o zZ.o;have vM:(holdPA wd now given births ks ps ls x.sum).length<=100:=by
       unfold holdPA;split
       .exact Zm (MQ _ _ _) yU.o.1
       .simp
      have vJ:(holdLA wd now given births ks ps ls x.sum).length<=200:=by
       unfold holdLA;split
       .exact Zm (MR _ _ _) yU.o.2
       .simp
      clear yB;generalize holdPA wd now given births ks ps ls x.sum=HPl at *
      generalize holdLA wd now given births ks ps ls x.sum=HLl at *
      go_wp2_with fail;refine Calls.mono yP.o ?_;clear yP t z A B C D E k0;rintro e X5 ⟨v1,v2,B2,rfl,o1,o2,_,_,L⟩;obtain⟨a1,c1,rfl⟩:=Ax o1;obtain⟨a2,c2,rfl⟩:=Ax o2;have m:Hid (Zz f X5):=d.o.trans (L.mono d.o.size);have yT:Hid (bi=decide (0<(HPl.length:Int)+(HLl.length:Int))):=Vh zY.o xW.o;clear xN o1 o2 L zJ xT xR zN vE vF xM zU Z vA hi hlt h20 hi12;generalize HPl.length=pl at *
      generalize HLl.length=ll at *
      go_upto_region 21 with fail;go_cut [101] (fun v wx=>v=.bool false/\wx=X5)
      case first=>
       by_cases hz:(0:Int)<(pl:Int)+(ll:Int)
       .have HT:Hid (bi=true):=yT.o.trans (decide_eq_true hz);go_wp2;go_meet;exact⟨by rw[HT.o]<;>rfl,rfl⟩
       .have HT:Hid (bi=false):=yT.o.trans (decide_eq_false hz);obtain rfl:pl=0:=by omega
        obtain rfl:ll=0:=by omega
        clear hz;go_wp2;go_meet;exact⟨by rw[HT.o]<;>rfl,rfl⟩
      case rest=>
       revert wc;rintro X5 ⟨rfl,rfl⟩;go_wp2;go_meet;exact m
     .go_wp2;go_meet;exact d
    case rest=>
     clear d g u;revert wc;intro X6 S;clear xN zJ xT zN xR xM zU;go_wp2
     go_loopw [12] (fun jv wr=>∃j:Nat,j<=x.B.length/\jv=.int .i64 (j:Int)/\Hid (Zz f wr)) (fun jv _=>x.B.length -(intOf jv).toNat)
     case atStart=>exact⟨0,Nat.zero_le _,rfl,S⟩
     case round=>
      clear S;obtain⟨j,hj,rfl,zV⟩:=hrel;obtain⟨zS,yF,xP⟩:=G.o wr zV.o;obtain⟨k3,_⟩:=yF 3 _ rfl;go_upto_region 24 with fail;go_cut [110] (fun v wx=>∃cc:Bool,v=.bool cc/\(cc=true->j<x.B.length/\bi=true)/\wx=wr)
      case first=>
       by_cases zH:j<x.B.length
       .have zM:(j:Int)<(x.B.length:Int):=by omega
        go_wp2;go_meet;exact⟨_,rfl,fun h=>⟨zH,h⟩,rfl⟩
       .have zM:¬(j:Int)<(x.B.length:Int):=by omega
        go_wp2;go_meet;exact⟨_,rfl,(fun h=>by cases h),rfl⟩
      case rest=>
      revert wc;rintro wr ⟨cc,rfl,yE,rfl⟩;cases cc with
      |true=>
       obtain⟨zH,xH⟩:=yE rfl;have xX:Hid (x.B[j]∈lv):=(yS.o _).2 (.step (zY.o.1 xH) zZ.o rfl (List.getElem_mem zH));obtain⟨rb,ro,yM,vK,zO⟩:=xP.at zH;subst yM;have c7:=zO j _ (Zv zH);generalize x.B[j]=r at *
       have R:Hid _:=Pv zA yJ lv r wr (HF.o wr zS).2.2.2.1 Z xX.o;have zM:(j:Int)<(x.B.length:Int):=by omega
       clear yE xH zO yF zS;go_wp2_with fail;refine Calls.mono R.o ?_;clear R c7 k3;rintro e X8 ⟨rfl,xC⟩;have xU:Hid (Zz f X8):=zV.o.trans (xC.mono zV.o.size);clear xC;go_wp2;exact⟨⟨j+1,by omega,by go_num,xU⟩,by simp[intOf];omega⟩
      |false=>have zX:Hid (Zz K wr):=zS;clear yE k3 zS yF xP;go_wp2;refine⟨⟨i+1,by omega,by go_num,⟨?_,zX.o⟩⟩,by simp[intOf];omega⟩;rw[xY.o]
   .obtain rfl:i=ks.length:=by omega
    have T:Hid _:=MF wd now given births M J I Q P O ks ps ls wr zR b.o.1 b.o.2.1 b.o.2.2.1 b.o.2.2.2.1 b.o.2.2.2.2;have e1:roomOf wd now given births ks ps ls=BM wd (ks.take ks.length):=by unfold roomOf;rw[if_pos HP.o,List.take_length]
    rw[e1]at T;clear e1 xE yA zR xA xB;generalize BM wd (ks.take ks.length)=RR at *
    have yN:Hid _:=HF.o wr zB.o;go_wp2_with fail;refine Calls.mono T.o ?_;clear T t z A B C D E;rintro e X9 ⟨rfl,xD⟩;have zX:Hid (Zz w X9):=HB.o X9 (yN.o.1.trans (xD.mono yN.o.1.size));clear xD;go_wp2;go_ret;exact⟨by simp,zX.o⟩
end Go.Proofs.YtmjlkgpekcnacaaGreat
