import Derived.Test.YtfmeclmjdpbacaaGreatDoorX29
set_option maxRecDepth 100000
set_option maxHeartbeats 16000000
open Option renaming some->ai
open Bool renaming true->ay
open Go.RowKit renaming Below->bg
open Go.Value renaming agg->ca
open List renaming length->ed,toArray->ee
namespace Go.Proofs.YtfmeclmjdpbacaaGreatDoor
open ChangeShapes WideShapes ChangeAt RowKit _root_.Go.Proofs.Tryz List World Value
def VO(w:Zh)(q:Nat)(A:Value)(L:List Ac)(n:Nat)(v:Vd)(x:Ac)(D:Zj)(X0:Zh)(p cv:Value)(X:Zh):Prop:=
 ∃(g:Nat) (u:Vd) (c:Int) (D':Zj),p=.pointer (ai ⟨g,0,none⟩)/\cv=Zg c/\KS n v x u c/\Aa X g D'/\(∀Y,Tn [q] X Y->GL u Y.1.size Y D')/\FG w q A L n v D X/\g≠q/\Zz X0 X
theorem VO.of{w wr X:Zh}{q g f n:Nat}{A:Dg}{L:List Ac}{v u:Vd}{x:Ac}{D a:Zj}{c:Int}{S U T P i Q M:Dg}{r:Zj}(h:FG w q A L n v D wr)(j:Zz wr X)(k:Aa X g BG)(p:wr.1.size<=g)(o:KS n v x u c)(l:a=AV u S U T P i Q M)(m:Ay (X.setCells g 0 (ee a).toList) f S U T P i Q M r u)(dm:wr.1.size<=f):
 X.there g 0 (ee a).size/\(ed a=17/\∀y∈a,y.oneCell'=ay)/\Zz wr (X.setCells g 0 (ee a).toList)/\VO w q A L n v x D wr (Yy g) (Zg c) (X.setCells g 0 (ee a).toList):=by
 have s:q<wr.1.size:=h.box.gy h.len.1;have e:=m.np (.inl (show q<f by omega));rw[<-l]at e;have d:=Gs (e _ (Tn.of Ae));have b:=j.ag ((Ap g a 0 X).A j.size (C9 p));refine⟨?_,d,b,g,u,c,a,rfl,rfl,o,k.ax a (by rw[d.1];rfl),e,h.br b,Yv,b⟩;rw[show (ee a).size=17 from by rw[Az];exact d.1];exact k.there
theorem QO(a:Zk)(n c:Nat){w:Zh}(hE:Env w)(hn:n<=maxLen)(C:n=0\/∃q zP,a=ai ⟨q,zP,none⟩/\q<w.1.size/\∀j,j<n->∃x:Int,w.cell? (Zd q (zP+j))=ai (.int .u8 x)/\0<=x/\x<256)(hc:n<=c):
 D4 3 #[Cx a n c] w λe w'=>e=C1 (.bool ay)/\Zz w w':=by
 by_cases h20:(1048576:Int)<n
 .clear C;delta D4;go_in;go_wp2;go_ret;exact⟨rfl,Ae⟩
 have HS:=Yw (TT a n c hE hn C hc);have H:Hid (∀X,Zz w X->D4 5 #[Cx a n c] X _):=λX W=>Qi c hn (Sa.A C W) hc;have yA:Hid (Env w):=hE;clear hE C;delta D4;go_in;go_wp2_with fail;refine HS.Ak ?_;clear HS;rintro e d ⟨u0,S,U,T,P,Lv,Q,M,rs,rfl,J,R,A⟩;have⟨D,b⟩:=Ag (AV u0 S U T P Lv Q M);rw[<-b];have⟨W2,f⟩:=Du d Xp 34;have⟨W3,s⟩:=Ag (W2.setCells d.1.size 0 (ee D).toList);have G:∀Z,Tn [d.1.size] d Z->GL u0 Z.1.size Z D:=by rw[b];exact R.np (.inr (Zx))
 have z:=Gs (G d (Tn.of Ae));have i:Aa W2 d.1.size BG:=(Av (l:=BG) f).2.2;have g:Tn [d.1.size] W2 W3:=by rw[s];exact Ap _ _ _ _
 have O:bg d.1.size d W3:=(Av f).1.ag (g.A (Av f).1.size Yu);have B:Hid (Aa W3 d.1.size D/\(∀Y,Tn [d.1.size] W3 Y->GL u0 Y.1.size Y D)/\NV 0 u0/\Zz w W3/\w.1.size<=d.1.size/\d.1.size<W3.1.size):=⟨by rw[s];exact i.ax D (by rw[z.1];rfl),λY h=>G Y ((Tn.of O).ag h),J,A.ag (O.ah A.size),A.size,by have:=(Av f).2.1;have:=g.size;omega⟩;have r:Hid (W2.there d.1.size 0 (ee D).size/\ed D=17/\∀y∈D,y.oneCell'=ay):=⟨by rw[show (ee D).size=17 from by rw[Az];exact z.1];exact i.there,z⟩;have F:=Yw f;have I:=Yw s;clear f s G z i g O R A J b;go_upto_region 4 with(refine wpList_store_mid rfl 34 _ _ rfl d.1.size 0 (ee D) rfl rfl (by rw[<-F.o];exact r.1) (by rw[Az,r.2.1];kernel_rfl) (all_oneCell_toArray r.2.2) ?_);rw[<-F.o,<-I.o];clear F I r;generalize d.1.size=q at *
 go_wp2_with fail;refine Calls.mono (H W3 B.2.2.2.1) ?_;rintro e w4 ⟨g,k,L,rfl,hA,A,f,d⟩;have s:Hid (FG w q (C2 g L k) L 0 u0 D w4):=⟨Aa.same B.1 (d.block q B.2.2.2.2.2),λY h=>B.2.1 Y ((Tn.of d).ag h),B.2.2.1,hA.ah (Aw _),λh=>by have:=(Ab hA h).1;have:=B.2.2.2.2.2;omega,B.2.2.2.1.ag (d.ah B.2.2.2.1.size),B.2.2.2.2.1⟩;have HL:Hid (ed L<=39/\∀x∈L,x.ok):=⟨A,f⟩;have xE:g≠q:=λh=>s.aq (by rw[h];rfl);clear hA A f d B H;go_wp2;go_loopw [6] (λi wr=>∃(j:Nat) (v:Vd) (D:Zj),i=Zg j/\j<=ed L/\Hid (FG w q (C2 g L k) L (43 *j) v D wr)) (λi _=>ed L -(intOf i).toNat)
 case atStart=>exact⟨0,u0,D,rfl,Aw _,s⟩
 clear s;obtain⟨j,v,D,rfl,hj,f⟩:=hrel;by_cases hlt:j<ed L
 case neg=>
  obtain rfl:j=ed L:=Yv;have⟨s,O,R,t,hf,_⟩:=f.arg;have HC:=Yw (IV R t.cap hf);have I:Hid (wr.rangeAt q 0 D/\ed D=17):=⟨f.box.range,f.len.1⟩;have G:Hid (BY v/\Zz w wr):=⟨f.nv.ok,f.cn⟩;have HD:=Yw O;clear O R t hf f;go_wp2_with (refine wpList_load_mid rfl 34 _ rfl q 0 rfl D _ I.1 underlying34 rfl (by rw[I.2];kernel_rfl) ?_);rw[HD.o];refine HC.Ak ?_;rintro e R ⟨o,rfl,O,f⟩;obtain rfl:o=ay:=O.2 G.1;go_wp2;go_ret;exact⟨rfl,G.2.ag (f.ah G.2.size)⟩
 have yV:(j:Int)<(ed L:Int):=Yv;have⟨x,I⟩:∃x,L[j]?=ai x:=⟨_,Zv hlt⟩;have yU:j<=38:=C8 HL.1;have HX:Hid (L[j]?=ai x/\x.ok):=⟨I,HL.2 x (Zs I)⟩;clear I;go_upto_region 10 with fail;go_cut [7,8] (λp d s=>Hid (VO w q (C2 g L k) L (43 *j) v x D wr p d s))
 case first=>
  have⟨s,O,hr,t,hf,E,p⟩:=f.arg;have zZ:Hid (∀X,Zz wr X->D4 6 #[ca (ee D),ca (ee (BW x))] X (DoP (43 *j) v x X)):=λX W=>by rw[O];exact Ace x (hr.U W) E hf (yA.A (f.br W).cn) HX.2 f.nv Yv p
  have zA:Hid (ed D=17):=f.len.1;clear O hr t hf E p;refine wp_region_held_drew (S:=λX=>Zz wr X) Yr Ae.drew (λhS=> ?_);refine Di 0 (ca (ee D)) rfl (yieldsIf_load_mid Yp 34 _ rfl q 0 rfl D _ (λX h=>(f.br h).box.range) underlying34 rfl (by rw[zA.o];kernel_rfl)) ?_;try simp only[Act.put,Zq,Zp,Zo]
  refine AK 1 (C2 g L k) ?_;try simp only[Act.put,Zq,Zp,Zo]
  refine AK 2 (Zg j) ?_;try simp only[Act.put,Zq,Zp,Zo]
  refine AK 3 (Yx g (j *6)) ?_;try simp only[Act.put,Zq,Zp,Zo]
  refine Di 4 (ca (ee (BW x))) rfl (yieldsIf_load_mid Yp 42 _ rfl g (j *6) rfl (BW x) _ (λX h=>QN (f.br h).gw HX.1) underlying42 rfl Yr) ?_;try simp only[Act.put,Zq,Zp,Zo]
  refine WG 5 9 (λK d=> ?_) (λK d=> ?_)
  .rw[if_pos Yp];go_simp;refine Calls.mono (zZ wr.drew hS) ?_;rintro o A ⟨u,c,S,U,T,P,Lv,Q,M,rs,rfl,i,R,C⟩;have⟨D',G⟩:=Ag (AV u S U T P Lv Q M);rw[<-G];have F:bg wr.1.size wr A:=hS.ag (C.ah hS.size);have⟨X2,J⟩:=Du A Xp 34;have H:=(Av J).1;have zB:bg wr.1.size wr X2:=F.ag (H.ah F.size);have HF:=Yw (VO.of f zB (Av (l:=BG) J).2.2 F.size i G (R.stays (V:=[]) ⟨((Tn.of (V:=[A.1.size]) H).ag (Ap _ _ _ _)).os,((Tn.of (V:=[A.1.size]) H).ag (Ap _ _ _ _)).tape,((Tn.of (V:=[A.1.size]) H).ag (Ap _ _ _ _)).output,((Tn.of (V:=[A.1.size]) H).ag (Ap _ _ _ _)).size,λy hy _=>((Tn.of (V:=[A.1.size]) H).ag (Ap _ _ _ _)).block y hy Yt⟩ Yu) (C8 hS.size));have b:=Yw J;refine d.out _ _ F (λF=> ?_);clear d K J H R i C G;try simp only[Act.put,Zq,Zp,Zo]
   refine AK 6 (.tuple #[ca (ee D'),Zg c]) ?_;try simp only[Act.put,Zq,Zp,Zo]
   refine AK 7 (ca (ee D')) ?_;try simp only[Act.put,Zq,Zp,Zo]
   refine AK 8 (Zg c) ?_;try simp only[Act.put,Zq,Zp,Zo]
   refine Bk 9 (λK d=> ?_);rw[if_pos Yp];go_simp;rw[<-b.o];refine d.out _ _ zB (λzB=> ?_);clear d K b;try simp only[Act.put,Zq,Zp,Zo]
   refine Bk 10 (λK d=> ?_);rw[if_pos Yp];refine wp_store_mid 34 _ _ rfl A.1.size 0 (ee D') rfl rfl HF.1 (by rw[Az,HF.2.1.1];kernel_rfl) (all_oneCell_toArray HF.2.1.2) ?_;refine d.out _ _ HF.2.2.1 (λyR=> ?_);clear d K;refine AK 11 (Zg c) ?_;try simp only[Act.put,Zq,Zp,Zo]
   refine wpAnyH_done Yr ?_ _;go_wp2_with fail;go_meet;exact HF.2.2.2
  rw[if_pos Yp];go_simp;have⟨Y1,J⟩:=Du wr Xp 34;have⟨A,H⟩:=Ag Y1.drew;have F:bg wr.1.size wr A:=by rw[H];exact(Av J).1.drew
  have m:Aa A wr.1.size BG:=by rw[H];exact λj v hj=>(Av (l:=BG) J).2.2 j v hj
  have z1:A.1.size=wr.1.size+1:=by rw[H];exact(Av J).2.1
  rw[<-J];rw[<-H];refine d.out _ _ F (λF=> ?_);clear d K H J;try simp only[Act.put,Zq,Zp,Zo]
  refine Bk 5 (λK d=> ?_);rw[if_pos Yp];go_simp;refine Calls.mono (zZ A F) ?_;rintro o X2 ⟨u,c,S,U,T,P,Lv,Q,M,rs,rfl,i,R,C⟩;have⟨D',G⟩:=Ag (AV u S U T P Lv Q M);rw[<-G];have zB:bg wr.1.size wr X2:=F.ag (C.ah F.size);have HF:=Yw (VO.of f zB (Aa.A (v:=Ze) m C) (Zx) i G (R.stays (Ap _ _ _ _) (λb J yS=>by have:=R.lo b yS;simp at J;omega)) Yv);refine d.out _ _ zB (λzB=> ?_);clear d K R i C G m;try simp only[Act.put,Zq,Zp,Zo]
  refine AK 6 (.tuple #[ca (ee D'),Zg c]) ?_;try simp only[Act.put,Zq,Zp,Zo]
  refine AK 7 (ca (ee D')) ?_;try simp only[Act.put,Zq,Zp,Zo]
  refine AK 8 (Zg c) ?_;try simp only[Act.put,Zq,Zp,Zo]
  refine Bk 10 (λK d=> ?_);rw[if_pos Yp];refine wp_store_mid 34 _ _ rfl wr.1.size 0 (ee D') rfl rfl HF.1 (by rw[Az,HF.2.1.1];kernel_rfl) (all_oneCell_toArray HF.2.1.2) ?_;refine d.out _ _ HF.2.2.1 (λyR=> ?_);clear d K;refine AK 11 (Zg c) ?_;try simp only[Act.put,Zq,Zp,Zo]
  refine wpAnyH_done Yr ?_ _;go_wp2_with fail;go_meet;exact HF.2.2.2
 revert wc;intro wc hcut;obtain⟨g1,u,c1,D1,rfl,rfl,i,x1,G,m,yT,yQ⟩:=hcut.o;clear hcut;obtain⟨yK,s,O,hr,t,hf,_,p⟩:=i.nv f.nv Yv,m.arg;have zY:Hid (∀X,Zz wc X->D4 7 #[ca (ee D),ca (ee (BW x))] X _):=λX W=>by rw[O];exact VL x (hr.U W) (t.A hr W) hf HX.2 p
 have zA:Hid (ed D=17):=m.len.1;have B:=Yw m;have J:=Yw (Za x1 (Za G (Za yK i)));clear O hr t hf p m x1 G yK i f yQ;go_upto_region 11 with fail;refine wp_region_held_drew (S:=λX=>Zz wc X) Yr Ae.drew (λhS=> ?_);refine AK 0 (Zg c1) ?_;try simp only[Act.put,Zq,Zp,Zo]
 refine Di 1 (ca (ee D)) rfl (yieldsIf_load_mid Yp 34 _ rfl q 0 rfl D _ (λX h=>(B.br h).box.range) underlying34 rfl (by rw[zA.o];kernel_rfl)) ?_;try simp only[Act.put,Zq,Zp,Zo]
 refine AK 2 (C2 g L k) ?_;try simp only[Act.put,Zq,Zp,Zo]
 refine AK 3 (Zg j) ?_;try simp only[Act.put,Zq,Zp,Zo]
 refine AK 4 (Yx g (j *6)) ?_;try simp only[Act.put,Zq,Zp,Zo]
 refine Di 5 (ca (ee (BW x))) rfl (yieldsIf_load_mid Yp 42 _ rfl g (j *6) rfl (BW x) _ (λX h=>QN (B.br h).gw HX.1) underlying42 rfl Yr) ?_;try simp only[Act.put,Zq,Zp,Zo]
 refine Bk 6 (λK d=> ?_);rw[if_pos Yp];go_simp;refine Calls.mono (zY wc.drew hS) ?_;rintro o X ⟨c',rfl,G,C⟩;obtain rfl:=J.2.2.2.code G;have i:bg wc.1.size wc X:=hS.ag (C.ah hS.size);refine d.out _ _ i (λ_=> ?_);clear d K G C;try simp only[Act.put,Zq,Zp,Zo]
 refine AK 7 (.bool (c1 !=c1)) ?_;rw[show(c1 !=c1)=false by simp];try simp only[Act.put,Zq,Zp,Zo]
 refine wpAnyH_done Yr ?_ _;have d:Hid (X.rangeAt g1 0 D1):=(Aa.same J.1 (i.block g1 (J.1.gy (Gs (J.2.1 wc (Tn.of Ae))).1))).range;have G:=Yw (B.put i (λZ m=>J.2.1 Z ((Tn.of i).ag m)) J.2.2.1);clear B J zY zA i;go_wp2_with (first
  |refine wpList_load_mid rfl 34 _ rfl g1 0 rfl D1 _ d underlying34 rfl (by rw[G.2.1.1];kernel_rfl) ?_
  |refine wpList_store_mid rfl 34 _ _ rfl q 0 (ee D1) rfl rfl G.1 (by rw[Az,G.2.1.1];kernel_rfl) (all_oneCell_toArray G.2.1.2) ?_)
 have⟨A,H⟩:=Ag (X.setCells q 0 (ee D1).toList);rw[<-H]at G |-;have f:=Yw G.2.2;clear H G d;have yO:Hid (0<=x.pk/\x.pk<40):=⟨HX.2.2.2.2.2.1,HX.2.2.2.2.2.2⟩;go_wp2;go_loopw [9] (λd wr=>∃(m:Nat) (u:Vd) (D:Zj),d=Zg m/\m<=3/\Hid (FG w q (C2 g L k) L (43 *j+40+m) u D wr)) (λd _=>4 -(intOf d).toNat)
 case atStart=>exact⟨0,u,D1,rfl,Yv,f⟩
 clear f;obtain⟨m,u,D,rfl,hm,f⟩:=hrel;have xH:x.pk.tmod 3=x.pk%3:=Int.tmod_eq_emod_of_nonneg yO.1;have xG:0<=x.pk%3/\x.pk%3<3:=Yv;obtain⟨s4⟩:=Zn (QN f.gw HX.1 4 _ rfl) trivial;generalize x.pk%3=p3 at *
 by_cases hmk:(m:Int)<1+p3
 case neg=>go_wp2;exact⟨⟨j+1,u,D,Yn,Yv,f.le Yv⟩,Ys⟩
 obtain⟨s,O,hr,t,hf,E,p⟩:=f.arg;have zX:Hid (∀X,Zz wr X->D4 8 #[ca (ee D),Zg 1] X (YK u 1 X)):=λX W=>by rw[O];exact MY 1 (hr.U W) hf (yA.A (f.br W).cn)
 have⟨H,d⟩:∃H:Zj,H=(Xu u.I s.qa (ed u.F) s.qc s.i (ed u.ms) s.mc u.L u.K u.ro):=⟨_,rfl⟩;have W:Hid (ed H=6/\(∀y∈H,y.oneCell'=ay)/\H[4]?=ai (Zg u.K)/\H[0]?=ai (Zg u.I)/\wr.rangeAt q 11 H):=by refine⟨by rw[d];rfl,by rw[d];simp[oneCell'],by rw[d];rfl,by rw[d];rfl,?_⟩;have h:=f.box;rw[O]at h;rw[d];exact Aa.fx [Zg u.wd,Zg u.J,Cw s.y u.ss s.sc,Cw s.ta u.D s.d,Zg u.P,Zg u.G,Zg u.H,Zg u.E,Cw s.W u.B s.j,Cw s.Z u.ps s.g,Cw s.X u.ls s.e] (Xu u.I s.qa (ed u.F) s.qc s.i (ed u.ms) s.mc u.L u.K u.ro) [] h
 have zA:Hid (ed D=17):=f.len.1;clear O hr t hf E p d;have⟨W5,d⟩:=Du wr Xv 32;have⟨W6,B⟩:=Ag (W5.setCells wr.1.size 0 (ee H).toList);have t:Aa W5 wr.1.size Xt:=(Av d).2.2;have E:Tn [wr.1.size] W5 W6:=by rw[B];exact Ap _ _ _ _
 have p:Hid (Zz wr W6/\Aa W6 wr.1.size H/\W5.there wr.1.size 0 (ee H).size):=⟨(Av d).1.ag (E.A (Av d).1.size Yu),by rw[B];exact t.ax H (by rw[W.1];rfl),by rw[show (ee H).size=6 from by rw[Az];exact W.1];exact t.there⟩;have J:=Yw d;have i:=Yw B;clear d B t E;go_upto_region 18 with(first
  |refine wpList_load_mid rfl 32 _ rfl q 11 rfl H _ W.2.2.2.2 underlying32 rfl (by rw[W.1];kernel_rfl) ?_
  |refine wpList_store_mid rfl 32 _ _ rfl wr.1.size 0 (ee H) rfl rfl (by rw[<-J.o];exact p.2.2) (by rw[Az,W.1];kernel_rfl) (all_oneCell_toArray W.2.1) ?_)
 rw[<-J.o,<-i.o];clear J i;go_wp2_with (refine wpList_load_mid rfl 34 _ rfl q 0 rfl D _ (f.br p.1).box.range underlying34 rfl (by rw[zA.o];kernel_rfl) ?_);refine Calls.mono (zX W6 p.1) ?_;rintro e i ⟨o,K,yL,rfl,hA,zF⟩;obtain⟨u',rfl,zM,yI⟩:=f.nv.ix (N:=1) Yv yL;obtain⟨S,U,T,P,Lv,Q,M,rs,E,zG,R,hE,_⟩:=hA;have⟨d,zO⟩:=Ag (DD u u');have zW:Hid (d.I=2->d.K≠u.K->∀k∈d.B,k.born=d.K->k.sum∈d.ms):=by rw[zO];exact yI rfl
 rw[<-zO]at zG R zM;have⟨J,zK⟩:=Ag (AV d S U T P Lv Q M);have z:ed K=20/\∀y∈K,y.oneCell'=ay:=by have⟨s,O,_⟩:=R.io;have⟨_,_,e2,_⟩:=hE.row;rw[zG,O,e2];exact⟨rfl,by simp[OF,AV,oneCell']⟩
 have⟨X8,zC⟩:=Du i Xi 45;have⟨Z,zE⟩:=Ag (X8.setCells i.1.size 0 (ee K).toList);have x8:Aa X8 i.1.size (z20 0):=(Av (l:=z20 0) zC).2.2;have t9:Tn [i.1.size] X8 Z:=by rw[zE];exact Ap _ _ _ _
 have b9:bg i.1.size i Z:=(Av zC).1.ag (t9.A (Av zC).1.size Yu);have zJ:=p.1.ag (zF.ah p.1.size);have yF:=zJ.ag (b9.ah zJ.size);have xI:q<wr.1.size:=f.box.gy zA;have G:=Yw (FG.put (D':=J) f yF (by rw[zK];exact(R.A b9).np (.inl (C8 p.1.size))) zM);have x9:Aa Z i.1.size K:=by rw[zE];exact x8.ax K (by rw[z.1];rfl)
 have zH:Hid (Z.cell? (Zd (i.1.size) 0)=ai Ze/\Z.cell? (Zd (i.1.size) 18)=ai (Zg 1)/\Z.rangeAt i.1.size 1 J):=by rw[zG,<-zK]at x9;have⟨a0,a1,a2,a3,a4,a5,a6,a7,a8,a9,yX,yY,yZ,xA,xB,xC,xD,yP⟩:=Jo G.2.1.1;exact⟨(x9 0 _ rfl).1,(x9 18 _ (by rw[yP];rfl)).1,Aa.fx [Ze] J [Zg (1:Nat),E] x9⟩
 have⟨yE,t⟩:=Ag (Z.setCells q 0 (ee J).toList);have B:Hid (FG w q (C2 g L k) L (43 *j+40+m+1) d J yE):=by rw[t];exact G.2.2
 have yG:=zF.ag (b9.ah zF.size);have yC:Hid (Aa yE wr.1.size H):=by have h:=Aa.same p.2.1 (yG.block _ (p.2.1.gy W.1));rw[t];exact Aa.same h ((Ap q J 0 Z).block _ (h.gy W.1) Yt)
 have r:Hid (X8.there i.1.size 0 (ee K).size/\ed K=20/\∀y∈K,y.oneCell'=ay):=⟨by rw[show (ee K).size=20 from by rw[Az];exact z.1];exact x8.there,z⟩;obtain⟨zI,yD,Y⟩:=Yw zC,Yw zE,Yw t;clear zC zE t x8 t9 b9 x9 z zG R hE yL zM zF zJ yF zK yI zO yG;go_upto_region 19 with(refine wpList_store_mid rfl 45 _ _ rfl i.1.size 0 (ee K) rfl rfl (by rw[<-zI.o];exact r.1) (by rw[Az,r.2.1];kernel_rfl) (all_oneCell_toArray r.2.2) ?_);rw[<-zI.o,<-yD.o];clear zI yD r;have⟨r,R,_⟩:=zH.o;generalize i.1.size=q7 at *
 go_upto_region 22 with(first
  |refine wpList_load_mid rfl 34 _ rfl q7 1 rfl J _ zH.2.2 underlying34 rfl (by rw[G.2.1.1];kernel_rfl) ?_
  |refine wpList_store_mid rfl 34 _ _ rfl q 0 (ee J) rfl rfl G.1 (by rw[Az,G.2.1.1];kernel_rfl) (all_oneCell_toArray G.2.1.2) ?_)
 rw[<-Y.o];clear Y G zH r R zX f s4;have⟨a2,e2,_⟩:=B.arg;have I:=B.box;rw[e2]at I;obtain⟨⟨G,_⟩,⟨c15,_⟩,R,_⟩:=I 11 _ rfl,I 15 _ rfl,yC 4 _ W.2.2.1;clear I e2;by_cases hph:d.I=2
 case neg=>
  have zT:(d.I !=2)=ay:=C9 hph;clear hph;go_wp2;exact⟨⟨m+1,d,J,Yn,Yv,B⟩,Ys⟩
 have zT:(d.I !=2)=false:=by simp[hph]
 by_cases hat:d.K=u.K
 .have zS:(d.K==u.K)=ay:=C9 hat;have yW:Hid (d.I=2/\d.K=u.K):=⟨hph,hat⟩;clear hph hat;go_wp2;exact⟨⟨m+1,d,J,Yn,Yv,B⟩,Ys⟩
 have zS:(d.K==u.K)=false:=C9 hat;have HM:Hid (∀k∈d.B,k.born=d.K->k.sum∈d.ms):=zW hph hat;clear hph hat zW;go_wp2;go_loopw [12] (λt wr=>∃r:Nat,t=Zg r/\r<=ed d.B/\Hid (FG w q (C2 g L k) L (43 *j+40+m+1) d J wr)) (λt _=>ed d.B -(intOf t).toNat)
 case atStart=>exact⟨0,rfl,Aw _,B⟩
 clear B G c15 R yC;obtain⟨r,rfl,hr,B⟩:=hrel;have⟨a2,e2,R,_,G,_⟩:=B.arg;have I:=B.box;rw[e2]at I;obtain⟨c8,_⟩:=I 8 _ rfl;by_cases hrk:r<ed d.B
 case neg=>
  have zU:¬(r:Int)<(ed d.B:Int):=Yv;clear R G I e2;go_wp2;exact⟨⟨m+1,d,J,Yn,Yv,B⟩,Ys⟩
 have zU:(r:Int)<(ed d.B:Int):=Yv;have⟨b,zP,Y,yH,hk⟩:=R.st.k.at hrk;have⟨y,hy⟩:∃y,d.B[r]?=ai y:=⟨_,Zv hrk⟩;have⟨k0,k1,_⟩:=hk r y hy;have zN:q<wr.1.size:=B.box.gy B.len.1;obtain⟨s8,yM,yN,t0,t1⟩:=AA.cell c8 zN,AA.cell (I 13 _ rfl).1 zN,AA.cell (I 15 _ rfl).1 zN,AA.cell k0 yH,AA.cell k1 yH;rw[Y]at s8 c8;have t:Hid (∀z:AA wr,y.born=d.K->D4 9 #[Cw a2.i d.ms a2.mc,C0 y.sum] z.w λe w'=>e=C1 (.bool ay)/\bg z.w.1.size z.w w'):=λz C=>Abc a2.mc y.sum (R.m.U z.h) G.r.m (HM y (Zs hy) C);have yJ:=AA.ne wr;have xF:ed d.B<=1048576:=G.st.k;clear e2 I hk hy k0 k1 R G Y;generalize y.born=yb at *
 generalize y.sum=ys at *
 by_cases hyb:yb=d.K
 .have zV:(yb==d.K)=ay:=C9 hyb;have yB:Hid (∀z:AA wr,D4 9 #[Cw a2.i d.ms a2.mc,C0 ys] z.w λe w'=>e=C1 (.bool ay)/\bg z.w.1.size z.w w'):=λz=>t z hyb;clear t hyb;go_wp2;refine AN Yr Yr ?_
  repeat (go_big_quiet_step (first|with_reducible exact AA.calls (yB.o _)))
  refine wpQuiet_nil ?_;intro z;have Y:=Yw (B.br z.h);clear s8 yM yN t0 t1 yJ yB B c8;go_wp2;exact⟨⟨r+1,Yn,Yv,Y⟩,Ys⟩
 have zV:(yb==d.K)=false:=C9 hyb;clear t hyb;go_wp2;refine AN Yr Yr ?_
 repeat (go_big_quiet_step (fail))
 refine wpQuiet_nil ?_;intro z;have Y:=Yw (B.br z.h);clear s8 yM yN t0 t1 yJ B c8;go_wp2;exact⟨⟨r+1,Yn,Yv,Y⟩,Ys⟩
