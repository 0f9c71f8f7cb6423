import Derived.Test.YtlhhpofjkgmbeaaGreatDoorX29
set_option maxRecDepth 100000
set_option maxHeartbeats 16000000
namespace Go.Proofs.YtlhhpofjkgmbeaaGreatDoor
open Go.ChangeShapes Go.WideShapes Go.ChangeAt Go.RowKit _root_.Go.Proofs.Tryz
theorem WV{j:Nat}{s:Zi}(h:z12[j]?=some (.string s)):s=⟨#[]⟩:=by have:=Zs h;simpa [z12]using this
theorem OG{w:Zh}{o:Nat}{t:TypeId}{a:Nat×Nat}(h:w.heap[o]?=some (.cells z12.toArray t a))(j:Nat):w.cell? (Ze o j)=z12[j]?:=by simp[World.cell?,h]
theorem Bx.gl{w u:Zh}{b o:Nat}{t:TypeId}{B:Nat×Nat}{c:List (Kd×Value)}(h:Bx w b 0 c)(m:w.heap[o]?=Option.some (.cells z12.toArray t B))(x:∀z∈c,∀s∈z.1.refs,s≠⟨#[]⟩)(F:Tn [o] w u)(v:b<w.heap.size):Bx u b 0 c:=by
 cases hzs:c with
 |nil=>intro i z a;simp at a
 |cons z0 zs0=>
  rw[←hzs];have C:b≠o:=by rintro rfl;obtain⟨⟨j,_⟩,_⟩:=h 0 z0 (by rw[hzs];rfl);rw[Nat.zero_mul,Nat.add_zero,OG m]at j;simp[z12]at j
  refine h.an F v (by simpa using C) (fun z a I n K e p d=> ?_);obtain⟨i,E⟩:=List.getElem?_of_mem a;obtain⟨_,G,H,l,g⟩:=h i z E;rw[e]at l;cases l;rcases g with g|⟨J,y,A,_,D⟩
  ·exact p g
  ·cases A;simp at d;subst d;obtain⟨r,q,f⟩:∃r q,z.1.refs=r::q:=List.exists_cons_of_ne_nil p;have k:=D 0 r (by rw[f];rfl);rw[OG m]at k;exact x z a r (by rw[f];simp) (WV k)
theorem CT.gl{w r:Zh}{base b o:Nat}{q m j:Zk}{n k:Nat}{i:List (Kd×Value)}{p:List Pd}{l:List Ld}(h:CT w base b q m j n k i p l)(f:w.heap[o]?=some (.cells z12.toArray 82))(t:∀z∈i,∀s∈z.1.refs,s≠⟨#[]⟩)(e:Tn [o] w r):CT r base b q m j n k i p l:=
 ⟨h.tb,h.z.gl f t e h.bl,Zr h.bl e.size,Ai h.po (fun g d=>e.block g (Ac h.po d).2 (by
  simp only[List.mem_singleton];rintro rfl;obtain⟨c,a⟩:=BX h.po d;rw[f]at a;simp at a)),Ai h.lo (fun g d=>e.block g (Ac h.lo d).2 (by
  simp only[List.mem_singleton];rintro rfl;obtain⟨c,a⟩:=BX h.lo d;rw[f]at a;simp at a)),Zm h.lb e.size,h.bL,h.pL,h.zL,h.zb,h.zr⟩
theorem CT.of{w:Zh}{base:Nat}{T P L:Value}{h:Zj}{d:List Kd}{E:List Pd}{D:List Ld}(a:AO w base T P L h d E D)(r:∀v∈T::P::L::h,∃g n c,v=Za g n c)(S:base<=w.heap.size):
 ∃b p l F t s G,T=Za b G.length F/\P=Za p E.length t/\L=Za l D.length s/\G.map (·.1)=d/\CT w base b (some ⟨b,0,none⟩) (some ⟨p,0,none⟩) (some ⟨l,0,none⟩) t s G E D/\base<=l/\l<w.heap.size:=by
 obtain⟨b,I,F,rfl⟩:=r T (by simp);obtain⟨p,J,t,rfl⟩:=r P (by simp);obtain⟨l,K,s,rfl⟩:=r L (by simp);obtain⟨_,_,N⟩:=As a.ai;obtain⟨_,_,O⟩:=As a.pins;obtain⟨_,_,Q⟩:=As a.aq;cases N;cases O;cases Q;have hlen:(d.zip h).length=d.length:=by rw[List.length_zip,a.len];omega
 have u:(d.zip h).map (·.1)=d:=List.map_fst_zip (by rw[a.len];exact Zx);have m:=a.nd;rw[Fh]at m;unfold Bb at m;obtain⟨I,J,K⟩:=OF m (l:=l) rfl;have A:=a.ai;rw[←hlen]at A;have o:∀z∈d.zip h,∃i,d[i]?=some z.1/\h[i]?=some z.2:=fun z f=>by obtain⟨i,C⟩:=List.getElem?_of_mem f;rw[List.getElem?_zip_eq_some]at C;exact⟨i,C.1,C.2⟩
 refine⟨b,p,l,F,t,s,d.zip h,by rw[hlen],rfl,rfl,u,⟨.inl rfl,?_,(Ac a.ai rfl).2,a.pins,a.aq,S,?_,?_,?_,.inr (Ac a.ai rfl).1,?_⟩,Ac a.aq rfl⟩
 ·refine Bx.own A (fun z f=> ?_);obtain⟨i,q,j⟩:=o z f;have k:=a.refs i z.1 z.2 q j;obtain⟨R,Y,M,B⟩:=r z.2 (by simp;exact .inr (.inr (.inr (Zs j))));obtain⟨X,W,x⟩:=As k;rw[B]at x;cases x;rw[B]at k;exact⟨⟨R,0,none⟩,M,B,Ad.own k⟩
 ·intro e;simp[Value.ownBlock]at e;exact I (by simp[Value.ownBlock,e])
 ·intro g U e;simp[Value.ownBlock]at U e;exact J (by simp[Value.ownBlock];omega)
 ·intro z f H n V e _ y;simp[Value.ownBlock]at y;obtain⟨i,q,j⟩:=o z f;refine K (List.mem_filterMap.2 ⟨z.2,Zs j,?_⟩);rw[e];simp[Value.ownBlock,y]
 ·intro z f H n V e _;obtain⟨i,q,j⟩:=o z f;have k:=a.refs i z.1 z.2 q j;rw[e]at k;exact(Ac k (g:=H.block) (by simp[Value.ownBlock])).1
theorem PF(v:Vd)(a:Va)(w:Zh)
 (C:∀X,Zz w X->Calls prog 69 #[.agg #[.slice a.sa v.ss.length a.sc,.slice a.ta v.tt.length a.tc]] X fun e z=>∃x j y k,e=.returned (.agg #[Za x v.ss.length j,Za y v.tt.length k])/\z.ownsRow X.heap.size 9 1 (Za x v.ss.length j) v.ss.length (v.ss.map Value.string)/\z.ownsRow X.heap.size 9 1 (Za y v.tt.length k) v.tt.length (v.tt.map Value.string)/\x≠y/\Zz X z)
 (J:∀X,Zz w X->Calls prog 37 #[.agg (Ys v.sw v.now v.given v.ae a.ka v.ks.length a.kc a.pa v.ps.length a.pc a.la v.ls.length a.lc)] X fun e z=>∃T P L q,e=.returned (.agg #[Zg v.sw,Zg v.now,Zg v.given,Zg v.ae,T,P,L])/\AO z X.heap.size T P L q v.ks v.ps v.ls/\(∀u∈T::P::L::q,∃g n c,u=Za g n c)/\Zz X z)
 (h3:∀X,Zz w X->Calls prog 70 #[.agg (Yk v.ph a.qa v.qs.length a.qc a.ma v.ms.length a.mc v.ag v.at_ v.ro)] X fun e z=>∃i d f b,e=.returned (.agg (Yk v.ph (some ⟨i,0,none⟩) v.qs.length d (some ⟨f,0,none⟩) v.ms.length b v.ag v.at_ v.ro))/\z.ownsRow X.heap.size 9 1 (Za i v.qs.length d) v.qs.length (v.qs.map Value.string)/\z.ownsRow X.heap.size 9 1 (Za f v.ms.length b) v.ms.length (v.ms.map Value.string)/\i≠f/\Zz X z):
 Calls prog 34 #[.agg (Yi v a)] w fun e z=>∃(S U T P L Q M:Value) (q:Zj),e=.returned (.agg #[Zg v.wd,Zg v.ak,S,U,Zg v.sw,Zg v.now,Zg v.given,Zg v.ae,T,P,L,Zg v.ph,Q,M,Zg v.ag,Zg v.at_,Zg v.ro])/\AL z w.heap.size S U T P L Q M q v/\(∀u∈S::U::Q::M::T::P::L::q,∃g n c,u=Za g n c)/\Zz w z:=by
 obtain⟨W,N⟩:∃W,W=(w.alloc (.cells (Yi v a) 43)).alloc (.cells Ya 43):=⟨_,rfl⟩;have E:=(AW N).1;have zW:=(AW N).2.1;have HX:Hid (Aa W _ _):=(AW N).2.2.1;have HZ:Hid (Aa W (w.heap.size+1) Xz):=by have C:=Aa.new (w.alloc (.cells (Yi v a) 43)) Xz 43;rw[World.size_alloc]at C;show Aa W (w.heap.size+1) Xz;rw[N];exact C
 have H1:=Yx C;have H2:=Yx J;have H3:=Yx h3;have I:Hid (∀X,Zz W X->Aa X w.heap.size (Yh v a)):=fun X Y=>Aa.below HX.o Y;have HW:=Yx N;clear N C J h3;go_enter func34,ntmps34;go_upto_region 1 with fail;rw[←HW.o];clear HW
 go_cut [0] (fun u wx=>∃x j y k r s o p l m q i d f b,Hid (Aa wx (w.heap.size+1) (Yd v (some ⟨x,0,none⟩) j (some ⟨y,0,none⟩) k r s o p l m (some ⟨i,0,none⟩) d (some ⟨f,0,none⟩) b)/\Zz w wx/\AL wx w.heap.size (Za x v.ss.length j) (Za y v.tt.length k) (.slice r v.ks.length s) (.slice o v.ps.length p) (.slice l v.ls.length m) (Za i v.qs.length d) (Za f v.ms.length b) q v/\∀u∈(.slice r v.ks.length s)::(.slice o v.ps.length p)::(.slice l v.ls.length m)::q,∃g n c,u=Za g n c))
 case first=>
  refine wp_region_held_drew (S:=fun X=>Aa X w.heap.size (Yh v a)) (by kernel_rfl) (I.o _ (Below.refl _ _).drew) (fun B=> ?_);refine Bq 0 ⟨some 3,.fieldAddr 43 (.tmp 1) 0,0, "l7_vault.go:65",#[],none⟩ (Yz w.heap.size) (by exact B) ?_;try simp only[Act.put,Zq,Zp,Zo]
  refine Et 1 ⟨some 4,.load 3 (.tmp 3),3, "l7_vault.go:65",#[Al 0],none⟩ (Zg v.wd) (by exact Or.inl ⟨by rfl,fun X Y=>by have h0:=(Y 0 _ rfl).1;go_simp⟩) (by exact B) ?_;try simp only[Act.put,Zq,Zp,Zo]
  refine Bq 2 ⟨some 5,.fieldAddr 43 (.tmp 1) 1,0, "l7_vault.go:65",#[],none⟩ (Yy w.heap.size 1) (by exact B) ?_;try simp only[Act.put,Zq,Zp,Zo]
  refine Et 3 ⟨some 6,.load 3 (.tmp 5),3, "l7_vault.go:65",#[Al 2],none⟩ (Zg v.ak) (by exact Or.inl ⟨by rfl,fun X Y=>by have h0:=(Y 1 _ rfl).1;go_simp⟩) (by exact B) ?_;try simp only[Act.put,Zq,Zp,Zo]
  refine Bq 4 ⟨some 7,.fieldAddr 43 (.tmp 1) 2,0, "l7_vault.go:65",#[],none⟩ (Yy w.heap.size 2) (by exact B) ?_;try simp only[Act.put,Zq,Zp,Zo]
  refine Et 5 ⟨some 8,.load 35 (.tmp 7),35, "l7_vault.go:65",#[Al 4],none⟩ (.agg #[.slice a.sa v.ss.length a.sc,.slice a.ta v.tt.length a.tc]) (by exact yieldsIf_load_mid (by rfl) 35 _ rfl (w.heap.size) 2 rfl [.slice a.sa v.ss.length a.sc,.slice a.ta v.tt.length a.tc] _ (fun X h=>Aa.fp [Zg v.wd,Zg v.ak] [.slice a.sa v.ss.length a.sc,.slice a.ta v.tt.length a.tc] [Zg v.sw,Zg v.now,Zg v.given,Zg v.ae,.slice a.ka v.ks.length a.kc,.slice a.pa v.ps.length a.pc,.slice a.la v.ls.length a.lc,Zg v.ph,.slice a.qa v.qs.length a.qc,.slice a.ma v.ms.length a.mc,Zg v.ag,Zg v.at_,Zg v.ro] h) underlying35 rfl (by kernel_rfl)) (by exact B) ?_
  try simp only[Act.put,Zq,Zp,Zo]
  refine Bq 7 ⟨some 10,.fieldAddr 43 (.tmp 1) 3,0, "l7_vault.go:65",#[],none⟩ (Yy w.heap.size 4) (by exact B) ?_;try simp only[Act.put,Zq,Zp,Zo]
  refine Et 8 ⟨some 11,.load 40 (.tmp 10),40, "l7_vault.go:65",#[Al 7],none⟩ (.agg (Ys v.sw v.now v.given v.ae a.ka v.ks.length a.kc a.pa v.ps.length a.pc a.la v.ls.length a.lc)) (by exact yieldsIf_load_mid (by rfl) 40 _ rfl (w.heap.size) 4 rfl (Yt v.sw v.now v.given v.ae a.ka v.ks.length a.kc a.pa v.ps.length a.pc a.la v.ls.length a.lc) _ (fun X h=>Aa.fp [Zg v.wd,Zg v.ak,.slice a.sa v.ss.length a.sc,.slice a.ta v.tt.length a.tc] (Yt v.sw v.now v.given v.ae a.ka v.ks.length a.kc a.pa v.ps.length a.pc a.la v.ls.length a.lc) (Yg v.ph a.qa v.qs.length a.qc a.ma v.ms.length a.mc v.ag v.at_ v.ro) h) underlying40 rfl (by kernel_rfl)) (by exact B) ?_
  try simp only[Act.put,Zq,Zp,Zo]
  refine Bq 10 ⟨some 13,.fieldAddr 43 (.tmp 1) 4,0, "l7_vault.go:65",#[],none⟩ (Yy w.heap.size 11) (by exact B) ?_;try simp only[Act.put,Zq,Zp,Zo]
  refine Et 11 ⟨some 14,.load 41 (.tmp 13),41, "l7_vault.go:65",#[Al 10],none⟩ (.agg (Yk v.ph a.qa v.qs.length a.qc a.ma v.ms.length a.mc v.ag v.at_ v.ro)) (by exact yieldsIf_load_mid (by rfl) 41 _ rfl (w.heap.size) 11 rfl (Yg v.ph a.qa v.qs.length a.qc a.ma v.ms.length a.mc v.ag v.at_ v.ro) _ (fun X h=>Aa.fp [Zg v.wd,Zg v.ak,.slice a.sa v.ss.length a.sc,.slice a.ta v.tt.length a.tc,Zg v.sw,Zg v.now,Zg v.given,Zg v.ae,.slice a.ka v.ks.length a.kc,.slice a.pa v.ps.length a.pc,.slice a.la v.ls.length a.lc] (Yg v.ph a.qa v.qs.length a.qc a.ma v.ms.length a.mc v.ag v.at_ v.ro) [] h) underlying41 rfl (by kernel_rfl)) (by exact B) ?_
  try simp only[Act.put,Zq,Zp,Zo]
  refine Br 6 ⟨some 9,.call {callee:=Callee.value (.func 69),args:= #[.tmp 8],argTypes:= #[35]},35, "l7_vault.go:65",#[Al 5],none⟩ (fun K A=> ?_);go_simp;refine(H1.o W.drew E.drew).mono ?_;rintro e w1 ⟨x,j,y,k,rfl,zM,F,zE,zK⟩;have B1:=(Below.refl W.heap.size W).drew.trans zK;try go_simp
  refine A.out _ _ (I.o w1 B1) (fun zT=> ?_);clear A K;try simp only[Act.put,Zq,Zp,Zo]
  refine Br 9 ⟨some 12,.call {callee:=Callee.value (.func 37),args:= #[.tmp 11],argTypes:= #[40]},40, "l7_vault.go:65",#[Al 8,⟨6,.chain⟩],none⟩ (fun K A=> ?_);go_simp;refine(H2.o w1 (E.trans (B1.mono E.size))).mono ?_;rintro e w2 ⟨T,P,L,q,rfl,zA,zH,O⟩;obtain⟨r,s,o,p,l,m,rfl,rfl,rfl,_⟩:=zA.rows;have H:=B1.trans (O.mono B1.size);try go_simp
  refine A.out _ _ (I.o w2 H) (fun zU=> ?_);clear A K;try simp only[Act.put,Zq,Zp,Zo]
  refine Br 12 ⟨some 15,.call {callee:=Callee.value (.func 70),args:= #[.tmp 14],argTypes:= #[41]},41, "l7_vault.go:65",#[Al 11,⟨9,.chain⟩],none⟩ (fun K A=> ?_);go_simp;refine(H3.o w2 (E.trans (H.mono E.size))).mono ?_;rintro e Z ⟨i,d,f,b,rfl,zN,G,zF,R⟩;have V:Below W.heap.size W Z:=H.trans (R.mono H.size);try go_simp
  refine A.out _ _ (I.o Z V) (fun zO=> ?_);clear A K;try simp only[Act.put,Zq,Zp,Zo]
  refine Bq 13 ⟨some 16,.build 43 #[(0,.tmp 4),(1,.tmp 6),(2,.tmp 9),(3,.tmp 12),(4,.tmp 15)],43, "l7_vault.go:65",#[Al 1,Al 3,Al 6,Al 9,Al 12],none⟩ (.agg (Ye v (some ⟨x,0,none⟩) j (some ⟨y,0,none⟩) k r s o p l m (some ⟨i,0,none⟩) d (some ⟨f,0,none⟩) b)) (by exact zO) ?_;try simp only[Act.put,Zq,Zp,Zo]
  refine Br 14 ⟨none,.store 43 (.tmp 2) (.tmp 16),0, "l7_vault.go:65",#[Al 13,⟨12,.chain⟩,Ag 0,Ag 1,Ag 2,Ag 3,Ag 4,Ag 5,Ag 6,Ag 7,Ag 8,Ag 9,Ag 10,Ag 11,Ag 12,Ag 13],none⟩ (fun K A=> ?_)
  have zJ:AL Z W.heap.size (Za x v.ss.length j) (Za y v.tt.length k) (.slice r v.ks.length s) (.slice o v.ps.length p) (.slice l v.ls.length m) (Za i v.qs.length d) (Za f v.ms.length b) q v:=AL.of (n1:=w1.heap.size) (n2:=w2.heap.size) (Ao.own (Ae (Ae zM O) R)) (Ao.own (Ae (Ae F O) R)) (fun g C J=>by cases C;cases J;exact zE rfl) (fun g t=>by rcases t with t|t;(cases t;exact(zM.lt _ rfl).2);(cases t;exact(F.lt _ rfl).2)) (zA.below R) zK.size zA.cg (Ao.own (zN.mono H.size)) (Ao.own (G.mono H.size)) (fun g t=>by rcases t with t|t;(cases t;exact(zN.lt _ rfl).1);(cases t;exact(G.lt _ rfl).1)) O.size (fun g C J=>by cases C;cases J;exact zF rfl)
  have zG:((Ye v (some ⟨x,0,none⟩) j (some ⟨y,0,none⟩) k r s o p l m (some ⟨i,0,none⟩) d (some ⟨f,0,none⟩) b):Array Value).all (·.oneCell')=true:=by simp[Value.oneCell']
  have zI:=Aa.below (v:=Zf) HZ.o V;obtain⟨W9,zB⟩:∃X,X=Z.setCells (w.heap.size+1) 0 (Yd v (some ⟨x,0,none⟩) j (some ⟨y,0,none⟩) k r s o p l m (some ⟨i,0,none⟩) d (some ⟨f,0,none⟩) b):=⟨_,rfl⟩;have x9:Aa W9 (w.heap.size+1) (Yd v (some ⟨x,0,none⟩) j (some ⟨y,0,none⟩) k r s o p l m (some ⟨i,0,none⟩) d (some ⟨f,0,none⟩) b):=by rw[zB];exact zI.ba _ rfl
  have t9:Tn [w.heap.size+1] Z W9:=by rw[zB];exact AP _ _ _ _
  have z3:=V.size;have B9:Below w.heap.size w W9:=(E.trans (V.mono E.size)).trans (t9.below (by omega) (by simp));have zR:AL W9 w.heap.size (Za x v.ss.length j) (Za y v.tt.length k) (.slice r v.ks.length s) (.slice o v.ps.length p) (.slice l v.ls.length m) (Za i v.qs.length d) (Za f v.ms.length b) q v:=(zJ.stays t9 (fun g t zS=>by have:=zJ.lo g zS;simp at t;omega)).mono (by omega)
  have zC:=Yx (Zn x9 (Zn B9 (Zn zR zH)));have zP:=Aa.same (Aa.below HX.o V) (t9.block _ (by omega) (by simp));rw[if_pos (by rfl)];refine wp_store_mid 43 _ _ rfl (w.heap.size+1) 0 (Ye v (some ⟨x,0,none⟩) j (some ⟨y,0,none⟩) k r s o p l m (some ⟨i,0,none⟩) d (some ⟨f,0,none⟩) b) rfl rfl zI.there (by kernel_rfl) zG ?_;try rw[←zB]
  refine A.out _ _ zP (fun zV=> ?_);clear A K;try simp only[Act.put]
  refine wpAnyH_done (by kernel_rfl) ?_ _;go_wp2_with fail;go_meet;exact⟨x,j,y,k,r,s,o,p,l,m,q,i,d,f,b,zC.o⟩
 case rest=>
  obtain⟨x,j,y,k,r,s,o,p,l,m,q,i,d,f,b,HQ⟩:=hcut;go_wp2;refine bodyPost_ret (BN results34 _ _ (w.heap.size+1) (Yd v (some ⟨x,0,none⟩) j (some ⟨y,0,none⟩) k r s o p l m (some ⟨i,0,none⟩) d (some ⟨f,0,none⟩) b) _ rfl HQ.o.1.range underlying43 rfl (by kernel_rfl)) rfl ?_;refine⟨_,_,_,_,_,_,_,q,rfl,HQ.o.2.2.1,fun u D=> ?_,HQ.o.2.1⟩;rcases List.mem_cons.1 D with rfl|D
  ·exact⟨_,_,_,rfl⟩
  rcases List.mem_cons.1 D with rfl|D
  ·exact⟨_,_,_,rfl⟩
  rcases List.mem_cons.1 D with rfl|D
  ·exact⟨_,_,_,rfl⟩
  rcases List.mem_cons.1 D with rfl|D
  ·exact⟨_,_,_,rfl⟩
  exact HQ.o.2.2.2 u D
theorem Lp(t u:Zi)(a b:Zk)(c d:Nat)(f g:Zl)(w:Zh)(r:Ad w w.heap.size a f)(q:Ad w w.heap.size b g)(hl:f.length<=100000)(zB:g.length<=1048576):
 Calls prog 120 #[.agg #[.string t,.slice a f.length c],.agg #[.string u,.slice b g.length d]] w fun e w'=>Ar (t=u/\f=g) w w' e:=by
 obtain⟨W,s⟩:∃W,W=(w.alloc (.cells #[.string t,.slice a f.length c] 58)).alloc (.cells #[.string u,.slice b g.length d] 58):=⟨_,rfl⟩;have B:=(AW s).1;have m:=(AW s).2.2.1;have n:Aa W (w.heap.size+1) [.string u,.slice b g.length d]:=by have C:=Aa.new (w.alloc (.cells #[.string t,.slice a f.length c] 58)) [.string u,.slice b g.length d] 58;rw[World.size_alloc]at C;rw[s];exact C
 have HX:Hid (∀X,Zz W X->Aa X w.heap.size [.string t,.slice a f.length c]/\Aa X (w.heap.size+1) [.string u,.slice b g.length d]/\Ad X w.heap.size a f/\Ad X w.heap.size b g/\Zz w X):=fun X H=>by have v:=B.trans (H.mono B.size);exact⟨Aa.below m H,Aa.below n H,r.below v,q.below v,v⟩
 obtain⟨y0,J⟩:=Aa.c2 m 0 1;obtain⟨z0,K⟩:=Aa.c2 n 0 1;have A:=Yx s;clear s r q m n;by_cases ht:t=u
 ·subst ht;have F:(t.toList !=t.toList)=false:=by simp
  by_cases hlen:f.length=g.length
  ·have Q:((f.length:Int) !=(g.length:Int))=false:=by simp;omega
   have o:=Yx hlen;clear hlen;go_enter func120,ntmps120;go_upto_region 1 with fail;rw[←A.o];clear A;go_wp2
   go_loopw [5] (fun i wr=>∃k:Nat,k<=f.length/\i=Zg k/\Hid (f.take k=g.take k/\Zz W wr)) (fun i _=>f.length -(intOf i).toNat)
   case atStart=>exact⟨0,Nat.zero_le _,rfl,⟨by simp,Below.refl _ _⟩⟩
   case round=>
    clear y0 J z0 K;obtain⟨k,hk,rfl,z⟩:=hrel;obtain⟨m,n,r,q,l⟩:=HX.o wr z.o.2;obtain⟨J,_⟩:=m 1 _ rfl;obtain⟨K,_⟩:=n 1 _ rfl;by_cases hlt:k<f.length
    ·have j:k<g.length:=by have:=o.o;omega
     obtain⟨rb,ro,ha,T,E⟩:=r.at hlt;obtain⟨qb,qo,v,S,D⟩:=q.at j;subst ha v;have c0:=E k _ (Zv hlt);have d0:=D k _ (Zv j);have zE:=Zr T l.size;have zC:=Zr S l.size;have O:=Yx (Zu hlt);have P:=Yx (Zu j);have HN:Hid (∀x y,f[k]?=some x->g[k]?=some y->x≠y->f≠g):=fun x y C I R e=>by subst e;rw[C]at I;exact R (Option.some.inj I)
     have M:=Yx (Zv hlt);have N:=Yx (Zv j);have zA:(k:Int)<g.length:=by omega
     clear E D;generalize f[k]=x at *
     generalize g[k]=y at *
     have Z:=Yx z.o.2;have L:=Yx l;clear m n r q l;by_cases hxy:x=y
     ·subst hxy;have G:(x.toList !=x.toList)=false:=by simp
      go_wp2
      go_region
      all_goals go_wp2
      all_goals exact⟨⟨k+1,by omega,by go_num,⟨by rw[O.o,P.o,z.o.1],Z.o.drew⟩⟩,by simp[intOf];omega⟩
     ·have G:=BP hxy;have Y:(x.toList !=y.toList)=true:=by simp[bne,G]
      go_wp2
      go_region
      all_goals go_wp2
      all_goals go_ret
      all_goals exact Ar.no (fun h=>HN.o x y M.o N.o hxy h.2) L.o.drew
    ·obtain rfl:k=f.length:=by omega
     have p:=z.o.1;rw[Zt (Zx),Zt (by have:=o.o;omega)]at p;clear m n r q;go_wp2;go_ret;exact Ar.yes ⟨by trivial,p⟩ l
  ·have Q:((f.length:Int)==(g.length:Int))=false:=by simp;omega
   have U:((f.length:Int) !=(g.length:Int))=true:=by simp;omega
   go_enter func120,ntmps120;go_upto_region 1 with fail;rw[←A.o];go_wp2;go_ret;exact Ar.no (fun h=>hlen (by rw[h.2])) B
 ·have F:=BP ht;have V:(t.toList !=u.toList)=true:=by simp[bne,F]
  go_enter func120,ntmps120;go_upto_region 1 with fail;rw[←A.o];go_wp2;go_ret;exact Ar.no (fun h=>ht h.1) B
section
attribute [local go_sem↓] Go.wp_at_zero Go.wp_at_succ
theorem Lq(U N given ae H q c b:Int)(a p l a' p' l':Zk)(ac pc lc zB zG zF:Nat)(u j:List Kd)(A o:List Pd)(z m:List Ld)(w:Zh)(F:Bv w w.heap.size a p l u A z)(E:Bv w w.heap.size a' p' l' j o m)(hl:u.length<=100000/\A.length<=100000/\z.length<=100000)(yH:j.length<=1048576/\o.length<=1048576/\m.length<=1048576)(O:∀k∈u,k.refs.length<=100000)(P:∀k∈j,k.refs.length<=1048576):
 Calls prog 67 #[.agg (Ys U N given ae a u.length ac p A.length pc l z.length lc),.agg (Ys H q c b a' j.length zB p' o.length zG l' m.length zF)] w fun e w'=>Ar ((U=H/\N=q/\given=c/\ae=b)/\u=j/\A=o/\z=m) w w' e:=by
 obtain⟨W,hW⟩:∃W,W=(w.alloc (.cells (Ys U N given ae a u.length ac p A.length pc l z.length lc) 40)).alloc (.cells (Ys H q c b a' j.length zB p' o.length zG l' m.length zF) 40):=⟨_,rfl⟩;have Q:=(AW hW).1;have r:=(AW hW).2.2.1;have s:Aa W (w.heap.size+1) (Yt H q c b a' j.length zB p' o.length zG l' m.length zF):=by have O:=Aa.new (w.alloc (.cells (Ys U N given ae a u.length ac p A.length pc l z.length lc) 40)) (Yt H q c b a' j.length zB p' o.length zG l' m.length zF) 40;rw[World.size_alloc]at O;rw[hW];exact O
 have HX:Hid (∀X,Zz W X->Aa X w.heap.size (Yt U N given ae a u.length ac p A.length pc l z.length lc)/\Aa X (w.heap.size+1) (Yt H q c b a' j.length zB p' o.length zG l' m.length zF)/\Bv X w.heap.size a p l u A z/\Bv X w.heap.size a' p' l' j o m/\Zz w X):=fun X hX=>by have v:=Q.trans (hX.mono Q.size);exact⟨Aa.below r hX,Aa.below s hX,F.aj v,E.aj v,v⟩
 have zW:=(AW hW).2.1;obtain⟨zU,_⟩:=r 0 _ rfl;obtain⟨yB,_⟩:=s 0 _ rfl;obtain⟨zV,_⟩:=r 1 _ rfl;obtain⟨yC,_⟩:=s 1 _ rfl;obtain⟨zX,_⟩:=r 2 _ rfl;obtain⟨yD,_⟩:=s 2 _ rfl;obtain⟨zY,_⟩:=r 3 _ rfl;obtain⟨yE,_⟩:=s 3 _ rfl;obtain⟨I,_⟩:=r 4 _ rfl;obtain⟨J,_⟩:=s 4 _ rfl;obtain⟨zZ,_⟩:=r 5 _ rfl;obtain⟨yF,_⟩:=s 5 _ rfl;obtain⟨yA,_⟩:=r 6 _ rfl;obtain⟨yG,_⟩:=s 6 _ rfl;have B:=Yx hW;clear hW F E r s
 by_cases e0:U=H
 ·have b0:(U !=H)=false:=by simp[e0]
  have E0:=Yx e0;clear e0;by_cases e1:N=q
  ·have b1:(N !=q)=false:=by simp[e1]
   have E1:=Yx e1;clear e1;by_cases e2:given=c
   ·have b2:(given !=c)=false:=by simp[e2]
    have E2:=Yx e2;clear e2;by_cases e3:ae=b
    ·have b3:(ae !=b)=false:=by simp[e3]
     have E3:=Yx e3;clear e3;by_cases e4:u.length=j.length
     ·have b4:((u.length:Int) !=(j.length:Int))=false:=by simp[e4]
      have E4:=Yx e4;clear e4;by_cases e5:A.length=o.length
      ·have b5:((A.length:Int) !=(o.length:Int))=false:=by simp[e5]
       have E5:=Yx e5;clear e5;by_cases e6:z.length=m.length
       ·have b6:((z.length:Int) !=(m.length:Int))=false:=by simp[e6]
        have E6:=Yx e6;clear e6;go_enter func67,ntmps67;go_upto_region 1 with fail;rw[←B.o];clear B;go_wp2;clear b0 b1 b2 b3 b4 b5 b6
        go_loopw [5] (fun i wr=>∃k:Nat,k<=u.length/\i=Zg k/\Hid (u.take k=j.take k/\Zz W wr)) (fun i _=>u.length -(intOf i).toNat)
        case atStart=>exact⟨0,Nat.zero_le _,rfl,⟨by simp,Below.refl _ _⟩⟩
        case round=>
         clear zU yB zV yC zX yD zY yE I J zZ yF yA yG;obtain⟨k,hk,rfl,t⟩:=hrel;obtain⟨r,s,F,E,f⟩:=HX.o wr t.o.2;have zP:=t.o.2.size;obtain⟨I,_⟩:=r 4 _ rfl;obtain⟨J,_⟩:=s 4 _ rfl;by_cases hlt:k<u.length
         ·have d:k<j.length:=by have:=E4.o;omega
          obtain⟨rb,ro,ha,zE,M⟩:=F.k.at hlt;obtain⟨qb,qo,v,zC,L⟩:=E.k.at d;subst ha v;obtain⟨c0,c1,c2,ra,rc,c3,zO⟩:=M k _ (Zv hlt);obtain⟨d0,d1,d2,sa,sc,d3,zN⟩:=L k _ (Zv d);have S:=Zr zE f.size;have R:=Zr zC f.size;have Z:=Yx (Zu hlt);have zA:=Yx (Zu d);have HN:Hid (∀x y,u[k]?=some x->j[k]?=some y->x≠y->u≠j):=fun x y O P T e=>by subst e;rw[O]at P;exact T (Option.some.inj P)
          have C:=Yx (Zv hlt);have D:=Yx (Zv d);have zM:(k:Int)<j.length:=by omega
          have m1:=O _ (List.getElem_mem hlt);have m2:=P _ (List.getElem_mem d);clear M L;generalize u[k]=x at *
          generalize j[k]=y at *
          have HB:=Yx t.o.2;have HC:Hid (∀n:AB wr,Calls prog 120 #[.agg #[.string x.text,.slice ra x.refs.length rc],.agg #[.string y.text,.slice sa y.refs.length sc]] n.w fun e w'=>e=.returned (.bool (decide (x.text=y.text/\x.refs=y.refs)))/\Below n.w.heap.size n.w w'):=fun n=>by
           have zK:=f.trans (n.h.mono f.size);refine(Lp x.text y.text ra sa rc sc x.refs y.refs n.w ((zO.below (n.h.mono f.size)).mono zK.size) ((zN.below (n.h.mono f.size)).mono zK.size) m1 m2).mono ?_;rintro e w' ⟨bb,rfl,zJ,zI⟩;refine⟨?_,zI⟩;by_cases hP:x.text=y.text/\x.refs=y.refs
           ·rw[zJ.2 hP,decide_eq_true hP]
           ·cases bb with
            |true=>exact absurd (zJ.1 rfl) hP
            |false=>rw[decide_eq_false hP]
          have q1:=AB.cell I (by omega);have q2:=AB.cell J (by omega);have r0:=AB.cell c0 S;have s0:=AB.cell d0 R;have r1:=AB.cell c1 S;have s1:=AB.cell d1 R;have r2:=AB.cell c2 S;have s2:=AB.cell d2 R;have r3:=AB.cell c3 S;have s3:=AB.cell d3 R;have T:=AB.ne wr;have HE:Hid (∀n:AB wr,Zz W n.w):=fun n=>HB.o.trans (n.h.mono HB.o.size);clear r s F E zO zN f;by_cases hs:x.sum=y.sum
          ·have zS:(x.sum.toList !=y.sum.toList)=false:=by rw[hs];simp
           have zT:(x.sum.toList==y.sum.toList)=true:=by rw[hs];simp
           by_cases v:x.born=y.born
           ·have zI:(x.born !=y.born)=false:=by simp[v]
            have zR:(x.born==y.born)=true:=by simp[v]
            by_cases hP:x.text=y.text/\x.refs=y.refs
            ·rw[decide_eq_true hP]at HC;have K:Hid (x=y):=by obtain⟨e1,e2⟩:=hP;show x=y;cases x;cases y;simp_all
             clear hP hs v;go_wp2;refine AI (by kernel_rfl) (by kernel_rfl) ?_
             repeat (go_big_quiet_step (exact AB.calls (HC.o _)))
             refine wpQuiet_nil ?_;intro n;clear q1 q2 r0 r1 r2 r3 s0 s1 s2 s3 I J c0 c1 c2 c3 d0 d1 d2 d3;go_wp2;exact⟨⟨k+1,by omega,by go_num,⟨by rw[Z.o,zA.o,t.o.1,K.o],HE.o n⟩⟩,by simp[intOf];omega⟩
            ·rw[decide_eq_false hP]at HC;have Y:=Yx hP;clear hP hs v;go_wp2;refine AI (by kernel_rfl) (by kernel_rfl) ?_
             repeat (go_big_quiet_step (exact AB.calls (HC.o _)))
             refine wpQuiet_nil ?_;intro n;have V:=Yx ((HX.o _ (HE.o n)).2.2.2.2);clear q1 q2 r0 r1 r2 r3 s0 s1 s2 s3 I J c0 c1 c2 c3 d0 d1 d2 d3;go_wp2;go_ret;exact Ar.no (fun h=>HN.o x y C.o D.o (fun e=>Y.o (by rw[e];exact⟨rfl,rfl⟩)) h.2.1) V.o
           ·have zI:(x.born !=y.born)=true:=by simp[v]
            have zR:(x.born==y.born)=false:=by simp[v]
            have Y:=Yx v;clear v hs;go_wp2;refine AI (by kernel_rfl) (by kernel_rfl) ?_
            repeat (go_big_quiet_step (exact AB.calls (HC.o _)))
            refine wpQuiet_nil ?_;intro n;have V:=Yx ((HX.o _ (HE.o n)).2.2.2.2);clear q1 q2 r0 r1 r2 r3 s0 s1 s2 s3 I J c0 c1 c2 c3 d0 d1 d2 d3;go_wp2;go_ret;exact Ar.no (fun h=>HN.o x y C.o D.o (fun e=>Y.o (by rw[e])) h.2.1) V.o
          ·have zS:(x.sum.toList !=y.sum.toList)=true:=by simp[bne,BP hs]
           have zT:=BP hs;have Y:=Yx hs;clear hs;go_wp2;refine AI (by kernel_rfl) (by kernel_rfl) ?_
           repeat (go_big_quiet_step (exact AB.calls (HC.o _)))
           refine wpQuiet_nil ?_;intro n;have V:=Yx ((HX.o _ (HE.o n)).2.2.2.2);clear q1 q2 r0 r1 r2 r3 s0 s1 s2 s3 I J c0 c1 c2 c3 d0 d1 d2 d3;go_wp2;go_ret;exact Ar.no (fun h=>HN.o x y C.o D.o (fun e=>Y.o (by rw[e])) h.2.1) V.o
         ·obtain rfl:k=u.length:=by omega
          have g:=t.o.1;rw[Zt (Zx),Zt (by have:=E4.o;omega)]at g;have HK:=Yx g;have zH:=Yx t.o.2;clear g r s F E f;go_wp2
          go_loopw [6] (fun i wr=>∃k:Nat,k<=A.length/\i=Zg k/\Hid (A.take k=o.take k/\Zz W wr)) (fun i _=>A.length -(intOf i).toNat)
          case atStart=>exact⟨0,Nat.zero_le _,rfl,⟨by simp,zH.o⟩⟩
          case round=>
           obtain⟨k,hk,rfl,t⟩:=hrel;obtain⟨r,s,F,E,f⟩:=HX.o wr t.o.2;have zP:=t.o.2.size;obtain⟨I,_⟩:=r 5 _ rfl;obtain⟨J,_⟩:=s 5 _ rfl;by_cases hlt:k<A.length
           ·have d:k<o.length:=by have:=E5.o;omega
            obtain⟨rb,ro,ha,zE,M⟩:=F.p.at hlt;obtain⟨qb,qo,v,zC,L⟩:=E.p.at d;subst ha v;obtain⟨c0,c1⟩:=M k _ (Zv hlt);obtain⟨d0,d1⟩:=L k _ (Zv d);have S:=Zr zE f.size;have R:=Zr zC f.size;have Z:=Yx (Zu hlt);have zA:=Yx (Zu d);have HN:Hid (∀x y,A[k]?=some x->o[k]?=some y->x≠y->A≠o):=fun x y O P T e=>by subst e;rw[O]at P;exact T (Option.some.inj P)
            have C:=Yx (Zv hlt);have D:=Yx (Zv d);have zM:(k:Int)<o.length:=by omega
            clear M L;generalize A[k]=x at *
            generalize o[k]=y at *
            have HB:=Yx t.o.2;have G:=Yx f;clear r s F E f;by_cases hxy:x=y
            ·subst hxy;go_wp2
             go_region
             all_goals go_wp2
             all_goals exact⟨⟨k+1,by omega,by go_num,⟨by rw[Z.o,zA.o,t.o.1],HB.o.drew⟩⟩,by simp[intOf];omega⟩
            ·have K:=Yx hxy;by_cases n0:x.name=y.name
             ·have k0:x.name.toList=y.name.toList:=by rw[n0]
              have n1:¬x.sum=y.sum:=fun e=>hxy (by
               cases x;cases y;simp_all)
              have k1:¬x.sum.toList=y.sum.toList:=fun e=>n1 (FN e);clear hxy n0 n1;go_wp2
              go_region
              all_goals go_wp2
              all_goals go_ret
              all_goals exact Ar.no (fun h=>HN.o x y C.o D.o K.o h.2.2.1) G.o.drew
             ·have k0:¬x.name.toList=y.name.toList:=fun e=>n0 (FN e);clear n0 hxy;go_wp2
              go_region
              all_goals go_wp2
              all_goals go_ret
              all_goals exact Ar.no (fun h=>HN.o x y C.o D.o K.o h.2.2.1) G.o.drew
           ·obtain rfl:k=A.length:=by omega
            have g:=t.o.1;rw[Zt (Zx),Zt (by have:=E5.o;omega)]at g;have HP:=Yx g;have zH:=Yx t.o.2;have G:=Yx f;clear g r s F E f;go_wp2
            go_loopw [7] (fun i wr=>∃k:Nat,k<=z.length/\i=Zg k/\Hid (z.take k=m.take k/\Zz W wr)) (fun i _=>z.length -(intOf i).toNat)
            case atStart=>exact⟨0,Nat.zero_le _,rfl,⟨by simp,zH.o⟩⟩
            case round=>
             obtain⟨k,hk,rfl,t⟩:=hrel;obtain⟨r,s,F,E,f⟩:=HX.o wr t.o.2;have zP:=t.o.2.size;obtain⟨I,_⟩:=r 6 _ rfl;obtain⟨J,_⟩:=s 6 _ rfl;by_cases hlt:k<z.length
             ·have d:k<m.length:=by have:=E6.o;omega
              obtain⟨rb,ro,ha,zE,M⟩:=F.l.at hlt;obtain⟨qb,qo,v,zC,L⟩:=E.l.at d;subst ha v;obtain⟨c0,c1,c2⟩:=M k _ (Zv hlt);obtain⟨d0,d1,d2⟩:=L k _ (Zv d);have S:=Zr zE f.size;have R:=Zr zC f.size;have Z:=Yx (Zu hlt);have zA:=Yx (Zu d);have HN:Hid (∀x y,z[k]?=some x->m[k]?=some y->x≠y->z≠m):=fun x y O P T e=>by subst e;rw[O]at P;exact T (Option.some.inj P)
              have C:=Yx (Zv hlt);have D:=Yx (Zv d);have zM:(k:Int)<m.length:=by omega
              clear M L;generalize z[k]=x at *
              generalize m[k]=y at *
              have HB:=Yx t.o.2;have G:=Yx f;clear r s F E f;by_cases hxy:x=y
              ·subst hxy;go_wp2
               go_region
               all_goals go_wp2
               all_goals exact⟨⟨k+1,by omega,by go_num,⟨by rw[Z.o,zA.o,t.o.1],HB.o.drew⟩⟩,by simp[intOf];omega⟩
              ·have K:=Yx hxy;by_cases n0:x.num=y.num
               ·have k0:=n0;by_cases n1:x.sum=y.sum
                ·have k1:x.sum.toList=y.sum.toList:=by rw[n1]
                 have n2:¬x.bf=y.bf:=fun e=>hxy (by
                  cases x;cases y;simp_all)
                 clear hxy n1;go_wp2
                 go_region
                 all_goals go_wp2
                 all_goals go_ret
                 all_goals exact Ar.no (fun h=>HN.o x y C.o D.o K.o h.2.2.2) G.o.drew
                ·have k1:¬x.sum.toList=y.sum.toList:=fun e=>n1 (FN e);clear n1 hxy;go_wp2
                 go_region
                 all_goals go_wp2
                 all_goals go_ret
                 all_goals exact Ar.no (fun h=>HN.o x y C.o D.o K.o h.2.2.2) G.o.drew
               ·clear hxy;go_wp2
                go_region
                all_goals go_wp2
                all_goals go_ret
                all_goals exact Ar.no (fun h=>HN.o x y C.o D.o K.o h.2.2.2) G.o.drew
             ·obtain rfl:k=z.length:=by omega
              have g:=t.o.1;rw[Zt (Zx),Zt (by have:=E6.o;omega)]at g;have HL:=Yx g;have zH:=Yx t.o.2;have G:=Yx f;clear g r s F E f;go_wp2;go_ret;exact Ar.yes ⟨⟨E0.o,E1.o,E2.o,E3.o⟩,HK.o,HP.o,HL.o⟩ G.o
       ·have b6:=bne_iff_ne.2 (by omega);go_enter func67,ntmps67;go_upto_region 1 with fail;rw[←B.o];clear B;go_wp2;go_ret;exact Ar.no (fun h=>e6 (by rw[h.2.2.2])) Q
      ·have b5:=bne_iff_ne.2 (by omega);go_enter func67,ntmps67;go_upto_region 1 with fail;rw[←B.o];clear B;go_wp2;go_ret;exact Ar.no (fun h=>e5 (by rw[h.2.2.1])) Q
     ·have b4:=bne_iff_ne.2 (by omega);go_enter func67,ntmps67;go_upto_region 1 with fail;rw[←B.o];clear B;go_wp2;go_ret;exact Ar.no (fun h=>e4 (by rw[h.2.1])) Q
    ·have b3:(ae !=b)=true:=by simp[e3]
     go_enter func67,ntmps67;go_upto_region 1 with fail;rw[←B.o];clear B;go_wp2;go_ret;exact Ar.no (fun h=>e3 h.1.2.2.2) Q
   ·have b2:(given !=c)=true:=by simp[e2]
    go_enter func67,ntmps67;go_upto_region 1 with fail;rw[←B.o];clear B;go_wp2;go_ret;exact Ar.no (fun h=>e2 h.1.2.2.1) Q
  ·have b1:(N !=q)=true:=by simp[e1]
   go_enter func67,ntmps67;go_upto_region 1 with fail;rw[←B.o];clear B;go_wp2;go_ret;exact Ar.no (fun h=>e1 h.1.2.1) Q
 ·have b0:(U !=H)=true:=by simp[e0]
  go_enter func67,ntmps67;go_upto_region 1 with fail;rw[←B.o];clear B;go_wp2;go_ret;exact Ar.no (fun h=>e0 h.1.1) Q
end
theorem TU(a b:Zk)(c d:Nat)(f h:Zl)(w:Zh)(N:Ad w w.heap.size a f)(M:Ad w w.heap.size b h)(ha:a=none->f.length=0/\c=0)(hb:b=none->h.length=0/\d=0)(hl:f.length<=1048576)(zA:h.length<=1048576):
 Calls prog 66 #[.agg #[.slice a f.length c,.slice b h.length d]] w fun e T=>∃g u,e=.returned (Za g (f++h).length u)/\T.ownsRow w.heap.size 9 1 (Za g (f++h).length u) (f++h).length ((f++h).map Value.string)/\Zz w T:=by
 obtain⟨O,L,y,z,A⟩:=info_parts CK;obtain⟨W,m⟩:∃W,W=w.alloc (.cells #[.slice a f.length c,.slice b h.length d] 35):=⟨_,rfl⟩;have o:=(AG m).1;have zW:=(AG m).2.1;have F:=(AG m).2.2;have B:Below W.heap.size W (W.alloc (.cells #[] 9)):=Zy;have Q:(W.alloc (.cells #[] 9)).drew.ownsRow (w.heap.size+1) 9 1 (Za (w.heap.size+1) 0 0) 0 (([]:Zl).map Value.string):=by have K:=World.ownsRow_lit (base:=w.heap.size+1) (e:=9) (size:=1) W #[] 0 (by omega) (by unfold maxLen;omega) rfl;rw[zW]at K;exact K
 have S:=(Ad.below N (o.trans (B.drew.mono o.size))).fb;have H:=Aa.below F B;obtain⟨y0,y1⟩:=Aa.c2 F 0 1;obtain⟨z0,z1⟩:=Aa.c2 H 0 1;have I:=Yx m;have J:=Yx (Zn H (o.trans (B.mono o.size)));have Y:Hid (Ad w w.heap.size b h):=M;clear m F H N M;go_enter func66,ntmps66;go_upto_region 1 with fail;rw[←I.o];clear I
 go_region_law (first
  |(refine Fb (W.alloc (.cells #[] 9)).drew rfl (.tmp 3) (.tmp 5) 22 rfl (w.heap.size+1) 9 O Zd 16 underlying22 L y z A rfl (w.heap.size+1) 0 0 [] rfl Q a f.length c f rfl rfl ha S (by unfold maxLen;omega) (by omega) (by simp<;>omega) ?_;intro D p E l j q s;simp only[Nat.zero_add,List.nil_append]at l;have G:Aa E w.heap.size [.slice a f.length c,.slice b h.length d]:=(Aa.same J.o.1 (j.block _ (by simp<;>omega) (by simp<;>omega)));have n:Below w.heap.size w E:=(J.o.2.drew.grown j (by simp<;>omega) (fun k C=>by cases C;omega));have Z:=(G 0 _ rfl).1;have c1:=(G 1 _ rfl).1;have R:=(Ad.below Y.o n).fb;have V:=j.size;simp at V)
  |(refine Fb E rfl (.tmp 6) (.tmp 8) 22 rfl (w.heap.size+1) 9 O Zd 16 underlying22 L y z A rfl D f.length p f rfl l b h.length d h rfl rfl hb R (by unfold maxLen;omega) (by omega) (by omega) ?_;intro P i U x v r t))
 all_goals
  have l6:w.heap.size+1<=D:=(l.lt D rfl).1;have X:Hid (U.ownsRow w.heap.size 9 1 (Za P (f.length+h.length) i) (f.length+h.length) ((f++h).map Value.string)/\Zz w U):=⟨x.mono (by omega),n.grown v n.size (fun k C=>by cases C;omega)⟩;clear l j q s G n Z c1 R V x v r t Q S y0 y1 z0 z1;go_wp2;go_ret;rw[List.length_append];exact⟨P,i,rfl,X.o⟩
section
attribute [local go_sem↓] Go.wp_at_zero Go.wp_at_succ
theorem Kb{a:Zl}:a.Nodup↔∀(j:Nat) x,a[j]?=some x->x∉a.take j:=by
 unfold List.Nodup;rw[List.pairwise_iff_getElem];constructor
 ·intro h j x b k;obtain⟨g,rfl⟩:=Zw b;obtain⟨i,c,e⟩:=List.getElem_of_mem k;have d:i<j:=by simp at c;omega
  rw[List.getElem_take]at e;exact h i j (by omega) g d e
 ·intro h i j c b l e;refine h j a[j] (Zv b) ?_;rw[←e];have f:i<(a.take j).length:=by simp;omega
  have:=List.getElem_mem f;rw[List.getElem_take]at this;exact this
theorem Ad.front{w:Zh}{B:Nat}{a:Zk}{c:Zl}(h:Ad w B a c)(K:Nat):Ad w B a (c.take K):=by
 rcases h with h|⟨q,d,e,f,g⟩
 ·exact .inl (by simp[h])
 ·refine .inr ⟨q,d,e,f,fun i s b=>g i s ?_⟩;have j:=(Zw b).1;simp at j;rw[List.getElem?_take_of_lt (by omega)]at b;exact b
theorem Vy(l z given ae m ag f o:Int)(T P L:Value)(a b:Zk)(S A:Nat)(g d:Zl)(w:Zh)(hq:Ad w w.heap.size a g)(hm:Ad w w.heap.size b d)(hf:Gj g d)(zM:d.length<=A)(zR:ae<=1000000000):
 Calls prog 68 #[.agg #[Zg l,Zg z,Zg given,Zg ae,T,P,L],.agg (Yk m a g.length S b d.length A ag f o)] w fun e w'=>Ar (AR l ae m ag f o g d) w w' e:=by
 have zT:=hf.q;have zS:=hf.m;obtain⟨W,U⟩:∃W,W=(w.alloc (.cells #[Zg l,Zg z,Zg given,Zg ae,T,P,L] 40)).alloc (.cells (Yk m a g.length S b d.length A ag f o) 41):=⟨_,rfl⟩;have c:Below w.heap.size w W:=by rw[U];exact(Zy).alloc (by simp) _
 have zH:Bg W w.heap.size l z given ae T P L:=by rw[U];exact(Bg.new w l z given ae T P L 40).below (Zy)
 have zG:Bt W (w.heap.size+1) m (.slice a g.length S) (.slice b d.length A) ag f o:=by rw[U];have:=Bt.new (w.alloc (.cells #[Zg l,Zg z,Zg given,Zg ae,T,P,L] 40)) m ag f o (.slice a g.length S) (.slice b d.length A) 41;rw[World.size_alloc]at this;exact this
 have zK:W.heap.size=w.heap.size+2:=by rw[U];simp
 have HW:=Yx U;clear U;have r:=Yx zH;have q:=Yx zG;have HQ:=Yx hq;have HM:=Yx hm;clear zH zG hq hm;by_cases p1:m<0
 ·have d1:decide (m<0)=true:=by simpa using p1
  go_enter func68,ntmps68;go_wp2;go_ret;rw[←HW.o];exact Ar.no (P:=AR l ae m ag f o g d) (fun h=>by rcases h.ph with h|h|h<;>(have:=h.1;omega)) c
 have d1:decide (m<0)=false:=by simpa using p1
 by_cases p2:2<m
 ·have d2:decide ((2:Int)<m)=true:=by simpa using p2
  go_enter func68,ntmps68;go_wp2;go_ret;rw[←HW.o];exact Ar.no (P:=AR l ae m ag f o g d) (fun h=>by rcases h.ph with h|h|h<;>(have:=h.1;omega)) c
 have d2:decide ((2:Int)<m)=false:=by simpa using p2
 go_enter func68,ntmps68;go_wp2_with fail;rw[←HW.o];refine(Hs o 0 1000000000 W).mono ?_;rintro e w1 ⟨rfl,rfl⟩;obtain⟨F,B,C,G,H,I,O⟩:=q.o;by_cases h1:0<=o/\o<=1000000000
 ·rw[decide_eq_true h1];by_cases h2:g.length<=23200
  ·have u:decide ((23200:Int)<(g.length:Int))=false:=by simp;omega
   by_cases h3:d.length<=600
   ·have D:decide ((600:Int)<(d.length:Int))=false:=by simp;omega
    clear HW;go_wp2
    go_loopw [5] (fun i wr=>∃k:Nat,k<=g.length/\i=Zg k/\Hid (∀j x,j<k->g[j]?=some x->(x.size:Int)=l)/\Hid (Bg wr w.heap.size l z given ae T P L)/\Hid (Bt wr (w.heap.size+1) m (.slice a g.length S) (.slice b d.length A) ag f o)/\Zz w wr) (fun i _=>g.length -(intOf i).toNat)
    case atStart=>exact⟨0,Nat.zero_le _,rfl,fun j x h=>by omega,r,q,c⟩
    case round=>
     clear F B C G H I O r q c zK;obtain⟨k,hk,rfl,p,r,q,c⟩:=hrel;obtain⟨F,B,C,G,H,I,O⟩:=q.o;obtain⟨J,_,_,Q,_,_,_,Z⟩:=r.o;by_cases hlt:k<g.length
     ·obtain⟨b',zC,ha,hb,hc⟩:=(Ad.below HQ.o c).at hlt;subst ha;have N:=Yx (Zv hlt);have M:=hc k _ N;have K:=Zr hb c.size;clear hc;generalize g[k]=x at *
      have V:=AB.cell B O;have X:=AB.cell M K;have Y:=AB.cell J Z;have zI:=AB.ne wr;by_cases h:(x.size:Int)=l
      ·have hn:((x.size:Int) !=l)=false:=by simp[h]
       have HA:Hid (∀j y,j<k+1->g[j]?=some y->(y.size:Int)=l):=by
        intro j y hj E;rcases Nat.lt_or_ge j k with v|v
        ·exact p j y v E
        ·obtain rfl:j=k:=by omega
         rw[N.o]at E;cases E;exact h
       go_wp2;refine AI (by kernel_rfl) (by kernel_rfl) ?_
       repeat (go_big_quiet_step (fail))
       refine wpQuiet_nil ?_;intro n;have zB:=Yx (Bg.aj r.o n.h Z);have zA:=Yx (Bt.aj q.o n.h O);have t:=c.trans (n.h.mono c.size);clear V X Y F B C G H I J Q M;go_wp2;exact⟨⟨k+1,by omega,by go_num,HA,zB,zA,t⟩,by simp[intOf];omega⟩
      ·have hn:((x.size:Int) !=l)=true:=by simp[h]
       go_wp2;refine AI (by kernel_rfl) (by kernel_rfl) ?_
       repeat (go_big_quiet_step (fail))
       refine wpQuiet_nil ?_;intro n;have t:=c.trans (n.h.mono c.size);clear V X Y F B C G H I J Q M;go_wp2;go_ret;exact Ar.no (P:=AR l ae m ag f o g d) (fun v=>h (v.fc.q x (Zs N.o))) t
     ·have zE:Hid (∀s∈g,(s.size:Int)=l):=by intro s hs;obtain⟨j,hj,rfl⟩:=List.getElem_of_mem hs;exact p j _ (by omega) (Zv hj)
      clear p;go_wp2
      go_loopw [6] (fun i wr=>∃k:Nat,k<=d.length/\i=Zg k/\Hid (∀j x,j<k->d[j]?=some x->(x.size:Int)=l/\x∉d.take j)/\Hid (Bg wr w.heap.size l z given ae T P L)/\Hid (Bt wr (w.heap.size+1) m (.slice a g.length S) (.slice b d.length A) ag f o)/\Zz w wr) (fun i _=>d.length -(intOf i).toNat)
      case atStart=>exact⟨0,Nat.zero_le _,rfl,fun j x h=>by omega,r,q,c⟩
      case round=>
       clear F B C G H I O J Q Z r q c;obtain⟨k,hk,rfl,p,r,q,c⟩:=hrel;obtain⟨F,B,C,G,H,I,O⟩:=q.o;obtain⟨J,_,_,Q,_,_,_,Z⟩:=r.o;by_cases hlt:k<d.length
       ·obtain⟨b',zC,ha,hb,hc⟩:=(Ad.below HM.o c).at hlt;subst ha;have N:=Yx (Zv hlt);have M:=hc k _ N;have K:=Zr hb c.size;clear hc;generalize d[k]=x at *
        have V:=AB.cell C O;have X:=AB.cell M K;have Y:=AB.cell J Z;have zI:=AB.ne wr;have zJ:(d.take k).length=k:=by simp;omega
        have hH:∀n:AB wr,Calls prog 85 #[.slice (some ⟨b',zC,none⟩) k A,.string x] n.w fun e w'=>e=.returned (.bool ((d.take k).any (fun y=>decide (y=x))))/\Below n.w.heap.size n.w w':=fun n=>by have:=PU (some ⟨b',zC,none⟩) A (d.take k) x n.w w.heap.size (Ad.front (Ad.below HM.o (c.trans (n.h.mono c.size))) k) (by omega);rw[zJ]at this;exact this.mono (by rintro e w' ⟨rfl,rfl⟩;exact⟨rfl,Below.refl _ _⟩)
        have HH:=Yx hH;clear hH;have zU:k<=A:=by omega
        by_cases h:(x.size:Int)=l
        ·have hn:((x.size:Int) !=l)=false:=by simp[h]
         cases hin:(d.take k).any (fun y=>decide (y=x))with
         |false=>
          rw[hin]at HH;have R:x∉d.take k:=fun hx=>by have:(d.take k).any (fun y=>decide (y=x))=true:=List.any_eq_true.2 ⟨x,hx,by simp⟩;rw[hin]at this;cases this
          have HA:Hid (∀j y,j<k+1->d[j]?=some y->(y.size:Int)=l/\y∉d.take j):=by
           intro j y hj E;rcases Nat.lt_or_ge j k with v|v
           ·exact p j y v E
           ·obtain rfl:j=k:=by omega
            rw[N.o]at E;cases E;exact⟨h,R⟩
          clear R p;go_wp2;refine AI (by kernel_rfl) (by kernel_rfl) ?_
          repeat (go_big_quiet_step (exact AB.calls (HH.o _)))
          refine wpQuiet_nil ?_;intro n;have zB:=Yx (Bg.aj r.o n.h Z);have zA:=Yx (Bt.aj q.o n.h O);have t:=c.trans (n.h.mono c.size);clear V X Y F B C G H I J Q M;go_wp2;exact⟨⟨k+1,by omega,by go_num,HA,zB,zA,t⟩,by simp[intOf];omega⟩
         |true=>
          rw[hin]at HH;have HN:Hid (x∈d.take k):=by
           obtain⟨y,E,e⟩:=List.any_eq_true.1 hin;have:y=x:=by simpa using e
           rw[←this];exact E
          clear p;go_wp2;refine AI (by kernel_rfl) (by kernel_rfl) ?_
          repeat (go_big_quiet_step (exact AB.calls (HH.o _)))
          refine wpQuiet_nil ?_;intro n;have t:=c.trans (n.h.mono c.size);clear V X Y F B C G H I J Q M;go_wp2;go_ret;exact Ar.no (P:=AR l ae m ag f o g d) (fun v=>(Kb.1 v.fc.nd) k x N.o HN.o) t
        ·have hn:((x.size:Int) !=l)=true:=by simp[h]
         go_wp2;refine AI (by kernel_rfl) (by kernel_rfl) ?_
         repeat (go_big_quiet_step (fail))
         refine wpQuiet_nil ?_;intro n;have t:=c.trans (n.h.mono c.size);clear V X Y F B C G H I J Q M;go_wp2;go_ret;exact Ar.no (P:=AR l ae m ag f o g d) (fun v=>h (v.fc.m x (Zs N.o))) t
       ·have HS:Hid (Ou l g d):=by refine⟨h2,h3,zE.o,fun s hs=> ?_,Kb.2 fun j x hx=>(p j x (by have:=(Zw hx).1;omega) hx).2⟩;obtain⟨j,hj,rfl⟩:=List.getElem_of_mem hs;exact(p j _ (by omega) (Zv hj)).1
        clear p zE;by_cases p0:m=0
        ·subst p0;by_cases e1:g.length=0
         ·by_cases u:d.length=0
          ·by_cases D:ag=0
           ·by_cases e4:f=0
            ·go_wp2;go_ret;exact Ar.yes (P:=AR l ae 0 ag f o g d) ⟨h1.1,h1.2,HS.o,.inl ⟨rfl,List.eq_nil_of_length_eq_zero e1,List.eq_nil_of_length_eq_zero u,D,e4⟩⟩ c
            ·have zP:(f==0)=false:=by simpa using e4
             go_wp2;go_ret;exact Ar.no (P:=AR l ae 0 ag f o g d) (fun h=>by have:=h.ph;unfold Ev at this;simp at this;have h9:=this.2.2.2;omega) c
           ·have zF:(ag==0)=false:=by simpa using D
            go_wp2;go_ret;exact Ar.no (P:=AR l ae 0 ag f o g d) (fun h=>by have:=h.ph;unfold Ev at this;simp at this;have h9:=this.2.2.1;omega) c
          ·have zO:=beq_eq_false_iff_ne.2 (by omega);go_wp2;go_ret;exact Ar.no (P:=AR l ae 0 ag f o g d) (fun h=>by have:=h.ph;unfold Ev at this;simp at this;exact u (by rw[this.2.1];rfl)) c
         ·have zN:=beq_eq_false_iff_ne.2 (by omega);go_wp2;go_ret;exact Ar.no (P:=AR l ae 0 ag f o g d) (fun h=>by have:=h.ph;unfold Ev at this;simp at this;exact e1 (by rw[this.1];rfl)) c
        ·have zW:(m==0)=false:=by simpa using p0
         go_wp2_with fail;refine(Hs ag 0 ae wr).mono ?_;rintro e w1 ⟨rfl,rfl⟩;by_cases e1:0<=ag/\ag<=ae
         ·rw[decide_eq_true e1];have zV:=Ir (by omega) (by omega);go_wp2_with fail;refine(Hs f 1 (ag+1) _).mono ?_;rintro e w1 ⟨rfl,rfl⟩;by_cases u:1<=f/\f<=ag+1
          ·rw[decide_eq_true u];by_cases p3:m=2
           ·subst p3;go_wp2;go_ret;exact Ar.yes (P:=AR l ae 2 ag f o g d) ⟨h1.1,h1.2,HS.o,.inr (.inr ⟨rfl,e1.1,e1.2,u.1,u.2⟩)⟩ c
           ·have zX:(m==2)=false:=by simpa using p3
            obtain rfl:m=1:=by omega
            by_cases D:f=ag+1
            ·have zF:(f==ag+1)=true:=by simpa using D
             go_wp2;go_ret;exact Ar.yes (P:=AR l ae 1 ag f o g d) ⟨h1.1,h1.2,HS.o,.inr (.inl ⟨rfl,e1.1,e1.2,D⟩)⟩ c
            ·have zF:(f==ag+1)=false:=by simpa using D
             go_wp2;go_ret;exact Ar.no (P:=AR l ae 1 ag f o g d) (fun h=>by have:=h.ph;unfold Ev at this;simp at this;exact D this.2.2) c
          ·rw[decide_eq_false u];go_wp2;go_ret;exact Ar.no (P:=AR l ae m ag f o g d) (fun h=>by rcases h.ph with h|h|h;exact p0 h.1;exact u (by have:=h.2.2.2;omega);exact u h.2.2.2) c
         ·rw[decide_eq_false e1];go_wp2;go_ret;exact Ar.no (P:=AR l ae m ag f o g d) (fun h=>by rcases h.ph with h|h|h;exact p0 h.1;exact e1 ⟨h.2.1,h.2.2.1⟩;exact e1 ⟨h.2.1,h.2.2.1⟩) c
   ·have D:decide ((600:Int)<(d.length:Int))=true:=by simp;omega
    go_wp2;go_ret;exact Ar.no (P:=AR l ae m ag f o g d) (fun h=>h3 h.fc.nm) c
  ·have u:decide ((23200:Int)<(g.length:Int))=true:=by simp;omega
   go_wp2;go_ret;exact Ar.no (P:=AR l ae m ag f o g d) (fun h=>h2 h.fc.nq) c
 ·rw[decide_eq_false h1];go_wp2;go_ret;exact Ar.no (P:=AR l ae m ag f o g d) (fun h=>h1 ⟨h.io,h.ir⟩) c
end
end Go.Proofs.YtlhhpofjkgmbeaaGreatDoor
