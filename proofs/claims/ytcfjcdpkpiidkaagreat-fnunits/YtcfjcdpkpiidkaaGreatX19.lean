import Derived.Test.YtcfjcdpkpiidkaaGreatX17
import Derived.Test.YtcfjcdpkpiidkaaGreatX18
import Derived.Test.YtcfjcdpkpiidkaaGreatX15
set_option maxRecDepth 100000
set_option maxHeartbeats 16000000
namespace Go.Proofs.YtcfjcdpkpiidkaaGreat
open ChangeShapes WideShapes ChangeAt RowKit _root_.Go.Proofs.Tryz
variable{wd now given births ph top at_ ro:Int}{ms a qs:Zl}{s:Zi}{w w':Zh}{b n c base o mm d m:Nat}{r O P L Q M:Value}{q:Option Nat}{ks:List Kd}{ps:List Pd}{ls:List Ld}
theorem NW(b:∀x∈ms,(x.size:Int)=wd)(g:(s.size:Int)=wd)(f:wd<=8):keyL s∈ms.map keyL↔s∈ms:=by
 constructor
 .intro h;obtain⟨x,a,e⟩:=List.mem_map.1 h;have:=b x a;have:=key_inj e Yv Yv;exact this▸a
 .exact fun h=>List.mem_map.2 ⟨s,h,rfl⟩
theorem AT.V{K:TypeId}{f:Lit->Option Value}(h:AT w K b n c f)(j:w'.heap[b]?=w.heap[b]?):AT w' K b n c f:=by obtain⟨D,⟨a,clock,e,g⟩,i⟩:=h;exact⟨D,⟨a,clock,j.trans e,g⟩,i⟩
theorem Gt(c d:Nat)(ph top at_ ro:Int)(Q M D:Value)(mm n l:Nat)(f:Lit->Option Value)(wd:Int)(ms:Zl)(s:Zi)(w:Zh)(a:Aa w c (Fy d ph Q M top at_ ro mm D))(i:AT w 94 mm n l f)(o:MK ms f l)(g:∀x∈ms,(x.size:Int)=wd)(y:(s.size:Int)=wd)(v:wd<=8):
 Calls prog 64 #[Yy c,.string s] w fun e w'=>Ao (s∈ms) w w' e:=by
 obtain⟨k,r,A,_,b⟩:=o.get (keyL s);have u:Hid (0<k↔s∈ms):=b.trans (NW g y v);have HS:Hid (∀X,Zz w X->X.cell? (Zd c 7)=some (.map (some mm))/\(Instr.lookup 57 (.map (some mm)) (BX s) false).run prog X=.ok (Zg k) X):=fun X q=>
  ⟨((a.below q) 7 _ rfl).1,by have:=(i.ah q i.lt).map.look keyed underlying57 (EI X) (Ct s);rw[r]at this;exact this⟩
 have h:Below w.heap.size w w.drew:=Ad.drew;clear a i o r b g;go_enter func64,ntmps64;go_upto_region 1 with fail;go_region_held3 (fun X=>X.cell? (Zd c 7)=some (.map (some mm))/\(Instr.lookup 57 (.map (some mm)) (BX s) false).run prog X=.ok (Zg k) X)
  (first|with_reducible exact HS.o _ h|with_reducible exact HS.o _ j)
  (first|(go_at_call 42;refine(EH s w.drew).mono ?_;rintro e z ⟨rfl,t⟩;have j:Below w.heap.size w z:=h.trans (t.mono h.size)))
 all_goals
  go_wp2;go_ret;exact⟨_,rfl,by rw[decide_eq_true_iff];exact u.o,j⟩
theorem c9{a e f g i j k l n:Value}(h:Aa w b [a,e,f,g,i,j,k,l,n]):(w.cell? (Zd b 0)=some a/\w.frozen? ⟨b,0,none⟩=false)/\(w.cell? (Zd b 1)=some e/\w.frozen? ⟨b,1,none⟩=false)/\(w.cell? (Zd b 2)=some f/\w.frozen? ⟨b,2,none⟩=false)/\(w.cell? (Zd b 3)=some g/\w.frozen? ⟨b,3,none⟩=false)/\(w.cell? (Zd b 4)=some i/\w.frozen? ⟨b,4,none⟩=false)/\(w.cell? (Zd b 5)=some j/\w.frozen? ⟨b,5,none⟩=false)/\(w.cell? (Zd b 6)=some k/\w.frozen? ⟨b,6,none⟩=false)/\(w.cell? (Zd b 7)=some l/\w.frozen? ⟨b,7,none⟩=false)/\(w.cell? (Zd b 8)=some n/\w.frozen? ⟨b,8,none⟩=false):=
 ⟨h 0 _ rfl,h 1 _ rfl,h 2 _ rfl,h 3 _ rfl,h 4 _ rfl,h 5 _ rfl,h 6 _ rfl,h 7 _ rfl,h 8 _ rfl⟩
theorem NX(c d:Nat)(ph top at_ ro:Int)(Q M D:Value)(mm:Nat)(w:Zh)(b:Aa w c (Fy d ph Q M top at_ ro mm D))(h0:0<=ro)(U:ro<=1000000000):
 Calls prog 46 #[Yy c] w fun e w'=>e=.returned (.tuple #[])/\∃a,Aa w' c (Fy d 0 Zb Zb 0 0 (ro+1) a D)/\Tn [c] w w'/\w.heap.size<=a/\∃h f,AT w' 94 a 0 h f/\MK [] f h:=by
 have X:=b.lt;obtain⟨W,j⟩:=Af ((((((w.setCell (Zd c 1) Ze).setCell (Zd c 2) Zb).setCell (Zd c 3) Zb).setCell (Zd c 4) Ze).setCell (Zd c 5) Ze).setCell (Zd c 6) (Zg (ro+1)));have T:Aa W c (Fy d 0 Zb Zb 0 0 (ro+1) mm D):=by rw[j];exact(((((b.set 1 _).set 2 _).set 3 _).set 4 _).set 5 _).set 6 _
 have H:Tn [c] w W:=by rw[j];exact(((((AS _ _ _ _).trans (AS _ _ _ _)).trans (AS _ _ _ _)).trans (AS _ _ _ _)).trans (AS _ _ _ _)).trans (AS _ _ _ _)
 obtain⟨⟨x,l⟩,⟨y,n⟩,⟨z,o⟩,⟨A,q⟩,⟨B,r⟩,⟨C,s⟩,⟨E,t⟩,⟨F,u⟩,G,v⟩:=c9 b;have K:=Yw j;have N:Hid (Aa W c (Fy d 0 Zb Zb 0 0 (ro+1) mm D)):=T;clear j b T;go_enter func46,ntmps46;go_upto_region 1 with fail;rw[<-K.o];clear K x y z A B C E F G l n o q r s t u v;obtain⟨⟨x,l⟩,⟨y,n⟩,⟨z,o⟩,⟨A,q⟩,⟨B,r⟩,⟨C,s⟩,⟨E,t⟩,⟨F,u⟩,G,v⟩:=c9 N.o;go_wp2_with fail
 refine(GX 0 0 0 (ro+1) none none 0 0 0 [] W (.inl rfl) Yu).mono ?_;rintro e I ⟨a,h,f,rfl,k,S,R,i⟩;have J:=Aa.below N.o i;obtain⟨Y,V⟩:=J 7 _ rfl;have g:=Yw (Za J (Za i (Za k (Za S R))));clear S R k J i x y z A B C E F G l n o q r s t u v;go_wp2
 exact⟨rfl,_,results_none rfl _ _ _,rfl,a,Aa.set g.o.1 7 _,(H.trans (Tn.of g.o.2.1)).trans (AS _ _ _ _),Zm H.size g.o.2.2.1,h,f,g.o.2.2.2.1.V (Below.heap_setCell _ _ _ _ (fun e=>by have U:=g.o.2.2.1;have h2:=H.size;have Z:a=c:=e;omega)),g.o.2.2.2.2⟩
theorem TN(a:Zl)(s x:Zi):x∈Av a s↔x∈a\/x=s:=by
 unfold Av;split
 .rename_i h
  simp at h;constructor
  .exact fun h=> .inl h
  .rintro(b|rfl)
   .exact b
   .exact h
 .simp
theorem Mt(a:Zl):∀(o:Zl) (x:Zi),x∈a.foldl Av o↔x∈o\/x∈a:=by
 induction a with
 |nil=>intro o x;simp
 |cons y ys ih=>intro o x;rw[List.foldl_cons,ih,TN,List.mem_cons,or_assoc]
theorem Vp(h:s∈a):(a++[s]).foldl Av []=a.foldl Av []:=by rw[List.foldl_append,List.foldl_cons,List.foldl_nil];have:s∈a.foldl Av []:=(Mt a [] s).2 (.inr h);exact if_pos (by simpa using this)
theorem TO(h:s∉a):(a++[s]).foldl Av []=a.foldl Av []++[s]:=by rw[List.foldl_append,List.foldl_cons,List.foldl_nil];have:s∉a.foldl Av []:=fun e=>h (((Mt a [] s).1 e).resolve_left Yu);exact if_neg (by simpa using this)
def HS(w:Zh)(base eb sb:Nat)(xs:Zl):Prop:=
 ∃V b n c f,Aa w sb [V]/\Aa w eb [.map (some b)]/\Ah w base V (xs.foldl Av [])/\AT w 94 b n c f/\MK xs f c/\n<=xs.length/\(∀g,Aj V=some g->g≠sb/\g≠eb/\g≠b)/\sb≠eb/\sb≠b/\eb≠b/\base<=sb/\base<=eb/\base<=b
theorem HS.below{e i:Nat}{j:Zl}(h:HS w base e i j)(a:Zz w w'):HS w' base e i j:=by obtain⟨V,b,n,c,f,k,l,o,g,q⟩:=h;exact⟨V,b,n,c,f,k.below a,l.below a,o.below a,g.ah a g.lt,q⟩
theorem JO(base u t:Nat)(wd:Int)(i:Zl)(s:Zi)(w:Zh)(h:HS w base u t i)(hx:∀x∈i,(x.size:Int)=wd)(hs:(s.size:Int)=wd)(h8:wd<=8)(hl:i.length<=1000)(zI:base<=w.heap.size):
 Calls prog 94 #[.string s,Yy u,Yy t] w fun e w'=>(∃v,e=.returned v)/\HS w' base u t (i++[s])/\Below base w w':=by
 obtain⟨V,b,n,c,f,h1,h2,h3,h4,h5,yI,hV,o,l,r,I,zC,zV⟩:=h;obtain⟨nn,hn,zY,zZ,yA⟩:=h5.get (keyL s);obtain⟨D,E,rfl,_⟩:=h3.row;have HI:Hid (0<nn↔s∈i):=yA.trans (NW hx hs h8);have hlen:(i.foldl Av []).length<=100000000:=by have:=CB i [];simp at this;omega
 have A:=Yw (Za h1 (Za h2 (Za h3 (Za h4 h5))));clear h1 h2 h3 h4 h5 yA hx;go_enter func94,ntmps94;go_wp2_with fail;refine(EH s w).mono ?_;rintro e w1 ⟨rfl,zE⟩;obtain⟨B,hB⟩:=Af w1.heap.size;obtain⟨W,hW⟩:=Af (w1.alloc (.cells (Yk (kB s)) 94));have b1:Below w1.heap.size w1 W:=by rw[hW];exact Zy
 have T:Below w.heap.size w W:=zE.trans (b1.mono zE.size);have zB:w.heap.size<=B:=by rw[hB];exact zE.size
 have zW:B<W.heap.size:=by rw[hW,hB];simp
 have C:Aa W B (Bj s):=by rw[hW,hB];exact Aa.new w1 (Bj s) 94
 have a:Hid (AT W 94 b n c f/\Aa W t [.slice D (i.foldl Av []).length E]/\Aa W u [.map (some b)]/\Ah W base (.slice D (i.foldl Av []).length E) (i.foldl Av [])/\MK i f c/\(∀g,Aj (.slice D (i.foldl Av []).length E)=some g->g≠t/\g≠u/\g≠b)/\Below base w W):=⟨A.o.2.2.2.1.ah T A.o.2.2.2.1.lt,A.o.1.below T,A.o.2.1.below T,A.o.2.2.1.below T,A.o.2.2.2.2,hV,T.mono zI⟩
 have zG:=a.o.1.map.look keyed underlying57 (EI W) (Ct s);rw[hn]at zG;have e0:=(a.o.2.2.1 0 _ rfl).1;obtain⟨s0,g0⟩:=a.o.2.1 0 _ rfl;have yE:=Aa.lt a.o.2.1;have yD:=Aa.lt a.o.2.2.1;have yC:=AT.lt a.o.1;have yK:w.heap.size<=W.heap.size:=T.size;have HW:=Yw hW;have HB:=Yw hB;have yJ:t<B:=Zr (Aa.lt A.o.1) zB;have yH:u<B:=Zr (Aa.lt A.o.2.1) zB;have yG:b<B:=Zr (AT.lt A.o.2.2.2.1) zB
 have yB:Hid (∀g,Aj (.slice D (i.foldl Av []).length E)=some g->g<B):=fun g j=>Zr (Ah.V A.o.2.2.1 j).2 zB;clear hW hB T b1 zE A hV;unfold BX Cu at zG |-;go_upto_region 1 with fail;rw[<-HW.o,<-HB.o];clear HW HB;obtain⟨y0,_⟩:=C 0 _ rfl;obtain⟨y1,_⟩:=C 1 _ rfl;obtain⟨y2,_⟩:=C 2 _ rfl;obtain⟨y3,_⟩:=C 3 _ rfl;obtain⟨y4,_⟩:=C 4 _ rfl;obtain⟨y5,_⟩:=C 5 _ rfl;obtain⟨y6,_⟩:=C 6 _ rfl;obtain⟨y7,_⟩:=C 7 _ rfl
 have HY:Hid (Aa W B (Bj s)):=C;clear C;by_cases hin:0<nn
 .have hq:(nn==0)=false:=Yt
  have zM:Hid (s∈i):=HI.o.1 hin;go_upto_region 3 with fail;have Z:Below W.heap.size W W.drew:=Ad.drew;obtain⟨st,w3,w4,Y,R,N,zP,S,zO,K⟩:=(AT.ah a.o.1 Z (AT.lt a.o.1)).gq keyed underlying57 Yo EI (Ct s) (Zg (nn+1));rw[hn]at Y R N;unfold goInt at Y zP;unfold BX Cu at Y R N;have z:W.grownBy w4 (some b):=(Ak _ Z).trans K
  have HF:Hid (HS w4 base u t (i++[s])/\Below base w w4):=by
   refine⟨⟨.slice D (i.foldl Av []).length E,b,n+1,_,_,Aa.au a.o.2.1 z (fun e=>l e.symm),Aa.au a.o.2.2.1 z (fun e=>r e.symm),?_,S,MK.snoc a.o.2.2.2.2.1 s zY zZ,Yt,a.o.2.2.2.2.2.1,o,l,r,I,zC,zV⟩,a.o.2.2.2.2.2.2.trans (Ad.grown z Yv (fun q e=>by cases e;omega))⟩
   have J:=Ah.stays a.o.2.2.2.1 z.size (fun g j=>z.block g (Ah.V a.o.2.2.2.1 j).2 (fun e=>(a.o.2.2.2.2.2.1 g j).2.2 (Option.some.inj e)));rw[Vp zM.o];exact J
  clear S zO K z a Z zG
  go_region
  all_goals
   go_wp2
   go_end0
   exact⟨⟨_,rfl⟩,HF.o.1,HF.o.2⟩
 .have hz:nn=0:=Yv
  have hq:(nn==0)=true:=by simpa using hz
  have zM:Hid (s∉i):=fun e=>hin (HI.o.2 e);obtain⟨V',w5,hr,zH,zF,zN⟩:=Ek (W.alloc (.cells #[.string s] 9)) base (.slice D (i.foldl Av []).length E) (i.foldl Av []) (a.o.2.2.2.1.below (Zy)) ⟨W.heap.size,0,none⟩ 1 s (by simp[go_sem]) hlen Yt 29;obtain⟨F,G,rfl,_⟩:=zH.row;simp only[List.length_append,List.length_cons,List.length_nil,Nat.zero_add]at hr zH zN
  have zA:(W.alloc (.cells #[.string s] 9)).heap.size=W.heap.size+1:=Yu
  have bA:Below W.heap.size W (W.alloc (.cells #[.string s] 9)):=Zy;have gg:∀k,k<W.heap.size->(∀g,Aj (.slice D (i.foldl Av []).length E)=some g->g≠k)->w5.heap[k]?=W.heap[k]?:=fun k hk j=>(zF.block k Yv (fun e=>j k e.symm rfl)).trans (bA.block k hk);have zJ:Aa w5 t [.slice D (i.foldl Av []).length E]:=Aa.same a.o.2.1 (gg t yE (fun g j=>(a.o.2.2.2.2.2.1 g j).1))
  have zR:Aa w5 u [.map (some b)]:=Aa.same a.o.2.2.1 (gg u yD (fun g j=>(a.o.2.2.2.2.2.1 g j).2.1));have zT:Aa w5 B (Bj s):=Aa.same HY.o (gg B zW (fun g j=>Nat.ne_of_lt (yB.o g j)));have zU:AT w5 94 b n c f:=AT.V a.o.1 (gg b yC (fun g j=>(a.o.2.2.2.2.2.1 g j).2.2));have H:∀g,Aj (.slice F ((i.foldl Av []).length+1) G)=some g->g≠t/\g≠u/\g≠b:=fun g j=>by
   rcases zN with h'|h'
   .exact a.o.2.2.2.2.2.1 g (h'▸j)
   .rw[h',zA]at j;cases j;exact⟨Yv,Yv,Yv⟩
  obtain⟨X,U⟩:=Af (w5.setCell (Zd t 0) (.slice F ((i.foldl Av []).length+1) G));have yL:=zF.size;have bX:Below base w X:=by rw[U];exact(a.o.2.2.2.2.2.2.trans ((bA.mono Yv).grown zF Yv (fun k e=>(Ah.V a.o.2.2.2.1 e).1))).setCell (by simpa using I) _
  have oX:∀k,k≠t->X.heap[k]?=w5.heap[k]?:=fun k hk=>by rw[U];exact Below.heap_setCell _ _ _ _ hk
  have zX:W.heap.size+1<=X.heap.size:=by rw[U];simp;omega
  have zK:Hid (AT X 94 b n c f/\Aa X t [.slice F ((i.foldl Av []).length+1) G]/\Aa X u [.map (some b)]/\Ah X base (.slice F ((i.foldl Av []).length+1) G) (i.foldl Av []++[s])/\MK i f c/\(∀g,Aj (.slice F ((i.foldl Av []).length+1) G)=some g->g≠t/\g≠u/\g≠b)/\Below base w X):=
   ⟨AT.V zU (oX b (fun e=>l e.symm)),by rw[U];exact zJ.set 0 _,zR.same (oX u (fun e=>o e.symm)),zH.stays (by rw[U];simp) (fun g j=>oX g (H g j).1),a.o.2.2.2.2.1,H,bX⟩
  have y:Aa X B (Bj s):=zT.same (oX B Yv);have yF:=(zK.o.2.2.1 0 _ rfl).1;obtain⟨s5,g5⟩:=zJ 0 _ rfl;obtain⟨z0,_⟩:=y 0 _ rfl;obtain⟨z1,_⟩:=y 1 _ rfl;obtain⟨z2,_⟩:=y 2 _ rfl;obtain⟨z3,_⟩:=y 3 _ rfl;obtain⟨z4,_⟩:=y 4 _ rfl;obtain⟨z5,_⟩:=y 5 _ rfl;obtain⟨z6,_⟩:=y 6 _ rfl;obtain⟨z7,_⟩:=y 7 _ rfl;have zS:=Yw U;clear U oX bX y zJ zR zT zU H zH zN gg bA zF zA;go_wp2_with (first
   |(at_builtin;refine wpList_append_run rfl _ _ 29 29 rfl rfl rfl hr ?_)
   |go_in)
  clear y0 y1 y2 y3 y4 y5 y6 y7 hr;go_upto_region 3 with fail;rw[<-zS.o];clear zS a;have a:=zK;clear zK s0 g0 s5 g5 e0 hz hq hin;have Z:Below X.heap.size X X.drew:=Ad.drew;obtain⟨st,w3,w4,Y,R,N,zP,S,zO,K⟩:=(AT.ah a.o.1 Z (AT.lt a.o.1)).gq keyed underlying57 Yo EI (Ct s) (Zg (nn+1));rw[hn]at Y R N;unfold goInt at Y zP;unfold BX Cu at Y R N
  have z:X.grownBy w4 (some b):=(Ak _ Z).trans K;have HF:Hid (HS w4 base u t (i++[s])/\Below base w w4):=by
   refine⟨⟨.slice F ((i.foldl Av []).length+1) G,b,n+1,_,_,Aa.au a.o.2.1 z (fun e=>l e.symm),Aa.au a.o.2.2.1 z (fun e=>r e.symm),?_,S,MK.snoc a.o.2.2.2.2.1 s zY zZ,Yt,a.o.2.2.2.2.2.1,o,l,r,I,zC,zV⟩,a.o.2.2.2.2.2.2.trans (Ad.grown z Yv (fun q e=>by cases e;omega))⟩
   have J:=Ah.stays a.o.2.2.2.1 z.size (fun g j=>z.block g (Ah.V a.o.2.2.2.1 j).2 (fun e=>(a.o.2.2.2.2.2.1 g j).2.2 (Option.some.inj e)));rw[TO zM.o];exact J
  clear S zO K z a Z zG
  go_region
  all_goals
   go_wp2
   go_end0
   exact⟨⟨_,rfl⟩,HF.o.1,HF.o.2⟩
theorem QQ(ps:List Pd)(ls:List Ld):Br ps ls=(ps.map (·.sum)++ls.map (·.sum)).foldl Av []:=by rw[List.foldl_append];rfl
theorem NY(base d m:Nat)(O P L:Value)(wd now given births:Int)(ks:List Kd)(ps:List Pd)(ls:List Ld)(w:Zh)(r:Dr w base d m O P L wd now given births ks ps ls)(S:ps.length<=100)(hl:ls.length<=200)(X:∀p∈ps,(p.sum.size:Int)=wd)(U:∀l∈ls,(l.sum.size:Int)=wd)(h8:wd<=8):
 Calls prog 62 #[Yy d] w fun e w'=>∃V,e=.returned V/\Ah w' w.heap.size V (Br ps ls)/\Zz w w':=by
 obtain⟨pa,zI,rfl⟩:=As r.cv;obtain⟨la,zH,rfl⟩:=As r.dz;have zB:Hid (AM w w.heap.size pa ps):=AM.own r.cv;have zA:Hid (AN w w.heap.size la ls):=AN.own r.dz;have HD:=Yw r;have zE:=r.box.lt;have zF:∀(fn:Fn) (first cap:Array Value) (w:Zh),(Instr.makeFunc fn first cap).run prog w=.ok (.func fn first cap) w:=fun _ _ _ _=>rfl;have zG:= @run_makeMap prog;have J:Hid (∀x∈ps.map (·.sum),(x.size:Int)=wd):=by intro x hx;obtain⟨p,S,rfl⟩:=List.mem_map.1 hx;exact X p S
 have T:Hid (∀x∈ls.map (·.sum),(x.size:Int)=wd):=by intro x hx;obtain⟨p,S,rfl⟩:=List.mem_map.1 hx;exact U p S
 obtain⟨W,B⟩:=Af (((w.alloc (.cells #[Zb] 29)).alloc (.map #[] 0)).alloc (.cells #[.map (some (w.heap.size+1))] 57));have bW:Below w.heap.size w W:=by rw[B];exact((Zy).alloc Yu _).alloc Yt _
 have H0:Hid (HS W w.heap.size (w.heap.size+2) w.heap.size []):=by
  have D:Aa W w.heap.size [Zb]:=by rw[B];exact Aa.below (Aa.below (Aa.new w [Zb] 29) (Zy)) (Zy)
  have E:AT W 94 (w.heap.size+1) 0 0 (fun _=>none):=by have:=AT.new (w.alloc (.cells #[Zb] 29)) 94;rw[World.size_alloc]at this;rw[B];exact this.ah (Zy) Yu
  have c2:Aa W (w.heap.size+2) [.map (some (w.heap.size+1))]:=by have:=Aa.new ((w.alloc (.cells #[Zb] 29)).alloc (.map #[] 0)) [.map (some (w.heap.size+1))] 57;rw[World.size_alloc,World.size_alloc]at this;rw[B];exact this
  exact⟨_,_,0,0,_,D,c2,Ah.nil _ _,E,MK.nil,Zx,(fun g hg=>by cases hg),Yv,Yv,Yv,Yv,Yv,Yv⟩
 obtain⟨p0,_⟩:=Aa.below r.box bW 6 _ rfl;have HW:=Yw B;clear B r X U;go_enter func62,ntmps62;go_upto_region 3 with fail;rw[<-HW.o];clear HW;go_wp2
 go_loopw [17] (fun i wr=>∃k:Nat,k<=ps.length/\i=Zg k/\Hid (HS wr w.heap.size (w.heap.size+2) w.heap.size ((ps.map (·.sum)).take k)/\Zz w wr)) (fun i _=>ps.length -(intOf i).toNat)
 case atStart=>exact⟨0,Nat.zero_le _,rfl,H0.o,bW⟩
 case round=>
  obtain⟨k,hk,rfl,q⟩:=hrel;have a:=q.o.2;have C:=a.size;by_cases hlt:k<ps.length
  .obtain⟨b,off,ha,hb,F⟩:=(AM.below zB.o a).at hlt;subst ha;have Z:Hid (ps[k]?=some ps[k]):=Zv hlt;obtain⟨D,E⟩:=F k _ Z.o;have HT:Hid ((ps.map (·.sum)).take (k+1)=(ps.map (·.sum)).take k++[ps[k].sum]):=by show _=_;rw[Zu (by simpa using hlt)];simp
   have N:(ps[k].sum.size:Int)=wd:=J.o _ (List.mem_map.2 ⟨_,List.getElem_mem hlt,rfl⟩);clear F;generalize ps[k]=x at *
   obtain⟨h,j⟩:=Af (wr.alloc (.cells #[.string x.name,.string x.sum] 48));have o:Below wr.heap.size wr h:=by rw[j];exact Zy
   have x1:h.cell? (Zd (wr.heap.size) 1)=some (.string x.sum):=by rw[j];simp[go_sem]
   have H:Hid (HS h w.heap.size (w.heap.size+2) w.heap.size ((ps.map (·.sum)).take k)):=q.o.1.below o;have s:=Yw j;have zC:=o.size;have K:Below w.heap.size w h:=a.trans (o.mono C);have I:Hid (∀y∈(ps.map (·.sum)).take k,(y.size:Int)=wd):=fun y A=>J.o y (List.mem_of_mem_take A);clear j o;go_upto_region 7 with fail;rw[<-s.o];clear s D E;go_wp2_with fail
   refine Calls.mono (JO w.heap.size (w.heap.size+2) w.heap.size wd ((ps.map (·.sum)).take k) x.sum h H.o I.o N h8 Yt Yv) ?_;rintro e G ⟨⟨v,rfl⟩,u,t⟩;have Y:Hid (HS G w.heap.size (w.heap.size+2) w.heap.size ((ps.map (·.sum)).take (k+1))/\Zz w G):=⟨by rw[HT.o];exact u,K.trans t⟩;clear u t;go_wp2;exact⟨⟨k+1,Yv,Yn,Y⟩,Ys⟩
  .have z:(ps.map (·.sum)).take k=ps.map (·.sum):=Zt Yt;have HJ:Hid (HS wr w.heap.size (w.heap.size+2) w.heap.size (ps.map (·.sum))):=z▸q.o.1;obtain⟨q0,_⟩:=Aa.below HD.o.box a 7 _ rfl;have HB:Hid (Zz w wr):=a;clear q z p0 bW;go_wp2
   go_loopw [31] (fun i wr=>∃k:Nat,k<=ls.length/\i=Zg k/\Hid (HS wr w.heap.size (w.heap.size+2) w.heap.size (ps.map (·.sum)++(ls.map (·.sum)).take k)/\Zz w wr)) (fun i _=>ls.length -(intOf i).toNat)
   case atStart=>exact⟨0,Nat.zero_le _,rfl,by simpa using HJ.o,a⟩
   case round=>
    clear q0 a C;obtain⟨k,hk,rfl,q⟩:=hrel;have a:=q.o.2;have C:=a.size;by_cases hlt:k<ls.length
    .obtain⟨b,off,ha,hb,F⟩:=(AN.below zA.o a).at hlt;subst ha;have Z:Hid (ls[k]?=some ls[k]):=Zv hlt;obtain⟨D,E,c2⟩:=F k _ Z.o;have HT:Hid ((ls.map (·.sum)).take (k+1)=(ls.map (·.sum)).take k++[ls[k].sum]):=by show _=_;rw[Zu (by simpa using hlt)];simp
     have N:(ls[k].sum.size:Int)=wd:=T.o _ (List.mem_map.2 ⟨_,List.getElem_mem hlt,rfl⟩);clear F;generalize ls[k]=x at *
     obtain⟨h,j⟩:=Af (wr.alloc (.cells #[Zg x.I,.string x.sum,Zg x.Y] 50));have o:Below wr.heap.size wr h:=by rw[j];exact Zy
     have x1:h.cell? (Zd (wr.heap.size) 1)=some (.string x.sum):=by rw[j];simp[go_sem]
     have H:Hid (HS h w.heap.size (w.heap.size+2) w.heap.size (ps.map (·.sum)++(ls.map (·.sum)).take k)):=q.o.1.below o;have s:=Yw j;have zC:=o.size;have K:Below w.heap.size w h:=a.trans (o.mono C);have I:Hid (∀y∈ps.map (·.sum)++(ls.map (·.sum)).take k,(y.size:Int)=wd):=fun y A=>by
      rcases List.mem_append.1 A with A|A
      .exact J.o y A
      .exact T.o y (List.mem_of_mem_take A)
     clear j o;go_upto_region 12 with fail;rw[<-s.o];clear s D E c2;go_wp2_with fail;refine Calls.mono (JO w.heap.size (w.heap.size+2) w.heap.size wd (ps.map (·.sum)++(ls.map (·.sum)).take k) x.sum h H.o I.o N h8 Yt Yv) ?_;rintro e G ⟨⟨v,rfl⟩,u,t⟩
     have Y:Hid (HS G w.heap.size (w.heap.size+2) w.heap.size (ps.map (·.sum)++(ls.map (·.sum)).take (k+1))/\Zz w G):=⟨by rw[HT.o,<-List.append_assoc];exact u,K.trans t⟩;clear u t;go_wp2;exact⟨⟨k+1,Yv,Yn,Y⟩,Ys⟩
    .have z:(ls.map (·.sum)).take k=ls.map (·.sum):=Zt Yt;obtain⟨V,b,n,c,f,h1,_,R,_⟩:=q.o.1;rw[z,<-QQ]at R;obtain⟨va,vc,rfl,_⟩:=R.row;obtain⟨s0,_⟩:=h1 0 _ rfl;have HF:=Yw R;clear h1 R z;go_wp2;go_ret;exact⟨_,rfl,HF.o,a⟩
section
structure Hm (c mm:Nat) (q r:Option Nat) (V:List Nat):Prop where
 cm:c≠mm
 cV:c∉V
 mV:mm∉V
 q:∀g,q=some g->g≠c/\g≠mm/\g∉V/\r≠some g
 r:∀g,r=some g->g≠c/\g≠mm/\g∉V
structure CM (w:Zh) (base c d m:Nat) (O P L:Value) (wd now given births:Int) (ks:List Kd) (ps:List Pd) (ls:List Ld) (ph top at_ ro:Int) (Q M:Value) (mm:Nat) (qs ms ns:Zl):Prop where
 dr:Dr w base d m O P L wd now given births ks ps ls
 hu:HU w base m wd ks
 box:Aa w c (Fy d ph Q M top at_ ro mm Zb)
 cb:FH w c
 q:Ah w base Q qs
 mr:Ah w base M ms
 gf:∃n cc f,AT w 94 mm n cc f/\MK ns f cc/\n<=ns.length
 ap:Hm c mm (Aj Q) (Aj M) (vB d m O P L)
 bc:base<=c
 bm:base<=mm
variable {w w':Zh} {base c d m:Nat} {O P L:Value} {wd now given births:Int} {ks:List Kd} {ps:List Pd} {ls:List Ld} {ph top at_ ro:Int} {Q M:Value} {mm:Nat} {qs ms ns:Zl}
theorem CM.y(h:CM w base c d m O P L wd now given births ks ps ls ph top at_ ro Q M mm qs ms ns):base<=w.heap.size:=by have:=h.bc;have:=h.box.lt;omega
theorem CM.below(h:CM w base c d m O P L wd now given births ks ps ls ph top at_ ro Q M mm qs ms ns)(a:Zz w w'):CM w' base c d m O P L wd now given births ks ps ls ph top at_ ro Q M mm qs ms ns:=by obtain⟨n,e,f,b,g⟩:=h.gf;exact⟨h.dr.below a,h.hu.J (V:=[]) (Tn.of a) h.y Yu Yu,h.box.below a,h.cb.same (a.block c h.box.lt),h.q.below a,h.mr.below a,⟨n,e,f,b.ah a b.lt,g⟩,h.ap,h.bc,h.bm⟩
theorem CM.put(h:CM w base c d m O P L wd now given births ks ps ls ph top at_ ro Q M mm qs ms ns)(j:Nat)(v:Value){x a s z:Int}{q:Value}{y u:Zl}(F:(Fy d ph Q M top at_ ro mm Zb).set j v=Fy d x r q a s z mm Zb)(I:Ah w base r y)(H:Ah w base q u)(l:Hm c mm (Aj r) (Aj q) (vB d m O P L)):
 CM (w.setCell (Zd c j) v) base c d m O P L wd now given births ks ps ls x a s z r q mm y u ns:=by
 obtain⟨n,C,f,D,E⟩:=h.gf;have B:=AS w c j v;have o:∀k,k≠c->(w.setCell (Zd c j) v).heap[k]?=w.heap[k]?:=fun k G=>Below.heap_setCell _ _ _ _ G;have t:=h.ap.cV
 refine⟨h.dr.dt h.hu B (fun b i=> ?_),h.hu.J B h.y (fun b i=> ?_) (fun e=> ?_),F▸h.box.set j v,h.cb.set j v,I.stays (by simp) (fun g A=>o g (l.q g A).1),H.stays (by simp) (fun g A=>o g (l.r g A).1),⟨n,C,f,D.V (o mm (fun e=>h.ap.cm e.symm)),E⟩,l,h.bc,h.bm⟩
 .simp at i;subst i;exact⟨h.bc,t⟩
 .simp at i;subst i;exact h.bc
 .simp at e;subst e;exact t (by simp[vB])
theorem CM.gd(h:CM w base c d m O P L wd now given births ks ps ls ph top at_ ro Q M mm qs ms ns){b:Option Nat}(a:w.grownBy w' b)(i:∀g,b=some g->base<=g/\g≠c/\g≠mm/\g∉vB d m O P L)(j:Nat)(v:Value){s:Value}{A z:Zl}(G:(Fy d ph Q M top at_ ro mm Zb).set j v=Fy d ph s r top at_ ro mm Zb)(J:Ah w' base s A)(I:Ah w' base r z)(o:Hm c mm (Aj s) (Aj r) (vB d m O P L)):
 CM (w'.setCell (Zd c j) v) base c d m O P L wd now given births ks ps ls ph top at_ ro s r mm A z ns:=by
 obtain⟨n,E,f,B,F⟩:=h.gf;have t:=EC a;have l:∀g∈b.toList,base<=g/\g≠c/\g≠mm/\g∉vB d m O P L:=fun g a=>i g (by simpa using a);have u:=t.block c h.box.lt (fun e=>(l c e).2.1 rfl);have C:=h.dr.dt h.hu t (fun g a=>⟨(l g a).1,(l g a).2.2.2⟩);have y:=h.hu.J t h.y (fun g a=>(l g a).1) (fun e=>(l m e).2.2.2 (by simp[vB]));have D:base<=w'.heap.size:=Zm h.y a.size;have x:=AS w' c j v
 have q:∀k,k≠c->(w'.setCell (Zd c j) v).heap[k]?=w'.heap[k]?:=fun k H=>Below.heap_setCell _ _ _ _ H
 refine⟨C.dt y x (fun b i=> ?_),y.J x D (fun b i=> ?_) (fun e=> ?_),G▸(Aa.same h.box u).set j v,(h.cb.same u).set j v,J.stays (by simp) (fun g a=>q g (o.q g a).1),I.stays (by simp) (fun g a=>q g (o.r g a).1),⟨n,E,f,(B.V (t.block mm B.lt (fun e=>(l mm e).2.2.1 rfl))).V (q mm (fun e=>h.ap.cm e.symm)),F⟩,o,h.bc,h.bm⟩
 .simp at i;subst i;exact⟨h.bc,h.ap.cV⟩
 .simp at i;subst i;exact h.bc
 .simp at e;subst e;exact h.ap.cV (by simp[vB])
theorem CM.bumped(h:CM w base c d m O P L wd now given births ks ps ls ph top at_ ro Q M mm qs ms ns)(a:w.grownBy w' (some mm)){f:Lit->Option Value}{i:Zl}(s:AT w' 94 mm n o f)(r:MK i f o)(u:n<=i.length):CM w' base c d m O P L wd now given births ks ps ls ph top at_ ro Q M mm qs ms i:=by
 have b:=EC a;have j:∀g∈(some mm).toList,g=mm:=fun g a=>by simpa using a
 have l:∀k,k<w.heap.size->k≠mm->w'.heap[k]?=w.heap[k]?:=fun k t e=>b.block k t (fun q=>e (j k q));refine⟨h.dr.dt h.hu b (fun g a=> ?_),h.hu.J b h.y (fun g a=> ?_) (fun e=> ?_),Aa.same h.box (l c h.box.lt h.ap.cm),h.cb.same (l c h.box.lt h.ap.cm),h.q.stays b.size (fun g a=>l g (h.q.V a).2 (h.ap.q g a).2.1),h.mr.stays b.size (fun g a=>l g (h.mr.V a).2 (h.ap.r g a).2.1),⟨n,o,f,s,r,u⟩,h.ap,h.bc,h.bm⟩
 .rw[j g a];exact⟨h.bm,h.ap.mV⟩
 .rw[j g a];exact h.bm
 .have:=j m e;subst this;exact h.ap.mV (by simp[vB])
theorem Hm.newQ{a r:Option Nat}{V:List Nat}(h:Hm c mm q r V)(j:a=q\/a=some n)(l:c<n)(o:mm<n)(i:∀b∈V,b<n)(k:∀g,r=some g->g<n):Hm c mm a r V:=by
 refine⟨h.cm,h.cV,h.mV,fun g f=> ?_,h.r⟩;rcases j with rfl|rfl
 .exact h.q g f
 .cases f;exact⟨Yv,Yv,fun e=>by have:=i _ e;omega,fun e=>by have:=k _ e;omega⟩
theorem Hm.newR{r i:Option Nat}{V:List Nat}(h:Hm c mm q r V)(j:i=r\/i=some n)(o:c<n)(s:mm<n)(k:∀b∈V,b<n)(l:∀g,q=some g->g<n):Hm c mm q i V:=by
 refine⟨h.cm,h.cV,h.mV,fun g a=> ?_,fun g a=> ?_⟩
 .have f:=h.q g a;refine⟨f.1,f.2.1,f.2.2.1,fun e=> ?_⟩;rcases j with rfl|rfl
  .exact f.2.2.2 e
  .cases e;have:=l _ a;omega
 .rcases j with rfl|rfl
  .exact h.r g a
  .cases a;exact⟨Yv,Yv,fun e=>by have:=k _ e;omega⟩
theorem CM.pushQ{a:Zk}{r:Nat}(h:CM w base c d m O P L wd now given births ks ps ls ph top at_ ro (.slice a qs.length r) M mm qs ms ns)(t:Zi)(H:qs.length<=100000000):
 ∃l j k,(Builtin.append_ #[29,29] 29 #[.slice a qs.length r,Yz w.heap.size 1 1]).run prog (w.alloc (.cells #[.string t] 9))=.ok (.slice l (qs.length+1) j) k/\k.cell? (Zd c 2)=some (.slice a qs.length r)/\k.frozen? ⟨c,2,none⟩=false/\
  CM (k.setCell (Zd c 2) (.slice l (qs.length+1) j)) base c d m O P L wd now given births ks ps ls ph top at_ ro (.slice l (qs.length+1) j) M mm (qs++[t]) ms ns/\Tn (c::(Aj (.slice a qs.length r)).toList) w (k.setCell (Zd c 2) (.slice l (qs.length+1) j))/\Below base w (k.setCell (Zd c 2) (.slice l (qs.length+1) j)):=by
 have z:Below w.heap.size w (w.alloc (.cells #[.string t] 9)):=Zy;have K:(w.alloc (.cells #[.string t] 9)).heap.size=w.heap.size+1:=Yu
 have i:=h.below z;have D:=h.y;obtain⟨I,k,B,v,q,x⟩:=Ek (w.alloc (.cells #[.string t] 9)) base (.slice a qs.length r) qs i.q ⟨w.heap.size,0,none⟩ 1 t (by simp[go_sem]) H Yv 29;obtain⟨l,j,rfl,_⟩:=v.row;simp only[List.length_append,List.length_cons,List.length_nil,Nat.zero_add]at B v x;obtain⟨n,J,f,G,_⟩:=i.gf;have C:=i.ap.newQ x i.box.lt G.lt i.dr.co (fun g o=>(i.mr.V o).2)
 have u:∀g,Aj (.slice a qs.length r)=some g->base<=g/\g≠c/\g≠mm/\g∉vB d m O P L:=fun g o=>⟨(i.q.V o).1,(i.ap.q g o).1,(i.ap.q g o).2.1,(i.ap.q g o).2.2.1⟩;have E:Ah k base M ms:=i.mr.stays q.size (fun g o=>q.block g (i.mr.V o).2 (fun e=>(i.ap.q g e.symm).2.2.2 o));have s:Aa k c _:=Aa.same i.box (q.block c i.box.lt (fun e=>(u c e.symm).2.1 rfl))
 have F:=i.gd q u 2 (.slice l (qs.length+1) j) rfl v E C;have A:Tn (c::(Aj (.slice a qs.length r)).toList) w (k.setCell (Zd c 2) (.slice l (qs.length+1) j)):=((Tn.of z).trans ((EC q).mono (by simp;exact fun b h=> .inr h))).trans (Tn.set _ _ _ _ Yu);refine⟨l,j,k,B,(s 2 _ rfl).1,(s 2 _ rfl).2,F,A,A.below D (fun b y=> ?_)⟩;rcases List.mem_cons.1 y with rfl|y
 .exact h.bc
 .exact(u b (by simpa using y)).1
theorem CM.pushM{a:Zk}{r:Nat}(h:CM w base c d m O P L wd now given births ks ps ls ph top at_ ro Q (.slice a ms.length r) mm qs ms ns)(t:Zi)(H:ms.length<=100000000):
 ∃l j k,(Builtin.append_ #[29,29] 29 #[.slice a ms.length r,Yz w.heap.size 1 1]).run prog (w.alloc (.cells #[.string t] 9))=.ok (.slice l (ms.length+1) j) k/\k.cell? (Zd c 3)=some (.slice a ms.length r)/\k.frozen? ⟨c,3,none⟩=false/\
  CM (k.setCell (Zd c 3) (.slice l (ms.length+1) j)) base c d m O P L wd now given births ks ps ls ph top at_ ro Q (.slice l (ms.length+1) j) mm qs (ms++[t]) ns/\Tn (c::(Aj (.slice a ms.length r)).toList) w (k.setCell (Zd c 3) (.slice l (ms.length+1) j))/\Below base w (k.setCell (Zd c 3) (.slice l (ms.length+1) j)):=by
 have z:Below w.heap.size w (w.alloc (.cells #[.string t] 9)):=Zy;have K:(w.alloc (.cells #[.string t] 9)).heap.size=w.heap.size+1:=Yu
 have i:=h.below z;have D:=h.y;obtain⟨I,k,B,v,q,x⟩:=Ek (w.alloc (.cells #[.string t] 9)) base (.slice a ms.length r) ms i.mr ⟨w.heap.size,0,none⟩ 1 t (by simp[go_sem]) H Yv 29;obtain⟨l,j,rfl,_⟩:=v.row;simp only[List.length_append,List.length_cons,List.length_nil,Nat.zero_add]at B v x;obtain⟨n,J,f,G,_⟩:=i.gf;have C:=i.ap.newR x i.box.lt G.lt i.dr.co (fun g o=>(i.q.V o).2)
 have u:∀g,Aj (.slice a ms.length r)=some g->base<=g/\g≠c/\g≠mm/\g∉vB d m O P L:=fun g o=>⟨(i.mr.V o).1,(i.ap.r g o).1,(i.ap.r g o).2.1,(i.ap.r g o).2.2⟩;have E:Ah k base Q qs:=i.q.stays q.size (fun g o=>q.block g (i.q.V o).2 (fun e=>(i.ap.q g o).2.2.2 e.symm));have s:Aa k c _:=Aa.same i.box (q.block c i.box.lt (fun e=>(u c e.symm).2.1 rfl));have F:=i.gd q u 3 (.slice l (ms.length+1) j) rfl E v C
 have A:Tn (c::(Aj (.slice a ms.length r)).toList) w (k.setCell (Zd c 3) (.slice l (ms.length+1) j)):=((Tn.of z).trans ((EC q).mono (by simp;exact fun b h=> .inr h))).trans (Tn.set _ _ _ _ Yu);refine⟨l,j,k,B,(s 3 _ rfl).1,(s 3 _ rfl).2,F,A,A.below D (fun b y=> ?_)⟩;rcases List.mem_cons.1 y with rfl|y
 .exact h.bc
 .exact(u b (by simpa using y)).1
end
theorem Sq(base c d m:Nat)(O P L:Value)(wd now given births:Int)(ks:List Kd)(ps:List Pd)(ls:List Ld)(ph top at_ ro:Int)(Q M:Value)(mm:Nat)(qs ms ns:Zl)(w:Zh)(h:CM w base c d m O P L wd now given births ks ps ls ph top at_ ro Q M mm qs ms ns)(U:ps.length<=100)(T:ls.length<=200)(G:∀p∈ps,(p.sum.size:Int)=wd)(F:∀l∈ls,(l.sum.size:Int)=wd)(N:wd<=8)(zA:0<=births)(zB:births<=1000000000):
 Calls prog 43 #[Yy c] w fun e w'=>e=.returned (.tuple #[])/\∃V,CM w' base c d m O P L wd now given births ks ps ls 1 births (births+1) ro V M mm (Br ps ls) ms ns/\Below base w w':=by
 obtain⟨W,r⟩:=Af (w.setCell (Zd c 1) (Zg 1));have a:CM W base c d m O P L wd now given births ks ps ls 1 top at_ ro Q M mm qs ms ns:=by rw[r];exact h.put 1 (Zg 1) rfl h.q h.mr h.ap
 have A:Below base w W:=by rw[r];exact Ad.setCell (by simpa using h.bc) _
 obtain⟨Y,I⟩:=h.box 1 _ rfl;obtain⟨v,_⟩:=a.box 0 _ rfl;obtain⟨Z,J⟩:=a.box 4 _ rfl;obtain⟨q5,K⟩:=a.box 5 _ rfl;obtain⟨H,_⟩:=a.dr.box 4 _ rfl;have E:¬d=c:=fun e=>a.ap.cV (by simp[vB,e]);have zC:¬c=d:=fun e=>E e.symm;have o:=h.bc;have j:=Yw a;have y:=Yw r;have zE:=a.box.lt;have zF:=a.dr.box.lt;clear r h a;go_enter func43,ntmps43;go_upto_region 1 with fail;rw[<-y.o];clear y Y I
 go_cut [] (fun D=>Hid (CM D base c d m O P L wd now given births ks ps ls 1 births (births+1) ro Q M mm qs ms ns/\Below base W D))
 case first=>
  go_region
  all_goals
   go_wp2_with fail;go_meet;have s:CM (W.setCell (Zd c 4) (Zg births)) base c d m O P L wd now given births ks ps ls 1 births at_ ro Q M mm qs ms ns:=j.o.put 4 (Zg births) rfl j.o.q j.o.mr j.o.ap
   have X:CM ((W.setCell (Zd c 4) (Zg births)).setCell (Zd c 5) (Zg (births+1))) base c d m O P L wd now given births ks ps ls 1 births (births+1) ro Q M mm qs ms ns:=s.put 5 (Zg (births+1)) rfl s.q s.mr s.ap;exact⟨X.below Ad.drew,((Ad.setCell (by simpa using o) _).setCell (by simpa using o) _).drew⟩
 case rest=>
  revert wc;intro w2 b;clear v Z J q5 K H j;obtain⟨v,_⟩:=b.o.1.box 0 _ rfl;go_wp2_with fail;refine(NY base d m O P L wd now given births ks ps ls w2 b.o.1.dr U T G F N).mono ?_;rintro e C ⟨V,rfl,q,k⟩;have i:=b.o.1.below k;have u:=b.o.1.y;have t:Hm c mm (Aj V) (Aj M) (vB d m O P L):=⟨i.ap.cm,i.ap.cV,i.ap.mV,fun g S=>by
   have zG:=(q.V S).1;obtain⟨n,cc,f,R,_⟩:=b.o.1.gf;have h1:=b.o.1.box.lt;have h2:=R.lt;refine⟨Yv,Yv,fun e=> ?_,fun e=> ?_⟩
   .have:=b.o.1.dr.co g e;omega
   .have:=(b.o.1.mr.V e).2;omega,i.ap.r⟩
  have B:CM (C.setCell (Zd c 2) V) base c d m O P L wd now given births ks ps ls 1 births (births+1) ro V M mm (Br ps ls) ms ns:=i.put 2 V rfl (q.mono u) i.mr t;have z:Below base w (C.setCell (Zd c 2) V):=((A.trans b.o.2).trans (k.mono u)).setCell (by simpa using o) _;obtain⟨va,vc,rfl,_⟩:=q.row;obtain⟨q2,f2⟩:=i.box 2 _ rfl;have x:=Yw (Zn B z);clear i B z t q k v b A;go_wp2
  exact⟨rfl,_,results_none rfl _ _ _,rfl,_,x.o.1,x.o.2⟩
theorem MJ(base c d m:Nat)(O P L:Value)(wd now given births:Int)(ks:List Kd)(ps:List Pd)(ls:List Ld)(ph top at_ ro:Int)(Q M:Value)(mm:Nat)(s:Zi)(qs ms:Zl)(w:Zh)(h:CM w base c d m O P L wd now given births ks ps ls ph top at_ ro Q M mm (s::qs) ms ms)(yO:∀k∈ks,(k.sum.size:Int)=wd/\k.B.length<=30/\∀r∈k.B,(r.size:Int)=wd)(yQ:∀x∈ms,(x.size:Int)=wd)(R:(s.size:Int)=wd)(h8:wd<=8)(vE:qs.length<=1048576)(vD:ms.length<=1048576):
 Calls prog 44 #[Yy c] w fun e w'=>e=.returned (.tuple #[])/\∃Q' M' yV zT,CM w' base c d m O P L wd now given births ks ps ls ph top at_ ro Q' M' mm yV zT zT/\Lb ks s qs ms yV zT/\Below base w w':=by
 obtain⟨g,off,cap,v,rfl,vA,ht,hn,xV,xK⟩:∃g off cap v,Q=.slice (some ⟨g,off,none⟩) (qs.length+1) cap/\((if cap=1 then some ⟨g,off,none⟩else some ⟨g,off+1,none⟩:Zk)=some ⟨g,v,none⟩)/\Ah w base (.slice (some ⟨g,v,none⟩) qs.length (cap -1)) qs/\qs.length+1<=cap/\cap<=maxLen/\w.cell? (Zd g off)=some (.string s):=by
  have hq:=h.q;rcases h.q with⟨_,e⟩|⟨g,off,cap,rfl,xJ,xM,xP,hc,_⟩
  .cases e
  .obtain⟨h1,_,h3,h4⟩:=hq.tail;by_cases h1c:cap=1
   .subst h1c;simp only[List.length_cons]at xP;have:qs=[]:=List.eq_nil_of_length_eq_zero Yv;subst this;exact⟨g,off,1,off,rfl,rfl,.inr ⟨g,off,0,rfl,xJ,xM,Zx,Yv,(fun j hj=>by omega),(fun i s R=>by simp at R)⟩,h3,hc,h4⟩
   .exact⟨g,off,cap,off+1,rfl,if_neg h1c,h1,h3,hc,h4⟩
 obtain⟨W,hW⟩:=Af (w.setCell (Zd c 2) (.slice (some ⟨g,v,none⟩) qs.length (cap -1)));have z:CM W base c d m O P L wd now given births ks ps ls ph top at_ ro (.slice (some ⟨g,v,none⟩) qs.length (cap -1)) M mm qs ms ms:=by rw[hW];exact h.put 2 _ rfl ht h.mr h.ap
 have bW:Below base w W:=by rw[hW];exact Ad.setCell (by simpa using h.bc) _
 obtain⟨q2,f2⟩:=h.box 2 _ rfl;obtain⟨q0,_⟩:=z.box 0 _ rfl;obtain⟨d0,_⟩:=z.dr.box 0 _ rfl;obtain⟨d1,_⟩:=z.dr.box 1 _ rfl;have xX:=h.bc;have H:=Yw z;have HW:=Yw hW;have xY:=z.box.lt;have yN:=z.dr.box.lt;have yX:Hid (∀g,Aj M=some g->g<W.heap.size):=fun g hg=>(z.mr.V hg).2;have xW:mm<W.heap.size:=by obtain⟨n,N,f,Z,_⟩:=z.gf;exact Z.lt
 have zZ:=Yw yO;have yB:=Yw yQ;clear hW h z ht yO yQ;go_enter func44,ntmps44;go_upto_region 2 with fail;rw[<-HW.o];clear HW q2 f2 xK;by_cases hth:Ay ks s
 .obtain⟨n1,f,xQ,Z,hH,_⟩:=H.o.hu;rcases hH s R with⟨_,xR⟩|⟨u,C,S,hu,zK,zR,zE⟩
  .exact absurd hth xR
  have a:=GA wd m n1 f s W Z R u.sum u.born u.F (.slice C u.B.length S) true ⟨_,_,_,rfl⟩ (by rw[zR];rfl) (by rw[zR];rfl);have HR:Hid (Ab W base C u.B):=zE;have zF:Hid (u∈ks/\u.sum=s):=⟨hu,zK⟩;clear Z hH zR zE hu zK;go_wp2_with fail;refine Calls.mono a ?_;rintro e l ⟨rfl,t⟩;obtain⟨G,zJ⟩:=Af (l.alloc (.cells #[.string u.sum,Zg u.born,.string u.F,.slice C u.B.length S] 65))
  have b2:Below l.heap.size l G:=by rw[zJ];exact Zy
  have z2:Aa G l.heap.size [.string u.sum,Zg u.born,.string u.F,.slice C u.B.length S]:=by rw[zJ];exact Aa.new l _ _
  have zH:Below W.heap.size W G:=t.trans (b2.mono t.size);have y:Hid (CM G base c d m O P L wd now given births ks ps ls ph top at_ ro (.slice (some ⟨g,v,none⟩) qs.length (cap -1)) M mm qs ms ms):=H.o.below zH;have yC:Hid (Ab G base C u.B):=Ab.below HR.o (zH.mono H.o.y);have yI:Below base w G:=bW.trans (zH.mono H.o.y);have yF:=Yw zJ;have yG:=Yw z2;have vC:W.heap.size<=l.heap.size:=t.size
  clear zJ b2 z2 zH t H HR bW a q0 d0 d1 yN;go_upto_region 3 with fail;rw[<-yF.o];clear yF;have yA:Hid (∃n N f,AT G 94 mm n N f/\MK ms f N/\n<=ms.length):=y.o.gf;obtain⟨nk,N,fk,B,A,yS⟩:=yA.o;go_wp2_with fail;refine Calls.mono (Gt c d ph top at_ ro (.slice (some ⟨g,v,none⟩) qs.length (cap -1)) M Zb mm nk N fk wd ms s G y.o.box B A yB.o R h8) ?_;rintro e w3 ⟨b,rfl,hb,V⟩
  have T:Hid (CM w3 base c d m O P L wd now given births ks ps ls ph top at_ ro (.slice (some ⟨g,v,none⟩) qs.length (cap -1)) M mm qs ms ms):=y.o.below V;have yJ:Below base w w3:=yI.trans (V.mono y.o.y);have yD:Hid (Ab w3 base C u.B):=Ab.below yC.o (V.mono y.o.y);have zM:=Yw (Aa.below yG.o V);have Hb:Hid (b=true↔s∈ms):=hb;clear B A yS yA hb V y yC yG yI;cases b with
  |true=>have xA:Hid (s∈ms):=Hb.o.1 rfl;go_wp2;refine bodyPost_ret (results_none rfl _ _ _) rfl ?_;exact⟨rfl,_,_,qs,ms,T.o,.inl ⟨.inr xA.o,rfl,rfl⟩,yJ⟩
  |false=>
   have xB:Hid (s∉ms):=fun e=>by have:=Hb.o.2 e;cases this
   clear Hb;obtain⟨va,vc,xE,_⟩:=T.o.mr.row;subst xE;have HP:=T.o.pushM s Yv;obtain⟨J,D,w5,hr,c3,f3,zN,zO,zI⟩:=HP;obtain⟨X,hX⟩:=Af (w5.setCell (Zd c 3) (.slice J (ms.length+1) D));rw[<-hX]at zN zO zI;obtain⟨q3,_⟩:=T.o.box 3 _ rfl;have xO:l.heap.size<w3.heap.size:=Aa.lt zM.o;have xN:¬l.heap.size=c:=Yv
   have xI:Below base w X:=yJ.trans zI;have yE:Hid (Ab X base C u.B):=Ab.below yD.o zI;have E:=Yw zN;have HX:=Yw hX;have yH:Hid (Aa X l.heap.size [.string u.sum,Zg u.born,.string u.F,.slice C u.B.length S]):=Aa.same zM.o (zO.block _ xO (fun e=>by
    rcases List.mem_cons.1 e with e|e
    .exact xN e
    .have:=yX.o _ (by simpa using e);omega))
   have yZ:Hid (∀X',Below base X X'->Ab X' base C u.B):=fun X' xG=>Ab.below yE.o xG;clear hX zN zO zI T yD zM yE;go_wp2_with (first
    |(at_builtin;refine wpList_append_run rfl _ _ 29 29 rfl rfl rfl hr ?_)
    |go_in)
   clear hr q3;go_upto_region 5 with fail;rw[<-HX.o];clear HX c3 f3;have U:Hid (∀Y,Zz X Y->Y.cell? (Zd c 7)=some (.map (some mm))):=fun Y hY=>((E.o.box.below hY) 7 _ rfl).1;have D0:Below X.heap.size X X.drew:=Ad.drew;obtain⟨nk,N,fk,B,A,yS⟩:=E.o.gf;obtain⟨nn,yU,yR,yT,_⟩:=A.get (keyL s);have xS:IntKind.i64.wrap (nn+1)=nn+1:=Gg Yv Yv
   have HK:Hid (AT X 94 mm nk N fk/\MK ms fk N):=⟨B,A⟩;have xL:=E.o.box.lt;have zS:=E.o.ap.cm;have yP:=B.lt;clear B A
   go_cut [] (fun wx=>Hid (CM wx base c d m O P L wd now given births ks ps ls ph top at_ ro (.slice (some ⟨g,v,none⟩) qs.length (cap -1)) (.slice J (ms.length+1) D) mm qs (ms++[s]) (ms++[s])/\Aa wx l.heap.size [.string u.sum,Zg u.born,.string u.F,.slice C u.B.length S]/\Below base X wx))
   case first=>
    go_region_held3 (fun Y=>Y.cell? (Zd c 7)=some (.map (some mm)))
     (first|with_reducible exact U.o _ D0|with_reducible exact U.o _ k2|exact yK|exact yL)
     (first
       |(go_at_call 42;refine(EH s X.drew).mono ?_;rintro e w6 ⟨rfl,xH⟩;have k2:Below X.heap.size X w6:=D0.trans (xH.mono D0.size);obtain⟨st,w7,w8,he,hl1,hl3,hs4,hm4,hg3,hg4⟩:=(HK.o.1.ah k2 yP).gq keyed underlying57 Yo EI (Ct s) (Zg (nn+1));rw[yU]at he hl1 hl3;unfold goInt at he hs4;have yK:w7.cell? (Zd c 7)=some (.map (some mm)):=hg3.cell (U.o _ k2) (by simpa using zS);have yL:w8.cell? (Zd c 7)=some (.map (some mm)):=hg4.cell (U.o _ k2) (by simpa using zS)))
    all_goals
     have g8:X.grownBy w8 (some mm):=(Ak _ k2).trans hg4;have HF:Hid (CM w8 base c d m O P L wd now given births ks ps ls ph top at_ ro (.slice (some ⟨g,v,none⟩) qs.length (cap -1)) (.slice J (ms.length+1) D) mm qs (ms++[s]) (ms++[s])/\Aa w8 l.heap.size [.string u.sum,Zg u.born,.string u.F,.slice C u.B.length S]/\Below base X w8):=
      ⟨E.o.bumped g8 hm4 (HK.o.2.snoc s yR yT) Yt,Aa.au yH.o g8 Yv,Ad.grown g8 E.o.y (fun q e=>by cases e;exact E.o.bm)⟩
     clear hm4 he hl1 hl3 hs4 hg3 hg4 yK yL k2 g8;go_wp2_with fail;go_meet;exact HF
   case rest=>
   revert wc;intro w9 H9;clear U D0 HK xS yU yR yT xL zS yP E yH;obtain⟨r3,_⟩:=H9.o.2.1 3 _ rfl;have zW:=Yw H9.o.1;have zV:Hid (Below base X w9):=H9.o.2.2;have vF:u.B.length<=30:=(zZ.o u zF.o.1).2.1;have yY:Hid (∀r∈u.B,(r.size:Int)=wd):=(zZ.o u zF.o.1).2.2;have zU:Hid (∀x∈ms++[s],(x.size:Int)=wd):=fun x hx=>by
    rcases List.mem_append.1 hx with hx|hx
    .exact yB.o x hx
    .simp at hx;rw[hx];exact R
   clear H9;go_wp2
   go_loopw [69] (fun i wr=>∃(k:Nat) (Qk:Value),k<=u.B.length/\i=Zg k/\Hid (CM wr base c d m O P L wd now given births ks ps ls ph top at_ ro Qk (.slice J (ms.length+1) D) mm (qs++fresh (ms++[s]) (u.B.take k)) (ms++[s]) (ms++[s])/\Below base X wr)) (fun i _=>u.B.length -(intOf i).toNat)
   case atStart=>exact⟨0,_,Nat.zero_le _,rfl,by simpa [fresh]using zW.o,zV.o⟩
   case round=>
    clear zW zV r3;obtain⟨k,Qk,hk,rfl,I⟩:=hrel;by_cases hlt:k<u.B.length
    .obtain⟨b,vG,ha,hb,hc⟩:=(yZ.o _ I.o.2).at hlt;subst ha;have HG:Hid (u.B[k]?=some u.B[k]):=Zv hlt;have c0:=hc k _ HG.o;have xT:(u.B[k].size:Int)=wd:=yY.o _ (List.getElem_mem hlt);have zY:=Yw (Lc (ms:=ms++[s]) HG.o);have xZ:(qs++fresh (ms++[s]) (u.B.take k)).length<=1048606:=by have:(fresh (ms++[s]) (u.B.take k)).length<=(u.B.take k).length:=List.length_filter_le _ _;simp at this |-;omega
     clear hc;generalize u.B[k]=x at *
     generalize hO:qs++fresh (ms++[s]) (u.B.take k)=qk at *
     have HO:=Yw hO;clear hO;obtain⟨xU,xC,xD,B,A,_⟩:=I.o.1.gf;go_wp2_with fail;refine Calls.mono (Gt c d ph top at_ ro Qk (.slice J (ms.length+1) D) Zb mm xU xC xD wd (ms++[s]) x wr I.o.1.box B A zU.o xT h8) ?_;rintro e yW ⟨b2,rfl,yM,K⟩;have F:Hid (CM yW base c d m O P L wd now given births ks ps ls ph top at_ ro Qk (.slice J (ms.length+1) D) mm qk (ms++[s]) (ms++[s])):=I.o.1.below K
     have zA:Below base X yW:=I.o.2.trans (K.mono I.o.1.y);have zG:Hid (b2=true↔x∈ms++[s]):=yM;clear B A yM K c0 I;cases b2 with
     |true=>
      have HE:Hid (qs++fresh (ms++[s]) (u.B.take (k+1))=qk):=by show _=_;rw[zY.o.1 (zG.o.1 rfl)];exact HO.o
      clear zG;go_wp2;exact⟨⟨k+1,Qk,Yv,Yn,⟨by rw[HE.o];exact F.o,zA⟩⟩,Ys⟩
     |false=>
      have HE:Hid (qs++fresh (ms++[s]) (u.B.take (k+1))=qk++[x]):=by show _=_;rw[zY.o.2 (fun e=>by have:=zG.o.2 e;cases this),<-List.append_assoc,HO.o]
      clear zG;obtain⟨ka,kc,xF,_⟩:=F.o.q.row;subst xF;obtain⟨a2,c2,vH,hr,g2,f2,zC,_,zB⟩:=F.o.pushQ x Yv;obtain⟨q2,_⟩:=F.o.box 2 _ rfl;have zX:=Yw (Zn zC (zA.trans zB));clear zC zB;go_wp2_with (first
       |(at_builtin;refine wpList_append_run rfl _ _ 29 29 rfl rfl rfl hr ?_)
       |go_in)
      clear hr q2;go_wp2;exact⟨⟨k+1,_,Yv,Yn,⟨by rw[HE.o];exact zX.o.1,zX.o.2⟩⟩,Ys⟩
    .obtain rfl:k=u.B.length:=Yv
     have hE:=I.o.1;rw[Zt (Zx)]at hE;have HE:=Yw hE;clear hE;go_wp2;exact⟨rfl,_,results_none rfl _ _ _,rfl,_,_,_,_,HE.o,.inr ⟨u,zF.o.1,zF.o.2,xB.o,rfl,rfl⟩,xI.trans I.o.2⟩
 .obtain⟨n1,f,xQ,Z,hH,_⟩:=H.o.hu;have zP:f (keyL s)=none:=by
   rcases hH s R with⟨h,_⟩|⟨u,_,_,hu,zK,_⟩
   .exact h
   .exact absurd ⟨u,hu,zK⟩ hth
  have a:=GA wd m n1 f s W Z R ⟨#[]⟩ 0 ⟨#[]⟩ Zb false ⟨_,_,_,rfl⟩ (by rw[zP];rfl) (by rw[zP];rfl);clear Z hH zP;go_wp2_with fail;refine Calls.mono a ?_;rintro e l ⟨rfl,t⟩;have y:Hid (∀o,CM (l.alloc o) base c d m O P L wd now given births ks ps ls ph top at_ ro (.slice (some ⟨g,v,none⟩) qs.length (cap -1)) M mm qs ms ms/\Below base w (l.alloc o)):=fun o=>
   ⟨H.o.below (t.alloc t.size o),bW.trans ((t.alloc t.size o).mono H.o.y)⟩
  clear t H bW a q0 d0 d1 yN;go_wp2;refine bodyPost_ret (results_none rfl _ _ _) rfl ?_;exact⟨rfl,_,_,qs,ms,(y.o _).1,.inl ⟨.inl hth,rfl,rfl⟩,(y.o _).2⟩
structure UE (w:Zh) (base c d m:Nat) (P L:Value) (wd now given births:Int) (ks:List Kd) (ps:List Pd) (ls:List Ld) (ph top at_ ro:Int) (Q M D:Value) (qs ms ds:Zl):Prop where
 dr:∃O,Dr w base d m O P L wd now given births ks ps ls
 box:∃mm,Aa w c (Fy d ph Q M top at_ ro mm D)
 q:Ah w base Q qs
 mr:Ah w base M ms
 dd:Ah w base D ds
 ap:(∀g,Aj Q=some g->Aj M≠some g/\Aj D≠some g)/\(∀g,Aj M=some g->Aj D≠some g)
theorem CM.ue{ns:Zl}(h:CM w base c d m O P L wd now given births ks ps ls ph top at_ ro Q M mm qs ms ns):UE w base c d m P L wd now given births ks ps ls ph top at_ ro Q M Zb qs ms []:=
 ⟨⟨O,h.dr⟩,⟨mm,h.box⟩,h.q,h.mr,Ah.nil _ _,fun g a=>⟨(h.ap.q g a).2.2.2,fun e=>by cases e⟩,fun g _ e=>by cases e⟩
theorem IB(base c d m:Nat)(O P L:Value)(wd now given births:Int)(ks:List Kd)(ps:List Pd)(ls:List Ld)(ph top at_ ro:Int)(Q M:Value)(mm:Nat)(qs ms:Zl)(w:Zh)(h:CM w base c d m O P L wd now given births ks ps ls ph top at_ ro Q M mm qs ms ms)(F:DR wd ks)(yD:∀k∈ks,1<=k.born)(hp:ps.length<=100)(hl:ls.length<=200)(yP:∀x∈ms,(x.size:Int)=wd):
 Calls prog 45 #[.pointer (some ⟨c,0,none⟩)] w fun e w'=>Below base w w'/\
  ((e=.returned (.bool false)/\(∀y∈ks,¬y.born<at_)/\CM w' base c d m O P L wd now given births ks ps ls ph top at_ ro Q M mm qs ms ms)\/
   (e=.returned (.bool true)/\∃u,Ey ks at_ u/\(((u.sum∈ms\/Cz ps ls ks u.sum)/\UE w' base c d m P L wd now given births ks ps ls ph top u.born ro Q M (.slice none 0 0) qs ms [])\/(u.sum∉ms/\¬Cz ps ls ks u.sum/\∃D,UE w' base c d m P L wd now given births (Bt ks u.sum) ps ls ph top u.born ro Q M D qs ms [u.sum])))):=by
 have HS:Hid (∀X,Zz w X->X.cell? ⟨c,0,none⟩=some (.pointer (some ⟨d,0,none⟩))/\X.cell? ⟨c,5,none⟩=some (.int .i64 at_)):=fun X i=>⟨((h.box.below i) 0 _ rfl).1,((h.box.below i) 5 _ rfl).1⟩
 have HY:Hid (∀X,Zz w X->Calls prog 65 #[.pointer (some ⟨d,0,none⟩),.int .i64 at_] X fun e w'=>∃u z A,e=.returned (.tuple #[CN u z A,.bool (decide (0<u.born))])/\YB ks at_ u z A/\Zz X w'):=fun X i=>NV base d m O P L wd now given births at_ ks ps ls X (h.dr.below i) F.nd F.sz F.len yD;have HC:Hid (CM w base c d m O P L wd now given births ks ps ls ph top at_ ro Q M mm qs ms ms):=h
 have G:Below w.heap.size w w.drew:=Ad.drew;have D1:∀o,Zz w (w.alloc o).drew:=fun o=>(Zy).drew;have yX:=h.box.lt
 have yY:∀(k:Int) (X:Zh),(Instr.field 115 (.agg #[.int .i64 k,.int .i64 0,.int .i64 0,.int .i64 0,.int .i64 0,.slice none 0 0,.slice none 0 0,.slice none 0 0,.string ⟨#[]⟩,.int .i64 0,.string ⟨#[]⟩,.string ⟨#[]⟩]) 0).run prog X=.ok (.int .i64 k) X:=fun _ _=>by first|rfl|kernel_rfl
 clear h;unfold CN at HY;go_enter func45,ntmps45;go_upto_region 1 with fail;go_cut [3,4] (fun v t wx=>∃(l:Nat) (u:Kd) (z:Zk) (A:Nat),v=.pointer (some ⟨l,0,none⟩)/\t=.bool (decide (0<u.born))/\Hid (Aa wx l [.string u.sum,.int .i64 u.born,.string u.F,.slice z u.B.length A]/\YB ks at_ u z A/\Zz w wx/\w.heap.size<=l))
 case first=>
  go_region_held3 (fun X=>X.cell? ⟨c,0,none⟩=some (.pointer (some ⟨d,0,none⟩))/\X.cell? ⟨c,5,none⟩=some (.int .i64 at_))
   (first|with_reducible exact HS.o _ G|with_reducible exact HS.o _ (D1 _)|with_reducible exact HS.o _ B2|with_reducible exact HS.o _ (zU _)|with_reducible exact HS.o _ (zV _ _ _ _))
   (first
     |(go_at_call 65;refine Calls.mono (HY.o _ G) ?_;rintro e w2 ⟨u,z,A,rfl,hY,zE⟩;have B2:Below w.heap.size w w2:=G.trans (zE.mono G.size);have zU:∀o,Zz w (w2.alloc o):=fun o=>B2.alloc B2.size o)
     |(go_at_call 65;refine Calls.mono (HY.o _ (D1 _)) ?_;rintro e w2 ⟨u,z,A,rfl,hY,zE⟩;have B2:Below w.heap.size w w2:=(D1 _).trans (zE.mono (D1 _).size);have n0:Aa w2 w.heap.size PC:=Aa.below (v:=.string ⟨#[]⟩) (Aa.new w PC 65) (CG zE);have zV:∀v0 v1 v2 v3,Zz w ((((w2.setCell ⟨w.heap.size,0,none⟩ v0).setCell ⟨w.heap.size,1,none⟩ v1).setCell ⟨w.heap.size,2,none⟩ v2).setCell ⟨w.heap.size,3,none⟩ v3):=fun _ _ _ _=>(((B2.setCell (by simp) _).setCell (by simp) _).setCell (by simp) _).setCell (by simp) _;obtain⟨m0,U⟩:=n0 0 _ rfl;obtain⟨m1,k1⟩:=n0 1 _ rfl;obtain⟨m2,k2⟩:=n0 2 _ rfl;obtain⟨m3,k3⟩:=n0 3 _ rfl))
  all_goals
   go_wp2_with fail;go_meet
   first
    |exact⟨_,u,z,A,rfl,rfl,⟨(((n0.set 0 _).set 1 _).set 2 _).set 3 _,hY,zV _ _ _ _,Zx⟩⟩
    |exact⟨_,u,z,A,rfl,rfl,⟨Aa.new w2 _ _,hY,zU _,B2.size⟩⟩
 case rest=>
  revert wc;intro w3 hcut;obtain⟨l,u,z,A,rfl,rfl,K⟩:=hcut;clear HS HY G D1;have zF:=K.o.2.2.1;have E:Hid (CM w3 base c d m O P L wd now given births ks ps ls ph top at_ ro Q M mm qs ms ms):=HC.o.below zF;have yL:=HC.o.y;have yK:¬l=c:=by have:=K.o.2.2.2;omega
  have yW:¬c=l:=fun e=>yK e.symm;have zN:=HC.o.bc;have zY:Hid (l∉vB d m O P L):=fun e=>by have:=HC.o.dr.co l e;have:=K.o.2.2.2;omega
  rcases K.o.2.1 with⟨T,_,_,zB⟩|⟨T,yM,H⟩
  .have hd:decide (0<u.born)=false:=by rw[T];rfl
   have HA:Hid (∀y∈ks,¬y.born<at_):=zB;clear zB T;go_wp2;go_ret;exact⟨zF.mono yL,.inl ⟨rfl,HA.o,E.o⟩⟩
  .have hd:decide (0<u.born)=true:=by have:=yD u T;simp;omega
   have zJ:Hid (Ey ks at_ u):=⟨T,yM,H⟩;have yQ:=F.sz u T;have h8:=F.w8;clear yM H;obtain⟨U,_⟩:=K.o.1 0 _ rfl;obtain⟨k1,_⟩:=K.o.1 1 _ rfl;obtain⟨q5,f5⟩:=E.o.box 5 _ rfl;obtain⟨W,hW⟩:=Af (w3.setCell ⟨c,5,none⟩ (.int .i64 u.born));have f:Hid (CM W base c d m O P L wd now given births ks ps ls ph top u.born ro Q M mm qs ms ms):=by show CM _ _ _ _ _ _ _ _ _ _ _ _ _ _ _ _ _ _ _ _ _ _ _ _ _;rw[hW];exact E.o.put 5 _ rfl E.o.q E.o.mr E.o.ap
   have V:Hid (Aa W l [.string u.sum,.int .i64 u.born,.string u.F,.slice z u.B.length A]):=Aa.same K.o.1 (by rw[hW];exact Below.heap_setCell _ _ _ _ yK);have bW:Below base w W:=by rw[hW];exact(zF.mono yL).setCell (by simpa using zN) _
   have HW:Hid _:=hW;obtain⟨nk,cc,fk,zK,yB,_⟩:=f.o.gf;have J:Hid (∀X,Zz W X->Calls prog 64 #[.pointer (some ⟨c,0,none⟩),.string u.sum] X fun e w'=>Ao (u.sum∈ms) X w' e):=fun X i=>
    Gt c d ph top u.born ro Q M (.slice none 0 0) mm nk cc fk wd ms u.sum X (f.o.box.below i) (zK.ah i zK.lt) yB yP yQ h8
   have zT:Ay ks u.sum:=⟨u,T,rfl⟩;have zX:Hid _:=zT;clear hW zK yB HC E K zF T;go_upto_region 5 with fail;rw[<-HW.o];clear HW k1 q5 f5 U;obtain⟨U,_⟩:=V.o 0 _ rfl;obtain⟨p0,_⟩:=f.o.box 0 _ rfl;have zG:=Aa.lt V.o;have Z:=f.o.box.lt;by_cases hmk:u.sum∈ms
   .have HI:Hid (u.sum∈ms):=hmk;have N:Hid (∀n:Ae W,Calls prog 64 #[.pointer (some ⟨c,0,none⟩),.string u.sum] n.w fun e w'=>e=.returned (.bool true)/\Below n.w.heap.size n.w w'):=fun n=>(J.o _ n.h).mono (fun e w' ⟨b,he,hb,hbb⟩=>⟨by rw[he,hb.2 HI.o],hbb⟩);have qk:=Ae.cell U zG;have B:=Ae.ne W;clear hmk U p0 J;refine Ai (by kernel_rfl) (by kernel_rfl) ?_
    repeat (go_big_quiet_step (first|exact Ae.calls (N.o _)))
    refine wpQuiet_nil ?_;intro n;clear qk B N;go_wp2;go_ret;exact⟨bW.trans (n.h.mono f.o.y),.inr ⟨rfl,u,zJ.o,.inl ⟨.inl HI.o,(f.o.below n.h).ue⟩⟩⟩
   .have HI:Hid (u.sum∉ms):=hmk;by_cases hin:Cz ps ls ks u.sum
    .have Y:Hid (Cz ps ls ks u.sum):=hin;have N:Hid (∀n:Ae W,Calls prog 64 #[.pointer (some ⟨c,0,none⟩),.string u.sum] n.w fun e w'=>e=.returned (.bool false)/\Below n.w.heap.size n.w w'):=fun n=>(J.o _ n.h).mono (fun e w' ⟨b,he,hb,hbb⟩=>⟨by
      cases b with
      |true=>exact absurd (hb.1 rfl) HI.o
      |false=>exact he,hbb⟩)
     have HA:Hid (∀n:Ae W,Calls prog 66 #[.pointer (some ⟨d,0,none⟩),.agg #[.int .i64 7,.string u.sum,.string ⟨#[]⟩,.int .i64 0,.string ⟨#[]⟩,.slice none 0 0]] n.w fun e w'=>e=.returned (.agg #[.int .i64 6,.int .i64 0,.int .i64 0,.int .i64 0,.int .i64 0,.slice none 0 0,.slice none 0 0,.slice none 0 0,.string ⟨#[]⟩,.int .i64 0,.string ⟨#[]⟩,.string ⟨#[]⟩])/\Below n.w.heap.size n.w w'):=fun n=>Kk base d m O P L wd now given births ks ps ls u.sum n.w (f.o.dr.below n.h) F hp hl zX.o Y.o
     have qk:=Ae.cell U zG;have q0:=Ae.cell p0 Z;have B:=Ae.ne W;clear hmk hin U p0 J zT;refine Ai (by kernel_rfl) (by kernel_rfl) ?_
     repeat (go_big_quiet_step (first|exact Ae.calls (N.o _)|exact Ae.calls (HA.o _)))
     refine wpQuiet_nil ?_;intro n;clear qk q0 B N HA;go_wp2;go_ret;exact⟨bW.trans (n.h.mono f.o.y),.inr ⟨rfl,u,zJ.o,.inl ⟨.inr Y.o,(f.o.below n.h).ue⟩⟩⟩
    .have Y:Hid (¬Cz ps ls ks u.sum):=hin;have N:Hid (∀X,Zz W X->Calls prog 64 #[.pointer (some ⟨c,0,none⟩),.string u.sum] X fun e w'=>e=.returned (.bool false)/\Zz X w'):=fun X i=>(J.o _ i).mono (fun e w' ⟨b,he,hb,hbb⟩=>⟨by
      cases b with
      |true=>exact absurd (hb.1 rfl) HI.o
      |false=>exact he,hbb⟩)
     have HA:Hid (∀X,Zz W X->Calls prog 66 #[.pointer (some ⟨d,0,none⟩),.agg #[.int .i64 7,.string u.sum,.string ⟨#[]⟩,.int .i64 0,.string ⟨#[]⟩,.slice none 0 0]] X fun e w'=>e=.returned (.agg #[.int .i64 0,.int .i64 0,.int .i64 0,.int .i64 0,.int .i64 0,.slice none 0 0,.slice none 0 0,.slice none 0 0,.string ⟨#[]⟩,.int .i64 0,.string ⟨#[]⟩,.string ⟨#[]⟩])/\∃R,Dr w' base d m R P L wd now given births (Bt ks u.sum) ps ls/\R.ownBlock=O.ownBlock/\Tn (vB d m O P L) X w'):=fun X i=>Calls.mono (KN base d m O P L wd now given births ks ps ls u.sum X (f.o.dr.below i) F hp hl zX.o Y.o) (fun _ _ h=>by obtain⟨a,R,b,c,e,_⟩:=h;exact⟨a,R,b,c,e⟩)
     have zI:Hid (∀X,Zz W X->X.cell? ⟨c,0,none⟩=some (.pointer (some ⟨d,0,none⟩))/\X.cell? ⟨l,0,none⟩=some (.string u.sum)):=fun X i=>⟨((f.o.box.below i) 0 _ rfl).1,((Aa.below V.o i) 0 _ rfl).1⟩;have zW:Hid (∀X X',Zz W X->Tn (vB d m O P L) X X'->X'.cell? ⟨c,0,none⟩=some (.pointer (some ⟨d,0,none⟩))/\X'.cell? ⟨l,0,none⟩=some (.string u.sum)):=fun X X' i hT=>
      ⟨(Aa.same (f.o.box.below i) (hT.block c (Zr Z i.size) f.o.ap.cV) 0 _ rfl).1,(Aa.same (Aa.below V.o i) (hT.block l (Zr zG i.size) zY.o) 0 _ rfl).1⟩
     have G:Below W.heap.size W W.drew:=Ad.drew;clear hmk hin U p0 J zT;go_region_held3 (fun X=>X.cell? ⟨c,0,none⟩=some (.pointer (some ⟨d,0,none⟩))/\X.cell? ⟨l,0,none⟩=some (.string u.sum))
      (first|with_reducible exact zI.o _ G|with_reducible exact zI.o _ s|with_reducible exact zW.o _ _ s C)
      (first
        |(go_at_call 64;refine Calls.mono (N.o _ G) ?_;rintro e w6 ⟨rfl,yE⟩;have s:Below W.heap.size W w6:=G.trans (yE.mono G.size))
        |(go_at_call 66;refine Calls.mono (HA.o _ s) ?_;rintro e r ⟨rfl,R,yG,yC,C⟩))
     all_goals
      have zP:=f.o.ap.cV;have zO:r.heap[c]?=w6.heap[c]?:=C.block c (Zr Z s.size) zP;have yJ:r.heap[l]?=w6.heap[l]?:=C.block l (Zr zG s.size) zY.o;have x7:Aa r c (Fy d ph Q M top u.born ro mm (.slice none 0 0)):=Aa.same (f.o.box.below s) zO;have y7:Aa r l [.string u.sum,.int .i64 u.born,.string u.F,.slice z u.B.length A]:=Aa.same (Aa.below V.o s) yJ
      have yA:FH r c:=(f.o.cb.same (s.block c Z)).same zO;have zS:Ah r base Q qs:=(f.o.q.below s).J C (fun g j=>(f.o.ap.q g j).2.2.1);have zR:Ah r base M ms:=(f.o.mr.below s).J C (fun g j=>(f.o.ap.r g j).2.2);have yS:=C.size;have yR:=s.size;have yO:=f.o.y;have yF:∀b∈vB d m O P L,base<=b:=fun b I=>by
       unfold vB at I;simp only[List.mem_cons,List.mem_append,Option.mem_toList]at I;rcases I with rfl|rfl|I|I|I
       .exact f.o.dr.bd
       .exact f.o.dr.bm
       .exact(Ac f.o.dr.ord I).1
       .exact(Ac f.o.dr.cv I).1
       .exact(Ac f.o.dr.dz I).1
      have zZ:Below base w r:=(bW.trans (s.mono yO)).trans (C.below (by omega) yF);have yN:vB d m R P L=vB d m O P L:=by unfold vB;rw[yC]
      obtain⟨V',w8,hr,zH,yI,zM⟩:=Ek (r.drew.alloc (.cells #[.string u.sum] 9)) base (.slice none 0 0) [] (Ah.nil _ _) ⟨r.heap.size,0,none⟩ 1 u.sum (by simp[go_sem]) (by simp) (by simp;omega) 29;obtain⟨va,vc,rfl,_⟩:=zH.row;simp only[List.nil_append,List.length_cons,List.length_nil,Nat.zero_add]at hr zH zM
      have S:Below r.heap.size r w8:=(Ad.drew.alloc (by simp) _).grown yI (by simp) (fun q e=>by cases e);have zA:(r.drew.alloc (.cells #[.string u.sum] 9)).heap.size=r.heap.size+1:=by simp
      obtain⟨x8,g8⟩:=(x7.below S) 8 _ rfl;have zC:∀g,Aj (.slice va 1 vc)=some g->r.heap.size<g:=fun g j=>by
       rcases zM with h'|h'
       .rw[h']at j;cases j
       .rw[h',zA]at j;cases j;omega
      have hT:=AS w8 c 8 (.slice va 1 vc);have yH:Dr (w8.setCell ⟨c,8,none⟩ (.slice va 1 vc)) base d m R P L wd now given births (Bt ks u.sum) ps ls:=(yG.below S).apart hT zN (by rw[yN];exact zP) (fun yV fz e=>by
       obtain⟨a1,a2,h1⟩:=yA.same (S.block c (Zr Z (Zm yR yS)));rw[e]at h1;simp at h1)
      have B:∀k,k≠c->(w8.setCell ⟨c,8,none⟩ (.slice va 1 vc)).heap[k]?=w8.heap[k]?:=fun k hk=>Below.heap_setCell _ _ _ _ hk;have HE:Hid (UE (w8.setCell ⟨c,8,none⟩ (.slice va 1 vc)) base c d m P L wd now given births (Bt ks u.sum) ps ls ph top u.born ro Q M (.slice va 1 vc) qs ms [u.sum]/\Below base w (w8.setCell ⟨c,8,none⟩ (.slice va 1 vc))):=by
       refine⟨⟨⟨R,yH⟩,⟨mm,(x7.below S).set 8 _⟩,(zS.below S).stays (by simp) (fun g j=>B g (f.o.ap.q g j).1),(zR.below S).stays (by simp) (fun g j=>B g (f.o.ap.r g j).1),zH.stays (by simp) (fun g j=>B g (by have:=zC g j;omega)),fun g j=>⟨(f.o.ap.q g j).2.2.2,fun e=> ?_⟩,fun g j e=> ?_⟩,(zZ.trans (S.mono (by omega))).setCell (by simpa using zN) _⟩
       .have:=zC g e;have:=(zS.V j).2;omega
       .have:=zC g e;have:=(zR.V j).2;omega
      obtain⟨yZ,_⟩:=x7 8 _ rfl;obtain⟨xA,_⟩:=y7 0 _ rfl;have yT:c<r.heap.size:=by omega
      have yU:l<r.heap.size:=by omega
      clear yG yC C yH B hT zC S zH zM yI yN yF zZ zS zR yA x7 y7 zO yJ zI zW HA N s yE zP;go_upto_region 6 with fail
      go_region_law (first
       |(refine BH (by rfl) (.tmp 47) (.tmp 50) 29 29 (by rfl) (by rfl) (by rfl) hr ?_))
      all_goals
       clear hr;go_wp2;go_ret;exact⟨HE.o.2,.inr ⟨rfl,u,zJ.o,.inr ⟨HI.o,Y.o,_,HE.o.1⟩⟩⟩
theorem TP(base c d m:Nat)(O P L:Value)(wd now given births:Int)(ks:List Kd)(ps:List Pd)(ls:List Ld)(ph top at_ ro:Int)(Q M:Value)(mm:Nat)(qs ms:Zl)(w:Zh)(h:CM w base c d m O P L wd now given births ks ps ls ph top at_ ro Q M mm qs ms ms)(A:Sm wd births ks ps ls ph ro qs ms):
 Calls prog 22 #[Yy c] w fun e w'=>e=.returned (.tuple #[])/\∃r Q' M' D',UTo ks ps ls births ph top at_ ro qs ms r/\UE w' base c d m P L wd now given births r.ks ps ls r.H r.O r.M r.ro Q' M' D' r.D r.ms r.S/\Below base w w':=by
 have HC:=Yw h;have f:=Yw A;obtain⟨G,E⟩:=h.box 1 _ rfl;obtain⟨x,z,rfl,_⟩:=h.q.row;obtain⟨H,F⟩:=h.box 2 _ rfl;have J:=h.bc;have zG:=A.ql;rcases A.je with rfl|zF
 .clear h A;go_enter func22,ntmps22;go_wp2_with fail;refine(Sq base c d m O P L wd now given births ks ps ls 0 top at_ ro _ M mm qs ms ms w HC.o f.o.pl f.o.ll f.o.fg f.o.fv f.o.ok.w8 f.o.b0 f.o.b1).mono ?_;rintro e o ⟨rfl,V,l,i⟩;have a:=Yw (Zn l.ue i);clear l i G H E F;go_wp2
  go_end0
  exact⟨rfl,_,_,_,_,.begin rfl,a.o.1,a.o.2⟩
 .have t:ph≠0:=by rcases zF with rfl|rfl<;>decide
  have zH:(ph==0)=false:=by simpa using t
  cases qs with
  |cons s q0=>
   clear h A;go_enter func22,ntmps22;go_wp2_with fail;refine(MJ base c d m O P L wd now given births ks ps ls ph top at_ ro _ M mm s q0 ms w HC.o (fun k n=>⟨f.o.ok.sz k n,(f.o.B k n).1,(f.o.B k n).2⟩) f.o.gx (f.o.jf s Yu) f.o.ok.w8 (by simp at zG;omega) f.o.ml).mono ?_;rintro e o ⟨rfl,Q',M',zB,zA,l,zE,i⟩
   have a:Hid (UE o base c d m P L wd now given births ks ps ls ph top at_ ro Q' M' Zb zB zA []/\Lb ks s q0 ms zB zA/\Below base w o):=⟨l.ue,zE,i⟩;clear l i zE G H E F;go_wp2
   go_end0
   exact⟨rfl,_,_,_,_,.mark t s q0 zB zA rfl a.o.2.1,a.o.1,a.o.2.2⟩
  |nil=>
   rcases zF with rfl|rfl
   .obtain⟨W,hW⟩:=Af (w.setCell (Zd c 1) (Zg 2));have zC:Hid (CM W base c d m O P L wd now given births ks ps ls 2 top at_ ro (.slice x 0 z) M mm [] ms ms):=by show CM _ _ _ _ _ _ _ _ _ _ _ _ _ _ _ _ _ _ _ _ _ _ _ _ _;rw[hW];exact h.put 1 _ rfl h.q h.mr h.ap
    have bW:Below base w W:=by rw[hW];exact Ad.setCell (by simpa using J) _
    have HW:=Yw hW;clear h A hW;go_enter func22,ntmps22;go_upto_region 7 with fail;rw[<-HW.o];clear HW;go_wp2_with fail;refine(IB base c d m O P L wd now given births ks ps ls 2 top at_ ro (.slice x 0 z) M mm [] ms W zC.o f.o.ok f.o.born f.o.pl f.o.ll f.o.gx).mono ?_;rintro e o ⟨i,j⟩;have Y:=zC.o.y;rcases j with⟨rfl,X,l⟩|⟨rfl,u,C,j⟩
    .have HN:Hid (∀y∈ks,¬y.born<at_):=X;have q:=Yw l;clear X l G H E F;go_wp2_with fail;refine(NX c d 2 top at_ ro (.slice x 0 z) M Zb mm o q.o.box f.o.r0 f.o.r1).mono ?_;rintro e R ⟨rfl,Z,K,B,_⟩;have N:=q.o.dr.dt q.o.hu B (fun b T=>by simp at T;subst T;exact⟨J,q.o.ap.cV⟩);have I:Below base w R:=(bW.trans i).trans (B.below (Zm Y i.size) (by simp;exact J))
     have a:Hid (UE R base c d m P L wd now given births ks ps ls 0 0 0 (ro+1) Zb Zb Zb [] [] []/\Below base w R):=⟨⟨⟨O,N⟩,⟨Z,K⟩,Ah.nil _ _,Ah.nil _ _,Ah.nil _ _,(fun g e=>by cases e),fun g e=>by cases e⟩,I⟩;clear N I K B;go_wp2
     go_end0
     exact⟨rfl,_,_,_,_,.rest t rfl (fun y hy=>Int.not_lt.2 (HN.o y hy)),a.o.1,a.o.2⟩
    .have S:Hid (Below base w o):=(bW.trans i);rcases j with⟨n,v⟩|⟨U,n,D,v⟩
     .have a:=Yw (Za v (Za C n));clear v C n G H E F;go_wp2
      go_end0
      exact⟨rfl,_,_,_,_,.ah t rfl u a.o.2.1 a.o.2.2,a.o.1,S.o⟩
     .have a:=Yw (Za v (Za C (Za U n)));clear v C n U G H E F;go_wp2
      go_end0
      exact⟨rfl,_,_,_,_,.drop t rfl u a.o.2.1 a.o.2.2.1 a.o.2.2.2,a.o.1,S.o⟩
   .clear h A;go_enter func22,ntmps22;go_wp2_with fail;refine(IB base c d m O P L wd now given births ks ps ls 2 top at_ ro (.slice x 0 z) M mm [] ms w HC.o f.o.ok f.o.born f.o.pl f.o.ll f.o.gx).mono ?_;rintro e o ⟨i,j⟩;have Y:=HC.o.y;rcases j with⟨rfl,X,l⟩|⟨rfl,u,C,j⟩
    .have HN:Hid (∀y∈ks,¬y.born<at_):=X;have q:=Yw l;clear X l G H E F;go_wp2_with fail;refine(NX c d 2 top at_ ro (.slice x 0 z) M Zb mm o q.o.box f.o.r0 f.o.r1).mono ?_;rintro e R ⟨rfl,Z,K,B,_⟩;have N:=q.o.dr.dt q.o.hu B (fun b T=>by simp at T;subst T;exact⟨J,q.o.ap.cV⟩);have I:Below base w R:=i.trans (B.below (Zm Y i.size) (by simp;exact J))
     have a:Hid (UE R base c d m P L wd now given births ks ps ls 0 0 0 (ro+1) Zb Zb Zb [] [] []/\Below base w R):=⟨⟨⟨O,N⟩,⟨Z,K⟩,Ah.nil _ _,Ah.nil _ _,Ah.nil _ _,(fun g e=>by cases e),fun g e=>by cases e⟩,I⟩;clear N I K B;go_wp2
     go_end0
     exact⟨rfl,_,_,_,_,.rest t rfl (fun y hy=>Int.not_lt.2 (HN.o y hy)),a.o.1,a.o.2⟩
    .have S:Hid (Below base w o):=i;rcases j with⟨n,v⟩|⟨U,n,D,v⟩
     .have a:=Yw (Za v (Za C n));clear v C n G H E F;go_wp2
      go_end0
      exact⟨rfl,_,_,_,_,.ah t rfl u a.o.2.1 a.o.2.2,a.o.1,S.o⟩
     .have a:=Yw (Za v (Za C (Za U n)));clear v C n U G H E F;go_wp2
      go_end0
      exact⟨rfl,_,_,_,_,.drop t rfl u a.o.2.1 a.o.2.2.1 a.o.2.2.2,a.o.1,S.o⟩
theorem Wb(h:AI wd now given births ks ps ls)(n:AK wd births ph top at_ ro qs ms):Sm wd births ks ps ls ph ro qs ms:=by
 have t:∀k∈ks,Ee k.F k.B wd:=fun k g=>by obtain⟨i,f⟩:=List.getElem?_of_mem g;exact AV (h.th i k f).ok
 have sz:∀k∈ks,(k.sum.size:Int)=wd:=fun k g=>by obtain⟨i,f⟩:=List.getElem?_of_mem g;rw[(h.th i k f).sum];exact Eg k wd h.bh.gj
 have x:(ks.map (·.sum)).Pairwise (fun a b=>less a b=true):=by refine Qf (fun j p q s y=> ?_);rw[List.getElem?_map]at s y;obtain⟨u,o,rfl⟩:=Option.map_eq_some_iff.1 s;obtain⟨v,A,rfl⟩:=Option.map_eq_some_iff.1 y;exact(h.th (j+1) v A).up j u rfl o
 refine⟨⟨GU x,x,sz,fun k g=>⟨by have:=(t k g).B;omega,IM (t k g).all⟩,h.nth,h.bh.gn⟩,fun k g=> ?_,fun k g=>⟨(t k g).B,fun r n=> ?_⟩,h.np,h.nl,fun p s=> ?_,fun l z=> ?_,h.bh.ak,h.bh.cj,?_,n.iu,n.ix,n.bz.q,n.bz.m,by have:=n.bz.nq;omega,by have:=n.bz.nm;omega⟩
 .obtain⟨i,f⟩:=List.getElem?_of_mem g;exact(h.born i k f).y
 .obtain⟨i,f⟩:=List.getElem?_of_mem n;exact(t k g).size f
 .obtain⟨i,f⟩:=List.getElem?_of_mem s;obtain⟨u,o,e⟩:=(h.cv i p f).sum;rw[<-e];exact sz u o
 .obtain⟨i,f⟩:=List.getElem?_of_mem z;obtain⟨u,o,e⟩:=(h.bj i l f).sum;rw[<-e];exact sz u o
 .rcases n.H with h|h|h
  .exact .inl h.1
  .exact .inr (.inl h.1)
  .exact .inr (.inr h.1)
theorem Mu(h:AI wd now given births ks ps ls){u v:Kd}(g:u∈ks)(k:v∈ks)(e:u.born=v.born):u=v:=by
 obtain⟨i,f⟩:=List.getElem?_of_mem g;obtain⟨j,b⟩:=List.getElem?_of_mem k;rcases Nat.lt_trichotomy i j with a|a|a
 .exact absurd e ((h.born j v b).new i u a f)
 .subst a;rw[f]at b;exact Option.some.inj b
 .exact absurd e.symm ((h.born i u f).new j v a b)
structure Wc where
 code:Int
 wd:Int
 E:Int
 G:Int
 C:Int
 ps:List Pd
 ls:List Ld
 r:UR
inductive UnitTo (wd now given births:Int) (ks:List Kd) (ps:List Pd) (ls:List Ld) (ph top at_ ro:Int) (qs ms:Zl):Wc->Prop
 |bad (h:¬((AI wd now given births ks ps ls/\AK wd births ph top at_ ro qs ms)/\ro≠1000000000)):UnitTo wd now given births ks ps ls ph top at_ ro qs ms ⟨1,0,0,0,0,[],[],⟨[],0,0,0,0,[],[],[]⟩⟩
 |good (h:(AI wd now given births ks ps ls/\AK wd births ph top at_ ro qs ms)/\ro≠1000000000) (r:UR) (hr:UTo ks ps ls births ph top at_ ro qs ms r):UnitTo wd now given births ks ps ls ph top at_ ro qs ms ⟨0,wd,now,given,births,ps,ls,r⟩
structure Kq (w:Zh) (base:Nat) (T P L Q M D:Value) (rs:Zj) (ks:List Kd) (ps:List Pd) (ls:List Ld) (qs ms ds:Zl):Prop where
 R:Bb w base T P L rs ks ps ls
 q:Ah w base Q qs
 mr:Ah w base M ms
 dd:Ah w base D ds
 ap:(∀g,Aj Q=some g->Aj M≠some g/\Aj D≠some g)/\(∀g,Aj M=some g->Aj D≠some g)
 apS:∀g,Aj Q=some g\/Aj M=some g\/Aj D=some g->g∉BS T P L rs
def NZ(o:Wc)(T P L Q M D:Value):Value:=.agg #[Zg o.code,Zg o.wd,Zg o.E,Zg o.G,Zg o.C,T,P,L,Zg o.r.H,Q,M,Zg o.r.O,Zg o.r.M,Zg o.r.ro,D]
theorem Wd(w:Zh)(base:Nat):Kq w base Zb Zb Zb Zb Zb Zb [] [] [] [] [] [] []:=
 ⟨⟨rfl,World.ownsRow_nil _ _ _ _,(fun i k r a _=>by cases a),World.ownsRow_nil _ _ _ _,World.ownsRow_nil _ _ _ _,List.Pairwise.nil⟩,Ah.nil _ _,Ah.nil _ _,Ah.nil _ _,⟨(fun g e=>by cases e),(fun g e=>by cases e)⟩,fun g e=>by rcases e with e|e|e<;>cases e⟩
theorem CM.made{x y l k:Nat}{f:Lit->Option Value}(h:Dr w base d m O P L wd now given births ks ps ls)(E:HU w base m wd ks)(q:Zz w w')(j:Aa w' c (Fy d ph (Yz x qs.length l) (Yz y ms.length o) top at_ ro mm Zb))(s:w'.ownsRow w.heap.size 9 1 (Yz x qs.length l) qs.length (qs.map Value.string))(t:w'.ownsRow w.heap.size 9 1 (Yz y ms.length o) ms.length (ms.map Value.string))(D:AT w' 94 mm n k f)(C:MK ms f k)(F:n<=ms.length)(z:FH w' c)(B:[c,x,y,mm].Nodup)(u:w.heap.size<=c)(v:w.heap.size<=mm):CM w' base c d m O P L wd now given births ks ps ls ph top at_ ro (Yz x qs.length l) (Yz y ms.length o) mm qs ms ms:=by
 have a:base<=w.heap.size:=by have:=h.bd;have:=h.box.lt;omega
 have A:=h.co;have G:w.heap.size<=x/\x<_:=Ac s rfl;have H:w.heap.size<=y/\y<_:=Ac t rfl;simp at B;have i:∀b,w.heap.size<=b->b∉vB d m O P L:=fun b q e=>by have:=A b e;omega
 refine⟨h.below q,E.J (V:=[]) (Tn.of q) a Yu Yu,j,z,Ah.own (NK s a),Ah.own (NK t a),⟨n,k,f,D,C,F⟩,⟨by grind,i c u,i mm v,fun g r=> ?_,fun g r=> ?_⟩,Yv,Yv⟩
 .cases r;exact⟨by grind,by grind,i _ G.1,fun e=>by cases e;grind⟩
 .cases r;exact⟨by grind,by grind,i _ H.1⟩
theorem Kq.made{k l:Zh}{a R:Nat}{o n T D:Value}{u:Zj}{q:Zl}(h:UE w base c d m P L wd now given births ks ps ls ph top at_ ro Q M D qs ms q)(s:Bb k w.heap.size T o n u ks ps ls)(j:Zz w k)(t:Tn [R] k l)(A:R<base)(x:a<=base)(y:base<=w.heap.size):Kq l a T o n Q M D u ks ps ls qs ms q:=by
 have i:∀{v:Value} {ss:Zl},Ah w base v ss->Ah l a v ss:=fun r=>((r.below j).J t (fun g f e=>by have:=(r.V f).1;simp at e;omega)).mono x;refine⟨(s.J t (fun b j=>by simp at j;omega)).mono Yv,i h.q,i h.mr,i h.dd,h.ap,fun g f e=> ?_⟩;have z:=s.y g e;rcases f with f|f|f
 .have:=(h.q.V f).2;omega
 .have:=(h.mr.V f).2;omega
 .have:=(h.dd.V f).2;omega
end Go.Proofs.YtcfjcdpkpiidkaaGreat
