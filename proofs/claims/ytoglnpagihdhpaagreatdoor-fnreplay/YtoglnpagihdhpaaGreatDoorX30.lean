import Derived.Test.YtoglnpagihdhpaaGreatDoorX29
import Derived.Test.YtoglnpagihdhpaaGreatDoorX21
set_option maxRecDepth 100000
set_option maxHeartbeats 16000000
namespace Go.Proofs.YtoglnpagihdhpaaGreatDoor
open ChangeShapes WideShapes ChangeAt RowKit _root_.Go.Proofs.Tryz
variable{wd:Int}{a:Va}{b l:Nat}{o:An}{T P L:Value}{r:Rs}{c:Zl}{w:Zh}{V:List Nat}{v:Vd}{s:Zi}
def Jb(wd lim:Int)(ss tt:Zl)(o:An):Vd:=⟨wd,lim,ss,tt,o.wd,o.E,o.F,o.C,o.A,o.ps,o.ls,0,[],[],0,0,0⟩
theorem VX{lim:Int}{a b:Zl}(c:((1<=wd/\wd<=8)/\(0<=lim/\lim<=1000000)/\Ct a b=true))(h:FT wd (a++b) o):(o.code≠0/\FO wd lim a b 2 v0)\/(o.code=0/\FO wd lim a b 0 (Jb wd lim a b o)):=by
 rcases h with⟨h,_⟩|⟨_,⟨n,h,rfl⟩|⟨r,h,rfl⟩⟩
 .exact absurd ⟨c.1,EG c.2.2⟩ h
 .exact .inl ⟨Yu,.inr ⟨c,.inl ⟨⟨n,h⟩,rfl,rfl⟩⟩⟩
 .exact .inr ⟨rfl,.inr ⟨c,.inr ⟨r,h,rfl,rfl⟩⟩⟩
theorem Uk{j a d:Zh}{r:Zj}{x y k:Nat}{t:Int}{b:Zl}(m:AY a j.heap.size T P L r o.A o.ps o.ls)(u:Zz a d)(q:d.ownsRow a.heap.size 9 1 (Yz x b.length k) b.length (b.map Value.string))(i:d.ownsRow a.heap.size 9 1 (Yz y c.length l) c.length (c.map Value.string))(s:x≠y)(e:j.heap.size<=a.heap.size):
 AD d j.heap.size (Yz x b.length k) (Yz y c.length l) T P L Zb Zb r (Jb wd t b c o):=by
 have f:=m.below u;have v:=(q.lt x rfl).1;have w:=(i.lt y rfl).1;refine⟨Aj.own (q.mono e),Aj.own (i.mono e),f,Aj.nil _ _,Aj.nil _ _,?_⟩;have n:=f.nd;rw[FY]at n;have g:=m.cz;unfold CV;simp only[Ai,Option.toList_some,Option.toList_none,List.append_nil,List.singleton_append];refine List.nodup_cons.2 ⟨fun h=> ?_,List.nodup_cons.2 ⟨fun h=> ?_,n⟩⟩
 .rcases List.mem_cons.1 h with h|h
  .exact s h
  .have:=g x h;omega
 .have:=g y h;omega
theorem NL(wd lim:Int)(a b:Zk)(c d:Nat)(f i:Zl)(w:Zh)(hr:Ad w w.heap.size a f)(hq:Ad w w.heap.size b i)(ha:a=none->f.length=0/\c=0)(hb:b=none->i.length=0/\d=0)(hl:f.length<=1048576)(zS:i.length<=1048576)(hs:∀s∈f,s.size<=1048576)(ht:∀s∈i,s.size<=1048576):
 Calls prog 35 #[Zg wd,Zg lim,.agg #[.slice a f.length c,.slice b i.length d]] w (Abs wd lim f i w):=by
 obtain⟨W,hW⟩:=Af ((w.alloc (.cells #[.slice a f.length c,.slice b i.length d] 47)).alloc (.cells Xo 51));have J:=(Bb hW).1;have zW:=(Bb hW).2.1;have xW:=(Bb hW).2.2.1;have xZ:Aa W (w.heap.size+1) Xq:=by have h1:=Aa.new (w.alloc (.cells #[.slice a f.length c,.slice b i.length d] 47)) Xq 51;rw[World.size_alloc]at h1;rw[hW];exact h1
 have HX:Hid (Aa W _ _):=(Bb hW).2.2.1;have HZ:Hid (Aa W (w.heap.size+1) Xq):=xZ;have HR:Hid (∀X,Zz w X->Ad X X.heap.size a f/\Ad X X.heap.size b i):=fun X M=>⟨hr.N M,hq.N M⟩;have HW:=Yw hW;have Q:=Yw (II wd W);have zA:=Yw (Fx lim 0 1000000 W);have zC:=Yw (Ef a b c d f i W w.heap.size J.size (hr.below J) (hq.below J) hl zS hs ht);obtain⟨y0,y1⟩:=Aa.c2 xW 0 1;clear hW xW xZ hr hq
 by_cases hwd:1<=wd/\wd<=8
 .rw[decide_eq_true hwd]at Q;by_cases hlim:0<=lim/\lim<=1000000
  .rw[decide_eq_true hlim]at zA;cases hlog:Ct f i with
   |true=>
    rw[hlog]at zC;have yT:=EG hlog;obtain⟨xs,zI⟩:=Af (f++i);have HA:Hid (∀X,Zz w X->Calls prog 13 #[.agg #[.slice a f.length c,.slice b i.length d]] X fun e Y=>∃g cap,e=.returned (Yz g xs.length cap)/\Y.ownsRow X.heap.size 9 1 (Yz g xs.length cap) xs.length (xs.map Value.string)/\Zz X Y):=fun X M=>by rw[zI];exact JQ a b c d f i X (HR.o X M).1 (HR.o X M).2 ha hb hl zS
    have HS:Hid (∀(X:Zh) (g cap:Nat),Ad X X.heap.size (some ⟨g,0,none⟩) xs->Calls prog 6 #[Zg wd,Yz g xs.length cap] X fun e Y=>∃(o:An) (t:Zk) (z:Nat) (q:Zk) (r:Nat) (m:Zk) (n:Nat) (Z:Zj),e=.returned (.agg #[Zg o.code,Zg o.wd,Zg o.E,Zg o.F,Zg o.C,.slice t o.A.length z,.slice q o.ps.length r,.slice m o.ls.length n,.string o.y,Zg o.le,.string o.a,.string o.b])/\FT wd (f++i) o/\AY Y X.heap.size (.slice t o.A.length z) (.slice q o.ps.length r) (.slice m o.ls.length n) Z o.A o.ps o.ls/\Zz X Y):=fun X g cap h=>by
     refine(Io wd _ _ xs X h (by rw[zI];omega) (fun s hx=>by rw[zI]at hx;rcases List.mem_append.1 hx with h|h;exact hs s h;exact ht s h)).mono ?_;rintro e Y ⟨o,T,P,L,Z,H,rfl,hS,hb⟩;obtain⟨t,z,q,r,m,n,rfl,rfl,rfl,_⟩:=hS.rows;exact⟨o,t,z,q,r,m,n,Z,rfl,zI▸H,hS,hb⟩
    have HG:=Yw (Za hwd (Za hlim hlog));clear hs ht zI;go_enter func35,ntmps35;go_wp2_with fail;rw[<-HW.o];refine Q.Ah ?_;rintro e w1 ⟨rfl,j⟩;replace j:=j.symm;subst j;go_wp2_with fail;refine zA.Ah ?_;rintro e w1 ⟨rfl,j⟩;replace j:=j.symm;subst j;go_wp2_with fail;refine zC.Ah ?_;rintro e w2 ⟨rfl,zG⟩;have x2:=Aa.below HX.o zG;have yA:=Yw x2
    have yC:Hid (Aa w2 (w.heap.size+1) Xq):=Aa.below (v:=Ze) HZ.o zG;have z2:w.heap.size+2<=w2.heap.size:=by have:=zG.size;omega
    have zK:Hid (Zz w w2):=J.trans (zG.mono J.size);clear y0 y1 Q zA zC zG HW HX HZ;obtain⟨y0,y1⟩:=Aa.c2 x2 0 1;clear x2;go_wp2_with fail;refine(HA.o w2 zK.o).mono ?_;rintro e w3 ⟨g,cap,rfl,yH,zH⟩;have yB:=Yw (Aa.below yA.o zH);have yD:Hid (Aa w3 (w.heap.size+1) Xq):=Aa.below (v:=Ze) yC.o zH;have z3:=zH.size;have zM:Hid (Zz w w3):=zK.o.trans (zH.mono zK.o.size);have yI:=Ad.own yH
    clear y0 y1 zH yA yC zK yH;go_wp2_with fail;refine(HS.o w3 g cap yI).mono ?_;rintro e N ⟨o,t,z,q,r,m,n,Z,rfl,H,yF,I⟩;have z4:=I.size;obtain⟨A,zF⟩:=Af (N.alloc (.cells #[Zg o.code,Zg o.wd,Zg o.E,Zg o.F,Zg o.C,.slice t o.A.length z,.slice q o.ps.length r,.slice m o.ls.length n,.string o.y,Zg o.le,.string o.a,.string o.b] 32));have zE:=(AB zF).1;have yU:=(AB zF).2.1
    have zR:Hid (Aa A _ _):=(AB zF).2.2;have zP:=Yw (Aa.below (Aa.below yB.o I) zE);have zB:Hid (Aa A (w.heap.size+1) Xq):=Aa.below (v:=Ze) (Aa.below (v:=Ze) yD.o I) zE;have C:Hid (Zz w A):=(zM.o.trans (I.mono zM.o.size)).trans (zE.mono (Zm zM.o.size z4));have zY:Hid (AY A w3.heap.size (.slice t o.A.length z) (.slice q o.ps.length r) (.slice m o.ls.length n) Z o.A o.ps o.ls):=yF.below zE
    have zT:Hid (w3.heap.size<=A.heap.size):=by show w3.heap.size<=A.heap.size;omega
    have HC:Hid (∀X,Zz A X->Calls prog 82 #[.agg #[.slice a f.length c,.slice b i.length d]] X fun e Y=>∃x D y E,e=.returned (.agg #[Yz x f.length D,Yz y i.length E])/\Y.ownsRow X.heap.size 9 1 (Yz x f.length D) f.length (f.map Value.string)/\Y.ownsRow X.heap.size 9 1 (Yz y i.length E) i.length (i.map Value.string)/\x≠y/\Zz X Y):=fun X M=>Nz a b c d f i X (HR.o X (C.o.trans (M.mono C.o.size))).1 (HR.o X (C.o.trans (M.mono C.o.size))).2 ha hb hl zS
    obtain⟨⟨yQ,_⟩,_⟩:=Ww zR.o;have zO:=Yw (VX (lim:=lim) HG.o H);have zN:=Yw zF;clear H yF I zE zF yB yD zM HA HS HR HG yI;rcases zO.o with⟨V,H⟩|⟨V,H⟩
    .have yM:(o.code==0)=false:=by simpa using V
     have yN:(o.code !=0)=true:=by simpa using V
     have R:Hid (FO wd lim f i 2 v0):=H;clear zO H V HC zY zP;go_upto_region 4 with fail;rw[<-zN.o];clear zN;have k:(Xo:Array Value).all (·.oneCell')=true:=by simp[Value.oneCell']
     have G:A.there (w.heap.size+1) 0 17:=(zB.o).there;have F:=Yw (Zn k G);obtain⟨B,l⟩:=Af (A.setCells (w.heap.size+1) 0 Xq);have O:Aa B (w.heap.size+1) Xq:=by rw[l];exact(zB.o).au _ rfl
     have b9:Below w.heap.size w B:=(C.o).trans (by rw[l];exact(AI _ _ _ _).below (C.o).size Yu);have U:=Yw l;clear k G l;go_wp2_with (refine wpList_store_mid rfl 51 _ _ rfl (w.heap.size+1) 0 Xo rfl rfl F.o.2 Yr F.o.1 ?_);rw[<-U.o];refine bodyPost_ret (Gm results35 _ _ (w.heap.size+1) Xq _ rfl rfl O.range underlying51 rfl Yr) rfl ?_
     exact⟨2,v0,_,_,_,_,_,_,_,[],R.o,rfl,AD.nil _ _,b9⟩
    .have yM:(o.code==0)=true:=by simpa using V
     have yN:(o.code !=0)=false:=by simpa using V
     have zU:Hid (FO wd lim f i 0 (Jb wd lim f i o)):=H;clear zO H V
     have zZ:Hid (∀X,Zz A X->X.rangeAt w.heap.size 0 [.slice a f.length c,.slice b i.length d]/\X.rangeAt N.heap.size 1 (Yh o.wd o.E o.F o.C t o.A.length z q o.ps.length r m o.ls.length n)):=fun X M=>⟨(Aa.below zP.o M).range,Aa.fs [Zg o.code] (Yh o.wd o.E o.F o.C t o.A.length z q o.ps.length r m o.ls.length n) [.string o.y,Zg o.le,.string o.a,.string o.b] (Aa.below zR.o M)⟩
     go_upto_region 6 with fail;rw[<-zN.o];clear zN yQ
     go_cut [7] (fun u wx=>u=Zg 0/\∃x D y E,Hid (Aa wx (w.heap.size+1) [Zg wd,Zg lim,Yz x f.length D,Yz y i.length E,Zg o.wd,Zg o.E,Zg o.F,Zg o.C,.slice t o.A.length z,.slice q o.ps.length r,.slice m o.ls.length n,Ze,Zb,Zb,Ze,Ze,Ze]/\Zz w wx/\AD wx w.heap.size (Yz x f.length D) (Yz y i.length E) (.slice t o.A.length z) (.slice q o.ps.length r) (.slice m o.ls.length n) Zb Zb Z (Jb wd lim f i o)))
     case first=>
      refine wp_region_held_drew (S:=fun X=>X.rangeAt w.heap.size 0 [.slice a f.length c,.slice b i.length d]/\X.rangeAt N.heap.size 1 (Yh o.wd o.E o.F o.C t o.A.length z q o.ps.length r m o.ls.length n)) Yr (zZ.o _ Ae.drew) (fun hS=> ?_);refine BR 0 (Zg wd) ?_;try simp only[Act.put]
      refine BR 1 (Zg lim) ?_;try simp only[Act.put]
      refine Fu 2 (.agg #[.slice a f.length c,.slice b i.length d]) rfl (by exact yieldsIf_load_mid Yp 47 _ rfl (w.heap.size) 0 rfl [.slice a f.length c,.slice b i.length d] _ (fun X h=>h.1) underlying47 rfl Yr) ?_;try simp only[Act.put]
      refine BR 4 (Yx N.heap.size 1) ?_;try simp only[Act.put]
      refine Fu 5 (.agg (Yg o.wd o.E o.F o.C t o.A.length z q o.ps.length r m o.ls.length n)) rfl (by exact yieldsIf_load_mid Yp 30 _ rfl (N.heap.size) 1 rfl (Yh o.wd o.E o.F o.C t o.A.length z q o.ps.length r m o.ls.length n) _ (fun X h=>h.2) underlying30 rfl Yr) ?_;try simp only[Act.put]
      refine CG 3 (fun K hK=> ?_);go_simp;refine(HC.o A.drew Ae.drew).mono ?_;rintro e w5 ⟨x,D,y,E,rfl,yP,zX,zV,yL⟩;have B5:Below A.heap.size A w5:=(Below.refl A.heap.size A).drew.trans yL;try go_simp
      refine hK.out _ _ (zZ.o w5 B5) (fun yR=> ?_);clear hK K;try simp only[Act.put]
      refine BR 6 (.agg #[Zg wd,Zg lim,Yz x f.length D,Yz y i.length E,Zg o.wd,Zg o.E,Zg o.F,Zg o.C,.slice t o.A.length z,.slice q o.ps.length r,.slice m o.ls.length n,Ze,Zb,Zb,Ze,Ze,Ze]) ?_;try simp only[Act.put]
      refine CG 7 (fun K hK=> ?_);have yG:AD w5 w3.heap.size (Yz x f.length D) (Yz y i.length E) (.slice t o.A.length z) (.slice q o.ps.length r) (.slice m o.ls.length n) Zb Zb Z (Jb wd lim f i o):=Uk zY.o B5 yP zX zV zT.o
      have k:(#[Zg wd,Zg lim,Yz x f.length D,Yz y i.length E,Zg o.wd,Zg o.E,Zg o.F,Zg o.C,.slice t o.A.length z,.slice q o.ps.length r,.slice m o.ls.length n,Ze,Zb,Zb,Ze,Ze,Ze]:Array Value).all (·.oneCell')=true:=by simp[Value.oneCell']
      have yE:Aa w5 (w.heap.size+1) Xq:=Aa.below (v:=Ze) zB.o B5;obtain⟨B,l⟩:=Af (w5.setCells (w.heap.size+1) 0 [Zg wd,Zg lim,Yz x f.length D,Yz y i.length E,Zg o.wd,Zg o.E,Zg o.F,Zg o.C,.slice t o.A.length z,.slice q o.ps.length r,.slice m o.ls.length n,Ze,Zb,Zb,Ze,Ze,Ze])
      have O:Aa B (w.heap.size+1) [Zg wd,Zg lim,Yz x f.length D,Yz y i.length E,Zg o.wd,Zg o.E,Zg o.F,Zg o.C,.slice t o.A.length z,.slice q o.ps.length r,.slice m o.ls.length n,Ze,Zb,Zb,Ze,Ze,Ze]:=by rw[l];exact yE.au _ rfl
      have t9:Tn [w.heap.size+1] w5 B:=by rw[l];exact AI _ _ _ _
      have z5:=B5.size;have B9:Below w.heap.size w B:=(C.o.trans (B5.mono C.o.size)).trans (t9.below (by have:=C.o.size;omega) Yu);have yK:AD B w.heap.size (Yz x f.length D) (Yz y i.length E) (.slice t o.A.length z) (.slice q o.ps.length r) (.slice m o.ls.length n) Zb Zb Z (Jb wd lim f i o):=(yG.stays t9 (fun g hg yO=>by have:=yG.lo g yO;simp at hg;omega)).mono Yv
      have zJ:=Yw (Zn O (Zn B9 yK))
      have yJ:B.rangeAt w.heap.size 0 [.slice a f.length c,.slice b i.length d]/\B.rangeAt N.heap.size 1 (Yh o.wd o.E o.F o.C t o.A.length z q o.ps.length r m o.ls.length n):=⟨(Aa.same (Aa.below zP.o B5) (t9.block _ Yv Yu)).range,Aa.fs [Zg o.code] (Yh o.wd o.E o.F o.C t o.A.length z q o.ps.length r m o.ls.length n) [.string o.y,Zg o.le,.string o.a,.string o.b] (Aa.same (Aa.below zR.o B5) (t9.block _ Yv Yt))⟩
      rw[if_pos Yp];refine wp_store_mid 51 _ _ rfl (w.heap.size+1) 0 #[Zg wd,Zg lim,Yz x f.length D,Yz y i.length E,Zg o.wd,Zg o.E,Zg o.F,Zg o.C,.slice t o.A.length z,.slice q o.ps.length r,.slice m o.ls.length n,Ze,Zb,Zb,Ze,Ze,Ze] rfl rfl yE.there Yr k ?_;try rw[<-l]
      refine hK.out _ _ yJ (fun yS=> ?_);clear hK K;try simp only[Act.put]
      refine BR 8 Ze ?_;try simp only[Act.put]
      refine wpAnyH_done Yr ?_ _;go_wp2_with fail;go_meet;exact⟨rfl,x,D,y,E,zJ.o.1,zJ.o.2⟩
     case rest=>
      obtain⟨rfl,x,D,y,E,HQ⟩:=hcut;have O:=HQ.o.1;go_wp2;refine bodyPost_ret (Gm results35 _ _ (w.heap.size+1) [Zg wd,Zg lim,Yz x f.length D,Yz y i.length E,Zg o.wd,Zg o.E,Zg o.F,Zg o.C,.slice t o.A.length z,.slice q o.ps.length r,.slice m o.ls.length n,Ze,Zb,Zb,Ze,Ze,Ze] _ rfl rfl O.range underlying51 rfl Yr) rfl ?_
      exact⟨0,Jb wd lim f i o,_,_,_,_,_,_,_,Z,zU.o,rfl,HQ.o.2.2,HQ.o.2.1⟩
   |false=>
    rw[hlog]at zC;have R:Hid (FO wd lim f i 1 v0):=.inl ⟨fun h=>by rw[hlog]at h;exact absurd h.2.2 Yu,rfl,rfl⟩;go_enter func35,ntmps35;go_wp2_with fail;rw[<-HW.o];refine Q.Ah ?_;rintro e w1 ⟨rfl,j⟩;replace j:=j.symm;subst j;go_wp2_with fail;refine zA.Ah ?_;rintro e w1 ⟨rfl,j⟩;replace j:=j.symm;subst j;go_wp2_with fail;refine zC.Ah ?_;rintro e N ⟨rfl,I⟩
    have zB:Hid (Aa N (w.heap.size+1) Xq):=Aa.below (v:=Ze) HZ.o I;have C:Hid (Zz w N):=J.trans (I.mono J.size);clear y0 y1 I HX HZ;have k:(Xo:Array Value).all (·.oneCell')=true:=by simp[Value.oneCell']
    have G:N.there (w.heap.size+1) 0 17:=(zB.o).there;have F:=Yw (Zn k G);obtain⟨B,l⟩:=Af (N.setCells (w.heap.size+1) 0 Xq);have O:Aa B (w.heap.size+1) Xq:=by rw[l];exact(zB.o).au _ rfl
    have b9:Below w.heap.size w B:=(C.o).trans (by rw[l];exact(AI _ _ _ _).below (C.o).size Yu);have U:=Yw l;clear k G l;go_wp2_with (refine wpList_store_mid rfl 51 _ _ rfl (w.heap.size+1) 0 Xo rfl rfl F.o.2 Yr F.o.1 ?_);rw[<-U.o];refine bodyPost_ret (Gm results35 _ _ (w.heap.size+1) Xq _ rfl rfl O.range underlying51 rfl Yr) rfl ?_
    exact⟨1,v0,_,_,_,_,_,_,_,[],R.o,rfl,AD.nil _ _,b9⟩
  .rw[decide_eq_false hlim]at zA;have R:Hid (FO wd lim f i 1 v0):=.inl ⟨fun h=>hlim h.2.1,rfl,rfl⟩;go_enter func35,ntmps35;go_wp2_with fail;rw[<-HW.o];refine Q.Ah ?_;rintro e w1 ⟨rfl,j⟩;replace j:=j.symm;subst j;go_wp2_with fail;refine zA.Ah ?_;rintro e w1 ⟨rfl,j⟩;replace j:=j.symm;subst j;clear y0 y1 HX;have k:(Xo:Array Value).all (·.oneCell')=true:=by simp[Value.oneCell']
   have G:W.there (w.heap.size+1) 0 17:=(HZ.o).there;have F:=Yw (Zn k G);obtain⟨B,l⟩:=Af (W.setCells (w.heap.size+1) 0 Xq);have O:Aa B (w.heap.size+1) Xq:=by rw[l];exact(HZ.o).au _ rfl
   have b9:Below w.heap.size w B:=(J).trans (by rw[l];exact(AI _ _ _ _).below (J).size Yu);have U:=Yw l;clear k G l;go_wp2_with (refine wpList_store_mid rfl 51 _ _ rfl (w.heap.size+1) 0 Xo rfl rfl F.o.2 Yr F.o.1 ?_);rw[<-U.o];refine bodyPost_ret (Gm results35 _ _ (w.heap.size+1) Xq _ rfl rfl O.range underlying51 rfl Yr) rfl ?_
   exact⟨1,v0,_,_,_,_,_,_,_,[],R.o,rfl,AD.nil _ _,b9⟩
 .rw[decide_eq_false hwd]at Q;have R:Hid (FO wd lim f i 1 v0):=.inl ⟨fun h=>hwd h.1,rfl,rfl⟩;go_enter func35,ntmps35;go_wp2_with fail;rw[<-HW.o];refine Q.Ah ?_;rintro e w1 ⟨rfl,j⟩;replace j:=j.symm;subst j;clear y0 y1 HX;have k:(Xo:Array Value).all (·.oneCell')=true:=by simp[Value.oneCell']
  have G:W.there (w.heap.size+1) 0 17:=(HZ.o).there;have F:=Yw (Zn k G);obtain⟨B,l⟩:=Af (W.setCells (w.heap.size+1) 0 Xq);have O:Aa B (w.heap.size+1) Xq:=by rw[l];exact(HZ.o).au _ rfl
  have b9:Below w.heap.size w B:=(J).trans (by rw[l];exact(AI _ _ _ _).below (J).size Yu);have U:=Yw l;clear k G l;go_wp2_with (refine wpList_store_mid rfl 51 _ _ rfl (w.heap.size+1) 0 Xo rfl rfl F.o.2 Yr F.o.1 ?_);rw[<-U.o];refine bodyPost_ret (Gm results35 _ _ (w.heap.size+1) Xq _ rfl rfl O.range underlying51 rfl Yr) rfl ?_
  exact⟨1,v0,_,_,_,_,_,_,_,[],R.o,rfl,AD.nil _ _,b9⟩
def RB(b:Nat)(ads:List (Zk))(zs:List (Kd×Value))(g:Nat):Prop:=
 g=b\/(∃p,some p∈ads/\p.block=g)\/∃z∈zs,z.1.B≠[]/\∃ad rc,z.2=.slice (some ad) z.1.B.length rc/\ad.block=g
structure RR (w:Zh) (V:List Nat) (a:Va) (b:Nat) (zs:List (Kd×Value)) (v:Vd):Prop where
 Y:a.Y=some ⟨b,0,none⟩
 zk:zs.map (·.1)=v.A
 z:Bi w b 0 zs
 s:Ad w w.heap.size a.X v.ss
 p:AO w w.heap.size a.O v.ps
 l:AM w w.heap.size a.M v.ls
 q:Ad w w.heap.size a.g v.G
 m:Ad w w.heap.size a.i v.ms
 cs:a.X=none->v.ss.length=0/\a.sc=0
 cp:a.O=none->a.U=0
 cl:a.M=none->a.T=0
 cq:Fg a.g v.G.length a.qc
 cm:Fg a.i v.ms.length a.mc
 lt:∀g,RB b [a.X,a.O,a.M,a.g,a.i] zs g->g<w.heap.size
 ap:∀g,RB b [a.X,a.O,a.M,a.g,a.i] zs g->g∉V
theorem VY{c:List (Kd×Value)}(h:Bi w b 0 c){z:Kd×Value}(e:z∈c):∃a f,z.2=.slice (some a) z.1.B.length f/\Ad w w.heap.size (some a) z.1.B:=by obtain⟨i,d⟩:=List.getElem?_of_mem e;exact(h i z d).2
theorem RR.K{n:Zh}{U:List Nat}{j:List (Kd×Value)}(h:RR w V a b j v)(d:Tn U w n)(q:∀g∈U,g∈V\/w.heap.size<=g):RR n V a b j v:=by
 have c:∀g,RB b [a.X,a.O,a.M,a.g,a.i] j g->g∉U:=fun g i r=>by
  rcases q g r with f|f
  .exact h.ap g i f
  .have:=h.lt g i;omega
 refine⟨h.Y,h.zk,KN h.z (d.block b (h.lt b (.inl rfl)) (c b (.inl rfl))) (fun z l=> ?_),h.s.K d (fun p e _=>c _ (.inr (.inl ⟨p,by simp[e],rfl⟩))),h.p.K d (fun p e _=>c _ (.inr (.inl ⟨p,by simp[e],rfl⟩))),h.l.K d (fun p e _=>c _ (.inr (.inl ⟨p,by simp[e],rfl⟩))),h.q.K d (fun p e _=>c _ (.inr (.inl ⟨p,by simp[e],rfl⟩))),h.m.K d (fun p e _=>c _ (.inr (.inl ⟨p,by simp[e],rfl⟩))),h.cs,h.cp,h.cl,h.cq,h.cm,fun g i=>Zr (h.lt g i) d.size,h.ap⟩
 obtain⟨k,m,f,o⟩:=VY h.z l;refine⟨k,m,f,?_⟩;by_cases hr:z.1.B=[]
 .exact .inl hr
 .exact o.K d (fun p e _=>by cases e;exact c _ (.inr (.inr ⟨z,l,hr,k,m,f,rfl⟩)))
theorem RR.clear{V':List Nat}{e:List (Kd×Value)}(h:RR w V a b e v)(f:∀g∈V',g∈V\/w.heap.size<=g):RR w V' a b e v:=
 ⟨h.Y,h.zk,h.z,h.s,h.p,h.l,h.q,h.m,h.cs,h.cp,h.cl,h.cq,h.cm,h.lt,fun g d i=>by
  rcases f g i with c|c
  .exact h.ap g d c
  .have:=h.lt g d;omega⟩
def Ul(a:Va)(b tc:Nat)(qa ma:Zk)(qc mc:Nat):Va:=⟨a.X,a.sc,a.V,a.W,some ⟨b,0,none⟩,tc,a.O,a.U,a.M,a.T,qa,qc,ma,mc⟩
theorem RR.unit{s:Zh}{f:List (Kd×Value)}{u r:UR}(h:RR w V a b f (AW v u))(M:∀g∈V,g<w.heap.size){e:Ending}{S Q:Zl}{ks:List Kd}{ps:List Pd}{ls:List Ld}{now given births R H F U:Int}{E D C J:Nat}{k:List (Kd×Value)}{o n I:Zk}(c:LV w s e wd now given births P L ks ps ls R H F U S Q b a.g a.i f r l E k o n I D C J):RR s V (Ul a l E o n D C) l k (AW v (u.and r)):=by
 have i:=h.K (V:=V) (Tn.of (V:=[]) c.low) Yu;have d:∀{x:Zk},Dl b a.g a.i w.heap.size x->∀p,x=some p->RB b [a.X,a.O,a.M,a.g,a.i] f p.block\/w.heap.size<=p.block:=fun N p e=>by
  rcases N p e with h|⟨q,h,m⟩|⟨q,h,m⟩|h
  .exact .inl (.inl h)
  .exact .inl (.inr (.inl ⟨q,by simp[h],m.symm⟩))
  .exact .inl (.inr (.inl ⟨q,by simp[h],m.symm⟩))
  .exact .inr h
 have hold:∀g,RB l [a.X,a.O,a.M,o,n] k g->(RB b [a.X,a.O,a.M,a.g,a.i] f g\/w.heap.size<=g)/\g<s.heap.size:=fun g j=>by
  rcases j with rfl|⟨p,A,rfl⟩|⟨z,O,G,t,T,K,rfl⟩
  .exact⟨d c.fb ⟨g,0,none⟩ rfl,c.lt⟩
  .simp only[List.mem_cons,List.not_mem_nil,or_false]at A;rcases A with e|e|e|e|e
   .have:RB b [a.X,a.O,a.M,a.g,a.i] f p.block:=.inr (.inl ⟨p,by simp[<-e],rfl⟩);exact⟨.inl this,i.lt _ this⟩
   .have:RB b [a.X,a.O,a.M,a.g,a.i] f p.block:=.inr (.inl ⟨p,by simp[<-e],rfl⟩);exact⟨.inl this,i.lt _ this⟩
   .have:RB b [a.X,a.O,a.M,a.g,a.i] f p.block:=.inr (.inl ⟨p,by simp[<-e],rfl⟩);exact⟨.inl this,i.lt _ this⟩
   .exact⟨d c.fq p e.symm,c.lq p e.symm⟩
   .exact⟨d c.fm p e.symm,c.lm p e.symm⟩
  .have:RB b [a.X,a.O,a.M,a.g,a.i] f t.block:=.inr (.inr ⟨z,c.sub z O,G,t,T,K,rfl⟩);exact⟨.inl this,i.lt _ this⟩
 refine⟨rfl,c.zk,c.z,i.s,i.p,i.l,c.q,c.m,h.cs,h.cp,h.cl,c.cq,c.cm,fun g j=>(hold g j).2,fun g j B=> ?_⟩;rcases(hold g j).1 with y|y
 .exact h.ap g y B
 .have:=M g B;omega
theorem RR.jo{s:List (Kd×Value)}(h:RR w V a b s v){lo:Nat}{ta:Zk}{tc:Nat}(d:Aj w lo (.slice ta v.D.length tc) v.D)(f:v.ss.length<=1048576)(g:v.D.length<=1048576)(i:v.G.length<=100000000)(j:v.ms.length<=100000000)(l:v.A.length<=600)(m:v.ps.length<=100)(n:v.ls.length<=200)(o:∀k∈v.A,k.B.length<=30):Kh w {a with V:=ta,W:=tc} v:=by
 obtain⟨_,_,e,q⟩:=d.row;cases e;have r:Bu w w.heap.size (some ⟨b,0,none⟩) v.A:=by have:=h.z.dq (h.lt b (.inl rfl));rw[h.zk]at this;exact this
 refine⟨⟨h.s,q,⟨by rw[h.Y];exact r,h.p,h.l⟩,h.q,h.m⟩,h.cs,d.cap.2,h.cq,h.cm,fun A e=> ?_,h.cp,h.cl,f,g,i,j,l,m,n,o⟩;have c:a.Y=some A:=e;rw[h.Y]at c;cases c;rw[<-h.zk];exact Ev.cp h.z.some
theorem SE(v:Vd):AW v (EH v)=v:=by cases v;simp[AW,EH]
theorem RR.start{t:Nat}{S U Q M:Value}{j:Zj}(h:AD w t S U T P L Q M j v)(f:∀u∈S::U::Q::M::T::P::L::j,∃g n c,u=Yz g n c):∃a b zs,S=.slice a.X v.ss.length a.sc/\U=.slice a.V v.D.length a.W/\T=.slice a.Y v.A.length a.j/\P=.slice a.O v.ps.length a.U/\L=.slice a.M v.ls.length a.T/\Q=.slice a.g v.G.length a.qc/\M=.slice a.i v.ms.length a.mc/\RR w (Ai U).toList a b zs v:=by
 obtain⟨r,n1,sc,rfl⟩:=f S Yu;obtain⟨R,n2,uc,rfl⟩:=f U Yu;obtain⟨H,n3,qc,rfl⟩:=f Q Yu;obtain⟨F,n4,mc,rfl⟩:=f M Yu;obtain⟨s,n5,O,rfl⟩:=f T Yu;obtain⟨G,n6,N,rfl⟩:=f P Yu;obtain⟨lg,n7,K,rfl⟩:=f L Yu;obtain⟨_,_,q,hs⟩:=h.s.row;obtain⟨_,_,W,_⟩:=h.u.row;obtain⟨_,_,X,hq⟩:=h.q.row;obtain⟨_,_,Y,hm⟩:=h.m.row;obtain⟨_,_,Z⟩:=As h.st.ak
 obtain⟨_,_,e6⟩:=As h.st.pins;obtain⟨_,_,e7⟩:=As h.st.aq;cases q;cases W;cases X;cases Y;cases Z;cases e6;cases e7;have V:(v.A.zip j).length=v.A.length:=by rw[List.length_zip,h.st.len];omega
 have C:=h.st.ak;rw[<-V]at C;have D:∀z∈v.A.zip j,z.2∈j/\∃g c,z.2=Yz g z.1.B.length c/\Ad w w.heap.size (some ⟨g,0,none⟩) z.1.B:=fun z o=>by obtain⟨i,hi⟩:=List.getElem?_of_mem o;obtain⟨k,d⟩:=List.getElem?_zip_eq_some.1 hi;have E:=h.st.B i _ _ k d;obtain⟨g,n,c,l⟩:=f z.2 (by simp[Zs d]);refine⟨Zs d,g,c,?_⟩;rw[l]at E |-;obtain⟨_,_,e⟩:=As E;cases e;exact⟨rfl,Ad.own E⟩
 have y:∀g,RB s [some ⟨r,0,none⟩,some ⟨G,0,none⟩,some ⟨lg,0,none⟩,some ⟨H,0,none⟩,some ⟨F,0,none⟩] (v.A.zip j) g->g=r\/g∈Ci (Yz s v.A.length O) (Yz G v.ps.length N) (Yz lg v.ls.length K) j\/g=H\/g=F:=fun g l=>by
  unfold Ci;simp only[List.mem_append,Option.mem_toList,List.mem_filterMap];rcases l with rfl|⟨p,J,rfl⟩|⟨z,o,_,ad,rc,q,rfl⟩
  .exact .inr (.inl (.inl rfl))
  .simp only[List.mem_cons,List.not_mem_nil,or_false,Option.some.injEq]at J;rcases J with rfl|rfl|rfl|rfl|rfl
   .exact .inl rfl
   .exact .inr (.inl (.inr (.inl rfl)))
   .exact .inr (.inl (.inr (.inr (.inl rfl))))
   .exact .inr (.inr (.inl rfl))
   .exact .inr (.inr (.inr rfl))
  .obtain⟨k,g,c,d,_⟩:=D z o;rw[d]at q;cases q;exact .inr (.inl (.inr (.inr (.inr ⟨z.2,k,by rw[d];rfl⟩))))
 have A:=h.cz;have B:=h.nd;unfold CV at A B
 refine⟨⟨some ⟨r,0,none⟩,sc,some ⟨R,0,none⟩,uc,some ⟨s,0,none⟩,O,some ⟨G,0,none⟩,N,some ⟨lg,0,none⟩,K,some ⟨H,0,none⟩,qc,some ⟨F,0,none⟩,mc⟩,s,v.A.zip j,rfl,rfl,rfl,rfl,rfl,rfl,rfl,⟨rfl,List.map_fst_zip (by rw[h.st.len];exact Zx),Bi.own C (fun z o=> ?_),hs,AO.own h.st.pins,AM.own h.st.aq,hq,hm,(fun e=>by cases e),(fun e=>by cases e),(fun e=>by cases e),h.q.cap,h.m.cap,fun g l=> ?_,fun g l hu=> ?_⟩⟩
 .obtain⟨_,g,c,d,m⟩:=D z o;exact⟨_,c,d,m⟩
 .refine A g ?_;simp only[List.mem_append,Option.mem_toList];rcases y g l with rfl|k|rfl|rfl
  .exact .inl (.inl rfl)
  .exact .inr (.inl k)
  .exact .inr (.inr (.inl rfl))
  .exact .inr (.inr (.inr rfl))
 .have eu:g=R:=by simpa [Ai]using hu
  subst eu;obtain⟨k,_,m⟩:=List.nodup_append.1 B;have I:=(List.nodup_append.1 k).2.2;simp only[List.mem_append,Option.mem_toList]at m I;rcases y g l with e|h5|e|e
  .exact I r rfl g rfl e.symm
  .exact m g (.inr rfl) g (.inl h5) rfl
  .exact m g (.inr rfl) g (.inr (.inl (by rw[e];rfl))) rfl
  .exact m g (.inr rfl) g (.inr (.inr (by rw[e];rfl))) rfl
theorem Wy(X:Zh)(lo a j:Nat)(U:Value)(c:Zl)(t:Zi)(h:Aj X lo U c)(o:∀g,Ai U=some g->g≠a)(u:a<X.heap.size)(y:lo<=X.heap.size)(w:c.length<=100000000):
 ∃d f Y,(Builtin.append_ #[23,23] 23 #[U,Yz X.heap.size 1 1]).run prog (X.alloc (.cells #[.string t] 9))=.ok (.slice d (c.length+1) f) Y/\Y.heap[a]?=X.heap[a]? /\Tn (a::(Ai U).toList) X (Y.setCell (Zd a j) (.slice d (c.length+1) f))/\Aj (Y.setCell (Zd a j) (.slice d (c.length+1) f)) lo (.slice d (c.length+1) f) (c++[t])/\∀g,Ai (.slice d (c.length+1) f)=some g->Ai U=some g\/X.heap.size<=g:=by
 have m:Below X.heap.size X (X.alloc (.cells #[.string t] 9)):=Zy;obtain⟨z,Y,s,n,q,r⟩:=Kt (X.alloc (.cells #[.string t] 9)) lo U c (h.below m) ⟨X.heap.size,0,none⟩ 1 t (by simp[go_sem]) w Yt 23;obtain⟨d,f,rfl,_⟩:=n.row;rw[List.length_append,List.length_cons,List.length_nil,Nat.zero_add]at s n r;have l:∀g,Ai (.slice d (c.length+1) f)=some g->Ai U=some g\/X.heap.size<=g:=fun g e=>by
  rcases r with i|i
  .rw[i]at e;exact .inl e
  .rw[i]at e;have:=Option.some.inj e;simp at this;exact .inr Yv
 have v:Y.heap[a]?=X.heap[a]?:=(q.block a Yt (fun e=>o a e.symm rfl)).trans (m.block a u);refine⟨d,f,Y,s,v,((Tn.of (V:=[]) m).mono Yu).trans (((Di q).mono (by simp;exact fun b h=> .inr h)).trans (Tn.set _ _ _ _ Yu)),n.K (Bl Y a j _) (fun g e k=> ?_),l⟩;simp at k;subst k;rcases l g e with i|i
 .exact o g i rfl
 .omega
def SwP(v:Vd)(units:Int)(w:Zh)(e:Ending)(w':Zh):Prop:=∃o cs,Ep v units o/\e=.returned (.agg cs.toArray)/\SwA v o w.heap.size w' cs/\Zz w w'
theorem Mu{X:Zh}(a:Aa X (w.heap.size+1) (z20 0)/\Zz w X):X.there (w.heap.size+1) 0 20/\(z20 1).toArray.all (·.oneCell')=true/\Aa (X.setCells (w.heap.size+1) 0 (z20 1)) (w.heap.size+1) (z20 1)/\Zz w (X.setCells (w.heap.size+1) 0 (z20 1)):=
 ⟨a.1.there,by simp[z20,Value.oneCell'],a.1.au _ rfl,a.2.trans ((AI _ _ _ _).below a.2.size Yu)⟩
section
variable {wd now given births:Int} {ks:List Kd} {ps:List Pd} {ls:List Ld}
structure SX (wd now:Int) (ks:List Kd) (ps:List Pd) (ls:List Ld):Prop where
 y:∀k∈ks,k.sum=Hl k wd
 rf:∀k∈ks,Lw ks k
 pn:∀p∈ps,Cr p.name=true/\Au ks p.sum
 ln:∀l∈ls,1<=l.H/\Au ks l.sum/\now<l.R/\l.R<=now+100000
theorem VZ{e:Int}{f:Zi}{d:Int}{c:Zi}{b:Zl}(h:Bw e s f d c b wd=true):Ei (CP e.toNat) f=true/\CX (Cc e.toNat) d=true:=by unfold Bw at h;simp only[Bool.and_eq_true,decide_eq_true_eq]at h;have a:=h.2;unfold Cu at a;simp only[Bool.and_eq_true,decide_eq_true_eq]at a;exact⟨a.2.2.1,a.2.2.2.1⟩
theorem SX.step{G:Int}{v:Zi}{a:Int}{d:Zi}(h:SX wd now ks ps ls)(P:RX wd births ks ps ls)(O:FN wd now given births ks ps ls)(M:Bw G s v a d c wd=true)(D:CN wd now given births ks ps ls G s v a d c r):SX wd r.E r.A r.ps r.ls:=by
 obtain⟨N,C⟩:=VZ M;have U:=O.bj;have z:∀(x:Ld),x.H=given+1->Au ks x.sum->now<x.R/\x.R<=now+100000->∀l∈ls++[x],1<=l.H/\Au ks l.sum/\now<l.R/\l.R<=now+100000:=fun x A E L l b=>by
  rcases List.mem_append.1 b with b|b
  .exact h.ln l b
  .rw[List.mem_singleton.1 b];exact⟨Yv,E,L⟩
 rcases D with⟨rfl,m,b,Q,S,T,D,rfl⟩|⟨rfl,m,_,rfl⟩|⟨_,_,rfl⟩|⟨rfl,m,_,_,rfl⟩|⟨_,_,rfl⟩|⟨rfl,_,rfl⟩|⟨_,_,i,rfl⟩
 .have n:1<=a/\a<=100000:=by simpa [Cc,CX]using C
  rcases D with⟨k,f,H,_,rfl,rfl⟩|⟨R,_,_,rfl,rfl⟩
  .exact⟨h.y,h.rf,h.pn,z _ rfl ⟨k,f,H⟩ ⟨by show now<now+a;omega,by show now+a<=_;omega⟩⟩
  .have F:∀k,k∈CZ ks ⟨AV d c wd,births+1,d,c⟩->k=⟨AV d c wd,births+1,d,c⟩\/k∈ks:=fun k f=>List.mem_cons.1 ((DS ks _).mem_iff.1 f);have w:∀{t},Au ks t->Au (CZ ks ⟨AV d c wd,births+1,d,c⟩) t:=fun⟨u,i,e⟩=>⟨u,(DS ks _).mem_iff.2 (List.mem_cons_of_mem _ i),e⟩;refine⟨fun k f=> ?_,fun k f r o=> ?_,fun p j=>⟨(h.pn p j).1,w (h.pn p j).2⟩,fun l b=> ?_⟩
   .rcases F k f with rfl|f
    .rfl
    .exact h.y k f
   .rcases F k f with rfl|f
    .obtain⟨u,i,e⟩:=m r o;exact⟨u,(DS ks _).mem_iff.2 (List.mem_cons_of_mem _ i),e,by have:=(P.b1 u i).2;show u.born<births+1;omega⟩
    .obtain⟨u,i,e,q⟩:=h.rf k f r o;exact⟨u,(DS ks _).mem_iff.2 (List.mem_cons_of_mem _ i),e,q⟩
   .rcases List.mem_append.1 b with b|b
    .exact⟨(h.ln l b).1,w (h.ln l b).2.1,(h.ln l b).2.2⟩
    .rw[List.mem_singleton.1 b];exact⟨by show 1<=given+1;omega,⟨_,(DS ks _).mem_iff.2 (List.mem_cons.2 (.inl rfl)),rfl⟩,by show now<now+a;omega,by show now+a<=now+100000;omega⟩
 .have I:Cr v=true:=by simpa [CP,Ei]using N
  refine⟨h.y,h.rf,fun p j=> ?_,h.ln⟩;have g:p∈Bh ps v s:=j;unfold Bh at g;rcases List.mem_append.1 g with g|g
  .rcases List.mem_append.1 g with g|g
   .exact h.pn p (List.mem_filter.1 g).1
   .rw[List.mem_singleton.1 g];exact⟨I,m⟩
  .exact h.pn p (List.mem_filter.1 g).1
 .exact⟨h.y,h.rf,fun p j=>h.pn p (List.mem_filter.1 j).1,h.ln⟩
 .have n:1<=a/\a<=100000:=by simpa [Cc,CX]using C
  exact⟨h.y,h.rf,h.pn,z _ rfl m ⟨by show now<now+a;omega,by show now+a<=_;omega⟩⟩
 .exact⟨h.y,h.rf,h.pn,fun l b=>h.ln l (List.mem_filter.1 b).1⟩
 .have n:1<=a/\a<=100000:=by simpa [Cc,CX]using C
  refine⟨h.y,h.rf,h.pn,fun l b=> ?_⟩;have A:=h.ln l (List.mem_filter.1 b).1;have E:¬l.R<=now+a:=by simpa using (List.mem_filter.1 b).2
  exact⟨A.1,A.2.1,by show now+a<l.R;omega,by show l.R<=now+a+_;omega⟩
 .have f:∀{t},Au ks t->t≠s->Au (CK ks s) t:=fun⟨u,i,e⟩ hne=>⟨u,List.mem_filter.2 ⟨i,by simp;rw[e];exact hne⟩,e⟩;have B:∀k,k∈CK ks s->k∈ks:=fun k f=>(List.mem_filter.1 f).1;refine⟨fun k f=>h.y k (B k f),fun k y r o=> ?_,fun p j=>⟨(h.pn p j).1,f (h.pn p j).2 (fun e=>i (.inl (.inl ⟨p,j,e⟩)))⟩,fun l b=>⟨(h.ln l b).1,f (h.ln l b).2.1 (fun e=>i (.inl (.inr ⟨l,b,e⟩))),(h.ln l b).2.2⟩⟩
  obtain⟨u,J,e,q⟩:=h.rf k (B k y) r o;exact⟨u,List.mem_filter.2 ⟨J,by simp;rw[e];exact fun K=>i (.inr ⟨k,B k y,K▸o⟩)⟩,e,q⟩
theorem SF(a:FN wd now given births ks ps ls)(u:RX wd births ks ps ls)(A:Ms wd ks)(h:SX wd now ks ps ls)(y:wd<=8):CF wd now given births ks ps ls:=by
 have r:∀(i j:Nat) p k,i<j->ks[i]?=some p->ks[j]?=some k->less p.sum k.sum=true:=fun i j p k w d b=>by have c:=a.bn.dh;rw[List.pairwise_iff_getElem]at c;obtain⟨m,f⟩:=Zw d;obtain⟨n,g⟩:=Zw b;have:=c i j (by simpa using m) (by simpa using n) w;simpa [f,g]using this
 refine⟨⟨a.w1,y,a.cw,a.cn,a.bj,a.bh,a.ax,a.ai⟩,a.bn.len,a.np,a.nl,fun i k b=>⟨A k (Zs b),h.y k (Zs b),fun j p e d=>r j i p k Yv d b⟩,fun i k b=>⟨(u.b1 k (Zs b)).1,(u.b1 k (Zs b)).2,fun j p z d e=> ?_⟩,fun i k b=>h.rf k (Zs b),fun i p d=>⟨(h.pn p (Zs d)).1,fun j q e t=> ?_,(h.pn p (Zs d)).2⟩,fun i l s=> ?_⟩
 .have v:=r j i p k z d b;rw[u.un p (Zs d) k (Zs b) e,BI]at v;cases v
 .have c:=a.bt;rw[List.pairwise_iff_getElem]at c;obtain⟨m,f⟩:=Zw t;obtain⟨n,g⟩:=Zw d;have:=c j i m n Yv;rw[f,g]at this;exact this
 .have o:=h.ln l (Zs s);refine⟨o.1,a.fj l (Zs s),fun j q e t=> ?_,o.2.1,o.2.2.1,o.2.2.2⟩;have c:=a.di;rw[List.pairwise_iff_getElem]at c;obtain⟨m,f⟩:=Zw t;obtain⟨n,g⟩:=Zw s;have:=c j i m n Yv;rw[f,g]at this;exact this
theorem BS.sx:∀{xs:Zl} {r r':Rs},BS wd r xs r'->r.ok wd->RX wd r.C r.A r.ps r.ls->SX wd r.E r.A r.ps r.ls->SX wd r'.E r'.A r'.ps r'.ls
 |[],r,r',h,_,_,hs=>by obtain rfl:r'=r:=h;exact hs
 |x::xs,r,r',h,hr,hx,hs=>by obtain⟨c,a,b⟩:=h;exact BS.sx b (a.ok hr) (hx.step hr a.2) (hs.step hx hr (DQ a.1).1 a.2)
theorem BS.valid{xs:Zl}(h:BS wd r0 xs r)(d:1<=wd)(b:wd<=8):CF wd r.E r.F r.C r.A r.ps r.ls:=by have a:=Du d b;have c:RX wd r0.C r0.A r0.ps r0.ls:=⟨by simp[r0],by simp[r0],by simp[r0],by simp[r0],by simp[r0]⟩;exact SF (h.ok a) (h.rx a c) (h.tok (by intro k e;cases e)) (h.sx a c ⟨by simp[r0],by simp[r0],by simp[r0],by simp[r0]⟩) b
end
section
theorem Um(h:(Av s wd).ok=false):Av s wd=FJ:=by
 unfold Av at h |-;split at h
 .rename_i h1
  rw[if_pos h1]
 .cases h
theorem Un(s:Zi)(wd:Int):(Av s wd).t.size<=2000/\(Av s wd).name.size<=40/\(Av s wd).ss.length<=30:=by
 cases h:(Av s wd).ok with
 |false=>rw[Um h];exact⟨Nat.zero_le _,Nat.zero_le _,Nat.zero_le _⟩
 |true=>
  have a:=(DQ h).1;refine⟨?_,(DR a).2.2.name,Lm a⟩;unfold Bw at a;simp only[Bool.and_eq_true,decide_eq_true_eq]at a;have c:=a.2;unfold Cu at c;simp only[Bool.and_eq_true,decide_eq_true_eq]at c;have b:=c.2.2.2.2;unfold GW at b;split at b
  .exact(Be b).J
  .have d:=of_decide_eq_true b;omega
variable {wd:Int} {xs:Zl} {x:An}
theorem FT.wdOk(h:FT wd xs x)(a:x.code≠1):1<=wd/\wd<=8:=by
 rcases h with⟨_,rfl⟩|⟨g,_⟩
 .exact absurd rfl a
 .exact g.1
theorem FT.bad(h:FT wd xs x)(b:x.code≠1){i:Nat}(d:BS wd r0 (xs.take i) r)(e:xs[i]?=some s)(a:ZT wd r s):x.code=7/\x.le=(i:Int)+1:=by
 have c:(1<=wd/\wd<=8)/\xs.length<=4000:=by
  rcases h with⟨_,rfl⟩|⟨g,_⟩
  .exact absurd rfl b
  .exact g
 rw[h.de (y:=⟨7,0,0,0,0,((i+1:Nat):Int),⟨#[]⟩,⟨#[]⟩,⟨#[]⟩,[],[],[]⟩) (.inr ⟨c,.inl ⟨i+1,⟨i,r,s,rfl,e,d,a⟩,rfl⟩⟩)];exact⟨rfl,by show((i+1:Nat):Int)=_;omega⟩
theorem FT.good(h:FT wd xs x)(a:x.code≠1)(c:BS wd r0 xs r):x=⟨0,wd,r.E,r.F,r.C,0,⟨#[]⟩,⟨#[]⟩,⟨#[]⟩,r.A,r.ps,r.ls⟩:=by
 have b:(1<=wd/\wd<=8)/\xs.length<=4000:=by
  rcases h with⟨_,rfl⟩|⟨g,_⟩
  .exact absurd rfl a
  .exact g
 exact h.de (.inr ⟨b,.inr ⟨r,c,rfl⟩⟩)
theorem FT.small(h:FT wd xs x):(x.A.length<=600/\x.ps.length<=100/\x.ls.length<=200)/\∀k∈x.A,k.B.length<=30:=by
 rcases h with⟨_,rfl⟩|⟨g,⟨_,_,rfl⟩|⟨r,b,rfl⟩⟩
 .exact⟨⟨Yu,Yu,Yu⟩,Yu⟩
 .exact⟨⟨Yu,Yu,Yu⟩,Yu⟩
 .have a:FN wd r.E r.F r.C r.A r.ps r.ls:=b.ok (Du g.1.1 g.1.2);exact⟨⟨a.bn.len,a.np,a.nl⟩,a.dv⟩
theorem BS.gz(b:BS wd r0 xs r)(c:1<=wd)(a:wd<=8):Ji r.A r.ps r.ls:=
 PL (b.ok (Du c a)) (b.rx (Du c a) ⟨by simp[r0],by simp[r0],by simp[r0],by simp[r0],by simp[r0]⟩) (b.pn (by intro p d;cases d)) a
end
end Go.Proofs.YtoglnpagihdhpaaGreatDoor
