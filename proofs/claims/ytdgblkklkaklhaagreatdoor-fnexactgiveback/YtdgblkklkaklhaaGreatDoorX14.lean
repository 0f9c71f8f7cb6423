import Derived.Test.YtdgblkklkaklhaaGreatDoorX13
set_option maxRecDepth 100000
set_option maxHeartbeats 16000000
namespace Go.Proofs.YtdgblkklkaklhaaGreatDoor
open Go.ChangeShapes Go.WideShapes Go.ChangeAt Go.RowKit _root_.Go.Proofs.Tryz
theorem Ws{d m n:Nat}{O P L a:Option Nat}(h:(d::m::(O.toList++(P.toList++L.toList))).Nodup)(e:∀b∈d::m::(O.toList++(P.toList++L.toList)),b<n)(c:a=O∨∃g,a=some g/\n<=g):(d::m::(a.toList++(P.toList++L.toList))).Nodup:=by
 rcases c with rfl|⟨g,rfl,f⟩
 ·exact h
 ·cases O<;>cases P<;>cases L<;>simp_all<;>grind
theorem DU.newK{w j:Zh}{base d m:Nat}{O P L:Value}{l k given ae:Int}{z:List Kd}{u:List Pd}{t:List Ld}(h:DU w base d m O P L l k given ae z u t)(s:Tn (d::m::O.ownBlock.toList) w j){c:Value}{i:List Kd}{a:Int}(o:Aa j d [Zg l,.map (some m),Zg k,Zg given,Zg a,c,P,L])(y:∃n f,n<=1000000+a.toNat/\AV j 190 m n f/\BQ j base (vB d m c P L) l i f)(x:j.ownsRow base 190 8 c i.length (AA (i.map (·.sum))))(v:c.ownBlock=O.ownBlock∨∃g,c.ownBlock=some g/\w.heap.size<=g):DU j base d m c P L l k given a i u t:=by
 obtain⟨A,p,q,r⟩:=CZ h.dr.ap;refine⟨⟨o,y,x,Ai h.dr.ci (fun g b=>s.block g (Ac h.dr.ci b).2 (fun e=> ?_)),Ai h.dr.ck (fun g b=>s.block g (Ac h.dr.ck b).2 (fun e=> ?_)),h.dr.bd,h.dr.bm,Ws h.dr.ap h.dr.cg v⟩⟩
 ·rcases List.mem_cons.1 e with e|e
  ·exact(q g b).1 e
  ·rcases List.mem_cons.1 e with e|e
   ·exact(q g b).2.1 e
   ·exact(p g (by simpa using e)).2.2.1 b
 ·rcases List.mem_cons.1 e with e|e
  ·exact(r g b).1 e
  ·rcases List.mem_cons.1 e with e|e
   ·exact(r g b).2 e
   ·exact(p g (by simpa using e)).2.2.2 b
theorem LG{a:List Kd}{x:Kd}{i:Nat}(h:Fi (a.map (·.sum)) x.sum i):(a.map (·.sum)).take i++[x.sum]++(a.map (·.sum)).drop i=(Dz a x).map (·.sum):=by rw[QU h];simp[List.map_take,List.map_drop]
theorem BQ.snoc{w:Zh}{base:Nat}{V:List Nat}{b:Int}{i:List Kd}{f:Lit->Option Value}(h:BQ w base V b i f){x:Kd}{g:Zk}{rc:Nat}(r:(x.sum.size:Int)=b)(q:b<=8)(o:De w base V g x.refs):BQ w base V b (i++[x]) (upd f (keyL x.sum) (Ee x g rc)):=by
 intro s p;by_cases he:keyL s=keyL x.sum
 ·have:s=x.sum:=key_inj he (by omega) (by omega);subst this;exact .inr ⟨x,g,rc,by simp,rfl,Dm _ _ _,o⟩
 ·rw[Dg _ _ he];have j:x.sum≠s:=fun e=>he (by rw[e]);rcases h s p with⟨c,d⟩|⟨u,k,l,c,d,m,n⟩
  ·refine .inl ⟨c,fun⟨u,a,e⟩=> ?_⟩;rcases List.mem_append.1 a with a|a
   ·exact d ⟨u,a,e⟩
   ·simp at a;subst a;exact j e
  ·exact .inr ⟨u,k,l,by simp[c],d,m,n⟩
theorem BQ.same{w:Zh}{base:Nat}{V:List Nat}{i:Int}{g a:List Kd}{f:Lit->Option Value}(h:BQ w base V i g f)(d:∀u,u∈a↔u∈g):BQ w base V i a f:=by
 intro s j;rcases h s j with⟨b,c⟩|⟨u,l,m,b,c⟩
 ·exact .inl ⟨b,fun⟨k,hk,e⟩=>c ⟨k,(d k).1 hk,e⟩⟩
 ·exact .inr ⟨u,l,m,(d u).2 b,c⟩
def PX(w:Zh)(base:Nat)(V:List Nat)(m:Nat)(wd ae:Int)(ks:List Kd):Prop:=∃n f,n<=1000000+ae.toNat/\AV w 190 m n f/\BQ w base V wd ks f
theorem PX.an{w g:Zh}{base m:Nat}{U V:List Nat}{i ae:Int}{e:List Kd}(h:PX w base V m i ae e)(d:Tn U w g)(l:∀b∈U,b∈V)(o:m∉U):PX g base V m i ae e:=by obtain⟨n,f,j,c,k⟩:=h;exact⟨n,f,j,AV.same c (d.block m c.lt o),k.move d (fun b a=> .inl (l b a)) (fun b a=> .inl a)⟩
theorem HN.below{w b:Zh}{m N:Nat}(h:HN w m N)(d:Zz w b):HN b m N:=by obtain⟨n,f,c,a⟩:=h;exact⟨n,f,c,a.aj d a.lt⟩
theorem HN.same{w a:Zh}{m N:Nat}(h:HN w m N)(d:a.heap[m]?=w.heap[m]?):HN a m N:=by obtain⟨n,f,b,c⟩:=h;exact⟨n,f,b,AV.same c d⟩
theorem Wt(base d m:Nat)(O P L:Value)(E G given ae:Int)(a:List Kd)(ps:List Pd)(ls:List Ld)(s text:Zi)(refs:Zl)(B:Zk)(rc:Nat)(w:Zh)(h:DU w base d m O P L E G given ae a ps ls)(zC:Fa E a)(yG:(s.size:Int)=E)(hl:a.length<600)(yK:0<=ae)(yL:ae<1000000000)(hr:De w base (vB d m O P L) B refs):
 Calls prog 203 #[Yz d,.string s,.agg #[.string text,.slice B refs.length rc]] w fun e w'=>e=.returned (.tuple #[])/\(∃O',DU w' base d m O' P L E G given (ae+1) (Dz a ⟨s,ae+1,text,refs⟩) ps ls/\(O'.ownBlock=O.ownBlock∨∃g,O'.ownBlock=some g/\w.heap.size<=g))/\Tn (d::m::O.ownBlock.toList) w w':=by
 obtain⟨k,l,zH⟩:=As h.dr.ord;subst zH;obtain⟨W0,zB⟩:∃W,W=w.alloc (.cells #[.string text,.slice B refs.length rc] 58):=⟨_,rfl⟩;have Z:=(AG zB).1;have x0:=(AG zB).2.2;have y:=h.below Z;obtain⟨X,hX⟩:∃X,X=W0.setCell (Ze d 4) (Zg (ae+1)):=⟨_,rfl⟩;have yN:d<w.heap.size:=h.dr.box.lt;have tX:Tn [d] W0 X:=by rw[hX];exact En _ _ _ _
 have N:Aa X d [Zg E,.map (some m),Zg G,Zg given,Zg (ae+1),.slice k a.length l,P,L]:=by rw[hX];exact y.dr.box.set 4 _
 have z:=CZ y.dr.ap;have xX:Aa X w.heap.size [.string text,.slice B refs.length rc]:=Aa.same x0 (tX.block _ x0.lt (by simp;omega));have oX:X.ownsRow base 190 8 (.slice k a.length l) a.length (AA (a.map (·.sum))):=Ai y.dr.ord (fun g hg=>tX.block g (Ac y.dr.ord hg).2 (by simp;exact(z.2.1 g hg).1))
 have uX:PX X base (vB d m (.slice k a.length l) P L) m E ae a:=PX.an y.dr.map tX (by intro b c;simp at c;subst c;simp[vB]) (by simp;exact fun e=>z.1 e.symm);have rX:De X base (vB d m (.slice k a.length l) P L) B refs:=(hr.move (U:=[]) (Tn.of Z) (by simp) (fun b c=> .inl c)).move tX (by intro b c;simp at c;subst c;exact .inl (by simp[vB])) (fun b c=> .inl c);obtain⟨c4,k4⟩:=y.dr.box 4 _ rfl
 obtain⟨c5,_⟩:=y.dr.box 5 _ rfl;have yP:((a.length:Int)==600)=false:=by simp;omega
 have yM:(ae==1000000000)=false:=by simp;omega
 have zP:=Yx zB;have HX:=Yx hX;have T:=Yx h;have HP:=Yx (Zn N (Zn xX (Zn oX (Zn uX rX))));have HT:Hid (Tn [d] w X):=(Tn.of Z).trans tX;clear zB hX y h hr x0 tX N xX oX uX rX Z;go_enter func203,ntmps203;go_upto_region 1 with fail;rw[←zP.o];go_wp2_with fail;rw[←HX.o];clear HX zP;refine(Lt s X).mono ?_;rintro e o ⟨rfl,H⟩;obtain⟨K,V⟩:∃W,W=o.alloc (.cells (Yw (kB s)) 190):=⟨_,rfl⟩;have zS:=(AG V).1
 have D:Below X.heap.size X K:=H.trans (zS.mono H.size);have kK:Aa K o.heap.size (Am s):=by rw[V];exact Aa.new o (Am s) 190
 obtain⟨N,xX,oX,uX,rX⟩:=HP.o;have yJ:base<=X.heap.size:=Zm T.o.lo HT.o.size;have zA:=N.below D;have xK:=xX.below D;have oK:=Ae oX D;have rK:De K base (vB d m (.slice k a.length l) P L) B refs:=rX.move (U:=[]) (Tn.of D) (by simp) (fun b c=> .inl c);obtain⟨n1,f,zY,zT,hH⟩:=PX.an uX (U:=[]) (Tn.of D) (by simp) (by simp);have hM:=zT;have z:=CZ T.o.dr.ap;have yQ:m<K.heap.size:=hM.lt
 obtain⟨t,zM,Q,F⟩:=(hM.aj (Below.refl K.heap.size K).drew hM.lt).put keyed underlying152 (val:=Ee ⟨s,ae+1,text,refs⟩ B rc) (by unfold maxLen;omega) (EC s);have n:K.grownBy t (some m):=CY F;have kl:o.heap.size<K.heap.size:=kK.lt;have yR:m<w.heap.size:=by obtain⟨_,_,_,yA,_⟩:=T.o.dr.map;exact yA.lt
 have yS:w.heap.size<o.heap.size:=by have h1:=H.size;have h2:=xX.lt;omega
 have k5:Aa t o.heap.size (Am s):=Aa.cw (v:=.int .u8 (kB s 0)) kK n (by omega);have x5:Aa t d _:=Aa.cw zA n (fun e=>z.1 e.symm);have t5:Aa t w.heap.size [.string text,.slice B refs.length rc]:=Aa.cw xK n (by omega)
 have P4:K.drew.cell? (Ze d 1)=some (.map (some m))/\K.drew.cell? (Ze d 4)=some (Zg (ae+1))/\K.drew.cell? (Ze (w.heap.size) 0)=some (.string text)/\K.drew.cell? (Ze (w.heap.size) 1)=some (.slice B refs.length rc)/\_:=⟨(zA 1 _ rfl).1,(zA 4 _ rfl).1,(xK 0 _ rfl).1,(xK 1 _ rfl).1,GM (w:=K.drew) kK⟩
 have P5:t.cell? (Ze d 1)=some (.map (some m))/\t.cell? (Ze d 4)=some (Zg (ae+1))/\t.cell? (Ze (w.heap.size) 0)=some (.string text)/\t.cell? (Ze (w.heap.size) 1)=some (.slice B refs.length rc)/\_:=⟨(x5 1 _ rfl).1,(x5 4 _ rfl).1,(t5 0 _ rfl).1,(t5 1 _ rfl).1,GM k5⟩
 have o5:t.ownsRow base 190 8 (.slice k a.length l) a.length (AA (a.map (·.sum))):=World.ownsRow.kept oK n (.inr (fun e=>(z.2.1 m e).2.1 rfl));have M:=XJ base d m k l P L E G given (ae+1) a s t x5 o5 (by omega) (by have:=zC.w8;omega) (fun x hx=>by have:=zC.sz x hx;omega) zC.dg;unfold Cm CO at M zM;unfold Ee at zM;have HQ:=Yx M
 have I:=Yx (Zn x5 (Zn o5 (Zn k5 (Zn Q (Zn n (Zn hH (Zn rK (Zn D zY))))))));have HK:=Yx V;clear N xX oX uX rX zA xK oK rK zT hM M V HP x5 o5 k5 Q F n hH t5 kK D zS c4 k4 c5;go_upto_region 5 with fail;rw[←HK.o];clear HK
 go_region_held3 (fun X=>X.cell? (Ze d 1)=some (.map (some m))/\X.cell? (Ze d 4)=some (Zg (ae+1))/\X.cell? (Ze (w.heap.size) 0)=some (.string text)/\X.cell? (Ze (w.heap.size) 1)=some (.slice B refs.length rc)/\(X.cell? (Ze (o.heap.size) 0)=some (.int .u8 (kB s 0))/\X.cell? (Ze (o.heap.size) 1)=some (.int .u8 (kB s 1))/\X.cell? (Ze (o.heap.size) 2)=some (.int .u8 (kB s 2))/\X.cell? (Ze (o.heap.size) 3)=some (.int .u8 (kB s 3))/\X.cell? (Ze (o.heap.size) 4)=some (.int .u8 (kB s 4))/\X.cell? (Ze (o.heap.size) 5)=some (.int .u8 (kB s 5))/\X.cell? (Ze (o.heap.size) 6)=some (.int .u8 (kB s 6))/\X.cell? (Ze (o.heap.size) 7)=some (.int .u8 (kB s 7))))
  (first|with_reducible exact P4|with_reducible exact P5)
  (fail)
 obtain⟨q0,q1,q2,q3,q4,q5,q6,q7⟩:=GM I.o.2.2.1;clear P4 P5 zM;go_wp2_with fail;refine Calls.mono HQ.o ?_;rintro e C ⟨i,rfl,zK,q⟩;have zE:=Aa.below I.o.1 q;have zW:=Aa.below (v:=.int .u8 (kB s 0)) I.o.2.2.1 q;have zJ:C.ownsRow base 190 8 (.slice k a.length l) (a.map (·.sum)).length (Ab Am (a.map (·.sum))):=by rw[List.length_map];exact Ae I.o.2.1 q
 have yE:i<=a.length:=by have:=zK.le;rwa[List.length_map]at this
 obtain⟨A,hA⟩:∃A,A=C.drew.alloc (.cells (Am s).toArray 190):=⟨_,rfl⟩;have J:Below C.heap.size C A:=by rw[hA];exact(Below.refl _ _).drew.alloc (Zx) _
 have zN:base<=C.heap.size:=by have h1:=I.o.2.2.2.2.1.size;have h2:=q.size;have h3:=I.o.2.2.2.2.2.2.2.1.size;omega
 have r:=MN (.slice k a.length l) i (a.map (·.sum)) s C.heap.size A base (Ae zJ J) (by rw[List.length_map];omega) (by rw[List.length_map];exact yE) (Zm zN J.size) (fun e=>Nat.lt_irrefl _ (Ac zJ e).2) (by rw[hA];exact heap_alloc_new C.drew _);rw[List.length_map,hA]at r;have HI:=Yx r;have M:=Yx zK;have xA:=zE.below J;have yC:d<C.heap.size:=zE.lt;obtain⟨y5,_⟩:=zE 5 _ rfl
 obtain⟨r0,r1,r2,r3,r4,r5,r6,r7⟩:=GM zW;have H6:=Yx (Zn q (Zn J xA));have zF:=Yx hA;have zI:∀b,(Value.slice k a.length l).ownBlock=some b->b≠d/\b≠m:=fun b c=>⟨(z.2.1 b c).1,(z.2.1 b c).2.1⟩;have yD:d<A.heap.size:=xA.lt;clear q0 q1 q2 q3 q4 q5 q6 q7 zK r HQ zJ zE zW;go_upto_region 7 with fail;have zR:Below C.heap.size C (C.alloc (.cells (Yw (kB s)) 190)):=Zy
 have a5:=(zR.cell (p:=⟨d,5,none⟩) yC).trans y5;clear xA hA zR;unfold Am CO at HI
 go_region_law (first
  |(go_simp;go_at_call 223;refine Calls.mono HI.o ?_;rintro e Y ⟨O',rfl,S,zV,zX⟩;obtain⟨oa',oc',zH⟩:=As S;subst zH;have R:A.grownBy Y (Value.slice k a.length l).ownBlock:=(by rw[zF.o];exact zV);have x7:=Aa.same H6.o.2.2 (R.block d yD (fun e=>(zI d e.symm).1 rfl));obtain⟨f5,k5⟩:=x7 5 _ rfl))
 all_goals
  have j:(Value.slice oa' (a.length+1) oc').ownBlock=(Value.slice k a.length l).ownBlock∨(Value.slice oa' (a.length+1) oc').ownBlock=some A.heap.size:=by rw[zF.o];exact zX
  have H7:=Yx (Zn x7 (Zn R (Zn j S)));clear zX zV R x7 S j HI a5 r0 r1 r2 r3 r4 r5 r6 r7 y5 zF
  have V:(∃zG,DU (Y.setCell (Ze d 5) (.slice oa' (a.length+1) oc')) base d m zG P L E G given (ae+1) (Dz a ⟨s,ae+1,text,refs⟩) ps ls/\(zG.ownBlock=(Value.slice k a.length l).ownBlock∨∃g,zG.ownBlock=some g/\w.heap.size<=g))/\Tn (d::m::(Value.slice k a.length l).ownBlock.toList) w (Y.setCell (Ze d 5) (.slice oa' (a.length+1) oc')):=by
   obtain⟨x5,o5,yT,Q,F,hH,rK,D,zY⟩:=I.o;obtain⟨q,J,xA⟩:=H6.o;obtain⟨x7,R,j,S⟩:=H7.o;have t1:Tn (d::m::(Value.slice k a.length l).ownBlock.toList) w X:=HT.o.mono (by simp)
   have t2:Tn (d::(Value.slice k a.length l).ownBlock.toList) t (Y.setCell (Ze d 5) (.slice oa' (a.length+1) oc')):=(((Tn.of q).trans (Tn.of J)).trans ((Ct R).mono (fun b c=>List.mem_cons_of_mem _ c))).trans ((En Y d 5 _).mono (by simp))
   have t3:Tn (d::m::(Value.slice k a.length l).ownBlock.toList) K (Y.setCell (Ze d 5) (.slice oa' (a.length+1) oc')):=(Tn.grown F (by simp)).trans (t2.mono (by intro b c;simp at c ⊢;rcases c with c|c<;>simp[c]));have tt:=(t1.trans (Tn.of D)).trans t3;have yI:w.heap.size<=K.heap.size:=Zm HT.o.size D.size;have yH:w.heap.size<=A.heap.size:=Zm (Zm (Zm yI F.size) q.size) J.size
   have yO:∀b∈d::m::(Value.slice k a.length l).ownBlock.toList,base<=b:=by
    intro b c;rcases List.mem_cons.1 c with rfl|c
    ·exact T.o.dr.bd
    ·rcases List.mem_cons.1 c with rfl|c
     ·exact T.o.dr.bm
     ·exact(Ac T.o.dr.ord (by simpa using c)).1
   have yF:(Y.setCell (Ze d 5) (.slice oa' (a.length+1) oc')).heap[m]?=t.heap[m]?:=t2.block m Q.lt (fun e=>by
    rcases List.mem_cons.1 e with e|e
    ·exact z.1 e.symm
    ·exact(zI m (by simpa using e)).2 rfl)
   have yB:=AV.same Q yF;have zU:(Value.slice oa' (a.length+1) oc').ownBlock=(Value.slice k a.length l).ownBlock∨∃g,(Value.slice oa' (a.length+1) oc').ownBlock=some g/\w.heap.size<=g:=by
    rcases j with j|j
    ·exact .inl j
    ·exact .inr ⟨_,j,yH⟩
   have zO:∀b,(Value.slice oa' (a.length+1) oc').ownBlock=some b->b≠d:=fun b c=>by
    rcases j with j|j
    ·exact(zI b (j▸c)).1
    ·rw[j]at c;cases c;omega
   refine⟨⟨_,T.o.newK tt (x7.set 5 _) ⟨n1+1,_,by omega,yB,?_⟩ ?_ zU,zU⟩,tt⟩
   ·refine((hH.snoc (x:=⟨s,ae+1,text,refs⟩) (rc:=rc) yG zC.w8 rK).same (fun u=>GR)).move t3 (fun b c=> .inl ?_) (fun b c=> ?_)
    ·unfold vB;simp only[List.mem_cons,List.mem_append]at c ⊢;rcases c with e|e|e
     ·exact .inl e
     ·exact .inr (.inl e)
     ·exact .inr (.inr (.inl e))
    ·unfold vB at c ⊢;simp only[List.mem_cons,List.mem_append]at c ⊢;rcases c with e|e|e|e|e
     ·exact .inl (.inl e)
     ·exact .inl (.inr (.inl e))
     ·rcases j with j|j
      ·rw[j]at e;exact .inl (.inr (.inr (.inl e)))
      ·rw[j]at e;simp at e;exact .inr (by have h1:=F.size;have h2:=q.size;have h3:=J.size;omega)
     ·exact .inl (.inr (.inr (.inr (.inl e))))
     ·exact .inl (.inr (.inr (.inr (.inr e))))
   ·rw[NT,←LG (x:=⟨s,ae+1,text,refs⟩) M.o];exact Bk S zO 5 _
  have zZ:=Yx V;clear V H7 H6 I;go_wp2
  go_end0
  exact⟨rfl,zZ.o⟩
theorem UC(base d m:Nat)(O P L:Value)(x q given ae:Int)(a:List Kd)(t:List Pd)(r:List Ld)(s text:Zi)(k:Zk)(n l:Nat)(w:Zh)(h:DU w base d m O P L x q given ae a t r)(j:a.length=600∨ae=1000000000):
 Calls prog 203 #[Yz d,.string s,.agg #[.string text,.slice k n l]] w fun e u=>e=.panicked [{v:=ay 4 ⟨#[]⟩ ⟨#[]⟩,recovered:=false}]/\Zz w u:=by
 obtain⟨B,C,o⟩:=As h.dr.ord;subst o;obtain⟨z,c⟩:∃W,W=w.alloc (.cells #[.string text,.slice k n l] 58):=⟨_,rfl⟩;have b:=(AG c).1;have g:=h.below b;obtain⟨c4,A⟩:=Aa.c2 g.dr.box 4 5;have f:=Yx c;have i:=Yx b;clear c g h b;by_cases hk:a.length=600
 ·have p:((a.length:Int)==600)=true:=by simp;omega
  clear j hk;go_enter func203,ntmps203;go_upto_region 1 with fail;rw[←f.o];go_wp2;exact⟨rfl,rfl,i.o⟩
 ·have p:((a.length:Int)==600)=false:=by simp;omega
  have y:(ae==1000000000)=true:=by simp;omega
  clear j hk;go_enter func203,ntmps203;go_upto_region 1 with fail;rw[←f.o];go_wp2;exact⟨rfl,rfl,i.o⟩
def Bf(text:Zi)(refs:Zl)(wd:Int):Zi:=Ez (AH text refs wd).data.toList wd.toNat
theorem Pe(a:Int)(m n:Nat)(f:Lit->Option Value)(h:List Kd)(W:Zh)(B:Nat)(s:Zi)(w:Zh)(l:AV w 190 m n f)(p:Holds W B a h f)(g:(s.size:Int)=a):
 (¬Ax h s/\Calls prog 182 #[.agg #[Zg a,.map (some m)],.string s] w fun e j=>e=.returned (.tuple #[.agg #[Zd,Zf,Zd,Zc],.bool false])/\Zz w j)∨
 ∃x c i,x∈h/\x.sum=s/\Ad W B c x.refs/\Calls prog 182 #[.agg #[Zg a,.map (some m)],.string s] w fun e j=>e=.returned (.tuple #[.agg #[.string x.sum,Zg x.born,.string x.text,.slice c x.refs.length i],.bool true])/\Zz w j:=by
 rcases p s g with⟨b,d⟩|⟨x,c,i,b,d,k,o⟩
 ·exact .inl ⟨d,Hf a m n f s w l g _ _ _ _ _ ⟨_,_,_,rfl⟩ (by rw[b];rfl) (by rw[b];rfl)⟩
 ·exact .inr ⟨x,c,i,b,d,o,Hf a m n f s w l g _ _ _ _ _ ⟨_,_,_,rfl⟩ (by rw[k];rfl) (by rw[k];rfl)⟩
def ZB(base d m:Nat)(O P L:Value)(wd now given ae:Int)(ks:List Kd)(ps:List Pd)(ls:List Ld)(text:Zi)(refs:Zl)(w:Zh)(e:Ending)(w':Zh):Prop:=
 ((¬∀r∈refs,Ax ks r)/\e=.panicked [{v:=ay 2 ⟨#[]⟩ ⟨#[]⟩,recovered:=false}]/\Zz w w')∨
 ((∀r∈refs,Ax ks r)/\(
   (∃k∈ks,k.sum=Bf text refs wd/\AH k.text k.refs wd=AH text refs wd/\e=.returned (.string (Bf text refs wd))/\Zz w w')∨
   (∃k∈ks,k.sum=Bf text refs wd/\AH k.text k.refs wd≠AH text refs wd/\e=.panicked [{v:=ay 3 (AH k.text k.refs wd) (AH text refs wd),recovered:=false}]/\Zz w w')∨
   (¬Ax ks (Bf text refs wd)/\(ks.length=600∨ae=1000000000)/\e=.panicked [{v:=ay 4 ⟨#[]⟩ ⟨#[]⟩,recovered:=false}]/\Zz w w')∨
   (¬Ax ks (Bf text refs wd)/\ks.length<600/\ae<1000000000/\e=.returned (.string (Bf text refs wd))/\(∃O',DU w' base d m O' P L wd now given (ae+1) (Dz ks ⟨Bf text refs wd,ae+1,text,refs⟩) ps ls/\(O'.ownBlock=O.ownBlock∨∃g,O'.ownBlock=some g/\w.heap.size<=g))/\Tn (d::m::O.ownBlock.toList) w w')))
theorem Wu(base d m:Nat)(O P L:Value)(a s given ae:Int)(c:List Kd)(G:List Pd)(F:List Ld)(text:Zi)(refs:Zl)(y:Zk)(V:Nat)(w:Zh)(h:DU w base d m O P L a s given ae c G F)(yC:Fa a c)(h1:1<=a)(yF:∀k∈c,k.text.size<=maxLen)(yE:((Bf text refs a).size:Int)=a)(yW:text.size<=maxLen)(xE:refs.length<=1000)(yU:0<=ae)(xB:ae<=1000000000)(hr:De w base (vB d m O P L) y refs):
 Calls prog 173 #[Yz d,.agg #[.string text,.slice y refs.length V]] w (ZB base d m O P L a s given ae c G F text refs w):=by
 obtain⟨W,hW⟩:∃W,W=w.alloc (.cells #[.string text,.slice y refs.length V] 58):=⟨_,rfl⟩;have bW:=(AG hW).1;have xF:=(AG hW).2.1;have x0:=(AG hW).2.2;have HW:=Yx hW;have HD:Hid (∀X,Zz W X->DU X base d m O P L a s given ae c G F/\De X base (vB d m O P L) y refs/\Aa X w.heap.size [.string text,.slice y refs.length V]/\Zz w X):=fun X hX=>by have E:=bW.trans (hX.mono (by omega));exact⟨h.below E,hr.move (U:=[]) (Tn.of E) (by simp) (fun b E=> .inl E),Aa.below x0 hX,E⟩
 have u:=Yx yC;have yP:=Yx yF;have de:=h.lo;clear hW h hr bW yC yF;obtain⟨Z,zA⟩:=Aa.c2 x0 0 1;go_enter func173,ntmps173;go_upto_region 1 with fail;rw[←HW.o];clear HW;go_wp2
 go_loopw [15] (fun i wr=>∃(k:Nat),k<=refs.length/\i=Zg k/\Hid ((∀r∈refs.take k,Ax c r)/\Zz W wr)) (fun i _=>refs.length -(intOf i).toNat)
 case atStart=>exact⟨0,Nat.zero_le _,rfl,⟨fun r hr=>by simp at hr,Below.refl _ _⟩⟩
 case round=>
  clear Z zA x0;obtain⟨k,hk,rfl,D⟩:=hrel;obtain⟨Q,R,xr,zZ⟩:=HD.o wr D.o.2;have zM:=Yx Q;have zJ:=Yx zZ;obtain⟨Z,zA⟩:=Aa.c2 xr 0 1;by_cases hlt:k<refs.length
  ·obtain⟨b,xG,ha,xC,hc⟩:=R.row.at hlt;subst ha;have HG:=Yx (Zv hlt);have c0:=hc k _ HG.o;have yQ:=Yx (Zu hlt);clear hc Q R;generalize refs[k]=r at *
   by_cases hth:Ax c r
   ·have zR:=Yx (Em base d m O P L a s given ae c G F r wr zM.o.dr u.o.sz hth);have zC:=Yx hth;clear hth;go_wp2_with fail;refine Calls.mono zR.o ?_;rintro e w2 ⟨rfl,q⟩;have B:=Yx (D.o.2.trans (q.mono D.o.2.size));clear zR q c0 Z zA xr;go_wp2;refine⟨⟨k+1,by omega,by go_num,⟨?_,B.o⟩⟩,by simp[intOf];omega⟩;rw[yQ.o];intro r' v;rcases List.mem_append.1 v with v|v
    ·exact D.o.1 r' v
    ·simp at v;rw[v];exact zC.o
   ·have yM:=Yx (JC base d m O P L a s given ae c G F r wr zM.o.dr u.o.sz hth);have zC:=Yx hth;clear hth;go_wp2_with fail;refine Calls.mono yM.o ?_;rintro e w2 ⟨rfl,q⟩;go_wp2;exact⟨rfl,.inl ⟨fun f=>zC.o (f r (Zs HG.o)),rfl,zJ.o.trans (q.mono zJ.o.size)⟩⟩
  ·obtain rfl:k=refs.length:=by omega
   have f:=D.o.1;rw[Zt (Zx)]at f;have n:=Yx f;obtain⟨c0,_⟩:=Q.dr.box 0 _ rfl;have zI:=Yx D.o.2;clear f D;have yY:=zI.o.size;have D0:Below wr.heap.size wr wr.drew:=(Below.refl _ _).drew;have HF:=Yx (LS text y V refs a wr.drew (Ad.af R.row D0) (by omega) yW);clear Q R;go_upto_region 6 with fail;go_region_with (go_at_call 146;refine Calls.mono HF.o ?_;rintro e w2 ⟨rfl,q⟩)
   all_goals
    have B:=Yx (zI.o.trans ((D0.trans q).mono yY));obtain⟨zS,yT,yZ,zG⟩:=HD.o w2 B.o;obtain⟨yS,_⟩:=zS.dr.box 0 _ rfl;have HS:=Yx (Ui (AH text refs a) a w2 (IW _ _ _) h1 u.o.w8);have yO:Hid (Ez (AH text refs a).data.toList a.toNat=Bf text refs a):=rfl;rw[yO.o]at HS;generalize hFF:AH text refs a=FF at *
    generalize hSS:Bf text refs a=SS at *
    clear q c0 Z zA xr HF D0 zZ;go_wp2_with fail;refine Calls.mono HS.o ?_;rintro e z ⟨rfl,zX⟩;have yJ:=Yx (B.o.trans (zX.mono B.o.size));obtain⟨N,zW,yI,H⟩:=HD.o z yJ.o;obtain⟨d0,d1⟩:=Aa.c2 N.dr.box 0 1;have zK:=Yx N;have yN:=Yx zW;have yR:=Yx yI;have o:=Yx H;obtain⟨n3,f3,xD,zF,zE⟩:=N.dr.map;clear zX HS yS zS yT yZ zG zW yI H N
    rcases Pe a m n3 f3 c z z.heap.size SS z zF zE.holds yE with⟨yB,C⟩|⟨x,xa,xc,T,yH,yG,C⟩
    ·have J:=Yx C;have zP:=Yx yB;clear C yB zF zE;go_wp2_with fail;refine Calls.mono J.o ?_;rintro e w4 ⟨rfl,l⟩;obtain⟨Y,t⟩:∃Y,Y=w4.alloc (.cells #[Zd,Zf,Zd,Zc] 131):=⟨_,rfl⟩;have M:=(AG t).1;have j:Hid (Zz z Y):=l.trans (M.mono l.size);have HY:=Yx t;have A:=zK.o.below j.o;have yX:=Aa.below yR.o j.o;obtain⟨y0,y1⟩:=Aa.c2 yX 0 1;have p:=Yx (o.o.trans (j.o.mono o.o.size))
     by_cases hfull:c.length=600∨ae=1000000000
     ·have HL:=Yx (UC base d m O P L a s given ae c G F SS text y refs.length V Y A hfull);have yL:=Yx hfull;clear l t M A yX hfull d0 d1 J;go_upto_region 10 with fail;rw[←HY.o];go_wp2_with fail;refine Calls.mono HL.o ?_;rintro e w5 ⟨rfl,S⟩;go_wp2;exact⟨rfl,.inr ⟨n.o,.inr (.inr (.inl ⟨hSS▸zP.o,yL.o,rfl,p.o.trans (S.mono p.o.size)⟩))⟩⟩
     ·have yA:c.length<600:=by have:=u.o.len;omega
      have zY:ae<1000000000:=by omega
      have HL:=Yx (Wt base d m O P L a s given ae c G F SS text refs y V Y A u.o yE yA yU zY (De.move yN.o (U:=[]) (Tn.of j.o) (by simp) (fun b E=> .inl E)));clear l t M A yX hfull d0 d1 J;go_upto_region 10 with fail;rw[←HY.o];go_wp2_with fail;refine Calls.mono HL.o ?_;rintro e w5 ⟨rfl,⟨O',zT,zU⟩,zV⟩;have HQ:=Yx (Zn zT (Zn zU zV));clear zT zU zV HL;go_wp2;go_ret;subst hSS
      refine .inr ⟨n.o,.inr (.inr (.inr ⟨zP.o,yA,zY,rfl,⟨O',HQ.o.1,?_⟩,(Tn.of p.o).trans HQ.o.2.2⟩))⟩;rcases HQ.o.2.1 with e|⟨g,e,hg⟩
      ·exact .inl e
      ·exact .inr ⟨g,e,Zm p.o.size hg⟩
    ·have J:=Yx C;have K:Hid (x∈c/\x.sum=SS):=⟨T,yH⟩;clear C zF zE;go_wp2_with fail;refine Calls.mono J.o ?_;rintro e w4 ⟨rfl,l⟩;obtain⟨Y,t⟩:∃Y,Y=w4.alloc (.cells #[.string x.sum,Zg x.born,.string x.text,.slice xa x.refs.length xc] 131):=⟨_,rfl⟩;have M:=(AG t).1;have j:Hid (Zz z Y):=l.trans (M.mono l.size);have HY:=Yx t;have A:=zK.o.below j.o;have yK:=(AG t).2.2;obtain⟨y2,y3⟩:=Aa.c2 yK 2 3
     obtain⟨e0,_⟩:=A.dr.box 0 _ rfl;have p:=Yx (o.o.trans (j.o.mono o.o.size));have DY:Below Y.heap.size Y Y.drew:=(Below.refl _ _).drew;have xA:=A.lo;have I:=Ad.af yG (j.o.trans (DY.mono j.o.size));have zN:=Yx (LS x.text xa xc x.refs a Y.drew I (by have:=(u.o.refs x T).1;omega) (yP.o x T));clear l t M A yK d0 d1 J yG I T yH;go_upto_region 12 with fail;rw[←HY.o]
     go_region_with (go_at_call 146;refine Calls.mono zN.o ?_;rintro e w5 ⟨rfl,S⟩)
     all_goals
      have zH:=Yx (p.o.trans ((DY.trans S).mono p.o.size));clear S y2 y3 e0 zN;by_cases hsame:AH x.text x.refs a=FF
      ·have hq:(FF.toList !=FF.toList)=false:=by simp
       rw[hsame];have zB:=Yx hsame;clear hsame;go_wp2;go_ret;subst hSS;exact .inr ⟨n.o,.inl ⟨x,K.o.1,K.o.2,zB.o.trans hFF.symm,rfl,zH.o⟩⟩
      ·have zB:=Yx hsame;have yV:=BP hsame;have hq:((AH x.text x.refs a).toList !=FF.toList)=true:=by simp[bne,yV]
       clear hsame;generalize hGG:AH x.text x.refs a=GG at *
       have zO:=Yx hGG;clear hGG;go_wp2;subst hSS;refine⟨rfl,.inr ⟨n.o,.inr (.inl ⟨x,K.o.1,K.o.2,?_,?_,zH.o⟩)⟩⟩
       ·rw[zO.o,hFF];exact zB.o
       ·rw[zO.o,hFF];rfl
def Ci(wd ae:Int)(ks:List Kd)(text:Zi)(refs:Zl)(ks1:List Kd)(ah:Int):Prop:=
 (∃k∈ks,k.sum=Bf text refs wd/\AH k.text k.refs wd=AH text refs wd/\ks1=ks/\ah=ae)∨
 (¬Ax ks (Bf text refs wd)/\ks.length<600/\ae<1000000000/\ks1=Dz ks ⟨Bf text refs wd,ae+1,text,refs⟩/\ah=ae+1)
def FU(wd given ae:Int)(ks:List Kd)(ls:List Ld)(text:Zi)(refs:Zl)(c:Int)(a b:Zi):Prop:=
 ((¬∀r∈refs,Ax ks r)/\c=2/\a=⟨#[]⟩/\b=⟨#[]⟩)∨
 ((∀r∈refs,Ax ks r)/\(
   (∃k∈ks,k.sum=Bf text refs wd/\AH k.text k.refs wd≠AH text refs wd/\c=3/\a=AH k.text k.refs wd/\b=AH text refs wd)∨
   (¬Ax ks (Bf text refs wd)/\(ks.length=600∨ae=1000000000)/\c=4/\a=⟨#[]⟩/\b=⟨#[]⟩)∨
   ((∃ks1 ah,Ci wd ae ks text refs ks1 ah)/\(ls.length=200∨given=1000000000)/\c=4/\a=⟨#[]⟩/\b=⟨#[]⟩)))
theorem Ci.there{b ae:Int}{e:List Kd}{text:Zi}{refs:Zl}{a:List Kd}{ah:Int}(h:Ci b ae e text refs a ah):Ax a (Bf text refs b):=by
 rcases h with⟨k,c,d,_,rfl,_⟩|⟨_,_,_,rfl,_⟩
 ·exact⟨k,c,d⟩
 ·exact⟨⟨Bf text refs b,ae+1,text,refs⟩,GR.2 (by simp),rfl⟩
theorem Ci.sz{b ae:Int}{e:List Kd}{text:Zi}{refs:Zl}{d:List Kd}{ah:Int}(h:Ci b ae e text refs d ah)(c:∀k∈e,(k.sum.size:Int)=b)(f:((Bf text refs b).size:Int)=b):∀k∈d,(k.sum.size:Int)=b:=by
 rcases h with⟨k,a,g,_,rfl,_⟩|⟨_,_,_,rfl,_⟩
 ·exact c
 ·intro k a;rcases List.mem_append.1 (GR.1 a)with a|a
  ·exact c k a
  ·simp at a;rw[a];exact f
theorem MR(base d m:Nat)(O P L:Value)(i q given ae:Int)(z:List Kd)(T:List Pd)(x:List Ld)(s K text:Zi)(n:Int)(refs:Zl)(G:Zk)(I:Nat)(w:Zh)(h:DU w base d m O P L i q given ae z T x)(zS:Fa i z)(h1:1<=i)(yZ:∀k∈z,k.text.size<=maxLen)(yF:((Bf text refs i).size:Int)=i)(yY:text.size<=maxLen)(yV:refs.length<=1000)(yN:0<=ae)(yO:ae<=1000000000)(hr:De w base (vB d m O P L) G refs)(hl:x.length<=200)(yR:0<=given)(xG:given<=1000000000)(yT:0<=q)(yU:q<=1000000000)(yW:0<=n)(yX:n<=1000000000):
 Calls prog 145 #[Yz d,.agg (Yp 1 s K n text G refs.length I)] w fun e w'=>(∃c a b,FU i given ae z x text refs c a b/\e=.panicked [{v:=ay c a b,recovered:=false}]/\Tn (vB d m O P L) w w')∨
  (∃t ah,(∀r∈refs,Ax z r)/\Ci i ae z text refs t ah/\x.length<200/\given<1000000000/\e=.returned (.agg #[Zf,Zf,Zf,Zf,Zf,Zc,Zc,Zc,.string (Bf text refs i),Zg (given+1),Zd,Zd])/\∃O' L',DU w' base d m O' P L' i q (given+1) ah t T (x++[⟨given+1,Bf text refs i,q+n⟩])/\Tn (vB d m O P L) w w'):=by
 obtain⟨W,J⟩:∃W,W=((w.alloc (.cells (Yp 1 s K n text G refs.length I) 60)).alloc (.cells Yr 82)).alloc (.cells Yr 82):=⟨_,rfl⟩;have hB:=(Bm J).1;have yG:=(Bm J).2.1;have xE:=(Bm J).2.2.1;have zR:Aa W (w.heap.size+1) z12:=by have h1:=Aa.new (w.alloc (.cells (Yp 1 s K n text G refs.length I) 60)) z12 82;rw[World.size_alloc]at h1;rw[J];exact Aa.below (v:=Zf) h1 (Zy)
 have zO:Aa W (w.heap.size+2) z12:=by have h1:=Aa.new ((w.alloc (.cells (Yp 1 s K n text G refs.length I) 60)).alloc (.cells Yr 82)) z12 82;rw[World.size_alloc,World.size_alloc]at h1;rw[J];exact h1
 have yB:W.heap[w.heap.size+1]?=some (.cells Yr 82):=by rw[J,Below.heap_alloc _ _ _ (by simp)];have:=heap_alloc_new (w.alloc (.cells (Yp 1 s K n text G refs.length I) 60)) (.cells Yr 82);rw[World.size_alloc]at this;exact this
 have zY:W.heap[w.heap.size+2]?=some (.cells Yr 82):=by have:=heap_alloc_new ((w.alloc (.cells (Yp 1 s K n text G refs.length I) 60)).alloc (.cells Yr 82)) (.cells Yr 82);rw[World.size_alloc,World.size_alloc]at this;rw[J];exact this
 have hD:=h.below hB;have xF:=h.dr.box.lt;have yE:∀b∈vB d m O P L,b<w.heap.size:=h.dr.cg;have xD:base<=w.heap.size:=h.lo;have HC:=Yx (Wu base d m O P L i q given ae z T x text refs G I W hD zS h1 yZ yF yY yV yN yO (hr.move (U:=[]) (Tn.of hB) (by simp) (fun b f=> .inl f)));have HW:=Yx J;have HZ:=Yx (Zb zR (Zb zO (Zb yB (Zb zY (Zb hB (Zb yG xE))))));have zV:Hid (∀b∈vB d m O P L,b<w.heap.size):=yE
 have yI:Hid (DU W base d m O P L i q given ae z T x):=hD;have yJ:Hid (∀k∈z,(k.sum.size:Int)=i):=zS.sz;obtain⟨e0,e3,e4,e5⟩:=Aa.c4 xE 0 3 4 5;clear J h hD zR zO yB zY hB yG xE yE hr zS;go_enter func145,ntmps145;go_upto_region 2 with fail;rw[←HW.o];clear HW;go_wp2_with fail;refine Calls.mono HC.o ?_;intro e A D;have zG:Tn (vB d m O P L) w W:=Tn.of HZ.o.2.2.2.2.1;obtain⟨hrefs,rfl,f⟩|⟨C,D⟩:=D
 ·clear e0 e3 e4 e5;go_wp2;exact⟨rfl,.inl ⟨2,_,_,.inl ⟨hrefs,rfl,rfl,rfl⟩,rfl,zG.trans (Tn.of f)⟩⟩
 have zK:(∃c a b,FU i given ae z x text refs c a b/\e=.panicked [{v:=ay c a b,recovered:=false}]/\Tn (vB d m O P L) W A)∨(e=.returned (.string (Bf text refs i))/\∃t ah S,Ci i ae z text refs t ah/\DU A base d m S P L i q given ah t T x/\Tn (vB d m O P L) W A/\(S.ownBlock=O.ownBlock∨∃g,S.ownBlock=some g/\W.heap.size<=g)):=by
  rcases D with⟨k,hk,hs,hf,rfl,f⟩|⟨k,hk,hs,hf,rfl,f⟩|⟨zA,o,rfl,f⟩|⟨zA,yS,yQ,rfl,⟨O',zN,zF⟩,ht⟩
  ·exact .inr ⟨rfl,z,ae,O,.inl ⟨k,hk,hs,hf,rfl,rfl⟩,yI.o.below f,Tn.of f,.inl rfl⟩
  ·exact .inl ⟨3,_,_,.inr ⟨C,.inl ⟨k,hk,hs,hf,rfl,rfl,rfl⟩⟩,rfl,Tn.of f⟩
  ·exact .inl ⟨4,_,_,.inr ⟨C,.inr (.inl ⟨zA,o,rfl,rfl,rfl⟩)⟩,rfl,Tn.of f⟩
  ·exact .inr ⟨rfl,_,_,O',.inr ⟨zA,yS,yQ,rfl,rfl⟩,zN,ht.mono (by intro b f;unfold vB;simp at f ⊢;rcases f with rfl|rfl|f<;>simp[*]),zF⟩
 clear D;have zC:Hid (∀r∈refs,Ax z r):=C;clear C;obtain⟨c,a,b,zA,rfl,ht⟩|⟨rfl,t,ah,S,F,zP,R,zN⟩:=zK
 ·clear e0 e3 e4 e5;go_wp2;exact⟨rfl,.inl ⟨c,a,b,zA,rfl,zG.trans ht⟩⟩
 have zz:=HZ.o.2.2.2.2.2.1;have Z:∀j,w.heap.size<=j->j∉vB d m O P L:=fun j hj h=>by have:=zV.o _ h;omega
 have zJ:Aa A (w.heap.size+1) z12:=Aa.same HZ.o.1 (R.block _ (by omega) (Z _ (by omega)));have zB:Aa A (w.heap.size+2) z12:=Aa.same HZ.o.2.1 (R.block _ (by omega) (Z _ (by omega)));have zI:Aa A w.heap.size (Yo 1 s K n text G refs.length I):=Aa.same HZ.o.2.2.2.2.2.2 (R.block _ (by omega) (Z _ (by omega)))
 have N:A.heap[w.heap.size+1]?=some (.cells Yr 82):=(R.block _ (by omega) (Z _ (by omega))).trans HZ.o.2.2.1;have l:A.heap[w.heap.size+2]?=some (.cells Yr 82):=(R.block _ (by omega) (Z _ (by omega))).trans HZ.o.2.2.2.1;obtain⟨X,hX⟩:∃X,X=A.setCell (Ze (w.heap.size+2) 8) (.string (Bf text refs i)):=⟨_,rfl⟩;have M:Tn [w.heap.size+2] A X:=by rw[hX];exact En _ _ _ _
 have u:Aa X (w.heap.size+2) (z12.set 8 (.string (Bf text refs i))):=by rw[hX];exact zB.set 8 _
 have B:Aa X (w.heap.size+1) z12:=Aa.same zJ (M.block _ zJ.lt (by simp));have zT:Aa X w.heap.size (Yo 1 s K n text G refs.length I):=Aa.same zI (M.block _ zI.lt (by simp));have H:DU X base d m S P L i q given ah t T x:=zP.an M (by intro b f;simp at f;subst f;exact⟨by omega,zP.cm l (by omega)⟩);have o8:=(zB 8 _ rfl).2;have v8:=(zB 8 _ rfl).1;have E:=F.sz yJ.o yF;have Y:=Yx (Zn F (Zn zP (Zn R zN)))
 have zM:=Yx (Zn M (Zn u (Zn B (Zn H (Zn l N)))));have zW:=Yx hX;have yK:Hid (∃yL,X.heap[w.heap.size+2]?=some (.cells yL 82)):=⟨_,by rw[hX,setCell_eq_setRow A _ _ _ _ _ _ l];exact setRow_heap A _ _ _ _ _ l⟩;obtain⟨yM,_⟩:=zT 3 _ rfl;have s8:=(u 8 _ rfl).1;have xC:w.heap.size+2<X.heap.size:=u.lt;by_cases o:x.length=200∨given=1000000000
 ·have HL:=Yx (Ml base d m S P L i q given ah t T x (Bf text refs i) n X H E F.there o);clear e0 e3 e4 e5 hX M u B zT H zJ zB zI N l E HC;go_upto_region 5 with fail;rw[←zW.o];go_wp2_with fail;refine Calls.mono HL.o ?_;rintro e w2 ⟨rfl,yP⟩;go_wp2;refine⟨rfl,.inl ⟨4,_,_,.inr ⟨zC.o,.inr (.inr ⟨⟨_,_,Y.o.1⟩,o,rfl,rfl,rfl⟩)⟩,rfl,?_⟩⟩
  have t0:=(zG.trans Y.o.2.2.1).fresh zM.o.1 (show w.heap.size<=w.heap.size+2 by omega);exact t0.trans (Tn.of yP)
 ·have yD:x.length<200:=by omega
  have yC:given<1000000000:=by omega
  have HL:=Yx (NJ base d m S P L i q given ah t T x (Bf text refs i) n X H E F.there yD yR yC yT yU yW yX);clear e0 e3 e4 e5 hX M u B zT H zJ zB zI N l E HC o;go_upto_region 5 with fail;rw[←zW.o];go_wp2_with fail;refine Calls.mono HL.o ?_;rintro e w2 ⟨rfl,L',zH,Q⟩;obtain⟨M,u,B,H,l,N⟩:=zM.o
  have y:∀b∈d::L.ownBlock.toList,b<w.heap.size:=fun b f=>zV.o b (by unfold vB;simp at f ⊢;rcases f with rfl|f<;>simp[*]);have yH:Aa w2 (w.heap.size+1) z12:=Aa.same B (Q.block _ B.lt (fun h=>by have:=y _ h;omega));have p:Aa w2 (w.heap.size+2) (z12.set 8 (.string (Bf text refs i))):=Aa.same u (Q.block _ u.lt (fun h=>by have:=y _ h;omega))
  have yA:X.heap[w.heap.size+1]?=_:=(M.block _ (by have:=Y.o.2.2.1.size;omega) (by simp)).trans N;have zZ:w2.heap[w.heap.size+1]?=some (.cells Yr 82):=(Q.block _ B.lt (fun h=>by have:=y _ h;omega)).trans yA;obtain⟨zU,zX⟩:=yK.o;have zF:w2.heap[w.heap.size+2]?=some (.cells zU 82):=(Q.block _ u.lt (fun h=>by have:=y _ h;omega)).trans zX
  have zE:=Yx (Zn zH (Zn Q (Zn (zH.cm zZ (by omega)) (zH.cm zF (by omega)))));obtain⟨⟨y0,q0⟩,⟨y1,q1⟩,⟨y2,q2⟩,⟨y3,q3⟩,⟨y4,q4⟩,⟨y5,q5⟩,⟨y6,q6⟩,⟨y7,q7⟩,⟨y8,q8⟩,⟨y9,q9⟩,⟨xA,xJ⟩,xB,xK⟩:=AT yH;obtain⟨v0,p0⟩:=p 0 _ rfl;obtain⟨v1,p1⟩:=p 1 _ rfl;obtain⟨v2,p2⟩:=p 2 _ rfl;obtain⟨v3,p3⟩:=p 3 _ rfl;obtain⟨v4,p4⟩:=p 4 _ rfl;obtain⟨v5,p5⟩:=p 5 _ rfl;obtain⟨v6,p6⟩:=p 6 _ rfl;obtain⟨v7,p7⟩:=p 7 _ rfl
  obtain⟨xN,p8⟩:=p 8 _ rfl;obtain⟨v9,p9⟩:=p 9 _ rfl;obtain⟨xL,xH⟩:=p 10 _ rfl;obtain⟨xM,xI⟩:=p 11 _ rfl;clear zH Q yH p zZ zF yA M u B H l N HL y zX yM s8 o8 v8;go_wp2;refine bodyPost_ret (v:=.agg #[Zf,Zf,Zf,Zf,Zf,Zc,Zc,Zc,.string (Bf text refs i),Zg (given+1),Zd,Zd]) (by simp[results,results145,go_sem,y0,y1,y2,y3,y4,y5,y6,y7,y8,y9,xA,xB]) rfl ?_
  have T9:=(Tn.set (V:=[w.heap.size+1,w.heap.size+2]) w2 (w.heap.size+2) 9 (Zg (given+1)) (by simp)).trans (Tn.mono (Bh (w2.setCell (Ze (w.heap.size+2) 9) (Zg (given+1))) (w.heap.size+1) Zf Zf Zf Zf Zf Zc Zc Zc (.string (Bf text refs i)) (Zg (given+1)) Zd Zd) (by simp))
  refine .inr ⟨t,ah,zC.o,Y.o.1,yD,yC,rfl,S,L',zE.o.1.an T9 (by intro b f;simp at f;rcases f with rfl|rfl;exact⟨by omega,zE.o.2.2.1⟩;exact⟨by omega,zE.o.2.2.2⟩),?_⟩;have t0:=(zG.trans Y.o.2.2.1).fresh zM.o.1 (show w.heap.size<=w.heap.size+2 by omega);have t1:=t0.trans (zE.o.2.1.mono (V':=vB d m O P L) (by intro b f;unfold vB;simp at f ⊢;rcases f with rfl|f<;>simp[*]))
  exact⟨T9.os.trans t1.os,T9.tape.trans t1.tape,T9.output.trans t1.output,Zm t1.size T9.size,fun b f hv=>(T9.block b (Zr f t1.size) (by simp;omega)).trans (t1.block b f hv)⟩
def Wv(w w':Zh)(e:Ending)(wd now given ae:Int)(T P L:Value)(ls:List Ld)(s:Zi)(hold:Int)(base:Nat):Prop:=
 Tn L.ownBlock.toList w w'/\(((200<=ls.length∨1000000000<=given)/\e=.returned (.agg #[Zg 4,Zf,Zf,Zf,Zf,Zc,Zc,Zc,Zd,Zf,Zd,Zd]))∨
  ((ls.length<200/\given<1000000000)/\∃g c,e=.returned (.agg #[Zf,Zg wd,Zg now,Zg (given+1),Zg ae,T,P,.slice (some ⟨g,0,none⟩) (ls.length+1) c,Zd,Zg (given+1),Zd,Zd])/\w'.ownsRow base 139 3 (.slice (some ⟨g,0,none⟩) (ls.length+1) c) (ls++[(⟨given+1,s,now+hold⟩:Ld)]).length (Ab lC (ls++[(⟨given+1,s,now+hold⟩:Ld)]))/\(L.ownBlock=some g∨w.heap.size<=g)))
theorem FV(p d given ae:Int)(n k f:Zk)(tn o m l i base:Nat)(a:List Ld)(s:Zi)(hold:Int)(w:Zh)(H:w.ownsRow base 139 3 (.slice f a.length i) a.length (Ab lC a))(zA:base<=w.heap.size)(hl:a.length<=1000)(zO:0<=given)(zP:given<=1000000000)(zG:0<=d)(zH:d<=1000000000)(zI:0<=hold)(zJ:hold<=1000000000):
 Calls prog 79 #[.agg (Ys p d given ae n tn o k m l f a.length i),.string s,Zg hold] w fun e w'=>Wv w w' e p d given ae (.slice n tn o) (.slice k m l) (.slice f a.length i) a s hold base:=by
 obtain⟨W,j⟩:∃W,W=(w.alloc (.cells (Ys p d given ae n tn o k m l f a.length i) 40)).alloc (.cells Yr 82):=⟨_,rfl⟩;have z:=(AW j).1;have Q:=(AW j).2.1;have x:=(AW j).2.2.1;have L:Aa W (w.heap.size+1) z12:=by have h1:=Aa.new (w.alloc (.cells (Ys p d given ae n tn o k m l f a.length i) 40)) z12 82;rw[World.size_alloc]at h1;rw[j];exact h1
 have F:=Yx j;have HB:=Yx z;by_cases hfull:200<=a.length∨1000000000<=given
 ·obtain⟨⟨U,q0⟩,⟨Y,q1⟩,⟨Z,q2⟩,⟨y3,q3⟩,⟨y4,q4⟩,⟨y5,q5⟩,⟨y6,q6⟩,⟨y7,q7⟩,⟨y8,q8⟩,⟨y9,q9⟩,⟨D,zK⟩,E,zM⟩:=AT L;obtain⟨v0,v1,v2,v3,v4,v5,v6,v7⟩:=Bw x;have HF:=Yx hfull;have A:(decide ((200:Int)<=(a.length:Int))=true)∨(decide ((200:Int)<=(a.length:Int))=false/\decide ((1000000000:Int)<=given)=true):=by
   by_cases h:200<=a.length
   ·left;simp;omega
   ·right;refine⟨by simp;omega,?_⟩;rcases hfull with S|S
    ·exact absurd S h
    ·simpa using S
  clear j x L z Q hfull H;rcases A with A|⟨A,zN⟩
  all_goals
   go_enter func79,ntmps79;go_upto_region 1 with fail;rw[←F.o];clear F;go_wp2;refine bodyPost_ret (v:=.agg (Yq 4)) (by simp[results,results79,go_sem,U,Y,Z,y3,y4,y5,y6,y7,y8,y9,D,E]) rfl ?_;exact⟨Tn.of (HB.o.trans (Tn.below (Bh W (w.heap.size+1) _ _ _ _ _ _ _ _ _ _ _ _) HB.o.size (by intro v T;simp at T;omega))),.inl ⟨HF.o,rfl⟩⟩
 ·have zF:a.length<200/\given<1000000000:=by omega
  obtain⟨X,G⟩:∃X,X=W.setCell (Ze (w.heap.size) 2) (Zg (given+1)):=⟨_,rfl⟩;have I:Tn [w.heap.size] W X:=by rw[G];exact En _ _ _ _
  have J:Aa X w.heap.size (Yt p d (given+1) ae n tn o k m l f a.length i):=by rw[G];exact x.set 2 _
  have u1:=Aa.same L (I.block _ (by omega) (by simp));have B:=z.trans (I.below z.size (by simp));have de:∀g,(Value.slice f a.length i).ownBlock=some g->g<w.heap.size:=fun g hg=>(Ac H hg).2;have P:=Ae H B;have zV:w.heap.size+2<=X.heap.size:=by have:=I.size;omega
  obtain⟨g,c,K,C,O,t,N⟩:=Nj X base _ a P (⟨given+1,s,d+hold⟩:Ld) (by omega) (by omega) 38;dsimp only at C;have R:=Aa.same J (t.block _ J.lt (fun e=>by have:=de _ e.symm;omega));have e1:=Aa.same u1 (t.block _ (by omega) (fun e=>by have:=de _ e.symm;omega));obtain⟨c2,f2⟩:=x 2 _ rfl;obtain⟨c6,_⟩:=x 6 _ rfl;obtain⟨d1,d2,d6⟩:=Aa.c3 J 1 2 6;obtain⟨i0,i1,i2,i3,i4,i5,i6,i7⟩:=Bw R
  obtain⟨⟨U,q0⟩,⟨Y,q1⟩,⟨Z,q2⟩,⟨y3,q3⟩,⟨y4,q4⟩,⟨y5,q5⟩,⟨y6,q6⟩,⟨y7,q7⟩,⟨y8,q8⟩,⟨y9,q9⟩,⟨D,zK⟩,E,zM⟩:=AT e1;have k6:=(R 6 _ rfl).2;have zU:=GO zG zH zI zJ;have zS:¬((200:Int)<=(a.length:Int)):=by omega
  have zT:¬((1000000000:Int)<=given):=by omega
  have M:=Yx G;have y:=Yx (Zb O (Zb t N));have zB:=Yx B;have zE:=Yx de;have zC:=Yx zF;clear j G x L J u1 I R e1 z Q P H O t N B de hfull;go_enter func79,ntmps79;go_upto_region 1 with fail;rw[←F.o];clear F;go_upto_region 4 with fail;rw[←M.o];clear M c2 f2 c6;go_wp2_with (at_builtin;refine wpList_append_run rfl _ _ 38 38 rfl rfl rfl C ?_);clear C d1 d2 d6;go_wp2
  refine bodyPost_ret (v:=.agg #[Zf,Zg p,Zg d,Zg (given+1),Zg ae,.slice n tn o,.slice k m l,Za g (a.length+1) c,Zd,Zg (given+1),Zd,Zd]) (by simp[results,results79,go_sem,U,Y,Z,y3,y4,y5,y6,y7,y8,y9,D,E]) rfl ?_
  have r:=(Tn.set (V:=[w.heap.size,w.heap.size+1]) K w.heap.size 6 (Za g (a.length+1) c) (by simp)).trans (Tn.mono (Bh (K.setCell (Ze (w.heap.size) 6) (Za g (a.length+1) c)) (w.heap.size+1) Zf (Zg p) (Zg d) (Zg (given+1)) (Zg ae) (.slice n tn o) (.slice k m l) (Za g (a.length+1) c) Zd (Zg (given+1)) Zd Zd) (by simp));have u:=(Tn.of zB.o).trans (Ct y.o.2.1)
  have zR:g<w.heap.size∨w.heap.size+2<=g:=by
   rcases y.o.2.2 with e|e
   ·exact .inl (zE.o g e)
   ·exact .inr (by omega)
  refine⟨⟨r.os.trans u.os,r.tape.trans u.tape,r.output.trans u.output,Zm u.size r.size,fun b hb T=>(r.block b (Zr hb u.size) (by simp;omega)).trans (u.block b hb T)⟩,.inr ⟨zC.o,g,c,rfl,Ai y.o.1 (fun q hq=>r.block q (Ac y.o.1 hq).2 ?_),?_⟩⟩
  ·obtain rfl:g=q:=by simpa [Value.ownBlock]using hq
   simp;omega
  ·rcases y.o.2.2 with e|e
   ·exact .inl e
   ·exact .inr (by omega)
end Go.Proofs.YtdgblkklkaklhaaGreatDoor
