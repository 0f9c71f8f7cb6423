import Derived.Test.YtpekbmegopfhfaaGreatDoorK05
import Derived.Laws.OwnMore
set_option maxRecDepth 100000
set_option maxHeartbeats 16000000
namespace Go.Proofs.YtpekbmegopfhfaaGreatDoor
open Go.ChangeShapes Go.WideShapes Go.ChangeAt Go.RowKit _root_.Go.Proofs.Tryz
theorem MR (t:ByteArray) (ad:Addr) (rc:Nat) (ss:List ByteArray) (w:World) (hr:Ae w w.heap.size (some ad) ss) (hl:ss.length<=100000):
 Calls prog 73 #[.agg #[.string t,.slice (some ad) ss.length rc]] w fun e w'=>∃g c,e=.returned (.agg #[.string t,.slice (some ⟨g,0,none⟩) ss.length c])/\
  w'.ownsRow w.heap.size 9 1 (.slice (some ⟨g,0,none⟩) ss.length c) ss.length (ss.map Value.string)/\Xz w w':=by
 obtain⟨i0,hi,zI,zG,zJ⟩:=info_parts CO;obtain⟨W,hW⟩:∃W,W=(w.alloc (.cells #[.string t,.slice (some ad) ss.length rc] 66)).alloc (.cells #[XM,XN] 66):=⟨_,rfl⟩;have hB:=(AP hW).1;have zH:=(AP hW).2.1;have T0:=(AP hW).2.2.1;have R0:Aa W (w.heap.size+1) [XM,XN]:=by
  have h1:=Aa.new (w.alloc (.cells #[.string t,.slice (some ad) ss.length rc] 66)) [XM,XN] 66;rw[World.size_alloc] at h1;rw[hW];exact h1
 have bA:Below W.heap.size W (W.alloc (.cells #[] 9)).drew:=(XA).drew
 obtain⟨v1,w1,zB,zA,zC,zE,_⟩:=run_append_own_at (P:=prog) (W.alloc (.cells #[] 9)).drew W.heap.size 22 22 9 i0 XM 1 16 underlying22 hi zI zG zJ rfl (by decide) (.slice (some ⟨W.heap.size,0,none⟩) 0 0) 0 (([]:List ByteArray).map Value.string) (World.ownsRow_lit (base:=W.heap.size) (e:=9) (size:=1) W #[] 0 (XB) (by unfold maxLen;omega) rfl) ad ss.length rc (ss.map Value.string) (by simp) ((hr.below (hB.trans (bA.mono hB.size))).cellsA) (OY ss) (by unfold maxLen;omega) (by omega) (by simp)
 obtain⟨x,cx,rfl,zN,zM⟩:=BR zA (fun e=>by have:=zE.1 e;simp at this);rw[List.map_nil,List.nil_append] at zA;simp only[Nat.zero_add] at zA zB;have b1:Below W.heap.size W w1:=bA.grown zC (by simp) (fun k hk=>by simp[Value.ownBlock] at hk;omega)
 have HS:Hid (∀X,Xz W X->X.cell? (XL (w.heap.size) 0)=some (.string t)/\X.cell? (XL (w.heap.size) 1)=some (.slice (some ad) ss.length rc)):=fun X hX=>⟨(Aa.below T0 hX 0 _ rfl).1,(Aa.below T0 hX 1 _ rfl).1⟩;have D0:Below W.heap.size W W.drew:=(Below.refl _ _).drew;obtain⟨y0,f0⟩:=Aa.below R0 b1 0 _ rfl;obtain⟨y1,f1⟩:=Aa.below R0 b1 1 _ rfl
 have zF:∀u v,Xz w ((w1.setCell (XL (w.heap.size+1) 0) u).setCell (XL (w.heap.size+1) 1) v):=fun u v=>((hB.trans (b1.mono hB.size)).setCell (by simp) _).setCell (by simp) _;have HO:Hid _:=zA;have zK:w.heap.size+2<=W.heap.size:=by omega
 have HW:Hid _:=hW;clear hW hr zA zH T0 R0 zC zE;go_enter func73,ntmps73;go_upto_region 1 with fail;rw[←HW.o];clear HW;go_region_held3 (fun X=>X.cell? (XL (w.heap.size) 0)=some (.string t)/\X.cell? (XL (w.heap.size) 1)=some (.slice (some ad) ss.length rc))
  (first|with_reducible exact HS.o _ D0|with_reducible exact HS.o _ bA|with_reducible exact HS.o _ b1|exact⟨(World.cell?_setCell_other _ _ _ _ (by simp)).trans ((World.cell?_setCell_other _ _ _ _ (by simp)).trans (HS.o _ b1).1),(World.cell?_setCell_other _ _ _ _ (by simp)).trans ((World.cell?_setCell_other _ _ _ _ (by simp)).trans (HS.o _ b1).2)⟩)
  (first|(refine BU (by rfl) (.tmp 5) (.tmp 7) 22 22 (by rfl) (by rfl) (by rfl) zB ?_))
 all_goals
  clear HS;go_wp2;refine bodyPost_ret (v:=.agg #[.string t,.slice (some ⟨x,0,none⟩) ss.length cx]) (by simp[results,results73,go_sem,y0,y1]) rfl ⟨x,cx,rfl,?_,zF _ _⟩;exact(Bh (Bh HO.o (fun g hg=>by simp[Value.ownBlock] at hg;omega) 0 _) (fun g hg=>by simp[Value.ownBlock] at hg;omega) 1 _).mono (by omega)
theorem PC (w:World) (x:Kd) (g c:Nat):∀j u,(kC (x,.slice (some ⟨g,0,none⟩) x.refs.length c))[j]?=some u->(w.alloc (.cells #[.string x.sum,XJ x.born,.string x.text,.slice (some ⟨g,0,none⟩) x.refs.length c] 114)).cell? ((⟨w.heap.size,0,none⟩:Addr).add j)=some u:=by
 intro j u hu;rw[Go.WideShapes.add_plain,Nat.zero_add];exact((Aa.new w (kC (x,.slice (some ⟨g,0,none⟩) x.refs.length c)) 114) j u hu).1
theorem Tc (x:Kd) (g c:Nat):∀u∈kC (x,.slice (some ⟨g,0,none⟩) x.refs.length c),u.oneCell'=true:=by
 intro u hu;simp[kC] at hu;rcases hu with rfl|rfl|rfl|rfl<;>rfl
theorem Vz {w:World} {base:Nat} {e:TypeId} {size:Nat} {v:Value} {n:Nat} {xs:List Value} (h:w.ownsRow base e size v n xs) (hn:0<n):v≠XN:=by
 intro e;subst e;rcases h.2 with⟨_,hz⟩|⟨_,_,_,e,_⟩
 ·omega
 ·cases e
def Gz (w:World) (aa:Addr) (ks:List Kd):Prop:=∀(i:Nat) (k:Kd),ks[i]?=some k->∃ad rc,w.cell? (XL (aa.block) (aa.off+i *4+3))=some (.slice (some ad) k.refs.length rc)
theorem AT.same'' {w w':World} {b:Nat} {wd now given births:Int} {T P L:Value} (h:AT w b wd now given births T P L) (hb:w'.heap[b]?=w.heap[b]?) (hl:b<w'.heap.size):AT w' b wd now given births T P L:=by
 obtain⟨h0,h1,h2,h3,h4,h5,h6,h7⟩:=h;have c:=fun j=>World.cell?_of_block (a:=⟨b,j,none⟩) hb;exact⟨(c 0).trans h0,(c 1).trans h1,(c 2).trans h2,(c 3).trans h3,(c 4).trans h4,(c 5).trans h5,(c 6).trans h6,hl⟩
structure IL (w wr:World) (k tg tc:Nat) (rs:List Value) (wd now given births:Int) (A P L:Value) (ks:List Kd):Prop where
 o:Aa wr (w.heap.size+1+1) [XJ wd,XJ now,XJ given,XJ births,.slice (some ⟨tg,0,none⟩) k tc,P,L]
 res:Aa wr (w.heap.size+1) z7
 box:AT wr w.heap.size wd now given births A P L
 things:wr.ownsRow (w.heap.size+3) 114 4 (.slice (some ⟨tg,0,none⟩) k tc) k (Ab kC ((ks.take k).zip rs))
 len:rs.length=k
 refs:∀(i:Nat) (x:Kd) (r:Value),(ks.take k)[i]?=some x->rs[i]?=some r->wr.ownsRow (w.heap.size+3) 9 1 r x.refs.length (x.refs.map Value.string)
 all:∀v∈rs,∃g n c,v=Value.slice (some ⟨g,0,none⟩) n c
 nd:(tg::rs.filterMap Value.ownBlock).Nodup
 bel:Below w.heap.size w wr
theorem IL.step {w wr U w3 w5:World} {k tg tc:Nat} {rs:List Value} {wd now given births:Int} {A P L:Value} {ks:List Kd} {x:Kd} {g3 c3 g4 c4:Nat} (h:IL w wr k tg tc rs wd now given births A P L ks) (hx:ks[k]?=some x) (bU:Xz wr U) (b3:Xz U w3)
 (zF:w3.ownsRow U.heap.size 9 1 (.slice (some ⟨g3,0,none⟩) x.refs.length c3) x.refs.length (x.refs.map Value.string)) (zC:w3.grownBy w5 (some tg)) (zU:w5.ownsRow (w.heap.size+3) 114 4 (.slice (some ⟨g4,0,none⟩) (k+1) c4) (k+1) (Ab kC ((ks.take k).zip rs)++kC (x,.slice (some ⟨g3,0,none⟩) x.refs.length c3)))
 (zI:g4=tg∨w3.heap.size<=g4):IL w (w5.setCell (XL (w.heap.size+1+1) 4) (.slice (some ⟨g4,0,none⟩) (k+1) c4)) (k+1) g4 c4 (rs++[.slice (some ⟨g3,0,none⟩) x.refs.length c3]) wd now given births A P L ks:=by
 have zR:=(XC hx).1;have zG:ks.take (k+1)=ks.take k++[x]:=by
  obtain⟨_,rfl⟩:=XC hx;exact XE zR
 have zW:=Ac h.things (g:=tg) rfl;have l3:=Ac zF (g:=g3) rfl;have zN:=bU.size;have zY:=b3.size;have zV:=h.o.lt;have zB:Below wr.heap.size wr w3:=bU.trans (b3.mono zN)
 have zH:∀b,b<w3.heap.size->b≠tg->b≠w.heap.size+1+1->(w5.setCell (XL (w.heap.size+1+1) 4) (.slice (some ⟨g4,0,none⟩) (k+1) c4)).heap[b]?=w3.heap[b]?:=fun b h1 h2 h3=>(Below.heap_setCell _ _ _ _ (by simpa using h3)).trans (zC.block b h1 (fun e=>h2 (Option.some.inj e)))
 have zA:∀b,b<wr.heap.size->b≠tg->b≠w.heap.size+1+1->(w5.setCell (XL (w.heap.size+1+1) 4) (.slice (some ⟨g4,0,none⟩) (k+1) c4)).heap[b]?=wr.heap[b]?:=fun b h1 h2 h3=>(zH b (by omega) h2 h3).trans (zB.block b h1);have zK:(ks.take k).length=k:=by rw[List.length_take];omega
 have zE:∀r∈rs,∀g,r.ownBlock=some g->w.heap.size+3<=g/\g<wr.heap.size:=by
  intro r hr g hg;obtain⟨i,hi⟩:=List.getElem?_of_mem hr;have zX:i<k:=by have:=(XC hi).1;have:=h.len;omega
  exact Ac (h.refs i _ r (XD (by omega)) hi) hg
 have zO:∀r∈rs,∀g,r.ownBlock=some g->g≠tg:=fun r hr g hg e=>(List.nodup_cons.1 h.nd).1 (e▸List.mem_filterMap.2 ⟨r,hr,hg⟩);refine⟨?_,?_,?_,?_,by simp[h.len],?_,?_,?_,?_⟩
 ·have h1:Aa w5 (w.heap.size+1+1) _:=Aa.same (Aa.below h.o zB) (zC.block _ (by omega) (fun e=>by have:=Option.some.inj e;omega))
  exact Aa.set h1 4 _
 ·exact Aa.same h.res (zA _ (by omega) (by omega) (by omega))
 ·exact AT.same'' h.box (zA _ (by omega) (by omega) (by omega)) (by simp;have:=zC.size;omega)
 ·rw[zG,List.zip_append (by rw[zK,h.len]),Bf]
  exact Bh zU (fun g hg=>by simp[Value.ownBlock] at hg;omega) 4 _
 ·intro i y r hy hr
  rw[zG] at hy;have zP:=h.len;rcases Nat.lt_or_ge i k with hi|hi
  ·rw[List.getElem?_append_left (by omega)] at hy hr
   have hm:=XG hr;exact Ah (h.refs i y r hy hr) (fun g hg=>zA g (zE r hm g hg).2 (zO r hm g hg) (by have:=(zE r hm g hg).1;omega))
  ·have zT:i=k:=by have:=(XC hr).1;simp at this;omega
   subst zT;rw[List.getElem?_append_right (by omega),zK,Nat.sub_self] at hy;rw[List.getElem?_append_right (by omega),zP,Nat.sub_self] at hr;simp at hy hr;subst hy;subst hr;exact Ah (World.ownsRow.mono zF (by omega)) (fun g hg=>by simp[Value.ownBlock] at hg;subst hg;exact zH _ l3.2 (by omega) (by omega))
 ·intro v hv
  rcases List.mem_append.1 hv with hv|hv
  ·exact h.all v hv
  ·simp at hv
   exact⟨_,_,_,hv⟩
 ·rw[List.filterMap_append]
  have zS:List.filterMap Value.ownBlock [Value.slice (some ⟨g3,0,none⟩) x.refs.length c3]=[g3]:=by simp[Value.ownBlock]
  rw[zS];have zM:∀b∈rs.filterMap Value.ownBlock,b<wr.heap.size:=fun b hb=>by obtain⟨r,hr,hb⟩:=List.mem_filterMap.1 hb;exact(zE r hr b hb).2
  have zJ:=List.nodup_cons.1 h.nd;refine List.nodup_cons.2 ⟨?_,?_⟩
  ·intro hm
   rcases List.mem_append.1 hm with hm|hm
   ·rcases zI with rfl|ha
    ·exact zJ.1 hm
    ·have:=zM _ hm;omega
   ·simp at hm
    have:=zC.size;rcases zI with ha|ha<;>omega
  ·refine List.nodup_append.2 ⟨zJ.2,by simp,fun a ha b hb e=> ?_⟩
   simp at hb;have:=zM a ha;omega
 ·exact(((h.bel.trans (zB.mono h.bel.size)).grown zC (by have:=h.bel.size;omega) (fun g hg=>by cases hg;omega))).setCell (by simp;omega) _
theorem FE {P:Program} (w:World) {ops:Array Oper} {rest:List Oper} {o:Oper} {a:Act} {Q:Exit->Act->World->Prop} (zH:o.guard=none) (s x:Operand) (t:TypeId)
 (ho:o.op=.call {callee:=.builtin .append,args:= #[s,x],argTypes:= #[t,t]})
 (base:Nat) (e:TypeId) (i:TypeInfo) (z:Value) (size bytes:Nat) (ht:P.underlying t=some (.slice e)) (hi:P.info? e=some i) (hz:i.zero=some z)
 (zF:i.size=size) (zK:i.bytes=bytes) (zI:z.cells.size=size) (zJ:0<size)
 (v:Value) (n:Nat) (xs:List Value) (hs:a.eval s=v) (zA:w.ownsRow base e size v n xs)
 (ad:Option Addr) (m c:Nat) (news:List Value) (hx:a.eval x=.slice ad m c) (zG:ad=none->m=0/\c=0) (hl:news.length=m *size) (zC:∀A,ad=some A->∀j u,news[j]?=some u->w.cell? (A.add j)=some u) (h1:∀u∈news,u.oneCell'=true)
 (zM:n+m<=maxLen) (zB:(n+m) *bytes<=140737488355328) (zE:base<=w.heap.size)
 (h:∀v' w',w'.ownsRow base e size v' (n+m) (xs++news)->w.grownBy w' v.ownBlock->(v'=XN↔v=XN/\m=0)->(v'.ownBlock=v.ownBlock∨v'.ownBlock=some w.heap.size)->wpList P ops Q rest (a.put o.dst v') w'):
 wpList P ops Q (o::rest) a w:=by
 cases ad with
 |some A=>exact wpList_append_own_at w zH s x t ho base e i z size bytes ht hi hz zF zK zI zJ v n xs hs zA A m c news hx hl (zC A rfl) h1 zM zB zE h
 |none=>
  obtain⟨rfl,rfl⟩:=zG rfl;have hn:news=[]:=List.eq_nil_of_length_eq_zero (by simpa using hl);subst hn;have hr:(Builtin.append_ #[t,t] o.type #[v,XN]).run P w=.ok v w:=run_append_owned_none (P:=P) w base t o.type e i size ht hi v n xs zA;exact wpList_append_run zH s x t t ho hs hx hr (h v w (by simpa using zA) ⟨rfl,rfl,rfl,XB,fun _ _ _=>rfl⟩ (by simp) (.inl rfl))
theorem AQ.cellsAt {w:World} {B:Nat} {a:Option Addr} {ps:List Pd} (h:AQ w B a ps) {A:Addr} (hA:a=some A):∀j u,(Ab pC ps)[j]?=some u->w.cell? (A.add j)=some u:=by
 rcases h with h|⟨b,off,e,hb,hc⟩
 ·subst h
  intro j u hu;simp[Ab] at hu
 ·rw[e] at hA
  cases hA;exact AQ.cellsV (B:=B) (.inr ⟨b,off,rfl,hb,hc⟩)
theorem AR.cellsAt {w:World} {B:Nat} {a:Option Addr} {ls:List Ld} (h:AR w B a ls) {A:Addr} (hA:a=some A):∀j u,(Ab lC ls)[j]?=some u->w.cell? (A.add j)=some u:=by
 rcases h with h|⟨b,off,e,hb,hc⟩
 ·subst h
  intro j u hu;simp[Ab] at hu
 ·rw[e] at hA
  cases hA;exact AR.cellsV (B:=B) (.inr ⟨b,off,rfl,hb,hc⟩)
theorem Hf (wd now given births:Int) (sa sp sl:Option Addr) (ac pc lc:Nat) (ks:List Kd) (ps:List Pd) (ls:List Ld) (w:World) (zN:Bt w w.heap.size sa sp sl ks ps ls) (zF:∀A,sa=some A->Gz w A ks) (vF:sp=none->pc=0) (xM:sl=none->lc=0) (hk:ks.length<=600) (hp:ps.length<=100) (hl:ls.length<=200) (yB:∀k∈ks,k.refs.length<=30):
 Calls prog 43 #[.agg #[XJ wd,XJ now,XJ given,XJ births,.slice sa ks.length ac,.slice sp ps.length pc,.slice sl ls.length lc]] w fun e w'=>∃T P' L' rs,e=.returned (.agg #[XJ wd,XJ now,XJ given,XJ births,T,P',L'])/\AY w' w.heap.size T P' L' rs ks ps ls/\(∀v∈T::P'::L'::rs,∃g n c,v=.slice (some ⟨g,0,none⟩) n c)/\Xz w w':=by
 obtain⟨W,hW⟩:∃W,W=(((w.alloc (.cells #[XJ wd,XJ now,XJ given,XJ births,.slice sa ks.length ac,.slice sp ps.length pc,.slice sl ls.length lc] 28)).alloc (.cells #[XK,XK,XK,XK,XN,XN,XN] 28)).alloc (.cells #[XJ wd,XJ now,XJ given,XJ births,.slice (some ⟨w.heap.size+1+1+1,0,none⟩) 0 0,.slice sp ps.length pc,.slice sl ls.length lc] 28)).alloc (.cells #[] 114):=⟨_,rfl⟩;have hB:=(Wv hW).1
 have yM:=(Wv hW).2.1;have xW:AT W w.heap.size wd now given births (.slice sa ks.length ac) (.slice sp ps.length pc) (.slice sl ls.length lc):=by rw[hW];exact⟨by simp[go_sem],by simp[go_sem],by simp[go_sem],by simp[go_sem],by simp[go_sem],by simp[go_sem],by simp[go_sem],by simp;omega⟩
 have zR:Aa W (w.heap.size+1) z7:=by
  intro j v hv;have hj:j<7:=(XC hv).1;rw[hW];rcases(show j=0∨j=1∨j=2∨j=3∨j=4∨j=5∨j=6 by omega) with rfl|rfl|rfl|rfl|rfl|rfl|rfl<;>(simp[z7] at hv;subst hv;simp[go_sem])
 have zO:Aa W (w.heap.size+1+1) [XJ wd,XJ now,XJ given,XJ births,.slice (some ⟨w.heap.size+1+1+1,0,none⟩) 0 0,.slice sp ps.length pc,.slice sl ls.length lc]:=by
  intro j v hv;have hj:j<7:=(XC hv).1;rw[hW];rcases(show j=0∨j=1∨j=2∨j=3∨j=4∨j=5∨j=6 by omega) with rfl|rfl|rfl|rfl|rfl|rfl|rfl<;>(simp at hv;subst hv;simp[go_sem])
 have oT:W.ownsRow (w.heap.size+3) 114 4 (.slice (some ⟨w.heap.size+1+1+1,0,none⟩) 0 0) 0 (Ab kC []):=by
  have:=World.ownsRow_lit (base:=w.heap.size+3) (e:=114) (size:=4) (((w.alloc (.cells #[XJ wd,XJ now,XJ given,XJ births,.slice sa ks.length ac,.slice sp ps.length pc,.slice sl ls.length lc] 28)).alloc (.cells #[XK,XK,XK,XK,XN,XN,XN] 28)).alloc (.cells #[XJ wd,XJ now,XJ given,XJ births,.slice (some ⟨w.heap.size+1+1+1,0,none⟩) 0 0,.slice sp ps.length pc,.slice sl ls.length lc] 28)) #[] 0 (by simp) (by unfold maxLen;omega) rfl
  rw[←hW] at this;simpa [Ab] using this
 have zA:Hid _:=And.intro zN zF;have HW:Hid _:=hW;have vL:Hid _:=yM;have H0:Hid _:=And.intro zO (And.intro zR (And.intro xW oT));clear hW zN zF zO zR xW oT yM;go_enter func43,ntmps43;go_upto_region 3 with fail;rw[←HW.o];clear HW;go_wp2
 go_loopw [4] (fun i wr=>∃(k tg tc:Nat) (rs:List Value),k<=ks.length/\i=XJ k/\Hid (IL w wr k tg tc rs wd now given births (.slice sa ks.length ac) (.slice sp ps.length pc) (.slice sl ls.length lc) ks)) (fun i _=>ks.length -(intOf i).toNat)
 case atStart=>exact⟨0,w.heap.size+1+1+1,0,[],Nat.zero_le _,rfl,⟨H0.o.1,H0.o.2.1,H0.o.2.2.1,H0.o.2.2.2,rfl,(fun i x r hx=>by simp at hx),(fun v hv=>by simp at hv),(by simp),hB⟩⟩
 case round=>
  clear H0;obtain⟨k,tg,tc,rs,vP,rfl,HI⟩:=hrel;have zB:=HI.o.bel;have zS:=zB.size;obtain⟨x0,x1,x2,x3,x4,x5,x6,x7⟩:=HI.o.box;by_cases zI:k<ks.length
  ·obtain⟨ab,ao,ha,hb,hc⟩:=(Bx.below zA.o.1.k zB).at zI
   subst ha;have HG:Hid (ks[k]?=some ks[k]):=XD zI;obtain⟨c0,c1,c2,ra,rc,c3,yV⟩:=hc k _ HG.o;obtain⟨ad,vR,hs⟩:=zA.o.2 _ rfl k _ HG.o;have yT:=(zB.cell (p:=⟨ab,ao+k *4+3,none⟩) hb).trans hs;rw[c3] at yT;cases yT;have xR:=yB _ (List.getElem_mem zI);have vO:Hid (ks.take (k+1)=ks.take k++[ks[k]]):=XE zI;have vS:ab<wr.heap.size:=by omega
   have vK:Hid _:=Ae.mono yV zS;clear hc hs yV;generalize ks[k]=x at *
   obtain⟨U,hU⟩:∃U,U=wr.alloc (.cells #[.string x.sum,XJ x.born,.string x.text,.slice (some ad) x.refs.length rc] 114):=⟨_,rfl⟩;have bU:=(Aq hU).1;have zU:=(Aq hU).2.1;have KU:=(Aq hU).2.2;obtain⟨i0,hi,xT,vH,xL⟩:=info_parts Gc;have hq:=vL.o;have xS:w.heap.size+4<=wr.heap.size∨True:=.inr trivial;have xO:w.heap.size+1+1<wr.heap.size:=HI.o.o.lt;have yA:=Ac HI.o.things (g:=tg) rfl;have HU:Hid _:=hU
   have SU:=Aa.below HI.o.o bU;have u4:=(SU 4 _ rfl).1;obtain⟨k0,k1,k2,k3⟩:=Aa.c4 KU 0 1 2 3;have oU:=Ad HI.o.things bU;have HT:Hid _:=oU;have HS:Hid _:=SU;have yR:Hid _:=KU;have xK:Hid _:=bU;have vC:Hid _:=zU;have xY:Hid (Ae U.drew U.drew.heap.size (some ad) x.refs):=Ae.mono (Ae.below vK.o bU.drew) bU.size;have xE:x.refs.length<=100000:=by omega
   have zX:¬w.heap.size+1+1=wr.heap.size:=by omega
   clear hU oU SU KU bU zU hq xS;go_upto_region 7 with fail;rw[←HU.o];clear HU x0 x1 x2 x3 x4 x5 x6 x7 c0 c1 c2 c3
   go_region_law (first
    |(go_simp;go_at_call 73;refine(MR x.text ad rc x.refs U.drew xY.o xE).mono ?_;rintro e w3 ⟨g3,c3,rfl,zE,zH⟩;have b3:Below U.heap.size U w3:=⟨zH.os,zH.tape,zH.output,zH.size,zH.block⟩;have z3:=b3.size;have S3:=Aa.below HS.o b3;have n4:=(S3 4 _ rfl).1;obtain⟨m0,_⟩:=Aa.below yR.o b3 0 _ rfl;obtain⟨m1,_⟩:=Aa.below yR.o b3 1 _ rfl;have bA:Below w3.heap.size w3 (w3.alloc (.cells #[.string x.sum,XJ x.born,.string x.text,.slice (some ⟨g3,0,none⟩) x.refs.length c3] 114)):=XA;have a4:=(Aa.below S3 bA 4 _ rfl).1;have hq:=vC.o;obtain⟨v5,w5,hr5,ho5,hg5,_,ha5⟩:=run_append_own_at (P:=prog) (w3.alloc (.cells #[.string x.sum,XJ x.born,.string x.text,.slice (some ⟨g3,0,none⟩) x.refs.length c3] 114)) (w.heap.size+3) 24 24 114 i0 _ 4 64 underlying24 hi xT vH xL rfl (by decide) _ k _ (Ad (Ad HT.o b3) bA) ⟨w3.heap.size,0,none⟩ 1 1 (kC (x,.slice (some ⟨g3,0,none⟩) x.refs.length c3)) rfl (PC w3 x g3 c3) (Tc x g3 c3) (by unfold maxLen;omega) (by omega) (by simp;omega);obtain⟨g4,c4,rfl,hg4a,hg4b⟩:=BR ho5 (Vz ho5 (by omega));have vD:=Ac zE (g:=g3) rfl;have zJ:w3.grownBy w5 (some tg):=Ap (Ax _ bA) hg5;have zP:g4=tg∨w3.heap.size<=g4:=ha5.imp (fun e=>by simpa [Value.ownBlock] using e) (fun e=>by simp[Value.ownBlock] at e;omega);have yS:w5.heap[w.heap.size+1+1]?=(w3.alloc (.cells #[.string x.sum,XJ x.born,.string x.text,.slice (some ⟨g3,0,none⟩) x.refs.length c3] 114)).heap[w.heap.size+1+1]?:=hg5.block _ (by simp;omega) (by simp[Value.ownBlock];omega);have S5:=Aa.same (Aa.below S3 bA) yS;have y5:=(S5 4 _ rfl).1;have f5:=(S5 4 _ rfl).2;clear hq;go_wp2_with fail)
    |(refine BU (by rfl) (.tmp 22) (.tmp 31) 24 24 (by rfl) (by rfl) (by rfl) hr5 ?_))
   all_goals
    have HF:Hid (IL w _ (k+1) g4 c4 (rs++[.slice (some ⟨g3,0,none⟩) x.refs.length c3]) wd now given births (.slice (some ⟨ab,ao,none⟩) ks.length ac) (.slice sp ps.length pc) (.slice sl ls.length lc) ks):=IL.step HI.o HG.o xK.o b3 zE zJ ho5 zP;clear zE zH b3 z3 S3 n4 m0 m1 bA a4 hr5 ho5 hg5 ha5 zJ zP hg4a hg4b vD yS S5 y5 f5 u4 k0 k1 k2 k3;go_wp2
    exact⟨⟨k+1,g4,c4,rs++[.slice (some ⟨g3,0,none⟩) x.refs.length c3],by omega,by go_num,HF⟩,by simp[intOf];omega⟩
  ·obtain rfl:k=ks.length:=by omega
   have hI:=HI.o;have yA:=Ac hI.things (g:=tg) rfl;have xO:=hI.o.lt;obtain⟨ip,vA,xI,vI,xV⟩:=info_parts FW;obtain⟨il,xH,xP,vJ,xJ⟩:=info_parts FB;have bP:Below wr.heap.size wr (wr.alloc (.cells #[] 134)):=XA;have u5:=(hI.o 5 _ rfl);have zX:¬w.heap.size+1+1=wr.heap.size:=by omega
   have yN:AQ wr wr.heap.size sp ps:=AQ.mono (AQ.below zA.o.1.p zB) zS;have vG:Hid _:=yN;have xG:Hid (sp=none->ps.length=0):=fun e=>by
    rcases zA.o.1.p with h|⟨q,o,h,_⟩
    ·rw[h];rfl
    ·rw[e] at h;cases h
   have xN:Hid (sl=none->ls.length=0):=fun e=>by
    rcases zA.o.1.l with h|⟨q,o,h,_⟩
    ·rw[h];rfl
    ·rw[e] at h;cases h
   clear hI x0 x1 x2 x3 yN u5;go_wp2_with (first
    |(at_builtin;refine FE _ rfl _ _ 25 rfl (w.heap.size+3) 134 ip _ 2 32 underlying25 vA xI vI xV rfl (by decide) _ 0 (Ab pC []) rfl ?d0 sp ps.length pc (Ab pC ps) rfl ?dn ?d1 ?d2 ?d3 ?d4 ?d5 ?d6 ?_)
    |go_in)
   case d0=>exact World.ownsRow_lit (base:=w.heap.size+3) (e:=134) (size:=2) wr #[] 0 (by omega) (by unfold maxLen;omega) rfl
   case dn=>exact fun e=>⟨xG.o e,vF e⟩
   case d1=>exact Bo BB ps
   case d2=>exact fun A hA=>AQ.cellsAt (AQ.below vG.o bP) hA
   case d3=>exact Ih ps
   case d4=>unfold maxLen;omega
   case d5=>omega
   case d6=>simp;omega
   intro v1 w1 zG zW xA yC;obtain⟨pg,zC,rfl,xZ,yE⟩:=BR zG xA;rw[show Ab pC []=[] from rfl,List.nil_append] at zG;have b1:Below wr.heap.size wr w1:=bP.grown zW (by simp) (fun q hq=>by simp[Value.ownBlock] at hq;omega);have z1:=b1.size;have S1:=Aa.below HI.o.o b1;obtain⟨s5,f5⟩:=S1 5 _ rfl;obtain⟨_,_,_,_,_,_,z6,_⟩:=AT.below HI.o.box b1;have yQ:wr.heap.size<=pg:=by
    rcases(Ac zG (g:=pg) rfl) with⟨h1,h2⟩;have:=zW;rcases Nat.lt_or_ge pg wr.heap.size with h|h
    ·exfalso
     have hb:=b1.block pg h;rcases zG.2 with⟨e,_⟩|⟨q,cq,vQ,e,_,hq,_⟩
     ·cases e
     ·cases e
      exact absurd h (by rcases yC with hh|hh<;>simp[Value.ownBlock] at hh<;>omega)
    ·exact h
   have S2:=Aa.set S1 5 (.slice (some ⟨pg,0,none⟩) ps.length zC);have vE:(w1.setCell (XL (w.heap.size+1+1) 5) (.slice (some ⟨pg,0,none⟩) ps.length zC)).heap.size=w1.heap.size:=by simp
   have yW:AR w1 w1.heap.size sl ls:=AR.mono (AR.below zA.o.1.l (zB.trans (b1.mono zS))) (by omega);have bL:Below w1.heap.size w1 w1:=Below.refl _ _;have yJ:Hid (∀A,sl=some A->∀j u,(Ab lC ls)[j]?=some u->((w1.setCell (XL (w.heap.size+1+1) 5) (.slice (some ⟨pg,0,none⟩) ps.length zC)).alloc (.cells #[] 137)).cell? (A.add j)=some u):=by
    intro A hA j u hu;rcases zA.o.1.l with h|⟨lb,lo,e,zI,_⟩
    ·subst h
     simp[Ab] at hu
    ·rw[e] at hA
     cases hA;have h1:=AR.cellsAt yW e j u hu;rw[Go.WideShapes.add_plain] at h1 ⊢;rw[World.cell?_of_block (Below.heap_alloc _ _ _ (by simp;omega)),World.cell?_of_block (Below.heap_setCell _ _ _ _ (by simp;omega))];exact h1
   have xF:Hid _:=zG;have yX:Hid _:=S2;have yU:Hid _:=b1;have yI:¬w.heap.size+1+1=w1.heap.size:=by omega
   have xC:¬w.heap.size=w.heap.size+1+1:=by omega
   clear zG zW xA b1 S1 S2 x5 x6 x4 yW bL;go_wp2_with (first
    |(at_builtin;refine FE _ rfl _ _ 26 rfl (w.heap.size+3) 137 il _ 3 32 underlying26 xH xP vJ xJ rfl (by decide) _ 0 (Ab lC []) rfl ?e0 sl ls.length lc (Ab lC ls) rfl ?en ?e1 ?e2 ?e3 ?e4 ?e5 ?e6 ?_)
    |go_in)
   case e0=>
    have:=World.ownsRow_lit (base:=w.heap.size+3) (e:=137) (size:=3) (w1.setCell (XL (w.heap.size+1+1) 5) (.slice (some ⟨pg,0,none⟩) ps.length zC)) #[] 0 (by simp;omega) (by unfold maxLen;omega) rfl;rw[vE] at this;exact this
   case en=>exact fun e=>⟨xN.o e,xM e⟩
   case e1=>exact Bo Cf ls
   case e2=>exact yJ.o
   case e3=>exact SF ls
   case e4=>unfold maxLen;omega
   case e5=>omega
   case e6=>simp;omega
   intro v3 w3 zE yK xB zM;obtain⟨lg,zT,rfl,xQ,zZ⟩:=BR zE xB;rw[show Ab lC []=[] from rfl,List.nil_append] at zE;have b3:Below w1.heap.size (w1.setCell (XL (w.heap.size+1+1) 5) (.slice (some ⟨pg,0,none⟩) ps.length zC)) w3:=by
    have h0:Below w1.heap.size (w1.setCell (XL (w.heap.size+1+1) 5) (.slice (some ⟨pg,0,none⟩) ps.length zC)) ((w1.setCell (XL (w.heap.size+1+1) 5) (.slice (some ⟨pg,0,none⟩) ps.length zC)).alloc (.cells #[] 137)):=(Below.refl _ _).alloc (by simp) _;exact h0.grown yK (by simp) (fun q hq=>by simp[Value.ownBlock] at hq;omega)
   have z3:w1.heap.size<=w3.heap.size:=by have:=b3.size;simpa using this
   have yY:w1.heap.size<=lg:=by rcases zM with hh|hh<;>simp[Value.ownBlock] at hh<;>omega
   have yD:pg<w1.heap.size:=yE;have S3:Aa w3 (w.heap.size+1+1) _:=Aa.same yX.o (b3.block _ (by omega));have S4:=Aa.set S3 6 (.slice (some ⟨lg,0,none⟩) ls.length zT);obtain⟨r6,f6⟩:=S3 6 _ rfl;have r0:=(S3 0 _ rfl).1;have r1:=(S3 1 _ rfl).1;have r2:=(S3 2 _ rfl).1;have r3:=(S3 3 _ rfl).1;have r4:=(S3 4 _ rfl).1;have r5:=(S3 5 _ rfl).1
   have zK:∀q,q<wr.heap.size->q≠w.heap.size+1+1->w3.heap[q]?=wr.heap[q]?:=fun q h1 h2=>((b3.block q (by omega)).trans (Below.heap_setCell _ _ _ _ (by simpa using h2))).trans (yU.o.block q h1);have R3:Aa w3 (w.heap.size+1) z7:=Aa.same HI.o.res (zK _ (by omega) (by omega));obtain⟨⟨y0,q0⟩,⟨y1,q1⟩,⟨y2,q2⟩,⟨y3,q3⟩,⟨y4,q4⟩,⟨y5,q5⟩,y6,q6⟩:=Pn R3;have yH:¬w.heap.size+1+1=w.heap.size+1:=by omega
   have yO:∀q,(Value.slice (some ⟨pg,0,none⟩) ps.length zC).ownBlock=some q->pg=q:=fun q hq=>by simpa [Value.ownBlock] using hq
   have zV:w3.ownsRow (w.heap.size+3) 134 2 (.slice (some ⟨pg,0,none⟩) ps.length zC) ps.length (Ab pC ps):=Ah (Bh (b:=w.heap.size+1+1) xF.o (fun q hq=>by have:=yO q hq;omega) 5 (.slice (some ⟨pg,0,none⟩) ps.length zC)) (fun q hq=>(yO q hq)▸b3.block pg yD);have H3:Hid _:=And.intro zE (And.intro zV (And.intro zK (And.intro b3 (And.intro yY (And.intro yQ z3)))))
   clear zE yK xB zM zV zK b3 S3 S4 R3 z6 s5 f5 yJ yX;go_wp2;obtain⟨zE,zV,zK,b3,yY,yQ,z3⟩:=H3.o
   have hX:∀q,q<w3.heap.size->q≠w.heap.size+1+1->q≠w.heap.size+1->(((((((((w3.setCell (XL (w.heap.size+1+1) 6) (.slice (some ⟨lg,0,none⟩) ls.length zT)).setCell (XL (w.heap.size+1) 0) (XJ wd)).setCell (XL (w.heap.size+1) 1) (XJ now)).setCell (XL (w.heap.size+1) 2) (XJ given)).setCell (XL (w.heap.size+1) 3) (XJ births)).setCell (XL (w.heap.size+1) 4) (.slice (some ⟨tg,0,none⟩) ks.length tc)).setCell (XL (w.heap.size+1) 5) (.slice (some ⟨pg,0,none⟩) ps.length zC)).setCell (XL (w.heap.size+1) 6) (.slice (some ⟨lg,0,none⟩) ls.length zT))).heap[q]?=w3.heap[q]?:=fun q _ h2 h3=>by
    rw[Below.heap_setCell _ _ _ _ (by simpa using h3),Below.heap_setCell _ _ _ _ (by simpa using h3),Below.heap_setCell _ _ _ _ (by simpa using h3),Below.heap_setCell _ _ _ _ (by simpa using h3),Below.heap_setCell _ _ _ _ (by simpa using h3),Below.heap_setCell _ _ _ _ (by simpa using h3),Below.heap_setCell _ _ _ _ (by simpa using h3),Below.heap_setCell _ _ _ _ (by simpa using h2)]
   have xX:ks.take ks.length=ks:=XF (XB);have yP:=HI.o.things;have zY:=HI.o.refs;have xU:=HI.o.nd;have xD:=HI.o.len;rw[xX] at yP zY;have yF:∀r∈rs,∀q,r.ownBlock=some q->w.heap.size+3<=q/\q<wr.heap.size:=by
    intro r hr q hq;obtain⟨i,hi⟩:=List.getElem?_of_mem hr;have vM:=(XC hi).1;exact Ac (zY i ks[i] r (XD (by omega)) hi) hq
   have yL:∀q,q<wr.heap.size->w.heap.size+3<=q->_:=fun q h1 h2=>(hX q (by omega) (by omega) (by omega)).trans (zK q h1 (by omega))
   refine bodyPost_ret (v:=.agg #[XJ wd,XJ now,XJ given,XJ births,.slice (some ⟨tg,0,none⟩) ks.length tc,.slice (some ⟨pg,0,none⟩) ps.length zC,.slice (some ⟨lg,0,none⟩) ls.length zT]) (by simp[results,results43,go_sem,y0,y1,y2,y3,y4,y5,y6]) rfl ⟨_,_,_,rs,rfl,⟨xD,?_,?_,?_,?_,?_⟩,?_,?_⟩
   ·exact(Ah yP (fun q hq=>by have e:tg=q:=by simpa [Value.ownBlock] using hq
                              rw[←e];exact yL tg yA.2 yA.1)).mono (by omega)
   ·intro i x r hx hr
    have hm:=XG hr;exact(Ah (zY i x r hx hr) (fun q hq=>yL q (yF r hm q hq).2 (yF r hm q hq).1)).mono (by omega)
   ·exact(Ah zV (fun q hq=>by have e:pg=q:=by simpa [Value.ownBlock] using hq
                              rw[←e];exact hX pg (by omega) (by omega) (by omega))).mono (by omega)
   ·exact(Ah zE (fun q hq=>by have e:lg=q:=by simpa [Value.ownBlock] using hq
                              rw[←e];exact hX lg zZ (by omega) (by omega))).mono (by omega)
   ·rw[Fc]
    unfold Bn;have yG:=List.nodup_cons.1 xU;have yZ:∀q∈rs.filterMap Value.ownBlock,q<wr.heap.size:=fun q hq=>by obtain⟨r,hr,hq⟩:=List.mem_filterMap.1 hq;exact(yF r hr q hq).2
    simp only[Value.ownBlock,Option.toList_some,List.cons_append,List.nil_append,List.nodup_cons,List.mem_cons,not_or];refine⟨⟨by omega,by omega,yG.1⟩,⟨by omega,fun h=>by have:=yZ _ h;omega⟩,fun h=>by have:=yZ _ h;omega,yG.2⟩
   ·intro v hv
    simp only[List.mem_cons] at hv;rcases hv with rfl|rfl|rfl|hv
    ·exact⟨_,_,_,rfl⟩
    ·exact⟨_,_,_,rfl⟩
    ·exact⟨_,_,_,rfl⟩
    ·exact HI.o.all v hv
   ·have h1:Below w.heap.size w w3:=by
     have h0:=zB.trans (yU.o.mono zS);exact(h0.setCell (by simp;omega) _).trans (b3.mono (by omega))
    exact EN (h1.setCell (p:=⟨w.heap.size+1+1,6,none⟩) (by simp;omega) _) (by omega) _ _ _ _ _ _ _
theorem PD (wd now given births:Int) (ab ao pb po lb lo ac pc lc:Nat) (ks:List Kd) (ps:List Pd) (ls:List Ld) (w:World) (zC:Bt w w.heap.size (some ⟨ab,ao,none⟩) (some ⟨pb,po,none⟩) (some ⟨lb,lo,none⟩) ks ps ls) (zA:Gz w ⟨ab,ao,none⟩ ks) (hk:ks.length<=600) (hp:ps.length<=100) (hl:ls.length<=200) (zB:∀k∈ks,k.refs.length<=30):
 Calls prog 43 #[.agg #[XJ wd,XJ now,XJ given,XJ births,.slice (some ⟨ab,ao,none⟩) ks.length ac,.slice (some ⟨pb,po,none⟩) ps.length pc,.slice (some ⟨lb,lo,none⟩) ls.length lc]] w fun e w'=>∃T P' L' rs,e=.returned (.agg #[XJ wd,XJ now,XJ given,XJ births,T,P',L'])/\AY w' w.heap.size T P' L' rs ks ps ls/\(∀v∈T::P'::L'::rs,∃g n c,v=.slice (some ⟨g,0,none⟩) n c)/\Xz w w':=
 Hf wd now given births _ _ _ ac pc lc ks ps ls w zC (fun A hA=>by cases hA;exact zA) (fun e=>by cases e) (fun e=>by cases e) hk hp hl zB
end Go.Proofs.YtpekbmegopfhfaaGreatDoor
