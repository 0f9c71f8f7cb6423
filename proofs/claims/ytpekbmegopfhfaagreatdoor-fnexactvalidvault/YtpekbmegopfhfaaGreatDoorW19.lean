import Derived.Laws.OwnMore
import Derived.Test.YtpekbmegopfhfaaGreatDoorW07
namespace Go.Proofs.YtpekbmegopfhfaaGreatDoor
open Go.ChangeShapes Go.WideShapes Go.ChangeAt Go.RowKit
set_option maxRecDepth 20000 in
set_option maxHeartbeats 4000000 in
theorem l1Thing_some (t:ByteArray) (ad:Addr) (rc:Nat) (ss:List ByteArray) (w:World) (hr:SRow w w.heap.size (some ad) ss) (hl:ss.length<=100000):
 Calls Tryz.prog 73 #[.agg #[.string t,.slice (some ad) ss.length rc]] w fun e w'=>∃g c,e=.returned (.agg #[.string t,.slice (some ⟨g,0,none⟩) ss.length c])/\
  w'.ownsRow w.heap.size 9 1 (.slice (some ⟨g,0,none⟩) ss.length c) ss.length (ss.map Value.string)/\Below w.heap.size w w':=by
 obtain ⟨i0,hi,hz0,hz1,hz2⟩:=info_parts Tryz.infoStr
 obtain ⟨W,hW⟩:∃W,W=(w.alloc (.cells #[.string t,.slice (some ad) ss.length rc] 66)).alloc (.cells #[.string ⟨#[]⟩,.slice none 0 0] 66):=⟨_,rfl⟩
 have hB:Below w.heap.size w W:=by rw [hW];exact ((Below.refl _ _).alloc (Nat.le_refl _) _).alloc (by simp) _
 have hzW:W.heap.size=w.heap.size+2:=by rw [hW];simp
 have T0:CellsAt W w.heap.size [.string t,.slice (some ad) ss.length rc]:=by rw [hW];exact CellsAt.below (CellsAt.new w _ _) ((Below.refl _ _).alloc (Nat.le_refl _) _)
 have R0:CellsAt W (w.heap.size+1) [.string ⟨#[]⟩,.slice none 0 0]:=by
  have h1:=CellsAt.new (w.alloc (.cells #[.string t,.slice (some ad) ss.length rc] 66)) [.string ⟨#[]⟩,.slice none 0 0] 66
  rw [World.size_alloc] at h1
  rw [hW]
  exact h1
 have bA:Below W.heap.size W (W.alloc (.cells #[] 9)).drew:=((Below.refl _ _).alloc (Nat.le_refl _) _).drew
 obtain ⟨v1,w1,hrun,ho1,hg1,hn1,_⟩:=run_append_own_at (P:=Tryz.prog) (W.alloc (.cells #[] 9)).drew W.heap.size 22 22 9 i0 (.string ⟨#[]⟩) 1 16 Tryz.underlying22 hi hz0 hz1 hz2 rfl (by decide) (.slice (some ⟨W.heap.size,0,none⟩) 0 0) 0 (([]:List ByteArray).map Value.string) (World.ownsRow_lit (base:=W.heap.size) (e:=9) (size:=1) W #[] 0 (Nat.le_refl _) (by unfold maxLen;omega) rfl) ad ss.length rc (ss.map Value.string) (by simp) ((hr.below (hB.trans (bA.mono hB.size))).cellsA) (oneS ss) (by unfold maxLen;omega) (by omega) (by simp)
 obtain ⟨x,cx,rfl,hx1,hx2⟩:=own_form ho1 (fun e=>by have:=hn1.1 e;simp at this)
 rw [List.map_nil,List.nil_append] at ho1
 simp only [Nat.zero_add] at ho1 hrun
 have b1:Below W.heap.size W w1:=bA.grown hg1 (by simp) (fun k hk=>by simp [Value.ownBlock] at hk;omega)
 have HS:Hid (∀X,Below W.heap.size W X->X.cell? ⟨w.heap.size,0,none⟩=some (.string t)/\X.cell? ⟨w.heap.size,1,none⟩=some (.slice (some ad) ss.length rc)):=fun X hX=>⟨(CellsAt.below T0 hX 0 _ rfl).1,(CellsAt.below T0 hX 1 _ rfl).1⟩
 have D0:Below W.heap.size W W.drew:=(Below.refl _ _).drew
 obtain ⟨y0,f0⟩:=CellsAt.below R0 b1 0 _ rfl
 obtain ⟨y1,f1⟩:=CellsAt.below R0 b1 1 _ rfl
 have hb2:∀u v,Below w.heap.size w ((w1.setCell ⟨w.heap.size+1,0,none⟩ u).setCell ⟨w.heap.size+1,1,none⟩ v):=fun u v=>((hB.trans (b1.mono hB.size)).setCell (by simp) _).setCell (by simp) _
 have HO:Hid _:=ho1
 have hz2':w.heap.size+2<=W.heap.size:=by omega
 have HW:Hid _:=hW
 clear hW hr ho1 hzW T0 R0 hg1 hn1
 go_enter Tryz.func73,Tryz.ntmps73
 go_upto_region 1 with fail
 rw [←HW.out]
 clear HW
 go_region_held3 (fun X=>X.cell? ⟨w.heap.size,0,none⟩=some (.string t)/\X.cell? ⟨w.heap.size,1,none⟩=some (.slice (some ad) ss.length rc))
  (first|with_reducible exact HS.out _ D0|with_reducible exact HS.out _ bA|with_reducible exact HS.out _ b1|exact ⟨(World.cell?_setCell_other _ _ _ _ (by simp)).trans ((World.cell?_setCell_other _ _ _ _ (by simp)).trans (HS.out _ b1).1),(World.cell?_setCell_other _ _ _ _ (by simp)).trans ((World.cell?_setCell_other _ _ _ _ (by simp)).trans (HS.out _ b1).2)⟩)
  (first|(refine step_append_run (by rfl) (.tmp 5) (.tmp 7) 22 22 (by rfl) (by rfl) (by rfl) hrun ?_))
 all_goals
  clear HS
  go_wp2
  refine bodyPost_ret (v:=.agg #[.string t,.slice (some ⟨x,0,none⟩) ss.length cx]) (by simp [results,Tryz.results73,go_sem,y0,y1]) rfl ⟨x,cx,rfl,?_,hb2 _ _⟩
  exact (own_set (own_set HO.out (fun g hg=>by simp [Value.ownBlock] at hg;omega) 0 _) (fun g hg=>by simp [Value.ownBlock] at hg;omega) 1 _).mono (by omega)
theorem kept_cells (w:World) (x:Kd) (g c:Nat):∀j u,(kC (x,.slice (some ⟨g,0,none⟩) x.refs.length c))[j]?=some u->(w.alloc (.cells #[.string x.sum,.int .i64 x.born,.string x.text,.slice (some ⟨g,0,none⟩) x.refs.length c] 114)).cell? ((⟨w.heap.size,0,none⟩:Addr).add j)=some u:=by
 intro j u hu
 rw [Go.WideShapes.add_plain,Nat.zero_add]
 exact ((CellsAt.new w (kC (x,.slice (some ⟨g,0,none⟩) x.refs.length c)) 114) j u hu).1
theorem kept_one (x:Kd) (g c:Nat):∀u∈kC (x,.slice (some ⟨g,0,none⟩) x.refs.length c),u.oneCell'=true:=by
 intro u hu
 simp [kC] at hu
 rcases hu with rfl|rfl|rfl|rfl<;>rfl
theorem own_nn {w:World} {base:Nat} {e:TypeId} {size:Nat} {v:Value} {n:Nat} {xs:List Value} (h:w.ownsRow base e size v n xs) (hn:0<n):v≠.slice none 0 0:=by
 intro e
 subst e
 rcases h.2 with ⟨_,hz⟩|⟨_,_,_,e,_⟩
 ·omega
 ·cases e
def KSome (w:World) (aa:Addr) (ks:List Kd):Prop:=∀(i:Nat) (k:Kd),ks[i]?=some k->∃ad rc,w.cell? ⟨aa.block,aa.off+i *4+3,none⟩=some (.slice (some ad) k.refs.length rc)
theorem SBox.same'' {w w':World} {b:Nat} {wd now given births:Int} {T P L:Value} (h:SBox w b wd now given births T P L) (hb:w'.heap[b]?=w.heap[b]?) (hl:b<w'.heap.size):SBox w' b wd now given births T P L:=by
 obtain ⟨h0,h1,h2,h3,h4,h5,h6,h7⟩:=h
 have c:=fun j=>World.cell?_of_block (a:=⟨b,j,none⟩) hb
 exact ⟨(c 0).trans h0,(c 1).trans h1,(c 2).trans h2,(c 3).trans h3,(c 4).trans h4,(c 5).trans h5,(c 6).trans h6,hl⟩
structure CpInv (w wr:World) (k tg tc:Nat) (rs:List Value) (wd now given births:Int) (A P L:Value) (ks:List Kd):Prop where
 out:CellsAt wr (w.heap.size+1+1) [.int .i64 wd,.int .i64 now,.int .i64 given,.int .i64 births,.slice (some ⟨tg,0,none⟩) k tc,P,L]
 res:CellsAt wr (w.heap.size+1) z7
 box:SBox wr w.heap.size wd now given births A P L
 things:wr.ownsRow (w.heap.size+3) 114 4 (.slice (some ⟨tg,0,none⟩) k tc) k (rowC kC ((ks.take k).zip rs))
 len:rs.length=k
 refs:∀(i:Nat) (x:Kd) (r:Value),(ks.take k)[i]?=some x->rs[i]?=some r->wr.ownsRow (w.heap.size+3) 9 1 r x.refs.length (x.refs.map Value.string)
 all:∀v∈rs,∃g n c,v=Value.slice (some ⟨g,0,none⟩) n c
 nd:(tg::rs.filterMap Value.ownBlock).Nodup
 bel:Below w.heap.size w wr
theorem CpInv.step {w wr U w3 w5:World} {k tg tc:Nat} {rs:List Value} {wd now given births:Int} {A P L:Value} {ks:List Kd} {x:Kd} {g3 c3 g4 c4:Nat} (h:CpInv w wr k tg tc rs wd now given births A P L ks) (hx:ks[k]?=some x) (bU:Below wr.heap.size wr U) (b3:Below U.heap.size U w3)
 (ho3:w3.ownsRow U.heap.size 9 1 (.slice (some ⟨g3,0,none⟩) x.refs.length c3) x.refs.length (x.refs.map Value.string)) (hg5:w3.grownBy w5 (some tg)) (ho5:w5.ownsRow (w.heap.size+3) 114 4 (.slice (some ⟨g4,0,none⟩) (k+1) c4) (k+1) (rowC kC ((ks.take k).zip rs)++kC (x,.slice (some ⟨g3,0,none⟩) x.refs.length c3)))
 (ha5:g4=tg∨w3.heap.size<=g4):CpInv w (w5.setCell ⟨w.heap.size+1+1,4,none⟩ (.slice (some ⟨g4,0,none⟩) (k+1) c4)) (k+1) g4 c4 (rs++[.slice (some ⟨g3,0,none⟩) x.refs.length c3]) wd now given births A P L ks:=by
 have hlt:=(List.getElem?_eq_some_iff.1 hx).1
 have htk:ks.take (k+1)=ks.take k++[x]:=by
  obtain ⟨_,rfl⟩:=List.getElem?_eq_some_iff.1 hx
  exact List.take_succ_eq_append_getElem hlt
 have htl:=own_lt h.things (g:=tg) rfl
 have l3:=own_lt ho3 (g:=g3) rfl
 have hzU:=bU.size
 have hz3:=b3.size
 have hob:=h.out.lt
 have hb13:Below wr.heap.size wr w3:=bU.trans (b3.mono hzU)
 have hst:∀b,b<w3.heap.size->b≠tg->b≠w.heap.size+1+1->(w5.setCell ⟨w.heap.size+1+1,4,none⟩ (.slice (some ⟨g4,0,none⟩) (k+1) c4)).heap[b]?=w3.heap[b]?:=fun b h1 h2 h3=>(Below.heap_setCell _ _ _ _ (by simpa using h3)).trans (hg5.block b h1 (fun e=>h2 (Option.some.inj e)))
 have hstr:∀b,b<wr.heap.size->b≠tg->b≠w.heap.size+1+1->(w5.setCell ⟨w.heap.size+1+1,4,none⟩ (.slice (some ⟨g4,0,none⟩) (k+1) c4)).heap[b]?=wr.heap[b]?:=fun b h1 h2 h3=>(hst b (by omega) h2 h3).trans (hb13.block b h1)
 have hkl:(ks.take k).length=k:=by rw [List.length_take];omega
 have rlt:∀r∈rs,∀g,r.ownBlock=some g->w.heap.size+3<=g/\g<wr.heap.size:=by
  intro r hr g hg
  obtain ⟨i,hi⟩:=List.getElem?_of_mem hr
  have hil:i<k:=by have:=(List.getElem?_eq_some_iff.1 hi).1;have:=h.len;omega
  exact own_lt (h.refs i _ r (List.getElem?_eq_getElem (by omega)) hi) hg
 have hnt:∀r∈rs,∀g,r.ownBlock=some g->g≠tg:=fun r hr g hg e=>(List.nodup_cons.1 h.nd).1 (e▸List.mem_filterMap.2 ⟨r,hr,hg⟩)
 refine ⟨?_,?_,?_,?_,by simp [h.len],?_,?_,?_,?_⟩
 ·have h1:CellsAt w5 (w.heap.size+1+1) _:=CellsAt.same (CellsAt.below h.out hb13) (hg5.block _ (by omega) (fun e=>by have:=Option.some.inj e;omega))
  exact CellsAt.set h1 4 _
 ·exact CellsAt.same h.res (hstr _ (by omega) (by omega) (by omega))
 ·exact SBox.same'' h.box (hstr _ (by omega) (by omega) (by omega)) (by simp;have:=hg5.size;omega)
 ·rw [htk,List.zip_append (by rw [hkl,h.len]),row_append]
  exact own_set ho5 (fun g hg=>by simp [Value.ownBlock] at hg;omega) 4 _
 ·intro i y r hy hr
  rw [htk] at hy
  have hrl:=h.len
  rcases Nat.lt_or_ge i k with hi|hi
  ·rw [List.getElem?_append_left (by omega)] at hy hr
   have hm:=List.mem_of_getElem? hr
   exact own_same (h.refs i y r hy hr) (fun g hg=>hstr g (rlt r hm g hg).2 (hnt r hm g hg) (by have:=(rlt r hm g hg).1;omega))
  ·have hik:i=k:=by have:=(List.getElem?_eq_some_iff.1 hr).1;simp at this;omega
   subst hik
   rw [List.getElem?_append_right (by omega),hkl,Nat.sub_self] at hy
   rw [List.getElem?_append_right (by omega),hrl,Nat.sub_self] at hr
   simp at hy hr
   subst hy
   subst hr
   exact own_same (World.ownsRow.mono ho3 (by omega)) (fun g hg=>by simp [Value.ownBlock] at hg;subst hg;exact hst _ l3.2 (by omega) (by omega))
 ·intro v hv
  rcases List.mem_append.1 hv with hv|hv
  ·exact h.all v hv
  ·simp at hv
   exact ⟨_,_,_,hv⟩
 ·rw [List.filterMap_append]
  have hfl:List.filterMap Value.ownBlock [Value.slice (some ⟨g3,0,none⟩) x.refs.length c3]=[g3]:=by simp [Value.ownBlock]
  rw [hfl]
  have hrs:∀b∈rs.filterMap Value.ownBlock,b<wr.heap.size:=fun b hb=>by obtain ⟨r,hr,hb⟩:=List.mem_filterMap.1 hb;exact (rlt r hr b hb).2
  have hnd:=List.nodup_cons.1 h.nd
  refine List.nodup_cons.2 ⟨?_,?_⟩
  ·intro hm
   rcases List.mem_append.1 hm with hm|hm
   ·rcases ha5 with rfl|ha
    ·exact hnd.1 hm
    ·have:=hrs _ hm;omega
   ·simp at hm
    have:=hg5.size
    rcases ha5 with ha|ha<;>omega
  ·refine List.nodup_append.2 ⟨hnd.2,by simp,fun a ha b hb e=> ?_⟩
   simp at hb
   have:=hrs a ha
   omega
 ·exact (((h.bel.trans (hb13.mono h.bel.size)).grown hg5 (by have:=h.bel.size;omega) (fun g hg=>by cases hg;omega))).setCell (by simp;omega) _
theorem wpList_append_ownO {P:Program} (w:World) {ops:Array Oper} {rest:List Oper} {o:Oper} {a:Act} {Q:Exit->Act->World->Prop} (hgd:o.guard=none) (s x:Operand) (t:TypeId)
 (ho:o.op=.call {callee:=.builtin .append,args:= #[s,x],argTypes:= #[t,t]})
 (base:Nat) (e:TypeId) (i:TypeInfo) (z:Value) (size bytes:Nat) (ht:P.underlying t=some (.slice e)) (hi:P.info? e=some i) (hz:i.zero=some z)
 (hsize:i.size=size) (hby:i.bytes=bytes) (hzs:z.cells.size=size) (hsz:0<size)
 (v:Value) (n:Nat) (xs:List Value) (hs:a.eval s=v) (hown:w.ownsRow base e size v n xs)
 (ad:Option Addr) (m c:Nat) (news:List Value) (hx:a.eval x=.slice ad m c) (hnil:ad=none->m=0/\c=0) (hl:news.length=m *size) (hnews:∀A,ad=some A->∀j u,news[j]?=some u->w.cell? (A.add j)=some u) (h1:∀u∈news,u.oneCell'=true)
 (h63:n+m<=maxLen) (hbytes:(n+m) *bytes<=140737488355328) (hbase:base<=w.heap.size)
 (h:∀v' w',w'.ownsRow base e size v' (n+m) (xs++news)->w.grownBy w' v.ownBlock->(v'=.slice none 0 0↔v=.slice none 0 0/\m=0)->(v'.ownBlock=v.ownBlock∨v'.ownBlock=some w.heap.size)->wpList P ops Q rest (a.put o.dst v') w'):
 wpList P ops Q (o::rest) a w:=by
 cases ad with
 |some A=>exact wpList_append_own_at w hgd s x t ho base e i z size bytes ht hi hz hsize hby hzs hsz v n xs hs hown A m c news hx hl (hnews A rfl) h1 h63 hbytes hbase h
 |none=>
  obtain ⟨rfl,rfl⟩:=hnil rfl
  have hn:news=[]:=List.eq_nil_of_length_eq_zero (by simpa using hl)
  subst hn
  have hr:(Builtin.append_ #[t,t] o.type #[v,.slice none 0 0]).run P w=.ok v w:=run_append_owned_none (P:=P) w base t o.type e i size ht hi v n xs hown
  exact wpList_append_run hgd s x t t ho hs hx hr (h v w (by simpa using hown) ⟨rfl,rfl,rfl,Nat.le_refl _,fun _ _ _=>rfl⟩ (by simp) (.inl rfl))
theorem PRow.cellsAt {w:World} {B:Nat} {a:Option Addr} {ps:List Pd} (h:PRow w B a ps) {A:Addr} (hA:a=some A):∀j u,(rowC pC ps)[j]?=some u->w.cell? (A.add j)=some u:=by
 rcases h with h|⟨b,off,e,hb,hc⟩
 ·subst h
  intro j u hu
  simp [rowC] at hu
 ·rw [e] at hA
  cases hA
  exact PRow.cellsV (B:=B) (.inr ⟨b,off,rfl,hb,hc⟩)
theorem LRow.cellsAt {w:World} {B:Nat} {a:Option Addr} {ls:List Ld} (h:LRow w B a ls) {A:Addr} (hA:a=some A):∀j u,(rowC lC ls)[j]?=some u->w.cell? (A.add j)=some u:=by
 rcases h with h|⟨b,off,e,hb,hc⟩
 ·subst h
  intro j u hu
  simp [rowC] at hu
 ·rw [e] at hA
  cases hA
  exact LRow.cellsV (B:=B) (.inr ⟨b,off,rfl,hb,hc⟩)
set_option maxRecDepth 20000 in
set_option maxHeartbeats 32000000 in
theorem l4Copy_opt (wd now given births:Int) (sa sp sl:Option Addr) (ac pc lc:Nat) (ks:List Kd) (ps:List Pd) (ls:List Ld) (w:World) (hrow:SRows w w.heap.size sa sp sl ks ps ls) (hsome:∀A,sa=some A->KSome w A ks) (hpn:sp=none->pc=0) (hln:sl=none->lc=0) (hk:ks.length<=600) (hp:ps.length<=100) (hl:ls.length<=200) (hr30:∀k∈ks,k.refs.length<=30):
 Calls Tryz.prog 43 #[.agg #[.int .i64 wd,.int .i64 now,.int .i64 given,.int .i64 births,.slice sa ks.length ac,.slice sp ps.length pc,.slice sl ls.length lc]] w fun e w'=>∃T P' L' rs,e=.returned (.agg #[.int .i64 wd,.int .i64 now,.int .i64 given,.int .i64 births,T,P',L'])/\SAns w' w.heap.size T P' L' rs ks ps ls/\(∀v∈T::P'::L'::rs,∃g n c,v=.slice (some ⟨g,0,none⟩) n c)/\Below w.heap.size w w':=by
 obtain ⟨W,hW⟩:∃W,W=(((w.alloc (.cells #[.int .i64 wd,.int .i64 now,.int .i64 given,.int .i64 births,.slice sa ks.length ac,.slice sp ps.length pc,.slice sl ls.length lc] 28)).alloc (.cells #[.int .i64 0,.int .i64 0,.int .i64 0,.int .i64 0,.slice none 0 0,.slice none 0 0,.slice none 0 0] 28)).alloc (.cells #[.int .i64 wd,.int .i64 now,.int .i64 given,.int .i64 births,.slice (some ⟨w.heap.size+1+1+1,0,none⟩) 0 0,.slice sp ps.length pc,.slice sl ls.length lc] 28)).alloc (.cells #[] 114):=⟨_,rfl⟩
 have hB:Below w.heap.size w W:=by rw [hW];exact ((((Below.refl _ _).alloc (Nat.le_refl _) _).alloc (by simp) _).alloc (by simp;omega) _).alloc (by simp;omega) _
 have hzW:W.heap.size=w.heap.size+4:=by rw [hW];simp
 have xW:SBox W w.heap.size wd now given births (.slice sa ks.length ac) (.slice sp ps.length pc) (.slice sl ls.length lc):=by rw [hW];exact ⟨by simp [go_sem],by simp [go_sem],by simp [go_sem],by simp [go_sem],by simp [go_sem],by simp [go_sem],by simp [go_sem],by simp;omega⟩
 have zR:CellsAt W (w.heap.size+1) z7:=by
  intro j v hv
  have hj:j<7:=(List.getElem?_eq_some_iff.1 hv).1
  rw [hW]
  rcases (show j=0∨j=1∨j=2∨j=3∨j=4∨j=5∨j=6 by omega) with rfl|rfl|rfl|rfl|rfl|rfl|rfl<;>(simp [z7] at hv;subst hv;simp [go_sem])
 have zO:CellsAt W (w.heap.size+1+1) [.int .i64 wd,.int .i64 now,.int .i64 given,.int .i64 births,.slice (some ⟨w.heap.size+1+1+1,0,none⟩) 0 0,.slice sp ps.length pc,.slice sl ls.length lc]:=by
  intro j v hv
  have hj:j<7:=(List.getElem?_eq_some_iff.1 hv).1
  rw [hW]
  rcases (show j=0∨j=1∨j=2∨j=3∨j=4∨j=5∨j=6 by omega) with rfl|rfl|rfl|rfl|rfl|rfl|rfl<;>(simp at hv;subst hv;simp [go_sem])
 have oT:W.ownsRow (w.heap.size+3) 114 4 (.slice (some ⟨w.heap.size+1+1+1,0,none⟩) 0 0) 0 (rowC kC []):=by
  have:=World.ownsRow_lit (base:=w.heap.size+3) (e:=114) (size:=4) (((w.alloc (.cells #[.int .i64 wd,.int .i64 now,.int .i64 given,.int .i64 births,.slice sa ks.length ac,.slice sp ps.length pc,.slice sl ls.length lc] 28)).alloc (.cells #[.int .i64 0,.int .i64 0,.int .i64 0,.int .i64 0,.slice none 0 0,.slice none 0 0,.slice none 0 0] 28)).alloc (.cells #[.int .i64 wd,.int .i64 now,.int .i64 given,.int .i64 births,.slice (some ⟨w.heap.size+1+1+1,0,none⟩) 0 0,.slice sp ps.length pc,.slice sl ls.length lc] 28)) #[] 0 (by simp) (by unfold maxLen;omega) rfl
  rw [←hW] at this
  simpa [rowC] using this
 have HROW:Hid _:=And.intro hrow hsome
 have HW:Hid _:=hW
 have HzW:Hid _:=hzW
 have H0:Hid _:=And.intro zO (And.intro zR (And.intro xW oT))
 clear hW hrow hsome zO zR xW oT hzW
 go_enter Tryz.func43,Tryz.ntmps43
 go_upto_region 3 with fail
 rw [←HW.out]
 clear HW
 go_wp2
 go_loopw [4] (fun i wr=>∃(k tg tc:Nat) (rs:List Value),k<=ks.length/\i=.int .i64 k/\Hid (CpInv w wr k tg tc rs wd now given births (.slice sa ks.length ac) (.slice sp ps.length pc) (.slice sl ls.length lc) ks)) (fun i _=>ks.length -(intOf i).toNat)
 case atStart=>exact ⟨0,w.heap.size+1+1+1,0,[],Nat.zero_le _,rfl,⟨H0.out.1,H0.out.2.1,H0.out.2.2.1,H0.out.2.2.2,rfl,(fun i x r hx=>by simp at hx),(fun v hv=>by simp at hv),(by simp),hB⟩⟩
 case round=>
  clear H0
  obtain ⟨k,tg,tc,rs,hkl,rfl,HI⟩:=hrel
  have hbel:=HI.out.bel
  have hzr:=hbel.size
  obtain ⟨x0,x1,x2,x3,x4,x5,x6,x7⟩:=HI.out.box
  by_cases hlt:k<ks.length
  ·obtain ⟨ab,ao,ha,hb,hc⟩:=(KRow.below HROW.out.1.k hbel).at hlt
   subst ha
   have HG:Hid (ks[k]?=some ks[k]):=List.getElem?_eq_getElem hlt
   obtain ⟨c0,c1,c2,ra,rc,c3,hra⟩:=hc k _ HG.out
   obtain ⟨ad,rc',hs⟩:=HROW.out.2 _ rfl k _ HG.out
   have hs':=(hbel.cell (p:=⟨ab,ao+k *4+3,none⟩) hb).trans hs
   rw [c3] at hs'
   cases hs'
   have hx30:=hr30 _ (List.getElem_mem hlt)
   have HXk:Hid (ks.take (k+1)=ks.take k++[ks[k]]):=List.take_succ_eq_append_getElem hlt
   have hbr:ab<wr.heap.size:=by omega
   have HRA:Hid _:=SRow.mono hra hzr
   clear hc hs hra
   generalize ks[k]=x at *
   obtain ⟨U,hU⟩:∃U,U=wr.alloc (.cells #[.string x.sum,.int .i64 x.born,.string x.text,.slice (some ad) x.refs.length rc] 114):=⟨_,rfl⟩
   have bU:Below wr.heap.size wr U:=by rw [hU];exact (Below.refl _ _).alloc (Nat.le_refl _) _
   have zU:U.heap.size=wr.heap.size+1:=by rw [hU];simp
   have KU:CellsAt U wr.heap.size [.string x.sum,.int .i64 x.born,.string x.text,.slice (some ad) x.refs.length rc]:=by rw [hU];exact CellsAt.new wr _ _
   obtain ⟨i0,hi,hz0,hz1,hz2⟩:=info_parts Tryz.infoKept
   have hq:=HzW.out
   have hzb:w.heap.size+4<=wr.heap.size∨True:=.inr trivial
   have hob:w.heap.size+1+1<wr.heap.size:=HI.out.out.lt
   have htl:=own_lt HI.out.things (g:=tg) rfl
   have HU:Hid _:=hU
   have SU:=CellsAt.below HI.out.out bU
   have u4:=(SU 4 _ rfl).1
   obtain ⟨k0,_⟩:=KU 0 _ rfl
   obtain ⟨k1,_⟩:=KU 1 _ rfl
   obtain ⟨k2,_⟩:=KU 2 _ rfl
   obtain ⟨k3,_⟩:=KU 3 _ rfl
   have oU:=own_below HI.out.things bU
   have HT:Hid _:=oU
   have HS:Hid _:=SU
   have HKU:Hid _:=KU
   have HbU:Hid _:=bU
   have HzU:Hid _:=zU
   have HR0:Hid (SRow U.drew U.drew.heap.size (some ad) x.refs):=SRow.mono (SRow.below HRA.out bU.drew) bU.size
   have hr3:x.refs.length<=100000:=by omega
   have hobn:¬w.heap.size+1+1=wr.heap.size:=by omega
   clear hU oU SU KU bU zU hq hzb
   go_upto_region 7 with fail
   rw [←HU.out]
   clear HU x0 x1 x2 x3 x4 x5 x6 x7 c0 c1 c2 c3
   go_region_law (first
    |(go_simp;go_at_call 73;refine (l1Thing_some x.text ad rc x.refs U.drew HR0.out hr3).mono ?_;rintro e w3 ⟨g3,c3,rfl,ho3,hb3⟩;have b3:Below U.heap.size U w3:=⟨hb3.os,hb3.tape,hb3.output,hb3.size,hb3.block⟩;have z3:=b3.size;have S3:=CellsAt.below HS.out b3;have n4:=(S3 4 _ rfl).1;obtain ⟨m0,_⟩:=CellsAt.below HKU.out b3 0 _ rfl;obtain ⟨m1,_⟩:=CellsAt.below HKU.out b3 1 _ rfl;have bA:Below w3.heap.size w3 (w3.alloc (.cells #[.string x.sum,.int .i64 x.born,.string x.text,.slice (some ⟨g3,0,none⟩) x.refs.length c3] 114)):=(Below.refl _ _).alloc (Nat.le_refl _) _;have a4:=(CellsAt.below S3 bA 4 _ rfl).1;have hq:=HzU.out;obtain ⟨v5,w5,hr5,ho5,hg5,_,ha5⟩:=run_append_own_at (P:=Tryz.prog) (w3.alloc (.cells #[.string x.sum,.int .i64 x.born,.string x.text,.slice (some ⟨g3,0,none⟩) x.refs.length c3] 114)) (w.heap.size+3) 24 24 114 i0 _ 4 64 Tryz.underlying24 hi hz0 hz1 hz2 rfl (by decide) _ k _ (own_below (own_below HT.out b3) bA) ⟨w3.heap.size,0,none⟩ 1 1 (kC (x,.slice (some ⟨g3,0,none⟩) x.refs.length c3)) rfl (kept_cells w3 x g3 c3) (kept_one x g3 c3) (by unfold maxLen;omega) (by omega) (by simp;omega);obtain ⟨g4,c4,rfl,hg4a,hg4b⟩:=own_form ho5 (own_nn ho5 (by omega));have lg3:=own_lt ho3 (g:=g3) rfl;have hg5':w3.grownBy w5 (some tg):=grown_trans (grown_below _ bA) hg5;have ha5':g4=tg∨w3.heap.size<=g4:=ha5.imp (fun e=>by simpa [Value.ownBlock] using e) (fun e=>by simp [Value.ownBlock] at e;omega);have hn5:w5.heap[w.heap.size+1+1]?=(w3.alloc (.cells #[.string x.sum,.int .i64 x.born,.string x.text,.slice (some ⟨g3,0,none⟩) x.refs.length c3] 114)).heap[w.heap.size+1+1]?:=hg5.block _ (by simp;omega) (by simp [Value.ownBlock];omega);have S5:=CellsAt.same (CellsAt.below S3 bA) hn5;have y5:=(S5 4 _ rfl).1;have f5:=(S5 4 _ rfl).2;clear hq;go_wp2_with fail)
    |(refine step_append_run (by rfl) (.tmp 22) (.tmp 31) 24 24 (by rfl) (by rfl) (by rfl) hr5 ?_))
   all_goals
    have HF:Hid (CpInv w _ (k+1) g4 c4 (rs++[.slice (some ⟨g3,0,none⟩) x.refs.length c3]) wd now given births (.slice (some ⟨ab,ao,none⟩) ks.length ac) (.slice sp ps.length pc) (.slice sl ls.length lc) ks):=CpInv.step HI.out HG.out HbU.out b3 ho3 hg5' ho5 ha5'
    clear ho3 hb3 b3 z3 S3 n4 m0 m1 bA a4 hr5 ho5 hg5 ha5 hg5' ha5' hg4a hg4b lg3 hn5 S5 y5 f5 u4 k0 k1 k2 k3
    go_wp2
    exact ⟨⟨k+1,g4,c4,rs++[.slice (some ⟨g3,0,none⟩) x.refs.length c3],by omega,by go_num,HF⟩,by simp [intOf];omega⟩
  ·obtain rfl:k=ks.length:=by omega
   have hI:=HI.out
   have htl:=own_lt hI.things (g:=tg) rfl
   have hob:=hI.out.lt
   obtain ⟨ip,hip,hp0,hp1,hp2⟩:=info_parts Tryz.infoPin
   obtain ⟨il,hil,hl0,hl1,hl2⟩:=info_parts Tryz.infoLease
   have bP:Below wr.heap.size wr (wr.alloc (.cells #[] 134)):=(Below.refl _ _).alloc (Nat.le_refl _) _
   have u5:=(hI.out 5 _ rfl)
   have hobn:¬w.heap.size+1+1=wr.heap.size:=by omega
   have hrp:PRow wr wr.heap.size sp ps:=PRow.mono (PRow.below HROW.out.1.p hbel) hzr
   have HRP:Hid _:=hrp
   have HPN:Hid (sp=none->ps.length=0):=fun e=>by
    rcases HROW.out.1.p with h|⟨q,o,h,_⟩
    ·rw [h];rfl
    ·rw [e] at h;cases h
   have HLN:Hid (sl=none->ls.length=0):=fun e=>by
    rcases HROW.out.1.l with h|⟨q,o,h,_⟩
    ·rw [h];rfl
    ·rw [e] at h;cases h
   clear hI x0 x1 x2 x3 hrp u5
   go_wp2_with (first
    |(at_builtin;refine wpList_append_ownO _ rfl _ _ 25 rfl (w.heap.size+3) 134 ip _ 2 32 Tryz.underlying25 hip hp0 hp1 hp2 rfl (by decide) _ 0 (rowC pC []) rfl ?d0 sp ps.length pc (rowC pC ps) rfl ?dn ?d1 ?d2 ?d3 ?d4 ?d5 ?d6 ?_)
    |go_in)
   case d0=>exact World.ownsRow_lit (base:=w.heap.size+3) (e:=134) (size:=2) wr #[] 0 (by omega) (by unfold maxLen;omega) rfl
   case dn=>exact fun e=>⟨HPN.out e,hpn e⟩
   case d1=>exact row_len pC_len ps
   case d2=>exact fun A hA=>PRow.cellsAt (PRow.below HRP.out bP) hA
   case d3=>exact oneP ps
   case d4=>unfold maxLen;omega
   case d5=>omega
   case d6=>simp;omega
   intro v1 w1 ho1 hg1 hn1 hap1
   obtain ⟨pg,pcx,rfl,hpg1,hpg2⟩:=own_form ho1 hn1
   rw [show rowC pC []=[] from rfl,List.nil_append] at ho1
   have b1:Below wr.heap.size wr w1:=bP.grown hg1 (by simp) (fun q hq=>by simp [Value.ownBlock] at hq;omega)
   have z1:=b1.size
   have S1:=CellsAt.below HI.out.out b1
   obtain ⟨s5,f5⟩:=S1 5 _ rfl
   obtain ⟨_,_,_,_,_,_,z6,_⟩:=SBox.below HI.out.box b1
   have hpg:wr.heap.size<=pg:=by
    rcases (own_lt ho1 (g:=pg) rfl) with ⟨h1,h2⟩
    have:=hg1
    rcases Nat.lt_or_ge pg wr.heap.size with h|h
    ·exfalso
     have hb:=b1.block pg h
     rcases ho1.2 with ⟨e,_⟩|⟨q,cq,cur,e,_,hq,_⟩
     ·cases e
     ·cases e
      exact absurd h (by rcases hap1 with hh|hh<;>simp [Value.ownBlock] at hh<;>omega)
    ·exact h
   have S2:=CellsAt.set S1 5 (.slice (some ⟨pg,0,none⟩) ps.length pcx)
   have W2s:(w1.setCell ⟨w.heap.size+1+1,5,none⟩ (.slice (some ⟨pg,0,none⟩) ps.length pcx)).heap.size=w1.heap.size:=by simp
   have hrl:LRow w1 w1.heap.size sl ls:=LRow.mono (LRow.below HROW.out.1.l (hbel.trans (b1.mono hzr))) (by omega)
   have bL:Below w1.heap.size w1 w1:=Below.refl _ _
   have HL2:Hid (∀A,sl=some A->∀j u,(rowC lC ls)[j]?=some u->((w1.setCell ⟨w.heap.size+1+1,5,none⟩ (.slice (some ⟨pg,0,none⟩) ps.length pcx)).alloc (.cells #[] 137)).cell? (A.add j)=some u):=by
    intro A hA j u hu
    rcases HROW.out.1.l with h|⟨lb,lo,e,hlt,_⟩
    ·subst h
     simp [rowC] at hu
    ·rw [e] at hA
     cases hA
     have h1:=LRow.cellsAt hrl e j u hu
     rw [Go.WideShapes.add_plain] at h1 ⊢
     rw [World.cell?_of_block (Below.heap_alloc _ _ _ (by simp;omega)),World.cell?_of_block (Below.heap_setCell _ _ _ _ (by simp;omega))]
     exact h1
   have HO1:Hid _:=ho1
   have HS2:Hid _:=S2
   have HB1:Hid _:=b1
   have hobn1:¬w.heap.size+1+1=w1.heap.size:=by omega
   have hobn2:¬w.heap.size=w.heap.size+1+1:=by omega
   clear ho1 hg1 hn1 b1 S1 S2 x5 x6 x4 hrl bL
   go_wp2_with (first
    |(at_builtin;refine wpList_append_ownO _ rfl _ _ 26 rfl (w.heap.size+3) 137 il _ 3 32 Tryz.underlying26 hil hl0 hl1 hl2 rfl (by decide) _ 0 (rowC lC []) rfl ?e0 sl ls.length lc (rowC lC ls) rfl ?en ?e1 ?e2 ?e3 ?e4 ?e5 ?e6 ?_)
    |go_in)
   case e0=>
    have:=World.ownsRow_lit (base:=w.heap.size+3) (e:=137) (size:=3) (w1.setCell ⟨w.heap.size+1+1,5,none⟩ (.slice (some ⟨pg,0,none⟩) ps.length pcx)) #[] 0 (by simp;omega) (by unfold maxLen;omega) rfl
    rw [W2s] at this
    exact this
   case en=>exact fun e=>⟨HLN.out e,hln e⟩
   case e1=>exact row_len lC_len ls
   case e2=>exact HL2.out
   case e3=>exact oneL ls
   case e4=>unfold maxLen;omega
   case e5=>omega
   case e6=>simp;omega
   intro v3 w3 ho3 hg3 hn3 hap3
   obtain ⟨lg,lcx,rfl,hlg1,hlg2⟩:=own_form ho3 hn3
   rw [show rowC lC []=[] from rfl,List.nil_append] at ho3
   have b3:Below w1.heap.size (w1.setCell ⟨w.heap.size+1+1,5,none⟩ (.slice (some ⟨pg,0,none⟩) ps.length pcx)) w3:=by
    have h0:Below w1.heap.size (w1.setCell ⟨w.heap.size+1+1,5,none⟩ (.slice (some ⟨pg,0,none⟩) ps.length pcx)) ((w1.setCell ⟨w.heap.size+1+1,5,none⟩ (.slice (some ⟨pg,0,none⟩) ps.length pcx)).alloc (.cells #[] 137)):=(Below.refl _ _).alloc (by simp) _
    exact h0.grown hg3 (by simp) (fun q hq=>by simp [Value.ownBlock] at hq;omega)
   have z3:w1.heap.size<=w3.heap.size:=by have:=b3.size;simpa using this
   have hlg:w1.heap.size<=lg:=by rcases hap3 with hh|hh<;>simp [Value.ownBlock] at hh<;>omega
   have hpgl:pg<w1.heap.size:=hpg2
   have S3:CellsAt w3 (w.heap.size+1+1) _:=CellsAt.same HS2.out (b3.block _ (by omega))
   have S4:=CellsAt.set S3 6 (.slice (some ⟨lg,0,none⟩) ls.length lcx)
   obtain ⟨r6,f6⟩:=S3 6 _ rfl
   have r0:=(S3 0 _ rfl).1
   have r1:=(S3 1 _ rfl).1
   have r2:=(S3 2 _ rfl).1
   have r3:=(S3 3 _ rfl).1
   have r4:=(S3 4 _ rfl).1
   have r5:=(S3 5 _ rfl).1
   have hst:∀q,q<wr.heap.size->q≠w.heap.size+1+1->w3.heap[q]?=wr.heap[q]?:=fun q h1 h2=>((b3.block q (by omega)).trans (Below.heap_setCell _ _ _ _ (by simpa using h2))).trans (HB1.out.block q h1)
   have R3:CellsAt w3 (w.heap.size+1) z7:=CellsAt.same HI.out.res (hst _ (by omega) (by omega))
   obtain ⟨⟨y0,q0⟩,⟨y1,q1⟩,⟨y2,q2⟩,⟨y3,q3⟩,⟨y4,q4⟩,⟨y5,q5⟩,y6,q6⟩:=z7at R3
   have hne12:¬w.heap.size+1+1=w.heap.size+1:=by omega
   have hpe:∀q,(Value.slice (some ⟨pg,0,none⟩) ps.length pcx).ownBlock=some q->pg=q:=fun q hq=>by simpa [Value.ownBlock] using hq
   have hP3:w3.ownsRow (w.heap.size+3) 134 2 (.slice (some ⟨pg,0,none⟩) ps.length pcx) ps.length (rowC pC ps):=own_same (own_set (b:=w.heap.size+1+1) HO1.out (fun q hq=>by have:=hpe q hq;omega) 5 (.slice (some ⟨pg,0,none⟩) ps.length pcx)) (fun q hq=>(hpe q hq)▸b3.block pg hpgl)
   have H3:Hid _:=And.intro ho3 (And.intro hP3 (And.intro hst (And.intro b3 (And.intro hlg (And.intro hpg z3)))))
   clear ho3 hg3 hn3 hap3 hP3 hst b3 S3 S4 R3 z6 s5 f5 HL2 HS2
   go_wp2
   obtain ⟨ho3,hP3,hst,b3,hlg,hpg,z3⟩:=H3.out
   have hX:∀q,q<w3.heap.size->q≠w.heap.size+1+1->q≠w.heap.size+1->(((((((((w3.setCell ⟨w.heap.size+1+1,6,none⟩ (.slice (some ⟨lg,0,none⟩) ls.length lcx)).setCell ⟨w.heap.size+1,0,none⟩ (.int .i64 wd)).setCell ⟨w.heap.size+1,1,none⟩ (.int .i64 now)).setCell ⟨w.heap.size+1,2,none⟩ (.int .i64 given)).setCell ⟨w.heap.size+1,3,none⟩ (.int .i64 births)).setCell ⟨w.heap.size+1,4,none⟩ (.slice (some ⟨tg,0,none⟩) ks.length tc)).setCell ⟨w.heap.size+1,5,none⟩ (.slice (some ⟨pg,0,none⟩) ps.length pcx)).setCell ⟨w.heap.size+1,6,none⟩ (.slice (some ⟨lg,0,none⟩) ls.length lcx))).heap[q]?=w3.heap[q]?:=fun q _ h2 h3=>by
    rw [Below.heap_setCell _ _ _ _ (by simpa using h3),Below.heap_setCell _ _ _ _ (by simpa using h3),Below.heap_setCell _ _ _ _ (by simpa using h3),Below.heap_setCell _ _ _ _ (by simpa using h3),Below.heap_setCell _ _ _ _ (by simpa using h3),Below.heap_setCell _ _ _ _ (by simpa using h3),Below.heap_setCell _ _ _ _ (by simpa using h3),Below.heap_setCell _ _ _ _ (by simpa using h2)]
   have htk:ks.take ks.length=ks:=List.take_of_length_le (Nat.le_refl _)
   have hTh:=HI.out.things
   have hRf:=HI.out.refs
   have hNd:=HI.out.nd
   have hLn:=HI.out.len
   rw [htk] at hTh hRf
   have hrs:∀r∈rs,∀q,r.ownBlock=some q->w.heap.size+3<=q/\q<wr.heap.size:=by
    intro r hr q hq
    obtain ⟨i,hi⟩:=List.getElem?_of_mem hr
    have hi2:=(List.getElem?_eq_some_iff.1 hi).1
    exact own_lt (hRf i ks[i] r (List.getElem?_eq_getElem (by omega)) hi) hq
   have hwX:∀q,q<wr.heap.size->w.heap.size+3<=q->_:=fun q h1 h2=>(hX q (by omega) (by omega) (by omega)).trans (hst q h1 (by omega))
   refine bodyPost_ret (v:=.agg #[.int .i64 wd,.int .i64 now,.int .i64 given,.int .i64 births,.slice (some ⟨tg,0,none⟩) ks.length tc,.slice (some ⟨pg,0,none⟩) ps.length pcx,.slice (some ⟨lg,0,none⟩) ls.length lcx]) (by simp [results,Tryz.results43,go_sem,y0,y1,y2,y3,y4,y5,y6]) rfl ⟨_,_,_,rs,rfl,⟨hLn,?_,?_,?_,?_,?_⟩,?_,?_⟩
   ·exact (own_same hTh (fun q hq=>by have e:tg=q:=by simpa [Value.ownBlock] using hq
                                      rw [←e];exact hwX tg htl.2 htl.1)).mono (by omega)
   ·intro i x r hx hr
    have hm:=List.mem_of_getElem? hr
    exact (own_same (hRf i x r hx hr) (fun q hq=>hwX q (hrs r hm q hq).2 (hrs r hm q hq).1)).mono (by omega)
   ·exact (own_same hP3 (fun q hq=>by have e:pg=q:=by simpa [Value.ownBlock] using hq
                                      rw [←e];exact hX pg (by omega) (by omega) (by omega))).mono (by omega)
   ·exact (own_same ho3 (fun q hq=>by have e:lg=q:=by simpa [Value.ownBlock] using hq
                                      rw [←e];exact hX lg hlg2 (by omega) (by omega))).mono (by omega)
   ·rw [blks_eq]
    unfold blks
    have hnd:=List.nodup_cons.1 hNd
    have hrb:∀q∈rs.filterMap Value.ownBlock,q<wr.heap.size:=fun q hq=>by obtain ⟨r,hr,hq⟩:=List.mem_filterMap.1 hq;exact (hrs r hr q hq).2
    simp only [Value.ownBlock,Option.toList_some,List.cons_append,List.nil_append,List.nodup_cons,List.mem_cons,not_or]
    refine ⟨⟨by omega,by omega,hnd.1⟩,⟨by omega,fun h=>by have:=hrb _ h;omega⟩,fun h=>by have:=hrb _ h;omega,hnd.2⟩
   ·intro v hv
    simp only [List.mem_cons] at hv
    rcases hv with rfl|rfl|rfl|hv
    ·exact ⟨_,_,_,rfl⟩
    ·exact ⟨_,_,_,rfl⟩
    ·exact ⟨_,_,_,rfl⟩
    ·exact HI.out.all v hv
   ·have h1:Below w.heap.size w w3:=by
     have h0:=hbel.trans (HB1.out.mono hzr)
     exact (h0.setCell (by simp;omega) _).trans (b3.mono (by omega))
    exact below_set7 (h1.setCell (p:=⟨w.heap.size+1+1,6,none⟩) (by simp;omega) _) (by omega) _ _ _ _ _ _ _
end Go.Proofs.YtpekbmegopfhfaaGreatDoor
