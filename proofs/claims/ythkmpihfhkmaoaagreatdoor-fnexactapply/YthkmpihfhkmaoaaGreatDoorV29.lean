import Derived.Test.YthkmpihfhkmaoaaGreatDoorV26
import Derived.Test.YthkmpihfhkmaoaaGreatDoorV28
import Derived.Test.YthkmpihfhkmaoaaGreatDoorV21
import Derived.Test.YthkmpihfhkmaoaaGreatDoorV27
import Derived.Test.YthkmpihfhkmaoaaGreatDoorV01
import Derived.Test.YthkmpihfhkmaoaaGreatDoorV19
namespace Go.Proofs.YthkmpihfhkmaoaaGreatDoor
open Go.ChangeShapes Go.WideShapes Go.ChangeAt Go.RowKit
theorem own_past2 {w w':World} {base:Nat} {e:TypeId} {size:Nat} {v:Value} {n:Nat} {xs:List Value} (h:w.ownsRow base e size v n xs) {q:Nat} (ht:Tn [q] w w') (hq:∀g,v.ownBlock=some g->g≠q):w'.ownsRow base e size v n xs:=
 own_same h (fun g hg=>ht.block g (own_lt h hg).2 (by simp;exact hq g hg))
section
variable (base:Nat) (wd now given births:Int) (b p l tc pc lc:Nat) (zs:List (Kd×Value)) (ps:List Pd) (ls:List Ld) (s nm text:ByteArray) (num:Int) (refs:List ByteArray) (ad:Addr) (rc:Nat) (w:World)
theorem l4Apply7 (h:CS w base b p l pc lc zs ps ls) (ha:AOk wd now given births (zs.map (·.1)) ps ls 7 num text refs):
 Calls Tryz.prog 36 #[.agg #[.int .i64 wd,.int .i64 now,.int .i64 given,.int .i64 births,.slice (some ⟨b,0,none⟩) zs.length tc,.slice (some ⟨p,0,none⟩) ps.length pc,.slice (some ⟨l,0,none⟩) ls.length lc],.agg #[.int .i64 7,.string s,.string nm,.int .i64 num,.string text,.slice (some ad) refs.length rc]] w (SAp l wd now given births (zs.map (·.1)) ps ls 7 s nm num text refs w):=by
 have hkl:(zs.map (·.1)).length<=600:=ha.kso.len;have hzl:zs.length<=600:=by rwa[List.length_map] at hkl
 by_cases hth:There (zs.map (·.1)) s
 ·refine l4Apply_drop wd now given births (some ⟨b,0,none⟩) (some ⟨p,0,none⟩) (some ⟨l,0,none⟩) zs.length tc ps.length pc ls.length lc s nm text num (some ad) refs.length rc w [] (fun X e w'=>Dropped X w' e wd now given births (.slice (some ⟨p,0,none⟩) ps.length pc) (.slice (some ⟨l,0,none⟩) ls.length lc) zs ps ls s) _ (by simp) (fun X hX _=>l4Drop_any wd now given births b 0 tc pc lc (some ⟨p,0,none⟩) (some ⟨l,0,none⟩) zs ps ls s X (h.at hX).1 (h.at hX).2.1 (h.at hX).2.2.1 (h.at hX).2.2.2 hzl ha.np ha.nl (fun z hz=>(ha.kso.refs z.1 (List.mem_map.2 ⟨z,hz,rfl⟩)).1) hth) ?_ ?_
  ·rintro X e w' ⟨hb,⟨_,rfl⟩|⟨_,g,c,rfl,_⟩⟩
   ·exact⟨Tn.of hb,_,_,_,_,_,_,_,_,_,_,_,_,_,_,_,_,_,_,rfl⟩
   ·exact⟨Tn.of hb,_,_,_,_,_,_,_,_,_,_,_,_,_,_,_,_,_,_,rfl⟩
  ·rintro X e w' w'' hX hz ⟨hb,⟨huse,rfl⟩|⟨hfree,g,c,rfl,hzr,hg1,hg2⟩⟩ ht
   ·exact⟨Tn.of (below_past hX hb ht),.inl ⟨6,_,_,.inr ⟨rfl,rfl,.inr (.inr (.inr (.inr (.inr ⟨rfl,.inr ⟨hth,huse,rfl⟩⟩))))⟩,rfl⟩⟩
   ·have hB:=below_past hX hb ht
    have hc:=h.at hB;have hz2:ZRow w'' g 0 (dropZ zs s):=hzr.turn ht hg2 (by simp;omega) (fun z hz a n c e2 e3 hin=>by
     simp at hin;have:=h.z.refs_lt (List.mem_filter.1 hz).1 e2 e3;omega)
    exact⟨Tn.of hB,.inr ⟨⟨⟨#[]⟩,0,now,given,births,dropK (zs.map (·.1)) s,ps,ls⟩,g,c,dropZ zs s,p,pc,l,lc,.inr (.inr (.inr (.inr (.inr (.inr ⟨rfl,hth,hfree,rfl⟩))))),by simp[←dropZ_map],dropZ_map zs s,hz2,Nat.lt_of_lt_of_le hg2 ht.size,hc.2.2.1,hc.2.2.2⟩⟩
 ·refine l4Apply_drop wd now given births (some ⟨b,0,none⟩) (some ⟨p,0,none⟩) (some ⟨l,0,none⟩) zs.length tc ps.length pc ls.length lc s nm text num (some ad) refs.length rc w [] (fun X e w'=>e=.returned (.agg (refC 2 ⟨#[]⟩ ⟨#[]⟩).toArray)/\Below X.heap.size X w') _ (by simp) (fun X hX _=> ?_) ?_ ?_
  ·have h1:=l4Drop_missing wd now given births (some ⟨b,0,none⟩) (some ⟨p,0,none⟩) (some ⟨l,0,none⟩) tc ps.length pc ls.length lc (zs.map (·.1)) s X ((h.at hX).1.krow (h.at hX).2.1) (by omega) hth
   rw[List.length_map] at h1;exact h1
  ·rintro X e w' ⟨rfl,hb⟩
   exact⟨Tn.of hb,_,_,_,_,_,_,_,_,_,_,_,_,_,_,_,_,_,_,rfl⟩
  ·rintro X e w' w'' hX hz ⟨rfl,hb⟩ ht
   exact⟨Tn.of (below_past hX hb ht),.inl ⟨2,_,_,.inr ⟨rfl,rfl,.inr (.inr (.inr (.inr (.inr ⟨rfl,.inl ⟨hth,rfl⟩⟩))))⟩,rfl⟩⟩
theorem l4Apply1 (h:CS w base b p l pc lc zs ps ls) (ha:AOk wd now given births (zs.map (·.1)) ps ls 1 num text refs) (hr:SRow w w.heap.size (some ad) refs):
 Calls Tryz.prog 36 #[.agg #[.int .i64 wd,.int .i64 now,.int .i64 given,.int .i64 births,.slice (some ⟨b,0,none⟩) zs.length tc,.slice (some ⟨p,0,none⟩) ps.length pc,.slice (some ⟨l,0,none⟩) ls.length lc],.agg #[.int .i64 1,.string s,.string nm,.int .i64 num,.string text,.slice (some ad) refs.length rc]] w (SAp l wd now given births (zs.map (·.1)) ps ls 1 s nm num text refs w):=by
 have hlb:=own_lt h.lo (g:=l) rfl
 refine l4Apply_put wd now given births (some ⟨b,0,none⟩) (some ⟨p,0,none⟩) (some ⟨l,0,none⟩) zs.length tc ps.length pc ls.length lc s nm text num (some ad) refs.length rc w [l] (fun X e w'=>PutS base b wd now given births num zs (.slice (some ⟨p,0,none⟩) ps.length pc) (.slice (some ⟨l,0,none⟩) ls.length lc) ls text refs X e w') _ (by simp;exact hlb.2) (fun X hX _=>l4Put_any base wd now given births 1 num b tc zs (some ⟨p,0,none⟩) (some ⟨l,0,none⟩) ps.length pc lc ls s nm text refs ad rc X ⟨(h.at hX).1,(h.at hX).2.1,own_below h.lo hX,Nat.le_trans h.lb hX.size,by simp[Value.ownBlock];exact h.bL,fun z hz a n c e _=>by simp[Value.ownBlock];exact h.zL z hz a n c e,SRow.mono (SRow.below hr hX) hX.size,ha.kso,ha.w1,fun z hz=>ha.txt z.1 (List.mem_map.2 ⟨z,hz,rfl⟩),ha.txl,ha.rfn,ha.births0,ha.births1,ha.given0,ha.given1,ha.now0,ha.now1,ha.num0,ha.num1,ha.nl⟩) ?_ ?_
 ·rintro X e w' ⟨ht,⟨c,a,b',_,rfl⟩|⟨ks1,births1,g,gc,zs1,g2,c2,_,_,_,_,rfl,_⟩⟩
  ·exact⟨ht,_,_,_,_,_,_,_,_,_,_,_,_,_,_,_,_,_,_,rfl⟩
  ·exact⟨ht,_,_,_,_,_,_,_,_,_,_,_,_,_,_,_,_,_,_,rfl⟩
 ·rintro X e w' w'' hX hz ⟨ht1,hQ⟩ ht
  have ht1':Tn [l] X w':=ht1;have hB:Tn [l] w w'':=Tn.fresh ((Tn.of hX).trans ht1') ht (by omega);rcases hQ with⟨c,a,b',hno,rfl⟩|⟨ks1,births1,g,gc,zs1,g2,c2,hall,hyes,hl2,hg2,rfl,hm,hzr,hgl,hgo,hzo,hko,ho⟩
  ·exact⟨hB,.inl ⟨c,a,b',.inl ⟨rfl,hno⟩,rfl⟩⟩
  ·have hg3:g≠w.heap.size+2:=by have:=h.bl;rcases hgo with e|e<;>omega
   have hz2:ZRow w'' g 0 zs1:=hzr.turn ht hgl (by simp;exact hg3) (fun z hz a n c e2 e3 hin=>by
    simp at hin;rcases hzo z hz with hz'|⟨ad',n',rc',e',hlt⟩
    ·have:=h.z.refs_lt hz' e2 e3
     omega
    ·rw[e2] at e'
     cases e';omega)
   have hg4:g2≠w.heap.size+2:=by
    rcases hko with e|e
    ·have:l=g2:=by simpa [Value.ownBlock] using e
     omega
    ·omega
   have hl3:=own_past2 ho ht (by intro q hq;have:g2=q:=by simpa [Value.ownBlock] using hq
                                 omega)
   have hp2:PRow w'' w''.heap.size (some ⟨p,0,none⟩) ps:=by
    have hpw:=own_lt h.po (g:=p) rfl;have h1:=own_below h.po hX
    have h2:=own_same h1 (w':=w') (fun q hq=>ht1'.block q (own_lt h1 hq).2 (by have:p=q:=by simpa [Value.ownBlock] using hq
                                                                               have:=h.pL;simp;omega))
    exact PRow.own (own_past2 h2 ht (by intro q hq;have:p=q:=by simpa [Value.ownBlock] using hq
                                        omega))
   have h4:w''.ownsRow base 131 3 (.slice (some ⟨g2,0,none⟩) (ls++[(⟨given+1,sumT text refs wd,now+num⟩:Ld)]).length c2) (ls++[(⟨given+1,sumT text refs wd,now+num⟩:Ld)]).length (rowC lC (ls++[(⟨given+1,sumT text refs wd,now+num⟩:Ld)])):=by
    rw[List.length_append] at hl3 ⊢;exact hl3
   exact⟨hB,.inr ⟨⟨sumT text refs wd,given+1,now,given+1,births1,ks1,ps,ls++[⟨given+1,sumT text refs wd,now+num⟩]⟩,g,gc,zs1,p,pc,g2,c2,.inl ⟨rfl,hall,hl2,hg2,ks1,births1,hyes,rfl⟩,by simp[←hm],hm,hz2,Nat.lt_of_lt_of_le hgl ht.size,hp2,LRow.own h4⟩⟩
theorem l4Apply_any (kd:Int) (h:CS w base b p l pc lc zs ps ls) (ha:AOk wd now given births (zs.map (·.1)) ps ls kd num text refs) (h30:∀k∈zs.map (·.1),k.refs.length<=30) (hr:SRow w w.heap.size (some ad) refs):
 Calls Tryz.prog 36 #[.agg #[.int .i64 wd,.int .i64 now,.int .i64 given,.int .i64 births,.slice (some ⟨b,0,none⟩) zs.length tc,.slice (some ⟨p,0,none⟩) ps.length pc,.slice (some ⟨l,0,none⟩) ls.length lc],.agg #[.int .i64 kd,.string s,.string nm,.int .i64 num,.string text,.slice (some ad) refs.length rc]] w (SAp l wd now given births (zs.map (·.1)) ps ls kd s nm num text refs w):=by
 obtain rfl|rfl|rfl|rfl|rfl|rfl|rfl:kd=1∨kd=2∨kd=3∨kd=4∨kd=5∨kd=6∨kd=7:=by have:=ha.kd1;have:=ha.kd7;omega
 ·exact l4Apply1 base wd now given births b p l tc pc lc zs ps ls s nm text num refs ad rc w h ha hr
 ·exact l4Apply2 base wd now given births b p l tc pc lc zs ps ls s nm text num refs ad rc w h ha
 ·exact l4Apply3 base wd now given births b p l tc pc lc zs ps ls s nm text num refs ad rc w h ha
 ·exact l4Apply4 base wd now given births b p l tc pc lc zs ps ls s nm text num refs ad rc w h ha h30
 ·exact l4Apply5 base wd now given births b p l tc pc lc zs ps ls s nm text num refs ad rc w h ha
 ·exact l4Apply6 base wd now given births b p l tc pc lc zs ps ls s nm text num refs ad rc w h ha
 ·exact l4Apply7 base wd now given births b p l tc pc lc zs ps ls s nm text num refs ad rc w h ha
end
end Go.Proofs.YthkmpihfhkmaoaaGreatDoor
namespace Go.Proofs.YthkmpihfhkmaoaaGreatDoor
open Go.ChangeShapes Go.WideShapes Go.ChangeAt Go.RowKit
theorem z12_str {j:Nat} {s:ByteArray} (h:z12[j]?=some (.string s)):s=⟨#[]⟩:=by
 have:=List.mem_of_getElem? h;simpa [z12] using this
theorem box_cell {w:World} {o:Nat} {t:TypeId} {fr:Nat×Nat} (h:w.heap[o]?=some (.cells z12.toArray t fr)) (j:Nat):w.cell? ⟨o,j,none⟩=z12[j]?:=by
 simp[World.cell?,h]
theorem ZRow.past {w w':World} {b o:Nat} {t:TypeId} {fr:Nat×Nat} {zs:List (Kd×Value)} (h:ZRow w b 0 zs) (ho:w.heap[o]?=Option.some (.cells z12.toArray t fr)) (hne:∀z∈zs,∀s∈z.1.refs,s≠⟨#[]⟩) (ht:Tn [o] w w') (hbl:b<w.heap.size):ZRow w' b 0 zs:=by
 cases hzs:zs with
 |nil=>intro i z hz;simp at hz
 |cons z0 zs0=>
  rw[←hzs];have hb:b≠o:=by
   rintro rfl;obtain⟨⟨h0,_⟩,_⟩:=h 0 z0 (by rw[hzs];rfl);rw[Nat.zero_mul,Nat.add_zero,box_cell ho] at h0;simp[z12] at h0
  refine h.turn ht hbl (by simpa using hb) (fun z hz ad n rc e hr hin=> ?_);obtain⟨i,hi⟩:=List.getElem?_of_mem hz;obtain⟨_,ad',rc',h4,h5⟩:=h i z hi;rw[e] at h4;cases h4;rcases h5 with h5|⟨b',off',e',_,hc⟩
  ·exact hr h5
  ·cases e'
   simp at hin;subst hin;obtain⟨r,rs,hrs⟩:∃r rs,z.1.refs=r::rs:=List.exists_cons_of_ne_nil hr;have h1:=hc 0 r (by rw[hrs];rfl);rw[box_cell ho] at h1;exact hne z hz r (by rw[hrs];simp) (z12_str h1)
theorem PRow.past {w w':World} {p o:Nat} {t:TypeId} {fr:Nat×Nat} {ps:List Pd} (h:PRow w w.heap.size (some ⟨p,0,none⟩) ps) (ho:w.heap[o]?=some (.cells z12.toArray t fr)) (ht:Tn [o] w w'):PRow w' w'.heap.size (some ⟨p,0,none⟩) ps:=by
 rcases h with h|⟨b,off,e,hlt,hc⟩
 ·exact .inl h
 ·cases e
  cases ps with
  |nil=>exact .inl rfl
  |cons x xs=>
   have hp:p≠o:=by
    rintro rfl;have h0:=(hc 0 x rfl).1;rw[Nat.zero_mul,Nat.add_zero,box_cell ho] at h0;simp[z12] at h0
   have hs:∀j,w'.cell? ⟨p,j,none⟩=w.cell? ⟨p,j,none⟩:=fun j=>World.cell?_of_block (a:=⟨p,j,none⟩) (ht.block p hlt (by simpa using hp));exact .inr ⟨p,0,rfl,Nat.lt_of_lt_of_le hlt ht.size,fun i q hq=>⟨(hs _).trans (hc i q hq).1,(hs _).trans (hc i q hq).2⟩⟩
theorem LRow.past {w w':World} {p o:Nat} {t:TypeId} {fr:Nat×Nat} {ls:List Ld} (h:LRow w w.heap.size (some ⟨p,0,none⟩) ls) (ho:w.heap[o]?=some (.cells z12.toArray t fr)) (ht:Tn [o] w w'):LRow w' w'.heap.size (some ⟨p,0,none⟩) ls:=by
 rcases h with h|⟨b,off,e,hlt,hc⟩
 ·exact .inl h
 ·cases e
  cases ls with
  |nil=>exact .inl rfl
  |cons x xs=>
   have hp:p≠o:=by
    rintro rfl;have h0:=(hc 0 x rfl).2.1;rw[Nat.zero_mul,Nat.add_zero,box_cell ho] at h0;simp[z12] at h0
   have hs:∀j,w'.cell? ⟨p,j,none⟩=w.cell? ⟨p,j,none⟩:=fun j=>World.cell?_of_block (a:=⟨p,j,none⟩) (ht.block p hlt (by simpa using hp));exact .inr ⟨p,0,rfl,Nat.lt_of_lt_of_le hlt ht.size,fun i q hq=>⟨(hs _).trans (hc i q hq).1,(hs _).trans (hc i q hq).2.1,(hs _).trans (hc i q hq).2.2⟩⟩
theorem CS.of {w:World} {base:Nat} {T P L:Value} {rs:List Value} {ks:List Kd} {ps:List Pd} {ls:List Ld} (hS:SAns w base T P L rs ks ps ls) (hv:∀v∈T::P::L::rs,∃g n c,v=.slice (some ⟨g,0,none⟩) n c) (hb:base<=w.heap.size):
 ∃b p l tc pc lc zs,T=.slice (some ⟨b,0,none⟩) zs.length tc/\P=.slice (some ⟨p,0,none⟩) ps.length pc/\L=.slice (some ⟨l,0,none⟩) ls.length lc/\zs.map (·.1)=ks/\CS w base b p l pc lc zs ps ls/\base<=l:=by
 obtain⟨b,n1,tc,rfl⟩:=hv T (by simp);obtain⟨p,n2,pc,rfl⟩:=hv P (by simp);obtain⟨l,n3,lc,rfl⟩:=hv L (by simp);obtain⟨_,_,e1⟩:=own_val hS.things;obtain⟨_,_,e2⟩:=own_val hS.pins;obtain⟨_,_,e3⟩:=own_val hS.leases;cases e1;cases e2;cases e3;have hlen:(ks.zip rs).length=ks.length:=by rw[List.length_zip,hS.len];omega
 have hmap:(ks.zip rs).map (·.1)=ks:=List.map_fst_zip (by rw[hS.len];exact Nat.le_refl _);have hnd:=hS.nd;rw[blks_eq] at hnd;unfold blks at hnd;obtain⟨n1,n2,n3⟩:=nd_apart hnd (l:=l) rfl;have hth:=hS.things;rw[←hlen] at hth;have hzz:∀z∈ks.zip rs,∃i,ks[i]?=some z.1/\rs[i]?=some z.2:=fun z hz=>by
  obtain⟨i,hi⟩:=List.getElem?_of_mem hz;rw[List.getElem?_zip_eq_some] at hi;exact⟨i,hi.1,hi.2⟩
 refine⟨b,p,l,tc,pc,lc,ks.zip rs,by rw[hlen],rfl,rfl,hmap,⟨?_,(own_lt hS.things rfl).2,hS.pins,hS.leases,hb,?_,?_,?_⟩,(own_lt hS.leases rfl).1⟩
 ·refine ZRow.own hth (fun z hz=> ?_)
  obtain⟨i,h1,h2⟩:=hzz z hz;have hr:=hS.refs i z.1 z.2 h1 h2;obtain⟨g',n',c',e'⟩:=hv z.2 (by simp;exact .inr (.inr (.inr (List.mem_of_getElem? h2))));obtain⟨a',c'',e''⟩:=own_val hr;rw[e'] at e'';cases e'';rw[e'] at hr;exact⟨⟨g',0,none⟩,c',e',SRow.own hr⟩
 ·intro e
  exact n1 (by simp[Value.ownBlock,e])
 ·intro e
  exact n2 (by simp[Value.ownBlock,e])
 ·intro z hz ad n rc e hin
  obtain⟨i,h1,h2⟩:=hzz z hz;refine n3 (List.mem_filterMap.2 ⟨z.2,List.mem_of_getElem? h2,?_⟩);rw[e];simp[Value.ownBlock,hin]
end Go.Proofs.YthkmpihfhkmaoaaGreatDoor
namespace Go.Proofs.YthkmpihfhkmaoaaGreatDoor
open Go.ChangeShapes Go.WideShapes Go.ChangeAt Go.RowKit
def SAQ (wd now given births:Int) (ks:List Kd) (ps:List Pd) (ls:List Ld) (kd:Int) (s nm:ByteArray) (num:Int) (text:ByteArray) (refs:List ByteArray) (e:Ending) (w':World):Prop:=
 (∃c a b,ANo wd now given births ks ps ls kd s nm num text refs c a b/\e=.returned (.agg (refC c a b).toArray))∨
 (∃r b1 tc1 zs1 p1 pc1 l1 lc1,AYes wd now given births ks ps ls kd s nm num text refs r/\e=.returned (.agg #[.int .i64 0,.int .i64 wd,.int .i64 r.now,.int .i64 r.given,.int .i64 r.births,.slice (some ⟨b1,0,none⟩) r.ks.length tc1,.slice (some ⟨p1,0,none⟩) r.ps.length pc1,.slice (some ⟨l1,0,none⟩) r.ls.length lc1,.string r.sm,.int .i64 r.le,.string ⟨#[]⟩,.string ⟨#[]⟩])/\zs1.map (·.1)=r.ks/\ZRow w' b1 0 zs1/\b1<w'.heap.size/\PRow w' w'.heap.size (some ⟨p1,0,none⟩) r.ps/\LRow w' w'.heap.size (some ⟨l1,0,none⟩) r.ls)
theorem SAp.q {l0:Nat} {wd now given births:Int} {ks:List Kd} {ps:List Pd} {ls:List Ld} {kd:Int} {s nm:ByteArray} {num:Int} {text:ByteArray} {refs:List ByteArray} {w w':World} {e:Ending} (h:SAp l0 wd now given births ks ps ls kd s nm num text refs w e w'):SAQ wd now given births ks ps ls kd s nm num text refs e w':=h.2
theorem SAQ.form {wd now given births:Int} {ks:List Kd} {ps:List Pd} {ls:List Ld} {kd:Int} {s nm:ByteArray} {num:Int} {text:ByteArray} {refs:List ByteArray} {w':World} {e:Ending} (h:SAQ wd now given births ks ps ls kd s nm num text refs e w'):∃(c0 c1 c2 c3 c4:Int) (ta':Option Addr) (tn' tc':Nat) (pa':Option Addr) (pn' pc':Nat) (la':Option Addr) (ln' lc':Nat) (sm':ByteArray) (le':Int) (a' b':ByteArray),e=.returned (.agg #[.int .i64 c0,.int .i64 c1,.int .i64 c2,.int .i64 c3,.int .i64 c4,.slice ta' tn' tc',.slice pa' pn' pc',.slice la' ln' lc',.string sm',.int .i64 le',.string a',.string b']):=by
 rcases h with⟨c,a,b,_,rfl⟩|⟨r,b1,tc1,zs1,p1,pc1,l1,lc1,_,rfl,_⟩
 ·exact⟨_,_,_,_,_,_,_,_,_,_,_,_,_,_,_,_,_,_,rfl⟩
 ·exact⟨_,_,_,_,_,_,_,_,_,_,_,_,_,_,_,_,_,_,rfl⟩
theorem SAQ.below {wd now given births:Int} {ks:List Kd} {ps:List Pd} {ls:List Ld} {kd:Int} {s nm:ByteArray} {num:Int} {text:ByteArray} {refs:List ByteArray} {w' w'':World} {e:Ending} (h:SAQ wd now given births ks ps ls kd s nm num text refs e w') (hb:Below w'.heap.size w' w''):SAQ wd now given births ks ps ls kd s nm num text refs e w'':=by
 rcases h with h|⟨r,b1,tc1,zs1,p1,pc1,l1,lc1,h1,h2,h3,h4,h5,h6,h7⟩
 ·exact .inl h
 ·exact .inr ⟨r,b1,tc1,zs1,p1,pc1,l1,lc1,h1,h2,h3,h4.below hb h5,Nat.lt_of_lt_of_le h5 hb.size,PRow.mono (PRow.below h6 hb) hb.size,LRow.mono (LRow.below h7 hb) hb.size⟩
theorem SAQ.past {wd now given births:Int} {ks:List Kd} {ps:List Pd} {ls:List Ld} {kd:Int} {s nm:ByteArray} {num:Int} {text:ByteArray} {refs:List ByteArray} {w' w'':World} {e:Ending} {o:Nat} {t:TypeId} {fr:Nat×Nat} (h:SAQ wd now given births ks ps ls kd s nm num text refs e w') (ho:w'.heap[o]?=some (.cells z12.toArray t fr)) (hne:∀r,AYes wd now given births ks ps ls kd s nm num text refs r->∀k∈r.ks,∀s∈k.refs,s≠⟨#[]⟩) (ht:Tn [o] w' w''):SAQ wd now given births ks ps ls kd s nm num text refs e w'':=by
 rcases h with h|⟨r,b1,tc1,zs1,p1,pc1,l1,lc1,h1,h2,h3,h4,h5,h6,h7⟩
 ·exact .inl h
 ·exact .inr ⟨r,b1,tc1,zs1,p1,pc1,l1,lc1,h1,h2,h3,h4.past ho (fun z hz=>hne r h1 z.1 (by rw[←h3];exact List.mem_map.2 ⟨z,hz,rfl⟩)) ht h5,Nat.lt_of_lt_of_le h5 ht.size,h6.past ho ht,h7.past ho ht⟩
theorem CS.below {w w':World} {base b p l pc lc:Nat} {zs:List (Kd×Value)} {ps:List Pd} {ls:List Ld} (h:CS w base b p l pc lc zs ps ls) (hb:Below w.heap.size w w'):CS w' base b p l pc lc zs ps ls:=
 ⟨h.z.below hb h.bl,Nat.lt_of_lt_of_le h.bl hb.size,own_below h.po hb,own_below h.lo hb,Nat.le_trans h.lb hb.size,h.bL,h.pL,h.zL⟩
theorem AYes.refs_ne {wd now given births:Int} {ks:List Kd} {ps:List Pd} {ls:List Ld} {kd:Int} {s nm:ByteArray} {num:Int} {text:ByteArray} {refs:List ByteArray} (h:StateOk wd now given births ks ps ls) (he:okE kd s nm num text refs wd=true) {r:Rs} (hy:AYes wd now given births ks ps ls kd s nm num text refs r):∀k∈r.ks,∀x∈k.refs,x≠⟨#[]⟩:=by
 have h0:∀{t:ByteArray} {rs:List ByteArray},ThingOk t rs wd->∀x∈rs,x≠⟨#[]⟩:=fun ht x hx e=>by
  obtain⟨i,hi⟩:=List.getElem?_of_mem hx;have:=ht.size hi;rw[e] at this;have h1:=ht.lo;have h2:((⟨#[]⟩:ByteArray).size:Int)=0:=rfl;omega
 have hk:∀k∈ks,∀x∈k.refs,x≠⟨#[]⟩:=fun k hk=>h0 (h.things k hk);rcases hy with⟨rfl,_,_,_,ks1,b1,hy,rfl⟩|⟨_,_,_,rfl⟩|⟨_,_,rfl⟩|⟨_,_,_,_,rfl⟩|⟨_,_,rfl⟩|⟨_,_,rfl⟩|⟨_,_,_,rfl⟩
 ·rcases hy with⟨_,_,_,_,rfl,rfl⟩|⟨_,_,_,rfl,rfl⟩
  ·exact hk
  ·intro k hkk
   rcases List.mem_append.1 (insK_mem.1 hkk) with hkk|hkk
   ·exact hk k hkk
   ·simp at hkk
    subst hkk;exact h0 (okThing_parts ((okE_parts he).2.2.thing rfl))
 ·exact hk
 ·exact hk
 ·exact hk
 ·exact hk
 ·exact hk
 ·exact fun k hkk=>hk k (List.mem_filter.1 hkk).1
set_option maxRecDepth 20000 in
set_option maxHeartbeats 16000000 in
theorem sApply_any (wd now given births:Int) (ab pb lb ac pc lc:Nat) (ks:List Kd) (ps:List Pd) (ls:List Ld) (kd:Int) (s nm:ByteArray) (num:Int) (text:ByteArray) (refs:List ByteArray) (ad:Addr) (rc:Nat) (w:World) (hrow:SRows w w.heap.size (some ⟨ab,0,none⟩) (some ⟨pb,0,none⟩) (some ⟨lb,0,none⟩) ks ps ls) (hsome:∀X,Below w.heap.size w X->KSome X ⟨ab,0,none⟩ ks) (hk:KMem ks) (hp:PMem ps) (hf:SFit ks ps ls) (hr:SRow w w.heap.size (some ad) refs) (hrl:refs.length<=1048576) (htl:text.size<=maxLen) (hnl:nm.size<=maxLen):
 Calls Tryz.prog 8 #[.agg #[.int .i64 wd,.int .i64 now,.int .i64 given,.int .i64 births,.slice (some ⟨ab,0,none⟩) ks.length ac,.slice (some ⟨pb,0,none⟩) ps.length pc,.slice (some ⟨lb,0,none⟩) ls.length lc],.agg #[.int .i64 kd,.string s,.string nm,.int .i64 num,.string text,.slice (some ad) refs.length rc]] w (IApp wd now given births ks ps ls kd s nm num text refs w):=by
 obtain⟨W,hW⟩:∃W,W=((w.alloc (.cells #[.int .i64 wd,.int .i64 now,.int .i64 given,.int .i64 births,.slice (some ⟨ab,0,none⟩) ks.length ac,.slice (some ⟨pb,0,none⟩) ps.length pc,.slice (some ⟨lb,0,none⟩) ls.length lc] 38)).alloc (.cells #[.int .i64 kd,.string s,.string nm,.int .i64 num,.string text,.slice (some ad) refs.length rc] 45)).alloc (.cells #[.int .i64 0,.int .i64 0,.int .i64 0,.int .i64 0,.int .i64 0,.slice none 0 0,.slice none 0 0,.slice none 0 0,.string ⟨#[]⟩,.int .i64 0,.string ⟨#[]⟩,.string ⟨#[]⟩] 40):=⟨_,rfl⟩
 have bW:Below w.heap.size w W:=by rw[hW];exact(((Below.refl _ _).alloc (Nat.le_refl _) _).alloc (by simp) _).alloc (by simp;omega) _
 have hzW:W.heap.size=w.heap.size+3:=by rw[hW];simp
 have x0:CellsAt W w.heap.size [.int .i64 wd,.int .i64 now,.int .i64 given,.int .i64 births,.slice (some ⟨ab,0,none⟩) ks.length ac,.slice (some ⟨pb,0,none⟩) ps.length pc,.slice (some ⟨lb,0,none⟩) ls.length lc]:=by
  rw[hW];exact CellsAt.below (CellsAt.new w _ 38) (((Below.refl _ _).alloc (Nat.le_refl _) _).alloc (by simp) _)
 have xe:CellsAt W (w.heap.size+1) [.int .i64 kd,.string s,.string nm,.int .i64 num,.string text,.slice (some ad) refs.length rc]:=by
  have h1:=CellsAt.new (w.alloc (.cells #[.int .i64 wd,.int .i64 now,.int .i64 given,.int .i64 births,.slice (some ⟨ab,0,none⟩) ks.length ac,.slice (some ⟨pb,0,none⟩) ps.length pc,.slice (some ⟨lb,0,none⟩) ls.length lc] 38)) [.int .i64 kd,.string s,.string nm,.int .i64 num,.string text,.slice (some ad) refs.length rc] 45;rw[World.size_alloc] at h1;rw[hW]
  exact CellsAt.below h1 ((Below.refl _ _).alloc (Nat.le_refl _) _)
 have x1:CellsAt W (w.heap.size+2) z12:=by
  have h1:=CellsAt.new ((w.alloc (.cells #[.int .i64 wd,.int .i64 now,.int .i64 given,.int .i64 births,.slice (some ⟨ab,0,none⟩) ks.length ac,.slice (some ⟨pb,0,none⟩) ps.length pc,.slice (some ⟨lb,0,none⟩) ls.length lc] 38)).alloc (.cells #[.int .i64 kd,.string s,.string nm,.int .i64 num,.string text,.slice (some ad) refs.length rc] 45)) z12 40;rw[World.size_alloc,World.size_alloc] at h1;rw[hW]
  exact h1
 have HX:Hid (∀X,Below W.heap.size W X->CellsAt X w.heap.size [.int .i64 wd,.int .i64 now,.int .i64 given,.int .i64 births,.slice (some ⟨ab,0,none⟩) ks.length ac,.slice (some ⟨pb,0,none⟩) ps.length pc,.slice (some ⟨lb,0,none⟩) ls.length lc]/\CellsAt X (w.heap.size+1) [.int .i64 kd,.string s,.string nm,.int .i64 num,.string text,.slice (some ad) refs.length rc]/\CellsAt X (w.heap.size+2) z12/\Below w.heap.size w X/\SRows X X.heap.size (some ⟨ab,0,none⟩) (some ⟨pb,0,none⟩) (some ⟨lb,0,none⟩) ks ps ls/\SRow X X.heap.size (some ad) refs/\KSome X ⟨ab,0,none⟩ ks):=fun X hX=>by
  have hb:Below w.heap.size w X:=bW.trans (hX.mono bW.size);exact⟨CellsAt.below x0 hX,CellsAt.below xe hX,CellsAt.below (v:=.int .i64 0) x1 hX,hb,hrow.below' hb,SRow.mono (SRow.below hr hb) hb.size,hsome X hb⟩
 have HV:Hid _:=sValidState_any wd now given births (some ⟨ab,0,none⟩) (some ⟨pb,0,none⟩) (some ⟨lb,0,none⟩) ac pc lc ks ps ls W (hrow.below' bW) hk hp hf;have HW:Hid _:=hW;clear hW hrow hk hp hf hr hsome bW;obtain⟨v0,_⟩:=x0 0 _ rfl;obtain⟨v1,_⟩:=x0 1 _ rfl;obtain⟨v2,_⟩:=x0 2 _ rfl;obtain⟨v3,_⟩:=x0 3 _ rfl;obtain⟨v4,_⟩:=x0 4 _ rfl;obtain⟨v5,_⟩:=x0 5 _ rfl;obtain⟨v6,_⟩:=x0 6 _ rfl;clear x0 xe x1
 go_enter Tryz.func8,Tryz.ntmps8;go_upto_region 1 with fail;rw[←HW.out];clear HW;go_wp2_with fail;refine Calls.mono HV.out ?_;rintro e w1 ⟨b1,rfl,hs1,hb1⟩;obtain⟨x0,xe,x1,hbw1,hR1,hr1,_⟩:=HX.out w1 hb1;have HS1:Hid _:=hs1;have HB1:Hid (Below W.heap.size W w1):=hb1;have HBw1:Hid (Below w.heap.size w w1):=hbw1;clear HV v0 v1 v2 v3 v4 v5 v6 hs1 hb1;cases b1 with
 |false=>
  have HNo:Hid (¬(StateOk wd now given births ks ps ls/\okE kd s nm num text refs wd=true)):=fun h=>by have:=HS1.out.2 h.1;cases this
  obtain⟨⟨y0,q0⟩,⟨y1,q1⟩,⟨y2,q2⟩,⟨y3,q3⟩,⟨y4,q4⟩,⟨y5,q5⟩,⟨y6,q6⟩,⟨y7,q7⟩,⟨y8,q8⟩,⟨y9,q9⟩,⟨y10,q10⟩,y11,q11⟩:=z12at x1;clear x0 xe x1 hbw1 hR1 hr1;go_wp2;refine bodyPost_ret (v:=.agg (refC 1 ⟨#[]⟩ ⟨#[]⟩).toArray) (by simp[results,Tryz.results8,go_sem,y0,y1,y2,y3,y4,y5,y6,y7,y8,y9,y10,y11,refC]) rfl ?_
  exact⟨HBw1.out.trans (Tn.below (tn12 w1 (w.heap.size+2) _ _ _ _ _ _ _ _ _ _ _ _) HBw1.out.size (by intro v hv;simp at hv;omega)),.inl ⟨HNo.out,rfl⟩⟩
 |true=>
  have HSt:Hid (StateOk wd now given births ks ps ls):=HS1.out.1 rfl;have HE:Hid _:=sOkE kd s nm num text (some ad) rc refs wd w1 hr1 hrl htl hnl;obtain⟨e0,_⟩:=xe 0 _ rfl;obtain⟨e1,_⟩:=xe 1 _ rfl;obtain⟨e2,_⟩:=xe 2 _ rfl;obtain⟨e3,_⟩:=xe 3 _ rfl;obtain⟨e4,_⟩:=xe 4 _ rfl;obtain⟨e5,_⟩:=xe 5 _ rfl;obtain⟨v0,_⟩:=x0 0 _ rfl;clear x0 xe x1 hbw1 hR1 hr1;go_wp2_with fail;refine Calls.mono HE.out ?_
  rintro e w2 ⟨rfl,hb2⟩;have HB2:Hid (Below W.heap.size W w2):=HB1.out.trans (hb2.mono HB1.out.size);obtain⟨x0,xe,x1,hbw2,hR2,hr2,_⟩:=HX.out w2 HB2.out;have HBw2:Hid (Below w.heap.size w w2):=hbw2;clear e0 e1 e2 e3 e4 e5 v0 HE hb2;cases hoe:okE kd s nm num text refs wd with
  |false=>
   have HNo:Hid (¬(StateOk wd now given births ks ps ls/\okE kd s nm num text refs wd=true)):=fun h=>by rw[hoe] at h;cases h.2
   obtain⟨⟨y0,q0⟩,⟨y1,q1⟩,⟨y2,q2⟩,⟨y3,q3⟩,⟨y4,q4⟩,⟨y5,q5⟩,⟨y6,q6⟩,⟨y7,q7⟩,⟨y8,q8⟩,⟨y9,q9⟩,⟨y10,q10⟩,y11,q11⟩:=z12at x1;clear x0 xe x1 hbw2 hR2 hr2 hoe;go_wp2;refine bodyPost_ret (v:=.agg (refC 1 ⟨#[]⟩ ⟨#[]⟩).toArray) (by simp[results,Tryz.results8,go_sem,y0,y1,y2,y3,y4,y5,y6,y7,y8,y9,y10,y11,refC]) rfl ?_
   exact⟨HBw2.out.trans (Tn.below (tn12 w2 (w.heap.size+2) _ _ _ _ _ _ _ _ _ _ _ _) HBw2.out.size (by intro v hv;simp at hv;omega)),.inl ⟨HNo.out,rfl⟩⟩
  |true=>
   have HOE:Hid (okE kd s nm num text refs wd=true):=hoe;have haok:AOk wd now given births ks ps ls kd num text refs:=AOk.of HSt.out HOE.out htl;have HNe:Hid (∀r,AYes wd now given births ks ps ls kd s nm num text refs r->∀k∈r.ks,∀s∈k.refs,s≠⟨#[]⟩):=fun r hy=>AYes.refs_ne HSt.out HOE.out hy;have h30:∀k∈ks,k.refs.length<=30:=fun k hk=>(HSt.out.things k hk).refs
   have HCp:Hid (∀X,Below W.heap.size W X->Calls Tryz.prog 37 #[.agg #[.int .i64 wd,.int .i64 now,.int .i64 given,.int .i64 births,.slice (some ⟨ab,0,none⟩) ks.length ac,.slice (some ⟨pb,0,none⟩) ps.length pc,.slice (some ⟨lb,0,none⟩) ls.length lc]] X fun e w'=>(∃ta' tn' tc' pa' pn' pc' la' ln' lc' l0,e=.returned (.agg #[.int .i64 wd,.int .i64 now,.int .i64 given,.int .i64 births,.slice ta' tn' tc',.slice pa' pn' pc',.slice la' ln' lc'])/\(X.heap.size<=l0/\l0<w'.heap.size)/\∀Y,Below w'.heap.size w' Y->Calls Tryz.prog 36 #[.agg #[.int .i64 wd,.int .i64 now,.int .i64 given,.int .i64 births,.slice ta' tn' tc',.slice pa' pn' pc',.slice la' ln' lc'],.agg #[.int .i64 kd,.string s,.string nm,.int .i64 num,.string text,.slice (some ad) refs.length rc]] Y (SAp l0 wd now given births ks ps ls kd s nm num text refs Y))/\Below X.heap.size X w'):=fun X hX=>by
    obtain⟨_,_,_,hbX,hRX,hrX,hKX⟩:=HX.out X hX;refine(l4Copy_any wd now given births ab 0 pb 0 lb 0 ac pc lc ks ps ls X hRX hKX HSt.out.nth HSt.out.np HSt.out.nl h30).mono ?_;rintro e w' ⟨T,P',L',rs,rfl,hS,hv,hb⟩;obtain⟨cb,cp,cl,ctc,cpc,clc,czs,rfl,rfl,rfl,hm,hCS,hl0⟩:=CS.of hS hv hb.size;refine⟨⟨_,_,_,_,_,_,_,_,_,cl,rfl,⟨hl0,(own_lt hCS.lo rfl).2⟩,fun Y hY=> ?_⟩,hb⟩
    have h1:=l4Apply_any X.heap.size wd now given births cb cp cl ctc cpc clc czs ps ls s nm text num refs ad rc Y kd (hCS.below hY) (by rw[hm];exact haok) (by rw[hm];exact h30) (SRow.mono (SRow.below hrX (hb.trans (hY.mono hb.size))) (Nat.le_trans hb.size hY.size));rw[hm] at h1;exact h1
   have HS:Hid (∀X,Below W.heap.size W X->X.cell? ⟨w.heap.size,0,none⟩=some (.int .i64 wd)/\X.cell? ⟨w.heap.size,1,none⟩=some (.int .i64 now)/\X.cell? ⟨w.heap.size,2,none⟩=some (.int .i64 given)/\X.cell? ⟨w.heap.size,3,none⟩=some (.int .i64 births)/\X.cell? ⟨w.heap.size,4,none⟩=some (.slice (some ⟨ab,0,none⟩) ks.length ac)/\X.cell? ⟨w.heap.size,5,none⟩=some (.slice (some ⟨pb,0,none⟩) ps.length pc)/\X.cell? ⟨w.heap.size,6,none⟩=some (.slice (some ⟨lb,0,none⟩) ls.length lc)/\X.cell? ⟨w.heap.size+1,0,none⟩=some (.int .i64 kd)/\X.cell? ⟨w.heap.size+1,1,none⟩=some (.string s)/\X.cell? ⟨w.heap.size+1,2,none⟩=some (.string nm)/\X.cell? ⟨w.heap.size+1,3,none⟩=some (.int .i64 num)/\X.cell? ⟨w.heap.size+1,4,none⟩=some (.string text)/\X.cell? ⟨w.heap.size+1,5,none⟩=some (.slice (some ad) refs.length rc)):=fun X hX=>by
    obtain⟨a0,a1,_⟩:=HX.out X hX;exact⟨(a0 0 _ rfl).1,(a0 1 _ rfl).1,(a0 2 _ rfl).1,(a0 3 _ rfl).1,(a0 4 _ rfl).1,(a0 5 _ rfl).1,(a0 6 _ rfl).1,(a1 0 _ rfl).1,(a1 1 _ rfl).1,(a1 2 _ rfl).1,(a1 3 _ rfl).1,(a1 4 _ rfl).1,(a1 5 _ rfl).1⟩
   have HSb:Hid (∀Y X o,Below W.heap.size W Y->W.heap.size<=o->Tn [o] Y X->X.cell? ⟨w.heap.size,0,none⟩=some (.int .i64 wd)/\X.cell? ⟨w.heap.size,1,none⟩=some (.int .i64 now)/\X.cell? ⟨w.heap.size,2,none⟩=some (.int .i64 given)/\X.cell? ⟨w.heap.size,3,none⟩=some (.int .i64 births)/\X.cell? ⟨w.heap.size,4,none⟩=some (.slice (some ⟨ab,0,none⟩) ks.length ac)/\X.cell? ⟨w.heap.size,5,none⟩=some (.slice (some ⟨pb,0,none⟩) ps.length pc)/\X.cell? ⟨w.heap.size,6,none⟩=some (.slice (some ⟨lb,0,none⟩) ls.length lc)/\X.cell? ⟨w.heap.size+1,0,none⟩=some (.int .i64 kd)/\X.cell? ⟨w.heap.size+1,1,none⟩=some (.string s)/\X.cell? ⟨w.heap.size+1,2,none⟩=some (.string nm)/\X.cell? ⟨w.heap.size+1,3,none⟩=some (.int .i64 num)/\X.cell? ⟨w.heap.size+1,4,none⟩=some (.string text)/\X.cell? ⟨w.heap.size+1,5,none⟩=some (.slice (some ad) refs.length rc)):=fun Y X o hY ho hX=>by
    obtain⟨z0,z1,_⟩:=HX.out Y hY;have a0:=CellsAt.same z0 (hX.block _ z0.lt (by simp;omega));have a1:=CellsAt.same z1 (hX.block _ z1.lt (by simp;omega));exact⟨(a0 0 _ rfl).1,(a0 1 _ rfl).1,(a0 2 _ rfl).1,(a0 3 _ rfl).1,(a0 4 _ rfl).1,(a0 5 _ rfl).1,(a0 6 _ rfl).1,(a1 0 _ rfl).1,(a1 1 _ rfl).1,(a1 2 _ rfl).1,(a1 3 _ rfl).1,(a1 4 _ rfl).1,(a1 5 _ rfl).1⟩
   have D0:Below w2.heap.size w2 w2.drew:=(Below.refl _ _).drew;have D1:∀o,Below w2.heap.size w2 (w2.alloc o).drew:=fun o=>((Below.refl _ _).alloc (Nat.le_refl _) _).drew;have B0:Below W.heap.size W w2.drew:=HB2.out.trans (D0.mono HB2.out.size);have B1:∀o,Below W.heap.size W (w2.alloc o).drew:=fun o=>HB2.out.trans ((D1 o).mono HB2.out.size);have hW2:W.heap.size<=w2.heap.size:=HB2.out.size
   clear x0 xe x1 hbw2 hR2 hr2 hoe haok h30;go_upto_region 3 with fail
   go_cut [5] (fun v wx=>∃(o:Nat) (c0 c1 c2 c3 c4:Int) (ta':Option Addr) (tn' tc':Nat) (pa':Option Addr) (pn' pc':Nat) (la':Option Addr) (ln' lc':Nat) (sm':ByteArray) (le':Int) (a' b':ByteArray),v=.pointer (some ⟨o,0,none⟩)/\Hid (CellsAt wx o [.int .i64 c0,.int .i64 c1,.int .i64 c2,.int .i64 c3,.int .i64 c4,.slice ta' tn' tc',.slice pa' pn' pc',.slice la' ln' lc',.string sm',.int .i64 le',.string a',.string b']/\W.heap.size<=o/\SAQ wd now given births ks ps ls kd s nm num text refs (.returned (.agg #[.int .i64 c0,.int .i64 c1,.int .i64 c2,.int .i64 c3,.int .i64 c4,.slice ta' tn' tc',.slice pa' pn' pc',.slice la' ln' lc',.string sm',.int .i64 le',.string a',.string b'])) wx/\Below W.heap.size W wx))
   case first=>
    go_region_held3 (fun X=>X.cell? ⟨w.heap.size,0,none⟩=some (.int .i64 wd)/\X.cell? ⟨w.heap.size,1,none⟩=some (.int .i64 now)/\X.cell? ⟨w.heap.size,2,none⟩=some (.int .i64 given)/\X.cell? ⟨w.heap.size,3,none⟩=some (.int .i64 births)/\X.cell? ⟨w.heap.size,4,none⟩=some (.slice (some ⟨ab,0,none⟩) ks.length ac)/\X.cell? ⟨w.heap.size,5,none⟩=some (.slice (some ⟨pb,0,none⟩) ps.length pc)/\X.cell? ⟨w.heap.size,6,none⟩=some (.slice (some ⟨lb,0,none⟩) ls.length lc)/\X.cell? ⟨w.heap.size+1,0,none⟩=some (.int .i64 kd)/\X.cell? ⟨w.heap.size+1,1,none⟩=some (.string s)/\X.cell? ⟨w.heap.size+1,2,none⟩=some (.string nm)/\X.cell? ⟨w.heap.size+1,3,none⟩=some (.int .i64 num)/\X.cell? ⟨w.heap.size+1,4,none⟩=some (.string text)/\X.cell? ⟨w.heap.size+1,5,none⟩=some (.slice (some ad) refs.length rc))
     (first
       |with_reducible exact HS.out _ B0
       |with_reducible exact HS.out _ (B1 _)
       |with_reducible exact HS.out _ B3
       |with_reducible exact HS.out _ (B3.alloc B3.size _)
       |with_reducible exact HS.out _ B4
       |with_reducible exact HS.out _ (B4.alloc B4.size _)
       |with_reducible exact HSb.out _ _ _ B4 hoW (tn12 _ _ _ _ _ _ _ _ _ _ _ _ _ _))
     (first
       |(go_at_call 37;guard_target=~Calls Tryz.prog 37 _ (World.drew (World.alloc w2 _)) _;refine(HCp.out (w2.alloc (.cells #[.int .i64 0,.int .i64 0,.int .i64 0,.int .i64 0,.int .i64 0,.slice none 0 0,.slice none 0 0,.slice none 0 0,.string ⟨#[]⟩,.int .i64 0,.string ⟨#[]⟩,.string ⟨#[]⟩] 40)).drew (B1 _)).mono ?_;rintro e w3 ⟨⟨ta',tn',tc',pa',pn',pc',la',ln',lc',l0,rfl,hl0,hap⟩,hb3⟩;have B3:Below W.heap.size W w3:=(B1 _).trans (hb3.mono (B1 _).size);have nA:w3.heap[w2.heap.size]?=some (.cells z12.toArray 40 (0,0)):=((hb3.block w2.heap.size (by simp)).trans (heap_alloc_new w2 (.cells #[.int .i64 0,.int .i64 0,.int .i64 0,.int .i64 0,.int .i64 0,.slice none 0 0,.slice none 0 0,.slice none 0 0,.string ⟨#[]⟩,.int .i64 0,.string ⟨#[]⟩,.string ⟨#[]⟩] 40)));have HAp:Hid _:=hap;clear hap)
       |(go_at_call 37;refine(HCp.out w2.drew B0).mono ?_;rintro e w3 ⟨⟨ta',tn',tc',pa',pn',pc',la',ln',lc',l0,rfl,hl0,hap⟩,hb3⟩;have B3:Below W.heap.size W w3:=B0.trans (hb3.mono B0.size);have HAp:Hid _:=hap;clear hap)
       |(go_at_call 36;have tag:=nA;refine Calls.mono (HAp.out w3 (Below.refl _ _)) ?_;intro e w4 hsa;obtain⟨c0,c1,c2,c3,c4,ua',un',uc',va',vn',vc',xa',xn',xc',sm',le',a',b',rfl⟩:=hsa.q.form;have hl1:w2.heap.size+1<=l0:=(by simpa using hl0.1);have mA:w4.heap[w2.heap.size]?=some (.cells z12.toArray 40 (0,0)):=((hsa.1.block w2.heap.size (by have:=hb3.size;simp at this;omega) (by simp;omega)).trans nA);have B4:Below W.heap.size W w4:=B3.trans (hsa.1.below B3.size (by intro v hv;simp at hv;omega));have hoW:W.heap.size<=w2.heap.size:=hW2;have HSA:Hid _:=hsa.q;have cA:CellsAt w4 w2.heap.size z12:=(fun j v hv=>⟨(box_cell mA j).trans hv,by simp[World.frozen?,mA]⟩);obtain⟨⟨y0,q0⟩,⟨y1,q1⟩,⟨y2,q2⟩,⟨y3,q3⟩,⟨y4,q4⟩,⟨y5,q5⟩,⟨y6,q6⟩,⟨y7,q7⟩,⟨y8,q8⟩,⟨y9,q9⟩,⟨y10,q10⟩,y11,q11⟩:=z12at cA;clear hsa)
       |(go_at_call 36;guard_target=~Calls Tryz.prog 36 _ (World.alloc w3 _) _;refine Calls.mono (HAp.out (w3.alloc (.cells #[.int .i64 0,.int .i64 0,.int .i64 0,.int .i64 0,.int .i64 0,.slice none 0 0,.slice none 0 0,.slice none 0 0,.string ⟨#[]⟩,.int .i64 0,.string ⟨#[]⟩,.string ⟨#[]⟩] 40)) ((Below.refl _ _).alloc (Nat.le_refl _) _)) ?_;intro e w4 hsa;obtain⟨c0,c1,c2,c3,c4,ua',un',uc',va',vn',vc',xa',xn',xc',sm',le',a',b',rfl⟩:=hsa.q.form;have hl1:w2.heap.size<=l0:=hl0.1;have hl2:l0<w3.heap.size:=hl0.2;have BA:Below W.heap.size W (w3.alloc (.cells #[.int .i64 0,.int .i64 0,.int .i64 0,.int .i64 0,.int .i64 0,.slice none 0 0,.slice none 0 0,.slice none 0 0,.string ⟨#[]⟩,.int .i64 0,.string ⟨#[]⟩,.string ⟨#[]⟩] 40)):=B3.alloc B3.size _;have mB:w4.heap[w3.heap.size]?=some (.cells z12.toArray 40 (0,0)):=((hsa.1.block w3.heap.size (by simp) (by simp;omega)).trans (heap_alloc_new w3 (.cells #[.int .i64 0,.int .i64 0,.int .i64 0,.int .i64 0,.int .i64 0,.slice none 0 0,.slice none 0 0,.slice none 0 0,.string ⟨#[]⟩,.int .i64 0,.string ⟨#[]⟩,.string ⟨#[]⟩] 40)));have B4:Below W.heap.size W w4:=BA.trans (hsa.1.below BA.size (by intro v hv;simp at hv;omega));have hoW:W.heap.size<=w3.heap.size:=B3.size;have HSA:Hid _:=hsa.q;have cB:CellsAt w4 w3.heap.size z12:=(fun j v hv=>⟨(box_cell mB j).trans hv,by simp[World.frozen?,mB]⟩);obtain⟨⟨y0,q0⟩,⟨y1,q1⟩,⟨y2,q2⟩,⟨y3,q3⟩,⟨y4,q4⟩,⟨y5,q5⟩,⟨y6,q6⟩,⟨y7,q7⟩,⟨y8,q8⟩,⟨y9,q9⟩,⟨y10,q10⟩,y11,q11⟩:=z12at cB;clear hsa)
       |(go_at_call 36;refine Calls.mono (HAp.out w3 (Below.refl _ _)) ?_;intro e w4 hsa;obtain⟨c0,c1,c2,c3,c4,ua',un',uc',va',vn',vc',xa',xn',xc',sm',le',a',b',rfl⟩:=hsa.q.form;have hl1:w2.heap.size<=l0:=hl0.1;have B4:Below W.heap.size W w4:=B3.trans (hsa.1.below B3.size (by intro v hv;simp at hv;omega));have mC:=hsa.q;clear hsa))
    all_goals (go_wp2_with fail;go_meet)
    all_goals first
     |(have tag:=mA
       exact⟨w2.heap.size,c0,c1,c2,c3,c4,ua',un',uc',va',vn',vc',xa',xn',xc',sm',le',a',b',rfl,set12 cA _ _ _ _ _ _ _ _ _ _ _ _,hoW,SAQ.past HSA.out mA HNe.out (tn12 w4 w2.heap.size _ _ _ _ _ _ _ _ _ _ _ _),B4.trans ((tn12 w4 w2.heap.size _ _ _ _ _ _ _ _ _ _ _ _).below B4.size (by intro v hv;simp at hv;omega))⟩)
     |(have tag:=mB
       exact⟨w3.heap.size,c0,c1,c2,c3,c4,ua',un',uc',va',vn',vc',xa',xn',xc',sm',le',a',b',rfl,set12 cB _ _ _ _ _ _ _ _ _ _ _ _,hoW,SAQ.past HSA.out mB HNe.out (tn12 w4 w3.heap.size _ _ _ _ _ _ _ _ _ _ _ _),B4.trans ((tn12 w4 w3.heap.size _ _ _ _ _ _ _ _ _ _ _ _).below B4.size (by intro v hv;simp at hv;omega))⟩)
     |(have tag:=mC
       exact⟨w4.heap.size,c0,c1,c2,c3,c4,ua',un',uc',va',vn',vc',xa',xn',xc',sm',le',a',b',rfl,CellsAt.new w4 _ _,B4.size,SAQ.below mC ((Below.refl _ _).alloc (Nat.le_refl _) _),B4.alloc B4.size _⟩)
   case rest=>
    revert wc;intro wN hcut;obtain⟨o,c0,c1,c2,c3,c4,ta',tn',tc',pa',pn',pc',la',ln',lc',sm',le',a',b',rfl,HC⟩:=hcut;obtain⟨hCo,hoW,hQ,hBN⟩:=HC.out;obtain⟨_,_,xr,hbwN,_⟩:=HX.out wN hBN;have hzN:=hCo.lt;have ho3:w.heap.size+3<=o:=by omega
    have hne1:¬o=w.heap.size+1+1:=by omega
    have hne2:¬w.heap.size+1+1=o:=by omega
    have hne3:¬o=w.heap.size+2:=by omega
    have hne4:¬w.heap.size+2=o:=by omega
    have HRN:Hid (CellsAt wN (w.heap.size+2) z12):=xr;have HbN:Hid (Below w.heap.size w wN):=hbwN;clear HC HCp HS HSb D0 D1 B0 B1 xr;rcases hQ with⟨c,a1,b1,hno,he⟩|⟨r,b1,tc1,zs1,p1,pc1,l1,lc1,hy,he,hm,hzr,hbl,hpr,hlr⟩
    ·rw[refC_code] at he
     replace he:=he.symm;cases he;have hc0:(c0==0)=false:=by have:=hno.code;simp;omega
     have hc1:(c0 !=0)=true:=by have:=hno.code;simp;omega
     have HCo:Hid (CellsAt wN o [.int .i64 c0,.int .i64 0,.int .i64 0,.int .i64 0,.int .i64 0,.slice none 0 0,.slice none 0 0,.slice none 0 0,.string ⟨#[]⟩,.int .i64 0,.string a',.string b']):=hCo;have HNo:Hid _:=hno;have HCn:Hid _:=l4Copy_nil wN;obtain⟨u0,uq0⟩:=hCo 0 _ rfl;obtain⟨u1,uq1⟩:=hCo 1 _ rfl;obtain⟨u2,uq2⟩:=hCo 2 _ rfl;obtain⟨u3,uq3⟩:=hCo 3 _ rfl;obtain⟨u4,uq4⟩:=hCo 4 _ rfl
     obtain⟨u5,uq5⟩:=hCo 5 _ rfl;obtain⟨u6,uq6⟩:=hCo 6 _ rfl;obtain⟨u7,uq7⟩:=hCo 7 _ rfl;obtain⟨u8,uq8⟩:=hCo 8 _ rfl;obtain⟨u9,uq9⟩:=hCo 9 _ rfl;obtain⟨u10,uq10⟩:=hCo 10 _ rfl;obtain⟨u11,uq11⟩:=hCo 11 _ rfl;clear hno hCo hBN hbwN;go_wp2_with fail;refine Calls.mono HCn.out ?_;rintro e w5 ⟨ta,tn,tc,pa,pn,pcc,la,ln,lcc,rfl,hb5⟩;have cO:=CellsAt.below HCo.out hb5
     have cR:=CellsAt.below (v:=.int .i64 0) HRN.out hb5;have key:∀X,Tn [o,w.heap.size+2] w5 X->IApp wd now given births ks ps ls kd s nm num text refs w (.returned (.agg (refC c0 a' b').toArray)) X:=fun X hT=>⟨(HbN.out.trans (hb5.mono HbN.out.size)).trans (hT.below (Nat.le_trans HbN.out.size hb5.size) (by intro v hv;simp at hv;omega)),.inr ⟨⟨HSt.out,HOE.out⟩,.inl ⟨c0,a',b',HNo.out,rfl⟩⟩⟩
     have HKey:Hid _:=key;obtain⟨⟨y0,q0⟩,⟨y1,q1⟩,⟨y2,q2⟩,⟨y3,q3⟩,⟨y4,q4⟩,⟨y5,q5⟩,⟨y6,q6⟩,⟨y7,q7⟩,⟨y8,q8⟩,⟨y9,q9⟩,⟨y10,q10⟩,y11,q11⟩:=z12at cR;obtain⟨p0,pq0⟩:=cO 0 _ rfl;obtain⟨p1,pq1⟩:=cO 1 _ rfl;obtain⟨p2,pq2⟩:=cO 2 _ rfl;obtain⟨p3,pq3⟩:=cO 3 _ rfl;obtain⟨p4,pq4⟩:=cO 4 _ rfl;obtain⟨p5,pq5⟩:=cO 5 _ rfl;obtain⟨p6,pq6⟩:=cO 6 _ rfl;obtain⟨p7,pq7⟩:=cO 7 _ rfl;obtain⟨p8,pq8⟩:=cO 8 _ rfl
     obtain⟨p9,pq9⟩:=cO 9 _ rfl;obtain⟨p10,pq10⟩:=cO 10 _ rfl;obtain⟨p11,pq11⟩:=cO 11 _ rfl;have HcO:Hid (CellsAt w5 o [.int .i64 c0,.int .i64 0,.int .i64 0,.int .i64 0,.int .i64 0,.slice none 0 0,.slice none 0 0,.slice none 0 0,.string ⟨#[]⟩,.int .i64 0,.string a',.string b']):=cO;have HcR:Hid (CellsAt w5 (w.heap.size+2) z12):=cR;clear key cO cR HCn hb5 u0 u1 u2 u3 u4 u5 u6 u7 u8 u9 u10 u11
     go_upto_region 5 with fail;obtain⟨Y1,hY1⟩:∃Y,Y=(((((((w5.setCell ⟨o,1,none⟩ (.int .i64 0)).setCell ⟨o,2,none⟩ (.int .i64 0)).setCell ⟨o,3,none⟩ (.int .i64 0)).setCell ⟨o,4,none⟩ (.int .i64 0)).setCell ⟨o,5,none⟩ (.slice ta tn tc)).setCell ⟨o,6,none⟩ (.slice pa pn pcc)).setCell ⟨o,7,none⟩ (.slice la ln lcc)):=⟨_,rfl⟩
     have d1:CellsAt Y1 o [.int .i64 c0,.int .i64 0,.int .i64 0,.int .i64 0,.int .i64 0,.slice ta tn tc,.slice pa pn pcc,.slice la ln lcc,.string ⟨#[]⟩,.int .i64 0,.string a',.string b']:=by rw[hY1];exact(((((((HcO.out.set 1 (.int .i64 0)).set 2 (.int .i64 0)).set 3 (.int .i64 0)).set 4 (.int .i64 0)).set 5 (.slice ta tn tc)).set 6 (.slice pa pn pcc)).set 7 (.slice la ln lcc))
     have t1:Tn [o] w5 Y1:=by
      rw[hY1]
      repeat refine Tn.trans ?_ (Tn.set _ _ _ _ (by simp))
      exact Tn.of (Below.refl _ _)
     have r1:CellsAt Y1 (w.heap.size+2) z12:=CellsAt.same HcR.out (t1.block _ HcR.out.lt (by simp;omega));rw[←hY1];clear hY1 p0 p1 p2 p3 p4 p5 p6 p7 p8 p9 p10 p11 y0 y1 y2 y3 y4 y5 y6 y7 y8 y9 y10 y11;obtain⟨g0,gf0⟩:=d1 0 _ rfl;obtain⟨g1,gf1⟩:=d1 1 _ rfl;obtain⟨g2,gf2⟩:=d1 2 _ rfl;obtain⟨g3,gf3⟩:=d1 3 _ rfl;obtain⟨g4,gf4⟩:=d1 4 _ rfl;obtain⟨g5,gf5⟩:=d1 5 _ rfl;obtain⟨g6,gf6⟩:=d1 6 _ rfl
     obtain⟨g7,gf7⟩:=d1 7 _ rfl;obtain⟨g8,gf8⟩:=d1 8 _ rfl;obtain⟨g9,gf9⟩:=d1 9 _ rfl;obtain⟨g10,gf10⟩:=d1 10 _ rfl;obtain⟨g11,gf11⟩:=d1 11 _ rfl;go_upto_region 7 with fail
     obtain⟨Y2,hY2⟩:∃Y,Y=(((((((Y1.setCell ⟨o,1,none⟩ (.int .i64 0)).setCell ⟨o,2,none⟩ (.int .i64 0)).setCell ⟨o,3,none⟩ (.int .i64 0)).setCell ⟨o,4,none⟩ (.int .i64 0)).setCell ⟨o,5,none⟩ (.slice none 0 0)).setCell ⟨o,6,none⟩ (.slice none 0 0)).setCell ⟨o,7,none⟩ (.slice none 0 0)):=⟨_,rfl⟩
     have d2:CellsAt Y2 o [.int .i64 c0,.int .i64 0,.int .i64 0,.int .i64 0,.int .i64 0,.slice none 0 0,.slice none 0 0,.slice none 0 0,.string ⟨#[]⟩,.int .i64 0,.string a',.string b']:=by rw[hY2];exact(((((((d1.set 1 (.int .i64 0)).set 2 (.int .i64 0)).set 3 (.int .i64 0)).set 4 (.int .i64 0)).set 5 (.slice none 0 0)).set 6 (.slice none 0 0)).set 7 (.slice none 0 0))
     have t2:Tn [o] Y1 Y2:=by
      rw[hY2]
      repeat refine Tn.trans ?_ (Tn.set _ _ _ _ (by simp))
      exact Tn.of (Below.refl _ _)
     have r2:CellsAt Y2 (w.heap.size+2) z12:=CellsAt.same r1 (t2.block _ r1.lt (by simp;omega));rw[←hY2];clear hY2 g0 g1 g2 g3 g4 g5 g6 g7 g8 g9 g10 g11;have HT2:Hid (Tn [o,w.heap.size+2] w5 Y2):=(t1.mono (by simp)).trans (t2.mono (by simp));obtain⟨⟨y0,r0⟩,⟨y1,rr1⟩,⟨y2,rr2⟩,⟨y3,rr3⟩,⟨y4,rr4⟩,⟨y5,rr5⟩,⟨y6,rr6⟩,⟨y7,rr7⟩,⟨y8,rr8⟩,⟨y9,rr9⟩,⟨y10,rr10⟩,y11,rr11⟩:=z12at r2;obtain⟨h0,hf0⟩:=d2 0 _ rfl
     obtain⟨h1,hf1⟩:=d2 1 _ rfl;obtain⟨h2,hf2⟩:=d2 2 _ rfl;obtain⟨h3,hf3⟩:=d2 3 _ rfl;obtain⟨h4,hf4⟩:=d2 4 _ rfl;obtain⟨h5,hf5⟩:=d2 5 _ rfl;obtain⟨h6,hf6⟩:=d2 6 _ rfl;obtain⟨h7,hf7⟩:=d2 7 _ rfl;obtain⟨h8,hf8⟩:=d2 8 _ rfl;obtain⟨h9,hf9⟩:=d2 9 _ rfl;obtain⟨h10,hf10⟩:=d2 10 _ rfl;obtain⟨h11,hf11⟩:=d2 11 _ rfl;clear d1 d2 r1 r2 t1 t2;go_wp2
     refine bodyPost_ret (v:=.agg (refC c0 a' b').toArray) (by simp[results,Tryz.results8,go_sem,y0,y1,y2,y3,y4,y5,y6,y7,y8,y9,y10,y11,refC]) rfl ?_;exact HKey.out _ (HT2.out.trans ((tn12 Y2 (w.heap.size+2) _ _ _ _ _ _ _ _ _ _ _ _).mono (by simp)))
    ·replace he:=he.symm
     cases he;have hfit:=AYes.fits HSt.out HOE.out hy;have HCp:Hid _:=l4Copy_any wd r.now r.given r.births b1 0 p1 0 l1 0 tc' pc' lc' r.ks r.ps r.ls wN ⟨by rw[←hm];exact hzr.krow hbl,hpr,hlr⟩ (by rw[←hm];exact hzr.some) hfit.nk hfit.np hfit.nl hfit.refs
     have HCo:Hid (CellsAt wN o [.int .i64 0,.int .i64 wd,.int .i64 r.now,.int .i64 r.given,.int .i64 r.births,.slice (some ⟨b1,0,none⟩) r.ks.length tc',.slice (some ⟨p1,0,none⟩) r.ps.length pc',.slice (some ⟨l1,0,none⟩) r.ls.length lc',.string r.sm,.int .i64 r.le,.string ⟨#[]⟩,.string ⟨#[]⟩]):=hCo;have HY:Hid (AYes wd now given births ks ps ls kd s nm num text refs r):=hy
     obtain⟨u0,uq0⟩:=hCo 0 _ rfl;obtain⟨u1,uq1⟩:=hCo 1 _ rfl;obtain⟨u2,uq2⟩:=hCo 2 _ rfl;obtain⟨u3,uq3⟩:=hCo 3 _ rfl;obtain⟨u4,uq4⟩:=hCo 4 _ rfl;obtain⟨u5,uq5⟩:=hCo 5 _ rfl;obtain⟨u6,uq6⟩:=hCo 6 _ rfl;obtain⟨u7,uq7⟩:=hCo 7 _ rfl;obtain⟨u8,uq8⟩:=hCo 8 _ rfl;obtain⟨u9,uq9⟩:=hCo 9 _ rfl;obtain⟨u10,uq10⟩:=hCo 10 _ rfl;obtain⟨u11,uq11⟩:=hCo 11 _ rfl;clear hy hm hzr hbl hpr hlr hfit hCo hBN hbwN
     go_wp2_with fail;refine Calls.mono HCp.out ?_;rintro e w5 ⟨T,PP,LL,rs,rfl,hS5,hv5,hb5⟩;obtain⟨ta,tc,hTe⟩:=own_val hS5.things;obtain⟨pa,pca,hPe⟩:=own_val hS5.pins;obtain⟨la,lca,hLe⟩:=own_val hS5.leases;subst hTe hPe hLe;have cO:=CellsAt.below HCo.out hb5;have cR:=CellsAt.below (v:=.int .i64 0) HRN.out hb5
     have key:∀X,Tn [o,w.heap.size+2] w5 X->IApp wd now given births ks ps ls kd s nm num text refs w (.returned (.agg #[.int .i64 0,.int .i64 wd,.int .i64 r.now,.int .i64 r.given,.int .i64 r.births,.slice ta r.ks.length tc,.slice pa r.ps.length pca,.slice la r.ls.length lca,.string r.sm,.int .i64 r.le,.string ⟨#[]⟩,.string ⟨#[]⟩])) X:=fun X hT=>⟨(HbN.out.trans (hb5.mono HbN.out.size)).trans (hT.below (Nat.le_trans HbN.out.size hb5.size) (by intro v hv;simp at hv;omega)),.inr ⟨⟨HSt.out,HOE.out⟩,.inr ⟨r,_,_,_,rs,HY.out,rfl,(hS5.turn hT (by intro v hv;simp at hv;have:=HRN.out.lt;omega)).mono HbN.out.size⟩⟩⟩
     have HKey:Hid _:=key;obtain⟨⟨y0,q0⟩,⟨y1,q1⟩,⟨y2,q2⟩,⟨y3,q3⟩,⟨y4,q4⟩,⟨y5,q5⟩,⟨y6,q6⟩,⟨y7,q7⟩,⟨y8,q8⟩,⟨y9,q9⟩,⟨y10,q10⟩,y11,q11⟩:=z12at cR;obtain⟨p0,pq0⟩:=cO 0 _ rfl;obtain⟨p1,pq1⟩:=cO 1 _ rfl;obtain⟨p2,pq2⟩:=cO 2 _ rfl;obtain⟨p3,pq3⟩:=cO 3 _ rfl;obtain⟨p4,pq4⟩:=cO 4 _ rfl;obtain⟨p5,pq5⟩:=cO 5 _ rfl;obtain⟨p6,pq6⟩:=cO 6 _ rfl;obtain⟨p7,pq7⟩:=cO 7 _ rfl;obtain⟨p8,pq8⟩:=cO 8 _ rfl
     obtain⟨p9,pq9⟩:=cO 9 _ rfl;obtain⟨p10,pq10⟩:=cO 10 _ rfl;obtain⟨p11,pq11⟩:=cO 11 _ rfl;clear key cO cR HCp hb5 hS5 hv5 u0 u1 u2 u3 u4 u5 u6 u7 u8 u9 u10 u11;go_wp2
     refine bodyPost_ret (v:=.agg #[.int .i64 0,.int .i64 wd,.int .i64 r.now,.int .i64 r.given,.int .i64 r.births,.slice ta r.ks.length tc,.slice pa r.ps.length pca,.slice la r.ls.length lca,.string r.sm,.int .i64 r.le,.string ⟨#[]⟩,.string ⟨#[]⟩]) (by simp[results,Tryz.results8,go_sem,y0,y1,y2,y3,y4,y5,y6,y7,y8,y9,y10,y11]) rfl ?_;refine HKey.out _ ?_
     repeat refine Tn.trans ?_ (Tn.set _ _ _ _ (by simp))
     exact Tn.of (Below.refl _ _)
end Go.Proofs.YthkmpihfhkmaoaaGreatDoor
namespace Go.Proofs.YthkmpihfhkmaoaaGreatDoor
open Go.ChangeShapes Go.WideShapes Go.ChangeAt Go.RowKit
theorem markThing_any (t:ByteArray) (a:Option Addr) (n cap k base:Nat) (xs:List Value) (w:World) (hown:w.ownsRow base 9 1 (.slice a n cap) n xs) (hk:1<=k) (hkn:k+n<=100000000):
 Calls Tryz.prog 28 #[.agg #[.string t,.slice a n cap],.int .i64 k] w fun e w'=>e=.returned (.int .i64 (k+n))/\w'.ownsRow base 9 1 (.slice a n cap) n ((marks k n).map Value.string)/\w.grownBy w' (Value.slice a n cap).ownBlock:=by
 go_enter Tryz.func28,Tryz.ntmps28;go_wp2_with fail;refine(markS_any a n cap k base xs _ (hown.alloc _) hk hkn).mono ?_;rintro e w2 ⟨rfl,ho2,hg2⟩;go_wp2;go_ret;exact⟨rfl,ho2,grown_trans (grown_below _ ((Below.refl _ _).alloc (Nat.le_refl _) _)) hg2⟩
theorem heldThing_any (t:ByteArray) (a:Option Addr) (n cap k:Nat) (w:World) (hrow:SRow w w.heap.size a (marks k n)) (hk:1<=k) (hkn:k+n<=100000000):
 Calls Tryz.prog 29 #[.agg #[.string t,.slice a n cap],.int .i64 k] w fun e w'=>e=.returned (.int .i64 (k+n))/\Below w.heap.size w w':=by
 have hb:Below w.heap.size w (w.alloc (.cells #[.string t,.slice a n cap] 43)):=(Below.refl _ _).alloc (Nat.le_refl _) _;have hnn:¬((k:Int)+n<0):=by omega
 go_enter Tryz.func29,Tryz.ntmps29;go_wp2_with fail;refine(heldS_any a n cap k w.heap.size _ (hrow.below hb) (by simp) hk hkn).mono ?_;rintro e w2 ⟨rfl,hb2⟩;go_wp2;go_ret;exact⟨rfl,hb.trans (hb2.mono (by simp))⟩
end Go.Proofs.YthkmpihfhkmaoaaGreatDoor
namespace Go.Proofs.YthkmpihfhkmaoaaGreatDoor
open Go.ChangeShapes Go.WideShapes Go.ChangeAt Go.RowKit
theorem markEntry_any (k:Int) (sum name:ByteArray) (m:Int) (t:ByteArray) (a:Option Addr) (n cap q base:Nat) (xs:List Value) (w:World) (hown:w.ownsRow base 9 1 (.slice a n cap) n xs) (hk:1<=q) (hkn:q+n<=100000000):
 Calls Tryz.prog 16 #[.agg (entV k sum name m t a n cap),.int .i64 q] w fun e w'=>e=.returned (.int .i64 (q+n))/\w'.ownsRow base 9 1 (.slice a n cap) n ((marks q n).map Value.string)/\w.grownBy w' (Value.slice a n cap).ownBlock:=by
 go_enter Tryz.func16,Tryz.ntmps16;go_wp2_with fail;refine(markThing_any t a n cap q base xs _ (hown.alloc _) hk hkn).mono ?_;rintro e w2 ⟨rfl,ho2,hg2⟩;go_wp2;go_ret;exact⟨rfl,ho2,grown_trans (grown_below _ ((Below.refl _ _).alloc (Nat.le_refl _) _)) hg2⟩
end Go.Proofs.YthkmpihfhkmaoaaGreatDoor
