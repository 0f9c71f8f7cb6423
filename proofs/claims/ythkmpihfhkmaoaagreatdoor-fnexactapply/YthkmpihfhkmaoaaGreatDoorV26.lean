import Derived.Test.YthkmpihfhkmaoaaGreatDoorV25
import Derived.Test.YthkmpihfhkmaoaaGreatDoorV20
namespace Go.Proofs.YthkmpihfhkmaoaaGreatDoor
open Go.ChangeShapes Go.WideShapes Go.ChangeAt Go.RowKit
structure CS (w:World) (base b p l pc lc:Nat) (zs:List (Kd×Value)) (ps:List Pd) (ls:List Ld):Prop where
 z:ZRow w b 0 zs
 bl:b<w.heap.size
 po:w.ownsRow base 130 2 (.slice (some ⟨p,0,none⟩) ps.length pc) ps.length (rowC pC ps)
 lo:w.ownsRow base 131 3 (.slice (some ⟨l,0,none⟩) ls.length lc) ls.length (rowC lC ls)
 lb:base<=w.heap.size
 bL:b≠l
 pL:p≠l
 zL:∀z∈zs,∀ad n rc,z.2=.slice (some ad) n rc->ad.block≠l
def SAp (l0:Nat) (wd now given births:Int) (ks:List Kd) (ps:List Pd) (ls:List Ld) (kd:Int) (s nm:ByteArray) (num:Int) (text:ByteArray) (refs:List ByteArray) (w:World) (e:Ending) (w':World):Prop:=
 Tn [l0] w w'/\(
  (∃c a b,ANo wd now given births ks ps ls kd s nm num text refs c a b/\e=.returned (.agg (refC c a b).toArray))∨
  (∃r b1 tc1 zs1 p1 pc1 l1 lc1,AYes wd now given births ks ps ls kd s nm num text refs r/\e=.returned (.agg #[.int .i64 0,.int .i64 wd,.int .i64 r.now,.int .i64 r.given,.int .i64 r.births,.slice (some ⟨b1,0,none⟩) r.ks.length tc1,.slice (some ⟨p1,0,none⟩) r.ps.length pc1,.slice (some ⟨l1,0,none⟩) r.ls.length lc1,.string r.sm,.int .i64 r.le,.string ⟨#[]⟩,.string ⟨#[]⟩])/\zs1.map (·.1)=r.ks/\ZRow w' b1 0 zs1/\b1<w'.heap.size/\PRow w' w'.heap.size (some ⟨p1,0,none⟩) r.ps/\LRow w' w'.heap.size (some ⟨l1,0,none⟩) r.ls))
theorem CS.at {w w':World} {base b p l pc lc:Nat} {zs:List (Kd×Value)} {ps:List Pd} {ls:List Ld} (h:CS w base b p l pc lc zs ps ls) (hb:Below w.heap.size w w'):ZRow w' b 0 zs/\b<w'.heap.size/\PRow w' w'.heap.size (some ⟨p,0,none⟩) ps/\LRow w' w'.heap.size (some ⟨l,0,none⟩) ls:=
 ⟨h.z.below hb h.bl,Nat.lt_of_lt_of_le h.bl hb.size,PRow.own (own_below h.po hb),LRow.own (own_below h.lo hb)⟩
theorem own_past1 {w w':World} {base:Nat} {e:TypeId} {size:Nat} {v:Value} {n:Nat} {xs:List Value} (h:w.ownsRow base e size v n xs) {q:Nat} (ht:Tn [q] w w') (hq:q<base):w'.ownsRow base e size v n xs:=
 own_same h (fun g hg=>ht.block g (own_lt h hg).2 (by have:=(own_lt h hg).1;simp;omega))
theorem below_past {w X w' w'':World} (hX:Below w.heap.size w X) (h1:Below X.heap.size X w') (h2:Tn [w.heap.size+2] w' w''):Below w.heap.size w w'':=
 (hX.trans (h1.mono hX.size)).trans (h2.below (Nat.le_trans hX.size h1.size) (by intro v hv;simp at hv;omega))
section
variable (base:Nat) (wd now given births:Int) (b p l tc pc lc:Nat) (zs:List (Kd×Value)) (ps:List Pd) (ls:List Ld) (s nm text:ByteArray) (num:Int) (refs:List ByteArray) (ad:Addr) (rc:Nat) (w:World)
theorem l4Apply3 (h:CS w base b p l pc lc zs ps ls) (ha:AOk wd now given births (zs.map (·.1)) ps ls 3 num text refs):
 Calls Tryz.prog 36 #[.agg #[.int .i64 wd,.int .i64 now,.int .i64 given,.int .i64 births,.slice (some ⟨b,0,none⟩) zs.length tc,.slice (some ⟨p,0,none⟩) ps.length pc,.slice (some ⟨l,0,none⟩) ls.length lc],.agg #[.int .i64 3,.string s,.string nm,.int .i64 num,.string text,.slice (some ad) refs.length rc]] w (SAp l wd now given births (zs.map (·.1)) ps ls 3 s nm num text refs w):=by
 refine l4Apply_unpin wd now given births (some ⟨b,0,none⟩) (some ⟨p,0,none⟩) (some ⟨l,0,none⟩) zs.length tc ps.length pc ls.length lc s nm text num (some ad) refs.length rc w [] (fun X e w'=>UnpinTo X w' e wd now given births (.slice (some ⟨b,0,none⟩) zs.length tc) (.slice (some ⟨l,0,none⟩) ls.length lc) ps nm) _ (by simp) (fun X hX _=>l4Unpin_any wd now given births (some ⟨b,0,none⟩) (some ⟨l,0,none⟩) (some ⟨p,0,none⟩) zs.length tc ls.length lc pc ps nm X (h.at hX).2.2.1 (by have:=ha.np;omega)) ?_ ?_
 ·rintro X e w' ⟨hb,⟨_,rfl⟩|⟨_,g,c,rfl,_⟩⟩
  ·exact⟨Tn.of hb,_,_,_,_,_,_,_,_,_,_,_,_,_,_,_,_,_,_,rfl⟩
  ·exact⟨Tn.of hb,_,_,_,_,_,_,_,_,_,_,_,_,_,_,_,_,_,_,rfl⟩
 ·rintro X e w' w'' hX hz ⟨hb,⟨hno,rfl⟩|⟨hyes,g,c,rfl,ho⟩⟩ ht
  ·exact⟨Tn.of (below_past hX hb ht),.inl ⟨5,_,_,.inr ⟨rfl,rfl,.inr (.inl ⟨rfl,hno,rfl⟩)⟩,rfl⟩⟩
  ·have hB:=below_past hX hb ht
   have hc:=h.at hB;have ho2:=own_past1 ho ht (by omega);exact⟨Tn.of hB,.inr ⟨⟨⟨#[]⟩,0,now,given,births,zs.map (·.1),unpinP ps nm,ls⟩,b,tc,zs,g,c,l,lc,.inr (.inr (.inl ⟨rfl,hyes,rfl⟩)),by rw[List.length_map],rfl,hc.1,hc.2.1,PRow.own ho2,hc.2.2.2⟩⟩
theorem l4Apply5 (h:CS w base b p l pc lc zs ps ls) (ha:AOk wd now given births (zs.map (·.1)) ps ls 5 num text refs):
 Calls Tryz.prog 36 #[.agg #[.int .i64 wd,.int .i64 now,.int .i64 given,.int .i64 births,.slice (some ⟨b,0,none⟩) zs.length tc,.slice (some ⟨p,0,none⟩) ps.length pc,.slice (some ⟨l,0,none⟩) ls.length lc],.agg #[.int .i64 5,.string s,.string nm,.int .i64 num,.string text,.slice (some ad) refs.length rc]] w (SAp l wd now given births (zs.map (·.1)) ps ls 5 s nm num text refs w):=by
 refine l4Apply_give wd now given births (some ⟨b,0,none⟩) (some ⟨p,0,none⟩) (some ⟨l,0,none⟩) zs.length tc ps.length pc ls.length lc s nm text num (some ad) refs.length rc w [] (fun X e w'=>GiveTo X w' e wd now given births (.slice (some ⟨b,0,none⟩) zs.length tc) (.slice (some ⟨p,0,none⟩) ps.length pc) ls num) _ (by simp) (fun X hX _=>l4Give_any wd now given births (some ⟨b,0,none⟩) (some ⟨p,0,none⟩) (some ⟨l,0,none⟩) zs.length tc ps.length pc lc ls num X (h.at hX).2.2.2 (by have:=ha.nl;omega)) ?_ ?_
 ·rintro X e w' ⟨hb,⟨_,rfl⟩|⟨_,g,c,rfl,_⟩⟩
  ·exact⟨Tn.of hb,_,_,_,_,_,_,_,_,_,_,_,_,_,_,_,_,_,_,rfl⟩
  ·exact⟨Tn.of hb,_,_,_,_,_,_,_,_,_,_,_,_,_,_,_,_,_,_,rfl⟩
 ·rintro X e w' w'' hX hz ⟨hb,⟨hno,rfl⟩|⟨hyes,g,c,rfl,ho⟩⟩ ht
  ·exact⟨Tn.of (below_past hX hb ht),.inl ⟨5,_,_,.inr ⟨rfl,rfl,.inr (.inr (.inr (.inl ⟨rfl,hno,rfl⟩)))⟩,rfl⟩⟩
  ·have hB:=below_past hX hb ht
   have hc:=h.at hB;have ho2:=own_past1 ho ht (by omega);exact⟨Tn.of hB,.inr ⟨⟨⟨#[]⟩,0,now,given,births,zs.map (·.1),ps,giveL ls num⟩,b,tc,zs,p,pc,g,c,.inr (.inr (.inr (.inr (.inl ⟨rfl,hyes,rfl⟩)))),by rw[List.length_map],rfl,hc.1,hc.2.1,hc.2.2.1,LRow.own ho2⟩⟩
theorem l4Apply6 (h:CS w base b p l pc lc zs ps ls) (ha:AOk wd now given births (zs.map (·.1)) ps ls 6 num text refs):
 Calls Tryz.prog 36 #[.agg #[.int .i64 wd,.int .i64 now,.int .i64 given,.int .i64 births,.slice (some ⟨b,0,none⟩) zs.length tc,.slice (some ⟨p,0,none⟩) ps.length pc,.slice (some ⟨l,0,none⟩) ls.length lc],.agg #[.int .i64 6,.string s,.string nm,.int .i64 num,.string text,.slice (some ad) refs.length rc]] w (SAp l wd now given births (zs.map (·.1)) ps ls 6 s nm num text refs w):=by
 refine l4Apply_wait wd now given births (some ⟨b,0,none⟩) (some ⟨p,0,none⟩) (some ⟨l,0,none⟩) zs.length tc ps.length pc ls.length lc s nm text num (some ad) refs.length rc w [] (fun X e w'=>WaitTo X w' e wd now given births (.slice (some ⟨b,0,none⟩) zs.length tc) (.slice (some ⟨p,0,none⟩) ps.length pc) ls num) _ (by simp) (fun X hX _=>l4Wait_any wd now given births (some ⟨b,0,none⟩) (some ⟨p,0,none⟩) (some ⟨l,0,none⟩) zs.length tc ps.length pc lc ls num X (h.at hX).2.2.2 (by have:=ha.nl;omega) ha.now0 ha.now1 ha.num0 ha.num1) ?_ ?_
 ·rintro X e w' ⟨hb,⟨_,rfl⟩|⟨_,g,c,rfl,_⟩⟩
  ·exact⟨Tn.of hb,_,_,_,_,_,_,_,_,_,_,_,_,_,_,_,_,_,_,rfl⟩
  ·exact⟨Tn.of hb,_,_,_,_,_,_,_,_,_,_,_,_,_,_,_,_,_,_,rfl⟩
 ·rintro X e w' w'' hX hz ⟨hb,⟨hno,rfl⟩|⟨hyes,g,c,rfl,ho⟩⟩ ht
  ·exact⟨Tn.of (below_past hX hb ht),.inl ⟨4,_,_,.inr ⟨rfl,rfl,.inr (.inr (.inr (.inr (.inl ⟨rfl,hno,rfl⟩))))⟩,rfl⟩⟩
  ·have hB:=below_past hX hb ht
   have hc:=h.at hB;have ho2:=own_past1 ho ht (by omega);exact⟨Tn.of hB,.inr ⟨⟨⟨#[]⟩,0,now+num,given,births,zs.map (·.1),ps,waitL ls (now+num)⟩,b,tc,zs,p,pc,g,c,.inr (.inr (.inr (.inr (.inr (.inl ⟨rfl,hyes,rfl⟩))))),by rw[List.length_map],rfl,hc.1,hc.2.1,hc.2.2.1,LRow.own ho2⟩⟩
end
end Go.Proofs.YthkmpihfhkmaoaaGreatDoor
namespace Go.Proofs.YthkmpihfhkmaoaaGreatDoor
open Go.ChangeShapes Go.WideShapes Go.ChangeAt Go.RowKit
set_option maxRecDepth 20000 in
set_option maxHeartbeats 4000000 in
theorem l4Pin_missing (wd now given births kd num:Int) (ta pa la ra:Option Addr) (tc pn pc ln lc rn rc:Nat) (ks:List Kd) (s nm text:ByteArray) (w:World) (hks:KRow w w.heap.size ta ks) (hkl:ks.length<=1000) (hth:¬There ks s):
 Calls Tryz.prog 86 #[.agg #[.int .i64 wd,.int .i64 now,.int .i64 given,.int .i64 births,.slice ta ks.length tc,.slice pa pn pc,.slice la ln lc],.agg #[.int .i64 kd,.string s,.string nm,.int .i64 num,.string text,.slice ra rn rc]] w fun e w'=>e=.returned (.agg (refC 2 ⟨#[]⟩ ⟨#[]⟩).toArray)/\Below w.heap.size w w':=by
 obtain⟨W,hW⟩:∃W,W=((w.alloc (.cells #[.int .i64 wd,.int .i64 now,.int .i64 given,.int .i64 births,.slice ta ks.length tc,.slice pa pn pc,.slice la ln lc] 38)).alloc (.cells #[.int .i64 kd,.string s,.string nm,.int .i64 num,.string text,.slice ra rn rc] 45)).alloc (.cells #[.int .i64 0,.int .i64 0,.int .i64 0,.int .i64 0,.int .i64 0,.slice none 0 0,.slice none 0 0,.slice none 0 0,.string ⟨#[]⟩,.int .i64 0,.string ⟨#[]⟩,.string ⟨#[]⟩] 40):=⟨_,rfl⟩
 have bW:Below w.heap.size w W:=by rw[hW];exact(((Below.refl _ _).alloc (Nat.le_refl _) _).alloc (by simp) _).alloc (by simp;omega) _
 have x0:CellsAt W w.heap.size [.int .i64 wd,.int .i64 now,.int .i64 given,.int .i64 births,.slice ta ks.length tc,.slice pa pn pc,.slice la ln lc]:=by
  rw[hW];exact CellsAt.below (CellsAt.new w _ 38) (((Below.refl _ _).alloc (Nat.le_refl _) _).alloc (by simp) _)
 have xe:CellsAt W (w.heap.size+1) [.int .i64 kd,.string s,.string nm,.int .i64 num,.string text,.slice ra rn rc]:=by
  have h1:=CellsAt.new (w.alloc (.cells #[.int .i64 wd,.int .i64 now,.int .i64 given,.int .i64 births,.slice ta ks.length tc,.slice pa pn pc,.slice la ln lc] 38)) [.int .i64 kd,.string s,.string nm,.int .i64 num,.string text,.slice ra rn rc] 45;rw[World.size_alloc] at h1;rw[hW];exact CellsAt.below h1 ((Below.refl _ _).alloc (Nat.le_refl _) _)
 have x1:CellsAt W (w.heap.size+2) z12:=by
  have h1:=CellsAt.new ((w.alloc (.cells #[.int .i64 wd,.int .i64 now,.int .i64 given,.int .i64 births,.slice ta ks.length tc,.slice pa pn pc,.slice la ln lc] 38)).alloc (.cells #[.int .i64 kd,.string s,.string nm,.int .i64 num,.string text,.slice ra rn rc] 45)) z12 40;rw[World.size_alloc,World.size_alloc] at h1;rw[hW];exact h1
 have HF:Hid _:=find_any wd now given births ta tc (.slice pa pn pc) (.slice la ln lc) ks s W w.heap.size (KRow.below hks bW) bW.size (by omega);have hfl:=find_lt hth;have HW:Hid _:=hW;have HX1:Hid (CellsAt W (w.heap.size+2) z12):=x1;obtain⟨v0,v1,v2,v3,v4,v5,v6,v7⟩:=sbox_of x0;obtain⟨u1,_⟩:=xe 1 _ rfl;clear hW x0 x1 xe hks hth;go_enter Tryz.func86,Tryz.ntmps86;go_upto_region 1 with fail
 rw[←HW.out];clear HW;go_wp2_with fail;refine Calls.mono HF.out ?_;rintro e w1 ⟨rfl,hb1⟩;obtain⟨⟨y0,q0⟩,⟨y1,q1⟩,⟨y2,q2⟩,⟨y3,q3⟩,⟨y4,q4⟩,⟨y5,q5⟩,⟨y6,q6⟩,⟨y7,q7⟩,⟨y8,q8⟩,⟨y9,q9⟩,⟨y10,q10⟩,y11,q11⟩:=z12at (CellsAt.below (v:=.int .i64 0) HX1.out hb1);have hB:Below w.heap.size w w1:=bW.trans (hb1.mono bW.size);generalize findI ks s=fi at *
 clear v0 v1 v2 v3 v4 v5 v6 v7 HF u1;go_wp2;refine bodyPost_ret (v:=.agg (refC 2 ⟨#[]⟩ ⟨#[]⟩).toArray) (by simp[results,Tryz.results86,go_sem,y0,y1,y2,y3,y4,y5,y6,y7,y8,y9,y10,y11,refC]) rfl ?_;exact⟨rfl,hB.trans (Tn.below (tn12 w1 (w.heap.size+2) _ _ _ _ _ _ _ _ _ _ _ _) hB.size (by intro v hv;simp at hv;omega))⟩
theorem pinP_len_no {ps:List Pd} {n:ByteArray} (s:ByteArray) (h:¬∃x∈ps,x.name=n):(pinP ps n s).length=ps.length+1:=by
 have h2:∀(l:List Pd),(¬∃x∈l,x.name=n)->(l.filter (fun x=>less x.name n)).length+(l.filter (fun x=> !(less x.name n)&& !decide (x.name=n))).length=l.length:=by
  intro l;induction l with
  |nil=>intro _;rfl
  |cons x l ih=>
   intro hl;have hn:x.name≠n:=fun e=>hl ⟨x,by simp,e⟩;have:=ih (fun⟨y,hy,e⟩=>hl ⟨y,by simp[hy],e⟩);cases hl:less x.name n<;>simp[hl,hn]<;>omega
 have:=h2 ps h;unfold pinP;rw[List.length_append,List.length_append];simp;omega
section
variable (base:Nat) (wd now given births:Int) (b p l tc pc lc:Nat) (zs:List (Kd×Value)) (ps:List Pd) (ls:List Ld) (s nm text:ByteArray) (num:Int) (refs:List ByteArray) (ad:Addr) (rc:Nat) (w:World)
theorem l4Apply2 (h:CS w base b p l pc lc zs ps ls) (ha:AOk wd now given births (zs.map (·.1)) ps ls 2 num text refs):
 Calls Tryz.prog 36 #[.agg #[.int .i64 wd,.int .i64 now,.int .i64 given,.int .i64 births,.slice (some ⟨b,0,none⟩) zs.length tc,.slice (some ⟨p,0,none⟩) ps.length pc,.slice (some ⟨l,0,none⟩) ls.length lc],.agg #[.int .i64 2,.string s,.string nm,.int .i64 num,.string text,.slice (some ad) refs.length rc]] w (SAp l wd now given births (zs.map (·.1)) ps ls 2 s nm num text refs w):=by
 have hkl:(zs.map (·.1)).length<=1000:=by have:=ha.kso.len;omega
 by_cases hth:There (zs.map (·.1)) s
 ·refine l4Apply_pin wd now given births (some ⟨b,0,none⟩) (some ⟨p,0,none⟩) (some ⟨l,0,none⟩) zs.length tc ps.length pc ls.length lc s nm text num (some ad) refs.length rc w [] (fun X e w'=>PinTo X w' e wd now given births (.slice (some ⟨b,0,none⟩) zs.length tc) (.slice (some ⟨l,0,none⟩) ls.length lc) ps nm s) _ (by simp) (fun X hX _=> ?_) ?_ ?_
  ·have h1:=l4Pin_any wd now given births 2 num (some ⟨b,0,none⟩) (some ⟨p,0,none⟩) (some ⟨l,0,none⟩) (some ad) tc pc lc ls.length refs.length rc (zs.map (·.1)) ps nm s text X ((h.at hX).1.krow (h.at hX).2.1) (h.at hX).2.2.1 hkl (by have:=ha.np;omega) hth ha.psort
   rw[List.length_map] at h1;exact h1
  ·rintro X e w' ⟨hb,⟨_,rfl⟩|⟨_,g,c,rfl,_⟩⟩
   ·exact⟨Tn.of hb,_,_,_,_,_,_,_,_,_,_,_,_,_,_,_,_,_,_,rfl⟩
   ·exact⟨Tn.of hb,_,_,_,_,_,_,_,_,_,_,_,_,_,_,_,_,_,_,rfl⟩
  ·rintro X e w' w'' hX hz ⟨hb,⟨hno,rfl⟩|⟨hyes,g,c,rfl,ho⟩⟩ ht
   ·have hl:=pinP_length ps nm s
    have hnx:¬∃x∈ps,x.name=nm:=fun hx=>by have:=hl.2 hx;have:=ha.np;omega
    exact⟨Tn.of (below_past hX hb ht),.inl ⟨4,_,_,.inr ⟨rfl,rfl,.inl ⟨rfl,.inr ⟨hth,hnx,by have:=hl.1;have:=ha.np;omega,rfl⟩⟩⟩,rfl⟩⟩
   ·have hB:=below_past hX hb ht
    have hc:=h.at hB;have ho2:=own_past1 ho ht (by omega);have hroom:(∃x∈ps,x.name=nm)∨ps.length<100:=by
     by_cases hx:∃x∈ps,x.name=nm
     ·exact .inl hx
     ·have:=pinP_len_no s hx
      exact .inr (by omega)
    exact⟨Tn.of hB,.inr ⟨⟨⟨#[]⟩,0,now,given,births,zs.map (·.1),pinP ps nm s,ls⟩,b,tc,zs,g,c,l,lc,.inr (.inl ⟨rfl,hth,hroom,rfl⟩),by rw[List.length_map],rfl,hc.1,hc.2.1,PRow.own ho2,hc.2.2.2⟩⟩
 ·refine l4Apply_pin wd now given births (some ⟨b,0,none⟩) (some ⟨p,0,none⟩) (some ⟨l,0,none⟩) zs.length tc ps.length pc ls.length lc s nm text num (some ad) refs.length rc w [] (fun X e w'=>e=.returned (.agg (refC 2 ⟨#[]⟩ ⟨#[]⟩).toArray)/\Below X.heap.size X w') _ (by simp) (fun X hX _=> ?_) ?_ ?_
  ·have h1:=l4Pin_missing wd now given births 2 num (some ⟨b,0,none⟩) (some ⟨p,0,none⟩) (some ⟨l,0,none⟩) (some ad) tc ps.length pc ls.length lc refs.length rc (zs.map (·.1)) s nm text X ((h.at hX).1.krow (h.at hX).2.1) hkl hth
   rw[List.length_map] at h1;exact h1
  ·rintro X e w' ⟨rfl,hb⟩
   exact⟨Tn.of hb,_,_,_,_,_,_,_,_,_,_,_,_,_,_,_,_,_,_,rfl⟩
  ·rintro X e w' w'' hX hz ⟨rfl,hb⟩ ht
   exact⟨Tn.of (below_past hX hb ht),.inl ⟨2,_,_,.inr ⟨rfl,rfl,.inl ⟨rfl,.inl ⟨hth,rfl⟩⟩⟩,rfl⟩⟩
def LeaQ (wd now given births num:Int) (zs:List (Kd×Value)) (ps:List Pd) (ls:List Ld) (s:ByteArray) (X:World) (e:Ending) (w':World):Prop:=
 Below X.heap.size X w'/\(((ls.length=200∨given=1000000000)/\e=.returned (.agg (refC 4 ⟨#[]⟩ ⟨#[]⟩).toArray))∨
  ((ls.length<200/\given<1000000000)/\∃b1 tc1 zs1 p1 pc1 g c,e=.returned (.agg #[.int .i64 0,.int .i64 wd,.int .i64 now,.int .i64 (given+1),.int .i64 births,.slice (some ⟨b1,0,none⟩) zs.length tc1,.slice (some ⟨p1,0,none⟩) ps.length pc1,.slice (some ⟨g,0,none⟩) (ls.length+1) c,.string ⟨#[]⟩,.int .i64 (given+1),.string ⟨#[]⟩,.string ⟨#[]⟩])/\zs1.map (·.1)=zs.map (·.1)/\w'.ownsRow X.heap.size 114 4 (.slice (some ⟨b1,0,none⟩) zs1.length tc1) zs1.length (rowC kC zs1)/\(∀z∈zs1,∃g' c',z.2=.slice (some ⟨g',0,none⟩) z.1.refs.length c'/\w'.ownsRow X.heap.size 9 1 z.2 z.1.refs.length (z.1.refs.map Value.string))/\w'.ownsRow X.heap.size 130 2 (.slice (some ⟨p1,0,none⟩) ps.length pc1) ps.length (rowC pC ps)/\w'.ownsRow X.heap.size 131 3 (.slice (some ⟨g,0,none⟩) (ls.length+1) c) (ls++[(⟨given+1,s,now+num⟩:Ld)]).length (rowC lC (ls++[(⟨given+1,s,now+num⟩:Ld)]))))
theorem ZRow.some {w:World} {b off:Nat} {zs:List (Kd×Value)} (h:ZRow w b off zs):KSome w ⟨b,off,none⟩ (zs.map (·.1)):=by
 intro i k hk;rw[List.getElem?_map] at hk;obtain⟨z,hz,rfl⟩:=Option.map_eq_some_iff.1 hk;obtain⟨⟨_,_,_,h3⟩,ad,rc,h4,_⟩:=h i z hz;exact⟨ad,rc,by rw[h3,h4]⟩
theorem nd_apart {T P L:Option Nat} {R:List Nat} {l:Nat} (h:(T.toList++(P.toList++(L.toList++R))).Nodup) (hL:L=some l):T≠some l/\P≠some l/\l∉R:=by
 subst hL;cases T<;>cases P<;>simp_all<;>grind
set_option maxHeartbeats 2000000 in
theorem l4Apply4 (h:CS w base b p l pc lc zs ps ls) (ha:AOk wd now given births (zs.map (·.1)) ps ls 4 num text refs) (h30:∀k∈zs.map (·.1),k.refs.length<=30):
 Calls Tryz.prog 36 #[.agg #[.int .i64 wd,.int .i64 now,.int .i64 given,.int .i64 births,.slice (some ⟨b,0,none⟩) zs.length tc,.slice (some ⟨p,0,none⟩) ps.length pc,.slice (some ⟨l,0,none⟩) ls.length lc],.agg #[.int .i64 4,.string s,.string nm,.int .i64 num,.string text,.slice (some ad) refs.length rc]] w (SAp l wd now given births (zs.map (·.1)) ps ls 4 s nm num text refs w):=by
 have hkl:(zs.map (·.1)).length<=600:=ha.kso.len;refine l4Apply_lease wd now given births (some ⟨b,0,none⟩) (some ⟨p,0,none⟩) (some ⟨l,0,none⟩) zs.length tc ps.length pc ls.length lc s nm text num (some ad) refs.length rc w (findI (zs.map (·.1)) s) (LeaQ wd now given births num zs ps ls s) _ (fun X hX=> ?_) (fun h0 X hX hz=> ?_) ?_ ?_ ?_
 ·have h1:=find_any wd now given births (some ⟨b,0,none⟩) tc (.slice (some ⟨p,0,none⟩) ps.length pc) (.slice (some ⟨l,0,none⟩) ls.length lc) (zs.map (·.1)) s X X.heap.size ((h.at hX).1.krow (h.at hX).2.1) (Nat.le_refl _) (by omega)
  rw[List.length_map] at h1;exact h1
 ·obtain⟨hz1,hz2,hp1,hl1⟩:=h.at hX
  have h1:=l4Copy_any wd now given births b 0 p 0 l 0 tc pc lc (zs.map (·.1)) ps ls X ⟨hz1.krow hz2,hp1,hl1⟩ hz1.some hkl ha.np ha.nl h30;rw[List.length_map] at h1;refine h1.mono ?_;rintro e w' ⟨T,P',L',rs,rfl,hS,hv,hb⟩;obtain⟨b1,n1,tc1,rfl⟩:=hv T (by simp);obtain⟨p1,n2,pc1,rfl⟩:=hv P' (by simp);obtain⟨l1,n3,lc1,rfl⟩:=hv L' (by simp);obtain⟨_,_,e1⟩:=own_val hS.things
  obtain⟨_,_,e2⟩:=own_val hS.pins;obtain⟨_,_,e3⟩:=own_val hS.leases;cases e1;cases e2;cases e3;refine⟨⟨_,_,_,_,_,_,_,_,_,rfl,fun Y hY=> ?_⟩,hb⟩
  refine(l4Lease_any wd now given births (some ⟨b1,0,none⟩) (some ⟨p1,0,none⟩) (some ⟨l1,0,none⟩) _ tc1 ps.length pc1 lc1 X.heap.size ls s num Y (own_below hS.leases hY) (Nat.le_trans hb.size hY.size) (by have:=ha.nl;omega) ha.given0 ha.given1 ha.now0 ha.now1 ha.num0 ha.num1).mono ?_;rintro e w3 ⟨ht,hle⟩;have hlX:X.heap.size<=l1:=(own_lt hS.leases rfl).1
  have hB3:Below X.heap.size X w3:=(hb.trans (hY.mono hb.size)).trans (ht.below (Nat.le_trans hb.size hY.size) (by intro v hv;simp[Value.ownBlock] at hv;omega));refine⟨hB3,?_⟩;rcases hle with⟨hfull,rfl⟩|⟨⟨hl2,hg2⟩,g,c,rfl,ho,_⟩
  ·exact .inl ⟨by have:=ha.nl;have:=ha.given1;omega,rfl⟩
  ·have hnd:=hS.nd
   rw[blks_eq] at hnd;unfold blks at hnd;obtain⟨n1,n2,n3⟩:=nd_apart hnd (l:=l1) rfl
   have hsame:∀{e:TypeId} {size:Nat} {v:Value} {n:Nat} {xs:List Value},w'.ownsRow X.heap.size e size v n xs->v.ownBlock≠some l1->w3.ownsRow X.heap.size e size v n xs:=fun {e size v n xs} ho1 hne=>own_same (own_below ho1 hY) (fun q hq=>ht.block q (own_lt (own_below ho1 hY) hq).2 (fun e=>by simp[Value.ownBlock] at e;exact hne (by rw[hq,e])))
   have hlen:((zs.map (·.1)).zip rs).length=zs.length:=by rw[List.length_zip,hS.len,List.length_map];omega
   refine .inr ⟨⟨hl2,hg2⟩,b1,tc1,(zs.map (·.1)).zip rs,p1,pc1,g,c,by simp,?_,?_,?_,hsame hS.pins n2,ho⟩
   ·rw[List.map_fst_zip (by rw[hS.len];exact Nat.le_refl _)]
   ·have h2:=hsame hS.things n1
    rw[hlen];rw[List.length_map] at h2;exact h2
   ·intro z hz
    obtain⟨i,hi⟩:=List.getElem?_of_mem hz;rw[List.getElem?_zip_eq_some] at hi;have hr:=hS.refs i z.1 z.2 hi.1 hi.2;obtain⟨g',n',c',e'⟩:=hv z.2 (by simp;exact .inr (.inr (.inr (List.mem_of_getElem? hi.2))));obtain⟨a',c'',e''⟩:=own_val hr;rw[e'] at e'';cases e'';refine⟨g',c',e',hsame hr (fun e=>n3 ?_)⟩;exact List.mem_filterMap.2 ⟨z.2,List.mem_of_getElem? hi.2,e⟩
 ·rintro X e w' hX ⟨hb,⟨_,rfl⟩|⟨_,b1,tc1,zs1,p1,pc1,g,c,rfl,_⟩⟩
  ·exact⟨hb,_,_,_,_,_,_,_,_,_,_,_,_,_,_,_,_,_,_,rfl⟩
  ·exact⟨hb,_,_,_,_,_,_,_,_,_,_,_,_,_,_,_,_,_,_,rfl⟩
 ·intro hneg w' hb
  have hth:¬There (zs.map (·.1)) s:=fun ht=>by obtain⟨i,k,e,_⟩:=find_ge ht;omega
  exact⟨Tn.of hb,.inl ⟨2,_,_,.inr ⟨rfl,rfl,.inr (.inr (.inl ⟨rfl,.inl ⟨hth,rfl⟩⟩))⟩,rfl⟩⟩
 ·rintro h0 X e w' w'' hX hz ⟨hb,hQ⟩ ht
  have hth:There (zs.map (·.1)) s:=Classical.byContradiction fun hn=>by have:=find_lt hn;omega
  have hB:=below_past hX hb ht;rcases hQ with⟨hfull,rfl⟩|⟨⟨hl2,hg2⟩,b1,tc1,zs1,p1,pc1,g,c,rfl,hm,hk,hrs,hpi,hle⟩
  ·exact⟨Tn.of hB,.inl ⟨4,_,_,.inr ⟨rfl,rfl,.inr (.inr (.inl ⟨rfl,.inr ⟨hth,hfull,rfl⟩⟩))⟩,rfl⟩⟩
  ·have hk2:=own_past1 hk ht (by omega)
   have hp2:=own_past1 hpi ht (by omega);have hl3:=own_past1 hle ht (by omega);have hzr:ZRow w'' b1 0 zs1:=ZRow.own hk2 (fun z hz=>by
    obtain⟨g',c',e',ho⟩:=hrs z hz;rw[e'] at ho;exact⟨⟨g',0,none⟩,c',e',SRow.own (own_past1 ho ht (by omega))⟩)
   refine⟨Tn.of hB,.inr ⟨⟨⟨#[]⟩,given+1,now,given+1,births,zs.map (·.1),ps,ls++[⟨given+1,s,now+num⟩]⟩,b1,tc1,zs1,p1,pc1,g,c,.inr (.inr (.inr (.inl ⟨rfl,hth,hl2,hg2,rfl⟩))),by simp,hm,hzr,(own_lt hk2 rfl).2,PRow.own hp2,?_⟩⟩
   have h4:w''.ownsRow X.heap.size 131 3 (.slice (some ⟨g,0,none⟩) (ls++[(⟨given+1,s,now+num⟩:Ld)]).length c) (ls++[(⟨given+1,s,now+num⟩:Ld)]).length (rowC lC (ls++[(⟨given+1,s,now+num⟩:Ld)])):=by
    rw[List.length_append] at hl3 ⊢;exact hl3
   exact LRow.own h4
end
end Go.Proofs.YthkmpihfhkmaoaaGreatDoor
