import Derived.Test.YtpekbmegopfhfaaGreatDoorW20
import Derived.Test.YtpekbmegopfhfaaGreatDoorW18
import Derived.Test.YtpekbmegopfhfaaGreatDoorW19
import Derived.Test.YtpekbmegopfhfaaGreatDoorW05
namespace Go.Proofs.YtpekbmegopfhfaaGreatDoor
open Go.ChangeShapes Go.WideShapes Go.ChangeAt Go.RowKit
def PutS (lbase b0:Nat) (wd now given births num:Int) (zs:List (Kd×Value)) (P L:Value) (ls:List Ld) (text:ByteArray) (refs:List ByteArray) (w:World) (e:Ending) (w':World):Prop:=
 Tn L.ownBlock.toList w w'/\(
  (∃c a b,PutNo wd given births (zs.map (·.1)) ls text refs c a b/\e=.returned (.agg (refC c a b).toArray))∨
  (∃ks1 births1 g gc zs1 g2 c2,(∀r∈refs,There (zs.map (·.1)) r)/\PutYes wd births (zs.map (·.1)) text refs ks1 births1/\ls.length<200/\given<1000000000/\
    e=.returned (.agg #[.int .i64 0,.int .i64 wd,.int .i64 now,.int .i64 (given+1),.int .i64 births1,.slice (some ⟨g,0,none⟩) zs1.length gc,P,.slice (some ⟨g2,0,none⟩) (ls.length+1) c2,.string (sumT text refs wd),.int .i64 (given+1),.string ⟨#[]⟩,.string ⟨#[]⟩])/\
    zs1.map (·.1)=ks1/\ZRow w' g 0 zs1/\g<w'.heap.size/\((g=b0/\zs1=zs)∨w.heap.size<=g)/\(∀z∈zs1,z∈zs∨∃ad n rc,z.2=.slice (some ad) n rc/\w.heap.size<=ad.block)/\(L.ownBlock=some g2∨w.heap.size<=g2)/\w'.ownsRow lbase 137 3 (.slice (some ⟨g2,0,none⟩) (ls.length+1) c2) (ls++[(⟨given+1,sumT text refs wd,now+num⟩:Ld)]).length (rowC lC (ls++[(⟨given+1,sumT text refs wd,now+num⟩:Ld)]))/\g≠g2/\∀z∈zs1,∀ad n rc,z.2=.slice (some ad) n rc->z.1.refs≠[]->ad.block≠g2))
theorem ZRow.turn {w w':World} {b off:Nat} {zs:List (Kd×Value)} {V:List Nat} (h:ZRow w b off zs) (ht:Tn V w w') (hl:b<w.heap.size) (hb:b∉V) (hz:∀z∈zs,∀ad n rc,z.2=.slice (some ad) n rc->z.1.refs≠[]->ad.block∉V):ZRow w' b off zs:=by
 intro i z hzi
 obtain ⟨⟨h0,h1,h2,h3⟩,ad,rc,h4,h5⟩:=h i z hzi
 have hc:∀o,w'.cell? ⟨b,o,none⟩=w.cell? ⟨b,o,none⟩:=fun o=>World.cell?_of_block (a:=⟨b,o,none⟩) (ht.block b hl hb)
 refine ⟨⟨(hc _).trans h0,(hc _).trans h1,(hc _).trans h2,(hc _).trans h3⟩,ad,rc,h4,?_⟩
 by_cases hre:z.1.refs=[]
 ·exact .inl hre
 rcases h5 with h5|⟨b',off',e,hlt,hcs⟩
 ·exact .inl h5
 ·cases e
  have hb':b'∉V:=hz z (List.mem_of_getElem? hzi) _ _ _ h4 hre
  exact .inr ⟨b',off',rfl,Nat.lt_of_lt_of_le hlt ht.size,fun j s hs=>(World.cell?_of_block (a:=⟨b',off'+j,none⟩) (ht.block b' hlt hb')).trans (hcs j s hs)⟩
theorem ZRow.refs_lt {w:World} {b off:Nat} {zs:List (Kd×Value)} (h:ZRow w b off zs) {z:Kd×Value} (hz:z∈zs) {ad:Addr} {n rc:Nat} (he:z.2=.slice (some ad) n rc) (hr:z.1.refs≠[]):ad.block<w.heap.size:=by
 obtain ⟨i,hi⟩:=List.getElem?_of_mem hz
 obtain ⟨_,ad',rc',h4,h5⟩:=h i z hi
 rw [he] at h4
 cases h4
 rcases h5 with h5|⟨b',off',e,hlt,_⟩
 ·exact absurd h5 hr
 ·cases e
  exact hlt
theorem set4 {w:World} {b:Nat} {z0 z1 z2 z3:Value} (h:CellsAt w b [z0,z1,z2,z3]) (a0 a1 a2 a3:Value):CellsAt ((((w.setCell ⟨b,0,none⟩ a0).setCell ⟨b,1,none⟩ a1).setCell ⟨b,2,none⟩ a2).setCell ⟨b,3,none⟩ a3) b [a0,a1,a2,a3]:=
 (((h.set 0 a0).set 1 a1).set 2 a2).set 3 a3
theorem own_set4 {w:World} {base:Nat} {e:TypeId} {size:Nat} {v:Value} {n:Nat} {xs:List Value} (h:w.ownsRow base e size v n xs) {b:Nat} (hne:∀g,v.ownBlock=some g->g≠b) (a0 a1 a2 a3:Value):((((w.setCell ⟨b,0,none⟩ a0).setCell ⟨b,1,none⟩ a1).setCell ⟨b,2,none⟩ a2).setCell ⟨b,3,none⟩ a3).ownsRow base e size v n xs:=
 own_set (own_set (own_set (own_set h hne 0 _) hne 1 _) hne 2 _) hne 3 _
theorem below_set4 {B:Nat} {a w:World} (h:Below B a w) {b:Nat} (hb:B<=b) (a0 a1 a2 a3:Value):Below B a ((((w.setCell ⟨b,0,none⟩ a0).setCell ⟨b,1,none⟩ a1).setCell ⟨b,2,none⟩ a2).setCell ⟨b,3,none⟩ a3):=
 (((h.setCell hb a0).setCell hb a1).setCell hb a2).setCell hb a3
structure PutOk (w:World) (lbase:Nat) (wd now given births num:Int) (ta:Option Addr) (b:Nat) (zs:List (Kd×Value)) (la:Option Addr) (lc:Nat) (ls:List Ld) (text:ByteArray) (refs:List ByteArray) (ra:Option Addr) (rc:Nat):Prop where
 tb:ta=some ⟨b,0,none⟩∨zs=[]
 rn:ra=none->refs.length=0/\rc=0
 z:ZRow w b 0 zs
 bl:b<w.heap.size
 lo:w.ownsRow lbase 137 3 (.slice la ls.length lc) ls.length (rowC lC ls)
 lb:lbase<=w.heap.size
 bL:some b≠(Value.slice la ls.length lc).ownBlock
 zL:∀z∈zs,∀ad n rc,z.2=.slice (some ad) n rc->z.1.refs≠[]->some ad.block≠(Value.slice la ls.length lc).ownBlock
 r:SRow w w.heap.size ra refs
 ok:KsOk wd (zs.map (·.1))
 w1:1<=wd
 txt:∀z∈zs,z.1.text.size<=maxLen
 tl:text.size<=maxLen
 rl:refs.length<=1000
 b0:0<=births
 b1:births<=1000000000
 g0:0<=given
 g1:given<=1000000000
 n0:0<=now
 n1:now<=1000000000
 t0:0<=num
 t1:num<=1000000000
 nl:ls.length<=200
theorem sumT_sz (text:ByteArray) (refs:List ByteArray) (wd:Int) (h:1<=wd):((sumT text refs wd).size:Int)=wd:=sumOf_size ⟨⟨#[]⟩,0,text,refs⟩ wd h
set_option maxRecDepth 20000 in
set_option maxHeartbeats 16000000 in
theorem l4Put_any (lbase:Nat) (wd now given births kd num:Int) (ta:Option Addr) (b tc:Nat) (zs:List (Kd×Value)) (pa la:Option Addr) (pn pc lc:Nat) (ls:List Ld) (s nm text:ByteArray) (refs:List ByteArray) (ra:Option Addr) (rc:Nat) (w:World) (h:PutOk w lbase wd now given births num ta b zs la lc ls text refs ra rc):
 Calls Tryz.prog 85 #[.agg #[.int .i64 wd,.int .i64 now,.int .i64 given,.int .i64 births,.slice ta zs.length tc,.slice pa pn pc,.slice la ls.length lc],.agg #[.int .i64 kd,.string s,.string nm,.int .i64 num,.string text,.slice ra refs.length rc]] w (PutS lbase b wd now given births num zs (.slice pa pn pc) (.slice la ls.length lc) ls text refs w):=by
 obtain ⟨W,hW⟩:∃W,W=((w.alloc (.cells #[.int .i64 wd,.int .i64 now,.int .i64 given,.int .i64 births,.slice ta zs.length tc,.slice pa pn pc,.slice la ls.length lc] 28)).alloc (.cells #[.int .i64 kd,.string s,.string nm,.int .i64 num,.string text,.slice ra refs.length rc] 77)).alloc (.cells #[.int .i64 0,.int .i64 0,.int .i64 0,.int .i64 0,.int .i64 0,.slice none 0 0,.slice none 0 0,.slice none 0 0,.string ⟨#[]⟩,.int .i64 0,.string ⟨#[]⟩,.string ⟨#[]⟩] 30):=⟨_,rfl⟩
 have bW:Below w.heap.size w W:=by rw [hW];exact (((Below.refl _ _).alloc (Nat.le_refl _) _).alloc (by simp) _).alloc (by simp;omega) _
 have hzW:W.heap.size=w.heap.size+3:=by rw [hW];simp
 have x0:CellsAt W w.heap.size [.int .i64 wd,.int .i64 now,.int .i64 given,.int .i64 births,.slice ta zs.length tc,.slice pa pn pc,.slice la ls.length lc]:=by
  rw [hW]
  exact CellsAt.below (CellsAt.new w _ 28) (((Below.refl _ _).alloc (Nat.le_refl _) _).alloc (by simp) _)
 have xe:CellsAt W (w.heap.size+1) [.int .i64 kd,.string s,.string nm,.int .i64 num,.string text,.slice ra refs.length rc]:=by
  have h1:=CellsAt.new (w.alloc (.cells #[.int .i64 wd,.int .i64 now,.int .i64 given,.int .i64 births,.slice ta zs.length tc,.slice pa pn pc,.slice la ls.length lc] 28)) [.int .i64 kd,.string s,.string nm,.int .i64 num,.string text,.slice ra refs.length rc] 77
  rw [World.size_alloc] at h1
  rw [hW]
  exact CellsAt.below h1 ((Below.refl _ _).alloc (Nat.le_refl _) _)
 have x1:CellsAt W (w.heap.size+2) z12:=by
  have h1:=CellsAt.new ((w.alloc (.cells #[.int .i64 wd,.int .i64 now,.int .i64 given,.int .i64 births,.slice ta zs.length tc,.slice pa pn pc,.slice la ls.length lc] 28)).alloc (.cells #[.int .i64 kd,.string s,.string nm,.int .i64 num,.string text,.slice ra refs.length rc] 77)) z12 30
  rw [World.size_alloc,World.size_alloc] at h1
  rw [hW]
  exact h1
 have HX:Hid (∀X,Below W.heap.size W X->CellsAt X w.heap.size [.int .i64 wd,.int .i64 now,.int .i64 given,.int .i64 births,.slice ta zs.length tc,.slice pa pn pc,.slice la ls.length lc]/\CellsAt X (w.heap.size+1) [.int .i64 kd,.string s,.string nm,.int .i64 num,.string text,.slice ra refs.length rc]/\CellsAt X (w.heap.size+2) z12/\Below w.heap.size w X/\ZRow X b 0 zs/\SRow X X.heap.size ra refs):=fun X hX=>by
  have hb:Below w.heap.size w X:=bW.trans (hX.mono bW.size)
  exact ⟨CellsAt.below x0 hX,CellsAt.below xe hX,CellsAt.below (v:=.int .i64 0) x1 hX,hb,h.z.below hb h.bl,SRow.mono (SRow.below h.r hb) hb.size⟩
 have HP:Hid (PutOk w lbase wd now given births num ta b zs la lc ls text refs ra rc):=h
 have hsS:=sumT_sz text refs wd h.w1
 have HzW:Hid (W.heap.size=w.heap.size+3):=hzW
 have hbl:=h.bl
 have hrl:=h.rl
 have hkl:=h.ok.len
 rw [List.length_map] at hkl
 have hF:Hid (∀X (r:ByteArray),Below W.heap.size W X->Calls Tryz.prog 72 #[.agg #[.int .i64 wd,.int .i64 now,.int .i64 given,.int .i64 births,.slice ta zs.length tc,.slice pa pn pc,.slice la ls.length lc],.string r] X fun e w'=>e=.returned (.int .i64 (findI (zs.map (·.1)) r))/\Below X.heap.size X w'):=fun X r hX=>by
  have hkr:KRow X X.heap.size ta (zs.map (·.1)):=by
   rcases HP.out.tb with e|e
   ·rw [e]
    exact (HX.out X hX).2.2.2.2.1.krow (by have h1:=hX.size;have h2:=HzW.out;omega)
   ·rw [e]
    exact .inl rfl
  have h1:=find_any wd now given births ta tc (.slice pa pn pc) (.slice la ls.length lc) (zs.map (·.1)) r X X.heap.size hkr (Nat.le_refl _) (by rw [List.length_map];omega)
  rw [List.length_map] at h1
  exact h1
 have HW:Hid _:=hW
 have HFo:Hid _:=sForm_any text ra rc refs wd W (SRow.mono (SRow.below h.r bW) bW.size) (by omega) h.tl
 obtain ⟨v0,_⟩:=x0 0 _ rfl
 obtain ⟨e4,_⟩:=xe 4 _ rfl
 obtain ⟨e5,_⟩:=xe 5 _ rfl
 clear hW bW x0 xe x1 h
 go_enter Tryz.func85,Tryz.ntmps85
 go_upto_region 1 with fail
 rw [←HW.out]
 clear HW
 go_wp2_with fail
 refine Calls.mono HFo.out ?_
 rintro e w1 ⟨rfl,hb1⟩
 have HB1:Hid (Below W.heap.size W w1):=hb1
 have HSu:Hid _:=ssum_any (formTxt text refs wd) wd w1 (formTxt_size _ _ _) HP.out.w1 HP.out.ok.w8
 have hSe:sumText (formTxt text refs wd).data.toList wd.toNat=sumT text refs wd:=rfl
 rw [hSe] at HSu
 clear hSe HFo v0 e4 e5
 obtain ⟨v0,_⟩:=(HX.out w1 hb1).1 0 _ rfl
 generalize hFF:formTxt text refs wd=FF at *
 generalize hSS:sumT text refs wd=SS at *
 go_wp2_with fail
 refine Calls.mono HSu.out ?_
 rintro e w2 ⟨rfl,hb2⟩
 have HB2:Hid (Below W.heap.size W w2):=HB1.out.trans (hb2.mono HB1.out.size)
 clear HSu v0 hb1 hb2
 go_wp2
 go_loopw [7] (fun i wr=>∃(k:Nat),k<=refs.length/\i=.int .i64 k/\Hid ((∀r∈refs.take k,There (zs.map (·.1)) r)/\Below W.heap.size W wr)) (fun i _=>refs.length -(intOf i).toNat)
 case atStart=>exact ⟨0,Nat.zero_le _,rfl,⟨fun r hr=>by simp at hr,HB2.out⟩⟩
 case round=>
  obtain ⟨k,hk,rfl,HI⟩:=hrel
  obtain ⟨x0,xe,x1,hbw,hZ,hR⟩:=HX.out wr HI.out.2
  have HBr:Hid (Below w.heap.size w wr):=hbw
  obtain ⟨e5,_⟩:=xe 5 _ rfl
  by_cases hlt:k<refs.length
  ·obtain ⟨rb,roff,ha,hrb,hrc⟩:=hR.at hlt
   subst ha
   have HG:Hid (refs[k]?=some refs[k]):=List.getElem?_eq_getElem hlt
   have c0:=hrc k _ HG.out
   have HTk:Hid (refs.take (k+1)=refs.take k++[refs[k]]):=List.take_succ_eq_append_getElem hlt
   clear hrc
   generalize refs[k]=r at *
   have D0:Below wr.heap.size wr wr.drew:=(Below.refl _ _).drew
   have HBd:Below W.heap.size W wr.drew:=HI.out.2.trans (D0.mono HI.out.2.size)
   have HFi:Hid _:=hF.out wr.drew r HBd
   have hrw:rb<wr.heap.size:=hrb
   obtain ⟨v0,_⟩:=x0 0 _ rfl
   obtain ⟨v1,_⟩:=x0 1 _ rfl
   obtain ⟨v2,_⟩:=x0 2 _ rfl
   obtain ⟨v3,_⟩:=x0 3 _ rfl
   obtain ⟨v4,_⟩:=x0 4 _ rfl
   obtain ⟨v5,_⟩:=x0 5 _ rfl
   obtain ⟨v6,_⟩:=x0 6 _ rfl
   have HX1:Hid (CellsAt wr (w.heap.size+2) z12):=x1
   clear x0 xe x1 hZ hR hbw
   go_wp2
   go_region_with (go_at_call 72;refine Calls.mono HFi.out ?_;rintro e w3 ⟨rfl,hb3⟩)
   all_goals
    have HB3:Hid (Below wr.heap.size wr w3):=D0.trans hb3
    clear hb3 c0 e5 v0 v1 v2 v3 v4 v5 v6 HFi
    by_cases hth:There (zs.map (·.1)) r
    ·obtain ⟨fi,fk,hfe,_,_⟩:=find_ge hth
     rw [hfe]
     have HTh:Hid (There (zs.map (·.1)) r):=hth
     clear hth hfe
     go_wp2
     refine ⟨⟨k+1,by omega,by go_num,⟨?_,HI.out.2.trans (HB3.out.mono HI.out.2.size)⟩⟩,by simp [intOf];omega⟩
     rw [HTk.out]
     intro r' hr'
     rcases List.mem_append.1 hr' with hr'|hr'
     ·exact HI.out.1 r' hr'
     ·simp at hr'
      rw [hr']
      exact HTh.out
    ·have hfl:=find_lt hth
     have HTh:Hid (¬There (zs.map (·.1)) r):=hth
     generalize findI (zs.map (·.1)) r=fi at *
     obtain ⟨⟨y0,q0⟩,⟨y1,q1⟩,⟨y2,q2⟩,⟨y3,q3⟩,⟨y4,q4⟩,⟨y5,q5⟩,⟨y6,q6⟩,⟨y7,q7⟩,⟨y8,q8⟩,⟨y9,q9⟩,⟨y10,q10⟩,y11,q11⟩:=z12at (CellsAt.below (v:=.int .i64 0) HX1.out HB3.out)
     clear hth
     go_wp2
     refine bodyPost_ret (v:=.agg (refC 2 ⟨#[]⟩ ⟨#[]⟩).toArray) (by simp [results,Tryz.results85,go_sem,y0,y1,y2,y3,y4,y5,y6,y7,y8,y9,y10,y11,refC]) rfl ?_
     have hBf:Below w.heap.size w w3:=HBr.out.trans (HB3.out.mono HBr.out.size)
     exact ⟨Tn.fresh (Tn.of hBf) (tn12 w3 (w.heap.size+2) _ _ _ _ _ _ _ _ _ _ _ _) (by omega),.inl ⟨2,_,_,.inl ⟨fun hall=>HTh.out (hall r (List.mem_of_getElem? HG.out)),rfl,rfl,rfl⟩,rfl⟩⟩
  ·obtain rfl:k=refs.length:=by omega
   have hall:=HI.out.1
   rw [List.take_of_length_le (Nat.le_refl _)] at hall
   have HAll:Hid (∀r∈refs,There (zs.map (·.1)) r):=hall
   have HBI:Hid (Below W.heap.size W wr):=HI.out.2
   have HFi:Hid _:=hF.out wr SS HI.out.2
   obtain ⟨v0,_⟩:=x0 0 _ rfl
   obtain ⟨v1,_⟩:=x0 1 _ rfl
   obtain ⟨v2,_⟩:=x0 2 _ rfl
   obtain ⟨v3,_⟩:=x0 3 _ rfl
   obtain ⟨v4,_⟩:=x0 4 _ rfl
   obtain ⟨v5,_⟩:=x0 5 _ rfl
   obtain ⟨v6,_⟩:=x0 6 _ rfl
   clear hall HI x0 xe x1 hbw hZ hR
   go_wp2_with fail
   refine Calls.mono HFi.out ?_
   rintro e w3 ⟨rfl,hb3⟩
   have HB3:Hid (Below W.heap.size W w3):=HBI.out.trans (hb3.mono HBI.out.size)
   clear v0 v1 v2 v3 v4 v5 v6 HFi hb3 HBI e5 HBr
   obtain ⟨x0,xe,x1,hbw,hZ,hR⟩:=HX.out w3 HB3.out
   by_cases hth:There (zs.map (·.1)) SS
   ·obtain ⟨i,k,hfe,hki,hks⟩:=find_ge hth
    rw [hfe]
    rw [List.getElem?_map] at hki
    obtain ⟨z,hzi,rfl⟩:=Option.map_eq_some_iff.1 hki
    obtain rfl:ta=some ⟨b,0,none⟩:=HP.out.tb.resolve_right (fun e=>by rw [e] at hzi;simp at hzi)
    obtain ⟨⟨_,_,c2,c3⟩,zad,zrc,hz2,hzr⟩:=hZ i z hzi
    rw [hz2] at c3
    rw [Nat.zero_add] at c2 c3
    have hil:(i:Int)<zs.length:=by have:=(List.getElem?_eq_some_iff.1 hzi).1;omega
    have D3:Below w3.heap.size w3 w3.drew:=(Below.refl _ _).drew
    have HF2:Hid _:=sForm_any z.1.text (some zad) zrc z.1.refs wd w3.drew (SRow.mono (SRow.below hzr D3) D3.size) (by have:=(HP.out.ok.refs z.1 (List.mem_map.2 ⟨z,List.mem_of_getElem? hzi,rfl⟩)).1;omega) (HP.out.txt z (List.mem_of_getElem? hzi))
    have HZi:Hid (z∈zs/\z.1.sum=SS):=⟨List.mem_of_getElem? hzi,hks⟩
    obtain ⟨v0,_⟩:=x0 0 _ rfl
    obtain ⟨v4,_⟩:=x0 4 _ rfl
    have hb3w:b<w3.heap.size:=Nat.lt_of_lt_of_le hbl hbw.size
    clear x0 xe x1 hbw hZ hR hth hfe hki hzi hz2 hzr hks
    go_upto_region 10 with fail
    go_region_with (go_at_call 131;refine Calls.mono HF2.out ?_;rintro e w4 ⟨rfl,hb4⟩)
    all_goals
     have HB4:Hid (Below W.heap.size W w4):=HB3.out.trans ((D3.trans hb4).mono HB3.out.size)
     clear hb4 c2 c3 v0 v4 HF2
     obtain ⟨x0,xe,x1,hbw,hZ,hR⟩:=HX.out w4 HB4.out
     by_cases hsame:formTxt z.1.text z.1.refs wd=FF
     ·have hq:(FF.toList !=FF.toList)=false:=by simp
      rw [hsame]
      have HY1:Hid (PutYes wd births (zs.map (·.1)) text refs (zs.map (·.1)) births):=.inl ⟨z.1,List.mem_map.2 ⟨z,HZi.out.1,rfl⟩,by rw [hSS];exact HZi.out.2,by rw [hsame,hFF],rfl,rfl⟩
      have HBX:Hid (CellsAt w4 w.heap.size [.int .i64 wd,.int .i64 now,.int .i64 given,.int .i64 births,.slice (some ⟨b,0,none⟩) zs.length tc,.slice pa pn pc,.slice la ls.length lc]):=x0
      have HEX:Hid (CellsAt w4 (w.heap.size+1) [.int .i64 kd,.string s,.string nm,.int .i64 num,.string text,.slice ra refs.length rc]):=xe
      have HRX:Hid (CellsAt w4 (w.heap.size+2) z12):=x1
      have HLX:Hid (w4.ownsRow lbase 137 3 (.slice la ls.length lc) ls.length (rowC lC ls)):=own_below HP.out.lo hbw
      have hlX:w.heap.size+3<=w4.heap.size:=by have h1:=HB4.out.size;have h2:=HzW.out;omega
      have HTw:Hid (Tn (Value.slice la ls.length lc).ownBlock.toList w w4):=Tn.of hbw
      have HZ4:Hid (ZRow w4 b 0 zs):=hZ
      have hb4w:b<w4.heap.size:=Nat.lt_of_lt_of_le hbl hbw.size
      clear x0 xe x1 hbw hZ hR hsame
      have HLe:Hid _:=l4Lease_any wd now given (births) (some ⟨b,0,none⟩) pa la (zs).length tc pn pc lc lbase ls SS num w4 HLX.out (Nat.le_trans HP.out.lb (Nat.le_trans (Nat.le_add_right _ 3) hlX)) (by have:=HP.out.nl;omega) HP.out.g0 HP.out.g1 HP.out.n0 HP.out.n1 HP.out.t0 HP.out.t1
      obtain ⟨l0,_⟩:=HBX.out 0 _ rfl
      obtain ⟨l1,_⟩:=HBX.out 1 _ rfl
      obtain ⟨l2,_⟩:=HBX.out 2 _ rfl
      obtain ⟨l3,_⟩:=HBX.out 3 _ rfl
      obtain ⟨l4,_⟩:=HBX.out 4 _ rfl
      obtain ⟨l5,_⟩:=HBX.out 5 _ rfl
      obtain ⟨l6,_⟩:=HBX.out 6 _ rfl
      obtain ⟨m3,_⟩:=HEX.out 3 _ rfl
      go_wp2_with fail
      refine Calls.mono HLe.out ?_
      rintro e w5 ⟨ht5,hle5⟩
      have hLl:∀g,(Value.slice la ls.length lc).ownBlock=some g->g<w.heap.size:=fun g hg=>(own_lt HP.out.lo hg).2
      have x15:CellsAt w5 (w.heap.size+2) z12:=CellsAt.same HRX.out (ht5.block _ HRX.out.lt (fun e=>by have:=hLl _ (by simpa using e);omega))
      have hl5:w.heap.size+3<=w5.heap.size:=Nat.le_trans hlX ht5.size
      have HT5:Hid (Tn (Value.slice la ls.length lc).ownBlock.toList w w5):=HTw.out.trans ht5
      clear l0 l1 l2 l3 l4 l5 l6 m3 HLe
      obtain ⟨hfull,rfl⟩|⟨⟨hl2,hg2⟩,g2,c2,rfl,ho5,hk5⟩:=hle5
      ·obtain ⟨Y,hY⟩:∃Y,Y=w5.alloc (.cells #[.int .i64 4,.int .i64 0,.int .i64 0,.int .i64 0,.int .i64 0,.slice none 0 0,.slice none 0 0,.slice none 0 0,.string ⟨#[]⟩,.int .i64 0,.string ⟨#[]⟩,.string ⟨#[]⟩] 30):=⟨_,rfl⟩
       have bY:Below w5.heap.size w5 Y:=by rw [hY];exact (Below.refl _ _).alloc (Nat.le_refl _) _
       have yN:CellsAt Y w5.heap.size [.int .i64 4,.int .i64 0,.int .i64 0,.int .i64 0,.int .i64 0,.slice none 0 0,.slice none 0 0,.slice none 0 0,.string ⟨#[]⟩,.int .i64 0,.string ⟨#[]⟩,.string ⟨#[]⟩]:=by rw [hY];exact CellsAt.new w5 _ _
       have yR:=CellsAt.below (v:=.int .i64 0) x15 bY
       have HY:Hid _:=hY
       have HTY:Hid (Tn (Value.slice la ls.length lc).ownBlock.toList w Y):=HT5.out.trans (Tn.of bY)
       have HFu:Hid (ls.length=200∨given=1000000000):=by have h1:=HP.out.nl;have h2:=HP.out.g1;show _∨_;omega
       obtain ⟨⟨y0,q0⟩,⟨y1,q1⟩,⟨y2,q2⟩,⟨y3,q3⟩,⟨y4,q4⟩,⟨y5,q5⟩,⟨y6,q6⟩,⟨y7,q7⟩,⟨y8,q8⟩,⟨y9,q9⟩,⟨y10,q10⟩,y11,q11⟩:=z12at yR
       obtain ⟨u0,uq0⟩:=yN 0 _ rfl
       obtain ⟨u1,uq1⟩:=yN 1 _ rfl
       obtain ⟨u2,uq2⟩:=yN 2 _ rfl
       obtain ⟨u3,uq3⟩:=yN 3 _ rfl
       obtain ⟨u4,uq4⟩:=yN 4 _ rfl
       obtain ⟨u5,uq5⟩:=yN 5 _ rfl
       obtain ⟨u6,uq6⟩:=yN 6 _ rfl
       obtain ⟨u7,uq7⟩:=yN 7 _ rfl
       obtain ⟨u8,uq8⟩:=yN 8 _ rfl
       obtain ⟨u9,uq9⟩:=yN 9 _ rfl
       obtain ⟨u10,uq10⟩:=yN 10 _ rfl
       obtain ⟨u11,uq11⟩:=yN 11 _ rfl
       clear bY yN yR hY x15 ht5 hfull
       go_upto_region 30 with fail
       rw [←HY.out]
       clear HY
       go_wp2
       refine bodyPost_ret (v:=.agg (refC 4 ⟨#[]⟩ ⟨#[]⟩).toArray) (by simp [results,Tryz.results85,go_sem,y0,y1,y2,y3,y4,y5,y6,y7,y8,y9,y10,y11,refC]) rfl ?_
       exact ⟨Tn.fresh HTY.out (tn12 Y (w.heap.size+2) _ _ _ _ _ _ _ _ _ _ _ _) (by omega),.inl ⟨4,_,_,.inr ⟨HAll.out,.inr (.inr ⟨⟨_,_,HY1.out⟩,HFu.out,rfl,rfl,rfl⟩)⟩,rfl⟩⟩
      ·obtain ⟨Y,hY⟩:∃Y,Y=w5.alloc (.cells #[.int .i64 0,.int .i64 wd,.int .i64 now,.int .i64 (given+1),.int .i64 (births),.slice (some ⟨b,0,none⟩) zs.length tc,.slice pa pn pc,.slice (some ⟨g2,0,none⟩) (ls.length+1) c2,.string ⟨#[]⟩,.int .i64 (given+1),.string ⟨#[]⟩,.string ⟨#[]⟩] 30):=⟨_,rfl⟩
       have bY:Below w5.heap.size w5 Y:=by rw [hY];exact (Below.refl _ _).alloc (Nat.le_refl _) _
       have yN:CellsAt Y w5.heap.size [.int .i64 0,.int .i64 wd,.int .i64 now,.int .i64 (given+1),.int .i64 (births),.slice (some ⟨b,0,none⟩) zs.length tc,.slice pa pn pc,.slice (some ⟨g2,0,none⟩) (ls.length+1) c2,.string ⟨#[]⟩,.int .i64 (given+1),.string ⟨#[]⟩,.string ⟨#[]⟩]:=by rw [hY];exact CellsAt.new w5 _ _
       have yR:=CellsAt.below (v:=.int .i64 0) x15 bY
       have HY:Hid _:=hY
       have HTY:Hid (Tn (Value.slice la ls.length lc).ownBlock.toList w Y):=HT5.out.trans (Tn.of bY)
       have HO5:Hid _:=own_below ho5 bY
       have hb2:w5.heap.size<Y.heap.size:=yN.lt
       have hXY:Tn (Value.slice la ls.length lc).ownBlock.toList w4 Y:=ht5.trans (Tn.of bY)
       have key:∀R,Tn [w5.heap.size,w.heap.size+2] Y R->PutS lbase b wd now given births num zs (.slice pa pn pc) (.slice la ls.length lc) ls text refs w (.returned (.agg #[.int .i64 0,.int .i64 wd,.int .i64 now,.int .i64 (given+1),.int .i64 (births),.slice (some ⟨b,0,none⟩) zs.length tc,.slice pa pn pc,.slice (some ⟨g2,0,none⟩) (ls.length+1) c2,.string SS,.int .i64 (given+1),.string ⟨#[]⟩,.string ⟨#[]⟩])) R:=fun R hR=>by
        have hzf:ZRow R b 0 (zs):=((HZ4.out.turn hXY hb4w (fun e=>HP.out.bL (Eq.symm (by simpa using e))) (fun z hz a n c e2 e3 hin=>HP.out.zL z hz a n c e2 e3 (Eq.symm (by simpa using hin)))).turn hR (Nat.lt_of_lt_of_le hb4w hXY.size) (by simp;omega) (fun z hz a n c e2 e3 hin=>by simp at hin;have:=HP.out.z.refs_lt hz e2 e3;omega))
        have hg2n:g2≠w5.heap.size/\g2≠w.heap.size+2:=by
         have h1:=(own_lt ho5 (g:=g2) rfl).2
         rcases hk5 with hk5|hk5
         ·have h4:=hLl _ hk5
          omega
         ·omega
        have hof:=own_same HO5.out (w':=R) (fun q hq=>hR.block q (own_lt HO5.out hq).2 (by
         have h3:g2=q:=by simpa [Value.ownBlock] using hq
         rw [←h3]
         simp
         exact hg2n))
        refine ⟨?_,.inr ⟨_,_,b,tc,zs,g2,c2,HAll.out,HY1.out,hl2,hg2,by rw [hSS],rfl,hzf,?_,.inl ⟨rfl,rfl⟩,fun z hz=> .inl hz,(by rcases hk5 with h|h;exact .inl h;exact .inr (by omega)),by rw [hSS];exact hof,(by rcases hk5 with h|h;exact fun e=>HP.out.bL (by rw [h,e]);exact fun e=>by omega),fun z hz a n c e2 e3 e=>by
         rcases hk5 with h|h
         ·exact HP.out.zL z hz a n c e2 e3 (by rw [h,e])
         ·have:=HP.out.z.refs_lt hz e2 e3
          omega⟩⟩
        ·exact ⟨hR.os.trans HTY.out.os,hR.tape.trans HTY.out.tape,hR.output.trans HTY.out.output,Nat.le_trans HTY.out.size hR.size,fun q hq hv=>(hR.block q (Nat.lt_of_lt_of_le hq HTY.out.size) (by simp;omega)).trans (HTY.out.block q hq hv)⟩
        ·exact Nat.lt_of_lt_of_le hb4w (Nat.le_trans hXY.size hR.size)
       have HKey:Hid _:=key
       obtain ⟨⟨y0,q0⟩,⟨y1,q1⟩,⟨y2,q2⟩,⟨y3,q3⟩,⟨y4,q4⟩,⟨y5,q5⟩,⟨y6,q6⟩,⟨y7,q7⟩,⟨y8,q8⟩,⟨y9,q9⟩,⟨y10,q10⟩,y11,q11⟩:=z12at yR
       obtain ⟨u0,uq0⟩:=yN 0 _ rfl
       obtain ⟨u1,uq1⟩:=yN 1 _ rfl
       obtain ⟨u2,uq2⟩:=yN 2 _ rfl
       obtain ⟨u3,uq3⟩:=yN 3 _ rfl
       obtain ⟨u4,uq4⟩:=yN 4 _ rfl
       obtain ⟨u5,uq5⟩:=yN 5 _ rfl
       obtain ⟨u6,uq6⟩:=yN 6 _ rfl
       obtain ⟨u7,uq7⟩:=yN 7 _ rfl
       obtain ⟨u8,uq8⟩:=yN 8 _ rfl
       obtain ⟨u9,uq9⟩:=yN 9 _ rfl
       obtain ⟨u10,uq10⟩:=yN 10 _ rfl
       obtain ⟨u11,uq11⟩:=yN 11 _ rfl
       clear bY yN yR hY x15 ht5 key ho5 hXY
       go_upto_region 30 with fail
       rw [←HY.out]
       clear HY
       go_wp2
       refine bodyPost_ret (v:=.agg #[.int .i64 0,.int .i64 wd,.int .i64 now,.int .i64 (given+1),.int .i64 (births),.slice (some ⟨b,0,none⟩) zs.length tc,.slice pa pn pc,.slice (some ⟨g2,0,none⟩) (ls.length+1) c2,.string SS,.int .i64 (given+1),.string ⟨#[]⟩,.string ⟨#[]⟩]) (by simp [results,Tryz.results85,go_sem,y0,y1,y2,y3,y4,y5,y6,y7,y8,y9,y10,y11]) rfl ?_
       refine HKey.out _ ?_
       repeat refine Tn.trans ?_ (Tn.set _ _ _ _ (by simp))
       exact Tn.of (Below.refl _ _)
     ·have hq2:((formTxt z.1.text z.1.refs wd).toList==FF.toList)=false:=beq_ne hsame
      have hq:((formTxt z.1.text z.1.refs wd).toList !=FF.toList)=true:=by simp [bne,hq2]
      have HN3:Hid (PutNo wd given births (zs.map (·.1)) ls text refs 3 (formTxt z.1.text z.1.refs wd) FF):=.inr ⟨HAll.out,.inl ⟨z.1,List.mem_map.2 ⟨z,HZi.out.1,rfl⟩,by rw [hSS];exact HZi.out.2,by rw [hFF];exact hsame,rfl,rfl,hFF.symm⟩⟩
      obtain ⟨⟨y0,q0⟩,⟨y1,q1⟩,⟨y2,q2⟩,⟨y3,q3⟩,⟨y4,q4⟩,⟨y5,q5⟩,⟨y6,q6⟩,⟨y7,q7⟩,⟨y8,q8⟩,⟨y9,q9⟩,⟨y10,q10⟩,y11,q11⟩:=z12at x1
      have HBw:Hid (Below w.heap.size w w4):=hbw
      clear hsame x0 xe x1 hbw hZ hR
      generalize formTxt z.1.text z.1.refs wd=GG at *
      go_wp2
      refine bodyPost_ret (v:=.agg (refC 3 GG FF).toArray) (by simp [results,Tryz.results85,go_sem,y0,y1,y2,y3,y4,y5,y6,y7,y8,y9,y10,y11,refC]) rfl ?_
      exact ⟨Tn.fresh (Tn.of HBw.out) (tn12 w4 (w.heap.size+2) _ _ _ _ _ _ _ _ _ _ _ _) (by omega),.inl ⟨3,_,_,HN3.out,rfl⟩⟩
   ·have hfl:=find_lt hth
    have HNo:Hid (¬There (zs.map (·.1)) SS):=hth
    generalize findI (zs.map (·.1)) SS=fi at *
    have hf0:¬(0:Int)<=fi:=by omega
    have hb3w:b<w3.heap.size:=Nat.lt_of_lt_of_le hbl hbw.size
    obtain ⟨v3,vq3⟩:=x0 3 _ rfl
    obtain ⟨v4,vq4⟩:=x0 4 _ rfl
    have HBw3:Hid (Below w.heap.size w w3):=hbw
    have HZ3:Hid (ZRow w3 b 0 zs):=hZ
    have HR3:Hid (SRow w3 w3.heap.size ra refs):=hR
    have HX3:Hid (CellsAt w3 w.heap.size [.int .i64 wd,.int .i64 now,.int .i64 given,.int .i64 births,.slice ta zs.length tc,.slice pa pn pc,.slice la ls.length lc]/\CellsAt w3 (w.heap.size+1) [.int .i64 kd,.string s,.string nm,.int .i64 num,.string text,.slice ra refs.length rc]/\CellsAt w3 (w.heap.size+2) z12):=⟨x0,xe,x1⟩
    by_cases hfull:zs.length=600∨births=1000000000
    ·have HFu:Hid (zs.length=600∨births=1000000000):=hfull
     obtain ⟨⟨y0,q0⟩,⟨y1,q1⟩,⟨y2,q2⟩,⟨y3,q3⟩,⟨y4,q4⟩,⟨y5,q5⟩,⟨y6,q6⟩,⟨y7,q7⟩,⟨y8,q8⟩,⟨y9,q9⟩,⟨y10,q10⟩,y11,q11⟩:=z12at x1
     by_cases hf6:zs.length=600
     ·have hq:(600:Int)<=(zs.length:Int):=by omega
      clear hfull hf6 x0 xe x1 hbw hZ hR hth
      go_wp2
      refine bodyPost_ret (v:=.agg (refC 4 ⟨#[]⟩ ⟨#[]⟩).toArray) (by simp [results,Tryz.results85,go_sem,y0,y1,y2,y3,y4,y5,y6,y7,y8,y9,y10,y11,refC]) rfl ?_
      exact ⟨Tn.fresh (Tn.of HBw3.out) (tn12 w3 (w.heap.size+2) _ _ _ _ _ _ _ _ _ _ _ _) (by omega),.inl ⟨4,_,_,.inr ⟨HAll.out,.inr (.inl ⟨hSS▸HNo.out,by rw [List.length_map];exact HFu.out,rfl,rfl,rfl⟩)⟩,rfl⟩⟩
     ·have hq:¬(600:Int)<=(zs.length:Int):=by omega
      have hq2:(1000000000:Int)<=births:=by omega
      clear hfull hf6 x0 xe x1 hbw hZ hR hth
      go_wp2
      refine bodyPost_ret (v:=.agg (refC 4 ⟨#[]⟩ ⟨#[]⟩).toArray) (by simp [results,Tryz.results85,go_sem,y0,y1,y2,y3,y4,y5,y6,y7,y8,y9,y10,y11,refC]) rfl ?_
      exact ⟨Tn.fresh (Tn.of HBw3.out) (tn12 w3 (w.heap.size+2) _ _ _ _ _ _ _ _ _ _ _ _) (by omega),.inl ⟨4,_,_,.inr ⟨HAll.out,.inr (.inl ⟨hSS▸HNo.out,by rw [List.length_map];exact HFu.out,rfl,rfl,rfl⟩)⟩,rfl⟩⟩
    ·have hq:¬(600:Int)<=(zs.length:Int):=by omega
     have hq2:¬(1000000000:Int)<=births:=by have:=HP.out.b1;omega
     have hbb0:=HP.out.b0
     have hzl:zs.length<600:=by omega
     have HY1:Hid (PutYes wd births (zs.map (·.1)) text refs (insK (zs.map (·.1)) ⟨SS,births+1,text,refs⟩) (births+1)):=by
      show PutYes _ _ _ _ _ _ _
      rw [←hSS]
      exact .inr ⟨hSS▸HNo.out,by rw [List.length_map];omega,by omega,rfl,rfl⟩
     obtain ⟨X1,hX1⟩:∃X,X=w3.setCell ⟨w.heap.size,3,none⟩ (.int .i64 (births+1)):=⟨_,rfl⟩
     obtain ⟨A,hA⟩:∃A,A=X1.alloc (.cells #[] 114):=⟨_,rfl⟩
     have tX1:Tn [w.heap.size] w3 X1:=by rw [hX1];exact tn1 _ _ _ _
     have bA:Below X1.heap.size X1 A:=by rw [hA];exact (Below.refl _ _).alloc (Nat.le_refl _) _
     have tA:Tn [w.heap.size] w3 A:=tX1.trans (Tn.of bA)
     have hz3:w.heap.size+3<=w3.heap.size:=by have h1:=HB3.out.size;have h2:=HzW.out;omega
     have hzX1:X1.heap.size=w3.heap.size:=by rw [hX1];simp
     have hzA:A.heap.size=w3.heap.size+1:=by rw [hA];simp [hzX1]
     have bwA:Below w.heap.size w A:=hbw.trans (tA.below hbw.size (by intro v hv;simp at hv;omega))
     have sA:CellsAt A w.heap.size [.int .i64 wd,.int .i64 now,.int .i64 given,.int .i64 (births+1),.slice ta zs.length tc,.slice pa pn pc,.slice la ls.length lc]:=by
      have h1:CellsAt X1 w.heap.size [.int .i64 wd,.int .i64 now,.int .i64 given,.int .i64 (births+1),.slice ta zs.length tc,.slice pa pn pc,.slice la ls.length lc]:=by rw [hX1];exact x0.set 3 _
      exact h1.below bA
     have eA:CellsAt A (w.heap.size+1) [.int .i64 kd,.string s,.string nm,.int .i64 num,.string text,.slice ra refs.length rc]:=CellsAt.same xe (tA.block _ xe.lt (by simp))
     have rA:CellsAt A (w.heap.size+2) z12:=CellsAt.same x1 (tA.block _ x1.lt (by simp))
     have zA:ZRow A b 0 zs:=HP.out.z.below bwA HP.out.bl
     have oA:A.ownsRow w3.heap.size 114 4 (.slice (some ⟨w3.heap.size,0,none⟩) 0 0) 0 []:=by
      have h1:=World.ownsRow_lit (base:=w3.heap.size) (e:=114) (size:=4) X1 #[] 0 (by omega) (by unfold maxLen;omega) rfl
      rw [hzX1] at h1
      rw [hA]
      exact h1
     have HA:Hid (A=(w3.setCell ⟨w.heap.size,3,none⟩ (.int .i64 (births+1))).alloc (.cells #[] 114)):=by rw [←hX1];exact hA
     have HAF:Hid (∀X,Below A.heap.size A X->CellsAt X w.heap.size [.int .i64 wd,.int .i64 now,.int .i64 given,.int .i64 (births+1),.slice ta zs.length tc,.slice pa pn pc,.slice la ls.length lc]/\CellsAt X (w.heap.size+1) [.int .i64 kd,.string s,.string nm,.int .i64 num,.string text,.slice ra refs.length rc]/\CellsAt X (w.heap.size+2) z12/\Below w.heap.size w X/\ZRow X b 0 zs/\SRow X X.heap.size ra refs):=fun X hX=>by
      have hb:Below w.heap.size w X:=bwA.trans (hX.mono bwA.size)
      exact ⟨CellsAt.below sA hX,CellsAt.below eA hX,CellsAt.below (v:=.int .i64 0) rA hX,hb,HP.out.z.below hb HP.out.bl,SRow.mono (SRow.below HP.out.r hb) hb.size⟩
     have HS:Hid (∀X,Below A.heap.size A X->X.cell? ⟨w.heap.size,3,none⟩=some (.int .i64 (births+1))/\X.cell? ⟨w.heap.size+1,4,none⟩=some (.string text)/\X.cell? ⟨w.heap.size+1,5,none⟩=some (.slice ra refs.length rc)):=fun X hX=>by
      obtain ⟨h1,h2,_⟩:=HAF.out X hX
      exact ⟨(h1 3 _ rfl).1,(h2 4 _ rfl).1,(h2 5 _ rfl).1⟩
     have HTh:Hid (∀X,Below A.heap.size A X->Calls Tryz.prog 73 #[.agg #[.string text,.slice ra refs.length rc]] X fun e w'=>∃g c,e=.returned (.agg #[.string text,.slice (some ⟨g,0,none⟩) refs.length c])/\w'.ownsRow X.heap.size 9 1 (.slice (some ⟨g,0,none⟩) refs.length c) refs.length (refs.map Value.string)/\Below X.heap.size X w'):=fun X hX=>l1Thing_any text ra rc refs X (HAF.out X hX).2.2.2.2.2 HP.out.rn (by omega)
     have D0:Below A.heap.size A A.drew:=(Below.refl _ _).drew
     have D1:∀o,Below A.heap.size A (A.alloc o).drew:=fun o=>((Below.refl _ _).alloc (Nat.le_refl _) _).drew
     have HOA:Hid (A.ownsRow w3.heap.size 114 4 (.slice (some ⟨w3.heap.size,0,none⟩) 0 0) 0 []):=oA
     have HzA:Hid (A.heap.size=w3.heap.size+1):=hzA
     clear hfull x0 xe x1 hbw hZ hR hth hX1 hA tX1 bA tA bwA sA eA rA zA oA hzA hzX1
     go_upto_region 18 with fail
     rw [←HA.out]
     clear HA v3 v4 vq3 vq4
     go_cut [12] (fun v wx=>∃(o gr cr:Nat),v=.pointer (some ⟨o,0,none⟩)/\Hid (CellsAt wx o [.string SS,.int .i64 (births+1),.string text,.slice (some ⟨gr,0,none⟩) refs.length cr]/\wx.ownsRow A.heap.size 9 1 (.slice (some ⟨gr,0,none⟩) refs.length cr) refs.length (refs.map Value.string)/\A.heap.size<=o/\o≠gr/\Below A.heap.size A wx))
     case first=>
      obtain ⟨s3,s4,s5⟩:=HS.out A (Below.refl _ _)
      obtain ⟨r3,r4,r5⟩:=HS.out (A.alloc (.cells #[.string ⟨#[]⟩,.int .i64 0,.string ⟨#[]⟩,.slice none 0 0] 114)) ((Below.refl _ _).alloc (Nat.le_refl _) _)
      go_region_law (first
       |(go_simp;go_at_call 73;guard_target=~Calls Tryz.prog 73 _ (World.drew (World.alloc A _)) _;refine (HTh.out (A.alloc (.cells #[.string ⟨#[]⟩,.int .i64 0,.string ⟨#[]⟩,.slice none 0 0] 114)).drew (D1 _)).mono ?_;rintro e w6 ⟨gr,cr,rfl,ho6,hb6⟩;have B1:Below A.heap.size A w6:=(D1 _).trans (hb6.mono (by simp));have nA:CellsAt w6 A.heap.size [.string ⟨#[]⟩,.int .i64 0,.string ⟨#[]⟩,.slice none 0 0]:=(CellsAt.below (w:=A.alloc (.cells #[.string ⟨#[]⟩,.int .i64 0,.string ⟨#[]⟩,.slice none 0 0] 114)) (CellsAt.new A _ _) (below_undrew hb6));obtain ⟨y0,q0⟩:=nA 0 _ rfl;obtain ⟨y1,q1⟩:=nA 1 _ rfl;obtain ⟨y2,q2⟩:=nA 2 _ rfl;obtain ⟨y3,q3⟩:=nA 3 _ rfl;obtain ⟨t3,t4,t5⟩:=HS.out w6 B1)
       |(go_simp;go_at_call 73;refine (HTh.out A.drew D0).mono ?_;rintro e w6 ⟨gr,cr,rfl,ho6,hb6⟩;have nC:=ho6;have B1:Below A.heap.size A w6:=D0.trans hb6;obtain ⟨t3,t4,t5⟩:=HS.out w6 B1;obtain ⟨z3,z4,z5⟩:=HS.out (w6.alloc (.cells #[.string ⟨#[]⟩,.int .i64 0,.string ⟨#[]⟩,.slice none 0 0] 114)) (B1.alloc B1.size _)))
      all_goals (go_wp2_with fail;go_meet)
      all_goals first
       |(have tag:=nA
         have l1:=own_lt ho6 (g:=gr) rfl
         simp at l1
         have hne:∀g,(Value.slice (some ⟨gr,0,none⟩) refs.length cr).ownBlock=some g->g≠A.heap.size:=fun g hg=>by simp [Value.ownBlock] at hg;omega
         exact ⟨A.heap.size,gr,cr,rfl,set4 nA _ _ _ _,own_set4 (ho6.mono (by simp)) hne _ _ _ _,Nat.le_refl _,by omega,below_set4 B1 (Nat.le_refl _) _ _ _ _⟩)
       |(have tag:=nC
         have l1:=own_lt ho6 (g:=gr) rfl
         exact ⟨w6.heap.size,gr,cr,rfl,CellsAt.new w6 _ _,own_below (ho6.mono (by simp)) ((Below.refl _ _).alloc (Nat.le_refl _) _),B1.size,by omega,B1.alloc B1.size _⟩)
     case rest=>
      revert wc
      intro wN hcut
      obtain ⟨o,gr,cr,rfl,HC⟩:=hcut
      have hzA:=HzA.out
      obtain ⟨hCo,hOr,hAo,hog,hBN⟩:=HC.out
      have hoN:o<wN.heap.size:=hCo.lt
      have hgN:=own_lt hOr (g:=gr) rfl
      have hzN:A.heap.size<=wN.heap.size:=hBN.size
      obtain ⟨sN,eN,rN,bwN,zN,_⟩:=HAF.out wN hBN
      have HON:Hid (wN.ownsRow w3.heap.size 114 4 (.slice (some ⟨w3.heap.size,0,none⟩) 0 0) 0 []):=own_below HOA.out hBN
      have HN:Hid (∀X,Tn [w3.heap.size] wN X->CellsAt X w.heap.size [.int .i64 wd,.int .i64 now,.int .i64 given,.int .i64 (births+1),.slice ta zs.length tc,.slice pa pn pc,.slice la ls.length lc]/\CellsAt X (w.heap.size+1) [.int .i64 kd,.string s,.string nm,.int .i64 num,.string text,.slice ra refs.length rc]/\CellsAt X (w.heap.size+2) z12/\CellsAt X o [.string SS,.int .i64 (births+1),.string text,.slice (some ⟨gr,0,none⟩) refs.length cr]/\ZRow X b 0 zs/\X.ownsRow A.heap.size 9 1 (.slice (some ⟨gr,0,none⟩) refs.length cr) refs.length (refs.map Value.string)/\wN.heap.size<=X.heap.size/\Below w.heap.size w X):=fun X hX=>by
       refine ⟨CellsAt.same sN (hX.block _ sN.lt (by simp;omega)),CellsAt.same eN (hX.block _ eN.lt (by simp;omega)),CellsAt.same rN (hX.block _ rN.lt (by simp;omega)),CellsAt.same hCo (hX.block _ hoN (by simp;omega)),zN.turn hX (Nat.lt_of_lt_of_le hbl bwN.size) (by simp;omega) (fun z hz a n c e2 e3 hin=>by simp at hin;have:=HP.out.z.refs_lt hz e2 e3;omega),own_same hOr (fun q hq=>hX.block q (own_lt hOr hq).2 (by have:=(own_lt hOr hq).1;simp;omega)),hX.size,?_⟩
       exact bwN.trans (hX.below bwN.size (by intro v hv;simp at hv;omega))
      have HNs:Hid (∀z∈zs,z.1.sum≠SS):=fun z hz e=>HNo.out ⟨z.1,List.mem_map.2 ⟨z,hz,rfl⟩,e⟩
      have HSo:Hid ((zs.map (·.1.sum)).Pairwise (fun a b=>less a b=true)):=by
       have:=HP.out.ok.sorted
       rw [List.map_map] at this
       exact this
      have hw3N:w3.heap.size<=wN.heap.size:=by omega
      have HgN:Hid (A.heap.size<=gr/\gr<wN.heap.size):=hgN
      clear hCo hOr hBN sN eN rN bwN zN HTh HS D0 D1 HOA HC
      go_wp2
      go_loopw [10,11,13] (fun v dn i wr=>∃(k g c:Nat),k<=zs.length/\i=.int .i64 k/\dn=.bool (zD (zs.take k) SS)/\v=.slice (some ⟨g,0,none⟩) (zQ (zs.take k) ((⟨SS,births+1,text,refs⟩,.slice (some ⟨gr,0,none⟩) refs.length cr):Kd×Value)).length c/\Hid (wr.ownsRow w3.heap.size 114 4 (.slice (some ⟨g,0,none⟩) (zQ (zs.take k) ((⟨SS,births+1,text,refs⟩,.slice (some ⟨gr,0,none⟩) refs.length cr):Kd×Value)).length c) (zQ (zs.take k) ((⟨SS,births+1,text,refs⟩,.slice (some ⟨gr,0,none⟩) refs.length cr):Kd×Value)).length (rowC kC (zQ (zs.take k) ((⟨SS,births+1,text,refs⟩,.slice (some ⟨gr,0,none⟩) refs.length cr):Kd×Value)))/\(g=w3.heap.size∨wN.heap.size<=g)/\Tn [w3.heap.size] wN wr)) (fun _ _ i _=>zs.length -(intOf i).toNat)
      case atStart=>exact ⟨0,w3.heap.size,0,Nat.zero_le _,rfl,by simp [zD],by simp [zQ,zD],⟨by simpa [zQ,zD,rowC] using HON.out,.inl rfl,Tn.of (Below.refl _ _)⟩⟩
      case round=>
       obtain ⟨k,g,c,hk,rfl,rfl,rfl,HI⟩:=hrel
       obtain ⟨sX,eX,rX,oX,zX,_,hzX,_⟩:=HN.out wr HI.out.2.2
       obtain ⟨v4,_⟩:=sX 4 _ rfl
       obtain ⟨o0,_⟩:=oX 0 _ rfl
       obtain ⟨o1,_⟩:=oX 1 _ rfl
       obtain ⟨o2,_⟩:=oX 2 _ rfl
       obtain ⟨o3,_⟩:=oX 3 _ rfl
       have hwr3:w3.heap.size<=wr.heap.size:=by omega
       by_cases hlt:k<zs.length
       ·obtain rfl:ta=some ⟨b,0,none⟩:=HP.out.tb.resolve_right (fun e=>by rw [e] at hlt;simp at hlt)
        have HG:Hid (zs[k]?=some zs[k]):=List.getElem?_eq_getElem hlt
        obtain ⟨⟨c0,c1,c2,c3⟩,zad,zrc,hz2,_⟩:=zX k _ HG.out
        have HCC:∀X,Tn [w3.heap.size] wN X->X.cell? ⟨b,k *4,none⟩=some (.string zs[k].1.sum)/\X.cell? ⟨b,k *4+1,none⟩=some (.int .i64 zs[k].1.born)/\X.cell? ⟨b,k *4+2,none⟩=some (.string zs[k].1.text)/\X.cell? ⟨b,k *4+3,none⟩=some zs[k].2:=fun X hX=>by
         have:=((HN.out X hX).2.2.2.2.1 k _ HG.out).1
         simpa using this
        have hne:=HNs.out _ (List.getElem_mem hlt)
        have hgl:(zQ (zs.take k) ((⟨SS,births+1,text,refs⟩,.slice (some ⟨gr,0,none⟩) refs.length cr):Kd×Value)).length<=1001:=by
         have:=zQ_len (zs.take k) ((⟨SS,births+1,text,refs⟩,.slice (some ⟨gr,0,none⟩) refs.length cr):Kd×Value)
         rw [List.length_take] at this
         omega
        have HEarly:Hid _:=zQ_early ((⟨SS,births+1,text,refs⟩,.slice (some ⟨gr,0,none⟩) refs.length cr):Kd×Value) HG.out
        have HAt:Hid _:=zQ_at ((⟨SS,births+1,text,refs⟩,.slice (some ⟨gr,0,none⟩) refs.length cr):Kd×Value) HG.out
        have HLate:Hid _:=zQ_late ((⟨SS,births+1,text,refs⟩,.slice (some ⟨gr,0,none⟩) refs.length cr):Kd×Value) HSo.out HG.out
        have HD:Hid (zD (zs.take (k+1)) SS=(zD (zs.take k) SS|| !(less zs[k].1.sum SS))):=zD_snoc SS HG.out
        rw [Nat.zero_add] at c0 c1 c2 c3
        generalize hzk:zs[k]=z at *
        obtain ⟨x,zv⟩:=z
        simp only at hz2 hne c0 c1 c2 c3 HEarly HAt HLate HD HCC
        subst hz2
        have hq2:(x.sum.toList==SS.toList)=false:=beq_ne hne
        generalize hGk:zQ (zs.take k) ((⟨SS,births+1,text,refs⟩,.slice (some ⟨gr,0,none⟩) refs.length cr):Kd×Value)=gk at *
        generalize hDk:zD (zs.take k) SS=dk at *
        have HC2:Hid _:=HCC
        have hlb:b<wr.heap.size:=by omega
        have owr:=HI.out.1
        have gwr:=HI.out.2.1
        have twr:=HI.out.2.2
        clear hzk hGk hDk HCC hne oX sX eX rX zX
        cases dk with
        |true=>
         have HE:Hid _:=HLate.out rfl
         have HD':Hid (zD (zs.take (k+1)) SS=true):=by show _=_;rw [HD.out];rfl
         clear HEarly HAt HLate HI
         obtain ⟨g8,cap8,wa,hrwa,howa,hgwa,hkwa⟩:=zpush wr w3.heap.size (.slice (some ⟨g,0,none⟩) gk.length c) gk owr (x,.slice (some zad) x.refs.length zrc) ⟨_,_,_,rfl⟩ (by first|omega|(simp;omega)) (by have:=twr.size;omega) 24
         have twa:Tn [w3.heap.size] wN wa:=⟨hgwa.os.trans twr.os,hgwa.tape.trans twr.tape,hgwa.output.trans twr.output,Nat.le_trans twr.size hgwa.size,fun q hq hv=>(hgwa.block q (Nat.lt_of_lt_of_le hq twr.size) (fun e=>by simp [Value.ownBlock] at e;simp at hv;rcases gwr with h|h<;>omega)).trans (twr.block q hq hv)⟩
         have gwa:g8=w3.heap.size∨wN.heap.size<=g8:=by
          rcases hkwa with h|h
          ·simp [Value.ownBlock] at h;rw [←h];exact gwr
          ·have:=twr.size;omega
         have owa:=howa
         clear howa hgwa hkwa
         go_wp2_with (at_builtin;refine wpList_append_run rfl _ _ 24 24 rfl rfl rfl hrwa ?_)
         clear hrwa
         have HO:Hid _:=And.intro owa (And.intro gwa twa)
         clear owa gwa twa
         go_wp2
         exact ⟨⟨k+1,g8,cap8,by omega,by go_num,by rw [HD'.out],by rw [HE.out];simp,⟨by rw [HE.out];simpa using HO.out.1,HO.out.2⟩⟩,by simp [intOf];omega⟩
        |false=>
         cases hless:Op.bytesLess x.sum.toList SS.toList with
         |true=>
          have HE:Hid _:=HEarly.out rfl hless
          have HD':Hid (zD (zs.take (k+1)) SS=false):=by show _=_;rw [HD.out];unfold less;rw [hless];rfl
          clear HEarly HAt HLate HI
          obtain ⟨g8,cap8,wa,hrwa,howa,hgwa,hkwa⟩:=zpush wr w3.heap.size (.slice (some ⟨g,0,none⟩) gk.length c) gk owr (x,.slice (some zad) x.refs.length zrc) ⟨_,_,_,rfl⟩ (by first|omega|(simp;omega)) (by have:=twr.size;omega) 24
          have twa:Tn [w3.heap.size] wN wa:=⟨hgwa.os.trans twr.os,hgwa.tape.trans twr.tape,hgwa.output.trans twr.output,Nat.le_trans twr.size hgwa.size,fun q hq hv=>(hgwa.block q (Nat.lt_of_lt_of_le hq twr.size) (fun e=>by simp [Value.ownBlock] at e;simp at hv;rcases gwr with h|h<;>omega)).trans (twr.block q hq hv)⟩
          have gwa:g8=w3.heap.size∨wN.heap.size<=g8:=by
           rcases hkwa with h|h
           ·simp [Value.ownBlock] at h;rw [←h];exact gwr
           ·have:=twr.size;omega
          have owa:=howa
          clear howa hgwa hkwa
          go_wp2_with (at_builtin;refine wpList_append_run rfl _ _ 24 24 rfl rfl rfl hrwa ?_)
          clear hrwa
          have HO:Hid _:=And.intro owa (And.intro gwa twa)
          clear owa gwa twa
          go_wp2
          exact ⟨⟨k+1,g8,cap8,by omega,by go_num,by rw [HD'.out],by rw [HE.out];simp,⟨by rw [HE.out];simpa using HO.out.1,HO.out.2⟩⟩,by simp [intOf];omega⟩
         |false=>
          have HE:Hid _:=HAt.out rfl hless
          have HD':Hid (zD (zs.take (k+1)) SS=true):=by show _=_;rw [HD.out];unfold less;rw [hless];rfl
          clear HEarly HAt HLate HI
          obtain ⟨g8,cap8,wa,hrwa,howa,hgwa,hkwa⟩:=zpush wr w3.heap.size (.slice (some ⟨g,0,none⟩) (gk.length) c) gk owr (⟨SS,births+1,text,refs⟩,.slice (some ⟨gr,0,none⟩) refs.length cr) ⟨_,_,_,rfl⟩ (by first|omega|(simp;omega)) (by have:=twr.size;omega) 24
          have twa:Tn [w3.heap.size] wN wa:=⟨hgwa.os.trans twr.os,hgwa.tape.trans twr.tape,hgwa.output.trans twr.output,Nat.le_trans twr.size hgwa.size,fun q hq hv=>(hgwa.block q (Nat.lt_of_lt_of_le hq twr.size) (fun e=>by simp [Value.ownBlock] at e;simp at hv;rcases gwr with h|h<;>omega)).trans (twr.block q hq hv)⟩
          have gwa:g8=w3.heap.size∨wN.heap.size<=g8:=by
           rcases hkwa with h|h
           ·simp [Value.ownBlock] at h;rw [←h];exact gwr
           ·have:=twr.size;omega
          have owa:=howa
          clear howa hgwa hkwa
          obtain ⟨sXa,_,_,_,_,_,hzX2,_⟩:=HN.out wa twa
          obtain ⟨v4a,_⟩:=sXa 4 _ rfl
          obtain ⟨c0a,c1a,c2a,c3a⟩:=HC2.out wa twa
          have hlba:b<wa.heap.size:=by omega
          obtain ⟨g9,cap9,wb,hrwb,howb,hgwb,hkwb⟩:=zpush wa w3.heap.size (.slice (some ⟨g8,0,none⟩) (gk.length+1) cap8) (gk++[((⟨SS,births+1,text,refs⟩,.slice (some ⟨gr,0,none⟩) refs.length cr):Kd×Value)]) owa (x,.slice (some zad) x.refs.length zrc) ⟨_,_,_,rfl⟩ (by first|omega|(simp;omega)) (by have:=twa.size;omega) 24
          have twb:Tn [w3.heap.size] wN wb:=⟨hgwb.os.trans twa.os,hgwb.tape.trans twa.tape,hgwb.output.trans twa.output,Nat.le_trans twa.size hgwb.size,fun q hq hv=>(hgwb.block q (Nat.lt_of_lt_of_le hq twa.size) (fun e=>by simp [Value.ownBlock] at e;simp at hv;rcases gwa with h|h<;>omega)).trans (twa.block q hq hv)⟩
          have gwb:g9=w3.heap.size∨wN.heap.size<=g9:=by
           rcases hkwb with h|h
           ·simp [Value.ownBlock] at h;rw [←h];exact gwa
           ·have:=twa.size;omega
          have owb:=howb
          clear howb hgwb hkwb
          clear sXa
          go_wp2_with (first|(at_builtin;refine wpList_append_run rfl _ _ 24 24 rfl rfl rfl hrwa ?_)|(at_builtin;refine wpList_append_run rfl _ _ 24 24 rfl rfl rfl hrwb ?_))
          clear hrwa hrwb c0 c1 c2 c3 v4 o0 o1 o2 o3 v4a c0a c1a c2a c3a
          have HO:Hid _:=And.intro owb (And.intro gwb twb)
          clear owb gwb twb owa gwa twa
          try go_wp2
          exact ⟨⟨k+1,g9,cap9,by omega,by go_num,by rw [HD'.out],by rw [HE.out];simp,⟨by rw [HE.out];simpa using HO.out.1,HO.out.2⟩⟩,by simp [intOf];omega⟩
       ·obtain rfl:k=zs.length:=by omega
        have hO:=HI.out.1
        rw [List.take_of_length_le (Nat.le_refl _)] at hO ⊢
        have hG:=HI.out.2.1
        have hT:=HI.out.2.2
        cases hDn:zD zs SS with
        |true=>
         have hPe:=zQ_yes (((⟨SS,births+1,text,refs⟩,.slice (some ⟨gr,0,none⟩) refs.length cr):Kd×Value)) hDn
         rw [hPe] at hO ⊢
         have hTE:=hT
         have hOE:=hO
         obtain ⟨sE,eE,rE,_,zE,orE,hzE,bE⟩:=HN.out wr hTE
         obtain ⟨_,fq4⟩:=sE 4 _ rfl
         obtain ⟨X,hX⟩:∃X,X=wr.setCell ⟨w.heap.size,4,none⟩ (.slice (some ⟨g,0,none⟩) (insZ zs ((⟨SS,births+1,text,refs⟩,.slice (some ⟨gr,0,none⟩) refs.length cr):Kd×Value)).length c):=⟨_,rfl⟩
         have tX:Tn [w.heap.size] wr X:=by rw [hX];exact tn1 _ _ _ _
         have HXe:Hid _:=hX
         have HBX:Hid (CellsAt X w.heap.size [.int .i64 wd,.int .i64 now,.int .i64 given,.int .i64 (births+1),.slice (some ⟨g,0,none⟩) (insZ zs ((⟨SS,births+1,text,refs⟩,.slice (some ⟨gr,0,none⟩) refs.length cr):Kd×Value)).length c,.slice pa pn pc,.slice la ls.length lc]):=by
          show CellsAt _ _ _
          rw [hX]
          exact sE.set 4 _
         have HEX:Hid (CellsAt X (w.heap.size+1) [.int .i64 kd,.string s,.string nm,.int .i64 num,.string text,.slice ra refs.length rc]):=CellsAt.same eE (tX.block _ eE.lt (by simp))
         have HRX:Hid (CellsAt X (w.heap.size+2) z12):=CellsAt.same rE (tX.block _ rE.lt (by simp))
         have bX:Below w.heap.size w X:=bE.trans (tX.below bE.size (by intro v hv;simp at hv;omega))
         have HLX:Hid (X.ownsRow lbase 137 3 (.slice la ls.length lc) ls.length (rowC lC ls)):=own_below HP.out.lo bX
         have hXs:wr.heap.size<=X.heap.size:=tX.size
         have hlX:w.heap.size+3<=X.heap.size:=by omega
         have HTw:Hid (Tn (Value.slice la ls.length lc).ownBlock.toList w X):=Tn.of bX
         have oE:X.ownsRow w3.heap.size 114 4 (.slice (some ⟨g,0,none⟩) (insZ zs ((⟨SS,births+1,text,refs⟩,.slice (some ⟨gr,0,none⟩) refs.length cr):Kd×Value)).length c) (insZ zs ((⟨SS,births+1,text,refs⟩,.slice (some ⟨gr,0,none⟩) refs.length cr):Kd×Value)).length (rowC kC (insZ zs ((⟨SS,births+1,text,refs⟩,.slice (some ⟨gr,0,none⟩) refs.length cr):Kd×Value))):=own_same hOE (fun q hq=>tX.block q (own_lt hOE hq).2 (by have:=(own_lt hOE hq).1;simp;omega))
         have orX:X.ownsRow A.heap.size 9 1 (.slice (some ⟨gr,0,none⟩) refs.length cr) refs.length (refs.map Value.string):=own_same orE (fun q hq=>tX.block q (own_lt orE hq).2 (by have:=(own_lt orE hq).1;simp;omega))
         have zX2:ZRow X b 0 zs:=HP.out.z.below bX HP.out.bl
         have hgX:g<X.heap.size:=(own_lt oE (g:=g) rfl).2
         have hLl0:∀g,(Value.slice la ls.length lc).ownBlock=some g->g<w.heap.size:=fun g hg=>(own_lt HP.out.lo hg).2
         have HZf:Hid (∀(Y R:World) (n5:Nat),X.heap.size<=n5->Tn (Value.slice la ls.length lc).ownBlock.toList X Y->Tn [n5,w.heap.size+2] Y R->ZRow R g 0 (insZ zs ((⟨SS,births+1,text,refs⟩,.slice (some ⟨gr,0,none⟩) refs.length cr):Kd×Value))):=fun Y R n5 h5 hY hR=>by
          have hoY:=own_same oE (w':=Y) (fun q hq=>hY.block q (own_lt oE hq).2 (fun e=>by have h1:=hLl0 q (by simpa using e);have h2:=(own_lt oE hq).1;omega))
          have hoR:=own_same hoY (w':=R) (fun q hq=>hR.block q (own_lt hoY hq).2 (by have h1:=(own_lt oE hq).1;have h2:=(own_lt oE hq).2;simp;omega))
          have hrY:=own_same orX (w':=Y) (fun q hq=>hY.block q (own_lt orX hq).2 (fun e=>by have h1:=hLl0 q (by simpa using e);have h2:=(own_lt orX hq).1;omega))
          have hrR:=own_same hrY (w':=R) (fun q hq=>hR.block q (own_lt hrY hq).2 (by have h1:=(own_lt orX hq).1;have h2:=(own_lt orX hq).2;simp;omega))
          have hbX:b<X.heap.size:=Nat.lt_of_lt_of_le hbl bX.size
          have zR:=(zX2.turn hY hbX (fun e=>HP.out.bL (Eq.symm (by simpa using e))) (fun z hz a n c e2 e3 hin=>HP.out.zL z hz a n c e2 e3 (Eq.symm (by simpa using hin)))).turn hR (Nat.lt_of_lt_of_le hbX hY.size) (by simp;omega) (fun z hz a n c e2 e3 hin=>by simp at hin;have:=HP.out.z.refs_lt hz e2 e3;omega)
          refine ZRow.own hoR (fun z hz=> ?_)
          rcases insZ_mem hz with hz|rfl
          ·obtain ⟨i,hi⟩:=List.getElem?_of_mem hz
           obtain ⟨_,ad',rc',e4,h5'⟩:=zR i z hi
           exact ⟨ad',rc',e4,h5'⟩
          ·have hrow:SRow R R.heap.size (some ⟨gr,0,none⟩) refs:=by
            have h1:R.ownsRow A.heap.size 9 1 (.slice (some ⟨gr,0,none⟩) refs.length cr) refs.length (refs.map Value.string):=hrR
            exact SRow.own h1
           exact ⟨⟨gr,0,none⟩,cr,rfl,hrow⟩
         have HY2:Hid (PutYes wd births (zs.map (·.1)) text refs ((insZ zs ((⟨SS,births+1,text,refs⟩,.slice (some ⟨gr,0,none⟩) refs.length cr):Kd×Value)).map (·.1)) (births+1)):=by
          show PutYes _ _ _ _ _ _ _
          rw [insZ_map]
          exact HY1.out
         have HGo:Hid (w.heap.size<=g):=by show _<=_;rcases hG with h|h<;>omega
         have HGne:Hid (w.heap.size<g/\g<X.heap.size/\w.heap.size<gr/\gr<X.heap.size):=by
          have h1:w3.heap.size<=g/\g<X.heap.size:=own_lt oE (g:=g) rfl
          have h2:A.heap.size<=gr/\gr<X.heap.size:=own_lt orX (g:=gr) rfl
          have h3:=HgN.out.1
          have h4:w.heap.size+3<=w3.heap.size:=by have h1:=HB3.out.size;have h2:=HzW.out;omega
          exact ⟨by omega,h1.2,by omega,h2.2⟩
         have HZo:Hid (∀z∈insZ zs ((⟨SS,births+1,text,refs⟩,.slice (some ⟨gr,0,none⟩) refs.length cr):Kd×Value),z∈zs∨∃ad n rc,z.2=.slice (some ad) n rc/\w.heap.size<=ad.block):=fun z hz=>by
          rcases insZ_mem hz with hz|rfl
          ·exact .inl hz
          ·exact .inr ⟨⟨gr,0,none⟩,_,_,rfl,by have:=HgN.out.1;show w.heap.size<=gr;omega⟩
         clear hDn hPe hX tX sE eE rE zE orE oE orX zX2 bE bX hO hOE HI o0 o1 o2 o3
         go_upto_region 29 with fail
         rw [←HXe.out]
         clear HXe
         have HLe:Hid _:=l4Lease_any wd now given (births+1) (some ⟨g,0,none⟩) pa la (insZ zs ((⟨SS,births+1,text,refs⟩,.slice (some ⟨gr,0,none⟩) refs.length cr):Kd×Value)).length c pn pc lc lbase ls SS num X HLX.out (Nat.le_trans HP.out.lb (Nat.le_trans (Nat.le_add_right _ 3) hlX)) (by have:=HP.out.nl;omega) HP.out.g0 HP.out.g1 HP.out.n0 HP.out.n1 HP.out.t0 HP.out.t1
         obtain ⟨l0,_⟩:=HBX.out 0 _ rfl
         obtain ⟨l1,_⟩:=HBX.out 1 _ rfl
         obtain ⟨l2,_⟩:=HBX.out 2 _ rfl
         obtain ⟨l3,_⟩:=HBX.out 3 _ rfl
         obtain ⟨l4,_⟩:=HBX.out 4 _ rfl
         obtain ⟨l5,_⟩:=HBX.out 5 _ rfl
         obtain ⟨l6,_⟩:=HBX.out 6 _ rfl
         obtain ⟨m3,_⟩:=HEX.out 3 _ rfl
         go_wp2_with fail
         refine Calls.mono HLe.out ?_
         rintro e w5 ⟨ht5,hle5⟩
         have hLl:∀g,(Value.slice la ls.length lc).ownBlock=some g->g<w.heap.size:=fun g hg=>(own_lt HP.out.lo hg).2
         have x15:CellsAt w5 (w.heap.size+2) z12:=CellsAt.same HRX.out (ht5.block _ HRX.out.lt (fun e=>by have:=hLl _ (by simpa using e);omega))
         have hl5:w.heap.size+3<=w5.heap.size:=Nat.le_trans hlX ht5.size
         have HT5:Hid (Tn (Value.slice la ls.length lc).ownBlock.toList w w5):=HTw.out.trans ht5
         clear l0 l1 l2 l3 l4 l5 l6 m3 HLe
         obtain ⟨hfull,rfl⟩|⟨⟨hl2,hg2⟩,g2,c2,rfl,ho5,hk5⟩:=hle5
         ·obtain ⟨Y,hY⟩:∃Y,Y=w5.alloc (.cells #[.int .i64 4,.int .i64 0,.int .i64 0,.int .i64 0,.int .i64 0,.slice none 0 0,.slice none 0 0,.slice none 0 0,.string ⟨#[]⟩,.int .i64 0,.string ⟨#[]⟩,.string ⟨#[]⟩] 30):=⟨_,rfl⟩
          have bY:Below w5.heap.size w5 Y:=by rw [hY];exact (Below.refl _ _).alloc (Nat.le_refl _) _
          have yN:CellsAt Y w5.heap.size [.int .i64 4,.int .i64 0,.int .i64 0,.int .i64 0,.int .i64 0,.slice none 0 0,.slice none 0 0,.slice none 0 0,.string ⟨#[]⟩,.int .i64 0,.string ⟨#[]⟩,.string ⟨#[]⟩]:=by rw [hY];exact CellsAt.new w5 _ _
          have yR:=CellsAt.below (v:=.int .i64 0) x15 bY
          have HY:Hid _:=hY
          have HTY:Hid (Tn (Value.slice la ls.length lc).ownBlock.toList w Y):=HT5.out.trans (Tn.of bY)
          have HFu:Hid (ls.length=200∨given=1000000000):=by have h1:=HP.out.nl;have h2:=HP.out.g1;show _∨_;omega
          obtain ⟨⟨y0,q0⟩,⟨y1,q1⟩,⟨y2,q2⟩,⟨y3,q3⟩,⟨y4,q4⟩,⟨y5,q5⟩,⟨y6,q6⟩,⟨y7,q7⟩,⟨y8,q8⟩,⟨y9,q9⟩,⟨y10,q10⟩,y11,q11⟩:=z12at yR
          obtain ⟨u0,uq0⟩:=yN 0 _ rfl
          obtain ⟨u1,uq1⟩:=yN 1 _ rfl
          obtain ⟨u2,uq2⟩:=yN 2 _ rfl
          obtain ⟨u3,uq3⟩:=yN 3 _ rfl
          obtain ⟨u4,uq4⟩:=yN 4 _ rfl
          obtain ⟨u5,uq5⟩:=yN 5 _ rfl
          obtain ⟨u6,uq6⟩:=yN 6 _ rfl
          obtain ⟨u7,uq7⟩:=yN 7 _ rfl
          obtain ⟨u8,uq8⟩:=yN 8 _ rfl
          obtain ⟨u9,uq9⟩:=yN 9 _ rfl
          obtain ⟨u10,uq10⟩:=yN 10 _ rfl
          obtain ⟨u11,uq11⟩:=yN 11 _ rfl
          clear bY yN yR hY x15 ht5 hfull
          go_upto_region 30 with fail
          rw [←HY.out]
          clear HY
          go_wp2
          refine bodyPost_ret (v:=.agg (refC 4 ⟨#[]⟩ ⟨#[]⟩).toArray) (by simp [results,Tryz.results85,go_sem,y0,y1,y2,y3,y4,y5,y6,y7,y8,y9,y10,y11,refC]) rfl ?_
          exact ⟨Tn.fresh HTY.out (tn12 Y (w.heap.size+2) _ _ _ _ _ _ _ _ _ _ _ _) (by omega),.inl ⟨4,_,_,.inr ⟨HAll.out,.inr (.inr ⟨⟨_,_,HY2.out⟩,HFu.out,rfl,rfl,rfl⟩)⟩,rfl⟩⟩
         ·obtain ⟨Y,hY⟩:∃Y,Y=w5.alloc (.cells #[.int .i64 0,.int .i64 wd,.int .i64 now,.int .i64 (given+1),.int .i64 (births+1),.slice (some ⟨g,0,none⟩) (insZ zs ((⟨SS,births+1,text,refs⟩,.slice (some ⟨gr,0,none⟩) refs.length cr):Kd×Value)).length c,.slice pa pn pc,.slice (some ⟨g2,0,none⟩) (ls.length+1) c2,.string ⟨#[]⟩,.int .i64 (given+1),.string ⟨#[]⟩,.string ⟨#[]⟩] 30):=⟨_,rfl⟩
          have bY:Below w5.heap.size w5 Y:=by rw [hY];exact (Below.refl _ _).alloc (Nat.le_refl _) _
          have yN:CellsAt Y w5.heap.size [.int .i64 0,.int .i64 wd,.int .i64 now,.int .i64 (given+1),.int .i64 (births+1),.slice (some ⟨g,0,none⟩) (insZ zs ((⟨SS,births+1,text,refs⟩,.slice (some ⟨gr,0,none⟩) refs.length cr):Kd×Value)).length c,.slice pa pn pc,.slice (some ⟨g2,0,none⟩) (ls.length+1) c2,.string ⟨#[]⟩,.int .i64 (given+1),.string ⟨#[]⟩,.string ⟨#[]⟩]:=by rw [hY];exact CellsAt.new w5 _ _
          have yR:=CellsAt.below (v:=.int .i64 0) x15 bY
          have HY:Hid _:=hY
          have HTY:Hid (Tn (Value.slice la ls.length lc).ownBlock.toList w Y):=HT5.out.trans (Tn.of bY)
          have HO5:Hid _:=own_below ho5 bY
          have hb2:w5.heap.size<Y.heap.size:=yN.lt
          have hXY:Tn (Value.slice la ls.length lc).ownBlock.toList X Y:=ht5.trans (Tn.of bY)
          have key:∀R,Tn [w5.heap.size,w.heap.size+2] Y R->PutS lbase b wd now given births num zs (.slice pa pn pc) (.slice la ls.length lc) ls text refs w (.returned (.agg #[.int .i64 0,.int .i64 wd,.int .i64 now,.int .i64 (given+1),.int .i64 (births+1),.slice (some ⟨g,0,none⟩) (insZ zs ((⟨SS,births+1,text,refs⟩,.slice (some ⟨gr,0,none⟩) refs.length cr):Kd×Value)).length c,.slice pa pn pc,.slice (some ⟨g2,0,none⟩) (ls.length+1) c2,.string SS,.int .i64 (given+1),.string ⟨#[]⟩,.string ⟨#[]⟩])) R:=fun R hR=>by
           have hzf:ZRow R g 0 (insZ zs ((⟨SS,births+1,text,refs⟩,.slice (some ⟨gr,0,none⟩) refs.length cr):Kd×Value)):=HZf.out Y R _ ht5.size hXY hR
           have hg2n:g2≠w5.heap.size/\g2≠w.heap.size+2:=by
            have h1:=(own_lt ho5 (g:=g2) rfl).2
            rcases hk5 with hk5|hk5
            ·have h4:=hLl _ hk5
             omega
            ·omega
           have hof:=own_same HO5.out (w':=R) (fun q hq=>hR.block q (own_lt HO5.out hq).2 (by
            have h3:g2=q:=by simpa [Value.ownBlock] using hq
            rw [←h3]
            simp
            exact hg2n))
           refine ⟨?_,.inr ⟨_,_,g,c,insZ zs ((⟨SS,births+1,text,refs⟩,.slice (some ⟨gr,0,none⟩) refs.length cr):Kd×Value),g2,c2,HAll.out,HY2.out,hl2,hg2,by rw [hSS],rfl,hzf,?_,.inr HGo.out,HZo.out,(by rcases hk5 with h|h;exact .inl h;exact .inr (by omega)),by rw [hSS];exact hof,(by have h0:=HGne.out;rcases hk5 with h|h;(have h1:=hLl _ h;omega);omega),fun z hz a n c e2 e3 e=>by
            have h0:=HGne.out
            rcases insZ_mem hz with hz|rfl
            ·rcases hk5 with h|h
             ·exact HP.out.zL z hz a n c e2 e3 (by rw [h,e])
             ·have:=HP.out.z.refs_lt hz e2 e3
              omega
            ·cases e2
             have e':gr=g2:=e
             rcases hk5 with h|h
             ·have h1:=hLl _ h
              omega
             ·omega⟩⟩
           ·exact ⟨hR.os.trans HTY.out.os,hR.tape.trans HTY.out.tape,hR.output.trans HTY.out.output,Nat.le_trans HTY.out.size hR.size,fun q hq hv=>(hR.block q (Nat.lt_of_lt_of_le hq HTY.out.size) (by simp;omega)).trans (HTY.out.block q hq hv)⟩
           ·exact Nat.lt_of_lt_of_le hgX (Nat.le_trans hXY.size hR.size)
          have HKey:Hid _:=key
          obtain ⟨⟨y0,q0⟩,⟨y1,q1⟩,⟨y2,q2⟩,⟨y3,q3⟩,⟨y4,q4⟩,⟨y5,q5⟩,⟨y6,q6⟩,⟨y7,q7⟩,⟨y8,q8⟩,⟨y9,q9⟩,⟨y10,q10⟩,y11,q11⟩:=z12at yR
          obtain ⟨u0,uq0⟩:=yN 0 _ rfl
          obtain ⟨u1,uq1⟩:=yN 1 _ rfl
          obtain ⟨u2,uq2⟩:=yN 2 _ rfl
          obtain ⟨u3,uq3⟩:=yN 3 _ rfl
          obtain ⟨u4,uq4⟩:=yN 4 _ rfl
          obtain ⟨u5,uq5⟩:=yN 5 _ rfl
          obtain ⟨u6,uq6⟩:=yN 6 _ rfl
          obtain ⟨u7,uq7⟩:=yN 7 _ rfl
          obtain ⟨u8,uq8⟩:=yN 8 _ rfl
          obtain ⟨u9,uq9⟩:=yN 9 _ rfl
          obtain ⟨u10,uq10⟩:=yN 10 _ rfl
          obtain ⟨u11,uq11⟩:=yN 11 _ rfl
          clear bY yN yR hY x15 ht5 key ho5 hXY
          go_upto_region 30 with fail
          rw [←HY.out]
          clear HY
          go_wp2
          refine bodyPost_ret (v:=.agg #[.int .i64 0,.int .i64 wd,.int .i64 now,.int .i64 (given+1),.int .i64 (births+1),.slice (some ⟨g,0,none⟩) (insZ zs ((⟨SS,births+1,text,refs⟩,.slice (some ⟨gr,0,none⟩) refs.length cr):Kd×Value)).length c,.slice pa pn pc,.slice (some ⟨g2,0,none⟩) (ls.length+1) c2,.string SS,.int .i64 (given+1),.string ⟨#[]⟩,.string ⟨#[]⟩]) (by simp [results,Tryz.results85,go_sem,y0,y1,y2,y3,y4,y5,y6,y7,y8,y9,y10,y11]) rfl ?_
          refine HKey.out _ ?_
          repeat refine Tn.trans ?_ (Tn.set _ _ _ _ (by simp))
          exact Tn.of (Below.refl _ _)
        |false=>
         have hQl:=zQ_len zs (((⟨SS,births+1,text,refs⟩,.slice (some ⟨gr,0,none⟩) refs.length cr):Kd×Value))
         have hPe:=zQ_no (((⟨SS,births+1,text,refs⟩,.slice (some ⟨gr,0,none⟩) refs.length cr):Kd×Value)) hDn
         obtain ⟨g8,cap8,w8,hr8,ho8,hg8,hk8⟩:=zpush wr w3.heap.size (.slice (some ⟨g,0,none⟩) (zQ zs (((⟨SS,births+1,text,refs⟩,.slice (some ⟨gr,0,none⟩) refs.length cr):Kd×Value))).length c) (zQ zs (((⟨SS,births+1,text,refs⟩,.slice (some ⟨gr,0,none⟩) refs.length cr):Kd×Value))) hO (((⟨SS,births+1,text,refs⟩,.slice (some ⟨gr,0,none⟩) refs.length cr):Kd×Value)) ⟨_,_,_,rfl⟩ (by omega) (by have:=hT.size;omega) 24
         have hTE:Tn [w3.heap.size] wN w8:=⟨hg8.os.trans hT.os,hg8.tape.trans hT.tape,hg8.output.trans hT.output,Nat.le_trans hT.size hg8.size,fun q hq hv=>(hg8.block q (Nat.lt_of_lt_of_le hq hT.size) (fun e=>by simp [Value.ownBlock] at e;simp at hv;rcases hG with h|h<;>omega)).trans (hT.block q hq hv)⟩
         have HPl:Hid ((insZ zs (((⟨SS,births+1,text,refs⟩,.slice (some ⟨gr,0,none⟩) refs.length cr):Kd×Value))).length=(zQ zs (((⟨SS,births+1,text,refs⟩,.slice (some ⟨gr,0,none⟩) refs.length cr):Kd×Value))).length+1):=by show _=_;rw [←hPe];simp
         rw [hPe] at ho8
         have hOE:w8.ownsRow w3.heap.size 114 4 (.slice (some ⟨g8,0,none⟩) (insZ zs (((⟨SS,births+1,text,refs⟩,.slice (some ⟨gr,0,none⟩) refs.length cr):Kd×Value))).length cap8) (insZ zs (((⟨SS,births+1,text,refs⟩,.slice (some ⟨gr,0,none⟩) refs.length cr):Kd×Value))).length (rowC kC (insZ zs (((⟨SS,births+1,text,refs⟩,.slice (some ⟨gr,0,none⟩) refs.length cr):Kd×Value)))):=by rw [HPl.out];rw [HPl.out] at ho8;exact ho8
         rw [←HPl.out] at hr8
         obtain ⟨sE,eE,rE,_,zE,orE,hzE,bE⟩:=HN.out w8 hTE
         obtain ⟨_,fq4⟩:=sE 4 _ rfl
         obtain ⟨X,hX⟩:∃X,X=w8.setCell ⟨w.heap.size,4,none⟩ (.slice (some ⟨g8,0,none⟩) (insZ zs ((⟨SS,births+1,text,refs⟩,.slice (some ⟨gr,0,none⟩) refs.length cr):Kd×Value)).length cap8):=⟨_,rfl⟩
         have tX:Tn [w.heap.size] w8 X:=by rw [hX];exact tn1 _ _ _ _
         have HXe:Hid _:=hX
         have HBX:Hid (CellsAt X w.heap.size [.int .i64 wd,.int .i64 now,.int .i64 given,.int .i64 (births+1),.slice (some ⟨g8,0,none⟩) (insZ zs ((⟨SS,births+1,text,refs⟩,.slice (some ⟨gr,0,none⟩) refs.length cr):Kd×Value)).length cap8,.slice pa pn pc,.slice la ls.length lc]):=by
          show CellsAt _ _ _
          rw [hX]
          exact sE.set 4 _
         have HEX:Hid (CellsAt X (w.heap.size+1) [.int .i64 kd,.string s,.string nm,.int .i64 num,.string text,.slice ra refs.length rc]):=CellsAt.same eE (tX.block _ eE.lt (by simp))
         have HRX:Hid (CellsAt X (w.heap.size+2) z12):=CellsAt.same rE (tX.block _ rE.lt (by simp))
         have bX:Below w.heap.size w X:=bE.trans (tX.below bE.size (by intro v hv;simp at hv;omega))
         have HLX:Hid (X.ownsRow lbase 137 3 (.slice la ls.length lc) ls.length (rowC lC ls)):=own_below HP.out.lo bX
         have hXs:w8.heap.size<=X.heap.size:=tX.size
         have hlX:w.heap.size+3<=X.heap.size:=by omega
         have HTw:Hid (Tn (Value.slice la ls.length lc).ownBlock.toList w X):=Tn.of bX
         have oE:X.ownsRow w3.heap.size 114 4 (.slice (some ⟨g8,0,none⟩) (insZ zs ((⟨SS,births+1,text,refs⟩,.slice (some ⟨gr,0,none⟩) refs.length cr):Kd×Value)).length cap8) (insZ zs ((⟨SS,births+1,text,refs⟩,.slice (some ⟨gr,0,none⟩) refs.length cr):Kd×Value)).length (rowC kC (insZ zs ((⟨SS,births+1,text,refs⟩,.slice (some ⟨gr,0,none⟩) refs.length cr):Kd×Value))):=own_same hOE (fun q hq=>tX.block q (own_lt hOE hq).2 (by have:=(own_lt hOE hq).1;simp;omega))
         have orX:X.ownsRow A.heap.size 9 1 (.slice (some ⟨gr,0,none⟩) refs.length cr) refs.length (refs.map Value.string):=own_same orE (fun q hq=>tX.block q (own_lt orE hq).2 (by have:=(own_lt orE hq).1;simp;omega))
         have zX2:ZRow X b 0 zs:=HP.out.z.below bX HP.out.bl
         have hgX:g8<X.heap.size:=(own_lt oE (g:=g8) rfl).2
         have hLl0:∀g,(Value.slice la ls.length lc).ownBlock=some g->g<w.heap.size:=fun g hg=>(own_lt HP.out.lo hg).2
         have HZf:Hid (∀(Y R:World) (n5:Nat),X.heap.size<=n5->Tn (Value.slice la ls.length lc).ownBlock.toList X Y->Tn [n5,w.heap.size+2] Y R->ZRow R g8 0 (insZ zs ((⟨SS,births+1,text,refs⟩,.slice (some ⟨gr,0,none⟩) refs.length cr):Kd×Value))):=fun Y R n5 h5 hY hR=>by
          have hoY:=own_same oE (w':=Y) (fun q hq=>hY.block q (own_lt oE hq).2 (fun e=>by have h1:=hLl0 q (by simpa using e);have h2:=(own_lt oE hq).1;omega))
          have hoR:=own_same hoY (w':=R) (fun q hq=>hR.block q (own_lt hoY hq).2 (by have h1:=(own_lt oE hq).1;have h2:=(own_lt oE hq).2;simp;omega))
          have hrY:=own_same orX (w':=Y) (fun q hq=>hY.block q (own_lt orX hq).2 (fun e=>by have h1:=hLl0 q (by simpa using e);have h2:=(own_lt orX hq).1;omega))
          have hrR:=own_same hrY (w':=R) (fun q hq=>hR.block q (own_lt hrY hq).2 (by have h1:=(own_lt orX hq).1;have h2:=(own_lt orX hq).2;simp;omega))
          have hbX:b<X.heap.size:=Nat.lt_of_lt_of_le hbl bX.size
          have zR:=(zX2.turn hY hbX (fun e=>HP.out.bL (Eq.symm (by simpa using e))) (fun z hz a n c e2 e3 hin=>HP.out.zL z hz a n c e2 e3 (Eq.symm (by simpa using hin)))).turn hR (Nat.lt_of_lt_of_le hbX hY.size) (by simp;omega) (fun z hz a n c e2 e3 hin=>by simp at hin;have:=HP.out.z.refs_lt hz e2 e3;omega)
          refine ZRow.own hoR (fun z hz=> ?_)
          rcases insZ_mem hz with hz|rfl
          ·obtain ⟨i,hi⟩:=List.getElem?_of_mem hz
           obtain ⟨_,ad',rc',e4,h5'⟩:=zR i z hi
           exact ⟨ad',rc',e4,h5'⟩
          ·have hrow:SRow R R.heap.size (some ⟨gr,0,none⟩) refs:=by
            have h1:R.ownsRow A.heap.size 9 1 (.slice (some ⟨gr,0,none⟩) refs.length cr) refs.length (refs.map Value.string):=hrR
            exact SRow.own h1
           exact ⟨⟨gr,0,none⟩,cr,rfl,hrow⟩
         have HY2:Hid (PutYes wd births (zs.map (·.1)) text refs ((insZ zs ((⟨SS,births+1,text,refs⟩,.slice (some ⟨gr,0,none⟩) refs.length cr):Kd×Value)).map (·.1)) (births+1)):=by
          show PutYes _ _ _ _ _ _ _
          rw [insZ_map]
          exact HY1.out
         have HGo:Hid (w.heap.size<=g8):=by
          show _<=_
          rcases hk8 with h|h
          ·have h2:g=g8:=by simpa [Value.ownBlock] using h
           rcases hG with h3|h3<;>omega
          ·have:=hT.size;omega
         have HGne:Hid (w.heap.size<g8/\g8<X.heap.size/\w.heap.size<gr/\gr<X.heap.size):=by
          have h1:w3.heap.size<=g8/\g8<X.heap.size:=own_lt oE (g:=g8) rfl
          have h2:A.heap.size<=gr/\gr<X.heap.size:=own_lt orX (g:=gr) rfl
          have h3:=HgN.out.1
          have h4:w.heap.size+3<=w3.heap.size:=by have h1:=HB3.out.size;have h2:=HzW.out;omega
          exact ⟨by omega,h1.2,by omega,h2.2⟩
         have HZo:Hid (∀z∈insZ zs ((⟨SS,births+1,text,refs⟩,.slice (some ⟨gr,0,none⟩) refs.length cr):Kd×Value),z∈zs∨∃ad n rc,z.2=.slice (some ad) n rc/\w.heap.size<=ad.block):=fun z hz=>by
          rcases insZ_mem hz with hz|rfl
          ·exact .inl hz
          ·exact .inr ⟨⟨gr,0,none⟩,_,_,rfl,by have:=HgN.out.1;show w.heap.size<=gr;omega⟩
         clear hDn hPe hX tX sE eE rE zE orE oE orX zX2 bE bX hO hOE HI ho8 hg8 hk8
         go_upto_region 29 with (at_builtin;refine wpList_append_run rfl _ _ 24 24 rfl rfl rfl hr8 ?_)
         rw [←HXe.out]
         clear HXe
         have HLe:Hid _:=l4Lease_any wd now given (births+1) (some ⟨g8,0,none⟩) pa la (insZ zs ((⟨SS,births+1,text,refs⟩,.slice (some ⟨gr,0,none⟩) refs.length cr):Kd×Value)).length cap8 pn pc lc lbase ls SS num X HLX.out (Nat.le_trans HP.out.lb (Nat.le_trans (Nat.le_add_right _ 3) hlX)) (by have:=HP.out.nl;omega) HP.out.g0 HP.out.g1 HP.out.n0 HP.out.n1 HP.out.t0 HP.out.t1
         obtain ⟨l0,_⟩:=HBX.out 0 _ rfl
         obtain ⟨l1,_⟩:=HBX.out 1 _ rfl
         obtain ⟨l2,_⟩:=HBX.out 2 _ rfl
         obtain ⟨l3,_⟩:=HBX.out 3 _ rfl
         obtain ⟨l4,_⟩:=HBX.out 4 _ rfl
         obtain ⟨l5,_⟩:=HBX.out 5 _ rfl
         obtain ⟨l6,_⟩:=HBX.out 6 _ rfl
         obtain ⟨m3,_⟩:=HEX.out 3 _ rfl
         go_wp2_with fail
         refine Calls.mono HLe.out ?_
         rintro e w5 ⟨ht5,hle5⟩
         have hLl:∀g,(Value.slice la ls.length lc).ownBlock=some g->g<w.heap.size:=fun g hg=>(own_lt HP.out.lo hg).2
         have x15:CellsAt w5 (w.heap.size+2) z12:=CellsAt.same HRX.out (ht5.block _ HRX.out.lt (fun e=>by have:=hLl _ (by simpa using e);omega))
         have hl5:w.heap.size+3<=w5.heap.size:=Nat.le_trans hlX ht5.size
         have HT5:Hid (Tn (Value.slice la ls.length lc).ownBlock.toList w w5):=HTw.out.trans ht5
         clear l0 l1 l2 l3 l4 l5 l6 m3 HLe
         obtain ⟨hfull,rfl⟩|⟨⟨hl2,hg2⟩,g2,c2,rfl,ho5,hk5⟩:=hle5
         ·obtain ⟨Y,hY⟩:∃Y,Y=w5.alloc (.cells #[.int .i64 4,.int .i64 0,.int .i64 0,.int .i64 0,.int .i64 0,.slice none 0 0,.slice none 0 0,.slice none 0 0,.string ⟨#[]⟩,.int .i64 0,.string ⟨#[]⟩,.string ⟨#[]⟩] 30):=⟨_,rfl⟩
          have bY:Below w5.heap.size w5 Y:=by rw [hY];exact (Below.refl _ _).alloc (Nat.le_refl _) _
          have yN:CellsAt Y w5.heap.size [.int .i64 4,.int .i64 0,.int .i64 0,.int .i64 0,.int .i64 0,.slice none 0 0,.slice none 0 0,.slice none 0 0,.string ⟨#[]⟩,.int .i64 0,.string ⟨#[]⟩,.string ⟨#[]⟩]:=by rw [hY];exact CellsAt.new w5 _ _
          have yR:=CellsAt.below (v:=.int .i64 0) x15 bY
          have HY:Hid _:=hY
          have HTY:Hid (Tn (Value.slice la ls.length lc).ownBlock.toList w Y):=HT5.out.trans (Tn.of bY)
          have HFu:Hid (ls.length=200∨given=1000000000):=by have h1:=HP.out.nl;have h2:=HP.out.g1;show _∨_;omega
          obtain ⟨⟨y0,q0⟩,⟨y1,q1⟩,⟨y2,q2⟩,⟨y3,q3⟩,⟨y4,q4⟩,⟨y5,q5⟩,⟨y6,q6⟩,⟨y7,q7⟩,⟨y8,q8⟩,⟨y9,q9⟩,⟨y10,q10⟩,y11,q11⟩:=z12at yR
          obtain ⟨u0,uq0⟩:=yN 0 _ rfl
          obtain ⟨u1,uq1⟩:=yN 1 _ rfl
          obtain ⟨u2,uq2⟩:=yN 2 _ rfl
          obtain ⟨u3,uq3⟩:=yN 3 _ rfl
          obtain ⟨u4,uq4⟩:=yN 4 _ rfl
          obtain ⟨u5,uq5⟩:=yN 5 _ rfl
          obtain ⟨u6,uq6⟩:=yN 6 _ rfl
          obtain ⟨u7,uq7⟩:=yN 7 _ rfl
          obtain ⟨u8,uq8⟩:=yN 8 _ rfl
          obtain ⟨u9,uq9⟩:=yN 9 _ rfl
          obtain ⟨u10,uq10⟩:=yN 10 _ rfl
          obtain ⟨u11,uq11⟩:=yN 11 _ rfl
          clear bY yN yR hY x15 ht5 hfull
          go_upto_region 30 with fail
          rw [←HY.out]
          clear HY
          go_wp2
          refine bodyPost_ret (v:=.agg (refC 4 ⟨#[]⟩ ⟨#[]⟩).toArray) (by simp [results,Tryz.results85,go_sem,y0,y1,y2,y3,y4,y5,y6,y7,y8,y9,y10,y11,refC]) rfl ?_
          exact ⟨Tn.fresh HTY.out (tn12 Y (w.heap.size+2) _ _ _ _ _ _ _ _ _ _ _ _) (by omega),.inl ⟨4,_,_,.inr ⟨HAll.out,.inr (.inr ⟨⟨_,_,HY2.out⟩,HFu.out,rfl,rfl,rfl⟩)⟩,rfl⟩⟩
         ·obtain ⟨Y,hY⟩:∃Y,Y=w5.alloc (.cells #[.int .i64 0,.int .i64 wd,.int .i64 now,.int .i64 (given+1),.int .i64 (births+1),.slice (some ⟨g8,0,none⟩) (insZ zs ((⟨SS,births+1,text,refs⟩,.slice (some ⟨gr,0,none⟩) refs.length cr):Kd×Value)).length cap8,.slice pa pn pc,.slice (some ⟨g2,0,none⟩) (ls.length+1) c2,.string ⟨#[]⟩,.int .i64 (given+1),.string ⟨#[]⟩,.string ⟨#[]⟩] 30):=⟨_,rfl⟩
          have bY:Below w5.heap.size w5 Y:=by rw [hY];exact (Below.refl _ _).alloc (Nat.le_refl _) _
          have yN:CellsAt Y w5.heap.size [.int .i64 0,.int .i64 wd,.int .i64 now,.int .i64 (given+1),.int .i64 (births+1),.slice (some ⟨g8,0,none⟩) (insZ zs ((⟨SS,births+1,text,refs⟩,.slice (some ⟨gr,0,none⟩) refs.length cr):Kd×Value)).length cap8,.slice pa pn pc,.slice (some ⟨g2,0,none⟩) (ls.length+1) c2,.string ⟨#[]⟩,.int .i64 (given+1),.string ⟨#[]⟩,.string ⟨#[]⟩]:=by rw [hY];exact CellsAt.new w5 _ _
          have yR:=CellsAt.below (v:=.int .i64 0) x15 bY
          have HY:Hid _:=hY
          have HTY:Hid (Tn (Value.slice la ls.length lc).ownBlock.toList w Y):=HT5.out.trans (Tn.of bY)
          have HO5:Hid _:=own_below ho5 bY
          have hb2:w5.heap.size<Y.heap.size:=yN.lt
          have hXY:Tn (Value.slice la ls.length lc).ownBlock.toList X Y:=ht5.trans (Tn.of bY)
          have key:∀R,Tn [w5.heap.size,w.heap.size+2] Y R->PutS lbase b wd now given births num zs (.slice pa pn pc) (.slice la ls.length lc) ls text refs w (.returned (.agg #[.int .i64 0,.int .i64 wd,.int .i64 now,.int .i64 (given+1),.int .i64 (births+1),.slice (some ⟨g8,0,none⟩) (insZ zs ((⟨SS,births+1,text,refs⟩,.slice (some ⟨gr,0,none⟩) refs.length cr):Kd×Value)).length cap8,.slice pa pn pc,.slice (some ⟨g2,0,none⟩) (ls.length+1) c2,.string SS,.int .i64 (given+1),.string ⟨#[]⟩,.string ⟨#[]⟩])) R:=fun R hR=>by
           have hzf:ZRow R g8 0 (insZ zs ((⟨SS,births+1,text,refs⟩,.slice (some ⟨gr,0,none⟩) refs.length cr):Kd×Value)):=HZf.out Y R _ ht5.size hXY hR
           have hg2n:g2≠w5.heap.size/\g2≠w.heap.size+2:=by
            have h1:=(own_lt ho5 (g:=g2) rfl).2
            rcases hk5 with hk5|hk5
            ·have h4:=hLl _ hk5
             omega
            ·omega
           have hof:=own_same HO5.out (w':=R) (fun q hq=>hR.block q (own_lt HO5.out hq).2 (by
            have h3:g2=q:=by simpa [Value.ownBlock] using hq
            rw [←h3]
            simp
            exact hg2n))
           refine ⟨?_,.inr ⟨_,_,g8,cap8,insZ zs ((⟨SS,births+1,text,refs⟩,.slice (some ⟨gr,0,none⟩) refs.length cr):Kd×Value),g2,c2,HAll.out,HY2.out,hl2,hg2,by rw [hSS],rfl,hzf,?_,.inr HGo.out,HZo.out,(by rcases hk5 with h|h;exact .inl h;exact .inr (by omega)),by rw [hSS];exact hof,(by have h0:=HGne.out;rcases hk5 with h|h;(have h1:=hLl _ h;omega);omega),fun z hz a n c e2 e3 e=>by
            have h0:=HGne.out
            rcases insZ_mem hz with hz|rfl
            ·rcases hk5 with h|h
             ·exact HP.out.zL z hz a n c e2 e3 (by rw [h,e])
             ·have:=HP.out.z.refs_lt hz e2 e3
              omega
            ·cases e2
             have e':gr=g2:=e
             rcases hk5 with h|h
             ·have h1:=hLl _ h
              omega
             ·omega⟩⟩
           ·exact ⟨hR.os.trans HTY.out.os,hR.tape.trans HTY.out.tape,hR.output.trans HTY.out.output,Nat.le_trans HTY.out.size hR.size,fun q hq hv=>(hR.block q (Nat.lt_of_lt_of_le hq HTY.out.size) (by simp;omega)).trans (HTY.out.block q hq hv)⟩
           ·exact Nat.lt_of_lt_of_le hgX (Nat.le_trans hXY.size hR.size)
          have HKey:Hid _:=key
          obtain ⟨⟨y0,q0⟩,⟨y1,q1⟩,⟨y2,q2⟩,⟨y3,q3⟩,⟨y4,q4⟩,⟨y5,q5⟩,⟨y6,q6⟩,⟨y7,q7⟩,⟨y8,q8⟩,⟨y9,q9⟩,⟨y10,q10⟩,y11,q11⟩:=z12at yR
          obtain ⟨u0,uq0⟩:=yN 0 _ rfl
          obtain ⟨u1,uq1⟩:=yN 1 _ rfl
          obtain ⟨u2,uq2⟩:=yN 2 _ rfl
          obtain ⟨u3,uq3⟩:=yN 3 _ rfl
          obtain ⟨u4,uq4⟩:=yN 4 _ rfl
          obtain ⟨u5,uq5⟩:=yN 5 _ rfl
          obtain ⟨u6,uq6⟩:=yN 6 _ rfl
          obtain ⟨u7,uq7⟩:=yN 7 _ rfl
          obtain ⟨u8,uq8⟩:=yN 8 _ rfl
          obtain ⟨u9,uq9⟩:=yN 9 _ rfl
          obtain ⟨u10,uq10⟩:=yN 10 _ rfl
          obtain ⟨u11,uq11⟩:=yN 11 _ rfl
          clear bY yN yR hY x15 ht5 key ho5 hXY
          go_upto_region 30 with fail
          rw [←HY.out]
          clear HY
          go_wp2
          refine bodyPost_ret (v:=.agg #[.int .i64 0,.int .i64 wd,.int .i64 now,.int .i64 (given+1),.int .i64 (births+1),.slice (some ⟨g8,0,none⟩) (insZ zs ((⟨SS,births+1,text,refs⟩,.slice (some ⟨gr,0,none⟩) refs.length cr):Kd×Value)).length cap8,.slice pa pn pc,.slice (some ⟨g2,0,none⟩) (ls.length+1) c2,.string SS,.int .i64 (given+1),.string ⟨#[]⟩,.string ⟨#[]⟩]) (by simp [results,Tryz.results85,go_sem,y0,y1,y2,y3,y4,y5,y6,y7,y8,y9,y10,y11]) rfl ?_
          refine HKey.out _ ?_
          repeat refine Tn.trans ?_ (Tn.set _ _ _ _ (by simp))
          exact Tn.of (Below.refl _ _)
end Go.Proofs.YtpekbmegopfhfaaGreatDoor
