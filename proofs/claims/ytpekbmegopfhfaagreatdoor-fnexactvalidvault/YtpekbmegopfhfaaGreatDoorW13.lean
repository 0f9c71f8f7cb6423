import Derived.Test.YtpekbmegopfhfaaGreatDoorW12
import Derived.Test.YtpekbmegopfhfaaGreatDoorW09
namespace Go.Proofs.YtpekbmegopfhfaaGreatDoor
open Go.ChangeShapes Go.WideShapes Go.ChangeAt Go.RowKit
def ZRow (w:World) (b off:Nat) (zs:List (Kd×Value)):Prop:=
 ∀i z,zs[i]?=some z->(w.cell? ⟨b,off+i *4,none⟩=some (.string z.1.sum)/\w.cell? ⟨b,off+i *4+1,none⟩=some (.int .i64 z.1.born)/\w.cell? ⟨b,off+i *4+2,none⟩=some (.string z.1.text)/\w.cell? ⟨b,off+i *4+3,none⟩=some z.2)/\∃ad rc,z.2=.slice (some ad) z.1.refs.length rc/\SRow w w.heap.size (some ad) z.1.refs
theorem ZRow.below {w w':World} {b off:Nat} {zs:List (Kd×Value)} (h:ZRow w b off zs) (hb:Below w.heap.size w w') (hl:b<w.heap.size):ZRow w' b off zs:=by
 intro i z hz
 obtain ⟨⟨h0,h1,h2,h3⟩,ad,rc,h4,h5⟩:=h i z hz
 exact ⟨⟨(hb.cell (p:=⟨b,off+i *4,none⟩) hl).trans h0,(hb.cell (p:=⟨b,off+i *4+1,none⟩) hl).trans h1,(hb.cell (p:=⟨b,off+i *4+2,none⟩) hl).trans h2,(hb.cell (p:=⟨b,off+i *4+3,none⟩) hl).trans h3⟩,ad,rc,h4,SRow.mono (SRow.below h5 hb) hb.size⟩
theorem ZRow.krow {w:World} {b off:Nat} {zs:List (Kd×Value)} (h:ZRow w b off zs) (hl:b<w.heap.size):KRow w w.heap.size (some ⟨b,off,none⟩) (zs.map (·.1)):=by
 refine .inr ⟨b,off,rfl,hl,fun i k hk=> ?_⟩
 rw [List.getElem?_map] at hk
 cases hz:zs[i]? with
 |none=>rw [hz] at hk;cases hk
 |some z=>
  rw [hz] at hk
  cases hk
  obtain ⟨⟨h0,h1,h2,h3⟩,ad,rc,h4,h5⟩:=h i z hz
  exact ⟨h0,h1,h2,some ad,rc,by rw [h3,h4],h5⟩
theorem ZRow.own {w:World} {base g cap:Nat} {zs:List (Kd×Value)} (ho:w.ownsRow base 114 4 (.slice (some ⟨g,0,none⟩) zs.length cap) zs.length (rowC kC zs)) (hs:∀z∈zs,∃ad rc,z.2=.slice (some ad) z.1.refs.length rc/\SRow w w.heap.size (some ad) z.1.refs):ZRow w g 0 zs:=by
 intro i z hz
 have hi:=(List.getElem?_eq_some_iff.1 hz).1
 have hc:∀j,j<4->w.cell? ⟨g,i *4+j,none⟩=(kC z)[j]?:=fun j hj=>(ho.cellAt (i *4+j) (by omega)).trans (row_get kC_len4 hz hj)
 refine ⟨⟨?_,?_,?_,?_⟩,hs z (List.mem_of_getElem? hz)⟩
 ·rw [Nat.zero_add];simpa [kC] using hc 0 (by decide)
 ·rw [Nat.zero_add];simpa [kC] using hc 1 (by decide)
 ·rw [Nat.zero_add];simpa [kC] using hc 2 (by decide)
 ·rw [Nat.zero_add];simpa [kC] using hc 3 (by decide)
def dropZ (zs:List (Kd×Value)) (s:ByteArray):List (Kd×Value):=zs.filter (fun z=> !decide (z.1.sum=s))
theorem dropZ_map (zs:List (Kd×Value)) (s:ByteArray):(dropZ zs s).map (·.1)=dropK (zs.map (·.1)) s:=by
 unfold dropZ dropK
 rw [List.filter_map]
 rfl
theorem dropZ_snoc {zs:List (Kd×Value)} {k:Nat} {z:Kd×Value} (s:ByteArray) (hz:zs[k]?=some z):dropZ (zs.take (k+1)) s=dropZ (zs.take k) s++(if z.1.sum=s then [] else [z]):=by
 obtain ⟨hlt,rfl⟩:=List.getElem?_eq_some_iff.1 hz
 unfold dropZ
 rw [List.take_succ_eq_append_getElem hlt,List.filter_append]
 by_cases h:zs[k].1.sum=s<;>simp [h]
theorem sbox_of {w:World} {b:Nat} {wd now given births:Int} {T P L:Value} (h:CellsAt w b [.int .i64 wd,.int .i64 now,.int .i64 given,.int .i64 births,T,P,L]):SBox w b wd now given births T P L:=
 ⟨(h 0 _ rfl).1,(h 1 _ rfl).1,(h 2 _ rfl).1,(h 3 _ rfl).1,(h 4 _ rfl).1,(h 5 _ rfl).1,(h 6 _ rfl).1,h.lt⟩
def InUse (ps:List Pd) (ls:List Ld) (ks:List Kd) (s:ByteArray):Prop:=((∃p∈ps,p.sum=s)∨∃l∈ls,l.sum=s)∨∃k∈ks,s∈k.refs
def Dropped (w w':World) (e:Ending) (wd now given births:Int) (P L:Value) (zs:List (Kd×Value)) (ps:List Pd) (ls:List Ld) (s:ByteArray):Prop:=
 Below w.heap.size w w'/\((InUse ps ls (zs.map (·.1)) s/\e=.returned (.agg #[.int .i64 6,.int .i64 0,.int .i64 0,.int .i64 0,.int .i64 0,.slice none 0 0,.slice none 0 0,.slice none 0 0,.string ⟨#[]⟩,.int .i64 0,.string ⟨#[]⟩,.string ⟨#[]⟩]))∨
  (¬InUse ps ls (zs.map (·.1)) s/\∃g c,e=.returned (.agg #[.int .i64 0,.int .i64 wd,.int .i64 now,.int .i64 given,.int .i64 births,.slice (some ⟨g,0,none⟩) (dropZ zs s).length c,P,L,.string ⟨#[]⟩,.int .i64 0,.string ⟨#[]⟩,.string ⟨#[]⟩])/\ZRow w' g 0 (dropZ zs s)/\w.heap.size<=g/\g<w'.heap.size))
set_option maxRecDepth 20000 in
set_option maxHeartbeats 4000000 in
theorem l4Drop_any (wd now given births:Int) (b off ac pc lc:Nat) (p l:Option Addr) (zs:List (Kd×Value)) (ps:List Pd) (ls:List Ld) (s:ByteArray) (w:World) (hz:ZRow w b off zs) (hbl:b<w.heap.size) (hp:PRow w w.heap.size p ps) (hl:LRow w w.heap.size l ls) (hzl:zs.length<=600) (hpl:ps.length<=100) (hll:ls.length<=200) (hr:∀z∈zs,z.1.refs.length<=1000) (hth:There (zs.map (·.1)) s):
 Calls Tryz.prog 91 #[.agg #[.int .i64 wd,.int .i64 now,.int .i64 given,.int .i64 births,.slice (some ⟨b,off,none⟩) zs.length ac,.slice p ps.length pc,.slice l ls.length lc],.string s] w fun e w'=>Dropped w w' e wd now given births (.slice p ps.length pc) (.slice l ls.length lc) zs ps ls s:=by
 obtain ⟨W,hW⟩:∃W,W=(w.alloc (.cells #[.int .i64 wd,.int .i64 now,.int .i64 given,.int .i64 births,.slice (some ⟨b,off,none⟩) zs.length ac,.slice p ps.length pc,.slice l ls.length lc] 28)).alloc (.cells #[.int .i64 0,.int .i64 0,.int .i64 0,.int .i64 0,.int .i64 0,.slice none 0 0,.slice none 0 0,.slice none 0 0,.string ⟨#[]⟩,.int .i64 0,.string ⟨#[]⟩,.string ⟨#[]⟩] 30):=⟨_,rfl⟩
 have hB:Below w.heap.size w W:=by rw [hW];exact ((Below.refl _ _).alloc (Nat.le_refl _) _).alloc (by simp) _
 have hzW:W.heap.size=w.heap.size+2:=by rw [hW];simp
 have xW:SBox W w.heap.size wd now given births (.slice (some ⟨b,off,none⟩) zs.length ac) (.slice p ps.length pc) (.slice l ls.length lc):=by rw [hW];exact SBox.keep (SBox.new w wd now given births _ _ _ 28) ((Below.refl _ _).alloc (Nat.le_refl _) _) (by simp)
 have zR:CellsAt W (w.heap.size+1) z12:=by
  have h1:=CellsAt.new (w.alloc (.cells #[.int .i64 wd,.int .i64 now,.int .i64 given,.int .i64 births,.slice (some ⟨b,off,none⟩) zs.length ac,.slice p ps.length pc,.slice l ls.length lc] 28)) z12 30
  rw [World.size_alloc] at h1
  rw [hW]
  exact h1
 have HF:=find_any wd now given births (some ⟨b,off,none⟩) ac (.slice p ps.length pc) (.slice l ls.length lc) (zs.map (·.1)) s W w.heap.size (KRow.below (hz.krow hbl) hB) hB.size (by rw [List.length_map];omega)
 rw [List.length_map] at HF
 have hfi:0<=findI (zs.map (·.1)) s:=by
  rcases findI_cases (zs.map (·.1)) s with ⟨_,hn⟩|⟨i,k,e,_⟩
  ·exact absurd hth hn
  ·omega
 have HFF:Hid _:=HF
 have HZR:Hid _:=zR
 have HCW:Hid (CellsAt W w.heap.size [.int .i64 wd,.int .i64 now,.int .i64 given,.int .i64 births,.slice (some ⟨b,off,none⟩) zs.length ac,.slice p ps.length pc,.slice l ls.length lc]):=by rw [hW];exact CellsAt.below (CellsAt.new w _ _) ((Below.refl _ _).alloc (Nat.le_refl _) _)
 have hzR12:w.heap.size+1<W.heap.size:=by omega
 have HZ:Hid _:=hz
 have HPL:Hid _:=And.intro hp hl
 have HW:Hid _:=hW
 have HXW:Hid _:=xW
 clear hW hz hp hl zR HF hth
 obtain ⟨x0,x1,x2,x3,x4,x5,x6,x7⟩:=xW
 go_enter Tryz.func91,Tryz.ntmps91
 go_upto_region 1 with fail
 rw [←HW.out]
 clear HW
 go_wp2_with fail
 refine Calls.mono HFF.out ?_
 rintro e w1 ⟨rfl,hb1⟩
 have hd1:¬findI (zs.map (·.1)) s<0:=by omega
 have HX1:Hid _:=SBox.below HXW.out hb1
 obtain ⟨y0,y1,y2,y3,y4,y5,y6,y7⟩:=HX1.out
 have hB1:Below w.heap.size w w1:=hB.trans (hb1.mono hB.size)
 clear x0 x1 x2 x3 x4 x5 x6 HFF
 generalize findI (zs.map (·.1)) s=fi at *
 go_wp2_with fail
 refine (l4Held_any wd now given births (.slice (some ⟨b,off,none⟩) zs.length ac) p l pc lc ps ls s w1 (PRow.mono (PRow.below HPL.out.1 hB1) hB1.size) (LRow.mono (LRow.below HPL.out.2 hB1) hB1.size) (by omega) (by omega)).mono ?_
 rintro e w2 ⟨ok,rfl,hok,hb2⟩
 have hB2:Below w.heap.size w w2:=hB1.trans (hb2.mono hB1.size)
 have HX2:Hid _:=SBox.below HX1.out hb2
 have z2:CellsAt w2 (w.heap.size+1) z12:=CellsAt.below (v:=.int .i64 0) (CellsAt.below (v:=.int .i64 0) HZR.out hb1) hb2
 have HZ2:Hid _:=z2
 have HOK:Hid _:=hok
 clear hok y0 y1 y2 y3 y4 y5 y6 z2
 cases ok
 ·obtain ⟨v0,v1,v2,v3,v4,v5,v6,v7⟩:=HX2.out
  have hw2:w.heap.size+2<=w2.heap.size:=by have:=hb1.size;have:=hb2.size;omega
  have bA:Below w2.heap.size w2 (w2.alloc (.cells #[] 114)):=(Below.refl _ _).alloc (Nat.le_refl _) _
  go_wp2
  go_loopw [5,6] (fun v i wr=>∃(k g c:Nat),k<=zs.length/\i=.int .i64 k/\v=.slice (some ⟨g,0,none⟩) (dropZ (zs.take k) s).length c/\Hid (wr.ownsRow (w.heap.size+2) 114 4 (.slice (some ⟨g,0,none⟩) (dropZ (zs.take k) s).length c) (dropZ (zs.take k) s).length (rowC kC (dropZ (zs.take k) s))/\(∀z∈zs.take k,¬s∈z.1.refs)/\CellsAt wr w.heap.size [.int .i64 wd,.int .i64 now,.int .i64 given,.int .i64 births,.slice (some ⟨b,off,none⟩) zs.length ac,.slice p ps.length pc,.slice l ls.length lc]/\CellsAt wr (w.heap.size+1) z12/\Below w.heap.size w wr)) (fun _ i _=>zs.length -(intOf i).toNat)
  case atStart=>
   refine ⟨0,w2.heap.size,0,Nat.zero_le _,rfl,by simp [dropZ],⟨?_,(fun z hz=>by simp at hz),CellsAt.below (CellsAt.below (CellsAt.below HCW.out hb1) hb2) bA,CellsAt.below (v:=.int .i64 0) HZ2.out bA,hB2.trans (bA.mono hB2.size)⟩⟩
   have:=World.ownsRow_lit (base:=w.heap.size+2) (e:=114) (size:=4) w2 #[] 0 hw2 (by unfold maxLen;omega) rfl
   simpa [dropZ,rowC] using this
  case round=>
   clear HX1 HXW HZ2 HX2 v0 v1 v2 v3 v4 v5 v6 v7 bA
   obtain ⟨k,g,c,hk,rfl,rfl,HI⟩:=hrel
   obtain ⟨v0,v1,v2,v3,v4,v5,v6,v7⟩:=sbox_of HI.out.2.2.1
   have hbel:=HI.out.2.2.2.2
   have hzr:=hbel.size
   by_cases hlt:k<zs.length
   ·have HG:Hid (zs[k]?=some zs[k]):=List.getElem?_eq_getElem hlt
    obtain ⟨⟨c0,c1,c2,c3⟩,ad,rc,h4,h5⟩:=(ZRow.below HZ.out hbel hbl) k _ HG.out
    have hr1:=hr _ (List.getElem_mem hlt)
    have HSn:Hid _:=dropZ_snoc s HG.out
    have hbr:b<wr.heap.size:=by omega
    have HSR:Hid _:=h5
    have HTk:Hid (zs.take (k+1)=zs.take k++[zs[k]]):=List.take_succ_eq_append_getElem hlt
    rw [h4] at c3
    have H4:Hid _:=h4
    clear h5 h4
    generalize zs[k]=z at *
    have hdl:(dropZ (zs.take k) s).length<=600:=by
     have:=List.length_filter_le (fun z:Kd×Value=> !decide (z.1.sum=s)) (zs.take k)
     unfold dropZ
     rw [List.length_take] at this
     omega
    go_wp2_with fail
    refine (has_any (some ad) rc z.1.refs s wr wr.heap.size HSR.out (by omega)).mono ?_
    rintro e w3 ⟨rfl,rfl⟩
    by_cases hin:s∈z.1.refs
    ·have hd:z.1.refs.any (fun x=>decide (x=s))=true:=by simpa using hin
     rw [hd]
     obtain ⟨⟨y0,q0⟩,⟨y1,q1⟩,⟨y2,q2⟩,⟨y3,q3⟩,⟨y4,q4⟩,⟨y5,q5⟩,⟨y6,q6⟩,⟨y7,q7⟩,⟨y8,q8⟩,⟨y9,q9⟩,⟨y10,q10⟩,y11,q11⟩:=z12at HI.out.2.2.2.1
     have Hin:Hid _:=hin
     clear hin hd c0 c1 c2 c3 v0 v1 v2 v3 v4 v5 v6
     go_wp2
     refine bodyPost_ret (v:=.agg #[.int .i64 6,.int .i64 0,.int .i64 0,.int .i64 0,.int .i64 0,.slice none 0 0,.slice none 0 0,.slice none 0 0,.string ⟨#[]⟩,.int .i64 0,.string ⟨#[]⟩,.string ⟨#[]⟩]) (by simp [results,Tryz.results91,go_sem,y0,y1,y2,y3,y4,y5,y6,y7,y8,y9,y10,y11]) rfl ⟨hbel.trans (Tn.below (tn12 _ (w.heap.size+1) _ _ _ _ _ _ _ _ _ _ _ _) hbel.size (by simp)),.inl ⟨.inr ⟨z.1,List.mem_map.2 ⟨z,List.mem_of_getElem? HG.out,rfl⟩,Hin.out⟩,rfl⟩⟩
    ·have hd:z.1.refs.any (fun x=>decide (x=s))=false:=by
      rw [List.any_eq_false]
      intro x hx e
      exact hin (of_decide_eq_true e▸hx)
     rw [hd]
     have HNo:Hid (∀y∈zs.take (k+1),¬s∈y.1.refs):=by
      rw [HTk.out]
      intro y hy
      rcases List.mem_append.1 hy with hy|hy
      ·exact HI.out.2.1 y hy
      ·simp at hy
       rw [hy]
       exact hin
     clear hin hd
     by_cases hzs:z.1.sum=s
     ·have hq:(z.1.sum.toList !=s.toList)=false:=by rw [hzs];simp
      have hq2:(z.1.sum.toList==s.toList)=true:=by rw [hzs];simp
      have hsn:=HSn.out
      rw [if_pos hzs,List.append_nil] at hsn
      have HSe:Hid _:=hsn
      clear hsn hzs
      go_wp2
      exact ⟨⟨k+1,g,c,by omega,by go_num,by rw [HSe.out],⟨by rw [HSe.out];exact HI.out.1,HNo.out,HI.out.2.2⟩⟩,by simp [intOf];omega⟩
     ·have hq2:(z.1.sum.toList==s.toList)=false:=beq_ne hzs
      have hq:(z.1.sum.toList !=s.toList)=true:=by simp [bne,hq2]
      have hsn:=HSn.out
      rw [if_neg hzs] at hsn
      have HSe:Hid _:=hsn
      clear hsn hzs
      obtain ⟨i0,hi,hz0,hz1,hz2⟩:=info_parts Tryz.infoKept
      have hgl:=own_lt HI.out.1 (g:=g) rfl
      go_wp2_with (first
       |(at_builtin;refine wpList_append_own_at _ rfl _ _ 24 rfl (w.heap.size+2) 114 i0 _ 4 64 Tryz.underlying24 hi hz0 hz1 hz2 rfl (by decide) _ (dropZ (zs.take k) s).length (rowC kC (dropZ (zs.take k) s)) rfl ?d0 ⟨w3.heap.size,0,none⟩ 1 1 (kC (z.1,.slice (some ad) z.1.refs.length rc)) rfl rfl ?d2 ?d3 ?d4 ?d5 ?d6 ?_)
       |go_in)
      case d0=>exact own_below HI.out.1 ((Below.refl _ _).alloc (Nat.le_refl _) _)
      case d2=>
       intro j u hu
       rw [Go.WideShapes.add_plain,Nat.zero_add]
       exact ((CellsAt.new w3 (kC (z.1,.slice (some ad) z.1.refs.length rc)) 114) j u hu).1
      case d3=>
       intro u hu
       simp [kC] at hu
       rcases hu with rfl|rfl|rfl|rfl<;>rfl
      case d4=>unfold maxLen;omega
      case d5=>omega
      case d6=>simp;omega
      intro v4 w4 ho4 hg4 hn4 ha4
      obtain ⟨g4,c4,rfl,hg4a,hg4b⟩:=own_form ho4 (fun e=>by subst e;rcases ho4.2 with ⟨_,hn⟩|⟨_,_,_,e,_⟩<;>first|omega|cases e)
      have b4:Below w3.heap.size w3 (w3.alloc (.cells #[.string z.1.sum,.int .i64 z.1.born,.string z.1.text,.slice (some ad) z.1.refs.length rc] 114)):=(Below.refl _ _).alloc (Nat.le_refl _) _
      have hg4':w3.grownBy w4 (some g):=grown_trans (grown_below _ b4) hg4
      have hz2:z.2=.slice (some ad) z.1.refs.length rc:=H4.out
      have hDl:(dropZ (zs.take (k+1)) s).length=(dropZ (zs.take k) s).length+1:=by rw [HSe.out];simp
      have hDc:rowC kC (dropZ (zs.take (k+1)) s)=rowC kC (dropZ (zs.take k) s)++kC (z.1,.slice (some ad) z.1.refs.length rc):=by
       rw [HSe.out,row_append,←hz2]
       simp [rowC]
      have HF:Hid (w4.ownsRow (w.heap.size+2) 114 4 (.slice (some ⟨g4,0,none⟩) (dropZ (zs.take (k+1)) s).length c4) (dropZ (zs.take (k+1)) s).length (rowC kC (dropZ (zs.take (k+1)) s))/\(∀y∈zs.take (k+1),¬s∈y.1.refs)/\CellsAt w4 w.heap.size [.int .i64 wd,.int .i64 now,.int .i64 given,.int .i64 births,.slice (some ⟨b,off,none⟩) zs.length ac,.slice p ps.length pc,.slice l ls.length lc]/\CellsAt w4 (w.heap.size+1) z12/\Below w.heap.size w w4):=by
       refine ⟨by rw [hDl,hDc];exact ho4,HNo.out,?_,?_,hbel.grown hg4' (by omega) (fun q hq=>by cases hq;omega)⟩
       ·exact CellsAt.far' HI.out.2.2.1 hg4' (by omega)
       ·exact CellsAt.far' (v:=.int .i64 0) HI.out.2.2.2.1 hg4' (by omega)
      clear ho4 hg4 hg4' hn4 ha4 b4 hDc hz2 c0 c1 c2 c3 v0 v1 v2 v3 v4 v5 v6
      have HDl:Hid _:=hDl
      clear hDl
      go_wp2
      exact ⟨⟨k+1,g4,c4,by omega,by go_num,by rw [HDl.out],HF⟩,by simp [intOf];omega⟩
   ·obtain rfl:k=zs.length:=by omega
    have hIe:=HI.out
    rw [List.take_of_length_le (Nat.le_refl _)] at hIe
    obtain ⟨h1,h2,h3,h4,h5⟩:=hIe
    have hgl:=own_lt h1 (g:=g) rfl
    have HE:Hid _:=And.intro h1 (And.intro h2 h5)
    obtain ⟨⟨y0,q0⟩,⟨y1,q1⟩,⟨y2,q2⟩,⟨y3,q3⟩,⟨y4,q4⟩,⟨y5,q5⟩,⟨y6,q6⟩,⟨y7,q7⟩,⟨y8,q8⟩,⟨y9,q9⟩,⟨y10,q10⟩,y11,q11⟩:=z12at h4
    have f4:=(h3 4 _ rfl).2
    have H3:Hid _:=h3
    clear h1 h2 h3 h4 h5
    rw [List.take_of_length_le (Nat.le_refl _)]
    go_wp2
    have T:∀a0 a1 a2 a3 a4 a5 a6 a7 a8 a9 a10 a11 c4,Tn [w.heap.size,w.heap.size+1] wr _:=fun a0 a1 a2 a3 a4 a5 a6 a7 a8 a9 a10 a11 c4=>(Tn.set (V:=[w.heap.size,w.heap.size+1]) wr w.heap.size 4 c4 (by simp)).trans (Tn.mono (tn12 (wr.setCell ⟨w.heap.size,4,none⟩ c4) (w.heap.size+1) a0 a1 a2 a3 a4 a5 a6 a7 a8 a9 a10 a11) (by simp))
    refine bodyPost_ret (v:=.agg #[.int .i64 0,.int .i64 wd,.int .i64 now,.int .i64 given,.int .i64 births,.slice (some ⟨g,0,none⟩) (dropZ zs s).length c,.slice p ps.length pc,.slice l ls.length lc,.string ⟨#[]⟩,.int .i64 0,.string ⟨#[]⟩,.string ⟨#[]⟩]) (by simp [results,Tryz.results91,go_sem,y0,y1,y2,y3,y4,y5,y6,y7,y8,y9,y10,y11]) rfl ?_
    have T':=T (.int .i64 0) (.int .i64 wd) (.int .i64 now) (.int .i64 given) (.int .i64 births) (.slice (some ⟨g,0,none⟩) (dropZ zs s).length c) (.slice p ps.length pc) (.slice l ls.length lc) (.string ⟨#[]⟩) (.int .i64 0) (.string ⟨#[]⟩) (.string ⟨#[]⟩) (.slice (some ⟨g,0,none⟩) (dropZ zs s).length c)
    have hBX:=HE.out.2.2.trans (Tn.below T' HE.out.2.2.size (by simp))
    refine ⟨hBX,.inr ⟨?_,g,c,rfl,ZRow.own (own_same HE.out.1 (fun q hq=>T'.block q (own_lt HE.out.1 hq).2 (by have:=(own_lt HE.out.1 hq).1;simp;omega))) (fun z hz=> ?_),by omega,Nat.lt_of_lt_of_le hgl.2 T'.size⟩⟩
    ·rintro (h|⟨x,hx,hs⟩)
     ·have:=HOK.out.2 h
      simp at this
     ·obtain ⟨z,hz,rfl⟩:=List.mem_map.1 hx
      exact HE.out.2.1 z hz hs
    ·obtain ⟨i,hi⟩:=List.getElem?_of_mem (List.mem_filter.1 hz).1
     obtain ⟨_,ad,rc,e,hs⟩:=HZ.out i z hi
     exact ⟨ad,rc,e,SRow.mono (SRow.below hs hBX) hBX.size⟩
 ·obtain ⟨⟨y0,q0⟩,⟨y1,q1⟩,⟨y2,q2⟩,⟨y3,q3⟩,⟨y4,q4⟩,⟨y5,q5⟩,⟨y6,q6⟩,⟨y7,q7⟩,⟨y8,q8⟩,⟨y9,q9⟩,⟨y10,q10⟩,y11,q11⟩:=z12at HZ2.out
  go_wp2
  refine bodyPost_ret (v:=.agg #[.int .i64 6,.int .i64 0,.int .i64 0,.int .i64 0,.int .i64 0,.slice none 0 0,.slice none 0 0,.slice none 0 0,.string ⟨#[]⟩,.int .i64 0,.string ⟨#[]⟩,.string ⟨#[]⟩]) (by simp [results,Tryz.results91,go_sem,y0,y1,y2,y3,y4,y5,y6,y7,y8,y9,y10,y11]) rfl ⟨hB2.trans (Tn.below (tn12 w2 (w.heap.size+1) _ _ _ _ _ _ _ _ _ _ _ _) hB2.size (by simp)),.inl ⟨.inl (HOK.out.1 trivial),rfl⟩⟩
end Go.Proofs.YtpekbmegopfhfaaGreatDoor
namespace Go.Proofs.YtpekbmegopfhfaaGreatDoor
open Go.ChangeShapes Go.WideShapes Go.ChangeAt Go.RowKit
theorem giveL_snoc {ls:List Ld} {k:Nat} {x:Ld} (n:Int) (hx:ls[k]?=some x):giveL (ls.take (k+1)) n=giveL (ls.take k) n++(if x.num=n then [] else [x]):=by
 obtain ⟨hlt,rfl⟩:=List.getElem?_eq_some_iff.1 hx
 unfold giveL
 rw [List.take_succ_eq_append_getElem hlt,List.filter_append]
 by_cases h:ls[k].num=n<;>simp [h]
theorem giveL_len (ls:List Ld) (n:Int):(giveL ls n).length=ls.length↔¬∃x∈ls,x.num=n:=by
 unfold giveL
 rw [List.length_filter_eq_length_iff]
 simp
def GiveTo (w w':World) (e:Ending) (wd now given births:Int) (T P:Value) (ls:List Ld) (n:Int):Prop:=
 Below w.heap.size w w'/\(((¬∃x∈ls,x.num=n)/\e=.returned (.agg #[.int .i64 5,.int .i64 0,.int .i64 0,.int .i64 0,.int .i64 0,.slice none 0 0,.slice none 0 0,.slice none 0 0,.string ⟨#[]⟩,.int .i64 0,.string ⟨#[]⟩,.string ⟨#[]⟩]))∨
  ((∃x∈ls,x.num=n)/\∃g c,e=.returned (.agg #[.int .i64 0,.int .i64 wd,.int .i64 now,.int .i64 given,.int .i64 births,T,P,.slice (some ⟨g,0,none⟩) (giveL ls n).length c,.string ⟨#[]⟩,.int .i64 0,.string ⟨#[]⟩,.string ⟨#[]⟩])/\w'.ownsRow w.heap.size 137 3 (.slice (some ⟨g,0,none⟩) (giveL ls n).length c) (giveL ls n).length (rowC lC (giveL ls n))))
set_option maxRecDepth 20000 in
set_option maxHeartbeats 4000000 in
theorem l4Give_any (wd now given births:Int) (ta pa la:Option Addr) (tn tc pn pc lc:Nat) (ls:List Ld) (n:Int) (w:World) (hrow:LRow w w.heap.size la ls) (hl:ls.length<=1000):
 Calls Tryz.prog 89 #[.agg #[.int .i64 wd,.int .i64 now,.int .i64 given,.int .i64 births,.slice ta tn tc,.slice pa pn pc,.slice la ls.length lc],.int .i64 n] w fun e w'=>GiveTo w w' e wd now given births (.slice ta tn tc) (.slice pa pn pc) ls n:=by
 obtain ⟨W,hW⟩:∃W,W=(w.alloc (.cells #[.int .i64 wd,.int .i64 now,.int .i64 given,.int .i64 births,.slice ta tn tc,.slice pa pn pc,.slice la ls.length lc] 28)).alloc (.cells #[.int .i64 0,.int .i64 0,.int .i64 0,.int .i64 0,.int .i64 0,.slice none 0 0,.slice none 0 0,.slice none 0 0,.string ⟨#[]⟩,.int .i64 0,.string ⟨#[]⟩,.string ⟨#[]⟩] 30):=⟨_,rfl⟩
 have bW:Below w.heap.size w W:=by rw [hW];exact ((Below.refl _ _).alloc (Nat.le_refl _) _).alloc (by simp) _
 have hzW:W.heap.size=w.heap.size+2:=by rw [hW];simp
 have x0:CellsAt W w.heap.size [.int .i64 wd,.int .i64 now,.int .i64 given,.int .i64 births,.slice ta tn tc,.slice pa pn pc,.slice la ls.length lc]:=by
  have h1:=CellsAt.new w [.int .i64 wd,.int .i64 now,.int .i64 given,.int .i64 births,.slice ta tn tc,.slice pa pn pc,.slice la ls.length lc] 28
  rw [hW]
  exact CellsAt.below h1 ((Below.refl _ _).alloc (Nat.le_refl _) _)
 have x1:CellsAt W (w.heap.size+1) z12:=by
  have h1:=CellsAt.new (w.alloc (.cells #[.int .i64 wd,.int .i64 now,.int .i64 given,.int .i64 births,.slice ta tn tc,.slice pa pn pc,.slice la ls.length lc] 28)) z12 30
  rw [World.size_alloc] at h1
  rw [hW]
  exact h1
 have HX:Hid (∀X,Below (w.heap.size+2) W X->CellsAt X w.heap.size [.int .i64 wd,.int .i64 now,.int .i64 given,.int .i64 births,.slice ta tn tc,.slice pa pn pc,.slice la ls.length lc]/\CellsAt X (w.heap.size+1) z12):=fun X hX=>⟨CellsAt.same x0 (hX.block _ (by omega)),CellsAt.same x1 (hX.block _ (by omega))⟩
 have HW:Hid _:=hW
 have HzW:Hid (W.heap.size=w.heap.size+2):=hzW
 have hzW2:w.heap.size+2<=W.heap.size:=by omega
 have HR:Hid (LRow w w.heap.size la ls):=hrow
 have HBW:Hid (Below w.heap.size w W):=bW
 have bA:Below W.heap.size W (W.alloc (.cells #[] 137)):=(Below.refl _ _).alloc (Nat.le_refl _) _
 have HOA:Hid ((W.alloc (.cells #[] 137)).ownsRow (w.heap.size+2) 137 3 (.slice (some ⟨W.heap.size,0,none⟩) 0 0) 0 []):=World.ownsRow_lit (base:=w.heap.size+2) (e:=137) (size:=3) W #[] 0 (by omega) (by unfold maxLen;omega) rfl
 have HBA:Hid (Below (w.heap.size+2) W (W.alloc (.cells #[] 137))):=bA.mono hzW2
 clear hW hzW x0 x1 hrow bW bA
 go_enter Tryz.func89,Tryz.ntmps89
 go_upto_region 1 with fail
 rw [←HW.out]
 clear HW
 go_wp2
 go_loopw [5,6] (fun v i wr=>∃(k g c:Nat),k<=ls.length/\i=.int .i64 k/\v=.slice (some ⟨g,0,none⟩) (giveL (ls.take k) n).length c/\Hid (wr.ownsRow (w.heap.size+2) 137 3 (.slice (some ⟨g,0,none⟩) (giveL (ls.take k) n).length c) (giveL (ls.take k) n).length (rowC lC (giveL (ls.take k) n))/\Below (w.heap.size+2) W wr)) (fun _ i _=>ls.length -(intOf i).toNat)
 case atStart=>exact ⟨0,W.heap.size,0,Nat.zero_le _,rfl,by simp [giveL],⟨by simpa [giveL,rowC] using HOA.out,HBA.out⟩⟩
 case round=>
  clear HOA HBA
  obtain ⟨k,g,c,hk,rfl,rfl,HI⟩:=hrel
  have hbr:Below w.heap.size w wr:=HBW.out.trans (HI.out.2.mono (by omega))
  have hzr:w.heap.size+2<=wr.heap.size:=Nat.le_trans hzW2 HI.out.2.size
  obtain ⟨v0,v1,v2,v3,v4,v5,v6,v7⟩:=sbox_of (HX.out _ HI.out.2).1
  by_cases hlt:k<ls.length
  ·obtain ⟨b',off,ha,hb,hc'⟩:=(LRow.below HR.out hbr).at hlt
   subst ha
   have HG:Hid (ls[k]?=some ls[k]):=List.getElem?_eq_getElem hlt
   obtain ⟨c0,c1,c2⟩:=hc' k _ HG.out
   have HSn:Hid _:=giveL_snoc n HG.out
   have hgl:(giveL (ls.take k) n).length<=1000:=by
    have:=List.length_filter_le (fun x:Ld=> !decide (x.num=n)) (ls.take k)
    unfold giveL
    rw [List.length_take] at this
    omega
   clear hc'
   generalize ls[k]=x at *
   generalize hGk:giveL (ls.take k) n=gk at *
   have HGk:Hid _:=hGk
   clear hGk
   by_cases hxn:x.num=n
   ·have hq:(x.num !=n)=false:=by simp [hxn]
    have HE:Hid (giveL (ls.take (k+1)) n=gk):=by show _=_;rw [HSn.out,if_pos hxn,List.append_nil]
    clear hxn
    go_wp2
    exact ⟨⟨k+1,g,c,by omega,by go_num,by rw [HE.out],⟨by rw [HE.out];exact HI.out.1,HI.out.2⟩⟩,by simp [intOf];omega⟩
   ·have hq:(x.num !=n)=true:=by simp [hxn]
    have HE:Hid (giveL (ls.take (k+1)) n=gk++[x]):=by show _=_;rw [HSn.out,if_neg hxn]
    clear hxn
    obtain ⟨g8,cap8,w8,hr8,ho8,hg8,hk8⟩:=lpush wr (w.heap.size+2) _ gk HI.out.1 x (by omega) hzr 26
    have b8:Below (w.heap.size+2) wr w8:=(Below.refl _ _).grown hg8 hzr (fun q e=>(own_lt HI.out.1 e).1)
    have H8:Hid (w8.ownsRow (w.heap.size+2) 137 3 (.slice (some ⟨g8,0,none⟩) (gk.length+1) cap8) (gk++[x]).length (rowC lC (gk++[x]))/\Below (w.heap.size+2) W w8):=⟨ho8,HI.out.2.trans b8⟩
    have hbl':b'<wr.heap.size:=by have:=hbr.size;omega
    clear ho8 hg8 hk8 b8
    go_wp2_with (at_builtin;refine wpList_append_run rfl _ _ 26 26 rfl rfl rfl hr8 ?_)
    clear hr8 c0 c1 c2 v0 v1 v2 v3 v4 v5 v6
    go_wp2
    exact ⟨⟨k+1,g8,cap8,by omega,by go_num,by rw [HE.out,List.length_append];rfl,⟨by rw [HE.out,List.length_append];exact List.length_append▸H8.out.1,H8.out.2⟩⟩,by simp [intOf];omega⟩
  ·obtain rfl:k=ls.length:=by omega
   have hO:=HI.out.1
   rw [List.take_of_length_le (Nat.le_refl _)] at hO ⊢
   have HO:Hid (wr.ownsRow (w.heap.size+2) 137 3 (.slice (some ⟨g,0,none⟩) (giveL ls n).length c) (giveL ls n).length (rowC lC (giveL ls n))):=hO
   have HBr:Hid (Below w.heap.size w wr):=hbr
   obtain ⟨⟨y0,q0⟩,⟨y1,q1⟩,⟨y2,q2⟩,⟨y3,q3⟩,⟨y4,q4⟩,⟨y5,q5⟩,⟨y6,q6⟩,⟨y7,q7⟩,⟨y8,q8⟩,⟨y9,q9⟩,⟨y10,q10⟩,y11,q11⟩:=z12at (HX.out _ HI.out.2).2
   have f6:=((HX.out _ HI.out.2).1 6 _ rfl).2
   by_cases hex:∃x∈ls,x.num=n
   ·have hne:¬(giveL ls n).length=ls.length:=fun e=>(giveL_len ls n).1 e hex
    have hq:(((giveL ls n).length:Int)==(ls.length:Int))=false:=by simp;omega
    have HEx:Hid (∃x∈ls,x.num=n):=hex
    clear hne hex hO hbr HI
    go_wp2
    refine bodyPost_ret (v:=.agg #[.int .i64 0,.int .i64 wd,.int .i64 now,.int .i64 given,.int .i64 births,.slice ta tn tc,.slice pa pn pc,.slice (some ⟨g,0,none⟩) (giveL ls n).length c,.string ⟨#[]⟩,.int .i64 0,.string ⟨#[]⟩,.string ⟨#[]⟩]) (by simp [results,Tryz.results89,go_sem,y0,y1,y2,y3,y4,y5,y6,y7,y8,y9,y10,y11]) rfl ?_
    have T':=(Tn.set (V:=[w.heap.size,w.heap.size+1]) wr w.heap.size 6 (.slice (some ⟨g,0,none⟩) (giveL ls n).length c) (by simp)).trans (Tn.mono (tn12 (wr.setCell ⟨w.heap.size,6,none⟩ (.slice (some ⟨g,0,none⟩) (giveL ls n).length c)) (w.heap.size+1) (.int .i64 0) (.int .i64 wd) (.int .i64 now) (.int .i64 given) (.int .i64 births) (.slice ta tn tc) (.slice pa pn pc) (.slice (some ⟨g,0,none⟩) (giveL ls n).length c) (.string ⟨#[]⟩) (.int .i64 0) (.string ⟨#[]⟩) (.string ⟨#[]⟩)) (by simp))
    exact ⟨HBr.out.trans (T'.below HBr.out.size (by intro v hv;simp at hv;omega)),.inr ⟨HEx.out,g,c,rfl,(own_same HO.out (fun q hq=>T'.block q (own_lt HO.out hq).2 (by have:=(own_lt HO.out hq).1;simp;omega))).mono (by omega)⟩⟩
   ·have heq:(giveL ls n).length=ls.length:=(giveL_len ls n).2 hex
    have hq:(((giveL ls n).length:Int)==(ls.length:Int))=true:=by simp;omega
    have HEx:Hid (¬∃x∈ls,x.num=n):=hex
    clear heq hex hO hbr HI
    go_wp2
    refine bodyPost_ret (v:=.agg #[.int .i64 5,.int .i64 0,.int .i64 0,.int .i64 0,.int .i64 0,.slice none 0 0,.slice none 0 0,.slice none 0 0,.string ⟨#[]⟩,.int .i64 0,.string ⟨#[]⟩,.string ⟨#[]⟩]) (by simp [results,Tryz.results89,go_sem,y0,y1,y2,y3,y4,y5,y6,y7,y8,y9,y10,y11]) rfl ?_
    exact ⟨HBr.out.trans (Tn.below (tn12 wr (w.heap.size+1) _ _ _ _ _ _ _ _ _ _ _ _) HBr.out.size (by intro v hv;simp at hv;omega)),.inl ⟨HEx.out,rfl⟩⟩
end Go.Proofs.YtpekbmegopfhfaaGreatDoor
namespace Go.Proofs.YtpekbmegopfhfaaGreatDoor
open Go.ChangeShapes Go.WideShapes Go.ChangeAt Go.RowKit
theorem ppush (w:World) (base:Nat) (v:Value) (ls:List Pd) (ho:w.ownsRow base 134 2 v ls.length (rowC pC ls)) (x:Pd) (hn:ls.length<=1000000) (hbase:base<=w.heap.size) (ty:TypeId):
 ∃g cap w',(Builtin.append_ #[25,25] ty #[v,.slice (some ⟨w.heap.size,0,none⟩) 1 1]).run Tryz.prog (w.alloc (.cells #[.string x.name,.string x.sum] 134))=.ok (.slice (some ⟨g,0,none⟩) (ls.length+1) cap) w'/\w'.ownsRow base 134 2 (.slice (some ⟨g,0,none⟩) (ls.length+1) cap) (ls++[x]).length (rowC pC (ls++[x]))/\w.grownBy w' v.ownBlock/\(v.ownBlock=some g∨g=w.heap.size+1):=by
 obtain ⟨i0,hi,hz0,hz1,hz2⟩:=info_parts Tryz.infoPin
 have ho':=own_below ho ((Below.refl _ _).alloc (Nat.le_refl _) (.cells #[.string x.name,.string x.sum] 134))
 have hc:∀j u,(rowC pC [x])[j]?=some u->(w.alloc (.cells #[.string x.name,.string x.sum] 134)).cell? ((⟨w.heap.size,0,none⟩:Addr).add j)=some u:=by
  intro j u hu
  rw [Go.WideShapes.add_plain,Nat.zero_add]
  exact (CellsAt.new w [.string x.name,.string x.sum] 134 j u (by simpa [rowC,pC] using hu)).1
 obtain ⟨v',w',hr,h2,h3,_,h5⟩:=run_append_own_at (P:=Tryz.prog) (w.alloc (.cells #[.string x.name,.string x.sum] 134)) base 25 ty 134 i0 _ 2 32 Tryz.underlying25 hi hz0 hz1 hz2 rfl (by decide) v ls.length (rowC pC ls) ho' ⟨w.heap.size,0,none⟩ 1 1 (rowC pC [x]) (by simp [rowC,pC]) hc (by intro u hu;simp [rowC,pC] at hu;rcases hu with rfl|rfl<;>rfl) (by unfold maxLen;omega) (by omega) (by simp;omega)
 obtain ⟨g,cap,rfl,_,_⟩:=own_form h2 (fun e=>by subst e;rcases h2.2 with ⟨_,hn⟩|⟨_,_,_,e,_⟩<;>first|omega|cases e)
 refine ⟨g,cap,w',hr,?_,(World.grownBy_alloc w _ _).trans h3,?_⟩
 ·rw [rowC_append,List.length_append]
  exact h2
 ·rcases h5 with h5|h5
  ·exact .inl h5.symm
  ·right
   simpa [Value.ownBlock] using h5
theorem unpinP_snoc {ls:List Pd} {k:Nat} {x:Pd} (n:ByteArray) (hx:ls[k]?=some x):unpinP (ls.take (k+1)) n=unpinP (ls.take k) n++(if x.name=n then [] else [x]):=by
 obtain ⟨hlt,rfl⟩:=List.getElem?_eq_some_iff.1 hx
 unfold unpinP
 rw [List.take_succ_eq_append_getElem hlt,List.filter_append]
 by_cases h:ls[k].name=n<;>simp [h]
theorem unpinP_len (ls:List Pd) (n:ByteArray):(unpinP ls n).length=ls.length↔¬∃x∈ls,x.name=n:=by
 unfold unpinP
 rw [List.length_filter_eq_length_iff]
 simp
def UnpinTo (w w':World) (e:Ending) (wd now given births:Int) (T P:Value) (ls:List Pd) (n:ByteArray):Prop:=
 Below w.heap.size w w'/\(((¬∃x∈ls,x.name=n)/\e=.returned (.agg #[.int .i64 5,.int .i64 0,.int .i64 0,.int .i64 0,.int .i64 0,.slice none 0 0,.slice none 0 0,.slice none 0 0,.string ⟨#[]⟩,.int .i64 0,.string ⟨#[]⟩,.string ⟨#[]⟩]))∨
  ((∃x∈ls,x.name=n)/\∃g c,e=.returned (.agg #[.int .i64 0,.int .i64 wd,.int .i64 now,.int .i64 given,.int .i64 births,T,.slice (some ⟨g,0,none⟩) (unpinP ls n).length c,P,.string ⟨#[]⟩,.int .i64 0,.string ⟨#[]⟩,.string ⟨#[]⟩])/\w'.ownsRow w.heap.size 134 2 (.slice (some ⟨g,0,none⟩) (unpinP ls n).length c) (unpinP ls n).length (rowC pC (unpinP ls n))))
set_option maxRecDepth 20000 in
set_option maxHeartbeats 4000000 in
theorem l4Unpin_any (wd now given births:Int) (ta pa la:Option Addr) (tn tc pn pc lc:Nat) (ls:List Pd) (n:ByteArray) (w:World) (hrow:PRow w w.heap.size la ls) (hl:ls.length<=1000):
 Calls Tryz.prog 87 #[.agg #[.int .i64 wd,.int .i64 now,.int .i64 given,.int .i64 births,.slice ta tn tc,.slice la ls.length lc,.slice pa pn pc],.string n] w fun e w'=>UnpinTo w w' e wd now given births (.slice ta tn tc) (.slice pa pn pc) ls n:=by
 obtain ⟨W,hW⟩:∃W,W=(w.alloc (.cells #[.int .i64 wd,.int .i64 now,.int .i64 given,.int .i64 births,.slice ta tn tc,.slice la ls.length lc,.slice pa pn pc] 28)).alloc (.cells #[.int .i64 0,.int .i64 0,.int .i64 0,.int .i64 0,.int .i64 0,.slice none 0 0,.slice none 0 0,.slice none 0 0,.string ⟨#[]⟩,.int .i64 0,.string ⟨#[]⟩,.string ⟨#[]⟩] 30):=⟨_,rfl⟩
 have bW:Below w.heap.size w W:=by rw [hW];exact ((Below.refl _ _).alloc (Nat.le_refl _) _).alloc (by simp) _
 have hzW:W.heap.size=w.heap.size+2:=by rw [hW];simp
 have x0:CellsAt W w.heap.size [.int .i64 wd,.int .i64 now,.int .i64 given,.int .i64 births,.slice ta tn tc,.slice la ls.length lc,.slice pa pn pc]:=by
  have h1:=CellsAt.new w [.int .i64 wd,.int .i64 now,.int .i64 given,.int .i64 births,.slice ta tn tc,.slice la ls.length lc,.slice pa pn pc] 28
  rw [hW]
  exact CellsAt.below h1 ((Below.refl _ _).alloc (Nat.le_refl _) _)
 have x1:CellsAt W (w.heap.size+1) z12:=by
  have h1:=CellsAt.new (w.alloc (.cells #[.int .i64 wd,.int .i64 now,.int .i64 given,.int .i64 births,.slice ta tn tc,.slice la ls.length lc,.slice pa pn pc] 28)) z12 30
  rw [World.size_alloc] at h1
  rw [hW]
  exact h1
 have HX:Hid (∀X,Below (w.heap.size+2) W X->CellsAt X w.heap.size [.int .i64 wd,.int .i64 now,.int .i64 given,.int .i64 births,.slice ta tn tc,.slice la ls.length lc,.slice pa pn pc]/\CellsAt X (w.heap.size+1) z12):=fun X hX=>⟨CellsAt.same x0 (hX.block _ (by omega)),CellsAt.same x1 (hX.block _ (by omega))⟩
 have HW:Hid _:=hW
 have HzW:Hid (W.heap.size=w.heap.size+2):=hzW
 have hzW2:w.heap.size+2<=W.heap.size:=by omega
 have HR:Hid (PRow w w.heap.size la ls):=hrow
 have HBW:Hid (Below w.heap.size w W):=bW
 have bA:Below W.heap.size W (W.alloc (.cells #[] 134)):=(Below.refl _ _).alloc (Nat.le_refl _) _
 have HOA:Hid ((W.alloc (.cells #[] 134)).ownsRow (w.heap.size+2) 134 2 (.slice (some ⟨W.heap.size,0,none⟩) 0 0) 0 []):=World.ownsRow_lit (base:=w.heap.size+2) (e:=134) (size:=2) W #[] 0 (by omega) (by unfold maxLen;omega) rfl
 have HBA:Hid (Below (w.heap.size+2) W (W.alloc (.cells #[] 134))):=bA.mono hzW2
 clear hW hzW x0 x1 hrow bW bA
 go_enter Tryz.func87,Tryz.ntmps87
 go_upto_region 1 with fail
 rw [←HW.out]
 clear HW
 go_wp2
 go_loopw [5,6] (fun v i wr=>∃(k g c:Nat),k<=ls.length/\i=.int .i64 k/\v=.slice (some ⟨g,0,none⟩) (unpinP (ls.take k) n).length c/\Hid (wr.ownsRow (w.heap.size+2) 134 2 (.slice (some ⟨g,0,none⟩) (unpinP (ls.take k) n).length c) (unpinP (ls.take k) n).length (rowC pC (unpinP (ls.take k) n))/\Below (w.heap.size+2) W wr)) (fun _ i _=>ls.length -(intOf i).toNat)
 case atStart=>exact ⟨0,W.heap.size,0,Nat.zero_le _,rfl,by simp [unpinP],⟨by simpa [unpinP,rowC] using HOA.out,HBA.out⟩⟩
 case round=>
  clear HOA HBA
  obtain ⟨k,g,c,hk,rfl,rfl,HI⟩:=hrel
  have hbr:Below w.heap.size w wr:=HBW.out.trans (HI.out.2.mono (by omega))
  have hzr:w.heap.size+2<=wr.heap.size:=Nat.le_trans hzW2 HI.out.2.size
  obtain ⟨v0,v1,v2,v3,v4,v5,v6,v7⟩:=sbox_of (HX.out _ HI.out.2).1
  by_cases hlt:k<ls.length
  ·obtain ⟨b',off,ha,hb,hc'⟩:=(PRow.below HR.out hbr).at hlt
   subst ha
   have HG:Hid (ls[k]?=some ls[k]):=List.getElem?_eq_getElem hlt
   obtain ⟨c0,c1⟩:=hc' k _ HG.out
   have HSn:Hid _:=unpinP_snoc n HG.out
   have hgl:(unpinP (ls.take k) n).length<=1000:=by
    have:=List.length_filter_le (fun x:Pd=> !decide (x.name=n)) (ls.take k)
    unfold unpinP
    rw [List.length_take] at this
    omega
   clear hc'
   generalize ls[k]=x at *
   generalize hGk:unpinP (ls.take k) n=gk at *
   have HGk:Hid _:=hGk
   clear hGk
   by_cases hxn:x.name=n
   ·have hq:(x.name.toList !=n.toList)=false:=by rw [hxn];simp
    have hq2:(x.name.toList==n.toList)=true:=by rw [hxn];simp
    have HE:Hid (unpinP (ls.take (k+1)) n=gk):=by show _=_;rw [HSn.out,if_pos hxn,List.append_nil]
    clear hxn
    go_wp2
    exact ⟨⟨k+1,g,c,by omega,by go_num,by rw [HE.out],⟨by rw [HE.out];exact HI.out.1,HI.out.2⟩⟩,by simp [intOf];omega⟩
   ·have hq2:(x.name.toList==n.toList)=false:=beq_ne hxn
    have hq:(x.name.toList !=n.toList)=true:=by simp [bne,hq2]
    have HE:Hid (unpinP (ls.take (k+1)) n=gk++[x]):=by show _=_;rw [HSn.out,if_neg hxn]
    clear hxn
    obtain ⟨g8,cap8,w8,hr8,ho8,hg8,hk8⟩:=ppush wr (w.heap.size+2) _ gk HI.out.1 x (by omega) hzr 25
    have b8:Below (w.heap.size+2) wr w8:=(Below.refl _ _).grown hg8 hzr (fun q e=>(own_lt HI.out.1 e).1)
    have H8:Hid (w8.ownsRow (w.heap.size+2) 134 2 (.slice (some ⟨g8,0,none⟩) (gk.length+1) cap8) (gk++[x]).length (rowC pC (gk++[x]))/\Below (w.heap.size+2) W w8):=⟨ho8,HI.out.2.trans b8⟩
    have hbl':b'<wr.heap.size:=by have:=hbr.size;omega
    clear ho8 hg8 hk8 b8
    go_wp2_with (at_builtin;refine wpList_append_run rfl _ _ 25 25 rfl rfl rfl hr8 ?_)
    clear hr8 c0 c1 v0 v1 v2 v3 v4 v5 v6
    go_wp2
    exact ⟨⟨k+1,g8,cap8,by omega,by go_num,by rw [HE.out,List.length_append];rfl,⟨by rw [HE.out,List.length_append];exact List.length_append▸H8.out.1,H8.out.2⟩⟩,by simp [intOf];omega⟩
  ·obtain rfl:k=ls.length:=by omega
   have hO:=HI.out.1
   rw [List.take_of_length_le (Nat.le_refl _)] at hO ⊢
   have HO:Hid (wr.ownsRow (w.heap.size+2) 134 2 (.slice (some ⟨g,0,none⟩) (unpinP ls n).length c) (unpinP ls n).length (rowC pC (unpinP ls n))):=hO
   have HBr:Hid (Below w.heap.size w wr):=hbr
   obtain ⟨⟨y0,q0⟩,⟨y1,q1⟩,⟨y2,q2⟩,⟨y3,q3⟩,⟨y4,q4⟩,⟨y5,q5⟩,⟨y6,q6⟩,⟨y7,q7⟩,⟨y8,q8⟩,⟨y9,q9⟩,⟨y10,q10⟩,y11,q11⟩:=z12at (HX.out _ HI.out.2).2
   have f6:=((HX.out _ HI.out.2).1 5 _ rfl).2
   by_cases hex:∃x∈ls,x.name=n
   ·have hne:¬(unpinP ls n).length=ls.length:=fun e=>(unpinP_len ls n).1 e hex
    have hq:(((unpinP ls n).length:Int)==(ls.length:Int))=false:=by simp;omega
    have HEx:Hid (∃x∈ls,x.name=n):=hex
    clear hne hex hO hbr HI
    go_wp2
    refine bodyPost_ret (v:=.agg #[.int .i64 0,.int .i64 wd,.int .i64 now,.int .i64 given,.int .i64 births,.slice ta tn tc,.slice (some ⟨g,0,none⟩) (unpinP ls n).length c,.slice pa pn pc,.string ⟨#[]⟩,.int .i64 0,.string ⟨#[]⟩,.string ⟨#[]⟩]) (by simp [results,Tryz.results87,go_sem,y0,y1,y2,y3,y4,y5,y6,y7,y8,y9,y10,y11]) rfl ?_
    have T':=(Tn.set (V:=[w.heap.size,w.heap.size+1]) wr w.heap.size 5 (.slice (some ⟨g,0,none⟩) (unpinP ls n).length c) (by simp)).trans (Tn.mono (tn12 (wr.setCell ⟨w.heap.size,5,none⟩ (.slice (some ⟨g,0,none⟩) (unpinP ls n).length c)) (w.heap.size+1) (.int .i64 0) (.int .i64 wd) (.int .i64 now) (.int .i64 given) (.int .i64 births) (.slice ta tn tc) (.slice (some ⟨g,0,none⟩) (unpinP ls n).length c) (.slice pa pn pc) (.string ⟨#[]⟩) (.int .i64 0) (.string ⟨#[]⟩) (.string ⟨#[]⟩)) (by simp))
    exact ⟨HBr.out.trans (T'.below HBr.out.size (by intro v hv;simp at hv;omega)),.inr ⟨HEx.out,g,c,rfl,(own_same HO.out (fun q hq=>T'.block q (own_lt HO.out hq).2 (by have:=(own_lt HO.out hq).1;simp;omega))).mono (by omega)⟩⟩
   ·have heq:(unpinP ls n).length=ls.length:=(unpinP_len ls n).2 hex
    have hq:(((unpinP ls n).length:Int)==(ls.length:Int))=true:=by simp;omega
    have HEx:Hid (¬∃x∈ls,x.name=n):=hex
    clear heq hex hO hbr HI
    go_wp2
    refine bodyPost_ret (v:=.agg #[.int .i64 5,.int .i64 0,.int .i64 0,.int .i64 0,.int .i64 0,.slice none 0 0,.slice none 0 0,.slice none 0 0,.string ⟨#[]⟩,.int .i64 0,.string ⟨#[]⟩,.string ⟨#[]⟩]) (by simp [results,Tryz.results87,go_sem,y0,y1,y2,y3,y4,y5,y6,y7,y8,y9,y10,y11]) rfl ?_
    exact ⟨HBr.out.trans (Tn.below (tn12 wr (w.heap.size+1) _ _ _ _ _ _ _ _ _ _ _ _) HBr.out.size (by intro v hv;simp at hv;omega)),.inl ⟨HEx.out,rfl⟩⟩
end Go.Proofs.YtpekbmegopfhfaaGreatDoor
namespace Go.Proofs.YtpekbmegopfhfaaGreatDoor
open Go.ChangeShapes Go.WideShapes Go.ChangeAt Go.RowKit
set_option maxHeartbeats 1000000 in
theorem need_no (base d m:Nat) (O P L:Value) (wd now given births:Int) (ks:List Kd) (ps:List Pd) (ls:List Ld) (s:ByteArray) (w:World) (hd:Dr w base d m O P L wd now given births ks ps ls) (hsz:∀k∈ks,(k.sum.size:Int)=wd) (hth:¬There ks s):
 Calls Tryz.prog 197 #[.pointer (some ⟨d,0,none⟩),.string s] w fun e w'=>e=.panicked [{v:=refV 2 ⟨#[]⟩ ⟨#[]⟩,recovered:=false}]/\Below w.heap.size w w':=by
 obtain ⟨n,f,hn,hM,hH⟩:=hd.map
 obtain ⟨ok,hok,hcl⟩:=shelf_has wd m n f ks w w.heap.size s w hM hH.holds hsz
 have hf:ok=false:=by
  cases ok with
  |false=>rfl
  |true=>exact absurd (hok.1 rfl) hth
 subst hf
 obtain ⟨c0,_⟩:=hd.box 0 _ rfl
 obtain ⟨c1,_⟩:=hd.box 1 _ rfl
 have HC:Hid _:=hcl w (Below.refl _ _)
 clear hd hM hH hok hcl
 go_enter Tryz.func197,Tryz.ntmps197
 go_wp2_with fail
 refine Calls.mono HC.out ?_
 rintro e w1 ⟨rfl,hb1⟩
 go_wp2
 exact ⟨rfl,rfl,hb1⟩
set_option maxHeartbeats 1000000 in
theorem lend_missing (base d m:Nat) (O P L:Value) (wd now given births:Int) (ks:List Kd) (ps:List Pd) (ls:List Ld) (s:ByteArray) (ticks:Int) (w:World) (h:DU w base d m O P L wd now given births ks ps ls) (hsz:∀k∈ks,(k.sum.size:Int)=wd) (hth:¬There ks s):
 Calls Tryz.prog 169 #[.pointer (some ⟨d,0,none⟩),.string s,.int .i64 ticks] w fun e w'=>e=.panicked [{v:=refV 2 ⟨#[]⟩ ⟨#[]⟩,recovered:=false}]/\Below w.heap.size w w':=by
 have HN:Hid _:=need_no base d m O P L wd now given births ks ps ls s w h.dr hsz hth
 clear h hsz hth
 go_enter Tryz.func169,Tryz.ntmps169
 go_wp2_with fail
 refine Calls.mono HN.out ?_
 rintro e w1 ⟨rfl,hb1⟩
 go_wp2
 exact ⟨rfl,rfl,hb1⟩
set_option maxHeartbeats 1000000 in
theorem lend_full (base d m:Nat) (O P L:Value) (wd now given births:Int) (ks:List Kd) (ps:List Pd) (ls:List Ld) (s:ByteArray) (ticks:Int) (w:World) (h:DU w base d m O P L wd now given births ks ps ls) (hsz:∀k∈ks,(k.sum.size:Int)=wd) (hth:There ks s) (hfull:ls.length=200∨given=1000000000):
 Calls Tryz.prog 169 #[.pointer (some ⟨d,0,none⟩),.string s,.int .i64 ticks] w fun e w'=>e=.panicked [{v:=refV 4 ⟨#[]⟩ ⟨#[]⟩,recovered:=false}]/\Below w.heap.size w w':=by
 have HN:Hid _:=need_yes base d m O P L wd now given births ks ps ls s w h.dr hsz hth
 obtain ⟨la,lcp,hLe⟩:=own_val h.dr.lea
 subst hLe
 have HD:Hid (DU w base d m O P (.slice la ls.length lcp) wd now given births ks ps ls):=h
 clear h hsz hth
 by_cases h1:ls.length=200
 ·have hll:((ls.length:Int)==200)=true:=by simp;omega
  clear hfull h1
  go_enter Tryz.func169,Tryz.ntmps169
  go_wp2_with fail
  refine Calls.mono HN.out ?_
  rintro e w1 ⟨rfl,hb1⟩
  have hD1:=HD.out.below hb1
  obtain ⟨c3,_⟩:=hD1.dr.box 3 _ rfl
  obtain ⟨c7,_⟩:=hD1.dr.box 7 _ rfl
  clear hD1 HD HN
  go_wp2
  exact ⟨rfl,rfl,hb1⟩
 ·have hll:((ls.length:Int)==200)=false:=by simp;omega
  have hgg:(given==1000000000)=true:=by
   rcases hfull with h|h
   ·exact absurd h h1
   ·rw [h];rfl
  clear hfull h1
  go_enter Tryz.func169,Tryz.ntmps169
  go_wp2_with fail
  refine Calls.mono HN.out ?_
  rintro e w1 ⟨rfl,hb1⟩
  have hD1:=HD.out.below hb1
  obtain ⟨c3,_⟩:=hD1.dr.box 3 _ rfl
  obtain ⟨c7,_⟩:=hD1.dr.box 7 _ rfl
  clear hD1 HD HN
  go_wp2
  exact ⟨rfl,rfl,hb1⟩
set_option maxHeartbeats 1000000 in
theorem wait_full (base d m:Nat) (O P L:Value) (wd now given births:Int) (ks:List Kd) (ps:List Pd) (ls:List Ld) (ticks:Int) (w:World) (h:DU w base d m O P L wd now given births ks ps ls) (hn0:0<=now) (hn1:now<=1000000000) (ht0:0<=ticks) (ht1:ticks<=1000000000) (hs:1000000000<now+ticks):
 Calls Tryz.prog 173 #[.pointer (some ⟨d,0,none⟩),.int .i64 ticks] w fun e w'=>e=.panicked [{v:=refV 4 ⟨#[]⟩ ⟨#[]⟩,recovered:=false}]/\Below w.heap.size w w':=by
 obtain ⟨W,hW⟩:∃W,W=w.alloc (.cells #[.pointer (some ⟨d,0,none⟩)] 82):=⟨_,rfl⟩
 have bW:Below w.heap.size w W:=by rw [hW];exact (Below.refl _ _).alloc (Nat.le_refl _) _
 have zW:CellsAt W w.heap.size [.pointer (some ⟨d,0,none⟩)]:=by rw [hW];exact CellsAt.new w _ _
 have hD:=h.below bW
 have HW:Hid _:=hW
 have hwr:IntKind.i64.wrap (now+ticks)=now+ticks:=wrap_sum hn0 hn1 ht0 ht1
 obtain ⟨z0,_⟩:=zW 0 _ rfl
 obtain ⟨c2,_⟩:=hD.dr.box 2 _ rfl
 clear h hD hW zW
 go_enter Tryz.func173,Tryz.ntmps173
 go_upto_region 1 with fail
 rw [←HW.out]
 clear HW
 go_wp2
 exact ⟨rfl,rfl,bW⟩
set_option maxHeartbeats 1000000 in
theorem searchLease_nil (a:Option Addr) (cap:Nat) (n:Int) (w:World):
 Calls Tryz.prog 204 #[.slice a 0 cap,.int .i64 n,.func (.func 205) #[] #[]] w fun e w'=>e=.returned (.tuple #[.int .i64 0,.bool false])/\Below w.heap.size w w':=by
 go_enter Tryz.func204,Tryz.ntmps204
 go_wp2
 go_loopw [9,10] (fun i j wr=>i=.int .i64 0/\j=.int .i64 0/\wr=w) (fun _ _ _=>0)
 case atStart=>exact ⟨rfl,rfl,rfl⟩
 case round=>
  obtain ⟨rfl,rfl,rfl⟩:=hrel
  go_wp2
  go_ret2
  exact ⟨by first|rfl|simp [Act.put],Below.refl _ _⟩
set_option maxHeartbeats 1000000 in
theorem searchPin_nil (a:Option Addr) (cap:Nat) (n:ByteArray) (w:World):
 Calls Tryz.prog 230 #[.slice a 0 cap,.string n,.func (.func 231) #[] #[]] w fun e w'=>e=.returned (.tuple #[.int .i64 0,.bool false])/\Below w.heap.size w w':=by
 go_enter Tryz.func230,Tryz.ntmps230
 go_wp2
 go_loopw [9,10] (fun i j wr=>i=.int .i64 0/\j=.int .i64 0/\wr=w) (fun _ _ _=>0)
 case atStart=>exact ⟨rfl,rfl,rfl⟩
 case round=>
  obtain ⟨rfl,rfl,rfl⟩:=hrel
  go_wp2
  go_ret2
  exact ⟨by first|rfl|simp [Act.put],Below.refl _ _⟩
theorem searchL (base:Nat) (L:Value) (ls:List Ld) (n:Int) (w:World) (ho:w.ownsRow base 137 3 L ls.length (rowC lC ls)) (hl:ls.length<=600) (hsort:ls.Pairwise (fun a b=>a.num<b.num)):
 Calls Tryz.prog 204 #[L,.int .i64 n,.func (.func 205) #[] #[]] w fun e w'=>∃i:Nat,e=.returned (.tuple #[.int .i64 i,.bool (decide (∃x,ls[i]?=some x/\x.num=n))])/\PlaceN ls n i/\Below w.heap.size w w':=by
 rcases ho.2 with ⟨rfl,hz⟩|⟨g,cap,cur,rfl,_⟩
 ·have:ls=[]:=List.eq_nil_of_length_eq_zero hz
  subst this
  refine (searchLease_nil none 0 n w).mono ?_
  rintro e w' ⟨rfl,hb⟩
  exact ⟨0,by simp,⟨Nat.le_refl _,fun j x h=>by omega,fun j x _ hx=>by simp at hx⟩,hb⟩
 ·exact searchLease_any g cap ls n w base ho hl hsort
theorem searchP (base:Nat) (P:Value) (ps:List Pd) (n:ByteArray) (w:World) (ho:w.ownsRow base 134 2 P ps.length (rowC pC ps)) (hl:ps.length<=600) (hsort:ps.Pairwise (fun a b=>less a.name b.name=true)):
 Calls Tryz.prog 230 #[P,.string n,.func (.func 231) #[] #[]] w fun e w'=>∃i:Nat,e=.returned (.tuple #[.int .i64 i,.bool (decide (∃x,ps[i]?=some x/\x.name=n))])/\PlaceP ps n i/\Below w.heap.size w w':=by
 rcases ho.2 with ⟨rfl,hz⟩|⟨g,cap,cur,rfl,_⟩
 ·have:ps=[]:=List.eq_nil_of_length_eq_zero hz
  subst this
  refine (searchPin_nil none 0 n w).mono ?_
  rintro e w' ⟨rfl,hb⟩
  exact ⟨0,by simp,⟨Nat.le_refl _,fun j x h=>by omega,fun j x _ hx=>by simp at hx⟩,hb⟩
 ·exact searchPin_any g cap ps n w base ho hl hsort
set_option maxHeartbeats 1000000 in
theorem give_no (base d m:Nat) (O P L:Value) (wd now given births:Int) (ks:List Kd) (ps:List Pd) (ls:List Ld) (n:Int) (w:World) (h:DU w base d m O P L wd now given births ks ps ls) (hl:ls.length<=200) (hsort:ls.Pairwise (fun a b=>a.num<b.num)) (hth:¬∃x∈ls,x.num=n):
 Calls Tryz.prog 172 #[.pointer (some ⟨d,0,none⟩),.int .i64 n] w fun e w'=>e=.panicked [{v:=refV 5 ⟨#[]⟩ ⟨#[]⟩,recovered:=false}]/\Below w.heap.size w w':=by
 have HS:Hid _:=searchL base L ls n w h.dr.lea (by omega) hsort
 obtain ⟨la,lcp,hLe⟩:=own_val h.dr.lea
 subst hLe
 have HTh:Hid (¬∃x∈ls,x.num=n):=hth
 obtain ⟨c7,_⟩:=h.dr.box 7 _ rfl
 clear h hsort hth
 go_enter Tryz.func172,Tryz.ntmps172
 go_wp2_with fail
 refine Calls.mono HS.out ?_
 rintro e w1 ⟨i,rfl,_,hb1⟩
 have hdec:decide (∃x,ls[i]?=some x/\x.num=n)=false:=by
  rw [decide_eq_false_iff_not]
  rintro ⟨x,hx,hn⟩
  exact HTh.out ⟨x,List.mem_of_getElem? hx,hn⟩
 rw [hdec]
 clear hdec HS HTh c7
 go_wp2
 exact ⟨rfl,rfl,hb1⟩
set_option maxHeartbeats 1000000 in
theorem pinPlaceV (base d m:Nat) (O P L:Value) (wd now given births:Int) (ks:List Kd) (ps:List Pd) (ls:List Ld) (n:ByteArray) (w:World) (h:DU w base d m O P L wd now given births ks ps ls) (hl:ps.length<=200) (hsort:ps.Pairwise (fun a b=>less a.name b.name=true)):
 Calls Tryz.prog 201 #[.pointer (some ⟨d,0,none⟩),.string n] w fun e w'=>∃i:Nat,e=.returned (.tuple #[.int .i64 i,.bool (decide (∃x,ps[i]?=some x/\x.name=n))])/\PlaceP ps n i/\Below w.heap.size w w':=by
 have HS:Hid _:=searchP base P ps n w h.dr.pin (by omega) hsort
 obtain ⟨la,lcp,hLe⟩:=own_val h.dr.pin
 subst hLe
 obtain ⟨c6,_⟩:=h.dr.box 6 _ rfl
 clear h hsort
 go_enter Tryz.func201,Tryz.ntmps201
 go_wp2_with fail
 refine Calls.mono HS.out ?_
 rintro e w1 ⟨i,rfl,hp1,hb1⟩
 obtain ⟨bb,hbb⟩:∃bb,decide (∃x,ps[i]?=some x/\x.name=n)=bb:=⟨_,rfl⟩
 have HBB:Hid (decide (∃x,ps[i]?=some x/\x.name=n)=bb):=hbb
 rw [hbb]
 clear hbb
 go_wp2
 go_ret2
 exact ⟨i,by rw [HBB.out];rfl,hp1,hb1⟩
set_option maxHeartbeats 1000000 in
theorem unpin_no (base d m:Nat) (O P L:Value) (wd now given births:Int) (ks:List Kd) (ps:List Pd) (ls:List Ld) (n:ByteArray) (w:World) (h:DU w base d m O P L wd now given births ks ps ls) (hl:ps.length<=200) (hsort:ps.Pairwise (fun a b=>less a.name b.name=true)) (hth:¬∃x∈ps,x.name=n):
 Calls Tryz.prog 171 #[.pointer (some ⟨d,0,none⟩),.string n] w fun e w'=>e=.panicked [{v:=refV 5 ⟨#[]⟩ ⟨#[]⟩,recovered:=false}]/\Below w.heap.size w w':=by
 have HS:Hid _:=pinPlaceV base d m O P L wd now given births ks ps ls n w h hl hsort
 have HTh:Hid (¬∃x∈ps,x.name=n):=hth
 clear h hsort hth
 go_enter Tryz.func171,Tryz.ntmps171
 go_wp2_with fail
 refine Calls.mono HS.out ?_
 rintro e w1 ⟨i,rfl,_,hb1⟩
 have hdec:decide (∃x,ps[i]?=some x/\x.name=n)=false:=by
  rw [decide_eq_false_iff_not]
  rintro ⟨x,hx,hn⟩
  exact HTh.out ⟨x,List.mem_of_getElem? hx,hn⟩
 rw [hdec]
 clear hdec HS HTh
 go_wp2
 exact ⟨rfl,rfl,hb1⟩
end Go.Proofs.YtpekbmegopfhfaaGreatDoor
