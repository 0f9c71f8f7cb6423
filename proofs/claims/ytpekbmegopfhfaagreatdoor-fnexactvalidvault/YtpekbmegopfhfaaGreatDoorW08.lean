import Derived.Test.YtpekbmegopfhfaaGreatDoorW07
import Derived.Deep.RegionLaw
namespace Go.Proofs.YtpekbmegopfhfaaGreatDoor
open Go.ChangeShapes Go.WideShapes Go.ChangeAt Go.RowKit
open Go.WideElems Go.MapKept Go.ChangeMaps
open Classical in
noncomputable def ers (f:Lit->Option Value) (kl:Lit):Lit->Option Value:=fun x=>if x=kl then none else f x
theorem KMap.del {w:World} {K t e:TypeId} {b n:Nat} {f:Lit->Option Value} (h:KMap w K b n f) (hK:Maps.Keyed Tryz.prog K) (ht:Tryz.prog.underlying t=some (.map K e)) {key:Value} {kl:Lit} (hkey:keyOf Tryz.prog K key=some kl) (ty:TypeId):
 ∃w',(Builtin.delete_ #[t,K] ty #[.map (some b),key]).run Tryz.prog w=.ok (.tuple #[]) w'/\KMap w' K b n (ers f kl)/\w.grownBy w' (some b):=by
 obtain ⟨D,h1,h2,h3⟩:=h
 obtain ⟨w',hr,ho,es,clock,es',clock',hb,rfl⟩:=h1.drop hK ht hkey ty
 refine ⟨_,hr,⟨_,ho,fun x z=> ?_,fun x=> ?_⟩,?_⟩
 ·by_cases hx:x=kl
  ·subst hx;rw [Maps.atKey_del_same];simp [ers]
  ·rw [Maps.atKey_del_other hx,h2];simp [ers,hx]
 ·by_cases hx:x=kl
  ·subst hx;rw [Maps.has_del_same];simp [ers]
  ·rw [Maps.has_del_other hx,h3];simp [ers,hx]
 ·refine ⟨rfl,rfl,rfl,by simp [setBlock],fun i _ hi=> ?_⟩
  simp only [setBlock]
  rw [Array.getElem?_setIfInBounds_ne (fun e=>hi (by rw [e]))]
theorem zeroKey (w:World):(zeroValue 139).run Tryz.prog w=.ok (.agg zero8) w:=by kernel_rfl
theorem run_clear_key (w:World) (ty:TypeId) (b o c:Nat) (hc:∀j,j<8->(w.cell? ⟨b,o+j,none⟩).isSome=true) (hf:∀j,j<8->w.frozen? ⟨b,o+j,none⟩=false):
 (Builtin.clear_ #[129] ty #[.slice (some ⟨b,o,none⟩) 1 c]).run Tryz.prog w=.ok (.tuple #[]) (w.setCells b o zero8.toList):=by
 have hzc:(Builtin.zeroCells (Value.agg zero8).cells 1).toList=zero8.toList:=by kernel_rfl
 have hst:=run_storeCells_cells (P:=Tryz.prog) b o zero8.toList 0 w (by simpa [zero8] using hc) (by simpa [zero8] using hf) (by intro v hv';simp [zero8] at hv';subst hv';rfl)
 simp only [Nat.add_zero] at hst
 have hzk:=zeroKey
 unfold zero8 at hzc hst hzk ⊢
 simp [Builtin.clear_,run_underlying Tryz.underlying129,hzk,hzc,hst]
theorem own_past {base g cap n size:Nat} {e:TypeId} {xs:List Value}:∀(vs:List Value) (o:Nat) (w:World),w.ownsRow base e size (.slice (some ⟨g,0,none⟩) n cap) n xs->n *size<=o->(w.setCells g o vs).ownsRow base e size (.slice (some ⟨g,0,none⟩) n cap) n xs
 |[],_,_,h,_=>h
 |v::r,o,w,h,ho=>by
  rw [World.setCells]
  refine own_past r (o+1) _ ?_ (by omega)
  have:=(h.stored o v).1
  rw [List.set_eq_of_length_le (by rw [h.1];exact ho)] at this
  exact this
theorem grown_setC (g:Nat):∀(vs:List Value) (o:Nat) (w:World),w.grownBy (w.setCells g o vs) (some g)
 |[],_,w=>⟨rfl,rfl,rfl,Nat.le_refl _,fun _ _ _=>rfl⟩
 |v::r,o,w=>by
  rw [World.setCells]
  exact grown_trans (rd_grown w g o v) (grown_setC g r (o+1) _)
theorem grown_undrew {w w':World} {r:Option Nat} (h:w.drew.grownBy w' r):w.grownBy w' r:=⟨h.os,h.tape,h.output,h.size,h.block⟩
theorem own_cut {w:World} {base g cap:Nat} {ss:List ByteArray} (h:w.ownsRow base 139 8 (.slice (some ⟨g,0,none⟩) ss.length cap) ss.length (cells8 ss)) (i:Nat) (hi:i<=ss.length):w.ownsRow base 139 8 (.slice (some ⟨g,0,none⟩) i cap) i (cells8 (ss.take i)):=by
 refine ⟨by rw [cells8_len,List.length_take];congr 1;omega,?_⟩
 rcases h.2 with ⟨e,_⟩|⟨g',cap',cur,e,hb,hg,h1,h2,h3,h4⟩
 ·cases e
 ·cases e
  refine .inr ⟨g,cap,cur,rfl,hb,hg,by omega,h2,h3,?_⟩
  rw [cells8_flat,←row_take kC_len ss i hi,←cells8_flat,←h4,List.take_take]
  congr 1
  omega
set_option maxRecDepth 20000 in
set_option maxHeartbeats 4000000 in
theorem deleteKey_any (g cap i:Nat) (ss:List ByteArray) (w:World) (base:Nat) (ho:w.ownsRow base 139 8 (.slice (some ⟨g,0,none⟩) ss.length cap) ss.length (cells8 ss)) (hl:ss.length<=600) (hi:i<ss.length):
 Calls Tryz.prog 212 #[.slice (some ⟨g,0,none⟩) ss.length cap,.int .i64 i,.int .i64 ((i:Int)+1)] w fun e w'=>e=.returned (.slice (some ⟨g,0,none⟩) (ss.length -1) cap)/\w'.ownsRow base 139 8 (.slice (some ⟨g,0,none⟩) (ss.length -1) cap) (ss.length -1) (cells8 (ss.eraseIdx i))/\w.grownBy w' (some g):=by
 obtain ⟨i0,hinf,hz0,hz1,hz2⟩:=info_parts Tryz.infoKey
 have hcap:ss.length<=cap/\cap<=maxLen:=by
  rcases ho.2 with ⟨e,_⟩|⟨g',cap',cur,e,hb,hg,h1,h2,h3,h4⟩
  ·cases e
  ·cases e;exact ⟨h1,h2⟩
 obtain ⟨hc1,hc2⟩:=hcap
 unfold maxLen at hc2
 have hcut:=own_cut ho i (by omega)
 obtain ⟨A,hA,hnews⟩:∃A,(if cap=i+1 then some (⟨g,0,none⟩:Addr) else some ⟨g,(i+1) *8,none⟩)=some A/\∀j u,(cells8 (ss.drop (i+1)))[j]?=some u->w.drew.cell? (A.add j)=some u:=by
  by_cases h:cap=i+1
  ·refine ⟨⟨g,0,none⟩,by rw [if_pos h],fun j u hu=> ?_⟩
   rw [List.drop_of_length_le (by omega)] at hu
   simp [cells8] at hu
  ·refine ⟨⟨g,(i+1) *8,none⟩,by rw [if_neg h],fun j u hu=> ?_⟩
   rw [Go.WideShapes.add_plain]
   rw [cells8_flat,←row_drop kC_len ss (i+1) (by omega),←cells8_flat,List.getElem?_drop] at hu
   have hlt:=(List.getElem?_eq_some_iff.1 hu).1
   rw [cells8_len] at hlt
   exact (ho.cellAt _ (by omega)).trans hu
 obtain ⟨w1,hr,ho1,hg1⟩:=run_append_fits (P:=Tryz.prog) w.drew base 129 129 139 i0 8 Tryz.underlying129 hinf hz1 g i cap (cells8 (ss.take i)) hcut A (ss.length -(i+1)) (cap -(i+1)) (cells8 (ss.drop (i+1))) (by rw [cells8_len,List.length_drop]) hnews (cells8_one _) (by omega)
 rw [←cells8_append,show i+(ss.length -(i+1))=ss.length -1 by omega] at ho1
 rw [show i+(ss.length -(i+1))=ss.length -1 by omega] at hr
 have hee:ss.take i++ss.drop (i+1)=ss.eraseIdx i:=(List.eraseIdx_eq_take_drop_succ ss i).symm
 rw [hee] at ho1
 have HO:Hid _:=And.intro ho1 hg1
 clear hnews ho1 hcut hee
 go_enter Tryz.func212,Tryz.ntmps212
 have hi1:¬((i:Int)==(i:Int)+1)=true:=by simp;omega
 have hic:i<=cap:=by omega
 have hp0:(0:Int)<=(i:Int)+1:=by omega
 have hp1:(i:Int)+1<=(ss.length:Int):=by omega
 have hp2:((i:Int)+1).toNat=i+1:=by omega
 go_upto_region 5 with fail
 go_region_law (first
  |(refine step_append_run (by rfl) (.tmp 22) (.tmp 25) 129 129 (by rfl) (by rfl) (by simp [Act.eval,Act.put]) hr ?_))
 all_goals
  have hf1:∀j,j<8->(w1.cell? ⟨g,(ss.length -1) *8+j,none⟩).isSome=true/\w1.frozen? ⟨g,(ss.length -1) *8+j,none⟩=false:=fun j hj=>by
   obtain ⟨ho1,hg1⟩:=HO.out
   rcases ho1.2 with ⟨e,_⟩|⟨g',cap',cur,e,hb,hg,h1,h2,h3,h4⟩
   ·cases e
   ·cases e
    constructor
    ·simp only [World.cell?,hg]
     rw [Array.getElem?_eq_getElem (by omega)]
     rfl
    ·exact ho1.frozenAt _
  have hclr:=run_clear_key w1 0 g ((ss.length -1) *8) (cap -(ss.length -1)) (fun j hj=>(hf1 j hj).1) (fun j hj=>(hf1 j hj).2)
  have e1:ss.length -(ss.length -1)=1:=by omega
  have e2:¬cap=ss.length -1:=by omega
  have e3:ss.length -1<=ss.length:=by omega
  go_wp2
  go_ret
  obtain ⟨ho1,hg1⟩:=HO.out
  exact ⟨rfl,own_past _ _ _ ho1 (Nat.le_refl _),grown_trans (grown_undrew hg1) (grown_setC g _ _ _)⟩
set_option maxRecDepth 20000 in
set_option maxHeartbeats 2000000 in
theorem place_any (base d m g cap:Nat) (P L:Value) (wd now given births:Int) (ks:List Kd) (s:ByteArray) (w:World) (hbox:CellsAt w d [.int .i64 wd,.map (some m),.int .i64 now,.int .i64 given,.int .i64 births,.slice (some ⟨g,0,none⟩) ks.length cap,P,L]) (hord:w.ownsRow base 139 8 (.slice (some ⟨g,0,none⟩) ks.length cap) ks.length (cells8 (ks.map (·.sum))))
 (hk:ks.length<=600) (hs8:s.size<=8) (hsz:∀x∈ks,x.sum.size=s.size) (hsort:(ks.map (·.sum)).Pairwise (fun a b=>less a b=true)):
 Calls Tryz.prog 211 #[.pointer (some ⟨d,0,none⟩),keyV s] w fun e w'=>∃i:Nat,e=.returned (.tuple #[.int .i64 i,.bool (decide ((ks.map (·.sum))[i]?=some s))])/\PlaceAt (ks.map (·.sum)) s i/\Below w.heap.size w w':=by
 obtain ⟨W,hW⟩:∃W,W=w.alloc (.cells #[.int .u8 (kB s 0),.int .u8 (kB s 1),.int .u8 (kB s 2),.int .u8 (kB s 3),.int .u8 (kB s 4),.int .u8 (kB s 5),.int .u8 (kB s 6),.int .u8 (kB s 7)] 139):=⟨_,rfl⟩
 have hB:Below w.heap.size w W:=by rw [hW];exact (Below.refl _ _).alloc (Nat.le_refl _) _
 have cb:CellsAt W w.heap.size (kCells s):=by rw [hW];exact CellsAt.new w (kCells s) 139
 have hoW:W.drew.ownsRow base 139 8 (.slice (some ⟨g,0,none⟩) (ks.map (·.sum)).length cap) (ks.map (·.sum)).length (cells8 (ks.map (·.sum))):=by
  rw [List.length_map]
  exact own_below hord hB.drew
 have HS:Hid _:=search_any g cap (ks.map (·.sum)) s W.drew base hoW (by rw [List.length_map];exact hk) hs8 (fun x hx=>by obtain ⟨y,hy,rfl⟩:=List.mem_map.1 hx;exact hsz y hy) hsort
 rw [List.length_map] at HS
 have S0:W.drew.cell? ⟨d,5,none⟩=some (.slice (some ⟨g,0,none⟩) ks.length cap)/\(W.drew.cell? ⟨w.heap.size,0,none⟩=some (.int .u8 (kB s 0))/\W.drew.cell? ⟨w.heap.size,1,none⟩=some (.int .u8 (kB s 1))/\W.drew.cell? ⟨w.heap.size,2,none⟩=some (.int .u8 (kB s 2))/\W.drew.cell? ⟨w.heap.size,3,none⟩=some (.int .u8 (kB s 3))/\W.drew.cell? ⟨w.heap.size,4,none⟩=some (.int .u8 (kB s 4))/\W.drew.cell? ⟨w.heap.size,5,none⟩=some (.int .u8 (kB s 5))/\W.drew.cell? ⟨w.heap.size,6,none⟩=some (.int .u8 (kB s 6))/\W.drew.cell? ⟨w.heap.size,7,none⟩=some (.int .u8 (kB s 7))):=⟨(CellsAt.below hbox hB 5 _ rfl).1,box8 cb⟩
 have HW:Hid _:=hW
 clear hW cb hoW hbox hord
 unfold keyV keyA at *
 go_enter Tryz.func211,Tryz.ntmps211
 go_upto_region 1 with fail
 rw [←HW.out]
 clear HW
 obtain ⟨s5,s60,s61,s62,s63,s64,s65,s66,s67⟩:=S0
 go_region_with (go_at_call 239;refine Calls.mono HS.out ?_;rintro e w1 ⟨i,rfl,hp,hb⟩)
 all_goals
  have HF:Hid _:=And.intro hp (hB.trans ((below_undrew hb).mono hB.size))
  clear hp hb s5 s60 s61 s62 s63 s64 s65 s66 s67 HS
  go_wp2
  go_ret2
  exact ⟨i,by first|rfl|simp [Act.put],HF.out.1,HF.out.2⟩
end Go.Proofs.YtpekbmegopfhfaaGreatDoor
namespace Go.Proofs.YtpekbmegopfhfaaGreatDoor
open Go.ChangeShapes Go.WideShapes Go.ChangeAt Go.RowKit
set_option maxHeartbeats 400000 in
theorem cNaN_any (x:ByteArray) (w:World):Calls Tryz.prog 246 #[.string x] w fun e w'=>e=.returned (.bool false)/\Below w.heap.size w w':=by
 go_enter Tryz.func246,Tryz.ntmps246
 go_wp2
 go_ret
 exact ⟨by simp,Below.refl _ _⟩
set_option maxHeartbeats 400000 in
theorem sNaN_any (x:ByteArray) (w:World):Calls Tryz.prog 262 #[.string x] w fun e w'=>e=.returned (.bool false)/\Below w.heap.size w w':=by
 go_enter Tryz.func262,Tryz.ntmps262
 go_wp2
 go_ret
 exact ⟨by simp,Below.refl _ _⟩
set_option maxHeartbeats 1000000 in
theorem lessS_any (x y:ByteArray) (w:World):Calls Tryz.prog 261 #[.string x,.string y] w fun e w'=>e=.returned (.bool (less x y))/\Below w.heap.size w w':=by
 go_enter Tryz.func261,Tryz.ntmps261
 unfold less
 go_wp2_with (go_at_call 246;refine (cNaN_any x w).mono ?_;rintro e w1 ⟨rfl,hb1⟩)
 go_wp2
 go_ret
 exact ⟨by simp,hb1⟩
set_option maxRecDepth 20000 in
set_option maxHeartbeats 4000000 in
theorem searchS_any (a:Option Addr) (cap:Nat) (ss:List ByteArray) (s:ByteArray) (w:World) (hrow:SRow w w.heap.size a ss) (hl:ss.length<=1000) (hsort:ss.Pairwise (fun a b=>less a b=true)):
 Calls Tryz.prog 254 #[.slice a ss.length cap,.string s] w fun e w'=>∃(i:Int) (ok:Bool),e=.returned (.tuple #[.int .i64 i,.bool ok])/\(ok=true↔s∈ss)/\Below w.heap.size w w':=by
 have HL:Hid (∀x y w,Calls Tryz.prog 261 #[.string x,.string y] w fun e w'=>e=.returned (.bool (less x y))/\Below w.heap.size w w'):=lessS_any
 go_enter Tryz.func254,Tryz.ntmps254
 go_wp2
 go_loopw [7,8] (fun i j wr=>∃lo hi:Nat,i=.int .i64 lo/\j=.int .i64 hi/\lo<=hi/\hi<=ss.length/\Hid ((∀j x,j<lo->ss[j]?=some x->less x s=true)/\(∀j x,hi<=j->ss[j]?=some x->less x s=false))/\Below w.heap.size w wr) (fun i j _=>(intOf j).toNat -(intOf i).toNat)
 case atStart=>exact ⟨0,ss.length,rfl,rfl,Nat.zero_le _,Nat.le_refl _,⟨fun j x h=>by omega,fun j x h hx=>by have:=(List.getElem?_eq_some_iff.1 hx).1;omega⟩,Below.refl _ _⟩
 case round=>
  obtain ⟨lo,hi,rfl,rfl,hlh,hin,HI,hbel⟩:=hrel
  have hzr:=hbel.size
  by_cases hlt:lo<hi
  ·have hml:(lo+hi)/2<ss.length:=by omega
   have HG:Hid (ss[(lo+hi)/2]?=some ss[(lo+hi)/2]):=List.getElem?_eq_getElem hml
   obtain ⟨b,off,ha,hb,hc⟩:=(hrow.below hbel).at hml
   subst ha
   have hx:=hc _ _ HG.out
   clear hc
   generalize ss[(lo+hi)/2]=x at *
   go_wp2_with fail
   refine (lessS_any x s wr).mono ?_
   rintro e w1 ⟨rfl,hb1⟩
   have hB1:=hbel.trans (hb1.mono hzr)
   by_cases hc:less x s=true
   ·rw [hc]
    go_wp2
    refine ⟨⟨(lo+hi)/2+1,hi,by go_num,rfl,by omega,hin,⟨?_,HI.out.2⟩,hB1⟩,by simp [intOf];omega⟩
    intro j y hj hy
    rcases Nat.lt_or_ge j ((lo+hi)/2) with h|h
    ·have:=List.pairwise_iff_getElem.1 hsort j ((lo+hi)/2) (by omega) hml h
     obtain ⟨_,rfl⟩:=List.getElem?_eq_some_iff.1 hy
     obtain ⟨_,e⟩:=List.getElem?_eq_some_iff.1 HG.out
     rw [e] at this
     exact less_trans this hc
    ·obtain rfl:j=(lo+hi)/2:=by omega
     rw [HG.out] at hy
     cases hy
     exact hc
   ·have hxf:less x s=false:=by simpa using hc
    rw [hxf]
    go_wp2
    refine ⟨⟨lo,(lo+hi)/2,rfl,by go_num,by omega,by omega,⟨HI.out.1,?_⟩,hB1⟩,by simp [intOf];omega⟩
    intro j y hj hy
    rcases Nat.lt_or_ge ((lo+hi)/2) j with h|h
    ·have hjl:=(List.getElem?_eq_some_iff.1 hy).1
     have:=List.pairwise_iff_getElem.1 hsort ((lo+hi)/2) j hml hjl h
     obtain ⟨_,rfl⟩:=List.getElem?_eq_some_iff.1 hy
     obtain ⟨_,e⟩:=List.getElem?_eq_some_iff.1 HG.out
     rw [e] at this
     cases h':less ss[j] s with
     |false=>rfl
     |true=>rw [less_trans this h'] at hxf;cases hxf
    ·obtain rfl:j=(lo+hi)/2:=by omega
     rw [HG.out] at hy
     cases hy
     exact hxf
  ·obtain rfl:lo=hi:=by omega
   have hmem:s∈ss->ss[lo]?=some s:=fun hs=>by
    obtain ⟨j,hj⟩:=List.getElem?_of_mem hs
    rcases Nat.lt_or_ge j lo with h|h
    ·have:=HI.out.1 j s h hj
     rw [less_irrefl] at this
     cases this
    ·rcases Nat.lt_or_ge lo j with h'|h'
     ·have hjl:=(List.getElem?_eq_some_iff.1 hj).1
      have h1:=List.pairwise_iff_getElem.1 hsort lo j (by omega) hjl h'
      have h2:=HI.out.2 lo _ (Nat.le_refl _) (List.getElem?_eq_getElem (by omega))
      obtain ⟨_,e⟩:=List.getElem?_eq_some_iff.1 hj
      rw [e] at h1
      rw [h1] at h2
      cases h2
     ·obtain rfl:j=lo:=by omega
      exact hj
   have HM:Hid _:=hmem
   clear hmem
   by_cases hn:lo<ss.length
   ·have HG:Hid (ss[lo]?=some ss[lo]):=List.getElem?_eq_getElem hn
    obtain ⟨b,off,ha,hb,hc⟩:=(hrow.below hbel).at hn
    subst ha
    have hx:=hc _ _ HG.out
    clear hc
    generalize ss[lo]=x at *
    by_cases he:x=s
    ·subst he
     have hd:x∈ss:=List.mem_of_getElem? HG.out
     have HDm:Hid _:=hd
     clear hd
     have hq:(x.toList==x.toList)=true:=by simp
     go_wp2
     go_ret2
     exact ⟨_,true,by first|rfl|simp [Act.put],⟨fun _=>HDm.out,fun _=>rfl⟩,hbel⟩
    ·have hd:¬s∈ss:=by
      intro h
      have:=HM.out h
      rw [HG.out] at this
      exact he (Option.some.inj this)
     have HDm:Hid _:=hd
     clear hd
     have hq:=beq_ne he
     go_wp2_with (go_at_call 262;refine (sNaN_any x wr).mono ?_;rintro e w1 ⟨rfl,hb1⟩)
     go_wp2
     go_ret2
     exact ⟨_,false,by first|rfl|simp [Act.put],⟨(fun h=>by cases h),(fun h=>absurd h HDm.out)⟩,hbel.trans (hb1.mono hzr)⟩
   ·have hd:¬s∈ss:=by
     intro h
     have:=(List.getElem?_eq_some_iff.1 (HM.out h)).1
     omega
    have HDm:Hid _:=hd
    clear hd
    go_wp2
    go_ret2
    exact ⟨_,false,by first|rfl|simp [Act.put],⟨(fun h=>by cases h),(fun h=>absurd h HDm.out)⟩,hbel⟩
end Go.Proofs.YtpekbmegopfhfaaGreatDoor
namespace Go.Proofs.YtpekbmegopfhfaaGreatDoor
open Go.ChangeShapes Go.WideShapes Go.ChangeAt Go.RowKit
attribute [local go_sem↓] Go.wp_at_zero Go.wp_at_succ
set_option maxHeartbeats 400000 in
theorem eqPins_any (p:Pd) (s:ByteArray) (b:Nat) (w:World) (hc:w.cell? ⟨b,0,none⟩=some (.string s)):
 Calls Tryz.prog 249 #[.agg #[.string p.name,.string p.sum],.pointer (some ⟨b,0,none⟩)] w fun e w'=>e=.returned (.bool (decide (p.sum=s)))/\Below w.heap.size w w':=by
 have hb:b<w.heap.size:=World.block_lt_of_cell? w _ hc
 have hne:¬w.heap.size=b:=by omega
 have hA:∀o,Below w.heap.size w (w.alloc o):=fun o=>(Below.refl _ _).alloc (Nat.le_refl _) _
 by_cases h:p.sum=s
 ·have hq:(p.sum.toList==s.toList)=true:=by rw [h];simp
  have hd:decide (p.sum=s)=true:=by simpa using h
  clear h
  go_enter Tryz.func249,Tryz.ntmps249
  go_wp2
  go_ret
  exact ⟨by rw [hd];rfl,hA _⟩
 ·have hq:(p.sum.toList==s.toList)=false:=beq_ne h
  have hd:decide (p.sum=s)=false:=by simpa using h
  clear h
  go_enter Tryz.func249,Tryz.ntmps249
  go_wp2
  go_ret
  exact ⟨by rw [hd];rfl,hA _⟩
set_option maxHeartbeats 1000000 in
theorem indexPin_any (a:Option Addr) (cap b:Nat) (ps:List Pd) (s:ByteArray) (w:World) (hrow:PRow w w.heap.size a ps) (hl:ps.length<=1048576) (hc:w.cell? ⟨b,0,none⟩=some (.string s)):
 Calls Tryz.prog 259 #[.slice a ps.length cap,.func (.func 249) #[] #[.pointer (some ⟨b,0,none⟩)]] w fun e w'=>∃r:Int,e=.returned (.int .i64 r)/\(0<=r↔∃p∈ps,p.sum=s)/\Below w.heap.size w w':=by
 have hbl:b<w.heap.size:=World.block_lt_of_cell? w _ hc
 go_enter Tryz.func259,Tryz.ntmps259
 go_wp2
 go_loopw [8] (fun i wr=>∃k:Nat,k<=ps.length/\i=.int .i64 k/\Hid (∀j x,j<k->ps[j]?=some x->¬x.sum=s)/\Below w.heap.size w wr) (fun i _=>ps.length -(intOf i).toNat)
 case atStart=>exact ⟨0,Nat.zero_le _,rfl,(fun j x h=>by omega),Below.refl _ _⟩
 case round=>
  obtain ⟨k,hk,rfl,hall,hbel⟩:=hrel
  have hzr:=hbel.size
  by_cases hlt:k<ps.length
  ·obtain ⟨b',off,ha,hb,hc'⟩:=(hrow.below hbel).at hlt
   subst ha
   have hg:Hid (ps[k]?=some ps[k]):=List.getElem?_eq_getElem hlt
   obtain ⟨c0,c1⟩:=hc' k _ hg.out
   have hcr:=(hbel.cell (p:=⟨b,0,none⟩) hbl).trans hc
   clear hc' hrow
   generalize ps[k]=x at *
   go_wp2_with fail
   refine (eqPins_any x s b wr hcr).mono ?_
   rintro e w1 ⟨rfl,hb1⟩
   have hB1:=hbel.trans (hb1.mono hzr)
   by_cases h:x.sum=s
   ·have hd:decide (x.sum=s)=true:=by simpa using h
    rw [hd]
    go_wp2
    go_ret
    exact ⟨_,rfl,⟨fun _=>⟨x,List.mem_of_getElem? hg.out,h⟩,fun _=>by omega⟩,hB1⟩
   ·have HA:Hid (∀j y,j<k+1->ps[j]?=some y->¬y.sum=s):=by
     intro j y hj hy
     rcases Nat.lt_or_ge j k with h'|h'
     ·exact hall.out j y h' hy
     ·obtain rfl:j=k:=by omega
      rw [hg.out] at hy
      cases hy
      exact h
    have hd:decide (x.sum=s)=false:=by simpa using h
    rw [hd]
    clear h
    go_wp2
    exact ⟨⟨k+1,by omega,by go_num,HA,hB1⟩,by simp [intOf];omega⟩
  ·go_wp2
   go_ret
   refine ⟨_,rfl,⟨fun h=>by omega,fun ⟨p,hp,h⟩=> ?_⟩,hbel⟩
   obtain ⟨j,hj,rfl⟩:=List.getElem_of_mem hp
   exact absurd h (hall.out j _ (by omega) (List.getElem?_eq_getElem hj))
set_option maxHeartbeats 400000 in
theorem containsPin_any (a:Option Addr) (cap b:Nat) (ps:List Pd) (s:ByteArray) (w:World) (hrow:PRow w w.heap.size a ps) (hl:ps.length<=1048576) (hc:w.cell? ⟨b,0,none⟩=some (.string s)):
 Calls Tryz.prog 248 #[.slice a ps.length cap,.func (.func 249) #[] #[.pointer (some ⟨b,0,none⟩)]] w fun e w'=>∃ok,e=.returned (.bool ok)/\(ok=true↔∃p∈ps,p.sum=s)/\Below w.heap.size w w':=by
 go_enter Tryz.func248,Tryz.ntmps248
 go_wp2_with fail
 refine (indexPin_any a cap b ps s w hrow hl hc).mono ?_
 rintro e w1 ⟨r,rfl,hr,hb1⟩
 have HR:Hid _:=hr
 clear hr
 by_cases h:0<=r
 ·have hd:decide ((0:Int)<=r)=true:=by simpa using h
  go_wp2
  go_ret
  exact ⟨true,rfl,⟨(fun _=>HR.out.1 h),(fun _=>rfl)⟩,hb1⟩
 ·have hd:decide ((0:Int)<=r)=false:=by simpa using h
  go_wp2
  go_ret
  exact ⟨false,rfl,⟨(fun e=>by cases e),(fun e=>absurd (HR.out.2 e) (by omega))⟩,hb1⟩
set_option maxHeartbeats 400000 in
theorem eqLeases_any (p:Ld) (s:ByteArray) (b:Nat) (w:World) (hc:w.cell? ⟨b,0,none⟩=some (.string s)):
 Calls Tryz.prog 251 #[.agg #[.int .i64 p.num,.string p.sum,.int .i64 p.til],.pointer (some ⟨b,0,none⟩)] w fun e w'=>e=.returned (.bool (decide (p.sum=s)))/\Below w.heap.size w w':=by
 have hb:b<w.heap.size:=World.block_lt_of_cell? w _ hc
 have hne:¬w.heap.size=b:=by omega
 have hA:∀o,Below w.heap.size w (w.alloc o):=fun o=>(Below.refl _ _).alloc (Nat.le_refl _) _
 by_cases h:p.sum=s
 ·have hq:(p.sum.toList==s.toList)=true:=by rw [h];simp
  have hd:decide (p.sum=s)=true:=by simpa using h
  clear h
  go_enter Tryz.func251,Tryz.ntmps251
  go_wp2
  go_ret
  exact ⟨by rw [hd];rfl,hA _⟩
 ·have hq:(p.sum.toList==s.toList)=false:=beq_ne h
  have hd:decide (p.sum=s)=false:=by simpa using h
  clear h
  go_enter Tryz.func251,Tryz.ntmps251
  go_wp2
  go_ret
  exact ⟨by rw [hd];rfl,hA _⟩
set_option maxHeartbeats 1000000 in
theorem indexLease_any (a:Option Addr) (cap b:Nat) (ps:List Ld) (s:ByteArray) (w:World) (hrow:LRow w w.heap.size a ps) (hl:ps.length<=1048576) (hc:w.cell? ⟨b,0,none⟩=some (.string s)):
 Calls Tryz.prog 236 #[.slice a ps.length cap,.func (.func 251) #[] #[.pointer (some ⟨b,0,none⟩)]] w fun e w'=>∃r:Int,e=.returned (.int .i64 r)/\(0<=r↔∃p∈ps,p.sum=s)/\Below w.heap.size w w':=by
 have hbl:b<w.heap.size:=World.block_lt_of_cell? w _ hc
 go_enter Tryz.func236,Tryz.ntmps236
 go_wp2
 go_loopw [8] (fun i wr=>∃k:Nat,k<=ps.length/\i=.int .i64 k/\Hid (∀j x,j<k->ps[j]?=some x->¬x.sum=s)/\Below w.heap.size w wr) (fun i _=>ps.length -(intOf i).toNat)
 case atStart=>exact ⟨0,Nat.zero_le _,rfl,(fun j x h=>by omega),Below.refl _ _⟩
 case round=>
  obtain ⟨k,hk,rfl,hall,hbel⟩:=hrel
  have hzr:=hbel.size
  by_cases hlt:k<ps.length
  ·obtain ⟨b',off,ha,hb,hc'⟩:=(hrow.below hbel).at hlt
   subst ha
   have hg:Hid (ps[k]?=some ps[k]):=List.getElem?_eq_getElem hlt
   obtain ⟨c0,c1,c2⟩:=hc' k _ hg.out
   have hcr:=(hbel.cell (p:=⟨b,0,none⟩) hbl).trans hc
   clear hc' hrow
   generalize ps[k]=x at *
   go_wp2_with fail
   refine (eqLeases_any x s b wr hcr).mono ?_
   rintro e w1 ⟨rfl,hb1⟩
   have hB1:=hbel.trans (hb1.mono hzr)
   by_cases h:x.sum=s
   ·have hd:decide (x.sum=s)=true:=by simpa using h
    rw [hd]
    go_wp2
    go_ret
    exact ⟨_,rfl,⟨fun _=>⟨x,List.mem_of_getElem? hg.out,h⟩,fun _=>by omega⟩,hB1⟩
   ·have HA:Hid (∀j y,j<k+1->ps[j]?=some y->¬y.sum=s):=by
     intro j y hj hy
     rcases Nat.lt_or_ge j k with h'|h'
     ·exact hall.out j y h' hy
     ·obtain rfl:j=k:=by omega
      rw [hg.out] at hy
      cases hy
      exact h
    have hd:decide (x.sum=s)=false:=by simpa using h
    rw [hd]
    clear h
    go_wp2
    exact ⟨⟨k+1,by omega,by go_num,HA,hB1⟩,by simp [intOf];omega⟩
  ·go_wp2
   go_ret
   refine ⟨_,rfl,⟨fun h=>by omega,fun ⟨p,hp,h⟩=> ?_⟩,hbel⟩
   obtain ⟨j,hj,rfl⟩:=List.getElem_of_mem hp
   exact absurd h (hall.out j _ (by omega) (List.getElem?_eq_getElem hj))
set_option maxHeartbeats 400000 in
theorem containsLease_any (a:Option Addr) (cap b:Nat) (ps:List Ld) (s:ByteArray) (w:World) (hrow:LRow w w.heap.size a ps) (hl:ps.length<=1048576) (hc:w.cell? ⟨b,0,none⟩=some (.string s)):
 Calls Tryz.prog 250 #[.slice a ps.length cap,.func (.func 251) #[] #[.pointer (some ⟨b,0,none⟩)]] w fun e w'=>∃ok,e=.returned (.bool ok)/\(ok=true↔∃p∈ps,p.sum=s)/\Below w.heap.size w w':=by
 go_enter Tryz.func250,Tryz.ntmps250
 go_wp2_with fail
 refine (indexLease_any a cap b ps s w hrow hl hc).mono ?_
 rintro e w1 ⟨r,rfl,hr,hb1⟩
 have HR:Hid _:=hr
 clear hr
 by_cases h:0<=r
 ·have hd:decide ((0:Int)<=r)=true:=by simpa using h
  go_wp2
  go_ret
  exact ⟨true,rfl,⟨(fun _=>HR.out.1 h),(fun _=>rfl)⟩,hb1⟩
 ·have hd:decide ((0:Int)<=r)=false:=by simpa using h
  go_wp2
  go_ret
  exact ⟨false,rfl,⟨(fun e=>by cases e),(fun e=>absurd (HR.out.2 e) (by omega))⟩,hb1⟩
set_option maxRecDepth 20000 in
set_option maxHeartbeats 1000000 in
theorem isHeld_any (base d m:Nat) (O P L:Value) (wd now given births:Int) (ks:List Kd) (ps:List Pd) (ls:List Ld) (s:ByteArray) (w:World) (hd:Dr w base d m O P L wd now given births ks ps ls) (hp:ps.length<=100) (hl:ls.length<=200):
 Calls Tryz.prog 237 #[.pointer (some ⟨d,0,none⟩),.string s] w fun e w'=>∃ok,e=.returned (.bool ok)/\(ok=true↔(∃p∈ps,p.sum=s)∨∃l∈ls,l.sum=s)/\Below w.heap.size w w':=by
 have hmf:∀(fn:Fn) (first cap:Array Value) (w:World),(Instr.makeFunc fn first cap).run Tryz.prog w=.ok (.func fn first cap) w:=fun _ _ _ _=>rfl
 obtain ⟨pa,pcp,rfl⟩:=own_val hd.pin
 obtain ⟨la,lcp,rfl⟩:=own_val hd.lea
 have HD:Hid _:=hd
 obtain ⟨W,hW⟩:∃W,W=w.alloc (.cells #[.string s] 9):=⟨_,rfl⟩
 have hB:Below w.heap.size w W:=by rw [hW];exact (Below.refl _ _).alloc (Nat.le_refl _) _
 have c0:W.cell? ⟨w.heap.size,0,none⟩=some (.string s):=by rw [hW];simp
 have hDW:=hd.below hB
 obtain ⟨c6,_⟩:=hDW.box 6 _ rfl
 obtain ⟨c7,_⟩:=hDW.box 7 _ rfl
 have HDW:Hid _:=hDW
 have HW:Hid _:=hW
 clear hW hd hDW
 go_enter Tryz.func237,Tryz.ntmps237
 go_upto_region 1 with fail
 rw [←HW.out]
 clear HW
 go_wp2_with fail
 refine (containsPin_any pa pcp _ ps s W (PRow.own HDW.out.pin) (by omega) c0).mono ?_
 rintro e w1 ⟨ok1,rfl,h1,hb1⟩
 have HD1:Hid _:=Dr.below HDW.out hb1
 obtain ⟨d7,_⟩:=HD1.out.box 7 _ rfl
 have c1:w1.cell? ⟨w.heap.size,0,none⟩=some (.string s):=(hb1.cell (p:=⟨w.heap.size,0,none⟩) (World.block_lt_of_cell? W _ c0)).trans c0
 have H1:Hid _:=h1
 clear h1 c6 c7 c0
 go_wp2_with fail
 refine (containsLease_any la lcp _ ls s w1 (LRow.own HD1.out.lea) (by omega) c1).mono ?_
 rintro e w2 ⟨ok2,rfl,h2,hb2⟩
 have H2:Hid _:=h2
 have hbb:Below w.heap.size w w2:=(hB.trans (hb1.mono hB.size)).trans (hb2.mono (Nat.le_trans hB.size hb1.size))
 clear h2 d7 c1
 cases ok1
 ·go_wp2
  go_ret
  exact ⟨ok2,rfl,⟨(fun e=> .inr (H2.out.1 e)),(fun e=>e.elim (fun e=>by have:=H1.out.2 e;cases this) H2.out.2)⟩,hbb⟩
 ·go_wp2
  go_ret
  exact ⟨true,rfl,⟨(fun _=> .inl (H1.out.1 trivial)),(fun _=>rfl)⟩,hbb⟩
end Go.Proofs.YtpekbmegopfhfaaGreatDoor
namespace Go.Proofs.YtpekbmegopfhfaaGreatDoor
open Go.ChangeShapes Go.WideShapes Go.ChangeAt Go.RowKit
attribute [local go_sem↓] Go.wp_at_zero Go.wp_at_succ
theorem HoldsV.holds {w:World} {base:Nat} {V:List Nat} {wd:Int} {ks:List Kd} {f:Lit->Option Value} (h:HoldsV w base V wd ks f):Holds w w.heap.size wd ks f:=by
 intro s hs
 rcases h s hs with h|⟨u,ra,rc,h1,h2,h3,h4⟩
 ·exact .inl h
 ·exact .inr ⟨u,ra,rc,h1,h2,h3,h4.row⟩
theorem Dr.look {w:World} {base d m:Nat} {O P L:Value} {wd now given births:Int} {ks:List Kd} {ps:List Pd} {ls:List Ld} (h:Dr w base d m O P L wd now given births ks ps ls) (hnd:(ks.map (·.sum)).Nodup) (hsz:∀k∈ks,(k.sum.size:Int)=wd) {k:Kd} (hk:k∈ks):
 ∃ra rc,SRow w w.heap.size ra k.refs/\∀X,Below w.heap.size w X->(Instr.lookup 126 (.map (some m)) (keyV k.sum) false).run Tryz.prog X=.ok (keptV k ra rc) X:=by
 obtain ⟨n,f,hn,hM,hH⟩:=h.map
 rcases hH _ (hsz k hk) with ⟨_,hno⟩|⟨u,ra,rc,hu,hus,hfu,hrv⟩
 ·exact absurd ⟨_,hk,rfl⟩ hno
 ·obtain rfl:=sum_uniq hnd hu hk hus
  refine ⟨ra,rc,hrv.row,fun X hX=> ?_⟩
  have:=(hM.keep hX hM.lt).look keyed Tryz.underlying126 (zeroKept _) (key_lit u.sum)
  rw [hfu] at this
  exact this
set_option maxRecDepth 20000 in
set_option maxHeartbeats 4000000 in
theorem refC_any (base d m dp sp:Nat) (O P L:Value) (wd now given births:Int) (ks:List Kd) (ps:List Pd) (ls:List Ld) (s:ByteArray) (k:Kd) (w:World) (hd:Dr w base d m O P L wd now given births ks ps ls) (hnd:(ks.map (·.sum)).Nodup) (hsz:∀k∈ks,(k.sum.size:Int)=wd) (hk:k∈ks) (hr:k.refs.length<=1000) (hsort:k.refs.Pairwise (fun a b=>less a b=true))
 (hdp:w.cell? ⟨dp,0,none⟩=some (.pointer (some ⟨d,0,none⟩))) (hsp:w.cell? ⟨sp,0,none⟩=some (.string s)):
 Calls Tryz.prog 253 #[keyV k.sum,.pointer (some ⟨dp,0,none⟩),.pointer (some ⟨sp,0,none⟩)] w fun e w'=>∃ok,e=.returned (.bool ok)/\(ok=true↔s∈k.refs)/\Below w.heap.size w w':=by
 obtain ⟨ra,rc,hrow,hlk⟩:=hd.look hnd hsz hk
 have hdl:=World.block_lt_of_cell? w _ hdp
 have hsl:=World.block_lt_of_cell? w _ hsp
 obtain ⟨W,hW⟩:∃W,W=w.alloc (.cells #[.int .u8 (kB k.sum 0),.int .u8 (kB k.sum 1),.int .u8 (kB k.sum 2),.int .u8 (kB k.sum 3),.int .u8 (kB k.sum 4),.int .u8 (kB k.sum 5),.int .u8 (kB k.sum 6),.int .u8 (kB k.sum 7)] 139):=⟨_,rfl⟩
 have hB:Below w.heap.size w W:=by rw [hW];exact (Below.refl _ _).alloc (Nat.le_refl _) _
 have cb:CellsAt W w.heap.size (kCells k.sum):=by rw [hW];exact CellsAt.new w (kCells k.sum) 139
 have hzW:w.heap.size<W.heap.size:=CellsAt.lt (v:=.int .u8 (kB k.sum 0)) cb
 unfold keyV keyA keptV at hlk
 have HS:Hid (∀X,Below W.heap.size W X->X.cell? ⟨dp,0,none⟩=some (.pointer (some ⟨d,0,none⟩))/\X.cell? ⟨sp,0,none⟩=some (.string s)/\X.cell? ⟨d,1,none⟩=some (.map (some m))/\(X.cell? ⟨w.heap.size,0,none⟩=some (.int .u8 (kB k.sum 0))/\X.cell? ⟨w.heap.size,1,none⟩=some (.int .u8 (kB k.sum 1))/\X.cell? ⟨w.heap.size,2,none⟩=some (.int .u8 (kB k.sum 2))/\X.cell? ⟨w.heap.size,3,none⟩=some (.int .u8 (kB k.sum 3))/\X.cell? ⟨w.heap.size,4,none⟩=some (.int .u8 (kB k.sum 4))/\X.cell? ⟨w.heap.size,5,none⟩=some (.int .u8 (kB k.sum 5))/\X.cell? ⟨w.heap.size,6,none⟩=some (.int .u8 (kB k.sum 6))/\X.cell? ⟨w.heap.size,7,none⟩=some (.int .u8 (kB k.sum 7)))/\(Instr.lookup 126 (.map (some m)) (.agg #[.int .u8 (kB k.sum 0),.int .u8 (kB k.sum 1),.int .u8 (kB k.sum 2),.int .u8 (kB k.sum 3),.int .u8 (kB k.sum 4),.int .u8 (kB k.sum 5),.int .u8 (kB k.sum 6),.int .u8 (kB k.sum 7)]) false).run Tryz.prog X=.ok (.agg #[.string k.sum,.int .i64 k.born,.string k.text,.slice ra k.refs.length rc]) X):=
  fun X hX=>by
   have hb:=hB.trans (hX.mono hB.size)
   exact ⟨(hb.cell (p:=⟨dp,0,none⟩) hdl).trans hdp,(hb.cell (p:=⟨sp,0,none⟩) hsl).trans hsp,(CellsAt.below hd.box hb 1 _ rfl).1,sk8 (hX.block _ hzW) cb,hlk X hb⟩
 have HR:Hid _:=searchS_any ra rc k.refs s W.drew (SRow.mono (SRow.below hrow hB.drew) hB.size) hr hsort
 have D0:Below W.heap.size W W.drew:=(Below.refl _ _).drew
 have hf1:∀X:World,(Instr.field 114 (.agg #[.string k.sum,.int .i64 k.born,.string k.text,.slice ra k.refs.length rc]) 2).run Tryz.prog X=.ok (.agg #[.string k.text,.slice ra k.refs.length rc]) X:=fun _=>by kernel_rfl
 have hf2:∀X:World,(Instr.field 66 (.agg #[.string k.text,.slice ra k.refs.length rc]) 1).run Tryz.prog X=.ok (.slice ra k.refs.length rc) X:=fun _=>by kernel_rfl
 have HW:Hid _:=hW
 clear hW cb hlk hrow
 unfold keyV keyA
 go_enter Tryz.func253,Tryz.ntmps253
 go_upto_region 1 with fail
 rw [←HW.out]
 clear HW
 go_region_held3 (fun X=>X.cell? ⟨dp,0,none⟩=some (.pointer (some ⟨d,0,none⟩))/\X.cell? ⟨sp,0,none⟩=some (.string s)/\X.cell? ⟨d,1,none⟩=some (.map (some m))/\(X.cell? ⟨w.heap.size,0,none⟩=some (.int .u8 (kB k.sum 0))/\X.cell? ⟨w.heap.size,1,none⟩=some (.int .u8 (kB k.sum 1))/\X.cell? ⟨w.heap.size,2,none⟩=some (.int .u8 (kB k.sum 2))/\X.cell? ⟨w.heap.size,3,none⟩=some (.int .u8 (kB k.sum 3))/\X.cell? ⟨w.heap.size,4,none⟩=some (.int .u8 (kB k.sum 4))/\X.cell? ⟨w.heap.size,5,none⟩=some (.int .u8 (kB k.sum 5))/\X.cell? ⟨w.heap.size,6,none⟩=some (.int .u8 (kB k.sum 6))/\X.cell? ⟨w.heap.size,7,none⟩=some (.int .u8 (kB k.sum 7)))/\(Instr.lookup 126 (.map (some m)) (.agg #[.int .u8 (kB k.sum 0),.int .u8 (kB k.sum 1),.int .u8 (kB k.sum 2),.int .u8 (kB k.sum 3),.int .u8 (kB k.sum 4),.int .u8 (kB k.sum 5),.int .u8 (kB k.sum 6),.int .u8 (kB k.sum 7)]) false).run Tryz.prog X=.ok (.agg #[.string k.sum,.int .i64 k.born,.string k.text,.slice ra k.refs.length rc]) X)
  (first|with_reducible exact HS.out _ D0|with_reducible exact HS.out _ B1)
  (first|(go_at_call 254;refine Calls.mono HR.out ?_;rintro e w1 ⟨i,ok,rfl,hok,hb1⟩;have HOK:Hid _:=hok;clear hok;have B1:Below W.heap.size W w1:=below_undrew hb1))
 all_goals
  clear HS HR D0
  go_wp2
  go_ret
  exact ⟨ok,rfl,HOK.out,hB.trans (B1.mono hB.size)⟩
def RefsOk (ks:List Kd):Prop:=∀k∈ks,k.refs.length<=1000/\k.refs.Pairwise (fun a b=>less a b=true)
set_option maxRecDepth 20000 in
set_option maxHeartbeats 4000000 in
theorem indexKey_any (base d m dp sp:Nat) (oa:Option Addr) (ocp:Nat) (P L:Value) (wd now given births:Int) (ks:List Kd) (ps:List Pd) (ls:List Ld) (s:ByteArray) (w:World) (hd:Dr w base d m (.slice oa ks.length ocp) P L wd now given births ks ps ls) (hnd:(ks.map (·.sum)).Nodup) (hsz:∀k∈ks,(k.sum.size:Int)=wd) (hr:RefsOk ks) (hl:ks.length<=600)
 (hdp:w.cell? ⟨dp,0,none⟩=some (.pointer (some ⟨d,0,none⟩))) (hsp:w.cell? ⟨sp,0,none⟩=some (.string s)):
 Calls Tryz.prog 260 #[.slice oa ks.length ocp,.func (.func 253) #[] #[.pointer (some ⟨dp,0,none⟩),.pointer (some ⟨sp,0,none⟩)]] w fun e w'=>∃r:Int,e=.returned (.int .i64 r)/\(0<=r↔∃k∈ks,s∈k.refs)/\Below w.heap.size w w':=by
 have hdl:=World.block_lt_of_cell? w _ hdp
 have hsl:=World.block_lt_of_cell? w _ hsp
 have HD:Hid _:=hd
 clear hd
 go_enter Tryz.func260,Tryz.ntmps260
 go_wp2
 go_loopw [8] (fun i wr=>∃k:Nat,k<=ks.length/\i=.int .i64 k/\Hid (∀j x,j<k->ks[j]?=some x->¬s∈x.refs)/\Below w.heap.size w wr) (fun i _=>ks.length -(intOf i).toNat)
 case atStart=>exact ⟨0,Nat.zero_le _,rfl,(fun j x h=>by omega),Below.refl _ _⟩
 case round=>
  obtain ⟨k,hk,rfl,hall,hbel⟩:=hrel
  have hzr:=hbel.size
  by_cases hlt:k<ks.length
  ·have hDr:=Dr.below HD.out hbel
   have hord:=hDr.ord
   obtain ⟨og,oc,heq,_,hog⟩:=own_form hord (fun e=>by injection e with _ h2 _;omega)
   cases heq
   have hg:Hid (ks[k]?=some ks[k]):=List.getElem?_eq_getElem hlt
   have hmem:ks[k]∈ks:=List.getElem_mem hlt
   have hgs:(ks.map (·.sum))[k]?=some ks[k].sum:=by simp [hlt]
   have hcell:∀j,j<8->wr.cell? ⟨og,k *8+j,none⟩=some (.int .u8 (kB ks[k].sum j)):=fun j hj=>(hord.cellAt _ (by omega)).trans (cells8_get hgs hj)
   have hc0:=hcell 0 (by omega)
   have hc1:=hcell 1 (by omega)
   have hc2:=hcell 2 (by omega)
   have hc3:=hcell 3 (by omega)
   have hc4:=hcell 4 (by omega)
   have hc5:=hcell 5 (by omega)
   have hc6:=hcell 6 (by omega)
   have hc7:=hcell 7 (by omega)
   rw [Nat.add_zero] at hc0
   have HC:=refC_any base d m dp sp _ P L wd now given births ks ps ls s ks[k] wr hDr hnd hsz hmem (hr _ hmem).1 (hr _ hmem).2 ((hbel.cell (p:=⟨dp,0,none⟩) hdl).trans hdp) ((hbel.cell (p:=⟨sp,0,none⟩) hsl).trans hsp)
   unfold keyV keyA at HC
   have HCC:Hid _:=HC
   clear hcell hgs hord hDr hmem HC
   generalize ks[k]=x at *
   go_wp2_with fail
   refine Calls.mono HCC.out ?_
   rintro e w1 ⟨ok,rfl,hok,hb1⟩
   have hB1:=hbel.trans (hb1.mono hzr)
   have HOK:Hid _:=hok
   clear hok hc0 hc1 hc2 hc3 hc4 hc5 hc6 hc7 HCC
   cases ok
   ·have HA:Hid (∀j y,j<k+1->ks[j]?=some y->¬s∈y.refs):=by
     intro j y hj hy
     rcases Nat.lt_or_ge j k with h'|h'
     ·exact hall.out j y h' hy
     ·obtain rfl:j=k:=by omega
      rw [hg.out] at hy
      cases hy
      exact fun h=>by have:=HOK.out.2 h;simp at this
    go_wp2
    exact ⟨⟨k+1,by omega,by go_num,HA,hB1⟩,by simp [intOf];omega⟩
   ·go_wp2
    go_ret
    exact ⟨_,rfl,⟨(fun _=>⟨x,List.mem_of_getElem? hg.out,HOK.out.1 (by trivial)⟩),(fun _=>by omega)⟩,hB1⟩
  ·go_wp2
   go_ret
   refine ⟨_,rfl,⟨(fun h=>by omega),(fun ⟨p,hp,h⟩=> ?_)⟩,hbel⟩
   obtain ⟨j,hj,rfl⟩:=List.getElem_of_mem hp
   exact absurd h (hall.out j _ (by omega) (List.getElem?_eq_getElem hj))
set_option maxHeartbeats 400000 in
theorem containsKey_any (base d m dp sp:Nat) (oa:Option Addr) (ocp:Nat) (P L:Value) (wd now given births:Int) (ks:List Kd) (ps:List Pd) (ls:List Ld) (s:ByteArray) (w:World) (hd:Dr w base d m (.slice oa ks.length ocp) P L wd now given births ks ps ls) (hnd:(ks.map (·.sum)).Nodup) (hsz:∀k∈ks,(k.sum.size:Int)=wd) (hr:RefsOk ks) (hl:ks.length<=600)
 (hdp:w.cell? ⟨dp,0,none⟩=some (.pointer (some ⟨d,0,none⟩))) (hsp:w.cell? ⟨sp,0,none⟩=some (.string s)):
 Calls Tryz.prog 252 #[.slice oa ks.length ocp,.func (.func 253) #[] #[.pointer (some ⟨dp,0,none⟩),.pointer (some ⟨sp,0,none⟩)]] w fun e w'=>∃ok,e=.returned (.bool ok)/\(ok=true↔∃k∈ks,s∈k.refs)/\Below w.heap.size w w':=by
 have HI:Hid _:=indexKey_any base d m dp sp oa ocp P L wd now given births ks ps ls s w hd hnd hsz hr hl hdp hsp
 clear hd
 go_enter Tryz.func252,Tryz.ntmps252
 go_wp2_with fail
 refine Calls.mono HI.out ?_
 rintro e w1 ⟨r,rfl,hrr,hb1⟩
 have HR:Hid _:=hrr
 clear hrr HI
 by_cases h:0<=r
 ·have hd:decide ((0:Int)<=r)=true:=by simpa using h
  go_wp2
  go_ret
  exact ⟨true,rfl,⟨(fun _=>HR.out.1 h),(fun _=>rfl)⟩,hb1⟩
 ·have hd:decide ((0:Int)<=r)=false:=by simpa using h
  go_wp2
  go_ret
  exact ⟨false,rfl,⟨(fun e=>by cases e),(fun e=>absurd (HR.out.2 e) (by omega))⟩,hb1⟩
set_option maxRecDepth 20000 in
set_option maxHeartbeats 1000000 in
theorem isRef_any (base d m:Nat) (O P L:Value) (wd now given births:Int) (ks:List Kd) (ps:List Pd) (ls:List Ld) (s:ByteArray) (w:World) (hd:Dr w base d m O P L wd now given births ks ps ls) (hnd:(ks.map (·.sum)).Nodup) (hsz:∀k∈ks,(k.sum.size:Int)=wd) (hr:RefsOk ks) (hl:ks.length<=600):
 Calls Tryz.prog 238 #[.pointer (some ⟨d,0,none⟩),.string s] w fun e w'=>∃ok,e=.returned (.bool ok)/\(ok=true↔∃k∈ks,s∈k.refs)/\Below w.heap.size w w':=by
 have hmf:∀(fn:Fn) (first cap:Array Value) (w:World),(Instr.makeFunc fn first cap).run Tryz.prog w=.ok (.func fn first cap) w:=fun _ _ _ _=>rfl
 obtain ⟨oa,ocp,rfl⟩:=own_val hd.ord
 obtain ⟨W,hW⟩:∃W,W=(w.alloc (.cells #[.pointer (some ⟨d,0,none⟩)] 82)).alloc (.cells #[.string s] 9):=⟨_,rfl⟩
 have hB:Below w.heap.size w W:=by rw [hW];exact ((Below.refl _ _).alloc (Nat.le_refl _) _).alloc (by simp) _
 have cd:W.cell? ⟨w.heap.size,0,none⟩=some (.pointer (some ⟨d,0,none⟩)):=by rw [hW];simp [go_sem]
 have cs:W.cell? ⟨w.heap.size+1,0,none⟩=some (.string s):=by rw [hW];simp [go_sem]
 have hDW:=hd.below hB
 have HI:Hid _:=containsKey_any base d m w.heap.size (w.heap.size+1) oa ocp P L wd now given births ks ps ls s W hDW hnd hsz hr hl cd cs
 obtain ⟨c5,_⟩:=hDW.box 5 _ rfl
 have HW:Hid _:=hW
 clear hW hDW hd cs
 go_enter Tryz.func238,Tryz.ntmps238
 go_upto_region 1 with fail
 rw [←HW.out]
 clear HW
 go_wp2_with fail
 refine Calls.mono HI.out ?_
 rintro e w1 ⟨ok,rfl,hrr,hb1⟩
 have HR:Hid _:=hrr
 have hbb:Below w.heap.size w w1:=hB.trans (hb1.mono hB.size)
 clear hrr HI
 go_wp2
 go_ret
 exact ⟨ok,rfl,HR.out,hbb⟩
set_option maxRecDepth 20000 in
set_option maxHeartbeats 1000000 in
theorem isInUse_any (base d m:Nat) (O P L:Value) (wd now given births:Int) (ks:List Kd) (ps:List Pd) (ls:List Ld) (s:ByteArray) (w:World) (hd:Dr w base d m O P L wd now given births ks ps ls) (hnd:(ks.map (·.sum)).Nodup) (hsz:∀k∈ks,(k.sum.size:Int)=wd) (hr:RefsOk ks) (hk:ks.length<=600) (hp:ps.length<=100) (hl:ls.length<=200):
 Calls Tryz.prog 210 #[.pointer (some ⟨d,0,none⟩),.string s] w fun e w'=>∃ok,e=.returned (.bool ok)/\(ok=true↔((∃p∈ps,p.sum=s)∨∃l∈ls,l.sum=s)∨∃k∈ks,s∈k.refs)/\Below w.heap.size w w':=by
 have HD:Hid _:=hd
 clear hd
 go_enter Tryz.func210,Tryz.ntmps210
 go_wp2_with fail
 refine (isHeld_any base d m O P L wd now given births ks ps ls s w HD.out hp hl).mono ?_
 rintro e w1 ⟨ok1,rfl,h1,hb1⟩
 have H1:Hid _:=h1
 clear h1
 cases ok1
 ·go_wp2_with fail
  refine (isRef_any base d m O P L wd now given births ks ps ls s w1 (Dr.below HD.out hb1) hnd hsz hr hk).mono ?_
  rintro e w2 ⟨ok2,rfl,h2,hb2⟩
  have H2:Hid _:=h2
  clear h2
  go_wp2
  go_ret
  exact ⟨ok2,rfl,⟨(fun e=> .inr (H2.out.1 e)),(fun e=>e.elim (fun e=>by have:=H1.out.2 e;simp at this) H2.out.2)⟩,hb1.trans (hb2.mono hb1.size)⟩
 ·go_wp2
  go_ret
  exact ⟨true,rfl,⟨(fun _=> .inl (H1.out.1 (by trivial))),(fun _=>rfl)⟩,hb1⟩
set_option maxRecDepth 20000 in
set_option maxHeartbeats 1000000 in
theorem need_yes (base d m:Nat) (O P L:Value) (wd now given births:Int) (ks:List Kd) (ps:List Pd) (ls:List Ld) (s:ByteArray) (w:World) (hd:Dr w base d m O P L wd now given births ks ps ls) (hsz:∀k∈ks,(k.sum.size:Int)=wd) (hth:There ks s):
 Calls Tryz.prog 197 #[.pointer (some ⟨d,0,none⟩),.string s] w fun e w'=>e=.returned (.tuple #[])/\Below w.heap.size w w':=by
 obtain ⟨n,f,hn,hM,hH⟩:=hd.map
 obtain ⟨ok,hok,hcl⟩:=shelf_has wd m n f ks w w.heap.size s w hM hH.holds hsz
 obtain rfl:=hok.2 hth
 obtain ⟨c0,_⟩:=hd.box 0 _ rfl
 obtain ⟨c1,_⟩:=hd.box 1 _ rfl
 have HC:Hid _:=hcl w (Below.refl _ _)
 clear hcl hok hd hM hH
 go_enter Tryz.func197,Tryz.ntmps197
 go_wp2_with fail
 refine Calls.mono HC.out ?_
 rintro e w1 ⟨rfl,hb1⟩
 clear HC
 go_wp2
 go_end0
 exact ⟨rfl,hb1⟩
end Go.Proofs.YtpekbmegopfhfaaGreatDoor
