import Derived.Test.YtpekbmegopfhfaaGreatDoorProg
import Derived.WalkKit
import Derived.ProofKit
import Derived.Deep.AppendLies
import Derived.Deep.QuietTactic
import Derived.BigQuiet
import Derived.Deep.Onto
import Derived.Laws.Cover1
import Derived.Deep.RegionWith
import Derived.Shelf.Strings.Builder1
import Derived.Lib.AppendStr
namespace Go.Proofs.YtpekbmegopfhfaaGreatDoor
open Go.ChangeShapes Go.WideShapes Go.ChangeAt Go.RowKit
theorem ret_i {k:IntKind} {a b:Int} (h:a=b):Ending.returned (.int k a)=.returned (.int k b):=by rw [h]
def SRow (w:World) (B:Nat) (a:Option Addr) (ss:List ByteArray):Prop:=
 ss=[]∨∃b off,a=some ⟨b,off,none⟩/\b<B/\∀i s,ss[i]?=some s->w.cell? ⟨b,off+i,none⟩=some (.string s)
theorem SRow.below {w w':World} {B:Nat} {a:Option Addr} {ss:List ByteArray} (h:SRow w B a ss) (hb:Below B w w'):SRow w' B a ss:=by
 rcases h with h|⟨b,off,ha,hlt,hc⟩
 ·exact .inl h
 ·exact .inr ⟨b,off,ha,hlt,fun i s hs=>(hb.cell (p:=⟨b,off+i,none⟩) hlt).trans (hc i s hs)⟩
theorem SRow.mono {w:World} {B B':Nat} {a:Option Addr} {ss:List ByteArray} (h:SRow w B a ss) (hb:B<=B'):SRow w B' a ss:=by
 rcases h with h|⟨b,off,ha,hlt,hc⟩
 ·exact .inl h
 ·exact .inr ⟨b,off,ha,by omega,hc⟩
theorem SRow.at {w:World} {B:Nat} {a:Option Addr} {ss:List ByteArray} (h:SRow w B a ss) {k:Nat} (hk:k<ss.length):
 ∃b off,a=some ⟨b,off,none⟩/\b<B/\∀i s,ss[i]?=some s->w.cell? ⟨b,off+i,none⟩=some (.string s):=by
 rcases h with h|h
 ·subst h;simp at hk
 ·exact h
def bulk (ss:List ByteArray):Nat:=(ss.map ByteArray.size).sum
theorem bulk_take (ss:List ByteArray) (k:Nat) (s:ByteArray) (h:ss[k]?=some s):bulk (ss.take (k+1))=bulk (ss.take k)+s.size:=by
 obtain ⟨hlt,rfl⟩:=List.getElem?_eq_some_iff.1 h
 unfold bulk
 rw [List.take_succ_eq_append_getElem hlt,List.map_append,List.sum_append]
 simp
theorem bulk_le (ss:List ByteArray) (k:Nat):bulk (ss.take k)<=bulk ss:=by
 have h:bulk ss=bulk (ss.take k)+bulk (ss.drop k):=by
  unfold bulk
  rw [←List.sum_append,←List.map_append,List.take_append_drop]
 omega
theorem le_bulk (ss:List ByteArray) (k:Nat) (s:ByteArray) (h:ss[k]?=some s):s.size<=bulk ss:=by
 have:=bulk_take ss k s h
 have:=bulk_le ss (k+1)
 omega
set_option maxHeartbeats 400000 in
theorem szS_yes (a:Option Addr) (cap:Nat) (ss:List ByteArray) (left:Int) (w:World) (B:Nat) (hrow:SRow w B a ss)
 (h2:left<=1048576) (hfit:(ss.length:Int)+bulk ss<=left):
 Calls Tryz.prog 9 #[.slice a ss.length cap,.int .i64 left] w fun e w'=>e=.returned (.int .i64 (left -ss.length -bulk ss))/\w'=w:=by
 go_enter Tryz.func9,Tryz.ntmps9
 go_wp2
 go_loop [1,5] (fun l i=>∃k:Nat,k<=ss.length/\i=.int .i64 k/\l=.int .i64 (left -ss.length -bulk (ss.take k))) (fun _ i=>ss.length -(intOf i).toNat)
 case atStart=>exact ⟨0,Nat.zero_le _,rfl,by simp [bulk]⟩
 case round=>
  obtain ⟨k,hk,rfl,rfl⟩:=hrel
  by_cases hlt:k<ss.length
  ·obtain ⟨b,off,ha,hb,hc⟩:=hrow.at hlt
   subst ha
   have hck:=hc k ss[k] (List.getElem?_eq_getElem hlt)
   have hbt:Hid (bulk (ss.take (k+1))=bulk (ss.take k)+ss[k].size):=bulk_take ss k _ (List.getElem?_eq_getElem hlt)
   have hle:=bulk_le ss (k+1)
   rw [hbt.out] at hle
   clear hc hrow
   generalize ss[k]=s at *
   go_wp2
   refine ⟨⟨k+1,by omega,by go_num,?_⟩,by simp [intOf];omega⟩
   rw [hbt.out];go_num
  ·go_wp2
   go_ret
   exact ⟨ret_i (by rw [List.take_of_length_le (by omega)]),rfl⟩
set_option maxHeartbeats 400000 in
theorem szS_no (a:Option Addr) (cap:Nat) (ss:List ByteArray) (left:Int) (w:World) (B:Nat) (hrow:SRow w B a ss)
 (hl:ss.length<=maxLen) (hs:∀s∈ss,s.size<=maxLen)
 (h1:0<=left) (h2:left<=1048576) (hfit:left<(ss.length:Int)+bulk ss):
 Calls Tryz.prog 9 #[.slice a ss.length cap,.int .i64 left] w fun e w'=>e=.returned (.int .i64 (-1))/\w'=w:=by
 unfold maxLen at hl hs
 by_cases hn:left<ss.length
 ·go_enter Tryz.func9,Tryz.ntmps9
  go_wp2
  go_ret
  exact ⟨rfl,rfl⟩
 ·go_enter Tryz.func9,Tryz.ntmps9
  go_wp2
  go_loop [1,5] (fun l i=>∃k:Nat,k<=ss.length/\i=.int .i64 k/\l=.int .i64 (left -ss.length -bulk (ss.take k))/\(ss.length:Int)+bulk (ss.take k)<=left) (fun _ i=>ss.length -(intOf i).toNat)
  case atStart=>exact ⟨0,Nat.zero_le _,rfl,by simp [bulk],by simp [bulk];omega⟩
  case round=>
   obtain ⟨k,hk,rfl,rfl,hfk⟩:=hrel
   by_cases hlt:k<ss.length
   ·obtain ⟨b,off,ha,hb,hc⟩:=hrow.at hlt
    subst ha
    have hck:=hc k ss[k] (List.getElem?_eq_getElem hlt)
    have hbt:Hid (bulk (ss.take (k+1))=bulk (ss.take k)+ss[k].size):=bulk_take ss k _ (List.getElem?_eq_getElem hlt)
    have hsz:=hs ss[k] (List.getElem_mem hlt)
    clear hc hrow hs
    generalize ss[k]=s at *
    by_cases hgo:left -ss.length -bulk (ss.take k) -s.size<0
    ·go_wp2
     go_ret
     exact ⟨rfl,rfl⟩
    ·go_wp2
     refine ⟨⟨k+1,by omega,by go_num,?_,?_⟩,by simp [intOf];omega⟩
     ·rw [hbt.out];go_num
     ·rw [hbt.out];omega
   ·exfalso
    rw [List.take_of_length_le (by omega)] at hfk
    omega
theorem Tryz.infoStr:(Tryz.prog.info? 9).map (fun i=>(i.zero,i.size,i.bytes))=some (some (.string ⟨#[]⟩),1,16):=by kernel_rfl
theorem SRow.own {w:World} {base:Nat} {g c:Nat} {ss:List ByteArray} (h:w.ownsRow base 9 1 (.slice (some ⟨g,0,none⟩) ss.length c) ss.length (ss.map Value.string)):SRow w w.heap.size (some ⟨g,0,none⟩) ss:=by
 refine .inr ⟨g,0,rfl,(h.lt g rfl).2,fun i s hs=> ?_⟩
 obtain ⟨hlt,rfl⟩:=List.getElem?_eq_some_iff.1 hs
 rw [Nat.zero_add,h.cellAt i (by omega)]
 simp [hlt]
theorem set_snoc (ss:List ByteArray) (k:Nat) (z:Value) (h:k<ss.length):
 ((ss.take k).map Value.string++List.replicate (ss.length -k) z).set k (.string ss[k])=(ss.take (k+1)).map Value.string++List.replicate (ss.length -(k+1)) z:=by
 have hl:((ss.take k).map Value.string).length=k:=by simp;omega
 obtain ⟨m,hm⟩:∃m,ss.length -k=m+1:=⟨ss.length -k -1,by omega⟩
 rw [hm,show ss.length -(k+1)=m from by omega,List.set_append_right _ _ (by omega),hl,Nat.sub_self,List.replicate_succ,List.set_cons_zero,List.take_succ_eq_append_getElem h,List.map_append,List.append_assoc]
 rfl
set_option maxHeartbeats 400000 in
theorem toS_any (a:Option Addr) (cap:Nat) (ss:List ByteArray) (w:World) (hrow:SRow w w.heap.size a ss) (hl:ss.length<=1048576):
 Calls Tryz.prog 11 #[.slice a ss.length cap] w fun e w'=>∃g,e=.returned (.slice (some ⟨g,0,none⟩) ss.length ss.length)/\w.heap.size<=g/\
  w'.ownsRow w.heap.size 9 1 (.slice (some ⟨g,0,none⟩) ss.length ss.length) ss.length (ss.map Value.string)/\Below w.heap.size w w':=by
 obtain ⟨i0,hi,hz0,hz1,hz2⟩:=info_parts Tryz.infoStr
 go_enter Tryz.func11,Tryz.ntmps11
 go_wp2_with (at_make;refine wpList_make_full _ rfl _ _ 22 rfl w.heap.size 9 i0 (.string ⟨#[]⟩) 1 Tryz.underlying22 hi hz0 hz1 .i64 .i64 _ _ ss.length rfl rfl rfl rfl ?c1 ?c2 ?c3 ?_)
 case c1=>rw [hz2];omega
 case c2=>unfold maxLen;omega
 case c3=>exact Nat.le_refl _
 intro w1 hown hgrow
 have hb1:Below w.heap.size w w1:=(Below.refl _ _).grown hgrow (Nat.le_refl _) (by simp)
 rw [toList_madeCells_one] at hown
 clear hgrow
 go_wp2
 go_loopw [4] (fun i wr=>∃k:Nat,k<=ss.length/\i=.int .i64 k/\wr.ownsRow w.heap.size 9 1 (.slice (some ⟨w.heap.size,0,none⟩) ss.length ss.length) ss.length ((ss.take k).map Value.string++List.replicate (ss.length -k) (.string ⟨#[]⟩))/\Below w.heap.size w wr) (fun i _=>ss.length -(intOf i).toNat)
 case atStart=>exact ⟨0,Nat.zero_le _,rfl,by simpa using hown,hb1⟩
 case round=>
  obtain ⟨k,hk,rfl,hown,hbel⟩:=hrel
  by_cases hlt:k<ss.length
  ·obtain ⟨b,off,ha,hb,hc⟩:=hrow.at hlt
   subst ha
   have hck:wr.cell? ⟨b,off+k,none⟩=some (.string ss[k]):=(hbel.cell (p:=⟨b,off+k,none⟩) hb).trans (hc k ss[k] (List.getElem?_eq_getElem hlt))
   have hset:Hid (((ss.take k).map Value.string++List.replicate (ss.length -k) (Value.string ⟨#[]⟩)).set k (.string ss[k])=(ss.take (k+1)).map Value.string++List.replicate (ss.length -(k+1)) (.string ⟨#[]⟩)):=set_snoc ss k _ hlt
   have hst:=hown.stored k (.string ss[k])
   have hcw:wr.cell? ⟨w.heap.size,k,none⟩=some (.string ⟨#[]⟩):=by
    have hl:((ss.take k).map Value.string).length=k:=by simp;omega
    rw [hown.cellAt k (by omega),List.getElem?_append_right (by omega),hl,Nat.sub_self,List.getElem?_replicate,if_pos (by omega)]
   have hfw:=hown.frozenAt k
   rw [hset.out] at hst
   obtain ⟨hst1,hst2⟩:=hst
   have hb2:=hbel.setCell (p:=⟨w.heap.size,k,none⟩) (Nat.le_refl _) (.string ss[k])
   have HS:Hid (_/\_):=And.intro hst1 hb2
   clear hc hrow hst1 hst2 hb2 hown hset
   generalize ss[k]=s at *
   go_wp2
   exact ⟨⟨k+1,by omega,by go_num,HS.out.1,HS.out.2⟩,by simp [intOf];omega⟩
  ·go_wp2
   go_ret
   refine ⟨_,rfl,Nat.le_refl _,?_,hbel⟩
   rw [List.take_of_length_le (by omega),show ss.length -k=0 from by omega] at hown
   simpa using hown
set_option maxHeartbeats 400000 in
theorem eqS_yes (a a':Option Addr) (cap cap':Nat) (ss:List ByteArray) (w:World) (B B':Nat) (hrow:SRow w B a ss) (hrow':SRow w B' a' ss) (hl:ss.length<=1048576):
 Calls Tryz.prog 14 #[.slice a ss.length cap,.slice a' ss.length cap'] w fun e w'=>e=.returned (.bool true)/\∃n,w'=w.drewN n:=by
 go_enter Tryz.func14,Tryz.ntmps14
 go_wp2
 go_loopw [5] (fun i wr=>∃k n:Nat,k<=ss.length/\i=.int .i64 k/\wr=w.drewN n) (fun i _=>ss.length -(intOf i).toNat)
 case atStart=>exact ⟨0,0,Nat.zero_le _,rfl,rfl⟩
 case round=>
  obtain ⟨k,n,hk,rfl,rfl⟩:=hrel
  by_cases hlt:k<ss.length
  ·obtain ⟨b,off,ha,hb,hc⟩:=hrow.at hlt
   obtain ⟨b',off',ha',hb',hc'⟩:=hrow'.at hlt
   subst ha ha'
   have hck:=hc k ss[k] (List.getElem?_eq_getElem hlt)
   have hck':=hc' k ss[k] (List.getElem?_eq_getElem hlt)
   clear hc hc' hrow hrow'
   generalize ss[k]=s at *
   go_wp2
   go_quiet (fail)
   go_wp2
   exact ⟨⟨k+1,_,by omega,by go_num,rfl⟩,by simp [intOf];omega⟩
  ·go_wp2
   go_ret
   exact ⟨rfl,_,rfl⟩
end Go.Proofs.YtpekbmegopfhfaaGreatDoor
namespace Go.Proofs.YtpekbmegopfhfaaGreatDoor
open Go.ChangeShapes Go.WideShapes Go.ChangeAt Go.RowKit
theorem SRow.below' {w w':World} {a:Option Addr} {ss:List ByteArray} (h:SRow w w.heap.size a ss) (hb:Below w.heap.size w w'):SRow w' w'.heap.size a ss:=(h.below hb).mono hb.size
theorem belowN {B:Nat} {a w:World} (h:Below B a w) (n:Nat):Below B a (w.drewN n):=⟨h.os,h.tape,h.output,h.size,h.block⟩
theorem bcell {W w1:World} (hb:Below W.heap.size W w1):(∀b o,b<W.heap.size->w1.cell? ⟨b,o,none⟩=W.cell? ⟨b,o,none⟩)/\(∀b o,b<W.heap.size->w1.frozen? ⟨b,o,none⟩=W.frozen? ⟨b,o,none⟩):=
 ⟨fun b o h=>hb.cell (p:=⟨b,o,none⟩) h,fun b o h=>hb.frozen (p:=⟨b,o,none⟩) h⟩
end Go.Proofs.YtpekbmegopfhfaaGreatDoor
namespace Go.Proofs.YtpekbmegopfhfaaGreatDoor
open Go.ChangeShapes Go.WideShapes Go.ChangeAt Go.RowKit
def mkD:Nat->Nat->ByteArray->ByteArray
 |0,_,o=>o
 |f+1,j,o=>if j=0 then o else mkD f (j/10) (strOfNums [48+(j:Int)%10]++o)
def mkT (k:Nat):ByteArray:=⟨#[109]⟩++mkD k k ByteArray.empty
theorem grown_trans {a b c:World} {row:Option Nat} (h1:a.grownBy b row) (h2:b.grownBy c row):a.grownBy c row:=
 ⟨h2.os.trans h1.os,h2.tape.trans h1.tape,h2.output.trans h1.output,Nat.le_trans h1.size h2.size,fun k hk hne=>(h2.block k (Nat.lt_of_lt_of_le hk h1.size) hne).trans (h1.block k hk hne)⟩
theorem grown_below {a b:World} (row:Option Nat) (h:Below a.heap.size a b):a.grownBy b row:=⟨h.os,h.tape,h.output,h.size,fun k hk _=>h.block k hk⟩
theorem grown_refl (a:World) (row:Option Nat):a.grownBy a row:=⟨rfl,rfl,rfl,Nat.le_refl _,fun _ _ _=>rfl⟩
def marks (k n:Nat):List ByteArray:=(List.range n).map fun i=>mkT (k+i)
end Go.Proofs.YtpekbmegopfhfaaGreatDoor
namespace Go.Proofs.YtpekbmegopfhfaaGreatDoor
open Go.ChangeShapes Go.WideShapes Go.ChangeAt Go.RowKit
structure Twice (a b:World) (p q:Option Nat):Prop where
 os:b.os=a.os
 tape:b.tape=a.tape
 output:b.output=a.output
 size:a.heap.size<=b.heap.size
 block:∀k,k<a.heap.size->some k≠p->some k≠q->b.heap[k]?=a.heap[k]?
end Go.Proofs.YtpekbmegopfhfaaGreatDoor
namespace Go.Proofs.YtpekbmegopfhfaaGreatDoor
open Go.ChangeShapes Go.WideShapes Go.ChangeAt Go.RowKit
set_option maxHeartbeats 400000 in
theorem szThing_yes (t:ByteArray) (a:Option Addr) (cap:Nat) (ss:List ByteArray) (left:Int) (w:World) (hrow:SRow w w.heap.size a ss)
 (h2:left<=1048576) (hfit:(t.size:Int)+ss.length+bulk ss<=left):
 Calls Tryz.prog 175 #[.agg #[.string t,.slice a ss.length cap],.int .i64 left] w fun e w'=>e=.returned (.int .i64 (left -t.size -ss.length -bulk ss))/\Below w.heap.size w w':=by
 have hb:Below w.heap.size w (w.alloc (.cells #[.string t,.slice a ss.length cap] 192)):=(Below.refl _ _).alloc (Nat.le_refl _) _
 go_enter Tryz.func175,Tryz.ntmps175
 go_wp2_with (go_at_call 9;refine (szS_yes a cap ss _ _ w.heap.size (hrow.below hb) (by omega) (by omega)).mono ?_;rintro e w' ⟨rfl,rfl⟩)
 go_ret
 exact ⟨rfl,hb⟩
set_option maxHeartbeats 400000 in
theorem szThing_no (t:ByteArray) (a:Option Addr) (cap:Nat) (ss:List ByteArray) (left:Int) (w:World) (hrow:SRow w w.heap.size a ss)
 (ht:t.size<=maxLen) (hl:ss.length<=maxLen) (hs:∀s∈ss,s.size<=maxLen)
 (h1:0<=left) (h2:left<=1048576) (hfit:left<(t.size:Int)+ss.length+bulk ss):
 Calls Tryz.prog 175 #[.agg #[.string t,.slice a ss.length cap],.int .i64 left] w fun e w'=>e=.returned (.int .i64 (-1))/\Below w.heap.size w w':=by
 have hb:Below w.heap.size w (w.alloc (.cells #[.string t,.slice a ss.length cap] 192)):=(Below.refl _ _).alloc (Nat.le_refl _) _
 have ht':=ht
 unfold maxLen at ht'
 by_cases hn:left<t.size
 ·go_enter Tryz.func175,Tryz.ntmps175
  go_wp2
  go_ret
  exact ⟨rfl,hb⟩
 ·go_enter Tryz.func175,Tryz.ntmps175
  go_wp2_with (go_at_call 9;refine (szS_no a cap ss _ _ w.heap.size (hrow.below hb) hl hs (by omega) (by omega) (by omega)).mono ?_;rintro e w' ⟨rfl,rfl⟩)
  go_ret
  exact ⟨rfl,hb⟩
set_option maxHeartbeats 400000 in
theorem toThing_any (t:ByteArray) (a:Option Addr) (cap:Nat) (ss:List ByteArray) (w:World) (hrow:SRow w w.heap.size a ss) (hl:ss.length<=1048576):
 Calls Tryz.prog 176 #[.agg #[.string t,.slice a ss.length cap]] w fun e w'=>∃g,e=.returned (.agg #[.string t,.slice (some ⟨g,0,none⟩) ss.length ss.length])/\w.heap.size<=g/\
  w'.ownsRow w.heap.size 9 1 (.slice (some ⟨g,0,none⟩) ss.length ss.length) ss.length (ss.map Value.string)/\Below w.heap.size w w':=by
 go_enter Tryz.func176,Tryz.ntmps176
 go_wp2_with fail
 refine (toS_any a cap ss _ (hrow.below' ((((Below.refl _ _).alloc (Nat.le_refl _) _).alloc (by simp) _).alloc (by simp;omega) _)) hl).mono ?_
 rintro e w1 ⟨g,rfl,hg,hown,hb⟩
 obtain ⟨hc,hf⟩:=bcell hb
 have hz:=hb.size
 simp at hz hg
 go_wp2
 refine bodyPost_ret (v:=.agg #[.string t,.slice (some ⟨g,0,none⟩) ss.length ss.length]) (by simp [results,Tryz.results176,go_sem,hc]) rfl ⟨g,rfl,by omega,?_,?_⟩
 ·exact (ownsRow_setCell_below (ownsRow_setCell_below (ownsRow_setCell_below hown (by simp) _) (by simp) _) (by simp) _).mono (by simp;omega)
 ·exact ((((((Below.refl _ _).alloc (Nat.le_refl _) _).alloc (by simp) _).alloc (by simp;omega) _).trans (hb.mono (by simp;omega))).setCell (by simp;omega) _|>.setCell (by simp) _|>.setCell (by simp) _)
set_option maxHeartbeats 400000 in
theorem eqThing_yes (t:ByteArray) (a a':Option Addr) (cap cap':Nat) (ss:List ByteArray) (w:World) (hrow:SRow w w.heap.size a ss) (hrow':SRow w w.heap.size a' ss) (hl:ss.length<=1048576):
 Calls Tryz.prog 33 #[.agg #[.string t,.slice a ss.length cap],.agg #[.string t,.slice a' ss.length cap']] w fun e w'=>e=.returned (.bool true)/\Below w.heap.size w w':=by
 have hb:Below w.heap.size w ((w.alloc (.cells #[.string t,.slice a ss.length cap] 66)).alloc (.cells #[.string t,.slice a' ss.length cap'] 66)):=((Below.refl _ _).alloc (Nat.le_refl _) _).alloc (by simp) _
 go_enter Tryz.func33,Tryz.ntmps33
 go_wp2_with (go_at_call 14;refine (eqS_yes a a' cap cap' ss _ _ _ (hrow.below hb) (hrow'.below hb) hl).mono ?_;rintro e w' ⟨rfl,n,rfl⟩)
 go_ret
 exact ⟨rfl,belowN hb n⟩
def refAt (wd:Int) (ss:List ByteArray) (i:Nat):Bool:=
 match ss[i]? with
 |none=>true
 |some s=>decide ((s.size:Int)=wd)&&(match i with
  |0=>true
  |j+1=>match ss[j]? with
   |none=>true
   |some r=>Op.bytesLess r.toList s.toList)
def refsOk (wd:Int) (ss:List ByteArray):Bool:=(List.range ss.length).all (refAt wd ss)
theorem refAt_zero {wd:Int} {ss:List ByteArray} {s:ByteArray} (h:ss[0]?=some s):refAt wd ss 0=decide ((s.size:Int)=wd):=by simp [refAt,h]
theorem refAt_succ {wd:Int} {ss:List ByteArray} {j:Nat} {s r:ByteArray} (h:ss[j+1]?=some s) (h':ss[j]?=some r):refAt wd ss (j+1)=(decide ((s.size:Int)=wd)&&Op.bytesLess r.toList s.toList):=by simp [refAt,h,h']
theorem refsOk_no {wd:Int} {ss:List ByteArray} {k:Nat} (hk:k<ss.length) (h:refAt wd ss k=false):refsOk wd ss=false:=by
 unfold refsOk
 rw [List.all_eq_false]
 exact ⟨k,by simpa using hk,by simp [h]⟩
theorem refsOk_yes {wd:Int} {ss:List ByteArray} (h:∀i,i<ss.length->refAt wd ss i=true):refsOk wd ss=true:=by
 unfold refsOk
 rw [List.all_eq_true]
 intro i hi
 exact h i (by simpa using hi)
theorem upto_succ {p:Nat->Prop} {k:Nat} (h:∀i,i<k->p i) (hk:p k):∀i,i<k+1->p i:=by
 intro i hi
 rcases Nat.lt_or_ge i k with h'|h'
 ·exact h i h'
 ·obtain rfl:i=k:=by omega
  exact hk
theorem ret_b {a b:Bool} (h:a=b):Ending.returned (.bool a)=.returned (.bool b):=by rw [h]
set_option maxHeartbeats 400000 in
theorem ivalidRefs_any (a:Option Addr) (cap:Nat) (ss:List ByteArray) (wd:Int) (w:World) (B:Nat) (hrow:SRow w B a ss) (hl:ss.length<=1048576):
 Calls Tryz.prog 242 #[.slice a ss.length cap,.int .i64 wd] w fun e w'=>e=.returned (.bool (decide (ss.length<=30)&&refsOk wd ss))/\w'=w:=by
 by_cases hn:30<ss.length
 ·go_enter Tryz.func242,Tryz.ntmps242
  go_wp2
  go_ret
  exact ⟨ret_b (by simp;omega),rfl⟩
 ·have hn':Hid (decide (ss.length<=30)=true):=by show _=_;simp;omega
  go_enter Tryz.func242,Tryz.ntmps242
  go_wp2
  go_loop [12] (fun i=>∃k:Nat,k<=ss.length/\i=.int .i64 k/\Hid (∀i,i<k->refAt wd ss i=true)) (fun i=>ss.length -(intOf i).toNat)
  case atStart=>exact ⟨0,Nat.zero_le _,rfl,fun i h=>by omega⟩
  case round=>
   obtain ⟨k,hk,rfl,hall⟩:=hrel
   by_cases hlt:k<ss.length
   ·obtain ⟨b,off,ha,hb,hc⟩:=hrow.at hlt
    subst ha
    have hgk:Hid (ss[k]?=some ss[k]):=List.getElem?_eq_getElem hlt
    have hck:=hc k ss[k] hgk
    match k,hk,hlt,hall,hgk,hck with
    |0,hk,hlt,hall,hgk,hck=>
     rw [Nat.add_zero] at hck
     clear hc hrow
     generalize ss[0]=s at *
     by_cases hsz:(s.size:Int)=wd
     ·have hz:((s.size:Int)==wd)=true:=by simpa using hsz
      have HZ:Hid _:=hsz
      clear hsz
      go_wp2
      exact ⟨⟨1,by omega,rfl,upto_succ hall (by rw [refAt_zero hgk];simpa using HZ.out)⟩,by simp [intOf];omega⟩
     ·have hz:((s.size:Int)==wd)=false:=by simpa using hsz
      have HZ:Hid _:=hsz
      clear hsz
      go_wp2
      go_ret
      exact ⟨ret_b (by rw [refsOk_no hlt (by rw [refAt_zero hgk,decide_eq_false HZ.out])];simp),rfl⟩
    |j+1,hk,hlt,hall,hgk,hck=>
     have hgj:Hid (ss[j]?=some ss[j]):=List.getElem?_eq_getElem (by omega)
     have hck1:=hc j ss[j] hgj
     clear hc hrow
     generalize ss[j+1]=s at *
     generalize ss[j]=r at *
     by_cases hsz:(s.size:Int)=wd
     ·have hz:((s.size:Int)==wd)=true:=by simpa using hsz
      have HZ:Hid _:=hsz
      clear hsz
      by_cases hless:Op.bytesLess r.toList s.toList=true
      ·go_wp2
       exact ⟨⟨j+1+1,by omega,by go_num,upto_succ hall (by rw [refAt_succ hgk hgj];simp [HZ.out,hless])⟩,by simp [intOf];omega⟩
      ·have hless:Op.bytesLess r.toList s.toList=false:=by simpa using hless
       go_wp2
       go_ret
       exact ⟨ret_b (by rw [refsOk_no hlt (by rw [refAt_succ hgk hgj];simp [hless])];simp),rfl⟩
     ·have hz:((s.size:Int)==wd)=false:=by simpa using hsz
      have HZ:Hid _:=hsz
      clear hsz
      go_wp2
      go_ret
      exact ⟨ret_b (by rw [refsOk_no hlt (by rw [refAt_succ hgk hgj,decide_eq_false HZ.out];rfl)];simp),rfl⟩
   ·go_wp2
    go_ret
    exact ⟨ret_b (by rw [refsOk_yes (fun i hi=>hall i (by omega)),hn'.out];rfl),rfl⟩
def okThing (t:ByteArray) (ss:List ByteArray) (wd:Int):Bool:=decide (1<=wd/\wd<=8)&&(decide (t.size<=2000)&&(decide (ss.length<=30)&&refsOk wd ss))
theorem okThing_no1 {t:ByteArray} {ss:List ByteArray} {wd:Int} (h:¬(1<=wd/\wd<=8)):okThing t ss wd=false:=by
 unfold okThing;rw [decide_eq_false h];rfl
theorem okThing_no2 {t:ByteArray} {ss:List ByteArray} {wd:Int} (h:¬t.size<=2000):okThing t ss wd=false:=by
 unfold okThing;rw [decide_eq_false h];simp
theorem okThing_no3 {t:ByteArray} {ss:List ByteArray} {wd:Int} (h:¬ss.length<=30):okThing t ss wd=false:=by
 unfold okThing;rw [decide_eq_false h];simp
theorem okThing_no4 {t:ByteArray} {ss:List ByteArray} {wd:Int} (h:refsOk wd ss=false):okThing t ss wd=false:=by
 unfold okThing;rw [h];simp
theorem okThing_yes {t:ByteArray} {ss:List ByteArray} {wd:Int} (h1:1<=wd) (h2:wd<=8) (h3:t.size<=2000) (h4:ss.length<=30) (h5:refsOk wd ss=true):okThing t ss wd=true:=by
 unfold okThing;rw [h5];simp [h1,h2,h3,h4]
set_option maxHeartbeats 400000 in
theorem ivalidThing_any (t:ByteArray) (a:Option Addr) (cap:Nat) (ss:List ByteArray) (wd:Int) (w:World) (hrow:SRow w w.heap.size a ss) (hl:ss.length<=1048576) (ht:t.size<=maxLen):
 Calls Tryz.prog 221 #[.agg #[.string t,.slice a ss.length cap],.int .i64 wd] w fun e w'=>e=.returned (.bool (okThing t ss wd))/\w'=w.alloc (.cells #[.string t,.slice a ss.length cap] 66):=by
 have hb:Below w.heap.size w (w.alloc (.cells #[.string t,.slice a ss.length cap] 66)):=(Below.refl _ _).alloc (Nat.le_refl _) _
 unfold maxLen at ht
 by_cases h1:1<=wd
 ·by_cases h2:wd<=8
  ·by_cases h3:t.size<=2000
   ·go_enter Tryz.func221,Tryz.ntmps221
    go_wp2_with (first
     |(go_at_call 242;refine (ivalidRefs_any a cap ss wd _ w.heap.size (hrow.below hb) hl).mono ?_;rintro e w' ⟨rfl,rfl⟩)
     |go_in)
    go_ret
    exact ⟨ret_b (by simp [okThing,h1,h2,h3]),rfl⟩
   ·have h3':decide ((t.size:Int)<=2000)=false:=by simp;omega
    go_enter Tryz.func221,Tryz.ntmps221
    go_wp2
    go_ret
    exact ⟨ret_b (okThing_no2 (by omega)).symm,rfl⟩
  ·have h2':decide (wd<=8)=false:=by simp;omega
   go_enter Tryz.func221,Tryz.ntmps221
   go_wp2
   go_ret
   exact ⟨ret_b (okThing_no1 (by omega)).symm,rfl⟩
 ·go_enter Tryz.func221,Tryz.ntmps221
  go_wp2
  go_ret
  exact ⟨ret_b (okThing_no1 (by omega)).symm,rfl⟩
set_option maxHeartbeats 1000000 in
theorem sThingOk_any (t:ByteArray) (a:Option Addr) (cap:Nat) (ss:List ByteArray) (wd:Int) (w:World) (hrow:SRow w w.heap.size a ss) (hl:ss.length<=1048576) (ht:t.size<=maxLen):
 Calls Tryz.prog 127 #[.agg #[.string t,.slice a ss.length cap],.int .i64 wd] w fun e w'=>e=.returned (.bool (okThing t ss wd))/\Below w.heap.size w w':=by
 have hb:Below w.heap.size w (w.alloc (.cells #[.string t,.slice a ss.length cap] 66)):=(Below.refl _ _).alloc (Nat.le_refl _) _
 unfold maxLen at ht
 by_cases h1:1<=wd
 ·by_cases h2:wd<=8
  ·by_cases h3:t.size<=2000
   ·have h3':decide (2000<(t.size:Int))=false:=by simp;omega
    by_cases h4:ss.length<=30
    ·have h4':decide (30<(ss.length:Int))=false:=by simp;omega
     go_enter Tryz.func127,Tryz.ntmps127
     go_wp2
     go_loopw [5] (fun i wr=>∃k n:Nat,k<=ss.length/\i=.int .i64 k/\Hid (∀i,i<k->refAt wd ss i=true)/\wr=(w.alloc (.cells #[.string t,.slice a ss.length cap] 66)).drewN n) (fun i _=>ss.length -(intOf i).toNat)
     case atStart=>exact ⟨0,0,Nat.zero_le _,rfl,fun i h=>by omega,rfl⟩
     case round=>
      obtain ⟨k,n,hk,rfl,hall,rfl⟩:=hrel
      by_cases hlt:k<ss.length
      ·obtain ⟨b,off,ha,hbw,hc⟩:=hrow.at hlt
       subst ha
       have hgk:Hid (ss[k]?=some ss[k]):=List.getElem?_eq_getElem hlt
       have hck:=hc k ss[k] hgk
       match k,hk,hlt,hall,hgk,hck with
       |0,hk,hlt,hall,hgk,hck=>
        rw [Nat.add_zero] at hck
        clear hc hrow
        generalize ss[0]=s at *
        by_cases hsz:(s.size:Int)=wd
        ·have hz:((s.size:Int) !=wd)=false:=by simpa using hsz
         have HZ:Hid _:=hsz
         clear hsz
         go_wp2
         go_quiet (fail)
         go_wp2
         exact ⟨⟨1,_,by omega,rfl,upto_succ hall (by rw [refAt_zero hgk];simpa using HZ.out),rfl⟩,by simp [intOf];omega⟩
        ·have hz:((s.size:Int) !=wd)=true:=by simpa using hsz
         have HZ:Hid _:=hsz
         clear hsz
         go_wp2
         go_quiet (fail)
         go_wp2
         go_ret
         exact ⟨ret_b (okThing_no4 (refsOk_no hlt (by rw [refAt_zero hgk,decide_eq_false HZ.out]))).symm,belowN (belowN hb _) _⟩
       |j+1,hk,hlt,hall,hgk,hck=>
        have hgj:Hid (ss[j]?=some ss[j]):=List.getElem?_eq_getElem (by omega)
        have hck1:=hc j ss[j] hgj
        clear hc hrow
        generalize ss[j+1]=s at *
        generalize ss[j]=r at *
        by_cases hsz:(s.size:Int)=wd
        ·have hz:((s.size:Int) !=wd)=false:=by simpa using hsz
         have HZ:Hid _:=hsz
         clear hsz
         by_cases hless:Op.bytesLess r.toList s.toList=true
         ·go_wp2
          go_quiet (fail)
          go_wp2
          exact ⟨⟨j+1+1,_,by omega,by go_num,upto_succ hall (by rw [refAt_succ hgk hgj];simp [HZ.out,hless]),rfl⟩,by simp [intOf];omega⟩
         ·have hless:Op.bytesLess r.toList s.toList=false:=by simpa using hless
          go_wp2
          go_quiet (fail)
          go_wp2
          go_ret
          exact ⟨ret_b (okThing_no4 (refsOk_no hlt (by rw [refAt_succ hgk hgj];simp [hless]))).symm,belowN (belowN hb _) _⟩
        ·have hz:((s.size:Int) !=wd)=true:=by simpa using hsz
         have HZ:Hid _:=hsz
         clear hsz
         go_wp2
         go_quiet (fail)
         go_wp2
         go_ret
         exact ⟨ret_b (okThing_no4 (refsOk_no hlt (by rw [refAt_succ hgk hgj,decide_eq_false HZ.out];rfl))).symm,belowN (belowN hb _) _⟩
      ·go_wp2
       go_ret
       exact ⟨ret_b (okThing_yes h1 h2 h3 h4 (refsOk_yes (fun i hi=>hall i (by omega)))).symm,belowN hb _⟩
    ·have h4':decide (30<(ss.length:Int))=true:=by simp;omega
     go_enter Tryz.func127,Tryz.ntmps127
     go_wp2
     go_ret
     exact ⟨ret_b (okThing_no3 (by omega)).symm,hb⟩
   ·have h3':decide (2000<(t.size:Int))=true:=by simp;omega
    go_enter Tryz.func127,Tryz.ntmps127
    go_wp2
    go_ret
    exact ⟨ret_b (okThing_no2 (by omega)).symm,hb⟩
  ·have h2':decide (wd<=8)=false:=by simp;omega
   go_enter Tryz.func127,Tryz.ntmps127
   go_wp2
   go_ret
   exact ⟨ret_b (okThing_no1 (by omega)).symm,hb⟩
 ·go_enter Tryz.func127,Tryz.ntmps127
  go_wp2
  go_ret
  exact ⟨ret_b (okThing_no1 (by omega)).symm,hb⟩
end Go.Proofs.YtpekbmegopfhfaaGreatDoor
namespace Go.Proofs
open Go.Shelf Go.RowKit
def Tryz.lays169_ren:Go.Shelf.Ren:=⟨fun|169=>226|n=>n,fun|70=>283|9=>9|0=>0|72=>285|37=>143|127=>302|3=>3|5=>5|n=>n,fun|n=>n⟩
theorem Tryz.lays169:Go.Proofs.Lays.n169 Tryz.prog Tryz.lays169_ren:={
 mixed:=by kernel_rfl
 f169:=Tryz.func226.trans (congrArg some (by kernel_rfl))
 t0:=Tryz.underlying0
 a0:=Tryz.isAgg0
 z0:=Tryz.sizeOf0
 v0:=Tryz.zeroValue0
 t3:=Tryz.underlying3
 a3:=Tryz.isAgg3
 z3:=Tryz.sizeOf3
 v3:=Tryz.zeroValue3
 t9:=Tryz.underlying9
 a9:=Tryz.isAgg9
 z9:=Tryz.sizeOf9
 v9:=Tryz.zeroValue9
 t37:=Tryz.underlying143
 a37:=Tryz.isAgg143
 z37:=Tryz.sizeOf143
 v37:=Tryz.zeroValue143
 t70:=Tryz.underlying283
 a70:=Tryz.isAgg283
 z70:=Tryz.sizeOf283
 v70:=Tryz.zeroValue283
 t72:=Tryz.underlying285
 a72:=Tryz.isAgg285
 z72:=Tryz.sizeOf285
 v72:=Tryz.zeroValue285
 t127:=Tryz.underlying302
 a127:=Tryz.isAgg302
 z127:=Tryz.sizeOf302
 v127:=Tryz.zeroValue302}
theorem Tryz.Builder_Extra_169:Builder.Extra Tryz.prog Tryz.lays169_ren:={
 sizeBuilder:=by kernel_rfl
 liesBuilder:=by kernel_rfl
 t5:=Tryz.underlying5
 a5:=Tryz.isAgg5
 z5:=Tryz.sizeOf5
 v5:=Tryz.zeroValue5
 infoByte:=by kernel_rfl
 cellsByte:=by kernel_rfl
 sizeByte:=by kernel_rfl
 neB5:=by decide}
theorem Tryz.Builder_String_any (B b:Nat) (l:List UInt8) (w:World) (h:Lib.IsBuilder 285 5 B b (Lib.byteCells l) w) (hBw:B<=w.heap.size):
 Calls Tryz.prog 226 #[.pointer (some ⟨b,0,none⟩)] w fun e w'=>e=.returned (.string ⟨l.toArray⟩)/\Below B w w':=
 Any.Builder_String_any Tryz.lays169 Tryz.Builder_Extra_169 B b l w h hBw
namespace YtpekbmegopfhfaaGreatDoor
open Go.ChangeShapes Go.WideShapes Go.ChangeAt
set_option maxHeartbeats 1000000 in
set_option maxRecDepth 100000 in
theorem copyCheck_any (B b:Nat) (bs:List Value) (w:World) (h:Lib.IsBuilder 285 5 B b bs w):
 Calls Tryz.prog 243 #[.pointer (some ⟨b,0,none⟩)] w fun e w'=>e=.returned (.tuple #[])/\Lib.BuilderAt 285 5 B b (.pointer (some ⟨b,0,none⟩)) bs w'/\Below B w w':=by
 have X:=Tryz.Builder_Extra_169
 obtain ⟨j,hj,hjs⟩:=Option.map_eq_some_iff.1 X.sizeBuilder
 rcases h with h|h
 ·have h0:=h.cell0
  have hsh:=h.shape
  have hfz:=h.frozen0
  go_enter Tryz.func243,Tryz.ntmps243
  go_wp2
  rw [Lib.run_to_unsafe w ⟨b,0,none⟩ Tryz.underlying283 Tryz.underlying215 hj (by rw [hjs];decide) hsh (Nat.zero_lt_succ 1)]
  simp only [Result.andThen]
  rw [Oper.upon_value]
  go_wp2
  rw [run_callFunc_extern Tryz.func256 (by kernel_rfl) (by kernel_rfl) (by kernel_rfl) (e:=Extern.AbiNoEscape.same) (by kernel_rfl)]
  rw [Lib.run_noEscape]
  simp only [Result.andThen]
  rw [Oper.upon_value]
  go_wp2
  rw [Lib.run_from_unsafe w ⟨b,0,none⟩ Tryz.underlying215 Tryz.underlying283 hj hsh X.liesBuilder]
  simp only [Result.andThen]
  rw [Oper.upon_value]
  go_wp2
  go_end0
  exact ⟨rfl,h.used _,(Below.refl B w).setCell (p:=⟨b,0,none⟩) h.1 _⟩
 ·have h0:=h.cell0
  go_enter Tryz.func243,Tryz.ntmps243
  go_wp2
  rw [Lib.run_neq_ptr_same w _ Tryz.underlying283 hj]
  go_wp2
  go_end0
  exact ⟨rfl,h,Below.refl B _⟩
set_option maxHeartbeats 1000000 in
set_option maxRecDepth 100000 in
theorem writeByte_any (B b:Nat) (bs:List Value) (c:Int) (w:World) (h:Lib.IsBuilder 285 5 B b bs w) (hlen:bs.length+1<=140737488355328) (hBw:B<=w.heap.size):
 Calls Tryz.prog 224 #[.pointer (some ⟨b,0,none⟩),.int .u8 c] w fun e w'=>e=.returned .nilIface/\Lib.IsBuilder 285 5 B b (bs++[.int .u8 c]) w'/\Below B w w':=by
 have X:=Tryz.Builder_Extra_169
 obtain ⟨i0,hi,hz0,hz1,hz2⟩:=info_parts X.infoByte
 go_enter Tryz.func224,Tryz.ntmps224
 go_wp2_with (go_at_call 243;refine (copyCheck_any B b bs _ h).mono ?_)
 rintro e w1 ⟨rfl,h1,hb1⟩
 obtain ⟨hB,v,hbk,hown,hne⟩:=h1
 have c1:w1.cell? ⟨b,1,none⟩=some v:=by rw [Lib.cell_of_heap hbk];rfl
 go_wp2_with (at_builtin;refine wpList_append_own _ rfl _ _ 143 rfl B 5 i0 (.int .u8 0) 1 1 Tryz.underlying143 hi hz0 hz1 hz2 rfl (by decide) _ _ _ rfl (hown.alloc _) ⟨w1.heap.size,0,none⟩ 1 1 [.int .u8 c] rfl rfl ?c1 ?c2 ?c3 ?c4 ?c5 ?_)
 case c1=>
  intro j u hj
  match j,hj with
  |0,hj=>simp at hj;subst hj;simp [Addr.add]
 case c2=>intro u hu;simp at hu;subst hu;rfl
 case c3=>unfold maxLen;omega
 case c4=>omega
 case c5=>have:=hb1.size;simp;omega
 intro v' w2 hown' hgrow _
 have hlt:b<w1.heap.size:=by
  rcases Nat.lt_or_ge b w1.heap.size with h'|h'
  ·exact h'
  ·simp [Array.getElem?_eq_none h'] at hbk
 have hb2:w2.heap[b]?=some (.cells #[.pointer (some ⟨b,0,none⟩),v] 285 (0,0)):=by
  rw [hgrow.block b (by simp;omega) (fun e=>hne e.symm),Lib.alloc_old _ _ _ hlt]
  exact hbk
 have d1:w2.cell? ⟨b,1,none⟩=some v:=by rw [Lib.cell_of_heap hb2];rfl
 have f1:w2.frozen? ⟨b,1,none⟩=false:=Lib.frozen_of_heap hb2 1
 obtain ⟨ao,n',cap,rfl⟩:∃ao n' cap,v'=.slice ao n' cap:=by
  rcases hown'.2 with ⟨hv,_⟩|⟨g,cap,cur,hv,_⟩
  ·exact ⟨_,_,_,hv⟩
  ·exact ⟨_,_,_,hv⟩
 go_wp2
 go_ret
 refine ⟨rfl,.inr ?_,?_⟩
 ·exact Lib.BuilderAt.put (T:=285) (e:=5) hB hb2 (bs':=bs++[.int .u8 c]) (by simpa using hown') X.neB5
 ·exact ((hb1.alloc (by have:=hb1.size;omega) _).grown hgrow (by have:=hb1.size;simp;omega) (fun k hk=>(hown.lt k hk).1)).setCell (p:=⟨b,1,none⟩) hB _
set_option maxHeartbeats 1000000 in
set_option maxRecDepth 100000 in
theorem writeString_any (B b:Nat) (bs:List Value) (s:ByteArray) (w:World) (h:Lib.IsBuilder 285 5 B b bs w) (hlen:bs.length+s.size<=140737488355328) (hBw:B<=w.heap.size):
 Calls Tryz.prog 225 #[.pointer (some ⟨b,0,none⟩),.string s] w fun e w'=>e=.returned (.tuple #[.int .i64 s.size,.nilIface])/\Lib.IsBuilder 285 5 B b (bs++Lib.byteCells s.data.toList) w'/\Below B w w':=by
 have X:=Tryz.Builder_Extra_169
 obtain ⟨i0,hi,hz0,hz1,hz2⟩:=info_parts X.infoByte
 go_enter Tryz.func225,Tryz.ntmps225
 go_wp2_with (go_at_call 243;refine (copyCheck_any B b bs _ h).mono ?_)
 rintro e w1 ⟨rfl,h1,hb1⟩
 obtain ⟨hB,v,hbk,hown,hne⟩:=h1
 have c1:w1.cell? ⟨b,1,none⟩=some v:=by rw [Lib.cell_of_heap hbk];rfl
 go_wp2_with (at_builtin;refine Lib.wpList_append_own_string _ rfl _ _ 143 9 rfl B 5 i0 Tryz.underlying143 Tryz.underlying9 hi hz0 hz1 hz2 _ _ _ rfl hown s rfl ?c3 ?c4 ?c5 ?_)
 case c3=>unfold maxLen;omega
 case c4=>omega
 case c5=>have:=hb1.size;omega
 intro v' w2 hown' hgrow _
 have hlt:b<w1.heap.size:=by
  rcases Nat.lt_or_ge b w1.heap.size with h'|h'
  ·exact h'
  ·simp [Array.getElem?_eq_none h'] at hbk
 have hb2:w2.heap[b]?=some (.cells #[.pointer (some ⟨b,0,none⟩),v] 285 (0,0)):=by
  rw [hgrow.block b hlt (fun e=>hne e.symm)]
  exact hbk
 have d1:w2.cell? ⟨b,1,none⟩=some v:=by rw [Lib.cell_of_heap hb2];rfl
 have f1:w2.frozen? ⟨b,1,none⟩=false:=Lib.frozen_of_heap hb2 1
 obtain ⟨ao,n',cap,rfl⟩:∃ao n' cap,v'=.slice ao n' cap:=by
  rcases hown'.2 with ⟨hv,_⟩|⟨g,cap,cur,hv,_⟩
  ·exact ⟨_,_,_,hv⟩
  ·exact ⟨_,_,_,hv⟩
 go_wp2
 go_ret2
 refine ⟨rfl,.inr ?_,?_⟩
 ·have hcs:Lib.strCells s=Lib.byteCells s.data.toList:=rfl
  rw [←hcs]
  exact Lib.BuilderAt.put (T:=285) (e:=5) hB hb2 (bs':=bs++Lib.strCells s) (by simpa [Lib.strCells_length] using hown') X.neB5
 ·exact (hb1.grown hgrow (by have:=hb1.size;omega) (fun k hk=>(hown.lt k hk).1)).setCell (p:=⟨b,1,none⟩) hB _
end YtpekbmegopfhfaaGreatDoor
end Go.Proofs
