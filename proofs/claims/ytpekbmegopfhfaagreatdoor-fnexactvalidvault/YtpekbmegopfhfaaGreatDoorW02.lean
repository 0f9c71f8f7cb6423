import Derived.Test.YtpekbmegopfhfaaGreatDoorW01
import Derived.Test.YtpekbmegopfhfaaGreatDoorProg
import Derived.WalkKit
import Derived.ProofKit
import Derived.Deep.AppendLies
import Derived.Lib.SmallJoins
import Derived.OneCell
import Derived.Deep.RegionWith
import Derived.Deep.DeepCutAuto
namespace Go.Proofs.YtpekbmegopfhfaaGreatDoor
open Go.ChangeShapes Go.WideShapes Go.ChangeAt Go.RowKit
def flat (ss:List ByteArray):List UInt8:=ss.flatMap (fun s=>s.data.toList)
theorem flat_take (ss:List ByteArray) (k:Nat) (s:ByteArray) (h:ss[k]?=some s):flat (ss.take (k+1))=flat (ss.take k)++s.data.toList:=by
 obtain ⟨hlt,rfl⟩:=List.getElem?_eq_some_iff.1 h
 unfold flat
 rw [List.take_succ_eq_append_getElem hlt,List.flatMap_append]
 simp
theorem flat_length (ss:List ByteArray):(flat ss).length=bulk ss:=by
 induction ss with
 |nil=>rfl
 |cons s r ih=>
  unfold flat bulk at *
  rw [List.flatMap_cons,List.length_append,ih]
  simp
def formB (t:ByteArray) (ss:List ByteArray):List UInt8:=UInt8.ofNat ss.length::(flat ss++t.data.toList)
theorem refsOk_at {wd:Int} {ss:List ByteArray} (h:refsOk wd ss=true) {i:Nat} {s:ByteArray} (hs:ss[i]?=some s):(s.size:Int)=wd:=by
 unfold refsOk at h
 rw [List.all_eq_true] at h
 have hlt:=(List.getElem?_eq_some_iff.1 hs).1
 have:=h i (by simpa using hlt)
 unfold refAt at this
 rw [hs] at this
 simp at this
 exact this.1
theorem bulk_const (ss:List ByteArray) (n:Nat) (h:∀s∈ss,s.size=n):bulk ss=ss.length *n:=by
 induction ss with
 |nil=>simp [bulk]
 |cons s r ih=>
  have h1:=h s (by simp)
  have h2:=ih (fun s hs=>h s (by simp [hs]))
  unfold bulk at *
  rw [List.map_cons,List.sum_cons,h2,h1,List.length_cons,Nat.add_mul,Nat.one_mul,Nat.add_comm]
structure ThingOk (t:ByteArray) (ss:List ByteArray) (wd:Int):Prop where
 lo:1<=wd
 hi:wd<=8
 text:t.size<=2000
 refs:ss.length<=30
 all:refsOk wd ss=true
theorem okThing_parts {t:ByteArray} {ss:List ByteArray} {wd:Int} (h:okThing t ss wd=true):ThingOk t ss wd:=by
 unfold okThing at h
 simp at h
 exact ⟨h.1.1,h.1.2,h.2.1,h.2.2.1,h.2.2.2⟩
theorem ThingOk.size {t:ByteArray} {ss:List ByteArray} {wd:Int} (h:ThingOk t ss wd) {i:Nat} {s:ByteArray} (hs:ss[i]?=some s):(s.size:Int)=wd:=refsOk_at h.all hs
theorem ThingOk.bulk {t:ByteArray} {ss:List ByteArray} {wd:Int} (h:ThingOk t ss wd):bulk ss=ss.length *wd.toNat:=by
 refine bulk_const ss _ fun s hs=> ?_
 obtain ⟨i,hi⟩:=List.getElem?_of_mem hs
 have:=h.size hi
 omega
theorem ThingOk.bulk_le {t:ByteArray} {ss:List ByteArray} {wd:Int} (h:ThingOk t ss wd):YtpekbmegopfhfaaGreatDoor.bulk ss<=240:=by
 have h1:=h.bulk
 have h2:ss.length *wd.toNat<=30 *8:=Nat.mul_le_mul h.refs (by have:=h.hi;omega)
 omega
theorem Tryz.infoByteF:(Tryz.prog.info? 5).map (fun i=>(i.zero,i.size,i.bytes))=some (some (.int .u8 0),1,1):=by kernel_rfl
theorem head_cell (n:Nat) (h:n<=30):Value.int .u8 (n:Int)=.int .u8 ((UInt8.ofNat n).toNat:Int):=by
 have:(UInt8.ofNat n).toNat=n:=by simp;omega
 rw [this]
theorem form_snoc (ss:List ByteArray) (k:Nat) (s:ByteArray) (h:ss[k]?=some s) (c:UInt8):
 Lib.byteCells (c::flat (ss.take k))++Lib.strCells s=Lib.byteCells (c::flat (ss.take (k+1))):=by
 rw [flat_take ss k s h,Lib.strCells_eq,←Lib.byteCells_append];rfl
set_option maxHeartbeats 1000000 in
theorem sForm_yes (t:ByteArray) (a:Option Addr) (cap:Nat) (ss:List ByteArray) (wd:Int) (w:World) (hrow:SRow w w.heap.size a ss) (hok:okThing t ss wd=true):
 Calls Tryz.prog 131 #[.agg #[.string t,.slice a ss.length cap],.int .i64 wd] w fun e w'=>e=.returned (.string ⟨(formB t ss).toArray⟩)/\Below w.heap.size w w':=by
 have hp:=okThing_parts hok
 have hbk:=hp.bulk_le
 have h30:=hp.refs
 have h2000:=hp.text
 have hhd:Hid _:=head_cell ss.length h30
 obtain ⟨i0,hi,hz0,hz1,hz2⟩:=info_parts Tryz.infoByteF
 have hb0:Below w.heap.size w (w.alloc (.cells #[.string t,.slice a ss.length cap] 66)):=(Below.refl _ _).alloc (Nat.le_refl _) _
 go_enter Tryz.func131,Tryz.ntmps131
 go_wp2_with fail
 refine (sThingOk_any t a cap ss wd _ (hrow.below' hb0) (by omega) (by unfold maxLen;omega)).mono ?_
 rintro e w1 ⟨rfl,hb1⟩
 rw [hok]
 obtain ⟨hc1,hf1⟩:=bcell hb1
 have hz:=hb1.size
 simp at hz
 go_wp2
 have hown0:(w1.alloc (.cells #[.int .u8 ss.length] 5)).ownsRow (w.heap.size+1) 5 1 (.slice (some ⟨w1.heap.size,0,none⟩) 1 1) 1 (Lib.byteCells (UInt8.ofNat ss.length::flat (ss.take 0))):=by
  have:=World.ownsRow_lit (base:=w.heap.size+1) (e:=5) (size:=1) w1 #[.int .u8 ss.length] 1 hz (by simp [maxLen]) rfl
  simpa [Lib.byteCells,flat,head_cell ss.length h30] using this
 have hbel0:Below (w.heap.size+1) (w.alloc (.cells #[.string t,.slice a ss.length cap] 66)) (w1.alloc (.cells #[.int .u8 ss.length] 5)):=by
  have:=hb1.alloc (by simpa using hz) (.cells #[.int .u8 ss.length] 5)
  simpa using this
 go_loopw [5,6] (fun out i wr=>∃(k g c:Nat),k<=ss.length/\i=.int .i64 k/\out=.slice (some ⟨g,0,none⟩) (1+bulk (ss.take k)) c/\
  wr.ownsRow (w.heap.size+1) 5 1 (.slice (some ⟨g,0,none⟩) (1+bulk (ss.take k)) c) (1+bulk (ss.take k)) (Lib.byteCells (UInt8.ofNat ss.length::flat (ss.take k)))/\
  Below (w.heap.size+1) (w.alloc (.cells #[.string t,.slice a ss.length cap] 66)) wr) (fun _ i _=>ss.length -(intOf i).toNat)
 case atStart=>exact ⟨0,w1.heap.size,1,Nat.zero_le _,rfl,by simp [bulk],by simpa [bulk] using hown0,hbel0⟩
 case round=>
  clear hown0 hbel0 hc1 hf1 hb1
  obtain ⟨k,g,c,hk,rfl,rfl,hown,hbel⟩:=hrel
  have hbox:wr.cell? ⟨w.heap.size,1,none⟩=some (.slice a ss.length cap):=by
   rw [hbel.cell (p:=⟨w.heap.size,1,none⟩) (by simp)];simp
  have hsz:=hbel.size
  simp at hsz
  have hble:=bulk_le ss k
  by_cases hlt:k<ss.length
  ·obtain ⟨b,off,ha,hbw,hc⟩:=hrow.at hlt
   subst ha
   have hgk:Hid (ss[k]?=some ss[k]):=List.getElem?_eq_getElem hlt
   have hck:wr.cell? ⟨b,off+k,none⟩=some (.string ss[k]):=by
    rw [hbel.cell (p:=⟨b,off+k,none⟩) (by simp;omega),World.cell?_alloc_past _ _ _ hbw]
    exact hc k _ hgk
   have hbt:Hid _:=bulk_take ss k _ hgk
   have hfs:Hid _:=form_snoc ss k _ hgk (UInt8.ofNat ss.length)
   have hle2:=bulk_le ss (k+1)
   rw [hbt.out] at hle2
   clear hc hrow
   generalize ss[k]=s at *
   go_wp2_with (at_builtin;refine Lib.wpList_append_own_string _ rfl _ _ 143 9 rfl (w.heap.size+1) 5 i0 Tryz.underlying143 Tryz.underlying9 hi hz0 hz1 hz2 _ _ _ rfl hown s rfl ?c3 ?c4 ?c5 ?_)
   case c3=>unfold maxLen;omega
   case c4=>omega
   case c5=>omega
   intro v' w2 hown' hgrow _
   obtain ⟨g',c',hv',hg1,hg2⟩:=hown'.form (by omega)
   subst hv'
   have hb2:=hbel.grown hgrow (by omega) (fun k hk=>(hown.lt k hk).1)
   rw [hfs.out] at hown'
   clear hown hbel hgrow hbox hck
   go_wp2
   refine ⟨⟨k+1,g',c',by omega,by go_num,?_,?_,hb2⟩,by simp [intOf];omega⟩
   ·rw [hbt.out,Nat.add_assoc]
   ·rw [hbt.out,←Nat.add_assoc];exact hown'
  ·have hbox0:wr.cell? ⟨w.heap.size,0,none⟩=some (.string t):=by
    rw [hbel.cell (p:=⟨w.heap.size,0,none⟩) (by simp)];simp
   rw [List.take_of_length_le (by omega)] at hown ⊢
   go_wp2_with (at_builtin;refine Lib.wpList_append_own_string _ rfl _ _ 143 9 rfl (w.heap.size+1) 5 i0 Tryz.underlying143 Tryz.underlying9 hi hz0 hz1 hz2 _ _ _ rfl hown t rfl ?c3 ?c4 ?c5 ?_)
   case c3=>unfold maxLen;omega
   case c4=>omega
   case c5=>omega
   intro v' w2 hown' hgrow _
   obtain ⟨g',c',hv',hg1,hg2⟩:=hown'.form (by omega)
   subst hv'
   have hb2:=hbel.grown hgrow (by omega) (fun k hk=>(hown.lt k hk).1)
   have hcs:Lib.byteCells (UInt8.ofNat ss.length::flat ss)++Lib.strCells t=Lib.byteCells (formB t ss):=by
    rw [Lib.strCells_eq,←Lib.byteCells_append];rfl
   rw [hcs] at hown'
   have hlen:1+bulk ss+t.size=(formB t ss).length:=by
    have:=flat_length ss
    simp [formB,this];omega
   rw [hlen] at hown' ⊢
   have hcv:=run_convert_bytes_back (P:=Tryz.prog) w2 143 9 5 ⟨g',0,none⟩ c' (formB t ss) Tryz.underlying143 Tryz.underlying5 Tryz.underlying9 (fun j hj=>hown'.cells rfl j _ (by simp [Lib.byteCells,hj]))
   clear hown hbel hgrow hbox hbox0 hown'
   go_wp2
   go_ret
   refine ⟨rfl,?_⟩
   exact hb0.trans (hb2.mono (by omega))
theorem sForm_no (t:ByteArray) (a:Option Addr) (cap:Nat) (ss:List ByteArray) (wd:Int) (w:World) (hrow:SRow w w.heap.size a ss) (hok:okThing t ss wd=false) (hl:ss.length<=1048576) (ht:t.size<=maxLen):
 Calls Tryz.prog 131 #[.agg #[.string t,.slice a ss.length cap],.int .i64 wd] w fun e w'=>e=.returned (.string ByteArray.empty)/\Below w.heap.size w w':=by
 have hb0:Below w.heap.size w (w.alloc (.cells #[.string t,.slice a ss.length cap] 66)):=(Below.refl _ _).alloc (Nat.le_refl _) _
 go_enter Tryz.func131,Tryz.ntmps131
 go_wp2_with fail
 refine (sThingOk_any t a cap ss wd _ (hrow.below' hb0) hl ht).mono ?_
 rintro e w1 ⟨rfl,hb1⟩
 rw [hok]
 go_wp2
 go_ret
 exact ⟨rfl,hb0.trans (hb1.mono (by simp))⟩
theorem iForm_no (t:ByteArray) (a:Option Addr) (cap:Nat) (ss:List ByteArray) (wd:Int) (w:World) (hrow:SRow w w.heap.size a ss) (hok:okThing t ss wd=false) (hl:ss.length<=1048576) (ht:t.size<=maxLen):
 Calls Tryz.prog 198 #[.agg #[.string t,.slice a ss.length cap],.int .i64 wd] w fun e w'=>e=.returned (.string ByteArray.empty)/\Below w.heap.size w w':=by
 have hb0:Below w.heap.size w (w.alloc (.cells #[.string t,.slice a ss.length cap] 66)):=(Below.refl _ _).alloc (Nat.le_refl _) _
 go_enter Tryz.func198,Tryz.ntmps198
 go_wp2_with fail
 refine (ivalidThing_any t a cap ss wd _ (hrow.below' hb0) hl ht).mono ?_
 rintro e w1 ⟨rfl,rfl⟩
 rw [hok]
 go_wp2
 go_ret
 exact ⟨rfl,hb0.alloc (by simp) _⟩
set_option maxHeartbeats 1000000 in
theorem iForm_yes (t:ByteArray) (a:Option Addr) (cap:Nat) (ss:List ByteArray) (wd:Int) (w:World) (hrow:SRow w w.heap.size a ss) (hok:okThing t ss wd=true):
 Calls Tryz.prog 198 #[.agg #[.string t,.slice a ss.length cap],.int .i64 wd] w fun e w'=>e=.returned (.string ⟨(formB t ss).toArray⟩)/\Below w.heap.size w w':=by
 have hp:=okThing_parts hok
 have hbk:=hp.bulk_le
 have h30:=hp.refs
 have h2000:=hp.text
 have hb0:Below w.heap.size w (w.alloc (.cells #[.string t,.slice a ss.length cap] 66)):=(Below.refl _ _).alloc (Nat.le_refl _) _
 obtain ⟨W,hW⟩:∃W,W=(w.alloc (.cells #[.string t,.slice a ss.length cap] 66)).alloc (.cells #[.string t,.slice a ss.length cap] 66):=⟨_,rfl⟩
 have hWb:Below w.heap.size w W:=by rw [hW];exact hb0.alloc (by simp) _
 have hWs:W.heap.size=w.heap.size+1+1:=by rw [hW];simp
 have hW0:W.cell? ⟨w.heap.size,0,none⟩=some (.string t):=by rw [hW];simp
 have hW1:W.cell? ⟨w.heap.size,1,none⟩=some (.slice a ss.length cap):=by rw [hW];simp
 have hrowW:=hrow.below hWb
 have HW:Hid _:=hW
 go_enter Tryz.func198,Tryz.ntmps198
 go_wp2_with fail
 refine (ivalidThing_any t a cap ss wd _ (hrow.below' hb0) (by omega) (by unfold maxLen;omega)).mono ?_
 rintro e w1 ⟨rfl,hw1⟩
 rw [←HW.out] at hw1
 subst hw1
 clear hW
 rw [hok]
 have hbs:=Lib.fresh_isBuilder 285 5 w1
 have hbl:Below w1.heap.size w1 (w1.alloc (.cells #[.pointer none,.slice none 0 0] 285)):=(Below.refl _ _).alloc (Nat.le_refl _) _
 rw [hWs] at hbs hbl
 go_wp2_with fail
 refine (writeByte_any (w.heap.size+1+1) (w.heap.size+1+1) [] _ _ hbs (by simp) (by simp [hWs])).mono ?_
 rintro e w2 ⟨rfl,hbs2,hb2⟩
 have hbw:=hbl.trans hb2
 have hbx1:w2.cell? ⟨w.heap.size,1,none⟩=some (.slice a ss.length cap):=(hbw.cell (p:=⟨w.heap.size,1,none⟩) (by simp;omega)).trans hW1
 have hhd:[]++[Value.int .u8 (ss.length:Int)]=Lib.byteCells (UInt8.ofNat ss.length::flat (ss.take 0)):=by
  simp [Lib.byteCells,flat,head_cell ss.length h30]
 rw [hhd] at hbs2
 clear hbs hbl hb2 hhd
 go_wp2
 go_loopw [20] (fun i wr=>∃(k:Nat),k<=ss.length/\i=.int .i64 k/\Lib.IsBuilder 285 5 (w.heap.size+1+1) (w.heap.size+1+1) (Lib.byteCells (UInt8.ofNat ss.length::flat (ss.take k))) wr/\
  Below (w.heap.size+1+1) w1 wr) (fun i _=>ss.length -(intOf i).toNat)
 case atStart=>exact ⟨0,Nat.zero_le _,rfl,hbs2,hbw⟩
 case round=>
  clear hbs2 hbw hbx1
  obtain ⟨k,hk,rfl,hbs,hbel⟩:=hrel
  have hsz:=hbel.size
  have hble:=bulk_le ss k
  have hfl:=flat_length (ss.take k)
  have hcl:Hid ((Lib.byteCells (UInt8.ofNat ss.length::flat (ss.take k))).length=1+bulk (ss.take k)):=by
   show _=_
   rw [Lib.byteCells_length,List.length_cons,hfl];omega
  clear hfl
  by_cases hlt:k<ss.length
  ·obtain ⟨b,off,ha,hbw,hc⟩:=hrowW.at hlt
   subst ha
   have hgk:Hid (ss[k]?=some ss[k]):=List.getElem?_eq_getElem hlt
   have hck:wr.cell? ⟨b,off+k,none⟩=some (.string ss[k]):=by
    rw [hbel.cell (p:=⟨b,off+k,none⟩) (by simp;omega)]
    exact hc k _ hgk
   have hbt:Hid _:=bulk_take ss k _ hgk
   have hfs:Hid _:=form_snoc ss k _ hgk (UInt8.ofNat ss.length)
   have hle2:=bulk_le ss (k+1)
   rw [hbt.out] at hle2
   clear hc hrow hrowW
   generalize ss[k]=s at *
   go_wp2_with fail
   refine (writeString_any (w.heap.size+1+1) (w.heap.size+1+1) _ s _ hbs (by rw [hcl.out];omega) (by omega)).mono ?_
   rintro e w3 ⟨rfl,hbs3,hb3⟩
   rw [←Lib.strCells_eq,hfs.out] at hbs3
   have hb4:=hbel.trans hb3
   clear hbs hbel hb3 hck
   go_wp2
   exact ⟨⟨k+1,by omega,by go_num,hbs3,hb4⟩,by simp [intOf];omega⟩
  ·have hbx0:wr.cell? ⟨w.heap.size,0,none⟩=some (.string t):=(hbel.cell (p:=⟨w.heap.size,0,none⟩) (by simp;omega)).trans hW0
   rw [List.take_of_length_le (by omega)] at hbs hcl hble
   go_wp2_with fail
   refine (writeString_any (w.heap.size+1+1) (w.heap.size+1+1) _ t _ hbs (by rw [hcl.out];omega) (by omega)).mono ?_
   rintro e w3 ⟨rfl,hbs3,hb3⟩
   have hcs:Lib.byteCells (UInt8.ofNat ss.length::flat ss)++Lib.byteCells t.data.toList=Lib.byteCells (formB t ss):=by
    rw [←Lib.byteCells_append];rfl
   rw [hcs] at hbs3
   have hb4:=hbel.trans hb3
   have hsz3:=hb4.size
   clear hbs hbel hb3 hcs hcl hbx0
   go_wp2_with fail
   refine (Tryz.Builder_String_any (w.heap.size+1+1) (w.heap.size+1+1) _ _ hbs3 (by omega)).mono ?_
   rintro e w4 ⟨rfl,hb5⟩
   go_wp2
   go_ret
   exact ⟨rfl,hWb.trans ((hb4.trans hb5).mono (by omega))⟩
def formTxt (t:ByteArray) (ss:List ByteArray) (wd:Int):ByteArray:=if okThing t ss wd=true then ⟨(formB t ss).toArray⟩ else ByteArray.empty
theorem sForm_any (t:ByteArray) (a:Option Addr) (cap:Nat) (ss:List ByteArray) (wd:Int) (w:World) (hrow:SRow w w.heap.size a ss) (hl:ss.length<=1048576) (ht:t.size<=maxLen):
 Calls Tryz.prog 131 #[.agg #[.string t,.slice a ss.length cap],.int .i64 wd] w fun e w'=>e=.returned (.string (formTxt t ss wd))/\Below w.heap.size w w':=by
 cases hok:okThing t ss wd with
 |true=>rw [show formTxt t ss wd=⟨(formB t ss).toArray⟩ from by unfold formTxt;rw [if_pos hok]];exact sForm_yes t a cap ss wd w hrow hok
 |false=>rw [show formTxt t ss wd=ByteArray.empty from by unfold formTxt;rw [if_neg (by rw [hok];decide)]];exact sForm_no t a cap ss wd w hrow hok hl ht
theorem iForm_any (t:ByteArray) (a:Option Addr) (cap:Nat) (ss:List ByteArray) (wd:Int) (w:World) (hrow:SRow w w.heap.size a ss) (hl:ss.length<=1048576) (ht:t.size<=maxLen):
 Calls Tryz.prog 198 #[.agg #[.string t,.slice a ss.length cap],.int .i64 wd] w fun e w'=>e=.returned (.string (formTxt t ss wd))/\Below w.heap.size w w':=by
 cases hok:okThing t ss wd with
 |true=>rw [show formTxt t ss wd=⟨(formB t ss).toArray⟩ from by unfold formTxt;rw [if_pos hok]];exact iForm_yes t a cap ss wd w hrow hok
 |false=>rw [show formTxt t ss wd=ByteArray.empty from by unfold formTxt;rw [if_neg (by rw [hok];decide)]];exact iForm_no t a cap ss wd w hrow hok hl ht
end Go.Proofs.YtpekbmegopfhfaaGreatDoor
namespace Go.Proofs.YtpekbmegopfhfaaGreatDoor
open Go.ChangeShapes Go.WideShapes Go.ChangeAt Go.RowKit
theorem wrap_u64_bd {a:Int}:0<=IntKind.u64.wrap a/\IntKind.u64.wrap a<18446744073709551616:=by
 simp [IntKind.wrap,IntKind.bits,IntKind.signed]
 omega
def mixStep (v:Int) (b:UInt8):Int:=IntKind.u64.wrap (bits BinOp.xor IntKind.u64 v (IntKind.u64.wrap b.toNat) *1099511628211)
def mixI (l:List UInt8):Int:=l.foldl mixStep 14695981039346656037
theorem mixI_bd (l:List UInt8):0<=mixI l/\mixI l<18446744073709551616:=by
 unfold mixI
 rcases l.eq_nil_or_concat with rfl|⟨r,b,rfl⟩
 ·simp
 ·simp only [List.concat_eq_append,List.foldl_append,List.foldl_cons,List.foldl_nil]
  exact wrap_u64_bd
theorem mixI_snoc (s:ByteArray) (k:Nat) (h:k<s.size):mixI (s.data.toList.take (k+1))=mixStep (mixI (s.data.toList.take k)) s[k]:=by
 rw [List.take_succ_eq_append_getElem (by simpa using h)]
 unfold mixI
 rw [List.foldl_append];rfl
def sumNums (v:Int):Nat->List Int
 |0=>[]
 |k+1=>(v/256^k%256)::sumNums v k
theorem sumNums_length (v:Int) (k:Nat):(sumNums v k).length=k:=by
 induction k with
 |zero=>rfl
 |succ k ih=>simp [sumNums,ih]
theorem sumNums_get (v:Int) (k:Nat):∀i,i<k->(sumNums v k)[i]?=some (v/256^(k -1 -i)%256):=by
 induction k with
 |zero=>intro i h;omega
 |succ k ih=>
  intro i h
  match i with
  |0=>simp [sumNums]
  |i+1=>
   rw [sumNums,List.getElem?_cons_succ,ih i (by omega),show k -1 -i=k+1 -1 -(i+1) from by omega]
def sumCells (v:Int) (k:Nat):List Value:=(sumNums v k).map (Value.int .u8)
theorem sumCells_length (v:Int) (k:Nat):(sumCells v k).length=k:=by simp [sumCells,sumNums_length]
theorem div_next (v:Int) (k:Nat):v/256^k/256=v/256^(k+1):=by
 rw [Int.ediv_ediv_of_nonneg (Int.pow_nonneg (by decide)),Int.pow_succ]
theorem div_bd (v:Int) (k:Nat) (h0:0<=v) (h:v<18446744073709551616):0<=v/256^k/\v/256^k<18446744073709551616:=by
 have hp:(0:Int)<256^k:=Int.pow_pos (by decide)
 exact ⟨Int.ediv_nonneg h0 (Int.le_of_lt hp),Int.lt_of_le_of_lt (Int.ediv_le_self _ h0) h⟩
def sumText (l:List UInt8) (n:Nat):ByteArray:=strOfNums (sumNums (mixI l) n)
theorem Tryz.infoByte:(Tryz.prog.info? 5).map (fun i=>(i.zero,i.size,i.bytes))=some (some (.int .u8 0),1,1):=by kernel_rfl
set_option maxHeartbeats 400000 in
theorem ssum_any (s:ByteArray) (wd:Int) (w:World) (hs:s.size<=maxLen) (h1:1<=wd) (h2:wd<=8):
 Calls Tryz.prog 132 #[.string s,.int .i64 wd] w fun e w'=>e=.returned (.string (sumText s.data.toList wd.toNat))/\Below w.heap.size w w':=by
 unfold maxLen at hs
 obtain ⟨i0,hi,hz0,hz1,hz2⟩:=info_parts Tryz.infoByte
 go_enter Tryz.func132,Tryz.ntmps132
 go_wp2
 go_loop [5,6] (fun v i=>∃(k:Nat),k<=s.size/\i=.int .i64 k/\v=.int .u64 (mixI (s.data.toList.take k))) (fun _ i=>s.size -(intOf i).toNat)
 case atStart=>exact ⟨0,Nat.zero_le _,rfl,rfl⟩
 case round=>
  obtain ⟨k,hk,rfl,rfl⟩:=hrel
  by_cases hlt:k<s.size
  ·have HS:Hid (mixI (s.data.toList.take (k+1))=mixStep (mixI (s.data.toList.take k)) s[k]):=mixI_snoc s k hlt
   go_wp2
   exact ⟨⟨k+1,by omega,by go_num,by rw [HS.out];rfl⟩,by simp [intOf];omega⟩
  ·have hV:Hid (mixI (s.data.toList.take k)=mixI s.data.toList):=by
    show _=_
    rw [List.take_of_length_le (by simp;omega)]
   have hbd:=mixI_bd (s.data.toList.take k)
   generalize mixI (s.data.toList.take k)=V at *
   go_wp2
   go_loopw [5,7,8] (fun v out i wr=>∃(k:Nat) (g c:Nat),k<=wd/\i=.int .i64 k/\v=.int .u64 (V/256^k)/\out=.slice (some ⟨g,0,none⟩) k c/\wr.ownsRow w.heap.size 5 1 (.slice (some ⟨g,0,none⟩) k c) k (sumCells V k)/\Below w.heap.size w wr/\w.heap.size<=wr.heap.size) (fun _ _ i _=>(wd -intOf i).toNat)
   case atStart=>exact ⟨0,_,_,by omega,rfl,by simp,rfl,World.ownsRow_lit w #[] 0 (Nat.le_refl _) (by simp [maxLen]) rfl,(Below.refl _ _).alloc (Nat.le_refl _) _,by simp⟩
   case round=>
    obtain ⟨j,g,c,hj,rfl,rfl,rfl,hown,hbel,hsz⟩:=hrel
    by_cases hlt2:j<wd
    ·have hdb:=div_bd V j hbd.1 hbd.2
     go_wp2_with (first
      |(at_builtin;refine wpList_append_own _ rfl _ _ 143 rfl w.heap.size 5 i0 (.int .u8 0) 1 1 Tryz.underlying143 hi hz0 hz1 hz2 rfl (by decide) _ 1 [.int .u8 (V/256^j%256)] rfl ?c0 ⟨g,0,none⟩ j c (sumCells V j) rfl (by rw [sumCells_length];omega) ?c1 ?c2 ?c3 ?c4 ?c5 ?_)
      |go_in)
     case c0=>exact World.ownsRow_lit wr _ 1 hsz (by simp [maxLen]) rfl
     case c1=>exact (hown.alloc _).cells rfl
     case c2=>intro u hu;obtain ⟨_,_,rfl⟩:=List.mem_map.1 hu;rfl
     case c3=>unfold maxLen;omega
     case c4=>omega
     case c5=>simp;omega
     intro v' w1 hown' hgrow _
     obtain ⟨g',c',hv',hg1,hg2⟩:=hown'.form (by omega)
     subst hv'
     have hb1:Below w.heap.size w w1:=(hbel.alloc hsz _).grown hgrow (by simp;omega) (by intro k hk;simp [Value.ownBlock] at hk;omega)
     rw [Nat.add_comm 1 j] at hown' ⊢
     clear hown hbel hgrow
     go_wp2
     refine ⟨⟨j+1,g',c',by omega,by go_num,by rw [←div_next],rfl,hown',hb1,by omega⟩,by simp [intOf];omega⟩
    ·obtain rfl:(j:Int)=wd:=by omega
     have hcv:=run_convert_bytes_arg (P:=Tryz.prog) wr 143 5 Tryz.underlying143 Tryz.underlying5 g 0 j c (sumNums V j) (sumNums_length V j) (fun i hi=>by
      rw [Nat.zero_add,hown.cellAt i (by omega)]
      have:=sumNums_length V j
      simp [sumCells,List.getD,List.getElem?_eq_getElem (show i<(sumNums V j).length by omega)]) 9 Tryz.underlying9
     go_wp2
     go_ret
     refine ⟨?_,hbel⟩
     unfold sumText
     rw [←hV.out];rfl
end Go.Proofs.YtpekbmegopfhfaaGreatDoor
namespace Go.Proofs.YtpekbmegopfhfaaGreatDoor
open Go.ChangeShapes Go.WideShapes Go.ChangeAt Go.RowKit
theorem ret_int {k:IntKind} {a b:Int} (h:a=b):Ending.returned (.int k a)=.returned (.int k b):=by rw [h]
set_option maxHeartbeats 400000 in
theorem mix_any (s:ByteArray) (w:World) (hs:s.size<=maxLen):
 Calls Tryz.prog 228 #[.string s] w fun e w'=>e=.returned (.int .u64 (mixI s.data.toList))/\w'=w:=by
 unfold maxLen at hs
 go_enter Tryz.func228,Tryz.ntmps228
 go_wp2
 go_loop [3,7] (fun v i=>∃(k:Nat),k<=s.size/\i=.int .i64 k/\v=.int .u64 (mixI (s.data.toList.take k))) (fun _ i=>s.size -(intOf i).toNat)
 case atStart=>exact ⟨0,Nat.zero_le _,rfl,rfl⟩
 case round=>
  obtain ⟨k,hk,rfl,rfl⟩:=hrel
  by_cases hlt:k<s.size
  ·have HS:Hid (mixI (s.data.toList.take (k+1))=mixStep (mixI (s.data.toList.take k)) s[k]):=mixI_snoc s k hlt
   go_wp2
   exact ⟨⟨k+1,by omega,by go_num,by rw [HS.out];rfl⟩,by simp [intOf];omega⟩
  ·go_wp2
   go_ret
   exact ⟨ret_int (by rw [List.take_of_length_le (by simp;omega)]),rfl⟩
def lastB (v wd:Int) (j:Nat):Int:=v/2^(8 *(wd -1 -(j:Int))).toNat%256
def lastN (v wd:Int) (k j:Nat):Int:=if j<k then lastB v wd j else 0
def lastC (v wd:Int) (k:Nat):Array Value:= #[.int .u8 (lastN v wd k 0),.int .u8 (lastN v wd k 1),.int .u8 (lastN v wd k 2),.int .u8 (lastN v wd k 3),.int .u8 (lastN v wd k 4),.int .u8 (lastN v wd k 5),.int .u8 (lastN v wd k 6),.int .u8 (lastN v wd k 7)]
theorem lastC_get (v wd:Int) (k j:Nat) (h:j<8):(lastC v wd k)[j]?=some (.int .u8 (lastN v wd k j)):=by
 match j,h with
 |0,_=>rfl|1,_=>rfl|2,_=>rfl|3,_=>rfl|4,_=>rfl|5,_=>rfl|6,_=>rfl|7,_=>rfl
theorem lastC_zero (v wd:Int):lastC v wd 0= #[.int .u8 0,.int .u8 0,.int .u8 0,.int .u8 0,.int .u8 0,.int .u8 0,.int .u8 0,.int .u8 0]:=by
 simp [lastC,lastN]
theorem lastC_set (v wd:Int) (k:Nat) (h:k<8):(lastC v wd k).setIfInBounds k (.int .u8 (lastB v wd k))=lastC v wd (k+1):=by
 match k,h with
 |0,_|1,_|2,_|3,_|4,_|5,_|6,_|7,_=>simp [lastC,lastN]
theorem lastB_sum (v:Int) (k j:Nat) (h:j<k):lastB v k j=v/256^(k -1 -j)%256:=by
 unfold lastB
 rw [show (8 *((k:Int) -1 -(j:Int))).toNat=8 *(k -1 -j) from by omega,Int.pow_mul]
 rfl
set_option maxHeartbeats 400000 in
theorem last_any (v wd:Int) (w:World) (h1:1<=wd) (h2:wd<=8) (_hv0:0<=v) (_hv:v<18446744073709551616):
 Calls Tryz.prog 227 #[.int .u64 v,.int .i64 wd] w fun e w'=>e=.returned (.agg #[.int .u8 (lastN v wd wd.toNat 0),.int .u8 (lastN v wd wd.toNat 1),.int .u8 (lastN v wd wd.toNat 2),.int .u8 (lastN v wd wd.toNat 3),.int .u8 (lastN v wd wd.toNat 4),.int .u8 (lastN v wd wd.toNat 5),.int .u8 (lastN v wd wd.toNat 6),.int .u8 (lastN v wd wd.toNat 7)])/\w'=(w.alloc (.cells (lastC v wd wd.toNat) 139)).alloc (.cells (lastC v wd wd.toNat) 139):=by
 go_enter Tryz.func227,Tryz.ntmps227
 go_wp2
 go_loopw [8] (fun i wr=>∃k:Nat,k<=wd/\i=.int .i64 k/\wr=(w.alloc (Obj.cells
  #[Value.int IntKind.u8 0,Value.int IntKind.u8 0,Value.int IntKind.u8 0,Value.int IntKind.u8 0,
   Value.int IntKind.u8 0,Value.int IntKind.u8 0,Value.int IntKind.u8 0,Value.int IntKind.u8 0]
  139)).alloc (.cells (lastC v wd k) 139)) (fun i _=>(wd -intOf i).toNat)
 case atStart=>exact ⟨0,by omega,rfl,by rw [lastC_zero]⟩
 case round=>
  obtain ⟨k,hk,rfl,rfl⟩:=hrel
  by_cases hlt:k<wd
  ·have hg:=lastC_get v wd k k (by omega)
   go_wp2
   refine ⟨⟨k+1,by omega,by go_num,?_⟩,by simp [intOf];omega⟩
   have:=lastC_set v wd k (by omega)
   unfold lastB at this
   rw [this]
  ·obtain rfl:(k:Int)=wd:=by omega
   have g0:=lastC_get v k k 0 (by omega)
   have g1:=lastC_get v k k 1 (by omega)
   have g2:=lastC_get v k k 2 (by omega)
   have g3:=lastC_get v k k 3 (by omega)
   have g4:=lastC_get v k k 4 (by omega)
   have g5:=lastC_get v k k 5 (by omega)
   have g6:=lastC_get v k k 6 (by omega)
   have g7:=lastC_get v k k 7 (by omega)
   go_wp2
   exact bodyPost_ret (v:=.agg (lastC v k k)) (by simp [results,Tryz.results227,go_sem];rfl) rfl ⟨rfl,rfl⟩
set_option maxHeartbeats 400000 in
theorem isum_any (s:ByteArray) (wd:Int) (w:World) (hs:s.size<=maxLen) (h1:1<=wd) (h2:wd<=8):
 Calls Tryz.prog 199 #[.string s,.int .i64 wd] w fun e w'=>e=.returned (.string (sumText s.data.toList wd.toNat))/\Below w.heap.size w w':=by
 have hbd:=mixI_bd s.data.toList
 obtain ⟨n,rfl⟩:∃n:Nat,wd=n:=⟨wd.toNat,by omega⟩
 have hW:∀(W:World) (g:Nat),g=W.heap.size->Sem.run Tryz.prog (convert 143 9 (.slice (some ⟨g,0,none⟩) n 8)) (W.alloc (Obj.cells (lastC (mixI s.data.toList) n n) 139))=.ok (.string (sumText s.data.toList n)) (W.alloc (Obj.cells (lastC (mixI s.data.toList) n n) 139)):=fun W g hg=>hg▸
  run_convert_bytes_arg (P:=Tryz.prog) _ 143 5 Tryz.underlying143 Tryz.underlying5 W.heap.size 0 n 8 (sumNums (mixI s.data.toList) n) (sumNums_length _ n) (fun i hi=>by
   rw [Nat.zero_add,World.cell?_alloc_new,lastC_get _ _ _ _ (by omega)]
   simp only [List.getD,sumNums_get _ n i hi,Option.getD_some]
   unfold lastN
   rw [if_pos hi,lastB_sum _ _ _ hi]) 9 Tryz.underlying9
 have h0:(0:Int)<=n:=by omega
 unfold lastC at hW
 go_enter Tryz.func199,Tryz.ntmps199
 go_wp2_with (first
  |(go_at_call 228;refine (mix_any s _ hs).mono ?_;rintro e w' ⟨rfl,rfl⟩)
  |(go_at_call 227;refine (last_any _ _ _ h1 h2 hbd.1 hbd.2).mono ?_;rintro e w' ⟨rfl,rfl⟩)
  |go_in)
 go_ret
 refine ⟨rfl,?_⟩
 exact ((((Below.refl _ _).alloc (Nat.le_refl _) _).alloc (by simp) _).alloc (by simp;omega) _)
end Go.Proofs.YtpekbmegopfhfaaGreatDoor
namespace Go.Proofs.YtpekbmegopfhfaaGreatDoor
open Go.ChangeShapes Go.WideShapes Go.ChangeAt Go.RowKit
def nameByte (b:UInt8):Bool:=decide ((33:Int)<=(b.toNat:Int)/\(b.toNat:Int)<=126)
def nameBytes (s:ByteArray):Bool:=s.data.toList.all nameByte
def nameOk (s:ByteArray):Bool:=decide (1<=s.size/\s.size<=40)&&nameBytes s
theorem nameBytes_no {s:ByteArray} {k:Nat} (hk:k<s.size) (h:¬((33:Int)<=(s[k].toNat:Int)/\(s[k].toNat:Int)<=126)):nameBytes s=false:=by
 unfold nameBytes
 rw [List.all_eq_false]
 refine ⟨s[k],?_,by unfold nameByte;simpa using h⟩
 exact List.mem_of_getElem (l:=s.data.toList) (i:=k) (h:=by simpa using hk) rfl
theorem nameBytes_yes {s:ByteArray} (h:∀k (hk:k<s.size),(33:Int)<=(s[k].toNat:Int)/\(s[k].toNat:Int)<=126):nameBytes s=true:=by
 unfold nameBytes
 rw [List.all_eq_true]
 intro b hb
 obtain ⟨k,hk,rfl⟩:=List.getElem_of_mem hb
 exact decide_eq_true (h k (by simpa using hk))
def upTo (s:ByteArray) (k:Nat):Prop:=∀i (hi:i<s.size),i<k->(33:Int)<=(s[i].toNat:Int)/\(s[i].toNat:Int)<=126
theorem upTo_succ {s:ByteArray} {k:Nat} (h:upTo s k) (hk:k<s.size) (h1:(33:Int)<=(s[k].toNat:Int)) (h2:(s[k].toNat:Int)<=126):upTo s (k+1):=by
 intro i hi hik
 rcases Nat.lt_or_ge i k with h'|h'
 ·exact h i hi h'
 ·obtain rfl:i=k:=by omega
  exact ⟨h1,h2⟩
set_option maxHeartbeats 400000 in
theorem iName_any (s:ByteArray) (w:World) (hs:s.size<=maxLen):
 Calls Tryz.prog 222 #[.string s] w fun e w'=>e=.returned (.bool (nameOk s))/\w'=w:=by
 unfold maxLen at hs
 by_cases h1:1<=s.size
 ·by_cases h2:s.size<=40
  ·have h1':decide ((s.size:Int)<1)=false:=by simp;omega
   have h2':decide ((40:Int)<(s.size:Int))=false:=by simp;omega
   have hok:Hid (decide (1<=s.size/\s.size<=40)=true):=by show _=_;simp;omega
   go_enter Tryz.func222,Tryz.ntmps222
   go_wp2
   go_loop [14] (fun i=>∃k:Nat,k<=s.size/\i=.int .i64 k/\Hid (upTo s k)) (fun i=>s.size -(intOf i).toNat)
   case atStart=>exact ⟨0,Nat.zero_le _,rfl,fun i _ h=>by omega⟩
   case round=>
    obtain ⟨k,hk,rfl,hup⟩:=hrel
    by_cases hlt:k<s.size
    ·by_cases b1:(s[k].toNat:Int)<33
     ·have b1':decide ((s[k].toNat:Int)<33)=true:=by simpa using b1
      go_wp2
      go_ret
      exact ⟨ret_b (by unfold nameOk;rw [nameBytes_no hlt (by omega)];simp),rfl⟩
     ·have b1':decide ((s[k].toNat:Int)<33)=false:=by simpa using b1
      by_cases b2:(126:Int)<(s[k].toNat:Int)
      ·have b2':decide ((126:Int)<(s[k].toNat:Int))=true:=by simpa using b2
       go_wp2
       go_ret
       exact ⟨ret_b (by unfold nameOk;rw [nameBytes_no hlt (by omega)];simp),rfl⟩
      ·have b2':decide ((126:Int)<(s[k].toNat:Int))=false:=by simpa using b2
       have HU:Hid (upTo s (k+1)):=upTo_succ hup hlt (by omega) (by omega)
       go_wp2
       exact ⟨⟨k+1,by omega,by go_num,HU⟩,by simp [intOf];omega⟩
    ·have hall:=nameBytes_yes (s:=s) (fun i hi=>hup i hi (by omega))
     go_wp2
     go_ret
     exact ⟨ret_b (by unfold nameOk;rw [hall,hok.out];rfl),rfl⟩
  ·have h1':decide ((s.size:Int)<1)=false:=by simp;omega
   have h2':decide ((40:Int)<(s.size:Int))=true:=by simp;omega
   go_enter Tryz.func222,Tryz.ntmps222
   go_wp2
   go_ret
   exact ⟨ret_b (by unfold nameOk;rw [decide_eq_false (by omega)];rfl),rfl⟩
 ·have h1':decide ((s.size:Int)<1)=true:=by simp;omega
  go_enter Tryz.func222,Tryz.ntmps222
  go_wp2
  go_ret
  exact ⟨ret_b (by unfold nameOk;rw [decide_eq_false (by omega)];rfl),rfl⟩
set_option maxHeartbeats 400000 in
theorem sName_any (s:ByteArray) (w:World) (hs:s.size<=maxLen):
 Calls Tryz.prog 130 #[.string s] w fun e w'=>e=.returned (.bool (nameOk s))/\w'=w:=by
 unfold maxLen at hs
 go_enter Tryz.func130,Tryz.ntmps130
 go_wp2
 go_loop [3] (fun i=>∃k:Nat,k<=s.size/\i=.int .i64 k/\Hid (upTo s k)) (fun i=>s.size -(intOf i).toNat)
 case atStart=>exact ⟨0,Nat.zero_le _,rfl,fun i _ h=>by omega⟩
 case round=>
  obtain ⟨k,hk,rfl,hup⟩:=hrel
  by_cases hlt:k<s.size
  ·by_cases b1:(s[k].toNat:Int)<33
   ·have b1':decide ((s[k].toNat:Int)<33)=true:=by simpa using b1
    go_wp2
    go_ret
    exact ⟨ret_b (by unfold nameOk;rw [nameBytes_no hlt (by omega)];simp),rfl⟩
   ·have b1':decide ((s[k].toNat:Int)<33)=false:=by simpa using b1
    by_cases b2:(126:Int)<(s[k].toNat:Int)
    ·have b2':decide ((126:Int)<(s[k].toNat:Int))=true:=by simpa using b2
     go_wp2
     go_ret
     exact ⟨ret_b (by unfold nameOk;rw [nameBytes_no hlt (by omega)];simp),rfl⟩
    ·have b2':decide ((126:Int)<(s[k].toNat:Int))=false:=by simpa using b2
     have HU:Hid (upTo s (k+1)):=upTo_succ hup hlt (by omega) (by omega)
     go_wp2
     exact ⟨⟨k+1,by omega,by go_num,HU⟩,by simp [intOf];omega⟩
  ·have hall:=nameBytes_yes (s:=s) (fun i hi=>hup i hi (by omega))
   by_cases h1:1<=s.size
   ·go_wp2
    go_ret
    refine ⟨ret_b ?_,rfl⟩
    unfold nameOk
    rw [hall,Bool.and_true]
    simp [h1]
    omega
   ·have h1':decide ((1:Int)<=(s.size:Int))=false:=by simp;omega
    go_wp2
    go_ret
    exact ⟨ret_b (by unfold nameOk;rw [decide_eq_false (by omega)];rfl),rfl⟩
end Go.Proofs.YtpekbmegopfhfaaGreatDoor
namespace Go.Proofs.YtpekbmegopfhfaaGreatDoor
open Go.ChangeShapes Go.WideShapes Go.ChangeAt Go.RowKit
structure Kd where
 sum:ByteArray
 born:Int
 text:ByteArray
 refs:List ByteArray
structure Pd where
 name:ByteArray
 sum:ByteArray
structure Ld where
 num:Int
 sum:ByteArray
 til:Int
def KAt (w:World) (B:Nat) (b o:Nat) (k:Kd):Prop:=
 w.cell? ⟨b,o,none⟩=some (.string k.sum)/\w.cell? ⟨b,o+1,none⟩=some (.int .i64 k.born)/\w.cell? ⟨b,o+2,none⟩=some (.string k.text)/\
  ∃ra rc,w.cell? ⟨b,o+3,none⟩=some (.slice ra k.refs.length rc)/\SRow w B ra k.refs
def KRow (w:World) (B:Nat) (a:Option Addr) (ks:List Kd):Prop:=
 ks=[]∨∃b off,a=some ⟨b,off,none⟩/\b<B/\∀i k,ks[i]?=some k->KAt w B b (off+i *4) k
def PRow (w:World) (B:Nat) (a:Option Addr) (ps:List Pd):Prop:=
 ps=[]∨∃b off,a=some ⟨b,off,none⟩/\b<B/\∀i p,ps[i]?=some p->w.cell? ⟨b,off+i *2,none⟩=some (.string p.name)/\w.cell? ⟨b,off+i *2+1,none⟩=some (.string p.sum)
def LRow (w:World) (B:Nat) (a:Option Addr) (ls:List Ld):Prop:=
 ls=[]∨∃b off,a=some ⟨b,off,none⟩/\b<B/\∀i l,ls[i]?=some l->w.cell? ⟨b,off+i *3,none⟩=some (.int .i64 l.num)/\w.cell? ⟨b,off+i *3+1,none⟩=some (.string l.sum)/\w.cell? ⟨b,off+i *3+2,none⟩=some (.int .i64 l.til)
theorem KAt.below {w w':World} {B b o:Nat} {k:Kd} (h:KAt w B b o k) (hb:Below B w w') (hlt:b<B):KAt w' B b o k:=by
 obtain ⟨h1,h2,h3,ra,rc,h4,h5⟩:=h
 exact ⟨(hb.cell (p:=⟨b,o,none⟩) hlt).trans h1,(hb.cell (p:=⟨b,o+1,none⟩) hlt).trans h2,(hb.cell (p:=⟨b,o+2,none⟩) hlt).trans h3,ra,rc,(hb.cell (p:=⟨b,o+3,none⟩) hlt).trans h4,h5.below hb⟩
theorem KAt.mono {w:World} {B B' b o:Nat} {k:Kd} (h:KAt w B b o k) (hb:B<=B'):KAt w B' b o k:=by
 obtain ⟨h1,h2,h3,ra,rc,h4,h5⟩:=h
 exact ⟨h1,h2,h3,ra,rc,h4,h5.mono hb⟩
theorem KRow.below {w w':World} {B:Nat} {a:Option Addr} {ks:List Kd} (h:KRow w B a ks) (hb:Below B w w'):KRow w' B a ks:=by
 rcases h with h|⟨b,off,ha,hlt,hc⟩
 ·exact .inl h
 ·exact .inr ⟨b,off,ha,hlt,fun i k hk=>(hc i k hk).below hb hlt⟩
theorem KRow.mono {w:World} {B B':Nat} {a:Option Addr} {ks:List Kd} (h:KRow w B a ks) (hb:B<=B'):KRow w B' a ks:=by
 rcases h with h|⟨b,off,ha,hlt,hc⟩
 ·exact .inl h
 ·exact .inr ⟨b,off,ha,by omega,fun i k hk=>(hc i k hk).mono hb⟩
theorem KRow.at {w:World} {B:Nat} {a:Option Addr} {ks:List Kd} (h:KRow w B a ks) {i:Nat} (hi:i<ks.length):
 ∃b off,a=some ⟨b,off,none⟩/\b<B/\∀i k,ks[i]?=some k->KAt w B b (off+i *4) k:=by
 rcases h with h|h
 ·subst h;simp at hi
 ·exact h
theorem PRow.below {w w':World} {B:Nat} {a:Option Addr} {ps:List Pd} (h:PRow w B a ps) (hb:Below B w w'):PRow w' B a ps:=by
 rcases h with h|⟨b,off,ha,hlt,hc⟩
 ·exact .inl h
 ·exact .inr ⟨b,off,ha,hlt,fun i k hk=>⟨(hb.cell (p:=⟨b,off+i *2,none⟩) hlt).trans (hc i k hk).1,(hb.cell (p:=⟨b,off+i *2+1,none⟩) hlt).trans (hc i k hk).2⟩⟩
theorem PRow.mono {w:World} {B B':Nat} {a:Option Addr} {ps:List Pd} (h:PRow w B a ps) (hb:B<=B'):PRow w B' a ps:=by
 rcases h with h|⟨b,off,ha,hlt,hc⟩
 ·exact .inl h
 ·exact .inr ⟨b,off,ha,by omega,hc⟩
theorem PRow.at {w:World} {B:Nat} {a:Option Addr} {ps:List Pd} (h:PRow w B a ps) {i:Nat} (hi:i<ps.length):
 ∃b off,a=some ⟨b,off,none⟩/\b<B/\∀i p,ps[i]?=some p->w.cell? ⟨b,off+i *2,none⟩=some (.string p.name)/\w.cell? ⟨b,off+i *2+1,none⟩=some (.string p.sum):=by
 rcases h with h|h
 ·subst h;simp at hi
 ·exact h
theorem LRow.below {w w':World} {B:Nat} {a:Option Addr} {ls:List Ld} (h:LRow w B a ls) (hb:Below B w w'):LRow w' B a ls:=by
 rcases h with h|⟨b,off,ha,hlt,hc⟩
 ·exact .inl h
 ·exact .inr ⟨b,off,ha,hlt,fun i k hk=>⟨(hb.cell (p:=⟨b,off+i *3,none⟩) hlt).trans (hc i k hk).1,(hb.cell (p:=⟨b,off+i *3+1,none⟩) hlt).trans (hc i k hk).2.1,(hb.cell (p:=⟨b,off+i *3+2,none⟩) hlt).trans (hc i k hk).2.2⟩⟩
theorem LRow.mono {w:World} {B B':Nat} {a:Option Addr} {ls:List Ld} (h:LRow w B a ls) (hb:B<=B'):LRow w B' a ls:=by
 rcases h with h|⟨b,off,ha,hlt,hc⟩
 ·exact .inl h
 ·exact .inr ⟨b,off,ha,by omega,hc⟩
theorem LRow.at {w:World} {B:Nat} {a:Option Addr} {ls:List Ld} (h:LRow w B a ls) {i:Nat} (hi:i<ls.length):
 ∃b off,a=some ⟨b,off,none⟩/\b<B/\∀i l,ls[i]?=some l->w.cell? ⟨b,off+i *3,none⟩=some (.int .i64 l.num)/\w.cell? ⟨b,off+i *3+1,none⟩=some (.string l.sum)/\w.cell? ⟨b,off+i *3+2,none⟩=some (.int .i64 l.til):=by
 rcases h with h|h
 ·subst h;simp at hi
 ·exact h
structure KFit (ks:List Kd):Prop where
 len:ks.length<=1048576
 refs:∀k∈ks,k.refs.length<=1048576
 text:∀k∈ks,k.text.size<=maxLen
 sum:∀k∈ks,k.sum.size<=maxLen
def less (a b:ByteArray):Bool:=Op.bytesLess a.toList b.toList
def sumOf (k:Kd) (wd:Int):ByteArray:=sumText (formTxt k.text k.refs wd).data.toList wd.toNat
structure NumsOk (wd now given births:Int):Prop where
 wd1:1<=wd
 wd2:wd<=8
 now1:0<=now
 now2:now<=1000000000
 given1:0<=given
 given2:given<=1000000000
 births1:0<=births
 births2:births<=1000000000
structure ThAt (wd:Int) (ks:List Kd) (i:Nat) (k:Kd):Prop where
 ok:okThing k.text k.refs wd=true
 sum:k.sum=sumOf k wd
 up:∀j p,i=j+1->ks[j]?=some p->less p.sum k.sum=true
structure BornAt (births:Int) (ks:List Kd) (i:Nat) (k:Kd):Prop where
 lo:1<=k.born
 hi:k.born<=births
 new:∀j p,j<i->ks[j]?=some p->p.born≠k.born
def There (ks:List Kd) (s:ByteArray):Prop:=∃u∈ks,u.sum=s
def RefAt (ks:List Kd) (k:Kd):Prop:=∀r∈k.refs,∃u∈ks,u.sum=r/\u.born<k.born
structure PinAt (ks:List Kd) (ps:List Pd) (i:Nat) (p:Pd):Prop where
 name:nameOk p.name=true
 up:∀j q,i=j+1->ps[j]?=some q->less q.name p.name=true
 sum:There ks p.sum
structure LeaseAt (now given:Int) (ks:List Kd) (ls:List Ld) (i:Nat) (l:Ld):Prop where
 lo:1<=l.num
 hi:l.num<=given
 up:∀j q,i=j+1->ls[j]?=some q->q.num<l.num
 sum:There ks l.sum
 til1:now<l.til
 til2:l.til<=now+100000
structure StateOk (wd now given births:Int) (ks:List Kd) (ps:List Pd) (ls:List Ld):Prop where
 nums:NumsOk wd now given births
 nth:ks.length<=600
 np:ps.length<=100
 nl:ls.length<=200
 th:∀(i:Nat) k,ks[i]?=some k->ThAt wd ks i k
 born:∀(i:Nat) k,ks[i]?=some k->BornAt births ks i k
 ref:∀(i:Nat) k,ks[i]?=some k->RefAt ks k
 pin:∀(i:Nat) p,ps[i]?=some p->PinAt ks ps i p
 lease:∀(i:Nat) l,ls[i]?=some l->LeaseAt now given ks ls i l
def findK (ks:List Kd) (s:ByteArray):Option Kd:=ks.find? (fun k=>decide (k.sum=s))
end Go.Proofs.YtpekbmegopfhfaaGreatDoor
namespace Go.Proofs.YtpekbmegopfhfaaGreatDoor
open Go.ChangeShapes Go.WideShapes Go.ChangeAt Go.RowKit
theorem oneS (ss:List ByteArray):∀u∈ss.map Value.string,u.oneCell'=true:=fun u hu=>by obtain ⟨s,_,rfl⟩:=List.mem_map.1 hu;rfl
end Go.Proofs.YtpekbmegopfhfaaGreatDoor
namespace Go.Proofs.YtpekbmegopfhfaaGreatDoor
open Go.ChangeShapes Go.WideShapes Go.ChangeAt Go.RowKit
end Go.Proofs.YtpekbmegopfhfaaGreatDoor
