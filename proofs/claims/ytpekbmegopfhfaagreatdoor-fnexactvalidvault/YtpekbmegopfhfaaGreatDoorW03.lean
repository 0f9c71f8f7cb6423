import Derived.Test.YtpekbmegopfhfaaGreatDoorW02
import Derived.Laws.CopyRow
import Derived.Maps.OwnSet
import Derived.DeepKeys5
import Derived.Deep.Upon
namespace Go.Proofs.YtpekbmegopfhfaaGreatDoor
open Go.ChangeShapes Go.WideShapes Go.ChangeAt Go.RowKit
def kB (s:ByteArray) (i:Nat):Int:=((s.data.toList[i]?).getD 0).toNat
def keyA (s:ByteArray):Array Value:= #[.int .u8 (kB s 0),.int .u8 (kB s 1),.int .u8 (kB s 2),.int .u8 (kB s 3),.int .u8 (kB s 4),.int .u8 (kB s 5),.int .u8 (kB s 6),.int .u8 (kB s 7)]
def zero8:Array Value:= #[.int .u8 0,.int .u8 0,.int .u8 0,.int .u8 0,.int .u8 0,.int .u8 0,.int .u8 0,.int .u8 0]
def cpy (s:ByteArray):List Value:=List.take (Nat.min s.size 8) (List.map (fun b=>Value.int .u8 b.toNat) s.data.toList)
theorem data_length (s:ByteArray):s.data.toList.length=s.size:=by simp
theorem cpy_length (s:ByteArray):(cpy s).length=min s.size 8:=by
 have:=data_length s
 simp only [cpy,List.length_take,List.length_map,this]
 show min (min s.size 8) s.size=_
 omega
theorem cpy_get (s:ByteArray) (i:Nat) (h:i<min s.size 8):(cpy s)[i]?=some (.int .u8 (kB s i)):=by
 have hs:=data_length s
 unfold cpy kB
 rw [List.getElem?_take_of_lt (by show i<min s.size 8;exact h),List.getElem?_map,List.getElem?_eq_getElem (by omega)]
 simp
theorem cpy_all (s:ByteArray):(zero8.toList.take (0+0)++cpy s++zero8.toList.drop (0+0+(cpy s).length)).toArray=keyA s:=by
 apply Array.ext'
 apply List.ext_getElem?
 intro i
 have hl:=cpy_length s
 simp only [Nat.add_zero,List.take_zero,List.nil_append,Nat.zero_add]
 by_cases h:i<min s.size 8
 ·rw [List.getElem?_append_left (by omega),cpy_get s i h]
  have h8:i<8:=by omega
  match i,h8 with
  |0,_|1,_|2,_|3,_|4,_|5,_|6,_|7,_=>rfl
 ·rw [List.getElem?_append_right (by omega),hl,List.getElem?_drop,show min s.size 8+(i -min s.size 8)=i from by omega]
  by_cases h8:i<8
  ·have hk:kB s i=0:=by
    have hd:=data_length s
    unfold kB
    rw [List.getElem?_eq_none (by omega)]
    rfl
   match i,h8,hk with
   |0,_,hk|1,_,hk|2,_,hk|3,_,hk|4,_,hk|5,_,hk|6,_,hk|7,_,hk=>simp [zero8,keyA,hk]
  ·rw [List.getElem?_eq_none (by simp [zero8];omega),List.getElem?_eq_none (by simp [keyA];omega)]
theorem setRow_alloc (w:World) (a b:Array Value) (t:TypeId):(w.alloc (.cells a t)).setRow w.heap.size b=w.alloc (.cells b t):=by
 unfold World.setRow World.alloc
 congr 1
 apply Array.ext
 ·simp
 ·intro i h1 h2
  simp only [Array.getElem_modify,Array.getElem_push]
  split
  ·rename_i h
   subst h
   simp
  ·rename_i h
   simp at h2
   rw [dif_pos (by omega),dif_pos (by omega)]
theorem run_copy_key (w:World) (s:ByteArray) (ty:TypeId):
 (Builtin.copy_ #[143,9] ty #[.slice (some ⟨w.heap.size,0,none⟩) 8 8,.string s]).run Tryz.prog (w.alloc (.cells zero8 139))=.ok (goInt (Nat.min s.size 8)) (w.alloc (.cells (keyA s) 139)):=by
 obtain ⟨i0,hi,hz0,hz1,hz2⟩:=info_parts Tryz.infoByteF
 have hst:=run_storeCells_at (P:=Tryz.prog) w.heap.size 0 139 (cpy s) 0 zero8 (w.alloc (.cells zero8 139)) (heap_alloc_new w _) (by rw [cpy_length];simp [zero8];omega) (fun v hv=>by
  have hv:=List.mem_of_mem_take hv
  simp only [List.mem_map] at hv
  obtain ⟨_,_,rfl⟩:=hv
  rfl)
 rw [cpy_all,setRow_alloc] at hst
 unfold cpy at hst
 simp [Builtin.copy_,run_underlying Tryz.underlying143,Builtin.lenOf,Builtin.firstCells,sizeOf,typeInfo,hi,hst,Result.andThen]
def keyV (s:ByteArray):Value:=.agg (keyA s)
set_option maxRecDepth 20000 in
set_option maxHeartbeats 400000 in
theorem key_any (s:ByteArray) (w:World):
 Calls Tryz.prog 135 #[.string s] w fun e w'=>e=.returned (keyV s)/\Below w.heap.size w w':=by
 have hcp:∀ty,(Builtin.copy_ #[143,9] ty #[.slice (some ⟨w.heap.size+1,0,none⟩) 8 8,.string s]).run Tryz.prog ((w.alloc (.cells zero8 139)).alloc (.cells zero8 139))=.ok (goInt (Nat.min s.size 8)) ((w.alloc (.cells zero8 139)).alloc (.cells (keyA s) 139)):=fun ty=>by
  have:=run_copy_key (w.alloc (.cells zero8 139)) s ty
  rwa [show (w.alloc (.cells zero8 139)).heap.size=w.heap.size+1 from by simp] at this
 unfold keyA zero8 at hcp
 go_enter Tryz.func135,Tryz.ntmps135
 go_wp2
 refine bodyPost_ret (v:=keyV s) (by simp [results,Tryz.results135,go_sem,keyV,keyA]) rfl ⟨rfl,?_⟩
 exact ((Below.refl _ _).alloc (Nat.le_refl _) _).alloc (by simp) _
theorem kB_bd (s:ByteArray) (i:Nat):0<=kB s i/\kB s i<256:=by
 unfold kB
 have:=((s.data.toList[i]?).getD 0).toNat_lt
 omega
theorem kB_wf (s:ByteArray) (i:Nat):(Lit.int .u8 (kB s i)).wf=true:=by
 have:=kB_bd s i
 have e1:IntKind.u8.min=0:=by decide
 have e2:IntKind.u8.max=255:=by decide
 simp only [Lit.wf,e1,e2,Bool.and_eq_true,decide_eq_true_eq]
 omega
theorem keyT:Tryz.prog.keyType 139=true:=by kernel_rfl
theorem keyC8:Tryz.prog.cellsOf 139=8:=by kernel_rfl
theorem keyC1:Tryz.prog.cellsOf 5=1:=by kernel_rfl
theorem keyU:Tryz.prog.underlying 139=some (.array 8 5):=by kernel_rfl
theorem typesN:∃n,Tryz.prog.types.size=n+1:=⟨Tryz.prog.types.size -1,by kernel_rfl⟩
theorem key_some (s:ByteArray):∃l,keyOf Tryz.prog 139 (keyV s)=some l:=by
 obtain ⟨n,hn⟩:=typesN
 unfold keyOf
 rw [keyU,hn]
 simp only [keyT,keyV,Value.formed,keyU,keyC8,keyA]
 simp [Value.cells,Program.keyLits,keyC8,keyC1,List.range_succ,kB_wf]
noncomputable def keyL (s:ByteArray):Lit:=(key_some s).choose
theorem key_lit (s:ByteArray):keyOf Tryz.prog 139 (keyV s)=some (keyL s):=(key_some s).choose_spec
theorem laidP:laidOutB Tryz.prog=true:=by kernel_rfl
theorem keyed:Maps.Keyed Tryz.prog 139:=Maps.Keyed.of_law (deep_law_gate laidP (of_decide_eq_true (by kernel_rfl)) (of_decide_eq_true (by kernel_rfl)) keyT (by rw [keyU]))
theorem key_inj {s t:ByteArray} (h:keyL s=keyL t) (he:s.size=t.size) (h8:s.size<=8):s=t:=by
 have h2:=key_lit t
 rw [←h] at h2
 have hv:keyV s=keyV t:=keyed.inj (key_lit s) h2
 clear h2 h
 have hk:∀i,i<8->kB s i=kB t i:=by
  simp only [keyV,keyA,Value.agg.injEq,Array.mk.injEq,List.cons.injEq,Value.int.injEq,true_and,and_true] at hv
  obtain ⟨e0,e1,e2,e3,e4,e5,e6,e7⟩:=hv
  intro i hi
  match i,hi with
  |0,_=>exact e0
  |1,_=>exact e1
  |2,_=>exact e2
  |3,_=>exact e3
  |4,_=>exact e4
  |5,_=>exact e5
  |6,_=>exact e6
  |7,_=>exact e7
 have hs:=data_length s
 have ht:=data_length t
 have hl:s.data.toList=t.data.toList:=by
  apply List.ext_getElem?
  intro i
  by_cases hi:i<s.size
  ·have:=hk i (by omega)
   unfold kB at this
   rw [List.getElem?_eq_getElem (by omega),List.getElem?_eq_getElem (by omega)] at this ⊢
   simp only [Option.getD_some] at this
   congr 1
   exact UInt8.toNat_inj.1 (by omega)
  ·rw [List.getElem?_eq_none (by omega),List.getElem?_eq_none (by omega)]
 cases s;cases t
 simp only [Array.toList_inj] at hl
 rw [hl]
open Classical in
noncomputable def upd (f:Lit->Option Value) (kl:Lit) (v:Value):Lit->Option Value:=fun x=>if x=kl then some v else f x
theorem upd_same (f:Lit->Option Value) (kl:Lit) (v:Value):upd f kl v kl=some v:=by simp [upd]
theorem upd_other (f:Lit->Option Value) {kl x:Lit} (v:Value) (h:x≠kl):upd f kl v x=f x:=by simp [upd,h]
def heldR (v:Value):Option (DataW Value×List MemPlace):=some (.held v,[])
def KMap (w:World) (K:TypeId) (b n:Nat) (f:Lit->Option Value):Prop:=
 ∃D:DataW Value,w.ownsMap Tryz.prog K heldR b n D/\(∀kl z,D.atKey kl (.held z)=.held ((f kl).getD z))/\∀kl,Maps.has D kl=(f kl).isSome
theorem KMap.new (w:World) (K:TypeId):KMap (w.alloc (.map #[] 0)) K w.heap.size 0 (fun _=>none):=
 ⟨.map [],World.ownsMap_made _ _ _ _,fun _ _=>rfl,fun _=>rfl⟩
theorem KMap.keep {w w':World} {K:TypeId} {b n:Nat} {f:Lit->Option Value} (h:KMap w K b n f) {B:Nat} (hb:Below B w w') (hB:b<B):KMap w' K b n f:=by
 obtain ⟨D,⟨es,clock,h1,h2⟩,h3⟩:=h
 exact ⟨D,⟨es,clock,(hb.block b hB).trans h1,h2⟩,h3⟩
theorem KMap.lt {w:World} {K:TypeId} {b n:Nat} {f:Lit->Option Value} (h:KMap w K b n f):b<w.heap.size:=h.choose_spec.1.lt
theorem KMap.put {w:World} {K t e:TypeId} {b n:Nat} {f:Lit->Option Value} (h:KMap w K b n f) (hK:Maps.Keyed Tryz.prog K) (ht:Tryz.prog.underlying t=some (.map K e)) (hn:n<maxLen) {key val:Value} {kl:Lit} (hkey:keyOf Tryz.prog K key=some kl):
 ∃w',(Instr.mapUpdate t (.map (some b)) key val).run Tryz.prog w=.ok () w'/\KMap w' K b (n+1) (upd f kl val)/\w.grownBy w' (some b):=by
 obtain ⟨D,h1,h2,h3⟩:=h
 obtain ⟨w',hr,ho,hg⟩:=h1.update hK ht hn hkey (d:=.held val) (ps:=[]) (val:=val) rfl
 have hm:=h1.isMap
 have hik:=hK.key hkey
 refine ⟨w',hr,⟨_,ho,fun x z=> ?_,fun x=> ?_⟩,hg⟩
 ·by_cases hx:x=kl
  ·subst hx;rw [Maps.atKey_put_same hm hik,upd_same];rfl
  ·rw [Maps.atKey_put_other hx,upd_other _ _ hx];exact h2 x z
 ·by_cases hx:x=kl
  ·subst hx;rw [Maps.has_put_same hm hik,upd_same];rfl
  ·rw [Maps.has_put_other hx,upd_other _ _ hx];exact h3 x
theorem KMap.look {w:World} {K t e:TypeId} {b n:Nat} {f:Lit->Option Value} (h:KMap w K b n f) (hK:Maps.Keyed Tryz.prog K) (ht:Tryz.prog.underlying t=some (.map K e)) {z:Value} (hz:(zeroValue e).run Tryz.prog w=.ok z w) {key:Value} {kl:Lit} (hkey:keyOf Tryz.prog K key=some kl):
 (Instr.lookup t (.map (some b)) key false).run Tryz.prog w=.ok ((f kl).getD z) w:=by
 obtain ⟨D,h1,h2,_⟩:=h
 obtain ⟨v,ps,hr,hv⟩:=h1.lookup hK ht hz (zd:=.held z) (zp:=[]) rfl hkey
 rw [h2] at hv
 simp only [heldR,Option.some.injEq,Prod.mk.injEq,DataW.held.injEq] at hv
 rw [hr,hv.1]
theorem KMap.look_ok {w:World} {K t e:TypeId} {b n:Nat} {f:Lit->Option Value} (h:KMap w K b n f) (hK:Maps.Keyed Tryz.prog K) (ht:Tryz.prog.underlying t=some (.map K e)) {z:Value} (hz:(zeroValue e).run Tryz.prog w=.ok z w) {key:Value} {kl:Lit} (hkey:keyOf Tryz.prog K key=some kl):
 (Instr.lookup t (.map (some b)) key true).run Tryz.prog w=.ok (.tuple #[(f kl).getD z,.bool (f kl).isSome]) w:=by
 obtain ⟨D,h1,h2,h3⟩:=h
 obtain ⟨v,ps,hr,hv⟩:=h1.look_ok hK ht hz (zd:=.held z) (zp:=[]) rfl hkey
 rw [h2] at hv
 simp only [heldR,Option.some.injEq,Prod.mk.injEq,DataW.held.injEq] at hv
 rw [hr,hv.1,h3]
end Go.Proofs.YtpekbmegopfhfaaGreatDoor
namespace Go.Proofs.YtpekbmegopfhfaaGreatDoor
open Go.ChangeShapes Go.WideShapes Go.ChangeAt Go.RowKit
def kCells (s:ByteArray):List Value:=(keyA s).toList
theorem kCells_get (s:ByteArray) (j:Nat) (h:j<8):(kCells s)[j]?=some (.int .u8 (kB s j)):=by
 match j,h with
 |0,_|1,_|2,_|3,_|4,_|5,_|6,_|7,_=>rfl
def cells8 (ss:List ByteArray):List Value:=ss.flatMap kCells
theorem cells8_len (ss:List ByteArray):(cells8 ss).length=ss.length *8:=by
 induction ss with
 |nil=>rfl
 |cons s ss ih=>
  have:(kCells s).length=8:=rfl
  unfold cells8 at *
  rw [List.flatMap_cons,List.length_append,ih,List.length_cons,this]
  omega
theorem cells8_get {ss:List ByteArray} {i j:Nat} {s:ByteArray} (h:ss[i]?=some s) (hj:j<8):(cells8 ss)[i *8+j]?=some (.int .u8 (kB s j)):=by
 induction ss generalizing i with
 |nil=>simp at h
 |cons t ss ih=>
  have h8:(kCells t).length=8:=rfl
  unfold cells8 at *
  rw [List.flatMap_cons]
  cases i with
  |zero=>
   simp at h
   subst h
   rw [List.getElem?_append_left (by omega),Nat.zero_mul,Nat.zero_add]
   exact kCells_get t j hj
  |succ i=>
   rw [List.getElem?_append_right (by omega),h8,show (i+1) *8+j -8=i *8+j by omega]
   exact ih (by simpa using h)
theorem cells8_inv {ss:List ByteArray} {k:Nat} {u:Value} (h:(cells8 ss)[k]?=some u):∃s,ss[k/8]?=some s/\u=.int .u8 (kB s (k%8)):=by
 have hk:k<ss.length *8:=by rw [←cells8_len];exact (List.getElem?_eq_some_iff.1 h).1
 have hi:k/8<ss.length:=by omega
 refine ⟨ss[k/8],List.getElem?_eq_getElem hi,?_⟩
 have:=cells8_get (j:=k%8) (List.getElem?_eq_getElem hi) (Nat.mod_lt _ (by decide))
 rw [show k/8 *8+k%8=k by omega,h] at this
 exact Option.some.inj this
theorem cells8_append (a b:List ByteArray):cells8 (a++b)=cells8 a++cells8 b:=by unfold cells8;rw [List.flatMap_append]
theorem cells8_one (ss:List ByteArray):∀u∈cells8 ss,u.oneCell'=true:=by
 intro u hu
 obtain ⟨k,hk⟩:=List.getElem?_of_mem hu
 obtain ⟨s,_,rfl⟩:=cells8_inv hk
 rfl
def R8 (w:World) (B:Nat) (v:Value) (ss:List ByteArray):Prop:=
 (v=.slice none 0 0/\ss=[])∨∃g off cap,v=.slice (some ⟨g,off,none⟩) ss.length cap/\g<B/\∀i s,ss[i]?=some s->∀j,j<8->w.cell? ⟨g,off+(i *8+j),none⟩=some (.int .u8 (kB s j))
def KBlk (w:World) (g:Nat):Prop:=∃cur fz,w.heap[g]?=some (.cells cur 139 fz)
def QRow (w:World) (base:Nat) (v:Value) (ss:List ByteArray):Prop:=
 (v=.slice none 0 0/\ss=[])∨∃g off cap,v=.slice (some ⟨g,off,none⟩) ss.length cap/\base<=g/\KBlk w g/\ss.length<=cap/\cap<=maxLen/\
   (∀j,j<cap *8->(w.cell? ⟨g,off+j,none⟩).isSome=true/\w.frozen? ⟨g,off+j,none⟩=false)/\
   ∀i s,ss[i]?=some s->∀j,j<8->w.cell? ⟨g,off+(i *8+j),none⟩=some (.int .u8 (kB s j))
def sBlk:Value->Option Nat
 |.slice (some a) _ _=>some a.block
 |_=>none
theorem R8.cells {w:World} {g off:Nat} {ss:List ByteArray} (hc:∀i s,ss[i]?=some s->∀j,j<8->w.cell? ⟨g,off+(i *8+j),none⟩=some (.int .u8 (kB s j))):∀j u,(cells8 ss)[j]?=some u->w.cell? ((⟨g,off,none⟩:Addr).add j)=some u:=by
 intro j u hu
 obtain ⟨s,hs,rfl⟩:=cells8_inv hu
 have:=hc _ s hs (j%8) (Nat.mod_lt _ (by decide))
 rw [show j/8 *8+j%8=j by omega] at this
 rw [Go.WideShapes.add_plain]
 exact this
theorem Tryz.infoKey:(Tryz.prog.info? 139).map (fun i=>(i.zero,i.size,i.bytes))=some (some (.agg #[.int .u8 0,.int .u8 0,.int .u8 0,.int .u8 0,.int .u8 0,.int .u8 0,.int .u8 0,.int .u8 0]),8,8):=by kernel_rfl
theorem wpList_append_run {P:Program} {w:World} {ops:Array Oper} {rest:List Oper} {o:Oper} {a:Act} {Q:Exit->Act->World->Prop} (hgd:o.guard=none) (s x:Operand) (t u:TypeId)
 (ho:o.op=.call {callee:=.builtin .append,args:= #[s,x],argTypes:= #[t,u]}) {v xv v':Value} {w':World} (hs:a.eval s=v) (hx:a.eval x=xv)
 (hr:(Builtin.append_ #[t,u] o.type #[v,xv]).run P w=.ok v' w') (h:wpList P ops Q rest (a.put o.dst v') w'):wpList P ops Q (o::rest) a w:=by
 refine wpList_plain hgd fun K hK=> ?_
 unfold Oper.wp execOp
 simp only [ho,resolve,invoke,builtin,Sem.run_bind,Sem.run_pure,Result.andThen_ok,List.map_toArray,List.map_cons,List.map_nil,hs,hx,hr]
 exact hK _ _ h
theorem step_append_run {P:Program} {w:World} {ops:Array Oper} {o:Oper} {a:Act} {K:Act->World->Prop} {Q:Exit->Act->World->Prop} {E:Prop} (hgd:o.guard=none) (s x:Operand) (t u:TypeId)
 (ho:o.op=.call {callee:=.builtin .append,args:= #[s,x],argTypes:= #[t,u]}) {v xv v':Value} {w':World} (hs:a.eval s=v) (hx:a.eval x=xv)
 (hr:(Builtin.append_ #[t,u] o.type #[v,xv]).run P w=.ok v' w') (h:K (a.put o.dst v') w'):
 if Region.wanted o (yielded ops a.tmps)=true then Oper.wp P o a w K Q else E:=by
 have hw:Region.wanted o (yielded ops a.tmps)=true:=by simp [Region.wanted,hgd]
 rw [if_pos hw]
 unfold Oper.wp execOp
 simp only [ho,resolve,invoke,builtin,Sem.run_bind,Sem.run_pure,Result.andThen_ok,List.map_toArray,List.map_cons,List.map_nil,hs,hx,hr]
 exact h
end Go.Proofs.YtpekbmegopfhfaaGreatDoor
namespace Go.Proofs.YtpekbmegopfhfaaGreatDoor
open Go.ChangeShapes Go.WideShapes Go.ChangeAt Go.RowKit
theorem szThing_any (t:ByteArray) (a:Option Addr) (cap:Nat) (ss:List ByteArray) (left:Int) (w:World) (hrow:SRow w w.heap.size a ss)
 (ht:t.size<=maxLen) (hl:ss.length<=maxLen) (hs:∀s∈ss,s.size<=maxLen) (h1:0<=left) (h2:left<=1048576):
 Calls Tryz.prog 175 #[.agg #[.string t,.slice a ss.length cap],.int .i64 left] w fun e w'=>∃r:Int,e=.returned (.int .i64 r)/\Below w.heap.size w w'/\r<=left/\(0<=r->ss.length<=1048576):=by
 by_cases hfit:(t.size:Int)+ss.length+bulk ss<=left
 ·refine (szThing_yes t a cap ss left w hrow h2 hfit).mono ?_
  rintro e w' ⟨rfl,hb⟩
  exact ⟨_,rfl,hb,by omega,fun _=>by omega⟩
 ·refine (szThing_no t a cap ss left w hrow ht hl hs h1 h2 (by omega)).mono ?_
  rintro e w' ⟨rfl,hb⟩
  exact ⟨_,rfl,hb,by omega,fun h=>by omega⟩
set_option maxHeartbeats 400000 in
theorem szKept_any (k:Kd) (a:Option Addr) (cap:Nat) (left:Int) (w:World) (hrow:SRow w w.heap.size a k.refs)
 (h0:k.sum.size<=maxLen) (ht:k.text.size<=maxLen) (hl:k.refs.length<=maxLen) (hs:∀s∈k.refs,s.size<=maxLen) (h1:0<=left) (h2:left<=1048576):
 Calls Tryz.prog 143 #[.agg #[.string k.sum,.int .i64 k.born,.string k.text,.slice a k.refs.length cap],.int .i64 left] w fun e w'=>∃r:Int,e=.returned (.int .i64 r)/\Below w.heap.size w w'/\r<=left/\(0<=r->k.refs.length<=1048576):=by
 have hb:Below w.heap.size w (w.alloc (.cells #[.string k.sum,.int .i64 k.born,.string k.text,.slice a k.refs.length cap] 194)):=(Below.refl _ _).alloc (Nat.le_refl _) _
 have h0':=h0
 unfold maxLen at h0'
 by_cases hn:left<k.sum.size
 ·go_enter Tryz.func143,Tryz.ntmps143
  go_wp2
  go_ret
  exact ⟨_,rfl,hb,by omega,fun h=>by omega⟩
 ·go_enter Tryz.func143,Tryz.ntmps143
  go_wp2_with fail
  refine (szThing_any k.text a cap k.refs _ _ (hrow.below' hb) ht hl hs (by omega) (by omega)).mono ?_
  rintro e w1 ⟨r,rfl,hb1,hr,hf⟩
  have hB:=hb.trans (hb1.mono (by simp))
  by_cases h3:r<0
  ·go_wp2
   go_ret
   exact ⟨_,rfl,hB,by omega,fun h=>by omega⟩
  ·go_wp2
   go_ret
   exact ⟨_,rfl,hB,by omega,fun h=>hf (by omega)⟩
structure KMem (ks:List Kd):Prop where
 len:ks.length<=maxLen
 sum:∀k∈ks,k.sum.size<=maxLen
 text:∀k∈ks,k.text.size<=maxLen
 refs:∀k∈ks,k.refs.length<=maxLen
 ref:∀k∈ks,∀s∈k.refs,s.size<=maxLen
set_option maxHeartbeats 400000 in
theorem szKeptS_any (a:Option Addr) (cap:Nat) (ks:List Kd) (left:Int) (w:World) (hrow:KRow w w.heap.size a ks) (hm:KMem ks) (h1:0<=left) (h2:left<=1048576):
 Calls Tryz.prog 111 #[.slice a ks.length cap,.int .i64 left] w fun e w'=>∃r:Int,e=.returned (.int .i64 r)/\Below w.heap.size w w'/\r<=left/\(0<=r->ks.length<=1048576/\∀k∈ks,k.refs.length<=1048576):=by
 have hml:=hm.len
 unfold maxLen at hml
 by_cases hn:left<ks.length
 ·go_enter Tryz.func111,Tryz.ntmps111
  go_wp2
  go_ret
  exact ⟨_,rfl,Below.refl _ _,by omega,fun h=>by omega⟩
 ·go_enter Tryz.func111,Tryz.ntmps111
  go_wp2
  go_loopw [1,5] (fun l i wr=>∃(k:Nat) (L:Int),k<=ks.length/\i=.int .i64 k/\l=.int .i64 L/\0<=L/\L<=left/\Below w.heap.size w wr/\Hid (∀j,j<k->∀x,ks[j]?=some x->x.refs.length<=1048576)) (fun _ i _=>ks.length -(intOf i).toNat)
  case atStart=>exact ⟨0,_,Nat.zero_le _,rfl,rfl,by omega,by omega,Below.refl _ _,fun j h=>by omega⟩
  case round=>
   obtain ⟨k,L,hk,rfl,rfl,hL0,hL,hbel,hall⟩:=hrel
   by_cases hlt:k<ks.length
   ·obtain ⟨b,off,ha,hb,hc⟩:=hrow.at hlt
    subst ha
    have hg:ks[k]?=some ks[k]:=List.getElem?_eq_getElem hlt
    have hmem:=List.getElem_mem hlt
    obtain ⟨c0,c1,c2,ra,rc,c3,hrr⟩:=(hc k _ hg).below hbel hb
    have m0:=hm.sum _ hmem
    have m1:=hm.text _ hmem
    have m2:=hm.refs _ hmem
    have m3:=hm.ref _ hmem
    have HG:Hid _:=hg
    clear hc hrow hm hmem hg
    generalize ks[k]=x at *
    have hcon:=szKept_any x ra rc L wr (hrr.mono hbel.size) m0 m1 m2 m3 hL0 (by omega)
    have HC:Hid _:=hcon
    clear hcon m3 hrr
    go_wp2_with fail
    refine Calls.mono HC.out ?_
    rintro e w1 ⟨r,rfl,hb1,hr,hf⟩
    have hB:=hbel.trans (hb1.mono hbel.size)
    by_cases h3:r<0
    ·go_wp2
     go_ret
     exact ⟨_,rfl,hB,by omega,fun h=>by omega⟩
    ·have HA:Hid (∀j,j<k+1->∀x,ks[j]?=some x->x.refs.length<=1048576):=by
      intro j hj y hy
      rcases Nat.lt_or_ge j k with h'|h'
      ·exact hall j h' y hy
      ·obtain rfl:j=k:=by omega
       rw [HG.out] at hy
       cases hy
       exact hf (by omega)
     go_wp2
     exact ⟨⟨k+1,_,by omega,by go_num,rfl,by omega,by omega,hB,HA⟩,by simp [intOf];omega⟩
   ·go_wp2
    go_ret
    refine ⟨_,rfl,hbel,by omega,fun _=>⟨by omega,fun x hx=> ?_⟩⟩
    obtain ⟨j,hj,rfl⟩:=List.getElem_of_mem hx
    exact hall j (by omega) _ (List.getElem?_eq_getElem hj)
structure PMem (ps:List Pd):Prop where
 len:ps.length<=maxLen
 name:∀p∈ps,p.name.size<=maxLen
 sum:∀p∈ps,p.sum.size<=maxLen
structure LMem (ls:List Ld):Prop where
 len:ls.length<=maxLen
 sum:∀l∈ls,l.sum.size<=maxLen
set_option maxHeartbeats 400000 in
theorem szPin_any (p:Pd) (left:Int) (w:World) (h0:p.name.size<=maxLen) (ht:p.sum.size<=maxLen) (h1:0<=left) (h2:left<=1048576):
 Calls Tryz.prog 144 #[.agg #[.string p.name,.string p.sum],.int .i64 left] w fun e w'=>∃r:Int,e=.returned (.int .i64 r)/\Below w.heap.size w w'/\r<=left:=by
 have hb:Below w.heap.size w (w.alloc (.cells #[.string p.name,.string p.sum] 196)):=(Below.refl _ _).alloc (Nat.le_refl _) _
 unfold maxLen at h0 ht
 by_cases hn:left<p.name.size
 ·go_enter Tryz.func144,Tryz.ntmps144
  go_wp2
  go_ret
  exact ⟨_,rfl,hb,by omega⟩
 ·by_cases hm:left -p.name.size<p.sum.size
  ·go_enter Tryz.func144,Tryz.ntmps144
   go_wp2
   go_ret
   exact ⟨_,rfl,hb,by omega⟩
  ·go_enter Tryz.func144,Tryz.ntmps144
   go_wp2
   go_ret
   exact ⟨_,rfl,hb,by omega⟩
set_option maxHeartbeats 400000 in
theorem szLease_any (l:Ld) (left:Int) (w:World) (h0:l.sum.size<=maxLen) (h1:0<=left) (h2:left<=1048576):
 Calls Tryz.prog 145 #[.agg #[.int .i64 l.num,.string l.sum,.int .i64 l.til],.int .i64 left] w fun e w'=>∃r:Int,e=.returned (.int .i64 r)/\Below w.heap.size w w'/\r<=left:=by
 have hb:Below w.heap.size w (w.alloc (.cells #[.int .i64 l.num,.string l.sum,.int .i64 l.til] 198)):=(Below.refl _ _).alloc (Nat.le_refl _) _
 unfold maxLen at h0
 by_cases hn:left<l.sum.size
 ·go_enter Tryz.func145,Tryz.ntmps145
  go_wp2
  go_ret
  exact ⟨_,rfl,hb,by omega⟩
 ·go_enter Tryz.func145,Tryz.ntmps145
  go_wp2
  go_ret
  exact ⟨_,rfl,hb,by omega⟩
set_option maxHeartbeats 400000 in
theorem szPinS_any (a:Option Addr) (cap:Nat) (ps:List Pd) (left:Int) (w:World) (hrow:PRow w w.heap.size a ps) (hm:PMem ps) (h1:0<=left) (h2:left<=1048576):
 Calls Tryz.prog 112 #[.slice a ps.length cap,.int .i64 left] w fun e w'=>∃r:Int,e=.returned (.int .i64 r)/\Below w.heap.size w w'/\r<=left/\(0<=r->ps.length<=1048576):=by
 have hml:=hm.len
 unfold maxLen at hml
 by_cases hn:left<ps.length
 ·go_enter Tryz.func112,Tryz.ntmps112
  go_wp2
  go_ret
  exact ⟨_,rfl,Below.refl _ _,by omega,fun h=>by omega⟩
 ·go_enter Tryz.func112,Tryz.ntmps112
  go_wp2
  go_loopw [1,5] (fun l i wr=>∃(k:Nat) (L:Int),k<=ps.length/\i=.int .i64 k/\l=.int .i64 L/\0<=L/\L<=left/\Below w.heap.size w wr) (fun _ i _=>ps.length -(intOf i).toNat)
  case atStart=>exact ⟨0,_,Nat.zero_le _,rfl,rfl,by omega,by omega,Below.refl _ _⟩
  case round=>
   obtain ⟨k,L,hk,rfl,rfl,hL0,hL,hbel⟩:=hrel
   by_cases hlt:k<ps.length
   ·obtain ⟨b,off,ha,hb,hc⟩:=(hrow.below hbel).at hlt
    subst ha
    have hg:ps[k]?=some ps[k]:=List.getElem?_eq_getElem hlt
    have hmem:=List.getElem_mem hlt
    obtain ⟨c0,c1⟩:=hc k _ hg
    have m0:=hm.name _ hmem
    have m1:=hm.sum _ hmem
    clear hc hrow hm hmem hg
    generalize ps[k]=x at *
    go_wp2_with fail
    refine (szPin_any x L wr m0 m1 (by omega) (by omega)).mono ?_
    rintro e w1 ⟨r,rfl,hb1,hr⟩
    have hB:=hbel.trans (hb1.mono hbel.size)
    by_cases h3:r<0
    ·go_wp2
     go_ret
     exact ⟨_,rfl,hB,by omega,fun h=>by omega⟩
    ·go_wp2
     exact ⟨⟨k+1,_,by omega,by go_num,rfl,by omega,by omega,hB⟩,by simp [intOf];omega⟩
   ·go_wp2
    go_ret
    exact ⟨_,rfl,hbel,by omega,fun _=>by omega⟩
set_option maxHeartbeats 400000 in
theorem szLeaseS_any (a:Option Addr) (cap:Nat) (ls:List Ld) (left:Int) (w:World) (hrow:LRow w w.heap.size a ls) (hm:LMem ls) (h1:0<=left) (h2:left<=1048576):
 Calls Tryz.prog 113 #[.slice a ls.length cap,.int .i64 left] w fun e w'=>∃r:Int,e=.returned (.int .i64 r)/\Below w.heap.size w w'/\r<=left/\(0<=r->ls.length<=1048576):=by
 have hml:=hm.len
 unfold maxLen at hml
 by_cases hn:left<ls.length
 ·go_enter Tryz.func113,Tryz.ntmps113
  go_wp2
  go_ret
  exact ⟨_,rfl,Below.refl _ _,by omega,fun h=>by omega⟩
 ·go_enter Tryz.func113,Tryz.ntmps113
  go_wp2
  go_loopw [1,5] (fun l i wr=>∃(k:Nat) (L:Int),k<=ls.length/\i=.int .i64 k/\l=.int .i64 L/\0<=L/\L<=left/\Below w.heap.size w wr) (fun _ i _=>ls.length -(intOf i).toNat)
  case atStart=>exact ⟨0,_,Nat.zero_le _,rfl,rfl,by omega,by omega,Below.refl _ _⟩
  case round=>
   obtain ⟨k,L,hk,rfl,rfl,hL0,hL,hbel⟩:=hrel
   by_cases hlt:k<ls.length
   ·obtain ⟨b,off,ha,hb,hc⟩:=(hrow.below hbel).at hlt
    subst ha
    have hg:ls[k]?=some ls[k]:=List.getElem?_eq_getElem hlt
    have hmem:=List.getElem_mem hlt
    obtain ⟨c0,c1,c2⟩:=hc k _ hg
    have m0:=hm.sum _ hmem
    clear hc hrow hm hmem hg
    generalize ls[k]=x at *
    go_wp2_with fail
    refine (szLease_any x L wr m0 (by omega) (by omega)).mono ?_
    rintro e w1 ⟨r,rfl,hb1,hr⟩
    have hB:=hbel.trans (hb1.mono hbel.size)
    by_cases h3:r<0
    ·go_wp2
     go_ret
     exact ⟨_,rfl,hB,by omega,fun h=>by omega⟩
    ·go_wp2
     exact ⟨⟨k+1,_,by omega,by go_num,rfl,by omega,by omega,hB⟩,by simp [intOf];omega⟩
   ·go_wp2
    go_ret
    exact ⟨_,rfl,hbel,by omega,fun _=>by omega⟩
def SBox (w:World) (b:Nat) (wd now given births:Int) (T P L:Value):Prop:=
 w.cell? ⟨b,0,none⟩=some (.int .i64 wd)/\w.cell? ⟨b,1,none⟩=some (.int .i64 now)/\w.cell? ⟨b,2,none⟩=some (.int .i64 given)/\w.cell? ⟨b,3,none⟩=some (.int .i64 births)/\
  w.cell? ⟨b,4,none⟩=some T/\w.cell? ⟨b,5,none⟩=some P/\w.cell? ⟨b,6,none⟩=some L/\b<w.heap.size
theorem SBox.new (w:World) (wd now given births:Int) (T P L:Value) (t:TypeId):SBox (w.alloc (.cells #[.int .i64 wd,.int .i64 now,.int .i64 given,.int .i64 births,T,P,L] t)) w.heap.size wd now given births T P L:=
 ⟨by simp,by simp,by simp,by simp,by simp,by simp,by simp,by simp⟩
theorem SBox.keep {w w':World} {b B:Nat} {wd now given births:Int} {T P L:Value} (h:SBox w b wd now given births T P L) (hb:Below B w w') (hB:b<B):SBox w' b wd now given births T P L:=by
 obtain ⟨h0,h1,h2,h3,h4,h5,h6,h7⟩:=h
 exact ⟨(hb.cell (p:=⟨b,0,none⟩) hB).trans h0,(hb.cell (p:=⟨b,1,none⟩) hB).trans h1,(hb.cell (p:=⟨b,2,none⟩) hB).trans h2,(hb.cell (p:=⟨b,3,none⟩) hB).trans h3,
  (hb.cell (p:=⟨b,4,none⟩) hB).trans h4,(hb.cell (p:=⟨b,5,none⟩) hB).trans h5,(hb.cell (p:=⟨b,6,none⟩) hB).trans h6,Nat.lt_of_lt_of_le h7 hb.size⟩
theorem SBox.below {w w':World} {b:Nat} {wd now given births:Int} {T P L:Value} (h:SBox w b wd now given births T P L) (hb:Below w.heap.size w w'):SBox w' b wd now given births T P L:=h.keep hb h.2.2.2.2.2.2.2
structure SRows (w:World) (B:Nat) (a p l:Option Addr) (ks:List Kd) (ps:List Pd) (ls:List Ld):Prop where
 k:KRow w B a ks
 p:PRow w B p ps
 l:LRow w B l ls
theorem SRows.below' {w w':World} {a p l:Option Addr} {ks:List Kd} {ps:List Pd} {ls:List Ld} (h:SRows w w.heap.size a p l ks ps ls) (hb:Below w.heap.size w w'):SRows w' w'.heap.size a p l ks ps ls:=
 ⟨(h.k.below hb).mono hb.size,(h.p.below hb).mono hb.size,(h.l.below hb).mono hb.size⟩
theorem SRows.keep {w w':World} {B:Nat} {a p l:Option Addr} {ks:List Kd} {ps:List Pd} {ls:List Ld} (h:SRows w B a p l ks ps ls) (hb:Below B w w'):SRows w' B a p l ks ps ls:=
 ⟨h.k.below hb,h.p.below hb,h.l.below hb⟩
theorem SRows.mono {w:World} {B B':Nat} {a p l:Option Addr} {ks:List Kd} {ps:List Pd} {ls:List Ld} (h:SRows w B a p l ks ps ls) (hb:B<=B'):SRows w B' a p l ks ps ls:=
 ⟨h.k.mono hb,h.p.mono hb,h.l.mono hb⟩
structure SFit (ks:List Kd) (ps:List Pd) (ls:List Ld):Prop where
 k:ks.length<=1048576
 r:∀k∈ks,k.refs.length<=1048576
 p:ps.length<=1048576
 l:ls.length<=1048576
end Go.Proofs.YtpekbmegopfhfaaGreatDoor
