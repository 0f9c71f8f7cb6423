import Derived.Test.YtpekbmegopfhfaaGreatDoorW01
import Derived.WalkKit
import Derived.LaidEql
import Derived.Stop.Asserts
import Derived.RowKitTokens
import Derived.Test.YtpekbmegopfhfaaGreatDoorW02
import Derived.Deep.RegionLaw
import Derived.Test.YtpekbmegopfhfaaGreatDoorW05
import Derived.Maps.AppendAt
import Derived.Deep.AppendLies
namespace Go.Proofs.YtpekbmegopfhfaaGreatDoor
open Go.RowKit Go.Extern.Stop Go.Stop Go.Extern
def ErrTy (w:World):Prop:=w.cell? ⟨4,0,none⟩=some (.iface 253 (.agg #[.pointer (some ⟨9,179,none⟩)]))
theorem as_nil (t:Value) (w:World):
 Calls Tryz.prog 137 #[.nilIface,t] w fun e w'=>e=.returned (.bool false)/\w'=w:=by
 go_enter Tryz.func137,Tryz.ntmps137
 go_wp2
 go_ret
 exact ⟨rfl,rfl⟩
abbrev rt (t:Nat):Value:=.agg #[.pointer (some ⟨9,t,none⟩)]
abbrev rv (t:Nat) (a:Addr) (f:Int):Value:=.agg #[.pointer (some ⟨9,t,none⟩),.pointer (some a),.int .u64 f]
theorem r_valueP (t:Addr) (w:World):(ReflectliteValue.unpack (.iface 185 (.pointer (some t)))).run Tryz.prog w
 =.ok (rv 185 ⟨w.heap.size,0,none⟩ 150) (w.alloc (.cells #[.pointer (some t)] 185)):=by kernel_rfl
theorem r_valueE (e:Addr) (w:World):(ReflectliteValue.unpack (.iface 183 (.pointer (some e)))).run Tryz.prog w
 =.ok (rv 183 ⟨w.heap.size,0,none⟩ 150) (w.alloc (.cells #[.pointer (some e)] 183)):=by kernel_rfl
theorem r_type (a:Addr) (w:World):(ReflectliteValue.methodAny (ReflectliteValue.valueError "reflectlite.Value.Type" 0) (fun t _ _ _=>ReflectliteType.toType t) #[rv 185 a 150]).run Tryz.prog w
 =.ok (.iface 253 (rt 185)) w:=by kernel_rfl
theorem r_mKind (h:Value) (w:World):(Go.method 450 253 (.agg #[h]) "Kind").run Tryz.prog w=.ok (278,h) w:=by kernel_rfl
theorem r_mElem (h:Value) (w:World):(Go.method 450 253 (.agg #[h]) "Elem").run Tryz.prog w=.ok (290,.agg #[h]) w:=by kernel_rfl
theorem r_mImpl (h:Value) (w:World):(Go.method 450 253 (.agg #[h]) "Implements").run Tryz.prog w=.ok (291,.agg #[h]) w:=by kernel_rfl
theorem r_mAss (h:Value) (w:World):(Go.method 450 253 (.agg #[h]) "AssignableTo").run Tryz.prog w=.ok (288,.agg #[h]) w:=by kernel_rfl
theorem r_kindP (w:World):((ReflectliteType.abiMethod fun t=>(fun a:Nat=>Value.int IntKind.u8 (a:Int))<$>Rtype.kind t) #[.pointer (some ⟨9,185,none⟩)]).run Tryz.prog w=.ok (.int .u8 22) w:=by kernel_rfl
theorem r_kindE (w:World):((ReflectliteType.abiMethod fun t=>(fun a:Nat=>Value.int IntKind.u8 (a:Int))<$>Rtype.kind t) #[.pointer (some ⟨9,183,none⟩)]).run Tryz.prog w=.ok (.int .u8 22) w:=by kernel_rfl
theorem r_elem (w:World):(ReflectliteType.method ReflectliteType.elem #[rt 185]).run Tryz.prog w=.ok (.iface 253 (rt 183)) w:=by kernel_rfl
theorem r_impl (w:World):(ReflectliteType.relation "Implements" ReflectliteType.implements_ #[rt 183,.iface 253 (rt 179)]).run Tryz.prog w=.ok (.bool true) w:=by kernel_rfl
theorem r_typeOf (v:Value) (w:World):(ReflectliteType.typeOf #[.iface 183 v]).run Tryz.prog w=.ok (.iface 253 (rt 183)) w:=by kernel_rfl
theorem r_ass (w:World):(ReflectliteType.relation "AssignableTo" ReflectliteType.assignableTo #[rt 183,.iface 253 (rt 183)]).run Tryz.prog w=.ok (.bool true) w:=by kernel_rfl
theorem r_elemOf (w:World):(Rtype.elem? 185).run Tryz.prog w=.ok (some 183) w:=by kernel_rfl
theorem r_mk (p:Addr) (w:World):(ReflectliteValue.mk 183 p ReflectliteValue.flagAddr).run Tryz.prog w=.ok (rv 183 p 406) w:=by kernel_rfl
theorem r_partsP (a:Addr) (w:World):(ReflectliteValue.parts (rv 185 a 150)).run Tryz.prog w=.ok (some (185,a,150)) w:=by kernel_rfl
theorem r_partsA (a:Addr) (w:World):(ReflectliteValue.parts (rv 183 a 406)).run Tryz.prog w=.ok (some (183,a,406)) w:=by kernel_rfl
theorem r_partsE (a:Addr) (w:World):(ReflectliteValue.parts (rv 183 a 150)).run Tryz.prog w=.ok (some (183,a,150)) w:=by kernel_rfl
theorem r_direct (w:World):(Rtype.directlyAssignable 183 183).run Tryz.prog w=.ok true w:=by kernel_rfl
theorem r_meth (z:Sem Value) (f:TypeId->Addr->Nat->Nat->Sem Value) (v:Value):
 ReflectliteValue.method z f #[v]=(do match ←ReflectliteValue.parts v with|none=>z|some (t,a,fl)=>f t a fl (fl%32)):=rfl
theorem r_isNil (a p:Addr) (W:World) (ha:W.cell? a=some (.pointer (some p))):
 (ReflectliteValue.method (ReflectliteValue.valueError "reflectlite.Value.IsNil" 0) ReflectliteValue.isNil #[rv 185 a 150]).run Tryz.prog W=.ok (.bool false) W:=by
 rw [r_meth]
 simp only [Sem.run_bind,r_partsP,Result.andThen]
 simp [ReflectliteValue.isNil,loadVar,isAgg,underlying,Tryz.underlying185,ha,Result.andThen]
theorem r_elemV (a p:Addr) (W:World) (ha:W.cell? a=some (.pointer (some p))):
 (ReflectliteValue.method (ReflectliteValue.valueError "reflectlite.Value.Elem" 0) ReflectliteValue.elem #[rv 185 a 150]).run Tryz.prog W=.ok (rv 183 p 406) W:=by
 rw [r_meth]
 simp only [Sem.run_bind,r_partsP,Result.andThen]
 simp [ReflectliteValue.elem,loadVar,isAgg,underlying,Tryz.underlying185,ha,Result.andThen,r_elemOf,r_mk]
theorem r_setV (v x:Value):ReflectliteValue.set #[v,x]=(do
 let (some (dst,a,fl),some (src,b,_)):=(←ReflectliteValue.parts v,←ReflectliteValue.parts x)
  |unsupported (.noEntry "extern/(internal/reflectlite.Value).Set.zeroValue")
 if fl/ReflectliteValue.flagAddr%2==0 then unsupported (.noEntry "extern/(internal/reflectlite.Value).Set.unaddressable")
 let val ←loadVar src b
 if ←Rtype.directlyAssignable dst src then storeVar dst a val
 else if ←Rtype.implements dst src then
  if (←Rtype.kind src)==20 then
   match val with
   |.nilIface=>unsupported (.noEntry "extern/reflectlite: a nil value of one interface type handed on as a value of another")
   |_=>storeVar dst a val
  else storeVar dst a (.iface src val)
 else panicString ("reflectlite.Set: value of type " ++(←Rtype.spelt src)++ " is not assignable to type " ++(←Rtype.spelt dst))
 pure (.tuple #[])):=rfl
theorem r_set (ta b e:Addr) (old:Value) (W:World) (hb:W.cell? b=some (.pointer (some e))) (ht:W.cell? ta=some old) (hf:W.frozen? ta=false):
 (ReflectliteValue.set #[rv 183 ta 406,rv 183 b 150]).run Tryz.prog W=.ok (.tuple #[]) (W.setCell ta (.pointer (some e))):=by
 rw [r_setV]
 simp only [Sem.run_bind,r_partsA,r_partsE,Result.andThen]
 simp [ReflectliteValue.flagAddr,loadVar,isAgg,underlying,Tryz.underlying183,hb,Result.andThen,r_direct,storeVar,Value.cells,storeCells,Addr.add]
 rw [run_store Tryz.prog W ta _ _ (by rfl)]
 simp [ht,hf]
set_option maxHeartbeats 4000000 in
theorem as_hit (e:Addr) (tb:Nat) (old:Value) (w:World) (hg:ErrTy w) (ht0:w.cell? ⟨tb,0,none⟩=some old) (hf0:w.frozen? ⟨tb,0,none⟩=false):
 Calls Tryz.prog 137 #[.iface 183 (.pointer (some e)),.iface 185 (.pointer (some ⟨tb,0,none⟩))] w fun ev w'=>ev=.returned (.bool true)/\Below tb w w':=by
 have h1:= @run_callFunc_extern Tryz.prog 164 _ (fun args=>ReflectliteValue.unpack (args.getD 0 (.tuple #[]))) Tryz.func164 (by kernel_rfl) (by kernel_rfl) (by kernel_rfl) (by kernel_rfl)
 have h2:= @run_callFunc_extern Tryz.prog 165 _ (ReflectliteValue.methodAny (ReflectliteValue.valueError "reflectlite.Value.Type" 0) (fun t _ _ _=>ReflectliteType.toType t)) Tryz.func165 (by kernel_rfl) (by kernel_rfl) (by kernel_rfl) (by kernel_rfl)
 have h3:= @run_callFunc_extern Tryz.prog 166 _ (ReflectliteValue.method (ReflectliteValue.valueError "reflectlite.Value.IsNil" 0) ReflectliteValue.isNil) Tryz.func166 (by kernel_rfl) (by kernel_rfl) (by kernel_rfl) (by kernel_rfl)
 have h4:= @run_callFunc_extern Tryz.prog 278 _ (ReflectliteType.abiMethod fun t=>do pure (.int .u8 (←Rtype.kind t))) Tryz.func278 (by kernel_rfl) (by kernel_rfl) (by kernel_rfl) (by kernel_rfl)
 have h5:= @run_callFunc_extern Tryz.prog 290 _ (ReflectliteType.method ReflectliteType.elem) Tryz.func290 (by kernel_rfl) (by kernel_rfl) (by kernel_rfl) (by kernel_rfl)
 have h6:= @run_callFunc_extern Tryz.prog 291 _ (ReflectliteType.relation "Implements" ReflectliteType.implements_) Tryz.func291 (by kernel_rfl) (by kernel_rfl) (by kernel_rfl) (by kernel_rfl)
 have h7:= @run_callFunc_extern Tryz.prog 194 _ ReflectliteType.typeOf Tryz.func194 (by kernel_rfl) (by kernel_rfl) (by kernel_rfl) (by kernel_rfl)
 have h8:= @run_callFunc_extern Tryz.prog 288 _ (ReflectliteType.relation "AssignableTo" ReflectliteType.assignableTo) Tryz.func288 (by kernel_rfl) (by kernel_rfl) (by kernel_rfl) (by kernel_rfl)
 have h9:= @run_callFunc_extern Tryz.prog 195 _ (ReflectliteValue.method (ReflectliteValue.valueError "reflectlite.Value.Elem" 0) ReflectliteValue.elem) Tryz.func195 (by kernel_rfl) (by kernel_rfl) (by kernel_rfl) (by kernel_rfl)
 have h10:= @run_callFunc_extern Tryz.prog 196 _ ReflectliteValue.set Tryz.func196 (by kernel_rfl) (by kernel_rfl) (by kernel_rfl) (by kernel_rfl)
 have q1:=r_typeOf
 have q2:=r_mAss
 have q3:=r_ass
 have q4:=r_valueE
 have q5:=r_valueP
 have q6:=r_type
 have q7:=r_mKind
 have q8:=r_mElem
 have q9:=r_mImpl
 have q10:=r_kindP
 have q11:=r_kindE
 have q12:=r_elem
 have q13:=r_impl
 have hlt:4<w.heap.size:=World.block_lt_of_cell? w _ hg
 have htl:tb<w.heap.size:=World.block_lt_of_cell? w ⟨tb,0,none⟩ ht0
 have b1:Below w.heap.size w (w.alloc (.cells #[.pointer (some ⟨tb,0,none⟩)] 185)):=(Below.refl _ _).alloc (Nat.le_refl _) _
 have b2:=b1.alloc b1.size (.cells #[.pointer (some ⟨9,185,none⟩),.pointer (some ⟨w.heap.size,0,none⟩),.int .u64 150] 218)
 have b3:=b2.alloc b2.size (.cells #[.pointer (some ⟨9,185,none⟩),.pointer (some ⟨w.heap.size,0,none⟩),.int .u64 150] 218)
 have b4:=b3.alloc b3.size (.cells #[.pointer (some e)] 183)
 have n8:=r_isNil ⟨w.heap.size,0,none⟩ ⟨tb,0,none⟩ ((w.alloc (.cells #[.pointer (some ⟨tb,0,none⟩)] 185)).alloc (.cells #[.pointer (some ⟨9,185,none⟩),.pointer (some ⟨w.heap.size,0,none⟩),.int .u64 150] 218)) (by simp)
 have hg2:((w.alloc (.cells #[.pointer (some ⟨tb,0,none⟩)] 185)).alloc (.cells #[.pointer (some ⟨9,185,none⟩),.pointer (some ⟨w.heap.size,0,none⟩),.int .u64 150] 218)).cell? ⟨4,0,none⟩=some (.iface 253 (.agg #[.pointer (some ⟨9,179,none⟩)])):=(b2.cell (p:=⟨4,0,none⟩) hlt).trans hg
 have el:=r_elemV ⟨w.heap.size,0,none⟩ ⟨tb,0,none⟩ (((w.alloc (.cells #[.pointer (some ⟨tb,0,none⟩)] 185)).alloc (.cells #[.pointer (some ⟨9,185,none⟩),.pointer (some ⟨w.heap.size,0,none⟩),.int .u64 150] 218)).alloc (.cells #[.pointer (some ⟨9,185,none⟩),.pointer (some ⟨w.heap.size,0,none⟩),.int .u64 150] 218)) (by rw [World.cell?_alloc_lt _ _ ⟨w.heap.size,0,none⟩ (by simp;omega)];simp)
 have st:=r_set ⟨tb,0,none⟩ ⟨w.heap.size+1+1+1,0,none⟩ e old ((((w.alloc (.cells #[.pointer (some ⟨tb,0,none⟩)] 185)).alloc (.cells #[.pointer (some ⟨9,185,none⟩),.pointer (some ⟨w.heap.size,0,none⟩),.int .u64 150] 218)).alloc (.cells #[.pointer (some ⟨9,185,none⟩),.pointer (some ⟨w.heap.size,0,none⟩),.int .u64 150] 218)).alloc (.cells #[.pointer (some e)] 183))
  (by rw [World.cell?_alloc_at _ _ _ _ (by simp)];rfl)
  ((b4.cell (p:=⟨tb,0,none⟩) htl).trans ht0)
  ((b4.frozen (p:=⟨tb,0,none⟩) htl).trans hf0)
 have fin:=(b4.mono (Nat.le_of_lt htl)).setCell (show tb<=(⟨tb,0,none⟩:Addr).block from Nat.le_refl tb) (.pointer (some e))
 clear b1 b2 b3 b4
 have FIN:Hid _:=fin
 clear fin
 go_enter Tryz.func137,Tryz.ntmps137
 go_wp2
 refine wp_loop_rounds 1 ?_
 rw [rounds_succ]
 go_wp2
 go_ret
 exact ⟨rfl,FIN.out⟩
end Go.Proofs.YtpekbmegopfhfaaGreatDoor
namespace Go.Proofs.YtpekbmegopfhfaaGreatDoor
open Go.ChangeShapes Go.WideShapes Go.ChangeAt Go.RowKit
theorem wrap64_byte (b:UInt8):wrap64 (b.toNat:Int)=(b.toNat:Int):=by
 have h:b.toNat<256:=b.toNat_lt
 simp [wrap64]
 omega
theorem wrapI (x:Int) (h: -9223372036854775808<=x) (h':x<9223372036854775808):IntKind.i64.wrap x=x:=by
 rw [IntKind.wrap_i64]
 omega
theorem mul_bd {n k:Nat} {wd:Int} (h1:1<=wd) (hk:k<n):0<=(k:Int) *wd/\(k:Int) *wd<=(n:Int) *wd/\((k:Int)+1) *wd=(k:Int) *wd+wd/\(k:Int) *wd+wd<=(n:Int) *wd:=by
 refine ⟨Int.mul_nonneg (by omega) (by omega),Int.mul_le_mul_of_nonneg_right (by omega) (by omega),by rw [Int.add_mul,Int.one_mul],?_⟩
 have:((k:Int)+1) *wd<=(n:Int) *wd:=Int.mul_le_mul_of_nonneg_right (by omega) (by omega)
 rw [Int.add_mul,Int.one_mul] at this
 exact this
theorem mul_top {n:Nat} {wd:Int} (hn:n<256) (h1:1<=wd) (h2:wd<=8):0<=(n:Int) *wd/\(n:Int) *wd<=2040:=by
 refine ⟨Int.mul_nonneg (by omega) (by omega),?_⟩
 have h3:(n:Int) *wd<=255 *wd:=Int.mul_le_mul_of_nonneg_right (by omega) (by omega)
 omega
def txtI (s:ByteArray) (wd:Int) (n:Nat):ByteArray:=(s.extract 1 s.size).extract ((n:Int) *wd).toNat (s.size -1)
def refI (s:ByteArray) (wd:Int) (i:Nat):ByteArray:=(s.extract 1 s.size).extract ((i:Int) *wd).toNat ((i:Int) *wd+wd).toNat
def refsI (s:ByteArray) (wd:Int) (k:Nat):List ByteArray:=(List.range k).map (refI s wd)
theorem refsI_length (s:ByteArray) (wd:Int) (k:Nat):(refsI s wd k).length=k:=by simp [refsI]
theorem refsI_succ (s:ByteArray) (wd:Int) (k:Nat):(refsI s wd k).map Value.string++[Value.string (refI s wd k)]=(refsI s wd (k+1)).map Value.string:=by
 simp [refsI,List.range_succ]
theorem grow_cell {wr w1:World} {o:Obj} {row:Option Nat} {p:Addr} {x:Value} (hg:(wr.alloc o).drew.grownBy w1 row) (hc:wr.cell? p=some x) (hne:some p.block≠row):w1.cell? p=some x:=by
 refine hg.cell ?_ hne
 have hlt:=World.block_lt_of_cell? wr p hc
 exact (World.cell?_alloc_lt wr o p hlt).trans hc
theorem grow_frozen {wr w1:World} {o:Obj} {row:Option Nat} {p:Addr} (hg:(wr.alloc o).drew.grownBy w1 row) (hlt:p.block<wr.heap.size) (hne:some p.block≠row):w1.frozen? p=wr.frozen? p:=by
 have h1:w1.frozen? p=(wr.alloc o).drew.frozen? p:=World.frozen?_of_block (hg.block p.block (by simp;omega) hne)
 rw [h1]
 exact World.frozen?_alloc_old wr o p (Nat.ne_of_lt hlt)
theorem own_ne {w:World} {base:Nat} {e:TypeId} {v:Value} {n:Nat} {xs:List Value} (h:w.ownsRow base e 1 v n xs) {b:Nat} (hb:b<base):some b≠v.ownBlock:=by
 intro he
 have:=(h.lt b he.symm).1
 omega
theorem own_formS {w:World} {base:Nat} {v:Value} {ss:List ByteArray} (h:w.ownsRow base 9 1 v ss.length (ss.map Value.string)):∃a cap,v=.slice a ss.length cap/\SRow w w.heap.size a ss:=by
 rcases h.2 with ⟨hv,h0⟩|⟨g,cap,cur,hv,_⟩
 ·exact ⟨none,0,by rw [hv,h0],.inl (List.eq_nil_of_length_eq_zero h0)⟩
 ·subst hv
  exact ⟨_,_,rfl,SRow.own h⟩
theorem read_next {s:ByteArray} {wd:Int} {w wr w1:World} {o:Obj} {v:Value} {k g cap:Nat} {txt:ByteArray} {W:World}
 (hsz:w.heap.size+1<wr.heap.size) (hown:wr.ownsRow (w.heap.size+2) 9 1 v k ((refsI s wd k).map Value.string)) (hbel:Below (w.heap.size+1) W wr)
 (hown':w1.ownsRow (w.heap.size+2) 9 1 (.slice (some ⟨g,0,none⟩) (k+1) cap) (k+1) ((refsI s wd k).map Value.string++[.string (refI s wd k)]))
 (hgrow:(wr.alloc o).drew.grownBy w1 v.ownBlock) (hd0:w1.cell? ⟨w.heap.size+1,0,none⟩=some (.string txt)) (hd1:w1.cell? ⟨w.heap.size+1,1,none⟩=some v) (hdf:w1.frozen? ⟨w.heap.size+1,1,none⟩=false):
 (w1.setCell ⟨w.heap.size+1,1,none⟩ (.slice (some ⟨g,0,none⟩) (k+1) cap)).cell? ⟨w.heap.size+1,0,none⟩=some (.string txt)/\
 (w1.setCell ⟨w.heap.size+1,1,none⟩ (.slice (some ⟨g,0,none⟩) (k+1) cap)).cell? ⟨w.heap.size+1,1,none⟩=some (.slice (some ⟨g,0,none⟩) (k+1) cap)/\
 (w1.setCell ⟨w.heap.size+1,1,none⟩ (.slice (some ⟨g,0,none⟩) (k+1) cap)).frozen? ⟨w.heap.size+1,1,none⟩=false/\
 (w1.setCell ⟨w.heap.size+1,1,none⟩ (.slice (some ⟨g,0,none⟩) (k+1) cap)).ownsRow (w.heap.size+2) 9 1 (.slice (some ⟨g,0,none⟩) (k+1) cap) (k+1) ((refsI s wd (k+1)).map Value.string)/\
 Below (w.heap.size+1) W (w1.setCell ⟨w.heap.size+1,1,none⟩ (.slice (some ⟨g,0,none⟩) (k+1) cap)):=by
 refine ⟨?_,?_,?_,?_,?_⟩
 ·rw [←hd0]
  exact World.cell?_setCell_other _ _ _ _ (by simp)
 ·exact World.cell?_setCell_same' _ _ _ (by rw [hd1];rfl)
 ·rw [World.frozen?_setCell];exact hdf
 ·rw [←refsI_succ]
  exact ownsRow_setCell_below hown' (by simp) _
 ·exact (((hbel.alloc (by omega) o).drew).grown hgrow (by simp;omega) (fun k hk=>by have:=(hown.lt k hk).1;omega)).setCell (by simp) _
theorem notEmpty {s:ByteArray} (h:0<s.size):s.toList.isEmpty=false:=by
 have:s.toList.length=s.size:=by rw [ByteArray.toList_eq];simp
 cases hl:s.toList with
 |nil=>rw [hl] at this;simp at this;omega
 |cons x r=>rfl
set_option maxRecDepth 20000 in
set_option maxHeartbeats 1000000 in
theorem iRead_yes (s:ByteArray) (wd:Int) (n:Nat) (w:World) (hs:s.size<=1048576) (h1:1<=wd) (h2:wd<=8) (h0:0<s.size) (hn0:s[0].toNat=n) (hfit:(n:Int) *wd<=s.size -1):
 Calls Tryz.prog 189 #[.string s,.int .i64 wd] w fun e w'=>
  (okThing (txtI s wd n) (refsI s wd n) wd=true->∃v,e=.returned (.tuple #[.agg #[.string (txtI s wd n),v],.bool true])/\w'.ownsRow w.heap.size 9 1 v n ((refsI s wd n).map Value.string))/\
  (okThing (txtI s wd n) (refsI s wd n) wd=false->e=.returned (.tuple #[.agg #[.string ⟨#[]⟩,.slice none 0 0],.bool false]))/\Below w.heap.size w w':=by
 obtain ⟨i0,hi,hz0,hz1,hz2⟩:=info_parts Tryz.infoStr
 have hne:s.toList.isEmpty=false:=notEmpty h0
 have hlt0:(0:Int)<s.size:=by omega
 have hn:n<256:=by rw [←hn0];exact s[0].toNat_lt
 have htop:=mul_top hn h1 h2
 have HN:Hid _:=hn0
 clear hn0
 go_enter Tryz.func189,Tryz.ntmps189
 go_wp2
 go_quiet (fail)
 simp only [wrap64_byte]
 rw [HN.out]
 go_wp2_with fail
 obtain ⟨txt,htxt⟩:∃txt,txt=txtI s wd n:=⟨_,rfl⟩
 rw [show (s.extract 1 s.size).extract ((n:Int) *wd).toNat (s.size -1)=txt from htxt.symm]
 have HTX:Hid _:=htxt
 clear htxt
 go_loopw [37] (fun i wr=>∃(k:Nat) (v:Value),k<=n/\i=.int .i64 k/\wr.cell? ⟨w.heap.size+1,0,none⟩=some (.string txt)/\wr.cell? ⟨w.heap.size+1,1,none⟩=some v/\wr.frozen? ⟨w.heap.size+1,1,none⟩=false/\
  wr.ownsRow (w.heap.size+2) 9 1 v k ((refsI s wd k).map Value.string)/\Below (w.heap.size+1) (w.alloc (Obj.cells #[Value.string ⟨#[]⟩,Value.slice none 0 0] 66)) wr) (fun i _=>n -(intOf i).toNat)
 case atStart=>exact ⟨0,.slice none 0 0,Nat.zero_le _,rfl,by simp [go_sem],by simp [go_sem],by simp [go_sem],World.ownsRow_nil _ _ _ _,(belowN (Below.refl _ _) _).alloc (by simp) _⟩
 case round=>
  obtain ⟨k,v,hk,rfl,hc0,hc1,hf1,hown,hbel⟩:=hrel
  have hsz:=hbel.size
  simp at hsz
  by_cases hlt:k<n
  ·obtain ⟨m1,m2,m3,m4⟩:=mul_bd h1 hlt
   have hsz1:(s.extract 1 s.size).size=s.size -1:=by simp
   have hlt':(k:Int)<n:=by omega
   have e1:=wrapI ((k:Int) *wd) (by omega) (by omega)
   have e2:=wrapI ((k:Int)+1) (by omega) (by omega)
   have e3:=wrapI ((k:Int) *wd+wd) (by omega) (by omega)
   have b2:(k:Int) *wd<=(k:Int) *wd+wd:=by omega
   have b3:(k:Int) *wd+wd<=((s.size -1:Nat):Int):=by omega
   go_wp2
   have hne:=own_ne hown (b:=w.heap.size+1) (by omega)
   have hTlt:w.heap.size+1<wr.heap.size:=World.block_lt_of_cell? wr _ hc0
   go_region_law (refine step_append_lies _ rfl (.tmp 41) (.tmp 51) 22 rfl (w.heap.size+2) 9 i0 (.string ⟨#[]⟩) 1 16 Tryz.underlying22 hi hz0 hz1 hz2 rfl (by decide) v k ((refsI s wd k).map Value.string) rfl (World.ownsRow.alloc hown _) ⟨wr.heap.size,0,none⟩ 1 1 [.string (refI s wd k)] rfl rfl (cell_one_new wr (.string (refI s wd k)) 9) (by simp [Value.oneCell']) (by decide) (by unfold maxLen;omega) (by omega) (by simp;omega) (wr.heap.size+1) (by simp) ?_;intro g cap w1 hown' hgrow hat hltg;have hd0:=grow_cell hgrow hc0 hne;have hd1:=grow_cell hgrow hc1 hne;have hdf:=(grow_frozen (p:=⟨w.heap.size+1,1,none⟩) hgrow (by simp;omega) hne).trans hf1)
   all_goals
    have R:=read_next hTlt hown hbel hown' hgrow hd0 hd1 hdf
    have HR:Hid _:=R
    clear R hown hbel hown' hgrow hd0 hc0 hc1 hf1
    go_wp2
    refine ⟨⟨_,_,_,_,_,_,_,_,_,_,_,_,_,_,_,_,_,_,_,⟨k+1,_,by omega,?_,HR.out.1,HR.out.2.1,HR.out.2.2.1,HR.out.2.2.2.1,HR.out.2.2.2.2⟩,rfl⟩,?_⟩
    ·go_num
    ·simp [intOf];omega
  ·obtain rfl:k=n:=by omega
   have hTlt:w.heap.size+1<wr.heap.size:=World.block_lt_of_cell? wr _ hc0
   obtain ⟨a,cap,hv,hrow⟩:=own_formS (ss:=refsI s wd k) (by rw [refsI_length];exact hown)
   rw [refsI_length] at hv
   subst hv
   have hr0:(wr.cell? ⟨w.heap.size,0,none⟩)=some (.string ⟨#[]⟩):=by rw [hbel.cell (p:=⟨w.heap.size,0,none⟩) (by simp)];simp
   have hr1:(wr.cell? ⟨w.heap.size,1,none⟩)=some (.slice none 0 0):=by rw [hbel.cell (p:=⟨w.heap.size,1,none⟩) (by simp)];simp
   have hrf0:wr.frozen? ⟨w.heap.size,0,none⟩=false:=by rw [hbel.frozen (p:=⟨w.heap.size,0,none⟩) (by simp)];simp
   have hrf1:wr.frozen? ⟨w.heap.size,1,none⟩=false:=by rw [hbel.frozen (p:=⟨w.heap.size,1,none⟩) (by simp)];simp
   have hts:txt.size<=maxLen:=by
    rw [HTX.out]
    simp [txtI,maxLen]
    omega
   have hcall:=ivalidThing_any txt a cap (refsI s wd k) wd wr hrow (by rw [refsI_length];omega) hts
   rw [refsI_length] at hcall
   have hTlt0:w.heap.size<wr.heap.size:=by omega
   go_wp2_with fail
   refine hcall.mono ?_
   rintro e w2 ⟨rfl,rfl⟩
   have hB:Below w.heap.size w wr:=((Below.refl _ _).alloc (Nat.le_refl _) _).trans (hbel.mono (by omega))
   cases hok:okThing txt (refsI s wd k) wd with
   |true=>
    clear hcall
    go_wp2
    refine bodyPost_ret (v:=.tuple #[.agg #[.string txt,.slice a k cap],.bool true]) (by simp [results,Tryz.results189,go_sem,hTlt0,hr0,hr1]) rfl ⟨fun _=>⟨.slice a k cap,?_,?_⟩,fun h=> ?_,?_⟩
    ·rw [HTX.out]
    ·exact ((ownsRow_setCell_below (ownsRow_setCell_below hown (by simp) _) (by simp) _).alloc _).mono (by omega)
    ·rw [←HTX.out,hok] at h;cases h
    ·exact ((hB.setCell (by simp) _).setCell (by simp) _).alloc (by simp;omega) _
   |false=>
    clear hcall
    go_wp2
    refine bodyPost_ret (v:=.tuple #[.agg #[.string ⟨#[]⟩,.slice none 0 0],.bool false]) (by simp [results,Tryz.results189,go_sem,hTlt0,hr0,hr1]) rfl ⟨fun h=> ?_,fun _=>rfl,?_⟩
    ·rw [←HTX.out,hok] at h;cases h
    ·exact ((hB.setCell (by simp) _).setCell (by simp) _).alloc (by simp;omega) _
def Nothing (w:World) (e:Ending) (w':World):Prop:=e=.returned (.tuple #[.agg #[.string ⟨#[]⟩,.slice none 0 0],.bool false])/\Below w.heap.size w w'
theorem iRead_no1 (s:ByteArray) (wd:Int) (w:World) (h:¬(1<=wd/\wd<=8)):
 Calls Tryz.prog 189 #[.string s,.int .i64 wd] w (Nothing w):=by
 by_cases h1:1<=wd
 ·have h2:decide (wd<=8)=false:=by simp;omega
  go_enter Tryz.func189,Tryz.ntmps189
  go_wp2
  exact bodyPost_ret (v:=.tuple #[.agg #[.string ⟨#[]⟩,.slice none 0 0],.bool false]) (by simp [results,Tryz.results189,go_sem]) rfl ⟨rfl,(Below.refl _ _).alloc (Nat.le_refl _) _⟩
 ·go_enter Tryz.func189,Tryz.ntmps189
  go_wp2
  exact bodyPost_ret (v:=.tuple #[.agg #[.string ⟨#[]⟩,.slice none 0 0],.bool false]) (by simp [results,Tryz.results189,go_sem]) rfl ⟨rfl,(Below.refl _ _).alloc (Nat.le_refl _) _⟩
theorem isEmpty {s:ByteArray} (h:s.size=0):s.toList.isEmpty=true:=by
 have:s.toList.length=s.size:=by rw [ByteArray.toList_eq];simp
 rw [List.isEmpty_iff,←List.length_eq_zero_iff]
 omega
theorem iRead_no2 (s:ByteArray) (wd:Int) (w:World) (h1:1<=wd) (h2:wd<=8) (h0:s.size=0):
 Calls Tryz.prog 189 #[.string s,.int .i64 wd] w (Nothing w):=by
 have hne:=isEmpty h0
 go_enter Tryz.func189,Tryz.ntmps189
 go_wp2
 exact bodyPost_ret (v:=.tuple #[.agg #[.string ⟨#[]⟩,.slice none 0 0],.bool false]) (by simp [results,Tryz.results189,go_sem]) rfl ⟨rfl,(Below.refl _ _).alloc (Nat.le_refl _) _⟩
set_option maxHeartbeats 1000000 in
theorem iRead_no3 (s:ByteArray) (wd:Int) (n:Nat) (w:World) (hs:s.size<=1048576) (h1:1<=wd) (h2:wd<=8) (h0:0<s.size) (hn0:s[0].toNat=n) (hfit:(s.size:Int) -1<(n:Int) *wd):
 Calls Tryz.prog 189 #[.string s,.int .i64 wd] w (Nothing w):=by
 have hne:s.toList.isEmpty=false:=notEmpty h0
 have hlt0:(0:Int)<s.size:=by omega
 have hn:n<256:=by rw [←hn0];exact s[0].toNat_lt
 have htop:=mul_top hn h1 h2
 have HN:Hid _:=hn0
 clear hn0
 go_enter Tryz.func189,Tryz.ntmps189
 go_wp2
 go_quiet (fail)
 simp only [wrap64_byte]
 rw [HN.out]
 go_wp2
 refine bodyPost_ret (v:=.tuple #[.agg #[.string ⟨#[]⟩,.slice none 0 0],.bool false]) (by simp [results,Tryz.results189,go_sem]) rfl ⟨rfl,?_⟩
 exact (((belowN ((Below.refl _ _).alloc (Nat.le_refl _) _) _).setCell (by simp) _).setCell (by simp) _)
end Go.Proofs.YtpekbmegopfhfaaGreatDoor
namespace Go.Proofs.YtpekbmegopfhfaaGreatDoor
open Go.ChangeShapes Go.WideShapes Go.ChangeAt Go.RowKit
theorem ext1 (s:ByteArray) (a b:Nat) (hb:b<=s.size -1) (h0:0<s.size):(s.extract 1 s.size).extract a b=s.extract (1+a) (1+b):=by
 rw [ByteArray.extract_extract]
 congr 1
 omega
theorem refS_eq {s:ByteArray} {wd:Int} {k:Nat} (h0:0<s.size) (m1:0<=(k:Int) *wd) (h1:1<=wd) (m4:(k:Int) *wd+wd<=s.size -1):s.extract (1+(k:Int) *wd).toNat (1+(k:Int) *wd+wd).toNat=refI s wd k:=by
 unfold refI
 rw [ext1 s _ _ (by omega) h0,show (1+(k:Int) *wd).toNat=1+((k:Int) *wd).toNat from by omega,show (1+(k:Int) *wd+wd).toNat=1+((k:Int) *wd+wd).toNat from by omega]
theorem txtS_eq {s:ByteArray} {wd:Int} {n:Nat} (h0:0<s.size) (m1:0<=(n:Int) *wd):s.extract (1+(n:Int) *wd).toNat s.size=txtI s wd n:=by
 unfold txtI
 rw [ext1 s _ _ (by omega) h0,show (1+(n:Int) *wd).toNat=1+((n:Int) *wd).toNat from by omega,show 1+(s.size -1)=s.size from by omega]
set_option maxRecDepth 20000 in
set_option maxHeartbeats 1000000 in
theorem sRead_yes (s:ByteArray) (wd:Int) (n:Nat) (w:World) (hs:s.size<=1048576) (h1:1<=wd) (h2:wd<=8) (h0:0<s.size) (hn0:s[0].toNat=n) (hfit:(n:Int) *wd<=s.size -1):
 Calls Tryz.prog 82 #[.string s,.int .i64 wd] w fun e w'=>
  (okThing (txtI s wd n) (refsI s wd n) wd=true->∃v,e=.returned (.tuple #[.agg #[.string (txtI s wd n),v],.bool true])/\w'.ownsRow w.heap.size 9 1 v n ((refsI s wd n).map Value.string))/\
  (okThing (txtI s wd n) (refsI s wd n) wd=false->e=.returned (.tuple #[.agg #[.string ⟨#[]⟩,.slice none 0 0],.bool false]))/\Below w.heap.size w w':=by
 obtain ⟨i0,hi,hz0,hz1,hz2⟩:=info_parts Tryz.infoStr
 have hlt0:(0:Int)<s.size:=by omega
 have hsz0:((s.size:Int)==0)=false:=beq_eq_false_iff_ne.2 (by omega)
 have hn:n<256:=by rw [←hn0];exact s[0].toNat_lt
 have htop:=mul_top hn h1 h2
 have hwb:=wrap64_byte s[0]
 rw [hn0] at hwb
 go_enter Tryz.func82,Tryz.ntmps82
 go_wp2
 obtain ⟨txt,htxt⟩:∃txt,txt=txtI s wd n:=⟨_,rfl⟩
 rw [txtS_eq h0 htop.1,←htxt]
 have HTX:Hid _:=htxt
 clear htxt
 go_loopw [8] (fun i wr=>∃(k:Nat) (v:Value),k<=n/\i=.int .i64 k/\wr.cell? ⟨w.heap.size+1,0,none⟩=some (.string txt)/\wr.cell? ⟨w.heap.size+1,1,none⟩=some v/\wr.frozen? ⟨w.heap.size+1,1,none⟩=false/\
  wr.ownsRow (w.heap.size+2) 9 1 v k ((refsI s wd k).map Value.string)/\Below (w.heap.size+1) (w.alloc (Obj.cells #[Value.string ⟨#[]⟩,Value.slice none 0 0] 66)) wr) (fun i _=>n -(intOf i).toNat)
 case atStart=>exact ⟨0,.slice none 0 0,Nat.zero_le _,rfl,by simp [go_sem],by simp [go_sem],by simp [go_sem],World.ownsRow_nil _ _ _ _,(Below.refl _ _).alloc (by simp) _⟩
 case round=>
  obtain ⟨k,v,hk,rfl,hc0,hc1,hf1,hown,hbel⟩:=hrel
  have hsz:=hbel.size
  simp at hsz
  by_cases hlt:k<n
  ·obtain ⟨m1,m2,m3,m4⟩:=mul_bd h1 hlt
   have hlt':(k:Int)<n:=by omega
   have e1:=wrapI ((k:Int) *wd) (by omega) (by omega)
   have e2:=wrapI (1+(k:Int) *wd) (by omega) (by omega)
   have e3:=wrapI (1+(k:Int) *wd+wd) (by omega) (by omega)
   have b1:(0:Int)<=1+(k:Int) *wd:=by omega
   have b2:1+(k:Int) *wd<=1+(k:Int) *wd+wd:=by omega
   have b3:1+(k:Int) *wd+wd<=(s.size:Int):=by omega
   have href:Hid _:=refS_eq h0 m1 h1 (by omega:(k:Int) *wd+wd<=s.size -1)
   have hne:=own_ne hown (b:=w.heap.size+1) (by omega)
   have hTlt:w.heap.size+1<wr.heap.size:=World.block_lt_of_cell? wr _ hc0
   clear m3
   go_wp2
   go_region_law (refine step_append_lies _ rfl (.tmp 45) (.tmp 58) 22 rfl (w.heap.size+2) 9 i0 (.string ⟨#[]⟩) 1 16 Tryz.underlying22 hi hz0 hz1 hz2 rfl (by decide) v k ((refsI s wd k).map Value.string) rfl (World.ownsRow.alloc hown _) ⟨wr.heap.size,0,none⟩ 1 1 [.string (s.extract (1+(k:Int) *wd).toNat (1+(k:Int) *wd+wd).toNat)] rfl rfl (cell_one_new wr (.string (s.extract (1+(k:Int) *wd).toNat (1+(k:Int) *wd+wd).toNat)) 9) (by simp [Value.oneCell']) (by decide) (by unfold maxLen;omega) (by omega) (by simp;omega) (wr.heap.size+1) (by simp) ?_;intro g cap w1 hown' hgrow hat hltg;have hd0:=grow_cell hgrow hc0 hne;have hd1:=grow_cell hgrow hc1 hne;have hdf:=(grow_frozen (p:=⟨w.heap.size+1,1,none⟩) hgrow (by simp;omega) hne).trans hf1)
   all_goals
    rw [href.out] at hown'
    have R:=read_next hTlt hown hbel hown' hgrow hd0 hd1 hdf
    have HR:Hid _:=R
    clear R hown hbel hown' hgrow hd0 hc0 hc1 hf1
    go_wp2
    refine ⟨⟨_,_,_,_,_,_,_,_,_,_,_,_,_,_,_,_,_,_,_,_,_,_,_,⟨k+1,_,by omega,?_,HR.out.1,HR.out.2.1,HR.out.2.2.1,HR.out.2.2.2.1,HR.out.2.2.2.2⟩,rfl⟩,?_⟩
    ·go_num
    ·simp [intOf];omega
  ·obtain rfl:k=n:=by omega
   have hTlt:w.heap.size+1<wr.heap.size:=World.block_lt_of_cell? wr _ hc0
   obtain ⟨a,cap,hv,hrow⟩:=own_formS (ss:=refsI s wd k) (by rw [refsI_length];exact hown)
   rw [refsI_length] at hv
   subst hv
   have hr0:(wr.cell? ⟨w.heap.size,0,none⟩)=some (.string ⟨#[]⟩):=by rw [hbel.cell (p:=⟨w.heap.size,0,none⟩) (by simp)];simp
   have hr1:(wr.cell? ⟨w.heap.size,1,none⟩)=some (.slice none 0 0):=by rw [hbel.cell (p:=⟨w.heap.size,1,none⟩) (by simp)];simp
   have hrf0:wr.frozen? ⟨w.heap.size,0,none⟩=false:=by rw [hbel.frozen (p:=⟨w.heap.size,0,none⟩) (by simp)];simp
   have hrf1:wr.frozen? ⟨w.heap.size,1,none⟩=false:=by rw [hbel.frozen (p:=⟨w.heap.size,1,none⟩) (by simp)];simp
   have hts:txt.size<=maxLen:=by
    rw [HTX.out]
    simp [txtI,maxLen]
    omega
   have hcall:=sThingOk_any txt a cap (refsI s wd k) wd wr hrow (by rw [refsI_length];omega) hts
   rw [refsI_length] at hcall
   have hTlt0:w.heap.size<wr.heap.size:=by omega
   go_wp2_with fail
   refine hcall.mono ?_
   rintro e w2 ⟨rfl,hb2⟩
   have hB:Below w.heap.size w wr:=((Below.refl _ _).alloc (Nat.le_refl _) _).trans (hbel.mono (by omega))
   have hB2:=hB.trans (hb2.mono hB.size)
   have hown2:=hown.kept (row:=none) ⟨hb2.os,hb2.tape,hb2.output,hb2.size,fun k hk _=>hb2.block k hk⟩ (by cases a<;>simp [Value.ownBlock])
   have hc0:w2.cell? ⟨w.heap.size+1,0,none⟩=some (.string txt):=(hb2.cell (p:=⟨w.heap.size+1,0,none⟩) hTlt).trans hc0
   have hc1:w2.cell? ⟨w.heap.size+1,1,none⟩=some (.slice a k cap):=(hb2.cell (p:=⟨w.heap.size+1,1,none⟩) hTlt).trans hc1
   have hr0:w2.cell? ⟨w.heap.size,0,none⟩=some (.string ⟨#[]⟩):=(hb2.cell (p:=⟨w.heap.size,0,none⟩) hTlt0).trans hr0
   have hr1:w2.cell? ⟨w.heap.size,1,none⟩=some (.slice none 0 0):=(hb2.cell (p:=⟨w.heap.size,1,none⟩) hTlt0).trans hr1
   have hrf0:w2.frozen? ⟨w.heap.size,0,none⟩=false:=(hb2.frozen (p:=⟨w.heap.size,0,none⟩) hTlt0).trans hrf0
   have hrf1:w2.frozen? ⟨w.heap.size,1,none⟩=false:=(hb2.frozen (p:=⟨w.heap.size,1,none⟩) hTlt0).trans hrf1
   cases hok:okThing txt (refsI s wd k) wd with
   |true=>
    clear hcall
    go_wp2
    refine bodyPost_ret (v:=.tuple #[.agg #[.string txt,.slice a k cap],.bool true]) (by simp [results,Tryz.results82,go_sem,hr0,hr1]) rfl ⟨fun _=>⟨.slice a k cap,?_,?_⟩,fun h=> ?_,?_⟩
    ·rw [HTX.out]
    ·exact (ownsRow_setCell_below (ownsRow_setCell_below hown2 (by simp) _) (by simp) _).mono (by omega)
    ·rw [←HTX.out,hok] at h;cases h
    ·exact (hB2.setCell (by simp) _).setCell (by simp) _
   |false=>
    clear hcall
    go_wp2
    refine bodyPost_ret (v:=.tuple #[.agg #[.string ⟨#[]⟩,.slice none 0 0],.bool false]) (by simp [results,Tryz.results82,go_sem,hr0,hr1]) rfl ⟨fun h=> ?_,fun _=>rfl,?_⟩
    ·rw [←HTX.out,hok] at h;cases h
    ·exact (hB2.setCell (by simp) _).setCell (by simp) _
theorem sRead_no1 (s:ByteArray) (wd:Int) (w:World) (h:¬(1<=wd/\wd<=8)):
 Calls Tryz.prog 82 #[.string s,.int .i64 wd] w (Nothing w):=by
 by_cases h1:1<=wd
 ·have h2:decide (wd<=8)=false:=by simp;omega
  go_enter Tryz.func82,Tryz.ntmps82
  go_wp2
  exact bodyPost_ret (v:=.tuple #[.agg #[.string ⟨#[]⟩,.slice none 0 0],.bool false]) (by simp [results,Tryz.results82,go_sem]) rfl ⟨rfl,(Below.refl _ _).alloc (Nat.le_refl _) _⟩
 ·go_enter Tryz.func82,Tryz.ntmps82
  go_wp2
  exact bodyPost_ret (v:=.tuple #[.agg #[.string ⟨#[]⟩,.slice none 0 0],.bool false]) (by simp [results,Tryz.results82,go_sem]) rfl ⟨rfl,(Below.refl _ _).alloc (Nat.le_refl _) _⟩
theorem sRead_no2 (s:ByteArray) (wd:Int) (w:World) (h1:1<=wd) (h2:wd<=8) (h0:s.size=0):
 Calls Tryz.prog 82 #[.string s,.int .i64 wd] w (Nothing w):=by
 have hsz0:((s.size:Int)==0)=true:=beq_iff_eq.2 (by omega)
 go_enter Tryz.func82,Tryz.ntmps82
 go_wp2
 exact bodyPost_ret (v:=.tuple #[.agg #[.string ⟨#[]⟩,.slice none 0 0],.bool false]) (by simp [results,Tryz.results82,go_sem]) rfl ⟨rfl,(Below.refl _ _).alloc (Nat.le_refl _) _⟩
set_option maxHeartbeats 1000000 in
theorem sRead_no3 (s:ByteArray) (wd:Int) (n:Nat) (w:World) (hs:s.size<=1048576) (h1:1<=wd) (h2:wd<=8) (h0:0<s.size) (hn0:s[0].toNat=n) (hfit:(s.size:Int) -1<(n:Int) *wd):
 Calls Tryz.prog 82 #[.string s,.int .i64 wd] w (Nothing w):=by
 have hlt0:(0:Int)<s.size:=by omega
 have hsz0:((s.size:Int)==0)=false:=beq_eq_false_iff_ne.2 (by omega)
 have hn:n<256:=by rw [←hn0];exact s[0].toNat_lt
 have htop:=mul_top hn h1 h2
 have hwb:=wrap64_byte s[0]
 rw [hn0] at hwb
 go_enter Tryz.func82,Tryz.ntmps82
 go_wp2
 exact bodyPost_ret (v:=.tuple #[.agg #[.string ⟨#[]⟩,.slice none 0 0],.bool false]) (by simp [results,Tryz.results82,go_sem]) rfl ⟨rfl,(Below.refl _ _).alloc (Nat.le_refl _) _⟩
def rdN (s:ByteArray) (wd:Int) (n:Nat):ByteArray×List ByteArray×Bool:=
 if (n:Int) *wd<=s.size -1/\okThing (txtI s wd n) (refsI s wd n) wd=true then (txtI s wd n,refsI s wd n,true) else (⟨#[]⟩,[],false)
def rd (s:ByteArray) (wd:Int):ByteArray×List ByteArray×Bool:=
 if 1<=wd/\wd<=8 then
  match s.data.toList.head? with
  |none=>(⟨#[]⟩,[],false)
  |some b=>rdN s wd b.toNat
 else (⟨#[]⟩,[],false)
def ReadPost (s:ByteArray) (wd:Int) (w:World) (e:Ending) (w':World):Prop:=
 ∃v,e=.returned (.tuple #[.agg #[.string (rd s wd).1,v],.bool (rd s wd).2.2])/\w'.ownsRow w.heap.size 9 1 v (rd s wd).2.1.length ((rd s wd).2.1.map Value.string)/\Below w.heap.size w w'
theorem rd_head {s:ByteArray} (h0:0<s.size):s.data.toList.head?=some s[0]:=by
 rw [List.head?_eq_getElem?,List.getElem?_eq_getElem (by simpa using h0)]
 rfl
theorem rd_le (s:ByteArray) (wd:Int):(rd s wd).2.1.length<=255:=by
 unfold rd
 split
 ·split
  ·simp
  ·rename_i b _
   unfold rdN
   have:=b.toNat_lt
   split
   ·simp [refsI_length];omega
   ·simp
 ·simp
theorem of_nothing {s:ByteArray} {wd:Int} {w:World} (h:rd s wd=(⟨#[]⟩,[],false)):∀e w',Nothing w e w'->ReadPost s wd w e w':=by
 rintro e w' ⟨rfl,hb⟩
 unfold ReadPost
 rw [h]
 exact ⟨.slice none 0 0,rfl,World.ownsRow_nil _ _ _ _,hb⟩
theorem of_yes {s:ByteArray} {wd:Int} {n:Nat} {w:World} (hr:rd s wd=rdN s wd n) (hfit:(n:Int) *wd<=s.size -1):∀e w',
 ((okThing (txtI s wd n) (refsI s wd n) wd=true->∃v,e=.returned (.tuple #[.agg #[.string (txtI s wd n),v],.bool true])/\w'.ownsRow w.heap.size 9 1 v n ((refsI s wd n).map Value.string))/\
   (okThing (txtI s wd n) (refsI s wd n) wd=false->e=.returned (.tuple #[.agg #[.string ⟨#[]⟩,.slice none 0 0],.bool false]))/\Below w.heap.size w w')->ReadPost s wd w e w':=by
 rintro e w' ⟨h1,h2,hb⟩
 unfold ReadPost
 rw [hr]
 unfold rdN
 cases hok:okThing (txtI s wd n) (refsI s wd n) wd with
 |true=>
  rw [if_pos ⟨hfit,rfl⟩]
  obtain ⟨v,he,ho⟩:=h1 hok
  exact ⟨v,he,by simpa [refsI_length] using ho,hb⟩
 |false=>
  rw [if_neg (by simp)]
  exact ⟨.slice none 0 0,h2 hok,World.ownsRow_nil _ _ _ _,hb⟩
theorem iRead_any (s:ByteArray) (wd:Int) (w:World) (hs:s.size<=1048576):Calls Tryz.prog 189 #[.string s,.int .i64 wd] w (ReadPost s wd w):=by
 by_cases hw:1<=wd/\wd<=8
 ·by_cases h0:0<s.size
  ·have hr:rd s wd=rdN s wd s[0].toNat:=by unfold rd;rw [if_pos hw,rd_head h0]
   by_cases hfit:(s[0].toNat:Int) *wd<=s.size -1
   ·exact (iRead_yes s wd _ w hs hw.1 hw.2 h0 rfl hfit).mono (of_yes hr hfit)
   ·exact (iRead_no3 s wd _ w hs hw.1 hw.2 h0 rfl (by omega)).mono (of_nothing (by rw [hr];unfold rdN;rw [if_neg (fun h=>hfit h.1)]))
  ·refine (iRead_no2 s wd w hw.1 hw.2 (by omega)).mono (of_nothing ?_)
   have hl:s.data.toList=[]:=List.eq_nil_of_length_eq_zero (by have h3:s.data.toList.length=s.size:=Array.length_toList;omega)
   unfold rd;rw [if_pos hw,hl];rfl
 ·exact (iRead_no1 s wd w hw).mono (of_nothing (by unfold rd;rw [if_neg hw]))
theorem sRead_any (s:ByteArray) (wd:Int) (w:World) (hs:s.size<=1048576):Calls Tryz.prog 82 #[.string s,.int .i64 wd] w (ReadPost s wd w):=by
 by_cases hw:1<=wd/\wd<=8
 ·by_cases h0:0<s.size
  ·have hr:rd s wd=rdN s wd s[0].toNat:=by unfold rd;rw [if_pos hw,rd_head h0]
   by_cases hfit:(s[0].toNat:Int) *wd<=s.size -1
   ·exact (sRead_yes s wd _ w hs hw.1 hw.2 h0 rfl hfit).mono (of_yes hr hfit)
   ·exact (sRead_no3 s wd _ w hs hw.1 hw.2 h0 rfl (by omega)).mono (of_nothing (by rw [hr];unfold rdN;rw [if_neg (fun h=>hfit h.1)]))
  ·refine (sRead_no2 s wd w hw.1 hw.2 (by omega)).mono (of_nothing ?_)
   have hl:s.data.toList=[]:=List.eq_nil_of_length_eq_zero (by have h3:s.data.toList.length=s.size:=Array.length_toList;omega)
   unfold rd;rw [if_pos hw,hl];rfl
 ·exact (sRead_no1 s wd w hw).mono (of_nothing (by unfold rd;rw [if_neg hw]))
end Go.Proofs.YtpekbmegopfhfaaGreatDoor
namespace Go.Proofs.YtpekbmegopfhfaaGreatDoor
open Go.ChangeShapes Go.WideShapes Go.ChangeAt Go.RowKit
def errV:Option Addr->Value
 |none=> .nilIface
 |some q=> .iface 183 (.pointer (some q))
structure ERd (w:World) (b:Nat) (rest:ByteArray) (kind:Int) (er:Option Addr):Prop where
 x0:w.cell? ⟨b,0,none⟩=some (.string rest)
 x1:w.cell? ⟨b,1,none⟩=some (.int .i64 kind)
 x2:w.cell? ⟨b,2,none⟩=some (errV er)
 f0:w.frozen? ⟨b,0,none⟩=false
 f1:w.frozen? ⟨b,1,none⟩=false
 f2:w.frozen? ⟨b,2,none⟩=false
def RSt (w:World) (b:Nat) (rest:ByteArray) (kind:Int) (bad:Bool):Prop:=∃er:Option Addr,er.isSome=bad/\ERd w b rest kind er
theorem ERd.lt {w:World} {b:Nat} {rest:ByteArray} {kind:Int} {er:Option Addr} (h:ERd w b rest kind er):b<w.heap.size:=World.block_lt_of_cell? w _ h.x0
theorem ERd.below {w w':World} {b:Nat} {rest:ByteArray} {kind:Int} {er:Option Addr} (h:ERd w b rest kind er) (hb:Below w.heap.size w w'):ERd w' b rest kind er:=by
 have hl:=h.lt
 exact ⟨(hb.cell (p:=⟨b,0,none⟩) hl).trans h.x0,(hb.cell (p:=⟨b,1,none⟩) hl).trans h.x1,(hb.cell (p:=⟨b,2,none⟩) hl).trans h.x2,(hb.frozen (p:=⟨b,0,none⟩) hl).trans h.f0,(hb.frozen (p:=⟨b,1,none⟩) hl).trans h.f1,(hb.frozen (p:=⟨b,2,none⟩) hl).trans h.f2⟩
theorem RSt.below {w w':World} {b:Nat} {rest:ByteArray} {kind:Int} {bad:Bool} (h:RSt w b rest kind bad) (hb:Below w.heap.size w w'):RSt w' b rest kind bad:=by
 obtain ⟨er,h1,h2⟩:=h
 exact ⟨er,h1,h2.below hb⟩
theorem fail_any (b:Nat) (rest:ByteArray) (kind:Int) (bad:Bool) (ct:TypeId) (cv:Value) (w:World) (h:RSt w b rest kind bad):
 Calls Tryz.prog 158 #[.pointer (some ⟨b,0,none⟩),.iface ct cv] w fun e w'=>e=.returned (.tuple #[])/\RSt w' b rest kind true/\w.grownBy w' (some b):=by
 obtain ⟨er,rfl,h⟩:=h
 have hl:=h.lt
 obtain ⟨x0,x1,x2,f0,f1,f2⟩:=h
 cases er with
 |none=>
  simp only [errV] at x2
  go_enter Tryz.func158,Tryz.ntmps158
  go_wp2
  go_end0
  refine ⟨rfl,⟨some ⟨w.heap.size,0,none⟩,rfl,?_⟩,?_⟩
  ·have hne:b≠w.heap.size:=by omega
   constructor<;>simp [errV,go_sem, *]
  ·exact (rd_grown _ _ _ _).trans (World.grownBy_alloc _ _ _)
 |some q=>
  simp only [errV] at x2
  go_enter Tryz.func158,Tryz.ntmps158
  go_wp2
  go_end0
  exact ⟨rfl,⟨some q,rfl,⟨x0,x1,x2,f0,f1,f2⟩⟩,World.grownBy.refl _ _⟩
def takeR (rest:ByteArray) (bad:Bool) (n:Int):ByteArray×ByteArray×Bool:=
 if bad=true then (⟨#[]⟩,rest,true) else if (rest.size:Int)<n then (⟨#[]⟩,rest,true) else (rest.extract 0 n.toNat,rest.extract n.toNat rest.size,false)
theorem take_any (b:Nat) (rest:ByteArray) (kind:Int) (bad:Bool) (n:Int) (gt:TypeId) (gv:Value) (w:World) (h:RSt w b rest kind bad) (hn:bad=false->0<=n) (hg:w.cell? ⟨6,0,none⟩=some (.iface gt gv)):
 Calls Tryz.prog 161 #[.pointer (some ⟨b,0,none⟩),.int .i64 n] w fun e w'=>e=.returned (.string (takeR rest bad n).1)/\RSt w' b (takeR rest bad n).2.1 kind (takeR rest bad n).2.2/\w.grownBy w' (some b):=by
 have h':=h
 obtain ⟨er,rfl,h⟩:=h
 have hl:=h.lt
 obtain ⟨x0,x1,x2,f0,f1,f2⟩:=h
 cases er with
 |none=>
  simp only [errV] at x2
  have hn0:=hn rfl
  by_cases hf:(rest.size:Int)<n
  ·rw [show takeR rest (none:Option Addr).isSome n=(⟨#[]⟩,rest,true) by simp [takeR,hf]]
   have d1:decide ((rest.size:Int)<n)=true:=by simpa using hf
   go_enter Tryz.func161,Tryz.ntmps161
   go_wp2_with fail
   refine (fail_any b rest kind false gt gv w h').mono ?_
   rintro e w1 ⟨rfl,h1,g1⟩
   go_wp2
   go_ret
   exact ⟨rfl,h1,g1⟩
  ·rw [show takeR rest (none:Option Addr).isSome n=(rest.extract 0 n.toNat,rest.extract n.toNat rest.size,false) by simp [takeR,hf]]
   have d1:decide ((rest.size:Int)<n)=false:=by simpa using hf
   go_enter Tryz.func161,Tryz.ntmps161
   go_wp2
   go_ret
   refine ⟨rfl,⟨none,rfl,?_⟩,rd_grown _ _ _ _⟩
   constructor<;>simp [errV,go_sem, *]
 |some q=>
  rw [show takeR rest (some q:Option Addr).isSome n=(⟨#[]⟩,rest,true) by simp [takeR]]
  simp only [errV] at x2
  go_enter Tryz.func161,Tryz.ntmps161
  go_wp2
  go_ret
  exact ⟨rfl,⟨some q,rfl,⟨x0,x1,x2,f0,f1,f2⟩⟩,World.grownBy.refl _ _⟩
def numB (l:List UInt8):Int:=l.foldl (fun a b=>a *256+(b.toNat:Int)) 0
theorem numB_snoc (l:List UInt8) (b:UInt8):numB (l++[b])=numB l *256+(b.toNat:Int):=by simp [numB]
theorem numB_go (l:List UInt8):∀a:Int,0<=a->0<=l.foldl (fun a b=>a *256+(b.toNat:Int)) a/\l.foldl (fun a b=>a *256+(b.toNat:Int)) a<(a+1) *256^l.length:=by
 induction l with
 |nil=>intro a ha;simp;omega
 |cons b l ih=>
  intro a ha
  have hb:=b.toNat_lt
  obtain ⟨h1,h2⟩:=ih (a *256+(b.toNat:Int)) (by omega)
  refine ⟨h1,Int.lt_of_lt_of_le h2 ?_⟩
  rw [List.length_cons,Int.pow_succ,←Int.mul_assoc,Int.mul_right_comm]
  exact Int.mul_le_mul_of_nonneg_right (by omega) (Int.pow_nonneg (by omega))
theorem numB_range (l:List UInt8):0<=numB l/\numB l<256^l.length:=by
 have:=numB_go l 0 (Int.le_refl _)
 simpa [numB] using this
theorem bits_or8 (a b:Nat) (ha:a<2^30) (hb:b<256):bits .or .i64 ((a:Int) *256) (b:Int)=(a:Int) *256+b:=by
 have e0:((a:Int) *256)=((a *256:Nat):Int):=by omega
 have e2:a *256|||b=a *256+b:=by
  have:=Nat.shiftLeft_add_eq_or_of_lt (i:=8) (b:=b) (by omega) a
  rw [Nat.shiftLeft_eq,show (2:Nat)^8=256 from rfl] at this
  omega
 have e1:(BitVec.ofInt 64 ((a:Int) *256)|||BitVec.ofInt 64 (b:Int)).toNat=a *256+b:=by
  rw [e0,BitVec.toNat_or,BitVec.ofInt_natCast,BitVec.ofInt_natCast,BitVec.toNat_ofNat,BitVec.toNat_ofNat,Nat.mod_eq_of_lt (by omega),Nat.mod_eq_of_lt (by omega),e2]
 show IntKind.i64.wrap ((BitVec.ofInt 64 ((a:Int) *256)|||BitVec.ofInt 64 (b:Int)).toNat:Int)=_
 rw [e1,wrapI _ (by omega) (by omega)]
 omega
set_option maxHeartbeats 1000000 in
theorem number_any (b:Nat) (rest:ByteArray) (kind:Int) (bad:Bool) (n:Nat) (gt:TypeId) (gv:Value) (w:World) (h:RSt w b rest kind bad) (hn:n<=4) (hg:w.cell? ⟨6,0,none⟩=some (.iface gt gv)):
 Calls Tryz.prog 159 #[.pointer (some ⟨b,0,none⟩),.int .i64 (n:Int)] w fun e w'=>e=.returned (.int .i64 (numB (takeR rest bad n).1.data.toList))/\RSt w' b (takeR rest bad n).2.1 kind (takeR rest bad n).2.2/\w.grownBy w' (some b):=by
 have hsz:(takeR rest bad n).1.size<=4:=by
  unfold takeR
  split
  ·exact Nat.zero_le _
  ·split
   ·exact Nat.zero_le _
   ·simp;omega
 go_enter Tryz.func159,Tryz.ntmps159
 go_wp2_with fail
 refine (take_any b rest kind bad n gt gv w h (fun _=>by omega) hg).mono ?_
 rintro e w1 ⟨rfl,h1,g1⟩
 have H1:Hid _:=And.intro h1 g1
 clear h1 g1 h hg
 obtain ⟨tk,htk⟩:∃tk,tk=(takeR rest bad n).1:=⟨_,rfl⟩
 rw [←htk] at hsz ⊢
 have HK:Hid _:=htk
 clear htk
 go_wp2
 go_loop [6,13] (fun x i=>∃k:Nat,k<=tk.size/\i=.int .i64 k/\x=.int .i64 (numB (tk.data.toList.take k))) (fun _ i=>tk.size -(intOf i).toNat)
 case atStart=>exact ⟨0,Nat.zero_le _,rfl,rfl⟩
 case round=>
  obtain ⟨k,hk,rfl,rfl⟩:=hrel
  by_cases hlt:k<tk.size
  ·have hx:=numB_range (tk.data.toList.take k)
   have hstep:numB (tk.data.toList.take (k+1))=numB (tk.data.toList.take k) *256+(tk[k].toNat:Int):=by
    rw [←numB_snoc,List.take_succ_eq_append_getElem (by simpa using hlt)]
    rfl
   have hpw:numB (tk.data.toList.take k)<16777216:=by
    have h2:=hx.2
    have hle:(tk.data.toList.take k).length=0∨(tk.data.toList.take k).length=1∨(tk.data.toList.take k).length=2∨(tk.data.toList.take k).length=3:=by simp;omega
    rcases hle with hl|hl|hl|hl<;>rw [hl] at h2<;>simp at h2<;>omega
   obtain ⟨X,hX⟩:∃X:Nat,numB (tk.data.toList.take k)=(X:Int):=⟨_,(Int.toNat_of_nonneg hx.1).symm⟩
   have hob:=bits_or8 X tk[k].toNat (by omega) tk[k].toNat_lt
   rw [hX] at hstep ⊢
   have hw1:IntKind.i64.wrap ((X:Int) *256)=(X:Int) *256:=wrapI _ (by omega) (by omega)
   clear hx
   go_wp2
   exact ⟨⟨k+1,by omega,by go_num,by rw [hstep,wrap64_byte,hob]⟩,by simp [intOf];omega⟩
  ·obtain rfl:k=tk.size:=by omega
   have hall:tk.data.toList.take tk.size=tk.data.toList:=List.take_of_length_le (by simp)
   rw [hall]
   go_wp2
   go_ret
   exact ⟨by rw [←HK.out];rfl,H1.out⟩
end Go.Proofs.YtpekbmegopfhfaaGreatDoor
