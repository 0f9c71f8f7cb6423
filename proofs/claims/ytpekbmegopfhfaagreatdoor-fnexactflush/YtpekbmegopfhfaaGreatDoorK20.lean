import Derived.Test.YtpekbmegopfhfaaGreatDoorK19
import Derived.LaidEql
import Derived.Stop.Asserts
import Derived.RowKitTokens
set_option maxRecDepth 100000
set_option maxHeartbeats 16000000
namespace Go.Proofs.YtpekbmegopfhfaaGreatDoor
open Go.ChangeShapes Go.WideShapes Go.ChangeAt Go.RowKit _root_.Go.Proofs.Tryz
section
open Go.RowKit Go.Extern.Stop Go.Stop Go.Extern
def Mh (w:World):Prop:=w.cell? (XL 4 0)=some (.iface 253 (.agg #[.pointer (some ⟨9,179,none⟩)]))
theorem VB (t:Value) (w:World):
 Calls prog 137 #[.nilIface,t] w fun e w'=>e=.returned (.bool false)/\w'=w:=by
 go_enter func137,ntmps137;go_wp2;go_ret;exact⟨rfl,rfl⟩
abbrev rt (t:Nat):Value:=.agg #[.pointer (some ⟨9,t,none⟩)]
abbrev rv (t:Nat) (a:Addr) (f:Int):Value:=.agg #[.pointer (some ⟨9,t,none⟩),.pointer (some a),.int .u64 f]
theorem Th (t:Addr) (w:World):(ReflectliteValue.unpack (.iface 185 (.pointer (some t)))).run prog w
 =.ok (rv 185 ⟨w.heap.size,0,none⟩ 150) (w.alloc (.cells #[.pointer (some t)] 185)):=by kernel_rfl
theorem Ti (e:Addr) (w:World):(ReflectliteValue.unpack (.iface 183 (.pointer (some e)))).run prog w
 =.ok (rv 183 ⟨w.heap.size,0,none⟩ 150) (w.alloc (.cells #[.pointer (some e)] 183)):=by kernel_rfl
theorem VC (a:Addr) (w:World):(ReflectliteValue.methodAny (ReflectliteValue.valueError "reflectlite.Value.Type" 0) (fun t _ _ _=>ReflectliteType.toType t) #[rv 185 a 150]).run prog w
 =.ok (.iface 253 (rt 185)) w:=by kernel_rfl
theorem UU (h:Value) (w:World):(Go.method 450 253 (.agg #[h]) "Kind").run prog w=.ok (278,h) w:=by kernel_rfl
theorem UV (h:Value) (w:World):(Go.method 450 253 (.agg #[h]) "Elem").run prog w=.ok (290,.agg #[h]) w:=by kernel_rfl
theorem UW (h:Value) (w:World):(Go.method 450 253 (.agg #[h]) "Implements").run prog w=.ok (291,.agg #[h]) w:=by kernel_rfl
theorem VD (h:Value) (w:World):(Go.method 450 253 (.agg #[h]) "AssignableTo").run prog w=.ok (288,.agg #[h]) w:=by kernel_rfl
theorem UX (w:World):((ReflectliteType.abiMethod fun t=>(fun a:Nat=>Value.int IntKind.u8 (a:Int))<$>Rtype.kind t) #[.pointer (some ⟨9,185,none⟩)]).run prog w=.ok (.int .u8 22) w:=by kernel_rfl
theorem UY (w:World):((ReflectliteType.abiMethod fun t=>(fun a:Nat=>Value.int IntKind.u8 (a:Int))<$>Rtype.kind t) #[.pointer (some ⟨9,183,none⟩)]).run prog w=.ok (.int .u8 22) w:=by kernel_rfl
theorem VE (w:World):(ReflectliteType.method ReflectliteType.elem #[rt 185]).run prog w=.ok (.iface 253 (rt 183)) w:=by kernel_rfl
theorem VF (w:World):(ReflectliteType.relation "Implements" ReflectliteType.implements_ #[rt 183,.iface 253 (rt 179)]).run prog w=.ok (.bool true) w:=by kernel_rfl
theorem Tj (v:Value) (w:World):(ReflectliteType.typeOf #[.iface 183 v]).run prog w=.ok (.iface 253 (rt 183)) w:=by kernel_rfl
theorem Wj (w:World):(ReflectliteType.relation "AssignableTo" ReflectliteType.assignableTo #[rt 183,.iface 253 (rt 183)]).run prog w=.ok (.bool true) w:=by kernel_rfl
theorem Tk (w:World):(Rtype.elem? 185).run prog w=.ok (some 183) w:=by kernel_rfl
theorem WH (p:Addr) (w:World):(ReflectliteValue.mk 183 p ReflectliteValue.flagAddr).run prog w=.ok (rv 183 p 406) w:=by kernel_rfl
theorem MV (a:Addr) (w:World):(ReflectliteValue.parts (rv 185 a 150)).run prog w=.ok (some (185,a,150)) w:=by kernel_rfl
theorem Tl (a:Addr) (w:World):(ReflectliteValue.parts (rv 183 a 406)).run prog w=.ok (some (183,a,406)) w:=by kernel_rfl
theorem Tm (a:Addr) (w:World):(ReflectliteValue.parts (rv 183 a 150)).run prog w=.ok (some (183,a,150)) w:=by kernel_rfl
theorem Tp (w:World):(Rtype.directlyAssignable 183 183).run prog w=.ok true w:=by kernel_rfl
theorem Ro (z:Sem Value) (f:TypeId->Addr->Nat->Nat->Sem Value) (v:Value):
 ReflectliteValue.method z f #[v]=(do match ←ReflectliteValue.parts v with|none=>z|some (t,a,fl)=>f t a fl (fl%32)):=rfl
theorem UZ (a p:Addr) (W:World) (ha:W.cell? a=some (.pointer (some p))):
 (ReflectliteValue.method (ReflectliteValue.valueError "reflectlite.Value.IsNil" 0) ReflectliteValue.isNil #[rv 185 a 150]).run prog W=.ok (.bool false) W:=by
 rw[Ro];simp only[Sem.run_bind,MV,Result.andThen];simp[ReflectliteValue.isNil,loadVar,isAgg,underlying,underlying185,ha,Result.andThen]
theorem Vb (a p:Addr) (W:World) (ha:W.cell? a=some (.pointer (some p))):
 (ReflectliteValue.method (ReflectliteValue.valueError "reflectlite.Value.Elem" 0) ReflectliteValue.elem #[rv 185 a 150]).run prog W=.ok (rv 183 p 406) W:=by
 rw[Ro];simp only[Sem.run_bind,MV,Result.andThen];simp[ReflectliteValue.elem,loadVar,isAgg,underlying,underlying185,ha,Result.andThen,Tk,WH]
theorem VG (v x:Value):ReflectliteValue.set #[v,x]=(do
 let (some (dst,a,fl),some (src,b,_)):=(←ReflectliteValue.parts v,←ReflectliteValue.parts x)
  |unsupported (.noEntry "extern/(internal/reflectlite.Value).Set.zeroValue")
 if fl/ReflectliteValue.flagAddr%2==0 then unsupported (.noEntry "extern/(internal/reflectlite.Value).Set.unaddressable")
 let val ←loadVar src b
 if ←Rtype.directlyAssignable dst src then storeVar dst a val
 else if ←Rtype.implements dst src then
  if (←Rtype.kind src)==20 then
   match val with
   |.nilIface=>unsupported (.noEntry "extern/reflectlite: a nil value of one interface type handed on as a value of another")
   |_=>storeVar dst a val
  else storeVar dst a (.iface src val)
 else panicString ("reflectlite.Set: value of type " ++(←Rtype.spelt src)++ " is not assignable to type " ++(←Rtype.spelt dst))
 pure (.tuple #[])):=rfl
theorem Wk (ta b e:Addr) (zA:Value) (W:World) (hb:W.cell? b=some (.pointer (some e))) (ht:W.cell? ta=some zA) (hf:W.frozen? ta=false):
 (ReflectliteValue.set #[rv 183 ta 406,rv 183 b 150]).run prog W=.ok (.tuple #[]) (W.setCell ta (.pointer (some e))):=by
 rw[VG];simp only[Sem.run_bind,Tl,Tm,Result.andThen];simp[ReflectliteValue.flagAddr,loadVar,isAgg,underlying,underlying183,hb,Result.andThen,Tp,storeVar,Value.cells,storeCells,Addr.add];rw[run_store prog W ta _ _ (by rfl)];simp[ht,hf]
theorem VH (e:Addr) (tb:Nat) (zB:Value) (w:World) (hg:Mh w) (zC:w.cell? (XL tb 0)=some zB) (zG:w.frozen? ⟨tb,0,none⟩=false):
 Calls prog 137 #[.iface 183 (.pointer (some e)),.iface 185 (.pointer (some ⟨tb,0,none⟩))] w fun ev w'=>ev=.returned (.bool true)/\Below tb w w':=by
 have h1:= @run_callFunc_extern prog 164 _ (fun args=>ReflectliteValue.unpack (args.getD 0 (.tuple #[]))) func164 (by kernel_rfl) (by kernel_rfl) (by kernel_rfl) (by kernel_rfl)
 have h2:= @run_callFunc_extern prog 165 _ (ReflectliteValue.methodAny (ReflectliteValue.valueError "reflectlite.Value.Type" 0) (fun t _ _ _=>ReflectliteType.toType t)) func165 (by kernel_rfl) (by kernel_rfl) (by kernel_rfl) (by kernel_rfl)
 have h3:= @run_callFunc_extern prog 166 _ (ReflectliteValue.method (ReflectliteValue.valueError "reflectlite.Value.IsNil" 0) ReflectliteValue.isNil) func166 (by kernel_rfl) (by kernel_rfl) (by kernel_rfl) (by kernel_rfl)
 have h4:= @run_callFunc_extern prog 278 _ (ReflectliteType.abiMethod fun t=>do pure (.int .u8 (←Rtype.kind t))) func278 (by kernel_rfl) (by kernel_rfl) (by kernel_rfl) (by kernel_rfl);have h5:= @run_callFunc_extern prog 290 _ (ReflectliteType.method ReflectliteType.elem) func290 (by kernel_rfl) (by kernel_rfl) (by kernel_rfl) (by kernel_rfl)
 have h6:= @run_callFunc_extern prog 291 _ (ReflectliteType.relation "Implements" ReflectliteType.implements_) func291 (by kernel_rfl) (by kernel_rfl) (by kernel_rfl) (by kernel_rfl);have h7:= @run_callFunc_extern prog 194 _ ReflectliteType.typeOf func194 (by kernel_rfl) (by kernel_rfl) (by kernel_rfl) (by kernel_rfl)
 have h8:= @run_callFunc_extern prog 288 _ (ReflectliteType.relation "AssignableTo" ReflectliteType.assignableTo) func288 (by kernel_rfl) (by kernel_rfl) (by kernel_rfl) (by kernel_rfl)
 have h9:= @run_callFunc_extern prog 195 _ (ReflectliteValue.method (ReflectliteValue.valueError "reflectlite.Value.Elem" 0) ReflectliteValue.elem) func195 (by kernel_rfl) (by kernel_rfl) (by kernel_rfl) (by kernel_rfl);have zJ:= @run_callFunc_extern prog 196 _ ReflectliteValue.set func196 (by kernel_rfl) (by kernel_rfl) (by kernel_rfl) (by kernel_rfl);have q1:=Tj;have q2:=VD;have q3:=Wj
 have q4:=Ti;have q5:=Th;have q6:=VC;have q7:=UU;have q8:=UV;have q9:=UW;have zM:=UX;have zN:=UY;have zK:=VE;have zI:=VF;have zE:4<w.heap.size:=World.block_lt_of_cell? w _ hg;have zA:tb<w.heap.size:=World.block_lt_of_cell? w ⟨tb,0,none⟩ zC;have b1:Below w.heap.size w (w.alloc (.cells #[.pointer (some ⟨tb,0,none⟩)] 185)):=XA
 have b2:=b1.alloc b1.size (.cells #[.pointer (some ⟨9,185,none⟩),.pointer (some ⟨w.heap.size,0,none⟩),.int .u64 150] 218);have b3:=b2.alloc b2.size (.cells #[.pointer (some ⟨9,185,none⟩),.pointer (some ⟨w.heap.size,0,none⟩),.int .u64 150] 218);have b4:=b3.alloc b3.size (.cells #[.pointer (some e)] 183)
 have n8:=UZ ⟨w.heap.size,0,none⟩ ⟨tb,0,none⟩ ((w.alloc (.cells #[.pointer (some ⟨tb,0,none⟩)] 185)).alloc (.cells #[.pointer (some ⟨9,185,none⟩),.pointer (some ⟨w.heap.size,0,none⟩),.int .u64 150] 218)) (by simp)
 have zH:((w.alloc (.cells #[.pointer (some ⟨tb,0,none⟩)] 185)).alloc (.cells #[.pointer (some ⟨9,185,none⟩),.pointer (some ⟨w.heap.size,0,none⟩),.int .u64 150] 218)).cell? (XL 4 0)=some (.iface 253 (.agg #[.pointer (some ⟨9,179,none⟩)])):=(b2.cell (p:=⟨4,0,none⟩) zE).trans hg
 have el:=Vb ⟨w.heap.size,0,none⟩ ⟨tb,0,none⟩ (((w.alloc (.cells #[.pointer (some ⟨tb,0,none⟩)] 185)).alloc (.cells #[.pointer (some ⟨9,185,none⟩),.pointer (some ⟨w.heap.size,0,none⟩),.int .u64 150] 218)).alloc (.cells #[.pointer (some ⟨9,185,none⟩),.pointer (some ⟨w.heap.size,0,none⟩),.int .u64 150] 218)) (by rw[World.cell?_alloc_lt _ _ ⟨w.heap.size,0,none⟩ (by simp;omega)];simp)
 have st:=Wk ⟨tb,0,none⟩ ⟨w.heap.size+1+1+1,0,none⟩ e zB ((((w.alloc (.cells #[.pointer (some ⟨tb,0,none⟩)] 185)).alloc (.cells #[.pointer (some ⟨9,185,none⟩),.pointer (some ⟨w.heap.size,0,none⟩),.int .u64 150] 218)).alloc (.cells #[.pointer (some ⟨9,185,none⟩),.pointer (some ⟨w.heap.size,0,none⟩),.int .u64 150] 218)).alloc (.cells #[.pointer (some e)] 183))
  (by rw[World.cell?_alloc_at _ _ _ _ (by simp)];rfl)
  ((b4.cell (p:=⟨tb,0,none⟩) zA).trans zC)
  ((b4.frozen (p:=⟨tb,0,none⟩) zA).trans zG)
 have fin:=(b4.mono (Nat.le_of_lt zA)).setCell (show tb<=(⟨tb,0,none⟩:Addr).block from Nat.le_refl tb) (.pointer (some e));clear b1 b2 b3 b4;have zF:Hid _:=fin;clear fin;go_enter func137,ntmps137;go_wp2;refine wp_loop_rounds 1 ?_;rw[rounds_succ];go_wp2;go_ret;exact⟨rfl,zF.o⟩
end
theorem BK (b:UInt8):wrap64 (b.toNat:Int)=(b.toNat:Int):=by
 have h:=b.toNat_lt;simp[wrap64];omega
theorem DM (x:Int) (h: -9223372036854775808<=x) (h':x<9223372036854775808):IntKind.i64.wrap x=x:=by
 rw[IntKind.wrap_i64];omega
theorem Rp {n k:Nat} {wd:Int} (h1:1<=wd) (hk:k<n):0<=(k:Int) *wd/\(k:Int) *wd<=(n:Int) *wd/\((k:Int)+1) *wd=(k:Int) *wd+wd/\(k:Int) *wd+wd<=(n:Int) *wd:=by
 refine⟨Int.mul_nonneg (by omega) (by omega),Int.mul_le_mul_of_nonneg_right (by omega) (by omega),by rw[Int.add_mul,Int.one_mul],?_⟩;have:((k:Int)+1) *wd<=(n:Int) *wd:=Int.mul_le_mul_of_nonneg_right (by omega) (by omega);rw[Int.add_mul,Int.one_mul] at this;exact this
theorem IM {n:Nat} {wd:Int} (hn:n<256) (h1:1<=wd) (h2:wd<=8):0<=(n:Int) *wd/\(n:Int) *wd<=2040:=by
 refine⟨Int.mul_nonneg (by omega) (by omega),?_⟩;have h3:(n:Int) *wd<=255 *wd:=Int.mul_le_mul_of_nonneg_right (by omega) (by omega);omega
def CX (s:ByteArray) (wd:Int) (n:Nat):ByteArray:=(s.extract 1 s.size).extract ((n:Int) *wd).toNat (s.size -1)
def Iw (s:ByteArray) (wd:Int) (i:Nat):ByteArray:=(s.extract 1 s.size).extract ((i:Int) *wd).toNat ((i:Int) *wd+wd).toNat
def Bw (s:ByteArray) (wd:Int) (k:Nat):List ByteArray:=(List.range k).map (Iw s wd)
theorem BY (s:ByteArray) (wd:Int) (k:Nat):(Bw s wd k).length=k:=by simp[Bw]
theorem PH (s:ByteArray) (wd:Int) (k:Nat):(Bw s wd k).map Value.string++[Value.string (Iw s wd k)]=(Bw s wd (k+1)).map Value.string:=by
 simp[Bw,List.range_succ]
theorem GB {wr w1:World} {o:Obj} {row:Option Nat} {p:Addr} {x:Value} (hg:(wr.alloc o).drew.grownBy w1 row) (hc:wr.cell? p=some x) (zB:some p.block≠row):w1.cell? p=some x:=by
 refine hg.cell ?_ zB;have zA:=World.block_lt_of_cell? wr p hc;exact(World.cell?_alloc_lt wr o p zA).trans hc
theorem IY {wr w1:World} {o:Obj} {row:Option Nat} {p:Addr} (hg:(wr.alloc o).drew.grownBy w1 row) (zA:p.block<wr.heap.size) (zB:some p.block≠row):w1.frozen? p=wr.frozen? p:=by
 have h1:=World.frozen?_of_block (hg.block p.block (by simp;omega) zB);rw[h1];exact World.frozen?_alloc_old wr o p (Nat.ne_of_lt zA)
theorem Rq {w:World} {base:Nat} {e:TypeId} {v:Value} {n:Nat} {xs:List Value} (h:w.ownsRow base e 1 v n xs) {b:Nat} (hb:b<base):some b≠v.ownBlock:=by
 intro he;have:=(h.lt b he.symm).1;omega
theorem Dm {w:World} {base:Nat} {v:Value} {ss:List ByteArray} (h:w.ownsRow base 9 1 v ss.length (ss.map Value.string)):∃a cap,v=.slice a ss.length cap/\Ae w w.heap.size a ss:=by
 rcases h.2 with⟨hv,h0⟩|⟨g,cap,zA,hv,_⟩
 ·exact⟨none,0,by rw[hv,h0],.inl (List.eq_nil_of_length_eq_zero h0)⟩
 ·subst hv
  exact⟨_,_,rfl,Ae.own h⟩
theorem Lo {s:ByteArray} {wd:Int} {w wr w1:World} {o:Obj} {v:Value} {k g cap:Nat} {txt:ByteArray} {W:World}
 (zI:w.heap.size+1<wr.heap.size) (zC:wr.ownsRow (w.heap.size+2) 9 1 v k ((Bw s wd k).map Value.string)) (zE:Below (w.heap.size+1) W wr)
 (zB:w1.ownsRow (w.heap.size+2) 9 1 (.slice (some ⟨g,0,none⟩) (k+1) cap) (k+1) ((Bw s wd k).map Value.string++[.string (Iw s wd k)]))
 (zA:(wr.alloc o).drew.grownBy w1 v.ownBlock) (zH:w1.cell? (XL (w.heap.size+1) 0)=some (.string txt)) (zF:w1.cell? (XL (w.heap.size+1) 1)=some v) (zG:w1.frozen? ⟨w.heap.size+1,1,none⟩=false):
 (w1.setCell (XL (w.heap.size+1) 1) (.slice (some ⟨g,0,none⟩) (k+1) cap)).cell? (XL (w.heap.size+1) 0)=some (.string txt)/\
 (w1.setCell (XL (w.heap.size+1) 1) (.slice (some ⟨g,0,none⟩) (k+1) cap)).cell? (XL (w.heap.size+1) 1)=some (.slice (some ⟨g,0,none⟩) (k+1) cap)/\
 (w1.setCell (XL (w.heap.size+1) 1) (.slice (some ⟨g,0,none⟩) (k+1) cap)).frozen? ⟨w.heap.size+1,1,none⟩=false/\
 (w1.setCell (XL (w.heap.size+1) 1) (.slice (some ⟨g,0,none⟩) (k+1) cap)).ownsRow (w.heap.size+2) 9 1 (.slice (some ⟨g,0,none⟩) (k+1) cap) (k+1) ((Bw s wd (k+1)).map Value.string)/\
 Below (w.heap.size+1) W (w1.setCell (XL (w.heap.size+1) 1) (.slice (some ⟨g,0,none⟩) (k+1) cap)):=by
 refine⟨?_,?_,?_,?_,?_⟩
 ·rw[←zH]
  exact World.cell?_setCell_other _ _ _ _ (by simp)
 ·exact World.cell?_setCell_same' _ _ _ (by rw[zF];rfl)
 ·rw[World.frozen?_setCell];exact zG
 ·rw[←PH]
  exact ownsRow_setCell_below zB (by simp) _
 ·exact(((zE.alloc (by omega) o).drew).grown zA (by simp;omega) (fun k hk=>by have:=(zC.lt k hk).1;omega)).setCell (by simp) _
theorem MW {s:ByteArray} (h:0<s.size):s.toList.isEmpty=false:=by
 have:s.toList.length=s.size:=by rw[ByteArray.toList_eq];simp
 cases hl:s.toList with
 |nil=>rw[hl] at this;simp at this;omega
 |cons x r=>rfl
theorem Rr (s:ByteArray) (wd:Int) (n:Nat) (w:World) (hs:s.size<=1048576) (h1:1<=wd) (h2:wd<=8) (h0:0<s.size) (zN:s[0].toNat=n) (yD:(n:Int) *wd<=s.size -1):
 Calls prog 189 #[.string s,XJ wd] w fun e w'=>
  (AH (CX s wd n) (Bw s wd n) wd=true->∃v,e=.returned (.tuple #[.agg #[.string (CX s wd n),v],.bool true])/\w'.ownsRow w.heap.size 9 1 v n ((Bw s wd n).map Value.string))/\
  (AH (CX s wd n) (Bw s wd n) wd=false->e=.returned (.tuple #[.agg #[XM,XN],.bool false]))/\Xz w w':=by
 obtain⟨i0,hi,yA,zV,yG⟩:=info_parts CO;have zM:s.toList.isEmpty=false:=MW h0;have zY:(0:Int)<s.size:=by omega
 have hn:n<256:=by rw[←zN];exact s[0].toNat_lt
 have zZ:=IM hn h1 h2;have HN:Hid _:=zN;clear zN;go_enter func189,ntmps189;go_wp2;go_quiet (fail);simp only[BK];rw[HN.o];go_wp2_with fail;obtain⟨txt,zH⟩:∃txt,txt=CX s wd n:=⟨_,rfl⟩;rw[show(s.extract 1 s.size).extract ((n:Int) *wd).toNat (s.size -1)=txt from zH.symm];have zJ:Hid _:=zH;clear zH
 go_loopw [37] (fun i wr=>∃(k:Nat) (v:Value),k<=n/\i=XJ k/\wr.cell? (XL (w.heap.size+1) 0)=some (.string txt)/\wr.cell? (XL (w.heap.size+1) 1)=some v/\wr.frozen? ⟨w.heap.size+1,1,none⟩=false/\
  wr.ownsRow (w.heap.size+2) 9 1 v k ((Bw s wd k).map Value.string)/\Below (w.heap.size+1) (w.alloc (Obj.cells #[Value.string ⟨#[]⟩,Value.slice none 0 0] 66)) wr) (fun i _=>n -(intOf i).toNat)
 case atStart=>exact⟨0,XN,Nat.zero_le _,rfl,by simp[go_sem],by simp[go_sem],by simp[go_sem],World.ownsRow_nil _ _ _ _,(BP (Below.refl _ _) _).alloc (by simp) _⟩
 case round=>
  obtain⟨k,v,hk,rfl,zK,zS,zR,zE,zB⟩:=hrel;have yB:=zB.size;simp at yB;by_cases hlt:k<n
  ·obtain⟨m1,m2,m3,m4⟩:=Rp h1 hlt
   have yI:(s.extract 1 s.size).size=s.size -1:=by simp
   have yH:(k:Int)<n:=by omega
   have e1:=DM ((k:Int) *wd) (by omega) (by omega);have e2:=DM ((k:Int)+1) (by omega) (by omega);have e3:=DM ((k:Int) *wd+wd) (by omega) (by omega);have b2:(k:Int) *wd<=(k:Int) *wd+wd:=by omega
   have b3:(k:Int) *wd+wd<=((s.size -1:Nat):Int):=by omega
   go_wp2;have zM:=Rq zE (b:=w.heap.size+1) (by omega);have zI:w.heap.size+1<wr.heap.size:=World.block_lt_of_cell? wr _ zK
   go_region_law (refine step_append_lies _ rfl (.tmp 41) (.tmp 51) 22 rfl (w.heap.size+2) 9 i0 XM 1 16 underlying22 hi yA zV yG rfl (by decide) v k ((Bw s wd k).map Value.string) rfl (World.ownsRow.alloc zE _) ⟨wr.heap.size,0,none⟩ 1 1 [.string (Iw s wd k)] rfl rfl (cell_one_new wr (.string (Iw s wd k)) 9) (by simp[Value.oneCell']) (by decide) (by unfold maxLen;omega) (by omega) (by simp;omega) (wr.heap.size+1) (by simp) ?_;intro g cap w1 zG zA yK yC;have zT:=GB zA zK zM;have zW:=GB zA zS zM;have yE:=(IY (p:=⟨w.heap.size+1,1,none⟩) zA (by simp;omega) zM).trans zR)
   all_goals
    have R:=Lo zI zE zB zG zA zT zW yE;have HR:Hid _:=R;clear R zE zB zG zA zT zK zS zR;go_wp2;refine⟨⟨_,_,_,_,_,_,_,_,_,_,_,_,_,_,_,_,_,_,_,⟨k+1,_,by omega,?_,HR.o.1,HR.o.2.1,HR.o.2.2.1,HR.o.2.2.2.1,HR.o.2.2.2.2⟩,rfl⟩,?_⟩
    ·go_num
    ·simp[intOf];omega
  ·obtain rfl:k=n:=by omega
   have zI:w.heap.size+1<wr.heap.size:=World.block_lt_of_cell? wr _ zK;obtain⟨a,cap,hv,zO⟩:=Dm (ss:=Bw s wd k) (by rw[BY];exact zE);rw[BY] at hv;subst hv;have zU:(wr.cell? (XL (w.heap.size) 0))=some XM:=by rw[zB.cell (p:=⟨w.heap.size,0,none⟩) (by simp)];simp
   have zP:(wr.cell? (XL (w.heap.size) 1))=some XN:=by rw[zB.cell (p:=⟨w.heap.size,1,none⟩) (by simp)];simp
   have yF:wr.frozen? ⟨w.heap.size,0,none⟩=false:=by rw[zB.frozen (p:=⟨w.heap.size,0,none⟩) (by simp)];simp
   have yJ:wr.frozen? ⟨w.heap.size,1,none⟩=false:=by rw[zB.frozen (p:=⟨w.heap.size,1,none⟩) (by simp)];simp
   have zX:txt.size<=maxLen:=by
    rw[zJ.o];simp[CX,maxLen];omega
   have zC:=DJ txt a cap (Bw s wd k) wd wr zO (by rw[BY];omega) zX;rw[BY] at zC;have zF:w.heap.size<wr.heap.size:=by omega
   go_wp2_with fail;refine zC.mono ?_;rintro e w2 ⟨rfl,rfl⟩;have hB:Below w.heap.size w wr:=(XA).trans (zB.mono (by omega));cases hok:AH txt (Bw s wd k) wd with
   |true=>
    clear zC;go_wp2;refine bodyPost_ret (v:=.tuple #[.agg #[.string txt,.slice a k cap],.bool true]) (by simp[results,results189,go_sem,zF,zU,zP]) rfl ⟨fun _=>⟨.slice a k cap,?_,?_⟩,fun h=> ?_,?_⟩
    ·rw[zJ.o]
    ·exact((ownsRow_setCell_below (ownsRow_setCell_below zE (by simp) _) (by simp) _).alloc _).mono (by omega)
    ·rw[←zJ.o,hok] at h;cases h
    ·exact((hB.setCell (by simp) _).setCell (by simp) _).alloc (by simp;omega) _
   |false=>
    clear zC;go_wp2;refine bodyPost_ret (v:=.tuple #[.agg #[XM,XN],.bool false]) (by simp[results,results189,go_sem,zF,zU,zP]) rfl ⟨fun h=> ?_,fun _=>rfl,?_⟩
    ·rw[←zJ.o,hok] at h;cases h
    ·exact((hB.setCell (by simp) _).setCell (by simp) _).alloc (by simp;omega) _
def Fk (w:World) (e:Ending) (w':World):Prop:=e=.returned (.tuple #[.agg #[XM,XN],.bool false])/\Xz w w'
theorem Rt (s:ByteArray) (wd:Int) (w:World) (h:¬(1<=wd/\wd<=8)):
 Calls prog 189 #[.string s,XJ wd] w (Fk w):=by
 by_cases h1:1<=wd
 ·have h2:decide (wd<=8)=false:=by simp;omega
  go_enter func189,ntmps189;go_wp2;exact bodyPost_ret (v:=.tuple #[.agg #[XM,XN],.bool false]) (by simp[results,results189,go_sem]) rfl ⟨rfl,XA⟩
 ·go_enter func189,ntmps189
  go_wp2;exact bodyPost_ret (v:=.tuple #[.agg #[XM,XN],.bool false]) (by simp[results,results189,go_sem]) rfl ⟨rfl,XA⟩
theorem isEmpty {s:ByteArray} (h:s.size=0):s.toList.isEmpty=true:=by
 have:s.toList.length=s.size:=by rw[ByteArray.toList_eq];simp
 rw[List.isEmpty_iff,←List.length_eq_zero_iff];omega
theorem Ru (s:ByteArray) (wd:Int) (w:World) (h1:1<=wd) (h2:wd<=8) (h0:s.size=0):
 Calls prog 189 #[.string s,XJ wd] w (Fk w):=by
 have zA:=isEmpty h0;go_enter func189,ntmps189;go_wp2;exact bodyPost_ret (v:=.tuple #[.agg #[XM,XN],.bool false]) (by simp[results,results189,go_sem]) rfl ⟨rfl,XA⟩
theorem Rv (s:ByteArray) (wd:Int) (n:Nat) (w:World) (hs:s.size<=1048576) (h1:1<=wd) (h2:wd<=8) (h0:0<s.size) (zA:s[0].toNat=n) (zB:(s.size:Int) -1<(n:Int) *wd):
 Calls prog 189 #[.string s,XJ wd] w (Fk w):=by
 have zF:=MW h0;have zE:(0:Int)<s.size:=by omega
 have hn:n<256:=by rw[←zA];exact s[0].toNat_lt
 have zC:=IM hn h1 h2;have HN:Hid _:=zA;clear zA;go_enter func189,ntmps189;go_wp2;go_quiet (fail);simp only[BK];rw[HN.o];go_wp2;refine bodyPost_ret (v:=.tuple #[.agg #[XM,XN],.bool false]) (by simp[results,results189,go_sem]) rfl ⟨rfl,?_⟩;exact(((BP (XA) _).setCell (by simp) _).setCell (by simp) _)
theorem VI (s:ByteArray) (a b:Nat) (hb:b<=s.size -1) (h0:0<s.size):(s.extract 1 s.size).extract a b=s.extract (1+a) (1+b):=by
 rw[ByteArray.extract_extract];congr 1;omega
theorem Vc {s:ByteArray} {wd:Int} {k:Nat} (h0:0<s.size) (m1:0<=(k:Int) *wd) (h1:1<=wd) (m4:(k:Int) *wd+wd<=s.size -1):s.extract (1+(k:Int) *wd).toNat (1+(k:Int) *wd+wd).toNat=Iw s wd k:=by
 unfold Iw;rw[VI s _ _ (by omega) h0,show(1+(k:Int) *wd).toNat=1+((k:Int) *wd).toNat from by omega,show(1+(k:Int) *wd+wd).toNat=1+((k:Int) *wd+wd).toNat from by omega]
theorem Ve {s:ByteArray} {wd:Int} {n:Nat} (h0:0<s.size) (m1:0<=(n:Int) *wd):s.extract (1+(n:Int) *wd).toNat s.size=CX s wd n:=by
 unfold CX;rw[VI s _ _ (by omega) h0,show(1+(n:Int) *wd).toNat=1+((n:Int) *wd).toNat from by omega,show 1+(s.size -1)=s.size from by omega]
theorem Rw (s:ByteArray) (wd:Int) (n:Nat) (w:World) (hs:s.size<=1048576) (h1:1<=wd) (h2:wd<=8) (h0:0<s.size) (zY:s[0].toNat=n) (yK:(n:Int) *wd<=s.size -1):
 Calls prog 82 #[.string s,XJ wd] w fun e w'=>
  (AH (CX s wd n) (Bw s wd n) wd=true->∃v,e=.returned (.tuple #[.agg #[.string (CX s wd n),v],.bool true])/\w'.ownsRow w.heap.size 9 1 v n ((Bw s wd n).map Value.string))/\
  (AH (CX s wd n) (Bw s wd n) wd=false->e=.returned (.tuple #[.agg #[XM,XN],.bool false]))/\Xz w w':=by
 obtain⟨i0,hi,yH,yC,yN⟩:=info_parts CO;have yF:(0:Int)<s.size:=by omega
 have yG:((s.size:Int)==0)=false:=beq_eq_false_iff_ne.2 (by omega);have hn:n<256:=by rw[←zY];exact s[0].toNat_lt
 have zW:=IM hn h1 h2;have yM:=BK s[0];rw[zY] at yM;go_enter func82,ntmps82;go_wp2;obtain⟨txt,zJ⟩:∃txt,txt=CX s wd n:=⟨_,rfl⟩;rw[Ve h0 zW.1,←zJ];have zP:Hid _:=zJ;clear zJ
 go_loopw [8] (fun i wr=>∃(k:Nat) (v:Value),k<=n/\i=XJ k/\wr.cell? (XL (w.heap.size+1) 0)=some (.string txt)/\wr.cell? (XL (w.heap.size+1) 1)=some v/\wr.frozen? ⟨w.heap.size+1,1,none⟩=false/\
  wr.ownsRow (w.heap.size+2) 9 1 v k ((Bw s wd k).map Value.string)/\Below (w.heap.size+1) (w.alloc (Obj.cells #[Value.string ⟨#[]⟩,Value.slice none 0 0] 66)) wr) (fun i _=>n -(intOf i).toNat)
 case atStart=>exact⟨0,XN,Nat.zero_le _,rfl,by simp[go_sem],by simp[go_sem],by simp[go_sem],World.ownsRow_nil _ _ _ _,(Below.refl _ _).alloc (by simp) _⟩
 case round=>
  obtain⟨k,v,hk,rfl,zK,zS,yA,zF,zB⟩:=hrel;have yI:=zB.size;simp at yI;by_cases hlt:k<n
  ·obtain⟨m1,m2,m3,m4⟩:=Rp h1 hlt
   have yO:(k:Int)<n:=by omega
   have e1:=DM ((k:Int) *wd) (by omega) (by omega);have e2:=DM (1+(k:Int) *wd) (by omega) (by omega);have e3:=DM (1+(k:Int) *wd+wd) (by omega) (by omega);have b1:(0:Int)<=1+(k:Int) *wd:=by omega
   have b2:1+(k:Int) *wd<=1+(k:Int) *wd+wd:=by omega
   have b3:1+(k:Int) *wd+wd<=(s.size:Int):=by omega
   have zU:Hid _:=Vc h0 m1 h1 (by omega:(k:Int) *wd+wd<=s.size -1);have zV:=Rq zF (b:=w.heap.size+1) (by omega);have zI:=World.block_lt_of_cell? wr _ zK;clear m3;go_wp2
   go_region_law (refine step_append_lies _ rfl (.tmp 45) (.tmp 58) 22 rfl (w.heap.size+2) 9 i0 XM 1 16 underlying22 hi yH yC yN rfl (by decide) v k ((Bw s wd k).map Value.string) rfl (World.ownsRow.alloc zF _) ⟨wr.heap.size,0,none⟩ 1 1 [.string (s.extract (1+(k:Int) *wd).toNat (1+(k:Int) *wd+wd).toNat)] rfl rfl (cell_one_new wr (.string (s.extract (1+(k:Int) *wd).toNat (1+(k:Int) *wd+wd).toNat)) 9) (by simp[Value.oneCell']) (by decide) (by unfold maxLen;omega) (by omega) (by simp;omega) (wr.heap.size+1) (by simp) ?_;intro g cap w1 zH zA yP yJ;have yB:=GB zA zK zV;have yD:=GB zA zS zV;have yL:=(IY (p:=⟨w.heap.size+1,1,none⟩) zA (by simp;omega) zV).trans yA)
   all_goals
    rw[zU.o] at zH;have R:=Lo zI zF zB zH zA yB yD yL;have HR:Hid _:=R;clear R zF zB zH zA yB zK zS yA;go_wp2;refine⟨⟨_,_,_,_,_,_,_,_,_,_,_,_,_,_,_,_,_,_,_,_,_,_,_,⟨k+1,_,by omega,?_,HR.o.1,HR.o.2.1,HR.o.2.2.1,HR.o.2.2.2.1,HR.o.2.2.2.2⟩,rfl⟩,?_⟩
    ·go_num
    ·simp[intOf];omega
  ·obtain rfl:k=n:=by omega
   have zI:=World.block_lt_of_cell? wr _ zK;obtain⟨a,cap,hv,zX⟩:=Dm (ss:=Bw s wd k) (by rw[BY];exact zF);rw[BY] at hv;subst hv;have zT:(wr.cell? (XL (w.heap.size) 0))=some XM:=by rw[zB.cell (p:=⟨w.heap.size,0,none⟩) (by simp)];simp
   have zR:(wr.cell? (XL (w.heap.size) 1))=some XN:=by rw[zB.cell (p:=⟨w.heap.size,1,none⟩) (by simp)];simp
   have zM:wr.frozen? ⟨w.heap.size,0,none⟩=false:=by rw[zB.frozen (p:=⟨w.heap.size,0,none⟩) (by simp)];simp
   have zO:wr.frozen? ⟨w.heap.size,1,none⟩=false:=by rw[zB.frozen (p:=⟨w.heap.size,1,none⟩) (by simp)];simp
   have yE:txt.size<=maxLen:=by
    rw[zP.o];simp[CX,maxLen];omega
   have zE:=CP txt a cap (Bw s wd k) wd wr zX (by rw[BY];omega) yE;rw[BY] at zE;have zC:w.heap.size<wr.heap.size:=by omega
   go_wp2_with fail;refine zE.mono ?_;rintro e w2 ⟨rfl,zG⟩;have hB:=(XA).trans (zB.mono (by omega));have zZ:=hB.trans (zG.mono hB.size);have zN:=zF.kept (row:=none) ⟨zG.os,zG.tape,zG.output,zG.size,fun k hk _=>zG.block k hk⟩ (by cases a<;>simp[Value.ownBlock]);have zK:=(zG.cell (p:=⟨w.heap.size+1,0,none⟩) zI).trans zK;have zS:=(zG.cell (p:=⟨w.heap.size+1,1,none⟩) zI).trans zS
   have zT:=(zG.cell (p:=⟨w.heap.size,0,none⟩) zC).trans zT;have zR:=(zG.cell (p:=⟨w.heap.size,1,none⟩) zC).trans zR;have zM:=(zG.frozen (p:=⟨w.heap.size,0,none⟩) zC).trans zM;have zO:=(zG.frozen (p:=⟨w.heap.size,1,none⟩) zC).trans zO;cases hok:AH txt (Bw s wd k) wd with
   |true=>
    clear zE;go_wp2;refine bodyPost_ret (v:=.tuple #[.agg #[.string txt,.slice a k cap],.bool true]) (by simp[results,results82,go_sem,zT,zR]) rfl ⟨fun _=>⟨.slice a k cap,?_,?_⟩,fun h=> ?_,?_⟩
    ·rw[zP.o]
    ·exact(ownsRow_setCell_below (ownsRow_setCell_below zN (by simp) _) (by simp) _).mono (by omega)
    ·rw[←zP.o,hok] at h;cases h
    ·exact(zZ.setCell (by simp) _).setCell (by simp) _
   |false=>
    clear zE;go_wp2;refine bodyPost_ret (v:=.tuple #[.agg #[XM,XN],.bool false]) (by simp[results,results82,go_sem,zT,zR]) rfl ⟨fun h=> ?_,fun _=>rfl,?_⟩
    ·rw[←zP.o,hok] at h;cases h
    ·exact(zZ.setCell (by simp) _).setCell (by simp) _
theorem Rx (s:ByteArray) (wd:Int) (w:World) (h:¬(1<=wd/\wd<=8)):
 Calls prog 82 #[.string s,XJ wd] w (Fk w):=by
 by_cases h1:1<=wd
 ·have h2:decide (wd<=8)=false:=by simp;omega
  go_enter func82,ntmps82;go_wp2;exact bodyPost_ret (v:=.tuple #[.agg #[XM,XN],.bool false]) (by simp[results,results82,go_sem]) rfl ⟨rfl,XA⟩
 ·go_enter func82,ntmps82
  go_wp2;exact bodyPost_ret (v:=.tuple #[.agg #[XM,XN],.bool false]) (by simp[results,results82,go_sem]) rfl ⟨rfl,XA⟩
theorem Rz (s:ByteArray) (wd:Int) (w:World) (h1:1<=wd) (h2:wd<=8) (h0:s.size=0):
 Calls prog 82 #[.string s,XJ wd] w (Fk w):=by
 have zA:=beq_iff_eq.2 (by omega);go_enter func82,ntmps82;go_wp2;exact bodyPost_ret (v:=.tuple #[.agg #[XM,XN],.bool false]) (by simp[results,results82,go_sem]) rfl ⟨rfl,XA⟩
theorem RB (s:ByteArray) (wd:Int) (n:Nat) (w:World) (hs:s.size<=1048576) (h1:1<=wd) (h2:wd<=8) (h0:0<s.size) (zA:s[0].toNat=n) (zB:(s.size:Int) -1<(n:Int) *wd):
 Calls prog 82 #[.string s,XJ wd] w (Fk w):=by
 have zF:(0:Int)<s.size:=by omega
 have zG:((s.size:Int)==0)=false:=beq_eq_false_iff_ne.2 (by omega);have hn:n<256:=by rw[←zA];exact s[0].toNat_lt
 have zE:=IM hn h1 h2;have zC:=BK s[0];rw[zA] at zC;go_enter func82,ntmps82;go_wp2;exact bodyPost_ret (v:=.tuple #[.agg #[XM,XN],.bool false]) (by simp[results,results82,go_sem]) rfl ⟨rfl,XA⟩
def IZ (s:ByteArray) (wd:Int) (n:Nat):ByteArray×List ByteArray×Bool:=
 if (n:Int) *wd<=s.size -1/\AH (CX s wd n) (Bw s wd n) wd=true then (CX s wd n,Bw s wd n,true) else (⟨#[]⟩,[],false)
def rd (s:ByteArray) (wd:Int):ByteArray×List ByteArray×Bool:=
 if 1<=wd/\wd<=8 then
  match s.data.toList.head? with
  |none=>(⟨#[]⟩,[],false)
  |some b=>IZ s wd b.toNat
 else (⟨#[]⟩,[],false)
def DV (s:ByteArray) (wd:Int) (w:World) (e:Ending) (w':World):Prop:=
 ∃v,e=.returned (.tuple #[.agg #[.string (rd s wd).1,v],.bool (rd s wd).2.2])/\w'.ownsRow w.heap.size 9 1 v (rd s wd).2.1.length ((rd s wd).2.1.map Value.string)/\Xz w w'
theorem OI {s:ByteArray} (h0:0<s.size):s.data.toList.head?=some s[0]:=by
 rw[List.head?_eq_getElem?,XD (by simpa using h0)];rfl
theorem Uh (s:ByteArray) (wd:Int):(rd s wd).2.1.length<=255:=by
 unfold rd;split
 ·split
  ·simp
  ·rename_i b _
   unfold IZ;have:=b.toNat_lt;split
   ·simp[BY];omega
   ·simp
 ·simp
theorem Eg {s:ByteArray} {wd:Int} {w:World} (h:rd s wd=(⟨#[]⟩,[],false)):∀e w',Fk w e w'->DV s wd w e w':=by
 rintro e w' ⟨rfl,hb⟩;unfold DV;rw[h];exact⟨XN,rfl,World.ownsRow_nil _ _ _ _,hb⟩
theorem RC {s:ByteArray} {wd:Int} {n:Nat} {w:World} (hr:rd s wd=IZ s wd n) (zA:(n:Int) *wd<=s.size -1):∀e w',
 ((AH (CX s wd n) (Bw s wd n) wd=true->∃v,e=.returned (.tuple #[.agg #[.string (CX s wd n),v],.bool true])/\w'.ownsRow w.heap.size 9 1 v n ((Bw s wd n).map Value.string))/\
   (AH (CX s wd n) (Bw s wd n) wd=false->e=.returned (.tuple #[.agg #[XM,XN],.bool false]))/\Xz w w')->DV s wd w e w':=by
 rintro e w' ⟨h1,h2,hb⟩;unfold DV;rw[hr];unfold IZ;cases hok:AH (CX s wd n) (Bw s wd n) wd with
 |true=>
  rw[if_pos ⟨zA,rfl⟩];obtain⟨v,he,ho⟩:=h1 hok;exact⟨v,he,by simpa [BY] using ho,hb⟩
 |false=>
  rw[if_neg (by simp)];exact⟨XN,h2 hok,World.ownsRow_nil _ _ _ _,hb⟩
theorem RD (s:ByteArray) (wd:Int) (w:World) (hs:s.size<=1048576):Calls prog 189 #[.string s,XJ wd] w (DV s wd w):=by
 by_cases hw:1<=wd/\wd<=8
 ·by_cases h0:0<s.size
  ·have hr:rd s wd=IZ s wd s[0].toNat:=by unfold rd;rw[if_pos hw,OI h0]
   by_cases hfit:(s[0].toNat:Int) *wd<=s.size -1
   ·exact(Rr s wd _ w hs hw.1 hw.2 h0 rfl hfit).mono (RC hr hfit)
   ·exact(Rv s wd _ w hs hw.1 hw.2 h0 rfl (by omega)).mono (Eg (by rw[hr];unfold IZ;rw[if_neg (fun h=>hfit h.1)]))
  ·refine(Ru s wd w hw.1 hw.2 (by omega)).mono (Eg ?_)
   have hl:s.data.toList=[]:=List.eq_nil_of_length_eq_zero (by have h3:s.data.toList.length=s.size:=Array.length_toList;omega);unfold rd;rw[if_pos hw,hl];rfl
 ·exact(Rt s wd w hw).mono (Eg (by unfold rd;rw[if_neg hw]))
theorem RE (s:ByteArray) (wd:Int) (w:World) (hs:s.size<=1048576):Calls prog 82 #[.string s,XJ wd] w (DV s wd w):=by
 by_cases hw:1<=wd/\wd<=8
 ·by_cases h0:0<s.size
  ·have hr:rd s wd=IZ s wd s[0].toNat:=by unfold rd;rw[if_pos hw,OI h0]
   by_cases hfit:(s[0].toNat:Int) *wd<=s.size -1
   ·exact(Rw s wd _ w hs hw.1 hw.2 h0 rfl hfit).mono (RC hr hfit)
   ·exact(RB s wd _ w hs hw.1 hw.2 h0 rfl (by omega)).mono (Eg (by rw[hr];unfold IZ;rw[if_neg (fun h=>hfit h.1)]))
  ·refine(Rz s wd w hw.1 hw.2 (by omega)).mono (Eg ?_)
   have hl:s.data.toList=[]:=List.eq_nil_of_length_eq_zero (by have h3:s.data.toList.length=s.size:=Array.length_toList;omega);unfold rd;rw[if_pos hw,hl];rfl
 ·exact(Rx s wd w hw).mono (Eg (by unfold rd;rw[if_neg hw]))
def Hj:Option Addr->Value
 |none=> .nilIface
 |some q=> .iface 183 (.pointer (some q))
structure OJ (w:World) (b:Nat) (rest:ByteArray) (kind:Int) (er:Option Addr):Prop where
 x0:w.cell? (XL b 0)=some (.string rest)
 x1:w.cell? (XL b 1)=some (XJ kind)
 x2:w.cell? (XL b 2)=some (Hj er)
 f0:w.frozen? ⟨b,0,none⟩=false
 f1:w.frozen? ⟨b,1,none⟩=false
 f2:w.frozen? ⟨b,2,none⟩=false
def Dn (w:World) (b:Nat) (rest:ByteArray) (kind:Int) (bad:Bool):Prop:=∃er:Option Addr,er.isSome=bad/\OJ w b rest kind er
theorem OJ.lt {w:World} {b:Nat} {rest:ByteArray} {kind:Int} {er:Option Addr} (h:OJ w b rest kind er):b<w.heap.size:=World.block_lt_of_cell? w _ h.x0
theorem OJ.below {w w':World} {b:Nat} {rest:ByteArray} {kind:Int} {er:Option Addr} (h:OJ w b rest kind er) (hb:Xz w w'):OJ w' b rest kind er:=by
 have hl:=h.lt;exact⟨(hb.cell (p:=⟨b,0,none⟩) hl).trans h.x0,(hb.cell (p:=⟨b,1,none⟩) hl).trans h.x1,(hb.cell (p:=⟨b,2,none⟩) hl).trans h.x2,(hb.frozen (p:=⟨b,0,none⟩) hl).trans h.f0,(hb.frozen (p:=⟨b,1,none⟩) hl).trans h.f1,(hb.frozen (p:=⟨b,2,none⟩) hl).trans h.f2⟩
theorem Dn.below {w w':World} {b:Nat} {rest:ByteArray} {kind:Int} {bad:Bool} (h:Dn w b rest kind bad) (hb:Xz w w'):Dn w' b rest kind bad:=by
 obtain⟨er,h1,h2⟩:=h;exact⟨er,h1,h2.below hb⟩
theorem Fl (b:Nat) (rest:ByteArray) (kind:Int) (bad:Bool) (ct:TypeId) (cv:Value) (w:World) (h:Dn w b rest kind bad):
 Calls prog 158 #[.pointer (some ⟨b,0,none⟩),.iface ct cv] w fun e w'=>e=.returned (.tuple #[])/\Dn w' b rest kind true/\w.grownBy w' (some b):=by
 obtain⟨er,rfl,h⟩:=h;have hl:=h.lt;obtain⟨x0,x1,x2,f0,f1,f2⟩:=h;cases er with
 |none=>
  simp only[Hj] at x2;go_enter func158,ntmps158;go_wp2
  go_end0
  refine⟨rfl,⟨some ⟨w.heap.size,0,none⟩,rfl,?_⟩,?_⟩
  ·have zA:b≠w.heap.size:=by omega
   constructor<;>simp[Hj,go_sem, *]
  ·exact(Av _ _ _ _).trans (World.grownBy_alloc _ _ _)
 |some q=>
  simp only[Hj] at x2;go_enter func158,ntmps158;go_wp2
  go_end0
  exact⟨rfl,⟨some q,rfl,⟨x0,x1,x2,f0,f1,f2⟩⟩,World.grownBy.refl _ _⟩
def Ba (rest:ByteArray) (bad:Bool) (n:Int):ByteArray×ByteArray×Bool:=
 if bad=true then (⟨#[]⟩,rest,true) else if (rest.size:Int)<n then (⟨#[]⟩,rest,true) else (rest.extract 0 n.toNat,rest.extract n.toNat rest.size,false)
theorem Hk (b:Nat) (rest:ByteArray) (kind:Int) (bad:Bool) (n:Int) (gt:TypeId) (gv:Value) (w:World) (h:Dn w b rest kind bad) (hn:bad=false->0<=n) (hg:w.cell? (XL 6 0)=some (.iface gt gv)):
 Calls prog 161 #[.pointer (some ⟨b,0,none⟩),XJ n] w fun e w'=>e=.returned (.string (Ba rest bad n).1)/\Dn w' b (Ba rest bad n).2.1 kind (Ba rest bad n).2.2/\w.grownBy w' (some b):=by
 have h':=h;obtain⟨er,rfl,h⟩:=h;have hl:=h.lt;obtain⟨x0,x1,x2,f0,f1,f2⟩:=h;cases er with
 |none=>
  simp only[Hj] at x2;have zA:=hn rfl;by_cases hf:(rest.size:Int)<n
  ·rw[show Ba rest (none:Option Addr).isSome n=(⟨#[]⟩,rest,true) by simp[Ba,hf]]
   have d1:decide ((rest.size:Int)<n)=true:=by simpa using hf
   go_enter func161,ntmps161;go_wp2_with fail;refine(Fl b rest kind false gt gv w h').mono ?_;rintro e w1 ⟨rfl,h1,g1⟩;go_wp2;go_ret;exact⟨rfl,h1,g1⟩
  ·rw[show Ba rest (none:Option Addr).isSome n=(rest.extract 0 n.toNat,rest.extract n.toNat rest.size,false) by simp[Ba,hf]]
   have d1:decide ((rest.size:Int)<n)=false:=by simpa using hf
   go_enter func161,ntmps161;go_wp2;go_ret;refine⟨rfl,⟨none,rfl,?_⟩,Av _ _ _ _⟩;constructor<;>simp[Hj,go_sem, *]
 |some q=>
  rw[show Ba rest (some q:Option Addr).isSome n=(⟨#[]⟩,rest,true) by simp[Ba]];simp only[Hj] at x2;go_enter func161,ntmps161;go_wp2;go_ret;exact⟨rfl,⟨some q,rfl,⟨x0,x1,x2,f0,f1,f2⟩⟩,World.grownBy.refl _ _⟩
def Ct (l:List UInt8):Int:=l.foldl (fun a b=>a *256+(b.toNat:Int)) 0
theorem RF (l:List UInt8) (b:UInt8):Ct (l++[b])=Ct l *256+(b.toNat:Int):=by simp[Ct]
theorem Vf (l:List UInt8):∀a:Int,0<=a->0<=l.foldl (fun a b=>a *256+(b.toNat:Int)) a/\l.foldl (fun a b=>a *256+(b.toNat:Int)) a<(a+1) *256^l.length:=by
 induction l with
 |nil=>intro a ha;simp;omega
 |cons b l ih=>
  intro a ha;have hb:=b.toNat_lt;obtain⟨h1,h2⟩:=ih (a *256+(b.toNat:Int)) (by omega);refine⟨h1,Int.lt_of_lt_of_le h2 ?_⟩;rw[List.length_cons,Int.pow_succ,←Int.mul_assoc,Int.mul_right_comm];exact Int.mul_le_mul_of_nonneg_right (by omega) (Int.pow_nonneg (by omega))
theorem Kc (l:List UInt8):0<=Ct l/\Ct l<256^l.length:=by
 have:=Vf l 0 (Int.le_refl _);simpa [Ct] using this
theorem Tq (a b:Nat) (ha:a<2^30) (hb:b<256):bits .or .i64 ((a:Int) *256) (b:Int)=(a:Int) *256+b:=by
 have e0:((a:Int) *256)=((a *256:Nat):Int):=by omega
 have e2:a *256|||b=a *256+b:=by
  have:=Nat.shiftLeft_add_eq_or_of_lt (i:=8) (b:=b) (by omega) a;rw[Nat.shiftLeft_eq,show(2:Nat)^8=256 from rfl] at this;omega
 have e1:(BitVec.ofInt 64 ((a:Int) *256)|||BitVec.ofInt 64 (b:Int)).toNat=a *256+b:=by
  rw[e0,BitVec.toNat_or,BitVec.ofInt_natCast,BitVec.ofInt_natCast,BitVec.toNat_ofNat,BitVec.toNat_ofNat,Nat.mod_eq_of_lt (by omega),Nat.mod_eq_of_lt (by omega),e2]
 show IntKind.i64.wrap ((BitVec.ofInt 64 ((a:Int) *256)|||BitVec.ofInt 64 (b:Int)).toNat:Int)=_;rw[e1,DM _ (by omega) (by omega)];omega
theorem FR (b:Nat) (rest:ByteArray) (kind:Int) (bad:Bool) (n:Nat) (gt:TypeId) (gv:Value) (w:World) (h:Dn w b rest kind bad) (hn:n<=4) (hg:w.cell? (XL 6 0)=some (.iface gt gv)):
 Calls prog 159 #[.pointer (some ⟨b,0,none⟩),XJ (n:Int)] w fun e w'=>e=.returned (XJ (Ct (Ba rest bad n).1.data.toList))/\Dn w' b (Ba rest bad n).2.1 kind (Ba rest bad n).2.2/\w.grownBy w' (some b):=by
 have zG:(Ba rest bad n).1.size<=4:=by
  unfold Ba;split
  ·exact Nat.zero_le _
  ·split
   ·exact Nat.zero_le _
   ·simp;omega
 go_enter func159,ntmps159;go_wp2_with fail;refine(Hk b rest kind bad n gt gv w h (fun _=>by omega) hg).mono ?_;rintro e w1 ⟨rfl,h1,g1⟩;have H1:Hid _:=And.intro h1 g1;clear h1 g1 h hg;obtain⟨tk,zB⟩:∃tk,tk=(Ba rest bad n).1:=⟨_,rfl⟩;rw[←zB] at zG ⊢;have HK:Hid _:=zB;clear zB;go_wp2
 go_loop [6,13] (fun x i=>∃k:Nat,k<=tk.size/\i=XJ k/\x=XJ (Ct (tk.data.toList.take k))) (fun _ i=>tk.size -(intOf i).toNat)
 case atStart=>exact⟨0,Nat.zero_le _,rfl,rfl⟩
 case round=>
  obtain⟨k,hk,rfl,rfl⟩:=hrel;by_cases hlt:k<tk.size
  ·have hx:=Kc (tk.data.toList.take k)
   have zA:Ct (tk.data.toList.take (k+1))=Ct (tk.data.toList.take k) *256+(tk[k].toNat:Int):=by
    rw[←RF,XE (by simpa using hlt)];rfl
   have zH:Ct (tk.data.toList.take k)<16777216:=by
    have h2:=hx.2;have zF:(tk.data.toList.take k).length=0∨(tk.data.toList.take k).length=1∨(tk.data.toList.take k).length=2∨(tk.data.toList.take k).length=3:=by simp;omega
    rcases zF with hl|hl|hl|hl<;>rw[hl] at h2<;>simp at h2<;>omega
   obtain⟨X,hX⟩:∃X:Nat,Ct (tk.data.toList.take k)=(X:Int):=⟨_,(Int.toNat_of_nonneg hx.1).symm⟩;have zE:=Tq X tk[k].toNat (by omega) tk[k].toNat_lt;rw[hX] at zA ⊢;have zI:IntKind.i64.wrap ((X:Int) *256)=(X:Int) *256:=DM _ (by omega) (by omega);clear hx;go_wp2;exact⟨⟨k+1,by omega,by go_num,by rw[zA,BK,zE]⟩,by simp[intOf];omega⟩
  ·obtain rfl:k=tk.size:=by omega
   have zC:tk.data.toList.take tk.size=tk.data.toList:=XF (by simp);rw[zC];go_wp2;go_ret;exact⟨by rw[←HK.o];rfl,H1.o⟩
structure Env (w:World):Prop where
 tab:Ka w
 ety:Mh w
 er:∀g∈[0,1,2,3,6,7],∃t v,w.cell? (XL g 0)=some (.iface t v)
theorem Env.lt {w:World} (h:Env w):∀g∈[0,1,2,3,6,7,5,4],g<w.heap.size:=by
 intro g hg;have h1:=h.er;obtain⟨c0,_⟩:=h.tab 1 (by omega) (by omega);have h3:=World.block_lt_of_cell? w _ c0;have h4:=World.block_lt_of_cell? w _ h.ety;have h5:∀g∈[0,1,2,3,6,7],g<w.heap.size:=fun g hg=>by
  obtain⟨t,v,hc⟩:=h1 g hg;exact World.block_lt_of_cell? w _ hc
 simp only[List.mem_cons,List.not_mem_nil,or_false] at hg h5;rcases hg with rfl|rfl|rfl|rfl|rfl|rfl|rfl|rfl
 ·exact h5 _ (by simp)
 ·exact h5 _ (by simp)
 ·exact h5 _ (by simp)
 ·exact h5 _ (by simp)
 ·exact h5 _ (by simp)
 ·exact h5 _ (by simp)
 ·exact h3
 ·exact h4
theorem Env.of {w w':World} (h:Env w) (hc:∀p:Addr,p.block∈[0,1,2,3,6,7,5,4]->w'.cell? p=w.cell? p):Env w':=by
 refine⟨fun k h1 h7=> ?_,?_,fun g hg=> ?_⟩
 ·obtain⟨c0,c1,c2,c3⟩:=h.tab k h1 h7
  exact⟨(hc ⟨_,_,none⟩ (by simp)).trans c0,(hc ⟨_,_,none⟩ (by simp)).trans c1,(hc ⟨_,_,none⟩ (by simp)).trans c2,(hc ⟨_,_,none⟩ (by simp)).trans c3⟩
 ·exact(hc ⟨_,_,none⟩ (by simp)).trans h.ety
 ·obtain⟨t,v,hv⟩:=h.er g hg
  refine⟨t,v,(hc ⟨g,0,none⟩ ?_).trans hv⟩;simp only[List.mem_cons,List.not_mem_nil,or_false] at hg ⊢;omega
theorem Env.below {w w':World} (h:Env w) (hb:Xz w w'):Env w':=
 h.of fun _ hp=>hb.cell (h.lt _ hp)
theorem Env.but {w w':World} {b:Nat} (h:Env w) (hg:w.grownBy w' (some b)) (hb:∀g∈[0,1,2,3,6,7,5,4],g<b):Env w':=
 h.of fun p hp=>hg.cell_far p (h.lt _ hp) (fun e=>by have:=hb _ hp;injection e;omega)
theorem Dn.lt {w:World} {b:Nat} {rest:ByteArray} {kind:Int} {bad:Bool} (h:Dn w b rest kind bad):b<w.heap.size:=by
 obtain⟨er,_,h⟩:=h;exact h.lt
theorem Dn.setKind {w:World} {b:Nat} {rest:ByteArray} {kind:Int} {bad:Bool} (h:Dn w b rest kind bad) (k:Int):Dn (w.setCell (XL b 1) (XJ k)) b rest k bad:=by
 obtain⟨er,h1,x0,x1,x2,f0,f1,f2⟩:=h;refine⟨er,h1,?_⟩;constructor<;>simp[go_sem, *]
theorem Dn.far {w w':World} {b c:Nat} {rest:ByteArray} {kind:Int} {bad:Bool} (h:Dn w b rest kind bad) (hg:w.grownBy w' (some c)) (zA:b≠c):Dn w' b rest kind bad:=by
 obtain⟨er,h1,h⟩:=h;have hl:=h.lt;have hn:some b≠some c:=fun e=>zA (by injection e);exact⟨er,h1,(hg.cell_far ⟨b,0,none⟩ hl hn).trans h.x0,(hg.cell_far ⟨b,1,none⟩ hl hn).trans h.x1,(hg.cell_far ⟨b,2,none⟩ hl hn).trans h.x2,(hg.frozen_far ⟨b,0,none⟩ hl hn).trans h.f0,(hg.frozen_far ⟨b,1,none⟩ hl hn).trans h.f1,(hg.frozen_far ⟨b,2,none⟩ hl hn).trans h.f2⟩
def Eo (rest:ByteArray) (bad:Bool):ByteArray:=(Ba rest bad rest.size).1
def Iy (rest:ByteArray) (bad:Bool):ByteArray:=(Ba rest bad rest.size).2.1
def Fx (rest:ByteArray) (bad:Bool) (wd:Int):Bool:=(Ba rest bad rest.size).2.2|| !(rd (Eo rest bad) wd).2.2
theorem OK {rest:ByteArray} {bad:Bool} (h:rest.size<=1048576):(Eo rest bad).size<=1048576:=by
 unfold Eo Ba;split
 ·exact Nat.zero_le _
 ·split
  ·exact Nat.zero_le _
  ·simp;omega
theorem RG (b:Nat) (rest:ByteArray) (kind:Int) (bad:Bool) (wd:Int) (w:World) (h:Dn w b rest kind bad) (he:Env w) (hb:∀g∈[0,1,2,3,6,7,5,4],g<b) (hs:rest.size<=1048576):
 Calls prog 162 #[.pointer (some ⟨b,0,none⟩),XJ wd] w fun e w'=>∃v,e=.returned (.agg #[.string (rd (Eo rest bad) wd).1,v])/\
  w'.ownsRow w.heap.size 9 1 v (rd (Eo rest bad) wd).2.1.length ((rd (Eo rest bad) wd).2.1.map Value.string)/\Dn w' b (Iy rest bad) kind (Fx rest bad wd)/\w.grownBy w' (some b):=by
 obtain⟨W,hW⟩:∃W,W=w.alloc (.cells #[XM,XN] 66):=⟨_,rfl⟩;have zG:=(Aq hW).1;have r0:W.cell? (XL (w.heap.size) 0)=some XM:=by rw[hW];simp
 have r1:W.cell? (XL (w.heap.size) 1)=some XN:=by rw[hW];simp
 have zN:W.frozen? ⟨w.heap.size,0,none⟩=false:=by rw[hW];simp
 have zX:W.frozen? ⟨w.heap.size,1,none⟩=false:=by rw[hW];simp
 have hz:w.heap.size<W.heap.size:=by rw[hW];simp
 have zA:=h.lt;have yA:=h.below zG;have eW:=he.below zG;obtain⟨gt,gv,zT⟩:=eW.er 6 (by simp);have HW:Hid _:=hW;have zU:=OK (bad:=bad) hs;obtain⟨er,zR,x0,x1,x2,f0,f1,f2⟩:=yA;have HS:Hid (Dn W b rest kind bad):=⟨er,zR,x0,x1,x2,f0,f1,f2⟩;clear hW h;go_enter func162,ntmps162;go_upto_region 1 with fail;rw[←HW.o];go_wp2_with fail
 refine(Hk b rest kind bad rest.size gt gv W HS.o (fun _=>by omega) zT).mono ?_;rintro e w1 ⟨rfl,h1,g1⟩;rw[show(Ba rest bad rest.size).1=Eo rest bad from rfl];obtain⟨TK,zH⟩:∃TK,TK=Eo rest bad:=⟨_,rfl⟩;rw[←zH] at zU ⊢;have HT:Hid _:=zH;have HR:=fun W'=>RD TK wd W' zU;unfold DV at HR;have HL:Hid _:=HR;clear HR x0 x1 x2 f0 f1 f2 zR zT zH;go_wp2_with fail;refine(HL.o w1).mono ?_
 rintro e w2 ⟨v,rfl,ho,zI⟩;obtain⟨a2,c2,hv,_⟩:=Dm ho;subst hv;have yB:=g1.size;have zF:=zI.size;obtain⟨W3,zC⟩:∃W3,W3=w2.alloc (.cells #[.string (rd TK wd).1,.slice a2 (rd TK wd).2.1.length c2] 66):=⟨_,rfl⟩;have zE:=(Aq zC).1;have t0:W3.cell? (XL (w2.heap.size) 0)=some (.string (rd TK wd).1):=by rw[zC];simp
 have t1:W3.cell? (XL (w2.heap.size) 1)=some (.slice a2 (rd TK wd).2.1.length c2):=by rw[zC];simp
 have zV:w2.heap.size<W3.heap.size:=by rw[zC];simp
 have zY:=zE.size;have zB:=zI.trans (zE.mono zF);have q0:=(zB.cell (p:=⟨w.heap.size,0,none⟩) (by simp;omega)).trans ((g1.cell_far ⟨w.heap.size,0,none⟩ hz (Hv zA)).trans r0);have q1:=(zB.cell (p:=⟨w.heap.size,1,none⟩) (by simp;omega)).trans ((g1.cell_far ⟨w.heap.size,1,none⟩ hz (Hv zA)).trans r1)
 have zO:=(zB.frozen (p:=⟨w.heap.size,0,none⟩) (by simp;omega)).trans ((g1.frozen_far ⟨w.heap.size,0,none⟩ hz (Hv zA)).trans zN);have zW:=(zB.frozen (p:=⟨w.heap.size,1,none⟩) (by simp;omega)).trans ((g1.frozen_far ⟨w.heap.size,1,none⟩ hz (Hv zA)).trans zX);have zJ:=h1.below zB;have e3:=(eW.but g1 hb).below zB;have gW:=((Ax (some b) zG).trans g1).trans (Ax (some b) zB)
 have zK:=ho.kept (Ax none zE) (Classical.em _);have zS:∀k,(Value.slice a2 (rd TK wd).2.1.length c2).ownBlock=some k->w1.heap.size<=k:=fun k hk=>(ho.lt k hk).1;obtain⟨kt,kv,zZ⟩:=e3.er 7 (by simp);have HB:Hid _:=And.intro zJ (And.intro gW (And.intro zK zS));have zP:Hid _:=zC;clear zJ gW zK e3 h1 g1 zI ho r0 r1 zN zX eW HS HL zS HW zB zE zC;go_upto_region 2 with fail;rw[←zP.o];clear zP
 cases hok:(rd TK wd).2.2 with
 |true=>
  go_wp2;refine bodyPost_ret (v:=.agg #[.string (rd TK wd).1,.slice a2 (rd TK wd).2.1.length c2]) (by simp[results,results162,go_sem, *]) rfl ?_;refine⟨_,by rw[←HT.o],?_,?_,?_⟩
  ·rw[←HT.o]
   exact(ownsRow_setCell_below (ownsRow_setCell_below HB.o.2.2.1 (show w.heap.size<w1.heap.size by omega) _) (show w.heap.size<w1.heap.size by omega) _).mono (by omega)
  ·have:Fx rest bad wd=(Ba rest bad rest.size).2.2:=by unfold Fx;rw[←HT.o,hok];simp
   rw[this];exact(HB.o.1.far (Av _ w.heap.size 0 _) (by omega)).far (Av _ w.heap.size 1 _) (by omega)
  ·exact(HB.o.2.1.andThen (Av _ w.heap.size 0 _) (fun j e=>by cases e;exact .inl (XB))).andThen (Av _ w.heap.size 1 _) (fun j e=>by cases e;exact .inl (XB))
 |false=>
  go_wp2_with fail;refine(Fl b _ kind _ kt kv W3 HB.o.1).mono ?_;rintro e w4 ⟨rfl,h4,g4⟩;have yC:=g4.size;have t0:=(g4.cell_far ⟨w2.heap.size,0,none⟩ zV (Hv (show b<w2.heap.size by omega))).trans t0;have t1:=(g4.cell_far ⟨w2.heap.size,1,none⟩ zV (Hv (show b<w2.heap.size by omega))).trans t1;have q0:=(g4.cell_far ⟨w.heap.size,0,none⟩ (show w.heap.size<W3.heap.size by omega) (Hv zA)).trans q0
  have q1:=(g4.cell_far ⟨w.heap.size,1,none⟩ (show w.heap.size<W3.heap.size by omega) (Hv zA)).trans q1;have zO:=(g4.frozen_far ⟨w.heap.size,0,none⟩ (show w.heap.size<W3.heap.size by omega) (Hv zA)).trans zO;have zW:=(g4.frozen_far ⟨w.heap.size,1,none⟩ (show w.heap.size<W3.heap.size by omega) (Hv zA)).trans zW;have zM:=HB.o.2.2.1.kept g4 (.inr (fun e=>by have:=HB.o.2.2.2 b e;omega))
  have gW:=HB.o.2.1.trans g4;have HC:Hid _:=And.intro h4 (And.intro gW zM);clear h4 gW zM g4 zZ;go_wp2;refine bodyPost_ret (v:=.agg #[.string (rd TK wd).1,.slice a2 (rd TK wd).2.1.length c2]) (by simp[results,results162,go_sem, *]) rfl ?_;refine⟨_,by rw[←HT.o],?_,?_,?_⟩
  ·rw[←HT.o]
   exact(ownsRow_setCell_below (ownsRow_setCell_below HC.o.2.2 (show w.heap.size<w1.heap.size by omega) _) (show w.heap.size<w1.heap.size by omega) _).mono (by omega)
  ·have:Fx rest bad wd=true:=by unfold Fx;rw[←HT.o,hok];simp
   rw[this];exact(HC.o.1.far (Av _ w.heap.size 0 _) (by omega)).far (Av _ w.heap.size 1 _) (by omega)
  ·exact(HC.o.2.1.andThen (Av _ w.heap.size 0 _) (fun j e=>by cases e;exact .inl (XB))).andThen (Av _ w.heap.size 1 _) (fun j e=>by cases e;exact .inl (XB))
end Go.Proofs.YtpekbmegopfhfaaGreatDoor
