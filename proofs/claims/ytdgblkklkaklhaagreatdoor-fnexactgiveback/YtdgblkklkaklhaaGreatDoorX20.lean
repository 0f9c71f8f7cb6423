import Derived.Test.YtdgblkklkaklhaaGreatDoorX19
import Derived.LaidEql
import Derived.Stop.Asserts
import Derived.RowKitTokens
set_option maxRecDepth 100000
set_option maxHeartbeats 16000000
namespace Go.Proofs.YtdgblkklkaklhaaGreatDoor
open Go.ChangeShapes Go.WideShapes Go.ChangeAt Go.RowKit _root_.Go.Proofs.Tryz
section
open Go.RowKit Go.Extern.Stop Go.Stop Go.Extern
def Hl(w:Zh):Prop:=w.cell? (Ze 5 0)=some (.iface 284 (.agg #[.pointer (some ⟨9,208,none⟩)]))
theorem Hl.below{w a:Zh}(h:Hl w)(b:Zz w a):Hl a:=by unfold Hl at h ⊢;exact(b.cell (p:=⟨5,0,none⟩) (World.block_lt_of_cell? w _ h)).trans h
theorem XM(t:Value)(w:Zh):
 Calls prog 158 #[.nilIface,t] w fun e a=>e=.returned (.bool false)/\a=w:=by
 go_enter func158,ntmps158;go_wp2;go_ret;exact⟨rfl,rfl⟩
abbrev rt(t:Nat):Value:=.agg #[.pointer (some ⟨9,t,none⟩)]
abbrev rv(t:Nat)(a:Addr)(f:Int):Value:=.agg #[.pointer (some ⟨9,t,none⟩),.pointer (some a),.int .u64 f]
theorem UL(t:Addr)(w:Zh):(ReflectliteValue.unpack (.iface 223 (.pointer (some t)))).run prog w
 =.ok (rv 223 ⟨w.heap.size,0,none⟩ 150) (w.alloc (.cells #[.pointer (some t)] 223)):=by kernel_rfl
theorem UM(e:Addr)(w:Zh):(ReflectliteValue.unpack (.iface 221 (.pointer (some e)))).run prog w
 =.ok (rv 221 ⟨w.heap.size,0,none⟩ 150) (w.alloc (.cells #[.pointer (some e)] 221)):=by kernel_rfl
theorem XN(a:Addr)(w:Zh):(ReflectliteValue.methodAny (ReflectliteValue.valueError "reflectlite.Value.Type" 0) (fun t _ _ _=>ReflectliteType.toType t) #[rv 223 a 150]).run prog w
 =.ok (.iface 284 (rt 223)) w:=by kernel_rfl
theorem Wz(h:Value)(w:Zh):(Go.method 454 284 (.agg #[h]) "Kind").run prog w=.ok (269,h) w:=by kernel_rfl
theorem WA(h:Value)(w:Zh):(Go.method 454 284 (.agg #[h]) "Elem").run prog w=.ok (282,.agg #[h]) w:=by kernel_rfl
theorem WB(h:Value)(w:Zh):(Go.method 454 284 (.agg #[h]) "Implements").run prog w=.ok (283,.agg #[h]) w:=by kernel_rfl
theorem XO(h:Value)(w:Zh):(Go.method 454 284 (.agg #[h]) "AssignableTo").run prog w=.ok (280,.agg #[h]) w:=by kernel_rfl
theorem WC(w:Zh):((ReflectliteType.abiMethod fun t=>(fun a:Nat=>Value.int IntKind.u8 (a:Int))<$>Rtype.kind t) #[Yy 9 223]).run prog w=.ok (.int .u8 22) w:=by kernel_rfl
theorem WD(w:Zh):((ReflectliteType.abiMethod fun t=>(fun a:Nat=>Value.int IntKind.u8 (a:Int))<$>Rtype.kind t) #[Yy 9 221]).run prog w=.ok (.int .u8 22) w:=by kernel_rfl
theorem XP(w:Zh):(ReflectliteType.method ReflectliteType.elem #[rt 223]).run prog w=.ok (.iface 284 (rt 221)) w:=by kernel_rfl
theorem XQ(w:Zh):(ReflectliteType.relation "Implements" ReflectliteType.implements_ #[rt 221,.iface 284 (rt 208)]).run prog w=.ok (.bool true) w:=by kernel_rfl
theorem UN(v:Value)(w:Zh):(ReflectliteType.typeOf #[.iface 221 v]).run prog w=.ok (.iface 284 (rt 221)) w:=by kernel_rfl
theorem ZE(w:Zh):(ReflectliteType.relation "AssignableTo" ReflectliteType.assignableTo #[rt 221,.iface 284 (rt 221)]).run prog w=.ok (.bool true) w:=by kernel_rfl
theorem UO(w:Zh):(Rtype.elem? 223).run prog w=.ok (some 221) w:=by kernel_rfl
theorem Aac(p:Addr)(w:Zh):(ReflectliteValue.mk 221 p ReflectliteValue.flagAddr).run prog w=.ok (rv 221 p 406) w:=by kernel_rfl
theorem NZ(a:Addr)(w:Zh):(ReflectliteValue.parts (rv 223 a 150)).run prog w=.ok (some (223,a,150)) w:=by kernel_rfl
theorem UP(a:Addr)(w:Zh):(ReflectliteValue.parts (rv 221 a 406)).run prog w=.ok (some (221,a,406)) w:=by kernel_rfl
theorem UQ(a:Addr)(w:Zh):(ReflectliteValue.parts (rv 221 a 150)).run prog w=.ok (some (221,a,150)) w:=by kernel_rfl
theorem UR(w:Zh):(Rtype.directlyAssignable 221 221).run prog w=.ok true w:=by kernel_rfl
theorem SO(z:Sem Value)(f:TypeId->Addr->Nat->Nat->Sem Value)(v:Value):
 ReflectliteValue.method z f #[v]=(do match ←ReflectliteValue.parts v with|none=>z|some (t,a,fl)=>f t a fl (fl%32)):=rfl
theorem WE(a p:Addr)(W:Zh)(b:W.cell? a=some (.pointer (some p))):
 (ReflectliteValue.method (ReflectliteValue.valueError "reflectlite.Value.IsNil" 0) ReflectliteValue.isNil #[rv 223 a 150]).run prog W=.ok (.bool false) W:=by
 rw[SO];simp only[Sem.run_bind,NZ,Result.andThen];simp[ReflectliteValue.isNil,loadVar,isAgg,underlying,underlying223,b,Result.andThen]
theorem WG(a p:Addr)(W:Zh)(b:W.cell? a=some (.pointer (some p))):
 (ReflectliteValue.method (ReflectliteValue.valueError "reflectlite.Value.Elem" 0) ReflectliteValue.elem #[rv 223 a 150]).run prog W=.ok (rv 221 p 406) W:=by
 rw[SO];simp only[Sem.run_bind,NZ,Result.andThen];simp[ReflectliteValue.elem,loadVar,isAgg,underlying,underlying223,b,Result.andThen,UO,Aac]
theorem XR(v x:Value):ReflectliteValue.set #[v,x]=(do
 let (some (dst,a,fl),some (src,b,_)):=(←ReflectliteValue.parts v,←ReflectliteValue.parts x)
  |unsupported (.noEntry "extern/(internal/reflectlite.Value).Set.zeroValue")
 if fl/ReflectliteValue.flagAddr%2==0 then unsupported (.noEntry "extern/(internal/reflectlite.Value).Set.unaddressable")
 let val ←loadVar src b
 if ←Rtype.directlyAssignable dst src then storeVar dst a val
 else if ←Rtype.implements dst src then
  if (←Rtype.kind src)==20 then
   match val with
   |.nilIface=>unsupported (.noEntry "extern/reflectlite: a nil value of one interface type handed on as a value of another")
   |_=>storeVar dst a val
  else storeVar dst a (.iface src val)
 else panicString ("reflectlite.Set: value of type " ++(←Rtype.spelt src)++ " is not assignable to type " ++(←Rtype.spelt dst))
 pure (.tuple #[])):=rfl
theorem ZF(a b e:Addr)(c:Value)(W:Zh)(d:W.cell? b=some (.pointer (some e)))(g:W.cell? a=some c)(f:W.frozen? a=false):
 (ReflectliteValue.set #[rv 221 a 406,rv 221 b 150]).run prog W=.ok (.tuple #[]) (W.setCell a (.pointer (some e))):=by
 rw[XR];simp only[Sem.run_bind,UP,UQ,Result.andThen];simp[ReflectliteValue.flagAddr,loadVar,isAgg,underlying,underlying221,d,Result.andThen,UR,storeVar,Value.cells,storeCells,Addr.add];rw[run_store prog W a _ _ (by rfl)];simp[g,f]
theorem XS(e:Addr)(a:Nat)(g:Value)(w:Zh)(j:Hl w)(f:w.cell? (Ze a 0)=some g)(l:w.frozen? ⟨a,0,none⟩=false):
 Calls prog 158 #[.iface 221 (.pointer (some e)),.iface 223 (Yz a)] w fun n o=>n=.returned (.bool true)/\Below a w o:=by
 have z:= @run_callFunc_extern prog 188 _ (fun args=>ReflectliteValue.unpack (args.getD 0 (.tuple #[]))) func188 (by kernel_rfl) (by kernel_rfl) (by kernel_rfl) (by kernel_rfl)
 have A:= @run_callFunc_extern prog 189 _ (ReflectliteValue.methodAny (ReflectliteValue.valueError "reflectlite.Value.Type" 0) (fun t _ _ _=>ReflectliteType.toType t)) func189 (by kernel_rfl) (by kernel_rfl) (by kernel_rfl) (by kernel_rfl)
 have B:= @run_callFunc_extern prog 190 _ (ReflectliteValue.method (ReflectliteValue.valueError "reflectlite.Value.IsNil" 0) ReflectliteValue.isNil) func190 (by kernel_rfl) (by kernel_rfl) (by kernel_rfl) (by kernel_rfl)
 have C:= @run_callFunc_extern prog 269 _ (ReflectliteType.abiMethod fun t=>do pure (.int .u8 (←Rtype.kind t))) func269 (by kernel_rfl) (by kernel_rfl) (by kernel_rfl) (by kernel_rfl);have D:= @run_callFunc_extern prog 282 _ (ReflectliteType.method ReflectliteType.elem) func282 (by kernel_rfl) (by kernel_rfl) (by kernel_rfl) (by kernel_rfl)
 have E:= @run_callFunc_extern prog 283 _ (ReflectliteType.relation "Implements" ReflectliteType.implements_) func283 (by kernel_rfl) (by kernel_rfl) (by kernel_rfl) (by kernel_rfl);have F:= @run_callFunc_extern prog 218 _ ReflectliteType.typeOf func218 (by kernel_rfl) (by kernel_rfl) (by kernel_rfl) (by kernel_rfl)
 have G:= @run_callFunc_extern prog 280 _ (ReflectliteType.relation "AssignableTo" ReflectliteType.assignableTo) func280 (by kernel_rfl) (by kernel_rfl) (by kernel_rfl) (by kernel_rfl)
 have H:= @run_callFunc_extern prog 219 _ (ReflectliteValue.method (ReflectliteValue.valueError "reflectlite.Value.Elem" 0) ReflectliteValue.elem) func219 (by kernel_rfl) (by kernel_rfl) (by kernel_rfl) (by kernel_rfl);have q:= @run_callFunc_extern prog 220 _ ReflectliteValue.set func220 (by kernel_rfl) (by kernel_rfl) (by kernel_rfl) (by kernel_rfl);have J:=UN;have K:=XO;have L:=ZE;have M:=UM
 have N:=UL;have O:=XN;have P:=Wz;have Q:=WA;have R:=WB;have s:=WC;have u:=WD;have v:=XP;have x:=XQ;have m:5<w.heap.size:=World.block_lt_of_cell? w _ j;have b:a<w.heap.size:=World.block_lt_of_cell? w ⟨a,0,none⟩ f;have h:Below w.heap.size w (w.alloc (.cells #[Yz a] 223)):=Zy;have c:=h.alloc h.size (.cells #[Yy 9 223,Yz w.heap.size,.int .u64 150] 251)
 have i:=c.alloc c.size (.cells #[Yy 9 223,Yz w.heap.size,.int .u64 150] 251);have d:=i.alloc i.size (.cells #[.pointer (some e)] 221);have I:=WE ⟨w.heap.size,0,none⟩ ⟨a,0,none⟩ ((w.alloc (.cells #[Yz a] 223)).alloc (.cells #[Yy 9 223,Yz w.heap.size,.int .u64 150] 251)) (by simp)
 have r:((w.alloc (.cells #[Yz a] 223)).alloc (.cells #[Yy 9 223,Yz w.heap.size,.int .u64 150] 251)).cell? (Ze 5 0)=some (.iface 284 (.agg #[Yy 9 208])):=(c.cell (p:=⟨5,0,none⟩) m).trans j
 have y:=WG ⟨w.heap.size,0,none⟩ ⟨a,0,none⟩ (((w.alloc (.cells #[Yz a] 223)).alloc (.cells #[Yy 9 223,Yz w.heap.size,.int .u64 150] 251)).alloc (.cells #[Yy 9 223,Yz w.heap.size,.int .u64 150] 251)) (by rw[World.cell?_alloc_lt _ _ ⟨w.heap.size,0,none⟩ (by simp;omega)];simp)
 have S:=ZF ⟨a,0,none⟩ ⟨w.heap.size+1+1+1,0,none⟩ e g ((((w.alloc (.cells #[Yz a] 223)).alloc (.cells #[Yy 9 223,Yz w.heap.size,.int .u64 150] 251)).alloc (.cells #[Yy 9 223,Yz w.heap.size,.int .u64 150] 251)).alloc (.cells #[.pointer (some e)] 221))
  (by rw[World.cell?_alloc_at _ _ _ _ (by simp)];rfl)
  ((d.cell (p:=⟨a,0,none⟩) b).trans f)
  ((d.frozen (p:=⟨a,0,none⟩) b).trans l)
 have fin:=(d.mono (Nat.le_of_lt b)).setCell (show a<=(⟨a,0,none⟩:Addr).block from Nat.le_refl a) (.pointer (some e));clear h c i d;have k:=Yx fin;clear fin;go_enter func158,ntmps158;go_wp2;refine wp_loop_rounds 1 ?_;rw[rounds_succ];go_wp2;go_ret;exact⟨rfl,k.o⟩
end
theorem BY(b:UInt8):wrap64 (b.toNat:Int)=(b.toNat:Int):=by have h:=b.toNat_lt;simp[wrap64];omega
theorem Eh(x:Int)(h: -9223372036854775808<=x)(a:x<9223372036854775808):IntKind.i64.wrap x=x:=by rw[IntKind.wrap_i64];omega
theorem SP{n k:Nat}{a:Int}(b:1<=a)(c:k<n):0<=(k:Int) *a/\(k:Int) *a<=(n:Int) *a/\((k:Int)+1) *a=(k:Int) *a+a/\(k:Int) *a+a<=(n:Int) *a:=by refine⟨Int.mul_nonneg (by omega) (by omega),Int.mul_le_mul_of_nonneg_right (by omega) (by omega),by rw[Int.add_mul,Int.one_mul],?_⟩;have:((k:Int)+1) *a<=(n:Int) *a:=Int.mul_le_mul_of_nonneg_right (by omega) (by omega);rw[Int.add_mul,Int.one_mul]at this;exact this
theorem JF{n:Nat}{a:Int}(e:n<256)(b:1<=a)(c:a<=8):0<=(n:Int) *a/\(n:Int) *a<=2040:=by refine⟨Int.mul_nonneg (by omega) (by omega),?_⟩;have d:(n:Int) *a<=255 *a:=Int.mul_le_mul_of_nonneg_right (by omega) (by omega);omega
def Dn(s:Zi)(wd:Int)(n:Nat):Zi:=(s.extract 1 s.size).extract ((n:Int) *wd).toNat (s.size -1)
def Jm(s:Zi)(wd:Int)(i:Nat):Zi:=(s.extract 1 s.size).extract ((i:Int) *wd).toNat ((i:Int) *wd+wd).toNat
def BE(s:Zi)(wd:Int)(k:Nat):Zl:=(List.range k).map (Jm s wd)
theorem Cj(s:Zi)(a:Int)(k:Nat):(BE s a k).length=k:=by simp[BE]
theorem QZ(s:Zi)(a:Int)(k:Nat):(BE s a k).map Value.string++[Value.string (Jm s a k)]=(BE s a (k+1)).map Value.string:=by simp[BE,List.range_succ]
theorem Hm{wr b:Zh}{o:Obj}{row:Option Nat}{p:Addr}{x:Value}(e:(wr.alloc o).drew.grownBy b row)(a:wr.cell? p=some x)(d:some p.block≠row):b.cell? p=some x:=by refine e.cell ?_ d;have c:=World.block_lt_of_cell? wr p a;exact(World.cell?_alloc_lt wr o p c).trans a
theorem JP{wr a:Zh}{o:Obj}{row:Option Nat}{p:Addr}(e:(wr.alloc o).drew.grownBy a row)(b:p.block<wr.heap.size)(c:some p.block≠row):a.frozen? p=wr.frozen? p:=by have d:=World.frozen?_of_block (e.block p.block (by simp;omega) c);rw[d];exact World.frozen?_alloc_old wr o p (Nat.ne_of_lt b)
theorem SQ{w:Zh}{base:Nat}{e:TypeId}{v:Value}{n:Nat}{c:Zj}(h:w.ownsRow base e 1 v n c){b:Nat}(d:b<base):some b≠v.ownBlock:=by intro a;have:=(h.lt b a.symm).1;omega
theorem DF{w:Zh}{base:Nat}{v:Value}{ss:Zl}(h:w.ownsRow base 9 1 v ss.length (ss.map Value.string)):∃a b,v=.slice a ss.length b/\Ad w w.heap.size a ss:=by
 rcases h.2 with⟨c,d⟩|⟨g,b,e,c,_⟩
 ·exact⟨none,0,by rw[c,d],.inl (List.eq_nil_of_length_eq_zero d)⟩
 ·subst c;exact⟨_,_,rfl,Ad.own h⟩
theorem Mn{s:Zi}{e:Int}{w wr b:Zh}{o:Obj}{v:Value}{k g a:Nat}{bt:Zi}{W:Zh}
 (n:w.heap.size+1<wr.heap.size) (h:wr.ownsRow (w.heap.size+2) 9 1 v k ((BE s e k).map Value.string)) (f:Below (w.heap.size+1) W wr)
 (d:b.ownsRow (w.heap.size+2) 9 1 (Za g (k+1) a) (k+1) ((BE s e k).map Value.string++[.string (Jm s e k)]))
 (c:(wr.alloc o).drew.grownBy b v.ownBlock) (i:b.cell? (Ze (w.heap.size+1) 0)=some (.string bt)) (j:b.cell? (Ze (w.heap.size+1) 1)=some v) (l:b.frozen? ⟨w.heap.size+1,1,none⟩=false):
 (b.setCell (Ze (w.heap.size+1) 1) (Za g (k+1) a)).cell? (Ze (w.heap.size+1) 0)=some (.string bt)/\
 (b.setCell (Ze (w.heap.size+1) 1) (Za g (k+1) a)).cell? (Ze (w.heap.size+1) 1)=some (Za g (k+1) a)/\
 (b.setCell (Ze (w.heap.size+1) 1) (Za g (k+1) a)).frozen? ⟨w.heap.size+1,1,none⟩=false/\
 (b.setCell (Ze (w.heap.size+1) 1) (Za g (k+1) a)).ownsRow (w.heap.size+2) 9 1 (Za g (k+1) a) (k+1) ((BE s e (k+1)).map Value.string)/\
 Below (w.heap.size+1) W (b.setCell (Ze (w.heap.size+1) 1) (Za g (k+1) a)):=by
 refine⟨?_,?_,?_,?_,?_⟩
 ·rw[←i];exact World.cell?_setCell_other _ _ _ _ (by simp)
 ·exact World.cell?_setCell_same' _ _ _ (by rw[j];rfl)
 ·rw[World.frozen?_setCell];exact l
 ·rw[←QZ];exact ownsRow_setCell_below d (by simp) _
 ·exact(((f.alloc (by omega) o).drew).grown c (by simp;omega) (fun k m=>by have:=(h.lt k m).1;omega)).setCell (by simp) _
theorem Oa{s:Zi}(h:0<s.size):s.toList.isEmpty=false:=by
 have:s.toList.length=s.size:=by rw[ByteArray.toList_eq];simp
 cases hl:s.toList with
 |nil=>rw[hl]at this;simp at this;omega
 |cons x r=>rfl
theorem SR(s:Zi)(c:Int)(n:Nat)(w:Zh)(hs:s.size<=1048576)(H:1<=c)(h2:c<=8)(h0:0<s.size)(A:s[0].toNat=n)(T:(n:Int) *c<=s.size -1):
 Calls prog 217 #[.string s,Zg c] w fun e K=>
  (AJ (Dn s c n) (BE s c n) c=true->∃v,e=.returned (.tuple #[.agg #[.string (Dn s c n),v],.bool true])/\K.ownsRow w.heap.size 9 1 v n ((BE s c n).map Value.string))/\
  (AJ (Dn s c n) (BE s c n) c=false->e=.returned (.tuple #[.agg #[Zd,Zc],.bool false]))/\Zz w K:=by
 obtain⟨i0,hi,P,Q,S⟩:=info_parts CK;have y:s.toList.isEmpty=false:=Oa h0;have V:(0:Int)<s.size:=by omega
 have hn:n<256:=by rw[←A];exact s[0].toNat_lt
 have zA:=JF hn H h2;have HN:=Yx A;clear A;go_enter func217,ntmps217;go_wp2;go_quiet (fail);simp only[BY];rw[HN.o];go_wp2_with fail;obtain⟨bt,q⟩:∃bt,bt=Dn s c n:=⟨_,rfl⟩;rw[show(s.extract 1 s.size).extract ((n:Int) *c).toNat (s.size -1)=bt from q.symm];have t:=Yx q;clear q
 go_loopw [37] (fun i wr=>∃(k:Nat) (v:Value),k<=n/\i=Zg k/\wr.cell? (Ze (w.heap.size+1) 0)=some (.string bt)/\wr.cell? (Ze (w.heap.size+1) 1)=some v/\wr.frozen? ⟨w.heap.size+1,1,none⟩=false/\
  wr.ownsRow (w.heap.size+2) 9 1 v k ((BE s c k).map Value.string)/\Below (w.heap.size+1) (w.alloc (Obj.cells #[Value.string ⟨#[]⟩,Value.slice none 0 0] 58)) wr) (fun i _=>n -(intOf i).toNat)
 case atStart=>exact⟨0,Zc,Nat.zero_le _,rfl,by simp[go_sem],by simp[go_sem],by simp[go_sem],World.ownsRow_nil _ _ _ _,(BV (Below.refl _ _) _).alloc (by simp) _⟩
 case round=>
  obtain⟨k,v,hk,rfl,x,C,E,l,d⟩:=hrel;have N:=d.size;simp at N;by_cases hlt:k<n
  ·obtain⟨m1,m2,m3,m4⟩:=SP H hlt;have Z:(s.extract 1 s.size).size=s.size -1:=by simp
   have U:(k:Int)<n:=by omega
   have e1:=Eh ((k:Int) *c) (by omega) (by omega);have e2:=Eh ((k:Int)+1) (by omega) (by omega);have e3:=Eh ((k:Int) *c+c) (by omega) (by omega);have b2:(k:Int) *c<=(k:Int) *c+c:=by omega
   have b3:(k:Int) *c+c<=((s.size -1:Nat):Int):=by omega
   go_wp2;have y:=SQ l (b:=w.heap.size+1) (by omega);have r:w.heap.size+1<wr.heap.size:=World.block_lt_of_cell? wr _ x
   go_region_law (refine step_append_lies _ rfl (.tmp 41) (.tmp 51) 22 rfl (w.heap.size+2) 9 i0 Zd 1 16 underlying22 hi P Q S rfl (by decide) v k ((BE s c k).map Value.string) rfl (World.ownsRow.alloc l _) ⟨wr.heap.size,0,none⟩ 1 1 [.string (Jm s c k)] rfl rfl (cell_one_new wr (.string (Jm s c k)) 9) (by simp[Value.oneCell']) (by decide) (by unfold maxLen;omega) (by omega) (by simp;omega) (wr.heap.size+1) (by simp) ?_;intro g u w1 o f zB W;have D:=Hm f x y;have L:=Hm f C y;have M:=(JP (p:=⟨w.heap.size+1,1,none⟩) f (by simp;omega) y).trans E)
   all_goals
    have R:=Mn r l d o f D L M;have z:=Yx R;clear R l d o f D x C E;go_wp2;refine⟨⟨_,_,_,_,_,_,_,_,_,_,_,_,_,_,_,_,_,_,_,⟨k+1,_,by omega,?_,z.o.1,z.o.2.1,z.o.2.2.1,z.o.2.2.2.1,z.o.2.2.2.2⟩,rfl⟩,?_⟩
    ·go_num
    ·simp[intOf];omega
  ·obtain rfl:k=n:=by omega
   have r:w.heap.size+1<wr.heap.size:=World.block_lt_of_cell? wr _ x;obtain⟨a,u,J,B⟩:=DF (ss:=BE s c k) (by rw[Cj];exact l);rw[Cj]at J;subst J;have F:(wr.cell? (Ze (w.heap.size) 0))=some Zd:=by rw[d.cell (p:=⟨w.heap.size,0,none⟩) (by simp)];simp
   have G:(wr.cell? (Ze (w.heap.size) 1))=some Zc:=by rw[d.cell (p:=⟨w.heap.size,1,none⟩) (by simp)];simp
   have X:wr.frozen? ⟨w.heap.size,0,none⟩=false:=by rw[d.frozen (p:=⟨w.heap.size,0,none⟩) (by simp)];simp
   have Y:wr.frozen? ⟨w.heap.size,1,none⟩=false:=by rw[d.frozen (p:=⟨w.heap.size,1,none⟩) (by simp)];simp
   have O:bt.size<=maxLen:=by rw[t.o];simp[Dn,maxLen];omega
   have j:=Ec bt a u (BE s c k) c wr B (by rw[Cj];omega) O;rw[Cj]at j;have m:w.heap.size<wr.heap.size:=by omega
   go_wp2_with fail;refine j.mono ?_;rintro e w2 ⟨rfl,rfl⟩;have I:Below w.heap.size w wr:=(Zy).trans (d.mono (by omega));cases hok:AJ bt (BE s c k) c with
   |true=>
    clear j;go_wp2;refine bodyPost_ret (v:=.tuple #[.agg #[.string bt,.slice a k u],.bool true]) (by simp[results,results217,go_sem,m,F,G]) rfl ⟨fun _=>⟨.slice a k u,?_,?_⟩,fun h=> ?_,?_⟩
    ·rw[t.o]
    ·exact((ownsRow_setCell_below (ownsRow_setCell_below l (by simp) _) (by simp) _).alloc _).mono (by omega)
    ·rw[←t.o,hok]at h;cases h
    ·exact((I.setCell (by simp) _).setCell (by simp) _).alloc (by simp;omega) _
   |false=>
    clear j;go_wp2;refine bodyPost_ret (v:=.tuple #[.agg #[Zd,Zc],.bool false]) (by simp[results,results217,go_sem,m,F,G]) rfl ⟨fun h=> ?_,fun _=>rfl,?_⟩
    ·rw[←t.o,hok]at h;cases h
    ·exact((I.setCell (by simp) _).setCell (by simp) _).alloc (by simp;omega) _
def FL(w:Zh)(e:Ending)(w':Zh):Prop:=e=.returned (.tuple #[.agg #[Zd,Zc],.bool false])/\Zz w w'
theorem SV(s:Zi)(a:Int)(w:Zh)(h:¬(1<=a/\a<=8)):
 Calls prog 217 #[.string s,Zg a] w (FL w):=by
 by_cases h1:1<=a
 ·have b:decide (a<=8)=false:=by simp;omega
  go_enter func217,ntmps217;go_wp2;exact bodyPost_ret (v:=.tuple #[.agg #[Zd,Zc],.bool false]) (by simp[results,results217,go_sem]) rfl ⟨rfl,Zy⟩
 ·go_enter func217,ntmps217;go_wp2;exact bodyPost_ret (v:=.tuple #[.agg #[Zd,Zc],.bool false]) (by simp[results,results217,go_sem]) rfl ⟨rfl,Zy⟩
theorem isEmpty{s:Zi}(h:s.size=0):s.toList.isEmpty=true:=by
 have:s.toList.length=s.size:=by rw[ByteArray.toList_eq];simp
 rw[List.isEmpty_iff,←List.length_eq_zero_iff];omega
theorem SW(s:Zi)(a:Int)(w:Zh)(d:1<=a)(e:a<=8)(b:s.size=0):
 Calls prog 217 #[.string s,Zg a] w (FL w):=by
 have c:=isEmpty b;go_enter func217,ntmps217;go_wp2;exact bodyPost_ret (v:=.tuple #[.agg #[Zd,Zc],.bool false]) (by simp[results,results217,go_sem]) rfl ⟨rfl,Zy⟩
theorem SX(s:Zi)(b:Int)(n:Nat)(w:Zh)(k:s.size<=1048576)(g:1<=b)(h:b<=8)(f:0<s.size)(a:s[0].toNat=n)(c:(s.size:Int) -1<(n:Int) *b):
 Calls prog 217 #[.string s,Zg b] w (FL w):=by
 have j:=Oa f;have d:(0:Int)<s.size:=by omega
 have i:n<256:=by rw[←a];exact s[0].toNat_lt
 have e:=JF i g h;have HN:=Yx a;clear a;go_enter func217,ntmps217;go_wp2;go_quiet (fail);simp only[BY];rw[HN.o];go_wp2;refine bodyPost_ret (v:=.tuple #[.agg #[Zd,Zc],.bool false]) (by simp[results,results217,go_sem]) rfl ⟨rfl,?_⟩;exact(((BV (Zy) _).setCell (by simp) _).setCell (by simp) _)
theorem XT(s:Zi)(a b:Nat)(d:b<=s.size -1)(c:0<s.size):(s.extract 1 s.size).extract a b=s.extract (1+a) (1+b):=by rw[ByteArray.extract_extract];congr 1;omega
theorem WH{s:Zi}{a:Int}{k:Nat}(b:0<s.size)(d:0<=(k:Int) *a)(c:1<=a)(e:(k:Int) *a+a<=s.size -1):s.extract (1+(k:Int) *a).toNat (1+(k:Int) *a+a).toNat=Jm s a k:=by unfold Jm;rw[XT s _ _ (by omega) b,show(1+(k:Int) *a).toNat=1+((k:Int) *a).toNat from by omega,show(1+(k:Int) *a+a).toNat=1+((k:Int) *a+a).toNat from by omega]
theorem WI{s:Zi}{a:Int}{n:Nat}(b:0<s.size)(c:0<=(n:Int) *a):s.extract (1+(n:Int) *a).toNat s.size=Dn s a n:=by unfold Dn;rw[XT s _ _ (by omega) b,show(1+(n:Int) *a).toNat=1+((n:Int) *a).toNat from by omega,show 1+(s.size -1)=s.size from by omega]
theorem SY(s:Zi)(c:Int)(n:Nat)(w:Zh)(hs:s.size<=1048576)(O:1<=c)(h2:c<=8)(P:0<s.size)(N:s[0].toNat=n)(zE:(n:Int) *c<=s.size -1):
 Calls prog 156 #[.string s,Zg c] w fun e U=>
  (AJ (Dn s c n) (BE s c n) c=true->∃v,e=.returned (.tuple #[.agg #[.string (Dn s c n),v],.bool true])/\U.ownsRow w.heap.size 9 1 v n ((BE s c n).map Value.string))/\
  (AJ (Dn s c n) (BE s c n) c=false->e=.returned (.tuple #[.agg #[Zd,Zc],.bool false]))/\Zz w U:=by
 obtain⟨i0,hi,zA,zB,zC⟩:=info_parts CK;have zG:(0:Int)<s.size:=by omega
 have zI:((s.size:Int)==0)=false:=beq_eq_false_iff_ne.2 (by omega);have hn:n<256:=by rw[←N];exact s[0].toNat_lt
 have J:=JF hn O h2;have Z:=BY s[0];rw[N]at Z;go_enter func156,ntmps156;go_wp2;obtain⟨bt,u⟩:∃bt,bt=Dn s c n:=⟨_,rfl⟩;rw[WI P J.1,←u];have z:=Yx u;clear u
 go_loopw [8] (fun i wr=>∃(k:Nat) (v:Value),k<=n/\i=Zg k/\wr.cell? (Ze (w.heap.size+1) 0)=some (.string bt)/\wr.cell? (Ze (w.heap.size+1) 1)=some v/\wr.frozen? ⟨w.heap.size+1,1,none⟩=false/\
  wr.ownsRow (w.heap.size+2) 9 1 v k ((BE s c k).map Value.string)/\Below (w.heap.size+1) (w.alloc (Obj.cells #[Value.string ⟨#[]⟩,Value.slice none 0 0] 58)) wr) (fun i _=>n -(intOf i).toNat)
 case atStart=>exact⟨0,Zc,Nat.zero_le _,rfl,by simp[go_sem],by simp[go_sem],by simp[go_sem],World.ownsRow_nil _ _ _ _,(Below.refl _ _).alloc (by simp) _⟩
 case round=>
  obtain⟨k,v,S,rfl,t,B,M,o,d⟩:=hrel;have X:=d.size;simp at X;by_cases hlt:k<n
  ·obtain⟨m1,m2,m3,m4⟩:=SP O hlt;have zF:(k:Int)<n:=by omega
   have e1:=Eh ((k:Int) *c) (by omega) (by omega);have e2:=Eh (1+(k:Int) *c) (by omega) (by omega);have e3:=Eh (1+(k:Int) *c+c) (by omega) (by omega);have b1:(0:Int)<=1+(k:Int) *c:=by omega
   have b2:1+(k:Int) *c<=1+(k:Int) *c+c:=by omega
   have b3:1+(k:Int) *c+c<=(s.size:Int):=by omega
   have H:=Yx (WH P m1 O (by omega:(k:Int) *c+c<=s.size -1));have G:=SQ o (b:=w.heap.size+1) (by omega);have r:=World.block_lt_of_cell? wr _ t;clear m3;go_wp2
   go_region_law (refine step_append_lies _ rfl (.tmp 45) (.tmp 58) 22 rfl (w.heap.size+2) 9 i0 Zd 1 16 underlying22 hi zA zB zC rfl (by decide) v k ((BE s c k).map Value.string) rfl (World.ownsRow.alloc o _) ⟨wr.heap.size,0,none⟩ 1 1 [.string (s.extract (1+(k:Int) *c).toNat (1+(k:Int) *c+c).toNat)] rfl rfl (cell_one_new wr (.string (s.extract (1+(k:Int) *c).toNat (1+(k:Int) *c+c).toNat)) 9) (by simp[Value.oneCell']) (by decide) (by unfold maxLen;omega) (by omega) (by simp;omega) (wr.heap.size+1) (by simp) ?_;intro g A w1 q f zJ zH;have L:=Hm f t G;have V:=Hm f B G;have W:=(JP (p:=⟨w.heap.size+1,1,none⟩) f (by simp;omega) G).trans M)
   all_goals
    rw[H.o]at q;have R:=Mn r o d q f L V W;have F:=Yx R;clear R o d q f L t B M;go_wp2;refine⟨⟨_,_,_,_,_,_,_,_,_,_,_,_,_,_,_,_,_,_,_,_,_,_,_,⟨k+1,_,by omega,?_,F.o.1,F.o.2.1,F.o.2.2.1,F.o.2.2.2.1,F.o.2.2.2.2⟩,rfl⟩,?_⟩
    ·go_num
    ·simp[intOf];omega
  ·obtain rfl:k=n:=by omega
   have r:=World.block_lt_of_cell? wr _ t;obtain⟨a,A,T,I⟩:=DF (ss:=BE s c k) (by rw[Cj];exact o);rw[Cj]at T;subst T;have C:(wr.cell? (Ze (w.heap.size) 0))=some Zd:=by rw[d.cell (p:=⟨w.heap.size,0,none⟩) (by simp)];simp
   have D:(wr.cell? (Ze (w.heap.size) 1))=some Zc:=by rw[d.cell (p:=⟨w.heap.size,1,none⟩) (by simp)];simp
   have x:wr.frozen? ⟨w.heap.size,0,none⟩=false:=by rw[d.frozen (p:=⟨w.heap.size,0,none⟩) (by simp)];simp
   have y:wr.frozen? ⟨w.heap.size,1,none⟩=false:=by rw[d.frozen (p:=⟨w.heap.size,1,none⟩) (by simp)];simp
   have Y:bt.size<=maxLen:=by rw[z.o];simp[Dn,maxLen];omega
   have m:=CX bt a A (BE s c k) c wr I (by rw[Cj];omega) Y;rw[Cj]at m;have l:w.heap.size<wr.heap.size:=by omega
   go_wp2_with fail;refine m.mono ?_;rintro e w2 ⟨rfl,j⟩;have Q:=(Zy).trans (d.mono (by omega));have K:=Q.trans (j.mono Q.size);have E:=o.kept (row:=none) ⟨j.os,j.tape,j.output,j.size,fun k S _=>j.block k S⟩ (by cases a<;>simp[Value.ownBlock]);have t:=(j.cell (p:=⟨w.heap.size+1,0,none⟩) r).trans t;have B:=(j.cell (p:=⟨w.heap.size+1,1,none⟩) r).trans B
   have C:=(j.cell (p:=⟨w.heap.size,0,none⟩) l).trans C;have D:=(j.cell (p:=⟨w.heap.size,1,none⟩) l).trans D;have x:=(j.frozen (p:=⟨w.heap.size,0,none⟩) l).trans x;have y:=(j.frozen (p:=⟨w.heap.size,1,none⟩) l).trans y;cases hok:AJ bt (BE s c k) c with
   |true=>
    clear m;go_wp2;refine bodyPost_ret (v:=.tuple #[.agg #[.string bt,.slice a k A],.bool true]) (by simp[results,results156,go_sem,C,D]) rfl ⟨fun _=>⟨.slice a k A,?_,?_⟩,fun h=> ?_,?_⟩
    ·rw[z.o]
    ·exact(ownsRow_setCell_below (ownsRow_setCell_below E (by simp) _) (by simp) _).mono (by omega)
    ·rw[←z.o,hok]at h;cases h
    ·exact(K.setCell (by simp) _).setCell (by simp) _
   |false=>
    clear m;go_wp2;refine bodyPost_ret (v:=.tuple #[.agg #[Zd,Zc],.bool false]) (by simp[results,results156,go_sem,C,D]) rfl ⟨fun h=> ?_,fun _=>rfl,?_⟩
    ·rw[←z.o,hok]at h;cases h
    ·exact(K.setCell (by simp) _).setCell (by simp) _
theorem SZ(s:Zi)(a:Int)(w:Zh)(h:¬(1<=a/\a<=8)):
 Calls prog 156 #[.string s,Zg a] w (FL w):=by
 by_cases h1:1<=a
 ·have b:decide (a<=8)=false:=by simp;omega
  go_enter func156,ntmps156;go_wp2;exact bodyPost_ret (v:=.tuple #[.agg #[Zd,Zc],.bool false]) (by simp[results,results156,go_sem]) rfl ⟨rfl,Zy⟩
 ·go_enter func156,ntmps156;go_wp2;exact bodyPost_ret (v:=.tuple #[.agg #[Zd,Zc],.bool false]) (by simp[results,results156,go_sem]) rfl ⟨rfl,Zy⟩
theorem Ta(s:Zi)(a:Int)(w:Zh)(d:1<=a)(e:a<=8)(c:s.size=0):
 Calls prog 156 #[.string s,Zg a] w (FL w):=by
 have b:=beq_iff_eq.2 (by omega);go_enter func156,ntmps156;go_wp2;exact bodyPost_ret (v:=.tuple #[.agg #[Zd,Zc],.bool false]) (by simp[results,results156,go_sem]) rfl ⟨rfl,Zy⟩
theorem Tb(s:Zi)(a:Int)(n:Nat)(w:Zh)(l:s.size<=1048576)(h:1<=a)(i:a<=8)(k:0<s.size)(b:s[0].toNat=n)(d:(s.size:Int) -1<(n:Int) *a):
 Calls prog 156 #[.string s,Zg a] w (FL w):=by
 have e:(0:Int)<s.size:=by omega
 have f:((s.size:Int)==0)=false:=beq_eq_false_iff_ne.2 (by omega);have j:n<256:=by rw[←b];exact s[0].toNat_lt
 have g:=JF j h i;have c:=BY s[0];rw[b]at c;go_enter func156,ntmps156;go_wp2;exact bodyPost_ret (v:=.tuple #[.agg #[Zd,Zc],.bool false]) (by simp[results,results156,go_sem]) rfl ⟨rfl,Zy⟩
def JQ(s:Zi)(wd:Int)(n:Nat):Zi×Zl×Bool:=
 if (n:Int) *wd<=s.size -1/\AJ (Dn s wd n) (BE s wd n) wd=true then (Dn s wd n,BE s wd n,true)else (⟨#[]⟩,[],false)
def rd(s:Zi)(wd:Int):Zi×Zl×Bool:=
 if 1<=wd/\wd<=8 then
  match s.data.toList.head? with
  |none=>(⟨#[]⟩,[],false)
  |some b=>JQ s wd b.toNat
 else (⟨#[]⟩,[],false)
def Er(s:Zi)(wd:Int)(w:Zh)(e:Ending)(w':Zh):Prop:=
 ∃v,e=.returned (.tuple #[.agg #[.string (rd s wd).1,v],.bool (rd s wd).2.2])/\w'.ownsRow w.heap.size 9 1 v (rd s wd).2.1.length ((rd s wd).2.1.map Value.string)/\Zz w w'
theorem Qa{s:Zi}(a:0<s.size):s.data.toList.head?=some s[0]:=by rw[List.head?_eq_getElem?,Zv (by simpa using a)];rfl
theorem VK(s:Zi)(a:Int):(rd s a).2.1.length<=255:=by
 unfold rd;split
 ·split
  ·simp
  ·rename_i b _
   unfold JQ;have:=b.toNat_lt;split
   ·simp[Cj];omega
   ·simp
 ·simp
theorem EH{s:Zi}{b:Int}{w:Zh}(h:rd s b=(⟨#[]⟩,[],false)):∀e a,FL w e a->Er s b w e a:=by rintro e a ⟨rfl,c⟩;unfold Er;rw[h];exact⟨Zc,rfl,World.ownsRow_nil _ _ _ _,c⟩
theorem Tc{s:Zi}{a:Int}{n:Nat}{w:Zh}(j:rd s a=JQ s a n)(c:(n:Int) *a<=s.size -1):∀e b,
 ((AJ (Dn s a n) (BE s a n) a=true->∃v,e=.returned (.tuple #[.agg #[.string (Dn s a n),v],.bool true])/\b.ownsRow w.heap.size 9 1 v n ((BE s a n).map Value.string))/\
   (AJ (Dn s a n) (BE s a n) a=false->e=.returned (.tuple #[.agg #[Zd,Zc],.bool false]))/\Zz w b)->Er s a w e b:=by
 rintro e b ⟨f,g,d⟩;unfold Er;rw[j];unfold JQ;cases hok:AJ (Dn s a n) (BE s a n) a with
 |true=>rw[if_pos ⟨c,rfl⟩];obtain⟨v,h,i⟩:=f hok;exact⟨v,h,by simpa [Cj]using i,d⟩
 |false=>rw[if_neg (by simp)];exact⟨Zc,g hok,World.ownsRow_nil _ _ _ _,d⟩
theorem Td(s:Zi)(a:Int)(w:Zh)(c:s.size<=1048576):Calls prog 217 #[.string s,Zg a] w (Er s a w):=by
 by_cases hw:1<=a/\a<=8
 ·by_cases h0:0<s.size
  ·have b:rd s a=JQ s a s[0].toNat:=by unfold rd;rw[if_pos hw,Qa h0]
   by_cases hfit:(s[0].toNat:Int) *a<=s.size -1
   ·exact(SR s a _ w c hw.1 hw.2 h0 rfl hfit).mono (Tc b hfit)
   ·exact(SX s a _ w c hw.1 hw.2 h0 rfl (by omega)).mono (EH (by rw[b];unfold JQ;rw[if_neg (fun h=>hfit h.1)]))
  ·refine(SW s a w hw.1 hw.2 (by omega)).mono (EH ?_);have d:s.data.toList=[]:=List.eq_nil_of_length_eq_zero (by have e:s.data.toList.length=s.size:=Array.length_toList;omega);unfold rd;rw[if_pos hw,d];rfl
 ·exact(SV s a w hw).mono (EH (by unfold rd;rw[if_neg hw]))
theorem Te(s:Zi)(a:Int)(w:Zh)(c:s.size<=1048576):Calls prog 156 #[.string s,Zg a] w (Er s a w):=by
 by_cases hw:1<=a/\a<=8
 ·by_cases h0:0<s.size
  ·have b:rd s a=JQ s a s[0].toNat:=by unfold rd;rw[if_pos hw,Qa h0]
   by_cases hfit:(s[0].toNat:Int) *a<=s.size -1
   ·exact(SY s a _ w c hw.1 hw.2 h0 rfl hfit).mono (Tc b hfit)
   ·exact(Tb s a _ w c hw.1 hw.2 h0 rfl (by omega)).mono (EH (by rw[b];unfold JQ;rw[if_neg (fun h=>hfit h.1)]))
  ·refine(Ta s a w hw.1 hw.2 (by omega)).mono (EH ?_);have d:s.data.toList=[]:=List.eq_nil_of_length_eq_zero (by have e:s.data.toList.length=s.size:=Array.length_toList;omega);unfold rd;rw[if_pos hw,d];rfl
 ·exact(SZ s a w hw).mono (EH (by unfold rd;rw[if_neg hw]))
def IA:Zk->Value
 |none=> .nilIface
 |some q=> .iface 221 (.pointer (some q))
structure Qb (w:Zh) (b:Nat) (rest:Zi) (kind:Int) (er:Zk):Prop where
 x0:w.cell? (Ze b 0)=some (.string rest)
 x1:w.cell? (Ze b 1)=some (Zg kind)
 x2:w.cell? (Ze b 2)=some (IA er)
 f0:w.frozen? ⟨b,0,none⟩=false
 f1:w.frozen? ⟨b,1,none⟩=false
 f2:w.frozen? ⟨b,2,none⟩=false
def DG(w:Zh)(b:Nat)(rest:Zi)(kind:Int)(bad:Bool):Prop:=∃er:Zk,er.isSome=bad/\Qb w b rest kind er
theorem Qb.lt{w:Zh}{b:Nat}{rest:Zi}{kind:Int}{a:Zk}(h:Qb w b rest kind a):b<w.heap.size:=World.block_lt_of_cell? w _ h.x0
theorem Qb.below{w e:Zh}{b:Nat}{rest:Zi}{kind:Int}{d:Zk}(h:Qb w b rest kind d)(a:Zz w e):Qb e b rest kind d:=by have c:=h.lt;exact⟨(a.cell (p:=⟨b,0,none⟩) c).trans h.x0,(a.cell (p:=⟨b,1,none⟩) c).trans h.x1,(a.cell (p:=⟨b,2,none⟩) c).trans h.x2,(a.frozen (p:=⟨b,0,none⟩) c).trans h.f0,(a.frozen (p:=⟨b,1,none⟩) c).trans h.f1,(a.frozen (p:=⟨b,2,none⟩) c).trans h.f2⟩
theorem DG.below{w a:Zh}{b:Nat}{rest:Zi}{kind:Int}{bad:Bool}(h:DG w b rest kind bad)(f:Zz w a):DG a b rest kind bad:=by obtain⟨c,d,e⟩:=h;exact⟨c,d,e.below f⟩
theorem FM(b:Nat)(rest:Zi)(kind:Int)(d:Bool)(f:TypeId)(g:Value)(w:Zh)(h:DG w b rest kind d):
 Calls prog 184 #[Yz b,.iface f g] w fun e c=>e=.returned (.tuple #[])/\DG c b rest kind true/\w.grownBy c (some b):=by
 obtain⟨i,rfl,h⟩:=h;have p:=h.lt;obtain⟨m,n,a,j,k,l⟩:=h;cases i with
 |none=>
  simp only[IA]at a;go_enter func184,ntmps184;go_wp2
  go_end0
  refine⟨rfl,⟨some ⟨w.heap.size,0,none⟩,rfl,?_⟩,?_⟩
  ·have o:b≠w.heap.size:=by omega
   constructor<;>simp[IA,go_sem, *]
  ·exact(Ay _ _ _ _).trans (World.grownBy_alloc _ _ _)
 |some q=>
  simp only[IA]at a;go_enter func184,ntmps184;go_wp2
  go_end0
  exact⟨rfl,⟨some q,rfl,⟨m,n,a,j,k,l⟩⟩,World.grownBy.refl _ _⟩
def Bd(rest:Zi)(bad:Bool)(n:Int):Zi×Zi×Bool:=
 if bad=true then (⟨#[]⟩,rest,true)else if (rest.size:Int)<n then (⟨#[]⟩,rest,true)else (rest.extract 0 n.toNat,rest.extract n.toNat rest.size,false)
theorem IB(b:Nat)(rest:Zi)(kind:Int)(a:Bool)(n:Int)(d:TypeId)(f:Value)(w:Zh)(h:DG w b rest kind a)(s:a=false->0<=n)(x:w.cell? (Ze 6 0)=some (.iface d f)):
 Calls prog 186 #[Yz b,Zg n] w fun e g=>e=.returned (.string (Bd rest a n).1)/\DG g b (Bd rest a n).2.1 kind (Bd rest a n).2.2/\w.grownBy g (some b):=by
 have p:=h;obtain⟨j,rfl,h⟩:=h;have y:=h.lt;obtain⟨t,u,c,k,l,m⟩:=h;cases j with
 |none=>
  simp only[IA]at c;have v:=s rfl;by_cases hf:(rest.size:Int)<n
  ·rw[show Bd rest (none:Zk).isSome n=(⟨#[]⟩,rest,true) by simp[Bd,hf]];have i:decide ((rest.size:Int)<n)=true:=by simpa using hf
   go_enter func186,ntmps186;go_wp2_with fail;refine(FM b rest kind false d f w p).mono ?_;rintro e z ⟨rfl,r,o⟩;go_wp2;go_ret;exact⟨rfl,r,o⟩
  ·rw[show Bd rest (none:Zk).isSome n=(rest.extract 0 n.toNat,rest.extract n.toNat rest.size,false) by simp[Bd,hf]];have i:decide ((rest.size:Int)<n)=false:=by simpa using hf
   go_enter func186,ntmps186;go_wp2;go_ret;refine⟨rfl,⟨none,rfl,?_⟩,Ay _ _ _ _⟩;constructor<;>simp[IA,go_sem, *]
 |some q=>rw[show Bd rest (some q:Zk).isSome n=(⟨#[]⟩,rest,true) by simp[Bd]];simp only[IA]at c;go_enter func186,ntmps186;go_wp2;go_ret;exact⟨rfl,⟨some q,rfl,⟨t,u,c,k,l,m⟩⟩,World.grownBy.refl _ _⟩
def Cz(l:List UInt8):Int:=l.foldl (fun a b=>a *256+(b.toNat:Int)) 0
theorem Tf(l:List UInt8)(b:UInt8):Cz (l++[b])=Cz l *256+(b.toNat:Int):=by simp[Cz]
theorem WJ(l:List UInt8):∀a:Int,0<=a->0<=l.foldl (fun a b=>a *256+(b.toNat:Int)) a/\l.foldl (fun a b=>a *256+(b.toNat:Int)) a<(a+1) *256^l.length:=by
 induction l with
 |nil=>intro a e;simp;omega
 |cons b l ih=>intro a e;have f:=b.toNat_lt;obtain⟨c,d⟩:=ih (a *256+(b.toNat:Int)) (by omega);refine⟨c,Int.lt_of_lt_of_le d ?_⟩;rw[List.length_cons,Int.pow_succ,←Int.mul_assoc,Int.mul_right_comm];exact Int.mul_le_mul_of_nonneg_right (by omega) (Int.pow_nonneg (by omega))
theorem La(l:List UInt8):0<=Cz l/\Cz l<256^l.length:=by have:=WJ l 0 (Int.le_refl _);simpa [Cz]using this
theorem US(a b:Nat)(f:a<2^30)(g:b<256):bits .or .i64 ((a:Int) *256) (b:Int)=(a:Int) *256+b:=by
 have c:((a:Int) *256)=((a *256:Nat):Int):=by omega
 have e:a *256|||b=a *256+b:=by have:=Nat.shiftLeft_add_eq_or_of_lt (i:=8) (b:=b) (by omega) a;rw[Nat.shiftLeft_eq,show(2:Nat)^8=256 from rfl]at this;omega
 have d:(BitVec.ofInt 64 ((a:Int) *256)|||BitVec.ofInt 64 (b:Int)).toNat=a *256+b:=by rw[c,BitVec.toNat_or,BitVec.ofInt_natCast,BitVec.ofInt_natCast,BitVec.toNat_ofNat,BitVec.toNat_ofNat,Nat.mod_eq_of_lt (by omega),Nat.mod_eq_of_lt (by omega),e]
 show IntKind.i64.wrap ((BitVec.ofInt 64 ((a:Int) *256)|||BitVec.ofInt 64 (b:Int)).toNat:Int)=_;rw[d,Eh _ (by omega) (by omega)];omega
theorem Gu(b:Nat)(rest:Zi)(kind:Int)(c:Bool)(n:Nat)(o:TypeId)(p:Value)(w:Zh)(h:DG w b rest kind c)(F:n<=4)(s:w.cell? (Ze 6 0)=some (.iface o p)):
 Calls prog 185 #[Yz b,Zg (n:Int)] w fun e t=>e=.returned (Zg (Cz (Bd rest c n).1.data.toList))/\DG t b (Bd rest c n).2.1 kind (Bd rest c n).2.2/\w.grownBy t (some b):=by
 have y:(Bd rest c n).1.size<=4:=by
  unfold Bd;split
  ·exact Nat.zero_le _
  ·split
   ·exact Nat.zero_le _
   ·simp;omega
 go_enter func185,ntmps185;go_wp2_with fail;refine(IB b rest kind c n o p w h (fun _=>by omega) s).mono ?_;rintro e G ⟨rfl,q,m⟩;have z:=Yx (Zn q m);clear q m h s;obtain⟨a,f⟩:∃a,a=(Bd rest c n).1:=⟨_,rfl⟩;rw[←f]at y ⊢;have A:=Yx f;clear f;go_wp2
 go_loop [6,13] (fun x i=>∃k:Nat,k<=a.size/\i=Zg k/\x=Zg (Cz (a.data.toList.take k))) (fun _ i=>a.size -(intOf i).toNat)
 case atStart=>exact⟨0,Nat.zero_le _,rfl,rfl⟩
 case round=>
  obtain⟨k,E,rfl,rfl⟩:=hrel;by_cases hlt:k<a.size
  ·have l:=La (a.data.toList.take k);have d:Cz (a.data.toList.take (k+1))=Cz (a.data.toList.take k) *256+(a[k].toNat:Int):=by rw[←Tf,Zu (by simpa using hlt)];rfl
   have C:Cz (a.data.toList.take k)<16777216:=by
    have r:=l.2;have u:(a.data.toList.take k).length=0∨(a.data.toList.take k).length=1∨(a.data.toList.take k).length=2∨(a.data.toList.take k).length=3:=by simp;omega
    rcases u with g|g|g|g<;>rw[g]at r<;>simp at r<;>omega
   obtain⟨X,B⟩:∃X:Nat,Cz (a.data.toList.take k)=(X:Int):=⟨_,(Int.toNat_of_nonneg l.1).symm⟩;have v:=US X a[k].toNat (by omega) a[k].toNat_lt;rw[B]at d ⊢;have D:IntKind.i64.wrap ((X:Int) *256)=(X:Int) *256:=Eh _ (by omega) (by omega);clear l;go_wp2;exact⟨⟨k+1,by omega,by go_num,by rw[d,BY,v]⟩,by simp[intOf];omega⟩
  ·obtain rfl:k=a.size:=by omega
   have j:a.data.toList.take a.size=a.data.toList:=Zt (by simp);rw[j];go_wp2;go_ret;exact⟨by rw[←A.o];rfl,z.o⟩
structure Env (w:Zh):Prop where
 gq:Jk w
 ig:Hl w
 er:∀g∈[1,2,3,4,6,7],∃t v,w.cell? (Ze g 0)=some (.iface t v)
theorem Env.lt{w:Zh}(h:Env w):∀g∈[1,2,3,4,6,7,0,5],g<w.heap.size:=by
 intro g b;have d:=h.er;obtain⟨c,_⟩:=h.gq 1 (by omega) (by omega);have e:=World.block_lt_of_cell? w _ c;have f:=World.block_lt_of_cell? w _ h.ig;have a:∀g∈[1,2,3,4,6,7],g<w.heap.size:=fun g b=>by obtain⟨t,v,i⟩:=d g b;exact World.block_lt_of_cell? w _ i
 simp only[List.mem_cons,List.not_mem_nil,or_false]at b a;rcases b with rfl|rfl|rfl|rfl|rfl|rfl|rfl|rfl
 ·exact a _ (by simp)
 ·exact a _ (by simp)
 ·exact a _ (by simp)
 ·exact a _ (by simp)
 ·exact a _ (by simp)
 ·exact a _ (by simp)
 ·exact e
 ·exact f
theorem Env.of{w c:Zh}(h:Env w)(a:∀p:Addr,p.block∈[1,2,3,4,6,7,0,5]->c.cell? p=w.cell? p):Env c:=by
 refine⟨fun k f i=> ?_,?_,fun g b=> ?_⟩
 ·obtain⟨d,e,c2,c3⟩:=h.gq k f i;exact⟨(a ⟨_,_,none⟩ (by simp)).trans d,(a ⟨_,_,none⟩ (by simp)).trans e,(a ⟨_,_,none⟩ (by simp)).trans c2,(a ⟨_,_,none⟩ (by simp)).trans c3⟩
 ·exact(a ⟨_,_,none⟩ (by simp)).trans h.ig
 ·obtain⟨t,v,j⟩:=h.er g b;refine⟨t,v,(a ⟨g,0,none⟩ ?_).trans j⟩;simp only[List.mem_cons,List.not_mem_nil,or_false]at b ⊢;omega
theorem Env.below{w a:Zh}(h:Env w)(b:Zz w a):Env a:=
 h.of fun _ c=>b.cell (h.lt _ c)
theorem Env.ic{w c:Zh}{b:Nat}(h:Env w)(f:w.grownBy c (some b))(d:∀g∈[1,2,3,4,6,7,0,5],g<b):Env c:=
 h.of fun p a=>f.cell_far p (h.lt _ a) (fun e=>by have:=d _ a;injection e;omega)
theorem DG.lt{w:Zh}{b:Nat}{rest:Zi}{kind:Int}{bad:Bool}(h:DG w b rest kind bad):b<w.heap.size:=by obtain⟨a,_,h⟩:=h;exact h.lt
theorem DG.setKind{w:Zh}{b:Nat}{rest:Zi}{kind:Int}{a:Bool}(h:DG w b rest kind a)(k:Int):DG (w.setCell (Ze b 1) (Zg k)) b rest k a:=by obtain⟨c,d,i,j,l,e,f,g⟩:=h;refine⟨c,d,?_⟩;constructor<;>simp[go_sem, *]
theorem DG.cl{w i:Zh}{b c:Nat}{rest:Zi}{kind:Int}{g:Bool}(h:DG w b rest kind g)(a:w.grownBy i (some c))(j:b≠c):DG i b rest kind g:=by obtain⟨k,l,h⟩:=h;have d:=h.lt;have f:some b≠some c:=fun e=>j (by injection e);exact⟨k,l,(a.cell_far ⟨b,0,none⟩ d f).trans h.x0,(a.cell_far ⟨b,1,none⟩ d f).trans h.x1,(a.cell_far ⟨b,2,none⟩ d f).trans h.x2,(a.frozen_far ⟨b,0,none⟩ d f).trans h.f0,(a.frozen_far ⟨b,1,none⟩ d f).trans h.f1,(a.frozen_far ⟨b,2,none⟩ d f).trans h.f2⟩
def EP(rest:Zi)(bad:Bool):Zi:=(Bd rest bad rest.size).1
def Jn(rest:Zi)(bad:Bool):Zi:=(Bd rest bad rest.size).2.1
def FW(rest:Zi)(bad:Bool)(wd:Int):Bool:=(Bd rest bad rest.size).2.2|| !(rd (EP rest bad) wd).2.2
theorem Qc{rest:Zi}{bad:Bool}(h:rest.size<=1048576):(EP rest bad).size<=1048576:=by
 unfold EP Bd;split
 ·exact Nat.zero_le _
 ·split
  ·exact Nat.zero_le _
  ·simp;omega
theorem Tg(b:Nat)(rest:Zi)(kind:Int)(bad:Bool)(a:Int)(w:Zh)(h:DG w b rest kind bad)(he:Env w)(hb:∀g∈[1,2,3,4,6,7,0,5],g<b)(hs:rest.size<=1048576):
 Calls prog 187 #[Yz b,Zg a] w fun e V=>∃v,e=.returned (.agg #[.string (rd (EP rest bad) a).1,v])/\
  V.ownsRow w.heap.size 9 1 v (rd (EP rest bad) a).2.1.length ((rd (EP rest bad) a).2.1.map Value.string)/\DG V b (Jn rest bad) kind (FW rest bad a)/\w.grownBy V (some b):=by
 obtain⟨W,o⟩:∃W,W=w.alloc (.cells #[Zd,Zc] 58):=⟨_,rfl⟩;have B:=(AG o).1;have r0:W.cell? (Ze (w.heap.size) 0)=some Zd:=by rw[o];simp
 have r1:W.cell? (Ze (w.heap.size) 1)=some Zc:=by rw[o];simp
 have Q:W.frozen? ⟨w.heap.size,0,none⟩=false:=by rw[o];simp
 have R:W.frozen? ⟨w.heap.size,1,none⟩=false:=by rw[o];simp
 have D:w.heap.size<W.heap.size:=by rw[o];simp
 have f:=h.lt;have zA:=h.below B;have U:=he.below B;obtain⟨gt,gv,H⟩:=U.er 6 (by simp);have Z:=Yx o;have M:=Qc (bad:=bad) hs;obtain⟨er,G,x0,x1,x2,f0,f1,f2⟩:=zA;have Y:Hid (DG W b rest kind bad):=⟨er,G,x0,x1,x2,f0,f1,f2⟩;clear o h;go_enter func187,ntmps187;go_upto_region 1 with fail;rw[←Z.o];go_wp2_with fail;refine(IB b rest kind bad rest.size gt gv W Y.o (fun _=>by omega) H).mono ?_
 rintro e u ⟨rfl,h1,n⟩;rw[show(Bd rest bad rest.size).1=EP rest bad from rfl];obtain⟨c,z⟩:∃c,c=EP rest bad:=⟨_,rfl⟩;rw[←z]at M ⊢;have s:=Yx z;have T:=fun W'=>Td c a W' M;unfold Er at T;have X:=Yx T;clear T x0 x1 x2 f0 f1 f2 G H z;go_wp2_with fail;refine(X.o u).mono ?_;rintro e q ⟨v,rfl,C,A⟩;obtain⟨x,c2,hv,_⟩:=DF C;subst hv;have zE:=n.size;have E:=A.size
 obtain⟨i,m⟩:∃i,i=q.alloc (.cells #[.string (rd c a).1,.slice x (rd c a).2.1.length c2] 58):=⟨_,rfl⟩;have t:=(AG m).1;have t0:i.cell? (Ze (q.heap.size) 0)=some (.string (rd c a).1):=by rw[m];simp
 have t1:i.cell? (Ze (q.heap.size) 1)=some (.slice x (rd c a).2.1.length c2):=by rw[m];simp
 have N:q.heap.size<i.heap.size:=by rw[m];simp
 have zC:=t.size;have d:=A.trans (t.mono E);have q0:=(d.cell (p:=⟨w.heap.size,0,none⟩) (by simp;omega)).trans ((n.cell_far ⟨w.heap.size,0,none⟩ D (II f)).trans r0);have q1:=(d.cell (p:=⟨w.heap.size,1,none⟩) (by simp;omega)).trans ((n.cell_far ⟨w.heap.size,1,none⟩ D (II f)).trans r1)
 have O:=(d.frozen (p:=⟨w.heap.size,0,none⟩) (by simp;omega)).trans ((n.frozen_far ⟨w.heap.size,0,none⟩ D (II f)).trans Q);have P:=(d.frozen (p:=⟨w.heap.size,1,none⟩) (by simp;omega)).trans ((n.frozen_far ⟨w.heap.size,1,none⟩ D (II f)).trans R);have L:=h1.below d;have e3:=(U.ic n hb).below d;have y:=((Au (some b) B).trans n).trans (Au (some b) d);have J:=C.kept (Au none t) (Classical.em _)
 have I:∀k,(Value.slice x (rd c a).2.1.length c2).ownBlock=some k->u.heap.size<=k:=fun k hk=>(C.lt k hk).1;obtain⟨kt,kv,zB⟩:=e3.er 7 (by simp);have r:=Yx (Zn L (Zn y (Zn J I)));have F:=Yx m;clear L y J e3 h1 n A C r0 r1 Q R U Y X I Z d t m;go_upto_region 2 with fail;rw[←F.o];clear F;cases hok:(rd c a).2.2 with
 |true=>
  go_wp2;refine bodyPost_ret (v:=.agg #[.string (rd c a).1,.slice x (rd c a).2.1.length c2]) (by simp[results,results187,go_sem, *]) rfl ?_;refine⟨_,by rw[←s.o],?_,?_,?_⟩
  ·rw[←s.o];exact(ownsRow_setCell_below (ownsRow_setCell_below r.o.2.2.1 (show w.heap.size<u.heap.size by omega) _) (show w.heap.size<u.heap.size by omega) _).mono (by omega)
  ·have:FW rest bad a=(Bd rest bad rest.size).2.2:=by unfold FW;rw[←s.o,hok];simp
   rw[this];exact(r.o.1.cl (Ay _ w.heap.size 0 _) (by omega)).cl (Ay _ w.heap.size 1 _) (by omega)
  ·exact(r.o.2.1.andThen (Ay _ w.heap.size 0 _) (fun j e=>by cases e;exact .inl (Zx))).andThen (Ay _ w.heap.size 1 _) (fun j e=>by cases e;exact .inl (Zx))
 |false=>
  go_wp2_with fail;refine(FM b _ kind _ kt kv i r.o.1).mono ?_;rintro e w4 ⟨rfl,h4,l⟩;have zF:=l.size;have t0:=(l.cell_far ⟨q.heap.size,0,none⟩ N (II (show b<q.heap.size by omega))).trans t0;have t1:=(l.cell_far ⟨q.heap.size,1,none⟩ N (II (show b<q.heap.size by omega))).trans t1;have q0:=(l.cell_far ⟨w.heap.size,0,none⟩ (show w.heap.size<i.heap.size by omega) (II f)).trans q0
  have q1:=(l.cell_far ⟨w.heap.size,1,none⟩ (show w.heap.size<i.heap.size by omega) (II f)).trans q1;have O:=(l.frozen_far ⟨w.heap.size,0,none⟩ (show w.heap.size<i.heap.size by omega) (II f)).trans O;have P:=(l.frozen_far ⟨w.heap.size,1,none⟩ (show w.heap.size<i.heap.size by omega) (II f)).trans P;have K:=r.o.2.2.1.kept l (.inr (fun e=>by have:=r.o.2.2.2 b e;omega));have y:=r.o.2.1.trans l
  have S:=Yx (Zn h4 (Zn y K));clear h4 y K l zB;go_wp2;refine bodyPost_ret (v:=.agg #[.string (rd c a).1,.slice x (rd c a).2.1.length c2]) (by simp[results,results187,go_sem, *]) rfl ?_;refine⟨_,by rw[←s.o],?_,?_,?_⟩
  ·rw[←s.o];exact(ownsRow_setCell_below (ownsRow_setCell_below S.o.2.2 (show w.heap.size<u.heap.size by omega) _) (show w.heap.size<u.heap.size by omega) _).mono (by omega)
  ·have:FW rest bad a=true:=by unfold FW;rw[←s.o,hok];simp
   rw[this];exact(S.o.1.cl (Ay _ w.heap.size 0 _) (by omega)).cl (Ay _ w.heap.size 1 _) (by omega)
  ·exact(S.o.2.1.andThen (Ay _ w.heap.size 0 _) (fun j e=>by cases e;exact .inl (Zx))).andThen (Ay _ w.heap.size 1 _) (fun j e=>by cases e;exact .inl (Zx))
end Go.Proofs.YtdgblkklkaklhaaGreatDoor
