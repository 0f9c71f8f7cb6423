import Derived.Test.YtckmnfhmoankmaaGreatDoorX01
import Derived.Test.YtckmnfhmoankmaaGreatDoorProg
import Derived.WalkKit
import Derived.ProofKit
import Derived.Deep.AppendLies
import Derived.Laws.IdiomCopy
import Derived.Laws.CopyRow
import Derived.Laws.NewBlocks
import Derived.Laws.AppendOwn
import Derived.Lib.AppendZerosOnto
import Derived.Lib.Overlaps
import Derived.Lib.Walk
import Derived.Deep.RegionHeld3
import Derived.Deep.MidRow
import Derived.Laws.ResultCell
import Derived.Conc.RwLib
import Derived.Conc.MuLone
import Derived.KernelRfl
set_option maxRecDepth 100000
set_option maxHeartbeats 16000000
namespace Go.Proofs.YtckmnfhmoankmaaGreatDoor
open Go.ChangeShapes Go.WideShapes Go.ChangeAt Go.RowKit _root_.Go.Proofs.Tryz
theorem OR{a:Int}:0<=IntKind.u64.wrap a/\IntKind.u64.wrap a<18446744073709551616:=by simp[IntKind.wrap,IntKind.bits,IntKind.signed];omega
def PT(v:Int)(b:UInt8):Int:=IntKind.u64.wrap (bits BinOp.xor IntKind.u64 v (IntKind.u64.wrap b.toNat) *1099511628211)
def EX(l:List UInt8):Int:=l.foldl PT 14695981039346656037
theorem PU(l:List UInt8):0<=EX l/\EX l<18446744073709551616:=by
 unfold EX;rcases l.eq_nil_or_concat with rfl|⟨r,b,rfl⟩
 ·simp
 ·simp only[List.concat_eq_append,List.foldl_append,List.foldl_cons,List.foldl_nil];exact OR
theorem Ml(s:Zi)(k:Nat)(h:k<s.size):EX (s.data.toList.take (k+1))=PT (EX (s.data.toList.take k)) s[k]:=by rw[Zu (by simpa using h)];unfold EX;rw[List.foldl_append];rfl
def DC(v:Int):Nat->List Int
 |0=>[]
 |k+1=>(v/256^k%256)::DC v k
theorem DD(v:Int)(k:Nat):(DC v k).length=k:=by
 induction k with
 |zero=>rfl
 |succ k ih=>simp[DC,ih]
theorem OS(v:Int)(k:Nat):∀i,i<k->(DC v k)[i]?=some (v/256^(k -1 -i)%256):=by
 induction k with
 |zero=>intro i h;omega
 |succ k ih=>
  intro i h
  match i with
  |0=>simp[DC]
  |i+1=>rw[DC,List.getElem?_cons_succ,ih i (by omega),show k -1 -i=k+1 -1 -(i+1)from by omega]
def GQ(v:Int)(k:Nat):Zj:=(DC v k).map (Value.int .u8)
theorem KF(v:Int)(k:Nat):(GQ v k).length=k:=by simp[GQ,DD]
theorem TY(v:Int)(k:Nat):v/256^k/256=v/256^(k+1):=by rw[Int.ediv_ediv_of_nonneg (Int.pow_nonneg (by decide)),Int.pow_succ]
theorem XD(v:Int)(k:Nat)(a:0<=v)(h:v<18446744073709551616):0<=v/256^k/\v/256^k<18446744073709551616:=by have b:(0:Int)<256^k:=Int.pow_pos (by decide);exact⟨Int.ediv_nonneg a (Int.le_of_lt b),Int.lt_of_le_of_lt (Int.ediv_le_self _ a) h⟩
def EK(l:List UInt8)(n:Nat):Zi:=strOfNums (DC (EX l) n)
theorem infoByte:(prog.info? 5).map (fun i=>(i.zero,i.size,i.bytes))=some (some (.int .u8 0),1,1):=by kernel_rfl
theorem TZ(s:Zi)(h:Int)(w:Zh)(D:s.size<=maxLen)(L:1<=h)(M:h<=8):
 Calls prog 124 #[.string s,Zg h] w fun e G=>e=.returned (.string (EK s.data.toList h.toNat))/\Zz w G:=by
 unfold maxLen at D;obtain⟨F,n,r,t,x⟩:=info_parts infoByte;go_enter func124,ntmps124;go_wp2
 go_loop [5,6] (fun v i=>∃(k:Nat),k<=s.size/\i=Zg k/\v=.int .u64 (EX (s.data.toList.take k))) (fun _ i=>s.size -(intOf i).toNat)
 case atStart=>exact⟨0,Nat.zero_le _,rfl,rfl⟩
 case round=>
  obtain⟨k,o,rfl,rfl⟩:=hrel;by_cases hlt:k<s.size
  ·have z:=Yx (Ml s k hlt);go_wp2;exact⟨⟨k+1,by omega,by go_num,by rw[z.o];rfl⟩,by simp[intOf];omega⟩
  ·have C:Hid (EX (s.data.toList.take k)=EX s.data.toList):=by show _=_;rw[Zt (by simp;omega)]
   have l:=PU (s.data.toList.take k);generalize EX (s.data.toList.take k)=V at *
   go_wp2
   go_loopw [5,7,8] (fun v y i wr=>∃(k:Nat) (g c:Nat),k<=h/\i=Zg k/\v=.int .u64 (V/256^k)/\y=Za g k c/\wr.ownsRow w.heap.size 5 1 (Za g k c) k (GQ V k)/\Zz w wr/\w.heap.size<=wr.heap.size) (fun _ _ i _=>(h -intOf i).toNat)
   case atStart=>exact⟨0,_,_,by omega,rfl,by simp,rfl,World.ownsRow_lit w #[] 0 (Zx) (by simp[maxLen]) rfl,Zy,by simp⟩
   case round=>
    obtain⟨j,g,c,N,rfl,rfl,rfl,f,d,m⟩:=hrel;by_cases hlt2:j<h
    ·have I:=XD V j l.1 l.2;go_wp2_with (first
      |(at_builtin;refine wpList_append_own _ rfl _ _ 138 rfl w.heap.size 5 F (.int .u8 0) 1 1 underlying138 n r t x rfl (by decide) _ 1 [.int .u8 (V/256^j%256)] rfl ?c0 ⟨g,0,none⟩ j c (GQ V j) rfl (by rw[KF];omega) ?c1 ?c2 ?c3 ?c4 ?c5 ?_)
      |go_in)
     case c0=>exact World.ownsRow_lit wr _ 1 m (by simp[maxLen]) rfl
     case c1=>exact(f.alloc _).cells rfl
     case c2=>intro u E;obtain⟨_,_,rfl⟩:=List.mem_map.1 E;rfl
     case c3=>unfold maxLen;omega
     case c4=>omega
     case c5=>simp;omega
     intro O Q a b _;obtain⟨B,A,q,J,K⟩:=a.form (by omega);subst q;have p:=(d.alloc m _).grown b (by simp;omega) (by intro k o;simp[Value.ownBlock]at o;omega);rw[Nat.add_comm 1 j]at a ⊢;clear f d b;go_wp2;refine⟨⟨j+1,B,A,by omega,by go_num,by rw[←TY],rfl,a,p,by omega⟩,by simp[intOf];omega⟩
    ·obtain rfl:(j:Int)=h:=by omega
     have H:=run_convert_bytes_arg (P:=prog) wr 138 5 underlying138 underlying5 g 0 j c (DC V j) (DD V j) (fun i n=>by
      rw[Nat.zero_add,f.cellAt i (by omega)];have:=DD V j;simp[GQ,List.getD,Zv (show i<(DC V j).length by omega)]) 9 underlying9
     go_wp2;go_ret;refine⟨?_,d⟩;unfold EK;rw[←C.o];rfl
theorem VV{k:IntKind}{a b:Int}(h:a=b):Ending.returned (.int k a)=.returned (.int k b):=by rw[h]
theorem VW(s:Zi)(w:Zh)(b:s.size<=maxLen):
 Calls prog 223 #[.string s] w fun e c=>e=.returned (.int .u64 (EX s.data.toList))/\c=w:=by
 unfold maxLen at b;go_enter func223,ntmps223;go_wp2
 go_loop [3,7] (fun v i=>∃(k:Nat),k<=s.size/\i=Zg k/\v=.int .u64 (EX (s.data.toList.take k))) (fun _ i=>s.size -(intOf i).toNat)
 case atStart=>exact⟨0,Nat.zero_le _,rfl,rfl⟩
 case round=>
  obtain⟨k,d,rfl,rfl⟩:=hrel;by_cases hlt:k<s.size
  ·have a:=Yx (Ml s k hlt);go_wp2;exact⟨⟨k+1,by omega,by go_num,by rw[a.o];rfl⟩,by simp[intOf];omega⟩
  ·go_wp2;go_ret;exact⟨VV (by rw[Zt (by simp;omega)]),rfl⟩
def KG(v wd:Int)(j:Nat):Int:=v/2^(8 *(wd -1 -(j:Int))).toNat%256
def CY(v wd:Int)(k j:Nat):Int:=if j<k then KG v wd j else 0
def EL(v wd:Int)(k:Nat):Array Value:= #[.int .u8 (CY v wd k 0),.int .u8 (CY v wd k 1),.int .u8 (CY v wd k 2),.int .u8 (CY v wd k 3),.int .u8 (CY v wd k 4),.int .u8 (CY v wd k 5),.int .u8 (CY v wd k 6),.int .u8 (CY v wd k 7)]
theorem Dh(v a:Int)(k j:Nat)(h:j<8):(EL v a k)[j]?=some (.int .u8 (CY v a k j)):=by
 match j,h with
 |0,_=>rfl|1,_=>rfl|2,_=>rfl|3,_=>rfl|4,_=>rfl|5,_=>rfl|6,_=>rfl|7,_=>rfl
theorem Qq(v a:Int):EL v a 0= #[.int .u8 0,.int .u8 0,.int .u8 0,.int .u8 0,.int .u8 0,.int .u8 0,.int .u8 0,.int .u8 0]:=by simp[EL,CY]
theorem RU(v a:Int)(k:Nat)(h:k<8):(EL v a k).setIfInBounds k (.int .u8 (KG v a k))=EL v a (k+1):=by
 match k,h with
 |0,_|1,_|2,_|3,_|4,_|5,_|6,_|7,_=>simp[EL,CY]
theorem RV(v:Int)(k j:Nat)(h:j<k):KG v k j=v/256^(k -1 -j)%256:=by unfold KG;rw[show(8 *((k:Int) -1 -(j:Int))).toNat=8 *(k -1 -j)from by omega,Int.pow_mul];rfl
theorem Ua(v a:Int)(w:Zh)(n:1<=a)(o:a<=8)(_hv0:0<=v)(_hv:v<18446744073709551616):
 Calls prog 222 #[.int .u64 v,Zg a] w fun e b=>e=.returned (.agg (Yw (CY v a a.toNat)))/\b=(w.alloc (.cells (EL v a a.toNat) 191)).alloc (.cells (EL v a a.toNat) 191):=by
 go_enter func222,ntmps222;go_wp2
 go_loopw [8] (fun i wr=>∃k:Nat,k<=a/\i=Zg k/\wr=(w.alloc (Obj.cells
  #[Value.int IntKind.u8 0,Value.int IntKind.u8 0,Value.int IntKind.u8 0,Value.int IntKind.u8 0,
   Value.int IntKind.u8 0,Value.int IntKind.u8 0,Value.int IntKind.u8 0,Value.int IntKind.u8 0]
  191)).alloc (.cells (EL v a k) 191)) (fun i _=>(a -intOf i).toNat)
 case atStart=>exact⟨0,by omega,rfl,by rw[Qq]⟩
 case round=>
  obtain⟨k,q,rfl,rfl⟩:=hrel;by_cases hlt:k<a
  ·have p:=Dh v a k k (by omega);go_wp2;refine⟨⟨k+1,by omega,by go_num,?_⟩,by simp[intOf];omega⟩;have:=RU v a k (by omega);unfold KG at this;rw[this]
  ·obtain rfl:(k:Int)=a:=by omega
   have c:=Dh v k k 0 (by omega);have d:=Dh v k k 1 (by omega);have f:=Dh v k k 2 (by omega);have g:=Dh v k k 3 (by omega);have h:=Dh v k k 4 (by omega);have j:=Dh v k k 5 (by omega);have l:=Dh v k k 6 (by omega);have m:=Dh v k k 7 (by omega);go_wp2;exact bodyPost_ret (v:=.agg (EL v k k)) (by simp[results,results222,go_sem];rfl) rfl ⟨rfl,rfl⟩
theorem Ub(s:Zi)(a:Int)(w:Zh)(l:s.size<=maxLen)(f:1<=a)(h:a<=8):
 Calls prog 203 #[.string s,Zg a] w fun e d=>e=.returned (.string (EK s.data.toList a.toNat))/\Zz w d:=by
 have b:=PU s.data.toList;obtain⟨n,rfl⟩:∃n:Nat,a=n:=⟨a.toNat,by omega⟩;have j:∀(W:Zh) (g:Nat),g=W.heap.size->Sem.run prog (convert 138 9 (Za g n 8)) (W.alloc (Obj.cells (EL (EX s.data.toList) n n) 191))=.ok (.string (EK s.data.toList n)) (W.alloc (Obj.cells (EL (EX s.data.toList) n n) 191)):=fun W g k=>k▸
  run_convert_bytes_arg (P:=prog) _ 138 5 underlying138 underlying5 W.heap.size 0 n 8 (DC (EX s.data.toList) n) (DD _ n) (fun i c=>by
   rw[Nat.zero_add,World.cell?_alloc_new,Dh _ _ _ _ (by omega)];simp only[List.getD,OS _ n i c,Option.getD_some];unfold CY;rw[if_pos c,RV _ _ _ c]) 9 underlying9
 have m:(0:Int)<=n:=by omega
 unfold EL at j;go_enter func203,ntmps203;go_wp2_with (first
  |(go_at_call 223;refine(VW s _ l).mono ?_;rintro e d ⟨rfl,rfl⟩)
  |(go_at_call 222;refine(Ua _ _ _ f h b.1 b.2).mono ?_;rintro e d ⟨rfl,rfl⟩)
  |go_in)
 go_ret;refine⟨rfl,?_⟩;exact(((Zy).alloc (by simp) _).alloc (by simp;omega) _)
theorem CK{P:Program}(w:Zh)(l y z elem:TypeId)(i:TypeInfo)(k b o c f:Nat)(a:Addr)(d h:Nat)(e:Zj)
 (x:P.underlying l=some (.slice elem)) (s:P.info? elem=some i) (t:i.size=k) (u:e.length=Nat.min d c *k)
 (g:∀j v,e[j]?=some v->w.cell? (a.add j)=some v) (q:∀j,j<e.length->(w.cell? (Ze b (o+j))).isSome=true) (r:∀j,j<e.length->w.frozen? ⟨b,o+j,none⟩=false) (p:∀v∈e,v.oneCell'=true):
 (Builtin.copy_ #[l,y] z #[.slice (some ⟨b,o,none⟩) c f,.slice (some a) d h]).run P w=.ok (goInt (Nat.min d c)) (w.setCells b o e):=by
 have m:=run_loadCells_list (P:=P) w a e g;have n:=run_storeCells_cells (P:=P) b o e 0 w (by simpa using q) (by simpa using r) p;rw[u]at m;subst t;simp[Builtin.copy_,run_underlying x,Builtin.lenOf,Builtin.firstCells,sizeOf,typeInfo,s,m,n]
theorem Eh(g:Nat)(t:TypeId)(a:Nat×Nat):∀(vs:Zj) (o:Nat) (w:Zh) (cur:Array Value),w.heap[g]?=some (.cells cur t a)->o+vs.length<=cur.size->
 (w.setCells g o vs).heap[g]?=some (.cells (cur.toList.take o++vs++cur.toList.drop (o+vs.length)).toArray t a)
 |[],o,w,cur,hg,_=>by simpa [World.setCells]using hg
 |v::r,o,w,cur,hg,hl=>by
  simp only[List.length_cons]at hl;rw[World.setCells];have b:(w.setCell (Ze g o) v).heap[g]?=some (.cells (cur.setIfInBounds o v) t a):=by rw[setCell_eq_setRow w g o cur t a v hg];exact setRow_heap w g cur _ t _ hg
  rw[Eh g t a r (o+1) _ _ b (by simp;omega)];have e:=list_seg_step cur.toList o v r (by simp;omega);simp only[Array.toList_setIfInBounds,List.length_cons];rw[e]
theorem Mm{w:Zh}{base g c n k i:Nat}{e:TypeId}{a f:Zj}(h:w.ownsRow base e k (Za g n c) n a)(y:i<=n)(j:f.length=k)(o:n+1<=c):
 ((w.setCells g ((i+1) *k) (a.drop (i *k))).setCells g (i *k) f).ownsRow base e k (Za g (n+1) c) (n+1) (a.take (i *k)++f++a.drop (i *k)):=by
 obtain⟨p,z⟩:=h;rcases z with⟨e,_⟩|⟨D,q,b,e,v,x,E,t,d,u⟩
 ·cases e
 ·cases e;have F:=Nat.mul_le_mul_right k y;have A:=Nat.mul_le_mul_right k o;rw[Nat.add_mul]at A ⊢;have hlen:(a.take (i *k)++f++a.drop (i *k)).length=n *k+k:=by rw[List.length_append,List.length_append,List.length_take,List.length_drop,p,j];omega
  have m:(n+1) *k=n *k+k:=by rw[Nat.add_mul];omega
  have l:(a.drop (i *k)).length=n *k -i *k:=by rw[List.length_drop,p]
  have r:=Eh g e (0,0) (a.drop (i *k)) (i *k+1 *k) w b x (by rw[l,d];omega);have s:=Eh g e (0,0) f (i *k) _ _ r (by simp[l,d,j];omega);refine⟨by rw[hlen,m],.inr ⟨g,c,_,rfl,v,s,o,t,?_,?_⟩⟩
  ·simp[l,d,j];omega
  ·have B:(b.toList.take (i *k+1 *k)++a.drop (i *k)++b.toList.drop (i *k+1 *k+(a.drop (i *k)).length)).take (i *k)=a.take (i *k):=by rw[List.append_assoc,List.take_append_of_le_length (by simp[d];omega),List.take_take,Nat.min_eq_left (by omega),←u,List.take_take,Nat.min_eq_left (by omega)]
   have C:(b.toList.take (i *k+1 *k)++a.drop (i *k)++b.toList.drop (i *k+1 *k+(a.drop (i *k)).length)).drop (i *k+f.length)=a.drop (i *k)++b.toList.drop (i *k+1 *k+(a.drop (i *k)).length):=by rw[List.append_assoc,List.drop_append_of_le_length (by simp[d,j];omega),List.drop_eq_nil_of_le (by simp[d,j];omega),List.nil_append]
   rw[List.toList_toArray,List.toList_toArray,B,C,←List.append_assoc,List.take_append_of_le_length (by rw[hlen,m];exact Zx),Zt (by rw[hlen,m];exact Zx)]
theorem NE{w:Zh}{base g n k i G:Nat}{e:TypeId}{a b f:Zj}(l:a.length=n *k)(t:i<=n)(d:b.length=k)(r:base<=g)(s:w.heap[g]?=some (.cells (a.take (i *k)++f).toArray e (0,0)))(y:i *k+f.length=G *k)(m:n+1<=G)(o:G<=maxLen):
 ((w.setCells g (i *k) b).setCells g ((i+1) *k) (a.drop (i *k))).ownsRow base e k (Za g (n+1) G) (n+1) (a.take (i *k)++b++a.drop (i *k)):=by
 have z:=Nat.mul_le_mul_right k t;have u:=Nat.mul_le_mul_right k m;rw[Nat.add_mul]at u ⊢;have hlen:(a.take (i *k)++b++a.drop (i *k)).length=n *k+k:=by rw[List.length_append,List.length_append,List.length_take,List.length_drop,l,d];omega
 have h:(n+1) *k=n *k+k:=by rw[Nat.add_mul];omega
 have c:(a.take (i *k)).length=i *k:=by rw[List.length_take,l];omega
 have j:(a.drop (i *k)).length=n *k -i *k:=by rw[List.length_drop,l]
 have p:=Eh g e (0,0) b (i *k) w _ s (by simp[c,d];omega);have q:=Eh g e (0,0) (a.drop (i *k)) (i *k+1 *k) _ _ p (by simp[j,d,c];omega);refine⟨by rw[hlen,h],.inr ⟨g,G,_,rfl,r,q,m,o,?_,?_⟩⟩
 ·simp[j,d,c];omega
 ·have v:(a.take (i *k)++f).take (i *k)=a.take (i *k):=by rw[List.take_append_of_le_length (by omega),Zt (by omega)]
  have x:((a.take (i *k)++f).take (i *k)++b++(a.take (i *k)++f).drop (i *k+b.length)).take (i *k+1 *k)=a.take (i *k)++b:=by rw[v,List.take_append_of_le_length (by simp[d,c]),Zt (by simp[d,c])]
  rw[x,List.take_append_of_le_length (by rw[hlen,h];exact Zx),Zt (by rw[hlen,h];exact Zx)]
theorem Hp(b:Nat)(a:Zj)(o:Nat)(w:Zh)(h:∀j,j<a.length->(w.cell? (Ze b (o+j))).isSome=true)(k:Nat)(c:(w.cell? (Ze b k)).isSome=true):((w.setCells b o a).cell? (Ze b k)).isSome=true:=by
 by_cases hin:o<=k/\k<o+a.length
 ·obtain⟨j,rfl⟩:∃j,k=o+j:=⟨k -o,by omega⟩;rw[World.cell?_setCells_in b a o w h j (by omega)];rfl
 ·rw[World.cell?_setCells_out b a o w _ (fun _ _=>by show k<o∨o+a.length<=k;omega)];exact c
theorem Ja(b:Nat):∀(vs:Zj) (o:Nat) (w:Zh),(w.setCells b o vs).drew=w.drew.setCells b o vs
 |[],_,_=>rfl
 |v::r,o,w=>by rw[World.setCells,World.setCells,Ja b r];rfl
theorem GB(w:Zh)(a:Addr):w.drew.cell? a=w.cell? a:=rfl
theorem Jb(w:Zh)(a:Addr):w.drew.frozen? a=w.frozen? a:=rfl
theorem JR(w:Zh)(r:Option Nat):w.grownBy w.drew r:=⟨rfl,rfl,rfl,Zx,fun _ _ _=>rfl⟩
theorem Dz{P:Program}(w:Zh){b:Array Oper}{rest:List Oper}{o:Oper}{a:Act}{Q:Exit->Act->Zh->Prop}(j:o.guard=none)(d s:Operand)(t c:TypeId)
 (k:o.op=.call {callee:=.builtin .copy,args:= #[d,s],argTypes:= #[t,c]}) (v u:Value) (i:a.eval d=v) (m:a.eval s=u) {e:Value} {f:Zh}
 (l:(Builtin.copy_ #[t,c] o.type #[v,u]).run P w=.ok e f) (h:wpList P b Q rest (a.put o.dst e) f):wpList P b Q (o::rest) a w:=by
 refine wpList_plain j fun K g=> ?_;unfold Oper.wp;simp[execOp,k,resolve,invoke,builtin,i,m,l,Result.andThen];exact g _ _ h
theorem Er{P:Program}{f:Array Oper}{o:Oper}{a:Act}{w:Zh}{K:Act->Zh->Prop}{Q:Exit->Act->Zh->Prop}{E:Prop}
 (i:o.guard=none) (d s:Operand) (t b:TypeId) (j:o.op=.call {callee:=.builtin .copy,args:= #[d,s],argTypes:= #[t,b]})
 (v u:Value) (h:a.eval d=v) (l:a.eval s=u) {c:Value} {e:Zh} (k:(Builtin.copy_ #[t,b] o.type #[v,u]).run P w=.ok c e) (g:K (a.put o.dst c) e):
 if Region.wanted o (yielded f a.tmps)=true then Oper.wp P o a w K Q else E:=by
 rw[if_pos (by simp[Region.wanted,i])];unfold Oper.wp;simp[execOp,j,resolve,invoke,builtin,h,l,k,Result.andThen];exact g
abbrev Bc:String:= "exact.go:1820"
abbrev Fa:String:= "exact.go:1827"
abbrev Fb:String:= "exact.go:1830"
abbrev Bd:String:= "exact.go:1849"
abbrev Dm:String:= "l7_vault.go:108"
abbrev AL:String:= "l7_vault.go:191"
abbrev Cg:String:= "l7_vault.go:227"
abbrev AD:String:= "l7_vault.go:236"
abbrev AB:String:= "l7_vault.go:243"
abbrev BE:String:= "l7_vault.go:65"
abbrev BN:String:= "l7_vault.go:78"
abbrev Cq:String:= "l7_vault.go:85"
abbrev AO:String:= "l7_vault.go:94"
abbrev Ae(n:Nat):Edge:=⟨n,.phase⟩
abbrev Ai(n:Nat):Edge:=⟨n,.data⟩
theorem Br{P:Program}{d:Array Oper}{Q:Exit->Act->Zh->Prop}{f:Region.Mode}{S:Zh->Prop}(i:Nat)(g:Oper)(v:Value){e:Nat}{b:Array Bool}{a:Act}{w:Zh}(k:S w)
 (h:wpAnyH P f d Q S e (b.setIfInBounds i true) (a.put g.dst v) w) (m:d[i]?=some g:=by exact rfl) (o:Region.noSelect d=true:=by kernel_rfl) (l:Region.free f d b i=true:=by kernel_rfl) (n:(Region.ready f d b).contains i=true:=by kernel_rfl)
 (j:∀c a w,Q (.panic c) (a.put g.dst v) w->Q (.panic c) a w:=by exact fun _ _ _ h=>h) (p:YieldsIf P d S g v a:=by exact Or.inl ⟨by rfl,fun _ _=>by go_simp⟩):wpAnyH P f d Q S (e+1) b a w:=
 wpAnyH_take m o l n j p k h
theorem Io{P:Program}{d:Array Oper}{Q:Exit->Act->Zh->Prop}{f:Region.Mode}{S:Zh->Prop}(i:Nat)(g:Oper){e:Nat}{b:Array Bool}{a:Act}{w:Zh}(k:S w)
 (h:wpAnyH P f d Q S e (b.setIfInBounds i true) (a.put g.dst undef) w) (m:d[i]?=some g:=by exact rfl) (o:Region.noSelect d=true:=by kernel_rfl) (l:Region.free f d b i=true:=by kernel_rfl) (n:(Region.ready f d b).contains i=true:=by kernel_rfl)
 (j:∀c a w,Q (.panic c) (a.put g.dst undef) w->Q (.panic c) a w:=by exact fun _ _ _ h=>h) (p:YieldsIf P d S g undef a:=by exact Or.inr ⟨by rfl,rfl⟩):wpAnyH P f d Q S (e+1) b a w:=
 wpAnyH_take m o l n j p k h
theorem Di{P:Program}{d:Array Oper}{Q:Exit->Act->Zh->Prop}{f:Region.Mode}{S:Zh->Prop}(i:Nat)(g:Oper)(v:Value){e:Nat}{b:Array Bool}{a:Act}{w:Zh}(p:YieldsIf P d S g v a)(k:S w)
 (h:wpAnyH P f d Q S e (b.setIfInBounds i true) (a.put g.dst v) w) (m:d[i]?=some g:=by exact rfl) (o:Region.noSelect d=true:=by kernel_rfl) (l:Region.free f d b i=true:=by kernel_rfl) (n:(Region.ready f d b).contains i=true:=by kernel_rfl)
 (j:∀c a w,Q (.panic c) (a.put g.dst v) w->Q (.panic c) a w:=by exact fun _ _ _ h=>h):wpAnyH P f d Q S (e+1) b a w:=
 wpAnyH_take m o l n j p k h
theorem AM{P:Program}{c:Array Oper}{Q:Exit->Act->Zh->Prop}{f:Region.Mode}{S:Zh->Prop}(i:Nat)(o:Oper){d:Nat}{b:Array Bool}{a:Act}{w:Zh}
 (h:∀e:Act->Zh->Prop,Shut (∀a w,S w->(S w->wpAnyH P f c Q S d (b.setIfInBounds i true) a w)->e a w)->if Region.wanted o (yielded c a.tmps)=true then Oper.wp P o a w e Q else e (a.put o.dst undef) w)
 (g:c[i]?=some o:=by exact rfl) (j:Region.ready f c b=[i]:=by kernel_rfl):wpAnyH P f c Q S (d+1) b a w:=
 wpAnyH_ready j (by simp) (AllReadyH.cons g h AllReadyH.nil)
theorem BL{P:Program}{e:Func}{p:Tmp}{c:TypeId}(h:e.results= #[.cell p c])(tmps:Array Value)(w:Zh)(b:Nat)(a:Zj)(d:TypeDesc)
 (k:tmps.getD p undef=Yz b) (g:w.rangeAt b 0 a) (l:P.underlying c=some d) (i:d.isRow=true) (j:(P.info? c).map (·.size)=some a.length):
 (results e tmps).run P w=.ok (.agg a.toArray) w:=by
 have f:tmps[p]?.getD undef=Yz b:=by simpa using k
 simp[results,h,f,asAddr,run_loadVar_mid w b 0 c a d g l i j]
abbrev XE:Go.Conc.Locks.MuLink:={lock:=103,unlock:=104,ilock:=139,iunlock:=140,lockSlow:=168,unlockSlow:=171,disable:=164,enable:=166,acquire:=167,relMerge:=169,cas32:=165,add32:=170,tMutex:=169,tIMutex:=167,tPMutex:=193,tPIMutex:=228,tPI32:=230,tUP:=232,tNoCopy:=164,tU32:=165}
theorem JD:Go.Conc.Locks.MuLib prog XE:=
 ⟨func103,func104,func139,func140,func164,func166,func167,func169,func165,func170,underlying167,runUnderlying167,sizeOf167,isAgg167,zeroValue167,underlying169,runUnderlying169,sizeOf169,isAgg169,zeroValue169,underlying193,runUnderlying193,sizeOf193,isAgg193,zeroValue193,underlying228,runUnderlying228,sizeOf228,isAgg228,zeroValue228,underlying230,runUnderlying230,sizeOf230,isAgg230,zeroValue230,underlying232,runUnderlying232,sizeOf232,isAgg232,zeroValue232,underlying164,runUnderlying164,sizeOf164,isAgg164,zeroValue164,underlying21,runUnderlying21,sizeOf21,isAgg21,zeroValue21,(by kernel_rfl)⟩
end Go.Proofs.YtckmnfhmoankmaaGreatDoor
