import Derived.Test.YtflhhhnlhlaehaaGreatDoorC02
import Derived.OneCell
import Derived.Deep.DeepCutAuto
import Derived.Laws.CopyRow
import Derived.Maps.OwnSet
import Derived.DeepKeys5
import Derived.Deep.Upon
set_option maxRecDepth 100000
set_option maxHeartbeats 16000000
namespace Go.Proofs.YtflhhhnlhlaehaaGreatDoor
open Go.ChangeShapes Go.WideShapes Go.ChangeAt Go.RowKit _root_.Go.Proofs.Tryz
structure TF (a b:World) (p q:Option Nat):Prop where
 os:b.os=a.os
 tape:b.tape=a.tape
 output:b.output=a.output
 size:a.heap.size<=b.heap.size
 block:∀k,k<a.heap.size->some k≠p->some k≠q->b.heap[k]?=a.heap[k]?
theorem EC {w:World} {base:Nat} {v:Value} {ss:List ByteArray} (h:w.ownsRow base 9 1 v ss.length (ss.map Value.string)):∃a cap,v=.slice a ss.length cap/\Ad w w.heap.size a ss:=by
 rcases h.2 with⟨hv,h0⟩|⟨g,cap,zA,hv,_⟩
 ·exact⟨none,0,by rw[hv,h0],.inl (List.eq_nil_of_length_eq_zero h0)⟩
 ·subst hv
  exact⟨_,_,rfl,Ad.own h⟩
theorem Ci {w w':World} {base:Nat} {v:Value} {n:Nat} {xs:List Value} (h:w.ownsRow base 9 1 v n xs) (hb:Uq w w'):w'.ownsRow base 9 1 v n xs:=by
 cases hv:v.ownBlock with
 |none=>exact h.kept (Aj none hb) (.inl hv)
 |some g=>exact h.kept (Aj none hb) (.inr (by rw[hv];simp))
theorem Ff {w:World} {base':Nat} {v v':Value} {n':Nat} {ys:List Value} (h':w.ownsRow base' 9 1 v' n' ys) (zA:∀g,v.ownBlock=some g->g<base'):v.ownBlock=none∨v.ownBlock≠v'.ownBlock:=by
 cases hv:v.ownBlock with
 |none=>exact .inl rfl
 |some g=>exact .inr (fun e=>by have:=(h'.lt g e.symm).1;have:=zA g hv;omega)
theorem LV {a:Int}:0<=IntKind.u64.wrap a/\IntKind.u64.wrap a<18446744073709551616:=by
 simp[IntKind.wrap,IntKind.bits,IntKind.signed];omega
def My (v:Int) (b:UInt8):Int:=IntKind.u64.wrap (bits BinOp.xor IntKind.u64 v (IntKind.u64.wrap b.toNat) *1099511628211)
def Dz (l:List UInt8):Int:=l.foldl My 14695981039346656037
theorem Mz (l:List UInt8):0<=Dz l/\Dz l<18446744073709551616:=by
 unfold Dz;rcases l.eq_nil_or_concat with rfl|⟨r,b,rfl⟩
 ·simp
 ·simp only[List.concat_eq_append,List.foldl_append,List.foldl_cons,List.foldl_nil]
  exact LV
theorem JG (s:ByteArray) (k:Nat) (h:k<s.size):Dz (s.data.toList.take (k+1))=My (Dz (s.data.toList.take k)) s[k]:=by
 rw[Uv (by simpa using h)];unfold Dz;rw[List.foldl_append];rfl
def Cz (v:Int):Nat->List Int
 |0=>[]
 |k+1=>(v/256^k%256)::Cz v k
theorem Ce (v:Int) (k:Nat):(Cz v k).length=k:=by
 induction k with
 |zero=>rfl
 |succ k ih=>simp[Cz,ih]
theorem LW (v:Int) (k:Nat):∀i,i<k->(Cz v k)[i]?=some (v/256^(k -1 -i)%256):=by
 induction k with
 |zero=>intro i h;omega
 |succ k ih=>
  intro i h
  match i with
  |0=>simp[Cz]
  |i+1=>
   rw[Cz,List.getElem?_cons_succ,ih i (by omega),show k -1 -i=k+1 -1 -(i+1) from by omega]
def ES (v:Int) (k:Nat):List Value:=(Cz v k).map (Value.int .u8)
theorem Ip (v:Int) (k:Nat):(ES v k).length=k:=by simp[ES,Ce]
theorem Pm (v:Int) (k:Nat):v/256^k/256=v/256^(k+1):=by
 rw[Int.ediv_ediv_of_nonneg (Int.pow_nonneg (by decide)),Int.pow_succ]
theorem RS (v:Int) (k:Nat) (h0:0<=v) (h:v<18446744073709551616):0<=v/256^k/\v/256^k<18446744073709551616:=by
 have hp:(0:Int)<256^k:=Int.pow_pos (by decide);exact⟨Int.ediv_nonneg h0 (Int.le_of_lt hp),Int.lt_of_le_of_lt (Int.ediv_le_self _ h0) h⟩
def BE (l:List UInt8) (n:Nat):ByteArray:=strOfNums (Cz (Dz l) n)
theorem infoByte:(prog.info? 5).map (fun i=>(i.zero,i.size,i.bytes))=some (some (.int .u8 0),1,1):=by kernel_rfl
theorem FM (s:ByteArray) (wd:Int) (w:World) (hs:s.size<=maxLen) (h1:1<=wd) (h2:wd<=8):
 Calls prog 7 #[.string s,.int .i64 wd] w fun e w'=>e=.returned (.string (BE s.data.toList wd.toNat))/\Uq w w':=by
 unfold maxLen at hs;obtain⟨i0,hi,zI,zJ,zK⟩:=info_parts infoByte;go_enter func7,ntmps7;go_wp2
 go_loop [5,6] (fun v i=>∃(k:Nat),k<=s.size/\i=.int .i64 k/\v=.int .u64 (Dz (s.data.toList.take k))) (fun _ i=>s.size -(intOf i).toNat)
 case atStart=>exact⟨0,Nat.zero_le _,rfl,rfl⟩
 case round=>
  obtain⟨k,hk,rfl,rfl⟩:=hrel;by_cases hlt:k<s.size
  ·have HS:Hid _:=JG s k hlt
   go_wp2;exact⟨⟨k+1,by omega,by go_num,by rw[HS.o];rfl⟩,by simp[intOf];omega⟩
  ·have hV:Hid (Dz (s.data.toList.take k)=Dz s.data.toList):=by
    show _=_;rw[Uw (by simp;omega)]
   have zE:=Mz (s.data.toList.take k);generalize Dz (s.data.toList.take k)=V at *
   go_wp2
   go_loopw [5,7,8] (fun v out i wr=>∃(k:Nat) (g c:Nat),k<=wd/\i=.int .i64 k/\v=.int .u64 (V/256^k)/\out=.slice (some ⟨g,0,none⟩) k c/\wr.ownsRow w.heap.size 5 1 (.slice (some ⟨g,0,none⟩) k c) k (ES V k)/\Uq w wr/\w.heap.size<=wr.heap.size) (fun _ _ i _=>(wd -intOf i).toNat)
   case atStart=>exact⟨0,_,_,by omega,rfl,by simp,rfl,World.ownsRow_lit w #[] 0 (Us) (by simp[maxLen]) rfl,Ur,by simp⟩
   case round=>
    obtain⟨j,g,c,hj,rfl,rfl,rfl,zD,zC,zF⟩:=hrel;by_cases hlt2:j<wd
    ·have zM:=RS V j zE.1 zE.2
     go_wp2_with (first
      |(at_builtin;refine wpList_append_own _ rfl _ _ 22 rfl w.heap.size 5 i0 (.int .u8 0) 1 1 underlying22 hi zI zJ zK rfl (by decide) _ 1 [.int .u8 (V/256^j%256)] rfl ?c0 ⟨g,0,none⟩ j c (ES V j) rfl (by rw[Ip];omega) ?c1 ?c2 ?c3 ?c4 ?c5 ?_)
      |go_in)
     case c0=>exact World.ownsRow_lit wr _ 1 zF (by simp[maxLen]) rfl
     case c1=>exact(zD.alloc _).cells rfl
     case c2=>intro u hu;obtain⟨_,_,rfl⟩:=List.mem_map.1 hu;rfl
     case c3=>unfold maxLen;omega
     case c4=>omega
     case c5=>simp;omega
     intro v' w1 zA zB _;obtain⟨g',c',zH,zN,zO⟩:=zA.form (by omega);subst zH;have zG:=(zC.alloc zF _).grown zB (by simp;omega) (by intro k hk;simp[Value.ownBlock] at hk;omega);rw[Nat.add_comm 1 j] at zA ⊢;clear zD zC zB;go_wp2;refine⟨⟨j+1,g',c',by omega,by go_num,by rw[←Pm],rfl,zA,zG,by omega⟩,by simp[intOf];omega⟩
    ·obtain rfl:(j:Int)=wd:=by omega
     have zL:=run_convert_bytes_arg (P:=prog) wr 22 5 underlying22 underlying5 g 0 j c (Cz V j) (Ce V j) (fun i hi=>by
      rw[Nat.zero_add,zD.cellAt i (by omega)];have:=Ce V j;simp[ES,List.getD,Uu (show i<(Cz V j).length by omega)]) 9 underlying9
     go_wp2;go_ret;refine⟨?_,zC⟩;unfold BE;rw[←hV.o];rfl
theorem QK {k:IntKind} {a b:Int} (h:a=b):Ending.returned (.int k a)=.returned (.int k b):=by rw[h]
theorem QL (s:ByteArray) (w:World) (hs:s.size<=maxLen):
 Calls prog 150 #[.string s] w fun e w'=>e=.returned (.int .u64 (Dz s.data.toList))/\w'=w:=by
 unfold maxLen at hs;go_enter func150,ntmps150;go_wp2
 go_loop [3,7] (fun v i=>∃(k:Nat),k<=s.size/\i=.int .i64 k/\v=.int .u64 (Dz (s.data.toList.take k))) (fun _ i=>s.size -(intOf i).toNat)
 case atStart=>exact⟨0,Nat.zero_le _,rfl,rfl⟩
 case round=>
  obtain⟨k,hk,rfl,rfl⟩:=hrel;by_cases hlt:k<s.size
  ·have HS:Hid _:=JG s k hlt
   go_wp2;exact⟨⟨k+1,by omega,by go_num,by rw[HS.o];rfl⟩,by simp[intOf];omega⟩
  ·go_wp2
   go_ret;exact⟨QK (by rw[Uw (by simp;omega)]),rfl⟩
def Iq (v wd:Int) (j:Nat):Int:=v/2^(8 *(wd -1 -(j:Int))).toNat%256
def BU (v wd:Int) (k j:Nat):Int:=if j<k then Iq v wd j else 0
def Ds (v wd:Int) (k:Nat):Array Value:= #[.int .u8 (BU v wd k 0),.int .u8 (BU v wd k 1),.int .u8 (BU v wd k 2),.int .u8 (BU v wd k 3),.int .u8 (BU v wd k 4),.int .u8 (BU v wd k 5),.int .u8 (BU v wd k 6),.int .u8 (BU v wd k 7)]
theorem Cd (v wd:Int) (k j:Nat) (h:j<8):(Ds v wd k)[j]?=some (.int .u8 (BU v wd k j)):=by
 match j,h with
 |0,_=>rfl|1,_=>rfl|2,_=>rfl|3,_=>rfl|4,_=>rfl|5,_=>rfl|6,_=>rfl|7,_=>rfl
theorem MR (v wd:Int):Ds v wd 0= #[.int .u8 0,.int .u8 0,.int .u8 0,.int .u8 0,.int .u8 0,.int .u8 0,.int .u8 0,.int .u8 0]:=by
 simp[Ds,BU]
theorem NY (v wd:Int) (k:Nat) (h:k<8):(Ds v wd k).setIfInBounds k (.int .u8 (Iq v wd k))=Ds v wd (k+1):=by
 match k,h with
 |0,_|1,_|2,_|3,_|4,_|5,_|6,_|7,_=>simp[Ds,BU]
theorem NZ (v:Int) (k j:Nat) (h:j<k):Iq v k j=v/256^(k -1 -j)%256:=by
 unfold Iq;rw[show(8 *((k:Int) -1 -(j:Int))).toNat=8 *(k -1 -j) from by omega,Int.pow_mul];rfl
theorem Pn (v wd:Int) (w:World) (h1:1<=wd) (h2:wd<=8) (_hv0:0<=v) (_hv:v<18446744073709551616):
 Calls prog 149 #[.int .u64 v,.int .i64 wd] w fun e w'=>e=.returned (.agg #[.int .u8 (BU v wd wd.toNat 0),.int .u8 (BU v wd wd.toNat 1),.int .u8 (BU v wd wd.toNat 2),.int .u8 (BU v wd wd.toNat 3),.int .u8 (BU v wd wd.toNat 4),.int .u8 (BU v wd wd.toNat 5),.int .u8 (BU v wd wd.toNat 6),.int .u8 (BU v wd wd.toNat 7)])/\w'=(w.alloc (.cells (Ds v wd wd.toNat) 113)).alloc (.cells (Ds v wd wd.toNat) 113):=by
 go_enter func149,ntmps149;go_wp2
 go_loopw [8] (fun i wr=>∃k:Nat,k<=wd/\i=.int .i64 k/\wr=(w.alloc (Obj.cells
  #[Value.int IntKind.u8 0,Value.int IntKind.u8 0,Value.int IntKind.u8 0,Value.int IntKind.u8 0,
   Value.int IntKind.u8 0,Value.int IntKind.u8 0,Value.int IntKind.u8 0,Value.int IntKind.u8 0]
  113)).alloc (.cells (Ds v wd k) 113)) (fun i _=>(wd -intOf i).toNat)
 case atStart=>exact⟨0,by omega,rfl,by rw[MR]⟩
 case round=>
  obtain⟨k,hk,rfl,rfl⟩:=hrel;by_cases hlt:k<wd
  ·have hg:=Cd v wd k k (by omega)
   go_wp2;refine⟨⟨k+1,by omega,by go_num,?_⟩,by simp[intOf];omega⟩;have:=NY v wd k (by omega);unfold Iq at this;rw[this]
  ·obtain rfl:(k:Int)=wd:=by omega
   have g0:=Cd v k k 0 (by omega);have g1:=Cd v k k 1 (by omega);have g2:=Cd v k k 2 (by omega);have g3:=Cd v k k 3 (by omega);have g4:=Cd v k k 4 (by omega);have g5:=Cd v k k 5 (by omega);have g6:=Cd v k k 6 (by omega);have g7:=Cd v k k 7 (by omega);go_wp2;exact bodyPost_ret (v:=.agg (Ds v k k)) (by simp[results,results149,go_sem];rfl) rfl ⟨rfl,rfl⟩
theorem Po (s:ByteArray) (wd:Int) (w:World) (hs:s.size<=maxLen) (h1:1<=wd) (h2:wd<=8):
 Calls prog 122 #[.string s,.int .i64 wd] w fun e w'=>e=.returned (.string (BE s.data.toList wd.toNat))/\Uq w w':=by
 have zA:=Mz s.data.toList;obtain⟨n,rfl⟩:∃n:Nat,wd=n:=⟨wd.toNat,by omega⟩;have hW:∀(W:World) (g:Nat),g=W.heap.size->Sem.run prog (convert 22 9 (.slice (some ⟨g,0,none⟩) n 8)) (W.alloc (Obj.cells (Ds (Dz s.data.toList) n n) 113))=.ok (.string (BE s.data.toList n)) (W.alloc (Obj.cells (Ds (Dz s.data.toList) n n) 113)):=fun W g hg=>hg▸
  run_convert_bytes_arg (P:=prog) _ 22 5 underlying22 underlying5 W.heap.size 0 n 8 (Cz (Dz s.data.toList) n) (Ce _ n) (fun i hi=>by
   rw[Nat.zero_add,World.cell?_alloc_new,Cd _ _ _ _ (by omega)];simp only[List.getD,LW _ n i hi,Option.getD_some];unfold BU;rw[if_pos hi,NZ _ _ _ hi]) 9 underlying9
 have h0:(0:Int)<=n:=by omega
 unfold Ds at hW;go_enter func122,ntmps122;go_wp2_with (first
  |(go_at_call 150;refine(QL s _ hs).mono ?_;rintro e w' ⟨rfl,rfl⟩)
  |(go_at_call 149;refine(Pn _ _ _ h1 h2 zA.1 zA.2).mono ?_;rintro e w' ⟨rfl,rfl⟩)
  |go_in)
 go_ret;refine⟨rfl,?_⟩;exact(((Ur).alloc (by simp) _).alloc (by simp;omega) _)
structure Kd where
 sum:ByteArray
 born:Int
 text:ByteArray
 refs:List ByteArray
structure Pd where
 name:ByteArray
 sum:ByteArray
structure Ld where
 num:Int
 sum:ByteArray
 til:Int
def JH (w:World) (B:Nat) (b o:Nat) (k:Kd):Prop:=
 w.cell? ⟨b,o,none⟩=some (.string k.sum)/\w.cell? ⟨b,o+1,none⟩=some (.int .i64 k.born)/\w.cell? ⟨b,o+2,none⟩=some (.string k.text)/\
  ∃ra rc,w.cell? ⟨b,o+3,none⟩=some (.slice ra k.refs.length rc)/\Ad w B ra k.refs
def BP (w:World) (B:Nat) (a:Option Addr) (ks:List Kd):Prop:=
 ks=[]∨∃b off,a=some ⟨b,off,none⟩/\b<B/\∀i k,ks[i]?=some k->JH w B b (off+i *4) k
def Bo (w:World) (B:Nat) (a:Option Addr) (ps:List Pd):Prop:=
 ps=[]∨∃b off,a=some ⟨b,off,none⟩/\b<B/\∀i p,ps[i]?=some p->w.cell? ⟨b,off+i *2,none⟩=some (.string p.name)/\w.cell? ⟨b,off+i *2+1,none⟩=some (.string p.sum)
def Bj (w:World) (B:Nat) (a:Option Addr) (ls:List Ld):Prop:=
 ls=[]∨∃b off,a=some ⟨b,off,none⟩/\b<B/\∀i l,ls[i]?=some l->w.cell? ⟨b,off+i *3,none⟩=some (.int .i64 l.num)/\w.cell? ⟨b,off+i *3+1,none⟩=some (.string l.sum)/\w.cell? ⟨b,off+i *3+2,none⟩=some (.int .i64 l.til)
theorem JH.below {w w':World} {B b o:Nat} {k:Kd} (h:JH w B b o k) (hb:Below B w w') (zA:b<B):JH w' B b o k:=by
 obtain⟨h1,h2,h3,ra,rc,h4,h5⟩:=h;exact⟨(hb.cell (p:=⟨b,o,none⟩) zA).trans h1,(hb.cell (p:=⟨b,o+1,none⟩) zA).trans h2,(hb.cell (p:=⟨b,o+2,none⟩) zA).trans h3,ra,rc,(hb.cell (p:=⟨b,o+3,none⟩) zA).trans h4,h5.below hb⟩
theorem JH.mono {w:World} {B B' b o:Nat} {k:Kd} (h:JH w B b o k) (hb:B<=B'):JH w B' b o k:=by
 obtain⟨h1,h2,h3,ra,rc,h4,h5⟩:=h;exact⟨h1,h2,h3,ra,rc,h4,h5.mono hb⟩
theorem BP.below {w w':World} {B:Nat} {a:Option Addr} {ks:List Kd} (h:BP w B a ks) (hb:Below B w w'):BP w' B a ks:=by
 rcases h with h|⟨b,off,ha,zA,hc⟩
 ·exact .inl h
 ·exact .inr ⟨b,off,ha,zA,fun i k hk=>(hc i k hk).below hb zA⟩
theorem BP.mono {w:World} {B B':Nat} {a:Option Addr} {ks:List Kd} (h:BP w B a ks) (hb:B<=B'):BP w B' a ks:=by
 rcases h with h|⟨b,off,ha,zA,hc⟩
 ·exact .inl h
 ·exact .inr ⟨b,off,ha,by omega,fun i k hk=>(hc i k hk).mono hb⟩
theorem BP.at {w:World} {B:Nat} {a:Option Addr} {ks:List Kd} (h:BP w B a ks) {i:Nat} (hi:i<ks.length):
 ∃b off,a=some ⟨b,off,none⟩/\b<B/\∀i k,ks[i]?=some k->JH w B b (off+i *4) k:=by
 rcases h with h|h
 ·subst h;simp at hi
 ·exact h
theorem Bo.below {w w':World} {B:Nat} {a:Option Addr} {ps:List Pd} (h:Bo w B a ps) (hb:Below B w w'):Bo w' B a ps:=by
 rcases h with h|⟨b,off,ha,zA,hc⟩
 ·exact .inl h
 ·exact .inr ⟨b,off,ha,zA,fun i k hk=>⟨(hb.cell (p:=⟨b,off+i *2,none⟩) zA).trans (hc i k hk).1,(hb.cell (p:=⟨b,off+i *2+1,none⟩) zA).trans (hc i k hk).2⟩⟩
theorem Bo.mono {w:World} {B B':Nat} {a:Option Addr} {ps:List Pd} (h:Bo w B a ps) (hb:B<=B'):Bo w B' a ps:=by
 rcases h with h|⟨b,off,ha,zA,hc⟩
 ·exact .inl h
 ·exact .inr ⟨b,off,ha,by omega,hc⟩
theorem Bo.at {w:World} {B:Nat} {a:Option Addr} {ps:List Pd} (h:Bo w B a ps) {i:Nat} (hi:i<ps.length):
 ∃b off,a=some ⟨b,off,none⟩/\b<B/\∀i p,ps[i]?=some p->w.cell? ⟨b,off+i *2,none⟩=some (.string p.name)/\w.cell? ⟨b,off+i *2+1,none⟩=some (.string p.sum):=by
 rcases h with h|h
 ·subst h;simp at hi
 ·exact h
theorem Bj.below {w w':World} {B:Nat} {a:Option Addr} {ls:List Ld} (h:Bj w B a ls) (hb:Below B w w'):Bj w' B a ls:=by
 rcases h with h|⟨b,off,ha,zA,hc⟩
 ·exact .inl h
 ·exact .inr ⟨b,off,ha,zA,fun i k hk=>⟨(hb.cell (p:=⟨b,off+i *3,none⟩) zA).trans (hc i k hk).1,(hb.cell (p:=⟨b,off+i *3+1,none⟩) zA).trans (hc i k hk).2.1,(hb.cell (p:=⟨b,off+i *3+2,none⟩) zA).trans (hc i k hk).2.2⟩⟩
theorem Bj.mono {w:World} {B B':Nat} {a:Option Addr} {ls:List Ld} (h:Bj w B a ls) (hb:B<=B'):Bj w B' a ls:=by
 rcases h with h|⟨b,off,ha,zA,hc⟩
 ·exact .inl h
 ·exact .inr ⟨b,off,ha,by omega,hc⟩
theorem Bj.at {w:World} {B:Nat} {a:Option Addr} {ls:List Ld} (h:Bj w B a ls) {i:Nat} (hi:i<ls.length):
 ∃b off,a=some ⟨b,off,none⟩/\b<B/\∀i l,ls[i]?=some l->w.cell? ⟨b,off+i *3,none⟩=some (.int .i64 l.num)/\w.cell? ⟨b,off+i *3+1,none⟩=some (.string l.sum)/\w.cell? ⟨b,off+i *3+2,none⟩=some (.int .i64 l.til):=by
 rcases h with h|h
 ·subst h;simp at hi
 ·exact h
structure TP (ks:List Kd):Prop where
 len:ks.length<=1048576
 refs:∀k∈ks,k.refs.length<=1048576
 text:∀k∈ks,k.text.size<=maxLen
 sum:∀k∈ks,k.sum.size<=maxLen
def less (a b:ByteArray):Bool:=Op.bytesLess a.toList b.toList
def MS (k:Kd) (wd:Int):ByteArray:=BE (Am k.text k.refs wd).data.toList wd.toNat
structure RT (wd now given births:Int):Prop where
 wd1:1<=wd
 wd2:wd<=8
 now1:0<=now
 now2:now<=1000000000
 given1:0<=given
 given2:given<=1000000000
 births1:0<=births
 births2:births<=1000000000
structure RU (wd:Int) (ks:List Kd) (i:Nat) (k:Kd):Prop where
 ok:As k.text k.refs wd=true
 sum:k.sum=MS k wd
 up:∀j p,i=j+1->ks[j]?=some p->less p.sum k.sum=true
structure Oa (births:Int) (ks:List Kd) (i:Nat) (k:Kd):Prop where
 lo:1<=k.born
 hi:k.born<=births
 new:∀j p,j<i->ks[j]?=some p->p.born≠k.born
def Av (ks:List Kd) (s:ByteArray):Prop:=∃u∈ks,u.sum=s
def Qn (ks:List Kd) (k:Kd):Prop:=∀r∈k.refs,∃u∈ks,u.sum=r/\u.born<k.born
structure Sz (ks:List Kd) (ps:List Pd) (i:Nat) (p:Pd):Prop where
 name:DR p.name=true
 up:∀j q,i=j+1->ps[j]?=some q->less q.name p.name=true
 sum:Av ks p.sum
structure QM (now given:Int) (ks:List Kd) (ls:List Ld) (i:Nat) (l:Ld):Prop where
 lo:1<=l.num
 hi:l.num<=given
 up:∀j q,i=j+1->ls[j]?=some q->q.num<l.num
 sum:Av ks l.sum
 til1:now<l.til
 til2:l.til<=now+100000
structure QN (wd now given births:Int) (ks:List Kd) (ps:List Pd) (ls:List Ld):Prop where
 nums:RT wd now given births
 nth:ks.length<=600
 np:ps.length<=100
 nl:ls.length<=200
 th:∀(i:Nat) k,ks[i]?=some k->RU wd ks i k
 born:∀(i:Nat) k,ks[i]?=some k->Oa births ks i k
 ref:∀(i:Nat) k,ks[i]?=some k->Qn ks k
 pin:∀(i:Nat) p,ps[i]?=some p->Sz ks ps i p
 lease:∀(i:Nat) l,ls[i]?=some l->QM now given ks ls i l
def TG (ks:List Kd) (s:ByteArray):Option Kd:=ks.find? (fun k=>decide (k.sum=s))
theorem Pp {w:World} {base:Nat} {v:Value} {n:Nat} {xs:List Value} (h:w.ownsRow base 9 1 v n xs) (hn:v≠.slice none 0 0):∃g cap,v=.slice (some ⟨g,0,none⟩) n cap:=by
 rcases Joins.ownsRow_forms h with⟨e,_⟩|hf
 ·exact absurd e hn
 ·exact hf
theorem Ad.cellsV {w:World} {B g:Nat} {ss:List ByteArray} (h:Ad w B (some ⟨g,0,none⟩) ss):∀j u,(ss.map Value.string)[j]?=some u->w.cell? ((⟨g,0,none⟩:Addr).add j)=some u:=by
 intro j u hu;rw[List.getElem?_map] at hu;cases hs:ss[j]? with
 |none=>rw[hs] at hu;cases hu
 |some s=>
  rw[hs] at hu;cases hu;rcases h with h|⟨b,off,h1,_,h3⟩
  ·subst h;simp at hs
  ·cases h1
   have:=h3 j s hs;rw[Go.WideShapes.add_plain];simpa using this
theorem RV (ss:List ByteArray):∀u∈ss.map Value.string,u.oneCell'=true:=fun u hu=>by obtain⟨s,_,rfl⟩:=List.mem_map.1 hu;rfl
theorem JI (g cap:Nat) (ss:List ByteArray) (w:World) (hr:Ad w w.heap.size (some ⟨g,0,none⟩) ss) (hl:ss.length<=1048576):
 Calls prog 42 #[.slice (some ⟨g,0,none⟩) ss.length cap] w fun e w'=>∃x cx,e=.returned (.slice (some ⟨x,0,none⟩) ss.length cx)/\
  w'.ownsRow w.heap.size 9 1 (.slice (some ⟨x,0,none⟩) ss.length cx) ss.length (ss.map Value.string)/\Uq w w':=by
 obtain⟨i0,hi,zF,zG,zH⟩:=info_parts Cv;have hA:Below w.heap.size w (w.alloc (.cells #[] 9)):=Ur;have zD:∀u:World,(binOp .eql 25 (.slice (some ⟨g,0,none⟩) ss.length cap) (.slice none 0 0)).run prog u=.ok (.bool false) u:=fun _=>by first|rfl|kernel_rfl
 go_enter func42,ntmps42;go_wp2_with (first
  |(at_builtin;refine wpList_append_own _ rfl _ _ 25 rfl w.heap.size 9 i0 (.string ⟨#[]⟩) 1 16 underlying25 hi zF zG zH rfl (by decide) _ 0 (([]:List ByteArray).map Value.string) rfl ?d0 ⟨g,0,none⟩ ss.length cap (ss.map Value.string) rfl ?d1 ?d2 ?d3 ?d4 ?d5 ?d6 ?_)
  |go_in)
 case d0=>exact World.ownsRow_lit (base:=w.heap.size) (e:=9) (size:=1) w #[] 0 (Us) (by unfold maxLen;omega) rfl
 case d1=>simp
 case d2=>exact(hr.below hA).cellsV
 case d3=>exact RV ss
 case d4=>unfold maxLen;omega
 case d5=>omega
 case d6=>simp
 intro v1 w1 zA zB zC;have zE:∃x cx,v1=.slice (some ⟨x,0,none⟩) ss.length cx:=by
  have:=Pp zA zC;simpa using this
 obtain⟨x,cx,rfl⟩:=zE;try simp only[Nat.zero_add,List.map_nil,List.nil_append] at zA
 have hB:Below w.heap.size w w1:=hA.grown zB (by simp) (fun k hk=>by simp[Value.ownBlock] at hk;omega);have HO:Hid _:=And.intro zA hB;clear zA zB zC hB hA hr;go_wp2;go_ret;exact⟨x,cx,rfl,HO.o.1,HO.o.2⟩
section
def kB (s:ByteArray) (i:Nat):Int:=((s.data.toList[i]?).getD 0).toNat
def BW (s:ByteArray):Array Value:= #[.int .u8 (kB s 0),.int .u8 (kB s 1),.int .u8 (kB s 2),.int .u8 (kB s 3),.int .u8 (kB s 4),.int .u8 (kB s 5),.int .u8 (kB s 6),.int .u8 (kB s 7)]
def Bs:Array Value:= #[.int .u8 0,.int .u8 0,.int .u8 0,.int .u8 0,.int .u8 0,.int .u8 0,.int .u8 0,.int .u8 0]
def JJ (s:ByteArray):List Value:=List.take (Nat.min s.size 8) (List.map (fun b=>Value.int .u8 b.toNat) s.data.toList)
theorem AZ (s:ByteArray):s.data.toList.length=s.size:=by simp
theorem Ir (s:ByteArray):(JJ s).length=min s.size 8:=by
 have:=AZ s;simp only[JJ,List.length_take,List.length_map,this];show min (min s.size 8) s.size=_;omega
theorem QO (s:ByteArray) (i:Nat) (h:i<min s.size 8):(JJ s)[i]?=some (.int .u8 (kB s i)):=by
 have hs:=AZ s;unfold JJ kB;rw[List.getElem?_take_of_lt (by show i<min s.size 8;exact h),List.getElem?_map,Uu (by omega)];simp
theorem QP (s:ByteArray):(Bs.toList.take (0+0)++JJ s++Bs.toList.drop (0+0+(JJ s).length)).toArray=BW s:=by
 apply Array.ext';apply List.ext_getElem?;intro i;have hl:=Ir s;simp only[Nat.add_zero,List.take_zero,List.nil_append,Nat.zero_add];by_cases h:i<min s.size 8
 ·rw[List.getElem?_append_left (by omega),QO s i h]
  have h8:i<8:=by omega
  match i,h8 with
  |0,_|1,_|2,_|3,_|4,_|5,_|6,_|7,_=>rfl
 ·rw[List.getElem?_append_right (by omega),hl,List.getElem?_drop,show min s.size 8+(i -min s.size 8)=i from by omega]
  by_cases h8:i<8
  ·have hk:kB s i=0:=by
    have hd:=AZ s;unfold kB;rw[List.getElem?_eq_none (by omega)];rfl
   match i,h8,hk with
   |0,_,hk|1,_,hk|2,_,hk|3,_,hk|4,_,hk|5,_,hk|6,_,hk|7,_,hk=>simp[Bs,BW,hk]
  ·rw[List.getElem?_eq_none (by simp[Bs];omega),List.getElem?_eq_none (by simp[BW];omega)]
theorem KU (w:World) (a b:Array Value) (t:TypeId):(w.alloc (.cells a t)).setRow w.heap.size b=w.alloc (.cells b t):=by
 unfold World.setRow World.alloc;congr 1;apply Array.ext
 ·simp
 ·intro i h1 h2
  simp only[Array.getElem_modify,Array.getElem_push];split
  ·rename_i h
   subst h;simp
  ·rename_i h
   simp at h2;rw[dif_pos (by omega),dif_pos (by omega)]
theorem KV (w:World) (s:ByteArray) (ty:TypeId):
 (Builtin.copy_ #[22,9] ty #[.slice (some ⟨w.heap.size,0,none⟩) 8 8,.string s]).run prog (w.alloc (.cells Bs 113))=.ok (goInt (Nat.min s.size 8)) (w.alloc (.cells (BW s) 113)):=by
 obtain⟨i0,hi,zB,zC,zD⟩:=info_parts JA;have zA:=run_storeCells_at (P:=prog) w.heap.size 0 113 (JJ s) 0 Bs (w.alloc (.cells Bs 113)) (heap_alloc_new w _) (by rw[Ir];simp[Bs];omega) (fun v hv=>by
  have hv:=List.mem_of_mem_take hv;simp only[List.mem_map] at hv;obtain⟨_,_,rfl⟩:=hv;rfl)
 rw[QP,KU] at zA;unfold JJ at zA;simp[Builtin.copy_,run_underlying underlying22,Builtin.lenOf,Builtin.firstCells,sizeOf,typeInfo,hi,zA,Result.andThen]
def Bt (s:ByteArray):Value:=.agg (BW s)
theorem Fz (s:ByteArray) (w:World):
 Calls prog 58 #[.string s] w fun e w'=>e=.returned (Bt s)/\Uq w w':=by
 have zA:∀ty,(Builtin.copy_ #[22,9] ty #[.slice (some ⟨w.heap.size+1,0,none⟩) 8 8,.string s]).run prog ((w.alloc (.cells Bs 113)).alloc (.cells Bs 113))=.ok (goInt (Nat.min s.size 8)) ((w.alloc (.cells Bs 113)).alloc (.cells (BW s) 113)):=fun ty=>by
  have:=KV (w.alloc (.cells Bs 113)) s ty;rwa[show(w.alloc (.cells Bs 113)).heap.size=w.heap.size+1 from by simp] at this
 unfold BW Bs at zA;go_enter func58,ntmps58;go_wp2;refine bodyPost_ret (v:=Bt s) (by simp[results,results58,go_sem,Bt,BW]) rfl ⟨rfl,?_⟩;exact(Ur).alloc (by simp) _
theorem SA (s:ByteArray) (i:Nat):0<=kB s i/\kB s i<256:=by
 unfold kB;have:=((s.data.toList[i]?).getD 0).toNat_lt;omega
theorem SB (s:ByteArray) (i:Nat):(Lit.int .u8 (kB s i)).wf=true:=by
 have:=SA s i;have e1:IntKind.u8.min=0:=by decide
 have e2:IntKind.u8.max=255:=by decide
 simp only[Lit.wf,e1,e2,Bool.and_eq_true,decide_eq_true_eq];omega
theorem RW:prog.keyType 113=true:=by kernel_rfl
theorem Qo:prog.cellsOf 113=8:=by kernel_rfl
theorem SC:prog.cellsOf 5=1:=by kernel_rfl
theorem Pq:prog.underlying 113=some (.array 8 5):=by kernel_rfl
theorem RY:∃n,prog.types.size=n+1:=⟨prog.types.size -1,by kernel_rfl⟩
theorem KW (s:ByteArray):∃l,keyOf prog 113 (Bt s)=some l:=by
 obtain⟨n,hn⟩:=RY;unfold keyOf;rw[Pq,hn];simp only[RW,Bt,Value.formed,Pq,Qo,BW];simp[Value.cells,Program.keyLits,Qo,SC,List.range_succ,SB]
noncomputable def keyL (s:ByteArray):Lit:=(KW s).choose
theorem Dt (s:ByteArray):keyOf prog 113 (Bt s)=some (keyL s):=(KW s).choose_spec
theorem SD:laidOutB prog=true:=by kernel_rfl
theorem keyed:Maps.Keyed prog 113:=Maps.Keyed.of_law (deep_law_gate SD (of_decide_eq_true (by kernel_rfl)) (of_decide_eq_true (by kernel_rfl)) RW (by rw[Pq]))
theorem GS {s t:ByteArray} (h:keyL s=keyL t) (he:s.size=t.size) (h8:s.size<=8):s=t:=by
 have h2:=Dt t;rw[←h] at h2;have hv:=keyed.inj (Dt s) h2;clear h2 h;have hk:∀i,i<8->kB s i=kB t i:=by
  simp only[Bt,BW,Value.agg.injEq,Array.mk.injEq,List.cons.injEq,Value.int.injEq,true_and,and_true] at hv;obtain⟨e0,e1,e2,e3,e4,e5,e6,e7⟩:=hv;intro i hi
  match i,hi with
  |0,_=>exact e0
  |1,_=>exact e1
  |2,_=>exact e2
  |3,_=>exact e3
  |4,_=>exact e4
  |5,_=>exact e5
  |6,_=>exact e6
  |7,_=>exact e7
 have hs:=AZ s;have ht:=AZ t;have hl:s.data.toList=t.data.toList:=by
  apply List.ext_getElem?;intro i;by_cases hi:i<s.size
  ·have:=hk i (by omega)
   unfold kB at this;rw[Uu (by omega),Uu (by omega)] at this ⊢;simp only[Option.getD_some] at this;congr 1;exact UInt8.toNat_inj.1 (by omega)
  ·rw[List.getElem?_eq_none (by omega),List.getElem?_eq_none (by omega)]
 cases s;cases t;simp only[Array.toList_inj] at hl;rw[hl]
open Classical in
noncomputable def upd (f:Lit->Option Value) (kl:Lit) (v:Value):Lit->Option Value:=fun x=>if x=kl then some v else f x
theorem CK (f:Lit->Option Value) (kl:Lit) (v:Value):upd f kl v kl=some v:=by simp[upd]
theorem CH (f:Lit->Option Value) {kl x:Lit} (v:Value) (h:x≠kl):upd f kl v x=f x:=by simp[upd,h]
def KH (v:Value):Option (DataW Value×List MemPlace):=some (.held v,[])
def AM (w:World) (K:TypeId) (b n:Nat) (f:Lit->Option Value):Prop:=
 ∃D:DataW Value,w.ownsMap prog K KH b n D/\(∀kl z,D.atKey kl (.held z)=.held ((f kl).getD z))/\∀kl,Maps.has D kl=(f kl).isSome
theorem AM.new (w:World) (K:TypeId):AM (w.alloc (.map #[] 0)) K w.heap.size 0 (fun _=>none):=
 ⟨.map [],World.ownsMap_made _ _ _ _,fun _ _=>rfl,fun _=>rfl⟩
theorem AM.keep {w w':World} {K:TypeId} {b n:Nat} {f:Lit->Option Value} (h:AM w K b n f) {B:Nat} (hb:Below B w w') (hB:b<B):AM w' K b n f:=by
 obtain⟨D,⟨es,clock,h1,h2⟩,h3⟩:=h;exact⟨D,⟨es,clock,(hb.block b hB).trans h1,h2⟩,h3⟩
theorem AM.lt {w:World} {K:TypeId} {b n:Nat} {f:Lit->Option Value} (h:AM w K b n f):b<w.heap.size:=h.choose_spec.1.lt
theorem AM.put {w:World} {K t e:TypeId} {b n:Nat} {f:Lit->Option Value} (h:AM w K b n f) (hK:Maps.Keyed prog K) (ht:prog.underlying t=some (.map K e)) (hn:n<maxLen) {key val:Value} {kl:Lit} (zA:keyOf prog K key=some kl):
 ∃w',(Instr.mapUpdate t (.map (some b)) key val).run prog w=.ok () w'/\AM w' K b (n+1) (upd f kl val)/\w.grownBy w' (some b):=by
 obtain⟨D,h1,h2,h3⟩:=h;obtain⟨w',hr,ho,hg⟩:=h1.update hK ht hn zA (d:=.held val) (ps:=[]) (val:=val) rfl;have hm:=h1.isMap;have zB:=hK.key zA;refine⟨w',hr,⟨_,ho,fun x z=> ?_,fun x=> ?_⟩,hg⟩
 ·by_cases hx:x=kl
  ·subst hx;rw[Maps.atKey_put_same hm zB,CK];rfl
  ·rw[Maps.atKey_put_other hx,CH _ _ hx];exact h2 x z
 ·by_cases hx:x=kl
  ·subst hx;rw[Maps.has_put_same hm zB,CK];rfl
  ·rw[Maps.has_put_other hx,CH _ _ hx];exact h3 x
theorem AM.look {w:World} {K t e:TypeId} {b n:Nat} {f:Lit->Option Value} (h:AM w K b n f) (hK:Maps.Keyed prog K) (ht:prog.underlying t=some (.map K e)) {z:Value} (hz:(zeroValue e).run prog w=.ok z w) {key:Value} {kl:Lit} (zA:keyOf prog K key=some kl):
 (Instr.lookup t (.map (some b)) key false).run prog w=.ok ((f kl).getD z) w:=by
 obtain⟨D,h1,h2,_⟩:=h;obtain⟨v,ps,hr,hv⟩:=h1.lookup hK ht hz (zd:=.held z) (zp:=[]) rfl zA;rw[h2] at hv;simp only[KH,Option.some.injEq,Prod.mk.injEq,DataW.held.injEq] at hv;rw[hr,hv.1]
theorem AM.look_ok {w:World} {K t e:TypeId} {b n:Nat} {f:Lit->Option Value} (h:AM w K b n f) (hK:Maps.Keyed prog K) (ht:prog.underlying t=some (.map K e)) {z:Value} (hz:(zeroValue e).run prog w=.ok z w) {key:Value} {kl:Lit} (zA:keyOf prog K key=some kl):
 (Instr.lookup t (.map (some b)) key true).run prog w=.ok (.tuple #[(f kl).getD z,.bool (f kl).isSome]) w:=by
 obtain⟨D,h1,h2,h3⟩:=h;obtain⟨v,ps,hr,hv⟩:=h1.look_ok hK ht hz (zd:=.held z) (zp:=[]) rfl zA;rw[h2] at hv;simp only[KH,Option.some.injEq,Prod.mk.injEq,DataW.held.injEq] at hv;rw[hr,hv.1,h3]
end
def Ah (s:ByteArray):List Value:=(BW s).toList
theorem MT (s:ByteArray) (j:Nat) (h:j<8):(Ah s)[j]?=some (.int .u8 (kB s j)):=by
 match j,h with
 |0,_|1,_|2,_|3,_|4,_|5,_|6,_|7,_=>rfl
def AA (ss:List ByteArray):List Value:=ss.flatMap Ah
theorem DV (ss:List ByteArray):(AA ss).length=ss.length *8:=by
 induction ss with
 |nil=>rfl
 |cons s ss ih=>
  have:(Ah s).length=8:=rfl;unfold AA at *
  rw[List.flatMap_cons,List.length_append,ih,List.length_cons,this];omega
theorem EK {ss:List ByteArray} {i j:Nat} {s:ByteArray} (h:ss[i]?=some s) (hj:j<8):(AA ss)[i *8+j]?=some (.int .u8 (kB s j)):=by
 induction ss generalizing i with
 |nil=>simp at h
 |cons t ss ih=>
  have h8:(Ah t).length=8:=rfl;unfold AA at *
  rw[List.flatMap_cons];cases i with
  |zero=>
   simp at h;subst h;rw[List.getElem?_append_left (by omega),Nat.zero_mul,Nat.zero_add];exact MT t j hj
  |succ i=>
   rw[List.getElem?_append_right (by omega),h8,show(i+1) *8+j -8=i *8+j by omega];exact ih (by simpa using h)
theorem Is {ss:List ByteArray} {k:Nat} {u:Value} (h:(AA ss)[k]?=some u):∃s,ss[k/8]?=some s/\u=.int .u8 (kB s (k%8)):=by
 have hk:k<ss.length *8:=by rw[←DV];exact(Ut h).1
 have hi:k/8<ss.length:=by omega
 refine⟨ss[k/8],Uu hi,?_⟩;have:=EK (j:=k%8) (Uu hi) (Nat.mod_lt _ (by decide));rw[show k/8 *8+k%8=k by omega,h] at this;exact Option.some.inj this
theorem FZ (a b:List ByteArray):AA (a++b)=AA a++AA b:=by unfold AA;rw[List.flatMap_append]
theorem CL (ss:List ByteArray):∀u∈AA ss,u.oneCell'=true:=by
 intro u hu;obtain⟨k,hk⟩:=List.getElem?_of_mem hu;obtain⟨s,_,rfl⟩:=Is hk;rfl
def R8 (w:World) (B:Nat) (v:Value) (ss:List ByteArray):Prop:=
 (v=.slice none 0 0/\ss=[])∨∃g off cap,v=.slice (some ⟨g,off,none⟩) ss.length cap/\g<B/\∀i s,ss[i]?=some s->∀j,j<8->w.cell? ⟨g,off+(i *8+j),none⟩=some (.int .u8 (kB s j))
def Tb (w:World) (g:Nat):Prop:=∃cur fz,w.heap[g]?=some (.cells cur 113 fz)
def Tc (w:World) (base:Nat) (v:Value) (ss:List ByteArray):Prop:=
 (v=.slice none 0 0/\ss=[])∨∃g off cap,v=.slice (some ⟨g,off,none⟩) ss.length cap/\base<=g/\Tb w g/\ss.length<=cap/\cap<=maxLen/\
   (∀j,j<cap *8->(w.cell? ⟨g,off+j,none⟩).isSome=true/\w.frozen? ⟨g,off+j,none⟩=false)/\
   ∀i s,ss[i]?=some s->∀j,j<8->w.cell? ⟨g,off+(i *8+j),none⟩=some (.int .u8 (kB s j))
def Ax:Value->Option Nat
 |.slice (some a) _ _=>some a.block
 |_=>none
theorem R8.cells {w:World} {g off:Nat} {ss:List ByteArray} (hc:∀i s,ss[i]?=some s->∀j,j<8->w.cell? ⟨g,off+(i *8+j),none⟩=some (.int .u8 (kB s j))):∀j u,(AA ss)[j]?=some u->w.cell? ((⟨g,off,none⟩:Addr).add j)=some u:=by
 intro j u hu;obtain⟨s,hs,rfl⟩:=Is hu;have:=hc _ s hs (j%8) (Nat.mod_lt _ (by decide));rw[show j/8 *8+j%8=j by omega] at this;rw[Go.WideShapes.add_plain];exact this
theorem Je:(prog.info? 113).map (fun i=>(i.zero,i.size,i.bytes))=some (some (.agg #[.int .u8 0,.int .u8 0,.int .u8 0,.int .u8 0,.int .u8 0,.int .u8 0,.int .u8 0,.int .u8 0]),8,8):=by kernel_rfl
theorem Fg (b:Nat):∀(vs:List Value) (o:Nat) (w:World),(w.setCells b o vs).heap.size=w.heap.size
 |[],_,_=>rfl
 |_::r,o,w=>by rw[World.setCells,Fg b r];simp
theorem JK (b:Nat):∀(vs:List Value) (o:Nat) (w:World),(w.setCells b o vs).tape=w.tape
 |[],_,_=>rfl
 |_::r,o,w=>by rw[World.setCells,JK b r];rfl
theorem He (b:Nat):∀(vs:List Value) (o:Nat) (w:World) (x:Addr),(w.cell? x).isSome=true->((w.setCells b o vs).cell? x).isSome=true
 |[],_,_,_,h=>h
 |v::r,o,w,x,h=>by
  rw[World.setCells];refine He b r (o+1) _ x ?_;by_cases e:(⟨b,o,none⟩:Addr)=x
  ·subst e
   obtain⟨u,hu⟩:=Option.isSome_iff_exists.1 h;rw[World.cell?_setCell_same _ _ _ hu];rfl
  ·rw[World.cell?_setCell_other _ _ _ _ e]
   exact h
theorem wpList_append_run {P:Program} {w:World} {ops:Array Oper} {rest:List Oper} {o:Oper} {a:Act} {Q:Exit->Act->World->Prop} (zA:o.guard=none) (s x:Operand) (t u:TypeId)
 (ho:o.op=.call {callee:=.builtin .append,args:= #[s,x],argTypes:= #[t,u]}) {v xv v':Value} {w':World} (hs:a.eval s=v) (hx:a.eval x=xv)
 (hr:(Builtin.append_ #[t,u] o.type #[v,xv]).run P w=.ok v' w') (h:wpList P ops Q rest (a.put o.dst v') w'):wpList P ops Q (o::rest) a w:=by
 refine wpList_plain zA fun K hK=> ?_;unfold Oper.wp execOp;simp only[ho,resolve,invoke,builtin,Sem.run_bind,Sem.run_pure,Result.andThen_ok,List.map_toArray,List.map_cons,List.map_nil,hs,hx,hr];exact hK _ _ h
theorem BB {P:Program} {w:World} {ops:Array Oper} {o:Oper} {a:Act} {K:Act->World->Prop} {Q:Exit->Act->World->Prop} {E:Prop} (zA:o.guard=none) (s x:Operand) (t u:TypeId)
 (ho:o.op=.call {callee:=.builtin .append,args:= #[s,x],argTypes:= #[t,u]}) {v xv v':Value} {w':World} (hs:a.eval s=v) (hx:a.eval x=xv)
 (hr:(Builtin.append_ #[t,u] o.type #[v,xv]).run P w=.ok v' w') (h:K (a.put o.dst v') w'):
 if Region.wanted o (yielded ops a.tmps)=true then Oper.wp P o a w K Q else E:=by
 have hw:Region.wanted o (yielded ops a.tmps)=true:=by simp[Region.wanted,zA]
 rw[if_pos hw];unfold Oper.wp execOp;simp only[ho,resolve,invoke,builtin,Sem.run_bind,Sem.run_pure,Result.andThen_ok,List.map_toArray,List.map_cons,List.map_nil,hs,hx,hr];exact h
structure Td (ks:List Kd):Prop where
 len:ks.length<=maxLen
 sum:∀k∈ks,k.sum.size<=maxLen
 text:∀k∈ks,k.text.size<=maxLen
 refs:∀k∈ks,k.refs.length<=maxLen
 ref:∀k∈ks,∀s∈k.refs,s.size<=maxLen
structure Te (ps:List Pd):Prop where
 len:ps.length<=maxLen
 name:∀p∈ps,p.name.size<=maxLen
 sum:∀p∈ps,p.sum.size<=maxLen
structure Tf (ls:List Ld):Prop where
 len:ls.length<=maxLen
 sum:∀l∈ls,l.sum.size<=maxLen
def By (w:World) (b:Nat) (wd now given births:Int) (T P L:Value):Prop:=
 w.cell? ⟨b,0,none⟩=some (.int .i64 wd)/\w.cell? ⟨b,1,none⟩=some (.int .i64 now)/\w.cell? ⟨b,2,none⟩=some (.int .i64 given)/\w.cell? ⟨b,3,none⟩=some (.int .i64 births)/\
  w.cell? ⟨b,4,none⟩=some T/\w.cell? ⟨b,5,none⟩=some P/\w.cell? ⟨b,6,none⟩=some L/\b<w.heap.size
theorem By.new (w:World) (wd now given births:Int) (T P L:Value) (t:TypeId):By (w.alloc (.cells #[.int .i64 wd,.int .i64 now,.int .i64 given,.int .i64 births,T,P,L] t)) w.heap.size wd now given births T P L:=
 ⟨by simp,by simp,by simp,by simp,by simp,by simp,by simp,by simp⟩
theorem By.keep {w w':World} {b B:Nat} {wd now given births:Int} {T P L:Value} (h:By w b wd now given births T P L) (hb:Below B w w') (hB:b<B):By w' b wd now given births T P L:=by
 obtain⟨h0,h1,h2,h3,h4,h5,h6,h7⟩:=h;exact⟨(hb.cell (p:=⟨b,0,none⟩) hB).trans h0,(hb.cell (p:=⟨b,1,none⟩) hB).trans h1,(hb.cell (p:=⟨b,2,none⟩) hB).trans h2,(hb.cell (p:=⟨b,3,none⟩) hB).trans h3,
  (hb.cell (p:=⟨b,4,none⟩) hB).trans h4,(hb.cell (p:=⟨b,5,none⟩) hB).trans h5,(hb.cell (p:=⟨b,6,none⟩) hB).trans h6,Uy h7 hb.size⟩
theorem By.below {w w':World} {b:Nat} {wd now given births:Int} {T P L:Value} (h:By w b wd now given births T P L) (hb:Uq w w'):By w' b wd now given births T P L:=h.keep hb h.2.2.2.2.2.2.2
structure BC (w:World) (B:Nat) (a p l:Option Addr) (ks:List Kd) (ps:List Pd) (ls:List Ld):Prop where
 k:BP w B a ks
 p:Bo w B p ps
 l:Bj w B l ls
theorem BC.below' {w w':World} {a p l:Option Addr} {ks:List Kd} {ps:List Pd} {ls:List Ld} (h:BC w w.heap.size a p l ks ps ls) (hb:Uq w w'):BC w' w'.heap.size a p l ks ps ls:=
 ⟨(h.k.below hb).mono hb.size,(h.p.below hb).mono hb.size,(h.l.below hb).mono hb.size⟩
theorem BC.keep {w w':World} {B:Nat} {a p l:Option Addr} {ks:List Kd} {ps:List Pd} {ls:List Ld} (h:BC w B a p l ks ps ls) (hb:Below B w w'):BC w' B a p l ks ps ls:=
 ⟨h.k.below hb,h.p.below hb,h.l.below hb⟩
theorem BC.mono {w:World} {B B':Nat} {a p l:Option Addr} {ks:List Kd} {ps:List Pd} {ls:List Ld} (h:BC w B a p l ks ps ls) (hb:B<=B'):BC w B' a p l ks ps ls:=
 ⟨h.k.mono hb,h.p.mono hb,h.l.mono hb⟩
structure Tg (ks:List Kd) (ps:List Pd) (ls:List Ld):Prop where
 k:ks.length<=1048576
 r:∀k∈ks,k.refs.length<=1048576
 p:ps.length<=1048576
 l:ls.length<=1048576
def QQ (w:World) (lo g c:Nat) (rs:List ByteArray):Prop:=w.ownsRow lo 9 1 (.slice (some ⟨g,0,none⟩) rs.length c) rs.length (rs.map Value.string)
def Sa (w:World) (lo:Nat) (xs:List Value) (i:Nat) (x:Kd):Prop:=
 xs[i *4]?=some (.string x.sum)/\xs[i *4+1]?=some (.int .i64 x.born)/\xs[i *4+2]?=some (.string x.text)/\
  ∃g,xs[i *4+3]?=some (.slice (some ⟨g,0,none⟩) x.refs.length x.refs.length)/\QQ w lo g x.refs.length x.refs
theorem Pr:(prog.info? 115).map (fun i=>(i.zero,i.size,i.bytes))=some (some (.agg #[.string ⟨#[]⟩,.int .i64 0,.string ⟨#[]⟩,.slice none 0 0]),4,64):=by kernel_rfl
def Th (xs:List Value) (n:Nat):Prop:=∀(i j q q' m c m' c':Nat),i<j->j<n->xs[i *4+3]?=some (.slice (some ⟨q,0,none⟩) m c)->xs[j *4+3]?=some (.slice (some ⟨q',0,none⟩) m' c')->q<q'
def Ti (w:World) (lo g:Nat) (ks:List Kd):Prop:=
 ∃xs,w.ownsRow lo 115 4 (.slice (some ⟨g,0,none⟩) ks.length ks.length) ks.length xs/\(∀i x,ks[i]?=some x->Sa w (g+1) xs i x)/\Th xs ks.length
theorem Jf:(prog.info? 108).map (fun i=>(i.zero,i.size,i.bytes))=some (some (.agg #[.string ⟨#[]⟩,.string ⟨#[]⟩]),2,32):=by kernel_rfl
def Tj (w:World) (lo g:Nat) (ps:List Pd):Prop:=
 ∃xs,w.ownsRow lo 108 2 (.slice (some ⟨g,0,none⟩) ps.length ps.length) ps.length xs/\∀i x,ps[i]?=some x->xs[i *2]?=some (.string x.name)/\xs[i *2+1]?=some (.string x.sum)
theorem Gp:(prog.info? 111).map (fun i=>(i.zero,i.size,i.bytes))=some (some (.agg #[.int .i64 0,.string ⟨#[]⟩,.int .i64 0]),3,32):=by kernel_rfl
def Tk (w:World) (lo g:Nat) (ls:List Ld):Prop:=
 ∃xs,w.ownsRow lo 111 3 (.slice (some ⟨g,0,none⟩) ls.length ls.length) ls.length xs/\∀i x,ls[i]?=some x->xs[i *3]?=some (.int .i64 x.num)/\xs[i *3+1]?=some (.string x.sum)/\xs[i *3+2]?=some (.int .i64 x.til)
structure Tl (w:World) (lo g p l:Nat) (ks:List Kd) (ps:List Pd) (ls:List Ld):Prop where
 k:Ti w lo g ks
 p:Tj w lo p ps
 l:Tk w lo l ls
end Go.Proofs.YtflhhhnlhlaehaaGreatDoor
