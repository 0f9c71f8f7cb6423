import Derived.Test.YtpekbmegopfhfaaGreatDoorK01
import Derived.Lib.SmallJoins
import Derived.OneCell
import Derived.Deep.DeepCutAuto
import Derived.Laws.CopyRow
import Derived.Maps.OwnSet
import Derived.DeepKeys5
set_option maxRecDepth 100000
set_option maxHeartbeats 16000000
namespace Go.Proofs.YtpekbmegopfhfaaGreatDoor
open Go.ChangeShapes Go.WideShapes Go.ChangeAt Go.RowKit _root_.Go.Proofs.Tryz
def flat (ss:List ByteArray):List UInt8:=ss.flatMap (fun s=>s.data.toList)
theorem Qx (ss:List ByteArray) (k:Nat) (s:ByteArray) (h:ss[k]?=some s):flat (ss.take (k+1))=flat (ss.take k)++s.data.toList:=by
 obtain⟨zA,rfl⟩:=XC h;unfold flat;rw[XE zA,List.flatMap_append];simp
theorem Er (ss:List ByteArray):(flat ss).length=bulk ss:=by
 induction ss with
 |nil=>rfl
 |cons s r ih=>
  unfold flat bulk at *
  rw[List.flatMap_cons,List.length_append,ih];simp
def BZ (t:ByteArray) (ss:List ByteArray):List UInt8:=UInt8.ofNat ss.length::(flat ss++t.data.toList)
theorem Qy {wd:Int} {ss:List ByteArray} (h:Da wd ss=true) {i:Nat} {s:ByteArray} (hs:ss[i]?=some s):(s.size:Int)=wd:=by
 unfold Da at h;rw[List.all_eq_true] at h;have zA:=(XC hs).1;have:=h i (by simpa using zA);unfold Fq at this;rw[hs] at this;simp at this;exact this.1
theorem OT (ss:List ByteArray) (n:Nat) (h:∀s∈ss,s.size=n):bulk ss=ss.length *n:=by
 induction ss with
 |nil=>simp[bulk]
 |cons s r ih=>
  have h1:=h s (by simp);have h2:=ih (fun s hs=>h s (by simp[hs]));unfold bulk at *
  rw[List.map_cons,List.sum_cons,h2,h1,List.length_cons,Nat.add_mul,Nat.one_mul,Nat.add_comm]
structure EY (t:ByteArray) (ss:List ByteArray) (wd:Int):Prop where
 lo:1<=wd
 hi:wd<=8
 text:t.size<=2000
 refs:ss.length<=30
 all:Da wd ss=true
theorem Cq {t:ByteArray} {ss:List ByteArray} {wd:Int} (h:AH t ss wd=true):EY t ss wd:=by
 unfold AH at h;simp at h;exact⟨h.1.1,h.1.2,h.2.1,h.2.2.1,h.2.2.2⟩
theorem EY.size {t:ByteArray} {ss:List ByteArray} {wd:Int} (h:EY t ss wd) {i:Nat} {s:ByteArray} (hs:ss[i]?=some s):(s.size:Int)=wd:=Qy h.all hs
theorem EY.bulk {t:ByteArray} {ss:List ByteArray} {wd:Int} (h:EY t ss wd):bulk ss=ss.length *wd.toNat:=by
 refine OT ss _ fun s hs=> ?_;obtain⟨i,hi⟩:=List.getElem?_of_mem hs;have:=h.size hi;omega
theorem EY.bulk_le {t:ByteArray} {ss:List ByteArray} {wd:Int} (h:EY t ss wd):YtpekbmegopfhfaaGreatDoor.bulk ss<=240:=by
 have h1:=h.bulk;have h2:ss.length *wd.toNat<=30 *8:=Nat.mul_le_mul h.refs (by have:=h.hi;omega);omega
theorem KK:(prog.info? 5).map (fun i=>(i.zero,i.size,i.bytes))=some (some (.int .u8 0),1,1):=by kernel_rfl
theorem Ig (n:Nat) (h:n<=30):Value.int .u8 (n:Int)=.int .u8 ((UInt8.ofNat n).toNat:Int):=by
 have:(UInt8.ofNat n).toNat=n:=by simp;omega
 rw[this]
theorem KL (ss:List ByteArray) (k:Nat) (s:ByteArray) (h:ss[k]?=some s) (c:UInt8):
 Lib.byteCells (c::flat (ss.take k))++Lib.strCells s=Lib.byteCells (c::flat (ss.take (k+1))):=by
 rw[Qx ss k s h,Lib.strCells_eq,←Lib.byteCells_append];rfl
theorem KN (t:ByteArray) (a:Option Addr) (cap:Nat) (ss:List ByteArray) (wd:Int) (w:World) (zH:Ae w w.heap.size a ss) (zX:AH t ss wd=true):
 Calls prog 131 #[.agg #[.string t,.slice a ss.length cap],XJ wd] w fun e w'=>e=.returned (.string ⟨(BZ t ss).toArray⟩)/\Xz w w':=by
 have hp:=Cq zX;have yM:=hp.bulk_le;have zW:=hp.refs;have zT:=hp.text;have yL:Hid _:=Ig ss.length zW;obtain⟨i0,hi,zV,zU,zY⟩:=info_parts KK;have zZ:Below w.heap.size w (w.alloc (.cells #[.string t,.slice a ss.length cap] 66)):=XA;go_enter func131,ntmps131;go_wp2_with fail;refine(CP t a cap ss wd _ (zH.below' zZ) (by omega) (by unfold maxLen;omega)).mono ?_;rintro e w1 ⟨rfl,zK⟩;rw[zX]
 obtain⟨yH,yF⟩:=IE zK;have hz:=zK.size;simp at hz;go_wp2;have zG:(w1.alloc (.cells #[.int .u8 ss.length] 5)).ownsRow (w.heap.size+1) 5 1 (.slice (some ⟨w1.heap.size,0,none⟩) 1 1) 1 (Lib.byteCells (UInt8.ofNat ss.length::flat (ss.take 0))):=by
  have:=World.ownsRow_lit (base:=w.heap.size+1) (e:=5) (size:=1) w1 #[.int .u8 ss.length] 1 hz (by simp[maxLen]) rfl;simpa [Lib.byteCells,flat,Ig ss.length zW] using this
 have zF:Below (w.heap.size+1) (w.alloc (.cells #[.string t,.slice a ss.length cap] 66)) (w1.alloc (.cells #[.int .u8 ss.length] 5)):=by
  have:=zK.alloc (by simpa using hz) (.cells #[.int .u8 ss.length] 5);simpa using this
 go_loopw [5,6] (fun out i wr=>∃(k g c:Nat),k<=ss.length/\i=XJ k/\out=.slice (some ⟨g,0,none⟩) (1+bulk (ss.take k)) c/\
  wr.ownsRow (w.heap.size+1) 5 1 (.slice (some ⟨g,0,none⟩) (1+bulk (ss.take k)) c) (1+bulk (ss.take k)) (Lib.byteCells (UInt8.ofNat ss.length::flat (ss.take k)))/\
  Below (w.heap.size+1) (w.alloc (.cells #[.string t,.slice a ss.length cap] 66)) wr) (fun _ i _=>ss.length -(intOf i).toNat)
 case atStart=>exact⟨0,w1.heap.size,1,Nat.zero_le _,rfl,by simp[bulk],by simpa [bulk] using zG,zF⟩
 case round=>
  clear zG zF yH yF zK;obtain⟨k,g,c,hk,rfl,rfl,zE,zC⟩:=hrel;have zI:wr.cell? (XL (w.heap.size) 1)=some (.slice a ss.length cap):=by
   rw[zC.cell (p:=⟨w.heap.size,1,none⟩) (by simp)];simp
  have yG:=zC.size;simp at yG;have yI:=bulk_le ss k;by_cases hlt:k<ss.length
  ·obtain⟨b,off,ha,yD,hc⟩:=zH.at hlt
   subst ha;have zO:Hid (ss[k]?=some ss[k]):=XD hlt;have yJ:wr.cell? (XL b (off+k))=some (.string ss[k]):=by
    rw[zC.cell (p:=⟨b,off+k,none⟩) (by simp;omega),World.cell?_alloc_past _ _ _ yD];exact hc k _ zO
   have zN:Hid _:=Fz ss k _ zO;have yE:Hid _:=KL ss k _ zO (UInt8.ofNat ss.length);have zR:=bulk_le ss (k+1);rw[zN.o] at zR;clear hc zH;generalize ss[k]=s at *
   go_wp2_with (at_builtin;refine Lib.wpList_append_own_string _ rfl _ _ 143 9 rfl (w.heap.size+1) 5 i0 underlying143 underlying9 hi zV zU zY _ _ _ rfl zE s rfl ?c3 ?c4 ?c5 ?_)
   case c3=>unfold maxLen;omega
   case c4=>omega
   case c5=>omega
   intro v' w2 zA zB _;obtain⟨g',c',zS,yB,yC⟩:=zA.form (by omega);subst zS;have zM:=zC.grown zB (by omega) (fun k hk=>(zE.lt k hk).1);rw[yE.o] at zA;clear zE zC zB zI yJ;go_wp2;refine⟨⟨k+1,g',c',by omega,by go_num,?_,?_,zM⟩,by simp[intOf];omega⟩
   ·rw[zN.o,Nat.add_assoc]
   ·rw[zN.o,←Nat.add_assoc];exact zA
  ·have zJ:wr.cell? (XL (w.heap.size) 0)=some (.string t):=by
    rw[zC.cell (p:=⟨w.heap.size,0,none⟩) (by simp)];simp
   rw[XF (by omega)] at zE ⊢;go_wp2_with (at_builtin;refine Lib.wpList_append_own_string _ rfl _ _ 143 9 rfl (w.heap.size+1) 5 i0 underlying143 underlying9 hi zV zU zY _ _ _ rfl zE t rfl ?c3 ?c4 ?c5 ?_)
   case c3=>unfold maxLen;omega
   case c4=>omega
   case c5=>omega
   intro v' w2 zA zB _;obtain⟨g',c',zS,yB,yC⟩:=zA.form (by omega);subst zS;have zM:=zC.grown zB (by omega) (fun k hk=>(zE.lt k hk).1);have yA:Lib.byteCells (UInt8.ofNat ss.length::flat ss)++Lib.strCells t=Lib.byteCells (BZ t ss):=by
    rw[Lib.strCells_eq,←Lib.byteCells_append];rfl
   rw[yA] at zA;have zP:1+bulk ss+t.size=(BZ t ss).length:=by
    have:=Er ss;simp[BZ,this];omega
   rw[zP] at zA ⊢;have yK:=run_convert_bytes_back (P:=prog) w2 143 9 5 ⟨g',0,none⟩ c' (BZ t ss) underlying143 underlying5 underlying9 (fun j hj=>zA.cells rfl j _ (by simp[Lib.byteCells,hj]));clear zE zC zB zI zJ zA;go_wp2;go_ret;refine⟨rfl,?_⟩;exact zZ.trans (zM.mono (by omega))
theorem Sy (t:ByteArray) (a:Option Addr) (cap:Nat) (ss:List ByteArray) (wd:Int) (w:World) (zA:Ae w w.heap.size a ss) (zC:AH t ss wd=false) (hl:ss.length<=1048576) (ht:t.size<=maxLen):
 Calls prog 131 #[.agg #[.string t,.slice a ss.length cap],XJ wd] w fun e w'=>e=.returned (.string ByteArray.empty)/\Xz w w':=by
 have zB:Below w.heap.size w (w.alloc (.cells #[.string t,.slice a ss.length cap] 66)):=XA;go_enter func131,ntmps131;go_wp2_with fail;refine(CP t a cap ss wd _ (zA.below' zB) hl ht).mono ?_;rintro e w1 ⟨rfl,zE⟩;rw[zC];go_wp2;go_ret;exact⟨rfl,zB.trans (zE.mono (by simp))⟩
theorem Sz (t:ByteArray) (a:Option Addr) (cap:Nat) (ss:List ByteArray) (wd:Int) (w:World) (zA:Ae w w.heap.size a ss) (zC:AH t ss wd=false) (hl:ss.length<=1048576) (ht:t.size<=maxLen):
 Calls prog 198 #[.agg #[.string t,.slice a ss.length cap],XJ wd] w fun e w'=>e=.returned (.string ByteArray.empty)/\Xz w w':=by
 have zB:Below w.heap.size w (w.alloc (.cells #[.string t,.slice a ss.length cap] 66)):=XA;go_enter func198,ntmps198;go_wp2_with fail;refine(DJ t a cap ss wd _ (zA.below' zB) hl ht).mono ?_;rintro e w1 ⟨rfl,rfl⟩;rw[zC];go_wp2;go_ret;exact⟨rfl,zB.alloc (by simp) _⟩
theorem Qz (t:ByteArray) (a:Option Addr) (cap:Nat) (ss:List ByteArray) (wd:Int) (w:World) (zG:Ae w w.heap.size a ss) (zX:AH t ss wd=true):
 Calls prog 198 #[.agg #[.string t,.slice a ss.length cap],XJ wd] w fun e w'=>e=.returned (.string ⟨(BZ t ss).toArray⟩)/\Xz w w':=by
 have hp:=Cq zX;have yL:=hp.bulk_le;have yF:=hp.refs;have zV:=hp.text;have yB:Below w.heap.size w (w.alloc (.cells #[.string t,.slice a ss.length cap] 66)):=XA;obtain⟨W,hW⟩:∃W,W=(w.alloc (.cells #[.string t,.slice a ss.length cap] 66)).alloc (.cells #[.string t,.slice a ss.length cap] 66):=⟨_,rfl⟩;have yA:Below w.heap.size w W:=by rw[hW];exact yB.alloc (by simp) _
 have zZ:W.heap.size=w.heap.size+1+1:=by rw[hW];simp
 have yI:W.cell? (XL (w.heap.size) 0)=some (.string t):=by rw[hW];simp
 have yJ:W.cell? (XL (w.heap.size) 1)=some (.slice a ss.length cap):=by rw[hW];simp
 have zE:=zG.below yA;have HW:Hid _:=hW;go_enter func198,ntmps198;go_wp2_with fail;refine(DJ t a cap ss wd _ (zG.below' yB) (by omega) (by unfold maxLen;omega)).mono ?_;rintro e w1 ⟨rfl,yC⟩;rw[←HW.o] at yC;subst yC;clear hW;rw[zX];have zC:=Lib.fresh_isBuilder 285 5 w1;have zO:Below w1.heap.size w1 (w1.alloc (.cells #[.pointer none,XN] 285)):=XA;rw[zZ] at zC zO;go_wp2_with fail
 refine(LB (w.heap.size+1+1) (w.heap.size+1+1) [] _ _ zC (by simp) (by simp[zZ])).mono ?_;rintro e w2 ⟨rfl,zF,zT⟩;have zI:=zO.trans zT;have zM:w2.cell? (XL (w.heap.size) 1)=some (.slice a ss.length cap):=(zI.cell (p:=⟨w.heap.size,1,none⟩) (by simp;omega)).trans yJ;have zW:[]++[Value.int .u8 (ss.length:Int)]=Lib.byteCells (UInt8.ofNat ss.length::flat (ss.take 0)):=by
  simp[Lib.byteCells,flat,Ig ss.length yF]
 rw[zW] at zF;clear zC zO zT zW;go_wp2
 go_loopw [20] (fun i wr=>∃(k:Nat),k<=ss.length/\i=XJ k/\Lib.IsBuilder 285 5 (w.heap.size+1+1) (w.heap.size+1+1) (Lib.byteCells (UInt8.ofNat ss.length::flat (ss.take k))) wr/\
  Below (w.heap.size+1+1) w1 wr) (fun i _=>ss.length -(intOf i).toNat)
 case atStart=>exact⟨0,Nat.zero_le _,rfl,zF,zI⟩
 case round=>
  clear zF zI zM;obtain⟨k,hk,rfl,zC,zA⟩:=hrel;have yM:=zA.size;have zR:=bulk_le ss k;have zY:=Er (ss.take k);have zK:Hid ((Lib.byteCells (UInt8.ofNat ss.length::flat (ss.take k))).length=1+bulk (ss.take k)):=by
   show _=_;rw[Lib.byteCells_length,List.length_cons,zY];omega
  clear zY;by_cases hlt:k<ss.length
  ·obtain⟨b,off,ha,zI,hc⟩:=zE.at hlt
   subst ha;have zP:Hid (ss[k]?=some ss[k]):=XD hlt;have yK:wr.cell? (XL b (off+k))=some (.string ss[k]):=by
    rw[zA.cell (p:=⟨b,off+k,none⟩) (by simp;omega)];exact hc k _ zP
   have yH:Hid _:=Fz ss k _ zP;have yD:Hid _:=KL ss k _ zP (UInt8.ofNat ss.length);have zS:=bulk_le ss (k+1);rw[yH.o] at zS;clear hc zG zE;generalize ss[k]=s at *
   go_wp2_with fail;refine(Gu (w.heap.size+1+1) (w.heap.size+1+1) _ s _ zC (by rw[zK.o];omega) (by omega)).mono ?_;rintro e w3 ⟨rfl,zB,zH⟩;rw[←Lib.strCells_eq,yD.o] at zB;have zJ:=zA.trans zH;clear zC zA zH yK;go_wp2;exact⟨⟨k+1,by omega,by go_num,zB,zJ⟩,by simp[intOf];omega⟩
  ·have zN:wr.cell? (XL (w.heap.size) 0)=some (.string t):=(zA.cell (p:=⟨w.heap.size,0,none⟩) (by simp;omega)).trans yI
   rw[XF (by omega)] at zC zK zR;go_wp2_with fail;refine(Gu (w.heap.size+1+1) (w.heap.size+1+1) _ t _ zC (by rw[zK.o];omega) (by omega)).mono ?_;rintro e w3 ⟨rfl,zB,zH⟩;have zU:Lib.byteCells (UInt8.ofNat ss.length::flat ss)++Lib.byteCells t.data.toList=Lib.byteCells (BZ t ss):=by
    rw[←Lib.byteCells_append];rfl
   rw[zU] at zB;have zJ:=zA.trans zH;have yG:=zJ.size;clear zC zA zH zU zK zN;go_wp2_with fail;refine(Tryz.Builder_String_any (w.heap.size+1+1) (w.heap.size+1+1) _ _ zB (by omega)).mono ?_;rintro e w4 ⟨rfl,yE⟩;go_wp2;go_ret;exact⟨rfl,yA.trans ((zJ.trans yE).mono (by omega))⟩
def AF (t:ByteArray) (ss:List ByteArray) (wd:Int):ByteArray:=if AH t ss wd=true then ⟨(BZ t ss).toArray⟩ else ByteArray.empty
theorem KO (t:ByteArray) (a:Option Addr) (cap:Nat) (ss:List ByteArray) (wd:Int) (w:World) (zA:Ae w w.heap.size a ss) (hl:ss.length<=1048576) (ht:t.size<=maxLen):
 Calls prog 131 #[.agg #[.string t,.slice a ss.length cap],XJ wd] w fun e w'=>e=.returned (.string (AF t ss wd))/\Xz w w':=by
 cases hok:AH t ss wd with
 |true=>rw[show AF t ss wd=⟨(BZ t ss).toArray⟩ from by unfold AF;rw[if_pos hok]];exact KN t a cap ss wd w zA hok
 |false=>rw[show AF t ss wd=ByteArray.empty from by unfold AF;rw[if_neg (by rw[hok];decide)]];exact Sy t a cap ss wd w zA hok hl ht
theorem KP (t:ByteArray) (a:Option Addr) (cap:Nat) (ss:List ByteArray) (wd:Int) (w:World) (zA:Ae w w.heap.size a ss) (hl:ss.length<=1048576) (ht:t.size<=maxLen):
 Calls prog 198 #[.agg #[.string t,.slice a ss.length cap],XJ wd] w fun e w'=>e=.returned (.string (AF t ss wd))/\Xz w w':=by
 cases hok:AH t ss wd with
 |true=>rw[show AF t ss wd=⟨(BZ t ss).toArray⟩ from by unfold AF;rw[if_pos hok]];exact Qz t a cap ss wd w zA hok
 |false=>rw[show AF t ss wd=ByteArray.empty from by unfold AF;rw[if_neg (by rw[hok];decide)]];exact Sz t a cap ss wd w zA hok hl ht
theorem Nv {a:Int}:0<=IntKind.u64.wrap a/\IntKind.u64.wrap a<18446744073709551616:=by
 simp[IntKind.wrap,IntKind.bits,IntKind.signed];omega
def Ox (v:Int) (b:UInt8):Int:=IntKind.u64.wrap (bits BinOp.xor IntKind.u64 v (IntKind.u64.wrap b.toNat) *1099511628211)
def Em (l:List UInt8):Int:=l.foldl Ox 14695981039346656037
theorem Oy (l:List UInt8):0<=Em l/\Em l<18446744073709551616:=by
 unfold Em;rcases l.eq_nil_or_concat with rfl|⟨r,b,rfl⟩
 ·simp
 ·simp only[List.concat_eq_append,List.foldl_append,List.foldl_cons,List.foldl_nil]
  exact Nv
theorem KQ (s:ByteArray) (k:Nat) (h:k<s.size):Em (s.data.toList.take (k+1))=Ox (Em (s.data.toList.take k)) s[k]:=by
 rw[XE (by simpa using h)];unfold Em;rw[List.foldl_append];rfl
def Db (v:Int):Nat->List Int
 |0=>[]
 |k+1=>(v/256^k%256)::Db v k
theorem Dc (v:Int) (k:Nat):(Db v k).length=k:=by
 induction k with
 |zero=>rfl
 |succ k ih=>simp[Db,ih]
theorem Nw (v:Int) (k:Nat):∀i,i<k->(Db v k)[i]?=some (v/256^(k -1 -i)%256):=by
 induction k with
 |zero=>intro i h;omega
 |succ k ih=>
  intro i h
  match i with
  |0=>simp[Db]
  |i+1=>
   rw[Db,List.getElem?_cons_succ,ih i (by omega),show k -1 -i=k+1 -1 -(i+1) from by omega]
def Gb (v:Int) (k:Nat):List Value:=(Db v k).map (Value.int .u8)
theorem Jz (v:Int) (k:Nat):(Gb v k).length=k:=by simp[Gb,Dc]
theorem SA (v:Int) (k:Nat):v/256^k/256=v/256^(k+1):=by
 rw[Int.ediv_ediv_of_nonneg (Int.pow_nonneg (by decide)),Int.pow_succ]
theorem Vp (v:Int) (k:Nat) (h0:0<=v) (h:v<18446744073709551616):0<=v/256^k/\v/256^k<18446744073709551616:=by
 have hp:(0:Int)<256^k:=Int.pow_pos (by decide);exact⟨Int.ediv_nonneg h0 (Int.le_of_lt hp),Int.lt_of_le_of_lt (Int.ediv_le_self _ h0) h⟩
def Ec (l:List UInt8) (n:Nat):ByteArray:=strOfNums (Db (Em l) n)
theorem infoByte:(prog.info? 5).map (fun i=>(i.zero,i.size,i.bytes))=some (some (.int .u8 0),1,1):=by kernel_rfl
theorem SB (s:ByteArray) (wd:Int) (w:World) (hs:s.size<=maxLen) (h1:1<=wd) (h2:wd<=8):
 Calls prog 132 #[.string s,XJ wd] w fun e w'=>e=.returned (.string (Ec s.data.toList wd.toNat))/\Xz w w':=by
 unfold maxLen at hs;obtain⟨i0,hi,zJ,zH,zK⟩:=info_parts infoByte;go_enter func132,ntmps132;go_wp2
 go_loop [5,6] (fun v i=>∃(k:Nat),k<=s.size/\i=XJ k/\v=.int .u64 (Em (s.data.toList.take k))) (fun _ i=>s.size -(intOf i).toNat)
 case atStart=>exact⟨0,Nat.zero_le _,rfl,rfl⟩
 case round=>
  obtain⟨k,hk,rfl,rfl⟩:=hrel;by_cases hlt:k<s.size
  ·have HS:Hid _:=KQ s k hlt
   go_wp2;exact⟨⟨k+1,by omega,by go_num,by rw[HS.o];rfl⟩,by simp[intOf];omega⟩
  ·have hV:Hid (Em (s.data.toList.take k)=Em s.data.toList):=by
    show _=_;rw[XF (by simp;omega)]
   have zG:=Oy (s.data.toList.take k);generalize Em (s.data.toList.take k)=V at *
   go_wp2
   go_loopw [5,7,8] (fun v out i wr=>∃(k:Nat) (g c:Nat),k<=wd/\i=XJ k/\v=.int .u64 (V/256^k)/\out=.slice (some ⟨g,0,none⟩) k c/\wr.ownsRow w.heap.size 5 1 (.slice (some ⟨g,0,none⟩) k c) k (Gb V k)/\Xz w wr/\w.heap.size<=wr.heap.size) (fun _ _ i _=>(wd -intOf i).toNat)
   case atStart=>exact⟨0,_,_,by omega,rfl,by simp,rfl,World.ownsRow_lit w #[] 0 (XB) (by simp[maxLen]) rfl,XA,by simp⟩
   case round=>
    obtain⟨j,g,c,hj,rfl,rfl,rfl,zC,zE,zF⟩:=hrel;by_cases hlt2:j<wd
    ·have zR:=Vp V j zG.1 zG.2
     go_wp2_with (first
      |(at_builtin;refine wpList_append_own _ rfl _ _ 143 rfl w.heap.size 5 i0 (.int .u8 0) 1 1 underlying143 hi zJ zH zK rfl (by decide) _ 1 [.int .u8 (V/256^j%256)] rfl ?c0 ⟨g,0,none⟩ j c (Gb V j) rfl (by rw[Jz];omega) ?c1 ?c2 ?c3 ?c4 ?c5 ?_)
      |go_in)
     case c0=>exact World.ownsRow_lit wr _ 1 zF (by simp[maxLen]) rfl
     case c1=>exact(zC.alloc _).cells rfl
     case c2=>intro u hu;obtain⟨_,_,rfl⟩:=List.mem_map.1 hu;rfl
     case c3=>unfold maxLen;omega
     case c4=>omega
     case c5=>simp;omega
     intro v' w1 zA zB _;obtain⟨g',c',zM,zO,zP⟩:=zA.form (by omega);subst zM;have zI:=(zE.alloc zF _).grown zB (by simp;omega) (by intro k hk;simp[Value.ownBlock] at hk;omega);rw[Nat.add_comm 1 j] at zA ⊢;clear zC zE zB;go_wp2;refine⟨⟨j+1,g',c',by omega,by go_num,by rw[←SA],rfl,zA,zI,by omega⟩,by simp[intOf];omega⟩
    ·obtain rfl:(j:Int)=wd:=by omega
     have zN:=run_convert_bytes_arg (P:=prog) wr 143 5 underlying143 underlying5 g 0 j c (Db V j) (Dc V j) (fun i hi=>by
      rw[Nat.zero_add,zC.cellAt i (by omega)];have:=Dc V j;simp[Gb,List.getD,XD (show i<(Db V j).length by omega)]) 9 underlying9
     go_wp2;go_ret;refine⟨?_,zE⟩;unfold Ec;rw[←hV.o];rfl
theorem Uo {k:IntKind} {a b:Int} (h:a=b):Ending.returned (.int k a)=.returned (.int k b):=by rw[h]
theorem Up (s:ByteArray) (w:World) (hs:s.size<=maxLen):
 Calls prog 228 #[.string s] w fun e w'=>e=.returned (.int .u64 (Em s.data.toList))/\w'=w:=by
 unfold maxLen at hs;go_enter func228,ntmps228;go_wp2
 go_loop [3,7] (fun v i=>∃(k:Nat),k<=s.size/\i=XJ k/\v=.int .u64 (Em (s.data.toList.take k))) (fun _ i=>s.size -(intOf i).toNat)
 case atStart=>exact⟨0,Nat.zero_le _,rfl,rfl⟩
 case round=>
  obtain⟨k,hk,rfl,rfl⟩:=hrel;by_cases hlt:k<s.size
  ·have HS:Hid _:=KQ s k hlt
   go_wp2;exact⟨⟨k+1,by omega,by go_num,by rw[HS.o];rfl⟩,by simp[intOf];omega⟩
  ·go_wp2
   go_ret;exact⟨Uo (by rw[XF (by simp;omega)]),rfl⟩
def JA (v wd:Int) (j:Nat):Int:=v/2^(8 *(wd -1 -(j:Int))).toNat%256
def CC (v wd:Int) (k j:Nat):Int:=if j<k then JA v wd j else 0
def Ed (v wd:Int) (k:Nat):Array Value:= #[.int .u8 (CC v wd k 0),.int .u8 (CC v wd k 1),.int .u8 (CC v wd k 2),.int .u8 (CC v wd k 3),.int .u8 (CC v wd k 4),.int .u8 (CC v wd k 5),.int .u8 (CC v wd k 6),.int .u8 (CC v wd k 7)]
theorem CM (v wd:Int) (k j:Nat) (h:j<8):(Ed v wd k)[j]?=some (.int .u8 (CC v wd k j)):=by
 match j,h with
 |0,_=>rfl|1,_=>rfl|2,_=>rfl|3,_=>rfl|4,_=>rfl|5,_=>rfl|6,_=>rfl|7,_=>rfl
theorem OU (v wd:Int):Ed v wd 0= #[.int .u8 0,.int .u8 0,.int .u8 0,.int .u8 0,.int .u8 0,.int .u8 0,.int .u8 0,.int .u8 0]:=by
 simp[Ed,CC]
theorem QA (v wd:Int) (k:Nat) (h:k<8):(Ed v wd k).setIfInBounds k (.int .u8 (JA v wd k))=Ed v wd (k+1):=by
 match k,h with
 |0,_|1,_|2,_|3,_|4,_|5,_|6,_|7,_=>simp[Ed,CC]
theorem QB (v:Int) (k j:Nat) (h:j<k):JA v k j=v/256^(k -1 -j)%256:=by
 unfold JA;rw[show(8 *((k:Int) -1 -(j:Int))).toNat=8 *(k -1 -j) from by omega,Int.pow_mul];rfl
theorem SC (v wd:Int) (w:World) (h1:1<=wd) (h2:wd<=8) (_hv0:0<=v) (_hv:v<18446744073709551616):
 Calls prog 227 #[.int .u64 v,XJ wd] w fun e w'=>e=.returned (.agg #[.int .u8 (CC v wd wd.toNat 0),.int .u8 (CC v wd wd.toNat 1),.int .u8 (CC v wd wd.toNat 2),.int .u8 (CC v wd wd.toNat 3),.int .u8 (CC v wd wd.toNat 4),.int .u8 (CC v wd wd.toNat 5),.int .u8 (CC v wd wd.toNat 6),.int .u8 (CC v wd wd.toNat 7)])/\w'=(w.alloc (.cells (Ed v wd wd.toNat) 139)).alloc (.cells (Ed v wd wd.toNat) 139):=by
 go_enter func227,ntmps227;go_wp2
 go_loopw [8] (fun i wr=>∃k:Nat,k<=wd/\i=XJ k/\wr=(w.alloc (Obj.cells
  #[Value.int IntKind.u8 0,Value.int IntKind.u8 0,Value.int IntKind.u8 0,Value.int IntKind.u8 0,
   Value.int IntKind.u8 0,Value.int IntKind.u8 0,Value.int IntKind.u8 0,Value.int IntKind.u8 0]
  139)).alloc (.cells (Ed v wd k) 139)) (fun i _=>(wd -intOf i).toNat)
 case atStart=>exact⟨0,by omega,rfl,by rw[OU]⟩
 case round=>
  obtain⟨k,hk,rfl,rfl⟩:=hrel;by_cases hlt:k<wd
  ·have hg:=CM v wd k k (by omega)
   go_wp2;refine⟨⟨k+1,by omega,by go_num,?_⟩,by simp[intOf];omega⟩;have:=QA v wd k (by omega);unfold JA at this;rw[this]
  ·obtain rfl:(k:Int)=wd:=by omega
   have g0:=CM v k k 0 (by omega);have g1:=CM v k k 1 (by omega);have g2:=CM v k k 2 (by omega);have g3:=CM v k k 3 (by omega);have g4:=CM v k k 4 (by omega);have g5:=CM v k k 5 (by omega);have g6:=CM v k k 6 (by omega);have g7:=CM v k k 7 (by omega);go_wp2;exact bodyPost_ret (v:=.agg (Ed v k k)) (by simp[results,results227,go_sem];rfl) rfl ⟨rfl,rfl⟩
theorem SD (s:ByteArray) (wd:Int) (w:World) (hs:s.size<=maxLen) (h1:1<=wd) (h2:wd<=8):
 Calls prog 199 #[.string s,XJ wd] w fun e w'=>e=.returned (.string (Ec s.data.toList wd.toNat))/\Xz w w':=by
 have zA:=Oy s.data.toList;obtain⟨n,rfl⟩:∃n:Nat,wd=n:=⟨wd.toNat,by omega⟩;have hW:∀(W:World) (g:Nat),g=W.heap.size->Sem.run prog (convert 143 9 (.slice (some ⟨g,0,none⟩) n 8)) (W.alloc (Obj.cells (Ed (Em s.data.toList) n n) 139))=.ok (.string (Ec s.data.toList n)) (W.alloc (Obj.cells (Ed (Em s.data.toList) n n) 139)):=fun W g hg=>hg▸
  run_convert_bytes_arg (P:=prog) _ 143 5 underlying143 underlying5 W.heap.size 0 n 8 (Db (Em s.data.toList) n) (Dc _ n) (fun i hi=>by
   rw[Nat.zero_add,World.cell?_alloc_new,CM _ _ _ _ (by omega)];simp only[List.getD,Nw _ n i hi,Option.getD_some];unfold CC;rw[if_pos hi,QB _ _ _ hi]) 9 underlying9
 have h0:(0:Int)<=n:=by omega
 unfold Ed at hW;go_enter func199,ntmps199;go_wp2_with (first
  |(go_at_call 228;refine(Up s _ hs).mono ?_;rintro e w' ⟨rfl,rfl⟩)
  |(go_at_call 227;refine(SC _ _ _ h1 h2 zA.1 zA.2).mono ?_;rintro e w' ⟨rfl,rfl⟩)
  |go_in)
 go_ret;refine⟨rfl,?_⟩;exact(((XA).alloc (by simp) _).alloc (by simp;omega) _)
def Mk (b:UInt8):Bool:=decide ((33:Int)<=(b.toNat:Int)/\(b.toNat:Int)<=126)
def nameBytes (s:ByteArray):Bool:=s.data.toList.all Mk
def CH (s:ByteArray):Bool:=decide (1<=s.size/\s.size<=40)&&nameBytes s
theorem EL {s:ByteArray} {k:Nat} (hk:k<s.size) (h:¬((33:Int)<=(s[k].toNat:Int)/\(s[k].toNat:Int)<=126)):nameBytes s=false:=by
 unfold nameBytes;rw[List.all_eq_false];refine⟨s[k],?_,by unfold Mk;simpa using h⟩;exact List.mem_of_getElem (l:=s.data.toList) (i:=k) (h:=by simpa using hk) rfl
theorem Hx {s:ByteArray} (h:∀k (hk:k<s.size),(33:Int)<=(s[k].toNat:Int)/\(s[k].toNat:Int)<=126):nameBytes s=true:=by
 unfold nameBytes;rw[List.all_eq_true];intro b hb;obtain⟨k,hk,rfl⟩:=List.getElem_of_mem hb;exact decide_eq_true (h k (by simpa using hk))
def OV (s:ByteArray) (k:Nat):Prop:=∀i (hi:i<s.size),i<k->(33:Int)<=(s[i].toNat:Int)/\(s[i].toNat:Int)<=126
theorem KR {s:ByteArray} {k:Nat} (h:OV s k) (hk:k<s.size) (h1:(33:Int)<=(s[k].toNat:Int)) (h2:(s[k].toNat:Int)<=126):OV s (k+1):=by
 intro i hi zA;rcases Nat.lt_or_ge i k with h'|h'
 ·exact h i hi h'
 ·obtain rfl:i=k:=by omega
  exact⟨h1,h2⟩
theorem QC (s:ByteArray) (w:World) (hs:s.size<=maxLen):
 Calls prog 222 #[.string s] w fun e w'=>e=.returned (.bool (CH s))/\w'=w:=by
 unfold maxLen at hs;by_cases h1:1<=s.size
 ·by_cases h2:s.size<=40
  ·have zC:decide ((s.size:Int)<1)=false:=by simp;omega
   have zG:decide ((40:Int)<(s.size:Int))=false:=by simp;omega
   have zF:Hid (decide (1<=s.size/\s.size<=40)=true):=by show _=_;simp;omega
   go_enter func222,ntmps222;go_wp2
   go_loop [14] (fun i=>∃k:Nat,k<=s.size/\i=XJ k/\Hid (OV s k)) (fun i=>s.size -(intOf i).toNat)
   case atStart=>exact⟨0,Nat.zero_le _,rfl,fun i _ h=>by omega⟩
   case round=>
    obtain⟨k,hk,rfl,zB⟩:=hrel;by_cases hlt:k<s.size
    ·by_cases b1:(s[k].toNat:Int)<33
     ·have zE:decide ((s[k].toNat:Int)<33)=true:=by simpa using b1
      go_wp2;go_ret;exact⟨Ao (by unfold CH;rw[EL hlt (by omega)];simp),rfl⟩
     ·have zE:decide ((s[k].toNat:Int)<33)=false:=by simpa using b1
      by_cases b2:(126:Int)<(s[k].toNat:Int)
      ·have zH:decide ((126:Int)<(s[k].toNat:Int))=true:=by simpa using b2
       go_wp2;go_ret;exact⟨Ao (by unfold CH;rw[EL hlt (by omega)];simp),rfl⟩
      ·have zH:decide ((126:Int)<(s[k].toNat:Int))=false:=by simpa using b2
       have HU:Hid _:=KR zB hlt (by omega) (by omega);go_wp2;exact⟨⟨k+1,by omega,by go_num,HU⟩,by simp[intOf];omega⟩
    ·have zA:=Hx (s:=s) (fun i hi=>zB i hi (by omega))
     go_wp2;go_ret;exact⟨Ao (by unfold CH;rw[zA,zF.o];rfl),rfl⟩
  ·have zC:decide ((s.size:Int)<1)=false:=by simp;omega
   have zG:decide ((40:Int)<(s.size:Int))=true:=by simp;omega
   go_enter func222,ntmps222;go_wp2;go_ret;exact⟨Ao (by unfold CH;rw[decide_eq_false (by omega)];rfl),rfl⟩
 ·have zC:decide ((s.size:Int)<1)=true:=by simp;omega
  go_enter func222,ntmps222;go_wp2;go_ret;exact⟨Ao (by unfold CH;rw[decide_eq_false (by omega)];rfl),rfl⟩
theorem KS (s:ByteArray) (w:World) (hs:s.size<=maxLen):
 Calls prog 130 #[.string s] w fun e w'=>e=.returned (.bool (CH s))/\w'=w:=by
 unfold maxLen at hs;go_enter func130,ntmps130;go_wp2
 go_loop [3] (fun i=>∃k:Nat,k<=s.size/\i=XJ k/\Hid (OV s k)) (fun i=>s.size -(intOf i).toNat)
 case atStart=>exact⟨0,Nat.zero_le _,rfl,fun i _ h=>by omega⟩
 case round=>
  obtain⟨k,hk,rfl,zB⟩:=hrel;by_cases hlt:k<s.size
  ·by_cases b1:(s[k].toNat:Int)<33
   ·have zC:decide ((s[k].toNat:Int)<33)=true:=by simpa using b1
    go_wp2;go_ret;exact⟨Ao (by unfold CH;rw[EL hlt (by omega)];simp),rfl⟩
   ·have zC:decide ((s[k].toNat:Int)<33)=false:=by simpa using b1
    by_cases b2:(126:Int)<(s[k].toNat:Int)
    ·have zE:decide ((126:Int)<(s[k].toNat:Int))=true:=by simpa using b2
     go_wp2;go_ret;exact⟨Ao (by unfold CH;rw[EL hlt (by omega)];simp),rfl⟩
    ·have zE:decide ((126:Int)<(s[k].toNat:Int))=false:=by simpa using b2
     have HU:Hid _:=KR zB hlt (by omega) (by omega);go_wp2;exact⟨⟨k+1,by omega,by go_num,HU⟩,by simp[intOf];omega⟩
  ·have zA:=Hx (s:=s) (fun i hi=>zB i hi (by omega))
   by_cases h1:1<=s.size
   ·go_wp2
    go_ret;refine⟨Ao ?_,rfl⟩;unfold CH;rw[zA,Bool.and_true];simp[h1];omega
   ·have zF:decide ((1:Int)<=(s.size:Int))=false:=by simp;omega
    go_wp2;go_ret;exact⟨Ao (by unfold CH;rw[decide_eq_false (by omega)];rfl),rfl⟩
structure Kd where
 sum:ByteArray
 born:Int
 text:ByteArray
 refs:List ByteArray
structure Pd where
 name:ByteArray
 sum:ByteArray
structure Ld where
 num:Int
 sum:ByteArray
 til:Int
def JB (w:World) (B:Nat) (b o:Nat) (k:Kd):Prop:=
 w.cell? (XL b o)=some (.string k.sum)/\w.cell? (XL b (o+1))=some (XJ k.born)/\w.cell? (XL b (o+2))=some (.string k.text)/\
  ∃ra rc,w.cell? (XL b (o+3))=some (.slice ra k.refs.length rc)/\Ae w B ra k.refs
def Bx (w:World) (B:Nat) (a:Option Addr) (ks:List Kd):Prop:=
 ks=[]∨∃b off,a=some ⟨b,off,none⟩/\b<B/\∀i k,ks[i]?=some k->JB w B b (off+i *4) k
def AQ (w:World) (B:Nat) (a:Option Addr) (ps:List Pd):Prop:=
 ps=[]∨∃b off,a=some ⟨b,off,none⟩/\b<B/\∀i p,ps[i]?=some p->w.cell? (XL b (off+i *2))=some (.string p.name)/\w.cell? (XL b (off+i *2+1))=some (.string p.sum)
def AR (w:World) (B:Nat) (a:Option Addr) (ls:List Ld):Prop:=
 ls=[]∨∃b off,a=some ⟨b,off,none⟩/\b<B/\∀i l,ls[i]?=some l->w.cell? (XL b (off+i *3))=some (XJ l.num)/\w.cell? (XL b (off+i *3+1))=some (.string l.sum)/\w.cell? (XL b (off+i *3+2))=some (XJ l.til)
theorem JB.below {w w':World} {B b o:Nat} {k:Kd} (h:JB w B b o k) (hb:Below B w w') (zA:b<B):JB w' B b o k:=by
 obtain⟨h1,h2,h3,ra,rc,h4,h5⟩:=h;exact⟨(hb.cell (p:=⟨b,o,none⟩) zA).trans h1,(hb.cell (p:=⟨b,o+1,none⟩) zA).trans h2,(hb.cell (p:=⟨b,o+2,none⟩) zA).trans h3,ra,rc,(hb.cell (p:=⟨b,o+3,none⟩) zA).trans h4,h5.below hb⟩
theorem JB.mono {w:World} {B B' b o:Nat} {k:Kd} (h:JB w B b o k) (hb:B<=B'):JB w B' b o k:=by
 obtain⟨h1,h2,h3,ra,rc,h4,h5⟩:=h;exact⟨h1,h2,h3,ra,rc,h4,h5.mono hb⟩
theorem Bx.below {w w':World} {B:Nat} {a:Option Addr} {ks:List Kd} (h:Bx w B a ks) (hb:Below B w w'):Bx w' B a ks:=by
 rcases h with h|⟨b,off,ha,zA,hc⟩
 ·exact .inl h
 ·exact .inr ⟨b,off,ha,zA,fun i k hk=>(hc i k hk).below hb zA⟩
theorem Bx.mono {w:World} {B B':Nat} {a:Option Addr} {ks:List Kd} (h:Bx w B a ks) (hb:B<=B'):Bx w B' a ks:=by
 rcases h with h|⟨b,off,ha,zA,hc⟩
 ·exact .inl h
 ·exact .inr ⟨b,off,ha,by omega,fun i k hk=>(hc i k hk).mono hb⟩
theorem Bx.at {w:World} {B:Nat} {a:Option Addr} {ks:List Kd} (h:Bx w B a ks) {i:Nat} (hi:i<ks.length):
 ∃b off,a=some ⟨b,off,none⟩/\b<B/\∀i k,ks[i]?=some k->JB w B b (off+i *4) k:=by
 rcases h with h|h
 ·subst h;simp at hi
 ·exact h
theorem AQ.below {w w':World} {B:Nat} {a:Option Addr} {ps:List Pd} (h:AQ w B a ps) (hb:Below B w w'):AQ w' B a ps:=by
 rcases h with h|⟨b,off,ha,zA,hc⟩
 ·exact .inl h
 ·exact .inr ⟨b,off,ha,zA,fun i k hk=>⟨(hb.cell (p:=⟨b,off+i *2,none⟩) zA).trans (hc i k hk).1,(hb.cell (p:=⟨b,off+i *2+1,none⟩) zA).trans (hc i k hk).2⟩⟩
theorem AQ.mono {w:World} {B B':Nat} {a:Option Addr} {ps:List Pd} (h:AQ w B a ps) (hb:B<=B'):AQ w B' a ps:=by
 rcases h with h|⟨b,off,ha,zA,hc⟩
 ·exact .inl h
 ·exact .inr ⟨b,off,ha,by omega,hc⟩
theorem AQ.at {w:World} {B:Nat} {a:Option Addr} {ps:List Pd} (h:AQ w B a ps) {i:Nat} (hi:i<ps.length):
 ∃b off,a=some ⟨b,off,none⟩/\b<B/\∀i p,ps[i]?=some p->w.cell? (XL b (off+i *2))=some (.string p.name)/\w.cell? (XL b (off+i *2+1))=some (.string p.sum):=by
 rcases h with h|h
 ·subst h;simp at hi
 ·exact h
theorem AR.below {w w':World} {B:Nat} {a:Option Addr} {ls:List Ld} (h:AR w B a ls) (hb:Below B w w'):AR w' B a ls:=by
 rcases h with h|⟨b,off,ha,zA,hc⟩
 ·exact .inl h
 ·exact .inr ⟨b,off,ha,zA,fun i k hk=>⟨(hb.cell (p:=⟨b,off+i *3,none⟩) zA).trans (hc i k hk).1,(hb.cell (p:=⟨b,off+i *3+1,none⟩) zA).trans (hc i k hk).2.1,(hb.cell (p:=⟨b,off+i *3+2,none⟩) zA).trans (hc i k hk).2.2⟩⟩
theorem AR.mono {w:World} {B B':Nat} {a:Option Addr} {ls:List Ld} (h:AR w B a ls) (hb:B<=B'):AR w B' a ls:=by
 rcases h with h|⟨b,off,ha,zA,hc⟩
 ·exact .inl h
 ·exact .inr ⟨b,off,ha,by omega,hc⟩
theorem AR.at {w:World} {B:Nat} {a:Option Addr} {ls:List Ld} (h:AR w B a ls) {i:Nat} (hi:i<ls.length):
 ∃b off,a=some ⟨b,off,none⟩/\b<B/\∀i l,ls[i]?=some l->w.cell? (XL b (off+i *3))=some (XJ l.num)/\w.cell? (XL b (off+i *3+1))=some (.string l.sum)/\w.cell? (XL b (off+i *3+2))=some (XJ l.til):=by
 rcases h with h|h
 ·subst h;simp at hi
 ·exact h
structure Xn (ks:List Kd):Prop where
 len:ks.length<=1048576
 refs:∀k∈ks,k.refs.length<=1048576
 text:∀k∈ks,k.text.size<=maxLen
 sum:∀k∈ks,k.sum.size<=maxLen
def less (a b:ByteArray):Bool:=Op.bytesLess a.toList b.toList
def OW (k:Kd) (wd:Int):ByteArray:=Ec (AF k.text k.refs wd).data.toList wd.toNat
structure Vq (wd now given births:Int):Prop where
 wd1:1<=wd
 wd2:wd<=8
 now1:0<=now
 now2:now<=1000000000
 given1:0<=given
 given2:given<=1000000000
 births1:0<=births
 births2:births<=1000000000
structure Wz (wd:Int) (ks:List Kd) (i:Nat) (k:Kd):Prop where
 ok:AH k.text k.refs wd=true
 sum:k.sum=OW k wd
 up:∀j p,i=j+1->ks[j]?=some p->less p.sum k.sum=true
structure Vr (births:Int) (ks:List Kd) (i:Nat) (k:Kd):Prop where
 lo:1<=k.born
 hi:k.born<=births
 new:∀j p,j<i->ks[j]?=some p->p.born≠k.born
def Au (ks:List Kd) (s:ByteArray):Prop:=∃u∈ks,u.sum=s
def VY (ks:List Kd) (k:Kd):Prop:=∀r∈k.refs,∃u∈ks,u.sum=r/\u.born<k.born
structure VZ (ks:List Kd) (ps:List Pd) (i:Nat) (p:Pd):Prop where
 name:CH p.name=true
 up:∀j q,i=j+1->ps[j]?=some q->less q.name p.name=true
 sum:Au ks p.sum
structure Uq (now given:Int) (ks:List Kd) (ls:List Ld) (i:Nat) (l:Ld):Prop where
 lo:1<=l.num
 hi:l.num<=given
 up:∀j q,i=j+1->ls[j]?=some q->q.num<l.num
 sum:Au ks l.sum
 til1:now<l.til
 til2:l.til<=now+100000
structure WU (wd now given births:Int) (ks:List Kd) (ps:List Pd) (ls:List Ld):Prop where
 nums:Vq wd now given births
 nth:ks.length<=600
 np:ps.length<=100
 nl:ls.length<=200
 th:∀(i:Nat) k,ks[i]?=some k->Wz wd ks i k
 born:∀(i:Nat) k,ks[i]?=some k->Vr births ks i k
 ref:∀(i:Nat) k,ks[i]?=some k->VY ks k
 pin:∀(i:Nat) p,ps[i]?=some p->VZ ks ps i p
 lease:∀(i:Nat) l,ls[i]?=some l->Uq now given ks ls i l
def Xj (ks:List Kd) (s:ByteArray):Option Kd:=ks.find? (fun k=>decide (k.sum=s))
theorem Ml {w:World} {base:Nat} {v:Value} {n:Nat} {xs:List Value} (h:w.ownsRow base 9 1 v n xs) (hn:v≠XN):∃g cap,v=.slice (some ⟨g,0,none⟩) n cap:=by
 rcases Joins.ownsRow_forms h with⟨e,_⟩|hf
 ·exact absurd e hn
 ·exact hf
theorem Ae.cellsV {w:World} {B g:Nat} {ss:List ByteArray} (h:Ae w B (some ⟨g,0,none⟩) ss):∀j u,(ss.map Value.string)[j]?=some u->w.cell? ((⟨g,0,none⟩:Addr).add j)=some u:=by
 intro j u hu;rw[List.getElem?_map] at hu;cases hs:ss[j]? with
 |none=>rw[hs] at hu;cases hu
 |some s=>
  rw[hs] at hu;cases hu;rcases h with h|⟨b,off,h1,_,h3⟩
  ·subst h;simp at hs
  ·cases h1
   have:=h3 j s hs;rw[Go.WideShapes.add_plain];simpa using this
theorem OY (ss:List ByteArray):∀u∈ss.map Value.string,u.oneCell'=true:=fun u hu=>by obtain⟨s,_,rfl⟩:=List.mem_map.1 hu;rfl
section
def kB (s:ByteArray) (i:Nat):Int:=((s.data.toList[i]?).getD 0).toNat
def CF (s:ByteArray):Array Value:= #[.int .u8 (kB s 0),.int .u8 (kB s 1),.int .u8 (kB s 2),.int .u8 (kB s 3),.int .u8 (kB s 4),.int .u8 (kB s 5),.int .u8 (kB s 6),.int .u8 (kB s 7)]
def Ca:Array Value:= #[.int .u8 0,.int .u8 0,.int .u8 0,.int .u8 0,.int .u8 0,.int .u8 0,.int .u8 0,.int .u8 0]
def KT (s:ByteArray):List Value:=List.take (Nat.min s.size 8) (List.map (fun b=>Value.int .u8 b.toNat) s.data.toList)
theorem Bv (s:ByteArray):s.data.toList.length=s.size:=by simp
theorem JC (s:ByteArray):(KT s).length=min s.size 8:=by
 have:=Bv s;simp only[KT,List.length_take,List.length_map,this];show min (min s.size 8) s.size=_;omega
theorem Ur (s:ByteArray) (i:Nat) (h:i<min s.size 8):(KT s)[i]?=some (.int .u8 (kB s i)):=by
 have hs:=Bv s;unfold KT kB;rw[List.getElem?_take_of_lt (by show i<min s.size 8;exact h),List.getElem?_map,XD (by omega)];simp
theorem Us (s:ByteArray):(Ca.toList.take (0+0)++KT s++Ca.toList.drop (0+0+(KT s).length)).toArray=CF s:=by
 apply Array.ext';apply List.ext_getElem?;intro i;have hl:=JC s;simp only[Nat.add_zero,List.take_zero,List.nil_append,Nat.zero_add];by_cases h:i<min s.size 8
 ·rw[List.getElem?_append_left (by omega),Ur s i h]
  have h8:i<8:=by omega
  match i,h8 with
  |0,_|1,_|2,_|3,_|4,_|5,_|6,_|7,_=>rfl
 ·rw[List.getElem?_append_right (by omega),hl,List.getElem?_drop,show min s.size 8+(i -min s.size 8)=i from by omega]
  by_cases h8:i<8
  ·have hk:kB s i=0:=by
    have hd:=Bv s;unfold kB;rw[List.getElem?_eq_none (by omega)];rfl
   match i,h8,hk with
   |0,_,hk|1,_,hk|2,_,hk|3,_,hk|4,_,hk|5,_,hk|6,_,hk|7,_,hk=>simp[Ca,CF,hk]
  ·rw[List.getElem?_eq_none (by simp[Ca];omega),List.getElem?_eq_none (by simp[CF];omega)]
theorem Mm (w:World) (a b:Array Value) (t:TypeId):(w.alloc (.cells a t)).setRow w.heap.size b=w.alloc (.cells b t):=by
 unfold World.setRow World.alloc;congr 1;apply Array.ext
 ·simp
 ·intro i h1 h2
  simp only[Array.getElem_modify,Array.getElem_push];split
  ·rename_i h
   subst h;simp
  ·rename_i h
   simp at h2;rw[dif_pos (by omega),dif_pos (by omega)]
theorem Mn (w:World) (s:ByteArray) (ty:TypeId):
 (Builtin.copy_ #[143,9] ty #[.slice (some ⟨w.heap.size,0,none⟩) 8 8,.string s]).run prog (w.alloc (.cells Ca 139))=.ok (goInt (Nat.min s.size 8)) (w.alloc (.cells (CF s) 139)):=by
 obtain⟨i0,hi,zB,zC,zE⟩:=info_parts KK;have zA:=run_storeCells_at (P:=prog) w.heap.size 0 139 (KT s) 0 Ca (w.alloc (.cells Ca 139)) (heap_alloc_new w _) (by rw[JC];simp[Ca];omega) (fun v hv=>by
  have hv:=List.mem_of_mem_take hv;simp only[List.mem_map] at hv;obtain⟨_,_,rfl⟩:=hv;rfl)
 rw[Us,Mm] at zA;unfold KT at zA;simp[Builtin.copy_,run_underlying underlying143,Builtin.lenOf,Builtin.firstCells,sizeOf,typeInfo,hi,zA,Result.andThen]
def Cc (s:ByteArray):Value:=.agg (CF s)
theorem GS (s:ByteArray) (w:World):
 Calls prog 135 #[.string s] w fun e w'=>e=.returned (Cc s)/\Xz w w':=by
 have zA:∀ty,(Builtin.copy_ #[143,9] ty #[.slice (some ⟨w.heap.size+1,0,none⟩) 8 8,.string s]).run prog ((w.alloc (.cells Ca 139)).alloc (.cells Ca 139))=.ok (goInt (Nat.min s.size 8)) ((w.alloc (.cells Ca 139)).alloc (.cells (CF s) 139)):=fun ty=>by
  have:=Mn (w.alloc (.cells Ca 139)) s ty;rwa[show(w.alloc (.cells Ca 139)).heap.size=w.heap.size+1 from by simp] at this
 unfold CF Ca at zA;go_enter func135,ntmps135;go_wp2;refine bodyPost_ret (v:=Cc s) (by simp[results,results135,go_sem,Cc,CF]) rfl ⟨rfl,?_⟩;exact(XA).alloc (by simp) _
theorem Wa (s:ByteArray) (i:Nat):0<=kB s i/\kB s i<256:=by
 unfold kB;have:=((s.data.toList[i]?).getD 0).toNat_lt;omega
theorem Wb (s:ByteArray) (i:Nat):(Lit.int .u8 (kB s i)).wf=true:=by
 have:=Wa s i;have e1:IntKind.u8.min=0:=by decide
 have e2:IntKind.u8.max=255:=by decide
 simp only[Lit.wf,e1,e2,Bool.and_eq_true,decide_eq_true_eq];omega
theorem Vs:prog.keyType 139=true:=by kernel_rfl
theorem TZ:prog.cellsOf 139=8:=by kernel_rfl
theorem Wc:prog.cellsOf 5=1:=by kernel_rfl
theorem SE:prog.underlying 139=some (.array 8 5):=by kernel_rfl
theorem Vt:∃n,prog.types.size=n+1:=⟨prog.types.size -1,by kernel_rfl⟩
theorem Mo (s:ByteArray):∃l,keyOf prog 139 (Cc s)=some l:=by
 obtain⟨n,hn⟩:=Vt;unfold keyOf;rw[SE,hn];simp only[Vs,Cc,Value.formed,SE,TZ,CF];simp[Value.cells,Program.keyLits,TZ,Wc,List.range_succ,Wb]
noncomputable def keyL (s:ByteArray):Lit:=(Mo s).choose
theorem Ee (s:ByteArray):keyOf prog 139 (Cc s)=some (keyL s):=(Mo s).choose_spec
theorem Wd:laidOutB prog=true:=by kernel_rfl
theorem keyed:Maps.Keyed prog 139:=Maps.Keyed.of_law (deep_law_gate Wd (of_decide_eq_true (by kernel_rfl)) (of_decide_eq_true (by kernel_rfl)) Vs (by rw[SE]))
theorem IF {s t:ByteArray} (h:keyL s=keyL t) (he:s.size=t.size) (h8:s.size<=8):s=t:=by
 have h2:=Ee t;rw[←h] at h2;have hv:=keyed.inj (Ee s) h2;clear h2 h;have hk:∀i,i<8->kB s i=kB t i:=by
  simp only[Cc,CF,Value.agg.injEq,Array.mk.injEq,List.cons.injEq,Value.int.injEq,true_and,and_true] at hv;obtain⟨e0,e1,e2,e3,e4,e5,e6,e7⟩:=hv;intro i hi
  match i,hi with
  |0,_=>exact e0
  |1,_=>exact e1
  |2,_=>exact e2
  |3,_=>exact e3
  |4,_=>exact e4
  |5,_=>exact e5
  |6,_=>exact e6
  |7,_=>exact e7
 have hs:=Bv s;have ht:=Bv t;have hl:s.data.toList=t.data.toList:=by
  apply List.ext_getElem?;intro i;by_cases hi:i<s.size
  ·have:=hk i (by omega)
   unfold kB at this;rw[XD (by omega),XD (by omega)] at this ⊢;simp only[Option.getD_some] at this;congr 1;exact UInt8.toNat_inj.1 (by omega)
  ·rw[List.getElem?_eq_none (by omega),List.getElem?_eq_none (by omega)]
 cases s;cases t;simp only[Array.toList_inj] at hl;rw[hl]
open Classical in
noncomputable def upd (f:Lit->Option Value) (kl:Lit) (v:Value):Lit->Option Value:=fun x=>if x=kl then some v else f x
theorem Ds (f:Lit->Option Value) (kl:Lit) (v:Value):upd f kl v kl=some v:=by simp[upd]
theorem Dl (f:Lit->Option Value) {kl x:Lit} (v:Value) (h:x≠kl):upd f kl v x=f x:=by simp[upd,h]
def Mf (v:Value):Option (DataW Value×List MemPlace):=some (.held v,[])
def Bb (w:World) (K:TypeId) (b n:Nat) (f:Lit->Option Value):Prop:=
 ∃D:DataW Value,w.ownsMap prog K Mf b n D/\(∀kl z,D.atKey kl (.held z)=.held ((f kl).getD z))/\∀kl,Maps.has D kl=(f kl).isSome
theorem Bb.new (w:World) (K:TypeId):Bb (w.alloc (.map #[] 0)) K w.heap.size 0 (fun _=>none):=
 ⟨.map [],World.ownsMap_made _ _ _ _,fun _ _=>rfl,fun _=>rfl⟩
theorem Bb.keep {w w':World} {K:TypeId} {b n:Nat} {f:Lit->Option Value} (h:Bb w K b n f) {B:Nat} (hb:Below B w w') (hB:b<B):Bb w' K b n f:=by
 obtain⟨D,⟨es,clock,h1,h2⟩,h3⟩:=h;exact⟨D,⟨es,clock,(hb.block b hB).trans h1,h2⟩,h3⟩
theorem Bb.lt {w:World} {K:TypeId} {b n:Nat} {f:Lit->Option Value} (h:Bb w K b n f):b<w.heap.size:=h.choose_spec.1.lt
theorem Bb.put {w:World} {K t e:TypeId} {b n:Nat} {f:Lit->Option Value} (h:Bb w K b n f) (hK:Maps.Keyed prog K) (ht:prog.underlying t=some (.map K e)) (hn:n<maxLen) {key val:Value} {kl:Lit} (zA:keyOf prog K key=some kl):
 ∃w',(Instr.mapUpdate t (.map (some b)) key val).run prog w=.ok () w'/\Bb w' K b (n+1) (upd f kl val)/\w.grownBy w' (some b):=by
 obtain⟨D,h1,h2,h3⟩:=h;obtain⟨w',hr,ho,hg⟩:=h1.update hK ht hn zA (d:=.held val) (ps:=[]) (val:=val) rfl;have hm:=h1.isMap;have zB:=hK.key zA;refine⟨w',hr,⟨_,ho,fun x z=> ?_,fun x=> ?_⟩,hg⟩
 ·by_cases hx:x=kl
  ·subst hx;rw[Maps.atKey_put_same hm zB,Ds];rfl
  ·rw[Maps.atKey_put_other hx,Dl _ _ hx];exact h2 x z
 ·by_cases hx:x=kl
  ·subst hx;rw[Maps.has_put_same hm zB,Ds];rfl
  ·rw[Maps.has_put_other hx,Dl _ _ hx];exact h3 x
theorem Bb.look {w:World} {K t e:TypeId} {b n:Nat} {f:Lit->Option Value} (h:Bb w K b n f) (hK:Maps.Keyed prog K) (ht:prog.underlying t=some (.map K e)) {z:Value} (hz:(zeroValue e).run prog w=.ok z w) {key:Value} {kl:Lit} (zA:keyOf prog K key=some kl):
 (Instr.lookup t (.map (some b)) key false).run prog w=.ok ((f kl).getD z) w:=by
 obtain⟨D,h1,h2,_⟩:=h;obtain⟨v,ps,hr,hv⟩:=h1.lookup hK ht hz (zd:=.held z) (zp:=[]) rfl zA;rw[h2] at hv;simp only[Mf,Option.some.injEq,Prod.mk.injEq,DataW.held.injEq] at hv;rw[hr,hv.1]
theorem Bb.look_ok {w:World} {K t e:TypeId} {b n:Nat} {f:Lit->Option Value} (h:Bb w K b n f) (hK:Maps.Keyed prog K) (ht:prog.underlying t=some (.map K e)) {z:Value} (hz:(zeroValue e).run prog w=.ok z w) {key:Value} {kl:Lit} (zA:keyOf prog K key=some kl):
 (Instr.lookup t (.map (some b)) key true).run prog w=.ok (.tuple #[(f kl).getD z,.bool (f kl).isSome]) w:=by
 obtain⟨D,h1,h2,h3⟩:=h;obtain⟨v,ps,hr,hv⟩:=h1.look_ok hK ht hz (zd:=.held z) (zp:=[]) rfl zA;rw[h2] at hv;simp only[Mf,Option.some.injEq,Prod.mk.injEq,DataW.held.injEq] at hv;rw[hr,hv.1,h3]
end
end Go.Proofs.YtpekbmegopfhfaaGreatDoor
