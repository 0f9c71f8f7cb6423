import Derived.Test.YtdgblkklkaklhaaGreatDoorX01
import Derived.Lib.SmallJoins
import Derived.OneCell
import Derived.Deep.DeepCutAuto
import Derived.Laws.CopyRow
import Derived.Maps.OwnSet
import Derived.DeepKeys5
set_option maxRecDepth 100000
set_option maxHeartbeats 16000000
namespace Go.Proofs.YtdgblkklkaklhaaGreatDoor
open Go.ChangeShapes Go.WideShapes Go.ChangeAt Go.RowKit _root_.Go.Proofs.Tryz
def flat(ss:Zl):List UInt8:=ss.flatMap (fun s=>s.data.toList)
theorem Sa(a:Zl)(k:Nat)(s:Zi)(h:a[k]?=some s):flat (a.take (k+1))=flat (a.take k)++s.data.toList:=by obtain⟨b,rfl⟩:=Zw h;unfold flat;rw[Zu b,List.flatMap_append];simp
theorem Dl(a:Zl):(flat a).length=aw a:=by
 induction a with
 |nil=>rfl
 |cons s r ih=>
  unfold flat aw at *
  rw[List.flatMap_cons,List.length_append,ih];simp
def BB(t:Zi)(ss:Zl):List UInt8:=UInt8.ofNat ss.length::(flat ss++t.data.toList)
theorem Sb{c:Int}{b:Zl}(h:Ds c b=true){i:Nat}{s:Zi}(a:b[i]?=some s):(s.size:Int)=c:=by unfold Ds at h;rw[List.all_eq_true]at h;have d:=(Zw a).1;have:=h i (by simpa using d);unfold FP at this;rw[a]at this;simp at this;exact this.1
theorem Qo(a:Zl)(n:Nat)(h:∀s∈a,s.size=n):aw a=a.length *n:=by
 induction a with
 |nil=>simp[aw]
 |cons s r ih=>
  have b:=h s (by simp);have c:=ih (fun s d=>h s (by simp[d]));unfold aw at *
  rw[List.map_cons,List.sum_cons,c,b,List.length_cons,Nat.add_mul,Nat.one_mul,Nat.add_comm]
structure Fg (t:Zi) (ss:Zl) (wd:Int):Prop where
 lo:1<=wd
 hi:wd<=8
 text:t.size<=2000
 refs:ss.length<=30
 all:Ds wd ss=true
theorem BA{t:Zi}{a:Zl}{b:Int}(h:AJ t a b=true):Fg t a b:=by unfold AJ at h;simp at h;exact⟨h.1.1,h.1.2,h.2.1,h.2.2.1,h.2.2.2⟩
theorem Fg.size{t:Zi}{ss:Zl}{a:Int}(h:Fg t ss a){i:Nat}{s:Zi}(b:ss[i]?=some s):(s.size:Int)=a:=Sb h.all b
theorem Fg.aw{t:Zi}{a:Zl}{b:Int}(h:Fg t a b):aw a=a.length *b.toNat:=by refine Qo a _ fun s d=> ?_;obtain⟨i,c⟩:=List.getElem?_of_mem d;have:=h.size c;omega
theorem Fg.az{t:Zi}{a:Zl}{b:Int}(h:Fg t a b):YtdgblkklkaklhaaGreatDoor.aw a<=240:=by have c:=h.aw;have d:a.length *b.toNat<=30 *8:=Nat.mul_le_mul h.refs (by have:=h.hi;omega);omega
theorem LN:(prog.info? 5).map (fun i=>(i.zero,i.size,i.bytes))=some (some (.int .u8 0),1,1):=by kernel_rfl
theorem IQ(n:Nat)(h:n<=30):Value.int .u8 (n:Int)=.int .u8 ((UInt8.ofNat n).toNat:Int):=by
 have:(UInt8.ofNat n).toNat=n:=by simp;omega
 rw[this]
theorem LO(a:Zl)(k:Nat)(s:Zi)(h:a[k]?=some s)(c:UInt8):
 Lib.byteCells (c::flat (a.take k))++Lib.strCells s=Lib.byteCells (c::flat (a.take (k+1))):=by
 rw[Sa a k s h,Lib.strCells_eq,←Lib.byteCells_append];rfl
theorem LP(t:Zi)(a:Zk)(q:Nat)(d:Zl)(R:Int)(w:Zh)(r:Ad w w.heap.size a d)(H:AJ t d R=true):
 Calls prog 84 #[.agg #[.string t,.slice a d.length q],Zg R] w fun e w'=>e=.returned (.string ⟨(BB t d).toArray⟩)/\Zz w w':=by
 have O:=BA H;have zJ:=O.az;have F:=O.refs;have S:=O.text;have zM:=Yx (IQ d.length F);obtain⟨V,U,I,J,K⟩:=info_parts LN;have G:Below w.heap.size w (w.alloc (.cells #[.string t,.slice a d.length q] 58)):=Zy;go_enter func84,ntmps84;go_wp2_with fail;refine(CX t a q d R _ (r.af G) (by omega) (by unfold maxLen;omega)).mono ?_;rintro e y ⟨rfl,v⟩;rw[H];obtain⟨Y,zB⟩:=Jz v;have Q:=v.size;simp at Q;go_wp2
 have o:(y.alloc (.cells #[.int .u8 d.length] 5)).ownsRow (w.heap.size+1) 5 1 (Za y.heap.size 1 1) 1 (Lib.byteCells (UInt8.ofNat d.length::flat (d.take 0))):=by have:=World.ownsRow_lit (base:=w.heap.size+1) (e:=5) (size:=1) y #[.int .u8 d.length] 1 Q (by simp[maxLen]) rfl;simpa [Lib.byteCells,flat,IQ d.length F]using this
 have n:Below (w.heap.size+1) (w.alloc (.cells #[.string t,.slice a d.length q] 58)) (y.alloc (.cells #[.int .u8 d.length] 5)):=by have:=v.alloc (by simpa using Q) (.cells #[.int .u8 d.length] 5);simpa using this
 go_loopw [5,6] (fun zH i wr=>∃(k g c:Nat),k<=d.length/\i=Zg k/\zH=Za g (1+aw (d.take k)) c/\
  wr.ownsRow (w.heap.size+1) 5 1 (Za g (1+aw (d.take k)) c) (1+aw (d.take k)) (Lib.byteCells (UInt8.ofNat d.length::flat (d.take k)))/\
  Below (w.heap.size+1) (w.alloc (.cells #[.string t,.slice a d.length q] 58)) wr) (fun _ i _=>d.length -(intOf i).toNat)
 case atStart=>exact⟨0,y.heap.size,1,Nat.zero_le _,rfl,by simp[aw],by simpa [aw]using o,n⟩
 case round=>
  clear o n Y zB v;obtain⟨k,g,c,D,rfl,rfl,m,h⟩:=hrel;have u:wr.cell? (Ze (w.heap.size) 1)=some (.slice a d.length q):=by rw[h.cell (p:=⟨w.heap.size,1,none⟩) (by simp)];simp
  have zG:=h.size;simp at zG;have zI:=az d k;by_cases hlt:k<d.length
  ·obtain⟨b,L,ha,X,T⟩:=r.at hlt;subst ha;have B:Hid (d[k]?=some d[k]):=Zv hlt;have Z:wr.cell? (Ze b (L+k))=some (.string d[k]):=by rw[h.cell (p:=⟨b,L+k,none⟩) (by simp;omega),World.cell?_alloc_past _ _ _ X];exact T k _ B
   have A:=Yx (FY d k _ B);have zC:=Yx (LO d k _ B (UInt8.ofNat d.length));have E:=az d (k+1);rw[A.o]at E;clear T r;generalize d[k]=s at *
   go_wp2_with (at_builtin;refine Lib.wpList_append_own_string _ rfl _ _ 133 9 rfl (w.heap.size+1) 5 V underlying133 underlying9 U I J K _ _ _ rfl m s rfl ?c3 ?c4 ?c5 ?_)
   case c3=>unfold maxLen;omega
   case c4=>omega
   case c5=>omega
   intro v' W f l _;obtain⟨N,M,C,zE,zF⟩:=f.form (by omega);subst C;have z:=h.grown l (by omega) (fun k D=>(m.lt k D).1);rw[zC.o]at f;clear m h l u Z;go_wp2;refine⟨⟨k+1,N,M,by omega,by go_num,?_,?_,z⟩,by simp[intOf];omega⟩
   ·rw[A.o,Nat.add_assoc]
   ·rw[A.o,←Nat.add_assoc];exact f
  ·have x:wr.cell? (Ze (w.heap.size) 0)=some (.string t):=by rw[h.cell (p:=⟨w.heap.size,0,none⟩) (by simp)];simp
   rw[Zt (by omega)]at m ⊢;go_wp2_with (at_builtin;refine Lib.wpList_append_own_string _ rfl _ _ 133 9 rfl (w.heap.size+1) 5 V underlying133 underlying9 U I J K _ _ _ rfl m t rfl ?c3 ?c4 ?c5 ?_)
   case c3=>unfold maxLen;omega
   case c4=>omega
   case c5=>omega
   intro v' W f l _;obtain⟨N,M,C,zE,zF⟩:=f.form (by omega);subst C;have z:=h.grown l (by omega) (fun k D=>(m.lt k D).1);have zA:Lib.byteCells (UInt8.ofNat d.length::flat d)++Lib.strCells t=Lib.byteCells (BB t d):=by rw[Lib.strCells_eq,←Lib.byteCells_append];rfl
   rw[zA]at f;have hlen:1+aw d+t.size=(BB t d).length:=by have:=Dl d;simp[BB,this];omega
   rw[hlen]at f ⊢;have zK:=run_convert_bytes_back (P:=prog) W 133 9 5 ⟨N,0,none⟩ M (BB t d) underlying133 underlying5 underlying9 (fun j hj=>f.cells rfl j _ (by simp[Lib.byteCells,hj]));clear m h l u x f;go_wp2;go_ret;refine⟨rfl,?_⟩;exact G.trans (z.mono (by omega))
theorem Ud(t:Zi)(a:Zk)(c:Nat)(b:Zl)(g:Int)(w:Zh)(d:Ad w w.heap.size a b)(i:AJ t b g=false)(j:b.length<=1048576)(k:t.size<=maxLen):
 Calls prog 84 #[.agg #[.string t,.slice a b.length c],Zg g] w fun e l=>e=.returned (.string ByteArray.empty)/\Zz w l:=by
 have f:Below w.heap.size w (w.alloc (.cells #[.string t,.slice a b.length c] 58)):=Zy;go_enter func84,ntmps84;go_wp2_with fail;refine(CX t a c b g _ (d.af f) j k).mono ?_;rintro e m ⟨rfl,h⟩;rw[i];go_wp2;go_ret;exact⟨rfl,f.trans (h.mono (by simp))⟩
theorem Ue(t:Zi)(a:Zk)(c:Nat)(b:Zl)(g:Int)(w:Zh)(d:Ad w w.heap.size a b)(h:AJ t b g=false)(i:b.length<=1048576)(j:t.size<=maxLen):
 Calls prog 146 #[.agg #[.string t,.slice a b.length c],Zg g] w fun e k=>e=.returned (.string ByteArray.empty)/\Zz w k:=by
 have f:Below w.heap.size w (w.alloc (.cells #[.string t,.slice a b.length c] 58)):=Zy;go_enter func146,ntmps146;go_wp2_with fail;refine(Ec t a c b g _ (d.af f) i j).mono ?_;rintro e l ⟨rfl,rfl⟩;rw[h];go_wp2;go_ret;exact⟨rfl,f.alloc (by simp) _⟩
theorem LQ(t:Zi)(a:Zk)(h:Nat)(c:Zl)(O:Int)(w:Zh)(m:Ad w w.heap.size a c)(K:AJ t c O=true):
 Calls prog 146 #[.agg #[.string t,.slice a c.length h],Zg O] w fun e w'=>e=.returned (.string ⟨(BB t c).toArray⟩)/\Zz w w':=by
 have N:=BA K;have zA:=N.az;have R:=N.refs;have P:=N.text;have F:Below w.heap.size w (w.alloc (.cells #[.string t,.slice a c.length h] 58)):=Zy;obtain⟨W,o⟩:∃W,W=(w.alloc (.cells #[.string t,.slice a c.length h] 58)).alloc (.cells #[.string t,.slice a c.length h] 58):=⟨_,rfl⟩;have D:Below w.heap.size w W:=by rw[o];exact F.alloc (by simp) _
 have E:W.heap.size=w.heap.size+1+1:=by rw[o];simp
 have S:W.cell? (Ze (w.heap.size) 0)=some (.string t):=by rw[o];simp
 have T:W.cell? (Ze (w.heap.size) 1)=some (.slice a c.length h):=by rw[o];simp
 have j:=m.below D;have HW:=Yx o;go_enter func146,ntmps146;go_wp2_with fail;refine(Ec t a h c O _ (m.af F) (by omega) (by unfold maxLen;omega)).mono ?_;rintro e v ⟨rfl,L⟩;rw[←HW.o]at L;subst L;clear o;rw[K];have g:=Lib.fresh_isBuilder 206 5 v;have x:Below v.heap.size v (v.alloc (.cells #[.pointer none,Zc] 206)):=Zy;rw[E]at g x;go_wp2_with fail
 refine(EU (w.heap.size+1+1) (w.heap.size+1+1) [] _ _ g (by simp) (by simp[E])).mono ?_;rintro e w2 ⟨rfl,l,G⟩;have r:=x.trans G;have B:w2.cell? (Ze (w.heap.size) 1)=some (.slice a c.length h):=(r.cell (p:=⟨w.heap.size,1,none⟩) (by simp;omega)).trans T;have J:[]++[Value.int .u8 (c.length:Int)]=Lib.byteCells (UInt8.ofNat c.length::flat (c.take 0)):=by simp[Lib.byteCells,flat,IQ c.length R]
 rw[J]at l;clear g x G J;go_wp2
 go_loopw [20] (fun i wr=>∃(k:Nat),k<=c.length/\i=Zg k/\Lib.IsBuilder 206 5 (w.heap.size+1+1) (w.heap.size+1+1) (Lib.byteCells (UInt8.ofNat c.length::flat (c.take k))) wr/\
  Below (w.heap.size+1+1) v wr) (fun i _=>c.length -(intOf i).toNat)
 case atStart=>exact⟨0,Nat.zero_le _,rfl,l,r⟩
 case round=>
  clear l r B;obtain⟨k,hk,rfl,g,d⟩:=hrel;have zB:=d.size;have z:=az c k;have I:=Dl (c.take k);have u:Hid ((Lib.byteCells (UInt8.ofNat c.length::flat (c.take k))).length=1+aw (c.take k)):=by show _=_;rw[Lib.byteCells_length,List.length_cons,I];omega
  clear I;by_cases hlt:k<c.length
  ·obtain⟨b,M,ha,r,Q⟩:=j.at hlt;subst ha;have y:Hid (c[k]?=some c[k]):=Zv hlt;have X:wr.cell? (Ze b (M+k))=some (.string c[k]):=by rw[d.cell (p:=⟨b,M+k,none⟩) (by simp;omega)];exact Q k _ y
   have V:=Yx (FY c k _ y);have Y:=Yx (LO c k _ y (UInt8.ofNat c.length));have C:=az c (k+1);rw[V.o]at C;clear Q m j;generalize c[k]=s at *
   go_wp2_with fail;refine(Df (w.heap.size+1+1) (w.heap.size+1+1) _ s _ g (by rw[u.o];omega) (by omega)).mono ?_;rintro e w3 ⟨rfl,f,n⟩;rw[←Lib.strCells_eq,Y.o]at f;have q:=d.trans n;clear g d n X;go_wp2;exact⟨⟨k+1,by omega,by go_num,f,q⟩,by simp[intOf];omega⟩
  ·have A:wr.cell? (Ze (w.heap.size) 0)=some (.string t):=(d.cell (p:=⟨w.heap.size,0,none⟩) (by simp;omega)).trans S;rw[Zt (by omega)]at g u z;go_wp2_with fail;refine(Df (w.heap.size+1+1) (w.heap.size+1+1) _ t _ g (by rw[u.o];omega) (by omega)).mono ?_;rintro e w3 ⟨rfl,f,n⟩;have H:Lib.byteCells (UInt8.ofNat c.length::flat c)++Lib.byteCells t.data.toList=Lib.byteCells (BB t c):=by rw[←Lib.byteCells_append];rfl
   rw[H]at f;have q:=d.trans n;have Z:=q.size;clear g d n H u A;go_wp2_with fail;refine(Tryz.Builder_String_any (w.heap.size+1+1) (w.heap.size+1+1) _ _ f (by omega)).mono ?_;rintro e w4 ⟨rfl,U⟩;go_wp2;go_ret;exact⟨rfl,D.trans ((q.trans U).mono (by omega))⟩
def AH(t:Zi)(ss:Zl)(wd:Int):Zi:=if AJ t ss wd=true then ⟨(BB t ss).toArray⟩else ByteArray.empty
theorem LR(t:Zi)(a:Zk)(f:Nat)(b:Zl)(c:Int)(w:Zh)(d:Ad w w.heap.size a b)(g:b.length<=1048576)(h:t.size<=maxLen):
 Calls prog 84 #[.agg #[.string t,.slice a b.length f],Zg c] w fun e i=>e=.returned (.string (AH t b c))/\Zz w i:=by
 cases hok:AJ t b c with
 |true=>rw[show AH t b c=⟨(BB t b).toArray⟩from by unfold AH;rw[if_pos hok]];exact LP t a f b c w d hok
 |false=>rw[show AH t b c=ByteArray.empty from by unfold AH;rw[if_neg (by rw[hok];decide)]];exact Ud t a f b c w d hok g h
theorem LS(t:Zi)(a:Zk)(f:Nat)(b:Zl)(c:Int)(w:Zh)(d:Ad w w.heap.size a b)(g:b.length<=1048576)(h:t.size<=maxLen):
 Calls prog 146 #[.agg #[.string t,.slice a b.length f],Zg c] w fun e i=>e=.returned (.string (AH t b c))/\Zz w i:=by
 cases hok:AJ t b c with
 |true=>rw[show AH t b c=⟨(BB t b).toArray⟩from by unfold AH;rw[if_pos hok]];exact LQ t a f b c w d hok
 |false=>rw[show AH t b c=ByteArray.empty from by unfold AH;rw[if_neg (by rw[hok];decide)]];exact Ue t a f b c w d hok g h
theorem OM{a:Int}:0<=IntKind.u64.wrap a/\IntKind.u64.wrap a<18446744073709551616:=by simp[IntKind.wrap,IntKind.bits,IntKind.signed];omega
def PQ(v:Int)(b:UInt8):Int:=IntKind.u64.wrap (bits BinOp.xor IntKind.u64 v (IntKind.u64.wrap b.toNat) *1099511628211)
def EM(l:List UInt8):Int:=l.foldl PQ 14695981039346656037
theorem PR(l:List UInt8):0<=EM l/\EM l<18446744073709551616:=by
 unfold EM;rcases l.eq_nil_or_concat with rfl|⟨r,b,rfl⟩
 ·simp
 ·simp only[List.concat_eq_append,List.foldl_append,List.foldl_cons,List.foldl_nil];exact OM
theorem LU(s:Zi)(k:Nat)(h:k<s.size):EM (s.data.toList.take (k+1))=PQ (EM (s.data.toList.take k)) s[k]:=by rw[Zu (by simpa using h)];unfold EM;rw[List.foldl_append];rfl
def Dt(v:Int):Nat->List Int
 |0=>[]
 |k+1=>(v/256^k%256)::Dt v k
theorem Du(v:Int)(k:Nat):(Dt v k).length=k:=by
 induction k with
 |zero=>rfl
 |succ k ih=>simp[Dt,ih]
theorem ON(v:Int)(k:Nat):∀i,i<k->(Dt v k)[i]?=some (v/256^(k -1 -i)%256):=by
 induction k with
 |zero=>intro i h;omega
 |succ k ih=>
  intro i h
  match i with
  |0=>simp[Dt]
  |i+1=>rw[Dt,List.getElem?_cons_succ,ih i (by omega),show k -1 -i=k+1 -1 -(i+1)from by omega]
def GC(v:Int)(k:Nat):Zj:=(Dt v k).map (Value.int .u8)
theorem Kt(v:Int)(k:Nat):(GC v k).length=k:=by simp[GC,Du]
theorem Uf(v:Int)(k:Nat):v/256^k/256=v/256^(k+1):=by rw[Int.ediv_ediv_of_nonneg (Int.pow_nonneg (by decide)),Int.pow_succ]
theorem XB(v:Int)(k:Nat)(a:0<=v)(h:v<18446744073709551616):0<=v/256^k/\v/256^k<18446744073709551616:=by have b:(0:Int)<256^k:=Int.pow_pos (by decide);exact⟨Int.ediv_nonneg a (Int.le_of_lt b),Int.lt_of_le_of_lt (Int.ediv_le_self _ a) h⟩
def Ez(l:List UInt8)(n:Nat):Zi:=strOfNums (Dt (EM l) n)
theorem infoByte:(prog.info? 5).map (fun i=>(i.zero,i.size,i.bytes))=some (some (.int .u8 0),1,1):=by kernel_rfl
theorem Ug(s:Zi)(h:Int)(w:Zh)(D:s.size<=maxLen)(L:1<=h)(M:h<=8):
 Calls prog 121 #[.string s,Zg h] w fun e G=>e=.returned (.string (Ez s.data.toList h.toNat))/\Zz w G:=by
 unfold maxLen at D;obtain⟨F,n,r,t,x⟩:=info_parts infoByte;go_enter func121,ntmps121;go_wp2
 go_loop [5,6] (fun v i=>∃(k:Nat),k<=s.size/\i=Zg k/\v=.int .u64 (EM (s.data.toList.take k))) (fun _ i=>s.size -(intOf i).toNat)
 case atStart=>exact⟨0,Nat.zero_le _,rfl,rfl⟩
 case round=>
  obtain⟨k,o,rfl,rfl⟩:=hrel;by_cases hlt:k<s.size
  ·have z:=Yx (LU s k hlt);go_wp2;exact⟨⟨k+1,by omega,by go_num,by rw[z.o];rfl⟩,by simp[intOf];omega⟩
  ·have C:Hid (EM (s.data.toList.take k)=EM s.data.toList):=by show _=_;rw[Zt (by simp;omega)]
   have l:=PR (s.data.toList.take k);generalize EM (s.data.toList.take k)=V at *
   go_wp2
   go_loopw [5,7,8] (fun v y i wr=>∃(k:Nat) (g c:Nat),k<=h/\i=Zg k/\v=.int .u64 (V/256^k)/\y=Za g k c/\wr.ownsRow w.heap.size 5 1 (Za g k c) k (GC V k)/\Zz w wr/\w.heap.size<=wr.heap.size) (fun _ _ i _=>(h -intOf i).toNat)
   case atStart=>exact⟨0,_,_,by omega,rfl,by simp,rfl,World.ownsRow_lit w #[] 0 (Zx) (by simp[maxLen]) rfl,Zy,by simp⟩
   case round=>
    obtain⟨j,g,c,N,rfl,rfl,rfl,f,d,m⟩:=hrel;by_cases hlt2:j<h
    ·have I:=XB V j l.1 l.2;go_wp2_with (first
      |(at_builtin;refine wpList_append_own _ rfl _ _ 133 rfl w.heap.size 5 F (.int .u8 0) 1 1 underlying133 n r t x rfl (by decide) _ 1 [.int .u8 (V/256^j%256)] rfl ?c0 ⟨g,0,none⟩ j c (GC V j) rfl (by rw[Kt];omega) ?c1 ?c2 ?c3 ?c4 ?c5 ?_)
      |go_in)
     case c0=>exact World.ownsRow_lit wr _ 1 m (by simp[maxLen]) rfl
     case c1=>exact(f.alloc _).cells rfl
     case c2=>intro u E;obtain⟨_,_,rfl⟩:=List.mem_map.1 E;rfl
     case c3=>unfold maxLen;omega
     case c4=>omega
     case c5=>simp;omega
     intro O Q a b _;obtain⟨B,A,q,J,K⟩:=a.form (by omega);subst q;have p:=(d.alloc m _).grown b (by simp;omega) (by intro k o;simp[Value.ownBlock]at o;omega);rw[Nat.add_comm 1 j]at a ⊢;clear f d b;go_wp2;refine⟨⟨j+1,B,A,by omega,by go_num,by rw[←Uf],rfl,a,p,by omega⟩,by simp[intOf];omega⟩
    ·obtain rfl:(j:Int)=h:=by omega
     have H:=run_convert_bytes_arg (P:=prog) wr 133 5 underlying133 underlying5 g 0 j c (Dt V j) (Du V j) (fun i n=>by
      rw[Nat.zero_add,f.cellAt i (by omega)];have:=Du V j;simp[GC,List.getD,Zv (show i<(Dt V j).length by omega)]) 9 underlying9
     go_wp2;go_ret;refine⟨?_,d⟩;unfold Ez;rw[←C.o];rfl
theorem VR{k:IntKind}{a b:Int}(h:a=b):Ending.returned (.int k a)=.returned (.int k b):=by rw[h]
theorem VS(s:Zi)(w:Zh)(b:s.size<=maxLen):
 Calls prog 222 #[.string s] w fun e c=>e=.returned (.int .u64 (EM s.data.toList))/\c=w:=by
 unfold maxLen at b;go_enter func222,ntmps222;go_wp2
 go_loop [3,7] (fun v i=>∃(k:Nat),k<=s.size/\i=Zg k/\v=.int .u64 (EM (s.data.toList.take k))) (fun _ i=>s.size -(intOf i).toNat)
 case atStart=>exact⟨0,Nat.zero_le _,rfl,rfl⟩
 case round=>
  obtain⟨k,d,rfl,rfl⟩:=hrel;by_cases hlt:k<s.size
  ·have a:=Yx (LU s k hlt);go_wp2;exact⟨⟨k+1,by omega,by go_num,by rw[a.o];rfl⟩,by simp[intOf];omega⟩
  ·go_wp2;go_ret;exact⟨VR (by rw[Zt (by simp;omega)]),rfl⟩
def Ku(v wd:Int)(j:Nat):Int:=v/2^(8 *(wd -1 -(j:Int))).toNat%256
def CL(v wd:Int)(k j:Nat):Int:=if j<k then Ku v wd j else 0
def EA(v wd:Int)(k:Nat):Array Value:= #[.int .u8 (CL v wd k 0),.int .u8 (CL v wd k 1),.int .u8 (CL v wd k 2),.int .u8 (CL v wd k 3),.int .u8 (CL v wd k 4),.int .u8 (CL v wd k 5),.int .u8 (CL v wd k 6),.int .u8 (CL v wd k 7)]
theorem CU(v a:Int)(k j:Nat)(h:j<8):(EA v a k)[j]?=some (.int .u8 (CL v a k j)):=by
 match j,h with
 |0,_=>rfl|1,_=>rfl|2,_=>rfl|3,_=>rfl|4,_=>rfl|5,_=>rfl|6,_=>rfl|7,_=>rfl
theorem Qp(v a:Int):EA v a 0= #[.int .u8 0,.int .u8 0,.int .u8 0,.int .u8 0,.int .u8 0,.int .u8 0,.int .u8 0,.int .u8 0]:=by simp[EA,CL]
theorem Sc(v a:Int)(k:Nat)(h:k<8):(EA v a k).setIfInBounds k (.int .u8 (Ku v a k))=EA v a (k+1):=by
 match k,h with
 |0,_|1,_|2,_|3,_|4,_|5,_|6,_|7,_=>simp[EA,CL]
theorem Sd(v:Int)(k j:Nat)(h:j<k):Ku v k j=v/256^(k -1 -j)%256:=by unfold Ku;rw[show(8 *((k:Int) -1 -(j:Int))).toNat=8 *(k -1 -j)from by omega,Int.pow_mul];rfl
theorem Uh(v a:Int)(w:Zh)(n:1<=a)(o:a<=8)(_hv0:0<=v)(_hv:v<18446744073709551616):
 Calls prog 221 #[.int .u64 v,Zg a] w fun e b=>e=.returned (.agg (Yw (CL v a a.toNat)))/\b=(w.alloc (.cells (EA v a a.toNat) 190)).alloc (.cells (EA v a a.toNat) 190):=by
 go_enter func221,ntmps221;go_wp2
 go_loopw [8] (fun i wr=>∃k:Nat,k<=a/\i=Zg k/\wr=(w.alloc (Obj.cells
  #[Value.int IntKind.u8 0,Value.int IntKind.u8 0,Value.int IntKind.u8 0,Value.int IntKind.u8 0,
   Value.int IntKind.u8 0,Value.int IntKind.u8 0,Value.int IntKind.u8 0,Value.int IntKind.u8 0]
  190)).alloc (.cells (EA v a k) 190)) (fun i _=>(a -intOf i).toNat)
 case atStart=>exact⟨0,by omega,rfl,by rw[Qp]⟩
 case round=>
  obtain⟨k,q,rfl,rfl⟩:=hrel;by_cases hlt:k<a
  ·have p:=CU v a k k (by omega);go_wp2;refine⟨⟨k+1,by omega,by go_num,?_⟩,by simp[intOf];omega⟩;have:=Sc v a k (by omega);unfold Ku at this;rw[this]
  ·obtain rfl:(k:Int)=a:=by omega
   have c:=CU v k k 0 (by omega);have d:=CU v k k 1 (by omega);have f:=CU v k k 2 (by omega);have g:=CU v k k 3 (by omega);have h:=CU v k k 4 (by omega);have j:=CU v k k 5 (by omega);have l:=CU v k k 6 (by omega);have m:=CU v k k 7 (by omega);go_wp2;exact bodyPost_ret (v:=.agg (EA v k k)) (by simp[results,results221,go_sem];rfl) rfl ⟨rfl,rfl⟩
theorem Ui(s:Zi)(a:Int)(w:Zh)(l:s.size<=maxLen)(f:1<=a)(h:a<=8):
 Calls prog 202 #[.string s,Zg a] w fun e d=>e=.returned (.string (Ez s.data.toList a.toNat))/\Zz w d:=by
 have b:=PR s.data.toList;obtain⟨n,rfl⟩:∃n:Nat,a=n:=⟨a.toNat,by omega⟩;have j:∀(W:Zh) (g:Nat),g=W.heap.size->Sem.run prog (convert 133 9 (Za g n 8)) (W.alloc (Obj.cells (EA (EM s.data.toList) n n) 190))=.ok (.string (Ez s.data.toList n)) (W.alloc (Obj.cells (EA (EM s.data.toList) n n) 190)):=fun W g k=>k▸
  run_convert_bytes_arg (P:=prog) _ 133 5 underlying133 underlying5 W.heap.size 0 n 8 (Dt (EM s.data.toList) n) (Du _ n) (fun i c=>by
   rw[Nat.zero_add,World.cell?_alloc_new,CU _ _ _ _ (by omega)];simp only[List.getD,ON _ n i c,Option.getD_some];unfold CL;rw[if_pos c,Sd _ _ _ c]) 9 underlying9
 have m:(0:Int)<=n:=by omega
 unfold EA at j;go_enter func202,ntmps202;go_wp2_with (first
  |(go_at_call 222;refine(VS s _ l).mono ?_;rintro e d ⟨rfl,rfl⟩)
  |(go_at_call 221;refine(Uh _ _ _ f h b.1 b.2).mono ?_;rintro e d ⟨rfl,rfl⟩)
  |go_in)
 go_ret;refine⟨rfl,?_⟩;exact(((Zy).alloc (by simp) _).alloc (by simp;omega) _)
def Nn(b:UInt8):Bool:=decide ((33:Int)<=(b.toNat:Int)/\(b.toNat:Int)<=126)
def nameBytes(s:Zi):Bool:=s.data.toList.all Nn
def CP(s:Zi):Bool:=decide (1<=s.size/\s.size<=40)&&nameBytes s
theorem Fm{s:Zi}{k:Nat}(a:k<s.size)(h:¬((33:Int)<=(s[k].toNat:Int)/\(s[k].toNat:Int)<=126)):nameBytes s=false:=by unfold nameBytes;rw[List.all_eq_false];refine⟨s[k],?_,by unfold Nn;simpa using h⟩;exact List.mem_of_getElem (l:=s.data.toList) (i:=k) (h:=by simpa using a) rfl
theorem IK{s:Zi}(h:∀k (a:k<s.size),(33:Int)<=(s[k].toNat:Int)/\(s[k].toNat:Int)<=126):nameBytes s=true:=by unfold nameBytes;rw[List.all_eq_true];intro b c;obtain⟨k,a,rfl⟩:=List.getElem_of_mem c;exact decide_eq_true (h k (by simpa using a))
def Qq(s:Zi)(k:Nat):Prop:=∀i (hi:i<s.size),i<k->(33:Int)<=(s[i].toNat:Int)/\(s[i].toNat:Int)<=126
theorem LV{s:Zi}{k:Nat}(h:Qq s k)(f:k<s.size)(b:(33:Int)<=(s[k].toNat:Int))(c:(s[k].toNat:Int)<=126):Qq s (k+1):=by
 intro i d e;rcases Nat.lt_or_ge i k with a|a
 ·exact h i d a
 ·obtain rfl:i=k:=by omega
  exact⟨b,c⟩
theorem Se(s:Zi)(w:Zh)(m:s.size<=maxLen):
 Calls prog 171 #[.string s] w fun e n=>e=.returned (.bool (CP s))/\n=w:=by
 unfold maxLen at m;by_cases h1:1<=s.size
 ·by_cases h2:s.size<=40
  ·have b:decide ((s.size:Int)<1)=false:=by simp;omega
   have g:decide ((40:Int)<(s.size:Int))=false:=by simp;omega
   have j:Hid (decide (1<=s.size/\s.size<=40)=true):=by show _=_;simp;omega
   go_enter func171,ntmps171;go_wp2
   go_loop [14] (fun i=>∃k:Nat,k<=s.size/\i=Zg k/\Hid (Qq s k)) (fun i=>s.size -(intOf i).toNat)
   case atStart=>exact⟨0,Nat.zero_le _,rfl,fun i _ h=>by omega⟩
   case round=>
    obtain⟨k,o,rfl,c⟩:=hrel;by_cases hlt:k<s.size
    ·by_cases b1:(s[k].toNat:Int)<33
     ·have d:decide ((s[k].toNat:Int)<33)=true:=by simpa using b1
      go_wp2;go_ret;exact⟨Aw (by unfold CP;rw[Fm hlt (by omega)];simp),rfl⟩
     ·have d:decide ((s[k].toNat:Int)<33)=false:=by simpa using b1
      by_cases b2:(126:Int)<(s[k].toNat:Int)
      ·have f:decide ((126:Int)<(s[k].toNat:Int))=true:=by simpa using b2
       go_wp2;go_ret;exact⟨Aw (by unfold CP;rw[Fm hlt (by omega)];simp),rfl⟩
      ·have f:decide ((126:Int)<(s[k].toNat:Int))=false:=by simpa using b2
       have HU:=Yx (LV c hlt (by omega) (by omega));go_wp2;exact⟨⟨k+1,by omega,by go_num,HU⟩,by simp[intOf];omega⟩
    ·have a:=IK (s:=s) (fun i l=>c i l (by omega));go_wp2;go_ret;exact⟨Aw (by unfold CP;rw[a,j.o];rfl),rfl⟩
  ·have b:decide ((s.size:Int)<1)=false:=by simp;omega
   have g:decide ((40:Int)<(s.size:Int))=true:=by simp;omega
   go_enter func171,ntmps171;go_wp2;go_ret;exact⟨Aw (by unfold CP;rw[decide_eq_false (by omega)];rfl),rfl⟩
 ·have b:decide ((s.size:Int)<1)=true:=by simp;omega
  go_enter func171,ntmps171;go_wp2;go_ret;exact⟨Aw (by unfold CP;rw[decide_eq_false (by omega)];rfl),rfl⟩
theorem LW(s:Zi)(w:Zh)(g:s.size<=maxLen):
 Calls prog 73 #[.string s] w fun e j=>e=.returned (.bool (CP s))/\j=w:=by
 unfold maxLen at g;go_enter func73,ntmps73;go_wp2
 go_loop [3] (fun i=>∃k:Nat,k<=s.size/\i=Zg k/\Hid (Qq s k)) (fun i=>s.size -(intOf i).toNat)
 case atStart=>exact⟨0,Nat.zero_le _,rfl,fun i _ h=>by omega⟩
 case round=>
  obtain⟨k,m,rfl,b⟩:=hrel;by_cases hlt:k<s.size
  ·by_cases b1:(s[k].toNat:Int)<33
   ·have c:decide ((s[k].toNat:Int)<33)=true:=by simpa using b1
    go_wp2;go_ret;exact⟨Aw (by unfold CP;rw[Fm hlt (by omega)];simp),rfl⟩
   ·have c:decide ((s[k].toNat:Int)<33)=false:=by simpa using b1
    by_cases b2:(126:Int)<(s[k].toNat:Int)
    ·have d:decide ((126:Int)<(s[k].toNat:Int))=true:=by simpa using b2
     go_wp2;go_ret;exact⟨Aw (by unfold CP;rw[Fm hlt (by omega)];simp),rfl⟩
    ·have d:decide ((126:Int)<(s[k].toNat:Int))=false:=by simpa using b2
     have HU:=Yx (LV b hlt (by omega) (by omega));go_wp2;exact⟨⟨k+1,by omega,by go_num,HU⟩,by simp[intOf];omega⟩
  ·have a:=IK (s:=s) (fun i f=>b i f (by omega));by_cases h1:1<=s.size
   ·go_wp2;go_ret;refine⟨Aw ?_,rfl⟩;unfold CP;rw[a,Bool.and_true];simp[h1];omega
   ·have l:decide ((1:Int)<=(s.size:Int))=false:=by simp;omega
    go_wp2;go_ret;exact⟨Aw (by unfold CP;rw[decide_eq_false (by omega)];rfl),rfl⟩
structure Kd where
 sum:Zi
 born:Int
 text:Zi
 refs:Zl
structure Pd where
 name:Zi
 sum:Zi
structure Ld where
 num:Int
 sum:Zi
 bf:Int
def Kv(w:Zh)(B:Nat)(b o:Nat)(k:Kd):Prop:=
 w.cell? (Ze b o)=some (.string k.sum)/\w.cell? (Ze b (o+1))=some (Zg k.born)/\w.cell? (Ze b (o+2))=some (.string k.text)/\
  ∃ra rc,w.cell? (Ze b (o+3))=some (.slice ra k.refs.length rc)/\Ad w B ra k.refs
def BH(w:Zh)(B:Nat)(a:Zk)(ks:List Kd):Prop:=
 ks=[]∨∃b off,a=some ⟨b,off,none⟩/\b<B/\∀i k,ks[i]?=some k->Kv w B b (off+i *4) k
def AS(w:Zh)(B:Nat)(a:Zk)(ps:List Pd):Prop:=
 ps=[]∨∃b off,a=some ⟨b,off,none⟩/\b<B/\∀i p,ps[i]?=some p->w.cell? (Ze b (off+i *2))=some (.string p.name)/\w.cell? (Ze b (off+i *2+1))=some (.string p.sum)
def AU(w:Zh)(B:Nat)(a:Zk)(ls:List Ld):Prop:=
 ls=[]∨∃b off,a=some ⟨b,off,none⟩/\b<B/\∀i l,ls[i]?=some l->w.cell? (Ze b (off+i *3))=some (Zg l.num)/\w.cell? (Ze b (off+i *3+1))=some (.string l.sum)/\w.cell? (Ze b (off+i *3+2))=some (Zg l.bf)
theorem Kv.below{w d:Zh}{B b o:Nat}{k:Kd}(h:Kv w B b o k)(c:Below B w d)(a:b<B):Kv d B b o k:=by obtain⟨e,f,g,l,m,i,j⟩:=h;exact⟨(c.cell (p:=⟨b,o,none⟩) a).trans e,(c.cell (p:=⟨b,o+1,none⟩) a).trans f,(c.cell (p:=⟨b,o+2,none⟩) a).trans g,l,m,(c.cell (p:=⟨b,o+3,none⟩) a).trans i,j.below c⟩
theorem Kv.mono{w:Zh}{B B' b o:Nat}{k:Kd}(h:Kv w B b o k)(g:B<=B'):Kv w B' b o k:=by obtain⟨a,c,d,i,j,e,f⟩:=h;exact⟨a,c,d,i,j,e,f.mono g⟩
theorem BH.below{w e:Zh}{B:Nat}{a:Zk}{d:List Kd}(h:BH w B a d)(j:Below B w e):BH e B a d:=by
 rcases h with h|⟨b,f,g,c,l⟩
 ·exact .inl h
 ·exact .inr ⟨b,f,g,c,fun i k m=>(l i k m).below j c⟩
theorem BH.mono{w:Zh}{B B':Nat}{a:Zk}{c:List Kd}(h:BH w B a c)(f:B<=B'):BH w B' a c:=by
 rcases h with h|⟨b,d,e,l,g⟩
 ·exact .inl h
 ·exact .inr ⟨b,d,e,by omega,fun i k j=>(g i k j).mono f⟩
theorem BH.at{w:Zh}{B:Nat}{a:Zk}{d:List Kd}(h:BH w B a d){i:Nat}(e:i<d.length):
 ∃b c,a=some ⟨b,c,none⟩/\b<B/\∀i k,d[i]?=some k->Kv w B b (c+i *4) k:=by
 rcases h with h|h
 ·subst h;simp at e
 ·exact h
theorem AS.below{w l:Zh}{B:Nat}{a:Zk}{j:List Pd}(h:AS w B a j)(e:Below B w l):AS l B a j:=by
 rcases h with h|⟨b,d,m,c,f⟩
 ·exact .inl h
 ·exact .inr ⟨b,d,m,c,fun i k g=>⟨(e.cell (p:=⟨b,d+i *2,none⟩) c).trans (f i k g).1,(e.cell (p:=⟨b,d+i *2+1,none⟩) c).trans (f i k g).2⟩⟩
theorem AS.mono{w:Zh}{B B':Nat}{a:Zk}{c:List Pd}(h:AS w B a c)(i:B<=B'):AS w B' a c:=by
 rcases h with h|⟨b,d,e,g,f⟩
 ·exact .inl h
 ·exact .inr ⟨b,d,e,by omega,f⟩
theorem AS.at{w:Zh}{B:Nat}{a:Zk}{d:List Pd}(h:AS w B a d){i:Nat}(e:i<d.length):
 ∃b c,a=some ⟨b,c,none⟩/\b<B/\∀i p,d[i]?=some p->w.cell? (Ze b (c+i *2))=some (.string p.name)/\w.cell? (Ze b (c+i *2+1))=some (.string p.sum):=by
 rcases h with h|h
 ·subst h;simp at e
 ·exact h
theorem AU.below{w l:Zh}{B:Nat}{a:Zk}{j:List Ld}(h:AU w B a j)(e:Below B w l):AU l B a j:=by
 rcases h with h|⟨b,d,m,c,f⟩
 ·exact .inl h
 ·exact .inr ⟨b,d,m,c,fun i k g=>⟨(e.cell (p:=⟨b,d+i *3,none⟩) c).trans (f i k g).1,(e.cell (p:=⟨b,d+i *3+1,none⟩) c).trans (f i k g).2.1,(e.cell (p:=⟨b,d+i *3+2,none⟩) c).trans (f i k g).2.2⟩⟩
theorem AU.mono{w:Zh}{B B':Nat}{a:Zk}{c:List Ld}(h:AU w B a c)(i:B<=B'):AU w B' a c:=by
 rcases h with h|⟨b,d,e,g,f⟩
 ·exact .inl h
 ·exact .inr ⟨b,d,e,by omega,f⟩
theorem AU.at{w:Zh}{B:Nat}{a:Zk}{d:List Ld}(h:AU w B a d){i:Nat}(e:i<d.length):
 ∃b c,a=some ⟨b,c,none⟩/\b<B/\∀i l,d[i]?=some l->w.cell? (Ze b (c+i *3))=some (Zg l.num)/\w.cell? (Ze b (c+i *3+1))=some (.string l.sum)/\w.cell? (Ze b (c+i *3+2))=some (Zg l.bf):=by
 rcases h with h|h
 ·subst h;simp at e
 ·exact h
def less(a b:Zi):Bool:=Op.bytesLess a.toList b.toList
def Qr(k:Kd)(wd:Int):Zi:=Ez (AH k.text k.refs wd).data.toList wd.toNat
structure XC (wd now given ae:Int):Prop where
 ij:1<=wd
 wd2:wd<=8
 cn:0<=now
 now2:now<=1000000000
 bi:0<=given
 given2:given<=1000000000
 ah:0<=ae
 births2:ae<=1000000000
structure Aaa (wd:Int) (ks:List Kd) (i:Nat) (k:Kd):Prop where
 ok:AJ k.text k.refs wd=true
 sum:k.sum=Qr k wd
 up:∀j p,i=j+1->ks[j]?=some p->less p.sum k.sum=true
structure XD (ae:Int) (ks:List Kd) (i:Nat) (k:Kd):Prop where
 lo:1<=k.born
 hi:k.born<=ae
 new:∀j p,j<i->ks[j]?=some p->p.born≠k.born
def Ax(ks:List Kd)(s:Zi):Prop:=∃u∈ks,u.sum=s
def YT(ks:List Kd)(k:Kd):Prop:=∀r∈k.refs,∃u∈ks,u.sum=r/\u.born<k.born
structure YU (ks:List Kd) (ps:List Pd) (i:Nat) (p:Pd):Prop where
 name:CP p.name=true
 up:∀j q,i=j+1->ps[j]?=some q->less q.name p.name=true
 sum:Ax ks p.sum
structure VT (now given:Int) (ks:List Kd) (ls:List Ld) (i:Nat) (l:Ld):Prop where
 lo:1<=l.num
 hi:l.num<=given
 up:∀j q,i=j+1->ls[j]?=some q->q.num<l.num
 sum:Ax ks l.sum
 til1:now<l.bf
 til2:l.bf<=now+100000
structure Ii (wd now given ae:Int) (ks:List Kd) (ps:List Pd) (ls:List Ld):Prop where
 du:XC wd now given ae
 nth:ks.length<=600
 np:ps.length<=100
 nl:ls.length<=200
 th:∀(i:Nat) k,ks[i]?=some k->Aaa wd ks i k
 born:∀(i:Nat) k,ks[i]?=some k->XD ae ks i k
 ref:∀(i:Nat) k,ks[i]?=some k->YT ks k
 ci:∀(i:Nat) p,ps[i]?=some p->YU ks ps i p
 lease:∀(i:Nat) l,ls[i]?=some l->VT now given ks ls i l
theorem Ke{w:Zh}{base:Nat}{v:Value}{n:Nat}{d:Zj}(h:w.ownsRow base 9 1 v n d)(c:v≠Zc):∃g a,v=Za g n a:=by
 rcases Joins.ownsRow_forms h with⟨e,_⟩|b
 ·exact absurd e c
 ·exact b
theorem Ad.cj{w:Zh}{B g:Nat}{c:Zl}(h:Ad w B (some ⟨g,0,none⟩) c):∀j u,(c.map Value.string)[j]?=some u->w.cell? ((⟨g,0,none⟩:Addr).add j)=some u:=by
 intro j u a;rw[List.getElem?_map]at a;cases hs:c[j]? with
 |none=>rw[hs]at a;cases a
 |some s=>
  rw[hs]at a;cases a;rcases h with h|⟨b,f,d,_,e⟩
  ·subst h;simp at hs
  ·cases d;have:=e j s hs;rw[Go.WideShapes.add_plain];simpa using this
theorem No(b:Zl):∀u∈b.map Value.string,u.oneCell'=true:=fun u a=>by obtain⟨s,_,rfl⟩:=List.mem_map.1 a;rfl
theorem LX(g d:Nat)(a:Zl)(w:Zh)(m:Ad w w.heap.size (some ⟨g,0,none⟩) a)(B:a.length<=1048576):
 Calls prog 134 #[Za g a.length d] w fun e n=>∃x b,e=.returned (Za x a.length b)/\
  n.ownsRow w.heap.size 9 1 (Za x a.length b) a.length (a.map Value.string)/\Zz w n:=by
 obtain⟨y,t,p,q,r⟩:=info_parts CK;have i:Below w.heap.size w (w.alloc (.cells #[] 9)):=Zy;have s:∀u:Zh,(binOp .eql 22 (Za g a.length d) Zc).run prog u=.ok (.bool false) u:=fun _=>by first|rfl|kernel_rfl
 go_enter func134,ntmps134;go_wp2_with (first
  |(at_builtin;refine wpList_append_own _ rfl _ _ 22 rfl w.heap.size 9 y Zd 1 16 underlying22 t p q r rfl (by decide) _ 0 (([]:Zl).map Value.string) rfl ?d0 ⟨g,0,none⟩ a.length d (a.map Value.string) rfl ?d1 ?d2 ?d3 ?d4 ?d5 ?d6 ?_)
  |go_in)
 case d0=>exact World.ownsRow_lit (base:=w.heap.size) (e:=9) (size:=1) w #[] 0 (Zx) (by unfold maxLen;omega) rfl
 case d1=>simp
 case d2=>exact(m.below i).cj
 case d3=>exact No a
 case d4=>unfold maxLen;omega
 case d5=>omega
 case d6=>simp
 intro z A c f h;have o:∃x b,z=Za x a.length b:=by have:=Ke c h;simpa using this
 obtain⟨x,b,rfl⟩:=o;try simp only[Nat.zero_add,List.map_nil,List.nil_append]at c
 have l:Below w.heap.size w A:=i.grown f (by simp) (fun k v=>by simp[Value.ownBlock]at v;omega);have j:=Yx (Zn c l);clear c f h l i m;go_wp2;go_ret;exact⟨x,b,rfl,j.o.1,j.o.2⟩
section
def kB(s:Zi)(i:Nat):Int:=((s.data.toList[i]?).getD 0).toNat
def CO(s:Zi):Array Value:= #[.int .u8 (kB s 0),.int .u8 (kB s 1),.int .u8 (kB s 2),.int .u8 (kB s 3),.int .u8 (kB s 4),.int .u8 (kB s 5),.int .u8 (kB s 6),.int .u8 (kB s 7)]
def Ck:Array Value:= #[.int .u8 0,.int .u8 0,.int .u8 0,.int .u8 0,.int .u8 0,.int .u8 0,.int .u8 0,.int .u8 0]
def LY(s:Zi):Zj:=List.take (Nat.min s.size 8) (List.map (fun b=>Value.int .u8 b.toNat) s.data.toList)
theorem BC(s:Zi):s.data.toList.length=s.size:=by simp
theorem Kw(s:Zi):(LY s).length=min s.size 8:=by have:=BC s;simp only[LY,List.length_take,List.length_map,this];show min (min s.size 8) s.size=_;omega
theorem VU(s:Zi)(i:Nat)(h:i<min s.size 8):(LY s)[i]?=some (.int .u8 (kB s i)):=by have a:=BC s;unfold LY kB;rw[List.getElem?_take_of_lt (by show i<min s.size 8;exact h),List.getElem?_map,Zv (by omega)];simp
theorem VV(s:Zi):(Ck.toList.take (0+0)++LY s++Ck.toList.drop (0+0+(LY s).length)).toArray=CO s:=by
 apply Array.ext';apply List.ext_getElem?;intro i;have c:=Kw s;simp only[Nat.add_zero,List.take_zero,List.nil_append,Nat.zero_add];by_cases h:i<min s.size 8
 ·rw[List.getElem?_append_left (by omega),VU s i h];have b:i<8:=by omega
  match i,b with
  |0,_|1,_|2,_|3,_|4,_|5,_|6,_|7,_=>rfl
 ·rw[List.getElem?_append_right (by omega),c,List.getElem?_drop,show min s.size 8+(i -min s.size 8)=i from by omega];by_cases b:i<8
  ·have a:kB s i=0:=by have d:=BC s;unfold kB;rw[List.getElem?_eq_none (by omega)];rfl
   match i,b,a with
   |0,_,a|1,_,a|2,_,a|3,_,a|4,_,a|5,_,a|6,_,a|7,_,a=>simp[Ck,CO,a]
  ·rw[List.getElem?_eq_none (by simp[Ck];omega),List.getElem?_eq_none (by simp[CO];omega)]
theorem Np(w:Zh)(a b:Array Value)(t:TypeId):(w.alloc (.cells a t)).setRow w.heap.size b=w.alloc (.cells b t):=by
 unfold World.setRow World.alloc;congr 1;apply Array.ext
 ·simp
 ·intro i d c;simp only[Array.getElem_modify,Array.getElem_push];split
  ·rename_i h
   subst h;simp
  ·rename_i h
   simp at c;rw[dif_pos (by omega),dif_pos (by omega)]
theorem Nq(w:Zh)(s:Zi)(d:TypeId):
 (Builtin.copy_ #[133,9] d #[Za w.heap.size 8 8,.string s]).run prog (w.alloc (.cells Ck 190))=.ok (goInt (Nat.min s.size 8)) (w.alloc (.cells (CO s) 190)):=by
 obtain⟨h,c,e,f,g⟩:=info_parts LN;have a:=run_storeCells_at (P:=prog) w.heap.size 0 190 (LY s) 0 Ck (w.alloc (.cells Ck 190)) (heap_alloc_new w _) (by rw[Kw];simp[Ck];omega) (fun v b=>by
  have b:=List.mem_of_mem_take b;simp only[List.mem_map]at b;obtain⟨_,_,rfl⟩:=b;rfl)
 rw[VV,Np]at a;unfold LY at a;simp[Builtin.copy_,run_underlying underlying133,Builtin.lenOf,Builtin.firstCells,sizeOf,typeInfo,c,a,Result.andThen]
def Cm(s:Zi):Value:=.agg (CO s)
theorem Ij(s:Zi)(w:Zh):
 Calls prog 154 #[.string s] w fun e c=>e=.returned (Cm s)/\Zz w c:=by
 have b:∀a,(Builtin.copy_ #[133,9] a #[Za (w.heap.size+1) 8 8,.string s]).run prog ((w.alloc (.cells Ck 190)).alloc (.cells Ck 190))=.ok (goInt (Nat.min s.size 8)) ((w.alloc (.cells Ck 190)).alloc (.cells (CO s) 190)):=fun a=>by have:=Nq (w.alloc (.cells Ck 190)) s a;rwa[show(w.alloc (.cells Ck 190)).heap.size=w.heap.size+1 from by simp]at this
 unfold CO Ck at b;go_enter func154,ntmps154;go_wp2;refine bodyPost_ret (v:=Cm s) (by simp[results,results154,go_sem,Cm,CO]) rfl ⟨rfl,?_⟩;exact(Zy).alloc (by simp) _
theorem YV(s:Zi)(i:Nat):0<=kB s i/\kB s i<256:=by unfold kB;have:=((s.data.toList[i]?).getD 0).toNat_lt;omega
theorem YW(s:Zi)(i:Nat):(Lit.int .u8 (kB s i)).wf=true:=by
 have:=YV s i;have a:IntKind.u8.min=0:=by decide
 have b:IntKind.u8.max=255:=by decide
 simp only[Lit.wf,a,b,Bool.and_eq_true,decide_eq_true_eq];omega
theorem XE:prog.keyType 190=true:=by kernel_rfl
theorem VC:prog.cellsOf 190=8:=by kernel_rfl
theorem YX:prog.cellsOf 5=1:=by kernel_rfl
theorem Uj:prog.underlying 190=some (.array 8 5):=by kernel_rfl
theorem XF:∃n,prog.types.size=n+1:=⟨prog.types.size -1,by kernel_rfl⟩
theorem Nr(s:Zi):∃l,keyOf prog 190 (Cm s)=some l:=by obtain⟨n,a⟩:=XF;unfold keyOf;rw[Uj,a];simp only[XE,Cm,Value.formed,Uj,VC,CO];simp[Value.cells,Program.keyLits,VC,YX,List.range_succ,YW]
noncomputable def keyL (s:Zi):Lit:=(Nr s).choose
theorem EC(s:Zi):keyOf prog 190 (Cm s)=some (keyL s):=(Nr s).choose_spec
theorem YY:laidOutB prog=true:=by kernel_rfl
theorem keyed:Maps.Keyed prog 190:=Maps.Keyed.of_law (deep_law_gate YY (of_decide_eq_true (by kernel_rfl)) (of_decide_eq_true (by kernel_rfl)) XE (by rw[Uj]))
theorem key_inj{s t:Zi}(h:keyL s=keyL t)(q:s.size=t.size)(p:s.size<=8):s=t:=by
 have a:=EC t;rw[←h]at a;have d:=keyed.inj (EC s) a;clear a h;have o:∀i,i<8->kB s i=kB t i:=by
  simp only[Cm,CO,Value.agg.injEq,Array.mk.injEq,List.cons.injEq,Value.int.injEq,true_and,and_true]at d;obtain⟨e,f,g,j,k,l,m,n⟩:=d;intro i b
  match i,b with
  |0,_=>exact e
  |1,_=>exact f
  |2,_=>exact g
  |3,_=>exact j
  |4,_=>exact k
  |5,_=>exact l
  |6,_=>exact m
  |7,_=>exact n
 have r:=BC s;have u:=BC t;have c:s.data.toList=t.data.toList:=by
  apply List.ext_getElem?;intro i;by_cases b:i<s.size
  ·have:=o i (by omega);unfold kB at this;rw[Zv (by omega),Zv (by omega)]at this ⊢;simp only[Option.getD_some]at this;congr 1;exact UInt8.toNat_inj.1 (by omega)
  ·rw[List.getElem?_eq_none (by omega),List.getElem?_eq_none (by omega)]
 cases s;cases t;simp only[Array.toList_inj]at c;rw[c]
open Classical in
noncomputable def upd (f:Lit->Option Value) (kl:Lit) (v:Value):Lit->Option Value:=fun x=>if x=kl then some v else f x
theorem Dm(f:Lit->Option Value)(a:Lit)(v:Value):upd f a v a=some v:=by simp[upd]
theorem Dg(f:Lit->Option Value){a x:Lit}(v:Value)(h:x≠a):upd f a v x=f x:=by simp[upd,h]
def Ni(v:Value):Option (DataW Value×List MemPlace):=some (.held v,[])
def AV(w:Zh)(K:TypeId)(b n:Nat)(f:Lit->Option Value):Prop:=
 ∃D:DataW Value,w.ownsMap prog K Ni b n D/\(∀kl z,D.atKey kl (.held z)=.held ((f kl).getD z))/\∀kl,Maps.has D kl=(f kl).isSome
theorem AV.new(w:Zh)(K:TypeId):AV (w.alloc (.map #[] 0)) K w.heap.size 0 (fun _=>none):=
 ⟨.map [],World.ownsMap_made _ _ _ _,fun _ _=>rfl,fun _=>rfl⟩
theorem AV.aj{w a:Zh}{K:TypeId}{b n:Nat}{f:Lit->Option Value}(h:AV w K b n f){B:Nat}(j:Below B w a)(i:b<B):AV a K b n f:=by obtain⟨D,⟨c,clock,d,e⟩,g⟩:=h;exact⟨D,⟨c,clock,(j.block b i).trans d,e⟩,g⟩
theorem AV.lt{w:Zh}{K:TypeId}{b n:Nat}{f:Lit->Option Value}(h:AV w K b n f):b<w.heap.size:=h.choose_spec.1.lt
theorem AV.put{w:Zh}{K t e:TypeId}{b n:Nat}{f:Lit->Option Value}(h:AV w K b n f)(l:Maps.Keyed prog K)(v:prog.underlying t=some (.map K e))(r:n<maxLen){j val:Value}{g:Lit}(a:keyOf prog K j=some g):
 ∃c,(Instr.mapUpdate t (.map (some b)) j val).run prog w=.ok () c/\AV c K b (n+1) (upd f g val)/\w.grownBy c (some b):=by
 obtain⟨D,k,o,p⟩:=h;obtain⟨c,u,s,q⟩:=k.update l v r a (d:=.held val) (ps:=[]) (val:=val) rfl;have m:=k.isMap;have i:=l.key a;refine⟨c,u,⟨_,s,fun x z=> ?_,fun x=> ?_⟩,q⟩
 ·by_cases hx:x=g
  ·subst hx;rw[Maps.atKey_put_same m i,Dm];rfl
  ·rw[Maps.atKey_put_other hx,Dg _ _ hx];exact o x z
 ·by_cases hx:x=g
  ·subst hx;rw[Maps.has_put_same m i,Dm];rfl
  ·rw[Maps.has_put_other hx,Dg _ _ hx];exact p x
theorem AV.look{w:Zh}{K t e:TypeId}{b n:Nat}{f:Lit->Option Value}(h:AV w K b n f)(k:Maps.Keyed prog K)(m:prog.underlying t=some (.map K e)){z:Value}(o:(zeroValue e).run prog w=.ok z w){c:Value}{g:Lit}(a:keyOf prog K c=some g):
 (Instr.lookup t (.map (some b)) c false).run prog w=.ok ((f g).getD z) w:=by
 obtain⟨D,i,j,_⟩:=h;obtain⟨v,p,l,d⟩:=i.lookup k m o (zd:=.held z) (zp:=[]) rfl a;rw[j]at d;simp only[Ni,Option.some.injEq,Prod.mk.injEq,DataW.held.injEq]at d;rw[l,d.1]
theorem AV.look_ok{w:Zh}{K t e:TypeId}{b n:Nat}{f:Lit->Option Value}(h:AV w K b n f)(l:Maps.Keyed prog K)(o:prog.underlying t=some (.map K e)){z:Value}(p:(zeroValue e).run prog w=.ok z w){c:Value}{g:Lit}(a:keyOf prog K c=some g):
 (Instr.lookup t (.map (some b)) c true).run prog w=.ok (.tuple #[(f g).getD z,.bool (f g).isSome]) w:=by
 obtain⟨D,i,j,k⟩:=h;obtain⟨v,q,m,d⟩:=i.look_ok l o p (zd:=.held z) (zp:=[]) rfl a;rw[j]at d;simp only[Ni,Option.some.injEq,Prod.mk.injEq,DataW.held.injEq]at d;rw[m,d.1,k]
end
end Go.Proofs.YtdgblkklkaklhaaGreatDoor
