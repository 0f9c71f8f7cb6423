import Derived.Test.YtpekbmegopfhfaaGreatDoorY02
import Derived.Deep.DrawnRows
import Derived.Deep.RegionHeld3
import Derived.WideKeyEntry
import Derived.Maps.Views
import Derived.Deep.RegionLaw
set_option maxRecDepth 100000
set_option maxHeartbeats 16000000
namespace Go.Proofs.YtpekbmegopfhfaaGreatDoor
open Go.ChangeShapes Go.WideShapes Go.ChangeAt Go.RowKit _root_.Go.Proofs.Tryz
structure KMem (ks:List Kd):Prop where
 len:ks.length<=maxLen
 sum:∀k∈ks,k.sum.size<=maxLen
 text:∀k∈ks,k.text.size<=maxLen
 refs:∀k∈ks,k.refs.length<=maxLen
 ref:∀k∈ks,∀s∈k.refs,s.size<=maxLen
structure PMem (ps:List Pd):Prop where
 len:ps.length<=maxLen
 name:∀p∈ps,p.name.size<=maxLen
 sum:∀p∈ps,p.sum.size<=maxLen
structure LMem (ls:List Ld):Prop where
 len:ls.length<=maxLen
 sum:∀l∈ls,l.sum.size<=maxLen
def SBox (w:World) (b:Nat) (wd now given births:Int) (T P L:Value):Prop:=
 w.cell? ⟨b,0,none⟩=some (.int .i64 wd)/\w.cell? ⟨b,1,none⟩=some (.int .i64 now)/\w.cell? ⟨b,2,none⟩=some (.int .i64 given)/\w.cell? ⟨b,3,none⟩=some (.int .i64 births)/\
  w.cell? ⟨b,4,none⟩=some T/\w.cell? ⟨b,5,none⟩=some P/\w.cell? ⟨b,6,none⟩=some L/\b<w.heap.size
theorem SBox.new (w:World) (wd now given births:Int) (T P L:Value) (t:TypeId):SBox (w.alloc (.cells #[.int .i64 wd,.int .i64 now,.int .i64 given,.int .i64 births,T,P,L] t)) w.heap.size wd now given births T P L:=
 ⟨by simp,by simp,by simp,by simp,by simp,by simp,by simp,by simp⟩
theorem SBox.keep {w w':World} {b B:Nat} {wd now given births:Int} {T P L:Value} (h:SBox w b wd now given births T P L) (hb:Below B w w') (hB:b<B):SBox w' b wd now given births T P L:=by
 obtain⟨h0,h1,h2,h3,h4,h5,h6,h7⟩:=h;exact⟨(hb.cell (p:=⟨b,0,none⟩) hB).trans h0,(hb.cell (p:=⟨b,1,none⟩) hB).trans h1,(hb.cell (p:=⟨b,2,none⟩) hB).trans h2,(hb.cell (p:=⟨b,3,none⟩) hB).trans h3,
  (hb.cell (p:=⟨b,4,none⟩) hB).trans h4,(hb.cell (p:=⟨b,5,none⟩) hB).trans h5,(hb.cell (p:=⟨b,6,none⟩) hB).trans h6,Nat.lt_of_lt_of_le h7 hb.size⟩
theorem SBox.below {w w':World} {b:Nat} {wd now given births:Int} {T P L:Value} (h:SBox w b wd now given births T P L) (hb:Below w.heap.size w w'):SBox w' b wd now given births T P L:=h.keep hb h.2.2.2.2.2.2.2
structure SRows (w:World) (B:Nat) (a p l:Option Addr) (ks:List Kd) (ps:List Pd) (ls:List Ld):Prop where
 k:KRow w B a ks
 p:PRow w B p ps
 l:LRow w B l ls
theorem SRows.below' {w w':World} {a p l:Option Addr} {ks:List Kd} {ps:List Pd} {ls:List Ld} (h:SRows w w.heap.size a p l ks ps ls) (hb:Below w.heap.size w w'):SRows w' w'.heap.size a p l ks ps ls:=
 ⟨(h.k.below hb).mono hb.size,(h.p.below hb).mono hb.size,(h.l.below hb).mono hb.size⟩
theorem SRows.keep {w w':World} {B:Nat} {a p l:Option Addr} {ks:List Kd} {ps:List Pd} {ls:List Ld} (h:SRows w B a p l ks ps ls) (hb:Below B w w'):SRows w' B a p l ks ps ls:=
 ⟨h.k.below hb,h.p.below hb,h.l.below hb⟩
theorem SRows.mono {w:World} {B B':Nat} {a p l:Option Addr} {ks:List Kd} {ps:List Pd} {ls:List Ld} (h:SRows w B a p l ks ps ls) (hb:B<=B'):SRows w B' a p l ks ps ls:=
 ⟨h.k.mono hb,h.p.mono hb,h.l.mono hb⟩
structure SFit (ks:List Kd) (ps:List Pd) (ls:List Ld):Prop where
 k:ks.length<=1048576
 r:∀k∈ks,k.refs.length<=1048576
 p:ps.length<=1048576
 l:ls.length<=1048576
def RefsOwn (w:World) (lo g c:Nat) (rs:List ByteArray):Prop:=w.ownsRow lo 9 1 (.slice (some ⟨g,0,none⟩) rs.length c) rs.length (rs.map Value.string)
def KCells (w:World) (lo:Nat) (xs:List Value) (i:Nat) (x:Kd):Prop:=
 xs[i *4]?=some (.string x.sum)/\xs[i *4+1]?=some (.int .i64 x.born)/\xs[i *4+2]?=some (.string x.text)/\
  ∃g,xs[i *4+3]?=some (.slice (some ⟨g,0,none⟩) x.refs.length x.refs.length)/\RefsOwn w lo g x.refs.length x.refs
theorem infoKept:(prog.info? 114).map (fun i=>(i.zero,i.size,i.bytes))=some (some (.agg #[.string ⟨#[]⟩,.int .i64 0,.string ⟨#[]⟩,.slice none 0 0]),4,64):=by kernel_rfl
def KOwn (w:World) (lo g:Nat) (ks:List Kd):Prop:=
 ∃xs,w.ownsRow lo 114 4 (.slice (some ⟨g,0,none⟩) ks.length ks.length) ks.length xs/\∀i x,ks[i]?=some x->KCells w (g+1) xs i x
theorem infoPin:(prog.info? 134).map (fun i=>(i.zero,i.size,i.bytes))=some (some (.agg #[.string ⟨#[]⟩,.string ⟨#[]⟩]),2,32):=by kernel_rfl
def POwn (w:World) (lo g:Nat) (ps:List Pd):Prop:=
 ∃xs,w.ownsRow lo 134 2 (.slice (some ⟨g,0,none⟩) ps.length ps.length) ps.length xs/\∀i x,ps[i]?=some x->xs[i *2]?=some (.string x.name)/\xs[i *2+1]?=some (.string x.sum)
theorem infoLease:(prog.info? 137).map (fun i=>(i.zero,i.size,i.bytes))=some (some (.agg #[.int .i64 0,.string ⟨#[]⟩,.int .i64 0]),3,32):=by kernel_rfl
def LOwn (w:World) (lo g:Nat) (ls:List Ld):Prop:=
 ∃xs,w.ownsRow lo 137 3 (.slice (some ⟨g,0,none⟩) ls.length ls.length) ls.length xs/\∀i x,ls[i]?=some x->xs[i *3]?=some (.int .i64 x.num)/\xs[i *3+1]?=some (.string x.sum)/\xs[i *3+2]?=some (.int .i64 x.til)
structure SOwn (w:World) (lo g p l:Nat) (ks:List Kd) (ps:List Pd) (ls:List Ld):Prop where
 k:KOwn w lo g ks
 p:POwn w lo p ps
 l:LOwn w lo l ls
def rowC {A:Type} (c:A->List Value) (xs:List A):List Value:=xs.flatMap c
theorem row_len {A:Type} {c:A->List Value} {n:Nat} (h:∀x,(c x).length=n) (xs:List A):(rowC c xs).length=xs.length *n:=by
 unfold rowC;induction xs with
 |nil=>simp
 |cons x xs ih=>rw[List.flatMap_cons,List.length_append,ih,h,List.length_cons,Nat.add_mul];omega
theorem row_append {A:Type} (c:A->List Value) (xs ys:List A):rowC c (xs++ys)=rowC c xs++rowC c ys:=by unfold rowC;rw[List.flatMap_append]
theorem row_get {A:Type} {c:A->List Value} {n:Nat} (h:∀x,(c x).length=n):∀{xs:List A} {i j:Nat} {x:A},xs[i]?=some x->j<n->(rowC c xs)[i *n+j]?=(c x)[j]?
 |[],_,_,_,hx,_=>by simp at hx
 |y::ys,0,j,x,hx,hj=>by
  simp at hx;subst hx;show(y::ys|>.flatMap c)[_]?=_;rw[List.flatMap_cons,Nat.zero_mul,Nat.zero_add,List.getElem?_append_left (by rw[h];exact hj)]
 |y::ys,i+1,j,x,hx,hj=>by
  have hx':ys[i]?=some x:=by simpa using hx
  show(y::ys|>.flatMap c)[_]?=_;rw[List.flatMap_cons,List.getElem?_append_right (by rw[h,Nat.add_mul];omega),h,show(i+1) *n+j -n=i *n+j by rw[Nat.add_mul];omega];exact row_get h hx' hj
theorem row_inv {A:Type} {c:A->List Value} {n:Nat} (h:∀x,(c x).length=n) (hn:0<n) {xs:List A} {k:Nat} {u:Value} (hk:(rowC c xs)[k]?=some u):∃x,xs[k/n]?=some x/\(c x)[k%n]?=some u:=by
 have hl:=(List.getElem?_eq_some_iff.1 hk).1;rw[row_len h] at hl;have hd:k/n<xs.length:=Nat.div_lt_of_lt_mul (by rw[Nat.mul_comm];exact hl);refine⟨xs[k/n],List.getElem?_eq_getElem hd,?_⟩;have:=row_get h (List.getElem?_eq_getElem hd) (Nat.mod_lt k hn);rw[show k/n *n+k%n=k by rw[Nat.mul_comm];exact Nat.div_add_mod k n] at this;rw[←this];exact hk
theorem row_take {A:Type} {c:A->List Value} {n:Nat} (h:∀x,(c x).length=n) (xs:List A) (i:Nat) (hi:i<=xs.length):(rowC c xs).take (i *n)=rowC c (xs.take i):=by
 have h1:rowC c xs=rowC c (xs.take i)++rowC c (xs.drop i):=by rw[←row_append,List.take_append_drop]
 have h2:(rowC c (xs.take i)).length=i *n:=by rw[row_len h,List.length_take,Nat.min_eq_left hi]
 rw[h1,←h2,List.take_left]
theorem row_drop {A:Type} {c:A->List Value} {n:Nat} (h:∀x,(c x).length=n) (xs:List A) (i:Nat) (hi:i<=xs.length):(rowC c xs).drop (i *n)=rowC c (xs.drop i):=by
 have h1:rowC c xs=rowC c (xs.take i)++rowC c (xs.drop i):=by rw[←row_append,List.take_append_drop]
 have h2:(rowC c (xs.take i)).length=i *n:=by rw[row_len h,List.length_take,Nat.min_eq_left hi]
 rw[h1,←h2,List.drop_left]
def pC (p:Pd):List Value:=[.string p.name,.string p.sum]
def lC (l:Ld):List Value:=[.int .i64 l.num,.string l.sum,.int .i64 l.til]
theorem pC_len (p:Pd):(pC p).length=2:=rfl
theorem lC_len (l:Ld):(lC l).length=3:=rfl
theorem kC_len (s:ByteArray):(kCells s).length=8:=rfl
theorem cells8_flat (ss:List ByteArray):cells8 ss=rowC kCells ss:=rfl
theorem oneP (ps:List Pd):∀u∈rowC pC ps,u.oneCell'=true:=by
 intro u hu;obtain⟨p,_,hp⟩:=List.mem_flatMap.1 hu;simp[pC] at hp;rcases hp with rfl|rfl<;>rfl
theorem oneL (ls:List Ld):∀u∈rowC lC ls,u.oneCell'=true:=by
 intro u hu;obtain⟨p,_,hp⟩:=List.mem_flatMap.1 hu;simp[lC] at hp;rcases hp with rfl|rfl|rfl<;>rfl
theorem own_form {w:World} {base:Nat} {e:TypeId} {size:Nat} {v:Value} {n:Nat} {xs:List Value} (h:w.ownsRow base e size v n xs) (hn:v≠.slice none 0 0):∃g cap,v=.slice (some ⟨g,0,none⟩) n cap/\base<=g/\g<w.heap.size:=by
 rcases h.2 with⟨e,_⟩|⟨g,cap,cur,rfl,hb,hg,_⟩
 ·exact absurd e hn
 ·exact⟨g,cap,rfl,hb,(Array.getElem?_eq_some_iff.1 hg).1⟩
theorem PRow.cellsV {w:World} {B b off:Nat} {ps:List Pd} (h:PRow w B (some ⟨b,off,none⟩) ps):∀j u,(rowC pC ps)[j]?=some u->w.cell? ((⟨b,off,none⟩:Addr).add j)=some u:=by
 intro j u hu;obtain⟨p,hp,hv⟩:=row_inv pC_len (by decide) hu;rcases h with h|⟨b',off',h1,_,h3⟩
 ·subst h;simp at hp
 ·cases h1
  obtain⟨q0,q1⟩:=h3 _ p hp;rw[Go.WideShapes.add_plain];have hm:=Nat.mod_lt j (show 0<2 by decide);rcases(show j%2=0∨j%2=1 by omega) with hr|hr<;>rw[hr] at hv<;>simp[pC] at hv<;>subst hv
  ·rw[show off+j=off+j/2 *2 by omega];exact q0
  ·rw[show off+j=off+j/2 *2+1 by omega];exact q1
theorem LRow.cellsV {w:World} {B b off:Nat} {ps:List Ld} (h:LRow w B (some ⟨b,off,none⟩) ps):∀j u,(rowC lC ps)[j]?=some u->w.cell? ((⟨b,off,none⟩:Addr).add j)=some u:=by
 intro j u hu;obtain⟨p,hp,hv⟩:=row_inv lC_len (by decide) hu;rcases h with h|⟨b',off',h1,_,h3⟩
 ·subst h;simp at hp
 ·cases h1
  obtain⟨q0,q1,q2⟩:=h3 _ p hp;rw[Go.WideShapes.add_plain];have hm:=Nat.mod_lt j (show 0<3 by decide);rcases(show j%3=0∨j%3=1∨j%3=2 by omega) with hr|hr|hr<;>rw[hr] at hv<;>simp[lC] at hv<;>subst hv
  ·rw[show off+j=off+j/3 *3 by omega];exact q0
  ·rw[show off+j=off+j/3 *3+1 by omega];exact q1
  ·rw[show off+j=off+j/3 *3+2 by omega];exact q2
theorem PRow.own {w:World} {base:Nat} {a:Option Addr} {cap:Nat} {ps:List Pd} (h:w.ownsRow base 134 2 (.slice a ps.length cap) ps.length (rowC pC ps)):PRow w w.heap.size a ps:=by
 rcases h.2 with⟨e,hn⟩|⟨g,cap',cur,he,hb,hg,_⟩
 ·exact .inl (List.length_eq_zero_iff.1 hn)
 ·cases he
  refine .inr ⟨g,0,rfl,(h.lt g rfl).2,fun i x hx=> ?_⟩;have hi:=(List.getElem?_eq_some_iff.1 hx).1;have h0:=row_get pC_len hx (show 0<2 by decide);have h1:=row_get pC_len hx (show 1<2 by decide);rw[Nat.zero_add];exact⟨(h.cellAt _ (by omega)).trans h0,(h.cellAt _ (by omega)).trans h1⟩
theorem LRow.own {w:World} {base:Nat} {a:Option Addr} {cap:Nat} {ps:List Ld} (h:w.ownsRow base 137 3 (.slice a ps.length cap) ps.length (rowC lC ps)):LRow w w.heap.size a ps:=by
 rcases h.2 with⟨e,hn⟩|⟨g,cap',cur,he,hb,hg,_⟩
 ·exact .inl (List.length_eq_zero_iff.1 hn)
 ·cases he
  refine .inr ⟨g,0,rfl,(h.lt g rfl).2,fun i x hx=> ?_⟩;have hi:=(List.getElem?_eq_some_iff.1 hx).1;have h0:=row_get lC_len hx (show 0<3 by decide);have h1:=row_get lC_len hx (show 1<3 by decide);have h2:=row_get lC_len hx (show 2<3 by decide);rw[Nat.zero_add];exact⟨(h.cellAt _ (by omega)).trans h0,(h.cellAt _ (by omega)).trans h1,(h.cellAt _ (by omega)).trans h2⟩
theorem PRow.cellsA {w:World} {B:Nat} {ad:Addr} {ps:List Pd} (h:PRow w B (some ad) ps):∀j u,(rowC pC ps)[j]?=some u->w.cell? (ad.add j)=some u:=by
 rcases h with rfl|⟨b,off,h1,h2,h3⟩
 ·intro j u hu;simp[rowC] at hu
 ·cases h1;exact PRow.cellsV (.inr ⟨b,off,rfl,h2,h3⟩)
theorem LRow.cellsA {w:World} {B:Nat} {ad:Addr} {ps:List Ld} (h:LRow w B (some ad) ps):∀j u,(rowC lC ps)[j]?=some u->w.cell? (ad.add j)=some u:=by
 rcases h with rfl|⟨b,off,h1,h2,h3⟩
 ·intro j u hu;simp[rowC] at hu
 ·cases h1;exact LRow.cellsV (.inr ⟨b,off,rfl,h2,h3⟩)
theorem SRow.cellsA {w:World} {B:Nat} {ad:Addr} {ss:List ByteArray} (h:SRow w B (some ad) ss):∀j u,(ss.map Value.string)[j]?=some u->w.cell? (ad.add j)=some u:=by
 rcases h with rfl|⟨b,off,h1,h2,h3⟩
 ·intro j u hu;simp at hu
 ·cases h1
  intro j u hu;rw[List.getElem?_map] at hu;cases hs:ss[j]? with
  |none=>rw[hs] at hu;cases hu
  |some s=>rw[hs] at hu;cases hu;rw[Go.WideShapes.add_plain];exact h3 j s hs
theorem PRow.nil {w:World} {B:Nat} {ps:List Pd} (h:PRow w B none ps):ps=[]:=by
 rcases h with h|⟨_,_,h,_⟩
 ·exact h
 ·cases h
theorem LRow.nil {w:World} {B:Nat} {ps:List Ld} (h:LRow w B none ps):ps=[]:=by
 rcases h with h|⟨_,_,h,_⟩
 ·exact h
 ·cases h
theorem SRow.nil {w:World} {B:Nat} {ps:List ByteArray} (h:SRow w B none ps):ps=[]:=by
 rcases h with h|⟨_,_,h,_⟩
 ·exact h
 ·cases h
theorem clonePin_any (a:Option Addr) (cap:Nat) (ps:List Pd) (w:World) (hr:PRow w w.heap.size a ps) (hl:ps.length<=1048576):
 Calls prog 96 #[.slice a ps.length cap] w fun e w'=>∃a' c',e=.returned (.slice a' ps.length c')/\
  w'.ownsRow w.heap.size 134 2 (.slice a' ps.length c') ps.length (rowC pC ps)/\Below w.heap.size w w':=by
 rcases a with _|ad
 ·obtain rfl:=hr.nil
  have hnil:∀u:World,(binOp .eql 25 (.slice none 0 cap) (.slice none 0 0)).run prog u=.ok (.bool true) u:=fun _=>by first|rfl|kernel_rfl
  go_enter func96,ntmps96;go_wp2;go_ret;exact⟨none,0,rfl,⟨rfl,.inl ⟨rfl,rfl⟩⟩,Below.refl _ _⟩
 obtain⟨i0,hi,hz0,hz1,hz2⟩:=info_parts infoPin;have hA:Below w.heap.size w (w.alloc (.cells #[] 134)):=(Below.refl _ _).alloc (Nat.le_refl _) _;have hnil:∀u:World,(binOp .eql 25 (.slice (some ad) ps.length cap) (.slice none 0 0)).run prog u=.ok (.bool false) u:=fun _=>by first|rfl|kernel_rfl
 go_enter func96,ntmps96;go_wp2_with (first
  |(at_builtin;refine wpList_append_own _ rfl _ _ 25 rfl w.heap.size 134 i0 _ 2 32 underlying25 hi hz0 hz1 hz2 rfl (by decide) _ 0 (rowC pC []) rfl ?d0 ad ps.length cap (rowC pC ps) rfl ?d1 ?d2 ?d3 ?d4 ?d5 ?d6 ?_)
  |go_in)
 case d0=>exact World.ownsRow_lit (base:=w.heap.size) (e:=134) (size:=2) w #[] 0 (Nat.le_refl _) (by unfold maxLen;omega) rfl
 case d1=>exact row_len pC_len ps
 case d2=>exact(hr.below hA).cellsA
 case d3=>exact oneP ps
 case d4=>unfold maxLen;omega
 case d5=>omega
 case d6=>simp
 intro v1 w1 ho1 hg1 hn1;obtain⟨x,cx,rfl,hx1,hx2⟩:=own_form ho1 hn1;rw[←row_append,List.nil_append] at ho1;have hB:Below w.heap.size w w1:=hA.grown hg1 (by simp) (fun k hk=>by simp[Value.ownBlock] at hk;omega);have HO:Hid _:=And.intro ho1 hB;try simp only[Nat.zero_add] at *
 clear ho1 hg1 hn1 hB hA hr;go_wp2;go_ret;exact⟨_,cx,rfl,HO.out.1,HO.out.2⟩
theorem cloneLease_any (a:Option Addr) (cap:Nat) (ps:List Ld) (w:World) (hr:LRow w w.heap.size a ps) (hl:ps.length<=1048576):
 Calls prog 97 #[.slice a ps.length cap] w fun e w'=>∃a' c',e=.returned (.slice a' ps.length c')/\
  w'.ownsRow w.heap.size 137 3 (.slice a' ps.length c') ps.length (rowC lC ps)/\Below w.heap.size w w':=by
 rcases a with _|ad
 ·obtain rfl:=hr.nil
  have hnil:∀u:World,(binOp .eql 26 (.slice none 0 cap) (.slice none 0 0)).run prog u=.ok (.bool true) u:=fun _=>by first|rfl|kernel_rfl
  go_enter func97,ntmps97;go_wp2;go_ret;exact⟨none,0,rfl,⟨rfl,.inl ⟨rfl,rfl⟩⟩,Below.refl _ _⟩
 obtain⟨i0,hi,hz0,hz1,hz2⟩:=info_parts infoLease;have hA:Below w.heap.size w (w.alloc (.cells #[] 137)):=(Below.refl _ _).alloc (Nat.le_refl _) _;have hnil:∀u:World,(binOp .eql 26 (.slice (some ad) ps.length cap) (.slice none 0 0)).run prog u=.ok (.bool false) u:=fun _=>by first|rfl|kernel_rfl
 go_enter func97,ntmps97;go_wp2_with (first
  |(at_builtin;refine wpList_append_own _ rfl _ _ 26 rfl w.heap.size 137 i0 _ 3 32 underlying26 hi hz0 hz1 hz2 rfl (by decide) _ 0 (rowC lC []) rfl ?d0 ad ps.length cap (rowC lC ps) rfl ?d1 ?d2 ?d3 ?d4 ?d5 ?d6 ?_)
  |go_in)
 case d0=>exact World.ownsRow_lit (base:=w.heap.size) (e:=137) (size:=3) w #[] 0 (Nat.le_refl _) (by unfold maxLen;omega) rfl
 case d1=>exact row_len lC_len ps
 case d2=>exact(hr.below hA).cellsA
 case d3=>exact oneL ps
 case d4=>unfold maxLen;omega
 case d5=>omega
 case d6=>simp
 intro v1 w1 ho1 hg1 hn1;obtain⟨x,cx,rfl,hx1,hx2⟩:=own_form ho1 hn1;rw[←row_append,List.nil_append] at ho1;have hB:Below w.heap.size w w1:=hA.grown hg1 (by simp) (fun k hk=>by simp[Value.ownBlock] at hk;omega);have HO:Hid _:=And.intro ho1 hB;try simp only[Nat.zero_add] at *
 clear ho1 hg1 hn1 hB hA hr;go_wp2;go_ret;exact⟨_,cx,rfl,HO.out.1,HO.out.2⟩
theorem cloneStr_any (a:Option Addr) (cap:Nat) (ps:List ByteArray) (w:World) (hr:SRow w w.heap.size a ps) (hl:ps.length<=1048576):
 Calls prog 98 #[.slice a ps.length cap] w fun e w'=>∃a' c',e=.returned (.slice a' ps.length c')/\
  w'.ownsRow w.heap.size 9 1 (.slice a' ps.length c') ps.length (ps.map Value.string)/\Below w.heap.size w w':=by
 rcases a with _|ad
 ·obtain rfl:=hr.nil
  have hnil:∀u:World,(binOp .eql 22 (.slice none 0 cap) (.slice none 0 0)).run prog u=.ok (.bool true) u:=fun _=>by first|rfl|kernel_rfl
  go_enter func98,ntmps98;go_wp2;go_ret;exact⟨none,0,rfl,⟨rfl,.inl ⟨rfl,rfl⟩⟩,Below.refl _ _⟩
 obtain⟨i0,hi,hz0,hz1,hz2⟩:=info_parts infoStr;have hA:Below w.heap.size w (w.alloc (.cells #[] 9)):=(Below.refl _ _).alloc (Nat.le_refl _) _;have hnil:∀u:World,(binOp .eql 22 (.slice (some ad) ps.length cap) (.slice none 0 0)).run prog u=.ok (.bool false) u:=fun _=>by first|rfl|kernel_rfl
 go_enter func98,ntmps98;go_wp2_with (first
  |(at_builtin;refine wpList_append_own _ rfl _ _ 22 rfl w.heap.size 9 i0 (.string ⟨#[]⟩) 1 16 underlying22 hi hz0 hz1 hz2 rfl (by decide) _ 0 (([]:List ByteArray).map Value.string) rfl ?d0 ad ps.length cap (ps.map Value.string) rfl ?d1 ?d2 ?d3 ?d4 ?d5 ?d6 ?_)
  |go_in)
 case d0=>exact World.ownsRow_lit (base:=w.heap.size) (e:=9) (size:=1) w #[] 0 (Nat.le_refl _) (by unfold maxLen;omega) rfl
 case d1=>simp
 case d2=>exact(hr.below hA).cellsA
 case d3=>exact oneS ps
 case d4=>unfold maxLen;omega
 case d5=>omega
 case d6=>simp
 intro v1 w1 ho1 hg1 hn1;obtain⟨x,cx,rfl,hx1,hx2⟩:=own_form ho1 hn1
 skip
 have hB:Below w.heap.size w w1:=hA.grown hg1 (by simp) (fun k hk=>by simp[Value.ownBlock] at hk;omega);have HO:Hid _:=And.intro ho1 hB;try simp only[Nat.zero_add] at *
 clear ho1 hg1 hn1 hB hA hr;go_wp2;go_ret;exact⟨_,cx,rfl,HO.out.1,HO.out.2⟩
theorem toList_inj {a b:ByteArray} (h:a.toList=b.toList):a=b:=by
 rw[ByteArray.toList_eq,ByteArray.toList_eq] at h;cases a;cases b;simp only[Array.toList_inj] at h;rw[h]
theorem beq_ne {a b:ByteArray} (h:¬a=b):(a.toList==b.toList)=false:=by
 rw[beq_eq_false_iff_ne];exact fun e=>h (toList_inj e)
theorem bl_iff (x:List UInt8):∀y,Op.bytesLess x y=true↔x<y:=by
 induction x with
 |nil=>intro y;cases y<;>simp[Op.bytesLess]
 |cons a x ih=>
  intro y;cases y with
  |nil=>simp[Op.bytesLess]
  |cons b y=>
   have:=ih y;rw[List.cons_lt_cons_iff,←this];simp only[Op.bytesLess];by_cases h1:a<b<;>by_cases h2:a=b<;>simp[h1,h2]
theorem less_irrefl (a:ByteArray):less a a=false:=by
 unfold less;cases h:Op.bytesLess a.toList a.toList with
 |false=>rfl
 |true=>exact absurd ((bl_iff _ _).1 h) (List.lt_irrefl _)
theorem less_trans {a b c:ByteArray} (h:less a b=true) (k:less b c=true):less a c=true:=by
 unfold less at *
 rw[bl_iff] at *
 exact List.lt_trans h k
def findI (ks:List Kd) (s:ByteArray):Int:=match ks.findIdx? (fun k=>decide (k.sum=s)) with
 |some i=>(i:Int)
 |none=> -1
theorem findI_hit {ks:List Kd} {s:ByteArray} {k:Nat} (hk:k<ks.length) (h:ks[k].sum=s) (hall:∀j x,j<k->ks[j]?=some x->x.sum≠s):findI ks s=k:=by
 have:ks.findIdx? (fun k=>decide (k.sum=s))=some k:=by
  rw[List.findIdx?_eq_some_iff_getElem];refine⟨hk,by simpa using h,fun j hj=> ?_⟩;simpa using hall j _ hj (List.getElem?_eq_getElem (by omega))
 simp[findI,this]
theorem findI_miss {ks:List Kd} {s:ByteArray} (hall:∀j x,j<ks.length->ks[j]?=some x->x.sum≠s):findI ks s= -1:=by
 have:ks.findIdx? (fun k=>decide (k.sum=s))=none:=by
  rw[List.findIdx?_eq_none_iff];intro x hx;obtain⟨j,hj,rfl⟩:=List.getElem_of_mem hx;simpa using hall j _ hj (List.getElem?_eq_getElem hj)
 simp[findI,this]
theorem findI_cases (ks:List Kd) (s:ByteArray):(findI ks s= -1/\¬There ks s)∨∃i k,findI ks s=(i:Nat)/\ks[i]?=some k/\k.sum=s:=by
 unfold findI;cases h:ks.findIdx? (fun k=>decide (k.sum=s)) with
 |none=>
  rw[List.findIdx?_eq_none_iff] at h;exact .inl ⟨rfl,fun⟨u,hu,e⟩=>by simpa [e] using h u hu⟩
 |some i=>
  rw[List.findIdx?_eq_some_iff_getElem] at h;obtain⟨hi,h1,_⟩:=h;exact .inr ⟨i,ks[i],rfl,List.getElem?_eq_getElem hi,by simpa using h1⟩
theorem find_any (wd now given births:Int) (a:Option Addr) (ac:Nat) (P L:Value) (ks:List Kd) (s:ByteArray) (w:World) (B:Nat) (hrow:KRow w B a ks) (hB:B<=w.heap.size) (hl:ks.length<=1048576):
 Calls prog 72 #[.agg #[.int .i64 wd,.int .i64 now,.int .i64 given,.int .i64 births,.slice a ks.length ac,P,L],.string s] w fun e w'=>e=.returned (.int .i64 (findI ks s))/\Below w.heap.size w w':=by
 have hb0:Below w.heap.size w (w.alloc (.cells #[.int .i64 wd,.int .i64 now,.int .i64 given,.int .i64 births,.slice a ks.length ac,P,L] 28)):=(Below.refl _ _).alloc (Nat.le_refl _) _;go_enter func72,ntmps72;go_wp2
 go_loop [5] (fun i=>∃k:Nat,k<=ks.length/\i=.int .i64 k/\Hid (∀j x,j<k->ks[j]?=some x->x.sum≠s)) (fun i=>ks.length -(intOf i).toNat)
 case atStart=>exact⟨0,Nat.zero_le _,rfl,fun j x h=>by omega⟩
 case round=>
  obtain⟨k,hk,rfl,hall⟩:=hrel;by_cases hlt:k<ks.length
  ·obtain⟨b,off,ha,hb,hc⟩:=hrow.at hlt
   subst ha;have hg:Hid (ks[k]?=some ks[k]):=List.getElem?_eq_getElem hlt;obtain⟨c0,_,_,_⟩:=hc k _ hg;clear hc hrow;have hb':b<w.heap.size:=by omega
   by_cases he:ks[k].sum=s
   ·have HE:Hid _:=he
    have hh:Hid _:=findI_hit hlt he hall.out;have c0':w.cell? ⟨b,off+k *4,none⟩=some (.string s):=by rw[←he];exact c0
    clear c0 he;go_wp2;go_ret;exact⟨ret_i hh.out.symm,hb0⟩
   ·have hne:=beq_ne he
    have HA:Hid (∀j x,j<k+1->ks[j]?=some x->x.sum≠s):=by
     intro j x hj hx;rcases Nat.lt_or_ge j k with h'|h'
     ·exact hall.out j x h' hx
     ·obtain rfl:j=k:=by omega
      rw[hg.out] at hx;cases hx;exact he
    clear he hall hg;generalize ks[k]=x at *
    go_wp2;exact⟨⟨k+1,by omega,by go_num,HA⟩,by simp[intOf];omega⟩
  ·go_wp2
   go_ret;exact⟨ret_i (findI_miss (fun j x hj=>hall.out j x (by omega))).symm,hb0⟩
section
attribute [local go_sem↓] Go.wp_at_zero Go.wp_at_succ
def keptV (u:Kd) (ra:Option Addr) (rc:Nat):Value:=.agg #[.string u.sum,.int .i64 u.born,.string u.text,.slice ra u.refs.length rc]
def Holds (W:World) (B:Nat) (wd:Int) (ks:List Kd) (f:Lit->Option Value):Prop:=
 ∀s:ByteArray,(s.size:Int)=wd->(f (keyL s)=none/\¬There ks s)∨∃u ra rc,u∈ks/\u.sum=s/\f (keyL s)=some (keptV u ra rc)/\SRow W B ra u.refs
theorem Holds.nil (W:World) (B:Nat) (wd:Int):Holds W B wd [] (fun _=>none):=fun _ _=> .inl ⟨rfl,fun⟨_,h,_⟩=>by cases h⟩
theorem Holds.snoc {W:World} {B:Nat} {wd:Int} {ks:List Kd} {f:Lit->Option Value} (h:Holds W B wd ks f) {x:Kd} {ra:Option Addr} {rc:Nat} (hx:(x.sum.size:Int)=wd) (h8:wd<=8) (hr:SRow W B ra x.refs):Holds W B wd (ks++[x]) (upd f (keyL x.sum) (keptV x ra rc)):=by
 intro s hs;by_cases he:keyL s=keyL x.sum
 ·have:s=x.sum:=key_inj he (by omega) (by omega)
  subst this;exact .inr ⟨x,ra,rc,by simp,rfl,upd_same _ _ _,hr⟩
 ·rw[upd_other _ _ he]
  have hne:x.sum≠s:=fun e=>he (by rw[e]);rcases h s hs with⟨h1,h2⟩|⟨u,ra',rc',h1,h2,h3,h4⟩
  ·refine .inl ⟨h1,fun⟨u,hu,e⟩=> ?_⟩
   rcases List.mem_append.1 hu with hu|hu
   ·exact h2 ⟨u,hu,e⟩
   ·simp at hu;subst hu;exact hne e
  ·exact .inr ⟨u,ra',rc',by simp[h1],h2,h3,h4⟩
theorem zeroKept (w:World):(zeroValue 114).run prog w=.ok (.agg #[.string ⟨#[]⟩,.int .i64 0,.string ⟨#[]⟩,.slice none 0 0]) w:=by kernel_rfl
theorem KMap.setCell {w:World} {K:TypeId} {b n:Nat} {f:Lit->Option Value} (h:KMap w K b n f) {a:Addr} (ha:b≠a.block) (u:Value):KMap (w.setCell a u) K b n f:=by
 obtain⟨D,h1,h2⟩:=h;exact⟨D,h1.setCell ha u,h2⟩
def FS (wr:World) (h:Nat) (m s b t r:Value) (w':World):Prop:=
 w'.cell? ⟨h+1+1+1,1,none⟩=some m/\w'.cell? ⟨wr.heap.size,0,none⟩=some s/\w'.cell? ⟨wr.heap.size,1,none⟩=some b/\w'.cell? ⟨wr.heap.size,2,none⟩=some t/\w'.cell? ⟨wr.heap.size,3,none⟩=some r
theorem FS.keep {wr w' w'':World} {h:Nat} {m s b t r:Value} (x:FS wr h m s b t r w') (hb:Below w'.heap.size w' w'') (h1:h+3<w'.heap.size) (h2:wr.heap.size<w'.heap.size):FS wr h m s b t r w'':=by
 obtain⟨a0,a1,a2,a3,a4⟩:=x;exact⟨(hb.cell (p:=⟨h+1+1+1,1,none⟩) h1).trans a0,(hb.cell (p:=⟨wr.heap.size,0,none⟩) h2).trans a1,(hb.cell (p:=⟨wr.heap.size,1,none⟩) h2).trans a2,(hb.cell (p:=⟨wr.heap.size,2,none⟩) h2).trans a3,(hb.cell (p:=⟨wr.heap.size,3,none⟩) h2).trans a4⟩
theorem FS.grown {wr w' w'':World} {h q:Nat} {m s b t r:Value} (x:FS wr h m s b t r w') (hg:w'.grownBy w'' (some q)) (h1:h+1+1+1≠q) (h2:wr.heap.size≠q):FS wr h m s b t r w'':=by
 obtain⟨a0,a1,a2,a3,a4⟩:=x;exact⟨hg.cell a0 (by simpa using h1),hg.cell a1 (by simpa using h2),hg.cell a2 (by simpa using h2),hg.cell a3 (by simpa using h2),hg.cell a4 (by simpa using h2)⟩
theorem shelfOf_any (wd now given births:Int) (a:Option Addr) (ac:Nat) (P L:Value) (ks:List Kd) (w:World) (hrow:KRow w w.heap.size a ks) (hl:ks.length<=1048576) (hsz:∀k∈ks,(k.sum.size:Int)=wd) (h8:wd<=8):
 Calls prog 134 #[.agg #[.int .i64 wd,.int .i64 now,.int .i64 given,.int .i64 births,.slice a ks.length ac,P,L]] w fun e w'=>∃m f,e=.returned (.agg #[.int .i64 wd,.map (some m)])/\(w.heap.size<=m/\m<=w.heap.size+2)/\KMap w' 139 m ks.length f/\Holds w w.heap.size wd ks f/\Below w.heap.size w w':=by
 have hmm:= @run_makeMap prog;go_enter func134,ntmps134;go_wp2
 obtain⟨W0,hW0⟩:∃W,W=((((w.alloc (Obj.cells #[Value.int IntKind.i64 wd,Value.int IntKind.i64 now,Value.int IntKind.i64 given,Value.int IntKind.i64 births,Value.slice a ks.length ac,P,L] 28)).alloc (Obj.cells #[Value.int IntKind.i64 0,Value.map none] 128)).alloc (Obj.map #[] 0)).alloc (Obj.cells #[Value.int IntKind.i64 wd,Value.map (some (w.heap.size+1+1))] 128)):=⟨_,rfl⟩
 have hB0:Below w.heap.size w W0:=by
  rw[hW0];exact(((((Below.refl _ _).alloc (Nat.le_refl _) _).alloc (by simp) _).alloc (by simp;omega) _).alloc (by simp;omega) _)
 have hz0:W0.heap.size=w.heap.size+4:=by rw[hW0];simp
 have hM0:KMap W0 139 (w.heap.size+1+1) 0 (fun _=>none):=by
  have:=KMap.new ((w.alloc (Obj.cells #[Value.int IntKind.i64 wd,Value.int IntKind.i64 now,Value.int IntKind.i64 given,Value.int IntKind.i64 births,Value.slice a ks.length ac,P,L] 28)).alloc (Obj.cells #[Value.int IntKind.i64 0,Value.map none] 128)) 139;rw[hW0]
  have h2:=this.keep ((Below.refl _ _).alloc (Nat.le_refl _) (Obj.cells #[Value.int IntKind.i64 wd,Value.map (some (w.heap.size+1+1))] 128)) this.lt;simpa using h2
 have s0:W0.cell? ⟨w.heap.size+1+1+1,0,none⟩=some (.int .i64 wd):=by rw[hW0];simp[go_sem]
 have s1:W0.cell? ⟨w.heap.size+1+1+1,1,none⟩=some (.map (some (w.heap.size+1+1))):=by rw[hW0];simp[go_sem]
 have r0:W0.cell? ⟨w.heap.size+1,0,none⟩=some (.int .i64 0):=by rw[hW0];simp[go_sem]
 have r1:W0.cell? ⟨w.heap.size+1,1,none⟩=some (.map none):=by rw[hW0];simp[go_sem]
 have rf:∀j,W0.frozen? ⟨w.heap.size+1,j,none⟩=false:=fun j=>by rw[hW0];simp[go_sem]
 rw[←hW0];clear hW0 hmm
 go_loopw [13] (fun i wr=>∃(k:Nat) (f:Lit->Option Value),k<=ks.length/\i=.int .i64 k/\Hid (KMap wr 139 (w.heap.size+1+1) k f)/\Hid (Holds w w.heap.size wd (ks.take k) f)/\W0.grownBy wr (some (w.heap.size+1+1))) (fun i _=>ks.length -(intOf i).toNat)
 case atStart=>exact⟨0,_,Nat.zero_le _,rfl,hM0,by rw[List.take_zero];exact Holds.nil w w.heap.size wd,grown_refl _ _⟩
 case round=>
  obtain⟨k,f,hk,rfl,HM,HF,hgr⟩:=hrel;have hbel:Below w.heap.size w wr:=hB0.grown hgr (by omega) (by intro j hj;cases hj;omega);have t0:=hgr.cell s0 (by simp);have t1:=hgr.cell s1 (by simp);have hzr:=hgr.size;by_cases hlt:k<ks.length
  ·obtain⟨b,off,ha,hb,hc⟩:=(hrow.below hbel).at hlt
   subst ha;have HG:Hid (ks[k]?=some ks[k]):=List.getElem?_eq_getElem hlt;obtain⟨c0,c1,c2,ra,rc,c3,_⟩:=hc k _ HG.out;obtain⟨b',off',ha',_,hc'⟩:=hrow.at hlt;cases ha';obtain⟨_,_,_,ra',rc',c3',hr'⟩:=hc' k _ HG.out;have hra:ra'=ra/\rc'=rc:=by
    have:=(hbel.cell (p:=⟨b,off+k *4+3,none⟩) hb).trans c3';rw[c3] at this;simp at this;exact⟨this.1.symm,this.2.symm⟩
   obtain⟨rfl,rfl⟩:=hra;have hxs:=hsz _ (List.getElem_mem hlt);have hbr:b<wr.heap.size:=by omega
   have HR:Hid _:=hr';clear hc hc' hr' c3' hsz hrow;generalize ks[k]=x at *
   go_wp2;have hb1:Below wr.heap.size wr (wr.alloc (Obj.cells #[Value.string x.sum,Value.int IntKind.i64 x.born,Value.string x.text,Value.slice ra' x.refs.length rc'] 114)):=(Below.refl _ _).alloc (Nat.le_refl _) _
   have hT:FS wr w.heap.size (.map (some (w.heap.size+1+1))) (.string x.sum) (.int .i64 x.born) (.string x.text) (.slice ra' x.refs.length rc') (wr.alloc (Obj.cells #[Value.string x.sum,Value.int IntKind.i64 x.born,Value.string x.text,Value.slice ra' x.refs.length rc'] 114)):=⟨(hb1.cell (p:=⟨w.heap.size+1+1+1,1,none⟩) (by simp;omega)).trans t1,by simp,by simp,by simp,by simp⟩
   have hTd:FS wr w.heap.size (.map (some (w.heap.size+1+1))) (.string x.sum) (.int .i64 x.born) (.string x.text) (.slice ra' x.refs.length rc') (wr.alloc (Obj.cells #[Value.string x.sum,Value.int IntKind.i64 x.born,Value.string x.text,Value.slice ra' x.refs.length rc'] 114)).drew:=hT
   go_region_held3 (fun w'=>w'.cell? ⟨w.heap.size+1+1+1,1,none⟩=some (.map (some (w.heap.size+1+1)))/\w'.cell? ⟨wr.heap.size,0,none⟩=some (.string x.sum)/\w'.cell? ⟨wr.heap.size,1,none⟩=some (.int .i64 x.born)/\w'.cell? ⟨wr.heap.size,2,none⟩=some (.string x.text)/\w'.cell? ⟨wr.heap.size,3,none⟩=some (.slice ra' x.refs.length rc'))
    (first|exact T3|exact T2|exact hTd)
    (first
    |(go_at_call 135;refine(key_any x.sum _).mono ?_;rintro e w2 ⟨rfl,hb2⟩;have T2:FS wr w.heap.size (.map (some (w.heap.size+1+1))) (.string x.sum) (.int .i64 x.born) (.string x.text) (.slice ra' x.refs.length rc') w2:=FS.keep hTd hb2 (by simp;omega) (by simp);have hb12:Below wr.heap.size wr w2:=hb1.drew.trans (hb2.mono (by simp));obtain⟨w3,hup,hm3,hg3⟩:=(HM.out.keep hb12 (by omega)).put keyed underlying126 (val:=keptV x ra' rc') (by unfold maxLen;omega) (key_lit x.sum);have T3:FS wr w.heap.size (.map (some (w.heap.size+1+1))) (.string x.sum) (.int .i64 x.born) (.string x.text) (.slice ra' x.refs.length rc') w3:=FS.grown T2 hg3 (by simp) (by simp;omega);unfold keptV at hup))
   all_goals
    have hgn:W0.grownBy w3 (some (w.heap.size+1+1)):=grown_trans hgr (grown_trans (grown_below _ hb12) hg3);have HN:Hid (Holds w w.heap.size wd (ks.take (k+1)) (upd f (keyL x.sum) (keptV x ra' rc'))):=by
     have:=HF.out.snoc (rc:=rc') hxs h8 HR.out;rw[List.take_add_one,HG.out];exact this
    have HMn:Hid _:=hm3;clear hm3 hup T2 T3 hg3 hb12 hb2;go_wp2;exact⟨⟨k+1,_,by omega,by go_num,HMn,HN,hgn⟩,by simp[intOf];omega⟩
  ·have p0:=hgr.cell r0 (by simp)
   have p1:=hgr.cell r1 (by simp);have pf:∀j,wr.frozen? ⟨w.heap.size+1,j,none⟩=false:=fun j=>(hgr.frozen_far ⟨w.heap.size+1,j,none⟩ (by simp;omega) (by simp)).trans (rf j);rw[List.take_of_length_le (by omega)] at HF;obtain rfl:k=ks.length:=by omega
   go_wp2;refine bodyPost_ret (v:=.agg #[.int .i64 wd,.map (some (w.heap.size+1+1))]) (by simp[results,results134,go_sem,p0,p1]) rfl ⟨_,f,rfl,by omega,?_,HF.out,?_⟩
   ·exact(KMap.setCell (KMap.setCell HM.out (by simp) _) (by simp) _)
   ·exact(hbel.setCell (by simp) _).setCell (by simp) _
def FD (b m:Nat) (s:ByteArray) (v:Value) (w':World):Prop:=
 w'.cell? ⟨b,1,none⟩=some (.map (some m))/\(Instr.lookup 126 (.map (some m)) (keyV s) true).run prog w'=.ok v w'
theorem FD.of {W w':World} {b m n B:Nat} {s:ByteArray} {f:Lit->Option Value} (hc:W.cell? ⟨b,1,none⟩=some (.map (some m))) (hM:KMap W 139 m n f) (hb:b<B) (hm:m<B) (h:Below B W w'):
 FD b m s (.tuple #[(f (keyL s)).getD (.agg #[.string ⟨#[]⟩,.int .i64 0,.string ⟨#[]⟩,.slice none 0 0]),.bool (f (keyL s)).isSome]) w':=
 ⟨(h.cell (p:=⟨b,1,none⟩) hb).trans hc,(hM.keep h hm).look_ok keyed underlying126 (zeroKept _) (key_lit s)⟩
theorem find_any' (wd:Int) (m n:Nat) (f:Lit->Option Value) (s:ByteArray) (w:World) (hM:KMap w 139 m n f) (hs:(s.size:Int)=wd) (u:ByteArray) (bo:Int) (t:ByteArray) (sl:Value) (ok:Bool)
 (hsl:(∃a l c,sl=.slice a l c)) (hf:(f (keyL s)).getD (.agg #[.string ⟨#[]⟩,.int .i64 0,.string ⟨#[]⟩,.slice none 0 0])=.agg #[.string u,.int .i64 bo,.string t,sl]) (hok:(f (keyL s)).isSome=ok):
 Calls prog 123 #[.agg #[.int .i64 wd,.map (some m)],.string s] w fun e w'=>e=.returned (.tuple #[.agg #[.string u,.int .i64 bo,.string t,sl],.bool ok])/\Below w.heap.size w w':=by
 obtain⟨sa,sb,sc,rfl⟩:=hsl;have hml:=hM.lt;have hb0:∀o1 o2,Below w.heap.size w ((w.alloc o1).alloc o2):=fun o1 o2=>((Below.refl _ _).alloc (Nat.le_refl _) _).alloc (by simp) _;go_enter func123,ntmps123;go_wp2
 obtain⟨W,hW⟩:∃W,W=(w.alloc (Obj.cells #[Value.int IntKind.i64 wd,Value.map (some m)] 128)).alloc (Obj.cells #[Value.string ⟨#[]⟩,Value.int IntKind.i64 0,Value.string ⟨#[]⟩,Value.slice none 0 0] 114):=⟨_,rfl⟩;have hz:W.heap.size=w.heap.size+1+1:=by rw[hW];simp
 have hBW:Below w.heap.size w W:=by rw[hW];exact hb0 _ _
 have c1:W.cell? ⟨w.heap.size,1,none⟩=some (.map (some m)):=by rw[hW];simp[go_sem]
 have r0:∃v,W.cell? ⟨w.heap.size+1,0,none⟩=some v:=by rw[hW];simp[go_sem]
 have r1:∃v,W.cell? ⟨w.heap.size+1,1,none⟩=some v:=by rw[hW];simp[go_sem]
 have r2:∃v,W.cell? ⟨w.heap.size+1,2,none⟩=some v:=by rw[hW];simp[go_sem]
 have r3:∃v,W.cell? ⟨w.heap.size+1,3,none⟩=some v:=by rw[hW];simp[go_sem]
 have rf:∀j,W.frozen? ⟨w.heap.size+1,j,none⟩=false:=fun j=>by rw[hW];simp[go_sem]
 obtain⟨v0,r0⟩:=r0;obtain⟨v1,r1⟩:=r1;obtain⟨v2,r2⟩:=r2;obtain⟨v3,r3⟩:=r3;have hD:∀w',Below W.heap.size W w'->FD w.heap.size m s (.tuple #[.agg #[.string u,.int .i64 bo,.string t,.slice sa sb sc],.bool ok]) w':=fun w' h=>by
  have:=FD.of (s:=s) c1 (hM.keep hBW hml) (by omega) (by omega) h;rw[hf,hok] at this;exact this
 have HD:Hid _:=hD;have hN:w.heap.size+1<W.heap.size:=by omega
 have hN0:w.heap.size<W.heap.size:=by omega
 rw[←hW];clear hW hD hf hok hM hz;go_region_held3 (fun w'=>w'.cell? ⟨w.heap.size,1,none⟩=some (.map (some m))/\(Instr.lookup 126 (.map (some m)) (keyV s) true).run prog w'=.ok (.tuple #[.agg #[.string u,.int .i64 bo,.string t,.slice sa sb sc],.bool ok]) w')
  (first
    |exact HD.out _ hB2
    |exact HD.out _ (hB2.alloc (Nat.le_trans (Nat.le_refl _) hB2.size) _)
    |exact HD.out _ ((Below.refl _ _).drew.alloc (by simp) _)
    |exact HD.out _ (Below.refl _ _).drew
    |exact HD.out _ ((((hB2.setCell (by simp) _).setCell (by simp) _).setCell (by simp) _).setCell (by simp) _)
    |exact HD.out _ (hB2.alloc hB2.size _))
  (first
    |(go_at_call 135;refine(key_any s W.drew).mono ?_;rintro e w2 ⟨rfl,hb2⟩;have hB2:Below W.heap.size W w2:=(Below.refl _ _).drew.trans (hb2.mono (by simp));have hz2:=hB2.size)
    |(go_at_call 135;refine(key_any s (W.alloc _).drew).mono ?_;rintro e w2 ⟨rfl,hb2⟩;have hB2:Below W.heap.size W w2:=((Below.refl _ _).alloc (Nat.le_refl _) _).drew.trans (hb2.mono (by simp));have hz2:W.heap.size<w2.heap.size:=(by have:=hb2.size;simp at this;omega);have n0:w2.cell? ⟨W.heap.size,0,none⟩=some (.string ⟨#[]⟩):=(by rw[hb2.cell (p:=⟨W.heap.size,0,none⟩) (by simp)];simp[go_sem]);have n1:w2.cell? ⟨W.heap.size,1,none⟩=some (.int .i64 0):=(by rw[hb2.cell (p:=⟨W.heap.size,1,none⟩) (by simp)];simp[go_sem]);have n2:w2.cell? ⟨W.heap.size,2,none⟩=some (.string ⟨#[]⟩):=(by rw[hb2.cell (p:=⟨W.heap.size,2,none⟩) (by simp)];simp[go_sem]);have n3:w2.cell? ⟨W.heap.size,3,none⟩=some (.slice none 0 0):=(by rw[hb2.cell (p:=⟨W.heap.size,3,none⟩) (by simp)];simp[go_sem]);have nf:∀j,w2.frozen? ⟨W.heap.size,j,none⟩=false:=(fun j=>by rw[hb2.frozen (p:=⟨W.heap.size,j,none⟩) (by simp)];simp[go_sem])))
 all_goals
  have p0:=(hB2.cell (p:=⟨w.heap.size+1,0,none⟩) hN).trans r0;have p1:=(hB2.cell (p:=⟨w.heap.size+1,1,none⟩) hN).trans r1;have p2:=(hB2.cell (p:=⟨w.heap.size+1,2,none⟩) hN).trans r2;have p3:=(hB2.cell (p:=⟨w.heap.size+1,3,none⟩) hN).trans r3;have pf:∀j,w2.frozen? ⟨w.heap.size+1,j,none⟩=false:=fun j=>(hB2.frozen (p:=⟨w.heap.size+1,j,none⟩) hN).trans (rf j)
  have hBw:Below w.heap.size w w2:=hBW.trans (hB2.mono (by omega));have hlt2:w.heap.size+1<w2.heap.size:=by omega
  have hne2:¬W.heap.size=w.heap.size+1:=by omega
  have hne3:¬w.heap.size+1=W.heap.size:=by omega
  clear hb2 HD;go_wp2;refine bodyPost_ret (v:=.tuple #[.agg #[.string u,.int .i64 bo,.string t,.slice sa sb sc],.bool ok]) (by first|(simp[results,results123,go_sem,p0,p1,p2,p3];done)|(simp[results,results123,go_sem,p0,p1,p2,p3,hlt2];done)) rfl ⟨rfl,?_⟩
  first
   |(have hnf:=nf 0;exact((((((((hBw.setCell (by simp;omega) _).setCell (by simp;omega) _).setCell (by simp;omega) _).setCell (by simp;omega) _).setCell (by simp) _).setCell (by simp) _).setCell (by simp) _).setCell (by simp) _))
   |exact(((((hBw.setCell (by simp) _).setCell (by simp) _).setCell (by simp) _).setCell (by simp) _).alloc (by simp;omega) _)
theorem find_no (wd:Int) (m:Nat) (s:ByteArray) (w:World) (hs:¬(s.size:Int)=wd):
 Calls prog 123 #[.agg #[.int .i64 wd,.map (some m)],.string s] w fun e w'=>e=.returned (.tuple #[.agg #[.string ⟨#[]⟩,.int .i64 0,.string ⟨#[]⟩,.slice none 0 0],.bool false])/\Below w.heap.size w w':=by
 have hs':((s.size:Int)==wd)=false:=by simpa using hs
 go_enter func123,ntmps123;go_wp2;refine bodyPost_ret (v:=.tuple #[.agg #[.string ⟨#[]⟩,.int .i64 0,.string ⟨#[]⟩,.slice none 0 0],.bool false]) (by simp[results,results123,go_sem]) rfl ⟨rfl,?_⟩;exact((Below.refl _ _).alloc (Nat.le_refl _) _).alloc (by simp) _
structure Found (ks:List Kd) (s:ByteArray) (bo:Int) (ok:Bool):Prop where
 no:ok=false->¬There ks s
 yes:ok=true->∃x∈ks,x.sum=s/\x.born=bo
theorem shelf_find (wd:Int) (m n:Nat) (f:Lit->Option Value) (ks:List Kd) (W:World) (B:Nat) (s:ByteArray) (w:World) (hM:KMap w 139 m n f) (hH:Holds W B wd ks f) (hsz:∀k∈ks,(k.sum.size:Int)=wd):
 ∃u bo t sa sb sc ok,Found ks s bo ok/\∀w',Below w.heap.size w w'->Calls prog 123 #[.agg #[.int .i64 wd,.map (some m)],.string s] w' fun e w''=>e=.returned (.tuple #[.agg #[.string u,.int .i64 bo,.string t,.slice sa sb sc],.bool ok])/\Below w'.heap.size w' w'':=by
 by_cases hs:(s.size:Int)=wd
 ·rcases hH s hs with⟨h1,h2⟩|⟨x,ra,rc,h1,h2,h3,_⟩
  ·exact⟨⟨#[]⟩,0,⟨#[]⟩,none,0,0,false,⟨fun _=>h2,fun h=>by cases h⟩,fun w' hb=>find_any' wd m n f s w' (hM.keep hb hM.lt) hs _ _ _ _ _ ⟨_,_,_,rfl⟩ (by rw[h1];rfl) (by rw[h1];rfl)⟩
  ·exact⟨x.sum,x.born,x.text,ra,x.refs.length,rc,true,⟨fun h=>by(cases h),fun _=>⟨x,h1,h2,rfl⟩⟩,fun w' hb=>find_any' wd m n f s w' (hM.keep hb hM.lt) hs _ _ _ _ _ ⟨_,_,_,rfl⟩ (by rw[h3];rfl) (by rw[h3];rfl)⟩
 ·exact⟨⟨#[]⟩,0,⟨#[]⟩,none,0,0,false,⟨fun _ ⟨x,hx,e⟩=>hs (by rw[←e];exact hsz x hx),fun h=>by cases h⟩,fun w' _=>find_no wd m s w' hs⟩
theorem shelf_has (wd:Int) (m n:Nat) (f:Lit->Option Value) (ks:List Kd) (W:World) (B:Nat) (s:ByteArray) (w:World) (hM:KMap w 139 m n f) (hH:Holds W B wd ks f) (hsz:∀k∈ks,(k.sum.size:Int)=wd):
 ∃ok,(ok=true↔There ks s)/\∀w',Below w.heap.size w w'->Calls prog 223 #[.agg #[.int .i64 wd,.map (some m)],.string s] w' fun e w''=>e=.returned (.bool ok)/\Below w'.heap.size w' w'':=by
 obtain⟨u,bo,t,sa,sb,sc,ok,hfd,hcl⟩:=shelf_find wd m n f ks W B s w hM hH hsz;refine⟨ok,⟨fun h=> ?_,fun h=> ?_⟩,fun w' hb=> ?_⟩
 ·obtain⟨x,hx,e,_⟩:=hfd.yes h
  exact⟨x,hx,e⟩
 ·cases ok with
  |true=>rfl
  |false=>exact absurd h (hfd.no rfl)
 ·have hb1:Below w'.heap.size w' (w'.alloc (.cells #[.int .i64 wd,.map (some m)] 128)):=(Below.refl _ _).alloc (Nat.le_refl _) _
  have HC:Hid _:=hcl _ (hb.trans (hb1.mono hb.size));clear hcl hM hH hsz hfd;go_enter func223,ntmps223;go_wp2_with fail;refine Calls.mono HC.out ?_;rintro e w2 ⟨rfl,hb2⟩;go_wp2;go_ret;exact⟨rfl,(hb1.trans (hb2.mono (by simp))).alloc (by have:=hb2.size;simp at this;omega) _⟩
end
section
attribute [local go_sem↓] Go.wp_at_zero Go.wp_at_succ
section
open Go.WideElems Go.MapKept Go.ChangeMaps
end
def KMapC (w:World) (K:TypeId) (b n c:Nat) (f:Lit->Option Value):Prop:=
 ∃D:DataW Value,w.ownsMap prog K heldR b n D/\(∀kl z,D.atKey kl (.held z)=.held ((f kl).getD z))/\(∀kl,Maps.has D kl=(f kl).isSome)/\Maps.Tidy D/\Maps.size D=c
structure MK (ms:List ByteArray) (f:Lit->Option Value) (c:Nat):Prop where
 has:∀l,(f l).isSome=true↔l∈ms.map keyL
 num:∀l v,f l=some v->∃n:Int,v=.int .i64 n/\1<=n/\n<=ms.length
 le:c<=ms.length
 all:c=ms.length↔(ms.map keyL).Nodup
end
structure Cls (W:World) where
 w:World
 h:Below W.heap.size W w
theorem Cls.ne (W:World):Nonempty (Cls W):=⟨⟨W,Below.refl _ _⟩⟩
theorem Cls.cell {W:World} {b o:Nat} {v:Value} (hv:W.cell? ⟨b,o,none⟩=some v) (hb:b<W.heap.size) (n:Cls W):n.w.cell? ⟨b,o,none⟩=some v:=(n.h.cell (p:=⟨b,o,none⟩) hb).trans hv
def Cls.next {W:World} (n:Cls W) {w':World} (h:Below n.w.heap.size n.w w'):Cls W:=⟨w',n.h.trans (h.mono n.h.size)⟩
theorem region_cls {P:Program} {ops:Array Oper} {id:Nat} {Q:Exit->Act->World->Prop} {a:Act} {w:World} (hm:P.follows .mixedOrders=true) (hB:Region.lexB .any ops=true)
 (h:wpQuiet P ops (fun w'=>∃n:Cls w,w'=n.w) (fun a'=>∀n:Cls w,Q .normal a' n.w) ops.toList a):(Code.region id ops true).wp P Q a w:=by
 refine wp_region_quiet (C:=fun w'=>∃n:Cls w,w'=n.w) hm hB ⟨⟨_,(Below.refl _ _).drew⟩,rfl⟩ ?_;have e:(fun a'=>∀w',(∃n:Cls w,w'=n.w)->Q .normal a' w')=(fun a'=>∀n:Cls w,Q .normal a' n.w):=by
  funext a'
  exact propext ⟨fun h n=>h _ ⟨n,rfl⟩,fun h _ ⟨n,e⟩=>e▸h n⟩
 rw[e];exact h
theorem region_cls_lit {P:Program} {l:List Oper} {id:Nat} {Q:Exit->Act->World->Prop} {a:Act} {w:World} (hm:P.follows .mixedOrders=true) (hB:Region.lexB .any l.toArray=true)
 (h:wpQuiet P l.toArray (fun w'=>∃n:Cls w,w'=n.w) (fun a'=>∀n:Cls w,Q .normal a' n.w) l a):(Code.region id l.toArray true).wp P Q a w:=
 region_cls hm hB (by simpa using h)
theorem Cls.calls {P:Program} {f:FuncId} {args:Array Value} {W:World} {v:Value} {n:Cls W} (h:Calls P f args n.w fun e w'=>e=.returned v/\Below n.w.heap.size n.w w'):
 Calls P f args n.w fun e w''=>e=.returned v/\∃m:Cls W,w''=m.w:=
 h.mono fun _ _ ⟨he,hb⟩=>⟨he,n.next hb,rfl⟩
theorem formTxt_size (t:ByteArray) (ss:List ByteArray) (wd:Int):(formTxt t ss wd).size<=maxLen:=by
 unfold formTxt;split
 ·rename_i h
  have h:=okThing_parts h;have h1:=h.bulk_le;have h2:=h.text;have:(ByteArray.mk (formB t ss).toArray).size=1+(bulk ss+t.size):=by
   show(formB t ss).toArray.size=_;simp only[List.size_toArray,formB,List.length_cons,List.length_append,flat_length,Array.length_toList];show _+t.size+1=_;omega
  rw[this];unfold maxLen;omega
 ·simp[maxLen]
def HasAt (w:World) (wd:Int) (m:Nat) (ks:List Kd) (s:ByteArray):Prop:=
 ∃ok,(ok=true↔There ks s)/\∀w',Below w.heap.size w w'->Calls prog 223 #[.agg #[.int .i64 wd,.map (some m)],.string s] w' fun e w''=>e=.returned (.bool ok)/\Below w'.heap.size w' w''
def Says (P:Prop) (w0 w:World) (e:Ending):Prop:=∃b,e=.returned (.bool b)/\(b=true↔P)/\Below w0.heap.size w0 w
theorem Says.yes {P:Prop} {w0 w:World} (h:P) (hb:Below w0.heap.size w0 w):Says P w0 w (.returned (.bool true)):=⟨_,rfl,by simpa using h,hb⟩
theorem Says.no {P:Prop} {w0 w:World} (h:¬P) (hb:Below w0.heap.size w0 w):Says P w0 w (.returned (.bool false)):=⟨_,rfl,by simpa using h,hb⟩
def FindAt (w:World) (wd:Int) (m:Nat) (ks:List Kd) (s:ByteArray):Prop:=
 ∃u bo t sa sb sc ok,Found ks s bo ok/\∀w',Below w.heap.size w w'->Calls prog 123 #[.agg #[.int .i64 wd,.map (some m)],.string s] w' fun e w''=>e=.returned (.tuple #[.agg #[.string u,.int .i64 bo,.string t,.slice sa sb sc],.bool ok])/\Below w'.heap.size w' w''
theorem iwidth_any (n:Int) (w:World):
 Calls prog 44 #[.int .i64 n] w fun e w'=>e=.returned (.bool (decide (1<=n/\n<=8)))/\w'=w:=by
 by_cases h1:1<=n
 ·by_cases h2:n<=8
  ·go_enter func44,ntmps44
   go_wp2;go_ret;exact⟨ret_b (by simp[h1,h2]),rfl⟩
  ·have h2':decide (n<=8)=false:=by simpa using h2
   go_enter func44,ntmps44;go_wp2;go_ret;exact⟨rfl,rfl⟩
 ·have h1':decide (1<=n)=false:=by simpa using h1
  go_enter func44,ntmps44;go_wp2;go_ret;exact⟨rfl,rfl⟩
theorem sumOf_size (k:Kd) (wd:Int) (h:1<=wd):((sumOf k wd).size:Int)=wd:=by
 have e:∀l:List Int,(strOfNums l).size=l.length:=fun l=>by unfold strOfNums;simp[ByteArray.size]
 unfold sumOf sumText;rw[e,sumNums_length];omega
theorem swidth_any (n:Int) (w:World):
 Calls prog 40 #[.int .i64 n] w fun e w'=>e=.returned (.bool (decide (1<=n/\n<=8)))/\w'=w:=by
 by_cases h1:1<=n
 ·by_cases h2:n<=8
  ·go_enter func40,ntmps40
   go_wp2;go_ret;exact⟨ret_b (by simp[h1,h2]),rfl⟩
  ·have h2':decide (n<=8)=false:=by simpa using h2
   go_enter func40,ntmps40;go_wp2;go_ret;exact⟨rfl,rfl⟩
 ·have h1':decide (1<=n)=false:=by simpa using h1
  go_enter func40,ntmps40;go_wp2;go_ret;exact⟨rfl,rfl⟩
theorem key_out (s:ByteArray) (w:World):
 Calls prog 135 #[.string s] w fun e w'=>e=.returned (.agg #[.int .u8 (kB s 0),.int .u8 (kB s 1),.int .u8 (kB s 2),.int .u8 (kB s 3),.int .u8 (kB s 4),.int .u8 (kB s 5),.int .u8 (kB s 6),.int .u8 (kB s 7)])/\Below w.heap.size w w':=key_any s w
def oneK (s:ByteArray):Obj:=.cells #[.int .u8 (kB s 0),.int .u8 (kB s 1),.int .u8 (kB s 2),.int .u8 (kB s 3),.int .u8 (kB s 4),.int .u8 (kB s 5),.int .u8 (kB s 6),.int .u8 (kB s 7)] 139
theorem R8.one (w:World) (s:ByteArray):R8 (w.alloc (oneK s)) (w.heap.size+1) (.slice (some ⟨w.heap.size,0,none⟩) 1 1) [s]:=by
 refine .inr ⟨w.heap.size,0,1,rfl,by omega,fun i t ht j hj=> ?_⟩;cases i with
 |zero=>
  simp at ht;subst ht;rw[Nat.zero_mul,Nat.zero_add,Nat.zero_add];unfold oneK;rw[World.cell?_alloc_at _ _ _ _ rfl]
  match j,hj with
  |0,_|1,_|2,_|3,_|4,_|5,_|6,_|7,_=>rfl
 |succ i=>simp at ht
section
section
open Go.WideElems Go.MapKept Go.ChangeMaps
end
def linkL (E:List (ByteArray×ByteArray)) (t:ByteArray):List ByteArray:=E.filterMap (fun p=>if p.1=t then some p.2 else none)
noncomputable def rowV (f:Lit->Option Value) (t:ByteArray):Value:=(f (keyL t)).getD (.slice none 0 0)
structure Lk (w:World) (base b n:Nat) (wd:Int) (E:List (ByteArray×ByteArray)) (av:List Nat) (f:Lit->Option Value):Prop where
 map:KMap w 139 b n f
 row:∀t:ByteArray,(t.size:Int)=wd->QRow w base (rowV f t) (linkL E t)
 apart:∀s t:ByteArray,(s.size:Int)=wd->(t.size:Int)=wd->s≠t->∀g,sBlk (rowV f s)=some g->sBlk (rowV f t)≠some g
 far:∀t:ByteArray,(t.size:Int)=wd->∀g,sBlk (rowV f t)=some g->g∉av
end
section
attribute [local go_sem↓] Go.wp_at_zero Go.wp_at_succ
theorem CellsAt.same {w w':World} {B:Nat} {l:List Value} (h:CellsAt w B l) (hb:w'.heap[B]?=w.heap[B]?):CellsAt w' B l:=
 fun j v hj=>⟨(World.cell?_of_block (a:=⟨B,j,none⟩) hb).trans (h j v hj).1,(World.frozen?_of_block (a:=⟨B,j,none⟩) hb).trans (h j v hj).2⟩
theorem alloc_same (w:World) (o:Obj) {b:Nat} (h:b<w.heap.size):(w.alloc o).heap[b]?=w.heap[b]?:=Below.heap_alloc w o b h
theorem sk8 {w w':World} {B:Nat} {s:ByteArray} (h:w'.heap[B]?=w.heap[B]?) (hc:CellsAt w B [.int .u8 (kB s 0),.int .u8 (kB s 1),.int .u8 (kB s 2),.int .u8 (kB s 3),.int .u8 (kB s 4),.int .u8 (kB s 5),.int .u8 (kB s 6),.int .u8 (kB s 7)]):
 w'.cell? ⟨B,0,none⟩=some (.int .u8 (kB s 0))/\w'.cell? ⟨B,1,none⟩=some (.int .u8 (kB s 1))/\w'.cell? ⟨B,2,none⟩=some (.int .u8 (kB s 2))/\w'.cell? ⟨B,3,none⟩=some (.int .u8 (kB s 3))/\w'.cell? ⟨B,4,none⟩=some (.int .u8 (kB s 4))/\w'.cell? ⟨B,5,none⟩=some (.int .u8 (kB s 5))/\w'.cell? ⟨B,6,none⟩=some (.int .u8 (kB s 6))/\w'.cell? ⟨B,7,none⟩=some (.int .u8 (kB s 7)):=by
 have:=CellsAt.same hc h;exact⟨(this 0 _ rfl).1,(this 1 _ rfl).1,(this 2 _ rfl).1,(this 3 _ rfl).1,(this 4 _ rfl).1,(this 5 _ rfl).1,(this 6 _ rfl).1,(this 7 _ rfl).1⟩
end
end Go.Proofs.YtpekbmegopfhfaaGreatDoor
