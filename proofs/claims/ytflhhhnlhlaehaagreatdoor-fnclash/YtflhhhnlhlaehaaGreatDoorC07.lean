import Derived.Test.YtflhhhnlhlaehaaGreatDoorC06
import Derived.Deep.DrawnRows
import Derived.Deep.RegionHeld3
import Derived.WideKeyEntry
import Derived.Maps.Views
set_option maxRecDepth 100000
set_option maxHeartbeats 16000000
namespace Go.Proofs.YtflhhhnlhlaehaaGreatDoor
open Go.ChangeShapes Go.WideShapes Go.ChangeAt Go.RowKit _root_.Go.Proofs.Tryz
def Ab {A:Type} (c:A->List Value) (xs:List A):List Value:=xs.flatMap c
theorem Bb {A:Type} {c:A->List Value} {n:Nat} (h:∀x,(c x).length=n) (xs:List A):(Ab c xs).length=xs.length *n:=by
 unfold Ab;induction xs with
 |nil=>simp
 |cons x xs ih=>rw[List.flatMap_cons,List.length_append,ih,h,List.length_cons,Nat.add_mul];omega
theorem AT {A:Type} (c:A->List Value) (xs ys:List A):Ab c (xs++ys)=Ab c xs++Ab c ys:=by unfold Ab;rw[List.flatMap_append]
theorem Cf {A:Type} {c:A->List Value} {n:Nat} (h:∀x,(c x).length=n):∀{xs:List A} {i j:Nat} {x:A},xs[i]?=some x->j<n->(Ab c xs)[i *n+j]?=(c x)[j]?
 |[],_,_,_,hx,_=>by simp at hx
 |y::ys,0,j,x,hx,hj=>by
  simp at hx;subst hx;show(y::ys|>.flatMap c)[_]?=_;rw[List.flatMap_cons,Nat.zero_mul,Nat.zero_add,List.getElem?_append_left (by rw[h];exact hj)]
 |y::ys,i+1,j,x,hx,hj=>by
  have zA:ys[i]?=some x:=by simpa using hx
  show(y::ys|>.flatMap c)[_]?=_;rw[List.flatMap_cons,List.getElem?_append_right (by rw[h,Nat.add_mul];omega),h,show(i+1) *n+j -n=i *n+j by rw[Nat.add_mul];omega];exact Cf h zA hj
theorem MA {A:Type} {c:A->List Value} {n:Nat} (h:∀x,(c x).length=n) (hn:0<n) {xs:List A} {k:Nat} {u:Value} (hk:(Ab c xs)[k]?=some u):∃x,xs[k/n]?=some x/\(c x)[k%n]?=some u:=by
 have hl:=(Ut hk).1;rw[Bb h] at hl;have hd:=Nat.div_lt_of_lt_mul (by rw[Nat.mul_comm];exact hl);refine⟨xs[k/n],Uu hd,?_⟩;have:=Cf h (Uu hd) (Nat.mod_lt k hn);rw[show k/n *n+k%n=k by rw[Nat.mul_comm];exact Nat.div_add_mod k n] at this;rw[←this];exact hk
theorem El {A:Type} {c:A->List Value} {n:Nat} (h:∀x,(c x).length=n) (xs:List A) (i:Nat) (hi:i<=xs.length):(Ab c xs).take (i *n)=Ab c (xs.take i):=by
 have h1:Ab c xs=Ab c (xs.take i)++Ab c (xs.drop i):=by rw[←AT,List.take_append_drop]
 have h2:(Ab c (xs.take i)).length=i *n:=by rw[Bb h,List.length_take,Nat.min_eq_left hi]
 rw[h1,←h2,List.take_left]
theorem DH {A:Type} {c:A->List Value} {n:Nat} (h:∀x,(c x).length=n) (xs:List A) (i:Nat) (hi:i<=xs.length):(Ab c xs).drop (i *n)=Ab c (xs.drop i):=by
 have h1:Ab c xs=Ab c (xs.take i)++Ab c (xs.drop i):=by rw[←AT,List.take_append_drop]
 have h2:(Ab c (xs.take i)).length=i *n:=by rw[Bb h,List.length_take,Nat.min_eq_left hi]
 rw[h1,←h2,List.drop_left]
def pC (p:Pd):List Value:=[.string p.name,.string p.sum]
def lC (l:Ld):List Value:=[.int .i64 l.num,.string l.sum,.int .i64 l.til]
theorem Bp (p:Pd):(pC p).length=2:=rfl
theorem Cj (l:Ld):(lC l).length=3:=rfl
theorem Dh (s:ByteArray):(Ah s).length=8:=rfl
theorem Ey (ss:List ByteArray):AA ss=Ab Ah ss:=rfl
theorem Hr (ps:List Pd):∀u∈Ab pC ps,u.oneCell'=true:=by
 intro u hu;obtain⟨p,_,hp⟩:=List.mem_flatMap.1 hu;simp[pC] at hp;rcases hp with rfl|rfl<;>rfl
theorem Sb (ls:List Ld):∀u∈Ab lC ls,u.oneCell'=true:=by
 intro u hu;obtain⟨p,_,hp⟩:=List.mem_flatMap.1 hu;simp[lC] at hp;rcases hp with rfl|rfl|rfl<;>rfl
theorem CM {w:World} {base:Nat} {e:TypeId} {size:Nat} {v:Value} {n:Nat} {xs:List Value} (h:w.ownsRow base e size v n xs) (hn:v≠.slice none 0 0):∃g cap,v=.slice (some ⟨g,0,none⟩) n cap/\base<=g/\g<w.heap.size:=by
 rcases h.2 with⟨e,_⟩|⟨g,cap,zA,rfl,hb,hg,_⟩
 ·exact absurd e hn
 ·exact⟨g,cap,rfl,hb,(Array.getElem?_eq_some_iff.1 hg).1⟩
theorem Bo.cellsV {w:World} {B b off:Nat} {ps:List Pd} (h:Bo w B (some ⟨b,off,none⟩) ps):∀j u,(Ab pC ps)[j]?=some u->w.cell? ((⟨b,off,none⟩:Addr).add j)=some u:=by
 intro j u hu;obtain⟨p,hp,hv⟩:=MA Bp (by decide) hu;rcases h with h|⟨b',zA,h1,_,h3⟩
 ·subst h;simp at hp
 ·cases h1
  obtain⟨q0,q1⟩:=h3 _ p hp;rw[Go.WideShapes.add_plain];have hm:=Nat.mod_lt j (show 0<2 by decide);rcases(show j%2=0∨j%2=1 by omega) with hr|hr<;>rw[hr] at hv<;>simp[pC] at hv<;>subst hv
  ·rw[show off+j=off+j/2 *2 by omega];exact q0
  ·rw[show off+j=off+j/2 *2+1 by omega];exact q1
theorem Bj.cellsV {w:World} {B b off:Nat} {ps:List Ld} (h:Bj w B (some ⟨b,off,none⟩) ps):∀j u,(Ab lC ps)[j]?=some u->w.cell? ((⟨b,off,none⟩:Addr).add j)=some u:=by
 intro j u hu;obtain⟨p,hp,hv⟩:=MA Cj (by decide) hu;rcases h with h|⟨b',zA,h1,_,h3⟩
 ·subst h;simp at hp
 ·cases h1
  obtain⟨q0,q1,q2⟩:=h3 _ p hp;rw[Go.WideShapes.add_plain];have hm:=Nat.mod_lt j (show 0<3 by decide);rcases(show j%3=0∨j%3=1∨j%3=2 by omega) with hr|hr|hr<;>rw[hr] at hv<;>simp[lC] at hv<;>subst hv
  ·rw[show off+j=off+j/3 *3 by omega];exact q0
  ·rw[show off+j=off+j/3 *3+1 by omega];exact q1
  ·rw[show off+j=off+j/3 *3+2 by omega];exact q2
theorem Bo.own {w:World} {base:Nat} {a:Option Addr} {cap:Nat} {ps:List Pd} (h:w.ownsRow base 108 2 (.slice a ps.length cap) ps.length (Ab pC ps)):Bo w w.heap.size a ps:=by
 rcases h.2 with⟨e,hn⟩|⟨g,zA,zB,he,hb,hg,_⟩
 ·exact .inl (List.length_eq_zero_iff.1 hn)
 ·cases he
  refine .inr ⟨g,0,rfl,(h.lt g rfl).2,fun i x hx=> ?_⟩;have hi:=(Ut hx).1;have h0:=Cf Bp hx (show 0<2 by decide);have h1:=Cf Bp hx (show 1<2 by decide);rw[Nat.zero_add];exact⟨(h.cellAt _ (by omega)).trans h0,(h.cellAt _ (by omega)).trans h1⟩
theorem Bj.own {w:World} {base:Nat} {a:Option Addr} {cap:Nat} {ps:List Ld} (h:w.ownsRow base 111 3 (.slice a ps.length cap) ps.length (Ab lC ps)):Bj w w.heap.size a ps:=by
 rcases h.2 with⟨e,hn⟩|⟨g,zA,zB,he,hb,hg,_⟩
 ·exact .inl (List.length_eq_zero_iff.1 hn)
 ·cases he
  refine .inr ⟨g,0,rfl,(h.lt g rfl).2,fun i x hx=> ?_⟩;have hi:=(Ut hx).1;have h0:=Cf Cj hx (show 0<3 by decide);have h1:=Cf Cj hx (show 1<3 by decide);have h2:=Cf Cj hx (show 2<3 by decide);rw[Nat.zero_add];exact⟨(h.cellAt _ (by omega)).trans h0,(h.cellAt _ (by omega)).trans h1,(h.cellAt _ (by omega)).trans h2⟩
theorem Bo.cellsA {w:World} {B:Nat} {ad:Addr} {ps:List Pd} (h:Bo w B (some ad) ps):∀j u,(Ab pC ps)[j]?=some u->w.cell? (ad.add j)=some u:=by
 rcases h with rfl|⟨b,off,h1,h2,h3⟩
 ·intro j u hu;simp[Ab] at hu
 ·cases h1;exact Bo.cellsV (.inr ⟨b,off,rfl,h2,h3⟩)
theorem Bj.cellsA {w:World} {B:Nat} {ad:Addr} {ps:List Ld} (h:Bj w B (some ad) ps):∀j u,(Ab lC ps)[j]?=some u->w.cell? (ad.add j)=some u:=by
 rcases h with rfl|⟨b,off,h1,h2,h3⟩
 ·intro j u hu;simp[Ab] at hu
 ·cases h1;exact Bj.cellsV (.inr ⟨b,off,rfl,h2,h3⟩)
theorem Ad.cellsA {w:World} {B:Nat} {ad:Addr} {ss:List ByteArray} (h:Ad w B (some ad) ss):∀j u,(ss.map Value.string)[j]?=some u->w.cell? (ad.add j)=some u:=by
 rcases h with rfl|⟨b,off,h1,h2,h3⟩
 ·intro j u hu;simp at hu
 ·cases h1
  intro j u hu;rw[List.getElem?_map] at hu;cases hs:ss[j]? with
  |none=>rw[hs] at hu;cases hu
  |some s=>rw[hs] at hu;cases hu;rw[Go.WideShapes.add_plain];exact h3 j s hs
theorem Bo.nil {w:World} {B:Nat} {ps:List Pd} (h:Bo w B none ps):ps=[]:=by
 rcases h with h|⟨_,_,h,_⟩
 ·exact h
 ·cases h
theorem Bj.nil {w:World} {B:Nat} {ps:List Ld} (h:Bj w B none ps):ps=[]:=by
 rcases h with h|⟨_,_,h,_⟩
 ·exact h
 ·cases h
theorem Ad.nil {w:World} {B:Nat} {ps:List ByteArray} (h:Ad w B none ps):ps=[]:=by
 rcases h with h|⟨_,_,h,_⟩
 ·exact h
 ·cases h
theorem ET (a:Option Addr) (cap:Nat) (ps:List Pd) (w:World) (hr:Bo w w.heap.size a ps) (hl:ps.length<=1048576):
 Calls prog 43 #[.slice a ps.length cap] w fun e w'=>∃a' c',e=.returned (.slice a' ps.length c')/\
  w'.ownsRow w.heap.size 108 2 (.slice a' ps.length c') ps.length (Ab pC ps)/\Uq w w':=by
 rcases a with _|ad
 ·obtain rfl:=hr.nil
  have zB:∀u:World,(binOp .eql 29 (.slice none 0 cap) (.slice none 0 0)).run prog u=.ok (.bool true) u:=fun _=>by first|rfl|kernel_rfl
  go_enter func43,ntmps43;go_wp2;go_ret;exact⟨none,0,rfl,⟨rfl,.inl ⟨rfl,rfl⟩⟩,Below.refl _ _⟩
 obtain⟨i0,hi,zE,zF,zG⟩:=info_parts Jf;have hA:Below w.heap.size w (w.alloc (.cells #[] 108)):=Ur;have zB:∀u:World,(binOp .eql 29 (.slice (some ad) ps.length cap) (.slice none 0 0)).run prog u=.ok (.bool false) u:=fun _=>by first|rfl|kernel_rfl
 go_enter func43,ntmps43;go_wp2_with (first
  |(at_builtin;refine wpList_append_own _ rfl _ _ 29 rfl w.heap.size 108 i0 _ 2 32 underlying29 hi zE zF zG rfl (by decide) _ 0 (Ab pC []) rfl ?d0 ad ps.length cap (Ab pC ps) rfl ?d1 ?d2 ?d3 ?d4 ?d5 ?d6 ?_)
  |go_in)
 case d0=>exact World.ownsRow_lit (base:=w.heap.size) (e:=108) (size:=2) w #[] 0 (Us) (by unfold maxLen;omega) rfl
 case d1=>exact Bb Bp ps
 case d2=>exact(hr.below hA).cellsA
 case d3=>exact Hr ps
 case d4=>unfold maxLen;omega
 case d5=>omega
 case d6=>simp
 intro v1 w1 zA zC zD;obtain⟨x,cx,rfl,zH,zI⟩:=CM zA zD;rw[←AT,List.nil_append] at zA;have hB:Below w.heap.size w w1:=hA.grown zC (by simp) (fun k hk=>by simp[Value.ownBlock] at hk;omega);have HO:Hid _:=And.intro zA hB;try simp only[Nat.zero_add] at *
 clear zA zC zD hB hA hr;go_wp2;go_ret;exact⟨_,cx,rfl,HO.o.1,HO.o.2⟩
theorem Em (a:Option Addr) (cap:Nat) (ps:List Ld) (w:World) (hr:Bj w w.heap.size a ps) (hl:ps.length<=1048576):
 Calls prog 44 #[.slice a ps.length cap] w fun e w'=>∃a' c',e=.returned (.slice a' ps.length c')/\
  w'.ownsRow w.heap.size 111 3 (.slice a' ps.length c') ps.length (Ab lC ps)/\Uq w w':=by
 rcases a with _|ad
 ·obtain rfl:=hr.nil
  have zB:∀u:World,(binOp .eql 30 (.slice none 0 cap) (.slice none 0 0)).run prog u=.ok (.bool true) u:=fun _=>by first|rfl|kernel_rfl
  go_enter func44,ntmps44;go_wp2;go_ret;exact⟨none,0,rfl,⟨rfl,.inl ⟨rfl,rfl⟩⟩,Below.refl _ _⟩
 obtain⟨i0,hi,zE,zF,zG⟩:=info_parts Gp;have hA:Below w.heap.size w (w.alloc (.cells #[] 111)):=Ur;have zB:∀u:World,(binOp .eql 30 (.slice (some ad) ps.length cap) (.slice none 0 0)).run prog u=.ok (.bool false) u:=fun _=>by first|rfl|kernel_rfl
 go_enter func44,ntmps44;go_wp2_with (first
  |(at_builtin;refine wpList_append_own _ rfl _ _ 30 rfl w.heap.size 111 i0 _ 3 32 underlying30 hi zE zF zG rfl (by decide) _ 0 (Ab lC []) rfl ?d0 ad ps.length cap (Ab lC ps) rfl ?d1 ?d2 ?d3 ?d4 ?d5 ?d6 ?_)
  |go_in)
 case d0=>exact World.ownsRow_lit (base:=w.heap.size) (e:=111) (size:=3) w #[] 0 (Us) (by unfold maxLen;omega) rfl
 case d1=>exact Bb Cj ps
 case d2=>exact(hr.below hA).cellsA
 case d3=>exact Sb ps
 case d4=>unfold maxLen;omega
 case d5=>omega
 case d6=>simp
 intro v1 w1 zA zC zD;obtain⟨x,cx,rfl,zH,zI⟩:=CM zA zD;rw[←AT,List.nil_append] at zA;have hB:Below w.heap.size w w1:=hA.grown zC (by simp) (fun k hk=>by simp[Value.ownBlock] at hk;omega);have HO:Hid _:=And.intro zA hB;try simp only[Nat.zero_add] at *
 clear zA zC zD hB hA hr;go_wp2;go_ret;exact⟨_,cx,rfl,HO.o.1,HO.o.2⟩
theorem Di (a:Option Addr) (cap:Nat) (ps:List ByteArray) (w:World) (hr:Ad w w.heap.size a ps) (hl:ps.length<=1048576):
 Calls prog 42 #[.slice a ps.length cap] w fun e w'=>∃a' c',e=.returned (.slice a' ps.length c')/\
  w'.ownsRow w.heap.size 9 1 (.slice a' ps.length c') ps.length (ps.map Value.string)/\Uq w w':=by
 rcases a with _|ad
 ·obtain rfl:=hr.nil
  have zA:∀u:World,(binOp .eql 25 (.slice none 0 cap) (.slice none 0 0)).run prog u=.ok (.bool true) u:=fun _=>by first|rfl|kernel_rfl
  go_enter func42,ntmps42;go_wp2;go_ret;exact⟨none,0,rfl,⟨rfl,.inl ⟨rfl,rfl⟩⟩,Below.refl _ _⟩
 obtain⟨i0,hi,zE,zF,zG⟩:=info_parts Cv;have hA:Below w.heap.size w (w.alloc (.cells #[] 9)):=Ur;have zA:∀u:World,(binOp .eql 25 (.slice (some ad) ps.length cap) (.slice none 0 0)).run prog u=.ok (.bool false) u:=fun _=>by first|rfl|kernel_rfl
 go_enter func42,ntmps42;go_wp2_with (first
  |(at_builtin;refine wpList_append_own _ rfl _ _ 25 rfl w.heap.size 9 i0 (.string ⟨#[]⟩) 1 16 underlying25 hi zE zF zG rfl (by decide) _ 0 (([]:List ByteArray).map Value.string) rfl ?d0 ad ps.length cap (ps.map Value.string) rfl ?d1 ?d2 ?d3 ?d4 ?d5 ?d6 ?_)
  |go_in)
 case d0=>exact World.ownsRow_lit (base:=w.heap.size) (e:=9) (size:=1) w #[] 0 (Us) (by unfold maxLen;omega) rfl
 case d1=>simp
 case d2=>exact(hr.below hA).cellsA
 case d3=>exact RV ps
 case d4=>unfold maxLen;omega
 case d5=>omega
 case d6=>simp
 intro v1 w1 zB zC zD;obtain⟨x,cx,rfl,zH,zI⟩:=CM zB zD
 skip
 have hB:Below w.heap.size w w1:=hA.grown zC (by simp) (fun k hk=>by simp[Value.ownBlock] at hk;omega);have HO:Hid _:=And.intro zB hB;try simp only[Nat.zero_add] at *
 clear zB zC zD hB hA hr;go_wp2;go_ret;exact⟨_,cx,rfl,HO.o.1,HO.o.2⟩
theorem toList_inj {a b:ByteArray} (h:a.toList=b.toList):a=b:=by
 rw[ByteArray.toList_eq,ByteArray.toList_eq] at h;cases a;cases b;simp only[Array.toList_inj] at h;rw[h]
theorem Ck {a b:ByteArray} (h:¬a=b):(a.toList==b.toList)=false:=by
 rw[beq_eq_false_iff_ne];exact fun e=>h (toList_inj e)
theorem KX (x:List UInt8):∀y,Op.bytesLess x y=true↔x<y:=by
 induction x with
 |nil=>intro y;cases y<;>simp[Op.bytesLess]
 |cons a x ih=>
  intro y;cases y with
  |nil=>simp[Op.bytesLess]
  |cons b y=>
   have:=ih y;rw[List.cons_lt_cons_iff,←this];simp only[Op.bytesLess];by_cases h1:a<b<;>by_cases h2:a=b<;>simp[h1,h2]
theorem BL (a:ByteArray):less a a=false:=by
 unfold less;cases h:Op.bytesLess a.toList a.toList with
 |false=>rfl
 |true=>exact absurd ((KX _ _).1 h) (List.lt_irrefl _)
theorem BX {a b c:ByteArray} (h:less a b=true) (k:less b c=true):less a c=true:=by
 unfold less at *
 rw[KX] at *
 exact List.lt_trans h k
def TH (ks:List Kd) (s:ByteArray):Int:=match ks.findIdx? (fun k=>decide (k.sum=s)) with
 |some i=>(i:Int)
 |none=> -1
section
attribute [local go_sem↓] Go.wp_at_zero Go.wp_at_succ
def Dc (u:Kd) (ra:Option Addr) (rc:Nat):Value:=.agg #[.string u.sum,.int .i64 u.born,.string u.text,.slice ra u.refs.length rc]
def BY (W:World) (B:Nat) (wd:Int) (ks:List Kd) (f:Lit->Option Value):Prop:=
 ∀s:ByteArray,(s.size:Int)=wd->(f (keyL s)=none/\¬Av ks s)∨∃u ra rc,u∈ks/\u.sum=s/\f (keyL s)=some (Dc u ra rc)/\Ad W B ra u.refs
theorem BY.nil (W:World) (B:Nat) (wd:Int):BY W B wd [] (fun _=>none):=fun _ _=> .inl ⟨rfl,fun⟨_,h,_⟩=>by cases h⟩
theorem BY.snoc {W:World} {B:Nat} {wd:Int} {ks:List Kd} {f:Lit->Option Value} (h:BY W B wd ks f) {x:Kd} {ra:Option Addr} {rc:Nat} (hx:(x.sum.size:Int)=wd) (h8:wd<=8) (hr:Ad W B ra x.refs):BY W B wd (ks++[x]) (upd f (keyL x.sum) (Dc x ra rc)):=by
 intro s hs;by_cases he:keyL s=keyL x.sum
 ·have:s=x.sum:=GS he (by omega) (by omega)
  subst this;exact .inr ⟨x,ra,rc,by simp,rfl,CK _ _ _,hr⟩
 ·rw[CH _ _ he]
  have zA:x.sum≠s:=fun e=>he (by rw[e]);rcases h s hs with⟨h1,h2⟩|⟨u,zB,zC,h1,h2,h3,h4⟩
  ·refine .inl ⟨h1,fun⟨u,hu,e⟩=> ?_⟩
   rcases List.mem_append.1 hu with hu|hu
   ·exact h2 ⟨u,hu,e⟩
   ·simp at hu;subst hu;exact zA e
  ·exact .inr ⟨u,zB,zC,by simp[h1],h2,h3,h4⟩
theorem Hs (w:World):(zeroValue 115).run prog w=.ok (.agg #[.string ⟨#[]⟩,.int .i64 0,.string ⟨#[]⟩,.slice none 0 0]) w:=by kernel_rfl
theorem AM.setCell {w:World} {K:TypeId} {b n:Nat} {f:Lit->Option Value} (h:AM w K b n f) {a:Addr} (ha:b≠a.block) (u:Value):AM (w.setCell a u) K b n f:=by
 obtain⟨D,h1,h2⟩:=h;exact⟨D,h1.setCell ha u,h2⟩
def FS (wr:World) (h:Nat) (m s b t r:Value) (w':World):Prop:=
 w'.cell? ⟨h+1+1+1,1,none⟩=some m/\w'.cell? ⟨wr.heap.size,0,none⟩=some s/\w'.cell? ⟨wr.heap.size,1,none⟩=some b/\w'.cell? ⟨wr.heap.size,2,none⟩=some t/\w'.cell? ⟨wr.heap.size,3,none⟩=some r
theorem FS.keep {wr w' zA:World} {h:Nat} {m s b t r:Value} (x:FS wr h m s b t r w') (hb:Uq w' zA) (h1:h+3<w'.heap.size) (h2:wr.heap.size<w'.heap.size):FS wr h m s b t r zA:=by
 obtain⟨a0,a1,a2,a3,a4⟩:=x;exact⟨(hb.cell (p:=⟨h+1+1+1,1,none⟩) h1).trans a0,(hb.cell (p:=⟨wr.heap.size,0,none⟩) h2).trans a1,(hb.cell (p:=⟨wr.heap.size,1,none⟩) h2).trans a2,(hb.cell (p:=⟨wr.heap.size,2,none⟩) h2).trans a3,(hb.cell (p:=⟨wr.heap.size,3,none⟩) h2).trans a4⟩
theorem FS.grown {wr w' zA:World} {h q:Nat} {m s b t r:Value} (x:FS wr h m s b t r w') (hg:w'.grownBy zA (some q)) (h1:h+1+1+1≠q) (h2:wr.heap.size≠q):FS wr h m s b t r zA:=by
 obtain⟨a0,a1,a2,a3,a4⟩:=x;exact⟨hg.cell a0 (by simpa using h1),hg.cell a1 (by simpa using h2),hg.cell a2 (by simpa using h2),hg.cell a3 (by simpa using h2),hg.cell a4 (by simpa using h2)⟩
theorem Hf (wd now given births:Int) (a:Option Addr) (ac:Nat) (P L:Value) (ks:List Kd) (w:World) (zG:BP w w.heap.size a ks) (hl:ks.length<=1048576) (zN:∀k∈ks,(k.sum.size:Int)=wd) (h8:wd<=8):
 Calls prog 57 #[.agg #[.int .i64 wd,.int .i64 now,.int .i64 given,.int .i64 births,.slice a ks.length ac,P,L]] w fun e w'=>∃m f,e=.returned (.agg #[.int .i64 wd,.map (some m)])/\(w.heap.size<=m/\m<=w.heap.size+2)/\AM w' 113 m ks.length f/\BY w w.heap.size wd ks f/\Uq w w':=by
 have zT:= @run_makeMap prog;go_enter func57,ntmps57;go_wp2
 obtain⟨W0,zC⟩:∃W,W=((((w.alloc (Obj.cells #[Value.int IntKind.i64 wd,Value.int IntKind.i64 now,Value.int IntKind.i64 given,Value.int IntKind.i64 births,Value.slice a ks.length ac,P,L] 32)).alloc (Obj.cells #[Value.int IntKind.i64 0,Value.map none] 102)).alloc (Obj.map #[] 0)).alloc (Obj.cells #[Value.int IntKind.i64 wd,Value.map (some (w.heap.size+1+1))] 102)):=⟨_,rfl⟩
 have zP:Below w.heap.size w W0:=by
  rw[zC];exact((((Ur).alloc (by simp) _).alloc (by simp;omega) _).alloc (by simp;omega) _)
 have zY:W0.heap.size=w.heap.size+4:=by rw[zC];simp
 have zQ:AM W0 113 (w.heap.size+1+1) 0 (fun _=>none):=by
  have:=AM.new ((w.alloc (Obj.cells #[Value.int IntKind.i64 wd,Value.int IntKind.i64 now,Value.int IntKind.i64 given,Value.int IntKind.i64 births,Value.slice a ks.length ac,P,L] 32)).alloc (Obj.cells #[Value.int IntKind.i64 0,Value.map none] 102)) 113;rw[zC];have h2:=this.keep ((Below.refl _ _).alloc (Us) (Obj.cells #[Value.int IntKind.i64 wd,Value.map (some (w.heap.size+1+1))] 102)) this.lt
  simpa using h2
 have s0:W0.cell? ⟨w.heap.size+1+1+1,0,none⟩=some (.int .i64 wd):=by rw[zC];simp[go_sem]
 have s1:W0.cell? ⟨w.heap.size+1+1+1,1,none⟩=some (.map (some (w.heap.size+1+1))):=by rw[zC];simp[go_sem]
 have r0:W0.cell? ⟨w.heap.size+1,0,none⟩=some (.int .i64 0):=by rw[zC];simp[go_sem]
 have r1:W0.cell? ⟨w.heap.size+1,1,none⟩=some (.map none):=by rw[zC];simp[go_sem]
 have rf:∀j,W0.frozen? ⟨w.heap.size+1,j,none⟩=false:=fun j=>by rw[zC];simp[go_sem]
 rw[←zC];clear zC zT
 go_loopw [13] (fun i wr=>∃(k:Nat) (f:Lit->Option Value),k<=ks.length/\i=.int .i64 k/\Hid (AM wr 113 (w.heap.size+1+1) k f)/\Hid (BY w w.heap.size wd (ks.take k) f)/\W0.grownBy wr (some (w.heap.size+1+1))) (fun i _=>ks.length -(intOf i).toNat)
 case atStart=>exact⟨0,_,Nat.zero_le _,rfl,zQ,by rw[List.take_zero];exact BY.nil w w.heap.size wd,Il _ _⟩
 case round=>
  obtain⟨k,f,hk,rfl,HM,HF,zD⟩:=hrel;have zF:=zP.grown zD (by omega) (by intro j hj;cases hj;omega);have t0:=zD.cell s0 (by simp);have t1:=zD.cell s1 (by simp);have zZ:=zD.size;by_cases hlt:k<ks.length
  ·obtain⟨b,off,ha,hb,hc⟩:=(zG.below zF).at hlt
   subst ha;have HG:Hid _:=Uu hlt;obtain⟨c0,c1,c2,ra,rc,c3,_⟩:=hc k _ HG.o;obtain⟨b',zW,zR,_,zL⟩:=zG.at hlt;cases zR;obtain⟨_,_,_,zB,zA,zI,zM⟩:=zL k _ HG.o;have zU:zB=ra/\zA=rc:=by
    have:=(zF.cell (p:=⟨b,off+k *4+3,none⟩) hb).trans zI;rw[c3] at this;simp at this;exact⟨this.1.symm,this.2.symm⟩
   obtain⟨rfl,rfl⟩:=zU;have zV:=zN _ (List.getElem_mem hlt);have zX:b<wr.heap.size:=by omega
   have HR:Hid _:=zM;clear hc zL zM zI zN zG;generalize ks[k]=x at *
   go_wp2;have zK:Below wr.heap.size wr (wr.alloc (Obj.cells #[Value.string x.sum,Value.int IntKind.i64 x.born,Value.string x.text,Value.slice zB x.refs.length zA] 115)):=Ur
   have hT:FS wr w.heap.size (.map (some (w.heap.size+1+1))) (.string x.sum) (.int .i64 x.born) (.string x.text) (.slice zB x.refs.length zA) (wr.alloc (Obj.cells #[Value.string x.sum,Value.int IntKind.i64 x.born,Value.string x.text,Value.slice zB x.refs.length zA] 115)):=⟨(zK.cell (p:=⟨w.heap.size+1+1+1,1,none⟩) (by simp;omega)).trans t1,by simp,by simp,by simp,by simp⟩
   have zJ:FS wr w.heap.size (.map (some (w.heap.size+1+1))) (.string x.sum) (.int .i64 x.born) (.string x.text) (.slice zB x.refs.length zA) (wr.alloc (Obj.cells #[Value.string x.sum,Value.int IntKind.i64 x.born,Value.string x.text,Value.slice zB x.refs.length zA] 115)).drew:=hT
   go_region_held3 (fun w'=>w'.cell? ⟨w.heap.size+1+1+1,1,none⟩=some (.map (some (w.heap.size+1+1)))/\w'.cell? ⟨wr.heap.size,0,none⟩=some (.string x.sum)/\w'.cell? ⟨wr.heap.size,1,none⟩=some (.int .i64 x.born)/\w'.cell? ⟨wr.heap.size,2,none⟩=some (.string x.text)/\w'.cell? ⟨wr.heap.size,3,none⟩=some (.slice zB x.refs.length zA))
    (first|exact T3|exact T2|exact zJ)
    (first
    |(go_at_call 58;refine(Fz x.sum _).mono ?_;rintro e w2 ⟨rfl,zH⟩;have T2:FS wr w.heap.size (.map (some (w.heap.size+1+1))) (.string x.sum) (.int .i64 x.born) (.string x.text) (.slice zB x.refs.length zA) w2:=FS.keep zJ zH (by simp;omega) (by simp);have zE:Below wr.heap.size wr w2:=zK.drew.trans (zH.mono (by simp));obtain⟨w3,hup,hm3,hg3⟩:=(HM.o.keep zE (by omega)).put keyed underlying100 (val:=Dc x zB zA) (by unfold maxLen;omega) (Dt x.sum);have T3:FS wr w.heap.size (.map (some (w.heap.size+1+1))) (.string x.sum) (.int .i64 x.born) (.string x.text) (.slice zB x.refs.length zA) w3:=FS.grown T2 hg3 (by simp) (by simp;omega);unfold Dc at hup))
   all_goals
    have zS:=Aw zD (Aw (Aj _ zE) hg3);have HN:Hid (BY w w.heap.size wd (ks.take (k+1)) (upd f (keyL x.sum) (Dc x zB zA))):=by
     have:=HF.o.snoc (rc:=zA) zV h8 HR.o;rw[List.take_add_one,HG.o];exact this
    have zO:Hid _:=hm3;clear hm3 hup T2 T3 hg3 zE zH;go_wp2;exact⟨⟨k+1,_,by omega,by go_num,zO,HN,zS⟩,by simp[intOf];omega⟩
  ·have p0:=zD.cell r0 (by simp)
   have p1:=zD.cell r1 (by simp);have pf:∀j,wr.frozen? ⟨w.heap.size+1,j,none⟩=false:=fun j=>(zD.frozen_far ⟨w.heap.size+1,j,none⟩ (by simp;omega) (by simp)).trans (rf j);rw[Uw (by omega)] at HF;obtain rfl:k=ks.length:=by omega
   go_wp2;refine bodyPost_ret (v:=.agg #[.int .i64 wd,.map (some (w.heap.size+1+1))]) (by simp[results,results57,go_sem,p0,p1]) rfl ⟨_,f,rfl,by omega,?_,HF.o,?_⟩
   ·exact(AM.setCell (AM.setCell HM.o (by simp) _) (by simp) _)
   ·exact(zF.setCell (by simp) _).setCell (by simp) _
def FD (b m:Nat) (s:ByteArray) (v:Value) (w':World):Prop:=
 w'.cell? ⟨b,1,none⟩=some (.map (some m))/\(Instr.lookup 100 (.map (some m)) (Bt s) true).run prog w'=.ok v w'
theorem FD.of {W w':World} {b m n B:Nat} {s:ByteArray} {f:Lit->Option Value} (hc:W.cell? ⟨b,1,none⟩=some (.map (some m))) (hM:AM W 113 m n f) (hb:b<B) (hm:m<B) (h:Below B W w'):
 FD b m s (.tuple #[(f (keyL s)).getD (.agg #[.string ⟨#[]⟩,.int .i64 0,.string ⟨#[]⟩,.slice none 0 0]),.bool (f (keyL s)).isSome]) w':=
 ⟨(h.cell (p:=⟨b,1,none⟩) hb).trans hc,(hM.keep h hm).look_ok keyed underlying100 (Hs _) (Dt s)⟩
theorem DO (wd:Int) (m n:Nat) (f:Lit->Option Value) (s:ByteArray) (w:World) (hM:AM w 113 m n f) (hs:(s.size:Int)=wd) (u:ByteArray) (bo:Int) (t:ByteArray) (sl:Value) (ok:Bool)
 (zK:(∃a l c,sl=.slice a l c)) (hf:(f (keyL s)).getD (.agg #[.string ⟨#[]⟩,.int .i64 0,.string ⟨#[]⟩,.slice none 0 0])=.agg #[.string u,.int .i64 bo,.string t,sl]) (zF:(f (keyL s)).isSome=ok):
 Calls prog 52 #[.agg #[.int .i64 wd,.map (some m)],.string s] w fun e w'=>e=.returned (.tuple #[.agg #[.string u,.int .i64 bo,.string t,sl],.bool ok])/\Uq w w':=by
 obtain⟨sa,sb,sc,rfl⟩:=zK;have zH:=hM.lt;have zG:∀o1 o2,Uq w ((w.alloc o1).alloc o2):=fun o1 o2=>(Ur).alloc (by simp) _;go_enter func52,ntmps52;go_wp2;obtain⟨W,hW⟩:∃W,W=(w.alloc (Obj.cells #[Value.int IntKind.i64 wd,Value.map (some m)] 102)).alloc (Obj.cells #[Value.string ⟨#[]⟩,Value.int IntKind.i64 0,Value.string ⟨#[]⟩,Value.slice none 0 0] 115):=⟨_,rfl⟩
 have hz:W.heap.size=w.heap.size+1+1:=by rw[hW];simp
 have zD:Below w.heap.size w W:=by rw[hW];exact zG _ _
 have c1:W.cell? ⟨w.heap.size,1,none⟩=some (.map (some m)):=by rw[hW];simp[go_sem]
 have r0:∃v,W.cell? ⟨w.heap.size+1,0,none⟩=some v:=by rw[hW];simp[go_sem]
 have r1:∃v,W.cell? ⟨w.heap.size+1,1,none⟩=some v:=by rw[hW];simp[go_sem]
 have r2:∃v,W.cell? ⟨w.heap.size+1,2,none⟩=some v:=by rw[hW];simp[go_sem]
 have r3:∃v,W.cell? ⟨w.heap.size+1,3,none⟩=some v:=by rw[hW];simp[go_sem]
 have rf:∀j,W.frozen? ⟨w.heap.size+1,j,none⟩=false:=fun j=>by rw[hW];simp[go_sem]
 obtain⟨v0,r0⟩:=r0;obtain⟨v1,r1⟩:=r1;obtain⟨v2,r2⟩:=r2;obtain⟨v3,r3⟩:=r3;have hD:∀w',Uq W w'->FD w.heap.size m s (.tuple #[.agg #[.string u,.int .i64 bo,.string t,.slice sa sb sc],.bool ok]) w':=fun w' h=>by
  have:=FD.of (s:=s) c1 (hM.keep zD zH) (by omega) (by omega) h;rw[hf,zF] at this;exact this
 have HD:Hid _:=hD;have hN:w.heap.size+1<W.heap.size:=by omega
 have zM:w.heap.size<W.heap.size:=by omega
 rw[←hW];clear hW hD hf zF hM hz;go_region_held3 (fun w'=>w'.cell? ⟨w.heap.size,1,none⟩=some (.map (some m))/\(Instr.lookup 100 (.map (some m)) (Bt s) true).run prog w'=.ok (.tuple #[.agg #[.string u,.int .i64 bo,.string t,.slice sa sb sc],.bool ok]) w')
  (first
    |exact HD.o _ zA
    |exact HD.o _ (zA.alloc (Uz (Us) zA.size) _)
    |exact HD.o _ ((Below.refl _ _).drew.alloc (by simp) _)
    |exact HD.o _ (Below.refl _ _).drew
    |exact HD.o _ ((((zA.setCell (by simp) _).setCell (by simp) _).setCell (by simp) _).setCell (by simp) _)
    |exact HD.o _ (zA.alloc zA.size _))
  (first
    |(go_at_call 58;refine(Fz s W.drew).mono ?_;rintro e w2 ⟨rfl,zB⟩;have zA:Below W.heap.size W w2:=(Below.refl _ _).drew.trans (zB.mono (by simp));have zL:=zA.size)
    |(go_at_call 58;refine(Fz s (W.alloc _).drew).mono ?_;rintro e w2 ⟨rfl,zB⟩;have zA:Below W.heap.size W w2:=(Ur).drew.trans (zB.mono (by simp));have zL:W.heap.size<w2.heap.size:=(by have:=zB.size;simp at this;omega);have n0:w2.cell? ⟨W.heap.size,0,none⟩=some (.string ⟨#[]⟩):=(by rw[zB.cell (p:=⟨W.heap.size,0,none⟩) (by simp)];simp[go_sem]);have n1:w2.cell? ⟨W.heap.size,1,none⟩=some (.int .i64 0):=(by rw[zB.cell (p:=⟨W.heap.size,1,none⟩) (by simp)];simp[go_sem]);have n2:w2.cell? ⟨W.heap.size,2,none⟩=some (.string ⟨#[]⟩):=(by rw[zB.cell (p:=⟨W.heap.size,2,none⟩) (by simp)];simp[go_sem]);have n3:w2.cell? ⟨W.heap.size,3,none⟩=some (.slice none 0 0):=(by rw[zB.cell (p:=⟨W.heap.size,3,none⟩) (by simp)];simp[go_sem]);have nf:∀j,w2.frozen? ⟨W.heap.size,j,none⟩=false:=(fun j=>by rw[zB.frozen (p:=⟨W.heap.size,j,none⟩) (by simp)];simp[go_sem])))
 all_goals
  have p0:=(zA.cell (p:=⟨w.heap.size+1,0,none⟩) hN).trans r0;have p1:=(zA.cell (p:=⟨w.heap.size+1,1,none⟩) hN).trans r1;have p2:=(zA.cell (p:=⟨w.heap.size+1,2,none⟩) hN).trans r2;have p3:=(zA.cell (p:=⟨w.heap.size+1,3,none⟩) hN).trans r3;have pf:∀j,w2.frozen? ⟨w.heap.size+1,j,none⟩=false:=fun j=>(zA.frozen (p:=⟨w.heap.size+1,j,none⟩) hN).trans (rf j);have zE:=zD.trans (zA.mono (by omega))
  have zC:w.heap.size+1<w2.heap.size:=by omega
  have zI:¬W.heap.size=w.heap.size+1:=by omega
  have zJ:¬w.heap.size+1=W.heap.size:=by omega
  clear zB HD;go_wp2;refine bodyPost_ret (v:=.tuple #[.agg #[.string u,.int .i64 bo,.string t,.slice sa sb sc],.bool ok]) (by first|(simp[results,results52,go_sem,p0,p1,p2,p3];done)|(simp[results,results52,go_sem,p0,p1,p2,p3,zC];done)) rfl ⟨rfl,?_⟩
  first
   |(have zN:=nf 0;exact((((((((zE.setCell (by simp;omega) _).setCell (by simp;omega) _).setCell (by simp;omega) _).setCell (by simp;omega) _).setCell (by simp) _).setCell (by simp) _).setCell (by simp) _).setCell (by simp) _))
   |exact(((((zE.setCell (by simp) _).setCell (by simp) _).setCell (by simp) _).setCell (by simp) _).alloc (by simp;omega) _)
theorem MB (wd:Int) (m:Nat) (s:ByteArray) (w:World) (hs:¬(s.size:Int)=wd):
 Calls prog 52 #[.agg #[.int .i64 wd,.map (some m)],.string s] w fun e w'=>e=.returned (.tuple #[.agg #[.string ⟨#[]⟩,.int .i64 0,.string ⟨#[]⟩,.slice none 0 0],.bool false])/\Uq w w':=by
 have zA:((s.size:Int)==wd)=false:=by simpa using hs
 go_enter func52,ntmps52;go_wp2;refine bodyPost_ret (v:=.tuple #[.agg #[.string ⟨#[]⟩,.int .i64 0,.string ⟨#[]⟩,.slice none 0 0],.bool false]) (by simp[results,results52,go_sem]) rfl ⟨rfl,?_⟩;exact(Ur).alloc (by simp) _
structure Found (ks:List Kd) (s:ByteArray) (bo:Int) (ok:Bool):Prop where
 no:ok=false->¬Av ks s
 yes:ok=true->∃x∈ks,x.sum=s/\x.born=bo
theorem MU (wd:Int) (m n:Nat) (f:Lit->Option Value) (ks:List Kd) (W:World) (B:Nat) (s:ByteArray) (w:World) (hM:AM w 113 m n f) (hH:BY W B wd ks f) (zA:∀k∈ks,(k.sum.size:Int)=wd):
 ∃u bo t sa sb sc ok,Found ks s bo ok/\∀w',Uq w w'->Calls prog 52 #[.agg #[.int .i64 wd,.map (some m)],.string s] w' fun e w''=>e=.returned (.tuple #[.agg #[.string u,.int .i64 bo,.string t,.slice sa sb sc],.bool ok])/\Uq w' w'':=by
 by_cases hs:(s.size:Int)=wd
 ·rcases hH s hs with⟨h1,h2⟩|⟨x,ra,rc,h1,h2,h3,_⟩
  ·exact⟨⟨#[]⟩,0,⟨#[]⟩,none,0,0,false,⟨fun _=>h2,fun h=>by cases h⟩,fun w' hb=>DO wd m n f s w' (hM.keep hb hM.lt) hs _ _ _ _ _ ⟨_,_,_,rfl⟩ (by rw[h1];rfl) (by rw[h1];rfl)⟩
  ·exact⟨x.sum,x.born,x.text,ra,x.refs.length,rc,true,⟨fun h=>by(cases h),fun _=>⟨x,h1,h2,rfl⟩⟩,fun w' hb=>DO wd m n f s w' (hM.keep hb hM.lt) hs _ _ _ _ _ ⟨_,_,_,rfl⟩ (by rw[h3];rfl) (by rw[h3];rfl)⟩
 ·exact⟨⟨#[]⟩,0,⟨#[]⟩,none,0,0,false,⟨fun _ ⟨x,hx,e⟩=>hs (by rw[←e];exact zA x hx),fun h=>by cases h⟩,fun w' _=>MB wd m s w' hs⟩
theorem Gq (wd:Int) (m n:Nat) (f:Lit->Option Value) (ks:List Kd) (W:World) (B:Nat) (s:ByteArray) (w:World) (hM:AM w 113 m n f) (hH:BY W B wd ks f) (zE:∀k∈ks,(k.sum.size:Int)=wd):
 ∃ok,(ok=true↔Av ks s)/\∀w',Uq w w'->Calls prog 103 #[.agg #[.int .i64 wd,.map (some m)],.string s] w' fun e w''=>e=.returned (.bool ok)/\Uq w' w'':=by
 obtain⟨u,bo,t,sa,sb,sc,ok,zA,zD⟩:=MU wd m n f ks W B s w hM hH zE;refine⟨ok,⟨fun h=> ?_,fun h=> ?_⟩,fun w' hb=> ?_⟩
 ·obtain⟨x,hx,e,_⟩:=zA.yes h
  exact⟨x,hx,e⟩
 ·cases ok with
  |true=>rfl
  |false=>exact absurd h (zA.no rfl)
 ·have zB:Below w'.heap.size w' (w'.alloc (.cells #[.int .i64 wd,.map (some m)] 102)):=Ur
  have HC:Hid _:=zD _ (hb.trans (zB.mono hb.size));clear zD hM hH zE zA;go_enter func103,ntmps103;go_wp2_with fail;refine Calls.mono HC.o ?_;rintro e w2 ⟨rfl,zC⟩;go_wp2;go_ret;exact⟨rfl,(zB.trans (zC.mono (by simp))).alloc (by have:=zC.size;simp at this;omega) _⟩
end
section
attribute [local go_sem↓] Go.wp_at_zero Go.wp_at_succ
section
open Go.WideElems Go.MapKept Go.ChangeMaps
theorem FA (w:World) (b:Nat) (x y:Obj):setBlock (setBlock w b x) b y=setBlock w b y:=by simp[setBlock]
theorem JL {P:Program} {w2:World} {t:TypeId} {b:Nat} {es:Array MapEntry} {clock st i:Nat} (val:Value) (zB:w2.heap[b]?=some (.map es clock)) (zA:es.findIdx? (fun e=>((e.born:Nat):Int)==((st:Nat):Int))=some i):
 (Instr.entryStore t (.map (some b)) (goInt st) val).run P w2=.ok () (setBlock w2 b (.map (es.modify i (fun e=>{e with val:=val})) clock)):=by
 simp[Instr.entryStore,MapKept.run_getObj_map zB,asInt,asIntOf,goInt,zA,MapKept.run_setObj_map _ zB,Result.andThen,setBlock]
theorem Ob {H:Type} {P:Program} {w:World} {t k e:TypeId} {R:Value->Option (DataW H×List MemPlace)} {b:Nat} {es:Array MapEntry} {clock:Nat} (K:Maps.Keyed P k) (ht:P.underlying t=some (.map k e)) {z:Value}
 (hz:∀u:World,(zeroValue e).run P u=.ok z u) (hb:w.heap[b]?=some (.map es clock)) (F:Fit P k R es clock) {key:Value} {kl:Lit} (zA:keyOf P k key=some kl):
 ∃(v0:Value) (st:Nat) (w3:World),(Instr.mapEntry t (.map (some b)) key).run P w=.ok (.tuple #[v0,goInt st]) w3/\(Instr.lookup t (.map (some b)) key false).run P w=.ok v0 w/\(Instr.mapUpdate t (.map (some b)) key v0).run P w=.ok () w3/\
  ∀val:Value,∃w4,(Instr.entryStore t (.map (some b)) (goInt st) val).run P w3=.ok () w4/\(Instr.mapUpdate t (.map (some b)) key val).run P w=.ok () w4:=by
 obtain⟨s1,s2,_⟩:=F.stamped;rcases K.find w zA es.toList F.keys with⟨h1,h2⟩|⟨j,e0,h1,h2,h3⟩
 ·have zF:(setBlock w b (.map (es.push ⟨key,z,clock⟩) (clock+1))).heap[b]?=some (.map (es.push ⟨key,z,clock⟩) (clock+1)):=heap_setBlock_same hb _
  refine⟨z,clock,setBlock w b (.map (es.push ⟨key,z,clock⟩) (clock+1)),?_,?_,?_,fun val=>⟨setBlock w b (.map (es.push ⟨key,val,clock⟩) (clock+1)),?_,?_⟩⟩
  ·simp[Instr.mapEntry,run_underlying ht,MapKept.run_getObj_map hb,K.check w false zA,h1,hz,MapKept.run_setObj_map _ hb,Result.andThen,setBlock]
  ·simp[Instr.lookup,run_underlying ht,MapKept.run_getObj_map hb,K.check w _ zA,h1,hz,Result.andThen]
  ·simp[Instr.mapUpdate,run_underlying ht,MapKept.run_getObj_map hb,K.check w false zA,h1,MapKept.run_setObj_map _ hb,Result.andThen,setBlock]
  ·have zB:(es.push ⟨key,z,clock⟩).findIdx? (fun e=>((e.born:Nat):Int)==((clock:Nat):Int))=some es.size:=by
    rw[findIdx_arr];have:=findIdx_born (l:=(es.push ⟨key,z,clock⟩).toList) (j:=es.size) (e0:=⟨key,z,clock⟩) (by
     simp only[Array.toList_push,List.map_append,List.map_cons,List.map_nil];refine List.nodup_append.2 ⟨s2,by simp,fun a ha c hc e1=> ?_⟩;simp only[List.mem_singleton] at hc;obtain⟨x,hx,rfl⟩:=List.mem_map.1 ha;have:=s1 x hx;omega) (by simp)
    exact this
   have zC:(es.push ⟨key,z,clock⟩).modify es.size (fun e=>{e with val:=val})=es.push ⟨key,val,clock⟩:=by
    apply Array.ext';rw[Array.toList_modify,Array.toList_push,Array.toList_push,←Array.length_toList,modify_last]
   rw[JL val zF zB,FA,zC]
  ·simp[Instr.mapUpdate,run_underlying ht,MapKept.run_getObj_map hb,K.check w false zA,h1,MapKept.run_setObj_map _ hb,Result.andThen,setBlock]
 ·have hj:es[j]?=some e0:=by simpa using h2
  have zE:es.modify j (fun e=>{e with key:=key})=es:=by
   apply Array.ext';rw[Array.toList_modify,modify_eq_set _ _ _ _ h2];have:({e0 with key:=key}:MapEntry)=e0:=by rw[←h3]
   rw[this];exact set_self _ _ _ h2
  have zD:es.modify j (fun e'=>{e' with key:=key,val:=e0.val})=es:=by
   apply Array.ext';rw[Array.toList_modify,modify_eq_set _ _ _ _ h2];have:({e0 with key:=key,val:=e0.val}:MapEntry)=e0:=by rw[←h3]
   rw[this];exact set_self _ _ _ h2
  have zF:(setBlock w b (.map es clock)).heap[b]?=some (.map es clock):=heap_setBlock_same hb _;refine⟨e0.val,e0.born,setBlock w b (.map es clock),?_,?_,?_,fun val=>⟨setBlock w b (.map (es.modify j (fun e'=>{e' with key:=key,val:=val})) clock),?_,?_⟩⟩
  ·simp[Instr.mapEntry,run_underlying ht,MapKept.run_getObj_map hb,K.check w false zA,h1,hj,h3,K.stays w zA,zE,MapKept.run_setObj_map _ hb,Result.andThen,setBlock]
  ·simp[Instr.lookup,run_underlying ht,MapKept.run_getObj_map hb,K.check w _ zA,h1,Result.andThen]
  ·simp[Instr.mapUpdate,run_underlying ht,MapKept.run_getObj_map hb,K.check w false zA,h1,hj,h3,K.stays w zA,zD,MapKept.run_setObj_map _ hb,Result.andThen,setBlock]
  ·have zB:es.findIdx? (fun e=>((e.born:Nat):Int)==((e0.born:Nat):Int))=some j:=by
    rw[findIdx_arr];exact findIdx_born s2 h2
   have zC:es.modify j (fun e=>{e with val:=val})=es.modify j (fun e'=>{e' with key:=key,val:=val}):=by
    apply Array.ext';rw[Array.toList_modify,Array.toList_modify,modify_eq_set _ _ _ _ h2,modify_eq_set _ _ _ _ h2,←h3]
   rw[JL val zF zB,FA,zC]
  ·simp[Instr.mapUpdate,run_underlying ht,MapKept.run_getObj_map hb,K.check w false zA,h1,hj,h3,K.stays w zA,MapKept.run_setObj_map _ hb,Result.andThen,setBlock]
end
def BZ (w:World) (K:TypeId) (b n c:Nat) (f:Lit->Option Value):Prop:=
 ∃D:DataW Value,w.ownsMap prog K KH b n D/\(∀kl z,D.atKey kl (.held z)=.held ((f kl).getD z))/\(∀kl,Maps.has D kl=(f kl).isSome)/\Maps.Tidy D/\Maps.size D=c
theorem BZ.map {w:World} {K:TypeId} {b n c:Nat} {f:Lit->Option Value} (h:BZ w K b n c f):AM w K b n f:=let ⟨D,h1,h2,h3,_⟩:=h;⟨D,h1,h2,h3⟩
theorem BZ.new (w:World) (K:TypeId):BZ (w.alloc (.map #[] 0)) K w.heap.size 0 0 (fun _=>none):=
 ⟨.map [],World.ownsMap_made _ _ _ _,fun _ _=>rfl,fun _=>rfl,Maps.tidy_empty,rfl⟩
theorem BZ.keep {w w':World} {K:TypeId} {b n c:Nat} {f:Lit->Option Value} (h:BZ w K b n c f) {B:Nat} (hb:Below B w w') (hB:b<B):BZ w' K b n c f:=by
 obtain⟨D,⟨es,clock,h1,h2⟩,h3⟩:=h;exact⟨D,⟨es,clock,(hb.block b hB).trans h1,h2⟩,h3⟩
theorem BZ.len {w:World} {K t e:TypeId} {b n c:Nat} {f:Lit->Option Value} (h:BZ w K b n c f) (ht:prog.underlying t=some (.map K e)) (ty:TypeId):(Builtin.len_ #[t] ty #[.map (some b)]).run prog w=.ok (.int .i64 c) w:=by
 obtain⟨D,h1,_,_,_,h5⟩:=h;rw[←h5];exact h1.len ht ty
theorem BZ.put {w:World} {K t e:TypeId} {b n c:Nat} {f:Lit->Option Value} (h:BZ w K b n c f) (hK:Maps.Keyed prog K) (ht:prog.underlying t=some (.map K e)) (hn:n<maxLen) {key val:Value} {kl:Lit} (zA:keyOf prog K key=some kl):
 ∃w',(Instr.mapUpdate t (.map (some b)) key val).run prog w=.ok () w'/\BZ w' K b (n+1) (if (f kl).isSome then c else c+1) (upd f kl val)/\w.grownBy w' (some b):=by
 obtain⟨D,h1,h2,h3,h4,h5⟩:=h;obtain⟨w',hr,ho,hg⟩:=h1.update hK ht hn zA (d:=.held val) (ps:=[]) (val:=val) rfl;have hm:=h1.isMap;have zB:=hK.key zA;refine⟨w',hr,⟨_,ho,fun x z=> ?_,fun x=> ?_,h4.put zB _,?_⟩,hg⟩
 ·by_cases hx:x=kl
  ·subst hx;rw[Maps.atKey_put_same hm zB,CK];rfl
  ·rw[Maps.atKey_put_other hx,CH _ _ hx];exact h2 x z
 ·by_cases hx:x=kl
  ·subst hx;rw[Maps.has_put_same hm zB,CK];rfl
  ·rw[Maps.has_put_other hx,CH _ _ hx];exact h3 x
 ·rw[Maps.size_put h4,h3,h5]
theorem BZ.bump {w:World} {K t e:TypeId} {b n c:Nat} {f:Lit->Option Value} (h:BZ w K b n c f) (hK:Maps.Keyed prog K) (ht:prog.underlying t=some (.map K e)) (hn:n<maxLen) {z:Value} (hz:∀u:World,(zeroValue e).run prog u=.ok z u) {key:Value} {kl:Lit} (zA:keyOf prog K key=some kl) (val:Value):
 ∃st w3 w4,(Instr.mapEntry t (.map (some b)) key).run prog w=.ok (.tuple #[(f kl).getD z,goInt st]) w3/\(Instr.lookup t (.map (some b)) key false).run prog w=.ok ((f kl).getD z) w/\(Instr.lookup t (.map (some b)) key false).run prog w3=.ok ((f kl).getD z) w3/\
  (Instr.entryStore t (.map (some b)) (goInt st) val).run prog w3=.ok () w4/\BZ w4 K b (n+1) (if (f kl).isSome then c else c+1) (upd f kl val)/\w.grownBy w3 (some b)/\w.grownBy w4 (some b):=by
 have h0:=h;obtain⟨D,⟨es,clock,hb,F,hs,hD⟩,h2,h3,h4,h5⟩:=h;obtain⟨v0,st,w3,he,hl,hu,zK⟩:=Ob hK ht hz hb F zA;have zC:=h0.map.look hK ht (hz w) zA;rw[hl] at zC;cases zC;obtain⟨w4,zJ,zL⟩:=zK val;obtain⟨zM,zE,zH,zF⟩:=h0.put hK ht hn zA (val:=(f kl).getD z);rw[hu] at zE;cases zE;obtain⟨zN,zB,zI,zG⟩:=h0.put hK ht hn zA (val:=val);rw[zL] at zB;cases zB;have zD:=zH.map.look hK ht (hz w3) zA;rw[CK] at zD
 exact⟨st,w3,w4,he,hl,zD,zJ,zI,zF,zG⟩
structure MK (ms:List ByteArray) (f:Lit->Option Value) (c:Nat):Prop where
 has:∀l,(f l).isSome=true↔l∈ms.map keyL
 num:∀l v,f l=some v->∃n:Int,v=.int .i64 n/\1<=n/\n<=ms.length
 le:c<=ms.length
 all:c=ms.length↔(ms.map keyL).Nodup
theorem MK.nil:MK [] (fun _=>none) 0:=⟨fun l=>(by simp),fun l v h=>(by simp at h),Us,(by simp)⟩
theorem MK.get {ms:List ByteArray} {f:Lit->Option Value} {c:Nat} (h:MK ms f c) (l:Lit):∃n:Int,(f l).getD (.int .i64 0)=.int .i64 n/\0<=n/\n<=ms.length/\(0<n↔l∈ms.map keyL):=by
 cases hf:f l with
 |none=>
  refine⟨0,rfl,Int.le_refl _,by omega,?_⟩;have:=h.has l;rw[hf] at this;simp at this ⊢;exact this
 |some v=>
  obtain⟨n,rfl,h1,h2⟩:=h.num l v hf;have:=h.has l;rw[hf] at this;exact⟨n,rfl,by omega,h2,⟨fun _=>this.1 rfl,fun _=>by omega⟩⟩
theorem MK.snoc {ms:List ByteArray} {f:Lit->Option Value} {c:Nat} (h:MK ms f c) (x:ByteArray) {n:Int} (h0:0<=n) (h1:n<=ms.length):
 MK (ms++[x]) (upd f (keyL x) (.int .i64 (n+1))) (if (f (keyL x)).isSome then c else c+1):=by
 have hx:=h.has (keyL x);refine⟨fun l=> ?_,fun l v hv=> ?_,?_,?_⟩
 ·by_cases e:l=keyL x
  ·subst e;rw[CK];simp
  ·rw[CH _ _ e,h.has l]
   simp only[List.map_append,List.map_cons,List.map_nil,List.mem_append,List.mem_singleton];exact⟨fun h=> .inl h,fun h=>h.resolve_right e⟩
 ·by_cases e:l=keyL x
  ·subst e
   rw[CK] at hv;cases hv;exact⟨n+1,rfl,by omega,by simp;omega⟩
  ·rw[CH _ _ e] at hv
   obtain⟨m,e1,e2,e3⟩:=h.num l v hv;exact⟨m,e1,e2,by simp;omega⟩
 ·have:=h.le
  split<;>simp<;>omega
 ·have zB:=h.le
  have zA:=h.all;rw[List.map_append,List.map_cons,List.map_nil,List.length_append];by_cases hm:keyL x∈ms.map keyL
  ·rw[if_pos (hx.2 hm)]
   constructor
   ·intro e;simp at e;omega
   ·intro e
    have:=(List.nodup_append.1 e).2.2 _ hm _ (by simp) rfl;cases this
  ·rw[if_neg (fun e=>hm (hx.1 e))]
   constructor
   ·intro e
    refine List.nodup_append.2 ⟨zA.1 (by simp at e;omega),by simp,fun a ha b hb e=> ?_⟩;simp at hb;subst hb;subst e;exact hm ha
   ·intro e
    have:=zA.2 (List.nodup_append.1 e).1;simp;omega
theorem Ht {a:Int} (h0:0<=a) (h1:a<=2000000000):IntKind.i64.wrap a=a:=by
 unfold IntKind.wrap;simp[IntKind.signed,IntKind.bits];omega
theorem QR (w:World):(zeroValue 3).run prog w=.ok (.int .i64 0) w:=by kernel_rfl
end
structure AE (W:World) where
 w:World
 h:Below W.heap.size W w
theorem AE.ne (W:World):Nonempty (AE W):=⟨⟨W,Below.refl _ _⟩⟩
theorem AE.cell {W:World} {b o:Nat} {v:Value} (hv:W.cell? ⟨b,o,none⟩=some v) (hb:b<W.heap.size) (n:AE W):n.w.cell? ⟨b,o,none⟩=some v:=(n.h.cell (p:=⟨b,o,none⟩) hb).trans hv
def AE.next {W:World} (n:AE W) {w':World} (h:Below n.w.heap.size n.w w'):AE W:=⟨w',n.h.trans (h.mono n.h.size)⟩
theorem MV {P:Program} {ops:Array Oper} {id:Nat} {Q:Exit->Act->World->Prop} {a:Act} {w:World} (hm:P.follows .mixedOrders=true) (hB:Region.lexB .any ops=true)
 (h:wpQuiet P ops (fun w'=>∃n:AE w,w'=n.w) (fun a'=>∀n:AE w,Q .normal a' n.w) ops.toList a):(Code.region id ops true).wp P Q a w:=by
 refine wp_region_quiet (C:=fun w'=>∃n:AE w,w'=n.w) hm hB ⟨⟨_,(Below.refl _ _).drew⟩,rfl⟩ ?_;have e:(fun a'=>∀w',(∃n:AE w,w'=n.w)->Q .normal a' w')=(fun a'=>∀n:AE w,Q .normal a' n.w):=by
  funext a'
  exact propext ⟨fun h n=>h _ ⟨n,rfl⟩,fun h _ ⟨n,e⟩=>e▸h n⟩
 rw[e];exact h
theorem Bf {P:Program} {l:List Oper} {id:Nat} {Q:Exit->Act->World->Prop} {a:Act} {w:World} (hm:P.follows .mixedOrders=true) (hB:Region.lexB .any l.toArray=true)
 (h:wpQuiet P l.toArray (fun w'=>∃n:AE w,w'=n.w) (fun a'=>∀n:AE w,Q .normal a' n.w) l a):(Code.region id l.toArray true).wp P Q a w:=
 MV hm hB (by simpa using h)
theorem AE.calls {P:Program} {f:FuncId} {args:Array Value} {W:World} {v:Value} {n:AE W} (h:Calls P f args n.w fun e w'=>e=.returned v/\Below n.w.heap.size n.w w'):
 Calls P f args n.w fun e w''=>e=.returned v/\∃m:AE W,w''=m.w:=
 h.mono fun _ _ ⟨he,hb⟩=>⟨he,n.next hb,rfl⟩
theorem KZ (t:ByteArray) (ss:List ByteArray) (wd:Int):(Am t ss wd).size<=maxLen:=by
 unfold Am;split
 ·rename_i h
  have h:=AY h;have h1:=h.bulk_le;have h2:=h.text;have:(ByteArray.mk (AS t ss).toArray).size=1+(bulk ss+t.size):=by
   show(AS t ss).toArray.size=_;simp only[List.size_toArray,AS,List.length_cons,List.length_append,Cc,Array.length_toList];show _+t.size+1=_;omega
  rw[this];unfold maxLen;omega
 ·simp[maxLen]
def Qp (w:World) (wd:Int) (m:Nat) (ks:List Kd) (s:ByteArray):Prop:=
 ∃ok,(ok=true↔Av ks s)/\∀w',Uq w w'->Calls prog 103 #[.agg #[.int .i64 wd,.map (some m)],.string s] w' fun e w''=>e=.returned (.bool ok)/\Uq w' w''
def Ao (P:Prop) (w0 w:World) (e:Ending):Prop:=∃b,e=.returned (.bool b)/\(b=true↔P)/\Uq w0 w
theorem Ao.yes {P:Prop} {w0 w:World} (h:P) (hb:Uq w0 w):Ao P w0 w (.returned (.bool true)):=⟨_,rfl,by simpa using h,hb⟩
theorem Ao.no {P:Prop} {w0 w:World} (h:¬P) (hb:Uq w0 w):Ao P w0 w (.returned (.bool false)):=⟨_,rfl,by simpa using h,hb⟩
def Tw (w:World) (wd:Int) (m:Nat) (ks:List Kd) (s:ByteArray):Prop:=
 ∃u bo t sa sb sc ok,Found ks s bo ok/\∀w',Uq w w'->Calls prog 52 #[.agg #[.int .i64 wd,.map (some m)],.string s] w' fun e w''=>e=.returned (.tuple #[.agg #[.string u,.int .i64 bo,.string t,.slice sa sb sc],.bool ok])/\Uq w' w''
theorem It (n:Int) (w:World):
 Calls prog 16 #[.int .i64 n] w fun e w'=>e=.returned (.bool (decide (1<=n/\n<=8)))/\w'=w:=by
 by_cases h1:1<=n
 ·by_cases h2:n<=8
  ·go_enter func16,ntmps16
   go_wp2;go_ret;exact⟨AH (by simp[h1,h2]),rfl⟩
  ·have zB:decide (n<=8)=false:=by simpa using h2
   go_enter func16,ntmps16;go_wp2;go_ret;exact⟨rfl,rfl⟩
 ·have zA:decide (1<=n)=false:=by simpa using h1
  go_enter func16,ntmps16;go_wp2;go_ret;exact⟨rfl,rfl⟩
theorem MW (k:Kd) (wd:Int) (h:1<=wd):((MS k wd).size:Int)=wd:=by
 have e:∀l:List Int,(strOfNums l).size=l.length:=fun l=>by unfold strOfNums;simp[ByteArray.size]
 unfold MS BE;rw[e,Ce];omega
theorem GU (s:ByteArray) (w:World):
 Calls prog 58 #[.string s] w fun e w'=>e=.returned (.agg #[.int .u8 (kB s 0),.int .u8 (kB s 1),.int .u8 (kB s 2),.int .u8 (kB s 3),.int .u8 (kB s 4),.int .u8 (kB s 5),.int .u8 (kB s 6),.int .u8 (kB s 7)])/\Uq w w':=Fz s w
def DI (s:ByteArray):Obj:=.cells #[.int .u8 (kB s 0),.int .u8 (kB s 1),.int .u8 (kB s 2),.int .u8 (kB s 3),.int .u8 (kB s 4),.int .u8 (kB s 5),.int .u8 (kB s 6),.int .u8 (kB s 7)] 113
theorem R8.one (w:World) (s:ByteArray):R8 (w.alloc (DI s)) (w.heap.size+1) (.slice (some ⟨w.heap.size,0,none⟩) 1 1) [s]:=by
 refine .inr ⟨w.heap.size,0,1,rfl,by omega,fun i t ht j hj=> ?_⟩;cases i with
 |zero=>
  simp at ht;subst ht;rw[Nat.zero_mul,Nat.zero_add,Nat.zero_add];unfold DI;rw[World.cell?_alloc_at _ _ _ _ rfl]
  match j,hj with
  |0,_|1,_|2,_|3,_|4,_|5,_|6,_|7,_=>rfl
 |succ i=>simp at ht
section
section
open Go.WideElems Go.MapKept Go.ChangeMaps
end
def SF (E:List (ByteArray×ByteArray)) (t:ByteArray):List ByteArray:=E.filterMap (fun p=>if p.1=t then some p.2 else none)
noncomputable def rowV (f:Lit->Option Value) (t:ByteArray):Value:=(f (keyL t)).getD (.slice none 0 0)
structure Lk (w:World) (base b n:Nat) (wd:Int) (E:List (ByteArray×ByteArray)) (av:List Nat) (f:Lit->Option Value):Prop where
 map:AM w 113 b n f
 row:∀t:ByteArray,(t.size:Int)=wd->Tc w base (rowV f t) (SF E t)
 apart:∀s t:ByteArray,(s.size:Int)=wd->(t.size:Int)=wd->s≠t->∀g,Ax (rowV f s)=some g->Ax (rowV f t)≠some g
 far:∀t:ByteArray,(t.size:Int)=wd->∀g,Ax (rowV f t)=some g->g∉av
end
section
attribute [local go_sem↓] Go.wp_at_zero Go.wp_at_succ
theorem Aa.same {w w':World} {B:Nat} {l:List Value} (h:Aa w B l) (hb:w'.heap[B]?=w.heap[B]?):Aa w' B l:=
 fun j v hj=>⟨(World.cell?_of_block (a:=⟨B,j,none⟩) hb).trans (h j v hj).1,(World.frozen?_of_block (a:=⟨B,j,none⟩) hb).trans (h j v hj).2⟩
theorem EL (w:World) (o:Obj) {b:Nat} (h:b<w.heap.size):(w.alloc o).heap[b]?=w.heap[b]?:=Below.heap_alloc w o b h
theorem SU {w w':World} {B:Nat} {s:ByteArray} (h:w'.heap[B]?=w.heap[B]?) (hc:Aa w B [.int .u8 (kB s 0),.int .u8 (kB s 1),.int .u8 (kB s 2),.int .u8 (kB s 3),.int .u8 (kB s 4),.int .u8 (kB s 5),.int .u8 (kB s 6),.int .u8 (kB s 7)]):
 w'.cell? ⟨B,0,none⟩=some (.int .u8 (kB s 0))/\w'.cell? ⟨B,1,none⟩=some (.int .u8 (kB s 1))/\w'.cell? ⟨B,2,none⟩=some (.int .u8 (kB s 2))/\w'.cell? ⟨B,3,none⟩=some (.int .u8 (kB s 3))/\w'.cell? ⟨B,4,none⟩=some (.int .u8 (kB s 4))/\w'.cell? ⟨B,5,none⟩=some (.int .u8 (kB s 5))/\w'.cell? ⟨B,6,none⟩=some (.int .u8 (kB s 6))/\w'.cell? ⟨B,7,none⟩=some (.int .u8 (kB s 7)):=by
 have:=Aa.same hc h;exact⟨(this 0 _ rfl).1,(this 1 _ rfl).1,(this 2 _ rfl).1,(this 3 _ rfl).1,(this 4 _ rfl).1,(this 5 _ rfl).1,(this 6 _ rfl).1,(this 7 _ rfl).1⟩
end
end Go.Proofs.YtflhhhnlhlaehaaGreatDoor
