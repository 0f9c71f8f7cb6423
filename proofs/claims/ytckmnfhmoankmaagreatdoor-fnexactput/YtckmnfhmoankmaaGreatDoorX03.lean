import Derived.Test.YtckmnfhmoankmaaGreatDoorX01
import Derived.Test.YtckmnfhmoankmaaGreatDoorX02
import Derived.Maps.AppendAt
import Derived.Maps.Range
import Derived.Lib.SmallJoins
import Derived.OneCell
import Derived.Deep.DeepCutAuto
import Derived.Maps.OwnSet
import Derived.DeepKeys5
import Derived.Deep.Upon
import Derived.Deep.DrawnRows
import Derived.WideKeyEntry
import Derived.Maps.Views
import Derived.Deep.RegionLaw
set_option maxRecDepth 100000
set_option maxHeartbeats 16000000
namespace Go.Proofs.YtckmnfhmoankmaaGreatDoor
open Go.ChangeShapes Go.WideShapes Go.ChangeAt Go.RowKit _root_.Go.Proofs.Tryz
theorem IQ{a b:Nat}(h:b<a):some a≠some b:=fun e=>by have:=Option.some.inj e;omega
theorem Az(w:Zh)(g p:Nat)(v:Value):w.grownBy (w.setCell (Ze g p) v) (some g):=
 ⟨rfl,rfl,rfl,by simp,fun i _ a=>Below.heap_setCell _ _ _ _ (fun e=>a (by rw[e]))⟩
def Aa(w:Zh)(B:Nat)(l:Zj):Prop:=∀j v,l[j]?=some v->w.cell? (Ze B j)=some v/\w.frozen? ⟨B,j,none⟩=false
theorem Aa.lt{w:Zh}{B:Nat}{v:Value}{l:Zj}(h:Aa w B (v::l)):B<w.heap.size:=World.block_lt_of_cell? w _ (h 0 v rfl).1
theorem Aa.db{w f:Zh}{B b:Nat}{v:Value}{l:Zj}(h:Aa w B (v::l))(c:w.grownBy f (some b))(a:b<B):Aa f B (v::l):=by intro j x e;have d:=h.lt;exact⟨(c.cell_far ⟨B,j,none⟩ d (IQ a)).trans (h j x e).1,(c.frozen_far ⟨B,j,none⟩ d (IQ a)).trans (h j x e).2⟩
theorem Aa.below{w d:Zh}{B:Nat}{v:Value}{l:Zj}(h:Aa w B (v::l))(a:Zz w d):Aa d B (v::l):=by intro j x c;have b:=h.lt;exact⟨(a.cell (p:=⟨B,j,none⟩) b).trans (h j x c).1,(a.frozen (p:=⟨B,j,none⟩) b).trans (h j x c).2⟩
theorem Aa.new(w:Zh)(l:Zj)(T:TypeId):Aa (w.alloc (.cells l.toArray T)) w.heap.size l:=by intro j v a;refine⟨?_,by simp⟩;rw[World.cell?_alloc_at _ _ _ _ rfl];simpa using a
theorem Aa.co{w g:Zh}{B c:Nat}{v:Value}{l:Zj}(h:Aa w B (v::l))(a:w.grownBy g (some c))(i:c≠B):Aa g B (v::l):=by intro j x f;have b:=h.lt;have d:some B≠some c:=fun e=>i (Option.some.inj e).symm;exact⟨(a.cell_far ⟨B,j,none⟩ b d).trans (h j x f).1,(a.frozen_far ⟨B,j,none⟩ b d).trans (h j x f).2⟩
theorem Aa.set{w:Zh}{B:Nat}{l:Zj}(h:Aa w B l)(j:Nat)(v:Value):Aa (w.setCell (Ze B j) v) B (l.set j v):=by
 intro i x a;by_cases hij:i=j
 ·subst hij;have b:i<l.length:=by
   rcases Nat.lt_or_ge i l.length with c|c
   ·exact c
   ·rw[List.getElem?_eq_none (by simpa using c)]at a;cases a
  rw[List.getElem?_set_self b]at a;injection a with a;subst a;obtain⟨d,f⟩:=h i _ (Zv b);exact⟨by simp[go_sem,d],by simpa [go_sem]using f⟩
 ·rw[List.getElem?_set_ne (fun e=>hij e.symm)]at a;obtain⟨d,f⟩:=h i x a;refine⟨?_,by simpa [go_sem]using f⟩;rw[World.cell?_setCell_other _ _ _ _ (by intro e;injection e;omega)];exact d
theorem AJ{w W:Zh}{l:Zj}{T:TypeId}(h:W=w.alloc (.cells l.toArray T)):Below w.heap.size w W/\W.heap.size=w.heap.size+1/\Aa W w.heap.size l:=by subst h;exact⟨Zy,by simp,Aa.new w l T⟩
theorem Aa.alloc{w:Zh}{B:Nat}{l:Zj}(h:Aa w B l)(a:B<w.heap.size)(o:Obj):Aa (w.alloc o) B l:=fun j v b=>
 ⟨(((Below.refl w.heap.size w).alloc (Zx) o).cell (p:=⟨B,j,none⟩) a).trans (h j v b).1,(((Below.refl w.heap.size w).alloc (Zx) o).frozen (p:=⟨B,j,none⟩) a).trans (h j v b).2⟩
theorem Bj{w W:Zh}{l k:Zj}{T U:TypeId}(h:W=(w.alloc (.cells l.toArray T)).alloc (.cells k.toArray U)):Below w.heap.size w W/\W.heap.size=w.heap.size+2/\Aa W w.heap.size l/\Aa W (w.heap.size+1) k:=by obtain⟨a,d,e⟩:=AJ (w:=w) (l:=l) (T:=T) rfl;obtain⟨f,b,c⟩:=AJ h;rw[d]at b c;subst h;exact⟨a.trans (f.mono a.size),b,e.alloc (by omega) _,c⟩
theorem Bh{w W:Zh}{l k m:Zj}{T U V:TypeId}(h:W=((w.alloc (.cells l.toArray T)).alloc (.cells k.toArray U)).alloc (.cells m.toArray V)):Below w.heap.size w W/\W.heap.size=w.heap.size+3/\Aa W w.heap.size l/\Aa W (w.heap.size+1) k/\Aa W (w.heap.size+2) m:=by obtain⟨a,d,e,f⟩:=Bj (w:=w) (l:=l) (T:=T) (k:=k) (U:=U) rfl;obtain⟨g,b,c⟩:=AJ h;rw[d]at b c;subst h;exact⟨a.trans (g.mono a.size),b,e.alloc (by omega) _,f.alloc (by omega) _,c⟩
theorem ZS{w W:Zh}{l k m n:Zj}{T U V R:TypeId}(h:W=(((w.alloc (.cells l.toArray T)).alloc (.cells k.toArray U)).alloc (.cells m.toArray V)).alloc (.cells n.toArray R)):Below w.heap.size w W/\W.heap.size=w.heap.size+4/\Aa W w.heap.size l/\Aa W (w.heap.size+1) k/\Aa W (w.heap.size+2) m/\Aa W (w.heap.size+3) n:=by obtain⟨a,d,e,f,g⟩:=Bh (w:=w) (l:=l) (T:=T) (k:=k) (U:=U) (m:=m) (V:=V) rfl;obtain⟨i,b,c⟩:=AJ h;rw[d]at b c;subst h;exact⟨a.trans (i.mono a.size),b,e.alloc (by omega) _,f.alloc (by omega) _,g.alloc (by omega) _,c⟩
theorem Aa.c2{w:Zh}{B:Nat}{t:Zj}{a b:Value}(h:Aa w B t)(i j:Nat)(c:t[i]?=some a:=by rfl)(d:t[j]?=some b:=by rfl):w.cell? (Ze B i)=some a/\w.cell? (Ze B j)=some b:=
 ⟨(h i _ c).1,(h j _ d).1⟩
theorem Aa.c3{w:Zh}{B:Nat}{t:Zj}{a b c:Value}(h:Aa w B t)(i j k:Nat)(d:t[i]?=some a:=by rfl)(e:t[j]?=some b:=by rfl)(f:t[k]?=some c:=by rfl):w.cell? (Ze B i)=some a/\w.cell? (Ze B j)=some b/\w.cell? (Ze B k)=some c:=
 ⟨(h i _ d).1,(h j _ e).1,(h k _ f).1⟩
theorem Aa.c4{w:Zh}{B:Nat}{t:Zj}{a b c d:Value}(h:Aa w B t)(i j k l:Nat)(e:t[i]?=some a:=by rfl)(f:t[j]?=some b:=by rfl)(g:t[k]?=some c:=by rfl)(m:t[l]?=some d:=by rfl):w.cell? (Ze B i)=some a/\w.cell? (Ze B j)=some b/\w.cell? (Ze B k)=some c/\w.cell? (Ze B l)=some d:=
 ⟨(h i _ e).1,(h j _ f).1,(h k _ g).1,(h l _ m).1⟩
theorem Aa.c6{w:Zh}{B:Nat}{t:Zj}{a b c d e f:Value}(h:Aa w B t)(i j k l m n:Nat)(g:t[i]?=some a:=by rfl)(o:t[j]?=some b:=by rfl)(p:t[k]?=some c:=by rfl)(q:t[l]?=some d:=by rfl)(r:t[m]?=some e:=by rfl)(s:t[n]?=some f:=by rfl):w.cell? (Ze B i)=some a/\w.cell? (Ze B j)=some b/\w.cell? (Ze B k)=some c/\w.cell? (Ze B l)=some d/\w.cell? (Ze B m)=some e/\w.cell? (Ze B n)=some f:=
 ⟨(h i _ g).1,(h j _ o).1,(h k _ p).1,(h l _ q).1,(h m _ r).1,(h n _ s).1⟩
theorem Aa.c7{w:Zh}{B:Nat}{t:Zj}{a b c d e f g:Value}(h:Aa w B t)(i j k l m n o:Nat)(p:t[i]?=some a:=by rfl)(q:t[j]?=some b:=by rfl)(r:t[k]?=some c:=by rfl)(s:t[l]?=some d:=by rfl)(u:t[m]?=some e:=by rfl)(v:t[n]?=some f:=by rfl)(x:t[o]?=some g:=by rfl):w.cell? (Ze B i)=some a/\w.cell? (Ze B j)=some b/\w.cell? (Ze B k)=some c/\w.cell? (Ze B l)=some d/\w.cell? (Ze B m)=some e/\w.cell? (Ze B n)=some f/\w.cell? (Ze B o)=some g:=
 ⟨(h i _ p).1,(h j _ q).1,(h k _ r).1,(h l _ s).1,(h m _ u).1,(h n _ v).1,(h o _ x).1⟩
structure Kd where
 sum:Zi
 born:Int
 text:Zi
 refs:Zl
structure Pd where
 name:Zi
 sum:Zi
structure Ld where
 num:Int
 sum:Zi
 bf:Int
def KH(w:Zh)(B:Nat)(b o:Nat)(k:Kd):Prop:=
 w.cell? (Ze b o)=some (.string k.sum)/\w.cell? (Ze b (o+1))=some (Zg k.born)/\w.cell? (Ze b (o+2))=some (.string k.text)/\
  ∃ra rc,w.cell? (Ze b (o+3))=some (.slice ra k.refs.length rc)/\Ad w B ra k.refs
def BF(w:Zh)(B:Nat)(a:Zk)(ks:List Kd):Prop:=
 ks=[]∨∃b off,a=some ⟨b,off,none⟩/\b<B/\∀i k,ks[i]?=some k->KH w B b (off+i *4) k
def Ba(w:Zh)(B:Nat)(a:Zk)(ps:List Pd):Prop:=
 ps=[]∨∃b off,a=some ⟨b,off,none⟩/\b<B/\∀i p,ps[i]?=some p->w.cell? (Ze b (off+i *2))=some (.string p.name)/\w.cell? (Ze b (off+i *2+1))=some (.string p.sum)
def Be(w:Zh)(B:Nat)(a:Zk)(ls:List Ld):Prop:=
 ls=[]∨∃b off,a=some ⟨b,off,none⟩/\b<B/\∀i l,ls[i]?=some l->w.cell? (Ze b (off+i *3))=some (Zg l.num)/\w.cell? (Ze b (off+i *3+1))=some (.string l.sum)/\w.cell? (Ze b (off+i *3+2))=some (Zg l.bf)
theorem KH.below{w d:Zh}{B b o:Nat}{k:Kd}(h:KH w B b o k)(c:Below B w d)(a:b<B):KH d B b o k:=by obtain⟨e,f,g,l,m,i,j⟩:=h;exact⟨(c.cell (p:=⟨b,o,none⟩) a).trans e,(c.cell (p:=⟨b,o+1,none⟩) a).trans f,(c.cell (p:=⟨b,o+2,none⟩) a).trans g,l,m,(c.cell (p:=⟨b,o+3,none⟩) a).trans i,j.below c⟩
theorem KH.mono{w:Zh}{B B' b o:Nat}{k:Kd}(h:KH w B b o k)(g:B<=B'):KH w B' b o k:=by obtain⟨a,c,d,i,j,e,f⟩:=h;exact⟨a,c,d,i,j,e,f.mono g⟩
theorem BF.below{w e:Zh}{B:Nat}{a:Zk}{d:List Kd}(h:BF w B a d)(j:Below B w e):BF e B a d:=by
 rcases h with h|⟨b,f,g,c,l⟩
 ·exact .inl h
 ·exact .inr ⟨b,f,g,c,fun i k m=>(l i k m).below j c⟩
theorem BF.mono{w:Zh}{B B':Nat}{a:Zk}{c:List Kd}(h:BF w B a c)(f:B<=B'):BF w B' a c:=by
 rcases h with h|⟨b,d,e,l,g⟩
 ·exact .inl h
 ·exact .inr ⟨b,d,e,by omega,fun i k j=>(g i k j).mono f⟩
theorem BF.at{w:Zh}{B:Nat}{a:Zk}{d:List Kd}(h:BF w B a d){i:Nat}(e:i<d.length):
 ∃b c,a=some ⟨b,c,none⟩/\b<B/\∀i k,d[i]?=some k->KH w B b (c+i *4) k:=by
 rcases h with h|h
 ·subst h;simp at e
 ·exact h
theorem Ba.below{w l:Zh}{B:Nat}{a:Zk}{j:List Pd}(h:Ba w B a j)(e:Below B w l):Ba l B a j:=by
 rcases h with h|⟨b,d,m,c,f⟩
 ·exact .inl h
 ·exact .inr ⟨b,d,m,c,fun i k g=>⟨(e.cell (p:=⟨b,d+i *2,none⟩) c).trans (f i k g).1,(e.cell (p:=⟨b,d+i *2+1,none⟩) c).trans (f i k g).2⟩⟩
theorem Ba.mono{w:Zh}{B B':Nat}{a:Zk}{c:List Pd}(h:Ba w B a c)(i:B<=B'):Ba w B' a c:=by
 rcases h with h|⟨b,d,e,g,f⟩
 ·exact .inl h
 ·exact .inr ⟨b,d,e,by omega,f⟩
theorem Ba.at{w:Zh}{B:Nat}{a:Zk}{d:List Pd}(h:Ba w B a d){i:Nat}(e:i<d.length):
 ∃b c,a=some ⟨b,c,none⟩/\b<B/\∀i p,d[i]?=some p->w.cell? (Ze b (c+i *2))=some (.string p.name)/\w.cell? (Ze b (c+i *2+1))=some (.string p.sum):=by
 rcases h with h|h
 ·subst h;simp at e
 ·exact h
theorem Be.below{w l:Zh}{B:Nat}{a:Zk}{j:List Ld}(h:Be w B a j)(e:Below B w l):Be l B a j:=by
 rcases h with h|⟨b,d,m,c,f⟩
 ·exact .inl h
 ·exact .inr ⟨b,d,m,c,fun i k g=>⟨(e.cell (p:=⟨b,d+i *3,none⟩) c).trans (f i k g).1,(e.cell (p:=⟨b,d+i *3+1,none⟩) c).trans (f i k g).2.1,(e.cell (p:=⟨b,d+i *3+2,none⟩) c).trans (f i k g).2.2⟩⟩
theorem Be.mono{w:Zh}{B B':Nat}{a:Zk}{c:List Ld}(h:Be w B a c)(i:B<=B'):Be w B' a c:=by
 rcases h with h|⟨b,d,e,g,f⟩
 ·exact .inl h
 ·exact .inr ⟨b,d,e,by omega,f⟩
theorem Be.at{w:Zh}{B:Nat}{a:Zk}{d:List Ld}(h:Be w B a d){i:Nat}(e:i<d.length):
 ∃b c,a=some ⟨b,c,none⟩/\b<B/\∀i l,d[i]?=some l->w.cell? (Ze b (c+i *3))=some (Zg l.num)/\w.cell? (Ze b (c+i *3+1))=some (.string l.sum)/\w.cell? (Ze b (c+i *3+2))=some (Zg l.bf):=by
 rcases h with h|h
 ·subst h;simp at e
 ·exact h
def less(a b:Zi):Bool:=Op.bytesLess a.toList b.toList
def VD(k:Kd)(wd:Int):Zi:=EK (AH k.text k.refs wd).data.toList wd.toNat
def Ay(ks:List Kd)(s:Zi):Prop:=∃u∈ks,u.sum=s
theorem Kk{w:Zh}{base:Nat}{v:Value}{n:Nat}{d:Zj}(h:w.ownsRow base 9 1 v n d)(c:v≠Zc):∃g a,v=Za g n a:=by
 rcases Joins.ownsRow_forms h with⟨e,_⟩|b
 ·exact absurd e c
 ·exact b
theorem Ad.ck{w:Zh}{B g:Nat}{c:Zl}(h:Ad w B (some ⟨g,0,none⟩) c):∀j u,(c.map Value.string)[j]?=some u->w.cell? ((⟨g,0,none⟩:Addr).add j)=some u:=by
 intro j u a;rw[List.getElem?_map]at a;cases hs:c[j]? with
 |none=>rw[hs]at a;cases a
 |some s=>
  rw[hs]at a;cases a;rcases h with h|⟨b,f,d,_,e⟩
  ·subst h;simp at hs
  ·cases d;have:=e j s hs;rw[Go.WideShapes.add_plain];simpa using this
theorem NF(b:Zl):∀u∈b.map Value.string,u.oneCell'=true:=fun u a=>by obtain⟨s,_,rfl⟩:=List.mem_map.1 a;rfl
theorem Mn(g d:Nat)(a:Zl)(w:Zh)(m:Ad w w.heap.size (some ⟨g,0,none⟩) a)(B:a.length<=1048576):
 Calls prog 136 #[Za g a.length d] w fun e n=>∃x b,e=.returned (Za x a.length b)/\
  n.ownsRow w.heap.size 9 1 (Za x a.length b) a.length (a.map Value.string)/\Zz w n:=by
 obtain⟨y,t,p,q,r⟩:=info_parts CP;have i:Below w.heap.size w (w.alloc (.cells #[] 9)):=Zy;have s:∀u:Zh,(binOp .eql 22 (Za g a.length d) Zc).run prog u=.ok (.bool false) u:=fun _=>by first|rfl|kernel_rfl
 go_enter func136,ntmps136;go_wp2_with (first
  |(at_builtin;refine wpList_append_own _ rfl _ _ 22 rfl w.heap.size 9 y Zd 1 16 underlying22 t p q r rfl (by decide) _ 0 (([]:Zl).map Value.string) rfl ?d0 ⟨g,0,none⟩ a.length d (a.map Value.string) rfl ?d1 ?d2 ?d3 ?d4 ?d5 ?d6 ?_)
  |go_in)
 case d0=>exact World.ownsRow_lit (base:=w.heap.size) (e:=9) (size:=1) w #[] 0 (Zx) (by unfold maxLen;omega) rfl
 case d1=>simp
 case d2=>exact(m.below i).ck
 case d3=>exact NF a
 case d4=>unfold maxLen;omega
 case d5=>omega
 case d6=>simp
 intro z A c f h;have o:∃x b,z=Za x a.length b:=by have:=Kk c h;simpa using this
 obtain⟨x,b,rfl⟩:=o;try simp only[Nat.zero_add,List.map_nil,List.nil_append]at c
 have l:Below w.heap.size w A:=i.grown f (by simp) (fun k v=>by simp[Value.ownBlock]at v;omega);have j:=Yx (Zn c l);clear c f h l i m;go_wp2;go_ret;exact⟨x,b,rfl,j.o.1,j.o.2⟩
section
def kB(s:Zi)(i:Nat):Int:=((s.data.toList[i]?).getD 0).toNat
def Da(s:Zi):Array Value:= #[.int .u8 (kB s 0),.int .u8 (kB s 1),.int .u8 (kB s 2),.int .u8 (kB s 3),.int .u8 (kB s 4),.int .u8 (kB s 5),.int .u8 (kB s 6),.int .u8 (kB s 7)]
def Cv:Array Value:= #[.int .u8 0,.int .u8 0,.int .u8 0,.int .u8 0,.int .u8 0,.int .u8 0,.int .u8 0,.int .u8 0]
def Mo(s:Zi):Zj:=List.take (Nat.min s.size 8) (List.map (fun b=>Value.int .u8 b.toNat) s.data.toList)
theorem BO(s:Zi):s.data.toList.length=s.size:=by simp
theorem KI(s:Zi):(Mo s).length=min s.size 8:=by have:=BO s;simp only[Mo,List.length_take,List.length_map,this];show min (min s.size 8) s.size=_;omega
theorem VX(s:Zi)(i:Nat)(h:i<min s.size 8):(Mo s)[i]?=some (.int .u8 (kB s i)):=by have a:=BO s;unfold Mo kB;rw[List.getElem?_take_of_lt (by show i<min s.size 8;exact h),List.getElem?_map,Zv (by omega)];simp
theorem VY(s:Zi):(Cv.toList.take (0+0)++Mo s++Cv.toList.drop (0+0+(Mo s).length)).toArray=Da s:=by
 apply Array.ext';apply List.ext_getElem?;intro i;have c:=KI s;simp only[Nat.add_zero,List.take_zero,List.nil_append,Nat.zero_add];by_cases h:i<min s.size 8
 ·rw[List.getElem?_append_left (by omega),VX s i h];have b:i<8:=by omega
  match i,b with
  |0,_|1,_|2,_|3,_|4,_|5,_|6,_|7,_=>rfl
 ·rw[List.getElem?_append_right (by omega),c,List.getElem?_drop,show min s.size 8+(i -min s.size 8)=i from by omega];by_cases b:i<8
  ·have a:kB s i=0:=by have d:=BO s;unfold kB;rw[List.getElem?_eq_none (by omega)];rfl
   match i,b,a with
   |0,_,a|1,_,a|2,_,a|3,_,a|4,_,a|5,_,a|6,_,a|7,_,a=>simp[Cv,Da,a]
  ·rw[List.getElem?_eq_none (by simp[Cv];omega),List.getElem?_eq_none (by simp[Da];omega)]
theorem NG(w:Zh)(a b:Array Value)(t:TypeId):(w.alloc (.cells a t)).setRow w.heap.size b=w.alloc (.cells b t):=by
 unfold World.setRow World.alloc;congr 1;apply Array.ext
 ·simp
 ·intro i d c;simp only[Array.getElem_modify,Array.getElem_push];split
  ·rename_i h
   subst h;simp
  ·rename_i h
   simp at c;rw[dif_pos (by omega),dif_pos (by omega)]
theorem NH(w:Zh)(s:Zi)(d:TypeId):
 (Builtin.copy_ #[138,9] d #[Za w.heap.size 8 8,.string s]).run prog (w.alloc (.cells Cv 191))=.ok (goInt (Nat.min s.size 8)) (w.alloc (.cells (Da s) 191)):=by
 obtain⟨h,c,e,f,g⟩:=info_parts Me;have a:=run_storeCells_at (P:=prog) w.heap.size 0 191 (Mo s) 0 Cv (w.alloc (.cells Cv 191)) (heap_alloc_new w _) (by rw[KI];simp[Cv];omega) (fun v b=>by
  have b:=List.mem_of_mem_take b;simp only[List.mem_map]at b;obtain⟨_,_,rfl⟩:=b;rfl)
 rw[VY,NG]at a;unfold Mo at a;simp[Builtin.copy_,run_underlying underlying138,Builtin.lenOf,Builtin.firstCells,sizeOf,typeInfo,c,a,Result.andThen]
def Cw(s:Zi):Value:=.agg (Da s)
theorem Ip(s:Zi)(w:Zh):
 Calls prog 156 #[.string s] w fun e c=>e=.returned (Cw s)/\Zz w c:=by
 have b:∀a,(Builtin.copy_ #[138,9] a #[Za (w.heap.size+1) 8 8,.string s]).run prog ((w.alloc (.cells Cv 191)).alloc (.cells Cv 191))=.ok (goInt (Nat.min s.size 8)) ((w.alloc (.cells Cv 191)).alloc (.cells (Da s) 191)):=fun a=>by have:=NH (w.alloc (.cells Cv 191)) s a;rwa[show(w.alloc (.cells Cv 191)).heap.size=w.heap.size+1 from by simp]at this
 unfold Da Cv at b;go_enter func156,ntmps156;go_wp2;refine bodyPost_ret (v:=Cw s) (by simp[results,results156,go_sem,Cw,Da]) rfl ⟨rfl,?_⟩;exact(Zy).alloc (by simp) _
theorem YS(s:Zi)(i:Nat):0<=kB s i/\kB s i<256:=by unfold kB;have:=((s.data.toList[i]?).getD 0).toNat_lt;omega
theorem YT(s:Zi)(i:Nat):(Lit.int .u8 (kB s i)).wf=true:=by
 have:=YS s i;have a:IntKind.u8.min=0:=by decide
 have b:IntKind.u8.max=255:=by decide
 simp only[Lit.wf,a,b,Bool.and_eq_true,decide_eq_true_eq];omega
theorem XF:prog.keyType 191=true:=by kernel_rfl
theorem VE:prog.cellsOf 191=8:=by kernel_rfl
theorem YU:prog.cellsOf 5=1:=by kernel_rfl
theorem Uc:prog.underlying 191=some (.array 8 5):=by kernel_rfl
theorem XG:∃n,prog.types.size=n+1:=⟨prog.types.size -1,by kernel_rfl⟩
theorem NI(s:Zi):∃l,keyOf prog 191 (Cw s)=some l:=by obtain⟨n,a⟩:=XG;unfold keyOf;rw[Uc,a];simp only[XF,Cw,Value.formed,Uc,VE,Da];simp[Value.cells,Program.keyLits,VE,YU,List.range_succ,YT]
noncomputable def keyL (s:Zi):Lit:=(NI s).choose
theorem EM(s:Zi):keyOf prog 191 (Cw s)=some (keyL s):=(NI s).choose_spec
theorem YV:laidOutB prog=true:=by kernel_rfl
theorem keyed:Maps.Keyed prog 191:=Maps.Keyed.of_law (deep_law_gate YV (of_decide_eq_true (by kernel_rfl)) (of_decide_eq_true (by kernel_rfl)) XF (by rw[Uc]))
theorem key_inj{s t:Zi}(h:keyL s=keyL t)(q:s.size=t.size)(p:s.size<=8):s=t:=by
 have a:=EM t;rw[←h]at a;have d:=keyed.inj (EM s) a;clear a h;have o:∀i,i<8->kB s i=kB t i:=by
  simp only[Cw,Da,Value.agg.injEq,Array.mk.injEq,List.cons.injEq,Value.int.injEq,true_and,and_true]at d;obtain⟨e,f,g,j,k,l,m,n⟩:=d;intro i b
  match i,b with
  |0,_=>exact e
  |1,_=>exact f
  |2,_=>exact g
  |3,_=>exact j
  |4,_=>exact k
  |5,_=>exact l
  |6,_=>exact m
  |7,_=>exact n
 have r:=BO s;have u:=BO t;have c:s.data.toList=t.data.toList:=by
  apply List.ext_getElem?;intro i;by_cases b:i<s.size
  ·have:=o i (by omega);unfold kB at this;rw[Zv (by omega),Zv (by omega)]at this ⊢;simp only[Option.getD_some]at this;congr 1;exact UInt8.toNat_inj.1 (by omega)
  ·rw[List.getElem?_eq_none (by omega),List.getElem?_eq_none (by omega)]
 cases s;cases t;simp only[Array.toList_inj]at c;rw[c]
open Classical in
noncomputable def upd (f:Lit->Option Value) (kl:Lit) (v:Value):Lit->Option Value:=fun x=>if x=kl then some v else f x
theorem DV(f:Lit->Option Value)(a:Lit)(v:Value):upd f a v a=some v:=by simp[upd]
theorem DO(f:Lit->Option Value){a x:Lit}(v:Value)(h:x≠a):upd f a v x=f x:=by simp[upd,h]
def Nx(v:Value):Option (DataW Value×List MemPlace):=some (.held v,[])
def Bs(w:Zh)(K:TypeId)(b n:Nat)(f:Lit->Option Value):Prop:=
 ∃D:DataW Value,w.ownsMap prog K Nx b n D/\(∀kl z,D.atKey kl (.held z)=.held ((f kl).getD z))/\∀kl,Maps.has D kl=(f kl).isSome
theorem Bs.new(w:Zh)(K:TypeId):Bs (w.alloc (.map #[] 0)) K w.heap.size 0 (fun _=>none):=
 ⟨.map [],World.ownsMap_made _ _ _ _,fun _ _=>rfl,fun _=>rfl⟩
theorem Bs.ak{w a:Zh}{K:TypeId}{b n:Nat}{f:Lit->Option Value}(h:Bs w K b n f){B:Nat}(j:Below B w a)(i:b<B):Bs a K b n f:=by obtain⟨D,⟨c,clock,d,e⟩,g⟩:=h;exact⟨D,⟨c,clock,(j.block b i).trans d,e⟩,g⟩
theorem Bs.lt{w:Zh}{K:TypeId}{b n:Nat}{f:Lit->Option Value}(h:Bs w K b n f):b<w.heap.size:=h.choose_spec.1.lt
theorem Bs.put{w:Zh}{K t e:TypeId}{b n:Nat}{f:Lit->Option Value}(h:Bs w K b n f)(l:Maps.Keyed prog K)(v:prog.underlying t=some (.map K e))(r:n<maxLen){j val:Value}{g:Lit}(a:keyOf prog K j=some g):
 ∃c,(Instr.mapUpdate t (.map (some b)) j val).run prog w=.ok () c/\Bs c K b (n+1) (upd f g val)/\w.grownBy c (some b):=by
 obtain⟨D,k,o,p⟩:=h;obtain⟨c,u,s,q⟩:=k.update l v r a (d:=.held val) (ps:=[]) (val:=val) rfl;have m:=k.isMap;have i:=l.key a;refine⟨c,u,⟨_,s,fun x z=> ?_,fun x=> ?_⟩,q⟩
 ·by_cases hx:x=g
  ·subst hx;rw[Maps.atKey_put_same m i,DV];rfl
  ·rw[Maps.atKey_put_other hx,DO _ _ hx];exact o x z
 ·by_cases hx:x=g
  ·subst hx;rw[Maps.has_put_same m i,DV];rfl
  ·rw[Maps.has_put_other hx,DO _ _ hx];exact p x
theorem Bs.look{w:Zh}{K t e:TypeId}{b n:Nat}{f:Lit->Option Value}(h:Bs w K b n f)(k:Maps.Keyed prog K)(m:prog.underlying t=some (.map K e)){z:Value}(o:(zeroValue e).run prog w=.ok z w){c:Value}{g:Lit}(a:keyOf prog K c=some g):
 (Instr.lookup t (.map (some b)) c false).run prog w=.ok ((f g).getD z) w:=by
 obtain⟨D,i,j,_⟩:=h;obtain⟨v,p,l,d⟩:=i.lookup k m o (zd:=.held z) (zp:=[]) rfl a;rw[j]at d;simp only[Nx,Option.some.injEq,Prod.mk.injEq,DataW.held.injEq]at d;rw[l,d.1]
theorem Bs.look_ok{w:Zh}{K t e:TypeId}{b n:Nat}{f:Lit->Option Value}(h:Bs w K b n f)(l:Maps.Keyed prog K)(o:prog.underlying t=some (.map K e)){z:Value}(p:(zeroValue e).run prog w=.ok z w){c:Value}{g:Lit}(a:keyOf prog K c=some g):
 (Instr.lookup t (.map (some b)) c true).run prog w=.ok (.tuple #[(f g).getD z,.bool (f g).isSome]) w:=by
 obtain⟨D,i,j,k⟩:=h;obtain⟨v,q,m,d⟩:=i.look_ok l o p (zd:=.held z) (zp:=[]) rfl a;rw[j]at d;simp only[Nx,Option.some.injEq,Prod.mk.injEq,DataW.held.injEq]at d;rw[m,d.1,k]
end
def Am(s:Zi):Zj:=(Da s).toList
theorem Qr(s:Zi)(j:Nat)(h:j<8):(Am s)[j]?=some (.int .u8 (kB s j)):=by
 match j,h with
 |0,_|1,_|2,_|3,_|4,_|5,_|6,_|7,_=>rfl
def AW(ss:Zl):Zj:=ss.flatMap Am
theorem Fx(a:Zl):(AW a).length=a.length *8:=by
 induction a with
 |nil=>rfl
 |cons s a ih=>
  have:(Am s).length=8:=rfl;unfold AW at *
  rw[List.flatMap_cons,List.length_append,ih,List.length_cons,this];omega
theorem GC{a:Zl}{i j:Nat}{s:Zi}(h:a[i]?=some s)(c:j<8):(AW a)[i *8+j]?=some (.int .u8 (kB s j)):=by
 induction a generalizing i with
 |nil=>simp at h
 |cons t a ih=>
  have b:(Am t).length=8:=rfl;unfold AW at *
  rw[List.flatMap_cons];cases i with
  |zero=>simp at h;subst h;rw[List.getElem?_append_left (by omega),Nat.zero_mul,Nat.zero_add];exact Qr t j c
  |succ i=>rw[List.getElem?_append_right (by omega),b,show(i+1) *8+j -8=i *8+j by omega];exact ih (by simpa using h)
theorem KJ{a:Zl}{k:Nat}{u:Value}(h:(AW a)[k]?=some u):∃s,a[k/8]?=some s/\u=.int .u8 (kB s (k%8)):=by
 have c:k<a.length *8:=by rw[←Fx];exact(Zw h).1
 have b:k/8<a.length:=by omega
 refine⟨a[k/8],Zv b,?_⟩;have:=GC (j:=k%8) (Zv b) (Nat.mod_lt _ (by decide));rw[show k/8 *8+k%8=k by omega,h]at this;exact Option.some.inj this
theorem IS(a b:Zl):AW (a++b)=AW a++AW b:=by unfold AW;rw[List.flatMap_append]
theorem DW(c:Zl):∀u∈AW c,u.oneCell'=true:=by intro u b;obtain⟨k,a⟩:=List.getElem?_of_mem b;obtain⟨s,_,rfl⟩:=KJ a;rfl
def R8(w:Zh)(B:Nat)(v:Value)(ss:Zl):Prop:=
 (v=Zc/\ss=[])∨∃g off cap,v=.slice (some ⟨g,off,none⟩) ss.length cap/\g<B/\∀i s,ss[i]?=some s->∀j,j<8->w.cell? (Ze g (off+(i *8+j)))=some (.int .u8 (kB s j))
def Ao:Value->Option Nat
 |.slice (some a) _ _=>some a.block
 |_=>none
theorem R8.cells{w:Zh}{g a:Nat}{b:Zl}(c:∀i s,b[i]?=some s->∀j,j<8->w.cell? (Ze g (a+(i *8+j)))=some (.int .u8 (kB s j))):∀j u,(AW b)[j]?=some u->w.cell? ((⟨g,a,none⟩:Addr).add j)=some u:=by intro j u e;obtain⟨s,d,rfl⟩:=KJ e;have:=c _ s d (j%8) (Nat.mod_lt _ (by decide));rw[show j/8 *8+j%8=j by omega]at this;rw[Go.WideShapes.add_plain];exact this
theorem LH:(prog.info? 191).map (fun i=>(i.zero,i.size,i.bytes))=some (some (.agg #[.int .u8 0,.int .u8 0,.int .u8 0,.int .u8 0,.int .u8 0,.int .u8 0,.int .u8 0,.int .u8 0]),8,8):=by kernel_rfl
theorem Hq(b:Nat):∀(vs:Zj) (o:Nat) (w:Zh),(w.setCells b o vs).heap.size=w.heap.size
 |[],_,_=>rfl
 |_::r,o,w=>by rw[World.setCells,Hq b r];simp
theorem Mp(b:Nat):∀(vs:Zj) (o:Nat) (w:Zh),(w.setCells b o vs).tape=w.tape
 |[],_,_=>rfl
 |_::r,o,w=>by rw[World.setCells,Mp b r];rfl
theorem JS(b:Nat):∀(vs:Zj) (o:Nat) (w:Zh) (x:Addr),(w.cell? x).isSome=true->((w.setCells b o vs).cell? x).isSome=true
 |[],_,_,_,h=>h
 |v::r,o,w,x,h=>by
  rw[World.setCells];refine JS b r (o+1) _ x ?_;by_cases e:(⟨b,o,none⟩:Addr)=x
  ·subst e;obtain⟨u,a⟩:=Option.isSome_iff_exists.1 h;rw[World.cell?_setCell_same _ _ _ a];rfl
  ·rw[World.cell?_setCell_other _ _ _ _ e];exact h
theorem wpList_append_run{P:Program}{w:Zh}{b:Array Oper}{rest:List Oper}{o:Oper}{a:Act}{Q:Exit->Act->Zh->Prop}(f:o.guard=none)(s x:Operand)(t u:TypeId)
 (i:o.op=.call {callee:=.builtin .append,args:= #[s,x],argTypes:= #[t,u]}) {v e c:Value} {d:Zh} (k:a.eval s=v) (l:a.eval x=e)
 (j:(Builtin.append_ #[t,u] o.type #[v,e]).run P w=.ok c d) (h:wpList P b Q rest (a.put o.dst c) d):wpList P b Q (o::rest) a w:=by
 refine wpList_plain f fun K g=> ?_;unfold Oper.wp execOp;simp only[i,resolve,invoke,builtin,Sem.run_bind,Sem.run_pure,Result.andThen_ok,List.map_toArray,List.map_cons,List.map_nil,k,l,j];exact g _ _ h
theorem BP{P:Program}{w:Zh}{b:Array Oper}{o:Oper}{a:Act}{K:Act->Zh->Prop}{Q:Exit->Act->Zh->Prop}{E:Prop}(f:o.guard=none)(s x:Operand)(t u:TypeId)
 (g:o.op=.call {callee:=.builtin .append,args:= #[s,x],argTypes:= #[t,u]}) {v e c:Value} {d:Zh} (j:a.eval s=v) (l:a.eval x=e)
 (i:(Builtin.append_ #[t,u] o.type #[v,e]).run P w=.ok c d) (h:K (a.put o.dst c) d):
 if Region.wanted o (yielded b a.tmps)=true then Oper.wp P o a w K Q else E:=by
 have k:Region.wanted o (yielded b a.tmps)=true:=by simp[Region.wanted,f]
 rw[if_pos k];unfold Oper.wp execOp;simp only[g,resolve,invoke,builtin,Sem.run_bind,Sem.run_pure,Result.andThen_ok,List.map_toArray,List.map_cons,List.map_nil,j,l,i];exact h
structure NJ (ks:List Kd):Prop where
 len:ks.length<=maxLen
 sum:∀k∈ks,k.sum.size<=maxLen
 text:∀k∈ks,k.text.size<=maxLen
 refs:∀k∈ks,k.refs.length<=maxLen
 ref:∀k∈ks,∀s∈k.refs,s.size<=maxLen
structure NK (ps:List Pd):Prop where
 len:ps.length<=maxLen
 name:∀p∈ps,p.name.size<=maxLen
 sum:∀p∈ps,p.sum.size<=maxLen
structure NL (ls:List Ld):Prop where
 len:ls.length<=maxLen
 sum:∀l∈ls,l.sum.size<=maxLen
theorem RW(p:Pd)(left:Int)(w:Zh)(b:p.name.size<=maxLen)(c:p.sum.size<=maxLen)(f:0<=left)(g:left<=1048576):
 Calls prog 66 #[.agg #[.string p.name,.string p.sum],Zg left] w fun e d=>∃r:Int,e=.returned (Zg r)/\Zz w d/\r<=left:=by
 have a:Below w.heap.size w (w.alloc (.cells #[.string p.name,.string p.sum] 115)):=Zy;unfold maxLen at b c;by_cases hn:left<p.name.size
 ·go_enter func66,ntmps66;go_wp2;go_ret;exact⟨_,rfl,a,by omega⟩
 ·by_cases hm:left -p.name.size<p.sum.size
  ·go_enter func66,ntmps66;go_wp2;go_ret;exact⟨_,rfl,a,by omega⟩
  ·go_enter func66,ntmps66;go_wp2;go_ret;exact⟨_,rfl,a,by omega⟩
theorem OT(l:Ld)(left:Int)(w:Zh)(b:l.sum.size<=maxLen)(d:0<=left)(f:left<=1048576):
 Calls prog 67 #[.agg #[Zg l.num,.string l.sum,Zg l.bf],Zg left] w fun e c=>∃r:Int,e=.returned (Zg r)/\Zz w c/\r<=left:=by
 have a:Below w.heap.size w (w.alloc (.cells #[Zg l.num,.string l.sum,Zg l.bf] 118)):=Zy;unfold maxLen at b;by_cases hn:left<l.sum.size
 ·go_enter func67,ntmps67;go_wp2;go_ret;exact⟨_,rfl,a,by omega⟩
 ·go_enter func67,ntmps67;go_wp2;go_ret;exact⟨_,rfl,a,by omega⟩
theorem Qs(a:Zk)(p:Nat)(d:List Pd)(left:Int)(w:Zh)(g:Ba w w.heap.size a d)(j:NK d)(D:0<=left)(E:left<=1048576):
 Calls prog 39 #[.slice a d.length p,Zg left] w fun e y=>∃r:Int,e=.returned (Zg r)/\Zz w y/\r<=left/\(0<=r->d.length<=1048576):=by
 have s:=j.len;unfold maxLen at s;by_cases hn:left<d.length
 ·go_enter func39,ntmps39;go_wp2;go_ret;exact⟨_,rfl,Below.refl _ _,by omega,fun h=>by omega⟩
 ·go_enter func39,ntmps39;go_wp2
  go_loopw [1,5] (fun l i wr=>∃(k:Nat) (L:Int),k<=d.length/\i=Zg k/\l=Zg L/\0<=L/\L<=left/\Zz w wr) (fun _ i _=>d.length -(intOf i).toNat)
  case atStart=>exact⟨0,_,Nat.zero_le _,rfl,rfl,by omega,by omega,Below.refl _ _⟩
  case round=>
   obtain⟨k,L,H,rfl,rfl,z,F,c⟩:=hrel;by_cases hlt:k<d.length
   ·obtain⟨b,A,t,G,n⟩:=(g.below c).at hlt;subst t;have o:=Zv hlt;have f:=List.getElem_mem hlt;obtain⟨B,C⟩:=n k _ o;have u:=j.name _ f;have v:=j.sum _ f;clear n g j f o;generalize d[k]=x at *
    go_wp2_with fail;refine(RW x L wr u v (by omega) (by omega)).mono ?_;rintro e J ⟨r,rfl,q,I⟩;have m:=c.trans (q.mono c.size);by_cases h3:r<0
    ·go_wp2;go_ret;exact⟨_,rfl,m,by omega,fun h=>by omega⟩
    ·go_wp2;exact⟨⟨k+1,_,by omega,by go_num,rfl,by omega,by omega,m⟩,by simp[intOf];omega⟩
   ·go_wp2;go_ret;exact⟨_,rfl,c,by omega,fun _=>by omega⟩
theorem NM(a:Zk)(p:Nat)(d:List Ld)(left:Int)(w:Zh)(g:Be w w.heap.size a d)(j:NL d)(C:0<=left)(D:left<=1048576):
 Calls prog 40 #[.slice a d.length p,Zg left] w fun e v=>∃r:Int,e=.returned (Zg r)/\Zz w v/\r<=left/\(0<=r->d.length<=1048576):=by
 have s:=j.len;unfold maxLen at s;by_cases hn:left<d.length
 ·go_enter func40,ntmps40;go_wp2;go_ret;exact⟨_,rfl,Below.refl _ _,by omega,fun h=>by omega⟩
 ·go_enter func40,ntmps40;go_wp2
  go_loopw [1,5] (fun l i wr=>∃(k:Nat) (L:Int),k<=d.length/\i=Zg k/\l=Zg L/\0<=L/\L<=left/\Zz w wr) (fun _ i _=>d.length -(intOf i).toNat)
  case atStart=>exact⟨0,_,Nat.zero_le _,rfl,rfl,by omega,by omega,Below.refl _ _⟩
  case round=>
   obtain⟨k,L,G,rfl,rfl,y,E,c⟩:=hrel;by_cases hlt:k<d.length
   ·obtain⟨b,z,t,F,n⟩:=(g.below c).at hlt;subst t;have o:=Zv hlt;have f:=List.getElem_mem hlt;obtain⟨A,B,c2⟩:=n k _ o;have u:=j.sum _ f;clear n g j f o;generalize d[k]=x at *
    go_wp2_with fail;refine(OT x L wr u (by omega) (by omega)).mono ?_;rintro e I ⟨r,rfl,q,H⟩;have m:=c.trans (q.mono c.size);by_cases h3:r<0
    ·go_wp2;go_ret;exact⟨_,rfl,m,by omega,fun h=>by omega⟩
    ·go_wp2;exact⟨⟨k+1,_,by omega,by go_num,rfl,by omega,by omega,m⟩,by simp[intOf];omega⟩
   ·go_wp2;go_ret;exact⟨_,rfl,c,by omega,fun _=>by omega⟩
def Bb(w:Zh)(b:Nat)(wd now given ae:Int)(T P L:Value):Prop:=
 w.cell? (Ze b 0)=some (Zg wd)/\w.cell? (Ze b 1)=some (Zg now)/\w.cell? (Ze b 2)=some (Zg given)/\w.cell? (Ze b 3)=some (Zg ae)/\
  w.cell? (Ze b 4)=some T/\w.cell? (Ze b 5)=some P/\w.cell? (Ze b 6)=some L/\b<w.heap.size
theorem Bb.new(w:Zh)(b a given ae:Int)(T P L:Value)(t:TypeId):Bb (w.alloc (.cells #[Zg b,Zg a,Zg given,Zg ae,T,P,L] t)) w.heap.size b a given ae T P L:=
 ⟨by simp,by simp,by simp,by simp,by simp,by simp,by simp,by simp⟩
theorem Bb.ak{w e:Zh}{b B:Nat}{f d given ae:Int}{T P L:Value}(h:Bb w b f d given ae T P L)(a:Below B w e)(c:b<B):Bb e b f d given ae T P L:=by
 obtain⟨g,i,j,k,l,m,n,o⟩:=h;exact⟨(a.cell (p:=⟨b,0,none⟩) c).trans g,(a.cell (p:=⟨b,1,none⟩) c).trans i,(a.cell (p:=⟨b,2,none⟩) c).trans j,(a.cell (p:=⟨b,3,none⟩) c).trans k,
  (a.cell (p:=⟨b,4,none⟩) c).trans l,(a.cell (p:=⟨b,5,none⟩) c).trans m,(a.cell (p:=⟨b,6,none⟩) c).trans n,Zr o a.size⟩
theorem Bb.below{w c:Zh}{b:Nat}{d a given ae:Int}{T P L:Value}(h:Bb w b d a given ae T P L)(e:Zz w c):Bb c b d a given ae T P L:=h.ak e h.2.2.2.2.2.2.2
structure BJ (w:Zh) (B:Nat) (a p l:Zk) (ks:List Kd) (ps:List Pd) (ls:List Ld):Prop where
 k:BF w B a ks
 p:Ba w B p ps
 l:Be w B l ls
theorem BJ.af{w c:Zh}{a p l:Zk}{d:List Kd}{f:List Pd}{e:List Ld}(h:BJ w w.heap.size a p l d f e)(b:Zz w c):BJ c c.heap.size a p l d f e:=
 ⟨(h.k.below b).mono b.size,(h.p.below b).mono b.size,(h.l.below b).mono b.size⟩
theorem BJ.ak{w f:Zh}{B:Nat}{a p l:Zk}{c:List Kd}{e:List Pd}{d:List Ld}(h:BJ w B a p l c e d)(b:Below B w f):BJ f B a p l c e d:=
 ⟨h.k.below b,h.p.below b,h.l.below b⟩
theorem BJ.mono{w:Zh}{B B':Nat}{a p l:Zk}{c:List Kd}{e:List Pd}{d:List Ld}(h:BJ w B a p l c e d)(b:B<=B'):BJ w B' a p l c e d:=
 ⟨h.k.mono b,h.p.mono b,h.l.mono b⟩
structure Qt (ks:List Kd) (ps:List Pd) (ls:List Ld):Prop where
 k:ks.length<=1048576
 r:∀k∈ks,k.refs.length<=1048576
 p:ps.length<=1048576
 l:ls.length<=1048576
def Ei(w:Zh)(lo g c:Nat)(rs:Zl):Prop:=w.ownsRow lo 9 1 (.slice (some ⟨g,0,none⟩) rs.length c) rs.length (rs.map Value.string)
theorem Qu(k:Kd)(a:Zk)(d:Nat)(w:Zh)(c:Ad w w.heap.size a k.refs)(l:k.refs.length<=1048576):
 Calls prog 91 #[.agg #[.string k.sum,Zg k.born,.string k.text,.slice a k.refs.length d]] w fun e h=>∃g,e=.returned (.agg #[.string k.sum,Zg k.born,.string k.text,Za g k.refs.length k.refs.length])/\
  Ei h w.heap.size g k.refs.length k.refs/\Zz w h:=by
 go_enter func91,ntmps91;go_wp2_with fail;refine(JO k.text a d k.refs _ (c.af (((Zy).alloc (by simp) _).alloc (by simp;omega) _)) l).mono ?_;rintro e o ⟨g,rfl,j,b,f⟩;obtain⟨i,n⟩:=JC f;have m:=f.size;simp at m j;go_wp2;refine bodyPost_ret (v:=.agg #[.string k.sum,Zg k.born,.string k.text,Za g k.refs.length k.refs.length]) (by simp[results,results91,go_sem,i]) rfl ⟨g,rfl,?_,?_⟩
 ·exact(ownsRow_setCell_below (ownsRow_setCell_below (ownsRow_setCell_below (ownsRow_setCell_below (ownsRow_setCell_below (ownsRow_setCell_below b (by simp) _) (by simp) _) (by simp) _) (by simp) _) (by simp) _) (by simp) _).mono (by simp;omega)
 ·exact(((((((Zy).alloc (by simp) _).alloc (by simp;omega) _).trans (f.mono (by simp;omega))).setCell (by simp;omega) _|>.setCell (by simp;omega) _|>.setCell (by simp) _|>.setCell (by simp) _|>.setCell (by simp) _|>.setCell (by simp) _)))
def Eu(w:Zh)(lo:Nat)(xs:Zj)(i:Nat)(x:Kd):Prop:=
 xs[i *4]?=some (.string x.sum)/\xs[i *4+1]?=some (Zg x.born)/\xs[i *4+2]?=some (.string x.text)/\
  ∃g,xs[i *4+3]?=some (.slice (some ⟨g,0,none⟩) x.refs.length x.refs.length)/\Ei w lo g x.refs.length x.refs
theorem GR:(prog.info? 137).map (fun i=>(i.zero,i.size,i.bytes))=some (some (.agg #[Zd,Zf,Zd,Zc]),4,64):=by kernel_rfl
theorem Ei.ak{w d:Zh}{lo g c:Nat}{b:Zl}(h:Ei w lo g c b)(a:Zz w d):Ei d lo g c b:=
 World.ownsRow.kept h (row:=none) ⟨a.os,a.tape,a.output,a.size,fun k e _=>a.block k e⟩ (.inr (by simp[Value.ownBlock]))
theorem Eu.ak{w a:Zh}{lo i:Nat}{b:Zj}{x:Kd}(h:Eu w lo b i x)(k:Zz w a):Eu a lo b i x:=by obtain⟨c,d,e,g,f,j⟩:=h;exact⟨c,d,e,g,f,j.ak k⟩
theorem Eu.fx{w b:Zh}{lo i j:Nat}{d:Zj}{x:Kd}(h:Eu w lo d i x)(o:i<j)(k l m n:Value)(f:∀g c a,Ei w lo g c a->Ei b lo g c a):
 Eu b lo ((((d.set (j *4) k).set (j *4+1) l).set (j *4+2) m).set (j *4+3) n) i x:=by
 obtain⟨p,q,r,g,s,e⟩:=h;refine⟨?_,?_,?_,g,?_,f _ _ _ e⟩
 all_goals
  rw[List.getElem?_set_ne (by omega),List.getElem?_set_ne (by omega),List.getElem?_set_ne (by omega),List.getElem?_set_ne (by omega)];assumption
theorem Eu.new4{w:Zh}{lo j g:Nat}{a:Zj}(x:Kd)(c:j *4+3<a.length)(b:Ei w lo g x.refs.length x.refs):
 Eu w lo ((((a.set (j *4) (.string x.sum)).set (j *4+1) (Zg x.born)).set (j *4+2) (.string x.text)).set (j *4+3) (Za g x.refs.length x.refs.length)) j x:=by
 refine⟨?_,?_,?_,g,?_,b⟩
 ·rw[List.getElem?_set_ne (by omega),List.getElem?_set_ne (by omega),List.getElem?_set_ne (by omega),List.getElem?_set_self (by omega)]
 ·rw[List.getElem?_set_ne (by omega),List.getElem?_set_ne (by omega),List.getElem?_set_self (by simp;omega)]
 ·rw[List.getElem?_set_ne (by omega),List.getElem?_set_self (by simp;omega)]
 ·rw[List.getElem?_set_self (by simp;omega)]
def NN(xs:Zj)(n:Nat):Prop:=∀(i j q q' m c m' c':Nat),i<j->j<n->xs[i *4+3]?=some (.slice (some ⟨q,0,none⟩) m c)->xs[j *4+3]?=some (.slice (some ⟨q',0,none⟩) m' c')->q<q'
theorem NN.fx{b:Zj}{k:Nat}(h:NN b k)(w:k *4+3<b.length)(s t u:Value)(g m c:Nat)(o:∀i q m c,i<k->b[i *4+3]?=some (Za q m c)->q<g):
 NN ((((b.set (k *4) s).set (k *4+1) t).set (k *4+2) u).set (k *4+3) (Za g m c)) (k+1):=by
 intro i j q r n f p c2 d v e a;rw[List.getElem?_set_ne (by omega),List.getElem?_set_ne (by omega),List.getElem?_set_ne (by omega),List.getElem?_set_ne (by omega)]at e;rcases Nat.lt_or_ge j k with l|l
 ·rw[List.getElem?_set_ne (by omega),List.getElem?_set_ne (by omega),List.getElem?_set_ne (by omega),List.getElem?_set_ne (by omega)]at a;exact h i j q r n f p c2 d l e a
 ·obtain rfl:j=k:=by omega
  rw[List.getElem?_set_self (by simp;omega)]at a;cases a;exact o i q n f d e
def Ud(w:Zh)(lo g:Nat)(ks:List Kd):Prop:=
 ∃xs,w.ownsRow lo 137 4 (.slice (some ⟨g,0,none⟩) ks.length ks.length) ks.length xs/\(∀i x,ks[i]?=some x->Eu w (g+1) xs i x)/\NN xs ks.length
theorem OU(a:Zk)(O:Nat)(l:List Kd)(w:Zh)(A:BF w w.heap.size a l)(hl:l.length<=1048576)(D:∀k∈l,k.refs.length<=1048576):
 Calls prog 49 #[.slice a l.length O] w fun e N=>∃g,e=.returned (Za g l.length l.length)/\w.heap.size<=g/\Ud N w.heap.size g l/\Zz w N:=by
 obtain⟨i0,B,S,T,U⟩:=info_parts GR;go_enter func49,ntmps49;go_wp2_with (at_make;refine wpList_make_full _ rfl _ _ 39 rfl w.heap.size 137 i0 _ 4 underlying39 B S T .i64 .i64 _ _ l.length rfl rfl rfl rfl ?c1 ?c2 ?c3 ?_)
 case c1=>rw[U];omega
 case c2=>unfold maxLen;omega
 case c3=>exact Zx
 intro s d r;have u:Below w.heap.size w s:=(Below.refl _ _).grown r (Zx) (by simp);have V:w.heap.size<s.heap.size:=(d.lt _ rfl).2;generalize (madeCells _ _).toList=ys at d;clear r;go_wp2
 go_loopw [4] (fun i wr=>∃(k:Nat) (p:Zj),k<=l.length/\i=Zg k/\wr.ownsRow w.heap.size 137 4 (Za w.heap.size l.length l.length) l.length p/\Hid (∀i,i<k->∀x,l[i]?=some x->Eu wr (w.heap.size+1) p i x)/\Hid (NN p k)/\Zz w wr) (fun i _=>l.length -(intOf i).toNat)
 case atStart=>exact⟨0,ys,Nat.zero_le _,rfl,d,fun i h=>by omega,fun i j q q' m c m' c' h1 h2=>by omega,u⟩
 case round=>
  obtain⟨k,p,hk,rfl,d,t,z,n⟩:=hrel;by_cases hlt:k<l.length
  ·obtain⟨b,zC,ha,hb,L⟩:=A.at hlt;subst ha;have H:l[k]?=some l[k]:=Zv hlt;obtain⟨c0,c1,c2,ra,rc,c3,F⟩:=(L k _ H).below n hb;have R:=D _ (List.getElem_mem hlt);have zA:=(d.lt _ rfl).2;have Y:=Yx d;have X:=Yx H;clear L A H d D;generalize l[k]=x at *
   have v:=Qu x ra rc wr (F.mono n.size) R;have W:=Yx v;clear v F;go_wp2_with fail;refine Calls.mono W.o ?_;rintro e s ⟨g,rfl,E,u⟩;have o:=World.ownsRow.kept Y.o (AA none u) (.inr (by simp[Value.ownBlock]));have zB:=o.1;have Z:s.cell? (Ze (w.heap.size) (k *4))=p[k *4]?:=o.cellAt _ (by omega);have e1:s.cell? (Ze (w.heap.size) (k *4+1))=p[k *4+1]?:=o.cellAt _ (by omega)
   have e2:s.cell? (Ze (w.heap.size) (k *4+2))=p[k *4+2]?:=o.cellAt _ (by omega);have e3:s.cell? (Ze (w.heap.size) (k *4+3))=p[k *4+3]?:=o.cellAt _ (by omega);rw[Zv (by omega)]at Z e1 e2 e3;have f:=o.frozenAt;go_wp2;have P:=n.trans (u.mono n.size)
   refine⟨⟨k+1,((((p.set (k *4) (.string x.sum)).set (k *4+1) (Zg x.born)).set (k *4+2) (.string x.text)).set (k *4+3) (Za g x.refs.length x.refs.length)),by omega,by go_num,((((o.stored (k *4) _).1.stored (k *4+1) _).1.stored (k *4+2) _).1.stored (k *4+3) _).1,?_,z.o.fx (by omega) _ _ _ _ _ _ (fun i q m c B C=> ?_),?_⟩,by simp[intOf];omega⟩
   ·have M:∀q c J,Ei s (w.heap.size+1) q c J->Ei ((((s.setCell (Ze (w.heap.size) (k *4)) (Value.string x.sum)).setCell (Ze (w.heap.size) (k *4+1)) (Value.int IntKind.i64 x.born)).setCell (Ze (w.heap.size) (k *4+2)) (Value.string x.text)).setCell (Ze (w.heap.size) (k *4+3)) (Za g x.refs.length x.refs.length)) (w.heap.size+1) q c J:=
     fun q c J h=>ownsRow_setCell_below (ownsRow_setCell_below (ownsRow_setCell_below (ownsRow_setCell_below h (by simp) _) (by simp) _) (by simp) _) (by simp) _
    intro i B y I;rcases Nat.lt_or_ge i k with G|G
    ·exact((t i G y I).ak u).fx G _ _ _ _ M
    ·obtain rfl:i=k:=by omega
     rw[X.o]at I;cases I;exact Eu.new4 x (by omega) (M _ _ _ (World.ownsRow.mono E (by omega)))
   ·have Q:i<l.length:=by omega
    obtain⟨_,_,_,q',K,h4⟩:=t i B _ (Zv Q);rw[C]at K;cases K;have l1:=(World.ownsRow.lt h4 q rfl).2;have l2:=(World.ownsRow.lt E g rfl).1;omega
   ·exact(((P.setCell (by simp) _).setCell (by simp) _).setCell (by simp) _).setCell (by simp) _
  ·go_wp2;go_ret;exact⟨_,rfl,Zx,⟨p,d,fun i x C=>t i (by have:=(Zw C).1;omega) x C,by have e:k=l.length:=(by omega);rw[←e];exact z.o⟩,n⟩
theorem GM:(prog.info? 142).map (fun i=>(i.zero,i.size,i.bytes))=some (some (.agg #[Zd,Zd]),2,32):=by kernel_rfl
theorem RZ(x:Pd)(w:Zh):
 Calls prog 92 #[.agg #[.string x.name,.string x.sum]] w fun e a=>e=.returned (.agg #[.string x.name,.string x.sum])/\Zz w a:=by
 go_enter func92,ntmps92;go_wp2;refine bodyPost_ret (v:=.agg #[.string x.name,.string x.sum]) (by simp[results,results92,go_sem]) rfl ⟨rfl,?_⟩;exact(((Zy).alloc (by simp) _).alloc (by simp;omega) _)
def Ue(w:Zh)(lo g:Nat)(ps:List Pd):Prop:=
 ∃xs,w.ownsRow lo 142 2 (.slice (some ⟨g,0,none⟩) ps.length ps.length) ps.length xs/\∀i x,ps[i]?=some x->xs[i *2]?=some (.string x.name)/\xs[i *2+1]?=some (.string x.sum)
theorem Qv(a:Zk)(C:Nat)(d:List Pd)(w:Zh)(p:Ba w w.heap.size a d)(W:d.length<=1048576):
 Calls prog 50 #[.slice a d.length C] w fun e B=>∃g,e=.returned (Za g d.length d.length)/\w.heap.size<=g/\Ue B w.heap.size g d/\Zz w B:=by
 obtain⟨N,z,E,F,G⟩:=info_parts GM;go_enter func50,ntmps50;go_wp2_with (at_make;refine wpList_make_full _ rfl _ _ 40 rfl w.heap.size 142 N _ 2 underlying40 z E F .i64 .i64 _ _ d.length rfl rfl rfl rfl ?c1 ?c2 ?c3 ?_)
 case c1=>rw[G];omega
 case c2=>unfold maxLen;omega
 case c3=>exact Zx
 intro t c l;have q:=(Below.refl _ _).grown l (Zx) (by simp);have H:=(c.lt _ rfl).2;generalize (madeCells _ _).toList=ys at c;clear l;go_wp2
 go_loopw [4] (fun i wr=>∃(k:Nat) (m:Zj),k<=d.length/\i=Zg k/\wr.ownsRow w.heap.size 142 2 (Za w.heap.size d.length d.length) d.length m/\Hid (∀i,i<k->∀x,d[i]?=some x->m[i *2]?=some (.string x.name)/\m[i *2+1]?=some (.string x.sum))/\Zz w wr) (fun i _=>d.length -(intOf i).toNat)
 case atStart=>exact⟨0,ys,Nat.zero_le _,rfl,c,fun i h=>by omega,q⟩
 case round=>
  obtain⟨k,m,V,rfl,c,o,j⟩:=hrel;by_cases hlt:k<d.length
  ·obtain⟨b,S,M,U,v⟩:=(p.below j).at hlt;subst M;have r:=Zv hlt;obtain⟨T,c1⟩:=v k _ r;have Q:=(c.lt _ rfl).2;have J:=Yx c;have I:=Yx r;clear v p r c;generalize d[k]=x at *
   go_wp2_with fail;refine(RZ x wr).mono ?_;rintro e t ⟨rfl,q⟩;have n:=World.ownsRow.kept J.o (AA none q) (.inr (by simp[Value.ownBlock]));have R:=n.1;have K:t.cell? (Ze (w.heap.size) (k *2))=m[k *2]?:=n.cellAt _ (by omega);have L:t.cell? (Ze (w.heap.size) (k *2+1))=m[k *2+1]?:=n.cellAt _ (by omega);rw[Zv (by omega)]at K L;have f:=n.frozenAt;go_wp2;have D:=j.trans (q.mono j.size)
   refine⟨⟨k+1,((m.set (k *2) (.string x.name)).set (k *2+1) (.string x.sum)),by omega,by go_num,((n.stored (k *2) _).1.stored (k *2+1) _).1,?_,((D.setCell (by simp) _).setCell (by simp) _)⟩,by simp[intOf];omega⟩;intro i z y s;rcases Nat.lt_or_ge i k with u|u
   ·obtain⟨O,P⟩:=o i u y s;exact⟨(by rw[List.getElem?_set_ne (by omega),List.getElem?_set_ne (by omega)];exact O),(by rw[List.getElem?_set_ne (by omega),List.getElem?_set_ne (by omega)];exact P)⟩
   ·obtain rfl:i=k:=by omega
    rw[I.o]at s;cases s;exact⟨(by rw[List.getElem?_set_ne (by omega),List.getElem?_set_self (by first|omega|(simp;omega))]),(by rw[List.getElem?_set_self (by first|omega|(simp;omega))])⟩
  ·go_wp2;go_ret;exact⟨_,rfl,Zx,⟨m,c,fun i x A=>o i (by have:=(Zw A).1;omega) x A⟩,j⟩
theorem Gm:(prog.info? 144).map (fun i=>(i.zero,i.size,i.bytes))=some (some (.agg #[Zf,Zd,Zf]),3,32):=by kernel_rfl
theorem OV(x:Ld)(w:Zh):
 Calls prog 93 #[.agg #[Zg x.num,.string x.sum,Zg x.bf]] w fun e a=>e=.returned (.agg #[Zg x.num,.string x.sum,Zg x.bf])/\Zz w a:=by
 go_enter func93,ntmps93;go_wp2;refine bodyPost_ret (v:=.agg #[Zg x.num,.string x.sum,Zg x.bf]) (by simp[results,results93,go_sem]) rfl ⟨rfl,?_⟩;exact(((Zy).alloc (by simp) _).alloc (by simp;omega) _)
def Uf(w:Zh)(lo g:Nat)(ls:List Ld):Prop:=
 ∃xs,w.ownsRow lo 144 3 (.slice (some ⟨g,0,none⟩) ls.length ls.length) ls.length xs/\∀i x,ls[i]?=some x->xs[i *3]?=some (Zg x.num)/\xs[i *3+1]?=some (.string x.sum)/\xs[i *3+2]?=some (Zg x.bf)
theorem NO(a:Zk)(C:Nat)(d:List Ld)(w:Zh)(p:Be w w.heap.size a d)(Y:d.length<=1048576):
 Calls prog 51 #[.slice a d.length C] w fun e B=>∃g,e=.returned (Za g d.length d.length)/\w.heap.size<=g/\Uf B w.heap.size g d/\Zz w B:=by
 obtain⟨O,z,E,F,G⟩:=info_parts Gm;go_enter func51,ntmps51;go_wp2_with (at_make;refine wpList_make_full _ rfl _ _ 41 rfl w.heap.size 144 O _ 3 underlying41 z E F .i64 .i64 _ _ d.length rfl rfl rfl rfl ?c1 ?c2 ?c3 ?_)
 case c1=>rw[G];omega
 case c2=>unfold maxLen;omega
 case c3=>exact Zx
 intro r c m;have q:Below w.heap.size w r:=(Below.refl _ _).grown m (Zx) (by simp);have H:w.heap.size<r.heap.size:=(c.lt _ rfl).2;generalize (madeCells _ _).toList=ys at c;clear m;go_wp2
 go_loopw [4] (fun i wr=>∃(k:Nat) (l:Zj),k<=d.length/\i=Zg k/\wr.ownsRow w.heap.size 144 3 (Za w.heap.size d.length d.length) d.length l/\Hid (∀i,i<k->∀x,d[i]?=some x->l[i *3]?=some (Zg x.num)/\l[i *3+1]?=some (.string x.sum)/\l[i *3+2]?=some (Zg x.bf))/\Zz w wr) (fun i _=>d.length -(intOf i).toNat)
 case atStart=>exact⟨0,ys,Nat.zero_le _,rfl,c,fun i h=>by omega,q⟩
 case round=>
  obtain⟨k,l,X,rfl,c,o,j⟩:=hrel;by_cases hlt:k<d.length
  ·obtain⟨b,U,N,W,v⟩:=(p.below j).at hlt;subst N;have s:d[k]?=some d[k]:=Zv hlt;obtain⟨V,c1,c2⟩:=v k _ s;have S:=(c.lt _ rfl).2;have J:=Yx c;have I:=Yx s;clear v p s c;generalize d[k]=x at *
   go_wp2_with fail;refine(OV x wr).mono ?_;rintro e r ⟨rfl,q⟩;have n:=World.ownsRow.kept J.o (AA none q) (.inr (by simp[Value.ownBlock]));have T:=n.1;have K:r.cell? (Ze (w.heap.size) (k *3))=l[k *3]?:=n.cellAt _ (by omega);have L:r.cell? (Ze (w.heap.size) (k *3+1))=l[k *3+1]?:=n.cellAt _ (by omega);have M:r.cell? (Ze (w.heap.size) (k *3+2))=l[k *3+2]?:=n.cellAt _ (by omega)
   rw[Zv (by omega)]at K L M;have f:=n.frozenAt;go_wp2;have D:=j.trans (q.mono j.size);refine⟨⟨k+1,(((l.set (k *3) (Zg x.num)).set (k *3+1) (.string x.sum)).set (k *3+2) (Zg x.bf)),by omega,by go_num,(((n.stored (k *3) _).1.stored (k *3+1) _).1.stored (k *3+2) _).1,?_,(((D.setCell (by simp) _).setCell (by simp) _).setCell (by simp) _)⟩,by simp[intOf];omega⟩;intro i z y t
   rcases Nat.lt_or_ge i k with u|u
   ·obtain⟨P,Q,R⟩:=o i u y t;exact⟨(by rw[List.getElem?_set_ne (by omega),List.getElem?_set_ne (by omega),List.getElem?_set_ne (by omega)];exact P),(by rw[List.getElem?_set_ne (by omega),List.getElem?_set_ne (by omega),List.getElem?_set_ne (by omega)];exact Q),(by rw[List.getElem?_set_ne (by omega),List.getElem?_set_ne (by omega),List.getElem?_set_ne (by omega)];exact R)⟩
   ·obtain rfl:i=k:=by omega
    rw[I.o]at t;cases t;exact⟨(by rw[List.getElem?_set_ne (by omega),List.getElem?_set_ne (by omega),List.getElem?_set_self (by first|omega|(simp;omega))]),(by rw[List.getElem?_set_ne (by omega),List.getElem?_set_self (by first|omega|(simp;omega))]),(by rw[List.getElem?_set_self (by first|omega|(simp;omega))])⟩
  ·go_wp2;go_ret;exact⟨_,rfl,Zx,⟨l,c,fun i x A=>o i (by have:=(Zw A).1;omega) x A⟩,j⟩
def Ab{A:Type}(c:A->Zj)(xs:List A):Zj:=xs.flatMap c
theorem BC{A:Type}{c:A->Zj}{n:Nat}(h:∀x,(c x).length=n)(a:List A):(Ab c a).length=a.length *n:=by
 unfold Ab;induction a with
 |nil=>simp
 |cons x a ih=>rw[List.flatMap_cons,List.length_append,ih,h,List.length_cons,Nat.add_mul];omega
theorem Bt{A:Type}(c:A->Zj)(a b:List A):Ab c (a++b)=Ab c a++Ab c b:=by unfold Ab;rw[List.flatMap_append]
theorem Bz{A:Type}{c:A->Zj}{n:Nat}(h:∀x,(c x).length=n):∀{xs:List A} {i j:Nat} {x:A},xs[i]?=some x->j<n->(Ab c xs)[i *n+j]?=(c x)[j]?
 |[],_,_,_,hx,_=>by simp at hx
 |y::ys,0,j,x,hx,hj=>by simp at hx;subst hx;show(y::ys|>.flatMap c)[_]?=_;rw[List.flatMap_cons,Nat.zero_mul,Nat.zero_add,List.getElem?_append_left (by rw[h];exact hj)]
 |y::ys,i+1,j,x,hx,hj=>by
  have a:ys[i]?=some x:=by simpa using hx
  show(y::ys|>.flatMap c)[_]?=_;rw[List.flatMap_cons,List.getElem?_append_right (by rw[h,Nat.add_mul];omega),h,show(i+1) *n+j -n=i *n+j by rw[Nat.add_mul];omega];exact Bz h a hj
theorem PV{A:Type}{c:A->Zj}{n:Nat}(h:∀x,(c x).length=n)(f:0<n){a:List A}{k:Nat}{u:Value}(d:(Ab c a)[k]?=some u):∃x,a[k/n]?=some x/\(c x)[k%n]?=some u:=by have e:=(Zw d).1;rw[BC h]at e;have b:=Nat.div_lt_of_lt_mul (by rw[Nat.mul_comm];exact e);refine⟨a[k/n],Zv b,?_⟩;have:=Bz h (Zv b) (Nat.mod_lt k f);rw[show k/n *n+k%n=k by rw[Nat.mul_comm];exact Nat.div_add_mod k n]at this;rw[←this];exact d
theorem FN{A:Type}{c:A->Zj}{n:Nat}(h:∀x,(c x).length=n)(a:List A)(i:Nat)(e:i<=a.length):(Ab c a).take (i *n)=Ab c (a.take i):=by
 have b:Ab c a=Ab c (a.take i)++Ab c (a.drop i):=by rw[←Bt,List.take_append_drop]
 have d:(Ab c (a.take i)).length=i *n:=by rw[BC h,List.length_take,Nat.min_eq_left e]
 rw[b,←d,List.take_left]
theorem Fi{A:Type}{c:A->Zj}{n:Nat}(h:∀x,(c x).length=n)(a:List A)(i:Nat)(e:i<=a.length):(Ab c a).drop (i *n)=Ab c (a.drop i):=by
 have b:Ab c a=Ab c (a.take i)++Ab c (a.drop i):=by rw[←Bt,List.take_append_drop]
 have d:(Ab c (a.take i)).length=i *n:=by rw[BC h,List.length_take,Nat.min_eq_left e]
 rw[b,←d,List.drop_left]
def pC(p:Pd):Zj:=[.string p.name,.string p.sum]
def lC(l:Ld):Zj:=[Zg l.num,.string l.sum,Zg l.bf]
theorem BU(p:Pd):(pC p).length=2:=rfl
theorem Cz(l:Ld):(lC l).length=3:=rfl
theorem Ev(s:Zi):(Am s).length=8:=rfl
theorem Gc(a:Zl):AW a=Ab Am a:=rfl
theorem Jc(c:List Pd):∀u∈Ab pC c,u.oneCell'=true:=by intro u b;obtain⟨p,_,a⟩:=List.mem_flatMap.1 b;simp[pC]at a;rcases a with rfl|rfl<;>rfl
theorem Ug(c:List Ld):∀u∈Ab lC c,u.oneCell'=true:=by intro u b;obtain⟨p,_,a⟩:=List.mem_flatMap.1 b;simp[lC]at a;rcases a with rfl|rfl|rfl<;>rfl
theorem Cp{w:Zh}{base:Nat}{e:TypeId}{size:Nat}{v:Value}{n:Nat}{f:Zj}(h:w.ownsRow base e size v n f)(d:v≠Zc):∃g a,v=Za g n a/\base<=g/\g<w.heap.size:=by
 rcases h.2 with⟨e,_⟩|⟨g,a,i,rfl,b,c,_⟩
 ·exact absurd e d
 ·exact⟨g,a,rfl,b,(Array.getElem?_eq_some_iff.1 c).1⟩
theorem Ba.ck{w:Zh}{B b a:Nat}{f:List Pd}(h:Ba w B (some ⟨b,a,none⟩) f):∀j u,(Ab pC f)[j]?=some u->w.cell? ((⟨b,a,none⟩:Addr).add j)=some u:=by
 intro j u l;obtain⟨p,d,c⟩:=PV BU (by decide) l;rcases h with h|⟨o,g,i,_,k⟩
 ·subst h;simp at d
 ·cases i;obtain⟨m,n⟩:=k _ p d;rw[Go.WideShapes.add_plain];have q:=Nat.mod_lt j (show 0<2 by decide);rcases(show j%2=0∨j%2=1 by omega)with e|e<;>rw[e]at c<;>simp[pC]at c<;>subst c
  ·rw[show a+j=a+j/2 *2 by omega];exact m
  ·rw[show a+j=a+j/2 *2+1 by omega];exact n
theorem Be.ck{w:Zh}{B b a:Nat}{f:List Ld}(h:Be w B (some ⟨b,a,none⟩) f):∀j u,(Ab lC f)[j]?=some u->w.cell? ((⟨b,a,none⟩:Addr).add j)=some u:=by
 intro j u l;obtain⟨p,e,d⟩:=PV Cz (by decide) l;rcases h with h|⟨q,g,i,_,k⟩
 ·subst h;simp at e
 ·cases i;obtain⟨m,n,o⟩:=k _ p e;rw[Go.WideShapes.add_plain];have r:=Nat.mod_lt j (show 0<3 by decide);rcases(show j%3=0∨j%3=1∨j%3=2 by omega)with c|c|c<;>rw[c]at d<;>simp[lC]at d<;>subst d
  ·rw[show a+j=a+j/3 *3 by omega];exact m
  ·rw[show a+j=a+j/3 *3+1 by omega];exact n
  ·rw[show a+j=a+j/3 *3+2 by omega];exact o
theorem Ba.own{w:Zh}{base:Nat}{a:Zk}{d:Nat}{b:List Pd}(h:w.ownsRow base 142 2 (.slice a b.length d) b.length (Ab pC b)):Ba w w.heap.size a b:=by
 rcases h.2 with⟨e,m⟩|⟨g,f,n,l,o,p,_⟩
 ·exact .inl (List.length_eq_zero_iff.1 m)
 ·cases l;refine .inr ⟨g,0,rfl,(h.lt g rfl).2,fun i x c=> ?_⟩;have q:=(Zw c).1;have j:=Bz BU c (show 0<2 by decide);have k:=Bz BU c (show 1<2 by decide);rw[Nat.zero_add];exact⟨(h.cellAt _ (by omega)).trans j,(h.cellAt _ (by omega)).trans k⟩
theorem Be.own{w:Zh}{base:Nat}{a:Zk}{d:Nat}{c:List Ld}(h:w.ownsRow base 144 3 (.slice a c.length d) c.length (Ab lC c)):Be w w.heap.size a c:=by
 rcases h.2 with⟨e,n⟩|⟨g,f,o,m,p,q,_⟩
 ·exact .inl (List.length_eq_zero_iff.1 n)
 ·cases m;refine .inr ⟨g,0,rfl,(h.lt g rfl).2,fun i x b=> ?_⟩;have r:=(Zw b).1;have j:=Bz Cz b (show 0<3 by decide);have k:=Bz Cz b (show 1<3 by decide);have l:=Bz Cz b (show 2<3 by decide);rw[Nat.zero_add];exact⟨(h.cellAt _ (by omega)).trans j,(h.cellAt _ (by omega)).trans k,(h.cellAt _ (by omega)).trans l⟩
theorem Ba.de{w:Zh}{B:Nat}{a:Addr}{c:List Pd}(h:Ba w B (some a) c):∀j u,(Ab pC c)[j]?=some u->w.cell? (a.add j)=some u:=by
 rcases h with rfl|⟨b,d,e,f,g⟩
 ·intro j u i;simp[Ab]at i
 ·cases e;exact Ba.ck (.inr ⟨b,d,rfl,f,g⟩)
theorem Be.de{w:Zh}{B:Nat}{a:Addr}{c:List Ld}(h:Be w B (some a) c):∀j u,(Ab lC c)[j]?=some u->w.cell? (a.add j)=some u:=by
 rcases h with rfl|⟨b,d,e,f,g⟩
 ·intro j u i;simp[Ab]at i
 ·cases e;exact Be.ck (.inr ⟨b,d,rfl,f,g⟩)
theorem Ad.de{w:Zh}{B:Nat}{d:Addr}{c:Zl}(h:Ad w B (some d) c):∀j u,(c.map Value.string)[j]?=some u->w.cell? (d.add j)=some u:=by
 rcases h with rfl|⟨b,g,e,i,f⟩
 ·intro j u a;simp at a
 ·cases e;intro j u a;rw[List.getElem?_map]at a;cases hs:c[j]? with
  |none=>rw[hs]at a;cases a
  |some s=>rw[hs]at a;cases a;rw[Go.WideShapes.add_plain];exact f j s hs
theorem Ba.nil{w:Zh}{B:Nat}{a:List Pd}(h:Ba w B none a):a=[]:=by
 rcases h with h|⟨_,_,h,_⟩
 ·exact h
 ·cases h
theorem Be.nil{w:Zh}{B:Nat}{a:List Ld}(h:Be w B none a):a=[]:=by
 rcases h with h|⟨_,_,h,_⟩
 ·exact h
 ·cases h
theorem Ad.nil{w:Zh}{B:Nat}{a:Zl}(h:Ad w B none a):a=[]:=by
 rcases h with h|⟨_,_,h,_⟩
 ·exact h
 ·cases h
theorem Jd(a:Zk)(c:Nat)(b:List Pd)(w:Zh)(j:Ba w w.heap.size a b)(E:b.length<=1048576):
 Calls prog 134 #[.slice a b.length c] w fun e q=>∃m o,e=.returned (.slice m b.length o)/\
  q.ownsRow w.heap.size 142 2 (.slice m b.length o) b.length (Ab pC b)/\Zz w q:=by
 rcases a with _|n
 ·obtain rfl:=j.nil;have f:∀u:Zh,(binOp .eql 40 (.slice none 0 c) Zc).run prog u=.ok (.bool true) u:=fun _=>by first|rfl|kernel_rfl
  go_enter func134,ntmps134;go_wp2;go_ret;exact⟨none,0,rfl,⟨rfl,.inl ⟨rfl,rfl⟩⟩,Below.refl _ _⟩
 obtain⟨A,y,r,s,t⟩:=info_parts GM;have i:Below w.heap.size w (w.alloc (.cells #[] 142)):=Zy;have f:∀u:Zh,(binOp .eql 40 (.slice (some n) b.length c) Zc).run prog u=.ok (.bool false) u:=fun _=>by first|rfl|kernel_rfl
 go_enter func134,ntmps134;go_wp2_with (first
  |(at_builtin;refine wpList_append_own _ rfl _ _ 40 rfl w.heap.size 142 A _ 2 32 underlying40 y r s t rfl (by decide) _ 0 (Ab pC []) rfl ?d0 n b.length c (Ab pC b) rfl ?d1 ?d2 ?d3 ?d4 ?d5 ?d6 ?_)
  |go_in)
 case d0=>exact World.ownsRow_lit (base:=w.heap.size) (e:=142) (size:=2) w #[] 0 (Zx) (by unfold maxLen;omega) rfl
 case d1=>exact BC BU b
 case d2=>exact(j.below i).de
 case d3=>exact Jc b
 case d4=>unfold maxLen;omega
 case d5=>omega
 case d6=>simp
 intro F B d g h;obtain⟨x,v,rfl,C,D⟩:=Cp d h;rw[←Bt,List.nil_append]at d;have p:Below w.heap.size w B:=i.grown g (by simp) (fun k z=>by simp[Value.ownBlock]at z;omega);have l:=Yx (Zn d p);try simp only[Nat.zero_add]at *
 clear d g h p i j;go_wp2;go_ret;exact⟨_,v,rfl,l.o.1,l.o.2⟩
theorem Iq(a:Zk)(c:Nat)(b:List Ld)(w:Zh)(j:Be w w.heap.size a b)(E:b.length<=1048576):
 Calls prog 135 #[.slice a b.length c] w fun e q=>∃m o,e=.returned (.slice m b.length o)/\
  q.ownsRow w.heap.size 144 3 (.slice m b.length o) b.length (Ab lC b)/\Zz w q:=by
 rcases a with _|n
 ·obtain rfl:=j.nil;have f:∀u:Zh,(binOp .eql 41 (.slice none 0 c) Zc).run prog u=.ok (.bool true) u:=fun _=>by first|rfl|kernel_rfl
  go_enter func135,ntmps135;go_wp2;go_ret;exact⟨none,0,rfl,⟨rfl,.inl ⟨rfl,rfl⟩⟩,Below.refl _ _⟩
 obtain⟨A,y,r,s,t⟩:=info_parts Gm;have i:Below w.heap.size w (w.alloc (.cells #[] 144)):=Zy;have f:∀u:Zh,(binOp .eql 41 (.slice (some n) b.length c) Zc).run prog u=.ok (.bool false) u:=fun _=>by first|rfl|kernel_rfl
 go_enter func135,ntmps135;go_wp2_with (first
  |(at_builtin;refine wpList_append_own _ rfl _ _ 41 rfl w.heap.size 144 A _ 3 32 underlying41 y r s t rfl (by decide) _ 0 (Ab lC []) rfl ?d0 n b.length c (Ab lC b) rfl ?d1 ?d2 ?d3 ?d4 ?d5 ?d6 ?_)
  |go_in)
 case d0=>exact World.ownsRow_lit (base:=w.heap.size) (e:=144) (size:=3) w #[] 0 (Zx) (by unfold maxLen;omega) rfl
 case d1=>exact BC Cz b
 case d2=>exact(j.below i).de
 case d3=>exact Ug b
 case d4=>unfold maxLen;omega
 case d5=>omega
 case d6=>simp
 intro F B d g h;obtain⟨x,v,rfl,C,D⟩:=Cp d h;rw[←Bt,List.nil_append]at d;have p:Below w.heap.size w B:=i.grown g (by simp) (fun k z=>by simp[Value.ownBlock]at z;omega);have l:=Yx (Zn d p);try simp only[Nat.zero_add]at *
 clear d g h p i j;go_wp2;go_ret;exact⟨_,v,rfl,l.o.1,l.o.2⟩
theorem Ew(a:Zk)(c:Nat)(b:Zl)(w:Zh)(j:Ad w w.heap.size a b)(E:b.length<=1048576):
 Calls prog 136 #[.slice a b.length c] w fun e q=>∃m o,e=.returned (.slice m b.length o)/\
  q.ownsRow w.heap.size 9 1 (.slice m b.length o) b.length (b.map Value.string)/\Zz w q:=by
 rcases a with _|n
 ·obtain rfl:=j.nil;have f:∀u:Zh,(binOp .eql 22 (.slice none 0 c) Zc).run prog u=.ok (.bool true) u:=fun _=>by first|rfl|kernel_rfl
  go_enter func136,ntmps136;go_wp2;go_ret;exact⟨none,0,rfl,⟨rfl,.inl ⟨rfl,rfl⟩⟩,Below.refl _ _⟩
 obtain⟨A,y,r,s,t⟩:=info_parts CP;have i:Below w.heap.size w (w.alloc (.cells #[] 9)):=Zy;have f:∀u:Zh,(binOp .eql 22 (.slice (some n) b.length c) Zc).run prog u=.ok (.bool false) u:=fun _=>by first|rfl|kernel_rfl
 go_enter func136,ntmps136;go_wp2_with (first
  |(at_builtin;refine wpList_append_own _ rfl _ _ 22 rfl w.heap.size 9 A Zd 1 16 underlying22 y r s t rfl (by decide) _ 0 (([]:Zl).map Value.string) rfl ?d0 n b.length c (b.map Value.string) rfl ?d1 ?d2 ?d3 ?d4 ?d5 ?d6 ?_)
  |go_in)
 case d0=>exact World.ownsRow_lit (base:=w.heap.size) (e:=9) (size:=1) w #[] 0 (Zx) (by unfold maxLen;omega) rfl
 case d1=>simp
 case d2=>exact(j.below i).de
 case d3=>exact NF b
 case d4=>unfold maxLen;omega
 case d5=>omega
 case d6=>simp
 intro F B d g h;obtain⟨x,v,rfl,C,D⟩:=Cp d h
 skip
 have p:Below w.heap.size w B:=i.grown g (by simp) (fun k z=>by simp[Value.ownBlock]at z;omega);have l:=Yx (Zn d p);try simp only[Nat.zero_add]at *
 clear d g h p i j;go_wp2;go_ret;exact⟨_,v,rfl,l.o.1,l.o.2⟩
theorem toList_inj{a b:Zi}(h:a.toList=b.toList):a=b:=by rw[ByteArray.toList_eq,ByteArray.toList_eq]at h;cases a;cases b;simp only[Array.toList_inj]at h;rw[h]
theorem Ca{a b:Zi}(h:¬a=b):(a.toList==b.toList)=false:=by rw[beq_eq_false_iff_ne];exact fun e=>h (toList_inj e)
theorem NP(x:List UInt8):∀y,Op.bytesLess x y=true↔x<y:=by
 induction x with
 |nil=>intro y;cases y<;>simp[Op.bytesLess]
 |cons a x ih=>
  intro y;cases y with
  |nil=>simp[Op.bytesLess]
  |cons b y=>have:=ih y;rw[List.cons_lt_cons_iff,←this];simp only[Op.bytesLess];by_cases h1:a<b<;>by_cases h2:a=b<;>simp[h1,h2]
theorem Cr(a:Zi):less a a=false:=by
 unfold less;cases h:Op.bytesLess a.toList a.toList with
 |false=>rfl
 |true=>exact absurd ((NP _ _).1 h) (List.lt_irrefl _)
theorem CD{a b c:Zi}(h:less a b=true)(k:less b c=true):less a c=true:=by
 unfold less at *
 rw[NP]at *
 exact List.lt_trans h k
def CR(ks:List Kd)(s:Zi):Int:=match ks.findIdx? (fun k=>decide (k.sum=s))with
 |some i=>(i:Int)
 |none=> -1
theorem Sa{a:List Kd}{s:Zi}{k:Nat}(d:k<a.length)(h:a[k].sum=s)(b:∀j x,j<k->a[j]?=some x->x.sum≠s):CR a s=k:=by
 have:a.findIdx? (fun k=>decide (k.sum=s))=some k:=by rw[List.findIdx?_eq_some_iff_getElem];refine⟨d,by simpa using h,fun j c=> ?_⟩;simpa using b j _ c (Zv (by omega))
 simp[CR,this]
theorem Qw{a:List Kd}{s:Zi}(b:∀j x,j<a.length->a[j]?=some x->x.sum≠s):CR a s= -1:=by
 have:a.findIdx? (fun k=>decide (k.sum=s))=none:=by rw[List.findIdx?_eq_none_iff];intro x d;obtain⟨j,c,rfl⟩:=List.getElem_of_mem d;simpa using b j _ c (Zv c)
 simp[CR,this]
theorem Fc(a:List Kd)(s:Zi):(CR a s= -1/\¬Ay a s)∨∃i k,CR a s=(i:Nat)/\a[i]?=some k/\k.sum=s:=by
 unfold CR;cases h:a.findIdx? (fun k=>decide (k.sum=s))with
 |none=>rw[List.findIdx?_eq_none_iff]at h;exact .inl ⟨rfl,fun⟨u,hu,e⟩=>by simpa [e]using h u hu⟩
 |some i=>rw[List.findIdx?_eq_some_iff_getElem]at h;obtain⟨c,b,_⟩:=h;exact .inr ⟨i,a[i],rfl,Zv c,by simpa using b⟩
theorem Fj(t l given ae:Int)(a:Zk)(o:Nat)(P L:Value)(c:List Kd)(s:Zi)(w:Zh)(B:Nat)(f:BF w B a c)(H:B<=w.heap.size)(K:c.length<=1048576):
 Calls prog 84 #[.agg #[Zg t,Zg l,Zg given,Zg ae,.slice a c.length o,P,L],.string s] w fun e C=>e=.returned (Zg (CR c s))/\Zz w C:=by
 have g:Below w.heap.size w (w.alloc (.cells #[Zg t,Zg l,Zg given,Zg ae,.slice a c.length o,P,L] 43)):=Zy;go_enter func84,ntmps84;go_wp2
 go_loop [5] (fun i=>∃k:Nat,k<=c.length/\i=Zg k/\Hid (∀j x,j<k->c[j]?=some x->x.sum≠s)) (fun i=>c.length -(intOf i).toNat)
 case atStart=>exact⟨0,Nat.zero_le _,rfl,fun j x h=>by omega⟩
 case round=>
  obtain⟨k,J,rfl,d⟩:=hrel;by_cases hlt:k<c.length
  ·obtain⟨b,u,y,I,r⟩:=f.at hlt;subst y;have m:Hid (c[k]?=some c[k]):=Zv hlt;obtain⟨p,_,_,_⟩:=r k _ m;clear r f;have E:b<w.heap.size:=by omega
   by_cases he:c[k].sum=s
   ·have G:=Yx he;have z:=Yx (Sa hlt he d.o);have D:w.cell? (Ze b (u+k *4))=some (.string s):=by rw[←he];exact p
    clear p he;go_wp2;go_ret;exact⟨Kz z.o.symm,g⟩
   ·have F:=Ca he;have v:Hid (∀j x,j<k+1->c[j]?=some x->x.sum≠s):=by
     intro j x A n;rcases Nat.lt_or_ge j k with q|q
     ·exact d.o j x q n
     ·obtain rfl:j=k:=by omega
      rw[m.o]at n;cases n;exact he
    clear he d m;generalize c[k]=x at *
    go_wp2;exact⟨⟨k+1,by omega,by go_num,v⟩,by simp[intOf];omega⟩
  ·go_wp2;go_ret;exact⟨Kz (Qw (fun j x A=>d.o j x (by omega))).symm,g⟩
section
attribute [local go_sem↓] Go.wp_at_zero Go.wp_at_succ
def Es(u:Kd)(ra:Zk)(rc:Nat):Value:=.agg #[.string u.sum,Zg u.born,.string u.text,.slice ra u.refs.length rc]
def Holds(W:Zh)(B:Nat)(wd:Int)(ks:List Kd)(f:Lit->Option Value):Prop:=
 ∀s:Zi,(s.size:Int)=wd->(f (keyL s)=none/\¬Ay ks s)∨∃u ra rc,u∈ks/\u.sum=s/\f (keyL s)=some (Es u ra rc)/\Ad W B ra u.refs
theorem Holds.nil(W:Zh)(B:Nat)(a:Int):Holds W B a [] (fun _=>none):=fun _ _=> .inl ⟨rfl,fun⟨_,h,_⟩=>by cases h⟩
theorem Holds.snoc{W:Zh}{B:Nat}{b:Int}{i:List Kd}{f:Lit->Option Value}(h:Holds W B b i f){x:Kd}{g:Zk}{rc:Nat}(r:(x.sum.size:Int)=b)(q:b<=8)(o:Ad W B g x.refs):Holds W B b (i++[x]) (upd f (keyL x.sum) (Es x g rc)):=by
 intro s p;by_cases he:keyL s=keyL x.sum
 ·have:s=x.sum:=key_inj he (by omega) (by omega);subst this;exact .inr ⟨x,g,rc,by simp,rfl,DV _ _ _,o⟩
 ·rw[DO _ _ he];have j:x.sum≠s:=fun e=>he (by rw[e]);rcases h s p with⟨c,d⟩|⟨u,k,l,c,d,m,n⟩
  ·refine .inl ⟨c,fun⟨u,a,e⟩=> ?_⟩;rcases List.mem_append.1 a with a|a
   ·exact d ⟨u,a,e⟩
   ·simp at a;subst a;exact j e
  ·exact .inr ⟨u,k,l,by simp[c],d,m,n⟩
theorem Kl(w:Zh):(zeroValue 137).run prog w=.ok (.agg #[Zd,Zf,Zd,Zc]) w:=by kernel_rfl
theorem Bs.setCell{w:Zh}{K:TypeId}{b n:Nat}{f:Lit->Option Value}(h:Bs w K b n f){a:Addr}(e:b≠a.block)(u:Value):Bs (w.setCell a u) K b n f:=by obtain⟨D,c,d⟩:=h;exact⟨D,c.setCell e u,d⟩
def FS(wr:Zh)(h:Nat)(m s b t r:Value)(w':Zh):Prop:=
 w'.cell? (Ze (h+1+1+1) 1)=some m/\w'.cell? (Ze (wr.heap.size) 0)=some s/\w'.cell? (Ze (wr.heap.size) 1)=some b/\w'.cell? (Ze (wr.heap.size) 2)=some t/\w'.cell? (Ze (wr.heap.size) 3)=some r
theorem FS.ak{wr c e:Zh}{h:Nat}{m s b t r:Value}(x:FS wr h m s b t r c)(a:Zz c e)(l:h+3<c.heap.size)(d:wr.heap.size<c.heap.size):FS wr h m s b t r e:=by obtain⟨f,g,i,j,k⟩:=x;exact⟨(a.cell (p:=⟨h+1+1+1,1,none⟩) l).trans f,(a.cell (p:=⟨wr.heap.size,0,none⟩) d).trans g,(a.cell (p:=⟨wr.heap.size,1,none⟩) d).trans i,(a.cell (p:=⟨wr.heap.size,2,none⟩) d).trans j,(a.cell (p:=⟨wr.heap.size,3,none⟩) d).trans k⟩
theorem FS.grown{wr e d:Zh}{h q:Nat}{m s b t r:Value}(x:FS wr h m s b t r e)(a:e.grownBy d (some q))(l:h+1+1+1≠q)(c:wr.heap.size≠q):FS wr h m s b t r d:=by obtain⟨f,g,i,j,k⟩:=x;exact⟨a.cell f (by simpa using l),a.cell g (by simpa using c),a.cell i (by simpa using c),a.cell j (by simpa using c),a.cell k (by simpa using c)⟩
theorem OW(l y given ae:Int)(a:Zk)(I:Nat)(P L:Value)(g:List Kd)(w:Zh)(s:BF w w.heap.size a g)(hl:g.length<=1048576)(E:∀k∈g,(k.sum.size:Int)=l)(h8:l<=8):
 Calls prog 155 #[.agg #[Zg l,Zg y,Zg given,Zg ae,.slice a g.length I,P,L]] w fun e t=>∃m f,e=.returned (.agg #[Zg l,.map (some m)])/\(w.heap.size<=m/\m<=w.heap.size+2)/\Bs t 191 m g.length f/\Holds w w.heap.size l g f/\Zz w t:=by
 have U:= @run_makeMap prog;go_enter func155,ntmps155;go_wp2
 obtain⟨o,h⟩:∃W,W=((((w.alloc (Obj.cells #[Value.int IntKind.i64 l,Value.int IntKind.i64 y,Value.int IntKind.i64 given,Value.int IntKind.i64 ae,Value.slice a g.length I,P,L] 43)).alloc (Obj.cells #[Value.int IntKind.i64 0,Value.map none] 159)).alloc (Obj.map #[] 0)).alloc (Obj.cells #[Value.int IntKind.i64 l,Value.map (some (w.heap.size+1+1))] 159)):=⟨_,rfl⟩;have Q:Below w.heap.size w o:=by rw[h];exact((((Zy).alloc (by simp) _).alloc (by simp;omega) _).alloc (by simp;omega) _)
 have zB:o.heap.size=w.heap.size+4:=by rw[h];simp
 have R:Bs o 191 (w.heap.size+1+1) 0 (fun _=>none):=by have:=Bs.new ((w.alloc (Obj.cells #[Value.int IntKind.i64 l,Value.int IntKind.i64 y,Value.int IntKind.i64 given,Value.int IntKind.i64 ae,Value.slice a g.length I,P,L] 43)).alloc (Obj.cells #[Value.int IntKind.i64 0,Value.map none] 159)) 191;rw[h];have h2:=this.ak ((Below.refl _ _).alloc (Zx) (Obj.cells #[Value.int IntKind.i64 l,Value.map (some (w.heap.size+1+1))] 159)) this.lt;simpa using h2
 have s0:o.cell? (Ze (w.heap.size+1+1+1) 0)=some (Zg l):=by rw[h];simp[go_sem]
 have s1:o.cell? (Ze (w.heap.size+1+1+1) 1)=some (.map (some (w.heap.size+1+1))):=by rw[h];simp[go_sem]
 have r0:o.cell? (Ze (w.heap.size+1) 0)=some Zf:=by rw[h];simp[go_sem]
 have r1:o.cell? (Ze (w.heap.size+1) 1)=some (.map none):=by rw[h];simp[go_sem]
 have rf:∀j,o.frozen? ⟨w.heap.size+1,j,none⟩=false:=fun j=>by rw[h];simp[go_sem]
 rw[←h];clear h U
 go_loopw [13] (fun i wr=>∃(k:Nat) (f:Lit->Option Value),k<=g.length/\i=Zg k/\Hid (Bs wr 191 (w.heap.size+1+1) k f)/\Hid (Holds w w.heap.size l (g.take k) f)/\o.grownBy wr (some (w.heap.size+1+1))) (fun i _=>g.length -(intOf i).toNat)
 case atStart=>exact⟨0,_,Nat.zero_le _,rfl,R,by rw[List.take_zero];exact Holds.nil w w.heap.size l,EJ _ _⟩
 case round=>
  obtain⟨k,f,hk,rfl,J,F,n⟩:=hrel;have r:=Q.grown n (by omega) (by intro j hj;cases hj;omega);have t0:=n.cell s0 (by simp);have t1:=n.cell s1 (by simp);have zC:=n.size;by_cases hlt:k<g.length
  ·obtain⟨b,Y,ha,hb,M⟩:=(s.below r).at hlt;subst ha;have G:=Yx (Zv hlt);obtain⟨c0,c1,c2,ra,rc,c3,_⟩:=M k _ G.o;obtain⟨b',Z,S,_,C⟩:=s.at hlt;cases S;obtain⟨_,_,_,d,c,z,D⟩:=C k _ G.o;have V:d=ra/\c=rc:=by have:=(r.cell (p:=⟨b,Y+k *4+3,none⟩) hb).trans z;rw[c3]at this;simp at this;exact⟨this.1.symm,this.2.symm⟩
   obtain⟨rfl,rfl⟩:=V;have X:=E _ (List.getElem_mem hlt);have zA:b<wr.heap.size:=by omega
   have HR:=Yx D;clear M C D z E s;generalize g[k]=x at *
   go_wp2;have B:Below wr.heap.size wr (wr.alloc (Obj.cells #[Value.string x.sum,Value.int IntKind.i64 x.born,Value.string x.text,Value.slice d x.refs.length c] 137)):=Zy
   have hT:FS wr w.heap.size (.map (some (w.heap.size+1+1))) (.string x.sum) (Zg x.born) (.string x.text) (.slice d x.refs.length c) (wr.alloc (Obj.cells #[Value.string x.sum,Value.int IntKind.i64 x.born,Value.string x.text,Value.slice d x.refs.length c] 137)):=⟨(B.cell (p:=⟨w.heap.size+1+1+1,1,none⟩) (by simp;omega)).trans t1,by simp,by simp,by simp,by simp⟩
   have A:FS wr w.heap.size (.map (some (w.heap.size+1+1))) (.string x.sum) (Zg x.born) (.string x.text) (.slice d x.refs.length c) (wr.alloc (Obj.cells #[Value.string x.sum,Value.int IntKind.i64 x.born,Value.string x.text,Value.slice d x.refs.length c] 137)).drew:=hT
   go_region_held3 (fun t=>t.cell? (Ze (w.heap.size+1+1+1) 1)=some (.map (some (w.heap.size+1+1)))/\t.cell? (Ze (wr.heap.size) 0)=some (.string x.sum)/\t.cell? (Ze (wr.heap.size) 1)=some (Zg x.born)/\t.cell? (Ze (wr.heap.size) 2)=some (.string x.text)/\t.cell? (Ze (wr.heap.size) 3)=some (.slice d x.refs.length c))
    (first|exact K|exact H|exact A)
    (first
    |(go_at_call 156;refine(Ip x.sum _).mono ?_;rintro e N ⟨rfl,u⟩;have H:FS wr w.heap.size (.map (some (w.heap.size+1+1))) (.string x.sum) (Zg x.born) (.string x.text) (.slice d x.refs.length c) N:=FS.ak A u (by simp;omega) (by simp);have q:Below wr.heap.size wr N:=B.drew.trans (u.mono (by simp));obtain⟨w3,hup,hm3,hg3⟩:=(J.o.ak q (by omega)).put keyed underlying157 (val:=Es x d c) (by unfold maxLen;omega) (EM x.sum);have K:FS wr w.heap.size (.map (some (w.heap.size+1+1))) (.string x.sum) (Zg x.born) (.string x.text) (.slice d x.refs.length c) w3:=FS.grown H hg3 (by simp) (by simp;omega);unfold Es at hup))
   all_goals
    have T:=Aw n (Aw (AA _ q) hg3);have HN:Hid (Holds w w.heap.size l (g.take (k+1)) (upd f (keyL x.sum) (Es x d c))):=by have:=F.o.snoc (rc:=c) X h8 HR.o;rw[List.take_add_one,G.o];exact this
    have O:=Yx hm3;clear hm3 hup H K hg3 q u;go_wp2;exact⟨⟨k+1,_,by omega,by go_num,O,HN,T⟩,by simp[intOf];omega⟩
  ·have p0:=n.cell r0 (by simp);have p1:=n.cell r1 (by simp);have pf:∀j,wr.frozen? ⟨w.heap.size+1,j,none⟩=false:=fun j=>(n.frozen_far ⟨w.heap.size+1,j,none⟩ (by simp;omega) (by simp)).trans (rf j);rw[Zt (by omega)]at F;obtain rfl:k=g.length:=by omega
   go_wp2;refine bodyPost_ret (v:=.agg #[Zg l,.map (some (w.heap.size+1+1))]) (by simp[results,results155,go_sem,p0,p1]) rfl ⟨_,f,rfl,by omega,?_,F.o,?_⟩
   ·exact(Bs.setCell (Bs.setCell J.o (by simp) _) (by simp) _)
   ·exact(r.setCell (by simp) _).setCell (by simp) _
def FD(b m:Nat)(s:Zi)(v:Value)(w':Zh):Prop:=
 w'.cell? (Ze b 1)=some (.map (some m))/\(Instr.lookup 157 (.map (some m)) (Cw s) true).run prog w'=.ok v w'
theorem FD.of{W a:Zh}{b m n B:Nat}{s:Zi}{f:Lit->Option Value}(e:W.cell? (Ze b 1)=some (.map (some m)))(c:Bs W 191 m n f)(d:b<B)(g:m<B)(h:Below B W a):
 FD b m s (.tuple #[(f (keyL s)).getD (.agg #[Zd,Zf,Zd,Zc]),.bool (f (keyL s)).isSome]) a:=
 ⟨(h.cell (p:=⟨b,1,none⟩) d).trans e,(c.ak h g).look_ok keyed underlying157 (Kl _) (EM s)⟩
theorem Hs(J:Int)(m n:Nat)(f:Lit->Option Value)(s:Zi)(w:Zh)(B:Bs w 191 m n f)(hs:(s.size:Int)=J)(u:Zi)(q:Int)(t:Zi)(I:Value)(ok:Bool)
 (U:(∃a l c,I=.slice a l c)) (L:(f (keyL s)).getD (.agg #[Zd,Zf,Zd,Zc])=.agg #[.string u,Zg q,.string t,I]) (A:(f (keyL s)).isSome=ok):
 Calls prog 183 #[.agg #[Zg J,.map (some m)],.string s] w fun e k=>e=.returned (.tuple #[.agg #[.string u,Zg q,.string t,I],.bool ok])/\Zz w k:=by
 obtain⟨F,G,H,rfl⟩:=U;have T:=B.lt;have S:∀M N,Zz w ((w.alloc M).alloc N):=fun M N=>(Zy).alloc (by simp) _;go_enter func183,ntmps183;go_wp2;obtain⟨W,i⟩:∃W,W=(w.alloc (Obj.cells #[Value.int IntKind.i64 J,Value.map (some m)] 159)).alloc (Obj.cells #[Value.string ⟨#[]⟩,Value.int IntKind.i64 0,Value.string ⟨#[]⟩,Value.slice none 0 0] 137):=⟨_,rfl⟩;have hz:W.heap.size=w.heap.size+1+1:=by rw[i];simp
 have y:Below w.heap.size w W:=by rw[i];exact S _ _
 have Z:W.cell? (Ze (w.heap.size) 1)=some (.map (some m)):=by rw[i];simp[go_sem]
 have r0:∃v,W.cell? (Ze (w.heap.size+1) 0)=some v:=by rw[i];simp[go_sem]
 have C:∃v,W.cell? (Ze (w.heap.size+1) 1)=some v:=by rw[i];simp[go_sem]
 have D:∃v,W.cell? (Ze (w.heap.size+1) 2)=some v:=by rw[i];simp[go_sem]
 have E:∃v,W.cell? (Ze (w.heap.size+1) 3)=some v:=by rw[i];simp[go_sem]
 have rf:∀j,W.frozen? ⟨w.heap.size+1,j,none⟩=false:=fun j=>by rw[i];simp[go_sem]
 obtain⟨v0,r0⟩:=r0;obtain⟨v1,C⟩:=C;obtain⟨v2,D⟩:=D;obtain⟨v3,E⟩:=E;have K:∀k,Zz W k->FD w.heap.size m s (.tuple #[.agg #[.string u,Zg q,.string t,.slice F G H],.bool ok]) k:=fun k h=>by have:=FD.of (s:=s) Z (B.ak y T) (by omega) (by omega) h;rw[L,A]at this;exact this
 have o:=Yx K;have r:w.heap.size+1<W.heap.size:=by omega
 have zA:w.heap.size<W.heap.size:=by omega
 rw[←i];clear i K L A B hz;go_region_held3 (fun k=>k.cell? (Ze (w.heap.size) 1)=some (.map (some m))/\(Instr.lookup 157 (.map (some m)) (Cw s) true).run prog k=.ok (.tuple #[.agg #[.string u,Zg q,.string t,.slice F G H],.bool ok]) k)
  (first
    |exact o.o _ b
    |exact o.o _ (b.alloc (Zm (Zx) b.size) _)
    |exact o.o _ ((Below.refl _ _).drew.alloc (by simp) _)
    |exact o.o _ (Below.refl _ _).drew
    |exact o.o _ ((((b.setCell (by simp) _).setCell (by simp) _).setCell (by simp) _).setCell (by simp) _)
    |exact o.o _ (b.alloc b.size _))
  (first
    |(go_at_call 156;refine(Ip s W.drew).mono ?_;rintro e g ⟨rfl,d⟩;have b:Below W.heap.size W g:=(Below.refl _ _).drew.trans (d.mono (by simp));have V:=b.size)
    |(go_at_call 156;refine(Ip s (W.alloc _).drew).mono ?_;rintro e g ⟨rfl,d⟩;have b:Below W.heap.size W g:=(Zy).drew.trans (d.mono (by simp));have V:W.heap.size<g.heap.size:=(by have:=d.size;simp at this;omega);have n0:g.cell? (Ze (W.heap.size) 0)=some Zd:=(by rw[d.cell (p:=⟨W.heap.size,0,none⟩) (by simp)];simp[go_sem]);have n1:g.cell? (Ze (W.heap.size) 1)=some Zf:=(by rw[d.cell (p:=⟨W.heap.size,1,none⟩) (by simp)];simp[go_sem]);have n2:g.cell? (Ze (W.heap.size) 2)=some Zd:=(by rw[d.cell (p:=⟨W.heap.size,2,none⟩) (by simp)];simp[go_sem]);have n3:g.cell? (Ze (W.heap.size) 3)=some Zc:=(by rw[d.cell (p:=⟨W.heap.size,3,none⟩) (by simp)];simp[go_sem]);have nf:∀j,g.frozen? ⟨W.heap.size,j,none⟩=false:=(fun j=>by rw[d.frozen (p:=⟨W.heap.size,j,none⟩) (by simp)];simp[go_sem])))
 all_goals
  have O:=(b.cell (p:=⟨w.heap.size+1,0,none⟩) r).trans r0;have P:=(b.cell (p:=⟨w.heap.size+1,1,none⟩) r).trans C;have Q:=(b.cell (p:=⟨w.heap.size+1,2,none⟩) r).trans D;have R:=(b.cell (p:=⟨w.heap.size+1,3,none⟩) r).trans E;have pf:∀j,g.frozen? ⟨w.heap.size+1,j,none⟩=false:=fun j=>(b.frozen (p:=⟨w.heap.size+1,j,none⟩) r).trans (rf j);have z:=y.trans (b.mono (by omega))
  have x:w.heap.size+1<g.heap.size:=by omega
  have X:¬W.heap.size=w.heap.size+1:=by omega
  have Y:¬w.heap.size+1=W.heap.size:=by omega
  clear d o;go_wp2;refine bodyPost_ret (v:=.tuple #[.agg #[.string u,Zg q,.string t,.slice F G H],.bool ok]) (by first|(simp[results,results183,go_sem,O,P,Q,R];done)|(simp[results,results183,go_sem,O,P,Q,R,x];done)) rfl ⟨rfl,?_⟩
  first
   |(have zB:=nf 0;exact((((((((z.setCell (by simp;omega) _).setCell (by simp;omega) _).setCell (by simp;omega) _).setCell (by simp;omega) _).setCell (by simp) _).setCell (by simp) _).setCell (by simp) _).setCell (by simp) _))
   |exact(((((z.setCell (by simp) _).setCell (by simp) _).setCell (by simp) _).setCell (by simp) _).alloc (by simp;omega) _)
theorem VZ(a:Int)(m:Nat)(s:Zi)(w:Zh)(b:¬(s.size:Int)=a):
 Calls prog 183 #[.agg #[Zg a,.map (some m)],.string s] w fun e c=>e=.returned (.tuple #[.agg #[Zd,Zf,Zd,Zc],.bool false])/\Zz w c:=by
 have d:((s.size:Int)==a)=false:=by simpa using b
 go_enter func183,ntmps183;go_wp2;refine bodyPost_ret (v:=.tuple #[.agg #[Zd,Zf,Zd,Zc],.bool false]) (by simp[results,results183,go_sem]) rfl ⟨rfl,?_⟩;exact(Zy).alloc (by simp) _
structure Found (ks:List Kd) (s:Zi) (bo:Int) (ok:Bool):Prop where
 no:ok=false->¬Ay ks s
 yes:ok=true->∃x∈ks,x.sum=s/\x.born=bo
theorem Qx(b:Int)(m n:Nat)(f:Lit->Option Value)(j:List Kd)(W:Zh)(B:Nat)(s:Zi)(w:Zh)(d:Bs w 191 m n f)(r:Holds W B b j f)(p:∀k∈j,(k.sum.size:Int)=b):
 ∃u l t z A C ok,Found j s l ok/\∀a,Zz w a->Calls prog 183 #[.agg #[Zg b,.map (some m)],.string s] a fun e q=>e=.returned (.tuple #[.agg #[.string u,Zg l,.string t,.slice z A C],.bool ok])/\Zz a q:=by
 by_cases hs:(s.size:Int)=b
 ·rcases r s hs with⟨c,g⟩|⟨x,v,y,c,g,o,_⟩
  ·exact⟨⟨#[]⟩,0,⟨#[]⟩,none,0,0,false,⟨fun _=>g,fun h=>by cases h⟩,fun a i=>Hs b m n f s a (d.ak i d.lt) hs _ _ _ _ _ ⟨_,_,_,rfl⟩ (by rw[c];rfl) (by rw[c];rfl)⟩
  ·exact⟨x.sum,x.born,x.text,v,x.refs.length,y,true,⟨fun h=>by(cases h),fun _=>⟨x,c,g,rfl⟩⟩,fun a i=>Hs b m n f s a (d.ak i d.lt) hs _ _ _ _ _ ⟨_,_,_,rfl⟩ (by rw[o];rfl) (by rw[o];rfl)⟩
 ·exact⟨⟨#[]⟩,0,⟨#[]⟩,none,0,0,false,⟨fun _ ⟨x,hx,e⟩=>hs (by rw[←e];exact p x hx),fun h=>by cases h⟩,fun a _=>VZ b m s a hs⟩
theorem Je(b:Int)(m n:Nat)(f:Lit->Option Value)(d:List Kd)(W:Zh)(B:Nat)(s:Zi)(w:Zh)(p:Bs w 191 m n f)(o:Holds W B b d f)(l:∀k∈d,(k.sum.size:Int)=b):
 ∃ok,(ok=true↔Ay d s)/\∀a,Zz w a->Calls prog 153 #[.agg #[Zg b,.map (some m)],.string s] a fun e r=>e=.returned (.bool ok)/\Zz a r:=by
 obtain⟨u,z,t,A,C,D,ok,c,j⟩:=Qx b m n f d W B s w p o l;refine⟨ok,⟨fun h=> ?_,fun h=> ?_⟩,fun a q=> ?_⟩
 ·obtain⟨x,y,e,_⟩:=c.yes h;exact⟨x,y,e⟩
 ·cases ok with
  |true=>rfl
  |false=>exact absurd h (c.no rfl)
 ·have g:Below a.heap.size a (a.alloc (.cells #[Zg b,.map (some m)] 159)):=Zy;have v:=Yx (j _ (q.trans (g.mono q.size)));clear j p o l c;go_enter func153,ntmps153;go_wp2_with fail;refine Calls.mono v.o ?_;rintro e E ⟨rfl,i⟩;go_wp2;go_ret;exact⟨rfl,(g.trans (i.mono (by simp))).alloc (by have:=i.size;simp at this;omega) _⟩
end
section
attribute [local go_sem↓] Go.wp_at_zero Go.wp_at_succ
section
open Go.WideElems Go.MapKept Go.ChangeMaps
theorem Ir(w:Zh)(b:Nat)(x y:Obj):setBlock (setBlock w b x) b y=setBlock w b y:=by simp[setBlock]
theorem Mq{P:Program}{f:Zh}{t:TypeId}{b:Nat}{d:Array MapEntry}{clock g i:Nat}(val:Value)(c:f.heap[b]?=some (.map d clock))(a:d.findIdx? (fun e=>((e.born:Nat):Int)==((g:Nat):Int))=some i):
 (Instr.entryStore t (.map (some b)) (goInt g) val).run P f=.ok () (setBlock f b (.map (d.modify i (fun e=>{e with val:=val})) clock)):=by
 simp[Instr.entryStore,MapKept.run_getObj_map c,asInt,asIntOf,goInt,a,MapKept.run_setObj_map _ c,Result.andThen,setBlock]
theorem Sb{H:Type}{P:Program}{w:Zh}{t k e:TypeId}{R:Value->Option (DataW H×List MemPlace)}{b:Nat}{f:Array MapEntry}{clock:Nat}(K:Maps.Keyed P k)(o:P.underlying t=some (.map k e)){z:Value}
 (A:∀u:Zh,(zeroValue e).run P u=.ok z u) (g:w.heap[b]?=some (.map f clock)) (F:Fit P k R f clock) {key:Value} {I:Lit} (d:keyOf P k key=some I):
 ∃(v0:Value) (st:Nat) (w3:Zh),(Instr.mapEntry t (.map (some b)) key).run P w=.ok (.tuple #[v0,goInt st]) w3/\(Instr.lookup t (.map (some b)) key false).run P w=.ok v0 w/\(Instr.mapUpdate t (.map (some b)) key v0).run P w=.ok () w3/\
  ∀val:Value,∃C,(Instr.entryStore t (.map (some b)) (goInt st) val).run P w3=.ok () C/\(Instr.mapUpdate t (.map (some b)) key val).run P w=.ok () C:=by
 obtain⟨J,B,_⟩:=F.stamped;rcases K.find w d f.toList F.keys with⟨h,i⟩|⟨j,e0,h,i,q⟩
 ·have v:(setBlock w b (.map (f.push ⟨key,z,clock⟩) (clock+1))).heap[b]?=some (.map (f.push ⟨key,z,clock⟩) (clock+1)):=heap_setBlock_same g _;refine⟨z,clock,setBlock w b (.map (f.push ⟨key,z,clock⟩) (clock+1)),?_,?_,?_,fun val=>⟨setBlock w b (.map (f.push ⟨key,val,clock⟩) (clock+1)),?_,?_⟩⟩
  ·simp[Instr.mapEntry,run_underlying o,MapKept.run_getObj_map g,K.check w false d,h,A,MapKept.run_setObj_map _ g,Result.andThen,setBlock]
  ·simp[Instr.lookup,run_underlying o,MapKept.run_getObj_map g,K.check w _ d,h,A,Result.andThen]
  ·simp[Instr.mapUpdate,run_underlying o,MapKept.run_getObj_map g,K.check w false d,h,MapKept.run_setObj_map _ g,Result.andThen,setBlock]
  ·have m:(f.push ⟨key,z,clock⟩).findIdx? (fun e=>((e.born:Nat):Int)==((clock:Nat):Int))=some f.size:=by
    rw[findIdx_arr];have:=findIdx_born (l:=(f.push ⟨key,z,clock⟩).toList) (j:=f.size) (e0:=⟨key,z,clock⟩) (by
     simp only[Array.toList_push,List.map_append,List.map_cons,List.map_nil];refine List.nodup_append.2 ⟨B,by simp,fun a D c E L=> ?_⟩;simp only[List.mem_singleton]at E;obtain⟨x,G,rfl⟩:=List.mem_map.1 D;have:=J x G;omega) (by simp)
    exact this
   have n:(f.push ⟨key,z,clock⟩).modify f.size (fun e=>{e with val:=val})=f.push ⟨key,val,clock⟩:=by apply Array.ext';rw[Array.toList_modify,Array.toList_push,Array.toList_push,←Array.length_toList,modify_last]
   rw[Mq val v m,Ir,n]
  ·simp[Instr.mapUpdate,run_underlying o,MapKept.run_getObj_map g,K.check w false d,h,MapKept.run_setObj_map _ g,Result.andThen,setBlock]
 ·have y:f[j]?=some e0:=by simpa using i
  have r:f.modify j (fun e=>{e with key:=key})=f:=by
   apply Array.ext';rw[Array.toList_modify,modify_eq_set _ _ _ _ i];have:({e0 with key:=key}:MapEntry)=e0:=by rw[←q]
   rw[this];exact set_self _ _ _ i
  have p:f.modify j (fun s=>{s with key:=key,val:=e0.val})=f:=by
   apply Array.ext';rw[Array.toList_modify,modify_eq_set _ _ _ _ i];have:({e0 with key:=key,val:=e0.val}:MapEntry)=e0:=by rw[←q]
   rw[this];exact set_self _ _ _ i
  have v:(setBlock w b (.map f clock)).heap[b]?=some (.map f clock):=heap_setBlock_same g _;refine⟨e0.val,e0.born,setBlock w b (.map f clock),?_,?_,?_,fun val=>⟨setBlock w b (.map (f.modify j (fun s=>{s with key:=key,val:=val})) clock),?_,?_⟩⟩
  ·simp[Instr.mapEntry,run_underlying o,MapKept.run_getObj_map g,K.check w false d,h,y,q,K.stays w d,r,MapKept.run_setObj_map _ g,Result.andThen,setBlock]
  ·simp[Instr.lookup,run_underlying o,MapKept.run_getObj_map g,K.check w _ d,h,Result.andThen]
  ·simp[Instr.mapUpdate,run_underlying o,MapKept.run_getObj_map g,K.check w false d,h,y,q,K.stays w d,p,MapKept.run_setObj_map _ g,Result.andThen,setBlock]
  ·have m:f.findIdx? (fun e=>((e.born:Nat):Int)==((e0.born:Nat):Int))=some j:=by rw[findIdx_arr];exact findIdx_born B i
   have n:f.modify j (fun e=>{e with val:=val})=f.modify j (fun s=>{s with key:=key,val:=val}):=by apply Array.ext';rw[Array.toList_modify,Array.toList_modify,modify_eq_set _ _ _ _ i,modify_eq_set _ _ _ _ i,←q]
   rw[Mq val v m,Ir,n]
  ·simp[Instr.mapUpdate,run_underlying o,MapKept.run_getObj_map g,K.check w false d,h,y,q,K.stays w d,MapKept.run_setObj_map _ g,Result.andThen,setBlock]
end
def Dc(w:Zh)(K:TypeId)(b n c:Nat)(f:Lit->Option Value):Prop:=
 ∃D:DataW Value,w.ownsMap prog K Nx b n D/\(∀kl z,D.atKey kl (.held z)=.held ((f kl).getD z))/\(∀kl,Maps.has D kl=(f kl).isSome)/\Maps.Tidy D/\Maps.size D=c
theorem Dc.map{w:Zh}{K:TypeId}{b n c:Nat}{f:Lit->Option Value}(h:Dc w K b n c f):Bs w K b n f:=let ⟨D,h1,h2,h3,_⟩:=h;⟨D,h1,h2,h3⟩
theorem Dc.new(w:Zh)(K:TypeId):Dc (w.alloc (.map #[] 0)) K w.heap.size 0 0 (fun _=>none):=
 ⟨.map [],World.ownsMap_made _ _ _ _,fun _ _=>rfl,fun _=>rfl,Maps.tidy_empty,rfl⟩
theorem Dc.ak{w a:Zh}{K:TypeId}{b n c:Nat}{f:Lit->Option Value}(h:Dc w K b n c f){B:Nat}(k:Below B w a)(j:b<B):Dc a K b n c f:=by obtain⟨D,⟨d,clock,e,g⟩,i⟩:=h;exact⟨D,⟨d,clock,(k.block b j).trans e,g⟩,i⟩
theorem Dc.len{w:Zh}{K t e:TypeId}{b n c:Nat}{f:Lit->Option Value}(h:Dc w K b n c f)(i:prog.underlying t=some (.map K e))(a:TypeId):(Builtin.len_ #[t] a #[.map (some b)]).run prog w=.ok (Zg c) w:=by obtain⟨D,d,_,_,_,g⟩:=h;rw[←g];exact d.len i a
theorem Dc.put{w:Zh}{K t e:TypeId}{b n c:Nat}{f:Lit->Option Value}(h:Dc w K b n c f)(p:Maps.Keyed prog K)(B:prog.underlying t=some (.map K e))(v:n<maxLen){k val:Value}{g:Lit}(a:keyOf prog K k=some g):
 ∃i,(Instr.mapUpdate t (.map (some b)) k val).run prog w=.ok () i/\Dc i K b (n+1) (if (f g).isSome then c else c+1) (upd f g val)/\w.grownBy i (some b):=by
 obtain⟨D,l,r,m,o,s⟩:=h;obtain⟨i,A,y,u⟩:=l.update p B v a (d:=.held val) (ps:=[]) (val:=val) rfl;have q:=l.isMap;have j:=p.key a;refine⟨i,A,⟨_,y,fun x z=> ?_,fun x=> ?_,o.put j _,?_⟩,u⟩
 ·by_cases hx:x=g
  ·subst hx;rw[Maps.atKey_put_same q j,DV];rfl
  ·rw[Maps.atKey_put_other hx,DO _ _ hx];exact r x z
 ·by_cases hx:x=g
  ·subst hx;rw[Maps.has_put_same q j,DV];rfl
  ·rw[Maps.has_put_other hx,DO _ _ hx];exact m x
 ·rw[Maps.size_put o,m,s]
theorem Dc.bump{w:Zh}{K t e:TypeId}{b n c:Nat}{f:Lit->Option Value}(h:Dc w K b n c f)(k:Maps.Keyed prog K)(l:prog.underlying t=some (.map K e))(y:n<maxLen){z:Value}(v:∀u:Zh,(zeroValue e).run prog u=.ok z u){j:Value}{g:Lit}(a:keyOf prog K j=some g)(val:Value):
 ∃o d m,(Instr.mapEntry t (.map (some b)) j).run prog w=.ok (.tuple #[(f g).getD z,goInt o]) d/\(Instr.lookup t (.map (some b)) j false).run prog w=.ok ((f g).getD z) w/\(Instr.lookup t (.map (some b)) j false).run prog d=.ok ((f g).getD z) d/\
  (Instr.entryStore t (.map (some b)) (goInt o) val).run prog d=.ok () m/\Dc m K b (n+1) (if (f g).isSome then c else c+1) (upd f g val)/\w.grownBy d (some b)/\w.grownBy m (some b):=by
 have s:=h;obtain⟨D,⟨P,clock,J,F,V,U⟩,Q,R,S,T⟩:=h;obtain⟨v0,o,d,L,x,M,H⟩:=Sb k l v J F a;have p:=s.map.look k l (v w) a;rw[x]at p;cases p;obtain⟨m,G,I⟩:=H val;obtain⟨N,r,C,A⟩:=s.put k l y a (val:=(f g).getD z);rw[M]at r;cases r;obtain⟨O,i,E,B⟩:=s.put k l y a (val:=val);rw[I]at i;cases i;have q:=C.map.look k l (v d) a;rw[DV]at q;exact⟨o,d,m,L,x,q,G,E,A,B⟩
structure MK (ms:Zl) (f:Lit->Option Value) (c:Nat):Prop where
 has:∀l,(f l).isSome=true↔l∈ms.map keyL
 num:∀l v,f l=some v->∃n:Int,v=Zg n/\1<=n/\n<=ms.length
 le:c<=ms.length
 all:c=ms.length↔(ms.map keyL).Nodup
theorem MK.nil:MK [] (fun _=>none) 0:=⟨fun l=>(by simp),fun l v h=>(by simp at h),Zx,(by simp)⟩
theorem MK.get{a:Zl}{f:Lit->Option Value}{c:Nat}(h:MK a f c)(l:Lit):∃n:Int,(f l).getD Zf=Zg n/\0<=n/\n<=a.length/\(0<n↔l∈a.map keyL):=by
 cases hf:f l with
 |none=>refine⟨0,rfl,Int.le_refl _,by omega,?_⟩;have:=h.has l;rw[hf]at this;simp at this ⊢;exact this
 |some v=>obtain⟨n,rfl,d,b⟩:=h.num l v hf;have:=h.has l;rw[hf]at this;exact⟨n,rfl,by omega,b,⟨fun _=>this.1 rfl,fun _=>by omega⟩⟩
theorem MK.snoc{g:Zl}{f:Lit->Option Value}{c:Nat}(h:MK g f c)(x:Zi){n:Int}(t:0<=n)(u:n<=g.length):
 MK (g++[x]) (upd f (keyL x) (Zg (n+1))) (if (f (keyL x)).isSome then c else c+1):=by
 have k:=h.has (keyL x);refine⟨fun l=> ?_,fun l v d=> ?_,?_,?_⟩
 ·by_cases e:l=keyL x
  ·subst e;rw[DV];simp
  ·rw[DO _ _ e,h.has l];simp only[List.map_append,List.map_cons,List.map_nil,List.mem_append,List.mem_singleton];exact⟨fun h=> .inl h,fun h=>h.resolve_right e⟩
 ·by_cases e:l=keyL x
  ·subst e;rw[DV]at d;cases d;exact⟨n+1,rfl,by omega,by simp;omega⟩
  ·rw[DO _ _ e]at d;obtain⟨m,o,p,s⟩:=h.num l v d;exact⟨m,o,p,by simp;omega⟩
 ·have:=h.le;split<;>simp<;>omega
 ·have r:=h.le;have i:=h.all;rw[List.map_append,List.map_cons,List.map_nil,List.length_append];by_cases hm:keyL x∈g.map keyL
  ·rw[if_pos (k.2 hm)];constructor
   ·intro e;simp at e;omega
   ·intro e;have:=(List.nodup_append.1 e).2.2 _ hm _ (by simp) rfl;cases this
  ·rw[if_neg (fun e=>hm (k.1 e))];constructor
   ·intro e;refine List.nodup_append.2 ⟨i.1 (by simp at e;omega),by simp,fun a q b j e=> ?_⟩;simp at j;subst j;subst e;exact hm q
   ·intro e;have:=i.2 (List.nodup_append.1 e).1;simp;omega
theorem Iw{a:Int}(b:0<=a)(c:a<=2000000000):IntKind.i64.wrap a=a:=by unfold IntKind.wrap;simp[IntKind.signed,IntKind.bits];omega
theorem Wa(w:Zh):(zeroValue 3).run prog w=.ok Zf w:=by kernel_rfl
end
theorem Jf(t:Zi)(a:Zl)(b:Int):(AH t a b).size<=maxLen:=by
 unfold AH;split
 ·rename_i h
  have h:=BB h;have c:=h.az;have d:=h.text;have:(ByteArray.mk (BD t a).toArray).size=1+(aq a+t.size):=by show(BD t a).toArray.size=_;simp only[List.size_toArray,BD,List.length_cons,List.length_append,Dg,Array.length_toList];show _+t.size+1=_;omega
  rw[this];unfold maxLen;omega
 ·simp[maxLen]
def VF(w:Zh)(wd:Int)(m:Nat)(ks:List Kd)(s:Zi):Prop:=
 ∃ok,(ok=true↔Ay ks s)/\∀w',Zz w w'->Calls prog 153 #[.agg #[Zg wd,.map (some m)],.string s] w' fun e w''=>e=.returned (.bool ok)/\Zz w' w''
def Ap(P:Prop)(w0 w:Zh)(e:Ending):Prop:=∃b,e=.returned (.bool b)/\(b=true↔P)/\Zz w0 w
theorem Ap.yes{P:Prop}{a w:Zh}(h:P)(b:Zz a w):Ap P a w (.returned (.bool true)):=⟨_,rfl,by simpa using h,b⟩
theorem Ap.no{P:Prop}{a w:Zh}(h:¬P)(b:Zz a w):Ap P a w (.returned (.bool false)):=⟨_,rfl,by simpa using h,b⟩
theorem Iy{a:Int}(b:0<=a)(c:a<=2000000000):IntKind.i64.wrap a=a:=by unfold IntKind.wrap;simp[IntKind.signed,IntKind.bits];omega
theorem Qy(n:Int)(w:Zh):
 Calls prog 94 #[Zg n] w fun e a=>e=.returned (.bool (decide (1<=n/\n<=8)))/\a=w:=by
 by_cases h1:1<=n
 ·by_cases h2:n<=8
  ·go_enter func94,ntmps94;go_wp2;go_ret;exact⟨Av (by simp[h1,h2]),rfl⟩
  ·have c:decide (n<=8)=false:=by simpa using h2
   go_enter func94,ntmps94;go_wp2;go_ret;exact⟨rfl,rfl⟩
 ·have b:decide (1<=n)=false:=by simpa using h1
  go_enter func94,ntmps94;go_wp2;go_ret;exact⟨rfl,rfl⟩
theorem KK(k:Kd)(a:Int)(h:1<=a):((VD k a).size:Int)=a:=by
 have e:∀l:List Int,(strOfNums l).size=l.length:=fun l=>by unfold strOfNums;simp[ByteArray.size]
 unfold VD EK;rw[e,DD];omega
theorem KL(n:Int)(w:Zh):
 Calls prog 68 #[Zg n] w fun e a=>e=.returned (.bool (decide (1<=n/\n<=8)))/\a=w:=by
 by_cases h1:1<=n
 ·by_cases h2:n<=8
  ·go_enter func68,ntmps68;go_wp2;go_ret;exact⟨Av (by simp[h1,h2]),rfl⟩
  ·have c:decide (n<=8)=false:=by simpa using h2
   go_enter func68,ntmps68;go_wp2;go_ret;exact⟨rfl,rfl⟩
 ·have b:decide (1<=n)=false:=by simpa using h1
  go_enter func68,ntmps68;go_wp2;go_ret;exact⟨rfl,rfl⟩
theorem LI(s:Zi)(w:Zh):
 Calls prog 156 #[.string s] w fun e a=>e=.returned (.agg (Yw (kB s)))/\Zz w a:=Ip s w
def GS(s:Zi):Obj:=.cells #[.int .u8 (kB s 0),.int .u8 (kB s 1),.int .u8 (kB s 2),.int .u8 (kB s 3),.int .u8 (kB s 4),.int .u8 (kB s 5),.int .u8 (kB s 6),.int .u8 (kB s 7)] 191
theorem R8.one(w:Zh)(s:Zi):R8 (w.alloc (GS s)) (w.heap.size+1) (Za w.heap.size 1 1) [s]:=by
 refine .inr ⟨w.heap.size,0,1,rfl,by omega,fun i t a j b=> ?_⟩;cases i with
 |zero=>
  simp at a;subst a;rw[Nat.zero_mul,Nat.zero_add,Nat.zero_add];unfold GS;rw[World.cell?_alloc_at _ _ _ _ rfl]
  match j,b with
  |0,_|1,_|2,_|3,_|4,_|5,_|6,_|7,_=>rfl
 |succ i=>simp at a
section
section
open Go.WideElems Go.MapKept Go.ChangeMaps
end
noncomputable def rowV (f:Lit->Option Value) (t:Zi):Value:=(f (keyL t)).getD (.slice none 0 0)
end
section
attribute [local go_sem↓] Go.wp_at_zero Go.wp_at_succ
theorem Aa.same{w d:Zh}{B:Nat}{l:Zj}(h:Aa w B l)(b:d.heap[B]?=w.heap[B]?):Aa d B l:=
 fun j v c=>⟨(World.cell?_of_block (a:=⟨B,j,none⟩) b).trans (h j v c).1,(World.frozen?_of_block (a:=⟨B,j,none⟩) b).trans (h j v c).2⟩
theorem GD(w:Zh)(o:Obj){b:Nat}(h:b<w.heap.size):(w.alloc o).heap[b]?=w.heap[b]?:=Below.heap_alloc w o b h
theorem ZT{w a:Zh}{B:Nat}{s:Zi}(h:a.heap[B]?=w.heap[B]?)(b:Aa w B (Yv (kB s))):
 a.cell? (Ze B 0)=some (.int .u8 (kB s 0))/\a.cell? (Ze B 1)=some (.int .u8 (kB s 1))/\a.cell? (Ze B 2)=some (.int .u8 (kB s 2))/\a.cell? (Ze B 3)=some (.int .u8 (kB s 3))/\a.cell? (Ze B 4)=some (.int .u8 (kB s 4))/\a.cell? (Ze B 5)=some (.int .u8 (kB s 5))/\a.cell? (Ze B 6)=some (.int .u8 (kB s 6))/\a.cell? (Ze B 7)=some (.int .u8 (kB s 7)):=by
 have:=Aa.same b h;exact⟨(this 0 _ rfl).1,(this 1 _ rfl).1,(this 2 _ rfl).1,(this 3 _ rfl).1,(this 4 _ rfl).1,(this 5 _ rfl).1,(this 6 _ rfl).1,(this 7 _ rfl).1⟩
end
theorem Sc{w:Zh}{b:Nat}{c a given ae:Int}{T P L:Value}(h:Bb w b c a given ae T P L):w.cell? (Ze b 0)=some (Zg c)/\w.cell? (Ze b 1)=some (Zg a)/\w.cell? (Ze b 2)=some (Zg given)/\w.cell? (Ze b 3)=some (Zg ae)/\w.cell? (Ze b 4)=some T/\w.cell? (Ze b 5)=some P/\w.cell? (Ze b 6)=some L:=
 ⟨h.1,h.2.1,h.2.2.1,h.2.2.2.1,h.2.2.2.2.1,h.2.2.2.2.2.1,h.2.2.2.2.2.2.1⟩
def vB(d m:Nat)(O P L:Value):List Nat:=d::m::(O.ownBlock.toList++(P.ownBlock.toList++L.ownBlock.toList))
def Uh(base:Nat)(V:List Nat):Prop:=∃m,V[1]?=some m/\m<base+4
def DE(w:Zh)(base:Nat)(V:List Nat)(a:Zk)(ss:Zl):Prop:=
 ss=[]∨∃b off,a=some ⟨b,off,none⟩/\b<w.heap.size/\b∉V/\((b<base/\Uh base V)∨(base<=b/\∃cur,w.heap[b]?=some (.cells cur 9)))/\∀i s,ss[i]?=some s->w.cell? (Ze b (off+i))=some (.string s)
theorem DE.row{w:Zh}{base:Nat}{V:List Nat}{a:Zk}{c:Zl}(h:DE w base V a c):Ad w w.heap.size a c:=by
 rcases h with h|⟨b,d,e,f,_,_,g⟩
 ·exact .inl h
 ·exact .inr ⟨b,d,e,f,g⟩
def Cb(w:Zh)(base:Nat)(V:List Nat)(wd:Int)(ks:List Kd)(f:Lit->Option Value):Prop:=
 ∀s:Zi,(s.size:Int)=wd->(f (keyL s)=none/\¬Ay ks s)∨∃u ra rc,u∈ks/\u.sum=s/\f (keyL s)=some (Es u ra rc)/\DE w base V ra u.refs
theorem Cb.of{W w:Zh}{V:List Nat}{k:Int}{j:List Kd}{f:Lit->Option Value}(h:Holds W W.heap.size k j f)(g:Zz W w)(o:∀b∈V,W.heap.size<=b)(t:Uh W.heap.size V):Cb w W.heap.size V k j f:=by
 intro s e;rcases h s e with h|⟨u,x,y,l,m,n,d⟩
 ·exact .inl h
 ·refine .inr ⟨u,x,y,l,m,n,?_⟩;rcases d with d|⟨b,c,q,a,r⟩
  ·exact .inl d
  ·exact .inr ⟨b,c,q,Zr a g.size,fun v=>by have:=o b v;omega,.inl ⟨a,t⟩,fun i s e=>(g.cell (p:=⟨b,c+i,none⟩) a).trans (r i s e)⟩
structure Dr (w:Zh) (base d m:Nat) (O P L:Value) (wd now given ae:Int) (ks:List Kd) (ps:List Pd) (ls:List Ld):Prop where
 box:Aa w d [Zg wd,.map (some m),Zg now,Zg given,Zg ae,O,P,L]
 map:∃n f,n<=1000000+ae.toNat/\Bs w 191 m n f/\Cb w base (vB d m O P L) wd ks f
 ord:w.ownsRow base 191 8 O ks.length (AW (ks.map (·.sum)))
 cl:w.ownsRow base 142 2 P ps.length (Ab pC ps)
 ci:w.ownsRow base 144 3 L ls.length (Ab lC ls)
 bd:base<=d
 bm:base<=m
 ap:(vB d m O P L).Nodup
theorem Cb.below{w k:Zh}{base:Nat}{V:List Nat}{l:Int}{j:List Kd}{f:Lit->Option Value}(h:Cb w base V l j f)(e:Zz w k):Cb k base V l j f:=by
 intro s g;rcases h s g with h|⟨u,x,y,m,n,o,d⟩
 ·exact .inl h
 ·refine .inr ⟨u,x,y,m,n,o,?_⟩;rcases d with d|⟨b,c,q,a,v,t,r⟩
  ·exact .inl d
  ·exact .inr ⟨b,c,q,Zr a e.size,v,(by rw[e.block b a];exact t),fun i s g=>(e.cell (p:=⟨b,c+i,none⟩) a).trans (r i s g)⟩
theorem Ag{w w':Zh}{base:Nat}{e:TypeId}{size:Nat}{v:Value}{n:Nat}{b:Zj}(h:w.ownsRow base e size v n b)(i:Zz w w'):w'.ownsRow base e size v n b:=by
 refine⟨h.1,?_⟩;rcases h.2 with j|⟨g,c,d,k,f,a,rest⟩
 ·exact .inl j
 ·exact .inr ⟨g,c,d,k,f,(i.block g (Array.getElem?_eq_some_iff.1 a).1).trans a,rest⟩
theorem Dr.below{w j:Zh}{base d m:Nat}{O P L:Value}{k b given ae:Int}{e:List Kd}{i:List Pd}{g:List Ld}(h:Dr w base d m O P L k b given ae e i g)(a:Zz w j):Dr j base d m O P L k b given ae e i g:=by obtain⟨n,f,l,c,o⟩:=h.map;exact⟨h.box.below a,⟨n,f,l,c.ak a c.lt,o.below a⟩,Ag h.ord a,Ag h.cl a,Ag h.ci a,h.bd,h.bm,h.ap⟩
theorem Ac{w:Zh}{base:Nat}{e:TypeId}{size:Nat}{v:Value}{n:Nat}{d:Zj}(h:w.ownsRow base e size v n d){g:Nat}(a:v.ownBlock=some g):base<=g/\g<w.heap.size:=by
 rcases h.2 with⟨rfl,_⟩|⟨j,f,i,rfl,c,b,_⟩
 ·cases a
 ·cases a;exact⟨c,(Array.getElem?_eq_some_iff.1 b).1⟩
theorem NR{w a:Zh}{base B:Nat}{e:TypeId}{size:Nat}{v:Value}{n:Nat}{b:Zj}(h:w.ownsRow base e size v n b)(j:Below B w a)(i:∀g,v.ownBlock=some g->g<B):a.ownsRow base e size v n b:=by
 refine⟨h.1,?_⟩;rcases h.2 with l|⟨g,c,d,rfl,f,k,rest⟩
 ·exact .inl l
 ·exact .inr ⟨g,c,d,rfl,f,(j.block g (i g rfl)).trans k,rest⟩
theorem YX(w:Zh)(base:Nat)(v:Value)(a:Zl)(x:w.ownsRow base 191 8 v a.length (AW a))(s:Zi)(t:a.length<=1000000)(i:base<=w.heap.size)(k:TypeId):
 ∃g b d,(Builtin.append_ #[160,160] k #[v,Za w.heap.size 1 1]).run prog (w.alloc (GS s))=.ok (Za g (a.length+1) b) d/\d.ownsRow base 191 8 (Za g (a.length+1) b) (a++[s]).length (AW (a++[s]))/\w.grownBy d v.ownBlock/\(v.ownBlock=some g∨g=w.heap.size+1):=by
 obtain⟨z,r,m,n,o⟩:=info_parts LH;have l:=Ag x ((Below.refl _ _).alloc (Zx) (GS s));have p:=R8.one w s;have h:∀j u,(AW [s])[j]?=some u->(w.alloc (GS s)).cell? ((⟨w.heap.size,0,none⟩:Addr).add j)=some u:=by
  rcases p with⟨e,_⟩|⟨g,A,b,e,_,h⟩
  ·cases e
  ·cases e;exact R8.cells h
 obtain⟨B,d,y,f,q,_,c⟩:=run_append_own_at (P:=prog) (w.alloc (GS s)) base 160 k 191 z _ 8 8 underlying160 r m n o rfl (by decide) v a.length (AW a) l ⟨w.heap.size,0,none⟩ 1 1 (AW [s]) (Fx [s]) h (DW [s]) (by unfold maxLen;omega) (by omega) (by simp;omega);obtain⟨g,b,rfl,_,_⟩:=Cp f (fun e=>by subst e;rcases f.2 with⟨_,t⟩|⟨_,_,_,e,_⟩<;>first|omega|cases e)
 refine⟨g,b,d,y,?_,(World.grownBy_alloc w (GS s) _).trans q,?_⟩
 ·rw[IS,List.length_append];exact f
 ·rcases c with c|c
  ·exact .inl c.symm
  ·right;simpa [Value.ownBlock]using c
def kC(x:Kd×Value):Zj:=[.string x.1.sum,Zg x.1.born,.string x.1.text,x.2]
theorem Ej(x:Kd×Value):(kC x).length=4:=rfl
structure AV (w:Zh) (base:Nat) (T P L:Value) (rs:Zj) (ks:List Kd) (ps:List Pd) (ls:List Ld):Prop where
 len:rs.length=ks.length
 ai:w.ownsRow base 137 4 T ks.length (Ab kC (ks.zip rs))
 refs:∀(i:Nat) (k:Kd) (r:Value),ks[i]?=some k->rs[i]?=some r->w.ownsRow base 9 1 r k.refs.length (k.refs.map Value.string)
 pins:w.ownsRow base 142 2 P ps.length (Ab pC ps)
 an:w.ownsRow base 144 3 L ls.length (Ab lC ls)
 nd:((T::P::L::rs).filterMap Value.ownBlock).Nodup
theorem DF{B:Nat}{w a:Zh}(h:Below B w.drew a):Below B w a:=⟨h.os,h.tape,h.output,h.size,h.block⟩
theorem Ar{w:Zh}{base:Nat}{e:TypeId}{size:Nat}{v:Value}{n:Nat}{b:Zj}(h:w.ownsRow base e size v n b):∃a c,v=.slice a n c:=by
 rcases h.2 with⟨rfl,rfl⟩|⟨g,d,f,rfl,_⟩
 ·exact⟨_,_,rfl⟩
 ·exact⟨_,_,rfl⟩
theorem Bv{w:Zh}{base:Nat}{e:TypeId}{size:Nat}{v:Value}{n:Nat}{a:Zj}(h:w.ownsRow base e size v n a){b:Nat}(c:∀g,v.ownBlock=some g->g≠b)(j:Nat)(u:Value):(w.setCell (Ze b j) u).ownsRow base e size v n a:=
 World.ownsRow.kept h (Az w b j u) (.inr (fun e=>c b e rfl))
theorem d8{w:Zh}{d:Nat}{a i b c e j f g:Value}(h:Aa w d [a,i,b,c,e,j,f,g]):w.cell? (Ze d 0)=some a/\w.cell? (Ze d 2)=some b/\w.cell? (Ze d 3)=some c/\w.cell? (Ze d 4)=some e/\w.cell? (Ze d 6)=some f/\w.cell? (Ze d 7)=some g:=
 ⟨(h 0 _ rfl).1,(h 2 _ rfl).1,(h 3 _ rfl).1,(h 4 _ rfl).1,(h 6 _ rfl).1,(h 7 _ rfl).1⟩
def Bk(T P L:Value)(rs:Zj):List Nat:=T.ownBlock.toList++(P.ownBlock.toList++(L.ownBlock.toList++rs.filterMap Value.ownBlock))
theorem Fp(T P L:Value)(a:Zj):(T::P::L::a).filterMap Value.ownBlock=Bk T P L a:=by unfold Bk;cases hT:T.ownBlock<;>cases hP:P.ownBlock<;>cases hL:L.ownBlock<;>simp[hT,hP,hL]
theorem Wb{c n:Nat}{T a P L r:Option Nat}{R:List Nat}(h:(c::(T.toList++(P.toList++(L.toList++R)))).Nodup)(e:∀b∈c::(T.toList++(P.toList++(L.toList++R))),b<n)
 (i:∀g,r=some g->n<=g) (d:a=T∨∃t,a=some t/\n<=t/\∀g,r=some g->g≠t):(c::(a.toList++(P.toList++(L.toList++(R++r.toList))))).Nodup:=by
 rcases d with rfl|⟨t,rfl,j,f⟩
 ·cases a<;>cases P<;>cases L<;>cases r<;>simp_all [List.nodup_append]<;>grind
 ·cases T<;>cases P<;>cases L<;>cases r<;>simp_all [List.nodup_append]<;>grind
theorem Mr{a:Nat}{T P L:Option Nat}{R:List Nat}(h:(a::(T.toList++(P.toList++(L.toList++R)))).Nodup):
 (∀g,T=some g->g≠a)/\(∀g,P=some g->g≠a/\T≠some g)/\(∀g,L=some g->g≠a/\T≠some g)/\(∀g∈R,g≠a/\T≠some g):=by
 cases T<;>cases P<;>cases L<;>simp_all<;>grind
theorem Ak{w w':Zh}{base:Nat}{e:TypeId}{size:Nat}{v:Value}{n:Nat}{a:Zj}(h:w.ownsRow base e size v n a)(j:∀g,v.ownBlock=some g->w'.heap[g]?=w.heap[g]?):w'.ownsRow base e size v n a:=by
 refine⟨h.1,?_⟩;rcases h.2 with i|⟨g,b,c,rfl,d,f,rest⟩
 ·exact .inl i
 ·exact .inr ⟨g,b,c,rfl,d,(j g rfl).trans f,rest⟩
theorem GU{c:List Kd}(b:(c.map (·.sum)).Nodup){u v:Kd}(d:u∈c)(e:v∈c)(h:u.sum=v.sum):u=v:=by
 induction c with
 |nil=>cases d
 |cons x xs ih=>
  simp only[List.map_cons,List.nodup_cons,List.mem_map,not_exists,not_and]at b;rcases List.mem_cons.1 d with a|a<;>rcases List.mem_cons.1 e with hv'|hv'
  ·rw[a,hv']
  ·exact absurd (a▸h.symm) (b.1 v hv')
  ·exact absurd (hv'▸h) (b.1 u a)
  ·exact ih b.2 a hv'
def z7:Zj:=[Zf,Zf,Zf,Zf,Zc,Zc,Zc]
theorem Qz{w:Zh}{b:Nat}(h:Aa w b z7):(w.cell? (Ze b 0)=some Zf/\w.frozen? ⟨b,0,none⟩=false)/\(w.cell? (Ze b 1)=some Zf/\w.frozen? ⟨b,1,none⟩=false)/\(w.cell? (Ze b 2)=some Zf/\w.frozen? ⟨b,2,none⟩=false)/\(w.cell? (Ze b 3)=some Zf/\w.frozen? ⟨b,3,none⟩=false)/\(w.cell? (Ze b 4)=some Zc/\w.frozen? ⟨b,4,none⟩=false)/\(w.cell? (Ze b 5)=some Zc/\w.frozen? ⟨b,5,none⟩=false)/\(w.cell? (Ze b 6)=some Zc/\w.frozen? ⟨b,6,none⟩=false):=
 ⟨h 0 _ rfl,h 1 _ rfl,h 2 _ rfl,h 3 _ rfl,h 4 _ rfl,h 5 _ rfl,h 6 _ rfl⟩
theorem XH{w:Zh}{b:Nat}(h:Aa w b z7)(a c d e f g i:Value):Aa (((((((w.setCell (Ze b 0) a).setCell (Ze b 1) c).setCell (Ze b 2) d).setCell (Ze b 3) e).setCell (Ze b 4) f).setCell (Ze b 5) g).setCell (Ze b 6) i) b [a,c,d,e,f,g,i]:=
 (((((((h.set 0 a).set 1 c).set 2 d).set 3 e).set 4 f).set 5 g).set 6 i)
theorem GW{w:Zh}{base:Nat}{e:TypeId}{size:Nat}{v:Value}{n:Nat}{c:Zj}(h:w.ownsRow base e size v n c){b:Nat}(a:∀g,v.ownBlock=some g->g≠b)(d f i j k l m:Value):(((((((w.setCell (Ze b 0) d).setCell (Ze b 1) f).setCell (Ze b 2) i).setCell (Ze b 3) j).setCell (Ze b 4) k).setCell (Ze b 5) l).setCell (Ze b 6) m).ownsRow base e size v n c:=
 Bv (Bv (Bv (Bv (Bv (Bv (Bv h a 0 _) a 1 _) a 2 _) a 3 _) a 4 _) a 5 _) a 6 _
theorem Fy{B:Nat}{a w:Zh}(h:Below B a w){b:Nat}(c:B<=b)(d e f g i j k:Value):Below B a (((((((w.setCell (Ze b 0) d).setCell (Ze b 1) e).setCell (Ze b 2) f).setCell (Ze b 3) g).setCell (Ze b 4) i).setCell (Ze b 5) j).setCell (Ze b 6) k):=
 ((((((h.setCell c d).setCell c e).setCell c f).setCell c g).setCell c i).setCell c j).setCell c k
def Sd(b:Nat)(P L:Value):Prop:=(∀g,P.ownBlock=some g->g≠b)/\(∀g,L.ownBlock=some g->g≠b)/\(∀g,P.ownBlock=some g->L.ownBlock=some g->False)
theorem Jg(base d m:Nat)(O P L:Value)(wd R given ae:Int)(c:List Kd)(s:List Pd)(q:List Ld)(w:Zh)(hd:Dr w base d m O P L wd R given ae c s q)(xO:(c.map (·.sum)).Nodup)(xT:∀k∈c,(k.sum.size:Int)=wd)(hk:c.length<=600)(hp:s.length<=100)(hl:q.length<=200)(yJ:∀k∈c,k.refs.length<=30):
 Calls prog 101 #[Yz d] w fun e I=>∃T P' L' rs,e=.returned (.agg #[Zg wd,Zg R,Zg given,Zg ae,T,P',L'])/\AV I w.heap.size T P' L' rs c s q/\Zz w I:=by
 obtain⟨pa,zY,rfl⟩:=Ar hd.cl;obtain⟨la,zX,rfl⟩:=Ar hd.ci;obtain⟨oa,xZ,rfl⟩:=Ar hd.ord;have HD:=Yx hd;have vJ:=hd.box.lt;obtain⟨W,hW⟩:∃W,W=w.alloc (.cells Yu 43):=⟨_,rfl⟩;have yD:=(AJ hW).1;have yR:=(AJ hW).2.1;have ZW:Aa W w.heap.size z7:=(AJ hW).2.2;have zS:=Yx (hd.below yD)
 have zF:Hid (∀X,Zz W X->Calls prog 134 #[.slice pa s.length zY] X fun e I=>∃a' c',e=.returned (.slice a' s.length c')/\I.ownsRow X.heap.size 142 2 (.slice a' s.length c') s.length (Ab pC s)/\Zz X I):=
  fun X H=>Jd pa zY s X (Ba.own (Ag zS.o.cl H)) (by omega)
 have U:Hid (∀X,Zz W X->Calls prog 135 #[.slice la q.length zX] X fun e I=>∃a' c',e=.returned (.slice a' q.length c')/\I.ownsRow X.heap.size 144 3 (.slice a' q.length c') q.length (Ab lC q)/\Zz X I):=
  fun X H=>Iq la zX q X (Be.own (Ag zS.o.ci H)) (by omega)
 have HS:Hid (∀X,Zz W X->X.cell? (Ze d 0)=some (Zg wd)/\X.cell? (Ze d 2)=some (Zg R)/\X.cell? (Ze d 3)=some (Zg given)/\X.cell? (Ze d 4)=some (Zg ae)/\X.cell? (Ze d 6)=some (.slice pa s.length zY)/\X.cell? (Ze d 7)=some (.slice la q.length zX)):=
  fun X H=>d8 (zS.o.box.below H)
 have D0:Below W.heap.size W W.drew:=(Below.refl _ _).drew;have D1:∀o,Zz W (W.alloc o).drew:=fun o=>(Zy).drew;have HW:=Yx hW;have yL:=Yx ZW;have zC:=Yx yR;clear hd hW ZW yR;go_enter func101,ntmps101;go_upto_region 1 with fail;rw[←HW.o];clear HW
 go_cut [3] (fun v wx=>∃(A:Nat) (E z:Zk) (F c2:Nat),v=Yz A/\Hid (Aa wx A (Yt wd R given ae none 0 0 E s.length F z q.length c2)/\wx.ownsRow W.heap.size 142 2 (.slice E s.length F) s.length (Ab pC s)/\wx.ownsRow W.heap.size 144 3 (.slice z q.length c2) q.length (Ab lC q)/\Sd A (.slice E s.length F) (.slice z q.length c2)/\W.heap.size<=A/\Zz W wx))
 case first=>
  go_region_held3 (fun I=>I.cell? (Ze d 0)=some (Zg wd)/\I.cell? (Ze d 2)=some (Zg R)/\I.cell? (Ze d 3)=some (Zg given)/\I.cell? (Ze d 4)=some (Zg ae)/\I.cell? (Ze d 6)=some (.slice pa s.length zY)/\I.cell? (Ze d 7)=some (.slice la q.length zX))
   (first
     |with_reducible exact HS.o _ D0
     |with_reducible exact HS.o _ (D1 _)
     |with_reducible exact HS.o _ G
     |with_reducible exact HS.o _ S
     |with_reducible exact HS.o _ (G.alloc G.size _)
     |with_reducible exact HS.o _ (S.alloc S.size _)
     |with_reducible exact HS.o _ (Fy S Y _ _ _ _ _ _ _))
   (first
     |(go_at_call 134;guard_target=~Calls prog 134 _ (World.drew (World.alloc W _)) _;refine(zF.o (W.alloc (.cells Yu 43)).drew (D1 _)).mono ?_;rintro e B ⟨E,F,rfl,N,zA⟩;have G:Below W.heap.size W B:=(D1 _).trans (zA.mono (by simp));have nA:Aa B W.heap.size z7:=(Aa.below (w:=W.alloc (.cells Yu 43)) (Aa.new W _ _) (DF zA)))
     |(go_at_call 134;guard_target=~Calls prog 134 _ (World.drew W) _;refine(zF.o W.drew D0).mono ?_;rintro e B ⟨E,F,rfl,N,zA⟩;have G:Below W.heap.size W B:=D0.trans zA)
     |(go_at_call 135;have yG:=nA;refine(U.o B G).mono ?_;rintro e w2 ⟨z,c2,rfl,Q,C⟩;have S:Below W.heap.size W w2:=G.trans (C.mono G.size);have n2:Aa w2 W.heap.size z7:=(Aa.below nA C);have Y:W.heap.size<=W.heap.size:=Zx;obtain⟨⟨y0,q0⟩,⟨y1,q1⟩,⟨y2,q2⟩,⟨y3,q3⟩,⟨y4,q4⟩,⟨y5,q5⟩,y6,q6⟩:=Qz n2)
     |(go_at_call 135;guard_target=~Calls prog 135 _ (World.alloc B _) _;refine(U.o (B.alloc (.cells Yu 43)) (G.alloc G.size _)).mono ?_;rintro e w2 ⟨z,c2,rfl,Q,C⟩;have S:Below W.heap.size W w2:=(G.alloc G.size _).trans (C.mono (by have:=G.size;simp;omega));have nB:Aa w2 B.heap.size z7:=(Aa.below (Aa.new B _ _) C);have Y:W.heap.size<=B.heap.size:=G.size;obtain⟨⟨y0,q0⟩,⟨y1,q1⟩,⟨y2,q2⟩,⟨y3,q3⟩,⟨y4,q4⟩,⟨y5,q5⟩,y6,q6⟩:=Qz nB)
     |(go_at_call 135;refine(U.o B G).mono ?_;rintro e w2 ⟨z,c2,rfl,Q,C⟩;have nC:=N;have S:Below W.heap.size W w2:=G.trans (C.mono G.size)))
  all_goals (go_wp2_with fail;go_meet)
  all_goals first
   |(have yG:=nA
     have zz:=zC.o;have l1:∀g,(Value.slice E s.length F).ownBlock=some g->W.heap.size+1<=g/\g<B.heap.size:=fun g a=>by have:=Ac N a;simp at this;omega
     have l2:∀g,(Value.slice z q.length c2).ownBlock=some g->B.heap.size<=g:=fun g a=>(Ac Q a).1;have z1:W.heap.size+1<=B.heap.size:=by have:=zA.size;simp at this;omega
     exact⟨W.heap.size,E,z,F,c2,rfl,XH n2 _ _ _ _ _ _ _,GW (Ag (N.mono (by simp)) C) (fun g a=>by have:=l1 g a;omega) _ _ _ _ _ _ _,GW (Q.mono (by omega)) (fun g a=>by have:=l2 g a;omega) _ _ _ _ _ _ _,⟨fun g a=>by have:=l1 g a;omega,fun g a=>by have:=l2 g a;omega,fun g a zO=>by have:=l1 g a;have:=l2 g zO;omega⟩,Zx,Fy S (Zx) _ _ _ _ _ _ _⟩)
   |(have yG:=nB
     have l1:∀g,(Value.slice E s.length F).ownBlock=some g->W.heap.size<=g/\g<B.heap.size:=fun g a=>by have:=Ac N a;simp at this;omega
     have l2:∀g,(Value.slice z q.length c2).ownBlock=some g->B.heap.size+1<=g:=fun g a=>by have:=(Ac Q a).1;simp at this;omega
     exact⟨B.heap.size,E,z,F,c2,rfl,XH nB _ _ _ _ _ _ _,GW (Ag (Ag (N.mono (by simp)) (Zy)) C) (fun g a=>by have:=l1 g a;omega) _ _ _ _ _ _ _,GW (Q.mono (by simp;omega)) (fun g a=>by have:=l2 g a;omega) _ _ _ _ _ _ _,⟨fun g a=>by have:=l1 g a;omega,fun g a=>by have:=l2 g a;omega,fun g a zO=>by have:=l1 g a;have:=l2 g zO;omega⟩,Y,Fy S Y _ _ _ _ _ _ _⟩)
   |(have yG:=nC
     have l1:∀g,(Value.slice E s.length F).ownBlock=some g->W.heap.size<=g/\g<B.heap.size:=fun g a=>by have:=Ac N a;simp at this;omega
     have l2:∀g,(Value.slice z q.length c2).ownBlock=some g->B.heap.size<=g/\g<w2.heap.size:=fun g a=>Ac Q a;have z2:=C.size;exact⟨w2.heap.size,E,z,F,c2,rfl,Aa.new w2 _ _,Ag (Ag (N.mono (by simp)) C) (Zy),Ag (Q.mono G.size) (Zy),⟨fun g a=>by have:=l1 g a;omega,fun g a=>by have:=l2 g a;omega,fun g a zO=>by have:=l1 g a;have:=l2 g zO;omega⟩,S.size,S.alloc S.size _⟩)
 case rest=>
  revert wc;intro wN hcut;obtain⟨A,E,z,F,c2,rfl,HC⟩:=hcut;have yV:Hid (Zz w wN):=yD.trans (HC.o.2.2.2.2.2.mono yD.size);have dN:=(zS.o.box.below HC.o.2.2.2.2.2);obtain⟨e5,_⟩:=dN 5 _ rfl;have zN:=HC.o.2.2.2.2.2.size;have vO:W.heap.size<=A:=HC.o.2.2.2.2.1;have xA:Hid (Aa wN w.heap.size z7):=Aa.below (v:=Zf) (l:=z7.tail) yL.o HC.o.2.2.2.2.2;clear dN zF U HS D0 D1 yL;go_wp2
  go_loopw [40] (fun i wr=>∃(k:Nat) (T:Value) (rs:Zj),k<=c.length/\i=Zg k/\Hid (Aa wr A [Zg wd,Zg R,Zg given,Zg ae,T,.slice E s.length F,.slice z q.length c2]/\Aa wr w.heap.size z7/\wr.ownsRow W.heap.size 137 4 T k (Ab kC ((c.take k).zip rs))/\rs.length=k/\(∀(i:Nat) (x:Kd) (r:Value),(c.take k)[i]?=some x->rs[i]?=some r->wr.ownsRow W.heap.size 9 1 r x.refs.length (x.refs.map Value.string))/\wr.ownsRow W.heap.size 142 2 (.slice E s.length F) s.length (Ab pC s)/\wr.ownsRow W.heap.size 144 3 (.slice z q.length c2) q.length (Ab lC q)/\(A::Bk T (.slice E s.length F) (.slice z q.length c2) rs).Nodup)/\Zz w wr) (fun i _=>c.length -(intOf i).toNat)
  case atStart=>
   refine⟨0,Zc,[],Nat.zero_le _,rfl,⟨HC.o.1,xA.o,⟨rfl,.inl ⟨rfl,rfl⟩⟩,rfl,fun i x r hx=>by simp at hx,HC.o.2.1,HC.o.2.2.1,?_⟩,yV.o⟩;have h3:=HC.o.2.2.2.1;unfold Sd at h3;unfold Bk;generalize (Value.slice E s.length F).ownBlock=x1 at *
   generalize (Value.slice z q.length c2).ownBlock=x2 at *
   cases x1<;>cases x2<;>simp_all [Value.ownBlock]<;>grind
  case round=>
   obtain⟨k,T,rs,vK,rfl,HI,D⟩:=hrel;by_cases hlt:k<c.length
   ·obtain⟨n,f,hn,hM,hH⟩:=HD.o.map;have yF:=D.size;have ho:wr.ownsRow base 191 8 (.slice oa c.length xZ) c.length (AW (c.map (·.sum))):=NR HD.o.ord D (fun g a=>(Ac HD.o.ord a).2);obtain⟨og,oc,xI,_,vL⟩:=Cp ho (fun e=>by injection e with _ h2 _;omega);cases xI;have HG:Hid (c[k]?=some c[k]):=Zv hlt;have K:c[k]∈c:=List.getElem_mem hlt;have xV:=xT _ K;have vG:=yJ _ K
    have yP:(c.map (·.sum))[k]?=some c[k].sum:=by simp[hlt]
    have p:∀j,j<8->wr.cell? (Ze og (k *8+j))=some (.int .u8 (kB c[k].sum j)):=fun j hj=>(ho.cellAt _ (by omega)).trans (GC yP hj);obtain⟨M,rc,yO,yX⟩:∃M rc,f (keyL c[k].sum)=some (Es c[k] M rc)/\Hid (Ad w w.heap.size M c[k].refs):=by
     rcases hH _ xV with⟨_,xP⟩|⟨u,M,rc,hu,xU,xK,xR⟩
     ·exact absurd ⟨_,K,rfl⟩ xP
     ·obtain rfl:=GU xO hu K xU;exact⟨M,rc,xK,xR.row⟩
    have fq:∀X,Zz wr X->(Instr.lookup 157 (.map (some m)) (Cw c[k].sum) false).run prog X=.ok (Es c[k] M rc) X:=fun X H=>by have:=(hM.ak (D.trans (H.mono yF)) hM.lt).look keyed underlying157 (Kl _) (EM c[k].sum);rw[yO]at this;exact this
    have dr:Aa wr d _:=Aa.below HD.o.box D;have yN:=p 0 (by omega);have xB:=p 1 (by omega);have xC:=p 2 (by omega);have xD:=p 3 (by omega);have xE:=p 4 (by omega);have xF:=p 5 (by omega);have xG:=p 6 (by omega);have xH:=p 7 (by omega);rw[Nat.add_zero]at yN;have HX:Hid (c.take (k+1)=c.take k++[c[k]]):=Zu hlt;unfold Cw Da Es at fq;clear ho p yP hH yO K hM;generalize c[k]=x at *
    obtain⟨t,zI⟩:∃t,t=wr.alloc (.cells (Yw (kB x.sum)) 191):=⟨_,rfl⟩;have b1:=(AJ zI).1;have z1:=(AJ zI).2.1;have K1:=(AJ zI).2.2
    have zZ:Hid (∀X,Zz t X->X.cell? (Ze d 1)=some (.map (some m))/\(X.cell? (Ze (wr.heap.size) 0)=some (.int .u8 (kB x.sum 0))/\X.cell? (Ze (wr.heap.size) 1)=some (.int .u8 (kB x.sum 1))/\X.cell? (Ze (wr.heap.size) 2)=some (.int .u8 (kB x.sum 2))/\X.cell? (Ze (wr.heap.size) 3)=some (.int .u8 (kB x.sum 3))/\X.cell? (Ze (wr.heap.size) 4)=some (.int .u8 (kB x.sum 4))/\X.cell? (Ze (wr.heap.size) 5)=some (.int .u8 (kB x.sum 5))/\X.cell? (Ze (wr.heap.size) 6)=some (.int .u8 (kB x.sum 6))/\X.cell? (Ze (wr.heap.size) 7)=some (.int .u8 (kB x.sum 7)))/\(Instr.lookup 157 (.map (some m)) (.agg (Yw (kB x.sum))) false).run prog X=.ok (.agg #[.string x.sum,Zg x.born,.string x.text,.slice M x.refs.length rc]) X):=
     fun X H=>⟨((dr.below (b1.trans (H.mono b1.size))) 1 _ rfl).1,ZT (H.block _ (by omega)) K1,fq X (b1.trans (H.mono b1.size))⟩
    have D0:Below t.heap.size t t.drew:=(Below.refl _ _).drew;have D1:∀o,Zz t (t.alloc o).drew:=fun o=>(Zy).drew;have yK:=Yx zI;have zG:=Yx z1;have yU:=Yx b1;clear zI z1 fq K1 b1 dr;go_upto_region 5 with fail;rw[←yK.o];clear yK yN xB xC xD xE xF xG xH
    go_region_held3 (fun X=>X.cell? (Ze d 1)=some (.map (some m))/\(X.cell? (Ze (wr.heap.size) 0)=some (.int .u8 (kB x.sum 0))/\X.cell? (Ze (wr.heap.size) 1)=some (.int .u8 (kB x.sum 1))/\X.cell? (Ze (wr.heap.size) 2)=some (.int .u8 (kB x.sum 2))/\X.cell? (Ze (wr.heap.size) 3)=some (.int .u8 (kB x.sum 3))/\X.cell? (Ze (wr.heap.size) 4)=some (.int .u8 (kB x.sum 4))/\X.cell? (Ze (wr.heap.size) 5)=some (.int .u8 (kB x.sum 5))/\X.cell? (Ze (wr.heap.size) 6)=some (.int .u8 (kB x.sum 6))/\X.cell? (Ze (wr.heap.size) 7)=some (.int .u8 (kB x.sum 7)))/\(Instr.lookup 157 (.map (some m)) (.agg (Yw (kB x.sum))) false).run prog X=.ok (.agg #[.string x.sum,Zg x.born,.string x.text,.slice M x.refs.length rc]) X)
     (first|with_reducible exact zZ.o _ D0|with_reducible exact zZ.o _ (D1 _))
     (fail)
    all_goals
     clear zZ D0 D1;obtain⟨W2,zJ⟩:∃W2,W2=(t.alloc (.cells #[.string x.sum,Zg x.born,.string x.text,.slice M x.refs.length rc] 137)).drew:=⟨_,rfl⟩;have b2:Below t.heap.size t W2:=by rw[zJ];exact(Zy).drew
     have z2:W2.heap.size=t.heap.size+1:=by rw[zJ];simp
     have K2:Aa W2 t.heap.size [.string x.sum,Zg x.born,.string x.text,.slice M x.refs.length rc]:=by rw[zJ];exact Aa.new t _ _
     have z1:=zG.o;have yB:Below wr.heap.size wr W2:=yU.o.trans (b2.mono (by omega));have R2:Ad W2 W2.heap.size M x.refs:=Ad.mono (Ad.below yX.o (D.trans (yB.mono yF))) (by omega);rw[←zJ];obtain⟨k3,_⟩:=K2 3 _ rfl;have yA:=Yx z2;have xQ:x.refs.length<=1048576:=by omega
     clear zJ z1 z2;go_wp2_with fail;refine(Ew M rc x.refs W2 R2 xQ).mono ?_;rintro e w3 ⟨a3,c3,rfl,yE,zM⟩;clear k3;have z1:=zG.o;have z2:=yA.o;have zT:Below wr.heap.size wr w3:=yB.trans (zM.mono (by omega));have z3:=zM.size;obtain⟨i1,i2,Z,i4,i5,i6,i7,i8⟩:=HI.o;have zW:=zC.o;have S3:=Aa.below i1 zT;obtain⟨ta,tc,rfl⟩:=Ar Z;obtain⟨s4,f4⟩:=S3 4 _ rfl;have xS:A<wr.heap.size:=i1.lt
     have yI:¬A=t.heap.size:=by omega
     have vE:¬t.heap.size=A:=by omega
     obtain⟨k0,k1,k2⟩:=Aa.c3 (Aa.below K2 zM) 0 1 2;obtain⟨k3,g3⟩:=Aa.below K2 zM 3 _ rfl;have yZ:=Yx (Ag Z zT);have zH:∀g,(Value.slice ta k tc).ownBlock=some g->W.heap.size<=g/\g<wr.heap.size:=fun g a=>Ac Z a;have yC:∀g,(Value.slice a3 x.refs.length c3).ownBlock=some g->W2.heap.size<=g/\g<w3.heap.size:=fun g a=>Ac yE a;have yW:=Yx yE;have zR:=Yx zT;have yY:=Yx S3
     have vH:W.heap.size<=w3.heap.size:=by omega
     obtain⟨i0,hi,xW,xX,xY⟩:=info_parts GR;have yM:=Yx z3;clear K2 b2 yB R2 i1 i2 Z i4 i5 i6 i7 i8 zM yE zT S3 z1 z2 z3 zW;go_wp2_with (first
      |(at_builtin;refine wpList_append_own_at _ rfl _ _ 39 rfl W.heap.size 137 i0 _ 4 64 underlying39 hi xW xX xY rfl (by decide) _ k (Ab kC ((c.take k).zip rs)) rfl ?d0 ⟨w3.heap.size,0,none⟩ 1 1 (kC (x,.slice a3 x.refs.length c3)) rfl rfl ?d2 ?d3 ?d4 ?d5 ?d6 ?_)
      |go_in)
     case d0=>exact Ag (Bv yZ.o (fun g a=>by have:=zH g a;have:=zG.o;omega) 3 _) (Zy)
     case d2=>
      intro j u hu;rw[Go.WideShapes.add_plain,Nat.zero_add];have:=(Aa.new (w3.setCell (Ze (t.heap.size) 3) (.slice a3 x.refs.length c3)) (kC (x,.slice a3 x.refs.length c3)) 137) j u hu;simpa [kC]using this.1
     case d3=>
      intro u hu;simp[kC]at hu;rcases hu with rfl|rfl|rfl|rfl<;>rfl
     case d4=>unfold maxLen;omega
     case d5=>omega
     case d6=>simp;omega
     intro v4 w4 zE zP xN zK;obtain⟨g4,c4,rfl,vA,vC⟩:=Cp zE (fun e=>by subst e;rcases zE.2 with⟨_,hn⟩|⟨_,_,_,e,_⟩<;>first|omega|cases e);obtain⟨i1,i2,Z,i4,i5,i6,i7,i8⟩:=HI.o;have nf:=Mr i8;have z1:=zG.o;have z2:=yA.o;have z3:=yM.o;have zW:=zC.o;have H:∀b,b<w3.heap.size->b≠t.heap.size->(Value.slice ta k tc).ownBlock≠some b->w4.heap[b]?=w3.heap[b]?:=fun b V zA C=>by rw[zP.block b (by simp;omega) (fun e=>C e.symm),Below.heap_alloc _ _ _ (by simp;omega),Below.heap_setCell _ _ _ _ (by simpa using zA)]
     have S4:=Aa.same yY.o (H A (by omega) yI (fun e=>nf.1 _ e rfl));obtain⟨_,vI⟩:=S4 4 _ rfl;obtain⟨vM,_⟩:=S4 4 _ rfl;have vD:g4≠A:=by
      rcases zK with ha|ha
      ·exact nf.1 g4 ha.symm
      ·simp[Value.ownBlock]at ha;omega
     have HF:=Yx (Zn S4 (Zn H (Zn zE (Zn zK zP))));clear S4 H zE zK zP i1 i2 Z i4 i5 i6 i7 i8 nf z1 z2 z3 zW s4 f4 k0 k1 k2 k3 g3 xN;go_wp2;obtain⟨S4,H,zE,zK,zP⟩:=HF.o;obtain⟨i1,i2,Z,i4,i5,i6,i7,i8⟩:=HI.o;have nf:=Mr i8;have z1:=zG.o;have z2:=yA.o;have z3:=yM.o;have zW:=zC.o
     have hY:∀b,b<w3.heap.size->b≠t.heap.size->b≠A->(Value.slice ta k tc).ownBlock≠some b->(w4.setCell (Ze A 4) (Za g4 (k+1) c4)).heap[b]?=w3.heap[b]?:=fun b h1 h2 h3 h4=>(Below.heap_setCell _ _ _ _ (by simpa using h3)).trans (H b h1 h2 h4)
     have zU:∀b,b<wr.heap.size->b≠A->(Value.slice ta k tc).ownBlock≠some b->(w4.setCell (Ze A 4) (Za g4 (k+1) c4)).heap[b]?=wr.heap[b]?:=fun b h1 h3 h4=>(hY b (by omega) (by omega) h3 h4).trans (zR.o.block b h1);have yS:∀r∈rs,∀g,r.ownBlock=some g->g<wr.heap.size:=by
      intro r J g a;obtain⟨i,hi⟩:=List.getElem?_of_mem J;have xM:i<k:=by have:=(Zw hi).1;omega
      exact(Ac (i5 i _ r (by rw[List.getElem?_take_of_lt xM];exact Zv (by omega)) hi) a).2
     refine⟨⟨k+1,Za g4 (k+1) c4,rs++[.slice a3 x.refs.length c3],by omega,by go_num,⟨Aa.set S4 4 _,?_,?_,?_,?_,?_,?_,?_⟩,?_⟩,by simp[intOf];omega⟩
     ·exact Aa.same i2 (zU w.heap.size (by omega) (by omega) (fun e=>by have:=(zH _ e).1;omega))
     ·rw[HX.o,List.zip_append (by rw[i4,List.length_take];omega),Bt];exact Bv zE (fun g a=>by simp[Value.ownBlock]at a;omega) 4 _
     ·simp[i4]
     ·intro i y r hy J;rw[HX.o]at hy;have yH:(c.take k).length=k:=by rw[List.length_take];omega
      rcases Nat.lt_or_ge i k with h|h
      ·rw[List.getElem?_append_left (by omega)]at hy J;refine Ak (i5 i y r hy J) (fun g a=> ?_);have:=nf.2.2.2 g (List.mem_filterMap.2 ⟨r,Zs J,a⟩);exact zU g (yS r (Zs J) g a) this.1 this.2
      ·have xL:i=k:=by have:=(Zw J).1;simp at this;omega
       subst xL;rw[List.getElem?_append_right (by omega),yH,Nat.sub_self]at hy;rw[List.getElem?_append_right (by omega),i4,Nat.sub_self]at J;simp at hy J;subst hy;subst J;refine Ak (World.ownsRow.mono yW.o (by omega)) (fun g a=> ?_);have:=yC g a;exact hY g this.2 (by omega) (by omega) (fun e=>by have:=(zH g e).2;omega)
     ·exact Ak i6 (fun g a=>zU g (Ac i6 a).2 (nf.2.1 g a).1 (nf.2.1 g a).2)
     ·exact Ak i7 (fun g a=>zU g (Ac i7 a).2 (nf.2.2.1 g a).1 (nf.2.2.1 g a).2)
     ·unfold Bk;rw[List.filterMap_append];have xJ:List.filterMap Value.ownBlock [.slice a3 x.refs.length c3]=(Value.slice a3 x.refs.length c3).ownBlock.toList:=by cases h:(Value.slice a3 x.refs.length c3).ownBlock<;>simp[h]
      rw[xJ];refine Wb (n:=wr.heap.size) i8 ?_ (fun g a=>by have:=(yC g a).1;omega) ?_
      ·intro b V;simp only[List.mem_cons,List.mem_append,Option.mem_toList,List.mem_filterMap]at V;rcases V with rfl|V|V|V|⟨r,J,V⟩
       ·exact xS
       ·exact(zH _ V).2
       ·exact(Ac i6 V).2
       ·exact(Ac i7 V).2
       ·exact yS r J b V
      ·rcases zK with ha|ha
       ·exact .inl ha
       ·refine .inr ⟨w3.heap.size+1,by simpa using ha,by omega,fun g a=>by have:=(yC g a).2;omega⟩
     ·have hq:Below w.heap.size w w3:=D.trans (zR.o.mono yF);exact(((hq.setCell (by simp;omega) _).alloc (by simp;omega) _).grown zP (by simp;omega) (fun g a=>by have:=(zH g a).1;omega)).setCell (by simp;omega) _
   ·obtain rfl:k=c.length:=by omega
    obtain⟨i1,i2,Z,i4,i5,i6,i7,i8⟩:=HI.o;have zW:=zC.o;obtain⟨⟨y0,q0⟩,⟨y1,q1⟩,⟨y2,q2⟩,⟨y3,q3⟩,⟨y4,q4⟩,⟨y5,q5⟩,y6,q6⟩:=Qz i2;obtain⟨ta,tc,rfl⟩:=Ar Z;obtain⟨x0,x1,x2,x3,x4,x5,x6⟩:=Aa.c7 i1 0 1 2 3 4 5 6;have vF:¬A=w.heap.size:=by omega
    have yT:¬w.heap.size=A:=by omega
    have zB:=Yx (Zn i2 (Zn Z (Zn i4 (Zn i5 (Zn i6 (Zn i7 i8))))));clear i1 i2 Z i4 i5 i6 i7 i8 zW;go_wp2;have zW:=zC.o
    have zV:∀{e:TypeId} {size:Nat} {v:Value} {n:Nat} {xs:Zj},wr.ownsRow W.heap.size e size v n xs->(((((((wr.setCell (Ze (w.heap.size) 0) (Zg wd)).setCell (Ze (w.heap.size) 1) (Zg R)).setCell (Ze (w.heap.size) 2) (Zg given)).setCell (Ze (w.heap.size) 3) (Zg ae)).setCell (Ze (w.heap.size) 4) (.slice ta c.length tc)).setCell (Ze (w.heap.size) 5) (.slice E s.length F)).setCell (Ze (w.heap.size) 6) (.slice z q.length c2)).ownsRow w.heap.size e size v n xs:=fun h=>World.ownsRow.mono (GW h (fun g a=>by have:=(Ac h a).1;omega) _ _ _ _ _ _ _) (by omega)
    have yQ:c.take c.length=c:=Zt (Zx);refine bodyPost_ret (v:=.agg (Ys wd R given ae ta c.length tc E s.length F z q.length c2)) (by simp[results,results101,go_sem,y0,y1,y2,y3,y4,y5,y6]) rfl ⟨_,_,_,rs,rfl,⟨zB.o.2.2.1,?_,?_,zV zB.o.2.2.2.2.1,zV zB.o.2.2.2.2.2.1,?_⟩,Fy D (Zx) _ _ _ _ _ _ _⟩
    ·have:=zB.o.2.1;rw[yQ]at this;exact zV this
    ·intro i y r hy J;exact zV (zB.o.2.2.2.1 i y r (by rw[yQ];exact hy) J)
    ·rw[Fp];exact(List.nodup_cons.1 zB.o.2.2.2.2.2.2).2
theorem YY{c:Zl}(h:∀(j:Nat) p q,c[j]?=some p->c[j+1]?=some q->less p q=true):c.Pairwise (fun a b=>less a b=true):=by
 have k:∀(d i:Nat) u v,c[i]?=some u->c[i+d+1]?=some v->less u v=true:=by
  intro d;induction d with
  |zero=>intro i u v f e;exact h i u v f e
  |succ d ih=>intro i u v f e;have o:=(Zw e).1;have g:c[i+d+1]?=some c[i+d+1]:=Zv (by omega);exact CD (ih i u _ f g) (h _ _ _ g (by rw[show i+d+1+1=i+(d+1)+1 by omega];exact e))
 rw[List.pairwise_iff_getElem];intro i j l m n;exact k (j -i -1) i _ _ (Zv l) (by rw[show i+(j -i -1)+1=j by omega];exact Zv m)
theorem OZ{d:Zl}(h:d.Pairwise (fun a b=>less a b=true)):d.Nodup:=by refine List.Pairwise.imp ?_ h;intro a b c e;rw[e,Cr]at c;cases c
theorem Se{g:Int}{d:Zl}(h:DB g d=true):d.Pairwise (fun a b=>less a b=true):=by refine YY (fun j p q f c=> ?_);have e:=(Zw c).1;unfold DB at h;rw[List.all_eq_true]at h;have:=h (j+1) (by simpa using e);rw[DT c f]at this;simp at this;exact this.2
section
attribute [local go_sem↓] Go.wp_at_zero Go.wp_at_succ
end
end Go.Proofs.YtckmnfhmoankmaaGreatDoor
