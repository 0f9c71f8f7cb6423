import Derived.Test.YtcfjcdpkpiidkaaGreatX01
import Derived.Maps.AppendAt
import Derived.Maps.Range
import Derived.Maps.OwnSet
import Derived.DeepKeys5
import Derived.Deep.Upon
import Derived.Deep.DrawnRows
import Derived.Deep.RegionHeld3
import Derived.WideKeyEntry
import Derived.Maps.Views
import Derived.Deep.RegionLaw
set_option maxRecDepth 100000
set_option maxHeartbeats 16000000
namespace Go.Proofs.YtcfjcdpkpiidkaaGreat
open ChangeShapes WideShapes ChangeAt RowKit _root_.Go.Proofs.Tryz
variable{a now:Int}{b B c n i off cap h clock base:Nat}{w f d W wr:Zh}{v j val z u r:Value}{l k m:Zj}{g:Lit}{T U t e K:TypeId}{V:List Nat}{s:Zi}{P:Program}{o:Oper}{p:Zk}{ks:List Kd}{A:Type}
theorem WL{a:Nat}(h:b<a):some a≠some b:=fun e=>by have:=Option.some.inj e;omega
theorem AY(w:Zh)(g p:Nat)(v:Value):w.grownBy (w.setCell (Zd g p) v) (some g):=
 ⟨rfl,rfl,rfl,Yu,fun i _ a=>Below.heap_setCell _ _ _ _ (fun e=>a (by rw[e]))⟩
def Aa(w:Zh)(B:Nat)(l:Zj):Prop:=∀j v,l[j]?=some v->w.cell? (Zd B j)=some v/\w.frozen? ⟨B,j,none⟩=false
theorem Aa.lt(h:Aa w B (v::l)):B<w.heap.size:=World.block_lt_of_cell? w _ (h 0 v rfl).1
theorem Aa.gm(h:Aa w B (v::l))(c:w.grownBy f (some b))(a:b<B):Aa f B (v::l):=by intro j x e;have d:=h.lt;exact⟨(c.cell_far ⟨B,j,none⟩ d (WL a)).trans (h j x e).1,(c.frozen_far ⟨B,j,none⟩ d (WL a)).trans (h j x e).2⟩
theorem Aa.below(h:Aa w B (v::l))(a:Zz w d):Aa d B (v::l):=by intro j x c;have b:=h.lt;exact⟨(a.cell (p:=⟨B,j,none⟩) b).trans (h j x c).1,(a.frozen (p:=⟨B,j,none⟩) b).trans (h j x c).2⟩
theorem Aa.new(w:Zh)(l:Zj)(T:TypeId):Aa (w.alloc (.cells l.toArray T)) w.heap.size l:=by intro j v a;refine⟨?_,Yu⟩;rw[World.cell?_alloc_at _ _ _ _ rfl];simpa using a
theorem Aa.au{g:Zh}(h:Aa w B (v::l))(a:w.grownBy g (some c))(i:c≠B):Aa g B (v::l):=by intro j x f;have b:=h.lt;have d:some B≠some c:=fun e=>i (Option.some.inj e).symm;exact⟨(a.cell_far ⟨B,j,none⟩ b d).trans (h j x f).1,(a.frozen_far ⟨B,j,none⟩ b d).trans (h j x f).2⟩
theorem Aa.set(h:Aa w B l)(j:Nat)(v:Value):Aa (w.setCell (Zd B j) v) B (l.set j v):=by
 intro i x a;by_cases hij:i=j
 .subst hij;have b:i<l.length:=by
   rcases Nat.lt_or_ge i l.length with c|c
   .exact c
   .rw[List.getElem?_eq_none (by simpa using c)]at a;cases a
  rw[List.getElem?_set_self b]at a;injection a with a;subst a;obtain⟨d,f⟩:=h i _ (Zv b);exact⟨by simp[go_sem,d],by simpa [go_sem]using f⟩
 .rw[List.getElem?_set_ne (fun e=>hij e.symm)]at a;obtain⟨d,f⟩:=h i x a;refine⟨?_,by simpa [go_sem]using f⟩;rw[World.cell?_setCell_other _ _ _ _ (by intro e;injection e;omega)];exact d
theorem AL(h:W=w.alloc (.cells l.toArray T)):Below w.heap.size w W/\W.heap.size=w.heap.size+1/\Aa W w.heap.size l:=by subst h;exact⟨Zy,Yu,Aa.new w l T⟩
theorem Aa.alloc(h:Aa w B l)(a:B<w.heap.size)(o:Obj):Aa (w.alloc o) B l:=fun j v b=>
 ⟨(((Below.refl w.heap.size w).alloc (Zx) o).cell (p:=⟨B,j,none⟩) a).trans (h j v b).1,(((Below.refl w.heap.size w).alloc (Zx) o).frozen (p:=⟨B,j,none⟩) a).trans (h j v b).2⟩
theorem Bf(h:W=(w.alloc (.cells l.toArray T)).alloc (.cells k.toArray U)):Below w.heap.size w W/\W.heap.size=w.heap.size+2/\Aa W w.heap.size l/\Aa W (w.heap.size+1) k:=by obtain⟨a,d,e⟩:=AL (w:=w) (l:=l) (T:=T) rfl;obtain⟨f,b,c⟩:=AL h;rw[d]at b c;subst h;exact⟨a.trans (f.mono a.size),b,e.alloc Yv _,c⟩
theorem Cv{V:TypeId}(h:W=((w.alloc (.cells l.toArray T)).alloc (.cells k.toArray U)).alloc (.cells m.toArray V)):Below w.heap.size w W/\W.heap.size=w.heap.size+3/\Aa W w.heap.size l/\Aa W (w.heap.size+1) k/\Aa W (w.heap.size+2) m:=by obtain⟨a,d,e,f⟩:=Bf (w:=w) (l:=l) (T:=T) (k:=k) (U:=U) rfl;obtain⟨g,b,c⟩:=AL h;rw[d]at b c;subst h;exact⟨a.trans (g.mono a.size),b,e.alloc Yv _,f.alloc Yv _,c⟩
theorem VD{n:Zj}{V R:TypeId}(h:W=(((w.alloc (.cells l.toArray T)).alloc (.cells k.toArray U)).alloc (.cells m.toArray V)).alloc (.cells n.toArray R)):Below w.heap.size w W/\W.heap.size=w.heap.size+4/\Aa W w.heap.size l/\Aa W (w.heap.size+1) k/\Aa W (w.heap.size+2) m/\Aa W (w.heap.size+3) n:=by obtain⟨a,d,e,f,g⟩:=Cv (w:=w) (l:=l) (T:=T) (k:=k) (U:=U) (m:=m) (V:=V) rfl;obtain⟨i,b,c⟩:=AL h;rw[d]at b c;subst h;exact⟨a.trans (i.mono a.size),b,e.alloc Yv _,f.alloc Yv _,g.alloc Yv _,c⟩
theorem Aa.c2{t:Zj}{a b:Value}(h:Aa w B t)(i j:Nat)(c:t[i]?=some a:=by rfl)(d:t[j]?=some b:=by rfl):w.cell? (Zd B i)=some a/\w.cell? (Zd B j)=some b:=
 ⟨(h i _ c).1,(h j _ d).1⟩
theorem Aa.c3{t:Zj}{a b c:Value}(h:Aa w B t)(i j k:Nat)(d:t[i]?=some a:=by rfl)(e:t[j]?=some b:=by rfl)(f:t[k]?=some c:=by rfl):w.cell? (Zd B i)=some a/\w.cell? (Zd B j)=some b/\w.cell? (Zd B k)=some c:=
 ⟨(h i _ d).1,(h j _ e).1,(h k _ f).1⟩
theorem Aa.c4{t:Zj}{a b c d:Value}(h:Aa w B t)(i j k l:Nat)(e:t[i]?=some a:=by rfl)(f:t[j]?=some b:=by rfl)(g:t[k]?=some c:=by rfl)(m:t[l]?=some d:=by rfl):w.cell? (Zd B i)=some a/\w.cell? (Zd B j)=some b/\w.cell? (Zd B k)=some c/\w.cell? (Zd B l)=some d:=
 ⟨(h i _ e).1,(h j _ f).1,(h k _ g).1,(h l _ m).1⟩
theorem Aa.c6{t:Zj}{a b c d e f:Value}(h:Aa w B t)(i j k l m n:Nat)(g:t[i]?=some a:=by rfl)(o:t[j]?=some b:=by rfl)(q:t[k]?=some c:=by rfl)(r:t[l]?=some d:=by rfl)(s:t[m]?=some e:=by rfl)(u:t[n]?=some f:=by rfl):w.cell? (Zd B i)=some a/\w.cell? (Zd B j)=some b/\w.cell? (Zd B k)=some c/\w.cell? (Zd B l)=some d/\w.cell? (Zd B m)=some e/\w.cell? (Zd B n)=some f:=
 ⟨(h i _ g).1,(h j _ o).1,(h k _ q).1,(h l _ r).1,(h m _ s).1,(h n _ u).1⟩
theorem Aa.c7{t:Zj}{a b c d e f g:Value}(h:Aa w B t)(i j k l m n o:Nat)(q:t[i]?=some a:=by rfl)(r:t[j]?=some b:=by rfl)(s:t[k]?=some c:=by rfl)(u:t[l]?=some d:=by rfl)(v:t[m]?=some e:=by rfl)(x:t[n]?=some f:=by rfl)(y:t[o]?=some g:=by rfl):w.cell? (Zd B i)=some a/\w.cell? (Zd B j)=some b/\w.cell? (Zd B k)=some c/\w.cell? (Zd B l)=some d/\w.cell? (Zd B m)=some e/\w.cell? (Zd B n)=some f/\w.cell? (Zd B o)=some g:=
 ⟨(h i _ q).1,(h j _ r).1,(h k _ s).1,(h l _ u).1,(h m _ v).1,(h n _ x).1,(h o _ y).1⟩
section
def kB(s:Zi)(i:Nat):Int:=((s.data.toList[i]?).getD 0).toNat
def Cu(s:Zi):Array Value:= #[.int .u8 (kB s 0),.int .u8 (kB s 1),.int .u8 (kB s 2),.int .u8 (kB s 3),.int .u8 (kB s 4),.int .u8 (kB s 5),.int .u8 (kB s 6),.int .u8 (kB s 7)]
def Cj:Array Value:= #[.int .u8 0,.int .u8 0,.int .u8 0,.int .u8 0,.int .u8 0,.int .u8 0,.int .u8 0,.int .u8 0]
def LS(s:Zi):Zj:=List.take (Nat.min s.size 8) (List.map (fun b=>Value.int .u8 b.toNat) s.data.toList)
theorem Bz(s:Zi):s.data.toList.length=s.size:=Yu
theorem Kx(s:Zi):(LS s).length=min s.size 8:=by have:=Bz s;simp only[LS,List.length_take,List.length_map,this];show min (min s.size 8) s.size=_;omega
theorem UJ(s:Zi)(i:Nat)(h:i<min s.size 8):(LS s)[i]?=some (.int .u8 (kB s i)):=by have a:=Bz s;unfold LS kB;rw[List.getElem?_take_of_lt (by show i<min s.size 8;exact h),List.getElem?_map,Zv Yv];simp
theorem UK(s:Zi):(Cj.toList.take (0+0)++LS s++Cj.toList.drop (0+0+(LS s).length)).toArray=Cu s:=by
 apply Array.ext';apply List.ext_getElem?;intro i;have c:=Kx s;simp only[Nat.add_zero,List.take_zero,List.nil_append,Nat.zero_add];by_cases h:i<min s.size 8
 .rw[List.getElem?_append_left Yv,UJ s i h];have b:i<8:=Yv
  match i,b with
  |0,_|1,_|2,_|3,_|4,_|5,_|6,_|7,_=>rfl
 .rw[List.getElem?_append_right Yv,c,List.getElem?_drop,show min s.size 8+(i -min s.size 8)=i from by omega];by_cases b:i<8
  .have a:kB s i=0:=by have d:=Bz s;unfold kB;rw[List.getElem?_eq_none Yv];rfl
   match i,b,a with
   |0,_,a|1,_,a|2,_,a|3,_,a|4,_,a|5,_,a|6,_,a|7,_,a=>simp[Cj,Cu,a]
  .rw[List.getElem?_eq_none (by simp[Cj];omega),List.getElem?_eq_none (by simp[Cu];omega)]
theorem MY(w:Zh)(a b:Array Value)(t:TypeId):(w.alloc (.cells a t)).setRow w.heap.size b=w.alloc (.cells b t):=by
 unfold World.setRow World.alloc;congr 1;apply Array.ext
 .simp
 .intro i d c;simp only[Array.getElem_modify,Array.getElem_push];split
  .rename_i h
   subst h;simp
  .rename_i h
   simp at c;rw[dif_pos Yv,dif_pos Yv]
theorem MZ(w:Zh)(s:Zi)(d:TypeId):
 (Builtin.copy_ #[22,9] d #[Yz w.heap.size 8 8,.string s]).run prog (w.alloc (.cells Cj 94))=.ok (goInt (Nat.min s.size 8)) (w.alloc (.cells (Cu s) 94)):=by
 obtain⟨h,c,e,f,g⟩:=info_parts LK;have a:=run_storeCells_at (P:=prog) w.heap.size 0 94 (LS s) 0 Cj (w.alloc (.cells Cj 94)) (heap_alloc_new w _) (by rw[Kx];simp[Cj];omega) (fun v b=>by
  have b:=List.mem_of_mem_take b;simp only[List.mem_map]at b;obtain⟨_,_,rfl⟩:=b;rfl)
 rw[UK,MY]at a;unfold LS at a;simp[Builtin.copy_,run_underlying underlying22,Builtin.lenOf,Builtin.firstCells,sizeOf,typeInfo,c,a,Result.andThen]
def BX(s:Zi):Value:=.agg (Cu s)
theorem EH(s:Zi)(w:Zh):
 Calls prog 42 #[.string s] w fun e c=>e=.returned (BX s)/\Zz w c:=by
 have b:∀a,(Builtin.copy_ #[22,9] a #[Yz (w.heap.size+1) 8 8,.string s]).run prog ((w.alloc (.cells Cj 94)).alloc (.cells Cj 94))=.ok (goInt (Nat.min s.size 8)) ((w.alloc (.cells Cj 94)).alloc (.cells (Cu s) 94)):=fun a=>by have:=MZ (w.alloc (.cells Cj 94)) s a;rwa[show(w.alloc (.cells Cj 94)).heap.size=w.heap.size+1 from by simp]at this
 unfold Cu Cj at b;go_enter func42,ntmps42;go_wp2;refine bodyPost_ret (v:=BX s) (by simp[results,results42,go_sem,BX,Cu]) rfl ⟨rfl,?_⟩;exact(Zy).alloc Yu _
theorem Ws(s:Zi)(i:Nat):0<=kB s i/\kB s i<256:=by unfold kB;have:=((s.data.toList[i]?).getD 0).toNat_lt;omega
theorem Wt(s:Zi)(i:Nat):(Lit.int .u8 (kB s i)).wf=true:=by
 have:=Ws s i;have a:IntKind.u8.min=0:=Yq
 have b:IntKind.u8.max=255:=Yq
 simp only[Lit.wf,a,b,Bool.and_eq_true,decide_eq_true_eq];omega
theorem VE:prog.keyType 94=true:=Yr
theorem Uq:prog.cellsOf 94=8:=Yr
theorem Wu:prog.cellsOf 5=1:=Yr
theorem SZ:prog.underlying 94=some (.array 8 5):=Yr
theorem VF:∃n,prog.types.size=n+1:=⟨prog.types.size -1,Yr⟩
theorem Na(s:Zi):∃l,keyOf prog 94 (BX s)=some l:=by obtain⟨n,a⟩:=VF;unfold keyOf;rw[SZ,a];simp only[VE,BX,Value.formed,SZ,Uq,Cu];simp[Value.cells,Program.keyLits,Uq,Wu,List.range_succ,Wt]
noncomputable def keyL (s:Zi):Lit:=(Na s).choose
theorem Ct(s:Zi):keyOf prog 94 (BX s)=some (keyL s):=(Na s).choose_spec
theorem Wv:laidOutB prog=true:=Yr
theorem keyed:Maps.Keyed prog 94:=Maps.Keyed.of_law (deep_law_gate Wv (of_decide_eq_true Yr) (of_decide_eq_true Yr) VE (by rw[SZ]))
theorem key_inj{t:Zi}(h:keyL s=keyL t)(r:s.size=t.size)(q:s.size<=8):s=t:=by
 have a:=Ct t;rw[<-h]at a;have d:=keyed.inj (Ct s) a;clear a h;have o:∀i,i<8->kB s i=kB t i:=by
  simp only[BX,Cu,Value.agg.injEq,Array.mk.injEq,List.cons.injEq,Value.int.injEq,true_and,and_true]at d;obtain⟨e,f,g,j,k,l,m,n⟩:=d;intro i b
  match i,b with
  |0,_=>exact e
  |1,_=>exact f
  |2,_=>exact g
  |3,_=>exact j
  |4,_=>exact k
  |5,_=>exact l
  |6,_=>exact m
  |7,_=>exact n
 have u:=Bz s;have v:=Bz t;have c:s.data.toList=t.data.toList:=by
  apply List.ext_getElem?;intro i;by_cases b:i<s.size
  .have:=o i Yv;unfold kB at this;rw[Zv Yv,Zv Yv]at this |-;simp only[Option.getD_some]at this;congr 1;exact UInt8.toNat_inj.1 Yv
  .rw[List.getElem?_eq_none Yv,List.getElem?_eq_none Yv]
 cases s;cases t;simp only[Array.toList_inj]at c;rw[c]
open Classical in
noncomputable def upd (f:Lit->Option Value) (kl:Lit) (v:Value):Lit->Option Value:=fun x=>if x=kl then some v else f x
theorem CW(f:Lit->Option Value)(a:Lit)(v:Value):upd f a v a=some v:=by simp[upd]
theorem Dz(f:Lit->Option Value){a x:Lit}(v:Value)(h:x≠a):upd f a v x=f x:=by simp[upd,h]
def MP(v:Value):Option (DataW Value×List MemPlace):=some (.held v,[])
def Bh(w:Zh)(K:TypeId)(b n:Nat)(f:Lit->Option Value):Prop:=
 ∃D:DataW Value,w.ownsMap prog K MP b n D/\(∀kl z,D.atKey kl (.held z)=.held ((f kl).getD z))/\∀kl,Maps.has D kl=(f kl).isSome
theorem Bh.new(w:Zh)(K:TypeId):Bh (w.alloc (.map #[] 0)) K w.heap.size 0 (fun _=>none):=
 ⟨.map [],World.ownsMap_made _ _ _ _,fun _ _=>rfl,fun _=>rfl⟩
theorem Bh.ah{a:Zh}{f:Lit->Option Value}(h:Bh w K b n f)(j:Below B w a)(i:b<B):Bh a K b n f:=by obtain⟨D,⟨c,clock,d,e⟩,g⟩:=h;exact⟨D,⟨c,clock,(j.block b i).trans d,e⟩,g⟩
theorem Bh.lt{f:Lit->Option Value}(h:Bh w K b n f):b<w.heap.size:=h.choose_spec.1.lt
theorem Bh.put{f:Lit->Option Value}(h:Bh w K b n f)(l:Maps.Keyed prog K)(y:prog.underlying t=some (.map K e))(s:n<maxLen)(a:keyOf prog K j=some g):
 ∃c,(Instr.mapUpdate t (.map (some b)) j val).run prog w=.ok () c/\Bh c K b (n+1) (upd f g val)/\w.grownBy c (some b):=by
 obtain⟨D,k,o,q⟩:=h;obtain⟨c,v,u,r⟩:=k.update l y s a (d:=.held val) (ps:=[]) (val:=val) rfl;have m:=k.isMap;have i:=l.key a;refine⟨c,v,⟨_,u,fun x z=> ?_,fun x=> ?_⟩,r⟩
 .by_cases hx:x=g
  .subst hx;rw[Maps.atKey_put_same m i,CW];rfl
  .rw[Maps.atKey_put_other hx,Dz _ _ hx];exact o x z
 .by_cases hx:x=g
  .subst hx;rw[Maps.has_put_same m i,CW];rfl
  .rw[Maps.has_put_other hx,Dz _ _ hx];exact q x
theorem Bh.look{f:Lit->Option Value}(h:Bh w K b n f)(k:Maps.Keyed prog K)(m:prog.underlying t=some (.map K e))(o:(zeroValue e).run prog w=.ok z w){c:Value}(a:keyOf prog K c=some g):
 (Instr.lookup t (.map (some b)) c false).run prog w=.ok ((f g).getD z) w:=by
 obtain⟨D,i,j,_⟩:=h;obtain⟨v,q,l,d⟩:=i.lookup k m o (zd:=.held z) (zp:=[]) rfl a;rw[j]at d;simp only[MP,Option.some.injEq,Prod.mk.injEq,DataW.held.injEq]at d;rw[l,d.1]
theorem Bh.look_ok{f:Lit->Option Value}(h:Bh w K b n f)(l:Maps.Keyed prog K)(o:prog.underlying t=some (.map K e))(q:(zeroValue e).run prog w=.ok z w){c:Value}(a:keyOf prog K c=some g):
 (Instr.lookup t (.map (some b)) c true).run prog w=.ok (.tuple #[(f g).getD z,.bool (f g).isSome]) w:=by
 obtain⟨D,i,j,k⟩:=h;obtain⟨v,r,m,d⟩:=i.look_ok l o q (zd:=.held z) (zp:=[]) rfl a;rw[j]at d;simp only[MP,Option.some.injEq,Prod.mk.injEq,DataW.held.injEq]at d;rw[m,d.1,k]
end
def Bj(s:Zi):Zj:=(Cu s).toList
theorem PR(s:Zi)(j:Nat)(h:j<8):(Bj s)[j]?=some (.int .u8 (kB s j)):=by
 match j,h with
 |0,_|1,_|2,_|3,_|4,_|5,_|6,_|7,_=>rfl
def Bk(ss:Zl):Zj:=ss.flatMap Bj
theorem EN(a:Zl):(Bk a).length=a.length *8:=by
 induction a with
 |nil=>rfl
 |cons s a ih=>
  have:(Bj s).length=8:=rfl;unfold Bk at *
  rw[List.flatMap_cons,List.length_append,ih,List.length_cons,this];omega
theorem EO{a:Zl}{j:Nat}(h:a[i]?=some s)(c:j<8):(Bk a)[i *8+j]?=some (.int .u8 (kB s j)):=by
 induction a generalizing i with
 |nil=>simp at h
 |cons t a ih=>
  have b:(Bj t).length=8:=rfl;unfold Bk at *
  rw[List.flatMap_cons];cases i with
  |zero=>simp at h;subst h;rw[List.getElem?_append_left Yv,Nat.zero_mul,Nat.zero_add];exact PR t j c
  |succ i=>rw[List.getElem?_append_right Yv,b,show(i+1) *8+j -8=i *8+j by omega];exact ih (by simpa using h)
theorem Ky{a:Zl}{k:Nat}(h:(Bk a)[k]?=some u):∃s,a[k/8]?=some s/\u=.int .u8 (kB s (k%8)):=by
 have c:k<a.length *8:=by rw[<-EN];exact(Zw h).1
 have b:k/8<a.length:=Yv
 refine⟨a[k/8],Zv b,?_⟩;have:=EO (j:=k%8) (Zv b) (Nat.mod_lt _ Yq);rw[show k/8 *8+k%8=k by omega,h]at this;exact Option.some.inj this
theorem Ix(a b:Zl):Bk (a++b)=Bk a++Bk b:=by unfold Bk;rw[List.flatMap_append]
theorem Kz(c:Zl):∀u∈Bk c,u.oneCell'=true:=by intro u b;obtain⟨k,a⟩:=List.getElem?_of_mem b;obtain⟨s,_,rfl⟩:=Ky a;rfl
def R8(w:Zh)(B:Nat)(v:Value)(ss:Zl):Prop:=
 (v=Zb/\ss=[])\/∃g off cap,v=.slice (some ⟨g,off,none⟩) ss.length cap/\g<B/\∀i s,ss[i]?=some s->∀j,j<8->w.cell? (Zd g (off+(i *8+j)))=some (.int .u8 (kB s j))
def Aj:Value->Option Nat
 |.slice (some a) _ _=>some a.block
 |_=>none
theorem R8.cells{g:Nat}{a:Zl}(b:∀i s,a[i]?=some s->∀j,j<8->w.cell? (Zd g (off+(i *8+j)))=some (.int .u8 (kB s j))):∀j u,(Bk a)[j]?=some u->w.cell? ((⟨g,off,none⟩:Addr).add j)=some u:=by intro j u d;obtain⟨s,c,rfl⟩:=Ky d;have:=b _ s c (j%8) (Nat.mod_lt _ Yq);rw[show j/8 *8+j%8=j by omega]at this;rw[Go.WideShapes.add_plain];exact this
theorem Pm:(prog.info? 94).map (fun i=>(i.zero,i.size,i.bytes))=some (some (.agg #[.int .u8 0,.int .u8 0,.int .u8 0,.int .u8 0,.int .u8 0,.int .u8 0,.int .u8 0,.int .u8 0]),8,8):=Yr
theorem Gy(b:Nat):∀(vs:Zj) (o:Nat) (w:Zh),(w.setCells b o vs).heap.size=w.heap.size
 |[],_,_=>rfl
 |_::r,o,w=>by rw[World.setCells,Gy b r];simp
theorem LW(b:Nat):∀(vs:Zj) (o:Nat) (w:Zh),(w.setCells b o vs).tape=w.tape
 |[],_,_=>rfl
 |_::r,o,w=>by rw[World.setCells,LW b r];rfl
theorem JC(b:Nat):∀(vs:Zj) (o:Nat) (w:Zh) (x:Addr),(w.cell? x).isSome=true->((w.setCells b o vs).cell? x).isSome=true
 |[],_,_,_,h=>h
 |v::r,o,w,x,h=>by
  rw[World.setCells];refine JC b r (o+1) _ x ?_;by_cases e:(⟨b,o,none⟩:Addr)=x
  .subst e;obtain⟨u,a⟩:=Option.isSome_iff_exists.1 h;rw[World.cell?_setCell_same _ _ _ a];rfl
  .rw[World.cell?_setCell_other _ _ _ _ e];exact h
theorem wpList_append_run{b:Array Oper}{rest:List Oper}{a:Act}{Q:Exit->Act->Zh->Prop}(f:o.guard=none)(s x:Operand)(t u:TypeId)(i:o.op=.call {callee:=.builtin .append,args:= #[s,x],argTypes:= #[t,u]}){e c:Value}(k:a.eval s=v)(l:a.eval x=e)(j:(Builtin.append_ #[t,u] o.type #[v,e]).run P w=.ok c d)(h:wpList P b Q rest (a.put o.dst c) d):wpList P b Q (o::rest) a w:=by
 refine wpList_plain f fun K g=> ?_;unfold Oper.wp execOp;simp only[i,resolve,invoke,builtin,Sem.run_bind,Sem.run_pure,Result.andThen_ok,List.map_toArray,List.map_cons,List.map_nil,k,l,j];exact g _ _ h
theorem BH{b:Array Oper}{a:Act}{K:Act->Zh->Prop}{Q:Exit->Act->Zh->Prop}{E:Prop}(f:o.guard=none)(s x:Operand)(t u:TypeId)(g:o.op=.call {callee:=.builtin .append,args:= #[s,x],argTypes:= #[t,u]}){e c:Value}(j:a.eval s=v)(l:a.eval x=e)(i:(Builtin.append_ #[t,u] o.type #[v,e]).run P w=.ok c d)(h:K (a.put o.dst c) d):
 if Region.wanted o (yielded b a.tmps)=true then Oper.wp P o a w K Q else E:=by
 have k:Region.wanted o (yielded b a.tmps)=true:=by simp[Region.wanted,f]
 rw[if_pos k];unfold Oper.wp execOp;simp only[g,resolve,invoke,builtin,Sem.run_bind,Sem.run_pure,Result.andThen_ok,List.map_toArray,List.map_cons,List.map_nil,j,l,i];exact h
structure Ez (ks:List Kd):Prop where
 len:ks.length<=maxLen
 sum:∀k∈ks,k.sum.size<=maxLen
 F:∀k∈ks,k.F.size<=maxLen
 B:∀k∈ks,k.B.length<=maxLen
 ref:∀k∈ks,∀s∈k.B,s.size<=maxLen
structure Gc (ps:List Pd):Prop where
 len:ps.length<=maxLen
 name:∀p∈ps,p.name.size<=maxLen
 sum:∀p∈ps,p.sum.size<=maxLen
structure JV (ls:List Ld):Prop where
 len:ls.length<=maxLen
 sum:∀l∈ls,l.sum.size<=maxLen
def Aq(w:Zh)(b:Nat)(wd now given births:Int)(T P L:Value):Prop:=
 w.cell? (Zd b 0)=some (Zg wd)/\w.cell? (Zd b 1)=some (Zg now)/\w.cell? (Zd b 2)=some (Zg given)/\w.cell? (Zd b 3)=some (Zg births)/\
  w.cell? (Zd b 4)=some T/\w.cell? (Zd b 5)=some P/\w.cell? (Zd b 6)=some L/\b<w.heap.size
theorem Aq.new(w:Zh)(c now b a:Int)(T P L:Value)(t:TypeId):Aq (w.alloc (.cells #[Zg c,Zg now,Zg b,Zg a,T,P,L] t)) w.heap.size c now b a T P L:=
 ⟨Yu,Yu,Yu,Yu,Yu,Yu,Yu,Yu⟩
theorem Aq.ah{g c:Int}{T P L:Value}(h:Aq w b g now c a T P L)(d:Below B w f)(e:b<B):Aq f b g now c a T P L:=by
 obtain⟨i,j,k,l,m,n,o,q⟩:=h;exact⟨(d.cell (p:=⟨b,0,none⟩) e).trans i,(d.cell (p:=⟨b,1,none⟩) e).trans j,(d.cell (p:=⟨b,2,none⟩) e).trans k,(d.cell (p:=⟨b,3,none⟩) e).trans l,
  (d.cell (p:=⟨b,4,none⟩) e).trans m,(d.cell (p:=⟨b,5,none⟩) e).trans n,(d.cell (p:=⟨b,6,none⟩) e).trans o,Zr q d.size⟩
theorem Aq.below{e c:Int}{T P L:Value}(h:Aq w b e now c a T P L)(f:Zz w d):Aq d b e now c a T P L:=h.ah f h.2.2.2.2.2.2.2
structure AW (w:Zh) (B:Nat) (a p l:Zk) (ks:List Kd) (ps:List Pd) (ls:List Ld):Prop where
 k:AQ w B a ks
 p:AM w B p ps
 l:AN w B l ls
theorem AW.L{c:Zh}{a l:Zk}{e:List Pd}{d:List Ld}(h:AW w w.heap.size a p l ks e d)(b:Zz w c):AW c c.heap.size a p l ks e d:=
 ⟨(h.k.below b).mono b.size,(h.p.below b).mono b.size,(h.l.below b).mono b.size⟩
theorem AW.ah{e:Zh}{a l:Zk}{d:List Pd}{c:List Ld}(h:AW w B a p l ks d c)(b:Below B w e):AW e B a p l ks d c:=
 ⟨h.k.below b,h.p.below b,h.l.below b⟩
theorem AW.mono{a l:Zk}{e:List Pd}{d:List Ld}(h:AW w B a p l ks e d)(b:B<=c):AW w c a p l ks e d:=
 ⟨h.k.mono b,h.p.mono b,h.l.mono b⟩
structure EZ (ks:List Kd) (ps:List Pd) (ls:List Ld):Prop where
 k:ks.length<=1048576
 r:∀k∈ks,k.B.length<=1048576
 p:ps.length<=1048576
 l:ls.length<=1048576
theorem Gd:(prog.info? 65).map (fun i=>(i.zero,i.size,i.bytes))=some (some (.agg #[Zc,Ze,Zc,Zb]),4,64):=Yr
theorem Jm:(prog.info? 48).map (fun i=>(i.zero,i.size,i.bytes))=some (some (.agg #[Zc,Zc]),2,32):=Yr
theorem Gz:(prog.info? 50).map (fun i=>(i.zero,i.size,i.bytes))=some (some (.agg #[Ze,Zc,Ze]),3,32):=Yr
def Ag{A:Type}(c:A->Zj)(xs:List A):Zj:=xs.flatMap c
theorem Dl{c:A->Zj}(h:∀x,(c x).length=n)(a:List A):(Ag c a).length=a.length *n:=by
 unfold Ag;induction a with
 |nil=>simp
 |cons x a ih=>rw[List.flatMap_cons,List.length_append,ih,h,List.length_cons,Nat.add_mul];omega
theorem CS(c:A->Zj)(a b:List A):Ag c (a++b)=Ag c a++Ag c b:=by unfold Ag;rw[List.flatMap_append]
theorem BZ{c:A->Zj}(h:∀x,(c x).length=n):∀{xs:List A} {i j:Nat} {x:A},xs[i]?=some x->j<n->(Ag c xs)[i *n+j]?=(c x)[j]?
 |[],_,_,_,hx,_=>by simp at hx
 |y::ys,0,j,x,hx,hj=>by simp at hx;subst hx;show(y::ys|>.flatMap c)[_]?=_;rw[List.flatMap_cons,Nat.zero_mul,Nat.zero_add,List.getElem?_append_left (by rw[h];exact hj)]
 |y::ys,i+1,j,x,hx,hj=>by
  have a:ys[i]?=some x:=by simpa using hx
  show(y::ys|>.flatMap c)[_]?=_;rw[List.flatMap_cons,List.getElem?_append_right (by rw[h,Nat.add_mul];omega),h,show(i+1) *n+j -n=i *n+j by rw[Nat.add_mul];omega];exact BZ h a hj
theorem Pn{c:A->Zj}(h:∀x,(c x).length=n)(f:0<n){a:List A}{k:Nat}(d:(Ag c a)[k]?=some u):∃x,a[k/n]?=some x/\(c x)[k%n]?=some u:=by have e:=(Zw d).1;rw[Dl h]at e;have b:=Nat.div_lt_of_lt_mul (by rw[Nat.mul_comm];exact e);refine⟨a[k/n],Zv b,?_⟩;have:=BZ h (Zv b) (Nat.mod_lt k f);rw[show k/n *n+k%n=k by rw[Nat.mul_comm];exact Nat.div_add_mod k n]at this;rw[<-this];exact d
theorem Ta{c:A->Zj}(h:∀x,(c x).length=n)(a:List A)(i:Nat)(e:i<=a.length):(Ag c a).take (i *n)=Ag c (a.take i):=by
 have b:Ag c a=Ag c (a.take i)++Ag c (a.drop i):=by rw[<-CS,List.take_append_drop]
 have d:(Ag c (a.take i)).length=i *n:=by rw[Dl h,List.length_take,Nat.min_eq_left e]
 rw[b,<-d,List.take_left]
theorem Nb{c:A->Zj}(h:∀x,(c x).length=n)(a:List A)(i:Nat)(e:i<=a.length):(Ag c a).drop (i *n)=Ag c (a.drop i):=by
 have b:Ag c a=Ag c (a.take i)++Ag c (a.drop i):=by rw[<-CS,List.take_append_drop]
 have d:(Ag c (a.take i)).length=i *n:=by rw[Dl h,List.length_take,Nat.min_eq_left e]
 rw[b,<-d,List.drop_left]
def pC(p:Pd):Zj:=[.string p.name,.string p.sum]
def lC(l:Ld):Zj:=[Zg l.I,.string l.sum,Zg l.Y]
theorem Ha(p:Pd):(pC p).length=2:=rfl
theorem Ge(l:Ld):(lC l).length=3:=rfl
theorem Rk(s:Zi):(Bj s).length=8:=rfl
theorem Fl(a:Zl):Bk a=Ag Bj a:=rfl
theorem VG(c:List Pd):∀u∈Ag pC c,u.oneCell'=true:=by intro u b;obtain⟨p,_,a⟩:=List.mem_flatMap.1 b;simp[pC]at a;rcases a with rfl|rfl<;>rfl
theorem VH(c:List Ld):∀u∈Ag lC c,u.oneCell'=true:=by intro u b;obtain⟨p,_,a⟩:=List.mem_flatMap.1 b;simp[lC]at a;rcases a with rfl|rfl|rfl<;>rfl
theorem Bq{a:Nat}{size:Nat}{f:Zj}(h:w.ownsRow a e size v n f)(d:v≠Zb):∃g cap,v=Yz g n cap/\a<=g/\g<w.heap.size:=by
 rcases h.2 with⟨e,_⟩|⟨g,cap,i,rfl,b,c,_⟩
 .exact absurd e d
 .exact⟨g,cap,rfl,b,(Array.getElem?_eq_some_iff.1 c).1⟩
theorem AM.cf{e:List Pd}(h:AM w B (some ⟨b,off,none⟩) e):∀j u,(Ag pC e)[j]?=some u->w.cell? ((⟨b,off,none⟩:Addr).add j)=some u:=by
 intro j u k;obtain⟨p,c,a⟩:=Pn Ha Yq k;rcases h with h|⟨n,f,g,_,i⟩
 .subst h;simp at c
 .cases g;obtain⟨l,m⟩:=i _ p c;rw[Go.WideShapes.add_plain];have o:=Nat.mod_lt j (show 0<2 by decide);rcases(show j%2=0\/j%2=1 by omega)with d|d<;>rw[d]at a<;>simp[pC]at a<;>subst a
  .rw[show off+j=off+j/2 *2 by omega];exact l
  .rw[show off+j=off+j/2 *2+1 by omega];exact m
theorem AN.cf{e:List Ld}(h:AN w B (some ⟨b,off,none⟩) e):∀j u,(Ag lC e)[j]?=some u->w.cell? ((⟨b,off,none⟩:Addr).add j)=some u:=by
 intro j u k;obtain⟨p,d,c⟩:=Pn Ge Yq k;rcases h with h|⟨o,f,g,_,i⟩
 .subst h;simp at d
 .cases g;obtain⟨l,m,n⟩:=i _ p d;rw[Go.WideShapes.add_plain];have q:=Nat.mod_lt j (show 0<3 by decide);rcases(show j%3=0\/j%3=1\/j%3=2 by omega)with a|a|a<;>rw[a]at c<;>simp[lC]at c<;>subst c
  .rw[show off+j=off+j/3 *3 by omega];exact l
  .rw[show off+j=off+j/3 *3+1 by omega];exact m
  .rw[show off+j=off+j/3 *3+2 by omega];exact n
theorem AM.own{a:Zk}{b:List Pd}(h:w.ownsRow c 48 2 (.slice a b.length cap) b.length (Ag pC b)):AM w w.heap.size a b:=by
 rcases h.2 with⟨e,m⟩|⟨g,f,n,l,o,q,_⟩
 .exact .inl (List.length_eq_zero_iff.1 m)
 .cases l;refine .inr ⟨g,0,rfl,(h.lt g rfl).2,fun i x d=> ?_⟩;have r:=(Zw d).1;have j:=BZ Ha d (show 0<2 by decide);have k:=BZ Ha d (show 1<2 by decide);rw[Nat.zero_add];exact⟨(h.cellAt _ Yv).trans j,(h.cellAt _ Yv).trans k⟩
theorem AN.own{d:Nat}{a:Zk}{c:List Ld}(h:w.ownsRow d 50 3 (.slice a c.length cap) c.length (Ag lC c)):AN w w.heap.size a c:=by
 rcases h.2 with⟨e,n⟩|⟨g,f,o,m,q,r,_⟩
 .exact .inl (List.length_eq_zero_iff.1 n)
 .cases m;refine .inr ⟨g,0,rfl,(h.lt g rfl).2,fun i x b=> ?_⟩;have s:=(Zw b).1;have j:=BZ Ge b (show 0<3 by decide);have k:=BZ Ge b (show 1<3 by decide);have l:=BZ Ge b (show 2<3 by decide);rw[Nat.zero_add];exact⟨(h.cellAt _ Yv).trans j,(h.cellAt _ Yv).trans k,(h.cellAt _ Yv).trans l⟩
theorem AM.dj{a:Addr}{c:List Pd}(h:AM w B (some a) c):∀j u,(Ag pC c)[j]?=some u->w.cell? (a.add j)=some u:=by
 rcases h with rfl|⟨b,off,d,e,f⟩
 .intro j u g;simp[Ag]at g
 .cases d;exact AM.cf (.inr ⟨b,off,rfl,e,f⟩)
theorem AN.dj{a:Addr}{c:List Ld}(h:AN w B (some a) c):∀j u,(Ag lC c)[j]?=some u->w.cell? (a.add j)=some u:=by
 rcases h with rfl|⟨b,off,d,e,f⟩
 .intro j u g;simp[Ag]at g
 .cases d;exact AN.cf (.inr ⟨b,off,rfl,e,f⟩)
theorem Ab.dj{d:Addr}{c:Zl}(h:Ab w B (some d) c):∀j u,(c.map Value.string)[j]?=some u->w.cell? (d.add j)=some u:=by
 rcases h with rfl|⟨b,off,e,g,f⟩
 .intro j u a;simp at a
 .cases e;intro j u a;rw[List.getElem?_map]at a;cases hs:c[j]? with
  |none=>rw[hs]at a;cases a
  |some s=>rw[hs]at a;cases a;rw[Go.WideShapes.add_plain];exact f j s hs
theorem AM.nil{a:List Pd}(h:AM w B none a):a=[]:=by
 rcases h with h|⟨_,_,h,_⟩
 .exact h
 .cases h
theorem AN.nil{a:List Ld}(h:AN w B none a):a=[]:=by
 rcases h with h|⟨_,_,h,_⟩
 .exact h
 .cases h
theorem Ab.nil{a:Zl}(h:Ab w B none a):a=[]:=by
 rcases h with h|⟨_,_,h,_⟩
 .exact h
 .cases h
theorem IH(a:Zk)(cap:Nat)(b:List Pd)(w:Zh)(i:AM w w.heap.size a b)(E:b.length<=1048576):
 Calls prog 40 #[.slice a b.length cap] w fun e q=>∃l n,e=.returned (.slice l b.length n)/\
  q.ownsRow w.heap.size 48 2 (.slice l b.length n) b.length (Ag pC b)/\Zz w q:=by
 rcases a with _|m
 .obtain rfl:=i.nil;have d:∀u:Zh,(binOp .eql 24 (.slice none 0 cap) Zb).run prog u=.ok (.bool true) u:=fun _=>by first|rfl|kernel_rfl
  go_enter func40,ntmps40;go_wp2;go_ret;exact⟨none,0,rfl,⟨rfl,.inl ⟨rfl,rfl⟩⟩,Ad⟩
 obtain⟨A,y,r,s,t⟩:=info_parts Jm;have h:Below w.heap.size w (w.alloc (.cells #[] 48)):=Zy;have d:∀u:Zh,(binOp .eql 24 (.slice (some m) b.length cap) Zb).run prog u=.ok (.bool false) u:=fun _=>by first|rfl|kernel_rfl
 go_enter func40,ntmps40;go_wp2_with (first
  |(at_builtin;refine wpList_append_own _ rfl _ _ 24 rfl w.heap.size 48 A _ 2 32 underlying24 y r s t rfl Yq _ 0 (Ag pC []) rfl ?d0 m b.length cap (Ag pC b) rfl ?d1 ?d2 ?d3 ?d4 ?d5 ?d6 ?_)
  |go_in)
 case d0=>exact World.ownsRow_lit (base:=w.heap.size) (e:=48) (size:=2) w #[] 0 (Zx) Yo rfl
 case d1=>exact Dl Ha b
 case d2=>exact(i.below h).dj
 case d3=>exact VG b
 case d4=>unfold maxLen;omega
 case d5=>omega
 case d6=>simp
 intro F B c f g;obtain⟨x,v,rfl,C,D⟩:=Bq c g;rw[<-CS,List.nil_append]at c;have o:Below w.heap.size w B:=h.grown f Yu (fun k z=>by simp[Value.ownBlock]at z;omega);have j:=Yw (Zn c o);try simp only[Nat.zero_add]at *
 clear c f g o h i;go_wp2;go_ret;exact⟨_,v,rfl,j.o.1,j.o.2⟩
theorem Hc(a:Zk)(cap:Nat)(b:List Ld)(w:Zh)(i:AN w w.heap.size a b)(E:b.length<=1048576):
 Calls prog 41 #[.slice a b.length cap] w fun e q=>∃l n,e=.returned (.slice l b.length n)/\
  q.ownsRow w.heap.size 50 3 (.slice l b.length n) b.length (Ag lC b)/\Zz w q:=by
 rcases a with _|m
 .obtain rfl:=i.nil;have d:∀u:Zh,(binOp .eql 25 (.slice none 0 cap) Zb).run prog u=.ok (.bool true) u:=fun _=>by first|rfl|kernel_rfl
  go_enter func41,ntmps41;go_wp2;go_ret;exact⟨none,0,rfl,⟨rfl,.inl ⟨rfl,rfl⟩⟩,Ad⟩
 obtain⟨A,y,r,s,t⟩:=info_parts Gz;have h:Below w.heap.size w (w.alloc (.cells #[] 50)):=Zy;have d:∀u:Zh,(binOp .eql 25 (.slice (some m) b.length cap) Zb).run prog u=.ok (.bool false) u:=fun _=>by first|rfl|kernel_rfl
 go_enter func41,ntmps41;go_wp2_with (first
  |(at_builtin;refine wpList_append_own _ rfl _ _ 25 rfl w.heap.size 50 A _ 3 32 underlying25 y r s t rfl Yq _ 0 (Ag lC []) rfl ?d0 m b.length cap (Ag lC b) rfl ?d1 ?d2 ?d3 ?d4 ?d5 ?d6 ?_)
  |go_in)
 case d0=>exact World.ownsRow_lit (base:=w.heap.size) (e:=50) (size:=3) w #[] 0 (Zx) Yo rfl
 case d1=>exact Dl Ge b
 case d2=>exact(i.below h).dj
 case d3=>exact VH b
 case d4=>unfold maxLen;omega
 case d5=>omega
 case d6=>simp
 intro F B c f g;obtain⟨x,v,rfl,C,D⟩:=Bq c g;rw[<-CS,List.nil_append]at c;have o:Below w.heap.size w B:=h.grown f Yu (fun k z=>by simp[Value.ownBlock]at z;omega);have j:=Yw (Zn c o);try simp only[Nat.zero_add]at *
 clear c f g o h i;go_wp2;go_ret;exact⟨_,v,rfl,j.o.1,j.o.2⟩
theorem Gf(a:Zk)(cap:Nat)(b:Zl)(w:Zh)(i:Ab w w.heap.size a b)(E:b.length<=1048576):
 Calls prog 47 #[.slice a b.length cap] w fun e q=>∃l n,e=.returned (.slice l b.length n)/\
  q.ownsRow w.heap.size 9 1 (.slice l b.length n) b.length (b.map Value.string)/\Zz w q:=by
 rcases a with _|m
 .obtain rfl:=i.nil;have d:∀u:Zh,(binOp .eql 29 (.slice none 0 cap) Zb).run prog u=.ok (.bool true) u:=fun _=>by first|rfl|kernel_rfl
  go_enter func47,ntmps47;go_wp2;go_ret;exact⟨none,0,rfl,⟨rfl,.inl ⟨rfl,rfl⟩⟩,Ad⟩
 obtain⟨A,y,r,s,t⟩:=info_parts BO;have h:Below w.heap.size w (w.alloc (.cells #[] 9)):=Zy;have d:∀u:Zh,(binOp .eql 29 (.slice (some m) b.length cap) Zb).run prog u=.ok (.bool false) u:=fun _=>by first|rfl|kernel_rfl
 go_enter func47,ntmps47;go_wp2_with (first
  |(at_builtin;refine wpList_append_own _ rfl _ _ 29 rfl w.heap.size 9 A Zc 1 16 underlying29 y r s t rfl Yq _ 0 (([]:Zl).map Value.string) rfl ?d0 m b.length cap (b.map Value.string) rfl ?d1 ?d2 ?d3 ?d4 ?d5 ?d6 ?_)
  |go_in)
 case d0=>exact World.ownsRow_lit (base:=w.heap.size) (e:=9) (size:=1) w #[] 0 (Zx) Yo rfl
 case d1=>simp
 case d2=>exact(i.below h).dj
 case d3=>exact PQ b
 case d4=>unfold maxLen;omega
 case d5=>omega
 case d6=>simp
 intro F B c f g;obtain⟨x,v,rfl,C,D⟩:=Bq c g
 skip
 have o:Below w.heap.size w B:=h.grown f Yu (fun k z=>by simp[Value.ownBlock]at z;omega);have j:=Yw (Zn c o);try simp only[Nat.zero_add]at *
 clear c f g o h i;go_wp2;go_ret;exact⟨_,v,rfl,j.o.1,j.o.2⟩
theorem toList_inj{a b:Zi}(h:a.toList=b.toList):a=b:=by rw[ByteArray.toList_eq,ByteArray.toList_eq]at h;cases a;cases b;simp only[Array.toList_inj]at h;rw[h]
theorem Bu{a b:Zi}(h:¬a=b):(a.toList==b.toList)=false:=by rw[beq_eq_false_iff_ne];exact fun e=>h (toList_inj e)
theorem Nc(x:List UInt8):∀y,Op.bytesLess x y=true↔x<y:=by
 induction x with
 |nil=>intro y;cases y<;>simp[Op.bytesLess]
 |cons a x ih=>
  intro y;cases y with
  |nil=>simp[Op.bytesLess]
  |cons b y=>have:=ih y;rw[List.cons_lt_cons_iff,<-this];simp only[Op.bytesLess];by_cases h1:a<b<;>by_cases h2:a=b<;>simp[h1,h2]
theorem BA(a:Zi):less a a=false:=by
 unfold less;cases h:Op.bytesLess a.toList a.toList with
 |false=>rfl
 |true=>exact absurd ((Nc _ _).1 h) (List.lt_irrefl _)
theorem BI{a b c:Zi}(h:less a b=true)(k:less b c=true):less a c=true:=by
 unfold less at *
 rw[Nc]at *
 exact List.lt_trans h k
def BQ(ks:List Kd)(s:Zi):Int:=match ks.findIdx? (fun k=>decide (k.sum=s))with
 |some i=>(i:Int)
 |none=> -1
theorem Rl{a:List Kd}{k:Nat}(d:k<a.length)(h:a[k].sum=s)(b:∀j x,j<k->a[j]?=some x->x.sum≠s):BQ a s=k:=by
 have:a.findIdx? (fun k=>decide (k.sum=s))=some k:=by rw[List.findIdx?_eq_some_iff_getElem];refine⟨d,by simpa using h,fun j c=> ?_⟩;simpa using b j _ c (Zv Yv)
 simp[BQ,this]
theorem PS{a:List Kd}(b:∀j x,j<a.length->a[j]?=some x->x.sum≠s):BQ a s= -1:=by
 have:a.findIdx? (fun k=>decide (k.sum=s))=none:=by rw[List.findIdx?_eq_none_iff];intro x d;obtain⟨j,c,rfl⟩:=List.getElem_of_mem d;simpa using b j _ c (Zv c)
 simp[BQ,this]
theorem BM(a:List Kd)(s:Zi):(BQ a s= -1/\¬Ay a s)\/∃i k,BQ a s=(i:Nat)/\a[i]?=some k/\k.sum=s:=by
 unfold BQ;cases h:a.findIdx? (fun k=>decide (k.sum=s))with
 |none=>rw[List.findIdx?_eq_none_iff]at h;exact .inl ⟨rfl,fun⟨u,hu,e⟩=>by simpa [e]using h u hu⟩
 |some i=>rw[List.findIdx?_eq_some_iff_getElem]at h;obtain⟨c,b,_⟩:=h;exact .inr ⟨i,a[i],rfl,Zv c,by simpa using b⟩
theorem Ck(v now g d:Int)(a:Zk)(q:Nat)(P L:Value)(c:List Kd)(s:Zi)(w:Zh)(B:Nat)(l:AQ w B a c)(I:B<=w.heap.size)(M:c.length<=1048576):
 Calls prog 18 #[.agg #[Zg v,Zg now,Zg g,Zg d,.slice a c.length q,P,L],.string s] w fun e D=>e=.returned (Zg (BQ c s))/\Zz w D:=by
 have m:Below w.heap.size w (w.alloc (.cells #[Zg v,Zg now,Zg g,Zg d,.slice a c.length q,P,L] 27)):=Zy;go_enter func18,ntmps18;go_wp2
 go_loop [5] (fun i=>∃k:Nat,k<=c.length/\i=Zg k/\Hid (∀j x,j<k->c[j]?=some x->x.sum≠s)) (fun i=>c.length -(intOf i).toNat)
 case atStart=>exact⟨0,Nat.zero_le _,rfl,fun j x h=>by omega⟩
 case round=>
  obtain⟨k,K,rfl,f⟩:=hrel;by_cases hlt:k<c.length
  .obtain⟨b,off,z,J,u⟩:=l.at hlt;subst z;have n:Hid (c[k]?=some c[k]):=Zv hlt;obtain⟨r,_,_,_⟩:=u k _ n;clear u l;have F:b<w.heap.size:=Yv
   by_cases he:c[k].sum=s
   .have H:=Yw he;have A:=Yw (Rl hlt he f.o);have E:w.cell? (Zd b (off+k *4))=some (.string s):=by rw[<-he];exact r
    clear r he;go_wp2;go_ret;exact⟨PK A.o.symm,m⟩
   .have G:=Bu he;have y:Hid (∀j x,j<k+1->c[j]?=some x->x.sum≠s):=by
     intro j x C o;rcases Nat.lt_or_ge j k with t|t
     .exact f.o j x t o
     .obtain rfl:j=k:=Yv
      rw[n.o]at o;cases o;exact he
    clear he f n;generalize c[k]=x at *
    go_wp2;exact⟨⟨k+1,Yv,Yn,y⟩,Ys⟩
  .go_wp2;go_ret;exact⟨PK (PS (fun j x C=>f.o j x Yv)).symm,m⟩
section
attribute [local go_sem↓] Go.wp_at_zero Go.wp_at_succ
def CN(u:Kd)(ra:Zk)(rc:Nat):Value:=.agg #[.string u.sum,Zg u.born,.string u.F,.slice ra u.B.length rc]
def Holds(W:Zh)(B:Nat)(wd:Int)(ks:List Kd)(f:Lit->Option Value):Prop:=
 ∀s:Zi,(s.size:Int)=wd->(f (keyL s)=none/\¬Ay ks s)\/∃u ra rc,u∈ks/\u.sum=s/\f (keyL s)=some (CN u ra rc)/\Ab W B ra u.B
theorem Holds.nil(W:Zh)(B:Nat)(a:Int):Holds W B a [] (fun _=>none):=fun _ _=> .inl ⟨rfl,fun⟨_,h,_⟩=>by cases h⟩
theorem Holds.snoc{b:Int}{f:Lit->Option Value}(h:Holds W B b ks f){x:Kd}{g:Zk}{rc:Nat}(r:(x.sum.size:Int)=b)(q:b<=8)(n:Ab W B g x.B):Holds W B b (ks++[x]) (upd f (keyL x.sum) (CN x g rc)):=by
 intro s o;by_cases he:keyL s=keyL x.sum
 .have:s=x.sum:=key_inj he Yv Yv;subst this;exact .inr ⟨x,g,rc,Yu,rfl,CW _ _ _,n⟩
 .rw[Dz _ _ he];have i:x.sum≠s:=fun e=>he (by rw[e]);rcases h s o with⟨c,d⟩|⟨u,j,k,c,d,l,m⟩
  .refine .inl ⟨c,fun⟨u,a,e⟩=> ?_⟩;rcases List.mem_append.1 a with a|a
   .exact d ⟨u,a,e⟩
   .simp at a;subst a;exact i e
  .exact .inr ⟨u,j,k,by simp[c],d,l,m⟩
theorem JW(w:Zh):(zeroValue 65).run prog w=.ok (.agg #[Zc,Ze,Zc,Zb]) w:=Yr
theorem Bh.setCell{f:Lit->Option Value}(h:Bh w K b n f){a:Addr}(e:b≠a.block)(u:Value):Bh (w.setCell a u) K b n f:=by obtain⟨D,c,d⟩:=h;exact⟨D,c.setCell e u,d⟩
def FS(wr:Zh)(h:Nat)(m s b t r:Value)(w':Zh):Prop:=
 w'.cell? (Zd (h+1+1+1) 1)=some m/\w'.cell? (Zd (wr.heap.size) 0)=some s/\w'.cell? (Zd (wr.heap.size) 1)=some b/\w'.cell? (Zd (wr.heap.size) 2)=some t/\w'.cell? (Zd (wr.heap.size) 3)=some r
theorem FS.ah{c e:Zh}{m s b t:Value}(x:FS wr h m s b t r c)(a:Zz c e)(l:h+3<c.heap.size)(d:wr.heap.size<c.heap.size):FS wr h m s b t r e:=by obtain⟨f,g,i,j,k⟩:=x;exact⟨(a.cell (p:=⟨h+1+1+1,1,none⟩) l).trans f,(a.cell (p:=⟨wr.heap.size,0,none⟩) d).trans g,(a.cell (p:=⟨wr.heap.size,1,none⟩) d).trans i,(a.cell (p:=⟨wr.heap.size,2,none⟩) d).trans j,(a.cell (p:=⟨wr.heap.size,3,none⟩) d).trans k⟩
theorem FS.grown{e:Zh}{q:Nat}{m s b t:Value}(x:FS wr h m s b t r e)(a:e.grownBy d (some q))(l:h+1+1+1≠q)(c:wr.heap.size≠q):FS wr h m s b t r d:=by obtain⟨f,g,i,j,k⟩:=x;exact⟨a.cell f (by simpa using l),a.cell g (by simpa using c),a.cell i (by simpa using c),a.cell j (by simpa using c),a.cell k (by simpa using c)⟩
theorem JD(n now o d:Int)(a:Zk)(J:Nat)(P L:Value)(h:List Kd)(w:Zh)(u:AQ w w.heap.size a h)(hl:h.length<=1048576)(F:∀k∈h,(k.sum.size:Int)=n)(h8:n<=8):
 Calls prog 39 #[.agg #[Zg n,Zg now,Zg o,Zg d,.slice a h.length J,P,L]] w fun e y=>∃m f,e=.returned (.agg #[Zg n,.map (some m)])/\(w.heap.size<=m/\m<=w.heap.size+2)/\Bh y 94 m h.length f/\Holds w w.heap.size n h f/\Zz w y:=by
 have V:= @run_makeMap prog;go_enter func39,ntmps39;go_wp2
 obtain⟨r,l⟩:=Af ((((w.alloc (Obj.cells #[Value.int IntKind.i64 n,Value.int IntKind.i64 now,Value.int IntKind.i64 o,Value.int IntKind.i64 d,Value.slice a h.length J,P,L] 27)).alloc (Obj.cells #[Value.int IntKind.i64 0,Value.map none] 86)).alloc (Obj.map #[] 0)).alloc (Obj.cells #[Value.int IntKind.i64 n,Value.map (some (w.heap.size+1+1))] 86));have R:Below w.heap.size w r:=by rw[l];exact((((Zy).alloc Yu _).alloc Yt _).alloc Yt _)
 have zB:r.heap.size=w.heap.size+4:=by rw[l];simp
 have S:Bh r 94 (w.heap.size+1+1) 0 (fun _=>none):=by have:=Bh.new ((w.alloc (Obj.cells #[Value.int IntKind.i64 n,Value.int IntKind.i64 now,Value.int IntKind.i64 o,Value.int IntKind.i64 d,Value.slice a h.length J,P,L] 27)).alloc (Obj.cells #[Value.int IntKind.i64 0,Value.map none] 86)) 94;rw[l];have h2:=this.ah (Ad.alloc (Zx) (Obj.cells #[Value.int IntKind.i64 n,Value.map (some (w.heap.size+1+1))] 86)) this.lt;simpa using h2
 have s0:r.cell? (Zd (w.heap.size+1+1+1) 0)=some (Zg n):=by rw[l];simp[go_sem]
 have s1:r.cell? (Zd (w.heap.size+1+1+1) 1)=some (.map (some (w.heap.size+1+1))):=by rw[l];simp[go_sem]
 have r0:r.cell? (Zd (w.heap.size+1) 0)=some Ze:=by rw[l];simp[go_sem]
 have r1:r.cell? (Zd (w.heap.size+1) 1)=some (.map none):=by rw[l];simp[go_sem]
 have rf:∀j,r.frozen? ⟨w.heap.size+1,j,none⟩=false:=fun j=>by rw[l];simp[go_sem]
 rw[<-l];clear l V
 go_loopw [13] (fun i wr=>∃(k:Nat) (f:Lit->Option Value),k<=h.length/\i=Zg k/\Hid (Bh wr 94 (w.heap.size+1+1) k f)/\Hid (Holds w w.heap.size n (h.take k) f)/\r.grownBy wr (some (w.heap.size+1+1))) (fun i _=>h.length -(intOf i).toNat)
 case atStart=>exact⟨0,_,Nat.zero_le _,rfl,S,by rw[List.take_zero];exact Holds.nil w w.heap.size n,AJ _ _⟩
 case round=>
  obtain⟨k,f,hk,rfl,K,G,q⟩:=hrel;have t:=R.grown q Yv (by intro j hj;cases hj;omega);have t0:=q.cell s0 Yu;have t1:=q.cell s1 Yu;have zC:=q.size;by_cases hlt:k<h.length
  .obtain⟨b,off,ha,hb,N⟩:=(u.below t).at hlt;subst ha;have H:=Yw (Zv hlt);obtain⟨c0,c1,c2,ra,rc,c3,_⟩:=N k _ H.o;obtain⟨b',Z,T,_,D⟩:=u.at hlt;cases T;obtain⟨_,_,_,g,c,A,E⟩:=D k _ H.o;have X:g=ra/\c=rc:=by have:=(t.cell (p:=⟨b,off+k *4+3,none⟩) hb).trans A;rw[c3]at this;simp at this;exact⟨this.1.symm,this.2.symm⟩
   obtain⟨rfl,rfl⟩:=X;have Y:=F _ (List.getElem_mem hlt);have zA:b<wr.heap.size:=Yv
   have HR:=Yw E;clear N D E A F u;generalize h[k]=x at *
   go_wp2;have C:Below wr.heap.size wr (wr.alloc (Obj.cells #[Value.string x.sum,Value.int IntKind.i64 x.born,Value.string x.F,Value.slice g x.B.length c] 65)):=Zy
   have hT:FS wr w.heap.size (.map (some (w.heap.size+1+1))) (.string x.sum) (Zg x.born) (.string x.F) (.slice g x.B.length c) (wr.alloc (Obj.cells #[Value.string x.sum,Value.int IntKind.i64 x.born,Value.string x.F,Value.slice g x.B.length c] 65)):=⟨(C.cell (p:=⟨w.heap.size+1+1+1,1,none⟩) Yt).trans t1,Yu,Yu,Yu,Yu⟩
   have B:FS wr w.heap.size (.map (some (w.heap.size+1+1))) (.string x.sum) (Zg x.born) (.string x.F) (.slice g x.B.length c) (wr.alloc (Obj.cells #[Value.string x.sum,Value.int IntKind.i64 x.born,Value.string x.F,Value.slice g x.B.length c] 65)).drew:=hT
   go_region_held3 (fun y=>y.cell? (Zd (w.heap.size+1+1+1) 1)=some (.map (some (w.heap.size+1+1)))/\y.cell? (Zd (wr.heap.size) 0)=some (.string x.sum)/\y.cell? (Zd (wr.heap.size) 1)=some (Zg x.born)/\y.cell? (Zd (wr.heap.size) 2)=some (.string x.F)/\y.cell? (Zd (wr.heap.size) 3)=some (.slice g x.B.length c))
    (first|exact M|exact I|exact B)
    (first
    |(go_at_call 42;refine(EH x.sum _).mono ?_;rintro e O ⟨rfl,z⟩;have I:FS wr w.heap.size (.map (some (w.heap.size+1+1))) (.string x.sum) (Zg x.born) (.string x.F) (.slice g x.B.length c) O:=FS.ah B z Yt Yu;have s:Below wr.heap.size wr O:=C.drew.trans (z.mono Yu);obtain⟨w3,hup,hm3,hg3⟩:=(K.o.ah s Yv).put keyed underlying84 (val:=CN x g c) Yo (Ct x.sum);have M:FS wr w.heap.size (.map (some (w.heap.size+1+1))) (.string x.sum) (Zg x.born) (.string x.F) (.slice g x.B.length c) w3:=FS.grown I hg3 Yu Yt;unfold CN at hup))
   all_goals
    have U:=Ap q (Ap (Ak _ s) hg3);have HN:Hid (Holds w w.heap.size n (h.take (k+1)) (upd f (keyL x.sum) (CN x g c))):=by have:=G.o.snoc (rc:=c) Y h8 HR.o;rw[List.take_add_one,H.o];exact this
    have Q:=Yw hm3;clear hm3 hup I M hg3 s z;go_wp2;exact⟨⟨k+1,_,Yv,Yn,Q,HN,U⟩,Ys⟩
  .have p0:=q.cell r0 Yu;have p1:=q.cell r1 Yu;have pf:∀j,wr.frozen? ⟨w.heap.size+1,j,none⟩=false:=fun j=>(q.frozen_far ⟨w.heap.size+1,j,none⟩ Yt Yu).trans (rf j);rw[Zt Yv]at G;obtain rfl:k=h.length:=Yv
   go_wp2;refine bodyPost_ret (v:=.agg #[Zg n,.map (some (w.heap.size+1+1))]) (by simp[results,results39,go_sem,p0,p1]) rfl ⟨_,f,rfl,Yv,?_,G.o,?_⟩
   .exact(Bh.setCell (Bh.setCell K.o Yu _) Yu _)
   .exact(t.setCell Yu _).setCell Yu _
def FD(b m:Nat)(s:Zi)(v:Value)(w':Zh):Prop:=
 w'.cell? (Zd b 1)=some (.map (some m))/\(Instr.lookup 84 (.map (some m)) (BX s) true).run prog w'=.ok v w'
theorem FD.of{a:Zh}{m:Nat}{f:Lit->Option Value}(e:W.cell? (Zd b 1)=some (.map (some m)))(c:Bh W 94 m n f)(d:b<B)(g:m<B)(h:Below B W a):
 FD b m s (.tuple #[(f (keyL s)).getD (.agg #[Zc,Ze,Zc,Zb]),.bool (f (keyL s)).isSome]) a:=
 ⟨(h.cell (p:=⟨b,1,none⟩) d).trans e,(c.ah h g).look_ok keyed underlying84 (JW _) (Ct s)⟩
theorem GA(J:Int)(m n:Nat)(f:Lit->Option Value)(s:Zi)(w:Zh)(B:Bh w 94 m n f)(hs:(s.size:Int)=J)(u:Zi)(q:Int)(t:Zi)(I:Value)(ok:Bool)(U:(∃a l c,I=.slice a l c))(L:(f (keyL s)).getD (.agg #[Zc,Ze,Zc,Zb])=.agg #[.string u,Zg q,.string t,I])(A:(f (keyL s)).isSome=ok):
 Calls prog 63 #[.agg #[Zg J,.map (some m)],.string s] w fun e k=>e=.returned (.tuple #[.agg #[.string u,Zg q,.string t,I],.bool ok])/\Zz w k:=by
 obtain⟨F,G,H,rfl⟩:=U;have T:=B.lt;have S:∀M N,Zz w ((w.alloc M).alloc N):=fun M N=>(Zy).alloc Yu _;go_enter func63,ntmps63;go_wp2;obtain⟨W,i⟩:=Af ((w.alloc (Obj.cells #[Value.int IntKind.i64 J,Value.map (some m)] 86)).alloc (Obj.cells #[Value.string ⟨#[]⟩,Value.int IntKind.i64 0,Value.string ⟨#[]⟩,Value.slice none 0 0] 65));have hz:W.heap.size=w.heap.size+1+1:=by rw[i];simp
 have y:Below w.heap.size w W:=by rw[i];exact S _ _
 have Z:W.cell? (Zd (w.heap.size) 1)=some (.map (some m)):=by rw[i];simp[go_sem]
 have r0:∃v,W.cell? (Zd (w.heap.size+1) 0)=some v:=by rw[i];simp[go_sem]
 have C:∃v,W.cell? (Zd (w.heap.size+1) 1)=some v:=by rw[i];simp[go_sem]
 have D:∃v,W.cell? (Zd (w.heap.size+1) 2)=some v:=by rw[i];simp[go_sem]
 have E:∃v,W.cell? (Zd (w.heap.size+1) 3)=some v:=by rw[i];simp[go_sem]
 have rf:∀j,W.frozen? ⟨w.heap.size+1,j,none⟩=false:=fun j=>by rw[i];simp[go_sem]
 obtain⟨v0,r0⟩:=r0;obtain⟨v1,C⟩:=C;obtain⟨v2,D⟩:=D;obtain⟨v3,E⟩:=E;have K:∀k,Zz W k->FD w.heap.size m s (.tuple #[.agg #[.string u,Zg q,.string t,.slice F G H],.bool ok]) k:=fun k h=>by have:=FD.of (s:=s) Z (B.ah y T) Yv Yv h;rw[L,A]at this;exact this
 have o:=Yw K;have r:w.heap.size+1<W.heap.size:=Yv
 have zA:w.heap.size<W.heap.size:=Yv
 rw[<-i];clear i K L A B hz;go_region_held3 (fun k=>k.cell? (Zd (w.heap.size) 1)=some (.map (some m))/\(Instr.lookup 84 (.map (some m)) (BX s) true).run prog k=.ok (.tuple #[.agg #[.string u,Zg q,.string t,.slice F G H],.bool ok]) k)
  (first
    |exact o.o _ b
    |exact o.o _ (b.alloc (Zm (Zx) b.size) _)
    |exact o.o _ (Ad.drew.alloc Yu _)
    |exact o.o _ Ad.drew
    |exact o.o _ ((((b.setCell Yu _).setCell Yu _).setCell Yu _).setCell Yu _)
    |exact o.o _ (b.alloc b.size _))
  (first
    |(go_at_call 42;refine(EH s W.drew).mono ?_;rintro e g ⟨rfl,d⟩;have b:Below W.heap.size W g:=Ad.drew.trans (d.mono Yu);have V:=b.size)
    |(go_at_call 42;refine(EH s (W.alloc _).drew).mono ?_;rintro e g ⟨rfl,d⟩;have b:Below W.heap.size W g:=(Zy).drew.trans (d.mono Yu);have V:W.heap.size<g.heap.size:=(by have:=d.size;simp at this;omega);have n0:g.cell? (Zd (W.heap.size) 0)=some Zc:=(by rw[d.cell (p:=⟨W.heap.size,0,none⟩) Yu];simp[go_sem]);have n1:g.cell? (Zd (W.heap.size) 1)=some Ze:=(by rw[d.cell (p:=⟨W.heap.size,1,none⟩) Yu];simp[go_sem]);have n2:g.cell? (Zd (W.heap.size) 2)=some Zc:=(by rw[d.cell (p:=⟨W.heap.size,2,none⟩) Yu];simp[go_sem]);have n3:g.cell? (Zd (W.heap.size) 3)=some Zb:=(by rw[d.cell (p:=⟨W.heap.size,3,none⟩) Yu];simp[go_sem]);have nf:∀j,g.frozen? ⟨W.heap.size,j,none⟩=false:=(fun j=>by rw[d.frozen (p:=⟨W.heap.size,j,none⟩) Yu];simp[go_sem])))
 all_goals
  have O:=(b.cell (p:=⟨w.heap.size+1,0,none⟩) r).trans r0;have P:=(b.cell (p:=⟨w.heap.size+1,1,none⟩) r).trans C;have Q:=(b.cell (p:=⟨w.heap.size+1,2,none⟩) r).trans D;have R:=(b.cell (p:=⟨w.heap.size+1,3,none⟩) r).trans E;have pf:∀j,g.frozen? ⟨w.heap.size+1,j,none⟩=false:=fun j=>(b.frozen (p:=⟨w.heap.size+1,j,none⟩) r).trans (rf j);have z:=y.trans (b.mono Yv)
  have x:w.heap.size+1<g.heap.size:=Yv
  have X:¬W.heap.size=w.heap.size+1:=Yv
  have Y:¬w.heap.size+1=W.heap.size:=Yv
  clear d o;go_wp2;refine bodyPost_ret (v:=.tuple #[.agg #[.string u,Zg q,.string t,.slice F G H],.bool ok]) (by first|(simp[results,results63,go_sem,O,P,Q,R];done)|(simp[results,results63,go_sem,O,P,Q,R,x];done)) rfl ⟨rfl,?_⟩
  first
   |(have zB:=nf 0;exact((((((((z.setCell Yt _).setCell Yt _).setCell Yt _).setCell Yt _).setCell Yu _).setCell Yu _).setCell Yu _).setCell Yu _))
   |exact(((((z.setCell Yu _).setCell Yu _).setCell Yu _).setCell Yu _).alloc Yt _)
theorem UL(a:Int)(m:Nat)(s:Zi)(w:Zh)(b:¬(s.size:Int)=a):
 Calls prog 63 #[.agg #[Zg a,.map (some m)],.string s] w fun e c=>e=.returned (.tuple #[.agg #[Zc,Ze,Zc,Zb],.bool false])/\Zz w c:=by
 have d:((s.size:Int)==a)=false:=by simpa using b
 go_enter func63,ntmps63;go_wp2;refine bodyPost_ret (v:=.tuple #[.agg #[Zc,Ze,Zc,Zb],.bool false]) (by simp[results,results63,go_sem]) rfl ⟨rfl,?_⟩;exact(Zy).alloc Yu _
structure Found (ks:List Kd) (s:Zi) (bo:Int) (ok:Bool):Prop where
 no:ok=false->¬Ay ks s
 yes:ok=true->∃x∈ks,x.sum=s/\x.born=bo
theorem KA(b:Int)(m n:Nat)(f:Lit->Option Value)(j:List Kd)(W:Zh)(B:Nat)(s:Zi)(w:Zh)(d:Bh w 94 m n f)(v:Holds W B b j f)(q:∀k∈j,(k.sum.size:Int)=b):
 ∃u l t A C D ok,Found j s l ok/\∀a,Zz w a->Calls prog 63 #[.agg #[Zg b,.map (some m)],.string s] a fun e r=>e=.returned (.tuple #[.agg #[.string u,Zg l,.string t,.slice A C D],.bool ok])/\Zz a r:=by
 by_cases hs:(s.size:Int)=b
 .rcases v s hs with⟨c,g⟩|⟨x,y,z,c,g,o,_⟩
  .exact⟨⟨#[]⟩,0,⟨#[]⟩,none,0,0,false,⟨fun _=>g,fun h=>by cases h⟩,fun a i=>GA b m n f s a (d.ah i d.lt) hs _ _ _ _ _ ⟨_,_,_,rfl⟩ (by rw[c];rfl) (by rw[c];rfl)⟩
  .exact⟨x.sum,x.born,x.F,y,x.B.length,z,true,⟨fun h=>by(cases h),fun _=>⟨x,c,g,rfl⟩⟩,fun a i=>GA b m n f s a (d.ah i d.lt) hs _ _ _ _ _ ⟨_,_,_,rfl⟩ (by rw[o];rfl) (by rw[o];rfl)⟩
 .exact⟨⟨#[]⟩,0,⟨#[]⟩,none,0,0,false,⟨fun _ ⟨x,hx,e⟩=>hs (by rw[<-e];exact q x hx),fun h=>by cases h⟩,fun a _=>UL b m s a hs⟩
theorem II(b:Int)(m n:Nat)(f:Lit->Option Value)(d:List Kd)(W:Zh)(B:Nat)(s:Zi)(w:Zh)(q:Bh w 94 m n f)(o:Holds W B b d f)(l:∀k∈d,(k.sum.size:Int)=b):
 ∃ok,(ok=true↔Ay d s)/\∀a,Zz w a->Calls prog 91 #[.agg #[Zg b,.map (some m)],.string s] a fun e v=>e=.returned (.bool ok)/\Zz a v:=by
 obtain⟨u,A,t,C,D,E,ok,c,j⟩:=KA b m n f d W B s w q o l;refine⟨ok,⟨fun h=> ?_,fun h=> ?_⟩,fun a r=> ?_⟩
 .obtain⟨x,z,e,_⟩:=c.yes h;exact⟨x,z,e⟩
 .cases ok with
  |true=>rfl
  |false=>exact absurd h (c.no rfl)
 .have g:Below a.heap.size a (a.alloc (.cells #[Zg b,.map (some m)] 86)):=Zy;have y:=Yw (j _ (r.trans (g.mono r.size)));clear j q o l c;go_enter func91,ntmps91;go_wp2_with fail;refine y.Am ?_;rintro e F ⟨rfl,i⟩;go_wp2;go_ret;exact⟨rfl,(g.trans (i.mono Yu)).alloc (by have:=i.size;simp at this;omega) _⟩
end
section
attribute [local go_sem↓] Go.wp_at_zero Go.wp_at_succ
section
open Go.WideElems Go.MapKept Go.ChangeMaps
theorem Hd(w:Zh)(b:Nat)(x y:Obj):setBlock (setBlock w b x) b y=setBlock w b y:=by simp[setBlock]
theorem LX{d:Array MapEntry}{g:Nat}(val:Value)(c:f.heap[b]?=some (.map d clock))(a:d.findIdx? (fun e=>((e.born:Nat):Int)==((g:Nat):Int))=some i):
 (Instr.entryStore t (.map (some b)) (goInt g) val).run P f=.ok () (setBlock f b (.map (d.modify i (fun e=>{e with val:=val})) clock)):=by
 simp[Instr.entryStore,MapKept.run_getObj_map c,asInt,asIntOf,goInt,a,MapKept.run_setObj_map _ c,Result.andThen,setBlock]
theorem Rm{H:Type}{k:TypeId}{R:Value->Option (DataW H×List MemPlace)}{f:Array MapEntry}(K:Maps.Keyed P k)(o:P.underlying t=some (.map k e))(B:∀u:Zh,(zeroValue e).run P u=.ok z u)(g:w.heap[b]?=some (.map f clock))(F:Fit P k R f clock){key:Value}{J:Lit}(d:keyOf P k key=some J):
 ∃(v0:Value) (st:Nat) (w3:Zh),(Instr.mapEntry t (.map (some b)) key).run P w=.ok (.tuple #[v0,goInt st]) w3/\(Instr.lookup t (.map (some b)) key false).run P w=.ok v0 w/\(Instr.mapUpdate t (.map (some b)) key v0).run P w=.ok () w3/\
  ∀val:Value,∃D,(Instr.entryStore t (.map (some b)) (goInt st) val).run P w3=.ok () D/\(Instr.mapUpdate t (.map (some b)) key val).run P w=.ok () D:=by
 obtain⟨L,C,_⟩:=F.stamped;rcases K.find w d f.toList F.keys with⟨h,i⟩|⟨j,e0,h,i,r⟩
 .have y:(setBlock w b (.map (f.push ⟨key,z,clock⟩) (clock+1))).heap[b]?=some (.map (f.push ⟨key,z,clock⟩) (clock+1)):=heap_setBlock_same g _;refine⟨z,clock,setBlock w b (.map (f.push ⟨key,z,clock⟩) (clock+1)),?_,?_,?_,fun val=>⟨setBlock w b (.map (f.push ⟨key,val,clock⟩) (clock+1)),?_,?_⟩⟩
  .simp[Instr.mapEntry,run_underlying o,MapKept.run_getObj_map g,K.check w false d,h,B,MapKept.run_setObj_map _ g,Result.andThen,setBlock]
  .simp[Instr.lookup,run_underlying o,MapKept.run_getObj_map g,K.check w _ d,h,B,Result.andThen]
  .simp[Instr.mapUpdate,run_underlying o,MapKept.run_getObj_map g,K.check w false d,h,MapKept.run_setObj_map _ g,Result.andThen,setBlock]
  .have m:(f.push ⟨key,z,clock⟩).findIdx? (fun e=>((e.born:Nat):Int)==((clock:Nat):Int))=some f.size:=by
    rw[findIdx_arr];have:=findIdx_born (l:=(f.push ⟨key,z,clock⟩).toList) (j:=f.size) (e0:=⟨key,z,clock⟩) (by
     simp only[Array.toList_push,List.map_append,List.map_cons,List.map_nil];refine List.nodup_append.2 ⟨C,Yu,fun a E c G M=> ?_⟩;simp only[List.mem_singleton]at G;obtain⟨x,I,rfl⟩:=List.mem_map.1 E;have:=L x I;omega) Yu
    exact this
   have n:(f.push ⟨key,z,clock⟩).modify f.size (fun e=>{e with val:=val})=f.push ⟨key,val,clock⟩:=by apply Array.ext';rw[Array.toList_modify,Array.toList_push,Array.toList_push,<-Array.length_toList,modify_last]
   rw[LX val y m,Hd,n]
  .simp[Instr.mapUpdate,run_underlying o,MapKept.run_getObj_map g,K.check w false d,h,MapKept.run_setObj_map _ g,Result.andThen,setBlock]
 .have A:f[j]?=some e0:=by simpa using i
  have s:f.modify j (fun e=>{e with key:=key})=f:=by
   apply Array.ext';rw[Array.toList_modify,modify_eq_set _ _ _ _ i];have:({e0 with key:=key}:MapEntry)=e0:=by rw[<-r]
   rw[this];exact set_self _ _ _ i
  have q:f.modify j (fun v=>{v with key:=key,val:=e0.val})=f:=by
   apply Array.ext';rw[Array.toList_modify,modify_eq_set _ _ _ _ i];have:({e0 with key:=key,val:=e0.val}:MapEntry)=e0:=by rw[<-r]
   rw[this];exact set_self _ _ _ i
  have y:(setBlock w b (.map f clock)).heap[b]?=some (.map f clock):=heap_setBlock_same g _;refine⟨e0.val,e0.born,setBlock w b (.map f clock),?_,?_,?_,fun val=>⟨setBlock w b (.map (f.modify j (fun v=>{v with key:=key,val:=val})) clock),?_,?_⟩⟩
  .simp[Instr.mapEntry,run_underlying o,MapKept.run_getObj_map g,K.check w false d,h,A,r,K.stays w d,s,MapKept.run_setObj_map _ g,Result.andThen,setBlock]
  .simp[Instr.lookup,run_underlying o,MapKept.run_getObj_map g,K.check w _ d,h,Result.andThen]
  .simp[Instr.mapUpdate,run_underlying o,MapKept.run_getObj_map g,K.check w false d,h,A,r,K.stays w d,q,MapKept.run_setObj_map _ g,Result.andThen,setBlock]
  .have m:f.findIdx? (fun e=>((e.born:Nat):Int)==((e0.born:Nat):Int))=some j:=by rw[findIdx_arr];exact findIdx_born C i
   have n:f.modify j (fun e=>{e with val:=val})=f.modify j (fun v=>{v with key:=key,val:=val}):=by apply Array.ext';rw[Array.toList_modify,Array.toList_modify,modify_eq_set _ _ _ _ i,modify_eq_set _ _ _ _ i,<-r]
   rw[LX val y m,Hd,n]
  .simp[Instr.mapUpdate,run_underlying o,MapKept.run_getObj_map g,K.check w false d,h,A,r,K.stays w d,MapKept.run_setObj_map _ g,Result.andThen,setBlock]
end
def AT(w:Zh)(K:TypeId)(b n c:Nat)(f:Lit->Option Value):Prop:=
 ∃D:DataW Value,w.ownsMap prog K MP b n D/\(∀kl z,D.atKey kl (.held z)=.held ((f kl).getD z))/\(∀kl,Maps.has D kl=(f kl).isSome)/\Maps.Tidy D/\Maps.size D=c
theorem AT.map{f:Lit->Option Value}(h:AT w K b n c f):Bh w K b n f:=let ⟨D,h1,h2,h3,_⟩:=h;⟨D,h1,h2,h3⟩
theorem AT.new(w:Zh)(K:TypeId):AT (w.alloc (.map #[] 0)) K w.heap.size 0 0 (fun _=>none):=
 ⟨.map [],World.ownsMap_made _ _ _ _,fun _ _=>rfl,fun _=>rfl,Maps.tidy_empty,rfl⟩
theorem AT.ah{a:Zh}{f:Lit->Option Value}(h:AT w K b n c f)(k:Below B w a)(j:b<B):AT a K b n c f:=by obtain⟨D,⟨d,clock,e,g⟩,i⟩:=h;exact⟨D,⟨d,clock,(k.block b j).trans e,g⟩,i⟩
theorem AT.lt{f:Lit->Option Value}(h:AT w K b n c f):b<w.heap.size:=h.choose_spec.1.lt
theorem AT.len{f:Lit->Option Value}(h:AT w K b n c f)(i:prog.underlying t=some (.map K e))(a:TypeId):(Builtin.len_ #[t] a #[.map (some b)]).run prog w=.ok (Zg c) w:=by obtain⟨D,d,_,_,_,g⟩:=h;rw[<-g];exact d.len i a
theorem AT.put{f:Lit->Option Value}(h:AT w K b n c f)(q:Maps.Keyed prog K)(C:prog.underlying t=some (.map K e))(y:n<maxLen){k:Value}(a:keyOf prog K k=some g):
 ∃i,(Instr.mapUpdate t (.map (some b)) k val).run prog w=.ok () i/\AT i K b (n+1) (if (f g).isSome then c else c+1) (upd f g val)/\w.grownBy i (some b):=by
 obtain⟨D,l,s,m,o,u⟩:=h;obtain⟨i,B,A,v⟩:=l.update q C y a (d:=.held val) (ps:=[]) (val:=val) rfl;have r:=l.isMap;have j:=q.key a;refine⟨i,B,⟨_,A,fun x z=> ?_,fun x=> ?_,o.put j _,?_⟩,v⟩
 .by_cases hx:x=g
  .subst hx;rw[Maps.atKey_put_same r j,CW];rfl
  .rw[Maps.atKey_put_other hx,Dz _ _ hx];exact s x z
 .by_cases hx:x=g
  .subst hx;rw[Maps.has_put_same r j,CW];rfl
  .rw[Maps.has_put_other hx,Dz _ _ hx];exact m x
 .rw[Maps.size_put o,m,u]
theorem AT.gq{f:Lit->Option Value}(h:AT w K b n c f)(k:Maps.Keyed prog K)(l:prog.underlying t=some (.map K e))(A:n<maxLen)(x:∀u:Zh,(zeroValue e).run prog u=.ok z u)(a:keyOf prog K j=some g)(val:Value):
 ∃o d m,(Instr.mapEntry t (.map (some b)) j).run prog w=.ok (.tuple #[(f g).getD z,goInt o]) d/\(Instr.lookup t (.map (some b)) j false).run prog w=.ok ((f g).getD z) w/\(Instr.lookup t (.map (some b)) j false).run prog d=.ok ((f g).getD z) d/\
  (Instr.entryStore t (.map (some b)) (goInt o) val).run prog d=.ok () m/\AT m K b (n+1) (if (f g).isSome then c else c+1) (upd f g val)/\w.grownBy d (some b)/\w.grownBy m (some b):=by
 have v:=h;obtain⟨D,⟨Q,clock,L,F,W,V⟩,R,S,T,U⟩:=h;obtain⟨v0,o,d,M,y,N,I⟩:=Rm k l x L F a;have q:=v.map.look k l (x w) a;rw[y]at q;cases q;obtain⟨m,H,J⟩:=I val;obtain⟨O,s,E,B⟩:=v.put k l A a (val:=(f g).getD z);rw[N]at s;cases s;obtain⟨P,i,G,C⟩:=v.put k l A a (val:=val);rw[J]at i;cases i;have r:=E.map.look k l (x d) a;rw[CW]at r;exact⟨o,d,m,M,y,r,H,G,B,C⟩
structure MK (ms:Zl) (f:Lit->Option Value) (c:Nat):Prop where
 has:∀l,(f l).isSome=true↔l∈ms.map keyL
 I:∀l v,f l=some v->∃n:Int,v=Zg n/\1<=n/\n<=ms.length
 le:c<=ms.length
 all:c=ms.length↔(ms.map keyL).Nodup
theorem MK.nil:MK [] (fun _=>none) 0:=⟨fun l=>Yu,fun l v h=>(by simp at h),Zx,Yu⟩
theorem MK.get{a:Zl}{f:Lit->Option Value}(h:MK a f c)(l:Lit):∃n:Int,(f l).getD Ze=Zg n/\0<=n/\n<=a.length/\(0<n↔l∈a.map keyL):=by
 cases hf:f l with
 |none=>refine⟨0,rfl,Int.le_refl _,Yv,?_⟩;have:=h.has l;rw[hf]at this;simp at this |-;exact this
 |some v=>obtain⟨n,rfl,d,b⟩:=h.I l v hf;have:=h.has l;rw[hf]at this;exact⟨n,rfl,Yv,b,⟨fun _=>this.1 rfl,fun _=>by omega⟩⟩
theorem MK.snoc{g:Zl}{f:Lit->Option Value}(h:MK g f c)(x:Zi){n:Int}(u:0<=n)(y:n<=g.length):
 MK (g++[x]) (upd f (keyL x) (Zg (n+1))) (if (f (keyL x)).isSome then c else c+1):=by
 have k:=h.has (keyL x);refine⟨fun l=> ?_,fun l v d=> ?_,?_,?_⟩
 .by_cases e:l=keyL x
  .subst e;rw[CW];simp
  .rw[Dz _ _ e,h.has l];simp only[List.map_append,List.map_cons,List.map_nil,List.mem_append,List.mem_singleton];exact⟨fun h=> .inl h,fun h=>h.resolve_right e⟩
 .by_cases e:l=keyL x
  .subst e;rw[CW]at d;cases d;exact⟨n+1,rfl,Yv,Yt⟩
  .rw[Dz _ _ e]at d;obtain⟨m,o,q,t⟩:=h.I l v d;exact⟨m,o,q,Yt⟩
 .have:=h.le;split<;>simp<;>omega
 .have s:=h.le;have i:=h.all;rw[List.map_append,List.map_cons,List.map_nil,List.length_append];by_cases hm:keyL x∈g.map keyL
  .rw[if_pos (k.2 hm)];constructor
   .intro e;simp at e;omega
   .intro e;have:=(List.nodup_append.1 e).2.2 _ hm _ Yu rfl;cases this
  .rw[if_neg (fun e=>hm (k.1 e))];constructor
   .intro e;refine List.nodup_append.2 ⟨i.1 (by simp at e;omega),Yu,fun a r b j e=> ?_⟩;simp at j;subst j;subst e;exact hm r
   .intro e;have:=i.2 (List.nodup_append.1 e).1;simp;omega
theorem Gg(b:0<=a)(c:a<=2000000000):IntKind.i64.wrap a=a:=by unfold IntKind.wrap;simp[IntKind.signed,IntKind.bits];omega
theorem EI(w:Zh):(zeroValue 3).run prog w=.ok Ze w:=Yr
end
structure Ae (W:Zh) where
 w:Zh
 h:Below W.heap.size W w
theorem Ae.ne(W:Zh):Nonempty (Ae W):=⟨⟨W,Ad⟩⟩
theorem Ae.cell{o:Nat}(c:W.cell? (Zd b o)=some v)(a:b<W.heap.size)(n:Ae W):n.w.cell? (Zd b o)=some v:=(n.h.cell (p:=⟨b,o,none⟩) a).trans c
theorem Ae.size(n:Ae W):W.heap.size<=n.w.heap.size:=n.h.size
def Ae.next{W:Zh}(n:Ae W){w':Zh}(h:Below n.w.heap.size n.w w'):Ae W:=⟨w',n.h.trans (h.mono n.h.size)⟩
theorem PT{c:Array Oper}{Q:Exit->Act->Zh->Prop}{a:Act}(g:P.follows .mixedOrders=true)(f:Region.lexB .any c=true)(h:wpQuiet P c (fun d=>∃n:Ae w,d=n.w) (fun b=>∀n:Ae w,Q .normal b n.w) c.toList a):(Code.region i c true).wp P Q a w:=by
 refine wp_region_quiet (C:=fun d=>∃n:Ae w,d=n.w) g f ⟨⟨_,Ad.drew⟩,rfl⟩ ?_;have e:(fun b=>∀d,(∃n:Ae w,d=n.w)->Q .normal b d)=(fun b=>∀n:Ae w,Q .normal b n.w):=by
  funext b
  exact propext ⟨fun h n=>h _ ⟨n,rfl⟩,fun h _ ⟨n,e⟩=>e▸h n⟩
 rw[e];exact h
theorem Ai{l:List Oper}{e:Nat}{Q:Exit->Act->Zh->Prop}{a:Act}(d:P.follows .mixedOrders=true)(c:Region.lexB .any l.toArray=true)(h:wpQuiet P l.toArray (fun f=>∃n:Ae w,f=n.w) (fun b=>∀n:Ae w,Q .normal b n.w) l a):(Code.region e l.toArray true).wp P Q a w:=
 PT d c (by simpa using h)
theorem Ae.calls{f:FuncId}{args:Array Value}{n:Ae W}(h:Calls P f args n.w fun e b=>e=.returned v/\Below n.w.heap.size n.w b):
 Calls P f args n.w fun e a=>e=.returned v/\∃m:Ae W,a=m.w:=
 h.mono fun _ _ ⟨he,hb⟩=>⟨he,n.next hb,rfl⟩
theorem Dm(t:Zi)(a:Zl)(b:Int):(AD t a b).size<=maxLen:=by
 unfold AD;split
 .rename_i h
  have h:=AV h;have c:=h.bn;have d:=h.F;have:(ByteArray.mk (BP t a).toArray).size=1+(bk a+t.size):=by show(BP t a).toArray.size=_;simp only[List.size_toArray,BP,List.length_cons,List.length_append,DN,Array.length_toList];show _+t.size+1=_;omega
  rw[this];unfold maxLen;omega
 .simp[maxLen]
theorem Iy(t:Zi)(a:Zk)(cap:Nat)(b:Zl)(d:Int)(w:Zh)(c:Ab w w.heap.size a b)(g:b.length<=1048576)(h:t.size<=maxLen):
 Calls prog 87 #[.agg #[.string t,.slice a b.length cap],Zg d] w fun e f=>e=.returned (.bool (Az t b d))/\Zz w f:=by
 refine(EL t a cap b d w c g h).mono ?_;rintro e f ⟨rfl,rfl⟩;exact⟨rfl,Zy⟩
theorem wrap_small(b:0<=a)(c:a<=1048576):IntKind.i64.wrap a=a:=by unfold IntKind.wrap;simp[IntKind.signed,IntKind.bits];omega
theorem Ht(w:Zh)(n:Nat)(a:Addr):(w.drewN n).cell? a=w.cell? a:=rfl
theorem Hu(w:Zh)(n:Nat):(w.drewN n).heap.size=w.heap.size:=rfl
def Ur(w:Zh)(wd:Int)(m:Nat)(ks:List Kd)(s:Zi):Prop:=
 ∃ok,(ok=true↔Ay ks s)/\∀w',Zz w w'->Calls prog 91 #[.agg #[Zg wd,.map (some m)],.string s] w' fun e w''=>e=.returned (.bool ok)/\Zz w' w''
def Ao(P:Prop)(w0 w:Zh)(e:Ending):Prop:=∃b,e=.returned (.bool b)/\(b=true↔P)/\Zz w0 w
theorem Ao.yes{P:Prop}{a:Zh}(h:P)(b:Zz a w):Ao P a w (.returned (.bool true)):=⟨_,rfl,by simpa using h,b⟩
theorem Ao.no{P:Prop}{a:Zh}(h:¬P)(b:Zz a w):Ao P a w (.returned (.bool false)):=⟨_,rfl,by simpa using h,b⟩
theorem Fa(b:0<=a)(c:a<=2000000000):IntKind.i64.wrap a=a:=by unfold IntKind.wrap;simp[IntKind.signed,IntKind.bits];omega
def VI(w:Zh)(wd:Int)(m:Nat)(ks:List Kd)(s:Zi):Prop:=
 ∃u bo t sa sb sc ok,Found ks s bo ok/\∀w',Zz w w'->Calls prog 63 #[.agg #[Zg wd,.map (some m)],.string s] w' fun e w''=>e=.returned (.tuple #[.agg #[.string u,Zg bo,.string t,.slice sa sb sc],.bool ok])/\Zz w' w''
theorem PU(n:Int)(w:Zh):
 Calls prog 86 #[Zg n] w fun e a=>e=.returned (.bool (decide (1<=n/\n<=8)))/\a=w:=by
 by_cases h1:1<=n
 .by_cases h2:n<=8
  .go_enter func86,ntmps86;go_wp2;go_ret;exact⟨AE (by simp[h1,h2]),rfl⟩
  .have c:decide (n<=8)=false:=by simpa using h2
   go_enter func86,ntmps86;go_wp2;go_ret;exact⟨rfl,rfl⟩
 .have b:decide (1<=n)=false:=by simpa using h1
  go_enter func86,ntmps86;go_wp2;go_ret;exact⟨rfl,rfl⟩
theorem Eg(k:Kd)(a:Int)(h:1<=a):((sumOf k a).size:Int)=a:=by
 have e:∀l:List Int,(strOfNums l).size=l.length:=fun l=>by unfold strOfNums;simp[ByteArray.size]
 unfold sumOf CR;rw[e,CC];omega
theorem FL(n:Int)(w:Zh):
 Calls prog 14 #[Zg n] w fun e a=>e=.returned (.bool (decide (1<=n/\n<=8)))/\a=w:=by
 by_cases h1:1<=n
 .by_cases h2:n<=8
  .go_enter func14,ntmps14;go_wp2;go_ret;exact⟨AE (by simp[h1,h2]),rfl⟩
  .have c:decide (n<=8)=false:=by simpa using h2
   go_enter func14,ntmps14;go_wp2;go_ret;exact⟨rfl,rfl⟩
 .have b:decide (1<=n)=false:=by simpa using h1
  go_enter func14,ntmps14;go_wp2;go_ret;exact⟨rfl,rfl⟩
theorem Po(s:Zi)(w:Zh):
 Calls prog 42 #[.string s] w fun e a=>e=.returned (.agg (Yk (kB s)))/\Zz w a:=EH s w
def Gh(s:Zi):Obj:=.cells #[.int .u8 (kB s 0),.int .u8 (kB s 1),.int .u8 (kB s 2),.int .u8 (kB s 3),.int .u8 (kB s 4),.int .u8 (kB s 5),.int .u8 (kB s 6),.int .u8 (kB s 7)] 94
theorem R8.one(w:Zh)(s:Zi):R8 (w.alloc (Gh s)) (w.heap.size+1) (Yz w.heap.size 1 1) [s]:=by
 refine .inr ⟨w.heap.size,0,1,rfl,Yv,fun i t a j b=> ?_⟩;cases i with
 |zero=>
  simp at a;subst a;rw[Nat.zero_mul,Nat.zero_add,Nat.zero_add];unfold Gh;rw[World.cell?_alloc_at _ _ _ _ rfl]
  match j,b with
  |0,_|1,_|2,_|3,_|4,_|5,_|6,_|7,_=>rfl
 |succ i=>simp at a
section
section
open Go.WideElems Go.MapKept Go.ChangeMaps
end
def MQ(E:List (Zi×Zi))(t:Zi):Zl:=E.filterMap (fun p=>if p.1=t then some p.2 else none)
end
section
attribute [local go_sem↓] Go.wp_at_zero Go.wp_at_succ
theorem Aa.same(h:Aa w B l)(b:d.heap[B]?=w.heap[B]?):Aa d B l:=
 fun j v c=>⟨(World.cell?_of_block (a:=⟨B,j,none⟩) b).trans (h j v c).1,(World.frozen?_of_block (a:=⟨B,j,none⟩) b).trans (h j v c).2⟩
theorem VJ{a:Zh}(h:a.heap[B]?=w.heap[B]?)(b:Aa w B (Yj (kB s))):
 a.cell? (Zd B 0)=some (.int .u8 (kB s 0))/\a.cell? (Zd B 1)=some (.int .u8 (kB s 1))/\a.cell? (Zd B 2)=some (.int .u8 (kB s 2))/\a.cell? (Zd B 3)=some (.int .u8 (kB s 3))/\a.cell? (Zd B 4)=some (.int .u8 (kB s 4))/\a.cell? (Zd B 5)=some (.int .u8 (kB s 5))/\a.cell? (Zd B 6)=some (.int .u8 (kB s 6))/\a.cell? (Zd B 7)=some (.int .u8 (kB s 7)):=by
 have:=Aa.same b h;exact⟨(this 0 _ rfl).1,(this 1 _ rfl).1,(this 2 _ rfl).1,(this 3 _ rfl).1,(this 4 _ rfl).1,(this 5 _ rfl).1,(this 6 _ rfl).1,(this 7 _ rfl).1⟩
end
theorem EP{d c:Int}{T P L:Value}(h:Aq w b d now c a T P L):w.cell? (Zd b 0)=some (Zg d)/\w.cell? (Zd b 1)=some (Zg now)/\w.cell? (Zd b 2)=some (Zg c)/\w.cell? (Zd b 3)=some (Zg a)/\w.cell? (Zd b 4)=some T/\w.cell? (Zd b 5)=some P/\w.cell? (Zd b 6)=some L:=
 ⟨h.1,h.2.1,h.2.2.1,h.2.2.2.1,h.2.2.2.2.1,h.2.2.2.2.2.1,h.2.2.2.2.2.2.1⟩
def vB(d m:Nat)(O P L:Value):List Nat:=d::m::(O.ownBlock.toList++(P.ownBlock.toList++L.ownBlock.toList))
def VK(base:Nat)(V:List Nat):Prop:=∃m,V[1]?=some m/\m<base+4
def Lq(w:Zh)(base:Nat)(V:List Nat)(a:Zk)(ss:Zl):Prop:=
 ss=[]\/∃b off,a=some ⟨b,off,none⟩/\b<w.heap.size/\b∉V/\((b<base/\VK base V)\/(base<=b/\∃cur,w.heap[b]?=some (.cells cur 9)))/\∀i s,ss[i]?=some s->w.cell? (Zd b (off+i))=some (.string s)
theorem Lq.row{a:Zk}{d:Zl}(h:Lq w c V a d):Ab w w.heap.size a d:=by
 rcases h with h|⟨b,off,e,f,_,_,g⟩
 .exact .inl h
 .exact .inr ⟨b,off,e,f,g⟩
def CE(w:Zh)(base:Nat)(V:List Nat)(wd:Int)(ks:List Kd)(f:Lit->Option Value):Prop:=
 ∀s:Zi,(s.size:Int)=wd->(f (keyL s)=none/\¬Ay ks s)\/∃u ra rc,u∈ks/\u.sum=s/\f (keyL s)=some (CN u ra rc)/\Lq w base V ra u.B
theorem CE.of{j:Int}{g:List Kd}{f:Lit->Option Value}(h:Holds W W.heap.size j g f)(e:Zz W w)(n:∀b∈V,W.heap.size<=b)(r:VK W.heap.size V):CE w W.heap.size V j g f:=by
 intro s d;rcases h s d with h|⟨u,v,x,k,l,m,c⟩
 .exact .inl h
 .refine .inr ⟨u,v,x,k,l,m,?_⟩;rcases c with c|⟨b,off,o,a,q⟩
  .exact .inl c
  .exact .inr ⟨b,off,o,Zr a e.size,fun t=>by have:=n b t;omega,.inl ⟨a,r⟩,fun i s d=>(e.cell (p:=⟨b,off+i,none⟩) a).trans (q i s d)⟩
structure Dr (w:Zh) (base d m:Nat) (O P L:Value) (wd now given births:Int) (ks:List Kd) (ps:List Pd) (ls:List Ld):Prop where
 box:Aa w d [Zg wd,.map (some m),Zg now,Zg given,Zg births,O,P,L]
 map:∃n f,n<=1000000+births.toNat/\Bh w 94 m n f/\CE w base (vB d m O P L) wd ks f
 ord:w.ownsRow base 94 8 O ks.length (Bk (ks.map (·.sum)))
 cv:w.ownsRow base 48 2 P ps.length (Ag pC ps)
 dz:w.ownsRow base 50 3 L ls.length (Ag lC ls)
 bd:base<=d
 bm:base<=m
 ap:(vB d m O P L).Nodup
theorem CE.below{j:Zh}{k:Int}{g:List Kd}{f:Lit->Option Value}(h:CE w base V k g f)(d:Zz w j):CE j base V k g f:=by
 intro s e;rcases h s e with h|⟨u,v,x,l,m,n,c⟩
 .exact .inl h
 .refine .inr ⟨u,v,x,l,m,n,?_⟩;rcases c with c|⟨b,off,o,a,t,r,q⟩
  .exact .inl c
  .exact .inr ⟨b,off,o,Zr a d.size,t,(by rw[d.block b a];exact r),fun i s e=>(d.cell (p:=⟨b,off+i,none⟩) a).trans (q i s e)⟩
theorem Al{w':Zh}{a:Nat}{size:Nat}{c:Zj}(h:w.ownsRow a e size v n c)(i:Zz w w'):w'.ownsRow a e size v n c:=by
 refine⟨h.1,?_⟩;rcases h.2 with j|⟨g,cap,d,k,f,b,rest⟩
 .exact .inl j
 .exact .inr ⟨g,cap,d,k,f,(i.block g (Array.getElem?_eq_some_iff.1 b).1).trans b,rest⟩
theorem Dr.below{k:Zh}{d m:Nat}{O P L:Value}{l b:Int}{g:List Kd}{j:List Pd}{i:List Ld}(h:Dr w base d m O P L l now b a g j i)(c:Zz w k):Dr k base d m O P L l now b a g j i:=by obtain⟨n,f,o,e,q⟩:=h.map;exact⟨h.box.below c,⟨n,f,o,e.ah c e.lt,q.below c⟩,Al h.ord c,Al h.cv c,Al h.dz c,h.bd,h.bm,h.ap⟩
theorem Ac{a:Nat}{size:Nat}{f:Zj}(h:w.ownsRow a e size v n f){g:Nat}(b:v.ownBlock=some g):a<=g/\g<w.heap.size:=by
 rcases h.2 with⟨rfl,_⟩|⟨j,cap,i,rfl,d,c,_⟩
 .cases b
 .cases b;exact⟨d,(Array.getElem?_eq_some_iff.1 c).1⟩
theorem Nd{b:Zh}{a:Nat}{size:Nat}{c:Zj}(h:w.ownsRow a e size v n c)(j:Below B w b)(i:∀g,v.ownBlock=some g->g<B):b.ownsRow a e size v n c:=by
 refine⟨h.1,?_⟩;rcases h.2 with l|⟨g,cap,d,rfl,f,k,rest⟩
 .exact .inl l
 .exact .inr ⟨g,cap,d,rfl,f,(j.block g (i g rfl)).trans k,rest⟩
theorem Wx(w:Zh)(a:Nat)(v:Value)(b:Zl)(y:w.ownsRow a 94 8 v b.length (Bk b))(s:Zi)(x:b.length<=1000000)(i:a<=w.heap.size)(k:TypeId):
 ∃g cap d,(Builtin.append_ #[90,90] k #[v,Yz w.heap.size 1 1]).run prog (w.alloc (Gh s))=.ok (Yz g (b.length+1) cap) d/\d.ownsRow a 94 8 (Yz g (b.length+1) cap) (b++[s]).length (Bk (b++[s]))/\w.grownBy d v.ownBlock/\(v.ownBlock=some g\/g=w.heap.size+1):=by
 obtain⟨A,t,m,n,o⟩:=info_parts Pm;have l:=Al y (Ad.alloc (Zx) (Gh s));have q:=R8.one w s;have h:∀j u,(Bk [s])[j]?=some u->(w.alloc (Gh s)).cell? ((⟨w.heap.size,0,none⟩:Addr).add j)=some u:=by
  rcases q with⟨e,_⟩|⟨g,off,cap,e,_,h⟩
  .cases e
  .cases e;exact R8.cells h
 obtain⟨B,d,z,f,r,_,c⟩:=run_append_own_at (P:=prog) (w.alloc (Gh s)) a 90 k 94 A _ 8 8 underlying90 t m n o rfl Yq v b.length (Bk b) l ⟨w.heap.size,0,none⟩ 1 1 (Bk [s]) (EN [s]) h (Kz [s]) Yo Yv Yt;obtain⟨g,cap,rfl,_,_⟩:=Bq f (fun e=>by subst e;rcases f.2 with⟨_,x⟩|⟨_,_,_,e,_⟩<;>first|omega|cases e)
 refine⟨g,cap,d,z,?_,(World.grownBy_alloc w (Gh s) _).trans r,?_⟩
 .rw[Ix,List.length_append];exact f
 .rcases c with c|c
  .exact .inl c.symm
  .right;simpa [Value.ownBlock]using c
def Fm(ks:List Kd):Nat:=(ks.map (fun k=>k.B.length)).sum
def Wr(w:Zh)(q n:Nat):Prop:=∀j,j<n->(w.cell? (Zd q j)).isSome=true/\w.frozen? ⟨q,j,none⟩=false
theorem Wr.own{a g size:Nat}{b:Zj}(h:w.ownsRow a e size (Yz g n cap) n b):Wr w g (n *size):=fun j c=>by have d:=h.1;refine⟨?_,h.frozenAt j⟩;rw[h.cellAt j Yv,Zv Yv];rfl
section
attribute [local go_sem↓] Go.wp_at_zero Go.wp_at_succ
end
end Go.Proofs.YtcfjcdpkpiidkaaGreat
