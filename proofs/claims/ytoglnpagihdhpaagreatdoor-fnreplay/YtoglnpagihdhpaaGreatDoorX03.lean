import Derived.Test.YtoglnpagihdhpaaGreatDoorX01
import Derived.Maps.AppendAt
import Derived.Maps.Range
import Derived.Laws.CopyRow
import Derived.Maps.OwnSet
import Derived.DeepKeys5
import Derived.Deep.Upon
import Derived.Deep.DrawnRows
import Derived.Deep.RegionHeld3
import Derived.WideKeyEntry
import Derived.Maps.Views
import Derived.Sort.Walk0
set_option maxRecDepth 100000
set_option maxHeartbeats 16000000
namespace Go.Proofs.YtoglnpagihdhpaaGreatDoor
open ChangeShapes WideShapes ChangeAt RowKit _root_.Go.Proofs.Tryz
variable{a b B g c n i B' base lo cap h:Nat}{w f d W wr:Zh}{v val z u L r:Value}{l k m t:Zj}{T U V e K:TypeId}{s:Zi}{x:Kd}{P:Program}{o:Oper}{now:Int}{p:Zk}{A:Type}
theorem Iq(h:b<a):some a≠some b:=fun e=>by have:=Option.some.inj e;omega
theorem AA(w:Zh)(g p:Nat)(v:Value):w.grownBy (w.setCell (Zd g p) v) (some g):=
 ⟨rfl,rfl,rfl,Yu,fun i _ a=>Below.heap_setCell _ _ _ _ (fun e=>a (by rw[e]))⟩
def Aa(w:Zh)(B:Nat)(l:Zj):Prop:=∀j v,l[j]?=some v->w.cell? (Zd B j)=some v/\w.frozen? ⟨B,j,none⟩=false
theorem Aa.lt(h:Aa w B (v::l)):B<w.heap.size:=World.block_lt_of_cell? w _ (h 0 v rfl).1
theorem Aa.co(h:Aa w B (v::l))(c:w.grownBy f (some b))(a:b<B):Aa f B (v::l):=by intro j x e;have d:=h.lt;exact⟨(c.cell_far ⟨B,j,none⟩ d (Iq a)).trans (h j x e).1,(c.frozen_far ⟨B,j,none⟩ d (Iq a)).trans (h j x e).2⟩
theorem Aa.below(h:Aa w B (v::l))(a:Zz w d):Aa d B (v::l):=by intro j x c;have b:=h.lt;exact⟨(a.cell (p:=⟨B,j,none⟩) b).trans (h j x c).1,(a.frozen (p:=⟨B,j,none⟩) b).trans (h j x c).2⟩
theorem Aa.new(w:Zh)(l:Zj)(T:TypeId):Aa (w.alloc (.cells l.toArray T)) w.heap.size l:=by intro j v a;refine⟨?_,Yu⟩;rw[World.cell?_alloc_at _ _ _ _ rfl];simpa using a
theorem Aa.bu{g:Zh}(h:Aa w B (v::l))(a:w.grownBy g (some c))(i:c≠B):Aa g B (v::l):=by intro j x f;have b:=h.lt;have d:some B≠some c:=fun e=>i (Option.some.inj e).symm;exact⟨(a.cell_far ⟨B,j,none⟩ b d).trans (h j x f).1,(a.frozen_far ⟨B,j,none⟩ b d).trans (h j x f).2⟩
theorem Aa.set(h:Aa w B l)(j:Nat)(v:Value):Aa (w.setCell (Zd B j) v) B (l.set j v):=by
 intro i x a;by_cases hij:i=j
 .subst hij;have b:i<l.length:=by
   rcases Nat.lt_or_ge i l.length with c|c
   .exact c
   .rw[List.getElem?_eq_none (by simpa using c)]at a;cases a
  rw[List.getElem?_set_self b]at a;injection a with a;subst a;obtain⟨d,f⟩:=h i _ (Zv b);exact⟨by simp[go_sem,d],by simpa [go_sem]using f⟩
 .rw[List.getElem?_set_ne (fun e=>hij e.symm)]at a;obtain⟨d,f⟩:=h i x a;refine⟨?_,by simpa [go_sem]using f⟩;rw[World.cell?_setCell_other _ _ _ _ (by intro e;injection e;omega)];exact d
theorem AB(h:W=w.alloc (.cells l.toArray T)):Below w.heap.size w W/\W.heap.size=w.heap.size+1/\Aa W w.heap.size l:=by subst h;exact⟨Zy,Yu,Aa.new w l T⟩
theorem Aa.alloc(h:Aa w B l)(a:B<w.heap.size)(o:Obj):Aa (w.alloc o) B l:=fun j v b=>
 ⟨(((Below.refl w.heap.size w).alloc (Zx) o).cell (p:=⟨B,j,none⟩) a).trans (h j v b).1,(((Below.refl w.heap.size w).alloc (Zx) o).frozen (p:=⟨B,j,none⟩) a).trans (h j v b).2⟩
theorem Bb(h:W=(w.alloc (.cells l.toArray T)).alloc (.cells k.toArray U)):Below w.heap.size w W/\W.heap.size=w.heap.size+2/\Aa W w.heap.size l/\Aa W (w.heap.size+1) k:=by obtain⟨a,d,e⟩:=AB (w:=w) (l:=l) (T:=T) rfl;obtain⟨f,b,c⟩:=AB h;rw[d]at b c;subst h;exact⟨a.trans (f.mono a.size),b,e.alloc Yv _,c⟩
theorem Bo(h:W=((w.alloc (.cells l.toArray T)).alloc (.cells k.toArray U)).alloc (.cells m.toArray V)):Below w.heap.size w W/\W.heap.size=w.heap.size+3/\Aa W w.heap.size l/\Aa W (w.heap.size+1) k/\Aa W (w.heap.size+2) m:=by obtain⟨a,d,e,f⟩:=Bb (w:=w) (l:=l) (T:=T) (k:=k) (U:=U) rfl;obtain⟨g,b,c⟩:=AB h;rw[d]at b c;subst h;exact⟨a.trans (g.mono a.size),b,e.alloc Yv _,f.alloc Yv _,c⟩
theorem YM{n:Zj}{R:TypeId}(h:W=(((w.alloc (.cells l.toArray T)).alloc (.cells k.toArray U)).alloc (.cells m.toArray V)).alloc (.cells n.toArray R)):Below w.heap.size w W/\W.heap.size=w.heap.size+4/\Aa W w.heap.size l/\Aa W (w.heap.size+1) k/\Aa W (w.heap.size+2) m/\Aa W (w.heap.size+3) n:=by obtain⟨a,d,e,f,g⟩:=Bo (w:=w) (l:=l) (T:=T) (k:=k) (U:=U) (m:=m) (V:=V) rfl;obtain⟨i,b,c⟩:=AB h;rw[d]at b c;subst h;exact⟨a.trans (i.mono a.size),b,e.alloc Yv _,f.alloc Yv _,g.alloc Yv _,c⟩
theorem Aa.c2{a b:Value}(h:Aa w B t)(i j:Nat)(c:t[i]?=some a:=by rfl)(d:t[j]?=some b:=by rfl):w.cell? (Zd B i)=some a/\w.cell? (Zd B j)=some b:=
 ⟨(h i _ c).1,(h j _ d).1⟩
theorem Aa.c3{a b c:Value}(h:Aa w B t)(i j k:Nat)(d:t[i]?=some a:=by rfl)(e:t[j]?=some b:=by rfl)(f:t[k]?=some c:=by rfl):w.cell? (Zd B i)=some a/\w.cell? (Zd B j)=some b/\w.cell? (Zd B k)=some c:=
 ⟨(h i _ d).1,(h j _ e).1,(h k _ f).1⟩
theorem Aa.c4{a b c d:Value}(h:Aa w B t)(i j k l:Nat)(e:t[i]?=some a:=by rfl)(f:t[j]?=some b:=by rfl)(g:t[k]?=some c:=by rfl)(m:t[l]?=some d:=by rfl):w.cell? (Zd B i)=some a/\w.cell? (Zd B j)=some b/\w.cell? (Zd B k)=some c/\w.cell? (Zd B l)=some d:=
 ⟨(h i _ e).1,(h j _ f).1,(h k _ g).1,(h l _ m).1⟩
theorem Aa.c6{a b c d e f:Value}(h:Aa w B t)(i j k l m n:Nat)(g:t[i]?=some a:=by rfl)(o:t[j]?=some b:=by rfl)(q:t[k]?=some c:=by rfl)(r:t[l]?=some d:=by rfl)(s:t[m]?=some e:=by rfl)(u:t[n]?=some f:=by rfl):w.cell? (Zd B i)=some a/\w.cell? (Zd B j)=some b/\w.cell? (Zd B k)=some c/\w.cell? (Zd B l)=some d/\w.cell? (Zd B m)=some e/\w.cell? (Zd B n)=some f:=
 ⟨(h i _ g).1,(h j _ o).1,(h k _ q).1,(h l _ r).1,(h m _ s).1,(h n _ u).1⟩
theorem Aa.c7{a b c d e f g:Value}(h:Aa w B t)(i j k l m n o:Nat)(q:t[i]?=some a:=by rfl)(r:t[j]?=some b:=by rfl)(s:t[k]?=some c:=by rfl)(u:t[l]?=some d:=by rfl)(v:t[m]?=some e:=by rfl)(x:t[n]?=some f:=by rfl)(y:t[o]?=some g:=by rfl):w.cell? (Zd B i)=some a/\w.cell? (Zd B j)=some b/\w.cell? (Zd B k)=some c/\w.cell? (Zd B l)=some d/\w.cell? (Zd B m)=some e/\w.cell? (Zd B n)=some f/\w.cell? (Zd B o)=some g:=
 ⟨(h i _ q).1,(h j _ r).1,(h k _ s).1,(h l _ u).1,(h m _ v).1,(h n _ x).1,(h o _ y).1⟩
section
def kB(s:Zi)(i:Nat):Int:=((s.data.toList[i]?).getD 0).toNat
def CR(s:Zi):Array Value:= #[.int .u8 (kB s 0),.int .u8 (kB s 1),.int .u8 (kB s 2),.int .u8 (kB s 3),.int .u8 (kB s 4),.int .u8 (kB s 5),.int .u8 (kB s 6),.int .u8 (kB s 7)]
def Cm:Array Value:= #[.int .u8 0,.int .u8 0,.int .u8 0,.int .u8 0,.int .u8 0,.int .u8 0,.int .u8 0,.int .u8 0]
def Ng(s:Zi):Zj:=List.take (Nat.min s.size 8) (List.map (fun b=>Value.int .u8 b.toNat) s.data.toList)
theorem BH(s:Zi):s.data.toList.length=s.size:=Yu
theorem Ly(s:Zi):(Ng s).length=min s.size 8:=by have:=BH s;simp only[Ng,List.length_take,List.length_map,this];show min (min s.size 8) s.size=_;omega
theorem WC(s:Zi)(i:Nat)(h:i<min s.size 8):(Ng s)[i]?=some (.int .u8 (kB s i)):=by have a:=BH s;unfold Ng kB;rw[List.getElem?_take_of_lt (by show i<min s.size 8;exact h),List.getElem?_map,Zv Yv];simp
theorem WD(s:Zi):(Cm.toList.take (0+0)++Ng s++Cm.toList.drop (0+0+(Ng s).length)).toArray=CR s:=by
 apply Array.ext';apply List.ext_getElem?;intro i;have c:=Ly s;simp only[Nat.add_zero,List.take_zero,List.nil_append,Nat.zero_add];by_cases h:i<min s.size 8
 .rw[List.getElem?_append_left Yv,WC s i h];have b:i<8:=Yv
  match i,b with
  |0,_|1,_|2,_|3,_|4,_|5,_|6,_|7,_=>rfl
 .rw[List.getElem?_append_right Yv,c,List.getElem?_drop,show min s.size 8+(i -min s.size 8)=i from by omega];by_cases b:i<8
  .have a:kB s i=0:=by have d:=BH s;unfold kB;rw[List.getElem?_eq_none Yv];rfl
   match i,b,a with
   |0,_,a|1,_,a|2,_,a|3,_,a|4,_,a|5,_,a|6,_,a|7,_,a=>simp[Cm,CR,a]
  .rw[List.getElem?_eq_none (by simp[Cm];omega),List.getElem?_eq_none (by simp[CR];omega)]
theorem Ow(w:Zh)(a b:Array Value)(t:TypeId):(w.alloc (.cells a t)).setRow w.heap.size b=w.alloc (.cells b t):=by
 unfold World.setRow World.alloc;congr 1;apply Array.ext
 .simp
 .intro i d c;simp only[Array.getElem_modify,Array.getElem_push];split
  .rename_i h
   subst h;simp
  .rename_i h
   simp at c;rw[dif_pos Yv,dif_pos Yv]
theorem Ox(w:Zh)(s:Zi)(d:TypeId):
 (Builtin.copy_ #[22,9] d #[Yz w.heap.size 8 8,.string s]).run prog (w.alloc (.cells Cm 111))=.ok (goInt (Nat.min s.size 8)) (w.alloc (.cells (CR s) 111)):=by
 obtain⟨h,c,e,f,g⟩:=info_parts MU;have a:=run_storeCells_at (P:=prog) w.heap.size 0 111 (Ng s) 0 Cm (w.alloc (.cells Cm 111)) (heap_alloc_new w _) (by rw[Ly];simp[Cm];omega) (fun v b=>by
  have b:=List.mem_of_mem_take b;simp only[List.mem_map]at b;obtain⟨_,_,rfl⟩:=b;rfl)
 rw[WD,Ow]at a;unfold Ng at a;simp[Builtin.copy_,run_underlying underlying22,Builtin.lenOf,Builtin.firstCells,sizeOf,typeInfo,c,a,Result.andThen]
def Cn(s:Zi):Value:=.agg (CR s)
theorem Kk(s:Zi)(w:Zh):
 Calls prog 75 #[.string s] w fun e c=>e=.returned (Cn s)/\Zz w c:=by
 have b:∀a,(Builtin.copy_ #[22,9] a #[Yz (w.heap.size+1) 8 8,.string s]).run prog ((w.alloc (.cells Cm 111)).alloc (.cells Cm 111))=.ok (goInt (Nat.min s.size 8)) ((w.alloc (.cells Cm 111)).alloc (.cells (CR s) 111)):=fun a=>by have:=Ox (w.alloc (.cells Cm 111)) s a;rwa[show(w.alloc (.cells Cm 111)).heap.size=w.heap.size+1 from by simp]at this
 unfold CR Cm at b;go_enter func75,ntmps75;go_wp2;refine bodyPost_ret (v:=Cn s) (by simp[results,results75,go_sem,Cn,CR]) rfl ⟨rfl,?_⟩;exact(Zy).alloc Yu _
theorem Aai(s:Zi)(i:Nat):0<=kB s i/\kB s i<256:=by unfold kB;have:=((s.data.toList[i]?).getD 0).toNat_lt;omega
theorem Aaj(s:Zi)(i:Nat):(Lit.int .u8 (kB s i)).wf=true:=by
 have:=Aai s i;have a:IntKind.u8.min=0:=Yq
 have b:IntKind.u8.max=255:=Yq
 simp only[Lit.wf,a,b,Bool.and_eq_true,decide_eq_true_eq];omega
theorem YN:prog.keyType 111=true:=Yr
theorem Wh:prog.cellsOf 111=8:=Yr
theorem Aak:prog.cellsOf 5=1:=Yr
theorem Ux:prog.underlying 111=some (.array 8 5):=Yr
theorem YO:∃n,prog.types.size=n+1:=⟨prog.types.size -1,Yr⟩
theorem Oy(s:Zi):∃l,keyOf prog 111 (Cn s)=some l:=by obtain⟨n,a⟩:=YO;unfold keyOf;rw[Ux,a];simp only[YN,Cn,Value.formed,Ux,Wh,CR];simp[Value.cells,Program.keyLits,Wh,Aak,List.range_succ,Aaj]
noncomputable def keyL (s:Zi):Lit:=(Oy s).choose
theorem EL(s:Zi):keyOf prog 111 (Cn s)=some (keyL s):=(Oy s).choose_spec
theorem Aal:laidOutB prog=true:=Yr
theorem keyed:Maps.Keyed prog 111:=Maps.Keyed.of_law (deep_law_gate Aal (of_decide_eq_true Yr) (of_decide_eq_true Yr) YN (by rw[Ux]))
theorem key_inj{t:Zi}(h:keyL s=keyL t)(r:s.size=t.size)(q:s.size<=8):s=t:=by
 have a:=EL t;rw[<-h]at a;have d:=keyed.inj (EL s) a;clear a h;have o:∀i,i<8->kB s i=kB t i:=by
  simp only[Cn,CR,Value.agg.injEq,Array.mk.injEq,List.cons.injEq,Value.int.injEq,true_and,and_true]at d;obtain⟨e,f,g,j,k,l,m,n⟩:=d;intro i b
  match i,b with
  |0,_=>exact e
  |1,_=>exact f
  |2,_=>exact g
  |3,_=>exact j
  |4,_=>exact k
  |5,_=>exact l
  |6,_=>exact m
  |7,_=>exact n
 have u:=BH s;have v:=BH t;have c:s.data.toList=t.data.toList:=by
  apply List.ext_getElem?;intro i;by_cases b:i<s.size
  .have:=o i Yv;unfold kB at this;rw[Zv Yv,Zv Yv]at this |-;simp only[Option.getD_some]at this;congr 1;exact UInt8.toNat_inj.1 Yv
  .rw[List.getElem?_eq_none Yv,List.getElem?_eq_none Yv]
 cases s;cases t;simp only[Array.toList_inj]at c;rw[c]
open Classical in
noncomputable def upd (f:Lit->Option Value) (kl:Lit) (v:Value):Lit->Option Value:=fun x=>if x=kl then some v else f x
theorem Df(f:Lit->Option Value)(a:Lit)(v:Value):upd f a v a=some v:=by simp[upd]
theorem Db(f:Lit->Option Value){a x:Lit}(v:Value)(h:x≠a):upd f a v x=f x:=by simp[upd,h]
def Ok(v:Value):Option (DataW Value×List MemPlace):=some (.held v,[])
def AJ(w:Zh)(K:TypeId)(b n:Nat)(f:Lit->Option Value):Prop:=
 ∃D:DataW Value,w.ownsMap prog K Ok b n D/\(∀kl z,D.atKey kl (.held z)=.held ((f kl).getD z))/\∀kl,Maps.has D kl=(f kl).isSome
theorem AJ.new(w:Zh)(K:TypeId):AJ (w.alloc (.map #[] 0)) K w.heap.size 0 (fun _=>none):=
 ⟨.map [],World.ownsMap_made _ _ _ _,fun _ _=>rfl,fun _=>rfl⟩
theorem AJ.ag{a:Zh}{f:Lit->Option Value}(h:AJ w K b n f)(j:Below B w a)(i:b<B):AJ a K b n f:=by obtain⟨D,⟨c,clock,d,e⟩,g⟩:=h;exact⟨D,⟨c,clock,(j.block b i).trans d,e⟩,g⟩
theorem AJ.lt{f:Lit->Option Value}(h:AJ w K b n f):b<w.heap.size:=h.choose_spec.1.lt
theorem AJ.put{t:TypeId}{f:Lit->Option Value}(h:AJ w K b n f)(l:Maps.Keyed prog K)(y:prog.underlying t=some (.map K e))(s:n<maxLen){j:Value}{g:Lit}(a:keyOf prog K j=some g):
 ∃c,(Instr.mapUpdate t (.map (some b)) j val).run prog w=.ok () c/\AJ c K b (n+1) (upd f g val)/\w.grownBy c (some b):=by
 obtain⟨D,k,o,q⟩:=h;obtain⟨c,v,u,r⟩:=k.update l y s a (d:=.held val) (ps:=[]) (val:=val) rfl;have m:=k.isMap;have i:=l.key a;refine⟨c,v,⟨_,u,fun x z=> ?_,fun x=> ?_⟩,r⟩
 .by_cases hx:x=g
  .subst hx;rw[Maps.atKey_put_same m i,Df];rfl
  .rw[Maps.atKey_put_other hx,Db _ _ hx];exact o x z
 .by_cases hx:x=g
  .subst hx;rw[Maps.has_put_same m i,Df];rfl
  .rw[Maps.has_put_other hx,Db _ _ hx];exact q x
theorem AJ.look{t:TypeId}{f:Lit->Option Value}(h:AJ w K b n f)(k:Maps.Keyed prog K)(m:prog.underlying t=some (.map K e))(o:(zeroValue e).run prog w=.ok z w){c:Value}{g:Lit}(a:keyOf prog K c=some g):
 (Instr.lookup t (.map (some b)) c false).run prog w=.ok ((f g).getD z) w:=by
 obtain⟨D,i,j,_⟩:=h;obtain⟨v,q,l,d⟩:=i.lookup k m o (zd:=.held z) (zp:=[]) rfl a;rw[j]at d;simp only[Ok,Option.some.injEq,Prod.mk.injEq,DataW.held.injEq]at d;rw[l,d.1]
theorem AJ.look_ok{t:TypeId}{f:Lit->Option Value}(h:AJ w K b n f)(l:Maps.Keyed prog K)(o:prog.underlying t=some (.map K e))(q:(zeroValue e).run prog w=.ok z w){c:Value}{g:Lit}(a:keyOf prog K c=some g):
 (Instr.lookup t (.map (some b)) c true).run prog w=.ok (.tuple #[(f g).getD z,.bool (f g).isSome]) w:=by
 obtain⟨D,i,j,k⟩:=h;obtain⟨v,r,m,d⟩:=i.look_ok l o q (zd:=.held z) (zp:=[]) rfl a;rw[j]at d;simp only[Ok,Option.some.injEq,Prod.mk.injEq,DataW.held.injEq]at d;rw[m,d.1,k]
end
def Am(s:Zi):Zj:=(CR s).toList
theorem Rj(s:Zi)(j:Nat)(h:j<8):(Am s)[j]?=some (.int .u8 (kB s j)):=by
 match j,h with
 |0,_|1,_|2,_|3,_|4,_|5,_|6,_|7,_=>rfl
def AG(ss:Zl):Zj:=ss.flatMap Am
theorem CW(a:Zl):(AG a).length=a.length *8:=by
 induction a with
 |nil=>rfl
 |cons s a ih=>
  have:(Am s).length=8:=rfl;unfold AG at *
  rw[List.flatMap_cons,List.length_append,ih,List.length_cons,this];omega
theorem EM{a:Zl}{j:Nat}(h:a[i]?=some s)(c:j<8):(AG a)[i *8+j]?=some (.int .u8 (kB s j)):=by
 induction a generalizing i with
 |nil=>simp at h
 |cons t a ih=>
  have b:(Am t).length=8:=rfl;unfold AG at *
  rw[List.flatMap_cons];cases i with
  |zero=>simp at h;subst h;rw[List.getElem?_append_left Yv,Nat.zero_mul,Nat.zero_add];exact Rj t j c
  |succ i=>rw[List.getElem?_append_right Yv,b,show(i+1) *8+j -8=i *8+j by omega];exact ih (by simpa using h)
theorem Lz{a:Zl}{k:Nat}(h:(AG a)[k]?=some u):∃s,a[k/8]?=some s/\u=.int .u8 (kB s (k%8)):=by
 have c:k<a.length *8:=by rw[<-CW];exact(Zw h).1
 have b:k/8<a.length:=Yv
 refine⟨a[k/8],Zv b,?_⟩;have:=EM (j:=k%8) (Zv b) (Nat.mod_lt _ Yq);rw[show k/8 *8+k%8=k by omega,h]at this;exact Option.some.inj this
theorem Gv(a b:Zl):AG (a++b)=AG a++AG b:=by unfold AG;rw[List.flatMap_append]
theorem Dt(c:Zl):∀u∈AG c,u.oneCell'=true:=by intro u b;obtain⟨k,a⟩:=List.getElem?_of_mem b;obtain⟨s,_,rfl⟩:=Lz a;rfl
def R8(w:Zh)(B:Nat)(v:Value)(ss:Zl):Prop:=
 (v=Zb/\ss=[])\/∃g off cap,v=.slice (some ⟨g,off,none⟩) ss.length cap/\g<B/\∀i s,ss[i]?=some s->∀j,j<8->w.cell? (Zd g (off+(i *8+j)))=some (.int .u8 (kB s j))
def GU(w:Zh)(g:Nat):Prop:=∃cur fz,w.heap[g]?=some (.cells cur 111 fz)
theorem GU.lt(h:GU w g):g<w.heap.size:=by obtain⟨_,_,h⟩:=h;exact(Array.getElem?_eq_some_iff.1 h).1
theorem GU.same{a:Zh}(h:GU w g)(b:a.heap[g]?=w.heap[g]?):GU a g:=by obtain⟨c,f,h⟩:=h;exact⟨c,f,b.trans h⟩
theorem GU.iw:∀(vs:Zj) (o:Nat) (w:Zh),GU w g->GU (w.setCells g o vs) g
 |[],_,_,h=>h
 |v::r,o,w,h=>by rw[World.setCells];refine GU.iw r (o+1) _ ?_;obtain⟨c,f,h⟩:=h;refine⟨c.setIfInBounds o v,f,?_⟩;simp[World.setCell,Array.getElem?_modify,h]
def DW(w:Zh)(base:Nat)(v:Value)(ss:Zl):Prop:=
 (v=Zb/\ss=[])\/∃g off cap,v=.slice (some ⟨g,off,none⟩) ss.length cap/\base<=g/\GU w g/\ss.length<=cap/\cap<=maxLen/\
   (∀j,j<cap *8->(w.cell? (Zd g (off+j))).isSome=true/\w.frozen? ⟨g,off+j,none⟩=false)/\
   ∀i s,ss[i]?=some s->∀j,j<8->w.cell? (Zd g (off+(i *8+j)))=some (.int .u8 (kB s j))
def Ai:Value->Option Nat
 |.slice (some a) _ _=>some a.block
 |_=>none
theorem R8.below{c:Zl}(h:R8 w B v c)(e:Below B w d):R8 d B v c:=by
 rcases h with h|⟨g,a,cap,m,b,f⟩
 .exact .inl h
 .exact .inr ⟨g,a,cap,m,b,fun i s l j k=>(e.cell (p:=⟨g,a+(i *8+j),none⟩) b).trans (f i s l j k)⟩
theorem R8.mono{a:Zl}(h:R8 w B v a)(e:B<=B'):R8 w B' v a:=by
 rcases h with h|⟨g,b,cap,d,f,c⟩
 .exact .inl h
 .exact .inr ⟨g,b,cap,d,Yv,c⟩
theorem R8.stays{b:Zh}{a:Zl}(h:R8 w B v a)(d:∀g,Ai v=some g->b.heap[g]?=w.heap[g]?):R8 b B v a:=by
 rcases h with h|⟨g,c,cap,rfl,f,e⟩
 .exact .inl h
 .exact .inr ⟨g,c,cap,rfl,f,fun i s l j k=>(World.cell?_of_block (d g rfl)).trans (e i s l j k)⟩
theorem DW.stays{f:Zl}(h:DW w a v f)(_hz:w.heap.size<=d.heap.size)(b:∀g,Ai v=some g->d.heap[g]?=w.heap[g]?):DW d a v f:=by
 rcases h with h|⟨g,k,cap,rfl,l,q,m,n,e,o⟩
 .exact .inl h
 .exact .inr ⟨g,k,cap,rfl,l,q.same (b g rfl),m,n,fun j c=>⟨by rw[World.cell?_of_block (b g rfl)];exact(e j c).1,by rw[World.frozen?_of_block (b g rfl)];exact(e j c).2⟩,fun i s r j c=>(World.cell?_of_block (b g rfl)).trans (o i s r j c)⟩
theorem DW.below{c:Zh}{b:Zl}(h:DW w base v b)(a:Zz w c):DW c base v b:=by
 have d:=h;rcases h with h|⟨g,i,cap,rfl,j,f,_⟩
 .exact .inl h
 .exact d.stays a.size (fun k e=>by cases e;exact a.block g f.lt)
theorem DW.Z{e:Zl}(h:DW w a v e)(b:Ai v=some g):a<=g/\g<w.heap.size:=by
 rcases h with⟨rfl,_⟩|⟨i,f,cap,rfl,c,d,_⟩
 .cases b
 .cases b;exact⟨c,d.lt⟩
theorem R8.cells{b:Zl}(c:∀i s,b[i]?=some s->∀j,j<8->w.cell? (Zd g (a+(i *8+j)))=some (.int .u8 (kB s j))):∀j u,(AG b)[j]?=some u->w.cell? ((⟨g,a,none⟩:Addr).add j)=some u:=by intro j u e;obtain⟨s,d,rfl⟩:=Lz e;have:=c _ s d (j%8) (Nat.mod_lt _ Yq);rw[show j/8 *8+j%8=j by omega]at this;rw[Go.WideShapes.add_plain];exact this
theorem Kl:(prog.info? 111).map (fun i=>(i.zero,i.size,i.bytes))=some (some (.agg #[.int .u8 0,.int .u8 0,.int .u8 0,.int .u8 0,.int .u8 0,.int .u8 0,.int .u8 0,.int .u8 0]),8,8):=Yr
theorem R8.src{x:Value}{a:Zl}(h:R8 w B x a):Src prog 8 105 x a.length (AG a) w:=by
 rcases h with⟨rfl,rfl⟩|⟨g,b,cap,rfl,_,c⟩
 .exact Src.ofNil w underlying105 0
 .exact Src.ofSlice w underlying105 ⟨g,b,none⟩ a.length cap (AG a) (CW a) (R8.cells c) (Dt a)
theorem DW.fresh(w:Zh)(c:Nat)(b:Zl)(cap:Nat)(z:Array Value)(k:c<=w.heap.size)(g:b.length<=cap)(h:cap<=maxLen)(l:z.size=(cap -b.length) *8):
 DW (w.drew.alloc (.cells ((AG b).toArray++z) 111)) c (Yz w.heap.size b.length cap) b:=by
 have e:=CW b;have a:∀j,(w.drew.alloc (.cells ((AG b).toArray++z) 111)).cell? (Zd (w.heap.size) (0+j))=((AG b).toArray++z)[j]?:=fun j=>by rw[Nat.zero_add];show(w.drew.alloc (.cells ((AG b).toArray++z) 111)).cell? (Zd (w.drew.heap.size) j)=_;rw[World.cell?_alloc_at _ _ _ _ rfl]
 refine .inr ⟨w.heap.size,0,cap,rfl,k,⟨_,_,heap_alloc_new w.drew _⟩,g,h,fun j d=>⟨?_,?_⟩,fun i s f j d=> ?_⟩
 .rw[a,Array.getElem?_eq_getElem (by simp[e,l];omega)];rfl
 .simp[go_sem]
 .rw[a,Array.getElem?_append_left (by have:=(Zw f).1;simp[e];omega)];simpa using EM f d
theorem Gn(b:Nat):∀(vs:Zj) (o:Nat) (w:Zh),(w.setCells b o vs).heap.size=w.heap.size
 |[],_,_=>rfl
 |_::r,o,w=>by rw[World.setCells,Gn b r];simp
theorem Jv(b:Nat):∀(vs:Zj) (o:Nat) (w:Zh),(w.setCells b o vs).tape=w.tape
 |[],_,_=>rfl
 |_::r,o,w=>by rw[World.setCells,Jv b r];rfl
theorem Ib(b:Nat):∀(vs:Zj) (o:Nat) (w:Zh) (x:Addr),(w.cell? x).isSome=true->((w.setCells b o vs).cell? x).isSome=true
 |[],_,_,_,h=>h
 |v::r,o,w,x,h=>by
  rw[World.setCells];refine Ib b r (o+1) _ x ?_;by_cases e:(⟨b,o,none⟩:Addr)=x
  .subst e;obtain⟨u,a⟩:=Option.isSome_iff_exists.1 h;rw[World.cell?_setCell_same _ _ _ a];rfl
  .rw[World.cell?_setCell_other _ _ _ _ e];exact h
theorem WE(w:Zh)(c:Nat)(v:Value)(a:Zl)(O:DW w c v a)(x:Value)(b:Zl)(B:Nat)(W:R8 w B x b)(hn:a.length+b.length<=100000000)(t:c<=w.heap.size)(r:TypeId):
 ∃h m,(Builtin.append_ #[105,105] r #[v,x]).run prog w=.ok h m/\DW m c h (a++b)/\w.grownBy m (Ai v)/\(Ai h=Ai v\/Ai h=some w.heap.size):=by
 obtain⟨i,C,U,o,V⟩:=info_parts Kl;have l:Src prog i.size 105 x b.length (AG b) w:=by rw[o];exact W.src
 by_cases h0:b=[]
 .subst h0;rw[List.append_nil];rcases O with⟨rfl,rfl⟩|⟨g,d,cap,rfl,G,M,H,I,q,A⟩
  .exact⟨_,w,run_append_nothing w _ _ r _ i underlying105 C none 0 0 (Zx) x l,.inl ⟨rfl,rfl⟩,⟨rfl,rfl,rfl,Zx,fun _ _ _=>rfl⟩,.inl rfl⟩
  .exact⟨_,w,run_append_nothing w _ _ r _ i underlying105 C _ _ _ H x l,.inr ⟨g,d,cap,rfl,G,M,H,I,q,A⟩,⟨rfl,rfl,rfl,Zx,fun _ _ _=>rfl⟩,.inl rfl⟩
 .have T:=List.length_pos_iff.2 h0;have grow:∀(z:Zk) (cap:Nat),cap<a.length+b.length->(Builtin.firstCells i.size a.length (.slice z a.length cap)).run prog w.drew=.ok (AG a).toArray w.drew->
   ∃h m,(Builtin.append_ #[105,105] r #[.slice z a.length cap,x]).run prog w=.ok h m/\DW m c h (a++b)/\(∀row,w.grownBy m row)/\Ai h=some w.heap.size:=by
   intro z cap E hold;have n:=run_append_grow_src w _ _ r _ i _ underlying105 C U z a.length cap (AG a) hold x b.length (AG b) l E Yv (by
    have:=nextslicecap_le E;rw[V];omega)
   rw[<-Gv]at n;have P:=grownCap_ge w (a.length+b.length) cap 111;have R:=grownCap_le_maxLen w (a.length+b.length) cap 111 Yo
   have D:=DW.fresh w c (a++b) (grownCap w (a.length+b.length) cap 111) (Builtin.zeroCells (Value.agg #[.int .u8 0,.int .u8 0,.int .u8 0,.int .u8 0,.int .u8 0,.int .u8 0,.int .u8 0,.int .u8 0]).cells (grownCap w (a.length+b.length) cap 111 -(a.length+b.length))) t (by simpa using P) R (by rw[size_zeroCells,List.length_append];rfl);rw[List.length_append]at D
   exact⟨_,_,n,D,fun row=>⟨rfl,rfl,rfl,Yu,fun k N _=>heap_alloc_old w.drew _ N⟩,rfl⟩
  rcases O with⟨rfl,rfl⟩|⟨g,d,cap,rfl,G,M,H,I,q,A⟩
  .obtain⟨h,m,n,J,K,L⟩:=grow none 0 (by simpa using T) (run_firstCells_none w.drew _ _ _ _);exact⟨h,m,n,J,K _,.inr L⟩
  .by_cases hroom:a.length+b.length<=cap
   .have Z:=CW b;have y:∀j,j<(AG b).length->(a.length *8+j)<cap *8:=fun j f=>by omega
    have n:=run_append_room_src w _ _ r _ i underlying105 C g d a.length cap x b.length (AG b) l hroom (fun j f=>by rw[o,Nat.add_assoc];exact(q _ (y j f)).1) (fun j f=>by rw[o,Nat.add_assoc];exact(q _ (y j f)).2);rw[o]at n;have X:=World.keptBut_setCells g (may:=fun _=>True) (AG b) (d+a.length *8) w (fun _ _=>trivial)
    refine⟨_,_,n,.inr ⟨g,d,cap,by rw[List.length_append],G,GU.iw _ _ _ M,by rw[List.length_append];exact hroom,I,fun j f=>⟨?_,?_⟩,fun k s u j f=> ?_⟩,⟨World.os_setCells _ _ _ _,Jv _ _ _ _,World.output_setCells _ _ _ _,by rw[Gn];exact Zx,fun k N S=>World.heap_setCells_other _ _ _ _ N (fun e=>S (by rw[e];rfl))⟩,.inl rfl⟩
    .exact Ib _ _ _ _ _ (q j f).1
    .rw[World.frozen?_setCells];exact(q j f).2
    .rcases Nat.lt_or_ge k a.length with F|F
     .rw[List.getElem?_append_left F]at u;rw[World.cell?_setCells_out _ _ _ _ _ (fun _ _=> .inl Yt)];exact A k s u j f
     .rw[List.getElem?_append_right F]at u;have Y:=(Zw u).1;have Q:=World.cell?_setCells_in g (AG b) (d+a.length *8) w (fun j f=>by rw[Nat.add_assoc];exact(q _ (y j f)).1) ((k -a.length) *8+j) Yv;rw[show d+(k *8+j)=d+a.length *8+((k -a.length) *8+j) by omega,Q];have:=EM u f;rw[Zv Yv]at this;exact this
   .obtain⟨h,m,n,J,K,L⟩:=grow (some ⟨g,d,none⟩) cap Yv (run_firstCells_some w.drew _ _ _ _ _ _ (by rw[o];exact CW a) (by simpa using R8.cells A));exact⟨h,m,n,J,K _,.inr L⟩
theorem wpList_append_run{b:Array Oper}{rest:List Oper}{a:Act}{Q:Exit->Act->Zh->Prop}(f:o.guard=none)(s x:Operand)(t u:TypeId)(i:o.op=.call {callee:=.builtin .append,args:= #[s,x],argTypes:= #[t,u]}){e c:Value}(k:a.eval s=v)(l:a.eval x=e)(j:(Builtin.append_ #[t,u] o.type #[v,e]).run P w=.ok c d)(h:wpList P b Q rest (a.put o.dst c) d):wpList P b Q (o::rest) a w:=by
 refine wpList_plain f fun K g=> ?_;unfold Oper.wp execOp;simp only[i,resolve,invoke,builtin,Sem.run_bind,Sem.run_pure,Result.andThen_ok,List.map_toArray,List.map_cons,List.map_nil,k,l,j];exact g _ _ h
theorem Bv{b:Array Oper}{a:Act}{K:Act->Zh->Prop}{Q:Exit->Act->Zh->Prop}{E:Prop}(f:o.guard=none)(s x:Operand)(t u:TypeId)(g:o.op=.call {callee:=.builtin .append,args:= #[s,x],argTypes:= #[t,u]}){e c:Value}(j:a.eval s=v)(l:a.eval x=e)(i:(Builtin.append_ #[t,u] o.type #[v,e]).run P w=.ok c d)(h:K (a.put o.dst c) d):
 if Region.wanted o (yielded b a.tmps)=true then Oper.wp P o a w K Q else E:=by
 have k:Region.wanted o (yielded b a.tmps)=true:=by simp[Region.wanted,f]
 rw[if_pos k];unfold Oper.wp execOp;simp only[g,resolve,invoke,builtin,Sem.run_bind,Sem.run_pure,Result.andThen_ok,List.map_toArray,List.map_cons,List.map_nil,j,l,i];exact h
structure Rk (ks:List Kd):Prop where
 len:ks.length<=maxLen
 sum:∀k∈ks,k.sum.size<=maxLen
 J:∀k∈ks,k.J.size<=maxLen
 B:∀k∈ks,k.B.length<=maxLen
 ref:∀k∈ks,∀s∈k.B,s.size<=maxLen
structure Rl (ps:List Pd):Prop where
 len:ps.length<=maxLen
 name:∀p∈ps,p.name.size<=maxLen
 sum:∀p∈ps,p.sum.size<=maxLen
structure Rm (ls:List Ld):Prop where
 len:ls.length<=maxLen
 sum:∀l∈ls,l.sum.size<=maxLen
def AN(w:Zh)(b:Nat)(wd now given births:Int)(T P L:Value):Prop:=
 w.cell? (Zd b 0)=some (Zg wd)/\w.cell? (Zd b 1)=some (Zg now)/\w.cell? (Zd b 2)=some (Zg given)/\w.cell? (Zd b 3)=some (Zg births)/\
  w.cell? (Zd b 4)=some T/\w.cell? (Zd b 5)=some P/\w.cell? (Zd b 6)=some L/\b<w.heap.size
theorem AN.new(w:Zh)(c now b a:Int)(T P L:Value)(t:TypeId):AN (w.alloc (.cells #[Zg c,Zg now,Zg b,Zg a,T,P,L] t)) w.heap.size c now b a T P L:=
 ⟨Yu,Yu,Yu,Yu,Yu,Yu,Yu,Yu⟩
theorem AN.ag{g c a:Int}{T P:Value}(h:AN w b g now c a T P L)(d:Below B w f)(e:b<B):AN f b g now c a T P L:=by
 obtain⟨i,j,k,l,m,n,o,q⟩:=h;exact⟨(d.cell (p:=⟨b,0,none⟩) e).trans i,(d.cell (p:=⟨b,1,none⟩) e).trans j,(d.cell (p:=⟨b,2,none⟩) e).trans k,(d.cell (p:=⟨b,3,none⟩) e).trans l,
  (d.cell (p:=⟨b,4,none⟩) e).trans m,(d.cell (p:=⟨b,5,none⟩) e).trans n,(d.cell (p:=⟨b,6,none⟩) e).trans o,Zr q d.size⟩
theorem AN.below{e c a:Int}{T P:Value}(h:AN w b e now c a T P L)(f:Zz w d):AN d b e now c a T P L:=h.ag f h.2.2.2.2.2.2.2
structure Bt (w:Zh) (B:Nat) (a p l:Zk) (ks:List Kd) (ps:List Pd) (ls:List Ld):Prop where
 k:Bu w B a ks
 p:AO w B p ps
 l:AM w B l ls
theorem Bt.N{c:Zh}{a l:Zk}{d:List Kd}{f:List Pd}{e:List Ld}(h:Bt w w.heap.size a p l d f e)(b:Zz w c):Bt c c.heap.size a p l d f e:=
 ⟨(h.k.below b).mono b.size,(h.p.below b).mono b.size,(h.l.below b).mono b.size⟩
theorem Bt.ag{a l:Zk}{c:List Kd}{e:List Pd}{d:List Ld}(h:Bt w B a p l c e d)(b:Below B w f):Bt f B a p l c e d:=
 ⟨h.k.below b,h.p.below b,h.l.below b⟩
theorem Bt.mono{a l:Zk}{c:List Kd}{e:List Pd}{d:List Ld}(h:Bt w B a p l c e d)(b:B<=B'):Bt w B' a p l c e d:=
 ⟨h.k.mono b,h.p.mono b,h.l.mono b⟩
structure Ro (ks:List Kd) (ps:List Pd) (ls:List Ld):Prop where
 k:ks.length<=1048576
 r:∀k∈ks,k.B.length<=1048576
 p:ps.length<=1048576
 l:ls.length<=1048576
def Km(w:Zh)(lo g c:Nat)(rs:Zl):Prop:=w.ownsRow lo 9 1 (.slice (some ⟨g,0,none⟩) rs.length c) rs.length (rs.map Value.string)
def LA(w:Zh)(lo:Nat)(xs:Zj)(i:Nat)(x:Kd):Prop:=
 xs[i *4]?=some (.string x.sum)/\xs[i *4+1]?=some (Zg x.born)/\xs[i *4+2]?=some (.string x.J)/\
  ∃g,xs[i *4+3]?=some (.slice (some ⟨g,0,none⟩) x.B.length x.B.length)/\Km w lo g x.B.length x.B
theorem IE:(prog.info? 66).map (fun i=>(i.zero,i.size,i.bytes))=some (some (.agg #[Zc,Ze,Zc,Zb]),4,64):=Yr
theorem Km.ag{b:Zl}(h:Km w lo g c b)(a:Zz w d):Km d lo g c b:=
 World.ownsRow.kept h (row:=none) ⟨a.os,a.tape,a.output,a.size,fun k e _=>a.block k e⟩ (.inr (by simp[Value.ownBlock]))
theorem LA.ag{a:Zh}{b:Zj}(h:LA w lo b i x)(k:Zz w a):LA a lo b i x:=by obtain⟨c,d,e,g,f,j⟩:=h;exact⟨c,d,e,g,f,j.ag k⟩
def Abl(xs:Zj)(n:Nat):Prop:=∀(i j q q' m c m' c':Nat),i<j->j<n->xs[i *4+3]?=some (.slice (some ⟨q,0,none⟩) m c)->xs[j *4+3]?=some (.slice (some ⟨q',0,none⟩) m' c')->q<q'
def FU(w:Zh)(lo g:Nat)(ks:List Kd):Prop:=
 ∃xs,w.ownsRow lo 66 4 (.slice (some ⟨g,0,none⟩) ks.length ks.length) ks.length xs/\(∀i x,ks[i]?=some x->LA w (g+1) xs i x)/\Abl xs ks.length
theorem FU.row{c:List Kd}(h:FU w lo g c):Bu w w.heap.size (some ⟨g,0,none⟩) c:=by obtain⟨n,a,l,_⟩:=h;refine .inr ⟨g,0,rfl,(a.lt g rfl).2,fun i x b=> ?_⟩;have m:=(Zw b).1;obtain⟨d,e,f,q,j,k⟩:=l i x b;rw[Nat.zero_add];exact⟨(a.cellAt _ Yv).trans d,(a.cellAt _ Yv).trans e,(a.cellAt _ Yv).trans f,_,_,(a.cellAt _ Yv).trans j,Ad.own k⟩
theorem Ir:(prog.info? 69).map (fun i=>(i.zero,i.size,i.bytes))=some (some (.agg #[Zc,Zc]),2,32):=Yr
def Gw(w:Zh)(lo g:Nat)(ps:List Pd):Prop:=
 ∃xs,w.ownsRow lo 69 2 (.slice (some ⟨g,0,none⟩) ps.length ps.length) ps.length xs/\∀i x,ps[i]?=some x->xs[i *2]?=some (.string x.name)/\xs[i *2+1]?=some (.string x.sum)
theorem Gw.row{c:List Pd}(h:Gw w lo g c):AO w w.heap.size (some ⟨g,0,none⟩) c:=by obtain⟨k,a,f⟩:=h;refine .inr ⟨g,0,rfl,(a.lt g rfl).2,fun i x b=> ?_⟩;have j:=(Zw b).1;obtain⟨d,e⟩:=f i x b;rw[Nat.zero_add];exact⟨(a.cellAt _ Yv).trans d,(a.cellAt _ Yv).trans e⟩
theorem Ho:(prog.info? 71).map (fun i=>(i.zero,i.size,i.bytes))=some (some (.agg #[Ze,Zc,Ze]),3,32):=Yr
def Gx(w:Zh)(lo g:Nat)(ls:List Ld):Prop:=
 ∃xs,w.ownsRow lo 71 3 (.slice (some ⟨g,0,none⟩) ls.length ls.length) ls.length xs/\∀i x,ls[i]?=some x->xs[i *3]?=some (Zg x.H)/\xs[i *3+1]?=some (.string x.sum)/\xs[i *3+2]?=some (Zg x.R)
theorem Gx.row{c:List Ld}(h:Gx w lo g c):AM w w.heap.size (some ⟨g,0,none⟩) c:=by obtain⟨l,a,j⟩:=h;refine .inr ⟨g,0,rfl,(a.lt g rfl).2,fun i x b=> ?_⟩;have k:=(Zw b).1;obtain⟨d,e,f⟩:=j i x b;rw[Nat.zero_add];exact⟨(a.cellAt _ Yv).trans d,(a.cellAt _ Yv).trans e,(a.cellAt _ Yv).trans f⟩
theorem FU.ag{c:Zh}{b:List Kd}(h:FU w lo g b)(a:Zz w c):FU c lo g b:=by obtain⟨k,f,e,d⟩:=h;exact⟨k,f.kept (Al none a) (.inr (by simp[Value.ownBlock])),fun i x j=>(e i x j).ag a,d⟩
theorem Gw.ag{b:Zh}{a:List Pd}(h:Gw w lo g a)(c:Zz w b):Gw b lo g a:=by obtain⟨f,e,d⟩:=h;exact⟨f,e.kept (Al none c) (.inr (by simp[Value.ownBlock])),d⟩
theorem Gx.ag{b:Zh}{a:List Ld}(h:Gx w lo g a)(c:Zz w b):Gx b lo g a:=by obtain⟨f,e,d⟩:=h;exact⟨f,e.kept (Al none c) (.inr (by simp[Value.ownBlock])),d⟩
theorem FU.setCell{c:List Kd}(h:FU w lo g c){a:Addr}(l:a.block<lo)(u:Value):FU (w.setCell a u) lo g c:=by obtain⟨r,b,n,m⟩:=h;have:=(b.lt g rfl).1;refine⟨r,ownsRow_setCell_below b l u,fun i x o=> ?_,m⟩;obtain⟨d,e,f,q,j,k⟩:=n i x o;exact⟨d,e,f,q,j,ownsRow_setCell_below k Yv u⟩
theorem Gw.setCell{b:List Pd}(h:Gw w lo g b){a:Addr}(c:a.block<lo)(u:Value):Gw (w.setCell a u) lo g b:=by obtain⟨f,e,d⟩:=h;exact⟨f,ownsRow_setCell_below e c u,d⟩
theorem Gx.setCell{b:List Ld}(h:Gx w lo g b){a:Addr}(c:a.block<lo)(u:Value):Gx (w.setCell a u) lo g b:=by obtain⟨f,e,d⟩:=h;exact⟨f,ownsRow_setCell_below e c u,d⟩
theorem FU.mono{b:List Kd}(h:FU w lo g b)(d:a<=lo):FU w a g b:=by obtain⟨f,e,c⟩:=h;exact⟨f,e.mono d,c⟩
theorem Gw.mono{b:List Pd}(h:Gw w lo g b)(d:a<=lo):Gw w a g b:=by obtain⟨f,e,c⟩:=h;exact⟨f,e.mono d,c⟩
theorem Gx.mono{b:List Ld}(h:Gx w lo g b)(d:a<=lo):Gx w a g b:=by obtain⟨f,e,c⟩:=h;exact⟨f,e.mono d,c⟩
structure Jw (w:Zh) (lo g p l:Nat) (ks:List Kd) (ps:List Pd) (ls:List Ld):Prop where
 k:FU w lo g ks
 p:Gw w lo p ps
 l:Gx w lo l ls
theorem Jw.rows{p l:Nat}{a:List Kd}{c:List Pd}{b:List Ld}(h:Jw w lo g p l a c b):Bt w w.heap.size (some ⟨g,0,none⟩) (some ⟨p,0,none⟩) (some ⟨l,0,none⟩) a c b:=⟨h.k.row,h.p.row,h.l.row⟩
def Ab{A:Type}(c:A->Zj)(xs:List A):Zj:=xs.flatMap c
theorem By{c:A->Zj}(h:∀x,(c x).length=n)(a:List A):(Ab c a).length=a.length *n:=by
 unfold Ab;induction a with
 |nil=>simp
 |cons x a ih=>rw[List.flatMap_cons,List.length_append,ih,h,List.length_cons,Nat.add_mul];omega
theorem Bn(c:A->Zj)(a b:List A):Ab c (a++b)=Ab c a++Ab c b:=by unfold Ab;rw[List.flatMap_append]
theorem Cz{c:A->Zj}(h:∀x,(c x).length=n):∀{xs:List A} {i j:Nat} {x:A},xs[i]?=some x->j<n->(Ab c xs)[i *n+j]?=(c x)[j]?
 |[],_,_,_,hx,_=>by simp at hx
 |y::ys,0,j,x,hx,hj=>by simp at hx;subst hx;show(y::ys|>.flatMap c)[_]?=_;rw[List.flatMap_cons,Nat.zero_mul,Nat.zero_add,List.getElem?_append_left (by rw[h];exact hj)]
 |y::ys,i+1,j,x,hx,hj=>by
  have a:ys[i]?=some x:=by simpa using hx
  show(y::ys|>.flatMap c)[_]?=_;rw[List.flatMap_cons,List.getElem?_append_right (by rw[h,Nat.add_mul];omega),h,show(i+1) *n+j -n=i *n+j by rw[Nat.add_mul];omega];exact Cz h a hj
theorem QG{c:A->Zj}(h:∀x,(c x).length=n)(f:0<n){a:List A}{k:Nat}(d:(Ab c a)[k]?=some u):∃x,a[k/n]?=some x/\(c x)[k%n]?=some u:=by have e:=(Zw d).1;rw[By h]at e;have b:=Nat.div_lt_of_lt_mul (by rw[Nat.mul_comm];exact e);refine⟨a[k/n],Zv b,?_⟩;have:=Cz h (Zv b) (Nat.mod_lt k f);rw[show k/n *n+k%n=k by rw[Nat.mul_comm];exact Nat.div_add_mod k n]at this;rw[<-this];exact d
theorem FV{c:A->Zj}(h:∀x,(c x).length=n)(a:List A)(i:Nat)(e:i<=a.length):(Ab c a).take (i *n)=Ab c (a.take i):=by
 have b:Ab c a=Ab c (a.take i)++Ab c (a.drop i):=by rw[<-Bn,List.take_append_drop]
 have d:(Ab c (a.take i)).length=i *n:=by rw[By h,List.length_take,Nat.min_eq_left e]
 rw[b,<-d,List.take_left]
theorem Fm{c:A->Zj}(h:∀x,(c x).length=n)(a:List A)(i:Nat)(e:i<=a.length):(Ab c a).drop (i *n)=Ab c (a.drop i):=by
 have b:Ab c a=Ab c (a.take i)++Ab c (a.drop i):=by rw[<-Bn,List.take_append_drop]
 have d:(Ab c (a.take i)).length=i *n:=by rw[By h,List.length_take,Nat.min_eq_left e]
 rw[b,<-d,List.drop_left]
def pC(p:Pd):Zj:=[.string p.name,.string p.sum]
def lC(l:Ld):Zj:=[Zg l.H,.string l.sum,Zg l.R]
theorem Cg(p:Pd):(pC p).length=2:=rfl
theorem CU(l:Ld):(lC l).length=3:=rfl
theorem Ex(s:Zi):(Am s).length=8:=rfl
theorem Gj(a:Zl):AG a=Ab Am a:=rfl
theorem Jy(c:List Pd):∀u∈Ab pC c,u.oneCell'=true:=by intro u b;obtain⟨p,_,a⟩:=List.mem_flatMap.1 b;simp[pC]at a;rcases a with rfl|rfl<;>rfl
theorem Uy(c:List Ld):∀u∈Ab lC c,u.oneCell'=true:=by intro u b;obtain⟨p,_,a⟩:=List.mem_flatMap.1 b;simp[lC]at a;rcases a with rfl|rfl|rfl<;>rfl
theorem Co{size:Nat}{f:Zj}(h:w.ownsRow a e size v n f)(d:v≠Zb):∃g cap,v=Yz g n cap/\a<=g/\g<w.heap.size:=by
 rcases h.2 with⟨e,_⟩|⟨g,cap,i,rfl,b,c,_⟩
 .exact absurd e d
 .exact⟨g,cap,rfl,b,(Array.getElem?_eq_some_iff.1 c).1⟩
theorem AO.dm{f:List Pd}(h:AO w B (some ⟨b,a,none⟩) f):∀j u,(Ab pC f)[j]?=some u->w.cell? ((⟨b,a,none⟩:Addr).add j)=some u:=by
 intro j u l;obtain⟨p,d,c⟩:=QG Cg Yq l;rcases h with h|⟨o,g,i,_,k⟩
 .subst h;simp at d
 .cases i;obtain⟨m,n⟩:=k _ p d;rw[Go.WideShapes.add_plain];have q:=Nat.mod_lt j (show 0<2 by decide);rcases(show j%2=0\/j%2=1 by omega)with e|e<;>rw[e]at c<;>simp[pC]at c<;>subst c
  .rw[show a+j=a+j/2 *2 by omega];exact m
  .rw[show a+j=a+j/2 *2+1 by omega];exact n
theorem AM.dm{f:List Ld}(h:AM w B (some ⟨b,a,none⟩) f):∀j u,(Ab lC f)[j]?=some u->w.cell? ((⟨b,a,none⟩:Addr).add j)=some u:=by
 intro j u l;obtain⟨p,e,d⟩:=QG CU Yq l;rcases h with h|⟨q,g,i,_,k⟩
 .subst h;simp at e
 .cases i;obtain⟨m,n,o⟩:=k _ p e;rw[Go.WideShapes.add_plain];have r:=Nat.mod_lt j (show 0<3 by decide);rcases(show j%3=0\/j%3=1\/j%3=2 by omega)with c|c|c<;>rw[c]at d<;>simp[lC]at d<;>subst d
  .rw[show a+j=a+j/3 *3 by omega];exact m
  .rw[show a+j=a+j/3 *3+1 by omega];exact n
  .rw[show a+j=a+j/3 *3+2 by omega];exact o
theorem AO.own{a:Zk}{b:List Pd}(h:w.ownsRow c 69 2 (.slice a b.length cap) b.length (Ab pC b)):AO w w.heap.size a b:=by
 rcases h.2 with⟨e,m⟩|⟨g,f,n,l,o,q,_⟩
 .exact .inl (List.length_eq_zero_iff.1 m)
 .cases l;refine .inr ⟨g,0,rfl,(h.lt g rfl).2,fun i x d=> ?_⟩;have r:=(Zw d).1;have j:=Cz Cg d (show 0<2 by decide);have k:=Cz Cg d (show 1<2 by decide);rw[Nat.zero_add];exact⟨(h.cellAt _ Yv).trans j,(h.cellAt _ Yv).trans k⟩
theorem AM.own{d:Nat}{a:Zk}{c:List Ld}(h:w.ownsRow d 71 3 (.slice a c.length cap) c.length (Ab lC c)):AM w w.heap.size a c:=by
 rcases h.2 with⟨e,n⟩|⟨g,f,o,m,q,r,_⟩
 .exact .inl (List.length_eq_zero_iff.1 n)
 .cases m;refine .inr ⟨g,0,rfl,(h.lt g rfl).2,fun i x b=> ?_⟩;have s:=(Zw b).1;have j:=Cz CU b (show 0<3 by decide);have k:=Cz CU b (show 1<3 by decide);have l:=Cz CU b (show 2<3 by decide);rw[Nat.zero_add];exact⟨(h.cellAt _ Yv).trans j,(h.cellAt _ Yv).trans k,(h.cellAt _ Yv).trans l⟩
theorem AO.dx{a:Addr}{c:List Pd}(h:AO w B (some a) c):∀j u,(Ab pC c)[j]?=some u->w.cell? (a.add j)=some u:=by
 rcases h with rfl|⟨b,d,e,f,g⟩
 .intro j u i;simp[Ab]at i
 .cases e;exact AO.dm (.inr ⟨b,d,rfl,f,g⟩)
theorem AM.dx{a:Addr}{c:List Ld}(h:AM w B (some a) c):∀j u,(Ab lC c)[j]?=some u->w.cell? (a.add j)=some u:=by
 rcases h with rfl|⟨b,d,e,f,g⟩
 .intro j u i;simp[Ab]at i
 .cases e;exact AM.dm (.inr ⟨b,d,rfl,f,g⟩)
theorem Ad.dx{d:Addr}{c:Zl}(h:Ad w B (some d) c):∀j u,(c.map Value.string)[j]?=some u->w.cell? (d.add j)=some u:=by
 rcases h with rfl|⟨b,g,e,i,f⟩
 .intro j u a;simp at a
 .cases e;intro j u a;rw[List.getElem?_map]at a;cases hs:c[j]? with
  |none=>rw[hs]at a;cases a
  |some s=>rw[hs]at a;cases a;rw[Go.WideShapes.add_plain];exact f j s hs
theorem AO.nil{a:List Pd}(h:AO w B none a):a=[]:=by
 rcases h with h|⟨_,_,h,_⟩
 .exact h
 .cases h
theorem AM.nil{a:List Ld}(h:AM w B none a):a=[]:=by
 rcases h with h|⟨_,_,h,_⟩
 .exact h
 .cases h
theorem Ad.nil{a:Zl}(h:Ad w B none a):a=[]:=by
 rcases h with h|⟨_,_,h,_⟩
 .exact h
 .cases h
theorem Jz(a:Zk)(cap:Nat)(b:List Pd)(w:Zh)(i:AO w w.heap.size a b)(E:b.length<=1048576):
 Calls prog 40 #[.slice a b.length cap] w fun e q=>∃l n,e=.returned (.slice l b.length n)/\
  q.ownsRow w.heap.size 69 2 (.slice l b.length n) b.length (Ab pC b)/\Zz w q:=by
 rcases a with _|m
 .obtain rfl:=i.nil;have d:∀u:Zh,(binOp .eql 27 (.slice none 0 cap) Zb).run prog u=.ok (.bool true) u:=fun _=>by first|rfl|kernel_rfl
  go_enter func40,ntmps40;go_wp2;go_ret;exact⟨none,0,rfl,⟨rfl,.inl ⟨rfl,rfl⟩⟩,Ae⟩
 obtain⟨A,y,r,s,t⟩:=info_parts Ir;have h:Below w.heap.size w (w.alloc (.cells #[] 69)):=Zy;have d:∀u:Zh,(binOp .eql 27 (.slice (some m) b.length cap) Zb).run prog u=.ok (.bool false) u:=fun _=>by first|rfl|kernel_rfl
 go_enter func40,ntmps40;go_wp2_with (first
  |(at_builtin;refine wpList_append_own _ rfl _ _ 27 rfl w.heap.size 69 A _ 2 32 underlying27 y r s t rfl Yq _ 0 (Ab pC []) rfl ?d0 m b.length cap (Ab pC b) rfl ?d1 ?d2 ?d3 ?d4 ?d5 ?d6 ?_)
  |go_in)
 case d0=>exact World.ownsRow_lit (base:=w.heap.size) (e:=69) (size:=2) w #[] 0 (Zx) Yo rfl
 case d1=>exact By Cg b
 case d2=>exact(i.below h).dx
 case d3=>exact Jy b
 case d4=>unfold maxLen;omega
 case d5=>omega
 case d6=>simp
 intro F B c f g;obtain⟨x,v,rfl,C,D⟩:=Co c g;rw[<-Bn,List.nil_append]at c;have o:Below w.heap.size w B:=h.grown f Yu (fun k z=>by simp[Value.ownBlock]at z;omega);have j:=Yw (Zn c o);try simp only[Nat.zero_add]at *
 clear c f g o h i;go_wp2;go_ret;exact⟨_,v,rfl,j.o.1,j.o.2⟩
theorem Is(a:Zk)(cap:Nat)(b:List Ld)(w:Zh)(i:AM w w.heap.size a b)(E:b.length<=1048576):
 Calls prog 41 #[.slice a b.length cap] w fun e q=>∃l n,e=.returned (.slice l b.length n)/\
  q.ownsRow w.heap.size 71 3 (.slice l b.length n) b.length (Ab lC b)/\Zz w q:=by
 rcases a with _|m
 .obtain rfl:=i.nil;have d:∀u:Zh,(binOp .eql 28 (.slice none 0 cap) Zb).run prog u=.ok (.bool true) u:=fun _=>by first|rfl|kernel_rfl
  go_enter func41,ntmps41;go_wp2;go_ret;exact⟨none,0,rfl,⟨rfl,.inl ⟨rfl,rfl⟩⟩,Ae⟩
 obtain⟨A,y,r,s,t⟩:=info_parts Ho;have h:Below w.heap.size w (w.alloc (.cells #[] 71)):=Zy;have d:∀u:Zh,(binOp .eql 28 (.slice (some m) b.length cap) Zb).run prog u=.ok (.bool false) u:=fun _=>by first|rfl|kernel_rfl
 go_enter func41,ntmps41;go_wp2_with (first
  |(at_builtin;refine wpList_append_own _ rfl _ _ 28 rfl w.heap.size 71 A _ 3 32 underlying28 y r s t rfl Yq _ 0 (Ab lC []) rfl ?d0 m b.length cap (Ab lC b) rfl ?d1 ?d2 ?d3 ?d4 ?d5 ?d6 ?_)
  |go_in)
 case d0=>exact World.ownsRow_lit (base:=w.heap.size) (e:=71) (size:=3) w #[] 0 (Zx) Yo rfl
 case d1=>exact By CU b
 case d2=>exact(i.below h).dx
 case d3=>exact Uy b
 case d4=>unfold maxLen;omega
 case d5=>omega
 case d6=>simp
 intro F B c f g;obtain⟨x,v,rfl,C,D⟩:=Co c g;rw[<-Bn,List.nil_append]at c;have o:Below w.heap.size w B:=h.grown f Yu (fun k z=>by simp[Value.ownBlock]at z;omega);have j:=Yw (Zn c o);try simp only[Nat.zero_add]at *
 clear c f g o h i;go_wp2;go_ret;exact⟨_,v,rfl,j.o.1,j.o.2⟩
theorem Oz(a:Zk)(cap:Nat)(b:Zl)(w:Zh)(i:Ad w w.heap.size a b)(E:b.length<=1048576):
 Calls prog 42 #[.slice a b.length cap] w fun e q=>∃l n,e=.returned (.slice l b.length n)/\
  q.ownsRow w.heap.size 9 1 (.slice l b.length n) b.length (b.map Value.string)/\Zz w q:=by
 rcases a with _|m
 .obtain rfl:=i.nil;have d:∀u:Zh,(binOp .eql 23 (.slice none 0 cap) Zb).run prog u=.ok (.bool true) u:=fun _=>by first|rfl|kernel_rfl
  go_enter func42,ntmps42;go_wp2;go_ret;exact⟨none,0,rfl,⟨rfl,.inl ⟨rfl,rfl⟩⟩,Ae⟩
 obtain⟨A,y,r,s,t⟩:=info_parts Cq;have h:Below w.heap.size w (w.alloc (.cells #[] 9)):=Zy;have d:∀u:Zh,(binOp .eql 23 (.slice (some m) b.length cap) Zb).run prog u=.ok (.bool false) u:=fun _=>by first|rfl|kernel_rfl
 go_enter func42,ntmps42;go_wp2_with (first
  |(at_builtin;refine wpList_append_own _ rfl _ _ 23 rfl w.heap.size 9 A Zc 1 16 underlying23 y r s t rfl Yq _ 0 (([]:Zl).map Value.string) rfl ?d0 m b.length cap (b.map Value.string) rfl ?d1 ?d2 ?d3 ?d4 ?d5 ?d6 ?_)
  |go_in)
 case d0=>exact World.ownsRow_lit (base:=w.heap.size) (e:=9) (size:=1) w #[] 0 (Zx) Yo rfl
 case d1=>simp
 case d2=>exact(i.below h).dx
 case d3=>exact Ri b
 case d4=>unfold maxLen;omega
 case d5=>omega
 case d6=>simp
 intro F B c f g;obtain⟨x,v,rfl,C,D⟩:=Co c g
 skip
 have o:Below w.heap.size w B:=h.grown f Yu (fun k z=>by simp[Value.ownBlock]at z;omega);have j:=Yw (Zn c o);try simp only[Nat.zero_add]at *
 clear c f g o h i;go_wp2;go_ret;exact⟨_,v,rfl,j.o.1,j.o.2⟩
theorem toList_inj{a b:Zi}(h:a.toList=b.toList):a=b:=by rw[ByteArray.toList_eq,ByteArray.toList_eq]at h;cases a;cases b;simp only[Array.toList_inj]at h;rw[h]
theorem Bz{a b:Zi}(h:¬a=b):(a.toList==b.toList)=false:=by rw[beq_eq_false_iff_ne];exact fun e=>h (toList_inj e)
theorem OB(x:List UInt8):∀y,Op.bytesLess x y=true↔x<y:=by
 induction x with
 |nil=>intro y;cases y<;>simp[Op.bytesLess]
 |cons a x ih=>
  intro y;cases y with
  |nil=>simp[Op.bytesLess]
  |cons b y=>have:=ih y;rw[List.cons_lt_cons_iff,<-this];simp only[Op.bytesLess];by_cases h1:a<b<;>by_cases h2:a=b<;>simp[h1,h2]
theorem BI(a:Zi):less a a=false:=by
 unfold less;cases h:Op.bytesLess a.toList a.toList with
 |false=>rfl
 |true=>exact absurd ((OB _ _).1 h) (List.lt_irrefl _)
theorem Cb{a b c:Zi}(h:less a b=true)(k:less b c=true):less a c=true:=by
 unfold less at *
 rw[OB]at *
 exact List.lt_trans h k
def CJ(ks:List Kd)(s:Zi):Int:=match ks.findIdx? (fun k=>decide (k.sum=s))with
 |some i=>(i:Int)
 |none=> -1
theorem SO{a:List Kd}{k:Nat}(d:k<a.length)(h:a[k].sum=s)(b:∀j x,j<k->a[j]?=some x->x.sum≠s):CJ a s=k:=by
 have:a.findIdx? (fun k=>decide (k.sum=s))=some k:=by rw[List.findIdx?_eq_some_iff_getElem];refine⟨d,by simpa using h,fun j c=> ?_⟩;simpa using b j _ c (Zv Yv)
 simp[CJ,this]
theorem Rp{a:List Kd}(b:∀j x,j<a.length->a[j]?=some x->x.sum≠s):CJ a s= -1:=by
 have:a.findIdx? (fun k=>decide (k.sum=s))=none:=by rw[List.findIdx?_eq_none_iff];intro x d;obtain⟨j,c,rfl⟩:=List.getElem_of_mem d;simpa using b j _ c (Zv c)
 simp[CJ,this]
theorem Eg(a:List Kd)(s:Zi):(CJ a s= -1/\¬Au a s)\/∃i k,CJ a s=(i:Nat)/\a[i]?=some k/\k.sum=s:=by
 unfold CJ;cases h:a.findIdx? (fun k=>decide (k.sum=s))with
 |none=>rw[List.findIdx?_eq_none_iff]at h;exact .inl ⟨rfl,fun⟨u,hu,e⟩=>by simpa [e]using h u hu⟩
 |some i=>rw[List.findIdx?_eq_some_iff_getElem]at h;obtain⟨c,b,_⟩:=h;exact .inr ⟨i,a[i],rfl,Zv c,by simpa using b⟩
theorem Ey(v now g d:Int)(a:Zk)(q:Nat)(P L:Value)(c:List Kd)(s:Zi)(w:Zh)(B:Nat)(l:Bu w B a c)(J:B<=w.heap.size)(N:c.length<=1048576):
 Calls prog 49 #[.agg #[Zg v,Zg now,Zg g,Zg d,.slice a c.length q,P,L],.string s] w fun e E=>e=.returned (Zg (CJ c s))/\Zz w E:=by
 have m:Below w.heap.size w (w.alloc (.cells #[Zg v,Zg now,Zg g,Zg d,.slice a c.length q,P,L] 30)):=Zy;go_enter func49,ntmps49;go_wp2
 go_loop [5] (fun i=>∃k:Nat,k<=c.length/\i=Zg k/\Hid (∀j x,j<k->c[j]?=some x->x.sum≠s)) (fun i=>c.length -(intOf i).toNat)
 case atStart=>exact⟨0,Nat.zero_le _,rfl,fun j x h=>by omega⟩
 case round=>
  obtain⟨k,M,rfl,f⟩:=hrel;by_cases hlt:k<c.length
  .obtain⟨b,y,A,K,u⟩:=l.at hlt;subst A;have n:Hid (c[k]?=some c[k]):=Zv hlt;obtain⟨r,_,_,_⟩:=u k _ n;clear u l;have G:b<w.heap.size:=Yv
   by_cases he:c[k].sum=s
   .have I:=Yw he;have C:=Yw (SO hlt he f.o);have F:w.cell? (Zd b (y+k *4))=some (.string s):=by rw[<-he];exact r
    clear r he;go_wp2;go_ret;exact⟨Re C.o.symm,m⟩
   .have H:=Bz he;have z:Hid (∀j x,j<k+1->c[j]?=some x->x.sum≠s):=by
     intro j x D o;rcases Nat.lt_or_ge j k with t|t
     .exact f.o j x t o
     .obtain rfl:j=k:=Yv
      rw[n.o]at o;cases o;exact he
    clear he f n;generalize c[k]=x at *
    go_wp2;exact⟨⟨k+1,Yv,Yn,z⟩,Ys⟩
  .go_wp2;go_ret;exact⟨Re (Rp (fun j x D=>f.o j x Yv)).symm,m⟩
section
attribute [local go_sem↓] Go.wp_at_zero Go.wp_at_succ
def DX(u:Kd)(ra:Zk)(rc:Nat):Value:=.agg #[.string u.sum,Zg u.born,.string u.J,.slice ra u.B.length rc]
def Holds(W:Zh)(B:Nat)(wd:Int)(ks:List Kd)(f:Lit->Option Value):Prop:=
 ∀s:Zi,(s.size:Int)=wd->(f (keyL s)=none/\¬Au ks s)\/∃u ra rc,u∈ks/\u.sum=s/\f (keyL s)=some (DX u ra rc)/\Ad W B ra u.B
theorem Holds.nil(W:Zh)(B:Nat)(a:Int):Holds W B a [] (fun _=>none):=fun _ _=> .inl ⟨rfl,fun⟨_,h,_⟩=>by cases h⟩
theorem Holds.snoc{b:Int}{i:List Kd}{f:Lit->Option Value}(h:Holds W B b i f){g:Zk}{rc:Nat}(t:(x.sum.size:Int)=b)(r:b<=8)(o:Ad W B g x.B):Holds W B b (i++[x]) (upd f (keyL x.sum) (DX x g rc)):=by
 intro s q;by_cases he:keyL s=keyL x.sum
 .have:s=x.sum:=key_inj he Yv Yv;subst this;exact .inr ⟨x,g,rc,Yu,rfl,Df _ _ _,o⟩
 .rw[Db _ _ he];have j:x.sum≠s:=fun e=>he (by rw[e]);rcases h s q with⟨c,d⟩|⟨u,k,l,c,d,m,n⟩
  .refine .inl ⟨c,fun⟨u,a,e⟩=> ?_⟩;rcases List.mem_append.1 a with a|a
   .exact d ⟨u,a,e⟩
   .simp at a;subst a;exact j e
  .exact .inr ⟨u,k,l,by simp[c],d,m,n⟩
theorem KV(w:Zh):(zeroValue 66).run prog w=.ok (.agg #[Zc,Ze,Zc,Zb]) w:=Yr
theorem AJ.setCell{f:Lit->Option Value}(h:AJ w K b n f){a:Addr}(e:b≠a.block)(u:Value):AJ (w.setCell a u) K b n f:=by obtain⟨D,c,d⟩:=h;exact⟨D,c.setCell e u,d⟩
def FS(wr:Zh)(h:Nat)(m s b t r:Value)(w':Zh):Prop:=
 w'.cell? (Zd (h+1+1+1) 1)=some m/\w'.cell? (Zd (wr.heap.size) 0)=some s/\w'.cell? (Zd (wr.heap.size) 1)=some b/\w'.cell? (Zd (wr.heap.size) 2)=some t/\w'.cell? (Zd (wr.heap.size) 3)=some r
theorem FS.ag{c e:Zh}{m s b t:Value}(x:FS wr h m s b t r c)(a:Zz c e)(l:h+3<c.heap.size)(d:wr.heap.size<c.heap.size):FS wr h m s b t r e:=by obtain⟨f,g,i,j,k⟩:=x;exact⟨(a.cell (p:=⟨h+1+1+1,1,none⟩) l).trans f,(a.cell (p:=⟨wr.heap.size,0,none⟩) d).trans g,(a.cell (p:=⟨wr.heap.size,1,none⟩) d).trans i,(a.cell (p:=⟨wr.heap.size,2,none⟩) d).trans j,(a.cell (p:=⟨wr.heap.size,3,none⟩) d).trans k⟩
theorem FS.grown{e:Zh}{q:Nat}{m s b t:Value}(x:FS wr h m s b t r e)(a:e.grownBy d (some q))(l:h+1+1+1≠q)(c:wr.heap.size≠q):FS wr h m s b t r d:=by obtain⟨f,g,i,j,k⟩:=x;exact⟨a.cell f (by simpa using l),a.cell g (by simpa using c),a.cell i (by simpa using c),a.cell j (by simpa using c),a.cell k (by simpa using c)⟩
theorem KD(n now o d:Int)(a:Zk)(J:Nat)(P L:Value)(h:List Kd)(w:Zh)(u:Bu w w.heap.size a h)(hl:h.length<=1048576)(F:∀k∈h,(k.sum.size:Int)=n)(h8:n<=8):
 Calls prog 67 #[.agg #[Zg n,Zg now,Zg o,Zg d,.slice a h.length J,P,L]] w fun e y=>∃m f,e=.returned (.agg #[Zg n,.map (some m)])/\(w.heap.size<=m/\m<=w.heap.size+2)/\AJ y 111 m h.length f/\Holds w w.heap.size n h f/\Zz w y:=by
 have V:= @run_makeMap prog;go_enter func67,ntmps67;go_wp2
 obtain⟨r,l⟩:=Af ((((w.alloc (Obj.cells #[Value.int IntKind.i64 n,Value.int IntKind.i64 now,Value.int IntKind.i64 o,Value.int IntKind.i64 d,Value.slice a h.length J,P,L] 30)).alloc (Obj.cells #[Value.int IntKind.i64 0,Value.map none] 104)).alloc (Obj.map #[] 0)).alloc (Obj.cells #[Value.int IntKind.i64 n,Value.map (some (w.heap.size+1+1))] 104));have R:Below w.heap.size w r:=by rw[l];exact((((Zy).alloc Yu _).alloc Yt _).alloc Yt _)
 have zC:r.heap.size=w.heap.size+4:=by rw[l];simp
 have S:AJ r 111 (w.heap.size+1+1) 0 (fun _=>none):=by have:=AJ.new ((w.alloc (Obj.cells #[Value.int IntKind.i64 n,Value.int IntKind.i64 now,Value.int IntKind.i64 o,Value.int IntKind.i64 d,Value.slice a h.length J,P,L] 30)).alloc (Obj.cells #[Value.int IntKind.i64 0,Value.map none] 104)) 111;rw[l];have h2:=this.ag (Ae.alloc (Zx) (Obj.cells #[Value.int IntKind.i64 n,Value.map (some (w.heap.size+1+1))] 104)) this.lt;simpa using h2
 have s0:r.cell? (Zd (w.heap.size+1+1+1) 0)=some (Zg n):=by rw[l];simp[go_sem]
 have s1:r.cell? (Zd (w.heap.size+1+1+1) 1)=some (.map (some (w.heap.size+1+1))):=by rw[l];simp[go_sem]
 have r0:r.cell? (Zd (w.heap.size+1) 0)=some Ze:=by rw[l];simp[go_sem]
 have r1:r.cell? (Zd (w.heap.size+1) 1)=some (.map none):=by rw[l];simp[go_sem]
 have rf:∀j,r.frozen? ⟨w.heap.size+1,j,none⟩=false:=fun j=>by rw[l];simp[go_sem]
 rw[<-l];clear l V
 go_loopw [13] (fun i wr=>∃(k:Nat) (f:Lit->Option Value),k<=h.length/\i=Zg k/\Hid (AJ wr 111 (w.heap.size+1+1) k f)/\Hid (Holds w w.heap.size n (h.take k) f)/\r.grownBy wr (some (w.heap.size+1+1))) (fun i _=>h.length -(intOf i).toNat)
 case atStart=>exact⟨0,_,Nat.zero_le _,rfl,S,by rw[List.take_zero];exact Holds.nil w w.heap.size n,Bf _ _⟩
 case round=>
  obtain⟨k,f,hk,rfl,K,G,q⟩:=hrel;have t:=R.grown q Yv (by intro j hj;cases hj;omega);have t0:=q.cell s0 Yu;have t1:=q.cell s1 Yu;have zE:=q.size;by_cases hlt:k<h.length
  .obtain⟨b,Z,ha,hb,N⟩:=(u.below t).at hlt;subst ha;have H:=Yw (Zv hlt);obtain⟨c0,c1,c2,ra,rc,c3,_⟩:=N k _ H.o;obtain⟨b',zA,T,_,D⟩:=u.at hlt;cases T;obtain⟨_,_,_,g,c,A,E⟩:=D k _ H.o;have X:g=ra/\c=rc:=by have:=(t.cell (p:=⟨b,Z+k *4+3,none⟩) hb).trans A;rw[c3]at this;simp at this;exact⟨this.1.symm,this.2.symm⟩
   obtain⟨rfl,rfl⟩:=X;have Y:=F _ (List.getElem_mem hlt);have zB:b<wr.heap.size:=Yv
   have HR:=Yw E;clear N D E A F u;generalize h[k]=x at *
   go_wp2;have C:Below wr.heap.size wr (wr.alloc (Obj.cells #[Value.string x.sum,Value.int IntKind.i64 x.born,Value.string x.J,Value.slice g x.B.length c] 66)):=Zy
   have hT:FS wr w.heap.size (.map (some (w.heap.size+1+1))) (.string x.sum) (Zg x.born) (.string x.J) (.slice g x.B.length c) (wr.alloc (Obj.cells #[Value.string x.sum,Value.int IntKind.i64 x.born,Value.string x.J,Value.slice g x.B.length c] 66)):=⟨(C.cell (p:=⟨w.heap.size+1+1+1,1,none⟩) Yt).trans t1,Yu,Yu,Yu,Yu⟩
   have B:FS wr w.heap.size (.map (some (w.heap.size+1+1))) (.string x.sum) (Zg x.born) (.string x.J) (.slice g x.B.length c) (wr.alloc (Obj.cells #[Value.string x.sum,Value.int IntKind.i64 x.born,Value.string x.J,Value.slice g x.B.length c] 66)).drew:=hT
   go_region_held3 (fun y=>y.cell? (Zd (w.heap.size+1+1+1) 1)=some (.map (some (w.heap.size+1+1)))/\y.cell? (Zd (wr.heap.size) 0)=some (.string x.sum)/\y.cell? (Zd (wr.heap.size) 1)=some (Zg x.born)/\y.cell? (Zd (wr.heap.size) 2)=some (.string x.J)/\y.cell? (Zd (wr.heap.size) 3)=some (.slice g x.B.length c))
    (first|exact M|exact I|exact B)
    (first
    |(go_at_call 75;refine(Kk x.sum _).mono ?_;rintro e O ⟨rfl,z⟩;have I:FS wr w.heap.size (.map (some (w.heap.size+1+1))) (.string x.sum) (Zg x.born) (.string x.J) (.slice g x.B.length c) O:=FS.ag B z Yt Yu;have s:Below wr.heap.size wr O:=C.drew.trans (z.mono Yu);obtain⟨w3,hup,hm3,hg3⟩:=(K.o.ag s Yv).put keyed underlying102 (val:=DX x g c) Yo (EL x.sum);have M:FS wr w.heap.size (.map (some (w.heap.size+1+1))) (.string x.sum) (Zg x.born) (.string x.J) (.slice g x.B.length c) w3:=FS.grown I hg3 Yu Yt;unfold DX at hup))
   all_goals
    have U:=Ar q (Ar (Al _ s) hg3);have HN:Hid (Holds w w.heap.size n (h.take (k+1)) (upd f (keyL x.sum) (DX x g c))):=by have:=G.o.snoc (rc:=c) Y h8 HR.o;rw[List.take_add_one,H.o];exact this
    have Q:=Yw hm3;clear hm3 hup I M hg3 s z;go_wp2;exact⟨⟨k+1,_,Yv,Yn,Q,HN,U⟩,Ys⟩
  .have p0:=q.cell r0 Yu;have p1:=q.cell r1 Yu;have pf:∀j,wr.frozen? ⟨w.heap.size+1,j,none⟩=false:=fun j=>(q.frozen_far ⟨w.heap.size+1,j,none⟩ Yt Yu).trans (rf j);rw[Zt Yv]at G;obtain rfl:k=h.length:=Yv
   go_wp2;refine bodyPost_ret (v:=.agg #[Zg n,.map (some (w.heap.size+1+1))]) (by simp[results,results67,go_sem,p0,p1]) rfl ⟨_,f,rfl,Yv,?_,G.o,?_⟩
   .exact(AJ.setCell (AJ.setCell K.o Yu _) Yu _)
   .exact(t.setCell Yu _).setCell Yu _
def FD(b m:Nat)(s:Zi)(v:Value)(w':Zh):Prop:=
 w'.cell? (Zd b 1)=some (.map (some m))/\(Instr.lookup 102 (.map (some m)) (Cn s) true).run prog w'=.ok v w'
theorem FD.of{a:Zh}{m:Nat}{f:Lit->Option Value}(e:W.cell? (Zd b 1)=some (.map (some m)))(c:AJ W 111 m n f)(d:b<B)(g:m<B)(h:Below B W a):
 FD b m s (.tuple #[(f (keyL s)).getD (.agg #[Zc,Ze,Zc,Zb]),.bool (f (keyL s)).isSome]) a:=
 ⟨(h.cell (p:=⟨b,1,none⟩) d).trans e,(c.ag h g).look_ok keyed underlying102 (KV _) (EL s)⟩
theorem Hp(J:Int)(m n:Nat)(f:Lit->Option Value)(s:Zi)(w:Zh)(B:AJ w 111 m n f)(hs:(s.size:Int)=J)(u:Zi)(q:Int)(t:Zi)(I:Value)(ok:Bool)(U:(∃a l c,I=.slice a l c))(L:(f (keyL s)).getD (.agg #[Zc,Ze,Zc,Zb])=.agg #[.string u,Zg q,.string t,I])(A:(f (keyL s)).isSome=ok):
 Calls prog 110 #[.agg #[Zg J,.map (some m)],.string s] w fun e k=>e=.returned (.tuple #[.agg #[.string u,Zg q,.string t,I],.bool ok])/\Zz w k:=by
 obtain⟨F,G,H,rfl⟩:=U;have T:=B.lt;have S:∀M N,Zz w ((w.alloc M).alloc N):=fun M N=>(Zy).alloc Yu _;go_enter func110,ntmps110;go_wp2;obtain⟨W,i⟩:=Af ((w.alloc (Obj.cells #[Value.int IntKind.i64 J,Value.map (some m)] 104)).alloc (Obj.cells #[Value.string ⟨#[]⟩,Value.int IntKind.i64 0,Value.string ⟨#[]⟩,Value.slice none 0 0] 66));have hz:W.heap.size=w.heap.size+1+1:=by rw[i];simp
 have y:Below w.heap.size w W:=by rw[i];exact S _ _
 have Z:W.cell? (Zd (w.heap.size) 1)=some (.map (some m)):=by rw[i];simp[go_sem]
 have r0:∃v,W.cell? (Zd (w.heap.size+1) 0)=some v:=by rw[i];simp[go_sem]
 have C:∃v,W.cell? (Zd (w.heap.size+1) 1)=some v:=by rw[i];simp[go_sem]
 have D:∃v,W.cell? (Zd (w.heap.size+1) 2)=some v:=by rw[i];simp[go_sem]
 have E:∃v,W.cell? (Zd (w.heap.size+1) 3)=some v:=by rw[i];simp[go_sem]
 have rf:∀j,W.frozen? ⟨w.heap.size+1,j,none⟩=false:=fun j=>by rw[i];simp[go_sem]
 obtain⟨v0,r0⟩:=r0;obtain⟨v1,C⟩:=C;obtain⟨v2,D⟩:=D;obtain⟨v3,E⟩:=E;have K:∀k,Zz W k->FD w.heap.size m s (.tuple #[.agg #[.string u,Zg q,.string t,.slice F G H],.bool ok]) k:=fun k h=>by have:=FD.of (s:=s) Z (B.ag y T) Yv Yv h;rw[L,A]at this;exact this
 have o:=Yw K;have r:w.heap.size+1<W.heap.size:=Yv
 have zA:w.heap.size<W.heap.size:=Yv
 rw[<-i];clear i K L A B hz;go_region_held3 (fun k=>k.cell? (Zd (w.heap.size) 1)=some (.map (some m))/\(Instr.lookup 102 (.map (some m)) (Cn s) true).run prog k=.ok (.tuple #[.agg #[.string u,Zg q,.string t,.slice F G H],.bool ok]) k)
  (first
    |exact o.o _ b
    |exact o.o _ (b.alloc (Zm (Zx) b.size) _)
    |exact o.o _ (Ae.drew.alloc Yu _)
    |exact o.o _ Ae.drew
    |exact o.o _ ((((b.setCell Yu _).setCell Yu _).setCell Yu _).setCell Yu _)
    |exact o.o _ (b.alloc b.size _))
  (first
    |(go_at_call 75;refine(Kk s W.drew).mono ?_;rintro e g ⟨rfl,d⟩;have b:Below W.heap.size W g:=Ae.drew.trans (d.mono Yu);have V:=b.size)
    |(go_at_call 75;refine(Kk s (W.alloc _).drew).mono ?_;rintro e g ⟨rfl,d⟩;have b:Below W.heap.size W g:=(Zy).drew.trans (d.mono Yu);have V:W.heap.size<g.heap.size:=(by have:=d.size;simp at this;omega);have n0:g.cell? (Zd (W.heap.size) 0)=some Zc:=(by rw[d.cell (p:=⟨W.heap.size,0,none⟩) Yu];simp[go_sem]);have n1:g.cell? (Zd (W.heap.size) 1)=some Ze:=(by rw[d.cell (p:=⟨W.heap.size,1,none⟩) Yu];simp[go_sem]);have n2:g.cell? (Zd (W.heap.size) 2)=some Zc:=(by rw[d.cell (p:=⟨W.heap.size,2,none⟩) Yu];simp[go_sem]);have n3:g.cell? (Zd (W.heap.size) 3)=some Zb:=(by rw[d.cell (p:=⟨W.heap.size,3,none⟩) Yu];simp[go_sem]);have nf:∀j,g.frozen? ⟨W.heap.size,j,none⟩=false:=(fun j=>by rw[d.frozen (p:=⟨W.heap.size,j,none⟩) Yu];simp[go_sem])))
 all_goals
  have O:=(b.cell (p:=⟨w.heap.size+1,0,none⟩) r).trans r0;have P:=(b.cell (p:=⟨w.heap.size+1,1,none⟩) r).trans C;have Q:=(b.cell (p:=⟨w.heap.size+1,2,none⟩) r).trans D;have R:=(b.cell (p:=⟨w.heap.size+1,3,none⟩) r).trans E;have pf:∀j,g.frozen? ⟨w.heap.size+1,j,none⟩=false:=fun j=>(b.frozen (p:=⟨w.heap.size+1,j,none⟩) r).trans (rf j);have z:=y.trans (b.mono Yv)
  have x:w.heap.size+1<g.heap.size:=Yv
  have X:¬W.heap.size=w.heap.size+1:=Yv
  have Y:¬w.heap.size+1=W.heap.size:=Yv
  clear d o;go_wp2;refine bodyPost_ret (v:=.tuple #[.agg #[.string u,Zg q,.string t,.slice F G H],.bool ok]) (by first|(simp[results,results110,go_sem,O,P,Q,R];done)|(simp[results,results110,go_sem,O,P,Q,R,x];done)) rfl ⟨rfl,?_⟩
  first
   |(have zB:=nf 0;exact((((((((z.setCell Yt _).setCell Yt _).setCell Yt _).setCell Yt _).setCell Yu _).setCell Yu _).setCell Yu _).setCell Yu _))
   |exact(((((z.setCell Yu _).setCell Yu _).setCell Yu _).setCell Yu _).alloc Yt _)
theorem WG(a:Int)(m:Nat)(s:Zi)(w:Zh)(b:¬(s.size:Int)=a):
 Calls prog 110 #[.agg #[Zg a,.map (some m)],.string s] w fun e c=>e=.returned (.tuple #[.agg #[Zc,Ze,Zc,Zb],.bool false])/\Zz w c:=by
 have d:((s.size:Int)==a)=false:=by simpa using b
 go_enter func110,ntmps110;go_wp2;refine bodyPost_ret (v:=.tuple #[.agg #[Zc,Ze,Zc,Zb],.bool false]) (by simp[results,results110,go_sem]) rfl ⟨rfl,?_⟩;exact(Zy).alloc Yu _
structure Found (ks:List Kd) (s:Zi) (bo:Int) (ok:Bool):Prop where
 no:ok=false->¬Au ks s
 yes:ok=true->∃x∈ks,x.sum=s/\x.born=bo
theorem LB(b:Int)(m n:Nat)(f:Lit->Option Value)(j:List Kd)(W:Zh)(B:Nat)(s:Zi)(w:Zh)(d:AJ w 111 m n f)(v:Holds W B b j f)(q:∀k∈j,(k.sum.size:Int)=b):
 ∃u l t A C D ok,Found j s l ok/\∀a,Zz w a->Calls prog 110 #[.agg #[Zg b,.map (some m)],.string s] a fun e r=>e=.returned (.tuple #[.agg #[.string u,Zg l,.string t,.slice A C D],.bool ok])/\Zz a r:=by
 by_cases hs:(s.size:Int)=b
 .rcases v s hs with⟨c,g⟩|⟨x,y,z,c,g,o,_⟩
  .exact⟨⟨#[]⟩,0,⟨#[]⟩,none,0,0,false,⟨fun _=>g,fun h=>by cases h⟩,fun a i=>Hp b m n f s a (d.ag i d.lt) hs _ _ _ _ _ ⟨_,_,_,rfl⟩ (by rw[c];rfl) (by rw[c];rfl)⟩
  .exact⟨x.sum,x.born,x.J,y,x.B.length,z,true,⟨fun h=>by(cases h),fun _=>⟨x,c,g,rfl⟩⟩,fun a i=>Hp b m n f s a (d.ag i d.lt) hs _ _ _ _ _ ⟨_,_,_,rfl⟩ (by rw[o];rfl) (by rw[o];rfl)⟩
 .exact⟨⟨#[]⟩,0,⟨#[]⟩,none,0,0,false,⟨fun _ ⟨x,hx,e⟩=>hs (by rw[<-e];exact q x hx),fun h=>by cases h⟩,fun a _=>WG b m s a hs⟩
theorem Gp(b:Int)(m n:Nat)(f:Lit->Option Value)(d:List Kd)(W:Zh)(B:Nat)(s:Zi)(w:Zh)(q:AJ w 111 m n f)(o:Holds W B b d f)(l:∀k∈d,(k.sum.size:Int)=b):
 ∃ok,(ok=true↔Au d s)/\∀a,Zz w a->Calls prog 112 #[.agg #[Zg b,.map (some m)],.string s] a fun e v=>e=.returned (.bool ok)/\Zz a v:=by
 obtain⟨u,A,t,C,D,E,ok,c,j⟩:=LB b m n f d W B s w q o l;refine⟨ok,⟨fun h=> ?_,fun h=> ?_⟩,fun a r=> ?_⟩
 .obtain⟨x,z,e,_⟩:=c.yes h;exact⟨x,z,e⟩
 .cases ok with
  |true=>rfl
  |false=>exact absurd h (c.no rfl)
 .have g:Below a.heap.size a (a.alloc (.cells #[Zg b,.map (some m)] 104)):=Zy;have y:=Yw (j _ (r.trans (g.mono r.size)));clear j q o l c;go_enter func112,ntmps112;go_wp2_with fail;refine y.Ah ?_;rintro e F ⟨rfl,i⟩;go_wp2;go_ret;exact⟨rfl,(g.trans (i.mono Yu)).alloc (by have:=i.size;simp at this;omega) _⟩
end
section
attribute [local go_sem↓] Go.wp_at_zero Go.wp_at_succ
section
open Go.WideElems Go.MapKept Go.ChangeMaps
end
def Es(w:Zh)(K:TypeId)(b n c:Nat)(f:Lit->Option Value):Prop:=
 ∃D:DataW Value,w.ownsMap prog K Ok b n D/\(∀kl z,D.atKey kl (.held z)=.held ((f kl).getD z))/\(∀kl,Maps.has D kl=(f kl).isSome)/\Maps.Tidy D/\Maps.size D=c
theorem Es.map{f:Lit->Option Value}(h:Es w K b n c f):AJ w K b n f:=let ⟨D,h1,h2,h3,_⟩:=h;⟨D,h1,h2,h3⟩
theorem Es.new(w:Zh)(K:TypeId):Es (w.alloc (.map #[] 0)) K w.heap.size 0 0 (fun _=>none):=
 ⟨.map [],World.ownsMap_made _ _ _ _,fun _ _=>rfl,fun _=>rfl,Maps.tidy_empty,rfl⟩
theorem Es.ag{a:Zh}{f:Lit->Option Value}(h:Es w K b n c f)(k:Below B w a)(j:b<B):Es a K b n c f:=by obtain⟨D,⟨d,clock,e,g⟩,i⟩:=h;exact⟨D,⟨d,clock,(k.block b j).trans e,g⟩,i⟩
theorem Es.lt{f:Lit->Option Value}(h:Es w K b n c f):b<w.heap.size:=h.choose_spec.1.lt
theorem Es.len{t:TypeId}{f:Lit->Option Value}(h:Es w K b n c f)(i:prog.underlying t=some (.map K e))(a:TypeId):(Builtin.len_ #[t] a #[.map (some b)]).run prog w=.ok (Zg c) w:=by obtain⟨D,d,_,_,_,g⟩:=h;rw[<-g];exact d.len i a
theorem Es.put{t:TypeId}{f:Lit->Option Value}(h:Es w K b n c f)(q:Maps.Keyed prog K)(C:prog.underlying t=some (.map K e))(y:n<maxLen){k:Value}{g:Lit}(a:keyOf prog K k=some g):
 ∃i,(Instr.mapUpdate t (.map (some b)) k val).run prog w=.ok () i/\Es i K b (n+1) (if (f g).isSome then c else c+1) (upd f g val)/\w.grownBy i (some b):=by
 obtain⟨D,l,s,m,o,u⟩:=h;obtain⟨i,B,A,v⟩:=l.update q C y a (d:=.held val) (ps:=[]) (val:=val) rfl;have r:=l.isMap;have j:=q.key a;refine⟨i,B,⟨_,A,fun x z=> ?_,fun x=> ?_,o.put j _,?_⟩,v⟩
 .by_cases hx:x=g
  .subst hx;rw[Maps.atKey_put_same r j,Df];rfl
  .rw[Maps.atKey_put_other hx,Db _ _ hx];exact s x z
 .by_cases hx:x=g
  .subst hx;rw[Maps.has_put_same r j,Df];rfl
  .rw[Maps.has_put_other hx,Db _ _ hx];exact m x
 .rw[Maps.size_put o,m,u]
structure MK (ms:Zl) (f:Lit->Option Value) (c:Nat):Prop where
 has:∀l,(f l).isSome=true↔l∈ms.map keyL
 H:∀l v,f l=some v->∃n:Int,v=Zg n/\1<=n/\n<=ms.length
 le:c<=ms.length
 all:c=ms.length↔(ms.map keyL).Nodup
theorem MK.nil:MK [] (fun _=>none) 0:=⟨fun l=>Yu,fun l v h=>(by simp at h),Zx,Yu⟩
theorem MK.get{a:Zl}{f:Lit->Option Value}(h:MK a f c)(l:Lit):∃n:Int,(f l).getD Ze=Zg n/\0<=n/\n<=a.length/\(0<n↔l∈a.map keyL):=by
 cases hf:f l with
 |none=>refine⟨0,rfl,Int.le_refl _,Yv,?_⟩;have:=h.has l;rw[hf]at this;simp at this |-;exact this
 |some v=>obtain⟨n,rfl,d,b⟩:=h.H l v hf;have:=h.has l;rw[hf]at this;exact⟨n,rfl,Yv,b,⟨fun _=>this.1 rfl,fun _=>by omega⟩⟩
theorem MK.snoc{g:Zl}{f:Lit->Option Value}(h:MK g f c)(x:Zi){n:Int}(u:0<=n)(w:n<=g.length):
 MK (g++[x]) (upd f (keyL x) (Zg (n+1))) (if (f (keyL x)).isSome then c else c+1):=by
 have k:=h.has (keyL x);refine⟨fun l=> ?_,fun l v d=> ?_,?_,?_⟩
 .by_cases e:l=keyL x
  .subst e;rw[Df];simp
  .rw[Db _ _ e,h.has l];simp only[List.map_append,List.map_cons,List.map_nil,List.mem_append,List.mem_singleton];exact⟨fun h=> .inl h,fun h=>h.resolve_right e⟩
 .by_cases e:l=keyL x
  .subst e;rw[Df]at d;cases d;exact⟨n+1,rfl,Yv,Yt⟩
  .rw[Db _ _ e]at d;obtain⟨m,o,q,t⟩:=h.H l v d;exact⟨m,o,q,Yt⟩
 .have:=h.le;split<;>simp<;>omega
 .have s:=h.le;have i:=h.all;rw[List.map_append,List.map_cons,List.map_nil,List.length_append];by_cases hm:keyL x∈g.map keyL
  .rw[if_pos (k.2 hm)];constructor
   .intro e;simp at e;omega
   .intro e;have:=(List.nodup_append.1 e).2.2 _ hm _ Yu rfl;cases this
  .rw[if_neg (fun e=>hm (k.1 e))];constructor
   .intro e;refine List.nodup_append.2 ⟨i.1 (by simp at e;omega),Yu,fun a r b j e=> ?_⟩;simp at j;subst j;subst e;exact hm r
   .intro e;have:=i.2 (List.nodup_append.1 e).1;simp;omega
theorem UA{a:Int}(b:0<=a)(c:a<=2000000000):IntKind.i64.wrap a=a:=by unfold IntKind.wrap;simp[IntKind.signed,IntKind.bits];omega
theorem QH(w:Zh):(zeroValue 3).run prog w=.ok Ze w:=Yr
end
structure Aw (W:Zh) where
 w:Zh
 h:Below W.heap.size W w
theorem Aw.ne(W:Zh):Nonempty (Aw W):=⟨⟨W,Ae⟩⟩
theorem Aw.cell{o:Nat}(c:W.cell? (Zd b o)=some v)(a:b<W.heap.size)(n:Aw W):n.w.cell? (Zd b o)=some v:=(n.h.cell (p:=⟨b,o,none⟩) a).trans c
theorem Aw.size(n:Aw W):W.heap.size<=n.w.heap.size:=n.h.size
def Aw.next{W:Zh}(n:Aw W){w':Zh}(h:Below n.w.heap.size n.w w'):Aw W:=⟨w',n.h.trans (h.mono n.h.size)⟩
theorem Rq{c:Array Oper}{Q:Exit->Act->Zh->Prop}{a:Act}(g:P.follows .mixedOrders=true)(f:Region.lexB .any c=true)(h:wpQuiet P c (fun d=>∃n:Aw w,d=n.w) (fun b=>∀n:Aw w,Q .normal b n.w) c.toList a):(Code.region i c true).wp P Q a w:=by
 refine wp_region_quiet (C:=fun d=>∃n:Aw w,d=n.w) g f ⟨⟨_,Ae.drew⟩,rfl⟩ ?_;have e:(fun b=>∀d,(∃n:Aw w,d=n.w)->Q .normal b d)=(fun b=>∀n:Aw w,Q .normal b n.w):=by
  funext b
  exact propext ⟨fun h n=>h _ ⟨n,rfl⟩,fun h _ ⟨n,e⟩=>e▸h n⟩
 rw[e];exact h
theorem Ax{l:List Oper}{e:Nat}{Q:Exit->Act->Zh->Prop}{a:Act}(d:P.follows .mixedOrders=true)(c:Region.lexB .any l.toArray=true)(h:wpQuiet P l.toArray (fun f=>∃n:Aw w,f=n.w) (fun b=>∀n:Aw w,Q .normal b n.w) l a):(Code.region e l.toArray true).wp P Q a w:=
 Rq d c (by simpa using h)
theorem Aw.calls{f:FuncId}{args:Array Value}{n:Aw W}(h:Calls P f args n.w fun e b=>e=.returned v/\Below n.w.heap.size n.w b):
 Calls P f args n.w fun e a=>e=.returned v/\∃m:Aw W,a=m.w:=
 h.mono fun _ _ ⟨he,hb⟩=>⟨he,n.next hb,rfl⟩
theorem FA(t:Zi)(a:Zl)(b:Int):(AE t a b).size<=maxLen:=by
 unfold AE;split
 .rename_i h
  have h:=Be h;have c:=h.bk;have d:=h.J;have:(ByteArray.mk (BG t a).toArray).size=1+(br a+t.size):=by show(BG t a).toArray.size=_;simp only[List.size_toArray,BG,List.length_cons,List.length_append,Dx,Array.length_toList];show _+t.size+1=_;omega
  rw[this];unfold maxLen;omega
 .simp[maxLen]
theorem Jh(t:Zi)(a:Zk)(cap:Nat)(b:Zl)(d:Int)(w:Zh)(c:Ad w w.heap.size a b)(g:b.length<=1048576)(h:t.size<=maxLen):
 Calls prog 79 #[.agg #[.string t,.slice a b.length cap],Zg d] w fun e f=>e=.returned (.bool (AF t b d))/\Zz w f:=by
 refine(Dq t a cap b d w c g h).mono ?_;rintro e f ⟨rfl,rfl⟩;exact⟨rfl,Zy⟩
theorem wrap_small{a:Int}(b:0<=a)(c:a<=1048576):IntKind.i64.wrap a=a:=by unfold IntKind.wrap;simp[IntKind.signed,IntKind.bits];omega
theorem IF(w:Zh)(n:Nat)(a:Addr):(w.drewN n).cell? a=w.cell? a:=rfl
theorem IG(w:Zh)(n:Nat):(w.drewN n).heap.size=w.heap.size:=rfl
def Rr(w:Zh)(wd:Int)(m:Nat)(ks:List Kd)(s:Zi):Prop:=
 ∃ok,(ok=true↔Au ks s)/\∀w',Zz w w'->Calls prog 112 #[.agg #[Zg wd,.map (some m)],.string s] w' fun e w''=>e=.returned (.bool ok)/\Zz w' w''
def Aq(P:Prop)(w0 w:Zh)(e:Ending):Prop:=∃b,e=.returned (.bool b)/\(b=true↔P)/\Zz w0 w
theorem Aq.yes{P:Prop}{a:Zh}(h:P)(b:Zz a w):Aq P a w (.returned (.bool true)):=⟨_,rfl,by simpa using h,b⟩
theorem Aq.no{P:Prop}{a:Zh}(h:¬P)(b:Zz a w):Aq P a w (.returned (.bool false)):=⟨_,rfl,by simpa using h,b⟩
theorem IH{a:Int}(b:0<=a)(c:a<=2000000000):IntKind.i64.wrap a=a:=by unfold IntKind.wrap;simp[IntKind.signed,IntKind.bits];omega
def YP(w:Zh)(wd:Int)(m:Nat)(ks:List Kd)(s:Zi):Prop:=
 ∃u bo t sa sb sc ok,Found ks s bo ok/\∀w',Zz w w'->Calls prog 110 #[.agg #[Zg wd,.map (some m)],.string s] w' fun e w''=>e=.returned (.tuple #[.agg #[.string u,Zg bo,.string t,.slice sa sb sc],.bool ok])/\Zz w' w''
theorem LC(n:Int)(w:Zh):
 Calls prog 16 #[Zg n] w fun e a=>e=.returned (.bool (decide (1<=n/\n<=8)))/\a=w:=by
 by_cases h1:1<=n
 .by_cases h2:n<=8
  .go_enter func16,ntmps16;go_wp2;go_ret;exact⟨Az (by simp[h1,h2]),rfl⟩
  .have c:decide (n<=8)=false:=by simpa using h2
   go_enter func16,ntmps16;go_wp2;go_ret;exact⟨rfl,rfl⟩
 .have b:decide (1<=n)=false:=by simpa using h1
  go_enter func16,ntmps16;go_wp2;go_ret;exact⟨rfl,rfl⟩
theorem GH(k:Kd)(a:Int)(h:1<=a):((Hl k a).size:Int)=a:=by
 have e:∀l:List Int,(strOfNums l).size=l.length:=fun l=>by unfold strOfNums;simp[ByteArray.size]
 unfold Hl EJ;rw[e,DE];omega
theorem II(n:Int)(w:Zh):
 Calls prog 20 #[Zg n] w fun e a=>e=.returned (.bool (decide (1<=n/\n<=8)))/\a=w:=by
 by_cases h1:1<=n
 .by_cases h2:n<=8
  .go_enter func20,ntmps20;go_wp2;go_ret;exact⟨Az (by simp[h1,h2]),rfl⟩
  .have c:decide (n<=8)=false:=by simpa using h2
   go_enter func20,ntmps20;go_wp2;go_ret;exact⟨rfl,rfl⟩
 .have b:decide (1<=n)=false:=by simpa using h1
  go_enter func20,ntmps20;go_wp2;go_ret;exact⟨rfl,rfl⟩
theorem My(s:Zi)(w:Zh):
 Calls prog 75 #[.string s] w fun e a=>e=.returned (.agg (Yk (kB s)))/\Zz w a:=Kk s w
def GV(s:Zi):Obj:=.cells #[.int .u8 (kB s 0),.int .u8 (kB s 1),.int .u8 (kB s 2),.int .u8 (kB s 3),.int .u8 (kB s 4),.int .u8 (kB s 5),.int .u8 (kB s 6),.int .u8 (kB s 7)] 111
theorem R8.one(w:Zh)(s:Zi):R8 (w.alloc (GV s)) (w.heap.size+1) (Yz w.heap.size 1 1) [s]:=by
 refine .inr ⟨w.heap.size,0,1,rfl,Yv,fun i t a j b=> ?_⟩;cases i with
 |zero=>
  simp at a;subst a;rw[Nat.zero_mul,Nat.zero_add,Nat.zero_add];unfold GV;rw[World.cell?_alloc_at _ _ _ _ rfl]
  match j,b with
  |0,_|1,_|2,_|3,_|4,_|5,_|6,_|7,_=>rfl
 |succ i=>simp at a
theorem DW.alloc{a:Zl}(h:DW w base v a)(o:Obj):DW (w.alloc o) base v a:=h.below (Zy)
def FB(ks:List Kd):Nat:=(ks.map (fun k=>k.B.length)).sum
section
open Go.Proofs
theorem FW{a b:Zi}(h:a.toList=b.toList):a=b:=by rw[Lib.toList_data,Lib.toList_data]at h;cases a;cases b;simpa using h
theorem OC{a b:Zi}:less a b=true↔a.toList<b.toList:=by unfold less;rw[bytesLess_eq,decide_eq_true_iff]
theorem OD{a b:Zi}(h:less a b=false)(c:a≠b):less b a=true:=by
 rw[OC];have d:¬a.toList<b.toList:=fun e=>by rw[OC.2 e]at h;cases h
 have f:=List.not_lt.1 d;by_cases e:b.toList<a.toList
 .exact e
 .exact absurd (FW (Std.le_antisymm (List.not_lt.1 e) f)) c
end
end Go.Proofs.YtoglnpagihdhpaaGreatDoor
