import Derived.Test.YtlhhpofjkgmbeaaGreatDoorX01
import Derived.Lib.SmallJoins
import Derived.OneCell
import Derived.Deep.DeepCutAuto
import Derived.Laws.CopyRow
import Derived.Maps.OwnSet
import Derived.DeepKeys5
import Derived.Deep.Upon
set_option maxRecDepth 100000
set_option maxHeartbeats 16000000
namespace Go.Proofs.YtlhhpofjkgmbeaaGreatDoor
open Go.ChangeShapes Go.WideShapes Go.ChangeAt Go.RowKit _root_.Go.Proofs.Tryz
structure Kd where
 sum:Zi
 born:Int
 text:Zi
 refs:Zl
structure Pd where
 name:Zi
 sum:Zi
structure Ld where
 num:Int
 sum:Zi
 bf:Int
def Kv(w:Zh)(B:Nat)(b o:Nat)(k:Kd):Prop:=
 w.cell? (Ze b o)=some (.string k.sum)/\w.cell? (Ze b (o+1))=some (Zg k.born)/\w.cell? (Ze b (o+2))=some (.string k.text)/\
  ∃ra rc,w.cell? (Ze b (o+3))=some (.slice ra k.refs.length rc)/\Ad w B ra k.refs
def BH(w:Zh)(B:Nat)(a:Zk)(ks:List Kd):Prop:=
 ks=[]∨∃b off,a=some ⟨b,off,none⟩/\b<B/\∀i k,ks[i]?=some k->Kv w B b (off+i *4) k
def AS(w:Zh)(B:Nat)(a:Zk)(ps:List Pd):Prop:=
 ps=[]∨∃b off,a=some ⟨b,off,none⟩/\b<B/\∀i p,ps[i]?=some p->w.cell? (Ze b (off+i *2))=some (.string p.name)/\w.cell? (Ze b (off+i *2+1))=some (.string p.sum)
def AU(w:Zh)(B:Nat)(a:Zk)(ls:List Ld):Prop:=
 ls=[]∨∃b off,a=some ⟨b,off,none⟩/\b<B/\∀i l,ls[i]?=some l->w.cell? (Ze b (off+i *3))=some (Zg l.num)/\w.cell? (Ze b (off+i *3+1))=some (.string l.sum)/\w.cell? (Ze b (off+i *3+2))=some (Zg l.bf)
theorem Kv.below{w d:Zh}{B b o:Nat}{k:Kd}(h:Kv w B b o k)(c:Below B w d)(a:b<B):Kv d B b o k:=by obtain⟨e,f,g,l,m,i,j⟩:=h;exact⟨(c.cell (p:=⟨b,o,none⟩) a).trans e,(c.cell (p:=⟨b,o+1,none⟩) a).trans f,(c.cell (p:=⟨b,o+2,none⟩) a).trans g,l,m,(c.cell (p:=⟨b,o+3,none⟩) a).trans i,j.below c⟩
theorem Kv.mono{w:Zh}{B B' b o:Nat}{k:Kd}(h:Kv w B b o k)(g:B<=B'):Kv w B' b o k:=by obtain⟨a,c,d,i,j,e,f⟩:=h;exact⟨a,c,d,i,j,e,f.mono g⟩
theorem BH.below{w e:Zh}{B:Nat}{a:Zk}{d:List Kd}(h:BH w B a d)(j:Below B w e):BH e B a d:=by
 rcases h with h|⟨b,f,g,c,l⟩
 ·exact .inl h
 ·exact .inr ⟨b,f,g,c,fun i k m=>(l i k m).below j c⟩
theorem BH.mono{w:Zh}{B B':Nat}{a:Zk}{c:List Kd}(h:BH w B a c)(f:B<=B'):BH w B' a c:=by
 rcases h with h|⟨b,d,e,l,g⟩
 ·exact .inl h
 ·exact .inr ⟨b,d,e,by omega,fun i k j=>(g i k j).mono f⟩
theorem BH.at{w:Zh}{B:Nat}{a:Zk}{d:List Kd}(h:BH w B a d){i:Nat}(e:i<d.length):
 ∃b c,a=some ⟨b,c,none⟩/\b<B/\∀i k,d[i]?=some k->Kv w B b (c+i *4) k:=by
 rcases h with h|h
 ·subst h;simp at e
 ·exact h
theorem AS.below{w l:Zh}{B:Nat}{a:Zk}{j:List Pd}(h:AS w B a j)(e:Below B w l):AS l B a j:=by
 rcases h with h|⟨b,d,m,c,f⟩
 ·exact .inl h
 ·exact .inr ⟨b,d,m,c,fun i k g=>⟨(e.cell (p:=⟨b,d+i *2,none⟩) c).trans (f i k g).1,(e.cell (p:=⟨b,d+i *2+1,none⟩) c).trans (f i k g).2⟩⟩
theorem AS.mono{w:Zh}{B B':Nat}{a:Zk}{c:List Pd}(h:AS w B a c)(i:B<=B'):AS w B' a c:=by
 rcases h with h|⟨b,d,e,g,f⟩
 ·exact .inl h
 ·exact .inr ⟨b,d,e,by omega,f⟩
theorem AS.at{w:Zh}{B:Nat}{a:Zk}{d:List Pd}(h:AS w B a d){i:Nat}(e:i<d.length):
 ∃b c,a=some ⟨b,c,none⟩/\b<B/\∀i p,d[i]?=some p->w.cell? (Ze b (c+i *2))=some (.string p.name)/\w.cell? (Ze b (c+i *2+1))=some (.string p.sum):=by
 rcases h with h|h
 ·subst h;simp at e
 ·exact h
theorem AU.below{w l:Zh}{B:Nat}{a:Zk}{j:List Ld}(h:AU w B a j)(e:Below B w l):AU l B a j:=by
 rcases h with h|⟨b,d,m,c,f⟩
 ·exact .inl h
 ·exact .inr ⟨b,d,m,c,fun i k g=>⟨(e.cell (p:=⟨b,d+i *3,none⟩) c).trans (f i k g).1,(e.cell (p:=⟨b,d+i *3+1,none⟩) c).trans (f i k g).2.1,(e.cell (p:=⟨b,d+i *3+2,none⟩) c).trans (f i k g).2.2⟩⟩
theorem AU.mono{w:Zh}{B B':Nat}{a:Zk}{c:List Ld}(h:AU w B a c)(i:B<=B'):AU w B' a c:=by
 rcases h with h|⟨b,d,e,g,f⟩
 ·exact .inl h
 ·exact .inr ⟨b,d,e,by omega,f⟩
theorem AU.at{w:Zh}{B:Nat}{a:Zk}{d:List Ld}(h:AU w B a d){i:Nat}(e:i<d.length):
 ∃b c,a=some ⟨b,c,none⟩/\b<B/\∀i l,d[i]?=some l->w.cell? (Ze b (c+i *3))=some (Zg l.num)/\w.cell? (Ze b (c+i *3+1))=some (.string l.sum)/\w.cell? (Ze b (c+i *3+2))=some (Zg l.bf):=by
 rcases h with h|h
 ·subst h;simp at e
 ·exact h
def less(a b:Zi):Bool:=Op.bytesLess a.toList b.toList
def Qr(k:Kd)(wd:Int):Zi:=Ez (AH k.text k.refs wd).data.toList wd.toNat
structure XC (wd now given ae:Int):Prop where
 ij:1<=wd
 wd2:wd<=8
 cn:0<=now
 now2:now<=1000000000
 bi:0<=given
 given2:given<=1000000000
 ah:0<=ae
 births2:ae<=1000000000
structure Aaa (wd:Int) (ks:List Kd) (i:Nat) (k:Kd):Prop where
 ok:AJ k.text k.refs wd=true
 sum:k.sum=Qr k wd
 up:∀j p,i=j+1->ks[j]?=some p->less p.sum k.sum=true
structure XD (ae:Int) (ks:List Kd) (i:Nat) (k:Kd):Prop where
 lo:1<=k.born
 hi:k.born<=ae
 new:∀j p,j<i->ks[j]?=some p->p.born≠k.born
def Ax(ks:List Kd)(s:Zi):Prop:=∃u∈ks,u.sum=s
def YT(ks:List Kd)(k:Kd):Prop:=∀r∈k.refs,∃u∈ks,u.sum=r/\u.born<k.born
structure YU (ks:List Kd) (ps:List Pd) (i:Nat) (p:Pd):Prop where
 name:CP p.name=true
 up:∀j q,i=j+1->ps[j]?=some q->less q.name p.name=true
 sum:Ax ks p.sum
structure VT (now given:Int) (ks:List Kd) (ls:List Ld) (i:Nat) (l:Ld):Prop where
 lo:1<=l.num
 hi:l.num<=given
 up:∀j q,i=j+1->ls[j]?=some q->q.num<l.num
 sum:Ax ks l.sum
 til1:now<l.bf
 til2:l.bf<=now+100000
structure Ii (wd now given ae:Int) (ks:List Kd) (ps:List Pd) (ls:List Ld):Prop where
 du:XC wd now given ae
 nth:ks.length<=600
 np:ps.length<=100
 nl:ls.length<=200
 th:∀(i:Nat) k,ks[i]?=some k->Aaa wd ks i k
 born:∀(i:Nat) k,ks[i]?=some k->XD ae ks i k
 ref:∀(i:Nat) k,ks[i]?=some k->YT ks k
 ci:∀(i:Nat) p,ps[i]?=some p->YU ks ps i p
 lease:∀(i:Nat) l,ls[i]?=some l->VT now given ks ls i l
theorem Ke{w:Zh}{base:Nat}{v:Value}{n:Nat}{d:Zj}(h:w.ownsRow base 9 1 v n d)(c:v≠Zc):∃g a,v=Za g n a:=by
 rcases Joins.ownsRow_forms h with⟨e,_⟩|b
 ·exact absurd e c
 ·exact b
theorem Ad.cj{w:Zh}{B g:Nat}{c:Zl}(h:Ad w B (some ⟨g,0,none⟩) c):∀j u,(c.map Value.string)[j]?=some u->w.cell? ((⟨g,0,none⟩:Addr).add j)=some u:=by
 intro j u a;rw[List.getElem?_map]at a;cases hs:c[j]? with
 |none=>rw[hs]at a;cases a
 |some s=>
  rw[hs]at a;cases a;rcases h with h|⟨b,f,d,_,e⟩
  ·subst h;simp at hs
  ·cases d;have:=e j s hs;rw[Go.WideShapes.add_plain];simpa using this
theorem No(b:Zl):∀u∈b.map Value.string,u.oneCell'=true:=fun u a=>by obtain⟨s,_,rfl⟩:=List.mem_map.1 a;rfl
theorem LX(g d:Nat)(a:Zl)(w:Zh)(m:Ad w w.heap.size (some ⟨g,0,none⟩) a)(B:a.length<=1048576):
 Calls prog 134 #[Za g a.length d] w fun e n=>∃x b,e=.returned (Za x a.length b)/\
  n.ownsRow w.heap.size 9 1 (Za x a.length b) a.length (a.map Value.string)/\Zz w n:=by
 obtain⟨y,t,p,q,r⟩:=info_parts CK;have i:Below w.heap.size w (w.alloc (.cells #[] 9)):=Zy;have s:∀u:Zh,(binOp .eql 22 (Za g a.length d) Zc).run prog u=.ok (.bool false) u:=fun _=>by first|rfl|kernel_rfl
 go_enter func134,ntmps134;go_wp2_with (first
  |(at_builtin;refine wpList_append_own _ rfl _ _ 22 rfl w.heap.size 9 y Zd 1 16 underlying22 t p q r rfl (by decide) _ 0 (([]:Zl).map Value.string) rfl ?d0 ⟨g,0,none⟩ a.length d (a.map Value.string) rfl ?d1 ?d2 ?d3 ?d4 ?d5 ?d6 ?_)
  |go_in)
 case d0=>exact World.ownsRow_lit (base:=w.heap.size) (e:=9) (size:=1) w #[] 0 (Zx) (by unfold maxLen;omega) rfl
 case d1=>simp
 case d2=>exact(m.below i).cj
 case d3=>exact No a
 case d4=>unfold maxLen;omega
 case d5=>omega
 case d6=>simp
 intro z A c f h;have o:∃x b,z=Za x a.length b:=by have:=Ke c h;simpa using this
 obtain⟨x,b,rfl⟩:=o;try simp only[Nat.zero_add,List.map_nil,List.nil_append]at c
 have l:Below w.heap.size w A:=i.grown f (by simp) (fun k v=>by simp[Value.ownBlock]at v;omega);have j:=Yx (Zn c l);clear c f h l i m;go_wp2;go_ret;exact⟨x,b,rfl,j.o.1,j.o.2⟩
section
def kB(s:Zi)(i:Nat):Int:=((s.data.toList[i]?).getD 0).toNat
def CO(s:Zi):Array Value:= #[.int .u8 (kB s 0),.int .u8 (kB s 1),.int .u8 (kB s 2),.int .u8 (kB s 3),.int .u8 (kB s 4),.int .u8 (kB s 5),.int .u8 (kB s 6),.int .u8 (kB s 7)]
def Ck:Array Value:= #[.int .u8 0,.int .u8 0,.int .u8 0,.int .u8 0,.int .u8 0,.int .u8 0,.int .u8 0,.int .u8 0]
def LY(s:Zi):Zj:=List.take (Nat.min s.size 8) (List.map (fun b=>Value.int .u8 b.toNat) s.data.toList)
theorem BC(s:Zi):s.data.toList.length=s.size:=by simp
theorem Kw(s:Zi):(LY s).length=min s.size 8:=by have:=BC s;simp only[LY,List.length_take,List.length_map,this];show min (min s.size 8) s.size=_;omega
theorem VU(s:Zi)(i:Nat)(h:i<min s.size 8):(LY s)[i]?=some (.int .u8 (kB s i)):=by have a:=BC s;unfold LY kB;rw[List.getElem?_take_of_lt (by show i<min s.size 8;exact h),List.getElem?_map,Zv (by omega)];simp
theorem VV(s:Zi):(Ck.toList.take (0+0)++LY s++Ck.toList.drop (0+0+(LY s).length)).toArray=CO s:=by
 apply Array.ext';apply List.ext_getElem?;intro i;have c:=Kw s;simp only[Nat.add_zero,List.take_zero,List.nil_append,Nat.zero_add];by_cases h:i<min s.size 8
 ·rw[List.getElem?_append_left (by omega),VU s i h];have b:i<8:=by omega
  match i,b with
  |0,_|1,_|2,_|3,_|4,_|5,_|6,_|7,_=>rfl
 ·rw[List.getElem?_append_right (by omega),c,List.getElem?_drop,show min s.size 8+(i -min s.size 8)=i from by omega];by_cases b:i<8
  ·have a:kB s i=0:=by have d:=BC s;unfold kB;rw[List.getElem?_eq_none (by omega)];rfl
   match i,b,a with
   |0,_,a|1,_,a|2,_,a|3,_,a|4,_,a|5,_,a|6,_,a|7,_,a=>simp[Ck,CO,a]
  ·rw[List.getElem?_eq_none (by simp[Ck];omega),List.getElem?_eq_none (by simp[CO];omega)]
theorem Np(w:Zh)(a b:Array Value)(t:TypeId):(w.alloc (.cells a t)).setRow w.heap.size b=w.alloc (.cells b t):=by
 unfold World.setRow World.alloc;congr 1;apply Array.ext
 ·simp
 ·intro i d c;simp only[Array.getElem_modify,Array.getElem_push];split
  ·rename_i h
   subst h;simp
  ·rename_i h
   simp at c;rw[dif_pos (by omega),dif_pos (by omega)]
theorem Nq(w:Zh)(s:Zi)(d:TypeId):
 (Builtin.copy_ #[133,9] d #[Za w.heap.size 8 8,.string s]).run prog (w.alloc (.cells Ck 190))=.ok (goInt (Nat.min s.size 8)) (w.alloc (.cells (CO s) 190)):=by
 obtain⟨h,c,e,f,g⟩:=info_parts LN;have a:=run_storeCells_at (P:=prog) w.heap.size 0 190 (LY s) 0 Ck (w.alloc (.cells Ck 190)) (heap_alloc_new w _) (by rw[Kw];simp[Ck];omega) (fun v b=>by
  have b:=List.mem_of_mem_take b;simp only[List.mem_map]at b;obtain⟨_,_,rfl⟩:=b;rfl)
 rw[VV,Np]at a;unfold LY at a;simp[Builtin.copy_,run_underlying underlying133,Builtin.lenOf,Builtin.firstCells,sizeOf,typeInfo,c,a,Result.andThen]
def Cm(s:Zi):Value:=.agg (CO s)
theorem Ij(s:Zi)(w:Zh):
 Calls prog 154 #[.string s] w fun e c=>e=.returned (Cm s)/\Zz w c:=by
 have b:∀a,(Builtin.copy_ #[133,9] a #[Za (w.heap.size+1) 8 8,.string s]).run prog ((w.alloc (.cells Ck 190)).alloc (.cells Ck 190))=.ok (goInt (Nat.min s.size 8)) ((w.alloc (.cells Ck 190)).alloc (.cells (CO s) 190)):=fun a=>by have:=Nq (w.alloc (.cells Ck 190)) s a;rwa[show(w.alloc (.cells Ck 190)).heap.size=w.heap.size+1 from by simp]at this
 unfold CO Ck at b;go_enter func154,ntmps154;go_wp2;refine bodyPost_ret (v:=Cm s) (by simp[results,results154,go_sem,Cm,CO]) rfl ⟨rfl,?_⟩;exact(Zy).alloc (by simp) _
theorem YV(s:Zi)(i:Nat):0<=kB s i/\kB s i<256:=by unfold kB;have:=((s.data.toList[i]?).getD 0).toNat_lt;omega
theorem YW(s:Zi)(i:Nat):(Lit.int .u8 (kB s i)).wf=true:=by
 have:=YV s i;have a:IntKind.u8.min=0:=by decide
 have b:IntKind.u8.max=255:=by decide
 simp only[Lit.wf,a,b,Bool.and_eq_true,decide_eq_true_eq];omega
theorem XE:prog.keyType 190=true:=by kernel_rfl
theorem VC:prog.cellsOf 190=8:=by kernel_rfl
theorem YX:prog.cellsOf 5=1:=by kernel_rfl
theorem Uj:prog.underlying 190=some (.array 8 5):=by kernel_rfl
theorem XF:∃n,prog.types.size=n+1:=⟨prog.types.size -1,by kernel_rfl⟩
theorem Nr(s:Zi):∃l,keyOf prog 190 (Cm s)=some l:=by obtain⟨n,a⟩:=XF;unfold keyOf;rw[Uj,a];simp only[XE,Cm,Value.formed,Uj,VC,CO];simp[Value.cells,Program.keyLits,VC,YX,List.range_succ,YW]
noncomputable def keyL (s:Zi):Lit:=(Nr s).choose
theorem EC(s:Zi):keyOf prog 190 (Cm s)=some (keyL s):=(Nr s).choose_spec
theorem YY:laidOutB prog=true:=by kernel_rfl
theorem keyed:Maps.Keyed prog 190:=Maps.Keyed.of_law (deep_law_gate YY (of_decide_eq_true (by kernel_rfl)) (of_decide_eq_true (by kernel_rfl)) XE (by rw[Uj]))
theorem key_inj{s t:Zi}(h:keyL s=keyL t)(q:s.size=t.size)(p:s.size<=8):s=t:=by
 have a:=EC t;rw[←h]at a;have d:=keyed.inj (EC s) a;clear a h;have o:∀i,i<8->kB s i=kB t i:=by
  simp only[Cm,CO,Value.agg.injEq,Array.mk.injEq,List.cons.injEq,Value.int.injEq,true_and,and_true]at d;obtain⟨e,f,g,j,k,l,m,n⟩:=d;intro i b
  match i,b with
  |0,_=>exact e
  |1,_=>exact f
  |2,_=>exact g
  |3,_=>exact j
  |4,_=>exact k
  |5,_=>exact l
  |6,_=>exact m
  |7,_=>exact n
 have r:=BC s;have u:=BC t;have c:s.data.toList=t.data.toList:=by
  apply List.ext_getElem?;intro i;by_cases b:i<s.size
  ·have:=o i (by omega);unfold kB at this;rw[Zv (by omega),Zv (by omega)]at this ⊢;simp only[Option.getD_some]at this;congr 1;exact UInt8.toNat_inj.1 (by omega)
  ·rw[List.getElem?_eq_none (by omega),List.getElem?_eq_none (by omega)]
 cases s;cases t;simp only[Array.toList_inj]at c;rw[c]
open Classical in
noncomputable def upd (f:Lit->Option Value) (kl:Lit) (v:Value):Lit->Option Value:=fun x=>if x=kl then some v else f x
theorem Dm(f:Lit->Option Value)(a:Lit)(v:Value):upd f a v a=some v:=by simp[upd]
theorem Dg(f:Lit->Option Value){a x:Lit}(v:Value)(h:x≠a):upd f a v x=f x:=by simp[upd,h]
def Ni(v:Value):Option (DataW Value×List MemPlace):=some (.held v,[])
def AV(w:Zh)(K:TypeId)(b n:Nat)(f:Lit->Option Value):Prop:=
 ∃D:DataW Value,w.ownsMap prog K Ni b n D/\(∀kl z,D.atKey kl (.held z)=.held ((f kl).getD z))/\∀kl,Maps.has D kl=(f kl).isSome
theorem AV.new(w:Zh)(K:TypeId):AV (w.alloc (.map #[] 0)) K w.heap.size 0 (fun _=>none):=
 ⟨.map [],World.ownsMap_made _ _ _ _,fun _ _=>rfl,fun _=>rfl⟩
theorem AV.aj{w a:Zh}{K:TypeId}{b n:Nat}{f:Lit->Option Value}(h:AV w K b n f){B:Nat}(j:Below B w a)(i:b<B):AV a K b n f:=by obtain⟨D,⟨c,clock,d,e⟩,g⟩:=h;exact⟨D,⟨c,clock,(j.block b i).trans d,e⟩,g⟩
theorem AV.lt{w:Zh}{K:TypeId}{b n:Nat}{f:Lit->Option Value}(h:AV w K b n f):b<w.heap.size:=h.choose_spec.1.lt
theorem AV.put{w:Zh}{K t e:TypeId}{b n:Nat}{f:Lit->Option Value}(h:AV w K b n f)(l:Maps.Keyed prog K)(v:prog.underlying t=some (.map K e))(r:n<maxLen){j val:Value}{g:Lit}(a:keyOf prog K j=some g):
 ∃c,(Instr.mapUpdate t (.map (some b)) j val).run prog w=.ok () c/\AV c K b (n+1) (upd f g val)/\w.grownBy c (some b):=by
 obtain⟨D,k,o,p⟩:=h;obtain⟨c,u,s,q⟩:=k.update l v r a (d:=.held val) (ps:=[]) (val:=val) rfl;have m:=k.isMap;have i:=l.key a;refine⟨c,u,⟨_,s,fun x z=> ?_,fun x=> ?_⟩,q⟩
 ·by_cases hx:x=g
  ·subst hx;rw[Maps.atKey_put_same m i,Dm];rfl
  ·rw[Maps.atKey_put_other hx,Dg _ _ hx];exact o x z
 ·by_cases hx:x=g
  ·subst hx;rw[Maps.has_put_same m i,Dm];rfl
  ·rw[Maps.has_put_other hx,Dg _ _ hx];exact p x
theorem AV.look{w:Zh}{K t e:TypeId}{b n:Nat}{f:Lit->Option Value}(h:AV w K b n f)(k:Maps.Keyed prog K)(m:prog.underlying t=some (.map K e)){z:Value}(o:(zeroValue e).run prog w=.ok z w){c:Value}{g:Lit}(a:keyOf prog K c=some g):
 (Instr.lookup t (.map (some b)) c false).run prog w=.ok ((f g).getD z) w:=by
 obtain⟨D,i,j,_⟩:=h;obtain⟨v,p,l,d⟩:=i.lookup k m o (zd:=.held z) (zp:=[]) rfl a;rw[j]at d;simp only[Ni,Option.some.injEq,Prod.mk.injEq,DataW.held.injEq]at d;rw[l,d.1]
theorem AV.look_ok{w:Zh}{K t e:TypeId}{b n:Nat}{f:Lit->Option Value}(h:AV w K b n f)(l:Maps.Keyed prog K)(o:prog.underlying t=some (.map K e)){z:Value}(p:(zeroValue e).run prog w=.ok z w){c:Value}{g:Lit}(a:keyOf prog K c=some g):
 (Instr.lookup t (.map (some b)) c true).run prog w=.ok (.tuple #[(f g).getD z,.bool (f g).isSome]) w:=by
 obtain⟨D,i,j,k⟩:=h;obtain⟨v,q,m,d⟩:=i.look_ok l o p (zd:=.held z) (zp:=[]) rfl a;rw[j]at d;simp only[Ni,Option.some.injEq,Prod.mk.injEq,DataW.held.injEq]at d;rw[m,d.1,k]
end
def Am(s:Zi):Zj:=(CO s).toList
theorem Qs(s:Zi)(j:Nat)(h:j<8):(Am s)[j]?=some (.int .u8 (kB s j)):=by
 match j,h with
 |0,_|1,_|2,_|3,_|4,_|5,_|6,_|7,_=>rfl
def AA(ss:Zl):Zj:=ss.flatMap Am
theorem CQ(a:Zl):(AA a).length=a.length *8:=by
 induction a with
 |nil=>rfl
 |cons s a ih=>
  have:(Am s).length=8:=rfl;unfold AA at *
  rw[List.flatMap_cons,List.length_append,ih,List.length_cons,this];omega
theorem ED{a:Zl}{i j:Nat}{s:Zi}(h:a[i]?=some s)(c:j<8):(AA a)[i *8+j]?=some (.int .u8 (kB s j)):=by
 induction a generalizing i with
 |nil=>simp at h
 |cons t a ih=>
  have b:(Am t).length=8:=rfl;unfold AA at *
  rw[List.flatMap_cons];cases i with
  |zero=>simp at h;subst h;rw[List.getElem?_append_left (by omega),Nat.zero_mul,Nat.zero_add];exact Qs t j c
  |succ i=>rw[List.getElem?_append_right (by omega),b,show(i+1) *8+j -8=i *8+j by omega];exact ih (by simpa using h)
theorem Kx{a:Zl}{k:Nat}{u:Value}(h:(AA a)[k]?=some u):∃s,a[k/8]?=some s/\u=.int .u8 (kB s (k%8)):=by
 have c:k<a.length *8:=by rw[←CQ];exact(Zw h).1
 have b:k/8<a.length:=by omega
 refine⟨a[k/8],Zv b,?_⟩;have:=ED (j:=k%8) (Zv b) (Nat.mod_lt _ (by decide));rw[show k/8 *8+k%8=k by omega,h]at this;exact Option.some.inj this
theorem Gh(a b:Zl):AA (a++b)=AA a++AA b:=by unfold AA;rw[List.flatMap_append]
theorem Dh(c:Zl):∀u∈AA c,u.oneCell'=true:=by intro u b;obtain⟨k,a⟩:=List.getElem?_of_mem b;obtain⟨s,_,rfl⟩:=Kx a;rfl
def R8(w:Zh)(B:Nat)(v:Value)(ss:Zl):Prop:=
 (v=Zc/\ss=[])∨∃g off cap,v=.slice (some ⟨g,off,none⟩) ss.length cap/\g<B/\∀i s,ss[i]?=some s->∀j,j<8->w.cell? (Ze g (off+(i *8+j)))=some (.int .u8 (kB s j))
def GD(w:Zh)(g:Nat):Prop:=∃cur fz,w.heap[g]?=some (.cells cur 190 fz)
theorem GD.lt{w:Zh}{g:Nat}(h:GD w g):g<w.heap.size:=by obtain⟨_,_,h⟩:=h;exact(Array.getElem?_eq_some_iff.1 h).1
theorem GD.same{w a:Zh}{g:Nat}(h:GD w g)(b:a.heap[g]?=w.heap[g]?):GD a g:=by obtain⟨c,f,h⟩:=h;exact⟨c,f,b.trans h⟩
theorem GD.gy{g:Nat}:∀(vs:Zj) (o:Nat) (w:Zh),GD w g->GD (w.setCells g o vs) g
 |[],_,_,h=>h
 |v::r,o,w,h=>by rw[World.setCells];refine GD.gy r (o+1) _ ?_;obtain⟨c,f,h⟩:=h;refine⟨c.setIfInBounds o v,f,?_⟩;simp[World.setCell,Array.getElem?_modify,h]
def DK(w:Zh)(base:Nat)(v:Value)(ss:Zl):Prop:=
 (v=Zc/\ss=[])∨∃g off cap,v=.slice (some ⟨g,off,none⟩) ss.length cap/\base<=g/\GD w g/\ss.length<=cap/\cap<=maxLen/\
   (∀j,j<cap *8->(w.cell? (Ze g (off+j))).isSome=true/\w.frozen? ⟨g,off+j,none⟩=false)/\
   ∀i s,ss[i]?=some s->∀j,j<8->w.cell? (Ze g (off+(i *8+j)))=some (.int .u8 (kB s j))
def Ak:Value->Option Nat
 |.slice (some a) _ _=>some a.block
 |_=>none
theorem R8.below{w d:Zh}{B:Nat}{v:Value}{c:Zl}(h:R8 w B v c)(f:Below B w d):R8 d B v c:=by
 rcases h with h|⟨g,a,e,n,b,k⟩
 ·exact .inl h
 ·exact .inr ⟨g,a,e,n,b,fun i s m j l=>(f.cell (p:=⟨g,a+(i *8+j),none⟩) b).trans (k i s m j l)⟩
theorem R8.mono{w:Zh}{B B':Nat}{v:Value}{a:Zl}(h:R8 w B v a)(f:B<=B'):R8 w B' v a:=by
 rcases h with h|⟨g,c,b,e,i,d⟩
 ·exact .inl h
 ·exact .inr ⟨g,c,b,e,by omega,d⟩
theorem R8.stays{w b:Zh}{B:Nat}{v:Value}{a:Zl}(h:R8 w B v a)(e:∀g,Ak v=some g->b.heap[g]?=w.heap[g]?):R8 b B v a:=by
 rcases h with h|⟨g,d,c,rfl,k,f⟩
 ·exact .inl h
 ·exact .inr ⟨g,d,c,rfl,k,fun i s m j l=>(World.cell?_of_block (e g rfl)).trans (f i s m j l)⟩
theorem DK.stays{w c:Zh}{base:Nat}{v:Value}{e:Zl}(h:DK w base v e)(_hz:w.heap.size<=c.heap.size)(a:∀g,Ak v=some g->c.heap[g]?=w.heap[g]?):DK c base v e:=by
 rcases h with h|⟨g,k,f,rfl,l,p,m,n,d,o⟩
 ·exact .inl h
 ·exact .inr ⟨g,k,f,rfl,l,p.same (a g rfl),m,n,fun j b=>⟨by rw[World.cell?_of_block (a g rfl)];exact(d j b).1,by rw[World.frozen?_of_block (a g rfl)];exact(d j b).2⟩,fun i s q j b=>(World.cell?_of_block (a g rfl)).trans (o i s q j b)⟩
theorem DK.below{w c:Zh}{base:Nat}{v:Value}{b:Zl}(h:DK w base v b)(a:Zz w c):DK c base v b:=by
 have d:=h;rcases h with h|⟨g,j,i,rfl,l,f,_⟩
 ·exact .inl h
 ·exact d.stays a.size (fun k e=>by cases e;exact a.block g f.lt)
theorem DK.bj{w:Zh}{base:Nat}{v:Value}{d:Zl}(h:DK w base v d){g:Nat}(a:Ak v=some g):base<=g/\g<w.heap.size:=by
 rcases h with⟨rfl,_⟩|⟨i,f,e,rfl,b,c,_⟩
 ·cases a
 ·cases a;exact⟨b,c.lt⟩
theorem R8.cells{w:Zh}{g a:Nat}{b:Zl}(c:∀i s,b[i]?=some s->∀j,j<8->w.cell? (Ze g (a+(i *8+j)))=some (.int .u8 (kB s j))):∀j u,(AA b)[j]?=some u->w.cell? ((⟨g,a,none⟩:Addr).add j)=some u:=by intro j u e;obtain⟨s,d,rfl⟩:=Kx e;have:=c _ s d (j%8) (Nat.mod_lt _ (by decide));rw[show j/8 *8+j%8=j by omega]at this;rw[Go.WideShapes.add_plain];exact this
theorem JA:(prog.info? 190).map (fun i=>(i.zero,i.size,i.bytes))=some (some (.agg #[.int .u8 0,.int .u8 0,.int .u8 0,.int .u8 0,.int .u8 0,.int .u8 0,.int .u8 0,.int .u8 0]),8,8):=by kernel_rfl
theorem R8.src{w:Zh}{B:Nat}{x:Value}{a:Zl}(h:R8 w B x a):Src prog 8 155 x a.length (AA a) w:=by
 rcases h with⟨rfl,rfl⟩|⟨g,c,b,rfl,_,d⟩
 ·exact Src.ofNil w underlying155 0
 ·exact Src.ofSlice w underlying155 ⟨g,c,none⟩ a.length b (AA a) (CQ a) (R8.cells d) (Dh a)
theorem DK.fresh(w:Zh)(base:Nat)(b:Zl)(c:Nat)(z:Array Value)(k:base<=w.heap.size)(g:b.length<=c)(h:c<=maxLen)(l:z.size=(c -b.length) *8):
 DK (w.drew.alloc (.cells ((AA b).toArray++z) 190)) base (Za w.heap.size b.length c) b:=by
 have e:=CQ b;have a:∀j,(w.drew.alloc (.cells ((AA b).toArray++z) 190)).cell? (Ze (w.heap.size) (0+j))=((AA b).toArray++z)[j]?:=fun j=>by rw[Nat.zero_add];show(w.drew.alloc (.cells ((AA b).toArray++z) 190)).cell? (Ze (w.drew.heap.size) j)=_;rw[World.cell?_alloc_at _ _ _ _ rfl]
 refine .inr ⟨w.heap.size,0,c,rfl,k,⟨_,_,heap_alloc_new w.drew _⟩,g,h,fun j d=>⟨?_,?_⟩,fun i s f j d=> ?_⟩
 ·rw[a,Array.getElem?_eq_getElem (by simp[e,l];omega)];rfl
 ·simp[go_sem]
 ·rw[a,Array.getElem?_append_left (by have:=(Zw f).1;simp[e];omega)];simpa using ED f d
theorem Gb(b:Nat):∀(vs:Zj) (o:Nat) (w:Zh),(w.setCells b o vs).heap.size=w.heap.size
 |[],_,_=>rfl
 |_::r,o,w=>by rw[World.setCells,Gb b r];simp
theorem IS(b:Nat):∀(vs:Zj) (o:Nat) (w:Zh),(w.setCells b o vs).tape=w.tape
 |[],_,_=>rfl
 |_::r,o,w=>by rw[World.setCells,IS b r];rfl
theorem Hx(b:Nat):∀(vs:Zj) (o:Nat) (w:Zh) (x:Addr),(w.cell? x).isSome=true->((w.setCells b o vs).cell? x).isSome=true
 |[],_,_,_,h=>h
 |v::r,o,w,x,h=>by
  rw[World.setCells];refine Hx b r (o+1) _ x ?_;by_cases e:(⟨b,o,none⟩:Addr)=x
  ·subst e;obtain⟨u,a⟩:=Option.isSome_iff_exists.1 h;rw[World.cell?_setCell_same _ _ _ a];rfl
  ·rw[World.cell?_setCell_other _ _ _ _ e];exact h
theorem VW(w:Zh)(base:Nat)(v:Value)(a:Zl)(N:DK w base v a)(x:Value)(c:Zl)(B:Nat)(V:R8 w B x c)(Z:a.length+c.length<=100000000)(r:base<=w.heap.size)(q:TypeId):
 ∃h m,(Builtin.append_ #[155,155] q #[v,x]).run prog w=.ok h m/\DK m base h (a++c)/\w.grownBy m (Ak v)/\(Ak h=Ak v∨Ak h=some w.heap.size):=by
 obtain⟨i,A,T,o,U⟩:=info_parts JA;have l:Src prog i.size 155 x c.length (AA c) w:=by rw[o];exact V.src
 by_cases h0:c=[]
 ·subst h0;rw[List.append_nil];rcases N with⟨rfl,rfl⟩|⟨g,d,b,rfl,F,L,G,H,p,z⟩
  ·exact⟨_,w,run_append_nothing w _ _ q _ i underlying155 A none 0 0 (Zx) x l,.inl ⟨rfl,rfl⟩,⟨rfl,rfl,rfl,Zx,fun _ _ _=>rfl⟩,.inl rfl⟩
  ·exact⟨_,w,run_append_nothing w _ _ q _ i underlying155 A _ _ _ G x l,.inr ⟨g,d,b,rfl,F,L,G,H,p,z⟩,⟨rfl,rfl,rfl,Zx,fun _ _ _=>rfl⟩,.inl rfl⟩
 ·have S:=List.length_pos_iff.2 h0;have grow:∀(y:Zk) (b:Nat),b<a.length+c.length->(Builtin.firstCells i.size a.length (.slice y a.length b)).run prog w.drew=.ok (AA a).toArray w.drew->
   ∃h m,(Builtin.append_ #[155,155] q #[.slice y a.length b,x]).run prog w=.ok h m/\DK m base h (a++c)/\(∀row,w.grownBy m row)/\Ak h=some w.heap.size:=by
   intro y b D hold;have n:=run_append_grow_src w _ _ q _ i _ underlying155 A T y a.length b (AA a) hold x c.length (AA c) l D (by omega) (by
    have:=nextslicecap_le D;rw[U];omega)
   rw[←Gh]at n;have O:=grownCap_ge w (a.length+c.length) b 190;have Q:=grownCap_le_maxLen w (a.length+c.length) b 190 (by unfold maxLen;omega)
   have C:=DK.fresh w base (a++c) (grownCap w (a.length+c.length) b 190) (Builtin.zeroCells (Value.agg #[.int .u8 0,.int .u8 0,.int .u8 0,.int .u8 0,.int .u8 0,.int .u8 0,.int .u8 0,.int .u8 0]).cells (grownCap w (a.length+c.length) b 190 -(a.length+c.length))) r (by simpa using O) Q (by rw[size_zeroCells,List.length_append];rfl);rw[List.length_append]at C
   exact⟨_,_,n,C,fun row=>⟨rfl,rfl,rfl,by simp,fun k M _=>heap_alloc_old w.drew _ M⟩,rfl⟩
  rcases N with⟨rfl,rfl⟩|⟨g,d,b,rfl,F,L,G,H,p,z⟩
  ·obtain⟨h,m,n,I,J,K⟩:=grow none 0 (by simpa using S) (run_firstCells_none w.drew _ _ _ _);exact⟨h,m,n,I,J _,.inr K⟩
  ·by_cases hroom:a.length+c.length<=b
   ·have Y:=CQ c;have u:∀j,j<(AA c).length->(a.length *8+j)<b *8:=fun j f=>by omega
    have n:=run_append_room_src w _ _ q _ i underlying155 A g d a.length b x c.length (AA c) l hroom (fun j f=>by rw[o,Nat.add_assoc];exact(p _ (u j f)).1) (fun j f=>by rw[o,Nat.add_assoc];exact(p _ (u j f)).2);rw[o]at n;have W:=World.keptBut_setCells g (may:=fun _=>True) (AA c) (d+a.length *8) w (fun _ _=>trivial)
    refine⟨_,_,n,.inr ⟨g,d,b,by rw[List.length_append],F,GD.gy _ _ _ L,by rw[List.length_append];exact hroom,H,fun j f=>⟨?_,?_⟩,fun k s t j f=> ?_⟩,⟨World.os_setCells _ _ _ _,IS _ _ _ _,World.output_setCells _ _ _ _,by rw[Gb];exact Zx,fun k M R=>World.heap_setCells_other _ _ _ _ M (fun e=>R (by rw[e];rfl))⟩,.inl rfl⟩
    ·exact Hx _ _ _ _ _ (p j f).1
    ·rw[World.frozen?_setCells];exact(p j f).2
    ·rcases Nat.lt_or_ge k a.length with E|E
     ·rw[List.getElem?_append_left E]at t;rw[World.cell?_setCells_out _ _ _ _ _ (fun _ _=> .inl (by simp;omega))];exact z k s t j f
     ·rw[List.getElem?_append_right E]at t;have X:=(Zw t).1;have P:=World.cell?_setCells_in g (AA c) (d+a.length *8) w (fun j f=>by rw[Nat.add_assoc];exact(p _ (u j f)).1) ((k -a.length) *8+j) (by omega);rw[show d+(k *8+j)=d+a.length *8+((k -a.length) *8+j) by omega,P];have:=ED t f;rw[Zv (by omega)]at this;exact this
   ·obtain⟨h,m,n,I,J,K⟩:=grow (some ⟨g,d,none⟩) b (by omega) (run_firstCells_some w.drew _ _ _ _ _ _ (by rw[o];exact CQ a) (by simpa using R8.cells z));exact⟨h,m,n,I,J _,.inr K⟩
theorem wpList_append_run{P:Program}{w:Zh}{b:Array Oper}{rest:List Oper}{o:Oper}{a:Act}{Q:Exit->Act->Zh->Prop}(f:o.guard=none)(s x:Operand)(t u:TypeId)
 (i:o.op=.call {callee:=.builtin .append,args:= #[s,x],argTypes:= #[t,u]}) {v e c:Value} {d:Zh} (k:a.eval s=v) (l:a.eval x=e)
 (j:(Builtin.append_ #[t,u] o.type #[v,e]).run P w=.ok c d) (h:wpList P b Q rest (a.put o.dst c) d):wpList P b Q (o::rest) a w:=by
 refine wpList_plain f fun K g=> ?_;unfold Oper.wp execOp;simp only[i,resolve,invoke,builtin,Sem.run_bind,Sem.run_pure,Result.andThen_ok,List.map_toArray,List.map_cons,List.map_nil,k,l,j];exact g _ _ h
theorem BD{P:Program}{w:Zh}{b:Array Oper}{o:Oper}{a:Act}{K:Act->Zh->Prop}{Q:Exit->Act->Zh->Prop}{E:Prop}(f:o.guard=none)(s x:Operand)(t u:TypeId)
 (g:o.op=.call {callee:=.builtin .append,args:= #[s,x],argTypes:= #[t,u]}) {v e c:Value} {d:Zh} (j:a.eval s=v) (l:a.eval x=e)
 (i:(Builtin.append_ #[t,u] o.type #[v,e]).run P w=.ok c d) (h:K (a.put o.dst c) d):
 if Region.wanted o (yielded b a.tmps)=true then Oper.wp P o a w K Q else E:=by
 have k:Region.wanted o (yielded b a.tmps)=true:=by simp[Region.wanted,f]
 rw[if_pos k];unfold Oper.wp execOp;simp only[g,resolve,invoke,builtin,Sem.run_bind,Sem.run_pure,Result.andThen_ok,List.map_toArray,List.map_cons,List.map_nil,j,l,i];exact h
structure Ns (ks:List Kd):Prop where
 len:ks.length<=maxLen
 sum:∀k∈ks,k.sum.size<=maxLen
 text:∀k∈ks,k.text.size<=maxLen
 refs:∀k∈ks,k.refs.length<=maxLen
 ref:∀k∈ks,∀s∈k.refs,s.size<=maxLen
structure Nt (ps:List Pd):Prop where
 len:ps.length<=maxLen
 name:∀p∈ps,p.name.size<=maxLen
 sum:∀p∈ps,p.sum.size<=maxLen
structure Nu (ls:List Ld):Prop where
 len:ls.length<=maxLen
 sum:∀l∈ls,l.sum.size<=maxLen
theorem Sf(p:Pd)(left:Int)(w:Zh)(b:p.name.size<=maxLen)(c:p.sum.size<=maxLen)(f:0<=left)(g:left<=1048576):
 Calls prog 60 #[.agg #[.string p.name,.string p.sum],Zg left] w fun e d=>∃r:Int,e=.returned (Zg r)/\Zz w d/\r<=left:=by
 have a:Below w.heap.size w (w.alloc (.cells #[.string p.name,.string p.sum] 109)):=Zy;unfold maxLen at b c;by_cases hn:left<p.name.size
 ·go_enter func60,ntmps60;go_wp2;go_ret;exact⟨_,rfl,a,by omega⟩
 ·by_cases hm:left -p.name.size<p.sum.size
  ·go_enter func60,ntmps60;go_wp2;go_ret;exact⟨_,rfl,a,by omega⟩
  ·go_enter func60,ntmps60;go_wp2;go_ret;exact⟨_,rfl,a,by omega⟩
theorem OO(l:Ld)(left:Int)(w:Zh)(b:l.sum.size<=maxLen)(d:0<=left)(f:left<=1048576):
 Calls prog 61 #[.agg #[Zg l.num,.string l.sum,Zg l.bf],Zg left] w fun e c=>∃r:Int,e=.returned (Zg r)/\Zz w c/\r<=left:=by
 have a:Below w.heap.size w (w.alloc (.cells #[Zg l.num,.string l.sum,Zg l.bf] 112)):=Zy;unfold maxLen at b;by_cases hn:left<l.sum.size
 ·go_enter func61,ntmps61;go_wp2;go_ret;exact⟨_,rfl,a,by omega⟩
 ·go_enter func61,ntmps61;go_wp2;go_ret;exact⟨_,rfl,a,by omega⟩
theorem Qt(a:Zk)(p:Nat)(d:List Pd)(left:Int)(w:Zh)(g:AS w w.heap.size a d)(j:Nt d)(D:0<=left)(E:left<=1048576):
 Calls prog 31 #[.slice a d.length p,Zg left] w fun e y=>∃r:Int,e=.returned (Zg r)/\Zz w y/\r<=left/\(0<=r->d.length<=1048576):=by
 have s:=j.len;unfold maxLen at s;by_cases hn:left<d.length
 ·go_enter func31,ntmps31;go_wp2;go_ret;exact⟨_,rfl,Below.refl _ _,by omega,fun h=>by omega⟩
 ·go_enter func31,ntmps31;go_wp2
  go_loopw [1,5] (fun l i wr=>∃(k:Nat) (L:Int),k<=d.length/\i=Zg k/\l=Zg L/\0<=L/\L<=left/\Zz w wr) (fun _ i _=>d.length -(intOf i).toNat)
  case atStart=>exact⟨0,_,Nat.zero_le _,rfl,rfl,by omega,by omega,Below.refl _ _⟩
  case round=>
   obtain⟨k,L,H,rfl,rfl,z,F,c⟩:=hrel;by_cases hlt:k<d.length
   ·obtain⟨b,A,t,G,n⟩:=(g.below c).at hlt;subst t;have o:=Zv hlt;have f:=List.getElem_mem hlt;obtain⟨B,C⟩:=n k _ o;have u:=j.name _ f;have v:=j.sum _ f;clear n g j f o;generalize d[k]=x at *
    go_wp2_with fail;refine(Sf x L wr u v (by omega) (by omega)).mono ?_;rintro e J ⟨r,rfl,q,I⟩;have m:=c.trans (q.mono c.size);by_cases h3:r<0
    ·go_wp2;go_ret;exact⟨_,rfl,m,by omega,fun h=>by omega⟩
    ·go_wp2;exact⟨⟨k+1,_,by omega,by go_num,rfl,by omega,by omega,m⟩,by simp[intOf];omega⟩
   ·go_wp2;go_ret;exact⟨_,rfl,c,by omega,fun _=>by omega⟩
theorem Nv(a:Zk)(p:Nat)(d:List Ld)(left:Int)(w:Zh)(g:AU w w.heap.size a d)(j:Nu d)(C:0<=left)(D:left<=1048576):
 Calls prog 32 #[.slice a d.length p,Zg left] w fun e v=>∃r:Int,e=.returned (Zg r)/\Zz w v/\r<=left/\(0<=r->d.length<=1048576):=by
 have s:=j.len;unfold maxLen at s;by_cases hn:left<d.length
 ·go_enter func32,ntmps32;go_wp2;go_ret;exact⟨_,rfl,Below.refl _ _,by omega,fun h=>by omega⟩
 ·go_enter func32,ntmps32;go_wp2
  go_loopw [1,5] (fun l i wr=>∃(k:Nat) (L:Int),k<=d.length/\i=Zg k/\l=Zg L/\0<=L/\L<=left/\Zz w wr) (fun _ i _=>d.length -(intOf i).toNat)
  case atStart=>exact⟨0,_,Nat.zero_le _,rfl,rfl,by omega,by omega,Below.refl _ _⟩
  case round=>
   obtain⟨k,L,G,rfl,rfl,y,E,c⟩:=hrel;by_cases hlt:k<d.length
   ·obtain⟨b,z,t,F,n⟩:=(g.below c).at hlt;subst t;have o:=Zv hlt;have f:=List.getElem_mem hlt;obtain⟨A,B,c2⟩:=n k _ o;have u:=j.sum _ f;clear n g j f o;generalize d[k]=x at *
    go_wp2_with fail;refine(OO x L wr u (by omega) (by omega)).mono ?_;rintro e I ⟨r,rfl,q,H⟩;have m:=c.trans (q.mono c.size);by_cases h3:r<0
    ·go_wp2;go_ret;exact⟨_,rfl,m,by omega,fun h=>by omega⟩
    ·go_wp2;exact⟨⟨k+1,_,by omega,by go_num,rfl,by omega,by omega,m⟩,by simp[intOf];omega⟩
   ·go_wp2;go_ret;exact⟨_,rfl,c,by omega,fun _=>by omega⟩
def Bg(w:Zh)(b:Nat)(wd now given ae:Int)(T P L:Value):Prop:=
 w.cell? (Ze b 0)=some (Zg wd)/\w.cell? (Ze b 1)=some (Zg now)/\w.cell? (Ze b 2)=some (Zg given)/\w.cell? (Ze b 3)=some (Zg ae)/\
  w.cell? (Ze b 4)=some T/\w.cell? (Ze b 5)=some P/\w.cell? (Ze b 6)=some L/\b<w.heap.size
theorem Bg.new(w:Zh)(b a given ae:Int)(T P L:Value)(t:TypeId):Bg (w.alloc (.cells #[Zg b,Zg a,Zg given,Zg ae,T,P,L] t)) w.heap.size b a given ae T P L:=
 ⟨by simp,by simp,by simp,by simp,by simp,by simp,by simp,by simp⟩
theorem Bg.aj{w e:Zh}{b B:Nat}{f d given ae:Int}{T P L:Value}(h:Bg w b f d given ae T P L)(a:Below B w e)(c:b<B):Bg e b f d given ae T P L:=by
 obtain⟨g,i,j,k,l,m,n,o⟩:=h;exact⟨(a.cell (p:=⟨b,0,none⟩) c).trans g,(a.cell (p:=⟨b,1,none⟩) c).trans i,(a.cell (p:=⟨b,2,none⟩) c).trans j,(a.cell (p:=⟨b,3,none⟩) c).trans k,
  (a.cell (p:=⟨b,4,none⟩) c).trans l,(a.cell (p:=⟨b,5,none⟩) c).trans m,(a.cell (p:=⟨b,6,none⟩) c).trans n,Zr o a.size⟩
theorem Bg.below{w c:Zh}{b:Nat}{d a given ae:Int}{T P L:Value}(h:Bg w b d a given ae T P L)(e:Zz w c):Bg c b d a given ae T P L:=h.aj e h.2.2.2.2.2.2.2
structure Bv (w:Zh) (B:Nat) (a p l:Zk) (ks:List Kd) (ps:List Pd) (ls:List Ld):Prop where
 k:BH w B a ks
 p:AS w B p ps
 l:AU w B l ls
theorem Bv.af{w c:Zh}{a p l:Zk}{d:List Kd}{f:List Pd}{e:List Ld}(h:Bv w w.heap.size a p l d f e)(b:Zz w c):Bv c c.heap.size a p l d f e:=
 ⟨(h.k.below b).mono b.size,(h.p.below b).mono b.size,(h.l.below b).mono b.size⟩
theorem Bv.aj{w f:Zh}{B:Nat}{a p l:Zk}{c:List Kd}{e:List Pd}{d:List Ld}(h:Bv w B a p l c e d)(b:Below B w f):Bv f B a p l c e d:=
 ⟨h.k.below b,h.p.below b,h.l.below b⟩
theorem Bv.mono{w:Zh}{B B':Nat}{a p l:Zk}{c:List Kd}{e:List Pd}{d:List Ld}(h:Bv w B a p l c e d)(b:B<=B'):Bv w B' a p l c e d:=
 ⟨h.k.mono b,h.p.mono b,h.l.mono b⟩
structure Nw (ks:List Kd) (ps:List Pd) (ls:List Ld):Prop where
 k:ks.length<=1048576
 r:∀k∈ks,k.refs.length<=1048576
 p:ps.length<=1048576
 l:ls.length<=1048576
def DW(w:Zh)(lo g c:Nat)(rs:Zl):Prop:=w.ownsRow lo 9 1 (.slice (some ⟨g,0,none⟩) rs.length c) rs.length (rs.map Value.string)
theorem Qu(k:Kd)(a:Zk)(d:Nat)(w:Zh)(c:Ad w w.heap.size a k.refs)(l:k.refs.length<=1048576):
 Calls prog 86 #[.agg #[.string k.sum,Zg k.born,.string k.text,.slice a k.refs.length d]] w fun e h=>∃g,e=.returned (.agg #[.string k.sum,Zg k.born,.string k.text,Za g k.refs.length k.refs.length])/\
  DW h w.heap.size g k.refs.length k.refs/\Zz w h:=by
 go_enter func86,ntmps86;go_wp2_with fail;refine(OI k.text a d k.refs _ (c.af (((Zy).alloc (by simp) _).alloc (by simp;omega) _)) l).mono ?_;rintro e o ⟨g,rfl,j,b,f⟩;obtain⟨i,n⟩:=Jz f;have m:=f.size;simp at m j;go_wp2;refine bodyPost_ret (v:=.agg #[.string k.sum,Zg k.born,.string k.text,Za g k.refs.length k.refs.length]) (by simp[results,results86,go_sem,i]) rfl ⟨g,rfl,?_,?_⟩
 ·exact(ownsRow_setCell_below (ownsRow_setCell_below (ownsRow_setCell_below (ownsRow_setCell_below (ownsRow_setCell_below (ownsRow_setCell_below b (by simp) _) (by simp) _) (by simp) _) (by simp) _) (by simp) _) (by simp) _).mono (by simp;omega)
 ·exact(((((((Zy).alloc (by simp) _).alloc (by simp;omega) _).trans (f.mono (by simp;omega))).setCell (by simp;omega) _|>.setCell (by simp;omega) _|>.setCell (by simp) _|>.setCell (by simp) _|>.setCell (by simp) _|>.setCell (by simp) _)))
def Ej(w:Zh)(lo:Nat)(xs:Zj)(i:Nat)(x:Kd):Prop:=
 xs[i *4]?=some (.string x.sum)/\xs[i *4+1]?=some (Zg x.born)/\xs[i *4+2]?=some (.string x.text)/\
  ∃g,xs[i *4+3]?=some (.slice (some ⟨g,0,none⟩) x.refs.length x.refs.length)/\DW w lo g x.refs.length x.refs
theorem GF:(prog.info? 131).map (fun i=>(i.zero,i.size,i.bytes))=some (some (.agg #[Zd,Zf,Zd,Zc]),4,64):=by kernel_rfl
theorem DW.aj{w d:Zh}{lo g c:Nat}{b:Zl}(h:DW w lo g c b)(a:Zz w d):DW d lo g c b:=
 World.ownsRow.kept h (row:=none) ⟨a.os,a.tape,a.output,a.size,fun k e _=>a.block k e⟩ (.inr (by simp[Value.ownBlock]))
theorem Ej.aj{w a:Zh}{lo i:Nat}{b:Zj}{x:Kd}(h:Ej w lo b i x)(k:Zz w a):Ej a lo b i x:=by obtain⟨c,d,e,g,f,j⟩:=h;exact⟨c,d,e,g,f,j.aj k⟩
theorem Ej.fx{w b:Zh}{lo i j:Nat}{d:Zj}{x:Kd}(h:Ej w lo d i x)(o:i<j)(k l m n:Value)(f:∀g c a,DW w lo g c a->DW b lo g c a):
 Ej b lo ((((d.set (j *4) k).set (j *4+1) l).set (j *4+2) m).set (j *4+3) n) i x:=by
 obtain⟨p,q,r,g,s,e⟩:=h;refine⟨?_,?_,?_,g,?_,f _ _ _ e⟩
 all_goals
  rw[List.getElem?_set_ne (by omega),List.getElem?_set_ne (by omega),List.getElem?_set_ne (by omega),List.getElem?_set_ne (by omega)];assumption
theorem Ej.new4{w:Zh}{lo j g:Nat}{a:Zj}(x:Kd)(c:j *4+3<a.length)(b:DW w lo g x.refs.length x.refs):
 Ej w lo ((((a.set (j *4) (.string x.sum)).set (j *4+1) (Zg x.born)).set (j *4+2) (.string x.text)).set (j *4+3) (Za g x.refs.length x.refs.length)) j x:=by
 refine⟨?_,?_,?_,g,?_,b⟩
 ·rw[List.getElem?_set_ne (by omega),List.getElem?_set_ne (by omega),List.getElem?_set_ne (by omega),List.getElem?_set_self (by omega)]
 ·rw[List.getElem?_set_ne (by omega),List.getElem?_set_ne (by omega),List.getElem?_set_self (by simp;omega)]
 ·rw[List.getElem?_set_ne (by omega),List.getElem?_set_self (by simp;omega)]
 ·rw[List.getElem?_set_self (by simp;omega)]
def Nx(xs:Zj)(n:Nat):Prop:=∀(i j q q' m c m' c':Nat),i<j->j<n->xs[i *4+3]?=some (.slice (some ⟨q,0,none⟩) m c)->xs[j *4+3]?=some (.slice (some ⟨q',0,none⟩) m' c')->q<q'
theorem Nx.fx{b:Zj}{k:Nat}(h:Nx b k)(w:k *4+3<b.length)(s t u:Value)(g m c:Nat)(o:∀i q m c,i<k->b[i *4+3]?=some (Za q m c)->q<g):
 Nx ((((b.set (k *4) s).set (k *4+1) t).set (k *4+2) u).set (k *4+3) (Za g m c)) (k+1):=by
 intro i j q r n f p c2 d v e a;rw[List.getElem?_set_ne (by omega),List.getElem?_set_ne (by omega),List.getElem?_set_ne (by omega),List.getElem?_set_ne (by omega)]at e;rcases Nat.lt_or_ge j k with l|l
 ·rw[List.getElem?_set_ne (by omega),List.getElem?_set_ne (by omega),List.getElem?_set_ne (by omega),List.getElem?_set_ne (by omega)]at a;exact h i j q r n f p c2 d l e a
 ·obtain rfl:j=k:=by omega
  rw[List.getElem?_set_self (by simp;omega)]at a;cases a;exact o i q n f d e
def EN(w:Zh)(lo g:Nat)(ks:List Kd):Prop:=
 ∃xs,w.ownsRow lo 131 4 (.slice (some ⟨g,0,none⟩) ks.length ks.length) ks.length xs/\(∀i x,ks[i]?=some x->Ej w (g+1) xs i x)/\Nx xs ks.length
theorem EN.row{w:Zh}{lo g:Nat}{c:List Kd}(h:EN w lo g c):BH w w.heap.size (some ⟨g,0,none⟩) c:=by obtain⟨n,a,l,_⟩:=h;refine .inr ⟨g,0,rfl,(a.lt g rfl).2,fun i x b=> ?_⟩;have m:=(Zw b).1;obtain⟨d,e,f,q,j,k⟩:=l i x b;rw[Nat.zero_add];exact⟨(a.cellAt _ (by omega)).trans d,(a.cellAt _ (by omega)).trans e,(a.cellAt _ (by omega)).trans f,_,_,(a.cellAt _ (by omega)).trans j,Ad.own k⟩
theorem OP(a:Zk)(O:Nat)(l:List Kd)(w:Zh)(A:BH w w.heap.size a l)(hl:l.length<=1048576)(D:∀k∈l,k.refs.length<=1048576):
 Calls prog 42 #[.slice a l.length O] w fun e N=>∃g,e=.returned (Za g l.length l.length)/\w.heap.size<=g/\EN N w.heap.size g l/\Zz w N:=by
 obtain⟨i0,B,S,T,U⟩:=info_parts GF;go_enter func42,ntmps42;go_wp2_with (at_make;refine wpList_make_full _ rfl _ _ 36 rfl w.heap.size 131 i0 _ 4 underlying36 B S T .i64 .i64 _ _ l.length rfl rfl rfl rfl ?c1 ?c2 ?c3 ?_)
 case c1=>rw[U];omega
 case c2=>unfold maxLen;omega
 case c3=>exact Zx
 intro s d r;have u:Below w.heap.size w s:=(Below.refl _ _).grown r (Zx) (by simp);have V:w.heap.size<s.heap.size:=(d.lt _ rfl).2;generalize (madeCells _ _).toList=ys at d;clear r;go_wp2
 go_loopw [4] (fun i wr=>∃(k:Nat) (p:Zj),k<=l.length/\i=Zg k/\wr.ownsRow w.heap.size 131 4 (Za w.heap.size l.length l.length) l.length p/\Hid (∀i,i<k->∀x,l[i]?=some x->Ej wr (w.heap.size+1) p i x)/\Hid (Nx p k)/\Zz w wr) (fun i _=>l.length -(intOf i).toNat)
 case atStart=>exact⟨0,ys,Nat.zero_le _,rfl,d,fun i h=>by omega,fun i j q q' m c m' c' h1 h2=>by omega,u⟩
 case round=>
  obtain⟨k,p,hk,rfl,d,t,z,n⟩:=hrel;by_cases hlt:k<l.length
  ·obtain⟨b,zC,ha,hb,L⟩:=A.at hlt;subst ha;have H:l[k]?=some l[k]:=Zv hlt;obtain⟨c0,c1,c2,ra,rc,c3,F⟩:=(L k _ H).below n hb;have R:=D _ (List.getElem_mem hlt);have zA:=(d.lt _ rfl).2;have Y:=Yx d;have X:=Yx H;clear L A H d D;generalize l[k]=x at *
   have v:=Qu x ra rc wr (F.mono n.size) R;have W:=Yx v;clear v F;go_wp2_with fail;refine Calls.mono W.o ?_;rintro e s ⟨g,rfl,E,u⟩;have o:=World.ownsRow.kept Y.o (Au none u) (.inr (by simp[Value.ownBlock]));have zB:=o.1;have Z:s.cell? (Ze (w.heap.size) (k *4))=p[k *4]?:=o.cellAt _ (by omega);have e1:s.cell? (Ze (w.heap.size) (k *4+1))=p[k *4+1]?:=o.cellAt _ (by omega)
   have e2:s.cell? (Ze (w.heap.size) (k *4+2))=p[k *4+2]?:=o.cellAt _ (by omega);have e3:s.cell? (Ze (w.heap.size) (k *4+3))=p[k *4+3]?:=o.cellAt _ (by omega);rw[Zv (by omega)]at Z e1 e2 e3;have f:=o.frozenAt;go_wp2;have P:=n.trans (u.mono n.size)
   refine⟨⟨k+1,((((p.set (k *4) (.string x.sum)).set (k *4+1) (Zg x.born)).set (k *4+2) (.string x.text)).set (k *4+3) (Za g x.refs.length x.refs.length)),by omega,by go_num,((((o.stored (k *4) _).1.stored (k *4+1) _).1.stored (k *4+2) _).1.stored (k *4+3) _).1,?_,z.o.fx (by omega) _ _ _ _ _ _ (fun i q m c B C=> ?_),?_⟩,by simp[intOf];omega⟩
   ·have M:∀q c J,DW s (w.heap.size+1) q c J->DW ((((s.setCell (Ze (w.heap.size) (k *4)) (Value.string x.sum)).setCell (Ze (w.heap.size) (k *4+1)) (Value.int IntKind.i64 x.born)).setCell (Ze (w.heap.size) (k *4+2)) (Value.string x.text)).setCell (Ze (w.heap.size) (k *4+3)) (Za g x.refs.length x.refs.length)) (w.heap.size+1) q c J:=
     fun q c J h=>ownsRow_setCell_below (ownsRow_setCell_below (ownsRow_setCell_below (ownsRow_setCell_below h (by simp) _) (by simp) _) (by simp) _) (by simp) _
    intro i B y I;rcases Nat.lt_or_ge i k with G|G
    ·exact((t i G y I).aj u).fx G _ _ _ _ M
    ·obtain rfl:i=k:=by omega
     rw[X.o]at I;cases I;exact Ej.new4 x (by omega) (M _ _ _ (World.ownsRow.mono E (by omega)))
   ·have Q:i<l.length:=by omega
    obtain⟨_,_,_,q',K,h4⟩:=t i B _ (Zv Q);rw[C]at K;cases K;have l1:=(World.ownsRow.lt h4 q rfl).2;have l2:=(World.ownsRow.lt E g rfl).1;omega
   ·exact(((P.setCell (by simp) _).setCell (by simp) _).setCell (by simp) _).setCell (by simp) _
  ·go_wp2;go_ret;exact⟨_,rfl,Zx,⟨p,d,fun i x C=>t i (by have:=(Zw C).1;omega) x C,by have e:k=l.length:=(by omega);rw[←e];exact z.o⟩,n⟩
theorem Gy:(prog.info? 137).map (fun i=>(i.zero,i.size,i.bytes))=some (some (.agg #[Zd,Zd]),2,32):=by kernel_rfl
theorem Sg(x:Pd)(w:Zh):
 Calls prog 87 #[.agg #[.string x.name,.string x.sum]] w fun e a=>e=.returned (.agg #[.string x.name,.string x.sum])/\Zz w a:=by
 go_enter func87,ntmps87;go_wp2;refine bodyPost_ret (v:=.agg #[.string x.name,.string x.sum]) (by simp[results,results87,go_sem]) rfl ⟨rfl,?_⟩;exact(((Zy).alloc (by simp) _).alloc (by simp;omega) _)
def EV(w:Zh)(lo g:Nat)(ps:List Pd):Prop:=
 ∃xs,w.ownsRow lo 137 2 (.slice (some ⟨g,0,none⟩) ps.length ps.length) ps.length xs/\∀i x,ps[i]?=some x->xs[i *2]?=some (.string x.name)/\xs[i *2+1]?=some (.string x.sum)
theorem EV.row{w:Zh}{lo g:Nat}{c:List Pd}(h:EV w lo g c):AS w w.heap.size (some ⟨g,0,none⟩) c:=by obtain⟨k,a,f⟩:=h;refine .inr ⟨g,0,rfl,(a.lt g rfl).2,fun i x b=> ?_⟩;have j:=(Zw b).1;obtain⟨d,e⟩:=f i x b;rw[Nat.zero_add];exact⟨(a.cellAt _ (by omega)).trans d,(a.cellAt _ (by omega)).trans e⟩
theorem Qv(a:Zk)(C:Nat)(d:List Pd)(w:Zh)(p:AS w w.heap.size a d)(W:d.length<=1048576):
 Calls prog 43 #[.slice a d.length C] w fun e B=>∃g,e=.returned (Za g d.length d.length)/\w.heap.size<=g/\EV B w.heap.size g d/\Zz w B:=by
 obtain⟨N,z,E,F,G⟩:=info_parts Gy;go_enter func43,ntmps43;go_wp2_with (at_make;refine wpList_make_full _ rfl _ _ 37 rfl w.heap.size 137 N _ 2 underlying37 z E F .i64 .i64 _ _ d.length rfl rfl rfl rfl ?c1 ?c2 ?c3 ?_)
 case c1=>rw[G];omega
 case c2=>unfold maxLen;omega
 case c3=>exact Zx
 intro t c l;have q:=(Below.refl _ _).grown l (Zx) (by simp);have H:=(c.lt _ rfl).2;generalize (madeCells _ _).toList=ys at c;clear l;go_wp2
 go_loopw [4] (fun i wr=>∃(k:Nat) (m:Zj),k<=d.length/\i=Zg k/\wr.ownsRow w.heap.size 137 2 (Za w.heap.size d.length d.length) d.length m/\Hid (∀i,i<k->∀x,d[i]?=some x->m[i *2]?=some (.string x.name)/\m[i *2+1]?=some (.string x.sum))/\Zz w wr) (fun i _=>d.length -(intOf i).toNat)
 case atStart=>exact⟨0,ys,Nat.zero_le _,rfl,c,fun i h=>by omega,q⟩
 case round=>
  obtain⟨k,m,V,rfl,c,o,j⟩:=hrel;by_cases hlt:k<d.length
  ·obtain⟨b,S,M,U,v⟩:=(p.below j).at hlt;subst M;have r:=Zv hlt;obtain⟨T,c1⟩:=v k _ r;have Q:=(c.lt _ rfl).2;have J:=Yx c;have I:=Yx r;clear v p r c;generalize d[k]=x at *
   go_wp2_with fail;refine(Sg x wr).mono ?_;rintro e t ⟨rfl,q⟩;have n:=World.ownsRow.kept J.o (Au none q) (.inr (by simp[Value.ownBlock]));have R:=n.1;have K:t.cell? (Ze (w.heap.size) (k *2))=m[k *2]?:=n.cellAt _ (by omega);have L:t.cell? (Ze (w.heap.size) (k *2+1))=m[k *2+1]?:=n.cellAt _ (by omega);rw[Zv (by omega)]at K L;have f:=n.frozenAt;go_wp2;have D:=j.trans (q.mono j.size)
   refine⟨⟨k+1,((m.set (k *2) (.string x.name)).set (k *2+1) (.string x.sum)),by omega,by go_num,((n.stored (k *2) _).1.stored (k *2+1) _).1,?_,((D.setCell (by simp) _).setCell (by simp) _)⟩,by simp[intOf];omega⟩;intro i z y s;rcases Nat.lt_or_ge i k with u|u
   ·obtain⟨O,P⟩:=o i u y s;exact⟨(by rw[List.getElem?_set_ne (by omega),List.getElem?_set_ne (by omega)];exact O),(by rw[List.getElem?_set_ne (by omega),List.getElem?_set_ne (by omega)];exact P)⟩
   ·obtain rfl:i=k:=by omega
    rw[I.o]at s;cases s;exact⟨(by rw[List.getElem?_set_ne (by omega),List.getElem?_set_self (by first|omega|(simp;omega))]),(by rw[List.getElem?_set_self (by first|omega|(simp;omega))])⟩
  ·go_wp2;go_ret;exact⟨_,rfl,Zx,⟨m,c,fun i x A=>o i (by have:=(Zw A).1;omega) x A⟩,j⟩
theorem Gc:(prog.info? 139).map (fun i=>(i.zero,i.size,i.bytes))=some (some (.agg #[Zf,Zd,Zf]),3,32):=by kernel_rfl
theorem OQ(x:Ld)(w:Zh):
 Calls prog 88 #[.agg #[Zg x.num,.string x.sum,Zg x.bf]] w fun e a=>e=.returned (.agg #[Zg x.num,.string x.sum,Zg x.bf])/\Zz w a:=by
 go_enter func88,ntmps88;go_wp2;refine bodyPost_ret (v:=.agg #[Zg x.num,.string x.sum,Zg x.bf]) (by simp[results,results88,go_sem]) rfl ⟨rfl,?_⟩;exact(((Zy).alloc (by simp) _).alloc (by simp;omega) _)
def EX(w:Zh)(lo g:Nat)(ls:List Ld):Prop:=
 ∃xs,w.ownsRow lo 139 3 (.slice (some ⟨g,0,none⟩) ls.length ls.length) ls.length xs/\∀i x,ls[i]?=some x->xs[i *3]?=some (Zg x.num)/\xs[i *3+1]?=some (.string x.sum)/\xs[i *3+2]?=some (Zg x.bf)
theorem EX.row{w:Zh}{lo g:Nat}{c:List Ld}(h:EX w lo g c):AU w w.heap.size (some ⟨g,0,none⟩) c:=by obtain⟨l,a,j⟩:=h;refine .inr ⟨g,0,rfl,(a.lt g rfl).2,fun i x b=> ?_⟩;have k:=(Zw b).1;obtain⟨d,e,f⟩:=j i x b;rw[Nat.zero_add];exact⟨(a.cellAt _ (by omega)).trans d,(a.cellAt _ (by omega)).trans e,(a.cellAt _ (by omega)).trans f⟩
theorem Ny(a:Zk)(C:Nat)(d:List Ld)(w:Zh)(p:AU w w.heap.size a d)(Y:d.length<=1048576):
 Calls prog 44 #[.slice a d.length C] w fun e B=>∃g,e=.returned (Za g d.length d.length)/\w.heap.size<=g/\EX B w.heap.size g d/\Zz w B:=by
 obtain⟨O,z,E,F,G⟩:=info_parts Gc;go_enter func44,ntmps44;go_wp2_with (at_make;refine wpList_make_full _ rfl _ _ 38 rfl w.heap.size 139 O _ 3 underlying38 z E F .i64 .i64 _ _ d.length rfl rfl rfl rfl ?c1 ?c2 ?c3 ?_)
 case c1=>rw[G];omega
 case c2=>unfold maxLen;omega
 case c3=>exact Zx
 intro r c m;have q:Below w.heap.size w r:=(Below.refl _ _).grown m (Zx) (by simp);have H:w.heap.size<r.heap.size:=(c.lt _ rfl).2;generalize (madeCells _ _).toList=ys at c;clear m;go_wp2
 go_loopw [4] (fun i wr=>∃(k:Nat) (l:Zj),k<=d.length/\i=Zg k/\wr.ownsRow w.heap.size 139 3 (Za w.heap.size d.length d.length) d.length l/\Hid (∀i,i<k->∀x,d[i]?=some x->l[i *3]?=some (Zg x.num)/\l[i *3+1]?=some (.string x.sum)/\l[i *3+2]?=some (Zg x.bf))/\Zz w wr) (fun i _=>d.length -(intOf i).toNat)
 case atStart=>exact⟨0,ys,Nat.zero_le _,rfl,c,fun i h=>by omega,q⟩
 case round=>
  obtain⟨k,l,X,rfl,c,o,j⟩:=hrel;by_cases hlt:k<d.length
  ·obtain⟨b,U,N,W,v⟩:=(p.below j).at hlt;subst N;have s:d[k]?=some d[k]:=Zv hlt;obtain⟨V,c1,c2⟩:=v k _ s;have S:=(c.lt _ rfl).2;have J:=Yx c;have I:=Yx s;clear v p s c;generalize d[k]=x at *
   go_wp2_with fail;refine(OQ x wr).mono ?_;rintro e r ⟨rfl,q⟩;have n:=World.ownsRow.kept J.o (Au none q) (.inr (by simp[Value.ownBlock]));have T:=n.1;have K:r.cell? (Ze (w.heap.size) (k *3))=l[k *3]?:=n.cellAt _ (by omega);have L:r.cell? (Ze (w.heap.size) (k *3+1))=l[k *3+1]?:=n.cellAt _ (by omega);have M:r.cell? (Ze (w.heap.size) (k *3+2))=l[k *3+2]?:=n.cellAt _ (by omega)
   rw[Zv (by omega)]at K L M;have f:=n.frozenAt;go_wp2;have D:=j.trans (q.mono j.size);refine⟨⟨k+1,(((l.set (k *3) (Zg x.num)).set (k *3+1) (.string x.sum)).set (k *3+2) (Zg x.bf)),by omega,by go_num,(((n.stored (k *3) _).1.stored (k *3+1) _).1.stored (k *3+2) _).1,?_,(((D.setCell (by simp) _).setCell (by simp) _).setCell (by simp) _)⟩,by simp[intOf];omega⟩;intro i z y t
   rcases Nat.lt_or_ge i k with u|u
   ·obtain⟨P,Q,R⟩:=o i u y t;exact⟨(by rw[List.getElem?_set_ne (by omega),List.getElem?_set_ne (by omega),List.getElem?_set_ne (by omega)];exact P),(by rw[List.getElem?_set_ne (by omega),List.getElem?_set_ne (by omega),List.getElem?_set_ne (by omega)];exact Q),(by rw[List.getElem?_set_ne (by omega),List.getElem?_set_ne (by omega),List.getElem?_set_ne (by omega)];exact R)⟩
   ·obtain rfl:i=k:=by omega
    rw[I.o]at t;cases t;exact⟨(by rw[List.getElem?_set_ne (by omega),List.getElem?_set_ne (by omega),List.getElem?_set_self (by first|omega|(simp;omega))]),(by rw[List.getElem?_set_ne (by omega),List.getElem?_set_self (by first|omega|(simp;omega))]),(by rw[List.getElem?_set_self (by first|omega|(simp;omega))])⟩
  ·go_wp2;go_ret;exact⟨_,rfl,Zx,⟨l,c,fun i x A=>o i (by have:=(Zw A).1;omega) x A⟩,j⟩
theorem EN.aj{w c:Zh}{lo g:Nat}{b:List Kd}(h:EN w lo g b)(a:Zz w c):EN c lo g b:=by obtain⟨k,f,e,d⟩:=h;exact⟨k,f.kept (Au none a) (.inr (by simp[Value.ownBlock])),fun i x j=>(e i x j).aj a,d⟩
theorem EV.aj{w b:Zh}{lo g:Nat}{a:List Pd}(h:EV w lo g a)(c:Zz w b):EV b lo g a:=by obtain⟨f,e,d⟩:=h;exact⟨f,e.kept (Au none c) (.inr (by simp[Value.ownBlock])),d⟩
theorem EX.aj{w b:Zh}{lo g:Nat}{a:List Ld}(h:EX w lo g a)(c:Zz w b):EX b lo g a:=by obtain⟨f,e,d⟩:=h;exact⟨f,e.kept (Au none c) (.inr (by simp[Value.ownBlock])),d⟩
theorem EN.setCell{w:Zh}{lo g:Nat}{c:List Kd}(h:EN w lo g c){a:Addr}(l:a.block<lo)(u:Value):EN (w.setCell a u) lo g c:=by obtain⟨p,b,n,m⟩:=h;have:=(b.lt g rfl).1;refine⟨p,ownsRow_setCell_below b l u,fun i x o=> ?_,m⟩;obtain⟨d,e,f,q,j,k⟩:=n i x o;exact⟨d,e,f,q,j,ownsRow_setCell_below k (by omega) u⟩
theorem EV.setCell{w:Zh}{lo g:Nat}{b:List Pd}(h:EV w lo g b){a:Addr}(c:a.block<lo)(u:Value):EV (w.setCell a u) lo g b:=by obtain⟨f,e,d⟩:=h;exact⟨f,ownsRow_setCell_below e c u,d⟩
theorem EX.setCell{w:Zh}{lo g:Nat}{b:List Ld}(h:EX w lo g b){a:Addr}(c:a.block<lo)(u:Value):EX (w.setCell a u) lo g b:=by obtain⟨f,e,d⟩:=h;exact⟨f,ownsRow_setCell_below e c u,d⟩
theorem EN.mono{w:Zh}{lo a g:Nat}{b:List Kd}(h:EN w lo g b)(d:a<=lo):EN w a g b:=by obtain⟨f,e,c⟩:=h;exact⟨f,e.mono d,c⟩
theorem EV.mono{w:Zh}{lo a g:Nat}{b:List Pd}(h:EV w lo g b)(d:a<=lo):EV w a g b:=by obtain⟨f,e,c⟩:=h;exact⟨f,e.mono d,c⟩
theorem EX.mono{w:Zh}{lo a g:Nat}{b:List Ld}(h:EX w lo g b)(d:a<=lo):EX w a g b:=by obtain⟨f,e,c⟩:=h;exact⟨f,e.mono d,c⟩
structure GH (w:Zh) (lo g p l:Nat) (ks:List Kd) (ps:List Pd) (ls:List Ld):Prop where
 k:EN w lo g ks
 p:EV w lo p ps
 l:EX w lo l ls
theorem GH.rows{w:Zh}{lo g p l:Nat}{a:List Kd}{c:List Pd}{b:List Ld}(h:GH w lo g p l a c b):Bv w w.heap.size (some ⟨g,0,none⟩) (some ⟨p,0,none⟩) (some ⟨l,0,none⟩) a c b:=⟨h.k.row,h.p.row,h.l.row⟩
def Ab{A:Type}(c:A->Zj)(xs:List A):Zj:=xs.flatMap c
theorem Bu{A:Type}{c:A->Zj}{n:Nat}(h:∀x,(c x).length=n)(a:List A):(Ab c a).length=a.length *n:=by
 unfold Ab;induction a with
 |nil=>simp
 |cons x a ih=>rw[List.flatMap_cons,List.length_append,ih,h,List.length_cons,Nat.add_mul];omega
theorem Bi{A:Type}(c:A->Zj)(a b:List A):Ab c (a++b)=Ab c a++Ab c b:=by unfold Ab;rw[List.flatMap_append]
theorem Bp{A:Type}{c:A->Zj}{n:Nat}(h:∀x,(c x).length=n):∀{xs:List A} {i j:Nat} {x:A},xs[i]?=some x->j<n->(Ab c xs)[i *n+j]?=(c x)[j]?
 |[],_,_,_,hx,_=>by simp at hx
 |y::ys,0,j,x,hx,hj=>by simp at hx;subst hx;show(y::ys|>.flatMap c)[_]?=_;rw[List.flatMap_cons,Nat.zero_mul,Nat.zero_add,List.getElem?_append_left (by rw[h];exact hj)]
 |y::ys,i+1,j,x,hx,hj=>by
  have a:ys[i]?=some x:=by simpa using hx
  show(y::ys|>.flatMap c)[_]?=_;rw[List.flatMap_cons,List.getElem?_append_right (by rw[h,Nat.add_mul];omega),h,show(i+1) *n+j -n=i *n+j by rw[Nat.add_mul];omega];exact Bp h a hj
theorem PS{A:Type}{c:A->Zj}{n:Nat}(h:∀x,(c x).length=n)(f:0<n){a:List A}{k:Nat}{u:Value}(d:(Ab c a)[k]?=some u):∃x,a[k/n]?=some x/\(c x)[k%n]?=some u:=by have e:=(Zw d).1;rw[Bu h]at e;have b:=Nat.div_lt_of_lt_mul (by rw[Nat.mul_comm];exact e);refine⟨a[k/n],Zv b,?_⟩;have:=Bp h (Zv b) (Nat.mod_lt k f);rw[show k/n *n+k%n=k by rw[Nat.mul_comm];exact Nat.div_add_mod k n]at this;rw[←this];exact d
theorem FC{A:Type}{c:A->Zj}{n:Nat}(h:∀x,(c x).length=n)(a:List A)(i:Nat)(e:i<=a.length):(Ab c a).take (i *n)=Ab c (a.take i):=by
 have b:Ab c a=Ab c (a.take i)++Ab c (a.drop i):=by rw[←Bi,List.take_append_drop]
 have d:(Ab c (a.take i)).length=i *n:=by rw[Bu h,List.length_take,Nat.min_eq_left e]
 rw[b,←d,List.take_left]
theorem EY{A:Type}{c:A->Zj}{n:Nat}(h:∀x,(c x).length=n)(a:List A)(i:Nat)(e:i<=a.length):(Ab c a).drop (i *n)=Ab c (a.drop i):=by
 have b:Ab c a=Ab c (a.take i)++Ab c (a.drop i):=by rw[←Bi,List.take_append_drop]
 have d:(Ab c (a.take i)).length=i *n:=by rw[Bu h,List.length_take,Nat.min_eq_left e]
 rw[b,←d,List.drop_left]
def pC(p:Pd):Zj:=[.string p.name,.string p.sum]
def lC(l:Ld):Zj:=[Zg l.num,.string l.sum,Zg l.bf]
theorem BI(p:Pd):(pC p).length=2:=rfl
theorem Co(l:Ld):(lC l).length=3:=rfl
theorem Ek(s:Zi):(Am s).length=8:=rfl
theorem FR(a:Zl):AA a=Ab Am a:=rfl
theorem IT(c:List Pd):∀u∈Ab pC c,u.oneCell'=true:=by intro u b;obtain⟨p,_,a⟩:=List.mem_flatMap.1 b;simp[pC]at a;rcases a with rfl|rfl<;>rfl
theorem Uk(c:List Ld):∀u∈Ab lC c,u.oneCell'=true:=by intro u b;obtain⟨p,_,a⟩:=List.mem_flatMap.1 b;simp[lC]at a;rcases a with rfl|rfl|rfl<;>rfl
theorem Cf{w:Zh}{base:Nat}{e:TypeId}{size:Nat}{v:Value}{n:Nat}{f:Zj}(h:w.ownsRow base e size v n f)(d:v≠Zc):∃g a,v=Za g n a/\base<=g/\g<w.heap.size:=by
 rcases h.2 with⟨e,_⟩|⟨g,a,i,rfl,b,c,_⟩
 ·exact absurd e d
 ·exact⟨g,a,rfl,b,(Array.getElem?_eq_some_iff.1 c).1⟩
theorem AS.cj{w:Zh}{B b a:Nat}{f:List Pd}(h:AS w B (some ⟨b,a,none⟩) f):∀j u,(Ab pC f)[j]?=some u->w.cell? ((⟨b,a,none⟩:Addr).add j)=some u:=by
 intro j u l;obtain⟨p,d,c⟩:=PS BI (by decide) l;rcases h with h|⟨o,g,i,_,k⟩
 ·subst h;simp at d
 ·cases i;obtain⟨m,n⟩:=k _ p d;rw[Go.WideShapes.add_plain];have q:=Nat.mod_lt j (show 0<2 by decide);rcases(show j%2=0∨j%2=1 by omega)with e|e<;>rw[e]at c<;>simp[pC]at c<;>subst c
  ·rw[show a+j=a+j/2 *2 by omega];exact m
  ·rw[show a+j=a+j/2 *2+1 by omega];exact n
theorem AU.cj{w:Zh}{B b a:Nat}{f:List Ld}(h:AU w B (some ⟨b,a,none⟩) f):∀j u,(Ab lC f)[j]?=some u->w.cell? ((⟨b,a,none⟩:Addr).add j)=some u:=by
 intro j u l;obtain⟨p,e,d⟩:=PS Co (by decide) l;rcases h with h|⟨q,g,i,_,k⟩
 ·subst h;simp at e
 ·cases i;obtain⟨m,n,o⟩:=k _ p e;rw[Go.WideShapes.add_plain];have r:=Nat.mod_lt j (show 0<3 by decide);rcases(show j%3=0∨j%3=1∨j%3=2 by omega)with c|c|c<;>rw[c]at d<;>simp[lC]at d<;>subst d
  ·rw[show a+j=a+j/3 *3 by omega];exact m
  ·rw[show a+j=a+j/3 *3+1 by omega];exact n
  ·rw[show a+j=a+j/3 *3+2 by omega];exact o
theorem AS.own{w:Zh}{base:Nat}{a:Zk}{d:Nat}{b:List Pd}(h:w.ownsRow base 137 2 (.slice a b.length d) b.length (Ab pC b)):AS w w.heap.size a b:=by
 rcases h.2 with⟨e,m⟩|⟨g,f,n,l,o,p,_⟩
 ·exact .inl (List.length_eq_zero_iff.1 m)
 ·cases l;refine .inr ⟨g,0,rfl,(h.lt g rfl).2,fun i x c=> ?_⟩;have q:=(Zw c).1;have j:=Bp BI c (show 0<2 by decide);have k:=Bp BI c (show 1<2 by decide);rw[Nat.zero_add];exact⟨(h.cellAt _ (by omega)).trans j,(h.cellAt _ (by omega)).trans k⟩
theorem AU.own{w:Zh}{base:Nat}{a:Zk}{d:Nat}{c:List Ld}(h:w.ownsRow base 139 3 (.slice a c.length d) c.length (Ab lC c)):AU w w.heap.size a c:=by
 rcases h.2 with⟨e,n⟩|⟨g,f,o,m,p,q,_⟩
 ·exact .inl (List.length_eq_zero_iff.1 n)
 ·cases m;refine .inr ⟨g,0,rfl,(h.lt g rfl).2,fun i x b=> ?_⟩;have r:=(Zw b).1;have j:=Bp Co b (show 0<3 by decide);have k:=Bp Co b (show 1<3 by decide);have l:=Bp Co b (show 2<3 by decide);rw[Nat.zero_add];exact⟨(h.cellAt _ (by omega)).trans j,(h.cellAt _ (by omega)).trans k,(h.cellAt _ (by omega)).trans l⟩
theorem AS.df{w:Zh}{B:Nat}{a:Addr}{c:List Pd}(h:AS w B (some a) c):∀j u,(Ab pC c)[j]?=some u->w.cell? (a.add j)=some u:=by
 rcases h with rfl|⟨b,d,e,f,g⟩
 ·intro j u i;simp[Ab]at i
 ·cases e;exact AS.cj (.inr ⟨b,d,rfl,f,g⟩)
theorem AU.df{w:Zh}{B:Nat}{a:Addr}{c:List Ld}(h:AU w B (some a) c):∀j u,(Ab lC c)[j]?=some u->w.cell? (a.add j)=some u:=by
 rcases h with rfl|⟨b,d,e,f,g⟩
 ·intro j u i;simp[Ab]at i
 ·cases e;exact AU.cj (.inr ⟨b,d,rfl,f,g⟩)
theorem Ad.df{w:Zh}{B:Nat}{d:Addr}{c:Zl}(h:Ad w B (some d) c):∀j u,(c.map Value.string)[j]?=some u->w.cell? (d.add j)=some u:=by
 rcases h with rfl|⟨b,g,e,i,f⟩
 ·intro j u a;simp at a
 ·cases e;intro j u a;rw[List.getElem?_map]at a;cases hs:c[j]? with
  |none=>rw[hs]at a;cases a
  |some s=>rw[hs]at a;cases a;rw[Go.WideShapes.add_plain];exact f j s hs
theorem AS.nil{w:Zh}{B:Nat}{a:List Pd}(h:AS w B none a):a=[]:=by
 rcases h with h|⟨_,_,h,_⟩
 ·exact h
 ·cases h
theorem AU.nil{w:Zh}{B:Nat}{a:List Ld}(h:AU w B none a):a=[]:=by
 rcases h with h|⟨_,_,h,_⟩
 ·exact h
 ·cases h
theorem Ad.nil{w:Zh}{B:Nat}{a:Zl}(h:Ad w B none a):a=[]:=by
 rcases h with h|⟨_,_,h,_⟩
 ·exact h
 ·cases h
theorem IU(a:Zk)(c:Nat)(b:List Pd)(w:Zh)(j:AS w w.heap.size a b)(E:b.length<=1048576):
 Calls prog 132 #[.slice a b.length c] w fun e q=>∃m o,e=.returned (.slice m b.length o)/\
  q.ownsRow w.heap.size 137 2 (.slice m b.length o) b.length (Ab pC b)/\Zz w q:=by
 rcases a with _|n
 ·obtain rfl:=j.nil;have f:∀u:Zh,(binOp .eql 37 (.slice none 0 c) Zc).run prog u=.ok (.bool true) u:=fun _=>by first|rfl|kernel_rfl
  go_enter func132,ntmps132;go_wp2;go_ret;exact⟨none,0,rfl,⟨rfl,.inl ⟨rfl,rfl⟩⟩,Below.refl _ _⟩
 obtain⟨A,y,r,s,t⟩:=info_parts Gy;have i:Below w.heap.size w (w.alloc (.cells #[] 137)):=Zy;have f:∀u:Zh,(binOp .eql 37 (.slice (some n) b.length c) Zc).run prog u=.ok (.bool false) u:=fun _=>by first|rfl|kernel_rfl
 go_enter func132,ntmps132;go_wp2_with (first
  |(at_builtin;refine wpList_append_own _ rfl _ _ 37 rfl w.heap.size 137 A _ 2 32 underlying37 y r s t rfl (by decide) _ 0 (Ab pC []) rfl ?d0 n b.length c (Ab pC b) rfl ?d1 ?d2 ?d3 ?d4 ?d5 ?d6 ?_)
  |go_in)
 case d0=>exact World.ownsRow_lit (base:=w.heap.size) (e:=137) (size:=2) w #[] 0 (Zx) (by unfold maxLen;omega) rfl
 case d1=>exact Bu BI b
 case d2=>exact(j.below i).df
 case d3=>exact IT b
 case d4=>unfold maxLen;omega
 case d5=>omega
 case d6=>simp
 intro F B d g h;obtain⟨x,v,rfl,C,D⟩:=Cf d h;rw[←Bi,List.nil_append]at d;have p:Below w.heap.size w B:=i.grown g (by simp) (fun k z=>by simp[Value.ownBlock]at z;omega);have l:=Yx (Zn d p);try simp only[Nat.zero_add]at *
 clear d g h p i j;go_wp2;go_ret;exact⟨_,v,rfl,l.o.1,l.o.2⟩
theorem Ik(a:Zk)(c:Nat)(b:List Ld)(w:Zh)(j:AU w w.heap.size a b)(E:b.length<=1048576):
 Calls prog 133 #[.slice a b.length c] w fun e q=>∃m o,e=.returned (.slice m b.length o)/\
  q.ownsRow w.heap.size 139 3 (.slice m b.length o) b.length (Ab lC b)/\Zz w q:=by
 rcases a with _|n
 ·obtain rfl:=j.nil;have f:∀u:Zh,(binOp .eql 38 (.slice none 0 c) Zc).run prog u=.ok (.bool true) u:=fun _=>by first|rfl|kernel_rfl
  go_enter func133,ntmps133;go_wp2;go_ret;exact⟨none,0,rfl,⟨rfl,.inl ⟨rfl,rfl⟩⟩,Below.refl _ _⟩
 obtain⟨A,y,r,s,t⟩:=info_parts Gc;have i:Below w.heap.size w (w.alloc (.cells #[] 139)):=Zy;have f:∀u:Zh,(binOp .eql 38 (.slice (some n) b.length c) Zc).run prog u=.ok (.bool false) u:=fun _=>by first|rfl|kernel_rfl
 go_enter func133,ntmps133;go_wp2_with (first
  |(at_builtin;refine wpList_append_own _ rfl _ _ 38 rfl w.heap.size 139 A _ 3 32 underlying38 y r s t rfl (by decide) _ 0 (Ab lC []) rfl ?d0 n b.length c (Ab lC b) rfl ?d1 ?d2 ?d3 ?d4 ?d5 ?d6 ?_)
  |go_in)
 case d0=>exact World.ownsRow_lit (base:=w.heap.size) (e:=139) (size:=3) w #[] 0 (Zx) (by unfold maxLen;omega) rfl
 case d1=>exact Bu Co b
 case d2=>exact(j.below i).df
 case d3=>exact Uk b
 case d4=>unfold maxLen;omega
 case d5=>omega
 case d6=>simp
 intro F B d g h;obtain⟨x,v,rfl,C,D⟩:=Cf d h;rw[←Bi,List.nil_append]at d;have p:Below w.heap.size w B:=i.grown g (by simp) (fun k z=>by simp[Value.ownBlock]at z;omega);have l:=Yx (Zn d p);try simp only[Nat.zero_add]at *
 clear d g h p i j;go_wp2;go_ret;exact⟨_,v,rfl,l.o.1,l.o.2⟩
theorem El(a:Zk)(c:Nat)(b:Zl)(w:Zh)(j:Ad w w.heap.size a b)(E:b.length<=1048576):
 Calls prog 134 #[.slice a b.length c] w fun e q=>∃m o,e=.returned (.slice m b.length o)/\
  q.ownsRow w.heap.size 9 1 (.slice m b.length o) b.length (b.map Value.string)/\Zz w q:=by
 rcases a with _|n
 ·obtain rfl:=j.nil;have f:∀u:Zh,(binOp .eql 22 (.slice none 0 c) Zc).run prog u=.ok (.bool true) u:=fun _=>by first|rfl|kernel_rfl
  go_enter func134,ntmps134;go_wp2;go_ret;exact⟨none,0,rfl,⟨rfl,.inl ⟨rfl,rfl⟩⟩,Below.refl _ _⟩
 obtain⟨A,y,r,s,t⟩:=info_parts CK;have i:Below w.heap.size w (w.alloc (.cells #[] 9)):=Zy;have f:∀u:Zh,(binOp .eql 22 (.slice (some n) b.length c) Zc).run prog u=.ok (.bool false) u:=fun _=>by first|rfl|kernel_rfl
 go_enter func134,ntmps134;go_wp2_with (first
  |(at_builtin;refine wpList_append_own _ rfl _ _ 22 rfl w.heap.size 9 A Zd 1 16 underlying22 y r s t rfl (by decide) _ 0 (([]:Zl).map Value.string) rfl ?d0 n b.length c (b.map Value.string) rfl ?d1 ?d2 ?d3 ?d4 ?d5 ?d6 ?_)
  |go_in)
 case d0=>exact World.ownsRow_lit (base:=w.heap.size) (e:=9) (size:=1) w #[] 0 (Zx) (by unfold maxLen;omega) rfl
 case d1=>simp
 case d2=>exact(j.below i).df
 case d3=>exact No b
 case d4=>unfold maxLen;omega
 case d5=>omega
 case d6=>simp
 intro F B d g h;obtain⟨x,v,rfl,C,D⟩:=Cf d h
 skip
 have p:Below w.heap.size w B:=i.grown g (by simp) (fun k z=>by simp[Value.ownBlock]at z;omega);have l:=Yx (Zn d p);try simp only[Nat.zero_add]at *
 clear d g h p i j;go_wp2;go_ret;exact⟨_,v,rfl,l.o.1,l.o.2⟩
end Go.Proofs.YtlhhpofjkgmbeaaGreatDoor
