import Derived.Test.YtcankpdbabaacaaGreatDoorX01
import Derived.Lib.SmallJoins
import Derived.OneCell
import Derived.Deep.DeepCutAuto
import Derived.Laws.CopyRow
import Derived.Maps.OwnSet
import Derived.DeepKeys5
import Derived.Deep.Upon
set_option maxRecDepth 100000
set_option maxHeartbeats 16000000
namespace Go.Proofs.YtcankpdbabaacaaGreatDoor
open Go.ChangeShapes Go.WideShapes Go.ChangeAt Go.RowKit _root_.Go.Proofs.Tryz
variable{w d:Zh}{B b o B' i n g k lo cap:Nat}{e t K:TypeId}{a l p:Zk}{v z c u T L:Value}{s:Zi}{f:Int}{P:Program}{A:Type}
structure Kd where
 sum:Zi
 born:Int
 M:Zi
 B:Zl
structure Pd where
 name:Zi
 sum:Zi
structure Ld where
 V:Int
 sum:Zi
 bg:Int
def Lm(w:Zh)(B:Nat)(b o:Nat)(k:Kd):Prop:=
 w.cell? (Ze b o)=some (.string k.sum)/\w.cell? (Ze b (o+1))=some (Zg k.born)/\w.cell? (Ze b (o+2))=some (.string k.M)/\
  ∃ra rc,w.cell? (Ze b (o+3))=some (.slice ra k.B.length rc)/\Ad w B ra k.B
def By(w:Zh)(B:Nat)(a:Zk)(ks:List Kd):Prop:=
 ks=[]\/∃b off,a=some ⟨b,off,none⟩/\b<B/\∀i k,ks[i]?=some k->Lm w B b (off+i *4) k
def AG(w:Zh)(B:Nat)(a:Zk)(ps:List Pd):Prop:=
 ps=[]\/∃b off,a=some ⟨b,off,none⟩/\b<B/\∀i p,ps[i]?=some p->w.cell? (Ze b (off+i *2))=some (.string p.name)/\w.cell? (Ze b (off+i *2+1))=some (.string p.sum)
def AI(w:Zh)(B:Nat)(a:Zk)(ls:List Ld):Prop:=
 ls=[]\/∃b off,a=some ⟨b,off,none⟩/\b<B/\∀i l,ls[i]?=some l->w.cell? (Ze b (off+i *3))=some (Zg l.V)/\w.cell? (Ze b (off+i *3+1))=some (.string l.sum)/\w.cell? (Ze b (off+i *3+2))=some (Zg l.bg)
theorem Lm.below{k:Kd}(h:Lm w B b o k)(c:Below B w d)(a:b<B):Lm d B b o k:=by obtain⟨e,f,g,ra,l,i,j⟩:=h;exact⟨(c.cell (p:=⟨b,o,none⟩) a).trans e,(c.cell (p:=⟨b,o+1,none⟩) a).trans f,(c.cell (p:=⟨b,o+2,none⟩) a).trans g,ra,l,(c.cell (p:=⟨b,o+3,none⟩) a).trans i,j.below c⟩
theorem Lm.mono{k:Kd}(h:Lm w B b o k)(g:B<=B'):Lm w B' b o k:=by obtain⟨a,c,d,ra,i,e,f⟩:=h;exact⟨a,c,d,ra,i,e,f.mono g⟩
theorem By.below{e:Zh}{d:List Kd}(h:By w B a d)(j:Below B w e):By e B a d:=by
 rcases h with h|⟨b,f,g,c,l⟩
 .exact .inl h
 .exact .inr ⟨b,f,g,c,fun i k m=>(l i k m).below j c⟩
theorem By.mono{c:List Kd}(h:By w B a c)(f:B<=B'):By w B' a c:=by
 rcases h with h|⟨b,d,e,l,g⟩
 .exact .inl h
 .exact .inr ⟨b,d,e,Yw,fun i k j=>(g i k j).mono f⟩
theorem By.at{d:List Kd}(h:By w B a d)(e:i<d.length):
 ∃b c,a=some ⟨b,c,none⟩/\b<B/\∀i k,d[i]?=some k->Lm w B b (c+i *4) k:=by
 rcases h with h|h
 .subst h;simp at e
 .exact h
theorem AG.below{l:Zh}{j:List Pd}(h:AG w B a j)(e:Below B w l):AG l B a j:=by
 rcases h with h|⟨b,d,m,c,f⟩
 .exact .inl h
 .exact .inr ⟨b,d,m,c,fun i k g=>⟨(e.cell (p:=⟨b,d+i *2,none⟩) c).trans (f i k g).1,(e.cell (p:=⟨b,d+i *2+1,none⟩) c).trans (f i k g).2⟩⟩
theorem AG.mono{c:List Pd}(h:AG w B a c)(i:B<=B'):AG w B' a c:=by
 rcases h with h|⟨b,d,e,g,f⟩
 .exact .inl h
 .exact .inr ⟨b,d,e,Yw,f⟩
theorem AG.at{d:List Pd}(h:AG w B a d)(e:i<d.length):
 ∃b c,a=some ⟨b,c,none⟩/\b<B/\∀i p,d[i]?=some p->w.cell? (Ze b (c+i *2))=some (.string p.name)/\w.cell? (Ze b (c+i *2+1))=some (.string p.sum):=by
 rcases h with h|h
 .subst h;simp at e
 .exact h
theorem AI.below{l:Zh}{j:List Ld}(h:AI w B a j)(e:Below B w l):AI l B a j:=by
 rcases h with h|⟨b,d,m,c,f⟩
 .exact .inl h
 .exact .inr ⟨b,d,m,c,fun i k g=>⟨(e.cell (p:=⟨b,d+i *3,none⟩) c).trans (f i k g).1,(e.cell (p:=⟨b,d+i *3+1,none⟩) c).trans (f i k g).2.1,(e.cell (p:=⟨b,d+i *3+2,none⟩) c).trans (f i k g).2.2⟩⟩
theorem AI.mono{c:List Ld}(h:AI w B a c)(i:B<=B'):AI w B' a c:=by
 rcases h with h|⟨b,d,e,g,f⟩
 .exact .inl h
 .exact .inr ⟨b,d,e,Yw,f⟩
theorem AI.at{d:List Ld}(h:AI w B a d)(e:i<d.length):
 ∃b c,a=some ⟨b,c,none⟩/\b<B/\∀i l,d[i]?=some l->w.cell? (Ze b (c+i *3))=some (Zg l.V)/\w.cell? (Ze b (c+i *3+1))=some (.string l.sum)/\w.cell? (Ze b (c+i *3+2))=some (Zg l.bg):=by
 rcases h with h|h
 .subst h;simp at e
 .exact h
def less(a b:Zi):Bool:=Op.bytesLess a.toList b.toList
def Rr(k:Kd)(wd:Int):Zi:=EN (AJ k.M k.B wd).data.toList wd.toNat
structure ZT (wd now given births:Int):Prop where
 ji:1<=wd
 wd2:wd<=8
 cu:0<=now
 now2:now<=1000000000
 bh:0<=given
 given2:given<=1000000000
 ai:0<=births
 births2:births<=1000000000
structure Ade (wd:Int) (ks:List Kd) (i:Nat) (k:Kd):Prop where
 ok:AO k.M k.B wd=true
 sum:k.sum=Rr k wd
 up:∀j p,i=j+1->ks[j]?=some p->less p.sum k.sum=true
structure ZU (births:Int) (ks:List Kd) (i:Nat) (k:Kd):Prop where
 lo:1<=k.born
 hi:k.born<=births
 new:∀j p,j<i->ks[j]?=some p->p.born≠k.born
def Av(ks:List Kd)(s:Zi):Prop:=∃u∈ks,u.sum=s
def Abs(ks:List Kd)(k:Kd):Prop:=∀r∈k.B,∃u∈ks,u.sum=r/\u.born<k.born
structure Abt (ks:List Kd) (ps:List Pd) (i:Nat) (p:Pd):Prop where
 name:Dg p.name=true
 up:∀j q,i=j+1->ps[j]?=some q->less q.name p.name=true
 sum:Av ks p.sum
structure XQ (now given:Int) (ks:List Kd) (ls:List Ld) (i:Nat) (l:Ld):Prop where
 lo:1<=l.V
 hi:l.V<=given
 up:∀j q,i=j+1->ls[j]?=some q->q.V<l.V
 sum:Av ks l.sum
 til1:now<l.bg
 til2:l.bg<=now+100000
structure IG (wd now given births:Int) (ks:List Kd) (ps:List Pd) (ls:List Ld):Prop where
 fa:ZT wd now given births
 nth:ks.length<=600
 np:ps.length<=100
 nl:ls.length<=200
 th:∀(i:Nat) k,ks[i]?=some k->Ade wd ks i k
 born:∀(i:Nat) k,ks[i]?=some k->ZU births ks i k
 ref:∀(i:Nat) k,ks[i]?=some k->Abs ks k
 cg:∀(i:Nat) p,ps[i]?=some p->Abt ks ps i p
 lease:∀(i:Nat) l,ls[i]?=some l->XQ now given ks ls i l
theorem On{a:Nat}{d:Zj}(h:w.ownsRow a 9 1 v n d)(c:v≠Zc):∃g cap,v=Za g n cap:=by
 rcases Joins.ownsRow_forms h with⟨e,_⟩|b
 .exact absurd e c
 .exact b
theorem Ad.di{a:Zl}(h:Ad w B (some ⟨g,0,none⟩) a):∀j u,(a.map Value.string)[j]?=some u->w.cell? ((⟨g,0,none⟩:Addr).add j)=some u:=by
 intro j u hu;rw[List.getElem?_map]at hu;cases hs:a[j]? with
 |none=>rw[hs]at hu;cases hu
 |some s=>
  rw[hs]at hu;cases hu;rcases h with h|⟨b,e,c,_,d⟩
  .subst h;simp at hs
  .cases c;have:=d j s hs;rw[Go.WideShapes.add_plain];simpa using this
theorem Rt(a:Zl):∀u∈a.map Value.string,u.oneCell'=true:=fun u hu=>by obtain⟨s,_,rfl⟩:=List.mem_map.1 hu;rfl
theorem ML(g cap:Nat)(a:Zl)(w:Zh)(l:Ad w w.heap.size (some ⟨g,0,none⟩) a)(A:a.length<=1048576):
 Calls prog 113 #[Za g a.length cap] w fun e m=>∃x b,e=.returned (Za x a.length b)/\
  m.ownsRow w.heap.size 9 1 (Za x a.length b) a.length (a.map Value.string)/\Zz w m:=by
 obtain⟨v,s,o,p,q⟩:=info_parts Dw;have h:Below w.heap.size w (w.alloc (.cells #[] 9)):=Zy;have r:∀u:Zh,(binOp .eql 22 (Za g a.length cap) Zc).run prog u=.ok (.bool false) u:=fun _=>by first|rfl|kernel_rfl
 go_enter func113,ntmps113;go_wp2_with (first
  |(at_builtin;refine wpList_append_own _ rfl _ _ 22 rfl w.heap.size 9 v Zd 1 16 underlying22 s o p q rfl Ys _ 0 (([]:Zl).map Value.string) rfl ?d0 ⟨g,0,none⟩ a.length cap (a.map Value.string) rfl ?d1 ?d2 ?d3 ?d4 ?d5 ?d6 ?_)
  |go_in)
 case d0=>exact World.ownsRow_lit (base:=w.heap.size) (e:=9) (size:=1) w #[] 0 (Zx) Yq rfl
 case d1=>simp
 case d2=>exact(l.below h).di
 case d3=>exact Rt a
 case d4=>unfold maxLen;omega
 case d5=>omega
 case d6=>simp
 intro y z c d f;have n:∃x b,y=Za x a.length b:=by have:=On c f;simpa using this
 obtain⟨x,b,rfl⟩:=n;try simp only[Nat.zero_add,List.map_nil,List.nil_append]at c
 have j:Below w.heap.size w z:=h.grown d Yv (fun k t=>by simp[Value.ownBlock]at t;omega);have i:=Yx (Zn c j);clear c d f j h l;go_wp2;go_ret;exact⟨x,b,rfl,i.o.1,i.o.2⟩
section
def kB(s:Zi)(i:Nat):Int:=((s.data.toList[i]?).getD 0).toNat
def CE(s:Zi):Array Value:= #[.int .u8 (kB s 0),.int .u8 (kB s 1),.int .u8 (kB s 2),.int .u8 (kB s 3),.int .u8 (kB s 4),.int .u8 (kB s 5),.int .u8 (kB s 6),.int .u8 (kB s 7)]
def Cv:Array Value:= #[.int .u8 0,.int .u8 0,.int .u8 0,.int .u8 0,.int .u8 0,.int .u8 0,.int .u8 0,.int .u8 0]
def MM(s:Zi):Zj:=List.take (Nat.min s.size 8) (List.map (fun b=>Value.int .u8 b.toNat) s.data.toList)
theorem BF(s:Zi):s.data.toList.length=s.size:=Yv
theorem Ln(s:Zi):(MM s).length=min s.size 8:=by have:=BF s;simp only[MM,List.length_take,List.length_map,this];show min (min s.size 8) s.size=_;omega
theorem XR(s:Zi)(i:Nat)(h:i<min s.size 8):(MM s)[i]?=some (.int .u8 (kB s i)):=by have a:=BF s;unfold MM kB;rw[List.getElem?_take_of_lt (by show i<min s.size 8;exact h),List.getElem?_map,Zv Yw];simp
theorem XS(s:Zi):(Cv.toList.take (0+0)++MM s++Cv.toList.drop (0+0+(MM s).length)).toArray=CE s:=by
 apply Array.ext';apply List.ext_getElem?;intro i;have c:=Ln s;simp only[Nat.add_zero,List.take_zero,List.nil_append,Nat.zero_add];by_cases h:i<min s.size 8
 .rw[List.getElem?_append_left Yw,XR s i h];have b:i<8:=Yw
  match i,b with
  |0,_|1,_|2,_|3,_|4,_|5,_|6,_|7,_=>rfl
 .rw[List.getElem?_append_right Yw,c,List.getElem?_drop,show min s.size 8+(i -min s.size 8)=i from by omega];by_cases b:i<8
  .have a:kB s i=0:=by have d:=BF s;unfold kB;rw[List.getElem?_eq_none Yw];rfl
   match i,b,a with
   |0,_,a|1,_,a|2,_,a|3,_,a|4,_,a|5,_,a|6,_,a|7,_,a=>simp[Cv,CE,a]
  .rw[List.getElem?_eq_none (by simp[Cv];omega),List.getElem?_eq_none (by simp[CE];omega)]
theorem Oo(w:Zh)(a b:Array Value)(t:TypeId):(w.alloc (.cells a t)).setRow w.heap.size b=w.alloc (.cells b t):=by
 unfold World.setRow World.alloc;congr 1;apply Array.ext
 .simp
 .intro i d c;simp only[Array.getElem_modify,Array.getElem_push];split
  .rename_i h
   subst h;simp
  .rename_i h
   simp at c;rw[dif_pos Yw,dif_pos Yw]
theorem Oq(w:Zh)(s:Zi)(d:TypeId):
 (Builtin.copy_ #[102,9] d #[Za w.heap.size 8 8,.string s]).run prog (w.alloc (.cells Cv 183))=.ok (goInt (Nat.min s.size 8)) (w.alloc (.cells (CE s) 183)):=by
 obtain⟨h,c,e,f,g⟩:=info_parts MB;have a:=run_storeCells_at (P:=prog) w.heap.size 0 183 (MM s) 0 Cv (w.alloc (.cells Cv 183)) (heap_alloc_new w _) (by rw[Ln];simp[Cv];omega) (fun v b=>by
  have b:=List.mem_of_mem_take b;simp only[List.mem_map]at b;obtain⟨_,_,rfl⟩:=b;rfl)
 rw[XS,Oo]at a;unfold MM at a;simp[Builtin.copy_,run_underlying underlying102,Builtin.lenOf,Builtin.firstCells,sizeOf,typeInfo,c,a,Result.andThen]
def BU(s:Zi):Value:=.agg (CE s)
theorem Fy(s:Zi)(w:Zh):
 Calls prog 145 #[.string s] w fun e c=>e=.returned (BU s)/\Zz w c:=by
 have b:∀a,(Builtin.copy_ #[102,9] a #[Za (w.heap.size+1) 8 8,.string s]).run prog ((w.alloc (.cells Cv 183)).alloc (.cells Cv 183))=.ok (goInt (Nat.min s.size 8)) ((w.alloc (.cells Cv 183)).alloc (.cells (CE s) 183)):=fun a=>by have:=Oq (w.alloc (.cells Cv 183)) s a;rwa[show(w.alloc (.cells Cv 183)).heap.size=w.heap.size+1 from by simp]at this
 unfold CE Cv at b;go_enter func145,ntmps145;go_wp2;refine bodyPost_ret (v:=BU s) (by simp[results,results145,go_sem,BU,CE]) rfl ⟨rfl,?_⟩;exact(Zy).alloc Yv _
theorem Abu(s:Zi)(i:Nat):0<=kB s i/\kB s i<256:=by unfold kB;have:=((s.data.toList[i]?).getD 0).toNat_lt;omega
theorem Abv(s:Zi)(i:Nat):(Lit.int .u8 (kB s i)).wf=true:=by
 have:=Abu s i;have a:IntKind.u8.min=0:=Ys
 have b:IntKind.u8.max=255:=Ys
 simp only[Lit.wf,a,b,Bool.and_eq_true,decide_eq_true_eq];omega
theorem ZV:prog.keyType 183=true:=Yt
theorem WU:prog.cellsOf 183=8:=Yt
theorem Abw:prog.cellsOf 5=1:=Yt
theorem Vt:prog.underlying 183=some (.array 8 5):=Yt
theorem ZX:∃n,prog.types.size=n+1:=⟨prog.types.size -1,Yt⟩
theorem Ot(s:Zi):∃l,keyOf prog 183 (BU s)=some l:=by obtain⟨n,a⟩:=ZX;unfold keyOf;rw[Vt,a];simp only[ZV,BU,Value.formed,Vt,WU,CE];simp[Value.cells,Program.keyLits,WU,Abw,List.range_succ,Abv]
noncomputable def keyL (s:Zi):Lit:=(Ot s).choose
theorem CP(s:Zi):keyOf prog 183 (BU s)=some (keyL s):=(Ot s).choose_spec
theorem Abx:laidOutB prog=true:=Yt
theorem keyed:Maps.Keyed prog 183:=Maps.Keyed.of_law (deep_law_gate Abx (of_decide_eq_true Yt) (of_decide_eq_true Yt) ZV (by rw[Vt]))
theorem key_inj{t:Zi}(h:keyL s=keyL t)(q:s.size=t.size)(p:s.size<=8):s=t:=by
 have a:=CP t;rw[<-h]at a;have d:=keyed.inj (CP s) a;clear a h;have o:∀i,i<8->kB s i=kB t i:=by
  simp only[BU,CE,Value.agg.injEq,Array.mk.injEq,List.cons.injEq,Value.int.injEq,true_and,and_true]at d;obtain⟨e,f,g,j,k,l,m,n⟩:=d;intro i b
  match i,b with
  |0,_=>exact e
  |1,_=>exact f
  |2,_=>exact g
  |3,_=>exact j
  |4,_=>exact k
  |5,_=>exact l
  |6,_=>exact m
  |7,_=>exact n
 have r:=BF s;have u:=BF t;have c:s.data.toList=t.data.toList:=by
  apply List.ext_getElem?;intro i;by_cases b:i<s.size
  .have:=o i Yw;unfold kB at this;rw[Zv Yw,Zv Yw]at this |-;simp only[Option.getD_some]at this;congr 1;exact UInt8.toNat_inj.1 Yw
  .rw[List.getElem?_eq_none Yw,List.getElem?_eq_none Yw]
 cases s;cases t;simp only[Array.toList_inj]at c;rw[c]
open Classical in
noncomputable def upd (f:Lit->Option Value) (kl:Lit) (v:Value):Lit->Option Value:=fun x=>if x=kl then some v else f x
theorem DF(f:Lit->Option Value)(a:Lit)(v:Value):upd f a v a=some v:=by simp[upd]
theorem Dy(f:Lit->Option Value){a x:Lit}(v:Value)(h:x≠a):upd f a v x=f x:=by simp[upd,h]
def Oh(v:Value):Option (DataW Value×List MemPlace):=some (.held v,[])
def AT(w:Zh)(K:TypeId)(b n:Nat)(f:Lit->Option Value):Prop:=
 ∃D:DataW Value,w.ownsMap prog K Oh b n D/\(∀kl z,D.atKey kl (.held z)=.held ((f kl).getD z))/\∀kl,Maps.has D kl=(f kl).isSome
theorem AT.new(w:Zh)(K:TypeId):AT (w.alloc (.map #[] 0)) K w.heap.size 0 (fun _=>none):=
 ⟨.map [],World.ownsMap_made _ _ _ _,fun _ _=>rfl,fun _=>rfl⟩
theorem AT.ah{a:Zh}{f:Lit->Option Value}(h:AT w K b n f)(j:Below B w a)(i:b<B):AT a K b n f:=by obtain⟨D,⟨c,clock,d,e⟩,g⟩:=h;exact⟨D,⟨c,clock,(j.block b i).trans d,e⟩,g⟩
theorem AT.lt{f:Lit->Option Value}(h:AT w K b n f):b<w.heap.size:=h.choose_spec.1.lt
theorem AT.put{f:Lit->Option Value}(h:AT w K b n f)(l:Maps.Keyed prog K)(v:prog.underlying t=some (.map K e))(r:n<maxLen){j val:Value}{g:Lit}(a:keyOf prog K j=some g):
 ∃c,(Instr.mapUpdate t (.map (some b)) j val).run prog w=.ok () c/\AT c K b (n+1) (upd f g val)/\w.grownBy c (some b):=by
 obtain⟨D,k,o,p⟩:=h;obtain⟨c,u,s,q⟩:=k.update l v r a (d:=.held val) (ps:=[]) (val:=val) rfl;have m:=k.isMap;have i:=l.key a;refine⟨c,u,⟨_,s,fun x z=> ?_,fun x=> ?_⟩,q⟩
 .by_cases hx:x=g
  .subst hx;rw[Maps.atKey_put_same m i,DF];rfl
  .rw[Maps.atKey_put_other hx,Dy _ _ hx];exact o x z
 .by_cases hx:x=g
  .subst hx;rw[Maps.has_put_same m i,DF];rfl
  .rw[Maps.has_put_other hx,Dy _ _ hx];exact p x
theorem AT.look{f:Lit->Option Value}(h:AT w K b n f)(k:Maps.Keyed prog K)(m:prog.underlying t=some (.map K e))(o:(zeroValue e).run prog w=.ok z w){g:Lit}(a:keyOf prog K c=some g):
 (Instr.lookup t (.map (some b)) c false).run prog w=.ok ((f g).getD z) w:=by
 obtain⟨D,i,j,_⟩:=h;obtain⟨v,p,l,d⟩:=i.lookup k m o (zd:=.held z) (zp:=[]) rfl a;rw[j]at d;simp only[Oh,Option.some.injEq,Prod.mk.injEq,DataW.held.injEq]at d;rw[l,d.1]
theorem AT.look_ok{f:Lit->Option Value}(h:AT w K b n f)(l:Maps.Keyed prog K)(o:prog.underlying t=some (.map K e))(p:(zeroValue e).run prog w=.ok z w){g:Lit}(a:keyOf prog K c=some g):
 (Instr.lookup t (.map (some b)) c true).run prog w=.ok (.tuple #[(f g).getD z,.bool (f g).isSome]) w:=by
 obtain⟨D,i,j,k⟩:=h;obtain⟨v,q,m,d⟩:=i.look_ok l o p (zd:=.held z) (zp:=[]) rfl a;rw[j]at d;simp only[Oh,Option.some.injEq,Prod.mk.injEq,DataW.held.injEq]at d;rw[m,d.1,k]
end
def Al(s:Zi):Zj:=(CE s).toList
theorem Ru(s:Zi)(j:Nat)(h:j<8):(Al s)[j]?=some (.int .u8 (kB s j)):=by
 match j,h with
 |0,_|1,_|2,_|3,_|4,_|5,_|6,_|7,_=>rfl
def AB(ss:Zl):Zj:=ss.flatMap Al
theorem Di(a:Zl):(AB a).length=a.length *8:=by
 induction a with
 |nil=>rfl
 |cons s a ih=>
  have:(Al s).length=8:=rfl;unfold AB at *
  rw[List.flatMap_cons,List.length_append,ih,List.length_cons,this];omega
theorem Eg{a:Zl}{j:Nat}(h:a[i]?=some s)(c:j<8):(AB a)[i *8+j]?=some (.int .u8 (kB s j)):=by
 induction a generalizing i with
 |nil=>simp at h
 |cons t a ih=>
  have b:(Al t).length=8:=rfl;unfold AB at *
  rw[List.flatMap_cons];cases i with
  |zero=>simp at h;subst h;rw[List.getElem?_append_left Yw,Nat.zero_mul,Nat.zero_add];exact Ru t j c
  |succ i=>rw[List.getElem?_append_right Yw,b,show(i+1) *8+j -8=i *8+j by omega];exact ih (by simpa using h)
theorem Lo{a:Zl}(h:(AB a)[k]?=some u):∃s,a[k/8]?=some s/\u=.int .u8 (kB s (k%8)):=by
 have c:k<a.length *8:=by rw[<-Di];exact(Zw h).1
 have b:k/8<a.length:=Yw
 refine⟨a[k/8],Zv b,?_⟩;have:=Eg (j:=k%8) (Zv b) (Nat.mod_lt _ Ys);rw[show k/8 *8+k%8=k by omega,h]at this;exact Option.some.inj this
theorem GD(a b:Zl):AB (a++b)=AB a++AB b:=by unfold AB;rw[List.flatMap_append]
theorem Dz(b:Zl):∀u∈AB b,u.oneCell'=true:=by intro u hu;obtain⟨k,a⟩:=List.getElem?_of_mem hu;obtain⟨s,_,rfl⟩:=Lo a;rfl
def R8(w:Zh)(B:Nat)(v:Value)(ss:Zl):Prop:=
 (v=Zc/\ss=[])\/∃g off cap,v=.slice (some ⟨g,off,none⟩) ss.length cap/\g<B/\∀i s,ss[i]?=some s->∀j,j<8->w.cell? (Ze g (off+(i *8+j)))=some (.int .u8 (kB s j))
def He(w:Zh)(g:Nat):Prop:=∃cur fz,w.heap[g]?=some (.cells cur 183 fz)
theorem He.lt(h:He w g):g<w.heap.size:=by obtain⟨_,_,h⟩:=h;exact(Array.getElem?_eq_some_iff.1 h).1
theorem He.same{a:Zh}(h:He w g)(b:a.heap[g]?=w.heap[g]?):He a g:=by obtain⟨c,f,h⟩:=h;exact⟨c,f,b.trans h⟩
theorem He.iv:∀(vs:Zj) (o:Nat) (w:Zh),He w g->He (w.setCells g o vs) g
 |[],_,_,h=>h
 |v::r,o,w,h=>by rw[World.setCells];refine He.iv r (o+1) _ ?_;obtain⟨c,f,h⟩:=h;refine⟨c.setIfInBounds o v,f,?_⟩;simp[World.setCell,Array.getElem?_modify,h]
def Eh(w:Zh)(base:Nat)(v:Value)(ss:Zl):Prop:=
 (v=Zc/\ss=[])\/∃g off cap,v=.slice (some ⟨g,off,none⟩) ss.length cap/\base<=g/\He w g/\ss.length<=cap/\cap<=maxLen/\
   (∀j,j<cap *8->(w.cell? (Ze g (off+j))).isSome=true/\w.frozen? ⟨g,off+j,none⟩=false)/\
   ∀i s,ss[i]?=some s->∀j,j<8->w.cell? (Ze g (off+(i *8+j)))=some (.int .u8 (kB s j))
def Af:Value->Option Nat
 |.slice (some a) _ _=>some a.block
 |_=>none
theorem R8.below{c:Zl}(h:R8 w B v c)(e:Below B w d):R8 d B v c:=by
 rcases h with h|⟨g,a,cap,m,b,f⟩
 .exact .inl h
 .exact .inr ⟨g,a,cap,m,b,fun i s l j k=>(e.cell (p:=⟨g,a+(i *8+j),none⟩) b).trans (f i s l j k)⟩
theorem R8.mono{a:Zl}(h:R8 w B v a)(e:B<=B'):R8 w B' v a:=by
 rcases h with h|⟨g,b,cap,d,f,c⟩
 .exact .inl h
 .exact .inr ⟨g,b,cap,d,Yw,c⟩
theorem R8.stays{b:Zh}{a:Zl}(h:R8 w B v a)(d:∀g,Af v=some g->b.heap[g]?=w.heap[g]?):R8 b B v a:=by
 rcases h with h|⟨g,c,cap,rfl,f,e⟩
 .exact .inl h
 .exact .inr ⟨g,c,cap,rfl,f,fun i s l j k=>(World.cell?_of_block (d g rfl)).trans (e i s l j k)⟩
theorem Eh.stays{a:Nat}{f:Zl}(h:Eh w a v f)(_hz:w.heap.size<=d.heap.size)(b:∀g,Af v=some g->d.heap[g]?=w.heap[g]?):Eh d a v f:=by
 rcases h with h|⟨g,k,cap,rfl,l,p,m,n,e,o⟩
 .exact .inl h
 .exact .inr ⟨g,k,cap,rfl,l,p.same (b g rfl),m,n,fun j c=>⟨by rw[World.cell?_of_block (b g rfl)];exact(e j c).1,by rw[World.frozen?_of_block (b g rfl)];exact(e j c).2⟩,fun i s q j c=>(World.cell?_of_block (b g rfl)).trans (o i s q j c)⟩
theorem Eh.below{c:Zh}{base:Nat}{b:Zl}(h:Eh w base v b)(a:Zz w c):Eh c base v b:=by
 have d:=h;rcases h with h|⟨g,i,cap,rfl,j,f,_⟩
 .exact .inl h
 .exact d.stays a.size (fun k e=>by cases e;exact a.block g f.lt)
theorem Eh.S{a:Nat}{e:Zl}(h:Eh w a v e)(b:Af v=some g):a<=g/\g<w.heap.size:=by
 rcases h with⟨rfl,_⟩|⟨i,f,cap,rfl,c,d,_⟩
 .cases b
 .cases b;exact⟨c,d.lt⟩
theorem R8.cells{a:Nat}{b:Zl}(c:∀i s,b[i]?=some s->∀j,j<8->w.cell? (Ze g (a+(i *8+j)))=some (.int .u8 (kB s j))):∀j u,(AB b)[j]?=some u->w.cell? ((⟨g,a,none⟩:Addr).add j)=some u:=by intro j u hu;obtain⟨s,d,rfl⟩:=Lo hu;have:=c _ s d (j%8) (Nat.mod_lt _ Ys);rw[show j/8 *8+j%8=j by omega]at this;rw[Go.WideShapes.add_plain];exact this
theorem Kf:(prog.info? 183).map (fun i=>(i.zero,i.size,i.bytes))=some (some (.agg #[.int .u8 0,.int .u8 0,.int .u8 0,.int .u8 0,.int .u8 0,.int .u8 0,.int .u8 0,.int .u8 0]),8,8):=Yt
theorem R8.src{x:Value}{a:Zl}(h:R8 w B x a):Src prog 8 122 x a.length (AB a) w:=by
 rcases h with⟨rfl,rfl⟩|⟨g,b,cap,rfl,_,c⟩
 .exact Src.ofNil w underlying122 0
 .exact Src.ofSlice w underlying122 ⟨g,b,none⟩ a.length cap (AB a) (Di a) (R8.cells c) (Dz a)
theorem Eh.fresh(w:Zh)(c:Nat)(b:Zl)(cap:Nat)(z:Array Value)(k:c<=w.heap.size)(g:b.length<=cap)(h:cap<=maxLen)(l:z.size=(cap -b.length) *8):
 Eh (w.drew.alloc (.cells ((AB b).toArray++z) 183)) c (Za w.heap.size b.length cap) b:=by
 have e:=Di b;have a:∀j,(w.drew.alloc (.cells ((AB b).toArray++z) 183)).cell? (Ze (w.heap.size) (0+j))=((AB b).toArray++z)[j]?:=fun j=>by rw[Nat.zero_add];show(w.drew.alloc (.cells ((AB b).toArray++z) 183)).cell? (Ze (w.drew.heap.size) j)=_;rw[World.cell?_alloc_at _ _ _ _ rfl]
 refine .inr ⟨w.heap.size,0,cap,rfl,k,⟨_,_,heap_alloc_new w.drew _⟩,g,h,fun j d=>⟨?_,?_⟩,fun i s f j d=> ?_⟩
 .rw[a,Array.getElem?_eq_getElem (by simp[e,l];omega)];rfl
 .simp[go_sem]
 .rw[a,Array.getElem?_append_left (by have:=(Zw f).1;simp[e];omega)];simpa using Eg f d
theorem Gu(b:Nat):∀(vs:Zj) (o:Nat) (w:Zh),(w.setCells b o vs).heap.size=w.heap.size
 |[],_,_=>rfl
 |_::r,o,w=>by rw[World.setCells,Gu b r];simp
theorem Jw(b:Nat):∀(vs:Zj) (o:Nat) (w:Zh),(w.setCells b o vs).tape=w.tape
 |[],_,_=>rfl
 |_::r,o,w=>by rw[World.setCells,Jw b r];rfl
theorem Iu(b:Nat):∀(vs:Zj) (o:Nat) (w:Zh) (x:Addr),(w.cell? x).isSome=true->((w.setCells b o vs).cell? x).isSome=true
 |[],_,_,_,h=>h
 |v::r,o,w,x,h=>by
  rw[World.setCells];refine Iu b r (o+1) _ x ?_;by_cases e:(⟨b,o,none⟩:Addr)=x
  .subst e;obtain⟨u,hu⟩:=Option.isSome_iff_exists.1 h;rw[World.cell?_setCell_same _ _ _ hu];rfl
  .rw[World.cell?_setCell_other _ _ _ _ e];exact h
theorem XT(w:Zh)(c:Nat)(v:Value)(a:Zl)(N:Eh w c v a)(x:Value)(b:Zl)(B:Nat)(V:R8 w B x b)(Z:a.length+b.length<=100000000)(r:c<=w.heap.size)(q:TypeId):
 ∃h m,(Builtin.append_ #[122,122] q #[v,x]).run prog w=.ok h m/\Eh m c h (a++b)/\w.grownBy m (Af v)/\(Af h=Af v\/Af h=some w.heap.size):=by
 obtain⟨i,A,T,o,U⟩:=info_parts Kf;have l:Src prog i.size 122 x b.length (AB b) w:=by rw[o];exact V.src
 by_cases h0:b=[]
 .subst h0;rw[List.append_nil];rcases N with⟨rfl,rfl⟩|⟨g,d,cap,rfl,F,L,G,H,p,z⟩
  .exact⟨_,w,run_append_nothing w _ _ q _ i underlying122 A none 0 0 (Zx) x l,.inl ⟨rfl,rfl⟩,⟨rfl,rfl,rfl,Zx,fun _ _ _=>rfl⟩,.inl rfl⟩
  .exact⟨_,w,run_append_nothing w _ _ q _ i underlying122 A _ _ _ G x l,.inr ⟨g,d,cap,rfl,F,L,G,H,p,z⟩,⟨rfl,rfl,rfl,Zx,fun _ _ _=>rfl⟩,.inl rfl⟩
 .have S:=List.length_pos_iff.2 h0;have grow:∀(y:Zk) (cap:Nat),cap<a.length+b.length->(Builtin.firstCells i.size a.length (.slice y a.length cap)).run prog w.drew=.ok (AB a).toArray w.drew->
   ∃h m,(Builtin.append_ #[122,122] q #[.slice y a.length cap,x]).run prog w=.ok h m/\Eh m c h (a++b)/\(∀row,w.grownBy m row)/\Af h=some w.heap.size:=by
   intro y cap D hold;have n:=run_append_grow_src w _ _ q _ i _ underlying122 A T y a.length cap (AB a) hold x b.length (AB b) l D Yw (by
    have:=nextslicecap_le D;rw[U];omega)
   rw[<-GD]at n;have O:=grownCap_ge w (a.length+b.length) cap 183;have Q:=grownCap_le_maxLen w (a.length+b.length) cap 183 Yq
   have C:=Eh.fresh w c (a++b) (grownCap w (a.length+b.length) cap 183) (Builtin.zeroCells (Value.agg #[.int .u8 0,.int .u8 0,.int .u8 0,.int .u8 0,.int .u8 0,.int .u8 0,.int .u8 0,.int .u8 0]).cells (grownCap w (a.length+b.length) cap 183 -(a.length+b.length))) r (by simpa using O) Q (by rw[size_zeroCells,List.length_append];rfl);rw[List.length_append]at C
   exact⟨_,_,n,C,fun row=>⟨rfl,rfl,rfl,Yv,fun k M _=>heap_alloc_old w.drew _ M⟩,rfl⟩
  rcases N with⟨rfl,rfl⟩|⟨g,d,cap,rfl,F,L,G,H,p,z⟩
  .obtain⟨h,m,n,I,J,K⟩:=grow none 0 (by simpa using S) (run_firstCells_none w.drew _ _ _ _);exact⟨h,m,n,I,J _,.inr K⟩
  .by_cases hroom:a.length+b.length<=cap
   .have Y:=Di b;have u:∀j,j<(AB b).length->(a.length *8+j)<cap *8:=fun j f=>by omega
    have n:=run_append_room_src w _ _ q _ i underlying122 A g d a.length cap x b.length (AB b) l hroom (fun j f=>by rw[o,Nat.add_assoc];exact(p _ (u j f)).1) (fun j f=>by rw[o,Nat.add_assoc];exact(p _ (u j f)).2);rw[o]at n;have W:=World.keptBut_setCells g (may:=fun _=>True) (AB b) (d+a.length *8) w (fun _ _=>trivial)
    refine⟨_,_,n,.inr ⟨g,d,cap,by rw[List.length_append],F,He.iv _ _ _ L,by rw[List.length_append];exact hroom,H,fun j f=>⟨?_,?_⟩,fun k s t j f=> ?_⟩,⟨World.os_setCells _ _ _ _,Jw _ _ _ _,World.output_setCells _ _ _ _,by rw[Gu];exact Zx,fun k M R=>World.heap_setCells_other _ _ _ _ M (fun e=>R (by rw[e];rfl))⟩,.inl rfl⟩
    .exact Iu _ _ _ _ _ (p j f).1
    .rw[World.frozen?_setCells];exact(p j f).2
    .rcases Nat.lt_or_ge k a.length with E|E
     .rw[List.getElem?_append_left E]at t;rw[World.cell?_setCells_out _ _ _ _ _ (fun _ _=> .inl Yu)];exact z k s t j f
     .rw[List.getElem?_append_right E]at t;have X:=(Zw t).1;have P:=World.cell?_setCells_in g (AB b) (d+a.length *8) w (fun j f=>by rw[Nat.add_assoc];exact(p _ (u j f)).1) ((k -a.length) *8+j) Yw;rw[show d+(k *8+j)=d+a.length *8+((k -a.length) *8+j) by omega,P];have:=Eg t f;rw[Zv Yw]at this;exact this
   .obtain⟨h,m,n,I,J,K⟩:=grow (some ⟨g,d,none⟩) cap Yw (run_firstCells_some w.drew _ _ _ _ _ _ (by rw[o];exact Di a) (by simpa using R8.cells z));exact⟨h,m,n,I,J _,.inr K⟩
theorem wpList_append_run{b:Array Oper}{rest:List Oper}{o:Oper}{a:Act}{Q:Exit->Act->Zh->Prop}(f:o.guard=none)(s x:Operand)(t u:TypeId)(i:o.op=.call {callee:=.builtin .append,args:= #[s,x],argTypes:= #[t,u]}){e:Value}(k:a.eval s=v)(l:a.eval x=e)(j:(Builtin.append_ #[t,u] o.type #[v,e]).run P w=.ok c d)(h:wpList P b Q rest (a.put o.dst c) d):wpList P b Q (o::rest) a w:=by
 refine wpList_plain f fun K g=> ?_;unfold Oper.wp execOp;simp only[i,resolve,invoke,builtin,Sem.run_bind,Sem.run_pure,Result.andThen_ok,List.map_toArray,List.map_cons,List.map_nil,k,l,j];exact g _ _ h
theorem Bv{b:Array Oper}{o:Oper}{a:Act}{K:Act->Zh->Prop}{Q:Exit->Act->Zh->Prop}{E:Prop}(f:o.guard=none)(s x:Operand)(t u:TypeId)(g:o.op=.call {callee:=.builtin .append,args:= #[s,x],argTypes:= #[t,u]}){e:Value}(j:a.eval s=v)(l:a.eval x=e)(i:(Builtin.append_ #[t,u] o.type #[v,e]).run P w=.ok c d)(h:K (a.put o.dst c) d):
 if Region.wanted o (yielded b a.tmps)=true then Oper.wp P o a w K Q else E:=by
 have k:Region.wanted o (yielded b a.tmps)=true:=by simp[Region.wanted,f]
 rw[if_pos k];unfold Oper.wp execOp;simp only[g,resolve,invoke,builtin,Sem.run_bind,Sem.run_pure,Result.andThen_ok,List.map_toArray,List.map_cons,List.map_nil,j,l,i];exact h
structure Ou (ks:List Kd):Prop where
 len:ks.length<=maxLen
 sum:∀k∈ks,k.sum.size<=maxLen
 M:∀k∈ks,k.M.size<=maxLen
 B:∀k∈ks,k.B.length<=maxLen
 ref:∀k∈ks,∀s∈k.B,s.size<=maxLen
structure Ov (ps:List Pd):Prop where
 len:ps.length<=maxLen
 name:∀p∈ps,p.name.size<=maxLen
 sum:∀p∈ps,p.sum.size<=maxLen
structure Ow (ls:List Ld):Prop where
 len:ls.length<=maxLen
 sum:∀l∈ls,l.sum.size<=maxLen
theorem Tq(p:Pd)(left:Int)(w:Zh)(b:p.name.size<=maxLen)(c:p.sum.size<=maxLen)(f:0<=left)(g:left<=1048576):
 Calls prog 88 #[.agg #[.string p.name,.string p.sum],Zg left] w fun e d=>∃r:Int,e=.returned (Zg r)/\Zz w d/\r<=left:=by
 have a:Below w.heap.size w (w.alloc (.cells #[.string p.name,.string p.sum] 155)):=Zy;unfold maxLen at b c;by_cases hn:left<p.name.size
 .go_enter func88,ntmps88;go_wp2;go_ret;exact⟨_,rfl,a,Yw⟩
 .by_cases hm:left -p.name.size<p.sum.size
  .go_enter func88,ntmps88;go_wp2;go_ret;exact⟨_,rfl,a,Yw⟩
  .go_enter func88,ntmps88;go_wp2;go_ret;exact⟨_,rfl,a,Yw⟩
theorem PT(l:Ld)(left:Int)(w:Zh)(b:l.sum.size<=maxLen)(d:0<=left)(f:left<=1048576):
 Calls prog 89 #[.agg #[Zg l.V,.string l.sum,Zg l.bg],Zg left] w fun e c=>∃r:Int,e=.returned (Zg r)/\Zz w c/\r<=left:=by
 have a:Below w.heap.size w (w.alloc (.cells #[Zg l.V,.string l.sum,Zg l.bg] 158)):=Zy;unfold maxLen at b;by_cases hn:left<l.sum.size
 .go_enter func89,ntmps89;go_wp2;go_ret;exact⟨_,rfl,a,Yw⟩
 .go_enter func89,ntmps89;go_wp2;go_ret;exact⟨_,rfl,a,Yw⟩
theorem Rv(a:Zk)(cap:Nat)(d:List Pd)(left:Int)(w:Zh)(g:AG w w.heap.size a d)(j:Ov d)(C:0<=left)(D:left<=1048576):
 Calls prog 38 #[.slice a d.length cap,Zg left] w fun e v=>∃r:Int,e=.returned (Zg r)/\Zz w v/\r<=left/\(0<=r->d.length<=1048576):=by
 have q:=j.len;unfold maxLen at q;by_cases hn:left<d.length
 .go_enter func38,ntmps38;go_wp2;go_ret;exact⟨_,rfl,Below.refl _ _,Yw,fun h=>by omega⟩
 .go_enter func38,ntmps38;go_wp2
  go_loopw [1,5] (fun l i wr=>∃(k:Nat) (L:Int),k<=d.length/\i=Zg k/\l=Zg L/\0<=L/\L<=left/\Zz w wr) (fun _ i _=>d.length -(intOf i).toNat)
  case atStart=>exact⟨0,_,Nat.zero_le _,rfl,rfl,Yw,Yw,Below.refl _ _⟩
  case round=>
   obtain⟨k,L,G,rfl,rfl,y,E,c⟩:=hrel;by_cases hlt:k<d.length
   .obtain⟨b,z,s,F,n⟩:=(g.below c).at hlt;subst s;have o:=Zv hlt;have f:=List.getElem_mem hlt;obtain⟨A,B⟩:=n k _ o;have t:=j.name _ f;have u:=j.sum _ f;clear n g j f o;generalize d[k]=x at *
    go_wp2_with fail;refine(Tq x L wr t u Yw Yw).mono ?_;rintro e I ⟨r,rfl,p,H⟩;have m:=c.trans (p.mono c.size);by_cases h3:r<0
    .go_wp2;go_ret;exact⟨_,rfl,m,Yw,fun h=>by omega⟩
    .go_wp2;exact⟨⟨k+1,_,Yw,Yp,rfl,Yw,Yw,m⟩,by simp[intOf];omega⟩
   .go_wp2;go_ret;exact⟨_,rfl,c,Yw,fun _=>by omega⟩
theorem Ox(a:Zk)(cap:Nat)(d:List Ld)(left:Int)(w:Zh)(g:AI w w.heap.size a d)(j:Ow d)(B:0<=left)(C:left<=1048576):
 Calls prog 39 #[.slice a d.length cap,Zg left] w fun e u=>∃r:Int,e=.returned (Zg r)/\Zz w u/\r<=left/\(0<=r->d.length<=1048576):=by
 have q:=j.len;unfold maxLen at q;by_cases hn:left<d.length
 .go_enter func39,ntmps39;go_wp2;go_ret;exact⟨_,rfl,Below.refl _ _,Yw,fun h=>by omega⟩
 .go_enter func39,ntmps39;go_wp2
  go_loopw [1,5] (fun l i wr=>∃(k:Nat) (L:Int),k<=d.length/\i=Zg k/\l=Zg L/\0<=L/\L<=left/\Zz w wr) (fun _ i _=>d.length -(intOf i).toNat)
  case atStart=>exact⟨0,_,Nat.zero_le _,rfl,rfl,Yw,Yw,Below.refl _ _⟩
  case round=>
   obtain⟨k,L,F,rfl,rfl,v,D,c⟩:=hrel;by_cases hlt:k<d.length
   .obtain⟨b,y,s,E,n⟩:=(g.below c).at hlt;subst s;have o:=Zv hlt;have f:=List.getElem_mem hlt;obtain⟨z,A,c2⟩:=n k _ o;have t:=j.sum _ f;clear n g j f o;generalize d[k]=x at *
    go_wp2_with fail;refine(PT x L wr t Yw Yw).mono ?_;rintro e H ⟨r,rfl,p,G⟩;have m:=c.trans (p.mono c.size);by_cases h3:r<0
    .go_wp2;go_ret;exact⟨_,rfl,m,Yw,fun h=>by omega⟩
    .go_wp2;exact⟨⟨k+1,_,Yw,Yp,rfl,Yw,Yw,m⟩,by simp[intOf];omega⟩
   .go_wp2;go_ret;exact⟨_,rfl,c,Yw,fun _=>by omega⟩
def AZ(w:Zh)(b:Nat)(wd now given births:Int)(T P L:Value):Prop:=
 w.cell? (Ze b 0)=some (Zg wd)/\w.cell? (Ze b 1)=some (Zg now)/\w.cell? (Ze b 2)=some (Zg given)/\w.cell? (Ze b 3)=some (Zg births)/\
  w.cell? (Ze b 4)=some T/\w.cell? (Ze b 5)=some P/\w.cell? (Ze b 6)=some L/\b<w.heap.size
theorem AZ.new(w:Zh)(d c b a:Int)(T P L:Value)(t:TypeId):AZ (w.alloc (.cells #[Zg d,Zg c,Zg b,Zg a,T,P,L] t)) w.heap.size d c b a T P L:=
 ⟨Yv,Yv,Yv,Yv,Yv,Yv,Yv,Yv⟩
theorem AZ.ah{g:Zh}{i c a:Int}{P:Value}(h:AZ w b i f c a T P L)(d:Below B w g)(e:b<B):AZ g b i f c a T P L:=by
 obtain⟨j,k,l,m,n,o,q,r⟩:=h;exact⟨(d.cell (p:=⟨b,0,none⟩) e).trans j,(d.cell (p:=⟨b,1,none⟩) e).trans k,(d.cell (p:=⟨b,2,none⟩) e).trans l,(d.cell (p:=⟨b,3,none⟩) e).trans m,
  (d.cell (p:=⟨b,4,none⟩) e).trans n,(d.cell (p:=⟨b,5,none⟩) e).trans o,(d.cell (p:=⟨b,6,none⟩) e).trans q,Zr r d.size⟩
theorem AZ.below{e:Zh}{d c a:Int}{P:Value}(h:AZ w b f d c a T P L)(g:Zz w e):AZ e b f d c a T P L:=h.ah g h.2.2.2.2.2.2.2
structure BI (w:Zh) (B:Nat) (a p l:Zk) (ks:List Kd) (ps:List Pd) (ls:List Ld):Prop where
 k:By w B a ks
 p:AG w B p ps
 l:AI w B l ls
theorem BI.j{c:Zh}{d:List Kd}{f:List Pd}{e:List Ld}(h:BI w w.heap.size a p l d f e)(b:Zz w c):BI c c.heap.size a p l d f e:=
 ⟨(h.k.below b).mono b.size,(h.p.below b).mono b.size,(h.l.below b).mono b.size⟩
theorem BI.ah{f:Zh}{c:List Kd}{e:List Pd}{d:List Ld}(h:BI w B a p l c e d)(b:Below B w f):BI f B a p l c e d:=
 ⟨h.k.below b,h.p.below b,h.l.below b⟩
theorem BI.mono{c:List Kd}{e:List Pd}{d:List Ld}(h:BI w B a p l c e d)(b:B<=B'):BI w B' a p l c e d:=
 ⟨h.k.mono b,h.p.mono b,h.l.mono b⟩
structure Rw (ks:List Kd) (ps:List Pd) (ls:List Ld):Prop where
 k:ks.length<=1048576
 r:∀k∈ks,k.B.length<=1048576
 p:ps.length<=1048576
 l:ls.length<=1048576
def Es(w:Zh)(lo g c:Nat)(rs:Zl):Prop:=w.ownsRow lo 9 1 (.slice (some ⟨g,0,none⟩) rs.length c) rs.length (rs.map Value.string)
theorem Rx(k:Kd)(a:Zk)(cap:Nat)(w:Zh)(c:Ad w w.heap.size a k.B)(j:k.B.length<=1048576):
 Calls prog 99 #[.agg #[.string k.sum,Zg k.born,.string k.M,.slice a k.B.length cap]] w fun e f=>∃g,e=.returned (.agg #[.string k.sum,Zg k.born,.string k.M,Za g k.B.length k.B.length])/\
  Es f w.heap.size g k.B.length k.B/\Zz w f:=by
 go_enter func99,ntmps99;go_wp2_with fail;refine(PM k.M a cap k.B _ (c.j (((Zy).alloc Yv _).alloc Yu _)) j).mono ?_;rintro e n ⟨g,rfl,i,b,d⟩;obtain⟨h,m⟩:=Ke d;have l:=d.size;simp at l i;go_wp2;refine bodyPost_ret (v:=.agg #[.string k.sum,Zg k.born,.string k.M,Za g k.B.length k.B.length]) (by simp[results,results99,go_sem,h]) rfl ⟨g,rfl,?_,?_⟩
 .exact(ownsRow_setCell_below (ownsRow_setCell_below (ownsRow_setCell_below (ownsRow_setCell_below (ownsRow_setCell_below (ownsRow_setCell_below b Yv _) Yv _) Yv _) Yv _) Yv _) Yv _).mono Yu
 .exact(((((((Zy).alloc Yv _).alloc Yu _).trans (d.mono Yu)).setCell Yu _|>.setCell Yu _|>.setCell Yv _|>.setCell Yv _|>.setCell Yv _|>.setCell Yv _)))
def EA(w:Zh)(lo:Nat)(xs:Zj)(i:Nat)(x:Kd):Prop:=
 xs[i *4]?=some (.string x.sum)/\xs[i *4+1]?=some (Zg x.born)/\xs[i *4+2]?=some (.string x.M)/\
  ∃g,xs[i *4+3]?=some (.slice (some ⟨g,0,none⟩) x.B.length x.B.length)/\Es w lo g x.B.length x.B
theorem Hf:(prog.info? 99).map (fun i=>(i.zero,i.size,i.bytes))=some (some (.agg #[Zd,Zf,Zd,Zc]),4,64):=Yt
theorem Es.ah{c:Nat}{b:Zl}(h:Es w lo g c b)(a:Zz w d):Es d lo g c b:=
 World.ownsRow.kept h (row:=none) ⟨a.os,a.tape,a.output,a.size,fun k e _=>a.block k e⟩ (.inr (by simp[Value.ownBlock]))
theorem EA.ah{a:Zh}{b:Zj}{x:Kd}(h:EA w lo b i x)(k:Zz w a):EA a lo b i x:=by obtain⟨c,d,e,g,f,j⟩:=h;exact⟨c,d,e,g,f,j.ah k⟩
theorem EA.gn{b:Zh}{j:Nat}{d:Zj}{x:Kd}(h:EA w lo d i x)(o:i<j)(k l m n:Value)(f:∀g c a,Es w lo g c a->Es b lo g c a):
 EA b lo ((((d.set (j *4) k).set (j *4+1) l).set (j *4+2) m).set (j *4+3) n) i x:=by
 obtain⟨p,q,r,g,s,e⟩:=h;refine⟨?_,?_,?_,g,?_,f _ _ _ e⟩
 all_goals
  rw[List.getElem?_set_ne Yw,List.getElem?_set_ne Yw,List.getElem?_set_ne Yw,List.getElem?_set_ne Yw];assumption
theorem EA.new4{j:Nat}{a:Zj}(x:Kd)(c:j *4+3<a.length)(b:Es w lo g x.B.length x.B):
 EA w lo ((((a.set (j *4) (.string x.sum)).set (j *4+1) (Zg x.born)).set (j *4+2) (.string x.M)).set (j *4+3) (Za g x.B.length x.B.length)) j x:=by
 refine⟨?_,?_,?_,g,?_,b⟩
 .rw[List.getElem?_set_ne Yw,List.getElem?_set_ne Yw,List.getElem?_set_ne Yw,List.getElem?_set_self Yw]
 .rw[List.getElem?_set_ne Yw,List.getElem?_set_ne Yw,List.getElem?_set_self Yu]
 .rw[List.getElem?_set_ne Yw,List.getElem?_set_self Yu]
 .rw[List.getElem?_set_self Yu]
def Oy(xs:Zj)(n:Nat):Prop:=∀(i j q q' m c m' c':Nat),i<j->j<n->xs[i *4+3]?=some (.slice (some ⟨q,0,none⟩) m c)->xs[j *4+3]?=some (.slice (some ⟨q',0,none⟩) m' c')->q<q'
theorem Oy.gn{b:Zj}(h:Oy b k)(x:k *4+3<b.length)(s t u:Value)(g m c:Nat)(o:∀i q m c,i<k->b[i *4+3]?=some (Za q m c)->q<g):
 Oy ((((b.set (k *4) s).set (k *4+1) t).set (k *4+2) u).set (k *4+3) (Za g m c)) (k+1):=by
 intro i j q r n f p c2 d v e a;rw[List.getElem?_set_ne Yw,List.getElem?_set_ne Yw,List.getElem?_set_ne Yw,List.getElem?_set_ne Yw]at e;rcases Nat.lt_or_ge j k with l|l
 .rw[List.getElem?_set_ne Yw,List.getElem?_set_ne Yw,List.getElem?_set_ne Yw,List.getElem?_set_ne Yw]at a;exact h i j q r n f p c2 d l e a
 .obtain rfl:j=k:=Yw
  rw[List.getElem?_set_self Yu]at a;cases a;exact o i q n f d e
def EY(w:Zh)(lo g:Nat)(ks:List Kd):Prop:=
 ∃xs,w.ownsRow lo 99 4 (.slice (some ⟨g,0,none⟩) ks.length ks.length) ks.length xs/\(∀i x,ks[i]?=some x->EA w (g+1) xs i x)/\Oy xs ks.length
theorem EY.row{c:List Kd}(h:EY w lo g c):By w w.heap.size (some ⟨g,0,none⟩) c:=by obtain⟨n,a,l,_⟩:=h;refine .inr ⟨g,0,rfl,(a.lt g rfl).2,fun i x b=> ?_⟩;have m:=(Zw b).1;obtain⟨d,e,f,q,j,k⟩:=l i x b;rw[Nat.zero_add];exact⟨(a.cellAt _ Yw).trans d,(a.cellAt _ Yw).trans e,(a.cellAt _ Yw).trans f,_,_,(a.cellAt _ Yw).trans j,Ad.own k⟩
theorem PU(a:Zk)(cap:Nat)(l:List Kd)(w:Zh)(A:By w w.heap.size a l)(hl:l.length<=1048576)(D:∀k∈l,k.B.length<=1048576):
 Calls prog 57 #[.slice a l.length cap] w fun e N=>∃g,e=.returned (Za g l.length l.length)/\w.heap.size<=g/\EY N w.heap.size g l/\Zz w N:=by
 obtain⟨i0,B,R,S,T⟩:=info_parts Hf;go_enter func57,ntmps57;go_wp2_with (at_make;refine wpList_make_full _ rfl _ _ 36 rfl w.heap.size 99 i0 _ 4 underlying36 B R S .i64 .i64 _ _ l.length rfl rfl rfl rfl ?c1 ?c2 ?c3 ?_)
 case c1=>rw[T];omega
 case c2=>unfold maxLen;omega
 case c3=>exact Zx
 intro s d r;have u:Below w.heap.size w s:=(Below.refl _ _).grown r (Zx) Yv;have U:w.heap.size<s.heap.size:=(d.lt _ rfl).2;generalize (madeCells _ _).toList=ys at d;clear r;go_wp2
 go_loopw [4] (fun i wr=>∃(k:Nat) (p:Zj),k<=l.length/\i=Zg k/\wr.ownsRow w.heap.size 99 4 (Za w.heap.size l.length l.length) l.length p/\Hid (∀i,i<k->∀x,l[i]?=some x->EA wr (w.heap.size+1) p i x)/\Hid (Oy p k)/\Zz w wr) (fun i _=>l.length -(intOf i).toNat)
 case atStart=>exact⟨0,ys,Nat.zero_le _,rfl,d,fun i h=>by omega,fun i j q q' m c m' c' h1 h2=>by omega,u⟩
 case round=>
  obtain⟨k,p,hk,rfl,d,t,z,n⟩:=hrel;by_cases hlt:k<l.length
  .obtain⟨b,zC,ha,hb,L⟩:=A.at hlt;subst ha;have H:l[k]?=some l[k]:=Zv hlt;obtain⟨c0,c1,c2,ra,rc,c3,F⟩:=(L k _ H).below n hb;have Q:=D _ (List.getElem_mem hlt);have zA:=(d.lt _ rfl).2;have X:=Yx d;have W:=Yx H;clear L A H d D;generalize l[k]=x at *
   have v:=Rx x ra rc wr (F.mono n.size) Q;have V:=Yx v;clear v F;go_wp2_with fail;refine Calls.mono V.o ?_;rintro e s ⟨g,rfl,E,u⟩;have o:=World.ownsRow.kept X.o (Aq none u) (.inr (by simp[Value.ownBlock]));have zB:=o.1;have Y:s.cell? (Ze (w.heap.size) (k *4))=p[k *4]?:=o.cellAt _ Yw;have Z:s.cell? (Ze (w.heap.size) (k *4+1))=p[k *4+1]?:=o.cellAt _ Yw
   have e2:s.cell? (Ze (w.heap.size) (k *4+2))=p[k *4+2]?:=o.cellAt _ Yw;have e3:s.cell? (Ze (w.heap.size) (k *4+3))=p[k *4+3]?:=o.cellAt _ Yw;rw[Zv Yw]at Y Z e2 e3;have f:=o.frozenAt;go_wp2;have O:=n.trans (u.mono n.size)
   refine⟨⟨k+1,((((p.set (k *4) (.string x.sum)).set (k *4+1) (Zg x.born)).set (k *4+2) (.string x.M)).set (k *4+3) (Za g x.B.length x.B.length)),Yw,Yp,((((o.stored (k *4) _).1.stored (k *4+1) _).1.stored (k *4+2) _).1.stored (k *4+3) _).1,?_,z.o.gn Yw _ _ _ _ _ _ (fun i q m c B C=> ?_),?_⟩,by simp[intOf];omega⟩
   .have M:∀q c J,Es s (w.heap.size+1) q c J->Es ((((s.setCell (Ze (w.heap.size) (k *4)) (Value.string x.sum)).setCell (Ze (w.heap.size) (k *4+1)) (Value.int IntKind.i64 x.born)).setCell (Ze (w.heap.size) (k *4+2)) (Value.string x.M)).setCell (Ze (w.heap.size) (k *4+3)) (Za g x.B.length x.B.length)) (w.heap.size+1) q c J:=
     fun q c J h=>ownsRow_setCell_below (ownsRow_setCell_below (ownsRow_setCell_below (ownsRow_setCell_below h Yv _) Yv _) Yv _) Yv _
    intro i B y I;rcases Nat.lt_or_ge i k with G|G
    .exact((t i G y I).ah u).gn G _ _ _ _ M
    .obtain rfl:i=k:=Yw
     rw[W.o]at I;cases I;exact EA.new4 x Yw (M _ _ _ (World.ownsRow.mono E Yw))
   .have P:i<l.length:=Yw
    obtain⟨_,_,_,q',K,h4⟩:=t i B _ (Zv P);rw[C]at K;cases K;have l1:=(World.ownsRow.lt h4 q rfl).2;have l2:=(World.ownsRow.lt E g rfl).1;omega
   .exact(((O.setCell Yv _).setCell Yv _).setCell Yv _).setCell Yv _
  .go_wp2;go_ret;exact⟨_,rfl,Zx,⟨p,d,fun i x C=>t i (by have:=(Zw C).1;omega) x C,by have e:k=l.length:=Yw;rw[<-e];exact z.o⟩,n⟩
theorem GY:(prog.info? 163).map (fun i=>(i.zero,i.size,i.bytes))=some (some (.agg #[Zd,Zd]),2,32):=Yt
theorem Tr(x:Pd)(w:Zh):
 Calls prog 100 #[.agg #[.string x.name,.string x.sum]] w fun e a=>e=.returned (.agg #[.string x.name,.string x.sum])/\Zz w a:=by
 go_enter func100,ntmps100;go_wp2;refine bodyPost_ret (v:=.agg #[.string x.name,.string x.sum]) (by simp[results,results100,go_sem]) rfl ⟨rfl,?_⟩;exact(((Zy).alloc Yv _).alloc Yu _)
def Fl(w:Zh)(lo g:Nat)(ps:List Pd):Prop:=
 ∃xs,w.ownsRow lo 163 2 (.slice (some ⟨g,0,none⟩) ps.length ps.length) ps.length xs/\∀i x,ps[i]?=some x->xs[i *2]?=some (.string x.name)/\xs[i *2+1]?=some (.string x.sum)
theorem Fl.row{c:List Pd}(h:Fl w lo g c):AG w w.heap.size (some ⟨g,0,none⟩) c:=by obtain⟨k,a,f⟩:=h;refine .inr ⟨g,0,rfl,(a.lt g rfl).2,fun i x b=> ?_⟩;have j:=(Zw b).1;obtain⟨d,e⟩:=f i x b;rw[Nat.zero_add];exact⟨(a.cellAt _ Yw).trans d,(a.cellAt _ Yw).trans e⟩
theorem Rz(a:Zk)(cap:Nat)(d:List Pd)(w:Zh)(p:AG w w.heap.size a d)(V:d.length<=1048576):
 Calls prog 58 #[.slice a d.length cap] w fun e B=>∃g,e=.returned (Za g d.length d.length)/\w.heap.size<=g/\Fl B w.heap.size g d/\Zz w B:=by
 obtain⟨M,z,D,E,F⟩:=info_parts GY;go_enter func58,ntmps58;go_wp2_with (at_make;refine wpList_make_full _ rfl _ _ 37 rfl w.heap.size 163 M _ 2 underlying37 z D E .i64 .i64 _ _ d.length rfl rfl rfl rfl ?c1 ?c2 ?c3 ?_)
 case c1=>rw[F];omega
 case c2=>unfold maxLen;omega
 case c3=>exact Zx
 intro t c l;have q:=(Below.refl _ _).grown l (Zx) Yv;have G:=(c.lt _ rfl).2;generalize (madeCells _ _).toList=ys at c;clear l;go_wp2
 go_loopw [4] (fun i wr=>∃(k:Nat) (m:Zj),k<=d.length/\i=Zg k/\wr.ownsRow w.heap.size 163 2 (Za w.heap.size d.length d.length) d.length m/\Hid (∀i,i<k->∀x,d[i]?=some x->m[i *2]?=some (.string x.name)/\m[i *2+1]?=some (.string x.sum))/\Zz w wr) (fun i _=>d.length -(intOf i).toNat)
 case atStart=>exact⟨0,ys,Nat.zero_le _,rfl,c,fun i h=>by omega,q⟩
 case round=>
  obtain⟨k,m,U,rfl,c,o,j⟩:=hrel;by_cases hlt:k<d.length
  .obtain⟨b,R,L,T,v⟩:=(p.below j).at hlt;subst L;have r:=Zv hlt;obtain⟨S,c1⟩:=v k _ r;have P:=(c.lt _ rfl).2;have I:=Yx c;have H:=Yx r;clear v p r c;generalize d[k]=x at *
   go_wp2_with fail;refine(Tr x wr).mono ?_;rintro e t ⟨rfl,q⟩;have n:=World.ownsRow.kept I.o (Aq none q) (.inr (by simp[Value.ownBlock]));have Q:=n.1;have J:t.cell? (Ze (w.heap.size) (k *2))=m[k *2]?:=n.cellAt _ Yw;have K:t.cell? (Ze (w.heap.size) (k *2+1))=m[k *2+1]?:=n.cellAt _ Yw;rw[Zv Yw]at J K;have f:=n.frozenAt;go_wp2;have C:=j.trans (q.mono j.size)
   refine⟨⟨k+1,((m.set (k *2) (.string x.name)).set (k *2+1) (.string x.sum)),Yw,Yp,((n.stored (k *2) _).1.stored (k *2+1) _).1,?_,((C.setCell Yv _).setCell Yv _)⟩,by simp[intOf];omega⟩;intro i z y s;rcases Nat.lt_or_ge i k with u|u
   .obtain⟨N,O⟩:=o i u y s;exact⟨(by rw[List.getElem?_set_ne Yw,List.getElem?_set_ne Yw];exact N),(by rw[List.getElem?_set_ne Yw,List.getElem?_set_ne Yw];exact O)⟩
   .obtain rfl:i=k:=Yw
    rw[H.o]at s;cases s;exact⟨(by rw[List.getElem?_set_ne Yw,List.getElem?_set_self Yn]),(by rw[List.getElem?_set_self Yn])⟩
  .go_wp2;go_ret;exact⟨_,rfl,Zx,⟨m,c,fun i x A=>o i (by have:=(Zw A).1;omega) x A⟩,j⟩
theorem Gv:(prog.info? 164).map (fun i=>(i.zero,i.size,i.bytes))=some (some (.agg #[Zf,Zd,Zf]),3,32):=Yt
theorem PV(x:Ld)(w:Zh):
 Calls prog 101 #[.agg #[Zg x.V,.string x.sum,Zg x.bg]] w fun e a=>e=.returned (.agg #[Zg x.V,.string x.sum,Zg x.bg])/\Zz w a:=by
 go_enter func101,ntmps101;go_wp2;refine bodyPost_ret (v:=.agg #[Zg x.V,.string x.sum,Zg x.bg]) (by simp[results,results101,go_sem]) rfl ⟨rfl,?_⟩;exact(((Zy).alloc Yv _).alloc Yu _)
def Fm(w:Zh)(lo g:Nat)(ls:List Ld):Prop:=
 ∃xs,w.ownsRow lo 164 3 (.slice (some ⟨g,0,none⟩) ls.length ls.length) ls.length xs/\∀i x,ls[i]?=some x->xs[i *3]?=some (Zg x.V)/\xs[i *3+1]?=some (.string x.sum)/\xs[i *3+2]?=some (Zg x.bg)
theorem Fm.row{c:List Ld}(h:Fm w lo g c):AI w w.heap.size (some ⟨g,0,none⟩) c:=by obtain⟨l,a,j⟩:=h;refine .inr ⟨g,0,rfl,(a.lt g rfl).2,fun i x b=> ?_⟩;have k:=(Zw b).1;obtain⟨d,e,f⟩:=j i x b;rw[Nat.zero_add];exact⟨(a.cellAt _ Yw).trans d,(a.cellAt _ Yw).trans e,(a.cellAt _ Yw).trans f⟩
theorem Oz(a:Zk)(cap:Nat)(d:List Ld)(w:Zh)(p:AI w w.heap.size a d)(X:d.length<=1048576):
 Calls prog 59 #[.slice a d.length cap] w fun e B=>∃g,e=.returned (Za g d.length d.length)/\w.heap.size<=g/\Fm B w.heap.size g d/\Zz w B:=by
 obtain⟨N,z,D,E,F⟩:=info_parts Gv;go_enter func59,ntmps59;go_wp2_with (at_make;refine wpList_make_full _ rfl _ _ 38 rfl w.heap.size 164 N _ 3 underlying38 z D E .i64 .i64 _ _ d.length rfl rfl rfl rfl ?c1 ?c2 ?c3 ?_)
 case c1=>rw[F];omega
 case c2=>unfold maxLen;omega
 case c3=>exact Zx
 intro r c m;have q:Below w.heap.size w r:=(Below.refl _ _).grown m (Zx) Yv;have G:w.heap.size<r.heap.size:=(c.lt _ rfl).2;generalize (madeCells _ _).toList=ys at c;clear m;go_wp2
 go_loopw [4] (fun i wr=>∃(k:Nat) (l:Zj),k<=d.length/\i=Zg k/\wr.ownsRow w.heap.size 164 3 (Za w.heap.size d.length d.length) d.length l/\Hid (∀i,i<k->∀x,d[i]?=some x->l[i *3]?=some (Zg x.V)/\l[i *3+1]?=some (.string x.sum)/\l[i *3+2]?=some (Zg x.bg))/\Zz w wr) (fun i _=>d.length -(intOf i).toNat)
 case atStart=>exact⟨0,ys,Nat.zero_le _,rfl,c,fun i h=>by omega,q⟩
 case round=>
  obtain⟨k,l,W,rfl,c,o,j⟩:=hrel;by_cases hlt:k<d.length
  .obtain⟨b,T,M,V,v⟩:=(p.below j).at hlt;subst M;have s:d[k]?=some d[k]:=Zv hlt;obtain⟨U,c1,c2⟩:=v k _ s;have R:=(c.lt _ rfl).2;have I:=Yx c;have H:=Yx s;clear v p s c;generalize d[k]=x at *
   go_wp2_with fail;refine(PV x wr).mono ?_;rintro e r ⟨rfl,q⟩;have n:=World.ownsRow.kept I.o (Aq none q) (.inr (by simp[Value.ownBlock]));have S:=n.1;have J:r.cell? (Ze (w.heap.size) (k *3))=l[k *3]?:=n.cellAt _ Yw;have K:r.cell? (Ze (w.heap.size) (k *3+1))=l[k *3+1]?:=n.cellAt _ Yw;have L:r.cell? (Ze (w.heap.size) (k *3+2))=l[k *3+2]?:=n.cellAt _ Yw
   rw[Zv Yw]at J K L;have f:=n.frozenAt;go_wp2;have C:=j.trans (q.mono j.size);refine⟨⟨k+1,(((l.set (k *3) (Zg x.V)).set (k *3+1) (.string x.sum)).set (k *3+2) (Zg x.bg)),Yw,Yp,(((n.stored (k *3) _).1.stored (k *3+1) _).1.stored (k *3+2) _).1,?_,(((C.setCell Yv _).setCell Yv _).setCell Yv _)⟩,by simp[intOf];omega⟩;intro i z y t
   rcases Nat.lt_or_ge i k with u|u
   .obtain⟨O,P,Q⟩:=o i u y t;exact⟨(by rw[List.getElem?_set_ne Yw,List.getElem?_set_ne Yw,List.getElem?_set_ne Yw];exact O),(by rw[List.getElem?_set_ne Yw,List.getElem?_set_ne Yw,List.getElem?_set_ne Yw];exact P),(by rw[List.getElem?_set_ne Yw,List.getElem?_set_ne Yw,List.getElem?_set_ne Yw];exact Q)⟩
   .obtain rfl:i=k:=Yw
    rw[H.o]at t;cases t;exact⟨(by rw[List.getElem?_set_ne Yw,List.getElem?_set_ne Yw,List.getElem?_set_self Yn]),(by rw[List.getElem?_set_ne Yw,List.getElem?_set_self Yn]),(by rw[List.getElem?_set_self Yn])⟩
  .go_wp2;go_ret;exact⟨_,rfl,Zx,⟨l,c,fun i x A=>o i (by have:=(Zw A).1;omega) x A⟩,j⟩
theorem EY.ah{c:Zh}{b:List Kd}(h:EY w lo g b)(a:Zz w c):EY c lo g b:=by obtain⟨k,f,e,d⟩:=h;exact⟨k,f.kept (Aq none a) (.inr (by simp[Value.ownBlock])),fun i x j=>(e i x j).ah a,d⟩
theorem Fl.ah{b:Zh}{a:List Pd}(h:Fl w lo g a)(c:Zz w b):Fl b lo g a:=by obtain⟨f,e,d⟩:=h;exact⟨f,e.kept (Aq none c) (.inr (by simp[Value.ownBlock])),d⟩
theorem Fm.ah{b:Zh}{a:List Ld}(h:Fm w lo g a)(c:Zz w b):Fm b lo g a:=by obtain⟨f,e,d⟩:=h;exact⟨f,e.kept (Aq none c) (.inr (by simp[Value.ownBlock])),d⟩
theorem EY.setCell{c:List Kd}(h:EY w lo g c){a:Addr}(l:a.block<lo)(u:Value):EY (w.setCell a u) lo g c:=by obtain⟨p,b,n,m⟩:=h;have:=(b.lt g rfl).1;refine⟨p,ownsRow_setCell_below b l u,fun i x o=> ?_,m⟩;obtain⟨d,e,f,q,j,k⟩:=n i x o;exact⟨d,e,f,q,j,ownsRow_setCell_below k Yw u⟩
theorem Fl.setCell{b:List Pd}(h:Fl w lo g b){a:Addr}(c:a.block<lo)(u:Value):Fl (w.setCell a u) lo g b:=by obtain⟨f,e,d⟩:=h;exact⟨f,ownsRow_setCell_below e c u,d⟩
theorem Fm.setCell{b:List Ld}(h:Fm w lo g b){a:Addr}(c:a.block<lo)(u:Value):Fm (w.setCell a u) lo g b:=by obtain⟨f,e,d⟩:=h;exact⟨f,ownsRow_setCell_below e c u,d⟩
theorem EY.mono{a:Nat}{b:List Kd}(h:EY w lo g b)(d:a<=lo):EY w a g b:=by obtain⟨f,e,c⟩:=h;exact⟨f,e.mono d,c⟩
theorem Fl.mono{a:Nat}{b:List Pd}(h:Fl w lo g b)(d:a<=lo):Fl w a g b:=by obtain⟨f,e,c⟩:=h;exact⟨f,e.mono d,c⟩
theorem Fm.mono{a:Nat}{b:List Ld}(h:Fm w lo g b)(d:a<=lo):Fm w a g b:=by obtain⟨f,e,c⟩:=h;exact⟨f,e.mono d,c⟩
structure RC (w:Zh) (lo g p l:Nat) (ks:List Kd) (ps:List Pd) (ls:List Ld):Prop where
 k:EY w lo g ks
 p:Fl w lo p ps
 l:Fm w lo l ls
def Ab{A:Type}(c:A->Zj)(xs:List A):Zj:=xs.flatMap c
theorem Bu{c:A->Zj}(h:∀x,(c x).length=n)(a:List A):(Ab c a).length=a.length *n:=by
 unfold Ab;induction a with
 |nil=>simp
 |cons x a ih=>rw[List.flatMap_cons,List.length_append,ih,h,List.length_cons,Nat.add_mul];omega
theorem Bm(c:A->Zj)(a b:List A):Ab c (a++b)=Ab c a++Ab c b:=by unfold Ab;rw[List.flatMap_append]
theorem Br{c:A->Zj}(h:∀x,(c x).length=n):∀{xs:List A} {i j:Nat} {x:A},xs[i]?=some x->j<n->(Ab c xs)[i *n+j]?=(c x)[j]?
 |[],_,_,_,hx,_=>by simp at hx
 |y::ys,0,j,x,hx,hj=>by simp at hx;subst hx;show(y::ys|>.flatMap c)[_]?=_;rw[List.flatMap_cons,Nat.zero_mul,Nat.zero_add,List.getElem?_append_left (by rw[h];exact hj)]
 |y::ys,i+1,j,x,hx,hj=>by
  have a:ys[i]?=some x:=by simpa using hx
  show(y::ys|>.flatMap c)[_]?=_;rw[List.flatMap_cons,List.getElem?_append_right (by rw[h,Nat.add_mul];omega),h,show(i+1) *n+j -n=i *n+j by rw[Nat.add_mul];omega];exact Br h a hj
theorem QV{c:A->Zj}(h:∀x,(c x).length=n)(f:0<n){a:List A}(d:(Ab c a)[k]?=some u):∃x,a[k/n]?=some x/\(c x)[k%n]?=some u:=by have e:=(Zw d).1;rw[Bu h]at e;have b:=Nat.div_lt_of_lt_mul (by rw[Nat.mul_comm];exact e);refine⟨a[k/n],Zv b,?_⟩;have:=Br h (Zv b) (Nat.mod_lt k f);rw[show k/n *n+k%n=k by rw[Nat.mul_comm];exact Nat.div_add_mod k n]at this;rw[<-this];exact d
theorem FZ{c:A->Zj}(h:∀x,(c x).length=n)(a:List A)(i:Nat)(e:i<=a.length):(Ab c a).take (i *n)=Ab c (a.take i):=by
 have b:Ab c a=Ab c (a.take i)++Ab c (a.drop i):=by rw[<-Bm,List.take_append_drop]
 have d:(Ab c (a.take i)).length=i *n:=by rw[Bu h,List.length_take,Nat.min_eq_left e]
 rw[b,<-d,List.take_left]
theorem Fo{c:A->Zj}(h:∀x,(c x).length=n)(a:List A)(i:Nat)(e:i<=a.length):(Ab c a).drop (i *n)=Ab c (a.drop i):=by
 have b:Ab c a=Ab c (a.take i)++Ab c (a.drop i):=by rw[<-Bm,List.take_append_drop]
 have d:(Ab c (a.take i)).length=i *n:=by rw[Bu h,List.length_take,Nat.min_eq_left e]
 rw[b,<-d,List.drop_left]
def pC(p:Pd):Zj:=[.string p.name,.string p.sum]
def lC(l:Ld):Zj:=[Zg l.V,.string l.sum,Zg l.bg]
theorem BM(p:Pd):(pC p).length=2:=rfl
theorem Cy(l:Ld):(lC l).length=3:=rfl
theorem EC(s:Zi):(Al s).length=8:=rfl
theorem Gn(a:Zl):AB a=Ab Al a:=rfl
theorem Jy(b:List Pd):∀u∈Ab pC b,u.oneCell'=true:=by intro u hu;obtain⟨p,_,a⟩:=List.mem_flatMap.1 hu;simp[pC]at a;rcases a with rfl|rfl<;>rfl
theorem Vu(b:List Ld):∀u∈Ab lC b,u.oneCell'=true:=by intro u hu;obtain⟨p,_,a⟩:=List.mem_flatMap.1 hu;simp[lC]at a;rcases a with rfl|rfl|rfl<;>rfl
theorem Cc{a:Nat}{size:Nat}{f:Zj}(h:w.ownsRow a e size v n f)(d:v≠Zc):∃g cap,v=Za g n cap/\a<=g/\g<w.heap.size:=by
 rcases h.2 with⟨e,_⟩|⟨g,cap,i,rfl,b,c,_⟩
 .exact absurd e d
 .exact⟨g,cap,rfl,b,(Array.getElem?_eq_some_iff.1 c).1⟩
theorem AG.di{a:Nat}{f:List Pd}(h:AG w B (some ⟨b,a,none⟩) f):∀j u,(Ab pC f)[j]?=some u->w.cell? ((⟨b,a,none⟩:Addr).add j)=some u:=by
 intro j u hu;obtain⟨p,d,c⟩:=QV BM Ys hu;rcases h with h|⟨n,g,i,_,k⟩
 .subst h;simp at d
 .cases i;obtain⟨l,m⟩:=k _ p d;rw[Go.WideShapes.add_plain];have o:=Nat.mod_lt j (show 0<2 by decide);rcases(show j%2=0\/j%2=1 by omega)with e|e<;>rw[e]at c<;>simp[pC]at c<;>subst c
  .rw[show a+j=a+j/2 *2 by omega];exact l
  .rw[show a+j=a+j/2 *2+1 by omega];exact m
theorem AI.di{a:Nat}{f:List Ld}(h:AI w B (some ⟨b,a,none⟩) f):∀j u,(Ab lC f)[j]?=some u->w.cell? ((⟨b,a,none⟩:Addr).add j)=some u:=by
 intro j u hu;obtain⟨p,e,d⟩:=QV Cy Ys hu;rcases h with h|⟨o,g,i,_,k⟩
 .subst h;simp at e
 .cases i;obtain⟨l,m,n⟩:=k _ p e;rw[Go.WideShapes.add_plain];have q:=Nat.mod_lt j (show 0<3 by decide);rcases(show j%3=0\/j%3=1\/j%3=2 by omega)with c|c|c<;>rw[c]at d<;>simp[lC]at d<;>subst d
  .rw[show a+j=a+j/3 *3 by omega];exact l
  .rw[show a+j=a+j/3 *3+1 by omega];exact m
  .rw[show a+j=a+j/3 *3+2 by omega];exact n
theorem AG.own{c:Nat}{b:List Pd}(h:w.ownsRow c 163 2 (.slice a b.length cap) b.length (Ab pC b)):AG w w.heap.size a b:=by
 rcases h.2 with⟨e,m⟩|⟨g,f,n,l,o,p,_⟩
 .exact .inl (List.length_eq_zero_iff.1 m)
 .cases l;refine .inr ⟨g,0,rfl,(h.lt g rfl).2,fun i x d=> ?_⟩;have q:=(Zw d).1;have j:=Br BM d (show 0<2 by decide);have k:=Br BM d (show 1<2 by decide);rw[Nat.zero_add];exact⟨(h.cellAt _ Yw).trans j,(h.cellAt _ Yw).trans k⟩
theorem AI.own{d:Nat}{c:List Ld}(h:w.ownsRow d 164 3 (.slice a c.length cap) c.length (Ab lC c)):AI w w.heap.size a c:=by
 rcases h.2 with⟨e,n⟩|⟨g,f,o,m,p,q,_⟩
 .exact .inl (List.length_eq_zero_iff.1 n)
 .cases m;refine .inr ⟨g,0,rfl,(h.lt g rfl).2,fun i x b=> ?_⟩;have r:=(Zw b).1;have j:=Br Cy b (show 0<3 by decide);have k:=Br Cy b (show 1<3 by decide);have l:=Br Cy b (show 2<3 by decide);rw[Nat.zero_add];exact⟨(h.cellAt _ Yw).trans j,(h.cellAt _ Yw).trans k,(h.cellAt _ Yw).trans l⟩
theorem AG.dq{a:Addr}{c:List Pd}(h:AG w B (some a) c):∀j u,(Ab pC c)[j]?=some u->w.cell? (a.add j)=some u:=by
 rcases h with rfl|⟨b,d,e,f,g⟩
 .intro j u hu;simp[Ab]at hu
 .cases e;exact AG.di (.inr ⟨b,d,rfl,f,g⟩)
theorem AI.dq{a:Addr}{c:List Ld}(h:AI w B (some a) c):∀j u,(Ab lC c)[j]?=some u->w.cell? (a.add j)=some u:=by
 rcases h with rfl|⟨b,d,e,f,g⟩
 .intro j u hu;simp[Ab]at hu
 .cases e;exact AI.di (.inr ⟨b,d,rfl,f,g⟩)
theorem Ad.dq{c:Addr}{a:Zl}(h:Ad w B (some c) a):∀j u,(a.map Value.string)[j]?=some u->w.cell? (c.add j)=some u:=by
 rcases h with rfl|⟨b,f,d,g,e⟩
 .intro j u hu;simp at hu
 .cases d;intro j u hu;rw[List.getElem?_map]at hu;cases hs:a[j]? with
  |none=>rw[hs]at hu;cases hu
  |some s=>rw[hs]at hu;cases hu;rw[Go.WideShapes.add_plain];exact e j s hs
theorem AG.nil{a:List Pd}(h:AG w B none a):a=[]:=by
 rcases h with h|⟨_,_,h,_⟩
 .exact h
 .cases h
theorem AI.nil{a:List Ld}(h:AI w B none a):a=[]:=by
 rcases h with h|⟨_,_,h,_⟩
 .exact h
 .cases h
theorem Ad.nil{a:Zl}(h:Ad w B none a):a=[]:=by
 rcases h with h|⟨_,_,h,_⟩
 .exact h
 .cases h
theorem Jz(a:Zk)(cap:Nat)(b:List Pd)(w:Zh)(i:AG w w.heap.size a b)(D:b.length<=1048576):
 Calls prog 111 #[.slice a b.length cap] w fun e p=>∃l n,e=.returned (.slice l b.length n)/\
  p.ownsRow w.heap.size 163 2 (.slice l b.length n) b.length (Ab pC b)/\Zz w p:=by
 rcases a with _|m
 .obtain rfl:=i.nil;have d:∀u:Zh,(binOp .eql 37 (.slice none 0 cap) Zc).run prog u=.ok (.bool true) u:=fun _=>by first|rfl|kernel_rfl
  go_enter func111,ntmps111;go_wp2;go_ret;exact⟨none,0,rfl,⟨rfl,.inl ⟨rfl,rfl⟩⟩,Below.refl _ _⟩
 obtain⟨z,v,q,r,s⟩:=info_parts GY;have h:Below w.heap.size w (w.alloc (.cells #[] 163)):=Zy;have d:∀u:Zh,(binOp .eql 37 (.slice (some m) b.length cap) Zc).run prog u=.ok (.bool false) u:=fun _=>by first|rfl|kernel_rfl
 go_enter func111,ntmps111;go_wp2_with (first
  |(at_builtin;refine wpList_append_own _ rfl _ _ 37 rfl w.heap.size 163 z _ 2 32 underlying37 v q r s rfl Ys _ 0 (Ab pC []) rfl ?d0 m b.length cap (Ab pC b) rfl ?d1 ?d2 ?d3 ?d4 ?d5 ?d6 ?_)
  |go_in)
 case d0=>exact World.ownsRow_lit (base:=w.heap.size) (e:=163) (size:=2) w #[] 0 (Zx) Yq rfl
 case d1=>exact Bu BM b
 case d2=>exact(i.below h).dq
 case d3=>exact Jy b
 case d4=>unfold maxLen;omega
 case d5=>omega
 case d6=>simp
 intro E A c f g;obtain⟨x,t,rfl,B,C⟩:=Cc c g;rw[<-Bm,List.nil_append]at c;have o:Below w.heap.size w A:=h.grown f Yv (fun k y=>by simp[Value.ownBlock]at y;omega);have j:=Yx (Zn c o);try simp only[Nat.zero_add]at *
 clear c f g o h i;go_wp2;go_ret;exact⟨_,t,rfl,j.o.1,j.o.2⟩
theorem IH(a:Zk)(cap:Nat)(b:List Ld)(w:Zh)(i:AI w w.heap.size a b)(D:b.length<=1048576):
 Calls prog 112 #[.slice a b.length cap] w fun e p=>∃l n,e=.returned (.slice l b.length n)/\
  p.ownsRow w.heap.size 164 3 (.slice l b.length n) b.length (Ab lC b)/\Zz w p:=by
 rcases a with _|m
 .obtain rfl:=i.nil;have d:∀u:Zh,(binOp .eql 38 (.slice none 0 cap) Zc).run prog u=.ok (.bool true) u:=fun _=>by first|rfl|kernel_rfl
  go_enter func112,ntmps112;go_wp2;go_ret;exact⟨none,0,rfl,⟨rfl,.inl ⟨rfl,rfl⟩⟩,Below.refl _ _⟩
 obtain⟨z,v,q,r,s⟩:=info_parts Gv;have h:Below w.heap.size w (w.alloc (.cells #[] 164)):=Zy;have d:∀u:Zh,(binOp .eql 38 (.slice (some m) b.length cap) Zc).run prog u=.ok (.bool false) u:=fun _=>by first|rfl|kernel_rfl
 go_enter func112,ntmps112;go_wp2_with (first
  |(at_builtin;refine wpList_append_own _ rfl _ _ 38 rfl w.heap.size 164 z _ 3 32 underlying38 v q r s rfl Ys _ 0 (Ab lC []) rfl ?d0 m b.length cap (Ab lC b) rfl ?d1 ?d2 ?d3 ?d4 ?d5 ?d6 ?_)
  |go_in)
 case d0=>exact World.ownsRow_lit (base:=w.heap.size) (e:=164) (size:=3) w #[] 0 (Zx) Yq rfl
 case d1=>exact Bu Cy b
 case d2=>exact(i.below h).dq
 case d3=>exact Vu b
 case d4=>unfold maxLen;omega
 case d5=>omega
 case d6=>simp
 intro E A c f g;obtain⟨x,t,rfl,B,C⟩:=Cc c g;rw[<-Bm,List.nil_append]at c;have o:Below w.heap.size w A:=h.grown f Yv (fun k y=>by simp[Value.ownBlock]at y;omega);have j:=Yx (Zn c o);try simp only[Nat.zero_add]at *
 clear c f g o h i;go_wp2;go_ret;exact⟨_,t,rfl,j.o.1,j.o.2⟩
theorem Hg(a:Zk)(cap:Nat)(b:Zl)(w:Zh)(i:Ad w w.heap.size a b)(D:b.length<=1048576):
 Calls prog 113 #[.slice a b.length cap] w fun e p=>∃l n,e=.returned (.slice l b.length n)/\
  p.ownsRow w.heap.size 9 1 (.slice l b.length n) b.length (b.map Value.string)/\Zz w p:=by
 rcases a with _|m
 .obtain rfl:=i.nil;have d:∀u:Zh,(binOp .eql 22 (.slice none 0 cap) Zc).run prog u=.ok (.bool true) u:=fun _=>by first|rfl|kernel_rfl
  go_enter func113,ntmps113;go_wp2;go_ret;exact⟨none,0,rfl,⟨rfl,.inl ⟨rfl,rfl⟩⟩,Below.refl _ _⟩
 obtain⟨z,v,q,r,s⟩:=info_parts Dw;have h:Below w.heap.size w (w.alloc (.cells #[] 9)):=Zy;have d:∀u:Zh,(binOp .eql 22 (.slice (some m) b.length cap) Zc).run prog u=.ok (.bool false) u:=fun _=>by first|rfl|kernel_rfl
 go_enter func113,ntmps113;go_wp2_with (first
  |(at_builtin;refine wpList_append_own _ rfl _ _ 22 rfl w.heap.size 9 z Zd 1 16 underlying22 v q r s rfl Ys _ 0 (([]:Zl).map Value.string) rfl ?d0 m b.length cap (b.map Value.string) rfl ?d1 ?d2 ?d3 ?d4 ?d5 ?d6 ?_)
  |go_in)
 case d0=>exact World.ownsRow_lit (base:=w.heap.size) (e:=9) (size:=1) w #[] 0 (Zx) Yq rfl
 case d1=>simp
 case d2=>exact(i.below h).dq
 case d3=>exact Rt b
 case d4=>unfold maxLen;omega
 case d5=>omega
 case d6=>simp
 intro E A c f g;obtain⟨x,t,rfl,B,C⟩:=Cc c g
 skip
 have o:Below w.heap.size w A:=h.grown f Yv (fun k y=>by simp[Value.ownBlock]at y;omega);have j:=Yx (Zn c o);try simp only[Nat.zero_add]at *
 clear c f g o h i;go_wp2;go_ret;exact⟨_,t,rfl,j.o.1,j.o.2⟩
end Go.Proofs.YtcankpdbabaacaaGreatDoor
