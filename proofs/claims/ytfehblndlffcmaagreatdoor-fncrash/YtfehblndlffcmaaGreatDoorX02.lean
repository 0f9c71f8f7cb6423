import Derived.Test.YtfehblndlffcmaaGreatDoorX01
import Derived.WideKeyEntry
import Derived.Maps.Views
import Derived.Deep.RegionLaw
import Derived.Lib.BytesEntry
import Derived.WalkLawsBesides
import Derived.Defers
import Derived.Recover
import Derived.Laws.OwnMore
set_option maxRecDepth 100000
set_option maxHeartbeats 16000000
open Option renaming some->an,none->ba
open Bool renaming true->bg,false->bq
open Go.RowKit renaming Below->bs
open Decidable renaming decide->bx
open Go.Obj renaming cells->ca
open Go.Value renaming slice->cr,agg->ct,bool->ef,ownBlock->ej
open Or renaming inl->dp,inr->eb
open List renaming length->eh,toArray->ei
open Go.World renaming cell?->ek,frozen?->el,ownsRow->eo,grownBy->ep,setCell->ev
open Go renaming maxLen->ew
namespace Go.Proofs.YtfehblndlffcmaaGreatDoor
open ChangeShapes WideShapes ChangeAt RowKit _root_.Go.Proofs.Tryz List World Value
variable{n k i B b f c d clock g base m R:Nat}{a w W w' X:Zh}{e t K:TypeId}{v P z L O:Value}{j o l G x:Int}{s:Zi}{r T:Option Nat}{V:List Nat}{E p:Prop}
def Ad{A:Type}(c:A->Zj)(xs:List A):Zj:=xs.flatMap c
theorem BY{A:Type}{c:A->Zj}(h:∀x,eh (c x)=n)(a:List A):eh (Ad c a)=eh a *n:=by
 unfold Ad;induction a with
 |nil=>simp
 |cons x a ih=>rw[flatMap_cons,Am,ih,h,length_cons,Nat.add_mul];omega
theorem Cd{A:Type}(c:A->Zj)(a b:List A):Ad c (a++b)=Ad c a++Ad c b:=by unfold Ad;rw[flatMap_append]
theorem BU{A:Type}{c:A->Zj}(h:∀x,eh (c x)=n):∀{xs:List A} {i j:Nat} {x:A},xs[i]?=an x->j<n->(Ad c xs)[i *n+j]?=(c x)[j]?
 |[],_,_,_,hx,_=>by simp at hx
 |y::ys,0,j,x,hx,hj=>by simp at hx;subst hx;show(y::ys|>.flatMap c)[_]?=_;rw[flatMap_cons,Nat.zero_mul,Ay,getElem?_append_left (by rw[h];exact hj)]
 |y::ys,i+1,j,x,hx,hj=>by
  have a:ys[i]?=an x:=D2 hx;show(y::ys|>.flatMap c)[_]?=_;rw[flatMap_cons,getElem?_append_right (by rw[h,Nat.add_mul];omega),h,show(i+1) *n+j -n=i *n+j by rw[Nat.add_mul];omega];exact BU h a hj
theorem Rt{A:Type}{c:A->Zj}(h:∀x,eh (c x)=n)(f:0<n){a:List A}{u:D4}(d:(Ad c a)[k]?=an u):∃x,a[k/n]?=an x/\(c x)[k%n]?=an u:=by have e:=(Zw d).1;rw[BY h]at e;have b:=Nat.div_lt_of_lt_mul (by rw[Nat.mul_comm];exact e);refine⟨a[k/n],Zv b,?_⟩;have:=BU h (Zv b) (Nat.mod_lt k f);rw[show k/n *n+k%n=k by rw[Nat.mul_comm];exact Nat.div_add_mod k n]at this;rw[<-this];exact d
theorem Ls{A:Type}{c:A->Zj}(h:∀x,eh (c x)=n)(a:List A)(i:Nat)(e:i<=eh a):(Ad c a).take (i *n)=Ad c (a.take i):=by
 have b:Ad c a=Ad c (a.take i)++Ad c (a.drop i):=by rw[<-Cd,take_append_drop]
 have d:eh (Ad c (a.take i))=i *n:=by rw[BY h,C0,Nat.min_eq_left e]
 rw[b,<-d,take_left]
theorem Ji{A:Type}{c:A->Zj}(h:∀x,eh (c x)=n)(a:List A)(i:Nat)(e:i<=eh a):(Ad c a).drop (i *n)=Ad c (a.drop i):=by
 have b:Ad c a=Ad c (a.take i)++Ad c (a.drop i):=by rw[<-Cd,take_append_drop]
 have d:eh (Ad c (a.take i))=i *n:=by rw[BY h,C0,Nat.min_eq_left e]
 rw[b,<-d,drop_left]
def pC(p:Pd):Zj:=[.string p.name,.string p.sum]
def lC(l:Ld):Zj:=[Zg l.R,.string l.sum,Zg l.bj]
theorem EC(p:Pd):eh (pC p)=2:=rfl
theorem DW(l:Ld):eh (lC l)=3:=rfl
theorem TM(s:Zi):eh (Bt s)=8:=rfl
theorem Sj(c:Db):∀u∈Ad pC c,u.oneCell'=bg:=by intro u b;have⟨p,_,a⟩:=mem_flatMap.1 b;simp[pC]at a;rcases a with rfl|rfl<;>rfl
theorem VP(c:Da):∀u∈Ad lC c,u.oneCell'=bg:=by intro u b;have⟨p,_,a⟩:=mem_flatMap.1 b;simp[lC]at a;rcases a with rfl|rfl|rfl<;>rfl
theorem BK{a:Nat}{size:Nat}{i:Zj}(h:eo w a e size v n i)(f:v≠Zb):∃g b,v=Yz g n b/\a<=g/\g<w.1.size:=by
 rcases h.2 with⟨e,_⟩|⟨g,b,j,rfl,c,d,_⟩
 .exact absurd e f
 exact⟨g,b,rfl,c,(A6.1 d).1⟩
theorem AS.fg{a:Nat}{f:Db}(h:AS w B (an ⟨b,a,ba⟩) f):∀j u,(Ad pC f)[j]?=an u->ek w ((⟨b,a,ba⟩:Addr).add j)=an u:=by
 intro j u l;have⟨p,d,c⟩:=Rt EC Yq l;rcases h with h|⟨o,g,i,_,k⟩
 .subst h;simp at d
 cases i;obtain⟨m,n⟩:=k _ p d;rw[A7];have q:=Nat.mod_lt j (show 0<2 by decide);rcases(show j%2=0\/j%2=1 by omega)with e|e<;>rw[e]at c<;>simp[pC]at c<;>subst c
 .rw[show a+j=a+j/2 *2 by omega];exact m
 rw[show a+j=a+j/2 *2+1 by omega];exact n
theorem AR.fg{a:Nat}{f:Da}(h:AR w B (an ⟨b,a,ba⟩) f):∀j u,(Ad lC f)[j]?=an u->ek w ((⟨b,a,ba⟩:Addr).add j)=an u:=by
 intro j u l;have⟨p,e,d⟩:=Rt DW Yq l;rcases h with h|⟨q,g,i,_,k⟩
 .subst h;simp at e
 cases i;obtain⟨m,n,o⟩:=k _ p e;rw[A7];have r:=Nat.mod_lt j (show 0<3 by decide);rcases(show j%3=0\/j%3=1\/j%3=2 by omega)with c|c|c<;>rw[c]at d<;>simp[lC]at d<;>subst d
 .rw[show a+j=a+j/3 *3 by omega];exact m
 .rw[show a+j=a+j/3 *3+1 by omega];exact n
 rw[show a+j=a+j/3 *3+2 by omega];exact o
theorem AS.own{a:Zk}{b:Db}(h:eo w c 81 2 (C3 a (eh b) f) (eh b) (Ad pC b)):AS w w.1.size a b:=by
 rcases h.2 with⟨e,n⟩|⟨g,j,o,m,p,q,_⟩
 .exact dp (length_eq_zero_iff.1 n)
 cases m;refine eb ⟨g,0,rfl,(h.lt g rfl).2,λi x d=> ?_⟩;have r:=(Zw d).1;have k:=BU EC d (show 0<2 by decide);have l:=BU EC d (show 1<2 by decide);rw[Ay];exact⟨(h.cellAt _ Yv).ag k,(h.cellAt _ Yv).ag l⟩
theorem AR.own{a:Zk}{c:Da}(h:eo w d 83 3 (C3 a (eh c) f) (eh c) (Ad lC c)):AR w w.1.size a c:=by
 rcases h.2 with⟨e,o⟩|⟨g,j,p,n,q,r,_⟩
 .exact dp (length_eq_zero_iff.1 o)
 cases n;refine eb ⟨g,0,rfl,(h.lt g rfl).2,λi x b=> ?_⟩;have s:=(Zw b).1;have k:=BU DW b (show 0<3 by decide);have l:=BU DW b (show 1<3 by decide);have m:=BU DW b (show 2<3 by decide);rw[Ay];exact⟨(h.cellAt _ Yv).ag k,(h.cellAt _ Yv).ag l,(h.cellAt _ Yv).ag m⟩
theorem AS.fp{a:Addr}{c:Db}(h:AS w B (an a) c):∀j u,(Ad pC c)[j]?=an u->ek w (a.add j)=an u:=by
 rcases h with rfl|⟨b,d,e,f,g⟩
 .intro j u i;simp[Ad]at i
 cases e;exact AS.fg (eb ⟨b,d,rfl,f,g⟩)
theorem AR.fp{a:Addr}{c:Da}(h:AR w B (an a) c):∀j u,(Ad lC c)[j]?=an u->ek w (a.add j)=an u:=by
 rcases h with rfl|⟨b,d,e,f,g⟩
 .intro j u i;simp[Ad]at i
 cases e;exact AR.fg (eb ⟨b,d,rfl,f,g⟩)
theorem Ab.fp{d:Addr}{c:Zl}(h:Ab w B (an d) c):∀j u,(c.map string)[j]?=an u->ek w (d.add j)=an u:=by
 rcases h with rfl|⟨b,g,e,i,f⟩
 .intro j u a;simp at a
 cases e;intro j u a;rw[getElem?_map]at a;cases hs:c[j]? with
 |none=>rw[hs]at a;cases a
 |some s=>rw[hs]at a;cases a;rw[A7];exact f j s hs
theorem AS.nil{a:Db}(h:AS w B ba a):a=[]:=by
 rcases h with h|⟨_,_,h,_⟩
 .exact h
 cases h
theorem AR.nil{a:Da}(h:AR w B ba a):a=[]:=by
 rcases h with h|⟨_,_,h,_⟩
 .exact h
 cases h
theorem Ab.nil{a:Zl}(h:Ab w B ba a):a=[]:=by
 rcases h with h|⟨_,_,h,_⟩
 .exact h
 cases h
theorem JY{a:Zk}(c:Nat){b:List Pd}(j:AS w w.1.size a b)(A:eh b<=1048576):
 D8 59 #[cr a (eh b) c] w λe g=>∃d f,e=.returned (cr d (eh b) f)/\
  eo g w.1.size 81 2 (cr d (eh b) f) (eh b) (Ad pC b)/\Zz w g:=by
 rcases a with _|m
 .obtain rfl:=j.nil;have f:∀u:Zh,(binOp .eql 27 (cr ba 0 c) Zb).run prog u=.ok (ef bg) u:=λ_=>by first|rfl|kernel_rfl
  delta D8;go_in;go_wp2;go_ret;exact⟨ba,0,rfl,⟨rfl,dp ⟨rfl,rfl⟩⟩,Ae⟩
 have⟨t,s,o,p,q⟩:=info_parts Hq;have i:bs w.1.size w (w.alloc (ca #[] 81)):=Zy;have f:∀u:Zh,(binOp .eql 27 (cr (an m) (eh b) c) Zb).run prog u=.ok (ef bq) u:=λ_=>by first|rfl|kernel_rfl
 delta D8;go_in;go_wp2_with (first
  |(at_builtin;refine wpList_append_own _ rfl _ _ 27 rfl w.1.size 81 t _ 2 32 underlying27 s o p q rfl Yq _ 0 (Ad pC []) rfl ?d0 m (eh b) c (Ad pC b) rfl ?d1 ?d2 ?d3 ?d4 ?d5 ?d6 ?_)
  |go_in)
 case d0=>exact ownsRow_lit (base:=w.1.size) (e:=81) (size:=2) w #[] 0 (Zx) Yo rfl
 case d1=>exact BY EC b
 case d2=>exact(j.A i).fp
 case d3=>exact Sj b
 case d4=>unfold ew;omega
 case d5=>omega
 case d6=>simp
 intro B v d g h;obtain⟨x,r,rfl,y,z⟩:=BK d h;rw[<-Cd,nil_append]at d;have n:bs w.1.size w v:=i.grown g Yu (λk l=>by simp[ownBlock]at l;omega);have l:=Yw (Zn d n);try simp only[Ay]at *
 clear d g h n i j;go_wp2;go_ret;exact⟨_,r,rfl,l.1,l.2⟩
theorem IU{a:Zk}(c:Nat){b:List Ld}(j:AR w w.1.size a b)(A:eh b<=1048576):
 D8 60 #[cr a (eh b) c] w λe g=>∃d f,e=.returned (cr d (eh b) f)/\
  eo g w.1.size 83 3 (cr d (eh b) f) (eh b) (Ad lC b)/\Zz w g:=by
 rcases a with _|m
 .obtain rfl:=j.nil;have f:∀u:Zh,(binOp .eql 28 (cr ba 0 c) Zb).run prog u=.ok (ef bg) u:=λ_=>by first|rfl|kernel_rfl
  delta D8;go_in;go_wp2;go_ret;exact⟨ba,0,rfl,⟨rfl,dp ⟨rfl,rfl⟩⟩,Ae⟩
 have⟨t,s,o,p,q⟩:=info_parts Iv;have i:bs w.1.size w (w.alloc (ca #[] 83)):=Zy;have f:∀u:Zh,(binOp .eql 28 (cr (an m) (eh b) c) Zb).run prog u=.ok (ef bq) u:=λ_=>by first|rfl|kernel_rfl
 delta D8;go_in;go_wp2_with (first
  |(at_builtin;refine wpList_append_own _ rfl _ _ 28 rfl w.1.size 83 t _ 3 32 underlying28 s o p q rfl Yq _ 0 (Ad lC []) rfl ?d0 m (eh b) c (Ad lC b) rfl ?d1 ?d2 ?d3 ?d4 ?d5 ?d6 ?_)
  |go_in)
 case d0=>exact ownsRow_lit (base:=w.1.size) (e:=83) (size:=3) w #[] 0 (Zx) Yo rfl
 case d1=>exact BY DW b
 case d2=>exact(j.A i).fp
 case d3=>exact VP b
 case d4=>unfold ew;omega
 case d5=>omega
 case d6=>simp
 intro B v d g h;obtain⟨x,r,rfl,y,z⟩:=BK d h;rw[<-Cd,nil_append]at d;have n:bs w.1.size w v:=i.grown g Yu (λk l=>by simp[ownBlock]at l;omega);have l:=Yw (Zn d n);try simp only[Ay]at *
 clear d g h n i j;go_wp2;go_ret;exact⟨_,r,rfl,l.1,l.2⟩
theorem EL{a:Zk}(c:Nat){b:Zl}(j:Ab w w.1.size a b)(A:eh b<=1048576):
 D8 58 #[cr a (eh b) c] w λe g=>∃d f,e=.returned (cr d (eh b) f)/\
  eo g w.1.size 9 1 (cr d (eh b) f) (eh b) (b.map string)/\Zz w g:=by
 rcases a with _|m
 .obtain rfl:=j.nil;have f:∀u:Zh,(binOp .eql 23 (cr ba 0 c) Zb).run prog u=.ok (ef bg) u:=λ_=>by first|rfl|kernel_rfl
  delta D8;go_in;go_wp2;go_ret;exact⟨ba,0,rfl,⟨rfl,dp ⟨rfl,rfl⟩⟩,Ae⟩
 have⟨t,s,o,p,q⟩:=info_parts Ck;have i:bs w.1.size w (w.alloc (ca #[] 9)):=Zy;have f:∀u:Zh,(binOp .eql 23 (cr (an m) (eh b) c) Zb).run prog u=.ok (ef bq) u:=λ_=>by first|rfl|kernel_rfl
 delta D8;go_in;go_wp2_with (first
  |(at_builtin;refine wpList_append_own _ rfl _ _ 23 rfl w.1.size 9 t Zc 1 16 underlying23 s o p q rfl Yq _ 0 (([]:Zl).map string) rfl ?d0 m (eh b) c (b.map string) rfl ?d1 ?d2 ?d3 ?d4 ?d5 ?d6 ?_)
  |go_in)
 case d0=>exact ownsRow_lit (base:=w.1.size) (e:=9) (size:=1) w #[] 0 (Zx) Yo rfl
 case d1=>simp
 case d2=>exact(j.A i).fp
 case d3=>exact Abh b
 case d4=>unfold ew;omega
 case d5=>omega
 case d6=>simp
 intro B v d g h;obtain⟨x,r,rfl,y,z⟩:=BK d h
 skip
 have n:bs w.1.size w v:=i.grown g Yu (λk l=>by simp[ownBlock]at l;omega);have l:=Yw (Zn d n);try simp only[Ay]at *
 clear d g h n i j;go_wp2;go_ret;exact⟨_,r,rfl,l.1,l.2⟩
section
attribute [local go_sem↓] Go.wp_at_zero Go.wp_at_succ
section
open Go.WideElems Go.MapKept Go.ChangeMaps
theorem IV(w:Zh)(b:Nat)(x y:Obj):setBlock (setBlock w b x) b y=setBlock w b y:=by simp[setBlock]
theorem Nv{P:Program}{f:Zh}{d:Array MapEntry}(val:D4)(c:f.1[b]?=an (.map d clock))(a:d.findIdx? (λe=>((e.born:Nat):Int)==((g:Nat):Int))=an i):
 (Instr.entryStore t (.map (an b)) (goInt g) val).run P f=.ok () (setBlock f b (.map (d.modify i (λe=>{e with val:=val})) clock)):=by
 simp[Instr.entryStore,MapKept.run_getObj_map c,asInt,asIntOf,goInt,a,MapKept.run_setObj_map _ c,Result.andThen,setBlock]
theorem TN{H:Type}{P:Program}{k:TypeId}{R:Value->Option (DataW H×List MemPlace)}{f:Array MapEntry}(K:Maps.Keyed P k)(o:P.underlying t=an (.map k e))(A:∀u:Zh,(zeroValue e).run P u=.ok z u)(g:w.1[b]?=an (.map f clock))(F:Fit P k R f clock){key:D4}{D:Lit}(d:keyOf P k key=an D):
 ∃(v0:D4) (st:Nat) (w3:Zh),(Instr.mapEntry t (.map (an b)) key).run P w=.ok (.tuple #[v0,goInt st]) w3/\(Instr.lookup t (.map (an b)) key bq).run P w=.ok v0 w/\(Instr.mapUpdate t (.map (an b)) key v0).run P w=.ok () w3/\
  ∀val:Value,∃h,(Instr.entryStore t (.map (an b)) (goInt st) val).run P w3=.ok () h/\(Instr.mapUpdate t (.map (an b)) key val).run P w=.ok () h:=by
 have⟨E,B,_⟩:=F.stamped;rcases K.find w d f.toList F.keys with⟨h,i⟩|⟨j,e0,h,i,q⟩
 .have v:(setBlock w b (.map (f.push ⟨key,z,clock⟩) (clock+1))).1[b]?=an (.map (f.push ⟨key,z,clock⟩) (clock+1)):=heap_setBlock_same g _;refine⟨z,clock,setBlock w b (.map (f.push ⟨key,z,clock⟩) (clock+1)),?_,?_,?_,λval=>⟨setBlock w b (.map (f.push ⟨key,val,clock⟩) (clock+1)),?_,?_⟩⟩
  .simp[Instr.mapEntry,run_underlying o,MapKept.run_getObj_map g,K.check w bq d,h,A,MapKept.run_setObj_map _ g,Result.andThen,setBlock]
  .simp[Instr.lookup,run_underlying o,MapKept.run_getObj_map g,K.check w _ d,h,A,Result.andThen]
  .simp[Instr.mapUpdate,run_underlying o,MapKept.run_getObj_map g,K.check w bq d,h,MapKept.run_setObj_map _ g,Result.andThen,setBlock]
  .have m:(f.push ⟨key,z,clock⟩).findIdx? (λe=>((e.born:Nat):Int)==((clock:Nat):Int))=an f.size:=by
    rw[findIdx_arr];have:=findIdx_born (l:=(f.push ⟨key,z,clock⟩).toList) (j:=f.size) (e0:=⟨key,z,clock⟩) (by
     simp only[Array.toList_push,map_append,map_cons,map_nil];refine nodup_append.2 ⟨B,Yu,λa n c p r=> ?_⟩;simp only[mem_singleton]at p;obtain⟨x,C,rfl⟩:=mem_map.1 n;have:=E x C;omega) Yu
    exact this
   have n:(f.push ⟨key,z,clock⟩).modify f.size (λe=>{e with val:=val})=f.push ⟨key,val,clock⟩:=(by apply Array.ext';rw[Array.toList_modify,Array.toList_push,Array.toList_push,<-Array.length_toList,modify_last]);rw[Nv val v m,IV,n]
  simp[Instr.mapUpdate,run_underlying o,MapKept.run_getObj_map g,K.check w bq d,h,MapKept.run_setObj_map _ g,Result.andThen,setBlock]
 have y:f[j]?=an e0:=D2 i;have r:f.modify j (λe=>{e with key:=key})=f:=by
  apply Array.ext';rw[Array.toList_modify,modify_eq_set _ _ _ _ i];have:({e0 with key:=key}:MapEntry)=e0:=by rw[<-q]
  rw[this];exact set_self _ _ _ i
 have p:f.modify j (λs=>{s with key:=key,val:=e0.val})=f:=by
  apply Array.ext';rw[Array.toList_modify,modify_eq_set _ _ _ _ i];have:({e0 with key:=key,val:=e0.val}:MapEntry)=e0:=by rw[<-q]
  rw[this];exact set_self _ _ _ i
 have v:(setBlock w b (.map f clock)).1[b]?=an (.map f clock):=heap_setBlock_same g _;refine⟨e0.val,e0.born,setBlock w b (.map f clock),?_,?_,?_,λval=>⟨setBlock w b (.map (f.modify j (λs=>{s with key:=key,val:=val})) clock),?_,?_⟩⟩
 .simp[Instr.mapEntry,run_underlying o,MapKept.run_getObj_map g,K.check w bq d,h,y,q,K.stays w d,r,MapKept.run_setObj_map _ g,Result.andThen,setBlock]
 .simp[Instr.lookup,run_underlying o,MapKept.run_getObj_map g,K.check w _ d,h,Result.andThen]
 .simp[Instr.mapUpdate,run_underlying o,MapKept.run_getObj_map g,K.check w bq d,h,y,q,K.stays w d,p,MapKept.run_setObj_map _ g,Result.andThen,setBlock]
 .have m:f.findIdx? (λe=>((e.born:Nat):Int)==((e0.born:Nat):Int))=an j:=by rw[findIdx_arr];exact findIdx_born B i
  have n:f.modify j (λe=>{e with val:=val})=f.modify j (λs=>{s with key:=key,val:=val}):=by apply Array.ext';rw[Array.toList_modify,Array.toList_modify,modify_eq_set _ _ _ _ i,modify_eq_set _ _ _ _ i,<-q]
  rw[Nv val v m,IV,n]
 simp[Instr.mapUpdate,run_underlying o,MapKept.run_getObj_map g,K.check w bq d,h,y,q,K.stays w d,MapKept.run_setObj_map _ g,Result.andThen,setBlock]
end
def CD(w:Zh)(K:TypeId)(b n c:Nat)(f:Lit->Option Value):Prop:=
 ∃D:DataW Value,w.ownsMap prog K OG b n D/\(∀kl z,D.atKey kl (.held z)=.held ((f kl).getD z))/\(∀kl,Maps.has D kl=(f kl).isSome)/\Maps.Tidy D/\Maps.size D=c
theorem CD.map{f:Lit->Option Value}(h:CD w K b n c f):Bb w K b n f:=let ⟨D,h1,h2,h3,_⟩:=h;⟨D,h1,h2,h3⟩
theorem CD.new(w:Zh)(K:TypeId):CD (w.alloc (.map #[] 0)) K w.1.size 0 0 (λ_=>ba):=
 ⟨.map [],ownsMap_made _ _ _ _,λ_ _=>rfl,λ_=>rfl,Maps.tidy_empty,rfl⟩
theorem CD.ah{f:Lit->Option Value}(h:CD w K b n c f)(k:bs B w a)(j:b<B):CD a K b n c f:=by obtain⟨D,⟨d,clock,e,g⟩,i⟩:=h;exact⟨D,⟨d,clock,(k.block b j).ag e,g⟩,i⟩
theorem CD.lt{f:Lit->Option Value}(h:CD w K b n c f):b<w.1.size:=h.choose_spec.1.lt
theorem CD.len{f:Lit->Option Value}(h:CD w K b n c f)(i:prog.underlying t=an (.map K e))(a:TypeId):(Builtin.len_ #[t] a #[.map (an b)]).run prog w=.ok (Zg c) w:=by obtain⟨D,d,_,_,_,g⟩:=h;rw[<-g];exact d.len i a
theorem CD.put{f:Lit->Option Value}(h:CD w K b n c f)(p:Maps.Keyed prog K)(B:prog.underlying t=an (.map K e))(v:n<ew){k val:D4}{g:Lit}(a:keyOf prog K k=an g):
 ∃i,(Instr.mapUpdate t (.map (an b)) k val).run prog w=.ok () i/\CD i K b (n+1) (if (f g).isSome then c else c+1) (upd f g val)/\ep w i (an b):=by
 obtain⟨D,l,r,m,o,s⟩:=h;obtain⟨⟨i,A,y,u⟩,q,j⟩:=l.update p B v a (d:=.held val) (ps:=[]) (val:=val) rfl,l.isMap,p.key a;refine⟨i,A,⟨_,y,λx z=> ?_,λx=> ?_,o.put j _,?_⟩,u⟩
 .by_cases hx:x=g
  .subst hx;rw[Maps.atKey_put_same q j,DL];rfl
  rw[Maps.atKey_put_other hx,DG _ _ hx];exact r x z
 .by_cases hx:x=g
  .subst hx;rw[Maps.has_put_same q j,DL];rfl
  rw[Maps.has_put_other hx,DG _ _ hx];exact m x
 rw[Maps.size_put o,m,s]
theorem CD.bump{f:Lit->Option Value}(h:CD w K b n c f)(k:Maps.Keyed prog K)(l:prog.underlying t=an (.map K e))(y:n<ew)(v:∀u:Zh,(zeroValue e).run prog u=.ok z u){j:D4}{g:Lit}(a:keyOf prog K j=an g)(val:D4):
 ∃o d m,(Instr.mapEntry t (.map (an b)) j).run prog w=.ok (.tuple #[(f g).getD z,goInt o]) d/\(Instr.lookup t (.map (an b)) j bq).run prog w=.ok ((f g).getD z) w/\(Instr.lookup t (.map (an b)) j bq).run prog d=.ok ((f g).getD z) d/\
  (Instr.entryStore t (.map (an b)) (goInt o) val).run prog d=.ok () m/\CD m K b (n+1) (if (f g).isSome then c else c+1) (upd f g val)/\ep w d (an b)/\ep w m (an b):=by
 have s:=h;obtain⟨D,⟨P,clock,J,F,V,U⟩,Q,R,S,T⟩:=h;have⟨v0,o,d,L,x,M,H⟩:=TN k l v J F a;have p:=s.map.look k l (v w) a;rw[x]at p;cases p;obtain⟨⟨m,G,I⟩,N,r,C,A⟩:=H val,s.put k l y a (val:=(f g).getD z);rw[M]at r;cases r;obtain⟨O,i,E,B⟩:=s.put k l y a (val:=val);rw[I]at i;cases i;have q:=C.map.look k l (v d) a;rw[DL]at q;exact⟨o,d,m,L,x,q,G,E,A,B⟩
structure MK (ms:Zl) (f:Lit->Option Value) (c:Nat):Prop where
 has:∀l,(f l).isSome=bg↔l∈ms.map keyL
 R:∀l v,f l=an v->∃n:Int,v=Zg n/\1<=n/\n<=eh ms
 le:c<=eh ms
 all:c=eh ms↔(ms.map keyL).Nodup
theorem MK.nil:MK [] (λ_=>ba) 0:=⟨λl=>Yu,λl v h=>(by simp at h),Zx,Yu⟩
theorem MK.get{a:Zl}{f:Lit->Option Value}(h:MK a f c)(l:Lit):∃n:Int,(f l).getD Ze=Zg n/\0<=n/\n<=eh a/\(0<n↔l∈a.map keyL):=by
 cases hf:f l with
 |none=>refine⟨0,rfl,Int.le_refl _,Yv,?_⟩;have:=h.has l;rw[hf]at this;simp at this |-;exact this
 |some v=>obtain⟨n,rfl,d,b⟩:=h.R l v hf;have:=h.has l;rw[hf]at this;exact⟨n,rfl,Yv,b,⟨λ_=>this.1 rfl,λ_=>Yv⟩⟩
theorem MK.snoc{g:Zl}{f:Lit->Option Value}(h:MK g f c)(x:Zi){n:Int}(s:0<=n)(t:n<=eh g):
 MK (g++[x]) (upd f (keyL x) (Zg (n+1))) (if (f (keyL x)).isSome then c else c+1):=by
 have j:=h.has (keyL x);refine⟨λl=> ?_,λl v d=> ?_,?_,?_⟩
 .by_cases e:l=keyL x
  .subst e;rw[DL];simp
  rw[DG _ _ e,h.has l];simp only[map_append,map_cons,map_nil,Bw,mem_singleton];exact⟨λh=> dp h,λh=>h.resolve_right e⟩
 .by_cases e:l=keyL x
  .subst e;rw[DL]at d;cases d;exact⟨n+1,rfl,Yv,Yt⟩
  rw[DG _ _ e]at d;have⟨m,k,o,r⟩:=h.R l v d;exact⟨m,k,o,Yt⟩
 .have:=h.le;split<;>simp<;>omega
 have q:=h.le;have d:=h.all;rw[map_append,map_cons,map_nil,Am];by_cases hm:keyL x∈g.map keyL
 .rw[if_pos (j.2 hm)];constructor
  .intro e;simp at e;omega
  intro e;have:=(nodup_append.1 e).2.2 _ hm _ Yu rfl;cases this
 rw[if_neg (λe=>hm (j.1 e))];constructor
 .intro e;refine nodup_append.2 ⟨d.1 (by simp at e;omega),Yu,λa p b i e=> ?_⟩;simp at i;subst i;subst e;exact hm p
 intro e;have:=d.2 (nodup_append.1 e).1;simp;omega
theorem Jj{a:Int}(b:0<=a)(c:a<=2000000000):IntKind.i64.wrap a=a:=F0
theorem ZB(w:Zh):(zeroValue 3).run prog w=.ok Ze w:=Yr
end
structure Aw (W:Zh) where
 w:Zh
 h:bs W.1.size W w
theorem Aw.ne(W:Zh):Nonempty (Aw W):=⟨⟨W,Ae⟩⟩
theorem Aw.cell{o:Nat}(c:ek W (Zd b o)=an v)(a:b<W.1.size)(n:Aw W):ek n.w (Zd b o)=an v:=(n.h.cell (p:=⟨b,o,ba⟩) a).ag c
theorem Aw.size(n:Aw W):W.1.size<=n.w.1.size:=n.h.size
def Aw.next{W:Zh}(n:Aw W){w':Zh}(h:bs n.w.1.size n.w w'):Aw W:=⟨w',n.h.trans (h.mono n.h.size)⟩
theorem Sk{P:Program}{b:Array Oper}{Q:Exit->Act->Zh->Prop}{a:Act}(g:P.follows .mixedOrders=bg)(f:Region.lexB .any b=bg)(h:wpQuiet P b (λc=>∃n:Aw w,c=n.w) (λd=>∀n:Aw w,Q .normal d n.w) b.toList a):(Code.region i b bg).wp P Q a w:=by
 refine wp_region_quiet (C:=λc=>∃n:Aw w,c=n.w) g f ⟨⟨_,Ae.drew⟩,rfl⟩ ?_;have e:(λd=>∀c,(∃n:Aw w,c=n.w)->Q .normal d c)=(λd=>∀n:Aw w,Q .normal d n.w):=Yu;rw[e];exact h
theorem AP{P:Program}{l:List Oper}{e:Nat}{Q:Exit->Act->Zh->Prop}{a:Act}(d:P.follows .mixedOrders=bg)(c:Region.lexB .any (ei l)=bg)(h:wpQuiet P (ei l) (λf=>∃n:Aw w,f=n.w) (λb=>∀n:Aw w,Q .normal b n.w) l a):(Code.region e (ei l) bg).wp P Q a w:=
 Sk d c Yv
theorem Aw.calls{P:Program}{f:FuncId}{args:Array Value}{n:Aw W}(h:Calls P f args n.w λe b=>e=C5 v/\bs n.w.1.size n.w b):
 Calls P f args n.w λe a=>e=C5 v/\∃m:Aw W,a=m.w:=
 h.ai λ_ _ ⟨he,hb⟩=>⟨he,n.next hb,rfl⟩
theorem FT(t:Zi)(a:Zl)(b:Int):(AG t a b).size<=ew:=by
 unfold AG;split
 .rename_i h
  have h:=BC h;have c:=h.bn;have d:=h.i;have:(ByteArray.mk (ei (BX t a))).size=1+(bz a+t.size):=by show(ei (BX t a)).size=_;simp only[A0,BX,length_cons,Am,DK,Array.length_toList];show _+t.size+1=_;omega
  rw[this];unfold ew;omega
 simp[ew]
theorem wrap_small{a:Int}(b:0<=a)(c:a<=1048576):IntKind.i64.wrap a=a:=F0
theorem Sl(w:Zh)(n:Nat)(a:Addr):ek (w.drewN n) a=ek w a:=rfl
theorem Sm(w:Zh)(n:Nat):(w.drewN n).1.size=w.1.size:=rfl
def Adu(w:Zh)(wd:Int)(m:Nat)(ks:List Kd)(s:Zi):Prop:=
 ∃ok,(ok=bg↔AA ks s)/\∀w',Zz w w'->Calls prog 180 #[ct #[Zg wd,.map (an m)],.string s] w' fun e w''=>e=.returned (ef ok)/\Zz w' w''
def Av(P:Prop)(w0 w:Zh)(e:Ending):Prop:=∃b,e=.returned (ef b)/\(b=bg↔P)/\Zz w0 w
theorem Av.yes{P:Prop}(h:P)(b:Zz a w):Av P a w (.returned (ef bg)):=⟨_,rfl,D2 h,b⟩
theorem Av.no{P:Prop}(h:¬P)(b:Zz a w):Av P a w (.returned (ef bq)):=⟨_,rfl,D2 h,b⟩
theorem VQ{a:Int}(b:0<=a)(c:a<=2000000000):IntKind.i64.wrap a=a:=F0
theorem Jk(n:Int)(w:Zh):
 D8 27 #[Zg n] w λe a=>e=C5 (ef (bx (1<=n/\n<=8)))/\a=w:=by
 by_cases h1:1<=n
 .by_cases h2:n<=8
  .delta D8;go_in;go_wp2;go_ret;exact⟨AH Yt,rfl⟩
  have b:bx (n<=8)=bq:=Yt;delta D8;go_in;go_wp2;go_ret;exact⟨rfl,rfl⟩
 have a:bx (1<=n)=bq:=Yt;delta D8;go_in;go_wp2;go_ret;exact⟨rfl,rfl⟩
theorem Jl(k:Kd)(a:Int)(h:1<=a):((LM k a).size:Int)=a:=by
 have e:∀l:List Int,(strOfNums l).size=eh l:=λl=>by unfold strOfNums;simp[ByteArray.size]
 unfold LM Ds;rw[e,Dq];omega
theorem EX(n:Int)(w:Zh):
 D8 17 #[Zg n] w λe a=>e=C5 (ef (bx (1<=n/\n<=8)))/\a=w:=by
 by_cases h1:1<=n
 .by_cases h2:n<=8
  .delta D8;go_in;go_wp2;go_ret;exact⟨AH Yt,rfl⟩
  have b:bx (n<=8)=bq:=Yt;delta D8;go_in;go_wp2;go_ret;exact⟨rfl,rfl⟩
 have a:bx (1<=n)=bq:=Yt;delta D8;go_in;go_wp2;go_ret;exact⟨rfl,rfl⟩
theorem MN(s:Zi)(w:Zh):
 D8 93 #[C4 s] w λe a=>e=C5 (ct (Yk (kB s)))/\Zz w a:=IT s w
def Hz(s:Zi):Obj:=ca #[.int .u8 (kB s 0),.int .u8 (kB s 1),.int .u8 (kB s 2),.int .u8 (kB s 3),.int .u8 (kB s 4),.int .u8 (kB s 5),.int .u8 (kB s 6),.int .u8 (kB s 7)] 122
theorem R8.one(w:Zh)(s:Zi):R8 (w.alloc (Hz s)) (w.1.size+1) (Yz w.1.size 1 1) [s]:=by
 refine eb ⟨w.1.size,0,1,rfl,Yv,λi t a j b=> ?_⟩;cases i with
 |zero=>
  simp at a;subst a;rw[Nat.zero_mul,Ay,Ay];unfold Hz;rw[cell?_alloc_at _ _ _ _ rfl]
  match j,b with
  |0,_|1,_|2,_|3,_|4,_|5,_|6,_|7,_=>rfl
 |succ i=>simp at a
theorem Eo.alloc{a:Zl}(h:Eo w base v a)(o:Obj):Eo (w.alloc o) base v a:=h.A (Zy)
section
theorem Bb.block{f:Lit->Option Value}(h:Bb w K b n f)(g:w'.1[b]?=w.1[b]?):Bb w' K b n f:=by obtain⟨D,⟨a,clock,c,d⟩,e⟩:=h;exact⟨D,⟨a,clock,g.ag c,d⟩,e⟩
def Hi(E:List (Zi×Zi))(t:Zi):Zl:=E.filterMap (fun p=>if p.1=t then an p.2 else ba)
theorem Sn(E:List (Zi×Zi))(s r t:Zi):Hi (E++[(s,r)]) t=if s=t then Hi E t++[r]else Hi E t:=by unfold Hi;rw[filterMap_append];by_cases h:s=t<;>simp[h]
theorem TO(E:List (Zi×Zi))(t:Zi):eh (Hi E t)<=eh E:=by unfold Hi;exact length_filterMap_le _ _
noncomputable def rowV (f:Lit->Option Value) (t:Zi):Value:=(f (keyL t)).getD Zb
structure Lk (w:Zh) (base b n:Nat) (wd:Int) (E:List (Zi×Zi)) (av:List Nat) (f:Lit->Option Value):Prop where
 map:Bb w 122 b n f
 row:∀t:Zi,(t.size:Int)=wd->Eo w base (rowV f t) (Hi E t)
 apart:∀s t:Zi,(s.size:Int)=wd->(t.size:Int)=wd->s≠t->∀g,Al (rowV f s)=an g->Al (rowV f t)≠an g
 co:∀t:Zi,(t.size:Int)=wd->∀g,Al (rowV f t)=an g->g∉av
theorem Lk.ah{d:Zh}{e:Int}{E:List (Zi×Zi)}{a:List Nat}{f:Lit->Option Value}(h:Lk w base b n e E a f)(c:Zz w d):Lk d base b n e E a f:=
 ⟨h.map.ah c h.map.lt,λt g=>(h.row t g).A c,h.apart,h.co⟩
theorem Lk.add{wr:Zh}{B:Int}{E:List (Zi×Zi)}{F:List Nat}{f:Lit->Option Value}(h:Lk wr i b n B E F f)(hb:b<i)(zB:i<=wr.1.size)(H:∀q∈F,q<wr.1.size)(D:ep wr X (an b)){r:Zi}(w:(s.size:Int)=B)(h8:B<=8){T:TypeId}{N:Int}(Z:∀W,W.1[b]?=X.1[b]? ->∀a,∃c,(Instr.entryStore T (.map (an b)) (goInt N) a).run prog W=.ok () c/\Bb c 122 b (n+1) (upd f (keyL s) a)/\ep W c (an b)){M:D4}(hx:R8 X X.1.size M [r])(hlen:eh E<=1000000)(O:TypeId):
 ∃m o x,(Builtin.append_ #[101,101] O #[rowV f s,M]).run prog X=.ok m o/\(Instr.entryStore T (.map (an b)) (goInt N) m).run prog o=.ok () x/\
  Lk x i b (n+1) B (E++[(s,r)]) F (upd f (keyL s) m)/\bs b wr x/\(∀q∈F,q≠b->x.1[q]?=wr.1[q]? /\o.1[q]?=wr.1[q]?)/\wr.1.size<=x.1.size:=by
 have C:∀t:Zi,(t.size:Int)=B->∀g,Al (rowV f t)=an g->X.1[g]?=wr.1[g]?:=λt d g c=>by have:=(h.row t d).bh c;exact D.block g this.2 (λe=>Dl (A8 e))
 have K:∀t:Zi,(t.size:Int)=B->Eo X i (rowV f t) (Hi E t):=λt d=>(h.row t d).stays D.size (C t d);have zC:=TO E s;have zF:=D.size;have⟨m,o,W,L,y,S⟩:=YZ (K s w) hx Yt Yv O;have zE:=y.size;have P:o.1[b]?=X.1[b]?:=y.block b Yv (λe=>Dl ((h.row s w).bh e.symm).1);have⟨x,R,Q,z⟩:=Z o P m;have U:=z.size;have l:∀g,Al m=an g->(Al (rowV f s)=an g\/g=X.1.size):=λg a=>by
  rcases S with e|e
  .exact dp (e▸a)
  rw[e]at a;exact eb (A8 a).symm
 have j:rowV (upd f (keyL s) m) s=m:=by unfold rowV;rw[DL];rfl
 have a:∀t:Zi,(t.size:Int)=B->s≠t->rowV (upd f (keyL s) m) t=rowV f t:=λt d A=>by unfold rowV;rw[DG];intro e;exact A (key_inj e.symm Yv Yv)
 refine⟨m,o,x,W,R,⟨Q,λt d=> ?_,λu t G d A g p=> ?_,λt d g c=> ?_⟩,?_,λq I J=> ?_,Yv⟩
 .rw[Sn];by_cases e:s=t
  .subst e;rw[if_pos rfl,j];exact L.stays U (λg v=>by
    have:i<=g:=(L.bh v).1;exact z.block g (L.bh v).2 (λe=>Dl (A8 e)))
  rw[if_neg e,a t d e];refine(K t d).stays Yv (λg c=> ?_);have zA:=(h.row t d).bh c;rw[z.block g Yv (λe=>Dl (A8 e))];exact y.block g Yv (λv=>h.apart s t w d e g v.symm c)
 .by_cases eu:s=u
  .subst eu;rw[j]at p;rw[a t d A];intro c;rcases l g p with v|v
   .exact h.apart s t w d A g v c
   have:=((h.row t d).bh c).2;omega
  rw[a u G eu]at p;by_cases et:s=t
  .subst et;rw[j];intro c;rcases l g c with v|v
   .exact h.apart s u w G eu g v p
   have:=((h.row u G).bh p).2;omega
  rw[a t d et];exact h.apart u t G d A g p
 .by_cases et:s=t
  .subst et;rw[j]at c;rcases l g c with v|v
   .exact h.co s w g v
   intro p;have:=H g p;omega
  rw[a t d et]at c;exact h.co t d g c
 .have G:bs b wr X:=Ae.grown D Yv (λk e=>by cases e;exact Zx);have V:bs b X o:=Ae.grown y Yv (λk e=>Dl ((h.row s w).bh e).1);have Y:bs b o x:=Ae.grown z Yv (λk e=>by cases e;exact Zx);exact(G.ag V).ag Y
 have A:=H q I;have d:o.1[q]?=wr.1[q]?:=by rw[y.block q Yv (λe=>h.co s w q e.symm I),D.block q A (λe=>J (A8 e))]
 exact⟨(z.block q Yv (λe=>J (A8 e))).ag d,d⟩
theorem Lk.new{a:Nat}{d:Int}(c:Bb w 122 b 0 (λ_=>ba)):Lk w a b 0 d [] [] (λ_=>ba):=
 ⟨c,λ_ _=> dp ⟨rfl,rfl⟩,λ_ _ _ _ _ _ h=>(by cases h),λ_ _ _ h=>(by cases h)⟩
end
section
attribute [local go_sem↓] Go.wp_at_zero Go.wp_at_succ
theorem Aa.same{d:Zh}{l:Zj}(h:Aa w B l)(b:d.1[B]?=w.1[B]?):Aa d B l:=
 λj v c=>⟨(cell?_of_block (a:=⟨B,j,ba⟩) b).ag (h j v c).1,(frozen?_of_block (a:=⟨B,j,ba⟩) b).ag (h j v c).2⟩
theorem LQ(w:Zh)(o:Obj)(h:b<w.1.size):(w.alloc o).1[b]?=w.1[b]?:=Below.heap_alloc w o b h
theorem sk8(h:a.1[B]?=w.1[B]?)(b:Aa w B (Yj (kB s))):
 ek a (Zd B 0)=an (.int .u8 (kB s 0))/\ek a (Zd B 1)=an (.int .u8 (kB s 1))/\ek a (Zd B 2)=an (.int .u8 (kB s 2))/\ek a (Zd B 3)=an (.int .u8 (kB s 3))/\ek a (Zd B 4)=an (.int .u8 (kB s 4))/\ek a (Zd B 5)=an (.int .u8 (kB s 5))/\ek a (Zd B 6)=an (.int .u8 (kB s 6))/\ek a (Zd B 7)=an (.int .u8 (kB s 7)):=by
 have:=Aa.same b h;exact⟨(this 0 _ rfl).1,(this 1 _ rfl).1,(this 2 _ rfl).1,(this 3 _ rfl).1,(this 4 _ rfl).1,(this 5 _ rfl).1,(this 6 _ rfl).1,(this 7 _ rfl).1⟩
end
theorem Gm{e d c a:Int}{T:D4}(h:AW w b e d c a T P L):ek w (Zd b 0)=an (Zg e)/\ek w (Zd b 1)=an (Zg d)/\ek w (Zd b 2)=an (Zg c)/\ek w (Zd b 3)=an (Zg a)/\ek w (Zd b 4)=an T/\ek w (Zd b 5)=an P/\ek w (Zd b 6)=an L:=
 ⟨h.1,h.2.1,h.2.2.1,h.2.2.2.1,h.2.2.2.2.1,h.2.2.2.2.2.1,h.2.2.2.2.2.2.1⟩
def vB(d m:Nat)(O P L:Value):List Nat:=d::m::((ej O).toList++((ej P).toList++(ej L).toList))
def VR(base:Nat)(V:List Nat):Prop:=∃m,V[1]?=an m/\m<base+4
def Er(w:Zh)(base:Nat)(V:List Nat)(a:Zk)(ss:Zl):Prop:=
 ss=[]\/∃b off,a=an ⟨b,off,ba⟩/\b<w.1.size/\b∉V/\((b<base/\VR base V)\/(base<=b/\∃cur,w.1[b]?=an (ca cur 9)))/\∀i s,ss[i]?=an s->ek w (Zd b (off+i))=an (.string s)
theorem Er.row{a:Zk}{d:Zl}(h:Er w c V a d):Ab w w.1.size a d:=by
 rcases h with h|⟨b,e,f,g,_,_,i⟩
 .exact dp h
 exact eb ⟨b,e,f,g,i⟩
def BS(w:Zh)(base:Nat)(V:List Nat)(wd:Int)(ks:List Kd)(f:Lit->Option Value):Prop:=
 ∀s:Zi,(s.size:Int)=wd->(f (keyL s)=ba/\¬AA ks s)\/∃u ra rc,u∈ks/\u.sum=s/\f (keyL s)=an (Ep u ra rc)/\Er w base V ra u.D
theorem BS.of{k:Int}{j:C9}{f:Lit->Option Value}(h:Holds W W.1.size k j f)(g:Zz W w)(o:∀b∈V,W.1.size<=b)(t:VR W.1.size V):BS w W.1.size V k j f:=by
 intro s e;rcases h s e with h|⟨u,x,y,l,m,n,d⟩
 .exact dp h
 refine eb ⟨u,x,y,l,m,n,?_⟩;rcases d with d|⟨b,c,q,a,r⟩
 .exact dp d
 exact eb ⟨b,c,q,Zr a g.size,λv=>Dl (o b v),dp ⟨a,t⟩,λi s e=>(g.cell (p:=⟨b,c+i,ba⟩) a).ag (r i s e)⟩
structure Dr (w:Zh) (base d m:Nat) (O P L:Value) (wd now given births:Int) (ks:List Kd) (ps:List Pd) (ls:List Ld):Prop where
 box:Aa w d [Zg wd,.map (an m),Zg now,Zg given,Zg births,O,P,L]
 map:∃n f,n<=1000000+births.toNat/\Bb w 122 m n f/\BS w base (vB d m O P L) wd ks f
 ord:eo w base 122 8 O (eh ks) (AV (ks.map (·.sum)))
 de:eo w base 81 2 P (eh ps) (Ad pC ps)
 dh:eo w base 83 3 L (eh ls) (Ad lC ls)
 bd:base<=d
 bm:base<=m
 ap:(vB d m O P L).Nodup
theorem BS.A{k:Zh}{j:C9}{f:Lit->Option Value}(h:BS w base V l j f)(e:Zz w k):BS k base V l j f:=by
 intro s g;rcases h s g with h|⟨u,x,y,m,n,o,d⟩
 .exact dp h
 refine eb ⟨u,x,y,m,n,o,?_⟩;rcases d with d|⟨b,c,q,a,v,t,r⟩
 .exact dp d
 exact eb ⟨b,c,q,Zr a e.size,v,(by rw[e.block b a];exact t),λi s g=>(e.cell (p:=⟨b,c+i,ba⟩) a).ag (r i s g)⟩
theorem Ah{a:Nat}{size:Nat}{c:Zj}(h:eo w a e size v n c)(j:Zz w w'):eo w' a e size v n c:=by
 refine⟨h.1,?_⟩;rcases h.2 with k|⟨g,d,f,l,i,b,rest⟩
 .exact dp k
 exact eb ⟨g,d,f,l,i,(j.block g (A6.1 b).1).ag b,rest⟩
theorem Dr.A{l:Zh}{e b a:Int}{i:C9}{k:Db}{j:Da}(h:Dr w base d m O P L o e b a i k j)(c:Zz w l):Dr l base d m O P L o e b a i k j:=by have⟨n,f,p,g,q⟩:=h.map;exact⟨h.box.A c,⟨n,f,p,g.ah c g.lt,q.A c⟩,Ah h.ord c,Ah h.de c,Ah h.dh c,h.bd,h.bm,h.ap⟩
theorem Ac{a:Nat}{size:Nat}{f:Zj}(h:eo w a e size v n f)(b:ej v=an g):a<=g/\g<w.1.size:=by
 rcases h.2 with⟨rfl,_⟩|⟨k,i,j,rfl,d,c,_⟩
 .cases b
 cases b;exact⟨d,(A6.1 c).1⟩
theorem OW{b:Zh}{a:Nat}{size:Nat}{c:Zj}(h:eo w a e size v n c)(k:bs B w b)(j:∀g,ej v=an g->g<B):eo b a e size v n c:=by
 refine⟨h.1,?_⟩;rcases h.2 with m|⟨g,d,f,rfl,i,l,rest⟩
 .exact dp m
 exact eb ⟨g,d,f,rfl,i,(k.block g (j g rfl)).ag l,rest⟩
theorem Adv{a:Nat}(b:Zl)(y:eo w a 122 8 v (eh b) (AV b))(s:Zi)(x:eh b<=1000000)(k:a<=w.1.size)(l:TypeId):
 ∃g c f,(Builtin.append_ #[101,101] l #[v,Yz w.1.size 1 1]).run prog (w.alloc (Hz s))=.ok (Yz g (eh b+1) c) f/\eo f a 122 8 (Yz g (eh b+1) c) (eh (b++[s])) (AV (b++[s]))/\ep w f (ej v)/\(ej v=an g\/g=w.1.size+1):=by
 obtain⟨⟨A,t,n,o,p⟩,m,q⟩:=info_parts KD,Ah y (Ae.alloc (Zx) (Hz s)),R8.one w s;have i:∀j u,(AV [s])[j]?=an u->ek (w.alloc (Hz s)) ((⟨w.1.size,0,ba⟩:Addr).add j)=an u:=by
  rcases q with⟨e,_⟩|⟨g,B,c,e,_,i⟩
  .cases e
  cases e;exact R8.cells i
 obtain⟨C,f,z,h,r,_,d⟩:=run_append_own_at (P:=prog) (w.alloc (Hz s)) a 101 l 122 A _ 8 8 underlying101 t n o p rfl Yq v (eh b) (AV b) m ⟨w.1.size,0,ba⟩ 1 1 (AV [s]) (EU [s]) i (Hg [s]) Yo Yv Yt;obtain⟨g,c,rfl,_,_⟩:=BK h (λe=>by subst e;rcases h.2 with⟨_,x⟩|⟨_,_,_,e,_⟩<;>first|omega|cases e);refine⟨g,c,f,z,?_,(grownBy_alloc w (Hz s) _).ag r,?_⟩
 .rw[JL,Am];exact h
 rcases d with d|d
 .exact dp d.symm
 right;simpa [ownBlock]using d
def kC(x:Kd×Value):Zj:=[.string x.1.sum,Zg x.1.born,.string x.1.i,x.2]
theorem CB(x:Kd×Value):eh (kC x)=4:=rfl
structure Be (w:Zh) (base:Nat) (T P L:Value) (rs:Zj) (ks:List Kd) (ps:List Pd) (ls:List Ld):Prop where
 len:eh rs=eh ks
 ak:eo w base 78 4 T (eh ks) (Ad kC (ks.zip rs))
 D:∀(i:Nat) (k:Kd) (r:Value),ks[i]?=an k->rs[i]?=an r->eo w base 9 1 r (eh k.D) (k.D.map Value.string)
 pins:eo w base 81 2 P (eh ps) (Ad pC ps)
 ax:eo w base 83 3 L (eh ls) (Ad lC ls)
 nd:((T::P::L::rs).filterMap Value.ownBlock).Nodup
theorem BO(h:bs B w.drew a):bs B w a:=⟨h.os,h.tape,h.output,h.size,h.block⟩
theorem Au{size:Nat}{d:Zj}(h:eo w b e size v n d):∃a c,v=C3 a n c:=by
 rcases h.2 with⟨rfl,rfl⟩|⟨g,f,i,rfl,_⟩
 .exact⟨_,_,rfl⟩
 exact⟨_,_,rfl⟩
theorem BM{a:Nat}{size:Nat}{c:Zj}(h:eo w a e size v n c)(d:∀g,ej v=an g->g≠b)(j:Nat)(u:D4):eo (ev w (Zd b j) u) a e size v n c:=
 ownsRow.kept h (As w b j u) (eb (λe=>d b e rfl))
theorem d8{a i b c e j f g:D4}(h:Aa w d [a,i,b,c,e,j,f,g]):ek w (Zd d 0)=an a/\ek w (Zd d 2)=an b/\ek w (Zd d 3)=an c/\ek w (Zd d 4)=an e/\ek w (Zd d 6)=an f/\ek w (Zd d 7)=an g:=
 ⟨(h 0 _ rfl).1,(h 2 _ rfl).1,(h 3 _ rfl).1,(h 4 _ rfl).1,(h 6 _ rfl).1,(h 7 _ rfl).1⟩
def BP(T P L:Value)(rs:Zj):List Nat:=(ej T).toList++((ej P).toList++((ej L).toList++rs.filterMap Value.ownBlock))
theorem FG(T P L:D4)(a:Zj):(T::P::L::a).filterMap ownBlock=BP T P L a:=by unfold BP;cases hT:ej T<;>cases hP:ej P<;>cases hL:ej L<;>simp[hT,hP,hL]
theorem ZC{a P L:Option Nat}{R:List Nat}(h:(c::(T.toList++(P.toList++(L.toList++R)))).Nodup)(d:∀b∈c::(T.toList++(P.toList++(L.toList++R))),b<n)(f:∀g,r=an g->n<=g)(hT:a=T\/∃t,a=an t/\n<=t/\∀g,r=an g->g≠t):(c::(a.toList++(P.toList++(L.toList++(R++r.toList))))).Nodup:=by
 rcases hT with rfl|⟨t,rfl,i,e⟩
 .cases a<;>cases P<;>cases L<;>cases r<;>simp_all [List.nodup_append]<;>grind
 cases T<;>cases P<;>cases L<;>cases r<;>simp_all [List.nodup_append]<;>grind
theorem Nw{a:Nat}{P L:Option Nat}{R:List Nat}(h:(a::(T.toList++(P.toList++(L.toList++R)))).Nodup):
 (∀g,T=an g->g≠a)/\(∀g,P=an g->g≠a/\T≠an g)/\(∀g,L=an g->g≠a/\T≠an g)/\(∀g∈R,g≠a/\T≠an g):=by
 cases T<;>cases P<;>cases L<;>simp_all<;>grind
theorem Ar{a:Nat}{size:Nat}{b:Zj}(h:eo w a e size v n b)(k:∀g,ej v=an g->w'.1[g]?=w.1[g]?):eo w' a e size v n b:=by
 refine⟨h.1,?_⟩;rcases h.2 with j|⟨g,c,d,rfl,f,i,rest⟩
 .exact dp j
 exact eb ⟨g,c,d,rfl,f,(k g rfl).ag i,rest⟩
theorem Gs{c:C9}(b:(c.map (·.sum)).Nodup){u v:Kd}(d:u∈c)(e:v∈c)(h:u.sum=v.sum):u=v:=by
 induction c with
 |nil=>cases d
 |cons x xs ih=>
  simp only[map_cons,nodup_cons,mem_map,not_exists,not_and]at b;rcases Cf.1 d with a|a<;>rcases Cf.1 e with hv'|hv'
  .rw[a,hv']
  .exact absurd (a▸h.symm) (b.1 v hv')
  .exact absurd (hv'▸h) (b.1 u a)
  exact ih b.2 a hv'
def z7:Zj:=[Ze,Ze,Ze,Ze,Zb,Zb,Zb]
theorem Lu(h:Aa w b z7):(ek w (Zd b 0)=an Ze/\el w ⟨b,0,ba⟩=bq)/\(ek w (Zd b 1)=an Ze/\el w ⟨b,1,ba⟩=bq)/\(ek w (Zd b 2)=an Ze/\el w ⟨b,2,ba⟩=bq)/\(ek w (Zd b 3)=an Ze/\el w ⟨b,3,ba⟩=bq)/\(ek w (Zd b 4)=an Zb/\el w ⟨b,4,ba⟩=bq)/\(ek w (Zd b 5)=an Zb/\el w ⟨b,5,ba⟩=bq)/\(ek w (Zd b 6)=an Zb/\el w ⟨b,6,ba⟩=bq):=
 ⟨h 0 _ rfl,h 1 _ rfl,h 2 _ rfl,h 3 _ rfl,h 4 _ rfl,h 5 _ rfl,h 6 _ rfl⟩
theorem Abk(h:Aa w b z7)(a c d e f g i:D4):Aa (ev (ev (ev (ev (ev (ev (ev w (Zd b 0) a) (Zd b 1) c) (Zd b 2) d) (Zd b 3) e) (Zd b 4) f) (Zd b 5) g) (Zd b 6) i) b [a,c,d,e,f,g,i]:=
 (((((((h.set 0 a).set 1 c).set 2 d).set 3 e).set 4 f).set 5 g).set 6 i)
theorem Ia{size:Nat}{d:Zj}(h:eo w c e size v n d)(a:∀g,ej v=an g->g≠b)(f i j k l m o:D4):eo (ev (ev (ev (ev (ev (ev (ev w (Zd b 0) f) (Zd b 1) i) (Zd b 2) j) (Zd b 3) k) (Zd b 4) l) (Zd b 5) m) (Zd b 6) o) c e size v n d:=
 BM (BM (BM (BM (BM (BM (BM h a 0 _) a 1 _) a 2 _) a 3 _) a 4 _) a 5 _) a 6 _
theorem FU(h:bs B a w)(c:B<=b)(d e f g i j k:D4):bs B a (ev (ev (ev (ev (ev (ev (ev w (Zd b 0) d) (Zd b 1) e) (Zd b 2) f) (Zd b 3) g) (Zd b 4) i) (Zd b 5) j) (Zd b 6) k):=
 ((((((h.setCell c d).setCell c e).setCell c f).setCell c g).setCell c i).setCell c j).setCell c k
def TQ(b:Nat)(P L:Value):Prop:=(∀g,ej P=an g->g≠b)/\(∀g,ej L=an g->g≠b)/\(∀g,ej P=an g->ej L=an g->False)
theorem Iy(zJ d m:Nat)(O P L:D4)(wd R s c:Int)(p:C9)(z:Db)(t:Da)(w:Zh)(A:Dr w zJ d m O P L wd R s c p z t)(yY:(p.map (·.sum)).Nodup)(xD:∀k∈p,(k.sum.size:Int)=wd)(hk:eh p<=600)(hp:eh z<=100)(hl:eh t<=200)(yA:∀k∈p,eh k.D<=30):
 D8 34 #[Yy d] w λe a=>∃T B q Z,e=C5 (ct #[Zg wd,Zg R,Zg s,Zg c,T,B,q])/\Be a w.1.size T B q Z p z t/\Zz w a:=by
 obtain⟨pa,zP,rfl⟩:=Au A.de;obtain⟨la,zO,rfl⟩:=Au A.dh;obtain⟨oa,xJ,rfl⟩:=Au A.ord;obtain⟨HD,xS,W,D⟩:=Yw A,A.box.lt,D6 w Yi 30;have zU:=(Ax D).1;have E:=(Ax D).2.1;have G:Aa W w.1.size z7:=(Ax D).2.2;have zK:=Yw (A.A zU);have F:Hid (∀X,Zz W X->D8 59 #[C2 pa z zP] X λe a=>∃B C,e=C5 (C2 B z C)/\eo a X.1.size 81 2 (C2 B z C) (eh z) (Ad pC z)/\Zz X a):=
  λX J=>JY zP (AS.own (Ah zK.de J)) Yv
 have q:Hid (∀X,Zz W X->D8 60 #[C2 la t zO] X λe a=>∃B C,e=C5 (C2 B t C)/\eo a X.1.size 83 3 (C2 B t C) (eh t) (Ad lC t)/\Zz X a):=
  λX J=>IU zO (AR.own (Ah zK.dh J)) Yv
 have K:Hid (∀X,Zz W X->ek X (Zd d 0)=an (Zg wd)/\ek X (Zd d 2)=an (Zg R)/\ek X (Zd d 3)=an (Zg s)/\ek X (Zd d 4)=an (Zg c)/\ek X (Zd d 6)=an (C2 pa z zP)/\ek X (Zd d 7)=an (C2 la t zO)):=
  λX J=>d8 (zK.box.A J)
 have U:bs W.1.size W W.drew:=Ae.drew;have Y:∀o,Zz W (W.alloc o).drew:=λo=>(Zy).drew;obtain⟨B,b,zB⟩:=Yw D,Yw G,Yw E;clear A D G E;delta D8;go_in;go_upto_region 1 with fail;rw[<-B.o];clear B;go_cut [3] (λv D=>∃(C:Nat) (G A:Zk) (H B:Nat),v=Yy C/\Hid (Aa D C (Yh wd R s c ba 0 0 G (eh z) H A (eh t) B)/\eo D W.1.size 81 2 (C2 G z H) (eh z) (Ad pC z)/\eo D W.1.size 83 3 (C2 A t B) (eh t) (Ad lC t)/\TQ C (C2 G z H) (C2 A t B)/\W.1.size<=C/\Zz W D))
 case first=>
  go_region_held3 (λa=>ek a (Zd d 0)=an (Zg wd)/\ek a (Zd d 2)=an (Zg R)/\ek a (Zd d 3)=an (Zg s)/\ek a (Zd d 4)=an (Zg c)/\ek a (Zd d 6)=an (C2 pa z zP)/\ek a (Zd d 7)=an (C2 la t zO))
   (first
     |with_reducible exact K.o _ U
     |with_reducible exact K.o _ (Y _)
     |with_reducible exact K.o _ I
     |with_reducible exact K.o _ S
     |with_reducible exact K.o _ (I.alloc I.size _)
     |with_reducible exact K.o _ (S.alloc S.size _)
     |with_reducible exact K.o _ (FU S V _ _ _ _ _ _ _))
   (first
     |(go_at_call 59;guard_target=~D8 59 _ (drew (alloc W _)) _;refine(F (W.alloc (ca Yi 30)).drew (Y _)).ai ?_;rintro e D ⟨G,H,rfl,N,zA⟩;have I:bs W.1.size W D:=(Y _).ag (zA.ai Yu);have nA:Aa D W.1.size z7:=(Aa.A (w:=W.alloc (ca Yi 30)) (Aa.new W _ _) (BO zA)))
     |(go_at_call 59;guard_target=~D8 59 _ (drew W) _;refine(F W.drew U).ai ?_;rintro e D ⟨G,H,rfl,N,zA⟩;have I:bs W.1.size W D:=U.ag zA)
     |(go_at_call 60;have zX:=nA;refine(q D I).ai ?_;rintro e w2 ⟨A,B,rfl,Q,E⟩;have S:bs W.1.size W w2:=I.ag (E.ai I.size);have n2:Aa w2 W.1.size z7:=(Aa.A nA E);have V:W.1.size<=W.1.size:=Zx;have⟨⟨y0,q0⟩,⟨y1,q1⟩,⟨y2,q2⟩,⟨y3,q3⟩,⟨y4,q4⟩,⟨y5,q5⟩,y6,q6⟩:=Lu n2)
     |(go_at_call 60;guard_target=~D8 60 _ (alloc D _) _;refine(q (D.alloc (ca Yi 30)) (I.alloc I.size _)).ai ?_;rintro e w2 ⟨A,B,rfl,Q,E⟩;have S:bs W.1.size W w2:=(I.alloc I.size _).ag (E.ai (by have:=I.size;simp;omega));have nB:Aa w2 D.1.size z7:=(Aa.A (Aa.new D _ _) E);have V:W.1.size<=D.1.size:=I.size;have⟨⟨y0,q0⟩,⟨y1,q1⟩,⟨y2,q2⟩,⟨y3,q3⟩,⟨y4,q4⟩,⟨y5,q5⟩,y6,q6⟩:=Lu nB)
     |(go_at_call 60;refine(q D I).ai ?_;rintro e w2 ⟨A,B,rfl,Q,E⟩;have nC:=N;have S:bs W.1.size W w2:=I.ag (E.ai I.size)))
  all_goals (go_wp2_with fail;go_meet)
  all_goals first
   |(have zX:=nA
     have zz:=zB.o;have l1:∀g,ej (C2 G z H)=an g->W.1.size+1<=g/\g<D.1.size:=λg a=>by have:=Ac N a;simp at this;omega
     have l2:∀g,ej (C2 A t B)=an g->D.1.size<=g:=λg a=>(Ac Q a).1;have z1:W.1.size+1<=D.1.size:=by have:=zA.size;simp at this;omega
     exact⟨W.1.size,G,A,H,B,rfl,Abk n2 _ _ _ _ _ _ _,Ia (Ah (N.ai Yu) E) (λg a=>Dl (l1 g a)) _ _ _ _ _ _ _,Ia (Q.ai Yv) (λg a=>Dl (l2 g a)) _ _ _ _ _ _ _,⟨λg a=>Dl (l1 g a),λg a=>Dl (l2 g a),λg a M=>by have:=l1 g a;have:=l2 g M;omega⟩,Zx,FU S (Zx) _ _ _ _ _ _ _⟩)
   |(have zX:=nB
     have l1:∀g,ej (C2 G z H)=an g->W.1.size<=g/\g<D.1.size:=λg a=>by have:=Ac N a;simp at this;omega
     have l2:∀g,ej (C2 A t B)=an g->D.1.size+1<=g:=λg a=>by have:=(Ac Q a).1;simp at this;omega
     exact⟨D.1.size,G,A,H,B,rfl,Abk nB _ _ _ _ _ _ _,Ia (Ah (Ah (N.ai Yu) (Zy)) E) (λg a=>Dl (l1 g a)) _ _ _ _ _ _ _,Ia (Q.ai Yt) (λg a=>Dl (l2 g a)) _ _ _ _ _ _ _,⟨λg a=>Dl (l1 g a),λg a=>Dl (l2 g a),λg a M=>by have:=l1 g a;have:=l2 g M;omega⟩,V,FU S V _ _ _ _ _ _ _⟩)
   |(have zX:=nC
     have l1:∀g,ej (C2 G z H)=an g->W.1.size<=g/\g<D.1.size:=λg a=>by have:=Ac N a;simp at this;omega
     have l2:∀g,ej (C2 A t B)=an g->D.1.size<=g/\g<w2.1.size:=λg a=>Ac Q a;have z2:=E.size;exact⟨w2.1.size,G,A,H,B,rfl,Aa.new w2 _ _,Ah (Ah (N.ai Yu) E) (Zy),Ah (Q.ai I.size) (Zy),⟨λg a=>Dl (l1 g a),λg a=>Dl (l2 g a),λg a M=>by have:=l1 g a;have:=l2 g M;omega⟩,S.size,S.alloc S.size _⟩)
 revert wc;intro wN hcut;obtain⟨C,G,A,H,B,rfl,HC⟩:=hcut;have yG:Hid (Zz w wN):=zU.ag (HC.2.2.2.2.2.ai zU.size);have M:=(zK.box.A HC.2.2.2.2.2);obtain⟨e5,_⟩:=M 5 _ rfl;have zN:=HC.2.2.2.2.2.size;have xW:W.1.size<=C:=HC.2.2.2.2.1;have yL:Hid (Aa wN w.1.size z7):=Aa.A (v:=Ze) (l:=z7.tail) b HC.2.2.2.2.2;clear M F q K U Y b;go_wp2;go_loopw [40] (λi wr=>∃(k:Nat) (T:D4) (Z:Zj),k<=eh p/\i=Zg k/\Hid (Aa wr C [Zg wd,Zg R,Zg s,Zg c,T,C2 G z H,C2 A t B]/\Aa wr w.1.size z7/\eo wr W.1.size 78 4 T k (Ad kC ((p.take k).zip Z))/\eh Z=k/\(∀(i:Nat) (x:Kd) (r:D4),(p.take k)[i]?=an x->Z[i]?=an r->eo wr W.1.size 9 1 r (eh x.D) (x.D.map string))/\eo wr W.1.size 81 2 (C2 G z H) (eh z) (Ad pC z)/\eo wr W.1.size 83 3 (C2 A t B) (eh t) (Ad lC t)/\(C::BP T (C2 G z H) (C2 A t B) Z).Nodup)/\Zz w wr) (λi _=>eh p -(intOf i).toNat)
 case atStart=>
  refine⟨0,Zb,[],Aq _,rfl,⟨HC.1,yL,⟨rfl,dp ⟨rfl,rfl⟩⟩,rfl,λi x r q=>by simp at q,HC.2.1,HC.2.2.1,?_⟩,yG⟩;have h3:=HC.2.2.2.1;unfold TQ at h3;unfold BP;generalize ej (C2 G z H)=x1 at *
  generalize ej (C2 A t B)=x2 at *
  cases x1<;>cases x2<;>simp_all [ownBlock]<;>grind
 obtain⟨k,T,Z,xT,rfl,HI,F⟩:=hrel;by_cases hlt:k<eh p
 case neg=>
  obtain rfl:k=eh p:=Yv;have⟨i1,i2,Y,i4,i5,i6,i7,i8⟩:=HI.o;obtain⟨zW,⟨y0,q0⟩,⟨y1,q1⟩,⟨y2,q2⟩,⟨y3,q3⟩,⟨y4,q4⟩,⟨y5,q5⟩,y6,q6⟩:=zB.o,Lu i2;obtain⟨ta,tc,rfl⟩:=Au Y;obtain⟨x0,x1,x2,x3,x4,x5,x6⟩:=Aa.c7 i1 0 1 2 3 4 5 6;have xO:¬C=w.1.size:=Yv;have yE:¬w.1.size=C:=Yv;have x:=Yw (Zn i2 (Zn Y (Zn i4 (Zn i5 (Zn i6 (Zn i7 i8))))));clear i1 i2 Y i4 i5 i6 i7 i8 zW;go_wp2;have zW:=zB.o;have Y:∀{e:TypeId} {size:Nat} {v:D4} {n:Nat} {xs:Zj},eo wr W.1.size e size v n xs->eo (ev (ev (ev (ev (ev (ev (ev wr (Zd (w.1.size) 0) (Zg wd)) (Zd (w.1.size) 1) (Zg R)) (Zd (w.1.size) 2) (Zg s)) (Zd (w.1.size) 3) (Zg c)) (Zd (w.1.size) 4) (C2 ta p tc)) (Zd (w.1.size) 5) (C2 G z H)) (Zd (w.1.size) 6) (C2 A t B)) w.1.size e size v n xs:=λh=>ownsRow.ai (Ia h (λg a=>Dl (Ac h a).1) _ _ _ _ _ _ _) Yv;have yC:p.take (eh p)=p:=Zt (Zx);refine C1 (ct (C8 wd R s c ta p tc G z H A t B)) (by simp[results,results34,go_sem,y0,y1,y2,y3,y4,y5,y6]) ⟨_,_,_,Z,rfl,⟨x.2.2.1,?_,?_,Y x.2.2.2.2.1,Y x.2.2.2.2.2.1,?_⟩,FU F (Zx) _ _ _ _ _ _ _⟩
  .have:=x.2.1;rw[yC]at this;exact Y this
  .intro i y r hy K;exact Y (x.2.2.2.1 i y r (by rw[yC];exact hy) K)
  rw[FG];exact(nodup_cons.1 x.2.2.2.2.2.2).2
 obtain⟨n,f,hn,hM,hH⟩:=HD.map;have zV:=F.size;have ho:eo wr zJ 122 8 (C2 oa p xJ) (eh p) (AV (p.map (·.sum))):=OW HD.ord F (λg a=>(Ac HD.ord a).2);obtain⟨og,oc,yT,_,xU⟩:=BK ho (λe=>by injection e with _ h2 _;omega);cases yT;have K:p[k]∈p:=getElem_mem hlt;have xF:=xD _ K;have xP:=yA _ K;have h:(p.map (·.sum))[k]?=an p[k].sum:=by simp[hlt]
 have q:∀j,j<8->ek wr (Zd og (k *8+j))=an (.int .u8 (kB p[k].sum j)):=λj M=>(ho.cellAt _ Yv).ag (EV h M);have⟨M,rc,b,yI⟩:∃M rc,f (keyL p[k].sum)=an (Ep p[k] M rc)/\Hid (Ab w w.1.size M p[k].D):=by
  rcases hH _ xF with⟨_,yZ⟩|⟨u,M,rc,hu,xE,yV,xB⟩
  .exact absurd ⟨_,K,rfl⟩ yZ
  obtain rfl:=Gs yY hu K xE;exact⟨M,rc,yV,xB.row⟩
 have ig:∀X,Zz wr X->(Instr.lookup 98 (.map (an m)) (CA p[k].sum) bq).run prog X=.ok (Ep p[k] M rc) X:=λX J=>by have:=(hM.ah (F.ag (J.ai zV)) hM.lt).look keyed underlying98 (Lr _) (EF p[k].sum);rw[b]at this;exact this
 have dr:Aa wr d _:=Aa.A HD.box F;have y:=q 0 Yv;have yM:=q 1 Yv;have yN:=q 2 Yv;have yO:=q 3 Yv;have yP:=q 4 Yv;have yQ:=q 5 Yv;have yR:=q 6 Yv;have yS:=q 7 Yv;rw[Nat.add_zero]at y;have HX:Hid (p.take (k+1)=p.take k++[p[k]]):=Zu hlt;unfold CA Dg Ep at ig;clear ho q h hH b K hM;generalize p[k]=x at *
 have⟨q,K⟩:=D6 wr (Yk (kB x.sum)) 122;obtain⟨b,z1,K1⟩:=(Ax K).1,(Ax K).2.1,(Ax K).2.2;have h:Hid (∀X,Zz q X->ek X (Zd d 1)=an (.map (an m))/\(ek X (Zd (wr.1.size) 0)=an (.int .u8 (kB x.sum 0))/\ek X (Zd (wr.1.size) 1)=an (.int .u8 (kB x.sum 1))/\ek X (Zd (wr.1.size) 2)=an (.int .u8 (kB x.sum 2))/\ek X (Zd (wr.1.size) 3)=an (.int .u8 (kB x.sum 3))/\ek X (Zd (wr.1.size) 4)=an (.int .u8 (kB x.sum 4))/\ek X (Zd (wr.1.size) 5)=an (.int .u8 (kB x.sum 5))/\ek X (Zd (wr.1.size) 6)=an (.int .u8 (kB x.sum 6))/\ek X (Zd (wr.1.size) 7)=an (.int .u8 (kB x.sum 7)))/\(Instr.lookup 98 (.map (an m)) (ct (Yk (kB x.sum))) bq).run prog X=.ok (ct #[C4 x.sum,Zg x.born,C4 x.i,C2 M x.D rc]) X):=
  λX J=>⟨((dr.A (b.ag (J.ai b.size))) 1 _ rfl).1,sk8 (J.block _ Yv) K1,ig X (b.ag (J.ai b.size))⟩
 have U:bs q.1.size q q.drew:=Ae.drew;have Y:∀o,Zz q (q.alloc o).drew:=λo=>(Zy).drew;obtain⟨o,zE,yF⟩:=Yw K,Yw z1,Yw b;clear K z1 ig K1 b dr;go_upto_region 5 with fail;rw[<-o.o];clear o y yM yN yO yP yQ yR yS;go_region_held3 (λX=>ek X (Zd d 1)=an (.map (an m))/\(ek X (Zd (wr.1.size) 0)=an (.int .u8 (kB x.sum 0))/\ek X (Zd (wr.1.size) 1)=an (.int .u8 (kB x.sum 1))/\ek X (Zd (wr.1.size) 2)=an (.int .u8 (kB x.sum 2))/\ek X (Zd (wr.1.size) 3)=an (.int .u8 (kB x.sum 3))/\ek X (Zd (wr.1.size) 4)=an (.int .u8 (kB x.sum 4))/\ek X (Zd (wr.1.size) 5)=an (.int .u8 (kB x.sum 5))/\ek X (Zd (wr.1.size) 6)=an (.int .u8 (kB x.sum 6))/\ek X (Zd (wr.1.size) 7)=an (.int .u8 (kB x.sum 7)))/\(Instr.lookup 98 (.map (an m)) (ct (Yk (kB x.sum))) bq).run prog X=.ok (ct #[C4 x.sum,Zg x.born,C4 x.i,C2 M x.D rc]) X)
  (first|with_reducible exact h.o _ U|with_reducible exact h.o _ (Y _))
  (fail)
 all_goals
  clear h U Y;have⟨X,K⟩:=Ag ((q.alloc (ca #[C4 x.sum,Zg x.born,C4 x.i,C2 M x.D rc] 78)).drew);have b2:bs q.1.size q X:=by rw[K];exact(Zy).drew
  have z2:X.1.size=q.1.size+1:=by rw[K];simp
  have y:Aa X q.1.size [C4 x.sum,Zg x.born,C4 x.i,C2 M x.D rc]:=by rw[K];exact Aa.new q _ _
  have z1:=zE.o;have b:bs wr.1.size wr X:=yF.ag (b2.ai Yv);have R2:Ab X X.1.size M x.D:=Ab.ai (Ab.A yI (F.ag (b.ai zV))) Yv;rw[<-K];obtain⟨k3,_⟩:=y 3 _ rfl;have zS:=Yw z2;have xA:eh x.D<=1048576:=Yv;clear K z1 z2;go_wp2_with fail;refine(EL rc R2 xA).ai ?_;rintro e o ⟨a3,c3,rfl,h,K⟩;clear k3;have z1:=zE.o;have z2:=zS.o;have U:bs wr.1.size wr o:=b.ag (K.ai Yv);obtain⟨z3,⟨i1,i2,Y,i4,i5,i6,i7,i8⟩,zW⟩:=K.size,HI.o,zB.o;have S3:=Aa.A i1 U;obtain⟨ta,tc,rfl⟩:=Au Y;obtain⟨s4,f4⟩:=S3 4 _ rfl;have xC:C<wr.1.size:=i1.lt;have zZ:¬C=q.1.size:=Yv;have xN:¬q.1.size=C:=Yv;obtain⟨⟨k0,k1,k2⟩,⟨k3,g3⟩,yK⟩:=Aa.c3 (Aa.A y K) 0 1 2,Aa.A y K 3 _ rfl,Yw (Ah Y U);have zF:∀g,ej (C3 ta k tc)=an g->W.1.size<=g/\g<wr.1.size:=λg a=>Ac Y a;have zT:∀g,ej (C2 a3 x.D c3)=an g->X.1.size<=g/\g<o.1.size:=λg a=>Ac h a;obtain⟨yH,zI,yJ⟩:=Yw h,Yw U,Yw S3;have xQ:W.1.size<=o.1.size:=Yv
  obtain⟨i0,hi,xG,xH,xI⟩:=info_parts Hx;have yB:=Yw z3;clear y b2 b R2 i1 i2 Y i4 i5 i6 i7 i8 K h U S3 z1 z2 z3 zW;go_wp2_with (first
   |(at_builtin;refine wpList_append_own_at _ rfl _ _ 26 rfl W.1.size 78 i0 _ 4 64 underlying26 hi xG xH xI rfl Yq _ k (Ad kC ((p.take k).zip Z)) rfl ?d0 ⟨o.1.size,0,ba⟩ 1 1 (kC (x,C2 a3 x.D c3)) rfl rfl ?d2 ?d3 ?d4 ?d5 ?d6 ?_)
   |go_in)
  case d0=>exact Ah (BM yK (λg a=>by have:=zF g a;have:=zE.o;omega) 3 _) (Zy)
  case d2=>
   intro j u hu;rw[A7,Ay];have:=(Aa.new (ev o (Zd (q.1.size) 3) (C2 a3 x.D c3)) (kC (x,C2 a3 x.D c3)) 78) j u hu;simpa [kC]using this.1
  case d3=>
   intro u hu;simp[kC]at hu;rcases hu with rfl|rfl|rfl|rfl<;>rfl
  case d4=>unfold ew;omega
  case d5=>omega
  case d6=>simp;omega
  intro v4 w4 zC zH K zG;obtain⟨g4,c4,rfl,xK,xL⟩:=BK zC (λe=>by subst e;rcases zC.2 with⟨_,hn⟩|⟨_,_,_,e,_⟩<;>first|omega|cases e);have⟨i1,i2,Y,i4,i5,i6,i7,i8⟩:=HI.o;obtain⟨nf,z1,z2,z3,zW⟩:=Nw i8,zE.o,zS.o,yB.o,zB.o;have J:∀b,b<o.1.size->b≠q.1.size->ej (C3 ta k tc)≠an b->w4.1[b]?=o.1[b]?:=λb U zA E=>by rw[zH.block b Yt (λe=>E e.symm),Below.heap_alloc _ _ _ Yt,Below.heap_setCell _ _ _ _ (D2 zA)]
  have S4:=Aa.same yJ (J C Yv zZ (λe=>nf.1 _ e rfl));obtain⟨⟨_,xR⟩,xV,_⟩:=S4 4 _ rfl,S4 4 _ rfl;have xM:g4≠C:=by
   rcases zG with ha|ha
   .exact nf.1 g4 ha.symm
   simp[ownBlock]at ha;omega
  have HF:=Yw (Zn S4 (Zn J (Zn zC (Zn zG zH))));clear S4 J zC zG zH i1 i2 Y i4 i5 i6 i7 i8 nf z1 z2 z3 zW s4 f4 k0 k1 k2 k3 g3 K;go_wp2;obtain⟨⟨S4,J,zC,zG,zH⟩,i1,i2,Y,i4,i5,i6,i7,i8⟩:=HF.o,HI.o;obtain⟨nf,z1,z2,z3,zW⟩:=Nw i8,zE.o,zS.o,yB.o,zB.o;have hY:∀b,b<o.1.size->b≠q.1.size->b≠C->ej (C3 ta k tc)≠an b->(ev w4 (Zd C 4) (Yz g4 (k+1) c4)).1[b]?=o.1[b]?:=λb K h2 h3 h=>(Below.heap_setCell _ _ _ _ (D2 h3)).ag (J b K h2 h);have zM:∀b,b<wr.1.size->b≠C->ej (C3 ta k tc)≠an b->(ev w4 (Zd C 4) (Yz g4 (k+1) c4)).1[b]?=wr.1[b]?:=λb K h3 h=>(hY b Yv Yv h3 h).ag (zI.block b K);have yD:∀r∈Z,∀g,ej r=an g->g<wr.1.size:=by
   intro r K g a;have⟨i,hi⟩:=A9 K;have yX:i<k:=Dl (Zw hi).1;exact(Ac (i5 i _ r (by rw[getElem?_take_of_lt yX];exact Zv Yv) hi) a).2
  refine⟨⟨k+1,Yz g4 (k+1) c4,Z++[C2 a3 x.D c3],Yv,Yn,⟨Aa.set S4 4 _,?_,?_,?_,?_,?_,?_,?_⟩,?_⟩,Ys⟩
  .exact Aa.same i2 (zM w.1.size Yv Yv (λe=>Dl (zF _ e).1))
  .rw[HX.o,zip_append (by rw[i4,C0];omega),Cd];exact BM zC (λg a=>by simp[ownBlock]at a;omega) 4 _
  .simp[i4]
  .intro i y r hy K;rw[HX.o]at hy;have zY:eh (p.take k)=k:=N2;rcases Cg i k with h|h
   .rw[getElem?_append_left Yv]at hy K;refine Ar (i5 i y r hy K) (λg a=> ?_);have:=nf.2.2.2 g (mem_filterMap.2 ⟨r,Zs K,a⟩);exact zM g (yD r (Zs K) g a) this.1 this.2
   have yW:i=k:=(by have:=(Zw K).1;simp at this;omega);subst yW;rw[getElem?_append_right Yv,zY,Nat.sub_self]at hy;rw[getElem?_append_right Yv,i4,Nat.sub_self]at K;simp at hy K;subst hy;subst K;refine Ar (ownsRow.ai yH Yv) (λg a=> ?_);have:=zT g a;exact hY g this.2 Yv Yv (λe=>Dl (zF g e).2)
  .exact Ar i6 (λg a=>zM g (Ac i6 a).2 (nf.2.1 g a).1 (nf.2.1 g a).2)
  .exact Ar i7 (λg a=>zM g (Ac i7 a).2 (nf.2.2.1 g a).1 (nf.2.2.1 g a).2)
  .unfold BP;rw[filterMap_append];have yU:filterMap ownBlock [C2 a3 x.D c3]=(ej (C2 a3 x.D c3)).toList:=(by cases h:ej (C2 a3 x.D c3)<;>simp[h]);rw[yU];refine ZC (n:=wr.1.size) i8 ?_ (λg a=>Dl (zT g a).1) ?_
   .intro b U;simp only[Cf,Bw,By,mem_filterMap]at U;rcases U with rfl|U|U|U|⟨r,K,U⟩
    .exact xC
    .exact(zF _ U).2
    .exact(Ac i6 U).2
    .exact(Ac i7 U).2
    exact yD r K b U
   rcases zG with ha|ha
   .exact dp ha
   refine eb ⟨o.1.size+1,D2 ha,Yv,λg a=>Dl (zT g a).2⟩
  have hq:bs w.1.size w o:=F.ag (zI.ai zV);exact(((hq.setCell Yt _).alloc Yt _).grown zH Yt (λg a=>Dl (zF g a).1)).setCell Yt _
def kI(s:Zi):List Int:=[kB s 0,kB s 1,kB s 2,kB s 3,kB s 4,kB s 5,kB s 6,kB s 7]
def Fy(s t:Zi):Int:=Lib.compareBytes (Lib.bytesOf (kI s)) (Lib.bytesOf (kI t))
theorem ZD(x:List UInt8):Lib.compareBytes x x=0:=by
 induction x with
 |nil=>rfl
 |cons a x ih=>unfold Lib.compareBytes;simp[ih,UInt8.lt_irrefl]
theorem OZ(z:List UInt8):∀(x y:List UInt8),eh x=eh y->Lib.compareBytes (x++z) (y++z)=Lib.compareBytes x y
 |[],[],_=>by rw[nil_append,ZD];rfl
 |a::x,b::y,h=>by have c:=OZ z x y (D2 h);show Lib.compareBytes (a::(x++z)) (b::(y++z))=_;unfold Lib.compareBytes;rw[c]
theorem TR:∀(x y:List UInt8),eh x=eh y->(Lib.compareBytes x y<0↔x<y)
 |[],[],_=>by simp[Lib.compareBytes]
 |a::x,b::y,h=>by
  have c:=TR x y (D2 h);unfold Lib.compareBytes;rw[cons_lt_cons_iff,<-c];by_cases h1:a<b
  .simp[h1]
  by_cases h2:b<a
  .have:¬a=b:=λe=>by subst e;exact absurd h2 (UInt8.lt_irrefl _)
   simp[h1,h2,this]
  have:a=b:=UInt8.le_antisymm (UInt8.not_lt.1 h2) (UInt8.not_lt.1 h1);simp[this]
theorem Ru:∀(x y:List UInt8),eh x=eh y->(Lib.compareBytes x y=0↔x=y)
 |[],[],_=>by simp[Lib.compareBytes]
 |a::x,b::y,h=>by
  have c:=Ru x y (D2 h);unfold Lib.compareBytes;by_cases h1:a<b
  .have:¬a=b:=λe=>by subst e;exact absurd h1 (UInt8.lt_irrefl _)
   simp[h1,this]
  by_cases h2:b<a
  .have:¬a=b:=λe=>by subst e;exact absurd h2 (UInt8.lt_irrefl _)
   simp[h1,h2,this]
  have:a=b:=UInt8.le_antisymm (UInt8.not_lt.1 h2) (UInt8.not_lt.1 h1);simp[this,c]
theorem LR(s:Zi)(h:s.size<=8):Lib.bytesOf (kI s)=s.data.toList++replicate (8 -s.size) 0:=by
 have c:=CF s;have b:∀i,(kB s i).toNat.toUInt8=(s.data.toList[i]?).getD 0:=λi=>by unfold kB;simp
 unfold kI Lib.bytesOf;simp only[map_cons,map_nil,b];apply ext_getElem?;intro i;rw[getElem?_append];rw[c];rcases Cg i 8 with a|a
 .have e:([(s.data.toList[0]?).getD 0,(s.data.toList[1]?).getD 0,(s.data.toList[2]?).getD 0,(s.data.toList[3]?).getD 0,(s.data.toList[4]?).getD 0,(s.data.toList[5]?).getD 0,(s.data.toList[6]?).getD 0,(s.data.toList[7]?).getD 0]:List UInt8)[i]?=an ((s.data.toList[i]?).getD 0):=by rcases(show i=0\/i=1\/i=2\/i=3\/i=4\/i=5\/i=6\/i=7 by omega)with rfl|rfl|rfl|rfl|rfl|rfl|rfl|rfl<;>rfl
  rw[e];by_cases hi:i<s.size
  .rw[if_pos hi,Zv Yv];rfl
  rw[if_neg hi,getElem?_eq_none Yv,getElem?_replicate,if_pos Yv];rfl
 rw[getElem?_eq_none Yt,if_neg Yv,getElem?_eq_none Yt]
theorem VS{t:Zi}(b:s.size<=8)(a:t.size=s.size):Fy s t<0↔less s t=bg:=by unfold Fy less;rw[LR s b,LR t Yv,a,OZ _ _ _ (by rw[CF,CF,a]),TR _ _ (by rw[CF,CF,a]),ByteArray.toList_eq,ByteArray.toList_eq,OS]
theorem TT{t:Zi}(a:s.size<=8)(b:t.size=s.size):Fy s t=0↔s=t:=by
 unfold Fy;rw[LR s a,LR t Yv,b,OZ _ _ _ Yt,Ru _ _ Yt];constructor
 .intro h;exact toList_inj (by rw[ByteArray.toList_eq,ByteArray.toList_eq];exact h)
 rintro rfl;rfl
theorem Pa(h:Aa w b (Bt s)):∀j x,(kI s)[j]?=an x->ek w ((⟨b,0,ba⟩:Addr).add j)=an (.int .u8 x):=by intro j x a;rw[A7,Ay];have c:j<8:=(Zw a).1;refine(h j (.int .u8 x) ?_).1;unfold Bt Dg;unfold kI at a;rcases(show j=0\/j=1\/j=2\/j=3\/j=4\/j=5\/j=6\/j=7 by omega)with rfl|rfl|rfl|rfl|rfl|rfl|rfl|rfl<;>(simp at a;subst a;rfl)
theorem QF{a:Nat}(s t:Zi)(f:Aa w a (Bt s))(g:Aa w b (Bt t)):
 (callFunc 212 #[Yz a 8 8,Yz b 8 8]).run prog w=.ok (.value (Zg (Fy s t))) w:=by
 rw[run_callFunc_extern (fn:=f212) (e:=Extern.BytealgCompare.compare) func212 Yr Yr Yr Yr];have c:=Lib.run_loadBytesX (P:=prog) w (kI s) ⟨a,0,ba⟩ .empty (Pa f);have d:=Lib.run_loadBytesX (P:=prog) w (kI t) ⟨b,0,ba⟩ .empty (Pa g);have h:∀l:List UInt8,(⟨ByteArray.empty.data++ei l⟩:Zi)=⟨ei l⟩:=λl=>by apply ByteArray.ext;show(#[]:Array UInt8)++ei l=ei l;simp
 rw[h]at c d;change (Sem.run prog (do pure (goInt (Extern.BytealgCompare.cmp (<-Extern.Bytes.bytesOf (Yz a 8 8)) (<-Extern.Bytes.bytesOf (Yz b 8 8))))) w).andThen _=_;simp only[Extern.Bytes.bytesOf,Sem.run_bind,Sem.run_pure];rw[show(8:Nat)=eh (kI s) from rfl,c];rw[Result.andThen_ok,show eh (kI s)=eh (kI t) from rfl,d];simp only[Result.andThen];rw[Lib.cmp_eq];rfl
theorem Lv(w:Zh)(a b:Nat)(s t:Zi)(c:Aa w a (Bt s))(d:Aa w b (Bt t)):
 D8 198 #[Yz a 8 8,Yz b 8 8] w λe f=>e=C5 (Zg (Fy s t))/\f=w:=by
 have f:=QF s t c d;clear c d;delta D8;go_in;go_wp2;go_ret;exact⟨rfl,rfl⟩
theorem LS(s t:Zi)(w:Zh):
 D8 197 #[CA s,CA t] w λe a=>e=C5 (Zg (Fy s t))/\Zz w a:=by
 have⟨W,a⟩:=Ag ((w.alloc (ca (Yk (kB s)) 122)).alloc (ca (Yk (kB t)) 122));have g:=(AQ a).1;have d:Aa W w.1.size (Bt s):=by rw[a];exact Aa.A (v:=.int .u8 (kB s 0)) (Aa.new w (Bt s) 122) (Zy)
 have f:Aa W (w.1.size+1) (Bt t):=by have:=Aa.new (w.alloc (ca (Yk (kB s)) 122)) (Bt t) 122;rw[Ao]at this;rw[a];exact this
 have b:=Yw (Za d f);have c:=Yw a;clear a d f;unfold CA Dg;delta D8;go_in;go_upto_region 1 with fail;rw[<-c.o];clear c;go_region_with (go_at_call 198;refine(Lv W.drew w.1.size (w.1.size+1) s t b.1 b.2).ai ?_;rintro e a ⟨rfl,rfl⟩)
 all_goals
  go_wp2;go_ret;exact⟨rfl,g.drew⟩
structure FH (ss:Zl) (s:Zi) (i:Nat):Prop where
 le:i<=eh ss
 lo:∀j x,j<i->ss[j]?=an x->less x s=bg
 hi:∀j x,i<=j->ss[j]?=an x->less x s=bq
theorem ZE{a:Zl}(f:eo w b 122 8 (Yz g (eh a) d) (eh a) (AV a))(c:a[k]?=an s):∀j,j<8->ek w (Zd g (k *8+j))=an (.int .u8 (kB s j)):=fun j e=>by have:=(Zw c).1;exact(f.cellAt _ Yv).trans (EV c e)
theorem Abl{a:Zl}(d:eo w b 122 8 (Yz g (eh a) c) (eh a) (AV a))(e:a[k]?=an s):
 ek w (Zd g (k *8))=an (.int .u8 (kB s 0))/\ek w (Zd g (k *8+1))=an (.int .u8 (kB s 1))/\ek w (Zd g (k *8+2))=an (.int .u8 (kB s 2))/\ek w (Zd g (k *8+3))=an (.int .u8 (kB s 3))/\ek w (Zd g (k *8+4))=an (.int .u8 (kB s 4))/\ek w (Zd g (k *8+5))=an (.int .u8 (kB s 5))/\ek w (Zd g (k *8+6))=an (.int .u8 (kB s 6))/\ek w (Zd g (k *8+7))=an (.int .u8 (kB s 7)):=
 have h:=ZE d e
 ⟨D2 (h 0 Yq),h 1 Yq,h 2 Yq,h 3 Yq,h 4 Yq,h 5 Yq,h 6 Yq,h 7 Yq⟩
theorem Ib(h:Aa w g (Bt s)):
 ek w (Zd g 0)=an (.int .u8 (kB s 0))/\ek w (Zd g 1)=an (.int .u8 (kB s 1))/\ek w (Zd g 2)=an (.int .u8 (kB s 2))/\ek w (Zd g 3)=an (.int .u8 (kB s 3))/\ek w (Zd g 4)=an (.int .u8 (kB s 4))/\ek w (Zd g 5)=an (.int .u8 (kB s 5))/\ek w (Zd g 6)=an (.int .u8 (kB s 6))/\ek w (Zd g 7)=an (.int .u8 (kB s 7)):=
 ⟨(h 0 _ rfl).1,(h 1 _ rfl).1,(h 2 _ rfl).1,(h 3 _ rfl).1,(h 4 _ rfl).1,(h 5 _ rfl).1,(h 6 _ rfl).1,(h 7 _ rfl).1⟩
theorem LW(g zE:Nat){f:Zl}(s:Zi){w:Zh}{zC:Nat}(l:eo w zC 122 8 (C3 (an ⟨g,0,ba⟩) (eh f) zE) (eh f) (AV f))(hl:eh f<=600)(zO:s.size<=8)(zH:∀x∈f,x.size=s.size)(n:f.Pairwise (λa b=>less a b=bg)):
 D8 196 #[C3 (an ⟨g,0,ba⟩) (eh f) zE,CA s,.func (.func 197) #[] #[]] w λe w'=>∃i:Nat,e=C5 (.tuple #[Zg i,ef (bx (f[i]?=an s))])/\FH f s i/\Zz w w':=by
 unfold CA Dg;obtain⟨zM,W,c⟩:=(Ac l rfl).2,D6 w (Yk (kB s)) 122;have N:=(Ax c).1;have k:Aa W w.1.size (Bt s):=by rw[c];exact Aa.new w (Bt s) 122
 have d:=Ah l N;have o:Hid _:=c;have HO:Hid _:=d;have HC:Hid _:=k;have zP:=Aa.lt (v:=.int .u8 (kB s 0)) k;clear c d k l;delta D8;go_in;go_upto_region 1 with fail;rw[<-o.o];clear o;have c:=enters_of func197 Yr rfl;go_wp2;go_loopw [9,10] (λi j wr=>∃d k:Nat,i=Zg d/\j=Zg k/\d<=k/\k<=eh f/\Hid ((∀j x,j<d->f[j]?=an x->less x s=bg)/\(∀j x,k<=j->f[j]?=an x->less x s=bq))/\Zz W wr) (λi j _=>(intOf j).toNat -(intOf i).toNat)
 case atStart=>exact⟨0,eh f,rfl,rfl,Aq _,Zx,⟨λj x h=>Yv,λj x h c=>Dl (Zw c).1⟩,Ae⟩
 obtain⟨d,k,rfl,rfl,zN,zF,HI,c⟩:=hrel;have q:=c.size;by_cases hlt:d<k
 .have O:(d+k)/2<eh f:=Yv;have o:Hid _:=Zv O;have zK:=zH _ (getElem_mem O);generalize f[(d+k)/2]=x at *
  obtain⟨⟨r0,P,Q,R,S,T,r6,U⟩,V,X,Y,Z,a,b,i,t7⟩:=Abl (Ah HO c) o,Ib (Aa.A (v:=.int .u8 (kB s 0)) HC c);have r:=Aw.cell r0 (show g<wr.1.size by omega);have u:=Aw.cell P (show g<wr.1.size by omega);have z:=Aw.cell Q (show g<wr.1.size by omega);have A:=Aw.cell R (show g<wr.1.size by omega);have B:=Aw.cell S (show g<wr.1.size by omega);have C:=Aw.cell T (show g<wr.1.size by omega);have D:=Aw.cell r6 (show g<wr.1.size by omega);have E:=Aw.cell U (show g<wr.1.size by omega);have F:=Aw.cell V (show w.1.size<wr.1.size by omega);have G:=Aw.cell X (show w.1.size<wr.1.size by omega);have H:=Aw.cell Y (show w.1.size<wr.1.size by omega);have I:=Aw.cell Z (show w.1.size<wr.1.size by omega);have J:=Aw.cell a (show w.1.size<wr.1.size by omega);have K:=Aw.cell b (show w.1.size<wr.1.size by omega);have L:=Aw.cell i (show w.1.size<wr.1.size by omega);have M:=Aw.cell t7 (show w.1.size<wr.1.size by omega);have zG:=Aw.ne wr;have l:Hid (∀m:Aw wr,D8 197 #[ct (Yk (kB x)),ct (Yk (kB s))] m.w λe w'=>e=C5 (Zg (Fy x s))/\bs m.w.1.size m.w w'):=λm=>LS x s m.w;clear r0 P Q R S T r6 U V X Y Z a b i t7;have zA:Hid _:=VS (s:=x) (t:=s) Yv Yv;by_cases hc:Fy x s<0
  .have hd:bx (Fy x s<0)=bg:=Yt;go_wp2;refine AP Yr Yr ?_
   repeat (go_big_quiet_step (exact Aw.calls (l _)))
   refine wpQuiet_nil ?_;intro m;clear r u z A B C D E F G H I J K L M l;go_wp2;refine⟨⟨(d+k)/2+1,k,Yn,rfl,Yv,zF,⟨?_,HI.2⟩,c.ag (m.h.ai q)⟩,Ys⟩;intro j y hj p;rcases Cg j ((d+k)/2)with h|h
   .have:=pairwise_iff_getElem.1 n j ((d+k)/2) Yv O h;obtain⟨_,rfl⟩:=Zw p;have⟨_,e⟩:=Zw o;rw[e]at this;exact Cx this (zA.1 hc)
   obtain rfl:j=(d+k)/2:=Yv;rw[o.o]at p;cases p;exact zA.1 hc
  have hd:bx (Fy x s<0)=bq:=Yt;have zI:Hid _:=hc;clear hc;go_wp2;refine AP Yr Yr ?_
  repeat (go_big_quiet_step (exact Aw.calls (l _)))
  refine wpQuiet_nil ?_;intro m;clear r u z A B C D E F G H I J K L M l;go_wp2;refine⟨⟨d,(d+k)/2,rfl,Yn,Yv,Yv,⟨HI.1,?_⟩,c.ag (m.h.ai q)⟩,Ys⟩;have zB:less x s=bq:=by
   cases h:less x s with
   |false=>rfl
   |true=>exact absurd (zA.2 h) zI
  intro j y hj p;rcases Cg ((d+k)/2) j with h|h
  .have zJ:=(Zw p).1;have:=pairwise_iff_getElem.1 n ((d+k)/2) j O zJ h;obtain⟨_,rfl⟩:=Zw p;have⟨_,e⟩:=Zw o;rw[e]at this;cases h':less f[j] s with
   |false=>rfl
   |true=>rw[Cx this h']at zB;cases zB
  obtain rfl:j=(d+k)/2:=Yv;rw[o.o]at p;cases p;exact zB
 obtain rfl:d=k:=Yv;have HP:Hid (FH f s d):=⟨zF,HI.1,HI.2⟩;by_cases hn:d<eh f
 case neg=>
  have zG:=Aw.ne wr;go_wp2;refine AP Yr Yr ?_
  repeat (go_big_quiet_step (fail))
  refine wpQuiet_nil ?_;intro m;go_wp2
  go_ret2
  refine⟨d,?_,HP,N.ag ((c.ag (m.h.ai q)).ai N.size)⟩;rw[getElem?_eq_none Yv,decide_eq_false Yu];rfl
 have o:Hid _:=Zv hn;have zK:=zH _ (getElem_mem hn);generalize f[d]=x at *
 obtain⟨⟨r0,P,Q,R,S,T,r6,U⟩,V,X,Y,Z,a,b,i,t7⟩:=Abl (Ah HO c) o,Ib (Aa.A (v:=.int .u8 (kB s 0)) HC c);have r:=Aw.cell r0 (show g<wr.1.size by omega);have u:=Aw.cell P (show g<wr.1.size by omega);have z:=Aw.cell Q (show g<wr.1.size by omega);have A:=Aw.cell R (show g<wr.1.size by omega);have B:=Aw.cell S (show g<wr.1.size by omega);have C:=Aw.cell T (show g<wr.1.size by omega);have D:=Aw.cell r6 (show g<wr.1.size by omega);have E:=Aw.cell U (show g<wr.1.size by omega);have F:=Aw.cell V (show w.1.size<wr.1.size by omega);have G:=Aw.cell X (show w.1.size<wr.1.size by omega);have H:=Aw.cell Y (show w.1.size<wr.1.size by omega);have I:=Aw.cell Z (show w.1.size<wr.1.size by omega);have J:=Aw.cell a (show w.1.size<wr.1.size by omega);have K:=Aw.cell b (show w.1.size<wr.1.size by omega);have L:=Aw.cell i (show w.1.size<wr.1.size by omega);have M:=Aw.cell t7 (show w.1.size<wr.1.size by omega);have zG:=Aw.ne wr;have l:Hid (∀m:Aw wr,D8 197 #[ct (Yk (kB x)),ct (Yk (kB s))] m.w λe w'=>e=C5 (Zg (Fy x s))/\bs m.w.1.size m.w w'):=λm=>LS x s m.w;clear r0 P Q R S T r6 U V X Y Z a b i t7;have P:Hid _:=TT (s:=x) (t:=s) Yv Yv;by_cases hc:Fy x s=0
 .have hd:(Fy x s==0)=bg:=Yt;go_wp2;refine AP Yr Yr ?_
  repeat (go_big_quiet_step (exact Aw.calls (l _)))
  refine wpQuiet_nil ?_;intro m;clear r u z A B C D E F G H I J K L M l;go_wp2
  go_ret2
  refine⟨d,?_,HP,N.ag ((c.ag (m.h.ai q)).ai N.size)⟩;rw[o.o,P.1 hc,decide_eq_true rfl];rfl
 have hd:(Fy x s==0)=bq:=Yt;go_wp2;refine AP Yr Yr ?_
 repeat (go_big_quiet_step (exact Aw.calls (l _)))
 refine wpQuiet_nil ?_;intro m;clear r u z A B C D E F G H I J K L M l;go_wp2
 go_ret2
 refine⟨d,?_,HP,N.ag ((c.ag (m.h.ai q)).ai N.size)⟩;rw[o.o,decide_eq_false (λe=>hc (P.2 (A8 e)))];rfl
section
open Go.WideElems Go.MapKept Go.ChangeMaps
open Classical in
noncomputable def gi (f:Lit->Option Value) (kl:Lit):Lit->Option Value:=fun x=>if x=kl then ba else f x
theorem Bb.del{f:Lit->Option Value}(h:Bb w K b n f)(p:Maps.Keyed prog K)(u:prog.underlying t=an (.map K e)){j:D4}{a:Lit}(d:keyOf prog K j=an a)(k:TypeId):
 ∃c,(Builtin.delete_ #[t,K] k #[.map (an b),j]).run prog w=.ok (.tuple #[]) c/\Bb c K b n (gi f a)/\ep w c (an b):=by
 obtain⟨D,l,m,o⟩:=h;obtain⟨c,s,r,y,clock,v,g,A,rfl⟩:=l.drop p u d k;refine⟨_,s,⟨_,r,λx z=> ?_,λx=> ?_⟩,?_⟩
 .by_cases hx:x=a
  .subst hx;rw[Maps.atKey_del_same];simp[gi]
  rw[Maps.atKey_del_other hx,m];simp[gi,hx]
 .by_cases hx:x=a
  .subst hx;rw[Maps.has_del_same];simp[gi]
  rw[Maps.has_del_other hx,o];simp[gi,hx]
 refine⟨rfl,rfl,rfl,by simp[setBlock],λi _ q=> ?_⟩;simp only[setBlock];rw[Array.getElem?_setIfInBounds_ne (λe=>q (by rw[e]))]
theorem Lw{a size:Nat}{c:Zj}:∀(vs:Zj) (o:Nat) (w:Zh),eo w a e size (Yz g n b) n c->n *size<=o->eo (w.setCells g o vs) a e size (Yz g n b) n c
 |[],_,_,h,_=>h
 |v::r,o,w,h,ho=>by rw[setCells];refine Lw r (o+1) _ ?_ Yv;have:=(h.stored o v).1;rw[set_eq_of_length_le (by rw[h.1];exact ho)]at this;exact this
theorem Es(g:Nat):∀(vs:Zj) (o:Nat) (w:Zh),ep w (w.setCells g o vs) (an g)
 |[],_,w=>⟨rfl,rfl,rfl,Zx,λ_ _ _=>rfl⟩
 |v::r,o,w=>by rw[setCells];exact Ai (As w g o v) (Es g r (o+1) _)
theorem FV(h:ep w.drew a r):ep w a r:=⟨h.os,h.tape,h.output,h.size,h.block⟩
theorem TU(m g j:Nat)(P L:D4)(K B n h:Int)(c:List Kd)(s:Zi)(k:Aa w d [Zg K,.map (an m),Zg B,Zg n,Zg h,Yz g (eh c) j,P,L])(l:eo w f 122 8 (Yz g (eh c) j) (eh c) (AV (c.map (·.sum))))(M:eh c<=600)(z:s.size<=8)(A:∀x∈c,x.sum.size=s.size)(o:(c.map (·.sum)).Pairwise (λa b=>less a b=bg)):
 D8 173 #[Yy d,CA s] w λe p=>∃i:Nat,e=.returned (.tuple #[Zg i,ef (bx ((c.map (·.sum))[i]?=an s))])/\FH (c.map (·.sum)) s i/\Zz w p:=by
 have⟨W,q⟩:=D6 w (Yk (kB s)) 122;have p:=(Ax q).1;have v:Aa W w.1.size (Bt s):=by rw[q];exact Aa.new w (Bt s) 122
 have r:eo W.drew f 122 8 (Yz g (eh (c.map (·.sum))) j) (eh (c.map (·.sum))) (AV (c.map (·.sum))):=by rw[B0];exact Ah l p.drew
 have t:=Yw (LW g j s r Yt z (λx u=>by obtain⟨y,I,rfl⟩:=mem_map.1 u;exact A y I) o);rw[B0]at t;have H:ek W.drew (Zd d 5)=an (Yz g (eh c) j)/\(ek W.drew (Zd (w.1.size) 0)=an (.int .u8 (kB s 0))/\ek W.drew (Zd (w.1.size) 1)=an (.int .u8 (kB s 1))/\ek W.drew (Zd (w.1.size) 2)=an (.int .u8 (kB s 2))/\ek W.drew (Zd (w.1.size) 3)=an (.int .u8 (kB s 3))/\ek W.drew (Zd (w.1.size) 4)=an (.int .u8 (kB s 4))/\ek W.drew (Zd (w.1.size) 5)=an (.int .u8 (kB s 5))/\ek W.drew (Zd (w.1.size) 6)=an (.int .u8 (kB s 6))/\ek W.drew (Zd (w.1.size) 7)=an (.int .u8 (kB s 7))):=⟨(Aa.A k p 5 _ rfl).1,Ib v⟩;have u:=Yw q;clear q v r k l;unfold CA Dg at *
 delta D8;go_in;go_upto_region 1 with fail;rw[<-u.o];clear u;obtain⟨J,r,u,v,C,D,E,F,G⟩:=H;go_region_with (go_at_call 196;refine t.Aj ?_;rintro e N ⟨i,rfl,q,l⟩)
 all_goals
  have k:=Yw (Zn q (p.ag ((BO l).ai p.size)));clear q l J r u v C D E F G t;go_wp2
  go_ret2
  exact⟨i,by first|rfl|simp[Act.put],k.1,k.2⟩
end
theorem VT(x:Zi)(w:Zh):D8 203 #[C4 x] w λe a=>e=C5 (ef bq)/\Zz w a:=by delta D8;go_in;go_wp2;go_ret;exact⟨Yu,Ae⟩
theorem VU(x:Zi)(w:Zh):D8 219 #[C4 x] w λe a=>e=C5 (ef bq)/\Zz w a:=by delta D8;go_in;go_wp2;go_ret;exact⟨Yu,Ae⟩
theorem TV(x y:Zi)(w:Zh):D8 218 #[C4 x,C4 y] w λe a=>e=C5 (ef (less x y))/\Zz w a:=by delta D8;go_in;unfold less;go_wp2_with (go_at_call 203;refine(VT x w).ai ?_;rintro e b ⟨rfl,a⟩);go_wp2;go_ret;exact⟨Yu,a⟩
theorem QG{a:Zk}(I:Nat){g:Zl}(s:Zi)(p:Ab w w.1.size a g)(P:eh g<=1000)(k:g.Pairwise (λa b=>less a b=bg)):
 D8 211 #[C3 a (eh g) I,C4 s] w λe c=>∃(i:Int) (ok:Bool),e=C5 (.tuple #[Zg i,ef ok])/\(ok=bg↔s∈g)/\Zz w c:=by
 delta D8;go_in;go_wp2;go_loopw [7,8] (λi j wr=>∃c f:Nat,i=Zg c/\j=Zg f/\c<=f/\f<=eh g/\Hid ((∀j x,j<c->g[j]?=an x->less x s=bg)/\(∀j x,f<=j->g[j]?=an x->less x s=bq))/\Zz w wr) (λi j _=>(intOf j).toNat -(intOf i).toNat)
 case atStart=>exact⟨0,eh g,rfl,rfl,Aq _,Zx,⟨λj x h=>Yv,λj x h E=>Dl (Zw E).1⟩,Ae⟩
 obtain⟨c,f,rfl,rfl,O,J,z,d⟩:=hrel;have C:=d.size;by_cases hlt:c<f
 .have r:(c+f)/2<eh g:=Yv;obtain⟨m,b,K,D,L,l⟩:=Yw (Zv r),(p.A d).at r;subst D;have E:=l _ _ m;clear l;generalize g[(c+f)/2]=x at *
  go_wp2_with fail;refine(TV x s wr).ai ?_;rintro e N ⟨rfl,u⟩;have B:=d.ag (u.ai C);by_cases l:less x s=bg
  .rw[l];go_wp2;refine⟨⟨(c+f)/2+1,f,Yn,rfl,Yv,J,⟨?_,z.2⟩,B⟩,Ys⟩;intro j y q n;rcases Cg j ((c+f)/2)with h|h
   .have:=pairwise_iff_getElem.1 k j ((c+f)/2) Yv r h;obtain⟨_,rfl⟩:=Zw n;have⟨_,e⟩:=Zw m;rw[e]at this;exact Cx this l
   obtain rfl:j=(c+f)/2:=Yv;rw[m.o]at n;cases n;exact l
  have t:less x s=bq:=D2 l;rw[t];go_wp2;refine⟨⟨c,(c+f)/2,rfl,Yn,Yv,Yv,⟨z.1,?_⟩,B⟩,Ys⟩;intro j y q n;rcases Cg ((c+f)/2) j with h|h
  .have v:=(Zw n).1;have:=pairwise_iff_getElem.1 k ((c+f)/2) j r v h;obtain⟨_,rfl⟩:=Zw n;have⟨_,e⟩:=Zw m;rw[e]at this;cases A:less g[j] s with
   |false=>rfl
   |true=>rw[Cx this A]at t;cases t
  obtain rfl:j=(c+f)/2:=Yv;rw[m.o]at n;cases n;exact t
 obtain rfl:c=f:=Yv;have o:s∈g->g[c]?=an s:=λF=>by
  have⟨j,q⟩:=A9 F;rcases Cg j c with h|h
  .have:=z.1 j s h q;rw[Ct]at this;cases this
  rcases Cg c j with A|A
  .have v:=(Zw q).1;have G:=pairwise_iff_getElem.1 k c j Yv v A;obtain⟨H,_,e⟩:=z.2 c _ (Zx) (Zv Yv),Zw q;rw[e]at G;rw[G]at H;cases H
  obtain rfl:j=c:=Yv;exact q
 have F:=Yw o;clear o;by_cases hn:c<eh g
 .obtain⟨m,b,K,D,L,l⟩:=Yw (Zv hn),(p.A d).at hn;subst D;have E:=l _ _ m;clear l;generalize g[c]=x at *
  by_cases he:x=s
  .subst he;have l:=Zs m;have o:=Yw l;clear l;have M:(x.toList==x.toList)=bg:=Yu;go_wp2
   go_ret2
   exact⟨_,bg,by first|rfl|simp[Act.put],⟨λ_=>o.o,λ_=>rfl⟩,d⟩
  have l:¬s∈g:=by intro h;have:=F h;rw[m.o]at this;exact he (A8 this)
  have o:=Yw l;clear l;have M:=BJ he;go_wp2_with (go_at_call 219;refine(VU x wr).ai ?_;rintro e N ⟨rfl,u⟩);go_wp2
  go_ret2
  exact⟨_,bq,by first|rfl|simp[Act.put],⟨(λh=>by cases h),(λh=>absurd h o)⟩,d.ag (u.ai C)⟩
 have l:¬s∈g:=by intro h;have:=(Zw (F h)).1;omega
 have o:=Yw l;clear l;go_wp2
 go_ret2
 exact⟨_,bq,by first|rfl|simp[Act.put],⟨(λh=>by cases h),(λh=>absurd h o)⟩,d⟩
section
attribute [local go_sem↓] Go.wp_at_zero Go.wp_at_succ
theorem Sp(p:Pd)(s:Zi)(b:Nat)(w:Zh)(d:ek w (Zd b 0)=an (C4 s)):
 D8 206 #[ct #[C4 p.name,C4 p.sum],Yy b] w λe a=>e=C5 (ef (bx (p.sum=s)))/\Zz w a:=by
 have i:b<w.1.size:=Bf w _ d;have g:¬w.1.size=b:=Yv;have c:∀o,Zz w (w.alloc o):=λo=>Zy;by_cases h:p.sum=s
 .have f:(p.sum.toList==s.toList)=bg:=by rw[h];simp
  have a:bx (p.sum=s)=bg:=Yt;clear h;delta D8;go_in;go_wp2;go_ret;exact⟨by rw[a];rfl,c _⟩
 have f:(p.sum.toList==s.toList)=bq:=BJ h;have a:bx (p.sum=s)=bq:=Yt;clear h;delta D8;go_in;go_wp2;go_ret;exact⟨by rw[a];rfl,c _⟩
theorem Pb{a:Zk}(u b:Nat){d:Db}(s:Zi)(g:AS w w.1.size a d)(K:eh d<=1048576)(q:ek w (Zd b 0)=an (C4 s)):
 D8 216 #[C3 a (eh d) u,.func (.func 206) #[] #[Yy b]] w λe c=>∃r:Int,e=C5 (Zg r)/\(0<=r↔∃p∈d,p.sum=s)/\Zz w c:=by
 have z:=Bf w _ q;delta D8;go_in;go_wp2;go_loopw [8] (λi wr=>∃k:Nat,k<=eh d/\i=Zg k/\Hid (∀j x,j<k->d[j]?=an x->¬x.sum=s)/\Zz w wr) (λi _=>eh d -(intOf i).toNat)
 case atStart=>exact⟨0,Aq _,rfl,(λj x h=>Yv),Ae⟩
 obtain⟨k,J,rfl,f,c⟩:=hrel;have B:=c.size;by_cases hlt:k<eh d
 case neg=>go_wp2;go_ret;refine⟨_,rfl,⟨λh=>Yv,λ⟨p,hp,h⟩=> ?_⟩,c⟩;obtain⟨j,t,rfl⟩:=getElem_of_mem hp;exact absurd h (f j _ Yv (Zv t))
 obtain⟨F,E,D,I,l⟩:=(g.A c).at hlt;subst D;have m:=Yw (Zv hlt);obtain⟨G,H⟩:=l k _ m;have A:=(c.cell (p:=⟨b,0,ba⟩) z).ag q;clear l g;generalize d[k]=x at *
 go_wp2_with fail;refine(Sp x s b wr A).ai ?_;rintro e L ⟨rfl,v⟩;have g:=c.ag (v.ai B);by_cases h:x.sum=s
 .have l:bx (x.sum=s)=bg:=Yt;rw[l];go_wp2;go_ret;exact⟨_,rfl,⟨λ_=>⟨x,Zs m,h⟩,λ_=>Yv⟩,g⟩
 have C:Hid (∀j y,j<k+1->d[j]?=an y->¬y.sum=s):=by
  intro j y t n;rcases Cg j k with o|o
  .exact f j y o n
  obtain rfl:j=k:=Yv;rw[m.o]at n;cases n;exact h
 have l:bx (x.sum=s)=bq:=Yt;rw[l];clear h;go_wp2;exact⟨⟨k+1,Yv,Yn,C,g⟩,Ys⟩
theorem LX{a:Zk}(f b:Nat){c:Db}(s:Zi)(d:AS w w.1.size a c)(l:eh c<=1048576)(k:ek w (Zd b 0)=an (C4 s)):
 D8 205 #[C3 a (eh c) f,.func (.func 206) #[] #[Yy b]] w λe i=>∃g,e=C5 (ef g)/\(g=bg↔∃p∈c,p.sum=s)/\Zz w i:=by
 delta D8;go_in;go_wp2_with fail;refine(Pb f b s d l k).ai ?_;rintro e m ⟨r,rfl,j,g⟩;have i:=Yw j;clear j;by_cases h:0<=r
 .have j:bx ((0:Int)<=r)=bg:=Yt;go_wp2;go_ret;exact⟨bg,rfl,⟨(λ_=>i.1 h),(λ_=>rfl)⟩,g⟩
 have j:bx ((0:Int)<=r)=bq:=Yt;go_wp2;go_ret;exact⟨bq,rfl,⟨(λe=>by cases e),(λe=>absurd (i.2 e) Yv)⟩,g⟩
theorem Pc(p:Ld)(s:Zi)(b:Nat)(w:Zh)(d:ek w (Zd b 0)=an (C4 s)):
 D8 208 #[ct #[Zg p.R,C4 p.sum,Zg p.bj],Yy b] w λe a=>e=C5 (ef (bx (p.sum=s)))/\Zz w a:=by
 have i:b<w.1.size:=Bf w _ d;have g:¬w.1.size=b:=Yv;have c:∀o,Zz w (w.alloc o):=λo=>Zy;by_cases h:p.sum=s
 .have f:(p.sum.toList==s.toList)=bg:=by rw[h];simp
  have a:bx (p.sum=s)=bg:=Yt;clear h;delta D8;go_in;go_wp2;go_ret;exact⟨by rw[a];rfl,c _⟩
 have f:(p.sum.toList==s.toList)=bq:=BJ h;have a:bx (p.sum=s)=bq:=Yt;clear h;delta D8;go_in;go_wp2;go_ret;exact⟨by rw[a];rfl,c _⟩
theorem MO{a:Zk}(u b:Nat){d:Da}(s:Zi)(g:AR w w.1.size a d)(L:eh d<=1048576)(q:ek w (Zd b 0)=an (C4 s)):
 D8 193 #[C3 a (eh d) u,.func (.func 208) #[] #[Yy b]] w λe c=>∃r:Int,e=C5 (Zg r)/\(0<=r↔∃p∈d,p.sum=s)/\Zz w c:=by
 have z:=Bf w _ q;delta D8;go_in;go_wp2;go_loopw [8] (λi wr=>∃k:Nat,k<=eh d/\i=Zg k/\Hid (∀j x,j<k->d[j]?=an x->¬x.sum=s)/\Zz w wr) (λi _=>eh d -(intOf i).toNat)
 case atStart=>exact⟨0,Aq _,rfl,(λj x h=>Yv),Ae⟩
 obtain⟨k,K,rfl,f,c⟩:=hrel;have B:=c.size;by_cases hlt:k<eh d
 case neg=>go_wp2;go_ret;refine⟨_,rfl,⟨λh=>Yv,λ⟨p,hp,h⟩=> ?_⟩,c⟩;obtain⟨j,t,rfl⟩:=getElem_of_mem hp;exact absurd h (f j _ Yv (Zv t))
 obtain⟨F,E,D,J,l⟩:=(g.A c).at hlt;subst D;have m:=Yw (Zv hlt);obtain⟨G,H,I⟩:=l k _ m;have A:=(c.cell (p:=⟨b,0,ba⟩) z).ag q;clear l g;generalize d[k]=x at *
 go_wp2_with fail;refine(Pc x s b wr A).ai ?_;rintro e M ⟨rfl,v⟩;have g:=c.ag (v.ai B);by_cases h:x.sum=s
 .have l:bx (x.sum=s)=bg:=Yt;rw[l];go_wp2;go_ret;exact⟨_,rfl,⟨λ_=>⟨x,Zs m,h⟩,λ_=>Yv⟩,g⟩
 have C:Hid (∀j y,j<k+1->d[j]?=an y->¬y.sum=s):=by
  intro j y t n;rcases Cg j k with o|o
  .exact f j y o n
  obtain rfl:j=k:=Yv;rw[m.o]at n;cases n;exact h
 have l:bx (x.sum=s)=bq:=Yt;rw[l];clear h;go_wp2;exact⟨⟨k+1,Yv,Yn,C,g⟩,Ys⟩
theorem KT{a:Zk}(f b:Nat){c:Da}(s:Zi)(d:AR w w.1.size a c)(l:eh c<=1048576)(k:ek w (Zd b 0)=an (C4 s)):
 D8 207 #[C3 a (eh c) f,.func (.func 208) #[] #[Yy b]] w λe i=>∃g,e=C5 (ef g)/\(g=bg↔∃p∈c,p.sum=s)/\Zz w i:=by
 delta D8;go_in;go_wp2_with fail;refine(MO f b s d l k).ai ?_;rintro e m ⟨r,rfl,j,g⟩;have i:=Yw j;clear j;by_cases h:0<=r
 .have j:bx ((0:Int)<=r)=bg:=Yt;go_wp2;go_ret;exact⟨bg,rfl,⟨(λ_=>i.1 h),(λ_=>rfl)⟩,g⟩
 have j:bx ((0:Int)<=r)=bq:=Yt;go_wp2;go_ret;exact⟨bq,rfl,⟨(λe=>by cases e),(λe=>absurd (i.2 e) Yv)⟩,g⟩
theorem Sq{c a:Int}{C:C9}{k:Db}{j:Da}(s:Zi)(i:Dr w n d m O P L G x c a C k j)(J:eh k<=100)(I:eh j<=200):
 D8 194 #[Yy d,C4 s] w λe f=>∃b,e=C5 (ef b)/\(b=bg↔(∃p∈k,p.sum=s)\/∃l∈j,l.sum=s)/\Zz w f:=by
 have H:∀(fn:Fn) (first cap:Array Value) (w:Zh),(Instr.makeFunc fn first cap).run prog w=.ok (.func fn first cap) w:=λ_ _ _ _=>rfl;obtain⟨E,A,rfl⟩:=Au i.de;obtain⟨D,v,rfl⟩:=Au i.dh;have⟨W,h⟩:=D6 w #[C4 s] 9;have g:=(Ax h).1;have f:ek W (Zd (w.1.size) 0)=an (C4 s):=by rw[h];simp
 have b:=i.A g;obtain⟨⟨c6,t⟩,o,q⟩:=Aa.c2 b.box 6 7,Yw b,Yw h;clear h i b;delta D8;go_in;go_upto_region 1 with fail;rw[<-q.o];clear q;go_wp2_with fail;refine(LX A _ s (AS.own o.de) Yv f).ai ?_;rintro e F ⟨y,rfl,q,b⟩;have h:=Yw (Dr.A o b);obtain⟨B,_⟩:=h.box 7 _ rfl;have r:=(b.cell (p:=⟨w.1.size,0,ba⟩) (Bf W _ f)).ag f;have i:=Yw q;clear q c6 t f;go_wp2_with fail;refine(KT v _ s (AR.own h.dh) Yv r).ai ?_;rintro e K ⟨z,rfl,t,u⟩;have q:=Yw t;have f:=(g.ag (b.ai g.size)).ag (u.ai (Zm g.size b.size));clear t B r;cases y
 .go_wp2;go_ret;exact⟨z,rfl,⟨(λe=> eb (q.1 e)),(λe=>e.elim (λe=>by have:=i.2 e;cases this) q.2)⟩,f⟩
 go_wp2;go_ret;exact⟨bg,rfl,⟨(λ_=> dp (i.1 trivial)),(λ_=>rfl)⟩,f⟩
theorem BS.holds{a:Nat}{c:Int}{b:C9}{f:Lit->Option Value}(h:BS w a V c b f):Holds w w.1.size c b f:=by
 intro s j;rcases h s j with h|⟨u,k,l,d,e,g,i⟩
 .exact dp h
 exact eb ⟨u,k,l,d,e,g,i.row⟩
theorem Dr.look{b a:Int}{c:C9}{C:Db}{B:Da}(h:Dr w g d m O P L o x b a c C B)(q:(c.map (·.sum)).Nodup)(t:∀k∈c,(k.sum.size:Int)=o){k:Kd}(i:k∈c):
 ∃e j,Ab w w.1.size e k.D/\∀X,Zz w X->(Instr.lookup 98 (.map (an m)) (CA k.sum) bq).run prog X=.ok (Ep k e j) X:=by
 have⟨n,f,D,l,y⟩:=h.map;rcases y _ (t k i)with⟨_,r⟩|⟨u,e,j,A,v,p,s⟩
 .exact absurd ⟨_,i,rfl⟩ r
 obtain rfl:=Gs q A i v;refine⟨e,j,s.row,λX z=> ?_⟩;have:=(l.ah z l.lt).look keyed underlying98 (Lr _) (EF u.sum);rw[p]at this;exact this
theorem VV(y d m o q:Nat)(O P L:D4)(F M l c:Int)(u:C9)(V:Db)(U:Da)(s:Zi)(k:Kd)(w:Zh)(E:Dr w y d m O P L F M l c u V U)(H:(u.map (·.sum)).Nodup)(J:∀k∈u,(k.sum.size:Int)=F)(S:k∈u)(T:eh k.D<=1000)(n:k.D.Pairwise (λa b=>less a b=bg))(z:ek w (Zd o 0)=an (Yy d))(A:ek w (Zd q 0)=an (C4 s)):
 D8 210 #[CA k.sum,Yy o,Yy q] w λe f=>∃x,e=C5 (ef x)/\(x=bg↔s∈k.D)/\Zz w f:=by
 obtain⟨⟨f,g,h,ig⟩,G,I,W,r⟩:=E.look H J S,Bf w _ z,Bf w _ A,D6 w (Yk (kB k.sum)) 122;have j:=(Ax r).1;have B:Aa W w.1.size (Bt k.sum):=by rw[r];exact Aa.new w (Bt k.sum) 122
 have K:w.1.size<W.1.size:=Aa.lt (v:=.int .u8 (kB k.sum 0)) B;unfold CA Dg Ep at ig;have C:Hid (∀X,Zz W X->ek X (Zd o 0)=an (Yy d)/\ek X (Zd q 0)=an (C4 s)/\ek X (Zd d 1)=an (.map (an m))/\(ek X (Zd (w.1.size) 0)=an (.int .u8 (kB k.sum 0))/\ek X (Zd (w.1.size) 1)=an (.int .u8 (kB k.sum 1))/\ek X (Zd (w.1.size) 2)=an (.int .u8 (kB k.sum 2))/\ek X (Zd (w.1.size) 3)=an (.int .u8 (kB k.sum 3))/\ek X (Zd (w.1.size) 4)=an (.int .u8 (kB k.sum 4))/\ek X (Zd (w.1.size) 5)=an (.int .u8 (kB k.sum 5))/\ek X (Zd (w.1.size) 6)=an (.int .u8 (kB k.sum 6))/\ek X (Zd (w.1.size) 7)=an (.int .u8 (kB k.sum 7)))/\(Instr.lookup 98 (.map (an m)) (ct (Yk (kB k.sum))) bq).run prog X=.ok (ct #[C4 k.sum,Zg k.born,C4 k.i,C2 f k.D g]) X):=
  λX D=>by have t:=j.ag (D.ai j.size);exact⟨(t.cell (p:=⟨o,0,ba⟩) G).ag z,(t.cell (p:=⟨q,0,ba⟩) I).ag A,(Aa.A E.box t 1 _ rfl).1,sk8 (D.block _ K) B,ig X t⟩
 have Q:=Yw (QG g s (Ab.ai (Ab.A h j.drew) j.size) T n);have N:bs W.1.size W W.drew:=Ae.drew;have Z:∀X:Zh,(Instr.field 78 (ct #[C4 k.sum,Zg k.born,C4 k.i,C2 f k.D g]) 2).run prog X=.ok (ct #[C4 k.i,C2 f k.D g]) X:=λ_=>Yr;have a:∀X:Zh,(Instr.field 76 (ct #[C4 k.i,C2 f k.D g]) 1).run prog X=.ok (C2 f k.D g) X:=λ_=>Yr;have R:=Yw r;clear r B ig h;unfold CA Dg;delta D8;go_in;go_upto_region 1 with fail;rw[<-R.o];go_region_held3 (λX=>ek X (Zd o 0)=an (Yy d)/\ek X (Zd q 0)=an (C4 s)/\ek X (Zd d 1)=an (.map (an m))/\(ek X (Zd (w.1.size) 0)=an (.int .u8 (kB k.sum 0))/\ek X (Zd (w.1.size) 1)=an (.int .u8 (kB k.sum 1))/\ek X (Zd (w.1.size) 2)=an (.int .u8 (kB k.sum 2))/\ek X (Zd (w.1.size) 3)=an (.int .u8 (kB k.sum 3))/\ek X (Zd (w.1.size) 4)=an (.int .u8 (kB k.sum 4))/\ek X (Zd (w.1.size) 5)=an (.int .u8 (kB k.sum 5))/\ek X (Zd (w.1.size) 6)=an (.int .u8 (kB k.sum 6))/\ek X (Zd (w.1.size) 7)=an (.int .u8 (kB k.sum 7)))/\(Instr.lookup 98 (.map (an m)) (ct (Yk (kB k.sum))) bq).run prog X=.ok (ct #[C4 k.sum,Zg k.born,C4 k.i,C2 f k.D g]) X)
  (first|with_reducible exact C.o _ N|with_reducible exact C.o _ r)
  (first|(go_at_call 211;refine Q.Aj ?_;rintro e Y ⟨i,x,rfl,h,D⟩;have B:=Yw h;clear h;have r:bs W.1.size W Y:=BO D))
 all_goals
  go_wp2;go_ret;exact⟨x,rfl,B,j.ag (r.ai j.size)⟩
def JZ(ks:List Kd):Prop:=∀k∈ks,eh k.D<=1000/\k.D.Pairwise (fun a b=>less a b=bg)
theorem Pe{o:Nat}(u z:Nat)(N:Zk)(G:Nat){I F f:Int}{b:C9}{O:Db}{M:Da}(s:Zi)(a:Dr w o d m (C3 N (eh b) G) P L I F l f b O M)(Z:(b.map (·.sum)).Nodup)(zA:∀k∈b,(k.sum.size:Int)=I)(K:JZ b)(hl:eh b<=600)(C:ek w (Zd u 0)=an (Yy d))(E:ek w (Zd z 0)=an (C4 s)):
 D8 217 #[C3 N (eh b) G,.func (.func 210) #[] #[Yy u,Yy z]] w λe c=>∃r:Int,e=C5 (Zg r)/\(0<=r↔∃k∈b,s∈k.D)/\Zz w c:=by
 obtain⟨X,r,HD⟩:=Bf w _ C,Bf w _ E,Yw a;clear a;delta D8;go_in;go_wp2;go_loopw [8] (λi wr=>∃k:Nat,k<=eh b/\i=Zg k/\Hid (∀j x,j<k->b[j]?=an x->¬s∈x.D)/\Zz w wr) (λi _=>eh b -(intOf i).toNat)
 case atStart=>exact⟨0,Aq _,rfl,(λj x h=>Yv),Ae⟩
 obtain⟨k,hk,rfl,q,c⟩:=hrel;have i:=c.size;by_cases hlt:k<eh b
 case neg=>go_wp2;go_ret;refine⟨_,rfl,⟨(λh=>Yv),(λ⟨p,hp,h⟩=> ?_)⟩,c⟩;obtain⟨j,v,rfl⟩:=getElem_of_mem hp;exact absurd h (q j _ Yv (Zv v))
 have t:=Dr.A HD c;have n:=t.ord;obtain⟨og,oc,Y,_,zB⟩:=BK n (λe=>by injection e with _ h2 _;omega);cases Y;have J:=Yw (Zv hlt);have g:=getElem_mem hlt;have D:(b.map (·.sum))[k]?=an b[k].sum:=by simp[hlt]
 have a:∀j,j<8->ek wr (Zd og (k *8+j))=an (.int .u8 (kB b[k].sum j)):=λj v=>(n.cellAt _ Yv).ag (EV D v);have B:=a 0 Yv;have Q:=a 1 Yv;have R:=a 2 Yv;have S:=a 3 Yv;have T:=a 4 Yv;have U:=a 5 Yv;have V:=a 6 Yv;have W:=a 7 Yv;rw[Nat.add_zero]at B;have H:=VV o d m u z _ P L I F l f b O M s b[k] wr t Z zA g (K _ g).1 (K _ g).2 ((c.cell (p:=⟨u,0,ba⟩) X).ag C) ((c.cell (p:=⟨z,0,ba⟩) r).ag E);unfold CA Dg at H;have A:=Yw H;clear a D n t g H;generalize b[k]=x at *
 go_wp2_with fail;refine A.Aj ?_;rintro e H ⟨t,rfl,n,D⟩;have g:=c.ag (D.ai i);have a:=Yw n;clear n B Q R S T U V W A;cases t
 .have A:Hid (∀j y,j<k+1->b[j]?=an y->¬s∈y.D):=by
   intro j y v n;rcases Cg j k with t|t
   .exact q j y t n
   obtain rfl:j=k:=Yv;rw[J.o]at n;cases n;exact λh=>by have:=a.2 h;simp at this
  go_wp2;exact⟨⟨k+1,Yv,Yn,A,g⟩,Ys⟩
 go_wp2;go_ret;exact⟨_,rfl,⟨(λ_=>⟨x,Zs J,a.1 (by trivial)⟩),(λ_=>Yv)⟩,g⟩
theorem LY(o q:Nat)(p:Zk)(g:Nat){t n b a:Int}{c:C9}{y:Db}{x:Da}(s:Zi)(i:Dr w f d m (C3 p (eh c) g) P L t n b a c y x)(A:(c.map (·.sum)).Nodup)(C:∀k∈c,(k.sum.size:Int)=t)(E:JZ c)(D:eh c<=600)(z:ek w (Zd o 0)=an (Yy d))(B:ek w (Zd q 0)=an (C4 s)):
 D8 209 #[C3 p (eh c) g,.func (.func 210) #[] #[Yy o,Yy q]] w λe l=>∃j,e=C5 (ef j)/\(j=bg↔∃k∈c,s∈k.D)/\Zz w l:=by
 have u:=Yw (Pe o q p g s i A C E D z B);clear i;delta D8;go_in;go_wp2_with fail;refine u.Aj ?_;rintro e F ⟨r,rfl,l,j⟩;have v:=Yw l;clear l u;by_cases h:0<=r
 .have i:bx ((0:Int)<=r)=bg:=Yt;go_wp2;go_ret;exact⟨bg,rfl,⟨(λ_=>v.1 h),(λ_=>rfl)⟩,j⟩
 have i:bx ((0:Int)<=r)=bq:=Yt;go_wp2;go_ret;exact⟨bq,rfl,⟨(λe=>by cases e),(λe=>absurd (v.2 e) Yv)⟩,j⟩
theorem TW{b a:Int}{c:C9}{u:Db}{t:Da}(s:Zi)(n:Dr w f d m O P L o j b a c u t)(v:(c.map (·.sum)).Nodup)(x:∀k∈c,(k.sum.size:Int)=o)(B:JZ c)(A:eh c<=600):
 D8 195 #[Yy d,C4 s] w λe g=>∃i,e=C5 (ef i)/\(i=bg↔∃k∈c,s∈k.D)/\Zz w g:=by
 have D:∀(fn:Fn) (first cap:Array Value) (w:Zh),(Instr.makeFunc fn first cap).run prog w=.ok (.func fn first cap) w:=λ_ _ _ _=>rfl;obtain⟨C,y,rfl⟩:=Au n.ord;have⟨W,g⟩:=Ag ((w.alloc (ca #[Yy d] 62)).alloc (ca #[C4 s] 9));have l:=(AQ g).1;have z:ek W (Zd (w.1.size) 0)=an (Yy d):=N5;have r:ek W (Zd (w.1.size+1) 0)=an (C4 s):=N5;have h:=n.A l;obtain⟨p,⟨E,_⟩,q⟩:=Yw (LY w.1.size (w.1.size+1) C y s h v x B A z r),h.box 5 _ rfl,Yw g;clear g h n r;delta D8;go_in;go_upto_region 1 with fail;rw[<-q.o];clear q;go_wp2_with fail;refine p.Aj ?_;rintro e r ⟨i,rfl,g,h⟩;have q:=Yw g;have n:=l.ag (h.ai l.size);clear g p;go_wp2;go_ret;exact⟨i,rfl,q,n⟩
theorem KY{n b a:Int}{f:C9}{i:Db}{h:Da}(s:Zi)(g:Dr w c d m O P L n j b a f i h)(v:(f.map (·.sum)).Nodup)(x:∀k∈f,(k.sum.size:Int)=n)(C:JZ f)(z:eh f<=600)(B:eh i<=100)(A:eh h<=200):
 D8 172 #[Yy d,C4 s] w λe q=>∃o,e=C5 (ef o)/\(o=bg↔((∃p∈i,p.sum=s)\/∃l∈h,l.sum=s)\/∃k∈f,s∈k.D)/\Zz w q:=by
 have r:=Yw g;clear g;delta D8;go_in;go_wp2_with fail;refine(Sq s r B A).ai ?_;rintro e D ⟨t,rfl,q,g⟩;have o:=Yw q;clear q;cases t
 .go_wp2_with fail;refine(TW s (Dr.A r g) v x C z).ai ?_;rintro e E ⟨y,rfl,t,u⟩;have q:=Yw t;clear t;go_wp2;go_ret;exact⟨y,rfl,⟨(λe=> eb (q.1 e)),(λe=>e.elim (λe=>by have:=o.2 e;simp at this) q.2)⟩,g.ag (u.ai g.size)⟩
 go_wp2;go_ret;exact⟨bg,rfl,⟨(λ_=> dp (o.1 (by trivial))),(λ_=>rfl)⟩,g⟩
theorem EM{u b a:Int}{c:C9}{x:Db}{v:Da}(j:Dr w g d m O P L l u b a c x v)(r:∀k∈c,(k.sum.size:Int)=l)(t:AA c s):
 D8 158 #[Yy d,C4 s] w λe h=>e=C5 (.tuple #[])/\Zz w h:=by
 have⟨n,f,A,q,p⟩:=j.map;have⟨B,i,h⟩:=JX f s q p.holds r;obtain rfl:=i.2 t;obtain⟨y,z⟩:=Aa.c2 j.box 0 1;have o:=Yw (h w Ae);clear h i j q p;delta D8;go_in;go_wp2_with fail;refine o.Aj ?_;rintro e i ⟨rfl,h⟩;clear o;go_wp2;go_end0;exact⟨rfl,h⟩
end
theorem Pf{A:Type}{c:A->Zj}(j:∀x,eh (c x)=n){a:Nat}{b:List A}(h:eo w a e n (Yz g (eh b) d) (eh b) (Ad c b))(i:Nat)(f:i<=eh b):eo w a e n (Yz g i d) i (Ad c (b.take i)):=by
 refine⟨by rw[BY j,C0];congr 1;omega,?_⟩;rcases h.2 with⟨e,_⟩|⟨s,l,k,e,q,r,t,m,o,p⟩
 .cases e
 cases e;refine eb ⟨g,d,k,rfl,q,r,Yv,m,o,?_⟩;rw[<-Ls j b i f,<-p,take_take];congr 1;exact(Nat.min_eq_left (Nat.mul_le_mul_right n f)).symm
def Abm(fk te ts sz:Nat):Prop:=
 (fk=165/\te=81/\ts=27/\sz=2)\/(fk=169/\te=83/\ts=28/\sz=3)\/(fk=174/\te=122/\ts=101/\sz=8)
theorem ZF{j h e:Nat}(k:Abm j d h e):∃(i:TypeInfo) (zv:Value) (zs:Zj),prog.info? d=an i/\i.size=e/\prog.underlying h=an (.slice d)/\(∀w,(zeroValue d).run prog w=.ok zv w)/\(Builtin.zeroCells zv.cells 1).toList=zs/\eh zs=e/\∀v∈zs,v.oneCell'=bg:=by
 rcases k with⟨rfl,rfl,rfl,rfl⟩|⟨rfl,rfl,rfl,rfl⟩|⟨rfl,rfl,rfl,rfl⟩
 .obtain⟨c,b,f,a,g⟩:=info_parts Hq;exact⟨c,ct #[Zc,Zc],[Zc,Zc],b,a,underlying27,fun w=>by kernel_rfl,Yr,rfl,by simp[Value.oneCell']⟩
 .obtain⟨c,b,f,a,g⟩:=info_parts Iv;exact⟨c,ct #[Ze,Zc,Ze],[Ze,Zc,Ze],b,a,underlying28,fun w=>by kernel_rfl,Yr,rfl,by simp[Value.oneCell']⟩
 obtain⟨c,b,f,a,g⟩:=info_parts KD;exact⟨c,ct DA,DA.toList,b,a,underlying101,fun w=>by kernel_rfl,Yr,rfl,by simp[DA,Value.oneCell']⟩
theorem Sr{e:Nat}{k:D4}{a:Zj}(p:prog.underlying i=an (.slice g))(q:∀w,(zeroValue g).run prog w=.ok k w)(m:(Builtin.zeroCells k.cells 1).toList=a)(f:eh a=e)(l:∀v∈a,v.oneCell'=bg)(r:TypeId)(w:Zh)(b o c:Nat)(h:∀j,j<e->(ek w (Zd b (o+j))).isSome=bg)(n:∀j,j<e->el w ⟨b,o+j,ba⟩=bq):
 (Builtin.clear_ #[i] r #[C3 (an ⟨b,o,ba⟩) 1 c]).run prog w=.ok (.tuple #[]) (w.setCells b o a):=by
 have d:=run_storeCells_cells (P:=prog) b o a 0 w (by rw[f];simpa using h) (by rw[f];simpa using n) l;simp only[Nat.add_zero]at d;simp[Builtin.clear_,run_underlying p,q,m,d]
theorem MP{A:Type}{l:A->Zj}{E r:Nat}(I:Abm E r B c)(q:∀x,eh (l x)=c)(Y:∀f,∀u∈Ad l f,u.oneCell'=bg)(g b i:Nat)(a:List A)(z:eo w k r c (Yz g (eh a) b) (eh a) (Ad l a))(hl:eh a<=600)(hi:i<eh a):
 D8 E #[Yz g (eh a) b,Zg i,Zg ((i:Int)+1)] w λe d=>e=C5 (Yz g (eh a -1) b)/\eo d k r c (Yz g (eh a -1) b) (eh a -1) (Ad l (a.eraseIdx i))/\ep w d (an g):=by
 obtain⟨x,zv,zs,v,Q,f,U,R,S,T⟩:=ZF I;have t:eh a<=b/\b<=ew:=by
  rcases z.2 with⟨e,_⟩|⟨V,s,K,e,Z,H,F,G,W,X⟩
  .cases e
  cases e;exact⟨F,G⟩
 obtain⟨L,M⟩:=t;unfold ew at M;have m1:(eh a -1) *c+c=eh a *c:=by rw[<-Nat.succ_mul];congr 1;omega
 have m2:eh a *c<=b *c:=Nat.mul_le_mul_right c L;have hcut:=Pf q z i Yv;have⟨A,hA,o⟩:∃A,(if b=i+1 then an (⟨g,0,ba⟩:Addr)else an ⟨g,(i+1) *c,ba⟩)=an A/\∀j u,(Ad l (a.drop (i+1)))[j]?=an u->ek w.drew (A.add j)=an u:=by
  by_cases h:b=i+1
  .refine⟨⟨g,0,ba⟩,by rw[if_pos h],λj u f=> ?_⟩;rw[drop_of_length_le Yv]at f;simp[Ad]at f
  refine⟨⟨g,(i+1) *c,ba⟩,by rw[if_neg h],λj u f=> ?_⟩;rw[A7];rw[<-Ji q a (i+1) Yv,getElem?_drop]at f;have O:=(Zw f).1;rw[BY q]at O;exact(z.cellAt _ Yv).ag f
 obtain⟨C,J,d,n⟩:=run_append_fits (P:=prog) w.drew k B B r x c f v Q g i b (Ad l (a.take i)) hcut A (eh a -(i+1)) (b -(i+1)) (Ad l (a.drop (i+1))) (by rw[BY q,length_drop]) o (Y _) Yv;rw[<-Cd,show i+(eh a -(i+1))=eh a -1 by omega]at d;rw[show i+(eh a -(i+1))=eh a -1 by omega]at J;have N:=(eraseIdx_eq_take_drop_succ a i).symm;rw[N]at d;have D:=Yw (Zn d n);have y:∀j,j<c->(ek C (Zd g ((eh a -1) *c+j))).isSome=bg/\el C ⟨g,(eh a -1) *c+j,ba⟩=bq:=λj p=>by
  have⟨d,n⟩:=D.o;rcases d.2 with⟨e,_⟩|⟨V,s,K,e,Z,H,F,G,W,X⟩
  .cases e
  cases e;constructor
  .simp only[cell?,H];rw[Ci Yv];rfl
  exact d.frozenAt _
 have m:=λu=>Sr f U R S T u C g ((eh a -1) *c) (b -(eh a -1)) (λj p=>(y j p).1) (λj p=>(y j p).2);have p:=Yw (Zn trivial m);rcases I with⟨rfl,rfl,rfl,rfl⟩|⟨rfl,rfl,rfl,rfl⟩|⟨rfl,rfl,rfl,rfl⟩
 all_goals
  first|delta D8;go_in|delta D8;go_in|delta D8;go_in
  have j:i<=b:=Yv;have u:(0:Int)<=(i:Int)+1:=Yv;have zA:(i:Int)+1<=(eh a:Int):=Yv;go_upto_region 5 with fail
  go_region_law (first
   |(refine Bu Yp (.tmp 22) (.tmp 25) _ _ Yp Yp J7 J ?_))
  all_goals
   have m:=p.2 0;have e1:eh a -(eh a -1)=1:=Yv;have e2:¬b=eh a -1:=Yv;have e3:eh a -1<=eh a:=Yv;go_wp2;go_ret;have⟨d,n⟩:=D.o;exact⟨rfl,Lw _ _ _ d (Zx),Ai (FV n) (Es g _ _ _)⟩
structure Tn (V:List Nat) (w w':Zh):Prop where
 os:w'.os=w.os
 tape:w'.tape=w.tape
 output:w'.output=w.output
 size:w.1.size<=w'.1.size
 block:∀b,b<w.1.size->b∉V->w'.1[b]?=w.1[b]?
theorem Tn.of(h:Zz w a):Tn V w a:=⟨h.os,h.tape,h.output,h.size,λb c _=>h.block b c⟩
theorem Tn.grown(h:ep w a (an g))(d:g∈V):Tn V w a:=⟨h.os,h.tape,h.output,h.size,λb c f=>h.block b c (λe=>f (A8 e▸d))⟩
theorem Tn.set(w:Zh)(g j:Nat)(v:D4)(a:g∈V):Tn V w (ev w (Zd g j) v):=Tn.grown (As w g j v) a
theorem Tn.trans{b c:Zh}(h:Tn V a b)(k:Tn V b c):Tn V a c:=
 ⟨k.os.ag h.os,k.tape.ag h.tape,k.output.ag h.output,Zm h.size k.size,λq d e=>(k.block q (Zr d h.size) e).ag (h.block q d e)⟩
abbrev Tn.ag:=@Tn.trans
theorem Tn.A(h:Tn V w a)(e:B<=w.1.size)(c:∀b∈V,B<=b):bs B w a:=⟨h.os,h.tape,h.output,h.size,λb d=>h.block b Yv (λd=>Dl (c b d))⟩
theorem Tn.mono{V':List Nat}(h:Tn V w a)(c:∀b∈V,b∈V'):Tn V' w a:=⟨h.os,h.tape,h.output,h.size,λb d f=>h.block b d (λe=>f (c b e))⟩
abbrev Tn.ai:=@Tn.mono
theorem Bb.same{f:Lit->Option Value}(h:Bb w K b n f)(i:a.1[b]?=w.1[b]?):Bb a K b n f:=by obtain⟨D,⟨c,clock,d,e⟩,g⟩:=h;exact⟨D,⟨c,clock,i.ag d,e⟩,g⟩
theorem Er.S{k:Zh}{a:Zk}{j:Zl}(h:Er w c V a j)(f:Tn V w k):Er k c V a j:=by
 rcases h with h|⟨b,d,l,e,g,o,m⟩
 .exact dp h
 exact eb ⟨b,d,l,Zr e f.size,g,(by rw[f.block b e g];exact o),λi s n=>(cell?_of_block (a:=⟨b,d+i,ba⟩) (f.block b e g)).ag (m i s n)⟩
theorem LZ{P:Program}{b:Array Oper}{o:Oper}{a:Act}{K:Act->Zh->Prop}{Q:Exit->Act->Zh->Prop}(e:o.guard=ba)(s x:Operand)(t u:TypeId)(f:o.op=.call {callee:=.builtin .delete,args:= #[s,x],argTypes:= #[t,u]}){d:D4}{c:Zh}(i:a.eval s=v)(k:a.eval x=d)(g:(Builtin.delete_ #[t,u] o.type #[v,d]).run P w=.ok (.tuple #[]) c)(h:K (a.put o.dst (.tuple #[])) c):
 if Region.wanted o (yielded b a.tmps)=bg then Oper.wp P o a w K Q else E:=by
 have j:Region.wanted o (yielded b a.tmps)=bg:=by simp[Region.wanted,e]
 rw[if_pos j];unfold Oper.wp execOp;simp only[f,resolve,invoke,builtin,Sem.run_bind,Sem.run_pure,Result.andThen_ok,map_toArray,map_cons,map_nil,i,k,g];exact h
def Dk(ks:List Kd)(s:Zi):List Kd:=ks.filter (fun k=> !bx (k.sum=s))
theorem QH{b:C9}(a:(b.map (·.sum)).Nodup){k:Kd}(c:b[i]?=an k):Dk b k.sum=b.eraseIdx i:=by
 induction b generalizing i with
 |nil=>simp at c
 |cons x xs ih=>
  simp only[map_cons,nodup_cons,mem_map,not_exists,not_and]at a;cases i with
  |zero=>simp at c;subst c;unfold Dk;simp only[filter_cons,decide_true,Bool.not_true,Bool.false_eq_true,if_false,eraseIdx_zero,tail_cons];exact filter_eq_self.2 (λy d=>D2 (a.1 y d))
  |succ i=>
   have d:xs[i]?=an k:=D2 c;have g:=Zs d;have f:¬x.sum=k.sum:=λe=>a.1 k g e.symm;have:=ih a.2 d;unfold Dk at *
   simp[f,this]
theorem TY{f:Zl}(h:FH f s i)(o:s∈f)(c:f.Pairwise (λa b=>less a b=bg)):f[i]?=an s:=by
 have⟨j,d⟩:=A9 o;have n:=(Zw d).1;rcases Cg j i with k|k
 .have:=h.lo j s k d;rw[Ct]at this;cases this
 rcases Cg i j with g|g
 .have l:=pairwise_iff_getElem.1 c i j Yv n g;obtain⟨m,_,e⟩:=h.hi i _ (Zx) (Zv Yv),Zw d;rw[e]at l;rw[l]at m;cases m
 obtain rfl:j=i:=Yv;exact d
structure Fi (wd:Int) (ks:List Kd):Prop where
 nd:(ks.map (·.sum)).Nodup
 dz:(ks.map (·.sum)).Pairwise (fun a b=>less a b=bg)
 sz:∀k∈ks,(k.sum.size:Int)=wd
 D:JZ ks
 len:eh ks<=600
 w8:wd<=8
theorem BS.drop{i:Zh}{d:Int}{g:C9}{f:Lit->Option Value}(h:BS w b V d g f)(q:Tn V w i)(y:(s.size:Int)=d)(x:d<=8):BS i b V d (Dk g s) (gi f (keyL s)):=by
 intro t k;by_cases hts:t=s
 .subst hts;exact dp ⟨by simp[gi],λ⟨u,c,a⟩=>by simp[Dk,a]at c⟩
 have j:keyL t≠keyL s:=λe=>hts (key_inj e Yv Yv);have n:gi f (keyL s) (keyL t)=f (keyL t):=by simp[gi,j]
 rw[n];rcases h t k with⟨l,m⟩|⟨u,r,v,c,a,o,p⟩
 .exact dp ⟨l,λ⟨u,c,a⟩=>m ⟨u,(B6.1 c).1,a⟩⟩
 exact eb ⟨u,r,v,B6.2 ⟨c,by simp[a,hts]⟩,a,o,p.S q⟩
theorem Dr.apart{B:Zh}{t c:Int}{D:C9}{F:Db}{E:Da}(h:Dr w k d m O P L G t j c D F E)(y:Tn [R] w B)(Y:k<=R)(M:R∉vB d m O P L)(x:∀p l,w.1[R]?≠an (ca p 9 l)):Dr B k d m O P L G t j c D F E:=by
 have⟨n,f,J,C,K⟩:=h.map;have o:∀b,b<w.1.size->b∈vB d m O P L->B.1[b]?=w.1[b]?:=λb q z=>y.block b q (λe=>M (by simp at e;exact e▸z));refine⟨Aa.same h.box (o d h.box.lt N1),⟨n,f,J,Bb.same C (o m C.lt N1),?_⟩,Ar h.ord (λg l=>o g (Ac h.ord l).2 (by simp[vB,l])),Ar h.de (λg l=>o g (Ac h.de l).2 (by simp[vB,l])),Ar h.dh (λg l=>o g (Ac h.dh l).2 (by simp[vB,l])),h.bd,h.bm,h.ap⟩;intro s H;rcases K s H with I|⟨u,V,W,S,T,U,A⟩
 .exact dp I
 refine eb ⟨u,V,W,S,T,U,?_⟩;rcases A with A|⟨b,v,N,q,z,l,Q⟩
 .exact dp A
 have X:b≠R:=by
  rcases l with l|⟨_,p,l⟩
  .omega
  exact λe=>x p _ (e▸l)
 have r:=y.block b q Yt;exact eb ⟨b,v,N,Zr q y.size,z,(by rw[r];exact l),λi s x=>(cell?_of_block (a:=⟨b,v+i,ba⟩) r).ag (Q i s x)⟩
def Ss(B:Nat)(wd:Int)(f:Lit->Option Value):Prop:=∀s:Zi,(s.size:Int)=wd->∀u ra rc,f (keyL s)=an (Ep u ra rc)->∀p,ra=an p->eh u.D≠0->p.block<B
def DB(w:Zh)(base B d m:Nat)(O P L:Value)(wd births:Int)(ks:List Kd):Prop:=(∀g∈vB d m O P L,g<B)/\∃n f,n<=1000000+births.toNat/\Bb w 122 m n f/\BS w base (vB d m O P L) wd ks f/\Ss B wd f
theorem DB.S{F:Zh}{j:Nat}{c:Int}{A:C9}{U:List Nat}(h:DB w j B d m O P L G c A)(p:Tn U w F)(v:∀g∈U,B<=g):DB F j B d m O P L G c A:=by
 obtain⟨z,n,f,J,r,K,t⟩:=h;refine⟨z,n,f,J,Bb.same r (p.block m r.lt (λe=>by have:=v m e;have:=z m N1;omega)),λs l=> ?_,t⟩;rcases K s l with I|⟨u,D,E,Q,R,C,q⟩
 .exact dp I
 refine eb ⟨u,D,E,Q,R,C,?_⟩;rcases q with q|⟨b,k,x,y,H,N,M⟩
 .exact dp q
 by_cases hr:eh u.D=0
 .exact dp (B8 hr)
 have S:b<B:=t s l u D E C ⟨b,k,ba⟩ x hr;have o:=p.block b y (λe=>Dl (v b e));exact eb ⟨b,k,x,Zr y p.size,H,(by rw[o];exact N),λi s l=>(cell?_of_block (a:=⟨b,k+i,ba⟩) o).ag (M i s l)⟩
def DBk(w w':Zh)(base d m:Nat)(O O' P L:Value)(wd births:Int)(ks:List Kd)(s:Zi):Prop:=∀B,B<=w.1.size->DB w base B d m O P L wd births ks->DB w' base B d m O' P L wd births (Dk ks s)
theorem Ss.gi{a:Int}{f:Lit->Option Value}(h:Ss B a f)(k:Lit):Ss B a (gi f k):=by
 intro s b u c d e;refine h s b u c d ?_;unfold Proofs.YtfehblndlffcmaaGreatDoor.gi at e;split at e
 .cases e
 exact e
theorem VX{r:Nat}{K J t:Int}{o:C9}{T:Db}{S:Da}(u:Dr w r d m O P L K J t j o T S)(q:Fi K o)(hp:eh T<=100)(hl:eh S<=200)(zA:AA o s)(U:¬(((∃p∈T,p.sum=s)\/∃l∈S,l.sum=s)\/∃k∈o,s∈k.D)):
 D8 140 #[Yy d,C4 s] w λe z=>e=C5 (.tuple #[])/\∃y,Dr z r d m y P L K J t j (Dk o s) T S/\ej y=ej O/\Tn (vB d m O P L) w z/\DBk w z r d m O y P L K j o s:=by
 obtain⟨k0,Q,l⟩:=zA;have zA:AA o s:=⟨k0,Q,l⟩;have zH:=l▸q.sz k0 Q;have hlen:=length_pos_of_mem Q;obtain⟨g,D,rfl,zP,zS⟩:=BK u.ord (λe=>by have:=Au u.ord;obtain⟨a,c,e'⟩:=this;rw[e']at e;injection e with _ h2 _;omega);have HD:=Yw u;clear u;delta D8;go_in;go_wp2_with fail;refine(EM HD q.sz zA).ai ?_;rintro e w1 ⟨rfl,G⟩;have y:=Yw (Dr.A HD G);go_wp2_with fail;refine(KY s y q.nd q.sz q.D q.len hp hl).ai ?_;rintro e w2 ⟨ok,rfl,u,I⟩;obtain rfl:ok=bq:=by
  cases ok with
  |false=>rfl
  |true=>exact absurd (u.1 rfl) U
 have z:=Yw (Dr.A y I);clear u y;go_wp2_with fail;refine(MN s w2).ai ?_;rintro e C ⟨rfl,N⟩;have⟨E,y⟩:=D6 C (Yk (kB s)) 122;have zB:=(Ax y).1;have i:Aa E C.1.size (Bt s):=by rw[y];exact Aa.new C (Bt s) 122
 obtain⟨B4,u,A⟩:=((G.ag (I.ai G.size)).ag (N.ai (Zm G.size I.size))).ag (zB.ai (Zm (Zm G.size I.size) N.size)),Yw (Dr.A (Dr.A z N) zB),Yw y;clear y z;go_upto_region 4 with fail;rw[<-A.o];clear A;have⟨n,f,hn,Y,hH⟩:=u.map;have⟨w5,R,zJ,h⟩:=(Y.ah (Below.refl E.1.size E).drew Y.lt).del keyed underlying98 (EF s) 0;have H:∀A F,Bb E 122 m A F->Bb w5 122 m A (gi F (keyL s)):=λA F y=>by have⟨zW,M,W,_⟩:=(y.ah (Below.refl E.1.size E).drew y.lt).del keyed underlying98 (EF s) 0;rw[R]at M;cases M;exact W
 obtain⟨zI,zO,y⟩:=Yw Y,u.box.lt,u.ap;have zC:d≠m:=by intro e;unfold vB at y;simp[e]at y
 have Z:d≠g/\m≠g:=by unfold vB at y;simp[ownBlock]at y;omega
 obtain⟨zU,zV,z⟩:=(HD.map.choose_spec.choose_spec.2.1).lt,Zm (Zm G.size I.size) N.size,FV h;have k5:=Aa.au (v:=.int .u8 (kB s 0)) i z Yv;have b:=Aa.au u.box z (λe=>zC e.symm);have P4:ek E.drew (Zd d 1)=an (.map (an m))/\_:=⟨(u.box 1 _ rfl).1,Ib (w:=E.drew) i⟩;have P5:ek w5 (Zd d 1)=an (.map (an m))/\_:=⟨(b 1 _ rfl).1,Ib k5⟩;unfold CA Dg at R;go_region_held3 (λX=>ek X (Zd d 1)=an (.map (an m))/\(ek X (Zd (C.1.size) 0)=an (.int .u8 (kB s 0))/\ek X (Zd (C.1.size) 1)=an (.int .u8 (kB s 1))/\ek X (Zd (C.1.size) 2)=an (.int .u8 (kB s 2))/\ek X (Zd (C.1.size) 3)=an (.int .u8 (kB s 3))/\ek X (Zd (C.1.size) 4)=an (.int .u8 (kB s 4))/\ek X (Zd (C.1.size) 5)=an (.int .u8 (kB s 5))/\ek X (Zd (C.1.size) 6)=an (.int .u8 (kB s 6))/\ek X (Zd (C.1.size) 7)=an (.int .u8 (kB s 7))))
  (first|with_reducible exact P4|with_reducible exact P5)
  (first|(refine LZ Yp (.tmp 21) (.tmp 22) 98 122 Yp Yp Yp R ?_))
 have V:=ownsRow.kept u.ord z (eb (λe=>Z.2 (A8 e).symm));obtain⟨X,q0,q1,q2,q3,q4,q5,q6,q7⟩:=TU m g D P L K J t j o s b V q.len (Dl q.w8) (λx p=>Dl (q.sz x p)) q.dz,Ib k5;have p:=Yw X;unfold CA Dg at p;have x:=Yw (Zn b V);have H5:=Yw (Zn H (Zn z hH));clear X P4 P5 R zJ h z b V i k5 Y H;go_wp2_with fail;refine p.Aj ?_;rintro e w6 ⟨i,rfl,h,Y⟩;have H:=TY h (mem_map.2 ⟨k0,Q,l⟩) q.dz;have zT:=q.len;have X:i<eh o:=by have:=(Zw H).1;simpa using this
 have x6:=Aa.A x.1 Y;obtain⟨y5,f5⟩:=x6 5 _ rfl;have b:eo w6 r 122 8 (Yz g (eh (o.map (·.sum))) D) (eh (o.map (·.sum))) (AV (o.map (·.sum))):=by rw[B0];exact Ah x.2 Y
 have z:=MP (eb (eb ⟨rfl,rfl,rfl,rfl⟩)) TM Hg g D i (o.map (·.sum)) b (by rw[B0];exact q.len) (by rw[B0];exact X);rw[B0]at z;have V:=Yw z;have R:=Yw (Zn H (Zn x6 Y));clear h H x6 z b p q0 q1 q2 q3 q4 q5 q6 q7;go_wp2_with fail;refine V.Aj ?_;rintro e w7 ⟨rfl,H,z⟩;have b:=Aa.au R.2.1 z (λe=>Z.1 e.symm);obtain⟨y7,f7⟩:=b 5 _ rfl;have p:=Yw (Zn b (Zn H z));clear b H z y5 f5 V;go_wp2;go_end0;have V:Tn [d,m,g] E (ev w7 (Zd d 5) (Yz g (eh o -1) D)):=
  (((Tn.grown H5.2.1 Yu).ag (Tn.of R.2.2)).ag (Tn.grown p.2.2 Yu)).ag (Tn.set w7 d 5 _ Yu)
 have H:∀b∈[d,m,g],b∈vB d m (Yz g (eh o) D) P L:=by intro b z;simp at z;unfold vB;rcases z with rfl|rfl|rfl<;>simp[ownBlock]
 have zG:∀v:Value,(v=P\/v=L)->∀b,ej v=an b->b∉[d,m,g]:=by
  intro v hv b z zE;unfold vB at y;rcases hv with rfl|rfl
  .simp only[nodup_cons,Cf,Bw,By,z]at y;simp[ownBlock]at y zE
   grind
  simp only[nodup_cons,Cf,Bw,By,z]at y;simp[ownBlock]at y zE
  grind
 have zM:∃k,o[i]?=an k/\k.sum=s:=by
  have:=R.1;rw[getElem?_map]at this;cases hk:o[i]? with
  |none=>rw[hk]at this;cases this
  |some k=>rw[hk]at this;exact⟨k,rfl,D2 this⟩
 obtain⟨ki,zN,k⟩:=zM;have zK:=k▸QH q.nd zN;have zF:∀A F,Bb E 122 m A F->Bb (ev w7 (Zd d 5) (Yz g (eh o -1) D)) 122 m A (gi F (keyL s)):=λA F h=>by have h5:=H5.1 A F h;refine Bb.same (Bb.same (h5.ah R.2.2 h5.lt) (p.2.2.block m (Zr h5.lt R.2.2.size) (λe=>Z.2 (A8 e)))) ?_;exact Below.heap_setCell _ _ _ _ (λe=>zC e.symm)
 refine⟨rfl,Yz g (eh o -1) D,⟨Aa.set p.1 5 _,⟨n,gi f (keyL s),hn,zF n f zI,?_⟩,?_,?_,?_,u.bd,u.bm,y⟩,rfl,(Tn.of B4).ag (V.ai H),λB _ ⟨hv,A,F,h0,h,h2,h3⟩=>⟨hv,A,_,h0,zF A F (h.ah B4 h.lt),BS.drop (h2.A B4) (V.ai H) zH q.w8,h3.gi _⟩⟩
 .exact BS.drop H5.2.2 (V.ai H) zH q.w8
 .rw[zK];have h:eh (o.eraseIdx i)=eh o -1:=by rw[length_eraseIdx,if_pos X]
  rw[h];have h2:(o.eraseIdx i).map (·.sum)=(o.map (·.sum)).eraseIdx i:=by simp[eraseIdx_eq_take_drop_succ]
  rw[h2];exact BM p.2.1 (λb z=>by simp[ownBlock]at z;omega) 5 _
 .exact Ar u.de (λb z=>V.block b (Ac u.de z).2 (zG P (dp rfl) b z))
 exact Ar u.dh (λb z=>V.block b (Ac u.dh z).2 (zG L (eb rfl) b z))
theorem VY{b c:Zh}(h:bs m a b)(g:bs n b c)(i:k<=m)(j:k<=n):bs k a c:=(h.ai i).ag (g.ai j)
theorem VZ{b:Zh}{o:Obj}(h:bs k a b)(i:k<=b.1.size):bs k a (b.alloc o):=h.alloc i o
theorem Wa{b:Zh}(h:bs k a b):bs k a b.drew:=h.drew
theorem Abo{l:Zj}(h:Aa w b l)(g:bs k w X)(i:b<k):Aa X b l:=λj v a=>⟨(g.cell (p:=⟨b,j,ba⟩) i).ag (h j v a).1,(g.frozen (p:=⟨b,j,ba⟩) i).ag (h j v a).2⟩
theorem Abp{l:Zj}(h:Aa w b l)(g:Tn V w X)(i:b<w.1.size)(j:b∉V):Aa X b l:=Aa.same h (g.block _ i j)
theorem Abq{b c:Zh}(h:Tn V a b)(g:Tn V b c):Tn V a c:=h.ag g
theorem Abr{b c:Zh}(h:bs k a b)(g:Tn V b c)(i:k<=b.1.size)(j:∀v∈V,k<=v):bs k a c:=h.ag (g.A i j)
theorem gT(h:p:=by simp;omega):p:=h
theorem gA(h:p:=by simp_all):p:=h
theorem gG(h:p:=by grind):p:=h
theorem gB(h:p:=by grind [->Below.size,VY,VZ,Wa,Below.refl,Ao]):p:=h
theorem gC(h:p:=by grind [->Below.size,->Tn.size,VY,VZ,Wa,Below.refl,Ao,Abo,Abp,Abq,Abr]):p:=h
theorem gH(h:p:=by grind [Hid]):p:=h
theorem gD(h:p:=by grind [Hid,->Below.size,->Tn.size,VY,VZ,Wa,Below.refl,Ao,Abo,Abp,Abq,Abr]):p:=h
theorem hO(h:p:=by omega):Hid p:=h
theorem hS(h:p:=by simp):Hid p:=h
theorem hT(h:p:=by simp;omega):Hid p:=h
theorem Dr.db{h e c:Int}{i:C9}{k:Db}{j:Da}(f:Dr w g d m O P L l h e c i k j):∀b∈vB d m O P L,b<w.1.size:=by
 intro b a;unfold vB at a;simp only[Cf,Bw,By]at a;rcases a with rfl|rfl|a|a|a
 .exact f.box.lt
 .exact(f.map.choose_spec.choose_spec.2.1).lt
 .exact(Ac f.ord a).2
 .exact(Ac f.de a).2
 exact(Ac f.dh a).2
def Cq(c:Int)(a b:Zi):Value:=.iface 162 (ct #[Zg c,.string a,.string b])
theorem TZ{q b a:Int}{h:C9}{j:Db}{i:Da}(g:Dr w c d m O P L q o b a h j i)(f:Fi q h)(A:eh j<=100)(z:eh i<=200)(y:AA h s)(r:((∃p∈j,p.sum=s)\/∃l∈i,l.sum=s)\/∃k∈h,s∈k.D):
 D8 140 #[Yy d,C4 s] w λe n=>e=.panicked [{v:=Cq 6 ⟨#[]⟩ ⟨#[]⟩,recovered:=bq}]/\Zz w n:=by
 have u:=Yw g;clear g;delta D8;go_in;go_wp2_with fail;refine(EM u f.sz y).ai ?_;rintro e B ⟨rfl,n⟩;have t:=Yw (Dr.A u n);go_wp2_with fail;refine(KY s t f.nd f.sz f.D f.len A z).ai ?_;rintro e D ⟨C,rfl,g,x⟩;obtain rfl:=g.2 r;clear g t;go_wp2;exact⟨rfl,rfl,n.ag (x.ai n.size)⟩
def z12:Zj:=[Ze,Ze,Ze,Ze,Ze,Zb,Zb,Zb,Zc,Ze,Zc,Zc]
theorem Bv(h:Aa w b z12):(ek w (Zd b 0)=an Ze/\el w ⟨b,0,ba⟩=bq)/\(ek w (Zd b 1)=an Ze/\el w ⟨b,1,ba⟩=bq)/\(ek w (Zd b 2)=an Ze/\el w ⟨b,2,ba⟩=bq)/\(ek w (Zd b 3)=an Ze/\el w ⟨b,3,ba⟩=bq)/\(ek w (Zd b 4)=an Ze/\el w ⟨b,4,ba⟩=bq)/\(ek w (Zd b 5)=an Zb/\el w ⟨b,5,ba⟩=bq)/\(ek w (Zd b 6)=an Zb/\el w ⟨b,6,ba⟩=bq)/\(ek w (Zd b 7)=an Zb/\el w ⟨b,7,ba⟩=bq)/\(ek w (Zd b 8)=an Zc/\el w ⟨b,8,ba⟩=bq)/\(ek w (Zd b 9)=an Ze/\el w ⟨b,9,ba⟩=bq)/\(ek w (Zd b 10)=an Zc/\el w ⟨b,10,ba⟩=bq)/\(ek w (Zd b 11)=an Zc/\el w ⟨b,11,ba⟩=bq):=
 ⟨h 0 _ rfl,h 1 _ rfl,h 2 _ rfl,h 3 _ rfl,h 4 _ rfl,h 5 _ rfl,h 6 _ rfl,h 7 _ rfl,h 8 _ rfl,h 9 _ rfl,h 10 _ rfl,h 11 _ rfl⟩
theorem BB(w:Zh)(R:Nat)(c d e f g i k l m n a b:D4):Tn [R] w (ev (ev (ev (ev (ev (ev (ev (ev (ev (ev (ev (ev w (Zd R 0) c) (Zd R 1) d) (Zd R 2) e) (Zd R 3) f) (Zd R 4) g) (Zd R 5) i) (Zd R 6) k) (Zd R 7) l) (Zd R 8) m) (Zd R 9) n) (Zd R 10) a) (Zd R 11) b):=
 have h:∀(x:Zh) (j:Nat) (v:D4),Tn [R] x (ev x (Zd R j) v):=λx j v=>Tn.set x R j v Yu
 (((((((((((h w 0 c).ag (h _ 1 d)).ag (h _ 2 e)).ag (h _ 3 f)).ag (h _ 4 g)).ag (h _ 5 i)).ag (h _ 6 k)).ag (h _ 7 l)).ag (h _ 8 m)).ag (h _ 9 n)).ag (h _ 10 a)).ag (h _ 11 b)
theorem Tn.fresh{f e:Zh}(a:Tn V w f)(c:Tn [R] f e)(h:w.1.size<=R):Tn V w e:=
 ⟨c.os.ag a.os,c.tape.ag a.tape,c.output.ag a.output,Zm a.size c.size,λb d g=>(c.block b (Zr d a.size) Yt).ag (a.block b d g)⟩
theorem St(p:Addr)(w:Zh):
 CallsD prog 96 #[.pointer (an p)] .returning w λe a b=>e=C5 (.tuple #[])/\a=.returning/\b=w:=by
 have a:∀w:Zh,(binOp BinOp.eql 20 .nilIface .nilIface).run prog w=.ok (ef bg) w:=λ_=>Yr;refine callsD_of_wpS func96 rfl λc₀ cs hu=> ?_;apply wpS_seq;apply wpS_region;simp[wpOpsS,go_sem,recoverD,hu,ntmps96,Exit.thenS];refine wpS_of_wp ?_;change Code.wp prog _ _ {tmps:= #[pointer (an p),undef,undef,undef,nilIface,undef,undef,undef,undef,undef,undef,undef,undef,undef,undef,undef,undef],defers:=[]} w;go_wp2;cases c₀;simp_all [bodyPostS,results,results96]
theorem Su(h:Aa w b z12)(d e f g i j k l m n a c:D4):Aa (ev (ev (ev (ev (ev (ev (ev (ev (ev (ev (ev (ev w (Zd b 0) d) (Zd b 1) e) (Zd b 2) f) (Zd b 3) g) (Zd b 4) i) (Zd b 5) j) (Zd b 6) k) (Zd b 7) l) (Zd b 8) m) (Zd b 9) n) (Zd b 10) a) (Zd b 11) c) b [d,e,f,g,i,j,k,l,m,n,a,c]:=
 ((((((((((((h.set 0 d).set 1 e).set 2 f).set 3 g).set 4 i).set 5 j).set 6 k).set 7 l).set 8 m).set 9 n).set 10 a).set 11 c)
def Cr(c:Int)(a b:Zi):Zj:=[Zg c,Ze,Ze,Ze,Ze,Zb,Zb,Zb,Zc,Ze,.string a,.string b]
theorem QI(c:Int)(a b:Zi)(d:Aa w R z12):
 CallsD prog 96 #[Yy R] (.panicking [{v:=Cq c a b,recovered:=bq}]) w λe g f=>e=C5 (.tuple #[])/\g=.panicking [{v:=Cq c a b,recovered:=bg}]/\Aa f R (Cr c a b)/\Tn [R] w f:=by
 have g:∀w:Zh,(binOp BinOp.eql 20 (.iface 162 (ct #[Zg c,C4 a,C4 b])) .nilIface).run prog w=.ok (ef bq) w:=λ_=>by first|rfl|kernel_rfl
 have j:∀w:Zh,(Instr.typeAssert (.iface 162 (ct #[Zg c,C4 a,C4 b])) 20 162 bg).run prog w=.ok (.tuple #[ct #[Zg c,C4 a,C4 b],ef bg]) w:=λ_=>by first|rfl|kernel_rfl
 have⟨⟨A,o⟩,⟨B,p⟩,⟨C,q⟩,⟨D,r⟩,⟨E,s⟩,⟨F,t⟩,⟨G,u⟩,⟨H,x⟩,⟨I,y⟩,⟨J,z⟩,⟨m,k⟩,n,l⟩:=Bv d;have h:=Aa.lt (v:=Ze) d;have i:¬w.1.size=R:=Yv;have f:¬R=w.1.size:=Yv;unfold Cq;refine callsD_of_wpS func96 rfl λc₀ cs hu=> ?_;apply wpS_seq;apply wpS_region;simp[wpOpsS,go_sem,recoverD,hu,ntmps96,Exit.thenS];refine wpS_of_wp ?_;change Code.wp prog _ _ {tmps:= #[Yy R,undef,undef,undef,.iface 162 (ct #[Zg c,C4 a,C4 b]),undef,undef,undef,undef,undef,undef,undef,undef,undef,undef,undef,undef],defers:=[]} w;go_wp2;simp[bodyPostS,results,results96];exact⟨Aa.A (v:=Zg c) (Su d _ _ _ _ _ _ _ _ _ _ _ _) (Zy),(BB w R _ _ _ _ _ _ _ _ _ _ _ _).ag (Tn.of (Zy))⟩
theorem Holds.low{b:Int}{a:C9}{f:Lit->Option Value}(h:Holds W B b a f)(i:bs B W w):Holds w B b a f:=by
 intro s j;rcases h s j with h|⟨u,k,l,c,d,e,g⟩
 .exact dp h
 exact eb ⟨u,k,l,c,d,e,Ab.A g i⟩
def HU(w:Zh)(base m:Nat)(wd:Int)(ks:List Kd):Prop:=∃n f,n<=1000000/\Bb w 122 m n f/\Holds w base wd ks f/\m<base+4
theorem HU.S{g:Zh}{a:Nat}{i:Int}{e:C9}(h:HU w a m i e)(d:Tn V w g)(p:a<=w.1.size)(o:∀b∈V,a<=b)(q:m∉V):HU g a m i e:=by obtain⟨n,f,j,c,k,l⟩:=h;exact⟨n,f,j,Bb.same c (d.block m c.lt q),k.low (d.A p o),l⟩
theorem AX(w:Zh)(R j:Nat)(v:D4):Tn [R] w (ev w (Zd R j) v):=Tn.set w R j v Yu
theorem Du{c:Zh}{b:Option Nat}(a:ep w c b):Tn b.toList w c:=⟨a.os,a.tape,a.output,a.size,λk d f=>a.block k d (λe=>f (by simp[<-e]))⟩
theorem Sv(v n c a:Int)(T:D4){p l:Zk}(u t:Nat){d:Db}{f:Da}(s:Zi)(r:AS w w.1.size p d)(q:AR w w.1.size l f)(P:eh d<=1000)(O:eh f<=1000):
 D8 119 #[ct #[Zg v,Zg n,Zg c,Zg a,T,C3 p (eh d) u,C3 l (eh f) t],C4 s] w λe g=>Av ((∃p∈d,p.sum=s)\/∃l∈f,l.sum=s) w g e:=by
 obtain⟨I,G,F⟩:=Yw r,Yw q,AW.new w v n c a T (C2 p d u) (C2 l f t) 30;have m:bs w.1.size w (w.alloc (ca #[Zg v,Zg n,Zg c,Zg a,T,C2 p d u,C2 l f t] 30)):=gB;have⟨W,g⟩:=D6 w #[Zg v,Zg n,Zg c,Zg a,T,C2 p d u,C2 l f t] 30;rw[<-g]at F m;have o:=Yw g;clear r q g;obtain⟨g,q,r,z,A,R,S,U⟩:=F;clear g q r z A;delta D8;go_in;go_upto_region 1 with fail;rw[<-o.o];clear o;go_wp2
 go_loop [5] (λi=>∃k:Nat,k<=eh d/\i=Zg k/\Hid (∀j x,j<k->d[j]?=an x->¬x.sum=s)) (λi=>eh d -(intOf i).toNat)
 case atStart=>exact⟨0,Aq _,rfl,(λj x h=>Yv)⟩
 obtain⟨k,N,rfl,g⟩:=hrel;by_cases hlt:k<eh d
 .obtain⟨b,J,B,M,q⟩:=(AS.A I m).at hlt;subst B;have o:Hid (d[k]?=an d[k]):=gH;obtain⟨K,L⟩:=q k _ o;clear q;generalize d[k]=x at *
  by_cases h:x.sum=s
  .have D:(x.sum.toList==s.toList)=bg:=gA;have A:=Yw h;clear h;go_wp2;refine bodyPost_ret (results_tmp rfl _ _ _) rfl ?_;exact Av.yes (dp ⟨x,Zs o,A⟩) m
  have D:(x.sum.toList==s.toList)=bq:=BJ h;have z:Hid (∀j y,j<k+1->d[j]?=an y->¬y.sum=s):=gH;clear h;go_wp2;exact⟨⟨k+1,Yv,Yn,z⟩,Ys⟩
 have H:Hid (¬∃p∈d,p.sum=s):=by rintro⟨y,E,r⟩;obtain⟨j,C,rfl⟩:=getElem_of_mem E;exact g j _ Yv (Zv C) r
 clear g;go_wp2
 go_loop [6] (λi=>∃k:Nat,k<=eh f/\i=Zg k/\Hid (∀j x,j<k->f[j]?=an x->¬x.sum=s)) (λi=>eh f -(intOf i).toNat)
 case atStart=>exact⟨0,Aq _,rfl,(λj x h=>Yv)⟩
 obtain⟨k,N,rfl,g⟩:=hrel;by_cases hlt:k<eh f
 .obtain⟨b,J,B,M,q⟩:=(AR.A G m).at hlt;subst B;have o:Hid (f[k]?=an f[k]):=gH;obtain⟨K,L,Q⟩:=q k _ o;clear q;generalize f[k]=x at *
  by_cases h:x.sum=s
  .have D:(x.sum.toList==s.toList)=bg:=gA;have A:=Yw h;clear h;go_wp2;refine bodyPost_ret (results_tmp rfl _ _ _) rfl ?_;exact Av.yes (eb ⟨x,Zs o,A⟩) m
  have D:(x.sum.toList==s.toList)=bq:=BJ h;have z:Hid (∀j y,j<k+1->f[j]?=an y->¬y.sum=s):=gH;clear h;go_wp2;exact⟨⟨k+1,Yv,Yn,z⟩,Ys⟩
 go_wp2;refine bodyPost_ret (results_tmp rfl _ _ _) rfl ?_;refine Av.no (λe=> ?_) m;rcases e with e|⟨y,E,r⟩
 .exact absurd e H
 obtain⟨j,C,rfl⟩:=getElem_of_mem E;exact absurd r (g j _ Yv (Zv C))
def Iz(n:Nat)(r:Int):Prop:=r= -1\/∃i:Nat,r=i/\i<n
theorem Wb(q j d c h:Int){a:Zk}(o:Nat)(P L:D4){f:C9}(g:Br w w.1.size a f)(X:eh f<=1000):
 D8 143 #[ct #[Zg q,Zg j,Zg d,Zg c,C3 a (eh f) o,P,L],Zg h] w λe l=>∃r:Int,e=C5 (Zg r)/\Iz (eh f) r/\Zz w l:=by
 have B:=Yw g;have p:=AW.new w q j d c (C2 a f o) P L 30;have C:bs w.1.size w (w.alloc (ca #[Zg q,Zg j,Zg d,Zg c,C2 a f o,P,L] 30)):=gB;have⟨W,l⟩:=D6 w #[Zg q,Zg j,Zg d,Zg c,C2 a f o,P,L] 30;rw[<-l]at p C;have n:=Yw l;have H:=Yw p;have S:w.1.size<W.1.size:=gB;clear g l p;delta D8;go_in;go_upto_region 1 with fail;rw[<-n.o];clear n;go_wp2;go_loopw [5,6] (λv i wr=>∃(k:Nat) (r:Int),k<=eh f/\i=Zg k/\v=Zg r/\Hid (Iz k r/\Zz W wr)) (λ_ i _=>eh f -(intOf i).toNat)
 case atStart=>exact⟨0, -1,Aq _,rfl,rfl,dp rfl,Ae⟩
 obtain⟨k,r,V,rfl,rfl,n⟩:=hrel;have g:=n.2;have F:=g.size;have s:bs w.1.size w wr:=gB;have⟨_,_,_,_,A,_,_,_⟩:=AW.A H g;by_cases hlt:k<eh f
 case neg=>have u:Hid (Iz (eh f) r):=n.1.imp id (λ⟨i,h1,h2⟩=>⟨i,h1,Yv⟩);go_wp2;go_ret;exact⟨r,rfl,u,s⟩
 obtain⟨b,T,N,U,l⟩:=(Br.A B s).at hlt;subst N;have G:Hid (f[k]?=an f[k]):=gH;obtain⟨_,z,_⟩:=l k _ G;have t:b<wr.1.size:=Yv;obtain⟨Q,O,E,u⟩:=Aw.cell A (show w.1.size<wr.1.size by omega),Aw.cell z t,Aw.ne wr,Yw l;clear l;generalize f[k]=x at *
 by_cases p:x.born<h
 case' neg=>
  have I:bx (x.born<h)=bq:=Yt;have l:Hid (Iz (k+1) r):=n.1.imp id (λ⟨i,h1,h2⟩=>⟨i,h1,Yv⟩)
 case' pos=>
  have I:bx (x.born<h)=bg:=Yt;by_cases hr:r<0
  case' pos=>
   have J:bx (r<0)=bg:=Yt;have l:Hid (Iz (k+1) (k:Int)):=eb ⟨k,rfl,Yv⟩
  case' neg=>
   have J:bx (r<0)=bq:=Yt;obtain⟨i,rfl,R⟩:∃i:Nat,r=i/\i<k:=n.1.resolve_left Yv;have D:i<eh f:=Yv;obtain⟨_,M,_⟩:=u i _ (Zv D);generalize f[i]=y at *
   have Y:=Aw.cell M t;by_cases hg:y.born<x.born
   case' pos=>
    have K:bx (y.born<x.born)=bg:=Yt;have l:Hid (Iz (k+1) (k:Int)):=eb ⟨k,rfl,Yv⟩
   case' neg=>
    have K:bx (y.born<x.born)=bq:=Yt;have l:Hid (Iz (k+1) (i:Int)):=eb ⟨i,rfl,Yv⟩
 all_goals
  clear u;go_wp2;refine AP Yr Yr ?_
  repeat (go_big_quiet_step (fail))
  refine wpQuiet_nil ?_;intro m;clear Q O E z A;go_wp2;exact⟨⟨k+1,_,Yv,Yn,rfl,⟨l,g.ag (m.h.ai F)⟩⟩,Ys⟩
theorem FJ{a:Zk}(m:Nat){c:Zl}(s:Zi)(f:Ab w B a c)(v:eh c<=1048576):
 D8 48 #[C3 a (eh c) m,C4 s] w λe d=>e=C5 (ef (c.any (λx=>decide (x=s))))/\d=w:=by
 delta D8;go_in;go_wp2
 go_loop [5] (λi=>∃k:Nat,k<=eh c/\i=Zg k/\Hid (∀j x,j<k->c[j]?=an x->x≠s)) (λi=>eh c -(intOf i).toNat)
 case atStart=>exact⟨0,Aq _,rfl,λj x h=>Yv⟩
 obtain⟨k,u,rfl,d⟩:=hrel;by_cases hlt:k<eh c
 .obtain⟨b,q,n,t,g⟩:=f.at hlt;subst n;have l:=Yw (Zv hlt);have r:=g k _ l;clear g f;generalize c[k]=x at *
  by_cases he:x=s
  .subst he;have o:Hid (c.any (λy=>decide (y=x))=bg):=gH;go_wp2;go_ret;exact⟨AH o.symm,rfl⟩
  have p:=BJ he;have g:Hid (∀j y,j<k+1->c[j]?=an y->y≠s):=gH;clear he d l;go_wp2;exact⟨⟨k+1,Yv,Yn,g⟩,Ys⟩
 go_wp2;go_ret;refine⟨AH ?_,rfl⟩
 symm
 rw[any_eq_false];intro x l;have⟨j,f⟩:=A9 l;simpa using d j x (Dl (Zw f).1) f
theorem Lx{P:Program}{D:Array Oper}{o:Oper}{a:Act}{K:Act->Zh->Prop}{Q:Exit->Act->Zh->Prop}(N:o.guard=ba)(I x:Operand)(t:TypeId)(W:o.op=.call {callee:=.builtin .append,args:= #[I,x],argTypes:= #[t,t]})(i:TypeInfo)(z:D4)(bytes:Nat)(Y:P.underlying t=an (.slice e))(V:P.info? e=an i)(hz:i.zero=an z)(v:i.size=1)(M:i.bytes=bytes)(O:z.cells.size=1)(q:Nat)(G:Nat)(J:Zl)(A:a.eval I=Yz q n G)(C:eo w b e 1 (Yz q n G) n (J.map string))(F:Addr)(m c:Nat)(B:Zl)(hx:a.eval x=C3 (an F) m c)(hl:eh B=m)(r:∀j s,B[j]?=an s->ek w (F.add j)=an (C4 s))(L:n+m<=ew)(f:(n+m) *bytes<=140737488355328)(p:b<=w.1.size)(h:∀g d l,eo l b e 1 (Yz g (n+m) d) (n+m) ((J++B).map string)->ep w l (an q)->(g=q\/g=w.1.size)->g<l.1.size->K (a.put o.dst (Yz g (n+m) d)) l):
 if Region.wanted o (yielded D a.tmps)=bg then Oper.wp P o a w K Q else E:=by
 have Z:Region.wanted o (yielded D a.tmps)=bg:=by simp[Region.wanted,N]
 rw[if_pos Z];obtain⟨v',l,X,H,S,T,y⟩:=run_append_own_at (P:=P) w b t o.type e i z 1 bytes Y V hz v M O Yq _ n _ C F m c (B.map string) Yt
  (fun j u k=>by
    rw[getElem?_map]at k;cases A:B[j]? with
    |none=>rw[A]at k;cases k
    |some s=>rw[A]at k;cases k;exact r j s A)
  (λu k=>by obtain⟨s,_,rfl⟩:=mem_map.1 k;rfl) L f p
 have k:∃g d,v'=Yz g (n+m) d:=by
  rcases Joins.ownsRow_forms H with⟨R,_⟩|U
  .have:=(T.1 R).1;cases this
  exact U
 obtain⟨g,d,rfl⟩:=k;unfold Oper.wp execOp;simp only[W,resolve,invoke,builtin,Sem.run_bind,Sem.run_pure,Result.andThen_ok,map_toArray,map_cons,map_nil,A,hx,X];refine h g d l Yt S ?_ (H.lt g rfl).2;rcases y with y|y
 .left;simpa [ownBlock]using y
 right;simpa [ownBlock]using y
theorem Az{P:Program}(w:Zh){F:Array Oper}{o:Oper}{a:Act}{K:Act->Zh->Prop}{Q:Exit->Act->Zh->Prop}(D:o.guard=ba)(G x:Operand)(t:TypeId)(L:o.op=.call {callee:=.builtin .append,args:= #[G,x],argTypes:= #[t,t]})(b:Nat)(e:TypeId)(i:TypeInfo)(z:D4)(bytes:Nat)(N:P.underlying t=an (.slice e))(I:P.info? e=an i)(V:i.zero=an z)(p:i.size=1)(S:i.bytes=bytes)(T:z.cells.size=1)(q n u:Nat)(H:Zl)(M:a.eval G=Yz q n u)(d:eo w b e 1 (Yz q n u) n (H.map string))(r:Zk)(m c:Nat)(v:Zl)(O:a.eval x=C3 r m c)(J:eh v=m)(B:r=ba->m=0/\c=0)(l:∀A,r=an A->∀j s,v[j]?=an s->ek w (A.add j)=an (C4 s))(R:n+m<=ew)(f:(n+m) *bytes<=140737488355328)(k:b<=w.1.size)(h:∀g C y,eo y b e 1 (Yz g (n+m) C) (n+m) ((H++v).map string)->ep w y (an q)->(g=q\/g=w.1.size)->g<y.1.size->K (a.put o.dst (Yz g (n+m) C)) y):
 if Region.wanted o (yielded F a.tmps)=bg then Oper.wp P o a w K Q else E:=by
 cases r with
 |some A=>exact Lx D G x t L i z bytes N I V p S T q u H M d A m c v O J (l A rfl) R f k h
 |none=>
  obtain⟨rfl,rfl⟩:=B rfl;have y:=B8 J;subst y;have U:Region.wanted o (yielded F a.tmps)=bg:=by simp[Region.wanted,D]
  rw[if_pos U];have C:=run_append_owned_none (P:=P) w b t o.type e i 1 N I _ n _ d;unfold Oper.wp execOp;simp only[L,resolve,invoke,builtin,Sem.run_bind,Sem.run_pure,Result.andThen_ok,map_toArray,map_cons,map_nil,M,O,C];exact h q u w Yt ⟨rfl,rfl,rfl,Zx,λ_ _ _=>rfl⟩ (dp rfl) (d.lt q rfl).2
theorem Ab.bi{a:Zk}{d:Zl}(h:Ab w B a d):∀A,a=an A->∀j s,d[j]?=an s->ek w (A.add j)=an (C4 s):=by
 rintro A rfl j s c;rcases h with h|⟨b,g,e,_,f⟩
 .subst h;simp at c
 cases e;have:=f j s c;rw[A7];exact this
theorem Gz(t:Zi){k:Zk}(r:Nat){b:Zl}(O:Ab w w.1.size k b)(s:k=ba->eh b=0/\r=0)(T:eh b<=1048576):
 D8 84 #[ct #[C4 t,C3 k (eh b) r]] w λe d=>∃g c,e=C5 (ct #[C4 t,Yz g (eh b) c])/\
  eo d w.1.size 9 1 (Yz g (eh b) c) (eh b) (b.map string)/\Zz w d:=by
 obtain⟨⟨P,N,H,I,J⟩,o,d⟩:=info_parts Ck,D6 w #[C4 t,C2 k b r] 76;obtain⟨l,A,u,W,q⟩:=(Ax d).1,(Ax d).2.2,(Ax d).2.1,D6 o #[Zc,Zb] 76;have m:=(Ax q).1;obtain⟨n,C,h⟩:=(Ax q).2.2,A.A m,l.ag (m.ai l.size);obtain⟨x,B,D⟩:=n.lt,Ag o.1.size;have z:w.1.size<B:=Yv;rw[<-D]at n x;have i:w.1.size<W.1.size:=Yv;have G:=Yw d;have L:=Yw q;have M:Hid (w.1.size+1=B):=gD;obtain⟨E,F⟩:=Aa.c2 C 0 1;have f:bs W.1.size W (W.alloc (ca #[] 9)):=gB;have Q:eo (W.alloc (ca #[] 9)).drew (B+1) 9 1 (Yz W.1.size 0 0) 0 (([]:Zl).map string):=ownsRow_lit W #[] 0 Yv Yo rfl;have R:=(Ab.A O (h.ag (f.drew.ai h.size))).bi;obtain⟨X,Y,K,y⟩:=(f.cell (p:=⟨w.1.size,0,ba⟩) i).ag E,(f.cell (p:=⟨w.1.size,1,ba⟩) i).ag F,Yw n,Yw h;clear d q D l m A n C h u;delta D8;go_in;go_upto_region 1 with fail;rw[<-G.o,<-L.o,M.o]
 go_region_law (first
  |(refine Az (W.alloc (ca #[] 9)).drew rfl (.tmp 5) (.tmp 7) 23 rfl (B+1) 9 P Zc 16 underlying23 N H I J rfl W.1.size 0 0 [] rfl Q k (eh b) r b rfl rfl s R Yo Yv Yt ?_;intro D h S l n q u;simp only[Ay,nil_append]at l;have d:bs W.1.size W S:=f.drew.grown n Yu (λj m=>by cases m;exact Zx);have m:=Aa.A K d;obtain⟨y0,f0⟩:=m 0 _ rfl;obtain⟨y1,f1⟩:=m 1 _ rfl;have U:=(d.cell (p:=⟨w.1.size,0,ba⟩) i).ag E;have V:=(d.cell (p:=⟨w.1.size,1,ba⟩) i).ag F))
 all_goals
  have C:=Yw l;have A:=Yw (y.ag (d.ai y.size));go_wp2;refine C1 (ct #[C4 t,C6 D b h]) (by simp[results,results84,go_sem, *]) ?_;refine⟨_,_,rfl,?_,?_⟩
  .exact(ownsRow_setCell_below (ownsRow_setCell_below C (a:=⟨B,0,ba⟩) (Nat.lt_succ_self B) _) (a:=⟨B,1,ba⟩) (Nat.lt_succ_self B) _).ai Yv
  exact(A.setCell (p:=⟨B,0,ba⟩) (Nat.le_of_lt z) _).setCell (p:=⟨B,1,ba⟩) (Nat.le_of_lt z) _
