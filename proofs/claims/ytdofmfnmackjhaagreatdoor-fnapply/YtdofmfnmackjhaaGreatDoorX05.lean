import Derived.Test.YtdofmfnmackjhaaGreatDoorX01
import Derived.Maps.AppendAt
import Derived.Maps.Range
import Derived.Laws.CopyRow
import Derived.Maps.OwnSet
import Derived.DeepKeys5
import Derived.Deep.Upon
import Derived.Deep.DrawnRows
import Derived.Deep.RegionHeld3
import Derived.WideKeyEntry
import Derived.Maps.Views
import Derived.Deep.RegionLaw
import Derived.Deep.DeepCutAuto
set_option maxRecDepth 100000
set_option maxHeartbeats 16000000
namespace Go.Proofs.YtdofmfnmackjhaaGreatDoor
open ChangeShapes WideShapes ChangeAt RowKit _root_.Go.Proofs.Tryz List World Value
variable{a b B c n i base h clock:Nat}{w f d W wr:Zh}{v x j val z L r:Value}{l k m:Zj}{U V t e K:TypeId}{p:Zk}{s:Zi}{P:Program}{o:Oper}{ks:Dj}
theorem WN(h:b<a):some a≠some b:=λe=>Dz (A4 e)
theorem Av(w:Zh)(g p:Nat)(v:D4):w.grownBy (w.setCell (Zd g p) v) (some g):=
 ⟨rfl,rfl,rfl,Yu,λi _ a=>Below.heap_setCell _ _ _ _ (λe=>a (by rw[e]))⟩
def Aa(w:Zh)(B:Nat)(l:Zj):Prop:=∀j v,l[j]?=some v->w.cell? (Zd B j)=some v/\w.frozen? ⟨B,j,none⟩=false
theorem Aa.lt(h:Aa w B (v::l)):B<w.1.size:=A6 w _ (h 0 v rfl).1
theorem Aa.dh(h:Aa w B (v::l))(c:w.grownBy f (some b))(a:b<B):Aa f B (v::l):=by intro j x e;have d:=h.lt;exact⟨(c.cell_far ⟨B,j,none⟩ d (WN a)).ah (h j x e).1,(c.frozen_far ⟨B,j,none⟩ d (WN a)).ah (h j x e).2⟩
theorem Aa.A(h:Aa w B (v::l))(a:Zz w d):Aa d B (v::l):=by intro j x c;have b:=h.lt;exact⟨(a.cell (p:=⟨B,j,none⟩) b).ah (h j x c).1,(a.frozen (p:=⟨B,j,none⟩) b).ah (h j x c).2⟩
theorem Aa.new(w:Zh)(l:Zj)(T:TypeId):Aa (w.alloc (.cells l.toArray T)) w.1.size l:=by intro j v a;refine⟨?_,Yu⟩;rw[cell?_alloc_at _ _ _ _ rfl];simpa using a
theorem Aa.aw{g:Zh}(h:Aa w B (v::l))(a:w.grownBy g (some c))(i:c≠B):Aa g B (v::l):=by intro j x f;have b:=h.lt;have d:some B≠some c:=λe=>i (A4 e).symm;exact⟨(a.cell_far ⟨B,j,none⟩ b d).ah (h j x f).1,(a.frozen_far ⟨B,j,none⟩ b d).ah (h j x f).2⟩
theorem Aa.set(h:Aa w B l)(j:Nat)(v:D4):Aa (w.setCell (Zd B j) v) B (l.set j v):=by
 intro i x a;by_cases hij:i=j
 .subst hij;have b:i<l.length:=by
   rcases Bz i l.length with c|c
   .exact c
   .rw[getElem?_eq_none (D2 c)]at a;cases a
  rw[getElem?_set_self b]at a;injection a with a;subst a;obtain⟨d,f⟩:=h i _ (Zv b);exact⟨by simp[go_sem,d],by simpa [go_sem]using f⟩
 .rw[getElem?_set_ne (λe=>hij e.symm)]at a;have⟨d,f⟩:=h i x a;refine⟨?_,by simpa [go_sem]using f⟩;rw[cell?_setCell_other _ _ _ _ (by intro e;injection e;omega)];exact d
theorem AE{T:TypeId}(h:W=w.alloc (.cells l.toArray T)):Below w.1.size w W/\W.1.size=w.1.size+1/\Aa W w.1.size l:=by subst h;exact⟨Zy,Yu,Aa.new w l T⟩
theorem Aa.alloc(h:Aa w B l)(a:B<w.1.size)(o:Obj):Aa (w.alloc o) B l:=λj v b=>
 ⟨(((Below.refl w.1.size w).alloc (Zx) o).cell (p:=⟨B,j,none⟩) a).ah (h j v b).1,(((Below.refl w.1.size w).alloc (Zx) o).frozen (p:=⟨B,j,none⟩) a).ah (h j v b).2⟩
theorem Bi{T:TypeId}(h:W=(w.alloc (.cells l.toArray T)).alloc (.cells k.toArray U)):Below w.1.size w W/\W.1.size=w.1.size+2/\Aa W w.1.size l/\Aa W (w.1.size+1) k:=by obtain⟨a,d,e⟩:=AE (w:=w) (l:=l) (T:=T) rfl;have⟨f,b,c⟩:=AE h;rw[d]at b c;subst h;exact⟨a.ah (f.aj a.size),b,e.alloc Yv _,c⟩
theorem BI{T:TypeId}(h:W=((w.alloc (.cells l.toArray T)).alloc (.cells k.toArray U)).alloc (.cells m.toArray V)):Below w.1.size w W/\W.1.size=w.1.size+3/\Aa W w.1.size l/\Aa W (w.1.size+1) k/\Aa W (w.1.size+2) m:=by obtain⟨a,d,e,f⟩:=Bi (w:=w) (l:=l) (T:=T) (k:=k) (U:=U) rfl;have⟨g,b,c⟩:=AE h;rw[d]at b c;subst h;exact⟨a.ah (g.aj a.size),b,e.alloc Yv _,f.alloc Yv _,c⟩
theorem ZR{n:Zj}{T R:TypeId}(h:W=(((w.alloc (.cells l.toArray T)).alloc (.cells k.toArray U)).alloc (.cells m.toArray V)).alloc (.cells n.toArray R)):Below w.1.size w W/\W.1.size=w.1.size+4/\Aa W w.1.size l/\Aa W (w.1.size+1) k/\Aa W (w.1.size+2) m/\Aa W (w.1.size+3) n:=by obtain⟨a,d,e,f,g⟩:=BI (w:=w) (l:=l) (T:=T) (k:=k) (U:=U) (m:=m) (V:=V) rfl;obtain⟨i,b,c⟩:=AE h;rw[d]at b c;subst h;exact⟨a.trans (i.mono a.size),b,e.alloc Yv _,f.alloc Yv _,g.alloc Yv _,c⟩
theorem Aa.c2{t:Zj}{a b:D4}(h:Aa w B t)(i j:Nat)(c:t[i]?=some a:=by rfl)(d:t[j]?=some b:=by rfl):w.cell? (Zd B i)=some a/\w.cell? (Zd B j)=some b:=
 ⟨(h i _ c).1,(h j _ d).1⟩
theorem Aa.c3{t:Zj}{a b c:D4}(h:Aa w B t)(i j k:Nat)(d:t[i]?=some a:=by rfl)(e:t[j]?=some b:=by rfl)(f:t[k]?=some c:=by rfl):w.cell? (Zd B i)=some a/\w.cell? (Zd B j)=some b/\w.cell? (Zd B k)=some c:=
 ⟨(h i _ d).1,(h j _ e).1,(h k _ f).1⟩
theorem Aa.c4{t:Zj}{a b c d:D4}(h:Aa w B t)(i j k l:Nat)(e:t[i]?=some a:=by rfl)(f:t[j]?=some b:=by rfl)(g:t[k]?=some c:=by rfl)(m:t[l]?=some d:=by rfl):w.cell? (Zd B i)=some a/\w.cell? (Zd B j)=some b/\w.cell? (Zd B k)=some c/\w.cell? (Zd B l)=some d:=
 ⟨(h i _ e).1,(h j _ f).1,(h k _ g).1,(h l _ m).1⟩
theorem Aa.c5{t:Zj}{a b c d e:D4}(h:Aa w B t)(i j k l m:Nat)(f:t[i]?=some a:=by rfl)(g:t[j]?=some b:=by rfl)(n:t[k]?=some c:=by rfl)(o:t[l]?=some d:=by rfl)(p:t[m]?=some e:=by rfl):w.cell? (Zd B i)=some a/\w.cell? (Zd B j)=some b/\w.cell? (Zd B k)=some c/\w.cell? (Zd B l)=some d/\w.cell? (Zd B m)=some e:=
 ⟨(h i _ f).1,(h j _ g).1,(h k _ n).1,(h l _ o).1,(h m _ p).1⟩
theorem Aa.c6{t:Zj}{a b c d e f:D4}(h:Aa w B t)(i j k l m n:Nat)(g:t[i]?=some a:=by rfl)(o:t[j]?=some b:=by rfl)(p:t[k]?=some c:=by rfl)(q:t[l]?=some d:=by rfl)(r:t[m]?=some e:=by rfl)(s:t[n]?=some f:=by rfl):w.cell? (Zd B i)=some a/\w.cell? (Zd B j)=some b/\w.cell? (Zd B k)=some c/\w.cell? (Zd B l)=some d/\w.cell? (Zd B m)=some e/\w.cell? (Zd B n)=some f:=
 ⟨(h i _ g).1,(h j _ o).1,(h k _ p).1,(h l _ q).1,(h m _ r).1,(h n _ s).1⟩
theorem Aa.c7{t:Zj}{a b c d e f g:D4}(h:Aa w B t)(i j k l m n o:Nat)(p:t[i]?=some a:=by rfl)(q:t[j]?=some b:=by rfl)(r:t[k]?=some c:=by rfl)(s:t[l]?=some d:=by rfl)(u:t[m]?=some e:=by rfl)(v:t[n]?=some f:=by rfl)(x:t[o]?=some g:=by rfl):w.cell? (Zd B i)=some a/\w.cell? (Zd B j)=some b/\w.cell? (Zd B k)=some c/\w.cell? (Zd B l)=some d/\w.cell? (Zd B m)=some e/\w.cell? (Zd B n)=some f/\w.cell? (Zd B o)=some g:=
 ⟨(h i _ p).1,(h j _ q).1,(h k _ r).1,(h l _ s).1,(h m _ u).1,(h n _ v).1,(h o _ x).1⟩
structure WO (a b:Zh) (p q:Option Nat):Prop where
 os:b.os=a.os
 tape:b.tape=a.tape
 output:b.output=a.output
 size:a.1.size<=b.1.size
 block:∀k,k<a.1.size->some k≠p->some k≠q->b.1[k]?=a.1[k]?
theorem WO.A{a b:Zh}{p q:Option Nat}(h:WO a b p q)(f:B<=a.1.size)(c:∀k,p=some k->B<=k)(d:∀k,q=some k->B<=k):Below B a b:=
 ⟨h.os,h.tape,h.output,h.size,λk g=>h.block k Yv (λe=>Dz (c k e.symm)) (λe=>Dz (d k e.symm))⟩
theorem OS{c:Zh}{d:Zj}(h:w.ownsRow a 9 1 v n d)(b:Zz w c):c.ownsRow a 9 1 v n d:=by
 cases hv:v.ownBlock with
 |none=>exact h.kept (Ag none b) (.inl hv)
 |some g=>exact h.kept (Ag none b) (.inr (by rw[hv];simp))
def kB(s:Zi)(i:Nat):Int:=((s.data.toList[i]?).getD 0).toNat
def Cy(s:Zi):Array Value:= #[.int .u8 (kB s 0),.int .u8 (kB s 1),.int .u8 (kB s 2),.int .u8 (kB s 3),.int .u8 (kB s 4),.int .u8 (kB s 5),.int .u8 (kB s 6),.int .u8 (kB s 7)]
def Cp:Array Value:= #[.int .u8 0,.int .u8 0,.int .u8 0,.int .u8 0,.int .u8 0,.int .u8 0,.int .u8 0,.int .u8 0]
def Nw(s:Zi):Zj:=List.take (Nat.min s.size 8) (List.map (fun b=>Value.int .u8 b.toNat) s.data.toList)
theorem BQ(s:Zi):s.data.toList.length=s.size:=Yu
theorem LJ(s:Zi):(Nw s).length=min s.size 8:=by have:=BQ s;simp only[Nw,Ct,A9,this];show min (min s.size 8) s.size=_;omega
theorem XM(s:Zi)(i:Nat)(h:i<min s.size 8):(Nw s)[i]?=some (.int .u8 (kB s i)):=by have a:=BQ s;unfold Nw kB;rw[getElem?_take_of_lt (by show i<min s.size 8;exact h),getElem?_map,Zv Yv];simp
theorem XN(s:Zi):(Cp.toList.take (0+0)++Nw s++Cp.toList.drop (0+0+(Nw s).length)).toArray=Cy s:=by
 apply Array.ext';apply ext_getElem?;intro i;have c:=LJ s;simp only[Nat.add_zero,take_zero,nil_append,A0];by_cases h:i<min s.size 8
 .rw[getElem?_append_left Yv,XM s i h];have b:i<8:=Yv
  match i,b with
  |0,_|1,_|2,_|3,_|4,_|5,_|6,_|7,_=>rfl
 .rw[getElem?_append_right Yv,c,getElem?_drop,show min s.size 8+(i -min s.size 8)=i from by omega];by_cases b:i<8
  .have a:kB s i=0:=by have d:=BQ s;unfold kB;rw[getElem?_eq_none Yv];rfl
   match i,b,a with
   |0,_,a|1,_,a|2,_,a|3,_,a|4,_,a|5,_,a|6,_,a|7,_,a=>simp[Cp,Cy,a]
  .rw[getElem?_eq_none (by simp[Cp];omega),getElem?_eq_none (by simp[Cy];omega)]
theorem OT(w:Zh)(a b:Array Value)(t:TypeId):(w.alloc (.cells a t)).setRow w.1.size b=w.alloc (.cells b t):=by
 unfold setRow alloc;congr 1;apply Array.ext
 .simp
 .intro i d c;simp only[Array.getElem_modify,Array.getElem_push];split
  .rename_i h
   subst h;simp
  .rename_i h
   simp at c;rw[dif_pos Yv,dif_pos Yv]
theorem OU(w:Zh)(s:Zi)(d:TypeId):
 (Builtin.copy_ #[22,9] d #[Yz w.1.size 8 8,C4 s]).run prog (w.alloc (.cells Cp 75))=.ok (goInt (Nat.min s.size 8)) (w.alloc (.cells (Cy s) 75)):=by
 obtain⟨h,c,e,f,g⟩:=info_parts Nm;have a:=run_storeCells_at (P:=prog) w.1.size 0 75 (Nw s) 0 Cp (w.alloc (.cells Cp 75)) (heap_alloc_new w _) (by rw[LJ];simp[Cp];omega) (λv b=>by
  have b:=mem_of_mem_take b;simp only[mem_map]at b;obtain⟨_,_,rfl⟩:=b;rfl)
 rw[XN,OT]at a;unfold Nw at a;simp[Builtin.copy_,run_underlying underlying22,Builtin.lenOf,Builtin.firstCells,sizeOf,typeInfo,c,a,Result.andThen]
def Ca(s:Zi):Value:=.agg (Cy s)
theorem FO(s:Zi)(w:Zh):
 D8 39 #[C4 s] w λe a=>e=C5 (Ca s)/\Zz w a:=by
 have b:∀a,(Builtin.copy_ #[22,9] a #[Yz (w.1.size+1) 8 8,C4 s]).run prog ((w.alloc (.cells Cp 75)).alloc (.cells Cp 75))=.ok (goInt (Nat.min s.size 8)) ((w.alloc (.cells Cp 75)).alloc (.cells (Cy s) 75)):=λa=>by have:=OU (w.alloc (.cells Cp 75)) s a;rwa[show(w.alloc (.cells Cp 75)).1.size=w.1.size+1 from by simp]at this
 unfold Cy Cp at b;go_enter func39,ntmps39;go_wp2;refine C0 (Ca s) (by simp[results,results39,go_sem,Ca,Cy]) ⟨rfl,?_⟩;exact(Zy).alloc Yu _
theorem Abl(s:Zi)(i:Nat):0<=kB s i/\kB s i<256:=by unfold kB;have:=((s.data.toList[i]?).getD 0).toNat_lt;omega
theorem Abm(s:Zi)(i:Nat):(Lit.int .u8 (kB s i)).wf=true:=by
 have:=Abl s i;have a:IntKind.u8.min=0:=Yq
 have b:IntKind.u8.max=255:=Yq
 simp only[Lit.wf,a,b,Bool.and_eq_true,decide_eq_true_eq];omega
theorem ZS:prog.keyType 75=true:=Yr
theorem WQ:prog.cellsOf 75=8:=Yr
theorem Abn:prog.cellsOf 5=1:=Yr
theorem Vn:prog.underlying 75=some (.array 8 5):=Yr
theorem ZT:∃n,prog.types.size=n+1:=⟨prog.types.size -1,Yr⟩
theorem OV(s:Zi):∃l,keyOf prog 75 (Ca s)=some l:=by obtain⟨n,a⟩:=ZT;unfold keyOf;rw[Vn,a];simp only[ZS,Ca,formed,Vn,WQ,Cy];simp[Value.cells,Program.keyLits,WQ,Abn,range_succ,Abm]
noncomputable def keyL (s:Zi):Lit:=(OV s).choose
theorem CE(s:Zi):keyOf prog 75 (Ca s)=some (keyL s):=(OV s).choose_spec
theorem Abo:laidOutB prog=true:=Yr
theorem keyed:Maps.Keyed prog 75:=Maps.Keyed.of_law (deep_law_gate Abo (of_decide_eq_true Yr) (of_decide_eq_true Yr) ZS (by rw[Vn]))
theorem key_inj{t:Zi}(h:keyL s=keyL t)(o:s.size=t.size)(n:s.size<=8):s=t:=by
 have a:=CE t;rw[<-h]at a;have c:=keyed.inj (CE s) a;clear a h;have m:∀i,i<8->kB s i=kB t i:=by
  simp only[Ca,Cy,agg.injEq,Array.mk.injEq,List.cons.injEq,int.injEq,true_and,and_true]at c;obtain⟨d,e,f,g,j,k,e6,l⟩:=c;intro i a
  match i,a with
  |0,_=>exact d
  |1,_=>exact e
  |2,_=>exact f
  |3,_=>exact g
  |4,_=>exact j
  |5,_=>exact k
  |6,_=>exact e6
  |7,_=>exact l
 have p:=BQ s;have q:=BQ t;have b:s.data.toList=t.data.toList:=by
  apply ext_getElem?;intro i;by_cases a:i<s.size
  .have:=m i Yv;unfold kB at this;rw[Zv Yv,Zv Yv]at this |-;simp only[Option.getD_some]at this;congr 1;exact UInt8.toNat_inj.1 Yv
  .rw[getElem?_eq_none Yv,getElem?_eq_none Yv]
 cases s;cases t;simp only[Array.toList_inj]at b;rw[b]
open Classical in
noncomputable def upd (f:Lit->Option Value) (kl:Lit) (v:Value):Lit->Option Value:=fun x=>if x=kl then some v else f x
theorem CX(f:Lit->Option Value)(a:Lit)(v:D4):upd f a v a=some v:=by simp[upd]
theorem Dh(f:Lit->Option Value){a x:Lit}(v:D4)(h:x≠a):upd f a v x=f x:=by simp[upd,h]
def OK(v:Value):Option (DataW Value×List MemPlace):=some (.held v,[])
def AN(w:Zh)(K:TypeId)(b n:Nat)(f:Lit->Option Value):Prop:=
 ∃D:DataW Value,w.ownsMap prog K OK b n D/\(∀kl z,D.atKey kl (.held z)=.held ((f kl).getD z))/\∀kl,Maps.has D kl=(f kl).isSome
theorem AN.new(w:Zh)(K:TypeId):AN (w.alloc (.map #[] 0)) K w.1.size 0 (λ_=>none):=
 ⟨.map [],ownsMap_made _ _ _ _,λ_ _=>rfl,λ_=>rfl⟩
theorem AN.ag{a:Zh}{f:Lit->Option Value}(h:AN w K b n f)(j:Below B w a)(i:b<B):AN a K b n f:=by obtain⟨D,⟨c,clock,d,e⟩,g⟩:=h;exact⟨D,⟨c,clock,(j.block b i).ah d,e⟩,g⟩
theorem AN.lt{f:Lit->Option Value}(h:AN w K b n f):b<w.1.size:=h.choose_spec.1.lt
theorem AN.put{f:Lit->Option Value}(h:AN w K b n f)(l:Maps.Keyed prog K)(v:prog.underlying t=some (.map K e))(r:n<maxLen){g:Lit}(a:keyOf prog K j=some g):
 ∃c,(Instr.mapUpdate t (.map (some b)) j val).run prog w=.ok () c/\AN c K b (n+1) (upd f g val)/\w.grownBy c (some b):=by
 obtain⟨D,k,o,p⟩:=h;obtain⟨c,u,s,q⟩:=k.update l v r a (d:=.held val) (ps:=[]) (val:=val) rfl;have m:=k.isMap;have i:=l.key a;refine⟨c,u,⟨_,s,λx z=> ?_,λx=> ?_⟩,q⟩
 .by_cases hx:x=g
  .subst hx;rw[Maps.atKey_put_same m i,CX];rfl
  .rw[Maps.atKey_put_other hx,Dh _ _ hx];exact o x z
 .by_cases hx:x=g
  .subst hx;rw[Maps.has_put_same m i,CX];rfl
  .rw[Maps.has_put_other hx,Dh _ _ hx];exact p x
theorem AN.look{f:Lit->Option Value}(h:AN w K b n f)(k:Maps.Keyed prog K)(m:prog.underlying t=some (.map K e))(o:(zeroValue e).run prog w=.ok z w){c:D4}{g:Lit}(a:keyOf prog K c=some g):
 (Instr.lookup t (.map (some b)) c false).run prog w=.ok ((f g).getD z) w:=by
 obtain⟨D,i,j,_⟩:=h;obtain⟨v,p,l,d⟩:=i.lookup k m o (zd:=.held z) (zp:=[]) rfl a;rw[j]at d;simp only[OK,Option.some.injEq,Prod.mk.injEq,DataW.held.injEq]at d;rw[l,d.1]
theorem AN.look_ok{f:Lit->Option Value}(h:AN w K b n f)(l:Maps.Keyed prog K)(o:prog.underlying t=some (.map K e))(p:(zeroValue e).run prog w=.ok z w){c:D4}{g:Lit}(a:keyOf prog K c=some g):
 (Instr.lookup t (.map (some b)) c true).run prog w=.ok (.tuple #[(f g).getD z,.bool (f g).isSome]) w:=by
 obtain⟨D,i,j,k⟩:=h;obtain⟨v,q,m,d⟩:=i.look_ok l o p (zd:=.held z) (zp:=[]) rfl a;rw[j]at d;simp only[OK,Option.some.injEq,Prod.mk.injEq,DataW.held.injEq]at d;rw[m,d.1,k]
def Au(s:Zi):Zj:=(Cy s).toList
theorem RW(s:Zi)(j:Nat)(h:j<8):(Au s)[j]?=some (.int .u8 (kB s j)):=by
 match j,h with
 |0,_|1,_|2,_|3,_|4,_|5,_|6,_|7,_=>rfl
def AH(ss:Zl):Zj:=ss.flatMap Au
theorem Da(a:Zl):(AH a).length=a.length *8:=by
 induction a with
 |nil=>rfl
 |cons s a ih=>
  have:(Au s).length=8:=rfl;unfold AH at *
  rw[flatMap_cons,Ak,ih,length_cons,this];omega
theorem EQ{a:Zl}{j:Nat}(h:a[i]?=some s)(c:j<8):(AH a)[i *8+j]?=some (.int .u8 (kB s j)):=by
 induction a generalizing i with
 |nil=>simp at h
 |cons t a ih=>
  have b:(Au t).length=8:=rfl;unfold AH at *
  rw[flatMap_cons];cases i with
  |zero=>simp at h;subst h;rw[getElem?_append_left Yv,Nat.zero_mul,A0];exact RW t j c
  |succ i=>rw[getElem?_append_right Yv,b,show(i+1) *8+j -8=i *8+j by omega];exact ih (D2 h)
theorem LK{a:Zl}{k:Nat}{u:D4}(h:(AH a)[k]?=some u):∃s,a[k/8]?=some s/\u=.int .u8 (kB s (k%8)):=by
 have c:k<a.length *8:=by rw[<-Da];exact(Zw h).1
 have b:k/8<a.length:=Yv
 refine⟨a[k/8],Zv b,?_⟩;have:=EQ (j:=k%8) (Zv b) (Nat.mod_lt _ Yq);rw[show k/8 *8+k%8=k by omega,h]at this;exact A4 this
theorem Gu(a b:Zl):AH (a++b)=AH a++AH b:=by unfold AH;rw[flatMap_append]
theorem Dx(c:Zl):∀u∈AH c,u.oneCell'=true:=by intro u b;have⟨k,a⟩:=A5 b;obtain⟨s,_,rfl⟩:=LK a;rfl
def R8(w:Zh)(B:Nat)(v:Value)(ss:Zl):Prop:=
 (v=Zb/\ss=[])\/∃g off cap,v=.slice (some ⟨g,off,none⟩) ss.length cap/\g<B/\∀i s,ss[i]?=some s->∀j,j<8->w.cell? (Zd g (off+(i *8+j)))=some (.int .u8 (kB s j))
def Fw(w:Zh)(g:Nat):Prop:=∃cur fz,w.1[g]?=some (.cells cur 75 fz)
theorem Fw.lt{g:Nat}(h:Fw w g):g<w.1.size:=by obtain⟨_,_,h⟩:=h;exact(A2.1 h).1
theorem Fw.same{a:Zh}{g:Nat}(h:Fw w g)(b:a.1[g]?=w.1[g]?):Fw a g:=by obtain⟨c,f,h⟩:=h;exact⟨c,f,b.ah h⟩
theorem Fw.jf{g:Nat}:∀(vs:Zj) (o:Nat) (w:Zh),Fw w g->Fw (w.setCells g o vs) g
 |[],_,_,h=>h
 |v::r,o,w,h=>by rw[setCells];refine Fw.jf r (o+1) _ ?_;obtain⟨c,f,h⟩:=h;refine⟨c.setIfInBounds o v,f,?_⟩;simp[setCell,Array.getElem?_modify,h]
def BC(w:Zh)(base:Nat)(v:Value)(ss:Zl):Prop:=
 (v=Zb/\ss=[])\/∃g off cap,v=.slice (some ⟨g,off,none⟩) ss.length cap/\base<=g/\Fw w g/\ss.length<=cap/\cap<=maxLen/\
   (∀j,j<cap *8->(w.cell? (Zd g (off+j))).isSome=true/\w.frozen? ⟨g,off+j,none⟩=false)/\
   ∀i s,ss[i]?=some s->∀j,j<8->w.cell? (Zd g (off+(i *8+j)))=some (.int .u8 (kB s j))
def Ap:Value->Option Nat
 |.slice (some a) _ _=>some a.block
 |_=>none
theorem BC.read{b:Zl}(h:BC w a v b):R8 w w.1.size v b:=by
 rcases h with h|⟨g,d,c,i,_,f,_,_,_,e⟩
 .exact .inl h
 .exact .inr ⟨g,d,c,i,f.lt,e⟩
theorem R8.A{c:Zl}(h:R8 w B v c)(f:Below B w d):R8 d B v c:=by
 rcases h with h|⟨g,a,e,n,b,k⟩
 .exact .inl h
 .exact .inr ⟨g,a,e,n,b,λi s m j l=>(f.cell (p:=⟨g,a+(i *8+j),none⟩) b).ah (k i s m j l)⟩
theorem R8.mono{b:Zl}(h:R8 w B v b)(i:B<=a):R8 w a v b:=by
 rcases h with h|⟨g,d,c,f,j,e⟩
 .exact .inl h
 .exact .inr ⟨g,d,c,f,Yv,e⟩
abbrev R8.aj:=@R8.mono
theorem R8.stays{b:Zh}{a:Zl}(h:R8 w B v a)(e:∀g,Ap v=some g->b.1[g]?=w.1[g]?):R8 b B v a:=by
 rcases h with h|⟨g,d,c,rfl,k,f⟩
 .exact .inl h
 .exact .inr ⟨g,d,c,rfl,k,λi s m j l=>(cell?_of_block (e g rfl)).ah (f i s m j l)⟩
theorem BC.stays{f:Zl}(h:BC w a v f)(_hz:w.1.size<=d.1.size)(b:∀g,Ap v=some g->d.1[g]?=w.1[g]?):BC d a v f:=by
 rcases h with h|⟨g,l,k,rfl,m,q,n,o,e,p⟩
 .exact .inl h
 .exact .inr ⟨g,l,k,rfl,m,q.same (b g rfl),n,o,λj c=>⟨by rw[cell?_of_block (b g rfl)];exact(e j c).1,by rw[frozen?_of_block (b g rfl)];exact(e j c).2⟩,λi s r j c=>(cell?_of_block (b g rfl)).ah (p i s r j c)⟩
theorem BC.A{c:Zh}{b:Zl}(h:BC w base v b)(a:Zz w c):BC c base v b:=by
 have d:=h;rcases h with h|⟨g,j,i,rfl,l,f,_⟩
 .exact .inl h
 .exact d.stays a.size (λk e=>by cases e;exact a.block g f.lt)
theorem BC.g{e:Zl}(h:BC w a v e){g:Nat}(b:Ap v=some g):a<=g/\g<w.1.size:=by
 rcases h with⟨rfl,_⟩|⟨j,i,f,rfl,c,d,_⟩
 .cases b
 .cases b;exact⟨c,d.lt⟩
theorem R8.cells{g:Nat}{b:Zl}(c:∀i s,b[i]?=some s->∀j,j<8->w.cell? (Zd g (a+(i *8+j)))=some (.int .u8 (kB s j))):∀j u,(AH b)[j]?=some u->w.cell? ((⟨g,a,none⟩:Addr).add j)=some u:=by intro j u e;obtain⟨s,d,rfl⟩:=LK e;have:=c _ s d (j%8) (Nat.mod_lt _ Yq);rw[show j/8 *8+j%8=j by omega]at this;rw[A3];exact this
theorem Ks:(prog.info? 75).map (λi=>(i.zero,i.size,i.bytes))=some (some (.agg #[.int .u8 0,.int .u8 0,.int .u8 0,.int .u8 0,.int .u8 0,.int .u8 0,.int .u8 0,.int .u8 0]),8,8):=Yr
theorem R8.src{a:Zl}(h:R8 w B x a):Src prog 8 87 x a.length (AH a) w:=by
 rcases h with⟨rfl,rfl⟩|⟨g,c,b,rfl,_,d⟩
 .exact Src.ofNil w underlying87 0
 .exact Src.ofSlice w underlying87 ⟨g,c,none⟩ a.length b (AH a) (Da a) (R8.cells d) (Dx a)
theorem BC.fresh(w:Zh)(d:Nat)(b:Zl)(c:Nat)(z:Array Value)(l:d<=w.1.size)(h:b.length<=c)(k:c<=maxLen)(m:z.size=(c -b.length) *8):
 BC (w.drew.alloc (.cells ((AH b).toArray++z) 75)) d (Yz w.1.size b.length c) b:=by
 have f:=Da b;have a:∀j,(w.drew.alloc (.cells ((AH b).toArray++z) 75)).cell? (Zd (w.1.size) (0+j))=((AH b).toArray++z)[j]?:=λj=>by rw[A0];show(w.drew.alloc (.cells ((AH b).toArray++z) 75)).cell? (Zd (w.drew.1.size) j)=_;rw[cell?_alloc_at _ _ _ _ rfl]
 refine .inr ⟨w.1.size,0,c,rfl,l,⟨_,_,heap_alloc_new w.drew _⟩,h,k,λj e=>⟨?_,?_⟩,λi s g j e=> ?_⟩
 .rw[a,Cf (by simp[f,m];omega)];rfl
 .simp[go_sem]
 .rw[a,Array.getElem?_append_left (by have:=(Zw g).1;simp[f];omega)];simpa using EQ g e
theorem Gl(b:Nat):∀(vs:Zj) (o:Nat) (w:Zh),(w.setCells b o vs).1.size=w.1.size
 |[],_,_=>rfl
 |_::r,o,w=>by rw[setCells,Gl b r];simp
theorem Jz(b:Nat):∀(vs:Zj) (o:Nat) (w:Zh),(w.setCells b o vs).tape=w.tape
 |[],_,_=>rfl
 |_::r,o,w=>by rw[setCells,Jz b r];rfl
theorem Ip(b:Nat):∀(vs:Zj) (o:Nat) (w:Zh) (x:Addr),(w.cell? x).isSome=true->((w.setCells b o vs).cell? x).isSome=true
 |[],_,_,_,h=>h
 |v::r,o,w,x,h=>by
  rw[setCells];refine Ip b r (o+1) _ x ?_;by_cases e:(⟨b,o,none⟩:Addr)=x
  .subst e;have⟨u,a⟩:=Option.isSome_iff_exists.1 h;rw[cell?_setCell_same _ _ _ a];rfl
  .rw[cell?_setCell_other _ _ _ _ e];exact h
theorem MJ(w:Zh)(d:Nat)(v:D4)(a:Zl)(N:BC w d v a)(x:D4)(c:Zl)(B:Nat)(U:R8 w B x c)(Y:a.length+c.length<=100000000)(t:d<=w.1.size)(r:TypeId):
 ∃l n,(Builtin.append_ #[87,87] r #[v,x]).run prog w=.ok l n/\BC n d l (a++c)/\w.grownBy n (Ap v)/\(Ap l=Ap v\/Ap l=some w.1.size):=by
 have⟨i,C,S,p,T⟩:=info_parts Ks;have m:Src prog i.size 87 x c.length (AH c) w:=by rw[p];exact U.src
 by_cases h0:c=[]
 .subst h0;rw[append_nil];rcases N with⟨rfl,rfl⟩|⟨g,f,b,rfl,G,M,H,I,q,A⟩
  .exact⟨_,w,run_append_nothing w _ _ r _ i underlying87 C none 0 0 (Zx) x m,.inl ⟨rfl,rfl⟩,⟨rfl,rfl,rfl,Zx,λ_ _ _=>rfl⟩,.inl rfl⟩
  .exact⟨_,w,run_append_nothing w _ _ r _ i underlying87 C _ _ _ H x m,.inr ⟨g,f,b,rfl,G,M,H,I,q,A⟩,⟨rfl,rfl,rfl,Zx,λ_ _ _=>rfl⟩,.inl rfl⟩
 .have R:=length_pos_iff.2 h0;have grow:∀(z:Zk) (b:Nat),b<a.length+c.length->(Builtin.firstCells i.size a.length (C1 z a b)).run prog w.drew=.ok (AH a).toArray w.drew->
   ∃l n,(Builtin.append_ #[87,87] r #[C1 z a b,x]).run prog w=.ok l n/\BC n d l (a++c)/\(∀h,w.grownBy n h)/\Ap l=some w.1.size:=by
   intro z b E hold;have o:=run_append_grow_src w _ _ r _ i _ underlying87 C S z a.length b (AH a) hold x c.length (AH c) m E Yv (by
    have:=nextslicecap_le E;rw[T];omega)
   rw[<-Gu]at o;have O:=grownCap_ge w (a.length+c.length) b 75;have Q:=grownCap_le_maxLen w (a.length+c.length) b 75 Yo
   have D:=BC.fresh w d (a++c) (grownCap w (a.length+c.length) b 75) (Builtin.zeroCells (agg #[.int .u8 0,.int .u8 0,.int .u8 0,.int .u8 0,.int .u8 0,.int .u8 0,.int .u8 0,.int .u8 0]).cells (grownCap w (a.length+c.length) b 75 -(a.length+c.length))) t (D2 O) Q (by rw[size_zeroCells,Ak];rfl);rw[Ak]at D
   exact⟨_,_,o,D,λh=>⟨rfl,rfl,rfl,Yu,λk F _=>heap_alloc_old w.drew _ F⟩,rfl⟩
  rcases N with⟨rfl,rfl⟩|⟨g,f,b,rfl,G,M,H,I,q,A⟩
  .obtain⟨l,n,o,J,K,L⟩:=grow none 0 (D2 R) (run_firstCells_none w.drew _ _ _ _);exact⟨l,n,o,J,K _,.inr L⟩
  .by_cases hroom:a.length+c.length<=b
   .have X:=Da c;have y:∀j,j<(AH c).length->(a.length *8+j)<b *8:=λj h=>Yv
    have o:=run_append_room_src w _ _ r _ i underlying87 C g f a.length b x c.length (AH c) m hroom (λj h=>by rw[p,Nat.add_assoc];exact(q _ (y j h)).1) (λj h=>by rw[p,Nat.add_assoc];exact(q _ (y j h)).2);rw[p]at o;have V:=keptBut_setCells g (may:=λ_=>True) (AH c) (f+a.length *8) w (λ_ _=>trivial)
    refine⟨_,_,o,.inr ⟨g,f,b,by rw[Ak],G,Fw.jf _ _ _ M,by rw[Ak];exact hroom,I,λj h=>⟨?_,?_⟩,λk s u j h=> ?_⟩,⟨os_setCells _ _ _ _,Jz _ _ _ _,output_setCells _ _ _ _,by rw[Gl];exact Zx,λk F P=>heap_setCells_other _ _ _ _ F (λe=>P (by rw[e];rfl))⟩,.inl rfl⟩
    .exact Ip _ _ _ _ _ (q j h).1
    .rw[frozen?_setCells];exact(q j h).2
    .rcases Bz k a.length with F|F
     .rw[getElem?_append_left F]at u;rw[cell?_setCells_out _ _ _ _ _ (λ_ _=> .inl Yt)];exact A k s u j h
     .rw[getElem?_append_right F]at u;have W:=(Zw u).1;have P:=cell?_setCells_in g (AH c) (f+a.length *8) w (λj h=>by rw[Nat.add_assoc];exact(q _ (y j h)).1) ((k -a.length) *8+j) Yv;rw[show f+(k *8+j)=f+a.length *8+((k -a.length) *8+j) by omega,P];have:=EQ u h;rw[Zv Yv]at this;exact this
   .obtain⟨l,n,o,J,K,L⟩:=grow (some ⟨g,f,none⟩) b Yv (run_firstCells_some w.drew _ _ _ _ _ _ (by rw[p];exact Da a) (D2 (R8.cells A)));exact⟨l,n,o,J,K _,.inr L⟩
theorem wpList_append_run{b:Array Oper}{rest:List Oper}{a:Act}{Q:Exit->Act->Zh->Prop}(f:o.guard=none)(s x:Operand)(t u:TypeId)(i:o.op=.call {callee:=.builtin .append,args:= #[s,x],argTypes:= #[t,u]}){e c:D4}(k:a.eval s=v)(l:a.eval x=e)(j:(Builtin.append_ #[t,u] o.type #[v,e]).run P w=.ok c d)(h:wpList P b Q rest (a.put o.dst c) d):wpList P b Q (o::rest) a w:=by
 refine wpList_plain f λK g=> ?_;unfold Oper.wp execOp;simp only[i,resolve,invoke,builtin,Sem.run_bind,Sem.run_pure,Result.andThen_ok,map_toArray,map_cons,map_nil,k,l,j];exact g _ _ h
theorem Bt{b:Array Oper}{a:Act}{K:Act->Zh->Prop}{Q:Exit->Act->Zh->Prop}{E:Prop}(f:o.guard=none)(s x:Operand)(t u:TypeId)(g:o.op=.call {callee:=.builtin .append,args:= #[s,x],argTypes:= #[t,u]}){e c:D4}(j:a.eval s=v)(l:a.eval x=e)(i:(Builtin.append_ #[t,u] o.type #[v,e]).run P w=.ok c d)(h:K (a.put o.dst c) d):
 if Region.wanted o (yielded b a.tmps)=true then Oper.wp P o a w K Q else E:=by
 have k:Region.wanted o (yielded b a.tmps)=true:=by simp[Region.wanted,f]
 rw[if_pos k];unfold Oper.wp execOp;simp only[g,resolve,invoke,builtin,Sem.run_bind,Sem.run_pure,Result.andThen_ok,map_toArray,map_cons,map_nil,j,l,i];exact h
structure Iq (ks:List Kd):Prop where
 len:ks.length<=maxLen
 sum:∀k∈ks,k.sum.size<=maxLen
 J:∀k∈ks,k.J.size<=maxLen
 B:∀k∈ks,k.B.length<=maxLen
 ref:∀k∈ks,∀s∈k.B,s.size<=maxLen
structure IP (ps:List Pd):Prop where
 len:ps.length<=maxLen
 name:∀p∈ps,p.name.size<=maxLen
 sum:∀p∈ps,p.sum.size<=maxLen
structure La (ls:List Ld):Prop where
 len:ls.length<=maxLen
 sum:∀l∈ls,l.sum.size<=maxLen
def Aw(w:Zh)(b:Nat)(wd now given births:Int)(T P L:Value):Prop:=
 w.cell? (Zd b 0)=some (Zg wd)/\w.cell? (Zd b 1)=some (Zg now)/\w.cell? (Zd b 2)=some (Zg given)/\w.cell? (Zd b 3)=some (Zg births)/\
  w.cell? (Zd b 4)=some T/\w.cell? (Zd b 5)=some P/\w.cell? (Zd b 6)=some L/\b<w.1.size
theorem Aw.new(w:Zh)(d c b a:Int)(T P L:D4)(t:TypeId):Aw (w.alloc (.cells #[Zg d,Zg c,Zg b,Zg a,T,P,L] t)) w.1.size d c b a T P L:=
 ⟨Yu,Yu,Yu,Yu,Yu,Yu,Yu,Yu⟩
theorem Aw.ag{g:Zh}{i f c a:Int}{T P:D4}(h:Aw w b i f c a T P L)(d:Below B w g)(e:b<B):Aw g b i f c a T P L:=by
 obtain⟨j,k,l,m,n,o,q,r⟩:=h;exact⟨(d.cell (p:=⟨b,0,none⟩) e).ah j,(d.cell (p:=⟨b,1,none⟩) e).ah k,(d.cell (p:=⟨b,2,none⟩) e).ah l,(d.cell (p:=⟨b,3,none⟩) e).ah m,
  (d.cell (p:=⟨b,4,none⟩) e).ah n,(d.cell (p:=⟨b,5,none⟩) e).ah o,(d.cell (p:=⟨b,6,none⟩) e).ah q,Zr r d.size⟩
theorem Aw.A{e:Zh}{f d c a:Int}{T P:D4}(h:Aw w b f d c a T P L)(g:Zz w e):Aw e b f d c a T P L:=h.ag g h.2.2.2.2.2.2.2
structure Bx (w:Zh) (B:Nat) (a p l:Zk) (ks:List Kd) (ps:List Pd) (ls:List Ld):Prop where
 k:AW w B a ks
 p:AU w B p ps
 l:AS w B l ls
theorem Bx.T{c:Zh}{a l:Zk}{d:Dj}{f:Dy}{e:Dv}(h:Bx w w.1.size a p l d f e)(b:Zz w c):Bx c c.1.size a p l d f e:=
 ⟨(h.k.A b).aj b.size,(h.p.A b).aj b.size,(h.l.A b).aj b.size⟩
theorem Bx.ag{a l:Zk}{c:Dj}{e:Dy}{d:Dv}(h:Bx w B a p l c e d)(b:Below B w f):Bx f B a p l c e d:=
 ⟨h.k.A b,h.p.A b,h.l.A b⟩
theorem Bx.mono{a l:Zk}{e:Dy}{d:Dv}(h:Bx w B a p l ks e d)(b:B<=c):Bx w c a p l ks e d:=
 ⟨h.k.aj b,h.p.aj b,h.l.aj b⟩
abbrev Bx.aj:=@Bx.mono
structure JA (ks:List Kd) (ps:List Pd) (ls:List Ld):Prop where
 k:ks.length<=1048576
 r:∀k∈ks,k.B.length<=1048576
 p:ps.length<=1048576
 l:ls.length<=1048576
def XO(w:Zh)(lo g c:Nat)(rs:Zl):Prop:=w.ownsRow lo 9 1 (.slice (some ⟨g,0,none⟩) rs.length c) rs.length (rs.map Value.string)
def ZU(w:Zh)(lo:Nat)(xs:Zj)(i:Nat)(x:Kd):Prop:=
 xs[i *4]?=some (.string x.sum)/\xs[i *4+1]?=some (Zg x.born)/\xs[i *4+2]?=some (.string x.J)/\
  ∃g,xs[i *4+3]?=some (.slice (some ⟨g,0,none⟩) x.B.length x.B.length)/\XO w lo g x.B.length x.B
theorem GY:(prog.info? 68).map (λi=>(i.zero,i.size,i.bytes))=some (some (.agg #[Zc,Ze,Zc,Zb]),4,64):=Yr
def Acn(xs:Zj)(n:Nat):Prop:=∀(i j q q' m c m' c':Nat),i<j->j<n->xs[i *4+3]?=some (.slice (some ⟨q,0,none⟩) m c)->xs[j *4+3]?=some (.slice (some ⟨q',0,none⟩) m' c')->q<q'
def Lb(w:Zh)(lo g:Nat)(ks:List Kd):Prop:=
 ∃xs,w.ownsRow lo 68 4 (.slice (some ⟨g,0,none⟩) ks.length ks.length) ks.length xs/\(∀i x,ks[i]?=some x->ZU w (g+1) xs i x)/\Acn xs ks.length
theorem GP:(prog.info? 71).map (λi=>(i.zero,i.size,i.bytes))=some (some (.agg #[Zc,Zc]),2,32):=Yr
def ML(w:Zh)(lo g:Nat)(ps:List Pd):Prop:=
 ∃xs,w.ownsRow lo 71 2 (.slice (some ⟨g,0,none⟩) ps.length ps.length) ps.length xs/\∀i x,ps[i]?=some x->xs[i *2]?=some (.string x.name)/\xs[i *2+1]?=some (.string x.sum)
theorem Gm:(prog.info? 73).map (λi=>(i.zero,i.size,i.bytes))=some (some (.agg #[Ze,Zc,Ze]),3,32):=Yr
def MM(w:Zh)(lo g:Nat)(ls:List Ld):Prop:=
 ∃xs,w.ownsRow lo 73 3 (.slice (some ⟨g,0,none⟩) ls.length ls.length) ls.length xs/\∀i x,ls[i]?=some x->xs[i *3]?=some (Zg x.G)/\xs[i *3+1]?=some (.string x.sum)/\xs[i *3+2]?=some (Zg x.S)
theorem Lb.setCell{g:Nat}{d:Dj}(h:Lb w b g d){a:Addr}(m:a.block<b)(u:D4):Lb (w.setCell a u) b g d:=by obtain⟨r,c,o,n⟩:=h;have:=(c.lt g rfl).1;refine⟨r,ownsRow_setCell_below c m u,λi x p=> ?_,n⟩;have⟨e,f,j,q,k,l⟩:=o i x p;exact⟨e,f,j,q,k,ownsRow_setCell_below l Yv u⟩
theorem ML.setCell{g:Nat}{c:Dy}(h:ML w b g c){a:Addr}(d:a.block<b)(u:D4):ML (w.setCell a u) b g c:=by obtain⟨i,f,e⟩:=h;exact⟨i,ownsRow_setCell_below f d u,e⟩
theorem MM.setCell{g:Nat}{c:Dv}(h:MM w b g c){a:Addr}(d:a.block<b)(u:D4):MM (w.setCell a u) b g c:=by obtain⟨i,f,e⟩:=h;exact⟨i,ownsRow_setCell_below f d u,e⟩
theorem Lb.mono{g:Nat}(h:Lb w b g ks)(d:a<=b):Lb w a g ks:=by obtain⟨f,e,c⟩:=h;exact⟨f,e.aj d,c⟩
abbrev Lb.aj:=@Lb.mono
theorem ML.mono{g:Nat}{c:Dy}(h:ML w b g c)(e:a<=b):ML w a g c:=by obtain⟨i,f,d⟩:=h;exact⟨i,f.aj e,d⟩
abbrev ML.aj:=@ML.mono
theorem MM.mono{g:Nat}{c:Dv}(h:MM w b g c)(e:a<=b):MM w a g c:=by obtain⟨i,f,d⟩:=h;exact⟨i,f.aj e,d⟩
abbrev MM.aj:=@MM.mono
theorem toList_inj{a b:Zi}(h:a.toList=b.toList):a=b:=by rw[ByteArray.toList_eq,ByteArray.toList_eq]at h;cases a;cases b;simp only[Array.toList_inj]at h;rw[h]
theorem Br{a b:Zi}(h:¬a=b):(a.toList==b.toList)=false:=by rw[beq_eq_false_iff_ne];exact λe=>h (toList_inj e)
theorem OW(x:List UInt8):∀y,Op.bytesLess x y=true↔x<y:=by
 induction x with
 |nil=>intro y;cases y<;>simp[Op.bytesLess]
 |cons a x ih=>
  intro y;cases y with
  |nil=>simp[Op.bytesLess]
  |cons b y=>have:=ih y;rw[cons_lt_cons_iff,<-this];simp only[Op.bytesLess];by_cases h1:a<b<;>by_cases h2:a=b<;>simp[h1,h2]
theorem By(a:Zi):less a a=false:=by
 unfold less;cases h:Op.bytesLess a.toList a.toList with
 |false=>rfl
 |true=>exact absurd ((OW _ _).1 h) (List.lt_irrefl _)
theorem BV{a b c:Zi}(h:less a b=true)(k:less b c=true):less a c=true:=by
 unfold less at *
 rw[OW]at *
 exact List.lt_trans h k
def Cu(ks:List Kd)(s:Zi):Int:=match ks.findIdx? (fun k=>decide (k.sum=s))with
 |some i=>(i:Int)
 |none=> -1
theorem TE{a:Dj}{k:Nat}(d:k<a.length)(h:a[k].sum=s)(b:∀j x,j<k->a[j]?=some x->x.sum≠s):Cu a s=k:=by
 have:a.findIdx? (λk=>decide (k.sum=s))=some k:=by rw[findIdx?_eq_some_iff_getElem];refine⟨d,D2 h,λj c=> ?_⟩;simpa using b j _ c (Zv Yv)
 simp[Cu,this]
theorem RY{a:Dj}(b:∀j x,j<a.length->a[j]?=some x->x.sum≠s):Cu a s= -1:=by
 have:a.findIdx? (λk=>decide (k.sum=s))=none:=by rw[findIdx?_eq_none_iff];intro x d;obtain⟨j,c,rfl⟩:=getElem_of_mem d;simpa using b j _ c (Zv c)
 simp[Cu,this]
theorem CP(a:Dj)(s:Zi):(Cu a s= -1/\¬Am a s)\/∃i k,Cu a s=(i:Nat)/\a[i]?=some k/\k.sum=s:=by
 unfold Cu;cases h:a.findIdx? (λk=>decide (k.sum=s))with
 |none=>rw[findIdx?_eq_none_iff]at h;exact .inl ⟨rfl,λ⟨u,hu,e⟩=>by simpa [e]using h u hu⟩
 |some i=>rw[findIdx?_eq_some_iff_getElem]at h;obtain⟨c,b,_⟩:=h;exact .inr ⟨i,a[i],rfl,Zv c,D2 b⟩
theorem Dk(t n g d:Int)(a:Zk)(p:Nat)(P L:D4)(c:Dj)(s:Zi)(w:Zh)(B:Nat)(l:AW w B a c)(E:B<=w.1.size)(H:c.length<=1048576):
 D8 67 #[.agg #[Zg t,Zg n,Zg g,Zg d,C3 a c.length p,P,L],C4 s] w λe f=>e=C5 (Zg (Cu c s))/\Zz w f:=by
 have m:Below w.1.size w (w.alloc (.cells #[Zg t,Zg n,Zg g,Zg d,C1 a c p,P,L] 27)):=Zy;go_enter func67,ntmps67;go_wp2
 go_loop [5] (λi=>∃k:Nat,k<=c.length/\i=Zg k/\Hid (∀j x,j<k->c[j]?=some x->x.sum≠s)) (λi=>c.length -(intOf i).toNat)
 case atStart=>exact⟨0,Az _,rfl,λj x h=>Yv⟩
 case round=>
  obtain⟨k,G,rfl,f⟩:=hrel;by_cases hlt:k<c.length
  .obtain⟨b,u,v,F,r⟩:=l.at hlt;subst v;have o:Hid (c[k]?=some c[k]):=Zv hlt;obtain⟨q,_,_,_⟩:=r k _ o;clear r l;have l:b<w.1.size:=Yv
   by_cases he:c[k].sum=s
   .have D:=Yw he;have y:=Yw (TE hlt he f);have A:w.cell? (Zd b (u+k *4))=some (C4 s):=by rw[<-he];exact q
    clear q he;go_wp2;go_ret;exact⟨RO y.symm,m⟩
   .have C:=Br he;have r:Hid (∀j x,j<k+1->c[j]?=some x->x.sum≠s):=by
     intro j x z l;rcases Bz j k with q|q
     .exact f j x q l
     .obtain rfl:j=k:=Yv
      rw[o.o]at l;cases l;exact he
    clear he f o;generalize c[k]=x at *
    go_wp2;exact⟨⟨k+1,Yv,Yn,r⟩,Ys⟩
  .go_wp2;go_ret;exact⟨RO (RY (λj x z=>f j x Yv)).symm,m⟩
section
attribute [local go_sem↓] Go.wp_at_zero Go.wp_at_succ
def CW(u:Kd)(ra:Zk)(rc:Nat):Value:=.agg #[.string u.sum,Zg u.born,.string u.J,.slice ra u.B.length rc]
def Holds(W:Zh)(B:Nat)(wd:Int)(ks:List Kd)(f:Lit->Option Value):Prop:=
 ∀s:Zi,(s.size:Int)=wd->(f (keyL s)=none/\¬Am ks s)\/∃u ra rc,u∈ks/\u.sum=s/\f (keyL s)=some (CW u ra rc)/\Af W B ra u.B
theorem Holds.nil(W:Zh)(B:Nat)(a:Int):Holds W B a [] (λ_=>none):=λ_ _=> .inl ⟨rfl,λ⟨_,h,_⟩=>by cases h⟩
theorem Holds.snoc{b:Int}{i:Dj}{f:Lit->Option Value}(h:Holds W B b i f){x:Kd}{g:Zk}{rc:Nat}(r:(x.sum.size:Int)=b)(q:b<=8)(o:Af W B g x.B):Holds W B b (i++[x]) (upd f (keyL x.sum) (CW x g rc)):=by
 intro s p;by_cases he:keyL s=keyL x.sum
 .have:s=x.sum:=key_inj he Yv Yv;subst this;exact .inr ⟨x,g,rc,Yu,rfl,CX _ _ _,o⟩
 .rw[Dh _ _ he];have j:x.sum≠s:=λe=>he (by rw[e]);rcases h s p with⟨c,d⟩|⟨u,k,l,c,d,m,n⟩
  .refine .inl ⟨c,λ⟨u,a,e⟩=> ?_⟩;rcases A7.1 a with a|a
   .exact d ⟨u,a,e⟩
   .simp at a;subst a;exact j e
  .exact .inr ⟨u,k,l,by simp[c],d,m,n⟩
theorem IQ(w:Zh):(zeroValue 68).run prog w=.ok (.agg #[Zc,Ze,Zc,Zb]) w:=Yr
theorem AN.setCell{f:Lit->Option Value}(h:AN w K b n f){a:Addr}(e:b≠a.block)(u:D4):AN (w.setCell a u) K b n f:=by obtain⟨D,c,d⟩:=h;exact⟨D,c.setCell e u,d⟩
def FS(wr:Zh)(h:Nat)(m s b t r:Value)(w':Zh):Prop:=
 w'.cell? (Zd (h+1+1+1) 1)=some m/\w'.cell? (Zd (wr.1.size) 0)=some s/\w'.cell? (Zd (wr.1.size) 1)=some b/\w'.cell? (Zd (wr.1.size) 2)=some t/\w'.cell? (Zd (wr.1.size) 3)=some r
theorem FS.ag{c e:Zh}{m s b t:D4}(x:FS wr h m s b t r c)(a:Zz c e)(l:h+3<c.1.size)(d:wr.1.size<c.1.size):FS wr h m s b t r e:=by obtain⟨f,g,i,j,k⟩:=x;exact⟨(a.cell (p:=⟨h+1+1+1,1,none⟩) l).ah f,(a.cell (p:=⟨wr.1.size,0,none⟩) d).ah g,(a.cell (p:=⟨wr.1.size,1,none⟩) d).ah i,(a.cell (p:=⟨wr.1.size,2,none⟩) d).ah j,(a.cell (p:=⟨wr.1.size,3,none⟩) d).ah k⟩
theorem FS.grown{e:Zh}{q:Nat}{m s b t:D4}(x:FS wr h m s b t r e)(a:e.grownBy d (some q))(l:h+1+1+1≠q)(c:wr.1.size≠q):FS wr h m s b t r d:=by obtain⟨f,g,i,j,k⟩:=x;exact⟨a.cell f (D2 l),a.cell g (D2 c),a.cell i (D2 c),a.cell j (D2 c),a.cell k (D2 c)⟩
theorem Gf(l u n d:Int)(a:Zk)(E:Nat)(P L:D4)(h:Dj)(w:Zh)(r:AW w w.1.size a h)(hl:h.length<=1048576)(B:∀k∈h,(k.sum.size:Int)=l)(V:l<=8):
 D8 36 #[.agg #[Zg l,Zg u,Zg n,Zg d,C3 a h.length E,P,L]] w λe t=>∃m f,e=C5 (.agg #[Zg l,.map (some m)])/\(w.1.size<=m/\m<=w.1.size+2)/\AN t 75 m h.length f/\Holds w w.1.size l h f/\Zz w t:=by
 have g:= @run_makeMap prog;go_enter func36,ntmps36;go_wp2
 have⟨q,c⟩:=Ae ((((w.alloc (Obj.cells #[int IntKind.i64 l,int IntKind.i64 u,int IntKind.i64 n,int IntKind.i64 d,C1 a h E,P,L] 27)).alloc (Obj.cells #[int IntKind.i64 0,Value.map none] 81)).alloc (Obj.map #[] 0)).alloc (Obj.cells #[int IntKind.i64 l,Value.map (some (w.1.size+1+1))] 81));have I:Below w.1.size w q:=by rw[c];exact((((Zy).alloc Yu _).alloc Yt _).alloc Yt _)
 have zB:q.1.size=w.1.size+4:=by rw[c];simp
 have J:AN q 75 (w.1.size+1+1) 0 (λ_=>none):=by have:=AN.new ((w.alloc (Obj.cells #[int IntKind.i64 l,int IntKind.i64 u,int IntKind.i64 n,int IntKind.i64 d,C1 a h E,P,L] 27)).alloc (Obj.cells #[int IntKind.i64 0,Value.map none] 81)) 75;rw[c];have U:=this.ag (Ad.alloc (Zx) (Obj.cells #[int IntKind.i64 l,Value.map (some (w.1.size+1+1))] 81)) this.lt;simpa using U
 have s0:q.cell? (Zd (w.1.size+1+1+1) 0)=some (Zg l):=by rw[c];simp[go_sem]
 have s1:q.cell? (Zd (w.1.size+1+1+1) 1)=some (.map (some (w.1.size+1+1))):=by rw[c];simp[go_sem]
 have r0:q.cell? (Zd (w.1.size+1) 0)=some Ze:=by rw[c];simp[go_sem]
 have m:q.cell? (Zd (w.1.size+1) 1)=some (.map none):=by rw[c];simp[go_sem]
 have rf:∀j,q.frozen? ⟨w.1.size+1,j,none⟩=false:=λj=>by rw[c];simp[go_sem]
 rw[<-c];clear c g
 go_loopw [13] (λi wr=>∃(k:Nat) (f:Lit->Option Value),k<=h.length/\i=Zg k/\Hid (AN wr 75 (w.1.size+1+1) k f)/\Hid (Holds w w.1.size l (h.take k) f)/\q.grownBy wr (some (w.1.size+1+1))) (λi _=>h.length -(intOf i).toNat)
 case atStart=>exact⟨0,_,Az _,rfl,J,by rw[take_zero];exact Holds.nil w w.1.size l,AO _ _⟩
 case round=>
  obtain⟨k,f,hk,rfl,F,C,o⟩:=hrel;have s:=I.grown o Yv (by intro j i;cases i;omega);have t0:=o.cell s0 Yu;have t1:=o.cell s1 Yu;have zC:=o.size;by_cases hlt:k<h.length
  .obtain⟨b,Q,Y,Z,G⟩:=(r.A s).at hlt;subst Y;have D:=Yw (Zv hlt);obtain⟨c0,c1,c2,W,rc,T,_⟩:=G k _ D;have⟨b',R,K,_,z⟩:=r.at hlt;cases K;obtain⟨_,_,_,g,c,y,A⟩:=z k _ D;have N:g=W/\c=rc:=by have:=(s.cell (p:=⟨b,Q+k *4+3,none⟩) Z).ah y;rw[T]at this;simp at this;exact⟨this.1.symm,this.2.symm⟩
   obtain⟨rfl,rfl⟩:=N;have O:=B _ (getElem_mem hlt);have zA:b<wr.1.size:=Yv
   have S:=Yw A;clear G z A y B r;generalize h[k]=x at *
   go_wp2;have z:Below wr.1.size wr (wr.alloc (Obj.cells #[C4 x.sum,int IntKind.i64 x.born,C4 x.J,C1 g x.B c] 68)):=Zy
   have X:FS wr w.1.size (.map (some (w.1.size+1+1))) (C4 x.sum) (Zg x.born) (C4 x.J) (C1 g x.B c) (wr.alloc (Obj.cells #[C4 x.sum,int IntKind.i64 x.born,C4 x.J,C1 g x.B c] 68)):=⟨(z.cell (p:=⟨w.1.size+1+1+1,1,none⟩) Yt).ah t1,Yu,Yu,Yu,Yu⟩
   have y:FS wr w.1.size (.map (some (w.1.size+1+1))) (C4 x.sum) (Zg x.born) (C4 x.J) (C1 g x.B c) (wr.alloc (Obj.cells #[C4 x.sum,int IntKind.i64 x.born,C4 x.J,C1 g x.B c] 68)).drew:=X
   go_region_held3 (λt=>t.cell? (Zd (w.1.size+1+1+1) 1)=some (.map (some (w.1.size+1+1)))/\t.cell? (Zd (wr.1.size) 0)=some (C4 x.sum)/\t.cell? (Zd (wr.1.size) 1)=some (Zg x.born)/\t.cell? (Zd (wr.1.size) 2)=some (C4 x.J)/\t.cell? (Zd (wr.1.size) 3)=some (C1 g x.B c))
    (first|exact B|exact A|exact y)
    (first
    |(go_at_call 39;refine(FO x.sum _).aj ?_;rintro e G ⟨rfl,t⟩;have A:FS wr w.1.size (.map (some (w.1.size+1+1))) (C4 x.sum) (Zg x.born) (C4 x.J) (C1 g x.B c) G:=FS.ag y t Yt Yu;have r:Below wr.1.size wr G:=z.drew.ah (t.aj Yu);obtain⟨w3,hup,hm3,hg3⟩:=(F.ag r Yv).put keyed underlying79 (val:=CW x g c) Yo (CE x.sum);have B:FS wr w.1.size (.map (some (w.1.size+1+1))) (C4 x.sum) (Zg x.born) (C4 x.J) (C1 g x.B c) w3:=FS.grown A hg3 Yu Yt;unfold CW at hup))
   all_goals
    have M:=Aj o (Aj (Ag _ r) hg3);have HN:Hid (Holds w w.1.size l (h.take (k+1)) (upd f (keyL x.sum) (CW x g c))):=by have:=C.snoc (rc:=c) O V S;rw[take_add_one,D.o];exact this
    have H:=Yw hm3;clear hm3 hup A B hg3 r t;go_wp2;exact⟨⟨k+1,_,Yv,Yn,H,HN,M⟩,Ys⟩
  .have r:=o.cell r0 Yu;have t:=o.cell m Yu;have A:∀j,wr.frozen? ⟨w.1.size+1,j,none⟩=false:=λj=>(o.frozen_far ⟨w.1.size+1,j,none⟩ Yt Yu).ah (rf j);rw[Zt Yv]at C;obtain rfl:k=h.length:=Yv
   go_wp2;refine C0 (.agg #[Zg l,.map (some (w.1.size+1+1))]) (by simp[results,results36,go_sem,r,t]) ⟨_,f,rfl,Yv,?_,C,?_⟩
   .exact(AN.setCell (AN.setCell F Yu _) Yu _)
   .exact(s.setCell Yu _).setCell Yu _
def FD(b m:Nat)(s:Zi)(v:Value)(w':Zh):Prop:=
 w'.cell? (Zd b 1)=some (.map (some m))/\(Instr.lookup 79 (.map (some m)) (Ca s) true).run prog w'=.ok v w'
theorem FD.of{a:Zh}{m:Nat}{f:Lit->Option Value}(e:W.cell? (Zd b 1)=some (.map (some m)))(c:AN W 75 m n f)(d:b<B)(g:m<B)(h:Below B W a):
 FD b m s (.tuple #[(f (keyL s)).getD (.agg #[Zc,Ze,Zc,Zb]),.bool (f (keyL s)).isSome]) a:=
 ⟨(h.cell (p:=⟨b,1,none⟩) d).ah e,(c.ag h g).look_ok keyed underlying79 (IQ _) (CE s)⟩
theorem Hw(G:Int)(m n:Nat)(f:Lit->Option Value)(s:Zi)(w:Zh)(r:AN w 75 m n f)(V:(s.size:Int)=G)(u:Zi)(k:Int)(t:Zi)(F:D4)(q:Bool)(N:(∃a l c,F=C3 a l c))(H:(f (keyL s)).getD (.agg #[Zc,Ze,Zc,Zb])=.agg #[C4 u,Zg k,C4 t,F])(g:(f (keyL s)).isSome=q):
 D8 79 #[.agg #[Zg G,.map (some m)],C4 s] w λe d=>e=C5 (.tuple #[.agg #[C4 u,Zg k,C4 t,F],.bool q])/\Zz w d:=by
 obtain⟨C,D,E,rfl⟩:=N;have M:=r.lt;have L:∀b i,Zz w ((w.alloc b).alloc i):=λb i=>(Zy).alloc Yu _;go_enter func79,ntmps79;go_wp2;have⟨W,b⟩:=Ae ((w.alloc (Obj.cells #[int IntKind.i64 G,Value.map (some m)] 81)).alloc (Obj.cells #[C4 ⟨#[]⟩,int IntKind.i64 0,C4 ⟨#[]⟩,C3 none 0 0] 68));have I:W.1.size=w.1.size+1+1:=by rw[b];simp
 have x:Below w.1.size w W:=by rw[b];exact L _ _
 have R:W.cell? (Zd (w.1.size) 1)=some (.map (some m)):=by rw[b];simp[go_sem]
 have r0:∃v,W.cell? (Zd (w.1.size+1) 0)=some v:=by rw[b];simp[go_sem]
 have z:∃v,W.cell? (Zd (w.1.size+1) 1)=some v:=by rw[b];simp[go_sem]
 have A:∃v,W.cell? (Zd (w.1.size+1) 2)=some v:=by rw[b];simp[go_sem]
 have B:∃v,W.cell? (Zd (w.1.size+1) 3)=some v:=by rw[b];simp[go_sem]
 have T:∀j,W.frozen? ⟨w.1.size+1,j,none⟩=false:=λj=>by rw[b];simp[go_sem]
 obtain⟨v0,r0⟩:=r0;obtain⟨l,z⟩:=z;obtain⟨v2,A⟩:=A;obtain⟨v3,B⟩:=B;have y:∀d,Zz W d->FD w.1.size m s (.tuple #[.agg #[C4 u,Zg k,C4 t,C3 C D E],.bool q]) d:=λd h=>by have:=FD.of (s:=s) R (r.ag x M) Yv Yv h;rw[H,g]at this;exact this
 have i:=Yw y;have o:w.1.size+1<W.1.size:=Yv
 have U:w.1.size<W.1.size:=Yv
 rw[<-b];clear b y H g r I;go_region_held3 (λd=>d.cell? (Zd (w.1.size) 1)=some (.map (some m))/\(Instr.lookup 79 (.map (some m)) (Ca s) true).run prog d=.ok (.tuple #[.agg #[C4 u,Zg k,C4 t,C3 C D E],.bool q]) d)
  (first
    |exact i _ b
    |exact i _ (b.alloc (Zm (Zx) b.size) _)
    |exact i _ (Ad.drew.alloc Yu _)
    |exact i _ Ad.drew
    |exact i _ ((((b.setCell Yu _).setCell Yu _).setCell Yu _).setCell Yu _)
    |exact i _ (b.alloc b.size _))
  (first
    |(go_at_call 39;refine(FO s W.drew).aj ?_;rintro e g ⟨rfl,d⟩;have b:Below W.1.size W g:=Ad.drew.ah (d.aj Yu);have O:=b.size)
    |(go_at_call 39;refine(FO s (W.alloc _).drew).aj ?_;rintro e g ⟨rfl,d⟩;have b:Below W.1.size W g:=(Zy).drew.ah (d.aj Yu);have O:W.1.size<g.1.size:=(by have:=d.size;simp at this;omega);have X:g.cell? (Zd (W.1.size) 0)=some Zc:=(by rw[d.cell (p:=⟨W.1.size,0,none⟩) Yu];simp[go_sem]);have Y:g.cell? (Zd (W.1.size) 1)=some Ze:=(by rw[d.cell (p:=⟨W.1.size,1,none⟩) Yu];simp[go_sem]);have Z:g.cell? (Zd (W.1.size) 2)=some Zc:=(by rw[d.cell (p:=⟨W.1.size,2,none⟩) Yu];simp[go_sem]);have a:g.cell? (Zd (W.1.size) 3)=some Zb:=(by rw[d.cell (p:=⟨W.1.size,3,none⟩) Yu];simp[go_sem]);have S:∀j,g.frozen? ⟨W.1.size,j,none⟩=false:=(λj=>by rw[d.frozen (p:=⟨W.1.size,j,none⟩) Yu];simp[go_sem])))
 all_goals
  have H:=(b.cell (p:=⟨w.1.size+1,0,none⟩) o).ah r0;have I:=(b.cell (p:=⟨w.1.size+1,1,none⟩) o).ah z;have J:=(b.cell (p:=⟨w.1.size+1,2,none⟩) o).ah A;have K:=(b.cell (p:=⟨w.1.size+1,3,none⟩) o).ah B;have c:∀j,g.frozen? ⟨w.1.size+1,j,none⟩=false:=λj=>(b.frozen (p:=⟨w.1.size+1,j,none⟩) o).ah (T j);have y:=x.ah (b.aj Yv)
  have r:w.1.size+1<g.1.size:=Yv
  have P:¬W.1.size=w.1.size+1:=Yv
  have Q:¬w.1.size+1=W.1.size:=Yv
  clear d i;go_wp2;refine C0 (.tuple #[.agg #[C4 u,Zg k,C4 t,C3 C D E],.bool q]) (by first|(simp[results,results79,go_sem,H,I,J,K];done)|(simp[results,results79,go_sem,H,I,J,K,r];done)) ⟨rfl,?_⟩
  first
   |(have d:=S 0;exact((((((((y.setCell Yt _).setCell Yt _).setCell Yt _).setCell Yt _).setCell Yu _).setCell Yu _).setCell Yu _).setCell Yu _))
   |exact(((((y.setCell Yu _).setCell Yu _).setCell Yu _).setCell Yu _).alloc Yt _)
theorem XP(a:Int)(m:Nat)(s:Zi)(w:Zh)(b:¬(s.size:Int)=a):
 D8 79 #[.agg #[Zg a,.map (some m)],C4 s] w λe c=>e=C5 (.tuple #[.agg #[Zc,Ze,Zc,Zb],.bool false])/\Zz w c:=by
 have c:((s.size:Int)==a)=false:=D2 b
 go_enter func79,ntmps79;go_wp2;refine C0 (.tuple #[.agg #[Zc,Ze,Zc,Zb],.bool false]) (by simp[results,results79,go_sem]) ⟨rfl,?_⟩;exact(Zy).alloc Yu _
structure Found (ks:List Kd) (s:Zi) (bo:Int) (ok:Bool):Prop where
 no:ok=false->¬Am ks s
 yes:ok=true->∃x∈ks,x.sum=s/\x.born=bo
theorem LM(b:Int)(m n:Nat)(f:Lit->Option Value)(j:Dj)(W:Zh)(B:Nat)(s:Zi)(w:Zh)(d:AN w 75 m n f)(p:Holds W B b j f)(o:∀k∈j,(k.sum.size:Int)=b):
 ∃u c t l q r g,Found j s c g/\∀a,Zz w a->D8 79 #[.agg #[Zg b,.map (some m)],C4 s] a λe i=>e=C5 (.tuple #[.agg #[C4 u,Zg c,C4 t,C3 l q r],.bool g])/\Zz a i:=by
 by_cases hs:(s.size:Int)=b
 .rcases p s hs with⟨c,g⟩|⟨x,q,r,c,g,l,_⟩
  .exact⟨⟨#[]⟩,0,⟨#[]⟩,none,0,0,false,⟨λ_=>g,λh=>by cases h⟩,λa i=>Hw b m n f s a (d.ag i d.lt) hs _ _ _ _ _ ⟨_,_,_,rfl⟩ (by rw[c];rfl) (by rw[c];rfl)⟩
  .exact⟨x.sum,x.born,x.J,q,x.B.length,r,true,⟨λh=>by(cases h),λ_=>⟨x,c,g,rfl⟩⟩,λa i=>Hw b m n f s a (d.ag i d.lt) hs _ _ _ _ _ ⟨_,_,_,rfl⟩ (by rw[l];rfl) (by rw[l];rfl)⟩
 .exact⟨⟨#[]⟩,0,⟨#[]⟩,none,0,0,false,⟨λ_ ⟨x,hx,e⟩=>hs (by rw[<-e];exact o x hx),λh=>by cases h⟩,λa _=>XP b m s a hs⟩
theorem Fm(c:Int)(m n:Nat)(f:Lit->Option Value)(g:Dj)(W:Zh)(B:Nat)(s:Zi)(w:Zh)(p:AN w 75 m n f)(o:Holds W B c g f)(l:∀k∈g,(k.sum.size:Int)=c):
 ∃b,(b=true↔Am g s)/\∀a,Zz w a->D8 37 #[.agg #[Zg c,.map (some m)],C4 s] a λe d=>e=C5 (.bool b)/\Zz a d:=by
 have⟨u,y,t,z,A,C,b,d,j⟩:=LM c m n f g W B s w p o l;refine⟨b,⟨λh=> ?_,λh=> ?_⟩,λa q=> ?_⟩
 .obtain⟨x,v,e,_⟩:=d.yes h;exact⟨x,v,e⟩
 .cases b with
  |true=>rfl
  |false=>exact absurd h (d.no rfl)
 .have i:Below a.1.size a (a.alloc (.cells #[Zg c,.map (some m)] 81)):=Zy;have r:=Yw (j _ (q.ah (i.aj q.size)));clear j p o l d;go_enter func37,ntmps37;go_wp2_with fail;refine r.Ai ?_;rintro e d ⟨rfl,a⟩;go_wp2;go_ret;exact⟨rfl,(i.ah (a.aj Yu)).alloc (by have:=a.size;simp at this;omega) _⟩
end
section
attribute [local go_sem↓] Go.wp_at_zero Go.wp_at_succ
section
open Go.WideElems Go.MapKept Go.ChangeMaps
theorem IA(w:Zh)(b:Nat)(x y:Obj):setBlock (setBlock w b x) b y=setBlock w b y:=by simp[setBlock]
theorem Hx{d:Array MapEntry}{g:Nat}(val:D4)(c:f.1[b]?=some (.map d clock))(a:d.findIdx? (λe=>((e.born:Nat):Int)==((g:Nat):Int))=some i):
 (Instr.entryStore t (.map (some b)) (goInt g) val).run P f=.ok () (setBlock f b (.map (d.modify i (λe=>{e with val:=val})) clock)):=by
 simp[Instr.entryStore,MapKept.run_getObj_map c,asInt,asIntOf,goInt,a,MapKept.run_setObj_map _ c,Result.andThen,setBlock]
theorem Nx{H:Type}{k:TypeId}{R:Value->Option (DataW H×List MemPlace)}{f:Array MapEntry}(K:Maps.Keyed P k)(o:P.underlying t=some (.map k e))(A:∀u:Zh,(zeroValue e).run P u=.ok z u)(g:w.1[b]?=some (.map f clock))(F:Fit P k R f clock){key:D4}{D:Lit}(d:keyOf P k key=some D):
 ∃(v0:D4) (st:Nat) (w3:Zh),(Instr.mapEntry t (.map (some b)) key).run P w=.ok (.tuple #[v0,goInt st]) w3/\(Instr.lookup t (.map (some b)) key false).run P w=.ok v0 w/\(Instr.mapUpdate t (.map (some b)) key v0).run P w=.ok () w3/\
  ∀val:Value,∃h,(Instr.entryStore t (.map (some b)) (goInt st) val).run P w3=.ok () h/\(Instr.mapUpdate t (.map (some b)) key val).run P w=.ok () h:=by
 have⟨E,B,_⟩:=F.stamped;rcases K.find w d f.toList F.keys with⟨h,i⟩|⟨j,e0,h,i,q⟩
 .have v:(setBlock w b (.map (f.push ⟨key,z,clock⟩) (clock+1))).1[b]?=some (.map (f.push ⟨key,z,clock⟩) (clock+1)):=heap_setBlock_same g _;refine⟨z,clock,setBlock w b (.map (f.push ⟨key,z,clock⟩) (clock+1)),?_,?_,?_,λval=>⟨setBlock w b (.map (f.push ⟨key,val,clock⟩) (clock+1)),?_,?_⟩⟩
  .simp[Instr.mapEntry,run_underlying o,MapKept.run_getObj_map g,K.check w false d,h,A,MapKept.run_setObj_map _ g,Result.andThen,setBlock]
  .simp[Instr.lookup,run_underlying o,MapKept.run_getObj_map g,K.check w _ d,h,A,Result.andThen]
  .simp[Instr.mapUpdate,run_underlying o,MapKept.run_getObj_map g,K.check w false d,h,MapKept.run_setObj_map _ g,Result.andThen,setBlock]
  .have m:(f.push ⟨key,z,clock⟩).findIdx? (λe=>((e.born:Nat):Int)==((clock:Nat):Int))=some f.size:=by
    rw[findIdx_arr];have:=findIdx_born (l:=(f.push ⟨key,z,clock⟩).toList) (j:=f.size) (e0:=⟨key,z,clock⟩) (by
     simp only[Array.toList_push,map_append,map_cons,map_nil];refine nodup_append.2 ⟨B,Yu,λa n c p r=> ?_⟩;simp only[mem_singleton]at p;obtain⟨x,C,rfl⟩:=mem_map.1 n;have:=E x C;omega) Yu
    exact this
   have n:(f.push ⟨key,z,clock⟩).modify f.size (λe=>{e with val:=val})=f.push ⟨key,val,clock⟩:=by apply Array.ext';rw[Array.toList_modify,Array.toList_push,Array.toList_push,<-Array.length_toList,modify_last]
   rw[Hx val v m,IA,n]
  .simp[Instr.mapUpdate,run_underlying o,MapKept.run_getObj_map g,K.check w false d,h,MapKept.run_setObj_map _ g,Result.andThen,setBlock]
 .have y:f[j]?=some e0:=D2 i
  have r:f.modify j (λe=>{e with key:=key})=f:=by
   apply Array.ext';rw[Array.toList_modify,modify_eq_set _ _ _ _ i];have:({e0 with key:=key}:MapEntry)=e0:=by rw[<-q]
   rw[this];exact set_self _ _ _ i
  have p:f.modify j (λs=>{s with key:=key,val:=e0.val})=f:=by
   apply Array.ext';rw[Array.toList_modify,modify_eq_set _ _ _ _ i];have:({e0 with key:=key,val:=e0.val}:MapEntry)=e0:=by rw[<-q]
   rw[this];exact set_self _ _ _ i
  have v:(setBlock w b (.map f clock)).1[b]?=some (.map f clock):=heap_setBlock_same g _;refine⟨e0.val,e0.born,setBlock w b (.map f clock),?_,?_,?_,λval=>⟨setBlock w b (.map (f.modify j (λs=>{s with key:=key,val:=val})) clock),?_,?_⟩⟩
  .simp[Instr.mapEntry,run_underlying o,MapKept.run_getObj_map g,K.check w false d,h,y,q,K.stays w d,r,MapKept.run_setObj_map _ g,Result.andThen,setBlock]
  .simp[Instr.lookup,run_underlying o,MapKept.run_getObj_map g,K.check w _ d,h,Result.andThen]
  .simp[Instr.mapUpdate,run_underlying o,MapKept.run_getObj_map g,K.check w false d,h,y,q,K.stays w d,p,MapKept.run_setObj_map _ g,Result.andThen,setBlock]
  .have m:f.findIdx? (λe=>((e.born:Nat):Int)==((e0.born:Nat):Int))=some j:=by rw[findIdx_arr];exact findIdx_born B i
   have n:f.modify j (λe=>{e with val:=val})=f.modify j (λs=>{s with key:=key,val:=val}):=by apply Array.ext';rw[Array.toList_modify,Array.toList_modify,modify_eq_set _ _ _ _ i,modify_eq_set _ _ _ _ i,<-q]
   rw[Hx val v m,IA,n]
  .simp[Instr.mapUpdate,run_underlying o,MapKept.run_getObj_map g,K.check w false d,h,y,q,K.stays w d,MapKept.run_setObj_map _ g,Result.andThen,setBlock]
end
def BR(w:Zh)(K:TypeId)(b n c:Nat)(f:Lit->Option Value):Prop:=
 ∃D:DataW Value,w.ownsMap prog K OK b n D/\(∀kl z,D.atKey kl (.held z)=.held ((f kl).getD z))/\(∀kl,Maps.has D kl=(f kl).isSome)/\Maps.Tidy D/\Maps.size D=c
theorem BR.map{f:Lit->Option Value}(h:BR w K b n c f):AN w K b n f:=let ⟨D,h1,h2,h3,_⟩:=h;⟨D,h1,h2,h3⟩
theorem BR.new(w:Zh)(K:TypeId):BR (w.alloc (.map #[] 0)) K w.1.size 0 0 (λ_=>none):=
 ⟨.map [],ownsMap_made _ _ _ _,λ_ _=>rfl,λ_=>rfl,Maps.tidy_empty,rfl⟩
theorem BR.ag{a:Zh}{f:Lit->Option Value}(h:BR w K b n c f)(k:Below B w a)(j:b<B):BR a K b n c f:=by obtain⟨D,⟨d,clock,e,g⟩,i⟩:=h;exact⟨D,⟨d,clock,(k.block b j).ah e,g⟩,i⟩
theorem BR.lt{f:Lit->Option Value}(h:BR w K b n c f):b<w.1.size:=h.choose_spec.1.lt
theorem BR.len{f:Lit->Option Value}(h:BR w K b n c f)(i:prog.underlying t=some (.map K e))(a:TypeId):(Builtin.len_ #[t] a #[.map (some b)]).run prog w=.ok (Zg c) w:=by obtain⟨D,d,_,_,_,g⟩:=h;rw[<-g];exact d.len i a
theorem BR.put{f:Lit->Option Value}(h:BR w K b n c f)(p:Maps.Keyed prog K)(B:prog.underlying t=some (.map K e))(v:n<maxLen){k:D4}{g:Lit}(a:keyOf prog K k=some g):
 ∃i,(Instr.mapUpdate t (.map (some b)) k val).run prog w=.ok () i/\BR i K b (n+1) (if (f g).isSome then c else c+1) (upd f g val)/\w.grownBy i (some b):=by
 obtain⟨D,l,r,m,o,s⟩:=h;obtain⟨i,A,y,u⟩:=l.update p B v a (d:=.held val) (ps:=[]) (val:=val) rfl;have q:=l.isMap;have j:=p.key a;refine⟨i,A,⟨_,y,λx z=> ?_,λx=> ?_,o.put j _,?_⟩,u⟩
 .by_cases hx:x=g
  .subst hx;rw[Maps.atKey_put_same q j,CX];rfl
  .rw[Maps.atKey_put_other hx,Dh _ _ hx];exact r x z
 .by_cases hx:x=g
  .subst hx;rw[Maps.has_put_same q j,CX];rfl
  .rw[Maps.has_put_other hx,Dh _ _ hx];exact m x
 .rw[Maps.size_put o,m,s]
theorem BR.jd{f:Lit->Option Value}(h:BR w K b n c f)(k:Maps.Keyed prog K)(l:prog.underlying t=some (.map K e))(y:n<maxLen)(v:∀u:Zh,(zeroValue e).run prog u=.ok z u){g:Lit}(a:keyOf prog K j=some g)(val:D4):
 ∃o d m,(Instr.mapEntry t (.map (some b)) j).run prog w=.ok (.tuple #[(f g).getD z,goInt o]) d/\(Instr.lookup t (.map (some b)) j false).run prog w=.ok ((f g).getD z) w/\(Instr.lookup t (.map (some b)) j false).run prog d=.ok ((f g).getD z) d/\
  (Instr.entryStore t (.map (some b)) (goInt o) val).run prog d=.ok () m/\BR m K b (n+1) (if (f g).isSome then c else c+1) (upd f g val)/\w.grownBy d (some b)/\w.grownBy m (some b):=by
 have s:=h;obtain⟨D,⟨P,clock,J,F,V,U⟩,Q,R,S,T⟩:=h;have⟨v0,o,d,L,x,M,H⟩:=Nx k l v J F a;have p:=s.map.look k l (v w) a;rw[x]at p;cases p;have⟨m,G,I⟩:=H val;obtain⟨N,r,C,A⟩:=s.put k l y a (val:=(f g).getD z);rw[M]at r;cases r;obtain⟨O,i,E,B⟩:=s.put k l y a (val:=val);rw[I]at i;cases i;have q:=C.map.look k l (v d) a;rw[CX]at q;exact⟨o,d,m,L,x,q,G,E,A,B⟩
structure MK (ms:Zl) (f:Lit->Option Value) (c:Nat):Prop where
 has:∀l,(f l).isSome=true↔l∈ms.map keyL
 G:∀l v,f l=some v->∃n:Int,v=Zg n/\1<=n/\n<=ms.length
 le:c<=ms.length
 all:c=ms.length↔(ms.map keyL).Nodup
theorem MK.nil:MK [] (λ_=>none) 0:=⟨λl=>Yu,λl v h=>(by simp at h),Zx,Yu⟩
theorem MK.get{a:Zl}{f:Lit->Option Value}(h:MK a f c)(l:Lit):∃n:Int,(f l).getD Ze=Zg n/\0<=n/\n<=a.length/\(0<n↔l∈a.map keyL):=by
 cases hf:f l with
 |none=>refine⟨0,rfl,Int.le_refl _,Yv,?_⟩;have:=h.has l;rw[hf]at this;simp at this |-;exact this
 |some v=>obtain⟨n,rfl,d,b⟩:=h.G l v hf;have:=h.has l;rw[hf]at this;exact⟨n,rfl,Yv,b,⟨λ_=>this.1 rfl,λ_=>Yv⟩⟩
theorem MK.snoc{g:Zl}{f:Lit->Option Value}(h:MK g f c)(x:Zi){n:Int}(s:0<=n)(t:n<=g.length):
 MK (g++[x]) (upd f (keyL x) (Zg (n+1))) (if (f (keyL x)).isSome then c else c+1):=by
 have j:=h.has (keyL x);refine⟨λl=> ?_,λl v d=> ?_,?_,?_⟩
 .by_cases e:l=keyL x
  .subst e;rw[CX];simp
  .rw[Dh _ _ e,h.has l];simp only[map_append,map_cons,map_nil,A7,mem_singleton];exact⟨λh=> .inl h,λh=>h.resolve_right e⟩
 .by_cases e:l=keyL x
  .subst e;rw[CX]at d;cases d;exact⟨n+1,rfl,Yv,Yt⟩
  .rw[Dh _ _ e]at d;have⟨m,k,o,r⟩:=h.G l v d;exact⟨m,k,o,Yt⟩
 .have:=h.le;split<;>simp<;>omega
 .have q:=h.le;have d:=h.all;rw[map_append,map_cons,map_nil,Ak];by_cases hm:keyL x∈g.map keyL
  .rw[if_pos (j.2 hm)];constructor
   .intro e;simp at e;omega
   .intro e;have:=(nodup_append.1 e).2.2 _ hm _ Yu rfl;cases this
  .rw[if_neg (λe=>hm (j.1 e))];constructor
   .intro e;refine nodup_append.2 ⟨d.1 (by simp at e;omega),Yu,λa p b i e=> ?_⟩;simp at i;subst i;subst e;exact hm p
   .intro e;have:=d.2 (nodup_append.1 e).1;simp;omega
theorem Lc{a:Int}(b:0<=a)(c:a<=2000000000):IntKind.i64.wrap a=a:=by unfold IntKind.wrap;simp[IntKind.signed,IntKind.bits];omega
theorem GQ(w:Zh):(zeroValue 3).run prog w=.ok Ze w:=Yr
end
theorem Dl(t:Zi)(a:Zl)(b:Int):(AB t a b).size<=maxLen:=by
 unfold AB;split
 .rename_i h
  have h:=Bj h;have c:=h.bz;have d:=h.J;have:(ByteArray.mk (Ch t a).toArray).size=1+(bx a+t.size):=by show(Ch t a).toArray.size=_;simp only[A1,Ch,length_cons,Ak,Er,Array.length_toList];show _+t.size+1=_;omega
  rw[this];unfold maxLen;omega
 .simp[maxLen]
theorem Oj(t:Zi)(a:Zk)(d:Nat)(b:Zl)(f:Int)(w:Zh)(c:Af w w.1.size a b)(h:b.length<=1048576)(i:t.size<=maxLen):
 D8 82 #[.agg #[C4 t,C3 a b.length d],Zg f] w λe g=>e=C5 (.bool (AG t b f))/\Zz w g:=by
 refine(Ey t a d b f w c h i).aj ?_;rintro e g ⟨rfl,rfl⟩;exact⟨rfl,Zy⟩
theorem wrap_small{a:Int}(b:0<=a)(c:a<=1048576):IntKind.i64.wrap a=a:=by unfold IntKind.wrap;simp[IntKind.signed,IntKind.bits];omega
theorem LN(w:Zh)(n:Nat)(a:Addr):(w.drewN n).cell? a=w.cell? a:=rfl
theorem LO(w:Zh)(n:Nat):(w.drewN n).1.size=w.1.size:=rfl
def RZ(w:Zh)(wd:Int)(m:Nat)(ks:List Kd)(s:Zi):Prop:=
 ∃ok,(ok=true↔Am ks s)/\∀w',Zz w w'->Calls prog 37 #[.agg #[Zg wd,.map (some m)],.string s] w' fun e w''=>e=.returned (.bool ok)/\Zz w' w''
def Ay(P:Prop)(w0 w:Zh)(e:Ending):Prop:=∃b,e=.returned (.bool b)/\(b=true↔P)/\Zz w0 w
theorem Ay.yes{P:Prop}{a:Zh}(h:P)(b:Zz a w):Ay P a w (.returned (.bool true)):=⟨_,rfl,D2 h,b⟩
theorem Ay.no{P:Prop}{a:Zh}(h:¬P)(b:Zz a w):Ay P a w (.returned (.bool false)):=⟨_,rfl,D2 h,b⟩
theorem GZ{a:Int}(b:0<=a)(c:a<=2000000000):IntKind.i64.wrap a=a:=by unfold IntKind.wrap;simp[IntKind.signed,IntKind.bits];omega
def ZV(w:Zh)(wd:Int)(m:Nat)(ks:List Kd)(s:Zi):Prop:=
 ∃u bo t sa sb sc ok,Found ks s bo ok/\∀w',Zz w w'->Calls prog 79 #[.agg #[Zg wd,.map (some m)],.string s] w' fun e w''=>e=.returned (.tuple #[.agg #[.string u,Zg bo,.string t,.slice sa sb sc],.bool ok])/\Zz w' w''
theorem Sa(n:Int)(w:Zh):
 D8 33 #[Zg n] w λe a=>e=C5 (.bool (decide (1<=n/\n<=8)))/\a=w:=by
 by_cases h1:1<=n
 .by_cases h2:n<=8
  .go_enter func33,ntmps33;go_wp2;go_ret;exact⟨AF (by simp[h1,h2]),rfl⟩
  .have b:decide (n<=8)=false:=D2 h2
   go_enter func33,ntmps33;go_wp2;go_ret;exact⟨rfl,rfl⟩
 .have a:decide (1<=n)=false:=D2 h1
  go_enter func33,ntmps33;go_wp2;go_ret;exact⟨rfl,rfl⟩
theorem Fx(k:Kd)(a:Int)(h:1<=a):((Gc k a).size:Int)=a:=by
 have e:∀l:List Int,(strOfNums l).size=l.length:=λl=>by unfold strOfNums;simp[ByteArray.size]
 unfold Gc CD;rw[e,Di];omega
theorem Fy(n:Int)(w:Zh):
 D8 21 #[Zg n] w λe a=>e=C5 (.bool (decide (1<=n/\n<=8)))/\a=w:=by
 by_cases h1:1<=n
 .by_cases h2:n<=8
  .go_enter func21,ntmps21;go_wp2;go_ret;exact⟨AF (by simp[h1,h2]),rfl⟩
  .have b:decide (n<=8)=false:=D2 h2
   go_enter func21,ntmps21;go_wp2;go_ret;exact⟨rfl,rfl⟩
 .have a:decide (1<=n)=false:=D2 h1
  go_enter func21,ntmps21;go_wp2;go_ret;exact⟨rfl,rfl⟩
theorem GR(s:Zi)(w:Zh):
 D8 39 #[C4 s] w λe a=>e=C5 (.agg (Yk (kB s)))/\Zz w a:=FO s w
def Cx(s:Zi):Obj:=.cells #[.int .u8 (kB s 0),.int .u8 (kB s 1),.int .u8 (kB s 2),.int .u8 (kB s 3),.int .u8 (kB s 4),.int .u8 (kB s 5),.int .u8 (kB s 6),.int .u8 (kB s 7)] 75
theorem R8.one(w:Zh)(s:Zi):R8 (w.alloc (Cx s)) (w.1.size+1) (Yz w.1.size 1 1) [s]:=by
 refine .inr ⟨w.1.size,0,1,rfl,Yv,λi t a j b=> ?_⟩;cases i with
 |zero=>
  simp at a;subst a;rw[Nat.zero_mul,A0,A0];unfold Cx;rw[cell?_alloc_at _ _ _ _ rfl]
  match j,b with
  |0,_|1,_|2,_|3,_|4,_|5,_|6,_|7,_=>rfl
 |succ i=>simp at a
theorem BC.alloc{a:Zl}(h:BC w base v a)(o:Obj):BC (w.alloc o) base v a:=h.A (Zy)
section
theorem AN.block{w':Zh}{f:Lit->Option Value}(h:AN w K b n f)(g:w'.1[b]?=w.1[b]?):AN w' K b n f:=by obtain⟨D,⟨a,clock,c,d⟩,e⟩:=h;exact⟨D,⟨a,clock,g.ah c,d⟩,e⟩
section
open Go.WideElems Go.MapKept Go.ChangeMaps
theorem Sb(W:Zh)(b:Nat)(o:Obj):W.grownBy (setBlock W b o) (some b):=
 ⟨rfl,rfl,rfl,by simp[setBlock],λk a a=>by
  have:b≠k:=λe=>a (by rw[e]);simp[setBlock,this]⟩
theorem AN.entry{f:Lit->Option Value}(h:AN w K b n f)(k:Maps.Keyed prog K)(l:prog.underlying t=some (.map K e))(A:n<maxLen)(B:∀u:Zh,(zeroValue e).run prog u=.ok z u){m:Lit}(a:keyOf prog K x=some m):
 ∃g j,(Instr.mapEntry t (.map (some b)) x).run prog w=.ok (.tuple #[(f m).getD z,goInt g]) j/\w.grownBy j (some b)/\
  ∀W,W.1[b]?=j.1[b]? ->∀val,∃c,(Instr.entryStore t (.map (some b)) (goInt g) val).run prog W=.ok () c/\AN c K b (n+1) (upd f m val)/\W.grownBy c (some b):=by
 have y:=h;obtain⟨D,⟨U,clock,M,F,Z,Y⟩,V,X⟩:=h;have⟨v0,g,j,N,O,Q,I⟩:=Nx k l B M F a;have q:=y.look k l (B w) a;rw[O]at q;cases q;obtain⟨R,v,G,E⟩:=y.put k l A a (val:=(f m).getD z);rw[Q]at v;cases v;refine⟨g,j,N,E,λW L val=> ?_⟩;have⟨u,s,J⟩:=I val;obtain⟨S,c,H,_⟩:=y.put k l A a (val:=val);rw[J]at c;cases c;obtain⟨T,⟨C,o,d,_⟩,_⟩:=G
 cases hidx:C.findIdx? (λe=>((e.born:Nat):Int)==((g:Nat):Int))with
 |none=>exfalso;simp[Instr.entryStore,MapKept.run_getObj_map d,asInt,asIntOf,goInt,hidx,Result.andThen]at s
 |some i=>have r:=Hx (P:=prog) (t:=t) val d hidx;rw[s]at r;cases r;have p:=L.ah d;refine⟨_,Hx val p hidx,H.block ?_,Sb _ _ _⟩;rw[heap_setBlock_same p,heap_setBlock_same d]
end
def Cq(E:List (Zi×Zi))(t:Zi):Zl:=E.filterMap (fun p=>if p.1=t then some p.2 else none)
theorem Sc(E:List (Zi×Zi))(s r t:Zi):Cq (E++[(s,r)]) t=if s=t then Cq E t++[r]else Cq E t:=by unfold Cq;rw[filterMap_append];by_cases h:s=t<;>simp[h]
theorem Ny(E:List (Zi×Zi))(t:Zi):(Cq E t).length<=E.length:=by unfold Cq;exact length_filterMap_le _ _
noncomputable def rowV (f:Lit->Option Value) (t:Zi):Value:=(f (keyL t)).getD Zb
structure Lk (w:Zh) (base b n:Nat) (wd:Int) (E:List (Zi×Zi)) (av:List Nat) (f:Lit->Option Value):Prop where
 map:AN w 75 b n f
 row:∀t:Zi,(t.size:Int)=wd->BC w base (rowV f t) (Cq E t)
 apart:∀s t:Zi,(s.size:Int)=wd->(t.size:Int)=wd->s≠t->∀g,Ap (rowV f s)=some g->Ap (rowV f t)≠some g
 dh:∀t:Zi,(t.size:Int)=wd->∀g,Ap (rowV f t)=some g->g∉av
theorem Lk.ag{e:Int}{E:List (Zi×Zi)}{a:List Nat}{f:Lit->Option Value}(h:Lk w base b n e E a f)(c:Zz w d):Lk d base b n e E a f:=
 ⟨h.map.ag c h.map.lt,λt g=>(h.row t g).A c,h.apart,h.dh⟩
theorem Lk.add{X:Zh}{B:Int}{E:List (Zi×Zi)}{F:List Nat}{f:Lit->Option Value}(h:Lk wr i b n B E F f)(hb:b<i)(zB:i<=wr.1.size)(H:∀q∈F,q<wr.1.size)(D:wr.grownBy X (some b)){r:Zi}(w:(s.size:Int)=B)(h8:B<=8){T:TypeId}{N:Int}(Z:∀W,W.1[b]?=X.1[b]? ->∀a,∃c,(Instr.entryStore T (.map (some b)) (goInt N) a).run prog W=.ok () c/\AN c 75 b (n+1) (upd f (keyL s) a)/\W.grownBy c (some b)){M:D4}(hx:R8 X X.1.size M [r])(hlen:E.length<=1000000)(O:TypeId):
 ∃m o x,(Builtin.append_ #[87,87] O #[rowV f s,M]).run prog X=.ok m o/\(Instr.entryStore T (.map (some b)) (goInt N) m).run prog o=.ok () x/\
  Lk x i b (n+1) B (E++[(s,r)]) F (upd f (keyL s) m)/\Below b wr x/\(∀q∈F,q≠b->x.1[q]?=wr.1[q]? /\o.1[q]?=wr.1[q]?)/\wr.1.size<=x.1.size:=by
 have C:∀t:Zi,(t.size:Int)=B->∀g,Ap (rowV f t)=some g->X.1[g]?=wr.1[g]?:=λt d g c=>by have:=(h.row t d).g c;exact D.block g this.2 (λe=>Dz (A4 e))
 have K:∀t:Zi,(t.size:Int)=B->BC X i (rowV f t) (Cq E t):=λt d=>(h.row t d).stays D.size (C t d);have zC:=Ny E s;have zF:=D.size;obtain⟨m,o,W,L,y,S⟩:=MJ X i (rowV f s) (Cq E s) (K s w) M [r] _ hx Yt Yv O;have zE:=y.size;have P:o.1[b]?=X.1[b]?:=y.block b Yv (λe=>Dz ((h.row s w).g e.symm).1);have⟨x,R,Q,z⟩:=Z o P m;have U:=z.size
 have l:∀g,Ap m=some g->(Ap (rowV f s)=some g\/g=X.1.size):=λg a=>by
  rcases S with e|e
  .exact .inl (e▸a)
  .rw[e]at a;exact .inr (A4 a).symm
 have j:rowV (upd f (keyL s) m) s=m:=by unfold rowV;rw[CX];rfl
 have a:∀t:Zi,(t.size:Int)=B->s≠t->rowV (upd f (keyL s) m) t=rowV f t:=λt d A=>by unfold rowV;rw[Dh];intro e;exact A (key_inj e.symm Yv Yv)
 refine⟨m,o,x,W,R,⟨Q,λt d=> ?_,λu t G d A g p=> ?_,λt d g c=> ?_⟩,?_,λq I J=> ?_,Yv⟩
 .rw[Sc];by_cases e:s=t
  .subst e;rw[if_pos rfl,j];exact L.stays U (λg v=>by
    have:i<=g:=(L.g v).1;exact z.block g (L.g v).2 (λe=>Dz (A4 e)))
  .rw[if_neg e,a t d e];refine(K t d).stays Yv (λg c=> ?_);have zA:=(h.row t d).g c;rw[z.block g Yv (λe=>Dz (A4 e))];exact y.block g Yv (λv=>h.apart s t w d e g v.symm c)
 .by_cases eu:s=u
  .subst eu;rw[j]at p;rw[a t d A];intro c;rcases l g p with v|v
   .exact h.apart s t w d A g v c
   .have:=((h.row t d).g c).2;omega
  .rw[a u G eu]at p;by_cases et:s=t
   .subst et;rw[j];intro c;rcases l g c with v|v
    .exact h.apart s u w G eu g v p
    .have:=((h.row u G).g p).2;omega
   .rw[a t d et];exact h.apart u t G d A g p
 .by_cases et:s=t
  .subst et;rw[j]at c;rcases l g c with v|v
   .exact h.dh s w g v
   .intro p;have:=H g p;omega
  .rw[a t d et]at c;exact h.dh t d g c
 .have G:Below b wr X:=Ad.grown D Yv (λk e=>by cases e;exact Zx);have V:Below b X o:=Ad.grown y Yv (λk e=>Dz ((h.row s w).g e).1);have Y:Below b o x:=Ad.grown z Yv (λk e=>by cases e;exact Zx);exact(G.ah V).ah Y
 .have A:=H q I;have d:o.1[q]?=wr.1[q]?:=by rw[y.block q Yv (λe=>h.dh s w q e.symm I),D.block q A (λe=>J (A4 e))]
  exact⟨(z.block q Yv (λe=>J (A4 e))).ah d,d⟩
theorem Lk.new{d:Int}(c:AN w 75 b 0 (λ_=>none)):Lk w a b 0 d [] [] (λ_=>none):=
 ⟨c,λ_ _=> .inl ⟨rfl,rfl⟩,λ_ _ _ _ _ _ h=>(by cases h),λ_ _ _ h=>(by cases h)⟩
theorem Lk.avoid{d:Int}{E:List (Zi×Zi)}{j:List Nat}{f:Lit->Option Value}(h:Lk w a b n d E j f)(c:List Nat)(e:∀q∈c,w.1.size<=q):Lk w a b n d E c f:=
 ⟨h.map,h.row,h.apart,λt l g k i=>by have:=e g i;have:=((h.row t l).g k).2;omega⟩
theorem Lk.free{c:Int}{E:List (Zi×Zi)}{e:List Nat}{f:Lit->Option Value}(h:Lk w a b n c E e f):Lk w a b n c E [] f:=⟨h.map,h.row,h.apart,λ_ _ _ _ d=>by cases d⟩
end
section
attribute [local go_sem↓] Go.wp_at_zero Go.wp_at_succ
theorem Vo{α:Type}(g:Zi->α){a:Zl}{m:Nat}{r:Zi}(h:a[m]?=some r):(a.take (m+1)).map g=(a.take m).map g++[g r]:=by obtain⟨b,rfl⟩:=Zw h;rw[Zu b,map_append];rfl
theorem OY(w:Zh):(zeroValue 87).run prog w=.ok Zb w:=Yr
theorem R8.stay1{g:Nat}{ts:Zl}(h:R8 w B (Yz g ts.length c) ts)(l:w.grownBy d (some b))(i:g≠b)(f:g<w.1.size)(j:B<=a):R8 d a (Yz g ts.length c) ts:=
 (h.stays (λk e=>by cases e;exact l.block g f (λe=>i (A4 e)))).aj j
theorem R8.one_stay{a:Zh}(r:Zi)(e:(a.alloc (Cx r)).grownBy d (some b))(f:a.1.size≠b):R8 d d.1.size (Yz a.1.size 1 1) [r]:=
 R8.stay1 (ts:=[r]) (g:=a.1.size) (c:=1) (R8.one a r) e f Yu (by have:=e.size;simp at this;omega)
theorem Aa.same(h:Aa w B l)(b:d.1[B]?=w.1[B]?):Aa d B l:=
 λj v c=>⟨(cell?_of_block (a:=⟨B,j,none⟩) b).ah (h j v c).1,(frozen?_of_block (a:=⟨B,j,none⟩) b).ah (h j v c).2⟩
theorem GH(w:Zh)(o:Obj)(h:b<w.1.size):(w.alloc o).1[b]?=w.1[b]?:=Below.heap_alloc w o b h
theorem ZX{a:Zh}(h:a.1[B]?=w.1[B]?)(b:Aa w B (Yj (kB s))):
 a.cell? (Zd B 0)=some (.int .u8 (kB s 0))/\a.cell? (Zd B 1)=some (.int .u8 (kB s 1))/\a.cell? (Zd B 2)=some (.int .u8 (kB s 2))/\a.cell? (Zd B 3)=some (.int .u8 (kB s 3))/\a.cell? (Zd B 4)=some (.int .u8 (kB s 4))/\a.cell? (Zd B 5)=some (.int .u8 (kB s 5))/\a.cell? (Zd B 6)=some (.int .u8 (kB s 6))/\a.cell? (Zd B 7)=some (.int .u8 (kB s 7)):=by
 have:=Aa.same b h;exact⟨(this 0 _ rfl).1,(this 1 _ rfl).1,(this 2 _ rfl).1,(this 3 _ rfl).1,(this 4 _ rfl).1,(this 5 _ rfl).1,(this 6 _ rfl).1,(this 7 _ rfl).1⟩
end
def Fz(ks:List Kd):Nat:=(ks.map (fun k=>k.B.length)).sum
