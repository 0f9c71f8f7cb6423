import Derived.Test.YtckmnfhmoankmaaGreatDoorX03
import Derived.Lib.BytesEntry
import Derived.WalkLawsBesides
import Derived.Defers
import Derived.Recover
set_option maxRecDepth 100000
set_option maxHeartbeats 16000000
namespace Go.Proofs.YtckmnfhmoankmaaGreatDoor
open Go.ChangeShapes Go.WideShapes Go.ChangeAt Go.RowKit _root_.Go.Proofs.Tryz
def kI(s:Zi):List Int:=[kB s 0,kB s 1,kB s 2,kB s 3,kB s 4,kB s 5,kB s 6,kB s 7]
def Fl(s t:Zi):Int:=Lib.compareBytes (Lib.bytesOf (kI s)) (Lib.bytesOf (kI t))
theorem Wn(x:List UInt8):Lib.compareBytes x x=0:=by
 induction x with
 |nil=>rfl
 |cons a x ih=>unfold Lib.compareBytes;simp[ih,UInt8.lt_irrefl]
theorem NZ(z:List UInt8):∀(x y:List UInt8),x.length=y.length->Lib.compareBytes (x++z) (y++z)=Lib.compareBytes x y
 |[],[],_=>by rw[List.nil_append,Wn];rfl
 |a::x,b::y,h=>by have c:=NZ z x y (by simpa using h);show Lib.compareBytes (a::(x++z)) (b::(y++z))=_;unfold Lib.compareBytes;rw[c]
theorem SG:∀(x y:List UInt8),x.length=y.length->(Lib.compareBytes x y<0↔x<y)
 |[],[],_=>by simp[Lib.compareBytes]
 |a::x,b::y,h=>by
  have c:=SG x y (by simpa using h);unfold Lib.compareBytes;rw[List.cons_lt_cons_iff,←c];by_cases h1:a<b
  ·simp[h1]
  ·by_cases h2:b<a
   ·have:¬a=b:=fun e=>by subst e;exact absurd h2 (UInt8.lt_irrefl _)
    simp[h1,h2,this]
   ·have:a=b:=UInt8.le_antisymm (UInt8.not_lt.1 h2) (UInt8.not_lt.1 h1);simp[this]
theorem PZ:∀(x y:List UInt8),x.length=y.length->(Lib.compareBytes x y=0↔x=y)
 |[],[],_=>by simp[Lib.compareBytes]
 |a::x,b::y,h=>by
  have c:=PZ x y (by simpa using h);unfold Lib.compareBytes;by_cases h1:a<b
  ·have:¬a=b:=fun e=>by subst e;exact absurd h1 (UInt8.lt_irrefl _)
   simp[h1,this]
  ·by_cases h2:b<a
   ·have:¬a=b:=fun e=>by subst e;exact absurd h2 (UInt8.lt_irrefl _)
    simp[h1,h2,this]
   ·have:a=b:=UInt8.le_antisymm (UInt8.not_lt.1 h2) (UInt8.not_lt.1 h1);simp[this,c]
theorem KR(s:Zi)(h:s.size<=8):Lib.bytesOf (kI s)=s.data.toList++List.replicate (8 -s.size) 0:=by
 have c:=BO s;have b:∀i,(kB s i).toNat.toUInt8=(s.data.toList[i]?).getD 0:=fun i=>by unfold kB;simp
 unfold kI Lib.bytesOf;simp only[List.map_cons,List.map_nil,b];apply List.ext_getElem?;intro i;rw[List.getElem?_append];rw[c];rcases Nat.lt_or_ge i 8 with a|a
 ·have e:([(s.data.toList[0]?).getD 0,(s.data.toList[1]?).getD 0,(s.data.toList[2]?).getD 0,(s.data.toList[3]?).getD 0,(s.data.toList[4]?).getD 0,(s.data.toList[5]?).getD 0,(s.data.toList[6]?).getD 0,(s.data.toList[7]?).getD 0]:List UInt8)[i]?=some ((s.data.toList[i]?).getD 0):=by rcases(show i=0∨i=1∨i=2∨i=3∨i=4∨i=5∨i=6∨i=7 by omega)with rfl|rfl|rfl|rfl|rfl|rfl|rfl|rfl<;>rfl
  rw[e];by_cases hi:i<s.size
  ·rw[if_pos hi,Zv (by omega)];rfl
  ·rw[if_neg hi,List.getElem?_eq_none (by omega),List.getElem?_replicate,if_pos (by omega)];rfl
 ·rw[List.getElem?_eq_none (by simp;omega),if_neg (by omega),List.getElem?_eq_none (by simp;omega)]
theorem Uz{s t:Zi}(b:s.size<=8)(a:t.size=s.size):Fl s t<0↔less s t=true:=by unfold Fl less;rw[KR s b,KR t (by omega),a,NZ _ _ _ (by rw[BO,BO,a]),SG _ _ (by rw[BO,BO,a]),ByteArray.toList_eq,ByteArray.toList_eq,NP]
theorem SH{s t:Zi}(b:s.size<=8)(a:t.size=s.size):Fl s t=0↔s=t:=by
 unfold Fl;rw[KR s b,KR t (by omega),a,NZ _ _ _ (by rw[BO,BO,a]),PZ _ _ (by rw[BO,BO,a])];constructor
 ·intro h;exact toList_inj (by rw[ByteArray.toList_eq,ByteArray.toList_eq];exact h)
 ·rintro rfl;rfl
theorem Oa{w:Zh}{b:Nat}{s:Zi}(h:Aa w b (Am s)):∀j x,(kI s)[j]?=some x->w.cell? ((⟨b,0,none⟩:Addr).add j)=some (.int .u8 x):=by intro j x a;rw[Go.WideShapes.add_plain,Nat.zero_add];have c:j<8:=(Zw a).1;refine(h j (.int .u8 x) ?_).1;unfold Am Da;unfold kI at a;rcases(show j=0∨j=1∨j=2∨j=3∨j=4∨j=5∨j=6∨j=7 by omega)with rfl|rfl|rfl|rfl|rfl|rfl|rfl|rfl<;>(simp at a;subst a;rfl)
theorem Pg(w:Zh)(a b:Nat)(s t:Zi)(g:Aa w a (Am s))(h:Aa w b (Am t)):
 (callFunc 248 #[Za a 8 8,Za b 8 8]).run prog w=.ok (.value (Zg (Fl s t))) w:=by
 rw[run_callFunc_extern (fn:=f248) (e:=Extern.BytealgCompare.compare) func248 (by kernel_rfl) (by kernel_rfl) (by kernel_rfl) (by kernel_rfl)];have c:=Lib.run_loadBytesX (P:=prog) w (kI s) ⟨a,0,none⟩ .empty (Oa g);have f:=Lib.run_loadBytesX (P:=prog) w (kI t) ⟨b,0,none⟩ .empty (Oa h);have i:∀l:List UInt8,(⟨ByteArray.empty.data++l.toArray⟩:Zi)=⟨l.toArray⟩:=fun l=>by apply ByteArray.ext;show(#[]:Array UInt8)++l.toArray=l.toArray;simp
 rw[i]at c f;change (Sem.run prog (do pure (goInt (Extern.BytealgCompare.cmp (←Extern.Bytes.bytesOf (Za a 8 8)) (←Extern.Bytes.bytesOf (Za b 8 8))))) w).andThen _=_;simp only[Extern.Bytes.bytesOf,Sem.run_bind,Sem.run_pure];rw[show(8:Nat)=(kI s).length from rfl,c];rw[Result.andThen_ok,show(kI s).length=(kI t).length from rfl,f];simp only[Result.andThen];rw[Lib.cmp_eq];rfl
theorem Kn(w:Zh)(a b:Nat)(s t:Zi)(c:Aa w a (Am s))(f:Aa w b (Am t)):
 Calls prog 236 #[Za a 8 8,Za b 8 8] w fun e w'=>e=.returned (Zg (Fl s t))/\w'=w:=by
 have g:=Pg w a b s t c f;clear c f;go_enter func236,ntmps236;go_wp2;go_ret;exact⟨rfl,rfl⟩
theorem KS(s t:Zi)(w:Zh):
 Calls prog 235 #[Cw s,Cw t] w fun e w'=>e=.returned (Zg (Fl s t))/\Zz w w':=by
 obtain⟨W,a⟩:∃W,W=(w.alloc (.cells (Yw (kB s)) 191)).alloc (.cells (Yw (kB t)) 191):=⟨_,rfl⟩;have h:=(Bj a).1;have f:Aa W w.heap.size (Am s):=by rw[a];exact Aa.below (v:=.int .u8 (kB s 0)) (Aa.new w (Am s) 191) (Zy)
 have g:Aa W (w.heap.size+1) (Am t):=by have:=Aa.new (w.alloc (.cells (Yw (kB s)) 191)) (Am t) 191;rw[World.size_alloc]at this;rw[a];exact this
 have b:=Yx (Zb f g);have c:=Yx a;clear a f g;unfold Cw Da;go_enter func235,ntmps235;go_upto_region 1 with fail;rw[←c.o];clear c;go_region_with (go_at_call 236;refine(Kn W.drew w.heap.size (w.heap.size+1) s t b.o.1 b.o.2).mono ?_;rintro e i ⟨rfl,rfl⟩)
 all_goals
  go_wp2;go_ret;exact⟨rfl,h.drew⟩
structure Fs (ss:Zl) (s:Zi) (i:Nat):Prop where
 le:i<=ss.length
 lo:∀j x,j<i->ss[j]?=some x->less x s=true
 hi:∀j x,i<=j->ss[j]?=some x->less x s=false
theorem Wo{w:Zh}{base g c:Nat}{a:Zl}(f:w.ownsRow base 191 8 (Za g a.length c) a.length (AW a)){k:Nat}{s:Zi}(b:a[k]?=some s):∀j,j<8->w.cell? (Ze g (k *8+j))=some (.int .u8 (kB s j)):=fun j e=>by have:=(Zw b).1;exact(f.cellAt _ (by omega)).trans (GC b e)
theorem XT{w:Zh}{base g b:Nat}{a:Zl}(c:w.ownsRow base 191 8 (Za g a.length b) a.length (AW a)){k:Nat}{s:Zi}(e:a[k]?=some s):
 w.cell? (Ze g (k *8))=some (.int .u8 (kB s 0))/\w.cell? (Ze g (k *8+1))=some (.int .u8 (kB s 1))/\w.cell? (Ze g (k *8+2))=some (.int .u8 (kB s 2))/\w.cell? (Ze g (k *8+3))=some (.int .u8 (kB s 3))/\w.cell? (Ze g (k *8+4))=some (.int .u8 (kB s 4))/\w.cell? (Ze g (k *8+5))=some (.int .u8 (kB s 5))/\w.cell? (Ze g (k *8+6))=some (.int .u8 (kB s 6))/\w.cell? (Ze g (k *8+7))=some (.int .u8 (kB s 7)):=
 have h:=Wo c e
 ⟨by simpa using h 0 (by decide),h 1 (by decide),h 2 (by decide),h 3 (by decide),h 4 (by decide),h 5 (by decide),h 6 (by decide),h 7 (by decide)⟩
theorem GZ{w:Zh}{g:Nat}{s:Zi}(h:Aa w g (Am s)):
 w.cell? (Ze g 0)=some (.int .u8 (kB s 0))/\w.cell? (Ze g 1)=some (.int .u8 (kB s 1))/\w.cell? (Ze g 2)=some (.int .u8 (kB s 2))/\w.cell? (Ze g 3)=some (.int .u8 (kB s 3))/\w.cell? (Ze g 4)=some (.int .u8 (kB s 4))/\w.cell? (Ze g 5)=some (.int .u8 (kB s 5))/\w.cell? (Ze g 6)=some (.int .u8 (kB s 6))/\w.cell? (Ze g 7)=some (.int .u8 (kB s 7)):=
 ⟨(h 0 _ rfl).1,(h 1 _ rfl).1,(h 2 _ rfl).1,(h 3 _ rfl).1,(h 4 _ rfl).1,(h 5 _ rfl).1,(h 6 _ rfl).1,(h 7 _ rfl).1⟩
theorem KT(g zC:Nat)(f:Zl)(s:Zi)(w:Zh)(base:Nat)(ho:w.ownsRow base 191 8 (.slice (some ⟨g,0,none⟩) f.length zC) f.length (AW f))(hl:f.length<=600)(zR:s.size<=8)(zI:∀x∈f,x.size=s.size)(n:f.Pairwise (fun a b=>less a b=true)):
 Calls prog 234 #[.slice (some ⟨g,0,none⟩) f.length zC,Cw s,.func (.func 235) #[] #[]] w fun e w'=>∃i:Nat,e=.returned (.tuple #[Zg i,.bool (decide (f[i]?=some s))])/\Fs f s i/\Zz w w':=by
 unfold Cw Da;have zO:=(Ac ho rfl).2;obtain⟨W,hW⟩:∃W,W=w.alloc (.cells (Yw (kB s)) 191):=⟨_,rfl⟩;have Q:=(AJ hW).1;have cb:Aa W w.heap.size (Am s):=by rw[hW];exact Aa.new w (Am s) 191
 have zH:=Ag ho Q;have HW:Hid _:=hW;have HO:Hid _:=zH;have HC:Hid _:=cb;have zS:=Aa.lt (v:=.int .u8 (kB s 0)) cb;clear hW zH cb ho;go_enter func234,ntmps234;go_upto_region 1 with fail;rw[←HW.o];clear HW;have zN:=enters_of func235 (by kernel_rfl) rfl;go_wp2
 go_loopw [9,10] (fun i j wr=>∃lo k:Nat,i=Zg lo/\j=Zg k/\lo<=k/\k<=f.length/\Hid ((∀j x,j<lo->f[j]?=some x->less x s=true)/\(∀j x,k<=j->f[j]?=some x->less x s=false))/\Zz W wr) (fun i j _=>(intOf j).toNat -(intOf i).toNat)
 case atStart=>exact⟨0,f.length,rfl,rfl,Nat.zero_le _,Zx,⟨fun j x h=>by omega,fun j x h hx=>by have:=(Zw hx).1;omega⟩,Below.refl _ _⟩
 case round=>
  obtain⟨lo,k,rfl,rfl,zP,zF,HI,c⟩:=hrel;have q:=c.size;by_cases hlt:lo<k
  ·have R:(lo+k)/2<f.length:=by omega
   have o:Hid _:=Zv R;have zM:=zI _ (List.getElem_mem R);generalize f[(lo+k)/2]=x at *
   obtain⟨r0,S,T,U,V,X,Y,Z⟩:=XT (Ag HO.o c) o.o;obtain⟨t0,t1,t2,t3,t4,t5,t6,t7⟩:=GZ (Aa.below (v:=.int .u8 (kB s 0)) HC.o c);have r:=AG.cell r0 (show g<wr.heap.size by omega);have u:=AG.cell S (show g<wr.heap.size by omega);have z:=AG.cell T (show g<wr.heap.size by omega);have A:=AG.cell U (show g<wr.heap.size by omega);have B:=AG.cell V (show g<wr.heap.size by omega)
   have C:=AG.cell X (show g<wr.heap.size by omega);have D:=AG.cell Y (show g<wr.heap.size by omega);have E:=AG.cell Z (show g<wr.heap.size by omega);have F:=AG.cell t0 (show w.heap.size<wr.heap.size by omega);have G:=AG.cell t1 (show w.heap.size<wr.heap.size by omega);have H:=AG.cell t2 (show w.heap.size<wr.heap.size by omega);have I:=AG.cell t3 (show w.heap.size<wr.heap.size by omega)
   have J:=AG.cell t4 (show w.heap.size<wr.heap.size by omega);have K:=AG.cell t5 (show w.heap.size<wr.heap.size by omega);have M:=AG.cell t6 (show w.heap.size<wr.heap.size by omega);have N:=AG.cell t7 (show w.heap.size<wr.heap.size by omega);have zG:=AG.ne wr
   have l:Hid (∀m:AG wr,Calls prog 235 #[.agg (Yw (kB x)),.agg (Yw (kB s))] m.w fun e w'=>e=.returned (Zg (Fl x s))/\Below m.w.heap.size m.w w'):=fun m=>KS x s m.w;clear r0 S T U V X Y Z t0 t1 t2 t3 t4 t5 t6 t7;have zA:Hid _:=Uz (s:=x) (t:=s) (by omega) (by omega);by_cases hc:Fl x s<0
   ·have hd:decide (Fl x s<0)=true:=by simpa using hc
    go_wp2;refine AN (by kernel_rfl) (by kernel_rfl) ?_
    repeat (go_big_quiet_step (exact AG.calls (l.o _)))
    refine wpQuiet_nil ?_;intro m;clear r u z A B C D E F G H I J K M N l;go_wp2;refine⟨⟨(lo+k)/2+1,k,by go_num,rfl,by omega,zF,⟨?_,HI.o.2⟩,c.trans (m.h.mono q)⟩,by simp[intOf];omega⟩;intro j y hj p;rcases Nat.lt_or_ge j ((lo+k)/2)with h|h
    ·have:=List.pairwise_iff_getElem.1 n j ((lo+k)/2) (by omega) R h;obtain⟨_,rfl⟩:=Zw p;obtain⟨_,e⟩:=Zw o.o;rw[e]at this;exact CD this (zA.o.1 hc)
    ·obtain rfl:j=(lo+k)/2:=by omega
     rw[o.o]at p;cases p;exact zA.o.1 hc
   ·have hd:decide (Fl x s<0)=false:=by simpa using hc
    have zJ:Hid _:=hc;clear hc;go_wp2;refine AN (by kernel_rfl) (by kernel_rfl) ?_
    repeat (go_big_quiet_step (exact AG.calls (l.o _)))
    refine wpQuiet_nil ?_;intro m;clear r u z A B C D E F G H I J K M N l;go_wp2;refine⟨⟨lo,(lo+k)/2,rfl,by go_num,by omega,by omega,⟨HI.o.1,?_⟩,c.trans (m.h.mono q)⟩,by simp[intOf];omega⟩;have zB:less x s=false:=by
     cases h:less x s with
     |false=>rfl
     |true=>exact absurd (zA.o.2 h) zJ.o
    intro j y hj p;rcases Nat.lt_or_ge ((lo+k)/2) j with h|h
    ·have zK:=(Zw p).1;have:=List.pairwise_iff_getElem.1 n ((lo+k)/2) j R zK h;obtain⟨_,rfl⟩:=Zw p;obtain⟨_,e⟩:=Zw o.o;rw[e]at this;cases h':less f[j] s with
     |false=>rfl
     |true=>rw[CD this h']at zB;cases zB
    ·obtain rfl:j=(lo+k)/2:=by omega
     rw[o.o]at p;cases p;exact zB
  ·obtain rfl:lo=k:=by omega
   have HP:Hid (Fs f s lo):=⟨zF,HI.o.1,HI.o.2⟩;by_cases hn:lo<f.length
   ·have o:Hid _:=Zv hn;have zM:=zI _ (List.getElem_mem hn);generalize f[lo]=x at *
    obtain⟨r0,S,T,U,V,X,Y,Z⟩:=XT (Ag HO.o c) o.o;obtain⟨t0,t1,t2,t3,t4,t5,t6,t7⟩:=GZ (Aa.below (v:=.int .u8 (kB s 0)) HC.o c);have r:=AG.cell r0 (show g<wr.heap.size by omega);have u:=AG.cell S (show g<wr.heap.size by omega);have z:=AG.cell T (show g<wr.heap.size by omega);have A:=AG.cell U (show g<wr.heap.size by omega);have B:=AG.cell V (show g<wr.heap.size by omega)
    have C:=AG.cell X (show g<wr.heap.size by omega);have D:=AG.cell Y (show g<wr.heap.size by omega);have E:=AG.cell Z (show g<wr.heap.size by omega);have F:=AG.cell t0 (show w.heap.size<wr.heap.size by omega);have G:=AG.cell t1 (show w.heap.size<wr.heap.size by omega);have H:=AG.cell t2 (show w.heap.size<wr.heap.size by omega);have I:=AG.cell t3 (show w.heap.size<wr.heap.size by omega)
    have J:=AG.cell t4 (show w.heap.size<wr.heap.size by omega);have K:=AG.cell t5 (show w.heap.size<wr.heap.size by omega);have M:=AG.cell t6 (show w.heap.size<wr.heap.size by omega);have N:=AG.cell t7 (show w.heap.size<wr.heap.size by omega);have zG:=AG.ne wr
    have l:Hid (∀m:AG wr,Calls prog 235 #[.agg (Yw (kB x)),.agg (Yw (kB s))] m.w fun e w'=>e=.returned (Zg (Fl x s))/\Below m.w.heap.size m.w w'):=fun m=>KS x s m.w;clear r0 S T U V X Y Z t0 t1 t2 t3 t4 t5 t6 t7;have zE:Hid _:=SH (s:=x) (t:=s) (by omega) (by omega);by_cases hc:Fl x s=0
    ·have hd:(Fl x s==0)=true:=by simpa using hc
     go_wp2;refine AN (by kernel_rfl) (by kernel_rfl) ?_
     repeat (go_big_quiet_step (exact AG.calls (l.o _)))
     refine wpQuiet_nil ?_;intro m;clear r u z A B C D E F G H I J K M N l;go_wp2
     go_ret2
     refine⟨lo,?_,HP.o,Q.trans ((c.trans (m.h.mono q)).mono Q.size)⟩;rw[o.o,zE.o.1 hc,decide_eq_true rfl];rfl
    ·have hd:(Fl x s==0)=false:=by simpa using hc
     go_wp2;refine AN (by kernel_rfl) (by kernel_rfl) ?_
     repeat (go_big_quiet_step (exact AG.calls (l.o _)))
     refine wpQuiet_nil ?_;intro m;clear r u z A B C D E F G H I J K M N l;go_wp2
     go_ret2
     refine⟨lo,?_,HP.o,Q.trans ((c.trans (m.h.mono q)).mono Q.size)⟩;rw[o.o,decide_eq_false (fun e=>hc (zE.o.2 (Option.some.inj e)))];rfl
   ·have zG:=AG.ne wr;go_wp2;refine AN (by kernel_rfl) (by kernel_rfl) ?_
    repeat (go_big_quiet_step (fail))
    refine wpQuiet_nil ?_;intro m;go_wp2
    go_ret2
    refine⟨lo,?_,HP.o,Q.trans ((c.trans (m.h.mono q)).mono Q.size)⟩;rw[List.getElem?_eq_none (by omega),decide_eq_false (by simp)];rfl
section
open Go.WideElems Go.MapKept Go.ChangeMaps
open Classical in
noncomputable def ers (f:Lit->Option Value) (kl:Lit):Lit->Option Value:=fun x=>if x=kl then none else f x
theorem Bs.del{w:Zh}{K t e:TypeId}{b n:Nat}{f:Lit->Option Value}(h:Bs w K b n f)(q:Maps.Keyed prog K)(v:prog.underlying t=some (.map K e)){j:Value}{a:Lit}(c:keyOf prog K j=some a)(k:TypeId):
 ∃w',(Builtin.delete_ #[t,K] k #[.map (some b),j]).run prog w=.ok (.tuple #[]) w'/\Bs w' K b n (ers f a)/\w.grownBy w' (some b):=by
 obtain⟨D,l,o,p⟩:=h;obtain⟨w',u,s,A,clock,y,g,B,rfl⟩:=l.drop q v c k;refine⟨_,u,⟨_,s,fun x z=> ?_,fun x=> ?_⟩,?_⟩
 ·by_cases hx:x=a
  ·subst hx;rw[Maps.atKey_del_same];simp[ers]
  ·rw[Maps.atKey_del_other hx,o];simp[ers,hx]
 ·by_cases hx:x=a
  ·subst hx;rw[Maps.has_del_same];simp[ers]
  ·rw[Maps.has_del_other hx,p];simp[ers,hx]
 ·refine⟨rfl,rfl,rfl,by simp[setBlock],fun i _ r=> ?_⟩;simp only[setBlock];rw[Array.getElem?_setIfInBounds_ne (fun e=>r (by rw[e]))]
theorem Wp(w:Zh):(zeroValue 191).run prog w=.ok (.agg Cv) w:=by kernel_rfl
theorem MU(w:Zh)(k:TypeId)(b o c:Nat)(h:∀j,j<8->(w.cell? (Ze b (o+j))).isSome=true)(i:∀j,j<8->w.frozen? ⟨b,o+j,none⟩=false):
 (Builtin.clear_ #[160] k #[.slice (some ⟨b,o,none⟩) 1 c]).run prog w=.ok (.tuple #[]) (w.setCells b o Cv.toList):=by
 have f:(Builtin.zeroCells (Value.agg Cv).cells 1).toList=Cv.toList:=by kernel_rfl
 have a:=run_storeCells_cells (P:=prog) b o Cv.toList 0 w (by simpa [Cv]using h) (by simpa [Cv]using i) (by intro v e;simp[Cv]at e;subst e;rfl);simp only[Nat.add_zero]at a;have g:=Wp;unfold Cv at f a g ⊢;simp[Builtin.clear_,run_underlying underlying160,g,f,a]
theorem Ha{base g a n size:Nat}{e:TypeId}{b:Zj}:∀(vs:Zj) (o:Nat) (w:Zh),w.ownsRow base e size (Za g n a) n b->n *size<=o->(w.setCells g o vs).ownsRow base e size (Za g n a) n b
 |[],_,_,h,_=>h
 |v::r,o,w,h,ho=>by rw[World.setCells];refine Ha r (o+1) _ ?_ (by omega);have:=(h.stored o v).1;rw[List.set_eq_of_length_le (by rw[h.1];exact ho)]at this;exact this
theorem Cl(g:Nat):∀(vs:Zj) (o:Nat) (w:Zh),w.grownBy (w.setCells g o vs) (some g)
 |[],_,w=>⟨rfl,rfl,rfl,Zx,fun _ _ _=>rfl⟩
 |v::r,o,w=>by rw[World.setCells];exact Aw (Az w g o v) (Cl g r (o+1) _)
theorem Dn{w w':Zh}{r:Option Nat}(h:w.drew.grownBy w' r):w.grownBy w' r:=⟨h.os,h.tape,h.output,h.size,h.block⟩
theorem Wq{w:Zh}{base g b:Nat}{a:Zl}(h:w.ownsRow base 191 8 (Za g a.length b) a.length (AW a))(i:Nat)(p:i<=a.length):w.ownsRow base 191 8 (Za g i b) i (AW (a.take i)):=by
 refine⟨by rw[Fx,List.length_take];congr 1;omega,?_⟩;rcases h.2 with⟨e,_⟩|⟨q,f,c,e,n,o,r,j,k,l⟩
 ·cases e
 ·cases e;refine .inr ⟨g,b,c,rfl,n,o,by omega,j,k,?_⟩;rw[Gc,←FN Ev a i p,←Gc,←l,List.take_take];congr 1;omega
theorem MV(g b i:Nat)(a:Zl)(w:Zh)(base:Nat)(t:w.ownsRow base 191 8 (Za g a.length b) a.length (AW a))(hl:a.length<=600)(hi:i<a.length):
 Calls prog 216 #[Za g a.length b,Zg i,Zg ((i:Int)+1)] w fun e w'=>e=.returned (Za g (a.length -1) b)/\w'.ownsRow base 191 8 (Za g (a.length -1) b) (a.length -1) (AW (a.eraseIdx i))/\w.grownBy w' (some g):=by
 obtain⟨N,q,W,G,X⟩:=info_parts LH;have p:a.length<=b/\b<=maxLen:=by
  rcases t.2 with⟨e,_⟩|⟨I,o,D,e,M,B,y,z,J,K⟩
  ·cases e
  ·cases e;exact⟨y,z⟩
 obtain⟨Q,E⟩:=p;unfold maxLen at E;have hcut:=Wq t i (by omega);obtain⟨A,hA,f⟩:∃A,(if b=i+1 then some (⟨g,0,none⟩:Addr)else some ⟨g,(i+1) *8,none⟩)=some A/\∀j u,(AW (a.drop (i+1)))[j]?=some u->w.drew.cell? (A.add j)=some u:=by
  by_cases h:b=i+1
  ·refine⟨⟨g,0,none⟩,by rw[if_pos h],fun j u l=> ?_⟩;rw[List.drop_of_length_le (by omega)]at l;simp[AW]at l
  ·refine⟨⟨g,(i+1) *8,none⟩,by rw[if_neg h],fun j u l=> ?_⟩;rw[Go.WideShapes.add_plain];rw[Gc,←Fi Ev a (i+1) (by omega),←Gc,List.getElem?_drop]at l;have F:=(Zw l).1;rw[Fx]at F;exact(t.cellAt _ (by omega)).trans l
 obtain⟨v,C,c,k⟩:=run_append_fits (P:=prog) w.drew base 160 160 191 N 8 underlying160 q G g i b (AW (a.take i)) hcut A (a.length -(i+1)) (b -(i+1)) (AW (a.drop (i+1))) (by rw[Fx,List.length_drop]) f (DW _) (by omega);rw[←IS,show i+(a.length -(i+1))=a.length -1 by omega]at c;rw[show i+(a.length -(i+1))=a.length -1 by omega]at C;have r:=(List.eraseIdx_eq_take_drop_succ a i).symm;rw[r]at c
 have x:=Yx (Zn c k);clear f c hcut r;go_enter func216,ntmps216;have R:¬((i:Int)==(i:Int)+1)=true:=by simp;omega
 have S:i<=b:=by omega
 have T:(0:Int)<=(i:Int)+1:=by omega
 have U:(i:Int)+1<=(a.length:Int):=by omega
 have V:((i:Int)+1).toNat=i+1:=by omega
 go_upto_region 5 with fail
 go_region_law (first
  |(refine BP (by rfl) (.tmp 22) (.tmp 25) 160 160 (by rfl) (by rfl) (by simp[Act.eval,Act.put]) C ?_))
 all_goals
  have s:∀j,j<8->(v.cell? (Ze g ((a.length -1) *8+j))).isSome=true/\v.frozen? ⟨g,(a.length -1) *8+j,none⟩=false:=fun j n=>by
   obtain⟨c,k⟩:=x.o;rcases c.2 with⟨e,_⟩|⟨I,o,D,e,M,B,y,z,J,K⟩
   ·cases e
   ·cases e;constructor
    ·simp only[World.cell?,B];rw[Array.getElem?_eq_getElem (by omega)];rfl
    ·exact c.frozenAt _
  have H:=MU v 0 g ((a.length -1) *8) (b -(a.length -1)) (fun j n=>(s j n).1) (fun j n=>(s j n).2);have Y:a.length -(a.length -1)=1:=by omega
  have Z:¬b=a.length -1:=by omega
  have e3:a.length -1<=a.length:=by omega
  go_wp2;go_ret;obtain⟨c,k⟩:=x.o;exact⟨rfl,Ha _ _ _ c (Zx),Aw (Dn k) (Cl g _ _ _)⟩
theorem SI(base d m g c:Nat)(P L:Value)(wd now given ae:Int)(ks:List Kd)(s:Zi)(w:Zh)(f:Aa w d [Zg wd,.map (some m),Zg now,Zg given,Zg ae,Za g ks.length c,P,L])(h:w.ownsRow base 191 8 (Za g ks.length c) ks.length (AW (ks.map (·.sum))))
 (J:ks.length<=600) (v:s.size<=8) (z:∀x∈ks,x.sum.size=s.size) (j:(ks.map (·.sum)).Pairwise (fun a b=>less a b=true)):
 Calls prog 215 #[Yz d,Cw s] w fun e w'=>∃i:Nat,e=.returned (.tuple #[Zg i,.bool (decide ((ks.map (·.sum))[i]?=some s))])/\Fs (ks.map (·.sum)) s i/\Zz w w':=by
 obtain⟨W,l⟩:∃W,W=w.alloc (.cells (Yw (kB s)) 191):=⟨_,rfl⟩;have k:=(AJ l).1;have r:Aa W w.heap.size (Am s):=by rw[l];exact Aa.new w (Am s) 191
 have n:W.drew.ownsRow base 191 8 (Za g (ks.map (·.sum)).length c) (ks.map (·.sum)).length (AW (ks.map (·.sum))):=by rw[List.length_map];exact Ag h k.drew
 have o:=Yx (KT g c (ks.map (·.sum)) s W.drew base n (by rw[List.length_map];exact J) v (fun x K=>by obtain⟨y,M,rfl⟩:=List.mem_map.1 K;exact z y M) j);rw[List.length_map]at o
 have I:W.drew.cell? (Ze d 5)=some (Za g ks.length c)/\(W.drew.cell? (Ze (w.heap.size) 0)=some (.int .u8 (kB s 0))/\W.drew.cell? (Ze (w.heap.size) 1)=some (.int .u8 (kB s 1))/\W.drew.cell? (Ze (w.heap.size) 2)=some (.int .u8 (kB s 2))/\W.drew.cell? (Ze (w.heap.size) 3)=some (.int .u8 (kB s 3))/\W.drew.cell? (Ze (w.heap.size) 4)=some (.int .u8 (kB s 4))/\W.drew.cell? (Ze (w.heap.size) 5)=some (.int .u8 (kB s 5))/\W.drew.cell? (Ze (w.heap.size) 6)=some (.int .u8 (kB s 6))/\W.drew.cell? (Ze (w.heap.size) 7)=some (.int .u8 (kB s 7))):=⟨(Aa.below f k 5 _ rfl).1,GZ r⟩
 have q:=Yx l;clear l r n f h;unfold Cw Da at *
 go_enter func215,ntmps215;go_upto_region 1 with fail;rw[←q.o];clear q;obtain⟨N,A,B,C,D,E,F,G,H⟩:=I;go_region_with (go_at_call 234;refine Calls.mono o.o ?_;rintro e Q ⟨i,rfl,u,t⟩)
 all_goals
  have p:=Yx (Zn u (k.trans ((DF t).mono k.size)));clear u t N A B C D E F G H o;go_wp2
  go_ret2
  exact⟨i,by first|rfl|simp[Act.put],p.o.1,p.o.2⟩
end
theorem UA(x:Zi)(w:Zh):Calls prog 239 #[.string x] w fun e w'=>e=.returned (.bool false)/\Zz w w':=by go_enter func239,ntmps239;go_wp2;go_ret;exact⟨by simp,Below.refl _ _⟩
theorem UB(x:Zi)(w:Zh):Calls prog 254 #[.string x] w fun e w'=>e=.returned (.bool false)/\Zz w w':=by go_enter func254,ntmps254;go_wp2;go_ret;exact⟨by simp,Below.refl _ _⟩
theorem Mw(x y:Zi)(w:Zh):Calls prog 253 #[.string x,.string y] w fun e w'=>e=.returned (.bool (less x y))/\Zz w w':=by go_enter func253,ntmps253;unfold less;go_wp2_with (go_at_call 239;refine(UA x w).mono ?_;rintro e b ⟨rfl,a⟩);go_wp2;go_ret;exact⟨by simp,a⟩
theorem Ph(a:Zk)(M:Nat)(g:Zl)(s:Zi)(w:Zh)(t:Ad w w.heap.size a g)(X:g.length<=1000)(k:g.Pairwise (fun a b=>less a b=true)):
 Calls prog 247 #[.slice a g.length M,.string s] w fun e w'=>∃(i:Int) (ok:Bool),e=.returned (.tuple #[Zg i,.bool ok])/\(ok=true↔s∈g)/\Zz w w':=by
 have W:=Yx Mw;go_enter func247,ntmps247;go_wp2
 go_loopw [7,8] (fun i j wr=>∃lo f:Nat,i=Zg lo/\j=Zg f/\lo<=f/\f<=g.length/\Hid ((∀j x,j<lo->g[j]?=some x->less x s=true)/\(∀j x,f<=j->g[j]?=some x->less x s=false))/\Zz w wr) (fun i j _=>(intOf j).toNat -(intOf i).toNat)
 case atStart=>exact⟨0,g.length,rfl,rfl,Nat.zero_le _,Zx,⟨fun j x h=>by omega,fun j x h H=>by have:=(Zw H).1;omega⟩,Below.refl _ _⟩
 case round=>
  obtain⟨lo,f,rfl,rfl,V,N,C,c⟩:=hrel;have F:=c.size;by_cases hlt:lo<f
  ·have v:(lo+f)/2<g.length:=by omega
   have n:=Yx (Zv v);obtain⟨b,Q,G,R,l⟩:=(t.below c).at v;subst G;have H:=l _ _ n.o;clear l;generalize g[(lo+f)/2]=x at *
   go_wp2_with fail;refine(Mw x s wr).mono ?_;rintro e U ⟨rfl,A⟩;have E:=c.trans (A.mono F);by_cases l:less x s=true
   ·rw[l];go_wp2;refine⟨⟨(lo+f)/2+1,f,by go_num,rfl,by omega,N,⟨?_,C.o.2⟩,E⟩,by simp[intOf];omega⟩;intro j y u p;rcases Nat.lt_or_ge j ((lo+f)/2)with h|h
    ·have:=List.pairwise_iff_getElem.1 k j ((lo+f)/2) (by omega) v h;obtain⟨_,rfl⟩:=Zw p;obtain⟨_,e⟩:=Zw n.o;rw[e]at this;exact CD this l
    ·obtain rfl:j=(lo+f)/2:=by omega
     rw[n.o]at p;cases p;exact l
   ·have z:less x s=false:=by simpa using l
    rw[z];go_wp2;refine⟨⟨lo,(lo+f)/2,rfl,by go_num,by omega,by omega,⟨C.o.1,?_⟩,E⟩,by simp[intOf];omega⟩;intro j y u p;rcases Nat.lt_or_ge ((lo+f)/2) j with h|h
    ·have B:=(Zw p).1;have:=List.pairwise_iff_getElem.1 k ((lo+f)/2) j v B h;obtain⟨_,rfl⟩:=Zw p;obtain⟨_,e⟩:=Zw n.o;rw[e]at this;cases D:less g[j] s with
     |false=>rfl
     |true=>rw[CD this D]at z;cases z
    ·obtain rfl:j=(lo+f)/2:=by omega
     rw[n.o]at p;cases p;exact z
  ·obtain rfl:lo=f:=by omega
   have r:s∈g->g[lo]?=some s:=fun T=>by
    obtain⟨j,u⟩:=List.getElem?_of_mem T;rcases Nat.lt_or_ge j lo with h|h
    ·have:=C.o.1 j s h u;rw[Cr]at this;cases this
    ·rcases Nat.lt_or_ge lo j with D|D
     ·have B:=(Zw u).1;have J:=List.pairwise_iff_getElem.1 k lo j (by omega) B D;have K:=C.o.2 lo _ (Zx) (Zv (by omega));obtain⟨_,e⟩:=Zw u;rw[e]at J;rw[J]at K;cases K
     ·obtain rfl:j=lo:=by omega
      exact u
   have I:=Yx r;clear r;by_cases hn:lo<g.length
   ·have n:=Yx (Zv hn);obtain⟨b,Q,G,R,l⟩:=(t.below c).at hn;subst G;have H:=l _ _ n.o;clear l;generalize g[lo]=x at *
    by_cases he:x=s
    ·subst he;have o:=Zs n.o;have q:=Yx o;clear o;have S:(x.toList==x.toList)=true:=by simp
     go_wp2
     go_ret2
     exact⟨_,true,by first|rfl|simp[Act.put],⟨fun _=>q.o,fun _=>rfl⟩,c⟩
    ·have o:¬s∈g:=by intro h;have:=I.o h;rw[n.o]at this;exact he (Option.some.inj this)
     have q:=Yx o;clear o;have S:=Ca he;go_wp2_with (go_at_call 254;refine(UB x wr).mono ?_;rintro e U ⟨rfl,A⟩);go_wp2
     go_ret2
     exact⟨_,false,by first|rfl|simp[Act.put],⟨(fun h=>by cases h),(fun h=>absurd h q.o)⟩,c.trans (A.mono F)⟩
   ·have o:¬s∈g:=by intro h;have:=(Zw (I.o h)).1;omega
    have q:=Yx o;clear o;go_wp2
    go_ret2
    exact⟨_,false,by first|rfl|simp[Act.put],⟨(fun h=>by cases h),(fun h=>absurd h q.o)⟩,c⟩
section
attribute [local go_sem↓] Go.wp_at_zero Go.wp_at_succ
theorem QE(p:Pd)(s:Zi)(b:Nat)(w:Zh)(f:w.cell? (Ze b 0)=some (.string s)):
 Calls prog 242 #[.agg #[.string p.name,.string p.sum],Yz b] w fun e w'=>e=.returned (.bool (decide (p.sum=s)))/\Zz w w':=by
 have j:b<w.heap.size:=World.block_lt_of_cell? w _ f;have i:¬w.heap.size=b:=by omega
 have c:∀o,Zz w (w.alloc o):=fun o=>Zy;by_cases h:p.sum=s
 ·have g:(p.sum.toList==s.toList)=true:=by rw[h];simp
  have a:decide (p.sum=s)=true:=by simpa using h
  clear h;go_enter func242,ntmps242;go_wp2;go_ret;exact⟨by rw[a];rfl,c _⟩
 ·have g:(p.sum.toList==s.toList)=false:=Ca h;have a:decide (p.sum=s)=false:=by simpa using h
  clear h;go_enter func242,ntmps242;go_wp2;go_ret;exact⟨by rw[a];rfl,c _⟩
theorem Ob(a:Zk)(A b:Nat)(ps:List Pd)(s:Zi)(w:Zh)(g:Ba w w.heap.size a ps)(Q:ps.length<=1048576)(v:w.cell? (Ze b 0)=some (.string s)):
 Calls prog 251 #[.slice a ps.length A,.func (.func 242) #[] #[Yz b]] w fun e w'=>∃r:Int,e=.returned (Zg r)/\(0<=r↔∃p∈ps,p.sum=s)/\Zz w w':=by
 have C:=World.block_lt_of_cell? w _ v;go_enter func251,ntmps251;go_wp2
 go_loopw [8] (fun i wr=>∃k:Nat,k<=ps.length/\i=Zg k/\Hid (∀j x,j<k->ps[j]?=some x->¬x.sum=s)/\Zz w wr) (fun i _=>ps.length -(intOf i).toNat)
 case atStart=>exact⟨0,Nat.zero_le _,rfl,(fun j x h=>by omega),Below.refl _ _⟩
 case round=>
  obtain⟨k,N,rfl,f,c⟩:=hrel;have E:=c.size;by_cases hlt:k<ps.length
  ·obtain⟨I,H,G,M,n⟩:=(g.below c).at hlt;subst G;have q:=Yx (Zv hlt);obtain⟨J,K⟩:=n k _ q.o;have D:=(c.cell (p:=⟨b,0,none⟩) C).trans v;clear n g;generalize ps[k]=x at *
   go_wp2_with fail;refine(QE x s b wr D).mono ?_;rintro e R ⟨rfl,B⟩;have l:=c.trans (B.mono E);by_cases h:x.sum=s
   ·have o:decide (x.sum=s)=true:=by simpa using h
    rw[o];go_wp2;go_ret;exact⟨_,rfl,⟨fun _=>⟨x,Zs q.o,h⟩,fun _=>by omega⟩,l⟩
   ·have F:Hid (∀j y,j<k+1->ps[j]?=some y->¬y.sum=s):=by
     intro j y z t;rcases Nat.lt_or_ge j k with u|u
     ·exact f.o j y u t
     ·obtain rfl:j=k:=by omega
      rw[q.o]at t;cases t;exact h
    have o:decide (x.sum=s)=false:=by simpa using h
    rw[o];clear h;go_wp2;exact⟨⟨k+1,by omega,by go_num,F,l⟩,by simp[intOf];omega⟩
  ·go_wp2;go_ret;refine⟨_,rfl,⟨fun h=>by omega,fun⟨p,hp,h⟩=> ?_⟩,c⟩;obtain⟨j,z,rfl⟩:=List.getElem_of_mem hp;exact absurd h (f.o j _ (by omega) (Zv z))
theorem KV(a:Zk)(f b:Nat)(ps:List Pd)(s:Zi)(w:Zh)(c:Ba w w.heap.size a ps)(n:ps.length<=1048576)(k:w.cell? (Ze b 0)=some (.string s)):
 Calls prog 241 #[.slice a ps.length f,.func (.func 242) #[] #[Yz b]] w fun e w'=>∃ok,e=.returned (.bool ok)/\(ok=true↔∃p∈ps,p.sum=s)/\Zz w w':=by
 go_enter func241,ntmps241;go_wp2_with fail;refine(Ob a f b ps s w c n k).mono ?_;rintro e o ⟨r,rfl,j,g⟩;have i:=Yx j;clear j;by_cases h:0<=r
 ·have l:decide ((0:Int)<=r)=true:=by simpa using h
  go_wp2;go_ret;exact⟨true,rfl,⟨(fun _=>i.o.1 h),(fun _=>rfl)⟩,g⟩
 ·have l:decide ((0:Int)<=r)=false:=by simpa using h
  go_wp2;go_ret;exact⟨false,rfl,⟨(fun e=>by cases e),(fun e=>absurd (i.o.2 e) (by omega))⟩,g⟩
theorem Oc(p:Ld)(s:Zi)(b:Nat)(w:Zh)(f:w.cell? (Ze b 0)=some (.string s)):
 Calls prog 244 #[.agg #[Zg p.num,.string p.sum,Zg p.bf],Yz b] w fun e w'=>e=.returned (.bool (decide (p.sum=s)))/\Zz w w':=by
 have j:b<w.heap.size:=World.block_lt_of_cell? w _ f;have i:¬w.heap.size=b:=by omega
 have c:∀o,Zz w (w.alloc o):=fun o=>Zy;by_cases h:p.sum=s
 ·have g:(p.sum.toList==s.toList)=true:=by rw[h];simp
  have a:decide (p.sum=s)=true:=by simpa using h
  clear h;go_enter func244,ntmps244;go_wp2;go_ret;exact⟨by rw[a];rfl,c _⟩
 ·have g:(p.sum.toList==s.toList)=false:=Ca h;have a:decide (p.sum=s)=false:=by simpa using h
  clear h;go_enter func244,ntmps244;go_wp2;go_ret;exact⟨by rw[a];rfl,c _⟩
theorem LJ(a:Zk)(A b:Nat)(ps:List Ld)(s:Zi)(w:Zh)(g:Be w w.heap.size a ps)(Q:ps.length<=1048576)(v:w.cell? (Ze b 0)=some (.string s)):
 Calls prog 231 #[.slice a ps.length A,.func (.func 244) #[] #[Yz b]] w fun e w'=>∃r:Int,e=.returned (Zg r)/\(0<=r↔∃p∈ps,p.sum=s)/\Zz w w':=by
 have C:=World.block_lt_of_cell? w _ v;go_enter func231,ntmps231;go_wp2
 go_loopw [8] (fun i wr=>∃k:Nat,k<=ps.length/\i=Zg k/\Hid (∀j x,j<k->ps[j]?=some x->¬x.sum=s)/\Zz w wr) (fun i _=>ps.length -(intOf i).toNat)
 case atStart=>exact⟨0,Nat.zero_le _,rfl,(fun j x h=>by omega),Below.refl _ _⟩
 case round=>
  obtain⟨k,N,rfl,f,c⟩:=hrel;have E:=c.size;by_cases hlt:k<ps.length
  ·obtain⟨I,H,G,M,n⟩:=(g.below c).at hlt;subst G;have q:=Yx (Zv hlt);obtain⟨J,K,c2⟩:=n k _ q.o;have D:=(c.cell (p:=⟨b,0,none⟩) C).trans v;clear n g;generalize ps[k]=x at *
   go_wp2_with fail;refine(Oc x s b wr D).mono ?_;rintro e R ⟨rfl,B⟩;have l:=c.trans (B.mono E);by_cases h:x.sum=s
   ·have o:decide (x.sum=s)=true:=by simpa using h
    rw[o];go_wp2;go_ret;exact⟨_,rfl,⟨fun _=>⟨x,Zs q.o,h⟩,fun _=>by omega⟩,l⟩
   ·have F:Hid (∀j y,j<k+1->ps[j]?=some y->¬y.sum=s):=by
     intro j y z t;rcases Nat.lt_or_ge j k with u|u
     ·exact f.o j y u t
     ·obtain rfl:j=k:=by omega
      rw[q.o]at t;cases t;exact h
    have o:decide (x.sum=s)=false:=by simpa using h
    rw[o];clear h;go_wp2;exact⟨⟨k+1,by omega,by go_num,F,l⟩,by simp[intOf];omega⟩
  ·go_wp2;go_ret;refine⟨_,rfl,⟨fun h=>by omega,fun⟨p,hp,h⟩=> ?_⟩,c⟩;obtain⟨j,z,rfl⟩:=List.getElem_of_mem hp;exact absurd h (f.o j _ (by omega) (Zv z))
theorem JM(a:Zk)(f b:Nat)(ps:List Ld)(s:Zi)(w:Zh)(c:Be w w.heap.size a ps)(n:ps.length<=1048576)(k:w.cell? (Ze b 0)=some (.string s)):
 Calls prog 243 #[.slice a ps.length f,.func (.func 244) #[] #[Yz b]] w fun e w'=>∃ok,e=.returned (.bool ok)/\(ok=true↔∃p∈ps,p.sum=s)/\Zz w w':=by
 go_enter func243,ntmps243;go_wp2_with fail;refine(LJ a f b ps s w c n k).mono ?_;rintro e o ⟨r,rfl,j,g⟩;have i:=Yx j;clear j;by_cases h:0<=r
 ·have l:decide ((0:Int)<=r)=true:=by simpa using h
  go_wp2;go_ret;exact⟨true,rfl,⟨(fun _=>i.o.1 h),(fun _=>rfl)⟩,g⟩
 ·have l:decide ((0:Int)<=r)=false:=by simpa using h
  go_wp2;go_ret;exact⟨false,rfl,⟨(fun e=>by cases e),(fun e=>absurd (i.o.2 e) (by omega))⟩,g⟩
theorem QF(base d m:Nat)(O P L:Value)(wd now given ae:Int)(ks:List Kd)(ps:List Pd)(ls:List Ld)(s:Zi)(w:Zh)(b:Dr w base d m O P L wd now given ae ks ps ls)(I:ps.length<=100)(H:ls.length<=200):
 Calls prog 232 #[Yz d,.string s] w fun e w'=>∃ok,e=.returned (.bool ok)/\(ok=true↔(∃p∈ps,p.sum=s)∨∃l∈ls,l.sum=s)/\Zz w w':=by
 have F:∀(fn:Fn) (first cap:Array Value) (w:Zh),(Instr.makeFunc fn first cap).run prog w=.ok (.func fn first cap) w:=fun _ _ _ _=>rfl;obtain⟨D,A,rfl⟩:=Ar b.cl;obtain⟨C,x,rfl⟩:=Ar b.ci;have G:=Yx b;obtain⟨W,h⟩:∃W,W=w.alloc (.cells #[.string s] 9):=⟨_,rfl⟩;have g:=(AJ h).1;have f:W.cell? (Ze (w.heap.size) 0)=some (.string s):=by rw[h];simp
 have c:=b.below g;obtain⟨c6,c7⟩:=Aa.c2 c.box 6 7;have j:=Yx c;have q:=Yx h;clear h b c;go_enter func232,ntmps232;go_upto_region 1 with fail;rw[←q.o];clear q;go_wp2_with fail;refine(KV D A _ ps s W (Ba.own j.o.cl) (by omega) f).mono ?_;rintro e E ⟨y,rfl,t,a⟩;have i:=Yx (Dr.below j.o a);obtain⟨B,_⟩:=i.o.box 7 _ rfl;have r:=(a.cell (p:=⟨w.heap.size,0,none⟩) (World.block_lt_of_cell? W _ f)).trans f
 have n:=Yx t;clear t c6 c7 f;go_wp2_with fail;refine(JM C x _ ls s E (Be.own i.o.ci) (by omega) r).mono ?_;rintro e J ⟨z,rfl,u,v⟩;have o:=Yx u;have k:=(g.trans (a.mono g.size)).trans (v.mono (Zm g.size a.size));clear u B r;cases y
 ·go_wp2;go_ret;exact⟨z,rfl,⟨(fun e=> .inr (o.o.1 e)),(fun e=>e.elim (fun e=>by have:=n.o.2 e;cases this) o.o.2)⟩,k⟩
 ·go_wp2;go_ret;exact⟨true,rfl,⟨(fun _=> .inl (n.o.1 trivial)),(fun _=>rfl)⟩,k⟩
end
section
attribute [local go_sem↓] Go.wp_at_zero Go.wp_at_succ
theorem Cb.holds{w:Zh}{base:Nat}{V:List Nat}{wd:Int}{ks:List Kd}{f:Lit->Option Value}(h:Cb w base V wd ks f):Holds w w.heap.size wd ks f:=by
 intro s g;rcases h s g with h|⟨u,i,j,a,b,c,e⟩
 ·exact .inl h
 ·exact .inr ⟨u,i,j,a,b,c,e.row⟩
theorem Dr.look{w:Zh}{base d m:Nat}{O P L:Value}{wd now given ae:Int}{ks:List Kd}{ps:List Pd}{ls:List Ld}(h:Dr w base d m O P L wd now given ae ks ps ls)(i:(ks.map (·.sum)).Nodup)(o:∀k∈ks,(k.sum.size:Int)=wd){k:Kd}(b:k∈ks):
 ∃a c,Ad w w.heap.size a k.refs/\∀X,Zz w X->(Instr.lookup 157 (.map (some m)) (Cw k.sum) false).run prog X=.ok (Es k a c) X:=by
 obtain⟨n,f,t,e,q⟩:=h.map;rcases q _ (o k b)with⟨_,j⟩|⟨u,a,c,s,p,g,l⟩
 ·exact absurd ⟨_,b,rfl⟩ j
 ·obtain rfl:=GU i s b p;refine⟨a,c,l.row,fun X r=> ?_⟩;have:=(e.ak r e.lt).look keyed underlying157 (Kl _) (EM u.sum);rw[g]at this;exact this
theorem UC(base d m l n:Nat)(O P L:Value)(wd now given ae:Int)(ks:List Kd)(ps:List Pd)(ls:List Ld)(s:Zi)(k:Kd)(w:Zh)(E:Dr w base d m O P L wd now given ae ks ps ls)(I:(ks.map (·.sum)).Nodup)(K:∀k∈ks,(k.sum.size:Int)=wd)(N:k∈ks)(Q:k.refs.length<=1000)(j:k.refs.Pairwise (fun a b=>less a b=true))
 (r:w.cell? (Ze l 0)=some (Yz d)) (u:w.cell? (Ze n 0)=some (.string s)):
 Calls prog 246 #[Cw k.sum,Yz l,Yz n] w fun e w'=>∃ok,e=.returned (.bool ok)/\(ok=true↔s∈k.refs)/\Zz w w':=by
 obtain⟨c,f,g,fq⟩:=E.look I K N;have H:=World.block_lt_of_cell? w _ r;have J:=World.block_lt_of_cell? w _ u;obtain⟨W,o⟩:∃W,W=w.alloc (.cells (Yw (kB k.sum)) 191):=⟨_,rfl⟩;have h:=(AJ o).1;have y:Aa W w.heap.size (Am k.sum):=by rw[o];exact Aa.new w (Am k.sum) 191
 have M:w.heap.size<W.heap.size:=Aa.lt (v:=.int .u8 (kB k.sum 0)) y;unfold Cw Da Es at fq
 have x:Hid (∀X,Zz W X->X.cell? (Ze l 0)=some (Yz d)/\X.cell? (Ze n 0)=some (.string s)/\X.cell? (Ze d 1)=some (.map (some m))/\(X.cell? (Ze (w.heap.size) 0)=some (.int .u8 (kB k.sum 0))/\X.cell? (Ze (w.heap.size) 1)=some (.int .u8 (kB k.sum 1))/\X.cell? (Ze (w.heap.size) 2)=some (.int .u8 (kB k.sum 2))/\X.cell? (Ze (w.heap.size) 3)=some (.int .u8 (kB k.sum 3))/\X.cell? (Ze (w.heap.size) 4)=some (.int .u8 (kB k.sum 4))/\X.cell? (Ze (w.heap.size) 5)=some (.int .u8 (kB k.sum 5))/\X.cell? (Ze (w.heap.size) 6)=some (.int .u8 (kB k.sum 6))/\X.cell? (Ze (w.heap.size) 7)=some (.int .u8 (kB k.sum 7)))/\(Instr.lookup 157 (.map (some m)) (.agg (Yw (kB k.sum))) false).run prog X=.ok (.agg #[.string k.sum,Zg k.born,.string k.text,.slice c k.refs.length f]) X):=
  fun X D=>by have q:=h.trans (D.mono h.size);exact⟨(q.cell (p:=⟨l,0,none⟩) H).trans r,(q.cell (p:=⟨n,0,none⟩) J).trans u,(Aa.below E.box q 1 _ rfl).1,ZT (D.block _ M) y,fq X q⟩
 have B:=Yx (Ph c f k.refs s W.drew (Ad.mono (Ad.below g h.drew) h.size) Q j);have A:Below W.heap.size W W.drew:=(Below.refl _ _).drew;have S:∀X:Zh,(Instr.field 137 (.agg #[.string k.sum,Zg k.born,.string k.text,.slice c k.refs.length f]) 2).run prog X=.ok (.agg #[.string k.text,.slice c k.refs.length f]) X:=fun _=>by kernel_rfl
 have T:∀X:Zh,(Instr.field 51 (.agg #[.string k.text,.slice c k.refs.length f]) 1).run prog X=.ok (.slice c k.refs.length f) X:=fun _=>by kernel_rfl
 have C:=Yx o;clear o y fq g;unfold Cw Da;go_enter func246,ntmps246;go_upto_region 1 with fail;rw[←C.o];clear C
 go_region_held3 (fun X=>X.cell? (Ze l 0)=some (Yz d)/\X.cell? (Ze n 0)=some (.string s)/\X.cell? (Ze d 1)=some (.map (some m))/\(X.cell? (Ze (w.heap.size) 0)=some (.int .u8 (kB k.sum 0))/\X.cell? (Ze (w.heap.size) 1)=some (.int .u8 (kB k.sum 1))/\X.cell? (Ze (w.heap.size) 2)=some (.int .u8 (kB k.sum 2))/\X.cell? (Ze (w.heap.size) 3)=some (.int .u8 (kB k.sum 3))/\X.cell? (Ze (w.heap.size) 4)=some (.int .u8 (kB k.sum 4))/\X.cell? (Ze (w.heap.size) 5)=some (.int .u8 (kB k.sum 5))/\X.cell? (Ze (w.heap.size) 6)=some (.int .u8 (kB k.sum 6))/\X.cell? (Ze (w.heap.size) 7)=some (.int .u8 (kB k.sum 7)))/\(Instr.lookup 157 (.map (some m)) (.agg (Yw (kB k.sum))) false).run prog X=.ok (.agg #[.string k.sum,Zg k.born,.string k.text,.slice c k.refs.length f]) X)
  (first|with_reducible exact x.o _ A|with_reducible exact x.o _ z)
  (first|(go_at_call 247;refine Calls.mono B.o ?_;rintro e R ⟨i,ok,rfl,t,G⟩;have F:=Yx t;clear t;have z:Below W.heap.size W R:=DF G))
 all_goals
  clear x B A;go_wp2;go_ret;exact⟨ok,rfl,F.o,h.trans (z.mono h.size)⟩
def Jn(ks:List Kd):Prop:=∀k∈ks,k.refs.length<=1000/\k.refs.Pairwise (fun a b=>less a b=true)
theorem Od(base d m n q:Nat)(M:Zk)(E:Nat)(P L:Value)(wd now given ae:Int)(ks:List Kd)(ps:List Pd)(ls:List Ld)(s:Zi)(w:Zh)(I:Dr w base d m (.slice M ks.length E) P L wd now given ae ks ps ls)(Z:(ks.map (·.sum)).Nodup)(zB:∀k∈ks,(k.sum.size:Int)=wd)(K:Jn ks)(hl:ks.length<=600)
 (A:w.cell? (Ze n 0)=some (Yz d)) (D:w.cell? (Ze q 0)=some (.string s)):
 Calls prog 252 #[.slice M ks.length E,.func (.func 246) #[] #[Yz n,Yz q]] w fun e w'=>∃r:Int,e=.returned (Zg r)/\(0<=r↔∃k∈ks,s∈k.refs)/\Zz w w':=by
 have X:=World.block_lt_of_cell? w _ A;have zA:=World.block_lt_of_cell? w _ D;have HD:=Yx I;clear I;go_enter func252,ntmps252;go_wp2
 go_loopw [8] (fun i wr=>∃k:Nat,k<=ks.length/\i=Zg k/\Hid (∀j x,j<k->ks[j]?=some x->¬s∈x.refs)/\Zz w wr) (fun i _=>ks.length -(intOf i).toNat)
 case atStart=>exact⟨0,Nat.zero_le _,rfl,(fun j x h=>by omega),Below.refl _ _⟩
 case round=>
  obtain⟨k,hk,rfl,g,b⟩:=hrel;have zC:=b.size;by_cases hlt:k<ks.length
  ·have l:=Dr.below HD.o b;have f:=l.ord;obtain⟨og,oc,Y,_,zE⟩:=Cp f (fun e=>by injection e with _ h2 _;omega);cases Y;have J:=Yx (Zv hlt);have c:=List.getElem_mem hlt;have B:(ks.map (·.sum))[k]?=some ks[k].sum:=by simp[hlt]
   have a:∀j,j<8->wr.cell? (Ze og (k *8+j))=some (.int .u8 (kB ks[k].sum j)):=fun j o=>(f.cellAt _ (by omega)).trans (GC B o);have z:=a 0 (by omega);have Q:=a 1 (by omega);have R:=a 2 (by omega);have S:=a 3 (by omega);have T:=a 4 (by omega);have U:=a 5 (by omega);have V:=a 6 (by omega);have W:=a 7 (by omega);rw[Nat.add_zero]at z
   have F:=UC base d m n q _ P L wd now given ae ks ps ls s ks[k] wr l Z zB c (K _ c).1 (K _ c).2 ((b.cell (p:=⟨n,0,none⟩) X).trans A) ((b.cell (p:=⟨q,0,none⟩) zA).trans D);unfold Cw Da at F;have t:=Yx F;clear a B f l c F;generalize ks[k]=x at *
   go_wp2_with fail;refine Calls.mono t.o ?_;rintro e w1 ⟨ok,rfl,C,N⟩;have v:=b.trans (N.mono zC);have u:=Yx C;clear C z Q R S T U V W t;cases ok
   ·have HA:Hid (∀j y,j<k+1->ks[j]?=some y->¬s∈y.refs):=by
     intro j y o G;rcases Nat.lt_or_ge j k with H|H
     ·exact g.o j y H G
     ·obtain rfl:j=k:=by omega
      rw[J.o]at G;cases G;exact fun h=>by have:=u.o.2 h;simp at this
    go_wp2;exact⟨⟨k+1,by omega,by go_num,HA,v⟩,by simp[intOf];omega⟩
   ·go_wp2;go_ret;exact⟨_,rfl,⟨(fun _=>⟨x,Zs J.o,u.o.1 (by trivial)⟩),(fun _=>by omega)⟩,v⟩
  ·go_wp2;go_ret;refine⟨_,rfl,⟨(fun h=>by omega),(fun⟨p,hp,h⟩=> ?_)⟩,b⟩;obtain⟨j,o,rfl⟩:=List.getElem_of_mem hp;exact absurd h (g.o j _ (by omega) (Zv o))
theorem KW(base d m g j:Nat)(i:Zk)(a:Nat)(P L:Value)(wd now given ae:Int)(ks:List Kd)(ps:List Pd)(ls:List Ld)(s:Zi)(w:Zh)(b:Dr w base d m (.slice i ks.length a) P L wd now given ae ks ps ls)(p:(ks.map (·.sum)).Nodup)(t:∀k∈ks,(k.sum.size:Int)=wd)(v:Jn ks)(u:ks.length<=600)
 (o:w.cell? (Ze g 0)=some (Yz d)) (q:w.cell? (Ze j 0)=some (.string s)):
 Calls prog 245 #[.slice i ks.length a,.func (.func 246) #[] #[Yz g,Yz j]] w fun e w'=>∃ok,e=.returned (.bool ok)/\(ok=true↔∃k∈ks,s∈k.refs)/\Zz w w':=by
 have l:=Yx (Od base d m g j i a P L wd now given ae ks ps ls s w b p t v u o q);clear b;go_enter func245,ntmps245;go_wp2_with fail;refine Calls.mono l.o ?_;rintro e x ⟨r,rfl,f,c⟩;have n:=Yx f;clear f l;by_cases h:0<=r
 ·have b:decide ((0:Int)<=r)=true:=by simpa using h
  go_wp2;go_ret;exact⟨true,rfl,⟨(fun _=>n.o.1 h),(fun _=>rfl)⟩,c⟩
 ·have b:decide ((0:Int)<=r)=false:=by simpa using h
  go_wp2;go_ret;exact⟨false,rfl,⟨(fun e=>by cases e),(fun e=>absurd (n.o.2 e) (by omega))⟩,c⟩
theorem SJ(base d m:Nat)(O P L:Value)(wd now given ae:Int)(ks:List Kd)(ps:List Pd)(ls:List Ld)(s:Zi)(w:Zh)(g:Dr w base d m O P L wd now given ae ks ps ls)(o:(ks.map (·.sum)).Nodup)(p:∀k∈ks,(k.sum.size:Int)=wd)(v:Jn ks)(u:ks.length<=600):
 Calls prog 233 #[Yz d,.string s] w fun e w'=>∃ok,e=.returned (.bool ok)/\(ok=true↔∃k∈ks,s∈k.refs)/\Zz w w':=by
 have y:∀(fn:Fn) (first cap:Array Value) (w:Zh),(Instr.makeFunc fn first cap).run prog w=.ok (.func fn first cap) w:=fun _ _ _ _=>rfl;obtain⟨x,q,rfl⟩:=Ar g.ord;obtain⟨W,a⟩:∃W,W=(w.alloc (.cells #[Yz d] 146)).alloc (.cells #[.string s] 9):=⟨_,rfl⟩;have f:=(Bj a).1;have t:W.cell? (Ze (w.heap.size) 0)=some (Yz d):=by rw[a];simp[go_sem]
 have j:W.cell? (Ze (w.heap.size+1) 0)=some (.string s):=by rw[a];simp[go_sem]
 have b:=g.below f;have h:=Yx (KW base d m w.heap.size (w.heap.size+1) x q P L wd now given ae ks ps ls s W b o p v u t j);obtain⟨z,_⟩:=b.box 5 _ rfl;have i:=Yx a;clear a b g j;go_enter func233,ntmps233;go_upto_region 1 with fail;rw[←i.o];clear i;go_wp2_with fail;refine Calls.mono h.o ?_;rintro e A ⟨ok,rfl,c,l⟩;have r:=Yx c;have n:=f.trans (l.mono f.size);clear c h;go_wp2;go_ret
 exact⟨ok,rfl,r.o,n⟩
theorem JY(base d m:Nat)(O P L:Value)(wd now given ae:Int)(ks:List Kd)(ps:List Pd)(ls:List Ld)(s:Zi)(w:Zh)(i:Dr w base d m O P L wd now given ae ks ps ls)(n:(ks.map (·.sum)).Nodup)(o:∀k∈ks,(k.sum.size:Int)=wd)(x:Jn ks)(t:ks.length<=600)(v:ps.length<=100)(u:ls.length<=200):
 Calls prog 214 #[Yz d,.string s] w fun e w'=>∃ok,e=.returned (.bool ok)/\(ok=true↔((∃p∈ps,p.sum=s)∨∃l∈ls,l.sum=s)∨∃k∈ks,s∈k.refs)/\Zz w w':=by
 have f:=Yx i;clear i;go_enter func214,ntmps214;go_wp2_with fail;refine(QF base d m O P L wd now given ae ks ps ls s w f.o v u).mono ?_;rintro e y ⟨q,rfl,g,a⟩;have b:=Yx g;clear g;cases q
 ·go_wp2_with fail;refine(SJ base d m O P L wd now given ae ks ps ls s y (Dr.below f.o a) n o x t).mono ?_;rintro e z ⟨r,rfl,h,j⟩;have c:=Yx h;clear h;go_wp2;go_ret;exact⟨r,rfl,⟨(fun e=> .inr (c.o.1 e)),(fun e=>e.elim (fun e=>by have:=b.o.2 e;simp at this) c.o.2)⟩,a.trans (j.mono a.size)⟩
 ·go_wp2;go_ret;exact⟨true,rfl,⟨(fun _=> .inl (b.o.1 (by trivial))),(fun _=>rfl)⟩,a⟩
theorem Ez(base d m:Nat)(O P L:Value)(wd now given ae:Int)(ks:List Kd)(ps:List Pd)(ls:List Ld)(s:Zi)(w:Zh)(c:Dr w base d m O P L wd now given ae ks ps ls)(l:∀k∈ks,(k.sum.size:Int)=wd)(o:Ay ks s):
 Calls prog 202 #[Yz d,.string s] w fun e w'=>e=.returned (.tuple #[])/\Zz w w':=by
 obtain⟨n,f,r,i,h⟩:=c.map;obtain⟨ok,b,a⟩:=Je wd m n f ks w w.heap.size s w i h.holds l;obtain rfl:=b.2 o;obtain⟨p,q⟩:=Aa.c2 c.box 0 1;have g:=Yx (a w (Below.refl _ _));clear a b c i h;go_enter func202,ntmps202;go_wp2_with fail;refine Calls.mono g.o ?_;rintro e t ⟨rfl,j⟩;clear g;go_wp2
 go_end0
 exact⟨rfl,j⟩
end
structure Tn (V:List Nat) (w w':Zh):Prop where
 os:w'.os=w.os
 tape:w'.tape=w.tape
 output:w'.output=w.output
 size:w.heap.size<=w'.heap.size
 block:∀b,b<w.heap.size->b∉V->w'.heap[b]?=w.heap[b]?
theorem Tn.of{V:List Nat}{w w':Zh}(h:Zz w w'):Tn V w w':=⟨h.os,h.tape,h.output,h.size,fun b a _=>h.block b a⟩
theorem Tn.grown{V:List Nat}{w w':Zh}{g:Nat}(h:w.grownBy w' (some g))(c:g∈V):Tn V w w':=⟨h.os,h.tape,h.output,h.size,fun b a f=>h.block b a (fun e=>f (Option.some.inj e▸c))⟩
theorem Tn.set{V:List Nat}(w:Zh)(g j:Nat)(v:Value)(a:g∈V):Tn V w (w.setCell (Ze g j) v):=Tn.grown (Az w g j v) a
theorem Tn.trans{V:List Nat}{a b c:Zh}(h:Tn V a b)(k:Tn V b c):Tn V a c:=
 ⟨k.os.trans h.os,k.tape.trans h.tape,k.output.trans h.output,Zm h.size k.size,fun q e f=>(k.block q (Zr e h.size) f).trans (h.block q e f)⟩
theorem Tn.below{V:List Nat}{w w':Zh}(h:Tn V w w'){B:Nat}(e:B<=w.heap.size)(a:∀b∈V,B<=b):Below B w w':=⟨h.os,h.tape,h.output,h.size,fun b f=>h.block b (by omega) (fun c=>by have:=a b c;omega)⟩
theorem Tn.mono{V V':List Nat}{w w':Zh}(h:Tn V w w')(a:∀b∈V,b∈V'):Tn V' w w':=⟨h.os,h.tape,h.output,h.size,fun b c f=>h.block b c (fun e=>f (a b e))⟩
theorem Bs.same{w w':Zh}{K:TypeId}{b n:Nat}{f:Lit->Option Value}(h:Bs w K b n f)(i:w'.heap[b]?=w.heap[b]?):Bs w' K b n f:=by obtain⟨D,⟨a,clock,c,e⟩,g⟩:=h;exact⟨D,⟨a,clock,i.trans c,e⟩,g⟩
theorem DE.al{w w':Zh}{base:Nat}{V:List Nat}{a:Zk}{j:Zl}(h:DE w base V a j)(f:Tn V w w'):DE w' base V a j:=by
 rcases h with h|⟨b,c,k,e,g,o,l⟩
 ·exact .inl h
 ·exact .inr ⟨b,c,k,Zr e f.size,g,(by rw[f.block b e g];exact o),fun i s n=>(World.cell?_of_block (a:=⟨b,c+i,none⟩) (f.block b e g)).trans (l i s n)⟩
theorem KZ{P:Program}{w:Zh}{b:Array Oper}{o:Oper}{a:Act}{K:Act->Zh->Prop}{Q:Exit->Act->Zh->Prop}{E:Prop}(e:o.guard=none)(s x:Operand)(t u:TypeId)
 (f:o.op=.call {callee:=.builtin .delete,args:= #[s,x],argTypes:= #[t,u]}) {v c:Value} {w':Zh} (i:a.eval s=v) (k:a.eval x=c)
 (g:(Builtin.delete_ #[t,u] o.type #[v,c]).run P w=.ok (.tuple #[]) w') (h:K (a.put o.dst (.tuple #[])) w'):
 if Region.wanted o (yielded b a.tmps)=true then Oper.wp P o a w K Q else E:=by
 have j:Region.wanted o (yielded b a.tmps)=true:=by simp[Region.wanted,e]
 rw[if_pos j];unfold Oper.wp execOp;simp only[f,resolve,invoke,builtin,Sem.run_bind,Sem.run_pure,Result.andThen_ok,List.map_toArray,List.map_cons,List.map_nil,i,k,g];exact h
def EP(ks:List Kd)(s:Zi):List Kd:=ks.filter (fun k=> !decide (k.sum=s))
theorem Pj{ks:List Kd}(a:(ks.map (·.sum)).Nodup){i:Nat}{k:Kd}(b:ks[i]?=some k):EP ks k.sum=ks.eraseIdx i:=by
 induction ks generalizing i with
 |nil=>simp at b
 |cons x xs ih=>
  simp only[List.map_cons,List.nodup_cons,List.mem_map,not_exists,not_and]at a;cases i with
  |zero=>simp at b;subst b;unfold EP;simp only[List.filter_cons,decide_true,Bool.not_true,Bool.false_eq_true,if_false,List.eraseIdx_zero,List.tail_cons];exact List.filter_eq_self.2 (fun y h=>by simpa using a.1 y h)
  |succ i=>
   have c:xs[i]?=some k:=by simpa using b
   have g:=Zs c;have f:¬x.sum=k.sum:=fun e=>a.1 k g e.symm;have:=ih a.2 c;unfold EP at *
   simp[f,this]
theorem SK{g:Zl}{s:Zi}{i:Nat}(h:Fs g s i)(q:s∈g)(c:g.Pairwise (fun a b=>less a b=true)):g[i]?=some s:=by
 obtain⟨j,f⟩:=List.getElem?_of_mem q;have p:=(Zw f).1;rcases Nat.lt_or_ge j i with l|l
 ·have:=h.lo j s l f;rw[Cr]at this;cases this
 ·rcases Nat.lt_or_ge i j with k|k
  ·have n:=List.pairwise_iff_getElem.1 c i j (by omega) p k;have o:=h.hi i _ (Zx) (Zv (by omega));obtain⟨_,e⟩:=Zw f;rw[e]at n;rw[n]at o;cases o
  ·obtain rfl:j=i:=by omega
   exact f
structure FA (wd:Int) (ks:List Kd):Prop where
 nd:(ks.map (·.sum)).Nodup
 dd:(ks.map (·.sum)).Pairwise (fun a b=>less a b=true)
 sz:∀k∈ks,(k.sum.size:Int)=wd
 refs:Jn ks
 len:ks.length<=600
 w8:wd<=8
theorem Cb.drop{w w':Zh}{base:Nat}{V:List Nat}{wd:Int}{ks:List Kd}{f:Lit->Option Value}(h:Cb w base V wd ks f)(o:Tn V w w'){s:Zi}(v:(s.size:Int)=wd)(r:wd<=8):Cb w' base V wd (EP ks s) (ers f (keyL s)):=by
 intro t g;by_cases hts:t=s
 ·subst hts;exact .inl ⟨by simp[ers],fun⟨u,b,a⟩=>by simp[EP,a]at b⟩
 ·have c:keyL t≠keyL s:=fun e=>hts (key_inj e (by omega) (by omega));have k:ers f (keyL s) (keyL t)=f (keyL t):=by simp[ers,c]
  rw[k];rcases h t g with⟨i,j⟩|⟨u,p,q,b,a,l,n⟩
  ·exact .inl ⟨i,fun⟨u,b,a⟩=>j ⟨u,(List.mem_filter.1 b).1,a⟩⟩
  ·exact .inr ⟨u,p,q,List.mem_filter.2 ⟨b,by simp[a,hts]⟩,a,l,n.al o⟩
theorem Dr.apart{w w':Zh}{base d m:Nat}{O P L:Value}{wd now given ae:Int}{ks:List Kd}{ps:List Pd}{ls:List Ld}(h:Dr w base d m O P L wd now given ae ks ps ls){R:Nat}(t:Tn [R] w w')(Q:base<=R)(F:R∉vB d m O P L)(r:∀l B,w.heap[R]?≠some (.cells l 9 B)):Dr w' base d m O P L wd now given ae ks ps ls:=by
 obtain⟨n,f,D,y,E⟩:=h.map;have j:∀b,b<w.heap.size->b∈vB d m O P L->w'.heap[b]?=w.heap[b]?:=fun b o v=>t.block b o (fun e=>F (by simp at e;exact e▸v))
 refine⟨Aa.same h.box (j d h.box.lt (by simp[vB])),⟨n,f,D,Bs.same y (j m y.lt (by simp[vB])),?_⟩,Ak h.ord (fun g c=>j g (Ac h.ord c).2 (by simp[vB,c])),Ak h.cl (fun g c=>j g (Ac h.cl c).2 (by simp[vB,c])),Ak h.ci (fun g c=>j g (Ac h.ci c).2 (by simp[vB,c])),h.bd,h.bm,h.ap⟩;intro s A;rcases E s A with C|⟨u,M,N,I,J,K,x⟩
 ·exact .inl C
 ·refine .inr ⟨u,M,N,I,J,K,?_⟩;rcases x with x|⟨b,q,G,o,v,k,H⟩
  ·exact .inl x
  ·have z:b≠R:=by
    rcases k with k|⟨_,l,k⟩
    ·omega
    ·exact fun e=>r l _ (e▸k)
   have p:=t.block b o (by simpa using z);exact .inr ⟨b,q,G,Zr o t.size,v,(by rw[p];exact k),fun i s r=>(World.cell?_of_block (a:=⟨b,q+i,none⟩) p).trans (H i s r)⟩
theorem UD(base d m:Nat)(O P L:Value)(wd now given ae:Int)(ks:List Kd)(ps:List Pd)(ls:List Ld)(s:Zi)(w:Zh)(hd:Dr w base d m O P L wd now given ae ks ps ls)(h:FA wd ks)(hp:ps.length<=100)(hl:ls.length<=200)(V:Ay ks s)(H:¬(((∃p∈ps,p.sum=s)∨∃l∈ls,l.sum=s)∨∃k∈ks,s∈k.refs)):
 Calls prog 180 #[Yz d,.string s] w fun e w'=>e=.returned (.tuple #[])/\∃O',Dr w' base d m O' P L wd now given ae (EP ks s) ps ls/\O'.ownBlock=O.ownBlock/\Tn (vB d m O P L) w w':=by
 obtain⟨k0,G,S⟩:=V;have V:Ay ks s:=⟨k0,G,S⟩;have zV:=S▸h.sz k0 G;have hlen:=List.length_pos_of_mem G;obtain⟨g,u,rfl,zX,zY⟩:=Cp hd.ord (fun e=>by have:=Ar hd.ord;obtain⟨a,c,e'⟩:=this;rw[e']at e;injection e with _ h2 _;omega);have HD:=Yx hd;clear hd;go_enter func180,ntmps180;go_wp2_with fail;refine(Ez base d m _ P L wd now given ae ks ps ls s w HD.o h.sz V).mono ?_;rintro e w1 ⟨rfl,y⟩
 have K:=Yx (Dr.below HD.o y);go_wp2_with fail;refine(JY base d m _ P L wd now given ae ks ps ls s w1 K.o h.nd h.sz h.refs h.len hp hl).mono ?_;rintro e w2 ⟨ok,rfl,B,A⟩;obtain rfl:ok=false:=by
  cases ok with
  |false=>rfl
  |true=>exact absurd (B.1 rfl) H
 have zB:=Yx (Dr.below K.o A);clear B K;go_wp2_with fail;refine(LI s w2).mono ?_;rintro e t ⟨rfl,F⟩;obtain⟨D,E⟩:∃W,W=t.alloc (.cells (Yw (kB s)) 191):=⟨_,rfl⟩;have zG:=(AJ E).1;have k4:Aa D t.heap.size (Am s):=by rw[E];exact Aa.new t (Am s) 191
 have B4:=((y.trans (A.mono y.size)).trans (F.mono (Zm y.size A.size))).trans (zG.mono (Zm (Zm y.size A.size) F.size));have j:=Yx (Dr.below (Dr.below zB.o F) zG);have zE:=Yx E;clear E zB;go_upto_region 4 with fail;rw[←zE.o];clear zE;obtain⟨n,f,hn,hM,hH⟩:=j.o.map;obtain⟨w5,U,zH,zJ⟩:=(hM.ak (Below.refl D.heap.size D).drew hM.lt).del keyed underlying157 (EM s) 0;have zW:=j.o.box.lt;have o:=j.o.ap
 have zI:d≠m:=by intro e;unfold vB at o;simp[e]at o
 have N:d≠g/\m≠g:=by unfold vB at o;simp[Value.ownBlock]at o;omega
 have yA:=(HD.o.map.choose_spec.choose_spec.2.1).lt;have yB:=Zm (Zm y.size A.size) F.size;have q:=Dn zJ;have k5:=Aa.co (v:=.int .u8 (kB s 0)) k4 q (by omega);have x5:=Aa.co j.o.box q (fun e=>zI e.symm);have P4:D.drew.cell? (Ze d 1)=some (.map (some m))/\_:=⟨(j.o.box 1 _ rfl).1,GZ (w:=D.drew) k4⟩;have P5:w5.cell? (Ze d 1)=some (.map (some m))/\_:=⟨(x5 1 _ rfl).1,GZ k5⟩;unfold Cw Da at U
 go_region_held3 (fun X=>X.cell? (Ze d 1)=some (.map (some m))/\(X.cell? (Ze (t.heap.size) 0)=some (.int .u8 (kB s 0))/\X.cell? (Ze (t.heap.size) 1)=some (.int .u8 (kB s 1))/\X.cell? (Ze (t.heap.size) 2)=some (.int .u8 (kB s 2))/\X.cell? (Ze (t.heap.size) 3)=some (.int .u8 (kB s 3))/\X.cell? (Ze (t.heap.size) 4)=some (.int .u8 (kB s 4))/\X.cell? (Ze (t.heap.size) 5)=some (.int .u8 (kB s 5))/\X.cell? (Ze (t.heap.size) 6)=some (.int .u8 (kB s 6))/\X.cell? (Ze (t.heap.size) 7)=some (.int .u8 (kB s 7))))
  (first|with_reducible exact P4|with_reducible exact P5)
  (first|(refine KZ (by rfl) (.tmp 21) (.tmp 22) 157 191 (by rfl) (by rfl) (by rfl) U ?_))
 have T:=World.ownsRow.kept j.o.ord q (.inr (fun e=>N.2 (Option.some.inj e).symm));have HP:=SI base d m g u P L wd now given ae ks s w5 x5 T h.len (by have:=h.w8;omega) (fun x hx=>by have:=h.sz x hx;omega) h.dd;obtain⟨q0,q1,q2,q3,q4,q5,q6,q7⟩:=GZ k5;have HQ:=Yx HP;unfold Cw Da at HQ;have zF:=Yx (Zn x5 T);have I:=Yx (Zn zH (Zn q hH));clear HP P4 P5 U zH zJ q x5 T k4 k5 hM;go_wp2_with fail
 refine Calls.mono HQ.o ?_;rintro e w6 ⟨i,rfl,zR,M⟩;have R:=SK zR (List.mem_map.2 ⟨k0,G,S⟩) h.dd;have zZ:=h.len;have zK:i<ks.length:=by have:=(Zw R).1;simpa using this
 have x6:=Aa.below zF.o.1 M;obtain⟨y5,f5⟩:=x6 5 _ rfl;have zO:w6.ownsRow base 191 8 (Za g (ks.map (·.sum)).length u) (ks.map (·.sum)).length (AW (ks.map (·.sum))):=by rw[List.length_map];exact Ag zF.o.2 M
 have z:=MV g u i (ks.map (·.sum)) w6 base zO (by rw[List.length_map];exact h.len) (by rw[List.length_map];exact zK);rw[List.length_map]at z;have zC:=Yx z;have J:=Yx (Zn R (Zn x6 M));clear zR R x6 z zO HQ q0 q1 q2 q3 q4 q5 q6 q7;go_wp2_with fail;refine Calls.mono zC.o ?_;rintro e w7 ⟨rfl,zP,Q⟩;have x7:=Aa.co J.o.2.1 Q (fun e=>N.1 e.symm);obtain⟨y7,f7⟩:=x7 5 _ rfl;have Y:=Yx (Zn x7 (Zn zP Q))
 clear x7 zP Q y5 f5 zC;go_wp2
 go_end0
 have Z:Tn [d,m,g] D (w7.setCell (Ze d 5) (Za g (ks.length -1) u)):=
  (((Tn.grown I.o.2.1 (by simp)).trans (Tn.of J.o.2.2)).trans (Tn.grown Y.o.2.2 (by simp))).trans (Tn.set w7 d 5 _ (by simp))
 have C:∀b∈[d,m,g],b∈vB d m (Za g ks.length u) P L:=by intro b r;simp at r;unfold vB;rcases r with rfl|rfl|rfl<;>simp[Value.ownBlock]
 have zN:∀v:Value,(v=P∨v=L)->∀b,v.ownBlock=some b->b∉[d,m,g]:=by
  intro v hv b r zM;unfold vB at o;rcases hv with rfl|rfl
  ·simp only[List.nodup_cons,List.mem_cons,List.mem_append,Option.mem_toList,r]at o;simp[Value.ownBlock]at o zM
   grind
  ·simp only[List.nodup_cons,List.mem_cons,List.mem_append,Option.mem_toList,r]at o;simp[Value.ownBlock]at o zM
   grind
 have zT:∃k,ks[i]?=some k/\k.sum=s:=by
  have:=J.o.1;rw[List.getElem?_map]at this;cases hk:ks[i]? with
  |none=>rw[hk]at this;cases this
  |some k=>rw[hk]at this;exact⟨k,rfl,by simpa using this⟩
 obtain⟨ki,zU,zA⟩:=zT;have zS:=zA▸Pj h.nd zU;refine⟨rfl,Za g (ks.length -1) u,⟨Aa.set Y.o.1 5 _,⟨n,ers f (keyL s),hn,?_,?_⟩,?_,?_,?_,j.o.bd,j.o.bm,o⟩,rfl,(Tn.of B4).trans (Z.mono C)⟩
 ·refine Bs.same (Bs.same (I.o.1.ak J.o.2.2 I.o.1.lt) (Y.o.2.2.block m (Zr I.o.1.lt J.o.2.2.size) (fun e=>N.2 (Option.some.inj e)))) ?_;exact Below.heap_setCell _ _ _ _ (fun e=>zI e.symm)
 ·exact Cb.drop I.o.2.2 (Z.mono C) zV h.w8
 ·rw[zS];have h1:(ks.eraseIdx i).length=ks.length -1:=by rw[List.length_eraseIdx,if_pos zK]
  rw[h1];have h2:(ks.eraseIdx i).map (·.sum)=(ks.map (·.sum)).eraseIdx i:=by simp[List.eraseIdx_eq_take_drop_succ]
  rw[h2];exact Bv Y.o.2.1 (fun b r=>by simp[Value.ownBlock]at r;omega) 5 _
 ·exact Ak j.o.cl (fun b r=>Z.block b (Ac j.o.cl r).2 (zN P (.inl rfl) b r))
 ·exact Ak j.o.ci (fun b r=>Z.block b (Ac j.o.ci r).2 (zN L (.inr rfl) b r))
theorem Dr.cf{w:Zh}{base d m:Nat}{O P L:Value}{wd now given ae:Int}{ks:List Kd}{ps:List Pd}{ls:List Ld}(c:Dr w base d m O P L wd now given ae ks ps ls):∀b∈vB d m O P L,b<w.heap.size:=by
 intro b a;unfold vB at a;simp only[List.mem_cons,List.mem_append,Option.mem_toList]at a;rcases a with rfl|rfl|a|a|a
 ·exact c.box.lt
 ·exact(c.map.choose_spec.choose_spec.2.1).lt
 ·exact(Ac c.ord a).2
 ·exact(Ac c.cl a).2
 ·exact(Ac c.ci a).2
def ay(c:Int)(a b:Zi):Value:=.iface 203 (.agg #[Zg c,.string a,.string b])
theorem SL(base d m:Nat)(O P L:Value)(wd now given ae:Int)(ks:List Kd)(ps:List Pd)(ls:List Ld)(s:Zi)(w:Zh)(i:Dr w base d m O P L wd now given ae ks ps ls)(a:FA wd ks)(q:ps.length<=100)(o:ls.length<=200)(n:Ay ks s)(f:((∃p∈ps,p.sum=s)∨∃l∈ls,l.sum=s)∨∃k∈ks,s∈k.refs):
 Calls prog 180 #[Yz d,.string s] w fun e w'=>e=.panicked [{v:=ay 6 ⟨#[]⟩ ⟨#[]⟩,recovered:=false}]/\Zz w w':=by
 have h:=Yx i;clear i;go_enter func180,ntmps180;go_wp2_with fail;refine(Ez base d m O P L wd now given ae ks ps ls s w h.o a.sz n).mono ?_;rintro e r ⟨rfl,c⟩;have g:=Yx (Dr.below h.o c);go_wp2_with fail;refine(JY base d m O P L wd now given ae ks ps ls s r g.o a.nd a.sz a.refs a.len q o).mono ?_;rintro e t ⟨ok,rfl,b,j⟩;obtain rfl:=b.2 f;clear b g;go_wp2;exact⟨rfl,rfl,c.trans (j.mono c.size)⟩
def z12:Zj:=[Zf,Zf,Zf,Zf,Zf,Zc,Zc,Zc,Zd,Zf,Zd,Zd]
theorem AZ{w:Zh}{b:Nat}(h:Aa w b z12):(w.cell? (Ze b 0)=some Zf/\w.frozen? ⟨b,0,none⟩=false)/\(w.cell? (Ze b 1)=some Zf/\w.frozen? ⟨b,1,none⟩=false)/\(w.cell? (Ze b 2)=some Zf/\w.frozen? ⟨b,2,none⟩=false)/\(w.cell? (Ze b 3)=some Zf/\w.frozen? ⟨b,3,none⟩=false)/\(w.cell? (Ze b 4)=some Zf/\w.frozen? ⟨b,4,none⟩=false)/\(w.cell? (Ze b 5)=some Zc/\w.frozen? ⟨b,5,none⟩=false)/\(w.cell? (Ze b 6)=some Zc/\w.frozen? ⟨b,6,none⟩=false)/\(w.cell? (Ze b 7)=some Zc/\w.frozen? ⟨b,7,none⟩=false)/\(w.cell? (Ze b 8)=some Zd/\w.frozen? ⟨b,8,none⟩=false)/\(w.cell? (Ze b 9)=some Zf/\w.frozen? ⟨b,9,none⟩=false)/\(w.cell? (Ze b 10)=some Zd/\w.frozen? ⟨b,10,none⟩=false)/\(w.cell? (Ze b 11)=some Zd/\w.frozen? ⟨b,11,none⟩=false):=
 ⟨h 0 _ rfl,h 1 _ rfl,h 2 _ rfl,h 3 _ rfl,h 4 _ rfl,h 5 _ rfl,h 6 _ rfl,h 7 _ rfl,h 8 _ rfl,h 9 _ rfl,h 10 _ rfl,h 11 _ rfl⟩
theorem Bq(w:Zh)(R:Nat)(c e f g i k l n o p a b:Value):Tn [R] w ((((((((((((w.setCell (Ze R 0) c).setCell (Ze R 1) e).setCell (Ze R 2) f).setCell (Ze R 3) g).setCell (Ze R 4) i).setCell (Ze R 5) k).setCell (Ze R 6) l).setCell (Ze R 7) n).setCell (Ze R 8) o).setCell (Ze R 9) p).setCell (Ze R 10) a).setCell (Ze R 11) b):=
 have h:∀(x:Zh) (j:Nat) (v:Value),Tn [R] x (x.setCell (Ze R j) v):=fun x j v=>Tn.set x R j v (by simp)
 (((((((((((h w 0 c).trans (h _ 1 e)).trans (h _ 2 f)).trans (h _ 3 g)).trans (h _ 4 i)).trans (h _ 5 k)).trans (h _ 6 l)).trans (h _ 7 n)).trans (h _ 8 o)).trans (h _ 9 p)).trans (h _ 10 a)).trans (h _ 11 b)
theorem Tn.fresh{V:List Nat}{w f w':Zh}{R:Nat}(a:Tn V w f)(c:Tn [R] f w')(h:w.heap.size<=R):Tn V w w':=
 ⟨c.os.trans a.os,c.tape.trans a.tape,c.output.trans a.output,Zm a.size c.size,fun b e g=>(c.block b (Zr e a.size) (by simp;omega)).trans (a.block b e g)⟩
theorem QG(p:Addr)(w:Zh):
 CallsD prog 146 #[.pointer (some p)] .returning w fun e b w'=>e=.returned (.tuple #[])/\b=.returning/\w'=w:=by
 have a:∀w:Zh,(binOp BinOp.eql 20 .nilIface .nilIface).run prog w=.ok (.bool true) w:=fun _=>by kernel_rfl
 refine callsD_of_wpS func146 rfl fun c₀ cs hu=> ?_;apply wpS_seq;apply wpS_region;simp[wpOpsS,go_sem,recoverD,hu,ntmps146,Exit.thenS];refine wpS_of_wp ?_;change Code.wp prog _ _ {tmps:= #[Value.pointer (some p),undef,undef,undef,Value.nilIface,undef,undef,undef,undef,undef,undef,undef,undef,undef,undef,undef,undef],defers:=[]} w;go_wp2;cases c₀;simp_all [bodyPostS,results,results146]
theorem VI{w:Zh}{b:Nat}(h:Aa w b z12)(e f g i j k l n o p a c:Value):Aa ((((((((((((w.setCell (Ze b 0) e).setCell (Ze b 1) f).setCell (Ze b 2) g).setCell (Ze b 3) i).setCell (Ze b 4) j).setCell (Ze b 5) k).setCell (Ze b 6) l).setCell (Ze b 7) n).setCell (Ze b 8) o).setCell (Ze b 9) p).setCell (Ze b 10) a).setCell (Ze b 11) c) b [e,f,g,i,j,k,l,n,o,p,a,c]:=
 ((((((((((((h.set 0 e).set 1 f).set 2 g).set 3 i).set 4 j).set 5 k).set 6 l).set 7 n).set 8 o).set 9 p).set 10 a).set 11 c)
def Ch(c:Int)(a b:Zi):Zj:=[Zg c,Zf,Zf,Zf,Zf,Zc,Zc,Zc,Zd,Zf,.string a,.string b]
theorem Pk(R:Nat)(c:Int)(a b:Zi)(w:Zh)(f:Aa w R z12):
 CallsD prog 146 #[Yz R] (.panicking [{v:=ay c a b,recovered:=false}]) w fun e i w'=>e=.returned (.tuple #[])/\i=.panicking [{v:=ay c a b,recovered:=true}]/\Aa w' R (Ch c a b)/\Tn [R] w w':=by
 have h:∀w:Zh,(binOp BinOp.eql 20 (.iface 203 (.agg #[Zg c,.string a,.string b])) .nilIface).run prog w=.ok (.bool false) w:=fun _=>by first|rfl|kernel_rfl
 have l:∀w:Zh,(Instr.typeAssert (.iface 203 (.agg #[Zg c,.string a,.string b])) 20 203 true).run prog w=.ok (.tuple #[.agg #[Zg c,.string a,.string b],.bool true]) w:=fun _=>by first|rfl|kernel_rfl
 obtain⟨⟨D,r⟩,⟨E,s⟩,⟨F,t⟩,⟨G,u⟩,⟨H,x⟩,⟨I,y⟩,⟨J,z⟩,⟨K,A⟩,⟨M,B⟩,⟨N,C⟩,⟨p,n⟩,q,o⟩:=AZ f;have j:=Aa.lt (v:=Zf) f;have k:¬w.heap.size=R:=by omega
 have g:¬R=w.heap.size:=by omega
 unfold ay;refine callsD_of_wpS func146 rfl fun c₀ cs hu=> ?_;apply wpS_seq;apply wpS_region;simp[wpOpsS,go_sem,recoverD,hu,ntmps146,Exit.thenS];refine wpS_of_wp ?_;change Code.wp prog _ _ {tmps:= #[Yz R,undef,undef,undef,.iface 203 (.agg #[Zg c,.string a,.string b]),undef,undef,undef,undef,undef,undef,undef,undef,undef,undef,undef,undef],defers:=[]} w;go_wp2;simp[bodyPostS,results,results146]
 exact⟨Aa.below (v:=Zg c) (VI f _ _ _ _ _ _ _ _ _ _ _ _) (Zy),(Bq w R _ _ _ _ _ _ _ _ _ _ _ _).trans (Tn.of (Zy))⟩
theorem Holds.low{W w:Zh}{B:Nat}{wd:Int}{ks:List Kd}{f:Lit->Option Value}(h:Holds W B wd ks f)(g:Below B W w):Holds w B wd ks f:=by
 intro s i;rcases h s i with h|⟨u,j,k,a,b,c,e⟩
 ·exact .inl h
 ·exact .inr ⟨u,j,k,a,b,c,Ad.below e g⟩
def HU(w:Zh)(base m:Nat)(wd:Int)(ks:List Kd):Prop:=∃n f,n<=1000000/\Bs w 191 m n f/\Holds w base wd ks f/\m<base+4
theorem EA(w:Zh)(R j:Nat)(v:Value):Tn [R] w (w.setCell (Ze R j) v):=Tn.set w R j v (by simp)
theorem CG{w w':Zh}{b:Option Nat}(a:w.grownBy w' b):Tn b.toList w w':=⟨a.os,a.tape,a.output,a.size,fun k c f=>a.block k c (fun e=>f (by simp[←e]))⟩
def HN(w:Zh)(m N:Nat):Prop:=∃n f,n<=N/\Bs w 191 m n f
theorem Jo(wd now given ae:Int)(a p l:Zk)(V S R:Nat)(ks:List Kd)(ps:List Pd)(ls:List Ld)(w:Zh)(D:BJ w w.heap.size a p l ks ps ls)(hk:ks.length<=600)(hp:ps.length<=100)(hl:ls.length<=200)(yM:∀k∈ks,(k.sum.size:Int)=wd)(h8:wd<=8):
 Calls prog 113 #[.agg (Ys wd now given ae a ks.length V p ps.length S l ls.length R)] w fun e w'=>∃d m O P L,e=.returned (Yz d)/\Dr w' (w.heap.size+1) d m O P L wd now given ae ks ps ls/\HU w' (w.heap.size+1) m wd ks/\(HN w' m 600/\m<=w.heap.size+3)/\Zz w w':=by
 have hx:=Bb.new w wd now given ae (.slice a ks.length V) (.slice p ps.length S) (.slice l ls.length R) 43;obtain⟨j,I⟩:∃W,W=w.alloc (.cells (Ys wd now given ae a ks.length V p ps.length S l ls.length R) 43):=⟨_,rfl⟩;have n:=(AJ I).1;have zZ:=(AJ I).2.1;rw[←I]at hx;have C:=Yx D;have HX:=Yx hx;have zO:=Yx I;have S0:=Sc hx
 have zW:j.drew.cell? (Ze (w.heap.size) 0)=some (Zg wd)/\j.drew.cell? (Ze (w.heap.size) 1)=some (Zg now)/\j.drew.cell? (Ze (w.heap.size) 2)=some (Zg given)/\j.drew.cell? (Ze (w.heap.size) 3)=some (Zg ae)/\j.drew.cell? (Ze (w.heap.size) 4)=some (.slice a ks.length V)/\j.drew.cell? (Ze (w.heap.size) 5)=some (.slice p ps.length S)/\j.drew.cell? (Ze (w.heap.size) 6)=some (.slice l ls.length R):=S0
 have K0:BF j.drew j.drew.heap.size a ks:=BF.mono (BF.below D.k n.drew) n.size;have yH:ks.length<=1048576:=by omega
 have yL:ps.length<=1048576:=by omega
 have yI:ls.length<=1048576:=by omega
 clear D hx I;go_enter func113,ntmps113;go_upto_region 1 with fail;rw[←zO.o];clear zO
 go_region_held3 (fun w'=>w'.cell? (Ze (w.heap.size) 0)=some (Zg wd)/\w'.cell? (Ze (w.heap.size) 1)=some (Zg now)/\w'.cell? (Ze (w.heap.size) 2)=some (Zg given)/\w'.cell? (Ze (w.heap.size) 3)=some (Zg ae)/\w'.cell? (Ze (w.heap.size) 4)=some (.slice a ks.length V)/\w'.cell? (Ze (w.heap.size) 5)=some (.slice p ps.length S)/\w'.cell? (Ze (w.heap.size) 6)=some (.slice l ls.length R))
  (first|exact S3|exact S2|exact S1|exact zW|exact Sc (Bb.below X3.o (Zy)))
  (first
  |(go_at_call 155;refine(OW wd now given ae a V (.slice p ps.length S) (.slice l ls.length R) ks j.drew K0 yH yM h8).mono ?_;rintro e y ⟨m,f,rfl,hm,hM,hH,zF⟩;have N:Below j.heap.size j y:=(Below.refl j.heap.size j).drew.trans zF;have S1:=Sc (Bb.below HX.o N))
  |(go_at_call 134;refine(Jd p S ps y (Ba.mono (Ba.below C.o.p (n.trans (N.mono n.size))) (n.trans (N.mono n.size)).size) yL).mono ?_;rintro e H ⟨G,t,rfl,zH,M⟩;have U:Below j.heap.size j H:=N.trans (M.mono N.size);have S2:=Sc (Bb.below HX.o U))
  |(go_at_call 135;refine(Iq l R ls H (Be.mono (Be.below C.o.l (n.trans (U.mono n.size))) (n.trans (U.mono n.size)).size) yI).mono ?_;rintro e h ⟨F,s,rfl,zI,z⟩;have B3:Below j.heap.size j h:=U.trans (z.mono U.size);have X3:=Yx (Bb.below HX.o B3);have S3:=Sc X3.o))
 obtain⟨E,J⟩:∃W,W=h.alloc (.cells #[Zg wd,.map (some m),Zg now,Zg given,Zg ae,Zc,.slice G ps.length t,.slice F ls.length s] 162):=⟨_,rfl⟩;have yT:=(AJ J).2.1;have A:=(AJ J).1;have Z4:=(AJ J).2.2;have yN:w.heap.size+1<=y.heap.size:=by have:=N.size;omega
 have zJ:=M.size;have yO:=z.size;have yK:m<y.heap.size:=hM.lt;have B4:Below w.heap.size w E:=(n.trans (B3.mono n.size)).trans (A.mono (by omega));have zK:Hid (Below j.drew.heap.size j.drew E):=((zF.trans (M.mono (by simp;omega))).trans (z.mono (by simp;omega))).trans (A.mono (by simp;omega));have zR:=Yx (Bb.below X3.o A)
 have Y:Hid (Bs E 191 m ks.length f):=hM.ak (B:=y.heap.size) ((M.trans (z.mono zJ)).trans (A.mono (by omega))) yK;have yC:Hid (E.ownsRow y.heap.size 142 2 (.slice G ps.length t) ps.length (Ab pC ps)):=Ag (Ag zH z) A;have yA:Hid (E.ownsRow H.heap.size 144 3 (.slice F ls.length s) ls.length (Ab lC ls)):=Ag zI A
 have Z:Hid (∀g,(Value.slice G ps.length t).ownBlock=some g->y.heap.size<=g/\g<H.heap.size):=fun g r=>Ac zH r;have X:Hid (∀g,(Value.slice F ls.length s).ownBlock=some g->H.heap.size<=g/\g<h.heap.size):=fun g r=>Ac zI r;have HH:=Yx hH;have zS:=Yx Z4;have yJ:w.heap.size+1<=m/\m<=w.heap.size+3:=by have:=hm;simp at this;omega
 rw[←J];clear J S0 zW S1 S2 S3 X3 HX N U B3 zF M z hM zH zI hH Z4 K0 hm;obtain⟨x0,x1,x2,x3,x4,x5,x6,x7⟩:=zR.o;go_wp2
 go_loopw [25] (fun i wr=>∃(k:Nat) (O:Value),k<=ks.length/\i=Zg k/\Hid (Aa wr h.heap.size [Zg wd,.map (some m),Zg now,Zg given,Zg ae,O,.slice G ps.length t,.slice F ls.length s])/\Hid (wr.ownsRow (h.heap.size+1) 191 8 O ((ks.take k).map (·.sum)).length (AW ((ks.take k).map (·.sum))))/\Below h.heap.size E wr) (fun i _=>ks.length -(intOf i).toNat)
 case atStart=>exact⟨0,_,Nat.zero_le _,rfl,zS,⟨rfl,.inl ⟨rfl,rfl⟩⟩,Below.refl _ _⟩
 case round=>
  clear x0 x1 x2 x3 x4 x5 x6 x7 zS;obtain⟨k,O,yQ,rfl,HZ,Q,c⟩:=hrel;obtain⟨x0,x1,x2,x3,x4,x5,x6,x7⟩:=Bb.ak zR.o c (by omega);have yV:h.heap.size+1<=wr.heap.size:=by have:=c.size;omega
  by_cases hlt:k<ks.length
  ·obtain⟨b,yW,ha,hb,hc⟩:=(BF.below C.o.k (B4.trans (c.mono (by omega)))).at hlt;subst ha;have HG:Hid (ks[k]?=some ks[k]):=Zv hlt;obtain⟨c0,c1,c2,ra,rc,c3,_⟩:=hc k _ HG.o;have yP:b<wr.heap.size:=by omega
   have HN:Hid ((ks.take (k+1)).map (·.sum)=(ks.take k).map (·.sum)++[ks[k].sum]):=by show _=_;rw[Zu hlt,List.map_append];rfl
   have yR:((ks.take k).map (·.sum)).length<=600:=by simp;omega
   clear hc;generalize ks[k]=x at *
   generalize (ks.take k).map (·.sum)=Os at *
   obtain⟨u,K⟩:∃W,W=wr.alloc (.cells #[.string x.sum,Zg x.born,.string x.text,.slice ra x.refs.length rc] 137):=⟨_,rfl⟩;have yU:=(AJ K).2.1;have b5:=(AJ K).1;have Z5:=(AJ K).2.2;have yB:=Yx Q.o;have zN:=Yx (Ag Q.o b5);have zB:=Yx (Aa.below HZ.o b5);have zM:Hid (Below h.heap.size E u):=c.trans (b5.mono (by omega))
   have P5:u.drew.cell? (Ze (h.heap.size) 5)=some O/\u.drew.cell? (Ze (wr.heap.size) 0)=some (.string x.sum):=⟨(zB.o 5 _ rfl).1,(Z5 0 _ rfl).1⟩;have D5:Below u.heap.size u u.drew:=(Below.refl _ _).drew;have zP:=Yx K;clear K Z5 Q HZ;go_upto_region 5 with fail;rw[←zP.o];clear zP x0 x1 x2 x3 x4 x5 x6 x7 c0 c1 c2 c3;obtain⟨zC,zE⟩:=P5
   have zG:∀g,O.ownBlock=some g->h.heap.size+1<=g/\g<wr.heap.size:=fun g r=>Ac yB.o r;have yS:wr.heap.size≠h.heap.size:=by omega
   go_region_law (first
    |(go_simp;go_at_call 156;refine(LI x.sum u.drew).mono ?_;rintro e T ⟨rfl,zX⟩;have v:Below u.heap.size u T:=D5.trans zX;have yD:T.cell? (Ze (h.heap.size) 5)=some O:=(v.cell (p:=⟨h.heap.size,5,none⟩) (by simp;omega)).trans zC;have zT:T.cell? (Ze (wr.heap.size) 0)=some (.string x.sum):=(v.cell (p:=⟨wr.heap.size,0,none⟩) (by simp;omega)).trans zE;have b7:Below u.heap.size u (T.alloc (GS x.sum)):=v.alloc v.size _;have zU:(T.alloc (GS x.sum)).cell? (Ze (h.heap.size) 5)=some O:=(b7.cell (p:=⟨h.heap.size,5,none⟩) (by simp;omega)).trans zC;have zV:(T.alloc (GS x.sum)).cell? (Ze (wr.heap.size) 0)=some (.string x.sum):=(b7.cell (p:=⟨wr.heap.size,0,none⟩) (by simp;omega)).trans zE;have z6:=v.size;obtain⟨g8,c8,w8,hr8,ho8,hg8,ha8⟩:=YX T (h.heap.size+1) O Os (Ag zN.o v) x.sum (by omega) (by omega) 160;have Z6:=Aa.below zB.o v;unfold GS at hr8 zU zV;go_wp2_with fail)
    |(refine BP (by rfl) (.tmp 33) (.tmp 37) 160 160 (by rfl) (by rfl) (by rfl) hr8 ?_;have yF:w8.cell? (Ze (wr.heap.size) 0)=some (.string x.sum):=hg8.cell zT (fun e=>by have:=(zG _ e.symm).2;simp at this);have Z8:Aa w8 h.heap.size _:=(Aa.same Z6 (hg8.block h.heap.size (by omega) (fun e=>by have:=(zG _ e.symm).1;omega)));have yE:=(Z8 5 _ rfl).1;have F8:=(Z8 5 _ rfl).2))
   all_goals
    have zY:Below h.heap.size E w8:=(zM.o.trans (v.mono (by omega))).grown hg8 (by omega) (fun g r=>by have:=(zG g r).1;omega);have zA:=Yx (Zn Z8 (Zn zY ho8));clear Z8 zY ho8 hg8 hr8 Z6 v b7 zX zN zB zM zC zE yD zT zU zV yE yF F8 ha8 D5 b5;go_wp2;refine⟨⟨k+1,Za g8 (Os.length+1) c8,by omega,by go_num,?_,?_,?_⟩,by simp[intOf];omega⟩
    ·exact Aa.set zA.o.1 5 _
    ·rw[HN.o];exact ownsRow_setCell_below zA.o.2.2 (by simp<;>omega) _
    ·exact zA.o.2.1.setCell (by simp) _
  ·obtain rfl:k=ks.length:=by omega
   rw[Zt (Zx)]at Q;go_wp2;have yG:(vB h.heap.size m O (.slice G ps.length t) (.slice F ls.length s)).Nodup:=by
    have hO:∀g,O.ownBlock=some g->h.heap.size+1<=g:=fun g r=>(Ac Q.o r).1;have hP:∀g,(Value.slice G ps.length t).ownBlock=some g->y.heap.size<=g/\g<H.heap.size:=Z.o;have hL:∀g,(Value.slice F ls.length s).ownBlock=some g->H.heap.size<=g/\g<h.heap.size:=X.o;unfold vB;generalize (Value.slice G ps.length t).ownBlock=bp at *
    generalize (Value.slice F ls.length s).ownBlock=bl at *
    generalize O.ownBlock=bo at *
    cases bo<;>cases bp<;>cases bl<;>simp_all<;>omega
   have hV:∀q∈vB h.heap.size m O (.slice G ps.length t) (.slice F ls.length s),w.heap.size+1<=q:=by
    intro q o;unfold vB at o;simp only[List.mem_cons,List.mem_append,Option.mem_toList]at o;rcases o with rfl|rfl|o|o|o
    ·omega
    ·omega
    ·have:=(Ac Q.o o).1;omega
    ·have:=(Z.o _ o).1;omega
    ·have:=(X.o _ o).1;omega
   go_ret;refine⟨_,rfl,m,⟨O,_,_,⟨HZ.o,⟨ks.length,f,by omega,Y.o.ak c (by omega),?_⟩,?_,?_,?_,by omega,by omega,yG⟩⟩,⟨ks.length,f,by omega,Y.o.ak c (by omega),?hu,by omega⟩,⟨⟨ks.length,f,hk,Y.o.ak c (by omega)⟩,yJ.2⟩,B4.trans (c.mono (by omega))⟩
   ·have o:j.drew.heap.size=w.heap.size+1:=zZ;rw[←o];exact Cb.of HH.o (zK.o.trans (c.mono (by simp;omega))) (fun q o=>by have:=hV q o;simp;omega) ⟨m,rfl,by rw[o];omega⟩
   ·have:=Q.o;rw[List.length_map]at this;exact this.mono (by omega)
   ·refine World.ownsRow.mono ?_ (show w.heap.size+1<=y.heap.size by omega);exact NR yC.o c (fun g r=>by have:=(Z.o g r).2;omega)
   ·refine World.ownsRow.mono ?_ (show w.heap.size+1<=H.heap.size by omega);exact NR yA.o c (fun g r=>by have:=(X.o g r).2;omega)
   case hu=>
    have o:j.drew.heap.size=w.heap.size+1:=zZ;rw[←o];exact Holds.low HH.o (zK.o.trans (c.mono (by simp;omega)))
section
def NS(w:Zh)(b:Nat):Prop:=∀cur fz,w.heap[b]?≠some (.cells cur 9 fz)
theorem DE.move{w w':Zh}{base:Nat}{U V j:List Nat}{a:Zk}{o:Zl}(h:DE w base V a o)(l:Tn U w w')(t:∀b∈U,b∈V∨(base<=b/\NS w b))(u:∀b∈j,b∈V∨w.heap.size<=b)(y:j[1]?=V[1]?:=by rfl):DE w' base j a o:=by
 rcases h with h|⟨b,g,v,k,n,c,x⟩
 ·exact .inl h
 ·have q:b∉U:=fun e=>by
   rcases t b e with e|⟨A,r⟩
   ·exact n e
   ·rcases c with c|⟨_,p,c⟩
    ·omega
    ·exact r p _ c
  have f:=l.block b k q;refine .inr ⟨b,g,v,Zr k l.size,fun e=> ?_,(by rw[f];unfold Uh;rw[y];exact c),fun i s z=>(World.cell?_of_block (a:=⟨b,g+i,none⟩) f).trans (x i s z)⟩;rcases u b e with e|e
  ·exact n e
  ·omega
theorem Cb.move{w w':Zh}{base:Nat}{U V a:List Nat}{wd:Int}{ks:List Kd}{f:Lit->Option Value}(h:Cb w base V wd ks f)(o:Tn U w w')(j:∀b∈U,b∈V∨(base<=b/\NS w b))(k:∀b∈a,b∈V∨w.heap.size<=b)(l:a[1]?=V[1]?:=by rfl):Cb w' base a wd ks f:=by
 intro s n;rcases h s n with h|⟨u,p,q,c,e,g,i⟩
 ·exact .inl h
 ·exact .inr ⟨u,p,q,c,e,g,i.move o j k l⟩
structure DU (w:Zh) (base d m:Nat) (O P L:Value) (wd now given ae:Int) (ks:List Kd) (ps:List Pd) (ls:List Ld):Prop where
 dr:Dr w base d m O P L wd now given ae ks ps ls
variable {w w':Zh} {base d m:Nat} {O P L:Value} {wd now given ae:Int} {ks:List Kd} {ps:List Pd} {ls:List Ld}
theorem DU.lo(h:DU w base d m O P L wd now given ae ks ps ls):base<=w.heap.size:=by have:=h.dr.bd;have:=h.dr.box.lt;omega
theorem DU.al{V:List Nat}(h:DU w base d m O P L wd now given ae ks ps ls)(k:Tn V w w')(j:∀b∈V,base<=b/\b∉vB d m O P L/\NS w b):DU w' base d m O P L wd now given ae ks ps ls:=by
 have l:=h.dr.cf;have i:∀b∈vB d m O P L,w'.heap[b]?=w.heap[b]?:=fun b a=>k.block b (l b a) (fun e=>(j b e).2.1 a);obtain⟨n,f,o,p,q⟩:=h.dr.map;have h:=h.dr
 exact⟨⟨Aa.same h.box (i d (by simp[vB])),⟨n,f,o,Bs.same p (i m (by simp[vB])),q.move k (fun b a=> .inr ⟨(j b a).1,(j b a).2.2⟩) (fun b a=> .inl a)⟩,Ak h.ord (fun g c=>i g (by simp[vB,c])),Ak h.cl (fun g c=>i g (by simp[vB,c])),Ak h.ci (fun g c=>i g (by simp[vB,c])),h.bd,h.bm,h.ap⟩⟩
theorem DU.below(h:DU w base d m O P L wd now given ae ks ps ls)(a:Zz w w'):DU w' base d m O P L wd now given ae ks ps ls:=
 h.al (V:=[]) (Tn.of a) (by simp)
theorem Wr{d m n:Nat}{O P L a:Option Nat}(h:(d::m::(O.toList++(P.toList++L.toList))).Nodup)(e:∀b∈d::m::(O.toList++(P.toList++L.toList)),b<n)(c:a=L∨∃g,a=some g/\n<=g):(d::m::(O.toList++(P.toList++a.toList))).Nodup:=by
 rcases c with rfl|⟨g,rfl,f⟩
 ·exact h
 ·cases O<;>cases P<;>cases L<;>simp_all<;>grind
theorem Ws{d m n:Nat}{O P L a:Option Nat}(h:(d::m::(O.toList++(P.toList++L.toList))).Nodup)(e:∀b∈d::m::(O.toList++(P.toList++L.toList)),b<n)(c:a=P∨∃g,a=some g/\n<=g):(d::m::(O.toList++(a.toList++L.toList))).Nodup:=by
 rcases c with rfl|⟨g,rfl,f⟩
 ·exact h
 ·cases O<;>cases P<;>cases L<;>simp_all<;>grind
theorem Dp{d m:Nat}{O P L:Option Nat}(h:(d::m::(O.toList++(P.toList++L.toList))).Nodup):d≠m/\(∀g,O=some g->g≠d/\g≠m/\P≠some g/\L≠some g)/\(∀g,P=some g->g≠d/\g≠m/\L≠some g)/\(∀g,L=some g->g≠d/\g≠m):=by cases O<;>cases P<;>cases L<;>simp_all<;>grind
theorem DU.gh(h:DU w base d m O P L wd now given ae ks ps ls)(p:Tn (d::L.ownBlock.toList) w w'){k:Value}{o:List Ld}{j a:Int}(q:Aa w' d [Zg wd,.map (some m),Zg j,Zg a,Zg ae,O,P,k])(z:w'.ownsRow base 144 3 k o.length (Ab lC o))(c:k.ownBlock=L.ownBlock∨∃g,k.ownBlock=some g/\w.heap.size<=g):DU w' base d m O P k wd j a ae ks ps o:=by
 obtain⟨u,r,s,v⟩:=Dp h.dr.ap;obtain⟨n,f,A,t,B⟩:=h.dr.map;have x:∀b∈d::L.ownBlock.toList,b∈vB d m O P L:=by
  intro b c;unfold vB;rcases List.mem_cons.1 c with rfl|c
  ·simp
  ·simp only[List.mem_cons,List.mem_append];exact .inr (.inr (.inr (.inr c)))
 have y:∀b∈vB d m O P k,b∈vB d m O P L∨w.heap.size<=b:=by
  intro b l;unfold vB at l ⊢;simp only[List.mem_cons,List.mem_append]at l ⊢;rcases l with e|e|e|e|e
  ·exact .inl (.inl e)
  ·exact .inl (.inr (.inl e))
  ·exact .inl (.inr (.inr (.inl e)))
  ·exact .inl (.inr (.inr (.inr (.inl e))))
  ·rcases c with c|⟨g,i,C⟩
   ·rw[c]at e;exact .inl (.inr (.inr (.inr (.inr e))))
   ·rw[i]at e;simp at e;exact .inr (by omega)
 refine⟨⟨q,⟨n,f,A,Bs.same t (p.block m t.lt (fun e=> ?_)),B.move p (fun b c=> .inl (x b c)) y⟩,Ak h.dr.ord (fun g i=>p.block g (Ac h.dr.ord i).2 (fun e=> ?_)),Ak h.dr.cl (fun g i=>p.block g (Ac h.dr.cl i).2 (fun e=> ?_)),z,h.dr.bd,h.dr.bm,Wr h.dr.ap h.dr.cf c⟩⟩
 ·rcases List.mem_cons.1 e with e|e
  ·exact u e.symm
  ·exact(v m (by simpa using e)).2 rfl
 ·rcases List.mem_cons.1 e with e|e
  ·exact(r g i).1 e
  ·exact(r g i).2.2.2 (by simpa using e)
 ·rcases List.mem_cons.1 e with e|e
  ·exact(s g i).1 e
  ·exact(s g i).2.2 (by simpa using e)
theorem DU.gj(h:DU w base d m O P L wd now given ae ks ps ls)(l:Tn (d::P.ownBlock.toList) w w'){i:Value}{k:List Pd}(o:Aa w' d [Zg wd,.map (some m),Zg now,Zg given,Zg ae,O,i,L])(x:w'.ownsRow base 142 2 i k.length (Ab pC k))(a:i.ownBlock=P.ownBlock∨∃g,i.ownBlock=some g/\w.heap.size<=g):DU w' base d m O i L wd now given ae ks k ls:=by
 obtain⟨s,p,q,t⟩:=Dp h.dr.ap;obtain⟨n,f,y,r,z⟩:=h.dr.map;have u:∀b∈d::P.ownBlock.toList,b∈vB d m O P L:=by
  intro b a;unfold vB;rcases List.mem_cons.1 a with rfl|a
  ·simp
  ·simp only[List.mem_cons,List.mem_append];exact .inr (.inr (.inr (.inl a)))
 have v:∀b∈vB d m O i L,b∈vB d m O P L∨w.heap.size<=b:=by
  intro b j;unfold vB at j ⊢;simp only[List.mem_cons,List.mem_append]at j ⊢;rcases j with e|e|e|e|e
  ·exact .inl (.inl e)
  ·exact .inl (.inr (.inl e))
  ·exact .inl (.inr (.inr (.inl e)))
  ·rcases a with a|⟨g,c,A⟩
   ·rw[a]at e;exact .inl (.inr (.inr (.inr (.inl e))))
   ·rw[c]at e;simp at e;exact .inr (by omega)
  ·exact .inl (.inr (.inr (.inr (.inr e))))
 refine⟨⟨o,⟨n,f,y,Bs.same r (l.block m r.lt (fun e=> ?_)),z.move l (fun b a=> .inl (u b a)) v⟩,Ak h.dr.ord (fun g c=>l.block g (Ac h.dr.ord c).2 (fun e=> ?_)),x,Ak h.dr.ci (fun g c=>l.block g (Ac h.dr.ci c).2 (fun e=> ?_)),h.dr.bd,h.dr.bm,Ws h.dr.ap h.dr.cf a⟩⟩
 ·rcases List.mem_cons.1 e with e|e
  ·exact s e.symm
  ·exact(q m (by simpa using e)).2.1 rfl
 ·rcases List.mem_cons.1 e with e|e
  ·exact(p g c).1 e
  ·exact(p g c).2.2.1 (by simpa using e)
 ·rcases List.mem_cons.1 e with e|e
  ·exact(t g c).1 e
  ·exact(q g (by simpa using e)).2.2 c
theorem Ih{A:Type}(c:A->Zj)(a b:List A):Ab c (a++b)=Ab c a++Ab c b:=by unfold Ab;simp
theorem Hb{a b:Int}(f:0<=a)(c:a<=1000000000)(g:0<=b)(e:b<=1000000000):IntKind.i64.wrap (a+b)=a+b:=by simp[IntKind.wrap,IntKind.bits,IntKind.signed];omega
theorem Nz(w:Zh)(base:Nat)(v:Value)(ls:List Ld)(t:w.ownsRow base 144 3 v ls.length (Ab lC ls))(x:Ld)(s:ls.length<=1000000)(h:base<=w.heap.size)(i:TypeId):
 ∃g a w',(Builtin.append_ #[41,41] i #[v,Za w.heap.size 1 1]).run prog (w.alloc (.cells #[Zg x.num,.string x.sum,Zg x.bf] 144))=.ok (Za g (ls.length+1) a) w'/\w'.ownsRow base 144 3 (Za g (ls.length+1) a) (ls++[x]).length (Ab lC (ls++[x]))/\w.grownBy w' v.ownBlock/\(v.ownBlock=some g∨g=w.heap.size+1):=by
 obtain⟨z,r,l,n,o⟩:=info_parts Gm;have k:=Ag t ((Below.refl _ _).alloc (Zx) (.cells #[Zg x.num,.string x.sum,Zg x.bf] 144));have q:∀j u,(Ab lC [x])[j]?=some u->(w.alloc (.cells #[Zg x.num,.string x.sum,Zg x.bf] 144)).cell? ((⟨w.heap.size,0,none⟩:Addr).add j)=some u:=by intro j u c;rw[Go.WideShapes.add_plain,Nat.zero_add];exact(Aa.new w [Zg x.num,.string x.sum,Zg x.bf] 144 j u (by simpa [Ab,lC]using c)).1
 obtain⟨A,w',y,f,p,_,b⟩:=run_append_own_at (P:=prog) (w.alloc (.cells #[Zg x.num,.string x.sum,Zg x.bf] 144)) base 41 i 144 z _ 3 32 underlying41 r l n o rfl (by decide) v ls.length (Ab lC ls) k ⟨w.heap.size,0,none⟩ 1 1 (Ab lC [x]) (by simp[Ab,lC]) q (by intro u c;simp[Ab,lC]at c;rcases c with rfl|rfl|rfl<;>rfl) (by unfold maxLen;omega) (by omega) (by simp;omega)
 obtain⟨g,a,rfl,_,_⟩:=Cp f (fun e=>by subst e;rcases f.2 with⟨_,s⟩|⟨_,_,_,e,_⟩<;>first|omega|cases e);refine⟨g,a,w',y,?_,(World.grownBy_alloc w _ _).trans p,?_⟩
 ·rw[Ih,List.length_append];exact f
 ·rcases b with b|b
  ·exact .inl b.symm
  ·right;simpa [Value.ownBlock]using b
theorem Oe(base d m:Nat)(O P L:Value)(wd now given ae:Int)(ks:List Kd)(ps:List Pd)(ls:List Ld)(s:Zi)(a:Int)(w:Zh)(h:DU w base d m O P L wd now given ae ks ps ls)(J:∀k∈ks,(k.sum.size:Int)=wd)(K:Ay ks s)(hl:ls.length<200)(zH:0<=given)(zI:given<1000000000)(zC:0<=now)(zE:now<=1000000000)(zF:0<=a)(zG:a<=1000000000):
 Calls prog 175 #[Yz d,.string s,Zg a] w fun e w'=>e=.returned (Zg (given+1))/\∃M,DU w' base d m O P M wd now (given+1) ae ks ps (ls++[⟨given+1,s,now+a⟩])/\Tn (d::L.ownBlock.toList) w w':=by
 have HN:=Yx (Ez base d m O P L wd now given ae ks ps ls s w h.dr J K);have Q:Hid (DU w base d m O P L wd now given ae ks ps ls):=h;have zK:((ls.length:Int)==200)=false:=by simp;omega
 have zJ:(given==1000000000)=false:=by simp;omega
 clear h J K;go_enter func175,ntmps175;go_wp2_with fail;refine Calls.mono HN.o ?_;rintro e q ⟨rfl,y⟩;have j:=Q.o.below y;obtain⟨l,i,Z⟩:=Ar j.dr.ci;subst Z;obtain⟨c2,_⟩:=j.dr.box 2 _ rfl;obtain⟨c3,f3⟩:=j.dr.box 3 _ rfl;obtain⟨c7,_⟩:=j.dr.box 7 _ rfl;obtain⟨X,A⟩:∃X,X=q.setCell (Ze d 3) (Zg (given+1)):=⟨_,rfl⟩;have r:Tn [d] q X:=by rw[A];exact EA _ _ _ _
 have o:Aa X d [Zg wd,.map (some m),Zg now,Zg (given+1),Zg ae,O,P,.slice l ls.length i]:=by rw[A];exact j.dr.box.set 3 _
 have x:∀g,(Value.slice l ls.length i).ownBlock=some g->g≠d:=fun g t=>((Dp j.dr.ap).2.2.2 g t).1;have H:X.ownsRow base 144 3 (.slice l ls.length i) ls.length (Ab lC ls):=Ak j.dr.ci (fun g t=>r.block g (Ac j.dr.ci t).2 (by simp;exact x g t));have F:d<X.heap.size:=o.lt;have B:base<=X.heap.size:=Zm j.lo r.size
 obtain⟨f,c,n,p,I,z,G⟩:=Nz X.drew base _ ls (Ag H ((Below.refl _ _).drew)) ⟨given+1,s,now+a⟩ (by omega) B 41;dsimp only at p;replace p:(Builtin.append_ #[41,41] 41 #[.slice l ls.length i,Za X.heap.size 1 1]).run prog (X.alloc (.cells #[Zg (given+1),.string s,Zg (now+a)] 144)).drew=.ok (Za f (ls.length+1) c) n:=p;have zM:IntKind.i64.wrap (now+a)=now+a:=Hb zC zE zF zG
 have E:Below X.heap.size X (X.drew.alloc (.cells #[Zg (given+1),.string s,Zg (now+a)] 144)):=(Below.refl _ _).drew.alloc (Zx) _;have D:=o.below E;have R:=Yx A;have H1:Hid (DU q base d m O P (.slice l ls.length i) wd now given ae ks ps ls):=j;have V:Hid (Zz w q):=y
 have v:Aa n d [Zg wd,.map (some m),Zg now,Zg (given+1),Zg ae,O,P,.slice l ls.length i]:=Aa.same o (z.block d (by simpa using F) (fun e=>x d e.symm rfl))
 have u:Hid (n.ownsRow base 144 3 (Za f (ls.length+1) c) (ls++[(⟨given+1,s,now+a⟩:Ld)]).length (Ab lC (ls++[(⟨given+1,s,now+a⟩:Ld)]))/\X.drew.grownBy n (Value.slice l ls.length i).ownBlock/\((Value.slice l ls.length i).ownBlock=some f∨f=X.drew.heap.size+1)):=⟨I,z,G⟩;have U:Hid (Aa n d [Zg wd,.map (some m),Zg now,Zg (given+1),Zg ae,O,P,.slice l ls.length i]):=v;have C:Hid (Tn [d] q X):=r
 have Y:Hid (d<X.heap.size):=F;clear A j y HN Q r H I z G;go_upto_region 5 with fail;rw[←R.o];clear R c2 c3 c7 f3;obtain⟨c2,c3,c7⟩:=Aa.c3 o 2 3 7;obtain⟨a2,a3,a7⟩:=Aa.c3 D 2 3 7;obtain⟨e7,f7⟩:=v 7 _ rfl;clear o D v E
 go_region_law (first
  |(refine BP (by rfl) (.tmp 36) (.tmp 49) 41 41 (by rfl) (by rfl) (by rfl) p ?_))
 all_goals
  clear p c2 c3 c7 a2 a3 a7;have N:=U.o.set 7 (Za f (ls.length+1) c);have z3:=(N 3 _ rfl).1;have z7:X.heap.size<=n.heap.size:=by have:=u.o.2.1.size;simpa using this
  have W:Hid (Aa (n.setCell (Ze d 7) (Za f (ls.length+1) c)) d [Zg wd,.map (some m),Zg now,Zg (given+1),Zg ae,O,P,Za f (ls.length+1) c]):=N;clear N;have S:∃M,DU (n.setCell (Ze d 7) (Za f (ls.length+1) c)) base d m O P M wd now (given+1) ae ks ps (ls++[(⟨given+1,s,now+a⟩:Ld)])/\Tn (d::(Value.slice l ls.length i).ownBlock.toList) w (n.setCell (Ze d 7) (Za f (ls.length+1) c)):=by
   have T:Tn (d::(Value.slice l ls.length i).ownBlock.toList) q (n.setCell (Ze d 7) (Za f (ls.length+1) c)):=
    ((C.o.mono (by simp)).trans ((Tn.of ((Below.refl _ _).drew)).trans ((CG u.o.2.1).mono (fun b hb=>List.mem_cons_of_mem _ hb)))).trans ((EA n d 7 _).mono (by simp))
   have zB:∀g,(Za f (ls.length+1) c).ownBlock=some g->g≠d:=fun g t=>by
    obtain rfl:f=g:=by simpa [Value.ownBlock]using t
    rcases u.o.2.2 with e|e
    ·exact x f e
    ·have h1:f=X.heap.size+1:=e;have h2:=Y.o;omega
   have zA:(Za f (ls.length+1) c).ownBlock=(Value.slice l ls.length i).ownBlock∨∃g,(Za f (ls.length+1) c).ownBlock=some g/\q.heap.size<=g:=by
    rcases u.o.2.2 with e|e
    ·exact .inl e.symm
    ·exact .inr ⟨f,rfl,by have h1:f=X.heap.size+1:=e;have:=C.o.size;omega⟩
   exact⟨_,H1.o.gh T W.o (Bv u.o.1 zB 7 _) zA,(Tn.of V.o).trans T⟩
  have HK:=Yx S;clear S;go_wp2;go_ret;exact⟨rfl,HK.o⟩
end
theorem Ko{A:Type}{c:A->Zj}{n:Nat}{e:TypeId}(j:∀x,(c x).length=n){w:Zh}{base g b:Nat}{a:List A}(h:w.ownsRow base e n (Za g a.length b) a.length (Ab c a))(i:Nat)(f:i<=a.length):w.ownsRow base e n (Za g i b) i (Ab c (a.take i)):=by
 refine⟨by rw[BC j,List.length_take];congr 1;omega,?_⟩;rcases h.2 with⟨e,_⟩|⟨t,l,k,e,r,s,u,o,p,q⟩
 ·cases e
 ·cases e;refine .inr ⟨g,b,k,rfl,r,s,by omega,o,p,?_⟩;rw[←FN j a i f,←q,List.take_take];congr 1;exact(Nat.min_eq_left (Nat.mul_le_mul_right n f)).symm
theorem Wt(w:Zh):(zeroValue 142).run prog w=.ok (.agg #[Zd,Zd]) w:=by kernel_rfl
theorem MW(w:Zh)(k:TypeId)(b o c:Nat)(h:∀j,j<2->(w.cell? (Ze b (o+j))).isSome=true)(i:∀j,j<2->w.frozen? ⟨b,o+j,none⟩=false):
 (Builtin.clear_ #[40] k #[.slice (some ⟨b,o,none⟩) 1 c]).run prog w=.ok (.tuple #[]) (w.setCells b o [Zd,Zd]):=by
 have f:(Builtin.zeroCells (Value.agg #[Zd,Zd]).cells 1).toList=[Zd,Zd]:=by kernel_rfl
 have a:=run_storeCells_cells (P:=prog) b o [Zd,Zd] 0 w (by simpa using h) (by simpa using i) (by intro v e;simp at e;rcases e with rfl|rfl<;>rfl);simp only[Nat.add_zero]at a;have g:=Wt;simp[Builtin.clear_,run_underlying underlying40,g,f,a]
theorem MZ(g b i:Nat)(a:List Pd)(w:Zh)(base:Nat)(t:w.ownsRow base 142 2 (Za g a.length b) a.length (Ab pC a))(hl:a.length<=600)(hi:i<a.length):
 Calls prog 207 #[Za g a.length b,Zg i,Zg ((i:Int)+1)] w fun e w'=>e=.returned (Za g (a.length -1) b)/\w'.ownsRow base 142 2 (Za g (a.length -1) b) (a.length -1) (Ab pC (a.eraseIdx i))/\w.grownBy w' (some g):=by
 obtain⟨N,q,W,G,X⟩:=info_parts GM;have p:a.length<=b/\b<=maxLen:=by
  rcases t.2 with⟨e,_⟩|⟨I,o,D,e,M,B,y,z,J,K⟩
  ·cases e
  ·cases e;exact⟨y,z⟩
 obtain⟨Q,E⟩:=p;unfold maxLen at E;have hcut:=Ko BU t i (by omega);obtain⟨A,hA,f⟩:∃A,(if b=i+1 then some (⟨g,0,none⟩:Addr)else some ⟨g,(i+1) *2,none⟩)=some A/\∀j u,(Ab pC (a.drop (i+1)))[j]?=some u->w.drew.cell? (A.add j)=some u:=by
  by_cases h:b=i+1
  ·refine⟨⟨g,0,none⟩,by rw[if_pos h],fun j u l=> ?_⟩;rw[List.drop_of_length_le (by omega)]at l;simp[Ab]at l
  ·refine⟨⟨g,(i+1) *2,none⟩,by rw[if_neg h],fun j u l=> ?_⟩;rw[Go.WideShapes.add_plain];rw[←Fi BU a (i+1) (by omega),List.getElem?_drop]at l;have F:=(Zw l).1;rw[BC BU]at F;exact(t.cellAt _ (by omega)).trans l
 obtain⟨v,C,c,k⟩:=run_append_fits (P:=prog) w.drew base 40 40 142 N 2 underlying40 q G g i b (Ab pC (a.take i)) hcut A (a.length -(i+1)) (b -(i+1)) (Ab pC (a.drop (i+1))) (by rw[BC BU,List.length_drop]) f (Jc _) (by omega);rw[←Bt,show i+(a.length -(i+1))=a.length -1 by omega]at c;rw[show i+(a.length -(i+1))=a.length -1 by omega]at C;have r:=(List.eraseIdx_eq_take_drop_succ a i).symm;rw[r]at c
 have x:=Yx (Zn c k);clear f c hcut r;go_enter func207,ntmps207;have R:¬((i:Int)==(i:Int)+1)=true:=by simp;omega
 have S:i<=b:=by omega
 have T:(0:Int)<=(i:Int)+1:=by omega
 have U:(i:Int)+1<=(a.length:Int):=by omega
 have V:((i:Int)+1).toNat=i+1:=by omega
 go_upto_region 5 with fail
 go_region_law (first
  |(refine BP (by rfl) (.tmp 22) (.tmp 25) 40 40 (by rfl) (by rfl) (by simp[Act.eval,Act.put]) C ?_))
 all_goals
  have s:∀j,j<2->(v.cell? (Ze g ((a.length -1) *2+j))).isSome=true/\v.frozen? ⟨g,(a.length -1) *2+j,none⟩=false:=fun j n=>by
   obtain⟨c,k⟩:=x.o;rcases c.2 with⟨e,_⟩|⟨I,o,D,e,M,B,y,z,J,K⟩
   ·cases e
   ·cases e;constructor
    ·simp only[World.cell?,B];rw[Array.getElem?_eq_getElem (by omega)];rfl
    ·exact c.frozenAt _
  have H:=MW v 0 g ((a.length -1) *2) (b -(a.length -1)) (fun j n=>(s j n).1) (fun j n=>(s j n).2);have Y:a.length -(a.length -1)=1:=by omega
  have Z:¬b=a.length -1:=by omega
  have e3:a.length -1<=a.length:=by omega
  go_wp2;go_ret;obtain⟨c,k⟩:=x.o;exact⟨rfl,Ha _ _ _ c (Zx),Aw (Dn k) (Cl g _ _ _)⟩
theorem Mx(w:Zh):(zeroValue 144).run prog w=.ok (.agg #[Zf,Zd,Zf]) w:=by kernel_rfl
theorem La(w:Zh)(k:TypeId)(b o c:Nat)(h:∀j,j<3->(w.cell? (Ze b (o+j))).isSome=true)(i:∀j,j<3->w.frozen? ⟨b,o+j,none⟩=false):
 (Builtin.clear_ #[41] k #[.slice (some ⟨b,o,none⟩) 1 c]).run prog w=.ok (.tuple #[]) (w.setCells b o [Zf,Zd,Zf]):=by
 have f:(Builtin.zeroCells (Value.agg #[Zf,Zd,Zf]).cells 1).toList=[Zf,Zd,Zf]:=by kernel_rfl
 have a:=run_storeCells_cells (P:=prog) b o [Zf,Zd,Zf] 0 w (by simpa using h) (by simpa using i) (by intro v e;simp at e;rcases e with rfl|rfl|rfl<;>rfl);simp only[Nat.add_zero]at a;have g:=Mx;simp[Builtin.clear_,run_underlying underlying41,g,f,a]
theorem Lb(g b i:Nat)(a:List Ld)(w:Zh)(base:Nat)(t:w.ownsRow base 144 3 (Za g a.length b) a.length (Ab lC a))(hl:a.length<=600)(hi:i<a.length):
 Calls prog 211 #[Za g a.length b,Zg i,Zg ((i:Int)+1)] w fun e w'=>e=.returned (Za g (a.length -1) b)/\w'.ownsRow base 144 3 (Za g (a.length -1) b) (a.length -1) (Ab lC (a.eraseIdx i))/\w.grownBy w' (some g):=by
 obtain⟨N,q,W,G,X⟩:=info_parts Gm;have p:a.length<=b/\b<=maxLen:=by
  rcases t.2 with⟨e,_⟩|⟨I,o,D,e,M,B,y,z,J,K⟩
  ·cases e
  ·cases e;exact⟨y,z⟩
 obtain⟨Q,E⟩:=p;unfold maxLen at E;have hcut:=Ko Cz t i (by omega);obtain⟨A,hA,f⟩:∃A,(if b=i+1 then some (⟨g,0,none⟩:Addr)else some ⟨g,(i+1) *3,none⟩)=some A/\∀j u,(Ab lC (a.drop (i+1)))[j]?=some u->w.drew.cell? (A.add j)=some u:=by
  by_cases h:b=i+1
  ·refine⟨⟨g,0,none⟩,by rw[if_pos h],fun j u l=> ?_⟩;rw[List.drop_of_length_le (by omega)]at l;simp[Ab]at l
  ·refine⟨⟨g,(i+1) *3,none⟩,by rw[if_neg h],fun j u l=> ?_⟩;rw[Go.WideShapes.add_plain];rw[←Fi Cz a (i+1) (by omega),List.getElem?_drop]at l;have F:=(Zw l).1;rw[BC Cz]at F;exact(t.cellAt _ (by omega)).trans l
 obtain⟨v,C,c,k⟩:=run_append_fits (P:=prog) w.drew base 41 41 144 N 3 underlying41 q G g i b (Ab lC (a.take i)) hcut A (a.length -(i+1)) (b -(i+1)) (Ab lC (a.drop (i+1))) (by rw[BC Cz,List.length_drop]) f (Ug _) (by omega);rw[←Bt,show i+(a.length -(i+1))=a.length -1 by omega]at c;rw[show i+(a.length -(i+1))=a.length -1 by omega]at C;have r:=(List.eraseIdx_eq_take_drop_succ a i).symm;rw[r]at c
 have x:=Yx (Zn c k);clear f c hcut r;go_enter func211,ntmps211;have R:¬((i:Int)==(i:Int)+1)=true:=by simp;omega
 have S:i<=b:=by omega
 have T:(0:Int)<=(i:Int)+1:=by omega
 have U:(i:Int)+1<=(a.length:Int):=by omega
 have V:((i:Int)+1).toNat=i+1:=by omega
 go_upto_region 5 with fail
 go_region_law (first
  |(refine BP (by rfl) (.tmp 22) (.tmp 25) 41 41 (by rfl) (by rfl) (by simp[Act.eval,Act.put]) C ?_))
 all_goals
  have s:∀j,j<3->(v.cell? (Ze g ((a.length -1) *3+j))).isSome=true/\v.frozen? ⟨g,(a.length -1) *3+j,none⟩=false:=fun j n=>by
   obtain⟨c,k⟩:=x.o;rcases c.2 with⟨e,_⟩|⟨I,o,D,e,M,B,y,z,J,K⟩
   ·cases e
   ·cases e;constructor
    ·simp only[World.cell?,B];rw[Array.getElem?_eq_getElem (by omega)];rfl
    ·exact c.frozenAt _
  have H:=La v 0 g ((a.length -1) *3) (b -(a.length -1)) (fun j n=>(s j n).1) (fun j n=>(s j n).2);have Y:a.length -(a.length -1)=1:=by omega
  have Z:¬b=a.length -1:=by omega
  have e3:a.length -1<=a.length:=by omega
  go_wp2;go_ret;obtain⟨c,k⟩:=x.o;exact⟨rfl,Ha _ _ _ c (Zx),Aw (Dn k) (Cl g _ _ _)⟩
def DI(x y:Int):Int:=if x<y then -1 else if y<x then 1 else 0
theorem Og(x y:Int):DI x y<0↔x<y:=by unfold DI;split<;>(try split)<;>omega
theorem My(x y:Int):DI x y=0↔x=y:=by unfold DI;split<;>(try split)<;>omega
theorem Oh(x:Int)(w:Zh):Calls prog 230 #[Zg x] w fun e w'=>e=.returned (.bool false)/\w'=w:=by
 have a:(x !=x)=false:=by simp
 go_enter func230,ntmps230;go_wp2;go_ret;exact⟨rfl,rfl⟩
theorem UE(x y:Int)(w:Zh):Calls prog 210 #[Zg x,Zg y] w fun e w'=>e=.returned (Zg (DI x y))/\w'=w:=by
 go_enter func210,ntmps210;go_wp2_with fail;refine(Oh x w).mono ?_;rintro e f ⟨rfl,rfl⟩;go_wp2_with fail;refine(Oh y f).mono ?_;rintro e g ⟨rfl,rfl⟩;by_cases h1:x<y
 ·have c:decide (x<y)=true:=by simpa using h1
  have a:DI x y= -1:=by unfold DI;rw[if_pos h1]
  clear h1;go_wp2;go_ret;exact⟨by rw[a];rfl,rfl⟩
 ·have c:decide (x<y)=false:=by simpa using h1
  by_cases h2:y<x
  ·have b:decide (y<x)=true:=by simpa using h2
   have a:DI x y=1:=by unfold DI;rw[if_neg h1,if_pos h2]
   clear h1 h2;go_wp2;go_ret;exact⟨by rw[a];rfl,rfl⟩
  ·have b:decide (y<x)=false:=by simpa using h2
   have a:DI x y=0:=by unfold DI;rw[if_neg h1,if_neg h2]
   clear h1 h2;go_wp2;go_ret;exact⟨by rw[a];rfl,rfl⟩
def Em(x y:Zi):Int:=if less x y=true then -1 else if x=y then 0 else 1
theorem Oi(x y:Zi):Em x y<0↔less x y=true:=by
 unfold Em;by_cases h:less x y=true
 ·rw[if_pos h];exact⟨fun _=>h,fun _=>by omega⟩
 ·rw[if_neg h];refine⟨fun e=> ?_,fun e=>absurd e h⟩;split at e<;>omega
theorem Jp(x y:Zi):Em x y=0↔x=y:=by
 unfold Em;by_cases h:less x y=true
 ·rw[if_pos h];refine⟨fun e=>by omega,fun e=> ?_⟩;rw[e,Cr]at h;cases h
 ·rw[if_neg h];split
  ·rename_i h2;exact⟨fun _=>h2,fun _=>rfl⟩
  ·rename_i h2;exact⟨fun e=>by omega,fun e=>absurd e h2⟩
theorem Oj(x:Zi)(w:Zh):Calls prog 239 #[.string x] w fun e w'=>e=.returned (.bool false)/\w'=w:=by
 have a:(x.toList !=x.toList)=false:=by simp
 go_enter func239,ntmps239;go_wp2;go_ret;exact⟨rfl,rfl⟩
theorem UF(x y:Zi)(w:Zh):Calls prog 227 #[.string x,.string y] w fun e w'=>e=.returned (Zg (Em x y))/\w'=w:=by
 go_enter func227,ntmps227;go_wp2_with fail;refine(Oj x w).mono ?_;rintro e c ⟨rfl,rfl⟩;go_wp2_with fail;refine(Oj y c).mono ?_;rintro e f ⟨rfl,rfl⟩;cases h1:Op.bytesLess x.toList y.toList with
 |true=>
  have a:Hid (Em x y= -1):=by show _=_;unfold Em less;rw[if_pos h1]
  go_wp2;go_ret;exact⟨by rw[a.o];rfl,rfl⟩
 |false=>
  by_cases h2:x=y
  ·have a:=Yx ((Jp x y).2 h2);have b:(x.toList==y.toList)=true:=by rw[h2];simp
   clear h2;go_wp2;go_ret;exact⟨by rw[a.o];rfl,rfl⟩
  ·have a:Hid (Em x y=1):=by show _=_;unfold Em less;rw[if_neg (by rw[h1];simp),if_neg h2]
   have b:=Ca h2;clear h2;go_wp2;go_ret;exact⟨by rw[a.o];rfl,rfl⟩
theorem Mz(x:Ld)(n:Int)(w:Zh):Calls prog 209 #[.agg #[Zg x.num,.string x.sum,Zg x.bf],Zg n] w fun e w'=>e=.returned (Zg (DI x.num n))/\Zz w w':=by have a:∀o,Zz w (w.alloc o):=fun o=>Zy;go_enter func209,ntmps209;go_wp2_with fail;refine(UE x.num n _).mono ?_;rintro e b ⟨rfl,rfl⟩;go_wp2;go_ret;exact⟨rfl,a _⟩
theorem Lc(x:Pd)(n:Zi)(w:Zh):Calls prog 226 #[.agg #[.string x.name,.string x.sum],.string n] w fun e w'=>e=.returned (Zg (Em x.name n))/\Zz w w':=by have a:∀o,Zz w (w.alloc o):=fun o=>Zy;go_enter func226,ntmps226;go_wp2_with fail;refine(UF x.name n _).mono ?_;rintro e b ⟨rfl,rfl⟩;go_wp2;go_ret;exact⟨rfl,a _⟩
structure Jq (ls:List Ld) (n:Int) (i:Nat):Prop where
 le:i<=ls.length
 lo:∀j x,j<i->ls[j]?=some x->x.num<n
 hi:∀j x,i<=j->ls[j]?=some x->n<=x.num
theorem Hv(g B:Nat)(ls:List Ld)(n:Int)(w:Zh)(base:Nat)(z:w.ownsRow base 144 3 (Za g ls.length B) ls.length (Ab lC ls))(hl:ls.length<=600)(o:ls.Pairwise (fun a b=>a.num<b.num)):
 Calls prog 208 #[Za g ls.length B,Zg n,.func (.func 209) #[] #[]] w fun e w'=>∃i:Nat,e=.returned (.tuple #[Zg i,.bool (decide (∃x,ls[i]?=some x/\x.num=n))])/\Jq ls n i/\Zz w w':=by
 have W:=(Ac z rfl).2;have Z:=Yx z;have J:Hid (∀(X:Zh),Zz w X->∀k x,ls[k]?=some x->X.cell? (Ze g (k *3))=some (Zg x.num)/\X.cell? (Ze g (k *3+1))=some (.string x.sum)/\X.cell? (Ze g (k *3+2))=some (Zg x.bf)):=fun X S k x A=>by have h:=Ag z S;have hk:=(Zw A).1;have l:∀j,j<3->X.cell? (Ze g (k *3+j))=(lC x)[j]?:=fun j F=>(h.cellAt (k *3+j) (by omega)).trans (Bz Cz A F);exact⟨by simpa [lC]using l 0 (by decide),by simpa [lC]using l 1 (by decide),by simpa [lC]using l 2 (by decide)⟩
 have K:=Yx o;clear z o;go_enter func208,ntmps208;have V:=enters_of func209 (by kernel_rfl) rfl;go_wp2
 go_loopw [9,10] (fun i j wr=>∃lo c:Nat,i=Zg lo/\j=Zg c/\lo<=c/\c<=ls.length/\Hid ((∀j x,j<lo->ls[j]?=some x->x.num<n)/\(∀j x,c<=j->ls[j]?=some x->n<=x.num))/\Zz w wr) (fun i j _=>(intOf j).toNat -(intOf i).toNat)
 case atStart=>exact⟨0,ls.length,rfl,rfl,Nat.zero_le _,Zx,⟨fun j x h=>by omega,fun j x h A=>by have:=(Zw A).1;omega⟩,Below.refl _ _⟩
 case round=>
  obtain⟨lo,c,rfl,rfl,Y,C,v,f⟩:=hrel;have D:=f.size;by_cases hlt:lo<c
  ·have u:(lo+c)/2<ls.length:=by omega
   have p:=Yx (Zv u);generalize ls[(lo+c)/2]=x at *
   obtain⟨r0,G,H⟩:=J.o wr f _ _ p.o;go_wp2_with fail;refine(Mz x n wr).mono ?_;rintro e U ⟨rfl,t⟩;have r:=f.trans (t.mono D);clear r0 G H;by_cases l:x.num<n
   ·have T:decide (DI x.num n<0)=true:=by simpa using (Og _ _).2 l
    have s:=Yx l;clear l;generalize DI x.num n=cv at *
    go_wp2;refine⟨⟨(lo+c)/2+1,c,by go_num,rfl,by omega,C,⟨?_,v.o.2⟩,r⟩,by simp[intOf];omega⟩;intro j y F q;rcases Nat.lt_or_ge j ((lo+c)/2)with h|h
    ·have:=List.pairwise_iff_getElem.1 K.o j ((lo+c)/2) (by omega) u h;obtain⟨_,rfl⟩:=Zw q;obtain⟨_,e⟩:=Zw p.o;rw[e]at this;have R:=s.o;omega
    ·obtain rfl:j=(lo+c)/2:=by omega
     rw[p.o]at q;cases q;exact s.o
   ·have T:decide (DI x.num n<0)=false:=by simpa using fun e=>l ((Og _ _).1 e)
    have s:=Yx (Int.not_lt.1 l);clear l;generalize DI x.num n=cv at *
    go_wp2;refine⟨⟨lo,(lo+c)/2,rfl,by go_num,by omega,by omega,⟨v.o.1,?_⟩,r⟩,by simp[intOf];omega⟩;intro j y F q;rcases Nat.lt_or_ge ((lo+c)/2) j with h|h
    ·have M:=(Zw q).1;have:=List.pairwise_iff_getElem.1 K.o ((lo+c)/2) j u M h;obtain⟨_,rfl⟩:=Zw q;obtain⟨_,e⟩:=Zw p.o;rw[e]at this;have R:=s.o;omega
    ·obtain rfl:j=(lo+c)/2:=by omega
     rw[p.o]at q;cases q;exact s.o
  ·obtain rfl:lo=c:=by omega
   have I:Hid (Jq ls n lo):=⟨C,v.o.1,v.o.2⟩;by_cases hn:lo<ls.length
   ·have p:=Yx (Zv hn);generalize ls[lo]=x at *
    obtain⟨r0,G,H⟩:=J.o wr f _ _ p.o;have N:(lo:Int)<ls.length:=by omega
    go_wp2_with fail;refine(Mz x n wr).mono ?_;rintro e U ⟨rfl,t⟩;have r:=f.trans (t.mono D);clear r0 G H;have E:Hid (decide (∃y,ls[lo]?=some y/\y.num=n)=(DI x.num n==0)):=by
     show _=_;rw[p.o];by_cases h:x.num=n
     ·rw[(My x.num n).2 h];simp[h]
     ·have Q:¬DI x.num n=0:=fun e=>h ((My x.num n).1 e);rw[show(DI x.num n==0)=false by simpa using Q];simp[h]
    generalize DI x.num n=cv at *
    go_wp2
    go_ret2
    exact⟨lo,by rw[E.o];first|rfl|simp[Act.put],I.o,r⟩
   ·have E:Hid (decide (∃y,ls[lo]?=some y/\y.num=n)=false):=by show _=_;rw[List.getElem?_eq_none (by omega)];simp
    have N:¬((lo:Int)<ls.length):=by omega
    go_wp2
    go_ret2
    exact⟨lo,by rw[E.o];first|rfl|simp[Act.put],I.o,f⟩
structure DJ (ls:List Pd) (n:Zi) (i:Nat):Prop where
 le:i<=ls.length
 lo:∀j x,j<i->ls[j]?=some x->less x.name n=true
 hi:∀j x,i<=j->ls[j]?=some x->less x.name n=false
theorem IT(g B:Nat)(ls:List Pd)(n:Zi)(w:Zh)(base:Nat)(z:w.ownsRow base 142 2 (Za g ls.length B) ls.length (Ab pC ls))(hl:ls.length<=600)(l:ls.Pairwise (fun a b=>less a.name b.name=true)):
 Calls prog 225 #[Za g ls.length B,.string n,.func (.func 226) #[] #[]] w fun e w'=>∃i:Nat,e=.returned (.tuple #[Zg i,.bool (decide (∃x,ls[i]?=some x/\x.name=n))])/\DJ ls n i/\Zz w w':=by
 have V:=(Ac z rfl).2;have Y:=Yx z;have I:Hid (∀(X:Zh),Zz w X->∀k x,ls[k]?=some x->X.cell? (Ze g (k *2))=some (.string x.name)/\X.cell? (Ze g (k *2+1))=some (.string x.sum)):=fun X R k x A=>by have h:=Ag z R;have Z:=(Zw A).1;have o:∀j,j<2->X.cell? (Ze g (k *2+j))=(pC x)[j]?:=fun j F=>(h.cellAt (k *2+j) (by omega)).trans (Bz BU A F);exact⟨by simpa [pC]using o 0 (by decide),by simpa [pC]using o 1 (by decide)⟩
 have J:=Yx l;clear z l;go_enter func225,ntmps225;have U:=enters_of func226 (by kernel_rfl) rfl;go_wp2
 go_loopw [9,10] (fun i j wr=>∃lo c:Nat,i=Zg lo/\j=Zg c/\lo<=c/\c<=ls.length/\Hid ((∀j x,j<lo->ls[j]?=some x->less x.name n=true)/\(∀j x,c<=j->ls[j]?=some x->less x.name n=false))/\Zz w wr) (fun i j _=>(intOf j).toNat -(intOf i).toNat)
 case atStart=>exact⟨0,ls.length,rfl,rfl,Nat.zero_le _,Zx,⟨fun j x h=>by omega,fun j x h A=>by have:=(Zw A).1;omega⟩,Below.refl _ _⟩
 case round=>
  obtain⟨lo,c,rfl,rfl,W,C,v,f⟩:=hrel;have D:=f.size;by_cases hlt:lo<c
  ·have u:(lo+c)/2<ls.length:=by omega
   have p:=Yx (Zv u);generalize ls[(lo+c)/2]=x at *
   obtain⟨r0,G⟩:=I.o wr f _ _ p.o;go_wp2_with fail;refine(Lc x n wr).mono ?_;rintro e T ⟨rfl,t⟩;have r:=f.trans (t.mono D);clear r0 G;by_cases o:less x.name n=true
   ·have S:decide (Em x.name n<0)=true:=by simpa using (Oi _ _).2 o
    have s:=Yx o;clear o;generalize Em x.name n=cv at *
    go_wp2;refine⟨⟨(lo+c)/2+1,c,by go_num,rfl,by omega,C,⟨?_,v.o.2⟩,r⟩,by simp[intOf];omega⟩;intro j y F q;rcases Nat.lt_or_ge j ((lo+c)/2)with h|h
    ·have:=List.pairwise_iff_getElem.1 J.o j ((lo+c)/2) (by omega) u h;obtain⟨_,rfl⟩:=Zw q;obtain⟨_,e⟩:=Zw p.o;rw[e]at this;exact CD this s.o
    ·obtain rfl:j=(lo+c)/2:=by omega
     rw[p.o]at q;cases q;exact s.o
   ·have S:decide (Em x.name n<0)=false:=by simpa using fun e=>o ((Oi _ _).1 e)
    have s:Hid (less x.name n=false):=by show _=_;simpa using o
    clear o;generalize Em x.name n=cv at *
    go_wp2;refine⟨⟨lo,(lo+c)/2,rfl,by go_num,by omega,by omega,⟨v.o.1,?_⟩,r⟩,by simp[intOf];omega⟩;intro j y F q;rcases Nat.lt_or_ge ((lo+c)/2) j with h|h
    ·have M:=(Zw q).1;have:=List.pairwise_iff_getElem.1 J.o ((lo+c)/2) j u M h;obtain⟨_,rfl⟩:=Zw q;obtain⟨_,e⟩:=Zw p.o;rw[e]at this;have K:=s.o;cases h':less ls[j].name n with
     |false=>rfl
     |true=>rw[CD this h']at K;cases K
    ·obtain rfl:j=(lo+c)/2:=by omega
     rw[p.o]at q;cases q;exact s.o
  ·obtain rfl:lo=c:=by omega
   have H:Hid (DJ ls n lo):=⟨C,v.o.1,v.o.2⟩;by_cases hn:lo<ls.length
   ·have p:=Yx (Zv hn);generalize ls[lo]=x at *
    obtain⟨r0,G⟩:=I.o wr f _ _ p.o;have N:(lo:Int)<ls.length:=by omega
    go_wp2_with fail;refine(Lc x n wr).mono ?_;rintro e T ⟨rfl,t⟩;have r:=f.trans (t.mono D);clear r0 G;have E:Hid (decide (∃y,ls[lo]?=some y/\y.name=n)=(Em x.name n==0)):=by
     show _=_;rw[p.o];by_cases h:x.name=n
     ·rw[(Jp x.name n).2 h];simp[h]
     ·have Q:¬Em x.name n=0:=fun e=>h ((Jp x.name n).1 e);rw[show(Em x.name n==0)=false by simpa using Q];simp[h]
    generalize Em x.name n=cv at *
    go_wp2
    go_ret2
    exact⟨lo,by rw[E.o];first|rfl|simp[Act.put],H.o,r⟩
   ·have E:Hid (decide (∃y,ls[lo]?=some y/\y.name=n)=false):=by show _=_;rw[List.getElem?_eq_none (by omega)];simp
    have N:¬((lo:Int)<ls.length):=by omega
    go_wp2
    go_ret2
    exact⟨lo,by rw[E.o];first|rfl|simp[Act.put],H.o,f⟩
theorem Jr{w:Zh}{base:Nat}{e:TypeId}{size:Nat}{v:Value}{n:Nat}{b:Zj}(h:w.ownsRow base e size v n b)(f:0<n):∃g a,v=Za g n a:=by
 rcases h.2 with⟨_,i⟩|⟨g,a,c,rfl,_⟩
 ·omega
 ·exact⟨g,a,rfl⟩
theorem Jq.at{ls:List Ld}{n:Int}{i:Nat}(h:Jq ls n i)(o:∃x∈ls,x.num=n)(c:ls.Pairwise (fun a b=>a.num<b.num)):∃x,ls[i]?=some x/\x.num=n:=by
 obtain⟨x,r,q⟩:=o;obtain⟨j,g⟩:=List.getElem?_of_mem r;have l:=(Zw g).1;have k:i=j:=by
  rcases Nat.lt_trichotomy i j with f|f|f
  ·have s:=h.hi i ls[i] (Zx) (Zv (by omega));have p:=List.pairwise_iff_getElem.1 c i j (by omega) l f;obtain⟨_,e⟩:=Zw g;rw[e]at p;omega
  ·exact f
  ·have:=h.lo j x f g;omega
 exact⟨x,k▸g,q⟩
theorem DJ.at{ls:List Pd}{n:Zi}{i:Nat}(h:DJ ls n i)(r:∃x∈ls,x.name=n)(c:ls.Pairwise (fun a b=>less a.name b.name=true)):∃x,ls[i]?=some x/\x.name=n:=by
 obtain⟨x,s,k⟩:=r;obtain⟨j,g⟩:=List.getElem?_of_mem s;have q:=(Zw g).1;have p:i=j:=by
  rcases Nat.lt_trichotomy i j with f|f|f
  ·have l:=h.hi i ls[i] (Zx) (Zv (by omega));have o:=List.pairwise_iff_getElem.1 c i j (by omega) q f;obtain⟨_,e⟩:=Zw g;rw[e,k]at o;rw[o]at l;cases l
  ·exact f
  ·have:=h.lo j x f g;rw[k,Cr]at this;cases this
 exact⟨x,p▸g,k⟩
def Bx(ls:List Ld)(n:Int):List Ld:=ls.filter (fun x=> !decide (x.num=n))
def Bg(ps:List Pd)(n:Zi):List Pd:=ps.filter (fun x=> !decide (x.name=n))
theorem Hc{A:Type}{q:A->Bool}:∀{xs:List A} {i:Nat} {x:A},xs[i]?=some x->q x=false->(∀j y,xs[j]?=some y->j≠i->q y=true)->xs.filter q=xs.eraseIdx i
 |[],i,x,hx,_,_=>by simp at hx
 |y::ys,0,x,hx,hq,ho=>by
  simp only[List.getElem?_cons_zero,Option.some.injEq]at hx;subst hx;rw[List.filter_cons,hq,List.eraseIdx_cons_zero];simp only[Bool.false_eq_true,if_false];exact List.filter_eq_self.2 (fun z c=>by
   obtain⟨j,a⟩:=List.getElem?_of_mem c;exact ho (j+1) z (by simpa using a) (by omega))
 |y::ys,i+1,x,hx,hq,ho=>by have b:=ho 0 y (by simp) (by omega);rw[List.filter_cons,b,List.eraseIdx_cons_succ];simp only[if_true];rw[Hc (i:=i) (x:=x) (by simpa using hx) hq (fun j z a e=>ho (j+1) z (by simpa using a) (by omega))]
theorem Pm{ls:List Ld}{n:Int}{i:Nat}{x:Ld}(g:ls[i]?=some x)(q:x.num=n)(c:ls.Pairwise (fun a b=>a.num<b.num)):Bx ls n=ls.eraseIdx i:=by
 refine Hc g (by simp[q]) (fun j y o p=> ?_);have e:=(Zw g).1;have f:=(Zw o).1;obtain⟨_,k⟩:=Zw g;obtain⟨_,l⟩:=Zw o;rcases Nat.lt_or_gt_of_ne p with h|h
 ·have:=List.pairwise_iff_getElem.1 c j i f e h;rw[k,l]at this;simp;omega
 ·have:=List.pairwise_iff_getElem.1 c i j e f h;rw[k,l]at this;simp;omega
theorem Ok{ls:List Pd}{n:Zi}{i:Nat}{x:Pd}(o:ls[i]?=some x)(l:x.name=n)(c:ls.Pairwise (fun a b=>less a.name b.name=true)):Bg ls n=ls.eraseIdx i:=by
 refine Hc o (by simp[l]) (fun j y r s=> ?_);have g:=(Zw o).1;have k:=(Zw r).1;obtain⟨_,p⟩:=Zw o;obtain⟨_,q⟩:=Zw r;have f:y.name≠n:=fun e=>by
  rcases Nat.lt_or_gt_of_ne s with h|h
  ·have:=List.pairwise_iff_getElem.1 c j i k g h;rw[p,q,e,l,Cr]at this;cases this
  ·have:=List.pairwise_iff_getElem.1 c i j g k h;rw[p,q,e,l,Cr]at this;cases this
 simpa using f
theorem UG(base d m:Nat)(O P L:Value)(wd now given ae:Int)(ks:List Kd)(ps:List Pd)(ls:List Ld)(n:Int)(w:Zh)(h:DU w base d m O P L wd now given ae ks ps ls)(W:ls.length<=200)(f:ls.Pairwise (fun a b=>a.num<b.num))(t:∃x∈ls,x.num=n):
 Calls prog 178 #[Yz d,Zg n] w fun e w'=>e=.returned (.tuple #[])/\∃G,DU w' base d m O P G wd now given ae ks ps (Bx ls n)/\Tn (d::L.ownBlock.toList) w w':=by
 have A:0<ls.length:=by obtain⟨x,U,_⟩:=t;exact List.length_pos_of_mem U
 obtain⟨g,j,Q⟩:=Jr h.dr.ci A;subst Q;have H:=Yx h;have q:=Yx f;have B:=Yx t;have I:=Yx (Hv g j ls n w base h.dr.ci (by omega) f);obtain⟨c7,_⟩:=h.dr.box 7 _ rfl;clear h f t;go_enter func178,ntmps178;go_wp2_with fail;refine Calls.mono I.o ?_;rintro e M ⟨i,rfl,F,r⟩;obtain⟨x,p,u⟩:=F.at B.o q.o;have k:decide (∃x,ls[i]?=some x/\x.num=n)=true:=by simpa using ⟨x,p,u⟩
 have C:=(Zw p).1;have R:=Yx (Pm p u q.o);have o:=H.o.below r;have l:=Yx o;have N:=Yx r;have z:=Yx (Lb g j i ls M base o.dr.ci (by omega) C);obtain⟨T,_⟩:=o.dr.box 7 _ rfl;rw[k];clear k p u F o r H I B q c7;go_wp2_with fail;refine Calls.mono z.o ?_;rintro e y ⟨rfl,E,s⟩;have D:∀b,(Za g (ls.length -1) j).ownBlock=some b->b≠d:=fun b v=>((Dp l.o.dr.ap).2.2.2 b v).1
 have c:=Aa.same l.o.dr.box (s.block d l.o.dr.box.lt (fun e=>D g rfl (Option.some.inj e).symm));obtain⟨V,X⟩:=c 7 _ rfl;have J:∃G,DU (y.setCell (Ze d 7) (Za g (ls.length -1) j)) base d m O P G wd now given ae ks ps (Bx ls n)/\Tn (d::(Za g ls.length j).ownBlock.toList) w (y.setCell (Ze d 7) (Za g (ls.length -1) j)):=by
  have K:Tn (d::(Za g ls.length j).ownBlock.toList) M (y.setCell (Ze d 7) (Za g (ls.length -1) j)):=
   ((CG s).mono (by intro b v;simp[Value.ownBlock]at v ⊢;exact .inr v)).trans ((EA y d 7 _).mono (by simp))
  refine⟨_,l.o.gh K (c.set 7 _) ?_ (.inl rfl),(Tn.of N.o).trans K⟩;rw[R.o,List.length_eraseIdx,if_pos C];exact Bv E D 7 _
 have S:=Yx J;clear J E s c T;go_wp2
 go_end0
 exact⟨rfl,S.o⟩
theorem Js(base d m:Nat)(O L:Value)(g j:Nat)(wd now given ae:Int)(ks:List Kd)(ps:List Pd)(ls:List Ld)(n:Zi)(w:Zh)(h:DU w base d m O (Za g ps.length j) L wd now given ae ks ps ls)(r:ps.length<=200)(c:ps.Pairwise (fun a b=>less a.name b.name=true)):
 Calls prog 205 #[Yz d,.string n] w fun e w'=>∃i:Nat,e=.returned (.tuple #[Zg i,.bool (decide (∃x,ps[i]?=some x/\x.name=n))])/\DJ ps n i/\Zz w w':=by
 have q:=Yx (IT g j ps n w base h.dr.cl (by omega) c);obtain⟨c6,_⟩:=h.dr.box 6 _ rfl;clear h c;go_enter func205,ntmps205;go_wp2_with fail;refine Calls.mono q.o ?_;rintro e s ⟨i,rfl,p,o⟩;obtain⟨k,f⟩:∃k,decide (∃x,ps[i]?=some x/\x.name=n)=k:=⟨_,rfl⟩;have l:=Yx f;rw[f];clear f;go_wp2
 go_ret2
 exact⟨i,by rw[l.o];rfl,p,o⟩
theorem SM(base d m:Nat)(O P L:Value)(wd now given ae:Int)(ks:List Kd)(ps:List Pd)(ls:List Ld)(n:Zi)(w:Zh)(h:DU w base d m O P L wd now given ae ks ps ls)(U:ps.length<=200)(f:ps.Pairwise (fun a b=>less a.name b.name=true))(t:∃x∈ps,x.name=n):
 Calls prog 177 #[Yz d,.string n] w fun e w'=>e=.returned (.tuple #[])/\∃G,DU w' base d m O G L wd now given ae ks (Bg ps n) ls/\Tn (d::P.ownBlock.toList) w w':=by
 have A:0<ps.length:=by obtain⟨x,V,_⟩:=t;exact List.length_pos_of_mem V
 obtain⟨g,j,Q⟩:=Jr h.dr.cl A;subst Q;have H:=Yx h;have q:=Yx f;have B:=Yx t;have I:=Yx (Js base d m O L g j wd now given ae ks ps ls n w h U f);clear h f t;go_enter func177,ntmps177;go_wp2_with fail;refine Calls.mono I.o ?_;rintro e M ⟨i,rfl,F,r⟩;obtain⟨x,p,u⟩:=F.at B.o q.o;have k:decide (∃x,ps[i]?=some x/\x.name=n)=true:=by simpa using ⟨x,p,u⟩
 have C:=(Zw p).1;have R:=Yx (Ok p u q.o);have o:=H.o.below r;have l:=Yx o;have N:=Yx r;have z:=Yx (MZ g j i ps M base o.dr.cl (by omega) C);obtain⟨T,_⟩:=o.dr.box 6 _ rfl;rw[k];clear k p u F o r H I B q;go_wp2_with fail;refine Calls.mono z.o ?_;rintro e y ⟨rfl,E,s⟩;have D:∀b,(Za g (ps.length -1) j).ownBlock=some b->b≠d:=fun b v=>((Dp l.o.dr.ap).2.2.1 b v).1
 have c:=Aa.same l.o.dr.box (s.block d l.o.dr.box.lt (fun e=>D g rfl (Option.some.inj e).symm));obtain⟨W,X⟩:=c 6 _ rfl;have J:∃G,DU (y.setCell (Ze d 6) (Za g (ps.length -1) j)) base d m O G L wd now given ae ks (Bg ps n) ls/\Tn (d::(Za g ps.length j).ownBlock.toList) w (y.setCell (Ze d 6) (Za g (ps.length -1) j)):=by
  have K:Tn (d::(Za g ps.length j).ownBlock.toList) M (y.setCell (Ze d 6) (Za g (ps.length -1) j)):=
   ((CG s).mono (by intro b v;simp[Value.ownBlock]at v ⊢;exact .inr v)).trans ((EA y d 6 _).mono (by simp))
  refine⟨_,l.o.gj K (c.set 6 _) ?_ (.inl rfl),(Tn.of N.o).trans K⟩;rw[R.o,List.length_eraseIdx,if_pos C];exact Bv E D 6 _
 have S:=Yx J;clear J E s c T;go_wp2
 go_end0
 exact⟨rfl,S.o⟩
def AP(ls:List Ld)(n:Int):List Ld:=ls.filter (fun x=> !decide (x.bf<=n))
theorem MB(x:Ld)(b d:Nat)(n:Int)(w:Zh)(f:w.cell? (Ze b 0)=some (Yz d))(g:w.cell? (Ze d 2)=some (Zg n)):
 Calls prog 213 #[.agg #[Zg x.num,.string x.sum,Zg x.bf],Yz b] w fun e w'=>e=.returned (.bool (decide (x.bf<=n)))/\Zz w w':=by
 obtain⟨W,c⟩:∃W,W=w.alloc (.cells #[Zg x.num,.string x.sum,Zg x.bf] 144):=⟨_,rfl⟩;have a:=(AJ c).1;have l:W.cell? (Ze (w.heap.size) 2)=some (Zg x.bf):=by rw[c];simp[go_sem]
 have i:=(a.cell (p:=⟨b,0,none⟩) (World.block_lt_of_cell? w _ f)).trans f;have c2:=(a.cell (p:=⟨d,2,none⟩) (World.block_lt_of_cell? w _ g)).trans g;have o:b<W.heap.size/\d<W.heap.size:=⟨World.block_lt_of_cell? W _ i,World.block_lt_of_cell? W _ c2⟩;have h:=Yx c;clear c f g;go_enter func213,ntmps213;go_upto_region 1 with fail;rw[←h.o];clear h;have k:=Yx a;clear a;cases hbb:decide (x.bf<=n)
 all_goals
  have j:=Yx hbb;go_region_with fail
  all_goals
   clear l i c2;go_wp2;go_ret;exact⟨by rw[j.o];rfl,k.o.drew⟩
def Wu(ls:List Ld)(n r:Int):Prop:=(r= -1/\∀x∈ls,n<x.bf)∨∃(i:Nat) (x:Ld),r=i/\ls[i]?=some x/\x.bf<=n/\∀j y,j<i->ls[j]?=some y->n<y.bf
theorem IU(a:Zk)(B b d:Nat)(n:Int)(ls:List Ld)(w:Zh)(g:Be w w.heap.size a ls)(V:ls.length<=1048576)(v:w.cell? (Ze b 0)=some (Yz d))(A:w.cell? (Ze d 2)=some (Zg n)):
 Calls prog 231 #[.slice a ls.length B,.func (.func 213) #[] #[Yz b]] w fun e w'=>∃r:Int,e=.returned (Zg r)/\Wu ls n r/\Zz w w':=by
 have D:=World.block_lt_of_cell? w _ v;have F:=World.block_lt_of_cell? w _ A;go_enter func231,ntmps231;go_wp2
 go_loopw [8] (fun i wr=>∃k:Nat,k<=ls.length/\i=Zg k/\Hid (∀j x,j<k->ls[j]?=some x->n<x.bf)/\Zz w wr) (fun i _=>ls.length -(intOf i).toNat)
 case atStart=>exact⟨0,Nat.zero_le _,rfl,(fun j x h=>by omega),Below.refl _ _⟩
 case round=>
  obtain⟨k,U,rfl,f,c⟩:=hrel;have H:=c.size;by_cases hlt:k<ls.length
  ·obtain⟨Q,N,K,T,q⟩:=(g.below c).at hlt;subst K;have s:=Yx (Zv hlt);obtain⟨R,S,c2⟩:=q k _ s.o;have E:=(c.cell (p:=⟨b,0,none⟩) D).trans v;have G:=(c.cell (p:=⟨d,2,none⟩) F).trans A;clear q g;generalize ls[k]=x at *
   go_wp2_with fail;refine(MB x b d n wr E G).mono ?_;rintro e W ⟨rfl,C⟩;have o:=c.trans (C.mono H);by_cases h:x.bf<=n
   ·have l:decide (x.bf<=n)=true:=by simpa using h
    have J:=Yx h;rw[l];clear h l;go_wp2;go_ret;exact⟨_,rfl,.inr ⟨k,x,rfl,s.o,J.o,f.o⟩,o⟩
   ·have I:Hid (∀j y,j<k+1->ls[j]?=some y->n<y.bf):=by
     intro j y z t;rcases Nat.lt_or_ge j k with u|u
     ·exact f.o j y u t
     ·obtain rfl:j=k:=by omega
      rw[s.o]at t;cases t;exact Int.not_le.1 h
    have l:decide (x.bf<=n)=false:=by simpa using h
    rw[l];clear h l;go_wp2;exact⟨⟨k+1,by omega,by go_num,I,o⟩,by simp[intOf];omega⟩
  ·go_wp2;go_ret;refine⟨_,rfl,.inl ⟨rfl,fun x M=> ?_⟩,c⟩;obtain⟨j,z,rfl⟩:=List.getElem_of_mem M;exact f.o j _ (by omega) (Zv z)
theorem LK(a:Zk)(r:Nat)(c:Zl)(s:Zi)(w:Zh)(B:Nat)(g:Ad w B a c)(G:c.length<=1048576):
 Calls prog 90 #[.slice a c.length r,.string s] w fun e w'=>e=.returned (.bool (c.any (fun x=>decide (x=s))))/\w'=w:=by
 go_enter func90,ntmps90;go_wp2
 go_loop [5] (fun i=>∃k:Nat,k<=c.length/\i=Zg k/\Hid (∀j x,j<k->c[j]?=some x->x≠s)) (fun i=>c.length -(intOf i).toNat)
 case atStart=>exact⟨0,Nat.zero_le _,rfl,fun j x h=>by omega⟩
 case round=>
  obtain⟨k,F,rfl,f⟩:=hrel;by_cases hlt:k<c.length
  ·obtain⟨b,C,u,E,q⟩:=g.at hlt;subst u;have l:=Yx (Zv hlt);have D:=q k _ l;clear q g;generalize c[k]=x at *
   by_cases he:x=s
   ·subst he;have v:Hid (c.any (fun y=>decide (y=x))=true):=by show _=_;rw[List.any_eq_true];exact⟨x,Zs l.o,by simp⟩
    go_wp2;go_ret;exact⟨Av v.o.symm,rfl⟩
   ·have A:=Ca he;have t:Hid (∀j y,j<k+1->c[j]?=some y->y≠s):=by
     intro j y n o;rcases Nat.lt_or_ge j k with p|p
     ·exact f.o j y p o
     ·obtain rfl:j=k:=by omega
      rw[l.o]at o;cases o;exact he
    clear he f l;go_wp2;exact⟨⟨k+1,by omega,by go_num,t⟩,by simp[intOf];omega⟩
  ·go_wp2;go_ret;refine⟨Av ?_,rfl⟩
   symm
   rw[List.any_eq_false];intro x z;obtain⟨j,n⟩:=List.getElem?_of_mem z;simpa using f.o j x (by have:=(Zw n).1;omega) n
end Go.Proofs.YtckmnfhmoankmaaGreatDoor
