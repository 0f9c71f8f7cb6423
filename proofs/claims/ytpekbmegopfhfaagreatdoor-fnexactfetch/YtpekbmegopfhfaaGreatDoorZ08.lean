import Derived.Test.YtpekbmegopfhfaaGreatDoorZ07
set_option maxRecDepth 100000
set_option maxHeartbeats 16000000
namespace Go.Proofs.YtpekbmegopfhfaaGreatDoor
open Go.ChangeShapes Go.WideShapes Go.ChangeAt Go.RowKit _root_.Go.Proofs.Tryz
theorem own_cutR {A:Type} {c:A->List Value} {n:Nat} {e:TypeId} (hn:∀x,(c x).length=n) {w:World} {base g cap:Nat} {ss:List A} (h:w.ownsRow base e n (.slice (some ⟨g,0,none⟩) ss.length cap) ss.length (rowC c ss)) (i:Nat) (hi:i<=ss.length):w.ownsRow base e n (.slice (some ⟨g,0,none⟩) i cap) i (rowC c (ss.take i)):=by
 refine⟨by rw[row_len hn,List.length_take];congr 1;omega,?_⟩;rcases h.2 with⟨e,_⟩|⟨g',cap',cur,e,hb,hg,h1,h2,h3,h4⟩
 ·cases e
 ·cases e
  refine .inr ⟨g,cap,cur,rfl,hb,hg,by omega,h2,h3,?_⟩;rw[←row_take hn ss i hi,←h4,List.take_take];congr 1;exact(Nat.min_eq_left (Nat.mul_le_mul_right n hi)).symm
theorem zeroPin (w:World):(zeroValue 134).run prog w=.ok (.agg #[.string ⟨#[]⟩,.string ⟨#[]⟩]) w:=by kernel_rfl
theorem run_clear_Pin (w:World) (ty:TypeId) (b o c:Nat) (hc:∀j,j<2->(w.cell? ⟨b,o+j,none⟩).isSome=true) (hf:∀j,j<2->w.frozen? ⟨b,o+j,none⟩=false):
 (Builtin.clear_ #[25] ty #[.slice (some ⟨b,o,none⟩) 1 c]).run prog w=.ok (.tuple #[]) (w.setCells b o [.string ⟨#[]⟩,.string ⟨#[]⟩]):=by
 have hzc:(Builtin.zeroCells (Value.agg #[.string ⟨#[]⟩,.string ⟨#[]⟩]).cells 1).toList=[.string ⟨#[]⟩,.string ⟨#[]⟩]:=by kernel_rfl
 have hst:=run_storeCells_cells (P:=prog) b o [.string ⟨#[]⟩,.string ⟨#[]⟩] 0 w (by simpa using hc) (by simpa using hf) (by intro v hv';simp at hv';rcases hv' with rfl|rfl<;>rfl);simp only[Nat.add_zero] at hst;have hzk:=zeroPin;simp[Builtin.clear_,run_underlying underlying25,hzk,hzc,hst]
theorem deletePin_any (g cap i:Nat) (ss:List Pd) (w:World) (base:Nat) (ho:w.ownsRow base 134 2 (.slice (some ⟨g,0,none⟩) ss.length cap) ss.length (rowC pC ss)) (hl:ss.length<=600) (hi:i<ss.length):
 Calls prog 203 #[.slice (some ⟨g,0,none⟩) ss.length cap,.int .i64 i,.int .i64 ((i:Int)+1)] w fun e w'=>e=.returned (.slice (some ⟨g,0,none⟩) (ss.length -1) cap)/\w'.ownsRow base 134 2 (.slice (some ⟨g,0,none⟩) (ss.length -1) cap) (ss.length -1) (rowC pC (ss.eraseIdx i))/\w.grownBy w' (some g):=by
 obtain⟨i0,hinf,hz0,hz1,hz2⟩:=info_parts infoPin;have hcap:ss.length<=cap/\cap<=maxLen:=by
  rcases ho.2 with⟨e,_⟩|⟨g',cap',cur,e,hb,hg,h1,h2,h3,h4⟩
  ·cases e
  ·cases e;exact⟨h1,h2⟩
 obtain⟨hc1,hc2⟩:=hcap;unfold maxLen at hc2;have hcut:=own_cutR pC_len ho i (by omega);obtain⟨A,hA,hnews⟩:∃A,(if cap=i+1 then some (⟨g,0,none⟩:Addr) else some ⟨g,(i+1) *2,none⟩)=some A/\∀j u,(rowC pC (ss.drop (i+1)))[j]?=some u->w.drew.cell? (A.add j)=some u:=by
  by_cases h:cap=i+1
  ·refine⟨⟨g,0,none⟩,by rw[if_pos h],fun j u hu=> ?_⟩
   rw[List.drop_of_length_le (by omega)] at hu;simp[rowC] at hu
  ·refine⟨⟨g,(i+1) *2,none⟩,by rw[if_neg h],fun j u hu=> ?_⟩
   rw[Go.WideShapes.add_plain];rw[←row_drop pC_len ss (i+1) (by omega),List.getElem?_drop] at hu;have hlt:=(List.getElem?_eq_some_iff.1 hu).1;rw[row_len pC_len] at hlt;exact(ho.cellAt _ (by omega)).trans hu
 obtain⟨w1,hr,ho1,hg1⟩:=run_append_fits (P:=prog) w.drew base 25 25 134 i0 2 underlying25 hinf hz1 g i cap (rowC pC (ss.take i)) hcut A (ss.length -(i+1)) (cap -(i+1)) (rowC pC (ss.drop (i+1))) (by rw[row_len pC_len,List.length_drop]) hnews (oneP _) (by omega);rw[←row_append,show i+(ss.length -(i+1))=ss.length -1 by omega] at ho1;rw[show i+(ss.length -(i+1))=ss.length -1 by omega] at hr
 have hee:ss.take i++ss.drop (i+1)=ss.eraseIdx i:=(List.eraseIdx_eq_take_drop_succ ss i).symm;rw[hee] at ho1;have HO:Hid _:=And.intro ho1 hg1;clear hnews ho1 hcut hee;go_enter func203,ntmps203;have hi1:¬((i:Int)==(i:Int)+1)=true:=by simp;omega
 have hic:i<=cap:=by omega
 have hp0:(0:Int)<=(i:Int)+1:=by omega
 have hp1:(i:Int)+1<=(ss.length:Int):=by omega
 have hp2:((i:Int)+1).toNat=i+1:=by omega
 go_upto_region 5 with fail
 go_region_law (first
  |(refine step_append_run (by rfl) (.tmp 22) (.tmp 25) 25 25 (by rfl) (by rfl) (by simp[Act.eval,Act.put]) hr ?_))
 all_goals
  have hf1:∀j,j<2->(w1.cell? ⟨g,(ss.length -1) *2+j,none⟩).isSome=true/\w1.frozen? ⟨g,(ss.length -1) *2+j,none⟩=false:=fun j hj=>by
   obtain⟨ho1,hg1⟩:=HO.out;rcases ho1.2 with⟨e,_⟩|⟨g',cap',cur,e,hb,hg,h1,h2,h3,h4⟩
   ·cases e
   ·cases e
    constructor
    ·simp only[World.cell?,hg]
     rw[Array.getElem?_eq_getElem (by omega)];rfl
    ·exact ho1.frozenAt _
  have hclr:=run_clear_Pin w1 0 g ((ss.length -1) *2) (cap -(ss.length -1)) (fun j hj=>(hf1 j hj).1) (fun j hj=>(hf1 j hj).2);have e1:ss.length -(ss.length -1)=1:=by omega
  have e2:¬cap=ss.length -1:=by omega
  have e3:ss.length -1<=ss.length:=by omega
  go_wp2;go_ret;obtain⟨ho1,hg1⟩:=HO.out;exact⟨rfl,own_past _ _ _ ho1 (Nat.le_refl _),grown_trans (grown_undrew hg1) (grown_setC g _ _ _)⟩
theorem zeroLease (w:World):(zeroValue 137).run prog w=.ok (.agg #[.int .i64 0,.string ⟨#[]⟩,.int .i64 0]) w:=by kernel_rfl
theorem run_clear_Lease (w:World) (ty:TypeId) (b o c:Nat) (hc:∀j,j<3->(w.cell? ⟨b,o+j,none⟩).isSome=true) (hf:∀j,j<3->w.frozen? ⟨b,o+j,none⟩=false):
 (Builtin.clear_ #[26] ty #[.slice (some ⟨b,o,none⟩) 1 c]).run prog w=.ok (.tuple #[]) (w.setCells b o [.int .i64 0,.string ⟨#[]⟩,.int .i64 0]):=by
 have hzc:(Builtin.zeroCells (Value.agg #[.int .i64 0,.string ⟨#[]⟩,.int .i64 0]).cells 1).toList=[.int .i64 0,.string ⟨#[]⟩,.int .i64 0]:=by kernel_rfl
 have hst:=run_storeCells_cells (P:=prog) b o [.int .i64 0,.string ⟨#[]⟩,.int .i64 0] 0 w (by simpa using hc) (by simpa using hf) (by intro v hv';simp at hv';rcases hv' with rfl|rfl|rfl<;>rfl);simp only[Nat.add_zero] at hst;have hzk:=zeroLease;simp[Builtin.clear_,run_underlying underlying26,hzk,hzc,hst]
theorem deleteLease_any (g cap i:Nat) (ss:List Ld) (w:World) (base:Nat) (ho:w.ownsRow base 137 3 (.slice (some ⟨g,0,none⟩) ss.length cap) ss.length (rowC lC ss)) (hl:ss.length<=600) (hi:i<ss.length):
 Calls prog 207 #[.slice (some ⟨g,0,none⟩) ss.length cap,.int .i64 i,.int .i64 ((i:Int)+1)] w fun e w'=>e=.returned (.slice (some ⟨g,0,none⟩) (ss.length -1) cap)/\w'.ownsRow base 137 3 (.slice (some ⟨g,0,none⟩) (ss.length -1) cap) (ss.length -1) (rowC lC (ss.eraseIdx i))/\w.grownBy w' (some g):=by
 obtain⟨i0,hinf,hz0,hz1,hz2⟩:=info_parts infoLease;have hcap:ss.length<=cap/\cap<=maxLen:=by
  rcases ho.2 with⟨e,_⟩|⟨g',cap',cur,e,hb,hg,h1,h2,h3,h4⟩
  ·cases e
  ·cases e;exact⟨h1,h2⟩
 obtain⟨hc1,hc2⟩:=hcap;unfold maxLen at hc2;have hcut:=own_cutR lC_len ho i (by omega);obtain⟨A,hA,hnews⟩:∃A,(if cap=i+1 then some (⟨g,0,none⟩:Addr) else some ⟨g,(i+1) *3,none⟩)=some A/\∀j u,(rowC lC (ss.drop (i+1)))[j]?=some u->w.drew.cell? (A.add j)=some u:=by
  by_cases h:cap=i+1
  ·refine⟨⟨g,0,none⟩,by rw[if_pos h],fun j u hu=> ?_⟩
   rw[List.drop_of_length_le (by omega)] at hu;simp[rowC] at hu
  ·refine⟨⟨g,(i+1) *3,none⟩,by rw[if_neg h],fun j u hu=> ?_⟩
   rw[Go.WideShapes.add_plain];rw[←row_drop lC_len ss (i+1) (by omega),List.getElem?_drop] at hu;have hlt:=(List.getElem?_eq_some_iff.1 hu).1;rw[row_len lC_len] at hlt;exact(ho.cellAt _ (by omega)).trans hu
 obtain⟨w1,hr,ho1,hg1⟩:=run_append_fits (P:=prog) w.drew base 26 26 137 i0 3 underlying26 hinf hz1 g i cap (rowC lC (ss.take i)) hcut A (ss.length -(i+1)) (cap -(i+1)) (rowC lC (ss.drop (i+1))) (by rw[row_len lC_len,List.length_drop]) hnews (oneL _) (by omega);rw[←row_append,show i+(ss.length -(i+1))=ss.length -1 by omega] at ho1;rw[show i+(ss.length -(i+1))=ss.length -1 by omega] at hr
 have hee:ss.take i++ss.drop (i+1)=ss.eraseIdx i:=(List.eraseIdx_eq_take_drop_succ ss i).symm;rw[hee] at ho1;have HO:Hid _:=And.intro ho1 hg1;clear hnews ho1 hcut hee;go_enter func207,ntmps207;have hi1:¬((i:Int)==(i:Int)+1)=true:=by simp;omega
 have hic:i<=cap:=by omega
 have hp0:(0:Int)<=(i:Int)+1:=by omega
 have hp1:(i:Int)+1<=(ss.length:Int):=by omega
 have hp2:((i:Int)+1).toNat=i+1:=by omega
 go_upto_region 5 with fail
 go_region_law (first
  |(refine step_append_run (by rfl) (.tmp 22) (.tmp 25) 26 26 (by rfl) (by rfl) (by simp[Act.eval,Act.put]) hr ?_))
 all_goals
  have hf1:∀j,j<3->(w1.cell? ⟨g,(ss.length -1) *3+j,none⟩).isSome=true/\w1.frozen? ⟨g,(ss.length -1) *3+j,none⟩=false:=fun j hj=>by
   obtain⟨ho1,hg1⟩:=HO.out;rcases ho1.2 with⟨e,_⟩|⟨g',cap',cur,e,hb,hg,h1,h2,h3,h4⟩
   ·cases e
   ·cases e
    constructor
    ·simp only[World.cell?,hg]
     rw[Array.getElem?_eq_getElem (by omega)];rfl
    ·exact ho1.frozenAt _
  have hclr:=run_clear_Lease w1 0 g ((ss.length -1) *3) (cap -(ss.length -1)) (fun j hj=>(hf1 j hj).1) (fun j hj=>(hf1 j hj).2);have e1:ss.length -(ss.length -1)=1:=by omega
  have e2:¬cap=ss.length -1:=by omega
  have e3:ss.length -1<=ss.length:=by omega
  go_wp2;go_ret;obtain⟨ho1,hg1⟩:=HO.out;exact⟨rfl,own_past _ _ _ ho1 (Nat.le_refl _),grown_trans (grown_undrew hg1) (grown_setC g _ _ _)⟩
def cmpI (x y:Int):Int:=if x<y then -1 else if y<x then 1 else 0
theorem cmpI_neg (x y:Int):cmpI x y<0↔x<y:=by unfold cmpI;split<;>(try split)<;>omega
theorem cmpI_zero (x y:Int):cmpI x y=0↔x=y:=by unfold cmpI;split<;>(try split)<;>omega
theorem nanI_any (x:Int) (w:World):Calls prog 235 #[.int .i64 x] w fun e w'=>e=.returned (.bool false)/\w'=w:=by
 have hq:(x !=x)=false:=by simp
 go_enter func235,ntmps235;go_wp2;go_ret;exact⟨rfl,rfl⟩
theorem cmpI_any (x y:Int) (w:World):Calls prog 206 #[.int .i64 x,.int .i64 y] w fun e w'=>e=.returned (.int .i64 (cmpI x y))/\w'=w:=by
 go_enter func206,ntmps206;go_wp2_with fail;refine(nanI_any x w).mono ?_;rintro e w1 ⟨rfl,rfl⟩;go_wp2_with fail;refine(nanI_any y w1).mono ?_;rintro e w2 ⟨rfl,rfl⟩;by_cases h1:x<y
 ·have hd:decide (x<y)=true:=by simpa using h1
  have hv:cmpI x y= -1:=by unfold cmpI;rw[if_pos h1]
  clear h1;go_wp2;go_ret;exact⟨by rw[hv];rfl,rfl⟩
 ·have hd:decide (x<y)=false:=by simpa using h1
  by_cases h2:y<x
  ·have hd2:decide (y<x)=true:=by simpa using h2
   have hv:cmpI x y=1:=by unfold cmpI;rw[if_neg h1,if_pos h2]
   clear h1 h2;go_wp2;go_ret;exact⟨by rw[hv];rfl,rfl⟩
  ·have hd2:decide (y<x)=false:=by simpa using h2
   have hv:cmpI x y=0:=by unfold cmpI;rw[if_neg h1,if_neg h2]
   clear h1 h2;go_wp2;go_ret;exact⟨by rw[hv];rfl,rfl⟩
def cmpS (x y:ByteArray):Int:=if less x y=true then -1 else if x=y then 0 else 1
theorem cmpS_neg (x y:ByteArray):cmpS x y<0↔less x y=true:=by
 unfold cmpS;by_cases h:less x y=true
 ·rw[if_pos h];exact⟨fun _=>h,fun _=>by omega⟩
 ·rw[if_neg h]
  refine⟨fun e=> ?_,fun e=>absurd e h⟩;split at e<;>omega
theorem cmpS_zero (x y:ByteArray):cmpS x y=0↔x=y:=by
 unfold cmpS;by_cases h:less x y=true
 ·rw[if_pos h]
  refine⟨fun e=>by omega,fun e=> ?_⟩;rw[e,less_irrefl] at h;cases h
 ·rw[if_neg h]
  split
  ·rename_i h2;exact⟨fun _=>h2,fun _=>rfl⟩
  ·rename_i h2;exact⟨fun e=>by omega,fun e=>absurd e h2⟩
theorem nanS_any (x:ByteArray) (w:World):Calls prog 246 #[.string x] w fun e w'=>e=.returned (.bool false)/\w'=w:=by
 have hq:(x.toList !=x.toList)=false:=by simp
 go_enter func246,ntmps246;go_wp2;go_ret;exact⟨rfl,rfl⟩
theorem cmpS_any (x y:ByteArray) (w:World):Calls prog 232 #[.string x,.string y] w fun e w'=>e=.returned (.int .i64 (cmpS x y))/\w'=w:=by
 go_enter func232,ntmps232;go_wp2_with fail;refine(nanS_any x w).mono ?_;rintro e w1 ⟨rfl,rfl⟩;go_wp2_with fail;refine(nanS_any y w1).mono ?_;rintro e w2 ⟨rfl,rfl⟩;cases h1:Op.bytesLess x.toList y.toList with
 |true=>
  have HV:Hid (cmpS x y= -1):=by show _=_;unfold cmpS less;rw[if_pos h1]
  go_wp2;go_ret;exact⟨by rw[HV.out];rfl,rfl⟩
 |false=>
  by_cases h2:x=y
  ·have HV:Hid (cmpS x y=0):=(cmpS_zero x y).2 h2
   have hq:(x.toList==y.toList)=true:=by rw[h2];simp
   clear h2;go_wp2;go_ret;exact⟨by rw[HV.out];rfl,rfl⟩
  ·have HV:Hid (cmpS x y=1):=by show _=_;unfold cmpS less;rw[if_neg (by rw[h1];simp),if_neg h2]
   have hq:(x.toList==y.toList)=false:=beq_ne h2;clear h2;go_wp2;go_ret;exact⟨by rw[HV.out];rfl,rfl⟩
theorem give1_any (x:Ld) (n:Int) (w:World):Calls prog 205 #[.agg #[.int .i64 x.num,.string x.sum,.int .i64 x.til],.int .i64 n] w fun e w'=>e=.returned (.int .i64 (cmpI x.num n))/\Below w.heap.size w w':=by
 have hA:∀o,Below w.heap.size w (w.alloc o):=fun o=>(Below.refl _ _).alloc (Nat.le_refl _) _;go_enter func205,ntmps205;go_wp2_with fail;refine(cmpI_any x.num n _).mono ?_;rintro e w1 ⟨rfl,rfl⟩;go_wp2;go_ret;exact⟨rfl,hA _⟩
theorem place1_any (x:Pd) (n:ByteArray) (w:World):Calls prog 231 #[.agg #[.string x.name,.string x.sum],.string n] w fun e w'=>e=.returned (.int .i64 (cmpS x.name n))/\Below w.heap.size w w':=by
 have hA:∀o,Below w.heap.size w (w.alloc o):=fun o=>(Below.refl _ _).alloc (Nat.le_refl _) _;go_enter func231,ntmps231;go_wp2_with fail;refine(cmpS_any x.name n _).mono ?_;rintro e w1 ⟨rfl,rfl⟩;go_wp2;go_ret;exact⟨rfl,hA _⟩
structure PlaceN (ls:List Ld) (n:Int) (i:Nat):Prop where
 le:i<=ls.length
 lo:∀j x,j<i->ls[j]?=some x->x.num<n
 hi:∀j x,i<=j->ls[j]?=some x->n<=x.num
theorem searchLease_any (g cap:Nat) (ls:List Ld) (n:Int) (w:World) (base:Nat) (ho:w.ownsRow base 137 3 (.slice (some ⟨g,0,none⟩) ls.length cap) ls.length (rowC lC ls)) (hl:ls.length<=600) (hsort:ls.Pairwise (fun a b=>a.num<b.num)):
 Calls prog 204 #[.slice (some ⟨g,0,none⟩) ls.length cap,.int .i64 n,.func (.func 205) #[] #[]] w fun e w'=>∃i:Nat,e=.returned (.tuple #[.int .i64 i,.bool (decide (∃x,ls[i]?=some x/\x.num=n))])/\PlaceN ls n i/\Below w.heap.size w w':=by
 have hgl:g<w.heap.size:=(own_lt ho rfl).2;have HO:Hid (w.ownsRow base 137 3 (.slice (some ⟨g,0,none⟩) ls.length cap) ls.length (rowC lC ls)):=ho;have HR:Hid (∀(X:World),Below w.heap.size w X->∀k x,ls[k]?=some x->X.cell? ⟨g,k *3,none⟩=some (.int .i64 x.num)/\X.cell? ⟨g,k *3+1,none⟩=some (.string x.sum)/\X.cell? ⟨g,k *3+2,none⟩=some (.int .i64 x.til)):=fun X hX k x hx=>by
  have h:=own_below ho hX;have hk:=(List.getElem?_eq_some_iff.1 hx).1;have hc:∀j,j<3->X.cell? ⟨g,k *3+j,none⟩=(lC x)[j]?:=fun j hj=>(h.cellAt (k *3+j) (by omega)).trans (row_get lC_len hx hj);exact⟨by simpa [lC] using hc 0 (by decide),by simpa [lC] using hc 1 (by decide),by simpa [lC] using hc 2 (by decide)⟩
 have HS:Hid (ls.Pairwise (fun a b=>a.num<b.num)):=hsort;clear ho hsort;go_enter func204,ntmps204;have hef:∀args w,(callFunc 205 args).run prog w=.ok (.enter 205 args) w:=enters_of func205 (by kernel_rfl) rfl;go_wp2
 go_loopw [9,10] (fun i j wr=>∃lo hi:Nat,i=.int .i64 lo/\j=.int .i64 hi/\lo<=hi/\hi<=ls.length/\Hid ((∀j x,j<lo->ls[j]?=some x->x.num<n)/\(∀j x,hi<=j->ls[j]?=some x->n<=x.num))/\Below w.heap.size w wr) (fun i j _=>(intOf j).toNat -(intOf i).toNat)
 case atStart=>exact⟨0,ls.length,rfl,rfl,Nat.zero_le _,Nat.le_refl _,⟨fun j x h=>by omega,fun j x h hx=>by have:=(List.getElem?_eq_some_iff.1 hx).1;omega⟩,Below.refl _ _⟩
 case round=>
  obtain⟨lo,hi,rfl,rfl,hlh,hin,HI,hbel⟩:=hrel;have hzr:=hbel.size;by_cases hlt:lo<hi
  ·have hml:(lo+hi)/2<ls.length:=by omega
   have HG:Hid (ls[(lo+hi)/2]?=some ls[(lo+hi)/2]):=List.getElem?_eq_getElem hml;generalize ls[(lo+hi)/2]=x at *
   obtain⟨r0,r1,r2⟩:=HR.out wr hbel _ _ HG.out;go_wp2_with fail;refine(give1_any x n wr).mono ?_;rintro e w1 ⟨rfl,hb1⟩;have hB1:=hbel.trans (hb1.mono hzr);clear r0 r1 r2;by_cases hc:x.num<n
   ·have hd:decide (cmpI x.num n<0)=true:=by simpa using (cmpI_neg _ _).2 hc
    have HC:Hid (x.num<n):=hc;clear hc;generalize cmpI x.num n=cv at *
    go_wp2;refine⟨⟨(lo+hi)/2+1,hi,by go_num,rfl,by omega,hin,⟨?_,HI.out.2⟩,hB1⟩,by simp[intOf];omega⟩;intro j y hj hy;rcases Nat.lt_or_ge j ((lo+hi)/2) with h|h
    ·have:=List.pairwise_iff_getElem.1 HS.out j ((lo+hi)/2) (by omega) hml h
     obtain⟨_,rfl⟩:=List.getElem?_eq_some_iff.1 hy;obtain⟨_,e⟩:=List.getElem?_eq_some_iff.1 HG.out;rw[e] at this;have h3:=HC.out;omega
    ·obtain rfl:j=(lo+hi)/2:=by omega
     rw[HG.out] at hy;cases hy;exact HC.out
   ·have hd:decide (cmpI x.num n<0)=false:=by simpa using fun e=>hc ((cmpI_neg _ _).1 e)
    have HC:Hid (n<=x.num):=Int.not_lt.1 hc;clear hc;generalize cmpI x.num n=cv at *
    go_wp2;refine⟨⟨lo,(lo+hi)/2,rfl,by go_num,by omega,by omega,⟨HI.out.1,?_⟩,hB1⟩,by simp[intOf];omega⟩;intro j y hj hy;rcases Nat.lt_or_ge ((lo+hi)/2) j with h|h
    ·have hjl:=(List.getElem?_eq_some_iff.1 hy).1
     have:=List.pairwise_iff_getElem.1 HS.out ((lo+hi)/2) j hml hjl h;obtain⟨_,rfl⟩:=List.getElem?_eq_some_iff.1 hy;obtain⟨_,e⟩:=List.getElem?_eq_some_iff.1 HG.out;rw[e] at this;have h3:=HC.out;omega
    ·obtain rfl:j=(lo+hi)/2:=by omega
     rw[HG.out] at hy;cases hy;exact HC.out
  ·obtain rfl:lo=hi:=by omega
   have HP:Hid (PlaceN ls n lo):=⟨hin,HI.out.1,HI.out.2⟩;by_cases hn:lo<ls.length
   ·have HG:Hid (ls[lo]?=some ls[lo]):=List.getElem?_eq_getElem hn
    generalize ls[lo]=x at *
    obtain⟨r0,r1,r2⟩:=HR.out wr hbel _ _ HG.out;have hn':(lo:Int)<ls.length:=by omega
    go_wp2_with fail;refine(give1_any x n wr).mono ?_;rintro e w1 ⟨rfl,hb1⟩;have hB1:=hbel.trans (hb1.mono hzr);clear r0 r1 r2;have HD:Hid (decide (∃y,ls[lo]?=some y/\y.num=n)=(cmpI x.num n==0)):=by
     show _=_;rw[HG.out];by_cases h:x.num=n
     ·rw[(cmpI_zero x.num n).2 h]
      simp[h]
     ·have h0:¬cmpI x.num n=0:=fun e=>h ((cmpI_zero x.num n).1 e)
      rw[show(cmpI x.num n==0)=false by simpa using h0];simp[h]
    generalize cmpI x.num n=cv at *
    go_wp2
    go_ret2
    exact⟨lo,by rw[HD.out];first|rfl|simp[Act.put],HP.out,hB1⟩
   ·have HD:Hid (decide (∃y,ls[lo]?=some y/\y.num=n)=false):=by
     show _=_;rw[List.getElem?_eq_none (by omega)];simp
    have hn':¬((lo:Int)<ls.length):=by omega
    go_wp2
    go_ret2
    exact⟨lo,by rw[HD.out];first|rfl|simp[Act.put],HP.out,hbel⟩
structure PlaceP (ls:List Pd) (n:ByteArray) (i:Nat):Prop where
 le:i<=ls.length
 lo:∀j x,j<i->ls[j]?=some x->less x.name n=true
 hi:∀j x,i<=j->ls[j]?=some x->less x.name n=false
theorem searchPin_any (g cap:Nat) (ls:List Pd) (n:ByteArray) (w:World) (base:Nat) (ho:w.ownsRow base 134 2 (.slice (some ⟨g,0,none⟩) ls.length cap) ls.length (rowC pC ls)) (hl:ls.length<=600) (hsort:ls.Pairwise (fun a b=>less a.name b.name=true)):
 Calls prog 230 #[.slice (some ⟨g,0,none⟩) ls.length cap,.string n,.func (.func 231) #[] #[]] w fun e w'=>∃i:Nat,e=.returned (.tuple #[.int .i64 i,.bool (decide (∃x,ls[i]?=some x/\x.name=n))])/\PlaceP ls n i/\Below w.heap.size w w':=by
 have hgl:g<w.heap.size:=(own_lt ho rfl).2;have HO:Hid (w.ownsRow base 134 2 (.slice (some ⟨g,0,none⟩) ls.length cap) ls.length (rowC pC ls)):=ho;have HR:Hid (∀(X:World),Below w.heap.size w X->∀k x,ls[k]?=some x->X.cell? ⟨g,k *2,none⟩=some (.string x.name)/\X.cell? ⟨g,k *2+1,none⟩=some (.string x.sum)):=fun X hX k x hx=>by
  have h:=own_below ho hX;have hk:=(List.getElem?_eq_some_iff.1 hx).1;have hc:∀j,j<2->X.cell? ⟨g,k *2+j,none⟩=(pC x)[j]?:=fun j hj=>(h.cellAt (k *2+j) (by omega)).trans (row_get pC_len hx hj);exact⟨by simpa [pC] using hc 0 (by decide),by simpa [pC] using hc 1 (by decide)⟩
 have HS:Hid (ls.Pairwise (fun a b=>less a.name b.name=true)):=hsort;clear ho hsort;go_enter func230,ntmps230;have hef:∀args w,(callFunc 231 args).run prog w=.ok (.enter 231 args) w:=enters_of func231 (by kernel_rfl) rfl;go_wp2
 go_loopw [9,10] (fun i j wr=>∃lo hi:Nat,i=.int .i64 lo/\j=.int .i64 hi/\lo<=hi/\hi<=ls.length/\Hid ((∀j x,j<lo->ls[j]?=some x->less x.name n=true)/\(∀j x,hi<=j->ls[j]?=some x->less x.name n=false))/\Below w.heap.size w wr) (fun i j _=>(intOf j).toNat -(intOf i).toNat)
 case atStart=>exact⟨0,ls.length,rfl,rfl,Nat.zero_le _,Nat.le_refl _,⟨fun j x h=>by omega,fun j x h hx=>by have:=(List.getElem?_eq_some_iff.1 hx).1;omega⟩,Below.refl _ _⟩
 case round=>
  obtain⟨lo,hi,rfl,rfl,hlh,hin,HI,hbel⟩:=hrel;have hzr:=hbel.size;by_cases hlt:lo<hi
  ·have hml:(lo+hi)/2<ls.length:=by omega
   have HG:Hid (ls[(lo+hi)/2]?=some ls[(lo+hi)/2]):=List.getElem?_eq_getElem hml;generalize ls[(lo+hi)/2]=x at *
   obtain⟨r0,r1⟩:=HR.out wr hbel _ _ HG.out;go_wp2_with fail;refine(place1_any x n wr).mono ?_;rintro e w1 ⟨rfl,hb1⟩;have hB1:=hbel.trans (hb1.mono hzr);clear r0 r1;by_cases hc:less x.name n=true
   ·have hd:decide (cmpS x.name n<0)=true:=by simpa using (cmpS_neg _ _).2 hc
    have HC:Hid (less x.name n=true):=hc;clear hc;generalize cmpS x.name n=cv at *
    go_wp2;refine⟨⟨(lo+hi)/2+1,hi,by go_num,rfl,by omega,hin,⟨?_,HI.out.2⟩,hB1⟩,by simp[intOf];omega⟩;intro j y hj hy;rcases Nat.lt_or_ge j ((lo+hi)/2) with h|h
    ·have:=List.pairwise_iff_getElem.1 HS.out j ((lo+hi)/2) (by omega) hml h
     obtain⟨_,rfl⟩:=List.getElem?_eq_some_iff.1 hy;obtain⟨_,e⟩:=List.getElem?_eq_some_iff.1 HG.out;rw[e] at this;exact less_trans this HC.out
    ·obtain rfl:j=(lo+hi)/2:=by omega
     rw[HG.out] at hy;cases hy;exact HC.out
   ·have hd:decide (cmpS x.name n<0)=false:=by simpa using fun e=>hc ((cmpS_neg _ _).1 e)
    have HC:Hid (less x.name n=false):=by show _=_;simpa using hc
    clear hc;generalize cmpS x.name n=cv at *
    go_wp2;refine⟨⟨lo,(lo+hi)/2,rfl,by go_num,by omega,by omega,⟨HI.out.1,?_⟩,hB1⟩,by simp[intOf];omega⟩;intro j y hj hy;rcases Nat.lt_or_ge ((lo+hi)/2) j with h|h
    ·have hjl:=(List.getElem?_eq_some_iff.1 hy).1
     have:=List.pairwise_iff_getElem.1 HS.out ((lo+hi)/2) j hml hjl h;obtain⟨_,rfl⟩:=List.getElem?_eq_some_iff.1 hy;obtain⟨_,e⟩:=List.getElem?_eq_some_iff.1 HG.out;rw[e] at this;have h3:=HC.out;cases h':less ls[j].name n with
     |false=>rfl
     |true=>rw[less_trans this h'] at h3;cases h3
    ·obtain rfl:j=(lo+hi)/2:=by omega
     rw[HG.out] at hy;cases hy;exact HC.out
  ·obtain rfl:lo=hi:=by omega
   have HP:Hid (PlaceP ls n lo):=⟨hin,HI.out.1,HI.out.2⟩;by_cases hn:lo<ls.length
   ·have HG:Hid (ls[lo]?=some ls[lo]):=List.getElem?_eq_getElem hn
    generalize ls[lo]=x at *
    obtain⟨r0,r1⟩:=HR.out wr hbel _ _ HG.out;have hn':(lo:Int)<ls.length:=by omega
    go_wp2_with fail;refine(place1_any x n wr).mono ?_;rintro e w1 ⟨rfl,hb1⟩;have hB1:=hbel.trans (hb1.mono hzr);clear r0 r1;have HD:Hid (decide (∃y,ls[lo]?=some y/\y.name=n)=(cmpS x.name n==0)):=by
     show _=_;rw[HG.out];by_cases h:x.name=n
     ·rw[(cmpS_zero x.name n).2 h]
      simp[h]
     ·have h0:¬cmpS x.name n=0:=fun e=>h ((cmpS_zero x.name n).1 e)
      rw[show(cmpS x.name n==0)=false by simpa using h0];simp[h]
    generalize cmpS x.name n=cv at *
    go_wp2
    go_ret2
    exact⟨lo,by rw[HD.out];first|rfl|simp[Act.put],HP.out,hB1⟩
   ·have HD:Hid (decide (∃y,ls[lo]?=some y/\y.name=n)=false):=by
     show _=_;rw[List.getElem?_eq_none (by omega)];simp
    have hn':¬((lo:Int)<ls.length):=by omega
    go_wp2
    go_ret2
    exact⟨lo,by rw[HD.out];first|rfl|simp[Act.put],HP.out,hbel⟩
theorem own_some' {w:World} {base:Nat} {e:TypeId} {size:Nat} {v:Value} {n:Nat} {xs:List Value} (h:w.ownsRow base e size v n xs) (hn:0<n):∃g cap,v=.slice (some ⟨g,0,none⟩) n cap:=by
 rcases h.2 with⟨_,hz⟩|⟨g,cap,cur,rfl,_⟩
 ·omega
 ·exact⟨g,cap,rfl⟩
theorem PlaceN.at {ls:List Ld} {n:Int} {i:Nat} (h:PlaceN ls n i) (hth:∃x∈ls,x.num=n) (hsort:ls.Pairwise (fun a b=>a.num<b.num)):∃x,ls[i]?=some x/\x.num=n:=by
 obtain⟨x,hx,hn⟩:=hth;obtain⟨j,hj⟩:=List.getElem?_of_mem hx;have hjl:=(List.getElem?_eq_some_iff.1 hj).1;have hij:i=j:=by
  rcases Nat.lt_trichotomy i j with h'|h'|h'
  ·have h1:=h.hi i ls[i] (Nat.le_refl _) (List.getElem?_eq_getElem (by omega))
   have h2:=List.pairwise_iff_getElem.1 hsort i j (by omega) hjl h';obtain⟨_,e⟩:=List.getElem?_eq_some_iff.1 hj;rw[e] at h2;omega
  ·exact h'
  ·have:=h.lo j x h' hj
   omega
 exact⟨x,hij▸hj,hn⟩
theorem PlaceP.at {ls:List Pd} {n:ByteArray} {i:Nat} (h:PlaceP ls n i) (hth:∃x∈ls,x.name=n) (hsort:ls.Pairwise (fun a b=>less a.name b.name=true)):∃x,ls[i]?=some x/\x.name=n:=by
 obtain⟨x,hx,hn⟩:=hth;obtain⟨j,hj⟩:=List.getElem?_of_mem hx;have hjl:=(List.getElem?_eq_some_iff.1 hj).1;have hij:i=j:=by
  rcases Nat.lt_trichotomy i j with h'|h'|h'
  ·have h1:=h.hi i ls[i] (Nat.le_refl _) (List.getElem?_eq_getElem (by omega))
   have h2:=List.pairwise_iff_getElem.1 hsort i j (by omega) hjl h';obtain⟨_,e⟩:=List.getElem?_eq_some_iff.1 hj;rw[e,hn] at h2;rw[h2] at h1;cases h1
  ·exact h'
  ·have:=h.lo j x h' hj
   rw[hn,less_irrefl] at this;cases this
 exact⟨x,hij▸hj,hn⟩
def giveL (ls:List Ld) (n:Int):List Ld:=ls.filter (fun x=> !decide (x.num=n))
def unpinP (ps:List Pd) (n:ByteArray):List Pd:=ps.filter (fun x=> !decide (x.name=n))
theorem filter_erase {A:Type} {q:A->Bool}:∀{xs:List A} {i:Nat} {x:A},xs[i]?=some x->q x=false->(∀j y,xs[j]?=some y->j≠i->q y=true)->xs.filter q=xs.eraseIdx i
 |[],i,x,hx,_,_=>by simp at hx
 |y::ys,0,x,hx,hq,ho=>by
  simp only[List.getElem?_cons_zero,Option.some.injEq] at hx;subst hx;rw[List.filter_cons,hq,List.eraseIdx_cons_zero];simp only[Bool.false_eq_true,if_false];exact List.filter_eq_self.2 (fun z hz=>by
   obtain⟨j,hj⟩:=List.getElem?_of_mem hz;exact ho (j+1) z (by simpa using hj) (by omega))
 |y::ys,i+1,x,hx,hq,ho=>by
  have hy:=ho 0 y (by simp) (by omega);rw[List.filter_cons,hy,List.eraseIdx_cons_succ];simp only[if_true];rw[filter_erase (i:=i) (x:=x) (by simpa using hx) hq (fun j z hj hne=>ho (j+1) z (by simpa using hj) (by omega))]
theorem giveL_erase {ls:List Ld} {n:Int} {i:Nat} {x:Ld} (hx:ls[i]?=some x) (hn:x.num=n) (hsort:ls.Pairwise (fun a b=>a.num<b.num)):giveL ls n=ls.eraseIdx i:=by
 refine filter_erase hx (by simp[hn]) (fun j y hj hne=> ?_);have hil:=(List.getElem?_eq_some_iff.1 hx).1;have hjl:=(List.getElem?_eq_some_iff.1 hj).1;obtain⟨_,e1⟩:=List.getElem?_eq_some_iff.1 hx;obtain⟨_,e2⟩:=List.getElem?_eq_some_iff.1 hj;rcases Nat.lt_or_gt_of_ne hne with h|h
 ·have:=List.pairwise_iff_getElem.1 hsort j i hjl hil h
  rw[e1,e2] at this;simp;omega
 ·have:=List.pairwise_iff_getElem.1 hsort i j hil hjl h
  rw[e1,e2] at this;simp;omega
theorem unpinP_erase {ls:List Pd} {n:ByteArray} {i:Nat} {x:Pd} (hx:ls[i]?=some x) (hn:x.name=n) (hsort:ls.Pairwise (fun a b=>less a.name b.name=true)):unpinP ls n=ls.eraseIdx i:=by
 refine filter_erase hx (by simp[hn]) (fun j y hj hne=> ?_);have hil:=(List.getElem?_eq_some_iff.1 hx).1;have hjl:=(List.getElem?_eq_some_iff.1 hj).1;obtain⟨_,e1⟩:=List.getElem?_eq_some_iff.1 hx;obtain⟨_,e2⟩:=List.getElem?_eq_some_iff.1 hj;have hne':y.name≠n:=fun e=>by
  rcases Nat.lt_or_gt_of_ne hne with h|h
  ·have:=List.pairwise_iff_getElem.1 hsort j i hjl hil h
   rw[e1,e2,e,hn,less_irrefl] at this;cases this
  ·have:=List.pairwise_iff_getElem.1 hsort i j hil hjl h
   rw[e1,e2,e,hn,less_irrefl] at this;cases this
 simpa using hne'
theorem give_yes (base d m:Nat) (O P L:Value) (wd now given births:Int) (ks:List Kd) (ps:List Pd) (ls:List Ld) (n:Int) (w:World) (h:DU w base d m O P L wd now given births ks ps ls) (hl:ls.length<=200) (hsort:ls.Pairwise (fun a b=>a.num<b.num)) (hth:∃x∈ls,x.num=n):
 Calls prog 172 #[.pointer (some ⟨d,0,none⟩),.int .i64 n] w fun e w'=>e=.returned (.tuple #[])/\∃L',DU w' base d m O P L' wd now given births ks ps (giveL ls n)/\Tn (d::L.ownBlock.toList) w w':=by
 have hpos:0<ls.length:=by obtain⟨x,hx,_⟩:=hth;exact List.length_pos_of_mem hx
 obtain⟨g,cap,hLe⟩:=own_some' h.dr.lea hpos;subst hLe;have HD:Hid (DU w base d m O P (.slice (some ⟨g,0,none⟩) ls.length cap) wd now given births ks ps ls):=h;have HSo:Hid (ls.Pairwise (fun a b=>a.num<b.num)):=hsort;have HTh:Hid (∃x∈ls,x.num=n):=hth;have HS:Hid _:=searchLease_any g cap ls n w base h.dr.lea (by omega) hsort;obtain⟨c7,_⟩:=h.dr.box 7 _ rfl;clear h hsort hth;go_enter func172,ntmps172
 go_wp2_with fail;refine Calls.mono HS.out ?_;rintro e w1 ⟨i,rfl,hp1,hb1⟩;obtain⟨x,hxi,hxn⟩:=hp1.at HTh.out HSo.out;have hdec:decide (∃x,ls[i]?=some x/\x.num=n)=true:=by simpa using ⟨x,hxi,hxn⟩
 have hil:i<ls.length:=(List.getElem?_eq_some_iff.1 hxi).1;have HE:Hid (giveL ls n=ls.eraseIdx i):=giveL_erase hxi hxn HSo.out;have hD1:=HD.out.below hb1;have HD1:Hid (DU w1 base d m O P (.slice (some ⟨g,0,none⟩) ls.length cap) wd now given births ks ps ls):=hD1;have HB1:Hid (Below w.heap.size w w1):=hb1;have HDel:Hid _:=deleteLease_any g cap i ls w1 base hD1.dr.lea (by omega) hil
 obtain⟨e7,_⟩:=hD1.dr.box 7 _ rfl;rw[hdec];clear hdec hxi hxn hp1 hD1 hb1 HD HS HTh HSo c7;go_wp2_with fail;refine Calls.mono HDel.out ?_;rintro e w2 ⟨rfl,ho2,hg2⟩;have hne:∀b,(Value.slice (some ⟨g,0,none⟩) (ls.length -1) cap).ownBlock=some b->b≠d:=fun b hb=>((ap_parts HD1.out.dr.ap).2.2.2 b hb).1
 have hbox2:CellsAt w2 d [.int .i64 wd,.map (some m),.int .i64 now,.int .i64 given,.int .i64 births,O,P,.slice (some ⟨g,0,none⟩) ls.length cap]:=CellsAt.same HD1.out.dr.box (hg2.block d HD1.out.dr.box.lt (fun e=>hne g rfl (Option.some.inj e).symm));obtain⟨f7,k7⟩:=hbox2 7 _ rfl
 have hK:∃L',DU (w2.setCell ⟨d,7,none⟩ (.slice (some ⟨g,0,none⟩) (ls.length -1) cap)) base d m O P L' wd now given births ks ps (giveL ls n)/\Tn (d::(Value.slice (some ⟨g,0,none⟩) ls.length cap).ownBlock.toList) w (w2.setCell ⟨d,7,none⟩ (.slice (some ⟨g,0,none⟩) (ls.length -1) cap)):=by
  have t1:Tn (d::(Value.slice (some ⟨g,0,none⟩) ls.length cap).ownBlock.toList) w1 (w2.setCell ⟨d,7,none⟩ (.slice (some ⟨g,0,none⟩) (ls.length -1) cap)):=
   ((tn_grown hg2).mono (by intro b hb;simp[Value.ownBlock] at hb ⊢;exact .inr hb)).trans ((tn1 w2 d 7 _).mono (by simp))
  refine⟨_,HD1.out.newL t1 (hbox2.set 7 _) ?_ (.inl rfl),(Tn.of HB1.out).trans t1⟩;rw[HE.out,List.length_eraseIdx,if_pos hil];exact own_set ho2 hne 7 _
 have HK:Hid _:=hK;clear hK ho2 hg2 hbox2 e7;go_wp2
 go_end0
 exact⟨rfl,HK.out⟩
theorem pinPlace_any (base d m:Nat) (O L:Value) (g cap:Nat) (wd now given births:Int) (ks:List Kd) (ps:List Pd) (ls:List Ld) (n:ByteArray) (w:World) (h:DU w base d m O (.slice (some ⟨g,0,none⟩) ps.length cap) L wd now given births ks ps ls) (hl:ps.length<=200) (hsort:ps.Pairwise (fun a b=>less a.name b.name=true)):
 Calls prog 201 #[.pointer (some ⟨d,0,none⟩),.string n] w fun e w'=>∃i:Nat,e=.returned (.tuple #[.int .i64 i,.bool (decide (∃x,ps[i]?=some x/\x.name=n))])/\PlaceP ps n i/\Below w.heap.size w w':=by
 have HS:Hid _:=searchPin_any g cap ps n w base h.dr.pin (by omega) hsort;obtain⟨c6,_⟩:=h.dr.box 6 _ rfl;clear h hsort;go_enter func201,ntmps201;go_wp2_with fail;refine Calls.mono HS.out ?_;rintro e w1 ⟨i,rfl,hp1,hb1⟩;obtain⟨bb,hbb⟩:∃bb,decide (∃x,ps[i]?=some x/\x.name=n)=bb:=⟨_,rfl⟩;have HBB:Hid (decide (∃x,ps[i]?=some x/\x.name=n)=bb):=hbb;rw[hbb];clear hbb;go_wp2
 go_ret2
 exact⟨i,by rw[HBB.out];rfl,hp1,hb1⟩
theorem unpin_yes (base d m:Nat) (O P L:Value) (wd now given births:Int) (ks:List Kd) (ps:List Pd) (ls:List Ld) (n:ByteArray) (w:World) (h:DU w base d m O P L wd now given births ks ps ls) (hl:ps.length<=200) (hsort:ps.Pairwise (fun a b=>less a.name b.name=true)) (hth:∃x∈ps,x.name=n):
 Calls prog 171 #[.pointer (some ⟨d,0,none⟩),.string n] w fun e w'=>e=.returned (.tuple #[])/\∃P',DU w' base d m O P' L wd now given births ks (unpinP ps n) ls/\Tn (d::P.ownBlock.toList) w w':=by
 have hpos:0<ps.length:=by obtain⟨x,hx,_⟩:=hth;exact List.length_pos_of_mem hx
 obtain⟨g,cap,hLe⟩:=own_some' h.dr.pin hpos;subst hLe;have HD:Hid (DU w base d m O (.slice (some ⟨g,0,none⟩) ps.length cap) L wd now given births ks ps ls):=h;have HSo:Hid (ps.Pairwise (fun a b=>less a.name b.name=true)):=hsort;have HTh:Hid (∃x∈ps,x.name=n):=hth;have HS:Hid _:=pinPlace_any base d m O L g cap wd now given births ks ps ls n w h hl hsort;clear h hsort hth;go_enter func171,ntmps171
 go_wp2_with fail;refine Calls.mono HS.out ?_;rintro e w1 ⟨i,rfl,hp1,hb1⟩;obtain⟨x,hxi,hxn⟩:=hp1.at HTh.out HSo.out;have hdec:decide (∃x,ps[i]?=some x/\x.name=n)=true:=by simpa using ⟨x,hxi,hxn⟩
 have hil:i<ps.length:=(List.getElem?_eq_some_iff.1 hxi).1;have HE:Hid (unpinP ps n=ps.eraseIdx i):=unpinP_erase hxi hxn HSo.out;have hD1:=HD.out.below hb1;have HD1:Hid (DU w1 base d m O (.slice (some ⟨g,0,none⟩) ps.length cap) L wd now given births ks ps ls):=hD1;have HB1:Hid (Below w.heap.size w w1):=hb1;have HDel:Hid _:=deletePin_any g cap i ps w1 base hD1.dr.pin (by omega) hil
 obtain⟨e6,_⟩:=hD1.dr.box 6 _ rfl;rw[hdec];clear hdec hxi hxn hp1 hD1 hb1 HD HS HTh HSo;go_wp2_with fail;refine Calls.mono HDel.out ?_;rintro e w2 ⟨rfl,ho2,hg2⟩;have hne:∀b,(Value.slice (some ⟨g,0,none⟩) (ps.length -1) cap).ownBlock=some b->b≠d:=fun b hb=>((ap_parts HD1.out.dr.ap).2.2.1 b hb).1
 have hbox2:CellsAt w2 d [.int .i64 wd,.map (some m),.int .i64 now,.int .i64 given,.int .i64 births,O,.slice (some ⟨g,0,none⟩) ps.length cap,L]:=CellsAt.same HD1.out.dr.box (hg2.block d HD1.out.dr.box.lt (fun e=>hne g rfl (Option.some.inj e).symm));obtain⟨f6,k6⟩:=hbox2 6 _ rfl
 have hK:∃P',DU (w2.setCell ⟨d,6,none⟩ (.slice (some ⟨g,0,none⟩) (ps.length -1) cap)) base d m O P' L wd now given births ks (unpinP ps n) ls/\Tn (d::(Value.slice (some ⟨g,0,none⟩) ps.length cap).ownBlock.toList) w (w2.setCell ⟨d,6,none⟩ (.slice (some ⟨g,0,none⟩) (ps.length -1) cap)):=by
  have t1:Tn (d::(Value.slice (some ⟨g,0,none⟩) ps.length cap).ownBlock.toList) w1 (w2.setCell ⟨d,6,none⟩ (.slice (some ⟨g,0,none⟩) (ps.length -1) cap)):=
   ((tn_grown hg2).mono (by intro b hb;simp[Value.ownBlock] at hb ⊢;exact .inr hb)).trans ((tn1 w2 d 6 _).mono (by simp))
  refine⟨_,HD1.out.newP t1 (hbox2.set 6 _) ?_ (.inl rfl),(Tn.of HB1.out).trans t1⟩;rw[HE.out,List.length_eraseIdx,if_pos hil];exact own_set ho2 hne 6 _
 have HK:Hid _:=hK;clear hK ho2 hg2 hbox2 e6;go_wp2
 go_end0
 exact⟨rfl,HK.out⟩
def waitL (ls:List Ld) (n:Int):List Ld:=ls.filter (fun x=> !decide (x.til<=n))
theorem wait1_any (x:Ld) (b d:Nat) (n:Int) (w:World) (hc:w.cell? ⟨b,0,none⟩=some (.pointer (some ⟨d,0,none⟩))) (hn:w.cell? ⟨d,2,none⟩=some (.int .i64 n)):
 Calls prog 209 #[.agg #[.int .i64 x.num,.string x.sum,.int .i64 x.til],.pointer (some ⟨b,0,none⟩)] w fun e w'=>e=.returned (.bool (decide (x.til<=n)))/\Below w.heap.size w w':=by
 obtain⟨W,hW⟩:∃W,W=w.alloc (.cells #[.int .i64 x.num,.string x.sum,.int .i64 x.til] 137):=⟨_,rfl⟩;have hB:=(al1 hW).1;have c0:W.cell? ⟨w.heap.size,2,none⟩=some (.int .i64 x.til):=by rw[hW];simp[go_sem]
 have c1:=(hB.cell (p:=⟨b,0,none⟩) (World.block_lt_of_cell? w _ hc)).trans hc;have c2:=(hB.cell (p:=⟨d,2,none⟩) (World.block_lt_of_cell? w _ hn)).trans hn;have hd:b<W.heap.size/\d<W.heap.size:=⟨World.block_lt_of_cell? W _ c1,World.block_lt_of_cell? W _ c2⟩;have HW:Hid _:=hW;clear hW hc hn;go_enter func209,ntmps209;go_upto_region 1 with fail;rw[←HW.out];clear HW
 have HB:Hid (Below w.heap.size w W):=hB;clear hB;cases hbb:decide (x.til<=n)
 all_goals
  have HBB:Hid _:=hbb;go_region_with fail
  all_goals
   clear c0 c1 c2;go_wp2;go_ret;exact⟨by rw[HBB.out];rfl,HB.out.drew⟩
def FirstAt (ls:List Ld) (n r:Int):Prop:=(r= -1/\∀x∈ls,n<x.til)∨∃(i:Nat) (x:Ld),r=i/\ls[i]?=some x/\x.til<=n/\∀j y,j<i->ls[j]?=some y->n<y.til
theorem indexWait_any (a:Option Addr) (cap b d:Nat) (n:Int) (ls:List Ld) (w:World) (hrow:LRow w w.heap.size a ls) (hl:ls.length<=1048576) (hc:w.cell? ⟨b,0,none⟩=some (.pointer (some ⟨d,0,none⟩))) (hn:w.cell? ⟨d,2,none⟩=some (.int .i64 n)):
 Calls prog 236 #[.slice a ls.length cap,.func (.func 209) #[] #[.pointer (some ⟨b,0,none⟩)]] w fun e w'=>∃r:Int,e=.returned (.int .i64 r)/\FirstAt ls n r/\Below w.heap.size w w':=by
 have hbl:b<w.heap.size:=World.block_lt_of_cell? w _ hc;have hdl:d<w.heap.size:=World.block_lt_of_cell? w _ hn;go_enter func236,ntmps236;go_wp2
 go_loopw [8] (fun i wr=>∃k:Nat,k<=ls.length/\i=.int .i64 k/\Hid (∀j x,j<k->ls[j]?=some x->n<x.til)/\Below w.heap.size w wr) (fun i _=>ls.length -(intOf i).toNat)
 case atStart=>exact⟨0,Nat.zero_le _,rfl,(fun j x h=>by omega),Below.refl _ _⟩
 case round=>
  obtain⟨k,hk,rfl,hall,hbel⟩:=hrel;have hzr:=hbel.size;by_cases hlt:k<ls.length
  ·obtain⟨b',off,ha,hb,hc'⟩:=(hrow.below hbel).at hlt
   subst ha;have hg:Hid (ls[k]?=some ls[k]):=List.getElem?_eq_getElem hlt;obtain⟨c0,c1,c2⟩:=hc' k _ hg.out;have hcr:=(hbel.cell (p:=⟨b,0,none⟩) hbl).trans hc;have hnr:=(hbel.cell (p:=⟨d,2,none⟩) hdl).trans hn;clear hc' hrow;generalize ls[k]=x at *
   go_wp2_with fail;refine(wait1_any x b d n wr hcr hnr).mono ?_;rintro e w1 ⟨rfl,hb1⟩;have hB1:=hbel.trans (hb1.mono hzr);by_cases h:x.til<=n
   ·have hd:decide (x.til<=n)=true:=by simpa using h
    have HH:Hid (x.til<=n):=h;rw[hd];clear h hd;go_wp2;go_ret;exact⟨_,rfl,.inr ⟨k,x,rfl,hg.out,HH.out,hall.out⟩,hB1⟩
   ·have HA:Hid (∀j y,j<k+1->ls[j]?=some y->n<y.til):=by
     intro j y hj hy;rcases Nat.lt_or_ge j k with h'|h'
     ·exact hall.out j y h' hy
     ·obtain rfl:j=k:=by omega
      rw[hg.out] at hy;cases hy;exact Int.not_le.1 h
    have hd:decide (x.til<=n)=false:=by simpa using h
    rw[hd];clear h hd;go_wp2;exact⟨⟨k+1,by omega,by go_num,HA,hB1⟩,by simp[intOf];omega⟩
  ·go_wp2
   go_ret;refine⟨_,rfl,.inl ⟨rfl,fun x hx=> ?_⟩,hbel⟩;obtain⟨j,hj,rfl⟩:=List.getElem_of_mem hx;exact hall.out j _ (by omega) (List.getElem?_eq_getElem hj)
def refsN (ks:List Kd):Nat:=(ks.map (fun k=>k.refs.length)).sum
theorem refsN_snoc {ks:List Kd} {k:Nat} {x:Kd} (h:ks[k]?=some x):refsN (ks.take (k+1))=refsN (ks.take k)+x.refs.length:=by
 unfold refsN;rw[List.take_add_one,h];simp
theorem refsN_take (ks:List Kd) (k:Nat):refsN (ks.take k)<=refsN ks:=by
 have h:refsN ks=refsN (ks.take k)+refsN (ks.drop k):=by
  unfold refsN;rw[←List.sum_append,←List.map_append,List.take_append_drop]
 omega
theorem szThing_t (t:ByteArray) (a:Option Addr) (cap:Nat) (ss:List ByteArray) (left:Int) (w:World) (hrow:SRow w w.heap.size a ss)
 (ht:t.size<=maxLen) (hl:ss.length<=maxLen) (hs:∀s∈ss,s.size<=maxLen) (h1:0<=left) (h2:left<=1048576):
 Calls prog 175 #[.agg #[.string t,.slice a ss.length cap],.int .i64 left] w fun e w'=>∃r:Int,e=.returned (.int .i64 r)/\Below w.heap.size w w'/\r<=left/\(0<=r->ss.length<=1048576/\r<=left -ss.length):=by
 by_cases hfit:(t.size:Int)+ss.length+bulk ss<=left
 ·refine(szThing_yes t a cap ss left w hrow h2 hfit).mono ?_
  rintro e w' ⟨rfl,hb⟩;exact⟨_,rfl,hb,by omega,fun _=>⟨by omega,by omega⟩⟩
 ·refine(szThing_no t a cap ss left w hrow ht hl hs h1 h2 (by omega)).mono ?_
  rintro e w' ⟨rfl,hb⟩;exact⟨_,rfl,hb,by omega,fun h=>by omega⟩
theorem szKept_t (k:Kd) (a:Option Addr) (cap:Nat) (left:Int) (w:World) (hrow:SRow w w.heap.size a k.refs)
 (h0:k.sum.size<=maxLen) (ht:k.text.size<=maxLen) (hl:k.refs.length<=maxLen) (hs:∀s∈k.refs,s.size<=maxLen) (h1:0<=left) (h2:left<=1048576):
 Calls prog 143 #[.agg #[.string k.sum,.int .i64 k.born,.string k.text,.slice a k.refs.length cap],.int .i64 left] w fun e w'=>∃r:Int,e=.returned (.int .i64 r)/\Below w.heap.size w w'/\r<=left/\(0<=r->k.refs.length<=1048576/\r<=left -k.refs.length):=by
 have hb:Below w.heap.size w (w.alloc (.cells #[.string k.sum,.int .i64 k.born,.string k.text,.slice a k.refs.length cap] 194)):=(Below.refl _ _).alloc (Nat.le_refl _) _;have h0':=h0;unfold maxLen at h0';by_cases hn:left<k.sum.size
 ·go_enter func143,ntmps143
  go_wp2;go_ret;exact⟨_,rfl,hb,by omega,fun h=>by omega⟩
 ·go_enter func143,ntmps143
  go_wp2_with fail;refine(szThing_t k.text a cap k.refs _ _ (hrow.below' hb) ht hl hs (by omega) (by omega)).mono ?_;rintro e w1 ⟨r,rfl,hb1,hr,hf⟩;have hB:=hb.trans (hb1.mono (by simp));by_cases h3:r<0
  ·go_wp2
   go_ret;exact⟨_,rfl,hB,by omega,fun h=>by omega⟩
  ·go_wp2
   go_ret;exact⟨_,rfl,hB,by omega,fun h=>⟨(hf (by omega)).1,by have:=(hf (by omega)).2;omega⟩⟩
theorem szKeptS_t (a:Option Addr) (cap:Nat) (ks:List Kd) (left:Int) (w:World) (hrow:KRow w w.heap.size a ks) (hm:KMem ks) (h1:0<=left) (h2:left<=1048576):
 Calls prog 111 #[.slice a ks.length cap,.int .i64 left] w fun e w'=>∃r:Int,e=.returned (.int .i64 r)/\Below w.heap.size w w'/\r<=left/\(0<=r->ks.length<=1048576/\(∀k∈ks,k.refs.length<=1048576)/\(refsN ks:Int)<=1048576):=by
 have hml:=hm.len;unfold maxLen at hml;by_cases hn:left<ks.length
 ·go_enter func111,ntmps111
  go_wp2;go_ret;exact⟨_,rfl,Below.refl _ _,by omega,fun h=>by omega⟩
 ·go_enter func111,ntmps111
  go_wp2
  go_loopw [1,5] (fun l i wr=>∃(k:Nat) (L:Int),k<=ks.length/\i=.int .i64 k/\l=.int .i64 L/\0<=L/\L<=left -refsN (ks.take k)/\Below w.heap.size w wr/\Hid (∀j,j<k->∀x,ks[j]?=some x->x.refs.length<=1048576)) (fun _ i _=>ks.length -(intOf i).toNat)
  case atStart=>exact⟨0,_,Nat.zero_le _,rfl,rfl,by omega,by simp[refsN];omega,Below.refl _ _,fun j h=>by omega⟩
  case round=>
   obtain⟨k,L,hk,rfl,rfl,hL0,hL,hbel,hall⟩:=hrel;by_cases hlt:k<ks.length
   ·obtain⟨b,off,ha,hb,hc⟩:=hrow.at hlt
    subst ha;have hg:ks[k]?=some ks[k]:=List.getElem?_eq_getElem hlt;have hmem:=List.getElem_mem hlt;obtain⟨c0,c1,c2,ra,rc,c3,hrr⟩:=(hc k _ hg).below hbel hb;have m0:=hm.sum _ hmem;have m1:=hm.text _ hmem;have m2:=hm.refs _ hmem;have m3:=hm.ref _ hmem;have HG:Hid _:=hg;have hrn:refsN (ks.take (k+1))=refsN (ks.take k)+ks[k].refs.length:=refsN_snoc hg;clear hc hrow hm hmem hg
    generalize ks[k]=x at *
    have hcon:=szKept_t x ra rc L wr (hrr.mono hbel.size) m0 m1 m2 m3 hL0 (by omega);have HC:Hid _:=hcon;clear hcon m3 hrr;go_wp2_with fail;refine Calls.mono HC.out ?_;rintro e w1 ⟨r,rfl,hb1,hr,hf⟩;have hB:=hbel.trans (hb1.mono hbel.size);by_cases h3:r<0
    ·go_wp2
     go_ret;exact⟨_,rfl,hB,by omega,fun h=>by omega⟩
    ·have HA:Hid (∀j,j<k+1->∀x,ks[j]?=some x->x.refs.length<=1048576):=by
      intro j hj y hy;rcases Nat.lt_or_ge j k with h'|h'
      ·exact hall j h' y hy
      ·obtain rfl:j=k:=by omega
       rw[HG.out] at hy;cases hy;exact(hf (by omega)).1
     have hr2:=(hf (by omega)).2;clear hf hall;go_wp2;exact⟨⟨k+1,_,by omega,by go_num,rfl,by omega,by omega,hB,HA⟩,by simp[intOf];omega⟩
   ·go_wp2
    go_ret;refine⟨_,rfl,hbel,by omega,fun _=>⟨by omega,fun x hx=> ?_,by rw[List.take_of_length_le (by omega)] at hL;omega⟩⟩;obtain⟨j,hj,rfl⟩:=List.getElem_of_mem hx;exact hall j (by omega) _ (List.getElem?_eq_getElem hj)
theorem szState_t (wd now given births:Int) (a p l:Option Addr) (ac pc lc:Nat) (ks:List Kd) (ps:List Pd) (ls:List Ld) (left:Int) (w:World) (hrow:SRows w w.heap.size a p l ks ps ls)
 (hk:KMem ks) (hp:PMem ps) (hl:LMem ls) (h1:0<=left) (h2:left<=1048576):
 Calls prog 65 #[.agg #[.int .i64 wd,.int .i64 now,.int .i64 given,.int .i64 births,.slice a ks.length ac,.slice p ps.length pc,.slice l ls.length lc],.int .i64 left] w fun e w'=>∃r:Int,e=.returned (.int .i64 r)/\Below w.heap.size w w'/\r<=left/\(0<=r->SFit ks ps ls/\refsN ks<=1048576):=by
 have hb:Below w.heap.size w (w.alloc (.cells #[.int .i64 wd,.int .i64 now,.int .i64 given,.int .i64 births,.slice a ks.length ac,.slice p ps.length pc,.slice l ls.length lc] 57)):=(Below.refl _ _).alloc (Nat.le_refl _) _;have hx:=SBox.new w wd now given births (.slice a ks.length ac) (.slice p ps.length pc) (.slice l ls.length lc) 57;go_enter func65,ntmps65;go_wp2_with fail
 refine(szKeptS_t a ac ks _ _ (hrow.below' hb).k hk (by omega) (by omega)).mono ?_;rintro e w1 ⟨r,rfl,hb1,hr,hf1⟩;have hB:=hb.trans (hb1.mono (by simp));obtain⟨_,_,_,_,_,x5,x6,x7⟩:=hx.below hb1;have hz:=hb1.size;clear hb1;by_cases h3:r<0
 ·go_wp2
  go_ret;exact⟨_,rfl,hB,by omega,fun h=>by omega⟩
 ·go_wp2_with fail
  refine(szPinS_any p pc ps _ _ (hrow.below' hB).p hp (by omega) (by omega)).mono ?_;rintro e w2 ⟨r2,rfl,hb2,hr2,hf2⟩;have hB2:=hB.trans (hb2.mono hB.size);replace x6:=(hb2.cell (p:=⟨w.heap.size,6,none⟩) x7).trans x6;have hz2:=hb2.size;clear hb2 x5;by_cases h4:r2<0
  ·go_wp2
   go_ret;exact⟨_,rfl,hB2,by omega,fun h=>by omega⟩
  ·go_wp2_with fail
   refine(szLeaseS_any l lc ls _ _ (hrow.below' hB2).l hl (by omega) (by omega)).mono ?_;rintro e w3 ⟨r3,rfl,hb3,hr3,hf3⟩;have hB3:=hB2.trans (hb3.mono hB2.size);by_cases h5:r3<0
   ·go_wp2
    go_ret;exact⟨_,rfl,hB3,by omega,fun h=>by omega⟩
   ·go_wp2
    go_ret;exact⟨_,rfl,hB3,by omega,fun _=>⟨⟨(hf1 (by omega)).1,(hf1 (by omega)).2.1,hf2 (by omega),hf3 (by omega)⟩,by have:=(hf1 (by omega)).2.2;omega⟩⟩
end Go.Proofs.YtpekbmegopfhfaaGreatDoor
