import Derived.Test.YtflhhhnlhlaehaaGreatDoorC11
set_option maxRecDepth 100000
set_option maxHeartbeats 16000000
namespace Go.Proofs.YtflhhhnlhlaehaaGreatDoor
open Go.ChangeShapes Go.WideShapes Go.ChangeAt Go.RowKit _root_.Go.Proofs.Tryz
def Bc (ls:List Ld) (n:Int):List Ld:=ls.filter (fun x=> !decide (x.til<=n))
theorem JR (x:Ld) (b d:Nat) (n:Int) (w:World) (hc:w.cell? ⟨b,0,none⟩=some (.pointer (some ⟨d,0,none⟩))) (hn:w.cell? ⟨d,2,none⟩=some (.int .i64 n)):
 Calls prog 132 #[.agg #[.int .i64 x.num,.string x.sum,.int .i64 x.til],.pointer (some ⟨b,0,none⟩)] w fun e w'=>e=.returned (.bool (decide (x.til<=n)))/\Uq w w':=by
 obtain⟨W,hW⟩:∃W,W=w.alloc (.cells #[.int .i64 x.num,.string x.sum,.int .i64 x.til] 111):=⟨_,rfl⟩;have hB:=(AC hW).1;have c0:W.cell? ⟨w.heap.size,2,none⟩=some (.int .i64 x.til):=by rw[hW];simp[go_sem]
 have c1:=(hB.cell (p:=⟨b,0,none⟩) (World.block_lt_of_cell? w _ hc)).trans hc;have c2:=(hB.cell (p:=⟨d,2,none⟩) (World.block_lt_of_cell? w _ hn)).trans hn;have hd:b<W.heap.size/\d<W.heap.size:=⟨World.block_lt_of_cell? W _ c1,World.block_lt_of_cell? W _ c2⟩;have HW:Hid _:=hW;clear hW hc hn;go_enter func132,ntmps132;go_upto_region 1 with fail;rw[←HW.o];clear HW;have HB:Hid _:=hB;clear hB
 cases hbb:decide (x.til<=n)
 all_goals
  have zA:Hid _:=hbb;go_region_with fail
  all_goals
   clear c0 c1 c2;go_wp2;go_ret;exact⟨by rw[zA.o];rfl,HB.o.drew⟩
def Rb (ls:List Ld) (n r:Int):Prop:=(r= -1/\∀x∈ls,n<x.til)∨∃(i:Nat) (x:Ld),r=i/\ls[i]?=some x/\x.til<=n/\∀j y,j<i->ls[j]?=some y->n<y.til
theorem Gb (a:Option Addr) (cap b d:Nat) (n:Int) (ls:List Ld) (w:World) (zC:Bj w w.heap.size a ls) (hl:ls.length<=1048576) (hc:w.cell? ⟨b,0,none⟩=some (.pointer (some ⟨d,0,none⟩))) (hn:w.cell? ⟨d,2,none⟩=some (.int .i64 n)):
 Calls prog 158 #[.slice a ls.length cap,.func (.func 132) #[] #[.pointer (some ⟨b,0,none⟩)]] w fun e w'=>∃r:Int,e=.returned (.int .i64 r)/\Rb ls n r/\Uq w w':=by
 have zG:=World.block_lt_of_cell? w _ hc;have zI:=World.block_lt_of_cell? w _ hn;go_enter func158,ntmps158;go_wp2
 go_loopw [8] (fun i wr=>∃k:Nat,k<=ls.length/\i=.int .i64 k/\Hid (∀j x,j<k->ls[j]?=some x->n<x.til)/\Uq w wr) (fun i _=>ls.length -(intOf i).toNat)
 case atStart=>exact⟨0,Nat.zero_le _,rfl,(fun j x h=>by omega),Below.refl _ _⟩
 case round=>
  obtain⟨k,hk,rfl,zB,zA⟩:=hrel;have zK:=zA.size;by_cases hlt:k<ls.length
  ·obtain⟨b',off,ha,hb,zE⟩:=(zC.below zA).at hlt
   subst ha;have hg:Hid _:=Uu hlt;obtain⟨c0,c1,c2⟩:=zE k _ hg.o;have zH:=(zA.cell (p:=⟨b,0,none⟩) zG).trans hc;have zJ:=(zA.cell (p:=⟨d,2,none⟩) zI).trans hn;clear zE zC;generalize ls[k]=x at *
   go_wp2_with fail;refine(JR x b d n wr zH zJ).mono ?_;rintro e w1 ⟨rfl,zF⟩;have zD:=zA.trans (zF.mono zK);by_cases h:x.til<=n
   ·have hd:decide (x.til<=n)=true:=by simpa using h
    have HH:Hid _:=h;rw[hd];clear h hd;go_wp2;go_ret;exact⟨_,rfl,.inr ⟨k,x,rfl,hg.o,HH.o,zB.o⟩,zD⟩
   ·have HA:Hid (∀j y,j<k+1->ls[j]?=some y->n<y.til):=by
     intro j y hj hy;rcases Nat.lt_or_ge j k with h'|h'
     ·exact zB.o j y h' hy
     ·obtain rfl:j=k:=by omega
      rw[hg.o] at hy;cases hy;exact Int.not_le.1 h
    have hd:decide (x.til<=n)=false:=by simpa using h
    rw[hd];clear h hd;go_wp2;exact⟨⟨k+1,by omega,by go_num,HA,zD⟩,by simp[intOf];omega⟩
  ·go_wp2
   go_ret;refine⟨_,rfl,.inl ⟨rfl,fun x hx=> ?_⟩,zA⟩;obtain⟨j,hj,rfl⟩:=List.getElem_of_mem hx;exact zB.o j _ (by omega) (Uu hj)
def DF (ks:List Kd):Nat:=(ks.map (fun k=>k.refs.length)).sum
def Qr (w w':World):Prop:=∀b o,(w.cell? ⟨b,o,none⟩).isSome=true->(w'.cell? ⟨b,o,none⟩).isSome=true/\(w.frozen? ⟨b,o,none⟩=false->w'.frozen? ⟨b,o,none⟩=false)
def Wr (w:World) (q n:Nat):Prop:=∀j,j<n->(w.cell? ⟨q,j,none⟩).isSome=true/\w.frozen? ⟨q,j,none⟩=false
def Ue (w wr:World) (g n:Nat):Prop:=Wr wr g n/\w.grownBy wr (some g)/\Qr w wr
structure Uf (w wr:World) (lo N g:Nat) (ks:List Kd):Prop where
 row:Wr wr g (ks.length *4)
 bel:Below lo w wr
 al:Qr w wr
 far:∀k,N<=k->k<w.heap.size->wr.heap[k]?=w.heap[k]?
 refs:∀i x,ks[i]?=some x->∃q c,wr.cell? ⟨g,i *4+3,none⟩=some (.slice (some ⟨q,0,none⟩) x.refs.length c)/\g<q/\q<N/\Wr wr q x.refs.length
def SI (k:Nat) (x:Kd):Kd:=⟨Mu k,(k:Int)+1,Mu (k+1+1),marks (k+1+1+1) x.refs.length⟩
def Qs:Nat->List Kd->List Kd
 |_,[]=>[]
 |k,x::xs=>SI k x::Qs (k+3+x.refs.length) xs
theorem Na (x:Kd) (xs:List Kd):DF (x::xs)=x.refs.length+DF xs:=by simp[DF]
structure TQ (w:World) (base:Nat) (T:Value) (rs:List Value) (ks:List Kd):Prop where
 len:rs.length=ks.length
 things:w.ownsRow base 115 4 T ks.length (Ab kC (ks.zip rs))
 refs:∀(i:Nat) (k:Kd) (r:Value),ks[i]?=some k->rs[i]?=some r->w.ownsRow base 9 1 r k.refs.length (k.refs.map Value.string)
 nd:(T.ownBlock.toList++rs.filterMap Value.ownBlock).Nodup
def SJ (k:Nat) (ps:List Pd):List Pd:=(List.range ps.length).map fun i=>⟨Mu (k+i *2),Mu (k+i *2+1)⟩
def SK (k:Nat) (ls:List Ld):List Ld:=(List.range ls.length).map fun(i:Nat)=>⟨(k:Int)+(i:Int) *3,Mu (k+i *3+1),(k:Int)+(i:Int) *3+1+1⟩
theorem Lr:∀{zs:List Pd} {i:Nat},i<zs.length->∀y:Pd,((Ab pC zs).set (i *2) (.string y.name)).set (i *2+1) (.string y.sum)=Ab pC (zs.set i y)
 |[],i,h,_=>by simp at h
 |z::zs,0,h,y=>by simp[Ab,pC]
 |z::zs,i+1,h,y=>by
  have ih:=Lr (zs:=zs) (i:=i) (by simpa using h) y;have e:Ab pC (z::zs)=pC z++Ab pC zs:=by simp[Ab]
  have e2:Ab pC ((z::zs).set (i+1) y)=pC z++Ab pC (zs.set i y):=by simp[Ab]
  rw[e,e2,←ih,show(i+1) *2=(pC z).length+i *2 by rw[Bp];omega];rw[List.set_append_right _ _ (by omega),Nat.add_sub_cancel_left,show(pC z).length+i *2+1=(pC z).length+(i *2+1) by omega,List.set_append_right _ _ (by omega),Nat.add_sub_cancel_left]
theorem Ls:∀{zs:List Ld} {i:Nat},i<zs.length->∀y:Ld,(((Ab lC zs).set (i *3) (.int .i64 y.num)).set (i *3+1) (.string y.sum)).set (i *3+2) (.int .i64 y.til)=Ab lC (zs.set i y)
 |[],i,h,_=>by simp at h
 |z::zs,0,h,y=>by simp[Ab,lC]
 |z::zs,i+1,h,y=>by
  have ih:=Ls (zs:=zs) (i:=i) (by simpa using h) y;have e:Ab lC (z::zs)=lC z++Ab lC zs:=by simp[Ab]
  have e2:Ab lC ((z::zs).set (i+1) y)=lC z++Ab lC (zs.set i y):=by simp[Ab]
  rw[e,e2,←ih,show(i+1) *3=(lC z).length+i *3 by rw[Cj];omega];rw[List.set_append_right _ _ (by omega),Nat.add_sub_cancel_left,show(lC z).length+i *3+1=(lC z).length+(i *3+1) by omega,List.set_append_right _ _ (by omega),Nat.add_sub_cancel_left,show(lC z).length+i *3+2=(lC z).length+(i *3+2) by omega,List.set_append_right _ _ (by omega),Nat.add_sub_cancel_left]
theorem Ol (k:Nat):∀v∈(Builtin.zeroCells #[.int .i64 0,.string ⟨#[]⟩,.int .i64 0] k).toList,v.oneCell'=true:=by
 intro v hv;simp only[Builtin.zeroCells,Array.toList_map,List.mem_map] at hv;obtain⟨i,_,rfl⟩:=hv;have h3:i%3=0∨i%3=1∨i%3=2:=by omega
 show(#[Value.int .i64 0,.string ⟨#[]⟩,.int .i64 0][i%3]!).oneCell'=true;rcases h3 with h|h|h<;>rw[h]<;>rfl
theorem Hz (w:World) (ty:TypeId) (b o k c:Nat) (hk:0<k) (hc:∀j,j<k *3->(w.cell? ⟨b,o+j,none⟩).isSome=true) (hf:∀j,j<k *3->w.frozen? ⟨b,o+j,none⟩=false):
 (Builtin.clear_ #[30] ty #[.slice (some ⟨b,o,none⟩) k c]).run prog w=.ok (.tuple #[]) (w.setCells b o (Builtin.zeroCells #[.int .i64 0,.string ⟨#[]⟩,.int .i64 0] k).toList):=by
 have hl:(Builtin.zeroCells #[.int .i64 0,.string ⟨#[]⟩,.int .i64 0] k).toList.length=k *3:=by rw[Array.length_toList,size_zeroCells];rfl
 have zA:=run_storeCells_cells (P:=prog) b o (Builtin.zeroCells #[.int .i64 0,.string ⟨#[]⟩,.int .i64 0] k).toList 0 w (by rw[hl];simpa using hc) (by rw[hl];simpa using hf) (Ol k);simp only[Nat.add_zero] at zA;have zC:=JO;have zB:(Value.agg #[.int .i64 0,.string ⟨#[]⟩,.int .i64 0]).cells= #[.int .i64 0,.string ⟨#[]⟩,.int .i64 0]:=rfl;obtain⟨k',rfl⟩:∃k',k=k'+1:=⟨k -1,by omega⟩
 simp[Builtin.clear_,run_underlying underlying30,zC,zB,zA]
theorem PD {w:World} {base g cap n:Nat} {ls:List Ld} (h:w.ownsRow base 111 3 (.slice (some ⟨g,0,none⟩) n cap) n (Ab lC ls)) {i:Nat} (hi:i<ls.length) (y:Ld):(((w.setCell ⟨g,i *3,none⟩ (.int .i64 y.num)).setCell ⟨g,i *3+1,none⟩ (.string y.sum)).setCell ⟨g,i *3+2,none⟩ (.int .i64 y.til)).ownsRow base 111 3 (.slice (some ⟨g,0,none⟩) n cap) n (Ab lC (ls.set i y)):=by
 have h1:=(h.stored (i *3) (.int .i64 y.num)).1;have h2:=(h1.stored (i *3+1) (.string y.sum)).1;have h3:=(h2.stored (i *3+2) (.int .i64 y.til)).1;rw[Ls hi y] at h3;exact h3
structure Ea (ls cur:List Ld) (n:Int) (i j:Nat):Prop where
 len:cur.length=ls.length
 kept:cur.take i=Bc (ls.take j) n
 rest:cur.drop j=ls.drop j
 lt:i<j
 le:j<=ls.length
theorem Ea.start {ls:List Ld} {n:Int} {i:Nat} {x:Ld} (hx:ls[i]?=some x) (ht:x.til<=n) (hb:∀j y,j<i->ls[j]?=some y->n<y.til):Ea ls ls n i (i+1):=by
 have zA:=(Ut hx).1;obtain⟨_,e⟩:=Ut hx;refine⟨rfl,?_,rfl,by omega,by omega⟩;unfold Bc;rw[Uv zA,List.filter_append,e];have h1:(ls.take i).filter (fun x=> !decide (x.til<=n))=ls.take i:=List.filter_eq_self.2 (fun y hy=>by
  obtain⟨j,hj⟩:=List.getElem?_of_mem hy;have zB:=(Ut hj).1;rw[List.length_take] at zB;have:=hb j y (by omega) (by rw[List.getElem?_take_of_lt (by omega)] at hj;exact hj);simp;omega)
 rw[h1];simp[ht]
theorem Ea.at {ls zA:List Ld} {n:Int} {i j:Nat} (h:Ea ls zA n i j) (hj:j<ls.length):zA[j]?=some ls[j]:=by
 have:=congrArg (fun l=>l[0]?) h.rest;simp only[List.getElem?_drop,Nat.add_zero] at this;rw[this,Uu hj]
theorem Ea.skip {ls zA:List Ld} {n:Int} {i j:Nat} (h:Ea ls zA n i j) (hj:j<ls.length) (ht:ls[j].til<=n):Ea ls zA n i (j+1):=by
 refine⟨h.len,?_,?_,by have:=h.lt;omega,by omega⟩
 ·rw[h.kept]
  unfold Bc;rw[Uv hj,List.filter_append];simp[ht]
 ·have:=congrArg (List.drop 1) h.rest
  rw[List.drop_drop,List.drop_drop] at this;exact this
theorem Ea.move {ls zA:List Ld} {n:Int} {i j:Nat} (h:Ea ls zA n i j) (hj:j<ls.length) (ht:n<ls[j].til):Ea ls (zA.set i ls[j]) n (i+1) (j+1):=by
 have zE:=h.lt;have zB:=h.len;have zC:i<zA.length:=by omega
 refine⟨by rw[List.length_set];exact zB,?_,?_,by omega,by omega⟩
 ·have zD:¬ls[j].til<=n:=by omega
  rw[Uv (by rw[List.length_set];exact zC),List.take_set_of_le (Us),h.kept,List.getElem_set_self];unfold Bc;rw[Uv hj,List.filter_append];simp[zD]
 ·have:=congrArg (List.drop 1) h.rest
  rw[List.drop_drop,List.drop_drop] at this;rw[List.drop_set_of_lt (by omega)];exact this
theorem Ea.done {ls zA:List Ld} {n:Int} {i:Nat} (h:Ea ls zA n i ls.length):zA.take i=Bc ls n/\(Bc ls n).length=i:=by
 have h1:=h.kept;rw[Uw (Us)] at h1;refine⟨h1,?_⟩;rw[←h1,List.length_take];have:=h.lt;have:=h.len;omega
theorem Ji (g cap base b d:Nat) (n:Int) (ls:List Ld) (w:World) (ho:w.ownsRow base 111 3 (.slice (some ⟨g,0,none⟩) ls.length cap) ls.length (Ab lC ls)) (hl:ls.length<=200) (hc:w.cell? ⟨b,0,none⟩=some (.pointer (some ⟨d,0,none⟩))) (hn:w.cell? ⟨d,2,none⟩=some (.int .i64 n)) (yA:b≠g) (yD:d≠g):
 Calls prog 131 #[.slice (some ⟨g,0,none⟩) ls.length cap,.func (.func 132) #[] #[.pointer (some ⟨b,0,none⟩)]] w fun e w'=>e=.returned (.slice (some ⟨g,0,none⟩) (Bc ls n).length cap)/\w'.ownsRow base 111 3 (.slice (some ⟨g,0,none⟩) (Bc ls n).length cap) (Bc ls n).length (Ab lC (Bc ls n))/\w.grownBy w' (some g):=by
 have zR:ls.length<=cap/\cap<=maxLen:=by
  rcases ho.2 with⟨e,_⟩|⟨g',yI,zA,e,hb,hg,h1,h2,h3,h4⟩
  ·cases e
  ·cases e;exact⟨h1,h2⟩
 obtain⟨yN,yJ⟩:=zR;unfold maxLen at yJ;have HX:Hid _:=Gb (some ⟨g,0,none⟩) cap b d n ls w (Bj.own ho) (by omega) hc hn;have HO:Hid (w.ownsRow base 111 3 (.slice (some ⟨g,0,none⟩) ls.length cap) ls.length (Ab lC ls)):=ho
 have HC:Hid (∀X,w.grownBy X (some g)->X.cell? ⟨b,0,none⟩=some (.pointer (some ⟨d,0,none⟩))/\X.cell? ⟨d,2,none⟩=some (.int .i64 n)):=fun X hX=>⟨hX.cell hc (fun e=>yA (Option.some.inj e)),hX.cell hn (fun e=>yD (Option.some.inj e))⟩;clear ho hc hn yA yD;go_enter func131,ntmps131;go_wp2_with fail;refine Calls.mono HX.o ?_;rintro e w1 ⟨r,rfl,hr,zQ⟩
 have zM:Hid (w1.ownsRow base 111 3 (.slice (some ⟨g,0,none⟩) ls.length cap) ls.length (Ab lC ls)):=Ag HO.o zQ;have zK:Hid (w.grownBy w1 (some g)):=Aj _ zQ;clear zQ HX HO;rcases hr with⟨rfl,zD⟩|⟨i,x,rfl,zX,yH,yG⟩
 ·have HE:Hid (Bc ls n=ls):=List.filter_eq_self.2 (fun y hy=>by have:=zD y hy;simp;omega)
  clear zD;go_wp2;go_ret;rw[HE.o];exact⟨rfl,zM.o,zK.o⟩
 ·have HM:Hid (Ea ls ls n i (i+1)):=Ea.start zX yH yG
  have yO:((i:Int)== -1)=false:=by simp
  have zU:i<ls.length:=(Ut zX).1;clear zX yH yG;go_wp2
  go_loopw [5,6] (fun vi vj wr=>∃(ii jj:Nat) (zA:List Ld),vi=.int .i64 ii/\vj=.int .i64 jj/\ii<jj/\jj<=ls.length/\Hid (Ea ls zA n ii jj/\wr.ownsRow base 111 3 (.slice (some ⟨g,0,none⟩) ls.length cap) ls.length (Ab lC zA)/\w.grownBy wr (some g))) (fun _ j _=>ls.length -(intOf j).toNat)
  case atStart=>exact⟨i,i+1,ls,rfl,by go_num,by omega,by omega,HM.o,zM.o,zK.o⟩
  case round=>
   clear HM zM zK zU;obtain⟨ii,jj,zA,rfl,rfl,yP,yQ,HI⟩:=hrel;by_cases hlt:jj<ls.length
   ·have HG:Hid (zA[jj]?=some ls[jj]):=HI.o.1.at hlt
    have zO:Hid (ls[jj].til<=n->Ea ls zA n ii (jj+1)):=fun h=>HI.o.1.skip hlt h;have zL:Hid (n<ls[jj].til->Ea ls (zA.set ii ls[jj]) n (ii+1) (jj+1)):=fun h=>HI.o.1.move hlt h;have yB:zA.length=ls.length:=HI.o.1.len;generalize ls[jj]=x at *
    have zG:∀k,k<3->wr.cell? ⟨g,jj *3+k,none⟩=(lC x)[k]?:=fun k hk=>(HI.o.2.1.cellAt (jj *3+k) (by omega)).trans (Cf Cj HG.o hk);have c0:wr.cell? ⟨g,jj *3,none⟩=some (.int .i64 x.num):=by simpa [lC] using zG 0 (by decide)
    have c1:wr.cell? ⟨g,jj *3+1,none⟩=some (.string x.sum):=by simpa [lC] using zG 1 (by decide)
    have c2:wr.cell? ⟨g,jj *3+2,none⟩=some (.int .i64 x.til):=by simpa [lC] using zG 2 (by decide)
    obtain⟨W,hW⟩:∃W,W=wr.alloc (.cells #[.int .i64 x.num,.string x.sum,.int .i64 x.til] 111):=⟨_,rfl⟩;have bW:=(AC hW).1;have zW:=(AC hW).2.2;have HZ:Hid (Aa W _ _):=(AC hW).2.2;have zT:w.grownBy W (some g):=Aw HI.o.2.2 (Aj _ bW);have zN:Hid (W.ownsRow base 111 3 (.slice (some ⟨g,0,none⟩) ls.length cap) ls.length (Ab lC zA)/\w.grownBy W (some g)):=⟨Ag HI.o.2.1 bW,zT⟩;obtain⟨zZ,yC⟩:=HC.o W zT
    have yF:=JR x b d n W zZ yC;have HW:Hid _:=hW;have yM:(jj:Int)<ls.length:=by omega
    have yR:wr.heap.size<W.heap.size:=zW.lt;clear hW zG bW zW zT zZ yC HI;go_upto_region 8 with fail;rw[←HW.o];clear HW c0 c1 c2;obtain⟨z0,z1,z2⟩:=Aa.c3 HZ.o 0 1 2;go_wp2_with fail;refine yF.mono ?_;rintro e w2 ⟨rfl,zF⟩;have zB:Hid (w2.ownsRow base 111 3 (.slice (some ⟨g,0,none⟩) ls.length cap) ls.length (Ab lC zA)/\w.grownBy w2 (some g)):=⟨Ag zN.o.1 zF,Aw zN.o.2 (Aj _ zF)⟩
    have zP:=Aa.below HZ.o zF;clear z0 z1 z2 zF zN yF HZ;by_cases ht:x.til<=n
    ·have hd:decide (x.til<=n)=true:=by simpa using ht
     have HS:Hid (Ea ls zA n ii (jj+1)):=zO.o ht;rw[hd];clear hd ht zO zL zP;go_wp2;exact⟨⟨ii,jj+1,zA,rfl,by go_num,by omega,by omega,HS.o,zB.o.1,zB.o.2⟩,by simp[intOf];omega⟩
    ·have hd:decide (x.til<=n)=false:=by simpa using ht
     have HS:Hid (Ea ls (zA.set ii x) n (ii+1) (jj+1)):=zL.o (Int.not_le.1 ht);have zU:ii<zA.length:=by omega
     have zE:=PD zB.o.1 zU x;have zH:∀o,w2.frozen? ⟨g,o,none⟩=false:=fun o=>zB.o.1.frozenAt o;have zI:∀k,k<3->∃v,w2.cell? ⟨g,ii *3+k,none⟩=some v:=fun k hk=>⟨_,(zB.o.1.cellAt (ii *3+k) (by omega)).trans (Uu (by rw[Bb Cj];omega))⟩;obtain⟨v0,s0⟩:=zI 0 (by decide);obtain⟨v1,s1⟩:=zI 1 (by decide);obtain⟨v2,s2⟩:=zI 2 (by decide);rw[Nat.add_zero] at s0;have q0:=zH (ii *3);have q1:=zH (ii *3+1)
     have q2:=zH (ii *3+2);have zC:Hid _:=And.intro zE (Aw zB.o.2 (Aw (Aw (Ae w2 g (ii *3) (.int .i64 x.num)) (Ae _ g (ii *3+1) (.string x.sum))) (Ae _ g (ii *3+2) (.int .i64 x.til))));obtain⟨z0,z1,z2⟩:=Aa.c3 zP 0 1 2;have yL:(ii:Int)<ls.length:=by omega
     rw[hd];clear hd ht zO zL zP zE zI zH;go_wp2;exact⟨⟨ii+1,jj+1,zA.set ii x,by go_num,by go_num,by omega,by omega,HS.o,zC.o.1,zC.o.2⟩,by simp[intOf];omega⟩
   ·obtain rfl:jj=ls.length:=by omega
    obtain⟨zV,yE⟩:=HI.o.1.done;have yB:zA.length=ls.length:=HI.o.1.len;have HK:Hid ((Bc ls n).length=ii/\zA.take ii=Bc ls n):=⟨yE,zV⟩;have hO:=HI.o.2.1;have HG:Hid (w.grownBy wr (some g)):=HI.o.2.2;have hcut:wr.ownsRow base 111 3 (.slice (some ⟨g,0,none⟩) ii cap) ii (Ab lC (Bc ls n)):=by
     rw[←zV];have zY:=hO;rw[←yB] at zY;exact Hx Cj zY ii (by omega)
    have zS:∀j,j<(ls.length -ii) *3->(wr.cell? ⟨g,ii *3+j,none⟩).isSome=true/\wr.frozen? ⟨g,ii *3+j,none⟩=false:=fun j hj=>by
     refine⟨?_,hO.frozenAt _⟩;rw[hO.cellAt (ii *3+j) (by omega),Uu (by rw[Bb Cj];omega)];rfl
    have yK:=Hz wr 0 g (ii *3) (ls.length -ii) (cap -ii) (by omega) (fun j hj=>(zS j hj).1) (fun j hj=>(zS j hj).2);have zJ:Hid _:=hcut;have e1:ii<=ls.length:=by omega
    have e2:¬cap=ii:=by omega
    have e3:ii<=cap:=by omega
    clear zV yE hO hcut zS HI;go_wp2;go_ret;rw[HK.o.1];exact⟨rfl,EX _ _ _ zJ.o (Us),Aw HG.o (Bl g _ _ _)⟩
theorem Jj (a:Option Addr) (cap b d:Nat) (n:Int) (w:World) (hc:w.cell? ⟨b,0,none⟩=some (.pointer (some ⟨d,0,none⟩))) (hn:w.cell? ⟨d,2,none⟩=some (.int .i64 n)):
 Calls prog 131 #[.slice a 0 cap,.func (.func 132) #[] #[.pointer (some ⟨b,0,none⟩)]] w fun e w'=>e=.returned (.slice a 0 cap)/\Uq w w':=by
 have HX:Hid _:=Gb a cap b d n [] w (.inl rfl) (by simp) hc hn;go_enter func131,ntmps131;go_wp2_with fail;refine Calls.mono HX.o ?_;rintro e w1 ⟨r,rfl,hr,zA⟩;rcases hr with⟨rfl,_⟩|⟨i,x,_,zB,_⟩
 ·go_wp2
  go_ret;exact⟨rfl,zA⟩
 ·simp at zB
theorem Me (base b d:Nat) (L:Value) (n:Int) (ls:List Ld) (w:World) (ho:w.ownsRow base 111 3 L ls.length (Ab lC ls)) (hl:ls.length<=200) (hc:w.cell? ⟨b,0,none⟩=some (.pointer (some ⟨d,0,none⟩))) (hn:w.cell? ⟨d,2,none⟩=some (.int .i64 n)) (zA:L.ownBlock≠some b) (zB:L.ownBlock≠some d):
 Calls prog 131 #[L,.func (.func 132) #[] #[.pointer (some ⟨b,0,none⟩)]] w fun e w'=>∃a c,e=.returned (.slice a (Bc ls n).length c)/\w'.ownsRow base 111 3 (.slice a (Bc ls n).length c) (Bc ls n).length (Ab lC (Bc ls n))/\w.grownBy w' L.ownBlock/\(Value.slice a (Bc ls n).length c).ownBlock=L.ownBlock:=by
 rcases ho.2 with⟨rfl,hz⟩|⟨g,cap,zC,rfl,_⟩
 ·have:ls=[]:=List.eq_nil_of_length_eq_zero hz
  subst this;refine(Jj none 0 b d n w hc hn).mono ?_;rintro e w' ⟨rfl,hb⟩;exact⟨none,0,rfl,World.ownsRow_nil _ _ _ _,Aj _ hb,rfl⟩
 ·refine(Ji g cap base b d n ls w ho hl hc hn (fun e=>zA (by rw[e];rfl)) (fun e=>zB (by rw[e];rfl))).mono ?_
  rintro e w' ⟨rfl,h1,h2⟩;exact⟨_,_,rfl,h1,h2,rfl⟩
theorem PE (base d m:Nat) (O P L:Value) (wd now given births:Int) (ks:List Kd) (ps:List Pd) (ls:List Ld) (zA:Int) (w:World) (h:DU w base d m O P L wd now given births ks ps ls) (hl:ls.length<=200) (zR:0<=now) (zS:0<=zA) (hs:now+zA<=1000000000):
 Calls prog 92 #[.pointer (some ⟨d,0,none⟩),.int .i64 zA] w fun e w'=>e=.returned (.tuple #[])/\∃L',DU w' base d m O P L' wd (now+zA) given births ks ps (Bc ls (now+zA))/\Tn (d::L.ownBlock.toList) w w':=by
 obtain⟨la,zB,zQ⟩:=AK h.dr.lea;subst zQ;have zT:=h.dr.box.lt;obtain⟨W,hW⟩:∃W,W=w.alloc (.cells #[.pointer (some ⟨d,0,none⟩)] 59):=⟨_,rfl⟩;have bW:=(AC hW).1;have zW:=(AC hW).2.2;have hD:=h.below bW;obtain⟨X,hX⟩:∃X,X=W.setCell ⟨d,2,none⟩ (.int .i64 (now+zA)):=⟨_,rfl⟩;have tX:Tn [d] W X:=by rw[hX];exact Gt _ _ _ _
 have zH:Aa X d [.int .i64 wd,.map (some m),.int .i64 (now+zA),.int .i64 given,.int .i64 births,O,P,.slice la ls.length zB]:=by rw[hX];exact hD.dr.box.set 2 _
 have zX:Aa X w.heap.size [.pointer (some ⟨d,0,none⟩)]:=Aa.same zW (tX.block _ zW.lt (by simp;omega));have zF:∀g,(Value.slice la ls.length zB).ownBlock=some g->g≠d:=fun g hg=>((Cm h.dr.ap).2.2.2 g hg).1;have zK:X.ownsRow base 111 3 (.slice la ls.length zB) ls.length (Ab lC ls):=AD hD.dr.lea (fun g hg=>tX.block g (Af hD.dr.lea hg).2 (by simp;exact zF g hg))
 have zI:(Value.slice la ls.length zB).ownBlock≠some w.heap.size:=fun e=>by have:=(Af h.dr.lea e).2;omega
 have zJ:(Value.slice la ls.length zB).ownBlock≠some d:=fun e=>zF d e rfl
 have HF:Hid (∀Y,Uq X Y->Calls prog 131 #[.slice la ls.length zB,.func (.func 132) #[] #[.pointer (some ⟨w.heap.size,0,none⟩)]] Y fun e w'=>∃a c,e=.returned (.slice a (Bc ls (now+zA)).length c)/\w'.ownsRow base 111 3 (.slice a (Bc ls (now+zA)).length c) (Bc ls (now+zA)).length (Ab lC (Bc ls (now+zA)))/\Y.grownBy w' (Value.slice la ls.length zB).ownBlock/\(Value.slice a (Bc ls (now+zA)).length c).ownBlock=(Value.slice la ls.length zB).ownBlock):=fun Y hY=>
  Me base w.heap.size d _ (now+zA) ls Y (Ag zK hY) hl ((Aa.below zX hY) 0 _ rfl).1 ((zH.below hY) 2 _ rfl).1 zI zJ
 have HD:Hid (DU W base d m O P (.slice la ls.length zB) wd now given births ks ps ls):=hD;have zO:Hid (Uq w W):=bW;have zP:Hid (Tn [d] W X):=tX;have zD:Hid (Aa X d [.int .i64 wd,.map (some m),.int .i64 (now+zA),.int .i64 given,.int .i64 births,O,P,.slice la ls.length zB]):=zH;have zE:Hid (Aa X w.heap.size [.pointer (some ⟨d,0,none⟩)]):=zX;have HW:Hid _:=hW;have HX:Hid _:=hX
 obtain⟨z0,_⟩:=zW 0 _ rfl;obtain⟨c2,f2⟩:=hD.dr.box 2 _ rfl;have zV:IntKind.i64.wrap (now+zA)=now+zA:=Hw zR (by omega) zS (by omega);have zU:¬(1000000000<now+zA):=by omega
 clear h bW zW hD hX hW tX zH zX zK;go_enter func92,ntmps92;go_upto_region 1 with fail;rw[←HW.o];clear HW;go_upto_region 4 with fail;rw[←HX.o];clear HX z0 c2 f2;have D0:Below X.heap.size X X.drew:=(Below.refl _ _).drew;obtain⟨z0,_⟩:=zE.o 0 _ rfl;obtain⟨c7,_⟩:=zD.o 7 _ rfl
 go_region_with (go_at_call 131;refine Calls.mono (HF.o X.drew D0) ?_;rintro e w2 ⟨va,vc,rfl,zL,zC,zM⟩;have zG:Aa w2 d [.int .i64 wd,.map (some m),.int .i64 (now+zA),.int .i64 given,.int .i64 births,O,P,.slice la ls.length zB]:=Aa.same zD.o (zC.block d zD.o.lt (fun e=>zJ e.symm));have zN:Aa w2 w.heap.size [.pointer (some ⟨d,0,none⟩)]:=Aa.same zE.o (zC.block w.heap.size zE.o.lt (fun e=>zI e.symm));obtain⟨g7,k7⟩:=zG 7 _ rfl;obtain⟨y0,_⟩:=zN 0 _ rfl)
 all_goals
  have hK:∃L',DU (w2.setCell ⟨d,7,none⟩ (.slice va (Bc ls (now+zA)).length vc)) base d m O P L' wd (now+zA) given births ks ps (Bc ls (now+zA))/\Tn (d::(Value.slice la ls.length zB).ownBlock.toList) w (w2.setCell ⟨d,7,none⟩ (.slice va (Bc ls (now+zA)).length vc)):=by
   have t1:Tn (d::(Value.slice la ls.length zB).ownBlock.toList) W (w2.setCell ⟨d,7,none⟩ (.slice va (Bc ls (now+zA)).length vc)):=
    ((zP.o.mono (by simp)).trans ((Tn.of D0).trans ((CO zC).mono (fun b hb=>List.mem_cons_of_mem _ hb)))).trans ((Gt w2 d 7 _).mono (by simp))
   exact⟨_,HD.o.newL t1 (zG.set 7 _) (BF zL (fun b hb=>zF b (zM▸hb)) 7 _) (.inl zM),(Tn.of zO.o).trans t1⟩
  have HK:Hid _:=hK;clear hK zL zC zG zN z0 c7;go_wp2
  go_end0
  exact⟨rfl,HK.o⟩
theorem GV (base d m:Nat) (O P L:Value) (wd now given births:Int) (ks:List Kd) (ps:List Pd) (ls:List Ld) (s:ByteArray) (w:World) (hd:Dr w base d m O P L wd now given births ks ps ls) (zD:∀k∈ks,(k.sum.size:Int)=wd) (zE:¬Av ks s):
 Calls prog 121 #[.pointer (some ⟨d,0,none⟩),.string s] w fun e w'=>e=.panicked [{v:=refV 2 ⟨#[]⟩ ⟨#[]⟩,recovered:=false}]/\Uq w w':=by
 obtain⟨n,f,hn,hM,hH⟩:=hd.map;obtain⟨ok,zB,zA⟩:=Gq wd m n f ks w w.heap.size s w hM hH.holds zD;have hf:ok=false:=by
  cases ok with
  |false=>rfl
  |true=>exact absurd (zB.1 rfl) zE
 subst hf;obtain⟨c0,c1⟩:=Aa.c2 hd.box 0 1;have HC:Hid _:=zA w (Below.refl _ _);clear hd hM hH zB zA;go_enter func121,ntmps121;go_wp2_with fail;refine Calls.mono HC.o ?_;rintro e w1 ⟨rfl,zC⟩;go_wp2;exact⟨rfl,rfl,zC⟩
theorem Lt (base d m:Nat) (O P L:Value) (wd now given births:Int) (ks:List Kd) (ps:List Pd) (ls:List Ld) (s:ByteArray) (zA:Int) (w:World) (h:DU w base d m O P L wd now given births ks ps ls) (zB:∀k∈ks,(k.sum.size:Int)=wd) (zC:¬Av ks s):
 Calls prog 88 #[.pointer (some ⟨d,0,none⟩),.string s,.int .i64 zA] w fun e w'=>e=.panicked [{v:=refV 2 ⟨#[]⟩ ⟨#[]⟩,recovered:=false}]/\Uq w w':=by
 have HN:Hid _:=GV base d m O P L wd now given births ks ps ls s w h.dr zB zC;clear h zB zC;go_enter func88,ntmps88;go_wp2_with fail;refine Calls.mono HN.o ?_;rintro e w1 ⟨rfl,zD⟩;go_wp2;exact⟨rfl,rfl,zD⟩
theorem JS (base d m:Nat) (O P L:Value) (wd now given births:Int) (ks:List Kd) (ps:List Pd) (ls:List Ld) (s:ByteArray) (zD:Int) (w:World) (h:DU w base d m O P L wd now given births ks ps ls) (zE:∀k∈ks,(k.sum.size:Int)=wd) (zF:Av ks s) (zA:ls.length=200∨given=1000000000):
 Calls prog 88 #[.pointer (some ⟨d,0,none⟩),.string s,.int .i64 zD] w fun e w'=>e=.panicked [{v:=refV 4 ⟨#[]⟩ ⟨#[]⟩,recovered:=false}]/\Uq w w':=by
 have HN:Hid _:=Dj base d m O P L wd now given births ks ps ls s w h.dr zE zF;obtain⟨la,zJ,zG⟩:=AK h.dr.lea;subst zG;have HD:Hid _:=h;clear h zE zF;by_cases h1:ls.length=200
 ·have zH:((ls.length:Int)==200)=true:=by simp;omega
  clear zA h1;go_enter func88,ntmps88;go_wp2_with fail;refine Calls.mono HN.o ?_;rintro e w1 ⟨rfl,zC⟩;have zB:=HD.o.below zC;obtain⟨c3,c7⟩:=Aa.c2 zB.dr.box 3 7;clear zB HD HN;go_wp2;exact⟨rfl,rfl,zC⟩
 ·have zH:((ls.length:Int)==200)=false:=by simp;omega
  have zI:(given==1000000000)=true:=by
   rcases zA with h|h
   ·exact absurd h h1
   ·rw[h];rfl
  clear zA h1;go_enter func88,ntmps88;go_wp2_with fail;refine Calls.mono HN.o ?_;rintro e w1 ⟨rfl,zC⟩;have zB:=HD.o.below zC;obtain⟨c3,c7⟩:=Aa.c2 zB.dr.box 3 7;clear zB HD HN;go_wp2;exact⟨rfl,rfl,zC⟩
theorem Om (base d m:Nat) (O P L:Value) (wd now given births:Int) (ks:List Kd) (ps:List Pd) (ls:List Ld) (zA:Int) (w:World) (h:DU w base d m O P L wd now given births ks ps ls) (zB:0<=now) (zC:now<=1000000000) (zD:0<=zA) (zE:zA<=1000000000) (hs:1000000000<now+zA):
 Calls prog 92 #[.pointer (some ⟨d,0,none⟩),.int .i64 zA] w fun e w'=>e=.panicked [{v:=refV 4 ⟨#[]⟩ ⟨#[]⟩,recovered:=false}]/\Uq w w':=by
 obtain⟨W,hW⟩:∃W,W=w.alloc (.cells #[.pointer (some ⟨d,0,none⟩)] 59):=⟨_,rfl⟩;have bW:=(AC hW).1;have zW:=(AC hW).2.2;have hD:=h.below bW;have HW:Hid _:=hW;have zF:=Hw zB zC zD zE;obtain⟨z0,_⟩:=zW 0 _ rfl;obtain⟨c2,_⟩:=hD.dr.box 2 _ rfl;clear h hD hW zW;go_enter func92,ntmps92;go_upto_region 1 with fail;rw[←HW.o];clear HW;go_wp2;exact⟨rfl,rfl,bW⟩
theorem IF (a:Option Addr) (cap:Nat) (n:Int) (w:World):
 Calls prog 127 #[.slice a 0 cap,.int .i64 n,.func (.func 128) #[] #[]] w fun e w'=>e=.returned (.tuple #[.int .i64 0,.bool false])/\Uq w w':=by
 go_enter func127,ntmps127;go_wp2
 go_loopw [9,10] (fun i j wr=>i=.int .i64 0/\j=.int .i64 0/\wr=w) (fun _ _ _=>0)
 case atStart=>exact⟨rfl,rfl,rfl⟩
 case round=>
  obtain⟨rfl,rfl,rfl⟩:=hrel;go_wp2
  go_ret2
  exact⟨by first|rfl|simp[Act.put],Below.refl _ _⟩
theorem Ko (a:Option Addr) (cap:Nat) (n:ByteArray) (w:World):
 Calls prog 152 #[.slice a 0 cap,.string n,.func (.func 153) #[] #[]] w fun e w'=>e=.returned (.tuple #[.int .i64 0,.bool false])/\Uq w w':=by
 go_enter func152,ntmps152;go_wp2
 go_loopw [9,10] (fun i j wr=>i=.int .i64 0/\j=.int .i64 0/\wr=w) (fun _ _ _=>0)
 case atStart=>exact⟨rfl,rfl,rfl⟩
 case round=>
  obtain⟨rfl,rfl,rfl⟩:=hrel;go_wp2
  go_ret2
  exact⟨by first|rfl|simp[Act.put],Below.refl _ _⟩
theorem Rc (base:Nat) (L:Value) (ls:List Ld) (n:Int) (w:World) (ho:w.ownsRow base 111 3 L ls.length (Ab lC ls)) (hl:ls.length<=600) (zA:ls.Pairwise (fun a b=>a.num<b.num)):
 Calls prog 127 #[L,.int .i64 n,.func (.func 128) #[] #[]] w fun e w'=>∃i:Nat,e=.returned (.tuple #[.int .i64 i,.bool (decide (∃x,ls[i]?=some x/\x.num=n))])/\Gv ls n i/\Uq w w':=by
 rcases ho.2 with⟨rfl,hz⟩|⟨g,cap,zB,rfl,_⟩
 ·have:ls=[]:=List.eq_nil_of_length_eq_zero hz
  subst this;refine(IF none 0 n w).mono ?_;rintro e w' ⟨rfl,hb⟩;exact⟨0,by simp,⟨Us,fun j x h=>by omega,fun j x _ hx=>by simp at hx⟩,hb⟩
 ·exact Fi g cap ls n w base ho hl zA
theorem Rd (base:Nat) (P:Value) (ps:List Pd) (n:ByteArray) (w:World) (ho:w.ownsRow base 108 2 P ps.length (Ab pC ps)) (hl:ps.length<=600) (zA:ps.Pairwise (fun a b=>less a.name b.name=true)):
 Calls prog 152 #[P,.string n,.func (.func 153) #[] #[]] w fun e w'=>∃i:Nat,e=.returned (.tuple #[.int .i64 i,.bool (decide (∃x,ps[i]?=some x/\x.name=n))])/\CC ps n i/\Uq w w':=by
 rcases ho.2 with⟨rfl,hz⟩|⟨g,cap,zB,rfl,_⟩
 ·have:ps=[]:=List.eq_nil_of_length_eq_zero hz
  subst this;refine(Ko none 0 n w).mono ?_;rintro e w' ⟨rfl,hb⟩;exact⟨0,by simp,⟨Us,fun j x h=>by omega,fun j x _ hx=>by simp at hx⟩,hb⟩
 ·exact Ga g cap ps n w base ho hl zA
theorem Re (base d m:Nat) (O P L:Value) (wd now given births:Int) (ks:List Kd) (ps:List Pd) (ls:List Ld) (n:Int) (w:World) (h:DU w base d m O P L wd now given births ks ps ls) (hl:ls.length<=200) (zA:ls.Pairwise (fun a b=>a.num<b.num)) (zD:¬∃x∈ls,x.num=n):
 Calls prog 91 #[.pointer (some ⟨d,0,none⟩),.int .i64 n] w fun e w'=>e=.panicked [{v:=refV 5 ⟨#[]⟩ ⟨#[]⟩,recovered:=false}]/\Uq w w':=by
 have HS:Hid _:=Rc base L ls n w h.dr.lea (by omega) zA;obtain⟨la,zG,zE⟩:=AK h.dr.lea;subst zE;have zC:Hid _:=zD;obtain⟨c7,_⟩:=h.dr.box 7 _ rfl;clear h zA zD;go_enter func91,ntmps91;go_wp2_with fail;refine Calls.mono HS.o ?_;rintro e w1 ⟨i,rfl,_,zF⟩;have zB:decide (∃x,ls[i]?=some x/\x.num=n)=false:=by
  rw[decide_eq_false_iff_not];rintro⟨x,hx,hn⟩;exact zC.o ⟨x,Ux hx,hn⟩
 rw[zB];clear zB HS zC c7;go_wp2;exact⟨rfl,rfl,zF⟩
theorem Gz (base d m:Nat) (O P L:Value) (wd now given births:Int) (ks:List Kd) (ps:List Pd) (ls:List Ld) (n:ByteArray) (w:World) (h:DU w base d m O P L wd now given births ks ps ls) (hl:ps.length<=200) (zA:ps.Pairwise (fun a b=>less a.name b.name=true)):
 Calls prog 124 #[.pointer (some ⟨d,0,none⟩),.string n] w fun e w'=>∃i:Nat,e=.returned (.tuple #[.int .i64 i,.bool (decide (∃x,ps[i]?=some x/\x.name=n))])/\CC ps n i/\Uq w w':=by
 have HS:Hid _:=Rd base P ps n w h.dr.pin (by omega) zA;obtain⟨la,zG,zD⟩:=AK h.dr.pin;subst zD;obtain⟨c6,_⟩:=h.dr.box 6 _ rfl;clear h zA;go_enter func124,ntmps124;go_wp2_with fail;refine Calls.mono HS.o ?_;rintro e w1 ⟨i,rfl,zF,zE⟩;obtain⟨bb,zB⟩:∃bb,decide (∃x,ps[i]?=some x/\x.name=n)=bb:=⟨_,rfl⟩;have zC:Hid _:=zB;rw[zB];clear zB;go_wp2
 go_ret2
 exact⟨i,by rw[zC.o];rfl,zF,zE⟩
theorem PF (base d m:Nat) (O P L:Value) (wd now given births:Int) (ks:List Kd) (ps:List Pd) (ls:List Ld) (n:ByteArray) (w:World) (h:DU w base d m O P L wd now given births ks ps ls) (hl:ps.length<=200) (zA:ps.Pairwise (fun a b=>less a.name b.name=true)) (zD:¬∃x∈ps,x.name=n):
 Calls prog 90 #[.pointer (some ⟨d,0,none⟩),.string n] w fun e w'=>e=.panicked [{v:=refV 5 ⟨#[]⟩ ⟨#[]⟩,recovered:=false}]/\Uq w w':=by
 have HS:Hid _:=Gz base d m O P L wd now given births ks ps ls n w h hl zA;have zC:Hid _:=zD;clear h zA zD;go_enter func90,ntmps90;go_wp2_with fail;refine Calls.mono HS.o ?_;rintro e w1 ⟨i,rfl,_,zE⟩;have zB:decide (∃x,ps[i]?=some x/\x.name=n)=false:=by
  rw[decide_eq_false_iff_not];rintro⟨x,hx,hn⟩;exact zC.o ⟨x,Ux hx,hn⟩
 rw[zB];clear zB HS zC;go_wp2;exact⟨rfl,rfl,zE⟩
theorem Bu {w:World} {base:Nat} {e:TypeId} {size:Nat} {v:Value} {n:Nat} {xs:List Value} (h:w.ownsRow base e size v n xs) {g:Nat} (hg:v.ownBlock=some g):∃zA,w.heap[g]?=some (.cells zA e):=by
 rcases h.2 with⟨rfl,_⟩|⟨g',cap,zA,rfl,_,hc,_⟩
 ·cases hg
 ·cases hg
  exact⟨zA,hc⟩
theorem DU.notin {w:World} {base d m:Nat} {O P L:Value} {wd now given births:Int} {ks:List Kd} {ps:List Pd} {ls:List Ld} (h:DU w base d m O P L wd now given births ks ps ls) {R:Nat} {zA:Array Value} (hR:w.heap[R]?=some (.cells zA 96)) (hd:R≠d):R∉vB d m O P L/\NS w R:=by
 refine⟨fun hv=> ?_,fun zA fz e=>by rw[hR] at e;cases e⟩;unfold vB at hv;simp only[List.mem_cons,List.mem_append,Option.mem_toList] at hv;rcases hv with hv|hv|hv|hv|hv
 ·exact hd hv
 ·obtain⟨n,f,_,hM,_⟩:=h.dr.map
  obtain⟨D,⟨es,clock,zB,_⟩,_⟩:=hM;rw[←hv,hR] at zB;cases zB
 ·obtain⟨c,hc⟩:=Bu h.dr.ord hv
  rw[hR] at hc;cases hc
 ·obtain⟨c,hc⟩:=Bu h.dr.pin hv
  rw[hR] at hc;cases hc
 ·obtain⟨c,hc⟩:=Bu h.dr.lea hv
  rw[hR] at hc;cases hc
theorem Jk (base d m:Nat) (O P L:Value) (wd now given births:Int) (ks:List Kd) (ps:List Pd) (ls:List Ld) (s nm tx:ByteArray) (num:Int) (ra:Option Addr) (rn rc:Nat) (w:World) (h:DU w base d m O P L wd now given births ks ps ls) (hl:ls.length<=200) (zA:ls.Pairwise (fun a b=>a.num<b.num)) (zL:∃x∈ls,x.num=num):
 Calls prog 62 #[.pointer (some ⟨d,0,none⟩),.agg #[.int .i64 5,.string s,.string nm,.int .i64 num,.string tx,.slice ra rn rc]] w fun e w'=>e=.returned (.agg AJ.toArray)/\∃L',DU w' base d m O P L' wd now given births ks ps (IE ls num)/\Tn (d::L.ownBlock.toList) w w':=by
 obtain⟨W,hW⟩:∃W,W=((w.alloc (.cells #[.int .i64 5,.string s,.string nm,.int .i64 num,.string tx,.slice ra rn rc] 92)).alloc (.cells #[.int .i64 0,.int .i64 0,.int .i64 0,.int .i64 0,.int .i64 0,.slice none 0 0,.slice none 0 0,.slice none 0 0,.string ⟨#[]⟩,.int .i64 0,.string ⟨#[]⟩,.string ⟨#[]⟩] 96)).alloc (.cells #[.int .i64 0,.int .i64 0,.int .i64 0,.int .i64 0,.int .i64 0,.slice none 0 0,.slice none 0 0,.slice none 0 0,.string ⟨#[]⟩,.int .i64 0,.string ⟨#[]⟩,.string ⟨#[]⟩] 96):=⟨_,rfl⟩
 have hB:=(Bn hW).1;have zI:=(Bn hW).2.1;have xE:=(Bn hW).2.2.1;have zR:Aa W (w.heap.size+1) AJ:=by
  have h1:=Aa.new (w.alloc (.cells #[.int .i64 5,.string s,.string nm,.int .i64 num,.string tx,.slice ra rn rc] 92)) AJ 96;rw[World.size_alloc] at h1;rw[hW];exact Aa.below (v:=.int .i64 0) h1 (Ur)
 have zO:Aa W (w.heap.size+2) AJ:=by
  have h1:=Aa.new ((w.alloc (.cells #[.int .i64 5,.string s,.string nm,.int .i64 num,.string tx,.slice ra rn rc] 92)).alloc (.cells #[.int .i64 0,.int .i64 0,.int .i64 0,.int .i64 0,.int .i64 0,.slice none 0 0,.slice none 0 0,.slice none 0 0,.string ⟨#[]⟩,.int .i64 0,.string ⟨#[]⟩,.string ⟨#[]⟩] 96)) AJ 96;rw[World.size_alloc,World.size_alloc] at h1;rw[hW];exact h1
 have zG:W.heap[w.heap.size+1]?=some (.cells #[.int .i64 0,.int .i64 0,.int .i64 0,.int .i64 0,.int .i64 0,.slice none 0 0,.slice none 0 0,.slice none 0 0,.string ⟨#[]⟩,.int .i64 0,.string ⟨#[]⟩,.string ⟨#[]⟩] 96):=by
  rw[hW,Below.heap_alloc _ _ _ (by simp)];have:=heap_alloc_new (w.alloc (.cells #[.int .i64 5,.string s,.string nm,.int .i64 num,.string tx,.slice ra rn rc] 92)) (.cells #[.int .i64 0,.int .i64 0,.int .i64 0,.int .i64 0,.int .i64 0,.slice none 0 0,.slice none 0 0,.slice none 0 0,.string ⟨#[]⟩,.int .i64 0,.string ⟨#[]⟩,.string ⟨#[]⟩] 96);rw[World.size_alloc] at this;exact this
 have hD:=h.below hB;have zP:=h.dr.box.lt;have zH:∀b∈d::L.ownBlock.toList,b<w.heap.size:=fun b hb=>h.dr.lts b (by unfold vB;simp at hb ⊢;rcases hb with rfl|hb<;>simp[*]);have HC:Hid _:=PC base d m O P L wd now given births ks ps ls num W hD hl zA zL;have HW:Hid _:=hW
 have HZ:Hid (Aa W (w.heap.size+1) AJ/\Aa W (w.heap.size+2) AJ/\W.heap[w.heap.size+1]?=some (.cells #[.int .i64 0,.int .i64 0,.int .i64 0,.int .i64 0,.int .i64 0,.slice none 0 0,.slice none 0 0,.slice none 0 0,.string ⟨#[]⟩,.int .i64 0,.string ⟨#[]⟩,.string ⟨#[]⟩] 96)/\Uq w W/\W.heap.size=w.heap.size+3/\base<=w.heap.size):=⟨zR,zO,zG,hB,zI,h.lo⟩;have zD:Hid _:=zH
 obtain⟨e0,e1,e2,e3⟩:=Aa.c4 xE 0 1 2 3;clear hW h hD zR zO zG hB zI xE zH;go_enter func62,ntmps62;go_upto_region 2 with fail;rw[←HW.o];clear HW;go_wp2_with fail;refine Calls.mono HC.o ?_;rintro e w1 ⟨rfl,V,zE,zB⟩;have zz:=HZ.o.2.2.2.2.1;have zK:=Aa.same HZ.o.1 (zB.block _ (by omega) (fun h=>by have:=zD.o _ h;omega));have zJ:=Aa.same HZ.o.2.1 (zB.block _ (by omega) (fun h=>by have:=zD.o _ h;omega))
 have zF:=(zB.block _ (by omega) (fun h=>by have:=zD.o _ h;omega)).trans HZ.o.2.2.1;have zC:Hid _:=And.intro zE (And.intro zB (zE.notin zF (by omega)));obtain⟨⟨y0,q0⟩,⟨y1,q1⟩,⟨y2,q2⟩,⟨y3,q3⟩,⟨y4,q4⟩,⟨y5,q5⟩,⟨y6,q6⟩,⟨y7,q7⟩,⟨y8,q8⟩,⟨y9,q9⟩,⟨zM,zQ⟩,zN,zS⟩:=CN zK;obtain⟨⟨v0,_⟩,⟨v1,_⟩,⟨v2,_⟩,⟨v3,_⟩,⟨v4,_⟩,⟨v5,_⟩,⟨v6,_⟩,⟨v7,_⟩,⟨v8,_⟩,⟨v9,_⟩,⟨zT,_⟩,zU,_⟩:=CN zJ;clear zE zB zK zJ zF e0 e1 e2 e3 HC zz
 go_wp2;refine bodyPost_ret (v:=.agg AJ.toArray) (by simp[results,results62,go_sem,y0,y1,y2,y3,y4,y5,y6,y7,y8,y9,zM,zN,AJ]) rfl ⟨rfl,V,zC.o.1.turn (DX w1 (w.heap.size+1) _ _ _ _ _ _ _ _ _ _ _ _) (by intro b hb;simp at hb;subst hb;exact⟨by have:=HZ.o.2.2.2.2.2;omega,zC.o.2.2⟩),Tn.fresh ((Tn.of HZ.o.2.2.2.1).trans zC.o.2.1) (DX w1 (w.heap.size+1) _ _ _ _ _ _ _ _ _ _ _ _) (by omega)⟩
theorem Jl (base d m:Nat) (O P L:Value) (wd now given births:Int) (ks:List Kd) (ps:List Pd) (ls:List Ld) (s nm tx:ByteArray) (num:Int) (ra:Option Addr) (rn rc:Nat) (w:World) (h:DU w base d m O P L wd now given births ks ps ls) (hl:ls.length<=200) (zK:0<=now) (zL:0<=num) (hs:now+num<=1000000000):
 Calls prog 62 #[.pointer (some ⟨d,0,none⟩),.agg #[.int .i64 6,.string s,.string nm,.int .i64 num,.string tx,.slice ra rn rc]] w fun e w'=>e=.returned (.agg AJ.toArray)/\∃L',DU w' base d m O P L' wd (now+num) given births ks ps (Bc ls (now+num))/\Tn (d::L.ownBlock.toList) w w':=by
 obtain⟨W,hW⟩:∃W,W=((w.alloc (.cells #[.int .i64 6,.string s,.string nm,.int .i64 num,.string tx,.slice ra rn rc] 92)).alloc (.cells #[.int .i64 0,.int .i64 0,.int .i64 0,.int .i64 0,.int .i64 0,.slice none 0 0,.slice none 0 0,.slice none 0 0,.string ⟨#[]⟩,.int .i64 0,.string ⟨#[]⟩,.string ⟨#[]⟩] 96)).alloc (.cells #[.int .i64 0,.int .i64 0,.int .i64 0,.int .i64 0,.int .i64 0,.slice none 0 0,.slice none 0 0,.slice none 0 0,.string ⟨#[]⟩,.int .i64 0,.string ⟨#[]⟩,.string ⟨#[]⟩] 96):=⟨_,rfl⟩
 have hB:=(Bn hW).1;have zH:=(Bn hW).2.1;have xE:=(Bn hW).2.2.1;have zR:Aa W (w.heap.size+1) AJ:=by
  have h1:=Aa.new (w.alloc (.cells #[.int .i64 6,.string s,.string nm,.int .i64 num,.string tx,.slice ra rn rc] 92)) AJ 96;rw[World.size_alloc] at h1;rw[hW];exact Aa.below (v:=.int .i64 0) h1 (Ur)
 have zO:Aa W (w.heap.size+2) AJ:=by
  have h1:=Aa.new ((w.alloc (.cells #[.int .i64 6,.string s,.string nm,.int .i64 num,.string tx,.slice ra rn rc] 92)).alloc (.cells #[.int .i64 0,.int .i64 0,.int .i64 0,.int .i64 0,.int .i64 0,.slice none 0 0,.slice none 0 0,.slice none 0 0,.string ⟨#[]⟩,.int .i64 0,.string ⟨#[]⟩,.string ⟨#[]⟩] 96)) AJ 96;rw[World.size_alloc,World.size_alloc] at h1;rw[hW];exact h1
 have zF:W.heap[w.heap.size+1]?=some (.cells #[.int .i64 0,.int .i64 0,.int .i64 0,.int .i64 0,.int .i64 0,.slice none 0 0,.slice none 0 0,.slice none 0 0,.string ⟨#[]⟩,.int .i64 0,.string ⟨#[]⟩,.string ⟨#[]⟩] 96):=by
  rw[hW,Below.heap_alloc _ _ _ (by simp)];have:=heap_alloc_new (w.alloc (.cells #[.int .i64 6,.string s,.string nm,.int .i64 num,.string tx,.slice ra rn rc] 92)) (.cells #[.int .i64 0,.int .i64 0,.int .i64 0,.int .i64 0,.int .i64 0,.slice none 0 0,.slice none 0 0,.slice none 0 0,.string ⟨#[]⟩,.int .i64 0,.string ⟨#[]⟩,.string ⟨#[]⟩] 96);rw[World.size_alloc] at this;exact this
 have hD:=h.below hB;have zP:=h.dr.box.lt;have zG:∀b∈d::L.ownBlock.toList,b<w.heap.size:=fun b hb=>h.dr.lts b (by unfold vB;simp at hb ⊢;rcases hb with rfl|hb<;>simp[*]);have HC:Hid _:=PE base d m O P L wd now given births ks ps ls num W hD hl zK zL hs;have HW:Hid _:=hW
 have HZ:Hid (Aa W (w.heap.size+1) AJ/\Aa W (w.heap.size+2) AJ/\W.heap[w.heap.size+1]?=some (.cells #[.int .i64 0,.int .i64 0,.int .i64 0,.int .i64 0,.int .i64 0,.slice none 0 0,.slice none 0 0,.slice none 0 0,.string ⟨#[]⟩,.int .i64 0,.string ⟨#[]⟩,.string ⟨#[]⟩] 96)/\Uq w W/\W.heap.size=w.heap.size+3/\base<=w.heap.size):=⟨zR,zO,zF,hB,zH,h.lo⟩;have zC:Hid _:=zG
 obtain⟨e0,e1,e2,e3⟩:=Aa.c4 xE 0 1 2 3;clear hW h hD zR zO zF hB zH xE zG;go_enter func62,ntmps62;go_upto_region 2 with fail;rw[←HW.o];clear HW;go_wp2_with fail;refine Calls.mono HC.o ?_;rintro e w1 ⟨rfl,V,zD,zA⟩;have zz:=HZ.o.2.2.2.2.1;have zJ:=Aa.same HZ.o.1 (zA.block _ (by omega) (fun h=>by have:=zC.o _ h;omega));have zI:=Aa.same HZ.o.2.1 (zA.block _ (by omega) (fun h=>by have:=zC.o _ h;omega))
 have zE:=(zA.block _ (by omega) (fun h=>by have:=zC.o _ h;omega)).trans HZ.o.2.2.1;have zB:Hid _:=And.intro zD (And.intro zA (zD.notin zE (by omega)));obtain⟨⟨y0,q0⟩,⟨y1,q1⟩,⟨y2,q2⟩,⟨y3,q3⟩,⟨y4,q4⟩,⟨y5,q5⟩,⟨y6,q6⟩,⟨y7,q7⟩,⟨y8,q8⟩,⟨y9,q9⟩,⟨zM,zQ⟩,zN,zS⟩:=CN zJ;obtain⟨⟨v0,_⟩,⟨v1,_⟩,⟨v2,_⟩,⟨v3,_⟩,⟨v4,_⟩,⟨v5,_⟩,⟨v6,_⟩,⟨v7,_⟩,⟨v8,_⟩,⟨v9,_⟩,⟨zT,_⟩,zU,_⟩:=CN zI;clear zD zA zJ zI zE e0 e1 e2 e3 HC zz
 go_wp2;refine bodyPost_ret (v:=.agg AJ.toArray) (by simp[results,results62,go_sem,y0,y1,y2,y3,y4,y5,y6,y7,y8,y9,zM,zN,AJ]) rfl ⟨rfl,V,zB.o.1.turn (DX w1 (w.heap.size+1) _ _ _ _ _ _ _ _ _ _ _ _) (by intro b hb;simp at hb;subst hb;exact⟨by have:=HZ.o.2.2.2.2.2;omega,zB.o.2.2⟩),Tn.fresh ((Tn.of HZ.o.2.2.2.1).trans zB.o.2.1) (DX w1 (w.heap.size+1) _ _ _ _ _ _ _ _ _ _ _ _) (by omega)⟩
theorem IG (base d m:Nat) (O P L:Value) (wd now given births:Int) (ks:List Kd) (ps:List Pd) (ls:List Ld) (s nm tx:ByteArray) (num:Int) (ra:Option Addr) (rn rc:Nat) (w:World) (h:DU w base d m O P L wd now given births ks ps ls) (hl:ps.length<=200) (zA:ps.Pairwise (fun a b=>less a.name b.name=true)) (zL:∃x∈ps,x.name=nm):
 Calls prog 62 #[.pointer (some ⟨d,0,none⟩),.agg #[.int .i64 3,.string s,.string nm,.int .i64 num,.string tx,.slice ra rn rc]] w fun e w'=>e=.returned (.agg AJ.toArray)/\∃P',DU w' base d m O P' L wd now given births ks (Gx ps nm) ls/\Tn (d::P.ownBlock.toList) w w':=by
 obtain⟨W,hW⟩:∃W,W=((w.alloc (.cells #[.int .i64 3,.string s,.string nm,.int .i64 num,.string tx,.slice ra rn rc] 92)).alloc (.cells #[.int .i64 0,.int .i64 0,.int .i64 0,.int .i64 0,.int .i64 0,.slice none 0 0,.slice none 0 0,.slice none 0 0,.string ⟨#[]⟩,.int .i64 0,.string ⟨#[]⟩,.string ⟨#[]⟩] 96)).alloc (.cells #[.int .i64 0,.int .i64 0,.int .i64 0,.int .i64 0,.int .i64 0,.slice none 0 0,.slice none 0 0,.slice none 0 0,.string ⟨#[]⟩,.int .i64 0,.string ⟨#[]⟩,.string ⟨#[]⟩] 96):=⟨_,rfl⟩
 have hB:=(Bn hW).1;have zI:=(Bn hW).2.1;have xE:=(Bn hW).2.2.1;have zR:Aa W (w.heap.size+1) AJ:=by
  have h1:=Aa.new (w.alloc (.cells #[.int .i64 3,.string s,.string nm,.int .i64 num,.string tx,.slice ra rn rc] 92)) AJ 96;rw[World.size_alloc] at h1;rw[hW];exact Aa.below (v:=.int .i64 0) h1 (Ur)
 have zO:Aa W (w.heap.size+2) AJ:=by
  have h1:=Aa.new ((w.alloc (.cells #[.int .i64 3,.string s,.string nm,.int .i64 num,.string tx,.slice ra rn rc] 92)).alloc (.cells #[.int .i64 0,.int .i64 0,.int .i64 0,.int .i64 0,.int .i64 0,.slice none 0 0,.slice none 0 0,.slice none 0 0,.string ⟨#[]⟩,.int .i64 0,.string ⟨#[]⟩,.string ⟨#[]⟩] 96)) AJ 96;rw[World.size_alloc,World.size_alloc] at h1;rw[hW];exact h1
 have zG:W.heap[w.heap.size+1]?=some (.cells #[.int .i64 0,.int .i64 0,.int .i64 0,.int .i64 0,.int .i64 0,.slice none 0 0,.slice none 0 0,.slice none 0 0,.string ⟨#[]⟩,.int .i64 0,.string ⟨#[]⟩,.string ⟨#[]⟩] 96):=by
  rw[hW,Below.heap_alloc _ _ _ (by simp)];have:=heap_alloc_new (w.alloc (.cells #[.int .i64 3,.string s,.string nm,.int .i64 num,.string tx,.slice ra rn rc] 92)) (.cells #[.int .i64 0,.int .i64 0,.int .i64 0,.int .i64 0,.int .i64 0,.slice none 0 0,.slice none 0 0,.slice none 0 0,.string ⟨#[]⟩,.int .i64 0,.string ⟨#[]⟩,.string ⟨#[]⟩] 96);rw[World.size_alloc] at this;exact this
 have hD:=h.below hB;have zP:=h.dr.box.lt;have zH:∀b∈d::P.ownBlock.toList,b<w.heap.size:=fun b hb=>h.dr.lts b (by unfold vB;simp at hb ⊢;rcases hb with rfl|hb<;>simp[*]);have HC:Hid _:=Ok base d m O P L wd now given births ks ps ls nm W hD hl zA zL;have HW:Hid _:=hW
 have HZ:Hid (Aa W (w.heap.size+1) AJ/\Aa W (w.heap.size+2) AJ/\W.heap[w.heap.size+1]?=some (.cells #[.int .i64 0,.int .i64 0,.int .i64 0,.int .i64 0,.int .i64 0,.slice none 0 0,.slice none 0 0,.slice none 0 0,.string ⟨#[]⟩,.int .i64 0,.string ⟨#[]⟩,.string ⟨#[]⟩] 96)/\Uq w W/\W.heap.size=w.heap.size+3/\base<=w.heap.size):=⟨zR,zO,zG,hB,zI,h.lo⟩;have zD:Hid _:=zH
 obtain⟨e0,e1,e2,e3⟩:=Aa.c4 xE 0 1 2 3;clear hW h hD zR zO zG hB zI xE zH;go_enter func62,ntmps62;go_upto_region 2 with fail;rw[←HW.o];clear HW;go_wp2_with fail;refine Calls.mono HC.o ?_;rintro e w1 ⟨rfl,V,zE,zB⟩;have zz:=HZ.o.2.2.2.2.1;have zK:=Aa.same HZ.o.1 (zB.block _ (by omega) (fun h=>by have:=zD.o _ h;omega));have zJ:=Aa.same HZ.o.2.1 (zB.block _ (by omega) (fun h=>by have:=zD.o _ h;omega))
 have zF:=(zB.block _ (by omega) (fun h=>by have:=zD.o _ h;omega)).trans HZ.o.2.2.1;have zC:Hid _:=And.intro zE (And.intro zB (zE.notin zF (by omega)));obtain⟨⟨y0,q0⟩,⟨y1,q1⟩,⟨y2,q2⟩,⟨y3,q3⟩,⟨y4,q4⟩,⟨y5,q5⟩,⟨y6,q6⟩,⟨y7,q7⟩,⟨y8,q8⟩,⟨y9,q9⟩,⟨zM,zQ⟩,zN,zS⟩:=CN zK;obtain⟨⟨v0,_⟩,⟨v1,_⟩,⟨v2,_⟩,⟨v3,_⟩,⟨v4,_⟩,⟨v5,_⟩,⟨v6,_⟩,⟨v7,_⟩,⟨v8,_⟩,⟨v9,_⟩,⟨zT,_⟩,zU,_⟩:=CN zJ;clear zE zB zK zJ zF e0 e1 e2 e3 HC zz
 go_wp2;refine bodyPost_ret (v:=.agg AJ.toArray) (by simp[results,results62,go_sem,y0,y1,y2,y3,y4,y5,y6,y7,y8,y9,zM,zN,AJ]) rfl ⟨rfl,V,zC.o.1.turn (DX w1 (w.heap.size+1) _ _ _ _ _ _ _ _ _ _ _ _) (by intro b hb;simp at hb;subst hb;exact⟨by have:=HZ.o.2.2.2.2.2;omega,zC.o.2.2⟩),Tn.fresh ((Tn.of HZ.o.2.2.2.1).trans zC.o.2.1) (DX w1 (w.heap.size+1) _ _ _ _ _ _ _ _ _ _ _ _) (by omega)⟩
end Go.Proofs.YtflhhhnlhlaehaaGreatDoor
