import Derived.Test.YtlhhpofjkgmbeaaGreatDoorX14
import Derived.Deep.DeepCutAuto
import Derived.LaidHandle
import Derived.Test.YtlhhpofjkgmbeaaGreatDoorCards
import Derived.Test.YtlhhpofjkgmbeaaGreatDoorTie
import Derived.OpenVars
import Derived.Deep.DeepHandedRow
set_option maxRecDepth 100000
set_option maxHeartbeats 16000000
namespace Go.Proofs.YtlhhpofjkgmbeaaGreatDoor
open Go.ChangeShapes Go.WideShapes Go.ChangeAt Go.RowKit _root_.Go.Proofs.Tryz
theorem XT(s:Zi)(a b:Nat)(d:b<=s.size -1)(c:0<s.size):(s.extract 1 s.size).extract a b=s.extract (1+a) (1+b):=by rw[ByteArray.extract_extract];congr 1;omega
theorem WH{s:Zi}{a:Int}{k:Nat}(b:0<s.size)(d:0<=(k:Int) *a)(c:1<=a)(e:(k:Int) *a+a<=s.size -1):s.extract (1+(k:Int) *a).toNat (1+(k:Int) *a+a).toNat=Jm s a k:=by unfold Jm;rw[XT s _ _ (by omega) b,show(1+(k:Int) *a).toNat=1+((k:Int) *a).toNat from by omega,show(1+(k:Int) *a+a).toNat=1+((k:Int) *a+a).toNat from by omega]
theorem WI{s:Zi}{a:Int}{n:Nat}(b:0<s.size)(c:0<=(n:Int) *a):s.extract (1+(n:Int) *a).toNat s.size=Dn s a n:=by unfold Dn;rw[XT s _ _ (by omega) b,show(1+(n:Int) *a).toNat=1+((n:Int) *a).toNat from by omega,show 1+(s.size -1)=s.size from by omega]
theorem SY(s:Zi)(c:Int)(n:Nat)(w:Zh)(hs:s.size<=1048576)(O:1<=c)(h2:c<=8)(P:0<s.size)(N:s[0].toNat=n)(zE:(n:Int) *c<=s.size -1):
 Calls prog 156 #[.string s,Zg c] w fun e U=>
  (AJ (Dn s c n) (BE s c n) c=true->∃v,e=.returned (.tuple #[.agg #[.string (Dn s c n),v],.bool true])/\U.ownsRow w.heap.size 9 1 v n ((BE s c n).map Value.string))/\
  (AJ (Dn s c n) (BE s c n) c=false->e=.returned (.tuple #[.agg #[Zd,Zc],.bool false]))/\Zz w U:=by
 obtain⟨i0,hi,zA,zB,zC⟩:=info_parts CK;have zG:(0:Int)<s.size:=by omega
 have zI:((s.size:Int)==0)=false:=beq_eq_false_iff_ne.2 (by omega);have hn:n<256:=by rw[←N];exact s[0].toNat_lt
 have J:=JF hn O h2;have Z:=BY s[0];rw[N]at Z;go_enter func156,ntmps156;go_wp2;obtain⟨bt,u⟩:∃bt,bt=Dn s c n:=⟨_,rfl⟩;rw[WI P J.1,←u];have z:=Yx u;clear u
 go_loopw [8] (fun i wr=>∃(k:Nat) (v:Value),k<=n/\i=Zg k/\wr.cell? (Ze (w.heap.size+1) 0)=some (.string bt)/\wr.cell? (Ze (w.heap.size+1) 1)=some v/\wr.frozen? ⟨w.heap.size+1,1,none⟩=false/\
  wr.ownsRow (w.heap.size+2) 9 1 v k ((BE s c k).map Value.string)/\Below (w.heap.size+1) (w.alloc (Obj.cells #[Value.string ⟨#[]⟩,Value.slice none 0 0] 58)) wr) (fun i _=>n -(intOf i).toNat)
 case atStart=>exact⟨0,Zc,Nat.zero_le _,rfl,by simp[go_sem],by simp[go_sem],by simp[go_sem],World.ownsRow_nil _ _ _ _,(Below.refl _ _).alloc (by simp) _⟩
 case round=>
  obtain⟨k,v,S,rfl,t,B,M,o,d⟩:=hrel;have X:=d.size;simp at X;by_cases hlt:k<n
  ·obtain⟨m1,m2,m3,m4⟩:=SP O hlt;have zF:(k:Int)<n:=by omega
   have e1:=Eh ((k:Int) *c) (by omega) (by omega);have e2:=Eh (1+(k:Int) *c) (by omega) (by omega);have e3:=Eh (1+(k:Int) *c+c) (by omega) (by omega);have b1:(0:Int)<=1+(k:Int) *c:=by omega
   have b2:1+(k:Int) *c<=1+(k:Int) *c+c:=by omega
   have b3:1+(k:Int) *c+c<=(s.size:Int):=by omega
   have H:=Yx (WH P m1 O (by omega:(k:Int) *c+c<=s.size -1));have G:=SQ o (b:=w.heap.size+1) (by omega);have r:=World.block_lt_of_cell? wr _ t;clear m3;go_wp2
   go_region_law (refine step_append_lies _ rfl (.tmp 45) (.tmp 58) 22 rfl (w.heap.size+2) 9 i0 Zd 1 16 underlying22 hi zA zB zC rfl (by decide) v k ((BE s c k).map Value.string) rfl (World.ownsRow.alloc o _) ⟨wr.heap.size,0,none⟩ 1 1 [.string (s.extract (1+(k:Int) *c).toNat (1+(k:Int) *c+c).toNat)] rfl rfl (cell_one_new wr (.string (s.extract (1+(k:Int) *c).toNat (1+(k:Int) *c+c).toNat)) 9) (by simp[Value.oneCell']) (by decide) (by unfold maxLen;omega) (by omega) (by simp;omega) (wr.heap.size+1) (by simp) ?_;intro g A w1 q f zJ zH;have L:=Hm f t G;have V:=Hm f B G;have W:=(JP (p:=⟨w.heap.size+1,1,none⟩) f (by simp;omega) G).trans M)
   all_goals
    rw[H.o]at q;have R:=Mn r o d q f L V W;have F:=Yx R;clear R o d q f L t B M;go_wp2;refine⟨⟨_,_,_,_,_,_,_,_,_,_,_,_,_,_,_,_,_,_,_,_,_,_,_,⟨k+1,_,by omega,?_,F.o.1,F.o.2.1,F.o.2.2.1,F.o.2.2.2.1,F.o.2.2.2.2⟩,rfl⟩,?_⟩
    ·go_num
    ·simp[intOf];omega
  ·obtain rfl:k=n:=by omega
   have r:=World.block_lt_of_cell? wr _ t;obtain⟨a,A,T,I⟩:=DF (ss:=BE s c k) (by rw[Cj];exact o);rw[Cj]at T;subst T;have C:(wr.cell? (Ze (w.heap.size) 0))=some Zd:=by rw[d.cell (p:=⟨w.heap.size,0,none⟩) (by simp)];simp
   have D:(wr.cell? (Ze (w.heap.size) 1))=some Zc:=by rw[d.cell (p:=⟨w.heap.size,1,none⟩) (by simp)];simp
   have x:wr.frozen? ⟨w.heap.size,0,none⟩=false:=by rw[d.frozen (p:=⟨w.heap.size,0,none⟩) (by simp)];simp
   have y:wr.frozen? ⟨w.heap.size,1,none⟩=false:=by rw[d.frozen (p:=⟨w.heap.size,1,none⟩) (by simp)];simp
   have Y:bt.size<=maxLen:=by rw[z.o];simp[Dn,maxLen];omega
   have m:=CX bt a A (BE s c k) c wr I (by rw[Cj];omega) Y;rw[Cj]at m;have l:w.heap.size<wr.heap.size:=by omega
   go_wp2_with fail;refine m.mono ?_;rintro e w2 ⟨rfl,j⟩;have Q:=(Zy).trans (d.mono (by omega));have K:=Q.trans (j.mono Q.size);have E:=o.kept (row:=none) ⟨j.os,j.tape,j.output,j.size,fun k S _=>j.block k S⟩ (by cases a<;>simp[Value.ownBlock]);have t:=(j.cell (p:=⟨w.heap.size+1,0,none⟩) r).trans t;have B:=(j.cell (p:=⟨w.heap.size+1,1,none⟩) r).trans B
   have C:=(j.cell (p:=⟨w.heap.size,0,none⟩) l).trans C;have D:=(j.cell (p:=⟨w.heap.size,1,none⟩) l).trans D;have x:=(j.frozen (p:=⟨w.heap.size,0,none⟩) l).trans x;have y:=(j.frozen (p:=⟨w.heap.size,1,none⟩) l).trans y;cases hok:AJ bt (BE s c k) c with
   |true=>
    clear m;go_wp2;refine bodyPost_ret (v:=.tuple #[.agg #[.string bt,.slice a k A],.bool true]) (by simp[results,results156,go_sem,C,D]) rfl ⟨fun _=>⟨.slice a k A,?_,?_⟩,fun h=> ?_,?_⟩
    ·rw[z.o]
    ·exact(ownsRow_setCell_below (ownsRow_setCell_below E (by simp) _) (by simp) _).mono (by omega)
    ·rw[←z.o,hok]at h;cases h
    ·exact(K.setCell (by simp) _).setCell (by simp) _
   |false=>
    clear m;go_wp2;refine bodyPost_ret (v:=.tuple #[.agg #[Zd,Zc],.bool false]) (by simp[results,results156,go_sem,C,D]) rfl ⟨fun h=> ?_,fun _=>rfl,?_⟩
    ·rw[←z.o,hok]at h;cases h
    ·exact(K.setCell (by simp) _).setCell (by simp) _
theorem SZ(s:Zi)(a:Int)(w:Zh)(h:¬(1<=a/\a<=8)):
 Calls prog 156 #[.string s,Zg a] w (FL w):=by
 by_cases h1:1<=a
 ·have b:decide (a<=8)=false:=by simp;omega
  go_enter func156,ntmps156;go_wp2;exact bodyPost_ret (v:=.tuple #[.agg #[Zd,Zc],.bool false]) (by simp[results,results156,go_sem]) rfl ⟨rfl,Zy⟩
 ·go_enter func156,ntmps156;go_wp2;exact bodyPost_ret (v:=.tuple #[.agg #[Zd,Zc],.bool false]) (by simp[results,results156,go_sem]) rfl ⟨rfl,Zy⟩
theorem Ta(s:Zi)(a:Int)(w:Zh)(d:1<=a)(e:a<=8)(c:s.size=0):
 Calls prog 156 #[.string s,Zg a] w (FL w):=by
 have b:=beq_iff_eq.2 (by omega);go_enter func156,ntmps156;go_wp2;exact bodyPost_ret (v:=.tuple #[.agg #[Zd,Zc],.bool false]) (by simp[results,results156,go_sem]) rfl ⟨rfl,Zy⟩
theorem Tb(s:Zi)(a:Int)(n:Nat)(w:Zh)(l:s.size<=1048576)(h:1<=a)(i:a<=8)(k:0<s.size)(b:s[0].toNat=n)(d:(s.size:Int) -1<(n:Int) *a):
 Calls prog 156 #[.string s,Zg a] w (FL w):=by
 have e:(0:Int)<s.size:=by omega
 have f:((s.size:Int)==0)=false:=beq_eq_false_iff_ne.2 (by omega);have j:n<256:=by rw[←b];exact s[0].toNat_lt
 have g:=JF j h i;have c:=BY s[0];rw[b]at c;go_enter func156,ntmps156;go_wp2;exact bodyPost_ret (v:=.tuple #[.agg #[Zd,Zc],.bool false]) (by simp[results,results156,go_sem]) rfl ⟨rfl,Zy⟩
def JQ(s:Zi)(wd:Int)(n:Nat):Zi×Zl×Bool:=
 if (n:Int) *wd<=s.size -1/\AJ (Dn s wd n) (BE s wd n) wd=true then (Dn s wd n,BE s wd n,true)else (⟨#[]⟩,[],false)
def rd(s:Zi)(wd:Int):Zi×Zl×Bool:=
 if 1<=wd/\wd<=8 then
  match s.data.toList.head? with
  |none=>(⟨#[]⟩,[],false)
  |some b=>JQ s wd b.toNat
 else (⟨#[]⟩,[],false)
def Er(s:Zi)(wd:Int)(w:Zh)(e:Ending)(w':Zh):Prop:=
 ∃v,e=.returned (.tuple #[.agg #[.string (rd s wd).1,v],.bool (rd s wd).2.2])/\w'.ownsRow w.heap.size 9 1 v (rd s wd).2.1.length ((rd s wd).2.1.map Value.string)/\Zz w w'
theorem Qa{s:Zi}(a:0<s.size):s.data.toList.head?=some s[0]:=by rw[List.head?_eq_getElem?,Zv (by simpa using a)];rfl
theorem VK(s:Zi)(a:Int):(rd s a).2.1.length<=255:=by
 unfold rd;split
 ·split
  ·simp
  ·rename_i b _
   unfold JQ;have:=b.toNat_lt;split
   ·simp[Cj];omega
   ·simp
 ·simp
theorem EH{s:Zi}{b:Int}{w:Zh}(h:rd s b=(⟨#[]⟩,[],false)):∀e a,FL w e a->Er s b w e a:=by rintro e a ⟨rfl,c⟩;unfold Er;rw[h];exact⟨Zc,rfl,World.ownsRow_nil _ _ _ _,c⟩
theorem Tc{s:Zi}{a:Int}{n:Nat}{w:Zh}(j:rd s a=JQ s a n)(c:(n:Int) *a<=s.size -1):∀e b,
 ((AJ (Dn s a n) (BE s a n) a=true->∃v,e=.returned (.tuple #[.agg #[.string (Dn s a n),v],.bool true])/\b.ownsRow w.heap.size 9 1 v n ((BE s a n).map Value.string))/\
   (AJ (Dn s a n) (BE s a n) a=false->e=.returned (.tuple #[.agg #[Zd,Zc],.bool false]))/\Zz w b)->Er s a w e b:=by
 rintro e b ⟨f,g,d⟩;unfold Er;rw[j];unfold JQ;cases hok:AJ (Dn s a n) (BE s a n) a with
 |true=>rw[if_pos ⟨c,rfl⟩];obtain⟨v,h,i⟩:=f hok;exact⟨v,h,by simpa [Cj]using i,d⟩
 |false=>rw[if_neg (by simp)];exact⟨Zc,g hok,World.ownsRow_nil _ _ _ _,d⟩
theorem Td(s:Zi)(a:Int)(w:Zh)(c:s.size<=1048576):Calls prog 217 #[.string s,Zg a] w (Er s a w):=by
 by_cases hw:1<=a/\a<=8
 ·by_cases h0:0<s.size
  ·have b:rd s a=JQ s a s[0].toNat:=by unfold rd;rw[if_pos hw,Qa h0]
   by_cases hfit:(s[0].toNat:Int) *a<=s.size -1
   ·exact(SR s a _ w c hw.1 hw.2 h0 rfl hfit).mono (Tc b hfit)
   ·exact(SX s a _ w c hw.1 hw.2 h0 rfl (by omega)).mono (EH (by rw[b];unfold JQ;rw[if_neg (fun h=>hfit h.1)]))
  ·refine(SW s a w hw.1 hw.2 (by omega)).mono (EH ?_);have d:s.data.toList=[]:=List.eq_nil_of_length_eq_zero (by have e:s.data.toList.length=s.size:=Array.length_toList;omega);unfold rd;rw[if_pos hw,d];rfl
 ·exact(SV s a w hw).mono (EH (by unfold rd;rw[if_neg hw]))
theorem Te(s:Zi)(a:Int)(w:Zh)(c:s.size<=1048576):Calls prog 156 #[.string s,Zg a] w (Er s a w):=by
 by_cases hw:1<=a/\a<=8
 ·by_cases h0:0<s.size
  ·have b:rd s a=JQ s a s[0].toNat:=by unfold rd;rw[if_pos hw,Qa h0]
   by_cases hfit:(s[0].toNat:Int) *a<=s.size -1
   ·exact(SY s a _ w c hw.1 hw.2 h0 rfl hfit).mono (Tc b hfit)
   ·exact(Tb s a _ w c hw.1 hw.2 h0 rfl (by omega)).mono (EH (by rw[b];unfold JQ;rw[if_neg (fun h=>hfit h.1)]))
  ·refine(Ta s a w hw.1 hw.2 (by omega)).mono (EH ?_);have d:s.data.toList=[]:=List.eq_nil_of_length_eq_zero (by have e:s.data.toList.length=s.size:=Array.length_toList;omega);unfold rd;rw[if_pos hw,d];rfl
 ·exact(SZ s a w hw).mono (EH (by unfold rd;rw[if_neg hw]))
def IA:Zk->Value
 |none=> .nilIface
 |some q=> .iface 221 (.pointer (some q))
structure Qb (w:Zh) (b:Nat) (rest:Zi) (kind:Int) (er:Zk):Prop where
 x0:w.cell? (Ze b 0)=some (.string rest)
 x1:w.cell? (Ze b 1)=some (Zg kind)
 x2:w.cell? (Ze b 2)=some (IA er)
 f0:w.frozen? ⟨b,0,none⟩=false
 f1:w.frozen? ⟨b,1,none⟩=false
 f2:w.frozen? ⟨b,2,none⟩=false
def DG(w:Zh)(b:Nat)(rest:Zi)(kind:Int)(bad:Bool):Prop:=∃er:Zk,er.isSome=bad/\Qb w b rest kind er
theorem Qb.lt{w:Zh}{b:Nat}{rest:Zi}{kind:Int}{a:Zk}(h:Qb w b rest kind a):b<w.heap.size:=World.block_lt_of_cell? w _ h.x0
theorem Qb.below{w e:Zh}{b:Nat}{rest:Zi}{kind:Int}{d:Zk}(h:Qb w b rest kind d)(a:Zz w e):Qb e b rest kind d:=by have c:=h.lt;exact⟨(a.cell (p:=⟨b,0,none⟩) c).trans h.x0,(a.cell (p:=⟨b,1,none⟩) c).trans h.x1,(a.cell (p:=⟨b,2,none⟩) c).trans h.x2,(a.frozen (p:=⟨b,0,none⟩) c).trans h.f0,(a.frozen (p:=⟨b,1,none⟩) c).trans h.f1,(a.frozen (p:=⟨b,2,none⟩) c).trans h.f2⟩
theorem DG.below{w a:Zh}{b:Nat}{rest:Zi}{kind:Int}{bad:Bool}(h:DG w b rest kind bad)(f:Zz w a):DG a b rest kind bad:=by obtain⟨c,d,e⟩:=h;exact⟨c,d,e.below f⟩
theorem FM(b:Nat)(rest:Zi)(kind:Int)(d:Bool)(f:TypeId)(g:Value)(w:Zh)(h:DG w b rest kind d):
 Calls prog 184 #[Yz b,.iface f g] w fun e c=>e=.returned (.tuple #[])/\DG c b rest kind true/\w.grownBy c (some b):=by
 obtain⟨i,rfl,h⟩:=h;have p:=h.lt;obtain⟨m,n,a,j,k,l⟩:=h;cases i with
 |none=>
  simp only[IA]at a;go_enter func184,ntmps184;go_wp2
  go_end0
  refine⟨rfl,⟨some ⟨w.heap.size,0,none⟩,rfl,?_⟩,?_⟩
  ·have o:b≠w.heap.size:=by omega
   constructor<;>simp[IA,go_sem, *]
  ·exact(Ay _ _ _ _).trans (World.grownBy_alloc _ _ _)
 |some q=>
  simp only[IA]at a;go_enter func184,ntmps184;go_wp2
  go_end0
  exact⟨rfl,⟨some q,rfl,⟨m,n,a,j,k,l⟩⟩,World.grownBy.refl _ _⟩
def Bd(rest:Zi)(bad:Bool)(n:Int):Zi×Zi×Bool:=
 if bad=true then (⟨#[]⟩,rest,true)else if (rest.size:Int)<n then (⟨#[]⟩,rest,true)else (rest.extract 0 n.toNat,rest.extract n.toNat rest.size,false)
theorem IB(b:Nat)(rest:Zi)(kind:Int)(a:Bool)(n:Int)(d:TypeId)(f:Value)(w:Zh)(h:DG w b rest kind a)(s:a=false->0<=n)(x:w.cell? (Ze 6 0)=some (.iface d f)):
 Calls prog 186 #[Yz b,Zg n] w fun e g=>e=.returned (.string (Bd rest a n).1)/\DG g b (Bd rest a n).2.1 kind (Bd rest a n).2.2/\w.grownBy g (some b):=by
 have p:=h;obtain⟨j,rfl,h⟩:=h;have y:=h.lt;obtain⟨t,u,c,k,l,m⟩:=h;cases j with
 |none=>
  simp only[IA]at c;have v:=s rfl;by_cases hf:(rest.size:Int)<n
  ·rw[show Bd rest (none:Zk).isSome n=(⟨#[]⟩,rest,true) by simp[Bd,hf]];have i:decide ((rest.size:Int)<n)=true:=by simpa using hf
   go_enter func186,ntmps186;go_wp2_with fail;refine(FM b rest kind false d f w p).mono ?_;rintro e z ⟨rfl,r,o⟩;go_wp2;go_ret;exact⟨rfl,r,o⟩
  ·rw[show Bd rest (none:Zk).isSome n=(rest.extract 0 n.toNat,rest.extract n.toNat rest.size,false) by simp[Bd,hf]];have i:decide ((rest.size:Int)<n)=false:=by simpa using hf
   go_enter func186,ntmps186;go_wp2;go_ret;refine⟨rfl,⟨none,rfl,?_⟩,Ay _ _ _ _⟩;constructor<;>simp[IA,go_sem, *]
 |some q=>rw[show Bd rest (some q:Zk).isSome n=(⟨#[]⟩,rest,true) by simp[Bd]];simp only[IA]at c;go_enter func186,ntmps186;go_wp2;go_ret;exact⟨rfl,⟨some q,rfl,⟨t,u,c,k,l,m⟩⟩,World.grownBy.refl _ _⟩
def Cz(l:List UInt8):Int:=l.foldl (fun a b=>a *256+(b.toNat:Int)) 0
theorem Tf(l:List UInt8)(b:UInt8):Cz (l++[b])=Cz l *256+(b.toNat:Int):=by simp[Cz]
theorem WJ(l:List UInt8):∀a:Int,0<=a->0<=l.foldl (fun a b=>a *256+(b.toNat:Int)) a/\l.foldl (fun a b=>a *256+(b.toNat:Int)) a<(a+1) *256^l.length:=by
 induction l with
 |nil=>intro a e;simp;omega
 |cons b l ih=>intro a e;have f:=b.toNat_lt;obtain⟨c,d⟩:=ih (a *256+(b.toNat:Int)) (by omega);refine⟨c,Int.lt_of_lt_of_le d ?_⟩;rw[List.length_cons,Int.pow_succ,←Int.mul_assoc,Int.mul_right_comm];exact Int.mul_le_mul_of_nonneg_right (by omega) (Int.pow_nonneg (by omega))
theorem La(l:List UInt8):0<=Cz l/\Cz l<256^l.length:=by have:=WJ l 0 (Int.le_refl _);simpa [Cz]using this
theorem US(a b:Nat)(f:a<2^30)(g:b<256):bits .or .i64 ((a:Int) *256) (b:Int)=(a:Int) *256+b:=by
 have c:((a:Int) *256)=((a *256:Nat):Int):=by omega
 have e:a *256|||b=a *256+b:=by have:=Nat.shiftLeft_add_eq_or_of_lt (i:=8) (b:=b) (by omega) a;rw[Nat.shiftLeft_eq,show(2:Nat)^8=256 from rfl]at this;omega
 have d:(BitVec.ofInt 64 ((a:Int) *256)|||BitVec.ofInt 64 (b:Int)).toNat=a *256+b:=by rw[c,BitVec.toNat_or,BitVec.ofInt_natCast,BitVec.ofInt_natCast,BitVec.toNat_ofNat,BitVec.toNat_ofNat,Nat.mod_eq_of_lt (by omega),Nat.mod_eq_of_lt (by omega),e]
 show IntKind.i64.wrap ((BitVec.ofInt 64 ((a:Int) *256)|||BitVec.ofInt 64 (b:Int)).toNat:Int)=_;rw[d,Eh _ (by omega) (by omega)];omega
theorem Gu(b:Nat)(rest:Zi)(kind:Int)(c:Bool)(n:Nat)(o:TypeId)(p:Value)(w:Zh)(h:DG w b rest kind c)(F:n<=4)(s:w.cell? (Ze 6 0)=some (.iface o p)):
 Calls prog 185 #[Yz b,Zg (n:Int)] w fun e t=>e=.returned (Zg (Cz (Bd rest c n).1.data.toList))/\DG t b (Bd rest c n).2.1 kind (Bd rest c n).2.2/\w.grownBy t (some b):=by
 have y:(Bd rest c n).1.size<=4:=by
  unfold Bd;split
  ·exact Nat.zero_le _
  ·split
   ·exact Nat.zero_le _
   ·simp;omega
 go_enter func185,ntmps185;go_wp2_with fail;refine(IB b rest kind c n o p w h (fun _=>by omega) s).mono ?_;rintro e G ⟨rfl,q,m⟩;have z:=Yx (Zn q m);clear q m h s;obtain⟨a,f⟩:∃a,a=(Bd rest c n).1:=⟨_,rfl⟩;rw[←f]at y ⊢;have A:=Yx f;clear f;go_wp2
 go_loop [6,13] (fun x i=>∃k:Nat,k<=a.size/\i=Zg k/\x=Zg (Cz (a.data.toList.take k))) (fun _ i=>a.size -(intOf i).toNat)
 case atStart=>exact⟨0,Nat.zero_le _,rfl,rfl⟩
 case round=>
  obtain⟨k,E,rfl,rfl⟩:=hrel;by_cases hlt:k<a.size
  ·have l:=La (a.data.toList.take k);have d:Cz (a.data.toList.take (k+1))=Cz (a.data.toList.take k) *256+(a[k].toNat:Int):=by rw[←Tf,Zu (by simpa using hlt)];rfl
   have C:Cz (a.data.toList.take k)<16777216:=by
    have r:=l.2;have u:(a.data.toList.take k).length=0∨(a.data.toList.take k).length=1∨(a.data.toList.take k).length=2∨(a.data.toList.take k).length=3:=by simp;omega
    rcases u with g|g|g|g<;>rw[g]at r<;>simp at r<;>omega
   obtain⟨X,B⟩:∃X:Nat,Cz (a.data.toList.take k)=(X:Int):=⟨_,(Int.toNat_of_nonneg l.1).symm⟩;have v:=US X a[k].toNat (by omega) a[k].toNat_lt;rw[B]at d ⊢;have D:IntKind.i64.wrap ((X:Int) *256)=(X:Int) *256:=Eh _ (by omega) (by omega);clear l;go_wp2;exact⟨⟨k+1,by omega,by go_num,by rw[d,BY,v]⟩,by simp[intOf];omega⟩
  ·obtain rfl:k=a.size:=by omega
   have j:a.data.toList.take a.size=a.data.toList:=Zt (by simp);rw[j];go_wp2;go_ret;exact⟨by rw[←A.o];rfl,z.o⟩
structure Env (w:Zh):Prop where
 gq:Jk w
 ig:Hl w
 er:∀g∈[1,2,3,4,6,7],∃t v,w.cell? (Ze g 0)=some (.iface t v)
theorem Env.lt{w:Zh}(h:Env w):∀g∈[1,2,3,4,6,7,0,5],g<w.heap.size:=by
 intro g b;have d:=h.er;obtain⟨c,_⟩:=h.gq 1 (by omega) (by omega);have e:=World.block_lt_of_cell? w _ c;have f:=World.block_lt_of_cell? w _ h.ig;have a:∀g∈[1,2,3,4,6,7],g<w.heap.size:=fun g b=>by obtain⟨t,v,i⟩:=d g b;exact World.block_lt_of_cell? w _ i
 simp only[List.mem_cons,List.not_mem_nil,or_false]at b a;rcases b with rfl|rfl|rfl|rfl|rfl|rfl|rfl|rfl
 ·exact a _ (by simp)
 ·exact a _ (by simp)
 ·exact a _ (by simp)
 ·exact a _ (by simp)
 ·exact a _ (by simp)
 ·exact a _ (by simp)
 ·exact e
 ·exact f
theorem Env.of{w c:Zh}(h:Env w)(a:∀p:Addr,p.block∈[1,2,3,4,6,7,0,5]->c.cell? p=w.cell? p):Env c:=by
 refine⟨fun k f i=> ?_,?_,fun g b=> ?_⟩
 ·obtain⟨d,e,c2,c3⟩:=h.gq k f i;exact⟨(a ⟨_,_,none⟩ (by simp)).trans d,(a ⟨_,_,none⟩ (by simp)).trans e,(a ⟨_,_,none⟩ (by simp)).trans c2,(a ⟨_,_,none⟩ (by simp)).trans c3⟩
 ·exact(a ⟨_,_,none⟩ (by simp)).trans h.ig
 ·obtain⟨t,v,j⟩:=h.er g b;refine⟨t,v,(a ⟨g,0,none⟩ ?_).trans j⟩;simp only[List.mem_cons,List.not_mem_nil,or_false]at b ⊢;omega
theorem Env.below{w a:Zh}(h:Env w)(b:Zz w a):Env a:=
 h.of fun _ c=>b.cell (h.lt _ c)
theorem Env.ic{w c:Zh}{b:Nat}(h:Env w)(f:w.grownBy c (some b))(d:∀g∈[1,2,3,4,6,7,0,5],g<b):Env c:=
 h.of fun p a=>f.cell_far p (h.lt _ a) (fun e=>by have:=d _ a;injection e;omega)
theorem DG.lt{w:Zh}{b:Nat}{rest:Zi}{kind:Int}{bad:Bool}(h:DG w b rest kind bad):b<w.heap.size:=by obtain⟨a,_,h⟩:=h;exact h.lt
theorem DG.setKind{w:Zh}{b:Nat}{rest:Zi}{kind:Int}{a:Bool}(h:DG w b rest kind a)(k:Int):DG (w.setCell (Ze b 1) (Zg k)) b rest k a:=by obtain⟨c,d,i,j,l,e,f,g⟩:=h;refine⟨c,d,?_⟩;constructor<;>simp[go_sem, *]
theorem DG.cl{w i:Zh}{b c:Nat}{rest:Zi}{kind:Int}{g:Bool}(h:DG w b rest kind g)(a:w.grownBy i (some c))(j:b≠c):DG i b rest kind g:=by obtain⟨k,l,h⟩:=h;have d:=h.lt;have f:some b≠some c:=fun e=>j (by injection e);exact⟨k,l,(a.cell_far ⟨b,0,none⟩ d f).trans h.x0,(a.cell_far ⟨b,1,none⟩ d f).trans h.x1,(a.cell_far ⟨b,2,none⟩ d f).trans h.x2,(a.frozen_far ⟨b,0,none⟩ d f).trans h.f0,(a.frozen_far ⟨b,1,none⟩ d f).trans h.f1,(a.frozen_far ⟨b,2,none⟩ d f).trans h.f2⟩
def EP(rest:Zi)(bad:Bool):Zi:=(Bd rest bad rest.size).1
def Jn(rest:Zi)(bad:Bool):Zi:=(Bd rest bad rest.size).2.1
def FW(rest:Zi)(bad:Bool)(wd:Int):Bool:=(Bd rest bad rest.size).2.2|| !(rd (EP rest bad) wd).2.2
theorem Qc{rest:Zi}{bad:Bool}(h:rest.size<=1048576):(EP rest bad).size<=1048576:=by
 unfold EP Bd;split
 ·exact Nat.zero_le _
 ·split
  ·exact Nat.zero_le _
  ·simp;omega
theorem Tg(b:Nat)(rest:Zi)(kind:Int)(bad:Bool)(a:Int)(w:Zh)(h:DG w b rest kind bad)(he:Env w)(hb:∀g∈[1,2,3,4,6,7,0,5],g<b)(hs:rest.size<=1048576):
 Calls prog 187 #[Yz b,Zg a] w fun e V=>∃v,e=.returned (.agg #[.string (rd (EP rest bad) a).1,v])/\
  V.ownsRow w.heap.size 9 1 v (rd (EP rest bad) a).2.1.length ((rd (EP rest bad) a).2.1.map Value.string)/\DG V b (Jn rest bad) kind (FW rest bad a)/\w.grownBy V (some b):=by
 obtain⟨W,o⟩:∃W,W=w.alloc (.cells #[Zd,Zc] 58):=⟨_,rfl⟩;have B:=(AG o).1;have r0:W.cell? (Ze (w.heap.size) 0)=some Zd:=by rw[o];simp
 have r1:W.cell? (Ze (w.heap.size) 1)=some Zc:=by rw[o];simp
 have Q:W.frozen? ⟨w.heap.size,0,none⟩=false:=by rw[o];simp
 have R:W.frozen? ⟨w.heap.size,1,none⟩=false:=by rw[o];simp
 have D:w.heap.size<W.heap.size:=by rw[o];simp
 have f:=h.lt;have zA:=h.below B;have U:=he.below B;obtain⟨gt,gv,H⟩:=U.er 6 (by simp);have Z:=Yx o;have M:=Qc (bad:=bad) hs;obtain⟨er,G,x0,x1,x2,f0,f1,f2⟩:=zA;have Y:Hid (DG W b rest kind bad):=⟨er,G,x0,x1,x2,f0,f1,f2⟩;clear o h;go_enter func187,ntmps187;go_upto_region 1 with fail;rw[←Z.o];go_wp2_with fail;refine(IB b rest kind bad rest.size gt gv W Y.o (fun _=>by omega) H).mono ?_
 rintro e u ⟨rfl,h1,n⟩;rw[show(Bd rest bad rest.size).1=EP rest bad from rfl];obtain⟨c,z⟩:∃c,c=EP rest bad:=⟨_,rfl⟩;rw[←z]at M ⊢;have s:=Yx z;have T:=fun W'=>Td c a W' M;unfold Er at T;have X:=Yx T;clear T x0 x1 x2 f0 f1 f2 G H z;go_wp2_with fail;refine(X.o u).mono ?_;rintro e q ⟨v,rfl,C,A⟩;obtain⟨x,c2,hv,_⟩:=DF C;subst hv;have zE:=n.size;have E:=A.size
 obtain⟨i,m⟩:∃i,i=q.alloc (.cells #[.string (rd c a).1,.slice x (rd c a).2.1.length c2] 58):=⟨_,rfl⟩;have t:=(AG m).1;have t0:i.cell? (Ze (q.heap.size) 0)=some (.string (rd c a).1):=by rw[m];simp
 have t1:i.cell? (Ze (q.heap.size) 1)=some (.slice x (rd c a).2.1.length c2):=by rw[m];simp
 have N:q.heap.size<i.heap.size:=by rw[m];simp
 have zC:=t.size;have d:=A.trans (t.mono E);have q0:=(d.cell (p:=⟨w.heap.size,0,none⟩) (by simp;omega)).trans ((n.cell_far ⟨w.heap.size,0,none⟩ D (II f)).trans r0);have q1:=(d.cell (p:=⟨w.heap.size,1,none⟩) (by simp;omega)).trans ((n.cell_far ⟨w.heap.size,1,none⟩ D (II f)).trans r1)
 have O:=(d.frozen (p:=⟨w.heap.size,0,none⟩) (by simp;omega)).trans ((n.frozen_far ⟨w.heap.size,0,none⟩ D (II f)).trans Q);have P:=(d.frozen (p:=⟨w.heap.size,1,none⟩) (by simp;omega)).trans ((n.frozen_far ⟨w.heap.size,1,none⟩ D (II f)).trans R);have L:=h1.below d;have e3:=(U.ic n hb).below d;have y:=((Au (some b) B).trans n).trans (Au (some b) d);have J:=C.kept (Au none t) (Classical.em _)
 have I:∀k,(Value.slice x (rd c a).2.1.length c2).ownBlock=some k->u.heap.size<=k:=fun k hk=>(C.lt k hk).1;obtain⟨kt,kv,zB⟩:=e3.er 7 (by simp);have r:=Yx (Zn L (Zn y (Zn J I)));have F:=Yx m;clear L y J e3 h1 n A C r0 r1 Q R U Y X I Z d t m;go_upto_region 2 with fail;rw[←F.o];clear F;cases hok:(rd c a).2.2 with
 |true=>
  go_wp2;refine bodyPost_ret (v:=.agg #[.string (rd c a).1,.slice x (rd c a).2.1.length c2]) (by simp[results,results187,go_sem, *]) rfl ?_;refine⟨_,by rw[←s.o],?_,?_,?_⟩
  ·rw[←s.o];exact(ownsRow_setCell_below (ownsRow_setCell_below r.o.2.2.1 (show w.heap.size<u.heap.size by omega) _) (show w.heap.size<u.heap.size by omega) _).mono (by omega)
  ·have:FW rest bad a=(Bd rest bad rest.size).2.2:=by unfold FW;rw[←s.o,hok];simp
   rw[this];exact(r.o.1.cl (Ay _ w.heap.size 0 _) (by omega)).cl (Ay _ w.heap.size 1 _) (by omega)
  ·exact(r.o.2.1.andThen (Ay _ w.heap.size 0 _) (fun j e=>by cases e;exact .inl (Zx))).andThen (Ay _ w.heap.size 1 _) (fun j e=>by cases e;exact .inl (Zx))
 |false=>
  go_wp2_with fail;refine(FM b _ kind _ kt kv i r.o.1).mono ?_;rintro e w4 ⟨rfl,h4,l⟩;have zF:=l.size;have t0:=(l.cell_far ⟨q.heap.size,0,none⟩ N (II (show b<q.heap.size by omega))).trans t0;have t1:=(l.cell_far ⟨q.heap.size,1,none⟩ N (II (show b<q.heap.size by omega))).trans t1;have q0:=(l.cell_far ⟨w.heap.size,0,none⟩ (show w.heap.size<i.heap.size by omega) (II f)).trans q0
  have q1:=(l.cell_far ⟨w.heap.size,1,none⟩ (show w.heap.size<i.heap.size by omega) (II f)).trans q1;have O:=(l.frozen_far ⟨w.heap.size,0,none⟩ (show w.heap.size<i.heap.size by omega) (II f)).trans O;have P:=(l.frozen_far ⟨w.heap.size,1,none⟩ (show w.heap.size<i.heap.size by omega) (II f)).trans P;have K:=r.o.2.2.1.kept l (.inr (fun e=>by have:=r.o.2.2.2 b e;omega));have y:=r.o.2.1.trans l
  have S:=Yx (Zn h4 (Zn y K));clear h4 y K l zB;go_wp2;refine bodyPost_ret (v:=.agg #[.string (rd c a).1,.slice x (rd c a).2.1.length c2]) (by simp[results,results187,go_sem, *]) rfl ?_;refine⟨_,by rw[←s.o],?_,?_,?_⟩
  ·rw[←s.o];exact(ownsRow_setCell_below (ownsRow_setCell_below S.o.2.2 (show w.heap.size<u.heap.size by omega) _) (show w.heap.size<u.heap.size by omega) _).mono (by omega)
  ·have:FW rest bad a=true:=by unfold FW;rw[←s.o,hok];simp
   rw[this];exact(S.o.1.cl (Ay _ w.heap.size 0 _) (by omega)).cl (Ay _ w.heap.size 1 _) (by omega)
  ·exact(S.o.2.1.andThen (Ay _ w.heap.size 0 _) (fun j e=>by cases e;exact .inl (Zx))).andThen (Ay _ w.heap.size 1 _) (fun j e=>by cases e;exact .inl (Zx))
theorem XU:prog.globalNamed "errors.errorType" =some 5:=by kernel_rfl
theorem ZG:(prog.cutTypes.find? (·.1== "internal/reflectlite.rtype")).map (·.2)=some 284:=by kernel_rfl
theorem Th:prog.types.size+100=454:=by kernel_rfl
theorem XV:((List.range (454 -100)).filter fun t=>prog.rowNamed t [101,114,114,111,114])=[208]:=by kernel_rfl
theorem XW{W:Zh}(h:handlesMet prog [("errors.errorType",Rows.laid_errors_errorType)] W):Hl W:=by
 obtain⟨name,u,i,c,d,j,e,a⟩:=h _ (List.mem_singleton.2 rfl);have f:=(Option.some.inj c).symm;subst f;obtain rfl:=Option.some.inj (ZG.symm.trans d);have b:i∈(List.range (454 -100)).filter fun t=>prog.rowNamed t [101,114,114,111,114]:=List.mem_filter.2 ⟨List.mem_range.2 (by have:=Th;omega),e⟩;rw[XV]at b;obtain rfl:=List.mem_singleton.1 b;have g:typeHandle prog 208=Yy 9 208:=by kernel_rfl
 rw[g]at a;unfold Hl;simpa using World.var?_cell XU a 0
theorem Ip{W:Zh}{e:String}{g:Nat}{a:Array Value}{b:Nat}{j:String}{d:DataW Unit}{p:List MemPlace}(i:prog.globalNamed e=some g)(c:W.var? prog e=some a)
 (h:DataW.trod (fun _=>()) prog W 0 (fun _=>true) false b 208 a.toList=some (.iface j d,p)):∃t v,W.cell? (Ze g 0)=some (.iface t v):=by
 obtain⟨_,u,v,f,_,_⟩:=iface_of_trod underlying208 h;refine⟨u,v,?_⟩;rw[World.var?_cell i c];have:a[0]?=a.toList[0]?:=by simp
 rw[this,f];rfl
theorem Ob:prog.globalNamed "loop.example/kilnvault/impl.errWidth" =some 1/\(prog.globals[1]?).map (·.type)=some 208:=⟨by kernel_rfl,by kernel_rfl⟩
theorem Oc:prog.globalNamed "loop.example/kilnvault/impl.errKind" =some 2/\(prog.globals[2]?).map (·.type)=some 208:=⟨by kernel_rfl,by kernel_rfl⟩
theorem Od:prog.globalNamed "loop.example/kilnvault/impl.errShort" =some 6/\(prog.globals[6]?).map (·.type)=some 208:=⟨by kernel_rfl,by kernel_rfl⟩
theorem Oe:prog.globalNamed "loop.example/kilnvault/impl.errThing" =some 7/\(prog.globals[7]?).map (·.type)=some 208:=⟨by kernel_rfl,by kernel_rfl⟩
theorem Ra:prog.globalNamed "loop.example/kilnvault/impl.errLong" =some 3/\(prog.globals[3]?).map (·.type)=some 208:=⟨by kernel_rfl,by kernel_rfl⟩
theorem Og:prog.globalNamed "loop.example/kilnvault/impl.errParts" =some 4/\(prog.globals[4]?).map (·.type)=some 208:=⟨by kernel_rfl,by kernel_rfl⟩
def VL:List (String×DataW Unit):=
 [("loop.example/kilnvault/impl.kindParts",Rows.laid_loop_example_kilnvault_impl_kindParts),("loop.example/kilnvault/impl.errWidth",Rows.laid_loop_example_kilnvault_impl_errWidth),("loop.example/kilnvault/impl.errKind",Rows.laid_loop_example_kilnvault_impl_errKind),("loop.example/kilnvault/impl.errShort",Rows.laid_loop_example_kilnvault_impl_errShort),
   ("loop.example/kilnvault/impl.errThing",Rows.laid_loop_example_kilnvault_impl_errThing),("loop.example/kilnvault/impl.errLong",Rows.laid_loop_example_kilnvault_impl_errLong),("loop.example/kilnvault/impl.errParts",Rows.laid_loop_example_kilnvault_impl_errParts)]
theorem XX{W:Zh}(h:laidMet prog VL W)(F:handlesMet prog [("errors.errorType",Rows.laid_errors_errorType)] W):Env W:=by
 obtain⟨ps,G,_⟩:=h;obtain⟨X,t1,N,P,p1,q1,k,r,y,b,H,_⟩:=G;obtain⟨Y,t2,c2,Q,p2,q2,l,s,z,c,I,_⟩:=H;obtain⟨Z,t3,c3,R,p3,q3,m,t,A,d,J,_⟩:=I;obtain⟨g4,t4,c4,S,p4,q4,n,u,B,e,K,_⟩:=J;obtain⟨g5,t5,O,T,p5,q5,o,v,C,f,L,_⟩:=K;obtain⟨g6,t6,c6,U,p6,q6,p,w,D,i,M,_⟩:=L;obtain⟨g7,t7,c7,V,p7,q7,q,x,E,j,r7,_⟩:=M;obtain rfl:=Option.some.inj (VI.symm.trans k);obtain rfl:=Option.some.inj (SM.symm.trans r)
 obtain rfl:=Option.some.inj (Ob.1.symm.trans l);obtain rfl:=Option.some.inj (Ob.2.symm.trans s);obtain rfl:=Option.some.inj (Oc.1.symm.trans m);obtain rfl:=Option.some.inj (Oc.2.symm.trans t);obtain rfl:=Option.some.inj (Od.1.symm.trans n);obtain rfl:=Option.some.inj (Od.2.symm.trans u);obtain rfl:=Option.some.inj (Oe.1.symm.trans o);obtain rfl:=Option.some.inj (Oe.2.symm.trans v)
 obtain rfl:=Option.some.inj (Ra.1.symm.trans p);obtain rfl:=Option.some.inj (Ra.2.symm.trans w);obtain rfl:=Option.some.inj (Og.1.symm.trans q);obtain rfl:=Option.some.inj (Og.2.symm.trans x);refine⟨NY y b,XW F,?_⟩;intro g a;simp only[List.mem_cons,List.not_mem_nil,or_false]at a;rcases a with rfl|rfl|rfl|rfl|rfl|rfl
 ·exact Ip Ob.1 z c
 ·exact Ip Oc.1 A d
 ·exact Ip Ra.1 D i
 ·exact Ip Og.1 E j
 ·exact Ip Od.1 B e
 ·exact Ip Oe.1 C f
def putCells(cs:Array Value):Obj->Obj
 |.cells _ t frozen=> .cells cs t frozen
 |o=>o
def JG(n:Nat):Value:=.iface 321 (.pointer (some ⟨n,0,none⟩))
noncomputable def envWorld (os:Os):Zh:=
 let w0:=World.holding prog os ⟨#[],#[],[]⟩
 {w0 with heap:=(((((((((((((w0.heap.modify 0 (putCells #[.bool false,.bool false,.bool false,Zf,.bool false,.bool false,.bool true,Zg 100000,.bool true,.bool true,.bool false,Zf,.bool true,.bool false,.bool false,Zf,.bool false,.bool true,.bool false,Zg 100000,.bool false,.bool false,.bool false,Zg 1000000000,.bool false,.bool false,.bool false,Zg 100000,.bool false,.bool true,.bool false,Zf])).modify 5 (putCells #[.iface 284 (.agg #[.pointer (some ⟨9,208,none⟩)])])).modify 1 (putCells #[JG w0.heap.size])).modify 2 (putCells #[JG (w0.heap.size+1)])).modify 6 (putCells #[JG (w0.heap.size+2)])).modify 7 (putCells #[JG (w0.heap.size+3)])).modify 3 (putCells #[JG (w0.heap.size+4)])).modify 4 (putCells #[JG (w0.heap.size+5)])).push (.cells #[.string ⟨#[110,111,32,119,105,100,116,104]⟩] 340)).push (.cells #[.string ⟨#[110,111,32,107,105,110,100,32,111,102,32,101,110,116,114,121]⟩] 340)).push (.cells #[.string ⟨#[105,116,32,101,110,100,115,32,116,111,111,32,101,97,114,108,121]⟩] 340)).push (.cells #[.string ⟨#[105,116,115,32,116,104,105,110,103,32,105,115,32,110,111,110,101]⟩] 340)).push (.cells #[.string ⟨#[105,116,32,103,111,101,115,32,111,110,32,98,101,104,105,110,100,32,105,116,115,32,101,110,100]⟩] 340)).push (.cells #[.string ⟨#[97,32,112,97,114,116,32,105,115,32,110,111,116,32,97,115,32,105,116,115,32,107,105,110,100,32,97,115,107,115]⟩] 340)}
theorem Es{H:Type}{a:TypeId×Value->H}{P:Program}{w:Zh}{f:Nat->Bool}{n:String}{e:List String}{c:List (DataW H)}{l:List MemPlace}(h:DataW.TrodVars a P w f (n::e) c l):∃d b q,c=d::b/\DataW.TrodVars a P w f e b q:=by
 cases c with
 |nil=>exact h.elim
 |cons d b=>obtain⟨g,t,m,j,p,q,_,_,_,_,k,_⟩:=h;exact⟨d,b,q,rfl,k⟩
noncomputable def heldE {H:Type} (a:TypeId×Value->H) (os:Os) (i:Nat):DataW H:=.held (a (321,Yz ((World.holding prog os ⟨#[],#[],[]⟩).heap.size+i)))
end Go.Proofs.YtlhhpofjkgmbeaaGreatDoor
