import Derived.Test.YtcankpdbabaacaaGreatDoorX14
import Derived.Deep.DeepCutAuto
import Derived.LaidHandle
import Derived.Test.YtcankpdbabaacaaGreatDoorCards
import Derived.Test.YtcankpdbabaacaaGreatDoorTie
import Derived.OpenVars
import Derived.Deep.DeepHandedRow
set_option maxRecDepth 100000
set_option maxHeartbeats 16000000
namespace Go.Proofs.YtcankpdbabaacaaGreatDoor
open Go.ChangeShapes Go.WideShapes Go.ChangeAt Go.RowKit _root_.Go.Proofs.Tryz
variable{s rest:Zi}{a kind:Int}{n b:Nat}{w c W:Zh}{bad:Bool}
theorem Aao(s:Zi)(a b:Nat)(d:b<=s.size -1)(c:0<s.size):(s.extract 1 s.size).extract a b=s.extract (1+a) (1+b):=by rw[ByteArray.extract_extract];congr 1;omega
theorem ZC{k:Nat}(b:0<s.size)(d:0<=(k:Int) *a)(c:1<=a)(e:(k:Int) *a+a<=s.size -1):s.extract (1+(k:Int) *a).toNat (1+(k:Int) *a+a).toNat=JO s a k:=by unfold JO;rw[Aao s _ _ Yw b,show(1+(k:Int) *a).toNat=1+((k:Int) *a).toNat from by omega,show(1+(k:Int) *a+a).toNat=1+((k:Int) *a+a).toNat from by omega]
theorem ZD(b:0<s.size)(c:0<=(n:Int) *a):s.extract (1+(n:Int) *a).toNat s.size=DI s a n:=by unfold DI;rw[Aao s _ _ Yw b,show(1+(n:Int) *a).toNat=1+((n:Int) *a).toNat from by omega,show 1+(s.size -1)=s.size from by omega]
theorem Ui(s:Zi)(c:Int)(n:Nat)(w:Zh)(hs:s.size<=1048576)(N:1<=c)(h2:c<=8)(O:0<s.size)(M:s[0].toNat=n)(zC:(n:Int) *c<=s.size -1):
 Calls prog 136 #[.string s,Zg c] w fun e T=>
  (AO (DI s c n) (BG s c n) c=true->∃v,e=.returned (.tuple #[.agg #[.string (DI s c n),v],.bool true])/\T.ownsRow w.heap.size 9 1 v n ((BG s c n).map Value.string))/\
  (AO (DI s c n) (BG s c n) c=false->e=.returned (.tuple #[.agg #[Zd,Zc],.bool false]))/\Zz w T:=by
 obtain⟨i0,hi,Z,zA,zB⟩:=info_parts Dw;have zF:(0:Int)<s.size:=Yw
 have zH:((s.size:Int)==0)=false:=beq_eq_false_iff_ne.2 Yw;have hn:n<256:=by rw[<-M];exact s[0].toNat_lt
 have I:=Kk hn N h2;have Y:=Cg s[0];rw[M]at Y;go_enter func136,ntmps136;go_wp2;obtain⟨cn,u⟩:∃cn,cn=DI s c n:=⟨_,rfl⟩;rw[ZD O I.1,<-u];have z:=Yx u;clear u
 go_loopw [8] (fun i wr=>∃(k:Nat) (v:Value),k<=n/\i=Zg k/\wr.cell? (Ze (w.heap.size+1) 0)=some (.string cn)/\wr.cell? (Ze (w.heap.size+1) 1)=some v/\wr.frozen? ⟨w.heap.size+1,1,none⟩=false/\
  wr.ownsRow (w.heap.size+2) 9 1 v k ((BG s c k).map Value.string)/\Below (w.heap.size+1) (w.alloc (Obj.cells #[Value.string ⟨#[]⟩,Value.slice none 0 0] 64)) wr) (fun i _=>n -(intOf i).toNat)
 case atStart=>exact⟨0,Zc,Nat.zero_le _,rfl,by simp[go_sem],by simp[go_sem],by simp[go_sem],World.ownsRow_nil _ _ _ _,(Below.refl _ _).alloc Yv _⟩
 case round=>
  obtain⟨k,v,Q,rfl,t,A,L,o,d⟩:=hrel;have W:=d.size;simp at W;by_cases hlt:k<n
  .obtain⟨m1,m2,m3,m4⟩:=Uc N hlt;have zE:(k:Int)<n:=Yw
   have e1:=Ez ((k:Int) *c) Yw Yw;have e2:=Ez (1+(k:Int) *c) Yw Yw;have e3:=Ez (1+(k:Int) *c+c) Yw Yw;have b1:(0:Int)<=1+(k:Int) *c:=Yw
   have b2:1+(k:Int) *c<=1+(k:Int) *c+c:=Yw
   have b3:1+(k:Int) *c+c<=(s.size:Int):=Yw
   have G:=Yx (ZC O m1 N (by omega:(k:Int) *c+c<=s.size -1));have F:=Ud o (b:=w.heap.size+1) Yw;have r:=World.block_lt_of_cell? wr _ t;clear m3;go_wp2
   go_region_law (refine step_append_lies _ rfl (.tmp 45) (.tmp 58) 22 rfl (w.heap.size+2) 9 i0 Zd 1 16 underlying22 hi Z zA zB rfl Ys v k ((BG s c k).map Value.string) rfl (World.ownsRow.alloc o _) ⟨wr.heap.size,0,none⟩ 1 1 [.string (s.extract (1+(k:Int) *c).toNat (1+(k:Int) *c+c).toNat)] rfl rfl (cell_one_new wr (.string (s.extract (1+(k:Int) *c).toNat (1+(k:Int) *c+c).toNat)) 9) (by simp[Value.oneCell']) Ys Yq Yw Yu (wr.heap.size+1) Yv ?_;intro g cap w1 q f zI zG;have K:=Ik f t F;have U:=Ik f A F;have V:=(Kv (p:=⟨w.heap.size+1,1,none⟩) f Yu F).trans L)
   all_goals
    rw[G.o]at q;have R:=Nf r o d q f K U V;have E:=Yx R;clear R o d q f K t A L;go_wp2;refine⟨⟨_,_,_,_,_,_,_,_,_,_,_,_,_,_,_,_,_,_,_,_,_,_,_,⟨k+1,_,Yw,?_,E.o.1,E.o.2.1,E.o.2.2.1,E.o.2.2.2.1,E.o.2.2.2.2⟩,rfl⟩,?_⟩
    .go_num
    .simp[intOf];omega
  .obtain rfl:k=n:=Yw
   have r:=World.block_lt_of_cell? wr _ t;obtain⟨a,cap,S,H⟩:=Ea (ss:=BG s c k) (by rw[Cs];exact o);rw[Cs]at S;subst S;have B:(wr.cell? (Ze (w.heap.size) 0))=some Zd:=by rw[d.cell (p:=⟨w.heap.size,0,none⟩) Yv];simp
   have C:(wr.cell? (Ze (w.heap.size) 1))=some Zc:=by rw[d.cell (p:=⟨w.heap.size,1,none⟩) Yv];simp
   have x:wr.frozen? ⟨w.heap.size,0,none⟩=false:=by rw[d.frozen (p:=⟨w.heap.size,0,none⟩) Yv];simp
   have y:wr.frozen? ⟨w.heap.size,1,none⟩=false:=by rw[d.frozen (p:=⟨w.heap.size,1,none⟩) Yv];simp
   have X:cn.size<=maxLen:=by rw[z.o];simp[DI,maxLen];omega
   have m:=Dn cn a cap (BG s c k) c wr H (by rw[Cs];omega) X;rw[Cs]at m;have l:w.heap.size<wr.heap.size:=Yw
   go_wp2_with fail;refine m.mono ?_;rintro e w2 ⟨rfl,j⟩;have P:=(Zy).trans (d.mono Yw);have J:=P.trans (j.mono P.size);have D:=o.kept (row:=none) ⟨j.os,j.tape,j.output,j.size,fun k Q _=>j.block k Q⟩ (by cases a<;>simp[Value.ownBlock]);have t:=(j.cell (p:=⟨w.heap.size+1,0,none⟩) r).trans t;have A:=(j.cell (p:=⟨w.heap.size+1,1,none⟩) r).trans A
   have B:=(j.cell (p:=⟨w.heap.size,0,none⟩) l).trans B;have C:=(j.cell (p:=⟨w.heap.size,1,none⟩) l).trans C;have x:=(j.frozen (p:=⟨w.heap.size,0,none⟩) l).trans x;have y:=(j.frozen (p:=⟨w.heap.size,1,none⟩) l).trans y;cases hok:AO cn (BG s c k) c with
   |true=>
    clear m;go_wp2;refine bodyPost_ret (v:=.tuple #[.agg #[.string cn,.slice a k cap],.bool true]) (by simp[results,results136,go_sem,B,C]) rfl ⟨fun _=>⟨.slice a k cap,?_,?_⟩,fun h=> ?_,?_⟩
    .rw[z.o]
    .exact(ownsRow_setCell_below (ownsRow_setCell_below D Yv _) Yv _).mono Yw
    .rw[<-z.o,hok]at h;cases h
    .exact(J.setCell Yv _).setCell Yv _
   |false=>
    clear m;go_wp2;refine bodyPost_ret (v:=.tuple #[.agg #[Zd,Zc],.bool false]) (by simp[results,results136,go_sem,B,C]) rfl ⟨fun h=> ?_,fun _=>rfl,?_⟩
    .rw[<-z.o,hok]at h;cases h
    .exact(J.setCell Yv _).setCell Yv _
theorem Uj(s:Zi)(a:Int)(w:Zh)(h:¬(1<=a/\a<=8)):
 Calls prog 136 #[.string s,Zg a] w (Gh w):=by
 by_cases h1:1<=a
 .have b:decide (a<=8)=false:=Yu
  go_enter func136,ntmps136;go_wp2;exact bodyPost_ret (v:=.tuple #[.agg #[Zd,Zc],.bool false]) (by simp[results,results136,go_sem]) rfl ⟨rfl,Zy⟩
 .go_enter func136,ntmps136;go_wp2;exact bodyPost_ret (v:=.tuple #[.agg #[Zd,Zc],.bool false]) (by simp[results,results136,go_sem]) rfl ⟨rfl,Zy⟩
theorem Uk(s:Zi)(a:Int)(w:Zh)(d:1<=a)(e:a<=8)(c:s.size=0):
 Calls prog 136 #[.string s,Zg a] w (Gh w):=by
 have b:=beq_iff_eq.2 Yw;go_enter func136,ntmps136;go_wp2;exact bodyPost_ret (v:=.tuple #[.agg #[Zd,Zc],.bool false]) (by simp[results,results136,go_sem]) rfl ⟨rfl,Zy⟩
theorem Ul(s:Zi)(a:Int)(n:Nat)(w:Zh)(l:s.size<=1048576)(h:1<=a)(i:a<=8)(k:0<s.size)(b:s[0].toNat=n)(d:(s.size:Int) -1<(n:Int) *a):
 Calls prog 136 #[.string s,Zg a] w (Gh w):=by
 have e:(0:Int)<s.size:=Yw
 have f:((s.size:Int)==0)=false:=beq_eq_false_iff_ne.2 Yw;have j:n<256:=by rw[<-b];exact s[0].toNat_lt
 have g:=Kk j h i;have c:=Cg s[0];rw[b]at c;go_enter func136,ntmps136;go_wp2;exact bodyPost_ret (v:=.tuple #[.agg #[Zd,Zc],.bool false]) (by simp[results,results136,go_sem]) rfl ⟨rfl,Zy⟩
def Kw(s:Zi)(wd:Int)(n:Nat):Zi×Zl×Bool:=
 if (n:Int) *wd<=s.size -1/\AO (DI s wd n) (BG s wd n) wd=true then (DI s wd n,BG s wd n,true)else (⟨#[]⟩,[],false)
def rd(s:Zi)(wd:Int):Zi×Zl×Bool:=
 if 1<=wd/\wd<=8 then
  match s.data.toList.head? with
  |none=>(⟨#[]⟩,[],false)
  |some b=>Kw s wd b.toNat
 else (⟨#[]⟩,[],false)
def EG(s:Zi)(wd:Int)(w:Zh)(e:Ending)(w':Zh):Prop:=
 ∃v,e=.returned (.tuple #[.agg #[.string (rd s wd).1,v],.bool (rd s wd).2.2])/\w'.ownsRow w.heap.size 9 1 v (rd s wd).2.1.length ((rd s wd).2.1.map Value.string)/\Zz w w'
theorem Rc(a:0<s.size):s.data.toList.head?=some s[0]:=by rw[List.head?_eq_getElem?,Zv (by simpa using a)];rfl
theorem XC(s:Zi)(a:Int):(rd s a).2.1.length<=255:=by
 unfold rd;split
 .split
  .simp
  .rename_i b _
   unfold Kw;have:=b.toNat_lt;split
   .simp[Cs];omega
   .simp
 .simp
theorem EQ{b:Int}(h:rd s b=(⟨#[]⟩,[],false)):∀e a,Gh w e a->EG s b w e a:=by rintro e a ⟨rfl,c⟩;unfold EG;rw[h];exact⟨Zc,rfl,World.ownsRow_nil _ _ _ _,c⟩
theorem Um(j:rd s a=Kw s a n)(c:(n:Int) *a<=s.size -1):∀e b,
 ((AO (DI s a n) (BG s a n) a=true->∃v,e=.returned (.tuple #[.agg #[.string (DI s a n),v],.bool true])/\b.ownsRow w.heap.size 9 1 v n ((BG s a n).map Value.string))/\
   (AO (DI s a n) (BG s a n) a=false->e=.returned (.tuple #[.agg #[Zd,Zc],.bool false]))/\Zz w b)->EG s a w e b:=by
 rintro e b ⟨f,g,d⟩;unfold EG;rw[j];unfold Kw;cases hok:AO (DI s a n) (BG s a n) a with
 |true=>rw[if_pos ⟨c,rfl⟩];obtain⟨v,h,i⟩:=f hok;exact⟨v,h,by simpa [Cs]using i,d⟩
 |false=>rw[if_neg Yv];exact⟨Zc,g hok,World.ownsRow_nil _ _ _ _,d⟩
theorem Un(s:Zi)(a:Int)(w:Zh)(c:s.size<=1048576):Calls prog 210 #[.string s,Zg a] w (EG s a w):=by
 by_cases hw:1<=a/\a<=8
 .by_cases h0:0<s.size
  .have b:rd s a=Kw s a s[0].toNat:=by unfold rd;rw[if_pos hw,Rc h0]
   by_cases hfit:(s[0].toNat:Int) *a<=s.size -1
   .exact(Ue s a _ w c hw.1 hw.2 h0 rfl hfit).mono (Um b hfit)
   .exact(Uh s a _ w c hw.1 hw.2 h0 rfl Yw).mono (EQ (by rw[b];unfold Kw;rw[if_neg (fun h=>hfit h.1)]))
  .refine(Ug s a w hw.1 hw.2 Yw).mono (EQ ?_);have d:s.data.toList=[]:=List.eq_nil_of_length_eq_zero (by have e:s.data.toList.length=s.size:=Array.length_toList;omega);unfold rd;rw[if_pos hw,d];rfl
 .exact(Uf s a w hw).mono (EQ (by unfold rd;rw[if_neg hw]))
theorem Uo(s:Zi)(a:Int)(w:Zh)(c:s.size<=1048576):Calls prog 136 #[.string s,Zg a] w (EG s a w):=by
 by_cases hw:1<=a/\a<=8
 .by_cases h0:0<s.size
  .have b:rd s a=Kw s a s[0].toNat:=by unfold rd;rw[if_pos hw,Rc h0]
   by_cases hfit:(s[0].toNat:Int) *a<=s.size -1
   .exact(Ui s a _ w c hw.1 hw.2 h0 rfl hfit).mono (Um b hfit)
   .exact(Ul s a _ w c hw.1 hw.2 h0 rfl Yw).mono (EQ (by rw[b];unfold Kw;rw[if_neg (fun h=>hfit h.1)]))
  .refine(Uk s a w hw.1 hw.2 Yw).mono (EQ ?_);have d:s.data.toList=[]:=List.eq_nil_of_length_eq_zero (by have e:s.data.toList.length=s.size:=Array.length_toList;omega);unfold rd;rw[if_pos hw,d];rfl
 .exact(Uj s a w hw).mono (EQ (by unfold rd;rw[if_neg hw]))
def Jb:Zk->Value
 |none=> .nilIface
 |some q=> .iface 204 (.pointer (some q))
structure Rd (w:Zh) (b:Nat) (rest:Zi) (kind:Int) (er:Zk):Prop where
 x0:w.cell? (Ze b 0)=some (.string rest)
 x1:w.cell? (Ze b 1)=some (Zg kind)
 x2:w.cell? (Ze b 2)=some (Jb er)
 f0:w.frozen? ⟨b,0,none⟩=false
 f1:w.frozen? ⟨b,1,none⟩=false
 f2:w.frozen? ⟨b,2,none⟩=false
def Eb(w:Zh)(b:Nat)(rest:Zi)(kind:Int)(bad:Bool):Prop:=∃er:Zk,er.isSome=bad/\Rd w b rest kind er
theorem Rd.lt{a:Zk}(h:Rd w b rest kind a):b<w.heap.size:=World.block_lt_of_cell? w _ h.x0
theorem Rd.below{e:Zh}{d:Zk}(h:Rd w b rest kind d)(a:Zz w e):Rd e b rest kind d:=by have c:=h.lt;exact⟨(a.cell (p:=⟨b,0,none⟩) c).trans h.x0,(a.cell (p:=⟨b,1,none⟩) c).trans h.x1,(a.cell (p:=⟨b,2,none⟩) c).trans h.x2,(a.frozen (p:=⟨b,0,none⟩) c).trans h.f0,(a.frozen (p:=⟨b,1,none⟩) c).trans h.f1,(a.frozen (p:=⟨b,2,none⟩) c).trans h.f2⟩
theorem Eb.below{a:Zh}(h:Eb w b rest kind bad)(f:Zz w a):Eb a b rest kind bad:=by obtain⟨c,d,e⟩:=h;exact⟨c,d,e.below f⟩
theorem Gi(b:Nat)(rest:Zi)(kind:Int)(d:Bool)(f:TypeId)(g:Value)(w:Zh)(h:Eb w b rest kind d):
 Calls prog 172 #[Yz b,.iface f g] w fun e c=>e=.returned (.tuple #[])/\Eb c b rest kind true/\w.grownBy c (some b):=by
 obtain⟨i,rfl,h⟩:=h;have p:=h.lt;obtain⟨m,n,a,j,k,l⟩:=h;cases i with
 |none=>
  simp only[Jb]at a;go_enter func172,ntmps172;go_wp2
  go_end0
  refine⟨rfl,⟨some ⟨w.heap.size,0,none⟩,rfl,?_⟩,?_⟩
  .have o:b≠w.heap.size:=Yw
   constructor<;>simp[Jb,go_sem, *]
  .exact(Az _ _ _ _).trans (World.grownBy_alloc _ _ _)
 |some q=>
  simp only[Jb]at a;go_enter func172,ntmps172;go_wp2
  go_end0
  exact⟨rfl,⟨some q,rfl,⟨m,n,a,j,k,l⟩⟩,World.grownBy.refl _ _⟩
def Bi(rest:Zi)(bad:Bool)(n:Int):Zi×Zi×Bool:=
 if bad=true then (⟨#[]⟩,rest,true)else if (rest.size:Int)<n then (⟨#[]⟩,rest,true)else (rest.extract 0 n.toNat,rest.extract n.toNat rest.size,false)
theorem Jc(b:Nat)(rest:Zi)(kind:Int)(a:Bool)(n:Int)(d:TypeId)(f:Value)(w:Zh)(h:Eb w b rest kind a)(s:a=false->0<=n)(x:w.cell? (Ze 6 0)=some (.iface d f)):
 Calls prog 175 #[Yz b,Zg n] w fun e g=>e=.returned (.string (Bi rest a n).1)/\Eb g b (Bi rest a n).2.1 kind (Bi rest a n).2.2/\w.grownBy g (some b):=by
 have p:=h;obtain⟨j,rfl,h⟩:=h;have y:=h.lt;obtain⟨t,u,c,k,l,m⟩:=h;cases j with
 |none=>
  simp only[Jb]at c;have v:=s rfl;by_cases hf:(rest.size:Int)<n
  .rw[show Bi rest (none:Zk).isSome n=(⟨#[]⟩,rest,true) by simp[Bi,hf]];have i:decide ((rest.size:Int)<n)=true:=by simpa using hf
   go_enter func175,ntmps175;go_wp2_with fail;refine(Gi b rest kind false d f w p).mono ?_;rintro e z ⟨rfl,r,o⟩;go_wp2;go_ret;exact⟨rfl,r,o⟩
  .rw[show Bi rest (none:Zk).isSome n=(rest.extract 0 n.toNat,rest.extract n.toNat rest.size,false) by simp[Bi,hf]];have i:decide ((rest.size:Int)<n)=false:=by simpa using hf
   go_enter func175,ntmps175;go_wp2;go_ret;refine⟨rfl,⟨none,rfl,?_⟩,Az _ _ _ _⟩;constructor<;>simp[Jb,go_sem, *]
 |some q=>rw[show Bi rest (some q:Zk).isSome n=(⟨#[]⟩,rest,true) by simp[Bi]];simp only[Jb]at c;go_enter func175,ntmps175;go_wp2;go_ret;exact⟨rfl,⟨some q,rfl,⟨t,u,c,k,l,m⟩⟩,World.grownBy.refl _ _⟩
def CK(l:List UInt8):Int:=l.foldl (fun a b=>a *256+(b.toNat:Int)) 0
theorem Up(l:List UInt8)(b:UInt8):CK (l++[b])=CK l *256+(b.toNat:Int):=by simp[CK]
theorem ZE(l:List UInt8):∀a:Int,0<=a->0<=l.foldl (fun a b=>a *256+(b.toNat:Int)) a/\l.foldl (fun a b=>a *256+(b.toNat:Int)) a<(a+1) *256^l.length:=by
 induction l with
 |nil=>intro a e;simp;omega
 |cons b l ih=>intro a e;have f:=b.toNat_lt;obtain⟨c,d⟩:=ih (a *256+(b.toNat:Int)) Yw;refine⟨c,Int.lt_of_lt_of_le d ?_⟩;rw[List.length_cons,Int.pow_succ,<-Int.mul_assoc,Int.mul_right_comm];exact Int.mul_le_mul_of_nonneg_right Yw (Int.pow_nonneg Yw)
theorem LS(l:List UInt8):0<=CK l/\CK l<256^l.length:=by have:=ZE l 0 (Int.le_refl _);simpa [CK]using this
theorem Wa(a b:Nat)(f:a<2^30)(g:b<256):bits .or .i64 ((a:Int) *256) (b:Int)=(a:Int) *256+b:=by
 have c:((a:Int) *256)=((a *256:Nat):Int):=Yw
 have e:a *256|||b=a *256+b:=by have:=Nat.shiftLeft_add_eq_or_of_lt (i:=8) (b:=b) Yw a;rw[Nat.shiftLeft_eq,show(2:Nat)^8=256 from rfl]at this;omega
 have d:(BitVec.ofInt 64 ((a:Int) *256)|||BitVec.ofInt 64 (b:Int)).toNat=a *256+b:=by rw[c,BitVec.toNat_or,BitVec.ofInt_natCast,BitVec.ofInt_natCast,BitVec.toNat_ofNat,BitVec.toNat_ofNat,Nat.mod_eq_of_lt Yw,Nat.mod_eq_of_lt Yw,e]
 show IntKind.i64.wrap ((BitVec.ofInt 64 ((a:Int) *256)|||BitVec.ofInt 64 (b:Int)).toNat:Int)=_;rw[d,Ez _ Yw Yw];omega
theorem GU(b:Nat)(rest:Zi)(kind:Int)(c:Bool)(n:Nat)(o:TypeId)(p:Value)(w:Zh)(h:Eb w b rest kind c)(F:n<=4)(s:w.cell? (Ze 6 0)=some (.iface o p)):
 Calls prog 173 #[Yz b,Zg (n:Int)] w fun e t=>e=.returned (Zg (CK (Bi rest c n).1.data.toList))/\Eb t b (Bi rest c n).2.1 kind (Bi rest c n).2.2/\w.grownBy t (some b):=by
 have y:(Bi rest c n).1.size<=4:=by
  unfold Bi;split
  .exact Nat.zero_le _
  .split
   .exact Nat.zero_le _
   .simp;omega
 go_enter func173,ntmps173;go_wp2_with fail;refine(Jc b rest kind c n o p w h (fun _=>by omega) s).mono ?_;rintro e G ⟨rfl,q,m⟩;have z:=Yx (Zn q m);clear q m h s;obtain⟨a,f⟩:∃a,a=(Bi rest c n).1:=⟨_,rfl⟩;rw[<-f]at y |-;have A:=Yx f;clear f;go_wp2
 go_loop [6,13] (fun x i=>∃k:Nat,k<=a.size/\i=Zg k/\x=Zg (CK (a.data.toList.take k))) (fun _ i=>a.size -(intOf i).toNat)
 case atStart=>exact⟨0,Nat.zero_le _,rfl,rfl⟩
 case round=>
  obtain⟨k,E,rfl,rfl⟩:=hrel;by_cases hlt:k<a.size
  .have l:=LS (a.data.toList.take k);have d:CK (a.data.toList.take (k+1))=CK (a.data.toList.take k) *256+(a[k].toNat:Int):=by rw[<-Up,Zu (by simpa using hlt)];rfl
   have C:CK (a.data.toList.take k)<16777216:=by
    have r:=l.2;have u:(a.data.toList.take k).length=0\/(a.data.toList.take k).length=1\/(a.data.toList.take k).length=2\/(a.data.toList.take k).length=3:=Yu
    rcases u with g|g|g|g<;>rw[g]at r<;>simp at r<;>omega
   obtain⟨X,B⟩:∃X:Nat,CK (a.data.toList.take k)=(X:Int):=⟨_,(Int.toNat_of_nonneg l.1).symm⟩;have v:=Wa X a[k].toNat Yw a[k].toNat_lt;rw[B]at d |-;have D:IntKind.i64.wrap ((X:Int) *256)=(X:Int) *256:=Ez _ Yw Yw;clear l;go_wp2;exact⟨⟨k+1,Yw,Yp,by rw[d,Cg,v]⟩,by simp[intOf];omega⟩
  .obtain rfl:k=a.size:=Yw
   have j:a.data.toList.take a.size=a.data.toList:=Zt Yv;rw[j];go_wp2;go_ret;exact⟨by rw[<-A.o];rfl,z.o⟩
structure Env (w:Zh):Prop where
 ix:Jr w
 ja:Ij w
 er:∀g∈[0,1,2,3,6,7],∃t v,w.cell? (Ze g 0)=some (.iface t v)
theorem Env.lt(h:Env w):∀g∈[0,1,2,3,6,7,5,4],g<w.heap.size:=by
 intro g b;have d:=h.er;obtain⟨c,_⟩:=h.ix 1 Yw Yw;have e:=World.block_lt_of_cell? w _ c;have f:=World.block_lt_of_cell? w _ h.ja;have a:∀g∈[0,1,2,3,6,7],g<w.heap.size:=fun g b=>by obtain⟨t,v,i⟩:=d g b;exact World.block_lt_of_cell? w _ i
 simp only[List.mem_cons,List.not_mem_nil,or_false]at b a;rcases b with rfl|rfl|rfl|rfl|rfl|rfl|rfl|rfl
 .exact a _ Yv
 .exact a _ Yv
 .exact a _ Yv
 .exact a _ Yv
 .exact a _ Yv
 .exact a _ Yv
 .exact e
 .exact f
theorem Env.of(h:Env w)(a:∀p:Addr,p.block∈[0,1,2,3,6,7,5,4]->c.cell? p=w.cell? p):Env c:=by
 refine⟨fun k f i=> ?_,?_,fun g b=> ?_⟩
 .obtain⟨d,e,c2,c3⟩:=h.ix k f i;exact⟨(a ⟨_,_,none⟩ Yv).trans d,(a ⟨_,_,none⟩ Yv).trans e,(a ⟨_,_,none⟩ Yv).trans c2,(a ⟨_,_,none⟩ Yv).trans c3⟩
 .exact(a ⟨_,_,none⟩ Yv).trans h.ja
 .obtain⟨t,v,j⟩:=h.er g b;refine⟨t,v,(a ⟨g,0,none⟩ ?_).trans j⟩;simp only[List.mem_cons,List.not_mem_nil,or_false]at b |-;omega
theorem Env.below{a:Zh}(h:Env w)(b:Zz w a):Env a:=
 h.of fun _ c=>b.cell (h.lt _ c)
theorem Env.iy(h:Env w)(f:w.grownBy c (some b))(d:∀g∈[0,1,2,3,6,7,5,4],g<b):Env c:=
 h.of fun p a=>f.cell_far p (h.lt _ a) (fun e=>by have:=d _ a;injection e;omega)
theorem Eb.lt(h:Eb w b rest kind bad):b<w.heap.size:=by obtain⟨a,_,h⟩:=h;exact h.lt
theorem Eb.setKind{a:Bool}(h:Eb w b rest kind a)(k:Int):Eb (w.setCell (Ze b 1) (Zg k)) b rest k a:=by obtain⟨c,d,i,j,l,e,f,g⟩:=h;refine⟨c,d,?_⟩;constructor<;>simp[go_sem, *]
theorem Eb.co{i:Zh}{c:Nat}{g:Bool}(h:Eb w b rest kind g)(a:w.grownBy i (some c))(j:b≠c):Eb i b rest kind g:=by obtain⟨k,l,h⟩:=h;have d:=h.lt;have f:some b≠some c:=fun e=>j (by injection e);exact⟨k,l,(a.cell_far ⟨b,0,none⟩ d f).trans h.x0,(a.cell_far ⟨b,1,none⟩ d f).trans h.x1,(a.cell_far ⟨b,2,none⟩ d f).trans h.x2,(a.frozen_far ⟨b,0,none⟩ d f).trans h.f0,(a.frozen_far ⟨b,1,none⟩ d f).trans h.f1,(a.frozen_far ⟨b,2,none⟩ d f).trans h.f2⟩
def Fa(rest:Zi)(bad:Bool):Zi:=(Bi rest bad rest.size).1
def JP(rest:Zi)(bad:Bool):Zi:=(Bi rest bad rest.size).2.1
def Gq(rest:Zi)(bad:Bool)(wd:Int):Bool:=(Bi rest bad rest.size).2.2|| !(rd (Fa rest bad) wd).2.2
theorem Re(h:rest.size<=1048576):(Fa rest bad).size<=1048576:=by
 unfold Fa Bi;split
 .exact Nat.zero_le _
 .split
  .exact Nat.zero_le _
  .simp;omega
theorem Uq(b:Nat)(rest:Zi)(kind:Int)(bad:Bool)(a:Int)(w:Zh)(h:Eb w b rest kind bad)(he:Env w)(hb:∀g∈[0,1,2,3,6,7,5,4],g<b)(hs:rest.size<=1048576):
 Calls prog 176 #[Yz b,Zg a] w fun e V=>∃v,e=.returned (.agg #[.string (rd (Fa rest bad) a).1,v])/\
  V.ownsRow w.heap.size 9 1 v (rd (Fa rest bad) a).2.1.length ((rd (Fa rest bad) a).2.1.map Value.string)/\Eb V b (JP rest bad) kind (Gq rest bad a)/\w.grownBy V (some b):=by
 obtain⟨W,o⟩:∃W,W=w.alloc (.cells #[Zd,Zc] 64):=⟨_,rfl⟩;have B:=(AA o).1;have r0:W.cell? (Ze (w.heap.size) 0)=some Zd:=by rw[o];simp
 have r1:W.cell? (Ze (w.heap.size) 1)=some Zc:=by rw[o];simp
 have Q:W.frozen? ⟨w.heap.size,0,none⟩=false:=by rw[o];simp
 have R:W.frozen? ⟨w.heap.size,1,none⟩=false:=by rw[o];simp
 have D:w.heap.size<W.heap.size:=by rw[o];simp
 have f:=h.lt;have zA:=h.below B;have U:=he.below B;obtain⟨gt,gv,H⟩:=U.er 6 Yv;have Y:=Yx o;have M:=Re (bad:=bad) hs;obtain⟨er,G,x0,x1,x2,f0,f1,f2⟩:=zA;have HS:Hid (Eb W b rest kind bad):=⟨er,G,x0,x1,x2,f0,f1,f2⟩;clear o h;go_enter func176,ntmps176;go_upto_region 1 with fail;rw[<-Y.o];go_wp2_with fail;refine(Jc b rest kind bad rest.size gt gv W HS.o (fun _=>by omega) H).mono ?_
 rintro e u ⟨rfl,h1,n⟩;rw[show(Bi rest bad rest.size).1=Fa rest bad from rfl];obtain⟨c,z⟩:∃c,c=Fa rest bad:=⟨_,rfl⟩;rw[<-z]at M |-;have s:=Yx z;have T:=fun W'=>Un c a W' M;unfold EG at T;have X:=Yx T;clear T x0 x1 x2 f0 f1 f2 G H z;go_wp2_with fail;refine(X.o u).mono ?_;rintro e q ⟨v,rfl,C,A⟩;obtain⟨x,c2,hv,_⟩:=Ea C;subst hv;have zE:=n.size;have E:=A.size
 obtain⟨i,m⟩:∃i,i=q.alloc (.cells #[.string (rd c a).1,.slice x (rd c a).2.1.length c2] 64):=⟨_,rfl⟩;have t:=(AA m).1;have t0:i.cell? (Ze (q.heap.size) 0)=some (.string (rd c a).1):=by rw[m];simp
 have t1:i.cell? (Ze (q.heap.size) 1)=some (.slice x (rd c a).2.1.length c2):=by rw[m];simp
 have N:q.heap.size<i.heap.size:=by rw[m];simp
 have zC:=t.size;have d:=A.trans (t.mono E);have q0:=(d.cell (p:=⟨w.heap.size,0,none⟩) Yu).trans ((n.cell_far ⟨w.heap.size,0,none⟩ D (Jm f)).trans r0);have q1:=(d.cell (p:=⟨w.heap.size,1,none⟩) Yu).trans ((n.cell_far ⟨w.heap.size,1,none⟩ D (Jm f)).trans r1)
 have O:=(d.frozen (p:=⟨w.heap.size,0,none⟩) Yu).trans ((n.frozen_far ⟨w.heap.size,0,none⟩ D (Jm f)).trans Q);have P:=(d.frozen (p:=⟨w.heap.size,1,none⟩) Yu).trans ((n.frozen_far ⟨w.heap.size,1,none⟩ D (Jm f)).trans R);have L:=h1.below d;have Z:=(U.iy n hb).below d;have y:=((Aq (some b) B).trans n).trans (Aq (some b) d);have J:=C.kept (Aq none t) (Classical.em _)
 have I:∀k,(Value.slice x (rd c a).2.1.length c2).ownBlock=some k->u.heap.size<=k:=fun k hk=>(C.lt k hk).1;obtain⟨kt,kv,zB⟩:=Z.er 7 Yv;have r:=Yx (Zn L (Zn y (Zn J I)));have F:=Yx m;clear L y J Z h1 n A C r0 r1 Q R U HS X I Y d t m;go_upto_region 2 with fail;rw[<-F.o];clear F;cases hok:(rd c a).2.2 with
 |true=>
  go_wp2;refine bodyPost_ret (v:=.agg #[.string (rd c a).1,.slice x (rd c a).2.1.length c2]) (by simp[results,results176,go_sem, *]) rfl ?_;refine⟨_,by rw[<-s.o],?_,?_,?_⟩
  .rw[<-s.o];exact(ownsRow_setCell_below (ownsRow_setCell_below r.o.2.2.1 (show w.heap.size<u.heap.size by omega) _) (show w.heap.size<u.heap.size by omega) _).mono Yw
  .have:Gq rest bad a=(Bi rest bad rest.size).2.2:=by unfold Gq;rw[<-s.o,hok];simp
   rw[this];exact(r.o.1.co (Az _ w.heap.size 0 _) Yw).co (Az _ w.heap.size 1 _) Yw
  .exact(r.o.2.1.andThen (Az _ w.heap.size 0 _) (fun j e=>by cases e;exact .inl (Zx))).andThen (Az _ w.heap.size 1 _) (fun j e=>by cases e;exact .inl (Zx))
 |false=>
  go_wp2_with fail;refine(Gi b _ kind _ kt kv i r.o.1).mono ?_;rintro e w4 ⟨rfl,h4,l⟩;have zF:=l.size;have t0:=(l.cell_far ⟨q.heap.size,0,none⟩ N (Jm (show b<q.heap.size by omega))).trans t0;have t1:=(l.cell_far ⟨q.heap.size,1,none⟩ N (Jm (show b<q.heap.size by omega))).trans t1;have q0:=(l.cell_far ⟨w.heap.size,0,none⟩ (show w.heap.size<i.heap.size by omega) (Jm f)).trans q0
  have q1:=(l.cell_far ⟨w.heap.size,1,none⟩ (show w.heap.size<i.heap.size by omega) (Jm f)).trans q1;have O:=(l.frozen_far ⟨w.heap.size,0,none⟩ (show w.heap.size<i.heap.size by omega) (Jm f)).trans O;have P:=(l.frozen_far ⟨w.heap.size,1,none⟩ (show w.heap.size<i.heap.size by omega) (Jm f)).trans P;have K:=r.o.2.2.1.kept l (.inr (fun e=>by have:=r.o.2.2.2 b e;omega));have y:=r.o.2.1.trans l
  have S:=Yx (Zn h4 (Zn y K));clear h4 y K l zB;go_wp2;refine bodyPost_ret (v:=.agg #[.string (rd c a).1,.slice x (rd c a).2.1.length c2]) (by simp[results,results176,go_sem, *]) rfl ?_;refine⟨_,by rw[<-s.o],?_,?_,?_⟩
  .rw[<-s.o];exact(ownsRow_setCell_below (ownsRow_setCell_below S.o.2.2 (show w.heap.size<u.heap.size by omega) _) (show w.heap.size<u.heap.size by omega) _).mono Yw
  .have:Gq rest bad a=true:=by unfold Gq;rw[<-s.o,hok];simp
   rw[this];exact(S.o.1.co (Az _ w.heap.size 0 _) Yw).co (Az _ w.heap.size 1 _) Yw
  .exact(S.o.2.1.andThen (Az _ w.heap.size 0 _) (fun j e=>by cases e;exact .inl (Zx))).andThen (Az _ w.heap.size 1 _) (fun j e=>by cases e;exact .inl (Zx))
theorem Aap:prog.globalNamed "errors.errorType" =some 4:=Yt
theorem Acg:(prog.cutTypes.find? (·.1== "internal/reflectlite.rtype")).map (·.2)=some 274:=Yt
theorem Ur:prog.types.size+100=448:=Yt
theorem Aaq:((List.range (448 -100)).filter fun t=>prog.rowNamed t [101,114,114,111,114])=[200]:=Yt
theorem Aar(h:handlesMet prog [("errors.errorType",Rows.laid_errors_errorType)] W):Ij W:=by
 obtain⟨c,u,j,d,e,k,f,a⟩:=h _ (List.mem_singleton.2 rfl);have g:=(Option.some.inj d).symm;subst g;obtain rfl:=Option.some.inj (Acg.symm.trans e);have b:j∈(List.range (448 -100)).filter fun t=>prog.rowNamed t [101,114,114,111,114]:=List.mem_filter.2 ⟨List.mem_range.2 (by have:=Ur;omega),f⟩;rw[Aaq]at b;obtain rfl:=List.mem_singleton.1 b;have i:typeHandle prog 200=Yy 9 200:=Yt
 rw[i]at a;unfold Ij;simpa using World.var?_cell Aap a 0
theorem IL{e:String}{g:Nat}{a:Array Value}{j:String}{d:DataW Unit}{p:List MemPlace}(i:prog.globalNamed e=some g)(c:W.var? prog e=some a)(h:DataW.trod (fun _=>()) prog W 0 (fun _=>true) false b 200 a.toList=some (.iface j d,p)):∃t v,W.cell? (Ze g 0)=some (.iface t v):=by
 obtain⟨_,u,v,f,_,_⟩:=iface_of_trod underlying200 h;refine⟨u,v,?_⟩;rw[World.var?_cell i c];have:a[0]?=a.toList[0]?:=Yv
 rw[this,f];rfl
theorem Pb:prog.globalNamed "loop.example/kilnvault/impl.errWidth" =some 0/\(prog.globals[0]?).map (·.type)=some 200:=⟨Yt,Yt⟩
theorem Pc:prog.globalNamed "loop.example/kilnvault/impl.errKind" =some 1/\(prog.globals[1]?).map (·.type)=some 200:=⟨Yt,Yt⟩
theorem Pe:prog.globalNamed "loop.example/kilnvault/impl.errShort" =some 6/\(prog.globals[6]?).map (·.type)=some 200:=⟨Yt,Yt⟩
theorem Pf:prog.globalNamed "loop.example/kilnvault/impl.errThing" =some 7/\(prog.globals[7]?).map (·.type)=some 200:=⟨Yt,Yt⟩
theorem Sh:prog.globalNamed "loop.example/kilnvault/impl.errLong" =some 2/\(prog.globals[2]?).map (·.type)=some 200:=⟨Yt,Yt⟩
theorem Pg:prog.globalNamed "loop.example/kilnvault/impl.errParts" =some 3/\(prog.globals[3]?).map (·.type)=some 200:=⟨Yt,Yt⟩
def XD:List (String×DataW Unit):=
 [("loop.example/kilnvault/impl.kindParts",Rows.laid_loop_example_kilnvault_impl_kindParts),("loop.example/kilnvault/impl.errWidth",Rows.laid_loop_example_kilnvault_impl_errWidth),("loop.example/kilnvault/impl.errKind",Rows.laid_loop_example_kilnvault_impl_errKind),("loop.example/kilnvault/impl.errShort",Rows.laid_loop_example_kilnvault_impl_errShort),
   ("loop.example/kilnvault/impl.errThing",Rows.laid_loop_example_kilnvault_impl_errThing),("loop.example/kilnvault/impl.errLong",Rows.laid_loop_example_kilnvault_impl_errLong),("loop.example/kilnvault/impl.errParts",Rows.laid_loop_example_kilnvault_impl_errParts)]
theorem Aas(h:laidMet prog XD W)(G:handlesMet prog [("errors.errorType",Rows.laid_errors_errorType)] W):Env W:=by
 obtain⟨ps,H,_⟩:=h;obtain⟨X,t1,N,P,p1,q1,k,r,z,b,I,_⟩:=H;obtain⟨Y,t2,c2,Q,p2,q2,l,s,A,c,J,_⟩:=I;obtain⟨Z,t3,c3,R,p3,q3,m,t,B,d,K,_⟩:=J;obtain⟨g4,t4,c4,S,p4,q4,n,u,C,e,L,_⟩:=K;obtain⟨g5,t5,O,T,p5,q5,o,v,D,f,M,_⟩:=L;obtain⟨g6,t6,c6,U,p6,q6,p,x,E,i,r6,_⟩:=M;obtain⟨g7,t7,c7,V,p7,q7,q,y,F,j,r7,_⟩:=r6;obtain rfl:=Option.some.inj (XA.symm.trans k);obtain rfl:=Option.some.inj (TZ.symm.trans r)
 obtain rfl:=Option.some.inj (Pb.1.symm.trans l);obtain rfl:=Option.some.inj (Pb.2.symm.trans s);obtain rfl:=Option.some.inj (Pc.1.symm.trans m);obtain rfl:=Option.some.inj (Pc.2.symm.trans t);obtain rfl:=Option.some.inj (Pe.1.symm.trans n);obtain rfl:=Option.some.inj (Pe.2.symm.trans u);obtain rfl:=Option.some.inj (Pf.1.symm.trans o);obtain rfl:=Option.some.inj (Pf.2.symm.trans v)
 obtain rfl:=Option.some.inj (Sh.1.symm.trans p);obtain rfl:=Option.some.inj (Sh.2.symm.trans x);obtain rfl:=Option.some.inj (Pg.1.symm.trans q);obtain rfl:=Option.some.inj (Pg.2.symm.trans y);refine⟨OY z b,Aar G,?_⟩;intro g a;simp only[List.mem_cons,List.not_mem_nil,or_false]at a;rcases a with rfl|rfl|rfl|rfl|rfl|rfl
 .exact IL Pb.1 A c
 .exact IL Pc.1 B d
 .exact IL Sh.1 E i
 .exact IL Pg.1 F j
 .exact IL Pe.1 C e
 .exact IL Pf.1 D f
def putCells(cs:Array Value):Obj->Obj
 |.cells _ t frozen=> .cells cs t frozen
 |o=>o
def Kl(n:Nat):Value:=.iface 318 (.pointer (some ⟨n,0,none⟩))
noncomputable def envWorld (os:Os):Zh:=
 let w0:=World.holding prog os ⟨#[],#[],[]⟩
 {w0 with heap:=(((((((((((((w0.heap.modify 5 (putCells #[.bool false,.bool false,.bool false,Zf,.bool false,.bool false,.bool true,Zg 100000,.bool true,.bool true,.bool false,Zf,.bool true,.bool false,.bool false,Zf,.bool false,.bool true,.bool false,Zg 100000,.bool false,.bool false,.bool false,Zg 1000000000,.bool false,.bool false,.bool false,Zg 100000,.bool false,.bool true,.bool false,Zf])).modify 4 (putCells #[.iface 274 (.agg #[.pointer (some ⟨9,200,none⟩)])])).modify 0 (putCells #[Kl w0.heap.size])).modify 1 (putCells #[Kl (w0.heap.size+1)])).modify 6 (putCells #[Kl (w0.heap.size+2)])).modify 7 (putCells #[Kl (w0.heap.size+3)])).modify 2 (putCells #[Kl (w0.heap.size+4)])).modify 3 (putCells #[Kl (w0.heap.size+5)])).push (.cells #[.string ⟨#[110,111,32,119,105,100,116,104]⟩] 336)).push (.cells #[.string ⟨#[110,111,32,107,105,110,100,32,111,102,32,101,110,116,114,121]⟩] 336)).push (.cells #[.string ⟨#[105,116,32,101,110,100,115,32,116,111,111,32,101,97,114,108,121]⟩] 336)).push (.cells #[.string ⟨#[105,116,115,32,116,104,105,110,103,32,105,115,32,110,111,110,101]⟩] 336)).push (.cells #[.string ⟨#[105,116,32,103,111,101,115,32,111,110,32,98,101,104,105,110,100,32,105,116,115,32,101,110,100]⟩] 336)).push (.cells #[.string ⟨#[97,32,112,97,114,116,32,105,115,32,110,111,116,32,97,115,32,105,116,115,32,107,105,110,100,32,97,115,107,115]⟩] 336)}
theorem EH{H:Type}{a:TypeId×Value->H}{P:Program}{f:Nat->Bool}{n:String}{e:List String}{c:List (DataW H)}{l:List MemPlace}(h:DataW.TrodVars a P w f (n::e) c l):∃d b q,c=d::b/\DataW.TrodVars a P w f e b q:=by
 cases c with
 |nil=>exact h.elim
 |cons d b=>obtain⟨g,t,m,j,p,q,_,_,_,_,k,_⟩:=h;exact⟨d,b,q,rfl,k⟩
noncomputable def heldE {H:Type} (a:TypeId×Value->H) (os:Os) (i:Nat):DataW H:=.held (a (318,Yz ((World.holding prog os ⟨#[],#[],[]⟩).heap.size+i)))
end Go.Proofs.YtcankpdbabaacaaGreatDoor
