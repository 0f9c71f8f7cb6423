import Derived.Test.YtdgblkklkaklhaaGreatDoorX20
set_option maxRecDepth 100000
set_option maxHeartbeats 16000000
namespace Go.Proofs.YtdgblkklkaklhaaGreatDoor
open Go.ChangeShapes Go.WideShapes Go.ChangeAt Go.RowKit _root_.Go.Proofs.Tryz
def Eu(k:Int):Bool:=decide (1<=k/\k<=7)
def EI(k:Int):Bool:=Eu k&&Db k.toNat
def DB(k:Int):Bool:=Eu k&&DA k.toNat
def Cw(k:Int):Bool:=Eu k&&CC k.toNat
def EJ(k:Int):Int:=if Eu k=true then Cu k.toNat else 0
theorem Pp(k:Int)(w:Zh)(b:Jk w):
 Calls prog 139 #[Zg k] w fun e c=>e=.returned (.tuple #[.agg #[.bool (EI k),.bool (DB k),.bool (Cw k),Zg (EJ k)],.bool (Eu k)])/\Zz w c:=by
 by_cases hk:1<=k/\k<=7
 ·obtain⟨m,rfl⟩:∃m:Nat,k=m:=⟨k.toNat,by omega⟩;have a:Eu (m:Int)=true:=decide_eq_true hk;rw[show EI (m:Int)=Db m by simp[EI,a],show DB (m:Int)=DA m by simp[DB,a],show Cw (m:Int)=CC m by simp[Cw,a],show EJ (m:Int)=Cu m by simp[EJ,a],a];exact JO m w b (by omega) (by omega)
 ·have a:Eu k=false:=decide_eq_false hk;rw[show EI k=false by simp[EI,a],show DB k=false by simp[DB,a],show Cw k=false by simp[Cw,a],show EJ k=0 by simp[EJ,a],a];exact KY k w hk
theorem UU(n:Int)(w:Zh):
 Calls prog 89 #[Zg n] w fun e a=>e=.returned (.bool (decide (1<=n/\n<=8)))/\a=w:=by
 by_cases h1:1<=n
 ·by_cases h2:n<=8
  ·go_enter func89,ntmps89;go_wp2;go_ret;exact⟨Aw (by simp[h1,h2]),rfl⟩
  ·have c:decide (n<=8)=false:=by simpa using h2
   go_enter func89,ntmps89;go_wp2;go_ret;exact⟨rfl,rfl⟩
 ·have b:decide (1<=n)=false:=by simpa using h1
  go_enter func89,ntmps89;go_wp2;go_ret;exact⟨rfl,rfl⟩
def Gi(wd:Int):Bool:= !decide (1<=wd/\wd<=8)
def Eb(s:Zi)(wd:Int):Zi×Zi×Bool:=Bd s (Gi wd) (1:Nat)
def AN(s:Zi)(wd:Int):Int:=Cz (Eb s wd).1.data.toList
def Fv(s:Zi)(wd:Int):Bool:=(Eb s wd).2.2|| !Eu (AN s wd)
def DQ(s:Zi)(wd:Int):Zi×Zi×Bool:=Bd (Eb s wd).2.1 (Fv s wd) (4:Nat)
def EQ(s:Zi)(wd:Int):Int:=Cz (DQ s wd).1.data.toList
def Fc(s:Zi)(wd:Int):Zi×Zi×Bool:=Bd (DQ s wd).2.1 (DQ s wd).2.2 (1:Nat)
def Mq(s:Zi)(wd:Int):Int:=Cz (Fc s wd).1.data.toList
def BK(s:Zi)(wd:Int):Zi×Zi×Bool:=Bd (Fc s wd).2.1 (Fc s wd).2.2 (Mq s wd)
def Bc(s:Zi)(wd:Int):Zi×Zi×Bool:=if DB (AN s wd)=true then Bd (BK s wd).2.1 (BK s wd).2.2 wd else (⟨#[]⟩,(BK s wd).2)
def Ba(s:Zi)(wd:Int):Zi×Zl:=if Cw (AN s wd)=true then ((rd (EP (Bc s wd).2.1 (Bc s wd).2.2) wd).1,(rd (EP (Bc s wd).2.1 (Bc s wd).2.2) wd).2.1)else (⟨#[]⟩,[])
def CH(s:Zi)(wd:Int):Zi×Bool:=if Cw (AN s wd)=true then (Jn (Bc s wd).2.1 (Bc s wd).2.2,FW (Bc s wd).2.1 (Bc s wd).2.2 wd)else (Bc s wd).2
def Fw(s:Zi)(wd:Int):Bool:=(CH s wd).2|| !decide ((CH s wd).1.size=0)
def Jo(s:Zi)(wd:Int):Bool:=Cg (AN s wd) (Bc s wd).1 (BK s wd).1 (EQ s wd) (Ba s wd).1 (Ba s wd).2 wd
def CA(s:Zi)(wd:Int):Bool:=Fw s wd|| !Jo s wd
theorem Fj{rest:Zi}{a:Bool}{n:Int}(h:(Bd rest a n).2.2=false):a=false:=by
 unfold Bd at h;cases a
 ·rfl
 ·simp at h
theorem Qd(s:Zi)(wd:Int):(rd s wd).1.size<=s.size:=by
 unfold rd;split
 ·split
  ·exact Nat.zero_le _
  ·unfold JQ Dn;split
   ·simp;omega
   ·exact Nat.zero_le _
 ·exact Nat.zero_le _
theorem EK(rest:Zi)(a:Bool)(n:Int):(Bd rest a n).1.size<=rest.size/\(Bd rest a n).2.1.size<=rest.size:=by
 unfold Bd;split
 ·exact⟨Nat.zero_le _,Zx⟩
 ·split
  ·exact⟨Nat.zero_le _,Zx⟩
  ·simp;omega
structure EW (w W:Zh) (b:Nat) (rest:Zi) (kind:Int) (bad:Bool):Prop where
 rs:DG W b rest kind bad
 env:Env W
 gr:w.grownBy W (some b)
 fo:Aa W w.heap.size [Zf,Zd,Zd,Zf,Zd,Zc]
def Nk(b:Nat):Prop:=∀g∈[1,2,3,4,6,7,0,5],g<b
theorem EW.step{w W e:Zh}{b:Nat}{rest c:Zi}{kind a:Int}{g d:Bool}(h:EW w W b rest kind g)(i:Nk b)(j:b<w.heap.size)(k:DG e b c a d)(f:W.grownBy e (some b)):EW w e b c a d:=
 ⟨k,h.env.ic f i,h.gr.trans f,h.fo.cl f j⟩
theorem EW.below{w W c:Zh}{b:Nat}{rest:Zi}{kind:Int}{bad:Bool}(h:EW w W b rest kind bad)(a:Zz W c):EW w c b rest kind bad:=
 ⟨h.rs.below a,h.env.below a,h.gr.trans (Au _ a),h.fo.below a⟩
theorem EW.set{w W:Zh}{b:Nat}{rest:Zi}{kind:Int}{a:Bool}(h:EW w W b rest kind a)(c:Nk b)(i:b<w.heap.size)(B j:Nat)(v:Value)(f:w.heap.size<B):EW w (W.setCell (Ze B j) v) b rest kind a:=
 ⟨h.rs.cl (Ay W B j v) (by omega),h.env.ic (Ay W B j v) (fun g d=>by have:=c g d;omega),h.gr.andThen (Ay W B j v) (fun k e=>by cases e;exact .inl (by omega)),h.fo.cw (Ay W B j v) (by omega)⟩
theorem Rc(s:Zi)(wd:Int):0<=Mq s wd:=(La _).1
theorem UW{s:Zi}{wd:Int}(h:(BK s wd).2.2=false):0<=wd:=by have b:=Fj h;have h2:=Fj b;have h1:=Fj h2;unfold Fv at h1;have a:=Fj (Bool.or_eq_false_iff.1 h1).1;unfold Gi at a;simp at a;omega
theorem WL{s:Zi}{wd:Int}(h:s.size<=1048576):(BK s wd).1.size<=1048576/\(Bc s wd).2.1.size<=1048576/\(Ba s wd).1.size<=1048576/\(CH s wd).1.size<=1048576:=by
 have h1:=EK s (Gi wd) (1:Nat);have h2:=EK (Eb s wd).2.1 (Fv s wd) (4:Nat);have f:=EK (DQ s wd).2.1 (DQ s wd).2.2 (1:Nat);have b:=EK (Fc s wd).2.1 (Fc s wd).2.2 (Mq s wd);have g:=EK (BK s wd).2.1 (BK s wd).2.2 wd;have i:=Zm h1.2 h;have j:=Zm h2.2 i;have c:=Zm f.2 j;have d:=Zm b.2 c;have e:=Zm b.1 c;have a:(Bc s wd).2.1.size<=1048576:=by
  unfold Bc;split
  ·exact Zm g.2 d
  ·exact d
 refine⟨e,a,?_,?_⟩
 ·unfold Ba;split
  ·exact Zm (Qd _ _) (Qc a)
  ·exact Nat.zero_le _
 ·unfold CH;split
  ·exact Zm (EK _ _ _).2 a
  ·exact a
theorem UX(s:Zi)(wd:Int):(Ba s wd).2.length<=255:=by
 unfold Ba;split
 ·exact VK _ _
 ·exact Nat.zero_le _
theorem EW.lt{w W:Zh}{b:Nat}{rest:Zi}{kind:Int}{bad:Bool}(h:EW w W b rest kind bad):w.heap.size<W.heap.size:=h.fo.lt
theorem Tk(b:Nat)(s:Zi)(wd:Int)(w:Zh)(h:DG w b s 0 false)(he:Env w)(ha:Nk b)(hs:s.size<=1048576):
 Calls prog 157 #[Yz b,Zg wd] w fun e w'=>∃v,e=.returned (.agg #[Zg (AN s wd),.string (Bc s wd).1,.string (BK s wd).1,Zg (EQ s wd),.string (Ba s wd).1,v])/\
  w'.ownsRow w.heap.size 9 1 v (Ba s wd).2.length ((Ba s wd).2.map Value.string)/\DG w' b (CH s wd).1 (AN s wd) (CA s wd)/\w.grownBy w' (some b):=by
 have c:=h.lt;have i:=Yx ha;obtain⟨W,hW⟩:∃W,W=w.alloc (.cells Ym 60):=⟨_,rfl⟩;have zI:=(AG hW).1;have E0:Hid (EW w W b s 0 false):=⟨h.below zI,he.below zI,Au _ zI,by rw[hW];exact Aa.new w _ _⟩;have HW:=Yx hW;clear hW h he ha zI;obtain⟨l,m,f⟩:=E0.o.env.er 1 (by simp);go_enter func157,ntmps157;go_upto_region 1 with fail;rw[←HW.o];clear HW;have xH:decide (1<=wd/\wd<=8)= !Gi wd:=by unfold Gi;simp
 go_upto_if 10 with(go_at_call 89;refine(UU wd _).mono ?_;rintro e w' ⟨rfl,yS⟩;rw[yS];clear yS w')
 go_cut [] (fun g=>Hid (EW w g b s 0 (Gi wd)))
 case first=>
  cases hb0:Gi wd with
  |true=>go_wp2_with fail;refine(FM b _ _ _ l m W E0.o.rs).mono ?_;rintro e w1 ⟨rfl,h1,g1⟩;go_wp2_with fail;go_meet;rw[hb0];exact E0.o.step i.o c h1 g1
  |false=>go_wp2_with fail;go_meet;rw[hb0];exact E0.o
 case rest=>
 revert wc;intro w1 E1;clear E0 f xH;obtain⟨st,sv,f⟩:=E1.o.env.er 6 (by simp);go_wp2_with fail;refine(Gu b s 0 (Gi wd) 1 st sv w1 E1.o.rs (by omega) f).mono ?_;rintro e w2 ⟨rfl,h2,g2⟩;have E2:Hid (EW w w2 b (Eb s wd).2.1 0 (Eb s wd).2.2):=E1.o.step i.o c h2 g2;rw[show Cz (Bd s (Gi wd) (1:Nat)).1.data.toList=AN s wd from rfl];obtain⟨W3,zY⟩:∃W3,W3=w2.setCell (Ze b 1) (Zg (AN s wd)):=⟨_,rfl⟩
 have E3:Hid (EW w W3 b (Eb s wd).2.1 (AN s wd) (Eb s wd).2.2):=by rw[zY];exact E2.o.step i.o c (E2.o.rs.setKind _) (Ay _ _ _ _)
 obtain⟨xP,_,J,A,K,G,H,I⟩:=E2.o.rs;have yG:=Yx zY;clear zY h2 g2 f E1;go_upto_region 4 with fail;rw[←yG.o];clear yG J A K G H I E2;obtain⟨xQ,_,J,A,K,G,H,I⟩:=E3.o.rs;go_wp2_with fail;refine(Pp (AN s wd) W3 E3.o.env.gq).mono ?_;rintro e w4 ⟨rfl,yP⟩;have E4:Hid (EW w w4 b (Eb s wd).2.1 (AN s wd) (Eb s wd).2.2):=E3.o.below yP
 obtain⟨W5,zH⟩:∃W5,W5=w4.alloc (.cells #[.bool (EI (AN s wd)),.bool (DB (AN s wd)),.bool (Cw (AN s wd)),Zg (EJ (AN s wd))] 194):=⟨_,rfl⟩;have yN:=(AG zH).1;have E5:Hid (EW w W5 b (Eb s wd).2.1 (AN s wd) (Eb s wd).2.2):=E4.o.below yN;obtain⟨U,hU⟩:∃U,U=w4.heap.size:=⟨_,rfl⟩
 have U5:Hid (Aa W5 U [.bool (EI (AN s wd)),.bool (DB (AN s wd)),.bool (Cw (AN s wd)),Zg (EJ (AN s wd))]):=by rw[zH,hU];exact Aa.new w4 _ _
 have xT:w.heap.size<U:=by rw[hU];exact E4.o.lt
 have yH:=Yx zH;have HU:=Yx hU;clear zH hU yN yP E3 E4 J A K G H I;obtain⟨l,m,f⟩:=E5.o.env.er 2 (by simp);go_upto_region 5 with fail;rw[←yH.o,←HU.o];clear yH HU
 go_upto_if 28 with fail
 go_cut [6] (fun _ g=>Hid (EW w g b (Eb s wd).2.1 (AN s wd) (Fv s wd))/\Hid (Aa g U [.bool (EI (AN s wd)),.bool (DB (AN s wd)),.bool (Cw (AN s wd)),Zg (EJ (AN s wd))]))
 case first=>
  cases hi:Eu (AN s wd)with
  |true=>go_wp2_with fail;go_meet;refine⟨?_,U5.o⟩;rw[show Fv s wd=(Eb s wd).2.2 by unfold Fv;rw[hi];simp];exact E5.o
  |false=>go_wp2_with fail;refine(FM b _ _ _ l m W5 E5.o.rs).mono ?_;rintro e a ⟨rfl,h6,g6⟩;go_wp2_with fail;go_meet;refine⟨?_,U5.o.cl g6 (by omega)⟩;rw[show Fv s wd=true by unfold Fv;rw[hi];simp];exact E5.o.step i.o c h6 g6
 case rest=>
 revert wc;intro a hcut;obtain⟨P,U6⟩:=hcut;clear E5 U5 f;obtain⟨d,zX⟩:∃d:Nat,d=0:=⟨_,rfl⟩;clear zX d;have D6:=Yx (P.o.below ((Below.refl a.heap.size a).drew));have zZ:Below a.heap.size a (a.alloc (.cells Ym 60)):=Zy;have X:=Yx (P.o.below zZ.drew);have yJ:Hid (Aa (a.alloc (.cells Ym 60)).drew a.heap.size Yl):=Aa.new a _ _;obtain⟨xR,_,J,A,K,G,H,I⟩:=P.o.rs
 have xK:(a.alloc (.cells Ym 60)).cell? (Ze b 1)=some (Zg (AN s wd)):=(zZ.cell (p:=⟨b,1,none⟩) P.o.rs.lt).trans A;obtain⟨l,m,f⟩:=D6.o.env.er 6 (by simp);obtain⟨xD,xE,yQ⟩:=X.o.env.er 6 (by simp);have yC:=P.o.rs.lt;have xG:=P.o.lt;clear zZ;go_upto_region 7 with fail
 go_cut [7] (fun v g=>∃d:Nat,v=Yz d/\a.heap.size<=d/\Hid (EW w g b (DQ s wd).2.1 (AN s wd) (DQ s wd).2.2)/\Hid (a.grownBy g (some b))/\Hid (Aa g d [Zg (AN s wd),Zd,Zd,Zg (EQ s wd),Zd,Zc]))
 case first=>
  go_region_with (first
   |(go_at_call 185;refine(Gu b _ _ _ 4 l m a.drew D6.o.rs (by omega) f).mono ?_;rintro e z ⟨rfl,h7,g7⟩;have E7:Hid (EW w z b (DQ s wd).2.1 (AN s wd) (DQ s wd).2.2):=D6.o.step i.o c h7 g7;obtain⟨er7,_,y0,y1,y2,_,_,_⟩:=h7;have V:=g7;have xF:=E7.o.rs.lt)
   |(go_at_call 185;refine(Gu b _ _ _ 4 xD xE _ X.o.rs (by omega) yQ).mono ?_;rintro e z ⟨rfl,h7,g7⟩;have E7:Hid (EW w z b (DQ s wd).2.1 (AN s wd) (DQ s wd).2.2):=X.o.step i.o c h7 g7;obtain⟨er7,_,y0,y1,y2,_,_,_⟩:=h7;have Q:=Aa.cl yJ.o g7 yC;have z0:=(Q 0 _ rfl);have z1:=(Q 1 _ rfl);have R:=(Q 2 _ rfl);have z3:=(Q 3 _ rfl);have z4:=(Q 4 _ rfl);have z5:=(Q 5 _ rfl);obtain⟨z0,y0f⟩:=z0;obtain⟨z1,y1f⟩:=z1;obtain⟨R,y2f⟩:=R;obtain⟨z3,y3f⟩:=z3;obtain⟨z4,y4f⟩:=z4;obtain⟨z5,y5f⟩:=z5;have yD:=g7;have xF:=E7.o.rs.lt))
  all_goals go_wp2_with fail
  all_goals go_meet
  all_goals first
   |(have hA:Below z.heap.size z (z.alloc (.cells #[Zg (AN s wd),Zd,Zd,Zg (EQ s wd),Zd,Zc] 60)):=Zy
     exact⟨z.heap.size,rfl,V.size,E7.o.below hA,((Au (some b) (Below.refl a.heap.size a).drew).trans V).trans (Au _ hA),Aa.new z _ _⟩)
   |(have F:w.heap.size<a.heap.size:=xG
     refine⟨a.heap.size,rfl,Zx,?_,?_,?_⟩
     ·exact(((((E7.o.set i.o c a.heap.size 0 _ F).set i.o c a.heap.size 1 _ F).set i.o c a.heap.size 2 _ F).set i.o c a.heap.size 3 _ F).set i.o c a.heap.size 4 _ F).set i.o c a.heap.size 5 _ F
     ·have g0:a.grownBy z (some b):=(Au (some b) ((Below.refl a.heap.size a).alloc (Zx) _).drew).trans yD
      exact(((((g0.andThen (Ay _ a.heap.size 0 _) (fun j e=>by cases e;exact .inl (Zx))).andThen (Ay _ a.heap.size 1 _) (fun j e=>by cases e;exact .inl (Zx))).andThen (Ay _ a.heap.size 2 _) (fun j e=>by cases e;exact .inl (Zx))).andThen (Ay _ a.heap.size 3 _) (fun j e=>by cases e;exact .inl (Zx))).andThen (Ay _ a.heap.size 4 _) (fun j e=>by cases e;exact .inl (Zx))).andThen (Ay _ a.heap.size 5 _) (fun j e=>by cases e;exact .inl (Zx))
     ·exact(((((Q.set 0 _).set 1 _).set 2 _).set 3 _).set 4 _).set 5 _)
 case rest=>
 revert wc;intro w8 hcut;obtain⟨d,rfl,zX,E8,G8,Z8⟩:=hcut;have xS:U<d:=Zr U6.o.lt zX;have U8:Hid (Aa w8 U [.bool (EI (AN s wd)),.bool (DB (AN s wd)),.bool (Cw (AN s wd)),Zg (EJ (AN s wd))]):=U6.o.cl G8.o (by omega);clear P U6 D6 X yJ J A K G H I xK f yQ G8;have x:w.heap.size<d:=by omega
 obtain⟨l,m,f⟩:=E8.o.env.er 6 (by simp);go_wp2_with fail;refine(Gu b _ _ _ 1 l m w8 E8.o.rs (by omega) f).mono ?_;rintro e w9 ⟨rfl,h9,g9⟩;have E9:Hid (EW w w9 b (Fc s wd).2.1 (AN s wd) (Fc s wd).2.2):=E8.o.step i.o c h9 g9;have Z9:Hid (Aa w9 d [Zg (AN s wd),Zd,Zd,Zg (EQ s wd),Zd,Zc]):=Z8.o.cl g9 (by omega)
 have U9:Hid (Aa w9 U [.bool (EI (AN s wd)),.bool (DB (AN s wd)),.bool (Cw (AN s wd)),Zg (EJ (AN s wd))]):=U8.o.cl g9 (by omega);rw[show Cz (Bd (DQ s wd).2.1 (DQ s wd).2.2 (1:Nat)).1.data.toList=Mq s wd from rfl];clear E8 Z8 U8 h9 g9 f;obtain⟨l,m,f⟩:=E9.o.env.er 6 (by simp);go_wp2_with fail;refine(IB b _ _ _ (Mq s wd) l m w9 E9.o.rs (fun _=>Rc s wd) f).mono ?_;rintro e zJ ⟨rfl,yK,zB⟩
 have yE:Hid (EW w zJ b (BK s wd).2.1 (AN s wd) (BK s wd).2.2):=E9.o.step i.o c yK zB;have zR:Hid (Aa zJ d [Zg (AN s wd),Zd,Zd,Zg (EQ s wd),Zd,Zc]):=Z9.o.cl zB (by omega);have yI:Hid (Aa zJ U [.bool (EI (AN s wd)),.bool (DB (AN s wd)),.bool (Cw (AN s wd)),Zg (EJ (AN s wd))]):=U9.o.cl zB (by omega);rw[show(Bd (Fc s wd).2.1 (Fc s wd).2.2 (Mq s wd)).1=(BK s wd).1 from rfl];clear E9 Z9 U9 yK zB f
 obtain⟨R,xL⟩:=zR.o 2 _ rfl;obtain⟨D,q⟩:∃D,D=zJ.setCell (Ze d 2) (.string (BK s wd).1):=⟨_,rfl⟩;have B:Hid (EW w D b (BK s wd).2.1 (AN s wd) (BK s wd).2.2):=by rw[q];exact yE.o.set i.o c d 2 _ x
 have Z:Hid (Aa D d [Zg (AN s wd),Zd,.string (BK s wd).1,Zg (EQ s wd),Zd,Zc]):=by rw[q];exact zR.o.set 2 _
 have M:Hid (Aa D U [.bool (EI (AN s wd)),.bool (DB (AN s wd)),.bool (Cw (AN s wd)),Zg (EJ (AN s wd))]):=by rw[q];exact yI.o.cw (Ay _ _ _ _) (by omega)
 have S:=Yx q;clear q yE zR yI;go_upto_region 9 with fail;rw[←S.o];clear S R xL;obtain⟨u1,_⟩:=M.o 1 _ rfl
 go_upto_if 45 with fail
 go_cut [] (fun g=>Hid (EW w g b (Bc s wd).2.1 (AN s wd) (Bc s wd).2.2)/\Hid (Aa g U [.bool (EI (AN s wd)),.bool (DB (AN s wd)),.bool (Cw (AN s wd)),Zg (EJ (AN s wd))])/\Hid (Aa g d [Zg (AN s wd),.string (Bc s wd).1,.string (BK s wd).1,Zg (EQ s wd),Zd,Zc]))
 case first=>
  cases hu:DB (AN s wd)with
  |true=>
   have e5:Hid (Bc s wd=Bd (BK s wd).2.1 (BK s wd).2.2 wd):=by show _=_;unfold Bc;rw[if_pos hu]
   obtain⟨l,m,f⟩:=B.o.env.er 6 (by simp);go_wp2_with fail;refine(IB b _ _ _ wd l m D B.o.rs (fun h=>UW h) f).mono ?_;rintro e yA ⟨rfl,zW,zC⟩;rw[←e5.o]at zW ⊢;have r:=B.o.step i.o c zW zC;have u:=Z.o.cl zC (by omega);have N:=M.o.cl zC (by omega);obtain⟨z1,xX⟩:=u 1 _ rfl;clear zW zC f u1 B Z M;go_wp2_with fail;go_meet;refine⟨r.set i.o c d 1 _ x,?_,u.set 1 _⟩;exact N.cw (Ay _ _ _ _) (by omega)
  |false=>
   have e5:Hid (Bc s wd=(⟨#[]⟩,(BK s wd).2)):=by show _=_;unfold Bc;rw[if_neg (by rw[hu];decide)]
   go_wp2_with fail;go_meet;rw[e5.o];exact⟨B.o,M.o,Z.o⟩
 case rest=>
 revert wc;intro yA hcut;obtain⟨r,N,u⟩:=hcut;clear B Z M u1;have zN:=Yx (WL (wd:=wd) hs);obtain⟨u2,_⟩:=N.o 2 _ rfl
 go_upto_if 51 with fail
 go_cut [] (fun g=>∃(n:Zk) (o:Nat),Hid (EW w g b (CH s wd).1 (AN s wd) (CH s wd).2)/\Hid (Aa g d (Yo (AN s wd) ((Bc s wd).1) ((BK s wd).1) (EQ s wd) ((Ba s wd).1) n ((Ba s wd).2.length) o))/\Hid (g.ownsRow (w.heap.size+1) 9 1 (.slice n (Ba s wd).2.length o) (Ba s wd).2.length ((Ba s wd).2.map Value.string)))
 case first=>
  cases hu:Cw (AN s wd)with
  |true=>
   have e6:Hid (CH s wd=(Jn (Bc s wd).2.1 (Bc s wd).2.2,FW (Bc s wd).2.1 (Bc s wd).2.2 wd)):=by show _=_;unfold CH;rw[if_pos hu]
   have et:Hid (Ba s wd=((rd (EP (Bc s wd).2.1 (Bc s wd).2.2) wd).1,(rd (EP (Bc s wd).2.1 (Bc s wd).2.2) wd).2.1)):=by show _=_;unfold Ba;rw[if_pos hu]
   go_wp2_with fail;refine(Tg b _ _ _ wd yA r.o.rs r.o.env i.o zN.o.2.1).mono ?_;rintro e xI ⟨v,rfl,ho,zG,zV⟩;have t1:(rd (EP (Bc s wd).2.1 (Bc s wd).2.2) wd).1=(Ba s wd).1:=by rw[et.o]
   have t2:(rd (EP (Bc s wd).2.1 (Bc s wd).2.2) wd).2.1=(Ba s wd).2:=by rw[et.o]
   rw[t2]at ho;rw[t1];clear t1 t2;have zG:DG xI b (CH s wd).1 (AN s wd) (CH s wd).2:=by rw[e6.o];exact zG
   obtain⟨n,o,hv,_⟩:=DF ho;subst hv;have yT:=r.o.step i.o c zG zV;have xO:=r.o.lt;have zA:=u.o.cl zV (by omega);have xN:=zA.lt;obtain⟨z4,xY⟩:=zA 4 _ rfl;obtain⟨z5,xZ⟩:=zA 5 _ rfl;have T:d<yA.heap.size:=u.o.lt;clear zG zV u2 r N u e6 et;go_wp2_with fail;go_meet
   exact⟨n,o,(yT.set i.o c d 4 _ x).set i.o c d 5 _ x,(zA.set 4 _).set 5 _,(ownsRow_setCell_below (ownsRow_setCell_below ho T _) T _).mono (by omega)⟩
  |false=>
   have e6:Hid (CH s wd=(Bc s wd).2):=by show _=_;unfold CH;rw[if_neg (by rw[hu];decide)]
   have et:Hid (Ba s wd=(⟨#[]⟩,[])):=by show _=_;unfold Ba;rw[if_neg (by rw[hu];decide)]
   go_wp2_with fail;go_meet;rw[e6.o,et.o];exact⟨none,0,r.o,u.o,World.ownsRow_nil _ _ _ _⟩
 case rest=>
 revert wc;intro xJ hcut;obtain⟨n,o,C,zS,Y⟩:=hcut;clear r N u u2;obtain⟨xM,_,J,A,K,G,H,I⟩:=C.o.rs;obtain⟨l,m,f⟩:=C.o.env.er 3 (by simp);have yO:∀k,(Value.slice n (Ba s wd).2.length o).ownBlock=some k->b<k:=fun k hk=>by have:=(Y.o.lt k hk).1;omega
 have yF:=Yx yO;clear yO
 go_upto_if 60 with fail
 go_cut [] (fun g=>Hid (EW w g b (CH s wd).1 (AN s wd) (Fw s wd))/\Hid (Aa g d (Yo (AN s wd) ((Bc s wd).1) ((BK s wd).1) (EQ s wd) ((Ba s wd).1) n ((Ba s wd).2.length) o))/\Hid (g.ownsRow (w.heap.size+1) 9 1 (.slice n (Ba s wd).2.length o) (Ba s wd).2.length ((Ba s wd).2.map Value.string)))
 case first=>
  have yR:=Yx (Ft (s:=(CH s wd).1));cases hq:(CH s wd).1.toList.isEmpty with
  |true=>
   have O:(CH s wd).1.size=0:=by have:=yR.o;rw[hq]at this;simpa using this.symm
   have h0:=Yx O;clear O;clear hq;go_wp2_with fail;go_meet;rw[show Fw s wd=(CH s wd).2 by unfold Fw;rw[decide_eq_true h0.o];simp];exact⟨C.o,zS.o,Y.o⟩
  |false=>
   have O:¬(CH s wd).1.size=0:=by have:=yR.o;rw[hq]at this;simpa using this.symm
   have h0:=Yx O;clear O;clear hq;go_wp2_with fail;refine(FM b _ _ _ l m xJ C.o.rs).mono ?_;rintro e xU ⟨rfl,yL,zE⟩;have yU:=C.o.step i.o c yL zE;have xA:=zS.o.cl zE (by omega);have yX:=Y.o.kept zE (.inr (fun e=>by have:=yF.o b e;omega));clear yL zE J A K G H I f;go_wp2_with fail;go_meet;rw[show Fw s wd=true by unfold Fw;rw[decide_eq_false h0.o];simp];exact⟨yU,xA,yX⟩
 case rest=>
 revert wc;intro yB hcut;obtain⟨zM,zT,zO⟩:=hcut;clear C zS Y J A K G H I f;obtain⟨z0,z1,R,z3,z4,z5⟩:=Aa.c6 zT.o 0 1 2 3 4 5;have hlen:=UX s wd;have yW:Hid (Ad yB yB.heap.size n (Ba s wd).2):=by obtain⟨a',c',hv,hr⟩:=DF zO.o;cases hv;exact hr
 go_wp2_with fail;refine(UK (AN s wd) (Bc s wd).1 (BK s wd).1 (EQ s wd) (Ba s wd).1 n o (Ba s wd).2 wd yB zM.o.env.gq yW.o (by omega) (by have:=zN.o.2.2.1;unfold maxLen;omega) (by have:=zN.o.1;unfold maxLen;omega)).mono ?_;rintro e zK ⟨rfl,y⟩;rw[show Cg (AN s wd) (Bc s wd).1 (BK s wd).1 (EQ s wd) (Ba s wd).1 (Ba s wd).2 wd=Jo s wd from rfl]
 have L:Hid (EW w zK b (CH s wd).1 (AN s wd) (Fw s wd)):=zM.o.below y;have zU:Hid (Aa zK d (Yo (AN s wd) ((Bc s wd).1) ((BK s wd).1) (EQ s wd) ((Ba s wd).1) n ((Ba s wd).2.length) o)):=zT.o.below y;have zP:Hid (zK.ownsRow (w.heap.size+1) 9 1 (.slice n (Ba s wd).2.length o) (Ba s wd).2.length ((Ba s wd).2.map Value.string)):=zO.o.kept (Au none y) (Classical.em _);clear zM zT zO z0 z1 R z3 z4 z5 y
 obtain⟨l,m,f⟩:=L.o.env.er 4 (by simp)
 go_upto_if 67 with fail
 go_cut [] (fun g=>Hid (EW w g b (CH s wd).1 (AN s wd) (CA s wd))/\Hid (Aa g d (Yo (AN s wd) ((Bc s wd).1) ((BK s wd).1) (EQ s wd) ((Ba s wd).1) n ((Ba s wd).2.length) o))/\Hid (g.ownsRow (w.heap.size+1) 9 1 (.slice n (Ba s wd).2.length o) (Ba s wd).2.length ((Ba s wd).2.map Value.string)))
 case first=>
  cases hok:Jo s wd with
  |true=>go_wp2_with fail;go_meet;rw[show CA s wd=Fw s wd by unfold CA;rw[hok];simp];exact⟨L.o,zU.o,zP.o⟩
  |false=>go_wp2_with fail;refine(FM b _ _ _ l m zK L.o.rs).mono ?_;rintro e xV ⟨rfl,yM,zF⟩;have yV:=L.o.step i.o c yM zF;have xB:=zU.o.cl zF (by omega);have yY:=zP.o.kept zF (.inr (fun e=>by have:=yF.o b e;omega));clear yM zF f;go_wp2_with fail;go_meet;rw[show CA s wd=true by unfold CA;rw[hok];simp];exact⟨yV,xB,yY⟩
 case rest=>
 revert wc;intro xW hcut;obtain⟨t,xC,yZ⟩:=hcut;clear L zU zP f;obtain⟨z0,z1,R,z3,z4,z5⟩:=Aa.c6 xC.o 0 1 2 3 4 5;obtain⟨r0,q0⟩:=t.o.fo 0 _ rfl;obtain⟨r1,q1⟩:=t.o.fo 1 _ rfl;obtain⟨r2,q2⟩:=t.o.fo 2 _ rfl;obtain⟨r3,q3⟩:=t.o.fo 3 _ rfl;obtain⟨r4,q4⟩:=t.o.fo 4 _ rfl;obtain⟨r5,q5⟩:=t.o.fo 5 _ rfl;have E:b≠w.heap.size:=by omega
 go_wp2;refine bodyPost_ret (v:=.agg (Yp (AN s wd) ((Bc s wd).1) ((BK s wd).1) (EQ s wd) ((Ba s wd).1) n ((Ba s wd).2.length) o)) (by simp[results,results157,go_sem, *]) rfl ?_;have hz:w.heap.size<w.heap.size+1:=by omega
 refine⟨_,rfl,?_,?_,?_⟩
 ·refine World.ownsRow.mono ?_ (Nat.le_succ w.heap.size)
  iterate 6 (refine ownsRow_setCell_below ?_ hz _)
  exact yZ.o
 ·exact(((((t.o.rs.cl (Ay _ w.heap.size 0 _) E).cl (Ay _ w.heap.size 1 _) E).cl (Ay _ w.heap.size 2 _) E).cl (Ay _ w.heap.size 3 _) E).cl (Ay _ w.heap.size 4 _) E).cl (Ay _ w.heap.size 5 _) E
 ·exact(((((t.o.gr.andThen (Ay _ w.heap.size 0 _) (fun j e=>by cases e;exact .inl (Zx))).andThen (Ay _ w.heap.size 1 _) (fun j e=>by cases e;exact .inl (Zx))).andThen (Ay _ w.heap.size 2 _) (fun j e=>by cases e;exact .inl (Zx))).andThen (Ay _ w.heap.size 3 _) (fun j e=>by cases e;exact .inl (Zx))).andThen (Ay _ w.heap.size 4 _) (fun j e=>by cases e;exact .inl (Zx))).andThen (Ay _ w.heap.size 5 _) (fun j e=>by cases e;exact .inl (Zx))
abbrev AD(l:List UInt8):Zi:=⟨l.toArray⟩
theorem WM(s:Zi):AD s.data.toList=s:=rfl
theorem GV(l:List UInt8)(a b:Nat):(AD l).extract a b=AD ((l.drop a).take (b -a)):=by apply ByteArray.ext;rw[ByteArray.data_extract];apply Array.ext';simp[List.take_drop]
theorem BF(l:List UInt8):(AD l).size=l.length:=by simp[ByteArray.size]
def IC(T:List UInt8)(wd i:Nat):Zi:=AD ((T.drop (i *wd)).take wd)
theorem Tl(T:List UInt8)(wd:Nat):∀k,k *wd<=T.length->flat ((List.range k).map (IC T wd))=T.take (k *wd):=by
 intro k;induction k with
 |zero=>intro _;simp[flat]
 |succ k ih=>
  intro h;have a:k *wd<=T.length:=by rw[Nat.succ_mul]at h;omega
  rw[List.range_succ,List.map_append];unfold flat at *
  rw[List.flatMap_append,ih a];simp only[List.map_cons,List.map_nil,List.flatMap_cons,List.flatMap_nil,List.append_nil,IC];rw[Nat.succ_mul,List.take_add]
theorem Tm(a:Zl)(t:List UInt8)(wd:Nat)(h:∀s∈a,s.size=wd):(List.range a.length).map (IC (flat a++t) wd)=a:=by
 induction a with
 |nil=>rfl
 |cons s r ih=>
  have b:s.data.toList.length=wd:=h s (List.mem_cons_self ..);have d:=ih (fun x e=>h x (by simp[e]));have c:flat (s::r)++t=s.data.toList++(flat r++t):=by simp[flat]
  rw[List.length_cons,List.range_succ_eq_map,List.map_cons,List.map_map,c];congr 1
  ·unfold IC;rw[Nat.zero_mul,List.drop_zero,List.take_left' b]
  ·refine Eq.trans ?_ d;apply List.map_congr_left;intro i _;simp only[Function.comp,IC];congr 2;rw[show Nat.succ i *wd=s.data.toList.length+i *wd by rw[Nat.succ_mul,b];omega,←List.drop_drop,List.drop_left]
theorem rd_mk(c:UInt8)(T:List UInt8)(wd:Int)(h1:1<=wd)(h2:wd<=8):
 rd (AD (c::T)) wd=if c.toNat *wd.toNat<=T.length/\AJ (AD (T.drop (c.toNat *wd.toNat))) ((List.range c.toNat).map (IC T wd.toNat)) wd=true then (AD (T.drop (c.toNat *wd.toNat)),(List.range c.toNat).map (IC T wd.toNat),true)else (⟨#[]⟩,[],false):=by
 obtain⟨W,rfl⟩:∃W:Nat,wd=W:=⟨wd.toNat,by omega⟩;have a:(AD (c::T)).size=T.length+1:=by rw[BF];rfl
 have b:(AD (c::T)).extract 1 (AD (c::T)).size=AD T:=by rw[a,GV];simp
 have f:Dn (AD (c::T)) W c.toNat=AD (T.drop (c.toNat *W)):=by unfold Dn;rw[b,GV,a];congr 2;rw[show((c.toNat:Int) *(W:Int)).toNat=c.toNat *W by rw[←Int.natCast_mul];rfl];exact Zt (by simp)
 have e:BE (AD (c::T)) W c.toNat=(List.range c.toNat).map (IC T W):=by unfold BE;apply List.map_congr_left;intro i _;unfold Jm IC;rw[b,GV];congr 2;rw[show((i:Int) *(W:Int)).toNat=i *W by rw[←Int.natCast_mul];rfl,show((i:Int) *(W:Int)+(W:Int)).toNat=i *W+W by rw[←Int.natCast_mul];omega];congr 1;omega
 have d:((c.toNat:Int) *(W:Int)<=((AD (c::T)).size:Int) -1)↔c.toNat *W<=T.length:=by rw[a,←Int.natCast_mul];omega
 unfold rd;rw[if_pos ⟨h1,h2⟩];simp only[List.head?_cons];unfold JQ;rw[f,e];simp only[d,Int.toNat_natCast]
theorem UY{l:List UInt8}{wd:Int}(h:(rd (AD l) wd).2.2=true):AJ (rd (AD l) wd).1 (rd (AD l) wd).2.1 wd=true/\BB (rd (AD l) wd).1 (rd (AD l) wd).2.1=l:=by
 by_cases hw:1<=wd/\wd<=8
 ·cases l with
  |nil=>unfold rd at h;rw[if_pos hw]at h;simp at h
  |cons c T=>
   rw[rd_mk c T wd hw.1 hw.2]at h ⊢;split at h
   case isTrue hc=>
    rw[if_pos hc];refine⟨hc.2,?_⟩;simp only[BB,List.length_map,List.length_range];rw[Tl T wd.toNat c.toNat hc.1];simp
   case isFalse hc=>simp at h
 ·unfold rd at h;rw[if_neg hw]at h;simp at h
theorem Pq{t:Zi}{a:Zl}{wd:Int}(h:AJ t a wd=true):rd (AD (BB t a)) wd=(t,a,true):=by
 have p:=BA h;have c:∀s∈a,s.size=wd.toNat:=fun s g=>by obtain⟨i,e⟩:=List.getElem?_of_mem g;have:=p.size e;omega
 have f:(UInt8.ofNat a.length).toNat=a.length:=by have:=p.refs;simp;omega
 have b:(flat a).length=a.length *wd.toNat:=by rw[Dl,p.aw]
 unfold BB;rw[rd_mk _ _ wd p.lo p.hi,f,Tm a t.data.toList wd.toNat c];have d:(flat a++t.data.toList).drop (a.length *wd.toNat)=t.data.toList:=by rw[←b,List.drop_left]
 rw[d,WM,if_pos ⟨by rw[List.length_append,b];omega,h⟩]
section
structure ER where
 k:Int
 sum:Zi
 name:Zi
 n:Int
 t:Zi
 ss:Zl
 ok:Bool
def GW:ER:=⟨0,⟨#[]⟩,⟨#[]⟩,0,⟨#[]⟩,[],false⟩
def AE(s:Zi)(wd:Int):ER:=
 if CA s wd=true then GW else ⟨AN s wd,(Bc s wd).1,(BK s wd).1,EQ s wd,(Ba s wd).1,(Ba s wd).2,true⟩
def Tp(k:Int)(rest:List UInt8):Zi:=if k=1 then ⟨#[]⟩else AD rest
def Tq(k:Int)(rest:List UInt8)(wd:Int):Zi:=if k=1 then (rd (AD rest) wd).1 else ⟨#[]⟩
def Tr(k:Int)(rest:List UInt8)(wd:Int):Zl:=if k=1 then (rd (AD rest) wd).2.1 else []
def Om(k n:Int)(name rest l:List UInt8)(wd:Int):Bool:=
 Cg k (Tp k rest) (AD name) n (Tq k rest wd) (Tr k rest wd) wd&&decide (Cv k (Tp k rest) (AD name) n (Tq k rest wd) (Tr k rest wd) wd=AD l)
theorem DR(l:List UInt8)(n:Nat)(h:n<=l.length):Bd (AD l) false n=(AD (l.take n),AD (l.drop n),false):=by unfold Bd;rw[if_neg (by decide),if_neg (by rw[BF];omega),GV,GV,BF];simp;exact Zt (by simp)
theorem ES(l:List UInt8)(n:Int)(h:(l.length:Int)<n):Bd (AD l) false n=(⟨#[]⟩,AD l,true):=by unfold Bd;rw[if_neg (by decide),if_pos (by rw[BF];exact h)]
theorem Gv(r:Zi)(n:Int):Bd r true n=(⟨#[]⟩,r,true):=by simp[Bd]
theorem ID{s:Zi}{wd:Int}(h:(BK s wd).2.2=true):CA s wd=true:=by
 cases hb:CA s wd with
 |true=>rfl
 |false=>
  unfold CA at hb;have c:=(Bool.or_eq_false_iff.1 hb).1;unfold Fw at c;have a:=(Bool.or_eq_false_iff.1 c).1;have b:(Bc s wd).2.2=false:=by
   unfold CH at a;split at a
   ·simp only[FW]at a;exact Fj (Bool.or_eq_false_iff.1 a).1
   ·exact a
  have d:(BK s wd).2.2=false:=by
   unfold Bc at b;split at b
   ·exact Fj b
   ·exact b
  rw[d]at h;cases h
theorem Kn{s:Zi}{wd:Int}(h:(Fc s wd).2.2=true):(BK s wd).2.2=true:=by unfold BK;rw[h,Gv]
theorem On{s:Zi}{wd:Int}(h:(DQ s wd).2.2=true):(Fc s wd).2.2=true:=by unfold Fc;rw[h,Gv]
theorem UZ{s:Zi}{wd:Int}(h:Fv s wd=true):(DQ s wd).2.2=true:=by unfold DQ;rw[h,Gv]
theorem FO{s:Zi}{wd:Int}(h:Fv s wd=true):CA s wd=true:=ID (Kn (On (UZ h)))
theorem Vb{s:Zi}{wd:Int}(h:¬(1<=wd/\wd<=8)):CA s wd=true:=by refine FO ?_;unfold Fv Eb;rw[show Gi wd=true by unfold Gi;simp;omega,Gv];rfl
theorem VN{wd:Int}(h1:1<=wd)(h2:wd<=8):Gi wd=false:=by unfold Gi;simp[h1,h2]
theorem VO(a:UInt8):Cz [a]=(a.toNat:Int):=by simp[Cz]
theorem VP(a b c d:UInt8):Cz [a,b,c,d]=(a.toNat:Int) *16777216+(b.toNat:Int) *65536+(c.toNat:Int) *256+(d.toNat:Int):=by simp only[Cz,List.foldl_cons,List.foldl_nil];omega
section
variable {wd:Int} (h1:1<=wd) (h2:wd<=8)
theorem XY(h1:1<=wd)(h2:wd<=8):CA (AD []) wd=true:=by refine FO ?_;unfold Fv Eb;rw[VN h1 h2,ES [] _ (by simp)];rfl
theorem JH(a:UInt8)(l:List UInt8)(h1:1<=wd)(h2:wd<=8):Eb (AD (a::l)) wd=(AD [a],AD l,false):=by unfold Eb;rw[VN h1 h2,DR _ _ (by simp)];rfl
theorem Ts(a:UInt8)(l:List UInt8)(h1:1<=wd)(h2:wd<=8):AN (AD (a::l)) wd=(a.toNat:Int):=by unfold AN;rw[JH a l h1 h2];exact VO a
theorem Gz(a:UInt8)(l:List UInt8)(h1:1<=wd)(h2:wd<=8):Fv (AD (a::l)) wd= !Eu (a.toNat:Int):=by unfold Fv;rw[JH a l h1 h2,Ts a l h1 h2];rfl
theorem Vc(a:UInt8)(l:List UInt8)(h1:1<=wd)(h2:wd<=8)(b:l.length<4):CA (AD (a::l)) wd=true:=by
 cases hk:Eu (a.toNat:Int)with
 |false=>exact FO (by rw[Gz a l h1 h2,hk];rfl)
 |true=>refine ID (Kn (On ?_));unfold DQ;rw[Gz a l h1 h2,hk,JH a l h1 h2];rw[show(!true)=false from rfl,ES l _ (by omega)]
theorem Rd(a b c d e:UInt8)(l:List UInt8)(h1:1<=wd)(h2:wd<=8)(f:Eu (a.toNat:Int)=true):DQ (AD (a::b::c::d::e::l)) wd=(AD [b,c,d,e],AD l,false):=by unfold DQ;rw[Gz _ _ h1 h2,f,JH _ _ h1 h2];rw[show(!true)=false from rfl,DR _ _ (by simp)];rfl
theorem Ve(a b c d e:UInt8)(h1:1<=wd)(h2:wd<=8)(f:Eu (a.toNat:Int)=true):CA (AD [a,b,c,d,e]) wd=true:=by refine ID (Kn ?_);unfold Fc;rw[Rd a b c d e [] h1 h2 f,ES [] _ (by simp)]
theorem Re(a c d e f b:UInt8)(T:List UInt8)(h1:1<=wd)(h2:wd<=8)(g:Eu (a.toNat:Int)=true):Fc (AD (a::c::d::e::f::b::T)) wd=(AD [b],AD T,false):=by unfold Fc;rw[Rd a c d e f (b::T) h1 h2 g,DR _ _ (by simp)];rfl
theorem XZ(b c d e f a:UInt8)(T:List UInt8)(h1:1<=wd)(h2:wd<=8)(g:Eu (b.toNat:Int)=true):Mq (AD (b::c::d::e::f::a::T)) wd=(a.toNat:Int):=by unfold Mq;rw[Re b c d e f a T h1 h2 g];exact VO a
theorem Vf(a c d e f b:UInt8)(T:List UInt8)(h1:1<=wd)(h2:wd<=8)(g:Eu (a.toNat:Int)=true)(h:T.length<b.toNat):CA (AD (a::c::d::e::f::b::T)) wd=true:=by refine ID ?_;unfold BK;rw[XZ a c d e f b T h1 h2 g,Re a c d e f b T h1 h2 g,ES T _ (by omega)]
theorem ZH(b c d e f a:UInt8)(T:List UInt8)(h1:1<=wd)(h2:wd<=8)(g:Eu (b.toNat:Int)=true)(h:a.toNat<=T.length):BK (AD (b::c::d::e::f::a::T)) wd=(AD (T.take a.toNat),AD (T.drop a.toNat),false):=by unfold BK;rw[XZ b c d e f a T h1 h2 g,Re b c d e f a T h1 h2 g,DR T _ h]
theorem Aad(a b c d e:UInt8)(l:List UInt8)(h1:1<=wd)(h2:wd<=8)(f:Eu (a.toNat:Int)=true):EQ (AD (a::b::c::d::e::l)) wd=Cz [b,c,d,e]:=by unfold EQ;rw[Rd a b c d e l h1 h2 f]
theorem GA(a:UInt8)(x:Int)(h:x=(a.toNat:Int)):u8 x=a:=by subst h;simp[u8]
theorem Vg(e a b c d f:UInt8):BZ (e.toNat:Int) (Cz [a,b,c,d]) (f.toNat:Int)=[e,a,b,c,d,f]:=by have g:=a.toNat_lt;have h:=b.toNat_lt;have i:=c.toNat_lt;have j:=d.toNat_lt;unfold BZ;rw[VP];rw[GA e _ rfl,GA f _ rfl,GA a _ (by omega),GA b _ (by omega),GA c _ (by omega),GA d _ (by omega)]
end
theorem WN{k:Nat}(h:Eu (k:Int)=true):1<=k/\k<=7:=by unfold Eu at h;simp at h;omega
theorem WO{k:Int}{a name:Zi}{n:Int}{t:Zi}{b:Zl}{wd:Int}(h:Eu k=false):Cg k a name n t b wd=false:=by unfold Cg;unfold Eu at h;rw[h];rfl
theorem Mr{k:Nat}{a name:Zi}{n:Int}{t:Zi}{b:Zl}{wd:Int}(h:Cg (k:Int) a name n t b wd=true):CG k a name n t b wd=true:=by unfold Cg at h;exact(Bool.and_eq_true_iff.1 h).2
theorem Qe{k:Nat}{a name:Zi}{n:Int}{t:Zi}{c:Zl}{wd:Int}(h:Cg (k:Int) a name n t c wd=true):DN (DA k) a wd=true:=by have b:=Mr h;unfold CG at b;exact(Bool.and_eq_true_iff.1 (Bool.and_eq_true_iff.1 b).2).1
theorem Rf{l:List UInt8}(h:(AD l).size=0):AD l=⟨#[]⟩:=by rw[BF]at h;rw[List.eq_nil_of_length_eq_zero h]
theorem Le{k:Nat}{a name:Zi}{n:Int}{t:Zi}{b:Zl}{wd:Int}{l:List UInt8}(h:Cg (k:Int) a name n t b wd=true):Cv k a name n t b wd=AD l↔CR k a name n t b=l:=by
 unfold Cv;rw[if_pos h,Int.toNat_natCast];constructor
 ·intro e;have:=congrArg (fun s:Zi=>s.data.toList) e;simpa using this
 ·intro e;rw[e]
theorem Ms(a d f g i b:UInt8)(T:List UInt8){wd:Int}(h1:1<=wd)(h2:wd<=8)(O:b.toNat<=T.length):
 AE (AD (a::d::f::g::i::b::T)) wd=
  if Om (a.toNat:Int) (Cz [d,f,g,i]) (T.take b.toNat) (T.drop b.toNat) (a::d::f::g::i::b::T) wd=true then
   ⟨(a.toNat:Int),Tp (a.toNat:Int) (T.drop b.toNat),AD (T.take b.toNat),Cz [d,f,g,i],Tq (a.toNat:Int) (T.drop b.toNat) wd,Tr (a.toNat:Int) (T.drop b.toNat) wd,true⟩
  else GW:=by
 cases hk:Eu (a.toNat:Int)with
 |false=>unfold AE;rw[if_pos (FO (by rw[Gz _ _ h1 h2,hk];rfl)),if_neg (by unfold Om;rw[WO hk];simp)]
 |true=>
  obtain⟨P,Q⟩:=WN hk;have j:=ZH a d f g i b T h1 h2 hk O;have m:=Ts a (d::f::g::i::b::T) h1 h2;have v:=Aad a d f g i (b::T) h1 h2 hk;have J:(AD (T.take b.toNat)).size=b.toNat:=by rw[BF];simp;omega
  have C:∀x:List UInt8,BZ (a.toNat:Int) (Cz [d,f,g,i]) ((AD (T.take b.toNat)).size:Int)++(AD (T.take b.toNat)).data.toList++x=(a::d::f::g::i::b::T)↔x=T.drop b.toNat:=by
   intro x;rw[J,Vg];constructor
   ·intro h;have M:T.take b.toNat++x=T:=by simpa using h
    have N:T.take b.toNat++x=T.take b.toNat++T.drop b.toNat:=by rw[M,List.take_append_drop]
    exact List.append_cancel_left N
   ·intro h;rw[h];simp
  generalize hs:(AD (a::d::f::g::i::b::T))=s at *
  generalize hnm:AD (T.take b.toNat)=name at *
  generalize hrs:T.drop b.toNat=rest at *
  generalize hn:Cz [d,f,g,i]=n at *
  by_cases hk1:a.toNat=1
  ·
   have w:DB (AN s wd)=false:=by rw[m,hk1];rfl
   have y:Cw (AN s wd)=true:=by rw[m,hk1];rfl
   have c:Bc s wd=(⟨#[]⟩,AD rest,false):=by unfold Bc;rw[if_neg (by rw[w];decide),j]
   have E:EP (AD rest) false=AD rest:=by unfold EP;rw[BF,DR _ _ (Zx)];simp
   have K:Jn (AD rest) false=⟨#[]⟩:=by unfold Jn;rw[BF,DR _ _ (Zx)];simp
   have G:FW (AD rest) false wd= !(rd (AD rest) wd).2.2:=by unfold FW;rw[E,BF,DR _ _ (Zx)];rfl
   have o:Ba s wd=((rd (AD rest) wd).1,(rd (AD rest) wd).2.1):=by unfold Ba;rw[if_pos y,c];simp only[E]
   have p:CH s wd=(⟨#[]⟩, !(rd (AD rest) wd).2.2):=by unfold CH;rw[if_pos y,c];simp only[K,G]
   have r:Jo s wd=Cg (a.toNat:Int) ⟨#[]⟩ name n (rd (AD rest) wd).1 (rd (AD rest) wd).2.1 wd:=by unfold Jo;rw[m,v,j,c,o]
   have q:CA s wd=(!(rd (AD rest) wd).2.2|| !Cg (a.toNat:Int) ⟨#[]⟩ name n (rd (AD rest) wd).1 (rd (AD rest) wd).2.1 wd):=by unfold CA Fw;rw[r,p];simp[ByteArray.size]
   have t:((a.toNat:Int)=1):=by omega
   unfold AE Om Tp Tq Tr;rw[if_pos t,if_pos t,if_pos t,hnm,q,m,c,j,v,o];simp only;cases k:Cg (a.toNat:Int) ⟨#[]⟩ name n (rd (AD rest) wd).1 (rd (AD rest) wd).2.1 wd with
   |false=>simp
   |true=>
    have A:=Le (l:=a::d::f::g::i::b::T) k;have L:=(DZ (Mr k)).dh hk1;have H:CR a.toNat ⟨#[]⟩ name n (rd (AD rest) wd).1 (rd (AD rest) wd).2.1=(a::d::f::g::i::b::T)↔BB (rd (AD rest) wd).1 (rd (AD rest) wd).2.1=rest:=by rw[←C];unfold CR;rw[if_pos hk1];simp
    rw[H]at A;have I:BB (rd (AD rest) wd).1 (rd (AD rest) wd).2.1=rest↔(rd (AD rest) wd).2.2=true:=by
     constructor
     ·intro e;have:=Pq L;rw[e]at this;rw[this]
     ·intro e;exact(UY e).2
    rw[I]at A;cases hr:(rd (AD rest) wd).2.2 with
    |true=>rw[if_neg (by simp),if_pos (by simp;exact A.2 hr)]
    |false=>rw[if_pos (by simp),if_neg (by simp;intro h;have:=A.1 h;rw[hr]at this;cases this)]
  ·have y:Cw (AN s wd)=false:=by rw[m];unfold Cw CC;simp[hk1]
   have t:¬((a.toNat:Int)=1):=by omega
   have o:Ba s wd=(⟨#[]⟩,[]):=by unfold Ba;rw[if_neg (by rw[y];decide)]
   have p:CH s wd=(Bc s wd).2:=by unfold CH;rw[if_neg (by rw[y];decide)]
   have u:∀B,Cg (a.toNat:Int) B name n ⟨#[]⟩ [] wd=true->B=AD rest->Cv (a.toNat:Int) B name n ⟨#[]⟩ [] wd=s:=by intro B k e;rw[←hs];refine(Le (l:=a::d::f::g::i::b::T) k).2 ?_;unfold CR;rw[if_neg hk1,e,List.append_nil];exact(C rest).2 rfl
   unfold AE Om Tp Tq Tr;rw[if_neg t,if_neg t,if_neg t,hnm,hs];cases hu:DA a.toNat with
   |true=>
    have w:DB (AN s wd)=true:=by rw[m];unfold DB;rw[hk,Int.toNat_natCast,hu];rfl
    have c:Bc s wd=Bd (AD rest) false wd:=by unfold Bc;rw[if_pos w,j]
    obtain⟨W,rfl⟩:∃W:Nat,wd=W:=⟨wd.toNat,by omega⟩;by_cases hsz:rest.length=W
    ·rw[DR rest W (by omega),Zt (by omega),List.drop_of_length_le (by omega)]at c;have r:Jo s W=Cg (a.toNat:Int) (AD rest) name n ⟨#[]⟩ [] W:=by unfold Jo;rw[m,v,j,c,o]
     have q:CA s W= !Cg (a.toNat:Int) (AD rest) name n ⟨#[]⟩ [] W:=by unfold CA Fw;rw[r,p,c];simp[ByteArray.size]
     rw[q,m,c,j,v,o];simp only;cases k:Cg (a.toNat:Int) (AD rest) name n ⟨#[]⟩ [] W with
     |false=>simp
     |true=>rw[if_neg (by simp),if_pos (by simp;exact u _ k rfl)]
    ·have z:Cg (a.toNat:Int) (AD rest) name n ⟨#[]⟩ [] W=false:=by
      cases k:Cg (a.toNat:Int) (AD rest) name n ⟨#[]⟩ [] W with
      |false=>rfl
      |true=>have:=Qe k;rw[hu]at this;unfold DN at this;rw[if_pos rfl,BF]at this;simp at this;omega
     have F:CA s W=true:=by
      unfold CA Fw;rw[p,c];by_cases hl:rest.length<W
      ·rw[ES rest _ (by omega)];simp
      ·rw[DR rest W (by omega)];have:(AD (rest.drop W)).size≠0:=by rw[BF];simp;omega
       simp[this]
     rw[if_pos F,if_neg (by rw[z];simp)]
   |false=>
    have w:DB (AN s wd)=false:=by rw[m];unfold DB;rw[hk,Int.toNat_natCast,hu];rfl
    have c:Bc s wd=(⟨#[]⟩,AD rest,false):=by unfold Bc;rw[if_neg (by rw[w];decide),j]
    by_cases hsz:rest.length=0
    ·have D:=Rf (by rw[BF];exact hsz);have r:Jo s wd=Cg (a.toNat:Int) (AD rest) name n ⟨#[]⟩ [] wd:=by unfold Jo;rw[m,v,j,c,o,D]
     have q:CA s wd= !Cg (a.toNat:Int) (AD rest) name n ⟨#[]⟩ [] wd:=by unfold CA Fw;rw[r,p,c];simp[BF,hsz]
     rw[q,m,c,j,v,o];simp only;cases k:Cg (a.toNat:Int) (AD rest) name n ⟨#[]⟩ [] wd with
     |false=>simp
     |true=>rw[if_neg (by simp),if_pos (by simp;exact u _ k rfl),D]
    ·have z:Cg (a.toNat:Int) (AD rest) name n ⟨#[]⟩ [] wd=false:=by
      cases k:Cg (a.toNat:Int) (AD rest) name n ⟨#[]⟩ [] wd with
      |false=>rfl
      |true=>have:=Qe k;rw[hu]at this;unfold DN at this;rw[if_neg (by decide),BF]at this;simp at this;simp[this]at hsz
     have F:CA s wd=true:=by
      unfold CA Fw;rw[p,c];have:(AD rest).size≠0:=by rw[BF];exact hsz
      simp[this]
     rw[if_pos F,if_neg (by rw[z];simp)]
end
def CI(s:Zi)(wd:Int)(w:Zh)(e:Ending)(w':Zh):Prop:=
 ∃v,e=.returned (.tuple #[.agg #[Zg (AE s wd).k,.string (AE s wd).sum,.string (AE s wd).name,Zg (AE s wd).n,.string (AE s wd).t,v],.bool (AE s wd).ok])/\
  w'.ownsRow w.heap.size 9 1 v (AE s wd).ss.length ((AE s wd).ss.map Value.string)/\Zz w w'
theorem Rg(s:Zi)(wd:Int)(w:Zh)(hs:s.size<=1048576)(he:Env w):
 Calls prog 125 #[.string s,Zg wd] w (CI s wd w):=by
 obtain⟨l,m⟩:∃l,l=w.alloc (.cells Ym 60):=⟨_,rfl⟩;have D:=(AG m).1;have W:=(AG m).2.1;have R0:=(AG m).2.2;obtain⟨c,n⟩:∃c,c=l.alloc (.cells #[.string s,Zf,.nilIface] 219):=⟨_,rfl⟩;have E:=(AG n).1;have zA:l.heap.size<c.heap.size:=by rw[n];simp
 have R1:Hid (Aa c w.heap.size Yl):=R0.below E;have S:Below w.heap.size w c:=D.trans (E.mono D.size);have Y:Hid (Env c):=he.below S;have ha:Hid (Nk l.heap.size):=fun g hg=>by have:=he.lt g hg;omega
 have x1:Hid (DG c l.heap.size s 0 false):=by refine⟨none,rfl,?_⟩;have:=Aa.new l [.string s,Zf,.nilIface] 219;rw[←n]at this;exact⟨(this 0 _ rfl).1,(this 1 _ rfl).1,(this 2 _ rfl).1,(this 0 _ rfl).2,(this 1 _ rfl).2,(this 2 _ rfl).2⟩
 have O:=Yx m;have P:=Yx n;obtain⟨b,hb⟩:∃b,b=l.heap.size:=⟨_,rfl⟩;have zF:w.heap.size<b:=by omega
 have HB:=Yx hb;rw[←hb]at ha x1 zA;clear m n he R0 hb D E;go_enter func125,ntmps125;go_upto_region 2 with fail;rw[←O.o,←P.o,←W,←HB.o];clear O P HB W;go_wp2_with fail;refine(Tk b s wd c x1.o Y.o ha.o hs).mono ?_;rintro e C ⟨v,rfl,ho,U,f⟩;obtain⟨ra,rc,hv,_⟩:=DF ho;subst hv;have zH:=f.size
 obtain⟨t,o⟩:∃t,t=C.alloc (.cells (Yp (AN s wd) ((Bc s wd).1) ((BK s wd).1) (EQ s wd) ((Ba s wd).1) ra ((Ba s wd).2.length) rc) 60):=⟨_,rfl⟩;have F:=(AG o).1;have zB:C.heap.size+1=t.heap.size:=by rw[o];simp
 have Z3:=(AG o).2.2;obtain⟨d,r⟩:∃d,d=t.alloc (.cells #[.pointer none] 221):=⟨_,rfl⟩;have G:=(AG r).1;have zC:t.heap.size<d.heap.size:=by rw[r];simp
 have A:=(AG r).2.2;have X:=Z3.below G;have i:Below C.heap.size C d:=F.trans (G.mono F.size);have a:=(R1.o.cw f (show b≠w.heap.size by omega)).below i;have e4:=(Y.o.ic f ha.o).below i;have r4:=U.below i;have o4:=(ho.kept (Au none i) (Classical.em _))
 have B4:Below w.heap.size w d:=S.trans (Below.trans (B:=w.heap.size) ⟨f.os,f.tape,f.output,f.size,fun k hk=>f.block k (by omega) (fun e=>by have:=Option.some.inj e;omega)⟩ (i.mono (by omega)));have Q:=Yx o;have R:=Yx r;have K:=Yx (Zn e4 (Zn o4 B4));obtain⟨x,J⟩:∃x,x=t.heap.size:=⟨_,rfl⟩;rw[←J]at A;have N:Hid (x=t.heap.size):=J;have zG:C.heap.size<x:=by omega
 clear J;clear o r F G i Z3 ho U f e4 o4 B4 R1 Y x1;go_upto_region 4 with fail;rw[←Q.o,←R.o,←N.o];clear Q R N zB zC;have zE:b<x:=by omega
 have I:w.heap.size<x:=by omega
 obtain⟨er,z,y0,y1,M,_,_,_⟩:=r4;cases er with
 |none=>
  have H:Hid (CA s wd=false):=z.symm;simp only[IA]at M;go_wp2_with fail;refine(XM _ d).mono ?_;rintro e L ⟨rfl,V⟩;rw[V];clear V L;obtain⟨z0,z1,z2,z3,z4,z5⟩:=Aa.c6 X 0 1 2 3 4 5;obtain⟨r0,q0⟩:=a 0 _ rfl;obtain⟨r1,q1⟩:=a 1 _ rfl;obtain⟨r2,q2⟩:=a 2 _ rfl;obtain⟨r3,q3⟩:=a 3 _ rfl;obtain⟨r4,q4⟩:=a 4 _ rfl;obtain⟨r5,q5⟩:=a 5 _ rfl;clear X a A y0 y1 M z;go_wp2
  refine bodyPost_ret (v:=.tuple #[.agg (Yp (AN s wd) ((Bc s wd).1) ((BK s wd).1) (EQ s wd) ((Ba s wd).1) ra ((Ba s wd).2.length) rc),.bool true]) (by simp[results,results125,go_sem, *]) rfl ?_;have Z:AE s wd=⟨AN s wd,(Bc s wd).1,(BK s wd).1,EQ s wd,(Ba s wd).1,(Ba s wd).2,true⟩:=by unfold AE;rw[if_neg (by rw[H.o];decide)]
  unfold CI;rw[Z];have T:w.heap.size<c.heap.size:=by omega
  refine⟨_,rfl,?_,?_⟩
  ·refine World.ownsRow.mono ?_ (Nat.le_of_lt T)
   iterate 6 (refine ownsRow_setCell_below ?_ T _)
   exact K.o.2.1
  ·iterate 6 (refine Below.setCell ?_ (show w.heap.size<=w.heap.size from Zx) _)
   exact K.o.2.2
 |some q=>
  have H:Hid (CA s wd=true):=z.symm;simp only[IA]at M;go_wp2_with fail;refine(XS q x (.pointer none) d K.o.1.ig (A 0 _ rfl).1 (A 0 _ rfl).2).mono ?_;rintro e L ⟨rfl,y⟩;have u:∀j v,d.cell? (Ze (w.heap.size) j)=some v->L.cell? (Ze (w.heap.size) j)=some v:=fun j v h=>(y.cell (p:=⟨w.heap.size,j,none⟩) I).trans h
  have h1:∀j,d.frozen? ⟨w.heap.size,j,none⟩=false->L.frozen? ⟨w.heap.size,j,none⟩=false:=fun j h=>(y.frozen (p:=⟨w.heap.size,j,none⟩) I).trans h;have r0:=u 0 _ (a 0 _ rfl).1;have r1:=u 1 _ (a 1 _ rfl).1;have r2:=u 2 _ (a 2 _ rfl).1;have r3:=u 3 _ (a 3 _ rfl).1;have r4:=u 4 _ (a 4 _ rfl).1;have r5:=u 5 _ (a 5 _ rfl).1;have q0:=h1 0 (a 0 _ rfl).2;have q1:=h1 1 (a 1 _ rfl).2
  have q2:=h1 2 (a 2 _ rfl).2;have q3:=h1 3 (a 3 _ rfl).2;have q4:=h1 4 (a 4 _ rfl).2;have q5:=h1 5 (a 5 _ rfl).2;have B5:=Yx (K.o.2.2.trans (y.mono (Nat.le_of_lt I)));clear u h1 X a A y0 y1 M z y;go_wp2;refine bodyPost_ret (v:=.tuple #[.agg Ym,.bool false]) (by simp[results,results125,go_sem, *]) rfl ?_;have Z:AE s wd=GW:=by unfold AE;rw[if_pos H.o]
  unfold CI;rw[Z];refine⟨Zc,rfl,World.ownsRow_nil _ _ _ _,?_⟩
  iterate 6 (refine Below.setCell ?_ (show w.heap.size<=w.heap.size from Zx) _)
  exact B5.o
end Go.Proofs.YtdgblkklkaklhaaGreatDoor
