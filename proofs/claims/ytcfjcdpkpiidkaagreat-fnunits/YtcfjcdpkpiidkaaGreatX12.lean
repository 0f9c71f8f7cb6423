import Derived.Test.YtcfjcdpkpiidkaaGreatX07
import Derived.BigRegion
set_option maxRecDepth 100000
set_option maxHeartbeats 16000000
namespace Go.Proofs.YtcfjcdpkpiidkaaGreat
open ChangeShapes WideShapes ChangeAt RowKit _root_.Go.Proofs.Tryz
variable{s b a t x:Zi}{wd n:Int}{k i:Nat}{c o xs O:Zl}{l:List UInt8}{w:Zh}{ks:List Kd}
section
structure ER where
 k:Int
 sum:Zi
 name:Zi
 n:Int
 t:Zi
 ss:Zl
 ok:Bool
def GY:ER:=⟨0,⟨#[]⟩,⟨#[]⟩,0,⟨#[]⟩,[],false⟩
def Bl(s:Zi)(wd:Int):ER:=
 if Dt s wd=true then GY else ⟨Hg s wd,(Ds s wd).1,(FG s wd).1,Ut s wd,(IP s wd).1,(IP s wd).2,true⟩
def RU(k:Int)(rest:List UInt8):Zi:=if k=1 then ⟨#[]⟩else AB rest
def RW(k:Int)(rest:List UInt8)(wd:Int):Zi:=if k=1 then (rd (AB rest) wd).1 else ⟨#[]⟩
def RY(k:Int)(rest:List UInt8)(wd:Int):Zl:=if k=1 then (rd (AB rest) wd).2.1 else []
def NE(k n:Int)(name rest l:List UInt8)(wd:Int):Bool:=
 Ca k (RU k rest) (AB name) n (RW k rest wd) (RY k rest wd) wd&&decide (Cw k (RU k rest) (AB name) n (RW k rest wd) (RY k rest wd) wd=AB l)
theorem DH(l:List UInt8)(n:Nat)(h:n<=l.length):CU (AB l) false n=(AB (l.take n),AB (l.drop n),false):=by unfold CU;rw[if_neg Yq,if_neg (by rw[BC];omega),Gi,Gi,BC];simp;exact Zt Yu
theorem Et(l:List UInt8)(n:Int)(h:(l.length:Int)<n):CU (AB l) false n=(⟨#[]⟩,AB l,true):=by unfold CU;rw[if_neg Yq,if_pos (by rw[BC];exact h)]
theorem FQ(r:Zi)(n:Int):CU r true n=(⟨#[]⟩,r,true):=by simp[CU]
theorem Ig(h:(FG s wd).2.2=true):Dt s wd=true:=by
 cases hb:Dt s wd with
 |true=>rfl
 |false=>
  unfold Dt at hb;have c:=(Bool.or_eq_false_iff.1 hb).1;unfold Kh at c;have a:=(Bool.or_eq_false_iff.1 c).1;have b:(Ds s wd).2.2=false:=by
   unfold Kg at a;split at a
   .simp only[MS]at a;exact Me (Bool.or_eq_false_iff.1 a).1
   .exact a
  have d:(FG s wd).2.2=false:=by
   unfold Ds at b;split at b
   .exact Me b
   .exact b
  rw[d]at h;cases h
theorem Kl(h:(Ic s wd).2.2=true):(FG s wd).2.2=true:=by unfold FG;rw[h,FQ]
theorem NF(h:(Ib s wd).2.2=true):(Ic s wd).2.2=true:=by unfold Ic;rw[h,FQ]
theorem Tt(h:Kf s wd=true):(Ib s wd).2.2=true:=by unfold Ib;rw[h,FQ]
theorem Fc(h:Kf s wd=true):Dt s wd=true:=Ig (Kl (NF (Tt h)))
theorem Tu(h:¬(1<=wd/\wd<=8)):Dt s wd=true:=by refine Fc ?_;unfold Kf Ke;rw[show Ns wd=true by unfold Ns;simp;omega,FQ];rfl
theorem Ux(h1:1<=wd)(h2:wd<=8):Ns wd=false:=by unfold Ns;simp[h1,h2]
theorem Uy(a:UInt8):ET [a]=(a.toNat:Int):=by simp[ET]
theorem Uz(a b c d:UInt8):ET [a,b,c,d]=(a.toNat:Int) *16777216+(b.toNat:Int) *65536+(c.toNat:Int) *256+(d.toNat:Int):=by simp only[ET,List.foldl_cons,List.foldl_nil];omega
section
variable {wd:Int} (h1:1<=wd) (h2:wd<=8)
theorem VW(h1:1<=wd)(h2:wd<=8):Dt (AB []) wd=true:=by refine Fc ?_;unfold Kf Ke;rw[Ux h1 h2,Et [] _ Yu];rfl
theorem Js(a:UInt8)(l:List UInt8)(h1:1<=wd)(h2:wd<=8):Ke (AB (a::l)) wd=(AB [a],AB l,false):=by unfold Ke;rw[Ux h1 h2,DH _ _ Yu];rfl
theorem RZ(a:UInt8)(l:List UInt8)(h1:1<=wd)(h2:wd<=8):Hg (AB (a::l)) wd=(a.toNat:Int):=by unfold Hg;rw[Js a l h1 h2];exact Uy a
theorem FY(a:UInt8)(l:List UInt8)(h1:1<=wd)(h2:wd<=8):Kf (AB (a::l)) wd= !Fw (a.toNat:Int):=by unfold Kf;rw[Js a l h1 h2,RZ a l h1 h2];rfl
theorem Tv(a:UInt8)(l:List UInt8)(h1:1<=wd)(h2:wd<=8)(b:l.length<4):Dt (AB (a::l)) wd=true:=by
 cases hk:Fw (a.toNat:Int)with
 |false=>exact Fc (by rw[FY a l h1 h2,hk];rfl)
 |true=>refine Ig (Kl (NF ?_));unfold Ib;rw[FY a l h1 h2,hk,Js a l h1 h2];rw[show(!true)=false from rfl,Et l _ Yv]
theorem Qq(a b c d e:UInt8)(l:List UInt8)(h1:1<=wd)(h2:wd<=8)(f:Fw (a.toNat:Int)=true):Ib (AB (a::b::c::d::e::l)) wd=(AB [b,c,d,e],AB l,false):=by unfold Ib;rw[FY _ _ h1 h2,f,Js _ _ h1 h2];rw[show(!true)=false from rfl,DH _ _ Yu];rfl
theorem Tw(a b c d e:UInt8)(h1:1<=wd)(h2:wd<=8)(f:Fw (a.toNat:Int)=true):Dt (AB [a,b,c,d,e]) wd=true:=by refine Ig (Kl ?_);unfold Ic;rw[Qq a b c d e [] h1 h2 f,Et [] _ Yu]
theorem Qr(a c d e f b:UInt8)(T:List UInt8)(h1:1<=wd)(h2:wd<=8)(g:Fw (a.toNat:Int)=true):Ic (AB (a::c::d::e::f::b::T)) wd=(AB [b],AB T,false):=by unfold Ic;rw[Qq a c d e f (b::T) h1 h2 g,DH _ _ Yu];rfl
theorem VX(b c d e f a:UInt8)(T:List UInt8)(h1:1<=wd)(h2:wd<=8)(g:Fw (b.toNat:Int)=true):VR (AB (b::c::d::e::f::a::T)) wd=(a.toNat:Int):=by unfold VR;rw[Qr b c d e f a T h1 h2 g];exact Uy a
theorem Tx(a c d e f b:UInt8)(T:List UInt8)(h1:1<=wd)(h2:wd<=8)(g:Fw (a.toNat:Int)=true)(h:T.length<b.toNat):Dt (AB (a::c::d::e::f::b::T)) wd=true:=by refine Ig ?_;unfold FG;rw[VX a c d e f b T h1 h2 g,Qr a c d e f b T h1 h2 g,Et T _ Yv]
theorem WA(b c d e f a:UInt8)(T:List UInt8)(h1:1<=wd)(h2:wd<=8)(g:Fw (b.toNat:Int)=true)(h:a.toNat<=T.length):FG (AB (b::c::d::e::f::a::T)) wd=(AB (T.take a.toNat),AB (T.drop a.toNat),false):=by unfold FG;rw[VX b c d e f a T h1 h2 g,Qr b c d e f a T h1 h2 g,DH T _ h]
theorem WR(a b c d e:UInt8)(l:List UInt8)(h1:1<=wd)(h2:wd<=8)(f:Fw (a.toNat:Int)=true):Ut (AB (a::b::c::d::e::l)) wd=ET [b,c,d,e]:=by unfold Ut;rw[Qq a b c d e l h1 h2 f]
theorem FZ(a:UInt8)(x:Int)(h:x=(a.toNat:Int)):u8 x=a:=by subst h;simp[u8]
theorem Tz(e a b c d f:UInt8):CF (e.toNat:Int) (ET [a,b,c,d]) (f.toNat:Int)=[e,a,b,c,d,f]:=by have g:=a.toNat_lt;have h:=b.toNat_lt;have i:=c.toNat_lt;have j:=d.toNat_lt;unfold CF;rw[Uz];rw[FZ e _ rfl,FZ f _ rfl,FZ a _ Yv,FZ b _ Yv,FZ c _ Yv,FZ d _ Yv]
end
theorem Vf(h:Fw (k:Int)=true):1<=k/\k<=7:=by unfold Fw at h;simp at h;omega
theorem Vg{k:Int}(h:Fw k=false):Ca k b a n t c wd=false:=by unfold Ca;unfold Fw at h;rw[h];rfl
theorem Mh(h:Ca (k:Int) b a n t c wd=true):Ei k b a n t c wd=true:=by unfold Ca at h;exact(Bool.and_eq_true_iff.1 h).2
theorem Pz{d:Zl}(h:Ca (k:Int) b a n t d wd=true):Eh (JZ k) b wd=true:=by have c:=Mh h;unfold Ei at c;exact(Bool.and_eq_true_iff.1 (Bool.and_eq_true_iff.1 c).2).1
theorem Qs(h:(AB l).size=0):AB l=⟨#[]⟩:=by rw[BC]at h;rw[List.eq_nil_of_length_eq_zero h]
theorem KP(h:Ca (k:Int) b a n t c wd=true):Cw k b a n t c wd=AB l↔DG k b a n t c=l:=by
 unfold Cw;rw[if_pos h,Int.toNat_natCast];constructor
 .intro e;have:=congrArg (fun s:Zi=>s.data.toList) e;simpa using this
 .intro e;rw[e]
theorem Mi(a d f g i b:UInt8)(T:List UInt8)(h1:1<=wd)(h2:wd<=8)(Q:b.toNat<=T.length):
 Bl (AB (a::d::f::g::i::b::T)) wd=
  if NE (a.toNat:Int) (ET [d,f,g,i]) (T.take b.toNat) (T.drop b.toNat) (a::d::f::g::i::b::T) wd=true then
   ⟨(a.toNat:Int),RU (a.toNat:Int) (T.drop b.toNat),AB (T.take b.toNat),ET [d,f,g,i],RW (a.toNat:Int) (T.drop b.toNat) wd,RY (a.toNat:Int) (T.drop b.toNat) wd,true⟩
  else GY:=by
 cases hk:Fw (a.toNat:Int)with
 |false=>unfold Bl;rw[if_pos (Fc (by rw[FY _ _ h1 h2,hk];rfl)),if_neg (by unfold NE;rw[Vg hk];simp)]
 |true=>
  obtain⟨R,S⟩:=Vf hk;have j:=WA a d f g i b T h1 h2 hk Q;have m:=RZ a (d::f::g::i::b::T) h1 h2;have y:=WR a d f g i (b::T) h1 h2 hk;have L:(AB (T.take b.toNat)).size=b.toNat:=by rw[BC];simp;omega
  have E:∀x:List UInt8,CF (a.toNat:Int) (ET [d,f,g,i]) ((AB (T.take b.toNat)).size:Int)++(AB (T.take b.toNat)).data.toList++x=(a::d::f::g::i::b::T)↔x=T.drop b.toNat:=by
   intro x;rw[L,Tz];constructor
   .intro h;have O:T.take b.toNat++x=T:=by simpa using h
    have P:T.take b.toNat++x=T.take b.toNat++T.drop b.toNat:=by rw[O,List.take_append_drop]
    exact List.append_cancel_left P
   .intro h;rw[h];simp
  generalize hs:(AB (a::d::f::g::i::b::T))=s at *
  generalize hnm:AB (T.take b.toNat)=name at *
  generalize hrs:T.drop b.toNat=rest at *
  generalize hn:ET [d,f,g,i]=n at *
  by_cases hk1:a.toNat=1
  .
   have z:Lw (Hg s wd)=false:=by rw[m,hk1];rfl
   have A:IN (Hg s wd)=true:=by rw[m,hk1];rfl
   have c:Ds s wd=(⟨#[]⟩,AB rest,false):=by unfold Ds;rw[if_neg (by rw[z];decide),j]
   have G:Nq (AB rest) false=AB rest:=by unfold Nq;rw[BC,DH _ _ (Zx)];simp
   have M:Nr (AB rest) false=⟨#[]⟩:=by unfold Nr;rw[BC,DH _ _ (Zx)];simp
   have I:MS (AB rest) false wd= !(rd (AB rest) wd).2.2:=by unfold MS;rw[G,BC,DH _ _ (Zx)];rfl
   have o:IP s wd=((rd (AB rest) wd).1,(rd (AB rest) wd).2.1):=by unfold IP;rw[if_pos A,c];simp only[G]
   have q:Kg s wd=(⟨#[]⟩, !(rd (AB rest) wd).2.2):=by unfold Kg;rw[if_pos A,c];simp only[M,I]
   have t:Lx s wd=Ca (a.toNat:Int) ⟨#[]⟩ name n (rd (AB rest) wd).1 (rd (AB rest) wd).2.1 wd:=by unfold Lx;rw[m,y,j,c,o]
   have r:Dt s wd=(!(rd (AB rest) wd).2.2|| !Ca (a.toNat:Int) ⟨#[]⟩ name n (rd (AB rest) wd).1 (rd (AB rest) wd).2.1 wd):=by unfold Dt Kh;rw[t,q];simp[ByteArray.size]
   have u:((a.toNat:Int)=1):=Yv
   unfold Bl NE RU RW RY;rw[if_pos u,if_pos u,if_pos u,hnm,r,m,c,j,y,o];simp only;cases k:Ca (a.toNat:Int) ⟨#[]⟩ name n (rd (AB rest) wd).1 (rd (AB rest) wd).2.1 wd with
   |false=>simp
   |true=>
    have C:=KP (l:=a::d::f::g::i::b::T) k;have N:=(Fp (Mh k)).du hk1;have J:DG a.toNat ⟨#[]⟩ name n (rd (AB rest) wd).1 (rd (AB rest) wd).2.1=(a::d::f::g::i::b::T)↔BP (rd (AB rest) wd).1 (rd (AB rest) wd).2.1=rest:=by rw[<-E];unfold DG;rw[if_pos hk1];simp
    rw[J]at C;have K:BP (rd (AB rest) wd).1 (rd (AB rest) wd).2.1=rest↔(rd (AB rest) wd).2.2=true:=by
     constructor
     .intro e;have:=OK N;rw[e]at this;rw[this]
     .intro e;exact(Tf e).2
    rw[K]at C;cases hr:(rd (AB rest) wd).2.2 with
    |true=>rw[if_neg Yu,if_pos (by simp;exact C.2 hr)]
    |false=>rw[if_pos Yu,if_neg (by simp;intro h;have:=C.1 h;rw[hr]at this;cases this)]
  .have A:IN (Hg s wd)=false:=by rw[m];unfold IN He;simp[hk1]
   have u:¬((a.toNat:Int)=1):=Yv
   have o:IP s wd=(⟨#[]⟩,[]):=by unfold IP;rw[if_neg (by rw[A];decide)]
   have q:Kg s wd=(Ds s wd).2:=by unfold Kg;rw[if_neg (by rw[A];decide)]
   have v:∀D,Ca (a.toNat:Int) D name n ⟨#[]⟩ [] wd=true->D=AB rest->Cw (a.toNat:Int) D name n ⟨#[]⟩ [] wd=s:=by intro D k e;rw[<-hs];refine(KP (l:=a::d::f::g::i::b::T) k).2 ?_;unfold DG;rw[if_neg hk1,e,List.append_nil];exact(E rest).2 rfl
   unfold Bl NE RU RW RY;rw[if_neg u,if_neg u,if_neg u,hnm,hs];cases hu:JZ a.toNat with
   |true=>
    have z:Lw (Hg s wd)=true:=by rw[m];unfold Lw;rw[hk,Int.toNat_natCast,hu];rfl
    have c:Ds s wd=CU (AB rest) false wd:=by unfold Ds;rw[if_pos z,j]
    obtain⟨W,rfl⟩:∃W:Nat,wd=W:=⟨wd.toNat,Yv⟩;by_cases hsz:rest.length=W
    .rw[DH rest W Yv,Zt Yv,List.drop_of_length_le Yv]at c;have t:Lx s W=Ca (a.toNat:Int) (AB rest) name n ⟨#[]⟩ [] W:=by unfold Lx;rw[m,y,j,c,o]
     have r:Dt s W= !Ca (a.toNat:Int) (AB rest) name n ⟨#[]⟩ [] W:=by unfold Dt Kh;rw[t,q,c];simp[ByteArray.size]
     rw[r,m,c,j,y,o];simp only;cases k:Ca (a.toNat:Int) (AB rest) name n ⟨#[]⟩ [] W with
     |false=>simp
     |true=>rw[if_neg Yu,if_pos (by simp;exact v _ k rfl)]
    .have B:Ca (a.toNat:Int) (AB rest) name n ⟨#[]⟩ [] W=false:=by
      cases k:Ca (a.toNat:Int) (AB rest) name n ⟨#[]⟩ [] W with
      |false=>rfl
      |true=>have:=Pz k;rw[hu]at this;unfold Eh at this;rw[if_pos rfl,BC]at this;simp at this;omega
     have H:Dt s W=true:=by
      unfold Dt Kh;rw[q,c];by_cases hl:rest.length<W
      .rw[Et rest _ Yv];simp
      .rw[DH rest W Yv];have:(AB (rest.drop W)).size≠0:=by rw[BC];simp;omega
       simp[this]
     rw[if_pos H,if_neg (by rw[B];simp)]
   |false=>
    have z:Lw (Hg s wd)=false:=by rw[m];unfold Lw;rw[hk,Int.toNat_natCast,hu];rfl
    have c:Ds s wd=(⟨#[]⟩,AB rest,false):=by unfold Ds;rw[if_neg (by rw[z];decide),j]
    by_cases hsz:rest.length=0
    .have F:=Qs (by rw[BC];exact hsz);have t:Lx s wd=Ca (a.toNat:Int) (AB rest) name n ⟨#[]⟩ [] wd:=by unfold Lx;rw[m,y,j,c,o,F]
     have r:Dt s wd= !Ca (a.toNat:Int) (AB rest) name n ⟨#[]⟩ [] wd:=by unfold Dt Kh;rw[t,q,c];simp[BC,hsz]
     rw[r,m,c,j,y,o];simp only;cases k:Ca (a.toNat:Int) (AB rest) name n ⟨#[]⟩ [] wd with
     |false=>simp
     |true=>rw[if_neg Yu,if_pos (by simp;exact v _ k rfl),F]
    .have B:Ca (a.toNat:Int) (AB rest) name n ⟨#[]⟩ [] wd=false:=by
      cases k:Ca (a.toNat:Int) (AB rest) name n ⟨#[]⟩ [] wd with
      |false=>rfl
      |true=>have:=Pz k;rw[hu]at this;unfold Eh at this;rw[if_neg Yq,BC]at this;simp at this;simp[this]at hsz
     have H:Dt s wd=true:=by
      unfold Dt Kh;rw[q,c];have:(AB rest).size≠0:=by rw[BC];exact hsz
      simp[this]
     rw[if_pos H,if_neg (by rw[B];simp)]
end
def DA(s:Zi)(wd:Int)(w:Zh)(e:Ending)(w':Zh):Prop:=
 ∃v,e=.returned (.tuple #[.agg #[Zg (Bl s wd).k,.string (Bl s wd).sum,.string (Bl s wd).name,Zg (Bl s wd).n,.string (Bl s wd).t,v],.bool (Bl s wd).ok])/\
  w'.ownsRow w.heap.size 9 1 v (Bl s wd).ss.length ((Bl s wd).ss.map Value.string)/\Zz w w'
theorem Ih(n:Int)(w:Zh):
 Calls prog 14 #[Zg n] w fun e a=>e=.returned (.bool (decide (1<=n/\n<=8)))/\a=w:=by
 by_cases h1:1<=n
 .by_cases h2:n<=8
  .go_enter func14,ntmps14;go_wp2;go_ret;exact⟨AE (by simp[h1,h2]),rfl⟩
  .have c:decide (n<=8)=false:=by simpa using h2
   go_enter func14,ntmps14;go_wp2;go_ret;exact⟨rfl,rfl⟩
 .have b:decide (1<=n)=false:=by simpa using h1
  go_enter func14,ntmps14;go_wp2;go_ret;exact⟨rfl,rfl⟩
theorem Mj(h:¬(1<=wd/\wd<=8)):Bl s wd=GY:=by unfold Bl;rw[if_pos (Tu h)]
theorem Mk(h1:1<=wd)(h2:wd<=8)(b:l.length<6):Bl (AB l) wd=GY:=by
 unfold Bl;rw[if_pos]
 match l,b with
 |[],_=>exact VW h1 h2
 |a::l,b=>
  by_cases h4:l.length<4
  .exact Tv a l h1 h2 h4
  .cases hk:Fw (a.toNat:Int)with
   |false=>exact Fc (by rw[FY _ _ h1 h2,hk];rfl)
   |true=>
    match l,b,h4 with
    |[a1,a2,a3,a4],_,_=>exact Tw a a1 a2 a3 a4 h1 h2 hk
    |[],_,h4=>simp at h4
    |[_],_,h4=>simp at h4
    |[_,_],_,h4=>simp at h4
    |[_,_,_],_,h4=>simp at h4
theorem NG{a c d e f b:UInt8}{T:List UInt8}(h1:1<=wd)(h2:wd<=8)(g:T.length<b.toNat):Bl (AB (a::c::d::e::f::b::T)) wd=GY:=by
 unfold Bl;rw[if_pos];cases hk:Fw (a.toNat:Int)with
 |false=>exact Fc (by rw[FY _ _ h1 h2,hk];rfl)
 |true=>exact Tx a c d e f b T h1 h2 hk g
theorem Gn{a:Zh}(h:Bl s wd=GY)(b:Zz w a):DA s wd w (.returned (.tuple #[.agg Ya,.bool false])) a:=by unfold DA;rw[h];exact⟨Zb,rfl,World.ownsRow_nil _ _ _ _,b⟩
theorem Qt(s:Zi)(wd:Int)(w:Zh)(h:¬(1<=wd/\wd<=8)):
 Calls prog 97 #[.string s,Zg wd] w (DA s wd w):=by
 have c:decide (1<=wd/\wd<=8)=false:=by simpa using h
 have HN:=Yw (Mj (s:=s) h);clear h;go_enter func97,ntmps97;go_wp2_with (go_at_call 14;refine(Ih wd _).mono ?_;rintro e b ⟨rfl,a⟩;rw[a];clear a b);exact bodyPost_ret (v:=.tuple #[.agg Ya,.bool false]) (by simp[results,results97,go_sem]) rfl (Gn HN.o (Zy))
theorem Qu(s:Zi)(wd:Int)(w:Zh)(h1:1<=wd)(h2:wd<=8)(b:s.size<6):
 Calls prog 97 #[.string s,Zg wd] w (DA s wd w):=by
 have f:decide (1<=wd/\wd<=8)=true:=by simp[h1,h2]
 have d:decide ((s.size:Int)<6)=true:=Yt
 have HN:=Yw (Mk (l:=s.data.toList) h1 h2 b);go_enter func97,ntmps97;go_wp2_with (go_at_call 14;refine(Ih wd _).mono ?_;rintro e c ⟨rfl,a⟩;rw[a];clear a c);exact bodyPost_ret (v:=.tuple #[.agg Ya,.bool false]) (by simp[results,results97,go_sem]) rfl (Gn HN.o (Zy))
theorem Qv(s:Zi)(wd:Int)(w:Zh)(o:s.size<=1048576)(h1:1<=wd)(h2:wd<=8)(a:Nat)(l:6<=s.size)(c:s[5].toNat=a)(d:Bl s wd=GY)(n:s.size<6+a):
 Calls prog 97 #[.string s,Zg wd] w (DA s wd w):=by
 have m:decide (1<=wd/\wd<=8)=true:=by simp[h1,h2]
 have h:decide ((s.size:Int)<6)=false:=Yt
 have j:(5:Int)<s.size:=Yv
 have i:decide ((s.size:Int)<6+(a:Int))=true:=Yt
 have k:a<256:=by rw[<-c];exact s[5].toNat_lt
 have f:=Cp s[5];rw[c]at f;have HN:=Yw d;clear d;go_enter func97,ntmps97;go_wp2_with (go_at_call 14;refine(Ih wd _).mono ?_;rintro e g ⟨rfl,b⟩;rw[b];clear b g);exact bodyPost_ret (v:=.tuple #[.agg Ya,.bool false]) (by simp[results,results97,go_sem]) rfl (Gn HN.o (Zy))
theorem Qw(s:Zi)(wd:Int)(b u x A Z j:Nat)(w:Zh)(hs:s.size<=1048576)(h1:1<=wd)(h2:wd<=8)(h6:6<=s.size)(L:s[0].toNat=b)(M:s[1].toNat=u)(N:s[2].toNat=x)(O:s[3].toNat=A)(P:s[4].toNat=Z)(g5:s[5].toNat=j)(hf:6+j<=s.size)(a l:Zi)(zM:s.extract 6 (6+j)=a)(zP:s.extract (6+j) s.size=l)(n:Int)(hn:(u:Int) *16777216+(x:Int) *65536+(A:Int) *256+(Z:Int)=n)(g f:Zi)(c:Zl)(zR:g=if (b:Int)=1 then ⟨#[]⟩else l)(zU:f=if (b:Int)=1 then (rd l wd).1 else ⟨#[]⟩)(zO:c=if (b:Int)=1 then (rd l wd).2.1 else [])(hR:Bl s wd=if (Ca b g a n f c wd&&decide (Cw b g a n f c wd=s))=true then ⟨b,g,a,n,f,c,true⟩else GY):
 Calls prog 97 #[.string s,Zg wd] w (DA s wd w):=by
 have hd:decide (1<=wd/\wd<=8)=true:=by simp[h1,h2]
 have zH:decide ((s.size:Int)<6)=false:=Yt
 have l5:(5:Int)<s.size:=Yv
 have zI:decide ((s.size:Int)<6+(j:Int))=false:=Yt
 have b0:b<256:=by rw[<-L];exact s[0].toNat_lt
 have b1:u<256:=by rw[<-M];exact s[1].toNat_lt
 have b2:x<256:=by rw[<-N];exact s[2].toNat_lt
 have b3:A<256:=by rw[<-O];exact s[3].toNat_lt
 have b4:Z<256:=by rw[<-P];exact s[4].toNat_lt
 have b5:j<256:=by rw[<-g5];exact s[5].toNat_lt
 have w0:=Cp s[0];have w1:=Cp s[1];have w2:=Cp s[2];have w3:=Cp s[3];have w4:=Cp s[4];have T:=Cp s[5];rw[L]at w0;rw[M]at w1;rw[N]at w2;rw[O]at w3;rw[P]at w4;rw[g5]at T;have zA:=Yw (Zn b0 (Zn b1 (Zn b2 (Zn b3 b4))));have zF:=Yw (Zn w0 (Zn w1 (Zn w2 (Zn w3 w4))));have zB:=Yw (Zn L (Zn M (Zn N (Zn O P))));have HX:=Yw (Zn hs (Zn h1 h2));have d:=Yw (Zn zM (Zn zP (Zn hn (Zn zR (Zn zU (Zn zO hR))))))
 clear zM zP hn zR zU zO hR;clear b0 b1 b2 b3 b4 w0 w1 w2 w3 w4 L M N O P;obtain⟨W,R⟩:=Af (w.alloc (.cells Ya 118));have zW:=(AL R).1;have hz:w.heap.size<W.heap.size:=by rw[R];simp
 have R0:Hid (Aa W _ _):=(AL R).2.2;have HW:=Yw R;clear R;go_enter func97,ntmps97;go_upto_region 1 with fail;rw[<-HW.o];clear HW;go_upto_region 3 with(go_at_call 14;refine(Ih wd _).mono ?_;rintro e w' ⟨rfl,zV⟩;rw[zV];clear zV w');go_cut [6] (fun v H=>v=Yy W.heap.size/\H=(W.alloc (.cells #[Zg (b:Int),Zc,Zc,Zg n,Zc,Zb] 118)).drew)
 case first=>
  obtain⟨b0,b1,b2,b3,b4⟩:=zA.o;have m1:=FO ((u:Int) *16777216) Yv Yv;have m2:=FO ((x:Int) *65536) Yv Yv;have m3:=FO ((A:Int) *256) Yv Yv;have p1:=FO ((u:Int) *16777216+(x:Int) *65536) Yv Yv;have p2:=FO ((u:Int) *16777216+(x:Int) *65536+(A:Int) *256) Yv Yv
  have p3:=FO ((u:Int) *16777216+(x:Int) *65536+(A:Int) *256+(Z:Int)) Yv Yv;have l0:(0:Int)<s.size:=Yv
  have l1:(1:Int)<s.size:=Yv
  have l2:(2:Int)<s.size:=Yv
  have l3:(3:Int)<s.size:=Yv
  have l4:(4:Int)<s.size:=Yv
  obtain⟨w0,w1,w2,w3,w4⟩:=zF.o;obtain⟨L,M,N,O,P⟩:=zB.o;clear b0 b1 b2 b3 b4 b5 zI zH hd;have H5:=Yw (Zn g5 (Zn T l5));clear T l5
  go_big_region
  go_wp2_with fail;go_meet;exact⟨rfl,by rw[d.o.2.2.1]⟩
 case rest=>
 revert wc;intro W3 hcut;obtain⟨rfl,X⟩:=hcut;have zY:=hf;clear b5 zI zH hd zA zF zB HX;have Y:Below W.heap.size W W3:=by rw[X];exact(Zy).drew
 have Z3:Aa W3 W.heap.size [Zg (b:Int),Zc,Zc,Zg n,Zc,Zb]:=by rw[X];exact Aa.new W _ _
 have R3:=R0.o.below Y;have B3:=zW.trans (Y.mono (Nat.le_of_lt hz));obtain⟨B,hB⟩:=Af W.heap.size;rw[<-hB]at Z3;have HB:=Yw hB;obtain⟨z,yB⟩:=Z3 2 _ rfl;have G:w.heap.size<B:=Yv
 obtain⟨D,q⟩:=Af (W3.setCell (Zd B 2) (.string a));have E:Hid (Aa D B [Zg (b:Int),Zc,.string a,Zg n,Zc,Zb]):=by rw[q];exact Z3.set 2 _
 have R4:Hid (Aa D w.heap.size Xy):=by rw[q];exact R3.au (AY _ _ _ _) Yv
 have B4:Hid (Zz w D):=by rw[q];exact B3.setCell (p:=⟨B,2,none⟩) (Nat.le_of_lt G) _
 have zE:=Yw q;have Hn:=Yw d.o.1;have Hr:=Yw d.o.2.1;rw[<-hB];clear X Y q R3 B3 hB Z3;have e6:((6:Int)+(j:Int)).toNat=6+j:=Yv
 have u1:(6:Int)<=6+(j:Int):=Yv
 have u2:(6:Int)+(j:Int)<=(s.size:Int):=Yv
 go_upto_region 6 with fail;rw[Hn.o,Hr.o,<-zE.o];have zS:l.size<=1048576:=by rw[<-Hr.o];simp;omega
 have yA:a.size<=1048576:=by rw[<-Hn.o];simp;omega
 have zX:=HB.o.symm;clear zE Hn Hr z yB e6 u1 u2 T l5 R0 zW hz zX HB;clear g5;clear hf zY h6;have HX:=Yw (Zn hs (Zn h1 h2));clear hs h1 h2;obtain⟨o,_⟩:=E.o 0 _ rfl
 go_upto_if 63 with fail
 go_cut [] (fun H=>∃(i:Zk) (k:Nat),Hid (Aa H B (Xz (b:Int) g a n f i c.length k))/\Hid (Aa H w.heap.size Xy)/\Hid (H.ownsRow (w.heap.size+1) 9 1 (.slice i c.length k) c.length (c.map Value.string))/\Hid (Zz w H))
 case first=>
  by_cases hk:(b:Int)=1
  .have e1:Hid (g=⟨#[]⟩):=by show _=_;rw[d.o.2.2.2.1,if_pos hk]
   have e2:Hid (f=(rd l wd).1):=by show _=_;rw[d.o.2.2.2.2.1,if_pos hk]
   have e3:Hid (c=(rd l wd).2.1):=by show _=_;rw[d.o.2.2.2.2.2.1,if_pos hk]
   have hq:((b:Int)==1)=true:=by simpa using hk
   have HK:=Yw hk;clear hk;go_wp2_with fail;have HR:=Ry l wd D zS;unfold Fb at HR;refine HR.mono ?_;rintro e T ⟨v,rfl,ho,F⟩;rw[<-e3.o]at ho;rw[<-e2.o];obtain⟨i,k,hv,_⟩:=IK ho;subst hv;have Z5:=Aa.below E.o F;have R5:=Aa.below R4.o F;have zG:=E.o.lt;obtain⟨J,yE⟩:=Z5 4 _ rfl;obtain⟨K,yF⟩:=Z5 5 _ rfl;have B5:=B4.o.trans (F.mono B4.o.size);clear HR F o hq;go_wp2_with fail;go_meet
   refine⟨i,k,?_,?_,?_,?_⟩
   .rw[e1.o];exact(Z5.set 4 _).set 5 _
   .exact(R5.au (AY _ B 4 _) Yv).au (AY _ B 5 _) Yv
   .exact(ownsRow_setCell_below (ownsRow_setCell_below ho zG _) zG _).mono Yv
   .exact(B5.setCell (p:=⟨B,4,none⟩) (Nat.le_of_lt G) _).setCell (p:=⟨B,5,none⟩) (Nat.le_of_lt G) _
  .have e1:Hid (g=l):=by show _=_;rw[d.o.2.2.2.1,if_neg hk]
   have e2:Hid (f=⟨#[]⟩):=by show _=_;rw[d.o.2.2.2.2.1,if_neg hk]
   have e3:Hid (c=[]):=by show _=_;rw[d.o.2.2.2.2.2.1,if_neg hk]
   have hq:((b:Int)==1)=false:=by simpa using hk
   obtain⟨I,yD⟩:=E.o 1 _ rfl;have HK:=Yw hk;clear hk;go_wp2_with fail;go_meet;refine⟨none,0,?_,?_,?_,?_⟩
   .rw[e1.o,e2.o,e3.o];exact E.o.set 1 _
   .exact R4.o.au (AY _ B 1 _) Yv
   .rw[e3.o];exact World.ownsRow_nil _ _ _ _
   .exact B4.o.setCell (p:=⟨B,1,none⟩) (Nat.le_of_lt G) _
 case rest=>
 revert wc;intro w6 hcut;obtain⟨i,k,Z6,R6,O6,B6⟩:=hcut;clear E R4 B4 o;obtain⟨o,I,z,U,J,K⟩:=Aa.c6 Z6.o 0 1 2 3 4 5;have zN:c.length<=255:=by
  rw[d.o.2.2.2.2.2.1];split
  .exact Wy _ _
  .exact Nat.zero_le _
 have zT:f.size<=maxLen:=by
  rw[d.o.2.2.2.2.1];unfold maxLen;split
  .have:=UZ l wd;omega
  .exact Nat.zero_le _
 have zK:a.size<=maxLen:=Yo
 have V:Hid (Ab w6 w6.heap.size i c):=by obtain⟨a',c',hv,hr⟩:=IK O6.o;cases hv;exact hr
 have C:=Yw (Zn zN (Zn zT zK));clear zN zT zK zS yA;go_wp2_with fail;refine(Te (b:Int) g a n f i k c wd w6 V.o (by have:=C.o.1;omega) C.o.2.1 C.o.2.2).mono ?_;rintro e w7 ⟨rfl,m⟩;have Z7:Hid (Aa w7 B (Xz (b:Int) g a n f i c.length k)):=Z6.o.below m;have y:Hid (Aa w7 w.heap.size Xy):=R6.o.below m
 have O7:Hid (w7.ownsRow (w.heap.size+1) 9 1 (.slice i c.length k) c.length (c.map Value.string)):=O6.o.kept (Ak none m) (Classical.em _);have B7:=Yw (B6.o.trans (m.mono B6.o.size));have S7:=Yw (Ab.L V.o m);clear Z6 R6 O6 B6 V m o I z U J K;obtain⟨o,I,z,U,J,K⟩:=Aa.c6 Z7.o 0 1 2 3 4 5;cases hok:Ca (b:Int) g a n f c wd with
 |false=>
  have Q:Hid (Bl s wd=GY):=by show _=_;rw[d.o.2.2.2.2.2.2,if_neg (by rw[hok];simp)]
  obtain⟨r0,q0⟩:=y.o 0 _ rfl;obtain⟨r1,q1⟩:=y.o 1 _ rfl;obtain⟨r2,q2⟩:=y.o 2 _ rfl;obtain⟨r3,q3⟩:=y.o 3 _ rfl;obtain⟨r4,q4⟩:=y.o 4 _ rfl;obtain⟨r5,q5⟩:=y.o 5 _ rfl;clear o I z U J K hok;go_wp2;refine bodyPost_ret (v:=.tuple #[.agg Ya,.bool false]) (by simp[results,results97,go_sem, *]) rfl ?_;refine Gn Q.o ?_
  iterate 6 (refine Below.setCell ?_ (show w.heap.size<=w.heap.size from Zx) _)
  exact B7.o
 |true=>
  have zC:=Yw hok;clear hok;go_wp2_with fail;refine(Ng (b:Int) g a n f i k c wd w7 S7.o (by have:=C.o.1;omega) C.o.2.1 C.o.2.2).mono ?_;rintro e w8 ⟨rfl,r⟩;have Z8:=Z7.o.below r;have R8:=y.o.below r;have O8:=O7.o.kept (Ak none r) (Classical.em _);have B8:=B7.o.trans (r.mono B7.o.size);clear o I z U J K;obtain⟨o,I,z,U,J,K⟩:=Aa.c6 Z8 0 1 2 3 4 5;obtain⟨r0,q0⟩:=R8 0 _ rfl;obtain⟨r1,q1⟩:=R8 1 _ rfl
  obtain⟨r2,q2⟩:=R8 2 _ rfl;obtain⟨r3,q3⟩:=R8 3 _ rfl;obtain⟨r4,q4⟩:=R8 4 _ rfl;obtain⟨r5,q5⟩:=R8 5 _ rfl;have HC:=Yw (Zn O8 B8);clear Z8 R8 O8 B8 r;obtain⟨S,t⟩:=Af (Cw (b:Int) g a n f c wd);rw[<-t];by_cases heq:S=s
  .have Q:Hid (Bl s wd=⟨b,g,a,n,f,c,true⟩):=by show _=_;rw[d.o.2.2.2.2.2.2,if_pos (by rw[zC.o,<-t,heq];simp)]
   subst heq;clear t;go_wp2;refine bodyPost_ret (v:=.tuple #[.agg (Yd (b:Int) g a n f i c.length k),.bool true]) (by simp[results,results97,go_sem, *]) rfl ?_;unfold DA;rw[Q.o];have zJ:w.heap.size<w.heap.size+1:=Nat.lt_succ_self _;refine⟨_,rfl,?_,?_⟩
   .refine World.ownsRow.mono ?_ (Nat.le_of_lt zJ)
    iterate 6 (refine ownsRow_setCell_below ?_ zJ _)
    exact HC.o.1
   .iterate 6 (refine Below.setCell ?_ (show w.heap.size<=w.heap.size from Zx) _)
    exact HC.o.2
  .have Q:Hid (Bl s wd=GY):=by show _=_;rw[d.o.2.2.2.2.2.2,if_neg (by rw[zC.o,<-t];simpa using heq)]
   have zZ:(S.toList==s.toList)=false:=by rw[beq_eq_false_iff_ne];intro h;rw[ByteArray.toList_eq,ByteArray.toList_eq]at h;exact heq (ByteArray.ext (Array.toList_inj.1 h))
   have yC:(S.toList !=s.toList)=true:=by rw[bne,zZ];rfl
   clear t heq;go_wp2;refine bodyPost_ret (v:=.tuple #[.agg Ya,.bool false]) (by simp[results,results97,go_sem, *]) rfl ?_;refine Gn Q.o ?_
   iterate 6 (refine Below.setCell ?_ (show w.heap.size<=w.heap.size from Zx) _)
   exact HC.o.2
theorem Qx(s:Zi)(wd:Int)(w:Zh)(a:s.size<=1048576):
 Calls prog 97 #[.string s,Zg wd] w (DA s wd w):=by
 by_cases hw:1<=wd/\wd<=8
 .obtain⟨h1,h2⟩:=hw;by_cases h6:s.size<6
  .exact Qu s wd w h1 h2 h6
  .obtain⟨l,rfl⟩:∃l,s=AB l:=⟨s.data.toList,rfl⟩;rw[BC]at a h6
   match l,a,h6 with
   |a0::a1::a2::a3::a4::a5::T,a,h6=>
    have b:(AB (a0::a1::a2::a3::a4::a5::T)).size=T.length+6:=by rw[BC];rfl
    by_cases hT:a5.toNat<=T.length
    .refine Qw _ wd a0.toNat a1.toNat a2.toNat a3.toNat a4.toNat a5.toNat w (by rw[BC];exact a) h1 h2 Yv rfl rfl rfl rfl rfl rfl Yv (AB (T.take a5.toNat)) (AB (T.drop a5.toNat)) ?_ ?_ (ET [a1,a2,a3,a4]) (Uz a1 a2 a3 a4).symm _ _ _ rfl rfl rfl ?_
     .rw[Gi,show 6+a5.toNat -6=a5.toNat by omega];rfl
     .rw[b,Gi];congr 2;rw[show 6+a5.toNat=a5.toNat+6 by omega];show(T.drop a5.toNat).take _=_;exact Zt Yu
     .exact Mi a0 a1 a2 a3 a4 a5 T h1 h2 hT
    .exact Qv _ wd w (by rw[BC];exact a) h1 h2 a5.toNat Yv rfl (NG h1 h2 Yv) Yv
   |[],_,h6=>simp at h6
   |[_],_,h6=>simp at h6
   |[_,_],_,h6=>simp at h6
   |[_,_,_],_,h6=>simp at h6
   |[_,_,_,_],_,h6=>simp at h6
   |[_,_,_,_,_],_,h6=>simp at h6
 .exact Qt s wd w hw
theorem GK(h:(Bl s wd).ok=true):Ca (Bl s wd).k (Bl s wd).sum (Bl s wd).name (Bl s wd).n (Bl s wd).t (Bl s wd).ss wd=true/\Cw (Bl s wd).k (Bl s wd).sum (Bl s wd).name (Bl s wd).n (Bl s wd).t (Bl s wd).ss wd=s:=by
 by_cases hw:1<=wd/\wd<=8
 .obtain⟨h1,h2⟩:=hw;obtain⟨l,rfl⟩:∃l,s=AB l:=⟨s.data.toList,rfl⟩;by_cases h6:l.length<6
  .rw[Mk h1 h2 h6]at h;cases h
  .match l,h6,h with
   |a0::a1::a2::a3::a4::a5::T,h6,h=>
    by_cases hT:a5.toNat<=T.length
    .rw[Mi a0 a1 a2 a3 a4 a5 T h1 h2 hT]at h |-;split at h
     case isTrue hc=>
      rw[if_pos hc];unfold NE at hc;rw[Bool.and_eq_true,decide_eq_true_eq]at hc;exact hc
     case isFalse hc=>cases h
    .rw[NG h1 h2 Yv]at h;cases h
   |[],h6,_=>simp at h6
   |[_],h6,_=>simp at h6
   |[_,_],h6,_=>simp at h6
   |[_,_,_],h6,_=>simp at h6
   |[_,_,_,_],h6,_=>simp at h6
   |[_,_,_,_,_],h6,_=>simp at h6
 .rw[Mj hw]at h;cases h
def Av(out:Zl)(s:Zi):Zl:=if out.any (fun x=>decide (x=s))=true then out else out++[s]
theorem OP(a:Zl)(s:Zi):(Av a s).length<=a.length+1:=by unfold Av;split<;>simp
theorem GL{a:Zl}(o:Zl)(b:a[k]?=some x):(a.take (k+1)).foldl Av o=Av ((a.take k).foldl Av o) x:=by obtain⟨h,rfl⟩:=Zw b;rw[Zu h,List.foldl_append];rfl
theorem CB(xs o:Zl):(xs.foldl Av o).length<=o.length+xs.length:=by
 induction xs generalizing o with
 |nil=>simp
 |cons x xs ih=>have h1:=ih (Av o x);have h2:=OP o x;simp only[List.foldl_cons,List.length_cons];omega
theorem Ii{d:Nat}{a:Zk}{c:Nat}{b:Zl}(h:w.ownsRow d 9 1 (.slice a b.length c) b.length (b.map Value.string)):Ab w w.heap.size a b:=by
 rcases h.2 with⟨e,f⟩|⟨g,cap,i,e,_⟩
 .exact .inl (List.eq_nil_of_length_eq_zero f)
 .cases e;exact Ab.own h
def Br(ps:List Pd)(ls:List Ld):Zl:=(ls.map (·.sum)).foldl Av ((ps.map (·.sum)).foldl Av [])
theorem KQ(wd now h d:Int)(T:Value)(p l:Zk)(D C:Nat)(a:List Pd)(f:List Ld)(w:Zh)(Z:AM w w.heap.size p a)(hq:AN w w.heap.size l f)(zH:a.length<=100)(zG:f.length<=200):
 Calls prog 26 #[.agg #[Zg wd,Zg now,Zg h,Zg d,T,.slice p a.length D,.slice l f.length C]] w fun e w'=>∃g c,e=.returned (Yz g (Br a f).length c)/\w'.ownsRow (w.heap.size+1) 9 1 (Yz g (Br a f).length c) (Br a f).length ((Br a f).map Value.string)/\Zz w w':=by
 obtain⟨i0,Y,P,Q,R⟩:=info_parts BO;have zB:=Yw Z;have zA:=Yw hq;have X:=Aq.new w wd now h d T (.slice p a.length D) (.slice l f.length C) 27;have N:Below w.heap.size w (w.alloc (.cells #[Zg wd,Zg now,Zg h,Zg d,T,.slice p a.length D,.slice l f.length C] 27)):=Zy;clear Z hq;unfold Br;go_enter func26,ntmps26;go_wp2
 go_loopw [3,4] (fun v i wr=>∃(k g c:Nat),k<=a.length/\i=Zg k/\v=Yz g (((a.map (·.sum)).take (k)).foldl Av []).length c/\Hid (wr.ownsRow (w.heap.size+1) 9 1 (Yz g (((a.map (·.sum)).take (k)).foldl Av []).length c) (((a.map (·.sum)).take (k)).foldl Av []).length ((((a.map (·.sum)).take (k)).foldl Av []).map Value.string))/\Zz w wr/\Hid (Aq wr w.heap.size wd now h d T (.slice p a.length D) (.slice l f.length C))) (fun _ i _=>a.length -(intOf i).toNat)
 case atStart=>
  refine⟨0,w.heap.size+1,0,Nat.zero_le _,rfl,Yu,?_,N.alloc N.size _,X.ah (Zy) X.2.2.2.2.2.2.2⟩;have:=World.ownsRow_lit (e:=9) (w.alloc (.cells #[Zg wd,Zg now,Zg h,Zg d,T,.slice p a.length D,.slice l f.length C] 27)) #[] (size:=1) 0 (base:=w.heap.size+1) Yu (by simp[maxLen]) rfl
  rw[show(w.alloc (.cells #[Zg wd,Zg now,Zg h,Zg d,T,.slice p a.length D,.slice l f.length C] 27)).heap.size=w.heap.size+1 from by simp]at this;exact this
 case round=>
  clear X;obtain⟨k,g,c,hk,rfl,rfl,q,n,z⟩:=hrel;obtain⟨x0,x1,x2,x3,x4,x5,x6,x7⟩:=z.o;by_cases hlt:k<a.length
  .obtain⟨b,off,V,hb,H⟩:=(AM.below zB.o n).at hlt;subst V;have G:Hid (a[k]?=some a[k]):=Zv hlt;obtain⟨_,c1⟩:=H k _ G.o;have zC:b<wr.heap.size:=Yv
   have HN:Hid ((a.map (·.sum))[k]?=some a[k].sum):=by show _=_;rw[List.getElem?_map,G.o];rfl
   clear H;generalize a[k]=x at *
   have hlen:(((a.map (·.sum)).take (k)).foldl Av []).length<=0+k:=by
    have:=CB ((a.map (·.sum)).take k) ([])
    skip
    simp at this;omega
   have F:=Yw (GL ([]) HN.o);generalize hO:((a.map (·.sum)).take (k)).foldl Av []=O at *
   have zE:=(q.o.lt g rfl).1;have zF:=(q.o.lt g rfl).2;have U:Hid (Ab wr wr.heap.size (some ⟨g,0,none⟩) O):=Ii q.o;go_wp2_with fail;refine(Dq _ c O x.sum wr _ U.o Yv).mono ?_;rintro e J ⟨rfl,rfl⟩;cases hin:O.any (fun y=>decide (y=x.sum))with
   |true=>
    have r:Hid (((a.map (·.sum)).take (k+1)).foldl Av []=O):=by show _=_;rw[F.o];unfold Av;rw[if_pos hin]
    go_wp2;refine⟨⟨k+1,g,c,Yv,Yn,by rw[r.o],?_,n,z⟩,Ys⟩;rw[r.o];exact q
   |false=>
    have r:Hid (((a.map (·.sum)).take (k+1)).foldl Av []=O++[x.sum]):=by show _=_;rw[F.o];unfold Av;rw[if_neg (by rw[hin];decide)]
    go_wp2_with (first
     |(at_builtin;refine wpList_append_own _ rfl _ _ 29 rfl (w.heap.size+1) 9 i0 Zc 1 16 underlying29 Y P Q R rfl Yq _ O.length (O.map Value.string) rfl ?d0 ⟨J.heap.size,0,none⟩ 1 1 [.string x.sum] rfl rfl ?d1 ?d2 ?d3 ?d4 ?d5 ?_)
     |go_in)
    case d0=>exact q.o.alloc _
    case d1=>exact cell_one_new _ _ _
    case d2=>intro u I;simp at I;subst I;rfl
    case d3=>unfold maxLen;omega
    case d4=>omega
    case d5=>simp;omega
    intro v' t m o _;obtain⟨B,A,M,_,_⟩:=m.form Yv;subst M;have s:Below (w.heap.size+1) J t:=(Ad.alloc Yv _).grown o Yt (by intro j W;simp[Value.ownBlock]at W;omega);have S:Hid (Zz w t):=n.trans (s.mono Yv);have L:=Yw (Aq.ah z.o s Yv)
    have K:Hid (t.ownsRow (w.heap.size+1) 9 1 (Yz B (O.length+1) A) (O.length+1) ((O++[x.sum]).map Value.string)):=(by simpa using m:World.ownsRow t (w.heap.size+1) 9 1 (Yz B (O.length+1) A) (O.length+1) ((O++[x.sum]).map Value.string));clear m o s;go_wp2;refine⟨⟨k+1,B,A,Yv,Yn,by rw[r.o];simp,?_,S.o,L⟩,Ys⟩;rw[r.o,List.length_append];exact K
  .rw[Zt Yt]at q |-;go_wp2
   go_loopw [3,5] (fun v i wr=>∃(k g c:Nat),k<=f.length/\i=Zg k/\v=Yz g (((f.map (·.sum)).take (k)).foldl Av ((a.map (·.sum)).foldl Av [])).length c/\Hid (wr.ownsRow (w.heap.size+1) 9 1 (Yz g (((f.map (·.sum)).take (k)).foldl Av ((a.map (·.sum)).foldl Av [])).length c) (((f.map (·.sum)).take (k)).foldl Av ((a.map (·.sum)).foldl Av [])).length ((((f.map (·.sum)).take (k)).foldl Av ((a.map (·.sum)).foldl Av [])).map Value.string))/\Zz w wr/\Hid (Aq wr w.heap.size wd now h d T (.slice p a.length D) (.slice l f.length C))) (fun _ i _=>f.length -(intOf i).toNat)
   case atStart=>exact⟨0,g,c,Nat.zero_le _,rfl,rfl,q,n,z⟩
   case round=>
    clear x0 x1 x2 x3 x4 x5 x6 x7;obtain⟨k,g,c,hk,rfl,rfl,q,n,z⟩:=hrel;obtain⟨x0,x1,x2,x3,x4,x5,x6,x7⟩:=z.o;by_cases hlt:k<f.length
    .obtain⟨b,off,V,hb,H⟩:=(AN.below zA.o n).at hlt;subst V;have G:Hid (f[k]?=some f[k]):=Zv hlt;obtain⟨_,c1,_⟩:=H k _ G.o;have zC:b<wr.heap.size:=Yv
     have HN:Hid ((f.map (·.sum))[k]?=some f[k].sum):=by show _=_;rw[List.getElem?_map,G.o];rfl
     clear H;generalize f[k]=x at *
     have hlen:(((f.map (·.sum)).take (k)).foldl Av ((a.map (·.sum)).foldl Av [])).length<=a.length+k:=by have:=CB ((f.map (·.sum)).take k) ((a.map (·.sum)).foldl Av []);have E:=CB (a.map (·.sum)) [];simp at E;simp at this;omega
     have F:=Yw (GL ((a.map (·.sum)).foldl Av []) HN.o);generalize hO:((f.map (·.sum)).take (k)).foldl Av ((a.map (·.sum)).foldl Av [])=O at *
     have zE:=(q.o.lt g rfl).1;have zF:=(q.o.lt g rfl).2;have U:Hid (Ab wr wr.heap.size (some ⟨g,0,none⟩) O):=Ii q.o;go_wp2_with fail;refine(Dq _ c O x.sum wr _ U.o Yv).mono ?_;rintro e J ⟨rfl,rfl⟩;cases hin:O.any (fun y=>decide (y=x.sum))with
     |true=>
      have r:Hid (((f.map (·.sum)).take (k+1)).foldl Av ((a.map (·.sum)).foldl Av [])=O):=by show _=_;rw[F.o];unfold Av;rw[if_pos hin]
      go_wp2;refine⟨⟨k+1,g,c,Yv,Yn,by rw[r.o],?_,n,z⟩,Ys⟩;rw[r.o];exact q
     |false=>
      have r:Hid (((f.map (·.sum)).take (k+1)).foldl Av ((a.map (·.sum)).foldl Av [])=O++[x.sum]):=by show _=_;rw[F.o];unfold Av;rw[if_neg (by rw[hin];decide)]
      go_wp2_with (first
       |(at_builtin;refine wpList_append_own _ rfl _ _ 29 rfl (w.heap.size+1) 9 i0 Zc 1 16 underlying29 Y P Q R rfl Yq _ O.length (O.map Value.string) rfl ?d0 ⟨J.heap.size,0,none⟩ 1 1 [.string x.sum] rfl rfl ?d1 ?d2 ?d3 ?d4 ?d5 ?_)
       |go_in)
      case d0=>exact q.o.alloc _
      case d1=>exact cell_one_new _ _ _
      case d2=>intro u I;simp at I;subst I;rfl
      case d3=>unfold maxLen;omega
      case d4=>omega
      case d5=>simp;omega
      intro v' t m o _;obtain⟨B,A,M,_,_⟩:=m.form Yv;subst M;have s:Below (w.heap.size+1) J t:=(Ad.alloc Yv _).grown o Yt (by intro j W;simp[Value.ownBlock]at W;omega);have S:Hid (Zz w t):=n.trans (s.mono Yv);have L:=Yw (Aq.ah z.o s Yv)
      have K:Hid (t.ownsRow (w.heap.size+1) 9 1 (Yz B (O.length+1) A) (O.length+1) ((O++[x.sum]).map Value.string)):=(by simpa using m:World.ownsRow t (w.heap.size+1) 9 1 (Yz B (O.length+1) A) (O.length+1) ((O++[x.sum]).map Value.string));clear m o s;go_wp2;refine⟨⟨k+1,B,A,Yv,Yn,by rw[r.o];simp,?_,S.o,L⟩,Ys⟩;rw[r.o,List.length_append];exact K
    .rw[Zt Yt]at q |-;go_wp2;go_ret;exact⟨_,_,rfl,q.o,n⟩
def CH(ks:List Kd)(at_:Int)(r:Int):Prop:=
 (r= -1/\∀y∈ks,¬y.born<at_)\/∃(i:Nat) (k:Kd),r=i/\ks[i]?=some k/\k.born<at_/\∀y∈ks,y.born<at_->y.born<=k.born
theorem CH.snoc{c r:Int}{x:Kd}(h:CH ks c r):(¬x.born<c->CH (ks++[x]) c r)/\(x.born<c->r= -1->CH (ks++[x]) c ks.length)/\(∀(i:Nat) (k:Kd),x.born<c->r=i->ks[i]?=some k->(k.born<x.born->CH (ks++[x]) c ks.length)/\(¬k.born<x.born->CH (ks++[x]) c r)):=by
 refine⟨fun d=> ?_,fun d m=> ?_,fun i k d m g=>⟨fun l=> ?_,fun l=> ?_⟩⟩
 .rcases h with⟨h1,h2⟩|⟨i,k,h1,h2,f,e⟩
  .refine .inl ⟨h1,fun y a=> ?_⟩;rcases List.mem_append.1 a with a|a
   .exact h2 y a
   .simp at a;rw[a];exact d
  .refine .inr ⟨i,k,h1,?_,f,fun y a b=> ?_⟩
   .rw[List.getElem?_append_left (Zw h2).1];exact h2
   .rcases List.mem_append.1 a with a|a
    .exact e y a b
    .simp at a;rw[a]at b;exact absurd b d
 .rcases h with⟨_,h2⟩|⟨i,k,h1,_⟩
  .refine .inr ⟨ks.length,x,rfl,Yu,d,fun y a b=> ?_⟩;rcases List.mem_append.1 a with a|a
   .exact absurd b (h2 y a)
   .simp at a;rw[a];omega
  .omega
 .rcases h with⟨h1,_⟩|⟨j,n,h1,h2,f,e⟩
  .omega
  .obtain rfl:i=j:=Yv
   rw[g]at h2;cases h2;refine .inr ⟨ks.length,x,rfl,Yu,d,fun y a b=> ?_⟩;rcases List.mem_append.1 a with a|a
   .have:=e y a b;omega
   .simp at a;rw[a];omega
 .rcases h with⟨h1,_⟩|⟨j,n,h1,h2,f,e⟩
  .omega
  .obtain rfl:i=j:=Yv
   rw[g]at h2;cases h2;refine .inr ⟨i,k,h1,?_,f,fun y a b=> ?_⟩
   .rw[List.getElem?_append_left (Zw g).1];exact g
   .rcases List.mem_append.1 a with a|a
    .exact e y a b
    .simp at a;rw[a];omega
theorem Qy(wd now g d j:Int)(a:Zk)(F:Nat)(P L:Value)(c:List Kd)(w:Zh)(q:AQ w w.heap.size a c)(hl:c.length<=1000):
 Calls prog 134 #[.agg #[Zg wd,Zg now,Zg g,Zg d,.slice a c.length F,P,L],Zg j] w fun e w'=>∃r:Int,e=.returned (Zg r)/\CH c j r/\Zz w w':=by
 have U:=Yw q;have n:=Aq.new w wd now g d (.slice a c.length F) P L 27;have D:Below w.heap.size w (w.alloc (.cells #[Zg wd,Zg now,Zg g,Zg d,.slice a c.length F,P,L] 27)):=Zy;obtain⟨W,O⟩:=Af (w.alloc (.cells #[Zg wd,Zg now,Zg g,Zg d,.slice a c.length F,P,L] 27));rw[<-O]at n D;have S:=Yw O;have HX:=Yw n;have zA:w.heap.size<W.heap.size:=n.2.2.2.2.2.2.2;clear q O n;go_enter func134,ntmps134
 go_upto_region 1 with fail;rw[<-S.o];clear S;go_wp2
 go_loopw [5,6] (fun v i wr=>∃(k:Nat) (r:Int),k<=c.length/\i=Zg k/\v=Zg r/\Hid (CH (c.take k) j r/\Zz W wr)) (fun _ i _=>c.length -(intOf i).toNat)
 case atStart=>exact⟨0, -1,Nat.zero_le _,rfl,rfl,.inl ⟨rfl,(fun y o=>by simp at o)⟩,Ad⟩
 case round=>
  obtain⟨k,r,hk,rfl,rfl,z⟩:=hrel;have f:=z.o.2;have u:=f.size;have I:Below w.heap.size w wr:=D.trans (f.mono D.size);obtain⟨_,_,_,_,B,_,_,_⟩:=Aq.below HX.o f;by_cases hlt:k<c.length
  .obtain⟨b,off,ha,hb,Q⟩:=(AQ.below U.o I).at hlt;subst ha;have Z:Hid (c[k]?=some c[k]):=Zv hlt;obtain⟨_,A,_⟩:=Q k _ Z.o;have J:b<wr.heap.size:=Yv
   have K:(c.take k).length=k:=by rw[List.length_take];omega
   have E:Hid (c.take (k+1)=c.take k++[c[k]]):=Zu hlt;have H:=Ae.cell B (show w.heap.size<wr.heap.size by omega);have G:=Ae.cell A J;have t:=Ae.ne wr;have R:=Yw Q;have HN:=Yw (CH.snoc (x:=c[k]) z.o.1);clear Q;generalize c[k]=x at *
   by_cases n:x.born<j
   .have d1:decide (x.born<j)=true:=by simpa using n
    by_cases hr:r<0
    .have d2:decide (r<0)=true:=by simpa using hr
     have X:r= -1:=by
      rcases z.o.1 with⟨h,_⟩|⟨i,_,h,_⟩
      .exact h
      .omega
     have l:=HN.o.2.1 n X;rw[K]at l;have s:Hid (CH (c.take k++[x]) j (k:Int)):=l;clear l;clear HN;go_wp2;refine Ai Yr Yr ?_
     repeat (go_big_quiet_step (fail))
     refine wpQuiet_nil ?_;intro m;clear H G t A B;go_wp2;exact⟨⟨k+1,k,Yv,Yn,rfl,⟨by rw[E.o];exact s.o,f.trans (m.h.mono u)⟩⟩,Ys⟩
    .have d2:decide (r<0)=false:=by simpa using hr
     obtain⟨i,y,rfl,o,_⟩:∃(i:Nat) (y:Kd),r=i/\(c.take k)[i]?=some y/\True:=by
      rcases z.o.1 with⟨h,_⟩|⟨i,y,h1,h2,_⟩
      .omega
      .exact⟨i,y,h1,h2,trivial⟩
     have V:i<k:=by have:=(Zw o).1;omega
     have M:c[i]?=some y:=by rw[List.getElem?_take_of_lt V]at o;exact o
     obtain⟨_,N,_⟩:=R.o i y M;have T:=Ae.cell N J;have l:=HN.o.2.2 i y n rfl o;rw[K]at l;have s:=Yw l;clear l;clear HN o M R;by_cases hg:y.born<x.born
     .have d3:decide (y.born<x.born)=true:=by simpa using hg
      go_wp2;refine Ai Yr Yr ?_
      repeat (go_big_quiet_step (fail))
      refine wpQuiet_nil ?_;intro m;clear H G T t A B N;go_wp2;exact⟨⟨k+1,k,Yv,Yn,rfl,⟨by rw[E.o];exact s.o.1 hg,f.trans (m.h.mono u)⟩⟩,Ys⟩
     .have d3:decide (y.born<x.born)=false:=by simpa using hg
      go_wp2;refine Ai Yr Yr ?_
      repeat (go_big_quiet_step (fail))
      refine wpQuiet_nil ?_;intro m;clear H G T t A B N;go_wp2;exact⟨⟨k+1,i,Yv,Yn,rfl,⟨by rw[E.o];exact s.o.2 hg,f.trans (m.h.mono u)⟩⟩,Ys⟩
   .have d1:decide (x.born<j)=false:=by simpa using n
    have s:Hid (CH (c.take k++[x]) j r):=HN.o.1 n;clear HN;go_wp2;refine Ai Yr Yr ?_
    repeat (go_big_quiet_step (fail))
    refine wpQuiet_nil ?_;intro m;clear H G t A B;go_wp2;exact⟨⟨k+1,r,Yv,Yn,rfl,⟨by rw[E.o];exact s.o,f.trans (m.h.mono u)⟩⟩,Ys⟩
  .have C:=z.o.1;rw[Zt Yv]at C;have Y:Hid (CH c j r):=C;clear C;go_wp2;go_ret;exact⟨r,rfl,Y.o,I⟩
theorem TA:x∈Av o s↔x∈o\/x=s:=by
 unfold Av;split
 .rename_i h
  rw[List.any_eq_true]at h;obtain⟨y,a,e⟩:=h;simp at e;subst e;exact⟨.inl,fun h=>h.elim id (fun e=>e▸a)⟩
 .simp
theorem Qz(h:o.Nodup):(Av o s).Nodup:=by
 unfold Av;split
 .exact h
 .rename_i hn
  rw[List.nodup_append];refine⟨h,Yu,fun a d b c e=>hn ?_⟩;simp at c;rw[List.any_eq_true];exact⟨a,d,by simp[e,c]⟩
theorem CZ:x∈xs.foldl Av o↔x∈o\/x∈xs:=by
 induction xs generalizing o with
 |nil=>simp
 |cons y ys ih=>
  rw[List.foldl_cons,ih,TA];simp only[List.mem_cons];constructor
  .rintro((h|h)|h)
   .exact .inl h
   .exact .inr (.inl h)
   .exact .inr (.inr h)
  .rintro(h|h|h)
   .exact .inl (.inl h)
   .exact .inl (.inr h)
   .exact .inr h
theorem KR{a:Zl}(h:o.Nodup):(a.foldl Av o).Nodup:=by
 induction a generalizing o with
 |nil=>exact h
 |cons y ys ih=>exact ih (Qz h)
theorem NH(h:o[i]?=some x):(xs.foldl Av o)[i]?=some x:=by
 induction xs generalizing o with
 |nil=>exact h
 |cons y ys ih=>
  refine ih ?_;unfold Av;split
  .exact h
  .rw[List.getElem?_append_left (Zw h).1];exact h
theorem Da{l:Zl}(h:l.Nodup):∀{u:Zl},(∀x∈l,x∈u)->l.length<=u.length:=by
 induction l with
 |nil=>intro u _;simp
 |cons x xs ih=>
  intro u d;obtain⟨j,i⟩:=List.nodup_cons.1 h;obtain⟨a,b,rfl⟩:=List.append_of_mem (d x Yu);have:=ih i (u:=a++b) (fun y f=>by
   have c:=d y (by simp[f]);have g:y≠x:=fun e=>j (by rw[<-e];exact f);simp only[List.mem_append,List.mem_cons]at c |-;rcases c with h|h|h
   .exact .inl h
   .exact absurd h g
   .exact .inr h)
  simp only[List.length_cons,List.length_append]at this |-;omega
inductive Reach (ks:List Kd) (from':Zl):Zi->Prop
 |here {x:Zi}:x∈from'->Reach ks from' x
 |step {x y:Zi} {u:Kd}:Reach ks from' y->u∈ks->u.sum=y->x∈u.B->Reach ks from' x
def cw(ks:List Kd)(from':Zl):Zl:=from'++ks.flatMap (·.B)
theorem JJ{from':Zl}(h:∀k∈ks,k.B.length<=30):(cw ks from').length<=from'.length+30 *ks.length:=by
 unfold cw;rw[List.length_append];have:(ks.flatMap (·.B)).length<=30 *ks.length:=by
  induction ks with
  |nil=>simp
  |cons k ks ih=>have h1:=ih (fun k a=>h k (by simp[a]));have h2:=h k Yu;rw[List.flatMap_cons,List.length_append,List.length_cons];omega
 omega
structure EX (ks:List Kd) (from':Zl) (i:Nat) (O:Zl):Prop where
 nd:O.Nodup
 sub:∀x∈O,Reach ks from' x
 cw:∀x∈O,x∈cw ks from'
 base:∀x∈from',x∈O
 shut:∀j x u,j<i->O[j]?=some x->u∈ks->u.sum=x->∀r∈u.B,r∈O
theorem EX.reach{c:List Kd}{a:Zl}(h:EX c a O.length O):x∈O↔Reach c a x:=by
 refine⟨h.sub x,fun d=> ?_⟩;induction d with
 |here hx=>exact h.base _ hx
 |step _ hu hs hx ih=>obtain⟨j,b⟩:=List.getElem?_of_mem ih;exact h.shut j _ _ (Zw b).1 b hu hs _ hx
theorem EX.start(c:List Kd)(a:Zl):EX c a 0 (a.foldl Av []):=
 ⟨KR List.nodup_nil,fun x b=> .here (by simpa using CZ.1 b),fun x b=>by unfold Go.Proofs.YtcfjcdpkpiidkaaGreat.cw;have:=CZ.1 b;simp at this;simp[this],fun x b=>CZ.2 (.inr b),fun j x u d=>by omega⟩
theorem EX.skip{c:List Kd}{a:Zl}(h:EX c a i O)(k:O[i]?=some x)(g:¬Ay c x):EX c a (i+1) O:=
 ⟨h.nd,h.sub,h.cw,h.base,fun j y u l b f e=>by
  rcases Nat.lt_or_ge j i with d|d
  .exact h.shut j y u d b f e
  .obtain rfl:j=i:=Yv
   rw[k]at b;cases b;exact absurd ⟨u,f,e⟩ g⟩
theorem EX.go{e:List Kd}{b:Zl}(h:EX e b i O){u:Kd}(k:O[i]?=some x)(n:u∈e)(q:u.sum=x)(c:∀v∈e,v.sum=x->v=u):EX e b (i+1) (u.B.foldl Av O):=by
 refine⟨KR h.nd,fun y a=> ?_,fun y a=> ?_,fun y a=>CZ.2 (.inl (h.base y a)),fun j y v s a o g r m=> ?_⟩
 .rcases CZ.1 a with a|a
  .exact h.sub y a
  .exact .step (h.sub x (Zs k)) n q a
 .rcases CZ.1 a with a|a
  .exact h.cw y a
  .unfold Go.Proofs.YtcfjcdpkpiidkaaGreat.cw;exact List.mem_append.2 (.inr (List.mem_flatMap.2 ⟨u,n,a⟩))
 .have f:j<O.length:=by have:=(Zw k).1;omega
  have d:O[j]?=some y:=by rw[Zv f];have:=NH (xs:=u.B) (Zv f);rw[this]at a;exact a
  rcases Nat.lt_or_ge j i with l|l
  .exact CZ.2 (.inl (h.shut j y v l d o g r m))
  .obtain rfl:j=i:=Yv
   rw[k]at d;cases d;obtain rfl:=c v o g;exact CZ.2 (.inr m)
theorem QA(wd now l h:Int)(a:Zk)(E:Nat)(P L:Value)(o:List Kd)(f:Zk)(fc:Nat)(m:Zl)(w:Zh)(T:AQ w w.heap.size a o)(zO:Ab w w.heap.size f m)(hl:o.length<=600)(yU:m.length<=300)(I:∀k∈o,k.B.length<=30)(G:∀u∈o,∀v∈o,u.sum=v.sum->u=v):
 Calls prog 25 #[.agg #[Zg wd,Zg now,Zg l,Zg h,.slice a o.length E,P,L],.slice f m.length fc] w fun e w'=>∃g c R,e=.returned (Yz g (List.length R) c)/\w'.ownsRow (w.heap.size+1) 9 1 (Yz g R.length c) R.length (R.map Value.string)/\EX o m R.length R/\Zz w w':=by
 obtain⟨i0,hi,zT,zU,zV⟩:=info_parts BO;have zA:=Yw T;have zX:=Yw zO;have zW:=JJ (from':=m) I;have HU:=Yw (Zn G I);have hx:=Aq.new w wd now l h (.slice a o.length E) P L 27;have zN:Below w.heap.size w (w.alloc (.cells #[Zg wd,Zg now,Zg l,Zg h,.slice a o.length E,P,L] 27)):=Zy;clear T zO G I;go_enter func25,ntmps25;go_wp2
 go_loopw [5,6] (fun v i wr=>∃(k g c:Nat),k<=m.length/\i=Zg k/\v=Yz g ((m.take k).foldl Av []).length c/\Hid (wr.ownsRow (w.heap.size+1) 9 1 (Yz g ((m.take k).foldl Av []).length c) ((m.take k).foldl Av []).length (((m.take k).foldl Av []).map Value.string))/\Zz w wr/\Hid (Aq wr w.heap.size wd now l h (.slice a o.length E) P L)) (fun _ i _=>m.length -(intOf i).toNat)
 case atStart=>
  refine⟨0,w.heap.size+1,0,Nat.zero_le _,rfl,Yu,?_,zN.alloc zN.size _,hx.ah (Zy) hx.2.2.2.2.2.2.2⟩;have:=World.ownsRow_lit (e:=9) (w.alloc (.cells #[Zg wd,Zg now,Zg l,Zg h,.slice a o.length E,P,L] 27)) #[] (size:=1) 0 (base:=w.heap.size+1) Yu (by simp[maxLen]) rfl
  rw[show(w.alloc (.cells #[Zg wd,Zg now,Zg l,Zg h,.slice a o.length E,P,L] 27)).heap.size=w.heap.size+1 from by simp]at this;exact this
 case round=>
  clear hx;obtain⟨k,g,c,hk,rfl,rfl,s,d,B⟩:=hrel;by_cases hlt:k<m.length
  .obtain⟨b,off,ha,hb,Z⟩:=(Ab.below zX.o d).at hlt;subst ha;have N:Hid (m[k]?=some m[k]):=Zv hlt;have V:=Z k _ N.o;have yS:b<wr.heap.size:=by have:=d.size;omega
   clear Z;generalize m[k]=x at *
   have hlen:((m.take k).foldl Av []).length<=k:=by have:=CB (m.take k) [];simp at this;omega
   have Y:=Yw (GL [] N.o);generalize hO:(m.take k).foldl Av []=O at *
   have zG:=(s.o.lt g rfl).1;have W:=(s.o.lt g rfl).2;have HR:Hid (Ab wr wr.heap.size (some ⟨g,0,none⟩) O):=Ii s.o;go_wp2_with fail;refine(Dq _ c O x wr _ HR.o Yv).mono ?_;rintro e w1 ⟨rfl,rfl⟩;cases hin:O.any (fun y=>decide (y=x))with
   |true=>
    have C:Hid ((m.take (k+1)).foldl Av []=O):=by show _=_;rw[Y.o];unfold Av;rw[if_pos hin]
    go_wp2;refine⟨⟨k+1,g,c,Yv,Yn,by rw[C.o],?_,d,B⟩,Ys⟩;rw[C.o];exact s
   |false=>
    have C:Hid ((m.take (k+1)).foldl Av []=O++[x]):=by show _=_;rw[Y.o];unfold Av;rw[if_neg (by rw[hin];decide)]
    go_wp2_with (first
     |(at_builtin;refine wpList_append_own _ rfl _ _ 29 rfl (w.heap.size+1) 9 i0 Zc 1 16 underlying29 hi zT zU zV rfl Yq _ O.length (O.map Value.string) rfl ?d0 ⟨w1.heap.size,0,none⟩ 1 1 [.string x] rfl rfl ?d1 ?d2 ?d3 ?d4 ?d5 ?_)
     |go_in)
    case d0=>exact s.o.alloc _
    case d1=>exact cell_one_new _ _ _
    case d2=>intro u F;simp at F;subst F;rfl
    case d3=>unfold maxLen;omega
    case d4=>omega
    case d5=>simp;omega
    intro v' H r A _;obtain⟨S,Q,zI,_,_⟩:=r.form Yv;subst zI;have D:Below (w.heap.size+1) w1 H:=(Ad.alloc Yv _).grown A Yt (by intro j hj;simp[Value.ownBlock]at hj;omega);have HB:Hid (Zz w H):=d.trans (D.mono Yv);have zE:=Yw (Aq.ah B.o D Yv)
    have zB:Hid (H.ownsRow (w.heap.size+1) 9 1 (Yz S (O.length+1) Q) (O.length+1) ((O++[x]).map Value.string)):=(by simpa using r:World.ownsRow H (w.heap.size+1) 9 1 (Yz S (O.length+1) Q) (O.length+1) ((O++[x]).map Value.string));clear r A D;go_wp2;refine⟨⟨k+1,S,Q,Yv,Yn,by rw[C.o];simp,?_,HB.o,zE⟩,Ys⟩;rw[C.o,List.length_append];exact zB
  .rw[Zt Yv]at s |-;have t:Hid (EX o m 0 (m.foldl Av [])):=EX.start o m;generalize m.foldl Av []=O at *
   go_wp2
   go_loopw [5,7] (fun v i wr=>∃(k g c:Nat) (O:Zl),k<=O.length/\i=Zg k/\v=Yz g O.length c/\Hid (wr.ownsRow (w.heap.size+1) 9 1 (Yz g O.length c) O.length (O.map Value.string))/\Zz w wr/\Hid (Aq wr w.heap.size wd now l h (.slice a o.length E) P L)/\Hid (EX o m k O)) (fun _ i _=>(cw o m).length+1 -(intOf i).toNat)
   case atStart=>exact⟨0,g,c,O,Nat.zero_le _,rfl,rfl,s,d,B,t⟩
   case round=>
    clear s B t d;obtain⟨k,g,c,O,hk,rfl,rfl,s,d,B,t⟩:=hrel;obtain⟨x0,x1,x2,x3,x4,x5,x6,J⟩:=B.o;have yR:O.length<=(cw o m).length:=Da t.o.nd t.o.cw;by_cases hlt:k<O.length
    .have N:Hid (O[k]?=some O[k]):=Zv hlt;have V:=s.o.cellAt k (by simpa using hlt);rw[List.getElem?_map,N.o]at V;simp only[Option.map_some]at V;have zG:=(s.o.lt g rfl).1;have W:=(s.o.lt g rfl).2;have yV:(0:Int)<=(k:Int):=Yv
     have yW:(k:Int)<(O.length:Int):=Yv
     generalize O[k]=x at *
     have hF:∀n:Ae wr,Calls prog 18 #[.agg #[Zg wd,Zg now,Zg l,Zg h,.slice a o.length E,P,L],.string x] n.w fun e w'=>e=.returned (Zg (BQ o x))/\Below n.w.heap.size n.w w':=fun n=>Ck wd now l h a E _ _ o x n.w w.heap.size (AQ.below zA.o (d.trans (n.h.mono d.size))) (by have:=n.h.size;have:=d.size;omega) Yv;have Y:=Yw hF;have q0:=Ae.cell x0 J;have q1:=Ae.cell x1 J;have q2:=Ae.cell x2 J
     have q3:=Ae.cell x3 J;have q4:=Ae.cell x4 J;have q5:=Ae.cell x5 J;have q6:=Ae.cell x6 J;have q7:=Ae.cell V W;have yX:=Ae.ne wr;have zJ:=d.size;clear hF;go_wp2;refine Ai Yr Yr ?_
     repeat (go_big_quiet_step (exact Ae.calls (Y.o _)))
     refine wpQuiet_nil ?_;intro n;have zC:Hid (n.w.ownsRow (w.heap.size+1) 9 1 (Yz g O.length c) O.length (O.map Value.string)):=World.ownsRow.kept s.o (Ak none n.h) (.inr (by simp[Value.ownBlock]));have M:Below w.heap.size w n.w:=d.trans (n.h.mono zJ);have U:=Yw (Aq.ah B.o n.h J);have yY:=n.size;clear q0 q1 q2 q3 q4 q5 q6 q7 x0 x1 x2 x3 x4 x5 x6 V Y s B d
     rcases BM o x with⟨zF,yD⟩|⟨X,u,zF,F,zS⟩
     .rw[zF];have K:Hid (EX o m (k+1) O):=EX.skip t.o N.o yD;go_wp2;exact⟨⟨k+1,g,c,O,Yv,Yn,rfl,zC,M,U,K⟩,Ys⟩
     .rw[zF];have yL:decide ((X:Int)<0)=false:=Yu
      have zP:=(Zw F).1;obtain⟨b,off,ha,hb,Z⟩:=(AQ.below zA.o M).at zP;subst ha;obtain⟨_,_,_,ra,rc,c3,hr⟩:=Z X _ F;have zY:Hid (Ab w w.heap.size ra u.B):=by obtain⟨b',yO,yB,_,yC⟩:=AQ.at zA.o zP;cases yB;obtain⟨_,_,_,xA,xB,zZ,yE⟩:=yC X _ F;have:=(M.cell (p:=⟨b,off+X *4+3,none⟩) hb).trans zZ;rw[c3]at this;simp at this;rw[this.1];exact yE
      have zH:=Zs F;have yN:=HU.o.2 u zH;have K:Hid (EX o m (k+1) (u.B.foldl Av O)):=EX.go t.o N.o zH zS (fun v hv yG=>HU.o.1 v hv u zH (by rw[yG,zS]));have yA:∀q,((u.B.take q).foldl Av O).length<=O.length+30:=fun q=>by have:=CB (u.B.take q) O;simp at this;omega
      have yI:(u.B.foldl Av O).length<=(cw o m).length:=Da K.o.nd K.o.cw;have yQ:k+1<=(u.B.foldl Av O).length:=by have yH:=NH (xs:=u.B) N.o;have:=(Zw yH).1;omega
      obtain⟨y0,y1,y2,y3,y4,y5,y6,y7⟩:=U.o;have yJ:(0:Int)<=(X:Int):=Yv
      have yK:(X:Int)<(o.length:Int):=Yv
      have yT:b<n.w.heap.size:=Yv
      clear Z hr;go_wp2
      go_loopw [5,10] (fun v j wr=>∃(q g c:Nat),q<=u.B.length/\j=Zg q/\v=Yz g ((u.B.take q).foldl Av O).length c/\Hid (wr.ownsRow (w.heap.size+1) 9 1 (Yz g ((u.B.take q).foldl Av O).length c) ((u.B.take q).foldl Av O).length (((u.B.take q).foldl Av O).map Value.string))/\Zz w wr/\Hid (Aq wr w.heap.size wd now l h (.slice (some ⟨b,off,none⟩) o.length E) P L)) (fun _ j _=>u.B.length -(intOf j).toNat)
      case atStart=>exact⟨0,g,c,Nat.zero_le _,rfl,rfl,zC,M,U⟩
      case round=>
       clear zC M U y0 y1 y2 y3 y4 y5 y6 y7 c3 W zG;obtain⟨q,g,c,hq,rfl,rfl,s,d,B⟩:=hrel;by_cases hql:q<u.B.length
       .obtain⟨rb,yP,yF,yZ,zR⟩:=(Ab.below zY.o d).at hql;subst yF;have zM:Hid (u.B[q]?=some u.B[q]):=Zv hql;have V:=zR q _ zM.o;have yM:rb<wr.heap.size:=by have:=d.size;omega
        clear zR;generalize u.B[q]=z at *
        have hlen:=yA q;have zK:=Yw (GL O zM.o);generalize hO2:(u.B.take q).foldl Av O=O2 at *
        have zG:=(s.o.lt g rfl).1;have W:=(s.o.lt g rfl).2;have HR:Hid (Ab wr wr.heap.size (some ⟨g,0,none⟩) O2):=Ii s.o;go_wp2_with fail;refine(Dq _ c O2 z wr _ HR.o Yv).mono ?_;rintro e w1 ⟨rfl,rfl⟩;cases hin:O2.any (fun y=>decide (y=z))with
        |true=>
         have C:Hid ((u.B.take (q+1)).foldl Av O=O2):=by show _=_;rw[zK.o];unfold Av;rw[if_pos hin]
         go_wp2;refine⟨⟨q+1,g,c,Yv,Yn,by rw[C.o],?_,d,B⟩,Ys⟩;rw[C.o];exact s
        |false=>
         have C:Hid ((u.B.take (q+1)).foldl Av O=O2++[z]):=by show _=_;rw[zK.o];unfold Av;rw[if_neg (by rw[hin];decide)]
         go_wp2_with (first
          |(at_builtin;refine wpList_append_own _ rfl _ _ 29 rfl (w.heap.size+1) 9 i0 Zc 1 16 underlying29 hi zT zU zV rfl Yq _ O2.length (O2.map Value.string) rfl ?d0 ⟨w1.heap.size,0,none⟩ 1 1 [.string z] rfl rfl ?d1 ?d2 ?d3 ?d4 ?d5 ?_)
          |go_in)
         case d0=>exact s.o.alloc _
         case d1=>exact cell_one_new _ _ _
         case d2=>intro u F;simp at F;subst F;rfl
         case d3=>unfold maxLen;omega
         case d4=>omega
         case d5=>simp;omega
         intro v' H r A _;obtain⟨S,Q,zI,_,_⟩:=r.form Yv;subst zI;have D:Below (w.heap.size+1) w1 H:=(Ad.alloc Yv _).grown A Yt (by intro j hj;simp[Value.ownBlock]at hj;omega);have HB:Hid (Zz w H):=d.trans (D.mono Yv);have zE:=Yw (Aq.ah B.o D Yv)
         have zB:Hid (H.ownsRow (w.heap.size+1) 9 1 (Yz S (O2.length+1) Q) (O2.length+1) ((O2++[z]).map Value.string)):=(by simpa using r:World.ownsRow H (w.heap.size+1) 9 1 (Yz S (O2.length+1) Q) (O2.length+1) ((O2++[z]).map Value.string));clear r A D;go_wp2;refine⟨⟨q+1,S,Q,Yv,Yn,by rw[C.o];simp,?_,HB.o,zE⟩,Ys⟩;rw[C.o,List.length_append];exact zB
       .rw[Zt Yv]at s |-;generalize u.B.foldl Av O=O3 at *
        go_wp2;exact⟨⟨k+1,g,c,O3,Yv,Yn,rfl,s,d,B,K⟩,Ys⟩
    .go_wp2;go_ret;obtain rfl:k=O.length:=Yv
     exact⟨_,_,_,rfl,s.o,t.o,d⟩
end Go.Proofs.YtcfjcdpkpiidkaaGreat
