import Derived.Test.YtdofmfnmackjhaaGreatDoorX09
import Derived.Test.YtdofmfnmackjhaaGreatDoorX12
import Derived.BigRegion
set_option maxRecDepth 100000
set_option maxHeartbeats 16000000
namespace Go.Proofs.YtdofmfnmackjhaaGreatDoor
open ChangeShapes WideShapes ChangeAt RowKit _root_.Go.Proofs.Tryz List World Value
variable{a d g k p K m:Int}{n b c i TX RF Q B j rc R base:Nat}{s f t:Zi}{l:List UInt8}{w o:Zh}
def Gp(k:Int):Bool:=decide (1<=k/\k<=7)
def MS(k:Int):Bool:=Gp k&&DF k.toNat
def JP(k:Int):Bool:=Gp k&&CK k.toNat
def PI(wd:Int):Bool:= !decide (1<=wd/\wd<=8)
def Ln(s:Zi)(wd:Int):Zi×Zi×Bool:=DC s (PI wd) (1:Nat)
def IG(s:Zi)(wd:Int):Int:=FB (Ln s wd).1.data.toList
def Lo(s:Zi)(wd:Int):Bool:=(Ln s wd).2.2|| !Gp (IG s wd)
def IW(s:Zi)(wd:Int):Zi×Zi×Bool:=DC (Ln s wd).2.1 (Lo s wd) (4:Nat)
def WX(s:Zi)(wd:Int):Int:=FB (IW s wd).1.data.toList
def IX(s:Zi)(wd:Int):Zi×Zi×Bool:=DC (IW s wd).2.1 (IW s wd).2.2 (1:Nat)
def e_m(s:Zi)(wd:Int):Int:=FB (IX s wd).1.data.toList
def Gz(s:Zi)(wd:Int):Zi×Zi×Bool:=DC (IX s wd).2.1 (IX s wd).2.2 (e_m s wd)
def DS(s:Zi)(wd:Int):Zi×Zi×Bool:=if MS (IG s wd)=true then DC (Gz s wd).2.1 (Gz s wd).2.2 wd else (⟨#[]⟩,(Gz s wd).2)
def JQ(s:Zi)(wd:Int):Zi×Zl:=if JP (IG s wd)=true then ((rd (Pp (DS s wd).2.1 (DS s wd).2.2) wd).1,(rd (Pp (DS s wd).2.1 (DS s wd).2.2) wd).2.1)else (⟨#[]⟩,[])
def Lp(s:Zi)(wd:Int):Zi×Bool:=if JP (IG s wd)=true then (Pq (DS s wd).2.1 (DS s wd).2.2,OL (DS s wd).2.1 (DS s wd).2.2 wd)else (DS s wd).2
def Lq(s:Zi)(wd:Int):Bool:=(Lp s wd).2|| !decide ((Lp s wd).1.size=0)
def MT(s:Zi)(wd:Int):Bool:=Bp (IG s wd) (DS s wd).1 (Gz s wd).1 (WX s wd) (JQ s wd).1 (JQ s wd).2 wd
def DT(s:Zi)(wd:Int):Bool:=Lq s wd|| !MT s wd
theorem NO{rest:Zi}{a:Bool}{n:Int}(h:(DC rest a n).2.2=false):a=false:=by
 unfold DC at h;cases a
 .rfl
 .simp at h
theorem YK(s:Zi)(a:Int):(rd s a).1.size<=s.size:=by
 unfold rd;split
 .split
  .exact Az _
  .unfold NB EW;split
   .simp;omega
   .exact Az _
 .exact Az _
section
structure ER where
 k:Int
 sum:Zi
 name:Zi
 n:Int
 t:Zi
 ss:Zl
 ok:Bool
def Iu:ER:=⟨0,⟨#[]⟩,⟨#[]⟩,0,⟨#[]⟩,[],false⟩
def Bo(s:Zi)(wd:Int):ER:=
 if DT s wd=true then Iu else ⟨IG s wd,(DS s wd).1,(Gz s wd).1,WX s wd,(JQ s wd).1,(JQ s wd).2,true⟩
def Ur(k:Int)(rest:List UInt8):Zi:=if k=1 then ⟨#[]⟩else AI rest
def Us(k:Int)(rest:List UInt8)(wd:Int):Zi:=if k=1 then (rd (AI rest) wd).1 else ⟨#[]⟩
def Ut(k:Int)(rest:List UInt8)(wd:Int):Zl:=if k=1 then (rd (AI rest) wd).2.1 else []
def PJ(k n:Int)(name rest l:List UInt8)(wd:Int):Bool:=
 Bp k (Ur k rest) (AI name) n (Us k rest wd) (Ut k rest wd) wd&&decide (CY k (Ur k rest) (AI name) n (Us k rest wd) (Ut k rest wd) wd=AI l)
theorem Ek(l:List UInt8)(n:Nat)(h:n<=l.length):DC (AI l) false n=(AI (l.take n),AI (l.drop n),false):=by unfold DC;rw[if_neg Yq,if_neg (by rw[BW];omega),Ha,Ha,BW];simp;exact Zt Yu
theorem Fc(l:List UInt8)(n:Int)(h:(l.length:Int)<n):DC (AI l) false n=(⟨#[]⟩,AI l,true):=by unfold DC;rw[if_neg Yq,if_pos (by rw[BW];exact h)]
theorem GL(r:Zi)(n:Int):DC r true n=(⟨#[]⟩,r,true):=by simp[DC]
theorem IY{b:Int}(h:(Gz s b).2.2=true):DT s b=true:=by
 cases hb:DT s b with
 |true=>rfl
 |false=>
  unfold DT at hb;have d:=(Bool.or_eq_false_iff.1 hb).1;unfold Lq at d;have a:=(Bool.or_eq_false_iff.1 d).1;have c:(DS s b).2.2=false:=by
   unfold Lp at a;split at a
   .simp only[OL]at a;exact NO (Bool.or_eq_false_iff.1 a).1
   .exact a
  have e:(Gz s b).2.2=false:=by
   unfold DS at c;split at c
   .exact NO c
   .exact c
  rw[e]at h;cases h
theorem Lr(h:(IX s a).2.2=true):(Gz s a).2.2=true:=by unfold Gz;rw[h,GL]
theorem PK(h:(IW s a).2.2=true):(IX s a).2.2=true:=by unfold IX;rw[h,GL]
theorem VI(h:Lo s a=true):(IW s a).2.2=true:=by unfold IW;rw[h,GL]
theorem FW(h:Lo s a=true):DT s a=true:=IY (Lr (PK (VI h)))
theorem VJ(h:¬(1<=a/\a<=8)):DT s a=true:=by refine FW ?_;unfold Lo Ln;rw[show PI a=true by unfold PI;simp;omega,GL];rfl
theorem WY(b:1<=a)(c:a<=8):PI a=false:=by unfold PI;simp[b,c]
theorem WZ(a:UInt8):FB [a]=(a.toNat:Int):=by simp[FB]
theorem XB(a b c d:UInt8):FB [a,b,c,d]=(a.toNat:Int) *16777216+(b.toNat:Int) *65536+(c.toNat:Int) *256+(d.toNat:Int):=by simp only[FB,foldl_cons,foldl_nil];omega
theorem Aan(b:1<=a)(c:a<=8):DT (AI []) a=true:=by refine FW ?_;unfold Lo Ln;rw[WY b c,Fc [] _ Yu];rfl
theorem Kx{b:Int}(a:UInt8)(l:List UInt8)(c:1<=b)(d:b<=8):Ln (AI (a::l)) b=(AI [a],AI l,false):=by unfold Ln;rw[WY c d,Ek _ _ Yu];rfl
theorem Uu{b:Int}(a:UInt8)(l:List UInt8)(c:1<=b)(d:b<=8):IG (AI (a::l)) b=(a.toNat:Int):=by unfold IG;rw[Kx a l c d];exact WZ a
theorem GU{b:Int}(a:UInt8)(l:List UInt8)(c:1<=b)(d:b<=8):Lo (AI (a::l)) b= !Gp (a.toNat:Int):=by unfold Lo;rw[Kx a l c d,Uu a l c d];rfl
theorem VK(a:UInt8)(l:List UInt8)(b:1<=d)(c:d<=8)(e:l.length<4):DT (AI (a::l)) d=true:=by
 cases hk:Gp (a.toNat:Int)with
 |false=>exact FW (by rw[GU a l b c,hk];rfl)
 |true=>refine IY (Lr (PK ?_));unfold IW;rw[GU a l b c,hk,Kx a l b c];rw[show(!true)=false from rfl,Fc l _ Yv]
theorem SE(b c d e f:UInt8)(l:List UInt8)(g:1<=a)(h:a<=8)(i:Gp (b.toNat:Int)=true):IW (AI (b::c::d::e::f::l)) a=(AI [c,d,e,f],AI l,false):=by unfold IW;rw[GU _ _ g h,i,Kx _ _ g h];rw[show(!true)=false from rfl,Ek _ _ Yu];rfl
theorem VL{b:Int}(a c d e f:UInt8)(g:1<=b)(h:b<=8)(i:Gp (a.toNat:Int)=true):DT (AI [a,c,d,e,f]) b=true:=by refine IY (Lr ?_);unfold IX;rw[SE a c d e f [] g h i,Fc [] _ Yu]
theorem SF{c:Int}(a d e f g b:UInt8)(T:List UInt8)(h:1<=c)(i:c<=8)(j:Gp (a.toNat:Int)=true):IX (AI (a::d::e::f::g::b::T)) c=(AI [b],AI T,false):=by unfold IX;rw[SE a d e f g (b::T) h i j,Ek _ _ Yu];rfl
theorem Aao{c:Int}(b d e f g a:UInt8)(T:List UInt8)(h:1<=c)(i:c<=8)(j:Gp (b.toNat:Int)=true):e_m (AI (b::d::e::f::g::a::T)) c=(a.toNat:Int):=by unfold e_m;rw[SF b d e f g a T h i j];exact WZ a
theorem VM(a c d e f b:UInt8)(T:List UInt8)(h:1<=g)(i:g<=8)(j:Gp (a.toNat:Int)=true)(k:T.length<b.toNat):DT (AI (a::c::d::e::f::b::T)) g=true:=by refine IY ?_;unfold Gz;rw[Aao a c d e f b T h i j,SF a c d e f b T h i j,Fc T _ Yv]
theorem Abu(b c d e f a:UInt8)(T:List UInt8)(h:1<=g)(i:g<=8)(j:Gp (b.toNat:Int)=true)(k:a.toNat<=T.length):Gz (AI (b::c::d::e::f::a::T)) g=(AI (T.take a.toNat),AI (T.drop a.toNat),false):=by unfold Gz;rw[Aao b c d e f a T h i j,SF b c d e f a T h i j,Ek T _ k]
theorem Acq{f:Int}(a b c d e:UInt8)(l:List UInt8)(g:1<=f)(h:f<=8)(i:Gp (a.toNat:Int)=true):WX (AI (a::b::c::d::e::l)) f=FB [b,c,d,e]:=by unfold WX;rw[SE a b c d e l g h i]
theorem GV(a:UInt8)(x:Int)(h:x=(a.toNat:Int)):u8 x=a:=by subst h;simp[u8]
theorem VN(e a b c d f:UInt8):Cm (e.toNat:Int) (FB [a,b,c,d]) (f.toNat:Int)=[e,a,b,c,d,f]:=by have g:=a.toNat_lt;have h:=b.toNat_lt;have i:=c.toNat_lt;have j:=d.toNat_lt;unfold Cm;rw[XB];rw[GV e _ rfl,GV f _ rfl,GV a _ Yv,GV b _ Yv,GV c _ Yv,GV d _ Yv]
theorem YL{k:Nat}(h:Gp (k:Int)=true):1<=k/\k<=7:=by unfold Gp at h;simp at h;omega
theorem YM{b a:Zi}{n:Int}{c:Zl}(h:Gp k=false):Bp k b a n t c d=false:=by unfold Bp;unfold Gp at h;rw[h];rfl
theorem NP{k:Nat}{b a:Zi}{n:Int}{c:Zl}(h:Bp (k:Int) b a n t c d=true):CI k b a n t c d=true:=by unfold Bp at h;exact(Bool.and_eq_true_iff.1 h).2
theorem RD{k:Nat}{b a:Zi}{n:Int}{e:Zl}(h:Bp (k:Int) b a n t e d=true):DJ (DF k) b d=true:=by have c:=NP h;unfold CI at c;exact(Bool.and_eq_true_iff.1 (Bool.and_eq_true_iff.1 c).2).1
theorem SG(h:(AI l).size=0):AI l=⟨#[]⟩:=by rw[BW]at h;rw[Bl h]
theorem Mg{k:Nat}{b a:Zi}{n:Int}{c:Zl}(h:Bp (k:Int) b a n t c d=true):CY k b a n t c d=AI l↔Ej k b a n t c=l:=by
 unfold CY;rw[if_pos h,Int.toNat_natCast];constructor
 .intro e;have:=congrArg (λs:Zi=>s.data.toList) e;simpa using this
 .intro e;rw[e]
theorem NQ(b f g i j c:UInt8)(T:List UInt8)(B:1<=a)(C:a<=8)(R:c.toNat<=T.length):
 Bo (AI (b::f::g::i::j::c::T)) a=
  if PJ (b.toNat:Int) (FB [f,g,i,j]) (T.take c.toNat) (T.drop c.toNat) (b::f::g::i::j::c::T) a=true then
   ⟨(b.toNat:Int),Ur (b.toNat:Int) (T.drop c.toNat),AI (T.take c.toNat),FB [f,g,i,j],Us (b.toNat:Int) (T.drop c.toNat) a,Ut (b.toNat:Int) (T.drop c.toNat) a,true⟩
  else Iu:=by
 cases hk:Gp (b.toNat:Int)with
 |false=>unfold Bo;rw[if_pos (FW (by rw[GU _ _ B C,hk];rfl)),if_neg (by unfold PJ;rw[YM hk];simp)]
 |true=>
  have⟨S,U⟩:=YL hk;have k:=Abu b f g i j c T B C hk R;have o:=Uu b (f::g::i::j::c::T) B C;have w:=Acq b f g i j (c::T) B C hk;have M:(AI (T.take c.toNat)).size=c.toNat:=by rw[BW];simp;omega
  have F:∀x:List UInt8,Cm (b.toNat:Int) (FB [f,g,i,j]) ((AI (T.take c.toNat)).size:Int)++(AI (T.take c.toNat)).data.toList++x=(b::f::g::i::j::c::T)↔x=T.drop c.toNat:=by
   intro x;rw[M,VN];constructor
   .intro h;have P:T.take c.toNat++x=T:=D2 h
    have Q:T.take c.toNat++x=T.take c.toNat++T.drop c.toNat:=by rw[P,take_append_drop]
    exact append_cancel_left Q
   .intro h;rw[h];simp
  generalize hs:(AI (b::f::g::i::j::c::T))=s at *
  generalize hnm:AI (T.take c.toNat)=name at *
  generalize hrs:T.drop c.toNat=rest at *
  generalize hn:FB [f,g,i,j]=n at *
  by_cases hk1:b.toNat=1
  .
   have y:MS (IG s a)=false:=by rw[o,hk1];rfl
   have z:JP (IG s a)=true:=by rw[o,hk1];rfl
   have d:DS s a=(⟨#[]⟩,AI rest,false):=by unfold DS;rw[if_neg (by rw[y];decide),k]
   have H:Pp (AI rest) false=AI rest:=by unfold Pp;rw[BW,Ek _ _ (Zx)];simp
   have N:Pq (AI rest) false=⟨#[]⟩:=by unfold Pq;rw[BW,Ek _ _ (Zx)];simp
   have J:OL (AI rest) false a= !(rd (AI rest) a).2.2:=by unfold OL;rw[H,BW,Ek _ _ (Zx)];rfl
   have p:JQ s a=((rd (AI rest) a).1,(rd (AI rest) a).2.1):=by unfold JQ;rw[if_pos z,d];simp only[H]
   have q:Lp s a=(⟨#[]⟩, !(rd (AI rest) a).2.2):=by unfold Lp;rw[if_pos z,d];simp only[N,J]
   have t:MT s a=Bp (b.toNat:Int) ⟨#[]⟩ name n (rd (AI rest) a).1 (rd (AI rest) a).2.1 a:=by unfold MT;rw[o,w,k,d,p]
   have r:DT s a=(!(rd (AI rest) a).2.2|| !Bp (b.toNat:Int) ⟨#[]⟩ name n (rd (AI rest) a).1 (rd (AI rest) a).2.1 a):=by unfold DT Lq;rw[t,q];simp[ByteArray.size]
   have u:((b.toNat:Int)=1):=Yv
   unfold Bo PJ Ur Us Ut;rw[if_pos u,if_pos u,if_pos u,hnm,r,o,d,k,w,p];simp only;cases m:Bp (b.toNat:Int) ⟨#[]⟩ name n (rd (AI rest) a).1 (rd (AI rest) a).2.1 a with
   |false=>simp
   |true=>
    have D:=Mg (l:=b::f::g::i::j::c::T) m;have O:=(Gg (NP m)).fp hk1;have K:Ej b.toNat ⟨#[]⟩ name n (rd (AI rest) a).1 (rd (AI rest) a).2.1=(b::f::g::i::j::c::T)↔Ch (rd (AI rest) a).1 (rd (AI rest) a).2.1=rest:=by rw[<-F];unfold Ej;rw[if_pos hk1];simp
    rw[K]at D;have L:Ch (rd (AI rest) a).1 (rd (AI rest) a).2.1=rest↔(rd (AI rest) a).2.2=true:=by
     constructor
     .intro e;have:=QG O;rw[e]at this;rw[this]
     .intro e;exact(Vr e).2
    rw[L]at D;cases hr:(rd (AI rest) a).2.2 with
    |true=>rw[if_neg Yu,if_pos (by simp;exact D.2 hr)]
    |false=>rw[if_pos Yu,if_neg (by simp;intro h;have:=D.1 h;rw[hr]at this;cases this)]
  .have z:JP (IG s a)=false:=by rw[o];unfold JP CK;simp[hk1]
   have u:¬((b.toNat:Int)=1):=Yv
   have p:JQ s a=(⟨#[]⟩,[]):=by unfold JQ;rw[if_neg (by rw[z];decide)]
   have q:Lp s a=(DS s a).2:=by unfold Lp;rw[if_neg (by rw[z];decide)]
   have v:∀E,Bp (b.toNat:Int) E name n ⟨#[]⟩ [] a=true->E=AI rest->CY (b.toNat:Int) E name n ⟨#[]⟩ [] a=s:=by intro E m e;rw[<-hs];refine(Mg (l:=b::f::g::i::j::c::T) m).2 ?_;unfold Ej;rw[if_neg hk1,e,append_nil];exact(F rest).2 rfl
   unfold Bo PJ Ur Us Ut;rw[if_neg u,if_neg u,if_neg u,hnm,hs];cases hu:DF b.toNat with
   |true=>
    have y:MS (IG s a)=true:=by rw[o];unfold MS;rw[hk,Int.toNat_natCast,hu];rfl
    have d:DS s a=DC (AI rest) false a:=by unfold DS;rw[if_pos y,k]
    obtain⟨W,rfl⟩:∃W:Nat,a=W:=⟨a.toNat,Yv⟩;by_cases hsz:rest.length=W
    .rw[Ek rest W Yv,Zt Yv,drop_of_length_le Yv]at d;have t:MT s W=Bp (b.toNat:Int) (AI rest) name n ⟨#[]⟩ [] W:=by unfold MT;rw[o,w,k,d,p]
     have r:DT s W= !Bp (b.toNat:Int) (AI rest) name n ⟨#[]⟩ [] W:=by unfold DT Lq;rw[t,q,d];simp[ByteArray.size]
     rw[r,o,d,k,w,p];simp only;cases m:Bp (b.toNat:Int) (AI rest) name n ⟨#[]⟩ [] W with
     |false=>simp
     |true=>rw[if_neg Yu,if_pos (by simp;exact v _ m rfl)]
    .have A:Bp (b.toNat:Int) (AI rest) name n ⟨#[]⟩ [] W=false:=by
      cases m:Bp (b.toNat:Int) (AI rest) name n ⟨#[]⟩ [] W with
      |false=>rfl
      |true=>have:=RD m;rw[hu]at this;unfold DJ at this;rw[if_pos rfl,BW]at this;simp at this;omega
     have I:DT s W=true:=by
      unfold DT Lq;rw[q,d];by_cases hl:rest.length<W
      .rw[Fc rest _ Yv];simp
      .rw[Ek rest W Yv];have:(AI (rest.drop W)).size≠0:=by rw[BW];simp;omega
       simp[this]
     rw[if_pos I,if_neg (by rw[A];simp)]
   |false=>
    have y:MS (IG s a)=false:=by rw[o];unfold MS;rw[hk,Int.toNat_natCast,hu];rfl
    have d:DS s a=(⟨#[]⟩,AI rest,false):=by unfold DS;rw[if_neg (by rw[y];decide),k]
    by_cases hsz:rest.length=0
    .have G:=SG (by rw[BW];exact hsz);have t:MT s a=Bp (b.toNat:Int) (AI rest) name n ⟨#[]⟩ [] a:=by unfold MT;rw[o,w,k,d,p,G]
     have r:DT s a= !Bp (b.toNat:Int) (AI rest) name n ⟨#[]⟩ [] a:=by unfold DT Lq;rw[t,q,d];simp[BW,hsz]
     rw[r,o,d,k,w,p];simp only;cases m:Bp (b.toNat:Int) (AI rest) name n ⟨#[]⟩ [] a with
     |false=>simp
     |true=>rw[if_neg Yu,if_pos (by simp;exact v _ m rfl),G]
    .have A:Bp (b.toNat:Int) (AI rest) name n ⟨#[]⟩ [] a=false:=by
      cases m:Bp (b.toNat:Int) (AI rest) name n ⟨#[]⟩ [] a with
      |false=>rfl
      |true=>have:=RD m;rw[hu]at this;unfold DJ at this;rw[if_neg Yq,BW]at this;simp at this;simp[this]at hsz
     have I:DT s a=true:=by
      unfold DT Lq;rw[q,d];have:(AI rest).size≠0:=by rw[BW];exact hsz
      simp[this]
     rw[if_pos I,if_neg (by rw[A];simp)]
end
def Ec(s:Zi)(wd:Int)(w:Zh)(e:Ending)(w':Zh):Prop:=
 ∃v,e=.returned (.tuple #[.agg #[Zg (Bo s wd).k,.string (Bo s wd).sum,.string (Bo s wd).name,Zg (Bo s wd).n,.string (Bo s wd).t,v],.bool (Bo s wd).ok])/\
  w'.ownsRow w.1.size 9 1 v (Bo s wd).ss.length ((Bo s wd).ss.map Value.string)/\Zz w w'
theorem IZ(n:Int)(w:Zh):
 D8 21 #[Zg n] w λe a=>e=C5 (.bool (decide (1<=n/\n<=8)))/\a=w:=by
 by_cases h1:1<=n
 .by_cases h2:n<=8
  .go_enter func21,ntmps21;go_wp2;go_ret;exact⟨AF (by simp[h1,h2]),rfl⟩
  .have b:decide (n<=8)=false:=D2 h2
   go_enter func21,ntmps21;go_wp2;go_ret;exact⟨rfl,rfl⟩
 .have a:decide (1<=n)=false:=D2 h1
  go_enter func21,ntmps21;go_wp2;go_ret;exact⟨rfl,rfl⟩
theorem NR(h:¬(1<=a/\a<=8)):Bo s a=Iu:=by unfold Bo;rw[if_pos (VJ h)]
theorem NT{e:Int}(b:1<=e)(c:e<=8)(d:l.length<6):Bo (AI l) e=Iu:=by
 unfold Bo;rw[if_pos]
 match l,d with
 |[],_=>exact Aan b c
 |a::l,d=>
  by_cases h4:l.length<4
  .exact VK a l b c h4
  .cases hk:Gp (a.toNat:Int)with
   |false=>exact FW (by rw[GU _ _ b c,hk];rfl)
   |true=>
    match l,d,h4 with
    |[a1,a2,a3,a4],_,_=>exact VL a a1 a2 a3 a4 b c hk
    |[],_,h4=>simp at h4
    |[_],_,h4=>simp at h4
    |[_,_],_,h4=>simp at h4
    |[_,_,_],_,h4=>simp at h4
theorem PL{a d e f g b:UInt8}{T:List UInt8}{c:Int}(h:1<=c)(i:c<=8)(j:T.length<b.toNat):Bo (AI (a::d::e::f::g::b::T)) c=Iu:=by
 unfold Bo;rw[if_pos];cases hk:Gp (a.toNat:Int)with
 |false=>exact FW (by rw[GU _ _ h i,hk];rfl)
 |true=>exact VM a d e f g b T h i hk j
theorem Hk{b:Int}{a:Zh}(h:Bo s b=Iu)(c:Zz w a):Ec s b w (.returned (.tuple #[.agg Ye,.bool false])) a:=by unfold Ec;rw[h];exact⟨Zb,rfl,ownsRow_nil _ _ _ _,c⟩
theorem SH(s:Zi)(a:Int)(w:Zh)(h:¬(1<=a/\a<=8)):
 D8 131 #[C4 s,Zg a] w (Ec s a w):=by
 have d:decide (1<=a/\a<=8)=false:=D2 h
 have HN:=Yw (NR (s:=s) h);clear h;go_enter func131,ntmps131;go_wp2_with (go_at_call 21;refine(IZ a _).aj ?_;rintro e c ⟨rfl,b⟩;rw[b];clear b c);exact C0 (.tuple #[.agg Ye,.bool false]) (by simp[results,results131,go_sem]) (Hk HN (Zy))
theorem SI(s:Zi)(a:Int)(w:Zh)(c:1<=a)(d:a<=8)(f:s.size<6):
 D8 131 #[C4 s,Zg a] w (Ec s a w):=by
 have i:decide (1<=a/\a<=8)=true:=by simp[c,d]
 have h:decide ((s.size:Int)<6)=true:=Yt
 have HN:=Yw (NT (l:=s.data.toList) c d f);go_enter func131,ntmps131;go_wp2_with (go_at_call 21;refine(IZ a _).aj ?_;rintro e g ⟨rfl,b⟩;rw[b];clear b g);exact C0 (.tuple #[.agg Ye,.bool false]) (by simp[results,results131,go_sem]) (Hk HN (Zy))
theorem SJ(s:Zi)(a:Int)(w:Zh)(q:s.size<=1048576)(g:1<=a)(h:a<=8)(b:Nat)(n:6<=s.size)(d:s[5].toNat=b)(c:Bo s a=Iu)(p:s.size<6+b):
 D8 131 #[C4 s,Zg a] w (Ec s a w):=by
 have o:decide (1<=a/\a<=8)=true:=by simp[g,h]
 have j:decide ((s.size:Int)<6)=false:=Yt
 have l:(5:Int)<s.size:=Yv
 have k:decide ((s.size:Int)<6+(b:Int))=true:=Yt
 have m:b<256:=by rw[<-d];exact s[5].toNat_lt
 have f:=CQ s[5];rw[d]at f;have HN:=Yw c;clear c;go_enter func131,ntmps131;go_wp2_with (go_at_call 21;refine(IZ a _).aj ?_;rintro e i ⟨rfl,c⟩;rw[c];clear c i);exact C0 (.tuple #[.agg Ye,.bool false]) (by simp[results,results131,go_sem]) (Hk HN (Zy))
theorem SK(s:Zi)(b:Int)(c r t y P k:Nat)(w:Zh)(Z:s.size<=1048576)(F:1<=b)(L:b<=8)(h6:6<=s.size)(G:s[0].toNat=c)(H:s[1].toNat=r)(I:s[2].toNat=t)(J:s[3].toNat=y)(K:s[4].toNat=P)(E:s[5].toNat=k)(hf:6+k<=s.size)(a m:Zi)(j:s.extract 6 (6+k)=a)(Q:s.extract (6+k) s.size=m)(n:Int)(v:(r:Int) *16777216+(t:Int) *65536+(y:Int) *256+(P:Int)=n)(i g:Zi)(d:Zl)(X:i=if (c:Int)=1 then ⟨#[]⟩else m)(Y:g=if (c:Int)=1 then (rd m b).1 else ⟨#[]⟩)(u:d=if (c:Int)=1 then (rd m b).2.1 else [])(e:Bo s b=if (Bp c i a n g d b&&decide (CY c i a n g d b=s))=true then ⟨c,i,a,n,g,d,true⟩else Iu):
 D8 131 #[C4 s,Zg b] w (Ec s b w):=by
 have hd:decide (1<=b/\b<=8)=true:=by simp[F,L]
 have M:decide ((s.size:Int)<6)=false:=Yt
 have h:(5:Int)<s.size:=Yv
 have O:decide ((s.size:Int)<6+(k:Int))=false:=Yt
 have l:c<256:=by rw[<-G];exact s[0].toNat_lt
 have o:r<256:=by rw[<-H];exact s[1].toNat_lt
 have q:t<256:=by rw[<-I];exact s[2].toNat_lt
 have x:y<256:=by rw[<-J];exact s[3].toNat_lt
 have z:P<256:=by rw[<-K];exact s[4].toNat_lt
 have B:k<256:=by rw[<-E];exact s[5].toNat_lt
 have R:=CQ s[0];have S:=CQ s[1];have T:=CQ s[2];have U:=CQ s[3];have V:=CQ s[4];have N:=CQ s[5];rw[G]at R;rw[H]at S;rw[I]at T;rw[J]at U;rw[K]at V;rw[E]at N;have A:=Yw (Zn l (Zn o (Zn q (Zn x z))));have D:=Yw (Zn R (Zn S (Zn T (Zn U V))));have C:=Yw (Zn G (Zn H (Zn I (Zn J K))));have HX:=Yw (Zn Z (Zn F L));have f:=Yw (Zn j (Zn Q (Zn v (Zn X (Zn Y (Zn u e))))));clear j Q v X Y u e
 clear l o q x z R S T U V G H I J K;have⟨W,j⟩:=D6 w Ye 32;have Q:=(AE j).1;have hz:w.1.size<W.1.size:=by rw[j];simp
 have R0:Hid (Aa W _ _):=(AE j).2.2;have u:=Yw j;clear j;go_enter func131,ntmps131;go_upto_region 1 with fail;rw[<-u.o];clear u;go_upto_region 3 with(go_at_call 21;refine(IZ b _).aj ?_;rintro e u ⟨rfl,j⟩;rw[j];clear j u);go_cut [6] (λv u=>v=Yy W.1.size/\u=(W.alloc (.cells #[Zg (c:Int),Zc,Zc,Zg n,Zc,Zb] 32)).drew)
 case first=>
  have⟨l,o,q,x,z⟩:=A.o;have m1:=GI ((r:Int) *16777216) Yv Yv;have m2:=GI ((t:Int) *65536) Yv Yv;have m3:=GI ((y:Int) *256) Yv Yv;have p1:=GI ((r:Int) *16777216+(t:Int) *65536) Yv Yv;have p2:=GI ((r:Int) *16777216+(t:Int) *65536+(y:Int) *256) Yv Yv
  have p3:=GI ((r:Int) *16777216+(t:Int) *65536+(y:Int) *256+(P:Int)) Yv Yv;have l0:(0:Int)<s.size:=Yv
  have l1:(1:Int)<s.size:=Yv
  have l2:(2:Int)<s.size:=Yv
  have l3:(3:Int)<s.size:=Yv
  have l4:(4:Int)<s.size:=Yv
  have⟨R,S,T,U,V⟩:=D.o;have⟨G,H,I,J,K⟩:=C.o;clear l o q x z B O M hd;have j:=Yw (Zn E (Zn N h));clear N h
  go_big_region
  go_wp2_with fail;go_meet;exact⟨rfl,by rw[f.2.2.1]⟩
 case rest=>
 revert wc;intro W3 hcut;obtain⟨rfl,l⟩:=hcut;have zB:=hf;clear B O M hd A D C HX;have q:Below W.1.size W W3:=by rw[l];exact(Zy).drew
 have D:Aa W3 W.1.size [Zg (c:Int),Zc,Zc,Zg n,Zc,Zb]:=by rw[l];exact Aa.new W _ _
 have R3:=R0.A q;have B3:=Q.ah (q.aj (Nat.le_of_lt hz));have⟨B,M⟩:=Ae W.1.size;rw[<-M]at D;have HB:=Yw M;obtain⟨x,zF⟩:=D 2 _ rfl;have C:w.1.size<B:=Yv
 have⟨A,j⟩:=D7 W3 B 2 (C4 a);have o:Hid (Aa A B [Zg (c:Int),Zc,C4 a,Zg n,Zc,Zb]):=by rw[j];exact D.set 2 _
 have R4:Hid (Aa A w.1.size Yb):=by rw[j];exact R3.aw (Av _ _ _ _) Yv
 have z:Hid (Zz w A):=by rw[j];exact B3.setCell (p:=⟨B,2,none⟩) (Nat.le_of_lt C) _
 have O:=Yw j;have X:=Yw f.1;have Y:=Yw f.2.1;rw[<-M];clear l q j R3 B3 M D;have e6:((6:Int)+(k:Int)).toNat=6+k:=Yv
 have l:(6:Int)<=6+(k:Int):=Yv
 have q:(6:Int)+(k:Int)<=(s.size:Int):=Yv
 go_upto_region 6 with fail;rw[X.o,Y.o,<-O.o];have M:m.size<=1048576:=by rw[<-Y.o];simp;omega
 have zE:a.size<=1048576:=by rw[<-X.o];simp;omega
 have j:=HB.symm;clear O X Y x zF e6 l q N h R0 Q hz j HB;clear E;clear hf zB h6;have HX:=Yw (Zn Z (Zn F L));clear Z F L;obtain⟨q,_⟩:=o 0 _ rfl
 go_upto_if 63 with fail
 go_cut [] (λu=>∃(j:Zk) (l:Nat),Hid (Aa u B (Yc (c:Int) i a n g j d.length l))/\Hid (Aa u w.1.size Yb)/\Hid (u.ownsRow (w.1.size+1) 9 1 (C1 j d l) d.length (d.map string))/\Hid (Zz w u))
 case first=>
  by_cases hk:(c:Int)=1
  .have e1:Hid (i=⟨#[]⟩):=by show _=_;rw[f.2.2.2.1,if_pos hk]
   have e2:Hid (g=(rd m b).1):=by show _=_;rw[f.2.2.2.2.1,if_pos hk]
   have Q:Hid (d=(rd m b).2.1):=by show _=_;rw[f.2.2.2.2.2.1,if_pos hk]
   have hq:((c:Int)==1)=true:=D2 hk
   have HK:=Yw hk;clear hk;go_wp2_with fail;have D:=TO m b A M;unfold FQ at D;refine D.aj ?_;rintro e N ⟨v,rfl,ho,u⟩;rw[<-Q.o]at ho;rw[<-e2.o];have⟨j,l,hv,_⟩:=JB ho;subst hv;have Z5:=Aa.A o u;have R5:=Aa.A R4 u;have Z:=o.lt;obtain⟨E,zI⟩:=Z5 4 _ rfl;obtain⟨F,zJ⟩:=Z5 5 _ rfl;have B5:=z.ah (u.aj z.size);clear D u q hq;go_wp2_with fail;go_meet;refine⟨j,l,?_,?_,?_,?_⟩
   .rw[e1.o];exact(Z5.set 4 _).set 5 _
   .exact(R5.aw (Av _ B 4 _) Yv).aw (Av _ B 5 _) Yv
   .exact(ownsRow_setCell_below (ownsRow_setCell_below ho Z _) Z _).aj Yv
   .exact(B5.setCell (p:=⟨B,4,none⟩) (Nat.le_of_lt C) _).setCell (p:=⟨B,5,none⟩) (Nat.le_of_lt C) _
  .have e1:Hid (i=m):=by show _=_;rw[f.2.2.2.1,if_neg hk]
   have e2:Hid (g=⟨#[]⟩):=by show _=_;rw[f.2.2.2.2.1,if_neg hk]
   have Q:Hid (d=[]):=by show _=_;rw[f.2.2.2.2.2.1,if_neg hk]
   have hq:((c:Int)==1)=false:=D2 hk
   obtain⟨D,zH⟩:=o 1 _ rfl;have HK:=Yw hk;clear hk;go_wp2_with fail;go_meet;refine⟨none,0,?_,?_,?_,?_⟩
   .rw[e1.o,e2.o,Q.o];exact o.set 1 _
   .exact R4.aw (Av _ B 1 _) Yv
   .rw[Q.o];exact ownsRow_nil _ _ _ _
   .exact z.setCell (p:=⟨B,1,none⟩) (Nat.le_of_lt C) _
 case rest=>
 revert wc;intro w6 hcut;obtain⟨j,l,Z6,R6,h,Y⟩:=hcut;clear o R4 z q;obtain⟨q,D,x,O,E,F⟩:=Aa.c6 Z6 0 1 2 3 4 5;have u:d.length<=255:=by
  rw[f.2.2.2.2.2.1];split
  .exact Abq _ _
  .exact Az _
 have X:g.size<=maxLen:=by
  rw[f.2.2.2.2.1];unfold maxLen;split
  .have:=YK m b;omega
  .exact Az _
 have o:a.size<=maxLen:=Yo
 have L:Hid (Af w6 w6.1.size j d):=by have⟨a',c',hv,hr⟩:=JB h;cases hv;exact hr
 have z:=Yw (Zn u (Zn X o));clear u X o M zE;go_wp2_with fail;refine(Sf (c:Int) i a n g j l d b w6 L (Dz z.1) z.2.1 z.2.2).aj ?_;rintro e X ⟨rfl,o⟩;have Z7:Hid (Aa X B (Yc (c:Int) i a n g j d.length l)):=Z6.A o;have u:Hid (Aa X w.1.size Yb):=R6.A o
 have O7:Hid (X.ownsRow (w.1.size+1) 9 1 (C1 j d l) d.length (d.map string)):=h.kept (Ag none o) (Classical.em _);have B7:=Yw (Y.ah (o.aj Y.size));have S7:=Yw (Af.T L o);clear Z6 R6 h Y L o q D x O E F;obtain⟨q,D,x,O,E,F⟩:=Aa.c6 Z7 0 1 2 3 4 5;cases hok:Bp (c:Int) i a n g d b with
 |false=>
  have L:Hid (Bo s b=Iu):=by show _=_;rw[f.2.2.2.2.2.2,if_neg (by rw[hok];simp)]
  obtain⟨r0,q0⟩:=u 0 _ rfl;obtain⟨r1,q1⟩:=u 1 _ rfl;obtain⟨r2,q2⟩:=u 2 _ rfl;obtain⟨r3,q3⟩:=u 3 _ rfl;obtain⟨r4,q4⟩:=u 4 _ rfl;obtain⟨r5,q5⟩:=u 5 _ rfl;clear q D x O E F hok;go_wp2;refine C0 (.tuple #[.agg Ye,.bool false]) (by simp[results,results131,go_sem, *]) ?_;refine Hk L ?_
  iterate 6 (refine Below.setCell ?_ (show w.1.size<=w.1.size from Zx) _)
  exact B7.o
 |true=>
  have Y:=Yw hok;clear hok;go_wp2_with fail;refine(Pe (c:Int) i a n g j l d b X S7 (Dz z.1) z.2.1 z.2.2).aj ?_;rintro e w8 ⟨rfl,o⟩;have Z8:=Z7.A o;have R8:=u.A o;have h:=O7.kept (Ag none o) (Classical.em _);have M:=B7.ah (o.aj B7.size);clear q D x O E F;obtain⟨q,D,x,O,E,F⟩:=Aa.c6 Z8 0 1 2 3 4 5;obtain⟨r0,q0⟩:=R8 0 _ rfl;obtain⟨r1,q1⟩:=R8 1 _ rfl
  obtain⟨r2,q2⟩:=R8 2 _ rfl;obtain⟨r3,q3⟩:=R8 3 _ rfl;obtain⟨r4,q4⟩:=R8 4 _ rfl;obtain⟨r5,q5⟩:=R8 5 _ rfl;have HC:=Yw (Zn h M);clear Z8 R8 h M o;have⟨M,o⟩:=Ae (CY (c:Int) i a n g d b);rw[<-o];by_cases heq:M=s
  .have L:Hid (Bo s b=⟨c,i,a,n,g,d,true⟩):=by show _=_;rw[f.2.2.2.2.2.2,if_pos (by rw[Y.o,<-o,heq];simp)]
   subst heq;clear o;go_wp2;refine C0 (.tuple #[.agg (Yd (c:Int) i a n g j d.length l),.bool true]) (by simp[results,results131,go_sem, *]) ?_;unfold Ec;rw[L.o];have zA:w.1.size<w.1.size+1:=Nat.lt_succ_self _;refine⟨_,rfl,?_,?_⟩
   .refine ownsRow.aj ?_ (Nat.le_of_lt zA)
    iterate 6 (refine ownsRow_setCell_below ?_ zA _)
    exact HC.1
   .iterate 6 (refine Below.setCell ?_ (show w.1.size<=w.1.size from Zx) _)
    exact HC.2
  .have L:Hid (Bo s b=Iu):=by show _=_;rw[f.2.2.2.2.2.2,if_neg (by rw[Y.o,<-o];simpa using heq)]
   have zC:(M.toList==s.toList)=false:=by rw[beq_eq_false_iff_ne];intro h;rw[ByteArray.toList_eq,ByteArray.toList_eq]at h;exact heq (ByteArray.ext (Array.toList_inj.1 h))
   have zG:(M.toList !=s.toList)=true:=by rw[bne,zC];rfl
   clear o heq;go_wp2;refine C0 (.tuple #[.agg Ye,.bool false]) (by simp[results,results131,go_sem, *]) ?_;refine Hk L ?_
   iterate 6 (refine Below.setCell ?_ (show w.1.size<=w.1.size from Zx) _)
   exact HC.2
theorem SL(s:Zi)(a:Int)(w:Zh)(d:s.size<=1048576):
 D8 131 #[C4 s,Zg a] w (Ec s a w):=by
 by_cases hw:1<=a/\a<=8
 .obtain⟨b,c⟩:=hw;by_cases h6:s.size<6
  .exact SI s a w b c h6
  .obtain⟨l,rfl⟩:∃l,s=AI l:=⟨s.data.toList,rfl⟩;rw[BW]at d h6
   match l,d,h6 with
   |a0::a1::a2::a3::a4::a5::T,d,h6=>
    have e:(AI (a0::a1::a2::a3::a4::a5::T)).size=T.length+6:=by rw[BW];rfl
    by_cases hT:a5.toNat<=T.length
    .refine SK _ a a0.toNat a1.toNat a2.toNat a3.toNat a4.toNat a5.toNat w (by rw[BW];exact d) b c Yv rfl rfl rfl rfl rfl rfl Yv (AI (T.take a5.toNat)) (AI (T.drop a5.toNat)) ?_ ?_ (FB [a1,a2,a3,a4]) (XB a1 a2 a3 a4).symm _ _ _ rfl rfl rfl ?_
     .rw[Ha,show 6+a5.toNat -6=a5.toNat by omega];rfl
     .rw[e,Ha];congr 2;rw[show 6+a5.toNat=a5.toNat+6 by omega];show(T.drop a5.toNat).take _=_;exact Zt Yu
     .exact NQ a0 a1 a2 a3 a4 a5 T b c hT
    .exact SJ _ a w (by rw[BW];exact d) b c a5.toNat Yv rfl (PL b c Yv) Yv
   |[],_,h6=>simp at h6
   |[_],_,h6=>simp at h6
   |[_,_],_,h6=>simp at h6
   |[_,_,_],_,h6=>simp at h6
   |[_,_,_,_],_,h6=>simp at h6
   |[_,_,_,_,_],_,h6=>simp at h6
 .exact SH s a w hw
theorem Ih(h:(Bo s a).ok=true):Bp (Bo s a).k (Bo s a).sum (Bo s a).name (Bo s a).n (Bo s a).t (Bo s a).ss a=true/\CY (Bo s a).k (Bo s a).sum (Bo s a).name (Bo s a).n (Bo s a).t (Bo s a).ss a=s:=by
 by_cases hw:1<=a/\a<=8
 .obtain⟨b,c⟩:=hw;obtain⟨l,rfl⟩:∃l,s=AI l:=⟨s.data.toList,rfl⟩;by_cases h6:l.length<6
  .rw[NT b c h6]at h;cases h
  .match l,h6,h with
   |a0::a1::a2::a3::a4::a5::T,h6,h=>
    by_cases hT:a5.toNat<=T.length
    .rw[NQ a0 a1 a2 a3 a4 a5 T b c hT]at h |-;split at h
     case isTrue hc=>
      rw[if_pos hc];unfold PJ at hc;rw[Bool.and_eq_true,decide_eq_true_eq]at hc;exact hc
     case isFalse hc=>cases h
    .rw[PL b c Yv]at h;cases h
   |[],h6,_=>simp at h6
   |[_],h6,_=>simp at h6
   |[_,_],h6,_=>simp at h6
   |[_,_,_],h6,_=>simp at h6
   |[_,_,_,_],h6,_=>simp at h6
   |[_,_,_,_,_],h6,_=>simp at h6
 .rw[NR hw]at h;cases h
structure KTo (w:Zh) (lo g:Nat) (rs:Zj) (ks:List Kd):Prop where
 len:rs.length=ks.length
 ak:w.ownsRow lo 68 4 (.slice (some ⟨g,0,none⟩) ks.length ks.length) ks.length (Ab kC (ks.zip rs))
 B:∀(i:Nat) (k:Kd) (r:Value),ks[i]?=some k->rs[i]?=some r->w.ownsRow (g+1) 9 1 r k.B.length (k.B.map Value.string)
 j:∀r∈rs,∃q n c,r=.slice (some ⟨q,0,none⟩) n c
 inc:(rs.filterMap Value.ownBlock).Pairwise (·<·)
theorem Ls{d:Zk}{a:Zl}(h:w.ownsRow b 9 1 (C3 d a.length i) a.length (a.map string)):Af w w.1.size d a/\(d=none->a.length=0/\i=0):=by
 rcases h.2 with⟨c,f⟩|⟨g,k,l,c,_,_,j,_⟩
 .injection c with e1 e2 e3;subst e1;exact⟨.inl (Bl f),λ_=>⟨f,e3⟩⟩
 .cases c;exact⟨Af.own h,λe=>by cases e⟩
theorem Et.fin{V:Zh}{a:Zk}{t':Zi}{d:Zk}{f:Nat}{L:Zl}(r:t'.size<=TX)(k:L.length<=RF)(q:∀s∈L,s.size<=8)(m:V.ownsRow (Q+1) 9 1 (C3 d L.length f) L.length (L.map string))(o:AD V b a n c g)(h:p<=g)(j:g<=p+K)(l:w.grownBy V (some b))(t:w.1.size<Q)(u:b<w.1.size):
 Et w ((V.setCell (Zd Q 0) (C4 t')).setCell (Zd Q 1) (C3 d L.length f)) (.returned (.agg #[C4 t',C3 d L.length f])) b a n c p K TX RF:=by
 refine⟨⟨t',_,_,L,rfl,r,k,q,?_⟩,⟨g,?_,h,j⟩,?_⟩
 .exact(ownsRow_setCell_below (ownsRow_setCell_below m (a:=⟨Q,0,none⟩) (Nat.lt_succ_self Q) _) (a:=⟨Q,1,none⟩) (Nat.lt_succ_self Q) _).aj Yv
 .exact(o.grown (Av _ Q 0 _) Yv).grown (Av _ Q 1 _) Yv
 .exact(l.andThen (Av _ Q 0 _) (λi e=>by cases e;exact .inl Yv)).andThen (Av _ Q 1 _) (λi e=>by cases e;exact .inl Yv)
theorem JR(b:Nat)(a:Zk)(n c:Nat)(p:Int)(t:Zi)(ra:Zk)(rc:Nat)(d:Zl)(w:Zh)(h:AD w b a n c p)(hp:0<=p)(yX:p<=800000)(K:Af w w.1.size ra d)(zK:ra=none->d.length=0/\rc=0)(ht:t.size<=2000)(hl:d.length<=30)(D:∀s∈d,s.size<=8):
 D8 53 #[Yy b,.agg #[C4 t,C3 ra d.length rc]] w λe f=>Et w f e b a n c p 2 2001 31:=by
 have⟨i0,V,zH,zI,zJ⟩:=info_parts CC;have S:=h.lt;have⟨G,f⟩:=D6 w #[C4 t,C3 ra d.length rc] 30;have o:Below w.1.size w G:=by rw[f];exact Zy
 have I:Aa G w.1.size [C4 t,C3 ra d.length rc]:=by rw[f];exact Aa.new w _ _
 have C:G.1.size=w.1.size+1:=by rw[f];simp
 have⟨W,z⟩:=D6 G #[Zc,Zb] 30;have q:Below G.1.size G W:=by rw[z];exact Zy
 have x:Aa W G.1.size [Zc,Zb]:=by rw[z];exact Aa.new G _ _
 have F:=I.A q;have l:Below w.1.size w W:=o.ah (q.aj o.size);have⟨Q,J⟩:=Ae G.1.size;have R:w.1.size<Q:=Yv
 rw[<-J]at x;have HZ:Hid (w.1.size+1=Q):=by show _=_;omega
 obtain⟨M,_⟩:=F 0 _ rfl;obtain⟨N,_⟩:=F 1 _ rfl;have zU:=Yw f;have HW:=Yw z;have H:Hid (Af W W.1.size ra d):=K.T l;have y:Hid (Aa W Q [Zc,Zb]/\AD W b a n c p/\w.grownBy W (some b)):=⟨x,h.A l,Ag _ l⟩;have yR:Q<W.1.size:=x.lt;clear f z J o q I x F l C h K;go_enter func53,ntmps53;go_upto_region 1 with fail;rw[<-zU.o,<-HW.o,HZ.o];go_wp2_with fail;refine(Gi t ra rc d W H zK Yv).aj ?_
 rintro e w1 ⟨g,I,rfl,x,o⟩;have⟨K,l⟩:=D6 w1 #[C4 t,Yz g d.length I] 30;have q:Below w1.1.size w1 K:=by rw[l];exact Zy
 have f:Below W.1.size W K:=o.ah (q.aj o.size);have⟨B,z⟩:=Ae w1.1.size;have C:Aa K B [C4 t,Yz g d.length I]:=by rw[l,z];exact Aa.new w1 _ _
 have yP:Q<B:=Dz o.size
 have yC:=x.lt g rfl;have yL:g<B:=by rw[z];exact yC.2
 have F:K.ownsRow (Q+1) 9 1 (Yz g d.length I) d.length (d.map string):=(x.kept (Ag none q) (Classical.em _)).aj Yv;have HD:Hid (Aa K Q [Zc,Zb]/\AD K b a n c p/\w.grownBy K (some b)):=⟨y.1.A f,y.2.1.A f,y.2.2.ah (Ag _ f)⟩;have zV:=Yw l;have HB:=Yw z;have HE:=Yw (Zn C F);clear l z q f y H C F x o M N;go_upto_region 2 with fail;rw[<-zV.o,<-HB.o];go_wp2_with fail
 refine(AK b a n c p 5 K HD.2.1 Yv Yv Yv Yv).aj ?_;rintro e f ⟨r,rfl,r0,r1,s3,g3⟩;have x:Hid (Aa f Q [Zc,Zb]/\AD f b a n c (p+1)/\w.grownBy f (some b)):=⟨HD.1.dh g3 Yv,s3,HD.2.2.ah g3⟩;have B3:Hid (Aa f B [C4 t,Yz g d.length I]):=Aa.dh HE.1 g3 Yv;have yU:Q+1<=g:=(ownsRow.lt HE.2 g rfl).1
 have O3:Hid (f.ownsRow (Q+1) 9 1 (Yz g d.length I) d.length (d.map string)):=ownsRow.kept HE.2 g3 (.inr (by simp[ownBlock];omega));have zO:B<f.1.size:=B3.lt;obtain⟨x0,f0⟩:=B3 0 _ rfl;obtain⟨x1,f1⟩:=B3 1 _ rfl;obtain⟨y0,q0⟩:=x.1 0 _ rfl;obtain⟨y1,q1⟩:=x.1 1 _ rfl;have zR:¬B=Q:=Yv
 have yN:¬Q=B:=Yv
 by_cases c0:r=0
 .subst c0;go_wp2_with fail;refine(AK b a n c (p+1) 2 f x.2.1 Yv Yv Yv Yv).aj ?_;rintro e w4 ⟨r',rfl,yG,yH,s4,g4⟩;obtain⟨m,rfl⟩:∃m:Nat,r'=m:=⟨r'.toNat,Yv⟩;have zP:=LQ ⟨#[116]⟩ (2000+m) w4 Yq (by show 1 *(2000+m)<=100000;omega);rw[show((2000+m:Nat):Int)=2000+(m:Int) by omega]at zP;have HM:=Yw zP;have k:=B3.dh g4 Yv
  have Y4:=x.1.dh g4 Yv;have O4:=O3.kept g4 (.inr (by simp[ownBlock];omega));have G4:=x.2.2.ah g4;go_wp2_with fail;refine HM.Ai ?_;rintro e w5 ⟨T,rfl,hT,yF⟩;rw[yF];obtain⟨x0,f0⟩:=k 0 _ rfl;obtain⟨x1,f1⟩:=k 1 _ rfl;obtain⟨y0,q0⟩:=Y4 0 _ rfl;obtain⟨y1,q1⟩:=Y4 1 _ rfl;have HT:Hid (T.size<=2001):=by show _<=_;rw[hT];show 1 *(2000+m)<=2001;omega
  go_wp2;refine C0 (.agg #[C4 T,Yz g d.length I]) (by simp[results,results53,go_sem, *]) ?_;refine Et.fin HT Yv D (O4.kept (Av _ B 0 _) (.inr (by simp[ownBlock];omega))) (s4.grown (Av _ B 0 _) Yv) Yv Yv (G4.andThen (Av _ B 0 _) (λi e=>by cases e;exact .inl Yv)) R S
 .have d0:(r==0)=false:=D2 c0
  by_cases c1:r=1
  .subst c1;go_wp2_with (first
    |(at_builtin;refine wpList_append_own_at _ rfl _ _ 28 rfl (Q+1) 9 i0 Zc 1 16 underlying28 V zH zI zJ rfl Yq _ d.length (d.map string) rfl ?d0 ⟨f.1.size,0,none⟩ 1 1 [C4 ⟨#[120]⟩] rfl rfl ?d1 ?d2 ?d3 ?d4 ?d5 ?_))
   case d0=>exact O3.alloc _
   case d1=>
    intro j u C;cases j with
    |zero=>simp at C;subst C;simp[Addr.add]
    |succ j=>simp at C
   case d2=>intro u C;simp at C;subst C;rfl
   case d3=>unfold maxLen;omega
   case d4=>omega
   case d5=>simp;omega
   intro v' F l q z zB;have⟨y,c6,zG⟩:∃y c6,v'=Yz y (d.length+1) c6:=by
    rcases Joins.ownsRow_forms l with⟨e1,_⟩|hf
    .exact(z e1).elim
    .exact hf
   subst zG;have b6:Below (Q+1) f F:=(Ad.alloc Yv _).grown q Yt (λi V=>by simp[ownBlock]at V;omega);have o:f.grownBy F (some g):=⟨b6.os,b6.tape,b6.output,b6.size,λi V zR=>by
    have h1:=q.block i Yt (by simpa [ownBlock]using zR);rw[h1];exact(Ag none ((Below.refl f.1.size f).alloc (Zx) _)).block i V Yu⟩
   have H:=B3.aw o Yv;have N:=x.1.aw o Yv;have G6:=x.2.2.andThen o (λi e=>by cases e;exact .inl Yv);have S6:=x.2.1.grown o Yv;have yT:=l.lt y rfl;have U:y≠B:=by rcases zB with h|h<;>simp[ownBlock]at h<;>omega
   have O6:F.ownsRow (Q+1) 9 1 (Yz y (d++[ByteArray.mk #[120]]).length c6) (d++[ByteArray.mk #[120]]).length ((d++[ByteArray.mk #[120]]).map string):=by
    have:(d++[ByteArray.mk #[120]]).length=d.length+1:=Yu
    rw[this,map_append];exact l
   have HF:=Yw (Zn G6 (Zn S6 O6));obtain⟨x0,f0⟩:=H 0 _ rfl;obtain⟨x1,f1⟩:=H 1 _ rfl;obtain⟨y0,q0⟩:=N 0 _ rfl;obtain⟨y1,q1⟩:=N 1 _ rfl;go_wp2;refine C0 (.agg #[C4 t,Yz y (d.length+1) c6]) (by simp[results,results53,go_sem, *]) ?_;have J:d.length+1=(d++[ByteArray.mk #[120]]).length:=Yu
   rw[J];refine Et.fin Yv Yt ?_ (HF.2.2.kept (Av _ B 1 _) (.inr (by simp[ownBlock];omega))) (HF.2.1.grown (Av _ B 1 _) Yv) Yv Yv (HF.1.andThen (Av _ B 1 _) (λi e=>by cases e;exact .inl Yv)) R S;intro s Z;rcases A7.1 Z with h|h
   .exact D s h
   .simp at h;subst h;decide
  .have d1:(r==1)=false:=D2 c1
   by_cases c2:r=2
   .subst c2;by_cases hl0:0<d.length
    .have dl:decide ((0:Int)<(d.length:Int))=true:=decide_eq_true Yv;have HX:Hid (d[0]?=some d[0]):=Zv hl0;have yE:d[0]∈d:=getElem_mem hl0;generalize d[0]=X at *
     have cX:f.cell? (Zd g 0)=some (C4 X):=by
      have:=Af.own O3;rcases this with h|⟨b',yZ,e1,_,h3⟩
      .subst h;simp at hl0
      .cases e1;simpa using h3 0 X HX
     have yS:g<f.1.size:=(O3.lt g rfl).2;have zT:=Yw hl0;have yW:(0:Int)<(d.length:Int):=Yv
     have zF:Below f.1.size f (f.alloc (.cells #[C4 X] 9)):=Zy;have O:(f.alloc (.cells #[C4 X] 9)).drew.ownsRow (Q+1) 9 1 (Yz g d.length I) d.length (d.map string):=O3.kept (Ag none zF.drew) (Classical.em _);have L:∀A,(some ⟨f.1.size,0,none⟩:Zk)=some A->∀i s,[X][i]?=some s->(f.alloc (.cells #[C4 X] 9)).drew.cell? (A.add i)=some (C4 s):=by
      intro A e i s D;injection e with e;subst e;cases i with
      |zero=>simp at D;subst D;simp[Addr.add]
      |succ i=>simp at D
     have yK:(f.alloc (.cells #[C4 X] 9)).cell? (Zd B 1)=some (Yz g d.length I):=(zF.cell (p:=⟨B,1,none⟩) zO).ah x1;clear hl0;go_upto_region 10 with fail
     go_region_law (first
      |(refine AA (f.alloc (.cells #[C4 X] 9)).drew rfl (.tmp 37) (.tmp 42) 28 rfl (Q+1) 9 i0 Zc 16 underlying28 V zH zI zJ rfl g d.length I d rfl O (some ⟨f.1.size,0,none⟩) 1 1 [X] rfl rfl (λe=>by cases e) L Yo Yv Yt ?_;intro y c6 F Y E M yM;have o:f.grownBy F (some g):=(Ag (some g) zF.drew).ah E;have H:=B3.aw o Yv;have N:=x.1.aw o Yv;obtain⟨yI,zX⟩:=H 0 _ rfl;obtain⟨yJ,zY⟩:=H 1 _ rfl;obtain⟨y0',q0'⟩:=N 0 _ rfl;obtain⟨y1',q1'⟩:=N 1 _ rfl))
     all_goals
      have U:y≠B:=by
       have:=zO;rcases M with h|h
       .omega
       .simp at h;omega
      have HF:=Yw (Zn (x.2.2.andThen o (λi e=>by cases e;exact .inl Yv)) (Zn (x.2.1.grown o Yv) Y));have yD:=(Y.lt y rfl).1;clear Y E M H N O L yK x0 x1 f0 f1 y0 y1 q0 q1 cX;go_wp2;refine C0 (.agg #[C4 t,Yz y (d.length+1) c6]) (by simp[results,results53,go_sem, *]) ?_;have J:d.length+1=(d++[X]).length:=Yu
      rw[J];refine Et.fin Yv Yt ?_ (ownsRow.kept (by rw[<-J];exact HF.2.2) (Av _ B 1 _) (.inr (by simp[ownBlock];omega))) (HF.2.1.grown (Av _ B 1 _) Yv) Yv Yv (HF.1.andThen (Av _ B 1 _) (λi e=>by cases e;exact .inl Yv)) R S;intro s Z;rcases A7.1 Z with h|h
      .exact D s h
      .simp at h;subst h;exact D _ yE
    .have dl:decide ((0:Int)<(d.length:Int))=false:=decide_eq_false Yv;have zT:=Yw hl0;clear hl0;go_wp2;refine C0 (.agg #[C4 t,Yz g d.length I]) (by simp[results,results53,go_sem, *]) ?_;exact Et.fin (t':=t) (L:=d) (TX:=2001) (RF:=31) Yv Yv D O3 x.2.1 Yv Yv x.2.2 R S
   .have d2:(r==2)=false:=D2 c2
    by_cases c3:r=3
    .subst c3;have zZ:Below f.1.size f (f.alloc (.cells #[] 9)):=Zy;have⟨M,Y⟩:=Ae ((f.setCell (Zd B 1) (Yz f.1.size 0 0)).alloc (.cells #[] 9));have N:f.grownBy M (some B):=by rw[Y];exact(Av _ B 1 _).ah (grownBy_alloc _ _ _)
     have k:Aa M B [C4 t,Yz f.1.size 0 0]:=by rw[Y];exact Aa.A (B3.set 1 _) (Zy)
     have o4:M.ownsRow (Q+1) 9 1 (Yz f.1.size 0 0) 0 (([]:Zl).map string):=by have:=ownsRow_lit (base:=Q+1) (e:=9) (size:=1) (f.setCell (Zd B 1) (Yz f.1.size 0 0)) #[] 0 Yt Yo rfl;rw[size_setCell]at this;rw[Y];exact this
     have E:Hid (Aa M Q [Zc,Zb]/\AD M b a n c (p+1)/\w.grownBy M (some b)):=⟨x.1.aw N Yv,x.2.1.grown N Yv,x.2.2.andThen N (λi e=>by cases e;exact .inl Yv)⟩;have zN:=Yw k;have O:=Yw o4;have zM:=Yw Y;have yO:=N.size;clear Y N k o4 zZ;go_upto_region 13 with fail;rw[<-zM.o];clear zM x0 x1 f0 f1 y0 y1 q0 q1;go_wp2_with fail
     refine(AK b a n c (p+1) 2 M E.2.1 Yv Yv Yv Yv).aj ?_;rintro e w5 ⟨r',rfl,yG,yH,Y,N⟩;obtain⟨m,rfl⟩:∃m:Nat,r'=m:=⟨r'.toNat,Yv⟩;have X5:Hid (Aa w5 B [C4 t,Yz f.1.size 0 0]):=Aa.dh zN N Yv;have E5:Hid (Aa w5 Q [Zc,Zb]/\AD w5 b a n c (p+1+1)/\w.grownBy w5 (some b)):=⟨E.1.dh N Yv,Y,E.2.2.ah N⟩
     have O5:Hid (w5.ownsRow (Q+1) 9 1 (Yz f.1.size 0 0) 0 (([]:Zl).map string)):=O.kept N (.inr (by simp[ownBlock];omega));clear Y N zN E O;go_wp2
     go_loopw [7] (λi wr=>∃(k N ck:Nat) (L:Zl),i=Zg k/\k<=30+m/\L.length=k/\B≠N/\Hid (Aa wr B [C4 t,Yz N L.length ck])/\Hid (∀s∈L,s.size<=8)/\Hid (wr.ownsRow (Q+1) 9 1 (Yz N L.length ck) L.length (L.map string))/\Hid (Aa wr Q [Zc,Zb]/\AD wr b a n c (p+1+1)/\w.grownBy wr (some b))) (λi _=>30+m -(intOf i).toNat)
     case atStart=>exact⟨0,f.1.size,0,[],rfl,Yv,rfl,Yv,X5,(λs D=>by cases D),O5,E5⟩
     case round=>
      obtain⟨k,N,ck,L,rfl,hk,zA,yA,X,HS,O,E⟩:=hrel;have yQ:B<wr.1.size:=X.lt;obtain⟨x0,f0⟩:=X 0 _ rfl;obtain⟨x1,f1⟩:=X 1 _ rfl;have yV:=O.lt N rfl;by_cases hlt:k<30+m
      .have dk:decide ((k:Int)<30+(m:Int))=true:=decide_eq_true Yv;have yY:IntKind.u8.wrap (33+(k:Int))=33+(k:Int):=Ku Yv Yv;have yB:=run_convert_bytes_arg (P:=prog) (wr.alloc (.cells #[.int .u8 (33+(k:Int))] 5)) 22 5 underlying22 underlying5 wr.1.size 0 1 1 [33+(k:Int)] rfl (λi V=>by
        obtain rfl:i=0:=Yv
        simp) 9 underlying9
       have zS:=ED [33+(k:Int)];generalize strOfNums [33+(k:Int)]=T at *
       have zC:Below wr.1.size wr (wr.alloc (.cells #[.int .u8 (33+(k:Int))] 5)):=Zy;have zE:Below wr.1.size wr ((wr.alloc (.cells #[.int .u8 (33+(k:Int))] 5)).alloc (.cells #[C4 T] 9)):=zC.alloc zC.size _;have Y:=Yw zA;clear zA;go_wp2_with (first
        |(at_builtin;refine wpList_append_own_at _ rfl _ _ 28 rfl (Q+1) 9 i0 Zc 1 16 underlying28 V zH zI zJ rfl Yq _ L.length (L.map string) rfl ?d0 ⟨wr.1.size+1,0,none⟩ 1 1 [C4 T] rfl rfl ?d1 ?d2 ?d3 ?d4 ?d5 ?_))
       case d0=>exact O.kept (Ag none zE) (Classical.em _)
       case d1=>
        intro j u C;cases j with
        |zero=>simp at C;subst C;simp[Addr.add]
        |succ j=>simp at C
       case d2=>intro u C;simp at C;subst C;rfl
       case d3=>have:=Y.o;unfold maxLen;omega
       case d4=>have:=Y.o;omega
       case d5=>simp;omega
       intro v' F l q z zB;have⟨y,c6,zG⟩:∃y c6,v'=Yz y (L.length+1) c6:=by
        rcases Joins.ownsRow_forms l with⟨e1,_⟩|hf
        .exact(z e1).elim
        .exact hf
       subst zG;have o:wr.grownBy F (some N):=(Ag (some N) zE).ah (by simpa [ownBlock]using q);have U:B≠y:=by rcases zB with h|h<;>simp[ownBlock]at h<;>omega
       have H:=X.aw o (λe=>yA e.symm);obtain⟨yI,zX⟩:=H 0 _ rfl;obtain⟨yJ,zY⟩:=H 1 _ rfl;have yD:=(l.lt y rfl).1;have HN:Hid (F.ownsRow (Q+1) 9 1 (Yz y (L++[T]).length c6) (L++[T]).length ((L++[T]).map string)):=by
        have:(L++[T]).length=L.length+1:=Yu
        rw[this,map_append];exact l
       have HE:Hid (Aa F Q [Zc,Zb]/\AD F b a n c (p+1+1)/\w.grownBy F (some b)):=⟨E.1.aw o Yv,E.2.1.grown o Yv,E.2.2.andThen o (λi e=>by cases e;exact .inl Yv)⟩;have HT:Hid (∀s∈L++[T],s.size<=8):=by
        intro s Z;rcases A7.1 Z with h|h
        .exact HS s h
        .simp at h;subst h;simp at zS;omega
       have zW:=Yw H;clear l q z zB H yB zS zC zE o x0 x1 f0 f1;go_wp2;have J:(L++[T]).length=L.length+1:=Yu
       refine⟨⟨k+1,y,c6,L++[T],Yn,Yv,by rw[J,Y.o],U,?_,HT,?_,?_⟩,Ys⟩
       .rw[J];exact zW.set 1 _
       .exact HN.kept (Av _ B 1 _) (.inr (by simp[ownBlock];omega))
       .exact⟨HE.1.aw (Av _ B 1 _) Yv,HE.2.1.grown (Av _ B 1 _) Yv,HE.2.2.andThen (Av _ B 1 _) (λi e=>by cases e;exact .inl Yv)⟩
      .obtain rfl:k=30+m:=Yv
       have dk:decide (((30+m:Nat):Int)<30+(m:Int))=false:=decide_eq_false Yv;obtain⟨y0,q0⟩:=E.1 0 _ rfl;obtain⟨y1,q1⟩:=E.1 1 _ rfl;have Y:=Yw zA;clear zA;go_wp2;refine C0 (.agg #[C4 t,Yz N L.length ck]) (by simp[results,results53,go_sem, *]) ?_
       exact Et.fin (t':=t) (L:=L) (TX:=2001) (RF:=31) Yv (Dz Y.o) HS O E.2.1 Yv Yv E.2.2 R S
    .have d3:(r==3)=false:=D2 c3
     go_wp2;refine C0 (.agg #[C4 (t++⟨#[122]⟩),Yz g d.length I]) (by simp[results,results53,go_sem, *]) ?_
     refine Et.fin (by rw[ByteArray.size_append];show t.size+1<=2001;omega) Yv D (O3.kept (Av _ B 0 _) (.inr (by simp[ownBlock];omega))) (x.2.1.grown (Av _ B 0 _) Yv) Yv Yv (x.2.2.andThen (Av _ B 0 _) (λi e=>by cases e;exact .inl Yv)) R S
theorem MU(b:Nat)(a:Zk)(n c:Nat)(p:Int)(t:Zi)(f:Zk)(i:Nat)(d:Zl)(w:Zh)(h:AD w b a n c p)(k:0<=p)(j:p<=800000)(l:Af w w.1.size f d)(g:f=none->d.length=0/\i=0)(r:t.size<=16)(q:d.length<=3)(m:∀s∈d,s.size<=8):
 D8 53 #[Yy b,.agg #[C4 t,C3 f d.length i]] w λe o=>Et w o e b a n c p 2 2001 31:=
 JR b a n c p t f i d w h k j l g Yv Yv m
structure Gq (sum name t:Zi) (ss:Zl) (SM NM TX RF:Nat):Prop where
 fh:sum.size<=SM
 du:name.size<=NM
 dw:t.size<=TX
 lss:ss.length<=RF
 dt:∀s∈ss,s.size<=8
structure FE (w wx:Zh) (b B:Nat) (a:Zk) (n c:Nat) (k:Int) (sum name:Zi) (m:Int) (t:Zi) (ra:Zk) (rc:Nat) (ss:Zl) (p:Int):Prop where
 cB:Aa wx B [Zg k,.string sum,.string name,Zg m,.string t,.slice ra ss.length rc]
 own:wx.ownsRow (w.1.size+1) 9 1 (.slice ra ss.length rc) ss.length (ss.map Value.string)
 dh:∀j,(Value.slice ra ss.length rc).ownBlock=some j->j≠b/\j≠B
 rd:AD wx b a n c p
 cf:Aa wx w.1.size [Ze,Zc,Zc,Ze,Zc,Zb]
 gr:w.grownBy wx (some b)
theorem FE.A{g:Zh}{a:Zk}{d:Zi}{i:Zk}{l:Zl}(h:FE w g b B a n c k f d m t i j l p)(e:Zz g o):FE w o b B a n c k f d m t i j l p:=
 ⟨h.cB.A e,h.own.kept (Ag none e) (Classical.em _),h.dh,h.rd.A e,h.cf.A e,h.gr.ah (Ag _ e)⟩
theorem FE.set{f:Zh}{a:Zk}{o g:Zi}{l:Zk}{d:Zl}(h:FE w f b B a n c k o g m t l rc d p)(r:b<w.1.size)(q:w.1.size<B)(j:Nat)(v:D4):
 (f.setCell (Zd B j) v).ownsRow (w.1.size+1) 9 1 (C3 l d.length rc) d.length (d.map string)/\AD (f.setCell (Zd B j) v) b a n c p/\Aa (f.setCell (Zd B j) v) w.1.size Yb/\w.grownBy (f.setCell (Zd B j) v) (some b):=
 ⟨h.own.kept (Av _ B j _) (by
  cases hv:(C1 l d rc).ownBlock with
  |none=>exact .inl rfl
  |some i=>exact .inr (λe=>(h.dh i hv).2 (A4 e))),h.rd.grown (Av _ B j _) Yv,h.cf.aw (Av _ B j _) Yv,h.gr.andThen (Av _ B j _) (λi e=>by cases e;exact .inl Yv)⟩
theorem QR(b: -1000000<=a)(c:a<=1000000):IntKind.i64.wrap a=a:=by unfold IntKind.wrap;simp[IntKind.signed,IntKind.bits];omega
structure GE (w wx:Zh) (b Q R base:Nat) (a:Zk) (n c:Nat) (k:Int) (sum name:Zi) (m:Int) (t:Zi) (ra:Zk) (rc:Nat) (ss:Zl) (p:Int):Prop where
 cB:Aa wx Q [Zg k,.string sum,.string name,Zg m,.string t,.slice ra ss.length rc]
 own:wx.ownsRow base 9 1 (.slice ra ss.length rc) ss.length (ss.map Value.string)
 dh:∀j,(Value.slice ra ss.length rc).ownBlock=some j->j≠b/\j≠Q/\j≠R
 rd:AD wx b a n c p
 cf:Aa wx R [Ze,Zc,Zc,Ze,Zc,Zb]
 gr:w.grownBy wx (some b)
theorem GE.pick{u r:Zh}{d:Nat}{a:Zk}{i:Zi}{l:Zk}{o:Nat}{q:Zl}{s:Int}(h:GE w u b Q R d a n c k i f m t l o q p)(x:b<Q)(v:b<R)(y:AD r b a n c s)(g:u.grownBy r (some b)):GE w r b Q R d a n c k i f m t l o q s:=
 ⟨h.cB.dh g x,h.own.kept g (by
  cases hv:(C1 l q o).ownBlock with
  |none=>exact .inl rfl
  |some j=>exact .inr (λe=>(h.dh j hv).1 (A4 e))),h.dh,y,h.cf.dh g v,h.gr.ah g⟩
theorem GE.A{g:Zh}{a:Zk}{d:Zi}{i:Zk}{l:Zl}(h:GE w g b Q R base a n c k f d m t i j l p)(e:Zz g o):GE w o b Q R base a n c k f d m t i j l p:=
 ⟨h.cB.A e,h.own.kept (Ag none e) (Classical.em _),h.dh,h.rd.A e,h.cf.A e,h.gr.ah (Ag _ e)⟩
theorem GE.set{f:Zh}{a:Zk}{o g:Zi}{l:Zk}{d:Zl}(h:GE w f b Q R base a n c k o g m t l rc d p)(s:b<Q)(r:w.1.size<=Q)(q:Q≠R)(j:Nat)(v:D4):
 (f.setCell (Zd Q j) v).ownsRow base 9 1 (C3 l d.length rc) d.length (d.map string)/\AD (f.setCell (Zd Q j) v) b a n c p/\Aa (f.setCell (Zd Q j) v) R Yb/\w.grownBy (f.setCell (Zd Q j) v) (some b):=
 ⟨h.own.kept (Av _ Q j _) (by
  cases hv:(C1 l d rc).ownBlock with
  |none=>exact .inl rfl
  |some i=>exact .inr (λe=>(h.dh i hv).2.1 (A4 e))),h.rd.grown (Av _ Q j _) Yv,h.cf.aw (Av _ Q j _) Yv,h.gr.andThen (Av _ Q j _) (λi e=>by cases e;exact .inl Yv)⟩
structure XC (w w':Zh) (e:Ending) (b base:Nat) (a:Zk) (n c:Nat) (p K:Int) (old:Option Nat) (SM NM TX RF:Nat):Prop where
 ex:∃(k:Int) (sum name:Zi) (m:Int) (t:Zi) (ra:Zk) (rc:Nat) (ss:Zl),e=.returned (.agg #[Zg k,.string sum,.string name,Zg m,.string t,.slice ra ss.length rc])/\Gq sum name t ss SM NM TX RF/\
  w'.ownsRow base 9 1 (.slice ra ss.length rc) ss.length (ss.map Value.string)/\∀j,(Value.slice ra ss.length rc).ownBlock=some j->old=some j\/w.1.size<=j
 I:GJ w w' b a n c p K
theorem GE.fin{A:Zh}{r:Nat}{a:Zk}{q d:Zi}{g:Zk}{f:Zl}{v:Int}{x:Option Nat}{z y:Nat}(h:GE w A b Q R r a n c k q d m t g i f v)(s:b<R)(D:w.1.size<=R)(F:Gq q d t f z y TX RF)(B:p<=v)(C:v<=p+K)(E:∀j,(C3 g f.length i).ownBlock=some j->x=some j\/w.1.size<=j):
 XC w ((((((A.setCell (Zd R 0) (Zg k)).setCell (Zd R 1) (C4 q)).setCell (Zd R 2) (C4 d)).setCell (Zd R 3) (Zg m)).setCell (Zd R 4) (C4 t)).setCell (Zd R 5) (C3 g f.length i))
  (.returned (.agg (Yd k q d m t g f.length i))) b r a n c p K x z y TX RF:=by
 have l:(C1 g f i).ownBlock=none\/(C1 g f i).ownBlock≠some R:=by
  cases hv:(C1 g f i).ownBlock with
  |none=>exact .inl rfl
  |some j=>exact .inr (λe=>(h.dh j hv).2.2 (A4 e))
 have o:=(((((h.own.kept (Av _ R 0 (Zg k)) l).kept (Av _ R 1 (C4 q)) l).kept (Av _ R 2 (C4 d)) l).kept (Av _ R 3 (Zg m)) l).kept (Av _ R 4 (C4 t)) l).kept (Av _ R 5 (C1 g f i)) l;refine⟨⟨k,q,d,m,t,g,i,f,rfl,F,o,E⟩,⟨v,?_,B,C⟩,?_⟩
 .exact(((((h.rd.grown (Av _ R 0 _) s).grown (Av _ R 1 _) s).grown (Av _ R 2 _) s).grown (Av _ R 3 _) s).grown (Av _ R 4 _) s).grown (Av _ R 5 _) s
 .have u:∀j:Nat,some R=some j->w.1.size<=j\/some b=some j:=λj e=>by cases e;exact .inl D
  exact(((((h.gr.andThen (Av _ R 0 _) u).andThen (Av _ R 1 _) u).andThen (Av _ R 2 _) u).andThen (Av _ R 3 _) u).andThen (Av _ R 4 _) u).andThen (Av _ R 5 _) u
theorem SN(W:Zh)(T:Zi)(a:T.size<=41)(k:Nat)(h:k<3):∃X:Zi,(W.alloc (.cells #[Zc,C4 ⟨#[97,32,98]⟩,C4 T] 9)).cell? (Zd (W.1.size) k)=some (C4 X)/\X.size<=41:=by
 match k,h with
 |0,_=>exact⟨⟨#[]⟩,by rw[cell?_alloc_at _ _ _ _ rfl];rfl,Yq⟩
 |1,_=>exact⟨⟨#[97,32,98]⟩,by rw[cell?_alloc_at _ _ _ _ rfl];rfl,Yq⟩
 |2,_=>exact⟨T,by rw[cell?_alloc_at _ _ _ _ rfl];rfl,a⟩
theorem Uv(W:Zh)(k:Nat)(h:k<6):∃x:Int,(W.alloc (.cells #[Ze,Zg (-1),Zg 100001,Zg 1000000000,Zg 1000000001,Zg 4294967297] 3)).cell? (Zd (W.1.size) k)=some (Zg x):=by
 match k,h with
 |0,_=>exact⟨0,by rw[cell?_alloc_at _ _ _ _ rfl];rfl⟩
 |1,_=>exact⟨-1,by rw[cell?_alloc_at _ _ _ _ rfl];rfl⟩
 |2,_=>exact⟨100001,by rw[cell?_alloc_at _ _ _ _ rfl];rfl⟩
 |3,_=>exact⟨1000000000,by rw[cell?_alloc_at _ _ _ _ rfl];rfl⟩
 |4,_=>exact⟨1000000001,by rw[cell?_alloc_at _ _ _ _ rfl];rfl⟩
 |5,_=>exact⟨4294967297,by rw[cell?_alloc_at _ _ _ _ rfl];rfl⟩
theorem QS(b q:Nat)(a:Zk)(n c:Nat)(p:Int)(k:Int)(l g:Zi)(m:Int)(t:Zi)(y:Zk)(z:Nat)(s:Zl)(w:Zh)(h:AD w b a n c p)(hp:0<=p)(zM:p<=700000)(J:w.ownsRow q 9 1 (C3 y s.length z) s.length (s.map string))(f:∀j,(C3 y s.length z).ownBlock=some j->j≠b)(zC:q<=w.1.size)(o:Gq l g t s 8 41 16 3):
 D8 23 #[Yy b,.agg (Yd k l g m t y s.length z)] w λe d=>XC w d e b q a n c p 3 (C3 y s.length z).ownBlock 9 41 2001 31:=by
 have A:=h.lt;have⟨K,d⟩:=D6 w (Yd k l g m t y s.length z) 32;have B:Below w.1.size w K:=by rw[d];exact Zy
 have F:K.1.size=w.1.size+1:=by rw[d];simp
 have P:Aa K w.1.size (Yc k l g m t y s.length z):=by rw[d];exact Aa.new w _ _
 have⟨W,E⟩:=D6 K Ye 32;have D:Below K.1.size K W:=by rw[E];exact Zy
 have I:Aa W K.1.size Yb:=by rw[E];exact Aa.new K _ _
 have u:Below w.1.size w W:=B.ah (D.aj B.size);have⟨R,Q⟩:=Ae K.1.size;have zK:w.1.size<R:=Yv
 have N:Hid (w.1.size+1=R):=by show _=_;omega
 have H:Hid (GE w W b w.1.size R q a n c k l g m t y z s p):=by rw[<-Q]at I;refine⟨P.A D,J.kept (Ag none u) (Classical.em _),λj hj=> ?_,h.A u,I,Ag _ u⟩;have:=(J.lt j hj).2;exact⟨f j hj,Yv,Yv⟩
 have G:=Yw d;have M:=Yw E;have O:Hid (∀j,(C1 y s z).ownBlock=some j->(C1 y s z).ownBlock=some j\/w.1.size<=j):=λj e=> .inl e;have S:w.1.size≠R:=Yv
 have C:b<R:=Yv
 have L:w.1.size<=R:=Yv
 clear d E Q B D P I u F h J f;go_enter func23,ntmps23;go_upto_region 1 with fail;rw[<-G.o,<-M.o,N.o];clear G M N;go_wp2_with fail;refine(AK b a n c p 6 W H.rd hp Yv Yv Yv).aj ?_;rintro e u ⟨r,rfl,r0,r1,B,f⟩;have d:=Yw (H.pick A C B f);clear H B f;have f:¬R=w.1.size:=Yv
 by_cases c0:r=0
 .subst c0;go_wp2_with fail;refine(AK b a n c (p+1) 10 u d.rd Yv Yv Yv Yv).aj ?_;rintro e w2 ⟨I,rfl,zA,zB,D,B⟩;have f:=Yw (d.pick A C D B);have wk:IntKind.i64.wrap (I -1)=I -1:=QR Yv Yv;clear d D B;have J:Hid (GE w (w2.setCell (Zd (w.1.size) 0) (Zg (I -1))) b w.1.size R q a n c (I -1) l g m t y z s (p+1+1)):=by have⟨D,E,F,G⟩:=f.set A (Zx) S 0 (Zg (I -1));exact⟨f.cB.set 0 _,D,f.dh,E,F,G⟩
  obtain⟨x0,f0⟩:=f.cB 0 _ rfl;obtain⟨x1,f1⟩:=f.cB 1 _ rfl;obtain⟨x2,f2⟩:=f.cB 2 _ rfl;obtain⟨x3,f3⟩:=f.cB 3 _ rfl;obtain⟨h,V⟩:=f.cB 4 _ rfl;obtain⟨x5,Y⟩:=f.cB 5 _ rfl;obtain⟨y0,q0⟩:=f.cf 0 _ rfl;obtain⟨y1,D⟩:=f.cf 1 _ rfl;obtain⟨y2,E⟩:=f.cf 2 _ rfl;obtain⟨y3,F⟩:=f.cf 3 _ rfl;obtain⟨y4,G⟩:=f.cf 4 _ rfl;obtain⟨y5,q5⟩:=f.cf 5 _ rfl;go_wp2
  refine C0 (.agg (Yd (I -1) l g m t y s.length z)) (by simp[results,results23,go_sem, *]) ?_;exact J.fin C L ⟨Dz o.fh,o.du,Dz o.dw,Dz o.lss,o.dt⟩ Yv Yv O
 have d0:(r==0)=false:=D2 c0
 by_cases c1:r=1
 .subst c1;have⟨H,B⟩:=D6 u #[Ze,Zg (-1),Zg 100001,Zg 1000000000,Zg 1000000001,Zg 4294967297] 3;have Q:Below u.1.size u H:=by rw[B];exact Zy
  have U:=Yw (d.A Q);have HN:Hid (∀k:Nat,k<6->∃x:Int,H.cell? (Zd (u.1.size) k)=some (Zg x)):=λk hk=>by rw[B];exact Uv u k hk
  have M:b<u.1.size:=d.rd.lt;have N:u.1.size<H.1.size:=by rw[B];simp
  have P:=Yw B;clear B Q;go_wp2_with fail;rw[<-P.o];clear P;refine(AK b a n c (p+1) 6 H U.rd Yv Yv Yv Yv).aj ?_;rintro e w2 ⟨I,rfl,zA,zB,s8,Z⟩;obtain⟨j,rfl⟩:∃j:Nat,I=j:=⟨I.toNat,Yv⟩;have⟨X,x⟩:=HN j Yv;have f:=Yw (U.pick A C s8 Z);have zE:=(Z.cell_far ⟨u.1.size,j,none⟩ N (WN M)).ah x;clear x HN U s8 Z d
  have J:Hid (GE w (w2.setCell (Zd (w.1.size) 3) (Zg X)) b w.1.size R q a n c k l g X t y z s (p+1+1)):=by have⟨D,E,F,G⟩:=f.set A (Zx) S 3 (Zg X);exact⟨f.cB.set 3 _,D,f.dh,E,F,G⟩
  obtain⟨x0,f0⟩:=f.cB 0 _ rfl;obtain⟨x1,f1⟩:=f.cB 1 _ rfl;obtain⟨x2,f2⟩:=f.cB 2 _ rfl;obtain⟨x3,f3⟩:=f.cB 3 _ rfl;obtain⟨h,V⟩:=f.cB 4 _ rfl;obtain⟨x5,Y⟩:=f.cB 5 _ rfl;obtain⟨y0,q0⟩:=f.cf 0 _ rfl;obtain⟨y1,D⟩:=f.cf 1 _ rfl;obtain⟨y2,E⟩:=f.cf 2 _ rfl;obtain⟨y3,F⟩:=f.cf 3 _ rfl;obtain⟨y4,G⟩:=f.cf 4 _ rfl;obtain⟨y5,q5⟩:=f.cf 5 _ rfl;go_wp2
  refine C0 (.agg (Yd k l g X t y s.length z)) (by simp[results,results23,go_sem, *]) ?_;exact J.fin C L ⟨Dz o.fh,o.du,Dz o.dw,Dz o.lss,o.dt⟩ Yv Yv O
 have d1:(r==1)=false:=D2 c1
 by_cases c2:r=2
 .subst c2;have i:=LQ ⟨#[110]⟩ 41 u Yq Yq;have HM:=Yw i;clear i;go_wp2_with fail;refine HM.Ai ?_;rintro e w7 ⟨T,rfl,hT,i⟩;rw[i];clear i w7;have i:T.size<=41:=by rw[hT];decide
  have⟨H,B⟩:=D6 u #[Zc,C4 ⟨#[97,32,98]⟩,C4 T] 9;have Q:Below u.1.size u H:=by rw[B];exact Zy
  have U:=Yw (d.A Q);have HN:Hid (∀k:Nat,k<3->∃X:Zi,H.cell? (Zd (u.1.size) k)=some (C4 X)/\X.size<=41):=λk hk=>by rw[B];exact SN u T i k hk
  have M:b<u.1.size:=d.rd.lt;have N:u.1.size<H.1.size:=by rw[B];simp
  have P:=Yw B;clear B Q hT;go_wp2_with fail;rw[<-P.o];clear P;refine(AK b a n c (p+1) 3 H U.rd Yv Yv Yv Yv).aj ?_;rintro e w2 ⟨I,rfl,zA,zB,s8,Z⟩;obtain⟨j,rfl⟩:∃j:Nat,I=j:=⟨I.toNat,Yv⟩;have⟨X,x,zF⟩:=HN j Yv;have f:=Yw (U.pick A C s8 Z);have zE:=(Z.cell_far ⟨u.1.size,j,none⟩ N (WN M)).ah x;clear x HN U s8 Z d i
  have J:Hid (GE w (w2.setCell (Zd (w.1.size) 2) (C4 X)) b w.1.size R q a n c k l X m t y z s (p+1+1)):=by have⟨D,E,F,G⟩:=f.set A (Zx) S 2 (C4 X);exact⟨f.cB.set 2 _,D,f.dh,E,F,G⟩
  obtain⟨x0,f0⟩:=f.cB 0 _ rfl;obtain⟨x1,f1⟩:=f.cB 1 _ rfl;obtain⟨x2,f2⟩:=f.cB 2 _ rfl;obtain⟨x3,f3⟩:=f.cB 3 _ rfl;obtain⟨h,V⟩:=f.cB 4 _ rfl;obtain⟨x5,Y⟩:=f.cB 5 _ rfl;obtain⟨y0,q0⟩:=f.cf 0 _ rfl;obtain⟨y1,D⟩:=f.cf 1 _ rfl;obtain⟨y2,E⟩:=f.cf 2 _ rfl;obtain⟨y3,F⟩:=f.cf 3 _ rfl;obtain⟨y4,G⟩:=f.cf 4 _ rfl;obtain⟨y5,q5⟩:=f.cf 5 _ rfl;go_wp2
  refine C0 (.agg (Yd k l X m t y s.length z)) (by simp[results,results23,go_sem, *]) ?_;exact J.fin C L ⟨Dz o.fh,zF,Dz o.dw,Dz o.lss,o.dt⟩ Yv Yv O
 have d2:(r==2)=false:=D2 c2
 by_cases c3:r=3
 .subst c3;have J:Hid (GE w (u.setCell (Zd (w.1.size) 1) (C4 (l++⟨#[120]⟩))) b w.1.size R q a n c k (l++⟨#[120]⟩) g m t y z s (p+1)):=by have⟨D,E,F,G⟩:=d.set A (Zx) S 1 (C4 (l++⟨#[120]⟩));exact⟨d.cB.set 1 _,D,d.dh,E,F,G⟩
  obtain⟨x0,f0⟩:=d.cB 0 _ rfl;obtain⟨x1,f1⟩:=d.cB 1 _ rfl;obtain⟨x2,f2⟩:=d.cB 2 _ rfl;obtain⟨x3,f3⟩:=d.cB 3 _ rfl;obtain⟨h,V⟩:=d.cB 4 _ rfl;obtain⟨x5,Y⟩:=d.cB 5 _ rfl;obtain⟨y0,q0⟩:=d.cf 0 _ rfl;obtain⟨y1,D⟩:=d.cf 1 _ rfl;obtain⟨y2,E⟩:=d.cf 2 _ rfl;obtain⟨y3,F⟩:=d.cf 3 _ rfl;obtain⟨y4,G⟩:=d.cf 4 _ rfl;obtain⟨y5,q5⟩:=d.cf 5 _ rfl;have zN:l.size<=8:=o.fh;go_wp2
  refine C0 (.agg (Yd k (l++⟨#[120]⟩) g m t y s.length z)) (by simp[results,results23,go_sem, *]) ?_;exact J.fin C L ⟨by rw[ByteArray.size_append];show l.size+1<=9;have:=o.fh;omega,o.du,Dz o.dw,Dz o.lss,o.dt⟩ Yv Yv O
 have d3:(r==3)=false:=D2 c3
 by_cases c4:r=4
 .subst c4;have HN:=Yw (Ls d.own);have x:w.1.size<u.1.size:=d.cB.lt;have zJ:R<u.1.size:=d.cf.lt;obtain⟨h,V⟩:=d.cB 4 _ rfl;obtain⟨x5,Y⟩:=d.cB 5 _ rfl;go_wp2_with fail;refine(MU b a n c (p+1) t y z s u d.rd Yv Yv HN.1 HN.2 o.dw o.lss o.dt).aj ?_;rintro e w6 ⟨⟨t',Q,U,Z,rfl,zI,zG,zH,P⟩,⟨p6,s6,l6,u6⟩,g6⟩;have B:=Yw (d.pick A C s6 g6)
  have J:Hid (GE w ((w6.setCell (Zd (w.1.size) 4) (C4 t')).setCell (Zd (w.1.size) 5) (C1 Q Z U)) b w.1.size R q a n c k l g m t' Q U Z p6):=by
   refine⟨(B.cB.set 4 _).set 5 _,?_,?_,?_,?_,?_⟩
   .exact(ownsRow_setCell_below (ownsRow_setCell_below P (a:=⟨w.1.size,4,none⟩) x _) (a:=⟨w.1.size,5,none⟩) x _).aj Yv
   .intro j hj;have:=P.lt j hj;omega
   .exact(B.rd.grown (Av _ w.1.size 4 _) A).grown (Av _ w.1.size 5 _) A
   .exact(B.cf.aw (Av _ w.1.size 4 _) Yv).aw (Av _ w.1.size 5 _) Yv
   .exact(B.gr.andThen (Av _ w.1.size 4 _) (λi e=>by cases e;exact .inl Yv)).andThen (Av _ w.1.size 5 _) (λi e=>by cases e;exact .inl Yv)
  have i:Hid (∀j,(C1 Q Z U).ownBlock=some j->(C1 y s z).ownBlock=some j\/w.1.size<=j):=λj hj=> .inr (Dz (P.lt j hj));clear h V x5 Y HN d s6 g6 P;obtain⟨x0,f0⟩:=B.cB 0 _ rfl;obtain⟨x1,f1⟩:=B.cB 1 _ rfl;obtain⟨x2,f2⟩:=B.cB 2 _ rfl;obtain⟨x3,f3⟩:=B.cB 3 _ rfl;obtain⟨h,V⟩:=B.cB 4 _ rfl;obtain⟨x5,Y⟩:=B.cB 5 _ rfl;obtain⟨y0,q0⟩:=B.cf 0 _ rfl
  obtain⟨y1,D⟩:=B.cf 1 _ rfl;obtain⟨y2,E⟩:=B.cf 2 _ rfl;obtain⟨y3,F⟩:=B.cf 3 _ rfl;obtain⟨y4,G⟩:=B.cf 4 _ rfl;obtain⟨y5,q5⟩:=B.cf 5 _ rfl;go_wp2;refine C0 (.agg (Yd k l g m t' Q Z.length U)) (by simp[results,results23,go_sem, *]) ?_;exact J.fin C L ⟨Dz o.fh,o.du,zI,zG,zH⟩ Yv Yv i
 have P:(r==4)=false:=D2 c4
 have J:Hid (GE w (u.setCell (Zd (w.1.size) 4) (C4 ⟨#[116]⟩)) b w.1.size R q a n c k l g m ⟨#[116]⟩ y z s (p+1)):=by have⟨D,E,F,G⟩:=d.set A (Zx) S 4 (C4 ⟨#[116]⟩);exact⟨d.cB.set 4 _,D,d.dh,E,F,G⟩
 obtain⟨x0,f0⟩:=d.cB 0 _ rfl;obtain⟨x1,f1⟩:=d.cB 1 _ rfl;obtain⟨x2,f2⟩:=d.cB 2 _ rfl;obtain⟨x3,f3⟩:=d.cB 3 _ rfl;obtain⟨h,V⟩:=d.cB 4 _ rfl;obtain⟨x5,Y⟩:=d.cB 5 _ rfl;obtain⟨y0,q0⟩:=d.cf 0 _ rfl;obtain⟨y1,D⟩:=d.cf 1 _ rfl;obtain⟨y2,E⟩:=d.cf 2 _ rfl;obtain⟨y3,F⟩:=d.cf 3 _ rfl;obtain⟨y4,G⟩:=d.cf 4 _ rfl;obtain⟨y5,q5⟩:=d.cf 5 _ rfl;go_wp2
 refine C0 (.agg (Yd k l g m ⟨#[116]⟩ y s.length z)) (by simp[results,results23,go_sem, *]) ?_;exact J.fin C L ⟨Dz o.fh,o.du,Yq,Dz o.lss,o.dt⟩ Yv Yv O
