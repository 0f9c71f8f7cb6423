import Derived.Test.YtcankpdbabaacaaGreatDoorX18
import Derived.BigRegion
set_option maxRecDepth 100000
set_option maxHeartbeats 16000000
namespace Go.Proofs.YtcankpdbabaacaaGreatDoor
open Go.ChangeShapes Go.WideShapes Go.ChangeAt Go.RowKit _root_.Go.Proofs.Tryz
variable{l:List UInt8}{wd n c:Int}{t a s b x:Zi}{k base m:Nat}{T P L:Value}{w:Zh}{r:Rs}{ks:List Kd}{ps:List Pd}{ls:List Ld}
abbrev AD(l:List UInt8):Zi:=⟨l.toArray⟩
theorem ZH(s:Zi):AD s.data.toList=s:=rfl
theorem Hv(l:List UInt8)(a b:Nat):(AD l).extract a b=AD ((l.drop a).take (b -a)):=by apply ByteArray.ext;rw[ByteArray.data_extract];apply Array.ext';simp[List.take_drop]
theorem BK(l:List UInt8):(AD l).size=l.length:=by simp[ByteArray.size]
def Jd(T:List UInt8)(wd i:Nat):Zi:=AD ((T.drop (i *wd)).take wd)
theorem Uv(T:List UInt8)(wd:Nat):∀k,k *wd<=T.length->flat ((List.range k).map (Jd T wd))=T.take (k *wd):=by
 intro k;induction k with
 |zero=>intro _;simp[flat]
 |succ k ih=>
  intro h;have a:k *wd<=T.length:=by rw[Nat.succ_mul]at h;omega
  rw[List.range_succ,List.map_append];unfold flat at *
  rw[List.flatMap_append,ih a];simp only[List.map_cons,List.map_nil,List.flatMap_cons,List.flatMap_nil,List.append_nil,Jd];rw[Nat.succ_mul,List.take_add]
theorem Uw(a:Zl)(t:List UInt8)(wd:Nat)(h:∀s∈a,s.size=wd):(List.range a.length).map (Jd (flat a++t) wd)=a:=by
 induction a with
 |nil=>rfl
 |cons s r ih=>
  have b:s.data.toList.length=wd:=h s (List.mem_cons_self ..);have d:=ih (fun x e=>h x (by simp[e]));have c:flat (s::r)++t=s.data.toList++(flat r++t):=by simp[flat]
  rw[List.length_cons,List.range_succ_eq_map,List.map_cons,List.map_map,c];congr 1
  .unfold Jd;rw[Nat.zero_mul,List.drop_zero,List.take_left' b]
  .refine Eq.trans ?_ d;apply List.map_congr_left;intro i _;simp only[Function.comp,Jd];congr 2;rw[show Nat.succ i *wd=s.data.toList.length+i *wd by rw[Nat.succ_mul,b];omega,<-List.drop_drop,List.drop_left]
theorem rd_mk(c:UInt8)(T:List UInt8)(wd:Int)(h1:1<=wd)(h2:wd<=8):
 rd (AD (c::T)) wd=if c.toNat *wd.toNat<=T.length/\AO (AD (T.drop (c.toNat *wd.toNat))) ((List.range c.toNat).map (Jd T wd.toNat)) wd=true then (AD (T.drop (c.toNat *wd.toNat)),(List.range c.toNat).map (Jd T wd.toNat),true)else (⟨#[]⟩,[],false):=by
 obtain⟨W,rfl⟩:∃W:Nat,wd=W:=⟨wd.toNat,Yw⟩;have a:(AD (c::T)).size=T.length+1:=by rw[BK];rfl
 have b:(AD (c::T)).extract 1 (AD (c::T)).size=AD T:=by rw[a,Hv];simp
 have f:DI (AD (c::T)) W c.toNat=AD (T.drop (c.toNat *W)):=by unfold DI;rw[b,Hv,a];congr 2;rw[show((c.toNat:Int) *(W:Int)).toNat=c.toNat *W by rw[<-Int.natCast_mul];rfl];exact Zt Yv
 have e:BG (AD (c::T)) W c.toNat=(List.range c.toNat).map (Jd T W):=by unfold BG;apply List.map_congr_left;intro i _;unfold JO Jd;rw[b,Hv];congr 2;rw[show((i:Int) *(W:Int)).toNat=i *W by rw[<-Int.natCast_mul];rfl,show((i:Int) *(W:Int)+(W:Int)).toNat=i *W+W by rw[<-Int.natCast_mul];omega];congr 1;omega
 have d:((c.toNat:Int) *(W:Int)<=((AD (c::T)).size:Int) -1)↔c.toNat *W<=T.length:=by rw[a,<-Int.natCast_mul];omega
 unfold rd;rw[if_pos ⟨h1,h2⟩];simp only[List.head?_cons];unfold Kw;rw[f,e];simp only[d,Int.toNat_natCast]
theorem Wf(h:(rd (AD l) wd).2.2=true):AO (rd (AD l) wd).1 (rd (AD l) wd).2.1 wd=true/\BE (rd (AD l) wd).1 (rd (AD l) wd).2.1=l:=by
 by_cases hw:1<=wd/\wd<=8
 .cases l with
  |nil=>unfold rd at h;rw[if_pos hw]at h;simp at h
  |cons c T=>
   rw[rd_mk c T wd hw.1 hw.2]at h |-;split at h
   case isTrue hc=>
    rw[if_pos hc];refine⟨hc.2,?_⟩;simp only[BE,List.length_map,List.length_range];rw[Uv T wd.toNat c.toNat hc.1];simp
   case isFalse hc=>simp at h
 .unfold rd at h;rw[if_neg hw]at h;simp at h
theorem Qs{a:Zl}(h:AO t a wd=true):rd (AD (BE t a)) wd=(t,a,true):=by
 have p:=BL h;have c:∀s∈a,s.size=wd.toNat:=fun s g=>by obtain⟨i,e⟩:=List.getElem?_of_mem g;have:=p.size e;omega
 have f:(UInt8.ofNat a.length).toNat=a.length:=by have:=p.B;simp;omega
 have b:(flat a).length=a.length *wd.toNat:=by rw[DE,p.ax]
 unfold BE;rw[rd_mk _ _ wd p.lo p.hi,f,Uw a t.data.toList wd.toNat c];have d:(flat a++t.data.toList).drop (a.length *wd.toNat)=t.data.toList:=by rw[<-b,List.drop_left]
 rw[d,ZH,if_pos ⟨by rw[List.length_append,b];omega,h⟩]
section
structure ER where
 k:Int
 sum:Zi
 name:Zi
 n:Int
 t:Zi
 ss:Zl
 ok:Bool
def Hw:ER:=⟨0,⟨#[]⟩,⟨#[]⟩,0,⟨#[]⟩,[],false⟩
def AE(s:Zi)(wd:Int):ER:=
 if CL s wd=true then Hw else ⟨AS s wd,(Bg s wd).1,(BQ s wd).1,Ff s wd,(Be s wd).1,(Be s wd).2,true⟩
def Ux(k:Int)(rest:List UInt8):Zi:=if k=1 then ⟨#[]⟩else AD rest
def Uy(k:Int)(rest:List UInt8)(wd:Int):Zi:=if k=1 then (rd (AD rest) wd).1 else ⟨#[]⟩
def Uz(k:Int)(rest:List UInt8)(wd:Int):Zl:=if k=1 then (rd (AD rest) wd).2.1 else []
def Po(k n:Int)(name rest l:List UInt8)(wd:Int):Bool:=
 Cn k (Ux k rest) (AD name) n (Uy k rest wd) (Uz k rest wd) wd&&decide (Cr k (Ux k rest) (AD name) n (Uy k rest wd) (Uz k rest wd) wd=AD l)
theorem En(l:List UInt8)(n:Nat)(h:n<=l.length):Bi (AD l) false n=(AD (l.take n),AD (l.drop n),false):=by unfold Bi;rw[if_neg Ys,if_neg (by rw[BK];omega),Hv,Hv,BK];simp;exact Zt Yv
theorem Fg(l:List UInt8)(n:Int)(h:(l.length:Int)<n):Bi (AD l) false n=(⟨#[]⟩,AD l,true):=by unfold Bi;rw[if_neg Ys,if_pos (by rw[BK];exact h)]
theorem GV(r:Zi)(n:Int):Bi r true n=(⟨#[]⟩,r,true):=by simp[Bi]
theorem Je(h:(BQ s wd).2.2=true):CL s wd=true:=by
 cases hb:CL s wd with
 |true=>rfl
 |false=>
  unfold CL at hb;have c:=(Bool.or_eq_false_iff.1 hb).1;unfold FQ at c;have a:=(Bool.or_eq_false_iff.1 c).1;have b:(Bg s wd).2.2=false:=by
   unfold CX at a;split at a
   .simp only[Gq]at a;exact FC (Bool.or_eq_false_iff.1 a).1
   .exact a
  have d:(BQ s wd).2.2=false:=by
   unfold Bg at b;split at b
   .exact FC b
   .exact b
  rw[d]at h;cases h
theorem KZ(h:(Fs s wd).2.2=true):(BQ s wd).2.2=true:=by unfold BQ;rw[h,GV]
theorem Pp(h:(Em s wd).2.2=true):(Fs s wd).2.2=true:=by unfold Fs;rw[h,GV]
theorem Wg(h:FP s wd=true):(Em s wd).2.2=true:=by unfold Em;rw[h,GV]
theorem Gk(h:FP s wd=true):CL s wd=true:=Je (KZ (Pp (Wg h)))
theorem Wh(h:¬(1<=wd/\wd<=8)):CL s wd=true:=by refine Gk ?_;unfold FP Ew;rw[show GI wd=true by unfold GI;simp;omega,GV];rfl
theorem XF(h1:1<=wd)(h2:wd<=8):GI wd=false:=by unfold GI;simp[h1,h2]
theorem XG(a:UInt8):CK [a]=(a.toNat:Int):=by simp[CK]
theorem XH(a b c d:UInt8):CK [a,b,c,d]=(a.toNat:Int) *16777216+(b.toNat:Int) *65536+(c.toNat:Int) *256+(d.toNat:Int):=by simp only[CK,List.foldl_cons,List.foldl_nil];omega
section
variable {wd:Int} (h1:1<=wd) (h2:wd<=8)
theorem Aat(h1:1<=wd)(h2:wd<=8):CL (AD []) wd=true:=by refine Gk ?_;unfold FP Ew;rw[XF h1 h2,Fg [] _ Yv];rfl
theorem Km(a:UInt8)(l:List UInt8)(h1:1<=wd)(h2:wd<=8):Ew (AD (a::l)) wd=(AD [a],AD l,false):=by unfold Ew;rw[XF h1 h2,En _ _ Yv];rfl
theorem UA(a:UInt8)(l:List UInt8)(h1:1<=wd)(h2:wd<=8):AS (AD (a::l)) wd=(a.toNat:Int):=by unfold AS;rw[Km a l h1 h2];exact XG a
theorem Ha(a:UInt8)(l:List UInt8)(h1:1<=wd)(h2:wd<=8):FP (AD (a::l)) wd= !EJ (a.toNat:Int):=by unfold FP;rw[Km a l h1 h2,UA a l h1 h2];rfl
theorem Wi(a:UInt8)(l:List UInt8)(h1:1<=wd)(h2:wd<=8)(b:l.length<4):CL (AD (a::l)) wd=true:=by
 cases hk:EJ (a.toNat:Int)with
 |false=>exact Gk (by rw[Ha a l h1 h2,hk];rfl)
 |true=>refine Je (KZ (Pp ?_));unfold Em;rw[Ha a l h1 h2,hk,Km a l h1 h2];rw[show(!true)=false from rfl,Fg l _ Yw]
theorem Sl(a b c d e:UInt8)(l:List UInt8)(h1:1<=wd)(h2:wd<=8)(f:EJ (a.toNat:Int)=true):Em (AD (a::b::c::d::e::l)) wd=(AD [b,c,d,e],AD l,false):=by unfold Em;rw[Ha _ _ h1 h2,f,Km _ _ h1 h2];rw[show(!true)=false from rfl,En _ _ Yv];rfl
theorem Wj(a b c d e:UInt8)(h1:1<=wd)(h2:wd<=8)(f:EJ (a.toNat:Int)=true):CL (AD [a,b,c,d,e]) wd=true:=by refine Je (KZ ?_);unfold Fs;rw[Sl a b c d e [] h1 h2 f,Fg [] _ Yv]
theorem Sm(a c d e f b:UInt8)(T:List UInt8)(h1:1<=wd)(h2:wd<=8)(g:EJ (a.toNat:Int)=true):Fs (AD (a::c::d::e::f::b::T)) wd=(AD [b],AD T,false):=by unfold Fs;rw[Sl a c d e f (b::T) h1 h2 g,En _ _ Yv];rfl
theorem Aau(b c d e f a:UInt8)(T:List UInt8)(h1:1<=wd)(h2:wd<=8)(g:EJ (b.toNat:Int)=true):Nj (AD (b::c::d::e::f::a::T)) wd=(a.toNat:Int):=by unfold Nj;rw[Sm b c d e f a T h1 h2 g];exact XG a
theorem Wk(a c d e f b:UInt8)(T:List UInt8)(h1:1<=wd)(h2:wd<=8)(g:EJ (a.toNat:Int)=true)(h:T.length<b.toNat):CL (AD (a::c::d::e::f::b::T)) wd=true:=by refine Je ?_;unfold BQ;rw[Aau a c d e f b T h1 h2 g,Sm a c d e f b T h1 h2 g,Fg T _ Yw]
theorem Ach(b c d e f a:UInt8)(T:List UInt8)(h1:1<=wd)(h2:wd<=8)(g:EJ (b.toNat:Int)=true)(h:a.toNat<=T.length):BQ (AD (b::c::d::e::f::a::T)) wd=(AD (T.take a.toNat),AD (T.drop a.toNat),false):=by unfold BQ;rw[Aau b c d e f a T h1 h2 g,Sm b c d e f a T h1 h2 g,En T _ h]
theorem Adh(a b c d e:UInt8)(l:List UInt8)(h1:1<=wd)(h2:wd<=8)(f:EJ (a.toNat:Int)=true):Ff (AD (a::b::c::d::e::l)) wd=CK [b,c,d,e]:=by unfold Ff;rw[Sl a b c d e l h1 h2 f]
theorem Hc(a:UInt8)(x:Int)(h:x=(a.toNat:Int)):u8 x=a:=by subst h;simp[u8]
theorem Wl(e a b c d f:UInt8):BZ (e.toNat:Int) (CK [a,b,c,d]) (f.toNat:Int)=[e,a,b,c,d,f]:=by have g:=a.toNat_lt;have h:=b.toNat_lt;have i:=c.toNat_lt;have j:=d.toNat_lt;unfold BZ;rw[XH];rw[Hc e _ rfl,Hc f _ rfl,Hc a _ Yw,Hc b _ Yw,Hc c _ Yw,Hc d _ Yw]
end
theorem ZI(h:EJ (k:Int)=true):1<=k/\k<=7:=by unfold EJ at h;simp at h;omega
theorem ZJ{k:Int}{c:Zl}(h:EJ k=false):Cn k b a n t c wd=false:=by unfold Cn;unfold EJ at h;rw[h];rfl
theorem Nk{c:Zl}(h:Cn (k:Int) b a n t c wd=true):CW k b a n t c wd=true:=by unfold Cn at h;exact(Bool.and_eq_true_iff.1 h).2
theorem Rg{d:Zl}(h:Cn (k:Int) b a n t d wd=true):Ek (DV k) b wd=true:=by have c:=Nk h;unfold CW at c;exact(Bool.and_eq_true_iff.1 (Bool.and_eq_true_iff.1 c).2).1
theorem Sn(h:(AD l).size=0):AD l=⟨#[]⟩:=by rw[BK]at h;rw[List.eq_nil_of_length_eq_zero h]
theorem LX{c:Zl}(h:Cn (k:Int) b a n t c wd=true):Cr k b a n t c wd=AD l↔Dk k b a n t c=l:=by
 unfold Cr;rw[if_pos h,Int.toNat_natCast];constructor
 .intro e;have:=congrArg (fun s:Zi=>s.data.toList) e;simpa using this
 .intro e;rw[e]
theorem Nl(a d f g i b:UInt8)(T:List UInt8)(h1:1<=wd)(h2:wd<=8)(P:b.toNat<=T.length):
 AE (AD (a::d::f::g::i::b::T)) wd=
  if Po (a.toNat:Int) (CK [d,f,g,i]) (T.take b.toNat) (T.drop b.toNat) (a::d::f::g::i::b::T) wd=true then
   ⟨(a.toNat:Int),Ux (a.toNat:Int) (T.drop b.toNat),AD (T.take b.toNat),CK [d,f,g,i],Uy (a.toNat:Int) (T.drop b.toNat) wd,Uz (a.toNat:Int) (T.drop b.toNat) wd,true⟩
  else Hw:=by
 cases hk:EJ (a.toNat:Int)with
 |false=>unfold AE;rw[if_pos (Gk (by rw[Ha _ _ h1 h2,hk];rfl)),if_neg (by unfold Po;rw[ZJ hk];simp)]
 |true=>
  obtain⟨Q,R⟩:=ZI hk;have j:=Ach a d f g i b T h1 h2 hk P;have m:=UA a (d::f::g::i::b::T) h1 h2;have v:=Adh a d f g i (b::T) h1 h2 hk;have K:(AD (T.take b.toNat)).size=b.toNat:=by rw[BK];simp;omega
  have D:∀x:List UInt8,BZ (a.toNat:Int) (CK [d,f,g,i]) ((AD (T.take b.toNat)).size:Int)++(AD (T.take b.toNat)).data.toList++x=(a::d::f::g::i::b::T)↔x=T.drop b.toNat:=by
   intro x;rw[K,Wl];constructor
   .intro h;have N:T.take b.toNat++x=T:=by simpa using h
    have O:T.take b.toNat++x=T.take b.toNat++T.drop b.toNat:=by rw[N,List.take_append_drop]
    exact List.append_cancel_left O
   .intro h;rw[h];simp
  generalize hs:(AD (a::d::f::g::i::b::T))=s at *
  generalize hnm:AD (T.take b.toNat)=name at *
  generalize hrs:T.drop b.toNat=rest at *
  generalize hn:CK [d,f,g,i]=n at *
  by_cases hk1:a.toNat=1
  .
   have y:DW (AS s wd)=false:=by rw[m,hk1];rfl
   have z:CH (AS s wd)=true:=by rw[m,hk1];rfl
   have c:Bg s wd=(⟨#[]⟩,AD rest,false):=by unfold Bg;rw[if_neg (by rw[y];decide),j]
   have F:Fa (AD rest) false=AD rest:=by unfold Fa;rw[BK,En _ _ (Zx)];simp
   have L:JP (AD rest) false=⟨#[]⟩:=by unfold JP;rw[BK,En _ _ (Zx)];simp
   have H:Gq (AD rest) false wd= !(rd (AD rest) wd).2.2:=by unfold Gq;rw[F,BK,En _ _ (Zx)];rfl
   have o:Be s wd=((rd (AD rest) wd).1,(rd (AD rest) wd).2.1):=by unfold Be;rw[if_pos z,c];simp only[F]
   have p:CX s wd=(⟨#[]⟩, !(rd (AD rest) wd).2.2):=by unfold CX;rw[if_pos z,c];simp only[L,H]
   have r:JQ s wd=Cn (a.toNat:Int) ⟨#[]⟩ name n (rd (AD rest) wd).1 (rd (AD rest) wd).2.1 wd:=by unfold JQ;rw[m,v,j,c,o]
   have q:CL s wd=(!(rd (AD rest) wd).2.2|| !Cn (a.toNat:Int) ⟨#[]⟩ name n (rd (AD rest) wd).1 (rd (AD rest) wd).2.1 wd):=by unfold CL FQ;rw[r,p];simp[ByteArray.size]
   have t:((a.toNat:Int)=1):=Yw
   unfold AE Po Ux Uy Uz;rw[if_pos t,if_pos t,if_pos t,hnm,q,m,c,j,v,o];simp only;cases k:Cn (a.toNat:Int) ⟨#[]⟩ name n (rd (AD rest) wd).1 (rd (AD rest) wd).2.1 wd with
   |false=>simp
   |true=>
    have B:=LX (l:=a::d::f::g::i::b::T) k;have M:=(Eu (Nk k)).dv hk1;have I:Dk a.toNat ⟨#[]⟩ name n (rd (AD rest) wd).1 (rd (AD rest) wd).2.1=(a::d::f::g::i::b::T)↔BE (rd (AD rest) wd).1 (rd (AD rest) wd).2.1=rest:=by rw[<-D];unfold Dk;rw[if_pos hk1];simp
    rw[I]at B;have J:BE (rd (AD rest) wd).1 (rd (AD rest) wd).2.1=rest↔(rd (AD rest) wd).2.2=true:=by
     constructor
     .intro e;have:=Qs M;rw[e]at this;rw[this]
     .intro e;exact(Wf e).2
    rw[J]at B;cases hr:(rd (AD rest) wd).2.2 with
    |true=>rw[if_neg Yv,if_pos (by simp;exact B.2 hr)]
    |false=>rw[if_pos Yv,if_neg (by simp;intro h;have:=B.1 h;rw[hr]at this;cases this)]
  .have z:CH (AS s wd)=false:=by rw[m];unfold CH CO;simp[hk1]
   have t:¬((a.toNat:Int)=1):=Yw
   have o:Be s wd=(⟨#[]⟩,[]):=by unfold Be;rw[if_neg (by rw[z];decide)]
   have p:CX s wd=(Bg s wd).2:=by unfold CX;rw[if_neg (by rw[z];decide)]
   have u:∀C,Cn (a.toNat:Int) C name n ⟨#[]⟩ [] wd=true->C=AD rest->Cr (a.toNat:Int) C name n ⟨#[]⟩ [] wd=s:=by intro C k e;rw[<-hs];refine(LX (l:=a::d::f::g::i::b::T) k).2 ?_;unfold Dk;rw[if_neg hk1,e,List.append_nil];exact(D rest).2 rfl
   unfold AE Po Ux Uy Uz;rw[if_neg t,if_neg t,if_neg t,hnm,hs];cases hu:DV a.toNat with
   |true=>
    have y:DW (AS s wd)=true:=by rw[m];unfold DW;rw[hk,Int.toNat_natCast,hu];rfl
    have c:Bg s wd=Bi (AD rest) false wd:=by unfold Bg;rw[if_pos y,j]
    obtain⟨W,rfl⟩:∃W:Nat,wd=W:=⟨wd.toNat,Yw⟩;by_cases hsz:rest.length=W
    .rw[En rest W Yw,Zt Yw,List.drop_of_length_le Yw]at c;have r:JQ s W=Cn (a.toNat:Int) (AD rest) name n ⟨#[]⟩ [] W:=by unfold JQ;rw[m,v,j,c,o]
     have q:CL s W= !Cn (a.toNat:Int) (AD rest) name n ⟨#[]⟩ [] W:=by unfold CL FQ;rw[r,p,c];simp[ByteArray.size]
     rw[q,m,c,j,v,o];simp only;cases k:Cn (a.toNat:Int) (AD rest) name n ⟨#[]⟩ [] W with
     |false=>simp
     |true=>rw[if_neg Yv,if_pos (by simp;exact u _ k rfl)]
    .have A:Cn (a.toNat:Int) (AD rest) name n ⟨#[]⟩ [] W=false:=by
      cases k:Cn (a.toNat:Int) (AD rest) name n ⟨#[]⟩ [] W with
      |false=>rfl
      |true=>have:=Rg k;rw[hu]at this;unfold Ek at this;rw[if_pos rfl,BK]at this;simp at this;omega
     have G:CL s W=true:=by
      unfold CL FQ;rw[p,c];by_cases hl:rest.length<W
      .rw[Fg rest _ Yw];simp
      .rw[En rest W Yw];have:(AD (rest.drop W)).size≠0:=by rw[BK];simp;omega
       simp[this]
     rw[if_pos G,if_neg (by rw[A];simp)]
   |false=>
    have y:DW (AS s wd)=false:=by rw[m];unfold DW;rw[hk,Int.toNat_natCast,hu];rfl
    have c:Bg s wd=(⟨#[]⟩,AD rest,false):=by unfold Bg;rw[if_neg (by rw[y];decide),j]
    by_cases hsz:rest.length=0
    .have E:=Sn (by rw[BK];exact hsz);have r:JQ s wd=Cn (a.toNat:Int) (AD rest) name n ⟨#[]⟩ [] wd:=by unfold JQ;rw[m,v,j,c,o,E]
     have q:CL s wd= !Cn (a.toNat:Int) (AD rest) name n ⟨#[]⟩ [] wd:=by unfold CL FQ;rw[r,p,c];simp[BK,hsz]
     rw[q,m,c,j,v,o];simp only;cases k:Cn (a.toNat:Int) (AD rest) name n ⟨#[]⟩ [] wd with
     |false=>simp
     |true=>rw[if_neg Yv,if_pos (by simp;exact u _ k rfl),E]
    .have A:Cn (a.toNat:Int) (AD rest) name n ⟨#[]⟩ [] wd=false:=by
      cases k:Cn (a.toNat:Int) (AD rest) name n ⟨#[]⟩ [] wd with
      |false=>rfl
      |true=>have:=Rg k;rw[hu]at this;unfold Ek at this;rw[if_neg Ys,BK]at this;simp at this;simp[this]at hsz
     have G:CL s wd=true:=by
      unfold CL FQ;rw[p,c];have:(AD rest).size≠0:=by rw[BK];exact hsz
      simp[this]
     rw[if_pos G,if_neg (by rw[A];simp)]
end
def CY(s:Zi)(wd:Int)(w:Zh)(e:Ending)(w':Zh):Prop:=
 ∃v,e=.returned (.tuple #[.agg #[Zg (AE s wd).k,.string (AE s wd).sum,.string (AE s wd).name,Zg (AE s wd).n,.string (AE s wd).t,v],.bool (AE s wd).ok])/\
  w'.ownsRow w.heap.size 9 1 v (AE s wd).ss.length ((AE s wd).ss.map Value.string)/\Zz w w'
theorem Sp(s:Zi)(wd:Int)(w:Zh)(hs:s.size<=1048576)(he:Env w):
 Calls prog 103 #[.string s,Zg wd] w (CY s wd w):=by
 obtain⟨l,m⟩:∃l,l=w.alloc (.cells Yc 66):=⟨_,rfl⟩;have D:=(AA m).1;have W:=(AA m).2.1;have R0:=(AA m).2.2;obtain⟨c,n⟩:∃c,c=l.alloc (.cells #[.string s,Zf,.nilIface] 202):=⟨_,rfl⟩;have E:=(AA n).1;have zA:l.heap.size<c.heap.size:=by rw[n];simp
 have R1:Hid (Aa c w.heap.size Yb):=R0.below E;have S:Below w.heap.size w c:=D.trans (E.mono D.size);have Y:Hid (Env c):=he.below S;have ha:Hid (Oj l.heap.size):=fun g hg=>by have:=he.lt g hg;omega
 have x1:Hid (Eb c l.heap.size s 0 false):=by refine⟨none,rfl,?_⟩;have:=Aa.new l [.string s,Zf,.nilIface] 202;rw[<-n]at this;exact⟨(this 0 _ rfl).1,(this 1 _ rfl).1,(this 2 _ rfl).1,(this 0 _ rfl).2,(this 1 _ rfl).2,(this 2 _ rfl).2⟩
 have O:=Yx m;have P:=Yx n;obtain⟨b,hb⟩:∃b,b=l.heap.size:=⟨_,rfl⟩;have zF:w.heap.size<b:=Yw
 have HB:=Yx hb;rw[<-hb]at ha x1 zA;clear m n he R0 hb D E;go_enter func103,ntmps103;go_upto_region 2 with fail;rw[<-O.o,<-P.o,<-W,<-HB.o];clear O P HB W;go_wp2_with fail;refine(Uu b s wd c x1.o Y.o ha.o hs).mono ?_;rintro e C ⟨v,rfl,ho,U,f⟩;obtain⟨ra,rc,hv,_⟩:=Ea ho;subst hv;have zH:=f.size
 obtain⟨t,o⟩:∃t,t=C.alloc (.cells (Yh (AS s wd) ((Bg s wd).1) ((BQ s wd).1) (Ff s wd) ((Be s wd).1) ra ((Be s wd).2.length) rc) 66):=⟨_,rfl⟩;have F:=(AA o).1;have zB:C.heap.size+1=t.heap.size:=by rw[o];simp
 have Z3:=(AA o).2.2;obtain⟨d,r⟩:∃d,d=t.alloc (.cells #[.pointer none] 204):=⟨_,rfl⟩;have G:=(AA r).1;have zC:t.heap.size<d.heap.size:=by rw[r];simp
 have A:=(AA r).2.2;have X:=Z3.below G;have i:Below C.heap.size C d:=F.trans (G.mono F.size);have a:=(R1.o.bz f (show b≠w.heap.size by omega)).below i;have e4:=(Y.o.iy f ha.o).below i;have r4:=U.below i;have o4:=(ho.kept (Aq none i) (Classical.em _))
 have B4:Below w.heap.size w d:=S.trans (Below.trans (B:=w.heap.size) ⟨f.os,f.tape,f.output,f.size,fun k hk=>f.block k Yw (fun e=>by have:=Option.some.inj e;omega)⟩ (i.mono Yw));have Q:=Yx o;have R:=Yx r;have K:=Yx (Zn e4 (Zn o4 B4));obtain⟨x,J⟩:∃x,x=t.heap.size:=⟨_,rfl⟩;rw[<-J]at A;have N:Hid (x=t.heap.size):=J;have zG:C.heap.size<x:=Yw
 clear J;clear o r F G i Z3 ho U f e4 o4 B4 R1 Y x1;go_upto_region 4 with fail;rw[<-Q.o,<-R.o,<-N.o];clear Q R N zB zC;have zE:b<x:=Yw
 have I:w.heap.size<x:=Yw
 obtain⟨er,z,y0,y1,M,_,_,_⟩:=r4;cases er with
 |none=>
  have H:Hid (CL s wd=false):=z.symm;simp only[Jb]at M;go_wp2_with fail;refine(Aah _ d).mono ?_;rintro e L ⟨rfl,V⟩;rw[V];clear V L;obtain⟨z0,z1,z2,z3,z4,z5⟩:=Aa.c6 X 0 1 2 3 4 5;obtain⟨r0,q0⟩:=a 0 _ rfl;obtain⟨r1,q1⟩:=a 1 _ rfl;obtain⟨r2,q2⟩:=a 2 _ rfl;obtain⟨r3,q3⟩:=a 3 _ rfl;obtain⟨r4,q4⟩:=a 4 _ rfl;obtain⟨r5,q5⟩:=a 5 _ rfl;clear X a A y0 y1 M z;go_wp2
  refine bodyPost_ret (v:=.tuple #[.agg (Yh (AS s wd) ((Bg s wd).1) ((BQ s wd).1) (Ff s wd) ((Be s wd).1) ra ((Be s wd).2.length) rc),.bool true]) (by simp[results,results103,go_sem, *]) rfl ?_;have Z:AE s wd=⟨AS s wd,(Bg s wd).1,(BQ s wd).1,Ff s wd,(Be s wd).1,(Be s wd).2,true⟩:=by unfold AE;rw[if_neg (by rw[H.o];decide)]
  unfold CY;rw[Z];have T:w.heap.size<c.heap.size:=Yw
  refine⟨_,rfl,?_,?_⟩
  .refine World.ownsRow.mono ?_ (Nat.le_of_lt T)
   iterate 6 (refine ownsRow_setCell_below ?_ T _)
   exact K.o.2.1
  .iterate 6 (refine Below.setCell ?_ (show w.heap.size<=w.heap.size from Zx) _)
   exact K.o.2.2
 |some q=>
  have H:Hid (CL s wd=true):=z.symm;simp only[Jb]at M;go_wp2_with fail;refine(Aan q x (.pointer none) d K.o.1.ja (A 0 _ rfl).1 (A 0 _ rfl).2).mono ?_;rintro e L ⟨rfl,y⟩;have u:∀j v,d.cell? (Ze (w.heap.size) j)=some v->L.cell? (Ze (w.heap.size) j)=some v:=fun j v h=>(y.cell (p:=⟨w.heap.size,j,none⟩) I).trans h
  have h1:∀j,d.frozen? ⟨w.heap.size,j,none⟩=false->L.frozen? ⟨w.heap.size,j,none⟩=false:=fun j h=>(y.frozen (p:=⟨w.heap.size,j,none⟩) I).trans h;have r0:=u 0 _ (a 0 _ rfl).1;have r1:=u 1 _ (a 1 _ rfl).1;have r2:=u 2 _ (a 2 _ rfl).1;have r3:=u 3 _ (a 3 _ rfl).1;have r4:=u 4 _ (a 4 _ rfl).1;have r5:=u 5 _ (a 5 _ rfl).1;have q0:=h1 0 (a 0 _ rfl).2;have q1:=h1 1 (a 1 _ rfl).2
  have q2:=h1 2 (a 2 _ rfl).2;have q3:=h1 3 (a 3 _ rfl).2;have q4:=h1 4 (a 4 _ rfl).2;have q5:=h1 5 (a 5 _ rfl).2;have B5:=Yx (K.o.2.2.trans (y.mono (Nat.le_of_lt I)));clear u h1 X a A y0 y1 M z y;go_wp2;refine bodyPost_ret (v:=.tuple #[.agg Yc,.bool false]) (by simp[results,results103,go_sem, *]) rfl ?_;have Z:AE s wd=Hw:=by unfold AE;rw[if_pos H.o]
  unfold CY;rw[Z];refine⟨Zc,rfl,World.ownsRow_nil _ _ _ _,?_⟩
  iterate 6 (refine Below.setCell ?_ (show w.heap.size<=w.heap.size from Zx) _)
  exact B5.o
theorem Jf(n:Int)(w:Zh):
 Calls prog 40 #[Zg n] w fun e a=>e=.returned (.bool (decide (1<=n/\n<=8)))/\a=w:=by
 by_cases h1:1<=n
 .by_cases h2:n<=8
  .go_enter func40,ntmps40;go_wp2;go_ret;exact⟨Ax (by simp[h1,h2]),rfl⟩
  .have c:decide (n<=8)=false:=by simpa using h2
   go_enter func40,ntmps40;go_wp2;go_ret;exact⟨rfl,rfl⟩
 .have b:decide (1<=n)=false:=by simpa using h1
  go_enter func40,ntmps40;go_wp2;go_ret;exact⟨rfl,rfl⟩
theorem Nn(h:¬(1<=wd/\wd<=8)):AE s wd=Hw:=by unfold AE;rw[if_pos (Wh h)]
theorem No(h1:1<=wd)(h2:wd<=8)(b:l.length<6):AE (AD l) wd=Hw:=by
 unfold AE;rw[if_pos]
 match l,b with
 |[],_=>exact Aat h1 h2
 |a::l,b=>
  by_cases h4:l.length<4
  .exact Wi a l h1 h2 h4
  .cases hk:EJ (a.toNat:Int)with
   |false=>exact Gk (by rw[Ha _ _ h1 h2,hk];rfl)
   |true=>
    match l,b,h4 with
    |[a1,a2,a3,a4],_,_=>exact Wj a a1 a2 a3 a4 h1 h2 hk
    |[],_,h4=>simp at h4
    |[_],_,h4=>simp at h4
    |[_,_],_,h4=>simp at h4
    |[_,_,_],_,h4=>simp at h4
theorem Pq{a c d e f b:UInt8}{T:List UInt8}(h1:1<=wd)(h2:wd<=8)(g:T.length<b.toNat):AE (AD (a::c::d::e::f::b::T)) wd=Hw:=by
 unfold AE;rw[if_pos];cases hk:EJ (a.toNat:Int)with
 |false=>exact Gk (by rw[Ha _ _ h1 h2,hk];rfl)
 |true=>exact Wk a c d e f b T h1 h2 hk g
theorem Hx{a:Zh}(h:AE s wd=Hw)(b:Zz w a):CY s wd w (.returned (.tuple #[.agg Yc,.bool false])) a:=by unfold CY;rw[h];exact⟨Zc,rfl,World.ownsRow_nil _ _ _ _,b⟩
theorem Sq(s:Zi)(wd:Int)(w:Zh)(h:¬(1<=wd/\wd<=8)):
 Calls prog 90 #[.string s,Zg wd] w (CY s wd w):=by
 have c:decide (1<=wd/\wd<=8)=false:=by simpa using h
 have HN:=Yx (Nn (s:=s) h);clear h;go_enter func90,ntmps90;go_wp2_with (go_at_call 40;refine(Jf wd _).mono ?_;rintro e b ⟨rfl,a⟩;rw[a];clear a b);exact bodyPost_ret (v:=.tuple #[.agg Yc,.bool false]) (by simp[results,results90,go_sem]) rfl (Hx HN.o (Zy))
theorem Sr(s:Zi)(wd:Int)(w:Zh)(h1:1<=wd)(h2:wd<=8)(b:s.size<6):
 Calls prog 90 #[.string s,Zg wd] w (CY s wd w):=by
 have f:decide (1<=wd/\wd<=8)=true:=by simp[h1,h2]
 have d:decide ((s.size:Int)<6)=true:=Yu
 have HN:=Yx (No (l:=s.data.toList) h1 h2 b);go_enter func90,ntmps90;go_wp2_with (go_at_call 40;refine(Jf wd _).mono ?_;rintro e c ⟨rfl,a⟩;rw[a];clear a c);exact bodyPost_ret (v:=.tuple #[.agg Yc,.bool false]) (by simp[results,results90,go_sem]) rfl (Hx HN.o (Zy))
theorem Ss(s:Zi)(wd:Int)(w:Zh)(o:s.size<=1048576)(h1:1<=wd)(h2:wd<=8)(a:Nat)(l:6<=s.size)(c:s[5].toNat=a)(d:AE s wd=Hw)(n:s.size<6+a):
 Calls prog 90 #[.string s,Zg wd] w (CY s wd w):=by
 have m:decide (1<=wd/\wd<=8)=true:=by simp[h1,h2]
 have h:decide ((s.size:Int)<6)=false:=Yu
 have j:(5:Int)<s.size:=Yw
 have i:decide ((s.size:Int)<6+(a:Int))=true:=Yu
 have k:a<256:=by rw[<-c];exact s[5].toNat_lt
 have f:=Cg s[5];rw[c]at f;have HN:=Yx d;clear d;go_enter func90,ntmps90;go_wp2_with (go_at_call 40;refine(Jf wd _).mono ?_;rintro e g ⟨rfl,b⟩;rw[b];clear b g);exact bodyPost_ret (v:=.tuple #[.agg Yc,.bool false]) (by simp[results,results90,go_sem]) rfl (Hx HN.o (Zy))
theorem St(s:Zi)(wd:Int)(b t u z Y i:Nat)(w:Zh)(hs:s.size<=1048576)(h1:1<=wd)(h2:wd<=8)(h6:6<=s.size)(K:s[0].toNat=b)(L:s[1].toNat=t)(M:s[2].toNat=u)(N:s[3].toNat=z)(O:s[4].toNat=Y)(g5:s[5].toNat=i)(hf:6+i<=s.size)(a k:Zi)(zM:s.extract 6 (6+i)=a)(zP:s.extract (6+i) s.size=k)(n:Int)(hn:(t:Int) *16777216+(u:Int) *65536+(z:Int) *256+(Y:Int)=n)(g f:Zi)(c:Zl)(zR:g=if (b:Int)=1 then ⟨#[]⟩else k)(zU:f=if (b:Int)=1 then (rd k wd).1 else ⟨#[]⟩)(zO:c=if (b:Int)=1 then (rd k wd).2.1 else [])(hR:AE s wd=if (Cn b g a n f c wd&&decide (Cr b g a n f c wd=s))=true then ⟨b,g,a,n,f,c,true⟩else Hw):
 Calls prog 90 #[.string s,Zg wd] w (CY s wd w):=by
 have hd:decide (1<=wd/\wd<=8)=true:=by simp[h1,h2]
 have zH:decide ((s.size:Int)<6)=false:=Yu
 have l5:(5:Int)<s.size:=Yw
 have zI:decide ((s.size:Int)<6+(i:Int))=false:=Yu
 have b0:b<256:=by rw[<-K];exact s[0].toNat_lt
 have b1:t<256:=by rw[<-L];exact s[1].toNat_lt
 have b2:u<256:=by rw[<-M];exact s[2].toNat_lt
 have b3:z<256:=by rw[<-N];exact s[3].toNat_lt
 have b4:Y<256:=by rw[<-O];exact s[4].toNat_lt
 have b5:i<256:=by rw[<-g5];exact s[5].toNat_lt
 have w0:=Cg s[0];have w1:=Cg s[1];have w2:=Cg s[2];have w3:=Cg s[3];have w4:=Cg s[4];have S:=Cg s[5];rw[K]at w0;rw[L]at w1;rw[M]at w2;rw[N]at w3;rw[O]at w4;rw[g5]at S;have zA:=Yx (Zn b0 (Zn b1 (Zn b2 (Zn b3 b4))));have zF:=Yx (Zn w0 (Zn w1 (Zn w2 (Zn w3 w4))));have zB:=Yx (Zn K (Zn L (Zn M (Zn N O))));have HX:=Yx (Zn hs (Zn h1 h2));have d:=Yx (Zn zM (Zn zP (Zn hn (Zn zR (Zn zU (Zn zO hR))))))
 clear zM zP hn zR zU zO hR;clear b0 b1 b2 b3 b4 w0 w1 w2 w3 w4 K L M N O;obtain⟨W,Q⟩:∃W,W=w.alloc (.cells Yc 66):=⟨_,rfl⟩;have zW:=(AA Q).1;have hz:w.heap.size<W.heap.size:=by rw[Q];simp
 have R0:Hid (Aa W _ _):=(AA Q).2.2;have HW:=Yx Q;clear Q;go_enter func90,ntmps90;go_upto_region 1 with fail;rw[<-HW.o];clear HW;go_upto_region 3 with(go_at_call 40;refine(Jf wd _).mono ?_;rintro e w' ⟨rfl,zV⟩;rw[zV];clear zV w');go_cut [6] (fun v G=>v=Yz W.heap.size/\G=(W.alloc (.cells #[Zg (b:Int),Zd,Zd,Zg n,Zd,Zc] 66)).drew)
 case first=>
  obtain⟨b0,b1,b2,b3,b4⟩:=zA.o;have m1:=Ez ((t:Int) *16777216) Yw Yw;have m2:=Ez ((u:Int) *65536) Yw Yw;have m3:=Ez ((z:Int) *256) Yw Yw;have p1:=Ez ((t:Int) *16777216+(u:Int) *65536) Yw Yw;have p2:=Ez ((t:Int) *16777216+(u:Int) *65536+(z:Int) *256) Yw Yw
  have p3:=Ez ((t:Int) *16777216+(u:Int) *65536+(z:Int) *256+(Y:Int)) Yw Yw;have l0:(0:Int)<s.size:=Yw
  have l1:(1:Int)<s.size:=Yw
  have l2:(2:Int)<s.size:=Yw
  have l3:(3:Int)<s.size:=Yw
  have l4:(4:Int)<s.size:=Yw
  obtain⟨w0,w1,w2,w3,w4⟩:=zF.o;obtain⟨K,L,M,N,O⟩:=zB.o;clear b0 b1 b2 b3 b4 b5 zI zH hd;have H5:=Yx (Zn g5 (Zn S l5));clear S l5
  go_big_region
  go_wp2_with fail;go_meet;exact⟨rfl,by rw[d.o.2.2.1]⟩
 case rest=>
 revert wc;intro W3 hcut;obtain⟨rfl,V⟩:=hcut;have zY:=hf;clear b5 zI zH hd zA zF zB HX;have X:Below W.heap.size W W3:=by rw[V];exact(Zy).drew
 have Z3:Aa W3 W.heap.size [Zg (b:Int),Zd,Zd,Zg n,Zd,Zc]:=by rw[V];exact Aa.new W _ _
 have R3:=R0.o.below X;have B3:=zW.trans (X.mono (Nat.le_of_lt hz));obtain⟨B,hB⟩:∃B,B=W.heap.size:=⟨_,rfl⟩;rw[<-hB]at Z3;have HB:=Yx hB;obtain⟨y,yB⟩:=Z3 2 _ rfl;have F:w.heap.size<B:=Yw
 obtain⟨C,o⟩:∃C,C=W3.setCell (Ze B 2) (.string a):=⟨_,rfl⟩;have D:Hid (Aa C B [Zg (b:Int),Zd,.string a,Zg n,Zd,Zc]):=by rw[o];exact Z3.set 2 _
 have R4:Hid (Aa C w.heap.size Yb):=by rw[o];exact R3.bz (Az _ _ _ _) Yw
 have Z:Hid (Zz w C):=by rw[o];exact B3.setCell (p:=⟨B,2,none⟩) (Nat.le_of_lt F) _
 have zE:=Yx o;have Hn:=Yx d.o.1;have Hr:=Yx d.o.2.1;rw[<-hB];clear V X o R3 B3 hB Z3;have e6:((6:Int)+(i:Int)).toNat=6+i:=Yw
 have u1:(6:Int)<=6+(i:Int):=Yw
 have u2:(6:Int)+(i:Int)<=(s.size:Int):=Yw
 go_upto_region 6 with fail;rw[Hn.o,Hr.o,<-zE.o];have zS:k.size<=1048576:=by rw[<-Hr.o];simp;omega
 have yA:a.size<=1048576:=by rw[<-Hn.o];simp;omega
 have zX:=HB.o.symm;clear zE Hn Hr y yB e6 u1 u2 S l5 R0 zW hz zX HB;clear g5;clear hf zY h6;have HX:=Yx (Zn hs (Zn h1 h2));clear hs h1 h2;obtain⟨m,_⟩:=D.o 0 _ rfl
 go_upto_if 63 with fail
 go_cut [] (fun G=>∃(ra:Zk) (j:Nat),Hid (Aa G B (Ye (b:Int) g a n f ra c.length j))/\Hid (Aa G w.heap.size Yb)/\Hid (G.ownsRow (w.heap.size+1) 9 1 (.slice ra c.length j) c.length (c.map Value.string))/\Hid (Zz w G))
 case first=>
  by_cases hk:(b:Int)=1
  .have e1:Hid (g=⟨#[]⟩):=by show _=_;rw[d.o.2.2.2.1,if_pos hk]
   have e2:Hid (f=(rd k wd).1):=by show _=_;rw[d.o.2.2.2.2.1,if_pos hk]
   have e3:Hid (c=(rd k wd).2.1):=by show _=_;rw[d.o.2.2.2.2.2.1,if_pos hk]
   have hq:((b:Int)==1)=true:=by simpa using hk
   have HK:=Yx hk;clear hk;go_wp2_with fail;have HR:=Uo k wd C zS;unfold EG at HR;refine HR.mono ?_;rintro e S ⟨v,rfl,ho,E⟩;rw[<-e3.o]at ho;rw[<-e2.o];obtain⟨ra,j,hv,_⟩:=Ea ho;subst hv;have Z5:=Aa.below D.o E;have R5:=Aa.below R4.o E;have zG:=D.o.lt;obtain⟨I,yE⟩:=Z5 4 _ rfl;obtain⟨J,yF⟩:=Z5 5 _ rfl;have B5:=Z.o.trans (E.mono Z.o.size);clear HR E m hq;go_wp2_with fail;go_meet
   refine⟨ra,j,?_,?_,?_,?_⟩
   .rw[e1.o];exact(Z5.set 4 _).set 5 _
   .exact(R5.bz (Az _ B 4 _) Yw).bz (Az _ B 5 _) Yw
   .exact(ownsRow_setCell_below (ownsRow_setCell_below ho zG _) zG _).mono Yw
   .exact(B5.setCell (p:=⟨B,4,none⟩) (Nat.le_of_lt F) _).setCell (p:=⟨B,5,none⟩) (Nat.le_of_lt F) _
  .have e1:Hid (g=k):=by show _=_;rw[d.o.2.2.2.1,if_neg hk]
   have e2:Hid (f=⟨#[]⟩):=by show _=_;rw[d.o.2.2.2.2.1,if_neg hk]
   have e3:Hid (c=[]):=by show _=_;rw[d.o.2.2.2.2.2.1,if_neg hk]
   have hq:((b:Int)==1)=false:=by simpa using hk
   obtain⟨H,yD⟩:=D.o 1 _ rfl;have HK:=Yx hk;clear hk;go_wp2_with fail;go_meet;refine⟨none,0,?_,?_,?_,?_⟩
   .rw[e1.o,e2.o,e3.o];exact D.o.set 1 _
   .exact R4.o.bz (Az _ B 1 _) Yw
   .rw[e3.o];exact World.ownsRow_nil _ _ _ _
   .exact Z.o.setCell (p:=⟨B,1,none⟩) (Nat.le_of_lt F) _
 case rest=>
 revert wc;intro w6 hcut;obtain⟨ra,j,Z6,R6,O6,B6⟩:=hcut;clear D R4 Z m;obtain⟨m,H,y,T,I,J⟩:=Aa.c6 Z6.o 0 1 2 3 4 5;have zN:c.length<=255:=by
  rw[d.o.2.2.2.2.2.1];split
  .exact XC _ _
  .exact Nat.zero_le _
 have zT:f.size<=maxLen:=by
  rw[d.o.2.2.2.2.1];unfold maxLen;split
  .have:=Rf k wd;omega
  .exact Nat.zero_le _
 have zK:a.size<=maxLen:=Yq
 have U:Hid (Ad w6 w6.heap.size ra c):=by obtain⟨a',c',hv,hr⟩:=Ea O6.o;cases hv;exact hr
 have A:=Yx (Zn zN (Zn zT zK));clear zN zT zK zS yA;go_wp2_with fail;refine(Aaf (b:Int) g a n f ra j c wd w6 U.o (by have:=A.o.1;omega) A.o.2.1 A.o.2.2).mono ?_;rintro e w7 ⟨rfl,l⟩;have Z7:Hid (Aa w7 B (Ye (b:Int) g a n f ra c.length j)):=Z6.o.below l;have x:Hid (Aa w7 w.heap.size Yb):=R6.o.below l
 have O7:Hid (w7.ownsRow (w.heap.size+1) 9 1 (.slice ra c.length j) c.length (c.map Value.string)):=O6.o.kept (Aq none l) (Classical.em _);have B7:=Yx (B6.o.trans (l.mono B6.o.size));have S7:=Yx (Ad.j U.o l);clear Z6 R6 O6 B6 U l m H y T I J;obtain⟨m,H,y,T,I,J⟩:=Aa.c6 Z7.o 0 1 2 3 4 5;cases hok:Cn (b:Int) g a n f c wd with
 |false=>
  have P:Hid (AE s wd=Hw):=by show _=_;rw[d.o.2.2.2.2.2.2,if_neg (by rw[hok];simp)]
  obtain⟨r0,q0⟩:=x.o 0 _ rfl;obtain⟨r1,q1⟩:=x.o 1 _ rfl;obtain⟨r2,q2⟩:=x.o 2 _ rfl;obtain⟨r3,q3⟩:=x.o 3 _ rfl;obtain⟨r4,q4⟩:=x.o 4 _ rfl;obtain⟨r5,q5⟩:=x.o 5 _ rfl;clear m H y T I J hok;go_wp2;refine bodyPost_ret (v:=.tuple #[.agg Yc,.bool false]) (by simp[results,results90,go_sem, *]) rfl ?_;refine Hx P.o ?_
  iterate 6 (refine Below.setCell ?_ (show w.heap.size<=w.heap.size from Zx) _)
  exact B7.o
 |true=>
  have zC:=Yx hok;clear hok;go_wp2_with fail;refine(Ut (b:Int) g a n f ra j c wd w7 S7.o (by have:=A.o.1;omega) A.o.2.1 A.o.2.2).mono ?_;rintro e w8 ⟨rfl,q⟩;have Z8:=Z7.o.below q;have R8:=x.o.below q;have O8:=O7.o.kept (Aq none q) (Classical.em _);have B8:=B7.o.trans (q.mono B7.o.size);clear m H y T I J;obtain⟨m,H,y,T,I,J⟩:=Aa.c6 Z8 0 1 2 3 4 5;obtain⟨r0,q0⟩:=R8 0 _ rfl;obtain⟨r1,q1⟩:=R8 1 _ rfl
  obtain⟨r2,q2⟩:=R8 2 _ rfl;obtain⟨r3,q3⟩:=R8 3 _ rfl;obtain⟨r4,q4⟩:=R8 4 _ rfl;obtain⟨r5,q5⟩:=R8 5 _ rfl;have HC:=Yx (Zn O8 B8);clear Z8 R8 O8 B8 q;obtain⟨R,r⟩:∃R,R=Cr (b:Int) g a n f c wd:=⟨_,rfl⟩;rw[<-r];by_cases heq:R=s
  .have P:Hid (AE s wd=⟨b,g,a,n,f,c,true⟩):=by show _=_;rw[d.o.2.2.2.2.2.2,if_pos (by rw[zC.o,<-r,heq];simp)]
   subst heq;clear r;go_wp2;refine bodyPost_ret (v:=.tuple #[.agg (Yh (b:Int) g a n f ra c.length j),.bool true]) (by simp[results,results90,go_sem, *]) rfl ?_;unfold CY;rw[P.o];have zJ:w.heap.size<w.heap.size+1:=Nat.lt_succ_self _;refine⟨_,rfl,?_,?_⟩
   .refine World.ownsRow.mono ?_ (Nat.le_of_lt zJ)
    iterate 6 (refine ownsRow_setCell_below ?_ zJ _)
    exact HC.o.1
   .iterate 6 (refine Below.setCell ?_ (show w.heap.size<=w.heap.size from Zx) _)
    exact HC.o.2
  .have P:Hid (AE s wd=Hw):=by show _=_;rw[d.o.2.2.2.2.2.2,if_neg (by rw[zC.o,<-r];simpa using heq)]
   have zZ:(R.toList==s.toList)=false:=by rw[beq_eq_false_iff_ne];intro h;rw[ByteArray.toList_eq,ByteArray.toList_eq]at h;exact heq (ByteArray.ext (Array.toList_inj.1 h))
   have yC:(R.toList !=s.toList)=true:=by rw[bne,zZ];rfl
   clear r heq;go_wp2;refine bodyPost_ret (v:=.tuple #[.agg Yc,.bool false]) (by simp[results,results90,go_sem, *]) rfl ?_;refine Hx P.o ?_
   iterate 6 (refine Below.setCell ?_ (show w.heap.size<=w.heap.size from Zx) _)
   exact HC.o.2
theorem Su(s:Zi)(wd:Int)(w:Zh)(a:s.size<=1048576):
 Calls prog 90 #[.string s,Zg wd] w (CY s wd w):=by
 by_cases hw:1<=wd/\wd<=8
 .obtain⟨h1,h2⟩:=hw;by_cases h6:s.size<6
  .exact Sr s wd w h1 h2 h6
  .obtain⟨l,rfl⟩:∃l,s=AD l:=⟨s.data.toList,rfl⟩;rw[BK]at a h6
   match l,a,h6 with
   |a0::a1::a2::a3::a4::a5::T,a,h6=>
    have b:(AD (a0::a1::a2::a3::a4::a5::T)).size=T.length+6:=by rw[BK];rfl
    by_cases hT:a5.toNat<=T.length
    .refine St _ wd a0.toNat a1.toNat a2.toNat a3.toNat a4.toNat a5.toNat w (by rw[BK];exact a) h1 h2 Yw rfl rfl rfl rfl rfl rfl Yw (AD (T.take a5.toNat)) (AD (T.drop a5.toNat)) ?_ ?_ (CK [a1,a2,a3,a4]) (XH a1 a2 a3 a4).symm _ _ _ rfl rfl rfl ?_
     .rw[Hv,show 6+a5.toNat -6=a5.toNat by omega];rfl
     .rw[b,Hv];congr 2;rw[show 6+a5.toNat=a5.toNat+6 by omega];show(T.drop a5.toNat).take _=_;exact Zt Yv
     .exact Nl a0 a1 a2 a3 a4 a5 T h1 h2 hT
    .exact Ss _ wd w (by rw[BK];exact a) h1 h2 a5.toNat Yw rfl (Pq h1 h2 Yw) Yw
   |[],_,h6=>simp at h6
   |[_],_,h6=>simp at h6
   |[_,_],_,h6=>simp at h6
   |[_,_,_],_,h6=>simp at h6
   |[_,_,_,_],_,h6=>simp at h6
   |[_,_,_,_,_],_,h6=>simp at h6
 .exact Sq s wd w hw
theorem JR(h:(AE s wd).ok=true):Cn (AE s wd).k (AE s wd).sum (AE s wd).name (AE s wd).n (AE s wd).t (AE s wd).ss wd=true/\Cr (AE s wd).k (AE s wd).sum (AE s wd).name (AE s wd).n (AE s wd).t (AE s wd).ss wd=s:=by
 by_cases hw:1<=wd/\wd<=8
 .obtain⟨h1,h2⟩:=hw;obtain⟨l,rfl⟩:∃l,s=AD l:=⟨s.data.toList,rfl⟩;by_cases h6:l.length<6
  .rw[No h1 h2 h6]at h;cases h
  .match l,h6,h with
   |a0::a1::a2::a3::a4::a5::T,h6,h=>
    by_cases hT:a5.toNat<=T.length
    .rw[Nl a0 a1 a2 a3 a4 a5 T h1 h2 hT]at h |-;split at h
     case isTrue hc=>
      rw[if_pos hc];unfold Po at hc;rw[Bool.and_eq_true,decide_eq_true_eq]at hc;exact hc
     case isFalse hc=>cases h
    .rw[Pq h1 h2 Yw]at h;cases h
   |[],h6,_=>simp at h6
   |[_],h6,_=>simp at h6
   |[_,_],h6,_=>simp at h6
   |[_,_,_],h6,_=>simp at h6
   |[_,_,_,_],h6,_=>simp at h6
   |[_,_,_,_,_],h6,_=>simp at h6
 .rw[Nn hw]at h;cases h
section
section
variable {wd now given births:Int} {ks:List Kd} {ps:List Pd} {ls:List Ld} {kd:Int} {s nm:Zi} {num:Int} {text:Zi} {refs:Zl}
theorem CF.cj{c d:List Kd}{a b:Int}(h1:CF wd births ks text refs c a)(h2:CF wd births ks text refs d b):c=d/\a=b:=by
 rcases h1 with⟨k,f,g,_,rfl,rfl⟩|⟨e,_,_,rfl,rfl⟩<;>rcases h2 with⟨k',hk',hs',_,rfl,rfl⟩|⟨hno',_,_,rfl,rfl⟩
 .exact⟨rfl,rfl⟩
 .exact absurd ⟨k,f,g⟩ hno'
 .exact absurd ⟨k',hk',hs'⟩ e
 .exact⟨rfl,rfl⟩
theorem Gp.cj(m:(ks.map (·.sum)).Nodup){v:Int}{u:Zi}(h1:Gp wd given births ks ls text refs c a b)(h2:Gp wd given births ks ls text refs v t u):c=v/\a=t/\b=u:=by
 have n:∀k∈ks,k.sum=Bh text refs wd->AJ k.M k.B wd≠AJ text refs wd->∀j o,¬CF wd births ks text refs j o:=by
  intro k f g p j o q;rcases q with⟨r,d,e,h,_⟩|⟨i,_⟩
  .have:=Gb m f d (g.trans e.symm);subst this;exact p h
  .exact i ⟨k,f,g⟩
 rcases h1 with⟨x,rfl,rfl,rfl⟩|⟨l,h1⟩<;>rcases h2 with⟨hn',rfl,rfl,rfl⟩|⟨hall',h2⟩
 .exact⟨rfl,rfl,rfl⟩
 .exact absurd hall' x
 .exact absurd l hn'
 .rcases h1 with⟨k,f,g,p,rfl,rfl,rfl⟩|⟨i,_,rfl,rfl,rfl⟩|⟨⟨j,o,q⟩,_,rfl,rfl,rfl⟩<;>rcases h2 with⟨r,d,e,h,rfl,rfl,rfl⟩|⟨hno',_,rfl,rfl,rfl⟩|⟨⟨ks2,b2,hy'⟩,_,rfl,rfl,rfl⟩
  .have:=Gb m f d (g.trans e.symm);subst this;exact⟨rfl,rfl,rfl⟩
  .exact absurd ⟨k,f,g⟩ hno'
  .exact absurd hy' (n k f g p _ _)
  .exact absurd ⟨r,d,e⟩ i
  .exact⟨rfl,rfl,rfl⟩
  .exact⟨rfl,rfl,rfl⟩
  .exact absurd q (n r d e h _ _)
  .exact⟨rfl,rfl,rfl⟩
  .exact⟨rfl,rfl,rfl⟩
theorem Gp.not(n:(ks.map (·.sum)).Nodup)(h1:Gp wd given births ks ls text refs c a b){t:List Kd}{o:Int}(h2:CF wd births ks text refs t o)(h:∀r∈refs,Av ks r)(y:ls.length<200)(x:given<1000000000):False:=by
 rcases h1 with⟨q,_⟩|⟨_,⟨k,i,j,p,_⟩|⟨f,d,_⟩|⟨_,d,_⟩⟩
 .exact q h
 .rcases h2 with⟨l,e,g,m,_⟩|⟨f,_⟩
  .have:=Gb n i e (j.trans g.symm);subst this;exact p m
  .exact f ⟨k,i,j⟩
 .rcases h2 with⟨l,e,g,_⟩|⟨_,u,v,_⟩
  .exact f ⟨l,e,g⟩
  .omega
 .omega
theorem GJ.cj(i:(ks.map (·.sum)).Nodup){g:Int}{e f:Zi}(h1:GJ wd now given births ks ps ls kd s nm num text refs c a b)(h2:GJ wd now given births ks ps ls kd s nm num text refs g e f):c=g/\a=e/\b=f:=by
 rcases h1 with⟨j,h1⟩|⟨rfl,rfl,h1⟩<;>rcases h2 with⟨hk',h2⟩|⟨rfl,rfl,h2⟩
 .exact h1.cj i h2
 .omega
 .omega
 .refine⟨?_,rfl,rfl⟩;rcases h1 with⟨d,⟨h1,rfl⟩|⟨h1,h,k,rfl⟩⟩|⟨d,h1,rfl⟩|⟨d,⟨h1,rfl⟩|⟨h1,h,rfl⟩⟩|⟨d,h1,rfl⟩|⟨d,h1,rfl⟩|⟨d,⟨h1,rfl⟩|⟨h1,h,rfl⟩⟩<;>rcases h2 with⟨k2,⟨h2,rfl⟩|⟨h2,x2,y2,rfl⟩⟩|⟨k2,h2,rfl⟩|⟨k2,⟨h2,rfl⟩|⟨h2,x2,rfl⟩⟩|⟨k2,h2,rfl⟩|⟨k2,h2,rfl⟩|⟨k2,⟨h2,rfl⟩|⟨h2,x2,rfl⟩⟩<;>first|rfl|omega|exact absurd h2 h1|exact absurd h1 h2
theorem FO.cj{b:Rs}(h1:FO wd now given births ks ps ls kd s nm num text refs r)(h2:FO wd now given births ks ps ls kd s nm num text refs b):r=b:=by rcases h1 with⟨a,_,_,_,d,e,c,rfl⟩|⟨a,_,_,rfl⟩|⟨a,_,rfl⟩|⟨a,_,_,_,rfl⟩|⟨a,_,rfl⟩|⟨a,_,rfl⟩|⟨a,_,_,rfl⟩<;>rcases h2 with⟨k2,_,_,_,ks2,b2,y2,rfl⟩|⟨k2,_,_,rfl⟩|⟨k2,_,rfl⟩|⟨k2,_,_,_,rfl⟩|⟨k2,_,rfl⟩|⟨k2,_,rfl⟩|⟨k2,_,_,rfl⟩<;>first|rfl|omega|(obtain⟨rfl,rfl⟩:=c.cj y2;rfl)
theorem GJ.not(h:(ks.map (·.sum)).Nodup)(h1:GJ wd now given births ks ps ls kd s nm num text refs c a b)(h2:FO wd now given births ks ps ls kd s nm num text refs r):False:=by rcases h2 with⟨f,g,j,i,l,m,k,_⟩|⟨f,e,d,_⟩|⟨f,e,_⟩|⟨f,e,d,n,_⟩|⟨f,e,_⟩|⟨f,e,_⟩|⟨f,e,d,_⟩<;>rcases h1 with⟨k1,h1⟩|⟨_,_,⟨k1,⟨h1,_⟩|⟨h1,x1,z1,_⟩⟩|⟨k1,h1,_⟩|⟨k1,⟨h1,_⟩|⟨h1,x1,_⟩⟩|⟨k1,h1,_⟩|⟨k1,h1,_⟩|⟨k1,⟨h1,_⟩|⟨h1,x1,_⟩⟩⟩<;>first|omega|exact absurd e h1|exact absurd x1 d|exact h1.not h k g j i|(rcases d with d|d;exact x1 d;omega)
end
end
section
attribute [local go_sem↓] Go.wp_at_zero Go.wp_at_succ
theorem Sv(k:Kd)(a f:Zk)(cap b:Nat)(w:Zh)(d:Ad w w.heap.size a k.B)(c:Ad w w.heap.size f k.B)(l:k.B.length<=1048576):
 Calls prog 129 #[.agg #[.string k.sum,Zg k.born,.string k.M,.slice a k.B.length cap],.agg #[.string k.sum,Zg k.born,.string k.M,.slice f k.B.length b]] w fun e m=>e=.returned (.bool true)/\Zz w m:=by
 have g:∀h i,Zz w ((w.alloc h).alloc i):=fun h i=>(Zy).alloc Yv _;go_enter func129,ntmps129;go_wp2_with fail;refine(PN k.M a f cap b k.B _ (d.j (g _ _)) (c.j (g _ _)) l).mono ?_;rintro e n ⟨rfl,j⟩;go_wp2;go_ret;exact⟨rfl,(g _ _).trans (j.mono Yu)⟩
theorem UB(p:Pd)(w:Zh):
 Calls prog 130 #[.agg #[.string p.name,.string p.sum],.agg #[.string p.name,.string p.sum]] w fun e a=>e=.returned (.bool true)/\Zz w a:=by
 go_enter func130,ntmps130;go_wp2;go_ret;exact⟨rfl,(Zy).alloc Yv _⟩
theorem Qt(p:Ld)(w:Zh):
 Calls prog 131 #[.agg #[Zg p.V,.string p.sum,Zg p.bg],.agg #[Zg p.V,.string p.sum,Zg p.bg]] w fun e a=>e=.returned (.bool true)/\Zz w a:=by
 go_enter func131,ntmps131;go_wp2;go_ret;exact⟨rfl,(Zy).alloc Yv _⟩
theorem Sw(a j:Zk)(cap g:Nat)(ps:List Pd)(w:Zh)(f:AG w w.heap.size a ps)(d:AG w w.heap.size j ps)(E:ps.length<=1048576):
 Calls prog 78 #[.slice a ps.length cap,.slice j ps.length g] w fun e r=>e=.returned (.bool true)/\Zz w r:=by
 go_enter func78,ntmps78;go_wp2
 go_loopw [5] (fun i wr=>∃k:Nat,k<=ps.length/\i=Zg k/\Zz w wr) (fun i _=>ps.length -(intOf i).toNat)
 case atStart=>exact⟨0,Nat.zero_le _,rfl,Below.refl _ _⟩
 case round=>
  obtain⟨k,D,rfl,c⟩:=hrel;by_cases hlt:k<ps.length
  .obtain⟨b,u,q,C,l⟩:=(f.below c).at hlt;obtain⟨v,o,m,t,h⟩:=(d.below c).at hlt;subst q m;obtain⟨y,z⟩:=l k _ (Zv hlt);obtain⟨A,B⟩:=h k _ (Zv hlt);clear l h f d;generalize ps[k]=x at *
   go_wp2;go_region_with (go_at_call 130;refine(UB x _).mono ?_;rintro e F ⟨rfl,n⟩)
   all_goals
    have p:=c.drew.trans (n.mono c.size);go_wp2;exact⟨⟨k+1,Yw,Yp,p⟩,by simp[intOf];omega⟩
  .go_wp2;go_ret;exact⟨rfl,c⟩
theorem Pr(a j:Zk)(cap g:Nat)(ls:List Ld)(w:Zh)(f:AI w w.heap.size a ls)(d:AI w w.heap.size j ls)(F:ls.length<=1048576):
 Calls prog 79 #[.slice a ls.length cap,.slice j ls.length g] w fun e r=>e=.returned (.bool true)/\Zz w r:=by
 go_enter func79,ntmps79;go_wp2
 go_loopw [5] (fun i wr=>∃k:Nat,k<=ls.length/\i=Zg k/\Zz w wr) (fun i _=>ls.length -(intOf i).toNat)
 case atStart=>exact⟨0,Nat.zero_le _,rfl,Below.refl _ _⟩
 case round=>
  obtain⟨k,E,rfl,c⟩:=hrel;by_cases hlt:k<ls.length
  .obtain⟨b,u,q,D,l⟩:=(f.below c).at hlt;obtain⟨v,o,m,t,h⟩:=(d.below c).at hlt;subst q m;obtain⟨y,z,c2⟩:=l k _ (Zv hlt);obtain⟨A,B,C⟩:=h k _ (Zv hlt);clear l h f d;generalize ls[k]=x at *
   go_wp2;go_region_with (go_at_call 131;refine(Qt x _).mono ?_;rintro e G ⟨rfl,n⟩)
   all_goals
    have p:=c.drew.trans (n.mono c.size);go_wp2;exact⟨⟨k+1,Yw,Yp,p⟩,by simp[intOf];omega⟩
  .go_wp2;go_ret;exact⟨rfl,c⟩
theorem Qu(a n:Zk)(cap h:Nat)(ks:List Kd)(w:Zh)(g:By w w.heap.size a ks)(d:By w w.heap.size n ks)(P:ks.length<=1048576)(m:∀k∈ks,k.B.length<=1048576):
 Calls prog 77 #[.slice a ks.length cap,.slice n ks.length h] w fun e D=>e=.returned (.bool true)/\Zz w D:=by
 go_enter func77,ntmps77;go_wp2
 go_loopw [5] (fun i wr=>∃k:Nat,k<=ks.length/\i=Zg k/\Zz w wr) (fun i _=>ks.length -(intOf i).toNat)
 case atStart=>exact⟨0,Nat.zero_le _,rfl,Below.refl _ _⟩
 case round=>
  obtain⟨k,O,rfl,c⟩:=hrel;by_cases hlt:k<ks.length
  .obtain⟨b,F,B,N,o⟩:=(g.below c).at hlt;obtain⟨G,y,q,E,j⟩:=(d.below c).at hlt;subst B q;obtain⟨H,I,c2,ra,C,c3,p⟩:=o k _ (Zv hlt);obtain⟨J,K,L,u,v,M,l⟩:=j k _ (Zv hlt);have t:=m _ (List.getElem_mem hlt);clear o j g d m;generalize ks[k]=x at *
   have f:=Sv x ra u C v wr.drew (p.mono c.size) (l.mono c.size) t;have z:=Yx f;clear f p l;go_wp2;go_region_with (go_at_call 129;refine Calls.mono z.o ?_;rintro e Q ⟨rfl,r⟩)
   all_goals
    have A:=c.drew.trans (r.mono c.size);go_wp2;exact⟨⟨k+1,Yw,Yp,A⟩,by simp[intOf];omega⟩
  .go_wp2;go_ret;exact⟨rfl,c⟩
theorem Qv(wd now given births:Int)(a p l m o n:Zk)(r v u f k j:Nat)(ks:List Kd)(ps:List Pd)(ls:List Ld)(w:Zh)(c:BI w w.heap.size a p l ks ps ls)(b:BI w w.heap.size m o n ks ps ls)(t:Rw ks ps ls):
 Calls prog 28 #[.agg (Yi wd now given births a ks.length r p ps.length v l ls.length u),.agg (Yi wd now given births m ks.length f o ps.length k n ls.length j)] w fun e G=>e=.returned (.bool true)/\Zz w G:=by
 have q:∀A B,Zz w ((w.alloc A).alloc B):=fun A B=>(Zy).alloc Yv _;have y:=AZ.below (AZ.new w wd now given births (.slice a ks.length r) (.slice p ps.length v) (.slice l ls.length u) 40) ((Below.refl _ _).alloc (Zx) (.cells (Yi wd now given births m ks.length f o ps.length k n ls.length j) 40))
 have z:=AZ.new (w.alloc (.cells (Yi wd now given births a ks.length r p ps.length v l ls.length u) 40)) wd now given births (.slice m ks.length f) (.slice o ps.length k) (.slice n ls.length j) 40;go_enter func28,ntmps28;go_wp2_with fail;refine(Qu a m r f ks _ (c.j (q _ _)).k (b.j (q _ _)).k t.k t.r).mono ?_;rintro e J ⟨rfl,i⟩;have g:=(q _ _).trans (i.mono Yu)
 obtain⟨_,_,_,_,_,H,C,I⟩:=y.below i;obtain⟨_,_,_,_,_,D,x,E⟩:=z.below i;simp[go_sem]at D x E;clear i y z;go_wp2_with fail;refine(Sw p o v k ps _ (c.j g).p (b.j g).p t.p).mono ?_;rintro e K ⟨rfl,d⟩;have h:=g.trans (d.mono g.size);replace C:=(d.cell (p:=⟨w.heap.size,6,none⟩) I).trans C;replace x:=(d.cell (p:=⟨w.heap.size+1,6,none⟩) E).trans x;have M:=d.size;clear d H D;go_wp2_with fail
 refine(Pr l n u j ls _ (c.j h).l (b.j h).l t.l).mono ?_;rintro e L ⟨rfl,F⟩;go_wp2;go_ret;exact⟨rfl,h.trans (F.mono h.size)⟩
end
theorem AZ.same'{d:Zh}{b:Nat}{now given births:Int}(h:AZ w b wd now given births T P L)(l:d.heap[b]?=w.heap[b]?)(m:b<d.heap.size):AZ d b wd now given births T P L:=by obtain⟨e,h1,h2,f,g,i,k,n⟩:=h;have c:=fun j=>World.cell?_of_block (a:=⟨b,j,none⟩) l;exact⟨(c 0).trans e,(c 1).trans h1,(c 2).trans h2,(c 3).trans f,(c 4).trans g,(c 5).trans i,(c 6).trans k,m⟩
theorem UC(a k:Nat)(T:Value)(b:Zj)(ks:List Kd)(w:Zh)(h:Gc w a T b ks)(i:1<=k)(f:k+ks.length *3+AF ks<=100000000):
 Calls prog 80 #[T,Zg k] w fun e c=>e=.returned (Zg (k+ks.length *3+AF ks:Nat))/\Gc c a T b (Cj k ks)/\Tn (T.ownBlock.toList++b.filterMap Value.ownBlock) w c:=by
 have d:=h;rcases h.aj.2 with⟨rfl,j⟩|⟨g,cap,l,rfl,_⟩
 .obtain rfl:=List.length_eq_zero_iff.1 j;refine(Mk none 0 k w).mono ?_;rintro e c ⟨rfl,rfl⟩;exact⟨by simp[AF],d,Tn.of (Below.refl _ _)⟩
 .exact TJ a g cap k b ks w d i f
theorem UD(a k:Nat)(T:Value)(d:Zj)(ks:List Kd)(w:Zh)(h:Gc w a T d (Cj k ks))(j:1<=k)(i:k+ks.length *3+AF ks<=100000000):
 Calls prog 132 #[T,Zg k] w fun e f=>e=.returned (Zg (k+ks.length *3+AF ks:Nat))/\Zz w f:=by
 have b:=h;rcases h.aj.2 with⟨rfl,c⟩|⟨g,cap,l,rfl,_⟩
 .rw[BO]at c;obtain rfl:=List.length_eq_zero_iff.1 c;refine(Ml none 0 k w).mono ?_;rintro e f ⟨rfl,rfl⟩;exact⟨by simp[AF],Below.refl _ _⟩
 .rw[BO]at b |-;exact TM a g cap k d ks w b j i
theorem Wm(a k:Nat)(P:Value)(ps:List Pd)(w:Zh)(h:w.ownsRow a 163 2 P ps.length (Ab pC ps))(f:1<=k)(d:k+ps.length *2<=100000000):
 Calls prog 81 #[P,Zg k] w fun e b=>e=.returned (Zg (k+ps.length *2:Nat))/\b.ownsRow a 163 2 P ps.length (Ab pC (Ei k ps))/\Tn P.ownBlock.toList w b:=by
 have c:=h;rcases h.2 with⟨rfl,i⟩|⟨g,cap,j,rfl,_⟩
 .obtain rfl:=List.length_eq_zero_iff.1 i;refine(Nz none 0 k w).mono ?_;rintro e b ⟨rfl,rfl⟩;exact⟨Yv,c,Tn.of (Below.refl _ _)⟩
 .refine(VD a g cap k ps w c f d).mono ?_;rintro e b ⟨rfl,h1,h2⟩;exact⟨rfl,h1,Tn.grown h2 (by simp[Value.ownBlock])⟩
theorem Wn(a k:Nat)(P:Value)(ps:List Pd)(w:Zh)(h:w.ownsRow a 163 2 P ps.length (Ab pC (Ei k ps)))(f:1<=k)(c:k+ps.length *2<=100000000):
 Calls prog 133 #[P,Zg k] w fun e b=>e=.returned (Zg (k+ps.length *2:Nat))/\Zz w b:=by
 have d:=h;rcases h.2 with⟨rfl,i⟩|⟨g,cap,j,rfl,_⟩
 .obtain rfl:=List.length_eq_zero_iff.1 i;refine(NA none 0 k w).mono ?_;rintro e b ⟨rfl,rfl⟩;exact⟨Yv,Below.refl _ _⟩
 .exact VE a g cap k ps w d f c
theorem Sx(a k:Nat)(P:Value)(ps:List Ld)(w:Zh)(h:w.ownsRow a 164 3 P ps.length (Ab lC ps))(f:1<=k)(d:k+ps.length *3<=100000000):
 Calls prog 82 #[P,Zg k] w fun e b=>e=.returned (Zg (k+ps.length *3:Nat))/\b.ownsRow a 164 3 P ps.length (Ab lC (Ej k ps))/\Tn P.ownBlock.toList w b:=by
 have c:=h;rcases h.2 with⟨rfl,i⟩|⟨g,cap,j,rfl,_⟩
 .obtain rfl:=List.length_eq_zero_iff.1 i;refine(LG none 0 k w).mono ?_;rintro e b ⟨rfl,rfl⟩;exact⟨Yv,c,Tn.of (Below.refl _ _)⟩
 .refine(RQ a g cap k ps w c f d).mono ?_;rintro e b ⟨rfl,h1,h2⟩;exact⟨rfl,h1,Tn.grown h2 (by simp[Value.ownBlock])⟩
theorem Sy(a k:Nat)(P:Value)(ps:List Ld)(w:Zh)(h:w.ownsRow a 164 3 P ps.length (Ab lC (Ej k ps)))(f:1<=k)(c:k+ps.length *3<=100000000):
 Calls prog 134 #[P,Zg k] w fun e b=>e=.returned (Zg (k+ps.length *3:Nat))/\Zz w b:=by
 have d:=h;rcases h.2 with⟨rfl,i⟩|⟨g,cap,j,rfl,_⟩
 .obtain rfl:=List.length_eq_zero_iff.1 i;refine(LH none 0 k w).mono ?_;rintro e b ⟨rfl,rfl⟩;exact⟨Yv,Below.refl _ _⟩
 .exact RS a g cap k ps w d f c
def CN(ks:List Kd)(ps:List Pd)(ls:List Ld):Nat:=ks.length *3+AF ks+ps.length *2+ls.length *3
theorem Bf.iu{a:Nat}{b:Zj}(h:Bf w a T P L b ks ps ls):Gc w a T b ks:=by
 refine⟨h.len,h.aj,h.B,?_⟩;have:=h.nd;rw[FA]at this;unfold Bj at this;generalize T.ownBlock=t at *
 generalize P.ownBlock=p at *
 generalize L.ownBlock=l at *
 cases t<;>cases p<;>cases l<;>simp_all<;>grind
theorem Gc.same{g:Zh}{d:Zj}(h:Gc w base T d ks)(f:∀b,b<w.heap.size->b∈T.ownBlock.toList++d.filterMap Value.ownBlock->g.heap[b]?=w.heap[b]?):Gc g base T d ks:=
 ⟨h.len,Ak h.aj (fun b a=>f b (Ac h.aj a).2 (by simp[a])),fun i k r e c=>Ak (h.B i k r e c) (fun b a=>f b (Ac (h.B i k r e c) a).2 (List.mem_append_right _ (List.mem_filterMap.2 ⟨r,Zs c,a⟩))),h.nd⟩
theorem nd3{T P L:Option Nat}{R:List Nat}(h:(T.toList++(P.toList++(L.toList++R))).Nodup):(∀b∈T.toList++R,b∉P.toList/\b∉L.toList)/\(∀b∈P.toList,b∉T.toList++R/\b∉L.toList)/\(∀b∈L.toList,b∉T.toList++R/\b∉P.toList):=by cases T<;>cases P<;>cases L<;>simp_all<;>grind
theorem Sz(wd now given births:Int)(c k:Nat)(T P L:Value)(d:Zj)(ks:List Kd)(ps:List Pd)(ls:List Ld)(w:Zh)(h:Bf w c T P L d ks ps ls)(hk:1<=k)(A:k+CN ks ps ls<=100000000):
 Calls prog 31 #[.agg #[Zg wd,Zg now,Zg given,Zg births,T,P,L],Zg k] w fun e w'=>e=.returned (Zg (k+CN ks ps ls:Nat))/\Bf w' c T P L d (Cj k ks) (Ei (k+ks.length *3+AF ks) ps) (Ej (k+ks.length *3+AF ks+ps.length *2) ls)/\Tn (Bj T P L d) w w':=by
 have D:=h.nd;rw[FA]at D;obtain⟨n1,n2,n3⟩:=nd3 D;have f:Below w.heap.size w (w.alloc (.cells #[Zg wd,Zg now,Zg given,Zg births,T,P,L] 40)):=Zy;have o:=AZ.new w wd now given births T P L 40;obtain⟨W,O⟩:∃W,W=w.alloc (.cells #[Zg wd,Zg now,Zg given,Zg births,T,P,L] 40):=⟨_,rfl⟩;rw[<-O]at f o;have K:∀b∈Bj T P L d,b<w.heap.size:=by
  intro b a;unfold Bj at a;simp only[List.mem_append,Option.mem_toList,List.mem_filterMap]at a;rcases a with a|a|a|⟨r,E,a⟩
  .exact(Ac h.aj a).2
  .exact(Ac h.pins a).2
  .exact(Ac h.aq a).2
  .obtain⟨i,U⟩:=List.getElem?_of_mem E;have zJ:=(Zw U).1;have hl:=h.len;exact(Ac (h.B i ks[i] r (Zv Yw) U) a).2
 obtain⟨l,m,rfl⟩:=As h.aj;obtain⟨t,u,rfl⟩:=As h.pins;obtain⟨p,q,rfl⟩:=As h.aq;have n:=Yx h;have g:=Yx (Zn K (Zn n1 (Zn n2 n3)));have R:=Yx O;have HX:=Yx o;have zH:w.heap.size<W.heap.size:=o.2.2.2.2.2.2.2;have zE:k+ks.length *3+AF ks<=100000000:=by unfold CN at A;omega
 have zF:k+ks.length *3+AF ks+ps.length *2<=100000000:=by unfold CN at A;omega
 have zG:k+ks.length *3+AF ks+ps.length *2+ls.length *3<=100000000:=by unfold CN at A;omega
 obtain⟨x0,x1,x2,x3,x4,x5,x6,x7⟩:=o;clear h K n1 n2 n3 O D x0 x1 x2 x3 A;go_enter func31,ntmps31;go_upto_region 1 with fail;rw[<-R.o];clear R;have S:Gc W c (.slice l ks.length m) d ks:=Gc.same n.o.iu (fun b a _=>f.block b a);go_wp2_with fail;refine(UC c k _ d ks W S hk zE).mono ?_;rintro e w1 ⟨rfl,v,y⟩
 have G:∀b∈(Value.slice l ks.length m).ownBlock.toList++d.filterMap Value.ownBlock,b∈Bj (.slice l ks.length m) (.slice t ps.length u) (.slice p ls.length q) d:=fun b a=>by
  unfold Bj;rcases List.mem_append.1 a with a|a
  .exact List.mem_append_left _ a
  .exact List.mem_append_right _ (List.mem_append_right _ (List.mem_append_right _ a))
 have J:∀{V:List Nat} {X Y:Zh},Tn V X Y->(∀b∈V,b∈Bj (.slice l ks.length m) (.slice t ps.length u) (.slice p ls.length q) d)->W.heap.size<=X.heap.size->AZ X w.heap.size wd now given births (.slice l ks.length m) (.slice t ps.length u) (.slice p ls.length q)->AZ Y w.heap.size wd now given births (.slice l ks.length m) (.slice t ps.length u) (.slice p ls.length q):=fun ht hV hz o=>o.same' (ht.block _ Yw (fun e=>by have:=g.o.1 _ (hV _ e);omega)) (Zr (Zr zH hz) ht.size)
 have M:=J y G (Zx) HX.o;have zA:=M;obtain⟨_,_,_,_,_,y5,y6,_⟩:=zA;have p1:w1.ownsRow c 163 2 (.slice t ps.length u) ps.length (Ab pC ps):=Ak (Ae n.o.pins f) (fun b a=>y.block b (Zr (Ac n.o.pins a).2 f.size) (g.o.2.2.1 b (by simp[a])).1);have B:=Yx (Zn v (Zn y M));clear v y x4 x5 x6 S M;go_wp2_with fail;refine(Wm c (k+ks.length *3+AF ks) _ ps w1 p1 Yw zF).mono ?_;rintro e w2 ⟨rfl,C,j⟩
 have H:∀b∈(Value.slice t ps.length u).ownBlock.toList,b∈Bj (.slice l ks.length m) (.slice t ps.length u) (.slice p ls.length q) d:=fun b a=>by unfold Bj;exact List.mem_append_right _ (List.mem_append_left _ a)
 have N:=J j H B.o.2.1.size B.o.2.2;have zB:=N;obtain⟨_,_,_,_,_,_,z6,_⟩:=zB;have l2:w2.ownsRow c 164 3 (.slice p ls.length q) ls.length (Ab lC ls):=Ak (Ak (Ae n.o.aq f) (fun b a=>B.o.2.1.block b (Zr (Ac n.o.aq a).2 f.size) (g.o.2.2.2 b (by simp[a])).1)) (fun b a=>j.block b (Zr (Zr (Ac n.o.aq a).2 f.size) B.o.2.1.size) (g.o.2.2.2 b (by simp[a])).2);have H2:=Yx (Zn C (Zn j N));clear C j p1 y5 y6 N
 go_wp2_with fail;refine(Sx c (k+ks.length *3+AF ks+ps.length *2) _ ls w2 l2 Yw zG).mono ?_;rintro e w3 ⟨rfl,F,z⟩;have zC:∀b∈(Value.slice p ls.length q).ownBlock.toList,b∈Bj (.slice l ks.length m) (.slice t ps.length u) (.slice p ls.length q) d:=fun b a=>by unfold Bj;exact List.mem_append_right _ (List.mem_append_right _ (List.mem_append_left _ a))
 have H3:=Yx (Zn F z);clear F z l2 z6;go_wp2;go_ret;obtain⟨v,y,_⟩:=B.o;obtain⟨C,j,_⟩:=H2.o;obtain⟨F,z⟩:=H3.o;have zI:=y.size;have I:=j.size;refine⟨by rw[show k+CN ks ps ls=k+ks.length *3+AF ks+ps.length *2+ls.length *3 by unfold CN;omega];rfl,⟨by rw[BO];exact n.o.len,?_,?_,?_,?_,n.o.nd⟩,(((Tn.of f).trans (y.mono G)).trans (j.mono H)).trans (z.mono zC)⟩
 .exact Ak (Ak v.aj (fun b a=>j.block b (Ac v.aj a).2 (g.o.2.1 b (by simp[a])).1)) (fun b a=>z.block b (Zr (Ac v.aj a).2 I) (g.o.2.1 b (by simp[a])).2)
 .intro i x r o E;have Q:=v.B i x r o E;have Z:∀b,r.ownBlock=some b->b∈(Value.slice l ks.length m).ownBlock.toList++d.filterMap Value.ownBlock:=fun b a=>List.mem_append_right _ (List.mem_filterMap.2 ⟨r,Zs E,a⟩);exact Ak (Ak Q (fun b a=>j.block b (Ac Q a).2 (g.o.2.1 b (Z b a)).1)) (fun b a=>z.block b (Zr (Ac Q a).2 I) (g.o.2.1 b (Z b a)).2)
 .rw[EE];exact Ak C (fun b a=>z.block b (Ac C a).2 (g.o.2.2.1 b (by simp[a])).2)
 .rw[FK];exact F
theorem Bf.below{c:Zh}{b:Zj}(h:Bf w base T P L b ks ps ls)(a:Zz w c):Bf c base T P L b ks ps ls:=
 ⟨h.len,Ae h.aj a,fun i k r d e=>Ae (h.B i k r d e) a,Ae h.pins a,Ae h.aq a,h.nd⟩
theorem SA(wd now given births:Int)(a k:Nat)(T P L:Value)(p:Zj)(ks:List Kd)(ps:List Pd)(ls:List Ld)(w:Zh)(h:Bf w a T P L p (Cj k ks) (Ei (k+ks.length *3+AF ks) ps) (Ej (k+ks.length *3+AF ks+ps.length *2) ls))(y:1<=k)(f:k+CN ks ps ls<=100000000):
 Calls prog 85 #[.agg #[Zg wd,Zg now,Zg given,Zg births,T,P,L],Zg k] w fun e z=>e=.returned (Zg (k+CN ks ps ls:Nat))/\Zz w z:=by
 have c:Below w.heap.size w (w.alloc (.cells #[Zg wd,Zg now,Zg given,Zg births,T,P,L] 40)):=Zy;have j:=AZ.new w wd now given births T P L 40;obtain⟨W,i⟩:∃W,W=w.alloc (.cells #[Zg wd,Zg now,Zg given,Zg births,T,P,L] 40):=⟨_,rfl⟩;rw[<-i]at c j;obtain⟨X,Y,rfl⟩:=As h.aj;obtain⟨U,V,rfl⟩:=As h.pins;obtain⟨R,S,rfl⟩:=As h.aq;have g:=Yx (h.below c);have m:=Yx i;have n:=Yx j
 have r:k+ks.length *3+AF ks<=100000000:=by unfold CN at f;omega
 have t:k+ks.length *3+AF ks+ps.length *2<=100000000:=by unfold CN at f;omega
 have u:k+ks.length *3+AF ks+ps.length *2+ls.length *3<=100000000:=by unfold CN at f;omega
 obtain⟨C,D,E,F,G,H,I,x7⟩:=j;clear h i C D E F f;go_enter func85,ntmps85;go_upto_region 1 with fail;rw[<-m.o];clear m;go_wp2_with fail;refine(UD a k _ p ks W g.o.iu y r).mono ?_;rintro e A ⟨rfl,b⟩;have v:=AZ.below n.o b;obtain⟨_,_,_,_,_,J,K,_⟩:=v;have l:=Ae g.o.pins b;rw[EE]at l;have N:¬(((k+ks.length *3+AF ks:Nat):Int)<0):=Yw
 clear G H I;rw[EE]at *
 go_wp2_with fail;refine(Wn a (k+ks.length *3+AF ks) _ ps A l Yw t).mono ?_;rintro e B ⟨rfl,d⟩;have x:=AZ.below (AZ.below n.o b) d;obtain⟨_,_,_,_,_,_,M,_⟩:=x;have o:=Ae (Ae g.o.aq b) d;rw[FK]at *
 have O:¬(((k+ks.length *3+AF ks+ps.length *2:Nat):Int)<0):=Yw
 clear J K l;go_wp2_with fail;refine(Sy a (k+ks.length *3+AF ks+ps.length *2) _ ls B o Yw u).mono ?_;rintro e Z ⟨rfl,q⟩;have Q:¬(((k+ks.length *3+AF ks+ps.length *2+ls.length *3:Nat):Int)<0):=Yw
 clear M o;go_wp2;go_ret;exact⟨by rw[show k+CN ks ps ls=k+ks.length *3+AF ks+ps.length *2+ls.length *3 by unfold CN;omega];rfl,((c.trans (b.mono c.size)).trans (d.mono (Zm c.size b.size))).trans (q.mono (Zm (Zm c.size b.size) d.size))⟩
theorem SB(w:Zh)(a:Nat):Bf w a Zc Zc Zc [] [] [] []:=
 ⟨rfl,⟨rfl,.inl ⟨rfl,rfl⟩⟩,fun i k r b=>(by simp at b),⟨rfl,.inl ⟨rfl,rfl⟩⟩,⟨rfl,.inl ⟨rfl,rfl⟩⟩,List.nodup_nil⟩
structure An where
 code:Int
 wd:Int
 F:Int
 G:Int
 E:Int
 le:Int
 sm:Zi
 a:Zi
 b:Zi
 A:List Kd
 ps:List Pd
 ls:List Ld
def r0:Rs:=⟨⟨#[]⟩,0,0,0,0,[],[],[]⟩
def KB(wd:Int)(r:Rs)(x:Zi)(r':Rs):Prop:=(AE x wd).ok=true/\FO wd r.F r.G r.E r.A r.ps r.ls (AE x wd).k (AE x wd).sum (AE x wd).name (AE x wd).n (AE x wd).t (AE x wd).ss r'
def Bad(wd:Int)(r:Rs)(x:Zi):Prop:=(AE x wd).ok=false\/∃c a b,GJ wd r.F r.G r.E r.A r.ps r.ls (AE x wd).k (AE x wd).sum (AE x wd).name (AE x wd).n (AE x wd).t (AE x wd).ss c a b
def Ds(wd:Int):Rs->Zl->Rs->Prop
 |r,[],r'=>r'=r
 |r,x::xs,r'=>∃r1,KB wd r x r1/\Ds wd r1 xs r'
def DA(wd:Int)(xs:Zl)(n:Nat):Prop:=∃k r x,n=k+1/\xs[k]?=some x/\Ds wd r0 (xs.take k) r/\Bad wd r x
def Rs.ok(wd:Int)(r:Rs):Prop:=Hu wd r.F r.G r.E r.A r.ps r.ls
theorem Ds.snoc{a b:Rs}(h2:KB wd a x b):∀{xs:Zl} {r:Rs},Ds wd r xs a->Ds wd r (xs++[x]) b
 |[],r,h=>by obtain rfl:a=r:=h;exact⟨b,h2,rfl⟩
 |y::ys,r,h=>by obtain⟨e,c,d⟩:=h;exact⟨e,c,Ds.snoc h2 d⟩
theorem KB.cj{a b:Rs}(h:KB wd r x a)(k:KB wd r x b):a=b:=h.2.cj k.2
theorem KB.ok{a:Rs}(h:KB wd r x a)(b:r.ok wd):a.ok wd:=Hu.step b (JR h.1).1 h.2
theorem KB.not{f:Rs}(h:KB wd r x f)(d:r.ok wd):¬Bad wd r x:=by
 rintro(e|⟨c,a,b,e⟩)
 .rw[h.1]at e;cases e
 .exact e.not d.bx.nd h.2
theorem Ds.cj:∀{xs:Zl} {r a b:Rs},Ds wd r xs a->Ds wd r xs b->a=b
 |[],r,a,b,h,k=>by have h1:=h;have h2:=k;rw[h1,h2]
 |x::xs,r,a,b,h,k=>by obtain⟨e,h1,h2⟩:=h;obtain⟨f,c,d⟩:=k;obtain rfl:=h1.cj c;exact Ds.cj h2 d
theorem Ds.ok:∀{xs:Zl} {r r':Rs},Ds wd r xs r'->r.ok wd->r'.ok wd
 |[],r,r',h,hr=>by obtain rfl:r'=r:=h;exact hr
 |x::xs,r,r',h,hr=>by obtain⟨a,h1,h2⟩:=h;exact Ds.ok h2 (h1.ok hr)
theorem Ds.at:∀{xs:Zl} {r r':Rs},Ds wd r xs r'->∀{k:Nat} {x:Zi},xs[k]?=some x->∃a b,Ds wd r (xs.take k) a/\KB wd a x b
 |[],r,r',h,k,x,hx=>by simp at hx
 |y::ys,r,r',h,k,x,hx=>by
  obtain⟨d,c,e⟩:=h;cases k with
  |zero=>simp at hx;subst hx;exact⟨r,d,rfl,c⟩
  |succ k=>obtain⟨a,b,f,g⟩:=Ds.at e (k:=k) (x:=x) (by simpa using hx);exact⟨a,b,⟨d,c,f⟩,g⟩
theorem GW(h1:1<=wd)(a:wd<=8):r0.ok wd:=Hu.zero h1 a
theorem DA.not{a:Zl}{n:Nat}(h1:1<=wd)(e:wd<=8)(h:DA wd a n):¬Ds wd r0 a r:=fun f=>by obtain⟨k,i,x,rfl,g,h2,b⟩:=h;obtain⟨j,l,c,d⟩:=f.at g;obtain rfl:=h2.cj c;exact d.not (h2.ok (GW h1 e)) b
theorem DA.le{b:Zl}{n:Nat}(h1:1<=wd)(f:wd<=8)(h:DA wd b n)(k:DA wd b m):m<=n:=by
 obtain⟨i,r,x,rfl,g,h2,d⟩:=h;obtain⟨j,t,y,rfl,p,l,q⟩:=k;rcases Nat.lt_or_ge i j with c|o
 .obtain⟨u,v,a,e⟩:=l.at (k:=i) (x:=x) (by rw[List.getElem?_take_of_lt c];exact g);rw[List.take_take,Nat.min_eq_left Yw]at a;obtain rfl:=h2.cj a;exact absurd d (e.not (h2.ok (GW h1 f)))
 .omega
theorem DA.cj{b:Zl}{n:Nat}(h1:1<=wd)(a:wd<=8)(h:DA wd b n)(k:DA wd b m):n=m:=Nat.le_antisymm (k.le h1 a h) (h.le h1 a k)
def Ps(wd:Int)(xs:Zl)(x:An):Prop:=
 (¬((1<=wd/\wd<=8)/\xs.length<=4000)/\x=⟨1,0,0,0,0,0,⟨#[]⟩,⟨#[]⟩,⟨#[]⟩,[],[],[]⟩)\/
 (((1<=wd/\wd<=8)/\xs.length<=4000)/\(
   (∃n:Nat,DA wd xs n/\x=⟨7,0,0,0,0,n,⟨#[]⟩,⟨#[]⟩,⟨#[]⟩,[],[],[]⟩)\/
   (∃r,Ds wd r0 xs r/\x=⟨0,wd,r.F,r.G,r.E,0,⟨#[]⟩,⟨#[]⟩,⟨#[]⟩,r.A,r.ps,r.ls⟩)))
theorem Ps.cj{b:Zl}{x y:An}(h:Ps wd b x)(k:Ps wd b y):x=y:=by
 rcases h with⟨c,rfl⟩|⟨a,h⟩<;>rcases k with⟨n2,rfl⟩|⟨g2,k⟩
 .rfl
 .exact absurd g2 c
 .exact absurd a n2
 .rcases h with⟨n,h,rfl⟩|⟨r,h,rfl⟩<;>rcases k with⟨m,k,rfl⟩|⟨q,k,rfl⟩
  .obtain rfl:=h.cj a.1.1 a.1.2 k;rfl
  .exact absurd k (h.not a.1.1 a.1.2)
  .exact absurd h (k.not a.1.1 a.1.2)
  .obtain rfl:=h.cj k;rfl
end Go.Proofs.YtcankpdbabaacaaGreatDoor
