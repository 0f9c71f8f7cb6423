import Derived.Test.YtlhhpofjkgmbeaaGreatDoorX18
import Derived.BigRegion
set_option maxRecDepth 100000
set_option maxHeartbeats 16000000
namespace Go.Proofs.YtlhhpofjkgmbeaaGreatDoor
open Go.ChangeShapes Go.WideShapes Go.ChangeAt Go.RowKit _root_.Go.Proofs.Tryz
abbrev AD(l:List UInt8):Zi:=⟨l.toArray⟩
theorem WM(s:Zi):AD s.data.toList=s:=rfl
theorem GV(l:List UInt8)(a b:Nat):(AD l).extract a b=AD ((l.drop a).take (b -a)):=by apply ByteArray.ext;rw[ByteArray.data_extract];apply Array.ext';simp[List.take_drop]
theorem BF(l:List UInt8):(AD l).size=l.length:=by simp[ByteArray.size]
def IC(T:List UInt8)(wd i:Nat):Zi:=AD ((T.drop (i *wd)).take wd)
theorem Tl(T:List UInt8)(wd:Nat):∀k,k *wd<=T.length->flat ((List.range k).map (IC T wd))=T.take (k *wd):=by
 intro k;induction k with
 |zero=>intro _;simp[flat]
 |succ k ih=>
  intro h;have a:k *wd<=T.length:=by rw[Nat.succ_mul]at h;omega
  rw[List.range_succ,List.map_append];unfold flat at *
  rw[List.flatMap_append,ih a];simp only[List.map_cons,List.map_nil,List.flatMap_cons,List.flatMap_nil,List.append_nil,IC];rw[Nat.succ_mul,List.take_add]
theorem Tm(a:Zl)(t:List UInt8)(wd:Nat)(h:∀s∈a,s.size=wd):(List.range a.length).map (IC (flat a++t) wd)=a:=by
 induction a with
 |nil=>rfl
 |cons s r ih=>
  have b:s.data.toList.length=wd:=h s (List.mem_cons_self ..);have d:=ih (fun x e=>h x (by simp[e]));have c:flat (s::r)++t=s.data.toList++(flat r++t):=by simp[flat]
  rw[List.length_cons,List.range_succ_eq_map,List.map_cons,List.map_map,c];congr 1
  ·unfold IC;rw[Nat.zero_mul,List.drop_zero,List.take_left' b]
  ·refine Eq.trans ?_ d;apply List.map_congr_left;intro i _;simp only[Function.comp,IC];congr 2;rw[show Nat.succ i *wd=s.data.toList.length+i *wd by rw[Nat.succ_mul,b];omega,←List.drop_drop,List.drop_left]
theorem rd_mk(c:UInt8)(T:List UInt8)(wd:Int)(h1:1<=wd)(h2:wd<=8):
 rd (AD (c::T)) wd=if c.toNat *wd.toNat<=T.length/\AJ (AD (T.drop (c.toNat *wd.toNat))) ((List.range c.toNat).map (IC T wd.toNat)) wd=true then (AD (T.drop (c.toNat *wd.toNat)),(List.range c.toNat).map (IC T wd.toNat),true)else (⟨#[]⟩,[],false):=by
 obtain⟨W,rfl⟩:∃W:Nat,wd=W:=⟨wd.toNat,by omega⟩;have a:(AD (c::T)).size=T.length+1:=by rw[BF];rfl
 have b:(AD (c::T)).extract 1 (AD (c::T)).size=AD T:=by rw[a,GV];simp
 have f:Dn (AD (c::T)) W c.toNat=AD (T.drop (c.toNat *W)):=by unfold Dn;rw[b,GV,a];congr 2;rw[show((c.toNat:Int) *(W:Int)).toNat=c.toNat *W by rw[←Int.natCast_mul];rfl];exact Zt (by simp)
 have e:BE (AD (c::T)) W c.toNat=(List.range c.toNat).map (IC T W):=by unfold BE;apply List.map_congr_left;intro i _;unfold Jm IC;rw[b,GV];congr 2;rw[show((i:Int) *(W:Int)).toNat=i *W by rw[←Int.natCast_mul];rfl,show((i:Int) *(W:Int)+(W:Int)).toNat=i *W+W by rw[←Int.natCast_mul];omega];congr 1;omega
 have d:((c.toNat:Int) *(W:Int)<=((AD (c::T)).size:Int) -1)↔c.toNat *W<=T.length:=by rw[a,←Int.natCast_mul];omega
 unfold rd;rw[if_pos ⟨h1,h2⟩];simp only[List.head?_cons];unfold JQ;rw[f,e];simp only[d,Int.toNat_natCast]
theorem UY{l:List UInt8}{wd:Int}(h:(rd (AD l) wd).2.2=true):AJ (rd (AD l) wd).1 (rd (AD l) wd).2.1 wd=true/\BB (rd (AD l) wd).1 (rd (AD l) wd).2.1=l:=by
 by_cases hw:1<=wd/\wd<=8
 ·cases l with
  |nil=>unfold rd at h;rw[if_pos hw]at h;simp at h
  |cons c T=>
   rw[rd_mk c T wd hw.1 hw.2]at h ⊢;split at h
   case isTrue hc=>
    rw[if_pos hc];refine⟨hc.2,?_⟩;simp only[BB,List.length_map,List.length_range];rw[Tl T wd.toNat c.toNat hc.1];simp
   case isFalse hc=>simp at h
 ·unfold rd at h;rw[if_neg hw]at h;simp at h
theorem Pq{t:Zi}{a:Zl}{wd:Int}(h:AJ t a wd=true):rd (AD (BB t a)) wd=(t,a,true):=by
 have p:=BA h;have c:∀s∈a,s.size=wd.toNat:=fun s g=>by obtain⟨i,e⟩:=List.getElem?_of_mem g;have:=p.size e;omega
 have f:(UInt8.ofNat a.length).toNat=a.length:=by have:=p.refs;simp;omega
 have b:(flat a).length=a.length *wd.toNat:=by rw[Dl,p.aw]
 unfold BB;rw[rd_mk _ _ wd p.lo p.hi,f,Tm a t.data.toList wd.toNat c];have d:(flat a++t.data.toList).drop (a.length *wd.toNat)=t.data.toList:=by rw[←b,List.drop_left]
 rw[d,WM,if_pos ⟨by rw[List.length_append,b];omega,h⟩]
section
structure ER where
 k:Int
 sum:Zi
 name:Zi
 n:Int
 t:Zi
 ss:Zl
 ok:Bool
def GW:ER:=⟨0,⟨#[]⟩,⟨#[]⟩,0,⟨#[]⟩,[],false⟩
def AE(s:Zi)(wd:Int):ER:=
 if CA s wd=true then GW else ⟨AN s wd,(Bc s wd).1,(BK s wd).1,EQ s wd,(Ba s wd).1,(Ba s wd).2,true⟩
def Tp(k:Int)(rest:List UInt8):Zi:=if k=1 then ⟨#[]⟩else AD rest
def Tq(k:Int)(rest:List UInt8)(wd:Int):Zi:=if k=1 then (rd (AD rest) wd).1 else ⟨#[]⟩
def Tr(k:Int)(rest:List UInt8)(wd:Int):Zl:=if k=1 then (rd (AD rest) wd).2.1 else []
def Om(k n:Int)(name rest l:List UInt8)(wd:Int):Bool:=
 Cg k (Tp k rest) (AD name) n (Tq k rest wd) (Tr k rest wd) wd&&decide (Cv k (Tp k rest) (AD name) n (Tq k rest wd) (Tr k rest wd) wd=AD l)
theorem DR(l:List UInt8)(n:Nat)(h:n<=l.length):Bd (AD l) false n=(AD (l.take n),AD (l.drop n),false):=by unfold Bd;rw[if_neg (by decide),if_neg (by rw[BF];omega),GV,GV,BF];simp;exact Zt (by simp)
theorem ES(l:List UInt8)(n:Int)(h:(l.length:Int)<n):Bd (AD l) false n=(⟨#[]⟩,AD l,true):=by unfold Bd;rw[if_neg (by decide),if_pos (by rw[BF];exact h)]
theorem Gv(r:Zi)(n:Int):Bd r true n=(⟨#[]⟩,r,true):=by simp[Bd]
theorem ID{s:Zi}{wd:Int}(h:(BK s wd).2.2=true):CA s wd=true:=by
 cases hb:CA s wd with
 |true=>rfl
 |false=>
  unfold CA at hb;have c:=(Bool.or_eq_false_iff.1 hb).1;unfold Fw at c;have a:=(Bool.or_eq_false_iff.1 c).1;have b:(Bc s wd).2.2=false:=by
   unfold CH at a;split at a
   ·simp only[FW]at a;exact Fj (Bool.or_eq_false_iff.1 a).1
   ·exact a
  have d:(BK s wd).2.2=false:=by
   unfold Bc at b;split at b
   ·exact Fj b
   ·exact b
  rw[d]at h;cases h
theorem Kn{s:Zi}{wd:Int}(h:(Fc s wd).2.2=true):(BK s wd).2.2=true:=by unfold BK;rw[h,Gv]
theorem On{s:Zi}{wd:Int}(h:(DQ s wd).2.2=true):(Fc s wd).2.2=true:=by unfold Fc;rw[h,Gv]
theorem UZ{s:Zi}{wd:Int}(h:Fv s wd=true):(DQ s wd).2.2=true:=by unfold DQ;rw[h,Gv]
theorem FO{s:Zi}{wd:Int}(h:Fv s wd=true):CA s wd=true:=ID (Kn (On (UZ h)))
theorem Vb{s:Zi}{wd:Int}(h:¬(1<=wd/\wd<=8)):CA s wd=true:=by refine FO ?_;unfold Fv Eb;rw[show Gi wd=true by unfold Gi;simp;omega,Gv];rfl
theorem VN{wd:Int}(h1:1<=wd)(h2:wd<=8):Gi wd=false:=by unfold Gi;simp[h1,h2]
theorem VO(a:UInt8):Cz [a]=(a.toNat:Int):=by simp[Cz]
theorem VP(a b c d:UInt8):Cz [a,b,c,d]=(a.toNat:Int) *16777216+(b.toNat:Int) *65536+(c.toNat:Int) *256+(d.toNat:Int):=by simp only[Cz,List.foldl_cons,List.foldl_nil];omega
section
variable {wd:Int} (h1:1<=wd) (h2:wd<=8)
theorem XY(h1:1<=wd)(h2:wd<=8):CA (AD []) wd=true:=by refine FO ?_;unfold Fv Eb;rw[VN h1 h2,ES [] _ (by simp)];rfl
theorem JH(a:UInt8)(l:List UInt8)(h1:1<=wd)(h2:wd<=8):Eb (AD (a::l)) wd=(AD [a],AD l,false):=by unfold Eb;rw[VN h1 h2,DR _ _ (by simp)];rfl
theorem Ts(a:UInt8)(l:List UInt8)(h1:1<=wd)(h2:wd<=8):AN (AD (a::l)) wd=(a.toNat:Int):=by unfold AN;rw[JH a l h1 h2];exact VO a
theorem Gz(a:UInt8)(l:List UInt8)(h1:1<=wd)(h2:wd<=8):Fv (AD (a::l)) wd= !Eu (a.toNat:Int):=by unfold Fv;rw[JH a l h1 h2,Ts a l h1 h2];rfl
theorem Vc(a:UInt8)(l:List UInt8)(h1:1<=wd)(h2:wd<=8)(b:l.length<4):CA (AD (a::l)) wd=true:=by
 cases hk:Eu (a.toNat:Int)with
 |false=>exact FO (by rw[Gz a l h1 h2,hk];rfl)
 |true=>refine ID (Kn (On ?_));unfold DQ;rw[Gz a l h1 h2,hk,JH a l h1 h2];rw[show(!true)=false from rfl,ES l _ (by omega)]
theorem Rd(a b c d e:UInt8)(l:List UInt8)(h1:1<=wd)(h2:wd<=8)(f:Eu (a.toNat:Int)=true):DQ (AD (a::b::c::d::e::l)) wd=(AD [b,c,d,e],AD l,false):=by unfold DQ;rw[Gz _ _ h1 h2,f,JH _ _ h1 h2];rw[show(!true)=false from rfl,DR _ _ (by simp)];rfl
theorem Ve(a b c d e:UInt8)(h1:1<=wd)(h2:wd<=8)(f:Eu (a.toNat:Int)=true):CA (AD [a,b,c,d,e]) wd=true:=by refine ID (Kn ?_);unfold Fc;rw[Rd a b c d e [] h1 h2 f,ES [] _ (by simp)]
theorem Re(a c d e f b:UInt8)(T:List UInt8)(h1:1<=wd)(h2:wd<=8)(g:Eu (a.toNat:Int)=true):Fc (AD (a::c::d::e::f::b::T)) wd=(AD [b],AD T,false):=by unfold Fc;rw[Rd a c d e f (b::T) h1 h2 g,DR _ _ (by simp)];rfl
theorem XZ(b c d e f a:UInt8)(T:List UInt8)(h1:1<=wd)(h2:wd<=8)(g:Eu (b.toNat:Int)=true):Mq (AD (b::c::d::e::f::a::T)) wd=(a.toNat:Int):=by unfold Mq;rw[Re b c d e f a T h1 h2 g];exact VO a
theorem Vf(a c d e f b:UInt8)(T:List UInt8)(h1:1<=wd)(h2:wd<=8)(g:Eu (a.toNat:Int)=true)(h:T.length<b.toNat):CA (AD (a::c::d::e::f::b::T)) wd=true:=by refine ID ?_;unfold BK;rw[XZ a c d e f b T h1 h2 g,Re a c d e f b T h1 h2 g,ES T _ (by omega)]
theorem ZH(b c d e f a:UInt8)(T:List UInt8)(h1:1<=wd)(h2:wd<=8)(g:Eu (b.toNat:Int)=true)(h:a.toNat<=T.length):BK (AD (b::c::d::e::f::a::T)) wd=(AD (T.take a.toNat),AD (T.drop a.toNat),false):=by unfold BK;rw[XZ b c d e f a T h1 h2 g,Re b c d e f a T h1 h2 g,DR T _ h]
theorem Aad(a b c d e:UInt8)(l:List UInt8)(h1:1<=wd)(h2:wd<=8)(f:Eu (a.toNat:Int)=true):EQ (AD (a::b::c::d::e::l)) wd=Cz [b,c,d,e]:=by unfold EQ;rw[Rd a b c d e l h1 h2 f]
theorem GA(a:UInt8)(x:Int)(h:x=(a.toNat:Int)):u8 x=a:=by subst h;simp[u8]
theorem Vg(e a b c d f:UInt8):BZ (e.toNat:Int) (Cz [a,b,c,d]) (f.toNat:Int)=[e,a,b,c,d,f]:=by have g:=a.toNat_lt;have h:=b.toNat_lt;have i:=c.toNat_lt;have j:=d.toNat_lt;unfold BZ;rw[VP];rw[GA e _ rfl,GA f _ rfl,GA a _ (by omega),GA b _ (by omega),GA c _ (by omega),GA d _ (by omega)]
end
theorem WN{k:Nat}(h:Eu (k:Int)=true):1<=k/\k<=7:=by unfold Eu at h;simp at h;omega
theorem WO{k:Int}{a name:Zi}{n:Int}{t:Zi}{b:Zl}{wd:Int}(h:Eu k=false):Cg k a name n t b wd=false:=by unfold Cg;unfold Eu at h;rw[h];rfl
theorem Mr{k:Nat}{a name:Zi}{n:Int}{t:Zi}{b:Zl}{wd:Int}(h:Cg (k:Int) a name n t b wd=true):CG k a name n t b wd=true:=by unfold Cg at h;exact(Bool.and_eq_true_iff.1 h).2
theorem Qe{k:Nat}{a name:Zi}{n:Int}{t:Zi}{c:Zl}{wd:Int}(h:Cg (k:Int) a name n t c wd=true):DN (DA k) a wd=true:=by have b:=Mr h;unfold CG at b;exact(Bool.and_eq_true_iff.1 (Bool.and_eq_true_iff.1 b).2).1
theorem Rf{l:List UInt8}(h:(AD l).size=0):AD l=⟨#[]⟩:=by rw[BF]at h;rw[List.eq_nil_of_length_eq_zero h]
theorem Le{k:Nat}{a name:Zi}{n:Int}{t:Zi}{b:Zl}{wd:Int}{l:List UInt8}(h:Cg (k:Int) a name n t b wd=true):Cv k a name n t b wd=AD l↔CR k a name n t b=l:=by
 unfold Cv;rw[if_pos h,Int.toNat_natCast];constructor
 ·intro e;have:=congrArg (fun s:Zi=>s.data.toList) e;simpa using this
 ·intro e;rw[e]
theorem Ms(a d f g i b:UInt8)(T:List UInt8){wd:Int}(h1:1<=wd)(h2:wd<=8)(O:b.toNat<=T.length):
 AE (AD (a::d::f::g::i::b::T)) wd=
  if Om (a.toNat:Int) (Cz [d,f,g,i]) (T.take b.toNat) (T.drop b.toNat) (a::d::f::g::i::b::T) wd=true then
   ⟨(a.toNat:Int),Tp (a.toNat:Int) (T.drop b.toNat),AD (T.take b.toNat),Cz [d,f,g,i],Tq (a.toNat:Int) (T.drop b.toNat) wd,Tr (a.toNat:Int) (T.drop b.toNat) wd,true⟩
  else GW:=by
 cases hk:Eu (a.toNat:Int)with
 |false=>unfold AE;rw[if_pos (FO (by rw[Gz _ _ h1 h2,hk];rfl)),if_neg (by unfold Om;rw[WO hk];simp)]
 |true=>
  obtain⟨P,Q⟩:=WN hk;have j:=ZH a d f g i b T h1 h2 hk O;have m:=Ts a (d::f::g::i::b::T) h1 h2;have v:=Aad a d f g i (b::T) h1 h2 hk;have J:(AD (T.take b.toNat)).size=b.toNat:=by rw[BF];simp;omega
  have C:∀x:List UInt8,BZ (a.toNat:Int) (Cz [d,f,g,i]) ((AD (T.take b.toNat)).size:Int)++(AD (T.take b.toNat)).data.toList++x=(a::d::f::g::i::b::T)↔x=T.drop b.toNat:=by
   intro x;rw[J,Vg];constructor
   ·intro h;have M:T.take b.toNat++x=T:=by simpa using h
    have N:T.take b.toNat++x=T.take b.toNat++T.drop b.toNat:=by rw[M,List.take_append_drop]
    exact List.append_cancel_left N
   ·intro h;rw[h];simp
  generalize hs:(AD (a::d::f::g::i::b::T))=s at *
  generalize hnm:AD (T.take b.toNat)=name at *
  generalize hrs:T.drop b.toNat=rest at *
  generalize hn:Cz [d,f,g,i]=n at *
  by_cases hk1:a.toNat=1
  ·
   have w:DB (AN s wd)=false:=by rw[m,hk1];rfl
   have y:Cw (AN s wd)=true:=by rw[m,hk1];rfl
   have c:Bc s wd=(⟨#[]⟩,AD rest,false):=by unfold Bc;rw[if_neg (by rw[w];decide),j]
   have E:EP (AD rest) false=AD rest:=by unfold EP;rw[BF,DR _ _ (Zx)];simp
   have K:Jn (AD rest) false=⟨#[]⟩:=by unfold Jn;rw[BF,DR _ _ (Zx)];simp
   have G:FW (AD rest) false wd= !(rd (AD rest) wd).2.2:=by unfold FW;rw[E,BF,DR _ _ (Zx)];rfl
   have o:Ba s wd=((rd (AD rest) wd).1,(rd (AD rest) wd).2.1):=by unfold Ba;rw[if_pos y,c];simp only[E]
   have p:CH s wd=(⟨#[]⟩, !(rd (AD rest) wd).2.2):=by unfold CH;rw[if_pos y,c];simp only[K,G]
   have r:Jo s wd=Cg (a.toNat:Int) ⟨#[]⟩ name n (rd (AD rest) wd).1 (rd (AD rest) wd).2.1 wd:=by unfold Jo;rw[m,v,j,c,o]
   have q:CA s wd=(!(rd (AD rest) wd).2.2|| !Cg (a.toNat:Int) ⟨#[]⟩ name n (rd (AD rest) wd).1 (rd (AD rest) wd).2.1 wd):=by unfold CA Fw;rw[r,p];simp[ByteArray.size]
   have t:((a.toNat:Int)=1):=by omega
   unfold AE Om Tp Tq Tr;rw[if_pos t,if_pos t,if_pos t,hnm,q,m,c,j,v,o];simp only;cases k:Cg (a.toNat:Int) ⟨#[]⟩ name n (rd (AD rest) wd).1 (rd (AD rest) wd).2.1 wd with
   |false=>simp
   |true=>
    have A:=Le (l:=a::d::f::g::i::b::T) k;have L:=(DZ (Mr k)).dh hk1;have H:CR a.toNat ⟨#[]⟩ name n (rd (AD rest) wd).1 (rd (AD rest) wd).2.1=(a::d::f::g::i::b::T)↔BB (rd (AD rest) wd).1 (rd (AD rest) wd).2.1=rest:=by rw[←C];unfold CR;rw[if_pos hk1];simp
    rw[H]at A;have I:BB (rd (AD rest) wd).1 (rd (AD rest) wd).2.1=rest↔(rd (AD rest) wd).2.2=true:=by
     constructor
     ·intro e;have:=Pq L;rw[e]at this;rw[this]
     ·intro e;exact(UY e).2
    rw[I]at A;cases hr:(rd (AD rest) wd).2.2 with
    |true=>rw[if_neg (by simp),if_pos (by simp;exact A.2 hr)]
    |false=>rw[if_pos (by simp),if_neg (by simp;intro h;have:=A.1 h;rw[hr]at this;cases this)]
  ·have y:Cw (AN s wd)=false:=by rw[m];unfold Cw CC;simp[hk1]
   have t:¬((a.toNat:Int)=1):=by omega
   have o:Ba s wd=(⟨#[]⟩,[]):=by unfold Ba;rw[if_neg (by rw[y];decide)]
   have p:CH s wd=(Bc s wd).2:=by unfold CH;rw[if_neg (by rw[y];decide)]
   have u:∀B,Cg (a.toNat:Int) B name n ⟨#[]⟩ [] wd=true->B=AD rest->Cv (a.toNat:Int) B name n ⟨#[]⟩ [] wd=s:=by intro B k e;rw[←hs];refine(Le (l:=a::d::f::g::i::b::T) k).2 ?_;unfold CR;rw[if_neg hk1,e,List.append_nil];exact(C rest).2 rfl
   unfold AE Om Tp Tq Tr;rw[if_neg t,if_neg t,if_neg t,hnm,hs];cases hu:DA a.toNat with
   |true=>
    have w:DB (AN s wd)=true:=by rw[m];unfold DB;rw[hk,Int.toNat_natCast,hu];rfl
    have c:Bc s wd=Bd (AD rest) false wd:=by unfold Bc;rw[if_pos w,j]
    obtain⟨W,rfl⟩:∃W:Nat,wd=W:=⟨wd.toNat,by omega⟩;by_cases hsz:rest.length=W
    ·rw[DR rest W (by omega),Zt (by omega),List.drop_of_length_le (by omega)]at c;have r:Jo s W=Cg (a.toNat:Int) (AD rest) name n ⟨#[]⟩ [] W:=by unfold Jo;rw[m,v,j,c,o]
     have q:CA s W= !Cg (a.toNat:Int) (AD rest) name n ⟨#[]⟩ [] W:=by unfold CA Fw;rw[r,p,c];simp[ByteArray.size]
     rw[q,m,c,j,v,o];simp only;cases k:Cg (a.toNat:Int) (AD rest) name n ⟨#[]⟩ [] W with
     |false=>simp
     |true=>rw[if_neg (by simp),if_pos (by simp;exact u _ k rfl)]
    ·have z:Cg (a.toNat:Int) (AD rest) name n ⟨#[]⟩ [] W=false:=by
      cases k:Cg (a.toNat:Int) (AD rest) name n ⟨#[]⟩ [] W with
      |false=>rfl
      |true=>have:=Qe k;rw[hu]at this;unfold DN at this;rw[if_pos rfl,BF]at this;simp at this;omega
     have F:CA s W=true:=by
      unfold CA Fw;rw[p,c];by_cases hl:rest.length<W
      ·rw[ES rest _ (by omega)];simp
      ·rw[DR rest W (by omega)];have:(AD (rest.drop W)).size≠0:=by rw[BF];simp;omega
       simp[this]
     rw[if_pos F,if_neg (by rw[z];simp)]
   |false=>
    have w:DB (AN s wd)=false:=by rw[m];unfold DB;rw[hk,Int.toNat_natCast,hu];rfl
    have c:Bc s wd=(⟨#[]⟩,AD rest,false):=by unfold Bc;rw[if_neg (by rw[w];decide),j]
    by_cases hsz:rest.length=0
    ·have D:=Rf (by rw[BF];exact hsz);have r:Jo s wd=Cg (a.toNat:Int) (AD rest) name n ⟨#[]⟩ [] wd:=by unfold Jo;rw[m,v,j,c,o,D]
     have q:CA s wd= !Cg (a.toNat:Int) (AD rest) name n ⟨#[]⟩ [] wd:=by unfold CA Fw;rw[r,p,c];simp[BF,hsz]
     rw[q,m,c,j,v,o];simp only;cases k:Cg (a.toNat:Int) (AD rest) name n ⟨#[]⟩ [] wd with
     |false=>simp
     |true=>rw[if_neg (by simp),if_pos (by simp;exact u _ k rfl),D]
    ·have z:Cg (a.toNat:Int) (AD rest) name n ⟨#[]⟩ [] wd=false:=by
      cases k:Cg (a.toNat:Int) (AD rest) name n ⟨#[]⟩ [] wd with
      |false=>rfl
      |true=>have:=Qe k;rw[hu]at this;unfold DN at this;rw[if_neg (by decide),BF]at this;simp at this;simp[this]at hsz
     have F:CA s wd=true:=by
      unfold CA Fw;rw[p,c];have:(AD rest).size≠0:=by rw[BF];exact hsz
      simp[this]
     rw[if_pos F,if_neg (by rw[z];simp)]
end
def CI(s:Zi)(wd:Int)(w:Zh)(e:Ending)(w':Zh):Prop:=
 ∃v,e=.returned (.tuple #[.agg #[Zg (AE s wd).k,.string (AE s wd).sum,.string (AE s wd).name,Zg (AE s wd).n,.string (AE s wd).t,v],.bool (AE s wd).ok])/\
  w'.ownsRow w.heap.size 9 1 v (AE s wd).ss.length ((AE s wd).ss.map Value.string)/\Zz w w'
theorem Rg(s:Zi)(wd:Int)(w:Zh)(hs:s.size<=1048576)(he:Env w):
 Calls prog 125 #[.string s,Zg wd] w (CI s wd w):=by
 obtain⟨l,m⟩:∃l,l=w.alloc (.cells Ym 60):=⟨_,rfl⟩;have D:=(AG m).1;have W:=(AG m).2.1;have R0:=(AG m).2.2;obtain⟨c,n⟩:∃c,c=l.alloc (.cells #[.string s,Zf,.nilIface] 219):=⟨_,rfl⟩;have E:=(AG n).1;have zA:l.heap.size<c.heap.size:=by rw[n];simp
 have R1:Hid (Aa c w.heap.size Yl):=R0.below E;have S:Below w.heap.size w c:=D.trans (E.mono D.size);have Y:Hid (Env c):=he.below S;have ha:Hid (Nk l.heap.size):=fun g hg=>by have:=he.lt g hg;omega
 have x1:Hid (DG c l.heap.size s 0 false):=by refine⟨none,rfl,?_⟩;have:=Aa.new l [.string s,Zf,.nilIface] 219;rw[←n]at this;exact⟨(this 0 _ rfl).1,(this 1 _ rfl).1,(this 2 _ rfl).1,(this 0 _ rfl).2,(this 1 _ rfl).2,(this 2 _ rfl).2⟩
 have O:=Yx m;have P:=Yx n;obtain⟨b,hb⟩:∃b,b=l.heap.size:=⟨_,rfl⟩;have zF:w.heap.size<b:=by omega
 have HB:=Yx hb;rw[←hb]at ha x1 zA;clear m n he R0 hb D E;go_enter func125,ntmps125;go_upto_region 2 with fail;rw[←O.o,←P.o,←W,←HB.o];clear O P HB W;go_wp2_with fail;refine(Tk b s wd c x1.o Y.o ha.o hs).mono ?_;rintro e C ⟨v,rfl,ho,U,f⟩;obtain⟨ra,rc,hv,_⟩:=DF ho;subst hv;have zH:=f.size
 obtain⟨t,o⟩:∃t,t=C.alloc (.cells (Yp (AN s wd) ((Bc s wd).1) ((BK s wd).1) (EQ s wd) ((Ba s wd).1) ra ((Ba s wd).2.length) rc) 60):=⟨_,rfl⟩;have F:=(AG o).1;have zB:C.heap.size+1=t.heap.size:=by rw[o];simp
 have Z3:=(AG o).2.2;obtain⟨d,r⟩:∃d,d=t.alloc (.cells #[.pointer none] 221):=⟨_,rfl⟩;have G:=(AG r).1;have zC:t.heap.size<d.heap.size:=by rw[r];simp
 have A:=(AG r).2.2;have X:=Z3.below G;have i:Below C.heap.size C d:=F.trans (G.mono F.size);have a:=(R1.o.cw f (show b≠w.heap.size by omega)).below i;have e4:=(Y.o.ic f ha.o).below i;have r4:=U.below i;have o4:=(ho.kept (Au none i) (Classical.em _))
 have B4:Below w.heap.size w d:=S.trans (Below.trans (B:=w.heap.size) ⟨f.os,f.tape,f.output,f.size,fun k hk=>f.block k (by omega) (fun e=>by have:=Option.some.inj e;omega)⟩ (i.mono (by omega)));have Q:=Yx o;have R:=Yx r;have K:=Yx (Zn e4 (Zn o4 B4));obtain⟨x,J⟩:∃x,x=t.heap.size:=⟨_,rfl⟩;rw[←J]at A;have N:Hid (x=t.heap.size):=J;have zG:C.heap.size<x:=by omega
 clear J;clear o r F G i Z3 ho U f e4 o4 B4 R1 Y x1;go_upto_region 4 with fail;rw[←Q.o,←R.o,←N.o];clear Q R N zB zC;have zE:b<x:=by omega
 have I:w.heap.size<x:=by omega
 obtain⟨er,z,y0,y1,M,_,_,_⟩:=r4;cases er with
 |none=>
  have H:Hid (CA s wd=false):=z.symm;simp only[IA]at M;go_wp2_with fail;refine(XM _ d).mono ?_;rintro e L ⟨rfl,V⟩;rw[V];clear V L;obtain⟨z0,z1,z2,z3,z4,z5⟩:=Aa.c6 X 0 1 2 3 4 5;obtain⟨r0,q0⟩:=a 0 _ rfl;obtain⟨r1,q1⟩:=a 1 _ rfl;obtain⟨r2,q2⟩:=a 2 _ rfl;obtain⟨r3,q3⟩:=a 3 _ rfl;obtain⟨r4,q4⟩:=a 4 _ rfl;obtain⟨r5,q5⟩:=a 5 _ rfl;clear X a A y0 y1 M z;go_wp2
  refine bodyPost_ret (v:=.tuple #[.agg (Yp (AN s wd) ((Bc s wd).1) ((BK s wd).1) (EQ s wd) ((Ba s wd).1) ra ((Ba s wd).2.length) rc),.bool true]) (by simp[results,results125,go_sem, *]) rfl ?_;have Z:AE s wd=⟨AN s wd,(Bc s wd).1,(BK s wd).1,EQ s wd,(Ba s wd).1,(Ba s wd).2,true⟩:=by unfold AE;rw[if_neg (by rw[H.o];decide)]
  unfold CI;rw[Z];have T:w.heap.size<c.heap.size:=by omega
  refine⟨_,rfl,?_,?_⟩
  ·refine World.ownsRow.mono ?_ (Nat.le_of_lt T)
   iterate 6 (refine ownsRow_setCell_below ?_ T _)
   exact K.o.2.1
  ·iterate 6 (refine Below.setCell ?_ (show w.heap.size<=w.heap.size from Zx) _)
   exact K.o.2.2
 |some q=>
  have H:Hid (CA s wd=true):=z.symm;simp only[IA]at M;go_wp2_with fail;refine(XS q x (.pointer none) d K.o.1.ig (A 0 _ rfl).1 (A 0 _ rfl).2).mono ?_;rintro e L ⟨rfl,y⟩;have u:∀j v,d.cell? (Ze (w.heap.size) j)=some v->L.cell? (Ze (w.heap.size) j)=some v:=fun j v h=>(y.cell (p:=⟨w.heap.size,j,none⟩) I).trans h
  have h1:∀j,d.frozen? ⟨w.heap.size,j,none⟩=false->L.frozen? ⟨w.heap.size,j,none⟩=false:=fun j h=>(y.frozen (p:=⟨w.heap.size,j,none⟩) I).trans h;have r0:=u 0 _ (a 0 _ rfl).1;have r1:=u 1 _ (a 1 _ rfl).1;have r2:=u 2 _ (a 2 _ rfl).1;have r3:=u 3 _ (a 3 _ rfl).1;have r4:=u 4 _ (a 4 _ rfl).1;have r5:=u 5 _ (a 5 _ rfl).1;have q0:=h1 0 (a 0 _ rfl).2;have q1:=h1 1 (a 1 _ rfl).2
  have q2:=h1 2 (a 2 _ rfl).2;have q3:=h1 3 (a 3 _ rfl).2;have q4:=h1 4 (a 4 _ rfl).2;have q5:=h1 5 (a 5 _ rfl).2;have B5:=Yx (K.o.2.2.trans (y.mono (Nat.le_of_lt I)));clear u h1 X a A y0 y1 M z y;go_wp2;refine bodyPost_ret (v:=.tuple #[.agg Ym,.bool false]) (by simp[results,results125,go_sem, *]) rfl ?_;have Z:AE s wd=GW:=by unfold AE;rw[if_pos H.o]
  unfold CI;rw[Z];refine⟨Zc,rfl,World.ownsRow_nil _ _ _ _,?_⟩
  iterate 6 (refine Below.setCell ?_ (show w.heap.size<=w.heap.size from Zx) _)
  exact B5.o
theorem IE(n:Int)(w:Zh):
 Calls prog 62 #[Zg n] w fun e a=>e=.returned (.bool (decide (1<=n/\n<=8)))/\a=w:=by
 by_cases h1:1<=n
 ·by_cases h2:n<=8
  ·go_enter func62,ntmps62;go_wp2;go_ret;exact⟨Aw (by simp[h1,h2]),rfl⟩
  ·have c:decide (n<=8)=false:=by simpa using h2
   go_enter func62,ntmps62;go_wp2;go_ret;exact⟨rfl,rfl⟩
 ·have b:decide (1<=n)=false:=by simpa using h1
  go_enter func62,ntmps62;go_wp2;go_ret;exact⟨rfl,rfl⟩
theorem Mt{s:Zi}{wd:Int}(h:¬(1<=wd/\wd<=8)):AE s wd=GW:=by unfold AE;rw[if_pos (Vb h)]
theorem Mu{l:List UInt8}{wd:Int}(h1:1<=wd)(h2:wd<=8)(b:l.length<6):AE (AD l) wd=GW:=by
 unfold AE;rw[if_pos]
 match l,b with
 |[],_=>exact XY h1 h2
 |a::l,b=>
  by_cases h4:l.length<4
  ·exact Vc a l h1 h2 h4
  ·cases hk:Eu (a.toNat:Int)with
   |false=>exact FO (by rw[Gz _ _ h1 h2,hk];rfl)
   |true=>
    match l,b,h4 with
    |[a1,a2,a3,a4],_,_=>exact Ve a a1 a2 a3 a4 h1 h2 hk
    |[],_,h4=>simp at h4
    |[_],_,h4=>simp at h4
    |[_,_],_,h4=>simp at h4
    |[_,_,_],_,h4=>simp at h4
theorem Oo{a c d e f b:UInt8}{T:List UInt8}{wd:Int}(h1:1<=wd)(h2:wd<=8)(g:T.length<b.toNat):AE (AD (a::c::d::e::f::b::T)) wd=GW:=by
 unfold AE;rw[if_pos];cases hk:Eu (a.toNat:Int)with
 |false=>exact FO (by rw[Gz _ _ h1 h2,hk];rfl)
 |true=>exact Vf a c d e f b T h1 h2 hk g
theorem GX{s:Zi}{wd:Int}{w a:Zh}(h:AE s wd=GW)(b:Zz w a):CI s wd w (.returned (.tuple #[.agg Ym,.bool false])) a:=by unfold CI;rw[h];exact⟨Zc,rfl,World.ownsRow_nil _ _ _ _,b⟩
theorem Rh(s:Zi)(wd:Int)(w:Zh)(h:¬(1<=wd/\wd<=8)):
 Calls prog 119 #[.string s,Zg wd] w (CI s wd w):=by
 have c:decide (1<=wd/\wd<=8)=false:=by simpa using h
 have HN:=Yx (Mt (s:=s) h);clear h;go_enter func119,ntmps119;go_wp2_with (go_at_call 62;refine(IE wd _).mono ?_;rintro e b ⟨rfl,a⟩;rw[a];clear a b);exact bodyPost_ret (v:=.tuple #[.agg Ym,.bool false]) (by simp[results,results119,go_sem]) rfl (GX HN.o (Zy))
theorem Ri(s:Zi)(wd:Int)(w:Zh)(h1:1<=wd)(h2:wd<=8)(b:s.size<6):
 Calls prog 119 #[.string s,Zg wd] w (CI s wd w):=by
 have f:decide (1<=wd/\wd<=8)=true:=by simp[h1,h2]
 have d:decide ((s.size:Int)<6)=true:=by simp;omega
 have HN:=Yx (Mu (l:=s.data.toList) h1 h2 b);go_enter func119,ntmps119;go_wp2_with (go_at_call 62;refine(IE wd _).mono ?_;rintro e c ⟨rfl,a⟩;rw[a];clear a c);exact bodyPost_ret (v:=.tuple #[.agg Ym,.bool false]) (by simp[results,results119,go_sem]) rfl (GX HN.o (Zy))
theorem Rj(s:Zi)(wd:Int)(w:Zh)(o:s.size<=1048576)(h1:1<=wd)(h2:wd<=8)(a:Nat)(l:6<=s.size)(c:s[5].toNat=a)(d:AE s wd=GW)(n:s.size<6+a):
 Calls prog 119 #[.string s,Zg wd] w (CI s wd w):=by
 have m:decide (1<=wd/\wd<=8)=true:=by simp[h1,h2]
 have h:decide ((s.size:Int)<6)=false:=by simp;omega
 have j:(5:Int)<s.size:=by omega
 have i:decide ((s.size:Int)<6+(a:Int))=true:=by simp;omega
 have k:a<256:=by rw[←c];exact s[5].toNat_lt
 have f:=BY s[5];rw[c]at f;have HN:=Yx d;clear d;go_enter func119,ntmps119;go_wp2_with (go_at_call 62;refine(IE wd _).mono ?_;rintro e g ⟨rfl,b⟩;rw[b];clear b g);exact bodyPost_ret (v:=.tuple #[.agg Ym,.bool false]) (by simp[results,results119,go_sem]) rfl (GX HN.o (Zy))
theorem Rk(s:Zi)(wd:Int)(a t u z Y i:Nat)(w:Zh)(hs:s.size<=1048576)(h1:1<=wd)(h2:wd<=8)(h6:6<=s.size)(K:s[0].toNat=a)(L:s[1].toNat=t)(M:s[2].toNat=u)(N:s[3].toNat=z)(O:s[4].toNat=Y)(g5:s[5].toNat=i)(hf:6+i<=s.size)
 (name k:Zi) (zM:s.extract 6 (6+i)=name) (zP:s.extract (6+i) s.size=k) (n:Int) (hn:(t:Int) *16777216+(u:Int) *65536+(z:Int) *256+(Y:Int)=n)
 (f d:Zi) (b:Zl) (zR:f=if (a:Int)=1 then ⟨#[]⟩else k) (zU:d=if (a:Int)=1 then (rd k wd).1 else ⟨#[]⟩) (zO:b=if (a:Int)=1 then (rd k wd).2.1 else [])
 (hR:AE s wd=if (Cg a f name n d b wd&&decide (Cv a f name n d b wd=s))=true then ⟨a,f,name,n,d,b,true⟩else GW):
 Calls prog 119 #[.string s,Zg wd] w (CI s wd w):=by
 have hd:decide (1<=wd/\wd<=8)=true:=by simp[h1,h2]
 have zH:decide ((s.size:Int)<6)=false:=by simp;omega
 have l5:(5:Int)<s.size:=by omega
 have zI:decide ((s.size:Int)<6+(i:Int))=false:=by simp;omega
 have b0:a<256:=by rw[←K];exact s[0].toNat_lt
 have b1:t<256:=by rw[←L];exact s[1].toNat_lt
 have b2:u<256:=by rw[←M];exact s[2].toNat_lt
 have b3:z<256:=by rw[←N];exact s[3].toNat_lt
 have b4:Y<256:=by rw[←O];exact s[4].toNat_lt
 have b5:i<256:=by rw[←g5];exact s[5].toNat_lt
 have w0:=BY s[0];have w1:=BY s[1];have w2:=BY s[2];have w3:=BY s[3];have w4:=BY s[4];have S:=BY s[5];rw[K]at w0;rw[L]at w1;rw[M]at w2;rw[N]at w3;rw[O]at w4;rw[g5]at S;have zA:=Yx (Zn b0 (Zn b1 (Zn b2 (Zn b3 b4))));have zF:=Yx (Zn w0 (Zn w1 (Zn w2 (Zn w3 w4))));have zB:=Yx (Zn K (Zn L (Zn M (Zn N O))));have HX:=Yx (Zn hs (Zn h1 h2));have c:=Yx (Zn zM (Zn zP (Zn hn (Zn zR (Zn zU (Zn zO hR))))))
 clear zM zP hn zR zU zO hR;clear b0 b1 b2 b3 b4 w0 w1 w2 w3 w4 K L M N O;obtain⟨W,Q⟩:∃W,W=w.alloc (.cells Ym 60):=⟨_,rfl⟩;have zW:=(AG Q).1;have hz:w.heap.size<W.heap.size:=by rw[Q];simp
 have R0:Hid (Aa W _ _):=(AG Q).2.2;have HW:=Yx Q;clear Q;go_enter func119,ntmps119;go_upto_region 1 with fail;rw[←HW.o];clear HW;go_upto_region 3 with(go_at_call 62;refine(IE wd _).mono ?_;rintro e w' ⟨rfl,zV⟩;rw[zV];clear zV w');go_cut [6] (fun v G=>v=Yz W.heap.size/\G=(W.alloc (.cells #[Zg (a:Int),Zd,Zd,Zg n,Zd,Zc] 60)).drew)
 case first=>
  obtain⟨b0,b1,b2,b3,b4⟩:=zA.o;have m1:=Eh ((t:Int) *16777216) (by omega) (by omega);have m2:=Eh ((u:Int) *65536) (by omega) (by omega);have m3:=Eh ((z:Int) *256) (by omega) (by omega);have p1:=Eh ((t:Int) *16777216+(u:Int) *65536) (by omega) (by omega);have p2:=Eh ((t:Int) *16777216+(u:Int) *65536+(z:Int) *256) (by omega) (by omega)
  have p3:=Eh ((t:Int) *16777216+(u:Int) *65536+(z:Int) *256+(Y:Int)) (by omega) (by omega);have l0:(0:Int)<s.size:=by omega
  have l1:(1:Int)<s.size:=by omega
  have l2:(2:Int)<s.size:=by omega
  have l3:(3:Int)<s.size:=by omega
  have l4:(4:Int)<s.size:=by omega
  obtain⟨w0,w1,w2,w3,w4⟩:=zF.o;obtain⟨K,L,M,N,O⟩:=zB.o;clear b0 b1 b2 b3 b4 b5 zI zH hd;have H5:=Yx (Zn g5 (Zn S l5));clear S l5
  go_big_region
  go_wp2_with fail;go_meet;exact⟨rfl,by rw[c.o.2.2.1]⟩
 case rest=>
 revert wc;intro W3 hcut;obtain⟨rfl,V⟩:=hcut;have zY:=hf;clear b5 zI zH hd zA zF zB HX;have X:Below W.heap.size W W3:=by rw[V];exact(Zy).drew
 have Z3:Aa W3 W.heap.size [Zg (a:Int),Zd,Zd,Zg n,Zd,Zc]:=by rw[V];exact Aa.new W _ _
 have R3:=R0.o.below X;have B3:=zW.trans (X.mono (Nat.le_of_lt hz));obtain⟨B,hB⟩:∃B,B=W.heap.size:=⟨_,rfl⟩;rw[←hB]at Z3;have HB:=Yx hB;obtain⟨y,yB⟩:=Z3 2 _ rfl;have F:w.heap.size<B:=by omega
 obtain⟨C,o⟩:∃C,C=W3.setCell (Ze B 2) (.string name):=⟨_,rfl⟩;have D:Hid (Aa C B [Zg (a:Int),Zd,.string name,Zg n,Zd,Zc]):=by rw[o];exact Z3.set 2 _
 have R4:Hid (Aa C w.heap.size Yl):=by rw[o];exact R3.cw (Ay _ _ _ _) (by omega)
 have Z:Hid (Zz w C):=by rw[o];exact B3.setCell (p:=⟨B,2,none⟩) (Nat.le_of_lt F) _
 have zE:=Yx o;have Hn:=Yx c.o.1;have Hr:=Yx c.o.2.1;rw[←hB];clear V X o R3 B3 hB Z3;have e6:((6:Int)+(i:Int)).toNat=6+i:=by omega
 have u1:(6:Int)<=6+(i:Int):=by omega
 have u2:(6:Int)+(i:Int)<=(s.size:Int):=by omega
 go_upto_region 6 with fail;rw[Hn.o,Hr.o,←zE.o];have zS:k.size<=1048576:=by rw[←Hr.o];simp;omega
 have yA:name.size<=1048576:=by rw[←Hn.o];simp;omega
 have zX:=HB.o.symm;clear zE Hn Hr y yB e6 u1 u2 S l5 R0 zW hz zX HB;clear g5;clear hf zY h6;have HX:=Yx (Zn hs (Zn h1 h2));clear hs h1 h2;obtain⟨m,_⟩:=D.o 0 _ rfl
 go_upto_if 63 with fail
 go_cut [] (fun G=>∃(g:Zk) (j:Nat),Hid (Aa G B (Yo (a:Int) f name n d g b.length j))/\Hid (Aa G w.heap.size Yl)/\Hid (G.ownsRow (w.heap.size+1) 9 1 (.slice g b.length j) b.length (b.map Value.string))/\Hid (Zz w G))
 case first=>
  by_cases hk:(a:Int)=1
  ·have e1:Hid (f=⟨#[]⟩):=by show _=_;rw[c.o.2.2.2.1,if_pos hk]
   have e2:Hid (d=(rd k wd).1):=by show _=_;rw[c.o.2.2.2.2.1,if_pos hk]
   have e3:Hid (b=(rd k wd).2.1):=by show _=_;rw[c.o.2.2.2.2.2.1,if_pos hk]
   have hq:((a:Int)==1)=true:=by simpa using hk
   have HK:=Yx hk;clear hk;go_wp2_with fail;have HR:=Te k wd C zS;unfold Er at HR;refine HR.mono ?_;rintro e S ⟨v,rfl,ho,E⟩;rw[←e3.o]at ho;rw[←e2.o];obtain⟨g,j,hv,_⟩:=DF ho;subst hv;have Z5:=Aa.below D.o E;have R5:=Aa.below R4.o E;have zG:=D.o.lt;obtain⟨I,yE⟩:=Z5 4 _ rfl;obtain⟨J,yF⟩:=Z5 5 _ rfl;have B5:=Z.o.trans (E.mono Z.o.size);clear HR E m hq;go_wp2_with fail;go_meet;refine⟨g,j,?_,?_,?_,?_⟩
   ·rw[e1.o];exact(Z5.set 4 _).set 5 _
   ·exact(R5.cw (Ay _ B 4 _) (by omega)).cw (Ay _ B 5 _) (by omega)
   ·exact(ownsRow_setCell_below (ownsRow_setCell_below ho zG _) zG _).mono (by omega)
   ·exact(B5.setCell (p:=⟨B,4,none⟩) (Nat.le_of_lt F) _).setCell (p:=⟨B,5,none⟩) (Nat.le_of_lt F) _
  ·have e1:Hid (f=k):=by show _=_;rw[c.o.2.2.2.1,if_neg hk]
   have e2:Hid (d=⟨#[]⟩):=by show _=_;rw[c.o.2.2.2.2.1,if_neg hk]
   have e3:Hid (b=[]):=by show _=_;rw[c.o.2.2.2.2.2.1,if_neg hk]
   have hq:((a:Int)==1)=false:=by simpa using hk
   obtain⟨H,yD⟩:=D.o 1 _ rfl;have HK:=Yx hk;clear hk;go_wp2_with fail;go_meet;refine⟨none,0,?_,?_,?_,?_⟩
   ·rw[e1.o,e2.o,e3.o];exact D.o.set 1 _
   ·exact R4.o.cw (Ay _ B 1 _) (by omega)
   ·rw[e3.o];exact World.ownsRow_nil _ _ _ _
   ·exact Z.o.setCell (p:=⟨B,1,none⟩) (Nat.le_of_lt F) _
 case rest=>
 revert wc;intro w6 hcut;obtain⟨g,j,Z6,R6,O6,B6⟩:=hcut;clear D R4 Z m;obtain⟨m,H,y,T,I,J⟩:=Aa.c6 Z6.o 0 1 2 3 4 5;have zN:b.length<=255:=by
  rw[c.o.2.2.2.2.2.1];split
  ·exact VK _ _
  ·exact Nat.zero_le _
 have zT:d.size<=maxLen:=by
  rw[c.o.2.2.2.2.1];unfold maxLen;split
  ·have:=Qd k wd;omega
  ·exact Nat.zero_le _
 have zK:name.size<=maxLen:=by unfold maxLen;omega
 have U:Hid (Ad w6 w6.heap.size g b):=by obtain⟨a',c',hv,hr⟩:=DF O6.o;cases hv;exact hr
 have A:=Yx (Zn zN (Zn zT zK));clear zN zT zK zS yA;go_wp2_with fail;refine(UJ (a:Int) f name n d g j b wd w6 U.o (by have:=A.o.1;omega) A.o.2.1 A.o.2.2).mono ?_;rintro e w7 ⟨rfl,l⟩;have Z7:Hid (Aa w7 B (Yo (a:Int) f name n d g b.length j)):=Z6.o.below l;have x:Hid (Aa w7 w.heap.size Yl):=R6.o.below l
 have O7:Hid (w7.ownsRow (w.heap.size+1) 9 1 (.slice g b.length j) b.length (b.map Value.string)):=O6.o.kept (Au none l) (Classical.em _);have B7:=Yx (B6.o.trans (l.mono B6.o.size));have S7:=Yx (Ad.af U.o l);clear Z6 R6 O6 B6 U l m H y T I J;obtain⟨m,H,y,T,I,J⟩:=Aa.c6 Z7.o 0 1 2 3 4 5;cases hok:Cg (a:Int) f name n d b wd with
 |false=>
  have P:Hid (AE s wd=GW):=by show _=_;rw[c.o.2.2.2.2.2.2,if_neg (by rw[hok];simp)]
  obtain⟨r0,q0⟩:=x.o 0 _ rfl;obtain⟨r1,q1⟩:=x.o 1 _ rfl;obtain⟨r2,q2⟩:=x.o 2 _ rfl;obtain⟨r3,q3⟩:=x.o 3 _ rfl;obtain⟨r4,q4⟩:=x.o 4 _ rfl;obtain⟨r5,q5⟩:=x.o 5 _ rfl;clear m H y T I J hok;go_wp2;refine bodyPost_ret (v:=.tuple #[.agg Ym,.bool false]) (by simp[results,results119,go_sem, *]) rfl ?_;refine GX P.o ?_
  iterate 6 (refine Below.setCell ?_ (show w.heap.size<=w.heap.size from Zx) _)
  exact B7.o
 |true=>
  have zC:=Yx hok;clear hok;go_wp2_with fail;refine(Tj (a:Int) f name n d g j b wd w7 S7.o (by have:=A.o.1;omega) A.o.2.1 A.o.2.2).mono ?_;rintro e w8 ⟨rfl,q⟩;have Z8:=Z7.o.below q;have R8:=x.o.below q;have O8:=O7.o.kept (Au none q) (Classical.em _);have B8:=B7.o.trans (q.mono B7.o.size);clear m H y T I J;obtain⟨m,H,y,T,I,J⟩:=Aa.c6 Z8 0 1 2 3 4 5;obtain⟨r0,q0⟩:=R8 0 _ rfl
  obtain⟨r1,q1⟩:=R8 1 _ rfl;obtain⟨r2,q2⟩:=R8 2 _ rfl;obtain⟨r3,q3⟩:=R8 3 _ rfl;obtain⟨r4,q4⟩:=R8 4 _ rfl;obtain⟨r5,q5⟩:=R8 5 _ rfl;have HC:=Yx (Zn O8 B8);clear Z8 R8 O8 B8 q;obtain⟨R,r⟩:∃R,R=Cv (a:Int) f name n d b wd:=⟨_,rfl⟩;rw[←r];by_cases heq:R=s
  ·have P:Hid (AE s wd=⟨a,f,name,n,d,b,true⟩):=by show _=_;rw[c.o.2.2.2.2.2.2,if_pos (by rw[zC.o,←r,heq];simp)]
   subst heq;clear r;go_wp2;refine bodyPost_ret (v:=.tuple #[.agg (Yp (a:Int) f name n d g b.length j),.bool true]) (by simp[results,results119,go_sem, *]) rfl ?_;unfold CI;rw[P.o];have zJ:w.heap.size<w.heap.size+1:=Nat.lt_succ_self _;refine⟨_,rfl,?_,?_⟩
   ·refine World.ownsRow.mono ?_ (Nat.le_of_lt zJ)
    iterate 6 (refine ownsRow_setCell_below ?_ zJ _)
    exact HC.o.1
   ·iterate 6 (refine Below.setCell ?_ (show w.heap.size<=w.heap.size from Zx) _)
    exact HC.o.2
  ·have P:Hid (AE s wd=GW):=by show _=_;rw[c.o.2.2.2.2.2.2,if_neg (by rw[zC.o,←r];simpa using heq)]
   have zZ:(R.toList==s.toList)=false:=by rw[beq_eq_false_iff_ne];intro h;rw[ByteArray.toList_eq,ByteArray.toList_eq]at h;exact heq (ByteArray.ext (Array.toList_inj.1 h))
   have yC:(R.toList !=s.toList)=true:=by rw[bne,zZ];rfl
   clear r heq;go_wp2;refine bodyPost_ret (v:=.tuple #[.agg Ym,.bool false]) (by simp[results,results119,go_sem, *]) rfl ?_;refine GX P.o ?_
   iterate 6 (refine Below.setCell ?_ (show w.heap.size<=w.heap.size from Zx) _)
   exact HC.o.2
theorem Rl(s:Zi)(wd:Int)(w:Zh)(a:s.size<=1048576):
 Calls prog 119 #[.string s,Zg wd] w (CI s wd w):=by
 by_cases hw:1<=wd/\wd<=8
 ·obtain⟨h1,h2⟩:=hw;by_cases h6:s.size<6
  ·exact Ri s wd w h1 h2 h6
  ·obtain⟨l,rfl⟩:∃l,s=AD l:=⟨s.data.toList,rfl⟩;rw[BF]at a h6
   match l,a,h6 with
   |a0::a1::a2::a3::a4::a5::T,a,h6=>
    have b:(AD (a0::a1::a2::a3::a4::a5::T)).size=T.length+6:=by rw[BF];rfl
    by_cases hT:a5.toNat<=T.length
    ·refine Rk _ wd a0.toNat a1.toNat a2.toNat a3.toNat a4.toNat a5.toNat w (by rw[BF];exact a) h1 h2 (by omega) rfl rfl rfl rfl rfl rfl (by omega) (AD (T.take a5.toNat)) (AD (T.drop a5.toNat)) ?_ ?_ (Cz [a1,a2,a3,a4]) (VP a1 a2 a3 a4).symm _ _ _ rfl rfl rfl ?_
     ·rw[GV,show 6+a5.toNat -6=a5.toNat by omega];rfl
     ·rw[b,GV];congr 2;rw[show 6+a5.toNat=a5.toNat+6 by omega];show(T.drop a5.toNat).take _=_;exact Zt (by simp)
     ·exact Ms a0 a1 a2 a3 a4 a5 T h1 h2 hT
    ·exact Rj _ wd w (by rw[BF];exact a) h1 h2 a5.toNat (by omega) rfl (Oo h1 h2 (by omega)) (by omega)
   |[],_,h6=>simp at h6
   |[_],_,h6=>simp at h6
   |[_,_],_,h6=>simp at h6
   |[_,_,_],_,h6=>simp at h6
   |[_,_,_,_],_,h6=>simp at h6
   |[_,_,_,_,_],_,h6=>simp at h6
 ·exact Rh s wd w hw
theorem Hq{s:Zi}{wd:Int}(h:(AE s wd).ok=true):Cg (AE s wd).k (AE s wd).sum (AE s wd).name (AE s wd).n (AE s wd).t (AE s wd).ss wd=true/\Cv (AE s wd).k (AE s wd).sum (AE s wd).name (AE s wd).n (AE s wd).t (AE s wd).ss wd=s:=by
 by_cases hw:1<=wd/\wd<=8
 ·obtain⟨h1,h2⟩:=hw;obtain⟨l,rfl⟩:∃l,s=AD l:=⟨s.data.toList,rfl⟩;by_cases h6:l.length<6
  ·rw[Mu h1 h2 h6]at h;cases h
  ·match l,h6,h with
   |a0::a1::a2::a3::a4::a5::T,h6,h=>
    by_cases hT:a5.toNat<=T.length
    ·rw[Ms a0 a1 a2 a3 a4 a5 T h1 h2 hT]at h ⊢;split at h
     case isTrue hc=>
      rw[if_pos hc];unfold Om at hc;rw[Bool.and_eq_true,decide_eq_true_eq]at hc;exact hc
     case isFalse hc=>cases h
    ·rw[Oo h1 h2 (by omega)]at h;cases h
   |[],h6,_=>simp at h6
   |[_],h6,_=>simp at h6
   |[_,_],h6,_=>simp at h6
   |[_,_,_],h6,_=>simp at h6
   |[_,_,_,_],h6,_=>simp at h6
   |[_,_,_,_,_],h6,_=>simp at h6
 ·rw[Mt hw]at h;cases h
section
section
variable {wd now given ae:Int} {ks:List Kd} {ps:List Pd} {ls:List Ld} {kd:Int} {s nm:Zi} {num:Int} {text:Zi} {refs:Zl}
theorem Ci.cz{c d:List Kd}{a b:Int}(h1:Ci wd ae ks text refs c a)(h2:Ci wd ae ks text refs d b):c=d/\a=b:=by
 rcases h1 with⟨k,f,g,_,rfl,rfl⟩|⟨e,_,_,rfl,rfl⟩<;>rcases h2 with⟨k',hk',hs',_,rfl,rfl⟩|⟨hno',_,_,rfl,rfl⟩
 ·exact⟨rfl,rfl⟩
 ·exact absurd ⟨k,f,g⟩ hno'
 ·exact absurd ⟨k',hk',hs'⟩ e
 ·exact⟨rfl,rfl⟩
theorem FU.cz(m:(ks.map (·.sum)).Nodup){c v:Int}{a b t u:Zi}(h1:FU wd given ae ks ls text refs c a b)(h2:FU wd given ae ks ls text refs v t u):c=v/\a=t/\b=u:=by
 have n:∀k∈ks,k.sum=Bf text refs wd->AH k.text k.refs wd≠AH text refs wd->∀j o,¬Ci wd ae ks text refs j o:=by
  intro k f g p j o q;rcases q with⟨r,d,e,h,_⟩|⟨i,_⟩
  ·have:=GJ m f d (g.trans e.symm);subst this;exact p h
  ·exact i ⟨k,f,g⟩
 rcases h1 with⟨w,rfl,rfl,rfl⟩|⟨l,h1⟩<;>rcases h2 with⟨hn',rfl,rfl,rfl⟩|⟨hall',h2⟩
 ·exact⟨rfl,rfl,rfl⟩
 ·exact absurd hall' w
 ·exact absurd l hn'
 ·rcases h1 with⟨k,f,g,p,rfl,rfl,rfl⟩|⟨i,_,rfl,rfl,rfl⟩|⟨⟨j,o,q⟩,_,rfl,rfl,rfl⟩<;>rcases h2 with⟨r,d,e,h,rfl,rfl,rfl⟩|⟨hno',_,rfl,rfl,rfl⟩|⟨⟨ks2,b2,hy'⟩,_,rfl,rfl,rfl⟩
  ·have:=GJ m f d (g.trans e.symm);subst this;exact⟨rfl,rfl,rfl⟩
  ·exact absurd ⟨k,f,g⟩ hno'
  ·exact absurd hy' (n k f g p _ _)
  ·exact absurd ⟨r,d,e⟩ i
  ·exact⟨rfl,rfl,rfl⟩
  ·exact⟨rfl,rfl,rfl⟩
  ·exact absurd q (n r d e h _ _)
  ·exact⟨rfl,rfl,rfl⟩
  ·exact⟨rfl,rfl,rfl⟩
theorem FU.not(n:(ks.map (·.sum)).Nodup){c:Int}{a b:Zi}(h1:FU wd given ae ks ls text refs c a b){t:List Kd}{o:Int}(h2:Ci wd ae ks text refs t o)(h:∀r∈refs,Ax ks r)(x:ls.length<200)(w:given<1000000000):False:=by
 rcases h1 with⟨q,_⟩|⟨_,⟨k,i,j,p,_⟩|⟨f,d,_⟩|⟨_,d,_⟩⟩
 ·exact q h
 ·rcases h2 with⟨l,e,g,m,_⟩|⟨f,_⟩
  ·have:=GJ n i e (j.trans g.symm);subst this;exact p m
  ·exact f ⟨k,i,j⟩
 ·rcases h2 with⟨l,e,g,_⟩|⟨_,u,v,_⟩
  ·exact f ⟨l,e,g⟩
  ·omega
 ·omega
theorem Fu.cz(i:(ks.map (·.sum)).Nodup){c g:Int}{a b e f:Zi}(h1:Fu wd now given ae ks ps ls kd s nm num text refs c a b)(h2:Fu wd now given ae ks ps ls kd s nm num text refs g e f):c=g/\a=e/\b=f:=by
 rcases h1 with⟨j,h1⟩|⟨rfl,rfl,h1⟩<;>rcases h2 with⟨hk',h2⟩|⟨rfl,rfl,h2⟩
 ·exact h1.cz i h2
 ·omega
 ·omega
 ·refine⟨?_,rfl,rfl⟩;rcases h1 with⟨d,⟨h1,rfl⟩|⟨h1,h,k,rfl⟩⟩|⟨d,h1,rfl⟩|⟨d,⟨h1,rfl⟩|⟨h1,h,rfl⟩⟩|⟨d,h1,rfl⟩|⟨d,h1,rfl⟩|⟨d,⟨h1,rfl⟩|⟨h1,h,rfl⟩⟩<;>rcases h2 with⟨k2,⟨h2,rfl⟩|⟨h2,x2,y2,rfl⟩⟩|⟨k2,h2,rfl⟩|⟨k2,⟨h2,rfl⟩|⟨h2,x2,rfl⟩⟩|⟨k2,h2,rfl⟩|⟨k2,h2,rfl⟩|⟨k2,⟨h2,rfl⟩|⟨h2,x2,rfl⟩⟩<;>first|rfl|omega|exact absurd h2 h1|exact absurd h1 h2
theorem DP.cz{r b:Rs}(h1:DP wd now given ae ks ps ls kd s nm num text refs r)(h2:DP wd now given ae ks ps ls kd s nm num text refs b):r=b:=by rcases h1 with⟨a,_,_,_,d,e,c,rfl⟩|⟨a,_,_,rfl⟩|⟨a,_,rfl⟩|⟨a,_,_,_,rfl⟩|⟨a,_,rfl⟩|⟨a,_,rfl⟩|⟨a,_,_,rfl⟩<;>rcases h2 with⟨k2,_,_,_,ks2,b2,y2,rfl⟩|⟨k2,_,_,rfl⟩|⟨k2,_,rfl⟩|⟨k2,_,_,_,rfl⟩|⟨k2,_,rfl⟩|⟨k2,_,rfl⟩|⟨k2,_,_,rfl⟩<;>first|rfl|omega|(obtain⟨rfl,rfl⟩:=c.cz y2;rfl)
theorem Fu.not(h:(ks.map (·.sum)).Nodup){c:Int}{a b:Zi}{r:Rs}(h1:Fu wd now given ae ks ps ls kd s nm num text refs c a b)(h2:DP wd now given ae ks ps ls kd s nm num text refs r):False:=by rcases h2 with⟨f,g,j,i,l,m,k,_⟩|⟨f,e,d,_⟩|⟨f,e,_⟩|⟨f,e,d,n,_⟩|⟨f,e,_⟩|⟨f,e,_⟩|⟨f,e,d,_⟩<;>rcases h1 with⟨k1,h1⟩|⟨_,_,⟨k1,⟨h1,_⟩|⟨h1,x1,z1,_⟩⟩|⟨k1,h1,_⟩|⟨k1,⟨h1,_⟩|⟨h1,x1,_⟩⟩|⟨k1,h1,_⟩|⟨k1,h1,_⟩|⟨k1,⟨h1,_⟩|⟨h1,x1,_⟩⟩⟩<;>first|omega|exact absurd e h1|exact absurd x1 d|exact h1.not h k g j i|(rcases d with d|d;exact x1 d;omega)
end
end
section
attribute [local go_sem↓] Go.wp_at_zero Go.wp_at_succ
theorem Rm(k:Kd)(a g:Zk)(f b:Nat)(w:Zh)(d:Ad w w.heap.size a k.refs)(c:Ad w w.heap.size g k.refs)(m:k.refs.length<=1048576):
 Calls prog 110 #[.agg #[.string k.sum,Zg k.born,.string k.text,.slice a k.refs.length f],.agg #[.string k.sum,Zg k.born,.string k.text,.slice g k.refs.length b]] w fun e n=>e=.returned (.bool true)/\Zz w n:=by
 have h:∀i j,Zz w ((w.alloc i).alloc j):=fun i j=>(Zy).alloc (by simp) _;go_enter func110,ntmps110;go_wp2_with fail;refine(OJ k.text a g f b k.refs _ (d.af (h _ _)) (c.af (h _ _)) m).mono ?_;rintro e o ⟨rfl,l⟩;go_wp2;go_ret;exact⟨rfl,(h _ _).trans (l.mono (by simp;omega))⟩
theorem Tt(p:Pd)(w:Zh):
 Calls prog 111 #[.agg #[.string p.name,.string p.sum],.agg #[.string p.name,.string p.sum]] w fun e a=>e=.returned (.bool true)/\Zz w a:=by
 go_enter func111,ntmps111;go_wp2;go_ret;exact⟨rfl,(Zy).alloc (by simp) _⟩
theorem Pr(p:Ld)(w:Zh):
 Calls prog 112 #[.agg #[Zg p.num,.string p.sum,Zg p.bf],.agg #[Zg p.num,.string p.sum,Zg p.bf]] w fun e a=>e=.returned (.bool true)/\Zz w a:=by
 go_enter func112,ntmps112;go_wp2;go_ret;exact⟨rfl,(Zy).alloc (by simp) _⟩
theorem Ro(a j:Zk)(m g:Nat)(ps:List Pd)(w:Zh)(f:AS w w.heap.size a ps)(d:AS w w.heap.size j ps)(F:ps.length<=1048576):
 Calls prog 50 #[.slice a ps.length m,.slice j ps.length g] w fun e t=>e=.returned (.bool true)/\Zz w t:=by
 go_enter func50,ntmps50;go_wp2
 go_loopw [5] (fun i wr=>∃k:Nat,k<=ps.length/\i=Zg k/\Zz w wr) (fun i _=>ps.length -(intOf i).toNat)
 case atStart=>exact⟨0,Nat.zero_le _,rfl,Below.refl _ _⟩
 case round=>
  obtain⟨k,E,rfl,c⟩:=hrel;by_cases hlt:k<ps.length
  ·obtain⟨b,v,r,D,l⟩:=(f.below c).at hlt;obtain⟨y,p,n,u,h⟩:=(d.below c).at hlt;subst r n;obtain⟨z,A⟩:=l k _ (Zv hlt);obtain⟨B,C⟩:=h k _ (Zv hlt);clear l h f d;generalize ps[k]=x at *
   go_wp2;go_region_with (go_at_call 111;refine(Tt x _).mono ?_;rintro e G ⟨rfl,o⟩)
   all_goals
    have q:=c.drew.trans (o.mono c.size);go_wp2;exact⟨⟨k+1,by omega,by go_num,q⟩,by simp[intOf];omega⟩
  ·go_wp2;go_ret;exact⟨rfl,c⟩
theorem Oq(a j:Zk)(m g:Nat)(ls:List Ld)(w:Zh)(f:AU w w.heap.size a ls)(d:AU w w.heap.size j ls)(G:ls.length<=1048576):
 Calls prog 51 #[.slice a ls.length m,.slice j ls.length g] w fun e t=>e=.returned (.bool true)/\Zz w t:=by
 go_enter func51,ntmps51;go_wp2
 go_loopw [5] (fun i wr=>∃k:Nat,k<=ls.length/\i=Zg k/\Zz w wr) (fun i _=>ls.length -(intOf i).toNat)
 case atStart=>exact⟨0,Nat.zero_le _,rfl,Below.refl _ _⟩
 case round=>
  obtain⟨k,F,rfl,c⟩:=hrel;by_cases hlt:k<ls.length
  ·obtain⟨b,v,r,E,l⟩:=(f.below c).at hlt;obtain⟨y,p,n,u,h⟩:=(d.below c).at hlt;subst r n;obtain⟨z,A,c2⟩:=l k _ (Zv hlt);obtain⟨B,C,D⟩:=h k _ (Zv hlt);clear l h f d;generalize ls[k]=x at *
   go_wp2;go_region_with (go_at_call 112;refine(Pr x _).mono ?_;rintro e H ⟨rfl,o⟩)
   all_goals
    have q:=c.drew.trans (o.mono c.size);go_wp2;exact⟨⟨k+1,by omega,by go_num,q⟩,by simp[intOf];omega⟩
  ·go_wp2;go_ret;exact⟨rfl,c⟩
theorem Ps(a n:Zk)(q h:Nat)(ks:List Kd)(w:Zh)(g:BH w w.heap.size a ks)(d:BH w w.heap.size n ks)(R:ks.length<=1048576)(m:∀k∈ks,k.refs.length<=1048576):
 Calls prog 49 #[.slice a ks.length q,.slice n ks.length h] w fun e F=>e=.returned (.bool true)/\Zz w F:=by
 go_enter func49,ntmps49;go_wp2
 go_loopw [5] (fun i wr=>∃k:Nat,k<=ks.length/\i=Zg k/\Zz w wr) (fun i _=>ks.length -(intOf i).toNat)
 case atStart=>exact⟨0,Nat.zero_le _,rfl,Below.refl _ _⟩
 case round=>
  obtain⟨k,Q,rfl,c⟩:=hrel;by_cases hlt:k<ks.length
  ·obtain⟨b,H,C,P,o⟩:=(g.below c).at hlt;obtain⟨I,z,r,G,j⟩:=(d.below c).at hlt;subst C r;obtain⟨J,K,c2,D,E,c3,p⟩:=o k _ (Zv hlt);obtain⟨L,M,N,v,y,O,l⟩:=j k _ (Zv hlt);have u:=m _ (List.getElem_mem hlt);clear o j g d m;generalize ks[k]=x at *
   have f:=Rm x D v E y wr.drew (p.mono c.size) (l.mono c.size) u;have A:=Yx f;clear f p l;go_wp2;go_region_with (go_at_call 110;refine Calls.mono A.o ?_;rintro e S ⟨rfl,t⟩)
   all_goals
    have B:=c.drew.trans (t.mono c.size);go_wp2;exact⟨⟨k+1,by omega,by go_num,B⟩,by simp[intOf];omega⟩
  ·go_wp2;go_ret;exact⟨rfl,c⟩
theorem Pt(wd now given ae:Int)(a p l m o n:Zk)(r v u f k j:Nat)(ks:List Kd)(ps:List Pd)(ls:List Ld)(w:Zh)(c:Bv w w.heap.size a p l ks ps ls)(b:Bv w w.heap.size m o n ks ps ls)(t:Nw ks ps ls):
 Calls prog 23 #[.agg (Ys wd now given ae a ks.length r p ps.length v l ls.length u),.agg (Ys wd now given ae m ks.length f o ps.length k n ls.length j)] w fun e G=>e=.returned (.bool true)/\Zz w G:=by
 have q:∀A B,Zz w ((w.alloc A).alloc B):=fun A B=>(Zy).alloc (by simp) _;have y:=Bg.below (Bg.new w wd now given ae (.slice a ks.length r) (.slice p ps.length v) (.slice l ls.length u) 40) ((Below.refl _ _).alloc (Zx) (.cells (Ys wd now given ae m ks.length f o ps.length k n ls.length j) 40))
 have z:=Bg.new (w.alloc (.cells (Ys wd now given ae a ks.length r p ps.length v l ls.length u) 40)) wd now given ae (.slice m ks.length f) (.slice o ps.length k) (.slice n ls.length j) 40;go_enter func23,ntmps23;go_wp2_with fail;refine(Ps a m r f ks _ (c.af (q _ _)).k (b.af (q _ _)).k t.k t.r).mono ?_;rintro e J ⟨rfl,i⟩;have g:=(q _ _).trans (i.mono (by simp;omega))
 obtain⟨_,_,_,_,_,H,C,I⟩:=y.below i;obtain⟨_,_,_,_,_,D,x,E⟩:=z.below i;simp[go_sem]at D x E;clear i y z;go_wp2_with fail;refine(Ro p o v k ps _ (c.af g).p (b.af g).p t.p).mono ?_;rintro e K ⟨rfl,d⟩;have h:=g.trans (d.mono g.size);replace C:=(d.cell (p:=⟨w.heap.size,6,none⟩) I).trans C;replace x:=(d.cell (p:=⟨w.heap.size+1,6,none⟩) E).trans x;have M:=d.size;clear d H D;go_wp2_with fail
 refine(Oq l n u j ls _ (c.af h).l (b.af h).l t.l).mono ?_;rintro e L ⟨rfl,F⟩;go_wp2;go_ret;exact⟨rfl,h.trans (F.mono h.size)⟩
end
theorem Bg.same'{w d:Zh}{b:Nat}{wd now given ae:Int}{T P L:Value}(h:Bg w b wd now given ae T P L)(l:d.heap[b]?=w.heap[b]?)(m:b<d.heap.size):Bg d b wd now given ae T P L:=by obtain⟨e,h1,h2,f,g,i,k,n⟩:=h;have c:=fun j=>World.cell?_of_block (a:=⟨b,j,none⟩) l;exact⟨(c 0).trans e,(c 1).trans h1,(c 2).trans h2,(c 3).trans f,(c 4).trans g,(c 5).trans i,(c 6).trans k,m⟩
theorem Tu(base k:Nat)(T:Value)(a:Zj)(ks:List Kd)(w:Zh)(h:FG w base T a ks)(i:1<=k)(f:k+ks.length *3+AF ks<=100000000):
 Calls prog 53 #[T,Zg k] w fun e b=>e=.returned (Zg (k+ks.length *3+AF ks:Nat))/\FG b base T a (Cc k ks)/\Tn (T.ownBlock.toList++a.filterMap Value.ownBlock) w b:=by
 have c:=h;rcases h.ai.2 with⟨rfl,j⟩|⟨g,d,l,rfl,_⟩
 ·obtain rfl:=List.length_eq_zero_iff.1 j;refine(Lw none 0 k w).mono ?_;rintro e b ⟨rfl,rfl⟩;exact⟨by simp[AF],c,Tn.of (Below.refl _ _)⟩
 ·exact Sy base g d k a ks w c i f
theorem Tv(base k:Nat)(T:Value)(c:Zj)(ks:List Kd)(w:Zh)(h:FG w base T c (Cc k ks))(j:1<=k)(i:k+ks.length *3+AF ks<=100000000):
 Calls prog 115 #[T,Zg k] w fun e d=>e=.returned (Zg (k+ks.length *3+AF ks:Nat))/\Zz w d:=by
 have a:=h;rcases h.ai.2 with⟨rfl,b⟩|⟨g,f,l,rfl,_⟩
 ·rw[BJ]at b;obtain rfl:=List.length_eq_zero_iff.1 b;refine(Lx none 0 k w).mono ?_;rintro e d ⟨rfl,rfl⟩;exact⟨by simp[AF],Below.refl _ _⟩
 ·rw[BJ]at a ⊢;exact SA base g f k c ks w a j i
theorem Vh(base k:Nat)(P:Value)(ps:List Pd)(w:Zh)(h:w.ownsRow base 137 2 P ps.length (Ab pC ps))(f:1<=k)(d:k+ps.length *2<=100000000):
 Calls prog 54 #[P,Zg k] w fun e a=>e=.returned (Zg (k+ps.length *2:Nat))/\a.ownsRow base 137 2 P ps.length (Ab pC (DL k ps))/\Tn P.ownBlock.toList w a:=by
 have b:=h;rcases h.2 with⟨rfl,i⟩|⟨g,c,j,rfl,_⟩
 ·obtain rfl:=List.length_eq_zero_iff.1 i;refine(MG none 0 k w).mono ?_;rintro e a ⟨rfl,rfl⟩;exact⟨by simp,b,Tn.of (Below.refl _ _)⟩
 ·refine(Uu base g c k ps w b f d).mono ?_;rintro e a ⟨rfl,h1,h2⟩;exact⟨rfl,h1,Tn.grown h2 (by simp[Value.ownBlock])⟩
theorem Vi(base k:Nat)(P:Value)(ps:List Pd)(w:Zh)(h:w.ownsRow base 137 2 P ps.length (Ab pC (DL k ps)))(f:1<=k)(c:k+ps.length *2<=100000000):
 Calls prog 116 #[P,Zg k] w fun e a=>e=.returned (Zg (k+ps.length *2:Nat))/\Zz w a:=by
 have d:=h;rcases h.2 with⟨rfl,i⟩|⟨g,b,j,rfl,_⟩
 ·obtain rfl:=List.length_eq_zero_iff.1 i;refine(MH none 0 k w).mono ?_;rintro e a ⟨rfl,rfl⟩;exact⟨by simp,Below.refl _ _⟩
 ·exact Uv base g b k ps w d f c
theorem Rp(base k:Nat)(P:Value)(ps:List Ld)(w:Zh)(h:w.ownsRow base 139 3 P ps.length (Ab lC ps))(f:1<=k)(d:k+ps.length *3<=100000000):
 Calls prog 55 #[P,Zg k] w fun e a=>e=.returned (Zg (k+ps.length *3:Nat))/\a.ownsRow base 139 3 P ps.length (Ab lC (DM k ps))/\Tn P.ownBlock.toList w a:=by
 have b:=h;rcases h.2 with⟨rfl,i⟩|⟨g,c,j,rfl,_⟩
 ·obtain rfl:=List.length_eq_zero_iff.1 i;refine(KK none 0 k w).mono ?_;rintro e a ⟨rfl,rfl⟩;exact⟨by simp,b,Tn.of (Below.refl _ _)⟩
 ·refine(QJ base g c k ps w b f d).mono ?_;rintro e a ⟨rfl,h1,h2⟩;exact⟨rfl,h1,Tn.grown h2 (by simp[Value.ownBlock])⟩
theorem Rq(base k:Nat)(P:Value)(ps:List Ld)(w:Zh)(h:w.ownsRow base 139 3 P ps.length (Ab lC (DM k ps)))(f:1<=k)(c:k+ps.length *3<=100000000):
 Calls prog 117 #[P,Zg k] w fun e a=>e=.returned (Zg (k+ps.length *3:Nat))/\Zz w a:=by
 have d:=h;rcases h.2 with⟨rfl,i⟩|⟨g,b,j,rfl,_⟩
 ·obtain rfl:=List.length_eq_zero_iff.1 i;refine(KL none 0 k w).mono ?_;rintro e a ⟨rfl,rfl⟩;exact⟨by simp,Below.refl _ _⟩
 ·exact QM base g b k ps w d f c
def CB(ks:List Kd)(ps:List Pd)(ls:List Ld):Nat:=ks.length *3+AF ks+ps.length *2+ls.length *3
theorem AO.gu{w:Zh}{base:Nat}{T P L:Value}{a:Zj}{ks:List Kd}{ps:List Pd}{ls:List Ld}(h:AO w base T P L a ks ps ls):FG w base T a ks:=by
 refine⟨h.len,h.ai,h.refs,?_⟩;have:=h.nd;rw[Fh]at this;unfold Bb at this;generalize T.ownBlock=t at *
 generalize P.ownBlock=p at *
 generalize L.ownBlock=l at *
 cases t<;>cases p<;>cases l<;>simp_all<;>grind
theorem FG.same{w g:Zh}{base:Nat}{T:Value}{d:Zj}{ks:List Kd}(h:FG w base T d ks)(f:∀b,b<w.heap.size->b∈T.ownBlock.toList++d.filterMap Value.ownBlock->g.heap[b]?=w.heap[b]?):FG g base T d ks:=
 ⟨h.len,Ai h.ai (fun b a=>f b (Ac h.ai a).2 (by simp[a])),fun i k r e c=>Ai (h.refs i k r e c) (fun b a=>f b (Ac (h.refs i k r e c) a).2 (List.mem_append_right _ (List.mem_filterMap.2 ⟨r,Zs c,a⟩))),h.nd⟩
theorem nd3{T P L:Option Nat}{R:List Nat}(h:(T.toList++(P.toList++(L.toList++R))).Nodup):(∀b∈T.toList++R,b∉P.toList/\b∉L.toList)/\(∀b∈P.toList,b∉T.toList++R/\b∉L.toList)/\(∀b∈L.toList,b∉T.toList++R/\b∉P.toList):=by cases T<;>cases P<;>cases L<;>simp_all<;>grind
theorem Rr(wd now given ae:Int)(base k:Nat)(T P L:Value)(c:Zj)(ks:List Kd)(ps:List Pd)(ls:List Ld)(w:Zh)(h:AO w base T P L c ks ps ls)(hk:1<=k)(z:k+CB ks ps ls<=100000000):
 Calls prog 26 #[.agg #[Zg wd,Zg now,Zg given,Zg ae,T,P,L],Zg k] w fun e w'=>e=.returned (Zg (k+CB ks ps ls:Nat))/\AO w' base T P L c (Cc k ks) (DL (k+ks.length *3+AF ks) ps) (DM (k+ks.length *3+AF ks+ps.length *2) ls)/\Tn (Bb T P L c) w w':=by
 have C:=h.nd;rw[Fh]at C;obtain⟨n1,n2,n3⟩:=nd3 C;have d:Below w.heap.size w (w.alloc (.cells #[Zg wd,Zg now,Zg given,Zg ae,T,P,L] 40)):=Zy;have n:=Bg.new w wd now given ae T P L 40;obtain⟨W,N⟩:∃W,W=w.alloc (.cells #[Zg wd,Zg now,Zg given,Zg ae,T,P,L] 40):=⟨_,rfl⟩;rw[←N]at d n;have J:∀b∈Bb T P L c,b<w.heap.size:=by
  intro b a;unfold Bb at a;simp only[List.mem_append,Option.mem_toList,List.mem_filterMap]at a;rcases a with a|a|a|⟨r,D,a⟩
  ·exact(Ac h.ai a).2
  ·exact(Ac h.pins a).2
  ·exact(Ac h.aq a).2
  ·obtain⟨i,S⟩:=List.getElem?_of_mem D;have zJ:=(Zw S).1;have hl:=h.len;exact(Ac (h.refs i ks[i] r (Zv (by omega)) S) a).2
 obtain⟨j,l,rfl⟩:=As h.ai;obtain⟨q,t,rfl⟩:=As h.pins;obtain⟨o,p,rfl⟩:=As h.aq;have m:=Yx h;have f:=Yx (Zn J (Zn n1 (Zn n2 n3)));have Q:=Yx N;have HX:=Yx n;have zH:w.heap.size<W.heap.size:=n.2.2.2.2.2.2.2;have zE:k+ks.length *3+AF ks<=100000000:=by unfold CB at z;omega
 have zF:k+ks.length *3+AF ks+ps.length *2<=100000000:=by unfold CB at z;omega
 have zG:k+ks.length *3+AF ks+ps.length *2+ls.length *3<=100000000:=by unfold CB at z;omega
 obtain⟨x0,x1,x2,x3,x4,x5,x6,x7⟩:=n;clear h J n1 n2 n3 N C x0 x1 x2 x3 z;go_enter func26,ntmps26;go_upto_region 1 with fail;rw[←Q.o];clear Q;have R:FG W base (.slice j ks.length l) c ks:=FG.same m.o.gu (fun b a _=>d.block b a);go_wp2_with fail;refine(Tu base k _ c ks W R hk zE).mono ?_;rintro e w1 ⟨rfl,u,v⟩
 have F:∀b∈(Value.slice j ks.length l).ownBlock.toList++c.filterMap Value.ownBlock,b∈Bb (.slice j ks.length l) (.slice q ps.length t) (.slice o ls.length p) c:=fun b a=>by
  unfold Bb;rcases List.mem_append.1 a with a|a
  ·exact List.mem_append_left _ a
  ·exact List.mem_append_right _ (List.mem_append_right _ (List.mem_append_right _ a))
 have I:∀{V:List Nat} {X Y:Zh},Tn V X Y->(∀b∈V,b∈Bb (.slice j ks.length l) (.slice q ps.length t) (.slice o ls.length p) c)->W.heap.size<=X.heap.size->Bg X w.heap.size wd now given ae (.slice j ks.length l) (.slice q ps.length t) (.slice o ls.length p)->Bg Y w.heap.size wd now given ae (.slice j ks.length l) (.slice q ps.length t) (.slice o ls.length p):=fun Z hV hz n=>n.same' (Z.block _ (by omega) (fun e=>by have:=f.o.1 _ (hV _ e);omega)) (Zr (Zr zH hz) Z.size)
 have K:=I v F (Zx) HX.o;have zA:=K;obtain⟨_,_,_,_,_,y5,y6,_⟩:=zA;have p1:w1.ownsRow base 137 2 (.slice q ps.length t) ps.length (Ab pC ps):=Ai (Ae m.o.pins d) (fun b a=>v.block b (Zr (Ac m.o.pins a).2 d.size) (f.o.2.2.1 b (by simp[a])).1);have A:=Yx (Zn u (Zn v K));clear u v x4 x5 x6 R K;go_wp2_with fail;refine(Vh base (k+ks.length *3+AF ks) _ ps w1 p1 (by omega) zF).mono ?_;rintro e w2 ⟨rfl,B,g⟩
 have G:∀b∈(Value.slice q ps.length t).ownBlock.toList,b∈Bb (.slice j ks.length l) (.slice q ps.length t) (.slice o ls.length p) c:=fun b a=>by unfold Bb;exact List.mem_append_right _ (List.mem_append_left _ a)
 have M:=I g G A.o.2.1.size A.o.2.2;have zB:=M;obtain⟨_,_,_,_,_,_,z6,_⟩:=zB;have l2:w2.ownsRow base 139 3 (.slice o ls.length p) ls.length (Ab lC ls):=Ai (Ai (Ae m.o.aq d) (fun b a=>A.o.2.1.block b (Zr (Ac m.o.aq a).2 d.size) (f.o.2.2.2 b (by simp[a])).1)) (fun b a=>g.block b (Zr (Zr (Ac m.o.aq a).2 d.size) A.o.2.1.size) (f.o.2.2.2 b (by simp[a])).2);have H2:=Yx (Zn B (Zn g M))
 clear B g p1 y5 y6 M;go_wp2_with fail;refine(Rp base (k+ks.length *3+AF ks+ps.length *2) _ ls w2 l2 (by omega) zG).mono ?_;rintro e w3 ⟨rfl,E,y⟩;have zC:∀b∈(Value.slice o ls.length p).ownBlock.toList,b∈Bb (.slice j ks.length l) (.slice q ps.length t) (.slice o ls.length p) c:=fun b a=>by unfold Bb;exact List.mem_append_right _ (List.mem_append_right _ (List.mem_append_left _ a))
 have H3:=Yx (Zn E y);clear E y l2 z6;go_wp2;go_ret;obtain⟨u,v,_⟩:=A.o;obtain⟨B,g,_⟩:=H2.o;obtain⟨E,y⟩:=H3.o;have zI:=v.size;have H:=g.size;refine⟨by rw[show k+CB ks ps ls=k+ks.length *3+AF ks+ps.length *2+ls.length *3 by unfold CB;omega];rfl,⟨by rw[BJ];exact m.o.len,?_,?_,?_,?_,m.o.nd⟩,(((Tn.of d).trans (v.mono F)).trans (g.mono G)).trans (y.mono zC)⟩
 ·exact Ai (Ai u.ai (fun b a=>g.block b (Ac u.ai a).2 (f.o.2.1 b (by simp[a])).1)) (fun b a=>y.block b (Zr (Ac u.ai a).2 H) (f.o.2.1 b (by simp[a])).2)
 ·intro i x r n D;have O:=u.refs i x r n D;have U:∀b,r.ownBlock=some b->b∈(Value.slice j ks.length l).ownBlock.toList++c.filterMap Value.ownBlock:=fun b a=>List.mem_append_right _ (List.mem_filterMap.2 ⟨r,Zs D,a⟩);exact Ai (Ai O (fun b a=>g.block b (Ac O a).2 (f.o.2.1 b (U b a)).1)) (fun b a=>y.block b (Zr (Ac O a).2 H) (f.o.2.1 b (U b a)).2)
 ·rw[Eo];exact Ai B (fun b a=>y.block b (Ac B a).2 (f.o.2.2.1 b (by simp[a])).2)
 ·rw[Fp];exact E
theorem AO.below{w b:Zh}{base:Nat}{T P L:Value}{rs:Zj}{ks:List Kd}{ps:List Pd}{ls:List Ld}(h:AO w base T P L rs ks ps ls)(a:Zz w b):AO b base T P L rs ks ps ls:=
 ⟨h.len,Ae h.ai a,fun i k r c d=>Ae (h.refs i k r c d) a,Ae h.pins a,Ae h.aq a,h.nd⟩
theorem Rt(wd now given ae:Int)(base k:Nat)(T P L:Value)(o:Zj)(ks:List Kd)(ps:List Pd)(ls:List Ld)(w:Zh)(h:AO w base T P L o (Cc k ks) (DL (k+ks.length *3+AF ks) ps) (DM (k+ks.length *3+AF ks+ps.length *2) ls))(x:1<=k)(d:k+CB ks ps ls<=100000000):
 Calls prog 57 #[.agg #[Zg wd,Zg now,Zg given,Zg ae,T,P,L],Zg k] w fun e y=>e=.returned (Zg (k+CB ks ps ls:Nat))/\Zz w y:=by
 have b:Below w.heap.size w (w.alloc (.cells #[Zg wd,Zg now,Zg given,Zg ae,T,P,L] 40)):=Zy;have i:=Bg.new w wd now given ae T P L 40;obtain⟨W,g⟩:∃W,W=w.alloc (.cells #[Zg wd,Zg now,Zg given,Zg ae,T,P,L] 40):=⟨_,rfl⟩;rw[←g]at b i;obtain⟨V,X,rfl⟩:=As h.ai;obtain⟨S,U,rfl⟩:=As h.pins;obtain⟨Q,R,rfl⟩:=As h.aq;have f:=Yx (h.below b);have l:=Yx g;have m:=Yx i
 have q:k+ks.length *3+AF ks<=100000000:=by unfold CB at d;omega
 have r:k+ks.length *3+AF ks+ps.length *2<=100000000:=by unfold CB at d;omega
 have t:k+ks.length *3+AF ks+ps.length *2+ls.length *3<=100000000:=by unfold CB at d;omega
 obtain⟨B,C,D,E,F,G,H,Z⟩:=i;clear h g B C D E d;go_enter func57,ntmps57;go_upto_region 1 with fail;rw[←l.o];clear l;go_wp2_with fail;refine(Tv base k _ o ks W f.o.gu x q).mono ?_;rintro e z ⟨rfl,a⟩;have u:=Bg.below m.o a;obtain⟨_,_,_,_,_,I,J,_⟩:=u;have j:=Ae f.o.pins a;rw[Eo]at j;have M:¬(((k+ks.length *3+AF ks:Nat):Int)<0):=by omega
 clear F G H;rw[Eo]at *
 go_wp2_with fail;refine(Vi base (k+ks.length *3+AF ks) _ ps z j (by omega) r).mono ?_;rintro e A ⟨rfl,c⟩;have v:=Bg.below (Bg.below m.o a) c;obtain⟨_,_,_,_,_,_,K,_⟩:=v;have n:=Ae (Ae f.o.aq a) c;rw[Fp]at *
 have N:¬(((k+ks.length *3+AF ks+ps.length *2:Nat):Int)<0):=by omega
 clear I J j;go_wp2_with fail;refine(Rq base (k+ks.length *3+AF ks+ps.length *2) _ ls A n (by omega) t).mono ?_;rintro e Y ⟨rfl,p⟩;have O:¬(((k+ks.length *3+AF ks+ps.length *2+ls.length *3:Nat):Int)<0):=by omega
 clear K n;go_wp2;go_ret;exact⟨by rw[show k+CB ks ps ls=k+ks.length *3+AF ks+ps.length *2+ls.length *3 by unfold CB;omega];rfl,((b.trans (a.mono b.size)).trans (c.mono (Zm b.size a.size))).trans (p.mono (Zm (Zm b.size a.size) c.size))⟩
theorem Ru(w:Zh)(base:Nat):AO w base Zc Zc Zc [] [] [] []:=
 ⟨rfl,⟨rfl,.inl ⟨rfl,rfl⟩⟩,fun i k r a=>(by simp at a),⟨rfl,.inl ⟨rfl,rfl⟩⟩,⟨rfl,.inl ⟨rfl,rfl⟩⟩,List.nodup_nil⟩
structure An where
 code:Int
 wd:Int
 now:Int
 given:Int
 ae:Int
 le:Int
 sm:Zi
 a:Zi
 b:Zi
 ks:List Kd
 ps:List Pd
 ls:List Ld
def r0:Rs:=⟨⟨#[]⟩,0,0,0,0,[],[],[]⟩
def JU(wd:Int)(r:Rs)(x:Zi)(r':Rs):Prop:=(AE x wd).ok=true/\DP wd r.now r.given r.ae r.ks r.ps r.ls (AE x wd).k (AE x wd).sum (AE x wd).name (AE x wd).n (AE x wd).t (AE x wd).ss r'
def ZY(wd:Int)(r:Rs)(x:Zi):Prop:=(AE x wd).ok=false∨∃c a b,Fu wd r.now r.given r.ae r.ks r.ps r.ls (AE x wd).k (AE x wd).sum (AE x wd).name (AE x wd).n (AE x wd).t (AE x wd).ss c a b
def Da(wd:Int):Rs->Zl->Rs->Prop
 |r,[],r'=>r'=r
 |r,x::xs,r'=>∃r1,JU wd r x r1/\Da wd r1 xs r'
def Di(wd:Int)(xs:Zl)(n:Nat):Prop:=∃k r x,n=k+1/\xs[k]?=some x/\Da wd r0 (xs.take k) r/\ZY wd r x
def Rs.ok(wd:Int)(r:Rs):Prop:=FB wd r.now r.given r.ae r.ks r.ps r.ls
theorem Da.snoc{wd:Int}{x:Zi}{a b:Rs}(h2:JU wd a x b):∀{xs:Zl} {r:Rs},Da wd r xs a->Da wd r (xs++[x]) b
 |[],r,h=>by obtain rfl:a=r:=h;exact⟨b,h2,rfl⟩
 |y::ys,r,h=>by obtain⟨e,c,d⟩:=h;exact⟨e,c,Da.snoc h2 d⟩
theorem JU.cz{wd:Int}{r a b:Rs}{x:Zi}(h:JU wd r x a)(k:JU wd r x b):a=b:=h.2.cz k.2
theorem JU.ok{wd:Int}{r a:Rs}{x:Zi}(h:JU wd r x a)(b:r.ok wd):a.ok wd:=FB.step b (Hq h.1).1 h.2
theorem JU.not{wd:Int}{r f:Rs}{x:Zi}(h:JU wd r x f)(d:r.ok wd):¬ZY wd r x:=by
 rintro(e|⟨c,a,b,e⟩)
 ·rw[h.1]at e;cases e
 ·exact e.not d.bk.nd h.2
theorem Da.cz{wd:Int}:∀{xs:Zl} {r a b:Rs},Da wd r xs a->Da wd r xs b->a=b
 |[],r,a,b,h,k=>by have h1:=h;have h2:=k;rw[h1,h2]
 |x::xs,r,a,b,h,k=>by obtain⟨e,h1,h2⟩:=h;obtain⟨f,c,d⟩:=k;obtain rfl:=h1.cz c;exact Da.cz h2 d
theorem Da.ok{wd:Int}:∀{xs:Zl} {r r':Rs},Da wd r xs r'->r.ok wd->r'.ok wd
 |[],r,r',h,hr=>by obtain rfl:r'=r:=h;exact hr
 |x::xs,r,r',h,hr=>by obtain⟨a,h1,h2⟩:=h;exact Da.ok h2 (h1.ok hr)
theorem Da.at{wd:Int}:∀{xs:Zl} {r r':Rs},Da wd r xs r'->∀{k:Nat} {x:Zi},xs[k]?=some x->∃a b,Da wd r (xs.take k) a/\JU wd a x b
 |[],r,r',h,k,x,hx=>by simp at hx
 |y::ys,r,r',h,k,x,hx=>by
  obtain⟨d,c,e⟩:=h;cases k with
  |zero=>simp at hx;subst hx;exact⟨r,d,rfl,c⟩
  |succ k=>obtain⟨a,b,f,g⟩:=Da.at e (k:=k) (x:=x) (by simpa using hx);exact⟨a,b,⟨d,c,f⟩,g⟩
theorem FX{wd:Int}(h1:1<=wd)(a:wd<=8):r0.ok wd:=FB.zero h1 a
theorem Di.not{wd:Int}{a:Zl}{n:Nat}{r:Rs}(h1:1<=wd)(e:wd<=8)(h:Di wd a n):¬Da wd r0 a r:=fun f=>by obtain⟨k,i,x,rfl,g,h2,b⟩:=h;obtain⟨j,l,c,d⟩:=f.at g;obtain rfl:=h2.cz c;exact d.not (h2.ok (FX h1 e)) b
theorem Di.le{wd:Int}{b:Zl}{n m:Nat}(h1:1<=wd)(f:wd<=8)(h:Di wd b n)(k:Di wd b m):m<=n:=by
 obtain⟨i,r,x,rfl,g,h2,d⟩:=h;obtain⟨j,t,y,rfl,p,l,q⟩:=k;rcases Nat.lt_or_ge i j with c|o
 ·obtain⟨u,v,a,e⟩:=l.at (k:=i) (x:=x) (by rw[List.getElem?_take_of_lt c];exact g);rw[List.take_take,Nat.min_eq_left (by omega)]at a;obtain rfl:=h2.cz a;exact absurd d (e.not (h2.ok (FX h1 f)))
 ·omega
theorem Di.cz{wd:Int}{b:Zl}{n m:Nat}(h1:1<=wd)(a:wd<=8)(h:Di wd b n)(k:Di wd b m):n=m:=Nat.le_antisymm (k.le h1 a h) (h.le h1 a k)
def Ot(wd:Int)(xs:Zl)(x:An):Prop:=
 (¬((1<=wd/\wd<=8)/\xs.length<=4000)/\x=⟨1,0,0,0,0,0,⟨#[]⟩,⟨#[]⟩,⟨#[]⟩,[],[],[]⟩)∨
 (((1<=wd/\wd<=8)/\xs.length<=4000)/\(
   (∃n:Nat,Di wd xs n/\x=⟨7,0,0,0,0,n,⟨#[]⟩,⟨#[]⟩,⟨#[]⟩,[],[],[]⟩)∨
   (∃r,Da wd r0 xs r/\x=⟨0,wd,r.now,r.given,r.ae,0,⟨#[]⟩,⟨#[]⟩,⟨#[]⟩,r.ks,r.ps,r.ls⟩)))
theorem Ot.cz{wd:Int}{b:Zl}{x y:An}(h:Ot wd b x)(k:Ot wd b y):x=y:=by
 rcases h with⟨c,rfl⟩|⟨a,h⟩<;>rcases k with⟨n2,rfl⟩|⟨g2,k⟩
 ·rfl
 ·exact absurd g2 c
 ·exact absurd a n2
 ·rcases h with⟨n,h,rfl⟩|⟨r,h,rfl⟩<;>rcases k with⟨m,k,rfl⟩|⟨q,k,rfl⟩
  ·obtain rfl:=h.cz a.1.1 a.1.2 k;rfl
  ·exact absurd k (h.not a.1.1 a.1.2)
  ·exact absurd h (k.not a.1.1 a.1.2)
  ·obtain rfl:=h.cz k;rfl
end Go.Proofs.YtlhhpofjkgmbeaaGreatDoor
