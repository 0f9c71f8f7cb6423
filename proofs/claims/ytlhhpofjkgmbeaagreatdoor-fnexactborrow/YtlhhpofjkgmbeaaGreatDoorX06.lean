import Derived.Test.YtlhhpofjkgmbeaaGreatDoorX05
set_option maxRecDepth 100000
set_option maxHeartbeats 16000000
namespace Go.Proofs.YtlhhpofjkgmbeaaGreatDoor
open Go.ChangeShapes Go.WideShapes Go.ChangeAt Go.RowKit _root_.Go.Proofs.Tryz
def Dw(x y:Int):Int:=if x<y then -1 else if y<x then 1 else 0
theorem NK(x y:Int):Dw x y<0↔x<y:=by unfold Dw;split<;>(try split)<;>omega
theorem Md(x y:Int):Dw x y=0↔x=y:=by unfold Dw;split<;>(try split)<;>omega
theorem NL(x:Int)(w:Zh):Calls prog 229 #[Zg x] w fun e a=>e=.returned (.bool false)/\a=w:=by
 have b:(x !=x)=false:=by simp
 go_enter func229,ntmps229;go_wp2;go_ret;exact⟨rfl,rfl⟩
theorem Uq(x y:Int)(w:Zh):Calls prog 209 #[Zg x,Zg y] w fun e d=>e=.returned (Zg (Dw x y))/\d=w:=by
 go_enter func209,ntmps209;go_wp2_with fail;refine(NL x w).mono ?_;rintro e f ⟨rfl,rfl⟩;go_wp2_with fail;refine(NL y f).mono ?_;rintro e g ⟨rfl,rfl⟩;by_cases h1:x<y
 ·have c:decide (x<y)=true:=by simpa using h1
  have a:Dw x y= -1:=by unfold Dw;rw[if_pos h1]
  clear h1;go_wp2;go_ret;exact⟨by rw[a];rfl,rfl⟩
 ·have c:decide (x<y)=false:=by simpa using h1
  by_cases h2:y<x
  ·have b:decide (y<x)=true:=by simpa using h2
   have a:Dw x y=1:=by unfold Dw;rw[if_neg h1,if_pos h2]
   clear h1 h2;go_wp2;go_ret;exact⟨by rw[a];rfl,rfl⟩
  ·have b:decide (y<x)=false:=by simpa using h2
   have a:Dw x y=0:=by unfold Dw;rw[if_neg h1,if_neg h2]
   clear h1 h2;go_wp2;go_ret;exact⟨by rw[a];rfl,rfl⟩
def Ea(x y:Zi):Int:=if less x y=true then -1 else if x=y then 0 else 1
theorem NM(x y:Zi):Ea x y<0↔less x y=true:=by
 unfold Ea;by_cases h:less x y=true
 ·rw[if_pos h];exact⟨fun _=>h,fun _=>by omega⟩
 ·rw[if_neg h];refine⟨fun e=> ?_,fun e=>absurd e h⟩;split at e<;>omega
theorem Ja(x y:Zi):Ea x y=0↔x=y:=by
 unfold Ea;by_cases h:less x y=true
 ·rw[if_pos h];refine⟨fun e=>by omega,fun e=> ?_⟩;rw[e,Ch]at h;cases h
 ·rw[if_neg h];split
  ·rename_i h2;exact⟨fun _=>h2,fun _=>rfl⟩
  ·rename_i h2;exact⟨fun e=>by omega,fun e=>absurd e h2⟩
theorem NN(x:Zi)(w:Zh):Calls prog 238 #[.string x] w fun e a=>e=.returned (.bool false)/\a=w:=by
 have b:(x.toList !=x.toList)=false:=by simp
 go_enter func238,ntmps238;go_wp2;go_ret;exact⟨rfl,rfl⟩
theorem Ur(x y:Zi)(w:Zh):Calls prog 226 #[.string x,.string y] w fun e c=>e=.returned (Zg (Ea x y))/\c=w:=by
 go_enter func226,ntmps226;go_wp2_with fail;refine(NN x w).mono ?_;rintro e d ⟨rfl,rfl⟩;go_wp2_with fail;refine(NN y d).mono ?_;rintro e f ⟨rfl,rfl⟩;cases h1:Op.bytesLess x.toList y.toList with
 |true=>
  have a:Hid (Ea x y= -1):=by show _=_;unfold Ea less;rw[if_pos h1]
  go_wp2;go_ret;exact⟨by rw[a.o];rfl,rfl⟩
 |false=>
  by_cases h2:x=y
  ·have a:=Yx ((Ja x y).2 h2);have b:(x.toList==y.toList)=true:=by rw[h2];simp
   clear h2;go_wp2;go_ret;exact⟨by rw[a.o];rfl,rfl⟩
  ·have a:Hid (Ea x y=1):=by show _=_;unfold Ea less;rw[if_neg (by rw[h1];simp),if_neg h2]
   have b:=BP h2;clear h2;go_wp2;go_ret;exact⟨by rw[a.o];rfl,rfl⟩
theorem Me(x:Ld)(n:Int)(w:Zh):Calls prog 208 #[.agg #[Zg x.num,.string x.sum,Zg x.bf],Zg n] w fun e b=>e=.returned (Zg (Dw x.num n))/\Zz w b:=by have a:∀o,Zz w (w.alloc o):=fun o=>Zy;go_enter func208,ntmps208;go_wp2_with fail;refine(Uq x.num n _).mono ?_;rintro e c ⟨rfl,rfl⟩;go_wp2;go_ret;exact⟨rfl,a _⟩
theorem KI(x:Pd)(n:Zi)(w:Zh):Calls prog 225 #[.agg #[.string x.name,.string x.sum],.string n] w fun e b=>e=.returned (Zg (Ea x.name n))/\Zz w b:=by have a:∀o,Zz w (w.alloc o):=fun o=>Zy;go_enter func225,ntmps225;go_wp2_with fail;refine(Ur x.name n _).mono ?_;rintro e c ⟨rfl,rfl⟩;go_wp2;go_ret;exact⟨rfl,a _⟩
structure Jb (ls:List Ld) (n:Int) (i:Nat):Prop where
 le:i<=ls.length
 lo:∀j x,j<i->ls[j]?=some x->x.num<n
 hi:∀j x,i<=j->ls[j]?=some x->n<=x.num
theorem Hg(g A:Nat)(c:List Ld)(n:Int)(w:Zh)(base:Nat)(v:w.ownsRow base 139 3 (Za g c.length A) c.length (Ab lC c))(Y:c.length<=600)(m:c.Pairwise (fun a b=>a.num<b.num)):
 Calls prog 207 #[Za g c.length A,Zg n,.func (.func 208) #[] #[]] w fun e Q=>∃i:Nat,e=.returned (.tuple #[Zg i,.bool (decide (∃x,c[i]?=some x/\x.num=n))])/\Jb c n i/\Zz w Q:=by
 have T:=(Ac v rfl).2;have V:=Yx v;have I:Hid (∀(X:Zh),Zz w X->∀k x,c[k]?=some x->X.cell? (Ze g (k *3))=some (Zg x.num)/\X.cell? (Ze g (k *3+1))=some (.string x.sum)/\X.cell? (Ze g (k *3+2))=some (Zg x.bf)):=fun X O k x z=>by have h:=Ae v O;have W:=(Zw z).1;have l:∀j,j<3->X.cell? (Ze g (k *3+j))=(lC x)[j]?:=fun j E=>(h.cellAt (k *3+j) (by omega)).trans (Bp Co z E);exact⟨by simpa [lC]using l 0 (by decide),by simpa [lC]using l 1 (by decide),by simpa [lC]using l 2 (by decide)⟩
 have J:=Yx m;clear v m;go_enter func207,ntmps207;have S:=enters_of func208 (by kernel_rfl) rfl;go_wp2
 go_loopw [9,10] (fun i j wr=>∃lo d:Nat,i=Zg lo/\j=Zg d/\lo<=d/\d<=c.length/\Hid ((∀j x,j<lo->c[j]?=some x->x.num<n)/\(∀j x,d<=j->c[j]?=some x->n<=x.num))/\Zz w wr) (fun i j _=>(intOf j).toNat -(intOf i).toNat)
 case atStart=>exact⟨0,c.length,rfl,rfl,Nat.zero_le _,Zx,⟨fun j x h=>by omega,fun j x h z=>by have:=(Zw z).1;omega⟩,Below.refl _ _⟩
 case round=>
  obtain⟨lo,d,rfl,rfl,U,B,u,f⟩:=hrel;have C:=f.size;by_cases hlt:lo<d
  ·have t:(lo+d)/2<c.length:=by omega
   have o:=Yx (Zv t);generalize c[(lo+d)/2]=x at *
   obtain⟨r0,F,G⟩:=I.o wr f _ _ o.o;go_wp2_with fail;refine(Me x n wr).mono ?_;rintro e R ⟨rfl,s⟩;have q:=f.trans (s.mono C);clear r0 F G;by_cases l:x.num<n
   ·have P:decide (Dw x.num n<0)=true:=by simpa using (NK _ _).2 l
    have r:=Yx l;clear l;generalize Dw x.num n=cv at *
    go_wp2;refine⟨⟨(lo+d)/2+1,d,by go_num,rfl,by omega,B,⟨?_,u.o.2⟩,q⟩,by simp[intOf];omega⟩;intro j y E p;rcases Nat.lt_or_ge j ((lo+d)/2)with h|h
    ·have:=List.pairwise_iff_getElem.1 J.o j ((lo+d)/2) (by omega) t h;obtain⟨_,rfl⟩:=Zw p;obtain⟨_,e⟩:=Zw o.o;rw[e]at this;have N:=r.o;omega
    ·obtain rfl:j=(lo+d)/2:=by omega
     rw[o.o]at p;cases p;exact r.o
   ·have P:decide (Dw x.num n<0)=false:=by simpa using fun e=>l ((NK _ _).1 e)
    have r:=Yx (Int.not_lt.1 l);clear l;generalize Dw x.num n=cv at *
    go_wp2;refine⟨⟨lo,(lo+d)/2,rfl,by go_num,by omega,by omega,⟨u.o.1,?_⟩,q⟩,by simp[intOf];omega⟩;intro j y E p;rcases Nat.lt_or_ge ((lo+d)/2) j with h|h
    ·have K:=(Zw p).1;have:=List.pairwise_iff_getElem.1 J.o ((lo+d)/2) j t K h;obtain⟨_,rfl⟩:=Zw p;obtain⟨_,e⟩:=Zw o.o;rw[e]at this;have N:=r.o;omega
    ·obtain rfl:j=(lo+d)/2:=by omega
     rw[o.o]at p;cases p;exact r.o
  ·obtain rfl:lo=d:=by omega
   have H:Hid (Jb c n lo):=⟨B,u.o.1,u.o.2⟩;by_cases hn:lo<c.length
   ·have o:=Yx (Zv hn);generalize c[lo]=x at *
    obtain⟨r0,F,G⟩:=I.o wr f _ _ o.o;have L:(lo:Int)<c.length:=by omega
    go_wp2_with fail;refine(Me x n wr).mono ?_;rintro e R ⟨rfl,s⟩;have q:=f.trans (s.mono C);clear r0 F G;have D:Hid (decide (∃y,c[lo]?=some y/\y.num=n)=(Dw x.num n==0)):=by
     show _=_;rw[o.o];by_cases h:x.num=n
     ·rw[(Md x.num n).2 h];simp[h]
     ·have M:¬Dw x.num n=0:=fun e=>h ((Md x.num n).1 e);rw[show(Dw x.num n==0)=false by simpa using M];simp[h]
    generalize Dw x.num n=cv at *
    go_wp2
    go_ret2
    exact⟨lo,by rw[D.o];first|rfl|simp[Act.put],H.o,q⟩
   ·have D:Hid (decide (∃y,c[lo]?=some y/\y.num=n)=false):=by show _=_;rw[List.getElem?_eq_none (by omega)];simp
    have L:¬((lo:Int)<c.length):=by omega
    go_wp2
    go_ret2
    exact⟨lo,by rw[D.o];first|rfl|simp[Act.put],H.o,f⟩
structure Dx (ls:List Pd) (n:Zi) (i:Nat):Prop where
 le:i<=ls.length
 lo:∀j x,j<i->ls[j]?=some x->less x.name n=true
 hi:∀j x,i<=j->ls[j]?=some x->less x.name n=false
theorem IL(g A:Nat)(c:List Pd)(n:Zi)(w:Zh)(base:Nat)(v:w.ownsRow base 137 2 (Za g c.length A) c.length (Ab pC c))(W:c.length<=600)(l:c.Pairwise (fun a b=>less a.name b.name=true)):
 Calls prog 224 #[Za g c.length A,.string n,.func (.func 225) #[] #[]] w fun e P=>∃i:Nat,e=.returned (.tuple #[Zg i,.bool (decide (∃x,c[i]?=some x/\x.name=n))])/\Dx c n i/\Zz w P:=by
 have S:=(Ac v rfl).2;have U:=Yx v;have H:Hid (∀(X:Zh),Zz w X->∀k x,c[k]?=some x->X.cell? (Ze g (k *2))=some (.string x.name)/\X.cell? (Ze g (k *2+1))=some (.string x.sum)):=fun X N k x z=>by have h:=Ae v N;have V:=(Zw z).1;have m:∀j,j<2->X.cell? (Ze g (k *2+j))=(pC x)[j]?:=fun j E=>(h.cellAt (k *2+j) (by omega)).trans (Bp BI z E);exact⟨by simpa [pC]using m 0 (by decide),by simpa [pC]using m 1 (by decide)⟩
 have I:=Yx l;clear v l;go_enter func224,ntmps224;have R:=enters_of func225 (by kernel_rfl) rfl;go_wp2
 go_loopw [9,10] (fun i j wr=>∃lo d:Nat,i=Zg lo/\j=Zg d/\lo<=d/\d<=c.length/\Hid ((∀j x,j<lo->c[j]?=some x->less x.name n=true)/\(∀j x,d<=j->c[j]?=some x->less x.name n=false))/\Zz w wr) (fun i j _=>(intOf j).toNat -(intOf i).toNat)
 case atStart=>exact⟨0,c.length,rfl,rfl,Nat.zero_le _,Zx,⟨fun j x h=>by omega,fun j x h z=>by have:=(Zw z).1;omega⟩,Below.refl _ _⟩
 case round=>
  obtain⟨lo,d,rfl,rfl,T,B,u,f⟩:=hrel;have C:=f.size;by_cases hlt:lo<d
  ·have t:(lo+d)/2<c.length:=by omega
   have o:=Yx (Zv t);generalize c[(lo+d)/2]=x at *
   obtain⟨r0,F⟩:=H.o wr f _ _ o.o;go_wp2_with fail;refine(KI x n wr).mono ?_;rintro e Q ⟨rfl,s⟩;have q:=f.trans (s.mono C);clear r0 F;by_cases m:less x.name n=true
   ·have O:decide (Ea x.name n<0)=true:=by simpa using (NM _ _).2 m
    have r:=Yx m;clear m;generalize Ea x.name n=cv at *
    go_wp2;refine⟨⟨(lo+d)/2+1,d,by go_num,rfl,by omega,B,⟨?_,u.o.2⟩,q⟩,by simp[intOf];omega⟩;intro j y E p;rcases Nat.lt_or_ge j ((lo+d)/2)with h|h
    ·have:=List.pairwise_iff_getElem.1 I.o j ((lo+d)/2) (by omega) t h;obtain⟨_,rfl⟩:=Zw p;obtain⟨_,e⟩:=Zw o.o;rw[e]at this;exact Cl this r.o
    ·obtain rfl:j=(lo+d)/2:=by omega
     rw[o.o]at p;cases p;exact r.o
   ·have O:decide (Ea x.name n<0)=false:=by simpa using fun e=>m ((NM _ _).1 e)
    have r:Hid (less x.name n=false):=by show _=_;simpa using m
    clear m;generalize Ea x.name n=cv at *
    go_wp2;refine⟨⟨lo,(lo+d)/2,rfl,by go_num,by omega,by omega,⟨u.o.1,?_⟩,q⟩,by simp[intOf];omega⟩;intro j y E p;rcases Nat.lt_or_ge ((lo+d)/2) j with h|h
    ·have K:=(Zw p).1;have:=List.pairwise_iff_getElem.1 I.o ((lo+d)/2) j t K h;obtain⟨_,rfl⟩:=Zw p;obtain⟨_,e⟩:=Zw o.o;rw[e]at this;have J:=r.o;cases h':less c[j].name n with
     |false=>rfl
     |true=>rw[Cl this h']at J;cases J
    ·obtain rfl:j=(lo+d)/2:=by omega
     rw[o.o]at p;cases p;exact r.o
  ·obtain rfl:lo=d:=by omega
   have G:Hid (Dx c n lo):=⟨B,u.o.1,u.o.2⟩;by_cases hn:lo<c.length
   ·have o:=Yx (Zv hn);generalize c[lo]=x at *
    obtain⟨r0,F⟩:=H.o wr f _ _ o.o;have L:(lo:Int)<c.length:=by omega
    go_wp2_with fail;refine(KI x n wr).mono ?_;rintro e Q ⟨rfl,s⟩;have q:=f.trans (s.mono C);clear r0 F;have D:Hid (decide (∃y,c[lo]?=some y/\y.name=n)=(Ea x.name n==0)):=by
     show _=_;rw[o.o];by_cases h:x.name=n
     ·rw[(Ja x.name n).2 h];simp[h]
     ·have M:¬Ea x.name n=0:=fun e=>h ((Ja x.name n).1 e);rw[show(Ea x.name n==0)=false by simpa using M];simp[h]
    generalize Ea x.name n=cv at *
    go_wp2
    go_ret2
    exact⟨lo,by rw[D.o];first|rfl|simp[Act.put],G.o,q⟩
   ·have D:Hid (decide (∃y,c[lo]?=some y/\y.name=n)=false):=by show _=_;rw[List.getElem?_eq_none (by omega)];simp
    have L:¬((lo:Int)<c.length):=by omega
    go_wp2
    go_ret2
    exact⟨lo,by rw[D.o];first|rfl|simp[Act.put],G.o,f⟩
theorem Jc{w:Zh}{base:Nat}{e:TypeId}{size:Nat}{v:Value}{n:Nat}{b:Zj}(h:w.ownsRow base e size v n b)(d:0<n):∃g a,v=Za g n a:=by
 rcases h.2 with⟨_,f⟩|⟨g,a,c,rfl,_⟩
 ·omega
 ·exact⟨g,a,rfl⟩
theorem Jb.at{f:List Ld}{n:Int}{i:Nat}(h:Jb f n i)(m:∃x∈f,x.num=n)(c:f.Pairwise (fun a b=>a.num<b.num)):∃x,f[i]?=some x/\x.num=n:=by
 obtain⟨x,q,p⟩:=m;obtain⟨j,g⟩:=List.getElem?_of_mem q;have l:=(Zw g).1;have k:i=j:=by
  rcases Nat.lt_trichotomy i j with d|d|d
  ·have r:=h.hi i f[i] (Zx) (Zv (by omega));have o:=List.pairwise_iff_getElem.1 c i j (by omega) l d;obtain⟨_,e⟩:=Zw g;rw[e]at o;omega
  ·exact d
  ·have:=h.lo j x d g;omega
 exact⟨x,k▸g,p⟩
theorem Dx.at{f:List Pd}{n:Zi}{i:Nat}(h:Dx f n i)(q:∃x∈f,x.name=n)(c:f.Pairwise (fun a b=>less a.name b.name=true)):∃x,f[i]?=some x/\x.name=n:=by
 obtain⟨x,r,k⟩:=q;obtain⟨j,g⟩:=List.getElem?_of_mem r;have p:=(Zw g).1;have o:i=j:=by
  rcases Nat.lt_trichotomy i j with d|d|d
  ·have l:=h.hi i f[i] (Zx) (Zv (by omega));have m:=List.pairwise_iff_getElem.1 c i j (by omega) p d;obtain⟨_,e⟩:=Zw g;rw[e,k]at m;rw[m]at l;cases l
  ·exact d
  ·have:=h.lo j x d g;rw[k,Ch]at this;cases this
 exact⟨x,o▸g,k⟩
def Bo(ls:List Ld)(n:Int):List Ld:=ls.filter (fun x=> !decide (x.num=n))
def AY(ps:List Pd)(n:Zi):List Pd:=ps.filter (fun x=> !decide (x.name=n))
theorem GP{A:Type}{q:A->Bool}:∀{xs:List A} {i:Nat} {x:A},xs[i]?=some x->q x=false->(∀j y,xs[j]?=some y->j≠i->q y=true)->xs.filter q=xs.eraseIdx i
 |[],i,x,hx,_,_=>by simp at hx
 |y::ys,0,x,hx,hq,ho=>by
  simp only[List.getElem?_cons_zero,Option.some.injEq]at hx;subst hx;rw[List.filter_cons,hq,List.eraseIdx_cons_zero];simp only[Bool.false_eq_true,if_false];exact List.filter_eq_self.2 (fun z c=>by
   obtain⟨j,a⟩:=List.getElem?_of_mem c;exact ho (j+1) z (by simpa using a) (by omega))
 |y::ys,i+1,x,hx,hq,ho=>by have b:=ho 0 y (by simp) (by omega);rw[List.filter_cons,b,List.eraseIdx_cons_succ];simp only[if_true];rw[GP (i:=i) (x:=x) (by simpa using hx) hq (fun j z a d=>ho (j+1) z (by simpa using a) (by omega))]
theorem OW{d:List Ld}{n:Int}{i:Nat}{x:Ld}(g:d[i]?=some x)(p:x.num=n)(c:d.Pairwise (fun a b=>a.num<b.num)):Bo d n=d.eraseIdx i:=by
 refine GP g (by simp[p]) (fun j y m o=> ?_);have e:=(Zw g).1;have f:=(Zw m).1;obtain⟨_,k⟩:=Zw g;obtain⟨_,l⟩:=Zw m;rcases Nat.lt_or_gt_of_ne o with h|h
 ·have:=List.pairwise_iff_getElem.1 c j i f e h;rw[k,l]at this;simp;omega
 ·have:=List.pairwise_iff_getElem.1 c i j e f h;rw[k,l]at this;simp;omega
theorem NO{d:List Pd}{n:Zi}{i:Nat}{x:Pd}(m:d[i]?=some x)(l:x.name=n)(c:d.Pairwise (fun a b=>less a.name b.name=true)):AY d n=d.eraseIdx i:=by
 refine GP m (by simp[l]) (fun j y q r=> ?_);have g:=(Zw m).1;have k:=(Zw q).1;obtain⟨_,o⟩:=Zw m;obtain⟨_,p⟩:=Zw q;have f:y.name≠n:=fun e=>by
  rcases Nat.lt_or_gt_of_ne r with h|h
  ·have:=List.pairwise_iff_getElem.1 c j i k g h;rw[o,p,e,l,Ch]at this;cases this
  ·have:=List.pairwise_iff_getElem.1 c i j g k h;rw[o,p,e,l,Ch]at this;cases this
 simpa using f
theorem Us(base d m:Nat)(O P L:Value)(M y given ae:Int)(J:List Kd)(K:List Pd)(c:List Ld)(n:Int)(w:Zh)(h:DU w base d m O P L M y given ae J K c)(hl:c.length<=200)(j:c.Pairwise (fun a b=>a.num<b.num))(u:∃x∈c,x.num=n):
 Calls prog 177 #[Yz d,Zg n] w fun e T=>e=.returned (.tuple #[])/\∃I,DU T base d m O P I M y given ae J K (Bo c n)/\Tn (d::L.ownBlock.toList) w T:=by
 have C:0<c.length:=by obtain⟨x,hx,_⟩:=u;exact List.length_pos_of_mem hx
 obtain⟨g,k,W⟩:=Jc h.dr.ck C;subst W;have N:=Yx h;have r:=Yx j;have D:=Yx u;have Q:=Yx (Hg g k c n w base h.dr.ck (by omega) j);obtain⟨c7,_⟩:=h.dr.box 7 _ rfl;clear h j u;go_enter func177,ntmps177;go_wp2_with fail;refine Calls.mono Q.o ?_;rintro e U ⟨i,rfl,H,s⟩;obtain⟨x,q,v⟩:=H.at D.o r.o;have l:decide (∃x,c[i]?=some x/\x.num=n)=true:=by simpa using ⟨x,q,v⟩
 have E:=(Zw q).1;have X:=Yx (OW q v r.o);have p:=N.o.below s;have o:=Yx p;have V:=Yx s;have B:=Yx (KH g k i c U base p.dr.ck (by omega) E);obtain⟨Z,_⟩:=p.dr.box 7 _ rfl;rw[l];clear l q v H p s N Q D r c7;go_wp2_with fail;refine Calls.mono B.o ?_;rintro e A ⟨rfl,G,t⟩;have F:∀b,(Za g (c.length -1) k).ownBlock=some b->b≠d:=fun b z=>((CZ o.o.dr.ap).2.2.2 b z).1
 have f:=Aa.same o.o.dr.box (t.block d o.o.dr.box.lt (fun e=>F g rfl (Option.some.inj e).symm));obtain⟨f7,k7⟩:=f 7 _ rfl;have R:∃I,DU (A.setCell (Ze d 7) (Za g (c.length -1) k)) base d m O P I M y given ae J K (Bo c n)/\Tn (d::(Za g c.length k).ownBlock.toList) w (A.setCell (Ze d 7) (Za g (c.length -1) k)):=by
  have S:Tn (d::(Za g c.length k).ownBlock.toList) U (A.setCell (Ze d 7) (Za g (c.length -1) k)):=
   ((Ct t).mono (by intro b z;simp[Value.ownBlock]at z ⊢;exact .inr z)).trans ((En A d 7 _).mono (by simp))
  refine⟨_,o.o.gm S (f.set 7 _) ?_ (.inl rfl),(Tn.of V.o).trans S⟩;rw[X.o,List.length_eraseIdx,if_pos E];exact Bk G F 7 _
 have Y:=Yx R;clear R G t f Z;go_wp2
 go_end0
 exact⟨rfl,Y.o⟩
theorem Jd(base d m:Nat)(O L:Value)(g k:Nat)(y r given ae:Int)(t:List Kd)(f:List Pd)(u:List Ld)(n:Zi)(w:Zh)(h:DU w base d m O (Za g f.length k) L y r given ae t f u)(z:f.length<=200)(c:f.Pairwise (fun a b=>less a.name b.name=true)):
 Calls prog 204 #[Yz d,.string n] w fun e v=>∃i:Nat,e=.returned (.tuple #[Zg i,.bool (decide (∃x,f[i]?=some x/\x.name=n))])/\Dx f n i/\Zz w v:=by
 have s:=Yx (IL g k f n w base h.dr.ci (by omega) c);obtain⟨c6,_⟩:=h.dr.box 6 _ rfl;clear h c;go_enter func204,ntmps204;go_wp2_with fail;refine Calls.mono s.o ?_;rintro e A ⟨i,rfl,q,p⟩;obtain⟨l,j⟩:∃l,decide (∃x,f[i]?=some x/\x.name=n)=l:=⟨_,rfl⟩;have o:=Yx j;rw[j];clear j;go_wp2
 go_ret2
 exact⟨i,by rw[o.o];rfl,q,p⟩
theorem St(base d m:Nat)(O P L:Value)(D r given ae:Int)(A:List Kd)(c:List Pd)(B:List Ld)(n:Zi)(w:Zh)(h:DU w base d m O P L D r given ae A c B)(hl:c.length<=200)(j:c.Pairwise (fun a b=>less a.name b.name=true))(v:∃x∈c,x.name=n):
 Calls prog 176 #[Yz d,.string n] w fun e T=>e=.returned (.tuple #[])/\∃M,DU T base d m O M L D r given ae A (AY c n) B/\Tn (d::P.ownBlock.toList) w T:=by
 have F:0<c.length:=by obtain⟨x,hx,_⟩:=v;exact List.length_pos_of_mem hx
 obtain⟨g,k,W⟩:=Jc h.dr.ci F;subst W;have N:=Yx h;have s:=Yx j;have G:=Yx v;have Q:=Yx (Jd base d m O L g k D r given ae A c B n w h hl j);clear h j v;go_enter func176,ntmps176;go_wp2_with fail;refine Calls.mono Q.o ?_;rintro e U ⟨i,rfl,K,t⟩;obtain⟨x,q,y⟩:=K.at G.o s.o;have l:decide (∃x,c[i]?=some x/\x.name=n)=true:=by simpa using ⟨x,q,y⟩
 have H:=(Zw q).1;have X:=Yx (NO q y s.o);have p:=N.o.below t;have o:=Yx p;have V:=Yx t;have E:=Yx (MF g k i c U base p.dr.ci (by omega) H);obtain⟨Z,_⟩:=p.dr.box 6 _ rfl;rw[l];clear l q y K p t N Q G s;go_wp2_with fail;refine Calls.mono E.o ?_;rintro e C ⟨rfl,J,u⟩;have I:∀b,(Za g (c.length -1) k).ownBlock=some b->b≠d:=fun b z=>((CZ o.o.dr.ap).2.2.1 b z).1
 have f:=Aa.same o.o.dr.box (u.block d o.o.dr.box.lt (fun e=>I g rfl (Option.some.inj e).symm));obtain⟨f6,k6⟩:=f 6 _ rfl;have R:∃M,DU (C.setCell (Ze d 6) (Za g (c.length -1) k)) base d m O M L D r given ae A (AY c n) B/\Tn (d::(Za g c.length k).ownBlock.toList) w (C.setCell (Ze d 6) (Za g (c.length -1) k)):=by
  have S:Tn (d::(Za g c.length k).ownBlock.toList) U (C.setCell (Ze d 6) (Za g (c.length -1) k)):=
   ((Ct u).mono (by intro b z;simp[Value.ownBlock]at z ⊢;exact .inr z)).trans ((En C d 6 _).mono (by simp))
  refine⟨_,o.o.gn S (f.set 6 _) ?_ (.inl rfl),(Tn.of V.o).trans S⟩;rw[X.o,List.length_eraseIdx,if_pos H];exact Bk J I 6 _
 have Y:=Yx R;clear R J u f Z;go_wp2
 go_end0
 exact⟨rfl,Y.o⟩
def AK(ls:List Ld)(n:Int):List Ld:=ls.filter (fun x=> !decide (x.bf<=n))
theorem Mf(x:Ld)(b d:Nat)(n:Int)(w:Zh)(f:w.cell? (Ze b 0)=some (Yz d))(g:w.cell? (Ze d 2)=some (Zg n)):
 Calls prog 212 #[.agg #[Zg x.num,.string x.sum,Zg x.bf],Yz b] w fun e m=>e=.returned (.bool (decide (x.bf<=n)))/\Zz w m:=by
 obtain⟨W,c⟩:∃W,W=w.alloc (.cells #[Zg x.num,.string x.sum,Zg x.bf] 139):=⟨_,rfl⟩;have a:=(AG c).1;have l:W.cell? (Ze (w.heap.size) 2)=some (Zg x.bf):=by rw[c];simp[go_sem]
 have i:=(a.cell (p:=⟨b,0,none⟩) (World.block_lt_of_cell? w _ f)).trans f;have c2:=(a.cell (p:=⟨d,2,none⟩) (World.block_lt_of_cell? w _ g)).trans g;have o:b<W.heap.size/\d<W.heap.size:=⟨World.block_lt_of_cell? W _ i,World.block_lt_of_cell? W _ c2⟩;have h:=Yx c;clear c f g;go_enter func212,ntmps212;go_upto_region 1 with fail;rw[←h.o];clear h;have k:=Yx a;clear a;cases hbb:decide (x.bf<=n)
 all_goals
  have j:=Yx hbb;go_region_with fail
  all_goals
   clear l i c2;go_wp2;go_ret;exact⟨by rw[j.o];rfl,k.o.drew⟩
def Wh(ls:List Ld)(n r:Int):Prop:=(r= -1/\∀x∈ls,n<x.bf)∨∃(i:Nat) (x:Ld),r=i/\ls[i]?=some x/\x.bf<=n/\∀j y,j<i->ls[j]?=some y->n<y.bf
theorem IM(a:Zk)(B b d:Nat)(n:Int)(f:List Ld)(w:Zh)(l:AU w w.heap.size a f)(T:f.length<=1048576)(v:w.cell? (Ze b 0)=some (Yz d))(A:w.cell? (Ze d 2)=some (Zg n)):
 Calls prog 230 #[.slice a f.length B,.func (.func 212) #[] #[Yz b]] w fun e M=>∃r:Int,e=.returned (Zg r)/\Wh f n r/\Zz w M:=by
 have D:=World.block_lt_of_cell? w _ v;have F:=World.block_lt_of_cell? w _ A;go_enter func230,ntmps230;go_wp2
 go_loopw [8] (fun i wr=>∃k:Nat,k<=f.length/\i=Zg k/\Hid (∀j x,j<k->f[j]?=some x->n<x.bf)/\Zz w wr) (fun i _=>f.length -(intOf i).toNat)
 case atStart=>exact⟨0,Nat.zero_le _,rfl,(fun j x h=>by omega),Below.refl _ _⟩
 case round=>
  obtain⟨k,S,rfl,g,c⟩:=hrel;have H:=c.size;by_cases hlt:k<f.length
  ·obtain⟨O,N,K,R,q⟩:=(l.below c).at hlt;subst K;have s:=Yx (Zv hlt);obtain⟨P,Q,c2⟩:=q k _ s.o;have E:=(c.cell (p:=⟨b,0,none⟩) D).trans v;have G:=(c.cell (p:=⟨d,2,none⟩) F).trans A;clear q l;generalize f[k]=x at *
   go_wp2_with fail;refine(Mf x b d n wr E G).mono ?_;rintro e U ⟨rfl,C⟩;have o:=c.trans (C.mono H);by_cases h:x.bf<=n
   ·have m:decide (x.bf<=n)=true:=by simpa using h
    have J:=Yx h;rw[m];clear h m;go_wp2;go_ret;exact⟨_,rfl,.inr ⟨k,x,rfl,s.o,J.o,g.o⟩,o⟩
   ·have I:Hid (∀j y,j<k+1->f[j]?=some y->n<y.bf):=by
     intro j y z t;rcases Nat.lt_or_ge j k with u|u
     ·exact g.o j y u t
     ·obtain rfl:j=k:=by omega
      rw[s.o]at t;cases t;exact Int.not_le.1 h
    have m:decide (x.bf<=n)=false:=by simpa using h
    rw[m];clear h m;go_wp2;exact⟨⟨k+1,by omega,by go_num,I,o⟩,by simp[intOf];omega⟩
  ·go_wp2;go_ret;refine⟨_,rfl,.inl ⟨rfl,fun x L=> ?_⟩,c⟩;obtain⟨j,z,rfl⟩:=List.getElem_of_mem L;exact g.o j _ (by omega) (Zv z)
def AF(ks:List Kd):Nat:=(ks.map (fun k=>k.refs.length)).sum
theorem It{a:List Kd}{k:Nat}{x:Kd}(h:a[k]?=some x):AF (a.take (k+1))=AF (a.take k)+x.refs.length:=by unfold AF;rw[List.take_add_one,h];simp
theorem Gr(a:List Kd)(k:Nat):AF (a.take k)<=AF a:=by
 have h:AF a=AF (a.take k)+AF (a.drop k):=by unfold AF;rw[←List.sum_append,←List.map_append,List.take_append_drop]
 omega
theorem Su(t:Zi)(a:Zk)(d:Nat)(b:Zl)(left:Int)(w:Zh)(c:Ad w w.heap.size a b)
 (m:t.size<=maxLen) (k:b.length<=maxLen) (l:∀s∈b,s.size<=maxLen) (j:0<=left) (i:left<=1048576):
 Calls prog 118 #[.agg #[.string t,.slice a b.length d],Zg left] w fun e g=>∃r:Int,e=.returned (Zg r)/\Zz w g/\r<=left/\(0<=r->b.length<=1048576/\r<=left -b.length):=by
 by_cases hfit:(t.size:Int)+b.length+aw b<=left
 ·refine(OH t a d b left w c i hfit).mono ?_;rintro e g ⟨rfl,f⟩;exact⟨_,rfl,f,by omega,fun _=>⟨by omega,by omega⟩⟩
 ·refine(Qn t a d b left w c m k l j i (by omega)).mono ?_;rintro e g ⟨rfl,f⟩;exact⟨_,rfl,f,by omega,fun h=>by omega⟩
theorem Ut(k:Kd)(a:Zk)(b:Nat)(left:Int)(w:Zh)(c:Ad w w.heap.size a k.refs)
 (l:k.sum.size<=maxLen) (o:k.text.size<=maxLen) (m:k.refs.length<=maxLen) (n:∀s∈k.refs,s.size<=maxLen) (q:0<=left) (t:left<=1048576):
 Calls prog 59 #[.agg #[.string k.sum,Zg k.born,.string k.text,.slice a k.refs.length b],Zg left] w fun e p=>∃r:Int,e=.returned (Zg r)/\Zz w p/\r<=left/\(0<=r->k.refs.length<=1048576/\r<=left -k.refs.length):=by
 have d:Below w.heap.size w (w.alloc (.cells #[.string k.sum,Zg k.born,.string k.text,.slice a k.refs.length b] 106)):=Zy;have i:=l;unfold maxLen at i;by_cases hn:left<k.sum.size
 ·go_enter func59,ntmps59;go_wp2;go_ret;exact⟨_,rfl,d,by omega,fun h=>by omega⟩
 ·go_enter func59,ntmps59;go_wp2_with fail;refine(Su k.text a b k.refs _ _ (c.af d) o m n (by omega) (by omega)).mono ?_;rintro e v ⟨r,rfl,j,u,g⟩;have f:=d.trans (j.mono (by simp));by_cases h3:r<0
  ·go_wp2;go_ret;exact⟨_,rfl,f,by omega,fun h=>by omega⟩
  ·go_wp2;go_ret;exact⟨_,rfl,f,by omega,fun h=>⟨(g (by omega)).1,by have:=(g (by omega)).2;omega⟩⟩
theorem Sv(a:Zk)(C:Nat)(c:List Kd)(left:Int)(w:Zh)(n:BH w w.heap.size a c)(o:Ns c)(Z:0<=left)(h2:left<=1048576):
 Calls prog 30 #[.slice a c.length C,Zg left] w fun e T=>∃r:Int,e=.returned (Zg r)/\Zz w T/\r<=left/\(0<=r->c.length<=1048576/\(∀k∈c,k.refs.length<=1048576)/\(AF c:Int)<=1048576):=by
 have F:=o.len;unfold maxLen at F;by_cases hn:left<c.length
 ·go_enter func30,ntmps30;go_wp2;go_ret;exact⟨_,rfl,Below.refl _ _,by omega,fun h=>by omega⟩
 ·go_enter func30,ntmps30;go_wp2
  go_loopw [1,5] (fun l i wr=>∃(k:Nat) (L:Int),k<=c.length/\i=Zg k/\l=Zg L/\0<=L/\L<=left -AF (c.take k)/\Zz w wr/\Hid (∀j,j<k->∀x,c[j]?=some x->x.refs.length<=1048576)) (fun _ i _=>c.length -(intOf i).toNat)
  case atStart=>exact⟨0,_,Nat.zero_le _,rfl,rfl,by omega,by simp[AF];omega,Below.refl _ _,fun j h=>by omega⟩
  case round=>
   obtain⟨k,L,hk,rfl,rfl,D,J,d,g⟩:=hrel;by_cases hlt:k<c.length
   ·obtain⟨b,W,K,M,z⟩:=n.at hlt;subst K;have p:=Zv hlt;have f:=List.getElem_mem hlt;obtain⟨X,Y,c2,R,S,c3,q⟩:=(z k _ p).below d M;have O:=o.sum _ f;have P:=o.text _ f;have Q:=o.refs _ f;have B:=o.ref _ f;have I:=Yx p;have V:=It p;clear z n o f p;generalize c[k]=x at *
    have m:=Ut x R S L wr (q.mono d.size) O P Q B D (by omega);have H:=Yx m;clear m B q;go_wp2_with fail;refine Calls.mono H.o ?_;rintro e w1 ⟨r,rfl,E,hr,s⟩;have v:=d.trans (E.mono d.size);by_cases h3:r<0
    ·go_wp2;go_ret;exact⟨_,rfl,v,by omega,fun h=>by omega⟩
    ·have G:Hid (∀j,j<k+1->∀x,c[j]?=some x->x.refs.length<=1048576):=by
      intro j A y t;rcases Nat.lt_or_ge j k with u|u
      ·exact g j u y t
      ·obtain rfl:j=k:=by omega
       rw[I.o]at t;cases t;exact(s (by omega)).1
     have U:=(s (by omega)).2;clear s g;go_wp2;exact⟨⟨k+1,_,by omega,by go_num,rfl,by omega,by omega,v,G⟩,by simp[intOf];omega⟩
   ·go_wp2;go_ret;refine⟨_,rfl,d,by omega,fun _=>⟨by omega,fun x N=> ?_,by rw[Zt (by omega)]at J;omega⟩⟩;obtain⟨j,A,rfl⟩:=List.getElem_of_mem N;exact g j (by omega) _ (Zv A)
theorem Sw(u m given ae:Int)(a p l:Zk)(n s q:Nat)(c:List Kd)(f:List Pd)(d:List Ld)(left:Int)(w:Zh)(b:Bv w w.heap.size a p l c f d)
 (B:Ns c) (D:Nt f) (C:Nu d) (N:0<=left) (O:left<=1048576):
 Calls prog 14 #[.agg (Ys u m given ae a c.length n p f.length s l d.length q),Zg left] w fun e H=>∃r:Int,e=.returned (Zg r)/\Zz w H/\r<=left/\(0<=r->Nw c f d/\AF c<=1048576):=by
 have v:Below w.heap.size w (w.alloc (.cells (Ys u m given ae a c.length n p f.length s l d.length q) 29)):=Zy;have E:=Bg.new w u m given ae (.slice a c.length n) (.slice p f.length s) (.slice l d.length q) 29;go_enter func14,ntmps14;go_wp2_with fail;refine(Sv a n c _ _ (b.af v).k B (by omega) (by omega)).mono ?_;rintro e R ⟨r,rfl,i,P,k⟩;have o:=v.trans (i.mono (by simp))
 obtain⟨_,_,_,_,_,I,x,J⟩:=E.below i;have Q:=i.size;clear i;by_cases h3:r<0
 ·go_wp2;go_ret;exact⟨_,rfl,o,by omega,fun h=>by omega⟩
 ·go_wp2_with fail;refine(Qt p s f _ _ (b.af o).p D (by omega) (by omega)).mono ?_;rintro e S ⟨F,rfl,j,K,z⟩;have g:=o.trans (j.mono o.size);replace x:=(j.cell (p:=⟨w.heap.size,6,none⟩) J).trans x;have M:=j.size;clear j I;by_cases h4:F<0
  ·go_wp2;go_ret;exact⟨_,rfl,g,by omega,fun h=>by omega⟩
  ·go_wp2_with fail;refine(Nv l q d _ _ (b.af g).l C (by omega) (by omega)).mono ?_;rintro e T ⟨G,rfl,y,L,A⟩;have t:=g.trans (y.mono g.size);by_cases h5:G<0
   ·go_wp2;go_ret;exact⟨_,rfl,t,by omega,fun h=>by omega⟩
   ·go_wp2;go_ret;exact⟨_,rfl,t,by omega,fun _=>⟨⟨(k (by omega)).1,(k (by omega)).2.1,z (by omega),A (by omega)⟩,by have:=(k (by omega)).2.2;omega⟩⟩
def BL(w w':Zh):Prop:=∀b o,(w.cell? (Ze b o)).isSome=true->(w'.cell? (Ze b o)).isSome=true/\(w.frozen? ⟨b,o,none⟩=false->w'.frozen? ⟨b,o,none⟩=false)
theorem BL.refl(w:Zh):BL w w:=fun _ _ h=>⟨h,fun h=>h⟩
theorem BL.trans{a b c:Zh}(d:BL a b)(e:BL b c):BL a c:=fun p o h=>⟨(e p o (d p o h).1).1,fun f=>(e p o (d p o h).1).2 ((d p o h).2 f)⟩
theorem BL.bw{w d:Zh}(h:Zz w d):BL w d:=fun b o c=>by obtain⟨v,e⟩:=Option.isSome_iff_exists.1 c;have a:=World.block_lt_of_cell? w ⟨b,o,none⟩ e;rw[h.cell (p:=⟨b,o,none⟩) a,h.frozen (p:=⟨b,o,none⟩) a];exact⟨c,fun h=>h⟩
theorem BL.setCell(w:Zh)(g p:Nat)(v:Value):BL w (w.setCell ⟨g,p,none⟩ v):=fun b o a=>by
 refine⟨?_,fun h=>by simpa [go_sem]using h⟩;by_cases e:(⟨b,o,none⟩:Addr)=⟨g,p,none⟩
 ·rw[←e,World.cell?_setCell_same' _ _ _ a];rfl
 ·rw[World.cell?_setCell_other _ _ _ _ (fun c=>e c.symm)];exact a
def Wr(w:Zh)(q n:Nat):Prop:=∀j,j<n->(w.cell? (Ze q j)).isSome=true/\w.frozen? ⟨q,j,none⟩=false
theorem Wr.alive{w c:Zh}{q n:Nat}(h:Wr w q n)(b:BL w c):Wr c q n:=fun j a=>⟨(b q j (h j a).1).1,(b q j (h j a).1).2 (h j a).2⟩
theorem Wr.at{w:Zh}{q n j:Nat}(h:Wr w q n)(a:j<n):∃v,w.cell? (Ze q j)=some v:=Option.isSome_iff_exists.1 (h j a).1
theorem Wr.own{w:Zh}{base g n a size:Nat}{e:TypeId}{b:Zj}(h:w.ownsRow base e size (Za g n a) n b):Wr w g (n *size):=fun j c=>by have d:=h.1;refine⟨?_,h.frozenAt j⟩;rw[h.cellAt j (by omega),Zv (by omega)];rfl
theorem Je(w:Zh)(g p:Nat)(v:Value):w.grownBy (w.setCell (Ze g p) v) (some g):=
 ⟨rfl,rfl,rfl,by simp,fun i _ a=>Below.heap_setCell _ _ _ _ (fun e=>a (by rw[e]))⟩
theorem Cs(K:Nat)(z:Int)(w:Zh)(c:z=K)(b:1<=K)(a:K<=1000000000):
 Calls prog 113 #[Zg z] w fun e d=>e=.returned (.string (BO K))/\Zz w d:=by
 subst c;exact Fl K w b a
def Mg(w wr:Zh)(g n:Nat):Prop:=Wr wr g n/\w.grownBy wr (some g)/\BL w wr
theorem Mg.new{w:Zh}{g n:Nat}(h:Wr w g n):Mg w w g n:=⟨h,DI _ _,BL.refl _⟩
theorem Mg.below{w wr b:Zh}{g n:Nat}(h:Mg w wr g n)(a:Zz wr b):Mg w b g n:=
 ⟨h.1.alive (BL.bw a),Av h.2.1 (Au _ a),h.2.2.trans (BL.bw a)⟩
theorem Mg.set{w wr:Zh}{g n:Nat}(h:Mg w wr g n)(o:Nat)(v:Value):Mg w (wr.setCell (Ze g o) v) g n:=
 ⟨h.1.alive (BL.setCell _ _ _ _),Av h.2.1 (Je _ _ _ _),h.2.2.trans (BL.setCell _ _ _ _)⟩
structure Jf (w wr:Zh) (lo N g:Nat) (ks:List Kd):Prop where
 row:Wr wr g (ks.length *4)
 cf:Below lo w wr
 al:BL w wr
 cl:∀k,N<=k->k<w.heap.size->wr.heap[k]?=w.heap[k]?
 refs:∀i x,ks[i]?=some x->∃q c,wr.cell? (Ze g (i *4+3))=some (.slice (some ⟨q,0,none⟩) x.refs.length c)/\g<q/\q<N/\Wr wr q x.refs.length
theorem Jf.new{a w:Zh}{lo g:Nat}{f:List Kd}(h:EN a lo g f)(c:Zz a w):Jf w w lo a.heap.size g f:=by obtain⟨n,d,l,_⟩:=h;have k:=(d.lt g rfl).2;refine⟨(Wr.own d).alive (BL.bw c),Below.refl _ _,BL.refl _,fun _ _ _=>rfl,fun i x e=> ?_⟩;have m:=(Zw e).1;obtain⟨_,_,_,q,j,b⟩:=l i x e;refine⟨q,_,(c.cell (p:=⟨g,i *4+3,none⟩) k).trans ((d.cellAt _ (by omega)).trans j),(World.ownsRow.lt b q rfl).1,(World.ownsRow.lt b q rfl).2,?_⟩;have:=(Wr.own b).alive (BL.bw c);rwa[Nat.mul_one]at this
theorem Jf.below{w wr f:Zh}{lo N g:Nat}{e:List Kd}(h:Jf w wr lo N g e)(de:lo<=wr.heap.size)(a:Zz wr f):Jf w f lo N g e:=
 ⟨h.row.alive (BL.bw a),h.cf.trans (a.mono de),h.al.trans (BL.bw a),fun k b d=>(a.block k (Zr d h.cf.size)).trans (h.cl k b d),fun i x m=>by
  obtain⟨q,c,b,d,j,l⟩:=h.refs i x m;exact⟨q,c,(a.cell (p:=⟨g,i *4+3,none⟩) (World.block_lt_of_cell? wr ⟨g,i *4+3,none⟩ b)).trans b,d,j,l.alive (BL.bw a)⟩⟩
theorem Jf.set{w wr:Zh}{lo N g:Nat}{f:List Kd}(h:Jf w wr lo N g f)(de:lo<=g)(o:g<N)(j c:Nat)(r:c<=2)(v:Value):Jf w (wr.setCell (Ze g (j *4+c)) v) lo N g f:=
 ⟨h.row.alive (BL.setCell _ _ _ _),h.cf.setCell (p:=⟨g,j *4+c,none⟩) (by simpa using de) _,h.al.trans (BL.setCell _ _ _ _),fun k b a=>((Je wr g (j *4+c) v).block k (Zr a h.cf.size) (by intro e;cases e;omega)).trans (h.cl k b a),fun i x n=>by
  obtain⟨q,d,b,a,l,m⟩:=h.refs i x n;refine⟨q,d,?_,a,l,m.alive (BL.setCell _ _ _ _)⟩;rw[World.cell?_setCell_other _ _ _ _ (by intro e;injection e;omega)];exact b⟩
theorem Jf.grown{w wr j:Zh}{lo N g q:Nat}{l:List Kd}(h:Jf w wr lo N g l)(de:lo<=wr.heap.size)(f:wr.grownBy j (some q))(c:BL wr j)(u:g<q)(s:q<N)(t:lo<=g):Jf w j lo N g l:=
 ⟨h.row.alive c,h.cf.grown f de (fun k o=>by cases o;omega),h.al.trans c,fun k b a=>(f.block k (Zr a h.cf.size) (by intro e;cases e;omega)).trans (h.cl k b a),fun i x p=>by
  obtain⟨r,d,b,a,m,n⟩:=h.refs i x p;exact⟨r,d,f.cell b (by simp;omega),a,m,n.alive c⟩⟩
def JB(k:Nat)(x:Kd):Kd:=⟨BO k,(k:Int)+1,BO (k+1+1),marks (k+1+1+1) x.refs.length⟩
def Cc:Nat->List Kd->List Kd
 |_,[]=>[]
 |k,x::xs=>JB k x::Cc (k+3+x.refs.length) xs
theorem BJ:∀(k:Nat) (xs:List Kd),(Cc k xs).length=xs.length
 |_,[]=>rfl
 |k,x::xs=>by simp[Cc,BJ _ xs]
theorem KJ(x:Kd)(a:List Kd):AF (x::a)=x.refs.length+AF a:=by simp[AF]
theorem GQ:∀(k:Nat) (xs ys:List Kd),Cc k (xs++ys)=Cc k xs++Cc (k+xs.length *3+AF xs) ys
 |k,[],ys=>by simp[Cc,AF]
 |k,x::xs,ys=>by simp only[List.cons_append,Cc,GQ _ xs ys];congr 3;rw[KJ,List.length_cons];omega
theorem QI{k j:Nat}{a:List Kd}{x:Kd}(e:a[j]?=some x):Cc k (a.take (j+1))++a.drop (j+1)=(Cc k (a.take j)++a.drop j).set j (JB (k+j *3+AF (a.take j)) x):=by
 obtain⟨b,rfl⟩:=Zw e;have d:(Cc k (a.take j)).length=j:=by rw[BJ,List.length_take];omega
 have c:(a.take j).length=j:=by rw[List.length_take];omega
 rw[Zu b,GQ,c,List.set_append_right _ _ (by omega),d,Nat.sub_self,List.drop_eq_getElem_cons b,Zp,List.append_assoc];rfl
structure FG (w:Zh) (base:Nat) (T:Value) (rs:Zj) (ks:List Kd):Prop where
 len:rs.length=ks.length
 ai:w.ownsRow base 131 4 T ks.length (Ab kC (ks.zip rs))
 refs:∀(i:Nat) (k:Kd) (r:Value),ks[i]?=some k->rs[i]?=some r->w.ownsRow base 9 1 r k.refs.length (k.refs.map Value.string)
 nd:(T.ownBlock.toList++rs.filterMap Value.ownBlock).Nodup
theorem Sx{f:Value->Option Nat}:∀{rs:Zj},(rs.filterMap f).Nodup->∀{i j:Nat} {a b:Value} {g:Nat},rs[i]?=some a->rs[j]?=some b->f a=some g->f b=some g->i=j
 |[],_,i,_,_,_,_,h,_,_,_=>by simp at h
 |r::rs,h,0,0,_,_,_,_,_,_,_=>rfl
 |r::rs,h,0,j+1,a,b,g,ha,hb,hfa,hfb=>by simp at ha hb;subst ha;rw[List.filterMap_cons_some hfa]at h;exact absurd (List.mem_filterMap.2 ⟨b,Zs hb,hfb⟩) (List.nodup_cons.1 h).1
 |r::rs,h,i+1,0,a,b,g,ha,hb,hfa,hfb=>by simp at ha hb;subst hb;rw[List.filterMap_cons_some hfb]at h;exact absurd (List.mem_filterMap.2 ⟨a,Zs ha,hfa⟩) (List.nodup_cons.1 h).1
 |r::rs,h,i+1,j+1,a,b,g,ha,hb,hfa,hfb=>by
  simp at ha hb;have:(rs.filterMap f).Nodup:=by
   cases hr:f r with
   |none=>rw[List.filterMap_cons_none hr]at h;exact h
   |some q=>rw[List.filterMap_cons_some hr]at h;exact(List.nodup_cons.1 h).2
  rw[Sx this ha hb hfa hfb]
theorem NP:∀{zs:List (Kd×Value)} {i:Nat} {x:Kd} {r:Value},zs[i]?=some (x,r)->∀y:Kd,(((Ab kC zs).set (i *4) (.string y.sum)).set (i *4+1) (Zg y.born)).set (i *4+2) (.string y.text)=Ab kC (zs.set i (y,r))
 |[],i,_,_,h,_=>by simp at h
 |z::zs,0,x,r,h,y=>by simp at h;subst h;simp[Ab,kC]
 |z::zs,i+1,x,r,h,y=>by
  have b:zs[i]?=some (x,r):=by simpa using h
  have c:=NP b y;have e:Ab kC (z::zs)=kC z++Ab kC zs:=by simp[Ab]
  have a:Ab kC ((z::zs).set (i+1) (y,r))=kC z++Ab kC (zs.set i (y,r)):=by simp[Ab]
  rw[e,a,←c,show(i+1) *4=(kC z).length+i *4 by rw[DX];omega];rw[List.set_append_right _ _ (by omega),Nat.add_sub_cancel_left,show(kC z).length+i *4+1=(kC z).length+(i *4+1) by omega,List.set_append_right _ _ (by omega),Nat.add_sub_cancel_left,show(kC z).length+i *4+2=(kC z).length+(i *4+2) by omega,List.set_append_right _ _ (by omega),Nat.add_sub_cancel_left]
theorem Wi{a:List Kd}{b:Zj}{j:Nat}{y:Kd}{r:Value}(c:b[j]?=some r):(a.set j y).zip b=(a.zip b).set j (y,r):=by
 apply List.ext_getElem?;intro i;by_cases hij:i=j
 ·subst hij;rcases Nat.lt_or_ge i a.length with h|h
  ·have d:=(Zw c).1;rw[(List.getElem?_zip_eq_some (z:=(y,r))).2 ⟨List.getElem?_set_self h,c⟩,List.getElem?_set_self (by rw[List.length_zip];omega)]
  ·rw[List.getElem?_eq_none (by rw[List.length_zip,List.length_set];omega),List.getElem?_eq_none (by rw[List.length_set,List.length_zip];omega)]
 ·rw[List.getElem?_set_ne (fun e=>hij e.symm),List.zip_eq_zipWith,List.zip_eq_zipWith,List.getElem?_zipWith,List.getElem?_zipWith,List.getElem?_set_ne (fun e=>hij e.symm)]
theorem Sy(base g A k:Nat)(o:Zj)(a:List Kd)(w:Zh)(h:FG w base (Za g a.length A) o a)(hk:1<=k)(zS:k+a.length *3+AF a<=100000000):
 Calls prog 53 #[Za g a.length A,Zg k] w fun e w'=>e=.returned (Zg (k+a.length *3+AF a:Nat))/\FG w' base (Za g a.length A) o (Cc k a)/\Tn (g::o.filterMap Value.ownBlock) w w':=by
 have H0:=Yx h;clear h;go_enter func53,ntmps53;go_wp2
 go_loopw [1,5] (fun v i wr=>∃(j K:Nat),j<=a.length/\i=Zg j/\v=Zg K/\Hid (K=k+j *3+AF (a.take j))/\Hid (FG wr base (Za g a.length A) o (Cc k (a.take j)++a.drop j)/\Tn (g::o.filterMap Value.ownBlock) w wr)) (fun _ i _=>a.length -(intOf i).toNat)
 case atStart=>exact⟨0,k,Nat.zero_le _,rfl,rfl,(show k=_ by simp[AF]),⟨by simpa [Cc]using H0.o,Tn.of (Below.refl _ _)⟩⟩
 case round=>
  clear H0;obtain⟨j,K,hj,rfl,rfl,HK,T⟩:=hrel;have zK:=Gr a j;by_cases hlt:j<a.length
  ·have zN:(j:Int)<a.length:=by omega
   have X:=Zv hlt;have S:=It X;have t:=Gr a (j+1);have HS:=Yx (QI (k:=k) X);have O:(Cc k (a.take j)++a.drop j)[j]?=some a[j]:=by rw[List.getElem?_append_right (by rw[BJ,List.length_take];omega),BJ,List.length_take,List.getElem?_drop];rw[show j+(j -min j a.length)=j by omega];exact X
   have p:(Cc k (a.take j)++a.drop j).length=a.length:=by rw[List.length_append,BJ,List.length_take,List.length_drop];omega
   generalize hLe:Cc k (a.take j)++a.drop j=Lj at *
   have m:=HK.o;generalize a[j]=x at *
   obtain⟨l,U⟩:=T.o;have R:=l.len.trans p;obtain⟨r,c⟩:∃r,o[j]?=some r:=⟨o[j]'(by omega),Zv (by omega)⟩;have Q:=l.refs j x r O c;obtain⟨L,M,rfl⟩:=As Q;have G:=l.ai;rw[p]at G;have zC:=(List.getElem?_zip_eq_some (z:=(x,Value.slice L x.refs.length M))).2 ⟨O,c⟩;have s:=G.1;have E:∀b,(Value.slice L x.refs.length M).ownBlock=some b->b≠g:=fun b I e=>by have:=l.nd;simp only[Value.ownBlock,Option.toList_some,List.cons_append,List.nil_append,List.nodup_cons]at this;exact this.1 (e▸List.mem_filterMap.2 ⟨_,Zs c,I⟩)
   have zI:=Yx G;have zH:=Yx Q;have zF:=Yx (Zn l U);have HZ:=Yx zC;have zP:1<=K:=by omega
   have zR:K+3+x.refs.length<=100000000:=by omega
   have HX:Hid (j *4+4<=(Ab kC (Lj.zip o)).length):=by show _<=_;omega
   have zO:=Yx hLe;have zE:=Yx m;have HN:=Yx (Zn S (Zn t p));have HR:=Yx (Zn c R);clear l U G Q X T zC O hLe m S t p c R s zK;go_wp2_with fail;refine(Cs K _ _ rfl (by omega) (by omega)).mono ?_;rintro e Y ⟨rfl,C⟩;have n:=Ae zI.o C;have s:=HX.o;have c2:∃v,Y.cell? (Ze g (j *4))=some v:=⟨_,(n.cellAt (j *4) (by omega)).trans (Zv (by omega))⟩;obtain⟨v2,c2⟩:=c2
   have c3:∃v,Y.cell? (Ze g (j *4+1))=some v:=⟨_,(n.cellAt (j *4+1) (by omega)).trans (Zv (by omega))⟩;obtain⟨v3,c3⟩:=c3;have ff:=n.frozenAt;have f2:=ff (j *4);have f3:=ff (j *4+1);have W:=((n.stored (j *4) (.string (BO K))).1.stored (j *4+1) (Zg ((K:Int)+1))).1;have zA:=Yx (Bk (Bk (Ae zH.o C) E (j *4) (.string (BO K))) E (j *4+1) (Zg ((K:Int)+1)))
   have T3:Hid (Tn [g] wr ((Y.setCell (Ze g (j *4)) (.string (BO K))).setCell (Ze g (j *4+1)) (Zg ((K:Int)+1)))):=((Tn.of C).trans (Tn.set Y g _ _ (by simp))).trans (Tn.set _ g _ _ (by simp));have H3:=Yx W;clear n W C ff s;go_wp2_with fail;refine(Cs (K+1+1) _ _ (by omega) (by omega) (by omega)).mono ?_;rintro e N ⟨rfl,D⟩;have H:=Ae H3.o D;have s:=HX.o
   have zM:j *4+4<=((((Ab kC (Lj.zip o)).set (j *4) (.string (BO K))).set (j *4+1) (Zg ((K:Int)+1)))).length:=by simpa using s
   have c4:∃v,N.cell? (Ze g (j *4+2))=some v:=⟨_,(H.cellAt (j *4+2) (by omega)).trans (Zv (by omega))⟩;obtain⟨v4,c4⟩:=c4;have f4:=H.frozenAt (j *4+2);have c5:N.cell? (Ze g (j *4+3))=some (.slice L x.refs.length M):=by rw[H.cellAt (j *4+3) (by omega),List.getElem?_set_ne (by omega),List.getElem?_set_ne (by omega)];exact Bp DX HZ.o (show 3<4 by decide)
   have h5:=(H.stored (j *4+2) (.string (BO (K+1+1)))).1;rw[NP HZ.o ⟨BO K,(K:Int)+1,BO (K+1+1),marks (K+1+1+1) x.refs.length⟩]at h5;have zG:=Yx (Bk (Ae zA.o D) E (j *4+2) (.string (BO (K+1+1))));have u:Hid (Tn [g] wr (N.setCell (Ze g (j *4+2)) (.string (BO (K+1+1))))):=(T3.o.trans (Tn.of D)).trans (Tn.set N g _ _ (by simp));have H5:=Yx h5;clear H h5 D c2 f2 c3 f3 zA T3 H3 s zM
   have f:=RZ L x.refs.length M (K+1+1+1) base _ (N.setCell (Ze g (j *4+2)) (.string (BO (K+1+1)))) zG.o (by omega) (by omega);rw[show((K+1+1+1:Nat):Int)=(K:Int)+1+1+1 from by omega]at f;have HC:=Yx f;clear f;go_wp2_with fail;refine Calls.mono HC.o ?_;rintro e w6 ⟨rfl,F,d⟩;have HF:=Yx (Zn F d);clear F d HC c4 f4 c5;go_wp2;obtain⟨S,t,p⟩:=HN.o;obtain⟨c,R⟩:=HR.o;have m:=zE.o;obtain⟨l,U⟩:=zF.o
   obtain⟨F,d⟩:=HF.o;have P:=l.nd;simp only[Value.ownBlock,Option.toList_some,List.cons_append,List.nil_append,List.nodup_cons]at P;have zB:∀b,b<wr.heap.size->b≠g->(Value.slice L x.refs.length M).ownBlock≠some b->w6.heap[b]?=wr.heap[b]?:=fun b V n W=>(d.block b (Zr V u.o.size) (fun e=>W e.symm)).trans (u.o.block b V (by simpa using n));have zJ:Tn (g::o.filterMap Value.ownBlock) wr w6:=by
    refine⟨d.os.trans u.o.os,d.tape.trans u.o.tape,d.output.trans u.o.output,Zm u.o.size d.size,fun b V n=> ?_⟩;refine zB b V (fun e=>n (by simp[e])) (fun e=>n (List.mem_cons_of_mem _ (List.mem_filterMap.2 ⟨_,Zs c,e⟩)))
   refine⟨⟨j+1,K+1+1+1+x.refs.length,by omega,by go_num,by go_num,?_,?_,U.trans zJ⟩,by simp[intOf];omega⟩
   ·show _=_;omega
   ·rw[HS.o,←m];refine⟨by rw[List.length_set];omega,?_,?_,l.nd⟩
    ·rw[List.length_set,p,Wi c];exact World.ownsRow.kept H5.o d (.inr (fun e=>E g e.symm rfl))
    ·intro i y r' J q;by_cases hij:i=j
     ·subst hij;rw[c]at q;cases q;rw[List.getElem?_set_self (by omega)]at J;cases J;show w6.ownsRow base 9 1 _ (marks (K+1+1+1) x.refs.length).length _;rw[BG];exact F
     ·rw[List.getElem?_set_ne (fun e=>hij e.symm)]at J;refine Ai (l.refs i y r' J q) (fun b I=>zB b (Ac (l.refs i y r' J q) I).2 (fun e=>P.1 (e▸List.mem_filterMap.2 ⟨_,Zs q,I⟩)) (fun e=>hij (Sx P.2 q c I e)))
  ·obtain rfl:j=a.length:=by omega
   have m:=HK.o;have B:=T.o;rw[Zt (Zx)]at m B;rw[List.drop_of_length_le (Zx),List.append_nil]at B;have Z:=Yx B;clear B T;subst m;go_wp2;go_ret;exact⟨rfl,Z.o.1,Z.o.2⟩
theorem Sz{k j:Nat}{a:List Kd}{x:Kd}(f:a[j]?=some x):(Cc k a)[j]?=some (JB (k+j *3+AF (a.take j)) x):=by
 obtain⟨c,rfl⟩:=Zw f;have d:=(List.take_append_drop j a).symm;have e:(Cc k (a.take j)).length=j:=by rw[BJ,List.length_take];omega
 have b:(a.take j).length=j:=by rw[List.length_take];omega
 conv=>lhs;rw[d,GQ,b,List.drop_eq_getElem_cons c]
 rw[List.getElem?_append_right (by omega),e,Nat.sub_self];rfl
theorem SA(base g L k:Nat)(C:Zj)(a:List Kd)(w:Zh)(h:FG w base (Za g a.length L) C (Cc k a))(hk:1<=k)(zO:k+a.length *3+AF a<=100000000):
 Calls prog 115 #[Za g a.length L,Zg k] w fun e D=>e=.returned (Zg (k+a.length *3+AF a:Nat))/\Zz w D:=by
 have O:=Yx h;have s:g<w.heap.size:=(Ac h.ai rfl).2;clear h;go_enter func115,ntmps115;go_wp2
 go_loopw [1,5] (fun v i wr=>∃(j K:Nat),j<=a.length/\i=Zg j/\v=Zg K/\Hid (K=k+j *3+AF (a.take j))/\Zz w wr) (fun _ i _=>a.length -(intOf i).toNat)
 case atStart=>exact⟨0,k,Nat.zero_le _,rfl,rfl,(show k=_ by simp[AF]),Below.refl _ _⟩
 case round=>
  obtain⟨j,K,hj,rfl,rfl,R,c⟩:=hrel;have zC:=Gr a j;have zH:=c.size;by_cases hlt:j<a.length
  ·have zJ:(j:Int)<a.length:=by omega
   have Q:a[j]?=some a[j]:=Zv hlt;have N:=It Q;have G:=Gr a (j+1);have o:=Sz (k:=k) Q;have f:=R.o;rw[←f]at o;generalize a[j]=x at *
   have zB:C.length=a.length:=O.o.len.trans (BJ k a);obtain⟨r,F⟩:∃r,C[j]?=some r:=⟨C[j]'(by omega),Zv (by omega)⟩;have t:=O.o.refs j _ r o F;have M:(JB K x).refs.length=x.refs.length:=BG _ _;rw[M]at t;obtain⟨y,B,rfl⟩:=As t;have d:=O.o.ai;rw[BJ]at d
   have l:((Cc k a).zip C)[j]?=some (JB K x,Value.slice y x.refs.length B):=(List.getElem?_zip_eq_some (z:=(JB K x,Value.slice y x.refs.length B))).2 ⟨o,F⟩;have zE:=d.1;have T:w.cell? (Ze g (j *4))=some (.string (BO K)):=(d.cellAt (j *4) (by omega)).trans (Bp DX l (show 0<4 by decide))
   have U:w.cell? (Ze g (j *4+1))=some (Zg ((K:Int)+1)):=(d.cellAt (j *4+1) (by omega)).trans (Bp DX l (show 1<4 by decide));have c2:w.cell? (Ze g (j *4+2))=some (.string (BO (K+1+1))):=(d.cellAt (j *4+2) (by omega)).trans (Bp DX l (show 2<4 by decide));have c3:w.cell? (Ze g (j *4+3))=some (.slice y x.refs.length B):=(d.cellAt (j *4+3) (by omega)).trans (Bp DX l (show 3<4 by decide))
   have HR:Hid (Ad w w.heap.size y (marks (K+1+1+1) x.refs.length)):=by
    have V:w.ownsRow base 9 1 (.slice y (marks (K+1+1+1) x.refs.length).length B) (marks (K+1+1+1) x.refs.length).length ((marks (K+1+1+1) x.refs.length).map Value.string):=by rw[BG];exact t
    rcases V.2 with⟨W,h0⟩|⟨q,zI,zK,W,_⟩
    ·exact .inl (List.eq_nil_of_length_eq_zero h0)
    ·cases W;exact Ad.own V
   have zM:1<=K:=by omega
   have zN:K+3+x.refs.length<=100000000:=by omega
   have HN:=Yx (Zn N f);clear d t Q l o f N G F zB zE zC M;have X:=(c.cell (p:=⟨g,j *4,none⟩) s).trans T;have q0:=AB.cell X (show g<wr.heap.size by omega);have E:=AB.ne wr;have H:Hid (∀m:AB wr,Calls prog 113 #[Zg K] m.w fun e D=>e=.returned (.string (BO K))/\Below m.w.heap.size m.w D):=fun m=>Cs K _ m.w rfl (by omega) (by omega);have P:=Yx (Zn U (Zn c2 c3));clear T U c2 c3 X;go_wp2
   refine AI (by kernel_rfl) (by kernel_rfl) ?_
   repeat (go_big_quiet_step (exact AB.calls (H.o _)))
   refine wpQuiet_nil ?_;intro m;have A:Below w.heap.size w m.w:=c.trans (m.h.mono zH);have y1:=(A.cell (p:=⟨g,j *4+1,none⟩) s).trans P.o.1;have Y:=(A.cell (p:=⟨g,j *4+2,none⟩) s).trans P.o.2.1;have Z:=(A.cell (p:=⟨g,j *4+3,none⟩) s).trans P.o.2.2;have zG:=A.size;generalize m.w=wm at *
   clear q0 E H m;have q2:=AB.cell Y (show g<wm.heap.size by omega);have E:=AB.ne wm;have I:Hid (∀m:AB wm,Calls prog 113 #[Zg ((K:Int)+1+1)] m.w fun e D=>e=.returned (.string (BO (K+1+1)))/\Below m.w.heap.size m.w D):=fun m=>Cs (K+1+1) _ m.w (by omega) (by omega) (by omega);have J:=Yx Z;clear Y Z;go_wp2;refine AI (by kernel_rfl) (by kernel_rfl) ?_
   repeat (go_big_quiet_step (exact AB.calls (I.o _)))
   refine wpQuiet_nil ?_;intro u;have n:Below w.heap.size w u.w:=A.trans (u.h.mono zG);have z3:=(u.h.cell (p:=⟨g,j *4+3,none⟩) (show g<wm.heap.size by omega)).trans J.o;have b:=FZ y x.refs.length B (K+1+1+1) w.heap.size u.w (Ad.below HR.o n) n.size (by omega) (by omega);rw[show((K+1+1+1:Nat):Int)=(K:Int)+1+1+1 from by omega]at b;have S:=Yx b;have zF:=n.size;generalize u.w=w2 at *
   clear q2 E I u b y1 J;go_wp2_with fail;refine Calls.mono S.o ?_;rintro e w3 ⟨rfl,zA⟩;clear z3 S;go_wp2;exact⟨⟨j+1,K+1+1+1+x.refs.length,by omega,by go_num,by go_num,(by have:=HN.o;show _=_;omega),n.trans (zA.mono zF)⟩,by simp[intOf];omega⟩
  ·obtain rfl:j=a.length:=by omega
   have f:=R.o;rw[Zt (Zx)]at f;subst f;go_wp2;go_ret;exact⟨rfl,c⟩
def DL(k:Nat)(ps:List Pd):List Pd:=(List.range ps.length).map fun i=>⟨BO (k+i *2),BO (k+i *2+1)⟩
def DM(k:Nat)(ls:List Ld):List Ld:=(List.range ls.length).map fun(i:Nat)=>⟨(k:Int)+(i:Int) *3,BO (k+i *3+1),(k:Int)+(i:Int) *3+1+1⟩
theorem Eo(k:Nat)(a:List Pd):(DL k a).length=a.length:=by simp[DL]
theorem Fp(k:Nat)(a:List Ld):(DM k a).length=a.length:=by simp[DM]
theorem Mh{k i:Nat}{a:List Pd}(h:i<a.length):(DL k a)[i]?=some ⟨BO (k+i *2),BO (k+i *2+1)⟩:=by simp[DL,h]
theorem Mi{k i:Nat}{a:List Ld}(h:i<a.length):(DM k a)[i]?=some ⟨(k:Int)+(i:Int) *3,BO (k+i *3+1),(k:Int)+(i:Int) *3+1+1⟩:=by simp[DM,h]
theorem Ki:∀{zs:List Pd} {i:Nat},i<zs.length->∀y:Pd,((Ab pC zs).set (i *2) (.string y.name)).set (i *2+1) (.string y.sum)=Ab pC (zs.set i y)
 |[],i,h,_=>by simp at h
 |z::zs,0,h,y=>by simp[Ab,pC]
 |z::zs,i+1,h,y=>by
  have b:=Ki (zs:=zs) (i:=i) (by simpa using h) y;have e:Ab pC (z::zs)=pC z++Ab pC zs:=by simp[Ab]
  have a:Ab pC ((z::zs).set (i+1) y)=pC z++Ab pC (zs.set i y):=by simp[Ab]
  rw[e,a,←b,show(i+1) *2=(pC z).length+i *2 by rw[BI];omega];rw[List.set_append_right _ _ (by omega),Nat.add_sub_cancel_left,show(pC z).length+i *2+1=(pC z).length+(i *2+1) by omega,List.set_append_right _ _ (by omega),Nat.add_sub_cancel_left]
theorem Kj:∀{zs:List Ld} {i:Nat},i<zs.length->∀y:Ld,(((Ab lC zs).set (i *3) (Zg y.num)).set (i *3+1) (.string y.sum)).set (i *3+2) (Zg y.bf)=Ab lC (zs.set i y)
 |[],i,h,_=>by simp at h
 |z::zs,0,h,y=>by simp[Ab,lC]
 |z::zs,i+1,h,y=>by
  have b:=Kj (zs:=zs) (i:=i) (by simpa using h) y;have e:Ab lC (z::zs)=lC z++Ab lC zs:=by simp[Ab]
  have a:Ab lC ((z::zs).set (i+1) y)=lC z++Ab lC (zs.set i y):=by simp[Ab]
  rw[e,a,←b,show(i+1) *3=(lC z).length+i *3 by rw[Co];omega];rw[List.set_append_right _ _ (by omega),Nat.add_sub_cancel_left,show(lC z).length+i *3+1=(lC z).length+(i *3+1) by omega,List.set_append_right _ _ (by omega),Nat.add_sub_cancel_left,show(lC z).length+i *3+2=(lC z).length+(i *3+2) by omega,List.set_append_right _ _ (by omega),Nat.add_sub_cancel_left]
theorem Lw(a:Zk)(b k:Nat)(w:Zh):Calls prog 53 #[.slice a 0 b,Zg k] w fun e c=>e=.returned (Zg k)/\c=w:=by
 go_enter func53,ntmps53;go_wp2
 go_loopw [1,5] (fun v i wr=>v=Zg k/\i=Zg 0/\wr=w) (fun _ _ _=>0)
 case atStart=>exact⟨rfl,rfl,rfl⟩
 case round=>
  obtain⟨rfl,rfl,rfl⟩:=hrel;go_wp2;go_ret;exact⟨rfl,rfl⟩
theorem Lx(a:Zk)(b k:Nat)(w:Zh):Calls prog 115 #[.slice a 0 b,Zg k] w fun e c=>e=.returned (Zg k)/\c=w:=by
 go_enter func115,ntmps115;go_wp2
 go_loopw [1,5] (fun v i wr=>v=Zg k/\i=Zg 0/\wr=w) (fun _ _ _=>0)
 case atStart=>exact⟨rfl,rfl,rfl⟩
 case round=>
  obtain⟨rfl,rfl,rfl⟩:=hrel;go_wp2;go_ret;exact⟨rfl,rfl⟩
theorem MG(a:Zk)(b k:Nat)(w:Zh):Calls prog 54 #[.slice a 0 b,Zg k] w fun e c=>e=.returned (Zg k)/\c=w:=by
 go_enter func54,ntmps54;go_wp2
 go_loopw [1,5] (fun v i wr=>v=Zg k/\i=Zg 0/\wr=w) (fun _ _ _=>0)
 case atStart=>exact⟨rfl,rfl,rfl⟩
 case round=>
  obtain⟨rfl,rfl,rfl⟩:=hrel;go_wp2;go_ret;exact⟨rfl,rfl⟩
theorem MH(a:Zk)(b k:Nat)(w:Zh):Calls prog 116 #[.slice a 0 b,Zg k] w fun e c=>e=.returned (Zg k)/\c=w:=by
 go_enter func116,ntmps116;go_wp2
 go_loopw [1,5] (fun v i wr=>v=Zg k/\i=Zg 0/\wr=w) (fun _ _ _=>0)
 case atStart=>exact⟨rfl,rfl,rfl⟩
 case round=>
  obtain⟨rfl,rfl,rfl⟩:=hrel;go_wp2;go_ret;exact⟨rfl,rfl⟩
theorem KK(a:Zk)(b k:Nat)(w:Zh):Calls prog 55 #[.slice a 0 b,Zg k] w fun e c=>e=.returned (Zg k)/\c=w:=by
 go_enter func55,ntmps55;go_wp2
 go_loopw [1,5] (fun v i wr=>v=Zg k/\i=Zg 0/\wr=w) (fun _ _ _=>0)
 case atStart=>exact⟨rfl,rfl,rfl⟩
 case round=>
  obtain⟨rfl,rfl,rfl⟩:=hrel;go_wp2;go_ret;exact⟨rfl,rfl⟩
theorem KL(a:Zk)(b k:Nat)(w:Zh):Calls prog 117 #[.slice a 0 b,Zg k] w fun e c=>e=.returned (Zg k)/\c=w:=by
 go_enter func117,ntmps117;go_wp2
 go_loopw [1,5] (fun v i wr=>v=Zg k/\i=Zg 0/\wr=w) (fun _ _ _=>0)
 case atStart=>exact⟨rfl,rfl,rfl⟩
 case round=>
  obtain⟨rfl,rfl,rfl⟩:=hrel;go_wp2;go_ret;exact⟨rfl,rfl⟩
theorem Uu(base g d k:Nat)(a:List Pd)(w:Zh)(h:w.ownsRow base 137 2 (Za g a.length d) a.length (Ab pC a))(T:1<=k)(P:k+a.length *2<=100000000):
 Calls prog 54 #[Za g a.length d,Zg k] w fun e A=>e=.returned (Zg (k+a.length *2:Nat))/\A.ownsRow base 137 2 (Za g a.length d) a.length (Ab pC (DL k a))/\w.grownBy A (some g):=by
 have s:=Yx h;clear h;go_enter func54,ntmps54;go_wp2
 go_loopw [1,5] (fun v i wr=>∃(j K:Nat) (c:List Pd),j<=a.length/\i=Zg j/\v=Zg K/\K=k+j *2/\Hid (c.length=a.length/\(∀i,i<j->c[i]?=(DL k a)[i]?)/\wr.ownsRow base 137 2 (Za g a.length d) a.length (Ab pC c)/\w.grownBy wr (some g))) (fun _ i _=>a.length -(intOf i).toNat)
 case atStart=>exact⟨0,k,a,Nat.zero_le _,rfl,rfl,by omega,rfl,(fun i h=>by omega),s.o,DI _ _⟩
 case round=>
  clear s;obtain⟨j,K,c,S,rfl,rfl,r,b⟩:=hrel;by_cases hlt:j<a.length
  ·have H:(j:Int)<a.length:=by omega
   have x:Hid (j *2+2<=(Ab pC c).length):=by show _<=_;have:=b.o.2.2.1.1;omega
   have p:=Yx r;have N:1<=K:=by omega
   have O:K+2<=100000000:=by omega
   clear r;go_wp2_with fail;refine(Cs K _ _ rfl (by omega) (by omega)).mono ?_;rintro e J ⟨rfl,n⟩;have f:=x.o;have l:=Ae b.o.2.2.1 n;obtain⟨U,c2⟩:∃v,J.cell? (Ze g (j *2))=some v:=⟨_,(l.cellAt (j *2) (by omega)).trans (Zv (by omega))⟩;have I:=l.frozenAt (j *2);have t:=Yx (Zn (l.stored (j *2) (.string (BO K))).1 (Av b.o.2.2.2 (Av (Au _ n) (l.stored (j *2) (.string (BO K))).2)));clear l n f
   go_wp2_with fail;refine(Cs (K+1) _ _ (by omega) (by omega) (by omega)).mono ?_;rintro e L ⟨rfl,o⟩;have f:=x.o;have m:=Ae t.o.1 o;have E:j *2+2<=((Ab pC c).set (j *2) (.string (BO K))).length:=by simpa using f
   obtain⟨V,c3⟩:∃v,L.cell? (Ze g (j *2+1))=some v:=⟨_,(m.cellAt (j *2+1) (by omega)).trans (Zv (by omega))⟩;have Q:=m.frozenAt (j *2+1);have G:=b.o.1;have q:=(m.stored (j *2+1) (.string (BO (K+1)))).1;rw[Ki (by omega) ⟨BO K,BO (K+1)⟩]at q;have u:=Yx (Zn q (Av t.o.2 (Av (Au _ o) (m.stored (j *2+1) (.string (BO (K+1)))).2)));clear m q o c2 I f E G;go_wp2
   refine⟨⟨j+1,K+1+1,c.set j ⟨BO K,BO (K+1)⟩,by omega,by go_num,by go_num,by have:=p.o;omega,by rw[List.length_set];exact b.o.1,?_,u.o.1,u.o.2⟩,by simp[intOf];omega⟩;intro i R;rcases Nat.lt_or_ge i j with z|z
   ·rw[List.getElem?_set_ne (by omega)];exact b.o.2.1 i z
   ·obtain rfl:i=j:=by omega
    rw[List.getElem?_set_self (by have:=b.o.1;omega),Mh hlt,←p.o]
  ·obtain rfl:j=a.length:=by omega
   subst r;obtain⟨M,B,C,D⟩:=b.o;have F:c=DL k a:=by
    apply List.ext_getElem?;intro i;rcases Nat.lt_or_ge i a.length with h|h
    ·exact B i h
    ·rw[List.getElem?_eq_none (by omega),List.getElem?_eq_none (by rw[Eo];omega)]
   subst F;have y:=Yx (Zn C D);clear M B C D b;go_wp2;go_ret;exact⟨rfl,y.o.1,y.o.2⟩
theorem QJ(base g d k:Nat)(a:List Ld)(w:Zh)(h:w.ownsRow base 139 3 (Za g a.length d) a.length (Ab lC a))(U:1<=k)(P:k+a.length *3<=100000000):
 Calls prog 55 #[Za g a.length d,Zg k] w fun e B=>e=.returned (Zg (k+a.length *3:Nat))/\B.ownsRow base 139 3 (Za g a.length d) a.length (Ab lC (DM k a))/\w.grownBy B (some g):=by
 have t:=Yx h;clear h;go_enter func55,ntmps55;go_wp2
 go_loopw [1,5] (fun v i wr=>∃(j K:Nat) (c:List Ld),j<=a.length/\i=Zg j/\v=Zg K/\K=k+j *3/\Hid (c.length=a.length/\(∀i,i<j->c[i]?=(DM k a)[i]?)/\wr.ownsRow base 139 3 (Za g a.length d) a.length (Ab lC c)/\w.grownBy wr (some g))) (fun _ i _=>a.length -(intOf i).toNat)
 case atStart=>exact⟨0,k,a,Nat.zero_le _,rfl,rfl,by omega,rfl,(fun i h=>by omega),t.o,DI _ _⟩
 case round=>
  clear t;obtain⟨j,K,c,T,rfl,rfl,q,b⟩:=hrel;by_cases hlt:j<a.length
  ·have J:(j:Int)<a.length:=by omega
   have y:Hid (j *3+3<=(Ab lC c).length):=by show _<=_;have:=b.o.2.2.1.1;omega
   have o:=Yx q;have N:1<=K:=by omega
   have O:K+3<=100000000:=by omega
   clear q;have l:=y.o;have m:=b.o.2.2.1;obtain⟨V,c2⟩:∃v,wr.cell? (Ze g (j *3))=some v:=⟨_,(m.cellAt (j *3) (by omega)).trans (Zv (by omega))⟩;have L:=m.frozenAt (j *3);have u:=Yx (Zn (m.stored (j *3) (Zg K)).1 (Av b.o.2.2.2 (m.stored (j *3) (Zg K)).2));clear m l;go_wp2_with fail;refine(Cs (K+1) _ _ (by omega) (by omega) (by omega)).mono ?_;rintro e C ⟨rfl,n⟩;have l:=y.o;have f:=Ae u.o.1 n
   have G:j *3+3<=((Ab lC c).set (j *3) (Zg K)).length:=by simpa using l
   obtain⟨W,c3⟩:∃v,C.cell? (Ze g (j *3+1))=some v:=⟨_,(f.cellAt (j *3+1) (by omega)).trans (Zv (by omega))⟩;have Q:=f.frozenAt (j *3+1);obtain⟨X,c4⟩:∃v,C.cell? (Ze g (j *3+2))=some v:=⟨_,(f.cellAt (j *3+2) (by omega)).trans (Zv (by omega))⟩;have R:=f.frozenAt (j *3+2);have I:=b.o.1;have r:=f.stored (j *3+1) (.string (BO (K+1)));have s:=r.1.stored (j *3+2) (Zg ((K:Int)+1+1));have p:=s.1
   rw[Kj (by omega) ⟨K,BO (K+1),(K:Int)+1+1⟩]at p;have x:=Yx (Zn p (Av u.o.2 (Av (Au _ n) (Av r.2 s.2))));clear f p r s n c2 L l G I;go_wp2;refine⟨⟨j+1,K+1+1+1,c.set j ⟨K,BO (K+1),(K:Int)+1+1⟩,by omega,by go_num,by go_num,by have:=o.o;omega,by rw[List.length_set];exact b.o.1,?_,x.o.1,x.o.2⟩,by simp[intOf];omega⟩;intro i S;rcases Nat.lt_or_ge i j with A|A
   ·rw[List.getElem?_set_ne (by omega)];exact b.o.2.1 i A
   ·obtain rfl:i=j:=by omega
    rw[List.getElem?_set_self (by have:=b.o.1;omega),Mi hlt,o.o];simp
  ·obtain rfl:j=a.length:=by omega
   subst q;obtain⟨M,D,E,F⟩:=b.o;have H:c=DM k a:=by
    apply List.ext_getElem?;intro i;rcases Nat.lt_or_ge i a.length with h|h
    ·exact D i h
    ·rw[List.getElem?_eq_none (by omega),List.getElem?_eq_none (by rw[Fp];omega)]
   subst H;have z:=Yx (Zn E F);clear M D E F b;go_wp2;go_ret;exact⟨rfl,z.o.1,z.o.2⟩
theorem Uv(base g f k:Nat)(a:List Pd)(w:Zh)(h:w.ownsRow base 137 2 (Za g a.length f) a.length (Ab pC (DL k a)))(Q:1<=k)(O:k+a.length *2<=100000000):
 Calls prog 116 #[Za g a.length f,Zg k] w fun e d=>e=.returned (Zg (k+a.length *2:Nat))/\Zz w d:=by
 have G:=Yx h;have s:=(Ac h rfl).2;clear h;go_enter func116,ntmps116;go_wp2
 go_loopw [1,5] (fun v i wr=>∃(j K:Nat),j<=a.length/\i=Zg j/\v=Zg K/\K=k+j *2/\Zz w wr) (fun _ i _=>a.length -(intOf i).toNat)
 case atStart=>exact⟨0,k,Nat.zero_le _,rfl,rfl,by omega,Below.refl _ _⟩
 case round=>
  obtain⟨j,K,P,rfl,rfl,o,b⟩:=hrel;have E:=b.size;by_cases hlt:j<a.length
  ·have F:(j:Int)<a.length:=by omega
   have n:w.ownsRow base 137 2 (Za g a.length f) a.length (Ab pC (DL k a)):=G.o;have C:=n.1;have c:=Mh (k:=k) hlt;rw[←o]at c;have u:w.cell? (Ze g (j *2))=some (.string (BO K)):=(n.cellAt (j *2) (by omega)).trans (Bp BI c (show 0<2 by decide));have x:=(n.cellAt (j *2+1) (by omega)).trans (Bp BI c (show 1<2 by decide));have A:=Yx o;have M:1<=K:=by omega
   have N:K+2<=100000000:=by omega
   clear o C c n;have y:=(b.cell (p:=⟨g,j *2,none⟩) s).trans u;have J:=AB.cell y (show g<wr.heap.size by omega);have l:=AB.ne wr;have q:Hid (∀m:AB wr,Calls prog 113 #[Zg K] m.w fun e d=>e=.returned (.string (BO K))/\Below m.w.heap.size m.w d):=fun m=>Cs K _ m.w rfl (by omega) (by omega);have H:=Yx x;clear u x y;go_wp2;refine AI (by kernel_rfl) (by kernel_rfl) ?_
   repeat (go_big_quiet_step (exact AB.calls (q.o _)))
   refine wpQuiet_nil ?_;intro m;have t:=b.trans (m.h.mono E);have z:=(t.cell (p:=⟨g,j *2+1,none⟩) s).trans H.o;have D:=t.size;generalize m.w=wm at *
   clear J l q m;have L:=AB.cell z (show g<wm.heap.size by omega);have l:=AB.ne wm;have r:Hid (∀m:AB wm,Calls prog 113 #[Zg ((K:Int)+1)] m.w fun e d=>e=.returned (.string (BO (K+1)))/\Below m.w.heap.size m.w d):=fun m=>Cs (K+1) _ m.w (by omega) (by omega) (by omega);clear z;go_wp2;refine AI (by kernel_rfl) (by kernel_rfl) ?_
   repeat (go_big_quiet_step (exact AB.calls (r.o _)))
   refine wpQuiet_nil ?_;intro I;have B:=t.trans (I.h.mono D);clear L l r;go_wp2;exact⟨⟨j+1,K+1+1,by omega,by go_num,by go_num,by have:=A.o;omega,B⟩,by simp[intOf];omega⟩
  ·obtain rfl:j=a.length:=by omega
   subst o;go_wp2;go_ret;exact⟨rfl,b⟩
theorem QM(base g l k:Nat)(a:List Ld)(w:Zh)(h:w.ownsRow base 139 3 (Za g a.length l) a.length (Ab lC (DM k a)))(L:1<=k)(I:k+a.length *3<=100000000):
 Calls prog 117 #[Za g a.length l,Zg k] w fun e q=>e=.returned (Zg (k+a.length *3:Nat))/\Zz w q:=by
 have C:=Yx h;have n:=(Ac h rfl).2;clear h;go_enter func117,ntmps117;go_wp2
 go_loopw [1,5] (fun v i wr=>∃(j K:Nat),j<=a.length/\i=Zg j/\v=Zg K/\K=k+j *3/\Zz w wr) (fun _ i _=>a.length -(intOf i).toNat)
 case atStart=>exact⟨0,k,Nat.zero_le _,rfl,rfl,by omega,Below.refl _ _⟩
 case round=>
  obtain⟨j,K,J,rfl,rfl,d,b⟩:=hrel;have A:=b.size;by_cases hlt:j<a.length
  ·have B:(j:Int)<a.length:=by omega
   have f:w.ownsRow base 139 3 (Za g a.length l) a.length (Ab lC (DM k a)):=C.o;have z:=f.1;have c:=Mi (k:=k) hlt;rw[←d]at c;have s:w.cell? (Ze g (j *3))=some (Zg K):=by have:=(f.cellAt (j *3) (by omega)).trans (Bp Co c (show 0<3 by decide));rw[this,d];simp[lC]
   have t:=(f.cellAt (j *3+1) (by omega)).trans (Bp Co c (show 1<3 by decide));have c2:w.cell? (Ze g (j *3+2))=some (Zg ((K:Int)+1+1)):=by have:=(f.cellAt (j *3+2) (by omega)).trans (Bp Co c (show 2<3 by decide));rw[this,d];simp[lC]
   have x:=Yx d;have G:1<=K:=by omega
   have H:K+3<=100000000:=by omega
   clear d z c f;have F:=(b.cell (p:=⟨g,j *3,none⟩) n).trans s;have u:=(b.cell (p:=⟨g,j *3+1,none⟩) n).trans t;have E:=AB.cell u (show g<wr.heap.size by omega);have y:=AB.ne wr;have o:Hid (∀m:AB wr,Calls prog 113 #[Zg ((K:Int)+1)] m.w fun e q=>e=.returned (.string (BO (K+1)))/\Below m.w.heap.size m.w q):=fun m=>Cs (K+1) _ m.w (by omega) (by omega) (by omega);have D:=Yx c2;clear s t c2 u;go_wp2
   refine AI (by kernel_rfl) (by kernel_rfl) ?_
   repeat (go_big_quiet_step (exact AB.calls (o.o _)))
   refine wpQuiet_nil ?_;intro m;have r:=b.trans (m.h.mono A);have M:=(r.cell (p:=⟨g,j *3+2,none⟩) n).trans D.o;clear E y o F;go_wp2;exact⟨⟨j+1,K+1+1+1,by omega,by go_num,by go_num,by have:=x.o;omega,r⟩,by simp[intOf];omega⟩
  ·obtain rfl:j=a.length:=by omega
   subst d;go_wp2;go_ret;exact⟨rfl,b⟩
end Go.Proofs.YtlhhpofjkgmbeaaGreatDoor
