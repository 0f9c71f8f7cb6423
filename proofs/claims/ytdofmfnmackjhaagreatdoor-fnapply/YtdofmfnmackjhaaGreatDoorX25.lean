import Derived.Test.YtdofmfnmackjhaaGreatDoorX17
import Derived.Test.YtdofmfnmackjhaaGreatDoorX13
set_option maxRecDepth 100000
set_option maxHeartbeats 16000000
namespace Go.Proofs.YtdofmfnmackjhaaGreatDoor
open ChangeShapes WideShapes ChangeAt RowKit _root_.Go.Proofs.Tryz List World Value
variable{w c:Zh}{b a:Dj}{T P L:Value}{l:Dy}
theorem Ba.dj{b:Nat}{e:Zj}{j:Dj}{k:Dv}(h:Ba w b T P L e j l k):∀g∈BX T P L e,g<w.1.size:=by
 intro g a;unfold BX at a;simp only[A7,A8,mem_filterMap]at a;rcases a with a|a|a|⟨r,f,a⟩
 .exact(Ac h.ak a).2
 .exact(Ac h.pins a).2
 .exact(Ac h.au a).2
 .obtain⟨i,c⟩:=A5 f;have d:=(Zw c).1;rw[h.len]at d;exact(Ac (h.B i _ r (Zv d) c) a).2
theorem Ba.apart{l:Zh}{d:Nat}{f:Zj}{n:Dj}{p:Dy}{o:Dv}(h:Ba w d T P L f n p o){V:List Nat}(s:Tn V w l)(q:∀b∈V,b∉BX T P L f):Ba l d T P L f n p o:=by
 have c:∀g,g∈BX T P L f->g<w.1.size->l.1[g]?=w.1[g]?:=λg a j=>s.block g j (λe=>q g e a)
 refine⟨h.len,As h.ak (λg a=>c g (by unfold BX;simp[a]) (Ac h.ak a).2),λi k r m j=>As (h.B i k r m j) (λg a=>c g (by unfold BX;simp only[A7,mem_filterMap];exact .inr (.inr (.inr ⟨r,Zs j,a⟩))) (Ac (h.B i k r m j) a).2),As h.pins (λg a=>c g (by unfold BX;simp[a]) (Ac h.pins a).2),As h.au (λg a=>c g (by unfold BX;simp[a]) (Ac h.au a).2),h.nd⟩
theorem Ba.rows{n:Nat}{a:Zj}{t:List Pd}{r:List Ld}(h:Ba w n T P L a b t r):∃m u l s f q,T=.slice m b.length u/\P=.slice l t.length s/\L=.slice f r.length q/\Bx w w.1.size m l f b t r:=by
 obtain⟨m,u,rfl⟩:=Aq h.ak;obtain⟨l,s,rfl⟩:=Aq h.pins;obtain⟨f,q,rfl⟩:=Aq h.au;refine⟨m,u,l,s,f,q,rfl,rfl,rfl,⟨?_,AU.own h.pins,AS.own h.au⟩⟩;rcases h.ak.2 with⟨_,p⟩|⟨g,E,F,e,I,A,_⟩
 .exact .inl (length_eq_zero_iff.1 p)
 .cases e;refine .inr ⟨g,0,rfl,(A2.1 A).1,λi k o=> ?_⟩;have J:=(Zw o).1;have hlen:=h.len;have v:a[i]?=some a[i]:=Zv Yv;have B:(b.zip a)[i]?=some (k,a[i]):=getElem?_zip_eq_some.2 ⟨o,v⟩;have G:(b.zip a).length=b.length:=by rw[length_zip];omega
  have c:∀j,j<4->w.cell? (Zd g (i *4+j))=(kC (k,a[i]))[j]?:=λj d=>(h.ak.cellAt (i *4+j) Yv).ah (BN Cn B d);have d:=h.B i k _ o v;have⟨C,D,o⟩:=Aq d;rw[A0];refine⟨by simpa [kC]using c 0 Yq,by simpa [kC]using c 1 Yq,by simpa [kC]using c 2 Yq,C,D,?_,?_⟩
  .exact(show w.cell? (Zd g (i *4+3))=some a[i] by simpa [kC]using c 3 Yq).ah (congrArg some o)
  .rw[o]at d;rcases d.2 with⟨_,p⟩|⟨H,x,y,z,_⟩
   .exact .inl (Bl p)
   .cases z;exact Af.own d
theorem Lz(h:∀k∈a,k.B.length<=30):Fz a<=30 *a.length:=by
 induction a with
 |nil=>simp[Fz]
 |cons x xs ih=>rw[SP];have c:=h x Yu;have d:=ih (λk b=>h k (by simp[b]));simp only[length_cons];omega
theorem Ba.same{base:Nat}{m:Zj}{f:Dj}{j:Dv}(h:Ba w base T P L m f l j)(p:∀b,base<=b->b<w.1.size->c.1[b]?=w.1[b]?):Ba c base T P L m f l j:=by have a:∀{e:TypeId} {size:Nat} {v:D4} {n:Nat} {xs:Zj},w.ownsRow base e size v n xs->c.ownsRow base e size v n xs:=λh=>As h (λg d=>p g (Ac h d).1 (Ac h d).2);exact⟨h.len,a h.ak,λi k r d o=>a (h.B i k r d o),a h.pins,a h.au,h.nd⟩
theorem Ig.A{g:Nat}(h:Ig w ⟨g,0,none⟩ b)(e:Zz w c):Ig c ⟨g,0,none⟩ b:=by intro i k f;have⟨d,j,a⟩:=h i k f;exact⟨d,j,(e.cell (p:=⟨g,0+i *4+3,none⟩) (A6 w _ a)).ah a⟩
theorem IF.ag{d:Zh}{A:Addr}{B:Nat}(h:IF w A a)(m:AW w B (some A) a)(j:Below B w d):IF d A a:=λi k c n l=>by have⟨b,f,g,e,_⟩:=m.at (Zw c).1;cases g;exact h i k c n ((j.cell (p:=⟨b,f+i *4+3,none⟩) e).symm.ah l)
