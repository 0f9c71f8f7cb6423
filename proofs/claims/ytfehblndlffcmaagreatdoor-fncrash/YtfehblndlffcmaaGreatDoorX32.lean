import Derived.Test.YtfehblndlffcmaaGreatDoorX20
set_option maxRecDepth 100000
set_option maxHeartbeats 16000000
open Option renaming some->an,none->ba
open Bool renaming true->bg,false->bq
open Go.RowKit renaming Below->bs
open Decidable renaming decide->bx
open Go.Obj renaming cells->ca
open Go.Value renaming slice->cr,agg->ct
open Or renaming inl->dp,inr->eb
open Go.Ground renaming data->ed
open List renaming length->eh,toArray->ei
open Go.World renaming cell?->ek,grownBy->ep,setCell->ev
namespace Go.Proofs.YtfehblndlffcmaaGreatDoor
open ChangeShapes WideShapes ChangeAt RowKit _root_.Go.Proofs.Tryz List World Value
variable{v:Vd}{d l o m i p k K:Int}{a:Zk}{b n q B c g:Nat}{D E P L j Q M s t y:Value}{u:UR}{w X W Y wr Z:Zh}{f r x:Zl}{V:List Nat}{vs:Zj}
structure VDc (X:Zh) (cs:Zj):Prop where
 ex:∃(u:Vd) (a:Va),cs=Bd u (cr a.Y (eh u.ss) a.sc) (cr a.V (eh u.C) a.T) (cr a.Q (eh u.B) a.W) (cr a.L (eh u.ps) a.P) (cr a.K (eh u.ls) a.O) (cr a.Z (eh u.H) a.y) (cr a.g (eh u.ms) a.j)/\Bc X X.1.size a u/\Kv a u/\Dz u/\eh u.C<=a.T
def Is(p:Nat->Prop)(w:Zh)(cs:Zj):Prop:=∀V X,(∀b∈V,p b)->Tn V w X->VDc X cs
theorem Is.S{p:Nat->Prop}{d:Zh}{c:Zj}(h:Is p w c)(g:Tn V w d)(f:∀b∈V,p b):Is p d c:=λa X e hT=>
 h (V++a) X (λb a=>(Bw.1 a).elim (f b) (e b)) ((g.ai (by simp;exact λb a=> dp a)).ag (hT.ai (by simp;exact λb a=> eb a)))
theorem Is.len{p:Nat->Prop}{b:Zj}(h:Is p w b):eh b=17/\∀u∈b,u.oneCell'=bg:=by obtain⟨u,a,rfl,_⟩:=(h [] w Yu (Tn.of Ae)).ex;exact⟨rfl,by simp[Bd,oneCell']⟩
theorem Aek{u:Vd}{a b:Va}(h:Bd u (C3 a.Y (eh u.ss) a.sc) (C3 a.V (eh u.C) a.T) (C3 a.Q (eh u.B) a.W) (C3 a.L (eh u.ps) a.P) (C3 a.K (eh u.ls) a.O) (C3 a.Z (eh u.H) a.y) (C3 a.g (eh u.ms) a.j)=Bd u (C3 b.Y (eh u.ss) b.sc) (C3 b.V (eh u.C) b.T) (C3 b.Q (eh u.B) b.W) (C3 b.L (eh u.ps) b.P) (C3 b.K (eh u.ls) b.O) (C3 b.Z (eh u.H) b.y) (C3 b.g (eh u.ms) b.j)):a=b:=by cases a;cases b;simp only[Bd,List.cons.injEq,slice.injEq,true_and,and_true]at h;simp[h]
theorem CS.fix{p:Nat->Prop}{c:Zj}(h:CS p w c):∃(u:Vd) (a:Va),Oc u/\c=Bd u (C3 a.Y (eh u.ss) a.sc) (C3 a.V (eh u.C) a.T) (C3 a.Q (eh u.B) a.W) (C3 a.L (eh u.ps) a.P) (C3 a.K (eh u.ls) a.O) (C3 a.Z (eh u.H) a.y) (C3 a.g (eh u.ms) a.j)/\∀V X,(∀b∈V,p b)->Tn V w X->Bc X X.1.size a u/\Jc X a u:=by obtain⟨u,i,h⟩:=h;have⟨a,e,_⟩:=h [] w Yu (Tn.of Ae);refine⟨u,a,i,e,λV X g hT=> ?_⟩;obtain⟨j,d,f⟩:=h V X g hT;obtain rfl:=Aek (e.symm.ag d);exact f
theorem CS.st{p:Nat->Prop}{c:Zj}(h:CS p w c):Is p w c:=λV X g hT=>by have⟨u,a,i,e,d⟩:=h.fix;obtain⟨f,b⟩:=d V X g hT;exact⟨u,a,e,f,b.cap,i.fit,b.t.1⟩
structure YS (w:Zh) (b:Nat) (a:Zk) (n c:Nat) (p K:Int) (e:Ending) (w':Zh):Prop where
 ex:∃cs,e=.returned (ct (ei cs))/\Is (fun g=>g<w.1.size) w' cs
 U:GF w w' b a n c p K
theorem MJ{cs:Zj}(o:∃d,AB X b a n c d/\p<=d/\d<=p+k)(e:ep w X (an b))(j:Aa X w.1.size AU)(i:Is (λg=>g<=w.1.size) X cs)(q:b<w.1.size):
 (X.there w.1.size 0 (ei cs).size/\eh cs=17/\∀u∈cs,u.oneCell'=bg)/\Aa (X.setCells w.1.size 0 (ei cs).toList) w.1.size cs/\YS w b a n c p k (.returned (ct (ei cs))) (X.setCells w.1.size 0 (ei cs).toList):=by
 have h:=AD w.1.size cs 0 X;have f:=i.len;refine⟨⟨?_,f⟩,j.aw cs (by rw[f.1];rfl),⟨cs,rfl,λV Y l hT=>(i.S h Yu) V Y (λg e=>Nat.le_of_lt (l g e)) hT⟩,?_,Cs e h Yu⟩
 .rw[show (ei cs).size=17 from by rw[A0];exact f.1];exact j.there
 obtain⟨d,l,m⟩:=o;exact⟨d,l.S h Yt Yt,m⟩
structure VF (w X:Zh) (b:Nat) (a:Zk) (n c:Nat) (p k:Int) (q:Nat) (cs ds:Zj):Prop where
 rd:∃p',AB X b a n c p'/\p<=p'/\p'<=p+k
 gr:ep w X (an b)
 z:Aa X w.1.size AU
 x:Aa X q cs
 rv:Is (fun g=>g<=w.1.size\/g=q) X ds
 lt:w.1.size<q
def Jf(w:Zh)(b:Nat)(a:Zk)(n c:Nat)(p k:Int)(q:Nat)(X:Zh):Prop:=∃cs,VF w X b a n c p k q cs cs
theorem VF.put{l1 l2 l3 ns:Zj}(h:VF w X b a n c p k q (l1++(l2++l3)) (l1++(ns++l3)))(f:eh ns=eh l2)(j:b<w.1.size):Jf w b a n c p k q (X.setCells q (eh l1) ns):=by have g:=h.lt;have t:=AD q ns (eh l1) X;have⟨i,d,e⟩:=h.rd;exact⟨_,⟨i,d.S t Yt Yt,e⟩,Cs h.gr t Yt,Aa.same h.z (t.block _ h.z.lt Yt),Aa.dy ns l1 l2 l3 X h.x f,h.rv.S t Yu,g⟩
theorem IQ(k:Int)(b a:Zi)(n:Int)(t:Zi)(c:Zl)(d:Int):(Cv k b a n t c d).size<=5000:=by
 by_cases h:Cn k b a n t c d=bg
 .exact Ed.dv (e:=⟨k,b,a,n,t,c⟩) h
 unfold Cv;rw[if_neg h];exact Aq _
theorem Ab.over{o:Nat}{t:Zi}(h:Ab Y B a f)(n:∀i,i≠g->Z.1[i]?=Y.1[i]?)(m:∀j,ek Z (Zd g j)=if j=o then an (C4 t)else ek Y (Zd g j)):∃c,eh c=eh f/\(∀s∈c,s∈f\/s=t)/\Ab Z B a c:=by
 rcases h with h|⟨b,d,e,k,l⟩
 .exact⟨f,rfl,λs c=> dp c,dp h⟩
 by_cases hbg:b=g
 .subst hbg;by_cases hin:d<=o/\o<d+eh f
  .refine⟨f.set (o -d) t,Yu,λs c=>mem_or_eq_of_mem_set c,eb ⟨b,d,e,k,λi s c=> ?_⟩⟩;rw[m];rw[getElem?_set]at c;split at c
   .split at c
    .cases c;rw[if_pos Yv]
    cases c
   rw[if_neg Yv];exact l i s c
  refine⟨f,rfl,λs c=> dp c,eb ⟨b,d,e,k,λi s c=> ?_⟩⟩;have:=(Zw c).1;rw[m,if_neg Yv];exact l i s c
 exact⟨f,rfl,λs c=> dp c,eb ⟨b,d,e,k,λi s c=>(cell?_of_block (a:=⟨b,d+i,ba⟩) (n b hbg)).ag (l i s c)⟩⟩
theorem restore{b:Zh}{o:Nat}{t:Zi}(m:g∉V)(l:(ek Y (Zd g o)).isSome=bg)(hT:Tn V (Y.setCells g o [C4 t]) b):∃e,Tn V Y e/\e.1.size=b.1.size/\(∀i,i≠g->b.1[i]?=e.1[i]?)/\∀j,ek b (Zd g j)=if j=o then an (C4 t)else ek e (Zd g j):=by
 have⟨v,q⟩:=Option.isSome_iff_exists.1 l;have p:g<Y.1.size:=Bf Y _ q;have d:=AD g [C4 t] o Y;have r:g<b.1.size:=gC;have f:({b with heap:=b.1.setIfInBounds g Y.1[g]}:Zh).1[g]?=Y.1[g]?:=gA;have k:∀i,i≠g->({b with heap:=b.1.setIfInBounds g Y.1[g]}:Zh).1[i]?=b.1[i]?:=gG;refine⟨{b with heap:=b.1.setIfInBounds g Y.1[g]},⟨hT.os.ag d.os,hT.tape.ag d.tape,hT.output.ag d.output,D2 (Zm d.size hT.size),λi c n=> ?_⟩,Yu,λi c=>(k i c).symm,λj=> ?_⟩
 .by_cases hig:i=g
  .subst hig;exact f
  exact(k i hig).ag ((hT.block i (Zr c d.size) n).ag (d.block i c Yt))
 rw[cell?_of_block (a:=⟨g,j,ba⟩) (hT.block g (Zr p d.size) m)];split
 .rename_i h
  subst h;have:=cell?_setCells_in g [C4 t] j Y (λi c=>by simp at c;subst c;exact l) 0 Yu;simpa using this
 rw[cell?_setCells_out _ _ _ _ _ (λ_ _=>by show j<o\/o+1<=j;omega)];exact(cell?_of_block (a:=⟨g,j,ba⟩) f).symm
