import Derived.Test.YtckmnfhmoankmaaGreatDoorX07
import Derived.Test.YtckmnfhmoankmaaGreatDoorX08
set_option maxRecDepth 100000
set_option maxHeartbeats 16000000
namespace Go.Proofs.YtckmnfhmoankmaaGreatDoor
open Go.ChangeShapes Go.WideShapes Go.ChangeAt Go.RowKit _root_.Go.Proofs.Tryz
def JI(k:Nat)(x:Kd):Kd:=⟨BZ k,(k:Int)+1,BZ (k+1+1),marks (k+1+1+1) x.refs.length⟩
def Cm:Nat->List Kd->List Kd
 |_,[]=>[]
 |k,x::xs=>JI k x::Cm (k+3+x.refs.length) xs
theorem BW:∀(k:Nat) (xs:List Kd),(Cm k xs).length=xs.length
 |_,[]=>rfl
 |k,x::xs=>by simp[Cm,BW _ xs]
theorem Lk(x:Kd)(a:List Kd):AI (x::a)=x.refs.length+AI a:=by simp[AI]
theorem Hg:∀(k:Nat) (xs ys:List Kd),Cm k (xs++ys)=Cm k xs++Cm (k+xs.length *3+AI xs) ys
 |k,[],ys=>by simp[Cm,AI]
 |k,x::xs,ys=>by simp only[List.cons_append,Cm,Hg _ xs ys];congr 3;rw[Lk,List.length_cons];omega
theorem Rj{k j:Nat}{a:List Kd}{x:Kd}(e:a[j]?=some x):Cm k (a.take (j+1))++a.drop (j+1)=(Cm k (a.take j)++a.drop j).set j (JI (k+j *3+AI (a.take j)) x):=by
 obtain⟨b,rfl⟩:=Zw e;have d:(Cm k (a.take j)).length=j:=by rw[BW,List.length_take];omega
 have c:(a.take j).length=j:=by rw[List.length_take];omega
 rw[Zu b,Hg,c,List.set_append_right _ _ (by omega),d,Nat.sub_self,List.drop_eq_getElem_cons b,Zp,List.append_assoc];rfl
structure FW (w:Zh) (base:Nat) (T:Value) (rs:Zj) (ks:List Kd):Prop where
 len:rs.length=ks.length
 ai:w.ownsRow base 137 4 T ks.length (Ab kC (ks.zip rs))
 refs:∀(i:Nat) (k:Kd) (r:Value),ks[i]?=some k->rs[i]?=some r->w.ownsRow base 9 1 r k.refs.length (k.refs.map Value.string)
 nd:(T.ownBlock.toList++rs.filterMap Value.ownBlock).Nodup
theorem Tq{f:Value->Option Nat}:∀{rs:Zj},(rs.filterMap f).Nodup->∀{i j:Nat} {a b:Value} {g:Nat},rs[i]?=some a->rs[j]?=some b->f a=some g->f b=some g->i=j
 |[],_,i,_,_,_,_,h,_,_,_=>by simp at h
 |r::rs,h,0,0,_,_,_,_,_,_,_=>rfl
 |r::rs,h,0,j+1,a,b,g,ha,hb,hfa,hfb=>by simp at ha hb;subst ha;rw[List.filterMap_cons_some hfa]at h;exact absurd (List.mem_filterMap.2 ⟨b,Zs hb,hfb⟩) (List.nodup_cons.1 h).1
 |r::rs,h,i+1,0,a,b,g,ha,hb,hfa,hfb=>by simp at ha hb;subst hb;rw[List.filterMap_cons_some hfb]at h;exact absurd (List.mem_filterMap.2 ⟨a,Zs ha,hfa⟩) (List.nodup_cons.1 h).1
 |r::rs,h,i+1,j+1,a,b,g,ha,hb,hfa,hfb=>by
  simp at ha hb;have:(rs.filterMap f).Nodup:=by
   cases hr:f r with
   |none=>rw[List.filterMap_cons_none hr]at h;exact h
   |some q=>rw[List.filterMap_cons_some hr]at h;exact(List.nodup_cons.1 h).2
  rw[Tq this ha hb hfa hfb]
theorem OD:∀{zs:List (Kd×Value)} {i:Nat} {x:Kd} {r:Value},zs[i]?=some (x,r)->∀y:Kd,(((Ab kC zs).set (i *4) (.string y.sum)).set (i *4+1) (Zg y.born)).set (i *4+2) (.string y.text)=Ab kC (zs.set i (y,r))
 |[],i,_,_,h,_=>by simp at h
 |z::zs,0,x,r,h,y=>by simp at h;subst h;simp[Ab,kC]
 |z::zs,i+1,x,r,h,y=>by
  have b:zs[i]?=some (x,r):=by simpa using h
  have c:=OD b y;have e:Ab kC (z::zs)=kC z++Ab kC zs:=by simp[Ab]
  have a:Ab kC ((z::zs).set (i+1) (y,r))=kC z++Ab kC (zs.set i (y,r)):=by simp[Ab]
  rw[e,a,←c,show(i+1) *4=(kC z).length+i *4 by rw[Ej];omega];rw[List.set_append_right _ _ (by omega),Nat.add_sub_cancel_left,show(kC z).length+i *4+1=(kC z).length+(i *4+1) by omega,List.set_append_right _ _ (by omega),Nat.add_sub_cancel_left,show(kC z).length+i *4+2=(kC z).length+(i *4+2) by omega,List.set_append_right _ _ (by omega),Nat.add_sub_cancel_left]
theorem WA{a:List Kd}{b:Zj}{j:Nat}{y:Kd}{r:Value}(c:b[j]?=some r):(a.set j y).zip b=(a.zip b).set j (y,r):=by
 apply List.ext_getElem?;intro i;by_cases hij:i=j
 ·subst hij;rcases Nat.lt_or_ge i a.length with h|h
  ·have d:=(Zw c).1;rw[(List.getElem?_zip_eq_some (z:=(y,r))).2 ⟨List.getElem?_set_self h,c⟩,List.getElem?_set_self (by rw[List.length_zip];omega)]
  ·rw[List.getElem?_eq_none (by rw[List.length_zip,List.length_set];omega),List.getElem?_eq_none (by rw[List.length_set,List.length_zip];omega)]
 ·rw[List.getElem?_set_ne (fun e=>hij e.symm),List.zip_eq_zipWith,List.zip_eq_zipWith,List.getElem?_zipWith,List.getElem?_zipWith,List.getElem?_set_ne (fun e=>hij e.symm)]
theorem Tr(base g A k:Nat)(o:Zj)(a:List Kd)(w:Zh)(h:FW w base (Za g a.length A) o a)(hk:1<=k)(zS:k+a.length *3+AI a<=100000000):
 Calls prog 58 #[Za g a.length A,Zg k] w fun e w'=>e=.returned (Zg (k+a.length *3+AI a:Nat))/\FW w' base (Za g a.length A) o (Cm k a)/\Tn (g::o.filterMap Value.ownBlock) w w':=by
 have H0:=Yx h;clear h;go_enter func58,ntmps58;go_wp2
 go_loopw [1,5] (fun v i wr=>∃(j K:Nat),j<=a.length/\i=Zg j/\v=Zg K/\Hid (K=k+j *3+AI (a.take j))/\Hid (FW wr base (Za g a.length A) o (Cm k (a.take j)++a.drop j)/\Tn (g::o.filterMap Value.ownBlock) w wr)) (fun _ i _=>a.length -(intOf i).toNat)
 case atStart=>exact⟨0,k,Nat.zero_le _,rfl,rfl,(show k=_ by simp[AI]),⟨by simpa [Cm]using H0.o,Tn.of (Below.refl _ _)⟩⟩
 case round=>
  clear H0;obtain⟨j,K,hj,rfl,rfl,HK,T⟩:=hrel;have zK:=GI a j;by_cases hlt:j<a.length
  ·have zN:(j:Int)<a.length:=by omega
   have X:=Zv hlt;have S:=IE X;have t:=GI a (j+1);have HS:=Yx (Rj (k:=k) X);have O:(Cm k (a.take j)++a.drop j)[j]?=some a[j]:=by rw[List.getElem?_append_right (by rw[BW,List.length_take];omega),BW,List.length_take,List.getElem?_drop];rw[show j+(j -min j a.length)=j by omega];exact X
   have p:(Cm k (a.take j)++a.drop j).length=a.length:=by rw[List.length_append,BW,List.length_take,List.length_drop];omega
   generalize hLe:Cm k (a.take j)++a.drop j=Lj at *
   have m:=HK.o;generalize a[j]=x at *
   obtain⟨l,U⟩:=T.o;have R:=l.len.trans p;obtain⟨r,c⟩:∃r,o[j]?=some r:=⟨o[j]'(by omega),Zv (by omega)⟩;have Q:=l.refs j x r O c;obtain⟨L,M,rfl⟩:=Ar Q;have G:=l.ai;rw[p]at G;have zC:=(List.getElem?_zip_eq_some (z:=(x,Value.slice L x.refs.length M))).2 ⟨O,c⟩;have s:=G.1;have E:∀b,(Value.slice L x.refs.length M).ownBlock=some b->b≠g:=fun b I e=>by have:=l.nd;simp only[Value.ownBlock,Option.toList_some,List.cons_append,List.nil_append,List.nodup_cons]at this;exact this.1 (e▸List.mem_filterMap.2 ⟨_,Zs c,I⟩)
   have zI:=Yx G;have zH:=Yx Q;have zF:=Yx (Zn l U);have HZ:=Yx zC;have zP:1<=K:=by omega
   have zR:K+3+x.refs.length<=100000000:=by omega
   have HX:Hid (j *4+4<=(Ab kC (Lj.zip o)).length):=by show _<=_;omega
   have zO:=Yx hLe;have zE:=Yx m;have HN:=Yx (Zn S (Zn t p));have HR:=Yx (Zn c R);clear l U G Q X T zC O hLe m S t p c R s zK;go_wp2_with fail;refine(CC K _ _ rfl (by omega) (by omega)).mono ?_;rintro e Y ⟨rfl,C⟩;have n:=Ag zI.o C;have s:=HX.o;have c2:∃v,Y.cell? (Ze g (j *4))=some v:=⟨_,(n.cellAt (j *4) (by omega)).trans (Zv (by omega))⟩;obtain⟨v2,c2⟩:=c2
   have c3:∃v,Y.cell? (Ze g (j *4+1))=some v:=⟨_,(n.cellAt (j *4+1) (by omega)).trans (Zv (by omega))⟩;obtain⟨v3,c3⟩:=c3;have ff:=n.frozenAt;have f2:=ff (j *4);have f3:=ff (j *4+1);have W:=((n.stored (j *4) (.string (BZ K))).1.stored (j *4+1) (Zg ((K:Int)+1))).1;have zA:=Yx (Bv (Bv (Ag zH.o C) E (j *4) (.string (BZ K))) E (j *4+1) (Zg ((K:Int)+1)))
   have T3:Hid (Tn [g] wr ((Y.setCell (Ze g (j *4)) (.string (BZ K))).setCell (Ze g (j *4+1)) (Zg ((K:Int)+1)))):=((Tn.of C).trans (Tn.set Y g _ _ (by simp))).trans (Tn.set _ g _ _ (by simp));have H3:=Yx W;clear n W C ff s;go_wp2_with fail;refine(CC (K+1+1) _ _ (by omega) (by omega) (by omega)).mono ?_;rintro e N ⟨rfl,D⟩;have H:=Ag H3.o D;have s:=HX.o
   have zM:j *4+4<=((((Ab kC (Lj.zip o)).set (j *4) (.string (BZ K))).set (j *4+1) (Zg ((K:Int)+1)))).length:=by simpa using s
   have c4:∃v,N.cell? (Ze g (j *4+2))=some v:=⟨_,(H.cellAt (j *4+2) (by omega)).trans (Zv (by omega))⟩;obtain⟨v4,c4⟩:=c4;have f4:=H.frozenAt (j *4+2);have c5:N.cell? (Ze g (j *4+3))=some (.slice L x.refs.length M):=by rw[H.cellAt (j *4+3) (by omega),List.getElem?_set_ne (by omega),List.getElem?_set_ne (by omega)];exact Bz Ej HZ.o (show 3<4 by decide)
   have h5:=(H.stored (j *4+2) (.string (BZ (K+1+1)))).1;rw[OD HZ.o ⟨BZ K,(K:Int)+1,BZ (K+1+1),marks (K+1+1+1) x.refs.length⟩]at h5;have zG:=Yx (Bv (Ag zA.o D) E (j *4+2) (.string (BZ (K+1+1))));have u:Hid (Tn [g] wr (N.setCell (Ze g (j *4+2)) (.string (BZ (K+1+1))))):=(T3.o.trans (Tn.of D)).trans (Tn.set N g _ _ (by simp));have H5:=Yx h5;clear H h5 D c2 f2 c3 f3 zA T3 H3 s zM
   have f:=Md L x.refs.length M (K+1+1+1) base _ (N.setCell (Ze g (j *4+2)) (.string (BZ (K+1+1)))) zG.o (by omega) (by omega);rw[show((K+1+1+1:Nat):Int)=(K:Int)+1+1+1 from by omega]at f;have HC:=Yx f;clear f;go_wp2_with fail;refine Calls.mono HC.o ?_;rintro e w6 ⟨rfl,F,d⟩;have HF:=Yx (Zn F d);clear F d HC c4 f4 c5;go_wp2;obtain⟨S,t,p⟩:=HN.o;obtain⟨c,R⟩:=HR.o;have m:=zE.o;obtain⟨l,U⟩:=zF.o
   obtain⟨F,d⟩:=HF.o;have P:=l.nd;simp only[Value.ownBlock,Option.toList_some,List.cons_append,List.nil_append,List.nodup_cons]at P;have zB:∀b,b<wr.heap.size->b≠g->(Value.slice L x.refs.length M).ownBlock≠some b->w6.heap[b]?=wr.heap[b]?:=fun b V n W=>(d.block b (Zr V u.o.size) (fun e=>W e.symm)).trans (u.o.block b V (by simpa using n));have zJ:Tn (g::o.filterMap Value.ownBlock) wr w6:=by
    refine⟨d.os.trans u.o.os,d.tape.trans u.o.tape,d.output.trans u.o.output,Zm u.o.size d.size,fun b V n=> ?_⟩;refine zB b V (fun e=>n (by simp[e])) (fun e=>n (List.mem_cons_of_mem _ (List.mem_filterMap.2 ⟨_,Zs c,e⟩)))
   refine⟨⟨j+1,K+1+1+1+x.refs.length,by omega,by go_num,by go_num,?_,?_,U.trans zJ⟩,by simp[intOf];omega⟩
   ·show _=_;omega
   ·rw[HS.o,←m];refine⟨by rw[List.length_set];omega,?_,?_,l.nd⟩
    ·rw[List.length_set,p,WA c];exact World.ownsRow.kept H5.o d (.inr (fun e=>E g e.symm rfl))
    ·intro i y r' J q;by_cases hij:i=j
     ·subst hij;rw[c]at q;cases q;rw[List.getElem?_set_self (by omega)]at J;cases J;show w6.ownsRow base 9 1 _ (marks (K+1+1+1) x.refs.length).length _;rw[BS];exact F
     ·rw[List.getElem?_set_ne (fun e=>hij e.symm)]at J;refine Ak (l.refs i y r' J q) (fun b I=>zB b (Ac (l.refs i y r' J q) I).2 (fun e=>P.1 (e▸List.mem_filterMap.2 ⟨_,Zs q,I⟩)) (fun e=>hij (Tq P.2 q c I e)))
  ·obtain rfl:j=a.length:=by omega
   have m:=HK.o;have B:=T.o;rw[Zt (Zx)]at m B;rw[List.drop_of_length_le (Zx),List.append_nil]at B;have Z:=Yx B;clear B T;subst m;go_wp2;go_ret;exact⟨rfl,Z.o.1,Z.o.2⟩
theorem Ts{k j:Nat}{a:List Kd}{x:Kd}(f:a[j]?=some x):(Cm k a)[j]?=some (JI (k+j *3+AI (a.take j)) x):=by
 obtain⟨c,rfl⟩:=Zw f;have d:=(List.take_append_drop j a).symm;have e:(Cm k (a.take j)).length=j:=by rw[BW,List.length_take];omega
 have b:(a.take j).length=j:=by rw[List.length_take];omega
 conv=>lhs;rw[d,Hg,b,List.drop_eq_getElem_cons c]
 rw[List.getElem?_append_right (by omega),e,Nat.sub_self];rfl
theorem Tt(base g L k:Nat)(C:Zj)(a:List Kd)(w:Zh)(h:FW w base (Za g a.length L) C (Cm k a))(hk:1<=k)(zO:k+a.length *3+AI a<=100000000):
 Calls prog 119 #[Za g a.length L,Zg k] w fun e D=>e=.returned (Zg (k+a.length *3+AI a:Nat))/\Zz w D:=by
 have O:=Yx h;have s:g<w.heap.size:=(Ac h.ai rfl).2;clear h;go_enter func119,ntmps119;go_wp2
 go_loopw [1,5] (fun v i wr=>∃(j K:Nat),j<=a.length/\i=Zg j/\v=Zg K/\Hid (K=k+j *3+AI (a.take j))/\Zz w wr) (fun _ i _=>a.length -(intOf i).toNat)
 case atStart=>exact⟨0,k,Nat.zero_le _,rfl,rfl,(show k=_ by simp[AI]),Below.refl _ _⟩
 case round=>
  obtain⟨j,K,hj,rfl,rfl,R,c⟩:=hrel;have zC:=GI a j;have zH:=c.size;by_cases hlt:j<a.length
  ·have zJ:(j:Int)<a.length:=by omega
   have Q:a[j]?=some a[j]:=Zv hlt;have N:=IE Q;have G:=GI a (j+1);have o:=Ts (k:=k) Q;have f:=R.o;rw[←f]at o;generalize a[j]=x at *
   have zB:C.length=a.length:=O.o.len.trans (BW k a);obtain⟨r,F⟩:∃r,C[j]?=some r:=⟨C[j]'(by omega),Zv (by omega)⟩;have t:=O.o.refs j _ r o F;have M:(JI K x).refs.length=x.refs.length:=BS _ _;rw[M]at t;obtain⟨y,B,rfl⟩:=Ar t;have d:=O.o.ai;rw[BW]at d
   have l:((Cm k a).zip C)[j]?=some (JI K x,Value.slice y x.refs.length B):=(List.getElem?_zip_eq_some (z:=(JI K x,Value.slice y x.refs.length B))).2 ⟨o,F⟩;have zE:=d.1;have T:w.cell? (Ze g (j *4))=some (.string (BZ K)):=(d.cellAt (j *4) (by omega)).trans (Bz Ej l (show 0<4 by decide))
   have U:w.cell? (Ze g (j *4+1))=some (Zg ((K:Int)+1)):=(d.cellAt (j *4+1) (by omega)).trans (Bz Ej l (show 1<4 by decide));have c2:w.cell? (Ze g (j *4+2))=some (.string (BZ (K+1+1))):=(d.cellAt (j *4+2) (by omega)).trans (Bz Ej l (show 2<4 by decide));have c3:w.cell? (Ze g (j *4+3))=some (.slice y x.refs.length B):=(d.cellAt (j *4+3) (by omega)).trans (Bz Ej l (show 3<4 by decide))
   have HR:Hid (Ad w w.heap.size y (marks (K+1+1+1) x.refs.length)):=by
    have V:w.ownsRow base 9 1 (.slice y (marks (K+1+1+1) x.refs.length).length B) (marks (K+1+1+1) x.refs.length).length ((marks (K+1+1+1) x.refs.length).map Value.string):=by rw[BS];exact t
    rcases V.2 with⟨W,h0⟩|⟨q,zI,zK,W,_⟩
    ·exact .inl (List.eq_nil_of_length_eq_zero h0)
    ·cases W;exact Ad.own V
   have zM:1<=K:=by omega
   have zN:K+3+x.refs.length<=100000000:=by omega
   have HN:=Yx (Zn N f);clear d t Q l o f N G F zB zE zC M;have X:=(c.cell (p:=⟨g,j *4,none⟩) s).trans T;have q0:=AG.cell X (show g<wr.heap.size by omega);have E:=AG.ne wr;have H:Hid (∀m:AG wr,Calls prog 61 #[Zg K] m.w fun e D=>e=.returned (.string (BZ K))/\Below m.w.heap.size m.w D):=fun m=>CC K _ m.w rfl (by omega) (by omega);have P:=Yx (Zn U (Zn c2 c3));clear T U c2 c3 X;go_wp2
   refine AN (by kernel_rfl) (by kernel_rfl) ?_
   repeat (go_big_quiet_step (exact AG.calls (H.o _)))
   refine wpQuiet_nil ?_;intro m;have A:Below w.heap.size w m.w:=c.trans (m.h.mono zH);have y1:=(A.cell (p:=⟨g,j *4+1,none⟩) s).trans P.o.1;have Y:=(A.cell (p:=⟨g,j *4+2,none⟩) s).trans P.o.2.1;have Z:=(A.cell (p:=⟨g,j *4+3,none⟩) s).trans P.o.2.2;have zG:=A.size;generalize m.w=wm at *
   clear q0 E H m;have q2:=AG.cell Y (show g<wm.heap.size by omega);have E:=AG.ne wm;have I:Hid (∀m:AG wm,Calls prog 61 #[Zg ((K:Int)+1+1)] m.w fun e D=>e=.returned (.string (BZ (K+1+1)))/\Below m.w.heap.size m.w D):=fun m=>CC (K+1+1) _ m.w (by omega) (by omega) (by omega);have J:=Yx Z;clear Y Z;go_wp2;refine AN (by kernel_rfl) (by kernel_rfl) ?_
   repeat (go_big_quiet_step (exact AG.calls (I.o _)))
   refine wpQuiet_nil ?_;intro u;have n:Below w.heap.size w u.w:=A.trans (u.h.mono zG);have z3:=(u.h.cell (p:=⟨g,j *4+3,none⟩) (show g<wm.heap.size by omega)).trans J.o;have b:=Gk y x.refs.length B (K+1+1+1) w.heap.size u.w (Ad.below HR.o n) n.size (by omega) (by omega);rw[show((K+1+1+1:Nat):Int)=(K:Int)+1+1+1 from by omega]at b;have S:=Yx b;have zF:=n.size;generalize u.w=w2 at *
   clear q2 E I u b y1 J;go_wp2_with fail;refine Calls.mono S.o ?_;rintro e w3 ⟨rfl,zA⟩;clear z3 S;go_wp2;exact⟨⟨j+1,K+1+1+1+x.refs.length,by omega,by go_num,by go_num,(by have:=HN.o;show _=_;omega),n.trans (zA.mono zF)⟩,by simp[intOf];omega⟩
  ·obtain rfl:j=a.length:=by omega
   have f:=R.o;rw[Zt (Zx)]at f;subst f;go_wp2;go_ret;exact⟨rfl,c⟩
def Ee(k:Nat)(ps:List Pd):List Pd:=(List.range ps.length).map fun i=>⟨BZ (k+i *2),BZ (k+i *2+1)⟩
def Ef(k:Nat)(ls:List Ld):List Ld:=(List.range ls.length).map fun(i:Nat)=>⟨(k:Int)+(i:Int) *3,BZ (k+i *3+1),(k:Int)+(i:Int) *3+1+1⟩
theorem EI(k:Nat)(a:List Pd):(Ee k a).length=a.length:=by simp[Ee]
theorem FG(k:Nat)(a:List Ld):(Ef k a).length=a.length:=by simp[Ef]
theorem MH{k i:Nat}{a:List Pd}(h:i<a.length):(Ee k a)[i]?=some ⟨BZ (k+i *2),BZ (k+i *2+1)⟩:=by simp[Ee,h]
theorem MI{k i:Nat}{a:List Ld}(h:i<a.length):(Ef k a)[i]?=some ⟨(k:Int)+(i:Int) *3,BZ (k+i *3+1),(k:Int)+(i:Int) *3+1+1⟩:=by simp[Ef,h]
theorem Kt:∀{zs:List Pd} {i:Nat},i<zs.length->∀y:Pd,((Ab pC zs).set (i *2) (.string y.name)).set (i *2+1) (.string y.sum)=Ab pC (zs.set i y)
 |[],i,h,_=>by simp at h
 |z::zs,0,h,y=>by simp[Ab,pC]
 |z::zs,i+1,h,y=>by
  have b:=Kt (zs:=zs) (i:=i) (by simpa using h) y;have e:Ab pC (z::zs)=pC z++Ab pC zs:=by simp[Ab]
  have a:Ab pC ((z::zs).set (i+1) y)=pC z++Ab pC (zs.set i y):=by simp[Ab]
  rw[e,a,←b,show(i+1) *2=(pC z).length+i *2 by rw[BU];omega];rw[List.set_append_right _ _ (by omega),Nat.add_sub_cancel_left,show(pC z).length+i *2+1=(pC z).length+(i *2+1) by omega,List.set_append_right _ _ (by omega),Nat.add_sub_cancel_left]
theorem Ku:∀{zs:List Ld} {i:Nat},i<zs.length->∀y:Ld,(((Ab lC zs).set (i *3) (Zg y.num)).set (i *3+1) (.string y.sum)).set (i *3+2) (Zg y.bf)=Ab lC (zs.set i y)
 |[],i,h,_=>by simp at h
 |z::zs,0,h,y=>by simp[Ab,lC]
 |z::zs,i+1,h,y=>by
  have b:=Ku (zs:=zs) (i:=i) (by simpa using h) y;have e:Ab lC (z::zs)=lC z++Ab lC zs:=by simp[Ab]
  have a:Ab lC ((z::zs).set (i+1) y)=lC z++Ab lC (zs.set i y):=by simp[Ab]
  rw[e,a,←b,show(i+1) *3=(lC z).length+i *3 by rw[Cz];omega];rw[List.set_append_right _ _ (by omega),Nat.add_sub_cancel_left,show(lC z).length+i *3+1=(lC z).length+(i *3+1) by omega,List.set_append_right _ _ (by omega),Nat.add_sub_cancel_left,show(lC z).length+i *3+2=(lC z).length+(i *3+2) by omega,List.set_append_right _ _ (by omega),Nat.add_sub_cancel_left]
theorem LN(a:Zk)(b k:Nat)(w:Zh):Calls prog 58 #[.slice a 0 b,Zg k] w fun e c=>e=.returned (Zg k)/\c=w:=by
 go_enter func58,ntmps58;go_wp2
 go_loopw [1,5] (fun v i wr=>v=Zg k/\i=Zg 0/\wr=w) (fun _ _ _=>0)
 case atStart=>exact⟨rfl,rfl,rfl⟩
 case round=>
  obtain⟨rfl,rfl,rfl⟩:=hrel;go_wp2;go_ret;exact⟨rfl,rfl⟩
theorem LO(a:Zk)(b k:Nat)(w:Zh):Calls prog 119 #[.slice a 0 b,Zg k] w fun e c=>e=.returned (Zg k)/\c=w:=by
 go_enter func119,ntmps119;go_wp2
 go_loopw [1,5] (fun v i wr=>v=Zg k/\i=Zg 0/\wr=w) (fun _ _ _=>0)
 case atStart=>exact⟨rfl,rfl,rfl⟩
 case round=>
  obtain⟨rfl,rfl,rfl⟩:=hrel;go_wp2;go_ret;exact⟨rfl,rfl⟩
theorem Nh(a:Zk)(b k:Nat)(w:Zh):Calls prog 59 #[.slice a 0 b,Zg k] w fun e c=>e=.returned (Zg k)/\c=w:=by
 go_enter func59,ntmps59;go_wp2
 go_loopw [1,5] (fun v i wr=>v=Zg k/\i=Zg 0/\wr=w) (fun _ _ _=>0)
 case atStart=>exact⟨rfl,rfl,rfl⟩
 case round=>
  obtain⟨rfl,rfl,rfl⟩:=hrel;go_wp2;go_ret;exact⟨rfl,rfl⟩
theorem Ni(a:Zk)(b k:Nat)(w:Zh):Calls prog 120 #[.slice a 0 b,Zg k] w fun e c=>e=.returned (Zg k)/\c=w:=by
 go_enter func120,ntmps120;go_wp2
 go_loopw [1,5] (fun v i wr=>v=Zg k/\i=Zg 0/\wr=w) (fun _ _ _=>0)
 case atStart=>exact⟨rfl,rfl,rfl⟩
 case round=>
  obtain⟨rfl,rfl,rfl⟩:=hrel;go_wp2;go_ret;exact⟨rfl,rfl⟩
theorem Ll(a:Zk)(b k:Nat)(w:Zh):Calls prog 60 #[.slice a 0 b,Zg k] w fun e c=>e=.returned (Zg k)/\c=w:=by
 go_enter func60,ntmps60;go_wp2
 go_loopw [1,5] (fun v i wr=>v=Zg k/\i=Zg 0/\wr=w) (fun _ _ _=>0)
 case atStart=>exact⟨rfl,rfl,rfl⟩
 case round=>
  obtain⟨rfl,rfl,rfl⟩:=hrel;go_wp2;go_ret;exact⟨rfl,rfl⟩
theorem Lm(a:Zk)(b k:Nat)(w:Zh):Calls prog 121 #[.slice a 0 b,Zg k] w fun e c=>e=.returned (Zg k)/\c=w:=by
 go_enter func121,ntmps121;go_wp2
 go_loopw [1,5] (fun v i wr=>v=Zg k/\i=Zg 0/\wr=w) (fun _ _ _=>0)
 case atStart=>exact⟨rfl,rfl,rfl⟩
 case round=>
  obtain⟨rfl,rfl,rfl⟩:=hrel;go_wp2;go_ret;exact⟨rfl,rfl⟩
theorem UU(base g d k:Nat)(a:List Pd)(w:Zh)(h:w.ownsRow base 142 2 (Za g a.length d) a.length (Ab pC a))(T:1<=k)(P:k+a.length *2<=100000000):
 Calls prog 59 #[Za g a.length d,Zg k] w fun e A=>e=.returned (Zg (k+a.length *2:Nat))/\A.ownsRow base 142 2 (Za g a.length d) a.length (Ab pC (Ee k a))/\w.grownBy A (some g):=by
 have s:=Yx h;clear h;go_enter func59,ntmps59;go_wp2
 go_loopw [1,5] (fun v i wr=>∃(j K:Nat) (c:List Pd),j<=a.length/\i=Zg j/\v=Zg K/\K=k+j *2/\Hid (c.length=a.length/\(∀i,i<j->c[i]?=(Ee k a)[i]?)/\wr.ownsRow base 142 2 (Za g a.length d) a.length (Ab pC c)/\w.grownBy wr (some g))) (fun _ i _=>a.length -(intOf i).toNat)
 case atStart=>exact⟨0,k,a,Nat.zero_le _,rfl,rfl,by omega,rfl,(fun i h=>by omega),s.o,EJ _ _⟩
 case round=>
  clear s;obtain⟨j,K,c,S,rfl,rfl,r,b⟩:=hrel;by_cases hlt:j<a.length
  ·have H:(j:Int)<a.length:=by omega
   have x:Hid (j *2+2<=(Ab pC c).length):=by show _<=_;have:=b.o.2.2.1.1;omega
   have p:=Yx r;have N:1<=K:=by omega
   have O:K+2<=100000000:=by omega
   clear r;go_wp2_with fail;refine(CC K _ _ rfl (by omega) (by omega)).mono ?_;rintro e J ⟨rfl,n⟩;have f:=x.o;have l:=Ag b.o.2.2.1 n;obtain⟨U,c2⟩:∃v,J.cell? (Ze g (j *2))=some v:=⟨_,(l.cellAt (j *2) (by omega)).trans (Zv (by omega))⟩;have I:=l.frozenAt (j *2);have t:=Yx (Zn (l.stored (j *2) (.string (BZ K))).1 (Aw b.o.2.2.2 (Aw (AA _ n) (l.stored (j *2) (.string (BZ K))).2)));clear l n f
   go_wp2_with fail;refine(CC (K+1) _ _ (by omega) (by omega) (by omega)).mono ?_;rintro e L ⟨rfl,o⟩;have f:=x.o;have m:=Ag t.o.1 o;have E:j *2+2<=((Ab pC c).set (j *2) (.string (BZ K))).length:=by simpa using f
   obtain⟨V,c3⟩:∃v,L.cell? (Ze g (j *2+1))=some v:=⟨_,(m.cellAt (j *2+1) (by omega)).trans (Zv (by omega))⟩;have Q:=m.frozenAt (j *2+1);have G:=b.o.1;have q:=(m.stored (j *2+1) (.string (BZ (K+1)))).1;rw[Kt (by omega) ⟨BZ K,BZ (K+1)⟩]at q;have u:=Yx (Zn q (Aw t.o.2 (Aw (AA _ o) (m.stored (j *2+1) (.string (BZ (K+1)))).2)));clear m q o c2 I f E G;go_wp2
   refine⟨⟨j+1,K+1+1,c.set j ⟨BZ K,BZ (K+1)⟩,by omega,by go_num,by go_num,by have:=p.o;omega,by rw[List.length_set];exact b.o.1,?_,u.o.1,u.o.2⟩,by simp[intOf];omega⟩;intro i R;rcases Nat.lt_or_ge i j with z|z
   ·rw[List.getElem?_set_ne (by omega)];exact b.o.2.1 i z
   ·obtain rfl:i=j:=by omega
    rw[List.getElem?_set_self (by have:=b.o.1;omega),MH hlt,←p.o]
  ·obtain rfl:j=a.length:=by omega
   subst r;obtain⟨M,B,C,D⟩:=b.o;have F:c=Ee k a:=by
    apply List.ext_getElem?;intro i;rcases Nat.lt_or_ge i a.length with h|h
    ·exact B i h
    ·rw[List.getElem?_eq_none (by omega),List.getElem?_eq_none (by rw[EI];omega)]
   subst F;have y:=Yx (Zn C D);clear M B C D b;go_wp2;go_ret;exact⟨rfl,y.o.1,y.o.2⟩
theorem Rk(base g d k:Nat)(a:List Ld)(w:Zh)(h:w.ownsRow base 144 3 (Za g a.length d) a.length (Ab lC a))(U:1<=k)(P:k+a.length *3<=100000000):
 Calls prog 60 #[Za g a.length d,Zg k] w fun e B=>e=.returned (Zg (k+a.length *3:Nat))/\B.ownsRow base 144 3 (Za g a.length d) a.length (Ab lC (Ef k a))/\w.grownBy B (some g):=by
 have t:=Yx h;clear h;go_enter func60,ntmps60;go_wp2
 go_loopw [1,5] (fun v i wr=>∃(j K:Nat) (c:List Ld),j<=a.length/\i=Zg j/\v=Zg K/\K=k+j *3/\Hid (c.length=a.length/\(∀i,i<j->c[i]?=(Ef k a)[i]?)/\wr.ownsRow base 144 3 (Za g a.length d) a.length (Ab lC c)/\w.grownBy wr (some g))) (fun _ i _=>a.length -(intOf i).toNat)
 case atStart=>exact⟨0,k,a,Nat.zero_le _,rfl,rfl,by omega,rfl,(fun i h=>by omega),t.o,EJ _ _⟩
 case round=>
  clear t;obtain⟨j,K,c,T,rfl,rfl,q,b⟩:=hrel;by_cases hlt:j<a.length
  ·have J:(j:Int)<a.length:=by omega
   have y:Hid (j *3+3<=(Ab lC c).length):=by show _<=_;have:=b.o.2.2.1.1;omega
   have o:=Yx q;have N:1<=K:=by omega
   have O:K+3<=100000000:=by omega
   clear q;have l:=y.o;have m:=b.o.2.2.1;obtain⟨V,c2⟩:∃v,wr.cell? (Ze g (j *3))=some v:=⟨_,(m.cellAt (j *3) (by omega)).trans (Zv (by omega))⟩;have L:=m.frozenAt (j *3);have u:=Yx (Zn (m.stored (j *3) (Zg K)).1 (Aw b.o.2.2.2 (m.stored (j *3) (Zg K)).2));clear m l;go_wp2_with fail;refine(CC (K+1) _ _ (by omega) (by omega) (by omega)).mono ?_;rintro e C ⟨rfl,n⟩;have l:=y.o;have f:=Ag u.o.1 n
   have G:j *3+3<=((Ab lC c).set (j *3) (Zg K)).length:=by simpa using l
   obtain⟨W,c3⟩:∃v,C.cell? (Ze g (j *3+1))=some v:=⟨_,(f.cellAt (j *3+1) (by omega)).trans (Zv (by omega))⟩;have Q:=f.frozenAt (j *3+1);obtain⟨X,c4⟩:∃v,C.cell? (Ze g (j *3+2))=some v:=⟨_,(f.cellAt (j *3+2) (by omega)).trans (Zv (by omega))⟩;have R:=f.frozenAt (j *3+2);have I:=b.o.1;have r:=f.stored (j *3+1) (.string (BZ (K+1)));have s:=r.1.stored (j *3+2) (Zg ((K:Int)+1+1));have p:=s.1
   rw[Ku (by omega) ⟨K,BZ (K+1),(K:Int)+1+1⟩]at p;have x:=Yx (Zn p (Aw u.o.2 (Aw (AA _ n) (Aw r.2 s.2))));clear f p r s n c2 L l G I;go_wp2;refine⟨⟨j+1,K+1+1+1,c.set j ⟨K,BZ (K+1),(K:Int)+1+1⟩,by omega,by go_num,by go_num,by have:=o.o;omega,by rw[List.length_set];exact b.o.1,?_,x.o.1,x.o.2⟩,by simp[intOf];omega⟩;intro i S;rcases Nat.lt_or_ge i j with A|A
   ·rw[List.getElem?_set_ne (by omega)];exact b.o.2.1 i A
   ·obtain rfl:i=j:=by omega
    rw[List.getElem?_set_self (by have:=b.o.1;omega),MI hlt,o.o];simp
  ·obtain rfl:j=a.length:=by omega
   subst q;obtain⟨M,D,E,F⟩:=b.o;have H:c=Ef k a:=by
    apply List.ext_getElem?;intro i;rcases Nat.lt_or_ge i a.length with h|h
    ·exact D i h
    ·rw[List.getElem?_eq_none (by omega),List.getElem?_eq_none (by rw[FG];omega)]
   subst H;have z:=Yx (Zn E F);clear M D E F b;go_wp2;go_ret;exact⟨rfl,z.o.1,z.o.2⟩
theorem UW(base g f k:Nat)(a:List Pd)(w:Zh)(h:w.ownsRow base 142 2 (Za g a.length f) a.length (Ab pC (Ee k a)))(Q:1<=k)(O:k+a.length *2<=100000000):
 Calls prog 120 #[Za g a.length f,Zg k] w fun e d=>e=.returned (Zg (k+a.length *2:Nat))/\Zz w d:=by
 have G:=Yx h;have s:=(Ac h rfl).2;clear h;go_enter func120,ntmps120;go_wp2
 go_loopw [1,5] (fun v i wr=>∃(j K:Nat),j<=a.length/\i=Zg j/\v=Zg K/\K=k+j *2/\Zz w wr) (fun _ i _=>a.length -(intOf i).toNat)
 case atStart=>exact⟨0,k,Nat.zero_le _,rfl,rfl,by omega,Below.refl _ _⟩
 case round=>
  obtain⟨j,K,P,rfl,rfl,o,b⟩:=hrel;have E:=b.size;by_cases hlt:j<a.length
  ·have F:(j:Int)<a.length:=by omega
   have n:w.ownsRow base 142 2 (Za g a.length f) a.length (Ab pC (Ee k a)):=G.o;have C:=n.1;have c:=MH (k:=k) hlt;rw[←o]at c;have u:w.cell? (Ze g (j *2))=some (.string (BZ K)):=(n.cellAt (j *2) (by omega)).trans (Bz BU c (show 0<2 by decide));have x:=(n.cellAt (j *2+1) (by omega)).trans (Bz BU c (show 1<2 by decide));have A:=Yx o;have M:1<=K:=by omega
   have N:K+2<=100000000:=by omega
   clear o C c n;have y:=(b.cell (p:=⟨g,j *2,none⟩) s).trans u;have J:=AG.cell y (show g<wr.heap.size by omega);have l:=AG.ne wr;have q:Hid (∀m:AG wr,Calls prog 61 #[Zg K] m.w fun e d=>e=.returned (.string (BZ K))/\Below m.w.heap.size m.w d):=fun m=>CC K _ m.w rfl (by omega) (by omega);have H:=Yx x;clear u x y;go_wp2;refine AN (by kernel_rfl) (by kernel_rfl) ?_
   repeat (go_big_quiet_step (exact AG.calls (q.o _)))
   refine wpQuiet_nil ?_;intro m;have t:=b.trans (m.h.mono E);have z:=(t.cell (p:=⟨g,j *2+1,none⟩) s).trans H.o;have D:=t.size;generalize m.w=wm at *
   clear J l q m;have L:=AG.cell z (show g<wm.heap.size by omega);have l:=AG.ne wm;have r:Hid (∀m:AG wm,Calls prog 61 #[Zg ((K:Int)+1)] m.w fun e d=>e=.returned (.string (BZ (K+1)))/\Below m.w.heap.size m.w d):=fun m=>CC (K+1) _ m.w (by omega) (by omega) (by omega);clear z;go_wp2;refine AN (by kernel_rfl) (by kernel_rfl) ?_
   repeat (go_big_quiet_step (exact AG.calls (r.o _)))
   refine wpQuiet_nil ?_;intro I;have B:=t.trans (I.h.mono D);clear L l r;go_wp2;exact⟨⟨j+1,K+1+1,by omega,by go_num,by go_num,by have:=A.o;omega,B⟩,by simp[intOf];omega⟩
  ·obtain rfl:j=a.length:=by omega
   subst o;go_wp2;go_ret;exact⟨rfl,b⟩
theorem Rl(base g l k:Nat)(a:List Ld)(w:Zh)(h:w.ownsRow base 144 3 (Za g a.length l) a.length (Ab lC (Ef k a)))(L:1<=k)(I:k+a.length *3<=100000000):
 Calls prog 121 #[Za g a.length l,Zg k] w fun e q=>e=.returned (Zg (k+a.length *3:Nat))/\Zz w q:=by
 have C:=Yx h;have n:=(Ac h rfl).2;clear h;go_enter func121,ntmps121;go_wp2
 go_loopw [1,5] (fun v i wr=>∃(j K:Nat),j<=a.length/\i=Zg j/\v=Zg K/\K=k+j *3/\Zz w wr) (fun _ i _=>a.length -(intOf i).toNat)
 case atStart=>exact⟨0,k,Nat.zero_le _,rfl,rfl,by omega,Below.refl _ _⟩
 case round=>
  obtain⟨j,K,J,rfl,rfl,d,b⟩:=hrel;have A:=b.size;by_cases hlt:j<a.length
  ·have B:(j:Int)<a.length:=by omega
   have f:w.ownsRow base 144 3 (Za g a.length l) a.length (Ab lC (Ef k a)):=C.o;have z:=f.1;have c:=MI (k:=k) hlt;rw[←d]at c;have s:w.cell? (Ze g (j *3))=some (Zg K):=by have:=(f.cellAt (j *3) (by omega)).trans (Bz Cz c (show 0<3 by decide));rw[this,d];simp[lC]
   have t:=(f.cellAt (j *3+1) (by omega)).trans (Bz Cz c (show 1<3 by decide));have c2:w.cell? (Ze g (j *3+2))=some (Zg ((K:Int)+1+1)):=by have:=(f.cellAt (j *3+2) (by omega)).trans (Bz Cz c (show 2<3 by decide));rw[this,d];simp[lC]
   have x:=Yx d;have G:1<=K:=by omega
   have H:K+3<=100000000:=by omega
   clear d z c f;have F:=(b.cell (p:=⟨g,j *3,none⟩) n).trans s;have u:=(b.cell (p:=⟨g,j *3+1,none⟩) n).trans t;have E:=AG.cell u (show g<wr.heap.size by omega);have y:=AG.ne wr;have o:Hid (∀m:AG wr,Calls prog 61 #[Zg ((K:Int)+1)] m.w fun e q=>e=.returned (.string (BZ (K+1)))/\Below m.w.heap.size m.w q):=fun m=>CC (K+1) _ m.w (by omega) (by omega) (by omega);have D:=Yx c2;clear s t c2 u;go_wp2
   refine AN (by kernel_rfl) (by kernel_rfl) ?_
   repeat (go_big_quiet_step (exact AG.calls (o.o _)))
   refine wpQuiet_nil ?_;intro m;have r:=b.trans (m.h.mono A);have M:=(r.cell (p:=⟨g,j *3+2,none⟩) n).trans D.o;clear E y o F;go_wp2;exact⟨⟨j+1,K+1+1+1,by omega,by go_num,by go_num,by have:=x.o;omega,r⟩,by simp[intOf];omega⟩
  ·obtain rfl:j=a.length:=by omega
   subst d;go_wp2;go_ret;exact⟨rfl,b⟩
theorem Tu(k:Nat):∀v∈(Builtin.zeroCells #[Zf,Zd,Zf] k).toList,v.oneCell'=true:=by
 intro v a;simp only[Builtin.zeroCells,Array.toList_map,List.mem_map]at a;obtain⟨i,_,rfl⟩:=a;have b:i%3=0∨i%3=1∨i%3=2:=by omega
 show(#[Value.int .i64 0,Zd,Zf][i%3]!).oneCell'=true;rcases b with h|h|h<;>rw[h]<;>rfl
theorem Kv(w:Zh)(l:TypeId)(b o k c:Nat)(m:0<k)(h:∀j,j<k *3->(w.cell? (Ze b (o+j))).isSome=true)(i:∀j,j<k *3->w.frozen? ⟨b,o+j,none⟩=false):
 (Builtin.clear_ #[41] l #[.slice (some ⟨b,o,none⟩) k c]).run prog w=.ok (.tuple #[]) (w.setCells b o (Builtin.zeroCells #[Zf,Zd,Zf] k).toList):=by
 have d:(Builtin.zeroCells #[Zf,Zd,Zf] k).toList.length=k *3:=by rw[Array.length_toList,size_zeroCells];rfl
 have a:=run_storeCells_cells (P:=prog) b o (Builtin.zeroCells #[Zf,Zd,Zf] k).toList 0 w (by rw[d];simpa using h) (by rw[d];simpa using i) (Tu k);simp only[Nat.add_zero]at a;have g:=Mx;have f:(Value.agg #[Zf,Zd,Zf]).cells= #[Zf,Zd,Zf]:=rfl;obtain⟨e,rfl⟩:∃e,k=e+1:=⟨k -1,by omega⟩;simp[Builtin.clear_,run_underlying underlying41,g,f,a]
theorem UX{w:Zh}{base g a n:Nat}{b:List Ld}(h:w.ownsRow base 144 3 (Za g n a) n (Ab lC b)){i:Nat}(f:i<b.length)(y:Ld):(((w.setCell (Ze g (i *3)) (Zg y.num)).setCell (Ze g (i *3+1)) (.string y.sum)).setCell (Ze g (i *3+2)) (Zg y.bf)).ownsRow base 144 3 (Za g n a) n (Ab lC (b.set i y)):=by have d:=(h.stored (i *3) (Zg y.num)).1;have e:=(d.stored (i *3+1) (.string y.sum)).1;have c:=(e.stored (i *3+2) (Zg y.bf)).1;rw[Ku f y]at c;exact c
structure FH (ls cur:List Ld) (n:Int) (i j:Nat):Prop where
 len:cur.length=ls.length
 kept:cur.take i=AP (ls.take j) n
 rest:cur.drop j=ls.drop j
 lt:i<j
 le:j<=ls.length
theorem FH.start{a:List Ld}{n:Int}{i:Nat}{x:Ld}(c:a[i]?=some x)(k:x.bf<=n)(h:∀j y,j<i->a[j]?=some y->n<y.bf):FH a a n i (i+1):=by
 have d:=(Zw c).1;obtain⟨_,e⟩:=Zw c;refine⟨rfl,?_,rfl,by omega,by omega⟩;unfold AP;rw[Zu d,List.filter_append,e];have g:(a.take i).filter (fun x=> !decide (x.bf<=n))=a.take i:=List.filter_eq_self.2 (fun y l=>by
  obtain⟨j,b⟩:=List.getElem?_of_mem l;have f:=(Zw b).1;rw[List.length_take]at f;have:=h j y (by omega) (by rw[List.getElem?_take_of_lt (by omega)]at b;exact b);simp;omega)
 rw[g];simp[k]
theorem FH.at{b a:List Ld}{n:Int}{i j:Nat}(h:FH b a n i j)(c:j<b.length):a[j]?=some b[j]:=by have:=congrArg (fun l=>l[0]?) h.rest;simp only[List.getElem?_drop,Nat.add_zero]at this;rw[this,Zv c]
theorem FH.skip{a b:List Ld}{n:Int}{i j:Nat}(h:FH a b n i j)(c:j<a.length)(d:a[j].bf<=n):FH a b n i (j+1):=by
 refine⟨h.len,?_,?_,by have:=h.lt;omega,by omega⟩
 ·rw[h.kept];unfold AP;rw[Zu c,List.filter_append];simp[d]
 ·have:=congrArg (List.drop 1) h.rest;rw[List.drop_drop,List.drop_drop]at this;exact this
theorem FH.move{a b:List Ld}{n:Int}{i j:Nat}(h:FH a b n i j)(e:j<a.length)(g:n<a[j].bf):FH a (b.set i a[j]) n (i+1) (j+1):=by
 have f:=h.lt;have hlen:=h.len;have c:i<b.length:=by omega
 refine⟨by rw[List.length_set];exact hlen,?_,?_,by omega,by omega⟩
 ·have d:¬a[j].bf<=n:=by omega
  rw[Zu (by rw[List.length_set];exact c),List.take_set_of_le (Zx),h.kept,List.getElem_set_self];unfold AP;rw[Zu e,List.filter_append];simp[d]
 ·have:=congrArg (List.drop 1) h.rest;rw[List.drop_drop,List.drop_drop]at this;rw[List.drop_set_of_lt (by omega)];exact this
theorem FH.done{a b:List Ld}{n:Int}{i:Nat}(h:FH a b n i a.length):b.take i=AP a n/\(AP a n).length=i:=by have c:=h.kept;rw[Zt (Zx)]at c;refine⟨c,?_⟩;rw[←c,List.length_take];have:=h.lt;have:=h.len;omega
theorem LP(g m base b d:Nat)(n:Int)(a:List Ld)(w:Zh)(U:w.ownsRow base 144 3 (Za g a.length m) a.length (Ab lC a))(hl:a.length<=200)(hc:w.cell? (Ze b 0)=some (Yz d))(hn:w.cell? (Ze d 2)=some (Zg n))(zB:b≠g)(zF:d≠g):
 Calls prog 212 #[Za g a.length m,.func (.func 213) #[] #[Yz b]] w fun e w'=>e=.returned (Za g (AP a n).length m)/\w'.ownsRow base 144 3 (Za g (AP a n).length m) (AP a n).length (Ab lC (AP a n))/\w.grownBy w' (some g):=by
 have Y:a.length<=m/\m<=maxLen:=by
  rcases U.2 with⟨e,_⟩|⟨g',zM,l,e,hb,hg,h1,h2,h3,h4⟩
  ·cases e
  ·cases e;exact⟨h1,h2⟩
 obtain⟨zR,zK⟩:=Y;unfold maxLen at zK;have HX:=Yx (IU (some ⟨g,0,none⟩) m b d n a w (Be.own U) (by omega) hc hn);have HO:=Yx U;have HC:Hid (∀X,w.grownBy X (some g)->X.cell? (Ze b 0)=some (Yz d)/\X.cell? (Ze d 2)=some (Zg n)):=fun X hX=>⟨hX.cell hc (fun e=>zB (Option.some.inj e)),hX.cell hn (fun e=>zF (Option.some.inj e))⟩;clear U hc hn zB zF;go_enter func212,ntmps212;go_wp2_with fail
 refine Calls.mono HX.o ?_;rintro e w1 ⟨r,rfl,hr,M⟩;have I:Hid (w1.ownsRow base 144 3 (Za g a.length m) a.length (Ab lC a)):=Ag HO.o M;have G:Hid (w.grownBy w1 (some g)):=AA _ M;clear M HX HO;rcases hr with⟨rfl,t⟩|⟨i,x,rfl,R,zJ,zI⟩
 ·have HE:Hid (AP a n=a):=List.filter_eq_self.2 (fun y hy=>by have:=t y hy;simp;omega);clear t;go_wp2;go_ret;rw[HE.o];exact⟨rfl,I.o,G.o⟩
 ·have HM:Hid (FH a a n i (i+1)):=FH.start R zJ zI;have zS:((i:Int)== -1)=false:=by simp
  have P:i<a.length:=(Zw R).1;clear R zJ zI;go_wp2
  go_loopw [5,6] (fun vi vj wr=>∃(c f:Nat) (l:List Ld),vi=Zg c/\vj=Zg f/\c<f/\f<=a.length/\Hid (FH a l n c f/\wr.ownsRow base 144 3 (Za g a.length m) a.length (Ab lC l)/\w.grownBy wr (some g))) (fun _ j _=>a.length -(intOf j).toNat)
  case atStart=>exact⟨i,i+1,a,rfl,by go_num,by omega,by omega,HM.o,I.o,G.o⟩
  case round=>
   clear HM I G P;obtain⟨c,f,l,rfl,rfl,zT,zU,p⟩:=hrel;by_cases hlt:f<a.length
   ·have HG:Hid (l[f]?=some a[f]):=p.o.1.at hlt;have K:Hid (a[f].bf<=n->FH a l n c (f+1)):=fun h=>p.o.1.skip hlt h;have H:Hid (n<a[f].bf->FH a (l.set c a[f]) n (c+1) (f+1)):=fun h=>p.o.1.move hlt h;have zC:l.length=a.length:=p.o.1.len;generalize a[f]=x at *
    have A:∀k,k<3->wr.cell? (Ze g (f *3+k))=(lC x)[k]?:=fun k hk=>(p.o.2.1.cellAt (f *3+k) (by omega)).trans (Bz Cz HG.o hk);have c0:wr.cell? (Ze g (f *3))=some (Zg x.num):=by simpa [lC]using A 0 (by decide)
    have c1:wr.cell? (Ze g (f *3+1))=some (.string x.sum):=by simpa [lC]using A 1 (by decide)
    have c2:wr.cell? (Ze g (f *3+2))=some (Zg x.bf):=by simpa [lC]using A 2 (by decide)
    obtain⟨W,D⟩:∃W,W=wr.alloc (.cells #[Zg x.num,.string x.sum,Zg x.bf] 144):=⟨_,rfl⟩;have bW:=(AJ D).1;have zW:=(AJ D).2.2;have HZ:Hid (Aa W _ _):=(AJ D).2.2;have O:w.grownBy W (some g):=Aw p.o.2.2 (AA _ bW);have J:Hid (W.ownsRow base 144 3 (Za g a.length m) a.length (Ab lC l)/\w.grownBy W (some g)):=⟨Ag p.o.2.1 bW,O⟩;obtain⟨zA,zE⟩:=HC.o W O;have zH:=MB x b d n W zA zE;have HW:=Yx D
    have zP:(f:Int)<a.length:=by omega
    have zV:wr.heap.size<W.heap.size:=zW.lt;clear D A bW zW O zA zE p;go_upto_region 8 with fail;rw[←HW.o];clear HW c0 c1 c2;obtain⟨z0,z1,z2⟩:=Aa.c3 HZ.o 0 1 2;go_wp2_with fail;refine zH.mono ?_;rintro e F ⟨rfl,z⟩;have q:Hid (F.ownsRow base 144 3 (Za g a.length m) a.length (Ab lC l)/\w.grownBy F (some g)):=⟨Ag J.o.1 z,Aw J.o.2 (AA _ z)⟩;have L:=Aa.below HZ.o z;clear z0 z1 z2 z J zH HZ
    by_cases ht:x.bf<=n
    ·have E:decide (x.bf<=n)=true:=by simpa using ht
     have HS:Hid (FH a l n c (f+1)):=K.o ht;rw[E];clear E ht K H L;go_wp2;exact⟨⟨c,f+1,l,rfl,by go_num,by omega,by omega,HS.o,q.o.1,q.o.2⟩,by simp[intOf];omega⟩
    ·have E:decide (x.bf<=n)=false:=by simpa using ht
     have HS:Hid (FH a (l.set c x) n (c+1) (f+1)):=H.o (Int.not_le.1 ht);have P:c<l.length:=by omega
     have u:=UX q.o.1 P x;have B:∀o,F.frozen? ⟨g,o,none⟩=false:=fun o=>q.o.1.frozenAt o;have C:∀k,k<3->∃v,F.cell? (Ze g (c *3+k))=some v:=fun k hk=>⟨_,(q.o.1.cellAt (c *3+k) (by omega)).trans (Zv (by rw[BC Cz];omega))⟩;obtain⟨v0,s0⟩:=C 0 (by decide);obtain⟨v1,s1⟩:=C 1 (by decide);obtain⟨v2,s2⟩:=C 2 (by decide);rw[Nat.add_zero]at s0;have q0:=B (c *3);have q1:=B (c *3+1);have q2:=B (c *3+2)
     have s:=Yx (Zn u (Aw q.o.2 (Aw (Aw (Az F g (c *3) (Zg x.num)) (Az _ g (c *3+1) (.string x.sum))) (Az _ g (c *3+2) (Zg x.bf)))));obtain⟨z0,z1,z2⟩:=Aa.c3 L 0 1 2;have zO:(c:Int)<a.length:=by omega
     rw[E];clear E ht K H L u C B;go_wp2;exact⟨⟨c+1,f+1,l.set c x,by go_num,by go_num,by omega,by omega,HS.o,s.o.1,s.o.2⟩,by simp[intOf];omega⟩
   ·obtain rfl:f=a.length:=by omega
    obtain⟨Q,zG⟩:=p.o.1.done;have zC:l.length=a.length:=p.o.1.len;have HK:Hid ((AP a n).length=c/\l.take c=AP a n):=⟨zG,Q⟩;have S:=p.o.2.1;have HG:Hid (w.grownBy wr (some g)):=p.o.2.2;have hcut:wr.ownsRow base 144 3 (Za g c m) c (Ab lC (AP a n)):=by rw[←Q];have Z:=S;rw[←zC]at Z;exact Ko Cz Z c (by omega)
    have N:∀j,j<(a.length -c) *3->(wr.cell? (Ze g (c *3+j))).isSome=true/\wr.frozen? ⟨g,c *3+j,none⟩=false:=fun j T=>by refine⟨?_,S.frozenAt _⟩;rw[S.cellAt (c *3+j) (by omega),Zv (by rw[BC Cz];omega)];rfl
    have zN:=Kv wr 0 g (c *3) (a.length -c) (m -c) (by omega) (fun j T=>(N j T).1) (fun j T=>(N j T).2);have V:=Yx hcut;have e1:c<=a.length:=by omega
    have e2:¬m=c:=by omega
    have e3:c<=m:=by omega
    clear Q zG S hcut N p;go_wp2;go_ret;rw[HK.o.1];exact⟨rfl,Ha _ _ _ V.o (Zx),Aw HG.o (Cl g _ _ _)⟩
theorem LQ(a:Zk)(c b d:Nat)(n:Int)(w:Zh)(j:w.cell? (Ze b 0)=some (Yz d))(k:w.cell? (Ze d 2)=some (Zg n)):
 Calls prog 212 #[.slice a 0 c,.func (.func 213) #[] #[Yz b]] w fun e m=>e=.returned (.slice a 0 c)/\Zz w m:=by
 have h:=Yx (IU a c b d n [] w (.inl rfl) (by simp) j k);go_enter func212,ntmps212;go_wp2_with fail;refine Calls.mono h.o ?_;rintro e o ⟨r,rfl,l,f⟩;rcases l with⟨rfl,_⟩|⟨i,x,_,g,_⟩
 ·go_wp2;go_ret;exact⟨rfl,f⟩
 ·simp at g
theorem Py(base b d:Nat)(L:Value)(n:Int)(f:List Ld)(w:Zh)(k:w.ownsRow base 144 3 L f.length (Ab lC f))(s:f.length<=200)(i:w.cell? (Ze b 0)=some (Yz d))(j:w.cell? (Ze d 2)=some (Zg n))(m:L.ownBlock≠some b)(o:L.ownBlock≠some d):
 Calls prog 212 #[L,.func (.func 213) #[] #[Yz b]] w fun e h=>∃a c,e=.returned (.slice a (AP f n).length c)/\h.ownsRow base 144 3 (.slice a (AP f n).length c) (AP f n).length (Ab lC (AP f n))/\w.grownBy h L.ownBlock/\(Value.slice a (AP f n).length c).ownBlock=L.ownBlock:=by
 rcases k.2 with⟨rfl,t⟩|⟨g,l,u,rfl,_⟩
 ·have:f=[]:=List.eq_nil_of_length_eq_zero t;subst this;refine(LQ none 0 b d n w i j).mono ?_;rintro e h ⟨rfl,r⟩;exact⟨none,0,rfl,World.ownsRow_nil _ _ _ _,AA _ r,rfl⟩
 ·refine(LP g l base b d n f w k s i j (fun e=>m (by rw[e];rfl)) (fun e=>o (by rw[e];rfl))).mono ?_;rintro e h ⟨rfl,p,q⟩;exact⟨_,_,rfl,p,q,rfl⟩
theorem UY(base d m:Nat)(O P L:Value)(n i given ae:Int)(B:List Kd)(C:List Pd)(j:List Ld)(f:Int)(w:Zh)(h:DU w base d m O P L n i given ae B C j)(hl:j.length<=200)(zE:0<=i)(zF:0<=f)(hs:i+f<=1000000000):
 Calls prog 179 #[.pointer (some ⟨d,0,none⟩),.int .i64 f] w fun e r=>e=.returned (.tuple #[])/\∃M,DU r base d m O P M n (i+f) given ae B C (AP j (i+f))/\Tn (d::L.ownBlock.toList) w r:=by
 obtain⟨l,k,zC⟩:=Ar h.dr.ci;subst zC;have zG:=h.dr.box.lt;obtain⟨W,y⟩:∃W,W=w.alloc (.cells #[.pointer (some ⟨d,0,none⟩)] 146):=⟨_,rfl⟩;have N:=(AJ y).1;have E:=(AJ y).2.2;have o:=h.below N;obtain⟨X,z⟩:∃X,X=W.setCell ⟨d,2,none⟩ (.int .i64 (i+f)):=⟨_,rfl⟩;have D:Tn [d] W X:=by rw[z];exact EA _ _ _ _
 have x:Aa X d [.int .i64 n,.map (some m),.int .i64 (i+f),.int .i64 given,.int .i64 ae,O,P,.slice l j.length k]:=by rw[z];exact o.dr.box.set 2 _
 have V:Aa X w.heap.size [.pointer (some ⟨d,0,none⟩)]:=Aa.same E (D.block _ E.lt (by simp;omega));have u:∀g,(Value.slice l j.length k).ownBlock=some g->g≠d:=fun g A=>((Dp h.dr.ap).2.2.2 g A).1;have H:X.ownsRow base 144 3 (.slice l j.length k) j.length (Ab lC j):=Ak o.dr.ci (fun g A=>D.block g (Ac o.dr.ci A).2 (by simp;exact u g A))
 have F:(Value.slice l j.length k).ownBlock≠some w.heap.size:=fun e=>by have:=(Ac h.dr.ci e).2;omega
 have G:(Value.slice l j.length k).ownBlock≠some d:=fun e=>u d e rfl
 have HF:Hid (∀Y,Zz X Y->Calls prog 212 #[.slice l j.length k,.func (.func 213) #[] #[.pointer (some ⟨w.heap.size,0,none⟩)]] Y fun e r=>∃a c,e=.returned (.slice a (AP j (i+f)).length c)/\r.ownsRow base 144 3 (.slice a (AP j (i+f)).length c) (AP j (i+f)).length (Ab lC (AP j (i+f)))/\Y.grownBy r (Value.slice l j.length k).ownBlock/\(Value.slice a (AP j (i+f)).length c).ownBlock=(Value.slice l j.length k).ownBlock):=fun Y Q=>
  Py base w.heap.size d _ (i+f) j Y (Ag H Q) hl ((Aa.below V Q) 0 _ rfl).1 ((x.below Q) 2 _ rfl).1 F G
 have HD:Hid (DU W base d m O P (.slice l j.length k) n i given ae B C j):=o;have zA:Hid (Zz w W):=N;have zB:Hid (Tn [d] W X):=D;have s:Hid (Aa X d [.int .i64 n,.map (some m),.int .i64 (i+f),.int .i64 given,.int .i64 ae,O,P,.slice l j.length k]):=x;have t:Hid (Aa X w.heap.size [.pointer (some ⟨d,0,none⟩)]):=V;have HW:Hid _:=y;have HX:Hid _:=z;obtain⟨U,_⟩:=E 0 _ rfl;obtain⟨c2,f2⟩:=o.dr.box 2 _ rfl
 have zI:IntKind.i64.wrap (i+f)=i+f:=Hb zE (by omega) zF (by omega);have zH:¬(1000000000<i+f):=by omega
 clear h N E o z y D x V H;go_enter func179,ntmps179;go_upto_region 1 with fail;rw[←HW.o];clear HW;go_upto_region 4 with fail;rw[←HX.o];clear HX U c2 f2;have Z:Below X.heap.size X X.drew:=(Below.refl _ _).drew;obtain⟨U,_⟩:=t.o 0 _ rfl;obtain⟨c7,_⟩:=s.o 7 _ rfl
 go_region_with (go_at_call 212;refine Calls.mono (HF.o X.drew Z) ?_;rintro e q ⟨S,T,rfl,I,p,J⟩;have v:Aa q d [.int .i64 n,.map (some m),.int .i64 (i+f),.int .i64 given,.int .i64 ae,O,P,.slice l j.length k]:=Aa.same s.o (p.block d s.o.lt (fun e=>G e.symm));have K:Aa q w.heap.size [.pointer (some ⟨d,0,none⟩)]:=Aa.same t.o (p.block w.heap.size t.o.lt (fun e=>F e.symm));obtain⟨g7,k7⟩:=v 7 _ rfl;obtain⟨y0,_⟩:=K 0 _ rfl)
 all_goals
  have hK:∃M,DU (q.setCell ⟨d,7,none⟩ (.slice S (AP j (i+f)).length T)) base d m O P M n (i+f) given ae B C (AP j (i+f))/\Tn (d::(Value.slice l j.length k).ownBlock.toList) w (q.setCell ⟨d,7,none⟩ (.slice S (AP j (i+f)).length T)):=by
   have t1:Tn (d::(Value.slice l j.length k).ownBlock.toList) W (q.setCell ⟨d,7,none⟩ (.slice S (AP j (i+f)).length T)):=
    ((zB.o.mono (by simp)).trans ((Tn.of Z).trans ((CG p).mono (fun b R=>List.mem_cons_of_mem _ R)))).trans ((EA q d 7 _).mono (by simp))
   exact⟨_,HD.o.gh t1 (v.set 7 _) (Bv I (fun b R=>u b (J▸R)) 7 _) (.inl J),(Tn.of zA.o).trans t1⟩
  have HK:Hid _:=hK;clear hK I p v K U c7;go_wp2
  go_end0
  exact⟨rfl,HK.o⟩
theorem JJ(base d m:Nat)(O P L:Value)(h q given ae:Int)(a:List Kd)(x:List Pd)(u:List Ld)(s:Zi)(w:Zh)(g:Dr w base d m O P L h q given ae a x u)(o:∀k∈a,(k.sum.size:Int)=h)(p:¬Ay a s):
 Calls prog 202 #[Yz d,.string s] w fun e y=>e=.panicked [{v:=ay 2 ⟨#[]⟩ ⟨#[]⟩,recovered:=false}]/\Zz w y:=by
 obtain⟨n,f,B,j,i⟩:=g.map;obtain⟨ok,c,b⟩:=Je h m n f a w w.heap.size s w j i.holds o;have t:ok=false:=by
  cases ok with
  |false=>rfl
  |true=>exact absurd (c.1 rfl) p
 subst t;obtain⟨z,A⟩:=Aa.c2 g.box 0 1;have r:=Yx (b w (Below.refl _ _));clear g j i c b;go_enter func202,ntmps202;go_wp2_with fail;refine Calls.mono r.o ?_;rintro e C ⟨rfl,l⟩;go_wp2;exact⟨rfl,rfl,l⟩
theorem OE(base d m:Nat)(O P L:Value)(i g given ae:Int)(b:List Kd)(l:List Pd)(j:List Ld)(s:Zi)(a:Int)(w:Zh)(h:DU w base d m O P L i g given ae b l j)(c:∀k∈b,(k.sum.size:Int)=i)(f:¬Ay b s):
 Calls prog 175 #[Yz d,.string s,Zg a] w fun e o=>e=.panicked [{v:=ay 2 ⟨#[]⟩ ⟨#[]⟩,recovered:=false}]/\Zz w o:=by
 have HN:=Yx (JJ base d m O P L i g given ae b l j s w h.dr c f);clear h c f;go_enter func175,ntmps175;go_wp2_with fail;refine Calls.mono HN.o ?_;rintro e p ⟨rfl,n⟩;go_wp2;exact⟨rfl,rfl,n⟩
theorem MJ(base d m:Nat)(O P L:Value)(p o given ae:Int)(j:List Kd)(q:List Pd)(f:List Ld)(s:Zi)(g:Int)(w:Zh)(h:DU w base d m O P L p o given ae j q f)(l:∀k∈j,(k.sum.size:Int)=p)(n:Ay j s)(a:f.length=200∨given=1000000000):
 Calls prog 175 #[Yz d,.string s,Zg g] w fun e u=>e=.panicked [{v:=ay 4 ⟨#[]⟩ ⟨#[]⟩,recovered:=false}]/\Zz w u:=by
 have HN:=Yx (Ez base d m O P L p o given ae j q f s w h.dr l n);obtain⟨A,z,r⟩:=Ar h.dr.ci;subst r;have i:=Yx h;clear h l n;by_cases h1:f.length=200
 ·have t:((f.length:Int)==200)=true:=by simp;omega
  clear a h1;go_enter func175,ntmps175;go_wp2_with fail;refine Calls.mono HN.o ?_;rintro e x ⟨rfl,c⟩;have b:=i.o.below c;obtain⟨c3,c7⟩:=Aa.c2 b.dr.box 3 7;clear b i HN;go_wp2;exact⟨rfl,rfl,c⟩
 ·have t:((f.length:Int)==200)=false:=by simp;omega
  have y:(given==1000000000)=true:=by
   rcases a with h|h
   ·exact absurd h h1
   ·rw[h];rfl
  clear a h1;go_enter func175,ntmps175;go_wp2_with fail;refine Calls.mono HN.o ?_;rintro e x ⟨rfl,c⟩;have b:=i.o.below c;obtain⟨c3,c7⟩:=Aa.c2 b.dr.box 3 7;clear b i HN;go_wp2;exact⟨rfl,rfl,c⟩
theorem Tv(base d m:Nat)(O P L:Value)(t b given ae:Int)(p:List Kd)(r:List Pd)(q:List Ld)(a:Int)(w:Zh)(h:DU w base d m O P L t b given ae p r q)(k:0<=b)(l:b<=1000000000)(n:0<=a)(o:a<=1000000000)(x:1000000000<b+a):
 Calls prog 179 #[Yz d,Zg a] w fun e s=>e=.panicked [{v:=ay 4 ⟨#[]⟩ ⟨#[]⟩,recovered:=false}]/\Zz w s:=by
 obtain⟨W,c⟩:∃W,W=w.alloc (.cells #[Yz d] 146):=⟨_,rfl⟩;have g:=(AJ c).1;have j:=(AJ c).2.2;have i:=h.below g;have f:=Yx c;have u:=Hb k l n o;obtain⟨y,_⟩:=j 0 _ rfl;obtain⟨c2,_⟩:=i.dr.box 2 _ rfl;clear h i c j;go_enter func179,ntmps179;go_upto_region 1 with fail;rw[←f.o];clear f;go_wp2;exact⟨rfl,rfl,g⟩
theorem Ln(a:Zk)(b:Nat)(n:Int)(w:Zh):
 Calls prog 208 #[.slice a 0 b,Zg n,.func (.func 209) #[] #[]] w fun e c=>e=.returned (.tuple #[Zf,.bool false])/\Zz w c:=by
 go_enter func208,ntmps208;go_wp2
 go_loopw [9,10] (fun i j wr=>i=Zg 0/\j=Zg 0/\wr=w) (fun _ _ _=>0)
 case atStart=>exact⟨rfl,rfl,rfl⟩
 case round=>
  obtain⟨rfl,rfl,rfl⟩:=hrel;go_wp2
  go_ret2
  exact⟨by first|rfl|simp[Act.put],Below.refl _ _⟩
theorem Nj(a:Zk)(b:Nat)(n:Zi)(w:Zh):
 Calls prog 225 #[.slice a 0 b,.string n,.func (.func 226) #[] #[]] w fun e c=>e=.returned (.tuple #[Zf,.bool false])/\Zz w c:=by
 go_enter func225,ntmps225;go_wp2
 go_loopw [9,10] (fun i j wr=>i=Zg 0/\j=Zg 0/\wr=w) (fun _ _ _=>0)
 case atStart=>exact⟨rfl,rfl,rfl⟩
 case round=>
  obtain⟨rfl,rfl,rfl⟩:=hrel;go_wp2
  go_ret2
  exact⟨by first|rfl|simp[Act.put],Below.refl _ _⟩
theorem WB(base:Nat)(L:Value)(c:List Ld)(n:Int)(w:Zh)(f:w.ownsRow base 144 3 L c.length (Ab lC c))(o:c.length<=600)(d:c.Pairwise (fun a b=>a.num<b.num)):
 Calls prog 208 #[L,Zg n,.func (.func 209) #[] #[]] w fun e k=>∃i:Nat,e=.returned (.tuple #[Zg i,.bool (decide (∃x,c[i]?=some x/\x.num=n))])/\Jq c n i/\Zz w k:=by
 rcases f.2 with⟨rfl,q⟩|⟨g,l,r,rfl,_⟩
 ·have:c=[]:=List.eq_nil_of_length_eq_zero q;subst this;refine(Ln none 0 n w).mono ?_;rintro e k ⟨rfl,m⟩;exact⟨0,by simp,⟨Zx,fun j x h=>by omega,fun j x _ p=>by simp at p⟩,m⟩
 ·exact Hv g l c n w base f o d
theorem WC(base:Nat)(P:Value)(c:List Pd)(n:Zi)(w:Zh)(f:w.ownsRow base 142 2 P c.length (Ab pC c))(o:c.length<=600)(d:c.Pairwise (fun a b=>less a.name b.name=true)):
 Calls prog 225 #[P,.string n,.func (.func 226) #[] #[]] w fun e k=>∃i:Nat,e=.returned (.tuple #[Zg i,.bool (decide (∃x,c[i]?=some x/\x.name=n))])/\DJ c n i/\Zz w k:=by
 rcases f.2 with⟨rfl,q⟩|⟨g,l,r,rfl,_⟩
 ·have:c=[]:=List.eq_nil_of_length_eq_zero q;subst this;refine(Nj none 0 n w).mono ?_;rintro e k ⟨rfl,m⟩;exact⟨0,by simp,⟨Zx,fun j x h=>by omega,fun j x _ p=>by simp at p⟩,m⟩
 ·exact IT g l c n w base f o d
theorem WD(base d m:Nat)(O P L:Value)(z q given ae:Int)(t:List Kd)(u:List Pd)(g:List Ld)(n:Int)(w:Zh)(h:DU w base d m O P L z q given ae t u g)(B:g.length<=200)(c:g.Pairwise (fun a b=>a.num<b.num))(k:¬∃x∈g,x.num=n):
 Calls prog 178 #[Yz d,Zg n] w fun e y=>e=.panicked [{v:=ay 5 ⟨#[]⟩ ⟨#[]⟩,recovered:=false}]/\Zz w y:=by
 have l:=Yx (WB base L g n w h.dr.ci (by omega) c);obtain⟨C,A,o⟩:=Ar h.dr.ci;subst o;have j:=Yx k;obtain⟨c7,_⟩:=h.dr.box 7 _ rfl;clear h c k;go_enter func178,ntmps178;go_wp2_with fail;refine Calls.mono l.o ?_;rintro e D ⟨i,rfl,_,p⟩;have f:decide (∃x,g[i]?=some x/\x.num=n)=false:=by rw[decide_eq_false_iff_not];rintro⟨x,s,r⟩;exact j.o ⟨x,Zs s,r⟩
 rw[f];clear f l j c7;go_wp2;exact⟨rfl,rfl,p⟩
theorem Jv(base d m:Nat)(O P L:Value)(v q given ae:Int)(s:List Kd)(f:List Pd)(t:List Ld)(n:Zi)(w:Zh)(h:DU w base d m O P L v q given ae s f t)(z:f.length<=200)(c:f.Pairwise (fun a b=>less a.name b.name=true)):
 Calls prog 205 #[Yz d,.string n] w fun e u=>∃i:Nat,e=.returned (.tuple #[Zg i,.bool (decide (∃x,f[i]?=some x/\x.name=n))])/\DJ f n i/\Zz w u:=by
 have r:=Yx (WC base P f n w h.dr.cl (by omega) c);obtain⟨A,y,l⟩:=Ar h.dr.cl;subst l;obtain⟨c6,_⟩:=h.dr.box 6 _ rfl;clear h c;go_enter func205,ntmps205;go_wp2_with fail;refine Calls.mono r.o ?_;rintro e B ⟨i,rfl,p,o⟩;obtain⟨j,g⟩:∃j,decide (∃x,f[i]?=some x/\x.name=n)=j:=⟨_,rfl⟩;have k:=Yx g;rw[g];clear g;go_wp2
 go_ret2
 exact⟨i,by rw[k.o];rfl,p,o⟩
theorem UZ(base d m:Nat)(O P L:Value)(r l given ae:Int)(p:List Kd)(g:List Pd)(q:List Ld)(n:Zi)(w:Zh)(h:DU w base d m O P L r l given ae p g q)(t:g.length<=200)(c:g.Pairwise (fun a b=>less a.name b.name=true))(k:¬∃x∈g,x.name=n):
 Calls prog 177 #[Yz d,.string n] w fun e z=>e=.panicked [{v:=ay 5 ⟨#[]⟩ ⟨#[]⟩,recovered:=false}]/\Zz w z:=by
 have o:=Yx (Jv base d m O P L r l given ae p g q n w h t c);have j:=Yx k;clear h c k;go_enter func177,ntmps177;go_wp2_with fail;refine Calls.mono o.o ?_;rintro e A ⟨i,rfl,_,s⟩;have f:decide (∃x,g[i]?=some x/\x.name=n)=false:=by rw[decide_eq_false_iff_not];rintro⟨x,y,u⟩;exact j.o ⟨x,Zs y,u⟩
 rw[f];clear f o j;go_wp2;exact⟨rfl,rfl,s⟩
theorem BX{w:Zh}{base:Nat}{e:TypeId}{size:Nat}{v:Value}{n:Nat}{d:Zj}(h:w.ownsRow base e size v n d){g:Nat}(b:v.ownBlock=some g):∃a,w.heap[g]?=some (.cells a e):=by
 rcases h.2 with⟨rfl,_⟩|⟨i,f,a,rfl,_,c,_⟩
 ·cases b
 ·cases b;exact⟨a,c⟩
theorem DU.cm{w:Zh}{base d m:Nat}{O P L:Value}{s k given ae:Int}{p:List Kd}{r:List Pd}{q:List Ld}(h:DU w base d m O P L s k given ae p r q){R:Nat}{i:Array Value}(g:w.heap[R]?=some (.cells i 90))(o:R≠d):R∉vB d m O P L/\NS w R:=by
 refine⟨fun a=> ?_,fun i u e=>by rw[g]at e;cases e⟩;unfold vB at a;simp only[List.mem_cons,List.mem_append,Option.mem_toList]at a;rcases a with a|a|a|a|a
 ·exact o a
 ·obtain⟨n,f,_,l,_⟩:=h.dr.map;obtain⟨D,⟨t,clock,j,_⟩,_⟩:=l;rw[←a,g]at j;cases j
 ·obtain⟨c,b⟩:=BX h.dr.ord a;rw[g]at b;cases b
 ·obtain⟨c,b⟩:=BX h.dr.cl a;rw[g]at b;cases b
 ·obtain⟨c,b⟩:=BX h.dr.ci a;rw[g]at b;cases b
theorem LR(base d m:Nat)(O P L:Value)(K A given ae:Int)(I:List Kd)(J:List Pd)(k:List Ld)(s o t:Zi)(c:Int)(p:Zk)(r q:Nat)(w:Zh)(h:DU w base d m O P L K A given ae I J k)(hl:k.length<=200)(l:k.Pairwise (fun a b=>a.num<b.num))(Y:∃x∈k,x.num=c):
 Calls prog 147 #[Yz d,.agg (Ym 5 s o c t p r q)] w fun e R=>e=.returned (.agg z12.toArray)/\∃L',DU R base d m O P L' K A given ae I J (Bx k c)/\Tn (d::L.ownBlock.toList) w R:=by
 obtain⟨W,f⟩:∃W,W=((w.alloc (.cells (Ym 5 s o c t p r q) 67)).alloc (.cells Yl 90)).alloc (.cells Yl 90):=⟨_,rfl⟩;have H:=(Bh f).1;have E:=(Bh f).2.1;have T:=(Bh f).2.2.1;have X:Aa W (w.heap.size+1) z12:=by have n:=Aa.new (w.alloc (.cells (Ym 5 s o c t p r q) 67)) z12 90;rw[World.size_alloc]at n;rw[f];exact Aa.below (v:=Zf) n (Zy)
 have U:Aa W (w.heap.size+2) z12:=by have n:=Aa.new ((w.alloc (.cells (Ym 5 s o c t p r q) 67)).alloc (.cells Yl 90)) z12 90;rw[World.size_alloc,World.size_alloc]at n;rw[f];exact n
 have C:W.heap[w.heap.size+1]?=some (.cells Yl 90):=by rw[f,Below.heap_alloc _ _ _ (by simp)];have:=heap_alloc_new (w.alloc (.cells (Ym 5 s o c t p r q) 67)) (.cells Yl 90);rw[World.size_alloc]at this;exact this
 have Q:=h.below H;have zB:=h.dr.box.lt;have D:∀b∈d::L.ownBlock.toList,b<w.heap.size:=fun b j=>h.dr.cf b (by unfold vB;simp at j ⊢;rcases j with rfl|j<;>simp[*]);have M:=Yx (UG base d m O P L K A given ae I J k c W Q hl l Y);have N:=Yx f
 have i:Hid (Aa W (w.heap.size+1) z12/\Aa W (w.heap.size+2) z12/\W.heap[w.heap.size+1]?=some (.cells Yl 90)/\Zz w W/\W.heap.size=w.heap.size+3/\base<=w.heap.size):=⟨X,U,C,H,E,h.lo⟩;have y:=Yx D;obtain⟨e0,e1,e2,e3⟩:=Aa.c4 T 0 1 2 3;clear f h Q X U C H E T D;go_enter func147,ntmps147;go_upto_region 2 with fail;rw[←N.o];clear N;go_wp2_with fail;refine Calls.mono M.o ?_;rintro e S ⟨rfl,V,z,g⟩
 have zz:=i.o.2.2.2.2.1;have G:=Aa.same i.o.1 (g.block _ (by omega) (fun h=>by have:=y.o _ h;omega));have F:=Aa.same i.o.2.1 (g.block _ (by omega) (fun h=>by have:=y.o _ h;omega));have B:=(g.block _ (by omega) (fun h=>by have:=y.o _ h;omega)).trans i.o.2.2.1;have u:=Yx (Zn z (Zn g (z.cm B (by omega))))
 obtain⟨⟨y0,q0⟩,⟨y1,q1⟩,⟨y2,q2⟩,⟨y3,q3⟩,⟨y4,q4⟩,⟨y5,q5⟩,⟨y6,q6⟩,⟨y7,q7⟩,⟨y8,q8⟩,⟨y9,q9⟩,⟨Z,zC⟩,zA,zE⟩:=AZ G;obtain⟨⟨v0,_⟩,⟨v1,_⟩,⟨v2,_⟩,⟨v3,_⟩,⟨v4,_⟩,⟨v5,_⟩,⟨v6,_⟩,⟨v7,_⟩,⟨v8,_⟩,⟨v9,_⟩,⟨zF,_⟩,zG,_⟩:=AZ F;clear z g G F B e0 e1 e2 e3 M zz;go_wp2
 refine bodyPost_ret (v:=.agg z12.toArray) (by simp[results,results147,go_sem,y0,y1,y2,y3,y4,y5,y6,y7,y8,y9,Z,zA,z12]) rfl ⟨rfl,V,u.o.1.al (Bq S (w.heap.size+1) _ _ _ _ _ _ _ _ _ _ _ _) (by intro b j;simp at j;subst j;exact⟨by have:=i.o.2.2.2.2.2;omega,u.o.2.2⟩),Tn.fresh ((Tn.of i.o.2.2.2.1).trans u.o.2.1) (Bq S (w.heap.size+1) _ _ _ _ _ _ _ _ _ _ _ _) (by omega)⟩
theorem LS(base d m:Nat)(O P L:Value)(H c given ae:Int)(F:List Kd)(G:List Pd)(x:List Ld)(s l q:Zi)(a:Int)(n:Zk)(p o:Nat)(w:Zh)(h:DU w base d m O P L H c given ae F G x)(hl:x.length<=200)(T:0<=c)(U:0<=a)(hs:c+a<=1000000000):
 Calls prog 147 #[Yz d,.agg (Ym 6 s l a q n p o)] w fun e M=>e=.returned (.agg z12.toArray)/\∃Z,DU M base d m O P Z H (c+a) given ae F G (AP x (c+a))/\Tn (d::L.ownBlock.toList) w M:=by
 obtain⟨W,f⟩:∃W,W=((w.alloc (.cells (Ym 6 s l a q n p o) 67)).alloc (.cells Yl 90)).alloc (.cells Yl 90):=⟨_,rfl⟩;have E:=(Bh f).1;have B:=(Bh f).2.1;have Q:=(Bh f).2.2.1;have S:Aa W (w.heap.size+1) z12:=by have k:=Aa.new (w.alloc (.cells (Ym 6 s l a q n p o) 67)) z12 90;rw[World.size_alloc]at k;rw[f];exact Aa.below (v:=Zf) k (Zy)
 have R:Aa W (w.heap.size+2) z12:=by have k:=Aa.new ((w.alloc (.cells (Ym 6 s l a q n p o) 67)).alloc (.cells Yl 90)) z12 90;rw[World.size_alloc,World.size_alloc]at k;rw[f];exact k
 have z:W.heap[w.heap.size+1]?=some (.cells Yl 90):=by rw[f,Below.heap_alloc _ _ _ (by simp)];have:=heap_alloc_new (w.alloc (.cells (Ym 6 s l a q n p o) 67)) (.cells Yl 90);rw[World.size_alloc]at this;exact this
 have K:=h.below E;have zA:=h.dr.box.lt;have A:∀b∈d::L.ownBlock.toList,b<w.heap.size:=fun b j=>h.dr.cf b (by unfold vB;simp at j ⊢;rcases j with rfl|j<;>simp[*]);have I:=Yx (UY base d m O P L H c given ae F G x a W K hl T U hs);have J:=Yx f
 have i:Hid (Aa W (w.heap.size+1) z12/\Aa W (w.heap.size+2) z12/\W.heap[w.heap.size+1]?=some (.cells Yl 90)/\Zz w W/\W.heap.size=w.heap.size+3/\base<=w.heap.size):=⟨S,R,z,E,B,h.lo⟩;have t:=Yx A;obtain⟨e0,e1,e2,e3⟩:=Aa.c4 Q 0 1 2 3;clear f h K S R z E B Q A;go_enter func147,ntmps147;go_upto_region 2 with fail;rw[←J.o];clear J;go_wp2_with fail;refine Calls.mono I.o ?_;rintro e N ⟨rfl,V,u,g⟩
 have zz:=i.o.2.2.2.2.1;have D:=Aa.same i.o.1 (g.block _ (by omega) (fun h=>by have:=t.o _ h;omega));have C:=Aa.same i.o.2.1 (g.block _ (by omega) (fun h=>by have:=t.o _ h;omega));have y:=(g.block _ (by omega) (fun h=>by have:=t.o _ h;omega)).trans i.o.2.2.1;have r:=Yx (Zn u (Zn g (u.cm y (by omega))))
 obtain⟨⟨y0,q0⟩,⟨y1,q1⟩,⟨y2,q2⟩,⟨y3,q3⟩,⟨y4,q4⟩,⟨y5,q5⟩,⟨y6,q6⟩,⟨y7,q7⟩,⟨y8,q8⟩,⟨y9,q9⟩,⟨X,zB⟩,Y,zC⟩:=AZ D;obtain⟨⟨v0,_⟩,⟨v1,_⟩,⟨v2,_⟩,⟨v3,_⟩,⟨v4,_⟩,⟨v5,_⟩,⟨v6,_⟩,⟨v7,_⟩,⟨v8,_⟩,⟨v9,_⟩,⟨zE,_⟩,zF,_⟩:=AZ C;clear u g D C y e0 e1 e2 e3 I zz;go_wp2
 refine bodyPost_ret (v:=.agg z12.toArray) (by simp[results,results147,go_sem,y0,y1,y2,y3,y4,y5,y6,y7,y8,y9,X,Y,z12]) rfl ⟨rfl,V,r.o.1.al (Bq N (w.heap.size+1) _ _ _ _ _ _ _ _ _ _ _ _) (by intro b j;simp at j;subst j;exact⟨by have:=i.o.2.2.2.2.2;omega,r.o.2.2⟩),Tn.fresh ((Tn.of i.o.2.2.2.1).trans r.o.2.1) (Bq N (w.heap.size+1) _ _ _ _ _ _ _ _ _ _ _ _) (by omega)⟩
theorem Lo(base d m:Nat)(O P L:Value)(K A given ae:Int)(I:List Kd)(l:List Pd)(J:List Ld)(s f t:Zi)(i:Int)(p:Zk)(r q:Nat)(w:Zh)(h:DU w base d m O P L K A given ae I l J)(hl:l.length<=200)(n:l.Pairwise (fun a b=>less a.name b.name=true))(Y:∃x∈l,x.name=f):
 Calls prog 147 #[Yz d,.agg (Ym 3 s f i t p r q)] w fun e R=>e=.returned (.agg z12.toArray)/\∃P',DU R base d m O P' L K A given ae I (Bg l f) J/\Tn (d::P.ownBlock.toList) w R:=by
 obtain⟨W,c⟩:∃W,W=((w.alloc (.cells (Ym 3 s f i t p r q) 67)).alloc (.cells Yl 90)).alloc (.cells Yl 90):=⟨_,rfl⟩;have H:=(Bh c).1;have E:=(Bh c).2.1;have T:=(Bh c).2.2.1;have X:Aa W (w.heap.size+1) z12:=by have o:=Aa.new (w.alloc (.cells (Ym 3 s f i t p r q) 67)) z12 90;rw[World.size_alloc]at o;rw[c];exact Aa.below (v:=Zf) o (Zy)
 have U:Aa W (w.heap.size+2) z12:=by have o:=Aa.new ((w.alloc (.cells (Ym 3 s f i t p r q) 67)).alloc (.cells Yl 90)) z12 90;rw[World.size_alloc,World.size_alloc]at o;rw[c];exact o
 have C:W.heap[w.heap.size+1]?=some (.cells Yl 90):=by rw[c,Below.heap_alloc _ _ _ (by simp)];have:=heap_alloc_new (w.alloc (.cells (Ym 3 s f i t p r q) 67)) (.cells Yl 90);rw[World.size_alloc]at this;exact this
 have Q:=h.below H;have zB:=h.dr.box.lt;have D:∀b∈d::P.ownBlock.toList,b<w.heap.size:=fun b k=>h.dr.cf b (by unfold vB;simp at k ⊢;rcases k with rfl|k<;>simp[*]);have M:=Yx (SM base d m O P L K A given ae I l J f W Q hl n Y);have N:=Yx c
 have j:Hid (Aa W (w.heap.size+1) z12/\Aa W (w.heap.size+2) z12/\W.heap[w.heap.size+1]?=some (.cells Yl 90)/\Zz w W/\W.heap.size=w.heap.size+3/\base<=w.heap.size):=⟨X,U,C,H,E,h.lo⟩;have y:=Yx D;obtain⟨e0,e1,e2,e3⟩:=Aa.c4 T 0 1 2 3;clear c h Q X U C H E T D;go_enter func147,ntmps147;go_upto_region 2 with fail;rw[←N.o];clear N;go_wp2_with fail;refine Calls.mono M.o ?_;rintro e S ⟨rfl,V,z,g⟩
 have zz:=j.o.2.2.2.2.1;have G:=Aa.same j.o.1 (g.block _ (by omega) (fun h=>by have:=y.o _ h;omega));have F:=Aa.same j.o.2.1 (g.block _ (by omega) (fun h=>by have:=y.o _ h;omega));have B:=(g.block _ (by omega) (fun h=>by have:=y.o _ h;omega)).trans j.o.2.2.1;have u:=Yx (Zn z (Zn g (z.cm B (by omega))))
 obtain⟨⟨y0,q0⟩,⟨y1,q1⟩,⟨y2,q2⟩,⟨y3,q3⟩,⟨y4,q4⟩,⟨y5,q5⟩,⟨y6,q6⟩,⟨y7,q7⟩,⟨y8,q8⟩,⟨y9,q9⟩,⟨Z,zC⟩,zA,zE⟩:=AZ G;obtain⟨⟨v0,_⟩,⟨v1,_⟩,⟨v2,_⟩,⟨v3,_⟩,⟨v4,_⟩,⟨v5,_⟩,⟨v6,_⟩,⟨v7,_⟩,⟨v8,_⟩,⟨v9,_⟩,⟨zF,_⟩,zG,_⟩:=AZ F;clear z g G F B e0 e1 e2 e3 M zz;go_wp2
 refine bodyPost_ret (v:=.agg z12.toArray) (by simp[results,results147,go_sem,y0,y1,y2,y3,y4,y5,y6,y7,y8,y9,Z,zA,z12]) rfl ⟨rfl,V,u.o.1.al (Bq S (w.heap.size+1) _ _ _ _ _ _ _ _ _ _ _ _) (by intro b k;simp at k;subst k;exact⟨by have:=j.o.2.2.2.2.2;omega,u.o.2.2⟩),Tn.fresh ((Tn.of j.o.2.2.2.1).trans u.o.2.1) (Bq S (w.heap.size+1) _ _ _ _ _ _ _ _ _ _ _ _) (by omega)⟩
theorem LU(d:Nat)(s j p:Zi)(g:Int)(m:Zk)(o n:Nat)(c:Int)(a b:Zi)(w:Zh)(h:∀X,Zz w X->Calls prog 177 #[Yz d,.string j] X fun e k=>e=.panicked [{v:=ay c a b,recovered:=false}]/\Zz X k):
 Calls prog 147 #[Yz d,.agg (Ym 3 s j g p m o n)] w fun e k=>e=.panicked [{v:=ay c a b,recovered:=false}]/\Zz w k:=by
 obtain⟨W,f⟩:∃W,W=((w.alloc (.cells (Ym 3 s j g p m o n) 67)).alloc (.cells Yl 90)).alloc (.cells Yl 90):=⟨_,rfl⟩;have i:=(Bh f).1;have q:=(Bh f).2.2.1;have t:=Yx (h W i);have l:=Yx f;obtain⟨u,x,y,z⟩:=Aa.c4 q 0 1 2 3;clear f q h;go_enter func147,ntmps147;go_upto_region 2 with fail;rw[←l.o];clear l;go_wp2_with fail;refine Calls.mono t.o ?_;rintro e A ⟨rfl,r⟩;exact⟨rfl,rfl,i.trans (r.mono i.size)⟩
theorem It(d:Nat)(s l p:Zi)(f:Int)(m:Zk)(o n:Nat)(c:Int)(a b:Zi)(w:Zh)(h:∀X,Zz w X->Calls prog 175 #[Yz d,.string s,Zg f] X fun e j=>e=.panicked [{v:=ay c a b,recovered:=false}]/\Zz X j):
 Calls prog 147 #[Yz d,.agg (Ym 4 s l f p m o n)] w fun e j=>e=.panicked [{v:=ay c a b,recovered:=false}]/\Zz w j:=by
 obtain⟨W,g⟩:∃W,W=((w.alloc (.cells (Ym 4 s l f p m o n) 67)).alloc (.cells Yl 90)).alloc (.cells Yl 90):=⟨_,rfl⟩;have i:=(Bh g).1;have q:=(Bh g).2.2.1;have t:=Yx (h W i);have k:=Yx g;obtain⟨u,x,y,z⟩:=Aa.c4 q 0 1 2 3;clear g q h;go_enter func147,ntmps147;go_upto_region 2 with fail;rw[←k.o];clear k;go_wp2_with fail;refine Calls.mono t.o ?_;rintro e A ⟨rfl,r⟩;exact⟨rfl,rfl,i.trans (r.mono i.size)⟩
theorem Nk(d:Nat)(s l p:Zi)(f:Int)(m:Zk)(o n:Nat)(c:Int)(a b:Zi)(w:Zh)(h:∀X,Zz w X->Calls prog 178 #[Yz d,Zg f] X fun e j=>e=.panicked [{v:=ay c a b,recovered:=false}]/\Zz X j):
 Calls prog 147 #[Yz d,.agg (Ym 5 s l f p m o n)] w fun e j=>e=.panicked [{v:=ay c a b,recovered:=false}]/\Zz w j:=by
 obtain⟨W,g⟩:∃W,W=((w.alloc (.cells (Ym 5 s l f p m o n) 67)).alloc (.cells Yl 90)).alloc (.cells Yl 90):=⟨_,rfl⟩;have i:=(Bh g).1;have q:=(Bh g).2.2.1;have t:=Yx (h W i);have k:=Yx g;obtain⟨u,x,y,z⟩:=Aa.c4 q 0 1 2 3;clear g q h;go_enter func147,ntmps147;go_upto_region 2 with fail;rw[←k.o];clear k;go_wp2_with fail;refine Calls.mono t.o ?_;rintro e A ⟨rfl,r⟩;exact⟨rfl,rfl,i.trans (r.mono i.size)⟩
theorem Nl(d:Nat)(s l p:Zi)(f:Int)(m:Zk)(o n:Nat)(c:Int)(a b:Zi)(w:Zh)(h:∀X,Zz w X->Calls prog 179 #[Yz d,Zg f] X fun e j=>e=.panicked [{v:=ay c a b,recovered:=false}]/\Zz X j):
 Calls prog 147 #[Yz d,.agg (Ym 6 s l f p m o n)] w fun e j=>e=.panicked [{v:=ay c a b,recovered:=false}]/\Zz w j:=by
 obtain⟨W,g⟩:∃W,W=((w.alloc (.cells (Ym 6 s l f p m o n) 67)).alloc (.cells Yl 90)).alloc (.cells Yl 90):=⟨_,rfl⟩;have i:=(Bh g).1;have q:=(Bh g).2.2.1;have t:=Yx (h W i);have k:=Yx g;obtain⟨u,x,y,z⟩:=Aa.c4 q 0 1 2 3;clear g q h;go_enter func147,ntmps147;go_upto_region 2 with fail;rw[←k.o];clear k;go_wp2_with fail;refine Calls.mono t.o ?_;rintro e A ⟨rfl,r⟩;exact⟨rfl,rfl,i.trans (r.mono i.size)⟩
theorem Jw(d:Nat)(s j p:Zi)(g:Int)(m:Zk)(o n:Nat)(c:Int)(a b:Zi)(w:Zh)(h:∀X,Zz w X->Calls prog 176 #[Yz d,.string j,.string s] X fun e k=>e=.panicked [{v:=ay c a b,recovered:=false}]/\Zz X k):
 Calls prog 147 #[Yz d,.agg (Ym 2 s j g p m o n)] w fun e k=>e=.panicked [{v:=ay c a b,recovered:=false}]/\Zz w k:=by
 obtain⟨W,f⟩:∃W,W=((w.alloc (.cells (Ym 2 s j g p m o n) 67)).alloc (.cells Yl 90)).alloc (.cells Yl 90):=⟨_,rfl⟩;have i:=(Bh f).1;have q:=(Bh f).2.2.1;have t:=Yx (h W i);have l:=Yx f;obtain⟨u,x,y,z⟩:=Aa.c4 q 0 1 2 3;clear f q h;go_enter func147,ntmps147;go_upto_region 2 with fail;rw[←l.o];clear l;go_wp2_with fail;refine Calls.mono t.o ?_;rintro e A ⟨rfl,r⟩;exact⟨rfl,rfl,i.trans (r.mono i.size)⟩
theorem Lp(base d m:Nat)(O P L:Value)(C i given ae:Int)(A:List Kd)(N:List Pd)(B:List Ld)(s q y:Zi)(a:Int)(r:Zk)(u t:Nat)(w:Zh)(h:DU w base d m O P L C i given ae A N B)(zF:∀k∈A,(k.sum.size:Int)=C)(zH:Ay A s)(hl:B.length<200)(zA:0<=given)(zB:given<1000000000)(zC:0<=i)(zE:i<=1000000000)(zG:0<=a)(c:a<=1000000000):
 Calls prog 147 #[Yz d,.agg (Ym 4 s q a y r u t)] w fun e T=>e=.returned (.agg #[Zf,Zf,Zf,Zf,Zf,Zc,Zc,Zc,Zd,Zg (given+1),Zd,Zd])/\∃L',DU T base d m O P L' C i (given+1) ae A N (B++[⟨given+1,s,i+a⟩])/\Tn (d::L.ownBlock.toList) w T:=by
 obtain⟨W,f⟩:∃W,W=((w.alloc (.cells (Ym 4 s q a y r u t) 67)).alloc (.cells Yl 90)).alloc (.cells Yl 90):=⟨_,rfl⟩;have M:=(Bh f).1;have I:=(Bh f).2.1;have X:=(Bh f).2.2.1;have Z:Aa W (w.heap.size+1) z12:=by have z:=Aa.new (w.alloc (.cells (Ym 4 s q a y r u t) 67)) z12 90;rw[World.size_alloc]at z;rw[f];exact Aa.below (v:=Zf) z (Zy)
 have Y:Aa W (w.heap.size+2) z12:=by have z:=Aa.new ((w.alloc (.cells (Ym 4 s q a y r u t) 67)).alloc (.cells Yl 90)) z12 90;rw[World.size_alloc,World.size_alloc]at z;rw[f];exact z
 have G:W.heap[w.heap.size+1]?=some (.cells Yl 90):=by rw[f,Below.heap_alloc _ _ _ (by simp)];have:=heap_alloc_new (w.alloc (.cells (Ym 4 s q a y r u t) 67)) (.cells Yl 90);rw[World.size_alloc]at this;exact this
 have E:W.heap[w.heap.size+2]?=some (.cells Yl 90):=by have:=heap_alloc_new ((w.alloc (.cells (Ym 4 s q a y r u t) 67)).alloc (.cells Yl 90)) (.cells Yl 90);rw[World.size_alloc,World.size_alloc]at this;rw[f];exact this
 have S:=h.below M;have zK:=h.dr.box.lt;have H:∀b∈d::L.ownBlock.toList,b<w.heap.size:=fun b g=>h.dr.cf b (by unfold vB;simp at g ⊢;rcases g with rfl|g<;>simp[*]);have Q:=Yx (Oe base d m O P L C i given ae A N B s a W S zF zH hl zA zB zC zE zG c);have R:=Yx f
 have j:Hid (Aa W (w.heap.size+1) z12/\Aa W (w.heap.size+2) z12/\W.heap[w.heap.size+1]?=some (.cells Yl 90)/\W.heap[w.heap.size+2]?=some (.cells Yl 90)/\Zz w W/\W.heap.size=w.heap.size+3/\base<=w.heap.size):=⟨Z,Y,G,E,M,I,h.lo⟩;have n:=Yx H;obtain⟨e0,e1,e2,e3⟩:=Aa.c4 X 0 1 2 3;clear f h S Z Y G E M I X H;go_enter func147,ntmps147;go_upto_region 2 with fail;rw[←R.o];clear R;go_wp2_with fail
 refine Calls.mono Q.o ?_;rintro e U ⟨rfl,V,p,c⟩;have zz:=j.o.2.2.2.2.2.1;have K:=Aa.same j.o.1 (c.block _ (by omega) (fun h=>by have:=n.o _ h;omega));have J:=Aa.same j.o.2.1 (c.block _ (by omega) (fun h=>by have:=n.o _ h;omega));have F:=(c.block _ (by omega) (fun h=>by have:=n.o _ h;omega)).trans j.o.2.2.1;have D:=(c.block _ (by omega) (fun h=>by have:=n.o _ h;omega)).trans j.o.2.2.2.1
 have l:=Yx (Zn p (Zn c (Zn (p.cm F (by omega)) (p.cm D (by omega)))));obtain⟨⟨y0,q0⟩,⟨y1,q1⟩,⟨y2,q2⟩,⟨y3,q3⟩,⟨y4,q4⟩,⟨y5,q5⟩,⟨y6,q6⟩,⟨y7,q7⟩,⟨y8,q8⟩,⟨y9,q9⟩,⟨zI,zP⟩,zJ,zS⟩:=AZ K;obtain⟨⟨v0,p0⟩,⟨v1,p1⟩,⟨v2,p2⟩,⟨v3,p3⟩,⟨v4,p4⟩,⟨v5,p5⟩,⟨v6,p6⟩,⟨v7,p7⟩,⟨v8,p8⟩,⟨v9,p9⟩,⟨zT,zM⟩,zU,zN⟩:=AZ J;clear p c K J F D e0 e1 e2 e3 Q zz;go_wp2
 refine bodyPost_ret (v:=.agg #[Zf,Zf,Zf,Zf,Zf,Zc,Zc,Zc,Zd,Zg (given+1),Zd,Zd]) (by simp[results,results147,go_sem,y0,y1,y2,y3,y4,y5,y6,y7,y8,y9,zI,zJ]) rfl ?_
 have o:=(Tn.set (V:=[w.heap.size+1,w.heap.size+2]) U (w.heap.size+2) 9 (Zg (given+1)) (by simp)).trans (Tn.mono (Bq (U.setCell (Ze (w.heap.size+2) 9) (Zg (given+1))) (w.heap.size+1) Zf Zf Zf Zf Zf Zc Zc Zc Zd (Zg (given+1)) Zd Zd) (by simp));refine⟨rfl,V,l.o.1.al o (by intro b g;simp at g;have:=j.o.2.2.2.2.2.2;rcases g with rfl|rfl;exact⟨by omega,l.o.2.2.1⟩;exact⟨by omega,l.o.2.2.2⟩),?_⟩
 have x:=(Tn.of (V:=d::L.ownBlock.toList) j.o.2.2.2.2.1).trans l.o.2.1;exact⟨o.os.trans x.os,o.tape.trans x.tape,o.output.trans x.output,Zm x.size o.size,fun b g hv=>(o.block b (Zr g x.size) (by simp;omega)).trans (x.block b g hv)⟩
def Bw(ps:List Pd)(n s:Zi):List Pd:=ps.filter (fun x=>less x.name n)++[⟨n,s⟩]++ps.filter (fun x=> !(less x.name n)&& !decide (x.name=n))
theorem DJ.split{b:List Pd}{n:Zi}{i:Nat}(h:DJ b n i):b.filter (fun x=>less x.name n)=b.take i:=by
 have e:=(List.take_append_drop i b).symm
 conv=>lhs;rw[e]
 rw[List.filter_append,List.filter_eq_self.2 (fun x c=> ?_),List.filter_eq_nil_iff.2 (fun x c=> ?_),List.append_nil]
 ·obtain⟨j,a⟩:=List.getElem?_of_mem c;rw[List.getElem?_drop]at a;rw[h.hi (i+j) x (by omega) a];simp
 ·obtain⟨j,a⟩:=List.getElem?_of_mem c;have d:=(Zw a).1;rw[List.length_take]at d;rw[List.getElem?_take_of_lt (by omega)]at a;exact h.lo j x (by omega) a
theorem DJ.ga{b:List Pd}{n:Zi}{i:Nat}(h:DJ b n i):b.filter (fun x=> !(less x.name n)&& !decide (x.name=n))=(b.drop i).filter (fun x=> !decide (x.name=n)):=by
 have e:=(List.take_append_drop i b).symm
 conv=>lhs;rw[e]
 rw[List.filter_append,List.filter_eq_nil_iff.2 (fun x c=> ?_),List.nil_append]
 ·refine List.filter_congr (fun x c=> ?_);obtain⟨j,a⟩:=List.getElem?_of_mem c;rw[List.getElem?_drop]at a;rw[h.hi (i+j) x (by omega) a];simp
 ·obtain⟨j,a⟩:=List.getElem?_of_mem c;have d:=(Zw a).1;rw[List.length_take]at d;rw[List.getElem?_take_of_lt (by omega)]at a;rw[h.lo j x (by omega) a];simp
theorem Pz{a:List Pd}{n s:Zi}{i:Nat}(h:DJ a n i)(b:¬∃x∈a,x.name=n):Bw a n s=a.take i++[⟨n,s⟩]++a.drop i:=by unfold Bw;rw[h.split,h.ga,List.filter_eq_self.2 (fun x d=> ?_)];have c:x.name≠n:=fun e=>b ⟨x,List.mem_of_mem_drop d,e⟩;simpa using c
theorem Vb{d:List Pd}{n s:Zi}{i:Nat}{x:Pd}(h:DJ d n i)(q:d[i]?=some x)(k:x.name=n)(c:d.Pairwise (fun a b=>less a.name b.name=true)):Bw d n s=d.set i ⟨n,s⟩:=by
 obtain⟨f,e⟩:=Zw q;unfold Bw;rw[h.split,h.ga,List.drop_eq_getElem_cons f,List.filter_cons,e,k];simp only[decide_true,Bool.not_true,Bool.false_eq_true,if_false];rw[List.filter_eq_self.2 (fun y r=> ?_),List.set_eq_take_append_cons_drop,if_pos f,List.append_assoc]
 ·rfl
 ·obtain⟨j,g⟩:=List.getElem?_of_mem r;rw[List.getElem?_drop]at g;obtain⟨l,o⟩:=Zw g;have:=List.pairwise_iff_getElem.1 c i (i+1+j) f l (by omega);rw[e,o,k]at this;have m:y.name≠n:=fun p=>by rw[p,Cr]at this;cases this
  simpa using m
section
open Go.ChangeShapes Go.WideShapes Go.ChangeAt Go.RowKit Go.Lib
theorem FX:∃i:TypeInfo,prog.info? 191=some i/\i.zero=some (.agg Cv)/\i.size=8/\i.bytes=8:=by obtain⟨e,d,a,b,c⟩:=info_parts LH;exact⟨e,d,a,b,c⟩
theorem Ii{w:Zh}{b:Nat}{x:Zi}(c:w.heap[b]?=some (.cells (Am x).toArray 191 (0,0))):∀j u,(Ab Am [x])[j]?=some u->w.cell? (Ze b j)=some u:=by intro j u a;rw[Ab,List.flatMap_cons,List.flatMap_nil,List.append_nil]at a;simp only[World.cell?,c];rw[←a];simp
theorem Nn(P:Value)(a:Zl)(x:Zi)(r:Nat)(w:Zh)(base:Nat)(n:w.ownsRow base 191 8 P a.length (Ab Am a))(G:a.length<=600)(c:base<=w.heap.size)(p:w.heap[r]?=some (.cells (Am x).toArray 191 (0,0))):
 Calls prog 224 #[P,Zg a.length,Za r 1 1] w fun e s=>∃l,e=.returned l/\s.ownsRow base 191 8 l (a.length+1) (Ab Am (a++[x]))/\w.grownBy s P.ownBlock/\(l.ownBlock=P.ownBlock∨l.ownBlock=some w.heap.size):=by
 obtain⟨C,b,f,h,i⟩:=FX;obtain⟨q,s,o,d,m,_,t⟩:=run_append_own_at (P:=prog) w base 160 160 191 C _ 8 8 underlying160 b f h i rfl (by decide) P a.length (Ab Am a) n ⟨r,0,none⟩ 1 1 (Ab Am [x]) (by rw[BC Ev];rfl) (fun j u B=>by rw[Go.WideShapes.add_plain,Nat.zero_add];exact Ii p j u B) (DW _) (by unfold maxLen;omega) (by omega) c;rw[←Bt]at d;have k:=Yx (Zn d (Zn m t));clear d m t
 rcases n.2 with⟨e,y⟩|⟨g,v,D,e,F,A,E,d,m,z⟩
 ·subst e;rw[y]at k ⊢;clear n p b f h i;go_enter func224,ntmps224;go_wp2_with (at_builtin;refine Lib.wpList_append_run _ rfl _ _ _ _ rfl _ _ rfl rfl _ _ o ?_);go_ret;exact⟨q,rfl,k.o⟩
 ·subst e;clear n p b f h i A m z;unfold maxLen at d;by_cases hc:v=a.length
  ·subst hc;go_enter func224,ntmps224;go_wp2_with (at_builtin;refine Lib.wpList_append_run _ rfl _ _ _ _ rfl _ _ rfl rfl _ _ o ?_);go_ret;exact⟨q,rfl,k.o⟩
  ·go_enter func224,ntmps224;go_wp2_with (at_builtin;refine Lib.wpList_append_run _ rfl _ _ _ _ rfl _ _ rfl rfl _ _ o ?_);go_ret;exact⟨q,rfl,k.o⟩
theorem Lq(g b i:Nat)(a:Zl)(x:Zi)(q:Nat)(w:Zh)(base:Nat)(u:w.ownsRow base 191 8 (Za g a.length b) a.length (Ab Am a))(hl:a.length<=600)(hi:i<a.length)(z:a.length+1<=b)(F:q≠g)(o:w.heap[q]?=some (.cells (Am x).toArray 191 (0,0))):
 Calls prog 224 #[Za g a.length b,Zg i,Za q 1 1] w fun e L=>e=.returned (Za g (a.length+1) b)/\L.ownsRow base 191 8 (Za g (a.length+1) b) (a.length+1) (Ab Am (a.take i++[x]++a.drop i))/\w.grownBy L (some g):=by
 obtain⟨K,d,P,y,Q⟩:=FX;obtain⟨f,A,zC,M,D,N⟩:∃f,w.heap[g]?=some (.cells f 191 (0,0))/\a.length<=b/\b<=maxLen/\f.size=b *8/\f.toList.take (a.length *8)=Ab Am a:=by
  rcases u.2 with⟨e,_⟩|⟨g',R,f,e,hb,A,T,U,V,W⟩
  ·cases e
  ·cases e;exact⟨f,A,T,U,V,W⟩
 have G:=BC Ev a;have B:(Ab Am [x]).length=8:=by rw[BC Ev];rfl
 have E:((Ab Am a).drop (i *8)).length=(a.length -i) *8:=by rw[List.length_drop,G];omega
 have c:∀j,j<b *8->(w.cell? (Ze g j)).isSome=true:=fun j l=>by simp only[World.cell?,A];rw[Array.getElem?_eq_getElem (by omega)];rfl
 have O:∀I H,(callFunc 237 #[Za q 1 1,.slice (some ⟨g,(i+1) *8,none⟩) I H]).run prog w=.ok (.value (.bool false)) w:=fun I H=>by
  rw[run_callFunc_extern func237 (by kernel_rfl) (by kernel_rfl) (by kernel_rfl) (e:=Extern.SlicesOverlaps.overlaps #[160,160] #[4]) (by kernel_rfl),
   Lib.run_overlaps_apart w 160 4 191 underlying160 8 (fun w=>by simp[sizeOf,typeInfo,d,y]) ⟨q,0,none⟩ ⟨g,(i+1) *8,none⟩ 1 1 I H F 191 191 ((Am x).toArray:Array Value).size f.size (by simp only[World.shape?,o]) (by simp only[World.shape?,A]) (by rw[D];omega) (by simp only[World.frozen?,o];rfl) (by simp[World.frozen?,o])]
  rfl
 have r:∀p n J,(Builtin.copy_ #[160,160] p #[.slice (some ⟨g,(i+1) *8,none⟩) (a.length+1 -(i+1)) n,.slice (some ⟨g,i *8,none⟩) (a.length+1 -i) J]).run prog w.drew=.ok (goInt (Nat.min (a.length+1 -i) (a.length+1 -(i+1)))) (w.drew.setCells g ((i+1) *8) ((Ab Am a).drop (i *8))):=fun p n J=>
  CK w.drew 160 160 p 191 K 8 g ((i+1) *8) (a.length+1 -(i+1)) n ⟨g,i *8,none⟩ (a.length+1 -i) J ((Ab Am a).drop (i *8)) underlying160 d y (by rw[E];congr 1;show _=min _ _;omega)
   (fun j v l=>by
     rw[Go.WideShapes.add_plain];rw[List.getElem?_drop]at l;have:=(Zw l).1;exact(u.cellAt _ (by omega)).trans l)
   (fun j l=>c _ (by omega)) (fun j _=>u.frozenAt _) (fun v o=>DW _ v (List.mem_of_mem_drop o))
 obtain⟨m,k⟩:∃m,m=w.drew.setCells g ((i+1) *8) ((Ab Am a).drop (i *8)):=⟨_,rfl⟩;have C:∀p n,(Builtin.copy_ #[160,160] p #[.slice (some ⟨g,i *8,none⟩) (a.length+1 -i) n,Za q 1 1]).run prog m=.ok (goInt (Nat.min 1 (a.length+1 -i))) (m.setCells g (i *8) (Ab Am [x])):=fun p n=>
  CK m 160 160 p 191 K 8 g (i *8) (a.length+1 -i) n ⟨q,0,none⟩ 1 1 (Ab Am [x]) underlying160 d y (by rw[B,show Nat.min 1 (a.length+1 -i)=1 from Nat.min_eq_left (by omega),Nat.one_mul])
   (fun j v l=>by
     rw[Go.WideShapes.add_plain,Nat.zero_add,k,World.cell?_setCells_out g _ _ _ _ (fun h _=>absurd h F)];exact Ii o j v l)
   (fun j l=>by rw[k];exact Hp g ((Ab Am a).drop (i *8)) ((i+1) *8) w.drew (fun t ht=>c _ (by omega)) (i *8+j) (c _ (by omega))) (fun j _=>by rw[k,World.frozen?_setCells];exact u.frozenAt _) (DW _)
 have s:(m.setCells g (i *8) (Ab Am [x])).ownsRow base 191 8 (Za g (a.length+1) b) (a.length+1) (Ab Am (a.take i++[x]++a.drop i))/\w.grownBy (m.setCells g (i *8) (Ab Am [x])) (some g):=by
  refine⟨?_,?_⟩
  ·rw[Bt,Bt,←FN Ev a i (by omega),←Fi Ev a i (by omega),k];exact Mm (w:=w.drew) (Ag u ((Below.refl _ _).drew)) (by omega) B z
  ·rw[k];exact Aw (Dn (Cl g _ _ _)) (Cl g _ _ _)
 have S:=Yx s;rw[←k]at r;unfold maxLen at M;have y:¬((i:Int)=(a.length:Int)):=by omega
 have zE:(0:Int)<=(i:Int)+1:=by omega
 have zF:(i:Int)+1<=(a.length:Int)+1:=by omega
 have zG:((i:Int)+1).toNat=i+1:=by omega
 have zH:((a.length:Int)+1).toNat=a.length+1:=by omega
 have zI:(0:Int)<=(a.length:Int)+1:=by omega
 have zJ:(a.length:Int)+1<=(b:Int):=by omega
 have X:¬(b=i+1):=by omega
 have Y:¬(b=i):=by omega
 have Z:i<=a.length+1:=by omega
 have zA:(i:Int)<=(a.length:Int)+1:=by omega
 have zB:(i:Int)<=(a.length:Int):=by omega
 have mixed:prog.follows .mixedOrders=true:=by kernel_rfl
 have zK:IntKind.i64.wrap ((i:Int)+1)=(i:Int)+1:=by rw[IntKind.wrap_i64];omega
 have zM:IntKind.i64.wrap ((a.length:Int)+1)=(a.length:Int)+1:=by rw[IntKind.wrap_i64];omega
 clear u c s o A N D d P Q G B E k;go_enter func224,ntmps224;go_wp2_with (simp only[O])
 go_region_law_o (refine Er rfl _ _ 160 160 rfl (.slice (some ⟨g,(i+1) *8,none⟩) (a.length+1 -(i+1)) (b -(i+1))) (.slice (some ⟨g,i *8,none⟩) (a.length+1 -i) (b -i)) (by simp[Act.eval,Act.put]) (by simp[Act.eval,Act.put]) (r 3 (b -(i+1)) (b -i)) ?_)
 go_wp2_with (at_builtin;refine Dz _ rfl _ _ 160 160 rfl _ _ rfl rfl (C _ _) ?_);go_ret;exact⟨rfl,S.o⟩
theorem LV(g c i:Nat)(a:Zl)(x:Zi)(J:Nat)(w:Zh)(base:Nat)(H:w.ownsRow base 191 8 (Za g a.length c) a.length (Ab Am a))(hl:a.length<=600)(hi:i<a.length)(D:c<a.length+1)(C:base<=w.heap.size)(I:w.heap[J]?=some (.cells (Am x).toArray 191 (0,0))):
 Calls prog 224 #[Za g a.length c,Zg i,Za J 1 1] w fun e w'=>∃G,e=.returned (Za w.heap.size (a.length+1) G)/\w'.ownsRow base 191 8 (Za w.heap.size (a.length+1) G) (a.length+1) (Ab Am (a.take i++[x]++a.drop i))/\w.grownBy w' none:=by
 obtain⟨T,k,zB,A,O⟩:=FX;have L:g<w.heap.size:=(Ac H rfl).2;have zA:=(Array.getElem?_eq_some_iff.1 I).1;have zS:a.length<=c:=by
  rcases H.2 with⟨e,_⟩|⟨g',zH,zI,e,y,hg,h1,h2,h3,h4⟩
  ·cases e
  ·cases e;exact h1
 have z:=BC Ev a;have N:(Ab Am [x]).length=8:=by rw[BC Ev];rfl
 have X:((Ab Am a).drop (i *8)).length=(a.length -i) *8:=by rw[List.length_drop,z];omega
 have M:((Ab Am a).take (i *8)).length=i *8:=by rw[List.length_take,z];omega
 have hold:(Builtin.firstCells T.size i (Za g i c)).run prog w.drew=.ok ((Ab Am a).take (i *8)).toArray w.drew:=by
  rw[A];exact run_firstCells_some w.drew 8 i ⟨g,0,none⟩ i c ((Ab Am a).take (i *8)) M (fun j v f=>by
   rw[Go.WideShapes.add_plain,Nat.zero_add];rw[List.getElem?_take]at f;split at f
   ·exact(H.cellAt _ (by omega)).trans f
   ·cases f)
 obtain⟨G,R⟩:∃G,G=grownCap w (a.length+1) c 191:=⟨_,rfl⟩;obtain⟨o,zG,W⟩:∃o:Array Value,o=Value.cells (.agg Cv)/\o.size=8:=⟨_,rfl,by kernel_rfl⟩;obtain⟨B,Q⟩:∃B:Zj,B=(Builtin.zeroCells o (a.length+1 -i)).toList++(Builtin.zeroCells o (G -(a.length+1))).toList:=⟨_,rfl⟩;have zF:a.length+1<=G:=by rw[R];exact grownCap_ge w _ _ _
 have s:G<=maxLen:=by rw[R];exact grownCap_le_maxLen w (a.length+1) c 191 (by unfold maxLen;omega)
 have zC:i *8+B.length=G *8:=by rw[Q];simp[Builtin.zeroCells,W];omega
 have Z:∀m,(Builtin.append_ #[160,3] m #[Za g i c,Zg ((a.length:Int)+1 -(i:Int))]).run prog w=
  .ok (Za w.heap.size (a.length+1) G) (w.drew.alloc (.cells ((Ab Am a).take (i *8)++B).toArray 191)):=fun m=>by
  have Y:i+(a.length+1 -i)=a.length+1:=by omega
  have h:=Lib.run_append_grow_zeros (P:=prog) w 160 3 m 191 T _ .i64 .i64 underlying160 underlying3 k zB (some ⟨g,0,none⟩) i c ((Ab Am a).take (i *8)) hold (a.length+1 -i) (by omega) (by rw[A];omega) (by omega) (by omega) (by rw[O];omega) (by rw[O,Y];exact growslice_fits D (by omega));rw[Y,←R,←zG]at h;rw[show(a.length:Int)+1 -(i:Int)=((a.length+1 -i:Nat):Int) by omega,h,Q]
  have e:((Ab Am a).take (i *8)).toArray++Builtin.zeroCells o (a.length+1 -i)++Builtin.zeroCells o (G -(a.length+1))=((Ab Am a).take (i *8)++((Builtin.zeroCells o (a.length+1 -i)).toList++(Builtin.zeroCells o (G -(a.length+1))).toList)).toArray:=by apply Array.toList_inj.1;simp
  rw[e]
 obtain⟨d,p⟩:∃d,d=w.drew.alloc (.cells ((Ab Am a).take (i *8)++B).toArray 191):=⟨_,rfl⟩;have l:d.heap[w.heap.size]?=some (.cells ((Ab Am a).take (i *8)++B).toArray 191 (0,0)):=by rw[p];exact heap_alloc_new w.drew _
 have S:∀j,j<G *8->(d.cell? (Ze (w.heap.size) j)).isSome=true:=fun j f=>by simp only[World.cell?,l];rw[Array.getElem?_eq_getElem (by simp[M];omega)];rfl
 have K:∀j,d.frozen? ⟨w.heap.size,j,none⟩=false:=fun j=>by simp[World.frozen?,l]
 have hO:∀b,b<w.heap.size->d.heap[b]?=w.heap[b]?:=fun b y=>by rw[p];exact GD w.drew _ y
 have U:∀m r,(Builtin.copy_ #[160,160] m #[.slice (some ⟨w.heap.size,i *8,none⟩) (a.length+1 -i) r,Za J 1 1]).run prog d=.ok (goInt (Nat.min 1 (a.length+1 -i))) (d.setCells w.heap.size (i *8) (Ab Am [x])):=fun m r=>
  CK d 160 160 m 191 T 8 w.heap.size (i *8) (a.length+1 -i) r ⟨J,0,none⟩ 1 1 (Ab Am [x]) underlying160 k A (by rw[N,show Nat.min 1 (a.length+1 -i)=1 from Nat.min_eq_left (by omega),Nat.one_mul])
   (fun j v f=>by
     rw[Go.WideShapes.add_plain,Nat.zero_add,World.cell?_of_block (hO J zA)];exact Ii I j v f)
   (fun j f=>S _ (by omega)) (fun j _=>K _) (DW _)
 obtain⟨q,n⟩:∃q,q=(d.setCells w.heap.size (i *8) (Ab Am [x])).drew:=⟨_,rfl⟩;have V:∀m r sc,(Builtin.copy_ #[160,160] m #[.slice (some ⟨w.heap.size,(i+1) *8,none⟩) (a.length+1 -(i+1)) r,.slice (some ⟨g,i *8,none⟩) (a.length -i) sc]).run prog q=.ok (goInt (Nat.min (a.length -i) (a.length+1 -(i+1)))) (q.setCells w.heap.size ((i+1) *8) ((Ab Am a).drop (i *8))):=fun m r sc=>
  CK q 160 160 m 191 T 8 w.heap.size ((i+1) *8) (a.length+1 -(i+1)) r ⟨g,i *8,none⟩ (a.length -i) sc ((Ab Am a).drop (i *8)) underlying160 k A (by rw[X];congr 1;show _=min _ _;omega)
   (fun j v f=>by
     rw[List.getElem?_drop]at f;have:=(Zw f).1;rw[Go.WideShapes.add_plain,n,GB,World.cell?_setCells_out _ _ _ _ _ (fun h _=>absurd h (Nat.ne_of_lt L)),World.cell?_of_block (hO g L)];exact(H.cellAt _ (by omega)).trans f)
   (fun j f=>by rw[n,GB];exact Hp w.heap.size (Ab Am [x]) (i *8) d (fun t ht=>S _ (by omega)) ((i+1) *8+j) (S _ (by omega))) (fun j _=>by rw[n,Jb,World.frozen?_setCells];exact K _) (fun v I=>DW _ v (List.mem_of_mem_drop I))
 have u:(q.setCells w.heap.size ((i+1) *8) ((Ab Am a).drop (i *8))).ownsRow base 191 8 (Za w.heap.size (a.length+1) G) (a.length+1) (Ab Am (a.take i++[x]++a.drop i))/\w.grownBy (q.setCells w.heap.size ((i+1) *8) ((Ab Am a).drop (i *8))) none:=by
  refine⟨?_,?_⟩
  ·rw[Bt,Bt,←FN Ev a i (by omega),←Fi Ev a i (by omega),n,←Ja];exact Ag (NE (w:=d) z (by omega) N C l zC zF s) ((Below.refl _ _).drew)
  ·have s1:d.heap.size=w.heap.size+1:=by rw[p];simp
   have E:w.grownBy d none:=by rw[p];exact⟨rfl,rfl,rfl,by simp,fun b y _=>GD w.drew _ y⟩
   have F:d.grownBy (q.setCells w.heap.size ((i+1) *8) ((Ab Am a).drop (i *8))) (some w.heap.size):=by rw[n];exact Aw (Aw (Cl w.heap.size (Ab Am [x]) (i *8) d) (JR _ _)) (Cl w.heap.size ((Ab Am a).drop (i *8)) ((i+1) *8) _)
   exact⟨F.os.trans E.os,F.tape.trans E.tape,F.output.trans E.output,Zm E.size F.size,fun b y _=>(F.block b (by omega) (by simp;omega)).trans (E.block b y (by simp))⟩
 have HF:=Yx u;have zE:G<=9223372036854775807:=by unfold maxLen at s;omega
 have zW:¬((i:Int)=(a.length:Int)):=by omega
 have zX:(c:Int)<(a.length:Int)+1:=by omega
 have zT:(0:Int)<=(i:Int)+1:=by omega
 have zU:(i:Int)+1<=(a.length:Int)+1:=by omega
 have zV:((i:Int)+1).toNat=i+1:=by omega
 have zJ:¬(c=i):=by omega
 have zK:¬(G=i):=by omega
 have zM:¬(G=i+1):=by omega
 have zN:i<=a.length+1:=by omega
 have zP:(i:Int)<=(a.length:Int)+1:=by omega
 have zR:(i:Int)<=(a.length:Int):=by omega
 have mixed:prog.follows .mixedOrders=true:=by kernel_rfl
 have zO:i<=c:=by omega
 have zY:IntKind.i64.wrap ((i:Int)+1)=(i:Int)+1:=by rw[IntKind.wrap_i64];omega
 have zZ:IntKind.i64.wrap ((a.length:Int)+1)=(a.length:Int)+1:=by rw[IntKind.wrap_i64];omega
 have yA:IntKind.i64.wrap ((a.length:Int)+1 -(i:Int))=(a.length:Int)+1 -(i:Int):=by rw[IntKind.wrap_i64];omega
 rw[←p]at Z;clear H u I k zB O z N X M hold R Q zC l S K hO p L zA;go_enter func224,ntmps224;go_wp2_with (first
  |(at_builtin;refine Lib.wpList_append_run _ rfl _ _ _ _ rfl _ _ rfl rfl _ _ (Z _) ?_)
  |(at_builtin;refine Dz _ rfl _ _ 160 160 rfl _ _ rfl rfl (U _ _) ?_))
 go_region_law_o (refine Er rfl _ _ 160 160 rfl (.slice (some ⟨w.heap.size,(i+1) *8,none⟩) (a.length+1 -(i+1)) (G -(i+1))) (.slice (some ⟨g,i *8,none⟩) (a.length -i) (c -i)) (by simp[Act.eval,Act.put]) (by simp[Act.eval,Act.put]) (by rw[←n];exact V 3 (G -(i+1)) (c -i)) ?_)
 go_wp2;go_ret;rw[←n];exact⟨G,rfl,HF.o⟩
theorem No(P:Value)(i:Nat)(a:Zl)(x:Zi)(f:Nat)(w:Zh)(base:Nat)(l:w.ownsRow base 191 8 P a.length (Ab Am a))(o:a.length<=600)(B:i<=a.length)(c:base<=w.heap.size)(s:P.ownBlock≠some f)(p:w.heap[f]?=some (.cells (Am x).toArray 191 (0,0))):
 Calls prog 224 #[P,Zg i,Za f 1 1] w fun e m=>∃k,e=.returned k/\m.ownsRow base 191 8 k (a.length+1) (Ab Am (a.take i++[x]++a.drop i))/\w.grownBy m P.ownBlock/\(k.ownBlock=P.ownBlock∨k.ownBlock=some w.heap.size):=by
 rcases Nat.lt_or_ge i a.length with h|h
 ·rcases l.2 with⟨e,C⟩|⟨g,j,t,e,r,A,u,v,y,z⟩
  ·omega
  ·subst e;rcases Nat.lt_or_ge j (a.length+1)with n|n
   ·refine Calls.mono (LV g j i a x f w base l o h n c p) ?_;rintro e m ⟨G,rfl,q,d⟩;exact⟨_,rfl,q,⟨d.os,d.tape,d.output,d.size,fun b r _=>d.block b r (by simp)⟩,.inr rfl⟩
   ·refine Calls.mono (Lq g j i a x f w base l o h n (fun e=>s (by rw[e];rfl)) p) ?_;rintro e m ⟨rfl,q,d⟩;exact⟨_,rfl,q,d,.inl rfl⟩
 ·obtain rfl:i=a.length:=by omega
  rw[List.take_length,List.drop_length,List.append_nil];exact Nn P a x f w base l o c p
end
theorem Rm{w:Zh}{base g b n:Nat}{a:List Pd}(h:w.ownsRow base 142 2 (Za g n b) n (Ab pC a)){i:Nat}{x:Pd}(f:a[i]?=some x)(s:Zi):(w.setCell (Ze g (i *2+1)) (.string s)).ownsRow base 142 2 (Za g n b) n (Ab pC (a.set i ⟨x.name,s⟩)):=by
 have l:=(Zw f).1;have d:=(h.stored (i *2+1) (.string s)).1;have k:(Ab pC a)[i *2]?=some (.string x.name):=by have:=Bz BU f (show 0<2 by decide);simpa [pC]using this
 have c:=Kt l (⟨x.name,s⟩:Pd);have j:(Ab pC a).set (i *2) (.string x.name)=Ab pC a:=by obtain⟨m,e⟩:=Zw k;rw[←e];exact List.set_getElem_self m
 rw[j]at c;rw[c]at d;exact d
theorem WE(base d m:Nat)(O P L:Value)(u l given ae:Int)(r:List Kd)(c:List Pd)(C:List Ld)(n s:Zi)(w:Zh)(h:DU w base d m O P L u l given ae r c C)(J:∀k∈r,(k.sum.size:Int)=u)(y:Ay r s)(hl:c.length<=200)(o:c.Pairwise (fun a b=>less a.name b.name=true))(G:∃x∈c,x.name=n):
 Calls prog 176 #[Yz d,.string n,.string s] w fun e T=>e=.returned (.tuple #[])/\∃K,DU T base d m O K L u l given ae r (Bw c n s) C/\Tn (d::P.ownBlock.toList) w T:=by
 have H:0<c.length:=by obtain⟨x,hx,_⟩:=G;exact List.length_pos_of_mem hx
 obtain⟨g,j,U⟩:=Jr h.dr.cl H;subst U;have HN:=Yx (Ez base d m O (Za g c.length j) L u l given ae r c C s w h.dr J y);have M:=Yx h;have z:=Yx o;have I:Hid (∃x∈c,x.name=n):=G;clear h o G J y;go_enter func176,ntmps176;go_wp2_with fail;refine Calls.mono HN.o ?_;rintro e w1 ⟨rfl,A⟩;have D:=M.o.below A;have N:=Yx (Js base d m O L g j u l given ae r c C n w1 D hl z.o);clear HN;go_wp2_with fail
 refine Calls.mono N.o ?_;rintro e t ⟨i,rfl,F,E⟩;obtain⟨x,p,B⟩:=F.at I.o z.o;have v:decide (∃x,c[i]?=some x/\x.name=n)=true:=by simpa using ⟨x,p,B⟩
 have zC:i<c.length:=(Zw p).1;have Y:Hid (Bw c n s=c.set i ⟨n,s⟩):=Vb F p B z.o;have f:=D.below E;obtain⟨c6,_⟩:=f.dr.box 6 _ rfl;have zA:t.cell? (Ze g (i *2+1))=some (.string x.sum):=by have:=(f.dr.cl.cellAt (i *2+1) (by omega)).trans (Bz BU p (show 1<2 by decide));simpa [pC]using this
 have zB:t.frozen? ⟨g,i *2+1,none⟩=false:=f.dr.cl.frozenAt _;have W:g≠d:=((Dp f.dr.ap).2.2.1 g rfl).1;have q:=Rm f.dr.cl p s;rw[B]at q;have Q:∃K,DU (t.setCell (Ze g (i *2+1)) (.string s)) base d m O K L u l given ae r (Bw c n s) C/\Tn (d::(Za g c.length j).ownBlock.toList) w (t.setCell (Ze g (i *2+1)) (.string s)):=by
  have S:Tn (d::(Za g c.length j).ownBlock.toList) t (t.setCell (Ze g (i *2+1)) (.string s)):=(EA t g _ _).mono (by intro b R;simp[Value.ownBlock]at R ⊢;exact .inr R);have V:Aa (t.setCell (Ze g (i *2+1)) (.string s)) d [Zg u,.map (some m),Zg l,Zg given,Zg ae,O,Za g c.length j,L]:=Aa.same f.dr.box (Below.heap_setCell _ _ _ _ (fun e=>W e.symm))
  refine⟨Za g c.length j,f.gj S V ?_ (.inl rfl),(Tn.of (A.trans (E.mono A.size))).trans S⟩;rw[Y.o,List.length_set];exact q
 have Z:=Yx Q;have X:(i:Int)<c.length:=by omega
 rw[v];clear v Q q p B F D f A E M N I z;go_wp2;refine bodyPost_ret (results_none rfl _ _ _) rfl ?_;exact⟨rfl,Z.o⟩
theorem PA(base d m:Nat)(O P L:Value)(g f given ae:Int)(b:List Kd)(j:List Pd)(i:List Ld)(n s:Zi)(w:Zh)(h:DU w base d m O P L g f given ae b j i)(c:∀k∈b,(k.sum.size:Int)=g)(a:¬Ay b s):
 Calls prog 176 #[Yz d,.string n,.string s] w fun e o=>e=.panicked [{v:=ay 2 ⟨#[]⟩ ⟨#[]⟩,recovered:=false}]/\Zz w o:=by
 have HN:=Yx (JJ base d m O P L g f given ae b j i s w h.dr c a);clear h c a;go_enter func176,ntmps176;go_wp2_with fail;refine Calls.mono HN.o ?_;rintro e p ⟨rfl,l⟩;go_wp2;exact⟨rfl,rfl,l⟩
theorem Vc(base d m:Nat)(O P L:Value)(t r given ae:Int)(o:List Kd)(c:List Pd)(D:List Ld)(n s:Zi)(w:Zh)(h:DU w base d m O P L t r given ae o c D)(A:∀k∈o,(k.sum.size:Int)=t)(j:Ay o s)(G:c.length=100)(f:c.Pairwise (fun a b=>less a.name b.name=true))(B:¬∃x∈c,x.name=n):
 Calls prog 176 #[Yz d,.string n,.string s] w fun e Q=>e=.panicked [{v:=ay 4 ⟨#[]⟩ ⟨#[]⟩,recovered:=false}]/\Zz w Q:=by
 obtain⟨H,C,J⟩:=Ar h.dr.cl;subst J;have HN:=Yx (Ez base d m O (.slice H c.length C) L t r given ae o c D s w h.dr A j);have E:=Yx h;have u:=Yx f;have y:=Yx B;have S:((c.length:Int)==100)=true:=by simp;omega
 have I:=Yx G;clear h f B A j G;go_enter func176,ntmps176;go_wp2_with fail;refine Calls.mono HN.o ?_;rintro e R ⟨rfl,l⟩;have p:=E.o.below l;have F:=Yx (Jv base d m O (.slice H c.length C) L t r given ae o c D n R p (by have:=I.o;omega) u.o);clear HN;go_wp2_with fail;refine Calls.mono F.o ?_;rintro e T ⟨i,rfl,_,q⟩;have g:decide (∃x,c[i]?=some x/\x.name=n)=false:=by rw[decide_eq_false_iff_not];rintro⟨x,N,M⟩;exact y.o ⟨x,Zs N,M⟩
 have z:=p.below q;obtain⟨c6,_⟩:=z.dr.box 6 _ rfl;have K:=Yx (l.trans (q.mono l.size));rw[g];clear g p z l q E F y u;go_wp2;exact⟨rfl,rfl,K.o⟩
section
open Go.ChangeShapes Go.WideShapes Go.ChangeAt Go.RowKit Go.Lib
theorem FY:∃i:TypeInfo,prog.info? 142=some i/\i.zero=some (.agg #[Zd,Zd])/\i.size=2/\i.bytes=32:=by obtain⟨e,d,a,b,c⟩:=info_parts GM;exact⟨e,d,a,b,c⟩
theorem Ij{w:Zh}{b:Nat}{x:Pd}(c:w.heap[b]?=some (.cells #[.string x.name,.string x.sum] 142 (0,0))):∀j u,(Ab pC [x])[j]?=some u->w.cell? (Ze b j)=some u:=by intro j u a;rw[Ab,List.flatMap_cons,List.flatMap_nil,List.append_nil]at a;simp only[World.cell?,c];rw[←a];simp[pC]
theorem Np(P:Value)(a:List Pd)(x:Pd)(r:Nat)(w:Zh)(base:Nat)(n:w.ownsRow base 142 2 P a.length (Ab pC a))(G:a.length<=600)(c:base<=w.heap.size)(p:w.heap[r]?=some (.cells #[.string x.name,.string x.sum] 142 (0,0))):
 Calls prog 206 #[P,Zg a.length,Za r 1 1] w fun e s=>∃l,e=.returned l/\s.ownsRow base 142 2 l (a.length+1) (Ab pC (a++[x]))/\w.grownBy s P.ownBlock/\(l.ownBlock=P.ownBlock∨l.ownBlock=some w.heap.size):=by
 obtain⟨C,b,f,h,i⟩:=FY;obtain⟨q,s,o,d,m,_,t⟩:=run_append_own_at (P:=prog) w base 40 40 142 C _ 2 32 underlying40 b f h i rfl (by decide) P a.length (Ab pC a) n ⟨r,0,none⟩ 1 1 (Ab pC [x]) (by rw[BC BU];rfl) (fun j u B=>by rw[Go.WideShapes.add_plain,Nat.zero_add];exact Ij p j u B) (Jc _) (by unfold maxLen;omega) (by omega) c;rw[←Bt]at d;have k:=Yx (Zn d (Zn m t));clear d m t
 rcases n.2 with⟨e,y⟩|⟨g,v,D,e,F,A,E,d,m,z⟩
 ·subst e;rw[y]at k ⊢;clear n p b f h i;go_enter func206,ntmps206;go_wp2_with (at_builtin;refine Lib.wpList_append_run _ rfl _ _ _ _ rfl _ _ rfl rfl _ _ o ?_);go_ret;exact⟨q,rfl,k.o⟩
 ·subst e;clear n p b f h i A m z;unfold maxLen at d;by_cases hc:v=a.length
  ·subst hc;go_enter func206,ntmps206;go_wp2_with (at_builtin;refine Lib.wpList_append_run _ rfl _ _ _ _ rfl _ _ rfl rfl _ _ o ?_);go_ret;exact⟨q,rfl,k.o⟩
  ·go_enter func206,ntmps206;go_wp2_with (at_builtin;refine Lib.wpList_append_run _ rfl _ _ _ _ rfl _ _ rfl rfl _ _ o ?_);go_ret;exact⟨q,rfl,k.o⟩
theorem Lr(g b i:Nat)(a:List Pd)(x:Pd)(q:Nat)(w:Zh)(base:Nat)(u:w.ownsRow base 142 2 (Za g a.length b) a.length (Ab pC a))(hl:a.length<=600)(hi:i<a.length)(z:a.length+1<=b)(F:q≠g)(o:w.heap[q]?=some (.cells #[.string x.name,.string x.sum] 142 (0,0))):
 Calls prog 206 #[Za g a.length b,Zg i,Za q 1 1] w fun e L=>e=.returned (Za g (a.length+1) b)/\L.ownsRow base 142 2 (Za g (a.length+1) b) (a.length+1) (Ab pC (a.take i++[x]++a.drop i))/\w.grownBy L (some g):=by
 obtain⟨K,d,P,y,Q⟩:=FY;obtain⟨f,A,zC,M,D,N⟩:∃f,w.heap[g]?=some (.cells f 142 (0,0))/\a.length<=b/\b<=maxLen/\f.size=b *2/\f.toList.take (a.length *2)=Ab pC a:=by
  rcases u.2 with⟨e,_⟩|⟨g',R,f,e,hb,A,T,U,V,W⟩
  ·cases e
  ·cases e;exact⟨f,A,T,U,V,W⟩
 have G:=BC BU a;have B:(Ab pC [x]).length=2:=by rw[BC BU];rfl
 have E:((Ab pC a).drop (i *2)).length=(a.length -i) *2:=by rw[List.length_drop,G];omega
 have c:∀j,j<b *2->(w.cell? (Ze g j)).isSome=true:=fun j l=>by simp only[World.cell?,A];rw[Array.getElem?_eq_getElem (by omega)];rfl
 have O:∀I H,(callFunc 228 #[Za q 1 1,.slice (some ⟨g,(i+1) *2,none⟩) I H]).run prog w=.ok (.value (.bool false)) w:=fun I H=>by
  rw[run_callFunc_extern func228 (by kernel_rfl) (by kernel_rfl) (by kernel_rfl) (e:=Extern.SlicesOverlaps.overlaps #[40,40] #[4]) (by kernel_rfl),
   Lib.run_overlaps_apart w 40 4 142 underlying40 2 (fun w=>by simp[sizeOf,typeInfo,d,y]) ⟨q,0,none⟩ ⟨g,(i+1) *2,none⟩ 1 1 I H F 142 142 (#[.string x.name,.string x.sum]:Array Value).size f.size (by simp only[World.shape?,o]) (by simp only[World.shape?,A]) (by rw[D];omega) (by simp only[World.frozen?,o];rfl) (by simp[World.frozen?,o])]
  rfl
 have r:∀p n J,(Builtin.copy_ #[40,40] p #[.slice (some ⟨g,(i+1) *2,none⟩) (a.length+1 -(i+1)) n,.slice (some ⟨g,i *2,none⟩) (a.length+1 -i) J]).run prog w.drew=.ok (goInt (Nat.min (a.length+1 -i) (a.length+1 -(i+1)))) (w.drew.setCells g ((i+1) *2) ((Ab pC a).drop (i *2))):=fun p n J=>
  CK w.drew 40 40 p 142 K 2 g ((i+1) *2) (a.length+1 -(i+1)) n ⟨g,i *2,none⟩ (a.length+1 -i) J ((Ab pC a).drop (i *2)) underlying40 d y (by rw[E];congr 1;show _=min _ _;omega)
   (fun j v l=>by
     rw[Go.WideShapes.add_plain];rw[List.getElem?_drop]at l;have:=(Zw l).1;exact(u.cellAt _ (by omega)).trans l)
   (fun j l=>c _ (by omega)) (fun j _=>u.frozenAt _) (fun v o=>Jc _ v (List.mem_of_mem_drop o))
 obtain⟨m,k⟩:∃m,m=w.drew.setCells g ((i+1) *2) ((Ab pC a).drop (i *2)):=⟨_,rfl⟩;have C:∀p n,(Builtin.copy_ #[40,40] p #[.slice (some ⟨g,i *2,none⟩) (a.length+1 -i) n,Za q 1 1]).run prog m=.ok (goInt (Nat.min 1 (a.length+1 -i))) (m.setCells g (i *2) (Ab pC [x])):=fun p n=>
  CK m 40 40 p 142 K 2 g (i *2) (a.length+1 -i) n ⟨q,0,none⟩ 1 1 (Ab pC [x]) underlying40 d y (by rw[B,show Nat.min 1 (a.length+1 -i)=1 from Nat.min_eq_left (by omega),Nat.one_mul])
   (fun j v l=>by
     rw[Go.WideShapes.add_plain,Nat.zero_add,k,World.cell?_setCells_out g _ _ _ _ (fun h _=>absurd h F)];exact Ij o j v l)
   (fun j l=>by rw[k];exact Hp g ((Ab pC a).drop (i *2)) ((i+1) *2) w.drew (fun t ht=>c _ (by omega)) (i *2+j) (c _ (by omega))) (fun j _=>by rw[k,World.frozen?_setCells];exact u.frozenAt _) (Jc _)
 have s:(m.setCells g (i *2) (Ab pC [x])).ownsRow base 142 2 (Za g (a.length+1) b) (a.length+1) (Ab pC (a.take i++[x]++a.drop i))/\w.grownBy (m.setCells g (i *2) (Ab pC [x])) (some g):=by
  refine⟨?_,?_⟩
  ·rw[Bt,Bt,←FN BU a i (by omega),←Fi BU a i (by omega),k];exact Mm (w:=w.drew) (Ag u ((Below.refl _ _).drew)) (by omega) B z
  ·rw[k];exact Aw (Dn (Cl g _ _ _)) (Cl g _ _ _)
 have S:=Yx s;rw[←k]at r;unfold maxLen at M;have y:¬((i:Int)=(a.length:Int)):=by omega
 have zE:(0:Int)<=(i:Int)+1:=by omega
 have zF:(i:Int)+1<=(a.length:Int)+1:=by omega
 have zG:((i:Int)+1).toNat=i+1:=by omega
 have zH:((a.length:Int)+1).toNat=a.length+1:=by omega
 have zI:(0:Int)<=(a.length:Int)+1:=by omega
 have zJ:(a.length:Int)+1<=(b:Int):=by omega
 have X:¬(b=i+1):=by omega
 have Y:¬(b=i):=by omega
 have Z:i<=a.length+1:=by omega
 have zA:(i:Int)<=(a.length:Int)+1:=by omega
 have zB:(i:Int)<=(a.length:Int):=by omega
 have mixed:prog.follows .mixedOrders=true:=by kernel_rfl
 have zK:IntKind.i64.wrap ((i:Int)+1)=(i:Int)+1:=by rw[IntKind.wrap_i64];omega
 have zM:IntKind.i64.wrap ((a.length:Int)+1)=(a.length:Int)+1:=by rw[IntKind.wrap_i64];omega
 clear u c s o A N D d P Q G B E k;go_enter func206,ntmps206;go_wp2_with (simp only[O])
 go_region_law_o (refine Er rfl _ _ 40 40 rfl (.slice (some ⟨g,(i+1) *2,none⟩) (a.length+1 -(i+1)) (b -(i+1))) (.slice (some ⟨g,i *2,none⟩) (a.length+1 -i) (b -i)) (by simp[Act.eval,Act.put]) (by simp[Act.eval,Act.put]) (r 3 (b -(i+1)) (b -i)) ?_)
 go_wp2_with (at_builtin;refine Dz _ rfl _ _ 40 40 rfl _ _ rfl rfl (C _ _) ?_);go_ret;exact⟨rfl,S.o⟩
theorem LW(g c i:Nat)(a:List Pd)(x:Pd)(J:Nat)(w:Zh)(base:Nat)(H:w.ownsRow base 142 2 (Za g a.length c) a.length (Ab pC a))(hl:a.length<=600)(hi:i<a.length)(D:c<a.length+1)(C:base<=w.heap.size)(I:w.heap[J]?=some (.cells #[.string x.name,.string x.sum] 142 (0,0))):
 Calls prog 206 #[Za g a.length c,Zg i,Za J 1 1] w fun e w'=>∃G,e=.returned (Za w.heap.size (a.length+1) G)/\w'.ownsRow base 142 2 (Za w.heap.size (a.length+1) G) (a.length+1) (Ab pC (a.take i++[x]++a.drop i))/\w.grownBy w' none:=by
 obtain⟨T,k,zB,A,O⟩:=FY;have L:g<w.heap.size:=(Ac H rfl).2;have zA:=(Array.getElem?_eq_some_iff.1 I).1;have zS:a.length<=c:=by
  rcases H.2 with⟨e,_⟩|⟨g',zH,zI,e,y,hg,h1,h2,h3,h4⟩
  ·cases e
  ·cases e;exact h1
 have z:=BC BU a;have N:(Ab pC [x]).length=2:=by rw[BC BU];rfl
 have X:((Ab pC a).drop (i *2)).length=(a.length -i) *2:=by rw[List.length_drop,z];omega
 have M:((Ab pC a).take (i *2)).length=i *2:=by rw[List.length_take,z];omega
 have hold:(Builtin.firstCells T.size i (Za g i c)).run prog w.drew=.ok ((Ab pC a).take (i *2)).toArray w.drew:=by
  rw[A];exact run_firstCells_some w.drew 2 i ⟨g,0,none⟩ i c ((Ab pC a).take (i *2)) M (fun j v f=>by
   rw[Go.WideShapes.add_plain,Nat.zero_add];rw[List.getElem?_take]at f;split at f
   ·exact(H.cellAt _ (by omega)).trans f
   ·cases f)
 obtain⟨G,R⟩:∃G,G=grownCap w (a.length+1) c 142:=⟨_,rfl⟩;obtain⟨o,zG,W⟩:∃o:Array Value,o=Value.cells (.agg #[Zd,Zd])/\o.size=2:=⟨_,rfl,by kernel_rfl⟩;obtain⟨B,Q⟩:∃B:Zj,B=(Builtin.zeroCells o (a.length+1 -i)).toList++(Builtin.zeroCells o (G -(a.length+1))).toList:=⟨_,rfl⟩;have zF:a.length+1<=G:=by rw[R];exact grownCap_ge w _ _ _
 have s:G<=maxLen:=by rw[R];exact grownCap_le_maxLen w (a.length+1) c 142 (by unfold maxLen;omega)
 have zC:i *2+B.length=G *2:=by rw[Q];simp[Builtin.zeroCells,W];omega
 have Z:∀m,(Builtin.append_ #[40,3] m #[Za g i c,Zg ((a.length:Int)+1 -(i:Int))]).run prog w=
  .ok (Za w.heap.size (a.length+1) G) (w.drew.alloc (.cells ((Ab pC a).take (i *2)++B).toArray 142)):=fun m=>by
  have Y:i+(a.length+1 -i)=a.length+1:=by omega
  have h:=Lib.run_append_grow_zeros (P:=prog) w 40 3 m 142 T _ .i64 .i64 underlying40 underlying3 k zB (some ⟨g,0,none⟩) i c ((Ab pC a).take (i *2)) hold (a.length+1 -i) (by omega) (by rw[A];omega) (by omega) (by omega) (by rw[O];omega) (by rw[O,Y];exact growslice_fits D (by omega));rw[Y,←R,←zG]at h;rw[show(a.length:Int)+1 -(i:Int)=((a.length+1 -i:Nat):Int) by omega,h,Q]
  have e:((Ab pC a).take (i *2)).toArray++Builtin.zeroCells o (a.length+1 -i)++Builtin.zeroCells o (G -(a.length+1))=((Ab pC a).take (i *2)++((Builtin.zeroCells o (a.length+1 -i)).toList++(Builtin.zeroCells o (G -(a.length+1))).toList)).toArray:=by apply Array.toList_inj.1;simp
  rw[e]
 obtain⟨d,p⟩:∃d,d=w.drew.alloc (.cells ((Ab pC a).take (i *2)++B).toArray 142):=⟨_,rfl⟩;have l:d.heap[w.heap.size]?=some (.cells ((Ab pC a).take (i *2)++B).toArray 142 (0,0)):=by rw[p];exact heap_alloc_new w.drew _
 have S:∀j,j<G *2->(d.cell? (Ze (w.heap.size) j)).isSome=true:=fun j f=>by simp only[World.cell?,l];rw[Array.getElem?_eq_getElem (by simp[M];omega)];rfl
 have K:∀j,d.frozen? ⟨w.heap.size,j,none⟩=false:=fun j=>by simp[World.frozen?,l]
 have hO:∀b,b<w.heap.size->d.heap[b]?=w.heap[b]?:=fun b y=>by rw[p];exact GD w.drew _ y
 have U:∀m r,(Builtin.copy_ #[40,40] m #[.slice (some ⟨w.heap.size,i *2,none⟩) (a.length+1 -i) r,Za J 1 1]).run prog d=.ok (goInt (Nat.min 1 (a.length+1 -i))) (d.setCells w.heap.size (i *2) (Ab pC [x])):=fun m r=>
  CK d 40 40 m 142 T 2 w.heap.size (i *2) (a.length+1 -i) r ⟨J,0,none⟩ 1 1 (Ab pC [x]) underlying40 k A (by rw[N,show Nat.min 1 (a.length+1 -i)=1 from Nat.min_eq_left (by omega),Nat.one_mul])
   (fun j v f=>by
     rw[Go.WideShapes.add_plain,Nat.zero_add,World.cell?_of_block (hO J zA)];exact Ij I j v f)
   (fun j f=>S _ (by omega)) (fun j _=>K _) (Jc _)
 obtain⟨q,n⟩:∃q,q=(d.setCells w.heap.size (i *2) (Ab pC [x])).drew:=⟨_,rfl⟩;have V:∀m r sc,(Builtin.copy_ #[40,40] m #[.slice (some ⟨w.heap.size,(i+1) *2,none⟩) (a.length+1 -(i+1)) r,.slice (some ⟨g,i *2,none⟩) (a.length -i) sc]).run prog q=.ok (goInt (Nat.min (a.length -i) (a.length+1 -(i+1)))) (q.setCells w.heap.size ((i+1) *2) ((Ab pC a).drop (i *2))):=fun m r sc=>
  CK q 40 40 m 142 T 2 w.heap.size ((i+1) *2) (a.length+1 -(i+1)) r ⟨g,i *2,none⟩ (a.length -i) sc ((Ab pC a).drop (i *2)) underlying40 k A (by rw[X];congr 1;show _=min _ _;omega)
   (fun j v f=>by
     rw[List.getElem?_drop]at f;have:=(Zw f).1;rw[Go.WideShapes.add_plain,n,GB,World.cell?_setCells_out _ _ _ _ _ (fun h _=>absurd h (Nat.ne_of_lt L)),World.cell?_of_block (hO g L)];exact(H.cellAt _ (by omega)).trans f)
   (fun j f=>by rw[n,GB];exact Hp w.heap.size (Ab pC [x]) (i *2) d (fun t ht=>S _ (by omega)) ((i+1) *2+j) (S _ (by omega))) (fun j _=>by rw[n,Jb,World.frozen?_setCells];exact K _) (fun v I=>Jc _ v (List.mem_of_mem_drop I))
 have u:(q.setCells w.heap.size ((i+1) *2) ((Ab pC a).drop (i *2))).ownsRow base 142 2 (Za w.heap.size (a.length+1) G) (a.length+1) (Ab pC (a.take i++[x]++a.drop i))/\w.grownBy (q.setCells w.heap.size ((i+1) *2) ((Ab pC a).drop (i *2))) none:=by
  refine⟨?_,?_⟩
  ·rw[Bt,Bt,←FN BU a i (by omega),←Fi BU a i (by omega),n,←Ja];exact Ag (NE (w:=d) z (by omega) N C l zC zF s) ((Below.refl _ _).drew)
  ·have s1:d.heap.size=w.heap.size+1:=by rw[p];simp
   have E:w.grownBy d none:=by rw[p];exact⟨rfl,rfl,rfl,by simp,fun b y _=>GD w.drew _ y⟩
   have F:d.grownBy (q.setCells w.heap.size ((i+1) *2) ((Ab pC a).drop (i *2))) (some w.heap.size):=by rw[n];exact Aw (Aw (Cl w.heap.size (Ab pC [x]) (i *2) d) (JR _ _)) (Cl w.heap.size ((Ab pC a).drop (i *2)) ((i+1) *2) _)
   exact⟨F.os.trans E.os,F.tape.trans E.tape,F.output.trans E.output,Zm E.size F.size,fun b y _=>(F.block b (by omega) (by simp;omega)).trans (E.block b y (by simp))⟩
 have HF:=Yx u;have zE:G<=9223372036854775807:=by unfold maxLen at s;omega
 have zW:¬((i:Int)=(a.length:Int)):=by omega
 have zX:(c:Int)<(a.length:Int)+1:=by omega
 have zT:(0:Int)<=(i:Int)+1:=by omega
 have zU:(i:Int)+1<=(a.length:Int)+1:=by omega
 have zV:((i:Int)+1).toNat=i+1:=by omega
 have zJ:¬(c=i):=by omega
 have zK:¬(G=i):=by omega
 have zM:¬(G=i+1):=by omega
 have zN:i<=a.length+1:=by omega
 have zP:(i:Int)<=(a.length:Int)+1:=by omega
 have zR:(i:Int)<=(a.length:Int):=by omega
 have mixed:prog.follows .mixedOrders=true:=by kernel_rfl
 have zO:i<=c:=by omega
 have zY:IntKind.i64.wrap ((i:Int)+1)=(i:Int)+1:=by rw[IntKind.wrap_i64];omega
 have zZ:IntKind.i64.wrap ((a.length:Int)+1)=(a.length:Int)+1:=by rw[IntKind.wrap_i64];omega
 have yA:IntKind.i64.wrap ((a.length:Int)+1 -(i:Int))=(a.length:Int)+1 -(i:Int):=by rw[IntKind.wrap_i64];omega
 rw[←p]at Z;clear H u I k zB O z N X M hold R Q zC l S K hO p L zA;go_enter func206,ntmps206;go_wp2_with (first
  |(at_builtin;refine Lib.wpList_append_run _ rfl _ _ _ _ rfl _ _ rfl rfl _ _ (Z _) ?_)
  |(at_builtin;refine Dz _ rfl _ _ 40 40 rfl _ _ rfl rfl (U _ _) ?_))
 go_region_law_o (refine Er rfl _ _ 40 40 rfl (.slice (some ⟨w.heap.size,(i+1) *2,none⟩) (a.length+1 -(i+1)) (G -(i+1))) (.slice (some ⟨g,i *2,none⟩) (a.length -i) (c -i)) (by simp[Act.eval,Act.put]) (by simp[Act.eval,Act.put]) (by rw[←n];exact V 3 (G -(i+1)) (c -i)) ?_)
 go_wp2;go_ret;rw[←n];exact⟨G,rfl,HF.o⟩
theorem Nq(P:Value)(i:Nat)(a:List Pd)(x:Pd)(f:Nat)(w:Zh)(base:Nat)(l:w.ownsRow base 142 2 P a.length (Ab pC a))(o:a.length<=600)(B:i<=a.length)(c:base<=w.heap.size)(s:P.ownBlock≠some f)(p:w.heap[f]?=some (.cells #[.string x.name,.string x.sum] 142 (0,0))):
 Calls prog 206 #[P,Zg i,Za f 1 1] w fun e m=>∃k,e=.returned k/\m.ownsRow base 142 2 k (a.length+1) (Ab pC (a.take i++[x]++a.drop i))/\w.grownBy m P.ownBlock/\(k.ownBlock=P.ownBlock∨k.ownBlock=some w.heap.size):=by
 rcases Nat.lt_or_ge i a.length with h|h
 ·rcases l.2 with⟨e,C⟩|⟨g,j,t,e,r,A,u,v,y,z⟩
  ·omega
  ·subst e;rcases Nat.lt_or_ge j (a.length+1)with n|n
   ·refine Calls.mono (LW g j i a x f w base l o h n c p) ?_;rintro e m ⟨G,rfl,q,d⟩;exact⟨_,rfl,q,⟨d.os,d.tape,d.output,d.size,fun b r _=>d.block b r (by simp)⟩,.inr rfl⟩
   ·refine Calls.mono (Lr g j i a x f w base l o h n (fun e=>s (by rw[e];rfl)) p) ?_;rintro e m ⟨rfl,q,d⟩;exact⟨_,rfl,q,d,.inl rfl⟩
 ·obtain rfl:i=a.length:=by omega
  rw[List.take_length,List.drop_length,List.append_nil];exact Np P a x f w base l o c p
end
theorem WG(base d m:Nat)(O P L:Value)(q j given ae:Int)(o:List Kd)(c:List Pd)(u:List Ld)(n s:Zi)(w:Zh)(h:DU w base d m O P L q j given ae o c u)(W:∀k∈o,(k.sum.size:Int)=q)(F:Ay o s)(hl:c.length<100)(t:c.Pairwise (fun a b=>less a.name b.name=true))(X:¬∃x∈c,x.name=n):
 Calls prog 176 #[Yz d,.string n,.string s] w fun e w'=>e=.returned (.tuple #[])/\∃P',DU w' base d m O P' L q j given ae o (Bw c n s) u/\Tn (d::P.ownBlock.toList) w w':=by
 obtain⟨p,g,zC⟩:=Ar h.dr.cl;subst zC;have HN:=Yx (Ez base d m O (.slice p c.length g) L q j given ae o c u s w h.dr W F);have Z:=Yx h;have V:=Yx t;have K:Hid (¬∃x∈c,x.name=n):=X;have zH:((c.length:Int)==100)=false:=by simp;omega
 clear h t X W F;go_enter func176,ntmps176;go_wp2_with fail;refine Calls.mono HN.o ?_;rintro e w1 ⟨rfl,G⟩;have M:=Z.o.below G;have HS:=Yx (Jv base d m O (.slice p c.length g) L q j given ae o c u n w1 M (by omega) V.o);clear HN;go_wp2_with fail;refine Calls.mono HS.o ?_;rintro e C ⟨i,rfl,T,N⟩;have D:decide (∃x,c[i]?=some x/\x.name=n)=false:=by rw[decide_eq_false_iff_not];rintro⟨x,hx,hn⟩;exact K.o ⟨x,Zs hx,hn⟩
 have HE:Hid (Bw c n s=c.take i++[⟨n,s⟩]++c.drop i):=Pz T K.o;have y:=M.below N;have zG:=Yx y;have HB:Hid (Zz w C):=G.trans (N.mono G.size);obtain⟨c6,_⟩:=y.dr.box 6 _ rfl;obtain⟨A,U⟩:∃A,A=C.alloc (.cells #[.string n,.string s] 142):=⟨_,rfl⟩;have Y:=(AJ U).1;have z:=y.below Y;have v:=Yx z;have zA:Hid (Zz C A):=Y;have zF:=T.le
 have r:=Nq (.slice p c.length g) i c ⟨n,s⟩ C.heap.size A base z.dr.cl (by omega) zF z.lo (fun e=>Nat.lt_irrefl _ (Ac y.dr.cl e).2) (by rw[U];exact heap_alloc_new C _);have HI:=Yx r;have HA:=Yx U;obtain⟨e6,_⟩:=z.dr.box 6 _ rfl;rw[D];clear D M y G N Z HS K V T r z Y U;go_wp2_with fail;rw[←HA.o];refine Calls.mono HI.o ?_;rintro e J ⟨P',rfl,S,Q,f⟩;obtain⟨H,I,zE⟩:=Ar S;subst zE
 have R:∀b,(Value.slice p c.length g).ownBlock=some b->b≠d:=fun b B=>((Dp v.o.dr.ap).2.2.1 b B).1;have E:∀b,(Value.slice H (c.length+1) I).ownBlock=some b->b≠d:=fun b B=>by
  rcases f with f|f
  ·exact R b (f▸B)
  ·rw[f]at B;have:=v.o.dr.box.lt;cases B;omega
 have l:Aa J d [Zg q,.map (some m),Zg j,Zg given,Zg ae,O,.slice p c.length g,L]:=Aa.same v.o.dr.box (Q.block d v.o.dr.box.lt (fun e=>R d e.symm rfl));obtain⟨f6,k6⟩:=l 6 _ rfl;have hK:∃zB,DU (J.setCell (Ze d 6) (.slice H (c.length+1) I)) base d m O zB L q j given ae o (Bw c n s) u/\Tn (d::(Value.slice p c.length g).ownBlock.toList) w (J.setCell (Ze d 6) (.slice H (c.length+1) I)):=by
  have t1:Tn (d::(Value.slice p c.length g).ownBlock.toList) A (J.setCell (Ze d 6) (.slice H (c.length+1) I)):=
   ((CG Q).mono (fun b B=>List.mem_cons_of_mem _ B)).trans ((EA J d 6 _).mono (by simp))
  refine⟨_,v.o.gj t1 (l.set 6 _) ?_ ?_,((Tn.of HB.o).trans (Tn.of zA.o)).trans t1⟩
  ·have hlen:(Bw c n s).length=c.length+1:=by rw[HE.o];simp;omega
   rw[hlen,HE.o];exact Bv S E 6 _
  ·rcases f with f|f
   ·exact .inl f
   ·exact .inr ⟨_,f,Zx⟩
 have HK:=Yx hK;clear hK S Q l e6 f R E;go_wp2
 go_end0
 exact⟨rfl,HK.o⟩
theorem BM{V:List Nat}{w c:Zh}{lo:Nat}{e:TypeId}{size:Nat}{v:Value}{n:Nat}{d:Zj}(h:w.ownsRow lo e size v n d)(i:Tn V w c)(g:∀b∈V,b<lo):c.ownsRow lo e size v n d:=
 Ak h (fun q a=>i.block q (Ac h a).2 (fun f=>by have j:=g q f;have k:=(Ac h a).1;omega))
theorem Aa.there{w:Zh}{B:Nat}{l:Zj}(h:Aa w B l):w.there B 0 l.length:=fun j c=>by obtain⟨a,b⟩:=h j _ (Zv c);rw[Nat.zero_add];exact⟨by rw[a];rfl,b⟩
theorem Aa.range{w:Zh}{B:Nat}{l:Zj}(h:Aa w B l):w.rangeAt B 0 l:=fun j v a=>by rw[Nat.zero_add];exact(h j v a).1
theorem Ax(B:Nat):∀(vs:Zj) (o:Nat) (w:Zh),Tn [B] w (w.setCells B o vs)
 |[],_,w=>Tn.of (Below.refl _ _)
 |v::r,o,w=>(Tn.set w B o v (by simp)).trans (Ax B r (o+1) (w.setCell (Ze B o) v))
theorem Aa.aw{w:Zh}{B:Nat}{l:Zj}(h:Aa w B l)(a:Zj)(d:a.length=l.length):Aa (w.setCells B 0 a) B a:=fun j v c=>by have e:=(Zw c).1;have b:=World.rangeAt_setCells_same w B 0 a (d▸h.there) j v c;rw[Nat.zero_add]at b;refine⟨b,?_⟩;rw[World.frozen?_setCells];exact(h j _ (Zv (by omega))).2
theorem AV.al{w d:Zh}{base:Nat}{T P L:Value}{o:Zj}{j:List Kd}{m:List Pd}{l:List Ld}(h:AV w base T P L o j m l){V:List Nat}(t:Tn V w d)(p:∀b∈V,b<base):AV d base T P L o j m l:=by have a:∀{e:TypeId} {size:Nat} {v:Value} {n:Nat} {xs:Zj},w.ownsRow base e size v n xs->d.ownsRow base e size v n xs:=fun c=>Ak c (fun g f=>t.block g (Ac c f).2 (fun e=>by have:=p g e;have:=(Ac c f).1;omega));exact⟨h.len,a h.ai,fun i k r q s=>a (h.refs i k r q s),a h.pins,a h.an,h.nd⟩
theorem AV.mono{w:Zh}{base base':Nat}{T P L:Value}{rs:Zj}{b:List Kd}{d:List Pd}{c:List Ld}(h:AV w base T P L rs b d c)(a:base'<=base):AV w base' T P L rs b d c:=
 ⟨h.len,h.ai.mono a,fun i k r e f=>(h.refs i k r e f).mono a,h.pins.mono a,h.an.mono a,h.nd⟩
theorem AV.lo{w:Zh}{base:Nat}{T P L:Value}{d:Zj}{f:List Kd}{k:List Pd}{j:List Ld}(h:AV w base T P L d f k j):∀g∈Bk T P L d,base<=g:=by
 intro g a;unfold Bk at a;simp only[List.mem_append,Option.mem_toList,List.mem_filterMap]at a;rcases a with a|a|a|⟨r,e,a⟩
 ·exact(Ac h.ai a).1
 ·exact(Ac h.pins a).1
 ·exact(Ac h.an a).1
 ·obtain⟨i,b⟩:=List.getElem?_of_mem e;have c:=(Zw b).1;rw[h.len]at c;exact(Ac (h.refs i _ r (Zv c) b) a).1
end Go.Proofs.YtckmnfhmoankmaaGreatDoor
