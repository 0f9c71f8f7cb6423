import Derived.Test.YtdofmfnmackjhaaGreatDoorX05
import Derived.Test.YtdofmfnmackjhaaGreatDoorX06
import Derived.Sort.Walk0
set_option maxRecDepth 100000
set_option maxHeartbeats 16000000
namespace Go.Proofs.YtdofmfnmackjhaaGreatDoor
open ChangeShapes WideShapes ChangeAt RowKit _root_.Go.Proofs.Tryz List World Value
variable{a f:Dj}{b q n j g N k:Nat}{c w d wr:Zh}{u v:Value}{x:Kd}
def BY(w w':Zh):Prop:=∀b o,(w.cell? (Zd b o)).isSome=true->(w'.cell? (Zd b o)).isSome=true/\(w.frozen? ⟨b,o,none⟩=false->w'.frozen? ⟨b,o,none⟩=false)
theorem BY.refl(w:Zh):BY w w:=λ_ _ h=>⟨h,λh=>h⟩
theorem BY.trans{a b:Zh}(d:BY a b)(e:BY b c):BY a c:=λp o h=>⟨(e p o (d p o h).1).1,λf=>(e p o (d p o h).1).2 ((d p o h).2 f)⟩
abbrev BY.ah:=@BY.trans
theorem BY.ci(h:Zz w d):BY w d:=λb o c=>by have⟨v,e⟩:=Option.isSome_iff_exists.1 c;have a:=A6 w ⟨b,o,none⟩ e;rw[h.cell (p:=⟨b,o,none⟩) a,h.frozen (p:=⟨b,o,none⟩) a];exact⟨c,λh=>h⟩
theorem BY.setCell(w:Zh)(g p:Nat)(v:D4):BY w (w.setCell ⟨g,p,none⟩ v):=λb o a=>by
 refine⟨?_,λh=>by simpa [go_sem]using h⟩;by_cases e:(⟨b,o,none⟩:Addr)=⟨g,p,none⟩
 .rw[<-e,cell?_setCell_same' _ _ _ a];rfl
 .rw[cell?_setCell_other _ _ _ _ (λc=>e c.symm)];exact a
def Wr(w:Zh)(q n:Nat):Prop:=∀j,j<n->(w.cell? (Zd q j)).isSome=true/\w.frozen? ⟨q,j,none⟩=false
theorem Wr.alive(h:Wr w q n)(b:BY w c):Wr c q n:=λj a=>⟨(b q j (h j a).1).1,(b q j (h j a).1).2 (h j a).2⟩
theorem Wr.at(h:Wr w q n)(a:j<n):∃v,w.cell? (Zd q j)=some v:=Option.isSome_iff_exists.1 (h j a).1
theorem Wr.own{a size:Nat}{e:TypeId}{c:Zj}(h:w.ownsRow a e size (Yz g n b) n c):Wr w g (n *size):=λj d=>by have d:=h.1;refine⟨?_,h.frozenAt j⟩;rw[h.cellAt j Yv,Zv Yv];rfl
theorem NF(w:Zh)(g p:Nat)(v:D4):w.grownBy (w.setCell (Zd g p) v) (some g):=
 ⟨rfl,rfl,rfl,Yu,λi _ a=>Below.heap_setCell _ _ _ _ (λe=>a (by rw[e]))⟩
def NG(w wr:Zh)(g n:Nat):Prop:=Wr wr g n/\w.grownBy wr (some g)/\BY w wr
theorem NG.new(h:Wr w g n):NG w w g n:=⟨h,AO _ _,BY.refl _⟩
theorem NG.A{b:Zh}(h:NG w wr g n)(a:Zz wr b):NG w b g n:=
 ⟨h.1.alive (BY.ci a),Aj h.2.1 (Ag _ a),h.2.2.ah (BY.ci a)⟩
theorem NG.set(h:NG w wr g n)(o:Nat)(v:D4):NG w (wr.setCell (Zd g o) v) g n:=
 ⟨h.1.alive (BY.setCell _ _ _ _),Aj h.2.1 (NF _ _ _ _),h.2.2.ah (BY.setCell _ _ _ _)⟩
structure JF (w wr:Zh) (lo N g:Nat) (ks:List Kd):Prop where
 row:Wr wr g (ks.length *4)
 cu:Below lo w wr
 al:BY w wr
 dh:∀k,N<=k->k<w.1.size->wr.1[k]?=w.1[k]?
 B:∀i x,ks[i]?=some x->∃q c,wr.cell? (Zd g (i *4+3))=some (.slice (some ⟨q,0,none⟩) x.B.length c)/\g<q/\q<N/\Wr wr q x.B.length
theorem JF.new{a:Zh}(h:Lb a j g f)(c:Zz a w):JF w w j a.1.size g f:=by obtain⟨o,d,m,_⟩:=h;have l:=(d.lt g rfl).2;refine⟨(Wr.own d).alive (BY.ci c),Ad,BY.refl _,λ_ _ _=>rfl,λi x e=> ?_⟩;have n:=(Zw e).1;have⟨_,_,_,q,k,b⟩:=m i x e;refine⟨q,_,(c.cell (p:=⟨g,i *4+3,none⟩) l).ah ((d.cellAt _ Yv).ah k),(ownsRow.lt b q rfl).1,(ownsRow.lt b q rfl).2,?_⟩;have:=(Wr.own b).alive (BY.ci c);rwa[Nat.mul_one]at this
theorem JF.A{j:Zh}{e:Nat}(h:JF w wr e N g f)(m:e<=wr.1.size)(a:Zz wr j):JF w j e N g f:=
 ⟨h.row.alive (BY.ci a),h.cu.ah (a.aj m),h.al.ah (BY.ci a),λk b d=>(a.block k (Zr d h.cu.size)).ah (h.dh k b d),λi x o=>by
  have⟨q,c,b,d,l,n⟩:=h.B i x o;exact⟨q,c,(a.cell (p:=⟨g,i *4+3,none⟩) (A6 wr ⟨g,i *4+3,none⟩ b)).ah b,d,l,n.alive (BY.ci a)⟩⟩
theorem JF.set{f:Nat}{l:Dj}(h:JF w wr f N g l)(n:f<=g)(s:g<N)(j c:Nat)(t:c<=2)(v:D4):JF w (wr.setCell (Zd g (j *4+c)) v) f N g l:=
 ⟨h.row.alive (BY.setCell _ _ _ _),h.cu.setCell (p:=⟨g,j *4+c,none⟩) (D2 n) _,h.al.ah (BY.setCell _ _ _ _),λk b a=>((NF wr g (j *4+c) v).block k (Zr a h.cu.size) (by intro e;cases e;omega)).ah (h.dh k b a),λi x r=>by
  have⟨q,d,b,a,m,o⟩:=h.B i x r;refine⟨q,d,?_,a,m,o.alive (BY.setCell _ _ _ _)⟩;rw[cell?_setCell_other _ _ _ _ (by intro e;injection e;omega)];exact b⟩
theorem JF.grown{l:Zh}{m:Dj}(h:JF w wr b N g m)(o:b<=wr.1.size)(j:wr.grownBy l (some q))(f:BY wr l)(v:g<q)(t:q<N)(u:b<=g):JF w l b N g m:=
 ⟨h.row.alive f,h.cu.grown j o (λk a=>by cases a;omega),h.al.ah f,λk c a=>(j.block k (Zr a h.cu.size) (by intro e;cases e;omega)).ah (h.dh k c a),λi x r=>by
  have⟨s,d,c,a,n,p⟩:=h.B i x r;exact⟨s,d,j.cell c Yt,a,n,p.alive f⟩⟩
theorem Fq(a:Zk)(n:Nat)(c:Zl)(s:Zi)(w:Zh)(B:Nat)(f:Af w B a c)(A:c.length<=1048576):
 D8 98 #[C3 a c.length n,C4 s] w λe d=>e=C5 (.bool (c.any (λx=>decide (x=s))))/\d=w:=by
 go_enter func98,ntmps98;go_wp2
 go_loop [5] (λi=>∃k:Nat,k<=c.length/\i=Zg k/\Hid (∀j x,j<k->c[j]?=some x->x≠s)) (λi=>c.length -(intOf i).toNat)
 case atStart=>exact⟨0,Az _,rfl,λj x h=>Yv⟩
 case round=>
  obtain⟨k,z,rfl,d⟩:=hrel;by_cases hlt:k<c.length
  .obtain⟨b,t,p,v,l⟩:=f.at hlt;subst p;have g:=Yw (Zv hlt);have u:=l k _ g;clear l f;generalize c[k]=x at *
   by_cases he:x=s
   .subst he;have q:Hid (c.any (λy=>decide (y=x))=true):=by show _=_;rw[any_eq_true];exact⟨x,Zs g,Yu⟩
    go_wp2;go_ret;exact⟨AF q.symm,rfl⟩
   .have r:=Br he;have o:Hid (∀j y,j<k+1->c[j]?=some y->y≠s):=by
     intro j y f l;rcases Bz j k with m|m
     .exact d j y m l
     .obtain rfl:j=k:=Yv
      rw[g.o]at l;cases l;exact he
    clear he d g;go_wp2;exact⟨⟨k+1,Yv,Yn,o⟩,Ys⟩
  .go_wp2;go_ret;refine⟨AF ?_,rfl⟩
   symm
   rw[any_eq_false];intro x g;have⟨j,f⟩:=A5 g;simpa using d j x (Dz (Zw f).1) f
def JG(w:Zh)(b:Nat)(u v:Value):Prop:=w.cell? (Zd b 0)=some u/\w.cell? (Zd b 1)=some v/\b<w.1.size
theorem JG.new(w:Zh)(u v:D4)(t:TypeId):JG (w.alloc (.cells #[u,v] t)) w.1.size u v:=⟨Yu,Yu,Yu⟩
theorem JG.A(h:JG w b u v)(a:Zz w c):JG c b u v:=
 ⟨(a.cell (p:=⟨b,0,none⟩) h.2.2).ah h.1,(a.cell (p:=⟨b,1,none⟩) h.2.2).ah h.2.1,Zr h.2.2 a.size⟩
theorem JG.alloc(h:JG w b u v)(o:Obj):JG (w.alloc o) b u v:=h.A (Zy)
theorem WU{c:Zl}(h:∀(j:Nat) p q,c[j]?=some p->c[j+1]?=some q->less p q=true):c.Pairwise (λa b=>less a b=true):=by
 have k:∀(d i:Nat) u v,c[i]?=some u->c[i+d+1]?=some v->less u v=true:=by
  intro d;induction d with
  |zero=>intro i u v f e;exact h i u v f e
  |succ d ih=>intro i u v f e;have o:=(Zw e).1;have g:c[i+d+1]?=some c[i+d+1]:=Zv Yv;exact BV (ih i u _ f g) (h _ _ _ g (by rw[show i+d+1+1=i+(d+1)+1 by omega];exact e))
 rw[pairwise_iff_getElem];intro i j l m n;exact k (j -i -1) i _ _ (Zv l) (by rw[show i+(j -i -1)+1=j by omega];exact Zv m)
theorem KJ{d:Zl}(h:d.Pairwise (λa b=>less a b=true)):d.Nodup:=by refine Pairwise.imp ?_ h;intro a b c e;rw[e,By]at c;cases c
theorem NH{g:Int}{d:Zl}(h:DL g d=true):d.Pairwise (λa b=>less a b=true):=by refine WU (λj p q f c=> ?_);have e:=(Zw c).1;unfold DL at h;rw[all_eq_true]at h;have:=h (j+1) (D2 e);rw[Ei c f]at this;simp at this;exact this.2
section
open Go.Proofs
theorem Kv{a b:Zi}(h:a.toList=b.toList):a=b:=by rw[Lib.toList_data,Lib.toList_data]at h;cases a;cases b;simpa using h
theorem Pr{a b:Zi}:less a b=true↔a.toList<b.toList:=by unfold less;rw[bytesLess_eq,decide_eq_true_iff]
theorem Ps{a b:Zi}(h:less a b=false)(c:a≠b):less b a=true:=by
 rw[Pr];have d:¬a.toList<b.toList:=λe=>by rw[Pr.2 e]at h;cases h
 have f:=List.not_lt.1 d;by_cases e:b.toList<a.toList
 .exact e
 .exact absurd (Kv (Std.le_antisymm (List.not_lt.1 e) f)) c
end
theorem CS(n a b:Int)(w:Zh):
 D8 64 #[Zg n,Zg a,Zg b] w λe c=>e=C5 (.bool (decide (a<=n/\n<=b)))/\c=w:=by
 by_cases h1:a<=n
 .by_cases h2:n<=b
  .go_enter func64,ntmps64;go_wp2;go_ret;exact⟨AF (by simp[h1,h2]),rfl⟩
  .go_enter func64,ntmps64;go_wp2;go_ret;exact⟨AF (by simp[h2]),rfl⟩
 .have c:decide (a<=n)=false:=D2 h1
  go_enter func64,ntmps64;go_wp2;go_ret;exact⟨AF Yu,rfl⟩
theorem JH(n:Int)(w:Zh):
 D8 81 #[Zg n] w λe a=>e=C5 (.bool (decide (0<=n/\n<=1000000000)))/\a=w:=by
 by_cases h1:0<=n
 .by_cases h2:n<=1000000000
  .go_enter func81,ntmps81;go_wp2;go_ret;exact⟨AF (by simp[h1,h2]),rfl⟩
  .have b:decide (n<=1000000000)=false:=D2 h2
   go_enter func81,ntmps81;go_wp2;go_ret;exact⟨rfl,rfl⟩
 .have a:decide (0<=n)=false:=D2 h1
  go_enter func81,ntmps81;go_wp2;go_ret;exact⟨rfl,rfl⟩
def BO(out:Zl)(s:Zi):Zl:=if out.any (fun x=>decide (x=s))=true then out else out++[s]
theorem QN(a:Zl)(s:Zi):(BO a s).length<=a.length+1:=by unfold BO;split<;>simp
theorem NI{a:Zl}{x:Zi}(o:Zl)(b:a[k]?=some x):(a.take (k+1)).foldl BO o=BO ((a.take k).foldl BO o) x:=by obtain⟨h,rfl⟩:=Zw b;rw[Zu h,foldl_append];rfl
theorem Is(a o:Zl):(a.foldl BO o).length<=o.length+a.length:=by
 induction a generalizing o with
 |nil=>simp
 |cons x a ih=>have b:=ih (BO o x);have c:=QN o x;simp only[foldl_cons,length_cons];omega
theorem Pt{d:Nat}{a:Zk}{c:Nat}{b:Zl}(h:w.ownsRow d 9 1 (C3 a b.length c) b.length (b.map string)):Af w w.1.size a b:=by
 rcases h.2 with⟨e,f⟩|⟨g,i,j,e,_⟩
 .exact .inl (Bl f)
 .cases e;exact Af.own h
def DQ(ps:List Pd)(ls:List Ld):Zl:=(ls.map (·.sum)).foldl BO ((ps.map (·.sum)).foldl BO [])
theorem So(F t h d:Int)(T:Value)(p l:Zk)(E D:Nat)(a:Dy)(f:Dv)(w:Zh)(n:AU w w.1.size p a)(o:AS w w.1.size l f)(zI:a.length<=100)(zH:f.length<=200):
 D8 159 #[.agg #[Zg F,Zg t,Zg h,Zg d,T,C3 p a.length E,C3 l f.length D]] w fun e m=>∃g c,e=C5 (Yz g (DQ a f).length c)/\m.ownsRow (w.1.size+1) 9 1 (Yz g (DQ a f).length c) (DQ a f).length ((DQ a f).map string)/\Zz w m:=by
 have⟨Z,Y,Q,R,S⟩:=info_parts CC;have zB:=Yw n;have zA:=Yw o;have m:=Aw.new w F t h d T (C3 p a.length E) (C3 l f.length D) 27;have P:Below w.1.size w (w.alloc (.cells #[Zg F,Zg t,Zg h,Zg d,T,C3 p a.length E,C3 l f.length D] 27)):=Zy;clear n o;unfold DQ;go_enter func159,ntmps159;go_wp2
 go_loopw [3,4] (fun v i wr=>∃(k g c:Nat),k<=a.length/\i=Zg k/\v=Yz g (((a.map (·.sum)).take (k)).foldl BO []).length c/\Hid (wr.ownsRow (w.1.size+1) 9 1 (Yz g (((a.map (·.sum)).take (k)).foldl BO []).length c) (((a.map (·.sum)).take (k)).foldl BO []).length ((((a.map (·.sum)).take (k)).foldl BO []).map string))/\Zz w wr/\Hid (Aw wr w.1.size F t h d T (C3 p a.length E) (C3 l f.length D))) (fun _ i _=>a.length -(intOf i).toNat)
 case atStart=>
  refine⟨0,w.1.size+1,0,Az _,rfl,Yu,?_,P.alloc P.size _,m.ag (Zy) m.2.2.2.2.2.2.2⟩;have:=ownsRow_lit (e:=9) (w.alloc (.cells #[Zg F,Zg t,Zg h,Zg d,T,C3 p a.length E,C3 l f.length D] 27)) #[] (size:=1) 0 (base:=w.1.size+1) Yu (by simp[maxLen]) rfl
  rw[show(w.alloc (.cells #[Zg F,Zg t,Zg h,Zg d,T,C3 p a.length E,C3 l f.length D] 27)).1.size=w.1.size+1 from by simp]at this;exact this
 case round=>
  clear m;obtain⟨k,g,c,hk,rfl,rfl,q,n,A⟩:=hrel;have⟨x0,x1,x2,x3,x4,x5,x6,x7⟩:=A.o;by_cases hlt:k<a.length
  .obtain⟨b,zG,W,hb,G⟩:=(AU.A zB n).at hlt;subst W;have I:Hid (a[k]?=some a[k]):=Zv hlt;obtain⟨_,c1⟩:=G k _ I;have zC:b<wr.1.size:=Yv
   have HN:Hid ((a.map (·.sum))[k]?=some a[k].sum):=by show _=_;rw[getElem?_map,I.o];rfl
   clear G;generalize a[k]=x at *
   have hlen:(((a.map (·.sum)).take (k)).foldl BO []).length<=0+k:=by
    have:=Is ((a.map (·.sum)).take k) ([])
    skip
    simp at this;omega
   have H:=Yw (NI ([]) HN);generalize hO:((a.map (·.sum)).take (k)).foldl BO []=O at *
   have zE:=(q.lt g rfl).1;have zF:=(q.lt g rfl).2;have V:Hid (Af wr wr.1.size (some ⟨g,0,none⟩) O):=Pt q;go_wp2_with fail;refine(Fq _ c O x.sum wr _ V Yv).mono ?_;rintro e K ⟨rfl,rfl⟩;cases hin:O.any (fun y=>decide (y=x.sum))with
   |true=>
    have r:Hid (((a.map (·.sum)).take (k+1)).foldl BO []=O):=by show _=_;rw[H.o];unfold BO;rw[if_pos hin]
    go_wp2;refine⟨⟨k+1,g,c,Yv,Yn,by rw[r.o],?_,n,A⟩,Ys⟩;rw[r.o];exact q
   |false=>
    have r:Hid (((a.map (·.sum)).take (k+1)).foldl BO []=O++[x.sum]):=by show _=_;rw[H.o];unfold BO;rw[if_neg (by rw[hin];decide)]
    go_wp2_with (first
     |(at_builtin;refine wpList_append_own _ rfl _ _ 28 rfl (w.1.size+1) 9 Z Zc 1 16 underlying28 Y Q R S rfl Yq _ O.length (O.map string) rfl ?d0 ⟨K.1.size,0,none⟩ 1 1 [C4 x.sum] rfl rfl ?d1 ?d2 ?d3 ?d4 ?d5 ?_)
     |go_in)
    case d0=>exact q.alloc _
    case d1=>exact cell_one_new _ _ _
    case d2=>intro u J;simp at J;subst J;rfl
    case d3=>unfold maxLen;omega
    case d4=>omega
    case d5=>simp;omega
    intro v' z m o _;have⟨C,B,N,_,_⟩:=m.form Yv;subst N;have s:Below (w.1.size+1) K z:=(Ad.alloc Yv _).grown o Yt (by intro j X;simp[ownBlock]at X;omega);have U:Hid (Zz w z):=n.trans (s.mono Yv);have M:=Yw (Aw.ag A s Yv)
    have L:Hid (z.ownsRow (w.1.size+1) 9 1 (Yz C (O.length+1) B) (O.length+1) ((O++[x.sum]).map string)):=(by simpa using m:ownsRow z (w.1.size+1) 9 1 (Yz C (O.length+1) B) (O.length+1) ((O++[x.sum]).map string));clear m o s;go_wp2;refine⟨⟨k+1,C,B,Yv,Yn,by rw[r.o];simp,?_,U,M⟩,Ys⟩;rw[r.o,Ak];exact L
  .rw[Zt Yt]at q |-;go_wp2
   go_loopw [3,5] (fun v i wr=>∃(k g c:Nat),k<=f.length/\i=Zg k/\v=Yz g (((f.map (·.sum)).take (k)).foldl BO ((a.map (·.sum)).foldl BO [])).length c/\Hid (wr.ownsRow (w.1.size+1) 9 1 (Yz g (((f.map (·.sum)).take (k)).foldl BO ((a.map (·.sum)).foldl BO [])).length c) (((f.map (·.sum)).take (k)).foldl BO ((a.map (·.sum)).foldl BO [])).length ((((f.map (·.sum)).take (k)).foldl BO ((a.map (·.sum)).foldl BO [])).map string))/\Zz w wr/\Hid (Aw wr w.1.size F t h d T (C3 p a.length E) (C3 l f.length D))) (fun _ i _=>f.length -(intOf i).toNat)
   case atStart=>exact⟨0,g,c,Az _,rfl,rfl,q,n,A⟩
   case round=>
    clear x0 x1 x2 x3 x4 x5 x6 x7;obtain⟨k,g,c,hk,rfl,rfl,q,n,A⟩:=hrel;have⟨x0,x1,x2,x3,x4,x5,x6,x7⟩:=A.o;by_cases hlt:k<f.length
    .obtain⟨b,zG,W,hb,G⟩:=(AS.A zA n).at hlt;subst W;have I:Hid (f[k]?=some f[k]):=Zv hlt;obtain⟨_,c1,_⟩:=G k _ I;have zC:b<wr.1.size:=Yv
     have HN:Hid ((f.map (·.sum))[k]?=some f[k].sum):=by show _=_;rw[getElem?_map,I.o];rfl
     clear G;generalize f[k]=x at *
     have hlen:(((f.map (·.sum)).take (k)).foldl BO ((a.map (·.sum)).foldl BO [])).length<=a.length+k:=by have:=Is ((f.map (·.sum)).take k) ((a.map (·.sum)).foldl BO []);have G:=Is (a.map (·.sum)) [];simp at G;simp at this;omega
     have H:=Yw (NI ((a.map (·.sum)).foldl BO []) HN);generalize hO:((f.map (·.sum)).take (k)).foldl BO ((a.map (·.sum)).foldl BO [])=O at *
     have zE:=(q.lt g rfl).1;have zF:=(q.lt g rfl).2;have V:Hid (Af wr wr.1.size (some ⟨g,0,none⟩) O):=Pt q;go_wp2_with fail;refine(Fq _ c O x.sum wr _ V Yv).mono ?_;rintro e K ⟨rfl,rfl⟩;cases hin:O.any (fun y=>decide (y=x.sum))with
     |true=>
      have r:Hid (((f.map (·.sum)).take (k+1)).foldl BO ((a.map (·.sum)).foldl BO [])=O):=by show _=_;rw[H.o];unfold BO;rw[if_pos hin]
      go_wp2;refine⟨⟨k+1,g,c,Yv,Yn,by rw[r.o],?_,n,A⟩,Ys⟩;rw[r.o];exact q
     |false=>
      have r:Hid (((f.map (·.sum)).take (k+1)).foldl BO ((a.map (·.sum)).foldl BO [])=O++[x.sum]):=by show _=_;rw[H.o];unfold BO;rw[if_neg (by rw[hin];decide)]
      go_wp2_with (first
       |(at_builtin;refine wpList_append_own _ rfl _ _ 28 rfl (w.1.size+1) 9 Z Zc 1 16 underlying28 Y Q R S rfl Yq _ O.length (O.map string) rfl ?d0 ⟨K.1.size,0,none⟩ 1 1 [C4 x.sum] rfl rfl ?d1 ?d2 ?d3 ?d4 ?d5 ?_)
       |go_in)
      case d0=>exact q.alloc _
      case d1=>exact cell_one_new _ _ _
      case d2=>intro u J;simp at J;subst J;rfl
      case d3=>unfold maxLen;omega
      case d4=>omega
      case d5=>simp;omega
      intro v' z m o _;have⟨C,B,N,_,_⟩:=m.form Yv;subst N;have s:Below (w.1.size+1) K z:=(Ad.alloc Yv _).grown o Yt (by intro j X;simp[ownBlock]at X;omega);have U:Hid (Zz w z):=n.trans (s.mono Yv);have M:=Yw (Aw.ag A s Yv)
      have L:Hid (z.ownsRow (w.1.size+1) 9 1 (Yz C (O.length+1) B) (O.length+1) ((O++[x.sum]).map string)):=(by simpa using m:ownsRow z (w.1.size+1) 9 1 (Yz C (O.length+1) B) (O.length+1) ((O++[x.sum]).map string));clear m o s;go_wp2;refine⟨⟨k+1,C,B,Yv,Yn,by rw[r.o];simp,?_,U,M⟩,Ys⟩;rw[r.o,Ak];exact L
    .rw[Zt Yt]at q |-;go_wp2;go_ret;exact⟨_,_,rfl,q,n⟩
section
attribute [local go_sem↓] Go.wp_at_zero Go.wp_at_succ
def TS(W:Zh)(b c:Nat)(wd:Value)(s t r:Value)(w':Zh):Prop:=
 w'.cell? (Zd b 0)=some wd/\w'.cell? (Zd c 0)=some s/\w'.cell? (Zd c 2)=some t/\w'.cell? (Zd c 3)=some r/\Zz W w'
theorem TS.drew{W a:Zh}{c:Nat}{d s t r:D4}(h:TS W b c d s t r a):TS W b c d s t r a.drew:=⟨h.1,h.2.1,h.2.2.1,h.2.2.2.1,h.2.2.2.2.drew⟩
theorem TS.new{ty:TypeId}{c:Int}(s b t r:D4)(d:wr.cell? (Zd (w.1.size) 0)=some (Zg c))(e:w.1.size<wr.1.size):
 Below wr.1.size wr ((wr.alloc (.cells #[s,b,t,r] ty)).drewN n)/\((wr.alloc (.cells #[s,b,t,r] ty)).drewN n).1.size=wr.1.size+1/\
  TS ((wr.alloc (.cells #[s,b,t,r] ty)).drewN n) w.1.size wr.1.size (Zg c) s t r ((wr.alloc (.cells #[s,b,t,r] ty)).drewN n):=by
 have a:Below wr.1.size wr ((wr.alloc (.cells #[s,b,t,r] ty)).drewN n):=Bg (Zy) _;refine⟨a,by rw[LO];simp,(a.cell (p:=⟨w.1.size,0,none⟩) e).ah d,?_,?_,?_,Ad⟩
 all_goals rw[LN];simp
theorem Lh(d u g f:Int)(a:Zk)(D:Nat)(P L:D4)(c:Dj)(w:Zh)(t:AW w w.1.size a c)(O:Iq c)(hl:c.length<=1048576)(G:∀k∈c,k.B.length<=1048576)(h1:1<=d)(h8:d<=8):
 D8 43 #[.agg #[Zg d,Zg u,Zg g,Zg f,C3 a c.length D,P,L]] w λe A=>∃b,e=C5 (.bool b)/\(b=true↔c.length<=600/\∀(i:Nat) k,c[i]?=some k->Fg d c i k)/\Zz w A:=by
 have M:Below w.1.size w (w.alloc (.cells #[Zg d,Zg u,Zg g,Zg f,C1 a c D,P,L] 27)):=Zy;by_cases hn:600<c.length
 .go_enter func43,ntmps43;go_wp2;go_ret;exact⟨_,rfl,by simp;intro h;omega,M⟩
 .have I:=Aw.new w d u g f (C1 a c D) P L 27;go_enter func43,ntmps43;go_wp2
  go_loopw [12] (λi wr=>∃k:Nat,k<=c.length/\i=Zg k/\Zz w wr/\Aw wr w.1.size d u g f (C1 a c D) P L/\Hid (∀j x,j<k->c[j]?=some x->Fg d c j x)) (λi _=>c.length -(intOf i).toNat)
  case atStart=>exact⟨0,Az _,rfl,M,I,λj x h=>Yv⟩
  case round=>
   obtain⟨k,hk,rfl,l,J,s⟩:=hrel;by_cases hlt:k<c.length
   .obtain⟨b,V,ha,hb,H⟩:=(t.A l).at hlt;subst ha;have F:c[k]?=some c[k]:=Zv hlt;obtain⟨W,X,Y,z,C,Z,hr⟩:=H k _ F;obtain⟨T,x1,x2,x3,x4,x5,x6,Q⟩:=J;have q:=getElem_mem hlt;have R:=O.J _ q;have S:=G _ q;cases k
    case' zero=>
     have B:=Yw F;clear H t O G q F;simp only[Nat.zero_mul,Nat.add_zero]at W X Y Z;generalize c[0]=x at *
     have K:Hid (AG x.J x.B d=true->x.sum=Gc x d->∀m y,m<0+1->c[m]?=some y->Fg d c m y):=λo r m y U v=>by
      rcases Bz m 0 with E|E
      .exact s m y E v
      .obtain rfl:m=0:=Yv
       rw[B.o]at v;cases v;exact⟨o,r,λj p h=>Yv⟩
    case' succ j=>
     have B:=Yw F;have N:Hid (c[j]?=some c[j]):=Zv Yv;obtain⟨d0,_,_,_⟩:=H j _ N;clear H t O G q F;generalize c[j+1]=x at *
     generalize c[j]=p at *
     have zF:IntKind.i64.wrap (j:Int)=(j:Int):=wrap_small Yv Yv;have zB:(0:Int)<=(j:Int):=Yv
     have zA:b<wr.1.size:=Yv
     have zC:(j:Int)<(c.length:Int):=Yv
     cases hless:Op.bytesLess p.sum.toList x.sum.toList
     case' false=>
      go_wp2;go_quiet (fail);go_wp2;go_ret;refine⟨_,rfl,?_,Bg (l.alloc l.size _) _⟩;simp;intro _;exact⟨_,_,B,λh=>by have:=h.up j p rfl N;unfold less at this;rw[hless]at this;cases this⟩
     case' true=>
      have K:Hid (AG x.J x.B d=true->x.sum=Gc x d->∀m y,m<(j+1)+1->c[m]?=some y->Fg d c m y):=λo r m y U v=>by
       rcases Bz m (j+1)with E|E
       .exact s m y E v
       .obtain rfl:m=j+1:=Yv
        rw[B.o]at v;cases v;exact⟨o,r,λm m h m=>by cases h;rw[N.o]at m;cases m;exact hless⟩
    all_goals
     go_wp2;go_quiet (fail);go_wp2;obtain⟨t,z1,O⟩:=TS.new (n:=nq) (ty:=68) (C4 x.sum) (Zg x.born) (C4 x.J) (C1 z x.B C) T Q;generalize hW1:(wr.alloc (Obj.cells #[C4 x.sum,int IntKind.i64 x.born,C4 x.J,C1 z x.B C] 68)).drewN nq=W1 at *
     have F:Af W1 W1.1.size z x.B:=(hr.aj l.size).T t;have U:Aw W1 w.1.size d u g f (C1 (some ⟨b,V,none⟩) c D) P L:=Aw.ag ⟨T,x1,x2,x3,x4,x5,x6,Q⟩ t Q;obtain⟨j,p,y,t3,t4⟩:=O;have q0:=Ao.cell j Yv;have q1:=Ao.cell p Yv;have q2:=Ao.cell y Yv;have q3:=Ao.cell t3 Yv;have zE:=Ao.ne W1
     have H:∀n:Ao W1,D8 82 #[.agg #[C4 x.J,C1 z x.B C],Zg d] n.w λe A=>e=C5 (.bool (AG x.J x.B d))/\Below n.w.1.size n.w A:=λn=>Oj x.J z C x.B d _ (F.T n.h) S R
     have m:∀n:Ao W1,D8 83 #[.agg #[C4 x.J,C1 z x.B C],Zg d] n.w λe A=>e=C5 (C4 (AB x.J x.B d))/\Below n.w.1.size n.w A:=λn=>Jv x.J z C x.B d _ (F.T n.h) S R;have G:∀n:Ao W1,D8 8 #[C4 (AB x.J x.B d),Zg d] n.w λe A=>e=C5 (C4 (Gc x d))/\Below n.w.1.size n.w A:=λn=>IN _ d _ (Dl _ _ _) h1 h8;have v:=Yw (Zn m G)
     have q:=Yw H;clear m G H;generalize AB x.J x.B d=fx at *
     generalize hsx:Gc x d=sx at *
     have m:=l.ah (t.aj l.size);cases o:AG x.J x.B d with
     |false=>
      rw[o]at q;refine Ax Yr Yr ?_
      repeat (go_big_quiet_step (exact Ao.calls (q _)))
      refine wpQuiet_nil ?_;intro n;go_wp2;go_ret;refine⟨_,rfl,?_,m.ah (n.h.aj m.size)⟩;simp;intro _;exact⟨_,_,B,λh=>by rw[h.ok]at o;cases o⟩
     |true=>
      rw[o]at q;by_cases r:x.sum=sx
      .have A:(x.sum.toList !=sx.toList)=false:=by rw[r];simp
       refine Ax Yr Yr ?_
       repeat (go_big_quiet_step (first|exact Ao.calls (q _)|exact Ao.calls (v.1 _)|exact Ao.calls (v.2 _)))
       refine wpQuiet_nil ?_;intro n;go_wp2;exact⟨⟨_,Yv,Yn,m.ah (n.h.aj m.size),U.ag n.h Yv,K.o o r⟩,Ys⟩
      .have A:(x.sum.toList !=sx.toList)=true:=by simp[Br r,bne]
       have o:=Br r;refine Ax Yr Yr ?_
       repeat (go_big_quiet_step (first|exact Ao.calls (q _)|exact Ao.calls (v.1 _)|exact Ao.calls (v.2 _)))
       refine wpQuiet_nil ?_;intro n;go_wp2;go_ret;refine⟨_,rfl,?_,m.ah (n.h.aj m.size)⟩;simp;intro _;exact⟨_,_,B,λh=>r (by rw[<-hsx];exact h.sum)⟩
   .go_wp2;go_ret;exact⟨_,rfl,by simp;exact⟨Yv,λi x I=>s i x (Dz (Zw I).1) I⟩,l⟩
def EG(w:Zh)(b:Nat)(wd:Int)(m:Nat):Prop:=w.cell? (Zd b 0)=some (Zg wd)/\w.cell? (Zd b 1)=some (.map (some m))/\b<w.1.size
theorem EG.new(w:Zh)(a:Int)(m:Nat)(t:TypeId):EG (w.alloc (.cells #[Zg a,.map (some m)] t)) w.1.size a m:=⟨Yu,Yu,Yu⟩
theorem EG.ag{B m:Nat}{e:Int}(h:EG w b e m)(a:Below B w d)(c:b<B):EG d b e m:=
 ⟨(a.cell (p:=⟨b,0,none⟩) c).ah h.1,(a.cell (p:=⟨b,1,none⟩) c).ah h.2.1,Zr h.2.2 a.size⟩
theorem MQ(n D f d:Int)(T P L:D4)(a:Zk)(G m:Nat)(z:Dj)(c:Dy)(w:Zh)(r:AU w w.1.size a c)(M:IP c)(hl:c.length<=1048576)(B:∀s,RZ w n m z s)(U:P=C3 a c.length G):
 D8 45 #[.agg #[Zg n,Zg D,Zg f,Zg d,T,P,L],.agg #[Zg n,.map (some m)]] w λe g=>Ay (c.length<=100/\∀(i:Nat) x,c[i]?=some x->EP z c i x) w g e:=by
 subst U;have J:∀g l,Zz w ((w.alloc g).alloc l):=λg l=>(Zy).alloc Yu _;by_cases hn:100<c.length
 .go_enter func45,ntmps45;go_wp2;go_ret;exact Ay.no (λh=>Yv) (J _ _)
 .have t:=Aw.A (Aw.new w n D f d T (C1 a c G) L 27) (Ad.alloc (Zx) (.cells #[Zg n,.map (some m)] 81));have W:EG ((w.alloc (.cells #[Zg n,Zg D,Zg f,Zg d,T,(C1 a c G),L] 27)).alloc (.cells #[Zg n,.map (some m)] 81)) (w.1.size+1) n m:=⟨by simp[go_sem],by simp[go_sem],Yu⟩;go_enter func45,ntmps45;go_wp2
  go_loopw [14] (λi wr=>∃k:Nat,k<=c.length/\i=Zg k/\Zz w wr/\Hid (Aw wr w.1.size n D f d T (C1 a c G) L)/\Hid (EG wr (w.1.size+1) n m)/\Hid (∀(j:Nat) x,j<k->c[j]?=some x->EP z c j x)) (λi _=>c.length -(intOf i).toNat)
  case atStart=>exact⟨0,Az _,rfl,J _ _,t,W,λj x h=>Yv⟩
  case round=>
   obtain⟨k,hk,rfl,g,O,N,o⟩:=hrel;have⟨x0,x1,x2,x3,x4,x5,x6,Z⟩:=O.o;have⟨g0,g1,S⟩:=N.o;by_cases hlt:k<c.length
   .obtain⟨b,zC,V,hb,H⟩:=(r.A g).at hlt;subst V;have F:c[k]?=some c[k]:=Zv hlt;obtain⟨Q,R⟩:=H k _ F;have q:=getElem_mem hlt;have Y:=M.name _ q;have s:b<wr.1.size:=Yv
    cases k
    case' zero=>
     have C:=Yw F;clear H r M q F;simp only[Nat.zero_mul,Nat.add_zero]at Q R;generalize c[0]=x at *
     have HU:Hid (∀(v:Nat) A,0=v+1->c[v]?=some A->less A.name x.name=true):=λv A h=>Yv
     have I:Hid (EP z c (0) x->∀(l:Nat) y,l<0+1->c[l]?=some y->EP z c l y):=λt l y X u=>by
      rcases Bz l (0)with E|E
      .exact o l y E u
      .obtain rfl:l=0:=Yv
       rw[C.o]at u;cases u;exact t
    case' succ j=>
     have C:=Yw F;have K:Hid (c[j]?=some c[j]):=Zv Yv;obtain⟨d0,_⟩:=H j _ K;clear H r M q F;generalize c[j+1]=x at *
     generalize c[j]=p at *
     have zB:IntKind.i64.wrap (j:Int)=(j:Int):=wrap_small Yv Yv;have M:(0:Int)<=(j:Int):=Yv
     have zA:(j:Int)<(c.length:Int):=Yv
     cases hless:Op.bytesLess p.name.toList x.name.toList
     case' false=>
      go_wp2;go_quiet (fail);go_wp2;go_ret;refine Ay.no (λh=> ?_) (Bg (g.alloc g.size _) _);exact by have:=(h.2 _ _ C).up j p rfl K;unfold less at this;rw[hless]at this;cases this
     case' true=>
      have HU:Hid (∀(v:Nat) A,j+1=v+1->c[v]?=some A->less A.name x.name=true):=λv A h q=>by cases h;rw[K.o]at q;cases q;exact hless
      have I:Hid (EP z c (j+1) x->∀(l:Nat) y,l<(j+1)+1->c[l]?=some y->EP z c l y):=λt l y X u=>by
       rcases Bz l (j+1)with E|E
       .exact o l y E u
       .obtain rfl:l=j+1:=Yv
        rw[C.o]at u;cases u;exact t
    all_goals
     go_wp2;go_quiet (fail);have l:Below w.1.size w ((wr.alloc (Obj.cells #[C4 x.name,C4 x.sum] 71)).drewN nq):=Bg (g.alloc g.size _) _;have v:Below wr.1.size wr ((wr.alloc (Obj.cells #[C4 x.name,C4 x.sum] 71)).drewN nq):=Bg (Zy) _;have⟨H,A,q⟩:=B x.sum;have F:=Yw (q _ l);clear B q;go_wp2_with fail;refine(Nr x.name _ Y).aj ?_
     rintro e X ⟨rfl,rfl⟩;cases hnm:Ck x.name with
     |false=>go_wp2;go_ret;refine Ay.no (λh=> ?_) (l);exact by have:=(h.2 _ _ C).name;rw[hnm]at this;cases this
     |true=>
      go_wp2_with fail;refine F.Ai ?_;rintro e j ⟨rfl,r⟩;have q:=l.ah (r.aj l.size);have u:=v.ah (r.aj v.size);cases H with
      |false=>go_wp2;go_ret;refine Ay.no (λh=> ?_) (q);exact by have:=A.2 (h.2 _ _ C).sum;cases this
      |true=>have B:=Yw (I ⟨hnm,HU,A.1 rfl⟩);go_wp2;exact⟨⟨_,Yv,Yn,q,Aw.ag O u Z,EG.ag N u S,B⟩,Ys⟩
   .go_wp2;go_ret;exact Ay.yes ⟨Yv,λi x t=>o i x (Dz (Zw t).1) t⟩ g
theorem Li(o f c g:Int)(T P L:D4)(a:Zk)(J m:Nat)(B:Dj)(d:Dv)(w:Zh)(v:AS w w.1.size a d)(K:La d)(hl:d.length<=1048576)(R:0<=f)(Z:f<=1000000000)(D:∀s,RZ w o m B s)(hX:L=C3 a d.length J):
 D8 46 #[.agg #[Zg o,Zg f,Zg c,Zg g,T,P,L],.agg #[Zg o,.map (some m)]] w λe l=>Ay (d.length<=200/\∀(i:Nat) x,d[i]?=some x->Dw f c B d i x) w l e:=by
 subst hX;have G:∀l n,Zz w ((w.alloc l).alloc n):=λl n=>(Zy).alloc Yu _;by_cases hn:200<d.length
 .go_enter func46,ntmps46;go_wp2;go_ret;exact Ay.no (λh=>Yv) (G _ _)
 .have r:=Aw.A (Aw.new w o f c g T P (C1 a d J) 27) (Ad.alloc (Zx) (.cells #[Zg o,.map (some m)] 81));have X:EG ((w.alloc (.cells #[Zg o,Zg f,Zg c,Zg g,T,P,(C1 a d J)] 27)).alloc (.cells #[Zg o,.map (some m)] 81)) (w.1.size+1) o m:=⟨by simp[go_sem],by simp[go_sem],Yu⟩;go_enter func46,ntmps46;go_wp2
  go_loopw [14] (λi wr=>∃k:Nat,k<=d.length/\i=Zg k/\Zz w wr/\Hid (Aw wr w.1.size o f c g T P (C1 a d J))/\Hid (EG wr (w.1.size+1) o m)/\Hid (∀(j:Nat) x,j<k->d[j]?=some x->Dw f c B d j x)) (λi _=>d.length -(intOf i).toNat)
  case atStart=>exact⟨0,Az _,rfl,G _ _,r,X,λj x h=>Yv⟩
  case round=>
   obtain⟨k,hk,rfl,l,I,O,t⟩:=hrel;have⟨x0,x1,x2,x3,x4,x5,x6,Y⟩:=I.o;have⟨s,g1,g2⟩:=O.o;by_cases hlt:k<d.length
   .obtain⟨b,zF,ha,hb,H⟩:=(v.A l).at hlt;subst ha;have F:d[k]?=some d[k]:=Zv hlt;obtain⟨U,V,W⟩:=H k _ F;have u:=getElem_mem hlt;have m1:=K.sum _ u;have zA:b<wr.1.size:=Yv
    cases k
    case' zero=>
     have q:=Yw F;clear H v K u F;simp only[Nat.zero_mul,Nat.add_zero]at U V W;generalize d[0]=x at *
     have HU:Hid (∀(A:Nat) C,0=A+1->d[A]?=some C->C.G<x.G):=λA C h=>Yv
     have M:Hid (Dw f c B d (0) x->∀(n:Nat) y,n<0+1->d[n]?=some y->Dw f c B d n y):=λr n y N z=>by
      rcases Bz n (0)with E|E
      .exact t n y E z
      .obtain rfl:n=0:=Yv
       rw[q.o]at z;cases z;exact r
    case' succ j=>
     have q:=Yw F;have Q:Hid (d[j]?=some d[j]):=Zv Yv;obtain⟨d0,_,_⟩:=H j _ Q;clear H v K u F;generalize d[j+1]=x at *
     generalize d[j]=p at *
     have zE:IntKind.i64.wrap (j:Int)=(j:Int):=wrap_small Yv Yv;have zB:(0:Int)<=(j:Int):=Yv
     have zC:(j:Int)<(d.length:Int):=Yv
     by_cases hless:p.G<x.G
     case' neg=>
      have u:decide (x.G<=p.G)=true:=Yt
      go_wp2;go_quiet (fail);go_wp2;go_ret;refine Ay.no (λh=> ?_) (Bg (l.alloc l.size _) _);exact by have:=(h.2 _ _ q).up j p rfl Q;omega
     case' pos=>
      have u:decide (x.G<=p.G)=false:=Yt
      have HU:Hid (∀(A:Nat) C,j+1=A+1->d[A]?=some C->C.G<x.G):=λA C h v=>by cases h;rw[Q.o]at v;cases v;exact hless
      have M:Hid (Dw f c B d (j+1) x->∀(n:Nat) y,n<(j+1)+1->d[n]?=some y->Dw f c B d n y):=λr n y N z=>by
       rcases Bz n (j+1)with E|E
       .exact t n y E z
       .obtain rfl:n=j+1:=Yv
        rw[q.o]at z;cases z;exact r
    all_goals
     go_wp2;go_quiet (fail);have n:Below w.1.size w ((wr.alloc (Obj.cells #[int IntKind.i64 x.G,C4 x.sum,int IntKind.i64 x.S] 73)).drewN nq):=Bg (l.alloc l.size _) _;have F:Below wr.1.size wr ((wr.alloc (Obj.cells #[int IntKind.i64 x.G,C4 x.sum,int IntKind.i64 x.S] 73)).drewN nq):=Bg (Zy) _
     have z:((wr.alloc (Obj.cells #[int IntKind.i64 x.G,C4 x.sum,int IntKind.i64 x.S] 73)).drewN nq).cell? (Zd (wr.1.size) 2)=some (Zg x.S):=by rw[LN];simp
     have A:((wr.alloc (Obj.cells #[int IntKind.i64 x.G,C4 x.sum,int IntKind.i64 x.S] 73)).drewN nq).1.size=wr.1.size+1:=by rw[LO];simp
     have⟨y,H,v⟩:=D x.sum;have S:=Yw (v _ n);have N:=Yw (Zn z A);clear D v z A;by_cases hlo:1<=x.G
     .have K:decide (x.G<1)=false:=Yt
      by_cases hhi:x.G<=c
      .have D:decide (c<x.G)=false:=Yt
       go_wp2_with fail;refine S.Ai ?_;rintro e w2 ⟨rfl,v⟩;have C:=n.ah (v.aj n.size);have z:=F.ah (v.aj F.size);cases y with
       |false=>go_wp2;go_ret;refine Ay.no (λh=> ?_) (C);exact by have:=H.2 (h.2 _ _ q).sum;cases this
       |true=>
        have⟨y0,y1,y2,y3,y4,y5,y6,y7⟩:=Aw.ag I z Y;have e2:=(v.cell (p:=⟨wr.1.size,2,none⟩) (by rw[N.2];simp)).ah N.1;have A:=Yw (Zn C (Zn (Aw.ag I z Y) (EG.ag O z g2)));have j:=Yw (H.1 rfl);clear x0 x1 x2 x3 x4 x5 x6 s g1 F v C z I O H S N G r X l m1 U V W n;by_cases ht1:f<x.S
        .have v:decide (x.S<=f)=false:=Yt
         by_cases ht2:x.S<=f+100000
         .have z:decide (f+100000<x.S)=false:=Yt
          have C:=Yw (M ⟨hlo,hhi,HU,j,ht1,ht2⟩);go_wp2;exact⟨⟨_,Yv,Yn,A.1,A.2.1,A.2.2,C⟩,Ys⟩
         .have z:decide (f+100000<x.S)=true:=Yt
          go_wp2;go_ret;refine Ay.no (λh=> ?_) (A.1);exact by have:=(h.2 _ _ q).ix;omega
        .have v:decide (x.S<=f)=true:=Yt
         go_wp2;go_ret;refine Ay.no (λh=> ?_) (A.1);exact by have:=(h.2 _ _ q).ir;omega
      .have D:decide (c<x.G)=true:=Yt
       go_wp2;go_ret;refine Ay.no (λh=> ?_) (n);exact by have:=(h.2 _ _ q).hi;omega
     .have K:decide (x.G<1)=true:=Yt
      go_wp2;go_ret;refine Ay.no (λh=> ?_) (n);exact by have:=(h.2 _ _ q).lo;omega
   .go_wp2;go_ret;exact Ay.yes ⟨Yv,λi x r=>t i x (Dz (Zw r).1) r⟩ l
def seen(ks:List Kd)(k:Nat)(n:Int):Bool:=(ks.take k).any (fun x=>decide (x.born=n))
def flags(ks:List Kd)(k:Nat):Zj:=(List.range 601).map (fun(n:Nat)=>Value.bool (seen ks k n))
def later(ks:List Kd)(k:Nat):List Int:=((ks.take k).map (·.born)).filter (fun b=>decide (600<b))
theorem JI(b:a[k]?=some x):a.take (k+1)=a.take k++[x]:=by obtain⟨h,rfl⟩:=Zw b;exact Zu h
theorem Ic(b:a[k]?=some x)(n:Int):seen a (k+1) n=(seen a k n||decide (x.born=n)):=by unfold seen;rw[JI b,any_append];simp
theorem EH(a:Dj)(k:Nat):(flags a k).length=601:=by simp[flags]
theorem Fs(a:Dj)(k n:Nat)(h:n<601):(flags a k)[n]?=some (.bool (seen a k n)):=by simp[flags,h]
theorem Sp(c:Dj):flags c 0=replicate 601 (.bool false):=by unfold flags;rw[eq_replicate_iff];refine⟨Yu,λb a=> ?_⟩;obtain⟨n,_,rfl⟩:=mem_map.1 a;simp[seen]
theorem Uh(b:a[k]?=some x)(c:0<=x.born)(d:x.born<=600):(flags a k).set x.born.toNat (.bool true)=flags a (k+1):=by
 apply ext_getElem?;intro n;by_cases hn:n<601
 .by_cases he:x.born.toNat=n
  .subst he;rw[getElem?_set_self (by rw[EH];omega),Fs _ _ _ hn,Ic b];have:decide (x.born=(x.born.toNat:Int))=true:=Yt
   rw[this];simp
  .rw[getElem?_set_ne he,Fs _ _ _ hn,Fs _ _ _ hn,Ic b];have:decide (x.born=(n:Int))=false:=Yt
   rw[this];simp
 .rw[getElem?_eq_none (by simp[EH];omega),getElem?_eq_none (by simp[EH];omega)]
theorem Ui(b:a[k]?=some x)(c:600<x.born):flags a (k+1)=flags a k:=by
 apply ext_getElem?;intro n;by_cases hn:n<601
 .rw[Fs _ _ _ hn,Fs _ _ _ hn,Ic b];have:decide (x.born=(n:Int))=false:=Yt
  rw[this];simp
 .rw[getElem?_eq_none (by simp[EH];omega),getElem?_eq_none (by simp[EH];omega)]
theorem LY(b:a[k]?=some x):later a (k+1)=later a k++(if 600<x.born then [x.born]else []):=by unfold later;rw[JI b,map_append,filter_append];by_cases h:600<x.born<;>simp[h]
theorem Pu(a:Dj)(k:Nat):(later a k).length<=k:=by unfold later;refine Zm (length_filter_le _ _) ?_;simp;omega
theorem FU{c:Dj}{n:Int}:seen c k n=true↔∃j p,j<k/\c[j]?=some p/\p.born=n:=by
 unfold seen;rw[any_eq_true];constructor
 .rintro⟨p,b,h⟩;have⟨j,a⟩:=A5 b;have d:=(Zw a).1;simp at d;rw[getElem?_take_of_lt Yv]at a;exact⟨j,p,Yv,a,D2 h⟩
 .rintro⟨j,p,a,b,h⟩;exact⟨p,Zs (i:=j) (by rw[getElem?_take_of_lt a];exact b),D2 h⟩
theorem Uj{b:Dj}{n:Int}(h:600<n):n∈later b k↔seen b k n=true:=by
 unfold later seen;simp only[Bb,mem_map,any_eq_true,decide_eq_true_eq];constructor
 .rintro⟨⟨p,a,rfl⟩,_⟩;exact⟨p,a,rfl⟩
 .rintro⟨p,a,rfl⟩;exact⟨⟨p,a,rfl⟩,h⟩
theorem VB:(prog.info? 4).map (λi=>(i.zero,i.size,i.bytes))=some (some (.bool false),1,1):=Yr
theorem Rv:(prog.info? 3).map (λi=>(i.zero,i.size,i.bytes))=some (some Ze,1,8):=Yr
theorem JJ{c:Int}(h:∀(i:Nat) k,a[i]?=some k->Fg c a i k):∀(d i:Nat) u v,a[i]?=some u->a[i+d+1]?=some v->less u.sum v.sum=true
 |0,i,u,v,hu,hv=>(h _ _ hv).up i u rfl hu
 |d+1,i,u,v,hu,hv=>by have e:=(Zw hv).1;have b:a[i+d+1]?=some (a[i+d+1]'(by omega)):=Zv Yv;exact BV (JJ h d i u _ hu b) ((h _ _ hv).up _ _ Yv b)
theorem Pv{f:Int}{b:Dj}(h:∀(i:Nat) k,b[i]?=some k->Fg f b i k){i:Nat}{u v:Kd}(d:b[i]?=some u)(a:b[j]?=some v)(e:u.sum=v.sum):u=v:=by
 rcases Nat.lt_trichotomy i j with c|c|c
 .have:=JJ h (j -i -1) i u v d (by rw[show i+(j -i -1)+1=j from by omega];exact a);rw[e,By]at this;cases this
 .subst c;rw[d]at a;cases a;rfl
 .have:=JJ h (i -j -1) j v u a (by rw[show j+(i -j -1)+1=i from by omega];exact d);rw[e,By]at this;cases this
structure Pw (w wr:Zh) (ks:List Kd) (k:Nat) (v:Value):Prop where
 cu:Below w.1.size w wr
 fl:wr.ownsRow (w.1.size+1) 4 1 (.slice (some ⟨w.1.size+1,0,none⟩) 601 601) 601 (flags ks k)
 L:wr.ownsRow (w.1.size+2) 3 1 v (later ks k).length ((later ks k).map (Value.int .i64))
theorem Pw.ag{a:Zh}{c:Dj}(h:Pw w wr c k v)(b:Zz wr a):Pw w a c k v:=
 ⟨h.cu.ah (b.aj h.cu.size),h.fl.kept (Ag none b) (.inr (by simp[ownBlock])),h.L.kept (Ag none b) (by cases v.ownBlock<;>simp)⟩
def JK(wd births:Int)(ks:List Kd):Prop:=(∀(i:Nat) k,ks[i]?=some k->Fg wd ks i k)/\(∀(i:Nat) k,ks[i]?=some k->EZ births ks i k)/\(∀(i:Nat) k,ks[i]?=some k->Hu ks k)
theorem QO(o C l d:Int)(a:Zk)(J:Nat)(P L:D4)(f:List Kd)(w:Zh)(T:AW w w.1.size a f)(F:Iq f)(hl:f.length<=600)(zX:∀k∈f,k.B.length<=1048576)(h1:1<=o)(h8:o<=8):
 D8 65 #[.agg #[.int .i64 o,.int .i64 C,.int .i64 l,.int .i64 d,.slice a f.length J,P,L]] w λe O=>∃b,e=.returned (.bool b)/\(b=true↔JK o d f)/\Zz w O:=by
 have⟨i0,hi,xF,xG,xH⟩:=info_parts VB;have⟨i1,yU,xC,xD,xE⟩:=info_parts Rv;have yQ:Below w.1.size w (w.alloc (.cells #[.int .i64 o,.int .i64 C,.int .i64 l,.int .i64 d,.slice a f.length J,P,L] 27)):=Zy;have hx:=Aw.new w o C l d (.slice a f.length J) P L 27;go_enter func65,ntmps65
 go_wp2_with (at_make;refine wpList_make_full _ rfl _ _ 145 rfl (w.1.size+1) 4 i0 (.bool false) 1 underlying145 hi xF xG .i64 .i64 _ _ 601 rfl rfl rfl rfl ?c1 ?c2 ?c3 ?_)
 case c1=>rw[xH];omega
 case c2=>unfold maxLen;omega
 case c3=>simp
 intro w1 I t;rw[toList_madeCells_one]at I;have K:Below (w.1.size+1) (w.alloc (.cells #[.int .i64 o,.int .i64 C,.int .i64 l,.int .i64 d,.slice a f.length J,P,L] 27)) w1:=Ad.grown t (by simp) (by simp);have yK:=hx.ag K (by omega);have zC:=yQ.ah (K.aj (by omega));have xK:w.1.size+1<w1.1.size:=by have:=(I.lt _ rfl).2;simpa using this
 clear t K hx;go_wp2
 go_loopw [4,5] (λv i wr=>∃(k g c:Nat),k<=f.length/\i=.int .i64 k/\v=.slice (some ⟨g,0,none⟩) (later f k).length c/\Hid (Pw w wr f k (.slice (some ⟨g,0,none⟩) (later f k).length c))/\Hid (Aw wr w.1.size o C l d (.slice a f.length J) P L)/\Hid (∀(j:Nat) x,j<k->f[j]?=some x->Fg o f j x/\EZ d f j x)) (λ_ i _=>f.length -(intOf i).toNat)
 case atStart=>
  refine⟨0,w1.1.size,0,Az _,rfl,rfl,⟨zC.alloc zC.size _,?_,?_⟩,yK.ag (Zy) yK.2.2.2.2.2.2.2,λj x h=>by omega⟩
  .rw[Sp];exact I.alloc _
  .exact ownsRow_lit w1 #[] 0 (by omega) (by simp[maxLen]) rfl
 case round=>
  obtain⟨k,g,c,hk,rfl,rfl,HL,HX,S⟩:=hrel;have⟨x0,x1,x2,x3,x4,x5,x6,x7⟩:=HX.o;by_cases hlt:k<f.length
  .obtain⟨b,R,ha,hb,s⟩:=(T.A HL.cu).at hlt;subst ha;have D:f[k]?=some f[k]:=Zv hlt;obtain⟨c0,c1,c2,E,G,c3,hr⟩:=s k _ D;have H:=getElem_mem hlt;have m1:=F.J _ H;have m2:=zX _ H;have yS:b<wr.1.size:=by omega
   have m:=HL.o;clear HX HL I;have B:Hid _:=D;by_cases hk0:k=0
   case' pos=>
    have yL:decide (0<k)=false:=by simp;omega
    have HU:Hid (∀(N:Nat) V,k=N+1->f[N]?=some V->less V.sum f[k].sum=true):=λN V h=>by omega
    clear s hk0
   case' neg=>
    have yL:decide (0<k)=true:=by simp;omega
    have⟨j,HJ⟩:∃j,Hid (k=j+1):=⟨k -1,by show _=_;omega⟩;have A:j<f.length:=Dz HJ.o
    have HP:Hid (f[j]?=some f[j]):=Zv A;obtain⟨d0,_,_,_⟩:=s j _ HP;generalize f[j]=p at *
    have xU:IntKind.i64.wrap ((k:Int) -1)=(j:Int):=by have:=HJ.o;rw[show(k:Int) -1=(j:Int) by omega];exact wrap_small (by omega) (by omega)
    have yV:(0:Int)<=(j:Int):=by omega
    have yW:(j:Int)<(f.length:Int):=by omega
    clear s hk0 A
   all_goals
    clear T F zX H D;generalize f[k]=x at *
    go_wp2;have K:Below wr.1.size wr (wr.alloc (Obj.cells #[string x.sum,int IntKind.i64 x.born,string x.J,slice E x.B.length G] 68)):=Zy;have z1:(wr.alloc (Obj.cells #[string x.sum,int IntKind.i64 x.born,string x.J,slice E x.B.length G] 68)).1.size=wr.1.size+1:=by simp
    have t1:(wr.alloc (Obj.cells #[string x.sum,int IntKind.i64 x.born,string x.J,slice E x.B.length G] 68)).cell? ⟨wr.1.size,0,none⟩=some (.string x.sum):=by simp
    have yM:(wr.alloc (Obj.cells #[string x.sum,int IntKind.i64 x.born,string x.J,slice E x.B.length G] 68)).cell? ⟨wr.1.size,1,none⟩=some (.int .i64 x.born):=by simp
    have t2:(wr.alloc (Obj.cells #[string x.sum,int IntKind.i64 x.born,string x.J,slice E x.B.length G] 68)).cell? ⟨wr.1.size,2,none⟩=some (.string x.J):=by simp
    have t3:(wr.alloc (Obj.cells #[string x.sum,int IntKind.i64 x.born,string x.J,slice E x.B.length G] 68)).cell? ⟨wr.1.size,3,none⟩=some (.slice E x.B.length G):=by simp
    have zG:Aw (wr.alloc (Obj.cells #[string x.sum,int IntKind.i64 x.born,string x.J,slice E x.B.length G] 68)) w.1.size o C l d (.slice (some ⟨b,R,none⟩) f.length J) P L:=Aw.ag ⟨x0,x1,x2,x3,x4,x5,x6,x7⟩ K x7;generalize hW1:wr.alloc (Obj.cells #[string x.sum,int IntKind.i64 x.born,string x.J,slice E x.B.length G] 68)=W1 at *
    have yI:Af W1 W1.1.size E x.B:=(hr.aj m.cu.size).T K;have q0:=Ao.cell zG.1 (by omega);have xV:=Ao.cell zG.2.2.2.1 (by omega);have xW:=Ao.cell zG.2.2.2.2.1 (by omega);have q1:=Ao.cell t1 (by omega);have q2:=Ao.cell t2 (by omega);have q3:=Ao.cell t3 (by omega);have q5:=Ao.cell yM (by omega);try have q6:=Ao.cell ((K.cell (p:=⟨b,_,none⟩) yS).ah d0) (by omega)
    have yX:=Ao.ne W1;have M:∀n:Ao W1,D8 69 #[.agg #[.string x.J,.slice E x.B.length G],.int .i64 o] n.w λe O=>e=.returned (.bool (AG x.J x.B o))/\Below n.w.1.size n.w O:=λn=>DM x.J E G x.B o _ (yI.T n.h) m2 m1
    have A:∀n:Ao W1,D8 89 #[.agg #[.string x.J,.slice E x.B.length G],.int .i64 o] n.w λe O=>e=.returned (.string (AB x.J x.B o))/\Below n.w.1.size n.w O:=λn=>Ht x.J E G x.B o _ (yI.T n.h) m2 m1;have F:∀n:Ao W1,D8 22 #[.string (AB x.J x.B o),.int .i64 o] n.w λe O=>e=.returned (.string (Gc x o))/\Below n.w.1.size n.w O:=λn=>IM _ o _ (Dl _ _ _) h1 h8
    have D:∀n:Ao W1,D8 64 #[.int .i64 x.born,.int .i64 1,.int .i64 d] n.w λe O=>e=.returned (.bool (decide (1<=x.born/\x.born<=d)))/\Below n.w.1.size n.w O:=λn=>(CS _ _ _ _).aj (by rintro e O ⟨rfl,rfl⟩;exact⟨rfl,Ad⟩);have HF:Hid _:=Zn A F;have HV:Hid _:=M;have HR:Hid _:=D;clear A F M D;generalize AB x.J x.B o=fx at *
    generalize hsx:Gc x o=sx at *
    have zC:=m.cu.ah (K.aj m.cu.size)
   all_goals first
    |(have A:=HP
      clear A;cases hless:Op.bytesLess p.sum.toList x.sum.toList
      case' true=>
       have HU:Hid (∀(N:Nat) V,k=N+1->f[N]?=some V->less V.sum x.sum=true):=λN V h Z=>by have:=HJ.o;obtain rfl:N=j:=(by omega);rw[HP.o]at Z;cases Z;exact hless
      case' false=>
       have zB:Hid (¬JK o d f):=λh=>by have:=(h.1 _ _ B).up j p HJ HP;unfold less at this;rw[hless]at this;cases this
       cases hok:AG x.J x.B o
       all_goals
        rw[hok]at HV;by_cases hs:x.sum=sx
        case' pos=>
         rw[hs]at hless;have Q:(x.sum.toList !=sx.toList)=false:=by rw[hs];simp
        case' neg=>
         have Q:(x.sum.toList !=sx.toList)=true:=by simp[Br hs,bne]
         have yC:=Br hs)
    |skip
   all_goals first
    |(have A:=zB;clear A)
    |(cases hok:AG x.J x.B o
      case' false=>
       rw[hok]at HV;have zB:Hid (¬JK o d f):=λh=>by have:=(h.1 _ _ B).ok;rw[hok]at this;cases this
      case' true=>
       rw[hok]at HV;by_cases hs:x.sum=sx
       case' neg=>
        have Q:(x.sum.toList !=sx.toList)=true:=by simp[Br hs,bne]
        have yC:=Br hs;have zB:Hid (¬JK o d f):=λh=>hs (by rw[<-hsx];exact(h.1 _ _ B).sum)
       case' pos=>
        have Q:(x.sum.toList !=sx.toList)=false:=by rw[hs];simp
        try rw[hs]at hless
        by_cases hrg:1<=x.born/\x.born<=d
        case' neg=>
         rw[decide_eq_false hrg]at HR;have zB:Hid (¬JK o d f):=λh=>hrg ⟨(h.2.1 _ _ B).lo,(h.2.1 _ _ B).hi⟩
        case' pos=>
         rw[decide_eq_true hrg]at HR;refine Ax (by kernel_rfl) (by kernel_rfl) ?_
         repeat (go_big_quiet_step (first|exact Ao.calls (HV _)|exact Ao.calls (HF.1 _)|exact Ao.calls (HF.2 _)|exact Ao.calls (HR _)))
         refine wpQuiet_nil ?_;intro n;have D:Pw w n.w f k (.slice (some ⟨g,0,none⟩) (later f k).length c):=m.ag (K.ah (n.h.aj (by omega)));have zE:=zG.ag n.h (by omega);obtain⟨y0,y1,y2,y3,y4,y5,y6,W⟩:=zE;have n1:=Ao.cell yM (by omega) n;have nz:=n.size;by_cases hlow:x.born<=600
         .have zS:=D.fl.cellAt x.born.toNat (by omega);rw[Fs _ _ _ (by omega),Int.toNat_of_nonneg (by omega)]at zS;have xN:=D.fl.frozenAt x.born.toNat;cases hse:seen f k x.born with
          |true=>rw[hse]at zS;have HH:Hid _:=D;clear D m HV HF HR;go_wp2;go_ret;refine⟨_,rfl,?_,HH.cu⟩;simp only[Bool.false_eq_true,false_iff];have⟨A,p',zT,zV,zR⟩:=FU.1 hse;exact λh=>(h.2.1 _ _ B).new A p' zT zV zR
          |false=>
           rw[hse]at zS;have Y:=D.fl.stored x.born.toNat (.bool true);rw[Uh B.o (by omega) hlow]at Y;have X:later f (k+1)=later f k:=by rw[LY B.o,if_neg (by omega)];simp
           have q:=D.cu.setCell (p:=⟨w.1.size+1,x.born.toNat,none⟩) (by simp) (.bool true);have M:=ownsRow_setCell_below D.L (a:=⟨w.1.size+1,x.born.toNat,none⟩) (by simp) (.bool true);rw[<-X]at M;have HN:Hid (Pw w (n.w.setCell ⟨w.1.size+1,x.born.toNat,none⟩ (.bool true)) f (k+1) (.slice (some ⟨g,0,none⟩) (later f k).length c)):=⟨q,Y.1,by rw[<-X];exact M⟩
           have HB:Hid (Aw (n.w.setCell ⟨w.1.size+1,x.born.toNat,none⟩ (.bool true)) w.1.size o C l d (.slice (some ⟨b,R,none⟩) f.length J) P L):=by refine⟨?_,?_,?_,?_,?_,?_,?_,D2 W⟩<;>(rw[cell?_setCell_other _ _ _ _ (by simp)];assumption)
           have HA:Hid (∀(A:Nat) y,A<k+1->f[A]?=some y->Fg o f A y/\EZ d f A y):=by
            intro A y hj U;rcases Bz A k with F|F
            .exact S A y F U
            .obtain rfl:A=k:=by omega
             rw[B.o]at U;cases U;refine⟨⟨hok,by rw[hsx];exact hs,HU⟩,⟨by omega,by omega,λN V zU Z he=> ?_⟩⟩;have:=FU.2 ⟨N,V,zU,Z,he⟩;rw[hse]at this;cases this
           have yE:Hid (later f (k+1)=later f k):=X;clear D m HV HF HR Y X M q;go_wp2;refine⟨⟨k+1,g,c,by omega,by go_num,by rw[yE.o],?_,HB,HA⟩,by simp[intOf];omega⟩;rw[yE.o];exact HN
         .have X:=D.L;have q:=D.fl;have M:=D.cu;have hlen:=Pu f k;have zZ:Hid (flags f (k+1)=flags f k):=Ui B (by omega);have zA:Hid (later f (k+1)=later f k++[x.born]):=by show _=_;rw[LY B.o,if_pos (by omega)]
          have Y:Hid (x.born∈later f k↔seen f k x.born=true):=Uj (by omega);have yN:Hid (Aw n.w w.1.size o C l d (.slice (some ⟨b,R,none⟩) f.length J) P L):=⟨y0,y1,y2,y3,y4,y5,y6,W⟩;have HT:Hid (Fg o f k x):=⟨hok,by rw[hsx];exact hs,HU⟩;have r:Hid (later f k=later f k):=rfl;generalize hlv:later f k=lv at *
          have HH:Hid _:=Zn X (Zn q M);clear m HV HF HR D Q r X q;go_wp2
          go_loopw [7] (λjv wq=>∃q m:Nat,q<=lv.length/\jv=.int .i64 q/\wq=n.w.drewN m/\Hid (∀r z,r<q->lv[r]?=some z->z≠x.born)) (λjv _=>lv.length -(intOf jv).toNat)
          case atStart=>exact⟨0,0,Az _,rfl,rfl,λr z h=>by omega⟩
          case round=>
           obtain⟨q,m,hq,rfl,rfl,zH⟩:=hrel;by_cases hqlt:q<lv.length
           .have yH:=HH.1.cellAt q (D2 hqlt);rw[getElem?_map,Zv hqlt]at yH;simp only[Option.map_some]at yH;have HQ:Hid (lv[q]?=some lv[q]):=Zv hqlt;have H:Hid (lv[q]∈lv):=getElem_mem hqlt;have yY:(0:Int)<=(q:Int):=by omega
            have yZ:(q:Int)<(lv.length:Int):=by omega
            generalize lv[q]=z at *
            by_cases hz:z=x.born
            .subst hz;go_wp2;go_quiet (fail);go_wp2;go_ret;refine⟨_,rfl,?_,Bg (Bg M _) _⟩;simp only[Bool.false_eq_true,false_iff];have⟨A,p',zT,zV,zR⟩:=FU.1 (Y.1 H);exact λh=>(h.2.1 _ _ B).new A p' zT zV zR
            .have yL:(z==x.born)=false:=D2 hz
             have HN:Hid (∀r z,r<q+1->lv[r]?=some z->z≠x.born):=by
              intro r z' v z;rcases Bz r q with F|F
              .exact zH r z' F z
              .obtain rfl:r=q:=by omega
               rw[HQ.o]at z;cases z;exact hz
             clear hz;go_wp2;go_quiet (fail);go_wp2;exact⟨⟨q+1,m+nq,by omega,by go_num,rfl,HN⟩,by simp[intOf];omega⟩
           .obtain rfl:q=lv.length:=by omega
            have yA:Hid (seen f k x.born=false):=by
             show _=_;cases hse:seen f k x.born with
             |false=>rfl
             |true=>have⟨r,v⟩:=A5 (Y.2 hse);exact absurd rfl (zH r _ (Zw v).1 v)
            have D:(n.w.drewN m).ownsRow (w.1.size+2) 3 1 (.slice (some ⟨g,0,none⟩) lv.length c) lv.length (lv.map (int .i64)):=HH.1;have X:(n.w.drewN m).ownsRow (w.1.size+1) 4 1 (.slice (some ⟨w.1.size+1,0,none⟩) 601 601) 601 (flags f k):=HH.2.1;have xQ:=(D.lt g rfl).1;have HD:Hid _:=Zn D X;have yR:Below w.1.size w (n.w.drewN m):=Bg M _
            have zY:w.1.size+2<=(n.w.drewN m).1.size:=Dz (D.lt g rfl).2
            clear D X;go_wp2_with (first
             |(at_builtin;refine wpList_append_own _ rfl _ _ 40 rfl (w.1.size+2) 3 i1 (.int .i64 0) 1 8 underlying40 yU xC xD xE rfl (by decide) _ lv.length (lv.map (int .i64)) rfl ?d0 ⟨n.w.1.size,0,none⟩ 1 1 [.int .i64 x.born] rfl rfl ?d1 ?d2 ?d3 ?d4 ?d5 ?_)
             |go_in)
            case d0=>exact HD.1.alloc _
            case d1=>exact cell_one_new _ _ _
            case d2=>intro u X;simp at X;subst X;rfl
            case d3=>unfold maxLen;omega
            case d4=>omega
            case d5=>simp at zY |-;omega
            intro v' w2 D t _;obtain⟨g',c',xB,xO,xP⟩:=D.form (by omega);subst xB;have zO:Below (w.1.size+2) (n.w.drewN m) w2:=(Ad.alloc zY _).grown t (by simp at zY |-;omega) (by intro k hk;simp[ownBlock]at hk;omega);have EG:Hid _:=yN.ag ((Bg Ad m:Below (w.1.size+2) n.w (n.w.drewN m)).ah zO) (by omega)
            have zF:=(HD.2.alloc (.cells #[.int .i64 x.born] 3)).kept t (.inr (by simp[ownBlock];omega));have HN:Hid (Pw w w2 f (k+1) (.slice (some ⟨g',0,none⟩) (lv.length+1) c')):=⟨yR.ah (zO.aj (by omega)),by rw[zZ.o];exact zF,by rw[zA.o];simpa using D⟩;have HA:Hid (∀(A:Nat) y,A<k+1->f[A]?=some y->Fg o f A y/\EZ d f A y):=by
             intro A y hj U;rcases Bz A k with F|F
             .exact S A y F U
             .obtain rfl:A=k:=by omega
              rw[B.o]at U;cases U;refine⟨HT,⟨by omega,by omega,λN V zU Z he=> ?_⟩⟩;have:=FU.2 ⟨N,V,zU,Z,he⟩;rw[yA.o]at this;cases this
            clear D t zF zO;go_wp2;refine⟨⟨k+1,g',c',by omega,by go_num,by rw[zA.o];simp,?_,EG,HA⟩,by simp[intOf];omega⟩;rw[zA.o,Ak];exact HN)
   all_goals
    refine Ax (by kernel_rfl) (by kernel_rfl) ?_
    repeat (go_big_quiet_step (first|exact Ao.calls (HV _)|exact Ao.calls (HF.1 _)|exact Ao.calls (HF.2 _)|exact Ao.calls (HR _)))
    refine wpQuiet_nil ?_;intro n;go_wp2;go_ret;refine⟨_,rfl,?_,zC.ah (n.h.aj zC.size)⟩;simp only[Bool.false_eq_true,false_iff];exact zB.o
  .have N:Hid (∀(j:Nat) x,f[j]?=some x->Fg o f j x/\EZ d f j x):=λj x hx=>S j x (Dz (Zw hx).1) hx;have zI:=HL.cu;have yP:=HX;clear I HL S HX;go_wp2
   go_loopw [8] (λt wq=>∃i:Nat,i<=f.length/\t=.int .i64 i/\Zz w wq/\Hid (Aw wq w.1.size o C l d (.slice a f.length J) P L)/\Hid (∀(j:Nat) x,j<i->f[j]?=some x->Hu f x)) (λt _=>f.length -(intOf t).toNat)
   case atStart=>exact⟨0,Az _,rfl,zI,yP,λj x h=>by omega⟩
   case round=>
    obtain⟨i,xS,rfl,D,yF,S⟩:=hrel;have⟨x0,x1,x2,x3,x4,x5,x6,x7⟩:=yF.o;by_cases hilt:i<f.length
    .have zJ:=T.A D;have⟨b,R,ha,hb,s⟩:=zJ.at hilt;subst ha;have B:Hid (f[i]?=some f[i]):=Zv hilt;have HC:Hid _:=s;generalize f[i]=x at *
     clear s;have t:=zX x (Zs B);go_wp2
     go_loopw [9] (λjv t=>∃q:Nat,q<=x.B.length/\jv=.int .i64 q/\Zz w t/\Hid (Aw t w.1.size o C l d (.slice (some ⟨b,R,none⟩) f.length J) P L)/\Hid (∀(r:Nat) s,r<q->x.B[r]?=some s->∃u∈f,u.sum=s/\u.born<x.born)) (λjv _=>x.B.length -(intOf jv).toNat)
     case atStart=>exact⟨0,Az _,rfl,D,yF,λr s h=>by omega⟩
     case round=>
      obtain⟨q,hq,rfl,I,zK,yJ⟩:=hrel;have t:=T.A I;have⟨b',yD,zN,_,zP⟩:=t.at hilt;cases zN;obtain⟨_,e1,_,E,G,e3,zW⟩:=zP i _ B;have⟨y0,y1,y2,y3,y4,y5,y6,W⟩:=zK.o;clear x0 x1 x2 x3 x4 x5 x6 x7;have V:(0:Int)<=(i:Int):=by omega
      have xR:(i:Int)<(f.length:Int):=by omega
      have yT:b<wr.1.size:=by omega
      by_cases hql:q<x.B.length
      .obtain⟨rb,xL,xA,xT,Z⟩:=zW.at hql;subst xA;have HS:Hid (x.B[q]?=some x.B[q]):=Zv hql;have es:=Z q _ HS;have yY:(0:Int)<=(q:Int):=by omega
       have yZ:(q:Int)<(x.B.length:Int):=by omega
       have yB:rb<wr.1.size:=by omega
       generalize x.B[q]=s at *
       have V:∀n:Ao wr,D8 67 #[.agg #[.int .i64 o,.int .i64 C,.int .i64 l,.int .i64 d,.slice (some ⟨b,R,none⟩) f.length J,P,L],.string s] n.w λe O=>e=.returned (.int .i64 (Cu f s))/\Below n.w.1.size n.w O:=λn=>Dk o C l d _ J P L f s n.w w.1.size (t.A (n.h.aj (by omega))) (Dz n.h.size) (by omega);have yO:Hid _:=V;have q0:=Ao.cell y0 W;have q1:=Ao.cell y1 W
       have q2:=Ao.cell y2 W;have q3:=Ao.cell y3 W;have q4:=Ao.cell y4 W;have q5:=Ao.cell y5 W;have q6:=Ao.cell y6 W;have q7:=Ao.cell e3 yT;have q8:=Ao.cell es yB;have yX:=Ao.ne wr;have HK:Hid _:=t;clear V zP Z zW t;go_wp2;refine Ax (by kernel_rfl) (by kernel_rfl) ?_
       repeat (go_big_quiet_step (exact Ao.calls (yO _)))
       refine wpQuiet_nil ?_;intro n;have zE:Below w.1.size w n.w:=I.ah (n.h.aj (by omega));have zM:AW n.w w.1.size (some ⟨b,R,none⟩) f:=AW.A HK (n.h.aj (by omega));have yG:Hid (Aw n.w w.1.size o C l d (.slice (some ⟨b,R,none⟩) f.length J) P L):=Aw.ag zK n.h W;have⟨z0,z1,z2,z3,z4,z5,z6,z7⟩:=yG.o;have⟨b',yD,zN,_,V⟩:=zM.at hilt;cases zN;obtain⟨_,f1,_,_⟩:=V i _ B
       rcases CP f s with⟨hf,zH⟩|⟨i2,u,hf,X,Z⟩
       .rw[hf];clear V zM;go_wp2;go_quiet (fail);go_wp2;go_ret;refine⟨_,rfl,?_,Bg zE _⟩;simp only[Bool.false_eq_true,false_iff];intro h;obtain⟨u,X,Z,_⟩:=h.2.2 _ _ B s (Zs HS);exact zH ⟨u,X,Z⟩
       .rw[hf];obtain⟨_,g1,_,_⟩:=V i2 _ X;have xI:=(Zw X).1;have yV:(0:Int)<=(i2:Int):=by omega
        have yW:(i2:Int)<(f.length:Int):=by omega
        have xJ:decide ((i2:Int)<0)=false:=by simp
        have HU:Hid _:=Zn X Z;clear V zM X Z;by_cases hlt2:u.born<x.born
        .have hd:decide (x.born<=u.born)=false:=by simp;omega
         have HN:Hid (∀(r:Nat) s,r<q+1->x.B[r]?=some s->∃u∈f,u.sum=s/\u.born<x.born):=by
          intro r s' v Q;rcases Bz r q with F|F
          .exact yJ r s' F Q
          .obtain rfl:r=q:=by omega
           rw[HS.o]at Q;cases Q;exact⟨u,Zs HU.1,HU.2,hlt2⟩
         go_wp2;go_quiet (fail);go_wp2;exact⟨⟨q+1,by omega,by go_num,Bg zE _,Aw.ag yG (Bg Ad nq) z7,HN⟩,by simp[intOf];omega⟩
        .have hd:decide (x.born<=u.born)=true:=by simp;omega
         go_wp2;go_quiet (fail);go_wp2;go_ret;refine⟨_,rfl,?_,Bg zE _⟩;simp only[Bool.false_eq_true,false_iff];intro h;obtain⟨u',x,V,xM⟩:=h.2.2 _ _ B s (Zs HS);have⟨s,Z⟩:=A5 x;have:=Pv h.1 HU.1 Z (by rw[HU.2,V]);subst this;omega
      .have HN:Hid (∀(j:Nat) y,j<i+1->f[j]?=some y->Hu f y):=by
        intro j y hj U;rcases Bz j i with F|F
        .exact S j y F U
        .obtain rfl:j=i:=by omega
         rw[B.o]at U;cases U;intro r v;have⟨p,X⟩:=A5 v;exact yJ p r (Dz (Zw X).1) X
       clear zP zW t;go_wp2;exact⟨⟨i+1,by omega,by go_num,I,zK,HN⟩,by simp[intOf];omega⟩
    .go_wp2;go_ret;refine⟨_,rfl,?_,D⟩;simp only[true_iff];exact⟨λi k h=>(N i k h).1,λi k h=>(N i k h).2,λi k h=>S i k (Dz (Zw h).1) h⟩
theorem Lj:Maps.Keyed prog 3:=Maps.int_keyed underlying3
def Aah(ks:List Kd)(k:Nat)(f:Lit->Option Value):Prop:=∀z:Int,f (.int .i64 z)=if seen ks k z=true then some (.int .i64 1)else none
theorem Ll(F zC A d:Int)(P L:D4)(a:Zk)(ac m:Nat)(g:List Kd)(w:Zh)(S:AW w w.1.size a g)(hl:g.length<=1048576)(zV:∀k∈g,k.B.length<=1048576)(zR:∀k∈g,(Lit.int .i64 k.born).wf=true)
 (yR:∀(i:Nat) k,g[i]?=some k->Fg F g i k) (X:∀s,ZV w F m g s):
 D8 44 #[.agg #[.int .i64 F,.int .i64 zC,.int .i64 A,.int .i64 d,.slice a g.length ac,P,L],.agg #[.int .i64 F,.map (some m)]] w λe l=>Ay ((∀(i:Nat) k,g[i]?=some k->EZ d g i k)/\(∀(i:Nat) k,g[i]?=some k->Hu g k)) w l e:=by
 have xB:= @run_makeMap prog;go_enter func44,ntmps44;go_wp2;have⟨D,C⟩:=Ae (((w.alloc (Obj.cells #[int IntKind.i64 F,int IntKind.i64 zC,int IntKind.i64 A,int IntKind.i64 d,slice a g.length ac,P,L] 27)).alloc (Obj.cells #[int IntKind.i64 F,Value.map (some m)] 81)).alloc (Obj.map #[] 0));have W:Below w.1.size w D:=by rw[C];exact(((Zy).alloc (by simp) _).alloc (by simp;omega) _)
 have xF:D.1.size=w.1.size+3:=by rw[C];simp
 have zM:AN D 3 (w.1.size+1+1) 0 (λ_=>none):=by have:=AN.new ((w.alloc (Obj.cells #[int IntKind.i64 F,int IntKind.i64 zC,int IntKind.i64 A,int IntKind.i64 d,slice a g.length ac,P,L] 27)).alloc (Obj.cells #[int IntKind.i64 F,Value.map (some m)] 81)) 3;rw[C];simpa using this
 have s3:D.cell? ⟨w.1.size,3,none⟩=some (.int .i64 d):=by rw[C];simp[go_sem]
 have g0:D.cell? ⟨w.1.size+1,0,none⟩=some (.int .i64 F):=by rw[C];simp[go_sem]
 have g1:D.cell? ⟨w.1.size+1,1,none⟩=some (.map (some m)):=by rw[C];simp[go_sem]
 rw[<-C]
 go_loopw [16] (λi wr=>∃(k:Nat) (f:Lit->Option Value),k<=g.length/\i=.int .i64 k/\Hid (AN wr 3 (w.1.size+1+1) k f)/\Hid (Aah g k f)/\Hid (D.grownBy wr (some (w.1.size+1+1)))/\Hid (∀(j:Nat) x,j<k->g[j]?=some x->EZ d g j x/\Hu g x)) (λi _=>g.length -(intOf i).toNat)
 case atStart=>exact⟨0,_,Az _,rfl,zM,λz=>by simp[seen],AO _ _,λj x h=>by omega⟩
 case round=>
  obtain⟨k,f,hk,rfl,HM,HO,yB,G⟩:=hrel;have O:D.grownBy wr (some (w.1.size+1+1)):=yB.o;have o:Below w.1.size w wr:=W.grown O (by omega) (by intro j V;cases V;omega);have xG:=O.size;by_cases hlt:k<g.length
  .obtain⟨b,xH,ha,hb,hc⟩:=(S.A o).at hlt;subst ha;have J:Hid (g[k]?=some g[k]):=Zv hlt;obtain⟨c0,c1,c2,ra,rc,c3,hr⟩:=hc k _ J;have R:=getElem_mem hlt;have xE:=zV _ R;have yT:=zR _ R;have xA:b<wr.1.size:=by omega
   have t3:=O.cell s3 (by simp;omega);have I:keyOf prog 3 (.int .i64 g[k].born)=some (.int .i64 g[k].born):=Maps.keyOf_int_mk underlying3 yT;have HR:Hid _:=hr;generalize g[k]=x at *
   have zP:Below wr.1.size wr (wr.alloc (Obj.cells #[string x.sum,int IntKind.i64 x.born,string x.J,slice ra x.B.length rc] 68)):=Zy;have zN:=HM.ag zP (by omega);have zS:=zN.look Lj underlying133 (GQ _) I;rw[HO.o]at zS
   have zG:∃c:Int,(if seen g k x.born=true then some (int .i64 1)else none).getD (.int .i64 0)=.int .i64 c/\(c=if seen g k x.born=true then 1 else 0):=by cases seen g k x.born<;>exact⟨_,rfl,rfl⟩
   obtain⟨c,yI,B⟩:=zG;rw[yI]at zS;have yU:0<=c:=by rw[B];split<;>omega
   have yV:c<=1:=by rw[B];split<;>omega
   obtain⟨n,xD,zT,M⟩:=zN.put Lj underlying133 (val:=.int .i64 (c+1)) (by unfold maxLen;omega) I;have Q:=zT.look Lj underlying133 (GQ _) I;rw[CX]at Q;simp only[Option.getD_some]at Q;have zA:D.grownBy n (some (w.1.size+1+1)):=Aj O (Aj (Ag _ zP) M);have yE:Below w.1.size w n:=W.grown zA (by omega) (by intro j V;cases V;omega)
   have u1:n.cell? ⟨wr.1.size,1,none⟩=some (.int .i64 x.born):=M.cell (by simp) (by simp;omega);have u3:n.cell? ⟨wr.1.size,3,none⟩=some (.slice ra x.B.length rc):=M.cell (by simp) (by simp;omega);have v3:=zA.cell s3 (by simp;omega);have zZ:wr.1.size<n.1.size:=by have:=M.size;simp at this;omega
   have zF:Below w.1.size wr n:=(Ad.alloc o.size _).grown M (by simp;have:=o.size;omega) (by intro j V;cases V;omega);have yD:Hid (Af n w.1.size ra x.B):=Af.A HR zF;have E:Hid _:=Zn zT (Zn zA yE);have HP:Hid _:=Zn O o;have HF:Hid _:=X;have zE:Hid _:=Zn S (Zn zV (Zn zR yR));by_cases hlo:1<=x.born
   .have zI:decide (x.born<1)=false:=by simp;omega
    by_cases hhi:x.born<=d
    .have zH:decide (d<x.born)=false:=by simp;omega
     cases hse:seen g k x.born with
     |true=>
      have l:c=1:=by rw[B,hse];rfl
      have hd:decide (1<c+1)=true:=by simp;omega
      have zK:Hid _:=hse;clear B hse l;go_wp2;go_ret;refine Ay.no (λh=> ?_) E.2.2;have⟨j',p',yN,yO,yK⟩:=FU.1 zK;exact(h.1 _ _ J).new j' p' yN yO yK
     |false=>
      have l:c=0:=by rw[B,hse];rfl
      have hd:decide (1<c+1)=false:=by simp;omega
      have zK:Hid _:=hse;have HB:Hid (EZ d g k x):=⟨hlo,hhi,λU Y H K T=>by
       have:=FU.2 ⟨U,Y,H,K,T⟩;rw[hse]at this;cases this⟩
      have yC:Hid (Aah g (k+1) (upd f (.int .i64 x.born) (.int .i64 (c+1)))):=by
       intro z;rw[Ic J.o];by_cases hz:z=x.born
       .subst hz;rw[CX,l];simp
       .rw[Dh _ _ (λe=>hz (by cases e;rfl)),HO.o];have:decide (x.born=z)=false:=by simp;exact λe=>hz e.symm
        rw[this];simp
      clear B hse l HO;go_wp2;generalize hN:wr.1.size=N at *
      go_loopw [46] (λl H=>∃q:Nat,q<=x.B.length/\l=.int .i64 q/\Hid (Zz n H)/\Hid (∀(r:Nat) s,r<q->x.B[r]?=some s->∃u∈g,u.sum=s/\u.born<x.born)) (λl _=>x.B.length -(intOf l).toNat)
      case atStart=>exact⟨0,Az _,rfl,Ad,λr s h=>by omega⟩
      case round=>
       obtain⟨q,hq,rfl,yA,zW⟩:=hrel;have l:Below n.1.size n wr:=yA.o;have U:Below w.1.size w wr:=E.2.2.ah (l.aj E.2.2.size);have y1:=(l.cell (p:=⟨N,1,none⟩) zZ).ah u1;have p0:=(l.cell (p:=⟨w.1.size+1,0,none⟩) (by simp;omega)).ah (E.2.1.cell g0 (by simp));have p1:=(l.cell (p:=⟨w.1.size+1,1,none⟩) (by simp;omega)).ah (E.2.1.cell g1 (by simp))
       have zO:N<wr.1.size:=Zr zZ l.size;have yY:w.1.size+1<wr.1.size:=Dz l.size
       by_cases hql:q<x.B.length
       .have Y:Af wr w.1.size ra x.B:=Af.A yD (l.aj (by omega));have⟨rb,yX,yP,xC,Z⟩:=Y.at hql;subst yP;have HS:Hid (x.B[q]?=some x.B[q]):=Zv hql;have es:=Z q _ HS;have yW:rb<wr.1.size:=by omega
        generalize x.B[q]=s at *
        have⟨u,bo,t,sa,sb,sc,ok,K,H⟩:=HF s;have HC:Hid _:=H wr U;have y:Hid _:=K;have T:Hid _:=Zn l U;clear H K Z Y l U;go_wp2_with fail;refine HC.Ai ?_;rintro e Y ⟨rfl,K⟩;have y4:=(K.cell (p:=⟨N,1,none⟩) zO).ah y1;have yZ:N<Y.1.size:=Zr zO K.size;have v:Below w.1.size w Y:=T.2.ah (K.aj T.2.size);have H:Below n.1.size n Y:=T.1.ah (K.aj T.1.size)
        have Z:Hid _:=Zn v H;have yQ:n.1.size<=Y.1.size:=H.size;have zX:w.1.size<=Y.1.size:=v.size;clear K v H y1 p0 p1 es HC;cases ok with
        |false=>go_wp2;go_ret;refine Ay.no (λh=> ?_) (Z.1.alloc zX _);obtain⟨v,hv,K,_⟩:=h.2 _ _ J s (Zs HS);exact y.no rfl ⟨v,hv,K⟩
        |true=>
         have⟨v,hv,K,zY⟩:=y.yes rfl;have H:Hid _:=Zn hv (Zn K zY);clear hv K zY y;by_cases hlt2:bo<x.born
         .have yJ:decide (x.born<=bo)=false:=by simp;omega
          have HN:Hid (∀(r:Nat) s,r<q+1->x.B[r]?=some s->∃u∈g,u.sum=s/\u.born<x.born):=by
           intro r s' zU zB;rcases Bz r q with K|K
           .exact zW r s' K zB
           .obtain rfl:r=q:=by omega
            rw[HS.o]at zB;cases zB;exact⟨v,H.1,H.2.1,by rw[H.2.2];exact hlt2⟩
          go_wp2;exact⟨⟨q+1,by omega,by go_num,Z.2.alloc yQ _,HN⟩,by simp[intOf];omega⟩
         .have yJ:decide (x.born<=bo)=true:=by simp;omega
          go_wp2;go_ret;refine Ay.no (λh=> ?_) (Z.1.alloc zX _);obtain⟨v',yS,zJ,yH⟩:=h.2 _ _ J s (Zs HS);have⟨i2,yL⟩:=A5 H.1;have⟨i3,yM⟩:=A5 yS;have:=Pv zE.2.2.2 yL yM (by rw[H.2.1,zJ]);subst this;rw[H.2.2]at yH;omega
       .have HN:Hid (∀(j:Nat) y,j<k+1->g[j]?=some y->EZ d g j y/\Hu g y):=by
         intro j y V s;rcases Bz j k with K|K
         .exact G j y K s
         .obtain rfl:j=k:=by omega
          rw[J.o]at s;cases s;refine⟨HB,λr zU=> ?_⟩;have⟨p,hp⟩:=A5 zU;exact zW p r (Dz (Zw hp).1) hp
        have yG:Hid (AN wr 3 (w.1.size+1+1) (k+1) (upd f (.int .i64 x.born) (.int .i64 (c+1)))):=E.1.ag l (by omega);have yF:Hid (D.grownBy wr (some (w.1.size+1+1))):=Aj E.2.1 (Ag _ l);clear l U y1 p0 p1;go_wp2;exact⟨⟨k+1,_,by omega,by go_num,yG,yC,yF,HN⟩,by simp[intOf];omega⟩
    .have zH:decide (d<x.born)=true:=by simp;omega
     clear B;go_wp2;go_ret;refine Ay.no (λh=> ?_) E.2.2;have:=(h.1 _ _ J).hi;omega
   .have zI:decide (x.born<1)=true:=by simp;omega
    clear B;go_wp2;go_ret;refine Ay.no (λh=> ?_) E.2.2;have:=(h.1 _ _ J).lo;omega
  .clear HM HO zM W;go_wp2;go_ret;exact Ay.yes ⟨λi x l=>(G i x (Dz (Zw l).1) l).1,λi x l=>(G i x (Dz (Zw l).1) l).2⟩ o
