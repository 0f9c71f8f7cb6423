import Derived.Test.YtfehblndlffcmaaGreatDoorX02
import Derived.Test.YtfehblndlffcmaaGreatDoorX03
import Derived.Deep.MidRow
import Derived.RangeFuncNested
import Derived.Shelf.Abstract
import Derived.Shelf.RegionOpen
import Derived.RangeFuncBound
import Derived.RangeFuncCalls
import Derived.RangeFuncLeaves
import Derived.OwnWalkIn
import Derived.TacticsInMore
import Derived.LoopNIn
import Derived.LoopIn
import Derived.Lib.OwnKind
import Derived.Laws.Tables
set_option maxRecDepth 100000
set_option maxHeartbeats 16000000
open Option renaming some->an,none->ba
open Bool renaming true->bg,false->bq
open Go.RowKit renaming Below->bs
open Decidable renaming decide->bx
open Go.Obj renaming cells->ca
open Go.Value renaming slice->cr,agg->ct,bool->ef,ownBlock->ej
open Or renaming inl->dp,inr->eb
open List renaming length->eh,toArray->ei
open Go.World renaming cell?->ek,frozen?->el,ownsRow->eo,grownBy->ep,setCell->ev
open Go renaming maxLen->ew
namespace Go.Proofs.YtfehblndlffcmaaGreatDoor
open ChangeShapes WideShapes ChangeAt RowKit _root_.Go.Proofs.Tryz List World Value
variable{P:Program}{d f c i h xs:Zl}{g e b q n j size N B base base' k B' gf n0:Nat}{a:Zk}{w wr W:Zh}{o:Oper}{l:Zj}{V:List Nat}{v u T L s t r:Value}{x y:Zi}{wd:Int}
abbrev GD:String:= "l7_vault.go:78"
abbrev opD(n:Nat):Edge:=⟨n,.data⟩
theorem Cb{d:Array Oper}{Q:Exit->Act->Zh->Prop}{f:Region.Mode}{S:Zh->Prop}(i:Nat){g:Oper}(v:D4){b:Array Bool}{a:Act}(h:wpAnyH P f d Q S e (b.setIfInBounds i bg) (a.put g.dst v) w)(o:d.toList[i]?=an g:=by exact rfl)(hS:S w:=by first|with_reducible assumption|assumption)(m:Region.noSelect d=bg:=by kernel_rfl)(k:Region.free f d b i=bg:=by kernel_rfl)(l:(Region.ready f d b).contains i=bg:=by kernel_rfl)(j:∀c a w,Q (.panic c) (a.put g.dst v) w->Q (.panic c) a w:=by exact λ_ _ _ h=>h)(n:YieldsIf P d S g v a:=by exact Or.inl ⟨Yp,λ_ _=>by go_simp⟩):wpAnyH P f d Q S (e+1) b a w:=
 wpAnyH_take gA m k l j n hS h
theorem Gc{d:Array Oper}{Q:Exit->Act->Zh->Prop}{f:Region.Mode}{S:Zh->Prop}(i:Nat){g:Oper}{b:Array Bool}{a:Act}(h:wpAnyH P f d Q S e (b.setIfInBounds i bg) (a.put g.dst undef) w)(o:d.toList[i]?=an g:=by exact rfl)(hS:S w:=by first|with_reducible assumption|assumption)(m:Region.noSelect d=bg:=by kernel_rfl)(k:Region.free f d b i=bg:=by kernel_rfl)(l:(Region.ready f d b).contains i=bg:=by kernel_rfl)(j:∀c a w,Q (.panic c) (a.put g.dst undef) w->Q (.panic c) a w:=by exact λ_ _ _ h=>h)(n:YieldsIf P d S g undef a:=by exact Or.inr ⟨Yp,rfl⟩):wpAnyH P f d Q S (e+1) b a w:=
 wpAnyH_take gA m k l j n hS h
theorem Gd{d:Array Oper}{Q:Exit->Act->Zh->Prop}{f:Region.Mode}{S:Zh->Prop}(i:Nat){g:Oper}(v:D4){b:Array Bool}{a:Act}(o:d.toList[i]?=an g)(n:YieldsIf P d S g v a)(h:wpAnyH P f d Q S e (b.setIfInBounds i bg) (a.put g.dst v) w)(hS:S w:=by first|with_reducible assumption|assumption)(m:Region.noSelect d=bg:=by kernel_rfl)(k:Region.free f d b i=bg:=by kernel_rfl)(l:(Region.ready f d b).contains i=bg:=by kernel_rfl)(j:∀c a w,Q (.panic c) (a.put g.dst v) w->Q (.panic c) a w:=by exact λ_ _ _ h=>h):wpAnyH P f d Q S (e+1) b a w:=
 wpAnyH_take gA m k l j n hS h
theorem CX{c:Array Oper}{Q:Exit->Act->Zh->Prop}{f:Region.Mode}{S:Zh->Prop}(i:Nat){d:Nat}{b:Array Bool}{a:Act}(h:∀e:Act->Zh->Prop,Shut (∀a w,S w->(S w->wpAnyH P f c Q S d (b.setIfInBounds i bg) a w)->e a w)->if Region.wanted o (yielded c a.tmps)=bg then Oper.wp P o a w e Q else e (a.put o.dst undef) w)(j:c.toList[i]?=an o:=by exact rfl)(g:Region.ready f c b=[i]:=by kernel_rfl):wpAnyH P f c Q S (d+1) b a w:=
 wpAnyH_ready g Yu (AllReadyH.cons gA h AllReadyH.nil)
theorem Aci{c:Array Oper}{Q:Exit->Act->Zh->Prop}{f:Region.Mode}{S:Zh->Prop}(i j:Nat){p:Oper}{d:Nat}{b:Array Bool}{a:Act}(h:∀e:Act->Zh->Prop,Shut (∀a w,S w->(S w->wpAnyH P f c Q S d (b.setIfInBounds i bg) a w)->e a w)->if Region.wanted o (yielded c a.tmps)=bg then Oper.wp P o a w e Q else e (a.put o.dst undef) w)(k:∀e:Act->Zh->Prop,Shut (∀a w,S w->(S w->wpAnyH P f c Q S d (b.setIfInBounds j bg) a w)->e a w)->if Region.wanted p (yielded c a.tmps)=bg then Oper.wp P p a w e Q else e (a.put p.dst undef) w)(g:c.toList[i]?=an o:=by exact rfl)(l:c.toList[j]?=an p:=by exact rfl)(m:Region.ready f c b=[i,j]:=by kernel_rfl):wpAnyH P f c Q S (d+1) b a w:=
 wpAnyH_ready m Yu (AllReadyH.cons (D2 g) h (AllReadyH.cons (D2 l) k AllReadyH.nil))
theorem YG(h:∀(j:Nat) p q,c[j]?=an p->c[j+1]?=an q->less p q=bg):c.Pairwise (λa b=>less a b=bg):=by
 have k:∀(d i:Nat) u v,c[i]?=an u->c[i+d+1]?=an v->less u v=bg:=by
  intro d;induction d with
  |zero=>intro i u v e f;exact h i u v e f
  |succ d ih=>intro i u v e f;have o:=(Zw f).1;have g:c[i+d+1]?=an c[i+d+1]:=gA;exact Cx (ih i u _ e g) (h _ _ _ g Yv)
 rw[pairwise_iff_getElem];intro i j l m n;exact k (j -i -1) i _ _ (Zv l) (by rw[show i+(j -i -1)+1=j by omega];exact Zv m)
theorem Lc(h:d.Pairwise (λa b=>less a b=bg)):d.Nodup:=by refine Pairwise.imp ?_ h;intro a b c e;rw[e,Ct]at c;cases c
theorem NK{f:Int}(h:DS f d=bg):d.Pairwise (λa b=>less a b=bg):=by refine YG (λj p q e c=> ?_);have g:=(Zw c).1;unfold DS at h;rw[all_eq_true]at h;have:=h (j+1) Yt;rw[En c e]at this;simp at this;exact this.2
def Ce(w w':Zh):Prop:=∀b o,(ek w (Zd b o)).isSome=bg->(ek w' (Zd b o)).isSome=bg/\(el w ⟨b,o,ba⟩=bq->el w' ⟨b,o,ba⟩=bq)
theorem Ce.refl(w:Zh):Ce w w:=λ_ _ h=>⟨h,λh=>h⟩
theorem Ce.trans{a b c:Zh}(d:Ce a b)(e:Ce b c):Ce a c:=λp o h=>⟨(e p o (d p o h).1).1,λf=>(e p o (d p o h).1).2 ((d p o h).2 f)⟩
abbrev Ce.ag:=@Ce.trans
theorem Ce.ci{d:Zh}(h:Zz w d):Ce w d:=λb o c=>by have⟨v,e⟩:=Option.isSome_iff_exists.1 c;have a:=Bf w ⟨b,o,ba⟩ e;rw[h.cell (p:=⟨b,o,ba⟩) a,h.frozen (p:=⟨b,o,ba⟩) a];exact⟨c,λh=>h⟩
theorem Ce.setCell(w:Zh)(g p:Nat)(v:D4):Ce w (ev w ⟨g,p,ba⟩ v):=λb o a=>by
 refine⟨?_,λh=>by simpa [go_sem]using h⟩;by_cases e:(⟨b,o,ba⟩:Addr)=⟨g,p,ba⟩
 .rw[<-e,cell?_setCell_same' _ _ _ a];rfl
 rw[cell?_setCell_other _ _ _ _ (λc=>e c.symm)];exact a
def Wr(w:Zh)(q n:Nat):Prop:=∀j,j<n->(ek w (Zd q j)).isSome=bg/\el w ⟨q,j,ba⟩=bq
theorem Wr.alive{c:Zh}(h:Wr w q n)(b:Ce w c):Wr c q n:=λj a=>⟨(b q j (h j a).1).1,(b q j (h j a).1).2 (h j a).2⟩
theorem Wr.at(h:Wr w q n)(a:j<n):∃v,ek w (Zd q j)=an v:=Option.isSome_iff_exists.1 (h j a).1
theorem Wr.own{a:Nat}{e:TypeId}{c:Zj}(h:eo w a e size (Yz g n b) n c):Wr w g (n *size):=λj d=>by have d:=h.1;refine⟨?_,h.frozenAt j⟩;rw[h.cellAt j Yv,Zv Yv];rfl
theorem NL(w:Zh)(g p:Nat)(v:D4):ep w (ev w (Zd g p) v) (an g):=
 ⟨rfl,rfl,rfl,Yu,λi _ a=>Below.heap_setCell _ _ _ _ (λe=>a (by rw[e]))⟩
def NM(w wr:Zh)(g n:Nat):Prop:=Wr wr g n/\ep w wr (an g)/\Ce w wr
theorem NM.new(h:Wr w g n):NM w w g n:=⟨h,AO _ _,Ce.refl _⟩
theorem NM.A{b:Zh}(h:NM w wr g n)(a:Zz wr b):NM w b g n:=
 ⟨h.1.alive (Ce.ci a),Ai h.2.1 (Af _ a),h.2.2.ag (Ce.ci a)⟩
theorem NM.set(h:NM w wr g n)(o:Nat)(v:D4):NM w (ev wr (Zd g o) v) g n:=
 ⟨h.1.alive (Ce.setCell _ _ _ _),Ai h.2.1 (NL _ _ _ _),h.2.2.ag (Ce.setCell _ _ _ _)⟩
structure NN (w wr:Zh) (lo N g:Nat) (ks:List Kd):Prop where
 row:Wr wr g (eh ks *4)
 cn:bs lo w wr
 al:Ce w wr
 co:∀k,N<=k->k<w.1.size->wr.1[k]?=w.1[k]?
 D:∀i x,ks[i]?=an x->∃q c,ek wr (Zd g (i *4+3))=an (cr (an ⟨q,0,ba⟩) (eh x.D) c)/\g<q/\q<N/\Wr wr q (eh x.D)
theorem NN.new{a:Zh}{f:C9}(h:Gq a j g f)(c:Zz a w):NN w w j a.1.size g f:=by obtain⟨o,d,m,_⟩:=h;have l:=(d.lt g rfl).2;refine⟨(Wr.own d).alive (Ce.ci c),Ae,Ce.refl _,λ_ _ _=>rfl,λi x e=> ?_⟩;have n:=(Zw e).1;have⟨_,_,_,q,k,b⟩:=m i x e;refine⟨q,_,(c.cell (p:=⟨g,i *4+3,ba⟩) l).ag ((d.cellAt _ Yv).ag k),(ownsRow.lt b q rfl).1,(ownsRow.lt b q rfl).2,?_⟩;have:=(Wr.own b).alive (Ce.ci c);rwa[Nat.mul_one]at this
theorem NN.A{j:Zh}{f:C9}(h:NN w wr e N g f)(gx:e<=wr.1.size)(a:Zz wr j):NN w j e N g f:=
 ⟨h.row.alive (Ce.ci a),h.cn.ag (a.ai gx),h.al.ag (Ce.ci a),λk b d=>(a.block k (Zr d h.cn.size)).ag (h.co k b d),λi x n=>by
  have⟨q,c,b,d,l,m⟩:=h.D i x n;exact⟨q,c,(a.cell (p:=⟨g,i *4+3,ba⟩) (Bf wr ⟨g,i *4+3,ba⟩ b)).ag b,d,l,m.alive (Ce.ci a)⟩⟩
theorem NN.set{f:Nat}{l:C9}(h:NN w wr f N g l)(gx:f<=g)(r:g<N)(j c:Nat)(s:c<=2)(v:D4):NN w (ev wr (Zd g (j *4+c)) v) f N g l:=
 ⟨h.row.alive (Ce.setCell _ _ _ _),h.cn.setCell (p:=⟨g,j *4+c,ba⟩) Yv _,h.al.ag (Ce.setCell _ _ _ _),λk b a=>((NL wr g (j *4+c) v).block k (Zr a h.cn.size) Yt).ag (h.co k b a),λi x o=>by
  have⟨q,d,b,a,m,n⟩:=h.D i x o;refine⟨q,d,?_,a,m,n.alive (Ce.setCell _ _ _ _)⟩;rw[cell?_setCell_other _ _ _ _ (by intro e;injection e;omega)];exact b⟩
structure Afu (w:Zh) (base:Nat) (T:Value) (rs:Zj) (ks:List Kd):Prop where
 len:eh rs=eh ks
 ak:eo w base 78 4 T (eh ks) (Ad kC (ks.zip rs))
 D:∀(i:Nat) (k:Kd) (r:Value),ks[i]?=an k->rs[i]?=an r->eo w base 9 1 r (eh k.D) (k.D.map Value.string)
 nd:((ej T).toList++rs.filterMap Value.ownBlock).Nodup
section
attribute [local go_sem↓] Go.wp_at_zero Go.wp_at_succ
theorem QT(t o l y:Int)(q a:Zk)(v u s:Nat)(d:Zl)(w:Zh)(g:Ab w w.1.size a d)(S:eh d<=1048576):
 D8 123 #[.agg (Xy t q v u a (eh d) s o l y)] w λe h=>∃b c f,e=C5 (.map (an b))/\w.1.size<=b/\CD h 122 b (eh d) c f/\MK d f c/\Zz w h:=by
 have m:= @run_makeMap prog;delta D8;go_in;go_wp2;have⟨j,h⟩:=Ag ((w.alloc (Obj.cells (Xy t q v u a (eh d) s o l y) 32)).alloc (Obj.map #[] 0));have C:bs w.1.size w j:=gB;have M:j.1.size=w.1.size+2:=gB;have D:CD j 122 (w.1.size+1) 0 0 (λ_=>ba):=by have:=CD.new (w.alloc (Obj.cells (Xy t q v u a (eh d) s o l y) 32)) 122;rw[h];rw[Ao]at this;exact this
 rw[<-h];clear h m;go_loopw [10] (λi wr=>∃(k c:Nat) (f:Lit->Option Value),k<=eh d/\i=Zg k/\Hid (CD wr 122 (w.1.size+1) k c f)/\Hid (MK (d.take k) f c)/\ep j wr (an (w.1.size+1))) (λi _=>eh d -(intOf i).toNat)
 case atStart=>exact⟨0,0,_,Aq _,rfl,D,by rw[take_zero];exact MK.nil,AO _ _⟩
 obtain⟨k,c,f,R,rfl,A,p,m⟩:=hrel;have h:bs w.1.size w wr:=C.grown m Yv gA;have N:=m.size;by_cases hlt:k<eh d
 .obtain⟨b,O,I,Q,r⟩:=(g.A h).at hlt;subst I;have z:Hid (d[k]?=an d[k]):=gH;have P:=r k _ z;clear r g;generalize d[k]=x at *
  have⟨n,J,F,G,_⟩:=p.get (keyL x);have H:eh (d.take k)=k:=Yt
  rw[H]at G;have L:IntKind.i64.wrap (n+1)=n+1:=Jj Yv Yv;go_wp2;go_region_with (first
   |(go_at_call 93;refine(IT x _).ai ?_;rintro e K ⟨rfl,r⟩;have g:bs wr.1.size wr K:=Ae.drew.ag (r.ai Yu);have⟨st,w3,w4,he,hl1,hl3,hs4,hm4,hg3,hg4⟩:=(A.ah g Yv).bump keyed underlying184 Yo ZB (EF x) (Zg (n+1));rw[J]at he hl1 hl3;unfold goInt at he hs4))
  all_goals
   have E:ep j w4 (an (w.1.size+1)):=Ai m (Ai (Af _ g) hg4);have HN:Hid (MK (d.take (k+1)) (upd f (keyL x) (Zg (n+1))) (if (f (keyL x)).isSome then c else c+1)):=(by have:=p.snoc x F Yv;rw[take_add_one,z.o];exact this);have B:=Yw hm4;clear hm4 he hl1 hl3 hs4 hg3 hg4 g r;go_wp2;exact⟨⟨k+1,_,_,Yv,Yn,B,HN,E⟩,Ys⟩
 rw[Zt Yv]at p;obtain rfl:k=eh d:=Yv;go_wp2;go_ret;exact⟨_,c,f,rfl,Yv,A,p,h⟩
theorem UI(s:Zi)(a:Int)(b:Nat)(w:Zh)(d:ek w (Zd b 0)=an (Zg a)):
 D8 121 #[C4 s,Yy b] w λe c=>e=C5 (ef (!bx ((s.size:Int)=a)))/\c=w:=by
 delta D8;go_in;by_cases h:(s.size:Int)=a
 .have c:((s.size:Int) !=a)=bq:=Yt;go_wp2;go_ret;exact⟨by simp[h],rfl⟩
 have c:((s.size:Int) !=a)=bg:=Yt;go_wp2;go_ret;exact⟨by simp[h],rfl⟩
theorem Ok(n b:Nat)(d:Int)(f:Ab w B a c)(C:eh c<=1048576)(p:ek w (Zd b 0)=an (Zg d)):
 D8 149 #[C3 a (eh c) n,.func (.func 121) #[] #[Yy b]] w λe g=>∃r:Int,e=C5 (Zg r)/\(0<=r↔∃s∈c,¬(s.size:Int)=d)/\g=w:=by
 delta D8;go_in;go_wp2
 go_loop [8] (λi=>∃k:Nat,k<=eh c/\i=Zg k/\Hid (∀j x,j<k->c[j]?=an x->(x.size:Int)=d)) (λi=>eh c -(intOf i).toNat)
 case atStart=>exact⟨0,Aq _,rfl,λj x h=>Yv⟩
 obtain⟨k,A,rfl,g⟩:=hrel;by_cases hlt:k<eh c
 .obtain⟨u,t,o,z,l⟩:=f.at hlt;subst o;have m:=Yw (Zv hlt);have v:=l k _ m;clear l f;generalize c[k]=x at *
  go_wp2_with fail;refine(UI x d b w p).ai ?_;rintro e D ⟨rfl,rfl⟩;by_cases h:(x.size:Int)=d
  .have l:Hid (∀j y,j<k+1->c[j]?=an y->(y.size:Int)=d):=gH;have f:bx ((x.size:Int)=d)=bg:=Yt;rw[f];go_wp2;exact⟨⟨k+1,Yv,Yn,l⟩,Ys⟩
  have f:bx ((x.size:Int)=d)=bq:=Yt;rw[f];go_wp2;go_ret;exact⟨_,rfl,⟨λ_=>⟨x,Zs m,h⟩,λ_=>Yv⟩,rfl⟩
 go_wp2;go_ret;refine⟨_,rfl,⟨λh=>Yv,λ⟨s,hs,h⟩=> ?_⟩,rfl⟩;obtain⟨j,q,rfl⟩:=getElem_of_mem hs;exact absurd (g j _ Yv (Zv q)) h
open Classical in
theorem Ik(g b:Nat)(d:Int)(f:Ab w B a c)(l:eh c<=1048576)(j:ek w (Zd b 0)=an (Zg d)):
 D8 122 #[C3 a (eh c) g,.func (.func 121) #[] #[Yy b]] w λe i=>e=C5 (ef (bx (∃s∈c,¬(s.size:Int)=d)))/\i=w:=by
 delta D8;go_in;go_wp2_with fail;refine(Ok g b d f l j).ai ?_;rintro e n ⟨r,rfl,m,rfl⟩;by_cases h:0<=r
 .have k:bx ((0:Int)<=r)=bg:=Yt;go_wp2;go_ret;exact⟨by simp[m.1 h],rfl⟩
 have k:bx ((0:Int)<=r)=bq:=Yt;have i:¬∃s∈c,¬(s.size:Int)=d:=gA;go_wp2;go_ret;exact⟨by rw[decide_eq_false i];rfl,rfl⟩
structure PB (wd:Int) (qs ms:Zl):Prop where
 nq:eh qs<=23200
 nm:eh ms<=600
 q:∀s∈qs,(s.size:Int)=wd
 m:∀s∈ms,(s.size:Int)=wd
 nd:ms.Nodup
theorem SN{g:Int}{a:Zl}(k:g<=8)(b:∀s∈a,(s.size:Int)=g):(a.map keyL).Nodup↔a.Nodup:=by
 induction a with
 |nil=>simp
 |cons x r c=>
  have c:=c (λs d=>b s gA);simp only[map_cons,nodup_cons,c];have l:=b x Yu;constructor
  .rintro⟨d,f⟩;exact gG
  rintro⟨d,f⟩;refine⟨λh=> ?_,f⟩;have⟨y,i,e⟩:=mem_map.1 h;have j:=b y gA;have:y=x:=key_inj e Yv Yv;subst this;exact d i
theorem Ol(o k j q g:Int){b:Zk}(m n:Nat)(O:Ab w w.1.size a d)(D:Ab w w.1.size b c)(t:IL d c)(N:g<=8):
 Calls prog 90 #[ct (Xy o a (eh d) m b (eh c) n k j q),Zg g] w fun e Q=>Av (PB g d c) w Q e:=by
 have U:=t.q;have T:=t.m;have i:bs w.1.size w ((w.alloc (ca (Xy o a (eh d) m b (eh c) n k j q) 32)).alloc (ca #[Zg g] 3)):=(Zy).alloc Yu _;go_in;by_cases h1:eh d<=23200
 case neg=>
  have K:bx ((23200:Int)<(eh d:Int))=bg:=Yt;go_wp2;go_ret;exact Av.no (fun h=>h1 h.nq) i
 have K:bx ((23200:Int)<(eh d:Int))=bq:=Yt;by_cases h2:eh c<=600
 case neg=>
  have L:bx ((600:Int)<(eh c:Int))=bg:=Yt;go_wp2;go_ret;exact Av.no (fun h=>h2 h.nm) i
 have L:bx ((600:Int)<(eh c:Int))=bq:=Yt;go_wp2_with fail;refine(Ik m _ g (O.A i) t.q (by simp[go_sem])).mono ?_;rintro e Y ⟨rfl,rfl⟩;by_cases h3:∃s∈d,¬(s.size:Int)=g
 .rw[decide_eq_true h3];go_wp2;go_ret;exact Av.no (fun h=>by obtain⟨s,l,A⟩:=h3;exact A (h.q s l)) i
 rw[decide_eq_false h3];go_wp2_with fail;refine(Ik n _ g (D.A i) t.m (by simp[go_sem])).mono ?_;rintro e E ⟨rfl,rfl⟩;by_cases h4:∃s∈c,¬(s.size:Int)=g
 .rw[decide_eq_true h4];go_wp2;go_ret;exact Av.no (fun h=>by obtain⟨s,l,A⟩:=h4;exact A (h.m s l)) i
 rw[decide_eq_false h4];have y:∀s∈d,(s.size:Int)=g:=fun s l=>Classical.byContradiction fun h=>h3 ⟨s,l,h⟩;have v:∀s∈c,(s.size:Int)=g:=fun s l=>Classical.byContradiction fun h=>h4 ⟨s,l,h⟩;have z:=Yw (Zn y v);clear y v h3 h4;go_wp2_with fail;obtain⟨W,B⟩:=Ag ((w.alloc (ca (Xy o a (eh d) m b (eh c) n k j q) 32)).alloc (ca #[Zg g] 3));have G:Cu W w.1.size o (cr a (eh d) m) (cr b (eh c) n) k j q:=by rw[B];exact(Cu.new w o k j q _ _ 32).A (Zy)
 rw[<-B]at i |-;have F:=Yw (D.X i);obtain⟨Z,x1,R,x3,x4,x5,S⟩:=G;clear B;go_region_with (first
  |(go_at_call 123;refine(QT o k j q a b (eh d) m n c W.drew F.o Yv).mono ?_;rintro e E ⟨X,J,f,rfl,V,u,x,r⟩;have hlen:=fun P=>u.len underlying184 P;have y2:=(r.cell (p:=⟨w.1.size,2,ba⟩) S).trans R))
 all_goals
  have H:Hid (Zz w E):=(i.drew.trans (r.mono i.size));have I:=Yw x;clear hlen u x r;go_wp2;go_ret;refine⟨_,rfl,?_,H.o⟩;have C:=I.o.all;rw[SN N z.o.2]at C;have M:(J:Int)=eh c↔c.Nodup:=by rw[<-C];omega
  simp only[beq_iff_eq,M];exact⟨fun h=>⟨h1,h2,z.o.1,z.o.2,h⟩,fun h=>h.nd⟩
end
theorem CY(n a b:Int)(w:Zh):
 D8 18 #[Zg n,Zg a,Zg b] w λe c=>e=C5 (ef (bx (a<=n/\n<=b)))/\c=w:=by
 by_cases h1:a<=n
 .by_cases h2:n<=b
  .delta D8;go_in;go_wp2;go_ret;exact⟨AH Yt,rfl⟩
  delta D8;go_in;go_wp2;go_ret;exact⟨AH Yt,rfl⟩
 have c:bx (a<=n)=bq:=Yt;delta D8;go_in;go_wp2;go_ret;exact⟨AH Yu,rfl⟩
theorem UJ(n:Int)(w:Zh):
 D8 89 #[Zg n] w λe a=>e=C5 (ef (bx (0<=n/\n<=1000000000)))/\a=w:=by
 by_cases h1:0<=n
 .by_cases h2:n<=1000000000
  .delta D8;go_in;go_wp2;go_ret;exact⟨AH Yt,rfl⟩
  have b:bx (n<=1000000000)=bq:=Yt;delta D8;go_in;go_wp2;go_ret;exact⟨rfl,rfl⟩
 have a:bx (0<=n)=bq:=Yt;delta D8;go_in;go_wp2;go_ret;exact⟨rfl,rfl⟩
section
attribute [local go_sem↓] Go.wp_at_zero Go.wp_at_succ
def EP(births ph top at_:Int)(qs ms:Zl):Prop:=
 (ph=0/\qs=[]/\ms=[]/\top=0/\at_=0)\/(ph=1/\0<=top/\top<=births/\at_=top+1)\/(ph=2/\0<=top/\top<=births/\1<=at_/\at_<=top+1)
structure Ba (wd births I top at_ ro:Int) (qs ms:Zl):Prop where
 jq:0<=ro
 jn:ro<=1000000000
 dw:PB wd qs ms
 I:EP births I top at_ qs ms
theorem MY(m d f k l c:Int){b:Zk}(p q:Nat){j:Zl}(B:Ab w w.1.size a j)(A:Ab w w.1.size b i)(x:IL j i)(z:l<=8)(C:c<=1000000000):
 D8 50 #[ct (Xy m a (eh j) p b (eh i) q d f k),Zg l,Zg c] w λe g=>Av (Ba l c m d f k j i) w g e:=by
 have E:=x.q;have D:=x.m;have r:bs w.1.size w (w.alloc (ca (Xy m a (eh j) p b (eh i) q d f k) 32)):=gB;have s:=Cu.new w m d f k (C2 a j p) (C2 b i q) 32;delta D8;go_in;go_wp2_with fail;refine(UJ k _).ai ?_;rintro e I ⟨rfl,rfl⟩;by_cases h1:0<=k/\k<=1000000000
 case neg=>rw[decide_eq_false h1];go_wp2;go_ret;exact Av.no (λh=>h1 ⟨h.jq,h.jn⟩) r
 rw[decide_eq_true h1];go_wp2_with fail;refine(Ol m d f k l p q (B.X r) (A.X r) x z).ai ?_;rintro e J ⟨t,rfl,o,n⟩;obtain⟨g,K,L,M,N,O,Q,R⟩:=r.ag (n.ai Yu),s.A n;clear n s;cases t with
 |false=>go_wp2;go_ret;exact Av.no (λh=>by have:=o.2 h.dw;cases this) g
 |true=>
  have n:=o.1 rfl;have v:=Yw n;clear o n;by_cases p0:m=0
  .subst p0;by_cases e1:eh j=0
   .by_cases e2:eh i=0
    .by_cases e3:d=0
     .by_cases e4:f=0
      .go_wp2;go_ret;exact Av.yes ⟨h1.1,h1.2,v,dp ⟨rfl,B8 e1,B8 e2,e3,e4⟩⟩ g
      have u:(f==0)=bq:=Yt;go_wp2;go_ret;exact Av.no (P:=Ba l c 0 d f k j i) (λh=>by have:=h.I;unfold EP at this;simp at this;have n:=this.2.2.2;omega) g
     have o:(d==0)=bq:=Yt;go_wp2;go_ret;exact Av.no (λh=>by have:=h.I;unfold EP at this;simp at this;have n:=this.2.2.1;omega) g
    have t:((eh i:Int)==0)=bq:=gA;go_wp2;go_ret;exact Av.no (λh=>by have:=h.I;unfold EP at this;simp at this;exact e2 gA) g
   have s:((eh j:Int)==0)=bq:=gA;go_wp2;go_ret;exact Av.no (λh=>by have:=h.I;unfold EP at this;simp at this;exact e1 gA) g
  have F:(m==0)=bq:=Yt;by_cases p1:m=1
  .subst p1;by_cases e1:0<=d
   .by_cases e2:d<=c
    .have y:IntKind.i64.wrap (d+1)=d+1:=Jj Yv Yv;by_cases e3:f=d+1
     .have o:(f==d+1)=bg:=Yt;go_wp2;go_ret;exact Av.yes (P:=Ba l c 1 d f k j i) ⟨h1.1,h1.2,v,eb (dp ⟨rfl,e1,e2,e3⟩)⟩ g
     have o:(f==d+1)=bq:=Yt;go_wp2;go_ret;exact Av.no (P:=Ba l c 1 d f k j i) (λh=>by have:=h.I;unfold EP at this;simp at this;have n:=this.2.2;omega) g
    have t:bx (d<=c)=bq:=Yt;go_wp2;go_ret;exact Av.no (P:=Ba l c 1 d f k j i) (λh=>by have:=h.I;unfold EP at this;simp at this;have n:=this.2.1;omega) g
   have s:bx (0<=d)=bq:=Yt;go_wp2;go_ret;exact Av.no (P:=Ba l c 1 d f k j i) (λh=>by have:=h.I;unfold EP at this;simp at this;have n:=this.1;omega) g
  have G:(m==1)=bq:=Yt;by_cases p2:m=2
  case neg=>
   have H:(m==2)=bq:=Yt;go_wp2;go_ret;exact Av.no (P:=Ba l c m d f k j i) (λh=>by rcases h.I with h|h|h;exact p0 h.1;exact p1 h.1;exact p2 h.1) g
  subst p2;by_cases e1:0<=d
  .by_cases e2:d<=c
   .have y:IntKind.i64.wrap (d+1)=d+1:=Jj Yv Yv;by_cases e3:1<=f
    .by_cases e4:f<=d+1
     .have u:bx (f<=d+1)=bg:=Yt;go_wp2;go_ret;exact Av.yes (P:=Ba l c 2 d f k j i) ⟨h1.1,h1.2,v,eb (eb ⟨rfl,e1,e2,e3,e4⟩)⟩ g
     have u:bx (f<=d+1)=bq:=Yt;go_wp2;go_ret;exact Av.no (P:=Ba l c 2 d f k j i) (λh=>by have:=h.I;unfold EP at this;simp at this;have n:=this.2.2.2;omega) g
    have o:bx (1<=f)=bq:=Yt;go_wp2;go_ret;exact Av.no (P:=Ba l c 2 d f k j i) (λh=>by have:=h.I;unfold EP at this;simp at this;have n:=this.2.2.1;omega) g
   have t:bx (d<=c)=bq:=Yt;go_wp2;go_ret;exact Av.no (P:=Ba l c 2 d f k j i) (λh=>by have:=h.I;unfold EP at this;simp at this;have n:=this.2.1;omega) g
  have s:bx (0<=d)=bq:=Yt;go_wp2;go_ret;exact Av.no (P:=Ba l c 2 d f k j i) (λh=>by have:=h.I;unfold EP at this;simp at this;have n:=this.1;omega) g
end
def BG(ss tt:Zl):Bool:=bx (eh ss+eh tt<=4000)&&(ss++tt).all (fun s=>decide (s.size<=5000))
def DN(ss:Zl):Bool:=ss.all (fun s=>decide (s.size<=5000))
theorem LA(a b:Zl):BG a b=(bx (eh a+eh b<=4000)&&(DN a&&DN b)):=by simp[BG,DN]
theorem Kn(a:Zl)(k:Nat)(s:Zi)(h:a[k]?=an s):DN (a.take (k+1))=(DN (a.take k)&&bx (s.size<=5000)):=by obtain⟨b,rfl⟩:=Zw h;unfold DN;rw[Zu b,all_append,all_cons,all_nil,Bool.and_true]
theorem Jt(a:Zl)(k:Nat)(s:Zi)(h:a[k]?=an s)(b:5000<s.size):DN a=bq:=by simp only[DN,all_eq_false];exact⟨s,Zs h,Yt⟩
theorem EE(b:Zk)(c d:Nat)(g:Zl)(E:B<=w.1.size)(A:Ab w B a f)(z:Ab w B b g)(G:eh f<=1048576)(D:eh g<=1048576)(u:∀s∈f,s.size<=1048576)(q:∀s∈g,s.size<=1048576):
 D8 19 #[ct #[C3 a (eh f) c,C3 b (eh g) d]] w λe h=>e=C5 (ef (BG f g))/\Zz w h:=by
 have j:bs w.1.size w (w.alloc (ca #[C2 a f c,C2 b g d] 25)):=gB;delta D8;go_in;go_wp2
 go_loop [3] (λi=>∃k:Nat,k<=eh f/\i=Zg k/\DN (f.take k)=bg) (λi=>eh f -(intOf i).toNat)
 case atStart=>exact⟨0,Aq _,rfl,by simp[DN]⟩
 obtain⟨k,F,rfl,o⟩:=hrel;by_cases hlt:k<eh f
 .obtain⟨p,r,t,y,l⟩:=A.at hlt;subst t;have v:=(j.cell (p:=⟨p,r+k,ba⟩) Yt).ag (l k f[k] (Zv hlt));have m:Hid (DN (f.take (k+1))=(DN (f.take k)&&bx (f[k].size<=5000))):=Kn f k _ (Zv hlt);have n:Hid (5000<f[k].size->DN f=bq):=Jt f k _ (Zv hlt);have x:=u f[k] (getElem_mem hlt);clear l u q;generalize f[k]=s at *
  by_cases hbig:5000<s.size
  .go_wp2;go_ret;exact⟨by rw[LA,n.o hbig];simp,j⟩
  go_wp2;refine⟨⟨k+1,Yv,Yn,?_⟩,Ys⟩;rw[m.o,o];simp;omega
 rw[Zt Yv]at o;go_wp2
 go_loop [4] (λi=>∃k:Nat,k<=eh g/\i=Zg k/\DN (g.take k)=bg) (λi=>eh g -(intOf i).toNat)
 case atStart=>exact⟨0,Aq _,rfl,by simp[DN]⟩
 obtain⟨f,C,rfl,h⟩:=hrel;by_cases hlt2:f<eh g
 .obtain⟨p,r,t,y,l⟩:=z.at hlt2;subst t;have v:=(j.cell (p:=⟨p,r+f,ba⟩) Yt).ag (l f g[f] (Zv hlt2));have m:Hid (DN (g.take (f+1))=(DN (g.take f)&&bx (g[f].size<=5000))):=Kn g f _ (Zv hlt2);have n:Hid (5000<g[f].size->DN g=bq):=Jt g f _ (Zv hlt2);have x:=q g[f] (getElem_mem hlt2);clear l u q;generalize g[f]=s at *
  by_cases hbig:5000<s.size
  .go_wp2;go_ret;exact⟨by rw[LA,n.o hbig];simp,j⟩
  go_wp2;refine⟨⟨f+1,Yv,Yn,?_⟩,Ys⟩;rw[m.o,h];simp;omega
 rw[Zt Yv]at h;go_wp2;go_ret;refine⟨?_,j⟩;rw[LA,o,h];simp;omega
theorem Dw{d:Zh}{a:Nat}{e:TypeId}{f:Zj}(h:eo w a e size v n f)(j:Tn V w d)(i:∀b∈V,b<a):eo d a e size v n f:=
 Ar h (λq c=>j.block q (Ac h c).2 (λg=>by have k:=i q g;have g:=(Ac h c).1;omega))
theorem Aa.there(h:Aa w B l):w.there B 0 (eh l):=λj c=>by obtain⟨a,b⟩:=h j _ (Zv c);rw[Ay];exact⟨by rw[a];rfl,b⟩
theorem Aa.range(h:Aa w B l):w.rangeAt B 0 l:=λj v a=>by rw[Ay];exact(h j v a).1
theorem AD(B:Nat):∀(vs:Zj) (o:Nat) (w:Zh),Tn [B] w (w.setCells B o vs)
 |[],_,w=>Tn.of Ae
 |v::r,o,w=>(Tn.set w B o v Yu).ag (AD B r (o+1) (ev w (Zd B o) v))
theorem Aa.aw(h:Aa w B l)(a:Zj)(d:eh a=eh l):Aa (w.setCells B 0 a) B a:=λj v c=>by have e:=(Zw c).1;have b:=rangeAt_setCells_same w B 0 a (d▸h.there) j v c;rw[Ay]at b;refine⟨b,?_⟩;rw[frozen?_setCells];exact(h j _ (Zv Yv)).2
def Ak(w:Zh)(base:Nat)(v:Value)(ss:Zl):Prop:=
 (v=Zb/\ss=[])\/∃g off cap,v=cr (an ⟨g,off,ba⟩) (eh ss) cap/\base<=g/\g<w.1.size/\eh ss<=cap/\cap<=ew/\
   (∀j,j<cap->(ek w (Zd g (off+j))).isSome=bg/\el w ⟨g,off+j,ba⟩=bq)/\
   ∀i s,ss[i]?=an s->ek w (Zd g (off+i))=an (.string s)
theorem Ak.nil(w:Zh)(a:Nat):Ak w a Zb []:=dp ⟨rfl,rfl⟩
theorem Ak.own(h:eo w b 9 1 v (eh c) (c.map string)):Ak w b v c:=by
 rcases h.2 with⟨rfl,q⟩|⟨g,l,d,rfl,m,e,n,p,k,t⟩
 .exact dp ⟨rfl,B8 q⟩
 have o:=(A6.1 e).1;have a:∀j,ek w (Zd g (0+j))=d[j]?:=λj=>by rw[Ay];simp[cell?,e]
 refine eb ⟨g,0,l,rfl,m,o,n,p,λj f=>⟨?_,?_⟩,λi s k=> ?_⟩
 .rw[a,Ci Yv];rfl
 .simp[frozen?,e]
 have r:=(Zw k).1;rw[a];have f:(d.toList.take (eh c *1))[i]?=an (C4 s):=gA;rw[getElem?_take_of_lt Yv]at f;simpa using f
theorem Ak.row{c:Nat}(h:Ak w c v d):∃a b,v=C3 a (eh d) b/\Ab w w.1.size a d:=by
 rcases h with⟨rfl,rfl⟩|⟨g,e,b,rfl,j,f,_,_,_,i⟩
 .exact⟨ba,0,rfl,dp rfl⟩
 exact⟨_,b,rfl,eb ⟨g,e,rfl,f,i⟩⟩
theorem Ak.stays{c:Zh}{a:Nat}(h:Ak w a v f)(r:w.1.size<=c.1.size)(b:∀g,Al v=an g->c.1[g]?=w.1[g]?):Ak c a v f:=by
 rcases h with h|⟨g,l,k,rfl,m,q,n,o,d,p⟩
 .exact dp h
 exact eb ⟨g,l,k,rfl,m,Yv,n,o,λj e=>⟨by rw[cell?_of_block (b g rfl)];exact(d j e).1,by rw[frozen?_of_block (b g rfl)];exact(d j e).2⟩,λi s e=>(cell?_of_block (b g rfl)).ag (p i s e)⟩
theorem Ak.bh{a:Nat}{e:Zl}(h:Ak w a v e)(b:Al v=an g):a<=g/\g<w.1.size:=by
 rcases h with⟨rfl,_⟩|⟨j,i,f,rfl,c,d,_⟩
 .cases b
 cases b;exact⟨c,d⟩
theorem Ak.A{c:Zh}{b:Zl}(h:Ak w base v b)(a:Zz w c):Ak c base v b:=
 h.stays a.size (λg e=>a.block g (h.bh e).2)
theorem Ak.S{d:Zh}{a:Nat}(h:Ak w a v c)(b:Tn V w d)(f:∀g,Al v=an g->g∉V):Ak d a v c:=
 h.stays b.size (λg e=>b.block g (h.bh e).2 (f g e))
theorem Ak.mono{a:Zl}(h:Ak w base v a)(e:base'<=base):Ak w base' v a:=by
 rcases h with h|⟨g,c,b,rfl,d,rest⟩
 .exact dp h
 exact eb ⟨g,c,b,rfl,Yv,rest⟩
abbrev Ak.ai:=@Ak.mono
theorem Ak.fresh(w:Zh)(d:Nat)(b:Zl)(c:Nat)(z:Array Value)(h:d<=w.1.size)(f:eh b<=c)(g:c<=ew)(l:z.size=c -eh b):
 Ak (w.drew.alloc (ca (ei (b.map string)++z) 9)) d (Yz w.1.size (eh b) c) b:=by
 have a:∀j,ek (w.drew.alloc (ca (ei (b.map string)++z) 9)) (Zd (w.1.size) (0+j))=(ei (b.map string)++z)[j]?:=λj=>by rw[Ay];show ek (w.drew.alloc (ca (ei (b.map string)++z) 9)) (Zd (w.drew.1.size) j)=_;rw[cell?_alloc_at _ _ _ _ rfl]
 refine eb ⟨w.1.size,0,c,rfl,h,Yu,f,g,λj e=>⟨?_,?_⟩,λi s e=> ?_⟩
 .rw[a,Ci Yt];rfl
 .simp[go_sem]
 have k:=(Zw e).1;rw[a,Array.getElem?_append_left Yt];simp[e]
theorem PC{c:Nat}{a:Zl}(U:Ak w c v a)(p:Addr)(C:Nat)(t:Zi)(D:ek w p=an (C4 t))(X:eh a<=100000000)(z:c<=w.1.size)(E:TypeId):
 ∃f h,(Builtin.append_ #[23,23] E #[v,C3 (an p) 1 C]).run prog w=.ok f h/\Ak h c f (a++[t])/\(((∀m,ep w h m)/\Al f=an w.1.size)\/∃g o d b,(v=C3 (an ⟨g,d,ba⟩) (eh a) b/\eh a<b)/\Al f=an g/\h=w.setCells g o [C4 t]/\(ek w (Zd g o)).isSome=bg):=by
 obtain⟨i,I,M,y,N⟩:=info_parts Ck;have r:Src prog i.size 23 (C3 (an p) 1 C) 1 [C4 t] w:=by
  rw[y];exact Src.ofSlice w underlying23 p 1 C [C4 t] rfl (λj u l=>by
   match j,l with
   |0,l=>cases l;rw[show p.add 0=p from by cases p;simp[Addr.add]];exact D) G3
 have grow:∀(B:Zk) (b:Nat),b<eh a+1->(Builtin.firstCells i.size (eh a) (C2 B a b)).run prog w.drew=.ok (ei (a.map string)) w.drew->
  ∃f h,(Builtin.append_ #[23,23] E #[C2 B a b,C3 (an p) 1 C]).run prog w=.ok f h/\Ak h c f (a++[t])/\(∀m,ep w h m)/\Al f=an w.1.size:=by
  intro B b G hold;have n:=run_append_grow_src w _ _ E _ i _ underlying23 I M B (eh a) b (a.map string) hold _ 1 [C4 t] r G Yv (by
   have:=nextslicecap_le G;rw[N];omega)
  rw[show a.map string++[C4 t]=(a++[t]).map string by simp]at n;have V:=grownCap_ge w (eh a+1) b 9;have L:=grownCap_le_maxLen w (eh a+1) b 9 Yo;have F:=Ak.fresh w c (a++[t]) (grownCap w (eh a+1) b 9) (Builtin.zeroCells (C4 ⟨#[]⟩).cells (grownCap w (eh a+1) b 9 -(eh a+1))) z Yt L (by rw[size_zeroCells,Am];simp[Value.cells]);rw[Am]at F;exact⟨_,_,n,F,λm=>⟨rfl,rfl,rfl,Yu,λk m _=>heap_alloc_old w.drew _ m⟩,rfl⟩
 rcases U with⟨rfl,rfl⟩|⟨g,d,b,rfl,O,T,W,P,x,D⟩
 .obtain⟨f,h,n,Q,R,S⟩:=grow ba 0 Yu (run_firstCells_none w.drew _ _ _ _);exact gG
 by_cases hroom:eh a+1<=b
 .have A:∀j,j<eh [C4 t]->(eh a *1+j)<b:=gG;have n:=run_append_room_src w _ _ E _ i underlying23 I g d (eh a) b _ 1 [C4 t] r hroom (λj m=>by rw[y,Nat.add_assoc];exact(x _ (A j m)).1) (λj m=>by rw[y,Nat.add_assoc];exact(x _ (A j m)).2);rw[y]at n;refine⟨_,_,n,eb ⟨g,d,b,by rw[Am];rfl,O,by rw[GK];exact T,by rw[Am];exact hroom,P,λj m=>⟨?_,?_⟩,λk s q=> ?_⟩,eb ⟨g,_,d,b,⟨rfl,hroom⟩,rfl,rfl,by rw[Nat.mul_one];exact(x _ hroom).1⟩⟩
  .exact IK _ _ _ _ _ (x j m).1
  .rw[frozen?_setCells];exact(x j m).2
  rcases Cg k (eh a) with H|H
  .rw[getElem?_append_left H]at q;rw[cell?_setCells_out _ _ _ _ _ (λ_ _=> dp Yt)];exact D k s q
  rw[getElem?_append_right H]at q;have K:k=eh a:=gG;subst K;simp at q;subst q;have J:=cell?_setCells_in g [C4 t] (d+eh a *1) w (λj m=>by rw[Nat.add_assoc];exact(x _ (A j m)).1) 0 Yu;simpa using J
 obtain⟨f,h,n,Q,R,S⟩:=grow (an ⟨g,d,ba⟩) b Yv (run_firstCells_some w.drew _ _ _ _ _ _ gA (by
  intro j u l;obtain⟨s,q,rfl⟩:∃s,a[j]?=an s/\u=C4 s:=by
   rw[getElem?_map]at l;cases e:a[j]? with
   |none=>rw[e]at l;cases l
   |some s=>rw[e]at l;cases l;exact⟨s,rfl,rfl⟩
  rw[A7];exact D j s q))
 exact gG
theorem KK{a:Nat}(u:Ak w a v d)(p:Addr)(i:Nat)(t:Zi)(n:ek w p=an (C4 t))(r:eh d<=100000000)(c:a<=w.1.size)(l:TypeId):
 ∃b f,(Builtin.append_ #[23,23] l #[v,C3 (an p) 1 i]).run prog w=.ok b f/\Ak f a b (d++[t])/\ep w f (Al v)/\(Al b=Al v\/Al b=an w.1.size):=by
 obtain⟨b,f,x,s,⟨h,j⟩|⟨g,o,_,_,⟨h,_⟩,j,rfl,_⟩⟩:=PC u p i t n r c l
 .exact gG
 exact⟨b,_,x,s,⟨os_setCells _ _ _ _,JW _ _ _ _,output_setCells _ _ _ _,by rw[GK];exact Zx,λk q m=>heap_setCells_other _ _ _ _ q (λe=>m (by rw[e,h];rfl))⟩,dp (by rw[h,j];rfl)⟩
theorem Ak.set{a:Nat}{k:Zl}(h:Ak w base (C3 (an ⟨g,a,ba⟩) n b) k)(v:j<eh k)(t:Zi):Ak (ev w (Zd g (a+j)) (C4 t)) base (C3 (an ⟨g,a,ba⟩) n b) (k.set j t):=by
 rcases h with⟨e,_⟩|⟨x,m,l,e,o,p,q,r,c,u⟩
 .cases e
 cases e;refine eb ⟨g,a,b,by rw[length_set],o,D2 p,by rw[length_set];exact q,r,λi f=>⟨?_,?_⟩,λi s d=> ?_⟩
 .exact(Ce.setCell w g (a+j) (C4 t) g (a+i) (c i f).1).1
 .exact(Ce.setCell w g (a+j) (C4 t) g (a+i) (c i f).1).2 (c i f).2
 by_cases hij:i=j
 .subst hij;rw[getElem?_set_self v]at d;cases d;exact cell?_setCell_same' _ _ _ (c i Yv).1
 rw[getElem?_set_ne (λe=>hij e.symm)]at d;exact(cell?_setCell_other w _ _ _ Ym).ag (u i s d)
def Ko(w:Zh)(b:Nat)(u v:Value):Prop:=ek w (Zd b 0)=an u/\ek w (Zd b 1)=an v/\b<w.1.size
theorem Ko.new(w:Zh)(u v:D4)(t:TypeId):Ko (w.alloc (ca #[u,v] t)) w.1.size u v:=⟨Yu,Yu,Yu⟩
theorem Ko.A{c:Zh}(h:Ko w b u v)(a:Zz w c):Ko c b u v:=
 ⟨(a.cell (p:=⟨b,0,ba⟩) h.2.2).ag h.1,(a.cell (p:=⟨b,1,ba⟩) h.2.2).ag h.2.1,Zr h.2.2 a.size⟩
theorem Ko.alloc(h:Ko w b u v)(o:Obj):Ko (w.alloc o) b u v:=h.A (Zy)
theorem Be.S{f:Zh}{a:Nat}{P:D4}{p:Zj}{l:C9}{o:Db}{m:Da}(h:Be w a T P L p l o m)(s:Tn V w f)(q:∀b∈V,b<a):Be f a T P L p l o m:=by have c:∀{e:TypeId} {size:Nat} {v:D4} {n:Nat} {xs:Zj},eo w a e size v n xs->eo f a e size v n xs:=λd=>Ar d (λg j=>s.block g (Ac d j).2 (λe=>by have:=q g e;have:=(Ac d j).1;omega));exact⟨h.len,c h.ak,λi k r d j=>c (h.D i k r d j),c h.pins,c h.ax,h.nd⟩
theorem Be.mono{P:D4}{e:Zj}{b:C9}{d:Db}{c:Da}(h:Be w base T P L e b d c)(a:base'<=base):Be w base' T P L e b d c:=
 ⟨h.len,h.ak.ai a,λi k r f g=>(h.D i k r f g).ai a,h.pins.ai a,h.ax.ai a,h.nd⟩
abbrev Be.ai:=@Be.mono
theorem Be.lo{P:D4}{e:Zj}{j:C9}{l:Db}{k:Da}(h:Be w b T P L e j l k):∀g∈BP T P L e,b<=g:=by
 intro g a;unfold BP at a;simp only[Bw,By,mem_filterMap]at a;rcases a with a|a|a|⟨r,f,a⟩
 .exact(Ac h.ak a).1
 .exact(Ac h.pins a).1
 .exact(Ac h.ax a).1
 obtain⟨i,c⟩:=A9 f;have d:=(Zw c).1;rw[h.len]at d;exact(Ac (h.D i _ r (Zv d) c) a).1
def BR(out:Zl)(s:Zi):Zl:=if out.any (fun x=>decide (x=s))=bg then out else out++[s]
theorem QU(a:Zl)(s:Zi):eh (BR a s)<=eh a+1:=by unfold BR;split<;>simp
theorem NO{a:Zl}(o:Zl)(b:a[k]?=an x):(a.take (k+1)).foldl BR o=BR ((a.take k).foldl BR o) x:=by obtain⟨h,rfl⟩:=Zw b;rw[Zu h,foldl_append];rfl
theorem Ft(a o:Zl):eh (a.foldl BR o)<=eh o+eh a:=by
 induction a generalizing o with
 |nil=>simp
 |cons x a ih=>have b:=ih (BR o x);have c:=QU o x;simp only[foldl_cons,length_cons];omega
theorem PD{d:Nat}{c:Nat}{b:Zl}(h:eo w d 9 1 (C3 a (eh b) c) (eh b) (b.map string)):Ab w w.1.size a b:=by
 rcases h.2 with⟨e,f⟩|⟨g,i,j,e,_⟩
 .exact dp (B8 f)
 cases e;exact Ab.own h
def Dx(ps:List Pd)(ls:List Ld):Zl:=(ls.map (·.sum)).foldl BR ((ps.map (·.sum)).foldl BR [])
theorem SO(D s h d:Int)(T:Value){p l:Zk}(C B:Nat){a:Db}{f:Da}(n:AS w w.1.size p a)(o:AR w w.1.size l f)(zI:eh a<=100)(zH:eh f<=200):
 D8 142 #[ct #[Zg D,Zg s,Zg h,Zg d,T,C3 p (eh a) C,C3 l (eh f) B]] w fun e m=>∃g c,e=C5 (Yz g (eh (Dx a f)) c)/\eo m (w.1.size+1) 9 1 (Yz g (eh (Dx a f)) c) (eh (Dx a f)) ((Dx a f).map string)/\Zz w m:=by
 obtain⟨⟨Z,Y,Q,R,S⟩,zB,zA,m⟩:=info_parts Ck,Yw n,Yw o,AW.new w D s h d T (C3 p (eh a) C) (C3 l (eh f) B) 30;have P:bs w.1.size w (w.alloc (ca #[Zg D,Zg s,Zg h,Zg d,T,C3 p (eh a) C,C3 l (eh f) B] 30)):=gB;clear n o;unfold Dx;delta D8;go_in;go_wp2;go_loopw [3,4] (fun v i wr=>∃(k g c:Nat),k<=eh a/\i=Zg k/\v=Yz g (eh (((a.map (·.sum)).take (k)).foldl BR [])) c/\Hid (eo wr (w.1.size+1) 9 1 (Yz g (eh (((a.map (·.sum)).take (k)).foldl BR [])) c) (eh (((a.map (·.sum)).take (k)).foldl BR [])) ((((a.map (·.sum)).take (k)).foldl BR []).map string))/\Zz w wr/\Hid (AW wr w.1.size D s h d T (C3 p (eh a) C) (C3 l (eh f) B))) (fun _ i _=>eh a -(intOf i).toNat)
 case atStart=>
  refine⟨0,w.1.size+1,0,Aq _,rfl,Yu,?_,P.alloc P.size _,m.ah (Zy) m.2.2.2.2.2.2.2⟩;have:=ownsRow_lit (e:=9) (w.alloc (ca #[Zg D,Zg s,Zg h,Zg d,T,C3 p (eh a) C,C3 l (eh f) B] 30)) #[] (size:=1) 0 (base:=w.1.size+1) Yu Yv rfl;rw[show(w.alloc (ca #[Zg D,Zg s,Zg h,Zg d,T,C3 p (eh a) C,C3 l (eh f) B] 30)).1.size=w.1.size+1 from by simp]at this;exact this
 clear m;obtain⟨k,g,c,hk,rfl,rfl,q,n,z⟩:=hrel;have⟨x0,x1,x2,x3,x4,x5,x6,x7⟩:=z.o;by_cases hlt:k<eh a
 .obtain⟨b,zG,W,hb,G⟩:=(AS.A zB n).at hlt;subst W;have N:Hid (a[k]?=an a[k]):=gH;obtain⟨_,c1⟩:=G k _ N;have zC:b<wr.1.size:=Yv;have HN:Hid ((a.map (·.sum))[k]?=an a[k].sum):=gA;clear G;generalize a[k]=x at *
  have hlen:eh (((a.map (·.sum)).take (k)).foldl BR [])<=0+k:=by
   have:=Ft ((a.map (·.sum)).take k) ([])
   skip
   simp at this;omega
  have H:=Yw (NO ([]) HN);generalize hO:((a.map (·.sum)).take (k)).foldl BR []=O at *
  have zE:=(q.lt g rfl).1;have zF:=(q.lt g rfl).2;have V:Hid (Ab wr wr.1.size (an ⟨g,0,ba⟩) O):=PD q;go_wp2_with fail;refine(FJ c x.sum V Yv).mono ?_;rintro e J ⟨rfl,rfl⟩;cases hin:O.any (fun y=>decide (y=x.sum))with
  |true=>
   have r:Hid (((a.map (·.sum)).take (k+1)).foldl BR []=O):=by show _=_;rw[H.o];unfold BR;rw[if_pos hin]
   go_wp2;refine⟨⟨k+1,g,c,Yv,Yn,by rw[r.o],?_,n,z⟩,Ys⟩;rw[r.o];exact q
  |false=>
   have r:Hid (((a.map (·.sum)).take (k+1)).foldl BR []=O++[x.sum]):=K5
   go_wp2_with (first
    |(at_builtin;refine wpList_append_own _ rfl _ _ 23 rfl (w.1.size+1) 9 Z Zc 1 16 underlying23 Y Q R S rfl Yq _ (eh O) (O.map string) rfl ?d0 ⟨J.1.size,0,ba⟩ 1 1 [C4 x.sum] rfl rfl ?d1 ?d2 ?d3 ?d4 ?d5 ?_)
    |go_in)
   case d0=>exact q.alloc _
   case d1=>exact cell_one_new _ _ _
   case d2=>intro u I;simp at I;subst I;rfl
   case d3=>unfold ew;omega
   case d4=>omega
   case d5=>simp;omega
   intro v' A m o _;have⟨F,E,M,_,_⟩:=m.form Yv;subst M;have t:bs (w.1.size+1) J A:=(Ae.alloc Yv _).grown o Yt (by intro j X;simp[ownBlock]at X;omega);have U:Hid (Zz w A):=gD;have L:=Yw (AW.ah z t Yv);have K:Hid (eo A (w.1.size+1) 9 1 (Yz F (eh O+1) E) (eh O+1) ((O++[x.sum]).map string)):=gD;clear m o t;go_wp2;refine⟨⟨k+1,F,E,Yv,Yn,by rw[r.o];simp,?_,U,L⟩,Ys⟩;rw[r.o,Am];exact K
 rw[Zt Yt]at q |-;go_wp2;go_loopw [3,5] (fun v i wr=>∃(k g c:Nat),k<=eh f/\i=Zg k/\v=Yz g (eh (((f.map (·.sum)).take (k)).foldl BR ((a.map (·.sum)).foldl BR []))) c/\Hid (eo wr (w.1.size+1) 9 1 (Yz g (eh (((f.map (·.sum)).take (k)).foldl BR ((a.map (·.sum)).foldl BR []))) c) (eh (((f.map (·.sum)).take (k)).foldl BR ((a.map (·.sum)).foldl BR []))) ((((f.map (·.sum)).take (k)).foldl BR ((a.map (·.sum)).foldl BR [])).map string))/\Zz w wr/\Hid (AW wr w.1.size D s h d T (C3 p (eh a) C) (C3 l (eh f) B))) (fun _ i _=>eh f -(intOf i).toNat)
 case atStart=>exact⟨0,g,c,Aq _,rfl,rfl,q,n,z⟩
 clear x0 x1 x2 x3 x4 x5 x6 x7;obtain⟨k,g,c,hk,rfl,rfl,q,n,z⟩:=hrel;have⟨x0,x1,x2,x3,x4,x5,x6,x7⟩:=z.o;by_cases hlt:k<eh f
 case neg=>rw[Zt Yt]at q |-;go_wp2;go_ret;exact⟨_,_,rfl,q,n⟩
 obtain⟨b,zG,W,hb,G⟩:=(AR.A zA n).at hlt;subst W;have N:Hid (f[k]?=an f[k]):=Zv hlt;obtain⟨_,c1,_⟩:=G k _ N;have zC:b<wr.1.size:=Yv;have HN:Hid ((f.map (·.sum))[k]?=an f[k].sum):=by show _=_;rw[getElem?_map,N.o];rfl
 clear G;generalize f[k]=x at *
 have hlen:eh (((f.map (·.sum)).take (k)).foldl BR ((a.map (·.sum)).foldl BR []))<=eh a+k:=by have:=Ft ((f.map (·.sum)).take k) ((a.map (·.sum)).foldl BR []);have G:=Ft (a.map (·.sum)) [];simp at G;simp at this;omega
 have H:=Yw (NO ((a.map (·.sum)).foldl BR []) HN);generalize hO:((f.map (·.sum)).take (k)).foldl BR ((a.map (·.sum)).foldl BR [])=O at *
 have zE:=(q.lt g rfl).1;have zF:=(q.lt g rfl).2;have V:Hid (Ab wr wr.1.size (an ⟨g,0,ba⟩) O):=PD q;go_wp2_with fail;refine(FJ c x.sum V Yv).mono ?_;rintro e J ⟨rfl,rfl⟩;cases hin:O.any (fun y=>decide (y=x.sum))with
 |true=>
  have r:Hid (((f.map (·.sum)).take (k+1)).foldl BR ((a.map (·.sum)).foldl BR [])=O):=by show _=_;rw[H.o];unfold BR;rw[if_pos hin]
  go_wp2;refine⟨⟨k+1,g,c,Yv,Yn,by rw[r.o],?_,n,z⟩,Ys⟩;rw[r.o];exact q
 |false=>
  have r:Hid (((f.map (·.sum)).take (k+1)).foldl BR ((a.map (·.sum)).foldl BR [])=O++[x.sum]):=K5
  go_wp2_with (first
   |(at_builtin;refine wpList_append_own _ rfl _ _ 23 rfl (w.1.size+1) 9 Z Zc 1 16 underlying23 Y Q R S rfl Yq _ (eh O) (O.map string) rfl ?d0 ⟨J.1.size,0,ba⟩ 1 1 [C4 x.sum] rfl rfl ?d1 ?d2 ?d3 ?d4 ?d5 ?_)
   |go_in)
  case d0=>exact q.alloc _
  case d1=>exact cell_one_new _ _ _
  case d2=>intro u I;simp at I;subst I;rfl
  case d3=>unfold ew;omega
  case d4=>omega
  case d5=>simp;omega
  intro v' A m o _;have⟨F,E,M,_,_⟩:=m.form Yv;subst M;have t:bs (w.1.size+1) J A:=(Ae.alloc Yv _).grown o Yt (by intro j X;simp[ownBlock]at X;omega);have U:Hid (Zz w A):=n.trans (t.mono Yv);have L:=Yw (AW.ah z t Yv);have K:Hid (eo A (w.1.size+1) 9 1 (Yz F (eh O+1) E) (eh O+1) ((O++[x.sum]).map string)):=(by simpa using m:ownsRow A (w.1.size+1) 9 1 (Yz F (eh O+1) E) (eh O+1) ((O++[x.sum]).map string));clear m o t;go_wp2;refine⟨⟨k+1,F,E,Yv,Yn,by rw[r.o];simp,?_,U,L⟩,Ys⟩;rw[r.o,Am];exact K
section
attribute [local go_sem↓] Go.wp_at_zero Go.wp_at_succ
def TS(W:Zh)(b c:Nat)(wd:Value)(s t r:Value)(w':Zh):Prop:=
 ek w' (Zd b 0)=an wd/\ek w' (Zd c 0)=an s/\ek w' (Zd c 2)=an t/\ek w' (Zd c 3)=an r/\Zz W w'
theorem TS.ah{e d:Zh}{c:Nat}{g:D4}(h:TS W b c g s t r e)(a:Zz e d)(m:b<W.1.size)(n:c<W.1.size):TS W b c g s t r d:=by obtain⟨i,j,k,l,f⟩:=h;have:=f.size;exact⟨(a.cell (p:=⟨b,0,ba⟩) Yt).ag i,(a.cell (p:=⟨c,0,ba⟩) Yt).ag j,(a.cell (p:=⟨c,2,ba⟩) Yt).ag k,(a.cell (p:=⟨c,3,ba⟩) Yt).ag l,f.ag (a.ai this)⟩
theorem TS.drew{a:Zh}{c:Nat}{d:D4}(h:TS W b c d s t r a):TS W b c d s t r a.drew:=⟨h.1,h.2.1,h.2.2.1,h.2.2.2.1,h.2.2.2.2.drew⟩
theorem TS.new{a:TypeId}{d:Int}(s b t r:D4)(e:ek wr (Zd (w.1.size) 0)=an (Zg d))(f:w.1.size<wr.1.size):
 bs wr.1.size wr ((wr.alloc (ca #[s,b,t,r] a)).drewN n)/\((wr.alloc (ca #[s,b,t,r] a)).drewN n).1.size=wr.1.size+1/\
  TS ((wr.alloc (ca #[s,b,t,r] a)).drewN n) w.1.size wr.1.size (Zg d) s t r ((wr.alloc (ca #[s,b,t,r] a)).drewN n):=by
 have c:bs wr.1.size wr ((wr.alloc (ca #[s,b,t,r] a)).drewN n):=Bx (Zy) _;refine⟨c,by rw[Sm];simp,(c.cell (p:=⟨w.1.size,0,ba⟩) f).ag e,?_,?_,?_,Ae⟩
 all_goals rw[Sl];simp
def seen(ks:List Kd)(k:Nat)(n:Int):Bool:=(ks.take k).any (fun x=>decide (x.born=n))
def flags(ks:List Kd)(k:Nat):Zj:=(List.range 601).map (fun(n:Nat)=>Value.bool (seen ks k n))
def later(ks:List Kd)(k:Nat):List Int:=((ks.take k).map (·.born)).filter (fun b=>decide (600<b))
theorem UL{a:C9}{x:Kd}(b:a[k]?=an x):a.take (k+1)=a.take k++[x]:=by obtain⟨h,rfl⟩:=Zw b;exact Zu h
theorem WL:(prog.info? 4).map (λi=>(i.zero,i.size,i.bytes))=an (an (ef bq),1,1):=Yr
theorem Aaf:(prog.info? 3).map (λi=>(i.zero,i.size,i.bytes))=an (an Ze,1,8):=Yr
structure LT1 (w wr:Zh) (ks:List Kd) (k:Nat) (v:Value):Prop where
 cn:bs w.1.size w wr
 fl:eo wr (w.1.size+1) 4 1 (cr (an ⟨w.1.size+1,0,ba⟩) 601 601) 601 (flags ks k)
 K:eo wr (w.1.size+2) 3 1 v (eh (later ks k)) ((later ks k).map (Value.int .i64))
theorem LT1.ah{a:Zh}{c:C9}(h:LT1 w wr c k v)(b:Zz wr a):LT1 w a c k v:=
 ⟨h.cn.ag (b.ai h.cn.size),h.fl.kept (Af ba b) (eb H0),h.K.kept (Af ba b) (by cases ej v<;>simp)⟩
def LB(w:Zh)(b:Nat)(wd:Int)(m:Nat):Prop:=ek w (Zd b 0)=an (Zg wd)/\ek w (Zd b 1)=an (.map (an m))/\b<w.1.size
theorem LB.new(w:Zh)(a:Int)(m:Nat)(t:TypeId):LB (w.alloc (ca #[Zg a,.map (an m)] t)) w.1.size a m:=⟨Yu,Yu,Yu⟩
theorem LB.ah{d:Zh}{m:Nat}{e:Int}(h:LB w b e m)(a:bs B w d)(c:b<B):LB d b e m:=
 ⟨(a.cell (p:=⟨b,0,ba⟩) c).ag h.1,(a.cell (p:=⟨b,1,ba⟩) c).ag h.2.1,Zr h.2.2 a.size⟩
end
def NP(a b:Zi):Bool:=Op.bytesLess a.toList b.toList
def GY:Zl->Zi->Nat
 |[],_=>0
 |y::l,x=>if NP y x=bg then GY l x+1 else 0
theorem Aag(l:Zl)(x:Zi):GY l x<=eh l:=by
 induction l with
 |nil=>simp[GY]
 |cons y l ih=>unfold GY;split<;>simp;omega
theorem MZ{l:Zl}(h:∀i y,i<j->l[i]?=an y->NP y x=bg)(b:∀y,l[j]?=an y->NP y x=bq)(a:j<=eh l):GY l x=j:=by
 induction l generalizing j with
 |nil=>simp at a;simp[GY,a]
 |cons y l ih=>
  unfold GY;cases j with
  |zero=>rw[if_neg gA]
  |succ j=>rw[if_pos (h 0 y Yv rfl),ih (j:=j) (λi z c c=>h (i+1) z Yv Yt) (λz c=>b z Yt) gA]
def GZ(l:Zl)(x:Zi):Zl:=if l[GY l x]?=an x then l else l.take (GY l x)++[x]++l.drop (GY l x)
def Cy(ss:Zl):Zl:=ss.foldl GZ []
theorem QV(l:Zl)(x:Zi):eh (GZ l x)<=eh l+1:=by
 unfold GZ;split
 .omega
 have:=Aag l x;simp;omega
theorem WM{l:Zl}(h:y∈GZ l x):y∈l\/y=x:=by
 unfold GZ at h;split at h
 .exact dp h
 simp only[Bw,mem_singleton]at h;rcases h with(h|h)|h
 .exact dp (mem_of_mem_take h)
 .exact eb h
 exact dp (mem_of_mem_drop h)
theorem RJ(b:Zl):∀a:Zl,eh (b.foldl GZ a)<=eh a+eh b/\∀y∈b.foldl GZ a,y∈a\/y∈b:=by
 induction b with
 |nil=>intro a;exact⟨Yu,λy c=> dp c⟩
 |cons x b ih=>
  intro a;have⟨e,d⟩:=ih (GZ a x);have:=QV a x;refine⟨by simp only[foldl_cons,length_cons];omega,λy c=> ?_⟩;rcases d y c with h|h
  .rcases WM h with h|h
   .exact dp h
   exact gA
  exact gA
theorem Kp(a:Zl):eh (Cy a)<=eh a:=by simpa [Cy]using (RJ a []).1
theorem UM{a:Zl}(h:y∈Cy a):y∈a:=by
 rcases(RJ a []).2 y h with h|h
 .cases h
 exact h
theorem SP{a:Zl}(h:a[k]?=an x):Cy (a.take (k+1))=GZ (Cy (a.take k)) x:=by obtain⟨b,rfl⟩:=Zw h;unfold Cy;rw[Zu b,foldl_append];rfl
theorem Mk(yM:Nat)(b:Ab w w.1.size a f)(hl:eh f<=100000):
 D8 145 #[C3 a (eh f) yM] w λe d=>∃g c,e=C5 (Yz g (eh (Cy f)) c)/\
  eo d w.1.size 9 1 (Yz g (eh (Cy f)) c) (eh (Cy f)) ((Cy f).map string)/\Zz w d:=by
 have⟨i0,J,M,N,P⟩:=info_parts Ck;have yL:=Yw b;clear b;have b:bs w.1.size w (w.alloc (ca #[] 9)):=Zy;have d:eo (w.alloc (ca #[] 9)) w.1.size 9 1 (Yz w.1.size 0 0) 0 (([]:Zl).map string):=ownsRow_lit w #[] 0 (Zx) Yo rfl;have yH:=Yw (Zn b d);clear b d;delta D8;go_in;go_wp2;go_loopw [3,4] (λv i wr=>∃(k g c:Nat),k<=eh f/\i=Zg k/\v=Yz g (eh (Cy (f.take k))) c/\Hid (eo wr w.1.size 9 1 (Yz g (eh (Cy (f.take k))) c) (eh (Cy (f.take k))) ((Cy (f.take k)).map string))/\Hid (Zz w wr)) (λ_ i _=>eh f -(intOf i).toNat)
 case atStart=>exact⟨0,w.1.size,0,Aq _,rfl,rfl,yH.2,yH.1⟩
 obtain⟨k,g,c,hk,rfl,rfl,HO,Z⟩:=hrel;by_cases hlt:k<eh f
 case neg=>
  have m:k=eh f:=Yv;subst m;rw[take_length]at HO |-;go_wp2;go_ret;exact⟨_,_,rfl,HO,Z⟩
 have HG:Hid (f[k]?=an f[k]):=Zv hlt;have⟨I,oa,ha,yT,b⟩:=(Ab.A yL Z).at hlt;subst ha;have cx:=b k _ HG;have HS:=Yw (SP HG);have hlen:eh (Cy (f.take k))<=k:=by have:=Kp (f.take k);simp at this;omega
 have yW:=Z.size;have zP:I<wr.1.size:=Yv;generalize f[k]=x at *
 generalize hO:Cy (f.take k)=O at *
 have yJ:=(HO.lt g rfl).2;have yV:=(HO.lt g rfl).1;have zY:Hid (∀j y,O[j]?=an y->ek wr (Zd g j)=an (C4 y)):=by
  intro j y B;have:=Ab.own HO;rcases this with h|⟨b',yX,e1,_,h3⟩
  .subst h;simp at B
  cases e1;simpa using h3 j y B
 clear b;go_wp2;go_loopw [5] (λv b=>∃j:Nat,j<=eh O/\v=Zg j/\(∃nq,b=wr.drewN nq)/\Hid (∀i y,i<j->O[i]?=an y->NP y x=bg)) (λv _=>eh O -(intOf v).toNat)
 case atStart=>exact⟨0,Aq _,rfl,⟨0,rfl⟩,λi y h=>Yv⟩
 obtain⟨j,hj,rfl,⟨nq,rfl⟩,HJ⟩:=hrel;by_cases hjl:j<eh O
 case neg=>
  obtain rfl:j=eh O:=Yv;have d1:bx ((eh O:Int)<(eh O:Int))=bq:=Yu;have zS:Hid (∀z,O[eh O]?=an z->NP z x=bq):=by intro z hz;simp at hz
  have zV:Hid (¬O[eh O]?=an x):=by show ¬_;simp
  go_upto_region 6 with fail;go_quiet (fail);go_upto_region 8 with fail;go_quiet (fail);go_upto_region 9 with fail;have HP:Hid (GY O x=eh O):=MZ HJ zS hj;have v:Hid (Cy (f.take (k+1))=O.take (eh O)++[x]++O.drop (eh O)):=by show _=_;rw[HS.o];unfold GZ;rw[HP.o,if_neg zV.o]
  generalize hW:(((wr.drewN _).drewN _).drewN _)=W;have o:Hid (Zz wr W):=by rw[<-hW];exact Bx (Bx (Bx Ae _) _) _
  have zB:Hid (Zz w W):=Z.ag (o.ai Z.size);have zX:Hid (eo W w.1.size 9 1 (Yz g (eh O) c) (eh O) (O.map string)):=HO.kept (Af ba o) (Classical.em _);have yS:wr.1.size<=W.1.size:=o.size;have zJ:g<W.1.size:=Yv;have yB:I<W.1.size:=Yv;have zF:ek W (Zd I (oa+k))=an (C4 x):=(o.cell (p:=⟨I,oa+k,ba⟩) zP).ag cx;have zC:Hid (∀i y,O[i]?=an y->ek W (Zd g i)=an (C4 y)):=λi y B=>(o.cell (p:=⟨g,i,ba⟩) yJ).ag (zY i y B);have Q:Hid (eh O<=c):=by
   rcases zX.2 with⟨hv,_⟩|⟨_,_,_,hv,_,_,D,_⟩
   .cases hv
   cases hv;exact D
  have D:eh O<=c:=Q.o;clear hW cx;go_wp2_with (first
   |(at_builtin;refine wpList_append_own_at _ rfl _ _ 23 rfl w.1.size 9 i0 Zc 1 16 underlying23 J M N P rfl Yq _ 0 [] rfl ?d0 ⟨g,0,ba⟩ (eh O) c ((O.take (eh O)).map string) rfl ?dl ?d1 ?d2 ?d3 ?d4 ?d5 ?_))
  case d0=>exact ownsRow_lit W #[] 0 Yv Yo rfl
  case dl=>first|(simp;done)|(simp;omega)
  case d1=>
   intro i u r;rw[getElem?_map]at r;cases d:(O.take (eh O))[i]? with
   |none=>rw[d]at r;cases r
   |some y=>
    rw[d]at r;cases r;have B:O[i]?=an y:=by
     rw[getElem?_take]at d;split at d
     .exact d
     cases d
    have:=zC i y B;rw[A7,Ay];exact(((Below.refl W.1.size W).alloc (Zx) _).cell (p:=⟨g,i,ba⟩) zJ).ag this
  case d2=>intro u r;obtain⟨s,_,rfl⟩:=mem_map.1 r;rfl
  case d3=>unfold ew;omega
  case d4=>omega
  case d5=>simp;omega
  intro v' V b m E zG;have⟨l,G,yD⟩:∃l G,v'=Yz l (eh O) G:=by
   rcases Joins.ownsRow_forms b with⟨e1,_⟩|hf
   .exact(E e1).elim
   exact hf
  subst yD;try simp only[Ay,nil_append]at b
  have q:bs W.1.size W V:=((Below.refl W.1.size W).alloc (Zx) _).grown m Yu (λi J=>by simp[ownBlock]at J;omega);have yR:W.1.size<=V.1.size:=q.size;have yN:ek V (Zd I (oa+k))=an (C4 x):=(q.cell (p:=⟨I,oa+k,ba⟩) yB).ag zF;have yI:Hid (∀i y,O[i]?=an y->ek V (Zd g i)=an (C4 y)):=λi y B=>(q.cell (p:=⟨g,i,ba⟩) zJ).ag (zC i y B);have zZ:=Yw q;have zM:eo V w.1.size 9 1 (Yz l (eh O) G) (eh O) ((O.take (eh O)).map string):=by
   first|exact b|(rw[map_take];exact b)|(rw[take_length];exact b)
  have zW:=Yw zM;clear zM;have zI:=b.lt l rfl;have zT:=Yw zG;clear b m E q zF zG;try simp only[Ay]
  go_upto_region 10 with fail;have H:bs V.1.size V (V.alloc (ca #[C4 x] 9)):=Zy;have zO:eo (V.alloc (ca #[C4 x] 9)).drew w.1.size 9 1 (Yz l (eh O) G) (eh O) ((O.take (eh O)).map string):=zW.kept (Af ba H.drew) (Classical.em _);have zN:∀A,(an ⟨V.1.size,0,ba⟩:Zk)=an A->∀i s,[x][i]?=an s->ek (V.alloc (ca #[C4 x] 9)).drew (A.add i)=an (C4 s):=by
   intro A e i s d;injection e with e;subst e;cases i with
   |zero=>simp at d;subst d;simp[Addr.add]
   |succ i=>simp at d
  have yA:eh (O.drop (eh O))=0:=Yu;have b:(if c=eh O then an ⟨g,0,ba⟩else an ⟨g,eh O,ba⟩:Zk)=ba->(0:Nat)=0/\c -eh O=0:=by intro e;split at e<;>cases e
  have yO:eh (O.take (eh O))=eh O:=Ym;have yE:w.1.size<=V.1.size:=Yv;have F:w.1.size<=(V.alloc (ca #[C4 x] 9)).drew.1.size:=Yt;have U:w.1.size<=l:=zI.1;have yQ:g<l:=by rcases zT.o with h|h<;>simp[ownBlock]at h<;>omega
  have yF:l<V.1.size:=zI.2;have zE:∀n:Zh,∀A,(if c=eh O then an ⟨g,0,ba⟩else an ⟨g,eh O,ba⟩:Zk)=an A->∀i s,(O.drop (eh O))[i]?=an s->ek n (A.add i)=an (C4 s):=by intro n A _ i s d;simp at d
  go_region_law (first
   |(refine Az (V.alloc (ca #[C4 x] 9)).drew rfl (.tmp 51) (.tmp 56) 23 rfl w.1.size 9 i0 Zc 16 underlying23 J M N P rfl l (eh O) G (O.take (eh O)) rfl zO (an ⟨V.1.size,0,ba⟩) 1 1 [x] rfl rfl (λe=>by cases e) zN Yo Yv Yt ?_;intro k5 R n L t S X;have z5:w.1.size<=n.1.size:=Zm F t.size;have Y:=X)
   |(have zA:=Y;refine Az n rfl (.tmp 57) (.tmp 60) 23 rfl w.1.size 9 i0 Zc 16 underlying23 J M N P rfl k5 (eh O+1) R (O.take (eh O)++[x]) rfl L (if c=eh O then an ⟨g,0,ba⟩else an ⟨g,eh O,ba⟩) 0 (c -eh O) (O.drop (eh O)) rfl yA b (zE n) Yo Yv z5 ?_;intro k6 C w6 zK zH T yG))
  all_goals
   have yC:w.1.size<=k5:=(L.lt k5 rfl).1;have b5:bs w.1.size V n:=(H.drew.ai yE).grown t F (λi e=>by cases e;exact U);have b6:bs w.1.size V w6:=b5.grown zH z5 (λi e=>by cases e;exact yC);have HF:Hid (Zz w w6):=(zB.ag (zZ.ai (Dl zB.size))).ag (b6.ai (Zx));have K:eh (O.take (eh O)++[x]++O.drop (eh O))=eh O+1+0:=Ym;have HN:Hid (eo w6 w.1.size 9 1 (Yz k6 (eh (O.take (eh O)++[x]++O.drop (eh O))) C) (eh (O.take (eh O)++[x]++O.drop (eh O))) ((O.take (eh O)++[x]++O.drop (eh O)).map string)):=(by rw[K];exact zK);have zU:=Yw K;clear zK zH T L t S K zO zN zE b5 b6 H;go_wp2;refine⟨⟨k+1,k6,C,Yv,Yn,by rw[v.o,zU.o],?_,HF⟩,Ys⟩;rw[v.o];exact HN.o
 have HY:Hid (O[j]?=an O[j]):=Zv hjl;have cy:=zY j _ HY;generalize O[j]=y at *
 have d1:bx ((j:Int)<(eh O:Int))=bg:=Yt
 cases hb:NP y x with
 |true=>
  have yP:Op.bytesLess y.toList x.toList=bg:=hb;have yK:Hid (∀i z,i<j+1->O[i]?=an z->NP z x=bg):=by
   intro i z J hz;rcases Cg i j with h|h
   .exact HJ i z h hz
   obtain rfl:i=j:=Yv;rw[HY.o]at hz;cases hz;exact hb
  clear hb;go_upto_region 6 with fail;go_quiet (fail);go_wp2;exact⟨⟨j+1,Yv,Yn,⟨_,rfl⟩,yK⟩,Ys⟩
 |false=>
  have yP:Op.bytesLess y.toList x.toList=bq:=hb;have zS:Hid (∀z,O[j]?=an z->NP z x=bq):=by intro z hz;rw[HY.o]at hz;cases hz;exact hb
  clear hb;go_upto_region 6 with fail;go_quiet (fail);by_cases hyx:y=x
  .have v:Hid (Cy (f.take (k+1))=O):=(by show _=_;rw[HS.o];unfold GZ;rw[MZ HJ.o zS.o hj,if_pos (by rw[HY.o,hyx])]);subst hyx;go_upto_region 8 with fail;go_quiet (fail);go_wp2;refine⟨⟨k+1,g,c,Yv,Yn,by rw[v.o],?_,?_⟩,Ys⟩
   .rw[v.o];exact HO.kept (Af ba (Bx Ae _)) (Classical.em _)
   exact Bx Z _
  have zV:Hid (¬O[j]?=an x):=by show ¬_;rw[HY.o];intro e;cases e;exact hyx rfl
  have e1:(y.toList==x.toList)=bq:=by rw[beq_eq_false_iff_ne];intro h;rw[ByteArray.toList_eq,ByteArray.toList_eq]at h;exact hyx (ByteArray.ext (Array.toList_inj.1 h))
  clear hyx;go_upto_region 8 with fail;go_quiet (fail);go_upto_region 9 with fail;have HP:Hid (GY O x=j):=MZ HJ zS hj;have v:Hid (Cy (f.take (k+1))=O.take j++[x]++O.drop j):=by show _=_;rw[HS.o];unfold GZ;rw[HP.o,if_neg zV.o]
  generalize hW:(((wr.drewN _).drewN _).drewN _)=W;have o:Hid (Zz wr W):=by rw[<-hW];exact Bx (Bx (Bx Ae _) _) _
  have zB:Hid (Zz w W):=Z.ag (o.ai Z.size);have zX:Hid (eo W w.1.size 9 1 (Yz g (eh O) c) (eh O) (O.map string)):=HO.kept (Af ba o) (Classical.em _);have yS:wr.1.size<=W.1.size:=o.size;have zJ:g<W.1.size:=Yv;have yB:I<W.1.size:=Yv;have zF:ek W (Zd I (oa+k))=an (C4 x):=(o.cell (p:=⟨I,oa+k,ba⟩) zP).ag cx;have zC:Hid (∀i y,O[i]?=an y->ek W (Zd g i)=an (C4 y)):=λi y B=>(o.cell (p:=⟨g,i,ba⟩) yJ).ag (zY i y B);have Q:Hid (eh O<=c):=by
   rcases zX.2 with⟨hv,_⟩|⟨_,_,_,hv,_,_,D,_⟩
   .cases hv
   cases hv;exact D
  have D:eh O<=c:=Q.o;have yU:¬c=j:=Yv
  clear hW cx;go_wp2_with (first
   |(at_builtin;refine wpList_append_own_at _ rfl _ _ 23 rfl w.1.size 9 i0 Zc 1 16 underlying23 J M N P rfl Yq _ 0 [] rfl ?d0 ⟨g,0,ba⟩ j c ((O.take j).map string) rfl ?dl ?d1 ?d2 ?d3 ?d4 ?d5 ?_))
  case d0=>exact ownsRow_lit W #[] 0 Yv Yo rfl
  case dl=>first|(simp;done)|(simp;omega)
  case d1=>
   intro i u r;rw[getElem?_map]at r;cases d:(O.take j)[i]? with
   |none=>rw[d]at r;cases r
   |some y=>
    rw[d]at r;cases r;have B:O[i]?=an y:=by
     rw[getElem?_take]at d;split at d
     .exact d
     cases d
    have:=zC i y B;rw[A7,Ay];exact(((Below.refl W.1.size W).alloc (Zx) _).cell (p:=⟨g,i,ba⟩) zJ).ag this
  case d2=>intro u r;obtain⟨s,_,rfl⟩:=mem_map.1 r;rfl
  case d3=>unfold ew;omega
  case d4=>omega
  case d5=>simp;omega
  intro v' V b m E zG;have⟨l,G,yD⟩:∃l G,v'=Yz l j G:=by
   rcases Joins.ownsRow_forms b with⟨e1,_⟩|hf
   .exact(E e1).elim
   exact hf
  subst yD;try simp only[Ay,nil_append]at b
  have q:bs W.1.size W V:=((Below.refl W.1.size W).alloc (Zx) _).grown m Yu (λi J=>by simp[ownBlock]at J;omega);have yR:W.1.size<=V.1.size:=q.size;have yN:ek V (Zd I (oa+k))=an (C4 x):=(q.cell (p:=⟨I,oa+k,ba⟩) yB).ag zF;have yI:Hid (∀i y,O[i]?=an y->ek V (Zd g i)=an (C4 y)):=λi y B=>(q.cell (p:=⟨g,i,ba⟩) zJ).ag (zC i y B);have zZ:=Yw q;have zM:eo V w.1.size 9 1 (Yz l j G) j ((O.take j).map string):=by
   first|exact b|(rw[map_take];exact b)|(rw[take_length];exact b)
  have zW:=Yw zM;clear zM;have zI:=b.lt l rfl;have zT:=Yw zG;clear b m E q zF zG;try simp only[Ay]
  go_upto_region 10 with fail;have H:bs V.1.size V (V.alloc (ca #[C4 x] 9)):=Zy;have zO:eo (V.alloc (ca #[C4 x] 9)).drew w.1.size 9 1 (Yz l j G) j ((O.take j).map string):=zW.kept (Af ba H.drew) (Classical.em _);have zN:∀A,(an ⟨V.1.size,0,ba⟩:Zk)=an A->∀i s,[x][i]?=an s->ek (V.alloc (ca #[C4 x] 9)).drew (A.add i)=an (C4 s):=by
   intro A e i s d;injection e with e;subst e;cases i with
   |zero=>simp at d;subst d;simp[Addr.add]
   |succ i=>simp at d
  have yA:eh (O.drop j)=eh O -j:=Yu;have yO:eh (O.take j)=j:=Ym;have yE:w.1.size<=V.1.size:=Yv;have F:w.1.size<=(V.alloc (ca #[C4 x] 9)).drew.1.size:=Yt;have U:w.1.size<=l:=zI.1;have yQ:g<l:=by rcases zT.o with h|h<;>simp[ownBlock]at h<;>omega
  have yF:l<V.1.size:=zI.2;have zE:∀n:Zh,ep (V.alloc (ca #[C4 x] 9)).drew n (an l)->∀A,(an ⟨g,j,ba⟩:Zk)=an A->∀i s,(O.drop j)[i]?=an s->ek n (A.add i)=an (C4 s):=by intro n t A e i s d;injection e with e;subst e;rw[getElem?_drop]at d;have hc:=yI _ _ d;rw[A7];refine(t.cell_far ⟨g,j+i,ba⟩ Yt (λe=>by have:=A8 e;simp at this;omega)).ag ?_;exact(H.drew.cell (p:=⟨g,j+i,ba⟩) Yt).ag hc
  go_region_law (first
   |(refine Az (V.alloc (ca #[C4 x] 9)).drew rfl (.tmp 51) (.tmp 56) 23 rfl w.1.size 9 i0 Zc 16 underlying23 J M N P rfl l j G (O.take j) rfl zO (an ⟨V.1.size,0,ba⟩) 1 1 [x] rfl rfl (λe=>by cases e) zN Yo Yv Yt ?_;intro k5 R n L t S X;have z5:w.1.size<=n.1.size:=Zm F t.size;have Y:=X)
   |(have zA:=Y;refine Az n rfl (.tmp 57) (.tmp 60) 23 rfl w.1.size 9 i0 Zc 16 underlying23 J M N P rfl k5 (j+1) R (O.take j++[x]) rfl L (an ⟨g,j,ba⟩) (eh O -j) (c -j) (O.drop j) rfl yA (λe=>by cases e) (zE n t) Yo Yv z5 ?_;intro k6 C w6 zK zH T yG))
  all_goals
   have yC:w.1.size<=k5:=(L.lt k5 rfl).1;have b5:bs w.1.size V n:=(H.drew.ai yE).grown t F (λi e=>by cases e;exact U);have b6:bs w.1.size V w6:=b5.grown zH z5 (λi e=>by cases e;exact yC);have HF:Hid (Zz w w6):=(zB.ag (zZ.ai (Dl zB.size))).ag (b6.ai (Zx));have K:eh (O.take j++[x]++O.drop j)=j+1+(eh O -j):=Ym;have HN:Hid (eo w6 w.1.size 9 1 (Yz k6 (eh (O.take j++[x]++O.drop j)) C) (eh (O.take j++[x]++O.drop j)) ((O.take j++[x]++O.drop j).map string)):=(by rw[K];exact zK);have zU:=Yw K;clear zK zH T L t S K zO zN zE b5 b6 H;go_wp2;refine⟨⟨k+1,k6,C,Yv,Yn,by rw[v.o,zU.o],?_,HF⟩,Ys⟩;rw[v.o];exact HN.o
def Ju(wd:Int)(k:Kd):Int:=1+eh k.D *wd+k.i.size
def Ey(wd:Int)(ks:List Kd):Int:=(ks.map (Ju wd)).sum
theorem Ml{a:C9}{x:Kd}(b:a[k]?=an x):Ey wd (a.take (k+1))=Ey wd (a.take k)+Ju wd x:=by unfold Ey;rw[UL b,map_append,sum_append];simp
theorem PE{x:Kd}(h:AL x.i x.D wd=bg):1<=Ju wd x/\Ju wd x<=2241/\0<=(eh x.D:Int) *wd/\(eh x.D:Int) *wd<=240:=by have h:=BC h;have b:=h.lo;have a:=h.hi;have c:=h.D;have d:=h.i;have e:0<=(eh x.D:Int) *wd:=Int.mul_nonneg Yv Yv;have f:(eh x.D:Int) *wd<=30 *8:=Int.mul_le_mul Yv a Yv Yv;unfold Ju;omega
theorem PF{a:C9}(h:∀(i:Nat) k,a[i]?=an k->AL k.i k.D wd=bg):∀k,k<=eh a->0<=Ey wd (a.take k)/\Ey wd (a.take k)<=2241 *k
 |0,_=>by simp[Ey]
 |k+1,hk=>by have c:=PF h k Yv;have b:a[k]?=an (a[k]'(by omega)):=gA;have:=PE (h k _ b);rw[Ml b];omega
theorem SQ(wd g f c:Int)(o:Nat)(P L:D4){d:C9}(h:Br w w.1.size a d)(I:eh d<=600)(j:∀(i:Nat) k,d[i]?=an k->AL k.i k.D wd=bg):
 D8 176 #[ct #[Zg wd,Zg g,Zg f,Zg c,C3 a (eh d) o,P,L]] w λe l=>e=C5 (Zg (Ey wd d))/\Zz w l:=by
 have p:bs w.1.size w (w.alloc (ca #[Zg wd,Zg g,Zg f,Zg c,C2 a d o,P,L] 30)):=gB;delta D8;go_in;go_wp2;go_loopw [3,4] (λn i wr=>∃(k m:Nat),k<=eh d/\i=Zg k/\n=Zg (Ey wd (d.take k))/\wr=(w.alloc (ca #[Zg wd,Zg g,Zg f,Zg c,C2 a d o,P,L] 30)).drewN m) (λ_ i _=>eh d -(intOf i).toNat)
 case atStart=>exact⟨0,0,Aq _,rfl,by simp[Ey],rfl⟩
 obtain⟨k,m,z,rfl,rfl,rfl⟩:=hrel;by_cases hlt:k<eh d
 .obtain⟨b,A,v,H,y⟩:=h.at hlt;subst v;have l:Hid (d[k]?=an d[k]):=gH;obtain⟨⟨D,E,F,M,N,G,_⟩,q,r,s⟩:=y k _ l,PE (j k _ l),PF j k z,Yw (Ml (wd:=wd) l);obtain⟨t,u,B,C⟩:=q;obtain⟨J,K⟩:=r;generalize d[k]=x at *
  unfold Ju at t u;generalize hRK:Ey wd (d.take k)=R at *
  go_wp2;go_quiet (fail);go_wp2;refine⟨⟨k+1,_,Yv,Yn,?_,rfl⟩,Ys⟩;rw[s.o];unfold Ju;congr 1;omega
 go_wp2;go_ret;exact⟨Sb (by rw[Zt Yv]),Bx p _⟩
open Classical in
theorem JQ{b:Zk}(c d:Nat)(p:Ab w w.1.size a f)(o:Ab w w.1.size b h)(J:eh f<=1048576)(G:eh h<=1048576):
 D8 33 #[ct #[C3 a (eh f) c,C3 b (eh h) d]] w λe i=>∃x k y l,e=C5 (ct #[C3 x (eh f) k,C3 y (eh h) l])/\
  eo i w.1.size 9 1 (C3 x (eh f) k) (eh f) (f.map string)/\eo i w.1.size 9 1 (C3 y (eh h) l) (eh h) (h.map string)/\(∀g,ej (C3 x (eh f) k)=an g->ej (C3 y (eh h) l)≠an g)/\Zz w i:=by
 have⟨W,i⟩:=Ag ((w.alloc (ca #[C2 a f c,C2 b h d] 25)).alloc (ca #[Zb,Zb] 25));have j:=(AQ i).1;have q:=(AQ i).2.2.1;have r:Aa W (w.1.size+1) [Zb,Zb]:=by have s:=Aa.new (w.alloc (ca #[C2 a f c,C2 b h d] 25)) [Zb,Zb] 25;rw[Ao]at s;rw[i];exact s
 have K:=(AQ i).2.1;have m:=Yw i;have t:Hid (Aa W _ _):=(AQ i).2.2.1;have n:Hid (Aa W (w.1.size+1) [Zb,Zb]):=r;have E:Hid (Ab w w.1.size a f):=p;have D:Hid (Ab w w.1.size b h):=o;obtain⟨H,I⟩:=Aa.c2 q 0 1;clear i q r p o;delta D8;go_in;go_upto_region 1 with fail;rw[<-m.o];clear m;go_region_with (first
  |(go_at_call 58;refine(EL c (Ab.X (w:=w) E j.drew) J).ai ?_;rintro e F ⟨x,k,rfl,p,u⟩;have i:bs W.1.size W F:=(Below.refl W.1.size W).drew.ag u;obtain⟨b1,_⟩:=Aa.A t i 1 _ rfl)
  |(go_at_call 58;refine(EL d (Ab.X (w:=w) D (j.ag (i.ai j.size))) G).ai ?_;rintro e C ⟨y,l,rfl,q,o⟩;have m:bs W.1.size W C:=i.ag (o.ai i.size);obtain⟨d0,e0⟩:=Aa.A n m 0 _ rfl;obtain⟨d1,e1⟩:=Aa.A n m 1 _ rfl))
 all_goals
  have z:eo C (w.1.size+2) 9 1 (C2 x f k) (eh f) (f.map string):=(Jg p o).ai Yt;have A:eo C (w.1.size+2) 9 1 (C2 y h l) (eh h) (h.map string):=q.ai (Dl i.size);have B:∀g,ej (C2 x f k)=an g->ej (C2 y h l)≠an g:=λg s r=>by have L:=(Ac p s).2;have M:=(Ac q r).1;omega
  have r:=Yw (Zn z (Zn A (Zn B (j.ag (m.ai j.size)))));clear z A p q u o i m t n E D H I j B;go_wp2;refine C1 (ct #[C2 x f k,C2 y h l]) (by simp[results,results33,go_sem,d0,d1]) ⟨x,k,y,l,rfl,?_,?_,r.2.2.1,?_⟩
  .refine ownsRow.ai ?_ (show w.1.size<=w.1.size+2 by omega)
   iterate 2 (refine ownsRow_setCell_below ?_ Ym _)
   exact r.1
  .refine ownsRow.ai ?_ (show w.1.size<=w.1.size+2 by omega)
   iterate 2 (refine ownsRow_setCell_below ?_ Ym _)
   exact r.2.1
  iterate 2 (refine Below.setCell ?_ Yu _)
  exact r.2.2.2
theorem SR{b:Zk}(c d:Nat){g:Zl}(m:Ab w w.1.size a f)(l:Ab w w.1.size b g)(N:eh f<=100000)(H:eh g<=1048576):
 D8 120 #[C3 a (eh f) c,C3 b (eh g) d] w λe j=>Av (f=g) w j e:=by
 have p:Hid (∀X,Zz w X->Ab X w.1.size a f/\Ab X w.1.size b g):=λX j=>⟨m.A j,l.A j⟩;clear m l;by_cases hlen:eh f=eh g
 case neg=>
  have v:((eh f:Int)==(eh g:Int))=bq:=Yt;have C:((eh f:Int) !=(eh g:Int))=bg:=Yt;delta D8;go_in;go_wp2;go_ret;exact Av.no (λh=>hlen N0) Ae
 have v:((eh f:Int) !=(eh g:Int))=bq:=Yt;have n:=Yw hlen;clear hlen;delta D8;go_in;go_wp2;go_loopw [13] (λi wr=>∃k:Nat,k<=eh f/\i=Zg k/\Hid (f.take k=g.take k/\Zz w wr)) (λi _=>eh f -(intOf i).toNat)
 case atStart=>exact⟨0,Aq _,rfl,⟨Yu,Ae⟩⟩
 obtain⟨k,M,rfl,l⟩:=hrel;by_cases hlt:k<eh f
 case neg=>
  obtain rfl:k=eh f:=Yv;have m:=l.1;rw[Zt (Zx),Zt (Dl n.o)]at m;go_wp2;go_ret;exact Av.yes m l.2
 have j:k<eh g:=gG;obtain⟨⟨Q,R,E,A,o⟩,O,P,F,z,m⟩:=(p wr l.2).1.at hlt,(p wr l.2).2.at j;subst E F;obtain⟨K,L,r⟩:=o k _ (Zv hlt),m k _ (Zv j),l.2.size;obtain⟨J,I,t,u⟩:=Zr A r,Zr z r,Yw (Zu hlt),Yw (Zu j);have HN:Hid (∀x y,f[k]?=an x->g[k]?=an y->x≠y->f≠g):=λx y B q s e=>by subst e;rw[B]at q;exact s (A8 q)
 have q:=Yw (Zv hlt);have s:=Yw (Zv j);have G:(k:Int)<eh g:=Yv;clear o m;generalize f[k]=x at *
 generalize g[k]=y at *
 have o:=Yw l.2;by_cases hxy:x=y
 .subst hxy;have B:(x.toList !=x.toList)=bq:=Yu;go_wp2
  go_region
  all_goals go_wp2
  all_goals exact⟨⟨k+1,Yv,Yn,⟨by rw[t.o,u.o,l.1],o.drew⟩⟩,Ys⟩
 have B:=BJ hxy;have D:(x.toList !=y.toList)=bg:=gA;go_wp2
 go_region
 all_goals go_wp2
 all_goals go_ret
 all_goals exact Av.no (λh=>HN x y q s hxy h) o.drew
theorem Kd.eq_iff(x y:Kd):x=y↔x.sum=y.sum/\x.born=y.born/\x.i=y.i/\x.D=y.D:=by cases x;cases y;simp
theorem PG(x y:Kd){b:Zk}(c d:Nat)(l:Ab w w.1.size a x.D)(k:Ab w w.1.size b y.D)(z:eh x.D<=100000)(o:eh y.D<=1048576):
 D8 86 #[ct #[C4 x.sum,Zg x.born,C4 x.i,C3 a (eh x.D) c],ct #[C4 y.sum,Zg y.born,C4 y.i,C3 b (eh y.D) d]] w λe f=>Av (x=y) w f e:=by
 have⟨W,j⟩:=Ag ((w.alloc (ca #[C4 x.sum,Zg x.born,C4 x.i,C2 a x.D c] 78)).alloc (ca #[C4 y.sum,Zg y.born,C4 y.i,C2 b y.D d] 78));have f:=(AQ j).1;have m:=(AQ j).2.2.1;have n:Aa W (w.1.size+1) [C4 y.sum,Zg y.born,C4 y.i,C2 b y.D d]:=by have g:=Aa.new (w.alloc (ca #[C4 x.sum,Zg x.born,C4 x.i,C2 a x.D c] 78)) [C4 y.sum,Zg y.born,C4 y.i,C2 b y.D d] 78;rw[Ao]at g;rw[j];exact g
 have q:=Yw (SR c d (l.X f) (k.X f) z o);obtain⟨A,B,C,D⟩:=Aa.c4 m 0 1 2 3;obtain⟨⟨v0,E,F,G⟩,i,p⟩:=Aa.c4 n 0 1 2 3,Yw j,Yw (Kd.eq_iff x y);clear j l k m n;by_cases g:x.sum=y.sum
 .have s:(x.sum.toList==y.sum.toList)=bg:=gA;have l:=Yw g;clear g;by_cases h2:x.born=y.born
  .have t:(x.born==y.born)=bg:=Yt;have m:=Yw h2;clear h2;by_cases h3:x.i=y.i
   .have u:(x.i.toList==y.i.toList)=bg:=gA;have n:=Yw h3;clear h3;delta D8;go_in;go_upto_region 1 with fail;rw[<-i.o];clear i;go_wp2_with fail;refine q.Aj ?_;rintro e H ⟨r,rfl,k,j⟩;have v:=f.ag (j.ai f.size);clear A B C D v0 E F G;go_wp2;go_ret;exact⟨r,rfl,by rw[k,p.o];exact⟨λh=>⟨l,m,n,h⟩,λh=>h.2.2.2⟩,v⟩
   have u:=BJ h3;delta D8;go_in;go_upto_region 1 with fail;rw[<-i.o];go_wp2_with fail
   all_goals (try go_wp2)
   all_goals (try go_ret)
   all_goals exact Av.no (λh=>h3 N0) f
  have t:(x.born==y.born)=bq:=Yt;delta D8;go_in;go_upto_region 1 with fail;rw[<-i.o];go_wp2_with fail
  all_goals (try go_wp2)
  all_goals (try go_ret)
  all_goals exact Av.no (λh=>h2 N0) f
 have s:=BJ g;delta D8;go_in;go_upto_region 1 with fail;rw[<-i.o];go_wp2_with fail
 all_goals (try go_wp2)
 all_goals (try go_ret)
 all_goals exact Av.no (λh=>g N0) f
theorem Om{b:Zk}(c d:Nat){f g:C9}(m:Br w w.1.size a f)(l:Br w w.1.size b g)(hl:eh f<=100000)(zB:eh g<=1048576)(n:∀k∈f,eh k.D<=100000)(t:∀k∈g,eh k.D<=1048576):
 D8 85 #[C3 a (eh f) c,C3 b (eh g) d,.func (.func 86) #[] #[]] w λe j=>Av (f=g) w j e:=by
 have C:Hid (∀X,Zz w X->Br X w.1.size a f/\Br X w.1.size b g):=λX j=>⟨m.A j,l.A j⟩;clear m l;by_cases hlen:eh f=eh g
 case neg=>
  have K:((eh f:Int)==(eh g:Int))=bq:=Yt;have D:((eh f:Int) !=(eh g:Int))=bg:=Yt;delta D8;go_in;go_wp2;go_ret;exact Av.no (λh=>hlen N0) Ae
 have K:((eh f:Int) !=(eh g:Int))=bq:=Yt;have u:=Yw hlen;clear hlen;delta D8;go_in;go_wp2;go_loopw [17] (λi wr=>∃k:Nat,k<=eh f/\i=Zg k/\Hid (f.take k=g.take k/\Zz w wr)) (λi _=>eh f -(intOf i).toNat)
 case atStart=>exact⟨0,Aq _,rfl,⟨Yu,Ae⟩⟩
 obtain⟨k,hk,rfl,l⟩:=hrel;by_cases hlt:k<eh f
 .have j:k<eh g:=gG;obtain⟨⟨rb,ro,Z,M,s⟩,qb,qo,i,L,q⟩:=(C wr l.2).1.at hlt,(C wr l.2).2.at j;subst Z i;obtain⟨⟨P,Q,R,z,A,S,v⟩,⟨T,V,W,o,p,Y,m⟩,r⟩:=s k _ (Zv hlt),q k _ (Zv j),l.2.size;obtain⟨zE,zC,I,J⟩:=Zr M r,Zr L r,Yw (Zu hlt),Yw (Zu j);have HN:Hid (∀x y,f[k]?=an x->g[k]?=an y->x≠y->f≠g):=λx y n t B e=>by subst e;rw[n]at t;exact B (A8 t)
  obtain⟨G,H,N,O⟩:=Yw (Zv hlt),Yw (Zv j),n _ (getElem_mem hlt),t _ (getElem_mem j);have zA:(k:Int)<eh g:=Yv;clear s q;generalize f[k]=x at *
  generalize g[k]=y at *
  have⟨U,q⟩:=Ag ((wr.alloc (ca #[C4 x.sum,Zg x.born,C4 x.i,C2 z x.D A] 78)).alloc (ca #[C4 y.sum,Zg y.born,C4 y.i,C2 o y.D p] 78));have s:=(AQ q).1;have B:=Yw (l.2.ag (s.ai r));have E:=(AQ q).2.2.1;have F:Aa U (wr.1.size+1) [C4 y.sum,Zg y.born,C4 y.i,C2 o y.D p]:=by have n:=Aa.new (wr.alloc (ca #[C4 x.sum,Zg x.born,C4 x.i,C2 z x.D A] 78)) [C4 y.sum,Zg y.born,C4 y.i,C2 o y.D p] 78;rw[Ao]at n;rw[q];exact n
  have D:=Yw (PG x y A p (Ab.X (Ab.ai v r) s) (Ab.X (Ab.ai m r) s) N O);obtain⟨h,X,m2,m3⟩:=Aa.c4 E 0 1 2 3;obtain⟨n0,n1,n2,n3⟩:=Aa.c4 F 0 1 2 3;have HU:=Yw q;clear q E F v m s;go_upto_region 7 with fail;rw[<-HU.o];clear HU P Q R S T V W Y;go_wp2_with fail;refine D.Aj ?_;rintro e E ⟨q,rfl,v,m⟩;have s:=Yw (B.ag (m.ai B.size));clear h X m2 m3 n0 n1 n2 n3 D m
  cases q with
  |true=>have q:=v.1 rfl;go_wp2;exact⟨⟨k+1,Yv,Yn,⟨by rw[I.o,J.o,l.1,q],s⟩⟩,Ys⟩
  |false=>have q:x≠y:=gA;go_wp2;go_ret;exact Av.no (λh=>HN x y G H q h) s
 obtain rfl:k=eh f:=Yv;have m:=l.1;rw[Zt (Zx),Zt (Dl u.o)]at m;go_wp2;go_ret;exact Av.yes m l.2
theorem SV{b:Zk}(c d:Nat){f g:Db}(m:AS w w.1.size a f)(l:AS w w.1.size b g)(Q:eh f<=100000)(H:eh g<=1048576):
 D8 87 #[C3 a (eh f) c,C3 b (eh g) d] w λe j=>Av (f=g) w j e:=by
 have s:Hid (∀X,Zz w X->AS X w.1.size a f/\AS X w.1.size b g):=λX j=>⟨m.A j,l.A j⟩;clear m l;by_cases hlen:eh f=eh g
 case neg=>
  have z:((eh f:Int)==(eh g:Int))=bq:=Yt;have D:((eh f:Int) !=(eh g:Int))=bg:=Yt;delta D8;go_in;go_wp2;go_ret;exact Av.no (λh=>hlen N0) Ae
 have z:((eh f:Int) !=(eh g:Int))=bq:=Yt;have n:=Yw hlen;clear hlen;delta D8;go_in;go_wp2;go_loopw [13] (λi wr=>∃k:Nat,k<=eh f/\i=Zg k/\Hid (f.take k=g.take k/\Zz w wr)) (λi _=>eh f -(intOf i).toNat)
 case atStart=>exact⟨0,Aq _,rfl,⟨Yu,Ae⟩⟩
 obtain⟨k,P,rfl,l⟩:=hrel;by_cases hlt:k<eh f
 case neg=>
  obtain rfl:k=eh f:=Yv;have m:=l.1;rw[Zt (Zx),Zt (Dl n.o)]at m;go_wp2;go_ret;exact Av.yes m l.2
 have j:k<eh g:=gG;obtain⟨⟨U,V,E,C,q⟩,S,T,F,B,m⟩:=(s wr l.2).1.at hlt,(s wr l.2).2.at j;subst E F;obtain⟨⟨K,L⟩,⟨M,N⟩,t⟩:=q k _ (Zv hlt),m k _ (Zv j),l.2.size;obtain⟨J,I,u,v⟩:=Zr C t,Zr B t,Yw (Zu hlt),Yw (Zu j);have HN:Hid (∀x y,f[k]?=an x->g[k]?=an y->x≠y->f≠g):=λx y r o p e=>by subst e;rw[r]at o;exact p (A8 o)
 have o:=Yw (Zv hlt);have p:=Yw (Zv j);have G:(k:Int)<eh g:=Yv;clear q m;generalize f[k]=x at *
 generalize g[k]=y at *
 have q:=Yw l.2;by_cases hxy:x=y
 .subst hxy;go_wp2
  go_region
  all_goals go_wp2
  all_goals exact⟨⟨k+1,Yv,Yn,⟨by rw[u.o,v.o,l.1],q.drew⟩⟩,Ys⟩
 by_cases hn:x.name=y.name
 .have R:¬x.sum.toList=y.sum.toList:=λe=>hxy (by
   have O:=Gr e;cases x;cases y;simp_all)
  have A:x.name.toList=y.name.toList:=gA;have r:=Yw hxy;clear hn hxy;go_wp2
  go_region
  all_goals go_wp2
  all_goals go_ret
  all_goals exact Av.no (λh=>HN x y o p r h) q.drew
 have A:¬x.name.toList=y.name.toList:=λe=>hn (Gr e);have r:=Yw hxy;clear hn hxy;go_wp2
 go_region
 all_goals go_wp2
 all_goals go_ret
 all_goals exact Av.no (λh=>HN x y o p r h) q.drew
theorem SW{b:Zk}(c d:Nat){f g:Da}(m:AR w w.1.size a f)(l:AR w w.1.size b g)(R:eh f<=100000)(H:eh g<=1048576):
 D8 88 #[C3 a (eh f) c,C3 b (eh g) d] w λe j=>Av (f=g) w j e:=by
 have s:Hid (∀X,Zz w X->AR X w.1.size a f/\AR X w.1.size b g):=λX j=>⟨m.A j,l.A j⟩;clear m l;by_cases hlen:eh f=eh g
 case neg=>
  have z:((eh f:Int)==(eh g:Int))=bq:=Yt;have D:((eh f:Int) !=(eh g:Int))=bg:=Yt;delta D8;go_in;go_wp2;go_ret;exact Av.no (λh=>hlen N0) Ae
 have z:((eh f:Int) !=(eh g:Int))=bq:=Yt;have q:=Yw hlen;clear hlen;delta D8;go_in;go_wp2;go_loopw [13] (λi wr=>∃k:Nat,k<=eh f/\i=Zg k/\Hid (f.take k=g.take k/\Zz w wr)) (λi _=>eh f -(intOf i).toNat)
 case atStart=>exact⟨0,Aq _,rfl,⟨Yu,Ae⟩⟩
 obtain⟨k,Q,rfl,l⟩:=hrel;by_cases hlt:k<eh f
 case neg=>
  obtain rfl:k=eh f:=Yv;have m:=l.1;rw[Zt (Zx),Zt (Dl q.o)]at m;go_wp2;go_ret;exact Av.yes m l.2
 have j:k<eh g:=gG;obtain⟨⟨V,W,E,B,p⟩,T,U,F,A,m⟩:=(s wr l.2).1.at hlt,(s wr l.2).2.at j;subst E F;obtain⟨⟨K,L,M⟩,⟨N,O,P⟩,t⟩:=p k _ (Zv hlt),m k _ (Zv j),l.2.size;obtain⟨J,I,u,v⟩:=Zr B t,Zr A t,Yw (Zu hlt),Yw (Zu j);have HN:Hid (∀x y,f[k]?=an x->g[k]?=an y->x≠y->f≠g):=λx y r n o e=>by subst e;rw[r]at n;exact o (A8 n)
 have n:=Yw (Zv hlt);have o:=Yw (Zv j);have G:(k:Int)<eh g:=Yv;clear p m;generalize f[k]=x at *
 generalize g[k]=y at *
 have p:=Yw l.2;by_cases hxy:x=y
 .subst hxy;go_wp2
  go_region
  all_goals go_wp2
  all_goals exact⟨⟨k+1,Yv,Yn,⟨by rw[u.o,v.o,l.1],p.drew⟩⟩,Ys⟩
 have r:=Yw hxy;by_cases hn:x.R=y.R
 .by_cases hs:x.sum=y.sum
  .have S:¬x.bj=y.bj:=λe=>hxy (by
    cases x;cases y;simp_all)
   have C:x.sum.toList=y.sum.toList:=gA;clear hs hxy;go_wp2
   go_region
   all_goals go_wp2
   all_goals go_ret
   all_goals exact Av.no (λh=>HN x y n o r h) p.drew
  have C:¬x.sum.toList=y.sum.toList:=λe=>hs (Gr e);clear hs hxy;go_wp2
  go_region
  all_goals go_wp2
  all_goals go_ret
  all_goals exact Av.no (λh=>HN x y n o r h) p.drew
 clear hxy;go_wp2
 go_region
 all_goals go_wp2
 all_goals go_ret
 all_goals exact Av.no (λh=>HN x y n o r h) p.drew
theorem On(E t f d r j c b:Int)(a p l F D C:Zk)(I H G B x v:Nat)(z n:C9)(u m:Db)(A o:Da)(w:Zh)(h:Bo w w.1.size a p l z u A)(Z:Bo w w.1.size F D C n m o)(hl:eh z<=100000/\eh u<=100000/\eh A<=100000)(zA:eh n<=1048576/\eh m<=1048576/\eh o<=1048576)(h1:∀k∈z,eh k.D<=100000)(h2:∀k∈n,eh k.D<=1048576):
 D8 49 #[ct (Yg E t f d a (eh z) I p (eh u) H l (eh A) G),ct (Yg r j c b F (eh n) B D (eh m) x C (eh o) v)] w λe J=>Av ((E=r/\t=j/\f=c/\d=b)/\z=n/\u=m/\A=o) w J e:=by
 have⟨W,s⟩:=Ag ((w.alloc (ca (C8 E t f d a z I p u H l A G) 30)).alloc (ca (C8 r j c b F n B D m x C o v) 30));have q:=(AQ s).1;have g:=(AQ s).2.2.1;have i:Aa W (w.1.size+1) (C7 r j c b F n B D m x C o v):=by have h1:=Aa.new (w.alloc (ca (C8 E t f d a z I p u H l A G) 30)) (C7 r j c b F n B D m x C o v) 30;rw[Ao]at h1;rw[s];exact h1
 have HX:Hid (∀X,Zz W X->Aa X w.1.size (C7 E t f d a z I p u H l A G)/\Aa X (w.1.size+1) (C7 r j c b F n B D m x C o v)/\Zz w X):=gD;have HK:=Yw (Om I B (h.X q).k (Z.X q).k hl.1 zA.1 h1 h2);have HP:Hid (∀X,Zz W X->D8 87 #[C2 p u H,C2 D m x] X λe J=>Av (u=m) X J e):=λX y=>SV H x (h.X (q.ag (y.ai q.size))).p (Z.X (q.ag (y.ai q.size))).p hl.2.1 zA.2.1;have HL:Hid (∀X,Zz W X->D8 88 #[C2 l A G,C2 C o v] X λe J=>Av (A=o) X J e):=λX y=>SW G v (h.X (q.ag (y.ai q.size))).l (Z.X (q.ag (y.ai q.size))).l hl.2.2 zA.2.2;obtain⟨⟨K,_⟩,⟨v0,_⟩,⟨L,_⟩,⟨R,_⟩,⟨M,_⟩,⟨S,_⟩,N,_⟩:=g 0 _ rfl,i 0 _ rfl,g 1 _ rfl,i 1 _ rfl,g 2 _ rfl,i 2 _ rfl,g 3 _ rfl;obtain⟨⟨T,_⟩,⟨O,_⟩,⟨U,_⟩,⟨P,_⟩,⟨V,_⟩,⟨Q,_⟩,⟨Y,_⟩,y⟩:=i 3 _ rfl,g 4 _ rfl,i 4 _ rfl,g 5 _ rfl,i 5 _ rfl,g 6 _ rfl,i 6 _ rfl,Yw s;clear s h Z g i;by_cases e1:E=r
 case neg=>
  have b1:(E==r)=bq:=Yt;delta D8;go_in;go_upto_region 1 with fail;rw[<-y.o];clear y;go_wp2_with fail
  all_goals (try go_wp2)
  all_goals (try go_ret)
  all_goals exact Av.no gA q
 have b1:(E==r)=bg:=Yt;have E1:=Yw e1;clear e1;by_cases e2:t=j
 case neg=>
  have b2:(t==j)=bq:=Yt;delta D8;go_in;go_upto_region 1 with fail;rw[<-y.o];clear y;go_wp2_with fail
  all_goals (try go_wp2)
  all_goals (try go_ret)
  all_goals exact Av.no gA q
 have b2:(t==j)=bg:=Yt;have E2:=Yw e2;clear e2;by_cases e3:f=c
 case neg=>
  have b3:(f==c)=bq:=Yt;delta D8;go_in;go_upto_region 1 with fail;rw[<-y.o];clear y;go_wp2_with fail
  all_goals (try go_wp2)
  all_goals (try go_ret)
  all_goals exact Av.no gA q
 have b3:(f==c)=bg:=Yt;have E3:=Yw e3;clear e3;by_cases e4:d=b
 case neg=>
  have b4:(d==b)=bq:=Yt;delta D8;go_in;go_upto_region 1 with fail;rw[<-y.o];clear y;go_wp2_with fail
  all_goals (try go_wp2)
  all_goals (try go_ret)
  all_goals exact Av.no gA q
 have b4:(d==b)=bg:=Yt;have E4:=Yw e4;clear e4;delta D8;go_in;go_upto_region 1 with fail;rw[<-y.o];clear y;go_wp2_with fail;refine HK.Aj ?_;rintro e w1 ⟨J,rfl,s,zC⟩;have⟨g,i,zF⟩:=HX w1 zC;have Z:=Yw zC;clear K v0 L R M S N T O U P V Q Y;obtain⟨⟨K,_⟩,⟨v0,_⟩,⟨L,_⟩,⟨R,_⟩,⟨M,_⟩,S,_⟩:=g 0 _ rfl,i 0 _ rfl,g 1 _ rfl,i 1 _ rfl,g 2 _ rfl,i 2 _ rfl
 obtain⟨⟨N,_⟩,⟨T,_⟩,⟨O,_⟩,⟨U,_⟩,⟨P,_⟩,⟨V,_⟩,⟨Q,_⟩,Y,_⟩:=g 3 _ rfl,i 3 _ rfl,g 4 _ rfl,i 4 _ rfl,g 5 _ rfl,i 5 _ rfl,g 6 _ rfl,i 6 _ rfl;clear g i;cases J with
 |false=>
  have X:z≠n:=gA;go_wp2_with fail
  all_goals (try go_wp2)
  all_goals (try go_ret)
  all_goals exact Av.no (λh=>X h.2.1) zF
 |true=>
  have zE:=Yw (s.1 rfl);clear s;go_wp2_with fail;refine Calls.mono (HP w1 Z) ?_;rintro e w2 ⟨J,rfl,s,zG⟩;have zB:=Yw (Z.ag (zG.ai Z.size));have⟨g,i,k⟩:=HX w2 zB;clear K v0 L R M S N T O U P V Q Y;obtain⟨⟨K,_⟩,⟨v0,_⟩,⟨L,_⟩,⟨R,_⟩,⟨M,_⟩,⟨S,_⟩,N,_⟩:=g 0 _ rfl,i 0 _ rfl,g 1 _ rfl,i 1 _ rfl,g 2 _ rfl,i 2 _ rfl,g 3 _ rfl
  obtain⟨⟨T,_⟩,⟨O,_⟩,⟨U,_⟩,⟨P,_⟩,⟨V,_⟩,⟨Q,_⟩,Y,_⟩:=i 3 _ rfl,g 4 _ rfl,i 4 _ rfl,g 5 _ rfl,i 5 _ rfl,g 6 _ rfl,i 6 _ rfl;clear g i;cases J with
  |false=>
   have X:u≠m:=gA;go_wp2_with fail
   all_goals (try go_wp2)
   all_goals (try go_ret)
   all_goals exact Av.no (λh=>X h.2.2.1) k
  |true=>have g:=Yw (s.1 rfl);clear s;go_wp2_with fail;refine Calls.mono (HL w2 zB) ?_;rintro e w3 ⟨J,rfl,s,zH⟩;have i:=k.ag (zH.ai k.size);clear K v0 L R M S N T O U P V Q Y;go_wp2;go_ret;exact⟨J,rfl,⟨λh=>⟨⟨E1,E2,E3,E4⟩,zE,g,s.1 h⟩,λh=>s.2 h.2.2.2⟩,i⟩
section
open Go.RowKit
def Bz:Obj->Bool
 |ca _ t _=> !(t==9||t==122||t==81||t==83)
 |_=>bg
structure BF (B:Nat) (W W':Zh):Prop where
 size:W.1.size<=W'.1.size
 same:∀b o,B<=b->W.1[b]?=an o->Bz o=bg->W'.1[b]?=an o
theorem BF.refl(B:Nat)(W:Zh):BF B W W:=⟨Zx,λ_ _ _ h _=>h⟩
theorem BF.trans{X Y Z:Zh}(h:BF B X Y)(k:BF B Y Z):BF B X Z:=⟨Zm h.size k.size,λb o a d c=>k.same b o a (h.same b o a d c) c⟩
abbrev BF.ag:=@BF.trans
theorem BF.mono{a:Zh}(h:BF B W a)(c:B<=B'):BF B' W a:=⟨h.size,λb o d=>h.same b o Yv⟩
abbrev BF.ai:=@BF.mono
def Co(B:Nat)(J:Nat->Zh->Prop):Prop:=
 ∀k W W' row,J k W->ep W W' row->(∀r,row=an r->B<=r/\∃o,W.1[r]?=an o/\Bz o=bg)->J k W'
theorem Co.mono{J:Nat->Zh->Prop}(h:Co B J)(d:B<=B'):Co B' J:=
 λk W c b g f a=>h k W c b g f (λr e=>⟨Zm d (a r e).1,(a r e).2⟩)
abbrev Co.ai:=@Co.mono
theorem Co.putObj{J:Nat->Zh->Prop}(h:Co B J){l:Nat}{o:Obj}(a:Obj)(c:J k W)(b:B<=l)(d:W.1[l]?=an o)(f:Bz o=bg):J k (W.putObj l a):=
 h k W _ (an l) c (grownBy_putObj' W l a) (λr e=>by cases e;exact⟨b,o,d,f⟩)
theorem Co.alloc{J:Nat->Zh->Prop}(h:Co B J)(o:Obj)(b:J k W):J k (W.alloc o):=
 h k W _ ba b ⟨rfl,rfl,rfl,Yu,λi a _=>Below.heap_alloc W o i a⟩ (λr e=>by cases e)
def EQ(P:Program)(gf:Nat)(ar:Nat->Array Value)(xs:Zl)(n0:Nat)(w:Zh):Prop:=
 ∀(l:Nat) (J Jx:Nat->Zh->Prop) (W:Zh),Zz w W->Co W.1.size J->Co W.1.size Jx->
  (∀k W1 s,xs[k]?=an s->J k W1->W.1.size<=W1.1.size->∀m,YieldAt Fence.wide m P l #[.string s] W1 fun e W'=>
    BF W.1.size W1 W'/\((e=.returned (ef bg)/\J (k+1) W'/\bs n0 W1 W')\/(e=.returned (ef bq)/\Jx (k+1) W')))->
  J 0 W->∀m,CallsIn Fence.wide m P gf (ar l) W fun e W'=>(∃v,e=.returned v)/\(J (eh xs) W'\/∃k,Jx k W')
def Ack(n0 B:Nat)(I:Nat->Zh->Prop)(Ix:Nat->Zh->Prop)(k:Nat)(W:Zh):Exit->Act->Zh->Prop
 |.normal,_,W'=>BF B W W'/\I (k+1) W'/\bs n0 W W'
 |.ret,_,W'=>BF B W W'/\Ix (k+1) W'
 |_,_,_=>False
theorem Il{g:Operand}{X:Array Tmp}{assign body:Code}{Q:Exit->Act->Zh->Prop}{a:Act}{pre lb:Array Value}(hg:a.eval g=.func (.func gf) pre lb)(eg:∀args w,(callFunc gf args).run P w=.ok (.enter gf args) w)(Y:EQ P gf (λl=>pre++ #[.func (.yield l) #[] #[]]++lb) xs n0 w)(zK:n0<=w.1.size)(zM:X.size=1)(I T:Nat->Zh->Prop)(E:Co w.1.size I)(M:Co w.1.size T)(h0:I 0 w)(a1:Zi->Act)(y:∀(l m:Nat) (s:Zi) (W:Zh) (K:Act->Zh->Prop),K (a1 s) W->
   assign.wpIn (Fence.wide.inRound l) m P (Exit.then K (λ_ _ _=>False)) {tmps:=(X.zip #[C4 s]).foldl (λt (p,v)=>t.setIfInBounds p v) a.tmps,defers:=[]} W)(H:∀(l m k:Nat) (s:Zi) (W:Zh),xs[k]?=an s->I k W->w.1.size+2<=W.1.size->body.wpIn (Fence.wide.inRound l) m P (Ack n0 w.1.size I T k W) (a1 s) W)(J:∀(D:Nat) (W:Zh),w.1.size<=D->I (eh xs) W->W.1[D]?=an (.deferred (an []))->Q .normal {a with defers:={target:=.collected D,args:= #[]}::a.defers} W)(L:∀(D k:Nat) (W:Zh),w.1.size<=D->T k W->W.1[D]?=an (.deferred (an []))->Code.ret.wpIn Fence.wide n P Q {a with defers:={target:=.collected D,args:= #[]}::a.defers} W):
 (Code.rangeFunc g X assign body).wpIn Fence.wide n P Q a w:=by
 refine wpIn_rangeFunc ?_;intro fn zF;have⟨c,q⟩:∃c:LoopState->Option Code->Loop,c=λf d=>{state:=f,pending:=d,fn,tmps:=a.tmps,params:=X,assign,body,defers:=w.1.size}:=⟨_,rfl⟩;have⟨V,U⟩:=Ag ((w.alloc (.deferred (an []))).alloc (.loop (c .ready ba)));have zJ:V.1.size=w.1.size+2:=gB;have zE:V.1[w.1.size+1]?=an (.loop (c .ready ba)):=by have:=alloc_heap_new (w.alloc (.deferred (an []))) (.loop (c .ready ba));rw[Ao]at this;rw[U];exact this
 have zC:V.1[w.1.size]?=an (.deferred (an [])):=by rw[U];exact(Below.heap_alloc _ _ _ Yu).ag (alloc_heap_new w _)
 have zB:bs w.1.size w V:=gB;have zA:I 0 V:=by rw[U];exact E.alloc _ (E.alloc _ h0)
 refine⟨w.1.size+1,[{target:=.collected w.1.size,args:= #[]}],V,{target:=.fn (.func gf) lb,args:=pre++ #[.func (.yield (w.1.size+1)) #[] #[]]},V,gf,
  pre++ #[.func (.yield (w.1.size+1)) #[] #[]]++lb,V,?_,?_,λ_ _=>trivial,?_,λh=>by simp[Fence.wide]at h,?_⟩
 .rw[U,q];exact run_enterLoop_outer _ _ _ _ _
 .simp only[resolve,hg];simp[go_sem]
 .simp[invoke,go_sem,eg]
 have h:∀{A:Zh} {j:Option Nat},(∀r,j=an r->V.1.size<=r/\∃o:Obj,A.1[r]?=an o/\Bz o=bg)->(∀r,j=an r->w.1.size<=r/\∃o:Obj,A.1[r]?=an o/\Bz o=bg):=
  λf r e=>⟨Dl (f r e).1,(f r e).2⟩
 have d:∀{A B:Zh} {j:Option Nat} {k:Nat} {o:Obj},ep A B j->(∀r,j=an r->V.1.size<=r/\∃o:Obj,A.1[r]?=an o/\Bz o=bg)->k<V.1.size->A.1[k]?=an o->B.1[k]?=an o:=
  λ{A B j k o} u f F G=>(u.block k (A6.1 G).1 (λe=>Dl (f k e.symm).1)).ag G
 refine(Y (w.1.size+1)
  (λk W=>I k W/\W.1[w.1.size+1]?=an (.loop (c .ready ba))/\W.1[w.1.size]?=an (.deferred (an [])))
  (λk W=>T k W/\W.1[w.1.size+1]?=an (.loop (c .done (an .ret)))/\W.1[w.1.size]?=an (.deferred (an [])))
  V zB
  (λs A B j x u f=>⟨E s A B j x.1 u (h f),d u f Yv x.2.1,d u f Yv x.2.2⟩)
  (λs A B j x u f=>⟨M s A B j x.1 u (h f),d u f Yv x.2.1,d u f Yv x.2.2⟩)
  ?_ ⟨zA,zE,zC⟩ _).ai ?_
 .rintro k W s zH ⟨C,z,F⟩ zI m;have zG:w.1.size+1<W.1.size:=Yv;have j:=run_yield (P:=P) (args:= #[C4 s]) z gA;rw[q]at j;refine⟨fn,_,assign,body,j,roundIn_of_wpIn zF (y _ _ s W _ ?_)⟩;clear j;refine⟨_,run_beginRound z gA,?_⟩;have B:(W.putObj (w.1.size+1) (.loop {c .ready ba with state:=.busy})).1[w.1.size+1]?=an (.loop {c .ready ba with state:=.busy}):=putObj_heap_same zG;have A:(W.putObj (w.1.size+1) (.loop {c .ready ba with state:=.busy})).1[w.1.size]?=an (.deferred (an [])):=(putObj_heap_other Yv).ag F;refine wpIn_mono (H _ _ k s _ zH (E.putObj _ C Yv z rfl) Yt) ?_;have Z:∀(jump:Option Code) (j:Zh),BF w.1.size (W.putObj (w.1.size+1) (.loop {c .ready ba with state:=.busy})) j->
   (Instr.endRound (w.1.size+1) jump).run P j=.ok (ef jump.isNone) (j.putObj (w.1.size+1) (.loop (c (if jump.isNone then .ready else .done) jump)))/\
   j.1[w.1.size+1]?=an (.loop {c .ready ba with state:=.busy})/\
   (j.putObj (w.1.size+1) (.loop (c (if jump.isNone then .ready else .done) jump))).1[w.1.size+1]?=an (.loop (c (if jump.isNone then .ready else .done) jump))/\
   (j.putObj (w.1.size+1) (.loop (c (if jump.isNone then .ready else .done) jump))).1[w.1.size]?=an (.deferred (an []))/\
   BF V.1.size W (j.putObj (w.1.size+1) (.loop (c (if jump.isNone then .ready else .done) jump))):=λjump j u=>by
   have x:=u.same _ _ Yv B rfl;have:=run_endRound (P:=P) jump x;have r:BF V.1.size W (j.putObj (w.1.size+1) (.loop (c (if jump.isNone then .ready else .done) jump))):=(by refine⟨by have:=u.size;rw[putObj_size]at this |-;exact this,λb o N G N=> ?_⟩;rw[putObj_heap_other Yv];exact u.same b o Yv ((putObj_heap_other Yv).ag G) N);refine⟨?_,x,putObj_heap_same (A6.1 x).1,(putObj_heap_other Yv).ag (u.same _ _ (Zx) A rfl),r⟩;rw[q]at this |-;exact this
  rintro e a3 j G;have b:∀o,bs n0 W (W.putObj (w.1.size+1) o):=λo=>⟨rfl,rfl,rfl,Yu,λi C=>putObj_heap_other Yv⟩;cases e with
  |normal=>obtain⟨u,N,o⟩:=G;have⟨f,x,S,O,R⟩:=Z ba j u;exact⟨_,_,f,R,dp ⟨rfl,⟨E.putObj _ N Yv x rfl,S,O⟩,((b _).ag o).ag ⟨rfl,rfl,rfl,Yu,λi C=>putObj_heap_other Yv⟩⟩⟩
  |ret=>obtain⟨u,N⟩:=G;have⟨f,x,S,O,R⟩:=Z (an .ret) j u;exact⟨_,_,f,R,eb ⟨rfl,M.putObj _ N Yv x rfl,S,O⟩⟩
  |exit id=>exact G.elim
  |goto t=>exact G.elim
  |panic ch=>exact G.elim
  |outgrown=>exact G.elim
 rintro e i ⟨⟨v,rfl⟩,(⟨C,z,F⟩|⟨k,C,z,F⟩)⟩
 .exact⟨ba,_,by have:=run_endLoop (P:=P) z gA;rw[q]at this;exact this,J _ _ (Zx) (E.putObj _ C Yv z rfl) ((putObj_heap_other Yv).ag F)⟩
 exact⟨an .ret,_,by have:=run_endLoop (P:=P) z gA;rw[q]at this;exact this,L _ k _ (Zx) (M.putObj _ C Yv z rfl) ((putObj_heap_other Yv).ag F)⟩
end
section
open Go.RowKit
attribute [local go_sem] Oper.semAt_some
theorem UN(u:Nat)(f:Ab w g a c)(n:g<=w.1.size)(A:eh c<=ew):
 EQ prog 56 (λl=> #[ct #[C3 a (eh c) u],.func (.yield l) #[] #[]]) c g w:=by
 intro l J E W q x B r v m;unfold ew at A;have d:=f.A (q.ai n);refine callsIn_of_wp func56 rfl trivial ?_ rfl;simp only[ntmps56,A0,length_cons,length_nil,Nat.reduceAdd,Nat.reduceSub,Array.replicate_succ,Array.replicate_zero,push_toArray,append_toArray,nil_append,cons_append]
 gi_wp2
 gi_loopw [9] (λi wr=>∃k:Nat,k<=eh c/\i=Zg k/\J k wr/\bs g W wr/\W.1.size<=wr.1.size)
  (λi _=>eh c -(intOf i).toNat)
 case atStart=>exact⟨0,Aq _,rfl,x.alloc _ v,Ae.alloc (Zm n q.size) _,Yu⟩
 obtain⟨k,I,rfl,j,o,p⟩:=hrel;by_cases hlt:k<eh c
 .obtain⟨b,D,z,H,t⟩:=(d.A o).at hlt;subst z;obtain⟨C,G,tmps,assign,body,K,y⟩:=t k c[k] (Zv hlt),r k wr c[k] (Zv hlt) j p (m -1);clear t f d r;generalize c[k]=s at *
  gi_wp2
  refine⟨λh=>by simp[Fence.wide]at h,y.ai ?_⟩;rintro e F ⟨t,(⟨rfl,f,r⟩|⟨rfl,d⟩)⟩
  .gi_wp2
   go_roundw
   case rel=>exact⟨k+1,Yv,Yu,f,o.ag r,Zm p t.size⟩
   simp[intOf];omega
  .gi_wp2
   refine bodyPost_ret (results_none rfl _ _ _) rfl ?_;exact⟨⟨_,rfl⟩,eb ⟨_,d⟩⟩
 obtain rfl:k=eh c:=Yv
 gi_wp2
 go_end0;exact⟨⟨_,rfl⟩,dp j⟩
theorem UO(v:D4)(u:Nat)(f:Ab w g a c)(n:g<=w.1.size)(B:eh c<=ew):
 EQ prog 57 (λl=> #[ct #[v,C3 a (eh c) u],.func (.yield l) #[] #[]]) c g w:=by
 intro l J F W q y C r x m;unfold ew at B;have d:=f.A (q.ai n);refine callsIn_of_wp func57 rfl trivial ?_ rfl;simp only[ntmps57,A0,length_cons,length_nil,Nat.reduceAdd,Nat.reduceSub,Array.replicate_succ,Array.replicate_zero,push_toArray,append_toArray,nil_append,cons_append]
 gi_wp2
 gi_loopw [9] (λi wr=>∃k:Nat,k<=eh c/\i=Zg k/\J k wr/\bs g W wr/\W.1.size<=wr.1.size)
  (λi _=>eh c -(intOf i).toNat)
 case atStart=>exact⟨0,Aq _,rfl,y.alloc _ x,Ae.alloc (Zm n q.size) _,Yu⟩
 obtain⟨k,K,rfl,j,o,p⟩:=hrel;by_cases hlt:k<eh c
 .obtain⟨b,E,A,I,t⟩:=(d.A o).at hlt;subst A;obtain⟨D,H,tmps,assign,body,L,z⟩:=t k c[k] (Zv hlt),r k wr c[k] (Zv hlt) j p (m -1);clear t f d r;generalize c[k]=s at *
  gi_wp2
  refine⟨λh=>by simp[Fence.wide]at h,z.ai ?_⟩;rintro e G ⟨t,(⟨rfl,f,r⟩|⟨rfl,d⟩)⟩
  .gi_wp2
   go_roundw
   case rel=>exact⟨k+1,Yv,Yu,f,o.ag r,Zm p t.size⟩
   simp[intOf];omega
  .gi_wp2
   refine bodyPost_ret (results_none rfl _ _ _) rfl ?_;exact⟨⟨_,rfl⟩,eb ⟨_,d⟩⟩
 obtain rfl:k=eh c:=Yv
 gi_wp2
 go_end0;exact⟨⟨_,rfl⟩,dp j⟩
theorem Co.and{J K:Nat->Zh->Prop}(h:Co B J)(k:Co B K):Co B (λn W=>J n W/\K n W):=
 λn W b a d c e=>⟨h n W b a d.1 c e,k n W b a d.2 c e⟩
theorem Ec{c:Nat}(w:Zh)(h:c<=w.1.size)(g:c<=B):Co B (λ_ W=>bs c w W):=
 fun _ W a a a b f=>⟨b.os.ag a.os,b.tape.ag a.tape,b.output.ag a.output,Zm a.size b.size,λk d=>
  (b.block k (Dl a.size) (λe=>Dl (f k e.symm).1)).ag (a.block k d)⟩
theorem CZ(o:Obj)(f:b<B):Co B (λ_ W=>W.1[b]?=an o):=
 λ_ W a a a c d=>(c.block b (A6.1 a).1 (λe=>Dl (d b e.symm).1)).ag a
theorem Jv(a j:Zk)(c b:Nat)(d g:Zl)(n0:Nat)(w:Zh)(I:Ab w n0 a d)(y:Ab w n0 j g)(G:n0<=w.1.size)(hl:eh d<=ew)(Z:eh g<=ew):
 EQ prog 32 (λl=> #[ct #[C3 a (eh d) c,C3 j (eh g) b],.func (.yield l) #[] #[]]) (d++g) n0 w:=by
 intro l J R W O u r S h0 m;refine callsIn_of_wp_marks func32 rfl trivial ?_ rfl;simp only[ntmps32,A0,length_cons,length_nil,Nat.reduceAdd,Nat.reduceSub,Array.replicate_succ,Array.replicate_zero,push_toArray,append_toArray,nil_append,cons_append]
 gi_wp2
 obtain⟨zG,p,f⟩:=Zm G O.size,Ag ((W.alloc (ca #[C2 a d c,C2 j g b] 69)).alloc (ca #[.func (.yield l) #[] #[]] 117));have zJ:p.1.size=W.1.size+2:=gB;have Y:p.1[W.1.size]?=an (ca #[C2 a d c,C2 j g b] 69):=by rw[f];exact(Below.heap_alloc _ _ _ Yu).ag (alloc_heap_new _ _)
 have zE:p.1[W.1.size+1]?=an (ca #[.func (.yield l) #[] #[]] 117):=by rw[f];have:=alloc_heap_new (W.alloc (ca #[C2 a d c,C2 j g b] 69)) (ca #[.func (.yield l) #[] #[]] 117);rwa[Ao]at this
 have M:bs n0 W p:=gB;have T:J 0 p:=by rw[f];exact u.alloc _ (u.alloc _ h0)
 rw[<-f];clear f;have zA:=(I.A (O.ai G)).A M;have zB:=(y.A (O.ai G)).A M;refine Il (gf:=56) (pre:= #[ct #[C2 a d c]]) (lb:= #[]) rfl (enters_of func56 Yr rfl) (xs:=d) (n0:=n0)
  (D2 (UN c zA Yv hl)) Yv rfl
  (λk V=>J k V/\bs n0 p V/\V.1[W.1.size]?=an (ca #[C2 a d c,C2 j g b] 69)/\V.1[W.1.size+1]?=an (ca #[.func (.yield l) #[] #[]] 117))
  R ((u.ai Yv).and ((Ec p Yv Yv).and ((CZ _ Yv).and (CZ _ Yv)))) (r.ai Yv)
  ⟨T,Ae,Y,zE⟩ (λs=>{tmps:= #[ct #[C2 a d c,C2 j g b],.func (.yield l) #[] #[],Yy W.1.size,Yy (W.1.size+1),C4 s,undef,
   Yy W.1.size,ct #[C2 a d c],.func (.func 56) #[ct #[C2 a d c]] #[],C4 s,undef,undef,undef,undef,undef,undef,undef,undef,undef,undef,undef],defers:=[]}) ?assign ?body ?done ?stop
 case assign=>
  intro z A s V K f
  gi_wp2
  exact f
 case body=>
  rintro z A k s V H ⟨o,C,v,n⟩ zC;obtain⟨fn,tmps,assign,body,hy,N⟩:=S k V s (by rw[getElem?_append_left (Zw H).1];exact H) o Yv (A -1);have U:ek V (Zd (W.1.size+1) 0)=an (.func (.yield l) #[] #[]):=by simp[cell?,n]
  gi_wp2
  refine⟨λh=>by simp[Fence.wide]at h,RoundIn.ai (F:=Fence.wide.inRound z) N ?_⟩;rintro e V3 ⟨i,(⟨rfl,B,x⟩|⟨rfl,q⟩)⟩
  .gi_wp2
   exact⟨i.ai Yv,⟨B,C.ag x,i.same _ _ Yv v rfl,i.same _ _ Yv n rfl⟩,x⟩
  .gi_wp2
   exact⟨i.ai Yv,q⟩
 case done=>
  rintro D V hD ⟨o,C,v,n⟩ f;have zH:ek V (Zd (W.1.size) 0)=an (C2 a d c):=by simp[cell?,v]
  have zI:ek V (Zd (W.1.size) 1)=an (C2 j g b):=by simp[cell?,v]
  gi_wp2
  have L:=(A6.1 f).1;have zF:=(A6.1 n).1;refine Il (gf:=57) (pre:= #[ct #[C2 a d c,C2 j g b]]) (lb:= #[]) rfl (enters_of func57 Yr rfl) (xs:=g) (n0:=n0)
   (D2 (UO (C2 a d c) b (zB.A C) Yv Z)) Yv rfl
   (λk X=>J (eh d+k) X/\X.1[W.1.size+1]?=an (ca #[.func (.yield l) #[] #[]] 117)/\X.1[D]?=an (.deferred (an [])))
   (λ_ X=>(∃k,R k X)/\X.1[D]?=an (.deferred (an [])))
   (Co.and (λk X E t o P Q=>(u.ai Yv) (eh d+k) X E t o P Q) ((CZ _ zF).and (CZ _ L))) (Co.and (λ_ X E t o P Q=>o.elim λk hk=>⟨k,(r.ai Yv) k X E t hk P Q⟩) (CZ _ L))
   ⟨o,n,f⟩ (λs=>{tmps:= #[ct #[C2 a d c,C2 j g b],.func (.yield l) #[] #[],Yy W.1.size,Yy (W.1.size+1),undef,C4 s,
    Yy W.1.size,ct #[C2 a d c],.func (.func 56) #[ct #[C2 a d c]] #[],undef,undef,undef,undef,undef,
    ct #[C2 a d c,C2 j g b],.func (.func 57) #[ct #[C2 a d c,C2 j g b]] #[],C4 s,undef,undef,undef,undef],defers:=[]}) ?assign2 ?body2 ?done2 ?stop2
  case assign2=>
   intro z A s X K f
   gi_wp2
   exact f
  case body2=>
   rintro z A k s X H ⟨o,n,f⟩ zC;obtain⟨fn,tmps,assign,body,hy,N⟩:=S (eh d+k) X s (by rw[getElem?_append_right Yv,Nat.add_sub_cancel_left];exact H) o Yv (A -1);have U:ek X (Zd (W.1.size+1) 0)=an (.func (.yield l) #[] #[]):=by simp[cell?,n]
   gi_wp2
   refine⟨λh=>by simp[Fence.wide]at h,RoundIn.ai (F:=Fence.wide.inRound z) N ?_⟩;rintro e V3 ⟨i,(⟨rfl,B,x⟩|⟨rfl,q⟩)⟩
   .gi_wp2
    exact⟨i.ai Yv,⟨B,i.same _ _ Yv n rfl,i.same _ _ Yv f rfl⟩,x⟩
   .gi_wp2
    exact⟨i.ai Yv,⟨_,q⟩,i.same _ _ Yv f rfl⟩
  case done2=>
   rintro Q X P ⟨o,n,f⟩ t
   gi_wp2
   refine⟨Yu,dp ⟨_,_,rfl,run_takeDeferred t,Yu,dp ⟨_,_,rfl,run_takeDeferred ((putObj_heap_other Yv).ag f),?_⟩⟩⟩;refine⟨_,results_none rfl _ _ _,⟨_,rfl⟩,dp ?_⟩;rw[Am];exact u.putObj _ (u.putObj _ o Yv t rfl) Yv ((putObj_heap_other Yv).ag f) rfl
  rintro Q k X P ⟨⟨h,E⟩,f⟩ t
  gi_wp2
  refine⟨Yu,dp ⟨_,_,rfl,run_takeDeferred t,Yu,dp ⟨_,_,rfl,run_takeDeferred ((putObj_heap_other Yv).ag f),?_⟩⟩⟩;refine⟨_,results_none rfl _ _ _,⟨_,rfl⟩,eb ⟨h,?_⟩⟩;exact r.putObj _ (r.putObj _ E Yv t rfl) Yv ((putObj_heap_other Yv).ag f) rfl
 rintro D k V hD E f
 gi_wp2
 refine⟨Yu,dp ⟨_,_,rfl,run_takeDeferred f,?_⟩⟩;exact⟨_,results_none rfl _ _ _,⟨_,rfl⟩,eb ⟨k,r.putObj _ E Yv f rfl⟩⟩
end
section
attribute [local go_sem] Oper.semAt_some
theorem Le(p:Nat->Prop):Co B (λk _=>p k):=λ_ _ _ _ h _ _=>h
theorem BF.of_grownBy{d:Zh}{c:Option Nat}(f:ep W d c)(a:∀j,c=an j->j<B):BF B W d:=
 ⟨f.size,λb _ g h _=>(f.block b (A6.1 h).1 (λe=>Dl (a b e.symm))).ag h⟩
theorem Hm(a b:Zk)(n m c d:Nat)(w:Zh):
 D8 31 #[ct #[C3 a n c,C3 b m d]] w λe f=>e=C5 (ct #[C3 a n c,C3 b m d])/\Zz w f:=by
 have f:bs w.1.size w ((w.alloc (ca #[C3 a n c,C3 b m d] 25)).alloc (ca #[C3 a n c,C3 b m d] 69)):=gB;delta D8;go_in;go_wp2;refine C1 (ct #[C3 a n c,C3 b m d]) (by simp[results,results31,go_sem]) ⟨rfl,?_⟩;exact f
theorem UP(a b:Zk)(n m c d:Nat)(w:Zh)(h:n<=1048576)(g:m<=1048576):
 D8 52 #[ct #[C3 a n c,C3 b m d]] w λe f=>e=C5 (Zg (n+m))/\Zz w f:=by
 have f:bs w.1.size w (w.alloc (ca #[C3 a n c,C3 b m d] 69)):=gB;delta D8;go_in;go_wp2;go_ret;exact⟨rfl,f⟩
theorem Ha{b:Zk}(c d:Nat){g:Zl}(O:Ab w w.1.size a f)(N:Ab w w.1.size b g)(M:eh f<=1048576)(C:eh g<=1048576)(Z:∀s∈f,s.size<=1048576)(U:∀s∈g,s.size<=1048576):
 D8 29 #[ct #[C3 a (eh f) c,C3 b (eh g) d]] w λe h=>e=C5 (ef (BG f g))/\Zz w h:=by
 refine(callsIn_wide (n:=3)).1 ?_;refine callsIn_of_wp_marks func29 rfl trivial ?_ rfl;simp only[ntmps29,A0,length_cons,length_nil,Nat.reduceAdd,Nat.reduceSub,Array.replicate_succ,Array.replicate_zero,push_toArray,append_toArray,nil_append,cons_append]
 gi_wp2_with fail
 refine⟨trivial,?_⟩;have h:bs w.1.size w ((w.alloc (ca #[C2 a f c,C2 b g d] 25)).alloc (ca #[ef bq] 4)):=gB;have m:Boxed ((w.alloc (ca #[C2 a f c,C2 b g d] 25)).alloc (ca #[ef bq] 4)) (w.1.size+1) 4 (ef bq):=by have:=Boxed.new (w.alloc (ca #[C2 a f c,C2 b g d] 25)) 4 (ef bq);rwa[Ao]at this
 have o:((w.alloc (ca #[C2 a f c,C2 b g d] 25)).alloc (ca #[ef bq] 4)).1.size=w.1.size+2:=Yu;refine(callsIn_wide.2 (Hm a b (eh f) (eh g) c d _)).ai ?_;rintro e u ⟨rfl,l⟩;have y:=h.ag (l.ai Yt);have q:Boxed u (w.1.size+1) 4 (ef bq):=(l.block _ Yu).ag m;have E:=l.size;rw[o]at E;clear l m o h
 gi_wp2_with fail
 refine⟨trivial,?_⟩;have o:bs w.1.size w (u.alloc (ca #[C2 a f c,C2 b g d] 69)):=gB;have v:=q.alloc (ca #[C2 a f c,C2 b g d] 69);refine(callsIn_wide.2 (UP a b (eh f) (eh g) c d _ M C)).ai ?_;rintro e x ⟨rfl,m⟩;have h:=o.ag (m.ai Yt);have t:Boxed x (w.1.size+1) 4 (ef bq):=(m.block _ Yt).ag v;have F:=m.size;simp at F;have R:ek x (Zd (u.1.size) 0)=an (C2 a f c):=by rw[m.cell (p:=⟨u.1.size,0,ba⟩) Yu];simp
 have S:ek x (Zd (u.1.size) 1)=an (C2 b g d):=by rw[m.cell (p:=⟨u.1.size,1,ba⟩) Yu];simp
 have X:=t.cell;have Y:=t.frozen;clear m v o q y;by_cases hlen:eh f+eh g<=4000
 .gi_wp2_with fail
  have l:w.1.size+1<x.1.size:=t.lt;refine Il (gf:=32) (pre:= #[ct #[C2 a f c,C2 b g d]]) (lb:= #[]) rfl (enters_of func32 Yr rfl) (xs:=f++g) (n0:=w.1.size)
   (D2 (Jv a b c d f g w.1.size x (O.A h) (N.A h) h.size Yo Yo)) h.size rfl
   (λk V=>Zz w V/\Boxed V (w.1.size+1) 4 (ef bq)/\DN ((f++g).take k)=bg)
   (λ_ V=>Zz w V/\Boxed V (w.1.size+1) 4 (ef bq)/\DN (f++g)=bq)
   ((Ec w (Zx) h.size).and ((CZ (ca #[ef bq] 4) l).and (Le _)))
   ((Ec w (Zx) h.size).and ((CZ (ca #[ef bq] 4) l).and (Le _)))
   ⟨h,t,by simp[DN]⟩ (λs=>{tmps:= #[ct #[C2 a f c,C2 b g d],Yy w.1.size,Yy (w.1.size+1),Yy u.1.size,C4 s,
    ct #[C2 a f c,C2 b g d],ct #[C2 a f c,C2 b g d],ct #[C2 a f c,C2 b g d],Zg (eh f+eh g),ef (bx ((4000:Int)<eh f+eh g)),
    ct #[C2 a f c,C2 b g d],.func (.func 32) #[ct #[C2 a f c,C2 b g d]] #[],C4 s,undef,undef,undef],defers:=[]}) ?assign ?body ?done ?stop
  case assign=>
   intro P Q s V K v
   gi_wp2
   exact v
  case body=>
   rintro P Q k s V B ⟨o,m,q⟩ W;have I:=m.cell;have J:=m.frozen;have G:s.size<=1048576:=gG;by_cases hbig:5000<s.size
   .gi_wp2
    refine⟨BF.of_grownBy (grownBy_setCell' V _ _) (λj e=>by cases e;exact l),o.setCell (p:=⟨w.1.size+1,0,ba⟩) Yu _,m.set _,Jt _ k s B hbig⟩
   .gi_wp2
    refine⟨BF.refl _ _,⟨o,m,?_⟩,Ae⟩;rw[Kn _ k s B,q];simp;omega
  case done=>
   rintro D V H ⟨o,m,q⟩ v;have I:=m.cell;have J:=m.frozen;rw[Zt Yv]at q;have T:D≠w.1.size+1:=Yv;have A:(ev V (Zd (w.1.size+1) 0) (ef bg)).1[D]?=an (.deferred (an [])):=(KeepsOthers.setCell _ _ _).same D _ v rfl;have z:=m.set (ef bg);have y:=cell_kept z.cell (grownBy_putObj' _ D (.deferred ba)) (λr e=>by cases e;exact⟨_,A,rfl⟩)
   gi_wp2
   refine⟨Yu,dp ⟨_,_,rfl,run_takeDeferred A,?_⟩⟩;refine⟨ef bg,by simp[results,results29,go_sem,y],?_,?_⟩
   .simp only[BG];rw[show(f++g).all (λs=>decide (s.size<=5000))=bg from q];simp[hlen]
   exact(o.setCell (p:=⟨w.1.size+1,0,ba⟩) Yu _).ag ⟨rfl,rfl,rfl,Yu,λi L=>putObj_heap_other Yv⟩
  rintro D k V H ⟨o,m,q⟩ v;have y:=cell_kept m.cell (grownBy_putObj' _ D (.deferred ba)) (λr e=>by cases e;exact⟨_,v,rfl⟩)
  gi_wp2
  refine⟨Yu,dp ⟨_,_,rfl,run_takeDeferred v,?_⟩⟩;refine⟨ef bq,by simp[results,results29,go_sem,y],?_,?_⟩
  .simp only[BG];rw[show(f++g).all (λs=>decide (s.size<=5000))=bq from q];simp
  exact o.ag ⟨rfl,rfl,rfl,Yu,λi L=>putObj_heap_other Yv⟩
 have z:=(t.set (ef bq)).cell
 gi_wp2
 refine⟨ef bq,by simp[results,results29,go_sem,z],?_,h.setCell (p:=⟨w.1.size+1,0,ba⟩) Yu _⟩;simp[BG,hlen]
theorem EQ.A{a:Nat->Array Value}{c:Zh}(h:EQ P gf a xs n0 w)(b:Zz w c):EQ P gf a xs n0 c:=
 λl J d W e=>h l J d W (b.ag (e.ai b.size))
theorem SX(B b d:Nat)(t:TypeId)(k:Nat->Nat)(f:Nat->Zj)(p:d<B):Co B (λn W=>∃v,Boxed W d t v/\eo W b 9 1 v (k n) (f n)):=by
 rintro n W s q ⟨v,m,i⟩ g a;refine⟨v,m.kept g (λe=>Dl (a d e.symm).1),i.kept g ?_⟩;cases hb:ej v with
 |none=>exact dp rfl
 |some r=>refine eb λe=> ?_;obtain⟨⟨c,u,j⟩,_,o,h,l⟩:=Lib.ownsRow_kind i r hb,a r e.symm;rw[j]at h;cases h;simp[Bz]at l
theorem Oo(recv:D4)(I:∀args w,(callFunc gf args).run prog w=.ok (.enter gf args) w)(m:EQ prog gf (λl=> #[recv,.func (.yield l) #[] #[]]) xs n0 w)(A:n0<=w.1.size)(U:eh xs<=2097152):
 D8 91 #[Zb,.func (.func gf) #[recv] #[]] w λe a=>∃v,e=C5 v/\eo a w.1.size 9 1 v (eh xs) (xs.map string)/\Zz w a:=by
 have⟨L,y,E,F,G⟩:=info_parts Ck;refine(callsIn_wide (n:=3)).1 ?_;refine callsIn_of_wp_marks func91 rfl trivial ?_ rfl;simp only[ntmps91,A0,length_cons,length_nil,Nat.reduceAdd,Nat.reduceSub,Array.replicate_succ,Array.replicate_zero,push_toArray,append_toArray,nil_append,cons_append]
 gi_wp2_with fail
 have H:=Boxed.new w 23 Zb;have p:bs w.1.size w (w.alloc (ca #[Zb] 23)):=gB;refine Il (gf:=gf) (pre:= #[recv]) (lb:= #[]) rfl I (xs:=xs) (n0:=n0) (D2 (m.A p)) Yt rfl
  (λk V=>(∃v,Boxed V w.1.size 23 v/\eo V w.1.size 9 1 v (eh (xs.take k)) ((xs.take k).map string))/\Zz w V)
  (λ_ _=>False)
  ((SX _ _ _ _ (λk=>eh (xs.take k)) (λk=>(xs.take k).map string) Yu).and (Ec w (Zx) Yu))
  (λ_ _ _ _ h _ _=>h)
  ⟨⟨_,H,ownsRow_nil _ _ _ _⟩,p⟩ (λs=>{tmps:= #[Zb,.func (.func gf) #[recv] #[],Yy w.1.size,undef,Zb,C4 s,.func (.func gf) #[recv] #[],C4 s,undef,undef,undef,undef,undef],defers:=[]}) ?assign ?body ?done ?stop
 case assign=>
  intro M N s V K g
  gi_wp2
  exact g
 case body=>
  rintro M N k s W B ⟨⟨v,j,b⟩,f⟩ S;have u:=j.cell;have r:eh (xs.take k)=k:=gG;have R:k<eh xs:=gG;have C:(xs.take (k+1))=xs.take k++[s]:=by obtain⟨z,rfl⟩:=Zw B;exact Zu z
  gi_wp2_with (gi_at_builtin;refine wpListIn_append_own _ rfl _ _ 23 rfl w.1.size 9 L Zc 1 16 underlying23 y E F G rfl Yq _ _ _ rfl (b.alloc _) ⟨W.1.size,0,ba⟩ 1 1 [C4 s] rfl rfl (cell_one_new _ _ _) G3 Yo Yv (by have:=f.size;simp;omega) ?_;intro X O d a _;obtain⟨g',cap',rfl⟩:=ownsRow_succ d;have⟨hv1,hv2,hr2,hk2,hb2⟩:=j.appended Yq b f.size (Zx) d a;have P:=hv1.cell;have Q:=hv1.frozen)
  rw[r]at hv2 hr2 hb2;refine⟨⟨Zm (Zm Yu a.size) Yu,λq o t x J=> ?_⟩,⟨⟨_,hv2,?_⟩,f.ag hb2⟩,hb2.ai A⟩
  .simp at t;have t:q<W.1.size:=gB;refine((grownBy_setCell' O w.1.size _).block q (Zr t (Zm Yu a.size)) (λe=>by cases e;omega)).ag ?_;refine(a.block q Yt (λe=> ?_)).ag ((Below.heap_alloc W _ q t).ag x);have⟨c,T,u⟩:=Lib.ownsRow_kind b q e.symm;rw[u]at x;cases x;simp[Bz]at J
  rw[C];simpa [r]using hr2
 case done=>
  rintro D W x ⟨⟨v,j,b⟩,f⟩ g;have u:=j.cell
  gi_wp2
  refine⟨Yu,dp ⟨_,_,rfl,run_takeDeferred g,?_⟩⟩;rw[Zt (Zx)]at b;exact⟨_,results_tmp rfl _ _ _,v,rfl,ownsRow_putObj b _ g rfl,f.ag ⟨rfl,rfl,rfl,Yu,λi y=>putObj_heap_other (by simp at x;omega)⟩⟩
 rintro D k W _ h _;exact h.elim
end
theorem QW{a:Nat}(recv:D4)(h:∀args w,(callFunc a args).run prog w=.ok (.enter a args) w){b:Zl}{f:Nat}(d:EQ prog a (λl=> #[recv,.func (.yield l) #[] #[]]) b f w)(g:f<=w.1.size)(j:eh b<=2097152):
 D8 51 #[.func (.func a) #[recv] #[]] w λe c=>∃v,e=C5 v/\eo c w.1.size 9 1 v (eh b) (b.map string)/\Zz w c:=by
 delta D8;go_in;go_wp2_with fail;refine(Oo recv h d g j).ai ?_;rintro e k ⟨v,rfl,c,i⟩;go_wp2;go_ret;exact⟨v,rfl,c,i⟩
def Ap(ss tt:Zl)(ah:Int):Zl:=if BG ss tt then ss++tt.take (min (max ah 0) (eh tt)).toNat else []
theorem Ek{a:Zh}{L:Zl}(b:Zz w a)(c:eo a (w.1.size+2) 9 1 v (eh L) (L.map string)):
 eo (ev (ev a (Zd (w.1.size+1) 0) v) (Zd (w.1.size+1) 1) Zb) w.1.size 9 1 v (eh L) (L.map string)/\
   Zz w (ev (ev a (Zd (w.1.size+1) 0) v) (Zd (w.1.size+1) 1) Zb):=
 ⟨(ownsRow_setCell_below (ownsRow_setCell_below c Yu _) Yu _).ai Yv,(b.setCell (p:=⟨w.1.size+1,0,ba⟩) Yu _).setCell (p:=⟨w.1.size+1,1,ba⟩) Yu _⟩
theorem Mm{b:Zk}(c d:Nat){j:Zl}(ah:Int)(x:Ab w w.1.size a j)(u:Ab w w.1.size b f)(Z:eh j<=1048576)(U:eh f<=1048576)(F:∀s∈j,s.size<=1048576)(t:∀s∈f,s.size<=1048576)(hd:eh f<=d):
 D8 26 #[ct #[C3 a (eh j) c,C3 b (eh f) d],Zg ah] w λe l=>∃v,e=C5 (ct #[v,Zb])/\
  eo l w.1.size 9 1 v (eh (Ap j f ah)) ((Ap j f ah).map string)/\Zz w l:=by
 have J:bs w.1.size w ((w.alloc (ca #[C2 a j c,C2 b f d] 25)).alloc (ca #[Zb,Zb] 25)):=gB;delta D8;go_in;go_wp2_with fail;refine(Ha c d (x.X J) (u.X J) Z U F t).ai ?_;rintro e G ⟨rfl,k⟩;have H:=J.ag (k.ai Yt);have W:=k.size;simp at W;have m:ek G (Zd (w.1.size) 0)=an (C2 a j c):=by rw[k.cell (p:=⟨w.1.size,0,ba⟩) Yt];simp
 have r:ek G (Zd (w.1.size) 1)=an (C2 b f d):=by rw[k.cell (p:=⟨w.1.size,1,ba⟩) Yt];simp
 have r0:ek G (Zd (w.1.size+1) 0)=an Zb:=by rw[k.cell (p:=⟨w.1.size+1,0,ba⟩) Yu];simp
 have n:ek G (Zd (w.1.size+1) 1)=an Zb:=by rw[k.cell (p:=⟨w.1.size+1,1,ba⟩) Yu];simp
 have A:∀o,el G ⟨w.1.size+1,o,ba⟩=bq:=λo=>by rw[k.frozen (p:=⟨w.1.size+1,o,ba⟩) Yu];simp[go_sem]
 clear k;cases hok:BG j f with
 |false=>
  go_wp2;refine C1 (ct #[Zb,Zb]) F5 ⟨Zb,rfl,?_,?_⟩
  .simp only[Ap,hok];exact ownsRow_nil _ _ _ _
  exact(H.setCell (p:=⟨w.1.size+1,0,ba⟩) Yu _).setCell (p:=⟨w.1.size+1,1,ba⟩) Yu _
 |true=>
  go_wp2_with fail;refine(Hm a b (eh j) (eh f) c d _).ai ?_;rintro e C ⟨rfl,k⟩;have I:=H.ag (k.ai H.size);have zA:=k.size;replace r0:=(k.cell (p:=⟨w.1.size+1,0,ba⟩) Yt).ag r0;replace n:=(k.cell (p:=⟨w.1.size+1,1,ba⟩) Yt).ag n;replace A:∀o,el C ⟨w.1.size+1,o,ba⟩=bq:=λo=>(k.frozen (p:=⟨w.1.size+1,o,ba⟩) Yt).ag (A o);clear k m r;have m:∀K,K<=eh f->D8 51 #[.func (.func 32) #[ct #[C2 a j c,C3 b K d]] #[]] (C.alloc (ca #[C2 a j c,C3 b K d] 69)) λe l=>
   ∃v,e=C5 v/\((v=Zb/\eh (j++f.take K)=0)\/∃g y,v=C6 g (j++f.take K) y)/\eo l (w.1.size+2) 9 1 v (eh (j++f.take K)) ((j++f.take K).map string)/\bs (w.1.size+2) C l:=by
   intro K Q;have S:eh (f.take K)=K:=Yt;have T:bs (w.1.size+2) C (C.alloc (ca #[C2 a j c,C3 b K d] 69)):=gB;have D:bs w.1.size w (C.alloc (ca #[C2 a j c,C3 b K d] 69)):=gB;have V:Ab w w.1.size b (f.take K):=by
    rcases u with h|⟨q,X,B,P,Y⟩
    .exact dp (by simp[h])
    refine eb ⟨q,X,B,P,λi s k=>Y i s ?_⟩;have i:=(Zw k).1;rw[getElem?_take_of_lt Yv]at k;exact k
   have M:=Jv a b c d j (f.take K) w.1.size (C.alloc (ca #[C2 a j c,C3 b K d] 69)) (x.A D) (V.A D) D.size Yo Yo;rw[S]at M;refine(QW _ (enters_of func32 Yr rfl) M D.size Yt).ai ?_;rintro e E ⟨v,rfl,r,k⟩;exact⟨v,rfl,Joins.ownsRow_forms r,r.ai Yt,T.ag (k.ai Yt)⟩
  have z:=Yw m;clear m x u F t;have close:∀K:Nat,(K:Int)=min (max ah 0) (eh f)->Ap j f ah=j++f.take K:=λK Q=>by simp only[Ap,hok,if_true];rw[<-Q];simp
  have l:=Yw close;clear close;by_cases B:(eh f:Int)<ah
  .have N:min (max ah 0) (eh f:Int)=eh f:=Yv;go_wp2_with fail;refine(z (eh f) Yv).ai ?_;rintro e E ⟨v,rfl,t,r,k⟩;have u:=l (eh f) Yv;have O:=k.size;replace r0:=(k.cell (p:=⟨w.1.size+1,0,ba⟩) Yu).ag r0;replace n:=(k.cell (p:=⟨w.1.size+1,1,ba⟩) Yu).ag n;replace A:∀o,el E ⟨w.1.size+1,o,ba⟩=bq:=λo=>(k.frozen (p:=⟨w.1.size+1,o,ba⟩) Yu).ag (A o);have B:=I.ag (k.ai Yv);rw[<-u]at t r;have R:=Ek B r;have m:=Yw R;clear z l r u R;have⟨L,x⟩:=Ag (Ap j f ah);rw[<-x]at t;have F:=Yw x;clear x;rcases t with⟨rfl,t⟩|⟨g,y,rfl⟩
   .go_wp2;exact C1 (ct #[Zb,Zb]) F5 ⟨_,rfl,m.1,m.2⟩
   rw[F.o]at m |-;go_wp2;exact C1 (ct #[C6 g (Ap j f ah) y,Zb]) F5 ⟨_,rfl,m.1,m.2⟩
  by_cases P:ah<0
  .have N:min (max ah 0) (eh f:Int)=0:=Yv;go_wp2_with fail;refine(z 0 Yv).ai ?_;rintro e E ⟨v,rfl,t,r,k⟩;have u:=l 0 Yv;have O:=k.size;replace r0:=(k.cell (p:=⟨w.1.size+1,0,ba⟩) Yu).ag r0;replace n:=(k.cell (p:=⟨w.1.size+1,1,ba⟩) Yu).ag n;replace A:∀o,el E ⟨w.1.size+1,o,ba⟩=bq:=λo=>(k.frozen (p:=⟨w.1.size+1,o,ba⟩) Yu).ag (A o);have B:=I.ag (k.ai Yv);rw[<-u]at t r;have R:=Ek B r;have m:=Yw R;clear z l r u R;have⟨L,x⟩:=Ag (Ap j f ah);rw[<-x]at t;have F:=Yw x;clear x;rcases t with⟨rfl,t⟩|⟨g,y,rfl⟩
   .go_wp2;exact C1 (ct #[Zb,Zb]) F5 ⟨_,rfl,m.1,m.2⟩
   rw[F.o]at m |-;go_wp2;exact C1 (ct #[C6 g (Ap j f ah) y,Zb]) F5 ⟨_,rfl,m.1,m.2⟩
  have N:min (max ah 0) (eh f:Int)=ah:=Yv;go_wp2_with fail;refine(z ah.toNat Yv).ai ?_;rintro e E ⟨v,rfl,t,r,k⟩;have u:=l ah.toNat Yv;have O:=k.size;replace r0:=(k.cell (p:=⟨w.1.size+1,0,ba⟩) Yu).ag r0;replace n:=(k.cell (p:=⟨w.1.size+1,1,ba⟩) Yu).ag n;replace A:∀o,el E ⟨w.1.size+1,o,ba⟩=bq:=λo=>(k.frozen (p:=⟨w.1.size+1,o,ba⟩) Yu).ag (A o);have B:=I.ag (k.ai Yv);rw[<-u]at t r;have R:=Ek B r;have m:=Yw R;clear z l r u R;have⟨L,x⟩:=Ag (Ap j f ah);rw[<-x]at t;have F:=Yw x;clear x;rcases t with⟨rfl,t⟩|⟨g,y,rfl⟩
  .go_wp2;exact C1 (ct #[Zb,Zb]) F5 ⟨_,rfl,m.1,m.2⟩
  rw[F.o]at m |-;go_wp2;exact C1 (ct #[C6 g (Ap j f ah) y,Zb]) F5 ⟨_,rfl,m.1,m.2⟩
theorem Hb{c:Array Oper}{rest:List Oper}{b:Oper}{a:Act}{Q:Exit->Act->Zh->Prop}(d:b.guard=ba)(t:TypeId)(parts:Array (Nat×Operand))(e:b.op=.build t parts)(l:List (Nat×Value))(g:(parts.map λ(i,x)=>(i,a.eval x)).toList=l)(cells:Array Value)(f:P.built t l=an cells)(h:wpList P c Q rest (a.put b.dst (ct cells)) w):wpList P c Q (b::rest) a w:=
 wpList_build d t parts e gA gA
theorem IY{s:Zj}(h:eh s=17):∃i j k l m n o p q r a b c d e f g,s=[i,j,k,l,m,n,o,p,q,r,a,b,c,d,e,f,g]:=by
 match s,h with
 |[i,j,k,l,m,n,o,p,q,r,a,b,c,d,e,f,g],_=>exact⟨i,j,k,l,m,n,o,p,q,r,a,b,c,d,e,f,g,rfl⟩
theorem US{a:Zj}(h:eh a=17)(s:Zi)(n:Int):prog.built 166 [(1,ct (ei a)),(2,C4 s),(3,Zg n)]=an (ei (Zg 0::(a++[C4 s,Zg n,Zc,Zc]))):=by
 obtain⟨j,k,l,m,o,p,q,r,t,u,b,c,d,e,f,g,i,rfl⟩:=IY h
 kernel_rfl
theorem SY{a:Zj}(h:eh a=17):prog.built 166 [(1,ct (ei a))]=an (ei (Zg 0::(a++[Zc,Ze,Zc,Zc]))):=by
 obtain⟨j,k,l,m,n,o,p,q,r,s,b,c,d,e,f,g,i,rfl⟩:=IY h
 kernel_rfl
theorem Mn(t u:Zi)(a b:Zk)(c d:Nat)(f g:Zl)(w:Zh)(q:Ab w w.1.size a f)(p:Ab w w.1.size b g)(hl:eh f<=100000)(T:eh g<=1048576):
 D8 47 #[ct #[C4 t,C3 a (eh f) c],ct #[C4 u,C3 b (eh g) d]] w λe j=>Av (t=u/\f=g) w j e:=by
 have⟨W,j⟩:=Ag ((w.alloc (ca #[C4 t,C2 a f c] 76)).alloc (ca #[C4 u,C2 b g d] 76));have z:=(AQ j).1;have m:=(AQ j).2.2.1;have n:Aa W (w.1.size+1) [C4 u,C2 b g d]:=by have A:=Aa.new (w.alloc (ca #[C4 t,C2 a f c] 76)) [C4 u,C2 b g d] 76;rw[Ao]at A;rw[j];exact A
 have Q:Hid (∀X,Zz W X->Aa X w.1.size [C4 t,C2 a f c]/\Aa X (w.1.size+1) [C4 u,C2 b g d]/\Ab X w.1.size a f/\Ab X w.1.size b g/\Zz w X):=λX l=>by have r:=z.ag (l.ai z.size);exact⟨Aa.A m l,Aa.A n l,q.A r,p.A r,r⟩
 obtain⟨l,E⟩:=Aa.c2 m 0 1;obtain⟨o,F⟩:=Aa.c2 n 0 1;have v:=Yw j;clear j q p m n;by_cases ht:t=u
 case neg=>have M:=BJ ht;have n:(t.toList !=u.toList)=bg:=gA;delta D8;go_in;go_upto_region 1 with fail;rw[<-v.o];go_wp2;go_ret;exact Av.no (λh=>ht h.1) z
 subst ht;have M:(t.toList !=t.toList)=bq:=Yu;by_cases hlen:eh f=eh g
 case neg=>
  have J:((eh f:Int)==(eh g:Int))=bq:=Yt;have m:((eh f:Int) !=(eh g:Int))=bg:=Yt;delta D8;go_in;go_upto_region 1 with fail;rw[<-v.o];go_wp2;go_ret;exact Av.no (λh=>hlen (by rw[h.2])) z
 have J:((eh f:Int) !=(eh g:Int))=bq:=Yt;have B:=Yw hlen;clear hlen;delta D8;go_in;go_upto_region 1 with fail;rw[<-v.o];clear v;go_wp2;go_loopw [5] (λi wr=>∃k:Nat,k<=eh f/\i=Zg k/\Hid (f.take k=g.take k/\Zz W wr)) (λi _=>eh f -(intOf i).toNat)
 case atStart=>exact⟨0,Aq _,rfl,⟨Yu,Ae⟩⟩
 clear l E o F;obtain⟨k,i,rfl,s⟩:=hrel;have⟨m,n,q,p,l⟩:=Q wr s.2;obtain⟨⟨E,_⟩,F,_⟩:=m 1 _ rfl,n 1 _ rfl;by_cases hlt:k<eh f
 case neg=>
  obtain rfl:k=eh f:=Yv;have o:=s.1;rw[Zt (Zx),Zt (Dl B.o)]at o;clear m n q p;go_wp2;go_ret;exact Av.yes ⟨by trivial,o⟩ l
 have j:k<eh g:=gG;obtain⟨⟨rb,ro,R,L,C⟩,X,qo,r,K,o⟩:=q.at hlt,p.at j;subst R r;obtain⟨Y,Z,V,U,H,I⟩:=C k _ (Zv hlt),o k _ (Zv j),Zr L l.size,Zr K l.size,Yw (Zu hlt),Yw (Zu j);have HN:Hid (∀x y,f[k]?=an x->g[k]?=an y->x≠y->f≠g):=λx y A D G e=>by subst e;rw[A]at D;exact G (A8 D)
 have D:=Yw (Zv hlt);have G:=Yw (Zv j);have S:(k:Int)<eh g:=Yv;clear C o;generalize f[k]=x at *
 generalize g[k]=y at *
 have P:=Yw s.2;have C:=Yw l;clear m n q p l;by_cases hxy:x=y
 .subst hxy;have N:(x.toList !=x.toList)=bq:=Yu;go_wp2
  go_region
  all_goals go_wp2
  all_goals exact⟨⟨k+1,Yv,Yn,⟨by rw[H.o,I.o,s.1],P.drew⟩⟩,Ys⟩
 have N:=BJ hxy;have O:(x.toList !=y.toList)=bg:=gA;go_wp2
 go_region
 all_goals go_wp2
 all_goals go_ret
 all_goals exact Av.no (λh=>HN x y D G hxy h.2) C.drew
structure UT (w:Zh) (lo g:Nat) (rs:Zj) (ks:List Kd):Prop where
 len:eh rs=eh ks
 ak:eo w lo 78 4 (cr (an ⟨g,0,ba⟩) (eh ks) (eh ks)) (eh ks) (Ad kC (ks.zip rs))
 D:∀(i:Nat) (k:Kd) (r:Value),ks[i]?=an k->rs[i]?=an r->eo w (g+1) 9 1 r (eh k.D) (k.D.map Value.string)
 sm:∀r∈rs,∃q n c,r=cr (an ⟨q,0,ba⟩) n c
 inc:(rs.filterMap Value.ownBlock).Pairwise (·<·)
def FA(w:Zh)(base:Nat)(a:Zk)(ss:Zl):Prop:=
 ss=[]\/∃b off,a=an ⟨b,off,ba⟩/\base<=b/\b<w.1.size/\∀i s,ss[i]?=an s->ek w (Zd b (off+i))=an (.string s)/\el w ⟨b,off+i,ba⟩=bq
def Acl(a:Zk):Option Nat:=a.map (·.block)
theorem FA.row{c:Nat}(h:FA w c a d):Ab w w.1.size a d:=by
 rcases h with h|⟨b,e,rfl,k,f,g⟩
 .exact dp h
 exact eb ⟨b,e,rfl,f,λi s j=>(g i s j).1⟩
theorem FA.stays{g:Zh}{c:Nat}{l:Zl}(h:FA w c a l)(n:w.1.size<=g.1.size)(f:∀b,Acl a=an b->c<=b->b<w.1.size->g.1[b]?=w.1[b]?):FA g c a l:=by
 rcases h with h|⟨b,d,rfl,j,m,k⟩
 .exact dp h
 have e:=f b rfl j m;exact eb ⟨b,d,rfl,j,Yv,λi s f=>⟨(cell?_of_block (a:=⟨b,d+i,ba⟩) e).ag (k i s f).1,(frozen?_of_block (a:=⟨b,d+i,ba⟩) e).ag (k i s f).2⟩⟩
theorem FA.A{e:Zh}(h:FA w base a d)(c:Zz w e):FA e base a d:=
 h.stays c.size (λb _ _ f=>c.block b f)
theorem FA.mono(h:FA w base a c)(i:base'<=base):FA w base' a c:=by
 rcases h with h|⟨b,d,rfl,g,e,f⟩
 .exact dp h
 exact eb ⟨b,d,rfl,Yv,e,f⟩
abbrev FA.ai:=@FA.mono
theorem FA.set{a:Nat}(h:FA w base (an ⟨g,a,ba⟩) d)(f:j<eh d)(t:Zi):FA (ev w (Zd g (a+j)) (C4 t)) base (an ⟨g,a,ba⟩) (d.set j t):=by
 rcases h with h|⟨b,l,e,m,n,k⟩
 .rw[h]at f;simp at f
 cases e;refine eb ⟨g,a,rfl,m,D2 n,λi s c=> ?_⟩;have p:i<eh d:=gG;have o:=k i _ (Zv p);refine⟨?_,D2 o.2⟩;by_cases hij:i=j
 .subst hij;rw[getElem?_set_self f]at c;cases c;exact cell?_setCell_same' _ _ _ gA
 rw[getElem?_set_ne (λe=>hij e.symm)]at c;exact(cell?_setCell_other w _ _ _ Ym).ag (k i s c).1
structure Lf (w V:Zh) (u v:Value):Prop where
 b0:ek V (Zd (w.1.size) 0)=an u
 b1:ek V (Zd (w.1.size) 1)=an v
 r0:ek V (Zd (w.1.size+1) 0)=an Zb
 r1:ek V (Zd (w.1.size+1) 1)=an Zb
 f:∀o,el V ⟨w.1.size+1,o,ba⟩=bq
 cn:bs w.1.size w V
 le:w.1.size+2<=V.1.size
theorem Lf.alloc{V:Zh}(h:Lf w V u v)(o:Obj):Lf w (V.alloc o) u v:=by
 have a:=(Below.refl V.1.size V).alloc (Zx) o;have:=h.le;exact⟨(a.cell (p:=⟨w.1.size,0,ba⟩) Yt).ag h.b0,(a.cell (p:=⟨w.1.size,1,ba⟩) Yt).ag h.b1,(a.cell (p:=⟨w.1.size+1,0,ba⟩) Yt).ag h.r0,(a.cell (p:=⟨w.1.size+1,1,ba⟩) Yt).ag h.r1,
  λo=>(a.frozen (p:=⟨w.1.size+1,o,ba⟩) Yt).ag (h.f o),h.cn.alloc h.cn.size o,Yt⟩
theorem Lf.drew{V:Zh}(h:Lf w V u v):Lf w V.drew u v:=⟨h.b0,h.b1,h.r0,h.r1,h.f,h.cn.drew,h.le⟩
theorem Lf.grown{V b:Zh}(h:Lf w V u v)(a:ep V b (an q))(d:w.1.size+2<=q):Lf w b u v:=by
 have:=h.le;have:=a.size;exact⟨a.cell h.b0 Yt,a.cell h.b1 Yt,a.cell h.r0 Yt,a.cell h.r1 Yt,
  λo=>(a.frozen_far ⟨w.1.size+1,o,ba⟩ Yt Yt).ag (h.f o),h.cn.grown a h.cn.size (λk c=>by cases c;omega),Yv⟩
theorem NQ{z A:Zk}(c d:Nat)(hr:Ab w w.1.size z h)(Q:Ab w w.1.size A i)(Y:z=ba->eh h=0/\c=0)(Z:A=ba->eh i=0/\d=0)(hl:eh h<=1048576)(zE:eh i<=1048576):
 D8 99 #[ct #[C3 z (eh h) c,C3 A (eh i) d]] w λe b=>∃x f y g,e=C5 (ct #[Yz x (eh h) f,Yz y (eh i) g])/\
  eo b w.1.size 9 1 (Yz x (eh h) f) (eh h) (h.map string)/\eo b w.1.size 9 1 (Yz y (eh i) g) (eh i) (i.map string)/\x≠y/\Zz w b:=by
 have⟨R,N,B,C,D⟩:=info_parts Ck;have b:bs w.1.size w ((w.alloc (ca #[C2 z h c,C2 A i d] 25)).alloc (ca #[Zb,Zb] 25)):=gB;have⟨W,f⟩:=Ag ((w.alloc (ca #[C2 z h c,C2 A i d] 25)).alloc (ca #[Zb,Zb] 25));have P:Lf w W (C2 z h c) (C2 A i d):=by rw[f];exact⟨by simp[go_sem],by simp[go_sem],by simp[go_sem],by simp[go_sem],λo=>by simp[go_sem],b,Yu⟩
 have g:=Yw f;have t:=Yw P;delta D8;go_in;go_wp2_with fail;rw[<-g.o];obtain⟨b0,b1,r0,r1,f0,_,zF⟩:=P;obtain⟨⟨a0,a1,_,_,_,_,_⟩,zB,zC,_,_,_,_,_⟩:=t.alloc (ca #[] 9),(t.alloc (ca #[] 9)).alloc (ca #[] 9);clear f b g;have oA:eo (W.alloc (ca #[] 9)).drew (w.1.size+2) 9 1 (Yz W.1.size 0 0) 0 (([]:Zl).map string):=ownsRow_lit W #[] 0 Yv Yo rfl;have H:eo ((W.alloc (ca #[] 9)).alloc (ca #[] 9)).drew (w.1.size+2) 9 1 (Yz W.1.size 0 0) 0 (([]:Zl).map string):=ownsRow.alloc (ownsRow_lit W #[] 0 Yv Yo rfl) _;have I:eo ((W.alloc (ca #[] 9)).alloc (ca #[] 9)).drew (w.1.size+2) 9 1 (Yz (W.1.size+1) 0 0) 0 (([]:Zl).map string):=by have h1:=ownsRow_lit (base:=w.1.size+2) (e:=9) (size:=1) (W.alloc (ca #[] 9)) #[] 0 Yt Yo rfl;rw[Ao]at h1;exact h1
 obtain⟨y,zA,G,x⟩:=(hr.A (t.alloc (ca #[] 9)).drew.cn).bi,(Q.A (t.alloc (ca #[] 9)).drew.cn).bi,(hr.A ((t.alloc (ca #[] 9)).alloc (ca #[] 9)).drew.cn).bi,(Q.A ((t.alloc (ca #[] 9)).alloc (ca #[] 9)).drew.cn).bi
 go_region_law (first
  |(guard_target=if Region.wanted _ _=bg then Oper.wp _ _ _ (W.alloc (ca #[] 9)).drew _ _ else _;refine Az (W.alloc (ca #[] 9)).drew rfl (.tmp 3) (.tmp 5) 23 rfl (w.1.size+2) 9 R Zc 16 underlying23 N B C D rfl (W.1.size) 0 0 [] rfl oA z (eh h) c h rfl rfl Y y Yo Yv Yl ?_;intro S F K s k l L;simp only[Ay,nil_append]at s;have J:=k.size;simp at J l;have j:=(t.alloc _).drew.grown k Yv;have c0:=j.b0;have c1:=j.b1;have d0:=(j.alloc (ca #[] 9)).b0;have d1:=(j.alloc (ca #[] 9)).b1;have T:=J)
  |(guard_target=if Region.wanted _ _=bg then Oper.wp _ _ _ ((W.alloc (ca #[] 9)).alloc (ca #[] 9)).drew _ _ else _;refine Az ((W.alloc (ca #[] 9)).alloc (ca #[] 9)).drew rfl (.tmp 3) (.tmp 5) 23 rfl (w.1.size+2) 9 R Zc 16 underlying23 N B C D rfl (W.1.size) 0 0 [] rfl H z (eh h) c h rfl rfl Y G Yo Yv Yl ?_;intro S F K s k l L;simp only[Ay,nil_append]at s;have J:=k.size;simp at J l;have j:=((t.alloc _).alloc _).drew.grown k Yv;have c0:=j.b0;have c1:=j.b1;have q:=I.kept k (eb H0);have U:=J)
  |(guard_target=if Region.wanted _ _=bg then Oper.wp _ _ _ ((W.alloc (ca #[] 9)).alloc (ca #[] 9)).drew _ _ else _;refine Az ((W.alloc (ca #[] 9)).alloc (ca #[] 9)).drew rfl (.tmp 3) (.tmp 5) 23 rfl (w.1.size+2) 9 R Zc 16 underlying23 N B C D rfl (W.1.size+1) 0 0 [] rfl I z (eh h) c h rfl rfl Y G Yo Yv Yl ?_;intro S F K s k l L;simp only[Ay,nil_append]at s;have J:=k.size;simp at J l;have j:=((t.alloc _).alloc _).drew.grown k Yv;have c0:=j.b0;have c1:=j.b1;have q:=H.kept k (eb H0);have V:=J)
  |(have r:=T;refine Az (K.alloc (ca #[] 9)) rfl (.tmp 7) (.tmp 9) 23 rfl (w.1.size+2) 9 R Zc 16 underlying23 N B C D rfl (K.1.size) 0 0 [] rfl (ownsRow_lit K #[] 0 Yv Yo rfl) A (eh i) d i rfl rfl Z (Q.A (j.alloc _).cn).bi Yo Yv Yl ?_;intro E n w9 f b g u;simp only[Ay,nil_append]at f;have X:=b.size;(try simp at X g);have e:=(s.alloc _).kept b (eb Fo);have M:=f;have O:S≠E:=Yv;have m:=(j.alloc _).grown b Yv;have y0:=m.r0;have y1:=m.r1;have yf:=m.f)
  |(have r:=U;refine Az K rfl (.tmp 7) (.tmp 9) 23 rfl (w.1.size+2) 9 R Zc 16 underlying23 N B C D rfl (W.1.size+1) 0 0 [] rfl q A (eh i) d i rfl rfl Z (Q.A j.cn).bi Yo Yv Yl ?_;intro E n w9 f b g u;simp only[Ay,nil_append]at f;have X:=b.size;(try simp at X g);have e:=s.kept b (eb Fo);have M:=f;have O:S≠E:=Yv;have m:=j.grown b Yv;have y0:=m.r0;have y1:=m.r1;have yf:=m.f)
  |(have r:=V;refine Az K rfl (.tmp 7) (.tmp 9) 23 rfl (w.1.size+2) 9 R Zc 16 underlying23 N B C D rfl (W.1.size) 0 0 [] rfl q A (eh i) d i rfl rfl Z (Q.A j.cn).bi Yo Yv Yl ?_;intro E n w9 f b g u;simp only[Ay,nil_append]at f;have X:=b.size;(try simp at X g);have e:=s.kept b (eb Fo);have M:=f;have O:S≠E:=Yv;have m:=j.grown b Yv;have y0:=m.r0;have y1:=m.r1;have yf:=m.f))
 all_goals
  have o:=Yw (Zn e (Zn M (Zn O m)));clear m;clear e M O oA H I y zA G x hr Q t;go_wp2;refine C1 (ct #[C6 S h F,C6 E i n]) (by simp[results,results99,go_sem,y0,y1]) ⟨_,_,_,_,rfl,?_,?_,o.2.2.1,?_⟩
  .exact(ownsRow_setCell_below (ownsRow_setCell_below o.1 (a:=⟨w.1.size+1,0,ba⟩) Yu _) (a:=⟨w.1.size+1,1,ba⟩) Yu _).ai Yv
  .exact(ownsRow_setCell_below (ownsRow_setCell_below o.2.1 (a:=⟨w.1.size+1,0,ba⟩) Yu _) (a:=⟨w.1.size+1,1,ba⟩) Yu _).ai Yv
  exact(o.2.2.2.cn.setCell (p:=⟨w.1.size+1,0,ba⟩) Yu _).setCell (p:=⟨w.1.size+1,1,ba⟩) Yu _
