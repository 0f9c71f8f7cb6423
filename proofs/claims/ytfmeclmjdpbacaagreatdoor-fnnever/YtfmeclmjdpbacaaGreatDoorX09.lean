import Derived.Test.YtfmeclmjdpbacaaGreatDoorX05
import Derived.Test.YtfmeclmjdpbacaaGreatDoorX06
import Derived.RangeFuncNested
import Derived.Shelf.Abstract
import Derived.Shelf.RegionOpen
import Derived.RangeFuncBound
import Derived.RangeFuncCalls
import Derived.RangeFuncLeaves
import Derived.OwnWalkIn
import Derived.TacticsInMore
import Derived.LoopNIn
import Derived.LoopIn
import Derived.Lib.OwnKind
import Derived.Laws.Tables
set_option maxRecDepth 100000
set_option maxHeartbeats 16000000
open Option renaming some->ai,none->an
open Bool renaming true->ay,false->ba
open Go.RowKit renaming Below->bg
open Decidable renaming decide->bq
open Go.Obj renaming cells->bs
open Go.Value renaming slice->bx,agg->ca,bool->ec,ownBlock->ef
open Or renaming inl->cr,inr->ct
open List renaming length->ed
open Go.World renaming cell?->eh,ownsRow->ej,grownBy->ek,setCell->el
open Go renaming maxLen->eo
namespace Go.Proofs.YtfmeclmjdpbacaaGreatDoor
open ChangeShapes WideShapes ChangeAt RowKit _root_.Go.Proofs.Tryz List World Value
variable{P:Program}{d:Array Oper}{f:Region.Mode}{g e q n j base N B k B' gf n0:Nat}{b a:Zk}{w c wr l V W:Zh}{o:Oper}{T L u v:Value}{xs:Zl}
abbrev Ga:String:= "l7_vault.go:236"
abbrev Gb:String:= "l7_vault.go:243"
abbrev GB:String:= "l7_vault.go:78"
abbrev IJ(n:Nat):Edge:=⟨n,.data⟩
theorem AK{Q:Exit->Act->Zh->Prop}{S:Zh->Prop}(i:Nat){g:Oper}(v:Dg){b:Array Bool}{a:Act}(h:wpAnyH P f d Q S e (b.setIfInBounds i ay) (a.put g.dst v) w)(o:d.toList[i]?=ai g:=by exact rfl)(hS:S w:=by first|with_reducible assumption|assumption)(m:Region.noSelect d=ay:=by kernel_rfl)(k:Region.free f d b i=ay:=by kernel_rfl)(l:(Region.ready f d b).contains i=ay:=by kernel_rfl)(j:∀c a w,Q (.panic c) (a.put g.dst v) w->Q (.panic c) a w:=by exact λ_ _ _ h=>h)(n:YieldsIf P d S g v a:=by exact Or.inl ⟨Yp,λ_ _=>by go_simp⟩):wpAnyH P f d Q S (e+1) b a w:=
 wpAnyH_take gA m k l j n hS h
theorem EK{Q:Exit->Act->Zh->Prop}{S:Zh->Prop}(i:Nat){g:Oper}{b:Array Bool}{a:Act}(h:wpAnyH P f d Q S e (b.setIfInBounds i ay) (a.put g.dst undef) w)(o:d.toList[i]?=ai g:=by exact rfl)(hS:S w:=by first|with_reducible assumption|assumption)(m:Region.noSelect d=ay:=by kernel_rfl)(k:Region.free f d b i=ay:=by kernel_rfl)(l:(Region.ready f d b).contains i=ay:=by kernel_rfl)(j:∀c a w,Q (.panic c) (a.put g.dst undef) w->Q (.panic c) a w:=by exact λ_ _ _ h=>h)(n:YieldsIf P d S g undef a:=by exact Or.inr ⟨Yp,rfl⟩):wpAnyH P f d Q S (e+1) b a w:=
 wpAnyH_take gA m k l j n hS h
theorem Di{Q:Exit->Act->Zh->Prop}{S:Zh->Prop}(i:Nat){g:Oper}(v:Dg){b:Array Bool}{a:Act}(o:d.toList[i]?=ai g)(n:YieldsIf P d S g v a)(h:wpAnyH P f d Q S e (b.setIfInBounds i ay) (a.put g.dst v) w)(hS:S w:=by first|with_reducible assumption|assumption)(m:Region.noSelect d=ay:=by kernel_rfl)(k:Region.free f d b i=ay:=by kernel_rfl)(l:(Region.ready f d b).contains i=ay:=by kernel_rfl)(j:∀c a w,Q (.panic c) (a.put g.dst v) w->Q (.panic c) a w:=by exact λ_ _ _ h=>h):wpAnyH P f d Q S (e+1) b a w:=
 wpAnyH_take gA m k l j n hS h
theorem Bk{c:Array Oper}{Q:Exit->Act->Zh->Prop}{S:Zh->Prop}(i:Nat){d:Nat}{b:Array Bool}{a:Act}(h:∀e:Act->Zh->Prop,Shut (∀a w,S w->(S w->wpAnyH P f c Q S d (b.setIfInBounds i ay) a w)->e a w)->if Region.wanted o (yielded c a.tmps)=ay then Oper.wp P o a w e Q else e (a.put o.dst undef) w)(j:c.toList[i]?=ai o:=by exact rfl)(g:Region.ready f c b=[i]:=by kernel_rfl):wpAnyH P f c Q S (d+1) b a w:=
 wpAnyH_ready g Yu (AllReadyH.cons gA h AllReadyH.nil)
theorem WG{c:Array Oper}{Q:Exit->Act->Zh->Prop}{S:Zh->Prop}(i j:Nat){p:Oper}{d:Nat}{b:Array Bool}{a:Act}(h:∀e:Act->Zh->Prop,Shut (∀a w,S w->(S w->wpAnyH P f c Q S d (b.setIfInBounds i ay) a w)->e a w)->if Region.wanted o (yielded c a.tmps)=ay then Oper.wp P o a w e Q else e (a.put o.dst undef) w)(k:∀e:Act->Zh->Prop,Shut (∀a w,S w->(S w->wpAnyH P f c Q S d (b.setIfInBounds j ay) a w)->e a w)->if Region.wanted p (yielded c a.tmps)=ay then Oper.wp P p a w e Q else e (a.put p.dst undef) w)(g:c.toList[i]?=ai o:=by exact rfl)(l:c.toList[j]?=ai p:=by exact rfl)(m:Region.ready f c b=[i,j]:=by kernel_rfl):wpAnyH P f c Q S (d+1) b a w:=
 wpAnyH_ready m Yu (AllReadyH.cons (C9 g) h (AllReadyH.cons (C9 l) k AllReadyH.nil))
def Cd(w w':Zh):Prop:=∀b o,(eh w (Zd b o)).isSome=ay->(eh w' (Zd b o)).isSome=ay/\(w.frozen? ⟨b,o,an⟩=ba->w'.frozen? ⟨b,o,an⟩=ba)
theorem Cd.refl(w:Zh):Cd w w:=λ_ _ h=>⟨h,λh=>h⟩
theorem Cd.trans{a b:Zh}(d:Cd a b)(e:Cd b c):Cd a c:=λp o h=>⟨(e p o (d p o h).1).1,λf=>(e p o (d p o h).1).2 ((d p o h).2 f)⟩
abbrev Cd.ag:=@Cd.trans
theorem Cd.cz{d:Zh}(h:Zz w d):Cd w d:=λb o c=>by have⟨v,e⟩:=Option.isSome_iff_exists.1 c;have a:=A4 w ⟨b,o,an⟩ e;rw[h.cell (p:=⟨b,o,an⟩) a,h.frozen (p:=⟨b,o,an⟩) a];exact⟨c,λh=>h⟩
theorem Cd.setCell(w:Zh)(g p:Nat)(v:Dg):Cd w (el w ⟨g,p,an⟩ v):=λb o a=>by
 refine⟨?_,λh=>by simpa [go_sem]using h⟩;by_cases e:(⟨b,o,an⟩:Addr)=⟨g,p,an⟩
 .rw[<-e,cell?_setCell_same' _ _ _ a];rfl
 rw[cell?_setCell_other _ _ _ _ (λc=>e c.symm)];exact a
def Wr(w:Zh)(q n:Nat):Prop:=∀j,j<n->(eh w (Zd q j)).isSome=ay/\w.frozen? ⟨q,j,an⟩=ba
theorem Wr.alive(h:Wr w q n)(b:Cd w c):Wr c q n:=λj a=>⟨(b q j (h j a).1).1,(b q j (h j a).1).2 (h j a).2⟩
theorem Wr.at(h:Wr w q n)(a:j<n):∃v,eh w (Zd q j)=ai v:=Option.isSome_iff_exists.1 (h j a).1
theorem Wr.own{a size:Nat}{e:TypeId}{b:Zj}(h:ej w base e size (Yz g n a) n b):Wr w g (n *size):=λj c=>by have c:=h.1;refine⟨?_,h.frozenAt j⟩;rw[h.cellAt j Yv,Zv Yv];rfl
theorem Od(w:Zh)(g p:Nat)(v:Dg):ek w (el w (Zd g p) v) (ai g):=
 ⟨rfl,rfl,rfl,Yu,λi _ a=>Below.heap_setCell _ _ _ _ (λe=>a (by rw[e]))⟩
def Oe(w wr:Zh)(g n:Nat):Prop:=Wr wr g n/\ek w wr (ai g)/\Cd w wr
theorem Oe.new(h:Wr w g n):Oe w w g n:=⟨h,Bv _ _,Cd.refl _⟩
theorem Oe.A{b:Zh}(h:Oe w wr g n)(a:Zz wr b):Oe w b g n:=
 ⟨h.1.alive (Cd.cz a),AF h.2.1 (Al _ a),h.2.2.ag (Cd.cz a)⟩
theorem Oe.set(h:Oe w wr g n)(o:Nat)(v:Dg):Oe w (el wr (Zd g o) v) g n:=
 ⟨h.1.alive (Cd.setCell _ _ _ _),AF h.2.1 (Od _ _ _ _),h.2.2.ag (Cd.setCell _ _ _ _)⟩
structure KA (w wr:Zh) (lo N g:Nat) (ks:List Kd):Prop where
 row:Wr wr g (ed ks *4)
 cn:bg lo w wr
 al:Cd w wr
 br:∀k,N<=k->k<w.1.size->wr.1[k]?=w.1[k]?
 C:∀i x,ks[i]?=ai x->∃q c,eh wr (Zd g (i *4+3))=ai (bx (ai ⟨q,0,an⟩) (ed x.C) c)/\g<q/\q<N/\Wr wr q (ed x.C)
theorem KA.new{a:Zh}{f:C5}(h:LK a j g f)(c:Zz a w):KA w w j a.1.size g f:=by obtain⟨o,d,m,_⟩:=h;have l:=(d.lt g rfl).2;refine⟨(Wr.own d).alive (Cd.cz c),Ae,Cd.refl _,λ_ _ _=>rfl,λi x e=> ?_⟩;have n:=(Zw e).1;have⟨_,_,_,q,k,b⟩:=m i x e;refine⟨q,_,(c.cell (p:=⟨g,i *4+3,an⟩) l).ag ((d.cellAt _ Yv).ag k),(ownsRow.lt b q rfl).1,(ownsRow.lt b q rfl).2,?_⟩;have:=(Wr.own b).alive (Cd.cz c);rwa[Nat.mul_one]at this
theorem KA.A{j:Zh}{f:C5}(h:KA w wr e N g f)(dm:e<=wr.1.size)(a:Zz wr j):KA w j e N g f:=
 ⟨h.row.alive (Cd.cz a),h.cn.ag (a.ah dm),h.al.ag (Cd.cz a),λk b d=>(a.block k (Zr d h.cn.size)).ag (h.br k b d),λi x n=>by
  have⟨q,c,b,d,l,m⟩:=h.C i x n;exact⟨q,c,(a.cell (p:=⟨g,i *4+3,an⟩) (A4 wr ⟨g,i *4+3,an⟩ b)).ag b,d,l,m.alive (Cd.cz a)⟩⟩
theorem KA.set{f:Nat}{l:C5}(h:KA w wr f N g l)(dm:f<=g)(r:g<N)(j c:Nat)(s:c<=2)(v:Dg):KA w (el wr (Zd g (j *4+c)) v) f N g l:=
 ⟨h.row.alive (Cd.setCell _ _ _ _),h.cn.setCell (p:=⟨g,j *4+c,an⟩) Yv _,h.al.ag (Cd.setCell _ _ _ _),λk b a=>((Od wr g (j *4+c) v).block k (Zr a h.cn.size) Yt).ag (h.br k b a),λi x o=>by
  have⟨q,d,b,a,m,n⟩:=h.C i x o;refine⟨q,d,?_,a,m,n.alive (Cd.setCell _ _ _ _)⟩;rw[cell?_setCell_other _ _ _ _ (by intro e;injection e;omega)];exact b⟩
theorem KA.grown{b:Nat}{m:C5}(h:KA w wr b N g m)(dm:b<=wr.1.size)(j:ek wr l (ai q))(f:Cd wr l)(u:g<q)(s:q<N)(t:b<=g):KA w l b N g m:=
 ⟨h.row.alive f,h.cn.grown j dm (λk a=>by cases a;omega),h.al.ag f,λk c a=>(j.block k (Zr a h.cn.size) (by intro e;cases e;omega)).ag (h.br k c a),λi x p=>by
  have⟨r,d,c,a,n,o⟩:=h.C i x p;exact⟨r,d,j.cell c Yt,a,n,o.alive f⟩⟩
structure WH (w:Zh) (base:Nat) (T:Value) (rs:Zj) (ks:List Kd):Prop where
 len:ed rs=ed ks
 aw:ej w base 50 4 T (ed ks) (Af kC (ks.zip rs))
 C:∀(i:Nat) (k:Kd) (r:Value),ks[i]?=ai k->rs[i]?=ai r->ej w base 9 1 r (ed k.C) (k.C.map Value.string)
 nd:((ef T).toList++rs.filterMap Value.ownBlock).Nodup
theorem WH.same{j:Zh}{d:Zj}{g:C5}(h:WH w base T d g)(f:∀b,b<w.1.size->b∈(ef T).toList++d.filterMap ownBlock->j.1[b]?=w.1[b]?):WH j base T d g:=
 ⟨h.len,Ar h.aw (λb a=>f b (Ab h.aw a).2 gA),λi k r e c=>Ar (h.C i k r e c) (λb a=>f b (Ab (h.C i k r e c) a).2 (mem_append_right _ (mem_filterMap.2 ⟨r,Zs c,a⟩))),h.nd⟩
theorem Bc.A{f:Zh}{P:Dg}{e:Zj}{b:C5}{d:C7}{c:C6}(h:Bc w base T P L e b d c)(a:Zz w f):Bc f base T P L e b d c:=
 ⟨h.len,Ai h.aw a,λi k r g j=>Ai (h.C i k r g j) a,Ai h.pins a,Ai h.bh a,h.nd⟩
section
attribute [local go_sem↓] Go.wp_at_zero Go.wp_at_succ
theorem Jd(t o l y:Int)(q a:Zk)(v u s:Nat)(d:Zl)(w:Zh)(g:Ad w w.1.size a d)(S:ed d<=1048576):
 D4 112 #[.agg (Yb t q v u a (ed d) s o l y)] w λe h=>∃b c f,e=C1 (.map (ai b))/\w.1.size<=b/\AW h 160 b (ed d) c f/\MK d f c/\Zz w h:=by
 have m:= @run_makeMap prog;delta D4;go_in;go_wp2;have⟨j,h⟩:=Ag ((w.alloc (Obj.cells (Yb t q v u a (ed d) s o l y) 32)).alloc (Obj.map #[] 0));have C:bg w.1.size w j:=gB;have M:j.1.size=w.1.size+2:=gB;have D:AW j 160 (w.1.size+1) 0 0 (λ_=>an):=by have:=AW.new (w.alloc (Obj.cells (Yb t q v u a (ed d) s o l y) 32)) 160;rw[h];rw[Aq]at this;exact this
 rw[<-h];clear h m;go_loopw [10] (λi wr=>∃(k c:Nat) (f:Lit->Option Value),k<=ed d/\i=Zg k/\Hid (AW wr 160 (w.1.size+1) k c f)/\Hid (MK (d.take k) f c)/\ek j wr (ai (w.1.size+1))) (λi _=>ed d -(intOf i).toNat)
 case atStart=>exact⟨0,0,_,Aw _,rfl,D,by rw[take_zero];exact MK.nil,Bv _ _⟩
 obtain⟨k,c,f,R,rfl,A,p,m⟩:=hrel;have h:bg w.1.size w wr:=C.grown m Yv gA;have N:=m.size;by_cases hlt:k<ed d
 .obtain⟨b,O,I,Q,r⟩:=(g.A h).at hlt;subst I;have z:Hid (d[k]?=ai d[k]):=gH;have P:=r k _ z;clear r g;generalize d[k]=x at *
  have⟨n,J,F,G,_⟩:=p.get (keyL x);have H:ed (d.take k)=k:=Yt
  rw[H]at G;have L:IntKind.i64.wrap (n+1)=n+1:=Hv Yv Yv;go_wp2;go_region_with (first
   |(go_at_call 132;refine(FP x _).ah ?_;rintro e K ⟨rfl,r⟩;have g:bg wr.1.size wr K:=Ae.drew.ag (r.ah Yu);have⟨st,w3,w4,he,hl1,hl3,hs4,hm4,hg3,hg4⟩:=(A.ak g Yv).iu keyed underlying137 Yo Hm (CW x) (Zg (n+1));rw[J]at he hl1 hl3;unfold goInt at he hs4))
  all_goals
   have E:ek j w4 (ai (w.1.size+1)):=AF m (AF (Al _ g) hg4);have HN:Hid (MK (d.take (k+1)) (upd f (keyL x) (Zg (n+1))) (if (f (keyL x)).isSome then c else c+1)):=(by have:=p.snoc x F Yv;rw[take_add_one,z.o];exact this);have B:=Yw hm4;clear hm4 he hl1 hl3 hs4 hg3 hg4 g r;go_wp2;exact⟨⟨k+1,_,_,Yv,Yn,B,HN,E⟩,Ys⟩
 rw[Zt Yv]at p;obtain rfl:k=ed d:=Yv;go_wp2;go_ret;exact⟨_,c,f,rfl,Yv,A,p,h⟩
theorem UT(s:Zi)(a:Int)(b:Nat)(w:Zh)(d:eh w (Zd b 0)=ai (Zg a)):
 D4 149 #[C0 s,Yy b] w λe c=>e=C1 (ec (!bq ((s.size:Int)=a)))/\c=w:=by
 delta D4;go_in;by_cases h:(s.size:Int)=a
 .have c:((s.size:Int) !=a)=ba:=Yt;go_wp2;go_ret;exact⟨by simp[h],rfl⟩
 have c:((s.size:Int) !=a)=ay:=Yt;go_wp2;go_ret;exact⟨by simp[h],rfl⟩
theorem OO(n b:Nat){c:Zl}(d:Int)(f:Ad w B a c)(C:ed c<=1048576)(p:eh w (Zd b 0)=ai (Zg d)):
 D4 190 #[Cx a (ed c) n,.func (.func 149) #[] #[Yy b]] w λe g=>∃r:Int,e=C1 (Zg r)/\(0<=r↔∃s∈c,¬(s.size:Int)=d)/\g=w:=by
 delta D4;go_in;go_wp2
 go_loop [8] (λi=>∃k:Nat,k<=ed c/\i=Zg k/\Hid (∀j x,j<k->c[j]?=ai x->(x.size:Int)=d)) (λi=>ed c -(intOf i).toNat)
 case atStart=>exact⟨0,Aw _,rfl,λj x h=>Yv⟩
 obtain⟨k,A,rfl,g⟩:=hrel;by_cases hlt:k<ed c
 .obtain⟨u,t,o,z,l⟩:=f.at hlt;subst o;have m:=Yw (Zv hlt);have v:=l k _ m;clear l f;generalize c[k]=x at *
  go_wp2_with fail;refine(UT x d b w p).ah ?_;rintro e D ⟨rfl,rfl⟩;by_cases h:(x.size:Int)=d
  .have l:Hid (∀j y,j<k+1->c[j]?=ai y->(y.size:Int)=d):=gH;have f:bq ((x.size:Int)=d)=ay:=Yt;rw[f];go_wp2;exact⟨⟨k+1,Yv,Yn,l⟩,Ys⟩
  have f:bq ((x.size:Int)=d)=ba:=Yt;rw[f];go_wp2;go_ret;exact⟨_,rfl,⟨λ_=>⟨x,Zs m,h⟩,λ_=>Yv⟩,rfl⟩
 go_wp2;go_ret;refine⟨_,rfl,⟨λh=>Yv,λ⟨s,hs,h⟩=> ?_⟩,rfl⟩;obtain⟨j,q,rfl⟩:=getElem_of_mem hs;exact absurd (g j _ Yv (Zv q)) h
open Classical in
theorem Ih(g b:Nat){c:Zl}(d:Int)(f:Ad w B a c)(l:ed c<=1048576)(j:eh w (Zd b 0)=ai (Zg d)):
 D4 150 #[Cx a (ed c) g,.func (.func 149) #[] #[Yy b]] w λe i=>e=C1 (ec (bq (∃s∈c,¬(s.size:Int)=d)))/\i=w:=by
 delta D4;go_in;go_wp2_with fail;refine(OO g b d f l j).ah ?_;rintro e n ⟨r,rfl,m,rfl⟩;by_cases h:0<=r
 .have k:bq ((0:Int)<=r)=ay:=Yt;go_wp2;go_ret;exact⟨by simp[m.1 h],rfl⟩
 have k:bq ((0:Int)<=r)=ba:=Yt;have i:¬∃s∈c,¬(s.size:Int)=d:=gA;go_wp2;go_ret;exact⟨by rw[decide_eq_false i];rfl,rfl⟩
structure MG (wd:Int) (qs ms:Zl):Prop where
 nq:ed qs<=23200
 T:ed ms<=600
 q:∀s∈qs,(s.size:Int)=wd
 m:∀s∈ms,(s.size:Int)=wd
 nd:ms.Nodup
theorem SN{g:Int}{a:Zl}(k:g<=8)(b:∀s∈a,(s.size:Int)=g):(a.map keyL).Nodup↔a.Nodup:=by
 induction a with
 |nil=>simp
 |cons x r c=>
  have c:=c (λs d=>b s gA);simp only[map_cons,nodup_cons,c];have l:=b x Yu;constructor
  .rintro⟨d,f⟩;exact gG
  rintro⟨d,f⟩;refine⟨λh=> ?_,f⟩;have⟨y,i,e⟩:=mem_map.1 h;have j:=b y gA;have:y=x:=key_inj e Yv Yv;subst this;exact d i
theorem OP(o k j q g:Int)(m n:Nat){d c:Zl}(O:Ad w w.1.size a d)(D:Ad w w.1.size b c)(t:GM d c)(N:g<=8):
 Calls prog 109 #[ca (Yb o a (ed d) m b (ed c) n k j q),Zg g] w fun e Q=>Au (MG g d c) w Q e:=by
 have U:=t.q;have T:=t.m;have i:bg w.1.size w ((w.alloc (bs (Yb o a (ed d) m b (ed c) n k j q) 32)).alloc (bs #[Zg g] 3)):=(Zy).alloc Yu _;go_in;by_cases h1:ed d<=23200
 case neg=>
  have K:bq ((23200:Int)<(ed d:Int))=ay:=Yt;go_wp2;go_ret;exact Au.no (fun h=>h1 h.nq) i
 have K:bq ((23200:Int)<(ed d:Int))=ba:=Yt;by_cases h2:ed c<=600
 case neg=>
  have L:bq ((600:Int)<(ed c:Int))=ay:=Yt;go_wp2;go_ret;exact Au.no (fun h=>h2 h.T) i
 have L:bq ((600:Int)<(ed c:Int))=ba:=Yt;go_wp2_with fail;refine(Ih m _ g (O.A i) t.q (by simp[go_sem])).mono ?_;rintro e Y ⟨rfl,rfl⟩;by_cases h3:∃s∈d,¬(s.size:Int)=g
 .rw[decide_eq_true h3];go_wp2;go_ret;exact Au.no (fun h=>by obtain⟨s,l,A⟩:=h3;exact A (h.q s l)) i
 rw[decide_eq_false h3];go_wp2_with fail;refine(Ih n _ g (D.A i) t.m (by simp[go_sem])).mono ?_;rintro e E ⟨rfl,rfl⟩;by_cases h4:∃s∈c,¬(s.size:Int)=g
 .rw[decide_eq_true h4];go_wp2;go_ret;exact Au.no (fun h=>by obtain⟨s,l,A⟩:=h4;exact A (h.m s l)) i
 rw[decide_eq_false h4];have y:∀s∈d,(s.size:Int)=g:=fun s l=>Classical.byContradiction fun h=>h3 ⟨s,l,h⟩;have v:∀s∈c,(s.size:Int)=g:=fun s l=>Classical.byContradiction fun h=>h4 ⟨s,l,h⟩;have z:=Yw (Zn y v);clear y v h3 h4;go_wp2_with fail;obtain⟨W,B⟩:=Ag ((w.alloc (bs (Yb o a (ed d) m b (ed c) n k j q) 32)).alloc (bs #[Zg g] 3));have G:BM W w.1.size o (bx a (ed d) m) (bx b (ed c) n) k j q:=by rw[B];exact(BM.new w o k j q _ _ 32).A (Zy)
 rw[<-B]at i |-;have F:=Yw (D.U i);obtain⟨Z,x1,R,x3,x4,x5,S⟩:=G;clear B;go_region_with (first
  |(go_at_call 112;refine(Jd o k j q a b (ed d) m n c W.drew F.o Yv).mono ?_;rintro e E ⟨X,J,f,rfl,V,u,x,r⟩;have hlen:=fun P=>u.len underlying137 P;have y2:=(r.cell (p:=⟨w.1.size,2,an⟩) S).trans R))
 all_goals
  have H:Hid (Zz w E):=(i.drew.trans (r.mono i.size));have I:=Yw x;clear hlen u x r;go_wp2;go_ret;refine⟨_,rfl,?_,H.o⟩;have C:=I.o.all;rw[SN N z.o.2]at C;have M:(J:Int)=ed c↔c.Nodup:=by rw[<-C];omega
  simp only[beq_iff_eq,M];exact⟨fun h=>⟨h1,h2,z.o.1,z.o.2,h⟩,fun h=>h.nd⟩
def Er(births ph top at_:Int)(qs ms:Zl):Prop:=
 (ph=0/\qs=[]/\ms=[]/\top=0/\at_=0)\/(ph=1/\0<=top/\top<=births/\at_=top+1)\/(ph=2/\0<=top/\top<=births/\1<=at_/\at_<=top+1)
structure Bb (wd births I top at_ ro:Int) (qs ms:Zl):Prop where
 ig:0<=ro
 jg:ro<=1000000000
 dy:MG wd qs ms
 I:Er births I top at_ qs ms
theorem Nq(m d f k l c:Int)(p q:Nat){j i:Zl}(A:Ad w w.1.size a j)(z:Ad w w.1.size b i)(v:GM j i)(y:l<=8)(B:c<=1000000000):
 D4 70 #[ca (Yb m a (ed j) p b (ed i) q d f k),Zg l,Zg c] w λe g=>Au (Bb l c m d f k j i) w g e:=by
 have D:=v.q;have C:=v.m;have r:bg w.1.size w (w.alloc (bs (Yb m a (ed j) p b (ed i) q d f k) 32)):=gB;have s:=BM.new w m d f k (Cw a j p) (Cw b i q) 32;delta D4;go_in;go_wp2_with fail;refine(Ug k _).ah ?_;rintro e H ⟨rfl,rfl⟩;by_cases h1:0<=k/\k<=1000000000
 case neg=>rw[decide_eq_false h1];go_wp2;go_ret;exact Au.no (λh=>h1 ⟨h.ig,h.jg⟩) r
 rw[decide_eq_true h1];go_wp2_with fail;refine(OP m d f k l p q (A.U r) (z.U r) v y).ah ?_;rintro e I ⟨t,rfl,o,n⟩;obtain⟨g,J,K,L,M,N,O,Q⟩:=r.ag (n.ah Yu),s.A n;clear n s;cases t with
 |false=>go_wp2;go_ret;exact Au.no (λh=>by have:=o.2 h.dy;cases this) g
 |true=>
  have n:=o.1 rfl;have HS:=Yw n;clear o n;by_cases p0:m=0
  .subst p0;by_cases e1:ed j=0
   .by_cases e2:ed i=0
    .by_cases e3:d=0
     .by_cases e4:f=0
      .go_wp2;go_ret;exact Au.yes ⟨h1.1,h1.2,HS,cr ⟨rfl,A9 e1,A9 e2,e3,e4⟩⟩ g
      have u:(f==0)=ba:=Yt;go_wp2;go_ret;exact Au.no (P:=Bb l c 0 d f k j i) (λh=>by have:=h.I;unfold Er at this;simp at this;have n:=this.2.2.2;omega) g
     have o:(d==0)=ba:=Yt;go_wp2;go_ret;exact Au.no (λh=>by have:=h.I;unfold Er at this;simp at this;have n:=this.2.2.1;omega) g
    have t:((ed i:Int)==0)=ba:=gA;go_wp2;go_ret;exact Au.no (λh=>by have:=h.I;unfold Er at this;simp at this;exact e2 gA) g
   have s:((ed j:Int)==0)=ba:=gA;go_wp2;go_ret;exact Au.no (λh=>by have:=h.I;unfold Er at this;simp at this;exact e1 gA) g
  have E:(m==0)=ba:=Yt;by_cases p1:m=1
  .subst p1;by_cases e1:0<=d
   .by_cases e2:d<=c
    .have x:IntKind.i64.wrap (d+1)=d+1:=Hv Yv Yv;by_cases e3:f=d+1
     .have o:(f==d+1)=ay:=Yt;go_wp2;go_ret;exact Au.yes (P:=Bb l c 1 d f k j i) ⟨h1.1,h1.2,HS,ct (cr ⟨rfl,e1,e2,e3⟩)⟩ g
     have o:(f==d+1)=ba:=Yt;go_wp2;go_ret;exact Au.no (P:=Bb l c 1 d f k j i) (λh=>by have:=h.I;unfold Er at this;simp at this;have n:=this.2.2;omega) g
    have t:bq (d<=c)=ba:=Yt;go_wp2;go_ret;exact Au.no (P:=Bb l c 1 d f k j i) (λh=>by have:=h.I;unfold Er at this;simp at this;have n:=this.2.1;omega) g
   have s:bq (0<=d)=ba:=Yt;go_wp2;go_ret;exact Au.no (P:=Bb l c 1 d f k j i) (λh=>by have:=h.I;unfold Er at this;simp at this;have n:=this.1;omega) g
  have F:(m==1)=ba:=Yt;by_cases p2:m=2
  case neg=>
   have G:(m==2)=ba:=Yt;go_wp2;go_ret;exact Au.no (P:=Bb l c m d f k j i) (λh=>by rcases h.I with h|h|h;exact p0 h.1;exact p1 h.1;exact p2 h.1) g
  subst p2;by_cases e1:0<=d
  .by_cases e2:d<=c
   .have x:IntKind.i64.wrap (d+1)=d+1:=Hv Yv Yv;by_cases e3:1<=f
    .by_cases e4:f<=d+1
     .have u:bq (f<=d+1)=ay:=Yt;go_wp2;go_ret;exact Au.yes (P:=Bb l c 2 d f k j i) ⟨h1.1,h1.2,HS,ct (ct ⟨rfl,e1,e2,e3,e4⟩)⟩ g
     have u:bq (f<=d+1)=ba:=Yt;go_wp2;go_ret;exact Au.no (P:=Bb l c 2 d f k j i) (λh=>by have:=h.I;unfold Er at this;simp at this;have n:=this.2.2.2;omega) g
    have o:bq (1<=f)=ba:=Yt;go_wp2;go_ret;exact Au.no (P:=Bb l c 2 d f k j i) (λh=>by have:=h.I;unfold Er at this;simp at this;have n:=this.2.2.1;omega) g
   have t:bq (d<=c)=ba:=Yt;go_wp2;go_ret;exact Au.no (P:=Bb l c 2 d f k j i) (λh=>by have:=h.I;unfold Er at this;simp at this;have n:=this.2.1;omega) g
  have s:bq (0<=d)=ba:=Yt;go_wp2;go_ret;exact Au.no (P:=Bb l c 2 d f k j i) (λh=>by have:=h.I;unfold Er at this;simp at this;have n:=this.1;omega) g
end
def BR(ss tt:Zl):Bool:=bq (ed ss+ed tt<=4000)&&(ss++tt).all (fun s=>decide (s.size<=5000))
def Ec(ss:Zl):Bool:=ss.all (fun s=>decide (s.size<=5000))
theorem LU(a b:Zl):BR a b=(bq (ed a+ed b<=4000)&&(Ec a&&Ec b)):=by simp[BR,Ec]
theorem KB(a:Zl)(k:Nat)(s:Zi)(h:a[k]?=ai s):Ec (a.take (k+1))=(Ec (a.take k)&&bq (s.size<=5000)):=by obtain⟨b,rfl⟩:=Zw h;unfold Ec;rw[Zu b,all_append,all_cons,all_nil,Bool.and_true]
theorem JC(a:Zl)(k:Nat)(s:Zi)(h:a[k]?=ai s)(b:5000<s.size):Ec a=ba:=by simp only[Ec,all_eq_false];exact⟨s,Zs h,Yt⟩
theorem OQ(c d:Nat){f g:Zl}(E:B<=w.1.size)(A:Ad w B a f)(z:Ad w B b g)(G:ed f<=1048576)(D:ed g<=1048576)(u:∀s∈f,s.size<=1048576)(q:∀s∈g,s.size<=1048576):
 D4 37 #[ca #[Cx a (ed f) c,Cx b (ed g) d]] w λe h=>e=C1 (ec (BR f g))/\Zz w h:=by
 have j:bg w.1.size w (w.alloc (bs #[Cw a f c,Cw b g d] 25)):=gB;delta D4;go_in;go_wp2
 go_loop [3] (λi=>∃k:Nat,k<=ed f/\i=Zg k/\Ec (f.take k)=ay) (λi=>ed f -(intOf i).toNat)
 case atStart=>exact⟨0,Aw _,rfl,by simp[Ec]⟩
 obtain⟨k,F,rfl,o⟩:=hrel;by_cases hlt:k<ed f
 .obtain⟨p,r,t,y,l⟩:=A.at hlt;subst t;have v:=(j.cell (p:=⟨p,r+k,an⟩) Yt).ag (l k f[k] (Zv hlt));have m:Hid (Ec (f.take (k+1))=(Ec (f.take k)&&bq (f[k].size<=5000))):=KB f k _ (Zv hlt);have n:Hid (5000<f[k].size->Ec f=ba):=JC f k _ (Zv hlt);have x:=u f[k] (getElem_mem hlt);clear l u q;generalize f[k]=s at *
  by_cases hbig:5000<s.size
  .go_wp2;go_ret;exact⟨by rw[LU,n.o hbig];simp,j⟩
  go_wp2;refine⟨⟨k+1,Yv,Yn,?_⟩,Ys⟩;rw[m.o,o];simp;omega
 rw[Zt Yv]at o;go_wp2
 go_loop [4] (λi=>∃k:Nat,k<=ed g/\i=Zg k/\Ec (g.take k)=ay) (λi=>ed g -(intOf i).toNat)
 case atStart=>exact⟨0,Aw _,rfl,by simp[Ec]⟩
 obtain⟨f,C,rfl,h⟩:=hrel;by_cases hlt2:f<ed g
 .obtain⟨p,r,t,y,l⟩:=z.at hlt2;subst t;have v:=(j.cell (p:=⟨p,r+f,an⟩) Yt).ag (l f g[f] (Zv hlt2));have m:Hid (Ec (g.take (f+1))=(Ec (g.take f)&&bq (g[f].size<=5000))):=KB g f _ (Zv hlt2);have n:Hid (5000<g[f].size->Ec g=ba):=JC g f _ (Zv hlt2);have x:=q g[f] (getElem_mem hlt2);clear l u q;generalize g[f]=s at *
  by_cases hbig:5000<s.size
  .go_wp2;go_ret;exact⟨by rw[LU,n.o hbig];simp,j⟩
  go_wp2;refine⟨⟨f+1,Yv,Yn,?_⟩,Ys⟩;rw[m.o,h];simp;omega
 rw[Zt Yv]at h;go_wp2;go_ret;refine⟨?_,j⟩;rw[LU,o,h];simp;omega
def KC(w:Zh)(b:Nat)(u v:Value):Prop:=eh w (Zd b 0)=ai u/\eh w (Zd b 1)=ai v/\b<w.1.size
theorem KC.new(w:Zh)(u v:Dg)(t:TypeId):KC (w.alloc (bs #[u,v] t)) w.1.size u v:=⟨Yu,Yu,Yu⟩
theorem KC.A{b:Nat}(h:KC w b u v)(a:Zz w c):KC c b u v:=
 ⟨(a.cell (p:=⟨b,0,an⟩) h.2.2).ag h.1,(a.cell (p:=⟨b,1,an⟩) h.2.2).ag h.2.1,Zr h.2.2 a.size⟩
theorem KC.alloc{b:Nat}(h:KC w b u v)(o:Obj):KC (w.alloc o) b u v:=h.A (Zy)
theorem Bc.dj{b:Nat}{P:Dg}{e:Zj}{j:C5}{l:C7}{k:C6}(h:Bc w b T P L e j l k):∀g∈BJ T P L e,g<w.1.size:=by
 intro g a;unfold BJ at a;simp only[A5,A6,mem_filterMap]at a;rcases a with a|a|a|⟨r,f,a⟩
 .exact(Ab h.aw a).2
 .exact(Ab h.pins a).2
 .exact(Ab h.bh a).2
 obtain⟨i,c⟩:=A3 f;have d:=(Zw c).1;rw[h.len]at d;exact(Ab (h.C i _ r (Zv d) c) a).2
theorem Bc.apart{d:Nat}{P:Dg}{f:Zj}{n:C5}{p:C7}{o:C6}(h:Bc w d T P L f n p o){V:List Nat}(s:Tn V w l)(q:∀b∈V,b∉BJ T P L f):Bc l d T P L f n p o:=by
 have c:∀g,g∈BJ T P L f->g<w.1.size->l.1[g]?=w.1[g]?:=λg a j=>s.block g j (λe=>q g e a);refine⟨h.len,Ar h.aw (λg a=>c g I8 (Ab h.aw a).2),λi k r m j=>Ar (h.C i k r m j) (λg a=>c g (by unfold BJ;simp only[A5,mem_filterMap];exact ct (ct (ct ⟨r,Zs j,a⟩))) (Ab (h.C i k r m j) a).2),Ar h.pins (λg a=>c g I8 (Ab h.pins a).2),Ar h.bh (λg a=>c g I8 (Ab h.bh a).2),h.nd⟩
theorem Bc.rows{P:Dg}{a:Zj}{b:List Kd}{t:List Pd}{r:List Ld}(h:Bc w n T P L a b t r):∃m u l s f q,T=bx m (ed b) u/\P=bx l (ed t) s/\L=bx f (ed r) q/\BV w w.1.size m l f b t r:=by
 obtain⟨m,u,rfl⟩:=AB h.aw;obtain⟨l,s,rfl⟩:=AB h.pins;obtain⟨f,q,rfl⟩:=AB h.bh;refine⟨m,u,l,s,f,q,rfl,rfl,rfl,⟨?_,Bd.own h.pins,Ba.own h.bh⟩⟩;rcases h.aw.2 with⟨_,p⟩|⟨g,E,F,e,I,z,_⟩
 .exact cr (length_eq_zero_iff.1 p)
 cases e;refine ct ⟨g,0,rfl,(A0.1 z).1,λi k o=> ?_⟩;have J:=(Zw o).1;have hlen:=h.len;have A:a[i]?=ai a[i]:=gA;have B:(b.zip a)[i]?=ai (k,a[i]):=gA;have G:ed (b.zip a)=ed b:=Yt;have c:∀j,j<4->eh w (Zd g (i *4+j))=(kC (k,a[i]))[j]?:=λj d=>(h.aw.cellAt (i *4+j) Yv).ag (Cy Jl B d);have d:=h.C i k _ o A;have⟨C,D,o⟩:=AB d;rw[Ax];refine⟨by simpa [kC]using c 0 Yq,by simpa [kC]using c 1 Yq,by simpa [kC]using c 2 Yq,C,D,?_,?_⟩
 .exact(show eh w (Zd g (i *4+3))=ai a[i] by simpa [kC]using c 3 Yq).ag (congrArg ai o)
 rw[o]at d;rcases d.2 with⟨_,p⟩|⟨H,v,x,y,_⟩
 .exact cr (A9 p)
 cases y;exact Ad.own d
theorem Bc.same{P:Dg}{m:Zj}{f:C5}{l:C7}{j:C6}(h:Bc w base T P L m f l j)(p:∀b,base<=b->b<w.1.size->c.1[b]?=w.1[b]?):Bc c base T P L m f l j:=by have a:∀{e:TypeId} {size:Nat} {v:Dg} {n:Nat} {xs:Zj},ej w base e size v n xs->ej c base e size v n xs:=λh=>Ar h (λg d=>p g (Ab h d).1 (Ab h d).2);exact⟨h.len,a h.aw,λi k r d o=>a (h.C i k r d o),a h.pins,a h.bh,h.nd⟩
theorem Jy.A{b:C5}(h:Jy w ⟨g,0,an⟩ b)(e:Zz w c):Jy c ⟨g,0,an⟩ b:=by intro i k f;have⟨d,j,a⟩:=h i k f;exact⟨d,j,(e.cell (p:=⟨g,0+i *4+3,an⟩) (A4 w _ a)).ag a⟩
theorem GO(c d:Nat){f h:Zl}(p:Ad w w.1.size a f)(o:Ad w w.1.size b h)(J:ed f<=1048576)(G:ed h<=1048576):
 D4 51 #[ca #[Cx a (ed f) c,Cx b (ed h) d]] w λe i=>∃x k y l,e=C1 (ca #[Cx x (ed f) k,Cx y (ed h) l])/\
  ej i w.1.size 9 1 (Cx x (ed f) k) (ed f) (f.map string)/\ej i w.1.size 9 1 (Cx y (ed h) l) (ed h) (h.map string)/\(∀g,ef (Cx x (ed f) k)=ai g->ef (Cx y (ed h) l)≠ai g)/\Zz w i:=by
 have⟨W,i⟩:=Ag ((w.alloc (bs #[Cw a f c,Cw b h d] 25)).alloc (bs #[Zb,Zb] 25));have j:=(AT i).1;have q:=(AT i).2.2.1;have r:Aa W (w.1.size+1) [Zb,Zb]:=by have s:=Aa.new (w.alloc (bs #[Cw a f c,Cw b h d] 25)) [Zb,Zb] 25;rw[Aq]at s;rw[i];exact s
 have K:=(AT i).2.1;have m:=Yw i;have t:Hid (Aa W _ _):=(AT i).2.2.1;have n:Hid (Aa W (w.1.size+1) [Zb,Zb]):=r;have E:Hid (Ad w w.1.size a f):=p;have D:Hid (Ad w w.1.size b h):=o;obtain⟨H,I⟩:=Aa.c2 q 0 1;clear i q r p o;delta D4;go_in;go_upto_region 1 with fail;rw[<-m.o];clear m;go_region_with (first
  |(go_at_call 93;refine(DH c (Ad.U (w:=w) E j.drew) J).ah ?_;rintro e F ⟨x,k,rfl,p,u⟩;have i:bg W.1.size W F:=(Below.refl W.1.size W).drew.ag u;obtain⟨b1,_⟩:=Aa.A t i 1 _ rfl)
  |(go_at_call 93;refine(DH d (Ad.U (w:=w) D (j.ag (i.ah j.size))) G).ah ?_;rintro e C ⟨y,l,rfl,q,o⟩;have m:bg W.1.size W C:=i.ag (o.ah i.size);obtain⟨d0,e0⟩:=Aa.A n m 0 _ rfl;obtain⟨d1,e1⟩:=Aa.A n m 1 _ rfl))
 all_goals
  have z:ej C (w.1.size+2) 9 1 (Cw x f k) (ed f) (f.map string):=(DF p o).ah Yt;have A:ej C (w.1.size+2) 9 1 (Cw y h l) (ed h) (h.map string):=q.ah (C8 i.size);have B:∀g,ef (Cw x f k)=ai g->ef (Cw y h l)≠ai g:=λg s r=>by have L:=(Ab p s).2;have M:=(Ab q r).1;omega
  have r:=Yw (Zn z (Zn A (Zn B (j.ag (m.ah j.size)))));clear z A p q u o i m t n E D H I j B;go_wp2;refine Co (ca #[Cw x f k,Cw y h l]) (by simp[results,results51,go_sem,d0,d1]) ⟨x,k,y,l,rfl,?_,?_,r.2.2.1,?_⟩
  .refine ownsRow.ah ?_ (show w.1.size<=w.1.size+2 by omega)
   iterate 2 (refine ownsRow_setCell_below ?_ Ym _)
   exact r.1
  .refine ownsRow.ah ?_ (show w.1.size<=w.1.size+2 by omega)
   iterate 2 (refine ownsRow_setCell_below ?_ Ym _)
   exact r.2.1
  iterate 2 (refine Below.setCell ?_ Yu _)
  exact r.2.2.2
theorem SO(c d:Nat){f g:Zl}(m:Ad w w.1.size a f)(l:Ad w w.1.size b g)(N:ed f<=100000)(H:ed g<=1048576):
 D4 148 #[Cx a (ed f) c,Cx b (ed g) d] w λe j=>Au (f=g) w j e:=by
 have p:Hid (∀X,Zz w X->Ad X w.1.size a f/\Ad X w.1.size b g):=λX j=>⟨m.A j,l.A j⟩;clear m l;by_cases hlen:ed f=ed g
 case neg=>
  have v:((ed f:Int)==(ed g:Int))=ba:=Yt;have C:((ed f:Int) !=(ed g:Int))=ay:=Yt;delta D4;go_in;go_wp2;go_ret;exact Au.no (λh=>hlen K9) Ae
 have v:((ed f:Int) !=(ed g:Int))=ba:=Yt;have n:=Yw hlen;clear hlen;delta D4;go_in;go_wp2;go_loopw [13] (λi wr=>∃k:Nat,k<=ed f/\i=Zg k/\Hid (f.take k=g.take k/\Zz w wr)) (λi _=>ed f -(intOf i).toNat)
 case atStart=>exact⟨0,Aw _,rfl,⟨Yu,Ae⟩⟩
 obtain⟨k,M,rfl,l⟩:=hrel;by_cases hlt:k<ed f
 case neg=>
  obtain rfl:k=ed f:=Yv;have m:=l.1;rw[Zt (Zx),Zt (C8 n.o)]at m;go_wp2;go_ret;exact Au.yes m l.2
 have j:k<ed g:=gG;obtain⟨⟨Q,R,E,A,o⟩,O,P,F,z,m⟩:=(p wr l.2).1.at hlt,(p wr l.2).2.at j;subst E F;obtain⟨K,L,r⟩:=o k _ (Zv hlt),m k _ (Zv j),l.2.size;obtain⟨J,I,t,u⟩:=Zr A r,Zr z r,Yw (Zu hlt),Yw (Zu j);have HN:Hid (∀x y,f[k]?=ai x->g[k]?=ai y->x≠y->f≠g):=λx y B q s e=>by subst e;rw[B]at q;exact s (A2 q)
 have q:=Yw (Zv hlt);have s:=Yw (Zv j);have G:(k:Int)<ed g:=Yv;clear o m;generalize f[k]=x at *
 generalize g[k]=y at *
 have o:=Yw l.2;by_cases hxy:x=y
 .subst hxy;have B:(x.toList !=x.toList)=ba:=Yu;go_wp2
  go_region
  all_goals go_wp2
  all_goals exact⟨⟨k+1,Yv,Yn,⟨by rw[t.o,u.o,l.1],o.drew⟩⟩,Ys⟩
 have B:=BZ hxy;have D:(x.toList !=y.toList)=ay:=gA;go_wp2
 go_region
 all_goals go_wp2
 all_goals go_ret
 all_goals exact Au.no (λh=>HN x y q s hxy h) o.drew
theorem Kd.eq_iff(x y:Kd):x=y↔x.sum=y.sum/\x.born=y.born/\x.Q=y.Q/\x.C=y.C:=by cases x;cases y;simp
theorem PZ(x y:Kd)(c d:Nat)(l:Ad w w.1.size a x.C)(k:Ad w w.1.size b y.C)(z:ed x.C<=100000)(o:ed y.C<=1048576):
 D4 105 #[ca #[C0 x.sum,Zg x.born,C0 x.Q,Cx a (ed x.C) c],ca #[C0 y.sum,Zg y.born,C0 y.Q,Cx b (ed y.C) d]] w λe f=>Au (x=y) w f e:=by
 have⟨W,j⟩:=Ag ((w.alloc (bs #[C0 x.sum,Zg x.born,C0 x.Q,Cw a x.C c] 50)).alloc (bs #[C0 y.sum,Zg y.born,C0 y.Q,Cw b y.C d] 50));have f:=(AT j).1;have m:=(AT j).2.2.1;have n:Aa W (w.1.size+1) [C0 y.sum,Zg y.born,C0 y.Q,Cw b y.C d]:=by have g:=Aa.new (w.alloc (bs #[C0 x.sum,Zg x.born,C0 x.Q,Cw a x.C c] 50)) [C0 y.sum,Zg y.born,C0 y.Q,Cw b y.C d] 50;rw[Aq]at g;rw[j];exact g
 have q:=Yw (SO c d (l.U f) (k.U f) z o);obtain⟨A,B,C,D⟩:=Aa.c4 m 0 1 2 3;obtain⟨⟨v0,E,F,G⟩,i,p⟩:=Aa.c4 n 0 1 2 3,Yw j,Yw (Kd.eq_iff x y);clear j l k m n;by_cases g:x.sum=y.sum
 .have s:(x.sum.toList==y.sum.toList)=ay:=gA;have l:=Yw g;clear g;by_cases h2:x.born=y.born
  .have t:(x.born==y.born)=ay:=Yt;have m:=Yw h2;clear h2;by_cases h3:x.Q=y.Q
   .have u:(x.Q.toList==y.Q.toList)=ay:=gA;have n:=Yw h3;clear h3;delta D4;go_in;go_upto_region 1 with fail;rw[<-i.o];clear i;go_wp2_with fail;refine q.Ak ?_;rintro e H ⟨r,rfl,k,j⟩;have v:=f.ag (j.ah f.size);clear A B C D v0 E F G;go_wp2;go_ret;exact⟨r,rfl,by rw[k,p.o];exact⟨λh=>⟨l,m,n,h⟩,λh=>h.2.2.2⟩,v⟩
   have u:=BZ h3;delta D4;go_in;go_upto_region 1 with fail;rw[<-i.o];go_wp2_with fail
   all_goals (try go_wp2)
   all_goals (try go_ret)
   all_goals exact Au.no (λh=>h3 K9) f
  have t:(x.born==y.born)=ba:=Yt;delta D4;go_in;go_upto_region 1 with fail;rw[<-i.o];go_wp2_with fail
  all_goals (try go_wp2)
  all_goals (try go_ret)
  all_goals exact Au.no (λh=>h2 K9) f
 have s:=BZ g;delta D4;go_in;go_upto_region 1 with fail;rw[<-i.o];go_wp2_with fail
 all_goals (try go_wp2)
 all_goals (try go_ret)
 all_goals exact Au.no (λh=>g K9) f
theorem OR(c d:Nat){f g:C5}(m:BH w w.1.size a f)(l:BH w w.1.size b g)(hl:ed f<=100000)(zB:ed g<=1048576)(n:∀k∈f,ed k.C<=100000)(t:∀k∈g,ed k.C<=1048576):
 D4 104 #[Cx a (ed f) c,Cx b (ed g) d,.func (.func 105) #[] #[]] w λe j=>Au (f=g) w j e:=by
 have C:Hid (∀X,Zz w X->BH X w.1.size a f/\BH X w.1.size b g):=λX j=>⟨m.A j,l.A j⟩;clear m l;by_cases hlen:ed f=ed g
 case neg=>
  have J:((ed f:Int)==(ed g:Int))=ba:=Yt;have D:((ed f:Int) !=(ed g:Int))=ay:=Yt;delta D4;go_in;go_wp2;go_ret;exact Au.no (λh=>hlen K9) Ae
 have J:((ed f:Int) !=(ed g:Int))=ba:=Yt;have u:=Yw hlen;clear hlen;delta D4;go_in;go_wp2;go_loopw [17] (λi wr=>∃k:Nat,k<=ed f/\i=Zg k/\Hid (f.take k=g.take k/\Zz w wr)) (λi _=>ed f -(intOf i).toNat)
 case atStart=>exact⟨0,Aw _,rfl,⟨Yu,Ae⟩⟩
 obtain⟨k,hk,rfl,l⟩:=hrel;by_cases hlt:k<ed f
 .have j:k<ed g:=gG;obtain⟨⟨rb,ro,Y,L,s⟩,qb,qo,Z,K,q⟩:=(C wr l.2).1.at hlt,(C wr l.2).2.at j;subst Y Z;obtain⟨⟨O,P,Q,z,A,R,v⟩,⟨S,T,V,o,p,W,m⟩,r⟩:=s k _ (Zv hlt),q k _ (Zv j),l.2.size;obtain⟨zE,zC,H,I⟩:=Zr L r,Zr K r,Yw (Zu hlt),Yw (Zu j);have HN:Hid (∀x y,f[k]?=ai x->g[k]?=ai y->x≠y->f≠g):=λx y n t B e=>by subst e;rw[n]at t;exact B (A2 t)
  obtain⟨F,G,M,N⟩:=Yw (Zv hlt),Yw (Zv j),n _ (getElem_mem hlt),t _ (getElem_mem j);have zA:(k:Int)<ed g:=Yv;clear s q;generalize f[k]=x at *
  generalize g[k]=y at *
  have⟨U,q⟩:=Ag ((wr.alloc (bs #[C0 x.sum,Zg x.born,C0 x.Q,Cw z x.C A] 50)).alloc (bs #[C0 y.sum,Zg y.born,C0 y.Q,Cw o y.C p] 50));have s:=(AT q).1;have B:=Yw (l.2.ag (s.ah r));have D:=(AT q).2.2.1;have E:Aa U (wr.1.size+1) [C0 y.sum,Zg y.born,C0 y.Q,Cw o y.C p]:=by have n:=Aa.new (wr.alloc (bs #[C0 x.sum,Zg x.born,C0 x.Q,Cw z x.C A] 50)) [C0 y.sum,Zg y.born,C0 y.Q,Cw o y.C p] 50;rw[Aq]at n;rw[q];exact n
  have HS:=Yw (PZ x y A p (Ad.U (Ad.ah v r) s) (Ad.U (Ad.ah m r) s) M N);obtain⟨h,i,X,m3⟩:=Aa.c4 D 0 1 2 3;obtain⟨n0,n1,n2,n3⟩:=Aa.c4 E 0 1 2 3;have HU:=Yw q;clear q D E v m s;go_upto_region 7 with fail;rw[<-HU.o];clear HU O P Q R S T V W;go_wp2_with fail;refine HS.Ak ?_;rintro e E ⟨q,rfl,v,m⟩;have s:=Yw (B.ag (m.ah B.size));clear h i X m3 n0 n1 n2 n3 HS m
  cases q with
  |true=>have q:=v.1 rfl;go_wp2;exact⟨⟨k+1,Yv,Yn,⟨by rw[H.o,I.o,l.1,q],s⟩⟩,Ys⟩
  |false=>have q:x≠y:=gA;go_wp2;go_ret;exact Au.no (λh=>HN x y F G q h) s
 obtain rfl:k=ed f:=Yv;have m:=l.1;rw[Zt (Zx),Zt (C8 u.o)]at m;go_wp2;go_ret;exact Au.yes m l.2
theorem SP(c d:Nat){f g:C7}(m:Bd w w.1.size a f)(l:Bd w w.1.size b g)(Q:ed f<=100000)(H:ed g<=1048576):
 D4 106 #[Cx a (ed f) c,Cx b (ed g) d] w λe j=>Au (f=g) w j e:=by
 have s:Hid (∀X,Zz w X->Bd X w.1.size a f/\Bd X w.1.size b g):=λX j=>⟨m.A j,l.A j⟩;clear m l;by_cases hlen:ed f=ed g
 case neg=>
  have z:((ed f:Int)==(ed g:Int))=ba:=Yt;have D:((ed f:Int) !=(ed g:Int))=ay:=Yt;delta D4;go_in;go_wp2;go_ret;exact Au.no (λh=>hlen K9) Ae
 have z:((ed f:Int) !=(ed g:Int))=ba:=Yt;have n:=Yw hlen;clear hlen;delta D4;go_in;go_wp2;go_loopw [13] (λi wr=>∃k:Nat,k<=ed f/\i=Zg k/\Hid (f.take k=g.take k/\Zz w wr)) (λi _=>ed f -(intOf i).toNat)
 case atStart=>exact⟨0,Aw _,rfl,⟨Yu,Ae⟩⟩
 obtain⟨k,P,rfl,l⟩:=hrel;by_cases hlt:k<ed f
 case neg=>
  obtain rfl:k=ed f:=Yv;have m:=l.1;rw[Zt (Zx),Zt (C8 n.o)]at m;go_wp2;go_ret;exact Au.yes m l.2
 have j:k<ed g:=gG;obtain⟨⟨U,V,E,C,q⟩,S,T,F,B,m⟩:=(s wr l.2).1.at hlt,(s wr l.2).2.at j;subst E F;obtain⟨⟨K,L⟩,⟨M,N⟩,t⟩:=q k _ (Zv hlt),m k _ (Zv j),l.2.size;obtain⟨J,I,u,v⟩:=Zr C t,Zr B t,Yw (Zu hlt),Yw (Zu j);have HN:Hid (∀x y,f[k]?=ai x->g[k]?=ai y->x≠y->f≠g):=λx y r o p e=>by subst e;rw[r]at o;exact p (A2 o)
 have o:=Yw (Zv hlt);have p:=Yw (Zv j);have G:(k:Int)<ed g:=Yv;clear q m;generalize f[k]=x at *
 generalize g[k]=y at *
 have q:=Yw l.2;by_cases hxy:x=y
 .subst hxy;go_wp2
  go_region
  all_goals go_wp2
  all_goals exact⟨⟨k+1,Yv,Yn,⟨by rw[u.o,v.o,l.1],q.drew⟩⟩,Ys⟩
 by_cases hn:x.name=y.name
 .have R:¬x.sum.toList=y.sum.toList:=λe=>hxy (by
   have O:=Gm e;cases x;cases y;simp_all)
  have A:x.name.toList=y.name.toList:=gA;have r:=Yw hxy;clear hn hxy;go_wp2
  go_region
  all_goals go_wp2
  all_goals go_ret
  all_goals exact Au.no (λh=>HN x y o p r h) q.drew
 have A:¬x.name.toList=y.name.toList:=λe=>hn (Gm e);have r:=Yw hxy;clear hn hxy;go_wp2
 go_region
 all_goals go_wp2
 all_goals go_ret
 all_goals exact Au.no (λh=>HN x y o p r h) q.drew
theorem SQ(c d:Nat){f g:C6}(m:Ba w w.1.size a f)(l:Ba w w.1.size b g)(R:ed f<=100000)(H:ed g<=1048576):
 D4 107 #[Cx a (ed f) c,Cx b (ed g) d] w λe j=>Au (f=g) w j e:=by
 have s:Hid (∀X,Zz w X->Ba X w.1.size a f/\Ba X w.1.size b g):=λX j=>⟨m.A j,l.A j⟩;clear m l;by_cases hlen:ed f=ed g
 case neg=>
  have z:((ed f:Int)==(ed g:Int))=ba:=Yt;have D:((ed f:Int) !=(ed g:Int))=ay:=Yt;delta D4;go_in;go_wp2;go_ret;exact Au.no (λh=>hlen K9) Ae
 have z:((ed f:Int) !=(ed g:Int))=ba:=Yt;have q:=Yw hlen;clear hlen;delta D4;go_in;go_wp2;go_loopw [13] (λi wr=>∃k:Nat,k<=ed f/\i=Zg k/\Hid (f.take k=g.take k/\Zz w wr)) (λi _=>ed f -(intOf i).toNat)
 case atStart=>exact⟨0,Aw _,rfl,⟨Yu,Ae⟩⟩
 obtain⟨k,Q,rfl,l⟩:=hrel;by_cases hlt:k<ed f
 case neg=>
  obtain rfl:k=ed f:=Yv;have m:=l.1;rw[Zt (Zx),Zt (C8 q.o)]at m;go_wp2;go_ret;exact Au.yes m l.2
 have j:k<ed g:=gG;obtain⟨⟨V,W,E,B,p⟩,T,U,F,A,m⟩:=(s wr l.2).1.at hlt,(s wr l.2).2.at j;subst E F;obtain⟨⟨K,L,M⟩,⟨N,O,P⟩,t⟩:=p k _ (Zv hlt),m k _ (Zv j),l.2.size;obtain⟨J,I,u,v⟩:=Zr B t,Zr A t,Yw (Zu hlt),Yw (Zu j);have HN:Hid (∀x y,f[k]?=ai x->g[k]?=ai y->x≠y->f≠g):=λx y r n o e=>by subst e;rw[r]at n;exact o (A2 n)
 have n:=Yw (Zv hlt);have o:=Yw (Zv j);have G:(k:Int)<ed g:=Yv;clear p m;generalize f[k]=x at *
 generalize g[k]=y at *
 have p:=Yw l.2;by_cases hxy:x=y
 .subst hxy;go_wp2
  go_region
  all_goals go_wp2
  all_goals exact⟨⟨k+1,Yv,Yn,⟨by rw[u.o,v.o,l.1],p.drew⟩⟩,Ys⟩
 have r:=Yw hxy;by_cases hn:x.M=y.M
 .by_cases hs:x.sum=y.sum
  .have S:¬x.ci=y.ci:=λe=>hxy (by
    cases x;cases y;simp_all)
   have C:x.sum.toList=y.sum.toList:=gA;clear hs hxy;go_wp2
   go_region
   all_goals go_wp2
   all_goals go_ret
   all_goals exact Au.no (λh=>HN x y n o r h) p.drew
  have C:¬x.sum.toList=y.sum.toList:=λe=>hs (Gm e);clear hs hxy;go_wp2
  go_region
  all_goals go_wp2
  all_goals go_ret
  all_goals exact Au.no (λh=>HN x y n o r h) p.drew
 clear hxy;go_wp2
 go_region
 all_goals go_wp2
 all_goals go_ret
 all_goals exact Au.no (λh=>HN x y n o r h) p.drew
theorem OS(E t f d r j c b:Int)(a p l F D C:Zk)(I H G B x v:Nat)(z n:C5)(u m:C7)(A o:C6)(w:Zh)(h:BV w w.1.size a p l z u A)(Z:BV w w.1.size F D C n m o)(hl:ed z<=100000/\ed u<=100000/\ed A<=100000)(zA:ed n<=1048576/\ed m<=1048576/\ed o<=1048576)(h1:∀k∈z,ed k.C<=100000)(h2:∀k∈n,ed k.C<=1048576):
 D4 69 #[ca (Yg E t f d a (ed z) I p (ed u) H l (ed A) G),ca (Yg r j c b F (ed n) B D (ed m) x C (ed o) v)] w λe J=>Au ((E=r/\t=j/\f=c/\d=b)/\z=n/\u=m/\A=o) w J e:=by
 have⟨W,s⟩:=Ag ((w.alloc (bs (C4 E t f d a z I p u H l A G) 30)).alloc (bs (C4 r j c b F n B D m x C o v) 30));have q:=(AT s).1;have g:=(AT s).2.2.1;have i:Aa W (w.1.size+1) (C3 r j c b F n B D m x C o v):=by have h1:=Aa.new (w.alloc (bs (C4 E t f d a z I p u H l A G) 30)) (C3 r j c b F n B D m x C o v) 30;rw[Aq]at h1;rw[s];exact h1
 have HX:Hid (∀X,Zz W X->Aa X w.1.size (C3 E t f d a z I p u H l A G)/\Aa X (w.1.size+1) (C3 r j c b F n B D m x C o v)/\Zz w X):=gD;have HK:=Yw (OR I B (h.U q).k (Z.U q).k hl.1 zA.1 h1 h2);have HP:Hid (∀X,Zz W X->D4 106 #[Cw p u H,Cw D m x] X λe J=>Au (u=m) X J e):=λX y=>SP H x (h.U (q.ag (y.ah q.size))).p (Z.U (q.ag (y.ah q.size))).p hl.2.1 zA.2.1;have HL:Hid (∀X,Zz W X->D4 107 #[Cw l A G,Cw C o v] X λe J=>Au (A=o) X J e):=λX y=>SQ G v (h.U (q.ag (y.ah q.size))).l (Z.U (q.ag (y.ah q.size))).l hl.2.2 zA.2.2;obtain⟨⟨K,_⟩,⟨v0,_⟩,⟨L,_⟩,⟨R,_⟩,⟨M,_⟩,⟨S,_⟩,N,_⟩:=g 0 _ rfl,i 0 _ rfl,g 1 _ rfl,i 1 _ rfl,g 2 _ rfl,i 2 _ rfl,g 3 _ rfl;obtain⟨⟨T,_⟩,⟨O,_⟩,⟨U,_⟩,⟨P,_⟩,⟨V,_⟩,⟨Q,_⟩,⟨Y,_⟩,y⟩:=i 3 _ rfl,g 4 _ rfl,i 4 _ rfl,g 5 _ rfl,i 5 _ rfl,g 6 _ rfl,i 6 _ rfl,Yw s;clear s h Z g i;by_cases e1:E=r
 case neg=>
  have b1:(E==r)=ba:=Yt;delta D4;go_in;go_upto_region 1 with fail;rw[<-y.o];clear y;go_wp2_with fail
  all_goals (try go_wp2)
  all_goals (try go_ret)
  all_goals exact Au.no gA q
 have b1:(E==r)=ay:=Yt;have E1:=Yw e1;clear e1;by_cases e2:t=j
 case neg=>
  have b2:(t==j)=ba:=Yt;delta D4;go_in;go_upto_region 1 with fail;rw[<-y.o];clear y;go_wp2_with fail
  all_goals (try go_wp2)
  all_goals (try go_ret)
  all_goals exact Au.no gA q
 have b2:(t==j)=ay:=Yt;have E2:=Yw e2;clear e2;by_cases e3:f=c
 case neg=>
  have b3:(f==c)=ba:=Yt;delta D4;go_in;go_upto_region 1 with fail;rw[<-y.o];clear y;go_wp2_with fail
  all_goals (try go_wp2)
  all_goals (try go_ret)
  all_goals exact Au.no gA q
 have b3:(f==c)=ay:=Yt;have E3:=Yw e3;clear e3;by_cases e4:d=b
 case neg=>
  have b4:(d==b)=ba:=Yt;delta D4;go_in;go_upto_region 1 with fail;rw[<-y.o];clear y;go_wp2_with fail
  all_goals (try go_wp2)
  all_goals (try go_ret)
  all_goals exact Au.no gA q
 have b4:(d==b)=ay:=Yt;have E4:=Yw e4;clear e4;delta D4;go_in;go_upto_region 1 with fail;rw[<-y.o];clear y;go_wp2_with fail;refine HK.Ak ?_;rintro e w1 ⟨J,rfl,s,zC⟩;have⟨g,i,zF⟩:=HX w1 zC;have Z:=Yw zC;clear K v0 L R M S N T O U P V Q Y;obtain⟨⟨K,_⟩,⟨v0,_⟩,⟨L,_⟩,⟨R,_⟩,⟨M,_⟩,S,_⟩:=g 0 _ rfl,i 0 _ rfl,g 1 _ rfl,i 1 _ rfl,g 2 _ rfl,i 2 _ rfl
 obtain⟨⟨N,_⟩,⟨T,_⟩,⟨O,_⟩,⟨U,_⟩,⟨P,_⟩,⟨V,_⟩,⟨Q,_⟩,Y,_⟩:=g 3 _ rfl,i 3 _ rfl,g 4 _ rfl,i 4 _ rfl,g 5 _ rfl,i 5 _ rfl,g 6 _ rfl,i 6 _ rfl;clear g i;cases J with
 |false=>
  have X:z≠n:=gA;go_wp2_with fail
  all_goals (try go_wp2)
  all_goals (try go_ret)
  all_goals exact Au.no (λh=>X h.2.1) zF
 |true=>
  have zE:=Yw (s.1 rfl);clear s;go_wp2_with fail;refine Calls.mono (HP w1 Z) ?_;rintro e w2 ⟨J,rfl,s,zG⟩;have zB:=Yw (Z.ag (zG.ah Z.size));have⟨g,i,k⟩:=HX w2 zB;clear K v0 L R M S N T O U P V Q Y;obtain⟨⟨K,_⟩,⟨v0,_⟩,⟨L,_⟩,⟨R,_⟩,⟨M,_⟩,⟨S,_⟩,N,_⟩:=g 0 _ rfl,i 0 _ rfl,g 1 _ rfl,i 1 _ rfl,g 2 _ rfl,i 2 _ rfl,g 3 _ rfl
  obtain⟨⟨T,_⟩,⟨O,_⟩,⟨U,_⟩,⟨P,_⟩,⟨V,_⟩,⟨Q,_⟩,Y,_⟩:=i 3 _ rfl,g 4 _ rfl,i 4 _ rfl,g 5 _ rfl,i 5 _ rfl,g 6 _ rfl,i 6 _ rfl;clear g i;cases J with
  |false=>
   have X:u≠m:=gA;go_wp2_with fail
   all_goals (try go_wp2)
   all_goals (try go_ret)
   all_goals exact Au.no (λh=>X h.2.2.1) k
  |true=>have g:=Yw (s.1 rfl);clear s;go_wp2_with fail;refine Calls.mono (HL w2 zB) ?_;rintro e w3 ⟨J,rfl,s,zH⟩;have i:=k.ag (zH.ah k.size);clear K v0 L R M S N T O U P V Q Y;go_wp2;go_ret;exact⟨J,rfl,⟨λh=>⟨⟨E1,E2,E3,E4⟩,zE,g,s.1 h⟩,λh=>s.2 h.2.2.2⟩,i⟩
section
open Go.RowKit
def By:Obj->Bool
 |bs _ t _=> !(t==9||t==160||t==148||t==112)
 |_=>ay
structure BB (B:Nat) (W W':Zh):Prop where
 size:W.1.size<=W'.1.size
 same:∀b o,B<=b->W.1[b]?=ai o->By o=ay->W'.1[b]?=ai o
theorem BB.refl(B:Nat)(W:Zh):BB B W W:=⟨Zx,λ_ _ _ h _=>h⟩
theorem BB.trans{X Y Z:Zh}(h:BB B X Y)(k:BB B Y Z):BB B X Z:=⟨Zm h.size k.size,λb o a d c=>k.same b o a (h.same b o a d c) c⟩
abbrev BB.ag:=@BB.trans
theorem BB.mono{a:Zh}(h:BB B W a)(c:B<=B'):BB B' W a:=⟨h.size,λb o d=>h.same b o Yv⟩
abbrev BB.ah:=@BB.mono
def Ct(B:Nat)(J:Nat->Zh->Prop):Prop:=
 ∀k W W' row,J k W->ek W W' row->(∀r,row=ai r->B<=r/\∃o,W.1[r]?=ai o/\By o=ay)->J k W'
theorem Ct.mono{J:Nat->Zh->Prop}(h:Ct B J)(d:B<=B'):Ct B' J:=
 λk W c b g f a=>h k W c b g f (λr e=>⟨Zm d (a r e).1,(a r e).2⟩)
abbrev Ct.ah:=@Ct.mono
theorem Ct.putObj{J:Nat->Zh->Prop}(h:Ct B J){l:Nat}{o:Obj}(a:Obj)(c:J k W)(b:B<=l)(d:W.1[l]?=ai o)(f:By o=ay):J k (W.putObj l a):=
 h k W _ (ai l) c (grownBy_putObj' W l a) (λr e=>by cases e;exact⟨b,o,d,f⟩)
theorem Ct.alloc{J:Nat->Zh->Prop}(h:Ct B J)(o:Obj)(b:J k W):J k (W.alloc o):=
 h k W _ an b ⟨rfl,rfl,rfl,Yu,λi a _=>Below.heap_alloc W o i a⟩ (λr e=>by cases e)
def FA(P:Program)(gf:Nat)(ar:Nat->Array Value)(xs:Zl)(n0:Nat)(w:Zh):Prop:=
 ∀(l:Nat) (J Jx:Nat->Zh->Prop) (W:Zh),Zz w W->Ct W.1.size J->Ct W.1.size Jx->
  (∀k W1 s,xs[k]?=ai s->J k W1->W.1.size<=W1.1.size->∀m,YieldAt Fence.wide m P l #[.string s] W1 fun e W'=>
    BB W.1.size W1 W'/\((e=.returned (ec ay)/\J (k+1) W'/\bg n0 W1 W')\/(e=.returned (ec ba)/\Jx (k+1) W')))->
  J 0 W->∀m,CallsIn Fence.wide m P gf (ar l) W fun e W'=>(∃v,e=.returned v)/\(J (ed xs) W'\/∃k,Jx k W')
def Ado(n0 B:Nat)(I:Nat->Zh->Prop)(Ix:Nat->Zh->Prop)(k:Nat)(W:Zh):Exit->Act->Zh->Prop
 |.normal,_,W'=>BB B W W'/\I (k+1) W'/\bg n0 W W'
 |.ret,_,W'=>BB B W W'/\Ix (k+1) W'
 |_,_,_=>False
theorem Ii{g:Operand}{X:Array Tmp}{assign body:Code}{Q:Exit->Act->Zh->Prop}{a:Act}{pre lb:Array Value}(hg:a.eval g=.func (.func gf) pre lb)(eg:∀args w,(callFunc gf args).run P w=.ok (.enter gf args) w)(Y:FA P gf (λl=>pre++ #[.func (.yield l) #[] #[]]++lb) xs n0 w)(zK:n0<=w.1.size)(zM:X.size=1)(I T:Nat->Zh->Prop)(E:Ct w.1.size I)(M:Ct w.1.size T)(h0:I 0 w)(a1:Zi->Act)(y:∀(l m:Nat) (s:Zi) (W:Zh) (K:Act->Zh->Prop),K (a1 s) W->
   assign.wpIn (Fence.wide.inRound l) m P (Exit.then K (λ_ _ _=>False)) {tmps:=(X.zip #[C0 s]).foldl (λt (p,v)=>t.setIfInBounds p v) a.tmps,defers:=[]} W)(H:∀(l m k:Nat) (s:Zi) (W:Zh),xs[k]?=ai s->I k W->w.1.size+2<=W.1.size->body.wpIn (Fence.wide.inRound l) m P (Ado n0 w.1.size I T k W) (a1 s) W)(J:∀(D:Nat) (W:Zh),w.1.size<=D->I (ed xs) W->W.1[D]?=ai (.deferred (ai []))->Q .normal {a with defers:={target:=.collected D,args:= #[]}::a.defers} W)(L:∀(D k:Nat) (W:Zh),w.1.size<=D->T k W->W.1[D]?=ai (.deferred (ai []))->Code.ret.wpIn Fence.wide n P Q {a with defers:={target:=.collected D,args:= #[]}::a.defers} W):
 (Code.rangeFunc g X assign body).wpIn Fence.wide n P Q a w:=by
 refine wpIn_rangeFunc ?_;intro fn zF;have⟨c,q⟩:∃c:LoopState->Option Code->Loop,c=λf d=>{state:=f,pending:=d,fn,tmps:=a.tmps,params:=X,assign,body,defers:=w.1.size}:=⟨_,rfl⟩;have⟨V,U⟩:=Ag ((w.alloc (.deferred (ai []))).alloc (.loop (c .ready an)));have zJ:V.1.size=w.1.size+2:=gB;have zE:V.1[w.1.size+1]?=ai (.loop (c .ready an)):=by have:=alloc_heap_new (w.alloc (.deferred (ai []))) (.loop (c .ready an));rw[Aq]at this;rw[U];exact this
 have zC:V.1[w.1.size]?=ai (.deferred (ai [])):=by rw[U];exact(Below.heap_alloc _ _ _ Yu).ag (alloc_heap_new w _)
 have zB:bg w.1.size w V:=gB;have zA:I 0 V:=by rw[U];exact E.alloc _ (E.alloc _ h0)
 refine⟨w.1.size+1,[{target:=.collected w.1.size,args:= #[]}],V,{target:=.fn (.func gf) lb,args:=pre++ #[.func (.yield (w.1.size+1)) #[] #[]]},V,gf,
  pre++ #[.func (.yield (w.1.size+1)) #[] #[]]++lb,V,?_,?_,λ_ _=>trivial,?_,λh=>by simp[Fence.wide]at h,?_⟩
 .rw[U,q];exact run_enterLoop_outer _ _ _ _ _
 .simp only[resolve,hg];simp[go_sem]
 .simp[invoke,go_sem,eg]
 have h:∀{A:Zh} {j:Option Nat},(∀r,j=ai r->V.1.size<=r/\∃o:Obj,A.1[r]?=ai o/\By o=ay)->(∀r,j=ai r->w.1.size<=r/\∃o:Obj,A.1[r]?=ai o/\By o=ay):=
  λf r e=>⟨C8 (f r e).1,(f r e).2⟩
 have d:∀{A B:Zh} {j:Option Nat} {k:Nat} {o:Obj},ek A B j->(∀r,j=ai r->V.1.size<=r/\∃o:Obj,A.1[r]?=ai o/\By o=ay)->k<V.1.size->A.1[k]?=ai o->B.1[k]?=ai o:=
  λ{A B j k o} u f F G=>(u.block k (A0.1 G).1 (λe=>C8 (f k e.symm).1)).ag G
 refine(Y (w.1.size+1)
  (λk W=>I k W/\W.1[w.1.size+1]?=ai (.loop (c .ready an))/\W.1[w.1.size]?=ai (.deferred (ai [])))
  (λk W=>T k W/\W.1[w.1.size+1]?=ai (.loop (c .done (ai .ret)))/\W.1[w.1.size]?=ai (.deferred (ai [])))
  V zB
  (λs A B j x u f=>⟨E s A B j x.1 u (h f),d u f Yv x.2.1,d u f Yv x.2.2⟩)
  (λs A B j x u f=>⟨M s A B j x.1 u (h f),d u f Yv x.2.1,d u f Yv x.2.2⟩)
  ?_ ⟨zA,zE,zC⟩ _).ah ?_
 .rintro k W s zH ⟨C,z,F⟩ zI m;have zG:w.1.size+1<W.1.size:=Yv;have j:=run_yield (P:=P) (args:= #[C0 s]) z gA;rw[q]at j;refine⟨fn,_,assign,body,j,roundIn_of_wpIn zF (y _ _ s W _ ?_)⟩;clear j;refine⟨_,run_beginRound z gA,?_⟩;have B:(W.putObj (w.1.size+1) (.loop {c .ready an with state:=.busy})).1[w.1.size+1]?=ai (.loop {c .ready an with state:=.busy}):=putObj_heap_same zG;have A:(W.putObj (w.1.size+1) (.loop {c .ready an with state:=.busy})).1[w.1.size]?=ai (.deferred (ai [])):=(putObj_heap_other Yv).ag F;refine wpIn_mono (H _ _ k s _ zH (E.putObj _ C Yv z rfl) Yt) ?_;have Z:∀(jump:Option Code) (j:Zh),BB w.1.size (W.putObj (w.1.size+1) (.loop {c .ready an with state:=.busy})) j->
   (Instr.endRound (w.1.size+1) jump).run P j=.ok (ec jump.isNone) (j.putObj (w.1.size+1) (.loop (c (if jump.isNone then .ready else .done) jump)))/\
   j.1[w.1.size+1]?=ai (.loop {c .ready an with state:=.busy})/\
   (j.putObj (w.1.size+1) (.loop (c (if jump.isNone then .ready else .done) jump))).1[w.1.size+1]?=ai (.loop (c (if jump.isNone then .ready else .done) jump))/\
   (j.putObj (w.1.size+1) (.loop (c (if jump.isNone then .ready else .done) jump))).1[w.1.size]?=ai (.deferred (ai []))/\
   BB V.1.size W (j.putObj (w.1.size+1) (.loop (c (if jump.isNone then .ready else .done) jump))):=λjump j u=>by
   have x:=u.same _ _ Yv B rfl;have:=run_endRound (P:=P) jump x;have r:BB V.1.size W (j.putObj (w.1.size+1) (.loop (c (if jump.isNone then .ready else .done) jump))):=(by refine⟨by have:=u.size;rw[putObj_size]at this |-;exact this,λb o N G N=> ?_⟩;rw[putObj_heap_other Yv];exact u.same b o Yv ((putObj_heap_other Yv).ag G) N);refine⟨?_,x,putObj_heap_same (A0.1 x).1,(putObj_heap_other Yv).ag (u.same _ _ (Zx) A rfl),r⟩;rw[q]at this |-;exact this
  rintro e a3 j G;have b:∀o,bg n0 W (W.putObj (w.1.size+1) o):=λo=>⟨rfl,rfl,rfl,Yu,λi C=>putObj_heap_other Yv⟩;cases e with
  |normal=>obtain⟨u,N,o⟩:=G;have⟨f,x,S,O,R⟩:=Z an j u;exact⟨_,_,f,R,cr ⟨rfl,⟨E.putObj _ N Yv x rfl,S,O⟩,((b _).ag o).ag ⟨rfl,rfl,rfl,Yu,λi C=>putObj_heap_other Yv⟩⟩⟩
  |ret=>obtain⟨u,N⟩:=G;have⟨f,x,S,O,R⟩:=Z (ai .ret) j u;exact⟨_,_,f,R,ct ⟨rfl,M.putObj _ N Yv x rfl,S,O⟩⟩
  |exit id=>exact G.elim
  |goto t=>exact G.elim
  |panic ch=>exact G.elim
  |outgrown=>exact G.elim
 rintro e i ⟨⟨v,rfl⟩,(⟨C,z,F⟩|⟨k,C,z,F⟩)⟩
 .exact⟨an,_,by have:=run_endLoop (P:=P) z gA;rw[q]at this;exact this,J _ _ (Zx) (E.putObj _ C Yv z rfl) ((putObj_heap_other Yv).ag F)⟩
 exact⟨ai .ret,_,by have:=run_endLoop (P:=P) z gA;rw[q]at this;exact this,L _ k _ (Zx) (M.putObj _ C Yv z rfl) ((putObj_heap_other Yv).ag F)⟩
end
section
open Go.RowKit
attribute [local go_sem] Oper.semAt_some
theorem Og(u:Nat){c:Zl}(f:Ad w g a c)(n:g<=w.1.size)(A:ed c<=eo):
 FA prog 91 (λl=> #[ca #[Cx a (ed c) u],.func (.yield l) #[] #[]]) c g w:=by
 intro l J E W q x B r v m;unfold eo at A;have d:=f.A (q.ah n);refine callsIn_of_wp func91 rfl trivial ?_ rfl;simp only[ntmps91,Az,length_cons,length_nil,Nat.reduceAdd,Nat.reduceSub,Array.replicate_succ,Array.replicate_zero,push_toArray,append_toArray,nil_append,cons_append]
 gi_wp2
 gi_loopw [9] (λi wr=>∃k:Nat,k<=ed c/\i=Zg k/\J k wr/\bg g W wr/\W.1.size<=wr.1.size)
  (λi _=>ed c -(intOf i).toNat)
 case atStart=>exact⟨0,Aw _,rfl,x.alloc _ v,Ae.alloc (Zm n q.size) _,Yu⟩
 obtain⟨k,I,rfl,j,o,p⟩:=hrel;by_cases hlt:k<ed c
 .obtain⟨b,D,z,H,t⟩:=(d.A o).at hlt;subst z;obtain⟨C,G,tmps,assign,body,K,y⟩:=t k c[k] (Zv hlt),r k wr c[k] (Zv hlt) j p (m -1);clear t f d r;generalize c[k]=s at *
  gi_wp2
  refine⟨λh=>by simp[Fence.wide]at h,y.ah ?_⟩;rintro e F ⟨t,(⟨rfl,f,r⟩|⟨rfl,d⟩)⟩
  .gi_wp2
   go_roundw
   case rel=>exact⟨k+1,Yv,Yu,f,o.ag r,Zm p t.size⟩
   simp[intOf];omega
  .gi_wp2
   refine bodyPost_ret (results_none rfl _ _ _) rfl ?_;exact⟨⟨_,rfl⟩,ct ⟨_,d⟩⟩
 obtain rfl:k=ed c:=Yv
 gi_wp2
 go_end0;exact⟨⟨_,rfl⟩,cr j⟩
theorem Oh(v:Dg)(u:Nat){c:Zl}(f:Ad w g a c)(n:g<=w.1.size)(B:ed c<=eo):
 FA prog 92 (λl=> #[ca #[v,Cx a (ed c) u],.func (.yield l) #[] #[]]) c g w:=by
 intro l J F W q y C r x m;unfold eo at B;have d:=f.A (q.ah n);refine callsIn_of_wp func92 rfl trivial ?_ rfl;simp only[ntmps92,Az,length_cons,length_nil,Nat.reduceAdd,Nat.reduceSub,Array.replicate_succ,Array.replicate_zero,push_toArray,append_toArray,nil_append,cons_append]
 gi_wp2
 gi_loopw [9] (λi wr=>∃k:Nat,k<=ed c/\i=Zg k/\J k wr/\bg g W wr/\W.1.size<=wr.1.size)
  (λi _=>ed c -(intOf i).toNat)
 case atStart=>exact⟨0,Aw _,rfl,y.alloc _ x,Ae.alloc (Zm n q.size) _,Yu⟩
 obtain⟨k,K,rfl,j,o,p⟩:=hrel;by_cases hlt:k<ed c
 .obtain⟨b,E,A,I,t⟩:=(d.A o).at hlt;subst A;obtain⟨D,H,tmps,assign,body,L,z⟩:=t k c[k] (Zv hlt),r k wr c[k] (Zv hlt) j p (m -1);clear t f d r;generalize c[k]=s at *
  gi_wp2
  refine⟨λh=>by simp[Fence.wide]at h,z.ah ?_⟩;rintro e G ⟨t,(⟨rfl,f,r⟩|⟨rfl,d⟩)⟩
  .gi_wp2
   go_roundw
   case rel=>exact⟨k+1,Yv,Yu,f,o.ag r,Zm p t.size⟩
   simp[intOf];omega
  .gi_wp2
   refine bodyPost_ret (results_none rfl _ _ _) rfl ?_;exact⟨⟨_,rfl⟩,ct ⟨_,d⟩⟩
 obtain rfl:k=ed c:=Yv
 gi_wp2
 go_end0;exact⟨⟨_,rfl⟩,cr j⟩
theorem Ct.and{J K:Nat->Zh->Prop}(h:Ct B J)(k:Ct B K):Ct B (λn W=>J n W/\K n W):=
 λn W b a d c e=>⟨h n W b a d.1 c e,k n W b a d.2 c e⟩
theorem Es{c:Nat}(w:Zh)(h:c<=w.1.size)(g:c<=B):Ct B (λ_ W=>bg c w W):=
 fun _ W a a a b f=>⟨b.os.ag a.os,b.tape.ag a.tape,b.output.ag a.output,Zm a.size b.size,λk d=>
  (b.block k (C8 a.size) (λe=>C8 (f k e.symm).1)).ag (a.block k d)⟩
theorem Dj{b:Nat}(o:Obj)(f:b<B):Ct B (λ_ W=>W.1[b]?=ai o):=
 λ_ W a a a c d=>(c.block b (A0.1 a).1 (λe=>C8 (d b e.symm).1)).ag a
theorem JD(a j:Zk)(c b:Nat)(d g:Zl)(n0:Nat)(w:Zh)(I:Ad w n0 a d)(y:Ad w n0 j g)(G:n0<=w.1.size)(hl:ed d<=eo)(Z:ed g<=eo):
 FA prog 50 (λl=> #[ca #[Cx a (ed d) c,Cx j (ed g) b],.func (.yield l) #[] #[]]) (d++g) n0 w:=by
 intro l J R W O u r S h0 m;refine callsIn_of_wp_marks func50 rfl trivial ?_ rfl;simp only[ntmps50,Az,length_cons,length_nil,Nat.reduceAdd,Nat.reduceSub,Array.replicate_succ,Array.replicate_zero,push_toArray,append_toArray,nil_append,cons_append]
 gi_wp2
 obtain⟨zG,p,f⟩:=Zm G O.size,Ag ((W.alloc (bs #[Cw a d c,Cw j g b] 97)).alloc (bs #[.func (.yield l) #[] #[]] 156));have zJ:p.1.size=W.1.size+2:=gB;have Y:p.1[W.1.size]?=ai (bs #[Cw a d c,Cw j g b] 97):=by rw[f];exact(Below.heap_alloc _ _ _ Yu).ag (alloc_heap_new _ _)
 have zE:p.1[W.1.size+1]?=ai (bs #[.func (.yield l) #[] #[]] 156):=by rw[f];have:=alloc_heap_new (W.alloc (bs #[Cw a d c,Cw j g b] 97)) (bs #[.func (.yield l) #[] #[]] 156);rwa[Aq]at this
 have M:bg n0 W p:=gB;have T:J 0 p:=by rw[f];exact u.alloc _ (u.alloc _ h0)
 rw[<-f];clear f;have zA:=(I.A (O.ah G)).A M;have zB:=(y.A (O.ah G)).A M;refine Ii (gf:=91) (pre:= #[ca #[Cw a d c]]) (lb:= #[]) rfl (enters_of func91 Yr rfl) (xs:=d) (n0:=n0)
  (C9 (Og c zA Yv hl)) Yv rfl
  (λk V=>J k V/\bg n0 p V/\V.1[W.1.size]?=ai (bs #[Cw a d c,Cw j g b] 97)/\V.1[W.1.size+1]?=ai (bs #[.func (.yield l) #[] #[]] 156))
  R ((u.ah Yv).and ((Es p Yv Yv).and ((Dj _ Yv).and (Dj _ Yv)))) (r.ah Yv)
  ⟨T,Ae,Y,zE⟩ (λs=>{tmps:= #[ca #[Cw a d c,Cw j g b],.func (.yield l) #[] #[],Yy W.1.size,Yy (W.1.size+1),C0 s,undef,
   Yy W.1.size,ca #[Cw a d c],.func (.func 91) #[ca #[Cw a d c]] #[],C0 s,undef,undef,undef,undef,undef,undef,undef,undef,undef,undef,undef],defers:=[]}) ?assign ?body ?done ?stop
 case assign=>
  intro z A s V K f
  gi_wp2
  exact f
 case body=>
  rintro z A k s V H ⟨o,C,v,n⟩ zC;obtain⟨fn,tmps,assign,body,hy,N⟩:=S k V s (by rw[getElem?_append_left (Zw H).1];exact H) o Yv (A -1);have U:eh V (Zd (W.1.size+1) 0)=ai (.func (.yield l) #[] #[]):=by simp[cell?,n]
  gi_wp2
  refine⟨λh=>by simp[Fence.wide]at h,RoundIn.ah (F:=Fence.wide.inRound z) N ?_⟩;rintro e V3 ⟨i,(⟨rfl,B,x⟩|⟨rfl,q⟩)⟩
  .gi_wp2
   exact⟨i.ah Yv,⟨B,C.ag x,i.same _ _ Yv v rfl,i.same _ _ Yv n rfl⟩,x⟩
  .gi_wp2
   exact⟨i.ah Yv,q⟩
 case done=>
  rintro D V hD ⟨o,C,v,n⟩ f;have zH:eh V (Zd (W.1.size) 0)=ai (Cw a d c):=by simp[cell?,v]
  have zI:eh V (Zd (W.1.size) 1)=ai (Cw j g b):=by simp[cell?,v]
  gi_wp2
  have L:=(A0.1 f).1;have zF:=(A0.1 n).1;refine Ii (gf:=92) (pre:= #[ca #[Cw a d c,Cw j g b]]) (lb:= #[]) rfl (enters_of func92 Yr rfl) (xs:=g) (n0:=n0)
   (C9 (Oh (Cw a d c) b (zB.A C) Yv Z)) Yv rfl
   (λk X=>J (ed d+k) X/\X.1[W.1.size+1]?=ai (bs #[.func (.yield l) #[] #[]] 156)/\X.1[D]?=ai (.deferred (ai [])))
   (λ_ X=>(∃k,R k X)/\X.1[D]?=ai (.deferred (ai [])))
   (Ct.and (λk X E t o P Q=>(u.ah Yv) (ed d+k) X E t o P Q) ((Dj _ zF).and (Dj _ L))) (Ct.and (λ_ X E t o P Q=>o.elim λk hk=>⟨k,(r.ah Yv) k X E t hk P Q⟩) (Dj _ L))
   ⟨o,n,f⟩ (λs=>{tmps:= #[ca #[Cw a d c,Cw j g b],.func (.yield l) #[] #[],Yy W.1.size,Yy (W.1.size+1),undef,C0 s,
    Yy W.1.size,ca #[Cw a d c],.func (.func 91) #[ca #[Cw a d c]] #[],undef,undef,undef,undef,undef,
    ca #[Cw a d c,Cw j g b],.func (.func 92) #[ca #[Cw a d c,Cw j g b]] #[],C0 s,undef,undef,undef,undef],defers:=[]}) ?assign2 ?body2 ?done2 ?stop2
  case assign2=>
   intro z A s X K f
   gi_wp2
   exact f
  case body2=>
   rintro z A k s X H ⟨o,n,f⟩ zC;obtain⟨fn,tmps,assign,body,hy,N⟩:=S (ed d+k) X s (by rw[getElem?_append_right Yv,Nat.add_sub_cancel_left];exact H) o Yv (A -1);have U:eh X (Zd (W.1.size+1) 0)=ai (.func (.yield l) #[] #[]):=by simp[cell?,n]
   gi_wp2
   refine⟨λh=>by simp[Fence.wide]at h,RoundIn.ah (F:=Fence.wide.inRound z) N ?_⟩;rintro e V3 ⟨i,(⟨rfl,B,x⟩|⟨rfl,q⟩)⟩
   .gi_wp2
    exact⟨i.ah Yv,⟨B,i.same _ _ Yv n rfl,i.same _ _ Yv f rfl⟩,x⟩
   .gi_wp2
    exact⟨i.ah Yv,⟨_,q⟩,i.same _ _ Yv f rfl⟩
  case done2=>
   rintro Q X P ⟨o,n,f⟩ t
   gi_wp2
   refine⟨Yu,cr ⟨_,_,rfl,run_takeDeferred t,Yu,cr ⟨_,_,rfl,run_takeDeferred ((putObj_heap_other Yv).ag f),?_⟩⟩⟩;refine⟨_,results_none rfl _ _ _,⟨_,rfl⟩,cr ?_⟩;rw[Am];exact u.putObj _ (u.putObj _ o Yv t rfl) Yv ((putObj_heap_other Yv).ag f) rfl
  rintro Q k X P ⟨⟨h,E⟩,f⟩ t
  gi_wp2
  refine⟨Yu,cr ⟨_,_,rfl,run_takeDeferred t,Yu,cr ⟨_,_,rfl,run_takeDeferred ((putObj_heap_other Yv).ag f),?_⟩⟩⟩;refine⟨_,results_none rfl _ _ _,⟨_,rfl⟩,ct ⟨h,?_⟩⟩;exact r.putObj _ (r.putObj _ E Yv t rfl) Yv ((putObj_heap_other Yv).ag f) rfl
 rintro D k V hD E f
 gi_wp2
 refine⟨Yu,cr ⟨_,_,rfl,run_takeDeferred f,?_⟩⟩;exact⟨_,results_none rfl _ _ _,⟨_,rfl⟩,ct ⟨k,r.putObj _ E Yv f rfl⟩⟩
end
section
attribute [local go_sem] Oper.semAt_some
theorem Lr(p:Nat->Prop):Ct B (λk _=>p k):=λ_ _ _ _ h _ _=>h
theorem BB.of_grownBy{d:Zh}{c:Option Nat}(f:ek W d c)(a:∀j,c=ai j->j<B):BB B W d:=
 ⟨f.size,λb _ g h _=>(f.block b (A0.1 h).1 (λe=>C8 (a b e.symm))).ag h⟩
theorem EG(a b:Zk)(n m c d:Nat)(w:Zh):
 D4 49 #[ca #[Cx a n c,Cx b m d]] w λe f=>e=C1 (ca #[Cx a n c,Cx b m d])/\Zz w f:=by
 have f:bg w.1.size w ((w.alloc (bs #[Cx a n c,Cx b m d] 25)).alloc (bs #[Cx a n c,Cx b m d] 97)):=gB;delta D4;go_in;go_wp2;refine Co (ca #[Cx a n c,Cx b m d]) (by simp[results,results49,go_sem]) ⟨rfl,?_⟩;exact f
theorem IK(a b:Zk)(n m c d:Nat)(w:Zh)(h:n<=1048576)(g:m<=1048576):
 D4 74 #[ca #[Cx a n c,Cx b m d]] w λe f=>e=C1 (Zg (n+m))/\Zz w f:=by
 have f:bg w.1.size w (w.alloc (bs #[Cx a n c,Cx b m d] 97)):=gB;delta D4;go_in;go_wp2;go_ret;exact⟨rfl,f⟩
theorem EL(c d:Nat){f g:Zl}(O:Ad w w.1.size a f)(N:Ad w w.1.size b g)(M:ed f<=1048576)(C:ed g<=1048576)(Z:∀s∈f,s.size<=1048576)(U:∀s∈g,s.size<=1048576):
 D4 47 #[ca #[Cx a (ed f) c,Cx b (ed g) d]] w λe h=>e=C1 (ec (BR f g))/\Zz w h:=by
 refine(callsIn_wide (n:=3)).1 ?_;refine callsIn_of_wp_marks func47 rfl trivial ?_ rfl;simp only[ntmps47,Az,length_cons,length_nil,Nat.reduceAdd,Nat.reduceSub,Array.replicate_succ,Array.replicate_zero,push_toArray,append_toArray,nil_append,cons_append]
 gi_wp2_with fail
 refine⟨trivial,?_⟩;have h:bg w.1.size w ((w.alloc (bs #[Cw a f c,Cw b g d] 25)).alloc (bs #[ec ba] 4)):=gB;have m:Boxed ((w.alloc (bs #[Cw a f c,Cw b g d] 25)).alloc (bs #[ec ba] 4)) (w.1.size+1) 4 (ec ba):=by have:=Boxed.new (w.alloc (bs #[Cw a f c,Cw b g d] 25)) 4 (ec ba);rwa[Aq]at this
 have o:((w.alloc (bs #[Cw a f c,Cw b g d] 25)).alloc (bs #[ec ba] 4)).1.size=w.1.size+2:=Yu;refine(callsIn_wide.2 (EG a b (ed f) (ed g) c d _)).ah ?_;rintro e u ⟨rfl,l⟩;have y:=h.ag (l.ah Yt);have q:Boxed u (w.1.size+1) 4 (ec ba):=(l.block _ Yu).ag m;have E:=l.size;rw[o]at E;clear l m o h
 gi_wp2_with fail
 refine⟨trivial,?_⟩;have o:bg w.1.size w (u.alloc (bs #[Cw a f c,Cw b g d] 97)):=gB;have v:=q.alloc (bs #[Cw a f c,Cw b g d] 97);refine(callsIn_wide.2 (IK a b (ed f) (ed g) c d _ M C)).ah ?_;rintro e x ⟨rfl,m⟩;have h:=o.ag (m.ah Yt);have t:Boxed x (w.1.size+1) 4 (ec ba):=(m.block _ Yt).ag v;have F:=m.size;simp at F;have R:eh x (Zd (u.1.size) 0)=ai (Cw a f c):=by rw[m.cell (p:=⟨u.1.size,0,an⟩) Yu];simp
 have S:eh x (Zd (u.1.size) 1)=ai (Cw b g d):=by rw[m.cell (p:=⟨u.1.size,1,an⟩) Yu];simp
 have X:=t.cell;have Y:=t.frozen;clear m v o q y;by_cases hlen:ed f+ed g<=4000
 .gi_wp2_with fail
  have l:w.1.size+1<x.1.size:=t.lt;refine Ii (gf:=50) (pre:= #[ca #[Cw a f c,Cw b g d]]) (lb:= #[]) rfl (enters_of func50 Yr rfl) (xs:=f++g) (n0:=w.1.size)
   (C9 (JD a b c d f g w.1.size x (O.A h) (N.A h) h.size Yo Yo)) h.size rfl
   (λk V=>Zz w V/\Boxed V (w.1.size+1) 4 (ec ba)/\Ec ((f++g).take k)=ay)
   (λ_ V=>Zz w V/\Boxed V (w.1.size+1) 4 (ec ba)/\Ec (f++g)=ba)
   ((Es w (Zx) h.size).and ((Dj (bs #[ec ba] 4) l).and (Lr _)))
   ((Es w (Zx) h.size).and ((Dj (bs #[ec ba] 4) l).and (Lr _)))
   ⟨h,t,by simp[Ec]⟩ (λs=>{tmps:= #[ca #[Cw a f c,Cw b g d],Yy w.1.size,Yy (w.1.size+1),Yy u.1.size,C0 s,
    ca #[Cw a f c,Cw b g d],ca #[Cw a f c,Cw b g d],ca #[Cw a f c,Cw b g d],Zg (ed f+ed g),ec (bq ((4000:Int)<ed f+ed g)),
    ca #[Cw a f c,Cw b g d],.func (.func 50) #[ca #[Cw a f c,Cw b g d]] #[],C0 s,undef,undef,undef],defers:=[]}) ?assign ?body ?done ?stop
  case assign=>
   intro P Q s V K v
   gi_wp2
   exact v
  case body=>
   rintro P Q k s V B ⟨o,m,q⟩ W;have I:=m.cell;have J:=m.frozen;have G:s.size<=1048576:=gG;by_cases hbig:5000<s.size
   .gi_wp2
    refine⟨BB.of_grownBy (grownBy_setCell' V _ _) (λj e=>by cases e;exact l),o.setCell (p:=⟨w.1.size+1,0,an⟩) Yu _,m.set _,JC _ k s B hbig⟩
   .gi_wp2
    refine⟨BB.refl _ _,⟨o,m,?_⟩,Ae⟩;rw[KB _ k s B,q];simp;omega
  case done=>
   rintro D V H ⟨o,m,q⟩ v;have I:=m.cell;have J:=m.frozen;rw[Zt Yv]at q;have T:D≠w.1.size+1:=Yv;have A:(el V (Zd (w.1.size+1) 0) (ec ay)).1[D]?=ai (.deferred (ai [])):=(KeepsOthers.setCell _ _ _).same D _ v rfl;have z:=m.set (ec ay);have y:=cell_kept z.cell (grownBy_putObj' _ D (.deferred an)) (λr e=>by cases e;exact⟨_,A,rfl⟩)
   gi_wp2
   refine⟨Yu,cr ⟨_,_,rfl,run_takeDeferred A,?_⟩⟩;refine⟨ec ay,by simp[results,results47,go_sem,y],?_,?_⟩
   .simp only[BR];rw[show(f++g).all (λs=>decide (s.size<=5000))=ay from q];simp[hlen]
   exact(o.setCell (p:=⟨w.1.size+1,0,an⟩) Yu _).ag ⟨rfl,rfl,rfl,Yu,λi L=>putObj_heap_other Yv⟩
  rintro D k V H ⟨o,m,q⟩ v;have y:=cell_kept m.cell (grownBy_putObj' _ D (.deferred an)) (λr e=>by cases e;exact⟨_,v,rfl⟩)
  gi_wp2
  refine⟨Yu,cr ⟨_,_,rfl,run_takeDeferred v,?_⟩⟩;refine⟨ec ba,by simp[results,results47,go_sem,y],?_,?_⟩
  .simp only[BR];rw[show(f++g).all (λs=>decide (s.size<=5000))=ba from q];simp
  exact o.ag ⟨rfl,rfl,rfl,Yu,λi L=>putObj_heap_other Yv⟩
 have z:=(t.set (ec ba)).cell
 gi_wp2
 refine⟨ec ba,by simp[results,results47,go_sem,z],?_,h.setCell (p:=⟨w.1.size+1,0,an⟩) Yu _⟩;simp[BR,hlen]
theorem FA.A{a:Nat->Array Value}(h:FA P gf a xs n0 w)(b:Zz w c):FA P gf a xs n0 c:=
 λl J d W e=>h l J d W (b.ag (e.ah b.size))
theorem SR(B b d:Nat)(t:TypeId)(k:Nat->Nat)(f:Nat->Zj)(p:d<B):Ct B (λn W=>∃v,Boxed W d t v/\ej W b 9 1 v (k n) (f n)):=by
 rintro n W s q ⟨v,m,i⟩ g a;refine⟨v,m.kept g (λe=>C8 (a d e.symm).1),i.kept g ?_⟩;cases hb:ef v with
 |none=>exact cr rfl
 |some r=>refine ct λe=> ?_;obtain⟨⟨c,u,j⟩,_,o,h,l⟩:=Lib.ownsRow_kind i r hb,a r e.symm;rw[j]at h;cases h;simp[By]at l
theorem OT(recv:Dg)(I:∀args w,(callFunc gf args).run prog w=.ok (.enter gf args) w)(m:FA prog gf (λl=> #[recv,.func (.yield l) #[] #[]]) xs n0 w)(A:n0<=w.1.size)(U:ed xs<=2097152):
 D4 142 #[Zb,.func (.func gf) #[recv] #[]] w λe a=>∃v,e=C1 v/\ej a w.1.size 9 1 v (ed xs) (xs.map string)/\Zz w a:=by
 have⟨L,y,E,F,G⟩:=info_parts CQ;refine(callsIn_wide (n:=3)).1 ?_;refine callsIn_of_wp_marks func142 rfl trivial ?_ rfl;simp only[ntmps142,Az,length_cons,length_nil,Nat.reduceAdd,Nat.reduceSub,Array.replicate_succ,Array.replicate_zero,push_toArray,append_toArray,nil_append,cons_append]
 gi_wp2_with fail
 have H:=Boxed.new w 23 Zb;have p:bg w.1.size w (w.alloc (bs #[Zb] 23)):=gB;refine Ii (gf:=gf) (pre:= #[recv]) (lb:= #[]) rfl I (xs:=xs) (n0:=n0) (C9 (m.A p)) Yt rfl
  (λk V=>(∃v,Boxed V w.1.size 23 v/\ej V w.1.size 9 1 v (ed (xs.take k)) ((xs.take k).map string))/\Zz w V)
  (λ_ _=>False)
  ((SR _ _ _ _ (λk=>ed (xs.take k)) (λk=>(xs.take k).map string) Yu).and (Es w (Zx) Yu))
  (λ_ _ _ _ h _ _=>h)
  ⟨⟨_,H,ownsRow_nil _ _ _ _⟩,p⟩ (λs=>{tmps:= #[Zb,.func (.func gf) #[recv] #[],Yy w.1.size,undef,Zb,C0 s,.func (.func gf) #[recv] #[],C0 s,undef,undef,undef,undef,undef],defers:=[]}) ?assign ?body ?done ?stop
 case assign=>
  intro M N s V K g
  gi_wp2
  exact g
 case body=>
  rintro M N k s W B ⟨⟨v,j,b⟩,f⟩ S;have u:=j.cell;have r:ed (xs.take k)=k:=gG;have R:k<ed xs:=gG;have C:(xs.take (k+1))=xs.take k++[s]:=by obtain⟨z,rfl⟩:=Zw B;exact Zu z
  gi_wp2_with (gi_at_builtin;refine wpListIn_append_own _ rfl _ _ 23 rfl w.1.size 9 L Zc 1 16 underlying23 y E F G rfl Yq _ _ _ rfl (b.alloc _) ⟨W.1.size,0,an⟩ 1 1 [C0 s] rfl rfl (cell_one_new _ _ _) Ef Yo Yv (by have:=f.size;simp;omega) ?_;intro X O d a _;obtain⟨g',cap',rfl⟩:=ownsRow_succ d;have⟨hv1,hv2,hr2,hk2,hb2⟩:=j.appended Yq b f.size (Zx) d a;have P:=hv1.cell;have Q:=hv1.frozen)
  rw[r]at hv2 hr2 hb2;refine⟨⟨Zm (Zm Yu a.size) Yu,λq o t x J=> ?_⟩,⟨⟨_,hv2,?_⟩,f.ag hb2⟩,hb2.ah A⟩
  .simp at t;have t:q<W.1.size:=gB;refine((grownBy_setCell' O w.1.size _).block q (Zr t (Zm Yu a.size)) (λe=>by cases e;omega)).ag ?_;refine(a.block q Yt (λe=> ?_)).ag ((Below.heap_alloc W _ q t).ag x);have⟨c,T,u⟩:=Lib.ownsRow_kind b q e.symm;rw[u]at x;cases x;simp[By]at J
  rw[C];simpa [r]using hr2
 case done=>
  rintro D W x ⟨⟨v,j,b⟩,f⟩ g;have u:=j.cell
  gi_wp2
  refine⟨Yu,cr ⟨_,_,rfl,run_takeDeferred g,?_⟩⟩;rw[Zt (Zx)]at b;exact⟨_,results_tmp rfl _ _ _,v,rfl,ownsRow_putObj b _ g rfl,f.ag ⟨rfl,rfl,rfl,Yu,λi y=>putObj_heap_other (by simp at x;omega)⟩⟩
 rintro D k W _ h _;exact h.elim
end
theorem GP{c:Array Oper}{rest:List Oper}{b:Oper}{a:Act}{Q:Exit->Act->Zh->Prop}(d:b.guard=an)(t:TypeId)(parts:Array (Nat×Operand))(e:b.op=.build t parts)(l:List (Nat×Value))(g:(parts.map λ(i,x)=>(i,a.eval x)).toList=l)(cells:Array Value)(f:P.built t l=ai cells)(h:wpList P c Q rest (a.put b.dst (ca cells)) w):wpList P c Q (b::rest) a w:=
 wpList_build d t parts e gA gA
theorem Jo{s:Zj}(h:ed s=17):∃i j k l m n o p q r a b c d e f g,s=[i,j,k,l,m,n,o,p,q,r,a,b,c,d,e,f,g]:=by
 match s,h with
 |[i,j,k,l,m,n,o,p,q,r,a,b,c,d,e,f,g],_=>exact⟨i,j,k,l,m,n,o,p,q,r,a,b,c,d,e,f,g,rfl⟩
theorem Oi{a:Zj}(h:ed a=17)(s:Zi)(n:Int):prog.built 62 [(1,ca a.toArray),(2,C0 s),(3,Zg n)]=ai (Zg 0::(a++[C0 s,Zg n,Zc,Zc])).toArray:=by
 obtain⟨j,k,l,m,o,p,q,r,t,u,b,c,d,e,f,g,i,rfl⟩:=Jo h
 kernel_rfl
theorem SV{a:Zj}(h:ed a=17):prog.built 62 [(1,ca a.toArray)]=ai (Zg 0::(a++[Zc,Ze,Zc,Zc])).toArray:=by
 obtain⟨j,k,l,m,n,o,p,q,r,s,b,c,d,e,f,g,i,rfl⟩:=Jo h
 kernel_rfl
theorem MH(t u:Zi)(a b:Zk)(c d:Nat)(f g:Zl)(w:Zh)(q:Ad w w.1.size a f)(p:Ad w w.1.size b g)(hl:ed f<=100000)(T:ed g<=1048576):
 D4 82 #[ca #[C0 t,Cx a (ed f) c],ca #[C0 u,Cx b (ed g) d]] w λe j=>Au (t=u/\f=g) w j e:=by
 have⟨W,j⟩:=Ag ((w.alloc (bs #[C0 t,Cw a f c] 48)).alloc (bs #[C0 u,Cw b g d] 48));have z:=(AT j).1;have m:=(AT j).2.2.1;have n:Aa W (w.1.size+1) [C0 u,Cw b g d]:=by have A:=Aa.new (w.alloc (bs #[C0 t,Cw a f c] 48)) [C0 u,Cw b g d] 48;rw[Aq]at A;rw[j];exact A
 have Q:Hid (∀X,Zz W X->Aa X w.1.size [C0 t,Cw a f c]/\Aa X (w.1.size+1) [C0 u,Cw b g d]/\Ad X w.1.size a f/\Ad X w.1.size b g/\Zz w X):=λX l=>by have r:=z.ag (l.ah z.size);exact⟨Aa.A m l,Aa.A n l,q.A r,p.A r,r⟩
 obtain⟨l,E⟩:=Aa.c2 m 0 1;obtain⟨o,F⟩:=Aa.c2 n 0 1;have v:=Yw j;clear j q p m n;by_cases ht:t=u
 case neg=>have M:=BZ ht;have n:(t.toList !=u.toList)=ay:=gA;delta D4;go_in;go_upto_region 1 with fail;rw[<-v.o];go_wp2;go_ret;exact Au.no (λh=>ht h.1) z
 subst ht;have M:(t.toList !=t.toList)=ba:=Yu;by_cases hlen:ed f=ed g
 case neg=>
  have J:((ed f:Int)==(ed g:Int))=ba:=Yt;have m:((ed f:Int) !=(ed g:Int))=ay:=Yt;delta D4;go_in;go_upto_region 1 with fail;rw[<-v.o];go_wp2;go_ret;exact Au.no (λh=>hlen (by rw[h.2])) z
 have J:((ed f:Int) !=(ed g:Int))=ba:=Yt;have B:=Yw hlen;clear hlen;delta D4;go_in;go_upto_region 1 with fail;rw[<-v.o];clear v;go_wp2;go_loopw [5] (λi wr=>∃k:Nat,k<=ed f/\i=Zg k/\Hid (f.take k=g.take k/\Zz W wr)) (λi _=>ed f -(intOf i).toNat)
 case atStart=>exact⟨0,Aw _,rfl,⟨Yu,Ae⟩⟩
 clear l E o F;obtain⟨k,i,rfl,s⟩:=hrel;have⟨m,n,q,p,l⟩:=Q wr s.2;obtain⟨⟨E,_⟩,F,_⟩:=m 1 _ rfl,n 1 _ rfl;by_cases hlt:k<ed f
 case neg=>
  obtain rfl:k=ed f:=Yv;have o:=s.1;rw[Zt (Zx),Zt (C8 B.o)]at o;clear m n q p;go_wp2;go_ret;exact Au.yes ⟨by trivial,o⟩ l
 have j:k<ed g:=gG;obtain⟨⟨rb,ro,R,L,C⟩,X,qo,r,K,o⟩:=q.at hlt,p.at j;subst R r;obtain⟨Y,Z,V,U,H,I⟩:=C k _ (Zv hlt),o k _ (Zv j),Zr L l.size,Zr K l.size,Yw (Zu hlt),Yw (Zu j);have HN:Hid (∀x y,f[k]?=ai x->g[k]?=ai y->x≠y->f≠g):=λx y A D G e=>by subst e;rw[A]at D;exact G (A2 D)
 have D:=Yw (Zv hlt);have G:=Yw (Zv j);have S:(k:Int)<ed g:=Yv;clear C o;generalize f[k]=x at *
 generalize g[k]=y at *
 have P:=Yw s.2;have C:=Yw l;clear m n q p l;by_cases hxy:x=y
 .subst hxy;have N:(x.toList !=x.toList)=ba:=Yu;go_wp2
  go_region
  all_goals go_wp2
  all_goals exact⟨⟨k+1,Yv,Yn,⟨by rw[H.o,I.o,s.1],P.drew⟩⟩,Ys⟩
 have N:=BZ hxy;have O:(x.toList !=y.toList)=ay:=gA;go_wp2
 go_region
 all_goals go_wp2
 all_goals go_ret
 all_goals exact Au.no (λh=>HN x y D G hxy h.2) C.drew
structure Ls (w V:Zh) (u v:Value):Prop where
 b0:eh V (Zd (w.1.size) 0)=ai u
 b1:eh V (Zd (w.1.size) 1)=ai v
 r0:eh V (Zd (w.1.size+1) 0)=ai Zb
 r1:eh V (Zd (w.1.size+1) 1)=ai Zb
 f:∀o,V.frozen? ⟨w.1.size+1,o,an⟩=ba
 cn:bg w.1.size w V
 le:w.1.size+2<=V.1.size
theorem Ls.alloc(h:Ls w V u v)(o:Obj):Ls w (V.alloc o) u v:=by
 have a:=(Below.refl V.1.size V).alloc (Zx) o;have:=h.le;exact⟨(a.cell (p:=⟨w.1.size,0,an⟩) Yt).ag h.b0,(a.cell (p:=⟨w.1.size,1,an⟩) Yt).ag h.b1,(a.cell (p:=⟨w.1.size+1,0,an⟩) Yt).ag h.r0,(a.cell (p:=⟨w.1.size+1,1,an⟩) Yt).ag h.r1,
  λo=>(a.frozen (p:=⟨w.1.size+1,o,an⟩) Yt).ag (h.f o),h.cn.alloc h.cn.size o,Yt⟩
theorem Ls.drew(h:Ls w V u v):Ls w V.drew u v:=⟨h.b0,h.b1,h.r0,h.r1,h.f,h.cn.drew,h.le⟩
theorem Ls.grown{b:Zh}(h:Ls w V u v)(a:ek V b (ai q))(d:w.1.size+2<=q):Ls w b u v:=by
 have:=h.le;have:=a.size;exact⟨a.cell h.b0 Yt,a.cell h.b1 Yt,a.cell h.r0 Yt,a.cell h.r1 Yt,
  λo=>(a.frozen_far ⟨w.1.size+1,o,an⟩ Yt Yt).ag (h.f o),h.cn.grown a h.cn.size (λk c=>by cases c;omega),Yv⟩
