import Derived.Test.YtfmeclmjdpbacaaGreatDoorX23
import Derived.Test.YtfmeclmjdpbacaaGreatDoorX02
import Derived.Test.YtfmeclmjdpbacaaGreatDoorX24
import Derived.Deep.CutRange
set_option maxRecDepth 100000
set_option maxHeartbeats 16000000
open Option renaming some->ai,none->an
open Bool renaming true->ay,false->ba
open Go.RowKit renaming Below->bg
open Go.Obj renaming cells->bs
open Go.Value renaming slice->bx,agg->ca
open Or renaming inl->cr,inr->ct
open List renaming length->ed,toArray->ee
open Go renaming maxLen->eo
namespace Go.Proofs.YtfmeclmjdpbacaaGreatDoor
open ChangeShapes WideShapes ChangeAt RowKit _root_.Go.Proofs.Tryz List World Value
variable{k d c m o n:Nat}{w w':Zh}{a:Va}{r:Rs}{v:Vd}{O P L:Value}
section
open Go.MuLone Go.ChangeShapes Go.WideShapes Go.ChangeAt Go.RowKit
theorem Aej(lo:Nat)(d m:Nat)(V:List Nat)(v:Vd)(e:Ed)(x y b0 b1 b2 b3 b4 b5 b6 O c1 c2 c3 c4 c5:Value)(ra:Zk)(rc:Nat)(Y:Rs->Zh->Prop)(i:Aa w k [.int .i32 0,.int .u32 0,Zg v.wd,Zg v.J,x,y,b0,b1,b2,b3,b4,b5,b6,O,c1,c2,c3,c4,c5,Yy d])(dm:lo<=k)(hV:∀b∈V,lo<=b/\b<k)(D:d∈V/\m∈V)(n:∀u∈[Zg v.wd,Zg v.J,x,y,b0,b1,b2,b3,b4,b5,b6,O,c1,c2,c3,c4,c5],u.oneCell'=ay)(hE:∀X,bg lo w X->D4 137 #[ca (Ye e.N e.s e.T e.M e.Y ra e.V.length rc),Zg v.wd] X fun o A=>o=C1 (.bool (e.ok v.wd))/\Zz X A)(hA:e.ok v.wd=ay->∀X,Tn [k] w X->D4 90 #[Yy d,ca (Ye e.N e.s e.T e.M e.Y ra e.V.length rc)] X fun o A=>Tn V X A/\∃c sm le p q,o=C1 (ca #[Zg c,Ze,Ze,Ze,Ze,Zb,Zb,Zb,C0 sm,Zg le,C0 p,C0 q])/\((e.no v c p q/\sm=⟨#[]⟩/\le=0)\/(c=0/\p=⟨#[]⟩/\q=⟨#[]⟩/\∃r,e.yes v r/\r.sm=sm/\r.le=le/\Y r A)))(hY:∀r X A R,Y r X->R∉V->(X.1.size<=R\/∃l,X.1[R]?=ai (bs l 81))->Tn [R] X A->Y r A)(hD:∀r X,Y r X->X.cell? (Zd d 0)=ai (Zg v.wd)/\X.cell? (Zd d 1)=ai (.map (ai m)))(hS:∀r X,Y r X->D4 52 #[Yy d] X fun o A=>∃ta tc pa pc la lc rs,o=C1 (ca (Yg v.wd r.G r.H r.E ta r.B.length tc pa r.ps.length pc la r.ls.length lc))/\Bc A X.1.size (Cx ta r.B.length tc) (Cx pa r.ps.length pc) (Cx la r.ls.length lc) rs r.B r.ps r.ls/\Zz X A)(hR:e.ok v.wd=ay->e.N=1->∀r X ta tc pa pc la lc,e.yes v r->BH X X.1.size ta r.B->D4 138 #[ca (Yg v.wd r.G r.H r.E ta r.B.length tc pa r.ps.length pc la r.ls.length lc)] X fun o A=>o=C1 (Zg (CS v.wd r.B))/\Zz X A)(hF:e.ok v.wd=ay->∀X,bg lo w X->D4 120 #[ca (Ye e.N e.s e.T e.M e.Y ra e.V.length rc),Zg v.wd] X fun o A=>o=C1 (C0 (e.cf v.wd))/\Zz X A)(hP:e.ok v.wd=ay->∀X,bg lo w X->D4 139 #[ca #[x,y],C0 (e.cf v.wd)] X fun o A=>Zz X A/\∃H sn I J F N c,o=C1 (.tuple #[ca #[Cx H sn I,Cx J F N],Zg c])/\((v.ss.length+v.D.length=4000/\(c==(0:Int))=ba)\/(¬v.ss.length+v.D.length=4000/\c=0/\sn=v.ss.length/\F=(v.D++[e.cf v.wd]).length/\Ah A X.1.size (Cx H sn I) v.ss/\Ah A X.1.size (Cx J F N) (v.D++[e.cf v.wd])/\∀g,Aj (Cx H sn I)=ai g->Aj (Cx J F N)≠ai g)))(hO:∀r,e.yes v r->(if r.sm=⟨#[]⟩then e.s else r.sm)=e.held r)(hH:∀r X Z,Y r X->e.yes v r->bg lo w Z->Z.1[m]?=X.1[m]? ->D4 140 #[ca #[Zg v.wd,.map (ai m)],ca #[O,c1,c2,c3,c4,c5],C0 (e.held r)] Z fun o a=>Zz Z a/\∃qa qc ma mc,o=C1 (ca (Yb v.I qa ((shQ v.I r.B v.F v.ms (e.held r)).length) qc ma v.ms.length mc v.L v.K v.ro))/\Ah a Z.1.size (Cx qa (shQ v.I r.B v.F v.ms (e.held r)).length qc) (shQ v.I r.B v.F v.ms (e.held r))/\Ah a Z.1.size (Cx ma v.ms.length mc) v.ms/\∀g,Aj (Cx qa (shQ v.I r.B v.F v.ms (e.held r)).length qc)=ai g->Aj (Cx ma v.ms.length mc)≠ai g)(K:v.wd=v.P):
 D4 96 #[Yy k,ca (Ye e.N e.s e.T e.M e.Y ra e.V.length rc)] w fun o w'=>bg lo w w'/\((∃c p q,GZ v e c p q/\o=C1 (ca #[Zg c,Ze,Ze,Zb,Zb,Ze,Ze,Ze,Ze,Zb,Zb,Zb,Ze,Zb,Zb,Ze,Ze,Ze,Zc,Ze,C0 p,C0 q]))\/(∃r S U T P L Q M rs,KN v e r/\o=C1 (ca (Ha (dyes v e r) S U T P L Q M).toArray)/\Ay w' lo S U T P L Q M rs (doV v e r))):=by
 obtain⟨tY,W,C⟩:=i.lt,Ag ((w.alloc (bs (Ye e.N e.s e.T e.M e.Y ra e.V.length rc) 117)).alloc (bs Xn 62));obtain⟨bW,zW,xE,xZ⟩:=(AT C).1,(AT C).2.1,(AT C).2.2.1,(AT (k:=Cu) C).2.2.2;obtain⟨xK,W1,l⟩:=Aa.A i bW,D2 W k 0 (.int .i32 1);have h:Tn [k] W W1:=by rw[l];exact Tn.set _ _ _ _ Yu
 have sR:W1.1.size=W.1.size:=by rw[l];simp
 have G:Aa W1 k [.int .i32 1,.int .u32 0,Zg v.wd,Zg v.J,x,y,b0,b1,b2,b3,b4,b5,b6,O,c1,c2,c3,c4,c5,Yy d]:=by rw[l];exact xK.set 0 _
 have a:=Aa.same xE (h.block _ Yv Yt);have Z:Aa W1 (w.1.size+1) Cu:=Aa.same xZ (h.block _ Yv Yt);have E:Tn [k] w W1:=((Tn.of (V:=[]) bW).mono Yu).trans h;have B:=Yw (Za G (Za a Z));have R:Hid (lo<=k/\k<w.1.size/\bg lo w W1/\Tn [k] w W1/\W1.1.size=w.1.size+2):=⟨dm,tY,E.A Yv (by simp;exact dm),E,Yv⟩;have zI:Hid (lo<=w.1.size):=by show lo<=w.1.size;omega
 obtain⟨HV,xR,HE,s,HY,xP⟩:=Yw (Zn hV D),Yw n,Yw hE,Yw hA,Yw hY,Yw hD;obtain⟨HS,HR,HF,HP⟩:=Yw hS,Yw hR,Yw hF,Yw hP;obtain⟨HO,HH,yS,HW,j,⟨t,f0⟩,⟨tR,_⟩,⟨e0,_⟩,⟨e1,_⟩,⟨e2,_⟩,⟨e3,_⟩,e4,_⟩:=Yw hO,Yw hH,Yw K,Yw C,Yw l,xK 0 _ rfl,G 2 _ rfl,a 0 _ rfl,a 1 _ rfl,a 2 _ rfl,a 3 _ rfl,a 4 _ rfl;obtain⟨e5,_⟩:=a 5 _ rfl;clear C l i hV D n hE hA hY hD hS hR hF hP hO hH K xE xZ xK G a Z E h bW dm
 go_enter_defers func96,ntmps96
 go_upto_region 1 with fail;rw[<-HW.o];clear HW;go_upto_region 3 with(go_at_call 71;refine(lock_free Gw ⟨k,0,an⟩ _ t f0).mono ?_;rintro o w' ⟨rfl,rfl⟩;rw[<-j.o];clear j t f0);go_cut [23]from 9 to 100 (fun a wx=>a=.bool (!(e.ok v.wd))/\Hid (Zz W1 wx))
 case first=>
  refine wp_region_noPanic ?_;go_region_with (go_at_call 137;refine(HE W1.drew R.2.2.1.drew).mono ?_;rintro o w2 ⟨rfl,a⟩;have i:bg W1.1.size W1 w2:=(Below.refl W1.1.size W1).drew.trans a)
  all_goals ((try refine NoPanic.normal ?_);go_wp2_with fail;go_meet;exact⟨rfl,i⟩)
 case rest=>
 revert wc;intro w2 hcut;obtain⟨rfl,i⟩:=hcut;have a:=i.o;clear HE e0 e1 e2 e3 e4 e5 tR i;have z2:=a.size;have l:Hid (Aa w2 k [.int .i32 1,.int .u32 0,Zg v.wd,Zg v.J,x,y,b0,b1,b2,b3,b4,b5,b6,O,c1,c2,c3,c4,c5,Yy d]/\Aa w2 w.1.size (Xw e.N e.s e.T e.M e.Y ra e.V.length rc)/\Aa w2 (w.1.size+1) Cu):=⟨Aa.A B.1 a,Aa.A B.2.1 a,Aa.A (v:=Ze) B.2.2 a⟩
 have C:Hid (bg lo w w2/\Tn [k] w w2):=⟨R.2.2.1.trans (a.mono J6),R.2.2.2.1.trans ((Tn.of (V:=[]) a).mono Yu)⟩;clear a B;cases hoe:e.ok v.wd with
 |false=>
  have yM:Hid (GZ v e 1 ⟨#[]⟩ ⟨#[]⟩):=cr ⟨hoe,rfl,rfl,rfl⟩;clear hoe s HS HR HF HP HO HH HY xP HV xR yS;have⟨W9,zC⟩:=Ag (w2.setCells (w.1.size+1) 0 (Xm 1));have⟨zU,E⟩:=D2 W9 k 0 (.int .i32 0);obtain⟨l0,g0,zM,zK⟩:=Hs (z:=Ze) (cs:=(Xm 1)) l.1 l.2.2 rfl J6 zC E;have zH:=Yw (Zn (show((Xl 1):Array Value).all (·.oneCell')=ay by kernel_rfl) l.2.2.there);have yD:Hid (bg lo w zU):=C.1.trans (zK.A (Zm zI C.1.size) J0);obtain⟨HU,n,yE,zG⟩:=Yw (Zn l0 g0),Yw zM,Yw zC,Yw E;clear zC E l0 g0 zM zK;go_wp2_with (refine wpList_store_mid rfl 62 _ _ rfl (w.1.size+1) 0 (Xl 1) rfl rfl zH.2 Yr zH.1 ?_)
  rw[<-yE.o];refine leaves_cons (f:=72) (args:= #[Yy k]) Yu F3 ?_;refine(unlock_deferred Gw ⟨k,0,an⟩ .returning _ HU.1 HU.2).mono ?_;rintro o u' xX ⟨rfl,rfl,rfl⟩;rw[<-zG.o];exact⟨_,AM results96 _ _ (w.1.size+1) (Xm 1) _ rfl (Aa.range n) underlying62 rfl Yr,yD,cr ⟨1,⟨#[]⟩,⟨#[]⟩,yM,rfl⟩⟩
 |true=>
  have yX:Hid (e.ok v.wd=ay):=hoe;replace s:=Yw (s hoe);replace HF:=Yw (HF hoe);replace HR:=Yw (HR hoe);replace HP:=Yw (HP hoe);obtain⟨⟨e0,_⟩,⟨e1,_⟩,⟨e2,_⟩,⟨e3,_⟩,⟨e4,_⟩,⟨e5,_⟩,yN,_⟩:=l.2.1 0 _ rfl,l.2.1 1 _ rfl,l.2.1 2 _ rfl,l.2.1 3 _ rfl,l.2.1 4 _ rfl,l.2.1 5 _ rfl,l.1 19 _ rfl;have TB:Tn [k] w w2.drew:=C.2.trans ((Tn.of (V:=[]) Ae.drew).mono Yu);have bA:bg w2.1.size w2 (w2.alloc (bs Yd 81)).drew:=(Zy).drew;have TA:Tn [k] w (w2.alloc (bs Yd 81)).drew:=C.2.trans ((Tn.of (V:=[]) bA).mono Yu);have q1:=R.o;have j:w2.1.size∉V:=fun h=>by have:=HV.1 _ h;omega
  clear hoe;have xB:k∉V:=fun h=>by have:=HV.1 k h;omega
  have xD:w.1.size∉V:=fun h=>by have:=HV.1 _ h;omega
  have zA:Hid (∀X A,(X.cell? (Zd k 19)=ai (Yy d)/\Aa X w.1.size (Xw e.N e.s e.T e.M e.Y ra e.V.length rc))->Zz X A->A.cell? (Zd k 19)=ai (Yy d)/\Aa A w.1.size (Xw e.N e.s e.T e.M e.Y ra e.V.length rc)):=fun X A B h2=>⟨(cell_of_block (h2.block k (A4 X _ B.1)) 19).trans B.1,Aa.A B.2 h2⟩;have i:Hid (∀X A,(X.cell? (Zd k 19)=ai (Yy d)/\Aa X w.1.size (Xw e.N e.s e.T e.M e.Y ra e.V.length rc))->Tn V X A->A.cell? (Zd k 19)=ai (Yy d)/\Aa A w.1.size (Xw e.N e.s e.T e.M e.Y ra e.V.length rc)):=fun X A B h2=>⟨(cell_of_block (h2.block k (A4 X _ B.1) xB) 19).trans B.1,Aa.same B.2 (h2.block _ B.2.lt xD)⟩;have zT:Hid (∀X A cb,(X.cell? (Zd k 19)=ai (Yy d)/\Aa X w.1.size (Xw e.N e.s e.T e.M e.Y ra e.V.length rc))->w2.1.size<=cb->Tn [cb] X A->A.cell? (Zd k 19)=ai (Yy d)/\Aa A w.1.size (Xw e.N e.s e.T e.M e.Y ra e.V.length rc)):=fun X A cb B hc h2=>⟨(cell_of_block (h2.block k (A4 X _ B.1) Yt) 19).trans B.1,Aa.same B.2 (h2.block _ B.2.lt Yt)⟩;have zE:Hid (∀X cb c sm le p q,w2.1.size<=cb->Tn V w2 X->X.1[cb]?=ai (bs z12.toArray 81 (0,0))->((e.no v c p q/\sm=⟨#[]⟩/\le=0)\/(c=0/\p=⟨#[]⟩/\q=⟨#[]⟩/\∃r,e.yes v r/\r.sm=sm/\r.le=le/\Y r X))->Hid (w2.1.size<=cb/\Tn V w2 (X.setCells cb 0 [Zg c,Ze,Ze,Ze,Ze,Zb,Zb,Zb,C0 sm,Zg le,C0 p,C0 q])/\∃t G a D K,Aa (X.setCells cb 0 [Zg c,Ze,Ze,Ze,Ze,Zb,Zb,Zb,C0 sm,Zg le,C0 p,C0 q]) cb [Zg t,Ze,Ze,Ze,Ze,Zb,Zb,Zb,C0 G,Zg a,C0 D,C0 K]/\((e.no v t D K/\G=⟨#[]⟩/\a=0)\/(t=0/\D=⟨#[]⟩/\K=⟨#[]⟩/\∃r,e.yes v r/\r.sm=G/\r.le=a/\Y r (X.setCells cb 0 [Zg c,Ze,Ze,Ze,Ze,Zb,Zb,Zb,C0 sm,Zg le,C0 p,C0 q]))))):=fun X cb c sm le p q B h2 a G=>by
   have t:=Ap cb [Zg c,Ze,Ze,Ze,Ze,Zb,Zb,Zb,C0 sm,Zg le,C0 p,C0 q] 0 X;refine⟨B,⟨t.os.trans h2.os,t.tape.trans h2.tape,t.output.trans h2.output,Zm h2.size t.size,fun b hb D=>(t.block b (Zr hb h2.size) Yt).trans (h2.block b hb D)⟩,c,sm,le,p,q,(Aa.ir a).ax _ rfl,?_⟩;rcases G with h|⟨h5,h6,h7,r,h8,h9,vJ,vK⟩
   .exact cr h
   exact ct ⟨h5,h6,h7,r,h8,h9,vJ,HY.o r _ _ cb vK (fun h=>by have:=HV.1 _ h;omega) (ct ⟨_,a⟩) t⟩
  go_upto_region 5 with fail;go_cut [5]from 9 to 100 (fun pc wx=>∃cb:Nat,pc=Yy cb/\Hid (w2.1.size<=cb/\Tn V w2 wx/\∃c sm le p q,Aa wx cb [Zg c,Ze,Ze,Ze,Ze,Zb,Zb,Zb,C0 sm,Zg le,C0 p,C0 q]/\((e.no v c p q/\sm=⟨#[]⟩/\le=0)\/(c=0/\p=⟨#[]⟩/\q=⟨#[]⟩/\∃r,e.yes v r/\r.sm=sm/\r.le=le/\Y r wx))))
  case first=>
   refine wp_region_noPanic ?_;refine wp_region_held_drew (S:=fun X=>X.cell? (Zd k 19)=ai (Yy d)/\Aa X w.1.size (Xw e.N e.s e.T e.M e.Y ra e.V.length rc)) Yr (show _/\_ from⟨yN,l.2.1⟩) (fun hS=> ?_);refine AK 0 (Yy k) ?_;try simp only[Act.put,AG]
   refine AK 1 (Yy k) ?_;try simp only[Act.put,AG]
   refine AK 2 (Yx k 19) ?_;try simp only[Act.put,AG]
   refine Di 3 (Yy d) rfl (by exact Or.inl ⟨Yp,fun X hX=>by have B:=hX.1;go_simp⟩) ?_;try simp only[Act.put,AG]
   refine Di 4 (ca (Ye e.N e.s e.T e.M e.Y ra e.V.length rc)) rfl (by exact yieldsIf_load_mid Yp 117 _ rfl (w.1.size) 0 rfl (Xw e.N e.s e.T e.M e.Y ra e.V.length rc) _ (fun X h=>h.2.range) underlying117 rfl Yr) ?_;try simp only[Act.put,AG]
   refine wpAnyH_ready (rs:=[5,6]) Yr Yu ?_;refine AllReadyH.cons (o:=⟨ai 30,.call ⟨.value (.func 90),#[.tmp 28,.tmp 29],#[90,117]⟩,81, "l7_vault.go:227",#[IJ 3,IJ 4],an⟩) rfl (fun K a=> ?_) (AllReadyH.cons (o:=⟨ai 5,.alloc 81,0, "l7_vault.go:227",#[],an⟩) rfl (fun K a=> ?_) AllReadyH.nil)
   .go_simp;refine(s w2.drew TB).mono ?_;rintro o w3 ⟨zY,c,sm,le,p,q,rfl,G⟩;try go_simp
    refine a.out _ _ (i _ _ hS zY) (fun zO=> ?_);clear a K;try simp only[Act.put,AG]
    refine Bk 6 (fun K a=> ?_);go_simp;refine a.out _ _ (zA _ _ zO (Zy)) (fun zJ=> ?_);clear a K;try simp only[Act.put,AG]
    have yF:(#[Zg c,Ze,Ze,Ze,Ze,Zb,Zb,Zb,C0 sm,Zg le,C0 p,C0 q]:Array Value).all (·.oneCell')=ay:=Ef;refine Bk 7 (fun K a=> ?_);rw[if_pos Yp];refine wp_store_mid 81 _ _ rfl w3.1.size 0 #[Zg c,Ze,Ze,Ze,Ze,Zb,Zb,Zb,C0 sm,Zg le,C0 p,C0 q] rfl rfl (Aa.new w3 z12 81).there Yr yF ?_;refine a.out _ _ (zT _ _ _ zJ (by have:=zY.size;simp at this;omega) (Ap _ _ _ _)) (fun zP=> ?_);clear a K;try simp only[Act.put]
    refine wpAnyH_done Yr ?_ _;refine NoPanic.normal ?_;go_wp2_with fail;go_meet;exact⟨w3.1.size,rfl,zE.o (w3.alloc (bs z12.toArray 81)) w3.1.size c sm le p q zY.size ((Sh (Tn.of (V:=[]) Ae.drew) zY).trans ((Tn.of (V:=[]) (Zy)).mono Yu)) (heap_alloc_new _ _) (by rcases G with h|⟨h5,h6,h7,r,h8,h9,vJ,vK⟩;exact cr h;exact ct ⟨h5,h6,h7,r,h8,h9,vJ,HY.o r _ _ w3.1.size vK (fun h=>by have:=HV.1 _ h;have:=zY.size;simp at this;omega) (cr (Zx)) ((Tn.of (V:=[]) (Zy)).mono Yu)⟩)⟩
   go_simp;refine a.out _ _ (zA _ _ hS (Zy)) (fun zO=> ?_);clear a K;try simp only[Act.put,AG]
   refine Bk 5 (fun K a=> ?_);go_simp;refine(s _ TA).mono ?_;rintro o w3 ⟨zY,c,sm,le,p,q,rfl,G⟩;try go_simp
   refine a.out _ _ (i _ _ zO zY) (fun zJ=> ?_);clear a K;try simp only[Act.put,AG]
   have yF:(#[Zg c,Ze,Ze,Ze,Ze,Zb,Zb,Zb,C0 sm,Zg le,C0 p,C0 q]:Array Value).all (·.oneCell')=ay:=Ef;have nA:w3.1[w2.1.size]?=ai (bs z12.toArray 81 (0,0)):=(zY.block w2.1.size Yu j).trans (show(w2.alloc (bs Yd 81)).1[w2.1.size]?=_ from heap_alloc_new _ _);refine Bk 7 (fun K a=> ?_);rw[if_pos Yp];refine wp_store_mid 81 _ _ rfl w2.1.size 0 #[Zg c,Ze,Ze,Ze,Ze,Zb,Zb,Zb,C0 sm,Zg le,C0 p,C0 q] rfl rfl (Aa.ir nA).there Yr yF ?_;refine a.out _ _ (zT _ _ _ zJ (by have:=zY.size;simp at this;omega) (Ap _ _ _ _)) (fun zP=> ?_);clear a K;try simp only[Act.put]
   refine wpAnyH_done Yr ?_ _;refine NoPanic.normal ?_;go_wp2_with fail;go_meet;exact⟨w2.1.size,rfl,zE.o w3 w2.1.size c sm le p q (Zx) (Sh ((Tn.of (V:=[]) bA).mono Yu) zY) nA G⟩
  case rest=>
  clear zA i zT zE xB xD;revert wc;intro i hcut;obtain⟨cb,rfl,hcut⟩:=hcut;have⟨tC,D,c,sm,le,p,q,Z,G⟩:=hcut.o;clear hcut s e0 e1 e2 e3 e4 e5 yN TA TB bA j;have z4:=D.size;have xB:k∉V:=fun h=>by have:=HV.1 k h;omega
  have vM:∀j,k<=j->j∉V:=fun j s h=>by have:=HV.1 j h;omega
  have s:=Yw (Za (Aa.same l.1 (D.block _ l.1.lt xB)) (Za (Aa.same l.2.1 (D.block _ l.2.1.lt (vM _ Yv))) (Aa.same l.2.2 (D.block _ l.2.2.lt (vM _ Yv)))));have yV:Hid (bg lo w i):=C.1.trans (D.A (Zm zI C.1.size) (fun b hb=>(HV.1 b hb).1));have yQ:Hid (w2.1.size<=cb/\cb<i.1.size):=⟨tC,Z.lt⟩;clear D l C xB vM tC q1;rcases G with⟨l,rfl,rfl⟩|⟨rfl,rfl,rfl,r,D,rfl,rfl,C⟩
  .have tV:(c==0)=ba:=(by have:=Gh.code l;simp;omega);have yM:Hid (GZ v e c p q):=ct ⟨yX,cr l⟩;obtain⟨⟨u0,_⟩,⟨sO,_⟩,sP,_⟩:=Z 0 _ rfl,Z 10 _ rfl,Z 11 _ rfl;clear Z l HS HR HF HP HO HH HY xP HV xR yS;have⟨W9,zC⟩:=Ag (i.setCells (w.1.size+1) 0 [Zg c,Ze,Ze,Zb,Zb,Ze,Ze,Ze,Ze,Zb,Zb,Zb,Ze,Zb,Zb,Ze,Ze,Ze,Zc,Ze,C0 p,C0 q]);have⟨zU,E⟩:=D2 W9 k 0 (.int .i32 0);obtain⟨l0,g0,zM,zK⟩:=Hs (z:=Ze) (cs:=[Zg c,Ze,Ze,Zb,Zb,Ze,Ze,Ze,Ze,Zb,Zb,Zb,Ze,Zb,Zb,Ze,Ze,Ze,Zc,Ze,C0 p,C0 q]) s.1 s.2.2 rfl J6 zC E;have zH:=Yw (Zn (show(#[Zg c,Ze,Ze,Zb,Zb,Ze,Ze,Ze,Ze,Zb,Zb,Zb,Ze,Zb,Zb,Ze,Ze,Ze,Zc,Ze,C0 p,C0 q]:Array Value).all (·.oneCell')=ay by kernel_rfl) s.2.2.there);have yD:Hid (bg lo w zU):=yV.trans (zK.A (Zm zI yV.size) J0);obtain⟨HU,n,yE,zG⟩:=Yw (Zn l0 g0),Yw zM,Yw zC,Yw E;clear zC E l0 g0 zM zK;go_wp2_with (refine wpList_store_mid rfl 62 _ _ rfl (w.1.size+1) 0 #[Zg c,Ze,Ze,Zb,Zb,Ze,Ze,Ze,Ze,Zb,Zb,Zb,Ze,Zb,Zb,Ze,Ze,Ze,Zc,Ze,C0 p,C0 q] rfl rfl zH.2 Yr zH.1 ?_);rw[<-yE.o];refine leaves_cons (f:=72) (args:= #[Yy k]) Yu F3 ?_;refine(unlock_deferred Gw ⟨k,0,an⟩ .returning _ HU.1 HU.2).mono ?_;rintro o u' xX ⟨rfl,rfl,rfl⟩;rw[<-zG.o];exact⟨_,AM results96 _ _ (w.1.size+1) [Zg c,Ze,Ze,Zb,Zb,Ze,Ze,Ze,Ze,Zb,Zb,Zb,Ze,Zb,Zb,Ze,Ze,Ze,Zc,Ze,C0 p,C0 q] _ rfl (Aa.range n) underlying62 rfl Yr,yD,cr ⟨c,p,q,yM,rfl⟩⟩
  have vR:=Yw Z;have vX:Hid (Y r i):=C;have Hy:Hid (e.yes v r):=D;obtain⟨u0,_⟩:=Z 0 _ rfl;clear D C Z;go_upto_region 8 with fail;clear u0;obtain⟨w5,Z⟩:=Ag ((i.alloc (bs Xp 34)).setCells i.1.size 0 [Zg v.wd,Zg v.J,x,y,b0,b1,b2,b3,b4,b5,b6,O,c1,c2,c3,c4,c5]);have hb:=boxed (X:=i) (cs:=[Zg v.wd,Zg v.J,x,y,b0,b1,b2,b3,b4,b5,b6,O,c1,c2,c3,c4,c5]) (z:=Xo) (T:=34) rfl;rw[show(i.alloc (bs Xo.toArray 34)).setCells i.1.size 0 [Zg v.wd,Zg v.J,x,y,b0,b1,b2,b3,b4,b5,b6,O,c1,c2,c3,c4,c5]=w5 from Z.symm]at hb;obtain⟨x5,l,z5⟩:=hb;have D:Hid ((i.alloc (bs Xp 34)).there i.1.size 0 17/\(#[Zg v.wd,Zg v.J,x,y,b0,b1,b2,b3,b4,b5,b6,O,c1,c2,c3,c4,c5]:Array Value).all (·.oneCell')=ay):=⟨(Aa.new i Xo 34).there,all_oneCell_toArray xR⟩;have C:Hid (Aa w5 k [.int .i32 1,.int .u32 0,Zg v.wd,Zg v.J,x,y,b0,b1,b2,b3,b4,b5,b6,O,c1,c2,c3,c4,c5,Yy d]/\Aa w5 w.1.size (Xw e.N e.s e.T e.M e.Y ra e.V.length rc)/\Aa w5 (w.1.size+1) Cu/\Aa w5 cb [Ze,Ze,Ze,Ze,Ze,Zb,Zb,Zb,C0 r.sm,Zg r.le,Zc,Zc]/\Aa w5 i.1.size [Zg v.wd,Zg v.J,x,y,b0,b1,b2,b3,b4,b5,b6,O,c1,c2,c3,c4,c5]):=⟨Aa.A s.1 l,Aa.A s.2.1 l,Aa.A (v:=Ze) s.2.2 l,Aa.A vR l,x5⟩
  have xY:Hid (bg lo w w5):=yV.trans (l.mono (Zm zI yV.size));have yT:Hid (Y r w5):=HY r _ _ i.1.size vX (fun h=>by have:=HV.1 _ h;have:=R.o;omega) (cr (Zx)) ((Tn.of (V:=[]) l).mono Yu);have vV:=Yw Z;clear Z x5 l xR yV vX HY;go_upto_region 9 with(first
   |refine wpList_load_mid rfl 34 _ rfl k 2 rfl [Zg v.wd,Zg v.J,x,y,b0,b1,b2,b3,b4,b5,b6,O,c1,c2,c3,c4,c5] _ (Aa.fx [.int .i32 1,.int .u32 0] [Zg v.wd,Zg v.J,x,y,b0,b1,b2,b3,b4,b5,b6,O,c1,c2,c3,c4,c5] [Yy d] s.1) underlying34 rfl Yr ?_
   |refine wpList_store_mid rfl 34 _ _ rfl i.1.size 0 #[Zg v.wd,Zg v.J,x,y,b0,b1,b2,b3,b4,b5,b6,O,c1,c2,c3,c4,c5] rfl rfl D.1 Yr D.2 ?_)
  rw[<-vV.o];clear vV D s vR;obtain⟨yN,_⟩:=C.1 19 _ rfl;go_wp2_with fail;refine(HS r w5 yT).mono ?_;rintro o w6 ⟨ta,tc,pa,pc,la,lc,rs,rfl,vL,s⟩;have z6:=s.size;have l:Hid (Aa w6 k [.int .i32 1,.int .u32 0,Zg v.wd,Zg v.J,x,y,b0,b1,b2,b3,b4,b5,b6,O,c1,c2,c3,c4,c5,Yy d]/\Aa w6 w.1.size (Xw e.N e.s e.T e.M e.Y ra e.V.length rc)/\Aa w6 (w.1.size+1) Cu/\Aa w6 cb [Ze,Ze,Ze,Ze,Ze,Zb,Zb,Zb,C0 r.sm,Zg r.le,Zc,Zc]/\Aa w6 i.1.size [Zg v.wd,Zg v.J,x,y,b0,b1,b2,b3,b4,b5,b6,O,c1,c2,c3,c4,c5]):=⟨Aa.A C.1 s,Aa.A C.2.1 s,Aa.A (v:=Ze) C.2.2.1 s,Aa.A C.2.2.2.1 s,Aa.A C.2.2.2.2 s⟩;have⟨W7,yZ⟩:=Ag (((((((w6.setCell (Zd (i.1.size) 4) (Zg v.wd)).setCell (Zd (i.1.size) 5) (Zg r.G)).setCell (Zd (i.1.size) 6) (Zg r.H)).setCell (Zd (i.1.size) 7) (Zg r.E)).setCell (Zd (i.1.size) 8) (Cw ta r.B tc)).setCell (Zd (i.1.size) 9) (Cw pa r.ps pc)).setCell (Zd (i.1.size) 10) (Cw la r.ls lc));have Z:Tn [i.1.size] w6 W7:=by rw[yZ];exact(((((((Tn.set _ _ _ _ Yu).trans (Tn.set _ _ _ _ Yu)).trans (Tn.set _ _ _ _ Yu)).trans (Tn.set _ _ _ _ Yu)).trans (Tn.set _ _ _ _ Yu)).trans (Tn.set _ _ _ _ Yu)).trans (Tn.set _ _ _ _ Yu))
  have sM:W7.1.size=w6.1.size:=by rw[yZ];simp
  have x7:Aa W7 i.1.size [Zg v.wd,Zg v.J,x,y,Zg v.wd,Zg r.G,Zg r.H,Zg r.E,Cw ta r.B tc,Cw pa r.ps pc,Cw la r.ls lc,O,c1,c2,c3,c4,c5]:=by rw[yZ];exact(((((((l.2.2.2.2.set 4 _).set 5 _).set 6 _).set 7 _).set 8 _).set 9 _).set 10 _)
  have q1:=R.o;have q2:=yQ.o;have tD:m<w.1.size:=by have:=HV.1 m HV.2.2;omega
  have D:=Yw (Za (Aa.same l.1 (Z.block _ l.1.lt Yt)) (Za (Aa.same l.2.1 (Z.block _ l.2.1.lt Yt)) (Za (Aa.same l.2.2.1 (Z.block _ l.2.2.1.lt Yt)) (Za (Aa.same l.2.2.2.1 (Z.block _ l.2.2.2.1.lt Yt)) x7))));have vI:=xY.trans (s.mono (Zm zI xY.size));have vA:Hid (bg lo w W7):=vI.trans (Z.A (Zm zI vI.size) Yt);have yY:Hid (Bc W7 w5.1.size (Cw ta r.B tc) (Cw pa r.ps pc) (Cw la r.ls lc) rs r.B r.ps r.ls/\∀g∈BJ (Cw ta r.B tc) (Cw pa r.ps pc) (Cw la r.ls lc) rs,g<W7.1.size):=⟨vL.O Z Yt,fun g hg=>by have:=vL.dj g hg;omega⟩;have yW:Hid (W7.1[m]?=w5.1[m]? /\m<w.1.size):=⟨(Z.block m Yv Yt).trans (s.block m Yv),tD⟩;have xO:Hid (W7.cell? (Zd d 0)=ai (Zg v.wd)/\W7.cell? (Zd d 1)=ai (.map (ai m))):=by
   have sN:d<w.1.size:=(by have:=HV.1 d HV.2.1;omega);have e7:W7.1[d]?=w5.1[d]?:=(Z.block d Yv Yt).trans (s.block d Yv);have⟨p1,p2⟩:=xP r w5 yT;exact⟨(cell_of_block e7 _).trans p1,(cell_of_block e7 _).trans p2⟩
  obtain⟨⟨y4,f4⟩,⟨y5,f5⟩,⟨y6,f6⟩,⟨y7,f7⟩,⟨y8,f8⟩,⟨y9,f9⟩,⟨sK,tS⟩,vW⟩:=l.2.2.2.2 4 _ rfl,l.2.2.2.2 5 _ rfl,l.2.2.2.2 6 _ rfl,l.2.2.2.2 7 _ rfl,l.2.2.2.2 8 _ rfl,l.2.2.2.2 9 _ rfl,l.2.2.2.2 10 _ rfl,Yw yZ;clear yZ Z x7 vI s vL l C xY HS xP yN tD q1 q2;go_upto_region 10 with fail;rw[<-vW.o];clear vW y4 f4 y5 f5 y6 f6 y7 f7 y8 f8 y9 f9 sK tS
  as_aux_lemma=>
  obtain⟨⟨g0,_⟩,⟨n1,_⟩,⟨n4,_⟩,⟨n5,_⟩,⟨n6,_⟩,⟨n7,_⟩,⟨n8,_⟩,⟨n9,_⟩,tH,_⟩:=D.2.1 0 _ rfl,D.2.2.2.2 1 _ rfl,D.2.2.2.2 4 _ rfl,D.2.2.2.2 5 _ rfl,D.2.2.2.2 6 _ rfl,D.2.2.2.2 7 _ rfl,D.2.2.2.2 8 _ rfl,D.2.2.2.2 9 _ rfl,D.2.2.2.2 10 _ rfl;have Z:Hid (BH W7 W7.1.size ta r.B):=yY.1.get.k;go_cut [61]from 9 to 100 (fun l wx=>l=.bool (e.dt v r)/\Hid (Zz W7 wx))
  case first=>
   by_cases hk1:e.N=1
   .have tX:(e.N==1)=ay:=(by simp[hk1]);have vC:Hid (e.dt v r=decide (v.J<CS v.wd r.B)):=G9;replace HR:=Yw (HR hk1 r W7.drew ta tc pa pc la lc Hy Z);clear hk1;refine wp_region_noPanic ?_;go_region_with (go_at_call 138;refine HR.Ak ?_;rintro o C ⟨rfl,tU⟩;have l:bg W7.1.size W7 C:=(Below.refl W7.1.size W7).drew.trans tU;obtain⟨m1,_⟩:=Aa.A D.2.2.2.2 l 1 _ rfl)
    all_goals ((try refine NoPanic.normal ?_);go_wp2_with fail;go_meet;exact⟨by rw[vC.o],l⟩)
   have tX:(e.N==1)=ba:=(by simpa using hk1);have vC:Hid (e.dt v r=ba):=G9;clear hk1 n1 n4 n5 n6 n7 n8 n9 tH;refine wp_region_noPanic ?_;refine wp_region_held_drew (S:=fun X=>X.cell? (Zd (w.1.size) 0)=ai (Zg e.N)) Yr g0 (fun hS=> ?_);refine AK 0 (Yy w.1.size) ?_;try simp only[Act.put,AG]
   refine Di 1 (Zg e.N) rfl (by exact Or.inl ⟨Yp,fun X hX=>by have B:=hX;go_simp⟩) ?_;try simp only[Act.put,AG]
   refine AK 2 (.bool ba) ?_;try simp only[Act.put,AG]
   refine AK 3 (.bool ba) ?_;try simp only[Act.put,AG]
   refine EK 4 ?_;try simp only[Act.put,AG]
   refine EK 5 ?_;try simp only[Act.put,AG]
   refine EK 6 ?_;try simp only[Act.put,AG]
   refine EK 7 ?_;try simp only[Act.put,AG]
   refine EK 8 ?_;try simp only[Act.put,AG]
   refine EK 9 ?_;try simp only[Act.put,AG]
   refine AK 10 (.bool ba) ?_;try simp only[Act.put,AG]
   refine wpAnyH_done Yr ?_ _;refine NoPanic.normal ?_;go_wp2_with fail;go_meet;exact⟨by rw[vC.o],(Below.refl W7.1.size W7).drew⟩
  case rest=>
  revert wc;intro C hcut;obtain⟨rfl,l⟩:=hcut;have z8:=l.size;have s:Hid (Aa C k [.int .i32 1,.int .u32 0,Zg v.wd,Zg v.J,x,y,b0,b1,b2,b3,b4,b5,b6,O,c1,c2,c3,c4,c5,Yy d]/\Aa C w.1.size (Xw e.N e.s e.T e.M e.Y ra e.V.length rc)/\Aa C (w.1.size+1) Cu/\Aa C cb [Ze,Ze,Ze,Ze,Ze,Zb,Zb,Zb,C0 r.sm,Zg r.le,Zc,Zc]/\Aa C i.1.size [Zg v.wd,Zg v.J,x,y,Zg v.wd,Zg r.G,Zg r.H,Zg r.E,Cw ta r.B tc,Cw pa r.ps pc,Cw la r.ls lc,O,c1,c2,c3,c4,c5]):=⟨Aa.A D.1 l,Aa.A D.2.1 l,Aa.A (v:=Ze) D.2.2.1 l,Aa.A D.2.2.2.1 l,Aa.A D.2.2.2.2 l⟩
  have yL:Hid (bg lo w C):=vA.trans (l.mono (Zm zI vA.size));clear g0 n1 n4 n5 n6 n7 n8 n9 tH Z D vA HR;cases hbg:e.dt v r with
  |true=>
   have yM:Hid (GZ v e 8 ⟨#[]⟩ ⟨#[]⟩):=ct ⟨yX,ct ⟨rfl,rfl,r,Hy,cr ⟨hbg,rfl⟩⟩⟩;clear hbg HF HP HO HH HV yS yY yW xO l yT;have⟨W9,zC⟩:=Ag (C.setCells (w.1.size+1) 0 (Xm 8));have⟨zU,E⟩:=D2 W9 k 0 (.int .i32 0);obtain⟨l0,g0,zM,zK⟩:=Hs (z:=Ze) (cs:=(Xm 8)) s.1 s.2.2.1 rfl J6 zC E;have zH:=Yw (Zn (show((Xl 8):Array Value).all (·.oneCell')=ay by kernel_rfl) s.2.2.1.there);have yD:Hid (bg lo w zU):=yL.trans (zK.A (Zm zI yL.size) J0);obtain⟨HU,n,yE,zG⟩:=Yw (Zn l0 g0),Yw zM,Yw zC,Yw E;clear zC E l0 g0 zM zK;go_wp2_with (refine wpList_store_mid rfl 62 _ _ rfl (w.1.size+1) 0 (Xl 8) rfl rfl zH.2 Yr zH.1 ?_);rw[<-yE.o];refine leaves_cons (f:=72) (args:= #[Yy k]) Yu F3 ?_;refine(unlock_deferred Gw ⟨k,0,an⟩ .returning _ HU.1 HU.2).mono ?_;rintro o u' xX ⟨rfl,rfl,rfl⟩;rw[<-zG.o]
   exact⟨_,AM results96 _ _ (w.1.size+1) (Xm 8) _ rfl (Aa.range n) underlying62 rfl Yr,yD,cr ⟨8,⟨#[]⟩,⟨#[]⟩,yM,rfl⟩⟩
  |false=>
  have vG:Hid (¬e.jb v r):=by show ¬e.jb v r;unfold Ed.jb;rw[hbg];simp
  have vH:Hid (Bc C w5.1.size (Cw ta r.B tc) (Cw pa r.ps pc) (Cw la r.ls lc) rs r.B r.ps r.ls/\∀g∈BJ (Cw ta r.B tc) (Cw pa r.ps pc) (Cw la r.ls lc) rs,g<C.1.size):=⟨yY.1.A l,fun g hg=>by have:=yY.2 g hg;omega⟩;have xQ:Hid (C.1[m]?=w5.1[m]? /\m<w.1.size):=⟨(l.block m (by have:=yW.2;have:=R.o;omega)).trans yW.1,yW.2⟩;have vE:Hid (C.cell? (Zd d 0)=ai (Zg v.wd)/\C.cell? (Zd d 1)=ai (.map (ai m))):=by have e8:C.1[d]?=W7.1[d]?:=l.block d (by have:=HV.1 d HV.2.1;have:=R.o;omega);exact⟨(cell_of_block e8 _).trans xO.1,(cell_of_block e8 _).trans xO.2⟩
  clear hbg yY yW xO l
  as_aux_lemma=>
  obtain⟨⟨e0,_⟩,⟨e1,_⟩,⟨e2,_⟩,⟨e3,_⟩,⟨e4,_⟩,⟨e5,_⟩,⟨n0,_⟩,⟨n2,_⟩,⟨n3,_⟩,et,l⟩:=s.2.1 0 _ rfl,s.2.1 1 _ rfl,s.2.1 2 _ rfl,s.2.1 3 _ rfl,s.2.1 4 _ rfl,s.2.1 5 _ rfl,s.2.2.2.2 0 _ rfl,s.2.2.2.2 2 _ rfl,s.2.2.2.2 3 _ rfl,Ag (e.cf v.wd);rw[<-l]at HF HP;have vS:=Yw l;clear l;go_upto_region 12 with fail;have zA:Hid (∀X A,(Aa X w.1.size (Xw e.N e.s e.T e.M e.Y ra e.V.length rc)/\Aa X i.1.size [Zg v.wd,Zg v.J,x,y,Zg v.wd,Zg r.G,Zg r.H,Zg r.E,Cw ta r.B tc,Cw pa r.ps pc,Cw la r.ls lc,O,c1,c2,c3,c4,c5])->Zz X A->Aa A w.1.size (Xw e.N e.s e.T e.M e.Y ra e.V.length rc)/\Aa A i.1.size [Zg v.wd,Zg v.J,x,y,Zg v.wd,Zg r.G,Zg r.H,Zg r.E,Cw ta r.B tc,Cw pa r.ps pc,Cw la r.ls lc,O,c1,c2,c3,c4,c5]):=fun X A B h2=>⟨Aa.A B.1 h2,Aa.A B.2 h2⟩;have zT:Hid (∀X A lb,(Aa X w.1.size (Xw e.N e.s e.T e.M e.Y ra e.V.length rc)/\Aa X i.1.size [Zg v.wd,Zg v.J,x,y,Zg v.wd,Zg r.G,Zg r.H,Zg r.E,Cw ta r.B tc,Cw pa r.ps pc,Cw la r.ls lc,O,c1,c2,c3,c4,c5])->C.1.size<=lb->Tn [lb] X A->Aa A w.1.size (Xw e.N e.s e.T e.M e.Y ra e.V.length rc)/\Aa A i.1.size [Zg v.wd,Zg v.J,x,y,Zg v.wd,Zg r.G,Zg r.H,Zg r.E,Cw ta r.B tc,Cw pa r.ps pc,Cw la r.ls lc,O,c1,c2,c3,c4,c5]):=fun X A lb B hc h2=>by
   have q1:=R.o;have q2:=s.2.2.2.2.lt;exact⟨Aa.same B.1 (h2.block _ B.1.lt Yt),Aa.same B.2 (h2.block _ B.2.lt Yt)⟩
  have bA:bg C.1.size C (C.alloc (bs #[Zb,Zb] 25)).drew:=(Zy).drew;have D:Hid (∀X,Zz C X->bg lo w X):=fun X hX=>yL.trans (hX.mono (Zm zI yL.size));go_cut [7,8]from 9 to 100 (fun Z l wx=>∃(lb:Nat) (H:Zk) (sn I:Nat) (J:Zk) (F N:Nat) (c:Int),Z=Yy lb/\l=Zg c/\Hid (Aa wx lb [Cx H sn I,Cx J F N]/\C.1.size<=lb/\Zz C wx/\MT v et C.1.size wx H sn I J F N c))
  case first=>
   refine wp_region_noPanic ?_;refine wp_region_held_drew (S:=fun X=>Aa X w.1.size (Xw e.N e.s e.T e.M e.Y ra e.V.length rc)/\Aa X i.1.size [Zg v.wd,Zg v.J,x,y,Zg v.wd,Zg r.G,Zg r.H,Zg r.E,Cw ta r.B tc,Cw pa r.ps pc,Cw la r.ls lc,O,c1,c2,c3,c4,c5]) Yr (show _/\_ from⟨s.2.1,s.2.2.2.2⟩) (fun hS=> ?_);refine AK 0 (Yx i.1.size 2) ?_;try simp only[Act.put,AG]
   refine Di 1 (ca #[x,y]) rfl (by exact yieldsIf_load_mid Yp 25 _ rfl (i.1.size) 2 rfl [x,y] _ (fun X h=>Aa.fx [Zg v.wd,Zg v.J] [x,y] _ h.2) underlying25 rfl Yr) ?_;try simp only[Act.put,AG]
   refine Di 2 (ca (Ye e.N e.s e.T e.M e.Y ra e.V.length rc)) rfl (by exact yieldsIf_load_mid Yp 117 _ rfl (w.1.size) 0 rfl (Xw e.N e.s e.T e.M e.Y ra e.V.length rc) _ (fun X h=>h.1.range) underlying117 rfl Yr) ?_;try simp only[Act.put,AG]
   refine AK 3 (Yy i.1.size) ?_;try simp only[Act.put,AG]
   refine Di 4 (Zg v.wd) rfl (by exact Or.inl ⟨Yp,fun X hX=>by have B:=(hX.2 0 _ rfl).1;go_simp⟩) ?_;try simp only[Act.put,AG]
   refine wpAnyH_ready (rs:=[5,10]) Yr Yu ?_;refine AllReadyH.cons (o:=⟨ai 69,.call ⟨.value (.func 120),#[.tmp 66,.tmp 68],#[117,3]⟩,9,Ga,#[IJ 2,IJ 4],an⟩) rfl (fun K a=> ?_) (AllReadyH.cons (o:=⟨ai 7,.alloc 25,0,Ga,#[],an⟩) rfl (fun K a=> ?_) AllReadyH.nil)
   .go_simp;refine(HF C.drew (D _ Ae.drew)).mono ?_;rintro o w9 ⟨rfl,yO⟩;try go_simp
    refine a.out _ _ (zA _ _ hS yO) (fun zO=> ?_);clear a K;try simp only[Act.put,AG]
    have zB:bg C.1.size C w9:=(Below.refl C.1.size C).drew.trans yO;refine wpAnyH_ready (rs:=[6,10]) Yr Yu ?_;refine AllReadyH.cons (o:=⟨ai 70,.call ⟨.value (.func 139),#[.tmp 65,.tmp 69],#[25,9]⟩,195,Ga,#[IJ 1,IJ 5,⟨5,.chain⟩],an⟩) rfl (fun K a=> ?_) (AllReadyH.cons (o:=⟨ai 7,.alloc 25,0,Ga,#[],an⟩) rfl (fun K a=> ?_) AllReadyH.nil)
    .go_simp;refine(HP w9 (D _ zB)).mono ?_;rintro o Z ⟨zF,H,sn,I,J,F,N,c,rfl,G⟩;try go_simp
     refine a.out _ _ (zA _ _ zO zF) (fun zJ=> ?_);clear a K;try simp only[Act.put,AG]
     have l:=zB.trans (zF.mono zB.size);have zN:(#[Cx H sn I,Cx J F N]:Array Value).all (·.oneCell')=ay:=Ef;refine AK 7 (.tuple #[ca #[Cx H sn I,Cx J F N],Zg c]) ?_;try simp only[Act.put,AG]
     refine AK 8 (ca #[Cx H sn I,Cx J F N]) ?_;try simp only[Act.put,AG]
     refine AK 9 (Zg c) ?_;try simp only[Act.put,AG]
     refine Bk 10 (fun K a=> ?_);go_simp;refine a.out _ _ (zA _ _ zJ (Zy)) (fun zP=> ?_);clear a K;try simp only[Act.put,AG]
     refine Bk 11 (fun K a=> ?_);rw[if_pos Yp];refine wp_store_mid 25 _ _ rfl Z.1.size 0 #[Cx H sn I,Cx J F N] rfl rfl (Aa.new Z [Zb,Zb] 25).there Yr zN ?_;refine a.out _ _ (zT _ _ _ zP J7 (Ap _ _ _ _)) (fun yH=> ?_);clear a K;try simp only[Act.put]
     refine AK 12 (Zg c) ?_;try simp only[Act.put,AG]
     refine wpAnyH_done Yr ?_ _;refine NoPanic.normal ?_;go_wp2_with fail;go_meet;exact⟨Z.1.size,H,sn,I,J,F,N,c,rfl,rfl,Abu l zB.size G⟩
    go_simp;refine a.out _ _ (zA _ _ zO (Zy)) (fun zJ=> ?_);clear a K;try simp only[Act.put,AG]
    have bB:bg w9.1.size w9 (w9.alloc (bs #[Zb,Zb] 25)):=(Zy);refine Bk 6 (fun K a=> ?_);go_simp;refine(HP _ (D _ (zB.trans (bB.mono zB.size)))).mono ?_;rintro o Z ⟨zF,H,sn,I,J,F,N,c,rfl,G⟩;try go_simp
    refine a.out _ _ (zA _ _ zJ zF) (fun zP=> ?_);clear a K;try simp only[Act.put,AG]
    have l:=(zB.trans (bB.mono zB.size)).trans (zF.mono (Zm zB.size bB.size));have nB:Z.1[w9.1.size]?=ai (bs [Zb,Zb].toArray 25 (0,0)):=(zF.block w9.1.size Yu).trans (heap_alloc_new _ _);have zN:(#[Cx H sn I,Cx J F N]:Array Value).all (·.oneCell')=ay:=Ef;refine AK 7 (.tuple #[ca #[Cx H sn I,Cx J F N],Zg c]) ?_;try simp only[Act.put,AG]
    refine AK 8 (ca #[Cx H sn I,Cx J F N]) ?_;try simp only[Act.put,AG]
    refine AK 9 (Zg c) ?_;try simp only[Act.put,AG]
    refine Bk 11 (fun K a=> ?_);rw[if_pos Yp];refine wp_store_mid 25 _ _ rfl w9.1.size 0 #[Cx H sn I,Cx J F N] rfl rfl (Aa.ir nB).there Yr zN ?_;refine a.out _ _ (zT _ _ _ zP J7 (Ap _ _ _ _)) (fun yH=> ?_);clear a K;try simp only[Act.put]
    refine AK 12 (Zg c) ?_;try simp only[Act.put,AG]
    refine wpAnyH_done Yr ?_ _;refine NoPanic.normal ?_;go_wp2_with fail;go_meet;exact⟨w9.1.size,H,sn,I,J,F,N,c,rfl,rfl,VB (Aa.ir nB) l zB.size Yu (Zm zB.size Yu) G⟩
   go_simp;refine a.out _ _ (zA _ _ hS (Zy)) (fun zO=> ?_);clear a K;try simp only[Act.put,AG]
   refine Bk 5 (fun K a=> ?_);go_simp;refine(HF _ (D _ bA)).mono ?_;rintro o w9 ⟨rfl,yO⟩;try go_simp
   refine a.out _ _ (zA _ _ zO yO) (fun zJ=> ?_);clear a K;try simp only[Act.put,AG]
   have zB:bg C.1.size C w9:=bA.trans (yO.mono bA.size);have tF:C.1.size<w9.1.size:=(by have:=yO.size;simp at this;omega);refine Bk 6 (fun K a=> ?_);go_simp;refine(HP w9 (D _ zB)).mono ?_;rintro o Z ⟨zF,H,sn,I,J,F,N,c,rfl,G⟩;try go_simp
   refine a.out _ _ (zA _ _ zJ zF) (fun zP=> ?_);clear a K;try simp only[Act.put,AG]
   have l:=zB.trans (zF.mono zB.size);have nA:Z.1[C.1.size]?=ai (bs [Zb,Zb].toArray 25 (0,0)):=(zF.block C.1.size tF).trans ((yO.block C.1.size Yu).trans (show(C.alloc (bs #[Zb,Zb] 25)).1[C.1.size]?=_ from heap_alloc_new _ _));have zN:(#[Cx H sn I,Cx J F N]:Array Value).all (·.oneCell')=ay:=Ef;refine AK 7 (.tuple #[ca #[Cx H sn I,Cx J F N],Zg c]) ?_;try simp only[Act.put,AG]
   refine AK 8 (ca #[Cx H sn I,Cx J F N]) ?_;try simp only[Act.put,AG]
   refine AK 9 (Zg c) ?_;try simp only[Act.put,AG]
   refine Bk 11 (fun K a=> ?_);rw[if_pos Yp];refine wp_store_mid 25 _ _ rfl C.1.size 0 #[Cx H sn I,Cx J F N] rfl rfl (Aa.ir nA).there Yr zN ?_;refine a.out _ _ (zT _ _ _ zP J7 (Ap _ _ _ _)) (fun yH=> ?_);clear a K;try simp only[Act.put]
   refine AK 12 (Zg c) ?_;try simp only[Act.put,AG]
   refine wpAnyH_done Yr ?_ _;refine NoPanic.normal ?_;go_wp2_with fail;go_meet;exact⟨C.1.size,H,sn,I,J,F,N,c,rfl,rfl,VB (Aa.ir nA) l (Zx) tF zB.size G⟩
  case rest=>
  revert wc;intro Z hcut;obtain⟨lb,H,sn,I,J,F,N,c,rfl,rfl,hcut⟩:=hcut;clear e0 e1 e2 e3 e4 e5 n0 n2 n3 HF HP bA D zA zT;have⟨xL,D,l,G⟩:=hcut.o;have sL:=l.size;have n:Hid (Aa Z k [.int .i32 1,.int .u32 0,Zg v.wd,Zg v.J,x,y,b0,b1,b2,b3,b4,b5,b6,O,c1,c2,c3,c4,c5,Yy d]/\Aa Z w.1.size (Xw e.N e.s e.T e.M e.Y ra e.V.length rc)/\Aa Z (w.1.size+1) Cu/\Aa Z cb [Ze,Ze,Ze,Ze,Ze,Zb,Zb,Zb,C0 r.sm,Zg r.le,Zc,Zc]/\Aa Z i.1.size [Zg v.wd,Zg v.J,x,y,Zg v.wd,Zg r.G,Zg r.H,Zg r.E,Cw ta r.B tc,Cw pa r.ps pc,Cw la r.ls lc,O,c1,c2,c3,c4,c5]):=⟨Aa.A s.1 l,Aa.A s.2.1 l,Aa.A (v:=Ze) s.2.2.1 l,Aa.A s.2.2.2.1 l,Aa.A s.2.2.2.2 l⟩;have zZ:Hid (bg lo w Z):=yL.trans (l.mono (Zm zI yL.size));have xT:=Yw (Za xL D);have yK:Hid (Bc Z w5.1.size (Cw ta r.B tc) (Cw pa r.ps pc) (Cw la r.ls lc) rs r.B r.ps r.ls/\∀g∈BJ (Cw ta r.B tc) (Cw pa r.ps pc) (Cw la r.ls lc) rs,g<C.1.size):=⟨vH.1.A l,vH.2⟩;have yJ:Hid (Z.1[m]?=w5.1[m]? /\m<w.1.size):=⟨(l.block m (by have:=xQ.2;have:=R.o;omega)).trans xQ.1,xQ.2⟩;have yI:Hid (Z.cell? (Zd d 0)=ai (Zg v.wd)/\Z.cell? (Zd d 1)=ai (.map (ai m))):=by have e8:Z.1[d]?=C.1[d]?:=l.block d (by have:=HV.1 d HV.2.1;have:=R.o;omega);exact⟨(cell_of_block e8 _).trans vE.1,(cell_of_block e8 _).trans vE.2⟩
  clear hcut xL D l s yL vH xQ vE;rcases G with⟨s,tV⟩|⟨l,rfl,rfl,D,hs,hu,xD⟩
  .have yM:Hid (GZ v e 9 ⟨#[]⟩ ⟨#[]⟩):=ct ⟨yX,ct ⟨rfl,rfl,r,Hy,ct ⟨vG,s,rfl⟩⟩⟩;clear s HO HH HV yS yK yJ yI yT xT;have⟨W9,zC⟩:=Ag (Z.setCells (w.1.size+1) 0 (Xm 9));have⟨zU,E⟩:=D2 W9 k 0 (.int .i32 0);obtain⟨l0,g0,zM,zK⟩:=Hs (z:=Ze) (cs:=(Xm 9)) n.1 n.2.2.1 rfl J6 zC E;have zH:=Yw (Zn (show((Xl 9):Array Value).all (·.oneCell')=ay by kernel_rfl) n.2.2.1.there);have yD:Hid (bg lo w zU):=zZ.trans (zK.A (Zm zI zZ.size) J0);obtain⟨HU,n,yE,zG⟩:=Yw (Zn l0 g0),Yw zM,Yw zC,Yw E;clear zC E l0 g0 zM zK;go_wp2_with (refine wpList_store_mid rfl 62 _ _ rfl (w.1.size+1) 0 (Xl 9) rfl rfl zH.2 Yr zH.1 ?_);rw[<-yE.o];refine leaves_cons (f:=72) (args:= #[Yy k]) Yu F3 ?_;refine(unlock_deferred Gw ⟨k,0,an⟩ .returning _ HU.1 HU.2).mono ?_;rintro o u' xX ⟨rfl,rfl,rfl⟩;rw[<-zG.o];exact⟨_,AM results96 _ _ (w.1.size+1) (Xm 9) _ rfl (Aa.range n) underlying62 rfl Yr,yD,cr ⟨9,⟨#[]⟩,⟨#[]⟩,yM,rfl⟩⟩
  have xN:Hid (KN v e r):=⟨yX,Hy,vG,l⟩;have yR:=Yw (Za hs (Za hu xD));have tP:Hid (F=(v.D++[et]).length):=D;clear hs hu xD D l vG yX
  as_aux_lemma=>
  obtain⟨⟨l0,_⟩,⟨l1,_⟩,⟨n2,f2⟩,⟨n3,f3⟩,l,yB⟩:=xT.1 0 _ rfl,xT.1 1 _ rfl,n.2.2.2.2 2 _ rfl,n.2.2.2.2 3 _ rfl,Ag ((Z.setCell (Zd (i.1.size) 2) (Cw H v.ss I)).setCell (Zd (i.1.size) 3) (Cx J F N));have zV:Tn [i.1.size] Z l:=by rw[yB];exact(Tn.set _ _ _ _ Yu).trans (Tn.set _ _ _ _ Yu)
  have vQ:l.1.size=Z.1.size:=by rw[yB];simp
  have tJ:Aa l i.1.size [Zg v.wd,Zg v.J,Cw H v.ss I,Cx J F N,Zg v.wd,Zg r.G,Zg r.H,Zg r.E,Cw ta r.B tc,Cw pa r.ps pc,Cw la r.ls lc,O,c1,c2,c3,c4,c5]:=by rw[yB];exact(n.2.2.2.2.set 2 _).set 3 _
  obtain⟨q1,q2,q3⟩:=R.o,yJ.2,yQ.o;have s:=Yw (Za (Aa.same n.1 (zV.block _ n.1.lt Yt)) (Za (Aa.same n.2.1 (zV.block _ n.2.1.lt Yt)) (Za (Aa.same n.2.2.1 (zV.block _ n.2.2.1.lt Yt)) (Za (Aa.same n.2.2.2.1 (zV.block _ n.2.2.2.1.lt Yt)) tJ))));have yA:Hid (bg lo w l):=zZ.trans (zV.A (Zm zI zZ.size) Yt);have xJ:Hid (Bc l w5.1.size (Cw ta r.B tc) (Cw pa r.ps pc) (Cw la r.ls lc) rs r.B r.ps r.ls):=yK.1.O zV Yt;have vD:=Yw yK.2;have D:Hid (Ah l C.1.size (Cw H v.ss I) v.ss/\Ah l C.1.size (Cx J F N) (v.D++[et])/\(∀g,Aj (Cw H v.ss I)=ai g->Aj (Cx J F N)≠ai g)):=⟨yR.1.O zV (fun g hg=>by have:=(yR.1.S hg).1;simp;omega),yR.2.1.O zV (fun g hg=>by have:=(yR.2.1.S hg).1;simp;omega),yR.2.2⟩;have xI:Hid (l.1[m]?=w5.1[m]?):=(zV.block m Yv Yt).trans yJ.1;have xH:Hid (l.cell? (Zd d 0)=ai (Zg v.wd)/\l.cell? (Zd d 1)=ai (.map (ai m))):=by have e8:l.1[d]?=Z.1[d]?:=zV.block d (by have:=HV.1 d HV.2.1;omega) (by have:=HV.1 d HV.2.1;simp;omega);exact⟨(cell_of_block e8 _).trans yI.1,(cell_of_block e8 _).trans yI.2⟩
  have xM:=Yw yB;clear yB zV tJ q1 q2 q3 n zZ yK yR yJ yI xT;go_upto_region 16 with fail;rw[<-xM.o];clear xM l0 l1 n2 f2 n3 f3
  as_aux_lemma=>
  obtain⟨⟨yN,_⟩,⟨d0,d1⟩,⟨sE,_⟩,⟨sF,_⟩,⟨sG,_⟩,⟨sH,_⟩,⟨sI,_⟩,⟨sJ,_⟩,⟨u8,_⟩,e1,_⟩:=s.1 19 _ rfl,xH.o,s.2.2.2.2 11 _ rfl,s.2.2.2.2 12 _ rfl,s.2.2.2.2 13 _ rfl,s.2.2.2.2 14 _ rfl,s.2.2.2.2 15 _ rfl,s.2.2.2.2 16 _ rfl,s.2.2.2.1 8 _ rfl,s.2.1 1 _ rfl;have vP:(k<l.1.size/\d<l.1.size)/\(i.1.size<l.1.size/\cb<l.1.size)/\w.1.size<l.1.size:=by have:=R.o;have:=yQ.o;have:=HV.1 d HV.2.1;have:=s.2.2.2.2.lt;have:=s.2.2.2.1.lt;have:=s.2.1.lt;have:=s.1.lt;exact⟨⟨Yv,Yv⟩,⟨Yv,Yv⟩,Yv⟩
  obtain⟨⟨tZ,sA⟩,⟨sB,sC⟩,sD⟩:=vP;have vY:Hid (w5.1.size<=C.1.size/\C.1.size<=l.1.size/\i.1.size<w5.1.size/\w.1.size+2<=i.1.size):=⟨Yv,Yv,Yv,by have:=R.o;have:=yQ.o;omega⟩;clear vQ sL z8 sM z6 z5 z4 z2;have yG:bg l.1.size l (l.drew.alloc (bs #[C0 r.sm,C0 e.s] 9)):=(Ae.drew).alloc (Zx) _;have⟨hl,xV⟩:=Ag (e.held r);have xS:Hid ((if r.sm=⟨#[]⟩then e.s else r.sm)=hl):=by show _=_;rw[xV];exact HO r Hy
  replace HH:=Yw (HH r w5 (l.drew.alloc (bs #[C0 r.sm,C0 e.s] 9)) yT Hy (yA.trans (yG.mono (Zm zI yA.size))) ((yG.block m (by have:=HV.1 m HV.2.2;have:=R.o;omega)).trans xI));rw[<-xV]at HH;have⟨yP,vO⟩:=Ag (shQ v.I r.B v.F v.ms hl);rw[<-vO]at HH;have⟨qn,vN⟩:=Ag yP.length;rw[<-vN]at HH;have vT:Hid (yP=shQ v.I r.B v.F v.ms (e.held r)):=by show yP=_;rw[vO,xV]
  have tO:Hid (qn=yP.length):=vN;clear xV vO vN HO xI xH yT;go_cut []from 9 to 100 (fun wx=>∃(qa:Zk) (qc:Nat) (ma:Zk) (mc:Nat),Hid (Aa wx i.1.size [Zg v.wd,Zg v.J,Cw H v.ss I,Cx J F N,Zg v.wd,Zg r.G,Zg r.H,Zg r.E,Cw ta r.B tc,Cw pa r.ps pc,Cw la r.ls lc,Zg v.I,Cx qa qn qc,Cw ma v.ms mc,Zg v.L,Zg v.K,Zg v.ro]/\Tn [i.1.size] l wx/\Ah wx l.1.size (Cx qa qn qc) yP/\Ah wx l.1.size (Cw ma v.ms mc) v.ms/\∀g,Aj (Cx qa qn qc)=ai g->Aj (Cw ma v.ms mc)≠ai g))
  case first=>
   have zA:Hid (∀X A,((X.cell? (Zd k 19)=ai (Yy d)/\X.cell? (Zd d 0)=ai (Zg v.wd)/\X.cell? (Zd d 1)=ai (.map (ai m)))/\X.cell? (Zd cb 8)=ai (C0 r.sm)/\X.cell? (Zd (w.1.size) 1)=ai (C0 e.s))->Zz X A->(A.cell? (Zd k 19)=ai (Yy d)/\A.cell? (Zd d 0)=ai (Zg v.wd)/\A.cell? (Zd d 1)=ai (.map (ai m)))/\A.cell? (Zd cb 8)=ai (C0 r.sm)/\A.cell? (Zd (w.1.size) 1)=ai (C0 e.s)):=fun X A B h2=>⟨⟨(h2.cell (A4 X _ B.1.1)).trans B.1.1,(h2.cell (A4 X _ B.1.2.1)).trans B.1.2.1,(h2.cell (A4 X _ B.1.2.2)).trans B.1.2.2⟩,(h2.cell (A4 X _ B.2.1)).trans B.2.1,(h2.cell (A4 X _ B.2.2)).trans B.2.2⟩;have zT:Hid (∀X A,((X.cell? (Zd k 19)=ai (Yy d)/\X.cell? (Zd d 0)=ai (Zg v.wd)/\X.cell? (Zd d 1)=ai (.map (ai m)))/\X.cell? (Zd cb 8)=ai (C0 r.sm)/\X.cell? (Zd (w.1.size) 1)=ai (C0 e.s))->Tn [i.1.size] X A->(A.cell? (Zd k 19)=ai (Yy d)/\A.cell? (Zd d 0)=ai (Zg v.wd)/\A.cell? (Zd d 1)=ai (.map (ai m)))/\A.cell? (Zd cb 8)=ai (C0 r.sm)/\A.cell? (Zd (w.1.size) 1)=ai (C0 e.s)):=fun X A B h2=>by
    obtain⟨tG,q1,q3,q4⟩:=vY.o,R.o,yQ.o,HV.1 d HV.2.1;have e1:=fun j=>cell_of_block (h2.block k (A4 X _ B.1.1) Yt) j;have e2:=fun j=>cell_of_block (h2.block d (A4 X _ B.1.2.1) Yt) j;have e3:=fun j=>cell_of_block (h2.block cb (A4 X _ B.2.1) Yt) j;have e4:=fun j=>cell_of_block (h2.block w.1.size (A4 X _ B.2.2) Yt) j;exact⟨⟨(e1 _).trans B.1.1,(e2 _).trans B.1.2.1,(e2 _).trans B.1.2.2⟩,(e3 _).trans B.2.1,(e4 _).trans B.2.2⟩
   have zE:Hid (∀j qa qc ma mc,bg (l.drew.alloc (bs #[C0 r.sm,C0 e.s] 9)).1.size (l.drew.alloc (bs #[C0 r.sm,C0 e.s] 9)) j->Ah j (l.drew.alloc (bs #[C0 r.sm,C0 e.s] 9)).1.size (Cx qa qn qc) yP->Ah j (l.drew.alloc (bs #[C0 r.sm,C0 e.s] 9)).1.size (Cw ma v.ms mc) v.ms->(∀g,Aj (Cx qa qn qc)=ai g->Aj (Cw ma v.ms mc)≠ai g)->j.there i.1.size 11 6/\Hid (Aa (j.setCells i.1.size 11 (Xu v.I qa qn qc ma v.ms.length mc v.L v.K v.ro)) i.1.size [Zg v.wd,Zg v.J,Cw H v.ss I,Cx J F N,Zg v.wd,Zg r.G,Zg r.H,Zg r.E,Cw ta r.B tc,Cw pa r.ps pc,Cw la r.ls lc,Zg v.I,Cx qa qn qc,Cw ma v.ms mc,Zg v.L,Zg v.K,Zg v.ro]/\Tn [i.1.size] l (j.setCells i.1.size 11 (Xu v.I qa qn qc ma v.ms.length mc v.L v.K v.ro))/\Ah (j.setCells i.1.size 11 (Xu v.I qa qn qc ma v.ms.length mc v.L v.K v.ro)) l.1.size (Cx qa qn qc) yP/\Ah (j.setCells i.1.size 11 (Xu v.I qa qn qc ma v.ms.length mc v.L v.K v.ro)) l.1.size (Cw ma v.ms mc) v.ms/\∀g,Aj (Cx qa qn qc)=ai g->Aj (Cw ma v.ms mc)≠ai g)):=fun j qa qc ma mc A hq hm zX=>by
    have vZ:=yG.trans (A.mono yG.size);obtain⟨tK,zS,hz⟩:=Aa.A s.2.2.2.2 vZ,Ap i.1.size (Xu v.I qa qn qc ma v.ms.length mc v.L v.K v.ro) 11 j,yG.size;exact⟨Aa.du [Zg v.wd,Zg v.J,Cw H v.ss I,Cx J F N,Zg v.wd,Zg r.G,Zg r.H,Zg r.E,Cw ta r.B tc,Cw pa r.ps pc,Cw la r.ls lc] [O,c1,c2,c3,c4,c5] [] tK,Aa.fe (Xu v.I qa qn qc ma v.ms.length mc v.L v.K v.ro) [Zg v.wd,Zg v.J,Cw H v.ss I,Cx J F N,Zg v.wd,Zg r.G,Zg r.H,Zg r.E,Cw ta r.B tc,Cw pa r.ps pc,Cw la r.ls lc] [O,c1,c2,c3,c4,c5] [] j tK rfl,((Tn.of (V:=[]) vZ).mono Yu).trans zS,(hq.mono hz).O zS (fun g hg=>by have:=(hq.S hg).1;simp;omega),(hm.mono hz).O zS (fun g hg=>by have:=(hm.S hg).1;simp;omega),zX⟩
   refine wp_region_noPanic ?_;refine wp_region_held_drew (S:=fun X=>(X.cell? (Zd k 19)=ai (Yy d)/\X.cell? (Zd d 0)=ai (Zg v.wd)/\X.cell? (Zd d 1)=ai (.map (ai m)))/\X.cell? (Zd cb 8)=ai (C0 r.sm)/\X.cell? (Zd (w.1.size) 1)=ai (C0 e.s)) Yr (show _/\_ from⟨⟨yN,d0,d1⟩,u8,e1⟩) (fun hS=> ?_);refine AK 0 (Yy k) ?_;try simp only[Act.put,AG]
   refine AK 1 (Yy k) ?_;try simp only[Act.put,AG]
   refine AK 2 (Yx k 19) ?_;try simp only[Act.put,AG]
   refine Di 3 (Yy d) rfl (by exact Or.inl ⟨Yp,fun X hX=>by have B:=hX.1.1;go_simp⟩) ?_;try simp only[Act.put,AG]
   refine AK 4 (Yy d) ?_;try simp only[Act.put,AG]
   refine AK 5 (Yy d) ?_;try simp only[Act.put,AG]
   refine Di 6 (ca #[Zg v.wd,.map (ai m)]) rfl (by exact yieldsIf_load_mid Yp 121 _ rfl (d) 0 rfl [Zg v.wd,.map (ai m)] _ (fun X h=>Aea h.1.2.1 h.1.2.2) underlying121 rfl Yr) ?_;try simp only[Act.put,AG]
   refine AK 7 (Yx i.1.size 11) ?_;try simp only[Act.put,AG]
   refine AK 9 (Yx cb 8) ?_;try simp only[Act.put,AG]
   refine Di 10 (C0 r.sm) rfl (by exact Or.inl ⟨Yp,fun X hX=>by have B:=hX.2.1;go_simp⟩) ?_;try simp only[Act.put,AG]
   refine AK 11 (Yx w.1.size 1) ?_;try simp only[Act.put,AG]
   refine Di 12 (C0 e.s) rfl (by exact Or.inl ⟨Yp,fun X hX=>by have B:=hX.2.2;go_simp⟩) ?_;try simp only[Act.put,AG]
   refine wpAnyH_ready (rs:=[8,13]) Yr Yu ?_;refine AllReadyH.cons (o:=⟨ai 86,.load 32 (.tmp 85),32,Gb,#[IJ 7],an⟩) rfl (fun K a=> ?_) (AllReadyH.cons (o:=⟨ai 91,.buildSlice 23 2 #[(0,.tmp 88),(1,.tmp 90)],23,Gb,#[IJ 10,IJ 12],an⟩) rfl (fun K a=> ?_) AllReadyH.nil)
   .rw[if_pos Yp];refine wp_load_mid 32 _ rfl i.1.size 11 rfl [O,c1,c2,c3,c4,c5] _ (Aa.fx [Zg v.wd,Zg v.J,Cw H v.ss I,Cx J F N,Zg v.wd,Zg r.G,Zg r.H,Zg r.E,Cw ta r.B tc,Cw pa r.ps pc,Cw la r.ls lc] [O,c1,c2,c3,c4,c5] [] s.2.2.2.2) underlying32 rfl Yr ?_;refine a.out _ _ hS (fun zO=> ?_);clear a K;try simp only[Act.put,AG]
    refine Bk 13 (fun K a=> ?_);go_simp;refine a.out _ _ (zA _ _ zO (Zy)) (fun zJ=> ?_);clear a K;try simp only[Act.put,AG]
    refine Bk 14 (fun K a=> ?_);go_simp;refine(QG l.1.size r.sm e.s _ (Aa.new l.drew [C0 r.sm,C0 e.s] 9 0 _ rfl).1 (Aa.new l.drew [C0 r.sm,C0 e.s] 9 1 _ rfl).1).mono ?_;rintro o tI ⟨rfl,rfl⟩;rw[xS.o];try go_simp
    refine a.out _ _ zJ (fun zP=> ?_);clear a K;try simp only[Act.put,AG]
    refine Bk 15 (fun K a=> ?_);go_simp;refine HH.Ak ?_;rintro o j ⟨A,qa,qc,ma,mc,rfl,hq,hm,zX⟩;try go_simp
    refine a.out _ _ (zA _ _ zP A) (fun yH=> ?_);clear a K;try simp only[Act.put,AG]
    have⟨xF,yC⟩:=zE j qa qc ma mc A hq hm zX;have X:((Yb v.I qa qn qc ma v.ms.length mc v.L v.K v.ro):Array Value).all (·.oneCell')=ay:=Ef;refine AK 16 (Yx i.1.size 11) ?_;try simp only[Act.put,AG]
    refine Bk 17 (fun K a=> ?_);rw[if_pos Yp];refine wp_store_mid 32 _ _ rfl i.1.size 11 (Yb v.I qa qn qc ma v.ms.length mc v.L v.K v.ro) rfl rfl xF Yr X ?_;refine a.out _ _ (zT _ _ yH (Ap _ _ _ _)) (fun tB=> ?_);clear a K;try simp only[Act.put]
    refine wpAnyH_done Yr ?_ _;refine NoPanic.normal ?_;go_wp2_with fail;go_meet;exact⟨qa,qc,ma,mc,yC⟩
   go_simp;refine a.out _ _ (zA _ _ hS (Zy)) (fun zO=> ?_);clear a K;try simp only[Act.put,AG]
   refine wpAnyH_ready (rs:=[8,14]) Yr Yu ?_;refine AllReadyH.cons (o:=⟨ai 86,.load 32 (.tmp 85),32,Gb,#[IJ 7],an⟩) rfl (fun K a=> ?_) (AllReadyH.cons (o:=⟨ai 92,.call ⟨.value (.func 141),#[.tmp 91],#[23]⟩,9,Gb,#[IJ 13],an⟩) rfl (fun K a=> ?_) AllReadyH.nil)
   .rw[if_pos Yp];refine wp_load_mid 32 _ rfl i.1.size 11 rfl [O,c1,c2,c3,c4,c5] _ (Aa.fx [Zg v.wd,Zg v.J,Cw H v.ss I,Cx J F N,Zg v.wd,Zg r.G,Zg r.H,Zg r.E,Cw ta r.B tc,Cw pa r.ps pc,Cw la r.ls lc] [O,c1,c2,c3,c4,c5] [] (Aa.A s.2.2.2.2 yG)) underlying32 rfl Yr ?_;refine a.out _ _ zO (fun zJ=> ?_);clear a K;try simp only[Act.put,AG]
    refine Bk 14 (fun K a=> ?_);go_simp;refine(QG l.1.size r.sm e.s _ (Aa.new l.drew [C0 r.sm,C0 e.s] 9 0 _ rfl).1 (Aa.new l.drew [C0 r.sm,C0 e.s] 9 1 _ rfl).1).mono ?_;rintro o tI ⟨rfl,rfl⟩;rw[xS.o];try go_simp
    refine a.out _ _ zJ (fun zP=> ?_);clear a K;try simp only[Act.put,AG]
    refine Bk 15 (fun K a=> ?_);go_simp;refine HH.Ak ?_;rintro o j ⟨A,qa,qc,ma,mc,rfl,hq,hm,zX⟩;try go_simp
    refine a.out _ _ (zA _ _ zP A) (fun yH=> ?_);clear a K;try simp only[Act.put,AG]
    have⟨xF,yC⟩:=zE j qa qc ma mc A hq hm zX;have X:((Yb v.I qa qn qc ma v.ms.length mc v.L v.K v.ro):Array Value).all (·.oneCell')=ay:=Ef;refine AK 16 (Yx i.1.size 11) ?_;try simp only[Act.put,AG]
    refine Bk 17 (fun K a=> ?_);rw[if_pos Yp];refine wp_store_mid 32 _ _ rfl i.1.size 11 (Yb v.I qa qn qc ma v.ms.length mc v.L v.K v.ro) rfl rfl xF Yr X ?_;refine a.out _ _ (zT _ _ yH (Ap _ _ _ _)) (fun tB=> ?_);clear a K;try simp only[Act.put]
    refine wpAnyH_done Yr ?_ _;refine NoPanic.normal ?_;go_wp2_with fail;go_meet;exact⟨qa,qc,ma,mc,yC⟩
   go_simp;refine(QG l.1.size r.sm e.s _ (Aa.new l.drew [C0 r.sm,C0 e.s] 9 0 _ rfl).1 (Aa.new l.drew [C0 r.sm,C0 e.s] 9 1 _ rfl).1).mono ?_;rintro o tI ⟨rfl,rfl⟩;rw[xS.o];try go_simp
   refine a.out _ _ zO (fun zJ=> ?_);clear a K;try simp only[Act.put,AG]
   refine Bk 8 (fun K a=> ?_);rw[if_pos Yp];refine wp_load_mid 32 _ rfl i.1.size 11 rfl [O,c1,c2,c3,c4,c5] _ (Aa.fx [Zg v.wd,Zg v.J,Cw H v.ss I,Cx J F N,Zg v.wd,Zg r.G,Zg r.H,Zg r.E,Cw ta r.B tc,Cw pa r.ps pc,Cw la r.ls lc] [O,c1,c2,c3,c4,c5] [] (Aa.A s.2.2.2.2 yG)) underlying32 rfl Yr ?_;refine a.out _ _ zJ (fun zP=> ?_);clear a K;try simp only[Act.put,AG]
   refine Bk 15 (fun K a=> ?_);go_simp;refine HH.Ak ?_;rintro o j ⟨A,qa,qc,ma,mc,rfl,hq,hm,zX⟩;try go_simp
   refine a.out _ _ (zA _ _ zP A) (fun yH=> ?_);clear a K;try simp only[Act.put,AG]
   have⟨xF,yC⟩:=zE j qa qc ma mc A hq hm zX;have X:((Yb v.I qa qn qc ma v.ms.length mc v.L v.K v.ro):Array Value).all (·.oneCell')=ay:=Ef;refine AK 16 (Yx i.1.size 11) ?_;try simp only[Act.put,AG]
   refine Bk 17 (fun K a=> ?_);rw[if_pos Yp];refine wp_store_mid 32 _ _ rfl i.1.size 11 (Yb v.I qa qn qc ma v.ms.length mc v.L v.K v.ro) rfl rfl xF Yr X ?_;refine a.out _ _ (zT _ _ yH (Ap _ _ _ _)) (fun tB=> ?_);clear a K;try simp only[Act.put]
   refine wpAnyH_done Yr ?_ _;refine NoPanic.normal ?_;go_wp2_with fail;go_meet;exact⟨qa,qc,ma,mc,yC⟩
  case rest=>
  revert wc;intro K hcut;obtain⟨qa,qc,ma,mc,hcut⟩:=hcut;clear yN d0 d1 sE sF sG sH sI sJ u8 e1 yG HH xS;have⟨tL,zS,hq,hm,zX⟩:=hcut.o;obtain⟨q1,sQ,tG,q3⟩:=R.o,zS.size,vY.o,yQ.o;have tT:i.1.size<w5.1.size:=Yv;have a:=Yw (Za (Aa.same s.1 (zS.block _ s.1.lt Yt)) (Za (Aa.same s.2.2.1 (zS.block _ s.2.2.1.lt Yt)) (Za (Aa.same s.2.2.2.1 (zS.block _ s.2.2.2.1.lt Yt)) tL)));have xG:Hid (bg lo w K):=yA.trans (zS.A (Zm zI yA.size) Yt);have yU:Hid (Ay K w5.1.size (Cw H v.ss I) (Cx J F N) (Cw ta r.B tc) (Cw pa r.ps pc) (Cw la r.ls lc) (Cx qa qn qc) (Cw ma v.ms mc) rs (doV v e r)):=by
   have hS:=xJ.O zS Yt;have B:=D.1.O zS (fun g hg=>by have:=(D.1.S hg).1;simp;omega);have h2:=D.2.1.O zS (fun g hg=>by have:=(D.2.1.S hg).1;simp;omega);refine Ay.apart (B.mono Yv) (by have h:=h2.mono (base':=w5.1.size) Yv;rw[vS.o]at h;exact h) D.2.2 hS (by have h:=hq.mono (base':=w5.1.size) Yv;rw[vT.o]at h;exact h) (hm.mono Yv) zX (fun g hg xA=> ?_) (fun g hg xA=> ?_) (fun g g' hg tW he=> ?_)
   .have:=vD g xA;rcases hg with hg|hg
    .have:=(B.S hg).1;omega
    have:=(h2.S hg).1;omega
   .have:=vD g xA;rcases hg with hg|hg
    .have:=(hq.S hg).1;omega
    have:=(hm.S hg).1;omega
   have a1:g<l.1.size:=by
    rcases hg with hg|hg
    .exact(D.1.S hg).2
    exact(D.2.1.S hg).2
   have a2:l.1.size<=g':=by
    rcases tW with hg|hg
    .exact(hq.S hg).1
    exact(hm.S hg).1
   omega
  have vF:Hid (w.1.size+2<w5.1.size/\lo<=w5.1.size):=⟨Yv,Yv⟩;obtain⟨⟨u8,_⟩,u9,_⟩:=a.2.2.1 8 _ rfl,a.2.2.1 9 _ rfl;clear hcut tL zS hq hm zX q1 q3 tG tT tZ sA sB sC sD s yA xJ vD D vT tO vS tP;have⟨s,g⟩:∃t:Zj,t=[Zg v.wd,Zg v.J,Cw H v.ss I,Cx J F N,Zg v.wd,Zg r.G,Zg r.H,Zg r.E,Cw ta r.B tc,Cw pa r.ps pc,Cw la r.ls lc,Zg v.I,Cx qa qn qc,Cw ma v.ms mc,Zg v.L,Zg v.K,Zg v.ro]:=⟨_,rfl⟩;have tQ:Hid (Aa K i.1.size s):=by show Aa K i.1.size s;rw[g];exact a.2.2.2
  have xW:s.length=17:=by rw[g];rfl
  have tE:∀u∈s,u.oneCell'=ay:=by
   have h:s.all (·.oneCell')=ay:=(by rw[g];kernel_rfl);exact fun u hu=>all_eq_true.1 h u hu
  have⟨D,hD⟩:∃t:Zj,t=Zg 0::(s++[C0 r.sm,Zg r.le,Zc,Zc]):=⟨_,rfl⟩;have xU:D.length=22:=by rw[hD];simp[xW]
  have tA:∀u∈D,u.oneCell'=ay:=by
   intro u hu;rw[hD]at hu;simp only[Bh,A5,not_mem_nil,or_false]at hu;rcases hu with rfl|hu|rfl|rfl|rfl|rfl
   .rfl
   .exact tE u hu
   .rfl
   .rfl
   .rfl
   rfl
  have tM:Hid (prog.built 62 [(1,ca s.toArray),(2,C0 r.sm),(3,Zg r.le)]=ai D.toArray):=by show _=ai D.toArray;rw[hD];exact Oi xW _ _
  have tN:Hid (s.length=17):=xW;have zE:Hid (D=Ha (dyes v e r) (Cw H v.ss I) (Cx J F N) (Cw ta r.B tc) (Cw pa r.ps pc) (Cw la r.ls lc) (Cx qa qn qc) (Cw ma v.ms mc)):=by show D=_;rw[hD,g];have h:=yS.o;unfold Ha AV dyes doV;simp only[cons_append,nil_append,<-h]
  have⟨W9,zC⟩:=Ag (K.setCells (w.1.size+1) 0 D.toArray.toList);have⟨zU,E⟩:=D2 W9 k 0 (.int .i32 0);obtain⟨l0,g0,zM,zK⟩:=Hs (z:=Ze) (cs:=D) a.1 a.2.1 (by rw[xU];rfl) J6 zC E;have zH:Hid (K.there (w.1.size+1) 0 D.toArray.size/\D.length=22/\∀u∈D,u.oneCell'=ay):=by refine⟨?_,xU,tA⟩;rw[show D.toArray.size=22 from by rw[Az];exact xU];exact a.2.1.there
  have yD:Hid (bg lo w zU):=xG.trans (zK.A (Zm zI xG.size) J0);have vU:Hid (Ay zU lo (Cw H v.ss I) (Cx J F N) (Cw ta r.B tc) (Cw pa r.ps pc) (Cw la r.ls lc) (Cx qa qn qc) (Cw ma v.ms mc) rs (doV v e r)):=(yU.stays zK (fun b hb xA=>by have:=yU.lo b xA;have:=vF.o;have:=R.o;simp at hb;omega)).mono vF.2
  have b:Hid (∃r,KN v e r/\∃S U T P L Q M,Ending.returned (ca D.toArray)=C1 (ca (Ha (dyes v e r) S U T P L Q M).toArray)/\∃rs,Ay zU lo S U T P L Q M rs (doV v e r)):=⟨r,xN,_,_,_,_,_,_,_,by rw[zE.o],rs,vU⟩;have HU:=Yw (Zn l0 g0);have n:=Yw zM;have yE:=Yw zC;have zG:=Yw E;clear zC E l0 g0 zM zK g xW tE hD xU tA a yU zE vU xN yS vF;go_wp2_with (first
   |refine wpList_load_mid rfl 34 _ rfl i.1.size 0 rfl s _ tQ.range underlying34 rfl (by rw[tN.o];kernel_rfl) ?_
   |refine GP rfl 62 _ rfl [(1,ca s.toArray),(2,C0 r.sm),(3,Zg r.le)] Yr D.toArray tM ?_
   |refine wpList_store_mid rfl 62 _ _ rfl (w.1.size+1) 0 D.toArray rfl rfl zH.1 (by rw[Az,zH.2.1];kernel_rfl) (all_oneCell_toArray zH.2.2) ?_)
  rw[<-yE.o];refine leaves_cons (f:=72) (args:= #[Yy k]) Yu F3 ?_;refine(unlock_deferred Gw ⟨k,0,an⟩ .returning _ HU.1 HU.2).mono ?_;rintro o u' xX ⟨rfl,rfl,rfl⟩;rw[<-zG.o];exact⟨_,AM results96 _ _ (w.1.size+1) D _ rfl (Aa.range n) underlying62 rfl (by rw[zH.2.1];kernel_rfl),yD,ct b⟩
end
theorem Db.held{e j d c:Int}{p:C5}{ps:C7}{q:C6}{h:Int}{s t:Zi}{k:Int}{b:Zi}{a:Zl}(l:1<=e)(g:Db e j d c p ps q h s t k b a r):(if r.sm=⟨#[]⟩then s else r.sm)=if h=1 then r.sm else s:=by
 rcases g with⟨rfl,_,o,n,u,v,g,rfl⟩|⟨rfl,_,f,rfl⟩|⟨rfl,_,rfl⟩|⟨rfl,_,o,n,rfl⟩|⟨rfl,_,rfl⟩|⟨rfl,x,rfl⟩|⟨rfl,_,_,rfl⟩
 .rw[if_pos rfl,if_neg];intro m;have:=Fe b a e l;have i:Bm b a e=⟨#[]⟩:=m;rw[i]at this;have w:((⟨#[]⟩:Zi).size:Int)=0:=rfl;omega
 all_goals simp
theorem Aek(e:Ed){J:Zk}(Q:Nat){N zA:Nat}{A:Zh}(M:Bo v r)(E:Mc w N k d m zA O P L v a r)(zN:A.1.size<=N)(I:Zz A w)(hr:Bg A A.1.size a v)(G:DM v)(hE:Env A)(H:Fy A A.1.size J e.V)(hl:ed e.V<=1048576)(C:e.Y.size<=eo)(hn:e.T.size<=eo):
 D4 96 #[Yy k,ca (Ye e.N e.s e.T e.M e.Y J (ed e.V) Q)] w (TO v e N w):=by
 have⟨⟨zK,e2,e3,e4⟩,e5,e6,e7⟩:=M.same;have BK:=E.R;rw[e2,e3,e4,e5,e6,e7]at BK;have hz:=BK.zero E.br;have zE:=M.fg;have dm:∀b∈vB d m O P L,N<=b/\b<k:=λb I=>⟨Zm E.dm (BK.low b I),E.lt b I⟩;have⟨zO,U⟩:=E.ty;have zS:k<w.1.size:=E.box.lt;have zG:k∉vB d m O P L:=λh=>C8 (E.lt k h);have F:∀X,bg N w X->Zz A X:=λX n=>I.ag (n.ah zN);have t:∀l,e.ok v.wd=ay->e.yes v l->Gk v.wd l.G l.H l.E l.B l.ps l.ls:=λl f j=>zE.step f j;have gj:=E.gj;refine Aej N d m (vB d m O P L) v e _ _ _ _ _ _ _ _ _ _ _ _ _ _ _ J Q (λl X=>e.ok v.wd=ay/\e.yes v l/\Ka 0 d m v.wd l X) E.box E.gj dm ⟨by simp[vB],by simp[vB]⟩ ?_ (λX n=> ?_) (λB X n=> ?_) ?_ ?_ ?_ ?_ (λB X n=> ?_) (λB X n=> ?_) ?_ ?_ zK
 .simp[oneCell']
 .exact Wv e.N e.s e.T e.M e.Y J Q e.V v.wd (hE.A (F X n)).iz ((H.A (F X n)).row (F X n).size) hl C hn
 .have V:=hz.apart n (Aw _) zG (λzF l l=>by rw[U]at l;simp at l);have zB:bg A.1.size A X:=I.ag (n.A I.size Yt);refine(Lz d (vB d m O P L) e.N e.s e.T e.Y e.M J (ed e.V) Q (λc p q=>e.no v c p q) (λsm h X=>∃r,e.yes v r/\r.sm=sm/\r.le=h/\Ka 0 d m v.wd r X) X V.dj ?_ (λK z=> ?_)).ah ?_
  .rintro sm h Y Y' R zF ⟨r,f,j,l,h4⟩ hR zP C;exact⟨r,f,j,l,h4.stays hR (Aw _) (C8 V.box.lt) C⟩
  .have zC:=zB.ag (z.ah zB.size);exact MQ 0 d m O P L e.s e.T J Q K ⟨V.A z⟩ (zE.jn B C) ((H.A zC).bk zC.size (λb I=>C8 (dm b I)))
  rintro o K (⟨c,p,q,f,rfl,C⟩|⟨sm,h,rfl,⟨r,f,j,l,h4⟩,C⟩)
  .exact⟨C,c,_,_,p,q,rfl,cr ⟨f,rfl,rfl⟩⟩
  exact⟨C,0,sm,h,_,_,rfl,ct ⟨rfl,rfl,rfl,r,f,j,l,B,f,h4⟩⟩
 .rintro r X K R ⟨f,j,l⟩ hR W C;exact⟨f,j,l.O (λe=>hR (by rw[e];simp[vB])) W C⟩
 .rintro r X ⟨_,_,O,P,L,l⟩;exact⟨(l.box 0 _ rfl).1,(l.box 1 _ rfl).1⟩
 .rintro r X ⟨f,j,O,P,L,l⟩;have z:=t r f j;refine(GH l z.bn.nd z.bn.sz z.bn.len z.np z.nl z.dz).ah ?_;rintro o K ⟨T,P',L',rs,rfl,hS,D⟩;obtain⟨ta,tc,rfl⟩:=AB hS.aw;obtain⟨pa,pc,rfl⟩:=AB hS.pins;obtain⟨la,lc,rfl⟩:=AB hS.bh;exact⟨ta,tc,pa,pc,la,lc,rs,rfl,hS,D⟩
 .intro B _ r X ta tc pa pc la lc j S;have z:=t r B j;have zM:=M.tok.step B j;exact Vv v.wd r.G r.H r.E pa la tc pc lc r.ps r.ls S z.bn.len (λi k b=>zM k (Zs b)) (λk U=>by have:=z.cf k U;unfold eo;omega) (λk U=>C8 (z.dz k U))
 .exact Vl e.N e.s e.T e.M e.Y J Q e.V v.wd X (hE.A (F X n)).iz ((H.A (F X n)).row (F X n).size) hl C hn
 .obtain⟨hs,b,i⟩:=hr.s.U (F X n),hr.t.U (F X n),Ed.dw B;by_cases hfull:ed v.ss+ed v.D=4000
  .have W:Fb v.ss v.D (e.cf v.wd)=2:=(by unfold Fb;rw[if_pos ⟨M.log,i⟩,if_pos hfull]);refine(Tr a.sc a.d (e.cf v.wd) hs b G.s G.t G.ss G.D (by rw[W];decide)).ah ?_;rintro o K ⟨rfl,D⟩;exact⟨D,an,0,0,an,0,0,_,rfl,cr ⟨hfull,by rw[W];rfl⟩⟩
  refine(Tq a.sc a.d (e.cf v.wd) hs b G.s G.t G.ss G.D M.log i hfull).ah ?_;rintro o K ⟨s,u,rfl,f,j,l,D⟩;have k1:=QJ f;have k2:=QJ j;obtain⟨sa,sc,rfl⟩:=AB f;obtain⟨ua,uc,rfl⟩:=AB j;refine⟨D,sa,_,sc,ua,_,uc,0,rfl,ct ⟨hfull,rfl,rfl,rfl,Ah.own f,Ah.own j,λg n g=> ?_⟩⟩;rw[k1]at n;rw[k2]at g;rcases l with l|l
  .rw[l]at n;cases n
  exact l (n.ag g.symm)
 .intro r hy;exact Db.held M.wd.1 hy
 rintro r X Z ⟨f,j,l⟩ _ hZ zH;have n:=F Z hZ;obtain⟨z,zJ,g⟩:=t r f j,hr.q.U n,hr.m.U n;refine(Abx v.wd m r.B (e.held r) v.I v.L v.K v.ro a.qc a.mc (l.has z.bn.sz zH _) zJ g G.r).ah ?_;rintro o Z' ⟨x,cx,y,cy,rfl,o1,o2,zI,D⟩;exact⟨D,x,cx,y,cy,rfl,o1,o2,zI⟩
theorem Mc.A{e:Zh}{base:Nat}(h:Mc w c k d m base O P L v a r)(b:Zz w e):Mc e c k d m base O P L v a r:=by have⟨f,g⟩:=h.ty;exact⟨Aa.A h.box b,h.R.A b,h.dm,h.gj,h.lt,h.br,f,(b.block k h.box.lt).ag g⟩
theorem OI(e:Ed)(g:Nat)(rv:Dg)(n:Zk)(u:Nat)(y:∀args X,(callFunc g args).run prog X=.ok (.enter g args) X)(t:Bg w w.1.size a v)(s:DM v)(x:Env w)(p:Fy w w.1.size n e.V)(A:ed e.V<=1048576)(C:e.Y.size<=eo)(B:e.T.size<=eo)(z:∀X,Zz w X->D4 g #[rv] X λo q=>o=C1 (ca (Ye e.N e.s e.T e.M e.Y n (ed e.V) u))/\Zz X q):
 D4 54 #[ca (Xr v a),.func (.func g) #[rv] #[]] w (GV v e w):=by
 refine VC v e _ _ g rv n u (λl k X=>∃r d m b O P L,Bo v r/\Mc X l k d m b O P L v a r) w rfl y (λX j=> ?_) z ?_ ?_ ?_
 .refine(JP (t.U j) s (x.A j)).ah ?_;rintro o q ⟨f,h|⟨r,k,d,m,O,P,L,b,c,rfl,i⟩⟩
  .exact⟨f,cr h⟩
  exact⟨f,ct ⟨⟨r,c⟩,k,rfl,r,d,m,b,O,P,L,c,i⟩⟩
 .rintro l k X q ⟨r,d,m,b,O,P,L,c,i⟩ f;exact⟨r,d,m,b,O,P,L,c,i.A f⟩
 .rintro l k X dm _ ⟨r,d,m,b,O,P,L,c,i⟩ f;exact Aek e u c i dm f t s x p A C B
 rintro⟨r,c⟩ X j;exact IW (t.U j) s c
theorem RD(d:Zi)(a:Zk)(b:Nat)(c:Zl)(n:Int)(w:Zh):
 D4 55 #[ca #[C0 d,Cx a (ed c) b,Zc,Zc,Zg n]] w λo e=>o=C1 (ca (Ye 1 ⟨#[]⟩ ⟨#[]⟩ n d a (ed c) b))/\Zz w e:=by
 delta D4;go_in;go_wp2;refine Co (ca (Ye 1 ⟨#[]⟩ ⟨#[]⟩ n d a (ed c) b)) (by simp[results,results55,go_sem]) ⟨rfl,?_⟩;exact(Zy).alloc Yu _
theorem YF(v:Vd)(A:Zj)(c:Zi)(i:Zk)(j:Nat)(a:Zl)(n:Int)(w:Zh)(p:ed A=17)(h:∀X,Zz w X->D4 54 #[ca (ee A),.func (.func 55) #[ca #[C0 c,Cx i (ed a) j,Zc,Zc,Zg n]] #[]] X (GV v ⟨1,⟨#[]⟩,⟨#[]⟩,n,c,a⟩ X)):
 D4 16 #[ca (ee A),ca #[C0 c,Cx i (ed a) j],Zg n] w (GV v ⟨1,⟨#[]⟩,⟨#[]⟩,n,c,a⟩ w):=by
 have O:∀(fn:Fn) (first cap:Array Value) (w:Zh),(Instr.makeFunc fn first cap).run prog w=.ok (.func fn first cap) w:=λ_ _ _ _=>rfl;have⟨W,e⟩:=Ag (((w.alloc (bs (ee A) 34)).alloc (bs #[C0 c,Cw i a j] 48)).alloc (bs Xn 62));have f:=(Bq e).1;have q:=(Bq e).2.1
 have l:Hid (Aa W w.1.size A/\Aa W (w.1.size+1) [C0 c,Cw i a j]/\Aa W (w.1.size+2) Cu):=⟨(Bq e).2.2.1,(Bq e).2.2.2.1,(Bq (m:=Cu) e).2.2.2.2⟩;have I:Hid (ed A=17):=p;have k:=Yw (Zn f q);have g:=Yw e;have F:=Yw (h W f);clear e p h f q;delta D4;go_in;go_upto_region 1 with fail;rw[<-g.o];clear g;go_wp2_with (first
  |refine wpList_load_mid rfl 34 _ rfl w.1.size 0 rfl A _ l.1.range underlying34 rfl (by rw[I.o];kernel_rfl) ?_
  |refine wpList_load_mid rfl 48 _ rfl (w.1.size+1) 0 rfl [C0 c,Cw i a j] _ l.2.1.range underlying48 rfl Yr ?_)
 refine F.Ak ?_;rintro o E ⟨d,S,U,T,P,L,Q,M,N,s,rfl,p,B⟩;obtain⟨e,D,f⟩:=Jt p,Ag (Ha d S U T P L Q M);rw[<-f]at e;rw[<-f];have G:=Yw f;clear f;obtain⟨z,x,g⟩:=Aa.A (v:=Ze) l.2.2 B,Ag (E.setCells (w.1.size+2) 0 (ee D).toList);have C:Tn [w.1.size+2] E x:=by rw[g];exact Ap _ _ _ _
 have H:Aa x (w.1.size+2) D:=by rw[g];exact z.ax D (by rw[e.1];rfl)
 have f:Hid (E.there (w.1.size+2) 0 (ee D).size/\ed D=22/\∀u∈D,u.oneCell'=ay):=by refine⟨?_,e⟩;rw[show (ee D).size=22 from by rw[Az];exact e.1];exact z.there
 have y:=k.1.ag (B.ah k.1.size);have q:=k.2;have r:Hid (GV v ⟨1,⟨#[]⟩,⟨#[]⟩,n,c,a⟩ w (.returned (ca (ee D))) x):=⟨d,S,U,T,P,L,Q,M,N,s,by rw[G.o],(p.stays C (λb J K=>by have:=p.lo b K;simp at J;omega)).ah Yv,y.ag (C.A y.size Yu)⟩;have K:=Yw H;have J:=Yw g;clear g C H z e B y q F k l p s G;go_wp2_with (refine wpList_store_mid rfl 62 _ _ rfl (w.1.size+2) 0 (ee D) rfl rfl f.1 (by rw[Az,f.2.1];kernel_rfl) (all_oneCell_toArray f.2.2) ?_);rw[<-J.o];exact bodyPost_ret (AM results16 _ _ (w.1.size+2) D _ rfl (Aa.range K) underlying62 rfl (by rw[f.2.1];kernel_rfl)) rfl r
theorem Fy.mono{a:Zk}{e:Zl}(h:Fy w d a e)(k:d<=c):Fy w c a e:=by
 rcases h with h|⟨b,f,g,i,j⟩
 .exact cr h
 exact ct ⟨b,f,g,Zr i k,j⟩
abbrev Fy.ah:=@Fy.mono
theorem Abz(c:Zi){d:Zk}(f:Nat){b:Zl}(n:Int)(k:Bg w w.1.size a v)(i:DM v)(h:Env w)(g:Fy w w.1.size d b)(j:ed b<=1048576)(l:c.size<=eo):
 D4 16 #[ca (Xr v a),ca #[C0 c,Cx d (ed b) f],Zg n] w (GV v ⟨1,⟨#[]⟩,⟨#[]⟩,n,c,b⟩ w):=
 YF v (Xq v a) c d f b n w rfl (λX e=>OI ⟨1,⟨#[]⟩,⟨#[]⟩,n,c,b⟩ 55 _ d f (enters_of func55 Yr rfl) (k.U e) i (h.A e) ((g.A e).ah e.size) j l (Aw _) (λY _=>RD c d f b n Y))
def OJ(w:Zh)(o:Nat):Prop:=∀(k:Nat) (s:Zi),w.cell? (Zd o k)≠ai (.string s)
theorem Ad.off{a:Zk}{c:Zl}{V:List Nat}(h:Ad w w.1.size a c)(q:∀p,a=ai p->n<=p.block)(r:OJ w o)(k:Tn V w w')(m:∀g∈V,g=o\/g<n):Ad w' w'.1.size a c:=by
 rcases h with h|⟨b,d,rfl,f,j⟩
 .exact cr h
 cases c with
 |nil=>exact cr rfl
 |cons s0 c=>
  refine ct ⟨b,d,rfl,Zr f k.size,λi s t=>(cell?_of_block (a:=⟨b,d+i,an⟩) (k.block b f (λl=> ?_))).ag (j i s t)⟩;rcases m b l with e|e
  .subst e;exact r _ _ (j 0 s0 rfl)
  have:=q _ rfl;simp only at this;omega
theorem BV.off{a p l:Zk}{u:C5}{F:C7}{E:C6}(h:BV w w.1.size a p l u F E)(C:OJ w o)(x:Tn [o] w w'):BV w' w'.1.size a p l u F E/\∀A,a=ai A->Ic w A u->Ic w' A u:=by
 have g:∀{b k j:Nat} {s:Zi} {v:Dg},b<w.1.size->w.cell? (Zd b k)=ai (C0 s)->w.cell? (Zd b j)=v->w'.cell? (Zd b j)=v:=λ{b k j s v} f m r=>(cell?_of_block (a:=⟨b,j,an⟩) (x.block b f (λc=>by simp at c;subst c;exact C _ _ m))).ag r;have K:=x.size;refine⟨⟨?_,?_,?_⟩,λA H I i k d y D=> ?_⟩
 .rcases h.k with e|⟨b,q,e,f,c⟩
  .exact cr e
  refine ct ⟨b,q,e,Yv,λi k d=> ?_⟩;have⟨m,r,z,G,y,t,B⟩:=c i k d;exact⟨g f m m,g f m r,g f m z,G,y,g f m t,Ad.off B (n:=0) (λ_ _=>Aw _) C x Yu⟩
 .rcases h.p with e|⟨b,q,e,f,c⟩
  .exact cr e
  exact ct ⟨b,q,e,Yv,λi k d=>⟨g f (c i k d).1 (c i k d).1,g f (c i k d).1 (c i k d).2⟩⟩
 .rcases h.l with e|⟨b,q,e,f,c⟩
  .exact cr e
  exact ct ⟨b,q,e,Yv,λi k d=>⟨g f (c i k d).2.1 (c i k d).1,g f (c i k d).2.1 (c i k d).2.1,g f (c i k d).2.1 (c i k d).2.2⟩⟩
 rcases h.k with e|⟨b,q,e,f,c⟩
 .rw[e]at d;simp at d
 rw[H]at e;cases e;have⟨m,r,z,G,J,t,B⟩:=c i k d;have H:=g f m t;rw[H]at D;cases D;exact I i k d y t
structure UQ (n:Nat) (wd now given births:Int) (ps:List Pd) (ls:List Ld) (X:Zh) (ch:Zj):Prop where
 ex:∃(r:UR) (b c:Nat) (pa la:Zk) (pc lc:Nat) (qa ma da:Zk) (qc mc dc:Nat),ch=[Ze,Zg wd,Zg now,Zg given,Zg births,bx (ai ⟨b,0,an⟩) (ed r.B) c,bx pa (ed ps) pc,bx la (ed ls) lc,Zg r.I,bx qa (ed r.F) qc,bx ma (ed r.ms) mc,Zg r.L,Zg r.K,Zg r.ro,bx da (ed r.ds) dc]/\BV X X.1.size (ai ⟨b,0,an⟩) pa la r.B ps ls/\Ic X ⟨b,0,an⟩ r.B/\((pa=an->pc=0)/\(la=an->lc=0))/\(Ad X X.1.size qa r.F/\Ad X X.1.size ma r.ms)/\(Ir qa (ed r.F) qc/\Ir ma (ed r.ms) mc)/\((∀p,qa=ai p->n<=p.block)/\∀p,ma=ai p->n<=p.block)/\(ed r.F<=60000/\ed r.ms<=60000)/\ed r.B<=600/\∀k∈r.B,ed k.C<=30
theorem UQ.A{o g d a:Int}{m:C7}{l:C6}{X Y:Zh}{i:Zj}(h:UQ n o g d a m l X i)(f:Zz X Y):UQ n o g d a m l Y i:=by have⟨r,b,c,z,v,A,w,B,x,p,C,y,q,e,j,s,t,k,u⟩:=h.ex;exact⟨r,b,c,z,v,A,w,B,x,p,C,y,q,e,j.U f,s.ak j.k f,t,⟨k.1.U f,k.2.U f⟩,u⟩
