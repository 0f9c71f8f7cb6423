import Derived.Test.YtdgblkklkaklhaaGreatDoorX38
import Derived.Test.YtdgblkklkaklhaaGreatDoorX43
import Derived.Deep.Slices
set_option maxRecDepth 100000
set_option maxHeartbeats 16000000
namespace Go.Proofs.YtdgblkklkaklhaaGreatDoor
open Go.ChangeShapes Go.WideShapes Go.ChangeAt Go.RowKit _root_.Go.Proofs.Tryz
theorem Lv(n:Int)(w:Zh):
 Calls prog 21 #[.agg #[Zd,Zc,Zd,Zd,Zg n]] w fun o a=>o=.returned (.agg #[Zg 5,Zd,Zd,Zg n,Zd,Zc])/\Zz w a:=by
 go_enter func21,ntmps21;go_wp2;refine bodyPost_ret (v:=.agg #[Zg 5,Zd,Zd,Zg n,Zd,Zc]) (by simp[results,results21,go_sem]) rfl ⟨rfl,?_⟩;exact(Zy).alloc (by simp) _
theorem NA(v:Vd)(A:Zj)(n:Int)(w:Zh)(J:A.length=17)(h:∀X,Zz w X->Calls prog 20 #[.agg A.toArray,.func (.func 21) #[.agg #[Zd,Zc,Zd,Zd,Zg n]] #[]] X (Hc v ⟨5,⟨#[]⟩,⟨#[]⟩,n,⟨#[]⟩,[]⟩ X)):
 Calls prog 7 #[.agg A.toArray,Zg n] w (Hc v ⟨5,⟨#[]⟩,⟨#[]⟩,n,⟨#[]⟩,[]⟩ w):=by
 have zA:∀(fn:Fn) (first cap:Array Value) (w:Zh),(Instr.makeFunc fn first cap).run prog w=.ok (.func fn first cap) w:=fun _ _ _ _=>rfl;obtain⟨W,e⟩:∃W,W=(w.alloc (.cells A.toArray 43)).alloc (.cells Yc 45):=⟨_,rfl⟩;have x:=(AW e).1;have l:=(AW e).2.1;have q:Hid (Aa W w.heap.size A/\Aa W (w.heap.size+1) CN):=⟨(AW e).2.2.1,(AW (k:=CN) e).2.2.2⟩;have N:Hid (A.length=17):=J;have F:=Yx (h W x)
 have g:=Yx (Zn x l);have I:=Yx e;clear e J h x l;go_enter func7,ntmps7;go_upto_region 1 with fail;rw[←I.o];clear I;go_wp2_with (refine wpList_load_mid rfl 43 _ rfl w.heap.size 0 rfl A _ q.o.1.range underlying43 rfl (by rw[N.o];kernel_rfl) ?_);refine Calls.mono F.o ?_;rintro o E ⟨d,S,U,T,P,L,Q,M,rs,p,rfl,j,B⟩;have a:=Qk j;obtain⟨D,i⟩:∃t,t=JZ d S U T P L Q M:=⟨_,rfl⟩;rw[←i]at a;rw[←i];have G:=Yx i
 clear i;have z:=Aa.below (v:=Zf) q.o.2 B;obtain⟨r,f⟩:∃Y,Y=E.setCells (w.heap.size+1) 0 D.toArray.toList:=⟨_,rfl⟩;have C:Tn [w.heap.size+1] E r:=by rw[f];exact AP _ _ _ _
 have K:Aa r (w.heap.size+1) D:=by rw[f];exact z.ba D (by rw[a.1];rfl)
 have c:Hid (E.there (w.heap.size+1) 0 D.toArray.size/\D.length=22/\∀u∈D,u.oneCell'=true):=by refine⟨?_,a⟩;rw[show D.toArray.size=22 from by rw[List.size_toArray];exact a.1];exact z.there
 have s:=g.o.1.trans (B.mono g.o.1.size);have l:=g.o.2;have m:Hid (Hc v ⟨5,⟨#[]⟩,⟨#[]⟩,n,⟨#[]⟩,[]⟩ w (.returned (.agg D.toArray)) r):=⟨d,S,U,T,P,L,Q,M,rs,p,by rw[G.o],(j.stays C (fun b V Z=>by have:=j.lo b Z;simp at V;omega)).mono (by omega),s.trans (C.below s.size (by simp))⟩;have R:=Yx K;have O:=Yx f;clear f C K z a B s l F g q j p G
 go_wp2_with (refine wpList_store_mid rfl 45 _ _ rfl (w.heap.size+1) 0 D.toArray rfl rfl c.o.1 (by rw[List.size_toArray,c.o.2.1];kernel_rfl) (all_oneCell_toArray c.o.2.2) ?_);rw[←O.o];exact bodyPost_ret (BN results7 _ _ (w.heap.size+1) D _ rfl (Aa.range R.o) underlying45 rfl (by rw[c.o.2.1];kernel_rfl)) rfl m.o
theorem NB(v:Vd)(A:Zj)(n:Int)(w:Zh)(K:A.length=17)(h:∀X,Zz w X->Calls prog 16 #[.agg A.toArray,.agg #[Zg 5,Zd,Zd,Zg n,Zd,Zc]] X (Ic v ⟨5,⟨#[]⟩,⟨#[]⟩,n,⟨#[]⟩,[]⟩ X)):
 Calls prog 5 #[.agg A.toArray,Zg n] w (Ic v ⟨5,⟨#[]⟩,⟨#[]⟩,n,⟨#[]⟩,[]⟩ w):=by
 have T:∀(fn:Fn) (first cap:Array Value) (w:Zh),(Instr.makeFunc fn first cap).run prog w=.ok (.func fn first cap) w:=fun _ _ _ _=>rfl;obtain⟨W,e⟩:∃W,W=(w.alloc (.cells A.toArray 43)).alloc (.cells Yc 45):=⟨_,rfl⟩;have z:=(AW e).1;have m:=(AW e).2.1;have r:Hid (Aa W w.heap.size A/\Aa W (w.heap.size+1) CN):=⟨(AW e).2.2.1,(AW (k:=CN) e).2.2.2⟩;have N:Hid (A.length=17):=K;have G:=Yx (h W z)
 have i:=Yx (Zn z m);have J:=Yx e;clear e K h z m;go_enter func5,ntmps5;go_upto_region 1 with fail;rw[←J.o];clear J;go_wp2_with (refine wpList_load_mid rfl 43 _ rfl w.heap.size 0 rfl A _ r.o.1.range underlying43 rfl (by rw[N.o];kernel_rfl) ?_);refine Calls.mono G.o ?_;rintro o l ⟨d,L,q,rfl,C,E⟩;have a:=Ju (d:=d) (WU (C [] l (by simp) (Tn.of (Below.refl _ _))));obtain⟨D,j⟩:∃t,t=dL d L:=⟨_,rfl⟩
 rw[←j]at a;rw[←j];have I:=Yx j;clear j;have B:=Aa.below (v:=Zf) r.o.2 E;obtain⟨s,f⟩:∃Y,Y=l.setCells (w.heap.size+1) 0 D.toArray.toList:=⟨_,rfl⟩;have F:Tn [w.heap.size+1] l s:=by rw[f];exact AP _ _ _ _
 have M:Aa s (w.heap.size+1) D:=by rw[f];exact B.ba D (by rw[a.1];rfl)
 have c:Hid (l.there (w.heap.size+1) 0 D.toArray.size/\D.length=22/\∀u∈D,u.oneCell'=true):=by refine⟨?_,a⟩;rw[show D.toArray.size=22 from by rw[List.size_toArray];exact a.1];exact B.there
 have x:=i.o.1.trans (E.mono i.o.1.size);have m:=i.o.2;have p:Hid (Ic v ⟨5,⟨#[]⟩,⟨#[]⟩,n,⟨#[]⟩,[]⟩ w (.returned (.agg D.toArray)) s):=⟨d,L,q,by rw[I.o],fun V Q S R=>C ((w.heap.size+1)::V) Q (fun b g=>by
  rcases List.mem_cons.1 g with h|h
  ·omega
  ·have:=S b h;omega) ((F.mono (by simp)).trans (R.mono (by simp;intro b g;exact .inr g))),x.trans (F.below x.size (by simp))⟩
 have P:=Yx M;have O:=Yx f;clear f F M B a E x m G i r C q I;go_wp2_with (refine wpList_store_mid rfl 45 _ _ rfl (w.heap.size+1) 0 D.toArray rfl rfl c.o.1 (by rw[List.size_toArray,c.o.2.1];kernel_rfl) (all_oneCell_toArray c.o.2.2) ?_);rw[←O.o];exact bodyPost_ret (BN results5 _ _ (w.heap.size+1) D _ rfl (Aa.range P.o) underlying45 rfl (by rw[c.o.2.1];kernel_rfl)) rfl p.o
theorem ND(v:Vd)(g k c d e a b:Nat)(n:Int)(w:Zh)(j:BR w w.heap.size (Jw g k c d e a b v) v)(i:Cr v)(h:Env w):
 Calls prog 7 #[.agg (Ye v (some ⟨g,0,none⟩) v.ss.length (some ⟨k,0,none⟩) v.tt.length (some ⟨c,0,none⟩) v.ks.length (some ⟨d,0,none⟩) v.ps.length (some ⟨e,0,none⟩) v.ls.length (some ⟨a,0,none⟩) v.qs.length (some ⟨b,0,none⟩) v.ms.length),Zg n] w (Hc v ⟨5,⟨#[]⟩,⟨#[]⟩,n,⟨#[]⟩,[]⟩ w):=
 NA v (Yd v (some ⟨g,0,none⟩) v.ss.length (some ⟨k,0,none⟩) v.tt.length (some ⟨c,0,none⟩) v.ks.length (some ⟨d,0,none⟩) v.ps.length (some ⟨e,0,none⟩) v.ls.length (some ⟨a,0,none⟩) v.qs.length (some ⟨b,0,none⟩) v.ms.length) n w rfl (fun X f=>TR v (Jw g k c d e a b v) ⟨5,⟨#[]⟩,⟨#[]⟩,n,⟨#[]⟩,[]⟩ 21 _ none 0 X (enters_of func21 (by kernel_rfl) rfl) (j.af f) i (h.below f) (.inl rfl) ⟨a,b,rfl,rfl⟩ (by simp) (Nat.zero_le _) (Nat.zero_le _) (by simp) (fun Y _=>Lv n Y))
theorem PG(v:Vd)(g k a d e b c:Nat)(n:Int)(w:Zh)(f:BR w w.heap.size (Jw g k a d e b c v) v)(i:Eg w ⟨a,0,none⟩ v.ks)(j:Cr v):
 Calls prog 5 #[.agg (Ye v (some ⟨g,0,none⟩) v.ss.length (some ⟨k,0,none⟩) v.tt.length (some ⟨a,0,none⟩) v.ks.length (some ⟨d,0,none⟩) v.ps.length (some ⟨e,0,none⟩) v.ls.length (some ⟨b,0,none⟩) v.qs.length (some ⟨c,0,none⟩) v.ms.length),Zg n] w (Ic v ⟨5,⟨#[]⟩,⟨#[]⟩,n,⟨#[]⟩,[]⟩ w):=
 NB v (Yd v (some ⟨g,0,none⟩) v.ss.length (some ⟨k,0,none⟩) v.tt.length (some ⟨a,0,none⟩) v.ks.length (some ⟨d,0,none⟩) v.ps.length (some ⟨e,0,none⟩) v.ls.length (some ⟨b,0,none⟩) v.qs.length (some ⟨c,0,none⟩) v.ms.length) n w rfl (fun X h=>WW v ⟨5,⟨#[]⟩,⟨#[]⟩,n,⟨#[]⟩,[]⟩ none 0 g k a d e b c X (f.af h) (i.aj f.st.k h) j (.inl rfl) (fun _=>⟨rfl,rfl⟩) (by simp) (Nat.zero_le _) (Nat.zero_le _) (by simp) rfl)
namespace ExactGiveBack
theorem walk(v:Vd)(a:Va)(n:Int)(w:Zh)(x:Env w)(r:BR w w.heap.size a v)(z:Vk v):
 Calls prog 3 #[.agg (Yi v a),Zg n] w fun e A=>e=.returned (.bool true)/\Zz w A:=by
 refine walk_gen (D:=Dd) (fun o=>Cr v/\Hu v ⟨5,⟨#[]⟩,⟨#[]⟩,n,⟨#[]⟩,[]⟩ o) (VQ v) (Ql v) (fun _ _ _ _ _=>True) YH YI YJ (Cr v) (Yh v a) n w rfl (fun b=>ZO v b) (fun o d=>ZP o (d.2.fit d.1)) (fun o d=>YK o (d.2.fit d.1)) (fun o B h u=>h.2.cz u.2) (fun X c=>Py v a X (r.af c) z) (fun b X c=>TN v a w X r b c) ?_ ?_
 ·rintro b X t c ⟨g,k,f,m,p,i,l,rfl,j,q⟩;exact(PG v g k f m p i l n X j q b).mono (fun o s h=>Ic.law b h)
 ·rintro b X t c ⟨g,k,f,m,p,i,l,rfl,j,q⟩;exact(ND v g k f m p i l n X j b (x.below c)).mono (fun o s h=>Hc.law b h)
end ExactGiveBack
section
open Go.ChangeShapes Go.WideShapes Go.ChangeAt Go.RowKit Go.Deep
theorem DS:prog.cellsOf 3=1:=by kernel_rfl
theorem Fk:prog.cellsOf 22=1:=by kernel_rfl
theorem WX:prog.cellsOf 104=2:=by kernel_rfl
theorem ZS:prog.cellsOf 106=4:=by kernel_rfl
theorem Aak:prog.cellsOf 109=2:=by kernel_rfl
theorem YQ:prog.cellsOf 112=3:=by kernel_rfl
theorem YR:prog.cellsOf 29=7:=by kernel_rfl
theorem cKs:prog.cellsOf 25=1:=by kernel_rfl
theorem cPs:prog.cellsOf 26=1:=by kernel_rfl
theorem cLs:prog.cellsOf 27=1:=by kernel_rfl
section
variable {H:Type} {enc:TypeId×Value->H} {W:Zh} {base:Nat} {spare:Nat->Bool} {held:Bool} {fuel:Nat} {y:DataW H×List MemPlace}
theorem Cq{v:Value}(h:DataW.trod enc prog W base spare held fuel 3 [v]=some y):∃n,v=Zg n/\(Lit.int .i64 n).wf=true:=by obtain⟨n,a,_,b⟩:=DataW.trod_int underlying3 h;simp at a;exact⟨n,a,b⟩
theorem PK{v0 d:Value}(h:DataW.trod enc prog W base spare held fuel 104 [v0,d]=some y):
 ∃t a c b,v0=.string t/\t.size<=maxLen/\d=.slice a (List.length b) c/\Ad W W.heap.size a b/\b.length<=maxLen/\∀s∈b,ByteArray.size s<=maxLen:=by
 obtain⟨o,p,n,_,_,i,j⟩:=trod_struct2 underlying104 h;have e:DataW.trod enc prog W base spare held n 9 [v0]=some o:=by simpa [FK]using i
 have f:DataW.trod enc prog W base spare held n 22 [d]=some p:=by simpa [Fk]using j
 obtain⟨t,l,g⟩:=GU e;obtain⟨a,c,b,m,k⟩:=Gf f;exact⟨t,a,c,b,l,g,m,k⟩
theorem YS{α:Type}{l:List α}(h:l.length=2):∃a b,l=[a,b]:=by match l,h with|[a,b],_=>exact⟨a,b,rfl⟩
theorem Vz{α:Type}{l:List α}(h:l.length=3):∃a b c,l=[a,b,c]:=by match l,h with|[a,b,c],_=>exact⟨a,b,c,rfl⟩
theorem Aal{α:Type}{l:List α}(h:l.length=4):∃a b c d,l=[a,b,c,d]:=by match l,h with|[a,b,c,d],_=>exact⟨a,b,c,d,rfl⟩
theorem Aam{α:Type}{l:List α}(h:l.length=7):∃a b c d e f g,l=[a,b,c,d,e,f,g]:=by match l,h with|[a,b,c,d,e,f,g],_=>exact⟨a,b,c,d,e,f,g,rfl⟩
theorem TX{a:Addr}{n:Nat}{f:Zj}(h:W.cells? base (a.add (0 *n)) n=some f)(i:0<n):∃b c,a=⟨b,c,none⟩/\b<W.heap.size:=by
 obtain⟨_,hlen,g⟩:=World.cells?_some h;obtain⟨b,c,spot⟩:=a;have e:=g 0 (by omega);rw[Zv (by omega)]at e;have d:spot=none:=by simpa [Addr.add]using World.cell?_spot e
 subst d;rw[Go.WideShapes.add_plain,Go.WideShapes.add_plain]at e;exact⟨b,c,rfl,World.block_lt_of_cell? W ⟨b,c+0 *n+0,none⟩ e⟩
theorem RS{b a i n:Nat}{c:Zj}(h:W.cells? base ((⟨b,a,none⟩:Addr).add (i *n)) n=some c):c.length=n/\∀j v,c[j]?=some v->W.cell? (Ze b (a+i *n+j))=some v:=by obtain⟨_,hlen,d⟩:=World.cells?_some h;rw[Go.WideShapes.add_plain]at d;refine⟨hlen,fun j v e=> ?_⟩;have:=d j (by have:=(Zw e).1;omega);rw[Go.WideShapes.add_plain]at this;rw[this,e]
theorem Kp{α:Type}[Inhabited α]{t e:TypeId}{n:Nat}{v:Value}(N:prog.underlying t=some (.slice e))(K:prog.cellsOf e=n)(L:0<n)(Q:Nat->Nat->α->Prop)
 (M:∀(fuel:Nat) (y:DataW H×List MemPlace) (r:Zj) (b o:Nat),DataW.trod enc prog W base spare held fuel e r=some y->r.length=n->(∀j v,r[j]?=some v->W.cell? (Ze b (o+j))=some v)->∃x,Q b o x)
 (h:DataW.trod enc prog W base spare held fuel t [v]=some y):
 ∃a f,∃l:List α,v=.slice a l.length f/\l.length<=maxLen/\(l=[]∨∃b c,a=some ⟨b,c,none⟩/\b<W.heap.size/\∀(i:Nat) x,l[i]?=some x->Q b (c+i *n) x):=by
 rcases open_slice N h with⟨d,_⟩|⟨a,len,f,m,S,D,R,d,_,T,U,A,_,s⟩
 ·simp at d;subst d;exact⟨none,0,[],rfl,by simp[maxLen],.inl rfl⟩
 ·simp at d;subst d;have P:len<=m:=by rw[A];split<;>omega
  rw[K]at s;by_cases h0:len=0
  ·subst h0;exact⟨some a,f,[],rfl,by simp[maxLen],.inl rfl⟩
  ·obtain⟨O,z,_⟩:=s 0 (by omega);obtain⟨b,c,rfl,J⟩:=TX z L;obtain⟨F,I⟩:=choose_lt (α:=α) (n:=len) (p:=fun i x=>Q b (c+i *n) x) (fun i g=>by
    obtain⟨w,B,C⟩:=s i (by omega);obtain⟨E,G⟩:=RS B;exact M _ _ w b (c+i *n) C E G)
   refine⟨some ⟨b,c,none⟩,f,(List.range len).map F,by simp,by simp;omega,.inr ⟨b,c,rfl,J,fun i x g=> ?_⟩⟩;rw[List.getElem?_map]at g;cases hri:(List.range len)[i]? with
   |none=>rw[hri]at g;cases g
   |some k=>rw[hri]at g;cases g;obtain⟨q,u⟩:=Zw hri;simp at q u;subst u;exact I i q
def QK(W:Zh)(b o:Nat)(k:Kd):Prop:=Kv W W.heap.size b o k/\k.sum.size<=maxLen/\k.text.size<=maxLen/\k.refs.length<=maxLen/\(∀s∈k.refs,s.size<=maxLen)/\(Lit.int .i64 k.born).wf=true
theorem TY{d:Zj}{b o:Nat}(h:DataW.trod enc prog W base spare held fuel 106 d=some y)(u:d.length=4)(c:∀j v,d[j]?=some v->W.cell? (Ze b (o+j))=some v):∃k,QK W b o k:=by
 obtain⟨n,p,c2,c3,rfl⟩:=Aal u;obtain⟨I,e,_,_,_,hlen,a⟩:=DataW.trod_struct underlying106 h;obtain⟨E,F,G,rfl⟩:=Vz (l:=I) hlen;have q:DataW.trod enc prog W base spare held e 9 [n]=some E:=by simpa [FK]using a 0 _ rfl
 have r:DataW.trod enc prog W base spare held e 3 [p]=some F:=by simpa [DS]using a 1 _ rfl
 have s:DataW.trod enc prog W base spare held e 104 [c2,c3]=some G:=by simpa [WX]using a 2 _ rfl
 obtain⟨i,rfl,x⟩:=GU q;obtain⟨m,rfl,A⟩:=Cq r;obtain⟨t,B,C,D,rfl,z,rfl,w,f,g⟩:=PK s;exact⟨⟨i,m,t,D⟩,⟨c 0 _ rfl,c 1 _ rfl,c 2 _ rfl,B,C,c 3 _ rfl,w⟩,x,z,f,g,A⟩
def QP(W:Zh)(b o:Nat)(p:Pd):Prop:=(W.cell? (Ze b o)=some (.string p.name)/\W.cell? (Ze b (o+1))=some (.string p.sum))/\p.name.size<=maxLen/\p.sum.size<=maxLen
theorem VA{c:Zj}{b o:Nat}(h:DataW.trod enc prog W base spare held fuel 109 c=some y)(n:c.length=2)(d:∀j v,c[j]?=some v->W.cell? (Ze b (o+j))=some v):∃p,QP W b o p:=by
 obtain⟨g,i,rfl⟩:=YS n;obtain⟨w,e,_,_,_,hlen,a⟩:=DataW.trod_struct underlying109 h;obtain⟨t,u,rfl⟩:=YS (l:=w) hlen;have k:DataW.trod enc prog W base spare held e 9 [g]=some t:=by simpa [FK]using a 0 _ rfl
 have m:DataW.trod enc prog W base spare held e 9 [i]=some u:=by simpa [FK]using a 1 _ rfl
 obtain⟨s,rfl,q⟩:=GU k;obtain⟨f,rfl,r⟩:=GU m;exact⟨⟨s,f⟩,⟨d 0 _ rfl,d 1 _ rfl⟩,q,r⟩
def QL(W:Zh)(b o:Nat)(l:Ld):Prop:=(W.cell? (Ze b o)=some (Zg l.num)/\W.cell? (Ze b (o+1))=some (.string l.sum)/\W.cell? (Ze b (o+2))=some (Zg l.bf))/\l.sum.size<=maxLen
theorem RT{c:Zj}{b o:Nat}(h:DataW.trod enc prog W base spare held fuel 112 c=some y)(p:c.length=3)(d:∀j v,c[j]?=some v->W.cell? (Ze b (o+j))=some v):∃l,QL W b o l:=by
 obtain⟨g,i,c2,rfl⟩:=Vz p;obtain⟨x,e,_,_,_,hlen,a⟩:=DataW.trod_struct underlying112 h;obtain⟨t,u,w,rfl⟩:=Vz (l:=x) hlen;have k:DataW.trod enc prog W base spare held e 3 [g]=some t:=by simpa [DS]using a 0 _ rfl
 have m:DataW.trod enc prog W base spare held e 9 [i]=some u:=by simpa [FK]using a 1 _ rfl
 have n:DataW.trod enc prog W base spare held e 3 [c2]=some w:=by simpa [DS]using a 2 _ rfl
 obtain⟨r,rfl,_⟩:=Cq k;obtain⟨f,rfl,q⟩:=GU m;obtain⟨s,rfl,_⟩:=Cq n;exact⟨⟨r,f,s⟩,⟨d 0 _ rfl,d 1 _ rfl,d 2 _ rfl⟩,q⟩
theorem Ey{α:Type}{a:List α}{b c n:Nat}{Q:Nat->Nat->α->Prop}{R:α->Prop}(h:∀(i:Nat) x,a[i]?=some x->Q b (c+i *n) x)(e:∀b o x,Q b o x->R x):∀x∈a,R x:=fun x f=>by obtain⟨i,d⟩:=List.getElem?_of_mem f;exact e _ _ _ (h i x d)
theorem RU{v:Value}(h:DataW.trod enc prog W base spare held fuel 25 [v]=some y):∃a c e,v=.slice a (List.length e) c/\BH W W.heap.size a e/\Ns e/\∀k∈e,(Lit.int .i64 (Kd.born k)).wf=true:=by
 haveI:Inhabited Kd:=⟨⟨ByteArray.empty,0,ByteArray.empty,[]⟩⟩
 obtain⟨a,c,e,rfl,f,p⟩:=Kp underlying25 ZS (by omega) (QK W) (fun _ _ _ _ _ j l m=>TY j l m) h;rcases p with rfl|⟨b,g,rfl,n,d⟩
 ·exact⟨a,c,[],rfl,.inl rfl,⟨f,by simp,by simp,by simp,by simp⟩,by simp⟩
 ·refine⟨_,c,e,rfl,.inr ⟨b,g,rfl,n,fun i k o=>(d i k o).1⟩,⟨f,Ey d (fun _ _ _ q=>q.2.1),Ey d (fun _ _ _ q=>q.2.2.1),Ey d (fun _ _ _ q=>q.2.2.2.1),Ey d (fun _ _ _ q=>q.2.2.2.2.1)⟩,Ey d (fun _ _ _ q=>q.2.2.2.2.2)⟩
theorem TZ{v:Value}(h:DataW.trod enc prog W base spare held fuel 26 [v]=some y):∃a c d,v=.slice a (List.length d) c/\AS W W.heap.size a d/\Nt d:=by
 haveI:Inhabited Pd:=⟨⟨ByteArray.empty,ByteArray.empty⟩⟩
 obtain⟨a,c,d,rfl,f,p⟩:=Kp underlying26 Aak (by omega) (QP W) (fun _ _ _ _ _ j l m=>VA j l m) h;rcases p with rfl|⟨b,g,rfl,n,e⟩
 ·exact⟨a,c,[],rfl,.inl rfl,⟨f,by simp,by simp⟩⟩
 ·exact⟨_,c,d,rfl,.inr ⟨b,g,rfl,n,fun i k o=>(e i k o).1⟩,⟨f,Ey e (fun _ _ _ q=>q.2.1),Ey e (fun _ _ _ q=>q.2.2)⟩⟩
theorem PL{v:Value}(h:DataW.trod enc prog W base spare held fuel 27 [v]=some y):∃a c d,v=.slice a (List.length d) c/\AU W W.heap.size a d/\Nu d:=by
 haveI:Inhabited Ld:=⟨⟨0,ByteArray.empty,0⟩⟩
 obtain⟨a,c,d,rfl,e,p⟩:=Kp underlying27 YQ (by omega) (QL W) (fun _ _ _ _ _ j l m=>RT j l m) h;rcases p with rfl|⟨b,g,rfl,n,f⟩
 ·exact⟨a,c,[],rfl,.inl rfl,⟨e,by simp⟩⟩
 ·exact⟨_,c,d,rfl,.inr ⟨b,g,rfl,n,fun i k o=>(f i k o).1⟩,⟨e,Ey f (fun _ _ _ q=>q.2)⟩⟩
end
end
section
section
open Go.ChangeShapes Go.WideShapes Go.ChangeAt Go.RowKit Go.Deep
variable {H:Type} {enc:TypeId×Value->H} {W:Zh} {base:Nat} {spare:Nat->Bool} {held:Bool}
theorem Aan{α:Type}{l:List α}(h:l.length=6):∃a b c d e f,l=[a,b,c,d,e,f]:=by match l,h with|[a,b,c,d,e,f],_=>exact⟨a,b,c,d,e,f,rfl⟩
end
end
section
open Go.ChangeShapes Go.WideShapes Go.ChangeAt Go.RowKit Go.Deep
theorem WY:prog.cellsOf 33=17:=by kernel_rfl
theorem ZT:prog.cellsOf 24=2:=by kernel_rfl
theorem WZ:prog.cellsOf 31=6:=by kernel_rfl
theorem Aao{α:Type}{l:List α}(h:l.length=5):∃a b c d e,l=[a,b,c,d,e]:=by match l,h with|[a,b,c,d,e],_=>exact⟨a,b,c,d,e,rfl⟩
theorem ZU{α:Type}{l:List α}(h:l.length=17):∃i j k m n o p q r s a b c d e f g,l=[i,j,k,m,n,o,p,q,r,s,a,b,c,d,e,f,g]:=by match l,h with|[i,j,k,m,n,o,p,q,r,s,a,b,c,d,e,f,g],_=>exact⟨i,j,k,m,n,o,p,q,r,s,a,b,c,d,e,f,g,rfl⟩
section
variable {H:Type} {enc:TypeId×Value->H} {W:Zh} {base:Nat} {spare:Nat->Bool} {held:Bool} {fuel:Nat} {y:DataW H×List MemPlace}
theorem Ua{g i:Value}(h:DataW.trod enc prog W base spare held fuel 24 [g,i]=some y):
 ∃a e c b f d,g=.slice a (List.length c) e/\i=.slice b (List.length d) f/\Ad W W.heap.size a c/\Ad W W.heap.size b d/\c.length<=maxLen/\(∀s∈c,ByteArray.size s<=maxLen)/\d.length<=maxLen/\(∀s∈d,ByteArray.size s<=maxLen):=by
 obtain⟨x,z,n,_,_,q,r⟩:=trod_struct2 underlying24 h;have j:DataW.trod enc prog W base spare held n 22 [g]=some x:=by simpa [Fk]using q
 have k:DataW.trod enc prog W base spare held n 22 [i]=some z:=by simpa [Fk]using r
 obtain⟨a,e,c,w,u,t,v⟩:=Gf j;obtain⟨b,f,d,p,m,l,o⟩:=Gf k;exact⟨a,e,c,b,f,d,w,p,u,m,t,v,l,o⟩
theorem PM{j k c2 c3 c4 m c6:Value}(h:DataW.trod enc prog W base spare held fuel 29 [j,k,c2,c3,c4,m,c6]=some y):
 ∃q g given ae a i p o l n d f e,j=Zg q/\k=Zg g/\c2=Zg given/\c3=Zg ae/\c4=.slice a (List.length d) i/\m=.slice p (List.length f) o/\c6=.slice l (List.length e) n/\Bv W W.heap.size a p l d f e/\Ns d/\Nt f/\Nu e:=by
 obtain⟨U,c,_,_,_,hlen,b⟩:=DataW.trod_struct underlying29 h;obtain⟨N,O,P,Q,R,S,T,rfl⟩:=Aam (l:=U) hlen;have u:DataW.trod enc prog W base spare held c 3 [j]=some N:=by simpa [DS]using b 0 _ rfl
 have v:DataW.trod enc prog W base spare held c 3 [k]=some O:=by simpa [DS]using b 1 _ rfl
 have w:DataW.trod enc prog W base spare held c 3 [c2]=some P:=by simpa [DS]using b 2 _ rfl
 have x:DataW.trod enc prog W base spare held c 3 [c3]=some Q:=by simpa [DS]using b 3 _ rfl
 have z:DataW.trod enc prog W base spare held c 25 [c4]=some R:=by simpa [cKs]using b 4 _ rfl
 have A:DataW.trod enc prog W base spare held c 26 [m]=some S:=by simpa [cPs]using b 5 _ rfl
 have B:DataW.trod enc prog W base spare held c 27 [c6]=some T:=by simpa [cLs]using b 6 _ rfl
 obtain⟨q,C,_⟩:=Cq u;obtain⟨g,D,_⟩:=Cq v;obtain⟨given,E,_⟩:=Cq w;obtain⟨ae,F,_⟩:=Cq x;obtain⟨a,i,d,G,K,r,_⟩:=RU z;obtain⟨p,o,f,I,M,t⟩:=TZ A;obtain⟨l,n,e,J,L,s⟩:=PL B;exact⟨q,g,given,ae,a,i,p,o,l,n,d,f,e,C,D,E,F,G,I,J,⟨K,M,L⟩,r,t,s⟩
theorem PN{k m c2 c3 c4 n:Value}(h:DataW.trod enc prog W base spare held fuel 31 [k,m,c2,c3,c4,n]=some y):
 ∃(o ag e p:Int) (j:Zk) (g:Nat) (i:Zk) (f:Nat) (d b:Zl),k=Zg o/\m=.slice j (List.length d) g/\c2=.slice i (List.length b) f/\c3=Zg ag/\c4=Zg e/\n=Zg p/\Ad W W.heap.size j d/\Ad W W.heap.size i b/\
  d.length<=maxLen/\(∀s∈d,ByteArray.size s<=maxLen)/\b.length<=maxLen/\(∀s∈b,ByteArray.size s<=maxLen):=by
 obtain⟨R,c,_,_,_,hlen,a⟩:=DataW.trod_struct underlying31 h;obtain⟨L,M,N,O,P,Q,rfl⟩:=Aan (l:=R) hlen;have v:DataW.trod enc prog W base spare held c 3 [k]=some L:=by simpa [DS]using a 0 _ rfl
 have w:DataW.trod enc prog W base spare held c 22 [m]=some M:=by simpa [DS,Fk]using a 1 _ rfl
 have x:DataW.trod enc prog W base spare held c 22 [c2]=some N:=by simpa [DS,Fk]using a 2 _ rfl
 have z:DataW.trod enc prog W base spare held c 3 [c3]=some O:=by simpa [DS,Fk]using a 3 _ rfl
 have A:DataW.trod enc prog W base spare held c 3 [c4]=some P:=by simpa [DS,Fk]using a 4 _ rfl
 have B:DataW.trod enc prog W base spare held c 3 [n]=some Q:=by simpa [DS,Fk]using a 5 _ rfl
 obtain⟨o,C,_⟩:=Cq v;obtain⟨ag,F,_⟩:=Cq z;obtain⟨e,G,_⟩:=Cq A;obtain⟨p,I,_⟩:=Cq B;obtain⟨j,g,d,D,K,t,u⟩:=Gf w;obtain⟨i,f,b,E,J,q,r⟩:=Gf x;exact⟨o,ag,e,p,j,g,i,f,d,b,C,D,E,F,G,I,K,J,t,u,q,r⟩
theorem RV{r:Reach}{M:Nat}{u:Value}{d:DataW H}{pl:List MemPlace}(hv:Value.okWide prog W r M 33 u)(h:DataW.Trod enc prog W base spare held 33 u d pl):
 ∃(v:Vd) (a:Va),u=.agg (Yi v a)/\BR W W.heap.size a v/\Vk v:=by
 obtain⟨w,rfl,K⟩:=okWide_struct underlying33 hv;obtain⟨fuel,hf⟩:=h;obtain⟨xs,e,_,_,_,hlen,c⟩:=DataW.trod_struct underlying33 hf;obtain⟨o,p,c2,c3,c4,q,c6,c7,s,t,f,g,Mx,i,j,k,m,n⟩:=ZU (l:=w.toList) (by rw[Array.length_toList,K,WY]);obtain⟨x0,x1,x2,x3,x4,rfl⟩:=Aao (l:=xs) hlen;have b:(Value.agg w).cells.toList=[o,p,c2,c3,c4,q,c6,c7,s,t,f,g,Mx,i,j,k,m]:=by rw[←n];rfl
 have V:DataW.trod enc prog W base spare held e 3 [o]=some x0:=by simpa [b,DS]using c 0 _ rfl
 have X:DataW.trod enc prog W base spare held e 3 [p]=some x1:=by simpa [b,DS]using c 1 _ rfl
 have Y:DataW.trod enc prog W base spare held e 24 [c2,c3]=some x2:=by simpa [b,ZT]using c 2 _ rfl
 have Z:DataW.trod enc prog W base spare held e 29 [c4,q,c6,c7,s,t,f]=some x3:=by simpa [b,YR]using c 3 _ rfl
 have f4:DataW.trod enc prog W base spare held e 31 [g,Mx,i,j,k,m]=some x4:=by simpa [b,WZ]using c 4 _ rfl
 obtain⟨wd,h0,_⟩:=Cq V;obtain⟨ak,h1,_⟩:=Cq X;obtain⟨sa,sc,ss,ta,tc,tt,h2,h3,G,I,N,O,P,Q⟩:=Ua Y;obtain⟨sw,L,given,ae,ka,kc,pa,pc,la,lc,ks,ps,ls,h4,h5,h6,h7,h8,h9,z,J,hk,hp,hl⟩:=PM Z;obtain⟨ph,ag,x,ro,qa,qc,ma,mc,qs,ms,A,B,C,D,E,F,hq,hm,R,S,T,U⟩:=PN f4;refine⟨⟨wd,ak,ss,tt,sw,L,given,ae,ks,ps,ls,ph,qs,ms,ag,x,ro⟩,⟨sa,sc,ta,tc,ka,kc,pa,pc,la,lc,qa,qc,ma,mc⟩,?_,⟨G,I,J,hq,hm⟩,⟨N,O,P,Q,hk,hp,hl,R,S,T,U⟩⟩
 congr 1;apply Array.toList_inj.1;rw[n,h0,h1,h2,h3,h4,h5,h6,h7,h8,h9,z,A,B,C,D,E,F]
end
end
end Go.Proofs.YtdgblkklkaklhaaGreatDoor
