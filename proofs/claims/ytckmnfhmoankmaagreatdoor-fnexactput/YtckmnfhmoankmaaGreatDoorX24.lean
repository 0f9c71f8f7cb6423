import Derived.Test.YtckmnfhmoankmaaGreatDoorX21
import Derived.Test.YtckmnfhmoankmaaGreatDoorX22
import Derived.Test.YtckmnfhmoankmaaGreatDoorX20
set_option maxRecDepth 100000
set_option maxHeartbeats 16000000
namespace Go.Proofs.YtckmnfhmoankmaaGreatDoor
open Go.ChangeShapes Go.WideShapes Go.ChangeAt Go.RowKit _root_.Go.Proofs.Tryz
theorem TQ{w:Zh}{base:Nat}{e:TypeId}{size:Nat}{v:Value}{n:Nat}{a:Zj}(h:w.ownsRow base e size v n a):Ao v=v.ownBlock:=by rcases h.2 with⟨rfl,_⟩|⟨g,b,c,rfl,_⟩<;>rfl
theorem Eg.held{a f given ae:Int}{l:List Kd}{ps:List Pd}{m:List Ld}{d:Int}{s n:Zi}{g:Int}{text:Zi}{refs:Zl}{r:Rs}(h:1<=a)(c:Eg a f given ae l ps m d s n g text refs r):(if r.sm=⟨#[]⟩then s else r.sm)=if d=1 then r.sm else s:=by
 rcases c with⟨rfl,_,k,j,o,p,c,rfl⟩|⟨rfl,_,b,rfl⟩|⟨rfl,_,rfl⟩|⟨rfl,_,k,j,rfl⟩|⟨rfl,_,rfl⟩|⟨rfl,t,rfl⟩|⟨rfl,_,_,rfl⟩
 ·rw[if_pos rfl,if_neg];intro i;have:=Gq text refs a h;have e:Bm text refs a=⟨#[]⟩:=i;rw[e]at this;have q:((⟨#[]⟩:Zi).size:Int)=0:=rfl;omega
 all_goals simp
theorem YK(v:Vd)(a:Va)(e:Ed)(K:Zk)(S:Nat)(r:Rs)(lo k d m base:Nat)(O P L:Value)(A w:Zh)(Q:CZ v r)(F:Ma w lo k d m base O P L v a r)(zS:A.heap.size<=lo)(J:Zz A w)(hr:Cc A A.heap.size a v)(H:Cy v)(hE:Env A)(I:Eo A A.heap.size K e.rf)(hq:∃g h:Nat,a.qa=some ⟨g,0,none⟩/\a.ma=some ⟨h,0,none⟩)(hl:e.rf.length<=1048576)(C:e.tx.size<=maxLen)(hn:e.nm.size<=maxLen)(zM:e.kd=1):
 Calls prog 53 #[Yz k,.agg (Ym e.kd e.s e.nm e.num e.tx K e.rf.length S)] w (RN v e lo w):=by
 obtain⟨⟨zP,e2,e3,e4⟩,e5,e6,e7⟩:=Q.same;have Cj:=F.dr;rw[e2,e3,e4,e5,e6,e7]at Cj;have hz:=Cj.zero F.db;have zH:=Q.dx;have du:∀b∈vB d m O P L,lo<=b/\b<k:=fun b J=>⟨Zm F.du (Cj.low b J),F.lt b J⟩;obtain⟨zT,V⟩:=F.ty;have zV:k<w.heap.size:=F.box.lt;have zN:k∉vB d m O P L:=fun h=>by have:=F.lt k h;omega
 have G:∀X,Below lo w X->Zz A X:=fun X n=>J.trans (n.mono zS);have t:∀D,e.ok v.wd=true->e.yes v D->FL v.wd D.now D.given D.ae D.ks D.ps D.ls:=fun D f j=>zH.step f j;have fq:=F.fq
 refine Aai lo k d m (vB d m O P L) v e _ _ _ _ _ _ _ _ _ _ _ _ _ _ _ K S (fun D X=>e.ok v.wd=true/\e.yes v D/\IW 0 d m v.wd D X) w F.box F.fq du ⟨by simp[vB],by simp[vB]⟩ ?_ (fun X n=> ?_) (fun B X n=> ?_) ?_ ?_ ?_ zM ?_ (fun B X n=> ?_) (fun B X n=> ?_) ?_ ?_ zP
 ·simp[Value.oneCell']
 ·exact Um e.kd e.s e.nm e.num e.tx K S e.rf v.wd X (hE.below (G X n)).gp ((I.below (G X n)).row (G X n).size) hl C hn
 ·have W:=hz.apart n (Nat.zero_le _) zN (fun zK fz he=>by rw[V]at he;simp at he);have zB:Below A.heap.size A X:=J.trans (n.below J.size (by simp;omega));refine(Kb d (vB d m O P L) e.kd e.s e.nm e.tx e.num K e.rf.length S (fun c p q=>e.no v c p q) (fun sm le X=>∃r,e.yes v r/\r.sm=sm/\r.le=le/\IW 0 d m v.wd r X) X W.cf ?_ (fun M zA=> ?_)).mono ?_
  ·rintro sm le Y Y' R zK ⟨r,f,j,l,h4⟩ hR zU C;exact⟨r,f,j,l,h4.stays hR (Nat.zero_le _) (by have:=W.box.lt;omega) C⟩
  ·have zC:=zB.trans (zA.mono zB.size);exact Lu 0 d m O P L v.wd v.now v.given v.ae v.ks v.ps v.ls e.kd e.s e.nm e.num e.tx e.rf K S M ⟨W.below zA⟩ (zH.gy B C) ((I.below zC).ay zC.size (fun b J=>by have:=du b J;omega))
  ·rintro o M (⟨c,p,q,f,rfl,C⟩|⟨sm,le,rfl,⟨r,f,j,l,h4⟩,C⟩)
   ·exact⟨C,c,_,_,p,q,rfl,.inl ⟨f,rfl,rfl⟩⟩
   ·exact⟨C,0,sm,le,_,_,rfl,.inr ⟨rfl,rfl,rfl,r,f,j,l,B,f,h4⟩⟩
 ·rintro r X M R ⟨f,j,l⟩ hR hc C;exact⟨f,j,l.al (fun e=>hR (by rw[e];simp[vB])) hc C⟩
 ·rintro r X ⟨_,_,O,P,L,l⟩;exact⟨(l.box 0 _ rfl).1,(l.box 1 _ rfl).1⟩
 ·rintro r X ⟨f,j,O,P,L,l⟩;have z:=t r f j;refine(Jg 0 d m O P L v.wd r.now r.given r.ae r.ks r.ps r.ls X l z.bn.nd z.bn.sz z.bn.len z.np z.nl z.dt).mono ?_;rintro o M ⟨T,P',L',rs,rfl,hS,E⟩;obtain⟨ta,tc,rfl⟩:=Ar hS.ai;obtain⟨pa,pc,rfl⟩:=Ar hS.pins;obtain⟨la,lc,rfl⟩:=Ar hS.an;exact⟨ta,tc,pa,pc,la,lc,rs,rfl,hS,E⟩
 ·intro B r X ta tc pa pc la lc j U;have z:=t r B j;have zR:=Q.tok.step B j;exact SY v.wd r.now r.given r.ae ta pa la tc pc lc r.ks r.ps r.ls X U z.bn.len (fun i k hi=>zR k (Zs hi)) (fun k V=>by have:=z.br k V;unfold maxLen;omega) (fun k V=>by have:=z.dt k V;omega)
 ·exact XR e.kd e.s e.nm e.num e.tx K S e.rf v.wd X (hE.below (G X n)).gp ((I.below (G X n)).row (G X n).size) hl C hn
 ·have hs:=hr.s.af (G X n);have zI:=hr.t.af (G X n);have zJ:=Ed.dz B;by_cases hfull:v.ss.length+v.tt.length=4000
  ·have hc:EG v.ss v.tt (e.br v.wd)=2:=by unfold EG;rw[if_pos ⟨Q.log,zJ⟩,if_pos hfull]
   refine(Ri a.sa a.ta a.sc a.tc v.ss v.tt (e.br v.wd) X hs zI H.s H.t H.ss H.tt (by rw[hc];decide)).mono ?_;rintro o M ⟨rfl,E⟩;exact⟨E,none,0,0,none,0,0,_,rfl,.inl ⟨hfull,by rw[hc];rfl⟩⟩
  ·refine(Rh a.sa a.ta a.sc a.tc v.ss v.tt (e.br v.wd) X hs zI H.s H.t H.ss H.tt Q.log zJ hfull).mono ?_;rintro o M ⟨s,u,rfl,f,j,l,E⟩;have k1:=TQ f;have k2:=TQ j;obtain⟨sa,sc,rfl⟩:=Ar f;obtain⟨ua,uc,rfl⟩:=Ar j;refine⟨E,sa,_,sc,ua,_,uc,0,rfl,.inr ⟨hfull,rfl,rfl,rfl,Al.own f,Al.own j,fun g N hu=> ?_⟩⟩;rw[k1]at N;rw[k2]at hu;rcases l with l|l
   ·rw[l]at N;cases N
   ·exact l (N.trans hu.symm)
 ·intro r hy;exact Eg.held Q.wd.1 hy
 ·rintro r X Z ⟨f,j,l⟩ _ hZ zO;have zE:=G Z hZ;have z:=t r f j;have zG:=hr.q.af zE;have zF:=hr.m.af zE;obtain⟨g,h,hq,hm⟩:=hq;rw[hq,hm];rw[hq]at zG;rw[hm]at zF;refine(Tx v.wd m r.ks (e.held r) v.ph v.ag v.at_ v.ro g h a.qc a.mc v.qs v.ms Z (l.has z.bn.sz zO _) zG zF H.r).mono ?_;rintro o Z' ⟨x,cx,y,cy,rfl,o1,o2,zW,E⟩;exact⟨E,_,cx,_,cy,rfl,Al.own o1,Al.own o2,fun g N hu=>by simp[Ao]at N hu;omega⟩
theorem Ma.below{w c:Zh}{lo k d m base:Nat}{O P L:Value}{v:Vd}{a:Va}{r:Rs}(h:Ma w lo k d m base O P L v a r)(b:Zz w c):Ma c lo k d m base O P L v a r:=by obtain⟨e,f⟩:=h.ty;exact⟨Aa.below h.box b,h.dr.below b,h.du,h.fq,h.lt,h.db,e,(b.block k h.box.lt).trans f⟩
theorem TR(v:Vd)(a:Va)(e:Ed)(f:Nat)(rv:Value)(l:Zk)(t:Nat)(w:Zh)(y:∀args X,(callFunc f args).run prog X=.ok (.enter f args) X)(s:Cc w w.heap.size a v)(q:Cy v)(u:Env w)(n:Eo w w.heap.size l e.rf)(C:∃g h:Nat,a.qa=some ⟨g,0,none⟩/\a.ma=some ⟨h,0,none⟩)(A:e.rf.length<=1048576)(D:e.tx.size<=maxLen)(B:e.nm.size<=maxLen)(x:e.kd=1)
 (z:∀X,Zz w X->Calls prog f #[rv] X fun o p=>o=.returned (.agg (Ym e.kd e.s e.nm e.num e.tx l e.rf.length t))/\Zz X p):
 Calls prog 27 #[.agg (Yg v a),.func (.func f) #[rv] #[]] w (Hl v e w):=by
 refine TM v e _ _ f rv l t (fun lo k X=>∃r d m base O P L,CZ v r/\Ma X lo k d m base O P L v a r) w rfl y (fun X j=> ?_) z ?_ ?_ ?_
 ·refine(RM v a X (s.af j) q (u.below j)).mono ?_;rintro o p ⟨c,h|⟨r,k,d,m,O,P,L,base,b,rfl,i⟩⟩
  ·exact⟨c,.inl h⟩
  ·exact⟨c,.inr ⟨⟨r,b⟩,k,rfl,r,d,m,base,O,P,L,b,i⟩⟩
 ·rintro lo k X p ⟨r,d,m,base,O,P,L,b,i⟩ c;exact⟨r,d,m,base,O,P,L,b,i.below c⟩
 ·rintro lo k X du _ ⟨r,d,m,base,O,P,L,b,i⟩ c;exact YK v a e l t r lo k d m base O P L w X b i du c s q u n C A D B x
 ·rintro⟨r,b⟩ X j;exact LC v a r X (s.af j) q b
theorem PO(d:Zi)(a:Zk)(b:Nat)(c:Zl)(n:Int)(w:Zh):
 Calls prog 28 #[.agg #[.string d,.slice a c.length b,Zd,Zd,Zg n]] w fun o e=>o=.returned (.agg (Ym 1 ⟨#[]⟩ ⟨#[]⟩ n d a c.length b))/\Zz w e:=by
 go_enter func28,ntmps28;go_wp2;refine bodyPost_ret (v:=.agg (Ym 1 ⟨#[]⟩ ⟨#[]⟩ n d a c.length b)) (by simp[results,results28,go_sem]) rfl ⟨rfl,?_⟩;exact(Zy).alloc (by simp) _
theorem Vr(v:Vd)(A:Zj)(c:Zi)(j:Zk)(k:Nat)(a:Zl)(n:Int)(w:Zh)(N:A.length=17)(h:∀X,Zz w X->Calls prog 27 #[.agg A.toArray,.func (.func 28) #[.agg #[.string c,.slice j a.length k,Zd,Zd,Zg n]] #[]] X (Hl v ⟨1,⟨#[]⟩,⟨#[]⟩,n,c,a⟩ X)):
 Calls prog 9 #[.agg A.toArray,.agg #[.string c,.slice j a.length k],Zg n] w (Hl v ⟨1,⟨#[]⟩,⟨#[]⟩,n,c,a⟩ w):=by
 have zC:∀(fn:Fn) (first cap:Array Value) (w:Zh),(Instr.makeFunc fn first cap).run prog w=.ok (.func fn first cap) w:=fun _ _ _ _=>rfl;obtain⟨W,f⟩:∃W,W=((w.alloc (.cells A.toArray 46)).alloc (.cells #[.string c,.slice j a.length k] 51)).alloc (.cells Ya 48):=⟨_,rfl⟩;have C:=(Bh f).1;have s:=(Bh f).2.1
 have p:Hid (Aa W w.heap.size A/\Aa W (w.heap.size+1) [.string c,.slice j a.length k]/\Aa W (w.heap.size+2) AQ):=⟨(Bh f).2.2.1,(Bh f).2.2.2.1,(Bh (m:=AQ) f).2.2.2.2⟩;have R:Hid (A.length=17):=N;have l:=Yx (Zn C s);have K:=Yx f;have I:=Yx (h W C);clear f N h C s;go_enter func9,ntmps9;go_upto_region 1 with fail;rw[←K.o];clear K;go_wp2_with (first
  |refine wpList_load_mid rfl 46 _ rfl w.heap.size 0 rfl A _ p.o.1.range underlying46 rfl (by rw[R.o];kernel_rfl) ?_
  |refine wpList_load_mid rfl 51 _ rfl (w.heap.size+1) 0 rfl [.string c,.slice j a.length k] _ p.o.2.1.range underlying51 rfl (by kernel_rfl) ?_)
 refine Calls.mono I.o ?_;rintro o H ⟨d,S,U,T,P,L,Q,M,rs,y,rfl,r,F⟩;have e:=Ql r;obtain⟨D,q⟩:∃t,t=Ki d S U T P L Q M:=⟨_,rfl⟩;rw[←q]at e;rw[←q];have J:=Yx q;clear q;have E:=Aa.below (v:=Zf) p.o.2.2 F;obtain⟨z,i⟩:∃Y,Y=H.setCells (w.heap.size+2) 0 D.toArray.toList:=⟨_,rfl⟩;have G:Tn [w.heap.size+2] H z:=by rw[i];exact Ax _ _ _ _
 have O:Aa z (w.heap.size+2) D:=by rw[i];exact E.aw D (by rw[e.1];rfl)
 have g:Hid (H.there (w.heap.size+2) 0 D.toArray.size/\D.length=22/\∀u∈D,u.oneCell'=true):=by refine⟨?_,e⟩;rw[show D.toArray.size=22 from by rw[List.size_toArray];exact e.1];exact E.there
 have B:=l.o.1.trans (F.mono l.o.1.size);have s:=l.o.2;have x:Hid (Hl v ⟨1,⟨#[]⟩,⟨#[]⟩,n,c,a⟩ w (.returned (.agg D.toArray)) z):=⟨d,S,U,T,P,L,Q,M,rs,y,by rw[J.o],(r.stays G (fun b zA zB=>by have:=r.lo b zB;simp at zA;omega)).mono (by omega),B.trans (G.below B.size (by simp))⟩;have Z:=Yx O;have V:=Yx i;clear i G O E e F B s I l p r y J
 go_wp2_with (refine wpList_store_mid rfl 48 _ _ rfl (w.heap.size+2) 0 D.toArray rfl rfl g.o.1 (by rw[List.size_toArray,g.o.2.1];kernel_rfl) (all_oneCell_toArray g.o.2.2) ?_);rw[←V.o];exact bodyPost_ret (BL results9 _ _ (w.heap.size+2) D _ rfl (Aa.range Z.o) underlying48 rfl (by rw[g.o.2.1];kernel_rfl)) rfl x.o
theorem Eo.mono{w:Zh}{lo c:Nat}{a:Zk}{d:Zl}(h:Eo w lo a d)(j:lo<=c):Eo w c a d:=by
 rcases h with h|⟨b,e,f,g,i⟩
 ·exact .inl h
 ·exact .inr ⟨b,e,f,Zr g j,i⟩
theorem WZ(v:Vd)(a:Va)(c:Zi)(d:Zk)(f:Nat)(b:Zl)(n:Int)(w:Zh)(o:Cc w w.heap.size a v)(k:Cy v)(j:Env w)(i:Eo w w.heap.size d b)(m:∃g h:Nat,a.qa=some ⟨g,0,none⟩/\a.ma=some ⟨h,0,none⟩)(l:b.length<=1048576)(p:c.size<=maxLen):
 Calls prog 9 #[.agg (Yg v a),.agg #[.string c,.slice d b.length f],Zg n] w (Hl v ⟨1,⟨#[]⟩,⟨#[]⟩,n,c,b⟩ w):=
 Vr v (Ye v a) c d f b n w rfl (fun X e=>TR v a ⟨1,⟨#[]⟩,⟨#[]⟩,n,c,b⟩ 28 _ d f X (enters_of func28 (by kernel_rfl) rfl) (o.af e) k (j.below e) ((i.below e).mono e.size) m l p (Nat.zero_le _) rfl (fun Y _=>PO c d f b n Y))
def JB(g k g3 q3 r3 g5 k5:Nat)(v:Vd):Va:=⟨some ⟨g,0,none⟩,v.ss.length,some ⟨k,0,none⟩,v.tt.length,some ⟨g3,0,none⟩,v.ks.length,some ⟨q3,0,none⟩,v.ps.length,some ⟨r3,0,none⟩,v.ls.length,some ⟨g5,0,none⟩,v.qs.length,some ⟨k5,0,none⟩,v.ms.length⟩
def VS(v:Vd)(L:Nat)(X:Zh)(cs:Zj):Prop:=
 ∃g k g3 q3 r3 g5 k5,cs=[Zg v.wd,Zg v.aj,.slice (some ⟨g,0,none⟩) v.ss.length v.ss.length,.slice (some ⟨k,0,none⟩) v.tt.length v.tt.length,Zg v.sw,Zg v.now,Zg v.given,Zg v.ae,.slice (some ⟨g3,0,none⟩) v.ks.length v.ks.length,.slice (some ⟨q3,0,none⟩) v.ps.length v.ps.length,.slice (some ⟨r3,0,none⟩) v.ls.length v.ls.length,Zg v.ph,.slice (some ⟨g5,0,none⟩) v.qs.length v.qs.length,.slice (some ⟨k5,0,none⟩) v.ms.length v.ms.length,Zg v.ag,Zg v.at_,Zg v.ro]/\Cc X L (JB g k g3 q3 r3 g5 k5 v) v/\Gd X ⟨g3,0,none⟩ v.ks
def Qm(v:Vd)(lo N:Nat)(X:Zh)(cs:Zj):Prop:=
 (N<=X.heap.size/\lo<=X.heap.size)/\∃g k g3 q3 r3 g5 k5 rs,cs=Cd v (.slice (some ⟨g,0,none⟩) v.ss.length v.ss.length) (.slice (some ⟨k,0,none⟩) v.tt.length v.tt.length) (.slice (some ⟨g3,0,none⟩) v.ks.length v.ks.length) (.slice (some ⟨q3,0,none⟩) v.ps.length v.ps.length) (.slice (some ⟨r3,0,none⟩) v.ls.length v.ls.length) (.slice (some ⟨g5,0,none⟩) v.qs.length v.qs.length) (.slice (some ⟨k5,0,none⟩) v.ms.length v.ms.length)/\AU X lo (.slice (some ⟨g,0,none⟩) v.ss.length v.ss.length) (.slice (some ⟨k,0,none⟩) v.tt.length v.tt.length) (.slice (some ⟨g3,0,none⟩) v.ks.length v.ks.length) (.slice (some ⟨q3,0,none⟩) v.ps.length v.ps.length) (.slice (some ⟨r3,0,none⟩) v.ls.length v.ls.length) (.slice (some ⟨g5,0,none⟩) v.qs.length v.qs.length) (.slice (some ⟨k5,0,none⟩) v.ms.length v.ms.length) rs v/\(∀b∈CJ (.slice (some ⟨g,0,none⟩) v.ss.length v.ss.length) (.slice (some ⟨k,0,none⟩) v.tt.length v.tt.length) (.slice (some ⟨g3,0,none⟩) v.ks.length v.ks.length) (.slice (some ⟨q3,0,none⟩) v.ps.length v.ps.length) (.slice (some ⟨r3,0,none⟩) v.ls.length v.ls.length) (.slice (some ⟨g5,0,none⟩) v.qs.length v.qs.length) (.slice (some ⟨k5,0,none⟩) v.ms.length v.ms.length) rs,b<N)/\∀x∈rs,∃q n c,x=.slice (some ⟨q,0,none⟩) n c
theorem Gd.ak{w d:Zh}{A:Addr}{a:List Kd}{B:Nat}(h:Gd w A a)(n:BF w B (some A) a)(l:Below B w d):Gd d A a:=fun i k c=>by obtain⟨g,o,m⟩:=h i k c;obtain⟨b,f,j,e,_⟩:=n.at (Zw c).1;cases j;exact⟨g,o,(l.cell (p:=⟨b,f+i *4+3,none⟩) e).trans m⟩
theorem AV.ksome{X:Zh}{lo g c:Nat}{P L:Value}{b:Zj}{f:List Kd}{y:List Pd}{w:List Ld}(h:AV X lo (.slice (some ⟨g,0,none⟩) f.length c) P L b f y w)(u:∀x∈b,∃q n c,x=.slice (some ⟨q,0,none⟩) n c):Gd X ⟨g,0,none⟩ f:=fun i k j=>by
 have t:=(Zw j).1;have m:i<b.length:=by rw[h.len];exact t
 have o:=Zv m;obtain⟨q,n,d,e⟩:=u _ (List.getElem_mem m);have p:=(h.refs i k _ j o);obtain⟨a,z,l⟩:=Ar p;have v:(f.zip b)[i]?=some (k,b[i]):=List.getElem?_zip_eq_some.2 ⟨j,o⟩;have r:=Bz Ej v (show 3<4 by decide);have s:=h.ai.cellAt (i *4+3) (by omega);rw[e]at l;injection l with e1 e2 e3;refine⟨⟨q,0,none⟩,d,?_⟩;rw[Nat.zero_add,s,r,←e2,←e];rfl
theorem Qm.fh{v:Vd}{lo N:Nat}{X:Zh}{e:Zj}(h:Qm v lo N X e):VS v X.heap.size X e:=by obtain⟨_,g,k,f,n,o,i,m,t,rfl,a,_,j⟩:=h;obtain⟨u,w,r,s,p,q,b,c,d,l⟩:=a.st.rows;injection b with b;injection c with c;injection d with d;subst b c d;exact⟨g,k,f,n,o,i,m,rfl,⟨a.s.fh,a.u.fh,l,a.q.fh,a.m.fh⟩,a.st.ksome j⟩
theorem ZO(v:Vd)(u:Cy v):Gs 17 1000 11 13 (VS v) (Qm v) (fun _ _ _ _ _=>True):=by
 refine⟨?_,?_,?_,?_,?_,?_,?_,?_⟩
 ·rintro X l M ⟨g,k,c,i,j,d,f,rfl,a,_⟩ ⟨D,H,w,B,C,x,A,rfl,b,_⟩;have h:=Kg v (JB g k c i j d f v) (JB D H w B C x A v) X a b u;simp only[JB]at h;exact h
 ·rintro lo N X l n ⟨m,g,k,c,i,j,d,f,r,rfl,a,b,_⟩ y I;have O:=u.gz;refine(Lx v lo n _ _ _ _ _ _ _ r X a y (by omega)).mono ?_;rintro e o ⟨rfl,_,s⟩;exact⟨⟨n+Df v,rfl,by omega,by omega,trivial⟩,s.below m.2 a.lo,fun q P z=>s.block q z (fun e=>by have:=b q e;omega)⟩
 ·rintro L X o l ⟨g,k,c,i,j,d,f,rfl,a,b⟩ t;exact⟨g,k,c,i,j,d,f,rfl,a.ak t,b.ak a.st.k t⟩
 ·rintro L J X l ⟨g,k,c,i,j,d,f,rfl,a,b⟩ F;exact⟨g,k,c,i,j,d,f,rfl,a.mono F,b⟩
 ·rintro lo N X o l ⟨m,g,k,c,i,j,d,f,r,rfl,a,b,E⟩ p G;exact⟨⟨Zm m.1 p,Zm m.2 p⟩,g,k,c,i,j,d,f,r,rfl,a.ak b p G,b,E⟩
 ·rintro lo N X o l K _ _ _;trivial
 ·exact fun lo N X l h=>⟨h.1.1,h.fh⟩
 ·rintro L X l ⟨g,k,c,i,j,d,f,rfl,_,_⟩;exact⟨rfl,by simp[Value.oneCell']⟩
theorem TS(v:Vd)(a:Va)(w X:Zh)(o:Cc w w.heap.size a v)(n:Cy v)(m:Zz w X):
 Calls prog 7 #[.agg (Yg v a)] X fun e b=>∃c:Zj,e=.returned (.agg c.toArray)/\VS v b.heap.size b c/\Qm v X.heap.size b.heap.size b c/\Zz X b:=by
 refine(PK v a X (o.af m) n).mono ?_;rintro e b ⟨g,k,i,q,r,j,p,s,rfl,d,l,f⟩;have h:Qm v X.heap.size b.heap.size b _:=⟨⟨Zx,f.size⟩,g,k,i,q,r,j,p,s,rfl,d,d.cf,l⟩;exact⟨_,rfl,h.fh,h,f⟩
def VT(o:Dd)(L:Nat)(X:Zh)(cs:Zj):Prop:=∃vs,cs=dL o vs/\Ly o.v L X vs
def YL(o:Dd)(lo N:Nat)(X:Zh)(cs:Zj):Prop:=∃vs,cs=dL o vs/\Kh o.v o.v lo N X vs
def YM(o:Dd)(lo N:Nat)(X:Zh)(cs:Zj)(K:Nat):Prop:=∃vs,cs=dL o vs/\K=1+Df o.v/\Kh o.v (EU 1 o.v) lo N X vs
theorem ZP(o:Dd)(a:Cy o.v):Gs 22 1 10 15 (VT o) (YL o) (YM o):=
 Aah o (ZI o.v a) (fun _ _ _ _ h=>h.1.2)
theorem YN(o:Dd)(f:Cy o.v)(lo N:Nat)(X:Zh)(a:Zj)(K:Nat)(h:YM o lo N X a K):
 Calls prog 16 #[.agg a.toArray,Zg 1] X fun e b=>e=.returned (Zg K)/\Zz X b:=
 ZJ (M:=fun lo N X d K=>K=1+Df o.v/\Kh o.v (EU 1 o.v) lo N X d) o (fun _ _ _ _ _ h=>by obtain⟨_,_,S,U,T,P,L,Q,M,i,rfl,_⟩:=h;rfl) (YG o.v f) (fun lo N X b d K h c=>⟨h.1,h.2.ak c.size (fun q _ g=>c.block q (Zr g h.2.1.1))⟩) lo N X a K h
theorem Gx.law{v:Vd}{e:Ed}{w a:Zh}{o:Ending}(g:Cy v)(h:Gx v e w o a):∃(d:Dd) (ds:Zj),o=.returned (.agg ds.toArray)/\(Cy v/\Gz v e d)/\VT d a.heap.size a ds/\Zz w a:=by obtain⟨d,i,b,rfl,c,f⟩:=h;exact⟨d,_,rfl,⟨g,b⟩,⟨i,rfl,c [] a (by simp) (Tn.of (Below.refl _ _))⟩,f⟩
theorem Hl.law{v:Vd}{e:Ed}{w a:Zh}{o:Ending}(g:Cy v)(h:Hl v e w o a):∃(d:Dd) (ds:Zj),o=.returned (.agg ds.toArray)/\(Cy v/\Gz v e d)/\YL d w.heap.size a.heap.size a ds/\Zz w a:=by obtain⟨d,S,U,T,P,L,Q,M,i,c,rfl,f,b⟩:=h;exact⟨d,_,rfl,⟨g,c⟩,⟨_,rfl,f.voa b.size⟩,b⟩
end Go.Proofs.YtckmnfhmoankmaaGreatDoor
