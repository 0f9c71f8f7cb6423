import Derived.Test.YtfehblndlffcmaaGreatDoorX05
import Derived.Test.YtfehblndlffcmaaGreatDoorX06
import Derived.Test.YtfehblndlffcmaaGreatDoorX07
set_option maxRecDepth 100000
set_option maxHeartbeats 16000000
open Option renaming some->an,none->ba
open Bool renaming true->bg,false->bq
open Go.RowKit renaming Below->bs
open Decidable renaming decide->bx
open Go.Obj renaming cells->ca
open Go.Value renaming slice->cr,agg->ct,bool->ef
open Or renaming inl->dp,inr->eb
open List renaming length->eh
open Go.World renaming cell?->ek,frozen?->el,ownsRow->eo,grownBy->ep,setCell->ev
namespace Go.Proofs.YtfehblndlffcmaaGreatDoor
open ChangeShapes WideShapes ChangeAt RowKit _root_.Go.Proofs.Tryz List World Value
variable{w:Zh}{b n c:Nat}{g p:Int}{i j d f h:Zl}{l a:Zk}
def Dj:Zj:=[Ze,Ze,Ze,Ze,Ze,Zb,Zb,Zb,Ze,Zb,Zb,Ze,Ze,Ze,Zb]
theorem GO{g i j k l m n o p q a c d e f:D4}(h:Aa w b [g,i,j,k,l,m,n,o,p,q,a,c,d,e,f]):(ek w (Zd b 0)=an g/\el w ⟨b,0,ba⟩=bq)/\(ek w (Zd b 1)=an i/\el w ⟨b,1,ba⟩=bq)/\(ek w (Zd b 2)=an j/\el w ⟨b,2,ba⟩=bq)/\(ek w (Zd b 3)=an k/\el w ⟨b,3,ba⟩=bq)/\(ek w (Zd b 4)=an l/\el w ⟨b,4,ba⟩=bq)/\(ek w (Zd b 5)=an m/\el w ⟨b,5,ba⟩=bq)/\(ek w (Zd b 6)=an n/\el w ⟨b,6,ba⟩=bq)/\(ek w (Zd b 7)=an o/\el w ⟨b,7,ba⟩=bq)/\(ek w (Zd b 8)=an p/\el w ⟨b,8,ba⟩=bq)/\(ek w (Zd b 9)=an q/\el w ⟨b,9,ba⟩=bq)/\(ek w (Zd b 10)=an a/\el w ⟨b,10,ba⟩=bq)/\(ek w (Zd b 11)=an c/\el w ⟨b,11,ba⟩=bq)/\(ek w (Zd b 12)=an d/\el w ⟨b,12,ba⟩=bq)/\(ek w (Zd b 13)=an e/\el w ⟨b,13,ba⟩=bq)/\(ek w (Zd b 14)=an f/\el w ⟨b,14,ba⟩=bq):=
 ⟨h 0 _ rfl,h 1 _ rfl,h 2 _ rfl,h 3 _ rfl,h 4 _ rfl,h 5 _ rfl,h 6 _ rfl,h 7 _ rfl,h 8 _ rfl,h 9 _ rfl,h 10 _ rfl,h 11 _ rfl,h 12 _ rfl,h 13 _ rfl,h 14 _ rfl⟩
theorem Jy(w:Zh)(R:Nat)(f g h i j k l m n o a b c d e:D4):Tn [R] w (ev (ev (ev (ev (ev (ev (ev (ev (ev (ev (ev (ev (ev (ev (ev w (Zd R 0) f) (Zd R 1) g) (Zd R 2) h) (Zd R 3) i) (Zd R 4) j) (Zd R 5) k) (Zd R 6) l) (Zd R 7) m) (Zd R 8) n) (Zd R 9) o) (Zd R 10) a) (Zd R 11) b) (Zd R 12) c) (Zd R 13) d) (Zd R 14) e):=
 (((((((((((((((AX w R 0 f).ag (AX _ R 1 g)).ag (AX _ R 2 h)).ag (AX _ R 3 i)).ag (AX _ R 4 j)).ag (AX _ R 5 k)).ag (AX _ R 6 l)).ag (AX _ R 7 m)).ag (AX _ R 8 n)).ag (AX _ R 9 o)).ag (AX _ R 10 a)).ag (AX _ R 11 b)).ag (AX _ R 12 c)).ag (AX _ R 13 d)).ag (AX _ R 14 e))
theorem Aea(h:Aa w b Dj)(g i j k l m n o p q a c d e f:D4):Aa (ev (ev (ev (ev (ev (ev (ev (ev (ev (ev (ev (ev (ev (ev (ev w (Zd b 0) g) (Zd b 1) i) (Zd b 2) j) (Zd b 3) k) (Zd b 4) l) (Zd b 5) m) (Zd b 6) n) (Zd b 7) o) (Zd b 8) p) (Zd b 9) q) (Zd b 10) a) (Zd b 11) c) (Zd b 12) d) (Zd b 13) e) (Zd b 14) f) b [g,i,j,k,l,m,n,o,p,q,a,c,d,e,f]:=
 (((((((((((((((h.set 0 g).set 1 i).set 2 j).set 3 k).set 4 l).set 5 m).set 6 n).set 7 o).set 8 p).set 9 q).set 10 a).set 11 c).set 12 d).set 13 e).set 14 f)
def fresh(ms rs:Zl):Zl:=rs.filter (fun r=> !(ms.any (fun x=>decide (x=r))))
def Mp(ks:List Kd)(s:Zi)(qs ms qs' ms':Zl):Prop:=
 ((¬AA ks s\/s∈ms)/\qs'=qs/\ms'=ms)\/∃k∈ks,k.sum=s/\s∉ms/\ms'=ms++[s]/\qs'=qs++fresh (ms++[s]) k.D
def OJ(ks:List Kd)(at_:Int)(u:Kd):Prop:=u∈ks/\u.born<at_/\∀y∈ks,y.born<at_->y.born<=u.born
structure UR where
 B:List Kd
 I:Int
 N:Int
 M:Int
 ro:Int
 H:Zl
 ms:Zl
 ds:Zl
inductive UTo (ks:List Kd) (ps:List Pd) (ls:List Ld) (births ph top at_ ro:Int) (qs ms:Zl):UR->Prop
 |begin (h:ph=0):UTo ks ps ls births ph top at_ ro qs ms ⟨ks,1,births,births+1,ro,Dx ps ls,ms,[]⟩
 |mark (h:ph≠0) (s:Zi) (q0 qs' ms':Zl) (hq:qs=s::q0) (hm:Mp ks s q0 ms qs' ms'):UTo ks ps ls births ph top at_ ro qs ms ⟨ks,ph,top,at_,ro,qs',ms',[]⟩
 |rest (h:ph≠0) (hq:qs=[]) (hn:∀y∈ks,¬y.born<at_):UTo ks ps ls births ph top at_ ro qs ms ⟨ks,0,0,0,ro+1,[],[],[]⟩
 |ah (h:ph≠0) (hq:qs=[]) (u:Kd) (hu:OJ ks at_ u) (hk:u.sum∈ms\/Jn ps ls ks u.sum):UTo ks ps ls births ph top at_ ro qs ms ⟨ks,2,top,u.born,ro,[],ms,[]⟩
 |drop (h:ph≠0) (hq:qs=[]) (u:Kd) (hu:OJ ks at_ u) (hm:u.sum∉ms) (hk:¬Jn ps ls ks u.sum):UTo ks ps ls births ph top at_ ro qs ms ⟨Dk ks u.sum,2,top,u.born,ro,[],ms,[u.sum]⟩
theorem UTo.sub{a d c k:Int}{b:C9}{i:Db}{e:Da}{r:UR}(h:UTo b i e a g d c k j f r):r.B.Sublist b:=by
 cases h with
 |begin h=>exact List.Sublist.refl _
 |mark h s q0 q1 m1 hq hm=>exact List.Sublist.refl _
 |rest h hq hn=>exact List.Sublist.refl _
 |ah h hq u hu hk=>exact List.Sublist.refl _
 |drop h hq u hu hm hk=>exact filter_sublist
theorem Mp.di{b:C9}{s:Zi}{g:Zl}(l:(b.map (·.sum)).Nodup)(m:Mp b s j g h d)(n:Mp b s j g i f):h=i/\d=f:=by
 rcases m with⟨a,rfl,rfl⟩|⟨k,c,e,o,rfl,rfl⟩<;>rcases n with⟨a',rfl,rfl⟩|⟨k',hk',e',hn',rfl,rfl⟩
 .exact gA
 .rcases a with a|a
  .exact absurd ⟨k',hk',e'⟩ a
  exact gA
 .rcases a' with a|a
  .exact absurd ⟨k,c,e⟩ a
  exact gA
 rw[Gs l c hk' (e.ag e'.symm)];exact gA
theorem UTo.di{c j e o:Int}{d:C9}{k:Db}{h:Da}{l:Zl}{m n:UR}(q:∀x∈d,∀y∈d,x.born=y.born->x=y)(p:(d.map (·.sum)).Nodup)(b:UTo d k h c j g e o l i m)(a:UTo d k h c j g e o l i n):m=n:=by
 have f:∀{u v:Kd},OJ d e u->OJ d e v->u=v:=λ{u v} hu hv=>q _ hu.1 _ hv.1 (by have:=hu.2.2 v hv.1 hv.2.1;have:=hv.2.2 u hu.1 hu.2.1;omega);cases b with
 |begin b=>
  cases a with
  |begin a=>rfl
  |mark a s2 q02 qs12 ms12 hq2 hm2=>exact absurd b a
  |rest a hq2 hn2=>exact absurd b a
  |ah a hq2 u2 hu2 hk2=>exact absurd b a
  |drop a hq2 u2 hu2 hm2 hk2=>exact absurd b a
 |mark b s1 q01 qs11 ms11 hq1 hm1=>
  cases a with
  |begin a=>exact absurd a b
  |mark a s2 q02 qs12 ms12 hq2 hm2=>rw[hq1]at hq2;cases hq2;obtain⟨rfl,rfl⟩:=hm1.di p hm2;rfl
  |rest a hq2 hn2=>rw[hq1]at hq2;cases hq2
  |ah a hq2 u2 hu2 hk2=>rw[hq1]at hq2;cases hq2
  |drop a hq2 u2 hu2 hm2 hk2=>rw[hq1]at hq2;cases hq2
 |rest b hq1 hn1=>
  cases a with
  |begin a=>exact absurd a b
  |mark a s2 q02 qs12 ms12 hq2 hm2=>rw[hq1]at hq2;cases hq2
  |rest a hq2 hn2=>rfl
  |ah a hq2 u2 hu2 hk2=>exact absurd hu2.2.1 (hn1 _ hu2.1)
  |drop a hq2 u2 hu2 hm2 hk2=>exact absurd hu2.2.1 (hn1 _ hu2.1)
 |ah b hq1 u1 hu1 hk1=>
  cases a with
  |begin a=>exact absurd a b
  |mark a s2 q02 qs12 ms12 hq2 hm2=>rw[hq1]at hq2;cases hq2
  |rest a hq2 hn2=>exact absurd hu1.2.1 (hn2 _ hu1.1)
  |ah a hq2 u2 hu2 hk2=>cases f hu1 hu2;rfl
  |drop a hq2 u2 hu2 hm2 hk2=>cases f hu1 hu2;exact(hk1.elim hm2 hk2).elim
 |drop b hq1 u1 hu1 hm1 hk1=>
  cases a with
  |begin a=>exact absurd a b
  |mark a s2 q02 qs12 ms12 hq2 hm2=>rw[hq1]at hq2;cases hq2
  |rest a hq2 hn2=>exact absurd hu1.2.1 (hn2 _ hu1.1)
  |ah a hq2 u2 hu2 hk2=>cases f hu1 hu2;exact(hk2.elim hm1 hk1).elim
  |drop a hq2 u2 hu2 hm2 hk2=>cases f hu1 hu2;rfl
section
attribute [local go_sem↓] Go.wp_at_zero Go.wp_at_succ
theorem GP{fk fj:Nat}(zO:(fk=22/\Hid (fj=47))\/(fk=11/\Hid (fj=36)))(U M j d G s c b:Int)(a p l a' p' l':Zk)(ac pc lc Z zC zB:Nat)(z o:C9)(C r:Db)(B q:Da)(w:Zh)(E:Bo w w.1.size a p l z C B)(D:Bo w w.1.size a' p' l' o r q)(hl:eh z<=100000/\eh C<=100000/\eh B<=100000)(zT:eh o<=1048576/\eh r<=1048576/\eh q<=1048576)(P:∀k∈z,eh k.D<=100000)(Q:∀k∈o,eh k.D<=1048576):
 D8 fk #[ct (Yg U M j d a (eh z) ac p (eh C) pc l (eh B) lc),ct (Yg G s c b a' (eh o) Z p' (eh r) zC l' (eh q) zB)] w λe w'=>Av ((U=G/\M=s/\j=c/\d=b)/\z=o/\C=r/\B=q) w w' e:=by
 rcases zO with⟨rfl,HJ⟩|⟨rfl,HJ⟩
 all_goals
  have⟨W,f⟩:=Ag ((w.alloc (ca (C8 U M j d a z ac p C pc l B lc) 30)).alloc (ca (C8 G s c b a' o Z p' r zC l' q zB) 30));have bW:=(AQ f).1;have t:=(AQ f).2.2.1;have u:Aa W (w.1.size+1) (C7 G s c b a' o Z p' r zC l' q zB):=by have P:=Aa.new (w.alloc (ca (C8 U M j d a z ac p C pc l B lc) 30)) (C7 G s c b a' o Z p' r zC l' q zB) 30;rw[Ao]at P;rw[f];exact P
  have HX:Hid (∀X,Zz W X->Aa X w.1.size (C7 U M j d a z ac p C pc l B lc)/\Aa X (w.1.size+1) (C7 G s c b a' o Z p' r zC l' q zB)/\Bo X w.1.size a p l z C B/\Bo X w.1.size a' p' l' o r q/\Zz w X):=λX g=>by have A:=bW.ag (g.ai bW.size);exact⟨Aa.A t g,Aa.A u g,E.ah A,D.ah A,A⟩
  obtain⟨zW,⟨J,_⟩,⟨V,_⟩,⟨K,_⟩,⟨Y,_⟩,⟨L,_⟩,⟨h,_⟩,⟨R,_⟩,⟨n,_⟩,⟨N,_⟩,⟨O,_⟩,⟨S,_⟩,⟨x,_⟩,⟨T,_⟩,⟨y,_⟩,HW⟩:=(AQ f).2.1,t 0 _ rfl,u 0 _ rfl,t 1 _ rfl,u 1 _ rfl,t 2 _ rfl,u 2 _ rfl,t 3 _ rfl,u 3 _ rfl,t 4 _ rfl,u 4 _ rfl,t 5 _ rfl,u 5 _ rfl,t 6 _ rfl,u 6 _ rfl,Yw f;clear f E D t u;by_cases e0:U=G
  case' neg=>
   have f:(U !=G)=bg:=by simp[e0]
  case' pos=>
   have f:(U !=G)=bq:=(by simp[e0]);have E0:=Yw e0;clear e0;by_cases e1:M=s
   case' neg=>
    have g:(M !=s)=bg:=by simp[e1]
   case' pos=>
    have g:(M !=s)=bq:=(by simp[e1]);have E1:=Yw e1;clear e1;by_cases e2:j=c
    case' neg=>
     have m:(j !=c)=bg:=by simp[e2]
    case' pos=>
     have m:(j !=c)=bq:=(by simp[e2]);have E2:=Yw e2;clear e2;by_cases e3:d=b
     case' neg=>
      have v:(d !=b)=bg:=by simp[e3]
     case' pos=>
      have v:(d !=b)=bq:=(by simp[e3]);have E3:=Yw e3;clear e3;by_cases e4:eh z=eh o
      case' neg=>
       have F:=bne_iff_ne.2 Yv
      case' pos=>
       have F:((eh z:Int) !=(eh o:Int))=bq:=(by simp[e4]);have E4:=Yw e4;clear e4;by_cases e5:eh C=eh r
       case' neg=>
        have H:=bne_iff_ne.2 Yv
       case' pos=>
        have H:((eh C:Int) !=(eh r:Int))=bq:=(by simp[e5]);have E5:=Yw e5;clear e5;by_cases e6:eh B=eh q
        case' neg=>
         have I:=bne_iff_ne.2 Yv
        case' pos=>
         have I:((eh B:Int) !=(eh q:Int))=bq:=(by simp[e6]);have E6:=Yw e6;clear e6;delta D8;go_in;go_upto_region 1 with fail;rw[<-HW.o];clear HW;go_wp2;clear f g m v F H I;go_loopw [5] (λi wr=>∃k:Nat,k<=eh z/\i=Zg k/\Hid (z.take k=o.take k/\Zz W wr)) (λi _=>eh z -(intOf i).toNat)
         case atStart=>exact⟨0,Aq _,rfl,⟨Yu,Ae⟩⟩
         clear J V K Y L h R n N O S x T y;obtain⟨k,hk,rfl,v⟩:=hrel;have⟨t,u,E,D,g⟩:=HX wr v.2;obtain⟨zK,⟨N,_⟩,O,_⟩:=v.2.size,t 4 _ rfl,u 4 _ rfl;by_cases hlt:k<eh z
         .have f:k<eh o:=Dl E4.o;obtain⟨⟨rb,ro,ha,zA,L⟩,qb,qo,A,X,K⟩:=E.k.at hlt,D.k.at f;subst ha A;obtain⟨⟨c0,c1,c2,ra,rc,h,F⟩,⟨d0,d1,d2,sa,sc,d3,m⟩,S,R,V,Y⟩:=L k _ (Zv hlt),K k _ (Zv f),Zr zA g.size,Zr X g.size,Yw (Zu hlt),Yw (Zu f);have HN:Hid (∀x y,z[k]?=an x->o[k]?=an y->x≠y->z≠o):=λx y P Q T e=>by subst e;rw[P]at Q;exact T (A8 Q)
          have H:=Yw (Zv hlt);have I:=Yw (Zv f);have zJ:(k:Int)<eh o:=Yv;have m1:=P _ (getElem_mem hlt);have m2:=Q _ (getElem_mem f);clear L K;generalize z[k]=x at *
          generalize o[k]=y at *
          have HB:=Yw v.2;have HC:Hid (∀n:Aw wr,D8 fj #[ct #[C4 x.i,C2 ra x.D rc],ct #[C4 y.i,C2 sa y.D sc]] n.w λe w'=>e=C5 (ef (bx (x.i=y.i/\x.D=y.D)))/\bs n.w.1.size n.w w'):=λn=>by
           have zF:=g.ag (n.h.ai g.size);have hj:=HJ.o;subst hj
           first
            |refine(Mn x.i y.i ra sa rc sc x.D y.D n.w ((F.A (n.h.ai g.size)).ai zF.size) ((m.A (n.h.ai g.size)).ai zF.size) m1 m2).ai ?_
            |refine(SZ x.i y.i ra sa rc sc x.D y.D n.w ((F.A (n.h.ai g.size)).ai zF.size) ((m.A (n.h.ai g.size)).ai zF.size) (Zm m1 Yq) m2).ai ?_
           rintro e w' ⟨bb,rfl,zI,zH⟩;refine⟨?_,zH⟩;by_cases hP:x.i=y.i/\x.D=y.D
           .rw[zI.2 hP,decide_eq_true hP]
           cases bb with
           |true=>exact absurd (zI.1 rfl) hP
           |false=>rw[decide_eq_false hP]
          have hj:=HJ.o;subst hj;have q1:=Aw.cell N Yv;obtain⟨q2,r0,s0,r1,s1⟩:=Aw.cell O Yv,Aw.cell c0 S,Aw.cell d0 R,Aw.cell c1 S,Aw.cell d1 R;obtain⟨r2,s2,r3,s3,T⟩:=Aw.cell c2 S,Aw.cell d2 R,Aw.cell h S,Aw.cell d3 R,Aw.ne wr;have HE:Hid (∀n:Aw wr,Zz W n.w):=λn=>HB.ag (n.h.ai HB.size);clear t u E D F m g;by_cases hs:x.sum=y.sum
          case' neg=>
           have zP:(x.sum.toList !=y.sum.toList)=bg:=(by simp[bne,BJ hs]);have zS:=BJ hs;have zG:=Yw hs;clear hs
          case' pos=>
           have zP:(x.sum.toList !=y.sum.toList)=bq:=(by rw[hs];simp);have zS:(x.sum.toList==y.sum.toList)=bg:=(by rw[hs];simp);by_cases A:x.born=y.born
           case' neg=>
            have zH:(x.born !=y.born)=bg:=(by simp[A]);have zN:(x.born==y.born)=bq:=(by simp[A]);have zG:=Yw A;clear A hs
           case' pos=>
            have zH:(x.born !=y.born)=bq:=(by simp[A]);have zN:(x.born==y.born)=bg:=(by simp[A]);by_cases hP:x.i=y.i/\x.D=y.D
            case' neg=>
             rw[decide_eq_false hP]at HC;have zG:=Yw hP;clear hP hs A
            case' pos=>
             rw[decide_eq_true hP]at HC;have J:Hid (x=y):=(by obtain⟨e1,e2⟩:=hP;show x=y;cases x;cases y;simp_all);clear hP hs A;go_wp2;refine AP Yr Yr ?_
             repeat (go_big_quiet_step (exact Aw.calls (HC _)))
             refine wpQuiet_nil ?_;intro n;clear q1 q2 r0 r1 r2 r3 s0 s1 s2 s3 N O c0 c1 c2 h d0 d1 d2 d3;go_wp2;exact⟨⟨k+1,Yv,Yn,⟨by rw[V.o,Y.o,v.1,J.o],HE.o n⟩⟩,Ys⟩
          all_goals
           go_wp2;refine AP Yr Yr ?_
           repeat (go_big_quiet_step (exact Aw.calls (HC _)))
           refine wpQuiet_nil ?_;intro n;have zM:=Yw ((HX _ (HE n)).2.2.2.2);clear q1 q2 r0 r1 r2 r3 s0 s1 s2 s3 N O c0 c1 c2 h d0 d1 d2 d3;go_wp2;go_ret;exact Av.no (λh=>HN x y H I (λe=>zG (by rw[e];first|done|exact⟨rfl,rfl⟩)) h.2.1) zM
         obtain rfl:k=eh z:=Yv;have m:=v.1;rw[Zt (Zx),Zt (Dl E4.o)]at m;have HK:=Yw m;have zE:=Yw v.2;clear m t u E D g;go_wp2;go_loopw [6] (λi wr=>∃k:Nat,k<=eh C/\i=Zg k/\Hid (C.take k=r.take k/\Zz W wr)) (λi _=>eh C -(intOf i).toNat)
         case atStart=>exact⟨0,Aq _,rfl,⟨Yu,zE⟩⟩
         obtain⟨k,hk,rfl,v⟩:=hrel;have⟨t,u,E,D,g⟩:=HX wr v.2;obtain⟨zK,⟨N,_⟩,O,_⟩:=v.2.size,t 5 _ rfl,u 5 _ rfl;by_cases hlt:k<eh C
         .have f:k<eh r:=Dl E5.o;obtain⟨⟨rb,ro,ha,zA,L⟩,qb,qo,A,X,K⟩:=E.p.at hlt,D.p.at f;subst ha A;obtain⟨⟨c0,c1⟩,⟨d0,d1⟩,S,R,V,Y⟩:=L k _ (Zv hlt),K k _ (Zv f),Zr zA g.size,Zr X g.size,Yw (Zu hlt),Yw (Zu f);have HN:Hid (∀x y,C[k]?=an x->r[k]?=an y->x≠y->C≠r):=λx y P Q T e=>by subst e;rw[P]at Q;exact T (A8 Q)
          have H:=Yw (Zv hlt);have I:=Yw (Zv f);have zJ:(k:Int)<eh r:=Yv;clear L K;generalize C[k]=x at *
          generalize r[k]=y at *
          have HB:=Yw v.2;have F:=Yw g;clear t u E D g;by_cases hxy:x=y
          .subst hxy;go_wp2
           go_region
           all_goals go_wp2
           all_goals exact⟨⟨k+1,Yv,Yn,⟨by rw[V.o,Y.o,v.1],HB.drew⟩⟩,Ys⟩
          have J:=Yw hxy;by_cases n0:x.name=y.name
          .have k0:x.name.toList=y.name.toList:=(by rw[n0]);have n1:¬x.sum=y.sum:=λe=>hxy (by
            cases x;cases y;simp_all)
           have k1:¬x.sum.toList=y.sum.toList:=λe=>n1 (Gr e);clear hxy n0 n1;go_wp2
           go_region
           all_goals go_wp2
           all_goals go_ret
           all_goals exact Av.no (λh=>HN x y H I J h.2.2.1) F.drew
          have k0:¬x.name.toList=y.name.toList:=λe=>n0 (Gr e);clear n0 hxy;go_wp2
          go_region
          all_goals go_wp2
          all_goals go_ret
          all_goals exact Av.no (λh=>HN x y H I J h.2.2.1) F.drew
         obtain rfl:k=eh C:=Yv;have m:=v.1;rw[Zt (Zx),Zt (Dl E5.o)]at m;obtain⟨HP,zE,F⟩:=Yw m,Yw v.2,Yw g;clear m t u E D g;go_wp2;go_loopw [7] (λi wr=>∃k:Nat,k<=eh B/\i=Zg k/\Hid (B.take k=q.take k/\Zz W wr)) (λi _=>eh B -(intOf i).toNat)
         case atStart=>exact⟨0,Aq _,rfl,⟨Yu,zE⟩⟩
         obtain⟨k,hk,rfl,v⟩:=hrel;have⟨t,u,E,D,g⟩:=HX wr v.2;obtain⟨zK,⟨N,_⟩,O,_⟩:=v.2.size,t 6 _ rfl,u 6 _ rfl;by_cases hlt:k<eh B
         case neg=>
          obtain rfl:k=eh B:=Yv;have m:=v.1;rw[Zt (Zx),Zt (Dl E6.o)]at m;obtain⟨K,zE,F⟩:=Yw m,Yw v.2,Yw g;clear m t u E D g;go_wp2;go_ret;exact Av.yes ⟨⟨E0,E1,E2,E3⟩,HK,HP,K⟩ F
         have f:k<eh q:=Dl E6.o;obtain⟨⟨rb,ro,ha,zA,L⟩,qb,qo,A,X,K⟩:=E.l.at hlt,D.l.at f;subst ha A;obtain⟨⟨c0,c1,c2⟩,⟨d0,d1,d2⟩,S,R,V,Y⟩:=L k _ (Zv hlt),K k _ (Zv f),Zr zA g.size,Zr X g.size,Yw (Zu hlt),Yw (Zu f);have HN:Hid (∀x y,B[k]?=an x->q[k]?=an y->x≠y->B≠q):=λx y P Q T e=>by subst e;rw[P]at Q;exact T (A8 Q)
         have H:=Yw (Zv hlt);have I:=Yw (Zv f);have zJ:(k:Int)<eh q:=Yv;clear L K;generalize B[k]=x at *
         generalize q[k]=y at *
         have HB:=Yw v.2;have F:=Yw g;clear t u E D g;by_cases hxy:x=y
         .subst hxy;go_wp2
          go_region
          all_goals go_wp2
          all_goals exact⟨⟨k+1,Yv,Yn,⟨by rw[V.o,Y.o,v.1],HB.drew⟩⟩,Ys⟩
         have J:=Yw hxy;by_cases n0:x.R=y.R
         .have k0:=n0;by_cases n1:x.sum=y.sum
          .have k1:x.sum.toList=y.sum.toList:=(by rw[n1]);have L:¬x.bj=y.bj:=λe=>hxy (by
            cases x;cases y;simp_all)
           clear hxy n1;go_wp2
           go_region
           all_goals go_wp2
           all_goals go_ret
           all_goals exact Av.no (λh=>HN x y H I J h.2.2.2) F.drew
          have k1:¬x.sum.toList=y.sum.toList:=λe=>n1 (Gr e);clear n1 hxy;go_wp2
          go_region
          all_goals go_wp2
          all_goals go_ret
          all_goals exact Av.no (λh=>HN x y H I J h.2.2.2) F.drew
         clear hxy;go_wp2
         go_region
         all_goals go_wp2
         all_goals go_ret
         all_goals exact Av.no (λh=>HN x y H I J h.2.2.2) F.drew
  all_goals
   delta D8;go_in;go_upto_region 1 with fail;rw[<-HW.o];clear HW;go_wp2;go_ret;exact Av.no (by first|exact λh=>e0 h.1.1|exact λh=>e1 h.1.2.1|exact λh=>e2 h.1.2.2.1|exact λh=>e3 h.1.2.2.2|exact λh=>e4 (by rw[h.2.1])|exact λh=>e5 (by rw[h.2.2.1])|exact λh=>e6 (by rw[h.2.2.2])) bW
theorem Li{a:Zl}:a.Nodup↔∀(j:Nat) x,a[j]?=an x->x∉a.take j:=by
 unfold Nodup;rw[pairwise_iff_getElem];constructor
 .intro h j x b f;obtain⟨l,rfl⟩:=Zw b;have⟨i,d,e⟩:=getElem_of_mem f;have g:i<j:=gG;rw[getElem_take]at e;exact gA
 intro h i j d b k e;refine h j a[j] (Zv b) ?_;rw[<-e];have c:i<eh (a.take j):=Yt;have:=getElem_mem c;rw[getElem_take]at this;exact this
theorem Ab.front{B:Nat}{c:Zl}(h:Ab w B a c)(K:Nat):Ab w B a (c.take K):=by
 rcases h with h|⟨q,d,e,f,g⟩
 .exact dp (by simp[h])
 refine eb ⟨q,d,e,f,λi s b=>g i s ?_⟩;have j:=(Zw b).1;simp at j;rw[getElem?_take_of_lt Yv]at b;exact b
theorem PW(o B r c p f l q:Int)(T P L:D4){b:Zk}(Q C:Nat){m g:Zl}(hq:Ab w w.1.size a m)(hm:Ab w w.1.size b g)(hf:IL m g)(zN:eh g<=C)(zT:c<=1000000000):
 D8 23 #[ct #[Zg o,Zg B,Zg r,Zg c,T,P,L],ct (Xy p a (eh m) Q b (eh g) C f l q)] w λe w'=>Av (Ba o c p f l q m g) w w' e:=by
 obtain⟨zV,zU,W,hW⟩:=hf.q,hf.m,Ag ((w.alloc (ca #[Zg o,Zg B,Zg r,Zg c,T,P,L] 30)).alloc (ca (Xy p a (eh m) Q b (eh g) C f l q) 32));have d:bs w.1.size w W:=gB;have zI:AW W w.1.size o B r c T P L:=by rw[hW];exact(AW.new w o B r c T P L 30).A (Zy)
 have zH:Cu W (w.1.size+1) p (C2 a m Q) (C2 b g C) f l q:=by rw[hW];have:=Cu.new (w.alloc (ca #[Zg o,Zg B,Zg r,Zg c,T,P,L] 30)) p f l q (C2 a m Q) (C2 b g C) 32;rw[Ao]at this;exact this
 have zM:W.1.size=w.1.size+2:=gB;have HW:=Yw hW;clear hW;obtain⟨v,u,HQ,HM⟩:=Yw zI,Yw zH,Yw hq,Yw hm;clear zI zH hq hm;by_cases p1:p<0
 .have d1:bx (p<0)=bg:=Yt;delta D8;go_in;go_wp2;go_ret;rw[<-HW.o];exact Av.no (P:=Ba o c p f l q m g) (λh=>by rcases h.I with h|h|h<;>(have:=h.1;omega)) d
 have d1:bx (p<0)=bq:=Yt;by_cases p2:2<p
 .have d2:bx ((2:Int)<p)=bg:=Yt;delta D8;go_in;go_wp2;go_ret;rw[<-HW.o];exact Av.no (P:=Ba o c p f l q m g) (λh=>by rcases h.I with h|h|h<;>(have:=h.1;omega)) d
 have d2:bx ((2:Int)<p)=bq:=Yt;delta D8;go_in;go_wp2_with fail;rw[<-HW.o];refine(CY q 0 1000000000 W).ai ?_;rintro e w1 ⟨rfl,rfl⟩;have⟨F,D,E,G,H,I,N⟩:=u.o;by_cases h1:0<=q/\q<=1000000000
 case neg=>rw[decide_eq_false h1];go_wp2;go_ret;exact Av.no (P:=Ba o c p f l q m g) (λh=>h1 ⟨h.jq,h.jn⟩) d
 rw[decide_eq_true h1];by_cases h2:eh m<=23200
 case neg=>
  have A:bx ((23200:Int)<(eh m:Int))=bg:=Yt;go_wp2;go_ret;exact Av.no (P:=Ba o c p f l q m g) (λh=>h2 h.dw.nq) d
 have A:bx ((23200:Int)<(eh m:Int))=bq:=Yt;by_cases h3:eh g<=600
 case neg=>
  have R:bx ((600:Int)<(eh g:Int))=bg:=Yt;go_wp2;go_ret;exact Av.no (P:=Ba o c p f l q m g) (λh=>h3 h.dw.nm) d
 have R:bx ((600:Int)<(eh g:Int))=bq:=Yt;clear HW;go_wp2;go_loopw [5] (λi wr=>∃k:Nat,k<=eh m/\i=Zg k/\Hid (∀j x,j<k->m[j]?=an x->(x.size:Int)=o)/\Hid (AW wr w.1.size o B r c T P L)/\Hid (Cu wr (w.1.size+1) p (C2 a m Q) (C2 b g C) f l q)/\Zz w wr) (λi _=>eh m -(intOf i).toNat)
 case atStart=>exact⟨0,Aq _,rfl,λj x h=>Yv,v,u,d⟩
 clear F D E G H I N v u d zM;obtain⟨k,hk,rfl,t,v,u,d⟩:=hrel;obtain⟨⟨F,D,E,G,H,I,N⟩,J,_,_,O,_,_,_,Y⟩:=u.o,v.o;by_cases hlt:k<eh m
 .obtain⟨b',zC,ha,hb,hc⟩:=(Ab.A HQ d).at hlt;subst ha;have S:=Yw (Zv hlt);have M:=hc k _ S;have K:=Zr hb d.size;clear hc;generalize m[k]=x at *
  obtain⟨U,V,X,zJ⟩:=Aw.cell D N,Aw.cell M K,Aw.cell J Y,Aw.ne wr;by_cases h:(x.size:Int)=o
  .have hn:((x.size:Int) !=o)=bq:=Yt;have HA:Hid (∀j y,j<k+1->m[j]?=an y->(y.size:Int)=o):=gH;go_wp2;refine AP Yr Yr ?_
   repeat (go_big_quiet_step (fail))
   refine wpQuiet_nil ?_;intro n;obtain⟨zB,zA,z⟩:=Yw (AW.ah v n.h Y),Yw (Cu.ah u n.h N),d.ag (n.h.ai d.size);clear U V X F D E G H I J O M;go_wp2;exact⟨⟨k+1,Yv,Yn,HA,zB,zA,z⟩,Ys⟩
  have hn:((x.size:Int) !=o)=bg:=Yt;go_wp2;refine AP Yr Yr ?_
  repeat (go_big_quiet_step (fail))
  refine wpQuiet_nil ?_;intro n;have z:=d.ag (n.h.ai d.size);clear U V X F D E G H I J O M;go_wp2;go_ret;exact Av.no (P:=Ba o c p f l q m g) (λZ=>h (Z.dw.q x (Zs S))) z
 have zF:Hid (∀s∈m,(s.size:Int)=o):=by intro s hs;obtain⟨j,hj,rfl⟩:=getElem_of_mem hs;exact t j _ Yv (Zv hj)
 clear t;go_wp2;go_loopw [6] (λi wr=>∃k:Nat,k<=eh g/\i=Zg k/\Hid (∀j x,j<k->g[j]?=an x->(x.size:Int)=o/\x∉g.take j)/\Hid (AW wr w.1.size o B r c T P L)/\Hid (Cu wr (w.1.size+1) p (C2 a m Q) (C2 b g C) f l q)/\Zz w wr) (λi _=>eh g -(intOf i).toNat)
 case atStart=>exact⟨0,Aq _,rfl,λj x h=>Yv,v,u,d⟩
 clear F D E G H I N J O Y v u d;obtain⟨k,hk,rfl,t,v,u,d⟩:=hrel;obtain⟨⟨F,D,E,G,H,I,N⟩,J,_,_,O,_,_,_,Y⟩:=u.o,v.o;by_cases hlt:k<eh g
 .obtain⟨b',zC,ha,hb,hc⟩:=(Ab.A HM d).at hlt;subst ha;have S:=Yw (Zv hlt);have M:=hc k _ S;have K:=Zr hb d.size;clear hc;generalize g[k]=x at *
  obtain⟨U,V,X,zJ⟩:=Aw.cell E N,Aw.cell M K,Aw.cell J Y,Aw.ne wr;have zK:eh (g.take k)=k:=Yt;have hH:∀n:Aw wr,D8 48 #[C3 (an ⟨b',zC,ba⟩) k C,C4 x] n.w λe w'=>e=C5 (ef ((g.take k).any (λy=>decide (y=x))))/\bs n.w.1.size n.w w':=λn=>by have:=FJ C x (Ab.front (Ab.A HM (d.ag (n.h.ai d.size))) k) Yv;rw[zK]at this;exact this.ai (by rintro e w' ⟨rfl,rfl⟩;exact⟨rfl,Ae⟩)
  have HH:=Yw hH;clear hH;have zW:k<=C:=Yv;by_cases h:(x.size:Int)=o
  .have hn:((x.size:Int) !=o)=bq:=Yt
   cases hin:(g.take k).any (λy=>decide (y=x))with
   |false=>
    rw[hin]at HH;have zE:x∉g.take k:=λhx=>by have:(g.take k).any (λy=>decide (y=x))=bg:=any_eq_true.2 ⟨x,hx,Yu⟩;rw[hin]at this;cases this
    have HA:Hid (∀j y,j<k+1->g[j]?=an y->(y.size:Int)=o/\y∉g.take j):=gH;clear zE t;go_wp2;refine AP Yr Yr ?_
    repeat (go_big_quiet_step (exact Aw.calls (HH _)))
    refine wpQuiet_nil ?_;intro n;obtain⟨zB,zA,z⟩:=Yw (AW.ah v n.h Y),Yw (Cu.ah u n.h N),d.ag (n.h.ai d.size);clear U V X F D E G H I J O M;go_wp2;exact⟨⟨k+1,Yv,Yn,HA,zB,zA,z⟩,Ys⟩
   |true=>
    rw[hin]at HH;have HN:Hid (x∈g.take k):=gH;clear t;go_wp2;refine AP Yr Yr ?_
    repeat (go_big_quiet_step (exact Aw.calls (HH _)))
    refine wpQuiet_nil ?_;intro n;have z:=d.ag (n.h.ai d.size);clear U V X F D E G H I J O M;go_wp2;go_ret;exact Av.no (P:=Ba o c p f l q m g) (λZ=>(Li.1 Z.dw.nd) k x S HN) z
  have hn:((x.size:Int) !=o)=bg:=Yt;go_wp2;refine AP Yr Yr ?_
  repeat (go_big_quiet_step (fail))
  refine wpQuiet_nil ?_;intro n;have z:=d.ag (n.h.ai d.size);clear U V X F D E G H I J O M;go_wp2;go_ret;exact Av.no (P:=Ba o c p f l q m g) (λZ=>h (Z.dw.m x (Zs S))) z
 have HS:Hid (PB o m g):=by refine⟨h2,h3,zF,λs hs=> ?_,Li.2 λj x hx=>(t j x (Dl (Zw hx).1) hx).2⟩;obtain⟨j,hj,rfl⟩:=getElem_of_mem hs;exact(t j _ Yv (Zv hj)).1
 clear t zF;by_cases p0:p=0
 .subst p0;by_cases e1:eh m=0
  .by_cases A:eh g=0
   .by_cases R:f=0
    .by_cases e4:l=0
     .go_wp2;go_ret;exact Av.yes (P:=Ba o c 0 f l q m g) ⟨h1.1,h1.2,HS,dp ⟨rfl,B8 e1,B8 A,R,e4⟩⟩ d
     have zS:(l==0)=bq:=Yt;go_wp2;go_ret;exact Av.no (P:=Ba o c 0 f l q m g) (λh=>by have:=h.I;unfold EP at this;simp at this;have h9:=this.2.2.2;omega) d
    have zG:(f==0)=bq:=Yt;go_wp2;go_ret;exact Av.no (P:=Ba o c 0 f l q m g) (λh=>by have:=h.I;unfold EP at this;simp at this;have h9:=this.2.2.1;omega) d
   have zP:=beq_eq_false_iff_ne.2 Yv;go_wp2;go_ret;exact Av.no (P:=Ba o c 0 f l q m g) (λh=>by have:=h.I;unfold EP at this;simp at this;exact A gA) d
  have zO:=beq_eq_false_iff_ne.2 Yv;go_wp2;go_ret;exact Av.no (P:=Ba o c 0 f l q m g) (λh=>by have:=h.I;unfold EP at this;simp at this;exact e1 gA) d
 have zY:(p==0)=bq:=Yt;go_wp2_with fail;refine(CY f 0 c wr).ai ?_;rintro e w1 ⟨rfl,rfl⟩;by_cases e1:0<=f/\f<=c
 case neg=>rw[decide_eq_false e1];go_wp2;go_ret;exact Av.no (P:=Ba o c p f l q m g) (λh=>by rcases h.I with h|h|h;exact p0 h.1;exact e1 ⟨h.2.1,h.2.2.1⟩;exact e1 ⟨h.2.1,h.2.2.1⟩) d
 rw[decide_eq_true e1];have zX:=Jj Yv Yv;go_wp2_with fail;refine(CY l 1 (f+1) _).ai ?_;rintro e w1 ⟨rfl,rfl⟩;by_cases A:1<=l/\l<=f+1
 .rw[decide_eq_true A];by_cases p3:p=2
  .subst p3;go_wp2;go_ret;exact Av.yes (P:=Ba o c 2 f l q m g) ⟨h1.1,h1.2,HS,eb (eb ⟨rfl,e1.1,e1.2,A.1,A.2⟩)⟩ d
  have zZ:(p==2)=bq:=Yt;obtain rfl:p=1:=Yv;by_cases R:l=f+1
  .have zG:(l==f+1)=bg:=Yt;go_wp2;go_ret;exact Av.yes (P:=Ba o c 1 f l q m g) ⟨h1.1,h1.2,HS,eb (dp ⟨rfl,e1.1,e1.2,R⟩)⟩ d
  have zG:(l==f+1)=bq:=Yt;go_wp2;go_ret;exact Av.no (P:=Ba o c 1 f l q m g) (λh=>by have:=h.I;unfold EP at this;simp at this;exact R this.2.2) d
 rw[decide_eq_false A];go_wp2;go_ret;exact Av.no (P:=Ba o c p f l q m g) (λh=>by rcases h.I with h|h|h;exact p0 h.1;exact A Yv;exact A h.2.2.2) d
end
theorem Aak{j:Zk}(c d:Nat){g:Zl}(r:Ab w w.1.size j g)(E:Ab w w.1.size l f)(M:j=ba->eh g=0/\c=0)(N:l=ba->eh f=0/\d=0)(X:eh g<=1048576)(O:eh f<=1048576)(D:∀s∈g,s.size<=1048576)(n:∀s∈f,s.size<=1048576):
 D8 147 #[ct #[C3 j (eh g) c,C3 l (eh f) d]] w λe b=>∃v,e=C5 (ct #[v,Zb])/\
  eo b w.1.size 9 1 v (eh (Ap g f (eh f))) ((Ap g f (eh f)).map string)/\Zz w b:=by
 have⟨G,F,z,A,B⟩:=info_parts Ck;have q:bs w.1.size w ((w.alloc (ca #[C2 j g c,C2 l f d] 25)).alloc (ca #[Zb,Zb] 25)):=gB;delta D8;go_in;go_wp2_with fail;refine(EE _ c d f (Zx) (r.X q) (E.X q) X O D n).ai ?_;rintro e b ⟨rfl,h⟩;have J:=q.ag (h.ai Yt);have u:=h.size;simp at u;have U:ek b (Zd (w.1.size) 0)=an (C2 j g c):=by rw[h.cell (p:=⟨w.1.size,0,ba⟩) Yt];simp
 have V:ek b (Zd (w.1.size) 1)=an (C2 l f d):=by rw[h.cell (p:=⟨w.1.size,1,ba⟩) Yt];simp
 have r0:ek b (Zd (w.1.size+1) 0)=an Zb:=by rw[h.cell (p:=⟨w.1.size+1,0,ba⟩) Yu];simp
 have t:ek b (Zd (w.1.size+1) 1)=an Zb:=by rw[h.cell (p:=⟨w.1.size+1,1,ba⟩) Yu];simp
 have y:∀o,el b ⟨w.1.size+1,o,ba⟩=bq:=λo=>by rw[h.frozen (p:=⟨w.1.size+1,o,ba⟩) Yu];simp[go_sem]
 clear h;cases hok:BG g f with
 |false=>
  go_wp2;refine C1 (ct #[Zb,Zb]) (by simp[results,results147,go_sem,r0,t]) ⟨Zb,rfl,?_,?_⟩
  .simp only[Ap,hok];exact ownsRow_nil _ _ _ _
  exact(J.setCell (p:=⟨w.1.size+1,0,ba⟩) Yu _).setCell (p:=⟨w.1.size+1,1,ba⟩) Yu _
 |true=>
  have x:bs w.1.size w (b.alloc (ca #[] 9)):=gB;have a0:ek (b.alloc (ca #[] 9)) (Zd (w.1.size) 0)=an (C2 j g c):=by rw[((Below.refl b.1.size b).alloc (Zx) _).cell (p:=⟨w.1.size,0,ba⟩) Yt];exact U
  have Q:ek (b.alloc (ca #[] 9)) (Zd (w.1.size) 1)=an (C2 l f d):=by rw[((Below.refl b.1.size b).alloc (Zx) _).cell (p:=⟨w.1.size,1,ba⟩) Yt];exact V
  have S:ek (b.alloc (ca #[] 9)) (Zd (w.1.size+1) 0)=an Zb:=G9;have T:ek (b.alloc (ca #[] 9)) (Zd (w.1.size+1) 1)=an Zb:=by rw[((Below.refl b.1.size b).alloc (Zx) _).cell (p:=⟨w.1.size+1,1,ba⟩) Yt];exact t
  have W:∀o,el (b.alloc (ca #[] 9)) ⟨w.1.size+1,o,ba⟩=bq:=λo=>by rw[((Below.refl b.1.size b).alloc (Zx) _).frozen (p:=⟨w.1.size+1,o,ba⟩) Yt];exact y o
  have m:=(r.A x).bi;have i:eo (b.alloc (ca #[] 9)) (w.1.size+2) 9 1 (Yz b.1.size 0 0) 0 (([]:Zl).map string):=ownsRow_lit b #[] 0 Yv Yo rfl;have h:Ap g f (eh f)=g++f:=by simp[Ap,hok]
  have C:=Yw (Zn m i);have I:=Yw h;clear m i h r D n r0 t y;go_wp2
  go_region_law (first
   |(refine Az _ rfl (.tmp 7) (.tmp 9) 23 rfl (w.1.size+2) 9 G Zc 16 underlying23 F z A B rfl b.1.size 0 0 [] rfl (by exact C.2) j (eh g) c g rfl rfl M (by exact C.1) Yo Yv Yt ?_;intro H r w3 m h _ _;simp only[Ay,nil_append]at m;have zB:=h.size;have l1:=h.cell (a:=⟨w.1.size,1,ba⟩) (by exact Q) Yt;have q0:=h.cell (a:=⟨w.1.size+1,0,ba⟩) (by exact S) Yt;have q1:=h.cell (a:=⟨w.1.size+1,1,ba⟩) (by exact T) Yt;have qf:∀o,el w3 ⟨w.1.size+1,o,ba⟩=bq:=λo=>(h.frozen_far ⟨w.1.size+1,o,ba⟩ Yt Yt).ag (W o);have n:=x.drew.grown h Yt (λk D=>by cases D;omega);have P:=n.size;have zA:=(m.lt H rfl).1)
   |(refine Az _ rfl (.tmp 10) (.tmp 12) 23 rfl (w.1.size+2) 9 G Zc 16 underlying23 F z A B rfl H (eh g) r g rfl m l (eh f) d f rfl rfl N (E.A n).bi Yo Yv Yv ?_;intro Y t w4 y i _ _;have zC:=i.size;have Z:=i.cell (a:=⟨w.1.size+1,0,ba⟩) q0 Yt;have s:=i.cell (a:=⟨w.1.size+1,1,ba⟩) q1 Yt;have pf:∀o,el w4 ⟨w.1.size+1,o,ba⟩=bq:=λo=>(i.frozen_far ⟨w.1.size+1,o,ba⟩ Yt Yt).ag (qf o);have K:=n.grown i Yv (λk D=>by cases D;omega)))
  all_goals
   have R:=Ek (L:=g++f) K (by rw[Am];exact y);have D:=Yw R;clear R m y h i E C;go_wp2;refine C1 (ct #[Yz Y (eh g+eh f) t,Zb]) (by simp[results,results147,go_sem,Z,s]) ⟨_,rfl,?_,D.2⟩;rw[I.o];exact D.1
