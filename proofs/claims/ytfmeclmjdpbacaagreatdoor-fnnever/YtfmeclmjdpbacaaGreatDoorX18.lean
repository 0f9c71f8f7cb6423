import Derived.Test.YtfmeclmjdpbacaaGreatDoorX14
set_option maxRecDepth 100000
set_option maxHeartbeats 16000000
open Option renaming some->ai,none->an
open Bool renaming true->ay,false->ba
open Go.RowKit renaming Below->bg
open Go.Obj renaming cells->bs
open Go.Value renaming slice->bx,agg->ca,ownBlock->ef
open Or renaming inl->cr,inr->ct
open List renaming length->ed,toArray->ee
open Go.World renaming cell?->eh,ownsRow->ej,setCell->el
open Go renaming maxLen->eo
namespace Go.Proofs.YtfmeclmjdpbacaaGreatDoor
open ChangeShapes WideShapes ChangeAt RowKit _root_.Go.Proofs.Tryz List World Value
variable{a b j c q f g i e p o r l:Int}{z x:Kd×Value}{k m n d R:Nat}{s:Zi}{w:Zh}{P L:Value}{u:C6}
theorem MO(w:Zh)(b:Nat)(v:Dg)(d:List (Kd×Value))(B:ej w b 50 4 v (ed d) (Af kC d))(z:Kd×Value)(D:∃a n c,z.2=Cx a n c)(A:ed d<=1000000)(m:b<=w.1.size)(o:TypeId):
 ∃g f i,(Builtin.append_ #[26,26] o #[v,Yz w.1.size 1 1]).run prog (w.alloc (bs #[C0 z.1.sum,Zg z.1.born,C0 z.1.Q,z.2] 50))=.ok (Yz g (ed d+1) f) i/\ej i b 50 4 (Yz g (ed d+1) f) (ed (d++[z])) (Af kC (d++[z]))/\w.grownBy i (ef v)/\(ef v=ai g\/g=w.1.size+1):=by
 have⟨E,y,q,r,s⟩:=info_parts Jv;have p:=Ai B (Ae.alloc (Zx) (bs #[C0 z.1.sum,Zg z.1.born,C0 z.1.Q,z.2] 50));have x:∀j u,(Af kC [z])[j]?=ai u->eh (w.alloc (bs #[C0 z.1.sum,Zg z.1.born,C0 z.1.Q,z.2] 50)) ((⟨w.1.size,0,an⟩:Addr).add j)=ai u:=by intro j u k;rw[A1,Ax];exact(Aa.new w [C0 z.1.sum,Zg z.1.born,C0 z.1.Q,z.2] 50 j u (by simpa [Af,kC]using k)).1
 obtain⟨F,i,C,l,t,_,h⟩:=run_append_own_at (P:=prog) (w.alloc (bs #[C0 z.1.sum,Zg z.1.born,C0 z.1.Q,z.2] 50)) b 26 o 50 E _ 4 64 underlying26 y q r s rfl Yq v (ed d) (Af kC d) p ⟨w.1.size,0,an⟩ 1 1 (Af kC [z]) (by simp[Af,kC]) x (by intro u k;obtain⟨a,n,c,e⟩:=D;simp[Af,kC,e]at k;rcases k with rfl|rfl|rfl|rfl<;>rfl) Yo Yv Yt;obtain⟨g,f,rfl,_,_⟩:=Cv l (λe=>by subst e;rcases l.2 with⟨_,A⟩|⟨_,_,_,e,_⟩<;>first|omega|cases e);refine⟨g,f,i,C,?_,(grownBy_alloc w _ _).ag t,?_⟩
 .rw[Gx,Am];exact l
 rcases h with h|h
 .exact cr h.symm
 right;simpa [ownBlock]using h
def zD(zs:List (Kd×Value))(s:Zi):Bool:= !(zs.all (fun z=>less z.1.sum s))
def zQ(zs:List (Kd×Value))(one:Kd×Value):List (Kd×Value):=zs.filter (fun z=>less z.1.sum one.1.sum)++(if zD zs one.1.sum then [one]else [])++zs.filter (fun z=> !(less z.1.sum one.1.sum))
def CZ(zs:List (Kd×Value))(one:Kd×Value):List (Kd×Value):=zs.filter (fun z=>less z.1.sum one.1.sum)++[one]++zs.filter (fun z=> !(less z.1.sum one.1.sum))
theorem XO(b:List (Kd×Value))(a:Kd×Value):(CZ b a).map (·.1)=DS (b.map (·.1)) a.1:=by unfold CZ DS;rw[map_append,map_append,filter_map,filter_map];rfl
theorem Ma{b:List (Kd×Value)}{a:Kd×Value}(h:z∈CZ b a):z∈b\/z=a:=by
 unfold CZ at h;simp only[A5,A8,mem_singleton]at h;rcases h with(h|h)|h
 .exact cr h.1
 .exact ct h
 exact cr h.1
theorem Lc{a:List (Kd×Value)}(s:Zi)(c:a[k]?=ai x):zD (a.take (k+1)) s=(zD (a.take k) s|| !(less x.1.sum s)):=by obtain⟨b,rfl⟩:=Zw c;unfold zD;rw[Zu b,all_append];simp
theorem JO{a:List (Kd×Value)}(h:zD a s=ba):a.filter (λz=> !(less z.1.sum s))=[]:=by
 rw[filter_eq_nil_iff];intro x b;have:less x.1.sum s=ay:=by unfold zD at h;simp only[Bool.not_eq_false']at h;exact all_eq_true.1 h x b
 simp[this]
theorem XP{b:List (Kd×Value)}(a:Kd×Value)(f:b[k]?=ai x)(c:zD (b.take k) a.1.sum=ba)(e:less x.1.sum a.1.sum=ay):zQ (b.take (k+1)) a=zQ (b.take k) a++[x]:=by have d:=Lc a.1.sum f;rw[c,e]at d;unfold zQ;rw[JO c,JO gA,d,c];obtain⟨g,rfl⟩:=Zw f;rw[Zu g,filter_append];simp[e]
theorem Afc{b:List (Kd×Value)}(a:Kd×Value)(g:b[k]?=ai x)(c:zD (b.take k) a.1.sum=ba)(f:less x.1.sum a.1.sum=ba):zQ (b.take (k+1)) a=zQ (b.take k) a++[a]++[x]:=by have d:=Lc a.1.sum g;rw[c,f]at d;have e:=JO c;unfold zQ;rw[e,d,c];obtain⟨h,rfl⟩:=Zw g;rw[Zu h,filter_append,filter_append,e];simp[f]
theorem Abq{d:List (Kd×Value)}(c:Kd×Value)(g:(d.map (·.1.sum)).Pairwise (λa b=>less a b=ay))(n:d[k]?=ai x)(i:zD (d.take k) c.1.sum=ay):zQ (d.take (k+1)) c=zQ (d.take k) c++[x]:=by
 have m:=Lc c.1.sum n;rw[i,Bool.true_or]at m;obtain⟨p,rfl⟩:=Zw n;have⟨y,s,l⟩:∃y∈d.take k,less y.1.sum c.1.sum=ba:=by unfold zD at i;simpa using i
 obtain⟨j,q⟩:=A3 s;have⟨o,e⟩:=Zw q;rw[Cl]at o;rw[getElem_take]at e;have f:=pairwise_iff_getElem.1 g j k Yt Yt Yv;rw[getElem_map,getElem_map,e]at f;have r:less d[k].1.sum c.1.sum=ba:=by
  cases h:less d[k].1.sum c.1.sum with
  |false=>rfl
  |true=>rw[CE f h]at l;cases l
 unfold zQ;rw[m,i,Zu p,filter_append,filter_append];simp[r]
theorem Ady{b:List (Kd×Value)}(a:Kd×Value)(c:zD b a.1.sum=ay):zQ b a=CZ b a:=by unfold zQ CZ;rw[c];rfl
theorem Afd{b:List (Kd×Value)}(a:Kd×Value)(c:zD b a.1.sum=ba):zQ b a++[a]=CZ b a:=by unfold zQ CZ;rw[c,JO c];simp
theorem Vy(b:List (Kd×Value))(a:Kd×Value):ed (zQ b a)<=ed b+1:=by
 have h:∀(l:List (Kd×Value)),ed (l.filter (λz=>less z.1.sum a.1.sum))+ed (l.filter (λz=> !(less z.1.sum a.1.sum)))=ed l:=by
  intro l;induction l with
  |nil=>rfl
  |cons y l ih=>cases hl:less y.1.sum a.1.sum<;>simp[hl]<;>omega
 have:=h b;unfold zQ;rw[Am,Am];split<;>simp<;>omega
theorem Nz{a:C5}(h:As a s):∃(i:Nat) (k:Kd),Df a s=(i:Int)/\a[i]?=ai k/\k.sum=s:=by
 rcases Fz a s with⟨_,d⟩|⟨i,k,e,b,c⟩
 .exact absurd h d
 exact⟨i,k,e,b,c⟩
theorem Js{a:C5}(h:¬As a s):Df a s<0:=by
 rcases Fz a s with⟨e,_⟩|⟨i,k,e,b,c⟩
 .omega
 exact absurd ⟨k,Zs b,c⟩ h
def TH(lbase b0:Nat)(wd now given births num:Int)(zs:List (Kd×Value))(P L:Value)(ls:List Ld)(text:Zi)(refs:Zl)(w:Zh)(e:Ending)(w':Zh):Prop:=
 Tn (ef L).toList w w'/\(
  (∃c a b,GC wd given births (zs.map (·.1)) ls text refs c a b/\e=.returned (ca (ee (Cp c a b))))\/
  (∃ks1 aj g gc zs1 g2 c2,(∀r∈refs,As (zs.map (·.1)) r)/\CP wd births (zs.map (·.1)) text refs ks1 aj/\ed ls<200/\given<1000000000/\
    e=.returned (ca #[Ze,Zg wd,Zg now,Zg (given+1),Zg aj,bx (ai ⟨g,0,an⟩) (ed zs1) gc,P,bx (ai ⟨g2,0,an⟩) (ed ls+1) c2,.string (Bm text refs wd),Zg (given+1),Zc,Zc])/\
    zs1.map (·.1)=ks1/\BO w' g 0 zs1/\g<w'.1.size/\((g=b0/\zs1=zs)\/w.1.size<=g)/\(∀z∈zs1,z∈zs\/∃ad n rc,z.2=bx (ai ad) n rc/\w.1.size<=ad.block)/\(ef L=ai g2\/w.1.size<=g2)/\ej w' lbase 112 3 (bx (ai ⟨g2,0,an⟩) (ed ls+1) c2) (ed (ls++[(⟨given+1,Bm text refs wd,now+num⟩:Ld)])) (Af lC (ls++[(⟨given+1,Bm text refs wd,now+num⟩:Ld)]))/\g≠g2/\∀z∈zs1,∀ad n rc,z.2=bx (ai ad) n rc->z.1.C≠[]->ad.block≠g2))
theorem BO.O{t:Zh}{b:Nat}{u:List (Kd×Value)}{V:List Nat}(h:BO w b m u)(q:Tn V w t)(F:b<w.1.size)(E:b∉V)(H:∀z∈u,∀d n r,z.2=Cx (ai d) n r->z.1.C≠[]->d.block∉V):BO t b m u:=by
 intro i z l;have⟨⟨A,B,C,D⟩,d,r,v,p⟩:=h i z l;have g:∀o,eh t (Zd b o)=eh w (Zd b o):=λo=>cell?_of_block (a:=⟨b,o,an⟩) (q.block b F E);refine⟨⟨(g _).ag A,(g _).ag B,(g _).ag C,(g _).ag D⟩,d,r,v,?_⟩;by_cases hre:z.1.C=[]
 .exact cr hre
 rcases p with p|⟨f,c,e,k,y⟩
 .exact cr p
 cases e;have x:f∉V:=H z (Zs l) _ _ _ v hre;exact ct ⟨f,c,rfl,Zr k q.size,λj s G=>(cell?_of_block (a:=⟨f,c+j,an⟩) (q.block f k x)).ag (y j s G)⟩
theorem BO.dh{b j:Nat}{f:List (Kd×Value)}(h:BO w b j f)(p:z∈f){c:Addr}{q:Nat}(l:z.2=Cx (ai c) n q)(o:z.1.C≠[]):c.block<w.1.size:=by
 have⟨i,m⟩:=A3 p;have⟨_,r,s,d,a⟩:=h i z m;rw[l]at d;cases d;rcases a with a|⟨t,k,e,g,_⟩
 .exact absurd a o
 cases e;exact g
theorem Agj{b:Nat}{f g i j:Dg}(h:Aa w b [f,g,i,j])(a c d e:Dg):Aa (el (el (el (el w (Zd b 0) a) (Zd b 1) c) (Zd b 2) d) (Zd b 3) e) b [a,c,d,e]:=
 (((h.set 0 a).set 1 c).set 2 d).set 3 e
theorem XQ{a:Nat}{e:TypeId}{size:Nat}{v:Dg}{d:Zj}(h:ej w a e size v n d){b:Nat}(c:∀g,ef v=ai g->g≠b)(f i j k:Dg):ej (el (el (el (el w (Zd b 0) f) (Zd b 1) i) (Zd b 2) j) (Zd b 3) k) a e size v n d:=
 BU (BU (BU (BU h c 0 _) c 1 _) c 2 _) c 3 _
theorem TI{B:Nat}{a:Zh}(h:bg B a w){b:Nat}(c:B<=b)(d e f g:Dg):bg B a (el (el (el (el w (Zd b 0) d) (Zd b 1) e) (Zd b 2) f) (Zd b 3) g):=
 (((h.setCell c d).setCell c e).setCell c f).setCell c g
structure ZK (w:Zh) (lbase:Nat) (wd now given births num:Int) (ta:Zk) (b:Nat) (zs:List (Kd×Value)) (la:Zk) (lc:Nat) (ls:List Ld) (text:Zi) (refs:Zl) (ra:Zk) (rc:Nat):Prop where
 tb:ta=ai ⟨b,0,an⟩\/zs=[]
 rn:ra=an->ed refs=0/\rc=0
 z:BO w b 0 zs
 bl:b<w.1.size
 lo:ej w lbase 112 3 (bx la (ed ls) lc) (ed ls) (Af lC ls)
 lb:lbase<=w.1.size
 bL:ai b≠ef (Value.slice la (ed ls) lc)
 zL:∀z∈zs,∀ad n rc,z.2=bx (ai ad) n rc->z.1.C≠[]->ai ad.block≠ef (Value.slice la (ed ls) lc)
 r:Ad w w.1.size ra refs
 ok:Dv wd (zs.map (·.1))
 w1:1<=wd
 cf:∀z∈zs,z.1.Q.size<=eo
 tl:text.size<=eo
 rl:ed refs<=1000
 b0:0<=births
 b1:births<=1000000000
 g0:0<=given
 g1:given<=1000000000
 n0:0<=now
 n1:now<=1000000000
 t0:0<=num
 t1:num<=1000000000
 nl:ed ls<=200
theorem Abr(b:Zi)(a:Zl)(c:Int)(h:1<=c):((Bm b a c).size:Int)=c:=Jw ⟨⟨#[]⟩,0,b,a⟩ c h
theorem Vz(O:Nat)(F H l d kd zB:Int)(ta:Zk)(b tc:Nat)(m:List (Kd×Value))(V I:Zk)(pn Z J:Nat)(C:C6)(s nm j:Zi)(f:Zl)(ra:Zk)(rc:Nat)(w:Zh)(h:ZK w O F H l d zB ta b m I J C j f ra rc):
 D4 122 #[ca (Yg F H l d ta (ed m) tc V pn Z I (ed C) J),ca (Ye kd s nm zB j ra (ed f) rc)] w (TH O b F H l d zB m (Cx V pn Z) (Cx I (ed C) J) C j f w):=by
 have⟨W,hW⟩:=Ag (((w.alloc (bs (Yg F H l d ta (ed m) tc V pn Z I (ed C) J) 30)).alloc (bs (Ye kd s nm zB j ra (ed f) rc) 117)).alloc (bs Yd 81));obtain⟨bW,qI,x0⟩:=(Bq hW).1,(Bq hW).2.1,(Bq hW).2.2.1;have xe:Aa W (w.1.size+1) (Xw kd s nm zB j ra (ed f) rc):=by have M:=Aa.new (w.alloc (bs (Yg F H l d ta (ed m) tc V pn Z I (ed C) J) 30)) (Xw kd s nm zB j ra (ed f) rc) 117;rw[Aq]at M;rw[hW];exact Aa.A M (Zy)
 have x1:Aa W (w.1.size+2) z12:=by have M:=Aa.new ((w.alloc (bs (Yg F H l d ta (ed m) tc V pn Z I (ed C) J) 30)).alloc (bs (Ye kd s nm zB j ra (ed f) rc) 117)) z12 81;rw[Aq,Aq]at M;rw[hW];exact M
 have HX:Hid (∀X,Zz W X->Aa X w.1.size (Yh F H l d ta (ed m) tc V pn Z I (ed C) J)/\Aa X (w.1.size+1) (Xw kd s nm zB j ra (ed f) rc)/\Aa X (w.1.size+2) z12/\Zz w X/\BO X b 0 m/\Ad X X.1.size ra f):=λX Q=>by have hb:bg w.1.size w X:=bW.ag (Q.ah bW.size);exact⟨Aa.A x0 Q,Aa.A xe Q,Aa.A (v:=Ze) x1 Q,hb,h.z.A hb h.bl,Ad.ah (Ad.A h.r hb) hb.size⟩
 have y:=Yw h;have pG:=Abr j f F h.w1;have vC:Hid (W.1.size=w.1.size+3):=qI;obtain⟨xK,pE,qB⟩:=h.bl,h.rl,h.ok.len;rw[A7]at qB;have hF:Hid (∀X (r:Zi),Zz W X->D4 125 #[ca (Yg F H l d ta (ed m) tc V pn Z I (ed C) J),C0 r] X λe w'=>e=C1 (Zg (Df (m.map (·.1)) r))/\Zz X w'):=λX r Q=>by
  have qC:BH X X.1.size ta (m.map (·.1)):=by
   rcases y.tb with e|e
   .rw[e];exact(HX X Q).2.2.2.2.1.fq (by have M:=Q.size;have h2:=vC.o;omega)
   rw[e];exact cr rfl
  have M:=FK F H l d tc (Cx V pn Z) (Cx I (ed C) J) r qC (Zx) (by rw[A7];omega);rw[A7]at M;exact M
 have HW:=Yw hW;obtain⟨tY,v0,_⟩:=Yw (Kh j rc F (Ad.ah (Ad.A h.r bW) bW.size) Yv h.tl),x0 0 _ rfl;obtain⟨e4,e5⟩:=Aa.c2 xe 4 5;clear hW bW x0 xe x1 h;delta D4;go_in;go_upto_region 1 with fail;rw[<-HW.o];clear HW;go_wp2_with fail;refine tY.Ak ?_;rintro e w1 ⟨rfl,vW⟩;have tU:Hid (Zz W w1):=vW;have vT:=Yw (LJ (AH j f F) F w1 (Km _ _ _) y.w1 y.ok.w8);have sH:CV (AH j f F).data.toList F.toNat=Bm j f F:=rfl;rw[sH]at vT;clear sH tY v0 e4 e5;obtain⟨v0,_⟩:=(HX w1 vW).1 0 _ rfl;generalize hFF:AH j f F=FF at *
 generalize hSS:Bm j f F=SS at *
 go_wp2_with fail;refine vT.Ak ?_;rintro e w2 ⟨rfl,vG⟩;have sZ:Hid (Zz W w2):=tU.ag (vG.ah tU.size);clear vT v0 vW vG;go_wp2;go_loopw [7] (λi wr=>∃(k:Nat),k<=ed f/\i=Zg k/\Hid ((∀r∈f.take k,As (m.map (·.1)) r)/\Zz W wr)) (λi _=>ed f -(intOf i).toNat)
 case atStart=>exact⟨0,Aw _,rfl,⟨λr hr=>by simp at hr,sZ⟩⟩
 obtain⟨k,hk,rfl,HI⟩:=hrel;have⟨x0,xe,x1,U,hZ,N⟩:=HX wr HI.2;have vO:Hid (Zz w wr):=U;obtain⟨e5,_⟩:=xe 5 _ rfl;by_cases hlt:k<ed f
 .obtain⟨rb,qT,ha,qH,sR⟩:=N.at hlt;subst ha;have HG:Hid (f[k]?=ai f[k]):=Zv hlt;have c0:=sR k _ HG;have rJ:Hid (f.take (k+1)=f.take k++[f[k]]):=Zu hlt;clear sR;generalize f[k]=r at *
  have D0:bg wr.1.size wr wr.drew:=Ae.drew;have rB:bg W.1.size W wr.drew:=HI.2.ag (D0.ah HI.2.size);have xA:=Yw (hF wr.drew r rB);have pF:rb<wr.1.size:=qH;obtain⟨v0,v1,v2,v3,v4,v5,v6⟩:=Aa.c7 x0 0 1 2 3 4 5 6;have rK:Hid (Aa wr (w.1.size+2) z12):=x1;clear x0 xe x1 hZ N U;go_wp2;go_region_with (go_at_call 125;refine xA.Ak ?_;rintro e u ⟨rfl,xJ⟩)
  all_goals
   have zW:Hid (Zz wr u):=D0.ag xJ;clear xJ c0 e5 v0 v1 v2 v3 v4 v5 v6 xA;by_cases hth:As (m.map (·.1)) r
   .obtain⟨fi,fk,xL,_,_⟩:=Nz hth;rw[xL];have yE:Hid (As (m.map (·.1)) r):=hth;clear hth xL;go_wp2;refine⟨⟨k+1,Yv,Yn,⟨?_,HI.2.ag (zW.ah HI.2.size)⟩⟩,Ys⟩;rw[rJ.o];intro r' yM;rcases A5.1 yM with yM|yM
    .exact HI.1 r' yM
    simp at yM;rw[yM];exact yE.o
   have rY:=Js hth;have yE:Hid (¬As (m.map (·.1)) r):=hth;generalize Df (m.map (·.1)) r=fi at *
   obtain⟨⟨y0,q0⟩,⟨y1,q1⟩,⟨y2,q2⟩,⟨y3,q3⟩,⟨y4,q4⟩,⟨y5,q5⟩,⟨y6,q6⟩,⟨y7,q7⟩,⟨y8,q8⟩,⟨y9,q9⟩,⟨zO,yO⟩,zP,yP⟩:=Br (Aa.A (v:=Ze) rK zW);clear hth;go_wp2;refine Co (ca (ee (Cp 2 ⟨#[]⟩ ⟨#[]⟩))) D8 ?_;have rW:bg w.1.size w u:=vO.ag (zW.ah vO.size);exact⟨Tn.fresh (Tn.of rW) (Bw u (w.1.size+2) _ _ _ _ _ _ _ _ _ _ _ _) Yv,cr ⟨2,_,_,cr ⟨λzV=>yE (zV r (Zs HG)),rfl,rfl,rfl⟩,rfl⟩⟩
 obtain rfl:k=ed f:=Yv;have zV:=HI.1;rw[Zt (Zx)]at zV;have zT:Hid (∀r∈f,As (m.map (·.1)) r):=zV;have vM:Hid (Zz W wr):=HI.2;have xA:=Yw (hF wr SS HI.2);obtain⟨v0,v1,v2,v3,v4,v5,v6⟩:=Aa.c7 x0 0 1 2 3 4 5 6;clear zV HI x0 xe x1 U hZ N;go_wp2_with fail;refine xA.Ak ?_;rintro e u ⟨rfl,xJ⟩;have zW:Hid (Zz W u):=vM.ag (xJ.ah vM.size);clear v0 v1 v2 v3 v4 v5 v6 xA xJ vM e5 vO;have⟨x0,xe,x1,U,hZ,N⟩:=HX u zW;by_cases hth:As (m.map (·.1)) SS
 .obtain⟨i,k,xL,vY,sM⟩:=Nz hth;rw[xL];rw[getElem?_map]at vY;obtain⟨z,yC,rfl⟩:=Option.map_eq_some_iff.1 vY;obtain rfl:ta=ai ⟨b,0,an⟩:=y.tb.resolve_right (λe=>by rw[e]at yC;simp at yC);have⟨⟨_,_,c2,c3⟩,xQ,xR,xO,sS⟩:=hZ i z yC;rw[xO]at c3;rw[Ax]at c2 c3;have pA:(i:Int)<ed m:=C8 (Zw yC).1;have D3:bg u.1.size u u.drew:=Ae.drew;have tW:=Yw (Kh z.1.Q xR F (Ad.ah (Ad.A sS D3) D3.size) (C8 (y.ok.C z.1 (mem_map.2 ⟨z,Zs yC,rfl⟩)).1) (y.cf z (Zs yC)));have vA:Hid (z∈m/\z.1.sum=SS):=⟨Zs yC,sM⟩;obtain⟨v0,v4⟩:=Aa.c2 x0 0 4;have tS:b<u.1.size:=Zr xK U.size;clear x0 xe x1 U hZ N hth xL vY yC xO sS sM;go_upto_region 10 with fail;go_region_with (go_at_call 43;refine tW.Ak ?_;rintro e w4 ⟨rfl,sJ⟩)
  all_goals
   have tV:Hid (Zz W w4):=zW.ag ((D3.ag sJ).ah zW.size);clear sJ c2 c3 v0 v4 tW;have⟨x0,xe,x1,U,hZ,N⟩:=HX w4 tV;by_cases hsame:AH z.1.Q z.1.C F=FF
   case neg=>
    have vJ:((AH z.1.Q z.1.C F).toList==FF.toList)=ba:=BZ hsame;have B:((AH z.1.Q z.1.C F).toList !=FF.toList)=ay:=(by simp[bne,vJ]);have rF:Hid (GC F l d (m.map (·.1)) C j f 3 (AH z.1.Q z.1.C F) FF):=ct ⟨zT,cr ⟨z.1,mem_map.2 ⟨z,vA.1,rfl⟩,by rw[hSS];exact vA.2,by rw[hFF];exact hsame,rfl,rfl,hFF.symm⟩⟩;have⟨⟨y0,q0⟩,⟨y1,q1⟩,⟨y2,q2⟩,⟨y3,q3⟩,⟨y4,q4⟩,⟨y5,q5⟩,⟨y6,q6⟩,⟨y7,q7⟩,⟨y8,q8⟩,⟨y9,q9⟩,⟨zO,yO⟩,zP,yP⟩:=Br x1;have rC:Hid (Zz w w4):=U;clear hsame x0 xe x1 U hZ N;generalize AH z.1.Q z.1.C F=GG at *
    go_wp2;refine Co (ca (ee (Cp 3 GG FF))) D8 ?_;exact⟨Tn.fresh (Tn.of rC) (Bw w4 (w.1.size+2) _ _ _ _ _ _ _ _ _ _ _ _) Yv,cr ⟨3,_,_,rF,rfl⟩⟩
   have B:(FF.toList !=FF.toList)=ba:=Yu;rw[hsame];have xZ:Hid (CP F d (m.map (·.1)) j f (m.map (·.1)) d):=cr ⟨z.1,mem_map.2 ⟨z,vA.1,rfl⟩,by rw[hSS];exact vA.2,by rw[hsame,hFF],rfl,rfl⟩;have vN:=Yw x0;have vQ:=Yw xe;have xD:Hid (Aa w4 (w.1.size+2) z12):=x1;have vR:Hid (ej w4 O 112 3 (Cx I (ed C) J) (ed C) (Af lC C)):=Ai y.lo U;have xM:w.1.size+3<=w4.1.size:=(by have M:=tV.size;have h2:=vC.o;omega);have vU:Hid (Tn (ef (Cx I (ed C) J)).toList w w4):=Tn.of U;have rL:Hid (BO w4 b 0 m):=hZ;have yS:b<w4.1.size:=Zr xK U.size;clear x0 xe x1 U hZ N hsame;have xB:=Yw (Jf F H l (d) (ai ⟨b,0,an⟩) V I (ed (m)) tc pn Z J C SS zB vR (Zm y.lb (Zm (Nat.le_add_right _ 3) xM)) (C8 y.nl) y.g0 y.g1 y.n0 y.n1 y.t0 y.t1);obtain⟨⟨l0,l1,l2,l3,l4,l5,l6⟩,m3,_⟩:=Aa.c7 vN 0 1 2 3 4 5 6,vQ 3 _ rfl;go_wp2_with fail;refine xB.Ak ?_;rintro e P ⟨zM,yU⟩;have yF:∀g,ef (Cx I (ed C) J)=ai g->g<w.1.size:=λg hg=>(Ab y.lo hg).2;have yA:Aa P (w.1.size+2) z12:=Aa.same xD (zM.block _ xD.lt (λe=>by have:=yF _ (C9 e);omega));have qD:w.1.size+3<=P.1.size:=Zm xM zM.size;have xE:Hid (Tn (ef (Cx I (ed C) J)).toList w P):=vU.ag zM;clear l0 l1 l2 l3 l4 l5 l6 m3 xB;obtain⟨S,rfl⟩|⟨⟨vZ,vX⟩,g2,c2,rfl,yG,zH⟩:=yU
   .obtain⟨Y,hY⟩:=Du P (Yc 4) 81;have bY:bg P.1.size P Y:=(by rw[hY];exact Zy);have t:Aa Y P.1.size (Xs 4):=J5;have yR:=Aa.A (v:=Ze) yA bY;have HY:=Yw hY;have zF:Hid (Tn (ef (Cx I (ed C) J)).toList w Y):=xE.ag (Tn.of bY);have yI:Hid (ed C=200\/l=1000000000):=(by have M:=y.nl;have h2:=y.g1;show _\/_;omega);obtain⟨⟨⟨y0,q0⟩,⟨y1,q1⟩,⟨y2,q2⟩,⟨y3,q3⟩,⟨y4,q4⟩,⟨y5,q5⟩,⟨y6,q6⟩,⟨y7,q7⟩,⟨y8,q8⟩,⟨y9,q9⟩,⟨zO,yO⟩,zP,yP⟩,⟨u0,tH⟩,⟨u1,tI⟩,⟨u2,tJ⟩,⟨u3,tK⟩,⟨u4,tL⟩,⟨u5,tM⟩,⟨u6,tN⟩,⟨u7,tO⟩,⟨u8,tP⟩,⟨u9,tQ⟩,tF,yW⟩:=Br yR,t 0 _ rfl,t 1 _ rfl,t 2 _ rfl,t 3 _ rfl,t 4 _ rfl,t 5 _ rfl,t 6 _ rfl,t 7 _ rfl,t 8 _ rfl,t 9 _ rfl,t 10 _ rfl;obtain⟨tG,yX⟩:=t 11 _ rfl;clear bY t yR hY yA zM S;go_upto_region 30 with fail;rw[<-HY.o];clear HY;go_wp2;refine Co (ca (ee (Cp 4 ⟨#[]⟩ ⟨#[]⟩))) D8 ?_;exact⟨Tn.fresh zF (Bw Y (w.1.size+2) _ _ _ _ _ _ _ _ _ _ _ _) Yv,cr ⟨4,_,_,ct ⟨zT,ct (ct ⟨⟨_,_,xZ⟩,yI,rfl,rfl,rfl⟩)⟩,rfl⟩⟩
   obtain⟨Y,hY⟩:=Du P #[Ze,Zg F,Zg H,Zg (l+1),Zg (d),Yz b (ed m) tc,Cx V pn Z,Yz g2 (ed C+1) c2,Zc,Zg (l+1),Zc,Zc] 81;have bY:bg P.1.size P Y:=(by rw[hY];exact Zy);have t:Aa Y P.1.size [Ze,Zg F,Zg H,Zg (l+1),Zg (d),Yz b (ed m) tc,Cx V pn Z,Yz g2 (ed C+1) c2,Zc,Zg (l+1),Zc,Zc]:=J5;have yR:=Aa.A (v:=Ze) yA bY;have HY:=Yw hY;have zF:Hid (Tn (ef (Cx I (ed C) J)).toList w Y):=xE.ag (Tn.of bY);have xC:=Yw (Ai yG bY);have vG:P.1.size<Y.1.size:=t.lt;have yB:Tn (ef (Cx I (ed C) J)).toList w4 Y:=zM.ag (Tn.of bY);have xP:∀R,Tn [P.1.size,w.1.size+2] Y R->TH O b F H l d zB m (Cx V pn Z) (Cx I (ed C) J) C j f w (.returned (ca #[Ze,Zg F,Zg H,Zg (l+1),Zg (d),Yz b (ed m) tc,Cx V pn Z,Yz g2 (ed C+1) c2,C0 SS,Zg (l+1),Zc,Zc])) R:=λR N=>by
    have tD:BO R b 0 (m):=((rL.O yB yS (λe=>y.bL (Eq.symm (C9 e))) (λz T a n c e2 e3 zZ=>y.zL z T a n c e2 e3 (Eq.symm (C9 zZ)))).O N (Zr yS yB.size) Yt (λz T a n c e2 e3 zZ=>by simp at zZ;have:=y.z.dh T e2 e3;omega));have yT:g2≠P.1.size/\g2≠w.1.size+2:=by
     have M:=(Ab yG (g:=g2) rfl).2;rcases zH with zH|zH
     .have h4:=yF _ zH;omega
     omega
    have tB:=Ar xC (w':=R) (λq B=>N.block q (Ab xC B).2 (by
     have h3:g2=q:=(by simpa [ownBlock]using B);rw[<-h3];simp;exact yT))
    refine⟨?_,ct ⟨_,_,b,tc,m,g2,c2,zT,xZ,vZ,vX,by rw[hSS],rfl,tD,?_,cr ⟨rfl,rfl⟩,λz T=> cr T,(by rcases zH with h|h;exact cr h;exact ct Yv),by rw[hSS];exact tB,(by rcases zH with h|h;exact λe=>y.bL (by rw[h,e]);exact λe=>Yv),λz T a n c e2 e3 e=>by
     rcases zH with h|h
     .exact y.zL z T a n c e2 e3 (by rw[h,e])
     have:=y.z.dh T e2 e3;omega⟩⟩
    .exact⟨N.os.ag zF.os,N.tape.ag zF.tape,N.output.ag zF.output,Zm zF.size N.size,λq B hv=>(N.block q (Zr B zF.size) Yt).ag (zF.block q B hv)⟩
    exact Zr yS (Zm yB.size N.size)
   obtain⟨yQ,⟨⟨y0,q0⟩,⟨y1,q1⟩,⟨y2,q2⟩,⟨y3,q3⟩,⟨y4,q4⟩,⟨y5,q5⟩,⟨y6,q6⟩,⟨y7,q7⟩,⟨y8,q8⟩,⟨y9,q9⟩,⟨zO,yO⟩,zP,yP⟩,⟨u0,tH⟩,⟨u1,tI⟩,⟨u2,tJ⟩,⟨u3,tK⟩,⟨u4,tL⟩,⟨u5,tM⟩,⟨u6,tN⟩,⟨u7,tO⟩,⟨u8,tP⟩,u9,tQ⟩:=Yw xP,Br yR,t 0 _ rfl,t 1 _ rfl,t 2 _ rfl,t 3 _ rfl,t 4 _ rfl,t 5 _ rfl,t 6 _ rfl,t 7 _ rfl,t 8 _ rfl,t 9 _ rfl;obtain⟨⟨tF,yW⟩,tG,yX⟩:=t 10 _ rfl,t 11 _ rfl;clear bY t yR hY yA zM xP yG yB;go_upto_region 30 with fail;rw[<-HY.o];clear HY;go_wp2;refine Co (ca #[Ze,Zg F,Zg H,Zg (l+1),Zg (d),Yz b (ed m) tc,Cx V pn Z,Yz g2 (ed C+1) c2,C0 SS,Zg (l+1),Zc,Zc]) G0 ?_;refine yQ _ ?_
   repeat refine Tn.ag ?_ (Tn.set _ _ _ _ Yu)
   exact Tn.of Ae
 have rY:=Js hth;have xY:Hid (¬As (m.map (·.1)) SS):=hth;generalize Df (m.map (·.1)) SS=fi at *
 have qY:¬(0:Int)<=fi:=Yv;have tS:b<u.1.size:=Zr xK U.size;obtain⟨⟨v3,qM⟩,v4,qN⟩:=x0 3 _ rfl,x0 4 _ rfl;have xS:Hid (Zz w u):=U;by_cases S:ed m=600\/d=1000000000
 .have yI:Hid (ed m=600\/d=1000000000):=S;have⟨⟨y0,q0⟩,⟨y1,q1⟩,⟨y2,q2⟩,⟨y3,q3⟩,⟨y4,q4⟩,⟨y5,q5⟩,⟨y6,q6⟩,⟨y7,q7⟩,⟨y8,q8⟩,⟨y9,q9⟩,⟨zO,yO⟩,zP,yP⟩:=Br x1;by_cases hf6:ed m=600
  .have B:(600:Int)<=(ed m:Int):=Yv;clear S hf6 x0 xe x1 U hZ N hth;go_wp2;refine Co (ca (ee (Cp 4 ⟨#[]⟩ ⟨#[]⟩))) D8 ?_;exact⟨Tn.fresh (Tn.of xS) (Bw u (w.1.size+2) _ _ _ _ _ _ _ _ _ _ _ _) Yv,cr ⟨4,_,_,ct ⟨zT,ct (cr ⟨hSS▸xY.o,by rw[A7];exact yI.o,rfl,rfl,rfl⟩)⟩,rfl⟩⟩
  have B:¬(600:Int)<=(ed m:Int):=Yv;have vJ:(1000000000:Int)<=d:=Yv;clear S hf6 x0 xe x1 U hZ N hth;go_wp2;refine Co (ca (ee (Cp 4 ⟨#[]⟩ ⟨#[]⟩))) D8 ?_;exact⟨Tn.fresh (Tn.of xS) (Bw u (w.1.size+2) _ _ _ _ _ _ _ _ _ _ _ _) Yv,cr ⟨4,_,_,ct ⟨zT,ct (cr ⟨hSS▸xY.o,by rw[A7];exact yI.o,rfl,rfl,rfl⟩)⟩,rfl⟩⟩
 have B:¬(600:Int)<=(ed m:Int):=Yv;have vJ:¬(1000000000:Int)<=d:=C8 y.b1;have qO:=y.b0;have pM:ed m<600:=Yv;have xZ:Hid (CP F d (m.map (·.1)) j f (DS (m.map (·.1)) ⟨SS,d+1,j,f⟩) (d+1)):=by show CP _ _ _ _ _ _ _;rw[<-hSS];exact ct ⟨hSS▸xY.o,by rw[A7];omega,Yv,rfl,rfl⟩
 have⟨X1,xI⟩:=D2 u (w.1.size) 3 (Zg (d+1));have⟨A,hA⟩:=Du X1 #[] 50;have sV:Tn [w.1.size] u X1:=by rw[xI];exact Bi _ _ _ _
 have bA:=(Av hA).1;have tA:Tn [w.1.size] u A:=sV.ag (Tn.of bA);have pH:w.1.size+3<=u.1.size:=by have M:=zW.size;have h2:=vC.o;omega
 have yV:X1.1.size=u.1.size:=by rw[xI];simp
 have tC:A.1.size=u.1.size+1:=by rw[hA];simp[yV]
 have vD:bg w.1.size w A:=U.ag (tA.A U.size K5);have sA:Aa A w.1.size (Yh F H l (d+1) ta (ed m) tc V pn Z I (ed C) J):=by
  have M:Aa X1 w.1.size (Yh F H l (d+1) ta (ed m) tc V pn Z I (ed C) J):=by rw[xI];exact x0.set 3 _
  exact M.A bA
 have eA:Aa A (w.1.size+1) (Xw kd s nm zB j ra (ed f) rc):=Aa.same xe (tA.block _ xe.lt Yu);have rA:Aa A (w.1.size+2) z12:=Aa.same x1 (tA.block _ x1.lt Yu);have zA:BO A b 0 m:=y.z.A vD y.bl;have oA:ej A u.1.size 50 4 (Yz u.1.size 0 0) 0 []:=by have M:=ownsRow_lit (base:=u.1.size) (e:=50) (size:=4) X1 #[] 0 Yv Yo rfl;rw[yV]at M;rw[hA];exact M
 have HA:Hid (A=(el u (Zd (w.1.size) 3) (Zg (d+1))).alloc (bs #[] 50)):=by rw[<-xI];exact hA
 have vL:Hid (∀X,Zz A X->Aa X w.1.size (Yh F H l (d+1) ta (ed m) tc V pn Z I (ed C) J)/\Aa X (w.1.size+1) (Xw kd s nm zB j ra (ed f) rc)/\Aa X (w.1.size+2) z12/\Zz w X/\BO X b 0 m/\Ad X X.1.size ra f):=λX Q=>by have hb:bg w.1.size w X:=vD.ag (Q.ah vD.size);exact⟨Aa.A sA Q,Aa.A eA Q,Aa.A (v:=Ze) rA Q,hb,y.z.A hb y.bl,Ad.ah (Ad.A y.r hb) hb.size⟩
 have HS:Hid (∀X,Zz A X->eh X (Zd (w.1.size) 3)=ai (Zg (d+1))/\eh X (Zd (w.1.size+1) 4)=ai (C0 j)/\eh X (Zd (w.1.size+1) 5)=ai (Cx ra (ed f) rc)):=λX Q=>by have⟨M,h2,_⟩:=vL X Q;exact⟨(M 3 _ rfl).1,(h2 4 _ rfl).1,(h2 5 _ rfl).1⟩
 have yE:Hid (∀X,Zz A X->D4 68 #[ca #[C0 j,Cx ra (ed f) rc]] X λe w'=>∃g c,e=C1 (ca #[C0 j,Yz g (ed f) c])/\ej w' X.1.size 9 1 (Yz g (ed f) c) (ed f) (f.map string)/\Zz X w'):=λX Q=>Gy j rc (vL X Q).2.2.2.2.2 y.rn Yv;have D0:bg A.1.size A A.drew:=Ae.drew;have D1:∀o,Zz A (A.alloc o).drew:=λo=>(Zy).drew;have sB:=Yw oA;have rP:Hid (A.1.size=u.1.size+1):=tC;clear S x0 xe x1 U hZ N hth xI hA sV bA tA vD sA eA rA zA oA tC yV;go_upto_region 18 with fail;rw[<-HA.o];clear HA v3 v4 qM qN;go_cut [12] (λv wx=>∃(o p D:Nat),v=Yy o/\Hid (Aa wx o [C0 SS,Zg (d+1),C0 j,Yz p (ed f) D]/\ej wx A.1.size 9 1 (Yz p (ed f) D) (ed f) (f.map string)/\A.1.size<=o/\o≠p/\Zz A wx))
 case first=>
  obtain⟨⟨s3,s4,s5⟩,r3,r4,r5⟩:=HS A Ae,HS (A.alloc (bs #[Zc,Ze,Zc,Zb] 50)) (Zy)
  go_region_law (first
   |(go_simp;go_at_call 68;guard_target=~D4 68 _ (drew (alloc A _)) _;refine(yE (A.alloc (bs #[Zc,Ze,Zc,Zb] 50)).drew (D1 _)).ah ?_;rintro e w6 ⟨p,D,rfl,yL,vH⟩;have B1:bg A.1.size A w6:=(D1 _).ag (vH.ah Yu);have nA:Aa w6 A.1.size [Zc,Ze,Zc,Zb]:=(Aa.A (w:=A.alloc (bs #[Zc,Ze,Zc,Zb] 50)) (Aa.new A _ _) (CA vH));obtain⟨y0,q0⟩:=nA 0 _ rfl;obtain⟨y1,q1⟩:=nA 1 _ rfl;obtain⟨y2,q2⟩:=nA 2 _ rfl;obtain⟨y3,q3⟩:=nA 3 _ rfl;have⟨t3,t4,t5⟩:=HS w6 B1)
   |(go_simp;go_at_call 68;refine(yE A.drew D0).ah ?_;rintro e w6 ⟨p,D,rfl,yL,vH⟩;have nC:=yL;have B1:bg A.1.size A w6:=D0.ag vH;have⟨t3,t4,t5⟩:=HS w6 B1;obtain⟨z3,z4,z5⟩:=HS (w6.alloc (bs #[Zc,Ze,Zc,Zb] 50)) (B1.alloc B1.size _)))
  all_goals (go_wp2_with fail;go_meet)
  all_goals first
   |(have qK:=nA
     have l1:=Ab yL (g:=p) rfl;simp at l1;have xN:∀g,ef (Yz p (ed f) D)=ai g->g≠A.1.size:=λg hg=>by simp[ownBlock]at hg;omega
     exact⟨A.1.size,p,D,rfl,Agj nA _ _ _ _,XQ (yL.ah Yu) xN _ _ _ _,Zx,Yv,TI B1 (Zx) _ _ _ _⟩)
   |(have qK:=nC
     have l1:=Ab yL (g:=p) rfl;exact⟨w6.1.size,p,D,rfl,Aa.new w6 _ _,Ai (yL.ah Yu) (Zy),B1.size,Yv,B1.alloc B1.size _⟩)
 revert wc;intro wN hcut;obtain⟨o,p,D,rfl,HC⟩:=hcut;obtain⟨tC,vV,xG,qV,pD,vF⟩:=rP.o,HC.o;have qE:o<wN.1.size:=vV.lt;have rZ:=Ab xG (g:=p) rfl;have pJ:A.1.size<=wN.1.size:=vF.size;have⟨sN,eN,rN,vE,zN,_⟩:=vL wN vF;have rH:Hid (ej wN u.1.size 50 4 (Yz u.1.size 0 0) 0 []):=Ai sB vF;have HN:Hid (∀X,Tn [u.1.size] wN X->Aa X w.1.size (Yh F H l (d+1) ta (ed m) tc V pn Z I (ed C) J)/\Aa X (w.1.size+1) (Xw kd s nm zB j ra (ed f) rc)/\Aa X (w.1.size+2) z12/\Aa X o [C0 SS,Zg (d+1),C0 j,Yz p (ed f) D]/\BO X b 0 m/\ej X A.1.size 9 1 (Yz p (ed f) D) (ed f) (f.map string)/\wN.1.size<=X.1.size/\Zz w X):=λX Q=>by
  refine⟨Aa.same sN (Q.block _ sN.lt Yt),Aa.same eN (Q.block _ eN.lt Yt),Aa.same rN (Q.block _ rN.lt Yt),Aa.same vV (Q.block _ qE Yt),zN.O Q (Zr xK vE.size) Yt (λz T a n c e2 e3 zZ=>by simp at zZ;have:=y.z.dh T e2 e3;omega),Ar xG (λq B=>Q.block q (Ab xG B).2 (by have:=(Ab xG B).1;simp;omega)),Q.size,?_⟩;exact vE.ag (Q.A vE.size K5)
 have rG:Hid (∀z∈m,z.1.sum≠SS):=λz T e=>xY ⟨z.1,mem_map.2 ⟨z,T,rfl⟩,e⟩;have rI:Hid ((m.map (·.1.sum)).Pairwise (λa b=>less a b=ay)):=by have:=y.ok.ff;rw[map_map]at this;exact this
 have qQ:u.1.size<=wN.1.size:=Yv;have sF:Hid (A.1.size<=p/\p<wN.1.size):=rZ;clear vV xG vF sN eN rN vE zN yE HS D0 D1 sB HC;go_wp2;go_loopw [10,11,13] (λv dn i wr=>∃(k g c:Nat),k<=ed m/\i=Zg k/\dn=.bool (zD (m.take k) SS)/\v=Yz g (ed (zQ (m.take k) ((⟨SS,d+1,j,f⟩,Yz p (ed f) D):Kd×Value))) c/\Hid (ej wr u.1.size 50 4 (Yz g (ed (zQ (m.take k) ((⟨SS,d+1,j,f⟩,Yz p (ed f) D):Kd×Value))) c) (ed (zQ (m.take k) ((⟨SS,d+1,j,f⟩,Yz p (ed f) D):Kd×Value))) (Af kC (zQ (m.take k) ((⟨SS,d+1,j,f⟩,Yz p (ed f) D):Kd×Value)))/\(g=u.1.size\/wN.1.size<=g)/\Tn [u.1.size] wN wr)) (λ_ _ i _=>ed m -(intOf i).toNat)
 case atStart=>exact⟨0,u.1.size,0,Aw _,rfl,by simp[zD],by simp[zQ,zD],⟨by simpa [zQ,zD,Af]using rH.o,cr rfl,Tn.of Ae⟩⟩
 obtain⟨k,g,c,hk,rfl,rfl,rfl,HI⟩:=hrel;have⟨sX,eX,rX,oX,zX,_,pK,_⟩:=HN wr HI.2.2;obtain⟨v4,_⟩:=sX 4 _ rfl;obtain⟨o0,o1,o2,o3⟩:=Aa.c4 oX 0 1 2 3;have qR:u.1.size<=wr.1.size:=Yv;by_cases hlt:k<ed m
 .obtain rfl:ta=ai ⟨b,0,an⟩:=y.tb.resolve_right (λe=>by rw[e]at hlt;simp at hlt);have HG:Hid (m[k]?=ai m[k]):=Zv hlt;obtain⟨⟨c0,c1,c2,c3⟩,xQ,xR,xO,_⟩:=zX k _ HG;have vP:∀X,Tn [u.1.size] wN X->eh X (Zd b (k *4))=ai (C0 m[k].1.sum)/\eh X (Zd b (k *4+1))=ai (Zg m[k].1.born)/\eh X (Zd b (k *4+2))=ai (C0 m[k].1.Q)/\eh X (Zd b (k *4+3))=ai m[k].2:=λX Q=>by have:=((HN X Q).2.2.2.2.1 k _ HG).1;simpa using this
  have xN:=rG _ (getElem_mem hlt);have qZ:ed (zQ (m.take k) ((⟨SS,d+1,j,f⟩,Yz p (ed f) D):Kd×Value))<=1001:=by have:=Vy (m.take k) ((⟨SS,d+1,j,f⟩,Yz p (ed f) D):Kd×Value);rw[Cl]at this;omega
  obtain⟨zC,yY,zS⟩:=Yw (XP ((⟨SS,d+1,j,f⟩,Yz p (ed f) D):Kd×Value) HG),Yw (Afc ((⟨SS,d+1,j,f⟩,Yz p (ed f) D):Kd×Value) HG),Yw (Abq ((⟨SS,d+1,j,f⟩,Yz p (ed f) D):Kd×Value) rI HG);have HD:Hid (zD (m.take (k+1)) SS=(zD (m.take k) SS|| !(less m[k].1.sum SS))):=Lc SS HG;rw[Ax]at c0 c1 c2 c3;generalize hzk:m[k]=z at *
  obtain⟨x,zv⟩:=z;simp only at xO xN c0 c1 c2 c3 zC yY zS HD vP;subst xO;have vJ:(x.sum.toList==SS.toList)=ba:=BZ xN;generalize hGk:zQ (m.take k) ((⟨SS,d+1,j,f⟩,Yz p (ed f) D):Kd×Value)=gk at *
  generalize hDk:zD (m.take k) SS=dk at *
  have rD:=Yw vP;have pB:b<wr.1.size:=Yv
  obtain⟨tE,yJ,L⟩:=HI.1,HI.2.1,HI.2.2;clear hzk hGk hDk vP xN oX sX eX rX zX;cases dk with
  |true=>
   have HE:=Yw (zS rfl);have yZ:Hid (zD (m.take (k+1)) SS=ay):=(by show _=_;rw[HD.o];rfl);clear zC yY zS HI;obtain⟨K,G,wa,zK,zJ,E,zI⟩:=MO wr u.1.size (Yz g (ed gk) c) gk tE (x,Cx (ai xQ) (ed x.C) xR) ⟨_,_,_,rfl⟩ Yl (C8 L.size) 26;have zG:Tn [u.1.size] wN wa:=⟨E.os.ag L.os,E.tape.ag L.tape,E.output.ag L.output,Zm L.size E.size,λq B hv=>(E.block q (Zr B L.size) (λe=>by simp[ownBlock]at e;simp at hv;rcases yJ with h|h<;>omega)).ag (L.block q B hv)⟩;have zY:K=u.1.size\/wN.1.size<=K:=by
    rcases zI with h|h
    .simp[ownBlock]at h;rw[<-h];exact yJ
    have:=L.size;omega
   have yD:=zJ;clear zJ E zI;go_wp2_with (at_builtin;refine wpList_append_run rfl _ _ 26 26 rfl rfl rfl zK ?_);clear zK;have HO:=Yw (Zn yD (Zn zY zG));clear yD zY zG;go_wp2;exact⟨⟨k+1,K,G,Yv,Yn,by rw[yZ.o],by rw[HE.o];simp,⟨by rw[HE.o];simpa using HO.1,HO.2⟩⟩,Ys⟩
  |false=>
   cases hless:Op.bytesLess x.sum.toList SS.toList with
   |true=>
    have HE:=Yw (zC rfl hless);have yZ:Hid (zD (m.take (k+1)) SS=ba):=F6;clear zC yY zS HI;obtain⟨K,G,wa,zK,zJ,E,zI⟩:=MO wr u.1.size (Yz g (ed gk) c) gk tE (x,Cx (ai xQ) (ed x.C) xR) ⟨_,_,_,rfl⟩ Yl (C8 L.size) 26;have zG:Tn [u.1.size] wN wa:=⟨E.os.ag L.os,E.tape.ag L.tape,E.output.ag L.output,Zm L.size E.size,λq B hv=>(E.block q (Zr B L.size) (λe=>by simp[ownBlock]at e;simp at hv;rcases yJ with h|h<;>omega)).ag (L.block q B hv)⟩;have zY:K=u.1.size\/wN.1.size<=K:=by
     rcases zI with h|h
     .simp[ownBlock]at h;rw[<-h];exact yJ
     have:=L.size;omega
    have yD:=zJ;clear zJ E zI;go_wp2_with (at_builtin;refine wpList_append_run rfl _ _ 26 26 rfl rfl rfl zK ?_);clear zK;have HO:=Yw (Zn yD (Zn zY zG));clear yD zY zG;go_wp2;exact⟨⟨k+1,K,G,Yv,Yn,by rw[yZ.o],by rw[HE.o];simp,⟨by rw[HE.o];simpa using HO.1,HO.2⟩⟩,Ys⟩
   |false=>
    have HE:=Yw (yY rfl hless);have yZ:Hid (zD (m.take (k+1)) SS=ay):=F6;clear zC yY zS HI;obtain⟨K,G,wa,zK,zJ,E,zI⟩:=MO wr u.1.size (Yz g (ed gk) c) gk tE (⟨SS,d+1,j,f⟩,Yz p (ed f) D) ⟨_,_,_,rfl⟩ Yl (C8 L.size) 26;have zG:Tn [u.1.size] wN wa:=⟨E.os.ag L.os,E.tape.ag L.tape,E.output.ag L.output,Zm L.size E.size,λq B hv=>(E.block q (Zr B L.size) (λe=>by simp[ownBlock]at e;simp at hv;rcases yJ with h|h<;>omega)).ag (L.block q B hv)⟩;have zY:K=u.1.size\/wN.1.size<=K:=by
     rcases zI with h|h
     .simp[ownBlock]at h;rw[<-h];exact yJ
     have:=L.size;omega
    have yD:=zJ;clear zJ E zI;have⟨sU,_,_,_,_,_,qS,_⟩:=HN wa zG;obtain⟨⟨qL,_⟩,rR,rS,rT,rU⟩:=sU 4 _ rfl,rD wa zG;have qP:b<wa.1.size:=Yv;obtain⟨g9,tR,wb,xX,xW,zU,xV⟩:=MO wa u.1.size (Yz K (ed gk+1) G) (gk++[((⟨SS,d+1,j,f⟩,Yz p (ed f) D):Kd×Value)]) yD (x,Cx (ai xQ) (ed x.C) xR) ⟨_,_,_,rfl⟩ Yl (C8 zG.size) 26;have sW:Tn [u.1.size] wN wb:=⟨zU.os.ag zG.os,zU.tape.ag zG.tape,zU.output.ag zG.output,Zm zG.size zU.size,λq B hv=>(zU.block q (Zr B zG.size) (λe=>by simp[ownBlock]at e;simp at hv;rcases zY with h|h<;>omega)).ag (zG.block q B hv)⟩;have sG:g9=u.1.size\/wN.1.size<=g9:=by
     rcases xV with h|h
     .simp[ownBlock]at h;rw[<-h];exact zY
     have:=zG.size;omega
    have sT:=xW;clear xW zU xV;clear sU;go_wp2_with (first|(at_builtin;refine wpList_append_run rfl _ _ 26 26 rfl rfl rfl zK ?_)|(at_builtin;refine wpList_append_run rfl _ _ 26 26 rfl rfl rfl xX ?_));clear zK xX c0 c1 c2 c3 v4 o0 o1 o2 o3 qL rR rS rT rU;have HO:=Yw (Zn sT (Zn sG sW));clear sT sG sW yD zY zG;try go_wp2
    exact⟨⟨k+1,g9,tR,Yv,Yn,by rw[yZ.o],by rw[HE.o];simp,⟨by rw[HE.o];simpa using HO.1,HO.2⟩⟩,Ys⟩
 obtain rfl:k=ed m:=Yv;have hO:=HI.1;rw[Zt (Zx)]at hO |-;have hG:=HI.2.1;have hT:=HI.2.2;cases hDn:zD m SS
 case' true=>
  have xH:=Ady (((⟨SS,d+1,j,f⟩,Yz p (ed f) D):Kd×Value)) hDn;rw[xH]at hO |-;have sI:=hT;have xF:=hO;have tZ:Hid (w.1.size<=g):=by show _<=_;rcases hG with h|h<;>omega
  clear o0 o1 o2 o3;obtain⟨K,rfl⟩:=Ag g;obtain⟨G,rfl⟩:=Ag c;obtain⟨w8,rfl⟩:=Ag wr
 case' false=>
  have qW:=Vy m (((⟨SS,d+1,j,f⟩,Yz p (ed f) D):Kd×Value));have xH:=Afd (((⟨SS,d+1,j,f⟩,Yz p (ed f) D):Kd×Value)) hDn;obtain⟨K,G,w8,sP,vI,yK,sL⟩:=MO wr u.1.size (Yz g (ed (zQ m (((⟨SS,d+1,j,f⟩,Yz p (ed f) D):Kd×Value)))) c) (zQ m (((⟨SS,d+1,j,f⟩,Yz p (ed f) D):Kd×Value))) hO (((⟨SS,d+1,j,f⟩,Yz p (ed f) D):Kd×Value)) ⟨_,_,_,rfl⟩ Yv (C8 hT.size) 26;have sI:Tn [u.1.size] wN w8:=⟨yK.os.ag hT.os,yK.tape.ag hT.tape,yK.output.ag hT.output,Zm hT.size yK.size,λq B hv=>(yK.block q (Zr B hT.size) (λe=>by simp[ownBlock]at e;simp at hv;rcases hG with h|h<;>omega)).ag (hT.block q B hv)⟩;have vS:Hid (ed (CZ m (((⟨SS,d+1,j,f⟩,Yz p (ed f) D):Kd×Value)))=ed (zQ m (((⟨SS,d+1,j,f⟩,Yz p (ed f) D):Kd×Value)))+1):=by show _=_;rw[<-xH];simp
  rw[xH]at vI;have xF:ej w8 u.1.size 50 4 (Yz K (ed (CZ m (((⟨SS,d+1,j,f⟩,Yz p (ed f) D):Kd×Value)))) G) (ed (CZ m (((⟨SS,d+1,j,f⟩,Yz p (ed f) D):Kd×Value)))) (Af kC (CZ m (((⟨SS,d+1,j,f⟩,Yz p (ed f) D):Kd×Value)))):=by rw[vS.o];rw[vS.o]at vI;exact vI
  rw[<-vS.o]at sP;have tZ:Hid (w.1.size<=K):=by
   show _<=_;rcases sL with h|h
   .have h2:g=K:=(by simpa [ownBlock]using h);rcases hG with h3|h3<;>omega
   have:=hT.size;omega
  clear vI yK sL
 all_goals
  have⟨sE,eE,rE,_,zE,vK,pI,bE⟩:=HN w8 sI;obtain⟨⟨_,qU⟩,X,Q⟩:=sE 4 _ rfl,D2 w8 (w.1.size) 4 (Yz K (ed (CZ m ((⟨SS,d+1,j,f⟩,Yz p (ed f) D):Kd×Value))) G);have tX:Tn [w.1.size] w8 X:=by rw[Q];exact Bi _ _ _ _
  have sC:=Yw Q;have vN:Hid (Aa X w.1.size (Yh F H l (d+1) (ai ⟨K,0,an⟩) (ed (CZ m ((⟨SS,d+1,j,f⟩,Yz p (ed f) D):Kd×Value))) G V pn Z I (ed C) J)):=by show Aa _ _ _;rw[Q];exact sE.set 4 _
  have vQ:=Yw (Aa.same eE (tX.block _ eE.lt Yu));have xD:Hid (Aa X (w.1.size+2) z12):=Aa.same rE (tX.block _ rE.lt Yu);have bX:bg w.1.size w X:=bE.ag (tX.A bE.size K5);have vR:Hid (ej X O 112 3 (Cx I (ed C) J) (ed C) (Af lC C)):=Ai y.lo bX;have qX:w8.1.size<=X.1.size:=tX.size;have xM:w.1.size+3<=X.1.size:=Yv;have vU:Hid (Tn (ef (Cx I (ed C) J)).toList w X):=Tn.of bX;have oE:ej X u.1.size 50 4 (Yz K (ed (CZ m ((⟨SS,d+1,j,f⟩,Yz p (ed f) D):Kd×Value))) G) (ed (CZ m ((⟨SS,d+1,j,f⟩,Yz p (ed f) D):Kd×Value))) (Af kC (CZ m ((⟨SS,d+1,j,f⟩,Yz p (ed f) D):Kd×Value))):=Ar xF (λq B=>tX.block q (Ab xF B).2 (by have:=(Ab xF B).1;simp;omega));have yH:ej X A.1.size 9 1 (Yz p (ed f) D) (ed f) (f.map string):=Ar vK (λq B=>tX.block q (Ab vK B).2 (by have:=(Ab vK B).1;simp;omega));have sY:BO X b 0 m:=y.z.A bX y.bl;have qA:K<X.1.size:=(Ab oE (g:=K) rfl).2;have xU:∀g,ef (Cx I (ed C) J)=ai g->g<w.1.size:=λg hg=>(Ab y.lo hg).2;have rM:Hid (∀(Y R:Zh) (n5:Nat),X.1.size<=n5->Tn (ef (Cx I (ed C) J)).toList X Y->Tn [n5,w.1.size+2] Y R->BO R K 0 (CZ m ((⟨SS,d+1,j,f⟩,Yz p (ed f) D):Kd×Value))):=λY R n5 h5 hY N=>by
   have sO:=Ar oE (w':=Y) (λq B=>hY.block q (Ab oE B).2 (λe=>by have M:=xU q (C9 e);have h2:=(Ab oE B).1;omega));have qF:=Ar sO (w':=R) (λq B=>N.block q (Ab sO B).2 (by have M:=(Ab oE B).1;have h2:=(Ab oE B).2;simp;omega));have sQ:=Ar yH (w':=Y) (λq B=>hY.block q (Ab yH B).2 (λe=>by have M:=xU q (C9 e);have h2:=(Ab yH B).1;omega));have qG:=Ar sQ (w':=R) (λq B=>N.block q (Ab sQ B).2 (by have M:=(Ab yH B).1;have h2:=(Ab yH B).2;simp;omega));have sK:b<X.1.size:=Zr xK bX.size;have zR:=(sY.O hY sK (λe=>y.bL (Eq.symm (C9 e))) (λz T a n c e2 e3 zZ=>y.zL z T a n c e2 e3 (Eq.symm (C9 zZ)))).O N (Zr sK hY.size) Yt (λz T a n c e2 e3 zZ=>by simp at zZ;have:=y.z.dh T e2 e3;omega);refine BO.own qF (λz T=> ?_);rcases Ma T with T|rfl
   .obtain⟨i,hi⟩:=A3 T;have⟨_,rQ,qJ,e4,rV⟩:=zR i z hi;exact⟨rQ,qJ,e4,rV⟩
   have tT:Ad R R.1.size (ai ⟨p,0,an⟩) f:=(by have M:ej R A.1.size 9 1 (Yz p (ed f) D) (ed f) (f.map string):=qG;exact Ad.own M);exact⟨⟨p,0,an⟩,D,rfl,tT⟩
  have sD:Hid (CP F d (m.map (·.1)) j f ((CZ m ((⟨SS,d+1,j,f⟩,Yz p (ed f) D):Kd×Value)).map (·.1)) (d+1)):=by show CP _ _ _ _ _ _ _;rw[XO];exact xZ.o
  have xT:Hid (w.1.size<K/\K<X.1.size/\w.1.size<p/\p<X.1.size):=by
   have M:u.1.size<=K/\K<X.1.size:=Ab oE (g:=K) rfl;have h2:A.1.size<=p/\p<X.1.size:=Ab yH (g:=p) rfl;have h3:=sF.1;have h4:w.1.size+3<=u.1.size:=(by have M:=zW.size;have h2:=vC.o;omega);exact⟨Yv,M.2,Yv,h2.2⟩
  have rO:Hid (∀z∈CZ m ((⟨SS,d+1,j,f⟩,Yz p (ed f) D):Kd×Value),z∈m\/∃ad n rc,z.2=Cx (ai ad) n rc/\w.1.size<=ad.block):=λz T=>by
   rcases Ma T with T|rfl
   .exact cr T
   exact ct ⟨⟨p,0,an⟩,_,_,rfl,by have:=sF.1;show w.1.size<=p;omega⟩
  clear hDn xH Q tX sE eE rE zE vK oE yH sY bE bX hO xF HI;go_upto_region 29 with(at_builtin;refine wpList_append_run rfl _ _ 26 26 rfl rfl rfl sP ?_);rw[<-sC.o];clear sC;have xB:=Yw (Jf F H l (d+1) (ai ⟨K,0,an⟩) V I (ed (CZ m ((⟨SS,d+1,j,f⟩,Yz p (ed f) D):Kd×Value))) G pn Z J C SS zB vR (Zm y.lb (Zm (Nat.le_add_right _ 3) xM)) (C8 y.nl) y.g0 y.g1 y.n0 y.n1 y.t0 y.t1);obtain⟨⟨l0,l1,l2,l3,l4,l5,l6⟩,m3,_⟩:=Aa.c7 vN 0 1 2 3 4 5 6,vQ 3 _ rfl;go_wp2_with fail;refine xB.Ak ?_;rintro e P ⟨zM,yU⟩;have yF:∀g,ef (Cx I (ed C) J)=ai g->g<w.1.size:=λg hg=>(Ab y.lo hg).2;have yA:Aa P (w.1.size+2) z12:=Aa.same xD (zM.block _ xD.lt (λe=>by have:=yF _ (C9 e);omega));have qD:w.1.size+3<=P.1.size:=Zm xM zM.size;have xE:Hid (Tn (ef (Cx I (ed C) J)).toList w P):=vU.ag zM;clear l0 l1 l2 l3 l4 l5 l6 m3 xB;obtain⟨S,rfl⟩|⟨⟨vZ,vX⟩,g2,c2,rfl,yG,zH⟩:=yU
  .obtain⟨Y,hY⟩:=Du P (Yc 4) 81;have bY:bg P.1.size P Y:=(by rw[hY];exact Zy);have t:Aa Y P.1.size (Xs 4):=J5;have yR:=Aa.A (v:=Ze) yA bY;have HY:=Yw hY;have zF:Hid (Tn (ef (Cx I (ed C) J)).toList w Y):=xE.ag (Tn.of bY);have yI:Hid (ed C=200\/l=1000000000):=(by have M:=y.nl;have h2:=y.g1;show _\/_;omega);obtain⟨⟨⟨y0,q0⟩,⟨y1,q1⟩,⟨y2,q2⟩,⟨y3,q3⟩,⟨y4,q4⟩,⟨y5,q5⟩,⟨y6,q6⟩,⟨y7,q7⟩,⟨y8,q8⟩,⟨y9,q9⟩,⟨zO,yO⟩,zP,yP⟩,⟨u0,tH⟩,⟨u1,tI⟩,⟨u2,tJ⟩,⟨u3,tK⟩,⟨u4,tL⟩,⟨u5,tM⟩,⟨u6,tN⟩,⟨u7,tO⟩,⟨u8,tP⟩,u9,tQ⟩:=Br yR,t 0 _ rfl,t 1 _ rfl,t 2 _ rfl,t 3 _ rfl,t 4 _ rfl,t 5 _ rfl,t 6 _ rfl,t 7 _ rfl,t 8 _ rfl,t 9 _ rfl;obtain⟨⟨tF,yW⟩,tG,yX⟩:=t 10 _ rfl,t 11 _ rfl;clear bY t yR hY yA zM S;go_upto_region 30 with fail;rw[<-HY.o];clear HY;go_wp2;refine Co (ca (ee (Cp 4 ⟨#[]⟩ ⟨#[]⟩))) D8 ?_;exact⟨Tn.fresh zF (Bw Y (w.1.size+2) _ _ _ _ _ _ _ _ _ _ _ _) Yv,cr ⟨4,_,_,ct ⟨zT,ct (ct ⟨⟨_,_,sD⟩,yI,rfl,rfl,rfl⟩)⟩,rfl⟩⟩
  obtain⟨Y,hY⟩:=Du P #[Ze,Zg F,Zg H,Zg (l+1),Zg (d+1),Yz K (ed (CZ m ((⟨SS,d+1,j,f⟩,Yz p (ed f) D):Kd×Value))) G,Cx V pn Z,Yz g2 (ed C+1) c2,Zc,Zg (l+1),Zc,Zc] 81;have bY:bg P.1.size P Y:=by rw[hY];exact Zy
  have t:Aa Y P.1.size [Ze,Zg F,Zg H,Zg (l+1),Zg (d+1),Yz K (ed (CZ m ((⟨SS,d+1,j,f⟩,Yz p (ed f) D):Kd×Value))) G,Cx V pn Z,Yz g2 (ed C+1) c2,Zc,Zg (l+1),Zc,Zc]:=J5;have yR:=Aa.A (v:=Ze) yA bY;have HY:=Yw hY;have zF:Hid (Tn (ef (Cx I (ed C) J)).toList w Y):=xE.ag (Tn.of bY);have xC:=Yw (Ai yG bY);have vG:P.1.size<Y.1.size:=t.lt;have yB:Tn (ef (Cx I (ed C) J)).toList X Y:=zM.ag (Tn.of bY);have xP:∀R,Tn [P.1.size,w.1.size+2] Y R->TH O b F H l d zB m (Cx V pn Z) (Cx I (ed C) J) C j f w (.returned (ca #[Ze,Zg F,Zg H,Zg (l+1),Zg (d+1),Yz K (ed (CZ m ((⟨SS,d+1,j,f⟩,Yz p (ed f) D):Kd×Value))) G,Cx V pn Z,Yz g2 (ed C+1) c2,C0 SS,Zg (l+1),Zc,Zc])) R:=λR N=>by
   have tD:BO R K 0 (CZ m ((⟨SS,d+1,j,f⟩,Yz p (ed f) D):Kd×Value)):=rM Y R _ zM.size yB N;have yT:g2≠P.1.size/\g2≠w.1.size+2:=by
    have M:=(Ab yG (g:=g2) rfl).2;rcases zH with zH|zH
    .have h4:=yF _ zH;omega
    omega
   have tB:=Ar xC (w':=R) (λq B=>N.block q (Ab xC B).2 (by
    have h3:g2=q:=(by simpa [ownBlock]using B);rw[<-h3];simp;exact yT))
   refine⟨?_,ct ⟨_,_,K,G,CZ m ((⟨SS,d+1,j,f⟩,Yz p (ed f) D):Kd×Value),g2,c2,zT,sD,vZ,vX,by rw[hSS],rfl,tD,?_,ct tZ,rO,(by rcases zH with h|h;exact cr h;exact ct Yv),by rw[hSS];exact tB,(by have h0:=xT.o;rcases zH with h|h;(have M:=yF _ h;omega);omega),λz T a n c e2 e3 e=>by
    have h0:=xT.o;rcases Ma T with T|rfl
    .rcases zH with h|h
     .exact y.zL z T a n c e2 e3 (by rw[h,e])
     have:=y.z.dh T e2 e3;omega
    cases e2;have e':p=g2:=e;rcases zH with h|h
    .have M:=yF _ h;omega
    omega⟩⟩
   .exact⟨N.os.ag zF.os,N.tape.ag zF.tape,N.output.ag zF.output,Zm zF.size N.size,λq B hv=>(N.block q (Zr B zF.size) Yt).ag (zF.block q B hv)⟩
   exact Zr qA (Zm yB.size N.size)
  obtain⟨yQ,⟨⟨y0,q0⟩,⟨y1,q1⟩,⟨y2,q2⟩,⟨y3,q3⟩,⟨y4,q4⟩,⟨y5,q5⟩,⟨y6,q6⟩,⟨y7,q7⟩,⟨y8,q8⟩,⟨y9,q9⟩,⟨zO,yO⟩,zP,yP⟩,⟨u0,tH⟩,⟨u1,tI⟩,⟨u2,tJ⟩,⟨u3,tK⟩,⟨u4,tL⟩,⟨u5,tM⟩,⟨u6,tN⟩,⟨u7,tO⟩,⟨u8,tP⟩,u9,tQ⟩:=Yw xP,Br yR,t 0 _ rfl,t 1 _ rfl,t 2 _ rfl,t 3 _ rfl,t 4 _ rfl,t 5 _ rfl,t 6 _ rfl,t 7 _ rfl,t 8 _ rfl,t 9 _ rfl;obtain⟨⟨tF,yW⟩,tG,yX⟩:=t 10 _ rfl,t 11 _ rfl;clear bY t yR hY yA zM xP yG yB;go_upto_region 30 with fail;rw[<-HY.o];clear HY;go_wp2;refine Co (ca #[Ze,Zg F,Zg H,Zg (l+1),Zg (d+1),Yz K (ed (CZ m ((⟨SS,d+1,j,f⟩,Yz p (ed f) D):Kd×Value))) G,Cx V pn Z,Yz g2 (ed C+1) c2,C0 SS,Zg (l+1),Zc,Zc]) G0 ?_;refine yQ _ ?_
  repeat refine Tn.ag ?_ (Tn.set _ _ _ _ Yu)
  exact Tn.of Ae
theorem Abs{g:Nat}{O:Dg}{o:C5}{j:C7}{r:C6}(n:Zi)(h:DU w g d m O P L q p f c o j r)(t:∀k∈o,(k.sum.size:Int)=q)(l:As o s)(z:ed j<=100)(i:j.Pairwise (λa b=>less a.name b.name=ay))(u:(∃x∈j,x.name=n)\/ed j<100):
 D4 179 #[Yy d,C0 n,C0 s] w λe v=>e=C1 (.tuple #[])/\∃y,DU v g d m O y L q p f c o (Bj j n s) r/\Tn (d::(ef P).toList) w v:=by
 by_cases hth:∃x∈j,x.name=n
 .exact Aak n h t l Yv i hth
 exact Aam n h t l gA i hth
theorem Pc{g:Nat}{O:Dg}{l:C5}{i:C7}{q:C6}(n B:Zi)(u:Int)(y:Zk)(A z:Nat)(h:DU w g d m O P L r j f c l i q)(C:∀k∈l,(k.sum.size:Int)=r)(t:As l s)(E:ed i<=100)(p:i.Pairwise (λa b=>less a.name b.name=ay))(o:(∃x∈i,x.name=n)\/ed i<100):
 D4 136 #[Yy d,ca (Ye 2 s n u B y A z)] w λe v=>e=C1 (ca (ee z12))/\∃D,DU v g d m O D L r j f c l (Bj i n s) q/\Tn (d::(ef P).toList) w v:=
 Gz s n B u y A z h 2 (λV=>V) (λ_=>L) j (Bj i n s) q (d::(ef P).toList) (λb v=>h.R.dj b (by unfold vB;simp at v |-;rcases v with rfl|v<;>simp[*])) (cr ⟨rfl,λW D=>Abs n D C t E p o⟩)
theorem MP{f:Nat}{O:Dg}{G E:Int}{q:C5}{y:C7}(x C:Zi)(o:Int)(z:Zk)(B A:Nat)(j:Dr w f d m O P L G E c a q y u)(S:Dv G q)(hp:ed y<=100)(hl:ed u<=200)(T:As q s)(r:¬(((∃p∈y,p.sum=s)\/∃l∈u,l.sum=s)\/∃k∈q,s∈k.C)):
 D4 136 #[Yy d,ca (Ye 7 s x o C z B A)] w λe g=>e=C1 (ca (ee z12))/\∃t,Dr g f d m t P L G E c a (Ch q s) y u/\ef t=ef O/\Tn (vB d m O P L) w g:=by
 have⟨W,g⟩:=Ag (((w.alloc (bs (Ye 7 s x o C z B A) 117)).alloc (bs Yd 81)).alloc (bs Yd 81));have R:=(Bq g).1;have H:=(Bq g).2.1;have Y:eh W (Zd (w.1.size) 0)=ai (Zg 7):=Ff;have Z:eh W (Zd (w.1.size) 1)=ai (C0 s):=Ff;have zR:Aa W (w.1.size+1) z12:=by have n:=Aa.new (w.alloc (bs (Ye 7 s x o C z B A) 117)) z12 81;rw[Aq]at n;rw[g];exact Aa.A (v:=Ze) n (Zy)
 have J:Aa W (w.1.size+2) z12:=by have n:=Aa.new ((w.alloc (bs (Ye 7 s x o C z B A) 117)).alloc (bs (ee z12) 81)) z12 81;rw[Aq,Aq]at n;rw[g];exact n
 have N:=Yw (j.A R);have F:Hid (∀b∈vB d m O P L,b<w.1.size):=by
  intro b i;unfold vB at i;simp only[Bh,A5,A6]at i;rcases i with rfl|rfl|i|i|i
  .exact j.box.lt
  .exact(j.map.choose_spec.choose_spec.2.1).lt
  .exact(Ab j.ord i).2
  .exact(Ab j.co i).2
  exact(Ab j.di i).2
 have X:Hid (W.1[w.1.size+1]?=ai (bs Yd 81)):=by show _=_;rw[g,Below.heap_alloc _ _ _ Yu];have:=heap_alloc_new (w.alloc (bs (Ye 7 s x o C z B A) 117)) (bs Yd 81);rw[Aq]at this;exact this
 have M:f<=w.1.size:=by have:=j.bd;have:=j.box.lt;omega
 obtain⟨I,Q,D⟩:=Yw g,Yw (Zn zR J),Yw H;clear g j zR J H;delta D4;go_in;go_upto_region 2 with fail;rw[<-I.o];clear I;go_wp2_with fail;refine(PH N S hp hl T r).ah ?_;rintro e K ⟨rfl,t,H,hO,g,_⟩;have J:=Aa.same Q.1 (g.block _ (C8 D.o) (λh=>C8 (F _ h)));obtain⟨I,⟨k,q0⟩,⟨l,q1⟩,⟨p,q2⟩,⟨y3,q3⟩,⟨y4,q4⟩,⟨y5,q5⟩,⟨y6,q6⟩,⟨y7,q7⟩,⟨y8,q8⟩,⟨y9,q9⟩,⟨U,zA⟩,V,zB⟩:=Aa.same Q.2 (g.block _ (C8 D.o) (λh=>C8 (F _ h))),Br J;have⟨⟨v0,_⟩,⟨v1,_⟩,⟨v2,_⟩,⟨v3,_⟩,⟨v4,_⟩,⟨v5,_⟩,⟨v6,_⟩,⟨v7,_⟩,⟨v8,_⟩,⟨v9,_⟩,⟨zC,_⟩,zE,_⟩:=Br I;have j:=Yw (Zn H (Zn hO g));clear H hO g J I Y Z N;go_wp2;have J:w.1.size+1∉vB d m t P L:=λh=>by
  have:w.1.size+1∈vB d m O P L:=by unfold vB at h |-;rw[j.2.1]at h;exact h
  have:=F _ this;omega
 have I:∀g H,K.1[w.1.size+1]?≠ai (bs g 9 H):=λg H e=>by have n:=j.2.2.block (w.1.size+1) (C8 D.o) (λh=>C8 (F _ h));rw[e,X.o]at n;simp at n
 refine Co (ca (ee z12)) (by simp[results,results136,go_sem,k,l,p,y3,y4,y5,y6,y7,y8,y9,U,V,z12]) ⟨rfl,t,Dr.apart j.1 (Bw K _ _ _ _ _ _ _ _ _ _ _ _ _) Yv J I,j.2.1,Tn.fresh ((Tn.of R).ag j.2.2) (Bw K _ _ _ _ _ _ _ _ _ _ _ _ _) Yv⟩
theorem Mb{c:Nat}{O:Dg}{n:Int}{g:C5}{i:C7}{h:C6}(x B:Zi)(o:Int)(y:Zk)(A z:Nat)(u:Dr w c d m O P L r n b a g i h)(C:Dv r g)(G:ed i<=100)(F:ed h<=200)(D:As g s)(j:((∃p∈i,p.sum=s)\/∃l∈h,l.sum=s)\/∃k∈g,s∈k.C):
 D4 136 #[Yy d,ca (Ye 7 s x o B y A z)] w λe f=>e=.panicked [{v:=bk 6 ⟨#[]⟩ ⟨#[]⟩,recovered:=ba}]/\Zz w f:=by
 have⟨W,f⟩:=Ag (((w.alloc (bs (Ye 7 s x o B y A z) 117)).alloc (bs Yd 81)).alloc (bs Yd 81));have q:=(Bq f).1;have H:eh W (Zd (w.1.size) 0)=ai (Zg 7):=I7;have I:eh W (Zd (w.1.size) 1)=ai (C0 s):=I7;have E:=Yw (u.A q);have t:=Yw f;clear f u;delta D4;go_in;go_upto_region 2 with fail;rw[<-t.o];clear t;go_wp2_with fail;refine(NP E C G F D j).ah ?_;rintro e t ⟨rfl,f⟩;exact⟨rfl,rfl,q.ag (f.ah q.size)⟩
theorem Qz{c:Nat}{O:Dg}{f:C5}{o:C7}{n:C6}(s:Zi)(l:Dr w c d m O P L j i b a f o n)(g:∀k∈f,(k.sum.size:Int)=j)(h:¬As f s):
 D4 183 #[Yy d,C0 s] w λe p=>e=.panicked [{v:=bk 2 ⟨#[]⟩ ⟨#[]⟩,recovered:=ba}]/\Zz w p:=by
 have HN:=Yw (KW s l g h);clear l g h;delta D4;go_in;go_wp2_with fail;refine HN.Ak ?_;rintro e h ⟨rfl,g⟩;go_wp2;exact⟨rfl,rfl,g⟩
theorem Ke{c:Nat}{O:Dg}{h:Int}{g:C5}{r:C7}{p:C6}(s q y:Zi)(i:Int)(t:Zk)(x u:Nat)(o:Dr w c d m O P L l h b a g r p)(z:∀k∈g,(k.sum.size:Int)=l)(A:¬As g s):
 D4 136 #[Yy d,ca (Ye 7 s q i y t x u)] w λe f=>e=.panicked [{v:=bk 2 ⟨#[]⟩ ⟨#[]⟩,recovered:=ba}]/\Zz w f:=by
 have⟨W,f⟩:=Ag (((w.alloc (bs (Ye 7 s q i y t x u) 117)).alloc (bs Yd 81)).alloc (bs Yd 81));have j:=(Bq f).1;have C:eh W (Zd (w.1.size) 0)=ai (Zg 7):=I7;have D:eh W (Zd (w.1.size) 1)=ai (C0 s):=I7;have B:=Yw (o.A j);have n:=Yw f;clear f o;delta D4;go_in;go_upto_region 2 with fail;rw[<-n.o];clear n;go_wp2_with fail;refine(Qz s B z A).ah ?_;rintro e n ⟨rfl,f⟩;exact⟨rfl,rfl,j.ag (f.ah j.size)⟩
structure Rs where
 sm:Zi
 le:Int
 G:Int
 H:Int
 E:Int
 B:List Kd
 ps:List Pd
 ls:List Ld
def Db(wd now given births:Int)(ks:List Kd)(ps:List Pd)(ls:List Ld)(kd:Int)(s nm:Zi)(num:Int)(text:Zi)(refs:Zl)(r:Rs):Prop:=
 (kd=1/\(∀r∈refs,As ks r)/\ed ls<200/\given<1000000000/\∃ks1 aj,CP wd births ks text refs ks1 aj/\r=⟨Bm text refs wd,given+1,now,given+1,aj,ks1,ps,ls++[⟨given+1,Bm text refs wd,now+num⟩]⟩)\/
 (kd=2/\As ks s/\((∃x∈ps,x.name=nm)\/ed ps<100)/\r=⟨⟨#[]⟩,0,now,given,births,ks,Bj ps nm s,ls⟩)\/
 (kd=3/\(∃x∈ps,x.name=nm)/\r=⟨⟨#[]⟩,0,now,given,births,ks,Bf ps nm,ls⟩)\/
 (kd=4/\As ks s/\ed ls<200/\given<1000000000/\r=⟨⟨#[]⟩,given+1,now,given+1,births,ks,ps,ls++[⟨given+1,s,now+num⟩]⟩)\/
 (kd=5/\(∃x∈ls,x.M=num)/\r=⟨⟨#[]⟩,0,now,given,births,ks,ps,Bz ls num⟩)\/
 (kd=6/\now+num<=1000000000/\r=⟨⟨#[]⟩,0,now+num,given,births,ks,ps,AQ ls (now+num)⟩)\/
 (kd=7/\As ks s/\¬Dw ps ls ks s/\r=⟨⟨#[]⟩,0,now,given,births,Ch ks s,ps,ls⟩)
def Gh(wd now given births:Int)(ks:List Kd)(ps:List Pd)(ls:List Ld)(kd:Int)(s nm:Zi)(num:Int)(text:Zi)(refs:Zl)(c:Int)(a b:Zi):Prop:=
 (kd=1/\GC wd given births ks ls text refs c a b)\/
 (a=⟨#[]⟩/\b=⟨#[]⟩/\(
   (kd=2/\((¬As ks s/\c=2)\/(As ks s/\(¬∃x∈ps,x.name=nm)/\ed ps=100/\c=4)))\/
   (kd=3/\(¬∃x∈ps,x.name=nm)/\c=5)\/
   (kd=4/\((¬As ks s/\c=2)\/(As ks s/\(ed ls=200\/given=1000000000)/\c=4)))\/
   (kd=5/\(¬∃x∈ls,x.M=num)/\c=5)\/
   (kd=6/\1000000000<now+num/\c=4)\/
   (kd=7/\((¬As ks s/\c=2)\/(As ks s/\Dw ps ls ks s/\c=6)))))
structure IQ (wd now given births:Int) (ks:List Kd) (ps:List Pd) (ls:List Ld) (kd num:Int) (text:Zi) (refs:Zl):Prop where
 bn:Dv wd ks
 w1:1<=wd
 np:ed ps<=100
 nl:ed ls<=200
 cw:ps.Pairwise (fun a b=>less a.name b.name=ay)
 fc:ls.Pairwise (fun a b=>a.M<b.M)
 dx:0<=now
 dv:now<=1000000000
 cj:0<=given
 cg:given<=1000000000
 bi:0<=births
 aj:births<=1000000000
 ju:1<=kd
 jy:kd<=7
 gu:0<=num
 ib:num<=1000000000
 cf:∀k∈ks,k.Q.size<=eo
 jw:text.size<=eo
 jv:ed refs<=1000
theorem Fe(b:Zi)(a:Zl)(c:Int)(h:1<=c):((Bm b a c).size:Int)=c:=Jw ⟨⟨#[]⟩,0,b,a⟩ c h
def Ka(base d m:Nat)(wd:Int)(r:Rs)(w:Zh):Prop:=∃O P L,Dr w base d m O P L wd r.G r.H r.E r.B r.ps r.ls
theorem MQ(k d m:Nat)(O P L:Dg){z:Int}{t:C5}{p:C7}{H:Int}(s y:Zi){n:Int}{l:Zi}{j:Zl}(C:Zk)(D:Nat)(w:Zh)(h:DU w k d m O P L z o g f t p u)(i:IQ z o g f t p u H n l j)(Y:En w k (vB d m O P L) C j):
 D4 136 #[Yy d,ca (Ye H s y n l C (ed j) D)] w λe B=>(∃c a b,Gh z o g f t p u H s y n l j c a b/\e=.panicked [{v:=bk c a b,recovered:=ba}]/\Tn (vB d m O P L) w B)\/(∃A q,e=C1 (ca #[Ze,Ze,Ze,Ze,Ze,Zb,Zb,Zb,C0 A,Zg q,Zc,Zc])/\(∃r,Db z o g f t p u H s y n l j r/\r.sm=A/\r.le=q/\Ka k d m z r B)/\Tn (vB d m O P L) w B):=by
 have S:∀b∈d::(ef P).toList,b∈vB d m O P L:=Hn;have R:∀b∈d::(ef L).toList,b∈vB d m O P L:=Hn;have I:∀X,Zz w X->DU X k d m O P L z o g f t p u:=λX E=>h.A E;obtain rfl|rfl|rfl|rfl|rfl|rfl|rfl:H=1\/H=2\/H=3\/H=4\/H=5\/H=6\/H=7:=by have:=i.ju;have:=i.jy;omega
 .refine(OZ s y l n D h i.bn i.w1 i.cf (Fe _ _ _ i.w1) i.jw i.jv i.bi i.aj Y i.nl i.cj i.cg i.dx i.dv i.gu i.ib).ah ?_;rintro e B (⟨c,a,b,W,rfl,F⟩|⟨T,aj,M,Z,K,J,rfl,U,Q,G,F⟩)
  .exact cr ⟨c,a,b,cr ⟨rfl,W⟩,rfl,F⟩
  exact ct ⟨_,_,rfl,⟨_,cr ⟨rfl,M,K,J,T,aj,Z,rfl⟩,rfl,rfl,⟨_,_,_,G.R⟩⟩,F⟩
 .by_cases hth:As t s
  .by_cases hroom:(∃x∈p,x.name=y)\/ed p<100
   .refine(Pc y l n C (ed j) D h i.bn.sz hth i.np i.cw hroom).ah ?_;rintro e B ⟨rfl,V,G,F⟩;exact ct ⟨_,_,rfl,⟨_,ct (cr ⟨rfl,hth,hroom,rfl⟩),rfl,rfl,⟨_,_,_,G.R⟩⟩,F.ah S⟩
   have N:¬∃x∈p,x.name=y:=gA;have A:ed p=100:=(by have:=i.np;have r:¬ed p<100:=λe=>hroom (ct e);omega);refine(Kw d s y l n C (ed j) D 4 ⟨#[]⟩ ⟨#[]⟩ w (λX E=>Wn y (I X E) i.bn.sz hth A i.cw N)).ah ?_;rintro e B ⟨rfl,q⟩;exact cr ⟨4,_,_,ct ⟨rfl,rfl,cr ⟨rfl,ct ⟨hth,N,A,rfl⟩⟩⟩,rfl,Tn.of q⟩
  refine(Kw d s y l n C (ed j) D 2 ⟨#[]⟩ ⟨#[]⟩ w (λX E=>Ra y s (I X E) i.bn.sz hth)).ah ?_;rintro e B ⟨rfl,q⟩;exact cr ⟨2,_,_,ct ⟨rfl,rfl,cr ⟨rfl,cr ⟨hth,rfl⟩⟩⟩,rfl,Tn.of q⟩
 .by_cases hth:∃x∈p,x.name=y
  .refine(MA s y l n C (ed j) D h (C8 i.np) i.cw hth).ah ?_;rintro e B ⟨rfl,V,G,F⟩;exact ct ⟨_,_,rfl,⟨_,ct (ct (cr ⟨rfl,hth,rfl⟩)),rfl,rfl,⟨_,_,_,G.R⟩⟩,F.ah S⟩
  refine(Nn d s y l n C (ed j) D 5 ⟨#[]⟩ ⟨#[]⟩ w (λX E=>Wl y (I X E) (C8 i.np) i.cw hth)).ah ?_;rintro e B ⟨rfl,q⟩;exact cr ⟨5,_,_,ct ⟨rfl,rfl,ct (cr ⟨rfl,hth,rfl⟩)⟩,rfl,Tn.of q⟩
 .by_cases hth:As t s
  .by_cases A:ed u=200\/g=1000000000
   .refine(Jn d s y l n C (ed j) D 4 ⟨#[]⟩ ⟨#[]⟩ w (λX E=>NX n (I X E) i.bn.sz hth A)).ah ?_;rintro e B ⟨rfl,q⟩;exact cr ⟨4,_,_,ct ⟨rfl,rfl,ct (ct (cr ⟨rfl,ct ⟨hth,A,rfl⟩⟩))⟩,rfl,Tn.of q⟩
   have K:ed u<200:=C8 i.nl;have J:g<1000000000:=C8 i.cg;refine(MB y l n C (ed j) D h i.bn.sz hth K i.cj J i.dx i.dv i.gu i.ib).ah ?_;rintro e B ⟨rfl,Q,G,F⟩;exact ct ⟨_,_,rfl,⟨_,ct (ct (ct (cr ⟨rfl,hth,K,J,rfl⟩))),rfl,rfl,⟨_,_,_,G.R⟩⟩,F.ah R⟩
  refine(Jn d s y l n C (ed j) D 2 ⟨#[]⟩ ⟨#[]⟩ w (λX E=>PS s n (I X E) i.bn.sz hth)).ah ?_;rintro e B ⟨rfl,q⟩;exact cr ⟨2,_,_,ct ⟨rfl,rfl,ct (ct (cr ⟨rfl,cr ⟨hth,rfl⟩⟩))⟩,rfl,Tn.of q⟩
 .by_cases hth:∃x∈u,x.M=n
  .refine(Nk s y l n C (ed j) D h i.nl i.fc hth).ah ?_;rintro e B ⟨rfl,Q,G,F⟩;exact ct ⟨_,_,rfl,⟨_,ct (ct (ct (ct (cr ⟨rfl,hth,rfl⟩)))),rfl,rfl,⟨_,_,_,G.R⟩⟩,F.ah R⟩
  refine(OL d s y l n C (ed j) D 5 ⟨#[]⟩ ⟨#[]⟩ w (λX E=>Aaj n (I X E) i.nl i.fc hth)).ah ?_;rintro e B ⟨rfl,q⟩;exact cr ⟨5,_,_,ct ⟨rfl,rfl,ct (ct (ct (cr ⟨rfl,hth,rfl⟩)))⟩,rfl,Tn.of q⟩
 .by_cases hs:o+n<=1000000000
  .refine(Nl s y l n C (ed j) D h i.nl i.dx i.gu hs).ah ?_;rintro e B ⟨rfl,Q,G,F⟩;exact ct ⟨_,_,rfl,⟨_,ct (ct (ct (ct (ct (cr ⟨rfl,hs,rfl⟩))))),rfl,rfl,⟨_,_,_,G.R⟩⟩,F.ah R⟩
  refine(OM d s y l n C (ed j) D 4 ⟨#[]⟩ ⟨#[]⟩ w (λX E=>Ut n (I X E) i.dx i.dv i.gu i.ib Yv)).ah ?_;rintro e B ⟨rfl,q⟩;exact cr ⟨4,_,_,ct ⟨rfl,rfl,ct (ct (ct (ct (cr ⟨rfl,Yv,rfl⟩))))⟩,rfl,Tn.of q⟩
 by_cases hth:As t s
 .by_cases huse:Dw p u t s
  .refine(Mb y l n C (ed j) D h.R i.bn i.np i.nl hth huse).ah ?_;rintro e B ⟨rfl,q⟩;exact cr ⟨6,_,_,ct ⟨rfl,rfl,ct (ct (ct (ct (ct ⟨rfl,ct ⟨hth,huse,rfl⟩⟩))))⟩,rfl,Tn.of q⟩
  refine(MP y l n C (ed j) D h.R i.bn i.np i.nl hth huse).ah ?_;rintro e B ⟨rfl,U,G,_,F⟩;exact ct ⟨_,_,rfl,⟨_,ct (ct (ct (ct (ct (ct ⟨rfl,hth,huse,rfl⟩))))),rfl,rfl,⟨_,_,_,G⟩⟩,F⟩
 refine(Ke s y l n C (ed j) D h.R i.bn.sz hth).ah ?_;rintro e B ⟨rfl,q⟩;exact cr ⟨2,_,_,ct ⟨rfl,rfl,ct (ct (ct (ct (ct ⟨rfl,cr ⟨hth,rfl⟩⟩))))⟩,rfl,Tn.of q⟩
section
theorem OA{A:Type}{R:A->A->Prop}(r:∀a b c,R a b->R b c->R a c){e:List A}(h:∀(j:Nat) p q,e[j]?=ai p->e[j+1]?=ai q->R p q):e.Pairwise R:=by
 have k:∀(d i:Nat) u v,e[i]?=ai u->e[i+d+1]?=ai v->R u v:=by
  intro d;induction d with
  |zero=>intro i u v g f;exact h i u v g f
  |succ d ih=>intro i u v g f;have o:=(Zw f).1;have s:e[i+d+1]?=ai e[i+d+1]:=gA;exact gG
 rw[pairwise_iff_getElem];intro i j l m n;exact k (j -i -1) i _ _ (Zv l) (by rw[show i+(j -i -1)+1=j by omega];exact Zv m)
theorem Jh.aw{d:Int}{c:C5}{l:C7}{j:C6}(h:Jh d e b a c l j):∀k∈c,FO k.Q k.C d:=λk g=>by have⟨i,f⟩:=A3 g;exact Bs (h.th i k f).ok
theorem Jh.bn{d:Int}{f:C5}{w:C7}{t:C6}(h:Jh g o d c f w t):Dv g f:=by
 have x:∀k∈f,(k.sum.size:Int)=g:=λk e=>by have⟨i,r⟩:=A3 e;rw[(h.th i k r).sum];exact Jw k g h.gi.jt
 have l:(f.map (·.sum)).Pairwise (λa b=>less a b=ay):=by refine YX (λj p q m n=> ?_);rw[getElem?_map]at m n;obtain⟨u,s,rfl⟩:=Option.map_eq_some_iff.1 m;obtain⟨v,m,rfl⟩:=Option.map_eq_some_iff.1 n;exact(h.th (j+1) v m).up j u rfl s
 exact⟨Ln l,l,x,λk e=>⟨C8 (h.aw k e).C,NT (h.aw k e).all⟩,h.nth,h.gi.wd2⟩
theorem FV{e:Zi}{d:Int}{b:Zi}{a:Zl}(h:Ca c s e d b a f=ay):1<=c/\c<=7/\YY c.toNat s e d b a f:=by unfold Ca at h;simp only[Bool.and_eq_true,decide_eq_true_eq]at h;exact⟨h.1.1,h.1.2,Ea h.2⟩
theorem QA{g:Zi}{c:Zi}{a:Zl}(h:Ca f s g e c a i=ay):ed a<=30:=by
 unfold Ca at h;simp only[Bool.and_eq_true,decide_eq_true_eq]at h;have d:=h.2;unfold CL at d;simp only[Bool.and_eq_true,decide_eq_true_eq]at d;have b:=d.2.2.2.2;unfold GN at b;split at b
 .exact(Bs b).C
 have j:=(of_decide_eq_true b).2;omega
theorem IQ.of{d:Int}{x:C5}{z:C7}{y:C6}(h:Jh r l f d x z y){w:Int}{E:Zi}{m:Int}{g:Zi}{i:Zl}(v:Ca w s E m g i r=ay)(B:g.size<=eo):IQ r l f d x z y w m g i:=by
 have⟨C,D,e⟩:=FV v;refine⟨h.bn,h.gi.jt,h.np,h.nl,?_,?_,h.gi.dv,h.gi.now2,h.gi.cg,h.gi.given2,h.gi.aj,h.gi.births2,C,D,e.n0,e.n1,λk A=> ?_,B,C8 (QA v)⟩
 .exact OA (R:=λ(a b:Pd)=>less a.name b.name=ay) (λa b c t u=>CE t u) (λj p q n o=>(h.co (j+1) q o).up j p rfl n)
 .exact OA (R:=λ(a b:Ld)=>a.M<b.M) (λa b c t u=>Yv) (λj p q n o=>(h.ft (j+1) q o).up j p rfl n)
 have:=(h.aw k A).Q;unfold eo;omega
theorem OB(b:C5)(x:Kd):(DS b x).Perm (x::b):=by unfold DS;have c:(b.filter (λk=>less k.sum x.sum)++b.filter (λk=> !(less k.sum x.sum))).Perm b:=filter_append_perm _ _;rw[append_assoc];exact(perm_middle (a:=x) (l₁:=b.filter (λk=>less k.sum x.sum)) (l₂:=b.filter (λk=> !(less k.sum x.sum)))).ag (c.cons x)
theorem LF(a:C7)(n s:Zi):ed (Bj a n s)<=ed a+1/\((∃x∈a,x.name=n)->ed (Bj a n s)<=ed a):=by
 have h:∀(l:C7),ed (l.filter (λx=>less x.name n))+ed (l.filter (λx=> !(less x.name n)&& !decide (x.name=n)))+ed (l.filter (λx=>decide (x.name=n)))=ed l:=by
  intro l;induction l with
  |nil=>rfl
  |cons x l ih=>
   by_cases hn:x.name=n
   .simp[hn,Cz];omega
   cases hl:less x.name n<;>simp[hl,hn]<;>omega
 have b:=h a;unfold Bj;rw[Am,Am];refine⟨Yt,λ⟨x,hx,hxn⟩=> ?_⟩;have c:0<ed (a.filter (λx=>decide (x.name=n))):=Yt;simp;omega
theorem Gh.code{d:Int}{l:C5}{o:C7}{m:C6}{k:Int}{n:Zi}{g:Zi}{f:Zl}{a b:Zi}(h:Gh p i e d l o m k s n j g f c a b):2<=c/\c<=6:=by rcases h with⟨_,⟨_,rfl,_⟩|⟨_,⟨_,_,_,_,rfl,_⟩|⟨_,_,rfl,_⟩|⟨_,_,rfl,_⟩⟩⟩|⟨_,_,⟨_,⟨_,rfl⟩|⟨_,_,_,rfl⟩⟩|⟨_,_,rfl⟩|⟨_,⟨_,rfl⟩|⟨_,_,rfl⟩⟩|⟨_,_,rfl⟩|⟨_,_,rfl⟩|⟨_,⟨_,rfl⟩|⟨_,_,rfl⟩⟩⟩<;>omega
theorem Dr.fm{j:Nat}{O:Dg}{u:Int}{r:C5}{t:C7}{s:C6}(h:Dr w j d m O P L u o g b r t s){l:Array Value}(i:w.1[R]?=ai (bs l 81))(q:R≠d):R∉vB d m O P L:=by
 unfold vB;simp only[Bh,A5,A6,not_or];refine⟨q,?_,?_,?_,?_⟩
 .rintro rfl;have⟨n,f,_,p,_⟩:=h.map;obtain⟨D,⟨v,clock,k,_⟩,_⟩:=p;rw[i]at k;cases k
 .intro e;have⟨c,a⟩:=BN h.ord e;rw[i]at a;simp at a
 .intro e;have⟨c,a⟩:=BN h.co e;rw[i]at a;simp at a
 intro e;have⟨c,a⟩:=BN h.di e;rw[i]at a;simp at a
theorem Ka.stays{a:Nat}{r:Rs}{w':Zh}{i:Array Value}(h:Ka a d m g r w)(f:w.1[R]?=ai (bs i 81))(j:a<=R)(k:R≠d)(l:Tn [R] w w'):Ka a d m g r w':=by obtain⟨O,P,L,b⟩:=h;exact⟨O,P,L,b.apart l j (b.fm f k) (λc n e=>by rw[f]at e;simp at e)⟩
end
section
structure Gk (wd now given births:Int) (ks:List Kd) (ps:List Pd) (ls:List Ld):Prop where
 bn:Dv wd ks
 w1:1<=wd
 np:ed ps<=100
 nl:ed ls<=200
 cw:ps.Pairwise (fun a b=>less a.name b.name=ay)
 fc:ls.Pairwise (fun a b=>a.M<b.M)
 dx:0<=now
 dv:now<=1000000000
 cj:0<=given
 cg:given<=1000000000
 bi:0<=births
 aj:births<=1000000000
 cf:∀k∈ks,k.Q.size<=2000
 dz:∀k∈ks,ed k.C<=30
 gq:∀x∈ls,x.M<=given
theorem Gk.zero(b:1<=a)(c:a<=8):Gk a 0 0 0 [] [] []:=
 ⟨⟨Yu,Yu,Yu,by intro k d;simp at d,Yu,c⟩,b,Yu,Yu,Yu,Yu,Yv,Yv,Yv,Yv,Yv,Yv,Yu,Yu,Yu⟩
theorem Gk.jn{m:C5}{o:C7}{n:C6}{u:Zi}{c:Zi}{d:Zl}(h:Gk i f b a m o n)(j:Ca l s u g c d i=ay)(q:c.size<=eo):IQ i f b a m o n l g c d:=by have⟨r,t,e⟩:=FV j;exact⟨h.bn,h.w1,h.np,h.nl,h.cw,h.fc,h.dx,h.dv,h.cj,h.cg,h.bi,h.aj,r,t,e.n0,e.n1,λk p=>by have:=h.cf k p;unfold eo;omega,q,C8 (QA j)⟩
theorem QB{g:Zi}{a:Zi}{c:Zl}(h:Ca f s g e a c i=ay):a.size<=2000:=by
 unfold Ca at h;simp only[Bool.and_eq_true,decide_eq_true_eq]at h;have d:=h.2;unfold CL at d;simp only[Bool.and_eq_true,decide_eq_true_eq]at d;have b:=d.2.2.2.2;unfold GN at b;split at b
 .exact(Bs b).Q
 have j:=(of_decide_eq_true b).1;omega
theorem Rr{g:C7}(n s:Zi)(h:g.Pairwise (λa b=>less a.name b.name=ay)):(Bj g n s).Pairwise (λa b=>less a.name b.name=ay):=by
 unfold Bj;rw[pairwise_append,pairwise_append];have e:∀y∈g.filter (λx=> !(less x.name n)&& !decide (x.name=n)),less n y.name=ay:=λy d=>by have f:=(A8.1 d).2;simp only[Bool.and_eq_true,Bool.not_eq_true',decide_eq_false_iff_not]at f;exact Py f.1 f.2
 refine⟨⟨h.filter _,Yu,λx c y d=> ?_⟩,h.filter _,λx c y d=> ?_⟩
 .rw[mem_singleton]at d;subst d;exact(A8.1 c).2
 rcases A5.1 c with c|c
 .exact CE (A8.1 c).2 (e y d)
 rw[mem_singleton]at c;subst c;exact e y d
theorem Rt{f:C5}{x:Kd}(h:(f.map (·.sum)).Pairwise (λa b=>less a b=ay))(j:¬As f x.sum):((DS f x).map (·.sum)).Pairwise (λa b=>less a b=ay):=by
 rw[pairwise_map]at h |-;unfold DS;rw[pairwise_append,pairwise_append];have g:∀y∈f.filter (λk=> !(less k.sum x.sum)),less x.sum y.sum=ay:=λy c=>by have⟨l,i⟩:=A8.1 c;simp only[Bool.not_eq_true']at i;exact Py i (λe=>j ⟨y,l,e⟩)
 refine⟨⟨h.filter _,Yu,λy c z d=> ?_⟩,h.filter _,λy c z d=> ?_⟩
 .rw[mem_singleton]at d;subst d;exact(A8.1 c).2
 rcases A5.1 c with c|c
 .exact CE (A8.1 c).2 (g z d)
 rw[mem_singleton]at c;subst c;exact g z d
theorem Dv.drop{d:Int}{b:C5}(h:Dv d b)(t:Zi):Dv d (Ch b t):=by have a:(Ch b t).Sublist b:=filter_sublist;exact⟨h.nd.sublist (a.map _),h.ff.sublist (a.map _),λk c=>h.sz k (a.subset c),λk c=>h.C k (a.subset c),Zm a.length_le h.len,h.w8⟩
theorem Gk.step{d:Int}{v:C5}{D:C7}{w:C6}{F:Int}{B:Zi}{g:Zi}{f:Zl}(h:Gk o p c d v D w)(K:Ca F s B q g f o=ay){r:Rs}(n:Db o p c d v D w F s B q g f r):Gk o r.G r.H r.E r.B r.ps r.ls:=by
 obtain⟨W,X,e⟩:=FV K;have Q:=e.n0;have R:=e.n1;have m:∀x:Ld,x.M=c+1->(w++[x]).Pairwise (λa b=>a.M<b.M)/\∀y∈w++[x],y.M<=c+1:=λx A=>by
  refine⟨?_,λy n=> ?_⟩
  .rw[pairwise_append];refine⟨h.fc,Yu,λy n z i=> ?_⟩;rw[mem_singleton]at i;subst i;have:=h.gq y n;omega
  rcases A5.1 n with n|n
  .have:=h.gq y n;omega
  rw[mem_singleton]at n;subst n;omega
 rcases n with⟨rfl,_,M,L,S,T,n,rfl⟩|⟨_,_,l,rfl⟩|⟨_,_,rfl⟩|⟨_,_,M,L,rfl⟩|⟨_,_,rfl⟩|⟨_,N,rfl⟩|⟨_,_,_,rfl⟩
 .have C:ed (w++[(⟨c+1,Bm g f o,p+q⟩:Ld)])<=200:=Yt;obtain⟨t,G,u⟩:=m ⟨c+1,Bm g f o,p+q⟩ rfl,h.cj,Bs (e.fh rfl);rcases n with⟨_,_,_,_,rfl,rfl⟩|⟨I,P,U,rfl,rfl⟩
  .exact⟨h.bn,h.w1,h.np,C,h.cw,t.1,h.dx,h.dv,by show 0<=c+1;omega,by show c+1<=_;omega,h.bi,h.aj,h.cf,h.dz,t.2⟩
  have V:=OB v ⟨Bm g f o,d+1,g,f⟩;have O:=h.bi;have j:∀k∈DS v ⟨Bm g f o,d+1,g,f⟩,k=⟨Bm g f o,d+1,g,f⟩\/k∈v:=gG;have H:Dv o (DS v ⟨Bm g f o,d+1,g,f⟩):=by
   have E:=Rt (x:=⟨Bm g f o,d+1,g,f⟩) h.bn.ff I;refine⟨Ln E,E,λk i=> ?_,λk i=> ?_,by rw[Qs];omega,h.bn.w8⟩
   .rcases j k i with rfl|i
    .exact Fe _ _ _ h.w1
    exact h.bn.sz k i
   rcases j k i with rfl|i
   .exact⟨by have:=u.C;show ed f<=_;omega,NT u.all⟩
   exact h.bn.C k i
  refine⟨H,h.w1,h.np,C,h.cw,t.1,h.dx,h.dv,by show 0<=c+1;omega,by show c+1<=_;omega,by show 0<=d+1;omega,by show d+1<=_;omega,λk i=> ?_,λk i=> ?_,t.2⟩
  .rcases j k i with rfl|i
   .exact u.Q
   exact h.cf k i
  rcases j k i with rfl|i
  .exact u.C
  exact h.dz k i
 .have J:=LF D B s;refine⟨h.bn,h.w1,?_,h.nl,Rr B s h.cw,h.fc,h.dx,h.dv,h.cj,h.cg,h.bi,h.aj,h.cf,h.dz,h.gq⟩;rcases l with l|l
  .exact Zm (J.2 l) h.np
  exact gG
 .exact⟨h.bn,h.w1,Zm (length_filter_le _ _) h.np,h.nl,h.cw.filter _,h.fc,h.dx,h.dv,h.cj,h.cg,h.bi,h.aj,h.cf,h.dz,h.gq⟩
 .have t:=m ⟨c+1,s,p+q⟩ rfl;have G:=h.cj;exact⟨h.bn,h.w1,h.np,Yt,h.cw,t.1,h.dx,h.dv,by show 0<=c+1;omega,by show c+1<=_;omega,h.bi,h.aj,h.cf,h.dz,t.2⟩
 .exact⟨h.bn,h.w1,h.np,Zm (length_filter_le _ _) h.nl,h.cw,h.fc.filter _,h.dx,h.dv,h.cj,h.cg,h.bi,h.aj,h.cf,h.dz,λx A=>h.gq x (A8.1 A).1⟩
 .have:=h.dx;exact⟨h.bn,h.w1,h.np,Zm (length_filter_le _ _) h.nl,h.cw,h.fc.filter _,by show 0<=p+q;omega,N,h.cj,h.cg,h.bi,h.aj,h.cf,h.dz,λx A=>h.gq x (A8.1 A).1⟩
 exact⟨h.bn.drop s,h.w1,h.np,h.nl,h.cw,h.fc,h.dx,h.dv,h.cj,h.cg,h.bi,h.aj,λk i=>h.cf k (A8.1 i).1,λk i=>h.dz k (A8.1 i).1,h.gq⟩
end
theorem NA(o f c b:Int){a:Zk}(p l:Zk)(n m k j i:Nat){d:C5}(s:Zi)(q:BH w w.1.size a d)(S:ed d<=1000)(r:¬As d s):
 D4 129 #[ca (Yg o f c b a (ed d) n p m k l j i),C0 s] w λe g=>e=C1 (ca (ee (Cp 2 ⟨#[]⟩ ⟨#[]⟩)))/\Zz w g:=by
 have⟨W,g⟩:=Ag ((w.alloc (bs (Yg o f c b a (ed d) n p m k l j i) 30)).alloc (bs Yd 81));have h:=(AT g).1;have y:=(AT g).2.2.1;have z:Aa W (w.1.size+1) z12:=by have x:=Aa.new (w.alloc (bs (Yg o f c b a (ed d) n p m k l j i) 30)) z12 81;rw[Aq]at x;rw[g];exact x
 obtain⟨t,R,u,A,v0,B,C,D,E,F,G,H⟩:=Yw (FK o f c b n (Cx p m k) (Cx l j i) s (BH.A q h) h.size Yv),Js r,Yw g,Yw z,Cq y;clear g y z q r;delta D4;go_in;go_upto_region 1 with fail;rw[<-u.o];clear u;go_wp2_with fail;refine t.Ak ?_;rintro e y ⟨rfl,g⟩;obtain⟨⟨z,V⟩,⟨I,X⟩,⟨J,Y⟩,⟨K,Z⟩,⟨L,q4⟩,⟨M,q5⟩,⟨N,q6⟩,⟨O,q7⟩,⟨P,q8⟩,⟨Q,q9⟩,⟨r,T⟩,u,U⟩:=Br (Aa.A (v:=Ze) A g);have q:=h.ag (g.ah h.size);generalize Df d s=fi at *
 clear v0 B C D E F G H t;go_wp2;refine Co (ca (ee (Cp 2 ⟨#[]⟩ ⟨#[]⟩))) (by simp[results,results129,go_sem,z,I,J,K,L,M,N,O,P,Q,r,u,Cp]) ?_;exact⟨rfl,q.ag (Tn.A (Bw y (w.1.size+1) _ _ _ _ _ _ _ _ _ _ _ _) q.size gA)⟩
