import Derived.Test.YtoglnpagihdhpaaGreatDoorX22
import Derived.Test.YtoglnpagihdhpaaGreatDoorX23
import Derived.Test.YtoglnpagihdhpaaGreatDoorX09
import Derived.Test.YtoglnpagihdhpaaGreatDoorX14
set_option maxRecDepth 100000
set_option maxHeartbeats 16000000
namespace Go.Proofs.YtoglnpagihdhpaaGreatDoor
open ChangeShapes WideShapes ChangeAt RowKit _root_.Go.Proofs.Tryz
variable{ps:List Pd}{k n d m R B:Nat}{x s nm text a b:Zi}{ks:List Kd}{kd num wd now given births c:Int}{refs:Zl}{ls:List Ld}{w:Zh}
def DL(ps:List Pd)(n:Zi):Bool:= !(ps.all (fun x=>less x.name n))
def BU(ps:List Pd)(n s:Zi):List Pd:=ps.filter (fun x=>less x.name n)++(if DL ps n then [⟨n,s⟩]else [])++ps.filter (fun x=> !(less x.name n)&& !decide (x.name=n))
theorem Hx{x:Pd}(n:Zi)(b:ps[k]?=some x):DL (ps.take (k+1)) n=(DL (ps.take k) n|| !(less x.name n)):=by obtain⟨a,rfl⟩:=Zw b;unfold DL;rw[Zu a,List.all_append];simp
theorem FM{n:Zi}(h:DL ps n=false):ps.filter (fun x=> !(less x.name n)&& !decide (x.name=n))=[]:=by
 rw[List.filter_eq_nil_iff];intro x a;have:less x.name n=true:=by unfold DL at h;simp only[Bool.not_eq_false']at h;exact List.all_eq_true.1 h x a
 simp[this]
theorem Sv{x:Pd}(n s:Zi)(d:ps[k]?=some x)(b:DL (ps.take k) n=false)(c:less x.name n=true):BU (ps.take (k+1)) n s=BU (ps.take k) n s++[x]:=by have a:=Hx n d;rw[b,c]at a;unfold BU;rw[FM b,FM (by rw[a];rfl),a,b];obtain⟨e,rfl⟩:=Zw d;rw[Zu e,List.filter_append];simp[c]
theorem XX{x:Pd}(n s:Zi)(d:ps[k]?=some x)(a:DL (ps.take k) n=false)(c:less x.name n=false):BU (ps.take (k+1)) n s=BU (ps.take k) n s++[⟨n,s⟩]++(if x.name=n then []else [x]):=by
 have b:=Hx n d;rw[a,c]at b;unfold BU;rw[FM a,b,a];have f:=FM a;obtain⟨e,rfl⟩:=Zw d;rw[Zu e,List.filter_append,List.filter_append,f];by_cases hn:ps[k].name=n
 .simp[hn,BI]
 .simp[c,hn]
theorem Ue{x:Pd}(n s:Zi)(f:ps.Pairwise (fun a b=>less a.name b.name=true))(o:ps[k]?=some x)(g:DL (ps.take k) n=true):x.name≠n/\BU (ps.take (k+1)) n s=BU (ps.take k) n s++[x]:=by
 have l:=Hx n o;rw[g,Bool.true_or]at l;obtain⟨i,rfl⟩:=Zw o;obtain⟨y,v,d⟩:∃y∈ps.take k,less y.name n=false:=by unfold DL at g;simpa using g
 obtain⟨j,t⟩:=List.getElem?_of_mem v;obtain⟨q,e⟩:=Zw t;rw[List.length_take]at q;rw[List.getElem_take]at e;have c:=List.pairwise_iff_getElem.1 f j k Yv i Yv;rw[e]at c;have u:less ps[k].name n=false:=by
  cases h:less ps[k].name n with
  |false=>rfl
  |true=>rw[Cb c h]at d;cases d
 have m:ps[k].name≠n:=fun r=>by rw[r]at c;rw[c]at d;cases d
 refine⟨m,?_⟩;unfold BU;rw[l,g,Zu i,List.filter_append,List.filter_append];simp[u,m]
theorem VG(n s:Zi)(a:DL ps n=true):BU ps n s=Bh ps n s:=by unfold BU Bh;rw[a];rfl
theorem XY(n s:Zi)(a:DL ps n=false):BU ps n s++[⟨n,s⟩]=Bh ps n s:=by unfold BU Bh;rw[a,FM a];simp
theorem Li(ps:List Pd)(n s:Zi):(BU ps n s).length<=ps.length+1:=by
 have h:∀(l:List Pd),(l.filter (fun x=>less x.name n)).length+(l.filter (fun x=> !(less x.name n)&& !decide (x.name=n))).length<=l.length:=by
  intro l;induction l with
  |nil=>simp
  |cons x l ih=>rw[List.filter_cons,List.filter_cons];cases less x.name n<;>by_cases hn:x.name=n<;>simp[hn]<;>omega
 have:=h ps;unfold BU;rw[List.length_append,List.length_append];split<;>simp<;>omega
def Wu(w w':Zh)(e:Ending)(wd now given births:Int)(T L:Value)(ps:List Pd)(n s:Zi):Prop:=
 Below w.heap.size w w'/\((100<(Bh ps n s).length/\e=.returned (.agg #[Zg 4,Ze,Ze,Ze,Ze,Zb,Zb,Zb,Zc,Ze,Zc,Zc]))\/
  ((Bh ps n s).length<=100/\∃g c,e=.returned (.agg #[Ze,Zg wd,Zg now,Zg given,Zg births,T,.slice (some ⟨g,0,none⟩) (Bh ps n s).length c,L,Zc,Ze,Zc,Zc])/\w'.ownsRow w.heap.size 69 2 (.slice (some ⟨g,0,none⟩) (Bh ps n s).length c) (Bh ps n s).length (Ab pC (Bh ps n s))))
theorem Uf(wd now given births kind num:Int)(Z pa la ra:Zk)(tc pc lc ln rn rc:Nat)(ks:List Kd)(ps:List Pd)(n s text:Zi)(w:Zh)(yR:Bu w w.heap.size Z ks)(zV:AO w w.heap.size pa ps)(xM:ks.length<=1000)(hl:ps.length<=1000)(yT:Au ks s)(zF:ps.Pairwise (fun a b=>less a.name b.name=true)):
 Calls prog 47 #[.agg (Yg wd now given births Z ks.length tc pa ps.length pc la ln lc),.agg (Xz kind s n num text ra rn rc)] w fun e w'=>Wu w w' e wd now given births (.slice Z ks.length tc) (.slice la ln lc) ps n s:=by
 obtain⟨W,hW⟩:=Af (((w.alloc (.cells (Yg wd now given births Z ks.length tc pa ps.length pc la ln lc) 30)).alloc (.cells (Xz kind s n num text ra rn rc) 38)).alloc (.cells Xy 32));have bW:=(Bo hW).1;have xC:=(Bo hW).2.1;have x0:=(Bo hW).2.2.1;have xe:Aa W (w.heap.size+1) (Ya kind s n num text ra rn rc):=by have h1:=Aa.new (w.alloc (.cells (Yg wd now given births Z ks.length tc pa ps.length pc la ln lc) 30)) (Ya kind s n num text ra rn rc) 38;rw[World.size_alloc]at h1;rw[hW];exact Aa.below h1 (Zy)
 have x1:Aa W (w.heap.size+2) z12:=by have h1:=Aa.new ((w.alloc (.cells (Yg wd now given births Z ks.length tc pa ps.length pc la ln lc) 30)).alloc (.cells (Xz kind s n num text ra rn rc) 38)) z12 32;rw[World.size_alloc,World.size_alloc]at h1;rw[hW];exact h1
 have yN:=Yw (Ey wd now given births Z tc (.slice pa ps.length pc) (.slice la ln lc) ks s W w.heap.size (Bu.below yR bW) bW.size Yv);have xK:¬CJ ks s<0:=by
  rcases Eg ks s with⟨_,hn⟩|⟨i,k,e,_⟩
  .exact absurd yT hn
  .omega
 have j:Hid (∀X,Below (w.heap.size+3) W X->Aa X w.heap.size (Yh wd now given births Z ks.length tc pa ps.length pc la ln lc)/\Aa X (w.heap.size+1) (Ya kind s n num text ra rn rc)/\Aa X (w.heap.size+2) z12):=fun X hX=>⟨Aa.same x0 (hX.block _ Yv),Aa.same xe (hX.block _ Yv),Aa.same x1 (hX.block _ Yv)⟩;have HW:=Yw hW;have d:w.heap.size+3<=W.heap.size:=Yv
 have HR:Hid (AO w w.heap.size pa ps):=zV;have yM:Hid (Zz w W):=bW;have yX:=Yw zF;obtain⟨v0,o,r,t,u,y,z,P⟩:=AQ x0;obtain⟨m,_⟩:=xe 1 _ rfl;clear hW xC x0 x1 xe zV bW yR yT zF;go_enter func47,ntmps47;go_upto_region 1 with fail;rw[<-HW.o];clear HW;go_wp2_with fail;refine yN.Ah ?_;rintro e W1 ⟨rfl,yB⟩;have yK:w.heap.size+3<=W1.heap.size:=Zm d yB.size
 have yV:Hid (Below (w.heap.size+3) W W1):=yB.mono d;have bA:Below W1.heap.size W1 (W1.alloc (.cells #[] 69)):=Zy;have yO:Hid ((W1.alloc (.cells #[] 69)).ownsRow (w.heap.size+3) 69 2 (Yz W1.heap.size 0 0) 0 []):=World.ownsRow_lit (base:=w.heap.size+3) (e:=69) (size:=2) W1 #[] 0 Yv Yo rfl
 have yL:Hid (Below (w.heap.size+3) W (W1.alloc (.cells #[] 69))):=yV.o.trans (bA.mono yK);generalize CJ ks s=fi at *
 clear yN bA yB m v0 o r t u y z P;go_wp2
 go_loopw [5,6,7] (fun v dn i wr=>∃(k g c:Nat),k<=ps.length/\i=Zg k/\dn=.bool (DL (ps.take k) n)/\v=Yz g (BU (ps.take k) n s).length c/\Hid (wr.ownsRow (w.heap.size+3) 69 2 (Yz g (BU (ps.take k) n s).length c) (BU (ps.take k) n s).length (Ab pC (BU (ps.take k) n s))/\Below (w.heap.size+3) W wr)) (fun _ _ i _=>ps.length -(intOf i).toNat)
 case atStart=>exact⟨0,W1.heap.size,0,Nat.zero_le _,rfl,rfl,by simp[BU,DL],⟨by simpa [BU,DL,Ab]using yO.o,yL.o⟩⟩
 case round=>
  clear yO yL;obtain⟨k,g,c,hk,rfl,rfl,rfl,N⟩:=hrel;have zM:Below w.heap.size w wr:=yM.o.trans (N.o.2.mono Yv);have yD:w.heap.size+3<=wr.heap.size:=Zm d N.o.2.size;obtain⟨v0,o,r,t,u,y,z,P⟩:=AQ (j.o _ N.o.2).1;obtain⟨m,D⟩:=Aa.c2 ((j.o _ N.o.2).2.1) 1 2;by_cases hlt:k<ps.length
  .obtain⟨L,zZ,ha,hb,yP⟩:=(AO.below HR.o zM).at hlt;subst ha;have HG:Hid (ps[k]?=some ps[k]):=Zv hlt;obtain⟨E,F⟩:=yP k _ HG.o;have yW:∀X,Below (w.heap.size+3) W X->X.cell? (Zd L (zZ+k *2))=some (.string ps[k].name)/\X.cell? (Zd L (zZ+k *2+1))=some (.string ps[k].sum):=fun X hX=>by obtain⟨b2,xH,e2,_,xA⟩:=(AO.below HR.o (yM.o.trans (hX.mono Yv))).at hlt;cases e2;exact xA k _ HG.o
   have xL:(BU (ps.take k) n s).length<=1001:=by have:=Li (ps.take k) n s;rw[List.length_take]at this;omega
   have yJ:L<wr.heap.size:=by have:=zM.size;omega
   clear yP;have G:=Yw (Sv n s HG.o);have zJ:=Yw (XX n s HG.o);have I:=Yw (Ue n s yX.o HG.o);have HD:=Yw (Hx n HG.o);generalize ps[k]=x at *
   generalize hGk:BU (ps.take k) n s=gk at *
   generalize hDk:DL (ps.take k) n=dk at *
   have xI:=Yw hGk;clear hGk hDk;have R:=Yw yW;have zA:=N.o.2;have yA:=N.o.1;have xR:=yD;have xP:=yJ;cases dk with
   |true=>
    obtain⟨K,hE⟩:=I.o rfl;have HE:=Yw hE;have zG:Hid (DL (ps.take (k+1)) n=true):=by show _=_;rw[HD.o];rfl
    have zH:(x.name.toList==n.toList)=false:=Bz K;have T:(x.name.toList !=n.toList)=true:=by simp[bne,zH]
    clear hE G zJ I K N;go_wp2;go_quiet (fail);have H:Below wr.heap.size wr (wr.drewN nq):=AZ Ae _;generalize wr.drewN nq=wa at *
    have h:Below (w.heap.size+3) W wa:=zA.trans (H.mono (Zm d zA.size));have U:=Ag yA H;have zE:w.heap.size+3<=wa.heap.size:=Zm d h.size;have yE:L<wa.heap.size:=Yv
    clear E F m D v0 o r t u y z;obtain⟨v0,o,r,t,u,y,z,P⟩:=AQ (j.o _ h).1;obtain⟨m,D⟩:=Aa.c2 ((j.o _ h).2.1) 1 2;obtain⟨E,F⟩:=R.o wa h;go_wp2;go_quiet (fail);have H:Below wa.heap.size wa (wa.drewN nq):=AZ Ae _;generalize wa.drewN nq=wb at *
    have O:Below (w.heap.size+3) W wb:=h.trans (H.mono (Zm d h.size));have zN:=Ag U H;have zS:w.heap.size+3<=wb.heap.size:=Zm d O.size;have xD:L<wb.heap.size:=Yv
    clear E F m D v0 o r t u y z;obtain⟨v0,o,r,t,u,y,z,P⟩:=AQ (j.o _ O).1;obtain⟨m,D⟩:=Aa.c2 ((j.o _ O).2.1) 1 2;obtain⟨E,F⟩:=R.o wb O;obtain⟨S,l,wc,C,B,A,_⟩:=IX wb (w.heap.size+3) _ gk zN x Yl zS 27;have f:Below (w.heap.size+3) W wc:=O.trans (Ae.grown A zS (fun q e=>(Ac zN e).1));have yG:w.heap.size+3<=wc.heap.size:=Zm d f.size
    have yF:L<wc.heap.size:=Yv
    have Y:=B;clear B A;go_wp2_with (at_builtin;refine wpList_append_run rfl _ _ 27 27 rfl rfl rfl C ?_);clear C;clear E F m D v0 o r t u y z;obtain⟨v0,o,r,t,u,y,z,P⟩:=AQ (j.o _ f).1;obtain⟨m,D⟩:=Aa.c2 ((j.o _ f).2.1) 1 2;obtain⟨E,F⟩:=R.o wc f;have J:=Yw (Zn Y f);clear Y f;go_wp2
    exact⟨⟨k+1,S,l,Yv,Yn,by rw[zG.o],by rw[HE.o];simp,⟨by rw[HE.o];simpa using J.o.1,J.o.2⟩⟩,Ys⟩
   |false=>
    cases hless:Op.bytesLess x.name.toList n.toList with
    |true=>
     have HE:=Yw (G.o rfl hless);have zG:Hid (DL (ps.take (k+1)) n=false):=by show _=_;rw[HD.o];unfold less;rw[hless];rfl
     have K:x.name≠n:=fun e=>by have:=BI n;unfold less at this;rw[e,this]at hless;cases hless
     have zH:(x.name.toList==n.toList)=false:=Bz K;have T:(x.name.toList !=n.toList)=true:=by simp[bne,zH]
     clear G zJ I K N;go_wp2;go_quiet (fail);have H:Below wr.heap.size wr (wr.drewN nq):=AZ Ae _;generalize wr.drewN nq=wa at *
     have h:Below (w.heap.size+3) W wa:=zA.trans (H.mono (Zm d zA.size));have U:=Ag yA H;have zE:w.heap.size+3<=wa.heap.size:=Zm d h.size;have yE:L<wa.heap.size:=Yv
     clear E F m D v0 o r t u y z;obtain⟨v0,o,r,t,u,y,z,P⟩:=AQ (j.o _ h).1;obtain⟨m,D⟩:=Aa.c2 ((j.o _ h).2.1) 1 2;obtain⟨E,F⟩:=R.o wa h;go_wp2;go_quiet (fail);have H:Below wa.heap.size wa (wa.drewN nq):=AZ Ae _;generalize wa.drewN nq=wb at *
     have O:Below (w.heap.size+3) W wb:=h.trans (H.mono (Zm d h.size));have zN:=Ag U H;have zS:w.heap.size+3<=wb.heap.size:=Zm d O.size;have xD:L<wb.heap.size:=Yv
     clear E F m D v0 o r t u y z;obtain⟨v0,o,r,t,u,y,z,P⟩:=AQ (j.o _ O).1;obtain⟨m,D⟩:=Aa.c2 ((j.o _ O).2.1) 1 2;obtain⟨E,F⟩:=R.o wb O;obtain⟨S,l,wc,C,B,A,_⟩:=IX wb (w.heap.size+3) _ gk zN x Yl zS 27;have f:Below (w.heap.size+3) W wc:=O.trans (Ae.grown A zS (fun q e=>(Ac zN e).1));have yG:w.heap.size+3<=wc.heap.size:=Zm d f.size
     have yF:L<wc.heap.size:=Yv
     have Y:=B;clear B A;go_wp2_with (at_builtin;refine wpList_append_run rfl _ _ 27 27 rfl rfl rfl C ?_);clear C;clear E F m D v0 o r t u y z;obtain⟨v0,o,r,t,u,y,z,P⟩:=AQ (j.o _ f).1;obtain⟨m,D⟩:=Aa.c2 ((j.o _ f).2.1) 1 2;obtain⟨E,F⟩:=R.o wc f;have J:=Yw (Zn Y f);clear Y f;go_wp2
     exact⟨⟨k+1,S,l,Yv,Yn,by rw[zG.o],by rw[HE.o];simp,⟨by rw[HE.o];simpa using J.o.1,J.o.2⟩⟩,Ys⟩
    |false=>
     have zX:=Yw (zJ.o rfl hless);have zG:Hid (DL (ps.take (k+1)) n=true):=by show _=_;rw[HD.o];unfold less;rw[hless];rfl
     by_cases K:x.name=n
     .have zH:(x.name.toList==n.toList)=true:=by rw[K];simp
      have T:(x.name.toList !=n.toList)=false:=by rw[K];simp
      have HE:Hid (BU (ps.take (k+1)) n s=gk++[⟨n,s⟩]):=by show _=_;rw[zX.o,if_pos K,List.append_nil]
      clear G zJ I K N zX;go_wp2;go_quiet (fail);have H:Below wr.heap.size wr (wr.drewN nq):=AZ Ae _;generalize wr.drewN nq=wa at *
      have h:Below (w.heap.size+3) W wa:=zA.trans (H.mono (Zm d zA.size));have U:=Ag yA H;have zE:w.heap.size+3<=wa.heap.size:=Zm d h.size;have yE:L<wa.heap.size:=Yv
      clear E F m D v0 o r t u y z;obtain⟨v0,o,r,t,u,y,z,P⟩:=AQ (j.o _ h).1;obtain⟨m,D⟩:=Aa.c2 ((j.o _ h).2.1) 1 2;obtain⟨E,F⟩:=R.o wa h;obtain⟨S,l,wc,C,B,A,_⟩:=IX wa (w.heap.size+3) _ gk U ⟨n,s⟩ Yl zE 27;have f:Below (w.heap.size+3) W wc:=h.trans (Ae.grown A zE (fun q e=>(Ac U e).1));have yG:w.heap.size+3<=wc.heap.size:=Zm d f.size
      have yF:L<wc.heap.size:=Yv
      have Y:=B;clear B A;go_wp2_with (at_builtin;refine wpList_append_run rfl _ _ 27 27 rfl rfl rfl C ?_);clear C;clear E F m D v0 o r t u y z;obtain⟨v0,o,r,t,u,y,z,P⟩:=AQ (j.o _ f).1;obtain⟨m,D⟩:=Aa.c2 ((j.o _ f).2.1) 1 2;obtain⟨E,F⟩:=R.o wc f;go_wp2;go_quiet (fail);have H:Below wc.heap.size wc (wc.drewN nq):=AZ Ae _;generalize wc.drewN nq=wd at *
      have M:Below (w.heap.size+3) W wd:=f.trans (H.mono (Zm d f.size));have zO:=Ag Y H;have yH:w.heap.size+3<=wd.heap.size:=Zm d M.size;have xE:L<wd.heap.size:=Yv
      clear E F m D v0 o r t u y z;obtain⟨v0,o,r,t,u,y,z,P⟩:=AQ (j.o _ M).1;obtain⟨m,D⟩:=Aa.c2 ((j.o _ M).2.1) 1 2;obtain⟨E,F⟩:=R.o wd M;have J:=Yw (Zn zO M);clear zO M;go_wp2;exact⟨⟨k+1,S,l,Yv,Yn,by rw[zG.o],by rw[HE.o];simp,⟨by rw[HE.o];simpa using J.o.1,J.o.2⟩⟩,Ys⟩
     .have zH:(x.name.toList==n.toList)=false:=Bz K;have T:(x.name.toList !=n.toList)=true:=by simp[bne,zH]
      have HE:Hid (BU (ps.take (k+1)) n s=(gk++[⟨n,s⟩])++[x]):=by show _=_;rw[zX.o,if_neg K]
      clear G zJ I K N zX;go_wp2;go_quiet (fail);have H:Below wr.heap.size wr (wr.drewN nq):=AZ Ae _;generalize wr.drewN nq=wa at *
      have h:Below (w.heap.size+3) W wa:=zA.trans (H.mono (Zm d zA.size));have U:=Ag yA H;have zE:w.heap.size+3<=wa.heap.size:=Zm d h.size;have yE:L<wa.heap.size:=Yv
      clear E F m D v0 o r t u y z;obtain⟨v0,o,r,t,u,y,z,P⟩:=AQ (j.o _ h).1;obtain⟨m,D⟩:=Aa.c2 ((j.o _ h).2.1) 1 2;obtain⟨E,F⟩:=R.o wa h;obtain⟨S,l,wc,C,B,A,_⟩:=IX wa (w.heap.size+3) _ gk U ⟨n,s⟩ Yl zE 27;have f:Below (w.heap.size+3) W wc:=h.trans (Ae.grown A zE (fun q e=>(Ac U e).1));have yG:w.heap.size+3<=wc.heap.size:=Zm d f.size
      have yF:L<wc.heap.size:=Yv
      have Y:=B;clear B A;go_wp2_with (at_builtin;refine wpList_append_run rfl _ _ 27 27 rfl rfl rfl C ?_);clear C;clear E F m D v0 o r t u y z;obtain⟨v0,o,r,t,u,y,z,P⟩:=AQ (j.o _ f).1;obtain⟨m,D⟩:=Aa.c2 ((j.o _ f).2.1) 1 2;obtain⟨E,F⟩:=R.o wc f;go_wp2;go_quiet (fail);have H:Below wc.heap.size wc (wc.drewN nq):=AZ Ae _;generalize wc.drewN nq=wd at *
      have M:Below (w.heap.size+3) W wd:=f.trans (H.mono (Zm d f.size));have zO:=Ag Y H;have yH:w.heap.size+3<=wd.heap.size:=Zm d M.size;have xE:L<wd.heap.size:=Yv
      clear E F m D v0 o r t u y z;obtain⟨v0,o,r,t,u,y,z,P⟩:=AQ (j.o _ M).1;obtain⟨m,D⟩:=Aa.c2 ((j.o _ M).2.1) 1 2;obtain⟨E,F⟩:=R.o wd M;obtain⟨g9,yI,we,zW,zU,zT,_⟩:=IX wd (w.heap.size+3) _ (gk++[⟨n,s⟩]) zO x Yl yH 27;have zI:Below (w.heap.size+3) W we:=M.trans (Ae.grown zT yH (fun q e=>(Ac zO e).1));have xQ:w.heap.size+3<=we.heap.size:=Zm d zI.size
      have xO:L<we.heap.size:=Yv
      have yU:=zU;clear zU zT;go_wp2_with (at_builtin;refine wpList_append_run rfl _ _ 27 27 rfl rfl rfl zW ?_);clear zW;clear E F m D v0 o r t u y z;obtain⟨v0,o,r,t,u,y,z,P⟩:=AQ (j.o _ zI).1;obtain⟨m,D⟩:=Aa.c2 ((j.o _ zI).2.1) 1 2;obtain⟨E,F⟩:=R.o we zI;have J:=Yw (Zn yU zI);clear yU zI;go_wp2
      exact⟨⟨k+1,g9,yI,Yv,Yn,by rw[zG.o],by rw[HE.o];simp,⟨by rw[HE.o];simpa using J.o.1,J.o.2⟩⟩,Ys⟩
  .obtain rfl:k=ps.length:=Yv
   have hO:=N.o.1;rw[Zt (Zx)]at hO |-;have Q:Hid (Zz w wr):=zM;cases hDn:DL ps n with
   |true=>
    have zC:=VG n s hDn;rw[zC]at hO |-;have J:=Yw hO;have yZ:=Li ps n s;rw[zC]at yZ;have f5:=((j.o _ N.o.2).1 5 _ rfl).2;obtain⟨⟨y0,q0⟩,⟨y1,q1⟩,⟨y2,q2⟩,⟨y3,q3⟩,⟨y4,q4⟩,⟨y5,q5⟩,⟨y6,q6⟩,⟨y7,q7⟩,⟨y8,q8⟩,⟨y9,q9⟩,⟨zP,xF⟩,zR,xG⟩:=AS (j.o _ N.o.2).2.2;clear hDn zC zM N m D;by_cases hbig:100<(Bh ps n s).length
    .have T:(100:Int)<((Bh ps n s).length:Int):=Yv
     have zB:Hid (100<(Bh ps n s).length):=hbig;clear hbig hO;go_wp2;refine bodyPost_ret (v:=.agg (Xx 4)) (by simp[results,results47,go_sem,y0,y1,y2,y3,y4,y5,y6,y7,y8,y9,zP,zR]) rfl ?_;exact⟨Q.o.trans (Tn.below (Ba wr (w.heap.size+2) _ _ _ _ _ _ _ _ _ _ _ _) Q.o.size (by intro v hv;simp at hv;omega)),.inl ⟨zB.o,rfl⟩⟩
    .have T:¬(100:Int)<((Bh ps n s).length:Int):=Yv
     have zB:Hid ((Bh ps n s).length<=100):=by show _<=_;omega
     clear hbig hO;go_wp2;refine bodyPost_ret (v:=.agg #[Ze,Zg wd,Zg now,Zg given,Zg births,.slice Z ks.length tc,Yz g (Bh ps n s).length c,.slice la ln lc,Zc,Ze,Zc,Zc]) (by simp[results,results47,go_sem,y0,y1,y2,y3,y4,y5,y6,y7,y8,y9,zP,zR]) rfl ?_
     have T':=(Tn.set (V:=[w.heap.size,w.heap.size+2]) wr w.heap.size 5 (Yz g (Bh ps n s).length c) Yu).trans (Tn.mono (Ba (wr.setCell (Zd (w.heap.size) 5) (Yz g (Bh ps n s).length c)) (w.heap.size+2) Ze (Zg wd) (Zg now) (Zg given) (Zg births) (.slice Z ks.length tc) (Yz g (Bh ps n s).length c) (.slice la ln lc) Zc Ze Zc Zc) Yu)
     exact⟨Q.o.trans (T'.below Q.o.size (by intro v hv;simp at hv;omega)),.inr ⟨zB.o,g,c,rfl,(Ak J.o (fun q T=>T'.block q (Ac J.o T).2 (by have:=(Ac J.o T).1;simp;omega))).mono Yv⟩⟩
   |false=>
    have xJ:=Li ps n s;have zC:=XY n s hDn;obtain⟨S,l,w8,yS,yC,yQ,xB⟩:=IX wr (w.heap.size+3) _ (BU ps n s) hO ⟨n,s⟩ Yv yD 27;have b8:Below (w.heap.size+3) wr w8:=Ae.grown yQ yD (fun q e=>(Ac hO e).1);have zY:Below (w.heap.size+3) W w8:=N.o.2.trans b8;have Q:Hid (Zz w w8):=Q.o.trans (b8.mono Yv)
    have zK:Hid ((Bh ps n s).length=(BU ps n s).length+1):=by show _=_;rw[<-zC];simp
    rw[zC,zK.o]at yC;have J:=Yw yC;have f5:=((j.o _ zY).1 5 _ rfl).2;obtain⟨⟨y0,q0⟩,⟨y1,q1⟩,⟨y2,q2⟩,⟨y3,q3⟩,⟨y4,q4⟩,⟨y5,q5⟩,⟨y6,q6⟩,⟨y7,q7⟩,⟨y8,q8⟩,⟨y9,q9⟩,⟨zP,xF⟩,zR,xG⟩:=AS (j.o _ zY).2.2;obtain⟨z0,z1,z2,z3,z4,z5,z6,z7⟩:=AQ (j.o _ zY).1;clear hDn zC zM N b8 yQ xB yC zY hO;by_cases hbig:100<((BU ps n s).length+1)
    .have T:(100:Int)<((BU ps n s).length:Int)+1:=Yv
     have zB:Hid (100<(Bh ps n s).length):=by show _<_;rw[zK.o];exact hbig
     clear hbig;go_wp2_with (at_builtin;refine wpList_append_run rfl _ _ 27 27 rfl rfl rfl yS ?_);refine bodyPost_ret (v:=.agg (Xx 4)) (by simp[results,results47,go_sem,y0,y1,y2,y3,y4,y5,y6,y7,y8,y9,zP,zR]) rfl ?_;exact⟨Q.o.trans (Tn.below (Ba w8 (w.heap.size+2) _ _ _ _ _ _ _ _ _ _ _ _) Q.o.size (by intro v hv;simp at hv;omega)),.inl ⟨zB.o,rfl⟩⟩
    .have T:¬(100:Int)<((BU ps n s).length:Int)+1:=Yv
     have xN:¬(100:Int)<(((BU ps n s).length+1:Nat):Int):=Yv
     have zB:Hid ((Bh ps n s).length<=100):=by show _<=_;rw[zK.o];omega
     clear hbig;go_wp2_with (at_builtin;refine wpList_append_run rfl _ _ 27 27 rfl rfl rfl yS ?_);refine bodyPost_ret (v:=.agg #[Ze,Zg wd,Zg now,Zg given,Zg births,.slice Z ks.length tc,Yz S ((BU ps n s).length+1) l,.slice la ln lc,Zc,Ze,Zc,Zc]) (by simp[results,results47,go_sem,y0,y1,y2,y3,y4,y5,y6,y7,y8,y9,zP,zR]) rfl ?_
     have T':=(Tn.set (V:=[w.heap.size,w.heap.size+2]) w8 w.heap.size 5 (Yz S ((BU ps n s).length+1) l) Yu).trans (Tn.mono (Ba (w8.setCell (Zd (w.heap.size) 5) (Yz S ((BU ps n s).length+1) l)) (w.heap.size+2) Ze (Zg wd) (Zg now) (Zg given) (Zg births) (.slice Z ks.length tc) (Yz S ((BU ps n s).length+1) l) (.slice la ln lc) Zc Ze Zc Zc) Yu)
     have yY:=(Ak J.o (fun q T=>T'.block q (Ac J.o T).2 (by have:=(Ac J.o T).1;simp;omega))).mono (show w.heap.size<=w.heap.size+3 by omega);refine⟨Q.o.trans (T'.below Q.o.size (by intro v hv;simp at hv;omega)),.inr ⟨zB.o,S,l,by rw[zK.o],?_⟩⟩;rw[zK.o];exact yY
theorem Mm(w:Zh)(b:Nat)(v:Value)(d:List (Kd×Value))(C:w.ownsRow b 66 4 v d.length (Ab kC d))(z:Kd×Value)(E:∃a n c,z.2=.slice a n c)(B:d.length<=1000000)(l:b<=w.heap.size)(m:TypeId):
 ∃g cap h,(Builtin.append_ #[26,26] m #[v,Yz w.heap.size 1 1]).run prog (w.alloc (.cells #[.string z.1.sum,Zg z.1.born,.string z.1.J,z.2] 66))=.ok (Yz g (d.length+1) cap) h/\h.ownsRow b 66 4 (Yz g (d.length+1) cap) (d++[z]).length (Ab kC (d++[z]))/\w.grownBy h v.ownBlock/\(v.ownBlock=some g\/g=w.heap.size+1):=by
 obtain⟨F,A,q,r,t⟩:=info_parts IE;have o:=Ag C (Ae.alloc (Zx) (.cells #[.string z.1.sum,Zg z.1.born,.string z.1.J,z.2] 66));have y:∀j u,(Ab kC [z])[j]?=some u->(w.alloc (.cells #[.string z.1.sum,Zg z.1.born,.string z.1.J,z.2] 66)).cell? ((⟨w.heap.size,0,none⟩:Addr).add j)=some u:=by intro j u i;rw[Go.WideShapes.add_plain,Nat.zero_add];exact(Aa.new w [.string z.1.sum,Zg z.1.born,.string z.1.J,z.2] 66 j u (by simpa [Ab,kC]using i)).1
 obtain⟨G,h,D,k,x,_,f⟩:=run_append_own_at (P:=prog) (w.alloc (.cells #[.string z.1.sum,Zg z.1.born,.string z.1.J,z.2] 66)) b 26 m 66 F _ 4 64 underlying26 A q r t rfl Yq v d.length (Ab kC d) o ⟨w.heap.size,0,none⟩ 1 1 (Ab kC [z]) (by simp[Ab,kC]) y (by intro u i;obtain⟨a,n,c,e⟩:=E;simp[Ab,kC,e]at i;rcases i with rfl|rfl|rfl|rfl<;>rfl) Yo Yv Yt
 obtain⟨g,cap,rfl,_,_⟩:=Co k (fun e=>by subst e;rcases k.2 with⟨_,B⟩|⟨_,_,_,e,_⟩<;>first|omega|cases e);refine⟨g,cap,h,D,?_,(World.grownBy_alloc w _ _).trans x,?_⟩
 .rw[Ih,List.length_append];exact k
 .rcases f with f|f
  .exact .inl f.symm
  .right;simpa [Value.ownBlock]using f
def zD(zs:List (Kd×Value))(s:Zi):Bool:= !(zs.all (fun z=>less z.1.sum s))
def zQ(zs:List (Kd×Value))(one:Kd×Value):List (Kd×Value):=zs.filter (fun z=>less z.1.sum one.1.sum)++(if zD zs one.1.sum then [one]else [])++zs.filter (fun z=> !(less z.1.sum one.1.sum))
def CH(zs:List (Kd×Value))(one:Kd×Value):List (Kd×Value):=zs.filter (fun z=>less z.1.sum one.1.sum)++[one]++zs.filter (fun z=> !(less z.1.sum one.1.sum))
theorem VH(a:List (Kd×Value))(one:Kd×Value):(CH a one).map (·.1)=CZ (a.map (·.1)) one.1:=by unfold CH CZ;rw[List.map_append,List.map_append,List.filter_map,List.filter_map];rfl
theorem Lj{a:List (Kd×Value)}{one z:Kd×Value}(h:z∈CH a one):z∈a\/z=one:=by
 unfold CH at h;simp only[List.mem_append,List.mem_filter,List.mem_singleton]at h;rcases h with(h|h)|h
 .exact .inl h.1
 .exact .inr h
 .exact .inl h.1
theorem Ku{a:List (Kd×Value)}{x:Kd×Value}(s:Zi)(c:a[k]?=some x):zD (a.take (k+1)) s=(zD (a.take k) s|| !(less x.1.sum s)):=by obtain⟨b,rfl⟩:=Zw c;unfold zD;rw[Zu b,List.all_append];simp
theorem IY{a:List (Kd×Value)}(h:zD a s=false):a.filter (fun z=> !(less z.1.sum s))=[]:=by
 rw[List.filter_eq_nil_iff];intro x b;have:less x.1.sum s=true:=by unfold zD at h;simp only[Bool.not_eq_false']at h;exact List.all_eq_true.1 h x b
 simp[this]
theorem VI{a:List (Kd×Value)}{x:Kd×Value}(one:Kd×Value)(e:a[k]?=some x)(c:zD (a.take k) one.1.sum=false)(d:less x.1.sum one.1.sum=true):zQ (a.take (k+1)) one=zQ (a.take k) one++[x]:=by have b:=Ku one.1.sum e;rw[c,d]at b;unfold zQ;rw[IY c,IY (by rw[b];rfl),b,c];obtain⟨f,rfl⟩:=Zw e;rw[Zu f,List.filter_append];simp[d]
theorem Aav{a:List (Kd×Value)}{x:Kd×Value}(one:Kd×Value)(f:a[k]?=some x)(b:zD (a.take k) one.1.sum=false)(e:less x.1.sum one.1.sum=false):zQ (a.take (k+1)) one=zQ (a.take k) one++[one]++[x]:=by have c:=Ku one.1.sum f;rw[b,e]at c;have d:=IY b;unfold zQ;rw[d,c,b];obtain⟨g,rfl⟩:=Zw f;rw[Zu g,List.filter_append,List.filter_append,d];simp[e]
theorem XZ{c:List (Kd×Value)}{x:Kd×Value}(one:Kd×Value)(f:(c.map (·.1.sum)).Pairwise (fun a b=>less a b=true))(n:c[k]?=some x)(g:zD (c.take k) one.1.sum=true):zQ (c.take (k+1)) one=zQ (c.take k) one++[x]:=by
 have m:=Ku one.1.sum n;rw[g,Bool.true_or]at m;obtain⟨i,rfl⟩:=Zw n;obtain⟨y,t,l⟩:∃y∈c.take k,less y.1.sum one.1.sum=false:=by unfold zD at g;simpa using g
 obtain⟨j,q⟩:=List.getElem?_of_mem t;obtain⟨o,e⟩:=Zw q;rw[List.length_take]at o;rw[List.getElem_take]at e;have d:=List.pairwise_iff_getElem.1 f j k Yt (by simpa using i) Yv;rw[List.getElem_map,List.getElem_map,e]at d;have r:less c[k].1.sum one.1.sum=false:=by
  cases h:less c[k].1.sum one.1.sum with
  |false=>rfl
  |true=>rw[Cb d h]at l;cases l
 unfold zQ;rw[m,g,Zu i,List.filter_append,List.filter_append];simp[r]
theorem ZS{a:List (Kd×Value)}(one:Kd×Value)(b:zD a one.1.sum=true):zQ a one=CH a one:=by unfold zQ CH;rw[b];rfl
theorem Aaw{a:List (Kd×Value)}(one:Kd×Value)(b:zD a one.1.sum=false):zQ a one++[one]=CH a one:=by unfold zQ CH;rw[b,IY b];simp
theorem Ug(a:List (Kd×Value))(one:Kd×Value):(zQ a one).length<=a.length+1:=by
 have h:∀(l:List (Kd×Value)),(l.filter (fun z=>less z.1.sum one.1.sum)).length+(l.filter (fun z=> !(less z.1.sum one.1.sum))).length=l.length:=by
  intro l;induction l with
  |nil=>rfl
  |cons y l ih=>cases hl:less y.1.sum one.1.sum<;>simp[hl]<;>omega
 have:=h a;unfold zQ;rw[List.length_append,List.length_append];split<;>simp<;>omega
theorem MP(h:Au ks s):∃(i:Nat) (k:Kd),CJ ks s=(i:Int)/\ks[i]?=some k/\k.sum=s:=by
 rcases Eg ks s with⟨_,c⟩|⟨i,k,e,a,b⟩
 .exact absurd h c
 .exact⟨i,k,e,a,b⟩
theorem IB(h:¬Au ks s):CJ ks s<0:=by
 rcases Eg ks s with⟨e,_⟩|⟨i,k,e,a,b⟩
 .omega
 .exact absurd ⟨k,Zs a,b⟩ h
theorem YA(c d m:Nat)(O P L:Value)(wd now given births:Int)(ks:List Kd)(ps:List Pd)(ls:List Ld)(n s:Zi)(w:Zh)(h:DU w c d m O P L wd now given births ks ps ls)(j:∀k∈ks,(k.sum.size:Int)=wd)(g:Au ks s)(q:ps.length<=100)(f:ps.Pairwise (fun a b=>less a.name b.name=true))(i:(∃x∈ps,x.name=n)\/ps.length<100):
 Calls prog 115 #[Yy d,.string n,.string s] w fun e l=>e=.returned (.tuple #[])/\∃o,DU l c d m O o L wd now given births ks (Bh ps n s) ls/\Tn (d::P.ownBlock.toList) w l:=by
 by_cases hth:∃x∈ps,x.name=n
 .exact XP c d m O P L wd now given births ks ps ls n s w h j g Yv f hth
 .exact XS c d m O P L wd now given births ks ps ls n s w h j g (by rcases i with h|h;exact absurd h hth;exact h) f hth
theorem Od(c d m:Nat)(O P L:Value)(wd now given births:Int)(ks:List Kd)(ps:List Pd)(ls:List Ld)(s nm u:Zi)(num:Int)(q:Zk)(t r:Nat)(w:Zh)(h:DU w c d m O P L wd now given births ks ps ls)(U:∀k∈ks,(k.sum.size:Int)=wd)(B:Au ks s)(hl:ps.length<=100)(n:ps.Pairwise (fun a b=>less a.name b.name=true))(l:(∃x∈ps,x.name=nm)\/ps.length<100):
 Calls prog 77 #[Yy d,.agg (Xz 2 s nm num u q t r)] w fun e N=>e=.returned (.agg z12.toArray)/\∃Z,DU N c d m O Z L wd now given births ks (Bh ps nm s) ls/\Tn (d::P.ownBlock.toList) w N:=by
 obtain⟨W,f⟩:=Af (((w.alloc (.cells (Xz 2 s nm num u q t r) 38)).alloc (.cells Xy 32)).alloc (.cells Xy 32));have I:=(Bo f).1;have F:=(Bo f).2.1;have R:=(Bo f).2.2.1;have T:Aa W (w.heap.size+1) z12:=by have o:=Aa.new (w.alloc (.cells (Xz 2 s nm num u q t r) 38)) z12 32;rw[World.size_alloc]at o;rw[f];exact Aa.below (v:=Ze) o (Zy)
 have S:Aa W (w.heap.size+2) z12:=by have o:=Aa.new ((w.alloc (.cells (Xz 2 s nm num u q t r) 38)).alloc (.cells Xy 32)) z12 32;rw[World.size_alloc,World.size_alloc]at o;rw[f];exact o
 have D:W.heap[w.heap.size+1]?=some (.cells Xy 32):=by rw[f,Below.heap_alloc _ _ _ Yu];have:=heap_alloc_new (w.alloc (.cells (Xz 2 s nm num u q t r) 38)) (.cells Xy 32);rw[World.size_alloc]at this;exact this
 have M:=h.below I;have zA:=h.I.box.lt;have E:∀b∈d::P.ownBlock.toList,b<w.heap.size:=fun b j=>h.I.cz b (by unfold vB;simp at j |-;rcases j with rfl|j<;>simp[*]);have J:=Yw (YA c d m O P L wd now given births ks ps ls nm s W M U B hl n l);have K:=Yw f
 have i:Hid (Aa W (w.heap.size+1) z12/\Aa W (w.heap.size+2) z12/\W.heap[w.heap.size+1]?=some (.cells Xy 32)/\Zz w W/\W.heap.size=w.heap.size+3/\c<=w.heap.size):=⟨T,S,D,I,F,h.lo⟩;have z:=Yw E;obtain⟨e0,e1,e2,e3⟩:=Aa.c4 R 0 1 2 3;clear f h M T S D I F R E;go_enter func77,ntmps77;go_upto_region 2 with fail;rw[<-K.o];clear K;go_wp2_with fail;refine J.Ah ?_;rintro e Q ⟨rfl,V,A,g⟩
 have zz:=i.o.2.2.2.2.1;have H:=Aa.same i.o.1 (g.block _ Yv (fun h=>by have:=z.o _ h;omega));have G:=Aa.same i.o.2.1 (g.block _ Yv (fun h=>by have:=z.o _ h;omega));have C:=(g.block _ Yv (fun h=>by have:=z.o _ h;omega)).trans i.o.2.2.1;have y:=Yw (Zn A (Zn g (A.dj C Yv)))
 obtain⟨⟨y0,q0⟩,⟨y1,q1⟩,⟨y2,q2⟩,⟨y3,q3⟩,⟨y4,q4⟩,⟨y5,q5⟩,⟨y6,q6⟩,⟨y7,q7⟩,⟨y8,q8⟩,⟨y9,q9⟩,⟨X,zB⟩,Y,zC⟩:=AS H;obtain⟨⟨v0,_⟩,⟨v1,_⟩,⟨v2,_⟩,⟨v3,_⟩,⟨v4,_⟩,⟨v5,_⟩,⟨v6,_⟩,⟨v7,_⟩,⟨v8,_⟩,⟨v9,_⟩,⟨zE,_⟩,zF,_⟩:=AS G;clear A g H G C e0 e1 e2 e3 J zz;go_wp2
 refine bodyPost_ret (v:=.agg z12.toArray) (by simp[results,results77,go_sem,y0,y1,y2,y3,y4,y5,y6,y7,y8,y9,X,Y,z12]) rfl ⟨rfl,V,y.o.1.K (Ba Q (w.heap.size+1) _ _ _ _ _ _ _ _ _ _ _ _) (by intro b j;simp at j;subst j;exact⟨by have:=i.o.2.2.2.2.2;omega,y.o.2.2⟩),Tn.fresh ((Tn.of i.o.2.2.2.1).trans y.o.2.1) (Ba Q (w.heap.size+1) _ _ _ _ _ _ _ _ _ _ _ _) Yv⟩
theorem Mn(a d m:Nat)(O P L:Value)(wd now given births:Int)(ks:List Kd)(ps:List Pd)(ls:List Ld)(s nm x:Zi)(num:Int)(r:Zk)(u t:Nat)(w:Zh)(g:Dr w a d m O P L wd now given births ks ps ls)(U:Em wd ks)(hp:ps.length<=100)(hl:ls.length<=200)(V:Au ks s)(n:¬(((∃p∈ps,p.sum=s)\/∃l∈ls,l.sum=s)\/∃k∈ks,s∈k.B)):
 Calls prog 77 #[Yy d,.agg (Xz 7 s nm num x r u t)] w fun e N=>e=.returned (.agg z12.toArray)/\∃q,Dr N a d m q P L wd now given births (CK ks s) ps ls/\q.ownBlock=O.ownBlock/\Tn (vB d m O P L) w N:=by
 obtain⟨W,c⟩:=Af (((w.alloc (.cells (Xz 7 s nm num x r u t) 38)).alloc (.cells Xy 32)).alloc (.cells Xy 32));have K:=(Bo c).1;have C:=(Bo c).2.1;have e0:W.cell? (Zd (w.heap.size) 0)=some (Zg 7):=by rw[c];simp[go_sem]
 have e1:W.cell? (Zd (w.heap.size) 1)=some (.string s):=by rw[c];simp[go_sem]
 have R:Aa W (w.heap.size+1) z12:=by have i:=Aa.new (w.alloc (.cells (Xz 7 s nm num x r u t) 38)) z12 32;rw[World.size_alloc]at i;rw[c];exact Aa.below (v:=Ze) i (Zy)
 have Q:Aa W (w.heap.size+2) z12:=by have i:=Aa.new ((w.alloc (.cells (Xz 7 s nm num x r u t) 38)).alloc (.cells z12.toArray 32)) z12 32;rw[World.size_alloc,World.size_alloc]at i;rw[c];exact i
 have H:=Yw (g.below K);have z:Hid (∀b∈vB d m O P L,b<w.heap.size):=by
  intro b f;unfold vB at f;simp only[List.mem_cons,List.mem_append,Option.mem_toList]at f;rcases f with rfl|rfl|f|f|f
  .exact g.box.lt
  .exact(g.map.choose_spec.choose_spec.2.1).lt
  .exact(Ac g.ord f).2
  .exact(Ac g.ci f).2
  .exact(Ac g.ck f).2
 have Z:Hid (W.heap[w.heap.size+1]?=some (.cells Xy 32)):=by show _=_;rw[c,Below.heap_alloc _ _ _ Yu];have:=heap_alloc_new (w.alloc (.cells (Xz 7 s nm num x r u t) 38)) (.cells Xy 32);rw[World.size_alloc]at this;exact this
 have G:a<=w.heap.size:=by have:=g.bd;have:=g.box.lt;omega
 have I:=Yw c;have J:=Yw (Zn R Q);have y:=Yw C;clear c g R Q C;go_enter func77,ntmps77;go_upto_region 2 with fail;rw[<-I.o];clear I;go_wp2_with fail;refine(Vq a d m O P L wd now given births ks ps ls s W H.o U hp hl V n).mono ?_;rintro e F ⟨rfl,q,B,M,j,_⟩;have E:=Aa.same J.o.1 (j.block _ (by have:=y.o;omega) (fun h=>by have:=z.o _ h;omega))
 have D:=Aa.same J.o.2 (j.block _ (by have:=y.o;omega) (fun h=>by have:=z.o _ h;omega));obtain⟨⟨y0,q0⟩,⟨y1,q1⟩,⟨y2,q2⟩,⟨y3,q3⟩,⟨y4,q4⟩,⟨y5,q5⟩,⟨y6,q6⟩,⟨y7,q7⟩,⟨y8,q8⟩,⟨y9,q9⟩,⟨X,zA⟩,Y,zB⟩:=AS E;obtain⟨⟨v0,_⟩,⟨v1,_⟩,⟨v2,_⟩,⟨v3,_⟩,⟨v4,_⟩,⟨v5,_⟩,⟨v6,_⟩,⟨v7,_⟩,⟨v8,_⟩,⟨v9,_⟩,⟨zC,_⟩,zE,_⟩:=AS D;have o:=Yw (Zn B (Zn M j));clear B M j E D e0 e1 H;go_wp2;have T:w.heap.size+1∉vB d m q P L:=fun h=>by
  have:w.heap.size+1∈vB d m O P L:=by unfold vB at h |-;rw[o.o.2.1]at h;exact h
  have:=z.o _ this;omega
 have S:∀A fz,F.heap[w.heap.size+1]?≠some (.cells A 9 fz):=fun A fz e=>by have i:=o.o.2.2.block (w.heap.size+1) (by have:=y.o;omega) (fun h=>by have:=z.o _ h;omega);rw[e,Z.o]at i;simp at i
 refine bodyPost_ret (v:=.agg z12.toArray) (by simp[results,results77,go_sem,y0,y1,y2,y3,y4,y5,y6,y7,y8,y9,X,Y,z12]) rfl ⟨rfl,q,Dr.apart o.o.1 (Ba F _ _ _ _ _ _ _ _ _ _ _ _ _) Yv T S,o.o.2.1,Tn.fresh ((Tn.of K).trans o.o.2.2) (Ba F _ _ _ _ _ _ _ _ _ _ _ _ _) Yv⟩
theorem Ll(a d m:Nat)(O P L:Value)(wd now given births:Int)(ks:List Kd)(ps:List Pd)(ls:List Ld)(s nm o:Zi)(num:Int)(i:Zk)(n j:Nat)(w:Zh)(h:Dr w a d m O P L wd now given births ks ps ls)(r:Em wd ks)(y:ps.length<=100)(x:ls.length<=200)(t:Au ks s)(c:((∃p∈ps,p.sum=s)\/∃l∈ls,l.sum=s)\/∃k∈ks,s∈k.B):
 Calls prog 77 #[Yy d,.agg (Xz 7 s nm num o i n j)] w fun e z=>e=.panicked [{v:=Cj 6 ⟨#[]⟩ ⟨#[]⟩,recovered:=false}]/\Zz w z:=by
 obtain⟨W,b⟩:=Af (((w.alloc (.cells (Xz 7 s nm num o i n j) 38)).alloc (.cells Xy 32)).alloc (.cells Xy 32));have f:=(Bo b).1;have A:W.cell? (Zd (w.heap.size) 0)=some (Zg 7):=by rw[b];simp[go_sem]
 have B:W.cell? (Zd (w.heap.size) 1)=some (.string s):=by rw[b];simp[go_sem]
 have u:=Yw (h.below f);have g:=Yw b;clear b h;go_enter func77,ntmps77;go_upto_region 2 with fail;rw[<-g.o];clear g;go_wp2_with fail;refine(TU a d m O P L wd now given births ks ps ls s W u.o r y x t c).mono ?_;rintro e C ⟨rfl,q⟩;exact⟨rfl,rfl,f.trans (q.mono f.size)⟩
theorem PC(a d m:Nat)(O P L:Value)(wd now given births:Int)(ks:List Kd)(ps:List Pd)(ls:List Ld)(s:Zi)(w:Zh)(f:Dr w a d m O P L wd now given births ks ps ls)(b:∀k∈ks,(k.sum.size:Int)=wd)(c:¬Au ks s):
 Calls prog 119 #[Yy d,.string s] w fun e h=>e=.panicked [{v:=Cj 2 ⟨#[]⟩ ⟨#[]⟩,recovered:=false}]/\Zz w h:=by
 have HN:=Yw (Ks a d m O P L wd now given births ks ps ls s w f b c);clear f b c;go_enter func119,ntmps119;go_wp2_with fail;refine HN.Ah ?_;rintro e i ⟨rfl,g⟩;go_wp2;exact⟨rfl,rfl,g⟩
theorem Jo(a d m:Nat)(O P L:Value)(wd now given births:Int)(ks:List Kd)(ps:List Pd)(ls:List Ld)(s nm l:Zi)(num:Int)(h:Zk)(j i:Nat)(w:Zh)(g:Dr w a d m O P L wd now given births ks ps ls)(o:∀k∈ks,(k.sum.size:Int)=wd)(q:¬Au ks s):
 Calls prog 77 #[Yy d,.agg (Xz 7 s nm num l h j i)] w fun e t=>e=.panicked [{v:=Cj 2 ⟨#[]⟩ ⟨#[]⟩,recovered:=false}]/\Zz w t:=by
 obtain⟨W,b⟩:=Af (((w.alloc (.cells (Xz 7 s nm num l h j i) 38)).alloc (.cells Xy 32)).alloc (.cells Xy 32));have c:=(Bo b).1;have u:W.cell? (Zd (w.heap.size) 0)=some (Zg 7):=by rw[b];simp[go_sem]
 have x:W.cell? (Zd (w.heap.size) 1)=some (.string s):=by rw[b];simp[go_sem]
 have r:=Yw (g.below c);have f:=Yw b;clear b g;go_enter func77,ntmps77;go_upto_region 2 with fail;rw[<-f.o];clear f;go_wp2_with fail;refine(PC a d m O P L wd now given births ks ps ls s W r.o o q).mono ?_;rintro e y ⟨rfl,n⟩;exact⟨rfl,rfl,c.trans (n.mono c.size)⟩
structure Rs where
 y:Zi
 le:Int
 E:Int
 F:Int
 C:Int
 A:List Kd
 ps:List Pd
 ls:List Ld
def CN(wd now given births:Int)(ks:List Kd)(ps:List Pd)(ls:List Ld)(kd:Int)(s nm:Zi)(num:Int)(text:Zi)(refs:Zl)(r:Rs):Prop:=
 (kd=1/\(∀r∈refs,Au ks r)/\ls.length<200/\given<1000000000/\∃ks1 ai,Cx wd births ks text refs ks1 ai/\r=⟨AV text refs wd,given+1,now,given+1,ai,ks1,ps,ls++[⟨given+1,AV text refs wd,now+num⟩]⟩)\/
 (kd=2/\Au ks s/\((∃x∈ps,x.name=nm)\/ps.length<100)/\r=⟨⟨#[]⟩,0,now,given,births,ks,Bh ps nm s,ls⟩)\/
 (kd=3/\(∃x∈ps,x.name=nm)/\r=⟨⟨#[]⟩,0,now,given,births,ks,Bc ps nm,ls⟩)\/
 (kd=4/\Au ks s/\ls.length<200/\given<1000000000/\r=⟨⟨#[]⟩,given+1,now,given+1,births,ks,ps,ls++[⟨given+1,s,now+num⟩]⟩)\/
 (kd=5/\(∃x∈ls,x.H=num)/\r=⟨⟨#[]⟩,0,now,given,births,ks,ps,Br ls num⟩)\/
 (kd=6/\now+num<=1000000000/\r=⟨⟨#[]⟩,0,now+num,given,births,ks,ps,AK ls (now+num)⟩)\/
 (kd=7/\Au ks s/\¬GN ps ls ks s/\r=⟨⟨#[]⟩,0,now,given,births,CK ks s,ps,ls⟩)
def Fh(wd now given births:Int)(ks:List Kd)(ps:List Pd)(ls:List Ld)(kd:Int)(s nm:Zi)(num:Int)(text:Zi)(refs:Zl)(c:Int)(a b:Zi):Prop:=
 (kd=1/\Gl wd given births ks ls text refs c a b)\/
 (a=⟨#[]⟩/\b=⟨#[]⟩/\(
   (kd=2/\((¬Au ks s/\c=2)\/(Au ks s/\(¬∃x∈ps,x.name=nm)/\ps.length=100/\c=4)))\/
   (kd=3/\(¬∃x∈ps,x.name=nm)/\c=5)\/
   (kd=4/\((¬Au ks s/\c=2)\/(Au ks s/\(ls.length=200\/given=1000000000)/\c=4)))\/
   (kd=5/\(¬∃x∈ls,x.H=num)/\c=5)\/
   (kd=6/\1000000000<now+num/\c=4)\/
   (kd=7/\((¬Au ks s/\c=2)\/(Au ks s/\GN ps ls ks s/\c=6)))))
structure GC (wd now given births:Int) (ks:List Kd) (ps:List Pd) (ls:List Ld) (kd num:Int) (text:Zi) (refs:Zl):Prop where
 bn:Em wd ks
 w1:1<=wd
 np:ps.length<=100
 nl:ls.length<=200
 bt:ps.Pairwise (fun a b=>less a.name b.name=true)
 di:ls.Pairwise (fun a b=>a.H<b.H)
 cw:0<=now
 cn:now<=1000000000
 bj:0<=given
 bh:given<=1000000000
 ax:0<=births
 ai:births<=1000000000
 jy:1<=kd
 ke:kd<=7
 ft:0<=num
 gi:num<=1000000000
 cg:∀k∈ks,k.J.size<=maxLen
 jt:text.size<=maxLen
 jq:refs.length<=1000
theorem EF(text:Zi)(refs:Zl)(wd:Int)(h:1<=wd):((AV text refs wd).size:Int)=wd:=GH ⟨⟨#[]⟩,0,text,refs⟩ wd h
def Ka(base d m:Nat)(wd:Int)(r:Rs)(w:Zh):Prop:=∃O P L,Dr w base d m O P L wd r.E r.F r.C r.A r.ps r.ls
theorem Mo(g d m:Nat)(O P L:Value)(wd now given births:Int)(ks:List Kd)(ps:List Pd)(ls:List Ld)(kd:Int)(s nm:Zi)(num:Int)(text:Zi)(refs:Zl)(l:Zk)(n:Nat)(w:Zh)(h:DU w g d m O P L wd now given births ks ps ls)(f:GC wd now given births ks ps ls kd num text refs)(K:Dn w g (vB d m O P L) l refs):
 Calls prog 77 #[Yy d,.agg (Xz kd s nm num text l refs.length n)] w fun e k=>(∃c a b,Fh wd now given births ks ps ls kd s nm num text refs c a b/\e=.panicked [{v:=Cj c a b,recovered:=false}]/\Tn (vB d m O P L) w k)\/(∃F le,e=.returned (.agg #[Ze,Ze,Ze,Ze,Ze,Zb,Zb,Zb,.string F,Zg le,Zc,Zc])/\(∃r,CN wd now given births ks ps ls kd s nm num text refs r/\r.y=F/\r.le=le/\Ka g d m wd r k)/\Tn (vB d m O P L) w k):=by
 have E:∀b∈d::P.ownBlock.toList,b∈vB d m O P L:=by intro b i;unfold vB;simp at i |-;rcases i with rfl|i<;>simp[*]
 have D:∀b∈d::L.ownBlock.toList,b∈vB d m O P L:=by intro b i;unfold vB;simp at i |-;rcases i with rfl|i<;>simp[*]
 have u:∀X,Zz w X->DU X g d m O P L wd now given births ks ps ls:=fun X o=>h.below o;obtain rfl|rfl|rfl|rfl|rfl|rfl|rfl:kd=1\/kd=2\/kd=3\/kd=4\/kd=5\/kd=6\/kd=7:=by have:=f.jy;have:=f.ke;omega
 .refine(Oc g d m O P L wd now given births ks ps ls s nm text num refs l n w h f.bn f.w1 f.cg (EF _ _ _ f.w1) f.jt f.jq f.ax f.ai K f.nl f.bj f.bh f.cw f.cn f.ft f.gi).mono ?_;rintro e k (⟨c,a,b,J,rfl,q⟩|⟨G,ai,A,M,z,y,rfl,H,C,t,q⟩)
  .exact .inl ⟨c,a,b,.inl ⟨rfl,J⟩,rfl,q⟩
  .exact .inr ⟨_,_,rfl,⟨_,.inl ⟨rfl,A,z,y,G,ai,M,rfl⟩,rfl,rfl,⟨_,_,_,t.I⟩⟩,q⟩
 .by_cases hth:Au ks s
  .by_cases hroom:(∃x∈ps,x.name=nm)\/ps.length<100
   .refine(Od g d m O P L wd now given births ks ps ls s nm text num l refs.length n w h f.bn.sz hth f.np f.bt hroom).mono ?_;rintro e k ⟨rfl,I,t,q⟩;exact .inr ⟨_,_,rfl,⟨_,.inr (.inl ⟨rfl,hth,hroom,rfl⟩),rfl,rfl,⟨_,_,_,t.I⟩⟩,q.mono E⟩
   .have B:¬∃x∈ps,x.name=nm:=fun e=>hroom (.inl e);have j:ps.length=100:=by have:=f.np;have N:¬ps.length<100:=fun e=>hroom (.inr e);omega
    refine(JW d s nm text num l refs.length n 4 ⟨#[]⟩ ⟨#[]⟩ w (fun X o=>VC g d m O P L wd now given births ks ps ls nm s X (u X o) f.bn.sz hth j f.bt B)).mono ?_;rintro e k ⟨rfl,i⟩;exact .inl ⟨4,_,_,.inr ⟨rfl,rfl,.inl ⟨rfl,.inr ⟨hth,B,j,rfl⟩⟩⟩,rfl,Tn.of i⟩
  .refine(JW d s nm text num l refs.length n 2 ⟨#[]⟩ ⟨#[]⟩ w (fun X o=>Qq g d m O P L wd now given births ks ps ls nm s X (u X o) f.bn.sz hth)).mono ?_;rintro e k ⟨rfl,i⟩;exact .inl ⟨2,_,_,.inr ⟨rfl,rfl,.inl ⟨rfl,.inl ⟨hth,rfl⟩⟩⟩,rfl,Tn.of i⟩
 .by_cases hth:∃x∈ps,x.name=nm
  .refine(Me g d m O P L wd now given births ks ps ls s nm text num l refs.length n w h (by have:=f.np;omega) f.bt hth).mono ?_;rintro e k ⟨rfl,I,t,q⟩;exact .inr ⟨_,_,rfl,⟨_,.inr (.inr (.inl ⟨rfl,hth,rfl⟩)),rfl,rfl,⟨_,_,_,t.I⟩⟩,q.mono E⟩
  .refine(ML d s nm text num l refs.length n 5 ⟨#[]⟩ ⟨#[]⟩ w (fun X o=>VA g d m O P L wd now given births ks ps ls nm X (u X o) (by have:=f.np;omega) f.bt hth)).mono ?_;rintro e k ⟨rfl,i⟩;exact .inl ⟨5,_,_,.inr ⟨rfl,rfl,.inr (.inl ⟨rfl,hth,rfl⟩)⟩,rfl,Tn.of i⟩
 .by_cases hth:Au ks s
  .by_cases j:ls.length=200\/given=1000000000
   .refine(Iz d s nm text num l refs.length n 4 ⟨#[]⟩ ⟨#[]⟩ w (fun X o=>NF g d m O P L wd now given births ks ps ls s num X (u X o) f.bn.sz hth j)).mono ?_;rintro e k ⟨rfl,i⟩;exact .inl ⟨4,_,_,.inr ⟨rfl,rfl,.inr (.inr (.inl ⟨rfl,.inr ⟨hth,j,rfl⟩⟩))⟩,rfl,Tn.of i⟩
   .have z:ls.length<200:=by have:=f.nl;omega
    have y:given<1000000000:=by have:=f.bh;omega
    refine(Mf g d m O P L wd now given births ks ps ls s nm text num l refs.length n w h f.bn.sz hth z f.bj y f.cw f.cn f.ft f.gi).mono ?_;rintro e k ⟨rfl,C,t,q⟩;exact .inr ⟨_,_,rfl,⟨_,.inr (.inr (.inr (.inl ⟨rfl,hth,z,y,rfl⟩))),rfl,rfl,⟨_,_,_,t.I⟩⟩,q.mono D⟩
  .refine(Iz d s nm text num l refs.length n 2 ⟨#[]⟩ ⟨#[]⟩ w (fun X o=>Px g d m O P L wd now given births ks ps ls s num X (u X o) f.bn.sz hth)).mono ?_;rintro e k ⟨rfl,i⟩;exact .inl ⟨2,_,_,.inr ⟨rfl,rfl,.inr (.inr (.inl ⟨rfl,.inl ⟨hth,rfl⟩⟩))⟩,rfl,Tn.of i⟩
 .by_cases hth:∃x∈ls,x.H=num
  .refine(MI g d m O P L wd now given births ks ps ls s nm text num l refs.length n w h f.nl f.di hth).mono ?_;rintro e k ⟨rfl,C,t,q⟩;exact .inr ⟨_,_,rfl,⟨_,.inr (.inr (.inr (.inr (.inl ⟨rfl,hth,rfl⟩)))),rfl,rfl,⟨_,_,_,t.I⟩⟩,q.mono D⟩
  .refine(NV d s nm text num l refs.length n 5 ⟨#[]⟩ ⟨#[]⟩ w (fun X o=>XO g d m O P L wd now given births ks ps ls num X (u X o) f.nl f.di hth)).mono ?_;rintro e k ⟨rfl,i⟩;exact .inl ⟨5,_,_,.inr ⟨rfl,rfl,.inr (.inr (.inr (.inl ⟨rfl,hth,rfl⟩)))⟩,rfl,Tn.of i⟩
 .by_cases hs:now+num<=1000000000
  .refine(MJ g d m O P L wd now given births ks ps ls s nm text num l refs.length n w h f.nl f.cw f.ft hs).mono ?_;rintro e k ⟨rfl,C,t,q⟩;exact .inr ⟨_,_,rfl,⟨_,.inr (.inr (.inr (.inr (.inr (.inl ⟨rfl,hs,rfl⟩))))),rfl,rfl,⟨_,_,_,t.I⟩⟩,q.mono D⟩
  .refine(NW d s nm text num l refs.length n 4 ⟨#[]⟩ ⟨#[]⟩ w (fun X o=>Ua g d m O P L wd now given births ks ps ls num X (u X o) f.cw f.cn f.ft f.gi Yv)).mono ?_;rintro e k ⟨rfl,i⟩;exact .inl ⟨4,_,_,.inr ⟨rfl,rfl,.inr (.inr (.inr (.inr (.inl ⟨rfl,Yv,rfl⟩))))⟩,rfl,Tn.of i⟩
 .by_cases hth:Au ks s
  .by_cases huse:GN ps ls ks s
   .refine(Ll g d m O P L wd now given births ks ps ls s nm text num l refs.length n w h.I f.bn f.np f.nl hth huse).mono ?_;rintro e k ⟨rfl,i⟩;exact .inl ⟨6,_,_,.inr ⟨rfl,rfl,.inr (.inr (.inr (.inr (.inr ⟨rfl,.inr ⟨hth,huse,rfl⟩⟩))))⟩,rfl,Tn.of i⟩
   .refine(Mn g d m O P L wd now given births ks ps ls s nm text num l refs.length n w h.I f.bn f.np f.nl hth huse).mono ?_;rintro e k ⟨rfl,H,t,_,q⟩;exact .inr ⟨_,_,rfl,⟨_,.inr (.inr (.inr (.inr (.inr (.inr ⟨rfl,hth,huse,rfl⟩))))),rfl,rfl,⟨_,_,_,t⟩⟩,q⟩
  .refine(Jo g d m O P L wd now given births ks ps ls s nm text num l refs.length n w h.I f.bn.sz hth).mono ?_;rintro e k ⟨rfl,i⟩;exact .inl ⟨2,_,_,.inr ⟨rfl,rfl,.inr (.inr (.inr (.inr (.inr ⟨rfl,.inl ⟨hth,rfl⟩⟩))))⟩,rfl,Tn.of i⟩
section
theorem NI{A:Type}{R:A->A->Prop}(l:∀a b c,R a b->R b c->R a c){e:List A}(h:∀(j:Nat) p q,e[j]?=some p->e[j+1]?=some q->R p q):e.Pairwise R:=by
 have m:∀(d i:Nat) u v,e[i]?=some u->e[i+d+1]?=some v->R u v:=by
  intro d;induction d with
  |zero=>intro i u v g f;exact h i u v g f
  |succ d ih=>intro i u v g f;have t:=(Zw f).1;have k:e[i+d+1]?=some e[i+d+1]:=Zv Yv;exact l _ _ _ (ih i u _ g k) (h _ _ _ k (by rw[show i+d+1+1=i+(d+1)+1 by omega];exact f))
 rw[List.pairwise_iff_getElem];intro i j n o r;exact m (j -i -1) i _ _ (Zv n) (by rw[show i+(j -i -1)+1=j by omega];exact Zv o)
section
variable {wd now given births:Int} {ks:List Kd} {ps:List Pd} {ls:List Ld}
theorem CF.ak(h:CF wd now given births ks ps ls):∀k∈ks,Ft k.J k.B wd:=fun k b=>by obtain⟨i,a⟩:=List.getElem?_of_mem b;exact Be (h.th i k a).ok
theorem CF.bn(h:CF wd now given births ks ps ls):Em wd ks:=by
 have sz:∀k∈ks,(k.sum.size:Int)=wd:=fun k c=>by obtain⟨i,g⟩:=List.getElem?_of_mem c;rw[(h.th i k g).sum];exact GH k wd h.dz.im
 have d:(ks.map (·.sum)).Pairwise (fun a b=>less a b=true):=by refine Wk (fun j p q e f=> ?_);rw[List.getElem?_map]at e f;obtain⟨u,l,rfl⟩:=Option.map_eq_some_iff.1 e;obtain⟨v,m,rfl⟩:=Option.map_eq_some_iff.1 f;exact(h.th (j+1) v m).up j u rfl l
 exact⟨KI d,d,sz,fun k c=>⟨by have:=(h.ak k c).B;omega,Np (h.ak k c).all⟩,h.nth,h.dz.jf⟩
theorem DR(h:Bw kd s nm num text refs wd=true):1<=kd/\kd<=7/\Wi kd.toNat s nm num text refs wd:=by unfold Bw at h;simp only[Bool.and_eq_true,decide_eq_true_eq]at h;exact⟨h.1.1,h.1.2,Eh h.2⟩
theorem Lm(h:Bw kd s nm num text refs wd=true):refs.length<=30:=by
 unfold Bw at h;simp only[Bool.and_eq_true,decide_eq_true_eq]at h;have b:=h.2;unfold Cu at b;simp only[Bool.and_eq_true,decide_eq_true_eq]at b;have a:=b.2.2.2.2;unfold GW at a;split at a
 .exact(Be a).B
 .have c:=(of_decide_eq_true a).2;omega
theorem GC.of(h:CF wd now given births ks ps ls)(l:Bw kd s nm num text refs wd=true)(n:text.size<=maxLen):GC wd now given births ks ps ls kd num text refs:=by
 obtain⟨o,r,e⟩:=DR l;refine⟨h.bn,h.dz.im,h.np,h.nl,?_,?_,h.dz.cn,h.dz.ig,h.dz.bh,h.dz.gm,h.dz.ai,h.dz.fv,o,r,e.n0,e.n1,fun k m=> ?_,n,by have:=Lm l;omega⟩
 .exact NI (R:=fun(a b:Pd)=>less a.name b.name=true) (fun a b c g i=>Cb g i) (fun j p q d f=>(h.ci (j+1) q f).up j p rfl d)
 .exact NI (R:=fun(a b:Ld)=>a.H<b.H) (fun a b c g i=>by omega) (fun j p q d f=>(h.ia (j+1) q f).up j p rfl d)
 .have:=(h.ak k m).J;unfold maxLen;omega
theorem DS(ks:List Kd)(x:Kd):(CZ ks x).Perm (x::ks):=by unfold CZ;have b:(ks.filter (fun k=>less k.sum x.sum)++ks.filter (fun k=> !(less k.sum x.sum))).Perm ks:=List.filter_append_perm _ _;rw[List.append_assoc];exact(List.perm_middle (a:=x) (l₁:=ks.filter (fun k=>less k.sum x.sum)) (l₂:=ks.filter (fun k=> !(less k.sum x.sum)))).trans (b.cons x)
theorem Im(ps:List Pd)(n s:Zi):(Bh ps n s).length<=ps.length+1/\((∃x∈ps,x.name=n)->(Bh ps n s).length<=ps.length):=by
 have h:∀(l:List Pd),(l.filter (fun x=>less x.name n)).length+(l.filter (fun x=> !(less x.name n)&& !decide (x.name=n))).length+(l.filter (fun x=>decide (x.name=n))).length=l.length:=by
  intro l;induction l with
  |nil=>rfl
  |cons x l ih=>
   by_cases hn:x.name=n
   .simp[hn,BI];omega
   .cases hl:less x.name n<;>simp[hl,hn]<;>omega
 have a:=h ps;unfold Bh;rw[List.length_append,List.length_append];refine⟨Yt,fun⟨x,hx,hxn⟩=> ?_⟩;have b:0<(ps.filter (fun x=>decide (x.name=n))).length:=List.length_pos_of_mem (List.mem_filter.2 ⟨hx,by simpa using hxn⟩);simp;omega
structure Aax (wd:Int) (r:Rs):Prop where
 nd:(r.A.map (·.sum)).Nodup
 sz:∀k∈r.A,(k.sum.size:Int)=wd
 nk:r.A.length<=600
 np:r.ps.length<=100
 nl:r.ls.length<=200
 B:∀k∈r.A,k.B.length<=30
theorem CN.fits(h:CF wd now given births ks ps ls)(m:Bw kd s nm num text refs wd=true){r:Rs}(i:CN wd now given births ks ps ls kd s nm num text refs r):Aax wd r:=by
 have a:=h.bn;have d:∀k∈ks,k.B.length<=30:=fun k a=>(h.ak k a).B;rcases i with⟨rfl,_,n,_,t,v,i,rfl⟩|⟨_,_,b,rfl⟩|⟨_,_,rfl⟩|⟨_,_,n,_,rfl⟩|⟨_,_,rfl⟩|⟨_,_,rfl⟩|⟨_,_,_,rfl⟩
 .have f:(ls++[(⟨given+1,AV text refs wd,now+num⟩:Ld)]).length<=200:=Yt
  rcases i with⟨_,_,_,_,rfl,rfl⟩|⟨l,q,_,rfl,rfl⟩
  .exact⟨a.nd,a.sz,h.nth,h.np,f,d⟩
  .have g:=DS ks ⟨AV text refs wd,births+1,text,refs⟩;refine⟨?_,fun k c=> ?_,?_,h.np,f,fun k c=> ?_⟩
   .rw[(g.map (·.sum)).nodup_iff,List.map_cons,List.nodup_cons];refine⟨fun j=>l ?_,a.nd⟩;obtain⟨u,o,e⟩:=List.mem_map.1 j;exact⟨u,o,e⟩
   .rcases List.mem_cons.1 (g.mem_iff.1 c)with rfl|c
    .exact EF _ _ _ h.dz.im
    .exact a.sz k c
   .show(CZ _ _).length<=600;rw[Lh];omega
   .rcases List.mem_cons.1 (g.mem_iff.1 c)with rfl|c
    .exact(Be ((DR m).2.2.dt rfl)).B
    .exact d k c
 .have:=Im ps nm s;refine⟨a.nd,a.sz,h.nth,?_,h.nl,d⟩;rcases b with b|b
  .exact Zm (this.2 b) h.np
  .exact Zm this.1 Yv
 .exact⟨a.nd,a.sz,h.nth,Zm (List.length_filter_le _ _) h.np,h.nl,d⟩
 .exact⟨a.nd,a.sz,h.nth,h.np,Yt,d⟩
 .exact⟨a.nd,a.sz,h.nth,h.np,Zm (List.length_filter_le _ _) h.nl,d⟩
 .exact⟨a.nd,a.sz,h.nth,h.np,Zm (List.length_filter_le _ _) h.nl,d⟩
 .exact⟨a.nd.sublist (List.Sublist.map _ List.filter_sublist),fun k c=>a.sz k (List.mem_filter.1 c).1,Zm (List.length_filter_le _ _) h.nth,h.np,h.nl,fun k c=>d k (List.mem_filter.1 c).1⟩
end
theorem Fh.code(h:Fh wd now given births ks ps ls kd s nm num text refs c a b):2<=c/\c<=6:=by rcases h with⟨_,⟨_,rfl,_⟩|⟨_,⟨_,_,_,_,rfl,_⟩|⟨_,_,rfl,_⟩|⟨_,_,rfl,_⟩⟩⟩|⟨_,_,⟨_,⟨_,rfl⟩|⟨_,_,_,rfl⟩⟩|⟨_,_,rfl⟩|⟨_,⟨_,rfl⟩|⟨_,_,rfl⟩⟩|⟨_,_,rfl⟩|⟨_,_,rfl⟩|⟨_,⟨_,rfl⟩|⟨_,_,rfl⟩⟩⟩<;>omega
theorem Dr.dj{g:Nat}{O P L:Value}(h:Dr w g d m O P L wd now given births ks ps ls){j:Array Value}(b:w.heap[R]?=some (.cells j 32))(l:R≠d):R∉vB d m O P L:=by
 unfold vB;simp only[List.mem_cons,List.mem_append,Option.mem_toList,not_or];refine⟨l,?_,?_,?_,?_⟩
 .rintro rfl;obtain⟨n,f,_,k,_⟩:=h.map;obtain⟨D,⟨o,clock,i,_⟩,_⟩:=k;rw[b]at i;cases i
 .intro e;obtain⟨c,a⟩:=BZ h.ord e;rw[b]at a;simp at a
 .intro e;obtain⟨c,a⟩:=BZ h.ci e;rw[b]at a;simp at a
 .intro e;obtain⟨c,a⟩:=BZ h.ck e;rw[b]at a;simp at a
theorem Ka.stays{a:Nat}{r:Rs}{g:Zh}{i:Array Value}(h:Ka a d m wd r w)(f:w.heap[R]?=some (.cells i 32))(j:a<=R)(k:R≠d)(l:Tn [R] w g):Ka a d m wd r g:=by obtain⟨O,P,L,b⟩:=h;exact⟨O,P,L,b.apart l j (b.dj f k) (fun c fz e=>by rw[f]at e;simp at e)⟩
end
section
section
variable {wd now given births:Int} {ks:List Kd} {ps:List Pd} {ls:List Ld} {kd:Int} {s nm:Zi} {num:Int} {text:Zi} {refs:Zl}
theorem Cx.de{c d:List Kd}{a b:Int}(f:Cx wd births ks text refs c a)(g:Cx wd births ks text refs d b):c=d/\a=b:=by
 rcases f with⟨k,h,i,_,rfl,rfl⟩|⟨e,_,_,rfl,rfl⟩<;>rcases g with⟨k',hk',hs',_,rfl,rfl⟩|⟨hno',_,_,rfl,rfl⟩
 .exact⟨rfl,rfl⟩
 .exact absurd ⟨k,h,i⟩ hno'
 .exact absurd ⟨k',hk',hs'⟩ e
 .exact⟨rfl,rfl⟩
theorem Gl.de(m:(ks.map (·.sum)).Nodup){y:Int}{w:Zi}(q:Gl wd given births ks ls text refs c a b)(r:Gl wd given births ks ls text refs y w x):c=y/\a=w/\b=x:=by
 have n:∀k∈ks,k.sum=AV text refs wd->AE k.J k.B wd≠AE text refs wd->∀j o,¬Cx wd births ks text refs j o:=by
  intro k f g t j o u;rcases u with⟨v,d,e,h,_⟩|⟨i,_⟩
  .have:=FZ m f d (g.trans e.symm);subst this;exact t h
  .exact i ⟨k,f,g⟩
 rcases q with⟨z,rfl,rfl,rfl⟩|⟨l,q⟩<;>rcases r with⟨hn',rfl,rfl,rfl⟩|⟨hall',r⟩
 .exact⟨rfl,rfl,rfl⟩
 .exact absurd hall' z
 .exact absurd l hn'
 .rcases q with⟨k,f,g,t,rfl,rfl,rfl⟩|⟨i,_,rfl,rfl,rfl⟩|⟨⟨j,o,u⟩,_,rfl,rfl,rfl⟩<;>rcases r with⟨v,d,e,h,rfl,rfl,rfl⟩|⟨hno',_,rfl,rfl,rfl⟩|⟨⟨ks2,b2,hy'⟩,_,rfl,rfl,rfl⟩
  .have:=FZ m f d (g.trans e.symm);subst this;exact⟨rfl,rfl,rfl⟩
  .exact absurd ⟨k,f,g⟩ hno'
  .exact absurd hy' (n k f g t _ _)
  .exact absurd ⟨v,d,e⟩ i
  .exact⟨rfl,rfl,rfl⟩
  .exact⟨rfl,rfl,rfl⟩
  .exact absurd u (n v d e h _ _)
  .exact⟨rfl,rfl,rfl⟩
  .exact⟨rfl,rfl,rfl⟩
theorem Gl.not(o:(ks.map (·.sum)).Nodup)(t:Gl wd given births ks ls text refs c a b){w:List Kd}{q:Int}(i:Cx wd births ks text refs w q)(h:∀r∈refs,Au ks r)(A:ls.length<200)(z:given<1000000000):False:=by
 rcases t with⟨v,_⟩|⟨_,⟨k,j,l,u,_⟩|⟨f,d,_⟩|⟨_,d,_⟩⟩
 .exact v h
 .rcases i with⟨m,e,g,n,_⟩|⟨f,_⟩
  .have:=FZ o j e (l.trans g.symm);subst this;exact u n
  .exact f ⟨k,j,l⟩
 .rcases i with⟨m,e,g,_⟩|⟨_,x,y,_⟩
  .exact f ⟨m,e,g⟩
  .omega
 .omega
theorem Fh.de(k:(ks.map (·.sum)).Nodup){i:Int}{g h:Zi}(d:Fh wd now given births ks ps ls kd s nm num text refs c a b)(e:Fh wd now given births ks ps ls kd s nm num text refs i g h):c=i/\a=g/\b=h:=by
 rcases d with⟨l,d⟩|⟨rfl,rfl,d⟩<;>rcases e with⟨hk',e⟩|⟨rfl,rfl,e⟩
 .exact d.de k e
 .omega
 .omega
 .refine⟨?_,rfl,rfl⟩;rcases d with⟨f,⟨d,rfl⟩|⟨d,j,m,rfl⟩⟩|⟨f,d,rfl⟩|⟨f,⟨d,rfl⟩|⟨d,j,rfl⟩⟩|⟨f,d,rfl⟩|⟨f,d,rfl⟩|⟨f,⟨d,rfl⟩|⟨d,j,rfl⟩⟩<;>rcases e with⟨k2,⟨e,rfl⟩|⟨e,x2,y2,rfl⟩⟩|⟨k2,e,rfl⟩|⟨k2,⟨e,rfl⟩|⟨e,x2,rfl⟩⟩|⟨k2,e,rfl⟩|⟨k2,e,rfl⟩|⟨k2,⟨e,rfl⟩|⟨e,x2,rfl⟩⟩<;>first|rfl|omega|exact absurd e d|exact absurd d e
theorem CN.de{r b:Rs}(c:CN wd now given births ks ps ls kd s nm num text refs r)(d:CN wd now given births ks ps ls kd s nm num text refs b):r=b:=by rcases c with⟨a,_,_,_,f,g,e,rfl⟩|⟨a,_,_,rfl⟩|⟨a,_,rfl⟩|⟨a,_,_,_,rfl⟩|⟨a,_,rfl⟩|⟨a,_,rfl⟩|⟨a,_,_,rfl⟩<;>rcases d with⟨k2,_,_,_,ks2,b2,y2,rfl⟩|⟨k2,_,_,rfl⟩|⟨k2,_,rfl⟩|⟨k2,_,_,_,rfl⟩|⟨k2,_,rfl⟩|⟨k2,_,rfl⟩|⟨k2,_,_,rfl⟩<;>first|rfl|omega|(obtain⟨rfl,rfl⟩:=e.de y2;rfl)
theorem Fh.not(i:(ks.map (·.sum)).Nodup){r:Rs}(d:Fh wd now given births ks ps ls kd s nm num text refs c a b)(j:CN wd now given births ks ps ls kd s nm num text refs r):False:=by rcases j with⟨g,h,l,k,n,o,m,_⟩|⟨g,f,e,_⟩|⟨g,f,_⟩|⟨g,f,e,q,_⟩|⟨g,f,_⟩|⟨g,f,_⟩|⟨g,f,e,_⟩<;>rcases d with⟨k1,d⟩|⟨_,_,⟨k1,⟨d,_⟩|⟨d,x1,z1,_⟩⟩|⟨k1,d,_⟩|⟨k1,⟨d,_⟩|⟨d,x1,_⟩⟩|⟨k1,d,_⟩|⟨k1,d,_⟩|⟨k1,⟨d,_⟩|⟨d,x1,_⟩⟩⟩<;>first|omega|exact absurd f d|exact absurd x1 e|exact d.not i m h l k|(rcases e with e|e;exact x1 e;omega)
end
end
section
structure FN (wd now given births:Int) (ks:List Kd) (ps:List Pd) (ls:List Ld):Prop where
 bn:Em wd ks
 w1:1<=wd
 np:ps.length<=100
 nl:ls.length<=200
 bt:ps.Pairwise (fun a b=>less a.name b.name=true)
 di:ls.Pairwise (fun a b=>a.H<b.H)
 cw:0<=now
 cn:now<=1000000000
 bj:0<=given
 bh:given<=1000000000
 ax:0<=births
 ai:births<=1000000000
 cg:∀k∈ks,k.J.size<=2000
 dv:∀k∈ks,k.B.length<=30
 fj:∀x∈ls,x.H<=given
theorem FN.zero(a:1<=wd)(b:wd<=8):FN wd 0 0 0 [] [] []:=
 ⟨⟨Yu,Yu,Yu,by intro k c;simp at c,Yu,b⟩,a,Yu,Yu,Yu,Yu,Yv,Yv,Yv,Yv,Yv,Yv,Yu,Yu,Yu⟩
section
variable {wd now given births:Int} {ks:List Kd} {ps:List Pd} {ls:List Ld} {kd:Int} {s nm:Zi} {num:Int} {text:Zi} {refs:Zl}
theorem FN.jk(h:FN wd now given births ks ps ls)(a:Bw kd s nm num text refs wd=true)(c:text.size<=maxLen):GC wd now given births ks ps ls kd num text refs:=by obtain⟨d,f,e⟩:=DR a;exact⟨h.bn,h.w1,h.np,h.nl,h.bt,h.di,h.cw,h.cn,h.bj,h.bh,h.ax,h.ai,d,f,e.n0,e.n1,fun k b=>by have:=h.cg k b;unfold maxLen;omega,c,by have:=Lm a;omega⟩
theorem PD(h:Bw kd s nm num text refs wd=true):text.size<=2000:=by
 unfold Bw at h;simp only[Bool.and_eq_true,decide_eq_true_eq]at h;have b:=h.2;unfold Cu at b;simp only[Bool.and_eq_true,decide_eq_true_eq]at b;have a:=b.2.2.2.2;unfold GW at a;split at a
 .exact(Be a).J
 .have c:=(of_decide_eq_true a).1;omega
theorem Qw(n s:Zi)(h:ps.Pairwise (fun a b=>less a.name b.name=true)):(Bh ps n s).Pairwise (fun a b=>less a.name b.name=true):=by
 unfold Bh;rw[List.pairwise_append,List.pairwise_append];have e:∀y∈ps.filter (fun x=> !(less x.name n)&& !decide (x.name=n)),less n y.name=true:=fun y d=>by have f:=(List.mem_filter.1 d).2;simp only[Bool.and_eq_true,Bool.not_eq_true',decide_eq_false_iff_not]at f;exact OD f.1 f.2
 refine⟨⟨h.filter _,Yu,fun x c y d=> ?_⟩,h.filter _,fun x c y d=> ?_⟩
 .rw[List.mem_singleton]at d;subst d;exact(List.mem_filter.1 c).2
 .rcases List.mem_append.1 c with c|c
  .exact Cb (List.mem_filter.1 c).2 (e y d)
  .rw[List.mem_singleton]at c;subst c;exact e y d
theorem Qx{x:Kd}(h:(ks.map (·.sum)).Pairwise (fun a b=>less a b=true))(i:¬Au ks x.sum):((CZ ks x).map (·.sum)).Pairwise (fun a b=>less a b=true):=by
 rw[List.pairwise_map]at h |-;unfold CZ;rw[List.pairwise_append,List.pairwise_append];have f:∀y∈ks.filter (fun k=> !(less k.sum x.sum)),less x.sum y.sum=true:=fun y c=>by obtain⟨j,g⟩:=List.mem_filter.1 c;simp only[Bool.not_eq_true']at g;exact OD g (fun e=>i ⟨y,j,e⟩)
 refine⟨⟨h.filter _,Yu,fun y c z d=> ?_⟩,h.filter _,fun y c z d=> ?_⟩
 .rw[List.mem_singleton]at d;subst d;exact(List.mem_filter.1 c).2
 .rcases List.mem_append.1 c with c|c
  .exact Cb (List.mem_filter.1 c).2 (f z d)
  .rw[List.mem_singleton]at c;subst c;exact f z d
theorem Em.drop(h:Em wd ks)(t:Zi):Em wd (CK ks t):=by have a:(CK ks t).Sublist ks:=List.filter_sublist;exact⟨h.nd.sublist (a.map _),h.dh.sublist (a.map _),fun k b=>h.sz k (a.subset b),fun k b=>h.B k (a.subset b),Zm a.length_le h.len,h.w8⟩
theorem FN.step(h:FN wd now given births ks ps ls)(A:Bw kd s nm num text refs wd=true){r:Rs}(i:CN wd now given births ks ps ls kd s nm num text refs r):FN wd r.E r.F r.C r.A r.ps r.ls:=by
 obtain⟨M,N,e⟩:=DR A;have H:=e.n0;have I:=e.n1;have g:∀x:Ld,x.H=given+1->(ls++[x]).Pairwise (fun a b=>a.H<b.H)/\∀y∈ls++[x],y.H<=given+1:=fun x m=>by
  refine⟨?_,fun y i=> ?_⟩
  .rw[List.pairwise_append];refine⟨h.di,Yu,fun y i z t=> ?_⟩;rw[List.mem_singleton]at t;subst t;have:=h.fj y i;omega
  .rcases List.mem_append.1 i with i|i
   .have:=h.fj y i;omega
   .rw[List.mem_singleton]at i;subst i;omega
 rcases i with⟨rfl,_,C,B,J,K,i,rfl⟩|⟨_,_,f,rfl⟩|⟨_,_,rfl⟩|⟨_,_,C,B,rfl⟩|⟨_,_,rfl⟩|⟨_,E,rfl⟩|⟨_,_,_,rfl⟩
 .have n:(ls++[(⟨given+1,AV text refs wd,now+num⟩:Ld)]).length<=200:=Yt
  have j:=g ⟨given+1,AV text refs wd,now+num⟩ rfl;have u:=h.bj;have l:=Be (e.dt rfl);rcases i with⟨_,_,_,_,rfl,rfl⟩|⟨w,G,L,rfl,rfl⟩
  .exact⟨h.bn,h.w1,h.np,n,h.bt,j.1,h.cw,h.cn,by show 0<=given+1;omega,by show given+1<=_;omega,h.ax,h.ai,h.cg,h.dv,j.2⟩
  .have D:=DS ks ⟨AV text refs wd,births+1,text,refs⟩;have F:=h.ax;have d:∀k∈CZ ks ⟨AV text refs wd,births+1,text,refs⟩,k=⟨AV text refs wd,births+1,text,refs⟩\/k∈ks:=fun k c=>List.mem_cons.1 (D.mem_iff.1 c);have v:Em wd (CZ ks ⟨AV text refs wd,births+1,text,refs⟩):=by
    have q:=Qx (x:=⟨AV text refs wd,births+1,text,refs⟩) h.bn.dh w;refine⟨KI q,q,fun k c=> ?_,fun k c=> ?_,by rw[Lh];omega,h.bn.w8⟩
    .rcases d k c with rfl|c
     .exact EF _ _ _ h.w1
     .exact h.bn.sz k c
    .rcases d k c with rfl|c
     .exact⟨by have:=l.B;show refs.length<=_;omega,Np l.all⟩
     .exact h.bn.B k c
   refine⟨v,h.w1,h.np,n,h.bt,j.1,h.cw,h.cn,by show 0<=given+1;omega,by show given+1<=_;omega,by show 0<=births+1;omega,by show births+1<=_;omega,fun k c=> ?_,fun k c=> ?_,j.2⟩
   .rcases d k c with rfl|c
    .exact l.J
    .exact h.cg k c
   .rcases d k c with rfl|c
    .exact l.B
    .exact h.dv k c
 .have o:=Im ps nm s;refine⟨h.bn,h.w1,?_,h.nl,Qw nm s h.bt,h.di,h.cw,h.cn,h.bj,h.bh,h.ax,h.ai,h.cg,h.dv,h.fj⟩;rcases f with f|f
  .exact Zm (o.2 f) h.np
  .exact Zm o.1 Yv
 .exact⟨h.bn,h.w1,Zm (List.length_filter_le _ _) h.np,h.nl,h.bt.filter _,h.di,h.cw,h.cn,h.bj,h.bh,h.ax,h.ai,h.cg,h.dv,h.fj⟩
 .have j:=g ⟨given+1,s,now+num⟩ rfl;have u:=h.bj;exact⟨h.bn,h.w1,h.np,Yt,h.bt,j.1,h.cw,h.cn,by show 0<=given+1;omega,by show given+1<=_;omega,h.ax,h.ai,h.cg,h.dv,j.2⟩
 .exact⟨h.bn,h.w1,h.np,Zm (List.length_filter_le _ _) h.nl,h.bt,h.di.filter _,h.cw,h.cn,h.bj,h.bh,h.ax,h.ai,h.cg,h.dv,fun x m=>h.fj x (List.mem_filter.1 m).1⟩
 .have:=h.cw;exact⟨h.bn,h.w1,h.np,Zm (List.length_filter_le _ _) h.nl,h.bt,h.di.filter _,by show 0<=now+num;omega,E,h.bj,h.bh,h.ax,h.ai,h.cg,h.dv,fun x m=>h.fj x (List.mem_filter.1 m).1⟩
 .exact⟨h.bn.drop s,h.w1,h.np,h.nl,h.bt,h.di,h.cw,h.cn,h.bj,h.bh,h.ax,h.ai,fun k c=>h.cg k (List.mem_filter.1 c).1,fun k c=>h.dv k (List.mem_filter.1 c).1,h.fj⟩
end
end
theorem Ln(w:Zh)(a:Nat):AY w a Zb Zb Zb [] [] [] []:=
 ⟨rfl,⟨rfl,.inl ⟨rfl,rfl⟩⟩,fun i k r b=>(by simp at b),⟨rfl,.inl ⟨rfl,rfl⟩⟩,⟨rfl,.inl ⟨rfl,rfl⟩⟩,List.nodup_nil⟩
structure An where
 code:Int
 wd:Int
 E:Int
 F:Int
 C:Int
 le:Int
 y:Zi
 a:Zi
 b:Zi
 A:List Kd
 ps:List Pd
 ls:List Ld
def r0:Rs:=⟨⟨#[]⟩,0,0,0,0,[],[],[]⟩
def Kb(wd:Int)(r:Rs)(x:Zi)(r':Rs):Prop:=(Av x wd).ok=true/\CN wd r.E r.F r.C r.A r.ps r.ls (Av x wd).k (Av x wd).sum (Av x wd).name (Av x wd).n (Av x wd).t (Av x wd).ss r'
def ZT(wd:Int)(r:Rs)(x:Zi):Prop:=(Av x wd).ok=false\/∃c a b,Fh wd r.E r.F r.C r.A r.ps r.ls (Av x wd).k (Av x wd).sum (Av x wd).name (Av x wd).n (Av x wd).t (Av x wd).ss c a b
def BS(wd:Int):Rs->Zl->Rs->Prop
 |r,[],r'=>r'=r
 |r,x::xs,r'=>∃r1,Kb wd r x r1/\BS wd r1 xs r'
def Ec(wd:Int)(xs:Zl)(n:Nat):Prop:=∃k r x,n=k+1/\xs[k]?=some x/\BS wd r0 (xs.take k) r/\ZT wd r x
def Rs.ok(wd:Int)(r:Rs):Prop:=FN wd r.E r.F r.C r.A r.ps r.ls
theorem BS.snoc{a r2:Rs}(b:Kb wd a x r2):∀{xs:Zl} {r:Rs},BS wd r xs a->BS wd r (xs++[x]) r2
 |[],r,h=>by obtain rfl:a=r:=h;exact⟨r2,b,rfl⟩
 |y::ys,r,h=>by obtain⟨e,c,d⟩:=h;exact⟨e,c,BS.snoc b d⟩
theorem Kb.de{r a b:Rs}(h:Kb wd r x a)(k:Kb wd r x b):a=b:=h.2.de k.2
theorem Kb.ok{r a:Rs}(h:Kb wd r x a)(b:r.ok wd):a.ok wd:=FN.step b (DQ h.1).1 h.2
theorem Kb.not{r f:Rs}(h:Kb wd r x f)(d:r.ok wd):¬ZT wd r x:=by
 rintro(e|⟨c,a,b,e⟩)
 .rw[h.1]at e;cases e
 .exact e.not d.bn.nd h.2
theorem BS.de:∀{xs:Zl} {r a b:Rs},BS wd r xs a->BS wd r xs b->a=b
 |[],r,a,b,h,k=>by have c:=h;have d:=k;rw[c,d]
 |x::xs,r,a,b,h,k=>by obtain⟨g,c,d⟩:=h;obtain⟨i,e,f⟩:=k;obtain rfl:=c.de e;exact BS.de d f
theorem BS.ok:∀{xs:Zl} {r r':Rs},BS wd r xs r'->r.ok wd->r'.ok wd
 |[],r,r',h,hr=>by obtain rfl:r'=r:=h;exact hr
 |x::xs,r,r',h,hr=>by obtain⟨c,a,b⟩:=h;exact BS.ok b (a.ok hr)
theorem BS.at:∀{xs:Zl} {r r':Rs},BS wd r xs r'->∀{k:Nat} {x:Zi},xs[k]?=some x->∃a b,BS wd r (xs.take k) a/\Kb wd a x b
 |[],r,r',h,k,x,hx=>by simp at hx
 |y::ys,r,r',h,k,x,hx=>by
  obtain⟨d,c,e⟩:=h;cases k with
  |zero=>simp at hx;subst hx;exact⟨r,d,rfl,c⟩
  |succ k=>obtain⟨a,b,f,g⟩:=BS.at e (k:=k) (x:=x) (by simpa using hx);exact⟨a,b,⟨d,c,f⟩,g⟩
theorem Du(a:1<=wd)(b:wd<=8):r0.ok wd:=FN.zero a b
theorem Ec.not{b:Zl}{r:Rs}(c:1<=wd)(g:wd<=8)(h:Ec wd b n):¬BS wd r0 b r:=fun i=>by obtain⟨k,l,x,rfl,j,a,d⟩:=h;obtain⟨m,o,e,f⟩:=i.at j;obtain rfl:=a.de e;exact f.not (a.ok (Du c g)) d
theorem Ec.le{c:Zl}(e:1<=wd)(l:wd<=8)(h:Ec wd c n)(k:Ec wd c m):m<=n:=by
 obtain⟨i,v,x,rfl,o,a,f⟩:=h;obtain⟨j,w,y,rfl,t,q,u⟩:=k;rcases Nat.lt_or_ge i j with d|r
 .obtain⟨z,A,b,g⟩:=q.at (k:=i) (x:=x) (by rw[List.getElem?_take_of_lt d];exact o);rw[List.take_take,Nat.min_eq_left Yv]at b;obtain rfl:=a.de b;exact absurd f (g.not (a.ok (Du e l)))
 .omega
theorem Ec.de{c:Zl}(a:1<=wd)(b:wd<=8)(h:Ec wd c n)(k:Ec wd c m):n=m:=Nat.le_antisymm (k.le a b h) (h.le a b k)
def FT(wd:Int)(xs:Zl)(x:An):Prop:=
 (¬((1<=wd/\wd<=8)/\xs.length<=4000)/\x=⟨1,0,0,0,0,0,⟨#[]⟩,⟨#[]⟩,⟨#[]⟩,[],[],[]⟩)\/
 (((1<=wd/\wd<=8)/\xs.length<=4000)/\(
   (∃n:Nat,Ec wd xs n/\x=⟨7,0,0,0,0,n,⟨#[]⟩,⟨#[]⟩,⟨#[]⟩,[],[],[]⟩)\/
   (∃r,BS wd r0 xs r/\x=⟨0,wd,r.E,r.F,r.C,0,⟨#[]⟩,⟨#[]⟩,⟨#[]⟩,r.A,r.ps,r.ls⟩)))
theorem FT.de{b:Zl}{x y:An}(h:FT wd b x)(k:FT wd b y):x=y:=by
 rcases h with⟨c,rfl⟩|⟨a,h⟩<;>rcases k with⟨n2,rfl⟩|⟨g2,k⟩
 .rfl
 .exact absurd g2 c
 .exact absurd a n2
 .rcases h with⟨n,h,rfl⟩|⟨r,h,rfl⟩<;>rcases k with⟨m,k,rfl⟩|⟨q,k,rfl⟩
  .obtain rfl:=h.de a.1.1 a.1.2 k;rfl
  .exact absurd k (h.not a.1.1 a.1.2)
  .exact absurd h (k.not a.1.1 a.1.2)
  .obtain rfl:=h.de k;rfl
structure Vd where
 wd:Int
 lim:Int
 ss:Zl
 D:Zl
 S:Int
 E:Int
 F:Int
 C:Int
 A:List Kd
 ps:List Pd
 ls:List Ld
 L:Int
 G:Zl
 ms:Zl
 Q:Int
 P:Int
 ro:Int
structure Va where
 X:Zk
 sc:Nat
 V:Zk
 W:Nat
 Y:Zk
 j:Nat
 O:Zk
 U:Nat
 M:Zk
 T:Nat
 g:Zk
 qc:Nat
 i:Zk
 mc:Nat
abbrev Xp(v:Vd)(a:Va):Array Value:=#[.int .i64 v.wd,.int .i64 v.lim,.slice a.X v.ss.length a.sc,.slice a.V v.D.length a.W,.int .i64 v.S,.int .i64 v.E,.int .i64 v.F,.int .i64 v.C,.slice a.Y v.A.length a.j,.slice a.O v.ps.length a.U,.slice a.M v.ls.length a.T,.int .i64 v.L,.slice a.g v.G.length a.qc,.slice a.i v.ms.length a.mc,.int .i64 v.Q,.int .i64 v.P,.int .i64 v.ro]
abbrev Xn(v:Vd)(a:Va):List Value:=[.int .i64 v.wd,.int .i64 v.lim,.slice a.X v.ss.length a.sc,.slice a.V v.D.length a.W,.int .i64 v.S,.int .i64 v.E,.int .i64 v.F,.int .i64 v.C,.slice a.Y v.A.length a.j,.slice a.O v.ps.length a.U,.slice a.M v.ls.length a.T,.int .i64 v.L,.slice a.g v.G.length a.qc,.slice a.i v.ms.length a.mc,.int .i64 v.Q,.int .i64 v.P,.int .i64 v.ro]
abbrev Xm(v:Vd)(a:Option Addr)(b:Nat)(c:Option Addr)(d:Nat)(e:Option Addr)(f:Nat)(g:Option Addr)(h:Nat)(i:Option Addr)(j:Nat)(k:Option Addr)(l:Nat)(m:Option Addr)(n:Nat):List Value:=[.int .i64 v.wd,.int .i64 v.lim,.slice a v.ss.length b,.slice c v.D.length d,.int .i64 v.S,.int .i64 v.E,.int .i64 v.F,.int .i64 v.C,.slice e v.A.length f,.slice g v.ps.length h,.slice i v.ls.length j,.int .i64 v.L,.slice k v.G.length l,.slice m v.ms.length n,.int .i64 v.Q,.int .i64 v.P,.int .i64 v.ro]
abbrev Xl(v:Vd)(a:Option Addr)(b:Nat)(c:Option Addr)(d:Nat)(e:Option Addr)(f:Nat)(g:Option Addr)(h:Nat)(i:Option Addr)(j:Nat)(k:Option Addr)(l:Nat)(m:Option Addr)(n:Nat):Array Value:=#[.int .i64 v.wd,.int .i64 v.lim,.slice a v.ss.length b,.slice c v.D.length d,.int .i64 v.S,.int .i64 v.E,.int .i64 v.F,.int .i64 v.C,.slice e v.A.length f,.slice g v.ps.length h,.slice i v.ls.length j,.int .i64 v.L,.slice k v.G.length l,.slice m v.ms.length n,.int .i64 v.Q,.int .i64 v.P,.int .i64 v.ro]
structure CQ (w:Zh) (B:Nat) (a:Va) (v:Vd):Prop where
 s:Ad w B a.X v.ss
 t:Ad w B a.V v.D
 st:Bt w B a.Y a.O a.M v.A v.ps v.ls
 q:Ad w B a.g v.G
 m:Ad w B a.i v.ms
theorem CQ.ag{c:Zh}{a:Va}{v:Vd}(h:CQ w B a v)(b:Below B w c):CQ c B a v:=
 ⟨h.s.below b,h.t.below b,h.st.ag b,h.q.below b,h.m.below b⟩
theorem CQ.mono{B':Nat}{a:Va}{v:Vd}(h:CQ w B a v)(b:B<=B'):CQ w B' a v:=
 ⟨h.s.mono b,h.t.mono b,h.st.mono b,h.q.mono b,h.m.mono b⟩
theorem CQ.N{b:Zh}{a:Va}{v:Vd}(h:CQ w w.heap.size a v)(c:Zz w b):CQ b b.heap.size a v:=(h.ag c).mono c.size
structure VJ (a:Va) (v:Vd):Prop where
 s:a.X=none->v.ss.length=0/\a.sc=0
 t:a.V=none->v.D.length=0/\a.W=0
 m:v.ms.length<=a.mc
structure Ge (v:Vd):Prop where
 s:v.ss.length<=1048576
 t:v.D.length<=1048576
 ss:∀s∈v.ss,s.size<=1048576
 D:∀s∈v.D,s.size<=1048576
 st:Ro v.A v.ps v.ls
 r:RH v.G v.ms
 rn:FB v.A<=1048576
structure DM (v:Vd) (r:Rs):Prop where
 wd:1<=v.wd/\v.wd<=8
 lim:0<=v.lim/\v.lim<=1000000
 log:Ct v.ss v.D=true
 run:BS v.wd r0 (v.ss++v.D) r
 same:(v.wd=v.S/\r.E=v.E/\r.F=v.F/\r.C=v.C)/\r.A=v.A/\r.ps=v.ps/\r.ls=v.ls
 round:BX v.wd v.C v.L v.Q v.P v.ro v.G v.ms
def Cy(v:Vd):Prop:=∃r,DM v r
theorem EG{a b:Zl}(h:Ct a b=true):(a++b).length<=4000:=by unfold Ct at h;simp at h;rw[List.length_append];exact h.1
theorem PE{b:Nat}{j k l m n o q r t u a c d e f g i:Value}(h:Aa w b [j,k,l,m,n,o,q,r,t,u,a,c,d,e,f,g,i]):w.cell? (Zd b 0)=some j/\w.cell? (Zd b 1)=some k/\w.cell? (Zd b 2)=some l/\w.cell? (Zd b 3)=some m/\w.cell? (Zd b 4)=some n/\w.cell? (Zd b 5)=some o/\w.cell? (Zd b 6)=some q/\w.cell? (Zd b 7)=some r/\w.cell? (Zd b 8)=some t/\w.cell? (Zd b 9)=some u/\w.cell? (Zd b 10)=some a/\w.cell? (Zd b 11)=some c/\w.cell? (Zd b 12)=some d/\w.cell? (Zd b 13)=some e/\w.cell? (Zd b 14)=some f/\w.cell? (Zd b 15)=some g/\w.cell? (Zd b 16)=some i:=
 ⟨(h 0 _ rfl).1,(h 1 _ rfl).1,(h 2 _ rfl).1,(h 3 _ rfl).1,(h 4 _ rfl).1,(h 5 _ rfl).1,(h 6 _ rfl).1,(h 7 _ rfl).1,(h 8 _ rfl).1,(h 9 _ rfl).1,(h 10 _ rfl).1,(h 11 _ rfl).1,(h 12 _ rfl).1,(h 13 _ rfl).1,(h 14 _ rfl).1,(h 15 _ rfl).1,(h 16 _ rfl).1⟩
end Go.Proofs.YtoglnpagihdhpaaGreatDoor
