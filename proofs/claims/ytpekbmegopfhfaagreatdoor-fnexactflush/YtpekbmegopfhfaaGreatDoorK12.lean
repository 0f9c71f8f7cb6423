import Derived.Test.YtpekbmegopfhfaaGreatDoorK11
import Derived.Laws.IdiomCopy
import Derived.Laws.NewBlocks
import Derived.Laws.AppendOwn
import Derived.Lib.AppendZerosOnto
import Derived.Lib.Overlaps
import Derived.Lib.Walk
set_option maxRecDepth 100000
set_option maxHeartbeats 16000000
namespace Go.Proofs.YtpekbmegopfhfaaGreatDoor
open Go.ChangeShapes Go.WideShapes Go.ChangeAt Go.RowKit _root_.Go.Proofs.Tryz
def Dg (ps:List Pd) (n:ByteArray):Bool:= !(ps.all (fun x=>less x.name n))
def BG (ps:List Pd) (n s:ByteArray):List Pd:=ps.filter (fun x=>less x.name n)++(if Dg ps n then [⟨n,s⟩] else [])++ps.filter (fun x=> !(less x.name n)&& !decide (x.name=n))
theorem Gx {ps:List Pd} {k:Nat} {x:Pd} (n:ByteArray) (hx:ps[k]?=some x):Dg (ps.take (k+1)) n=(Dg (ps.take k) n|| !(less x.name n)):=by
 obtain⟨zA,rfl⟩:=XC hx;unfold Dg;rw[XE zA,List.all_append];simp
theorem ES {ps:List Pd} {n:ByteArray} (h:Dg ps n=false):ps.filter (fun x=> !(less x.name n)&& !decide (x.name=n))=[]:=by
 rw[List.filter_eq_nil_iff];intro x hx;have:less x.name n=true:=by
  unfold Dg at h;simp only[Bool.not_eq_false'] at h;exact List.all_eq_true.1 h x hx
 simp[this]
theorem Pz {ps:List Pd} {k:Nat} {x:Pd} (n s:ByteArray) (hx:ps[k]?=some x) (hd:Dg (ps.take k) n=false) (hl:less x.name n=true):BG (ps.take (k+1)) n s=BG (ps.take k) n s++[x]:=by
 have h1:=Gx n hx;rw[hd,hl] at h1;unfold BG;rw[ES hd,ES (by rw[h1];rfl),h1,hd];obtain⟨zA,rfl⟩:=XC hx;rw[XE zA,List.filter_append];simp[hl]
theorem UI {ps:List Pd} {k:Nat} {x:Pd} (n s:ByteArray) (hx:ps[k]?=some x) (hd:Dg (ps.take k) n=false) (hl:less x.name n=false):BG (ps.take (k+1)) n s=BG (ps.take k) n s++[⟨n,s⟩]++(if x.name=n then [] else [x]):=by
 have h1:=Gx n hx;rw[hd,hl] at h1;unfold BG;rw[ES hd,h1,hd];have ha:=ES hd;obtain⟨zA,rfl⟩:=XC hx;rw[XE zA,List.filter_append,List.filter_append,ha];by_cases hn:ps[k].name=n
 ·simp[hn,BX]
 ·simp[hl,hn]
theorem Rd {ps:List Pd} {k:Nat} {x:Pd} (n s:ByteArray) (zB:ps.Pairwise (fun a b=>less a.name b.name=true)) (hx:ps[k]?=some x) (hd:Dg (ps.take k) n=true):x.name≠n/\BG (ps.take (k+1)) n s=BG (ps.take k) n s++[x]:=by
 have h1:=Gx n hx;rw[hd,Bool.true_or] at h1;obtain⟨zE,rfl⟩:=XC hx;obtain⟨y,hy,zC⟩:∃y∈ps.take k,less y.name n=false:=by
  unfold Dg at hd;simpa using hd
 obtain⟨j,hj⟩:=List.getElem?_of_mem hy;obtain⟨zF,e⟩:=XC hj;rw[List.length_take] at zF;rw[List.getElem_take] at e;have zA:=List.pairwise_iff_getElem.1 zB j k (by omega) zE (by omega);rw[e] at zA;have hl:less ps[k].name n=false:=by
  cases h:less ps[k].name n with
  |false=>rfl
  |true=>rw[Cl zA h] at zC;cases zC
 have hn:ps[k].name≠n:=fun e2=>by rw[e2] at zA;rw[zA] at zC;cases zC
 refine⟨hn,?_⟩;unfold BG;rw[h1,hd,XE zE,List.filter_append,List.filter_append];simp[hl,hn]
theorem SY {ps:List Pd} (n s:ByteArray) (hd:Dg ps n=true):BG ps n s=Bi ps n s:=by
 unfold BG Bi;rw[hd];rfl
theorem UJ {ps:List Pd} (n s:ByteArray) (hd:Dg ps n=false):BG ps n s++[⟨n,s⟩]=Bi ps n s:=by
 unfold BG Bi;rw[hd,ES hd];simp
theorem Jp (ps:List Pd) (n s:ByteArray):(BG ps n s).length<=ps.length+1:=by
 have h:∀(l:List Pd),(l.filter (fun x=>less x.name n)).length+(l.filter (fun x=> !(less x.name n)&& !decide (x.name=n))).length<=l.length:=by
  intro l;induction l with
  |nil=>simp
  |cons x l ih=>
   rw[List.filter_cons,List.filter_cons];cases less x.name n<;>by_cases hn:x.name=n<;>simp[hn]<;>omega
 have:=h ps;unfold BG;rw[List.length_append,List.length_append];split<;>simp<;>omega
def Uc (w w':World) (e:Ending) (wd now given births:Int) (T L:Value) (ps:List Pd) (n s:ByteArray):Prop:=
 Below w.heap.size w w'/\((100<(Bi ps n s).length/\e=.returned (.agg #[XJ 4,XK,XK,XK,XK,XN,XN,XN,XM,XK,XM,XM]))∨
  ((Bi ps n s).length<=100/\∃g c,e=.returned (.agg #[XK,XJ wd,XJ now,XJ given,XJ births,T,.slice (some ⟨g,0,none⟩) (Bi ps n s).length c,L,XM,XK,XM,XM])/\w'.ownsRow w.heap.size 134 2 (.slice (some ⟨g,0,none⟩) (Bi ps n s).length c) (Bi ps n s).length (Ab pC (Bi ps n s))))
theorem Re (wd now given births kind num:Int) (ta pa la ra:Option Addr) (tc pc lc ln rn rc:Nat) (ks:List Kd) (ps:List Pd) (n s text:ByteArray) (w:World) (xF:Bx w w.heap.size ta ks) (yI:AQ w w.heap.size pa ps) (xY:ks.length<=1000) (hl:ps.length<=1000) (xI:Au ks s) (zT:ps.Pairwise (fun a b=>less a.name b.name=true)):
 Calls prog 86 #[.agg #[XJ wd,XJ now,XJ given,XJ births,.slice ta ks.length tc,.slice pa ps.length pc,.slice la ln lc],.agg #[XJ kind,.string s,.string n,XJ num,.string text,.slice ra rn rc]] w fun e w'=>Uc w w' e wd now given births (.slice ta ks.length tc) (.slice la ln lc) ps n s:=by
 obtain⟨W,hW⟩:∃W,W=((w.alloc (.cells #[XJ wd,XJ now,XJ given,XJ births,.slice ta ks.length tc,.slice pa ps.length pc,.slice la ln lc] 28)).alloc (.cells #[XJ kind,.string s,.string n,XJ num,.string text,.slice ra rn rc] 77)).alloc (.cells #[XK,XK,XK,XK,XK,XN,XN,XN,XM,XK,XM,XM] 30):=⟨_,rfl⟩;have bW:=(Bp hW).1;have xM:=(Bp hW).2.1;have x0:=(Bp hW).2.2.1
 have xe:Aa W (w.heap.size+1) [XJ kind,.string s,.string n,XJ num,.string text,.slice ra rn rc]:=by
  have h1:=Aa.new (w.alloc (.cells #[XJ wd,XJ now,XJ given,XJ births,.slice ta ks.length tc,.slice pa ps.length pc,.slice la ln lc] 28)) [XJ kind,.string s,.string n,XJ num,.string text,.slice ra rn rc] 77;rw[World.size_alloc] at h1;rw[hW];exact Aa.below h1 (XA)
 have x1:Aa W (w.heap.size+2) As:=by
  have h1:=Aa.new ((w.alloc (.cells #[XJ wd,XJ now,XJ given,XJ births,.slice ta ks.length tc,.slice pa ps.length pc,.slice la ln lc] 28)).alloc (.cells #[XJ kind,.string s,.string n,XJ num,.string text,.slice ra rn rc] 77)) As 30;rw[World.size_alloc,World.size_alloc] at h1;rw[hW];exact h1
 have xH:Hid _:=Fb wd now given births ta tc (.slice pa ps.length pc) (.slice la ln lc) ks s W w.heap.size (Bx.below xF bW) bW.size (by omega);have vC:¬Cy ks s<0:=by
  rcases Fu ks s with⟨_,hn⟩|⟨i,k,e,_⟩
  ·exact absurd xI hn
  ·omega
 have HX:Hid (∀X,Below (w.heap.size+3) W X->Aa X w.heap.size [XJ wd,XJ now,XJ given,XJ births,.slice ta ks.length tc,.slice pa ps.length pc,.slice la ln lc]/\Aa X (w.heap.size+1) [XJ kind,.string s,.string n,XJ num,.string text,.slice ra rn rc]/\Aa X (w.heap.size+2) As):=fun X hX=>⟨Aa.same x0 (hX.block _ (by omega)),Aa.same xe (hX.block _ (by omega)),Aa.same x1 (hX.block _ (by omega))⟩
 have HW:Hid _:=hW;have zA:w.heap.size+3<=W.heap.size:=by omega
 have HR:Hid (AQ w w.heap.size pa ps):=yI;have xG:Hid (Xz w W):=bW;have xK:Hid (ps.Pairwise (fun a b=>less a.name b.name=true)):=zT;obtain⟨v0,v1,v2,v3,v4,v5,v6,v7⟩:=Br x0;obtain⟨u1,_⟩:=xe 1 _ rfl;clear hW xM x0 x1 xe yI bW xF xI zT;go_enter func86,ntmps86;go_upto_region 1 with fail;rw[←HW.o];clear HW;go_wp2_with fail;refine Calls.mono xH.o ?_;rintro e W1 ⟨rfl,yQ⟩
 have yP:w.heap.size+3<=W1.heap.size:=XI zA yQ.size;have xS:Hid (Below (w.heap.size+3) W W1):=yQ.mono zA;have bA:Below W1.heap.size W1 (W1.alloc (.cells #[] 134)):=XA;have xA:Hid ((W1.alloc (.cells #[] 134)).ownsRow (w.heap.size+3) 134 2 (.slice (some ⟨W1.heap.size,0,none⟩) 0 0) 0 []):=World.ownsRow_lit (base:=w.heap.size+3) (e:=134) (size:=2) W1 #[] 0 (by omega) (by unfold maxLen;omega) rfl
 have yZ:Hid (Below (w.heap.size+3) W (W1.alloc (.cells #[] 134))):=xS.o.trans (bA.mono yP);generalize Cy ks s=fi at *
 clear xH bA yQ u1 v0 v1 v2 v3 v4 v5 v6 v7;go_wp2
 go_loopw [5,6,7] (fun v dn i wr=>∃(k g c:Nat),k<=ps.length/\i=XJ k/\dn=.bool (Dg (ps.take k) n)/\v=.slice (some ⟨g,0,none⟩) (BG (ps.take k) n s).length c/\Hid (wr.ownsRow (w.heap.size+3) 134 2 (.slice (some ⟨g,0,none⟩) (BG (ps.take k) n s).length c) (BG (ps.take k) n s).length (Ab pC (BG (ps.take k) n s))/\Below (w.heap.size+3) W wr)) (fun _ _ i _=>ps.length -(intOf i).toNat)
 case atStart=>exact⟨0,W1.heap.size,0,Nat.zero_le _,rfl,rfl,by simp[BG,Dg],⟨by simpa [BG,Dg,Ab] using xA.o,yZ.o⟩⟩
 case round=>
  clear xA yZ;obtain⟨k,g,c,hk,rfl,rfl,rfl,HI⟩:=hrel;have yG:Below w.heap.size w wr:=xG.o.trans (HI.o.2.mono (by omega));have yS:w.heap.size+3<=wr.heap.size:=XI zA HI.o.2.size;obtain⟨v0,v1,v2,v3,v4,v5,v6,v7⟩:=Br (HX.o _ HI.o.2).1;obtain⟨u1,u2⟩:=Aa.c2 ((HX.o _ HI.o.2).2.1) 1 2;by_cases hlt:k<ps.length
  ·obtain⟨b',off,ha,hb,xC⟩:=(AQ.below HR.o yG).at hlt
   subst ha;have HG:Hid (ps[k]?=some ps[k]):=XD hlt;obtain⟨c0,c1⟩:=xC k _ HG.o;have xN:∀X,Below (w.heap.size+3) W X->X.cell? (XL b' (off+k *2))=some (.string ps[k].name)/\X.cell? (XL b' (off+k *2+1))=some (.string ps[k].sum):=fun X hX=>by
    obtain⟨b2,xQ,e2,_,xJ⟩:=(AQ.below HR.o (xG.o.trans (hX.mono (by omega)))).at hlt;cases e2;exact xJ k _ HG.o
   have xW:(BG (ps.take k) n s).length<=1001:=by
    have:=Jp (ps.take k) n s;rw[List.length_take] at this;omega
   have yR:b'<wr.heap.size:=by have:=yG.size;omega
   clear xC;have zF:Hid _:=Pz n s HG.o;have yK:Hid _:=UI n s HG.o;have zJ:Hid _:=Rd n s xK.o HG.o;have HD:Hid _:=Gx n HG.o;generalize ps[k]=x at *
   generalize hGk:BG (ps.take k) n s=gk at *
   generalize hDk:Dg (ps.take k) n=dk at *
   have xZ:Hid _:=hGk;clear hGk hDk;have HC:Hid (∀X,Below (w.heap.size+3) W X->X.cell? (XL b' (off+k *2))=some (.string x.name)/\X.cell? (XL b' (off+k *2+1))=some (.string x.sum)):=xN;have zS:=HI.o.2;have yM:=HI.o.1;have vA:=yS;have vD:=yR;cases dk with
   |true=>
    obtain⟨zK,hE⟩:=zJ.o rfl;have HE:Hid _:=hE;have zZ:Hid (Dg (ps.take (k+1)) n=true):=by show _=_;rw[HD.o];rfl
    have zY:(x.name.toList==n.toList)=false:=BJ zK;have hq:(x.name.toList !=n.toList)=true:=by simp[bne,zY]
    clear hE zF yK zJ zK HI;go_wp2;go_quiet (fail);have bq:Below wr.heap.size wr (wr.drewN nq):=BP (Below.refl _ _) _;generalize wr.drewN nq=wa at *
    have zE:Below (w.heap.size+3) W wa:=zS.trans (bq.mono (XI zA zS.size));have zR:=Ad yM bq;have zW:w.heap.size+3<=wa.heap.size:=XI zA zE.size;have yX:b'<wa.heap.size:=by omega
    clear c0 c1 u1 u2 v0 v1 v2 v3 v4 v5 v6;obtain⟨v0,v1,v2,v3,v4,v5,v6,v7⟩:=Br (HX.o _ zE).1;obtain⟨u1,u2⟩:=Aa.c2 ((HX.o _ zE).2.1) 1 2;obtain⟨c0,c1⟩:=HC.o wa zE;go_wp2;go_quiet (fail);have bq:Below wa.heap.size wa (wa.drewN nq):=BP (Below.refl _ _) _;generalize wa.drewN nq=wb at *
    have zN:Below (w.heap.size+3) W wb:=zE.trans (bq.mono (XI zA zE.size));have yJ:=Ad zR bq;have yA:w.heap.size+3<=wb.heap.size:=XI zA zN.size;have xL:b'<wb.heap.size:=by omega
    clear c0 c1 u1 u2 v0 v1 v2 v3 v4 v5 v6;obtain⟨v0,v1,v2,v3,v4,v5,v6,v7⟩:=Br (HX.o _ zN).1;obtain⟨u1,u2⟩:=Aa.c2 ((HX.o _ zN).2.1) 1 2;obtain⟨c0,c1⟩:=HC.o wb zN;obtain⟨g8,zC,wc,zI,zG,zH,_⟩:=Hc wb (w.heap.size+3) _ gk yJ x (by first|omega|(simp;omega)) yA 25;have zB:Below (w.heap.size+3) W wc:=zN.trans ((Below.refl _ _).grown zH yA (fun q e=>(Ac yJ e).1))
    have yT:w.heap.size+3<=wc.heap.size:=XI zA zB.size;have yW:b'<wc.heap.size:=by omega
    have zP:=zG;clear zG zH;go_wp2_with (at_builtin;refine wpList_append_run rfl _ _ 25 25 rfl rfl rfl zI ?_);clear zI;clear c0 c1 u1 u2 v0 v1 v2 v3 v4 v5 v6;obtain⟨v0,v1,v2,v3,v4,v5,v6,v7⟩:=Br (HX.o _ zB).1;obtain⟨u1,u2⟩:=Aa.c2 ((HX.o _ zB).2.1) 1 2;obtain⟨c0,c1⟩:=HC.o wc zB;have HO:Hid _:=And.intro zP zB;clear zP zB;go_wp2
    exact⟨⟨k+1,g8,zC,by omega,by go_num,by rw[zZ.o],by rw[HE.o];simp,⟨by rw[HE.o];simpa using HO.o.1,HO.o.2⟩⟩,by simp[intOf];omega⟩
   |false=>
    cases hless:Op.bytesLess x.name.toList n.toList with
    |true=>
     have HE:Hid _:=zF.o rfl hless;have zZ:Hid (Dg (ps.take (k+1)) n=false):=by show _=_;rw[HD.o];unfold less;rw[hless];rfl
     have zK:x.name≠n:=fun e=>by have:=BX n;unfold less at this;rw[e,this] at hless;cases hless
     have zY:(x.name.toList==n.toList)=false:=BJ zK;have hq:(x.name.toList !=n.toList)=true:=by simp[bne,zY]
     clear zF yK zJ zK HI;go_wp2;go_quiet (fail);have bq:Below wr.heap.size wr (wr.drewN nq):=BP (Below.refl _ _) _;generalize wr.drewN nq=wa at *
     have zE:Below (w.heap.size+3) W wa:=zS.trans (bq.mono (XI zA zS.size));have zR:=Ad yM bq;have zW:w.heap.size+3<=wa.heap.size:=XI zA zE.size;have yX:b'<wa.heap.size:=by omega
     clear c0 c1 u1 u2 v0 v1 v2 v3 v4 v5 v6;obtain⟨v0,v1,v2,v3,v4,v5,v6,v7⟩:=Br (HX.o _ zE).1;obtain⟨u1,u2⟩:=Aa.c2 ((HX.o _ zE).2.1) 1 2;obtain⟨c0,c1⟩:=HC.o wa zE;go_wp2;go_quiet (fail);have bq:Below wa.heap.size wa (wa.drewN nq):=BP (Below.refl _ _) _;generalize wa.drewN nq=wb at *
     have zN:Below (w.heap.size+3) W wb:=zE.trans (bq.mono (XI zA zE.size));have yJ:=Ad zR bq;have yA:w.heap.size+3<=wb.heap.size:=XI zA zN.size;have xL:b'<wb.heap.size:=by omega
     clear c0 c1 u1 u2 v0 v1 v2 v3 v4 v5 v6;obtain⟨v0,v1,v2,v3,v4,v5,v6,v7⟩:=Br (HX.o _ zN).1;obtain⟨u1,u2⟩:=Aa.c2 ((HX.o _ zN).2.1) 1 2;obtain⟨c0,c1⟩:=HC.o wb zN;obtain⟨g8,zC,wc,zI,zG,zH,_⟩:=Hc wb (w.heap.size+3) _ gk yJ x (by first|omega|(simp;omega)) yA 25;have zB:Below (w.heap.size+3) W wc:=zN.trans ((Below.refl _ _).grown zH yA (fun q e=>(Ac yJ e).1))
     have yT:w.heap.size+3<=wc.heap.size:=XI zA zB.size;have yW:b'<wc.heap.size:=by omega
     have zP:=zG;clear zG zH;go_wp2_with (at_builtin;refine wpList_append_run rfl _ _ 25 25 rfl rfl rfl zI ?_);clear zI;clear c0 c1 u1 u2 v0 v1 v2 v3 v4 v5 v6;obtain⟨v0,v1,v2,v3,v4,v5,v6,v7⟩:=Br (HX.o _ zB).1;obtain⟨u1,u2⟩:=Aa.c2 ((HX.o _ zB).2.1) 1 2;obtain⟨c0,c1⟩:=HC.o wc zB;have HO:Hid _:=And.intro zP zB;clear zP zB;go_wp2
     exact⟨⟨k+1,g8,zC,by omega,by go_num,by rw[zZ.o],by rw[HE.o];simp,⟨by rw[HE.o];simpa using HO.o.1,HO.o.2⟩⟩,by simp[intOf];omega⟩
    |false=>
     have yN:Hid _:=yK.o rfl hless;have zZ:Hid (Dg (ps.take (k+1)) n=true):=by show _=_;rw[HD.o];unfold less;rw[hless];rfl
     by_cases zK:x.name=n
     ·have zY:(x.name.toList==n.toList)=true:=by rw[zK];simp
      have hq:(x.name.toList !=n.toList)=false:=by rw[zK];simp
      have HE:Hid (BG (ps.take (k+1)) n s=gk++[⟨n,s⟩]):=by show _=_;rw[yN.o,if_pos zK,List.append_nil]
      clear zF yK zJ zK HI yN;go_wp2;go_quiet (fail);have bq:Below wr.heap.size wr (wr.drewN nq):=BP (Below.refl _ _) _;generalize wr.drewN nq=wa at *
      have zE:Below (w.heap.size+3) W wa:=zS.trans (bq.mono (XI zA zS.size));have zR:=Ad yM bq;have zW:w.heap.size+3<=wa.heap.size:=XI zA zE.size;have yX:b'<wa.heap.size:=by omega
      clear c0 c1 u1 u2 v0 v1 v2 v3 v4 v5 v6;obtain⟨v0,v1,v2,v3,v4,v5,v6,v7⟩:=Br (HX.o _ zE).1;obtain⟨u1,u2⟩:=Aa.c2 ((HX.o _ zE).2.1) 1 2;obtain⟨c0,c1⟩:=HC.o wa zE;obtain⟨g8,zC,wc,zI,zG,zH,_⟩:=Hc wa (w.heap.size+3) _ gk zR ⟨n,s⟩ (by first|omega|(simp;omega)) zW 25;have zB:Below (w.heap.size+3) W wc:=zE.trans ((Below.refl _ _).grown zH zW (fun q e=>(Ac zR e).1))
      have yT:w.heap.size+3<=wc.heap.size:=XI zA zB.size;have yW:b'<wc.heap.size:=by omega
      have zP:=zG;clear zG zH;go_wp2_with (at_builtin;refine wpList_append_run rfl _ _ 25 25 rfl rfl rfl zI ?_);clear zI;clear c0 c1 u1 u2 v0 v1 v2 v3 v4 v5 v6;obtain⟨v0,v1,v2,v3,v4,v5,v6,v7⟩:=Br (HX.o _ zB).1;obtain⟨u1,u2⟩:=Aa.c2 ((HX.o _ zB).2.1) 1 2;obtain⟨c0,c1⟩:=HC.o wc zB;go_wp2;go_quiet (fail);have bq:Below wc.heap.size wc (wc.drewN nq):=BP (Below.refl _ _) _
      generalize wc.drewN nq=wd at *
      have zM:Below (w.heap.size+3) W wd:=zB.trans (bq.mono (XI zA zB.size));have yF:=Ad zP bq;have yY:w.heap.size+3<=wd.heap.size:=XI zA zM.size;have xT:b'<wd.heap.size:=by omega
      clear c0 c1 u1 u2 v0 v1 v2 v3 v4 v5 v6;obtain⟨v0,v1,v2,v3,v4,v5,v6,v7⟩:=Br (HX.o _ zM).1;obtain⟨u1,u2⟩:=Aa.c2 ((HX.o _ zM).2.1) 1 2;obtain⟨c0,c1⟩:=HC.o wd zM;have HO:Hid _:=And.intro yF zM;clear yF zM;go_wp2;exact⟨⟨k+1,g8,zC,by omega,by go_num,by rw[zZ.o],by rw[HE.o];simp,⟨by rw[HE.o];simpa using HO.o.1,HO.o.2⟩⟩,by simp[intOf];omega⟩
     ·have zY:(x.name.toList==n.toList)=false:=BJ zK
      have hq:(x.name.toList !=n.toList)=true:=by simp[bne,zY]
      have HE:Hid (BG (ps.take (k+1)) n s=(gk++[⟨n,s⟩])++[x]):=by show _=_;rw[yN.o,if_neg zK]
      clear zF yK zJ zK HI yN;go_wp2;go_quiet (fail);have bq:Below wr.heap.size wr (wr.drewN nq):=BP (Below.refl _ _) _;generalize wr.drewN nq=wa at *
      have zE:Below (w.heap.size+3) W wa:=zS.trans (bq.mono (XI zA zS.size));have zR:=Ad yM bq;have zW:w.heap.size+3<=wa.heap.size:=XI zA zE.size;have yX:b'<wa.heap.size:=by omega
      clear c0 c1 u1 u2 v0 v1 v2 v3 v4 v5 v6;obtain⟨v0,v1,v2,v3,v4,v5,v6,v7⟩:=Br (HX.o _ zE).1;obtain⟨u1,u2⟩:=Aa.c2 ((HX.o _ zE).2.1) 1 2;obtain⟨c0,c1⟩:=HC.o wa zE;obtain⟨g8,zC,wc,zI,zG,zH,_⟩:=Hc wa (w.heap.size+3) _ gk zR ⟨n,s⟩ (by first|omega|(simp;omega)) zW 25;have zB:Below (w.heap.size+3) W wc:=zE.trans ((Below.refl _ _).grown zH zW (fun q e=>(Ac zR e).1))
      have yT:w.heap.size+3<=wc.heap.size:=XI zA zB.size;have yW:b'<wc.heap.size:=by omega
      have zP:=zG;clear zG zH;go_wp2_with (at_builtin;refine wpList_append_run rfl _ _ 25 25 rfl rfl rfl zI ?_);clear zI;clear c0 c1 u1 u2 v0 v1 v2 v3 v4 v5 v6;obtain⟨v0,v1,v2,v3,v4,v5,v6,v7⟩:=Br (HX.o _ zB).1;obtain⟨u1,u2⟩:=Aa.c2 ((HX.o _ zB).2.1) 1 2;obtain⟨c0,c1⟩:=HC.o wc zB;go_wp2;go_quiet (fail);have bq:Below wc.heap.size wc (wc.drewN nq):=BP (Below.refl _ _) _
      generalize wc.drewN nq=wd at *
      have zM:Below (w.heap.size+3) W wd:=zB.trans (bq.mono (XI zA zB.size));have yF:=Ad zP bq;have yY:w.heap.size+3<=wd.heap.size:=XI zA zM.size;have xT:b'<wd.heap.size:=by omega
      clear c0 c1 u1 u2 v0 v1 v2 v3 v4 v5 v6;obtain⟨v0,v1,v2,v3,v4,v5,v6,v7⟩:=Br (HX.o _ zM).1;obtain⟨u1,u2⟩:=Aa.c2 ((HX.o _ zM).2.1) 1 2;obtain⟨c0,c1⟩:=HC.o wd zM;obtain⟨g9,yU,we,yH,yB,yD,_⟩:=Hc wd (w.heap.size+3) _ (gk++[⟨n,s⟩]) yF x (by first|omega|(simp;omega)) yY 25;have zX:Below (w.heap.size+3) W we:=zM.trans ((Below.refl _ _).grown yD yY (fun q e=>(Ac yF e).1))
      have vF:w.heap.size+3<=we.heap.size:=XI zA zX.size;have vE:b'<we.heap.size:=by omega
      have xE:=yB;clear yB yD;go_wp2_with (at_builtin;refine wpList_append_run rfl _ _ 25 25 rfl rfl rfl yH ?_);clear yH;clear c0 c1 u1 u2 v0 v1 v2 v3 v4 v5 v6;obtain⟨v0,v1,v2,v3,v4,v5,v6,v7⟩:=Br (HX.o _ zX).1;obtain⟨u1,u2⟩:=Aa.c2 ((HX.o _ zX).2.1) 1 2;obtain⟨c0,c1⟩:=HC.o we zX;have HO:Hid _:=And.intro xE zX;clear xE zX;go_wp2
      exact⟨⟨k+1,g9,yU,by omega,by go_num,by rw[zZ.o],by rw[HE.o];simp,⟨by rw[HE.o];simpa using HO.o.1,HO.o.2⟩⟩,by simp[intOf];omega⟩
  ·obtain rfl:k=ps.length:=by omega
   have hO:=HI.o.1;rw[XF (XB)] at hO ⊢;have zO:Hid (Xz w wr):=yG;cases hDn:Dg ps n with
   |true=>
    have zU:=SY n s hDn;rw[zU] at hO ⊢;have HO:Hid (wr.ownsRow (w.heap.size+3) 134 2 (.slice (some ⟨g,0,none⟩) (Bi ps n s).length c) (Bi ps n s).length (Ab pC (Bi ps n s))):=hO;have xP:=Jp ps n s;rw[zU] at xP;have f5:=((HX.o _ HI.o.2).1 5 _ rfl).2;obtain⟨⟨y0,q0⟩,⟨y1,q1⟩,⟨y2,q2⟩,⟨y3,q3⟩,⟨y4,q4⟩,⟨y5,q5⟩,⟨y6,q6⟩,⟨y7,q7⟩,⟨y8,q8⟩,⟨y9,q9⟩,⟨yE,xU⟩,yL,xR⟩:=AS (HX.o _ HI.o.2).2.2
    clear hDn zU yG HI u1 u2;by_cases hbig:100<(Bi ps n s).length
    ·have hq:(100:Int)<((Bi ps n s).length:Int):=by omega
     have zV:Hid (100<(Bi ps n s).length):=hbig;clear hbig hO;go_wp2;refine bodyPost_ret (v:=.agg #[XJ 4,XK,XK,XK,XK,XN,XN,XN,XM,XK,XM,XM]) (by simp[results,results86,go_sem,y0,y1,y2,y3,y4,y5,y6,y7,y8,y9,yE,yL]) rfl ?_;exact⟨zO.o.trans (Tn.below (Bc wr (w.heap.size+2) _ _ _ _ _ _ _ _ _ _ _ _) zO.o.size (by intro v hv;simp at hv;omega)),.inl ⟨zV.o,rfl⟩⟩
    ·have hq:¬(100:Int)<((Bi ps n s).length:Int):=by omega
     have zV:Hid ((Bi ps n s).length<=100):=by show _<=_;omega
     clear hbig hO;go_wp2;refine bodyPost_ret (v:=.agg #[XK,XJ wd,XJ now,XJ given,XJ births,.slice ta ks.length tc,.slice (some ⟨g,0,none⟩) (Bi ps n s).length c,.slice la ln lc,XM,XK,XM,XM]) (by simp[results,results86,go_sem,y0,y1,y2,y3,y4,y5,y6,y7,y8,y9,yE,yL]) rfl ?_
     have T':=(Tn.set (V:=[w.heap.size,w.heap.size+2]) wr w.heap.size 5 (.slice (some ⟨g,0,none⟩) (Bi ps n s).length c) (by simp)).trans (Tn.mono (Bc (wr.setCell (XL (w.heap.size) 5) (.slice (some ⟨g,0,none⟩) (Bi ps n s).length c)) (w.heap.size+2) XK (XJ wd) (XJ now) (XJ given) (XJ births) (.slice ta ks.length tc) (.slice (some ⟨g,0,none⟩) (Bi ps n s).length c) (.slice la ln lc) XM XK XM XM) (by simp))
     exact⟨zO.o.trans (T'.below zO.o.size (by intro v hv;simp at hv;omega)),.inr ⟨zV.o,g,c,rfl,(Ah HO.o (fun q hq=>T'.block q (Ac HO.o hq).2 (by have:=(Ac HO.o hq).1;simp;omega))).mono (by omega)⟩⟩
   |false=>
    have vG:=Jp ps n s;have zU:=UJ n s hDn;obtain⟨g8,zC,w8,xB,yV,xD,xO⟩:=Hc wr (w.heap.size+3) _ (BG ps n s) hO ⟨n,s⟩ (by omega) yS 25;have b8:Below (w.heap.size+3) wr w8:=(Below.refl _ _).grown xD yS (fun q e=>(Ac hO e).1);have yO:Below (w.heap.size+3) W w8:=HI.o.2.trans b8;have zO:Hid (Xz w w8):=zO.o.trans (b8.mono (by omega))
    have yC:Hid ((Bi ps n s).length=(BG ps n s).length+1):=by show _=_;rw[←zU];simp
    rw[zU,yC.o] at yV;have HO:Hid (w8.ownsRow (w.heap.size+3) 134 2 (.slice (some ⟨g8,0,none⟩) ((BG ps n s).length+1) zC) ((BG ps n s).length+1) (Ab pC (Bi ps n s))):=yV;have f5:=((HX.o _ yO).1 5 _ rfl).2;obtain⟨⟨y0,q0⟩,⟨y1,q1⟩,⟨y2,q2⟩,⟨y3,q3⟩,⟨y4,q4⟩,⟨y5,q5⟩,⟨y6,q6⟩,⟨y7,q7⟩,⟨y8,q8⟩,⟨y9,q9⟩,⟨yE,xU⟩,yL,xR⟩:=AS (HX.o _ yO).2.2;obtain⟨z0,z1,z2,z3,z4,z5,z6,z7⟩:=Br (HX.o _ yO).1
    clear hDn zU yG HI b8 xD xO yV yO hO;by_cases hbig:100<((BG ps n s).length+1)
    ·have hq:(100:Int)<((BG ps n s).length:Int)+1:=by omega
     have zV:Hid (100<(Bi ps n s).length):=by show _<_;rw[yC.o];exact hbig
     clear hbig;go_wp2_with (at_builtin;refine wpList_append_run rfl _ _ 25 25 rfl rfl rfl xB ?_);refine bodyPost_ret (v:=.agg #[XJ 4,XK,XK,XK,XK,XN,XN,XN,XM,XK,XM,XM]) (by simp[results,results86,go_sem,y0,y1,y2,y3,y4,y5,y6,y7,y8,y9,yE,yL]) rfl ?_;exact⟨zO.o.trans (Tn.below (Bc w8 (w.heap.size+2) _ _ _ _ _ _ _ _ _ _ _ _) zO.o.size (by intro v hv;simp at hv;omega)),.inl ⟨zV.o,rfl⟩⟩
    ·have hq:¬(100:Int)<((BG ps n s).length:Int)+1:=by omega
     have xX:¬(100:Int)<(((BG ps n s).length+1:Nat):Int):=by omega
     have zV:Hid ((Bi ps n s).length<=100):=by show _<=_;rw[yC.o];omega
     clear hbig;go_wp2_with (at_builtin;refine wpList_append_run rfl _ _ 25 25 rfl rfl rfl xB ?_);refine bodyPost_ret (v:=.agg #[XK,XJ wd,XJ now,XJ given,XJ births,.slice ta ks.length tc,.slice (some ⟨g8,0,none⟩) ((BG ps n s).length+1) zC,.slice la ln lc,XM,XK,XM,XM]) (by simp[results,results86,go_sem,y0,y1,y2,y3,y4,y5,y6,y7,y8,y9,yE,yL]) rfl ?_
     have T':=(Tn.set (V:=[w.heap.size,w.heap.size+2]) w8 w.heap.size 5 (.slice (some ⟨g8,0,none⟩) ((BG ps n s).length+1) zC) (by simp)).trans (Tn.mono (Bc (w8.setCell (XL (w.heap.size) 5) (.slice (some ⟨g8,0,none⟩) ((BG ps n s).length+1) zC)) (w.heap.size+2) XK (XJ wd) (XJ now) (XJ given) (XJ births) (.slice ta ks.length tc) (.slice (some ⟨g8,0,none⟩) ((BG ps n s).length+1) zC) (.slice la ln lc) XM XK XM XM) (by simp))
     have xV:=(Ah HO.o (fun q hq=>T'.block q (Ac HO.o hq).2 (by have:=(Ac HO.o hq).1;simp;omega))).mono (show w.heap.size<=w.heap.size+3 by omega);refine⟨zO.o.trans (T'.below zO.o.size (by intro v hv;simp at hv;omega)),.inr ⟨zV.o,g8,zC,by rw[yC.o],?_⟩⟩;rw[yC.o];exact xV
theorem Cr {P:Program} (w:World) (dT sT ty elem:TypeId) (i:TypeInfo) (k b o zB zE:Nat) (a:Addr) (zA zC:Nat) (cs:List Value)
 (hu:P.underlying dT=some (.slice elem)) (hi:P.info? elem=some i) (hk:i.size=k) (hn:cs.length=Nat.min zA zB *k)
 (zF:∀j v,cs[j]?=some v->w.cell? (a.add j)=some v) (hc:∀j,j<cs.length->(w.cell? (XL b (o+j))).isSome=true) (hf:∀j,j<cs.length->w.frozen? ⟨b,o+j,none⟩=false) (h1:∀v∈cs,v.oneCell'=true):
 (Builtin.copy_ #[dT,sT] ty #[.slice (some ⟨b,o,none⟩) zB zE,.slice (some a) zA zC]).run P w=.ok (goInt (Nat.min zA zB)) (w.setCells b o cs):=by
 have hl:=run_loadCells_list (P:=P) w a cs zF;have zG:=run_storeCells_cells (P:=P) b o cs 0 w (by simpa using hc) (by simpa using hf) h1;rw[hn] at hl;subst hk;simp[Builtin.copy_,run_underlying hu,Builtin.lenOf,Builtin.firstCells,sizeOf,typeInfo,hi,hl,zG]
theorem DD (g:Nat) (t:TypeId) (fr:Nat×Nat):∀(vs:List Value) (o:Nat) (w:World) (cur:Array Value),w.heap[g]?=some (.cells cur t fr)->o+vs.length<=cur.size->
 (w.setCells g o vs).heap[g]?=some (.cells (cur.toList.take o++vs++cur.toList.drop (o+vs.length)).toArray t fr)
 |[],o,w,cur,hg,_=>by simpa [World.setCells] using hg
 |v::r,o,w,cur,hg,hl=>by
  simp only[List.length_cons] at hl;rw[World.setCells];have h1:(w.setCell (XL g o) v).heap[g]?=some (.cells (cur.setIfInBounds o v) t fr):=by
   rw[setCell_eq_setRow w g o cur t fr v hg];exact setRow_heap w g cur _ t _ hg
  rw[DD g t fr r (o+1) _ _ h1 (by simp;omega)];have e:=list_seg_step cur.toList o v r (by simp;omega);simp only[Array.toList_setIfInBounds,List.length_cons];rw[e]
theorem Ln {w:World} {base g cap n k i:Nat} {e:TypeId} {xs vs:List Value} (h:w.ownsRow base e k (.slice (some ⟨g,0,none⟩) n cap) n xs) (hi:i<=n) (hv:vs.length=k) (hr:n+1<=cap):
 ((w.setCells g ((i+1) *k) (xs.drop (i *k))).setCells g (i *k) vs).ownsRow base e k (.slice (some ⟨g,0,none⟩) (n+1) cap) (n+1) (xs.take (i *k)++vs++xs.drop (i *k)):=by
 obtain⟨hx,hq⟩:=h;rcases hq with⟨e,_⟩|⟨g',zF,zB,e,hb,hg,h1,h2,h3,h4⟩
 ·cases e
 ·cases e
  have m1:=Nat.mul_le_mul_right k hi;have m2:=Nat.mul_le_mul_right k hr;rw[Nat.add_mul] at m2 ⊢;have zA:(xs.take (i *k)++vs++xs.drop (i *k)).length=n *k+k:=by rw[List.length_append,List.length_append,List.length_take,List.length_drop,hx,hv];omega
  have zC:(n+1) *k=n *k+k:=by rw[Nat.add_mul];omega
  have zE:(xs.drop (i *k)).length=n *k -i *k:=by rw[List.length_drop,hx]
  have e1:=DD g e (0,0) (xs.drop (i *k)) (i *k+1 *k) w zB hg (by rw[zE,h3];omega);have e2:=DD g e (0,0) vs (i *k) _ _ e1 (by simp[zE,h3,hv];omega);refine⟨by rw[zA,zC],.inr ⟨g,cap,_,rfl,hb,e2,hr,h2,?_,?_⟩⟩
  ·simp[zE,h3,hv];omega
  ·have t1:(zB.toList.take (i *k+1 *k)++xs.drop (i *k)++zB.toList.drop (i *k+1 *k+(xs.drop (i *k)).length)).take (i *k)=xs.take (i *k):=by
    rw[List.append_assoc,List.take_append_of_le_length (by simp[h3];omega),List.take_take,Nat.min_eq_left (by omega),←h4,List.take_take,Nat.min_eq_left (by omega)]
   have t2:(zB.toList.take (i *k+1 *k)++xs.drop (i *k)++zB.toList.drop (i *k+1 *k+(xs.drop (i *k)).length)).drop (i *k+vs.length)=xs.drop (i *k)++zB.toList.drop (i *k+1 *k+(xs.drop (i *k)).length):=by
    rw[List.append_assoc,List.drop_append_of_le_length (by simp[h3,hv];omega),List.drop_eq_nil_of_le (by simp[h3,hv];omega),List.nil_append]
   rw[List.toList_toArray,List.toList_toArray,t1,t2,←List.append_assoc,List.take_append_of_le_length (by rw[zA,zC];exact XB),XF (by rw[zA,zC];exact XB)]
theorem MO {w:World} {base g n k i G:Nat} {e:TypeId} {xs vs zs:List Value} (hx:xs.length=n *k) (hi:i<=n) (hv:vs.length=k) (hb:base<=g) (hg:w.heap[g]?=some (.cells (xs.take (i *k)++zs).toArray e (0,0))) (hz:i *k+zs.length=G *k) (hG:n+1<=G) (zF:G<=maxLen):
 ((w.setCells g (i *k) vs).setCells g ((i+1) *k) (xs.drop (i *k))).ownsRow base e k (.slice (some ⟨g,0,none⟩) (n+1) G) (n+1) (xs.take (i *k)++vs++xs.drop (i *k)):=by
 have m1:=Nat.mul_le_mul_right k hi;have m2:=Nat.mul_le_mul_right k hG;rw[Nat.add_mul] at m2 ⊢;have zA:(xs.take (i *k)++vs++xs.drop (i *k)).length=n *k+k:=by rw[List.length_append,List.length_append,List.length_take,List.length_drop,hx,hv];omega
 have zC:(n+1) *k=n *k+k:=by rw[Nat.add_mul];omega
 have zB:(xs.take (i *k)).length=i *k:=by rw[List.length_take,hx];omega
 have zE:(xs.drop (i *k)).length=n *k -i *k:=by rw[List.length_drop,hx]
 have e1:=DD g e (0,0) vs (i *k) w _ hg (by simp[zB,hv];omega);have e2:=DD g e (0,0) (xs.drop (i *k)) (i *k+1 *k) _ _ e1 (by simp[zE,hv,zB];omega);refine⟨by rw[zA,zC],.inr ⟨g,G,_,rfl,hb,e2,hG,zF,?_,?_⟩⟩
 ·simp[zE,hv,zB];omega
 ·have t1:(xs.take (i *k)++zs).take (i *k)=xs.take (i *k):=by rw[List.take_append_of_le_length (by omega),XF (by omega)]
  have t2:((xs.take (i *k)++zs).take (i *k)++vs++(xs.take (i *k)++zs).drop (i *k+vs.length)).take (i *k+1 *k)=xs.take (i *k)++vs:=by
   rw[t1,List.take_append_of_le_length (by simp[hv,zB]),XF (by simp[hv,zB])]
  rw[t2,List.take_append_of_le_length (by rw[zA,zC];exact XB),XF (by rw[zA,zC];exact XB)]
theorem Gy (b:Nat) (vs:List Value) (o:Nat) (w:World) (h:∀j,j<vs.length->(w.cell? (XL b (o+j))).isSome=true) (k:Nat) (hk:(w.cell? (XL b k)).isSome=true):((w.setCells b o vs).cell? (XL b k)).isSome=true:=by
 by_cases hin:o<=k/\k<o+vs.length
 ·obtain⟨j,rfl⟩:∃j,k=o+j:=⟨k -o,by omega⟩
  rw[World.cell?_setCells_in b vs o w h j (by omega)];rfl
 ·rw[World.cell?_setCells_out b vs o w _ (fun _ _=>by show k<o∨o+vs.length<=k;omega)]
  exact hk
theorem It (b:Nat):∀(vs:List Value) (o:Nat) (w:World),(w.setCells b o vs).drew=w.drew.setCells b o vs
 |[],_,_=>rfl
 |v::r,o,w=>by rw[World.setCells,World.setCells,It b r];rfl
theorem FQ (w:World) (a:Addr):w.drew.cell? a=w.cell? a:=rfl
theorem Iu (w:World) (a:Addr):w.drew.frozen? a=w.frozen? a:=rfl
theorem IW (w:World) (r:Option Nat):w.grownBy w.drew r:=⟨rfl,rfl,rfl,XB,fun _ _ _=>rfl⟩
theorem CZ {P:Program} (w:World) {ops:Array Oper} {rest:List Oper} {o:Oper} {a:Act} {Q:Exit->Act->World->Prop} (hg:o.guard=none) (d s:Operand) (t t':TypeId)
 (ho:o.op=.call {callee:=.builtin .copy,args:= #[d,s],argTypes:= #[t,t']}) (v u:Value) (hd:a.eval d=v) (hs:a.eval s=u) {v':Value} {w':World}
 (hr:(Builtin.copy_ #[t,t'] o.type #[v,u]).run P w=.ok v' w') (h:wpList P ops Q rest (a.put o.dst v') w'):wpList P ops Q (o::rest) a w:=by
 refine wpList_plain hg fun K hK=> ?_;unfold Oper.wp;simp[execOp,ho,resolve,invoke,builtin,hd,hs,hr,Result.andThen];exact hK _ _ h
theorem DL {P:Program} {ops:Array Oper} {o:Oper} {a:Act} {w:World} {K:Act->World->Prop} {Q:Exit->Act->World->Prop} {E:Prop}
 (hg:o.guard=none) (d s:Operand) (t t':TypeId) (ho:o.op=.call {callee:=.builtin .copy,args:= #[d,s],argTypes:= #[t,t']})
 (v u:Value) (hd:a.eval d=v) (hs:a.eval s=u) {v':Value} {w':World} (hr:(Builtin.copy_ #[t,t'] o.type #[v,u]).run P w=.ok v' w') (hK:K (a.put o.dst v') w'):
 if Region.wanted o (yielded ops a.tmps)=true then Oper.wp P o a w K Q else E:=by
 rw[if_pos (by simp[Region.wanted,hg])];unfold Oper.wp;simp[execOp,ho,resolve,invoke,builtin,hd,hs,hr,Result.andThen];exact hK
end Go.Proofs.YtpekbmegopfhfaaGreatDoor
