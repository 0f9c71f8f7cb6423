import Derived.Test.YtpekbmegopfhfaaGreatDoorK10
set_option maxRecDepth 100000
set_option maxHeartbeats 16000000
namespace Go.Proofs.YtpekbmegopfhfaaGreatDoor
open Go.ChangeShapes Go.WideShapes Go.ChangeAt Go.RowKit _root_.Go.Proofs.Tryz
theorem Hc (w:World) (base:Nat) (v:Value) (ls:List Pd) (ho:w.ownsRow base 134 2 v ls.length (Ab pC ls)) (x:Pd) (hn:ls.length<=1000000) (zA:base<=w.heap.size) (ty:TypeId):
 ∃g cap w',(Builtin.append_ #[25,25] ty #[v,.slice (some ⟨w.heap.size,0,none⟩) 1 1]).run prog (w.alloc (.cells #[.string x.name,.string x.sum] 134))=.ok (.slice (some ⟨g,0,none⟩) (ls.length+1) cap) w'/\w'.ownsRow base 134 2 (.slice (some ⟨g,0,none⟩) (ls.length+1) cap) (ls++[x]).length (Ab pC (ls++[x]))/\w.grownBy w' v.ownBlock/\(v.ownBlock=some g∨g=w.heap.size+1):=by
 obtain⟨i0,hi,zC,zB,zE⟩:=info_parts FW;have zF:=Ad ho ((Below.refl _ _).alloc (XB) (.cells #[.string x.name,.string x.sum] 134));have hc:∀j u,(Ab pC [x])[j]?=some u->(w.alloc (.cells #[.string x.name,.string x.sum] 134)).cell? ((⟨w.heap.size,0,none⟩:Addr).add j)=some u:=by
  intro j u hu;rw[Go.WideShapes.add_plain,Nat.zero_add];exact(Aa.new w [.string x.name,.string x.sum] 134 j u (by simpa [Ab,pC] using hu)).1
 obtain⟨v',w',hr,h2,h3,_,h5⟩:=run_append_own_at (P:=prog) (w.alloc (.cells #[.string x.name,.string x.sum] 134)) base 25 ty 134 i0 _ 2 32 underlying25 hi zC zB zE rfl (by decide) v ls.length (Ab pC ls) zF ⟨w.heap.size,0,none⟩ 1 1 (Ab pC [x]) (by simp[Ab,pC]) hc (by intro u hu;simp[Ab,pC] at hu;rcases hu with rfl|rfl<;>rfl) (by unfold maxLen;omega) (by omega) (by simp;omega)
 obtain⟨g,cap,rfl,_,_⟩:=BR h2 (fun e=>by subst e;rcases h2.2 with⟨_,hn⟩|⟨_,_,_,e,_⟩<;>first|omega|cases e);refine⟨g,cap,w',hr,?_,(World.grownBy_alloc w _ _).trans h3,?_⟩
 ·rw[GK,List.length_append]
  exact h2
 ·rcases h5 with h5|h5
  ·exact .inl h5.symm
  ·right
   simpa [Value.ownBlock] using h5
theorem NH {ls:List Pd} {k:Nat} {x:Pd} (n:ByteArray) (hx:ls[k]?=some x):AV (ls.take (k+1)) n=AV (ls.take k) n++(if x.name=n then [] else [x]):=by
 obtain⟨zA,rfl⟩:=XC hx;unfold AV;rw[XE zA,List.filter_append];by_cases h:ls[k].name=n<;>simp[h]
theorem JT (ls:List Pd) (n:ByteArray):(AV ls n).length=ls.length↔¬∃x∈ls,x.name=n:=by
 unfold AV;rw[List.length_filter_eq_length_iff];simp
def OE (w w':World) (e:Ending) (wd now given births:Int) (T P:Value) (ls:List Pd) (n:ByteArray):Prop:=
 Below w.heap.size w w'/\(((¬∃x∈ls,x.name=n)/\e=.returned (.agg #[XJ 5,XK,XK,XK,XK,XN,XN,XN,XM,XK,XM,XM]))∨
  ((∃x∈ls,x.name=n)/\∃g c,e=.returned (.agg #[XK,XJ wd,XJ now,XJ given,XJ births,T,.slice (some ⟨g,0,none⟩) (AV ls n).length c,P,XM,XK,XM,XM])/\w'.ownsRow w.heap.size 134 2 (.slice (some ⟨g,0,none⟩) (AV ls n).length c) (AV ls n).length (Ab pC (AV ls n))))
theorem NI (wd now given births:Int) (ta pa la:Option Addr) (tn tc pn pc lc:Nat) (ls:List Pd) (n:ByteArray) (w:World) (zE:AQ w w.heap.size la ls) (hl:ls.length<=1000):
 Calls prog 87 #[.agg #[XJ wd,XJ now,XJ given,XJ births,.slice ta tn tc,.slice la ls.length lc,.slice pa pn pc],.string n] w fun e w'=>OE w w' e wd now given births (.slice ta tn tc) (.slice pa pn pc) ls n:=by
 obtain⟨W,hW⟩:∃W,W=(w.alloc (.cells #[XJ wd,XJ now,XJ given,XJ births,.slice ta tn tc,.slice la ls.length lc,.slice pa pn pc] 28)).alloc (.cells #[XK,XK,XK,XK,XK,XN,XN,XN,XM,XK,XM,XM] 30):=⟨_,rfl⟩;have bW:=(AP hW).1;have zO:=(AP hW).2.1;have x0:=(AP hW).2.2.1;have x1:Aa W (w.heap.size+1) As:=by
  have h1:=Aa.new (w.alloc (.cells #[XJ wd,XJ now,XJ given,XJ births,.slice ta tn tc,.slice la ls.length lc,.slice pa pn pc] 28)) As 30;rw[World.size_alloc] at h1;rw[hW];exact h1
 have HX:Hid (∀X,Below (w.heap.size+2) W X->Aa X w.heap.size [XJ wd,XJ now,XJ given,XJ births,.slice ta tn tc,.slice la ls.length lc,.slice pa pn pc]/\Aa X (w.heap.size+1) As):=fun X hX=>⟨Aa.same x0 (hX.block _ (by omega)),Aa.same x1 (hX.block _ (by omega))⟩;have HW:Hid _:=hW;have yE:Hid (W.heap.size=w.heap.size+2):=zO;have zC:w.heap.size+2<=W.heap.size:=by omega
 have HR:Hid (AQ w w.heap.size la ls):=zE;have zX:Hid (Xz w W):=bW;have bA:Below W.heap.size W (W.alloc (.cells #[] 134)):=XA;have zK:Hid ((W.alloc (.cells #[] 134)).ownsRow (w.heap.size+2) 134 2 (.slice (some ⟨W.heap.size,0,none⟩) 0 0) 0 []):=World.ownsRow_lit (base:=w.heap.size+2) (e:=134) (size:=2) W #[] 0 (by omega) (by unfold maxLen;omega) rfl
 have zH:Hid (Below (w.heap.size+2) W (W.alloc (.cells #[] 134))):=bA.mono zC;clear hW zO x0 x1 zE bW bA;go_enter func87,ntmps87;go_upto_region 1 with fail;rw[←HW.o];clear HW;go_wp2
 go_loopw [5,6] (fun v i wr=>∃(k g c:Nat),k<=ls.length/\i=XJ k/\v=.slice (some ⟨g,0,none⟩) (AV (ls.take k) n).length c/\Hid (wr.ownsRow (w.heap.size+2) 134 2 (.slice (some ⟨g,0,none⟩) (AV (ls.take k) n).length c) (AV (ls.take k) n).length (Ab pC (AV (ls.take k) n))/\Below (w.heap.size+2) W wr)) (fun _ i _=>ls.length -(intOf i).toNat)
 case atStart=>exact⟨0,W.heap.size,0,Nat.zero_le _,rfl,by simp[AV],⟨by simpa [AV,Ab] using zK.o,zH.o⟩⟩
 case round=>
  clear zK zH;obtain⟨k,g,c,hk,rfl,rfl,HI⟩:=hrel;have zB:Below w.heap.size w wr:=zX.o.trans (HI.o.2.mono (by omega));have zJ:w.heap.size+2<=wr.heap.size:=XI zC HI.o.2.size;obtain⟨v0,v1,v2,v3,v4,v5,v6,v7⟩:=Br (HX.o _ HI.o.2).1;by_cases hlt:k<ls.length
  ·obtain⟨b',off,ha,hb,zN⟩:=(AQ.below HR.o zB).at hlt
   subst ha;have HG:Hid (ls[k]?=some ls[k]):=XD hlt;obtain⟨c0,c1⟩:=zN k _ HG.o;have zI:Hid _:=NH n HG.o;have yA:(AV (ls.take k) n).length<=1000:=by
    have:=List.length_filter_le (fun x:Pd=> !decide (x.name=n)) (ls.take k);unfold AV;rw[List.length_take] at this;omega
   clear zN;generalize ls[k]=x at *
   generalize hGk:AV (ls.take k) n=gk at *
   have yB:Hid _:=hGk;clear hGk;by_cases hxn:x.name=n
   ·have hq:(x.name.toList !=n.toList)=false:=by rw[hxn];simp
    have zS:(x.name.toList==n.toList)=true:=by rw[hxn];simp
    have HE:Hid (AV (ls.take (k+1)) n=gk):=by show _=_;rw[zI.o,if_pos hxn,List.append_nil]
    clear hxn;go_wp2;exact⟨⟨k+1,g,c,by omega,by go_num,by rw[HE.o],⟨by rw[HE.o];exact HI.o.1,HI.o.2⟩⟩,by simp[intOf];omega⟩
   ·have zS:(x.name.toList==n.toList)=false:=BJ hxn
    have hq:(x.name.toList !=n.toList)=true:=by simp[bne,zS]
    have HE:Hid (AV (ls.take (k+1)) n=gk++[x]):=by show _=_;rw[zI.o,if_neg hxn]
    clear hxn;obtain⟨g8,zA,w8,zM,zR,zP,zY⟩:=Hc wr (w.heap.size+2) _ gk HI.o.1 x (by omega) zJ 25;have b8:Below (w.heap.size+2) wr w8:=(Below.refl _ _).grown zP zJ (fun q e=>(Ac HI.o.1 e).1);have H8:Hid (w8.ownsRow (w.heap.size+2) 134 2 (.slice (some ⟨g8,0,none⟩) (gk.length+1) zA) (gk++[x]).length (Ab pC (gk++[x]))/\Below (w.heap.size+2) W w8):=⟨zR,HI.o.2.trans b8⟩
    have zV:b'<wr.heap.size:=by have:=zB.size;omega
    clear zR zP zY b8;go_wp2_with (at_builtin;refine wpList_append_run rfl _ _ 25 25 rfl rfl rfl zM ?_);clear zM c0 c1 v0 v1 v2 v3 v4 v5 v6;go_wp2;exact⟨⟨k+1,g8,zA,by omega,by go_num,by rw[HE.o,List.length_append];rfl,⟨by rw[HE.o,List.length_append];exact List.length_append▸H8.o.1,H8.o.2⟩⟩,by simp[intOf];omega⟩
  ·obtain rfl:k=ls.length:=by omega
   have hO:=HI.o.1;rw[XF (XB)] at hO ⊢;have HO:Hid (wr.ownsRow (w.heap.size+2) 134 2 (.slice (some ⟨g,0,none⟩) (AV ls n).length c) (AV ls n).length (Ab pC (AV ls n))):=hO;have zF:Hid (Xz w wr):=zB;obtain⟨⟨y0,q0⟩,⟨y1,q1⟩,⟨y2,q2⟩,⟨y3,q3⟩,⟨y4,q4⟩,⟨y5,q5⟩,⟨y6,q6⟩,⟨y7,q7⟩,⟨y8,q8⟩,⟨y9,q9⟩,⟨zT,yD⟩,zU,yC⟩:=AS (HX.o _ HI.o.2).2;have f6:=((HX.o _ HI.o.2).1 5 _ rfl).2;by_cases hex:∃x∈ls,x.name=n
   ·have zZ:¬(AV ls n).length=ls.length:=fun e=>(JT ls n).1 e hex
    have hq:(((AV ls n).length:Int)==(ls.length:Int))=false:=by simp;omega
    have zG:Hid (∃x∈ls,x.name=n):=hex;clear zZ hex hO zB HI;go_wp2;refine bodyPost_ret (v:=.agg #[XK,XJ wd,XJ now,XJ given,XJ births,.slice ta tn tc,.slice (some ⟨g,0,none⟩) (AV ls n).length c,.slice pa pn pc,XM,XK,XM,XM]) (by simp[results,results87,go_sem,y0,y1,y2,y3,y4,y5,y6,y7,y8,y9,zT,zU]) rfl ?_
    have T':=(Tn.set (V:=[w.heap.size,w.heap.size+1]) wr w.heap.size 5 (.slice (some ⟨g,0,none⟩) (AV ls n).length c) (by simp)).trans (Tn.mono (Bc (wr.setCell (XL (w.heap.size) 5) (.slice (some ⟨g,0,none⟩) (AV ls n).length c)) (w.heap.size+1) XK (XJ wd) (XJ now) (XJ given) (XJ births) (.slice ta tn tc) (.slice (some ⟨g,0,none⟩) (AV ls n).length c) (.slice pa pn pc) XM XK XM XM) (by simp))
    exact⟨zF.o.trans (T'.below zF.o.size (by intro v hv;simp at hv;omega)),.inr ⟨zG.o,g,c,rfl,(Ah HO.o (fun q hq=>T'.block q (Ac HO.o hq).2 (by have:=(Ac HO.o hq).1;simp;omega))).mono (by omega)⟩⟩
   ·have zW:(AV ls n).length=ls.length:=(JT ls n).2 hex
    have hq:(((AV ls n).length:Int)==(ls.length:Int))=true:=by simp;omega
    have zG:Hid (¬∃x∈ls,x.name=n):=hex;clear zW hex hO zB HI;go_wp2;refine bodyPost_ret (v:=.agg #[XJ 5,XK,XK,XK,XK,XN,XN,XN,XM,XK,XM,XM]) (by simp[results,results87,go_sem,y0,y1,y2,y3,y4,y5,y6,y7,y8,y9,zT,zU]) rfl ?_;exact⟨zF.o.trans (Tn.below (Bc wr (w.heap.size+1) _ _ _ _ _ _ _ _ _ _ _ _) zF.o.size (by intro v hv;simp at hv;omega)),.inl ⟨zG.o,rfl⟩⟩
theorem IJ (base d m:Nat) (O P L:Value) (wd now given births:Int) (ks:List Kd) (ps:List Pd) (ls:List Ld) (s:ByteArray) (w:World) (hd:Dr w base d m O P L wd now given births ks ps ls) (zF:∀k∈ks,(k.sum.size:Int)=wd) (zE:¬Au ks s):
 Calls prog 197 #[.pointer (some ⟨d,0,none⟩),.string s] w fun e w'=>e=.panicked [{v:=BS 2 ⟨#[]⟩ ⟨#[]⟩,recovered:=false}]/\Xz w w':=by
 obtain⟨n,f,hn,hM,hH⟩:=hd.map;obtain⟨ok,zA,zB⟩:=KW wd m n f ks w w.heap.size s w hM hH.holds zF;have hf:ok=false:=by
  cases ok with
  |false=>rfl
  |true=>exact absurd (zA.1 rfl) zE
 subst hf;obtain⟨c0,c1⟩:=Aa.c2 hd.box 0 1;have HC:Hid _:=zB w (Below.refl _ _);clear hd hM hH zA zB;go_enter func197,ntmps197;go_wp2_with fail;refine Calls.mono HC.o ?_;rintro e w1 ⟨rfl,zC⟩;go_wp2;exact⟨rfl,rfl,zC⟩
theorem MN (base d m:Nat) (O P L:Value) (wd now given births:Int) (ks:List Kd) (ps:List Pd) (ls:List Ld) (s:ByteArray) (zA:Int) (w:World) (h:DU w base d m O P L wd now given births ks ps ls) (zC:∀k∈ks,(k.sum.size:Int)=wd) (zB:¬Au ks s):
 Calls prog 169 #[.pointer (some ⟨d,0,none⟩),.string s,XJ zA] w fun e w'=>e=.panicked [{v:=BS 2 ⟨#[]⟩ ⟨#[]⟩,recovered:=false}]/\Xz w w':=by
 have HN:Hid _:=IJ base d m O P L wd now given births ks ps ls s w h.dr zC zB;clear h zC zB;go_enter func169,ntmps169;go_wp2_with fail;refine Calls.mono HN.o ?_;rintro e w1 ⟨rfl,zE⟩;go_wp2;exact⟨rfl,rfl,zE⟩
theorem Lm (base d m:Nat) (O P L:Value) (wd now given births:Int) (ks:List Kd) (ps:List Pd) (ls:List Ld) (s:ByteArray) (zB:Int) (w:World) (h:DU w base d m O P L wd now given births ks ps ls) (zG:∀k∈ks,(k.sum.size:Int)=wd) (zF:Au ks s) (zA:ls.length=200∨given=1000000000):
 Calls prog 169 #[.pointer (some ⟨d,0,none⟩),.string s,XJ zB] w fun e w'=>e=.panicked [{v:=BS 4 ⟨#[]⟩ ⟨#[]⟩,recovered:=false}]/\Xz w w':=by
 have HN:Hid _:=DQ base d m O P L wd now given births ks ps ls s w h.dr zG zF;obtain⟨la,zK,zI⟩:=Ay h.dr.lea;subst zI;have HD:Hid _:=h;clear h zG zF;by_cases h1:ls.length=200
 ·have zH:((ls.length:Int)==200)=true:=by simp;omega
  clear zA h1;go_enter func169,ntmps169;go_wp2_with fail;refine Calls.mono HN.o ?_;rintro e w1 ⟨rfl,zE⟩;have zC:=HD.o.below zE;obtain⟨c3,c7⟩:=Aa.c2 zC.dr.box 3 7;clear zC HD HN;go_wp2;exact⟨rfl,rfl,zE⟩
 ·have zH:((ls.length:Int)==200)=false:=by simp;omega
  have zJ:(given==1000000000)=true:=by
   rcases zA with h|h
   ·exact absurd h h1
   ·rw[h];rfl
  clear zA h1;go_enter func169,ntmps169;go_wp2_with fail;refine Calls.mono HN.o ?_;rintro e w1 ⟨rfl,zE⟩;have zC:=HD.o.below zE;obtain⟨c3,c7⟩:=Aa.c2 zC.dr.box 3 7;clear zC HD HN;go_wp2;exact⟨rfl,rfl,zE⟩
theorem Rc (base d m:Nat) (O P L:Value) (wd now given births:Int) (ks:List Kd) (ps:List Pd) (ls:List Ld) (zA:Int) (w:World) (h:DU w base d m O P L wd now given births ks ps ls) (zC:0<=now) (zE:now<=1000000000) (zB:0<=zA) (zF:zA<=1000000000) (hs:1000000000<now+zA):
 Calls prog 173 #[.pointer (some ⟨d,0,none⟩),XJ zA] w fun e w'=>e=.panicked [{v:=BS 4 ⟨#[]⟩ ⟨#[]⟩,recovered:=false}]/\Xz w w':=by
 obtain⟨W,hW⟩:∃W,W=w.alloc (.cells #[.pointer (some ⟨d,0,none⟩)] 82):=⟨_,rfl⟩;have bW:=(Aq hW).1;have zW:=(Aq hW).2.2;have hD:=h.below bW;have HW:Hid _:=hW;have zG:=Gh zC zE zB zF;obtain⟨z0,_⟩:=zW 0 _ rfl;obtain⟨c2,_⟩:=hD.dr.box 2 _ rfl;clear h hD hW zW;go_enter func173,ntmps173;go_upto_region 1 with fail;rw[←HW.o];clear HW;go_wp2;exact⟨rfl,rfl,bW⟩
theorem JU (a:Option Addr) (cap:Nat) (n:Int) (w:World):
 Calls prog 204 #[.slice a 0 cap,XJ n,.func (.func 205) #[] #[]] w fun e w'=>e=.returned (.tuple #[XK,.bool false])/\Xz w w':=by
 go_enter func204,ntmps204;go_wp2
 go_loopw [9,10] (fun i j wr=>i=XJ 0/\j=XJ 0/\wr=w) (fun _ _ _=>0)
 case atStart=>exact⟨rfl,rfl,rfl⟩
 case round=>
  obtain⟨rfl,rfl,rfl⟩:=hrel;go_wp2
  go_ret2
  exact⟨by first|rfl|simp[Act.put],Below.refl _ _⟩
theorem LK (a:Option Addr) (cap:Nat) (n:ByteArray) (w:World):
 Calls prog 230 #[.slice a 0 cap,.string n,.func (.func 231) #[] #[]] w fun e w'=>e=.returned (.tuple #[XK,.bool false])/\Xz w w':=by
 go_enter func230,ntmps230;go_wp2
 go_loopw [9,10] (fun i j wr=>i=XJ 0/\j=XJ 0/\wr=w) (fun _ _ _=>0)
 case atStart=>exact⟨rfl,rfl,rfl⟩
 case round=>
  obtain⟨rfl,rfl,rfl⟩:=hrel;go_wp2
  go_ret2
  exact⟨by first|rfl|simp[Act.put],Below.refl _ _⟩
theorem UF (base:Nat) (L:Value) (ls:List Ld) (n:Int) (w:World) (ho:w.ownsRow base 137 3 L ls.length (Ab lC ls)) (hl:ls.length<=600) (zA:ls.Pairwise (fun a b=>a.num<b.num)):
 Calls prog 204 #[L,XJ n,.func (.func 205) #[] #[]] w fun e w'=>∃i:Nat,e=.returned (.tuple #[XJ i,.bool (decide (∃x,ls[i]?=some x/\x.num=n))])/\Io ls n i/\Xz w w':=by
 rcases ho.2 with⟨rfl,hz⟩|⟨g,cap,zB,rfl,_⟩
 ·have:ls=[]:=List.eq_nil_of_length_eq_zero hz
  subst this;refine(JU none 0 n w).mono ?_;rintro e w' ⟨rfl,hb⟩;exact⟨0,by simp,⟨XB,fun j x h=>by omega,fun j x _ hx=>by simp at hx⟩,hb⟩
 ·exact Gw g cap ls n w base ho hl zA
theorem UG (base:Nat) (P:Value) (ps:List Pd) (n:ByteArray) (w:World) (ho:w.ownsRow base 134 2 P ps.length (Ab pC ps)) (hl:ps.length<=600) (zA:ps.Pairwise (fun a b=>less a.name b.name=true)):
 Calls prog 230 #[P,.string n,.func (.func 231) #[] #[]] w fun e w'=>∃i:Nat,e=.returned (.tuple #[XJ i,.bool (decide (∃x,ps[i]?=some x/\x.name=n))])/\Df ps n i/\Xz w w':=by
 rcases ho.2 with⟨rfl,hz⟩|⟨g,cap,zB,rfl,_⟩
 ·have:ps=[]:=List.eq_nil_of_length_eq_zero hz
  subst this;refine(LK none 0 n w).mono ?_;rintro e w' ⟨rfl,hb⟩;exact⟨0,by simp,⟨XB,fun j x h=>by omega,fun j x _ hx=>by simp at hx⟩,hb⟩
 ·exact Hz g cap ps n w base ho hl zA
theorem UH (base d m:Nat) (O P L:Value) (wd now given births:Int) (ks:List Kd) (ps:List Pd) (ls:List Ld) (n:Int) (w:World) (h:DU w base d m O P L wd now given births ks ps ls) (hl:ls.length<=200) (zA:ls.Pairwise (fun a b=>a.num<b.num)) (zC:¬∃x∈ls,x.num=n):
 Calls prog 172 #[.pointer (some ⟨d,0,none⟩),XJ n] w fun e w'=>e=.panicked [{v:=BS 5 ⟨#[]⟩ ⟨#[]⟩,recovered:=false}]/\Xz w w':=by
 have HS:Hid _:=UF base L ls n w h.dr.lea (by omega) zA;obtain⟨la,zH,zF⟩:=Ay h.dr.lea;subst zF;have zE:Hid _:=zC;obtain⟨c7,_⟩:=h.dr.box 7 _ rfl;clear h zA zC;go_enter func172,ntmps172;go_wp2_with fail;refine Calls.mono HS.o ?_;rintro e w1 ⟨i,rfl,_,zG⟩;have zB:decide (∃x,ls[i]?=some x/\x.num=n)=false:=by
  rw[decide_eq_false_iff_not];rintro⟨x,hx,hn⟩;exact zE.o ⟨x,XG hx,hn⟩
 rw[zB];clear zB HS zE c7;go_wp2;exact⟨rfl,rfl,zG⟩
theorem Ir (base d m:Nat) (O P L:Value) (wd now given births:Int) (ks:List Kd) (ps:List Pd) (ls:List Ld) (n:ByteArray) (w:World) (h:DU w base d m O P L wd now given births ks ps ls) (hl:ps.length<=200) (zA:ps.Pairwise (fun a b=>less a.name b.name=true)):
 Calls prog 201 #[.pointer (some ⟨d,0,none⟩),.string n] w fun e w'=>∃i:Nat,e=.returned (.tuple #[XJ i,.bool (decide (∃x,ps[i]?=some x/\x.name=n))])/\Df ps n i/\Xz w w':=by
 have HS:Hid _:=UG base P ps n w h.dr.pin (by omega) zA;obtain⟨la,zH,zC⟩:=Ay h.dr.pin;subst zC;obtain⟨c6,_⟩:=h.dr.box 6 _ rfl;clear h zA;go_enter func201,ntmps201;go_wp2_with fail;refine Calls.mono HS.o ?_;rintro e w1 ⟨i,rfl,zG,zE⟩;obtain⟨bb,zB⟩:∃bb,decide (∃x,ps[i]?=some x/\x.name=n)=bb:=⟨_,rfl⟩;have zF:Hid _:=zB;rw[zB];clear zB;go_wp2
 go_ret2
 exact⟨i,by rw[zF.o];rfl,zG,zE⟩
theorem SW (base d m:Nat) (O P L:Value) (wd now given births:Int) (ks:List Kd) (ps:List Pd) (ls:List Ld) (n:ByteArray) (w:World) (h:DU w base d m O P L wd now given births ks ps ls) (hl:ps.length<=200) (zA:ps.Pairwise (fun a b=>less a.name b.name=true)) (zC:¬∃x∈ps,x.name=n):
 Calls prog 171 #[.pointer (some ⟨d,0,none⟩),.string n] w fun e w'=>e=.panicked [{v:=BS 5 ⟨#[]⟩ ⟨#[]⟩,recovered:=false}]/\Xz w w':=by
 have HS:Hid _:=Ir base d m O P L wd now given births ks ps ls n w h hl zA;have zE:Hid _:=zC;clear h zA zC;go_enter func171,ntmps171;go_wp2_with fail;refine Calls.mono HS.o ?_;rintro e w1 ⟨i,rfl,_,zF⟩;have zB:decide (∃x,ps[i]?=some x/\x.name=n)=false:=by
  rw[decide_eq_false_iff_not];rintro⟨x,hx,hn⟩;exact zE.o ⟨x,XG hx,hn⟩
 rw[zB];clear zB HS zE;go_wp2;exact⟨rfl,rfl,zF⟩
theorem Cd {w:World} {base:Nat} {e:TypeId} {size:Nat} {v:Value} {n:Nat} {xs:List Value} (h:w.ownsRow base e size v n xs) {g:Nat} (hg:v.ownBlock=some g):∃zA,w.heap[g]?=some (.cells zA e):=by
 rcases h.2 with⟨rfl,_⟩|⟨g',cap,zA,rfl,_,hc,_⟩
 ·cases hg
 ·cases hg
  exact⟨zA,hc⟩
theorem DU.notin {w:World} {base d m:Nat} {O P L:Value} {wd now given births:Int} {ks:List Kd} {ps:List Pd} {ls:List Ld} (h:DU w base d m O P L wd now given births ks ps ls) {R:Nat} {zA:Array Value} (hR:w.heap[R]?=some (.cells zA 30)) (hd:R≠d):R∉vB d m O P L/\NS w R:=by
 refine⟨fun hv=> ?_,fun zA fz e=>by rw[hR] at e;cases e⟩;unfold vB at hv;simp only[List.mem_cons,List.mem_append,Option.mem_toList] at hv;rcases hv with hv|hv|hv|hv|hv
 ·exact hd hv
 ·obtain⟨n,f,_,hM,_⟩:=h.dr.map
  obtain⟨D,⟨es,clock,zB,_⟩,_⟩:=hM;rw[←hv,hR] at zB;cases zB
 ·obtain⟨c,hc⟩:=Cd h.dr.ord hv
  rw[hR] at hc;cases hc
 ·obtain⟨c,hc⟩:=Cd h.dr.pin hv
  rw[hR] at hc;cases hc
 ·obtain⟨c,hc⟩:=Cd h.dr.lea hv
  rw[hR] at hc;cases hc
theorem Kz (base d m:Nat) (O P L:Value) (wd now given births:Int) (ks:List Kd) (ps:List Pd) (ls:List Ld) (s nm tx:ByteArray) (num:Int) (ra:Option Addr) (rn rc:Nat) (w:World) (h:DU w base d m O P L wd now given births ks ps ls) (hl:ls.length<=200) (zB:ls.Pairwise (fun a b=>a.num<b.num)) (zP:∃x∈ls,x.num=num):
 Calls prog 139 #[.pointer (some ⟨d,0,none⟩),.agg #[XJ 5,.string s,.string nm,XJ num,.string tx,.slice ra rn rc]] w fun e w'=>e=.returned (.agg As.toArray)/\∃L',DU w' base d m O P L' wd now given births ks ps (Bk ls num)/\Tn (d::L.ownBlock.toList) w w':=by
 obtain⟨W,hW⟩:∃W,W=((w.alloc (.cells #[XJ 5,.string s,.string nm,XJ num,.string tx,.slice ra rn rc] 77)).alloc (.cells #[XK,XK,XK,XK,XK,XN,XN,XN,XM,XK,XM,XM] 30)).alloc (.cells #[XK,XK,XK,XK,XK,XN,XN,XN,XM,XK,XM,XM] 30):=⟨_,rfl⟩;have hB:=(Bp hW).1;have zI:=(Bp hW).2.1;have xE:=(Bp hW).2.2.1;have zR:Aa W (w.heap.size+1) As:=by
  have h1:=Aa.new (w.alloc (.cells #[XJ 5,.string s,.string nm,XJ num,.string tx,.slice ra rn rc] 77)) As 30;rw[World.size_alloc] at h1;rw[hW];exact Aa.below (v:=XK) h1 (XA)
 have zO:Aa W (w.heap.size+2) As:=by
  have h1:=Aa.new ((w.alloc (.cells #[XJ 5,.string s,.string nm,XJ num,.string tx,.slice ra rn rc] 77)).alloc (.cells #[XK,XK,XK,XK,XK,XN,XN,XN,XM,XK,XM,XM] 30)) As 30;rw[World.size_alloc,World.size_alloc] at h1;rw[hW];exact h1
 have zK:W.heap[w.heap.size+1]?=some (.cells #[XK,XK,XK,XK,XK,XN,XN,XN,XM,XK,XM,XM] 30):=by
  rw[hW,Below.heap_alloc _ _ _ (by simp)];have:=heap_alloc_new (w.alloc (.cells #[XJ 5,.string s,.string nm,XJ num,.string tx,.slice ra rn rc] 77)) (.cells #[XK,XK,XK,XK,XK,XN,XN,XN,XM,XK,XM,XM] 30);rw[World.size_alloc] at this;exact this
 have hD:=h.below hB;have zX:=h.dr.box.lt;have zJ:∀b∈d::L.ownBlock.toList,b<w.heap.size:=fun b hb=>h.dr.lts b (by unfold vB;simp at hb ⊢;rcases hb with rfl|hb<;>simp[*]);have HC:Hid _:=SO base d m O P L wd now given births ks ps ls num W hD hl zB zP;have HW:Hid _:=hW
 have HZ:Hid (Aa W (w.heap.size+1) As/\Aa W (w.heap.size+2) As/\W.heap[w.heap.size+1]?=some (.cells #[XK,XK,XK,XK,XK,XN,XN,XN,XM,XK,XM,XM] 30)/\Xz w W/\W.heap.size=w.heap.size+3/\base<=w.heap.size):=⟨zR,zO,zK,hB,zI,h.lo⟩;have zE:Hid _:=zJ;obtain⟨e0,e1,e2,e3⟩:=Aa.c4 xE 0 1 2 3;clear hW h hD zR zO zK hB zI xE zJ;go_enter func139,ntmps139;go_upto_region 2 with fail;rw[←HW.o];clear HW;go_wp2_with fail
 refine Calls.mono HC.o ?_;rintro e w1 ⟨rfl,V,zC,zA⟩;have zz:=HZ.o.2.2.2.2.1;have zH:=Aa.same HZ.o.1 (zA.block _ (by omega) (fun h=>by have:=zE.o _ h;omega));have zG:=Aa.same HZ.o.2.1 (zA.block _ (by omega) (fun h=>by have:=zE.o _ h;omega));have zM:=(zA.block _ (by omega) (fun h=>by have:=zE.o _ h;omega)).trans HZ.o.2.2.1;have zF:Hid _:=And.intro zC (And.intro zA (zC.notin zM (by omega)))
 obtain⟨⟨y0,q0⟩,⟨y1,q1⟩,⟨y2,q2⟩,⟨y3,q3⟩,⟨y4,q4⟩,⟨y5,q5⟩,⟨y6,q6⟩,⟨y7,q7⟩,⟨y8,q8⟩,⟨y9,q9⟩,⟨zN,zV⟩,zS,zU⟩:=AS zH;obtain⟨⟨v0,_⟩,⟨v1,_⟩,⟨v2,_⟩,⟨v3,_⟩,⟨v4,_⟩,⟨v5,_⟩,⟨v6,_⟩,⟨v7,_⟩,⟨v8,_⟩,⟨v9,_⟩,⟨zW,_⟩,zT,_⟩:=AS zG;clear zC zA zH zG zM e0 e1 e2 e3 HC zz;go_wp2
 refine bodyPost_ret (v:=.agg As.toArray) (by simp[results,results139,go_sem,y0,y1,y2,y3,y4,y5,y6,y7,y8,y9,zN,zS,As]) rfl ⟨rfl,V,zF.o.1.turn (Bc w1 (w.heap.size+1) _ _ _ _ _ _ _ _ _ _ _ _) (by intro b hb;simp at hb;subst hb;exact⟨by have:=HZ.o.2.2.2.2.2;omega,zF.o.2.2⟩),Tn.fresh ((Tn.of HZ.o.2.2.2.1).trans zF.o.2.1) (Bc w1 (w.heap.size+1) _ _ _ _ _ _ _ _ _ _ _ _) (by omega)⟩
theorem KB (base d m:Nat) (O P L:Value) (wd now given births:Int) (ks:List Kd) (ps:List Pd) (ls:List Ld) (s nm tx:ByteArray) (num:Int) (ra:Option Addr) (rn rc:Nat) (w:World) (h:DU w base d m O P L wd now given births ks ps ls) (hl:ls.length<=200) (zP:0<=now) (zM:0<=num) (hs:now+num<=1000000000):
 Calls prog 139 #[.pointer (some ⟨d,0,none⟩),.agg #[XJ 6,.string s,.string nm,XJ num,.string tx,.slice ra rn rc]] w fun e w'=>e=.returned (.agg As.toArray)/\∃L',DU w' base d m O P L' wd (now+num) given births ks ps (AG ls (now+num))/\Tn (d::L.ownBlock.toList) w w':=by
 obtain⟨W,hW⟩:∃W,W=((w.alloc (.cells #[XJ 6,.string s,.string nm,XJ num,.string tx,.slice ra rn rc] 77)).alloc (.cells #[XK,XK,XK,XK,XK,XN,XN,XN,XM,XK,XM,XM] 30)).alloc (.cells #[XK,XK,XK,XK,XK,XN,XN,XN,XM,XK,XM,XM] 30):=⟨_,rfl⟩;have hB:=(Bp hW).1;have zH:=(Bp hW).2.1;have xE:=(Bp hW).2.2.1;have zR:Aa W (w.heap.size+1) As:=by
  have h1:=Aa.new (w.alloc (.cells #[XJ 6,.string s,.string nm,XJ num,.string tx,.slice ra rn rc] 77)) As 30;rw[World.size_alloc] at h1;rw[hW];exact Aa.below (v:=XK) h1 (XA)
 have zO:Aa W (w.heap.size+2) As:=by
  have h1:=Aa.new ((w.alloc (.cells #[XJ 6,.string s,.string nm,XJ num,.string tx,.slice ra rn rc] 77)).alloc (.cells #[XK,XK,XK,XK,XK,XN,XN,XN,XM,XK,XM,XM] 30)) As 30;rw[World.size_alloc,World.size_alloc] at h1;rw[hW];exact h1
 have zJ:W.heap[w.heap.size+1]?=some (.cells #[XK,XK,XK,XK,XK,XN,XN,XN,XM,XK,XM,XM] 30):=by
  rw[hW,Below.heap_alloc _ _ _ (by simp)];have:=heap_alloc_new (w.alloc (.cells #[XJ 6,.string s,.string nm,XJ num,.string tx,.slice ra rn rc] 77)) (.cells #[XK,XK,XK,XK,XK,XN,XN,XN,XM,XK,XM,XM] 30);rw[World.size_alloc] at this;exact this
 have hD:=h.below hB;have zX:=h.dr.box.lt;have zI:∀b∈d::L.ownBlock.toList,b<w.heap.size:=fun b hb=>h.dr.lts b (by unfold vB;simp at hb ⊢;rcases hb with rfl|hb<;>simp[*]);have HC:Hid _:=SV base d m O P L wd now given births ks ps ls num W hD hl zP zM hs;have HW:Hid _:=hW
 have HZ:Hid (Aa W (w.heap.size+1) As/\Aa W (w.heap.size+2) As/\W.heap[w.heap.size+1]?=some (.cells #[XK,XK,XK,XK,XK,XN,XN,XN,XM,XK,XM,XM] 30)/\Xz w W/\W.heap.size=w.heap.size+3/\base<=w.heap.size):=⟨zR,zO,zJ,hB,zH,h.lo⟩;have zC:Hid _:=zI;obtain⟨e0,e1,e2,e3⟩:=Aa.c4 xE 0 1 2 3;clear hW h hD zR zO zJ hB zH xE zI;go_enter func139,ntmps139;go_upto_region 2 with fail;rw[←HW.o];clear HW;go_wp2_with fail
 refine Calls.mono HC.o ?_;rintro e w1 ⟨rfl,V,zB,zA⟩;have zz:=HZ.o.2.2.2.2.1;have zG:=Aa.same HZ.o.1 (zA.block _ (by omega) (fun h=>by have:=zC.o _ h;omega));have zF:=Aa.same HZ.o.2.1 (zA.block _ (by omega) (fun h=>by have:=zC.o _ h;omega));have zK:=(zA.block _ (by omega) (fun h=>by have:=zC.o _ h;omega)).trans HZ.o.2.2.1;have zE:Hid _:=And.intro zB (And.intro zA (zB.notin zK (by omega)))
 obtain⟨⟨y0,q0⟩,⟨y1,q1⟩,⟨y2,q2⟩,⟨y3,q3⟩,⟨y4,q4⟩,⟨y5,q5⟩,⟨y6,q6⟩,⟨y7,q7⟩,⟨y8,q8⟩,⟨y9,q9⟩,⟨zN,zV⟩,zS,zU⟩:=AS zG;obtain⟨⟨v0,_⟩,⟨v1,_⟩,⟨v2,_⟩,⟨v3,_⟩,⟨v4,_⟩,⟨v5,_⟩,⟨v6,_⟩,⟨v7,_⟩,⟨v8,_⟩,⟨v9,_⟩,⟨zW,_⟩,zT,_⟩:=AS zF;clear zB zA zG zF zK e0 e1 e2 e3 HC zz;go_wp2
 refine bodyPost_ret (v:=.agg As.toArray) (by simp[results,results139,go_sem,y0,y1,y2,y3,y4,y5,y6,y7,y8,y9,zN,zS,As]) rfl ⟨rfl,V,zE.o.1.turn (Bc w1 (w.heap.size+1) _ _ _ _ _ _ _ _ _ _ _ _) (by intro b hb;simp at hb;subst hb;exact⟨by have:=HZ.o.2.2.2.2.2;omega,zE.o.2.2⟩),Tn.fresh ((Tn.of HZ.o.2.2.2.1).trans zE.o.2.1) (Bc w1 (w.heap.size+1) _ _ _ _ _ _ _ _ _ _ _ _) (by omega)⟩
theorem JV (base d m:Nat) (O P L:Value) (wd now given births:Int) (ks:List Kd) (ps:List Pd) (ls:List Ld) (s nm tx:ByteArray) (num:Int) (ra:Option Addr) (rn rc:Nat) (w:World) (h:DU w base d m O P L wd now given births ks ps ls) (hl:ps.length<=200) (zB:ps.Pairwise (fun a b=>less a.name b.name=true)) (zP:∃x∈ps,x.name=nm):
 Calls prog 139 #[.pointer (some ⟨d,0,none⟩),.agg #[XJ 3,.string s,.string nm,XJ num,.string tx,.slice ra rn rc]] w fun e w'=>e=.returned (.agg As.toArray)/\∃P',DU w' base d m O P' L wd now given births ks (AV ps nm) ls/\Tn (d::P.ownBlock.toList) w w':=by
 obtain⟨W,hW⟩:∃W,W=((w.alloc (.cells #[XJ 3,.string s,.string nm,XJ num,.string tx,.slice ra rn rc] 77)).alloc (.cells #[XK,XK,XK,XK,XK,XN,XN,XN,XM,XK,XM,XM] 30)).alloc (.cells #[XK,XK,XK,XK,XK,XN,XN,XN,XM,XK,XM,XM] 30):=⟨_,rfl⟩;have hB:=(Bp hW).1;have zI:=(Bp hW).2.1;have xE:=(Bp hW).2.2.1;have zR:Aa W (w.heap.size+1) As:=by
  have h1:=Aa.new (w.alloc (.cells #[XJ 3,.string s,.string nm,XJ num,.string tx,.slice ra rn rc] 77)) As 30;rw[World.size_alloc] at h1;rw[hW];exact Aa.below (v:=XK) h1 (XA)
 have zO:Aa W (w.heap.size+2) As:=by
  have h1:=Aa.new ((w.alloc (.cells #[XJ 3,.string s,.string nm,XJ num,.string tx,.slice ra rn rc] 77)).alloc (.cells #[XK,XK,XK,XK,XK,XN,XN,XN,XM,XK,XM,XM] 30)) As 30;rw[World.size_alloc,World.size_alloc] at h1;rw[hW];exact h1
 have zK:W.heap[w.heap.size+1]?=some (.cells #[XK,XK,XK,XK,XK,XN,XN,XN,XM,XK,XM,XM] 30):=by
  rw[hW,Below.heap_alloc _ _ _ (by simp)];have:=heap_alloc_new (w.alloc (.cells #[XJ 3,.string s,.string nm,XJ num,.string tx,.slice ra rn rc] 77)) (.cells #[XK,XK,XK,XK,XK,XN,XN,XN,XM,XK,XM,XM] 30);rw[World.size_alloc] at this;exact this
 have hD:=h.below hB;have zX:=h.dr.box.lt;have zJ:∀b∈d::P.ownBlock.toList,b<w.heap.size:=fun b hb=>h.dr.lts b (by unfold vB;simp at hb ⊢;rcases hb with rfl|hb<;>simp[*]);have HC:Hid _:=QR base d m O P L wd now given births ks ps ls nm W hD hl zB zP;have HW:Hid _:=hW
 have HZ:Hid (Aa W (w.heap.size+1) As/\Aa W (w.heap.size+2) As/\W.heap[w.heap.size+1]?=some (.cells #[XK,XK,XK,XK,XK,XN,XN,XN,XM,XK,XM,XM] 30)/\Xz w W/\W.heap.size=w.heap.size+3/\base<=w.heap.size):=⟨zR,zO,zK,hB,zI,h.lo⟩;have zE:Hid _:=zJ;obtain⟨e0,e1,e2,e3⟩:=Aa.c4 xE 0 1 2 3;clear hW h hD zR zO zK hB zI xE zJ;go_enter func139,ntmps139;go_upto_region 2 with fail;rw[←HW.o];clear HW;go_wp2_with fail
 refine Calls.mono HC.o ?_;rintro e w1 ⟨rfl,V,zC,zA⟩;have zz:=HZ.o.2.2.2.2.1;have zH:=Aa.same HZ.o.1 (zA.block _ (by omega) (fun h=>by have:=zE.o _ h;omega));have zG:=Aa.same HZ.o.2.1 (zA.block _ (by omega) (fun h=>by have:=zE.o _ h;omega));have zM:=(zA.block _ (by omega) (fun h=>by have:=zE.o _ h;omega)).trans HZ.o.2.2.1;have zF:Hid _:=And.intro zC (And.intro zA (zC.notin zM (by omega)))
 obtain⟨⟨y0,q0⟩,⟨y1,q1⟩,⟨y2,q2⟩,⟨y3,q3⟩,⟨y4,q4⟩,⟨y5,q5⟩,⟨y6,q6⟩,⟨y7,q7⟩,⟨y8,q8⟩,⟨y9,q9⟩,⟨zN,zV⟩,zS,zU⟩:=AS zH;obtain⟨⟨v0,_⟩,⟨v1,_⟩,⟨v2,_⟩,⟨v3,_⟩,⟨v4,_⟩,⟨v5,_⟩,⟨v6,_⟩,⟨v7,_⟩,⟨v8,_⟩,⟨v9,_⟩,⟨zW,_⟩,zT,_⟩:=AS zG;clear zC zA zH zG zM e0 e1 e2 e3 HC zz;go_wp2
 refine bodyPost_ret (v:=.agg As.toArray) (by simp[results,results139,go_sem,y0,y1,y2,y3,y4,y5,y6,y7,y8,y9,zN,zS,As]) rfl ⟨rfl,V,zF.o.1.turn (Bc w1 (w.heap.size+1) _ _ _ _ _ _ _ _ _ _ _ _) (by intro b hb;simp at hb;subst hb;exact⟨by have:=HZ.o.2.2.2.2.2;omega,zF.o.2.2⟩),Tn.fresh ((Tn.of HZ.o.2.2.2.1).trans zF.o.2.1) (Bc w1 (w.heap.size+1) _ _ _ _ _ _ _ _ _ _ _ _) (by omega)⟩
theorem KC (d:Nat) (s nm tx:ByteArray) (num:Int) (ra:Option Addr) (rn rc:Nat) (c:Int) (a b:ByteArray) (w:World) (h:∀X,Xz w X->Calls prog 171 #[.pointer (some ⟨d,0,none⟩),.string nm] X fun e w'=>e=.panicked [{v:=BS c a b,recovered:=false}]/\Xz X w'):
 Calls prog 139 #[.pointer (some ⟨d,0,none⟩),.agg #[XJ 3,.string s,.string nm,XJ num,.string tx,.slice ra rn rc]] w fun e w'=>e=.panicked [{v:=BS c a b,recovered:=false}]/\Xz w w':=by
 obtain⟨W,hW⟩:∃W,W=((w.alloc (.cells #[XJ 3,.string s,.string nm,XJ num,.string tx,.slice ra rn rc] 77)).alloc (.cells #[XK,XK,XK,XK,XK,XN,XN,XN,XM,XK,XM,XM] 30)).alloc (.cells #[XK,XK,XK,XK,XK,XN,XN,XN,XM,XK,XM,XM] 30):=⟨_,rfl⟩;have hB:=(Bp hW).1;have xE:=(Bp hW).2.2.1;have HC:Hid _:=h W hB;have HW:Hid _:=hW;obtain⟨e0,e1,e2,e3⟩:=Aa.c4 xE 0 1 2 3;clear hW xE h;go_enter func139,ntmps139
 go_upto_region 2 with fail;rw[←HW.o];clear HW;go_wp2_with fail;refine Calls.mono HC.o ?_;rintro e w1 ⟨rfl,zA⟩;exact⟨rfl,rfl,hB.trans (zA.mono hB.size)⟩
theorem GV (d:Nat) (s nm tx:ByteArray) (num:Int) (ra:Option Addr) (rn rc:Nat) (c:Int) (a b:ByteArray) (w:World) (h:∀X,Xz w X->Calls prog 169 #[.pointer (some ⟨d,0,none⟩),.string s,XJ num] X fun e w'=>e=.panicked [{v:=BS c a b,recovered:=false}]/\Xz X w'):
 Calls prog 139 #[.pointer (some ⟨d,0,none⟩),.agg #[XJ 4,.string s,.string nm,XJ num,.string tx,.slice ra rn rc]] w fun e w'=>e=.panicked [{v:=BS c a b,recovered:=false}]/\Xz w w':=by
 obtain⟨W,hW⟩:∃W,W=((w.alloc (.cells #[XJ 4,.string s,.string nm,XJ num,.string tx,.slice ra rn rc] 77)).alloc (.cells #[XK,XK,XK,XK,XK,XN,XN,XN,XM,XK,XM,XM] 30)).alloc (.cells #[XK,XK,XK,XK,XK,XN,XN,XN,XM,XK,XM,XM] 30):=⟨_,rfl⟩;have hB:=(Bp hW).1;have xE:=(Bp hW).2.2.1;have HC:Hid _:=h W hB;have HW:Hid _:=hW;obtain⟨e0,e1,e2,e3⟩:=Aa.c4 xE 0 1 2 3;clear hW xE h;go_enter func139,ntmps139
 go_upto_region 2 with fail;rw[←HW.o];clear HW;go_wp2_with fail;refine Calls.mono HC.o ?_;rintro e w1 ⟨rfl,zA⟩;exact⟨rfl,rfl,hB.trans (zA.mono hB.size)⟩
theorem LL (d:Nat) (s nm tx:ByteArray) (num:Int) (ra:Option Addr) (rn rc:Nat) (c:Int) (a b:ByteArray) (w:World) (h:∀X,Xz w X->Calls prog 172 #[.pointer (some ⟨d,0,none⟩),XJ num] X fun e w'=>e=.panicked [{v:=BS c a b,recovered:=false}]/\Xz X w'):
 Calls prog 139 #[.pointer (some ⟨d,0,none⟩),.agg #[XJ 5,.string s,.string nm,XJ num,.string tx,.slice ra rn rc]] w fun e w'=>e=.panicked [{v:=BS c a b,recovered:=false}]/\Xz w w':=by
 obtain⟨W,hW⟩:∃W,W=((w.alloc (.cells #[XJ 5,.string s,.string nm,XJ num,.string tx,.slice ra rn rc] 77)).alloc (.cells #[XK,XK,XK,XK,XK,XN,XN,XN,XM,XK,XM,XM] 30)).alloc (.cells #[XK,XK,XK,XK,XK,XN,XN,XN,XM,XK,XM,XM] 30):=⟨_,rfl⟩;have hB:=(Bp hW).1;have xE:=(Bp hW).2.2.1;have HC:Hid _:=h W hB;have HW:Hid _:=hW;obtain⟨e0,e1,e2,e3⟩:=Aa.c4 xE 0 1 2 3;clear hW xE h;go_enter func139,ntmps139
 go_upto_region 2 with fail;rw[←HW.o];clear HW;go_wp2_with fail;refine Calls.mono HC.o ?_;rintro e w1 ⟨rfl,zA⟩;exact⟨rfl,rfl,hB.trans (zA.mono hB.size)⟩
theorem LM (d:Nat) (s nm tx:ByteArray) (num:Int) (ra:Option Addr) (rn rc:Nat) (c:Int) (a b:ByteArray) (w:World) (h:∀X,Xz w X->Calls prog 173 #[.pointer (some ⟨d,0,none⟩),XJ num] X fun e w'=>e=.panicked [{v:=BS c a b,recovered:=false}]/\Xz X w'):
 Calls prog 139 #[.pointer (some ⟨d,0,none⟩),.agg #[XJ 6,.string s,.string nm,XJ num,.string tx,.slice ra rn rc]] w fun e w'=>e=.panicked [{v:=BS c a b,recovered:=false}]/\Xz w w':=by
 obtain⟨W,hW⟩:∃W,W=((w.alloc (.cells #[XJ 6,.string s,.string nm,XJ num,.string tx,.slice ra rn rc] 77)).alloc (.cells #[XK,XK,XK,XK,XK,XN,XN,XN,XM,XK,XM,XM] 30)).alloc (.cells #[XK,XK,XK,XK,XK,XN,XN,XN,XM,XK,XM,XM] 30):=⟨_,rfl⟩;have hB:=(Bp hW).1;have xE:=(Bp hW).2.2.1;have HC:Hid _:=h W hB;have HW:Hid _:=hW;obtain⟨e0,e1,e2,e3⟩:=Aa.c4 xE 0 1 2 3;clear hW xE h;go_enter func139,ntmps139
 go_upto_region 2 with fail;rw[←HW.o];clear HW;go_wp2_with fail;refine Calls.mono HC.o ?_;rintro e w1 ⟨rfl,zA⟩;exact⟨rfl,rfl,hB.trans (zA.mono hB.size)⟩
theorem Is (d:Nat) (s nm tx:ByteArray) (num:Int) (ra:Option Addr) (rn rc:Nat) (c:Int) (a b:ByteArray) (w:World) (h:∀X,Xz w X->Calls prog 170 #[.pointer (some ⟨d,0,none⟩),.string nm,.string s] X fun e w'=>e=.panicked [{v:=BS c a b,recovered:=false}]/\Xz X w'):
 Calls prog 139 #[.pointer (some ⟨d,0,none⟩),.agg #[XJ 2,.string s,.string nm,XJ num,.string tx,.slice ra rn rc]] w fun e w'=>e=.panicked [{v:=BS c a b,recovered:=false}]/\Xz w w':=by
 obtain⟨W,hW⟩:∃W,W=((w.alloc (.cells #[XJ 2,.string s,.string nm,XJ num,.string tx,.slice ra rn rc] 77)).alloc (.cells #[XK,XK,XK,XK,XK,XN,XN,XN,XM,XK,XM,XM] 30)).alloc (.cells #[XK,XK,XK,XK,XK,XN,XN,XN,XM,XK,XM,XM] 30):=⟨_,rfl⟩;have hB:=(Bp hW).1;have xE:=(Bp hW).2.2.1;have HC:Hid _:=h W hB;have HW:Hid _:=hW;obtain⟨e0,e1,e2,e3⟩:=Aa.c4 xE 0 1 2 3;clear hW xE h;go_enter func139,ntmps139
 go_upto_region 2 with fail;rw[←HW.o];clear HW;go_wp2_with fail;refine Calls.mono HC.o ?_;rintro e w1 ⟨rfl,zA⟩;exact⟨rfl,rfl,hB.trans (zA.mono hB.size)⟩
theorem JW (base d m:Nat) (O P L:Value) (wd now given births:Int) (ks:List Kd) (ps:List Pd) (ls:List Ld) (s nm tx:ByteArray) (num:Int) (ra:Option Addr) (rn rc:Nat) (w:World) (h:DU w base d m O P L wd now given births ks ps ls) (zT:∀k∈ks,(k.sum.size:Int)=wd) (zW:Au ks s) (hl:ls.length<200) (zU:0<=given) (zP:given<1000000000) (zX:0<=now) (zY:now<=1000000000) (zS:0<=num) (zA:num<=1000000000):
 Calls prog 139 #[.pointer (some ⟨d,0,none⟩),.agg #[XJ 4,.string s,.string nm,XJ num,.string tx,.slice ra rn rc]] w fun e w'=>e=.returned (.agg #[XK,XK,XK,XK,XK,XN,XN,XN,XM,XJ (given+1),XM,XM])/\∃L',DU w' base d m O P L' wd now (given+1) births ks ps (ls++[⟨given+1,s,now+num⟩])/\Tn (d::L.ownBlock.toList) w w':=by
 obtain⟨W,hW⟩:∃W,W=((w.alloc (.cells #[XJ 4,.string s,.string nm,XJ num,.string tx,.slice ra rn rc] 77)).alloc (.cells #[XK,XK,XK,XK,XK,XN,XN,XN,XM,XK,XM,XM] 30)).alloc (.cells #[XK,XK,XK,XK,XK,XN,XN,XN,XM,XK,XM,XM] 30):=⟨_,rfl⟩;have hB:=(Bp hW).1;have zJ:=(Bp hW).2.1;have xE:=(Bp hW).2.2.1;have zR:Aa W (w.heap.size+1) As:=by
  have h1:=Aa.new (w.alloc (.cells #[XJ 4,.string s,.string nm,XJ num,.string tx,.slice ra rn rc] 77)) As 30;rw[World.size_alloc] at h1;rw[hW];exact Aa.below (v:=XK) h1 (XA)
 have zO:Aa W (w.heap.size+2) As:=by
  have h1:=Aa.new ((w.alloc (.cells #[XJ 4,.string s,.string nm,XJ num,.string tx,.slice ra rn rc] 77)).alloc (.cells #[XK,XK,XK,XK,XK,XN,XN,XN,XM,XK,XM,XM] 30)) As 30;rw[World.size_alloc,World.size_alloc] at h1;rw[hW];exact h1
 have zM:W.heap[w.heap.size+1]?=some (.cells #[XK,XK,XK,XK,XK,XN,XN,XN,XM,XK,XM,XM] 30):=by
  rw[hW,Below.heap_alloc _ _ _ (by simp)];have:=heap_alloc_new (w.alloc (.cells #[XJ 4,.string s,.string nm,XJ num,.string tx,.slice ra rn rc] 77)) (.cells #[XK,XK,XK,XK,XK,XN,XN,XN,XM,XK,XM,XM] 30);rw[World.size_alloc] at this;exact this
 have zG:W.heap[w.heap.size+2]?=some (.cells #[XK,XK,XK,XK,XK,XN,XN,XN,XM,XK,XM,XM] 30):=by
  have:=heap_alloc_new ((w.alloc (.cells #[XJ 4,.string s,.string nm,XJ num,.string tx,.slice ra rn rc] 77)).alloc (.cells #[XK,XK,XK,XK,XK,XN,XN,XN,XM,XK,XM,XM] 30)) (.cells #[XK,XK,XK,XK,XK,XN,XN,XN,XM,XK,XM,XM] 30);rw[World.size_alloc,World.size_alloc] at this;rw[hW];exact this
 have hD:=h.below hB;have yG:=h.dr.box.lt;have zK:∀b∈d::L.ownBlock.toList,b<w.heap.size:=fun b hb=>h.dr.lts b (by unfold vB;simp at hb ⊢;rcases hb with rfl|hb<;>simp[*]);have HC:Hid _:=MF base d m O P L wd now given births ks ps ls s num W hD zT zW hl zU zP zX zY zS zA;have HW:Hid _:=hW
 have HZ:Hid (Aa W (w.heap.size+1) As/\Aa W (w.heap.size+2) As/\W.heap[w.heap.size+1]?=some (.cells #[XK,XK,XK,XK,XK,XN,XN,XN,XM,XK,XM,XM] 30)/\W.heap[w.heap.size+2]?=some (.cells #[XK,XK,XK,XK,XK,XN,XN,XN,XM,XK,XM,XM] 30)/\Xz w W/\W.heap.size=w.heap.size+3/\base<=w.heap.size):=⟨zR,zO,zM,zG,hB,zJ,h.lo⟩;have zC:Hid _:=zK;obtain⟨e0,e1,e2,e3⟩:=Aa.c4 xE 0 1 2 3;clear hW h hD zR zO zM zG hB zJ xE zK
 go_enter func139,ntmps139;go_upto_region 2 with fail;rw[←HW.o];clear HW;go_wp2_with fail;refine Calls.mono HC.o ?_;rintro e w1 ⟨rfl,V,zB,zA⟩;have zz:=HZ.o.2.2.2.2.2.1;have zH:=Aa.same HZ.o.1 (zA.block _ (by omega) (fun h=>by have:=zC.o _ h;omega));have zF:=Aa.same HZ.o.2.1 (zA.block _ (by omega) (fun h=>by have:=zC.o _ h;omega))
 have zN:=(zA.block _ (by omega) (fun h=>by have:=zC.o _ h;omega)).trans HZ.o.2.2.1;have zI:=(zA.block _ (by omega) (fun h=>by have:=zC.o _ h;omega)).trans HZ.o.2.2.2.1;have zE:Hid _:=And.intro zB (And.intro zA (And.intro (zB.notin zN (by omega)) (zB.notin zI (by omega))));obtain⟨⟨y0,q0⟩,⟨y1,q1⟩,⟨y2,q2⟩,⟨y3,q3⟩,⟨y4,q4⟩,⟨y5,q5⟩,⟨y6,q6⟩,⟨y7,q7⟩,⟨y8,q8⟩,⟨y9,q9⟩,⟨zV,yE⟩,zZ,yD⟩:=AS zH
 obtain⟨⟨v0,p0⟩,⟨v1,p1⟩,⟨v2,p2⟩,⟨v3,p3⟩,⟨v4,p4⟩,⟨v5,p5⟩,⟨v6,p6⟩,⟨v7,p7⟩,⟨v8,p8⟩,⟨v9,p9⟩,⟨yF,yA⟩,yC,yB⟩:=AS zF;clear zB zA zH zF zN zI e0 e1 e2 e3 HC zz;go_wp2;refine bodyPost_ret (v:=.agg #[XK,XK,XK,XK,XK,XN,XN,XN,XM,XJ (given+1),XM,XM]) (by simp[results,results139,go_sem,y0,y1,y2,y3,y4,y5,y6,y7,y8,y9,zV,zZ]) rfl ?_
 have T9:=(Tn.set (V:=[w.heap.size+1,w.heap.size+2]) w1 (w.heap.size+2) 9 (XJ (given+1)) (by simp)).trans (Tn.mono (Bc (w1.setCell (XL (w.heap.size+2) 9) (XJ (given+1))) (w.heap.size+1) XK XK XK XK XK XN XN XN XM (XJ (given+1)) XM XM) (by simp))
 refine⟨rfl,V,zE.o.1.turn T9 (by intro b hb;simp at hb;have:=HZ.o.2.2.2.2.2.2;rcases hb with rfl|rfl;exact⟨by omega,zE.o.2.2.1⟩;exact⟨by omega,zE.o.2.2.2⟩),?_⟩;have t0:=(Tn.of (V:=d::L.ownBlock.toList) HZ.o.2.2.2.2.1).trans zE.o.2.1
 exact⟨T9.os.trans t0.os,T9.tape.trans t0.tape,T9.output.trans t0.output,XI t0.size T9.size,fun b hb hv=>(T9.block b (XH hb t0.size) (by simp;omega)).trans (t0.block b hb hv)⟩
def Bi (ps:List Pd) (n s:ByteArray):List Pd:=ps.filter (fun x=>less x.name n)++[⟨n,s⟩]++ps.filter (fun x=> !(less x.name n)&& !decide (x.name=n))
theorem Df.split {ps:List Pd} {n:ByteArray} {i:Nat} (h:Df ps n i):ps.filter (fun x=>less x.name n)=ps.take i:=by
 have e:=(List.take_append_drop i ps).symm
 conv=>lhs;rw[e]
 rw[List.filter_append,List.filter_eq_self.2 (fun x hx=> ?_),List.filter_eq_nil_iff.2 (fun x hx=> ?_),List.append_nil]
 ·obtain⟨j,hj⟩:=List.getElem?_of_mem hx
  rw[List.getElem?_drop] at hj;rw[h.hi (i+j) x (by omega) hj];simp
 ·obtain⟨j,hj⟩:=List.getElem?_of_mem hx
  have zA:=(XC hj).1;rw[List.length_take] at zA;rw[List.getElem?_take_of_lt (by omega)] at hj;exact h.lo j x (by omega) hj
theorem Df.above {ps:List Pd} {n:ByteArray} {i:Nat} (h:Df ps n i):ps.filter (fun x=> !(less x.name n)&& !decide (x.name=n))=(ps.drop i).filter (fun x=> !decide (x.name=n)):=by
 have e:=(List.take_append_drop i ps).symm
 conv=>lhs;rw[e]
 rw[List.filter_append,List.filter_eq_nil_iff.2 (fun x hx=> ?_),List.nil_append]
 ·refine List.filter_congr (fun x hx=> ?_)
  obtain⟨j,hj⟩:=List.getElem?_of_mem hx;rw[List.getElem?_drop] at hj;rw[h.hi (i+j) x (by omega) hj];simp
 ·obtain⟨j,hj⟩:=List.getElem?_of_mem hx
  have zA:=(XC hj).1;rw[List.length_take] at zA;rw[List.getElem?_take_of_lt (by omega)] at hj;rw[h.lo j x (by omega) hj];simp
theorem NJ {ps:List Pd} {n s:ByteArray} {i:Nat} (h:Df ps n i) (zA:¬∃x∈ps,x.name=n):Bi ps n s=ps.take i++[⟨n,s⟩]++ps.drop i:=by
 unfold Bi;rw[h.split,h.above,List.filter_eq_self.2 (fun x hx=> ?_)];have hn:x.name≠n:=fun e=>zA ⟨x,List.mem_of_mem_drop hx,e⟩;simpa using hn
theorem SX {ps:List Pd} {n s:ByteArray} {i:Nat} {x:Pd} (h:Df ps n i) (hx:ps[i]?=some x) (hn:x.name=n) (zA:ps.Pairwise (fun a b=>less a.name b.name=true)):Bi ps n s=ps.set i ⟨n,s⟩:=by
 obtain⟨zB,e⟩:=XC hx;unfold Bi;rw[h.split,h.above,List.drop_eq_getElem_cons zB,List.filter_cons,e,hn];simp only[decide_true,Bool.not_true,Bool.false_eq_true,if_false];rw[List.filter_eq_self.2 (fun y hy=> ?_),List.set_eq_take_append_cons_drop,if_pos zB,List.append_assoc]
 ·rfl
 ·obtain⟨j,hj⟩:=List.getElem?_of_mem hy
  rw[List.getElem?_drop] at hj;obtain⟨zC,e2⟩:=XC hj;have:=List.pairwise_iff_getElem.1 zA i (i+1+j) zB zC (by omega);rw[e,e2,hn] at this;have zE:y.name≠n:=fun e3=>by rw[e3,BX] at this;cases this
  simpa using zE
end Go.Proofs.YtpekbmegopfhfaaGreatDoor
