import Derived.Test.YthkmpihfhkmaoaaGreatDoorV17
import Derived.Test.YthkmpihfhkmaoaaGreatDoorV06
import Derived.Test.YthkmpihfhkmaoaaGreatDoorV07
import Derived.Test.YthkmpihfhkmaoaaGreatDoorV04
import Derived.Test.YthkmpihfhkmaoaaGreatDoorV05
import Derived.Test.YthkmpihfhkmaoaaGreatDoorV09
namespace Go.Proofs.YthkmpihfhkmaoaaGreatDoor
open Go.ChangeShapes Go.WideShapes Go.ChangeAt Go.RowKit
attribute [local go_sem↓] Go.wp_at_zero Go.wp_at_succ
def FindAt (w:World) (wd:Int) (m:Nat) (ks:List Kd) (s:ByteArray):Prop:=
 ∃u bo t sa sb sc ok,Found ks s bo ok/\∀w',Below w.heap.size w w'->Calls Tryz.prog 133 #[.agg #[.int .i64 wd,.map (some m)],.string s] w' fun e w''=>e=.returned (.tuple #[.agg #[.string u,.int .i64 bo,.string t,.slice sa sb sc],.bool ok])/\Below w'.heap.size w' w''
theorem intKeyed:Maps.Keyed Tryz.prog 3:=Maps.int_keyed Tryz.underlying3
def Once (ks:List Kd) (k:Nat) (f:Lit->Option Value):Prop:=∀z:Int,f (.int .i64 z)=if seen ks k z=true then some (.int .i64 1) else none
set_option maxRecDepth 20000 in
set_option maxHeartbeats 8000000 in
theorem ivalidBirths_any (wd now given births:Int) (P L:Value) (a:Option Addr) (ac m:Nat) (ks:List Kd) (w:World) (hrow:KRow w w.heap.size a ks) (hl:ks.length<=1048576) (hrl:∀k∈ks,k.refs.length<=1048576) (hbw:∀k∈ks,(Lit.int .i64 k.born).wf=true)
 (hth:∀(i:Nat) k,ks[i]?=some k->ThAt wd ks i k) (hfind:∀s,FindAt w wd m ks s):
 Calls Tryz.prog 99 #[.agg #[.int .i64 wd,.int .i64 now,.int .i64 given,.int .i64 births,.slice a ks.length ac,P,L],.agg #[.int .i64 wd,.map (some m)]] w fun e w'=>Says ((∀(i:Nat) k,ks[i]?=some k->BornAt births ks i k)/\(∀(i:Nat) k,ks[i]?=some k->RefAt ks k)) w w' e:=by
 have hmm:= @run_makeMap Tryz.prog;go_enter Tryz.func99,Tryz.ntmps99;go_wp2;obtain⟨W0,hW0⟩:∃W,W=(((w.alloc (Obj.cells #[Value.int IntKind.i64 wd,Value.int IntKind.i64 now,Value.int IntKind.i64 given,Value.int IntKind.i64 births,Value.slice a ks.length ac,P,L] 38)).alloc (Obj.cells #[Value.int IntKind.i64 wd,Value.map (some m)] 145)).alloc (Obj.map #[] 0)):=⟨_,rfl⟩
 have hB0:Below w.heap.size w W0:=by
  rw[hW0];exact((((Below.refl _ _).alloc (Nat.le_refl _) _).alloc (by simp) _).alloc (by simp;omega) _)
 have hz0:W0.heap.size=w.heap.size+3:=by rw[hW0];simp
 have hM0:KMap W0 3 (w.heap.size+1+1) 0 (fun _=>none):=by
  have:=KMap.new ((w.alloc (Obj.cells #[Value.int IntKind.i64 wd,Value.int IntKind.i64 now,Value.int IntKind.i64 given,Value.int IntKind.i64 births,Value.slice a ks.length ac,P,L] 38)).alloc (Obj.cells #[Value.int IntKind.i64 wd,Value.map (some m)] 145)) 3;rw[hW0];simpa using this
 have s3:W0.cell? ⟨w.heap.size,3,none⟩=some (.int .i64 births):=by rw[hW0];simp[go_sem]
 have g0:W0.cell? ⟨w.heap.size+1,0,none⟩=some (.int .i64 wd):=by rw[hW0];simp[go_sem]
 have g1:W0.cell? ⟨w.heap.size+1,1,none⟩=some (.map (some m)):=by rw[hW0];simp[go_sem]
 rw[←hW0];clear hW0 hmm
 go_loopw [16] (fun i wr=>∃(k:Nat) (f:Lit->Option Value),k<=ks.length/\i=.int .i64 k/\Hid (KMap wr 3 (w.heap.size+1+1) k f)/\Hid (Once ks k f)/\Hid (W0.grownBy wr (some (w.heap.size+1+1)))/\Hid (∀(j:Nat) x,j<k->ks[j]?=some x->BornAt births ks j x/\RefAt ks x)) (fun i _=>ks.length -(intOf i).toNat)
 case atStart=>exact⟨0,_,Nat.zero_le _,rfl,hM0,fun z=>by simp[seen],grown_refl _ _,fun j x h=>by omega⟩
 case round=>
  obtain⟨k,f,hk,rfl,HM,HO,HGr,hall⟩:=hrel;have hgr:W0.grownBy wr (some (w.heap.size+1+1)):=HGr.out;have hbel:Below w.heap.size w wr:=hB0.grown hgr (by omega) (by intro j hj;cases hj;omega);have hzr:=hgr.size;by_cases hlt:k<ks.length
  ·obtain⟨b,off,ha,hb,hc⟩:=(hrow.below hbel).at hlt
   subst ha;have HG:Hid (ks[k]?=some ks[k]):=List.getElem?_eq_getElem hlt;obtain⟨c0,c1,c2,ra,rc,c3,hr⟩:=hc k _ HG.out;have hmem:=List.getElem_mem hlt;have hxr:=hrl _ hmem;have hxw:=hbw _ hmem;have hbr:b<wr.heap.size:=by omega
   have t3:=hgr.cell s3 (by simp;omega);have hkey:keyOf Tryz.prog 3 (.int .i64 ks[k].born)=some (.int .i64 ks[k].born):=Maps.keyOf_int_mk Tryz.underlying3 hxw;have HR:Hid _:=hr;generalize ks[k]=x at *
   clear hc hr hmem;have hb1:Below wr.heap.size wr (wr.alloc (Obj.cells #[Value.string x.sum,Value.int IntKind.i64 x.born,Value.string x.text,Value.slice ra x.refs.length rc] 114)):=(Below.refl _ _).alloc (Nat.le_refl _) _;have hM1:=HM.out.keep hb1 (by omega);have hlk:=hM1.look intKeyed Tryz.underlying198 (zeroInt _) hkey;rw[HO.out] at hlk
   have hcnt:∃c:Int,(if seen ks k x.born=true then some (Value.int .i64 1) else none).getD (.int .i64 0)=.int .i64 c/\(c=if seen ks k x.born=true then 1 else 0):=by
    cases seen ks k x.born<;>exact⟨_,rfl,rfl⟩
   obtain⟨c,hc1,hc2⟩:=hcnt;rw[hc1] at hlk;have hcb0:0<=c:=by rw[hc2];split<;>omega
   have hcb1:c<=1:=by rw[hc2];split<;>omega
   obtain⟨w3,hup,hm3,hg3⟩:=hM1.put intKeyed Tryz.underlying198 (val:=.int .i64 (c+1)) (by unfold maxLen;omega) hkey;have hlk3:=hm3.look intKeyed Tryz.underlying198 (zeroInt _) hkey;rw[upd_same] at hlk3;simp only[Option.getD_some] at hlk3;have hgn:W0.grownBy w3 (some (w.heap.size+1+1)):=grown_trans hgr (grown_trans (grown_below _ hb1) hg3)
   have hB3:Below w.heap.size w w3:=hB0.grown hgn (by omega) (by intro j hj;cases hj;omega);have u1:w3.cell? ⟨wr.heap.size,1,none⟩=some (.int .i64 x.born):=hg3.cell (by simp) (by simp;omega);have u3:w3.cell? ⟨wr.heap.size,3,none⟩=some (.slice ra x.refs.length rc):=hg3.cell (by simp) (by simp;omega);have v3:=hgn.cell s3 (by simp;omega)
   have hz3:wr.heap.size<w3.heap.size:=by have:=hg3.size;simp at this;omega
   have hbw3:Below w.heap.size wr w3:=((Below.refl _ _).alloc hbel.size _).grown hg3 (by simp;have:=hbel.size;omega) (by intro j hj;cases hj;omega);have HR3:Hid (SRow w3 w.heap.size ra x.refs):=SRow.below HR.out hbw3;have HK:Hid _:=And.intro hm3 (And.intro hgn hB3);have HP:Hid _:=And.intro hgr hbel;have HF:Hid _:=hfind;have HBig:Hid _:=And.intro hrow (And.intro hrl (And.intro hbw hth))
   clear hM1 hm3 hg3 hgn hB3 hgr hbel hbw3 HR hrow hrl hbw hth hfind HM HGr hkey hb1 hc1 hxw hM0 hB0 s3 t3;by_cases hlo:1<=x.born
   ·have hlo':decide (x.born<1)=false:=by simp;omega
    by_cases hhi:x.born<=births
    ·have hhi':decide (births<x.born)=false:=by simp;omega
     cases hse:seen ks k x.born with
     |true=>
      have hc3:c=1:=by rw[hc2,hse];rfl
      have hd:decide (1<c+1)=true:=by simp;omega
      have HSe:Hid _:=hse;clear hc2 hse hc3;go_wp2;go_ret;refine Says.no (fun h=> ?_) HK.out.2.2;obtain⟨j',p',hj',hp',he'⟩:=seen_iff.1 HSe.out;exact(h.1 _ _ HG.out).new j' p' hj' hp' he'
     |false=>
      have hc3:c=0:=by rw[hc2,hse];rfl
      have hd:decide (1<c+1)=false:=by simp;omega
      have HSe:Hid _:=hse;have HB:Hid (BornAt births ks k x):=⟨hlo,hhi,fun j2 p2 hj2 hp2 he=>by
       have:=seen_iff.2 ⟨j2,p2,hj2,hp2,he⟩;rw[hse] at this;cases this⟩
      have HO1:Hid (Once ks (k+1) (upd f (.int .i64 x.born) (.int .i64 (c+1)))):=by
       intro z;rw[seen_snoc HG.out];by_cases hz:z=x.born
       ·subst hz;rw[upd_same,hc3];simp
       ·rw[upd_other _ _ (fun e=>hz (by cases e;rfl)),HO.out]
        have:decide (x.born=z)=false:=by simp;exact fun e=>hz e.symm
        rw[this];simp
      clear hc2 hse hc3 HO;go_wp2;clear HP hlk hup hlk3;generalize hN:wr.heap.size=N at *
      go_loopw [46] (fun jv wz=>∃q:Nat,q<=x.refs.length/\jv=.int .i64 q/\Hid (Below w3.heap.size w3 wz)/\Hid (∀(r:Nat) s,r<q->x.refs[r]?=some s->∃u∈ks,u.sum=s/\u.born<x.born)) (fun jv _=>x.refs.length -(intOf jv).toNat)
      case atStart=>exact⟨0,Nat.zero_le _,rfl,Below.refl _ _,fun r s h=>by omega⟩
      case round=>
       obtain⟨q,hq,rfl,HBz,hrs⟩:=hrel;have hbz:Below w3.heap.size w3 wr:=HBz.out;have hBz:Below w.heap.size w wr:=HK.out.2.2.trans (hbz.mono HK.out.2.2.size);have y1:=(hbz.cell (p:=⟨N,1,none⟩) hz3).trans u1;have p0:=(hbz.cell (p:=⟨w.heap.size+1,0,none⟩) (by simp;omega)).trans (HK.out.2.1.cell g0 (by simp))
       have p1:=(hbz.cell (p:=⟨w.heap.size+1,1,none⟩) (by simp;omega)).trans (HK.out.2.1.cell g1 (by simp));have hNz:N<wr.heap.size:=Nat.lt_of_lt_of_le hz3 hbz.size;have hHz:w.heap.size+1<wr.heap.size:=by have:=hbz.size;omega
       by_cases hql:q<x.refs.length
       ·have hr4:SRow wr w.heap.size ra x.refs:=SRow.below HR3.out (hbz.mono (by omega))
        obtain⟨rb,roff,hra,hrb,hrc⟩:=hr4.at hql;subst hra;have HS:Hid (x.refs[q]?=some x.refs[q]):=List.getElem?_eq_getElem hql;have es:=hrc q _ HS.out;have hrbw:rb<wr.heap.size:=by omega
        generalize x.refs[q]=s at *
        obtain⟨u,bo,t,sa,sb,sc,ok,hfd,hcl⟩:=HF.out s;have HC:Hid _:=hcl wr hBz;have HFd:Hid _:=hfd;have HBB:Hid _:=And.intro hbz hBz;clear hcl hfd hrc hr4 hbz hBz;go_wp2_with fail;refine Calls.mono HC.out ?_;rintro e w4 ⟨rfl,hb4⟩;have y4:=(hb4.cell (p:=⟨N,1,none⟩) hNz).trans y1;have hN4:N<w4.heap.size:=Nat.lt_of_lt_of_le hNz hb4.size
        have hB4:Below w.heap.size w w4:=HBB.out.2.trans (hb4.mono HBB.out.2.size);have hb34:Below w3.heap.size w3 w4:=HBB.out.1.trans (hb4.mono HBB.out.1.size);have HB4:Hid _:=And.intro hB4 hb34;have hs4:w3.heap.size<=w4.heap.size:=hb34.size;have hsw:w.heap.size<=w4.heap.size:=hB4.size;clear hb4 hB4 hb34 y1 p0 p1 es HC;cases ok with
        |false=>
         go_wp2;go_ret;refine Says.no (fun h=> ?_) (HB4.out.1.alloc hsw _);obtain⟨v,hv,hvs,_⟩:=h.2 _ _ HG.out s (List.mem_of_getElem? HS.out);exact HFd.out.no rfl ⟨v,hv,hvs⟩
        |true=>
         obtain⟨v,hv,hvs,hvb⟩:=HFd.out.yes rfl;have HV:Hid _:=And.intro hv (And.intro hvs hvb);clear hv hvs hvb HFd;by_cases hlt2:bo<x.born
         ·have hd2:decide (x.born<=bo)=false:=by simp;omega
          have HN:Hid (∀(r:Nat) s,r<q+1->x.refs[r]?=some s->∃u∈ks,u.sum=s/\u.born<x.born):=by
           intro r s' hr' hs';rcases Nat.lt_or_ge r q with h'|h'
           ·exact hrs.out r s' h' hs'
           ·obtain rfl:r=q:=by omega
            rw[HS.out] at hs';cases hs';exact⟨v,HV.out.1,HV.out.2.1,by rw[HV.out.2.2];exact hlt2⟩
          go_wp2;exact⟨⟨q+1,by omega,by go_num,HB4.out.2.alloc hs4 _,HN⟩,by simp[intOf];omega⟩
         ·have hd2:decide (x.born<=bo)=true:=by simp;omega
          go_wp2;go_ret;refine Says.no (fun h=> ?_) (HB4.out.1.alloc hsw _);obtain⟨v',hv',hvs',hb'⟩:=h.2 _ _ HG.out s (List.mem_of_getElem? HS.out);obtain⟨i2,hi2⟩:=List.getElem?_of_mem HV.out.1;obtain⟨i3,hi3⟩:=List.getElem?_of_mem hv';have:=sums_inj HBig.out.2.2.2 hi2 hi3 (by rw[HV.out.2.1,hvs']);subst this;rw[HV.out.2.2] at hb';omega
       ·have HN:Hid (∀(j:Nat) y,j<k+1->ks[j]?=some y->BornAt births ks j y/\RefAt ks y):=by
         intro j y hj hy;rcases Nat.lt_or_ge j k with h'|h'
         ·exact hall.out j y h' hy
         ·obtain rfl:j=k:=by omega
          rw[HG.out] at hy;cases hy;refine⟨HB.out,fun r hr'=> ?_⟩;obtain⟨p,hp⟩:=List.getElem?_of_mem hr';exact hrs.out p r (by have:=(List.getElem?_eq_some_iff.1 hp).1;omega) hp
        have hKM:Hid (KMap wr 3 (w.heap.size+1+1) (k+1) (upd f (.int .i64 x.born) (.int .i64 (c+1)))):=HK.out.1.keep hbz (by omega);have hGW:Hid (W0.grownBy wr (some (w.heap.size+1+1))):=grown_trans HK.out.2.1 (grown_below _ hbz);clear hbz hBz y1 p0 p1;go_wp2;exact⟨⟨k+1,_,by omega,by go_num,hKM,HO1,hGW,HN⟩,by simp[intOf];omega⟩
    ·have hhi':decide (births<x.born)=true:=by simp;omega
     clear hc2;go_wp2;go_ret;refine Says.no (fun h=> ?_) HK.out.2.2;have:=(h.1 _ _ HG.out).hi;omega
   ·have hlo':decide (x.born<1)=true:=by simp;omega
    clear hc2;go_wp2;go_ret;refine Says.no (fun h=> ?_) HK.out.2.2;have:=(h.1 _ _ HG.out).lo;omega
  ·clear HM HO hM0 hB0
   go_wp2;go_ret;exact Says.yes ⟨fun i x hx=>(hall.out i x (by have:=(List.getElem?_eq_some_iff.1 hx).1;omega) hx).1,fun i x hx=>(hall.out i x (by have:=(List.getElem?_eq_some_iff.1 hx).1;omega) hx).2⟩ hbel
end Go.Proofs.YthkmpihfhkmaoaaGreatDoor
namespace Go.Proofs.YthkmpihfhkmaoaaGreatDoor
open Go.ChangeShapes Go.WideShapes Go.ChangeAt Go.RowKit
theorem iwidth_any (n:Int) (w:World):
 Calls Tryz.prog 103 #[.int .i64 n] w fun e w'=>e=.returned (.bool (decide (1<=n/\n<=8)))/\w'=w:=by
 by_cases h1:1<=n
 ·by_cases h2:n<=8
  ·go_enter Tryz.func103,Tryz.ntmps103
   go_wp2;go_ret;exact⟨ret_b (by simp[h1,h2]),rfl⟩
  ·have h2':decide (n<=8)=false:=by simpa using h2
   go_enter Tryz.func103,Tryz.ntmps103;go_wp2;go_ret;exact⟨rfl,rfl⟩
 ·have h1':decide (1<=n)=false:=by simpa using h1
  go_enter Tryz.func103,Tryz.ntmps103;go_wp2;go_ret;exact⟨rfl,rfl⟩
theorem itime_any (n:Int) (w:World):
 Calls Tryz.prog 137 #[.int .i64 n] w fun e w'=>e=.returned (.bool (decide (0<=n/\n<=1000000000)))/\w'=w:=by
 by_cases h1:0<=n
 ·by_cases h2:n<=1000000000
  ·go_enter Tryz.func137,Tryz.ntmps137
   go_wp2;go_ret;exact⟨ret_b (by simp[h1,h2]),rfl⟩
  ·have h2':decide (n<=1000000000)=false:=by simpa using h2
   go_enter Tryz.func137,Tryz.ntmps137;go_wp2;go_ret;exact⟨rfl,rfl⟩
 ·have h1':decide (0<=n)=false:=by simpa using h1
  go_enter Tryz.func137,Tryz.ntmps137;go_wp2;go_ret;exact⟨rfl,rfl⟩
set_option maxHeartbeats 1000000 in
theorem inums_any (wd now given births:Int) (T P L:Value) (w:World):
 Calls Tryz.prog 96 #[.agg #[.int .i64 wd,.int .i64 now,.int .i64 given,.int .i64 births,T,P,L]] w fun e w'=>Says (NumsOk wd now given births) w w' e:=by
 have hb0:Below w.heap.size w (w.alloc (.cells #[.int .i64 wd,.int .i64 now,.int .i64 given,.int .i64 births,T,P,L] 38)):=(Below.refl _ _).alloc (Nat.le_refl _) _;go_enter Tryz.func96,Tryz.ntmps96;go_wp2_with fail;refine(iwidth_any wd _).mono ?_;rintro e w1 ⟨rfl,rfl⟩;by_cases h0:1<=wd/\wd<=8
 ·rw[decide_eq_true h0]
  go_wp2_with fail;refine(itime_any now _).mono ?_;rintro e w1 ⟨rfl,rfl⟩;by_cases h1:0<=now/\now<=1000000000
  ·rw[decide_eq_true h1]
   go_wp2_with fail;refine(itime_any given _).mono ?_;rintro e w1 ⟨rfl,rfl⟩;by_cases h2:0<=given/\given<=1000000000
   ·rw[decide_eq_true h2]
    go_wp2_with fail;refine(itime_any births _).mono ?_;rintro e w1 ⟨rfl,rfl⟩;by_cases h3:0<=births/\births<=1000000000
    ·rw[decide_eq_true h3]
     go_wp2;go_ret;exact Says.yes ⟨h0.1,h0.2,h1.1,h1.2,h2.1,h2.2,h3.1,h3.2⟩ hb0
    ·rw[decide_eq_false h3]
     go_wp2;go_ret;exact Says.no (fun h=>h3 ⟨h.births1,h.births2⟩) hb0
   ·rw[decide_eq_false h2]
    go_wp2;go_ret;exact Says.no (fun h=>h2 ⟨h.given1,h.given2⟩) hb0
  ·rw[decide_eq_false h1]
   go_wp2;go_ret;exact Says.no (fun h=>h1 ⟨h.now1,h.now2⟩) hb0
 ·rw[decide_eq_false h0]
  go_wp2;go_ret;exact Says.no (fun h=>h0 ⟨h.wd1,h.wd2⟩) hb0
theorem sumOf_size (k:Kd) (wd:Int) (h:1<=wd):((sumOf k wd).size:Int)=wd:=by
 have e:∀l:List Int,(strOfNums l).size=l.length:=fun l=>by unfold strOfNums;simp[ByteArray.size]
 unfold sumOf sumText;rw[e,sumNums_length];omega
set_option maxRecDepth 20000 in
set_option maxHeartbeats 4000000 in
theorem iValidState_any (wd now given births:Int) (a p l:Option Addr) (ac pc lc:Nat) (ks:List Kd) (ps:List Pd) (ls:List Ld) (w:World) (hrow:SRows w w.heap.size a p l ks ps ls) (hk:KMem ks) (hp:PMem ps) (hl:LMem ls) (hf:SFit ks ps ls) (hbw:∀k∈ks,(Lit.int .i64 k.born).wf=true):
 Calls Tryz.prog 42 #[.agg #[.int .i64 wd,.int .i64 now,.int .i64 given,.int .i64 births,.slice a ks.length ac,.slice p ps.length pc,.slice l ls.length lc]] w fun e w'=>Says (StateOk wd now given births ks ps ls) w w' e:=by
 have hb0:Below w.heap.size w (w.alloc (.cells #[.int .i64 wd,.int .i64 now,.int .i64 given,.int .i64 births,.slice a ks.length ac,.slice p ps.length pc,.slice l ls.length lc] 38)):=(Below.refl _ _).alloc (Nat.le_refl _) _;have hx:=SBox.new w wd now given births (.slice a ks.length ac) (.slice p ps.length pc) (.slice l ls.length lc) 38;have HBW:Hid _:=hbw;clear hbw
 go_enter Tryz.func42,Tryz.ntmps42;go_wp2_with fail;refine(inums_any wd now given births _ _ _ _).mono ?_;rintro e w1 ⟨b1,rfl,hb1,hw1⟩;have hB1:=hb0.trans (hw1.mono (by simp));have hx1:=hx.below hw1;clear hw1 hx;cases b1 with
 |false=>
  go_wp2;go_ret;exact Says.no (fun h=>by have:=hb1.2 h.nums;cases this) hB1
 |true=>
  have hN:=hb1.1 rfl;clear hb1;obtain⟨x0,x1,x2,x3,x4,x5,x6,x7⟩:=hx1;go_wp2_with fail;refine(ivalidThings_any wd now given births a ac _ _ ks _ (hrow.below' hB1).k hk hf.k hf.r hN.wd1 hN.wd2).mono ?_;rintro e w2 ⟨b2,rfl,hb2,hw2⟩;have hB2:=hB1.trans (hw2.mono hB1.size);have hx2:=SBox.below ⟨x0,x1,x2,x3,x4,x5,x6,x7⟩ hw2;clear hw2 x0 x1 x2 x3 x4 x5 x6 x7;cases b2 with
  |false=>
   go_wp2;go_ret;exact Says.no (fun h=>by have:=hb2.2 ⟨h.nth,h.th⟩;cases this) hB2
  |true=>
   obtain⟨hn,hth⟩:=hb2.1 rfl;have HTH:Hid _:=hth;clear hb2;have hsz:∀k∈ks,(k.sum.size:Int)=wd:=fun k hk'=>by
    obtain⟨i,hi⟩:=List.getElem?_of_mem hk';rw[(hth i k hi).sum];exact sumOf_size k wd hN.wd1
   have HSZ:Hid _:=hsz;clear hth hsz;obtain⟨x0,x1,x2,x3,x4,x5,x6,x7⟩:=hx2;go_wp2_with fail;refine(shelfOf_any wd now given births a ac _ _ ks _ (hrow.below' hB2).k hf.k HSZ.out hN.wd2).mono ?_;rintro e w3 ⟨m,f,rfl,hm,hM,hH,hw3⟩;have hB3:=hB2.trans (hw3.mono hB2.size);have hx3:=SBox.below ⟨x0,x1,x2,x3,x4,x5,x6,x7⟩ hw3;have z3:=hw3.size;have HH:Hid _:=hH;clear hw3 x0 x1 x2 x3 x4 x5 x6 x7 hH
   obtain⟨W3,hW3⟩:∃W,W=w3.alloc (.cells #[.int .i64 wd,.map (some m)] 145):=⟨_,rfl⟩;have h33:Below w3.heap.size w3 W3:=by rw[hW3];exact(Below.refl _ _).alloc (Nat.le_refl _) _
   have s3:W3.heap.size=w3.heap.size+1:=by rw[hW3];simp
   have q3:HBox W3 w3.heap.size wd m:=by rw[hW3];exact HBox.new _ _ _ _
   have hx3':=hx3.below h33;have hM3:=hM.keep h33 hM.lt;have hB3:=hB3.trans (h33.mono hB3.size);have HW3:Hid _:=hW3;clear hW3 h33 hM;obtain⟨x0,x1,x2,x3,x4,x5,x6,x7⟩:=hx3;have HQ:Hid _:=And.intro hx3' q3;clear hx3' q3;go_wp2_with fail;rw[←HW3.out]
   refine(ivalidBirths_any wd now given births _ _ a ac m ks W3 (hrow.below' hB3).k hf.k hf.r HBW.out HTH.out (fun s=>shelf_find wd m _ f ks _ _ s W3 hM3 HH.out HSZ.out)).mono ?_;rintro e w4 ⟨b4,rfl,hb4,hw4⟩;have hB4:=hB3.trans (hw4.mono hB3.size);have hx4:=SBox.below HQ.out.1 hw4;have hg4:=HBox.keep HQ.out.2 hw4 HQ.out.2.2.2;have hM4:=hM3.keep hw4 hM3.lt
   clear hw4 x0 x1 x2 x3 x4 x5 x6 x7 HW3 hM3 HQ;have HB4:Hid _:=hb4;clear hb4;cases b4 with
   |false=>
    clear hx4 hg4 hM4;go_wp2;go_ret;exact Says.no (fun h=>by have:=HB4.out.2 ⟨h.born,h.ref⟩;cases this) hB4
   |true=>
    obtain⟨hbo,hre⟩:=HB4.out.1 rfl;have HBR:Hid _:=And.intro hbo hre;clear hbo hre;obtain⟨x0,x1,x2,x3,x4,x5,x6,x7⟩:=hx4;obtain⟨g0,g1,g2⟩:=hg4;go_wp2_with fail;refine(ivalidPins_any wd now given births _ _ _ p pc m ks ps w4 (hrow.below' hB4).p hp hf.p (fun s=>shelf_has wd m _ f ks _ _ s w4 hM4 HH.out HSZ.out) rfl).mono ?_;rintro e w5 ⟨b5,rfl,hb5,hw5⟩;have hB5:=hB4.trans (hw5.mono hB4.size)
    have hx5:=SBox.below ⟨x0,x1,x2,x3,x4,x5,x6,x7⟩ hw5;have hg5:=HBox.keep ⟨g0,g1,g2⟩ hw5 g2;have hM5:=hM4.keep hw5 hM4.lt;clear hw5 x0 x1 x2 x3 x4 x5 x6 x7 g0 g1 g2 hM4;have HB5:Hid _:=hb5;clear hb5;cases b5 with
    |false=>
     clear hx5 hg5 hM5;go_wp2;go_ret;exact Says.no (fun h=>by have:=HB5.out.2 ⟨h.np,h.pin⟩;cases this) hB5
    |true=>
     obtain⟨hnp,hpi⟩:=HB5.out.1 rfl;have HPI:Hid _:=hpi;clear hpi;obtain⟨x0,x1,x2,x3,x4,x5,x6,x7⟩:=hx5;obtain⟨g0,g1,g2⟩:=hg5;go_wp2_with fail;refine(ivalidLeases_any wd now given births _ _ _ l lc m ks ls w5 (hrow.below' hB5).l hl hf.l hN.now1 hN.now2 (fun s=>shelf_has wd m _ f ks _ _ s w5 hM5 HH.out HSZ.out) rfl).mono ?_;rintro e w6 ⟨b6,rfl,hb6,hw6⟩;have hB6:=hB5.trans (hw6.mono hB5.size)
     have HB6:Hid _:=hb6;clear hb6 x0 x1 x2 x3 x4 x5 x6 x7 g0 g1 g2 hM5 hw6;go_wp2;go_ret;refine⟨_,rfl,⟨fun h=> ?_,fun h=>HB6.out.2 ⟨h.nl,h.lease⟩⟩,hB6⟩;obtain⟨hnl,hle⟩:=HB6.out.1 h;exact⟨hN,hn,hnp,hnl,HTH.out,HBR.out.1,HBR.out.2,HPI.out,hle⟩
end Go.Proofs.YthkmpihfhkmaoaaGreatDoor
namespace Go.Proofs.YthkmpihfhkmaoaaGreatDoor
open Go.ChangeShapes Go.WideShapes Go.ChangeAt Go.RowKit
set_option maxHeartbeats 2000000 in
theorem l4Held_any (wd now given births:Int) (T:Value) (p l:Option Addr) (pc lc:Nat) (ps:List Pd) (ls:List Ld) (s:ByteArray) (w:World) (hp:PRow w w.heap.size p ps) (hl:LRow w w.heap.size l ls) (hpl:ps.length<=1000) (hll:ls.length<=1000):
 Calls Tryz.prog 136 #[.agg #[.int .i64 wd,.int .i64 now,.int .i64 given,.int .i64 births,T,.slice p ps.length pc,.slice l ls.length lc],.string s] w fun e w'=>Says ((∃p∈ps,p.sum=s)∨∃l∈ls,l.sum=s) w w' e:=by
 have HPR:Hid _:=hp;have HLR:Hid _:=hl;have hx:=SBox.new w wd now given births T (.slice p ps.length pc) (.slice l ls.length lc) 38;have hb0:Below w.heap.size w (w.alloc (.cells #[.int .i64 wd,.int .i64 now,.int .i64 given,.int .i64 births,T,.slice p ps.length pc,.slice l ls.length lc] 38)):=(Below.refl _ _).alloc (Nat.le_refl _) _
 obtain⟨W,hW⟩:∃W,W=w.alloc (.cells #[.int .i64 wd,.int .i64 now,.int .i64 given,.int .i64 births,T,.slice p ps.length pc,.slice l ls.length lc] 38):=⟨_,rfl⟩;rw[←hW] at hx hb0;have HW:Hid _:=hW;clear hp hl hW;obtain⟨q0,q1,q2,q3,q4,q5,q6,q7⟩:=hx;clear q0 q1 q2 q3 q4;go_enter Tryz.func136,Tryz.ntmps136;go_upto_region 1 with fail;rw[←HW.out];clear HW;go_wp2
 go_loop [5] (fun i=>∃k:Nat,k<=ps.length/\i=.int .i64 k/\Hid (∀j x,j<k->ps[j]?=some x->¬x.sum=s)) (fun i=>ps.length -(intOf i).toNat)
 case atStart=>exact⟨0,Nat.zero_le _,rfl,(fun j x h=>by omega)⟩
 case round=>
  obtain⟨k,hk,rfl,hall⟩:=hrel;by_cases hlt:k<ps.length
  ·obtain⟨b,off,ha,hb,hc⟩:=(PRow.below HPR.out hb0).at hlt
   subst ha;have HG:Hid (ps[k]?=some ps[k]):=List.getElem?_eq_getElem hlt;obtain⟨c0,c1⟩:=hc k _ HG.out;clear hc;generalize ps[k]=x at *
   by_cases h:x.sum=s
   ·have hq:(x.sum.toList==s.toList)=true:=by rw[h];simp
    have Hh:Hid _:=h;clear h;go_wp2;refine bodyPost_ret (results_tmp rfl _ _ _) rfl ?_;exact Says.yes (.inl ⟨x,List.mem_of_getElem? HG.out,Hh.out⟩) hb0
   ·have hq:(x.sum.toList==s.toList)=false:=beq_ne h
    have HA:Hid (∀j y,j<k+1->ps[j]?=some y->¬y.sum=s):=by
     intro j y hj hy;rcases Nat.lt_or_ge j k with h'|h'
     ·exact hall.out j y h' hy
     ·obtain rfl:j=k:=by omega
      rw[HG.out] at hy;cases hy;exact h
    clear h;go_wp2;exact⟨⟨k+1,by omega,by go_num,HA⟩,by simp[intOf];omega⟩
  ·have HNP:Hid (¬∃p∈ps,p.sum=s):=by
    rintro⟨y,hy,hys⟩;obtain⟨j,hj,rfl⟩:=List.getElem_of_mem hy;exact hall.out j _ (by omega) (List.getElem?_eq_getElem hj) hys
   clear hall;go_wp2
   go_loop [6] (fun i=>∃k:Nat,k<=ls.length/\i=.int .i64 k/\Hid (∀j x,j<k->ls[j]?=some x->¬x.sum=s)) (fun i=>ls.length -(intOf i).toNat)
   case atStart=>exact⟨0,Nat.zero_le _,rfl,(fun j x h=>by omega)⟩
   case round=>
    obtain⟨k,hk,rfl,hall⟩:=hrel;by_cases hlt:k<ls.length
    ·obtain⟨b,off,ha,hb,hc⟩:=(LRow.below HLR.out hb0).at hlt
     subst ha;have HG:Hid (ls[k]?=some ls[k]):=List.getElem?_eq_getElem hlt;obtain⟨c0,c1,c2⟩:=hc k _ HG.out;clear hc;generalize ls[k]=x at *
     by_cases h:x.sum=s
     ·have hq:(x.sum.toList==s.toList)=true:=by rw[h];simp
      have Hh:Hid _:=h;clear h;go_wp2;refine bodyPost_ret (results_tmp rfl _ _ _) rfl ?_;exact Says.yes (.inr ⟨x,List.mem_of_getElem? HG.out,Hh.out⟩) hb0
     ·have hq:(x.sum.toList==s.toList)=false:=beq_ne h
      have HA:Hid (∀j y,j<k+1->ls[j]?=some y->¬y.sum=s):=by
       intro j y hj hy;rcases Nat.lt_or_ge j k with h'|h'
       ·exact hall.out j y h' hy
       ·obtain rfl:j=k:=by omega
        rw[HG.out] at hy;cases hy;exact h
      clear h;go_wp2;exact⟨⟨k+1,by omega,by go_num,HA⟩,by simp[intOf];omega⟩
    ·go_wp2
     refine bodyPost_ret (results_tmp rfl _ _ _) rfl ?_;refine Says.no (fun e=> ?_) hb0;rcases e with e|⟨y,hy,hys⟩
     ·exact absurd e HNP.out
     ·obtain⟨j,hj,rfl⟩:=List.getElem_of_mem hy
      exact absurd hys (hall.out j _ (by omega) (List.getElem?_eq_getElem hj))
end Go.Proofs.YthkmpihfhkmaoaaGreatDoor
namespace Go.Proofs.YthkmpihfhkmaoaaGreatDoor
open Go.ChangeShapes Go.WideShapes Go.ChangeAt Go.RowKit
set_option maxHeartbeats 400000 in
theorem has_any (a:Option Addr) (cap:Nat) (ss:List ByteArray) (s:ByteArray) (w:World) (B:Nat) (hrow:SRow w B a ss) (hl:ss.length<=1048576):
 Calls Tryz.prog 123 #[.slice a ss.length cap,.string s] w fun e w'=>e=.returned (.bool (ss.any (fun x=>decide (x=s))))/\w'=w:=by
 go_enter Tryz.func123,Tryz.ntmps123;go_wp2
 go_loop [5] (fun i=>∃k:Nat,k<=ss.length/\i=.int .i64 k/\Hid (∀j x,j<k->ss[j]?=some x->x≠s)) (fun i=>ss.length -(intOf i).toNat)
 case atStart=>exact⟨0,Nat.zero_le _,rfl,fun j x h=>by omega⟩
 case round=>
  obtain⟨k,hk,rfl,hall⟩:=hrel;by_cases hlt:k<ss.length
  ·obtain⟨b,off,ha,hb,hc⟩:=hrow.at hlt
   subst ha;have hg:Hid (ss[k]?=some ss[k]):=List.getElem?_eq_getElem hlt;have c0:=hc k _ hg;clear hc hrow;generalize ss[k]=x at *
   by_cases he:x=s
   ·subst he
    have hh:Hid (ss.any (fun y=>decide (y=x))=true):=by
     show _=_;rw[List.any_eq_true];exact⟨x,List.mem_of_getElem? hg.out,by simp⟩
    go_wp2;go_ret;exact⟨ret_b hh.out.symm,rfl⟩
   ·have hne:=beq_ne he
    have HA:Hid (∀j y,j<k+1->ss[j]?=some y->y≠s):=by
     intro j y hj hy;rcases Nat.lt_or_ge j k with h'|h'
     ·exact hall.out j y h' hy
     ·obtain rfl:j=k:=by omega
      rw[hg.out] at hy;cases hy;exact he
    clear he hall hg;go_wp2;exact⟨⟨k+1,by omega,by go_num,HA⟩,by simp[intOf];omega⟩
  ·go_wp2
   go_ret;refine⟨ret_b ?_,rfl⟩
   symm
   rw[List.any_eq_false];intro x hx;obtain⟨j,hj⟩:=List.getElem?_of_mem hx;simpa using hall.out j x (by have:=(List.getElem?_eq_some_iff.1 hj).1;omega) hj
end Go.Proofs.YthkmpihfhkmaoaaGreatDoor
namespace Go.Proofs.YthkmpihfhkmaoaaGreatDoor
open Go.ChangeShapes Go.WideShapes Go.ChangeAt Go.RowKit
def ZRow (w:World) (b off:Nat) (zs:List (Kd×Value)):Prop:=
 ∀i z,zs[i]?=some z->(w.cell? ⟨b,off+i *4,none⟩=some (.string z.1.sum)/\w.cell? ⟨b,off+i *4+1,none⟩=some (.int .i64 z.1.born)/\w.cell? ⟨b,off+i *4+2,none⟩=some (.string z.1.text)/\w.cell? ⟨b,off+i *4+3,none⟩=some z.2)/\∃ad rc,z.2=.slice (some ad) z.1.refs.length rc/\SRow w w.heap.size (some ad) z.1.refs
theorem ZRow.below {w w':World} {b off:Nat} {zs:List (Kd×Value)} (h:ZRow w b off zs) (hb:Below w.heap.size w w') (hl:b<w.heap.size):ZRow w' b off zs:=by
 intro i z hz;obtain⟨⟨h0,h1,h2,h3⟩,ad,rc,h4,h5⟩:=h i z hz;exact⟨⟨(hb.cell (p:=⟨b,off+i *4,none⟩) hl).trans h0,(hb.cell (p:=⟨b,off+i *4+1,none⟩) hl).trans h1,(hb.cell (p:=⟨b,off+i *4+2,none⟩) hl).trans h2,(hb.cell (p:=⟨b,off+i *4+3,none⟩) hl).trans h3⟩,ad,rc,h4,SRow.mono (SRow.below h5 hb) hb.size⟩
theorem ZRow.krow {w:World} {b off:Nat} {zs:List (Kd×Value)} (h:ZRow w b off zs) (hl:b<w.heap.size):KRow w w.heap.size (some ⟨b,off,none⟩) (zs.map (·.1)):=by
 refine .inr ⟨b,off,rfl,hl,fun i k hk=> ?_⟩;rw[List.getElem?_map] at hk;cases hz:zs[i]? with
 |none=>rw[hz] at hk;cases hk
 |some z=>
  rw[hz] at hk;cases hk;obtain⟨⟨h0,h1,h2,h3⟩,ad,rc,h4,h5⟩:=h i z hz;exact⟨h0,h1,h2,some ad,rc,by rw[h3,h4],h5⟩
theorem ZRow.own {w:World} {base g cap:Nat} {zs:List (Kd×Value)} (ho:w.ownsRow base 114 4 (.slice (some ⟨g,0,none⟩) zs.length cap) zs.length (rowC kC zs)) (hs:∀z∈zs,∃ad rc,z.2=.slice (some ad) z.1.refs.length rc/\SRow w w.heap.size (some ad) z.1.refs):ZRow w g 0 zs:=by
 intro i z hz;have hi:=(List.getElem?_eq_some_iff.1 hz).1;have hc:∀j,j<4->w.cell? ⟨g,i *4+j,none⟩=(kC z)[j]?:=fun j hj=>(ho.cellAt (i *4+j) (by omega)).trans (row_get kC_len4 hz hj);refine⟨⟨?_,?_,?_,?_⟩,hs z (List.mem_of_getElem? hz)⟩
 ·rw[Nat.zero_add];simpa [kC] using hc 0 (by decide)
 ·rw[Nat.zero_add];simpa [kC] using hc 1 (by decide)
 ·rw[Nat.zero_add];simpa [kC] using hc 2 (by decide)
 ·rw[Nat.zero_add];simpa [kC] using hc 3 (by decide)
def dropZ (zs:List (Kd×Value)) (s:ByteArray):List (Kd×Value):=zs.filter (fun z=> !decide (z.1.sum=s))
theorem dropZ_map (zs:List (Kd×Value)) (s:ByteArray):(dropZ zs s).map (·.1)=dropK (zs.map (·.1)) s:=by
 unfold dropZ dropK;rw[List.filter_map];rfl
theorem dropZ_snoc {zs:List (Kd×Value)} {k:Nat} {z:Kd×Value} (s:ByteArray) (hz:zs[k]?=some z):dropZ (zs.take (k+1)) s=dropZ (zs.take k) s++(if z.1.sum=s then [] else [z]):=by
 obtain⟨hlt,rfl⟩:=List.getElem?_eq_some_iff.1 hz;unfold dropZ;rw[List.take_succ_eq_append_getElem hlt,List.filter_append];by_cases h:zs[k].1.sum=s<;>simp[h]
theorem sbox_of {w:World} {b:Nat} {wd now given births:Int} {T P L:Value} (h:CellsAt w b [.int .i64 wd,.int .i64 now,.int .i64 given,.int .i64 births,T,P,L]):SBox w b wd now given births T P L:=
 ⟨(h 0 _ rfl).1,(h 1 _ rfl).1,(h 2 _ rfl).1,(h 3 _ rfl).1,(h 4 _ rfl).1,(h 5 _ rfl).1,(h 6 _ rfl).1,h.lt⟩
def InUse (ps:List Pd) (ls:List Ld) (ks:List Kd) (s:ByteArray):Prop:=((∃p∈ps,p.sum=s)∨∃l∈ls,l.sum=s)∨∃k∈ks,s∈k.refs
def Dropped (w w':World) (e:Ending) (wd now given births:Int) (P L:Value) (zs:List (Kd×Value)) (ps:List Pd) (ls:List Ld) (s:ByteArray):Prop:=
 Below w.heap.size w w'/\((InUse ps ls (zs.map (·.1)) s/\e=.returned (.agg #[.int .i64 6,.int .i64 0,.int .i64 0,.int .i64 0,.int .i64 0,.slice none 0 0,.slice none 0 0,.slice none 0 0,.string ⟨#[]⟩,.int .i64 0,.string ⟨#[]⟩,.string ⟨#[]⟩]))∨
  (¬InUse ps ls (zs.map (·.1)) s/\∃g c,e=.returned (.agg #[.int .i64 0,.int .i64 wd,.int .i64 now,.int .i64 given,.int .i64 births,.slice (some ⟨g,0,none⟩) (dropZ zs s).length c,P,L,.string ⟨#[]⟩,.int .i64 0,.string ⟨#[]⟩,.string ⟨#[]⟩])/\ZRow w' g 0 (dropZ zs s)/\w.heap.size<=g/\g<w'.heap.size))
set_option maxRecDepth 20000 in
set_option maxHeartbeats 4000000 in
theorem l4Drop_any (wd now given births:Int) (b off ac pc lc:Nat) (p l:Option Addr) (zs:List (Kd×Value)) (ps:List Pd) (ls:List Ld) (s:ByteArray) (w:World) (hz:ZRow w b off zs) (hbl:b<w.heap.size) (hp:PRow w w.heap.size p ps) (hl:LRow w w.heap.size l ls) (hzl:zs.length<=600) (hpl:ps.length<=100) (hll:ls.length<=200) (hr:∀z∈zs,z.1.refs.length<=1000) (hth:There (zs.map (·.1)) s):
 Calls Tryz.prog 91 #[.agg #[.int .i64 wd,.int .i64 now,.int .i64 given,.int .i64 births,.slice (some ⟨b,off,none⟩) zs.length ac,.slice p ps.length pc,.slice l ls.length lc],.string s] w fun e w'=>Dropped w w' e wd now given births (.slice p ps.length pc) (.slice l ls.length lc) zs ps ls s:=by
 obtain⟨W,hW⟩:∃W,W=(w.alloc (.cells #[.int .i64 wd,.int .i64 now,.int .i64 given,.int .i64 births,.slice (some ⟨b,off,none⟩) zs.length ac,.slice p ps.length pc,.slice l ls.length lc] 38)).alloc (.cells #[.int .i64 0,.int .i64 0,.int .i64 0,.int .i64 0,.int .i64 0,.slice none 0 0,.slice none 0 0,.slice none 0 0,.string ⟨#[]⟩,.int .i64 0,.string ⟨#[]⟩,.string ⟨#[]⟩] 40):=⟨_,rfl⟩
 have hB:Below w.heap.size w W:=by rw[hW];exact((Below.refl _ _).alloc (Nat.le_refl _) _).alloc (by simp) _
 have hzW:W.heap.size=w.heap.size+2:=by rw[hW];simp
 have xW:SBox W w.heap.size wd now given births (.slice (some ⟨b,off,none⟩) zs.length ac) (.slice p ps.length pc) (.slice l ls.length lc):=by rw[hW];exact SBox.keep (SBox.new w wd now given births _ _ _ 38) ((Below.refl _ _).alloc (Nat.le_refl _) _) (by simp)
 have zR:CellsAt W (w.heap.size+1) z12:=by
  have h1:=CellsAt.new (w.alloc (.cells #[.int .i64 wd,.int .i64 now,.int .i64 given,.int .i64 births,.slice (some ⟨b,off,none⟩) zs.length ac,.slice p ps.length pc,.slice l ls.length lc] 38)) z12 40;rw[World.size_alloc] at h1;rw[hW];exact h1
 have HF:=find_any wd now given births (some ⟨b,off,none⟩) ac (.slice p ps.length pc) (.slice l ls.length lc) (zs.map (·.1)) s W w.heap.size (KRow.below (hz.krow hbl) hB) hB.size (by rw[List.length_map];omega);rw[List.length_map] at HF;have hfi:0<=findI (zs.map (·.1)) s:=by
  rcases findI_cases (zs.map (·.1)) s with⟨_,hn⟩|⟨i,k,e,_⟩
  ·exact absurd hth hn
  ·omega
 have HFF:Hid _:=HF;have HZR:Hid _:=zR;have HCW:Hid (CellsAt W w.heap.size [.int .i64 wd,.int .i64 now,.int .i64 given,.int .i64 births,.slice (some ⟨b,off,none⟩) zs.length ac,.slice p ps.length pc,.slice l ls.length lc]):=by rw[hW];exact CellsAt.below (CellsAt.new w _ _) ((Below.refl _ _).alloc (Nat.le_refl _) _)
 have hzR12:w.heap.size+1<W.heap.size:=by omega
 have HZ:Hid _:=hz;have HPL:Hid _:=And.intro hp hl;have HW:Hid _:=hW;have HXW:Hid _:=xW;clear hW hz hp hl zR HF hth;obtain⟨x0,x1,x2,x3,x4,x5,x6,x7⟩:=xW;go_enter Tryz.func91,Tryz.ntmps91;go_upto_region 1 with fail;rw[←HW.out];clear HW;go_wp2_with fail;refine Calls.mono HFF.out ?_;rintro e w1 ⟨rfl,hb1⟩;have hd1:¬findI (zs.map (·.1)) s<0:=by omega
 have HX1:Hid _:=SBox.below HXW.out hb1;obtain⟨y0,y1,y2,y3,y4,y5,y6,y7⟩:=HX1.out;have hB1:Below w.heap.size w w1:=hB.trans (hb1.mono hB.size);clear x0 x1 x2 x3 x4 x5 x6 HFF;generalize findI (zs.map (·.1)) s=fi at *
 go_wp2_with fail;refine(l4Held_any wd now given births (.slice (some ⟨b,off,none⟩) zs.length ac) p l pc lc ps ls s w1 (PRow.mono (PRow.below HPL.out.1 hB1) hB1.size) (LRow.mono (LRow.below HPL.out.2 hB1) hB1.size) (by omega) (by omega)).mono ?_;rintro e w2 ⟨ok,rfl,hok,hb2⟩;have hB2:Below w.heap.size w w2:=hB1.trans (hb2.mono hB1.size);have HX2:Hid _:=SBox.below HX1.out hb2
 have z2:CellsAt w2 (w.heap.size+1) z12:=CellsAt.below (v:=.int .i64 0) (CellsAt.below (v:=.int .i64 0) HZR.out hb1) hb2;have HZ2:Hid _:=z2;have HOK:Hid _:=hok;clear hok y0 y1 y2 y3 y4 y5 y6 z2;cases ok
 ·obtain⟨v0,v1,v2,v3,v4,v5,v6,v7⟩:=HX2.out
  have hw2:w.heap.size+2<=w2.heap.size:=by have:=hb1.size;have:=hb2.size;omega
  have bA:Below w2.heap.size w2 (w2.alloc (.cells #[] 114)):=(Below.refl _ _).alloc (Nat.le_refl _) _;go_wp2
  go_loopw [5,6] (fun v i wr=>∃(k g c:Nat),k<=zs.length/\i=.int .i64 k/\v=.slice (some ⟨g,0,none⟩) (dropZ (zs.take k) s).length c/\Hid (wr.ownsRow (w.heap.size+2) 114 4 (.slice (some ⟨g,0,none⟩) (dropZ (zs.take k) s).length c) (dropZ (zs.take k) s).length (rowC kC (dropZ (zs.take k) s))/\(∀z∈zs.take k,¬s∈z.1.refs)/\CellsAt wr w.heap.size [.int .i64 wd,.int .i64 now,.int .i64 given,.int .i64 births,.slice (some ⟨b,off,none⟩) zs.length ac,.slice p ps.length pc,.slice l ls.length lc]/\CellsAt wr (w.heap.size+1) z12/\Below w.heap.size w wr)) (fun _ i _=>zs.length -(intOf i).toNat)
  case atStart=>
   refine⟨0,w2.heap.size,0,Nat.zero_le _,rfl,by simp[dropZ],⟨?_,(fun z hz=>by simp at hz),CellsAt.below (CellsAt.below (CellsAt.below HCW.out hb1) hb2) bA,CellsAt.below (v:=.int .i64 0) HZ2.out bA,hB2.trans (bA.mono hB2.size)⟩⟩;have:=World.ownsRow_lit (base:=w.heap.size+2) (e:=114) (size:=4) w2 #[] 0 hw2 (by unfold maxLen;omega) rfl;simpa [dropZ,rowC] using this
  case round=>
   clear HX1 HXW HZ2 HX2 v0 v1 v2 v3 v4 v5 v6 v7 bA;obtain⟨k,g,c,hk,rfl,rfl,HI⟩:=hrel;obtain⟨v0,v1,v2,v3,v4,v5,v6,v7⟩:=sbox_of HI.out.2.2.1;have hbel:=HI.out.2.2.2.2;have hzr:=hbel.size;by_cases hlt:k<zs.length
   ·have HG:Hid (zs[k]?=some zs[k]):=List.getElem?_eq_getElem hlt
    obtain⟨⟨c0,c1,c2,c3⟩,ad,rc,h4,h5⟩:=(ZRow.below HZ.out hbel hbl) k _ HG.out;have hr1:=hr _ (List.getElem_mem hlt);have HSn:Hid _:=dropZ_snoc s HG.out;have hbr:b<wr.heap.size:=by omega
    have HSR:Hid _:=h5;have HTk:Hid (zs.take (k+1)=zs.take k++[zs[k]]):=List.take_succ_eq_append_getElem hlt;rw[h4] at c3;have H4:Hid _:=h4;clear h5 h4;generalize zs[k]=z at *
    have hdl:(dropZ (zs.take k) s).length<=600:=by
     have:=List.length_filter_le (fun z:Kd×Value=> !decide (z.1.sum=s)) (zs.take k);unfold dropZ;rw[List.length_take] at this;omega
    go_wp2_with fail;refine(has_any (some ad) rc z.1.refs s wr wr.heap.size HSR.out (by omega)).mono ?_;rintro e w3 ⟨rfl,rfl⟩;by_cases hin:s∈z.1.refs
    ·have hd:z.1.refs.any (fun x=>decide (x=s))=true:=by simpa using hin
     rw[hd];obtain⟨⟨y0,q0⟩,⟨y1,q1⟩,⟨y2,q2⟩,⟨y3,q3⟩,⟨y4,q4⟩,⟨y5,q5⟩,⟨y6,q6⟩,⟨y7,q7⟩,⟨y8,q8⟩,⟨y9,q9⟩,⟨y10,q10⟩,y11,q11⟩:=z12at HI.out.2.2.2.1;have Hin:Hid _:=hin;clear hin hd c0 c1 c2 c3 v0 v1 v2 v3 v4 v5 v6;go_wp2
     refine bodyPost_ret (v:=.agg #[.int .i64 6,.int .i64 0,.int .i64 0,.int .i64 0,.int .i64 0,.slice none 0 0,.slice none 0 0,.slice none 0 0,.string ⟨#[]⟩,.int .i64 0,.string ⟨#[]⟩,.string ⟨#[]⟩]) (by simp[results,Tryz.results91,go_sem,y0,y1,y2,y3,y4,y5,y6,y7,y8,y9,y10,y11]) rfl ⟨hbel.trans (Tn.below (tn12 _ (w.heap.size+1) _ _ _ _ _ _ _ _ _ _ _ _) hbel.size (by simp)),.inl ⟨.inr ⟨z.1,List.mem_map.2 ⟨z,List.mem_of_getElem? HG.out,rfl⟩,Hin.out⟩,rfl⟩⟩
    ·have hd:z.1.refs.any (fun x=>decide (x=s))=false:=by
      rw[List.any_eq_false];intro x hx e;exact hin (of_decide_eq_true e▸hx)
     rw[hd];have HNo:Hid (∀y∈zs.take (k+1),¬s∈y.1.refs):=by
      rw[HTk.out];intro y hy;rcases List.mem_append.1 hy with hy|hy
      ·exact HI.out.2.1 y hy
      ·simp at hy
       rw[hy];exact hin
     clear hin hd;by_cases hzs:z.1.sum=s
     ·have hq:(z.1.sum.toList !=s.toList)=false:=by rw[hzs];simp
      have hq2:(z.1.sum.toList==s.toList)=true:=by rw[hzs];simp
      have hsn:=HSn.out;rw[if_pos hzs,List.append_nil] at hsn;have HSe:Hid _:=hsn;clear hsn hzs;go_wp2;exact⟨⟨k+1,g,c,by omega,by go_num,by rw[HSe.out],⟨by rw[HSe.out];exact HI.out.1,HNo.out,HI.out.2.2⟩⟩,by simp[intOf];omega⟩
     ·have hq2:(z.1.sum.toList==s.toList)=false:=beq_ne hzs
      have hq:(z.1.sum.toList !=s.toList)=true:=by simp[bne,hq2]
      have hsn:=HSn.out;rw[if_neg hzs] at hsn;have HSe:Hid _:=hsn;clear hsn hzs;obtain⟨i0,hi,hz0,hz1,hz2⟩:=info_parts Tryz.infoKept;have hgl:=own_lt HI.out.1 (g:=g) rfl;go_wp2_with (first
       |(at_builtin;refine wpList_append_own_at _ rfl _ _ 34 rfl (w.heap.size+2) 114 i0 _ 4 64 Tryz.underlying34 hi hz0 hz1 hz2 rfl (by decide) _ (dropZ (zs.take k) s).length (rowC kC (dropZ (zs.take k) s)) rfl ?d0 ⟨w3.heap.size,0,none⟩ 1 1 (kC (z.1,.slice (some ad) z.1.refs.length rc)) rfl rfl ?d2 ?d3 ?d4 ?d5 ?d6 ?_)
       |go_in)
      case d0=>exact own_below HI.out.1 ((Below.refl _ _).alloc (Nat.le_refl _) _)
      case d2=>
       intro j u hu;rw[Go.WideShapes.add_plain,Nat.zero_add];exact((CellsAt.new w3 (kC (z.1,.slice (some ad) z.1.refs.length rc)) 114) j u hu).1
      case d3=>
       intro u hu;simp[kC] at hu;rcases hu with rfl|rfl|rfl|rfl<;>rfl
      case d4=>unfold maxLen;omega
      case d5=>omega
      case d6=>simp;omega
      intro v4 w4 ho4 hg4 hn4 ha4;obtain⟨g4,c4,rfl,hg4a,hg4b⟩:=own_form ho4 (fun e=>by subst e;rcases ho4.2 with⟨_,hn⟩|⟨_,_,_,e,_⟩<;>first|omega|cases e);have b4:Below w3.heap.size w3 (w3.alloc (.cells #[.string z.1.sum,.int .i64 z.1.born,.string z.1.text,.slice (some ad) z.1.refs.length rc] 114)):=(Below.refl _ _).alloc (Nat.le_refl _) _
      have hg4':w3.grownBy w4 (some g):=grown_trans (grown_below _ b4) hg4;have hz2:z.2=.slice (some ad) z.1.refs.length rc:=H4.out;have hDl:(dropZ (zs.take (k+1)) s).length=(dropZ (zs.take k) s).length+1:=by rw[HSe.out];simp
      have hDc:rowC kC (dropZ (zs.take (k+1)) s)=rowC kC (dropZ (zs.take k) s)++kC (z.1,.slice (some ad) z.1.refs.length rc):=by
       rw[HSe.out,row_append,←hz2];simp[rowC]
      have HF:Hid (w4.ownsRow (w.heap.size+2) 114 4 (.slice (some ⟨g4,0,none⟩) (dropZ (zs.take (k+1)) s).length c4) (dropZ (zs.take (k+1)) s).length (rowC kC (dropZ (zs.take (k+1)) s))/\(∀y∈zs.take (k+1),¬s∈y.1.refs)/\CellsAt w4 w.heap.size [.int .i64 wd,.int .i64 now,.int .i64 given,.int .i64 births,.slice (some ⟨b,off,none⟩) zs.length ac,.slice p ps.length pc,.slice l ls.length lc]/\CellsAt w4 (w.heap.size+1) z12/\Below w.heap.size w w4):=by
       refine⟨by rw[hDl,hDc];exact ho4,HNo.out,?_,?_,hbel.grown hg4' (by omega) (fun q hq=>by cases hq;omega)⟩
       ·exact CellsAt.far' HI.out.2.2.1 hg4' (by omega)
       ·exact CellsAt.far' (v:=.int .i64 0) HI.out.2.2.2.1 hg4' (by omega)
      clear ho4 hg4 hg4' hn4 ha4 b4 hDc hz2 c0 c1 c2 c3 v0 v1 v2 v3 v4 v5 v6;have HDl:Hid _:=hDl;clear hDl;go_wp2;exact⟨⟨k+1,g4,c4,by omega,by go_num,by rw[HDl.out],HF⟩,by simp[intOf];omega⟩
   ·obtain rfl:k=zs.length:=by omega
    have hIe:=HI.out;rw[List.take_of_length_le (Nat.le_refl _)] at hIe;obtain⟨h1,h2,h3,h4,h5⟩:=hIe;have hgl:=own_lt h1 (g:=g) rfl;have HE:Hid _:=And.intro h1 (And.intro h2 h5);obtain⟨⟨y0,q0⟩,⟨y1,q1⟩,⟨y2,q2⟩,⟨y3,q3⟩,⟨y4,q4⟩,⟨y5,q5⟩,⟨y6,q6⟩,⟨y7,q7⟩,⟨y8,q8⟩,⟨y9,q9⟩,⟨y10,q10⟩,y11,q11⟩:=z12at h4;have f4:=(h3 4 _ rfl).2;have H3:Hid _:=h3;clear h1 h2 h3 h4 h5;rw[List.take_of_length_le (Nat.le_refl _)]
    go_wp2;have T:∀a0 a1 a2 a3 a4 a5 a6 a7 a8 a9 a10 a11 c4,Tn [w.heap.size,w.heap.size+1] wr _:=fun a0 a1 a2 a3 a4 a5 a6 a7 a8 a9 a10 a11 c4=>(Tn.set (V:=[w.heap.size,w.heap.size+1]) wr w.heap.size 4 c4 (by simp)).trans (Tn.mono (tn12 (wr.setCell ⟨w.heap.size,4,none⟩ c4) (w.heap.size+1) a0 a1 a2 a3 a4 a5 a6 a7 a8 a9 a10 a11) (by simp))
    refine bodyPost_ret (v:=.agg #[.int .i64 0,.int .i64 wd,.int .i64 now,.int .i64 given,.int .i64 births,.slice (some ⟨g,0,none⟩) (dropZ zs s).length c,.slice p ps.length pc,.slice l ls.length lc,.string ⟨#[]⟩,.int .i64 0,.string ⟨#[]⟩,.string ⟨#[]⟩]) (by simp[results,Tryz.results91,go_sem,y0,y1,y2,y3,y4,y5,y6,y7,y8,y9,y10,y11]) rfl ?_
    have T':=T (.int .i64 0) (.int .i64 wd) (.int .i64 now) (.int .i64 given) (.int .i64 births) (.slice (some ⟨g,0,none⟩) (dropZ zs s).length c) (.slice p ps.length pc) (.slice l ls.length lc) (.string ⟨#[]⟩) (.int .i64 0) (.string ⟨#[]⟩) (.string ⟨#[]⟩) (.slice (some ⟨g,0,none⟩) (dropZ zs s).length c);have hBX:=HE.out.2.2.trans (Tn.below T' HE.out.2.2.size (by simp))
    refine⟨hBX,.inr ⟨?_,g,c,rfl,ZRow.own (own_same HE.out.1 (fun q hq=>T'.block q (own_lt HE.out.1 hq).2 (by have:=(own_lt HE.out.1 hq).1;simp;omega))) (fun z hz=> ?_),by omega,Nat.lt_of_lt_of_le hgl.2 T'.size⟩⟩
    ·rintro(h|⟨x,hx,hs⟩)
     ·have:=HOK.out.2 h
      simp at this
     ·obtain⟨z,hz,rfl⟩:=List.mem_map.1 hx
      exact HE.out.2.1 z hz hs
    ·obtain⟨i,hi⟩:=List.getElem?_of_mem (List.mem_filter.1 hz).1
     obtain⟨_,ad,rc,e,hs⟩:=HZ.out i z hi;exact⟨ad,rc,e,SRow.mono (SRow.below hs hBX) hBX.size⟩
 ·obtain⟨⟨y0,q0⟩,⟨y1,q1⟩,⟨y2,q2⟩,⟨y3,q3⟩,⟨y4,q4⟩,⟨y5,q5⟩,⟨y6,q6⟩,⟨y7,q7⟩,⟨y8,q8⟩,⟨y9,q9⟩,⟨y10,q10⟩,y11,q11⟩:=z12at HZ2.out
  go_wp2
  refine bodyPost_ret (v:=.agg #[.int .i64 6,.int .i64 0,.int .i64 0,.int .i64 0,.int .i64 0,.slice none 0 0,.slice none 0 0,.slice none 0 0,.string ⟨#[]⟩,.int .i64 0,.string ⟨#[]⟩,.string ⟨#[]⟩]) (by simp[results,Tryz.results91,go_sem,y0,y1,y2,y3,y4,y5,y6,y7,y8,y9,y10,y11]) rfl ⟨hB2.trans (Tn.below (tn12 w2 (w.heap.size+1) _ _ _ _ _ _ _ _ _ _ _ _) hB2.size (by simp)),.inl ⟨.inl (HOK.out.1 trivial),rfl⟩⟩
end Go.Proofs.YthkmpihfhkmaoaaGreatDoor
