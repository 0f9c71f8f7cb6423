import Derived.Test.YtlhhpofjkgmbeaaGreatDoorX22
import Derived.Lib.OwnKind
set_option maxRecDepth 100000
set_option maxHeartbeats 16000000
namespace Go.Proofs.YtlhhpofjkgmbeaaGreatDoor
open Go.ChangeShapes Go.WideShapes Go.ChangeAt Go.RowKit _root_.Go.Proofs.Tryz
theorem Mx{w:Zh}{b:Nat}{d e f g i j k l m n a c:Value}(h:Aa w b [d,e,f,g,i,j,k,l,m,n,a,c]):(w.cell? (Ze b 0)=some d/\w.frozen? ⟨b,0,none⟩=false)/\(w.cell? (Ze b 1)=some e/\w.frozen? ⟨b,1,none⟩=false)/\(w.cell? (Ze b 2)=some f/\w.frozen? ⟨b,2,none⟩=false)/\(w.cell? (Ze b 3)=some g/\w.frozen? ⟨b,3,none⟩=false)/\(w.cell? (Ze b 4)=some i/\w.frozen? ⟨b,4,none⟩=false)/\(w.cell? (Ze b 5)=some j/\w.frozen? ⟨b,5,none⟩=false)/\(w.cell? (Ze b 6)=some k/\w.frozen? ⟨b,6,none⟩=false)/\(w.cell? (Ze b 7)=some l/\w.frozen? ⟨b,7,none⟩=false)/\(w.cell? (Ze b 8)=some m/\w.frozen? ⟨b,8,none⟩=false)/\(w.cell? (Ze b 9)=some n/\w.frozen? ⟨b,9,none⟩=false)/\(w.cell? (Ze b 10)=some a/\w.frozen? ⟨b,10,none⟩=false)/\w.cell? (Ze b 11)=some c/\w.frozen? ⟨b,11,none⟩=false:=
 ⟨h 0 _ rfl,h 1 _ rfl,h 2 _ rfl,h 3 _ rfl,h 4 _ rfl,h 5 _ rfl,h 6 _ rfl,h 7 _ rfl,h 8 _ rfl,h 9 _ rfl,h 10 _ rfl,h 11 _ rfl⟩
theorem c6{w:Zh}{b:Nat}{a c d e f g:Value}(h:Aa w b [a,c,d,e,f,g]):(w.cell? (Ze b 0)=some a/\w.frozen? ⟨b,0,none⟩=false)/\(w.cell? (Ze b 1)=some c/\w.frozen? ⟨b,1,none⟩=false)/\(w.cell? (Ze b 2)=some d/\w.frozen? ⟨b,2,none⟩=false)/\(w.cell? (Ze b 3)=some e/\w.frozen? ⟨b,3,none⟩=false)/\(w.cell? (Ze b 4)=some f/\w.frozen? ⟨b,4,none⟩=false)/\w.cell? (Ze b 5)=some g/\w.frozen? ⟨b,5,none⟩=false:=
 ⟨h 0 _ rfl,h 1 _ rfl,h 2 _ rfl,h 3 _ rfl,h 4 _ rfl,h 5 _ rfl⟩
def RdS(n:Nat)(w:Zh)(ta pa la:Zk)(ks:List Kd)(ps:List Pd)(ls:List Ld):Prop:=∀V w',(∀b∈V,b<n)->Tn V w w'->Bv w' w'.heap.size ta pa la ks ps ls
theorem AO.rdS{w:Zh}{base:Nat}{f e d:Zk}{q o n:Nat}{p:Zj}{a:List Kd}{c:List Pd}{b:List Ld}(h:AO w base (.slice f a.length q) (.slice e c.length o) (.slice d b.length n) p a c b):RdS base w f e d a c b:=fun V r k m=>by obtain⟨_,_,_,_,_,_,g,i,j,l⟩:=(h.an m k).rows;cases g;cases i;cases j;exact l
theorem AO.get{w:Zh}{base:Nat}{f e d:Zk}{k i g:Nat}{j:Zj}{a:List Kd}{c:List Pd}{b:List Ld}(h:AO w base (.slice f a.length k) (.slice e c.length i) (.slice d b.length g) j a c b):Bv w w.heap.size f e d a c b:=
 h.rdS [] w (by simp) (Tn.of (Below.refl _ _))
structure Qh (x:An):Prop where
 ks:x.ks.length<=600
 refs:∀k∈x.ks,k.refs.length<=30
 ps:x.ps.length<=100
 ls:x.ls.length<=200
theorem Qh.fit{x:An}(h:Qh x):Nw x.ks x.ps x.ls:=
 ⟨by have:=h.ks;omega,fun k a=>by have:=h.refs k a;omega,by have:=h.ps;omega,by have:=h.ls;omega⟩
theorem Aa.fp{w:Zh}{B:Nat}(a c d:Zj)(h:Aa w B (a++(c++d))):w.rangeAt B a.length c:=fun j v b=>by refine(h (a.length+j) v ?_).1;rw[List.getElem?_append_right (by omega),Nat.add_sub_cancel_left,List.getElem?_append_left (Zw b).1];exact b
theorem RH(n:Int)(w:Zh):
 Calls prog 90 #[Zg n] w fun e a=>e=.returned (.bool (decide (0<=n/\n<=1000000)))/\a=w:=by
 by_cases h1:0<=n
 ·by_cases h2:n<=1000000
  ·go_enter func90,ntmps90;go_wp2;go_ret;exact⟨Aw (by simp[h1,h2]),rfl⟩
  ·have c:decide (n<=1000000)=false:=by simpa using h2
   go_enter func90,ntmps90;go_wp2;go_ret;exact⟨rfl,rfl⟩
 ·have b:decide (0<=n)=false:=by simpa using h1
  go_enter func90,ntmps90;go_wp2;go_ret;exact⟨rfl,rfl⟩
structure LJ (w:Zh) (lo k d m base:Nat) (O P L:Value) (v:Vd) (a:Va) (r:Rs):Prop where
 box:Aa w k [.int .i32 0,.int .u32 0,Zg v.wd,Zg v.ak,.slice a.sa v.ss.length a.sc,.slice a.ta v.tt.length a.tc,Zg v.sw,Zg v.now,Zg v.given,Zg v.ae,.slice a.ka v.ks.length a.kc,.slice a.pa v.ps.length a.pc,.slice a.la v.ls.length a.lc,Zg v.ph,.slice a.qa v.qs.length a.qc,.slice a.ma v.ms.length a.mc,Zg v.ag,Zg v.at_,Zg v.ro,.pointer (some ⟨d,0,none⟩)]
 dr:Dr w base d m O P L v.wd r.now r.given r.ae r.ks r.ps r.ls
 de:lo<=base
 fq:lo<=k
 lt:∀b∈vB d m O P L,b<k
 cl:base+4<=m
 ty:∃cur,w.heap[k]?=some (.cells cur 166)
def ZZ(w w':Zh)(v:Vd)(p:Value)(n:Int):Prop:=
 (∃k:Nat,Di v.wd (v.ss++v.tt) k/\p=.pointer none/\n=k)∨(∃r d m O P L base,Da v.wd r0 (v.ss++v.tt) r/\p=.pointer (some ⟨d,0,none⟩)/\n=0/\Dr w' base d m O P L v.wd r.now r.given r.ae r.ks r.ps r.ls/\(w.heap.size<=base/\base+4<=m))
theorem RI(v:Vd)(a:Va)(w:Zh)(hr:BR w w.heap.size a v)(hf:Cr v)(hE:Env w):
 Calls prog 45 #[.agg (Yi v a)] w fun e l=>Zz w l/\((¬Ei v/\e=.returned (.tuple #[.pointer none,.bool false]))∨(∃r k d m O P L base,CM v r/\e=.returned (.tuple #[Yz k,.bool true])/\LJ l w.heap.size k d m base O P L v a r)):=by
 obtain⟨W,hW⟩:∃W,W=w.alloc (.cells (Yi v a) 43):=⟨_,rfl⟩;have bW:=(AG hW).1;have zW:=(AG hW).2.1;have xW:=(AG hW).2.2;have HX:Hid (Aa W _ _):=(AG hW).2.2;have HR:=Yx hr;have HW:=Yx hW;have zE:=Yx (QB v.wd W);have zH:=Yx (RH v.ak W);have zK:=Yx (Gl a.sa a.ta a.sc a.tc v.ss v.tt W (hr.s.af bW) (hr.t.af bW) hf.s hf.t hf.ss hf.tt);obtain⟨N,Q,R,U,y4,y5,y6,y7,y8,y9,q,t,x,y,z,A,B⟩:=Fy xW;clear hW xW hr
 by_cases hwd:1<=v.wd/\v.wd<=8
 ·rw[decide_eq_true hwd]at zE;by_cases hlim:0<=v.ak/\v.ak<=1000000
  ·rw[decide_eq_true hlim]at zH;cases hlog:Dc v.ss v.tt with
   |true=>
    rw[hlog]at zK;have yK:=IG hlog;have xA:v.ss.length<=4000:=by rw[List.length_append]at yK;omega
    have xB:v.tt.length<=4000:=by rw[List.length_append]at yK;omega
    have HD:Hid (∀X,Calls prog 93 #[.agg #[.slice a.sa v.ss.length a.sc,.slice a.ta v.tt.length a.tc]] X fun e l=>e=.returned (.agg #[.slice a.sa v.ss.length a.sc,.slice a.ta v.tt.length a.tc])/\Zz X l):=fun X=>Gw a.sa a.ta v.ss.length v.tt.length a.sc a.tc X
    have HP:Hid (∀X,Zz w X->Calls prog 92 #[Zg v.wd,.func (.func 94) #[.agg #[.slice a.sa v.ss.length a.sc,.slice a.ta v.tt.length a.tc]] #[]] X fun e l=>∃p n,e=.returned (.tuple #[p,Zg n])/\Hid (ZZ X l v p n)/\Zz X l):=fun X f=>by
     refine(RG v.wd 94 #[.agg #[.slice a.sa v.ss.length a.sc,.slice a.ta v.tt.length a.tc]] #[] (v.ss++v.tt) X hwd.1 hwd.2 (by omega) (fun s hs=>by rcases List.mem_append.1 hs with h|h;exact hf.ss s h;exact hf.tt s h) (hE.below f) (enters_of func94 (by kernel_rfl) rfl) (fun V hV=>by
      have hb:=f.trans (hV.mono f.size);have h1:=Oz a.sa a.ta a.sc a.tc v.ss v.tt X.heap.size V ((HR.o.s.below hb).mono f.size) ((HR.o.t.below hb).mono f.size) hV.size (by unfold maxLen;omega) (by unfold maxLen;omega);simpa using h1)).mono ?_
     rintro e l ⟨hb,⟨n,zP,rfl⟩|⟨r,d,m,O,P,L,base,G,rfl,BZ,o⟩⟩
     ·exact⟨_,_,rfl,.inl ⟨n,zP,rfl,rfl⟩,hb⟩
     ·exact⟨_,_,rfl,.inr ⟨r,d,m,O,P,L,base,G,rfl,rfl,BZ,o⟩,hb⟩
    clear hE;go_enter func45,ntmps45;go_wp2_with fail;rw[←HW.o];refine Calls.mono zE.o ?_;rintro e w1 ⟨rfl,c⟩;replace c:=c.symm;subst c;go_wp2_with fail;refine Calls.mono zH.o ?_;rintro e w1 ⟨rfl,c⟩;replace c:=c.symm;subst c;go_wp2_with fail;refine Calls.mono zK.o ?_;rintro e w2 ⟨rfl,zI⟩;have x2:=Aa.below HX.o zI;have z2:w.heap.size+1<=w2.heap.size:=by have:=zI.size;omega
    have yH:=Yx x2;have zT:=Yx (bW.trans (zI.mono bW.size));clear N Q R U y4 y5 y6 y7 y8 y9 q t x y z A B zE zH zK zI HW;obtain⟨N,Q,R,U,_⟩:=Fy x2;clear x2;go_upto_region 3 with fail;generalize (.agg (Yi v a):Value)=dv0;go_cut [4,5] (fun p u wx=>∃n:Int,u=Zg n/\Hid (ZZ w wx v p n/\Zz w2 wx))
    case first=>
     go_region_with (first
      |(go_at_call 93;refine(HD.o w2.drew).mono ?_;rintro e w3 ⟨rfl,yQ⟩;have zU:Below w2.heap.size w2 w3:=(Below.refl w2.heap.size w2).drew.trans yQ;obtain⟨u0,u1,u2,u3,_⟩:=Fy (Aa.below yH.o zU);have yJ:=zT.o.trans (zU.mono zT.o.size))
      |(go_at_call 92;refine(HP.o w3 yJ).mono ?_;rintro e w4 ⟨p,n,rfl,yO,yR⟩;have yM:=zU.trans (yR.mono zU.size)))
     all_goals
      go_wp2_with fail;go_meet;refine⟨n,rfl,?_,yM⟩;rcases yO.o with h|⟨r,d,m,O,P,L,base,q1,q2,q3,q4,q5⟩
      ·exact .inl h
      ·exact .inr ⟨r,d,m,O,P,L,base,q1,q2,q3,q4,Zm yJ.size q5.1,q5.2⟩
    case rest=>
     clear N Q R U HD HP;obtain⟨n,rfl,HQ⟩:=hcut;have yI:=Yx (Aa.below yH.o HQ.o.2);have H:=Yx (zT.o.trans (HQ.o.2.mono zT.o.size));rcases HQ.o.1 with⟨k,zP,hp,hn⟩|⟨r,d,m,O,P,L,base,G,hp,hn,BZ,o⟩
     ·subst hp hn;have xC:0<(k:Int):=by obtain⟨j,_,_,rfl,_⟩:=zP;omega
      have yP:0<k:=by omega
      have xD:=decide_eq_true yP;have zM:Hid (¬Ei v):=fun⟨r,h⟩=>Di.not hwd.1 hwd.2 zP h.run;clear zP HQ;go_upto_region 4 with fail
      go_region
      all_goals go_wp2
      all_goals refine bodyPost_ret (v:=.tuple #[.pointer none,.bool false]) (by simp[results,results45,go_sem]) rfl ?_
      all_goals exact⟨H.o.drew,.inl ⟨zM.o,rfl⟩⟩
     ·subst hp hn;have i:=G.ok (FX hwd.1 hwd.2);have zJ:=Yx G;have zY:Hid (∀X,Zz wc X->Dr X base d m O P L v.wd r.now r.given r.ae r.ks r.ps r.ls):=fun X f=>BZ.below f;have zG:=Yx o
      have yB:Hid (∀X,Zz wc X->Calls prog 96 #[Yz d] X fun e l=>∃(E:Zk) (M:Nat) (D:Zk) (J:Nat) (C:Zk) (I:Nat),e=.returned (.agg (Ys v.wd r.now r.given r.ae E r.ks.length M D r.ps.length J C r.ls.length I))/\Bv l l.heap.size E D C r.ks r.ps r.ls/\Zz X l):=fun X f=>by refine(IX base d m O P L v.wd r.now r.given r.ae r.ks r.ps r.ls X (BZ.below f) i.bk.nd i.bk.sz i.bk.len i.np i.nl i.dq).mono ?_;rintro e l ⟨T,P',L',rs,rfl,hS,hb⟩;obtain⟨E,M,D,J,C,I,rfl,rfl,rfl,hg⟩:=hS.rows;exact⟨E,M,D,J,C,I,rfl,hg,hb⟩
      have yA:Hid (∀(X:Zh) (E D C:Zk) (M J I:Nat),Zz w X->Bv X X.heap.size E D C r.ks r.ps r.ls->Calls prog 95 #[.agg (Ys v.wd r.now r.given r.ae E r.ks.length M D r.ps.length J C r.ls.length I),.agg (Ys v.sw v.now v.given v.ae a.ka v.ks.length a.kc a.pa v.ps.length a.pc a.la v.ls.length a.lc)] X fun e l=>Ar ((v.wd=v.sw/\r.now=v.now/\r.given=v.given/\r.ae=v.ae)/\r.ks=v.ks/\r.ps=v.ps/\r.ls=v.ls) X l e):=fun X E D C M J I f hS=>Nc v.wd r.now r.given r.ae v.sw v.now v.given v.ae E D C a.ka a.pa a.la M J I a.kc a.pc a.lc r.ks v.ks r.ps v.ps r.ls v.ls X hS ((HR.o.st.aj f).mono f.size) ⟨by have:=i.bk.len;omega,by have:=i.np;omega,by have:=i.nl;omega⟩ ⟨hf.st.k,hf.st.p,hf.st.l⟩ (fun k hk=>by have:=i.dq k hk;omega) hf.st.r
      have yG:Hid (∀X,Zz w X->Calls prog 97 #[.agg (Yk v.ph a.qa v.qs.length a.qc a.ma v.ms.length a.mc v.ag v.at_ v.ro),Zg v.wd,Zg r.ae] X fun e l=>Ar (AR v.wd r.ae v.ph v.ag v.at_ v.ro v.qs v.ms) X l e):=fun X f=>LI v.ph v.ag v.at_ v.ro v.wd r.ae a.qa a.ma a.qc a.mc v.qs v.ms X (HR.o.q.af f) (HR.o.m.af f) hf.r hwd.2 i.ah;clear G BZ o i HQ
      obtain⟨N,Q,R,U,y4,y5,y6,y7,y8,y9,q,t,x,y,z,A,B⟩:=Fy yI.o;have zX:Hid (∀X,Zz wc X->Aa X w.heap.size (Yh v a)):=fun X f=>Aa.below yI.o f
      have Z:Hid (∀X,Zz wc X->X.cell? (Ze (w.heap.size) 4)=some (Zg v.sw)/\X.cell? (Ze (w.heap.size) 5)=some (Zg v.now)/\X.cell? (Ze (w.heap.size) 6)=some (Zg v.given)/\X.cell? (Ze (w.heap.size) 7)=some (Zg v.ae)/\X.cell? (Ze (w.heap.size) 8)=some (.slice a.ka v.ks.length a.kc)/\X.cell? (Ze (w.heap.size) 9)=some (.slice a.pa v.ps.length a.pc)/\X.cell? (Ze (w.heap.size) 10)=some (.slice a.la v.ls.length a.lc)/\X.cell? (Ze (w.heap.size) 11)=some (Zg v.ph)/\X.cell? (Ze (w.heap.size) 12)=some (.slice a.qa v.qs.length a.qc)/\X.cell? (Ze (w.heap.size) 13)=some (.slice a.ma v.ms.length a.mc)/\X.cell? (Ze (w.heap.size) 14)=some (Zg v.ag)/\X.cell? (Ze (w.heap.size) 15)=some (Zg v.at_)/\X.cell? (Ze (w.heap.size) 16)=some (Zg v.ro)/\X.cell? (Ze d 0)=some (Zg v.wd)/\X.cell? (Ze d 4)=some (Zg r.ae)):=fun X f=>by
       obtain⟨n0,n1,n2,n3,n4,n5,n6,n7,n8,n9,yS,yT,yU,yV,yW,yX,yY⟩:=Fy (zX.o X f);exact⟨n4,n5,n6,n7,n8,n9,yS,yT,yU,yV,yW,yX,yY,((zY.o X f).box 0 _ rfl).1,((zY.o X f).box 4 _ rfl).1⟩
      have HL:Hid (∀X,Zz wc X->Zz w X):=fun X f=>H.o.trans (f.mono H.o.size);have D0:Below wc.heap.size wc wc.drew:=(Below.refl _ _).drew;by_cases hP:(v.wd=v.sw/\r.now=v.now/\r.given=v.given/\r.ae=v.ae)/\r.ks=v.ks/\r.ps=v.ps/\r.ls=v.ls
      ·by_cases hQ:AR v.wd r.ae v.ph v.ag v.at_ v.ro v.qs v.ms
       ·have yL:Hid (CM v r):=⟨hwd,hlim,hlog,zJ.o,hP,hP.1.2.2.2▸hQ⟩;have zN:=Yx hP;have zZ:=Yx hQ;clear hP hQ;go_upto_region 4 with fail;generalize (.agg (Yi v a):Value)=dv0;go_cut [56] (fun u wx=>u=.bool false/\Hid (Zz wc wx))
        case first=>
         clear N Q R U y4 y5 y6 y7 y8 y9 q t x y z A B
         go_region_held3 (fun X=>X.cell? (Ze (w.heap.size) 4)=some (Zg v.sw)/\X.cell? (Ze (w.heap.size) 5)=some (Zg v.now)/\X.cell? (Ze (w.heap.size) 6)=some (Zg v.given)/\X.cell? (Ze (w.heap.size) 7)=some (Zg v.ae)/\X.cell? (Ze (w.heap.size) 8)=some (.slice a.ka v.ks.length a.kc)/\X.cell? (Ze (w.heap.size) 9)=some (.slice a.pa v.ps.length a.pc)/\X.cell? (Ze (w.heap.size) 10)=some (.slice a.la v.ls.length a.lc)/\X.cell? (Ze (w.heap.size) 11)=some (Zg v.ph)/\X.cell? (Ze (w.heap.size) 12)=some (.slice a.qa v.qs.length a.qc)/\X.cell? (Ze (w.heap.size) 13)=some (.slice a.ma v.ms.length a.mc)/\X.cell? (Ze (w.heap.size) 14)=some (Zg v.ag)/\X.cell? (Ze (w.heap.size) 15)=some (Zg v.at_)/\X.cell? (Ze (w.heap.size) 16)=some (Zg v.ro)/\X.cell? (Ze d 0)=some (Zg v.wd)/\X.cell? (Ze d 4)=some (Zg r.ae))
          (first
            |with_reducible exact Z.o _ D0
            |with_reducible exact Z.o _ F
            |with_reducible exact Z.o _ Y
            |with_reducible exact Z.o _ B7)
          (first
            |(go_at_call 96;refine Calls.mono (yB.o wc.drew D0) ?_;rintro e w5 ⟨E,M,D,J,C,I,rfl,zA,zR⟩;have F:Below wc.heap.size wc w5:=D0.trans zR)
            |(go_at_call 95;refine Calls.mono (yA.o w5 E D C M J I (HL.o _ F) zA) ?_;rintro e w6 ⟨bb,rfl,zB,zS⟩;have Y:=F.trans (zS.mono F.size);clear zA;obtain rfl:bb=true:=zB.2 zN.o;clear zB)
            |(go_at_call 97;refine Calls.mono (yG.o w6 (HL.o _ Y)) ?_;rintro e w7 ⟨cc,rfl,zO,yD⟩;have B7:=Y.trans (yD.mono Y.size);obtain rfl:cc=true:=zO.2 zZ.o;clear zO))
         all_goals (go_wp2_with fail;go_meet;exact⟨rfl,B7⟩)
        case rest=>
         clear N Q R U y4 y5 y6 y7 y8 y9 q t x y z A B;obtain⟨rfl,zC⟩:=hcut;have zF:Below w.heap.size w _:=H.o.trans (zC.o.mono H.o.size);have yE:=Yx ((zX.o _ zC.o).range);have yF:=Yx (zY.o _ zC.o);go_wp2_with (refine wpList_load_mid rfl 43 _ rfl w.heap.size 0 rfl (Yh v a) _ yE.o underlying43 rfl (by kernel_rfl) ?_)
         refine bodyPost_ret (v:=.tuple #[Yz wc.heap.size,.bool true]) (by simp[results,results45,go_sem]) rfl ?_
         refine⟨zF.alloc zF.size _,.inr ⟨r,_,d,m,O,P,L,base,yL.o,rfl,Aa.new _ [.int .i32 0,.int .u32 0,Zg v.wd,Zg v.ak,.slice a.sa v.ss.length a.sc,.slice a.ta v.tt.length a.tc,Zg v.sw,Zg v.now,Zg v.given,Zg v.ae,.slice a.ka v.ks.length a.kc,.slice a.pa v.ps.length a.pc,.slice a.la v.ls.length a.lc,Zg v.ph,.slice a.qa v.qs.length a.qc,.slice a.ma v.ms.length a.mc,Zg v.ag,Zg v.at_,Zg v.ro,Yz d] 166,(yF.o).below (Zy),zG.o.1,zF.size,fun b hb=>yF.o.cg b hb,zG.o.2,_,heap_alloc_new _ _⟩⟩
       ·have zM:Hid (¬Ei v):=fun⟨r',h⟩=>by obtain rfl:=zJ.o.cz h.run;exact hQ (by rw[hP.1.2.2.2];exact h.round)
        have zN:=Yx hP;have zZ:=Yx hQ;clear hP hQ;go_upto_region 4 with fail;generalize (.agg (Yi v a):Value)=dv0;go_cut [56] (fun u wx=>u=.bool true/\Hid (Zz wc wx))
        case first=>
         clear N Q R U y4 y5 y6 y7 y8 y9 q t x y z A B
         go_region_held3 (fun X=>X.cell? (Ze (w.heap.size) 4)=some (Zg v.sw)/\X.cell? (Ze (w.heap.size) 5)=some (Zg v.now)/\X.cell? (Ze (w.heap.size) 6)=some (Zg v.given)/\X.cell? (Ze (w.heap.size) 7)=some (Zg v.ae)/\X.cell? (Ze (w.heap.size) 8)=some (.slice a.ka v.ks.length a.kc)/\X.cell? (Ze (w.heap.size) 9)=some (.slice a.pa v.ps.length a.pc)/\X.cell? (Ze (w.heap.size) 10)=some (.slice a.la v.ls.length a.lc)/\X.cell? (Ze (w.heap.size) 11)=some (Zg v.ph)/\X.cell? (Ze (w.heap.size) 12)=some (.slice a.qa v.qs.length a.qc)/\X.cell? (Ze (w.heap.size) 13)=some (.slice a.ma v.ms.length a.mc)/\X.cell? (Ze (w.heap.size) 14)=some (Zg v.ag)/\X.cell? (Ze (w.heap.size) 15)=some (Zg v.at_)/\X.cell? (Ze (w.heap.size) 16)=some (Zg v.ro)/\X.cell? (Ze d 0)=some (Zg v.wd)/\X.cell? (Ze d 4)=some (Zg r.ae))
          (first
            |with_reducible exact Z.o _ D0
            |with_reducible exact Z.o _ F
            |with_reducible exact Z.o _ Y
            |with_reducible exact Z.o _ B7)
          (first
            |(go_at_call 96;refine Calls.mono (yB.o wc.drew D0) ?_;rintro e w5 ⟨E,M,D,J,C,I,rfl,zA,zR⟩;have F:Below wc.heap.size wc w5:=D0.trans zR)
            |(go_at_call 95;refine Calls.mono (yA.o w5 E D C M J I (HL.o _ F) zA) ?_;rintro e w6 ⟨bb,rfl,zB,zS⟩;have Y:=F.trans (zS.mono F.size);clear zA;obtain rfl:bb=true:=zB.2 zN.o;clear zB)
            |(go_at_call 97;refine Calls.mono (yG.o w6 (HL.o _ Y)) ?_;rintro e w7 ⟨cc,rfl,zO,yD⟩;have B7:=Y.trans (yD.mono Y.size);obtain rfl:cc=false:=(by cases cc with|false=>rfl|true=>exact absurd (zO.1 rfl) zZ.o);clear zO))
         all_goals (go_wp2_with fail;go_meet;exact⟨rfl,B7⟩)
        case rest=>
         clear N Q R U y4 y5 y6 y7 y8 y9 q t x y z A B;obtain⟨rfl,zC⟩:=hcut;have zF:Below w.heap.size w _:=H.o.trans (zC.o.mono H.o.size);go_wp2;refine bodyPost_ret (v:=.tuple #[.pointer none,.bool false]) (by simp[results,results45,go_sem]) rfl ?_;exact⟨zF,.inl ⟨zM.o,rfl⟩⟩
      ·have zM:Hid (¬Ei v):=fun⟨r',h⟩=>by obtain rfl:=zJ.o.cz h.run;exact hP h.same
       have zN:=Yx hP;clear hP;go_upto_region 4 with fail;generalize (.agg (Yi v a):Value)=dv0;go_cut [56] (fun u wx=>u=.bool true/\Hid (Zz wc wx))
       case first=>
        clear N Q R U y4 y5 y6 y7 y8 y9 q t x y z A B
        have yC:Hid (∀X,Zz wc X->X.rangeAt w.heap.size 4 (Yt v.sw v.now v.given v.ae a.ka v.ks.length a.kc a.pa v.ps.length a.pc a.la v.ls.length a.lc)):=fun X f=>Aa.fp [Zg v.wd,Zg v.ak,.slice a.sa v.ss.length a.sc,.slice a.ta v.tt.length a.tc] (Yt v.sw v.now v.given v.ae a.ka v.ks.length a.kc a.pa v.ps.length a.pc a.la v.ls.length a.lc) (Yg v.ph a.qa v.qs.length a.qc a.ma v.ms.length a.mc v.ag v.at_ v.ro) (zX.o X f)
        refine wp_region_held_drew (S:=fun X=>X.rangeAt w.heap.size 4 (Yt v.sw v.now v.given v.ae a.ka v.ks.length a.kc a.pa v.ps.length a.pc a.la v.ls.length a.lc)) (by kernel_rfl) (yC.o _ D0) (fun hS=> ?_);refine Bq 0 ⟨some 32,.move (.tmp 5),3, "l7_vault.go:191",#[],none⟩ Zf (by exact hS) ?_;try simp only[Act.put,Zq,Zp,Zo]
        refine Bq 1 ⟨some 33,.binOp .gtr 3 (.tmp 32) (.const Zf) 3,4, "l7_vault.go:191",#[Al 0],none⟩ (.bool false) (by exact hS) ?_;try simp only[Act.put,Zq,Zp,Zo]
        refine Bq 2 ⟨some 34,.move (.tmp 33),4, "l7_vault.go:191",#[Al 1],none⟩ (.bool false) (by exact hS) ?_;try simp only[Act.put,Zq,Zp,Zo]
        refine Bq 3 ⟨some 35,.move (.tmp 4),141, "l7_vault.go:191",#[⟨2,.guard⟩],some (2,false)⟩ (Yz d) (by exact hS) ?_;try simp only[Act.put,Zq,Zp,Zo]
        refine Bq 5 ⟨some 37,.fieldAddr 43 (.tmp 1) 3,0, "l7_vault.go:191",#[⟨2,.guard⟩],some (2,false)⟩ (Yy w.heap.size 4) (by exact hS) ?_;try simp only[Act.put,Zq,Zp,Zo]
        refine Et 6 ⟨some 38,.load 40 (.tmp 37),40, "l7_vault.go:191",#[Al 5,⟨2,.guard⟩],some (2,false)⟩ (.agg (Ys v.sw v.now v.given v.ae a.ka v.ks.length a.kc a.pa v.ps.length a.pc a.la v.ls.length a.lc)) (by exact yieldsIf_load_mid (by rfl) 40 _ rfl w.heap.size 4 rfl (Yt v.sw v.now v.given v.ae a.ka v.ks.length a.kc a.pa v.ps.length a.pc a.la v.ls.length a.lc) _ (fun X h=>h) underlying40 rfl (by kernel_rfl)) (by exact hS) ?_
        try simp only[Act.put,Zq,Zp,Zo]
        refine Br 4 ⟨some 36,.call {callee:=Callee.value (.func 96),args:= #[.tmp 35],argTypes:= #[141]},40, "l7_vault.go:191",#[Al 3,⟨2,.chain⟩,⟨2,.guard⟩],some (2,false)⟩ (fun K hK=> ?_);go_simp;refine Calls.mono (yB.o wc.drew D0) ?_;rintro e w5 ⟨E,M,D,J,C,I,rfl,zA,zR⟩;have F:=D0.trans zR;try go_simp
        refine hK.out _ _ (yC.o w5 F) (fun yZ=> ?_);clear hK K;refine Br 7 ⟨some 39,.call {callee:=Callee.value (.func 95),args:= #[.tmp 36,.tmp 38],argTypes:= #[40,40]},4, "l7_vault.go:191",#[Al 4,Al 6,⟨4,.chain⟩,⟨2,.guard⟩],some (2,false)⟩ (fun K hK=> ?_);go_simp;refine Calls.mono (yA.o w5 E D C M J I (HL.o _ F) zA) ?_;rintro e w6 ⟨bb,rfl,zB,zS⟩;have Y:=F.trans (zS.mono F.size)
        obtain rfl:bb=false:=(by cases bb with|false=>rfl|true=>exact absurd (zB.1 rfl) zN.o);clear zB zA;try go_simp
        refine hK.out _ _ (yC.o w6 Y) (fun g=> ?_);clear hK K;refine Bq 8 ⟨some 40,.unOp .not 4 (.tmp 39),4, "l7_vault.go:191",#[Al 7,⟨2,.guard⟩],some (2,false)⟩ (.bool true) (by exact g) ?_;try simp only[Act.put,Zq,Zp,Zo]
        refine Bq 9 ⟨some 41,.pick (.tmp 34) (.const (.bool true)) (.tmp 40),4, "l7_vault.go:191",#[Al 2,Al 8],none⟩ (.bool true) (by exact g) ?_;try simp only[Act.put,Zq,Zp,Zo]
        refine Bq 10 ⟨some 42,.move (.tmp 41),4, "l7_vault.go:191",#[Al 9,⟨7,.chain⟩],none⟩ (.bool true) (by exact g) ?_;try simp only[Act.put,Zq,Zp,Zo]
        refine DV 11 ⟨some 43,.fieldAddr 43 (.tmp 1) 4,0, "l7_vault.go:191",#[⟨10,.guard⟩],some (10,false)⟩ (by exact g) ?_;try simp only[Act.put,Zq,Zp,Zo]
        refine DV 12 ⟨some 44,.load 41 (.tmp 43),41, "l7_vault.go:191",#[Al 11,⟨10,.guard⟩],some (10,false)⟩ (by exact g) ?_;try simp only[Act.put,Zq,Zp,Zo]
        refine DV 13 ⟨some 45,.move (.tmp 4),141, "l7_vault.go:191",#[⟨10,.guard⟩],some (10,false)⟩ (by exact g) ?_;try simp only[Act.put,Zq,Zp,Zo]
        refine DV 14 ⟨some 46,.nilCheck (.tmp 45),0, "l7_vault.go:191",#[Al 13,⟨10,.guard⟩],some (10,false)⟩ (by exact g) ?_;try simp only[Act.put,Zq,Zp,Zo]
        refine DV 15 ⟨some 47,.fieldAddr 157 (.tmp 46) 0,0, "l7_vault.go:191",#[Al 14,⟨10,.guard⟩],some (10,false)⟩ (by exact g) ?_;try simp only[Act.put,Zq,Zp,Zo]
        refine DV 16 ⟨some 48,.fieldAddr 154 (.tmp 47) 0,0, "l7_vault.go:191",#[Al 15,⟨10,.guard⟩],some (10,false)⟩ (by exact g) ?_;try simp only[Act.put,Zq,Zp,Zo]
        refine DV 17 ⟨some 49,.load 3 (.tmp 48),3, "l7_vault.go:191",#[Al 16,⟨10,.guard⟩],some (10,false)⟩ (by exact g) ?_;try simp only[Act.put,Zq,Zp,Zo]
        refine DV 18 ⟨some 50,.move (.tmp 4),141, "l7_vault.go:191",#[⟨10,.guard⟩],some (10,false)⟩ (by exact g) ?_;try simp only[Act.put,Zq,Zp,Zo]
        refine DV 19 ⟨some 51,.nilCheck (.tmp 50),0, "l7_vault.go:191",#[Al 18,⟨10,.guard⟩],some (10,false)⟩ (by exact g) ?_;try simp only[Act.put,Zq,Zp,Zo]
        refine DV 20 ⟨some 52,.fieldAddr 157 (.tmp 51) 3,0, "l7_vault.go:191",#[Al 19,⟨10,.guard⟩],some (10,false)⟩ (by exact g) ?_;try simp only[Act.put,Zq,Zp,Zo]
        refine DV 21 ⟨some 53,.load 3 (.tmp 52),3, "l7_vault.go:191",#[Al 20,⟨10,.guard⟩],some (10,false)⟩ (by exact g) ?_;try simp only[Act.put,Zq,Zp,Zo]
        refine DV 22 ⟨some 54,.call {callee:=Callee.value (.func 97),args:= #[.tmp 44,.tmp 49,.tmp 53],argTypes:= #[41,3,3]},4, "l7_vault.go:191",#[Al 12,Al 17,Al 21,⟨10,.chain⟩,⟨10,.guard⟩],some (10,false)⟩ (by exact g) ?_;try simp only[Act.put,Zq,Zp,Zo]
        refine DV 23 ⟨some 55,.unOp .not 4 (.tmp 54),4, "l7_vault.go:191",#[Al 22,⟨10,.guard⟩],some (10,false)⟩ (by exact g) ?_;try simp only[Act.put,Zq,Zp,Zo]
        refine Bq 24 ⟨some 56,.pick (.tmp 42) (.const (.bool true)) (.tmp 55),4, "l7_vault.go:191",#[Al 10,Al 23],none⟩ (.bool true) (by exact g) ?_;try simp only[Act.put,Zq,Zp,Zo]
        refine wpAnyH_done (by kernel_rfl) ?_ _;go_wp2_with fail;go_meet;exact⟨rfl,Y⟩
       case rest=>
        clear N Q R U y4 y5 y6 y7 y8 y9 q t x y z A B;obtain⟨rfl,zC⟩:=hcut;have zF:Below w.heap.size w _:=H.o.trans (zC.o.mono H.o.size);go_wp2;refine bodyPost_ret (v:=.tuple #[.pointer none,.bool false]) (by simp[results,results45,go_sem]) rfl ?_;exact⟨zF,.inl ⟨zM.o,rfl⟩⟩
   |false=>
    rw[hlog]at zK;have zV:Dc v.ss v.tt=true->False:=fun h=>by rw[hlog]at h;cases h
    go_enter func45,ntmps45;go_wp2_with fail;rw[←HW.o];refine Calls.mono zE.o ?_;rintro e w1 ⟨rfl,c⟩;replace c:=c.symm;subst c;go_wp2_with fail;refine Calls.mono zH.o ?_;rintro e w1 ⟨rfl,c⟩;replace c:=c.symm;subst c;go_wp2_with fail;refine Calls.mono zK.o ?_;rintro e w2 ⟨rfl,zI⟩;have yN:=bW.trans (zI.mono bW.size);clear N Q R U y4 y5 y6 y7 y8 y9 q t x y z A B;go_wp2
    refine bodyPost_ret (v:=.tuple #[.pointer none,.bool false]) (by simp[results,results45,go_sem]) rfl ?_;exact⟨yN,.inl ⟨fun⟨r,h⟩=>zV h.log,rfl⟩⟩
  ·rw[decide_eq_false hlim]at zH;go_enter func45,ntmps45;go_wp2_with fail;rw[←HW.o];refine Calls.mono zE.o ?_;rintro e w1 ⟨rfl,c⟩;replace c:=c.symm;subst c;go_wp2_with fail;refine Calls.mono zH.o ?_;rintro e w1 ⟨rfl,c⟩;replace c:=c.symm;subst c;clear N Q R U y4 y5 y6 y7 y8 y9 q t x y z A B;go_wp2
   refine bodyPost_ret (v:=.tuple #[.pointer none,.bool false]) (by simp[results,results45,go_sem]) rfl ?_;exact⟨bW,.inl ⟨fun⟨r,h⟩=>hlim h.ak,rfl⟩⟩
 ·rw[decide_eq_false hwd]at zE;go_enter func45,ntmps45;go_wp2_with fail;rw[←HW.o];refine Calls.mono zE.o ?_;rintro e w1 ⟨rfl,c⟩;replace c:=c.symm;subst c;clear N Q R U y4 y5 y6 y7 y8 y9 q t x y z A B;go_wp2;refine bodyPost_ret (v:=.tuple #[.pointer none,.bool false]) (by simp[results,results45,go_sem]) rfl ?_;exact⟨bW,.inl ⟨fun⟨r,h⟩=>hwd h.wd,rfl⟩⟩
def v0:Vd:=⟨0,0,[],[],0,0,0,0,[],[],[],0,[],[],0,0,0⟩
def RJ(wd ak:Int)(ss tt:Zl)(r:Rs):Vd:=⟨wd,ak,ss,tt,wd,r.now,r.given,r.ae,r.ks,r.ps,r.ls,0,[],[],0,0,0⟩
def TJ(wd ak:Int)(ss tt:Zl)(c:Int)(v:Vd):Prop:=
 (¬((1<=wd/\wd<=8)/\(0<=ak/\ak<=1000000)/\Dc ss tt=true)/\c=1/\v=v0)∨
 (((1<=wd/\wd<=8)/\(0<=ak/\ak<=1000000)/\Dc ss tt=true)/\(((∃n,Di wd (ss++tt) n)/\c=2/\v=v0)∨(∃r,Da wd r0 (ss++tt) r/\c=0/\v=RJ wd ak ss tt r)))
theorem TJ.cz{f ak:Int}{b d:Zl}{c a:Int}{v e:Vd}(h:TJ f ak b d c v)(k:TJ f ak b d a e):c=a/\v=e:=by
 rcases h with⟨i,rfl,rfl⟩|⟨g,h⟩<;>rcases k with⟨k1,rfl,rfl⟩|⟨g',k⟩
 ·exact⟨rfl,rfl⟩
 ·exact absurd g' i
 ·exact absurd g k1
 ·rcases h with⟨⟨n,h⟩,rfl,rfl⟩|⟨r,h,rfl,rfl⟩<;>rcases k with⟨⟨m,k⟩,rfl,rfl⟩|⟨q,k,rfl,rfl⟩
  ·exact⟨rfl,rfl⟩
  ·exact absurd k (h.not g.1.1 g.1.2)
  ·exact absurd h (k.not g.1.1 g.1.2)
  ·obtain rfl:=h.cz k;exact⟨rfl,rfl⟩
theorem AL.nil(w:Zh)(base:Nat):AL w base Zc Zc Zc Zc Zc Zc Zc [] v0:=
 ⟨Ao.nil _ _,Ao.nil _ _,⟨rfl,⟨rfl,.inl ⟨rfl,rfl⟩⟩,(fun i k r h=>by cases i<;>cases h),⟨rfl,.inl ⟨rfl,rfl⟩⟩,⟨rfl,.inl ⟨rfl,rfl⟩⟩,List.nodup_nil⟩,Ao.nil _ _,Ao.nil _ _,List.nodup_nil⟩
structure Aag (ss tt:Zl):Prop where
 s:ss.length<=1048576
 t:tt.length<=1048576
 ss:∀s∈ss,s.size<=1048576
 tt:∀s∈tt,s.size<=1048576
theorem Ao.ft{w:Zh}{base n c:Nat}{a:Zk}{b:Zl}(h:Ao w base (.slice a n c) b):Ad w w.heap.size a b:=by obtain⟨f,g,e,d⟩:=h.row;cases e;exact d
section
attribute [local go_sem] Oper.semAt_some
theorem ET.below{P:Program}{gf:Nat}{a:Nat->Array Value}{xs:Zl}{n0:Nat}{w c:Zh}(h:ET P gf a xs n0 w)(b:Zz w c):ET P gf a xs n0 c:=
 fun l J d W e=>h l J d W (b.trans (e.mono b.size))
theorem RK(B base b:Nat)(t:TypeId)(k:Nat->Nat)(f:Nat->Zj)(m:b<B):Ce B (fun n W=>∃v,Boxed W b t v/\W.ownsRow base 9 1 v (k n) (f n)):=by
 rintro n W p row ⟨v,l,h⟩ d a;refine⟨v,l.kept d (fun e=>by have:=(a b e.symm).1;omega),h.kept d ?_⟩;cases hb:v.ownBlock with
 |none=>exact .inl rfl
 |some r=>refine .inr fun e=> ?_;obtain⟨c,q,i⟩:=Lib.ownsRow_kind h r hb;obtain⟨_,o,g,j⟩:=a r e.symm;rw[i]at g;cases g;simp[Bj]at j
theorem Nd(gf:Nat)(recv:Value)(J:∀args w,(callFunc gf args).run prog w=.ok (.enter gf args) w)(xs:Zl)(n0:Nat)(w:Zh)
 (r:ET prog gf (fun l=> #[recv,.func (.yield l) #[] #[]]) xs n0 w) (C:n0<=w.heap.size) (Z:xs.length<=2097152):
 Calls prog 180 #[Zc,.func (.func gf) #[recv] #[]] w fun e A=>∃v,e=.returned v/\A.ownsRow w.heap.size 9 1 v xs.length (xs.map Value.string)/\Zz w A:=by
 obtain⟨O,z,F,G,H⟩:=info_parts CK;refine(callsIn_wide (n:=3)).1 ?_;refine callsIn_of_wp_marks func180 rfl trivial ?_ rfl;simp only[ntmps180,List.size_toArray,List.length_cons,List.length_nil,Nat.reduceAdd,Nat.reduceSub,Array.replicate_succ,Array.replicate_zero,List.push_toArray,List.append_toArray,List.nil_append,List.cons_append]
 gi_wp2_with fail
 have I:=Boxed.new w 22 Zc;have t:Below w.heap.size w (w.alloc (.cells #[Zc] 22)):=(Below.refl _ w).alloc (Zx) _;refine Ha (gf:=gf) (pre:= #[recv]) (lb:= #[]) rfl J (xs:=xs) (n0:=n0) (by simpa using r.below t) (by simp;omega) rfl
  (fun k V=>(∃v,Boxed V w.heap.size 22 v/\V.ownsRow w.heap.size 9 1 v (xs.take k).length ((xs.take k).map Value.string))/\Zz w V)
  (fun _ _=>False)
  ((RK _ _ _ _ (fun k=>(xs.take k).length) (fun k=>(xs.take k).map Value.string) (by simp)).and (DC w (Zx) (by simp)))
  (fun _ _ _ _ h _ _=>h)
  ⟨⟨_,I,World.ownsRow_nil _ _ _ _⟩,t⟩ (fun s=>{tmps:= #[Zc,.func (.func gf) #[recv] #[],Yz w.heap.size,undef,Zc,.string s,.func (.func gf) #[recv] #[],.string s,undef,undef,undef,undef,undef],defers:=[]}) ?assign ?body ?done ?stop
 case assign=>
  intro P Q s V K j
  gi_wp2
  exact j
 case body=>
  rintro P Q k s W g ⟨⟨v,p,b⟩,f⟩ X;have y:=p.cell;have u:(xs.take k).length=k:=by have:=(Zw g).1;simp;omega
  have U:k<xs.length:=(Zw g).1;have E:(xs.take (k+1))=xs.take k++[s]:=by obtain⟨B,rfl⟩:=Zw g;exact Zu B
  gi_wp2_with (gi_at_builtin;refine wpListIn_append_own _ rfl _ _ 22 rfl w.heap.size 9 O Zd 1 16 underlying22 z F G H rfl (by decide) _ _ _ rfl (b.alloc _) ⟨W.heap.size,0,none⟩ 1 1 [.string s] rfl rfl (cell_one_new _ _ _) (by simp[Value.oneCell']) (by unfold maxLen;omega) (by omega) (by have:=f.size;simp;omega) ?_;intro v' R d a _;obtain⟨g',cap',rfl⟩:=ownsRow_succ d;obtain⟨hv1,hv2,hr2,hk2,hb2⟩:=p.appended (by decide) b f.size (Zx) d a;have S:=hv1.cell;have T:=hv1.frozen)
  rw[u]at hv2 hr2 hb2;refine⟨⟨Zm (Zm (by simp) a.size) (by simp),fun q o N m M=> ?_⟩,⟨⟨_,hv2,?_⟩,f.trans hb2⟩,hb2.mono C⟩
  ·simp at N;have x:q<W.heap.size:=(Array.getElem?_eq_some_iff.1 m).1;refine((grownBy_setCell' R w.heap.size _).block q (Zr x (Zm (by simp) a.size)) (fun e=>by cases e;omega)).trans ?_;refine(a.block q (by simp;omega) (fun e=> ?_)).trans ((Below.heap_alloc W _ q x).trans m);obtain⟨c,Y,y⟩:=Lib.ownsRow_kind b q e.symm;rw[y]at m;cases m;simp[Bj]at M
  ·rw[E];simpa [u]using hr2
 case done=>
  rintro D W L ⟨⟨v,p,b⟩,f⟩ j;have y:=p.cell
  gi_wp2
  refine⟨by simp,.inl ⟨_,_,rfl,run_takeDeferred j,?_⟩⟩;rw[Zt (Zx)]at b;exact⟨_,results_tmp rfl _ _ _,v,rfl,ownsRow_putObj b _ j rfl,f.trans ⟨rfl,rfl,rfl,by simp,fun i z=>World.putObj_heap_other (by simp at L;omega)⟩⟩
 case stop=>
  rintro D k W _ h _;exact h.elim
end
theorem JY(a:Nat)(recv:Value)(i:∀args w,(callFunc a args).run prog w=.ok (.enter a args) w)(b:Zl)(f:Nat)(w:Zh)
 (d:ET prog a (fun l=> #[recv,.func (.yield l) #[] #[]]) b f w) (h:f<=w.heap.size) (k:b.length<=2097152):
 Calls prog 147 #[.func (.func a) #[recv] #[]] w fun e g=>∃v,e=.returned v/\g.ownsRow w.heap.size 9 1 v b.length (b.map Value.string)/\Zz w g:=by
 go_enter func147,ntmps147;go_wp2_with fail;refine(Nd a recv i b f w d h k).mono ?_;rintro e m ⟨v,rfl,c,j⟩;go_wp2;go_ret;exact⟨v,rfl,c,j⟩
theorem OB:Cr v0:=⟨by simp[v0],by simp[v0],by simp[v0],by simp[v0],⟨by simp[v0],by simp[v0],by simp[v0],by simp[v0]⟩,⟨by simp[v0],by simp[v0]⟩,by simp[v0,AF]⟩
theorem TJ.fit{l ak:Int}{e f:Zl}{c:Int}{v:Vd}(h:TJ l ak e f c v)(a:Aag e f):Cr v:=by
 rcases h with⟨_,_,rfl⟩|⟨g,⟨_,_,rfl⟩|⟨r,j,_,rfl⟩⟩
 ·exact OB
 ·exact OB
 ·have b:=j.ok (FX g.1.1 g.1.2);have m:=b.bk.len;have n:=b.np;have o:=b.nl;have d:=b.dq;have p:=Ov d;exact⟨a.s,a.t,a.ss,a.tt,⟨by show r.ks.length<=_;omega,fun k i=>by have:=d k i;omega,by show r.ps.length<=_;omega,by show r.ls.length<=_;omega⟩,⟨by simp[RJ],by simp[RJ]⟩,by show AF r.ks<=_;omega⟩
structure Ed where
 kd:Int
 s:Zi
 nm:Zi
 num:Int
 tx:Zi
 rf:Zl
def Ed.ok(e:Ed)(wd:Int):Bool:=Cg e.kd e.s e.nm e.num e.tx e.rf wd
def Ed.bt(e:Ed)(wd:Int):Zi:=Cv e.kd e.s e.nm e.num e.tx e.rf wd
def Ed.no(e:Ed)(v:Vd)(c:Int)(a b:Zi):Prop:=Fu v.wd v.now v.given v.ae v.ks v.ps v.ls e.kd e.s e.nm e.num e.tx e.rf c a b
def Ed.yes(e:Ed)(v:Vd)(r:Rs):Prop:=DP v.wd v.now v.given v.ae v.ks v.ps v.ls e.kd e.s e.nm e.num e.tx e.rf r
def Ed.fw(e:Ed)(v:Vd)(r:Rs):Bool:=decide (e.kd=1)&&decide (v.ak<ZL v.wd r.ks)
def Ed.gw(e:Ed)(v:Vd)(r:Rs):Prop:=e.fw v r=true
def Ed.held(e:Ed)(r:Rs):Zi:=if e.kd=1 then r.sm else e.s
structure Dd where
 c:Int
 v:Vd
 s:Zi
 n:Int
 a:Zi
 b:Zi
def Fz(c:Int)(v:Vd)(a b:Zi):Dd:=⟨c,v,⟨#[]⟩,0,a,b⟩
noncomputable def doV (v:Vd) (e:Ed) (r:Rs):Vd:={v with tt:=v.tt++[e.bt v.wd],now:=r.now,given:=r.given,ae:=r.ae,ks:=r.ks,ps:=r.ps,ls:=r.ls,qs:=shQ v.ph r.ks v.qs v.ms (e.held r)}
noncomputable def dyes (v:Vd) (e:Ed) (r:Rs):Dd:=⟨0,doV v e r,r.sm,r.le,⟨#[]⟩,⟨#[]⟩⟩
def Hb(v:Vd)(e:Ed)(c:Int)(a b:Zi):Prop:=
 (e.ok v.wd=false/\c=1/\a=⟨#[]⟩/\b=⟨#[]⟩)∨(e.ok v.wd=true/\(e.no v c a b∨(a=⟨#[]⟩/\b=⟨#[]⟩/\∃r,e.yes v r/\((e.gw v r/\c=8)∨(¬e.gw v r/\v.ss.length+v.tt.length=4000/\c=9)))))
def Jt(v:Vd)(e:Ed)(r:Rs):Prop:=e.ok v.wd=true/\e.yes v r/\¬e.gw v r/\¬v.ss.length+v.tt.length=4000
def Hu(v:Vd)(e:Ed)(d:Dd):Prop:=(¬Ei v/\d=Fz 1 v0 ⟨#[]⟩ ⟨#[]⟩)∨(Ei v/\((∃c a b,Hb v e c a b/\d=Fz c v a b)∨∃r,Jt v e r/\d=dyes v e r))
theorem CM.dw{v:Vd}{r:Rs}(h:CM v r):FB v.wd v.now v.given v.ae v.ks v.ps v.ls:=by have a:FB v.wd r.now r.given r.ae r.ks r.ps r.ls:=h.run.ok (FX h.wd.1 h.wd.2);obtain⟨⟨_,b,c,d⟩,e,f,g⟩:=h.same;rw[b,c,d,e,f,g]at a;exact a
theorem Hb.code{v:Vd}{e:Ed}{c:Int}{a b:Zi}(h:Hb v e c a b):c≠0:=by
 rcases h with⟨_,h,_⟩|⟨_,h|⟨_,_,r,_,⟨_,h⟩|⟨_,_,h⟩⟩⟩
 ·omega
 ·have:=Fu.code h;omega
 ·omega
 ·omega
theorem Hb.cz{v:Vd}{r:Rs}(m:CM v r){e:Ed}{c j:Int}{a b g i:Zi}(h:Hb v e c a b)(k:Hb v e j g i):c=j/\a=g/\b=i:=by
 have f:=m.dw.bk.nd;rcases h with⟨d,rfl,rfl,rfl⟩|⟨d,h|⟨rfl,rfl,n,l,h⟩⟩<;>rcases k with⟨k1,rfl,rfl,rfl⟩|⟨k1,k|⟨rfl,rfl,r2,ky,k⟩⟩
 ·exact⟨rfl,rfl,rfl⟩
 ·rw[d]at k1;cases k1
 ·rw[d]at k1;cases k1
 ·rw[d]at k1;cases k1
 ·exact Fu.cz f h k
 ·exact(Fu.not f h ky).elim
 ·rw[d]at k1;cases k1
 ·exact(Fu.not f k l).elim
 ·obtain rfl:=DP.cz l ky;rcases h with⟨h,rfl⟩|⟨h,_,rfl⟩<;>rcases k with⟨k,rfl⟩|⟨k,_,rfl⟩
  ·exact⟨rfl,rfl,rfl⟩
  ·exact absurd h k
  ·exact absurd k h
  ·exact⟨rfl,rfl,rfl⟩
theorem Hb.not{v:Vd}{r:Rs}(g:CM v r){e:Ed}{c:Int}{a b:Zi}(h:Hb v e c a b){n:Rs}(k:Jt v e n):False:=by
 obtain⟨d,f,l,m⟩:=k;rcases h with⟨i,_⟩|⟨_,h|⟨_,_,o,j,h⟩⟩
 ·rw[i]at d;cases d
 ·exact Fu.not g.dw.bk.nd h f
 ·obtain rfl:=DP.cz j f;rcases h with⟨h,_⟩|⟨_,h,_⟩
  ·exact l h
  ·exact m h
theorem Hu.cz{v:Vd}{e:Ed}{d g:Dd}(h:Hu v e d)(k:Hu v e g):d=g:=by
 rcases h with⟨h,rfl⟩|⟨⟨r,h⟩,i⟩<;>rcases k with⟨k,rfl⟩|⟨k,kk⟩
 ·rfl
 ·exact absurd k h
 ·exact absurd ⟨r,h⟩ k
 ·rcases i with⟨c,a,b,f,rfl⟩|⟨j,f,rfl⟩<;>rcases kk with⟨c',a',b',k1,rfl⟩|⟨r2,k1,rfl⟩
  ·obtain⟨rfl,rfl,rfl⟩:=f.cz h k1;rfl
  ·exact(f.not h k1).elim
  ·exact(k1.not h f).elim
  ·rw[DP.cz f.2.1 k1.2.1]
theorem Ed.dx{e:Ed}{b:Int}(h:e.ok b=true):(e.bt b).size<=5000:=by
 obtain⟨_,_,p⟩:=Gg h;unfold Ed.bt Cv;rw[if_pos (show Cg e.kd e.s e.nm e.num e.tx e.rf b=true from h)];show(CR e.kd.toNat e.s e.nm e.num e.tx e.rf).toArray.size<=5000;have d:=p.sum;have f:=p.name;have g:(if e.kd.toNat=1 then BB e.tx e.rf else []).length<=3000:=by
  split
  ·next hk=>
   have a:=BA (p.dh hk);have c:=a.az;have i:=a.text;rw[BB,List.length_cons,List.length_append,Dl];simp only[Array.length_toList];have j:e.tx.data.size=e.tx.size:=rfl;omega
  ·simp
 rw[List.size_toArray];unfold CR BZ;simp only[List.length_append,List.length_cons,List.length_nil,Array.length_toList];have a:e.s.data.size=e.s.size:=rfl;have c:e.nm.data.size=e.nm.size:=rfl;omega
theorem Hu.fit{v:Vd}{e:Ed}{d:Dd}(h:Hu v e d)(i:Cr v):Cr d.v:=by
 rcases h with⟨_,rfl⟩|⟨⟨r,l⟩,⟨c,a,b,_,rfl⟩|⟨g,m,rfl⟩⟩
 ·exact OB
 ·exact i
 ·have j:=l.dw.step m.1 m.2.1;have p:=j.bk.len;have q:=j.np;have t:=j.nl;have u:=Ov j.dq;have n:=IG l.log;rw[List.length_append]at n;have w:=Ed.dx m.1;refine⟨i.s,?_,i.ss,?_,⟨by show g.ks.length<=_;omega,fun k o=>by have:=j.dq k o;omega,by show g.ps.length<=_;omega,by show g.ls.length<=_;omega⟩,⟨?_,i.r.m⟩,by show AF g.ks<=_;omega⟩
  ·show(v.tt++[e.bt v.wd]).length<=_;rw[List.length_append,List.length_singleton];omega
  ·intro s f;rcases List.mem_append.1 f with f|f
   ·exact i.tt s f
   ·rw[List.mem_singleton]at f;subst f;omega
  ·show(shQ v.ph g.ks v.qs v.ms (e.held g)).length<=_;have x:=l.round.fc.nq;unfold shQ;split
   ·rw[List.length_append,List.length_singleton];omega
   ·omega
def JZ(d:Dd)(S U T P L Q M:Value):Zj:=Zg d.c::(BS d.v S U T P L Q M++[.string d.s,Zg d.n,.string d.a,.string d.b])
def CN:Zj:=[Zf,Zf,Zf,Zc,Zc,Zf,Zf,Zf,Zf,Zc,Zc,Zc,Zf,Zc,Zc,Zf,Zf,Zf,Zd,Zf,Zd,Zd]
theorem cell_of_block{X W:Zh}{d:Nat}(h:X.heap[d]?=W.heap[d]?)(j:Nat):X.cell? (Ze d j)=W.cell? (Ze d j):=by simp[World.cell?,h]
theorem Aa.fy{w:Zh}{o:Nat}{t:TypeId}{l:Zj}(h:w.heap[o]?=some (.cells l.toArray t (0,0))):Aa w o l:=fun j v a=>by refine⟨?_,by simp[World.frozen?,h]⟩;simp[World.cell?,h];exact a
theorem Aa.dv{B:Nat}:∀(vs l1 l2 l3:Zj) (w:Zh),Aa w B (l1++(l2++l3))->vs.length=l2.length->Aa (w.setCells B l1.length vs) B (l1++(vs++l3))
 |[],l1,[],l3,w,h,_=>h
 |v::r,l1,u::l2,l3,w,h,hl=>by have a:=h.set l1.length v;rw[show(l1++(u::l2++l3)).set l1.length v=(l1++[v])++(l2++l3) by simp]at a;have b:=Aa.dv r (l1++[v]) l2 l3 _ a (by simpa using hl);rw[List.length_append,List.length_singleton,List.append_assoc,List.singleton_append,←List.cons_append]at b;exact b
 |[],_,_::_,_,_,_,h=>by simp at h
 |_::_,_,[],_,_,_,h=>by simp at h
theorem Aa.dz{w:Zh}{B:Nat}(a c d:Zj)(h:Aa w B (a++(c++d))):w.there B a.length c.length:=fun j e=>by have b:=h (a.length+j) _ (Zv (by simp;omega));exact⟨by rw[b.1];rfl,b.2⟩
theorem YD{X:Zh}{b:Nat}{u v:Value}(c:X.cell? (Ze b 0)=some u)(d:X.cell? (Ze b 1)=some v):X.rangeAt b 0 [u,v]:=fun j x a=>by
 match j with
 |0=>cases a;exact c
 |1=>cases a;exact d
 |_+2=>simp at a
theorem JI{X a c:Zh}{k b:Nat}{z:Value}{l cs i:Zj}(g:Aa X k (.int .i32 1::l))(h:Aa X b (z::i))(o:cs.length=(z::i).length)(m:k≠b)(f:a=X.setCells b 0 cs)(j:c=a.setCell (Ze k 0) (.int .i32 0)):
 a.cell? (Ze k 0)=some (.int .i32 1)/\a.frozen? ⟨k,0,none⟩=false/\Aa c b cs/\Tn [b,k] X c:=by
 have e:Tn [b] X a:=by rw[f];exact AP _ _ _ _
 have d:Tn [k] a c:=by rw[j];exact Tn.set _ _ _ _ (by simp)
 have r:Aa a b cs:=by rw[f];exact h.ba cs o
 have p:=Aa.same g (e.block _ g.lt (by simp;exact m));obtain⟨q,n⟩:=p 0 _ rfl;exact⟨q,n,Aa.same r (d.block _ (Zr h.lt e.size) (by simp;omega)),(e.mono (by simp)).trans (d.mono (by simp))⟩
theorem AL.apart{w:Zh}{base:Nat}{S U T P L Q M:Value}{f:Zj}{v:Vd}(y:Ao w base S v.ss)(z:Ao w base U v.tt)(l:∀g,Ak S=some g->Ak U≠some g)(h:AO w base T P L f v.ks v.ps v.ls)(x:Ao w base Q v.qs)(t:Ao w base M v.ms)(k:∀g,Ak Q=some g->Ak M≠some g)
 (n:∀g,Ak S=some g∨Ak U=some g->g∉Bb T P L f) (p:∀g,Ak Q=some g∨Ak M=some g->g∉Bb T P L f) (r:∀g i,Ak S=some g∨Ak U=some g->Ak Q=some i∨Ak M=some i->g≠i):AL w base S U T P L Q M f v:=by
 refine⟨y,z,h,x,t,?_⟩;have j:=h.nd;rw[Fh]at j;unfold Cx;generalize Bb T P L f=B at *
 generalize Ak S=s at *
 generalize Ak U=u at *
 generalize Ak Q=q at *
 generalize Ak M=m at *
 have one:∀o:Option Nat,o.toList.Nodup:=fun o=>by cases o<;>simp
 simp only[List.nodup_append,List.mem_append,Option.mem_toList];refine⟨⟨one _,one _,fun a d b c e=>l a d (e▸c)⟩,⟨j,⟨one _,one _,fun a d b c e=>k a d (e▸c)⟩,fun a d b c e=>p b c (e▸d)⟩,fun a d b c e=> ?_⟩;rcases c with c|c
 ·exact n a d (e▸c)
 ·exact r a b d c e
theorem Qi{V:List Nat}{a b c:Zh}(d:Tn [] a b)(e:Tn V b c):Tn V a c:=(d.mono (by simp)).trans e
def Li(v:Vd)(et:Zi)(n:Nat)(X:Zh)(sa:Zk)(sn sc:Nat)(ua:Zk)(un uc:Nat)(c:Int):Prop:=
 (v.ss.length+v.tt.length=4000/\(c==(0:Int))=false)∨(¬v.ss.length+v.tt.length=4000/\c=0/\sn=v.ss.length/\un=(v.tt++[et]).length/\Ao X n (.slice sa sn sc) v.ss/\Ao X n (.slice ua un uc) (v.tt++[et])/\∀g,Ak (.slice sa sn sc)=some g->Ak (.slice ua un uc)≠some g)
theorem TL{b X:Zh}{v:Vd}{q:Zi}{n a:Nat}{d:Zk}{f e:Nat}{i:Zk}{k j:Nat}{c:Int}(A:Aa X a [Zc,Zc])(h:Zz b X)(z:b.heap.size<=a)(B:a<n)(r:b.heap.size<=n)(m:Li v q n X d f e i k j c):
 Hid (Aa (X.setCells a 0 [.slice d f e,.slice i k j]) a [.slice d f e,.slice i k j]/\b.heap.size<=a/\Zz b (X.setCells a 0 [.slice d f e,.slice i k j])/\Li v q b.heap.size (X.setCells a 0 [.slice d f e,.slice i k j]) d f e i k j c):=by
 have t:=AP a [.slice d f e,.slice i k j] 0 X;refine⟨A.ba _ rfl,z,h.trans (t.below h.size (by simp;omega)),?_⟩;rcases m with m|⟨s,u,w,x,o,p,y⟩
 ·exact .inl m
 ·exact .inr ⟨s,u,w,x,(o.mono r).an t (fun g l=>by have:=(o.bj l).1;simp;omega),(p.mono r).an t (fun g l=>by have:=(p.bj l).1;simp;omega),y⟩
theorem WS{k a:Zh}{v:Vd}{m:Zi}{n:Nat}{d:Zk}{f e:Nat}{g:Zk}{j i:Nat}{c:Int}(h:Zz k a)(o:k.heap.size<=n)(l:Li v m n a d f e g j i c):
 Hid (Aa ((a.alloc (.cells #[Zc,Zc] 35)).setCells a.heap.size 0 [.slice d f e,.slice g j i]) a.heap.size [.slice d f e,.slice g j i]/\k.heap.size<=a.heap.size/\Zz k ((a.alloc (.cells #[Zc,Zc] 35)).setCells a.heap.size 0 [.slice d f e,.slice g j i])/\Li v m k.heap.size ((a.alloc (.cells #[Zc,Zc] 35)).setCells a.heap.size 0 [.slice d f e,.slice g j i]) d f e g j i c):=by
 obtain⟨x,b,_⟩:=boxed (X:=a) (cs:=[.slice d f e,.slice g j i]) (z:=[Zc,Zc]) (T:=35) rfl;refine⟨x,h.size,h.trans (b.mono h.size),?_⟩;rcases l with l|⟨p,q,r,s,t,u,w⟩
 ·exact .inl l
 ·exact .inr ⟨p,q,r,s,(t.mono o).below b,(u.mono o).below b,w⟩
theorem OC{a:Zi}(h:¬a=⟨#[]⟩):a.toList.isEmpty=false:=by
 cases e:a.toList with
 |nil=>exact absurd (toList_inj (b:=⟨#[]⟩) (by rw[e];simp)) h
 |cons x l=>rfl
theorem OD(b:Nat)(p q:Zi)(w:Zh)(d:w.cell? (Ze b 0)=some (.string p))(e:w.cell? (Ze b 1)=some (.string q)):
 Calls prog 106 #[Za b 2 2] w fun o c=>o=.returned (.string (if p=⟨#[]⟩then q else p))/\c=w:=by
 go_enter func106,ntmps106;go_wp2
 go_loop [8] (fun i=>i=Zg 0∨(i=Zg 1/\p=⟨#[]⟩)∨(i=Zg 2/\p=⟨#[]⟩/\q=⟨#[]⟩)) (fun i=>2 -(intOf i).toNat)
 case atStart=>exact .inl rfl
 case round=>
  rcases hrel with rfl|⟨rfl,rfl⟩|⟨rfl,rfl,rfl⟩
  ·by_cases hp:p=⟨#[]⟩
   ·subst hp;go_wp2;exact⟨by simp,by simp[intOf]⟩
   ·have a:=OC hp;go_wp2;go_ret;simp
  ·by_cases hq:q=⟨#[]⟩
   ·subst hq;go_wp2;exact⟨by simp,by simp[intOf]⟩
   ·have a:=OC hq;go_wp2;go_ret;simp
  ·go_wp2;go_ret;simp
def dL(d:Dd)(vs:Zj):Zj:=Zg d.c::(vs++[.string d.s,Zg d.n,.string d.a,.string d.b])
theorem JJ{X:Zh}{b:Nat}{d:Dd}{vs:Zj}(h:Aa X b (dL d vs))(a:vs.length=17):X.cell? (Ze b 0)=some (Zg d.c)/\X.cell? (Ze b 18)=some (.string d.s)/\X.cell? (Ze b 19)=some (Zg d.n)/\X.cell? (Ze b 20)=some (.string d.a)/\X.cell? (Ze b 21)=some (.string d.b)/\X.rangeAt b 1 vs:=by
 have e:∀j u,[Value.string d.s,Zg d.n,.string d.a,.string d.b][j]?=some u->X.cell? (Ze b (18+j))=some u:=fun j u c=>(h (18+j) u (by
  unfold dL;rw[show 18+j=(17+j)+1 by omega,List.getElem?_cons_succ,List.getElem?_append_right (by omega),a,show 17+j -17=j by omega];exact c)).1
 exact⟨(h 0 _ rfl).1,e 0 _ rfl,e 1 _ rfl,e 2 _ rfl,e 3 _ rfl,Aa.fp [Zg d.c] vs _ h⟩
theorem Ju{d:Dd}{vs:Zj}(h:vs.length=17/\∀u∈vs,u.oneCell'=true):(dL d vs).length=22/\∀u∈dL d vs,u.oneCell'=true:=by
 refine⟨by simp[dL,h.1],fun u a=> ?_⟩;simp only[dL,List.mem_cons,List.mem_append,List.not_mem_nil,or_false]at a;rcases a with rfl|a|rfl|rfl|rfl|rfl
 ·rfl
 ·exact h.2 u a
 ·rfl
 ·rfl
 ·rfl
 ·rfl
theorem Aah{l:Nat}{R:Nat->Zh->Zj->Prop}{O:Nat->Nat->Zh->Zj->Prop}{M:Nat->Nat->Zh->Zj->Nat->Prop}(d:Dd)(h:Iq 17 l 9 10 R O M)(de:∀lo N X vs,O lo N X vs->lo<=X.heap.size):
 Iq 22 l 8 11 (fun L X b=>∃vs,b=dL d vs/\R L X vs) (fun lo N X b=>∃vs,b=dL d vs/\O lo N X vs) (fun lo N X b K=>∃vs,b=dL d vs/\M lo N X vs K):=by
 refine⟨?_,?_,?_,?_,?_,?_,?_,?_⟩
 ·rintro X b ds ⟨vs,rfl,a⟩ ⟨j,rfl,r⟩;have g:=(h.dy _ _ _ a).1;have t:=(h.dy _ _ _ r).1;obtain⟨W,f⟩:∃W,W=(X.alloc (.cells (dL d vs).toArray 45)).alloc (.cells (dL d j).toArray 45):=⟨_,rfl⟩;have c:=(AW f).1;have B:=(AW f).2.2.1;have C:=(AW f).2.2.2;have zW:=(AW f).2.1;obtain⟨a0,F,G,H,I,J⟩:=JJ B g;obtain⟨b0,P,Q,S,T,U⟩:=JJ C t;have x:Hid (vs.length=17/\j.length=17):=⟨g,t⟩
  have D:Hid (∀Y,Zz W Y->(Y.cell? (Ze (X.heap.size) 18)=some (.string d.s)/\Y.cell? (Ze (X.heap.size) 19)=some (Zg d.n)/\Y.cell? (Ze (X.heap.size) 20)=some (.string d.a)/\Y.cell? (Ze (X.heap.size) 21)=some (.string d.b))/\Y.cell? (Ze (X.heap.size+1) 18)=some (.string d.s)/\Y.cell? (Ze (X.heap.size+1) 19)=some (Zg d.n)/\Y.cell? (Ze (X.heap.size+1) 20)=some (.string d.a)/\Y.cell? (Ze (X.heap.size+1) 21)=some (.string d.b)):=fun Y Z=>by
   obtain⟨_,p1,p2,p3,p4,_⟩:=JJ (d:=d) (vs:=vs) (Aa.below (v:=Zg d.c) B Z) g;obtain⟨_,q1,q2,q3,q4,_⟩:=JJ (d:=d) (vs:=j) (Aa.below (v:=Zg d.c) C Z) t;exact⟨⟨p1,p2,p3,p4⟩,q1,q2,q3,q4⟩
  have n:=Yx (Zb J U);have s:=Yx (h.eq W vs j (h.dd _ _ _ _ (h.dj _ _ _ _ a c) c.size) (h.dd _ _ _ _ (h.dj _ _ _ _ r c) c.size));have m:=Yx c;have o:=Yx f;clear f B C a r h g t c J U F G H I P Q S T;generalize dL d vs=p at *
  generalize dL d j=q at *
  go_enter func8,ntmps8;go_upto_region 1 with fail;rw[←o.o];clear o;go_wp2_with (first
   |refine wpList_load_mid rfl 43 _ rfl X.heap.size 1 rfl vs _ n.o.1 underlying43 rfl (by rw[x.o.1];kernel_rfl) ?_
   |refine wpList_load_mid rfl 43 _ rfl (X.heap.size+1) 1 rfl j _ n.o.2 underlying43 rfl (by rw[x.o.2];kernel_rfl) ?_)
  refine Calls.mono s.o ?_;rintro e w1 ⟨rfl,i⟩;obtain⟨⟨F,G,H,I⟩,P,Q,S,T⟩:=D.o w1 i;clear D s n x;go_wp2;go_ret;exact⟨rfl,m.o.trans (i.mono m.o.size)⟩
 ·rintro lo N X b k ⟨vs,rfl,a⟩ zF zG;have g:=(h.dy _ _ _ (h.ga _ _ _ _ a).2).1;have hN:=(h.ga _ _ _ _ a).1;have y:=de _ _ _ _ a;obtain⟨W,f⟩:∃W,W=X.alloc (.cells (dL d vs).toArray 45):=⟨_,rfl⟩;have c:=(AG f).1;have n:Hid (W.rangeAt X.heap.size 1 vs/\vs.length=17):=⟨(JJ (AG f).2.2 g).2.2.2.2.2,g⟩;have s:=Yx (h.mark lo N W vs k (h.db _ _ _ _ _ a c.size (fun q _ hq=>c.block q (by omega))) zF zG)
  have m:=Yx c;have o:=Yx f;clear f a h g c;generalize hp:dL d vs=p at *
  have HP:=Yx hp;clear hp;go_enter func11,ntmps11;go_upto_region 1 with fail;rw[←o.o];clear o;go_wp2_with (refine wpList_load_mid rfl 43 _ rfl X.heap.size 1 rfl vs _ n.o.1 underlying43 rfl (by rw[n.o.2];kernel_rfl) ?_);refine Calls.mono s.o ?_;rintro e w1 ⟨⟨K,rfl,zC,zE,V⟩,i,u⟩;have HM:=Yx V;have zA:=Yx i;have zB:=Yx u;clear V i u;go_wp2;go_ret
  exact⟨⟨K,rfl,zC,zE,vs,HP.o.symm,HM.o⟩,(m.o.mono y).trans zA.o,fun q hq w=>(zB.o q hq (Zr w m.o.size)).trans (m.o.block q w)⟩
 ·rintro L X E b ⟨vs,rfl,a⟩ hb;exact⟨vs,rfl,h.dj _ _ _ _ a hb⟩
 ·rintro L L' X b ⟨vs,rfl,a⟩ y;exact⟨vs,rfl,h.dd _ _ _ _ a y⟩
 ·rintro lo N X E b ⟨vs,rfl,a⟩ A z;exact⟨vs,rfl,h.db _ _ _ _ _ a A z⟩
 ·rintro lo N X E b K ⟨vs,rfl,a⟩ A z;exact⟨vs,rfl,h.gi _ _ _ _ _ _ a A z⟩
 ·rintro lo N X b ⟨vs,rfl,a⟩;obtain⟨r,h3⟩:=h.ga _ _ _ _ a;exact⟨r,vs,rfl,h3⟩
 ·rintro L X b ⟨vs,rfl,a⟩;exact Ju (h.dy _ _ _ a)
theorem ZM{M:Nat->Nat->Zh->Zj->Nat->Prop}(d:Dd)(o:∀lo N X a K,M lo N X a K->a.length=17)(h:∀(lo N:Nat) (X:Zh) (a:Zj) (K:Nat),M lo N X a K->Calls prog 28 #[.agg a.toArray,Zg 1] X fun e b=>e=.returned (Zg K)/\Zz X b)
 (n:∀(lo N:Nat) (X b:Zh) (a:Zj) (K:Nat),M lo N X a K->Zz X b->M lo N b a K) (lo N:Nat) (X:Zh) (m:Zj) (K:Nat) (s:∃a,m=dL d a/\M lo N X a K):
 Calls prog 12 #[.agg m.toArray,Zg 1] X fun e b=>e=.returned (Zg K)/\Zz X b:=by
 obtain⟨a,rfl,g⟩:=s;have i:=o _ _ _ _ _ g;obtain⟨W,c⟩:∃W,W=X.alloc (.cells (dL d a).toArray 45):=⟨_,rfl⟩;have f:=(AG c).1;have k:Hid (W.rangeAt X.heap.size 1 a/\a.length=17):=⟨(JJ (AG c).2.2 i).2.2.2.2.2,i⟩;have r:=Yx (h lo N W a K (n _ _ _ _ _ _ g f));have j:=Yx f;have l:=Yx c;clear c g h i f n o;generalize dL d a=p at *
 go_enter func12,ntmps12;go_upto_region 1 with fail;rw[←l.o];clear l;go_wp2_with (refine wpList_load_mid rfl 43 _ rfl X.heap.size 1 rfl a _ k.o.1 underlying43 rfl (by rw[k.o.2];kernel_rfl) ?_);refine Calls.mono r.o ?_;rintro e t ⟨rfl,q⟩;go_wp2;go_ret;exact⟨rfl,j.o.trans (q.mono j.o.size)⟩
end Go.Proofs.YtlhhpofjkgmbeaaGreatDoor
