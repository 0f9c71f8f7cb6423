import Derived.Test.YtdgblkklkaklhaaGreatDoorX31
import Derived.Test.YtdgblkklkaklhaaGreatDoorX30
import Derived.Lib.OwnKind
set_option maxRecDepth 100000
set_option maxHeartbeats 16000000
namespace Go.Proofs.YtdgblkklkaklhaaGreatDoor
open Go.ChangeShapes Go.WideShapes Go.ChangeAt Go.RowKit _root_.Go.Proofs.Tryz
section
attribute [local go_sem] Oper.semAt_some
theorem JX{B:Nat}(p:Nat->Prop):Ce B (fun k _=>p k):=fun _ _ _ _ h _ _=>h
theorem Bs.of_grownBy{B:Nat}{W c:Zh}{row:Option Nat}(d:W.grownBy c row)(a:∀j,row=some j->j<B):Bs B W c:=
 ⟨d.size,fun b _ f h _=>(d.block b (Array.getElem?_eq_some_iff.1 h).1 (fun e=>by have:=a b e.symm;omega)).trans h⟩
theorem Gw(a b:Zk)(n m c d:Nat)(w:Zh):
 Calls prog 93 #[.agg #[.slice a n c,.slice b m d]] w fun e g=>e=.returned (.agg #[.slice a n c,.slice b m d])/\Zz w g:=by
 have f:Below w.heap.size w ((w.alloc (.cells #[.slice a n c,.slice b m d] 35)).alloc (.cells #[.slice a n c,.slice b m d] 148)):=(Zy).alloc (by simp) _;go_enter func93,ntmps93;go_wp2;refine bodyPost_ret (v:=.agg #[.slice a n c,.slice b m d]) (by simp[results,results93,go_sem]) rfl ⟨rfl,?_⟩;exact f
theorem Js(a b:Zk)(n m c d:Nat)(w:Zh)(i:n<=1048576)(h:m<=1048576):
 Calls prog 124 #[.agg #[.slice a n c,.slice b m d]] w fun e g=>e=.returned (Zg (n+m))/\Zz w g:=by
 have f:Below w.heap.size w (w.alloc (.cells #[.slice a n c,.slice b m d] 148)):=Zy;go_enter func124,ntmps124;go_wp2;go_ret;exact⟨rfl,f⟩
theorem Gl(a b:Zk)(c d:Nat)(f g:Zl)(w:Zh)(Z:Ad w w.heap.size a f)(Y:Ad w w.heap.size b g)(X:f.length<=1048576)(N:g.length<=1048576)
 (hs:∀s∈f,s.size<=1048576) (O:∀s∈g,s.size<=1048576):
 Calls prog 91 #[.agg #[.slice a f.length c,.slice b g.length d]] w fun e w'=>e=.returned (.bool (Dc f g))/\Zz w w':=by
 refine(callsIn_wide (n:=3)).1 ?_;refine callsIn_of_wp_marks func91 rfl trivial ?_ rfl;simp only[ntmps91,List.size_toArray,List.length_cons,List.length_nil,Nat.reduceAdd,Nat.reduceSub,Array.replicate_succ,Array.replicate_zero,List.push_toArray,List.append_toArray,List.nil_append,List.cons_append]
 gi_wp2_with fail
 refine⟨trivial,?_⟩;have G:Below w.heap.size w ((w.alloc (.cells #[.slice a f.length c,.slice b g.length d] 35)).alloc (.cells #[.bool false] 4)):=(Zy).alloc (by simp) _;have J:Boxed ((w.alloc (.cells #[.slice a f.length c,.slice b g.length d] 35)).alloc (.cells #[.bool false] 4)) (w.heap.size+1) 4 (.bool false):=by have:=Boxed.new (w.alloc (.cells #[.slice a f.length c,.slice b g.length d] 35)) 4 (.bool false);rwa[World.size_alloc]at this
 have M:((w.alloc (.cells #[.slice a f.length c,.slice b g.length d] 35)).alloc (.cells #[.bool false] 4)).heap.size=w.heap.size+2:=by simp
 refine(callsIn_wide.2 (Gw a b f.length g.length c d _)).mono ?_;rintro e x ⟨rfl,m⟩;have A:=G.trans (m.mono (by simp;omega));have I:Boxed x (w.heap.size+1) 4 (.bool false):=(m.block _ (by simp)).trans J;have P:=m.size;rw[M]at P;clear m J M G
 gi_wp2_with fail
 refine⟨trivial,?_⟩;have H:Below w.heap.size w (x.alloc (.cells #[.slice a f.length c,.slice b g.length d] 148)):=A.alloc A.size _;have L:=I.alloc (.cells #[.slice a f.length c,.slice b g.length d] 148);refine(callsIn_wide.2 (Js a b f.length g.length c d _ X N)).mono ?_;rintro e z ⟨rfl,q⟩;have l:=H.trans (q.mono (by simp;omega))
 have v:Boxed z (w.heap.size+1) 4 (.bool false):=(q.block _ (by simp;omega)).trans L;have Q:=q.size;simp at Q;have zA:z.cell? (Ze (x.heap.size) 0)=some (.slice a f.length c):=by rw[q.cell (p:=⟨x.heap.size,0,none⟩) (by simp)];simp
 have zB:z.cell? (Ze (x.heap.size) 1)=some (.slice b g.length d):=by rw[q.cell (p:=⟨x.heap.size,1,none⟩) (by simp)];simp
 have zF:=v.cell;have zG:=v.frozen;clear q L H I A;by_cases hlen:f.length+g.length<=4000
 ·gi_wp2_with fail
  have m:w.heap.size+1<z.heap.size:=v.lt;refine Ha (gf:=94) (pre:= #[.agg #[.slice a f.length c,.slice b g.length d]]) (lb:= #[]) rfl (enters_of func94 (by kernel_rfl) rfl) (xs:=f++g) (n0:=w.heap.size)
   (by simpa using Oz a b c d f g w.heap.size z (Z.below l) (Y.below l) l.size (by unfold maxLen;omega) (by unfold maxLen;omega)) l.size rfl
   (fun k V=>Zz w V/\Boxed V (w.heap.size+1) 4 (.bool false)/\Dp ((f++g).take k)=true)
   (fun _ V=>Zz w V/\Boxed V (w.heap.size+1) 4 (.bool false)/\Dp (f++g)=false)
   ((DC w (Zx) l.size).and ((CJ (.cells #[.bool false] 4) m).and (JX _)))
   ((DC w (Zx) l.size).and ((CJ (.cells #[.bool false] 4) m).and (JX _)))
   ⟨l,v,by simp[Dp]⟩ (fun s=>{tmps:= #[.agg #[.slice a f.length c,.slice b g.length d],Yz w.heap.size,Yz (w.heap.size+1),Yz x.heap.size,.string s,
    .agg #[.slice a f.length c,.slice b g.length d],.agg #[.slice a f.length c,.slice b g.length d],.agg #[.slice a f.length c,.slice b g.length d],Zg (f.length+g.length),.bool (decide ((4000:Int)<f.length+g.length)),
    .agg #[.slice a f.length c,.slice b g.length d],.func (.func 94) #[.agg #[.slice a f.length c,.slice b g.length d]] #[],.string s,undef,undef,undef],defers:=[]}) ?assign ?body ?done ?stop
  case assign=>
   intro l2 m2 s V K y
   gi_wp2
   exact y
  case body=>
   rintro l2 m2 k s V C ⟨t,o,u⟩ zE;have T:=o.cell;have U:=o.frozen;have R:s.size<=1048576:=by
    rcases List.mem_append.1 (Zs C)with h|h
    ·exact hs s h
    ·exact O s h
   by_cases hbig:5000<s.size
   ·gi_wp2
    refine⟨Bs.of_grownBy (grownBy_setCell' V _ _) (fun j e=>by cases e;exact m),t.setCell (p:=⟨w.heap.size+1,0,none⟩) (by simp) _,o.set _,IF _ k s C hbig⟩
   ·gi_wp2
    refine⟨Bs.refl _ _,⟨t,o,?_⟩,Below.refl _ _⟩;rw[Jp _ k s C,u];simp;omega
  case done=>
   rintro D V S ⟨t,o,u⟩ y;have T:=o.cell;have U:=o.frozen;rw[Zt (by omega)]at u;have zC:D≠w.heap.size+1:=by omega
   have F:(V.setCell (Ze (w.heap.size+1) 0) (.bool true)).heap[D]?=some (.deferred (some [])):=(KeepsOthers.setCell _ _ _).same D _ y rfl;have E:=o.set (.bool true);have B:=cell_kept E.cell (grownBy_putObj' _ D (.deferred none)) (fun r e=>by cases e;exact⟨_,F,rfl⟩)
   gi_wp2
   refine⟨by simp,.inl ⟨_,_,rfl,run_takeDeferred F,?_⟩⟩;refine⟨.bool true,by simp[results,results91,go_sem,B],?_,?_⟩
   ·simp only[Dc];rw[show(f++g).all (fun s=>decide (s.size<=5000))=true from u];simp[hlen]
   ·exact(t.setCell (p:=⟨w.heap.size+1,0,none⟩) (by simp) _).trans ⟨rfl,rfl,rfl,by simp,fun i W=>World.putObj_heap_other (by omega)⟩
  case stop=>
   rintro D k V S ⟨t,o,u⟩ y;have B:=cell_kept o.cell (grownBy_putObj' _ D (.deferred none)) (fun r e=>by cases e;exact⟨_,y,rfl⟩)
   gi_wp2
   refine⟨by simp,.inl ⟨_,_,rfl,run_takeDeferred y,?_⟩⟩;refine⟨.bool false,by simp[results,results91,go_sem,B],?_,?_⟩
   ·simp only[Dc];rw[show(f++g).all (fun s=>decide (s.size<=5000))=false from u];simp
   ·exact t.trans ⟨rfl,rfl,rfl,by simp,fun i W=>World.putObj_heap_other (by omega)⟩
 ·have E:=(v.set (.bool false)).cell
  gi_wp2
  refine⟨.bool false,by simp[results,results91,go_sem,E],?_,l.setCell (p:=⟨w.heap.size+1,0,none⟩) (by simp) _⟩;simp[Dc,hlen]
end
theorem Mx{w:Zh}{b:Nat}{d e f g i j k l m n a c:Value}(h:Aa w b [d,e,f,g,i,j,k,l,m,n,a,c]):(w.cell? (Ze b 0)=some d/\w.frozen? ⟨b,0,none⟩=false)/\(w.cell? (Ze b 1)=some e/\w.frozen? ⟨b,1,none⟩=false)/\(w.cell? (Ze b 2)=some f/\w.frozen? ⟨b,2,none⟩=false)/\(w.cell? (Ze b 3)=some g/\w.frozen? ⟨b,3,none⟩=false)/\(w.cell? (Ze b 4)=some i/\w.frozen? ⟨b,4,none⟩=false)/\(w.cell? (Ze b 5)=some j/\w.frozen? ⟨b,5,none⟩=false)/\(w.cell? (Ze b 6)=some k/\w.frozen? ⟨b,6,none⟩=false)/\(w.cell? (Ze b 7)=some l/\w.frozen? ⟨b,7,none⟩=false)/\(w.cell? (Ze b 8)=some m/\w.frozen? ⟨b,8,none⟩=false)/\(w.cell? (Ze b 9)=some n/\w.frozen? ⟨b,9,none⟩=false)/\(w.cell? (Ze b 10)=some a/\w.frozen? ⟨b,10,none⟩=false)/\w.cell? (Ze b 11)=some c/\w.frozen? ⟨b,11,none⟩=false:=
 ⟨h 0 _ rfl,h 1 _ rfl,h 2 _ rfl,h 3 _ rfl,h 4 _ rfl,h 5 _ rfl,h 6 _ rfl,h 7 _ rfl,h 8 _ rfl,h 9 _ rfl,h 10 _ rfl,h 11 _ rfl⟩
theorem c6{w:Zh}{b:Nat}{a c d e f g:Value}(h:Aa w b [a,c,d,e,f,g]):(w.cell? (Ze b 0)=some a/\w.frozen? ⟨b,0,none⟩=false)/\(w.cell? (Ze b 1)=some c/\w.frozen? ⟨b,1,none⟩=false)/\(w.cell? (Ze b 2)=some d/\w.frozen? ⟨b,2,none⟩=false)/\(w.cell? (Ze b 3)=some e/\w.frozen? ⟨b,3,none⟩=false)/\(w.cell? (Ze b 4)=some f/\w.frozen? ⟨b,4,none⟩=false)/\w.cell? (Ze b 5)=some g/\w.frozen? ⟨b,5,none⟩=false:=
 ⟨h 0 _ rfl,h 1 _ rfl,h 2 _ rfl,h 3 _ rfl,h 4 _ rfl,h 5 _ rfl⟩
def RdS(n:Nat)(w:Zh)(ta pa la:Zk)(ks:List Kd)(ps:List Pd)(ls:List Ld):Prop:=∀V w',(∀b∈V,b<n)->Tn V w w'->Bv w' w'.heap.size ta pa la ks ps ls
theorem AO.rdS{w:Zh}{base:Nat}{f e d:Zk}{q o n:Nat}{p:Zj}{a:List Kd}{c:List Pd}{b:List Ld}(h:AO w base (.slice f a.length q) (.slice e c.length o) (.slice d b.length n) p a c b):RdS base w f e d a c b:=fun V r k m=>by obtain⟨_,_,_,_,_,_,g,i,j,l⟩:=(h.an m k).rows;cases g;cases i;cases j;exact l
theorem AO.get{w:Zh}{base:Nat}{f e d:Zk}{k i g:Nat}{j:Zj}{a:List Kd}{c:List Pd}{b:List Ld}(h:AO w base (.slice f a.length k) (.slice e c.length i) (.slice d b.length g) j a c b):Bv w w.heap.size f e d a c b:=
 h.rdS [] w (by simp) (Tn.of (Below.refl _ _))
structure Qh (x:An):Prop where
 ks:x.ks.length<=600
 refs:∀k∈x.ks,k.refs.length<=30
 ps:x.ps.length<=100
 ls:x.ls.length<=200
theorem Qh.fit{x:An}(h:Qh x):Nw x.ks x.ps x.ls:=
 ⟨by have:=h.ks;omega,fun k a=>by have:=h.refs k a;omega,by have:=h.ps;omega,by have:=h.ls;omega⟩
theorem Aa.fp{w:Zh}{B:Nat}(a c d:Zj)(h:Aa w B (a++(c++d))):w.rangeAt B a.length c:=fun j v b=>by refine(h (a.length+j) v ?_).1;rw[List.getElem?_append_right (by omega),Nat.add_sub_cancel_left,List.getElem?_append_left (Zw b).1];exact b
theorem RH(n:Int)(w:Zh):
 Calls prog 90 #[Zg n] w fun e a=>e=.returned (.bool (decide (0<=n/\n<=1000000)))/\a=w:=by
 by_cases h1:0<=n
 ·by_cases h2:n<=1000000
  ·go_enter func90,ntmps90;go_wp2;go_ret;exact⟨Aw (by simp[h1,h2]),rfl⟩
  ·have c:decide (n<=1000000)=false:=by simpa using h2
   go_enter func90,ntmps90;go_wp2;go_ret;exact⟨rfl,rfl⟩
 ·have b:decide (0<=n)=false:=by simpa using h1
  go_enter func90,ntmps90;go_wp2;go_ret;exact⟨rfl,rfl⟩
structure LJ (w:Zh) (lo k d m base:Nat) (O P L:Value) (v:Vd) (a:Va) (r:Rs):Prop where
 box:Aa w k [.int .i32 0,.int .u32 0,Zg v.wd,Zg v.ak,.slice a.sa v.ss.length a.sc,.slice a.ta v.tt.length a.tc,Zg v.sw,Zg v.now,Zg v.given,Zg v.ae,.slice a.ka v.ks.length a.kc,.slice a.pa v.ps.length a.pc,.slice a.la v.ls.length a.lc,Zg v.ph,.slice a.qa v.qs.length a.qc,.slice a.ma v.ms.length a.mc,Zg v.ag,Zg v.at_,Zg v.ro,.pointer (some ⟨d,0,none⟩)]
 dr:Dr w base d m O P L v.wd r.now r.given r.ae r.ks r.ps r.ls
 de:lo<=base
 fq:lo<=k
 lt:∀b∈vB d m O P L,b<k
 cl:base+4<=m
 ty:∃cur,w.heap[k]?=some (.cells cur 166)
def ZZ(w w':Zh)(v:Vd)(p:Value)(n:Int):Prop:=
 (∃k:Nat,Di v.wd (v.ss++v.tt) k/\p=.pointer none/\n=k)∨(∃r d m O P L base,Da v.wd r0 (v.ss++v.tt) r/\p=.pointer (some ⟨d,0,none⟩)/\n=0/\Dr w' base d m O P L v.wd r.now r.given r.ae r.ks r.ps r.ls/\(w.heap.size<=base/\base+4<=m))
theorem RI(v:Vd)(a:Va)(w:Zh)(hr:BR w w.heap.size a v)(hf:Cr v)(hE:Env w):
 Calls prog 45 #[.agg (Yi v a)] w fun e l=>Zz w l/\((¬Ei v/\e=.returned (.tuple #[.pointer none,.bool false]))∨(∃r k d m O P L base,CM v r/\e=.returned (.tuple #[Yz k,.bool true])/\LJ l w.heap.size k d m base O P L v a r)):=by
 obtain⟨W,hW⟩:∃W,W=w.alloc (.cells (Yi v a) 43):=⟨_,rfl⟩;have bW:=(AG hW).1;have zW:=(AG hW).2.1;have xW:=(AG hW).2.2;have HX:Hid (Aa W _ _):=(AG hW).2.2;have HR:=Yx hr;have HW:=Yx hW;have zE:=Yx (QB v.wd W);have zH:=Yx (RH v.ak W);have zK:=Yx (Gl a.sa a.ta a.sc a.tc v.ss v.tt W (hr.s.af bW) (hr.t.af bW) hf.s hf.t hf.ss hf.tt);obtain⟨N,Q,R,U,y4,y5,y6,y7,y8,y9,q,t,x,y,z,A,B⟩:=Fy xW;clear hW xW hr
 by_cases hwd:1<=v.wd/\v.wd<=8
 ·rw[decide_eq_true hwd]at zE;by_cases hlim:0<=v.ak/\v.ak<=1000000
  ·rw[decide_eq_true hlim]at zH;cases hlog:Dc v.ss v.tt with
   |true=>
    rw[hlog]at zK;have yK:=IG hlog;have xA:v.ss.length<=4000:=by rw[List.length_append]at yK;omega
    have xB:v.tt.length<=4000:=by rw[List.length_append]at yK;omega
    have HD:Hid (∀X,Calls prog 93 #[.agg #[.slice a.sa v.ss.length a.sc,.slice a.ta v.tt.length a.tc]] X fun e l=>e=.returned (.agg #[.slice a.sa v.ss.length a.sc,.slice a.ta v.tt.length a.tc])/\Zz X l):=fun X=>Gw a.sa a.ta v.ss.length v.tt.length a.sc a.tc X
    have HP:Hid (∀X,Zz w X->Calls prog 92 #[Zg v.wd,.func (.func 94) #[.agg #[.slice a.sa v.ss.length a.sc,.slice a.ta v.tt.length a.tc]] #[]] X fun e l=>∃p n,e=.returned (.tuple #[p,Zg n])/\Hid (ZZ X l v p n)/\Zz X l):=fun X f=>by
     refine(RG v.wd 94 #[.agg #[.slice a.sa v.ss.length a.sc,.slice a.ta v.tt.length a.tc]] #[] (v.ss++v.tt) X hwd.1 hwd.2 (by omega) (fun s hs=>by rcases List.mem_append.1 hs with h|h;exact hf.ss s h;exact hf.tt s h) (hE.below f) (enters_of func94 (by kernel_rfl) rfl) (fun V hV=>by
      have hb:=f.trans (hV.mono f.size);have h1:=Oz a.sa a.ta a.sc a.tc v.ss v.tt X.heap.size V ((HR.o.s.below hb).mono f.size) ((HR.o.t.below hb).mono f.size) hV.size (by unfold maxLen;omega) (by unfold maxLen;omega);simpa using h1)).mono ?_
     rintro e l ⟨hb,⟨n,zP,rfl⟩|⟨r,d,m,O,P,L,base,G,rfl,BZ,o⟩⟩
     ·exact⟨_,_,rfl,.inl ⟨n,zP,rfl,rfl⟩,hb⟩
     ·exact⟨_,_,rfl,.inr ⟨r,d,m,O,P,L,base,G,rfl,rfl,BZ,o⟩,hb⟩
    clear hE;go_enter func45,ntmps45;go_wp2_with fail;rw[←HW.o];refine Calls.mono zE.o ?_;rintro e w1 ⟨rfl,c⟩;replace c:=c.symm;subst c;go_wp2_with fail;refine Calls.mono zH.o ?_;rintro e w1 ⟨rfl,c⟩;replace c:=c.symm;subst c;go_wp2_with fail;refine Calls.mono zK.o ?_;rintro e w2 ⟨rfl,zI⟩;have x2:=Aa.below HX.o zI;have z2:w.heap.size+1<=w2.heap.size:=by have:=zI.size;omega
    have yH:=Yx x2;have zT:=Yx (bW.trans (zI.mono bW.size));clear N Q R U y4 y5 y6 y7 y8 y9 q t x y z A B zE zH zK zI HW;obtain⟨N,Q,R,U,_⟩:=Fy x2;clear x2;go_upto_region 3 with fail;generalize (.agg (Yi v a):Value)=dv0;go_cut [4,5] (fun p u wx=>∃n:Int,u=Zg n/\Hid (ZZ w wx v p n/\Zz w2 wx))
    case first=>
     go_region_with (first
      |(go_at_call 93;refine(HD.o w2.drew).mono ?_;rintro e w3 ⟨rfl,yQ⟩;have zU:Below w2.heap.size w2 w3:=(Below.refl w2.heap.size w2).drew.trans yQ;obtain⟨u0,u1,u2,u3,_⟩:=Fy (Aa.below yH.o zU);have yJ:=zT.o.trans (zU.mono zT.o.size))
      |(go_at_call 92;refine(HP.o w3 yJ).mono ?_;rintro e w4 ⟨p,n,rfl,yO,yR⟩;have yM:=zU.trans (yR.mono zU.size)))
     all_goals
      go_wp2_with fail;go_meet;refine⟨n,rfl,?_,yM⟩;rcases yO.o with h|⟨r,d,m,O,P,L,base,q1,q2,q3,q4,q5⟩
      ·exact .inl h
      ·exact .inr ⟨r,d,m,O,P,L,base,q1,q2,q3,q4,Zm yJ.size q5.1,q5.2⟩
    case rest=>
     clear N Q R U HD HP;obtain⟨n,rfl,HQ⟩:=hcut;have yI:=Yx (Aa.below yH.o HQ.o.2);have H:=Yx (zT.o.trans (HQ.o.2.mono zT.o.size));rcases HQ.o.1 with⟨k,zP,hp,hn⟩|⟨r,d,m,O,P,L,base,G,hp,hn,BZ,o⟩
     ·subst hp hn;have xC:0<(k:Int):=by obtain⟨j,_,_,rfl,_⟩:=zP;omega
      have yP:0<k:=by omega
      have xD:=decide_eq_true yP;have zM:Hid (¬Ei v):=fun⟨r,h⟩=>Di.not hwd.1 hwd.2 zP h.run;clear zP HQ;go_upto_region 4 with fail
      go_region
      all_goals go_wp2
      all_goals refine bodyPost_ret (v:=.tuple #[.pointer none,.bool false]) (by simp[results,results45,go_sem]) rfl ?_
      all_goals exact⟨H.o.drew,.inl ⟨zM.o,rfl⟩⟩
     ·subst hp hn;have i:=G.ok (FX hwd.1 hwd.2);have zJ:=Yx G;have zY:Hid (∀X,Zz wc X->Dr X base d m O P L v.wd r.now r.given r.ae r.ks r.ps r.ls):=fun X f=>BZ.below f;have zG:=Yx o
      have yB:Hid (∀X,Zz wc X->Calls prog 96 #[Yz d] X fun e l=>∃(E:Zk) (M:Nat) (D:Zk) (J:Nat) (C:Zk) (I:Nat),e=.returned (.agg (Ys v.wd r.now r.given r.ae E r.ks.length M D r.ps.length J C r.ls.length I))/\Bv l l.heap.size E D C r.ks r.ps r.ls/\Zz X l):=fun X f=>by refine(IX base d m O P L v.wd r.now r.given r.ae r.ks r.ps r.ls X (BZ.below f) i.bk.nd i.bk.sz i.bk.len i.np i.nl i.dq).mono ?_;rintro e l ⟨T,P',L',rs,rfl,hS,hb⟩;obtain⟨E,M,D,J,C,I,rfl,rfl,rfl,hg⟩:=hS.rows;exact⟨E,M,D,J,C,I,rfl,hg,hb⟩
      have yA:Hid (∀(X:Zh) (E D C:Zk) (M J I:Nat),Zz w X->Bv X X.heap.size E D C r.ks r.ps r.ls->Calls prog 95 #[.agg (Ys v.wd r.now r.given r.ae E r.ks.length M D r.ps.length J C r.ls.length I),.agg (Ys v.sw v.now v.given v.ae a.ka v.ks.length a.kc a.pa v.ps.length a.pc a.la v.ls.length a.lc)] X fun e l=>Ar ((v.wd=v.sw/\r.now=v.now/\r.given=v.given/\r.ae=v.ae)/\r.ks=v.ks/\r.ps=v.ps/\r.ls=v.ls) X l e):=fun X E D C M J I f hS=>Nc v.wd r.now r.given r.ae v.sw v.now v.given v.ae E D C a.ka a.pa a.la M J I a.kc a.pc a.lc r.ks v.ks r.ps v.ps r.ls v.ls X hS ((HR.o.st.aj f).mono f.size) ⟨by have:=i.bk.len;omega,by have:=i.np;omega,by have:=i.nl;omega⟩ ⟨hf.st.k,hf.st.p,hf.st.l⟩ (fun k hk=>by have:=i.dq k hk;omega) hf.st.r
      have yG:Hid (∀X,Zz w X->Calls prog 97 #[.agg (Yk v.ph a.qa v.qs.length a.qc a.ma v.ms.length a.mc v.ag v.at_ v.ro),Zg v.wd,Zg r.ae] X fun e l=>Ar (AR v.wd r.ae v.ph v.ag v.at_ v.ro v.qs v.ms) X l e):=fun X f=>LI v.ph v.ag v.at_ v.ro v.wd r.ae a.qa a.ma a.qc a.mc v.qs v.ms X (HR.o.q.af f) (HR.o.m.af f) hf.r hwd.2 i.ah;clear G BZ o i HQ
      obtain⟨N,Q,R,U,y4,y5,y6,y7,y8,y9,q,t,x,y,z,A,B⟩:=Fy yI.o;have zX:Hid (∀X,Zz wc X->Aa X w.heap.size (Yh v a)):=fun X f=>Aa.below yI.o f
      have Z:Hid (∀X,Zz wc X->X.cell? (Ze (w.heap.size) 4)=some (Zg v.sw)/\X.cell? (Ze (w.heap.size) 5)=some (Zg v.now)/\X.cell? (Ze (w.heap.size) 6)=some (Zg v.given)/\X.cell? (Ze (w.heap.size) 7)=some (Zg v.ae)/\X.cell? (Ze (w.heap.size) 8)=some (.slice a.ka v.ks.length a.kc)/\X.cell? (Ze (w.heap.size) 9)=some (.slice a.pa v.ps.length a.pc)/\X.cell? (Ze (w.heap.size) 10)=some (.slice a.la v.ls.length a.lc)/\X.cell? (Ze (w.heap.size) 11)=some (Zg v.ph)/\X.cell? (Ze (w.heap.size) 12)=some (.slice a.qa v.qs.length a.qc)/\X.cell? (Ze (w.heap.size) 13)=some (.slice a.ma v.ms.length a.mc)/\X.cell? (Ze (w.heap.size) 14)=some (Zg v.ag)/\X.cell? (Ze (w.heap.size) 15)=some (Zg v.at_)/\X.cell? (Ze (w.heap.size) 16)=some (Zg v.ro)/\X.cell? (Ze d 0)=some (Zg v.wd)/\X.cell? (Ze d 4)=some (Zg r.ae)):=fun X f=>by
       obtain⟨n0,n1,n2,n3,n4,n5,n6,n7,n8,n9,yS,yT,yU,yV,yW,yX,yY⟩:=Fy (zX.o X f);exact⟨n4,n5,n6,n7,n8,n9,yS,yT,yU,yV,yW,yX,yY,((zY.o X f).box 0 _ rfl).1,((zY.o X f).box 4 _ rfl).1⟩
      have HL:Hid (∀X,Zz wc X->Zz w X):=fun X f=>H.o.trans (f.mono H.o.size);have D0:Below wc.heap.size wc wc.drew:=(Below.refl _ _).drew;by_cases hP:(v.wd=v.sw/\r.now=v.now/\r.given=v.given/\r.ae=v.ae)/\r.ks=v.ks/\r.ps=v.ps/\r.ls=v.ls
      ·by_cases hQ:AR v.wd r.ae v.ph v.ag v.at_ v.ro v.qs v.ms
       ·have yL:Hid (CM v r):=⟨hwd,hlim,hlog,zJ.o,hP,hP.1.2.2.2▸hQ⟩;have zN:=Yx hP;have zZ:=Yx hQ;clear hP hQ;go_upto_region 4 with fail;generalize (.agg (Yi v a):Value)=dv0;go_cut [56] (fun u wx=>u=.bool false/\Hid (Zz wc wx))
        case first=>
         clear N Q R U y4 y5 y6 y7 y8 y9 q t x y z A B
         go_region_held3 (fun X=>X.cell? (Ze (w.heap.size) 4)=some (Zg v.sw)/\X.cell? (Ze (w.heap.size) 5)=some (Zg v.now)/\X.cell? (Ze (w.heap.size) 6)=some (Zg v.given)/\X.cell? (Ze (w.heap.size) 7)=some (Zg v.ae)/\X.cell? (Ze (w.heap.size) 8)=some (.slice a.ka v.ks.length a.kc)/\X.cell? (Ze (w.heap.size) 9)=some (.slice a.pa v.ps.length a.pc)/\X.cell? (Ze (w.heap.size) 10)=some (.slice a.la v.ls.length a.lc)/\X.cell? (Ze (w.heap.size) 11)=some (Zg v.ph)/\X.cell? (Ze (w.heap.size) 12)=some (.slice a.qa v.qs.length a.qc)/\X.cell? (Ze (w.heap.size) 13)=some (.slice a.ma v.ms.length a.mc)/\X.cell? (Ze (w.heap.size) 14)=some (Zg v.ag)/\X.cell? (Ze (w.heap.size) 15)=some (Zg v.at_)/\X.cell? (Ze (w.heap.size) 16)=some (Zg v.ro)/\X.cell? (Ze d 0)=some (Zg v.wd)/\X.cell? (Ze d 4)=some (Zg r.ae))
          (first
            |with_reducible exact Z.o _ D0
            |with_reducible exact Z.o _ F
            |with_reducible exact Z.o _ Y
            |with_reducible exact Z.o _ B7)
          (first
            |(go_at_call 96;refine Calls.mono (yB.o wc.drew D0) ?_;rintro e w5 ⟨E,M,D,J,C,I,rfl,zA,zR⟩;have F:Below wc.heap.size wc w5:=D0.trans zR)
            |(go_at_call 95;refine Calls.mono (yA.o w5 E D C M J I (HL.o _ F) zA) ?_;rintro e w6 ⟨bb,rfl,zB,zS⟩;have Y:=F.trans (zS.mono F.size);clear zA;obtain rfl:bb=true:=zB.2 zN.o;clear zB)
            |(go_at_call 97;refine Calls.mono (yG.o w6 (HL.o _ Y)) ?_;rintro e w7 ⟨cc,rfl,zO,yD⟩;have B7:=Y.trans (yD.mono Y.size);obtain rfl:cc=true:=zO.2 zZ.o;clear zO))
         all_goals (go_wp2_with fail;go_meet;exact⟨rfl,B7⟩)
        case rest=>
         clear N Q R U y4 y5 y6 y7 y8 y9 q t x y z A B;obtain⟨rfl,zC⟩:=hcut;have zF:Below w.heap.size w _:=H.o.trans (zC.o.mono H.o.size);have yE:=Yx ((zX.o _ zC.o).range);have yF:=Yx (zY.o _ zC.o);go_wp2_with (refine wpList_load_mid rfl 43 _ rfl w.heap.size 0 rfl (Yh v a) _ yE.o underlying43 rfl (by kernel_rfl) ?_)
         refine bodyPost_ret (v:=.tuple #[Yz wc.heap.size,.bool true]) (by simp[results,results45,go_sem]) rfl ?_
         refine⟨zF.alloc zF.size _,.inr ⟨r,_,d,m,O,P,L,base,yL.o,rfl,Aa.new _ [.int .i32 0,.int .u32 0,Zg v.wd,Zg v.ak,.slice a.sa v.ss.length a.sc,.slice a.ta v.tt.length a.tc,Zg v.sw,Zg v.now,Zg v.given,Zg v.ae,.slice a.ka v.ks.length a.kc,.slice a.pa v.ps.length a.pc,.slice a.la v.ls.length a.lc,Zg v.ph,.slice a.qa v.qs.length a.qc,.slice a.ma v.ms.length a.mc,Zg v.ag,Zg v.at_,Zg v.ro,Yz d] 166,(yF.o).below (Zy),zG.o.1,zF.size,fun b hb=>yF.o.cg b hb,zG.o.2,_,heap_alloc_new _ _⟩⟩
       ·have zM:Hid (¬Ei v):=fun⟨r',h⟩=>by obtain rfl:=zJ.o.cz h.run;exact hQ (by rw[hP.1.2.2.2];exact h.round)
        have zN:=Yx hP;have zZ:=Yx hQ;clear hP hQ;go_upto_region 4 with fail;generalize (.agg (Yi v a):Value)=dv0;go_cut [56] (fun u wx=>u=.bool true/\Hid (Zz wc wx))
        case first=>
         clear N Q R U y4 y5 y6 y7 y8 y9 q t x y z A B
         go_region_held3 (fun X=>X.cell? (Ze (w.heap.size) 4)=some (Zg v.sw)/\X.cell? (Ze (w.heap.size) 5)=some (Zg v.now)/\X.cell? (Ze (w.heap.size) 6)=some (Zg v.given)/\X.cell? (Ze (w.heap.size) 7)=some (Zg v.ae)/\X.cell? (Ze (w.heap.size) 8)=some (.slice a.ka v.ks.length a.kc)/\X.cell? (Ze (w.heap.size) 9)=some (.slice a.pa v.ps.length a.pc)/\X.cell? (Ze (w.heap.size) 10)=some (.slice a.la v.ls.length a.lc)/\X.cell? (Ze (w.heap.size) 11)=some (Zg v.ph)/\X.cell? (Ze (w.heap.size) 12)=some (.slice a.qa v.qs.length a.qc)/\X.cell? (Ze (w.heap.size) 13)=some (.slice a.ma v.ms.length a.mc)/\X.cell? (Ze (w.heap.size) 14)=some (Zg v.ag)/\X.cell? (Ze (w.heap.size) 15)=some (Zg v.at_)/\X.cell? (Ze (w.heap.size) 16)=some (Zg v.ro)/\X.cell? (Ze d 0)=some (Zg v.wd)/\X.cell? (Ze d 4)=some (Zg r.ae))
          (first
            |with_reducible exact Z.o _ D0
            |with_reducible exact Z.o _ F
            |with_reducible exact Z.o _ Y
            |with_reducible exact Z.o _ B7)
          (first
            |(go_at_call 96;refine Calls.mono (yB.o wc.drew D0) ?_;rintro e w5 ⟨E,M,D,J,C,I,rfl,zA,zR⟩;have F:Below wc.heap.size wc w5:=D0.trans zR)
            |(go_at_call 95;refine Calls.mono (yA.o w5 E D C M J I (HL.o _ F) zA) ?_;rintro e w6 ⟨bb,rfl,zB,zS⟩;have Y:=F.trans (zS.mono F.size);clear zA;obtain rfl:bb=true:=zB.2 zN.o;clear zB)
            |(go_at_call 97;refine Calls.mono (yG.o w6 (HL.o _ Y)) ?_;rintro e w7 ⟨cc,rfl,zO,yD⟩;have B7:=Y.trans (yD.mono Y.size);obtain rfl:cc=false:=(by cases cc with|false=>rfl|true=>exact absurd (zO.1 rfl) zZ.o);clear zO))
         all_goals (go_wp2_with fail;go_meet;exact⟨rfl,B7⟩)
        case rest=>
         clear N Q R U y4 y5 y6 y7 y8 y9 q t x y z A B;obtain⟨rfl,zC⟩:=hcut;have zF:Below w.heap.size w _:=H.o.trans (zC.o.mono H.o.size);go_wp2;refine bodyPost_ret (v:=.tuple #[.pointer none,.bool false]) (by simp[results,results45,go_sem]) rfl ?_;exact⟨zF,.inl ⟨zM.o,rfl⟩⟩
      ·have zM:Hid (¬Ei v):=fun⟨r',h⟩=>by obtain rfl:=zJ.o.cz h.run;exact hP h.same
       have zN:=Yx hP;clear hP;go_upto_region 4 with fail;generalize (.agg (Yi v a):Value)=dv0;go_cut [56] (fun u wx=>u=.bool true/\Hid (Zz wc wx))
       case first=>
        clear N Q R U y4 y5 y6 y7 y8 y9 q t x y z A B
        have yC:Hid (∀X,Zz wc X->X.rangeAt w.heap.size 4 (Yt v.sw v.now v.given v.ae a.ka v.ks.length a.kc a.pa v.ps.length a.pc a.la v.ls.length a.lc)):=fun X f=>Aa.fp [Zg v.wd,Zg v.ak,.slice a.sa v.ss.length a.sc,.slice a.ta v.tt.length a.tc] (Yt v.sw v.now v.given v.ae a.ka v.ks.length a.kc a.pa v.ps.length a.pc a.la v.ls.length a.lc) (Yg v.ph a.qa v.qs.length a.qc a.ma v.ms.length a.mc v.ag v.at_ v.ro) (zX.o X f)
        refine wp_region_held_drew (S:=fun X=>X.rangeAt w.heap.size 4 (Yt v.sw v.now v.given v.ae a.ka v.ks.length a.kc a.pa v.ps.length a.pc a.la v.ls.length a.lc)) (by kernel_rfl) (yC.o _ D0) (fun hS=> ?_);refine Bq 0 ⟨some 32,.move (.tmp 5),3, "l7_vault.go:191",#[],none⟩ Zf (by exact hS) ?_;try simp only[Act.put,Zq,Zp,Zo]
        refine Bq 1 ⟨some 33,.binOp .gtr 3 (.tmp 32) (.const Zf) 3,4, "l7_vault.go:191",#[Al 0],none⟩ (.bool false) (by exact hS) ?_;try simp only[Act.put,Zq,Zp,Zo]
        refine Bq 2 ⟨some 34,.move (.tmp 33),4, "l7_vault.go:191",#[Al 1],none⟩ (.bool false) (by exact hS) ?_;try simp only[Act.put,Zq,Zp,Zo]
        refine Bq 3 ⟨some 35,.move (.tmp 4),141, "l7_vault.go:191",#[⟨2,.guard⟩],some (2,false)⟩ (Yz d) (by exact hS) ?_;try simp only[Act.put,Zq,Zp,Zo]
        refine Bq 5 ⟨some 37,.fieldAddr 43 (.tmp 1) 3,0, "l7_vault.go:191",#[⟨2,.guard⟩],some (2,false)⟩ (Yy w.heap.size 4) (by exact hS) ?_;try simp only[Act.put,Zq,Zp,Zo]
        refine Et 6 ⟨some 38,.load 40 (.tmp 37),40, "l7_vault.go:191",#[Al 5,⟨2,.guard⟩],some (2,false)⟩ (.agg (Ys v.sw v.now v.given v.ae a.ka v.ks.length a.kc a.pa v.ps.length a.pc a.la v.ls.length a.lc)) (by exact yieldsIf_load_mid (by rfl) 40 _ rfl w.heap.size 4 rfl (Yt v.sw v.now v.given v.ae a.ka v.ks.length a.kc a.pa v.ps.length a.pc a.la v.ls.length a.lc) _ (fun X h=>h) underlying40 rfl (by kernel_rfl)) (by exact hS) ?_
        try simp only[Act.put,Zq,Zp,Zo]
        refine Br 4 ⟨some 36,.call {callee:=Callee.value (.func 96),args:= #[.tmp 35],argTypes:= #[141]},40, "l7_vault.go:191",#[Al 3,⟨2,.chain⟩,⟨2,.guard⟩],some (2,false)⟩ (fun K hK=> ?_);go_simp;refine Calls.mono (yB.o wc.drew D0) ?_;rintro e w5 ⟨E,M,D,J,C,I,rfl,zA,zR⟩;have F:=D0.trans zR;try go_simp
        refine hK.out _ _ (yC.o w5 F) (fun yZ=> ?_);clear hK K;refine Br 7 ⟨some 39,.call {callee:=Callee.value (.func 95),args:= #[.tmp 36,.tmp 38],argTypes:= #[40,40]},4, "l7_vault.go:191",#[Al 4,Al 6,⟨4,.chain⟩,⟨2,.guard⟩],some (2,false)⟩ (fun K hK=> ?_);go_simp;refine Calls.mono (yA.o w5 E D C M J I (HL.o _ F) zA) ?_;rintro e w6 ⟨bb,rfl,zB,zS⟩;have Y:=F.trans (zS.mono F.size)
        obtain rfl:bb=false:=(by cases bb with|false=>rfl|true=>exact absurd (zB.1 rfl) zN.o);clear zB zA;try go_simp
        refine hK.out _ _ (yC.o w6 Y) (fun g=> ?_);clear hK K;refine Bq 8 ⟨some 40,.unOp .not 4 (.tmp 39),4, "l7_vault.go:191",#[Al 7,⟨2,.guard⟩],some (2,false)⟩ (.bool true) (by exact g) ?_;try simp only[Act.put,Zq,Zp,Zo]
        refine Bq 9 ⟨some 41,.pick (.tmp 34) (.const (.bool true)) (.tmp 40),4, "l7_vault.go:191",#[Al 2,Al 8],none⟩ (.bool true) (by exact g) ?_;try simp only[Act.put,Zq,Zp,Zo]
        refine Bq 10 ⟨some 42,.move (.tmp 41),4, "l7_vault.go:191",#[Al 9,⟨7,.chain⟩],none⟩ (.bool true) (by exact g) ?_;try simp only[Act.put,Zq,Zp,Zo]
        refine DV 11 ⟨some 43,.fieldAddr 43 (.tmp 1) 4,0, "l7_vault.go:191",#[⟨10,.guard⟩],some (10,false)⟩ (by exact g) ?_;try simp only[Act.put,Zq,Zp,Zo]
        refine DV 12 ⟨some 44,.load 41 (.tmp 43),41, "l7_vault.go:191",#[Al 11,⟨10,.guard⟩],some (10,false)⟩ (by exact g) ?_;try simp only[Act.put,Zq,Zp,Zo]
        refine DV 13 ⟨some 45,.move (.tmp 4),141, "l7_vault.go:191",#[⟨10,.guard⟩],some (10,false)⟩ (by exact g) ?_;try simp only[Act.put,Zq,Zp,Zo]
        refine DV 14 ⟨some 46,.nilCheck (.tmp 45),0, "l7_vault.go:191",#[Al 13,⟨10,.guard⟩],some (10,false)⟩ (by exact g) ?_;try simp only[Act.put,Zq,Zp,Zo]
        refine DV 15 ⟨some 47,.fieldAddr 157 (.tmp 46) 0,0, "l7_vault.go:191",#[Al 14,⟨10,.guard⟩],some (10,false)⟩ (by exact g) ?_;try simp only[Act.put,Zq,Zp,Zo]
        refine DV 16 ⟨some 48,.fieldAddr 154 (.tmp 47) 0,0, "l7_vault.go:191",#[Al 15,⟨10,.guard⟩],some (10,false)⟩ (by exact g) ?_;try simp only[Act.put,Zq,Zp,Zo]
        refine DV 17 ⟨some 49,.load 3 (.tmp 48),3, "l7_vault.go:191",#[Al 16,⟨10,.guard⟩],some (10,false)⟩ (by exact g) ?_;try simp only[Act.put,Zq,Zp,Zo]
        refine DV 18 ⟨some 50,.move (.tmp 4),141, "l7_vault.go:191",#[⟨10,.guard⟩],some (10,false)⟩ (by exact g) ?_;try simp only[Act.put,Zq,Zp,Zo]
        refine DV 19 ⟨some 51,.nilCheck (.tmp 50),0, "l7_vault.go:191",#[Al 18,⟨10,.guard⟩],some (10,false)⟩ (by exact g) ?_;try simp only[Act.put,Zq,Zp,Zo]
        refine DV 20 ⟨some 52,.fieldAddr 157 (.tmp 51) 3,0, "l7_vault.go:191",#[Al 19,⟨10,.guard⟩],some (10,false)⟩ (by exact g) ?_;try simp only[Act.put,Zq,Zp,Zo]
        refine DV 21 ⟨some 53,.load 3 (.tmp 52),3, "l7_vault.go:191",#[Al 20,⟨10,.guard⟩],some (10,false)⟩ (by exact g) ?_;try simp only[Act.put,Zq,Zp,Zo]
        refine DV 22 ⟨some 54,.call {callee:=Callee.value (.func 97),args:= #[.tmp 44,.tmp 49,.tmp 53],argTypes:= #[41,3,3]},4, "l7_vault.go:191",#[Al 12,Al 17,Al 21,⟨10,.chain⟩,⟨10,.guard⟩],some (10,false)⟩ (by exact g) ?_;try simp only[Act.put,Zq,Zp,Zo]
        refine DV 23 ⟨some 55,.unOp .not 4 (.tmp 54),4, "l7_vault.go:191",#[Al 22,⟨10,.guard⟩],some (10,false)⟩ (by exact g) ?_;try simp only[Act.put,Zq,Zp,Zo]
        refine Bq 24 ⟨some 56,.pick (.tmp 42) (.const (.bool true)) (.tmp 55),4, "l7_vault.go:191",#[Al 10,Al 23],none⟩ (.bool true) (by exact g) ?_;try simp only[Act.put,Zq,Zp,Zo]
        refine wpAnyH_done (by kernel_rfl) ?_ _;go_wp2_with fail;go_meet;exact⟨rfl,Y⟩
       case rest=>
        clear N Q R U y4 y5 y6 y7 y8 y9 q t x y z A B;obtain⟨rfl,zC⟩:=hcut;have zF:Below w.heap.size w _:=H.o.trans (zC.o.mono H.o.size);go_wp2;refine bodyPost_ret (v:=.tuple #[.pointer none,.bool false]) (by simp[results,results45,go_sem]) rfl ?_;exact⟨zF,.inl ⟨zM.o,rfl⟩⟩
   |false=>
    rw[hlog]at zK;have zV:Dc v.ss v.tt=true->False:=fun h=>by rw[hlog]at h;cases h
    go_enter func45,ntmps45;go_wp2_with fail;rw[←HW.o];refine Calls.mono zE.o ?_;rintro e w1 ⟨rfl,c⟩;replace c:=c.symm;subst c;go_wp2_with fail;refine Calls.mono zH.o ?_;rintro e w1 ⟨rfl,c⟩;replace c:=c.symm;subst c;go_wp2_with fail;refine Calls.mono zK.o ?_;rintro e w2 ⟨rfl,zI⟩;have yN:=bW.trans (zI.mono bW.size);clear N Q R U y4 y5 y6 y7 y8 y9 q t x y z A B;go_wp2
    refine bodyPost_ret (v:=.tuple #[.pointer none,.bool false]) (by simp[results,results45,go_sem]) rfl ?_;exact⟨yN,.inl ⟨fun⟨r,h⟩=>zV h.log,rfl⟩⟩
  ·rw[decide_eq_false hlim]at zH;go_enter func45,ntmps45;go_wp2_with fail;rw[←HW.o];refine Calls.mono zE.o ?_;rintro e w1 ⟨rfl,c⟩;replace c:=c.symm;subst c;go_wp2_with fail;refine Calls.mono zH.o ?_;rintro e w1 ⟨rfl,c⟩;replace c:=c.symm;subst c;clear N Q R U y4 y5 y6 y7 y8 y9 q t x y z A B;go_wp2
   refine bodyPost_ret (v:=.tuple #[.pointer none,.bool false]) (by simp[results,results45,go_sem]) rfl ?_;exact⟨bW,.inl ⟨fun⟨r,h⟩=>hlim h.ak,rfl⟩⟩
 ·rw[decide_eq_false hwd]at zE;go_enter func45,ntmps45;go_wp2_with fail;rw[←HW.o];refine Calls.mono zE.o ?_;rintro e w1 ⟨rfl,c⟩;replace c:=c.symm;subst c;clear N Q R U y4 y5 y6 y7 y8 y9 q t x y z A B;go_wp2;refine bodyPost_ret (v:=.tuple #[.pointer none,.bool false]) (by simp[results,results45,go_sem]) rfl ?_;exact⟨bW,.inl ⟨fun⟨r,h⟩=>hwd h.wd,rfl⟩⟩
def v0:Vd:=⟨0,0,[],[],0,0,0,0,[],[],[],0,[],[],0,0,0⟩
def RJ(wd ak:Int)(ss tt:Zl)(r:Rs):Vd:=⟨wd,ak,ss,tt,wd,r.now,r.given,r.ae,r.ks,r.ps,r.ls,0,[],[],0,0,0⟩
def TJ(wd ak:Int)(ss tt:Zl)(c:Int)(v:Vd):Prop:=
 (¬((1<=wd/\wd<=8)/\(0<=ak/\ak<=1000000)/\Dc ss tt=true)/\c=1/\v=v0)∨
 (((1<=wd/\wd<=8)/\(0<=ak/\ak<=1000000)/\Dc ss tt=true)/\(((∃n,Di wd (ss++tt) n)/\c=2/\v=v0)∨(∃r,Da wd r0 (ss++tt) r/\c=0/\v=RJ wd ak ss tt r)))
theorem TJ.cz{f ak:Int}{b d:Zl}{c a:Int}{v e:Vd}(h:TJ f ak b d c v)(k:TJ f ak b d a e):c=a/\v=e:=by
 rcases h with⟨i,rfl,rfl⟩|⟨g,h⟩<;>rcases k with⟨k1,rfl,rfl⟩|⟨g',k⟩
 ·exact⟨rfl,rfl⟩
 ·exact absurd g' i
 ·exact absurd g k1
 ·rcases h with⟨⟨n,h⟩,rfl,rfl⟩|⟨r,h,rfl,rfl⟩<;>rcases k with⟨⟨m,k⟩,rfl,rfl⟩|⟨q,k,rfl,rfl⟩
  ·exact⟨rfl,rfl⟩
  ·exact absurd k (h.not g.1.1 g.1.2)
  ·exact absurd h (k.not g.1.1 g.1.2)
  ·obtain rfl:=h.cz k;exact⟨rfl,rfl⟩
theorem AL.nil(w:Zh)(base:Nat):AL w base Zc Zc Zc Zc Zc Zc Zc [] v0:=
 ⟨Ao.nil _ _,Ao.nil _ _,⟨rfl,⟨rfl,.inl ⟨rfl,rfl⟩⟩,(fun i k r h=>by cases i<;>cases h),⟨rfl,.inl ⟨rfl,rfl⟩⟩,⟨rfl,.inl ⟨rfl,rfl⟩⟩,List.nodup_nil⟩,Ao.nil _ _,Ao.nil _ _,List.nodup_nil⟩
structure Aag (ss tt:Zl):Prop where
 s:ss.length<=1048576
 t:tt.length<=1048576
 ss:∀s∈ss,s.size<=1048576
 tt:∀s∈tt,s.size<=1048576
theorem Ao.ft{w:Zh}{base n c:Nat}{a:Zk}{b:Zl}(h:Ao w base (.slice a n c) b):Ad w w.heap.size a b:=by obtain⟨f,g,e,d⟩:=h.row;cases e;exact d
section
attribute [local go_sem] Oper.semAt_some
theorem ET.below{P:Program}{gf:Nat}{a:Nat->Array Value}{xs:Zl}{n0:Nat}{w c:Zh}(h:ET P gf a xs n0 w)(b:Zz w c):ET P gf a xs n0 c:=
 fun l J d W e=>h l J d W (b.trans (e.mono b.size))
theorem RK(B base b:Nat)(t:TypeId)(k:Nat->Nat)(f:Nat->Zj)(m:b<B):Ce B (fun n W=>∃v,Boxed W b t v/\W.ownsRow base 9 1 v (k n) (f n)):=by
 rintro n W p row ⟨v,l,h⟩ d a;refine⟨v,l.kept d (fun e=>by have:=(a b e.symm).1;omega),h.kept d ?_⟩;cases hb:v.ownBlock with
 |none=>exact .inl rfl
 |some r=>refine .inr fun e=> ?_;obtain⟨c,q,i⟩:=Lib.ownsRow_kind h r hb;obtain⟨_,o,g,j⟩:=a r e.symm;rw[i]at g;cases g;simp[Bj]at j
theorem Nd(gf:Nat)(recv:Value)(J:∀args w,(callFunc gf args).run prog w=.ok (.enter gf args) w)(xs:Zl)(n0:Nat)(w:Zh)
 (r:ET prog gf (fun l=> #[recv,.func (.yield l) #[] #[]]) xs n0 w) (C:n0<=w.heap.size) (Z:xs.length<=2097152):
 Calls prog 180 #[Zc,.func (.func gf) #[recv] #[]] w fun e A=>∃v,e=.returned v/\A.ownsRow w.heap.size 9 1 v xs.length (xs.map Value.string)/\Zz w A:=by
 obtain⟨O,z,F,G,H⟩:=info_parts CK;refine(callsIn_wide (n:=3)).1 ?_;refine callsIn_of_wp_marks func180 rfl trivial ?_ rfl;simp only[ntmps180,List.size_toArray,List.length_cons,List.length_nil,Nat.reduceAdd,Nat.reduceSub,Array.replicate_succ,Array.replicate_zero,List.push_toArray,List.append_toArray,List.nil_append,List.cons_append]
 gi_wp2_with fail
 have I:=Boxed.new w 22 Zc;have t:Below w.heap.size w (w.alloc (.cells #[Zc] 22)):=(Below.refl _ w).alloc (Zx) _;refine Ha (gf:=gf) (pre:= #[recv]) (lb:= #[]) rfl J (xs:=xs) (n0:=n0) (by simpa using r.below t) (by simp;omega) rfl
  (fun k V=>(∃v,Boxed V w.heap.size 22 v/\V.ownsRow w.heap.size 9 1 v (xs.take k).length ((xs.take k).map Value.string))/\Zz w V)
  (fun _ _=>False)
  ((RK _ _ _ _ (fun k=>(xs.take k).length) (fun k=>(xs.take k).map Value.string) (by simp)).and (DC w (Zx) (by simp)))
  (fun _ _ _ _ h _ _=>h)
  ⟨⟨_,I,World.ownsRow_nil _ _ _ _⟩,t⟩ (fun s=>{tmps:= #[Zc,.func (.func gf) #[recv] #[],Yz w.heap.size,undef,Zc,.string s,.func (.func gf) #[recv] #[],.string s,undef,undef,undef,undef,undef],defers:=[]}) ?assign ?body ?done ?stop
 case assign=>
  intro P Q s V K j
  gi_wp2
  exact j
 case body=>
  rintro P Q k s W g ⟨⟨v,p,b⟩,f⟩ X;have y:=p.cell;have u:(xs.take k).length=k:=by have:=(Zw g).1;simp;omega
  have U:k<xs.length:=(Zw g).1;have E:(xs.take (k+1))=xs.take k++[s]:=by obtain⟨B,rfl⟩:=Zw g;exact Zu B
  gi_wp2_with (gi_at_builtin;refine wpListIn_append_own _ rfl _ _ 22 rfl w.heap.size 9 O Zd 1 16 underlying22 z F G H rfl (by decide) _ _ _ rfl (b.alloc _) ⟨W.heap.size,0,none⟩ 1 1 [.string s] rfl rfl (cell_one_new _ _ _) (by simp[Value.oneCell']) (by unfold maxLen;omega) (by omega) (by have:=f.size;simp;omega) ?_;intro v' R d a _;obtain⟨g',cap',rfl⟩:=ownsRow_succ d;obtain⟨hv1,hv2,hr2,hk2,hb2⟩:=p.appended (by decide) b f.size (Zx) d a;have S:=hv1.cell;have T:=hv1.frozen)
  rw[u]at hv2 hr2 hb2;refine⟨⟨Zm (Zm (by simp) a.size) (by simp),fun q o N m M=> ?_⟩,⟨⟨_,hv2,?_⟩,f.trans hb2⟩,hb2.mono C⟩
  ·simp at N;have x:q<W.heap.size:=(Array.getElem?_eq_some_iff.1 m).1;refine((grownBy_setCell' R w.heap.size _).block q (Zr x (Zm (by simp) a.size)) (fun e=>by cases e;omega)).trans ?_;refine(a.block q (by simp;omega) (fun e=> ?_)).trans ((Below.heap_alloc W _ q x).trans m);obtain⟨c,Y,y⟩:=Lib.ownsRow_kind b q e.symm;rw[y]at m;cases m;simp[Bj]at M
  ·rw[E];simpa [u]using hr2
 case done=>
  rintro D W L ⟨⟨v,p,b⟩,f⟩ j;have y:=p.cell
  gi_wp2
  refine⟨by simp,.inl ⟨_,_,rfl,run_takeDeferred j,?_⟩⟩;rw[Zt (Zx)]at b;exact⟨_,results_tmp rfl _ _ _,v,rfl,ownsRow_putObj b _ j rfl,f.trans ⟨rfl,rfl,rfl,by simp,fun i z=>World.putObj_heap_other (by simp at L;omega)⟩⟩
 case stop=>
  rintro D k W _ h _;exact h.elim
end
theorem JY(a:Nat)(recv:Value)(i:∀args w,(callFunc a args).run prog w=.ok (.enter a args) w)(b:Zl)(f:Nat)(w:Zh)
 (d:ET prog a (fun l=> #[recv,.func (.yield l) #[] #[]]) b f w) (h:f<=w.heap.size) (k:b.length<=2097152):
 Calls prog 147 #[.func (.func a) #[recv] #[]] w fun e g=>∃v,e=.returned v/\g.ownsRow w.heap.size 9 1 v b.length (b.map Value.string)/\Zz w g:=by
 go_enter func147,ntmps147;go_wp2_with fail;refine(Nd a recv i b f w d h k).mono ?_;rintro e m ⟨v,rfl,c,j⟩;go_wp2;go_ret;exact⟨v,rfl,c,j⟩
theorem OB:Cr v0:=⟨by simp[v0],by simp[v0],by simp[v0],by simp[v0],⟨by simp[v0],by simp[v0],by simp[v0],by simp[v0]⟩,⟨by simp[v0],by simp[v0]⟩,by simp[v0,AF]⟩
theorem TJ.fit{l ak:Int}{e f:Zl}{c:Int}{v:Vd}(h:TJ l ak e f c v)(a:Aag e f):Cr v:=by
 rcases h with⟨_,_,rfl⟩|⟨g,⟨_,_,rfl⟩|⟨r,j,_,rfl⟩⟩
 ·exact OB
 ·exact OB
 ·have b:=j.ok (FX g.1.1 g.1.2);have m:=b.bk.len;have n:=b.np;have o:=b.nl;have d:=b.dq;have p:=Ov d;exact⟨a.s,a.t,a.ss,a.tt,⟨by show r.ks.length<=_;omega,fun k i=>by have:=d k i;omega,by show r.ps.length<=_;omega,by show r.ls.length<=_;omega⟩,⟨by simp[RJ],by simp[RJ]⟩,by show AF r.ks<=_;omega⟩
end Go.Proofs.YtdgblkklkaklhaaGreatDoor
