import Derived.Test.YtflhhhnlhlaehaaGreatDoorC20
set_option maxRecDepth 100000
set_option maxHeartbeats 16000000
namespace Go.Proofs.YtflhhhnlhlaehaaGreatDoor
open Go.ChangeShapes Go.WideShapes Go.ChangeAt Go.RowKit _root_.Go.Proofs.Tryz
def Ua (wd:Int) (xs:List ByteArray) (w:World) (e:Ending) (w':World):Prop:=
 ∃(x:An) (T P L:Value) (rs:List Value),Tz wd xs x/\e=.returned (.agg #[.int .i64 x.code,.int .i64 x.wd,.int .i64 x.now,.int .i64 x.given,.int .i64 x.births,T,P,L,.string x.sm,.int .i64 x.le,.string x.a,.string x.b])/\Bk w' w.heap.size T P L rs x.ks x.ps x.ls/\Uq w w'
section
attribute [local go_sem] Oper.semAt_some
theorem Hm {B:Nat} (p:Nat->Prop):Bm B (fun k _=>p k):=fun _ _ _ _ h _ _=>h
theorem AQ.of_grownBy {B:Nat} {W W':World} {row:Option Nat} (hg:W.grownBy W' row) (zA:∀j,row=some j->j<B):AQ B W W':=
 ⟨hg.size,fun b _ hb h _=>(hg.block b (Array.getElem?_eq_some_iff.1 h).1 (fun e=>by have:=zA b e.symm;omega)).trans h⟩
theorem Eh (a b:Option Addr) (n m c d:Nat) (w:World):
 Calls prog 20 #[.agg #[.slice a n c,.slice b m d]] w fun e w'=>e=.returned (.agg #[.slice a n c,.slice b m d])/\Uq w w':=by
 have hb:Below w.heap.size w ((w.alloc (.cells #[.slice a n c,.slice b m d] 27)).alloc (.cells #[.slice a n c,.slice b m d] 66)):=(Ur).alloc (by simp) _;go_enter func20,ntmps20;go_wp2;refine bodyPost_ret (v:=.agg #[.slice a n c,.slice b m d]) (by simp[results,results20,go_sem]) rfl ⟨rfl,?_⟩;exact hb
theorem GL (a b:Option Addr) (n m c d:Nat) (w:World) (hn:n<=1048576) (hm:m<=1048576):
 Calls prog 36 #[.agg #[.slice a n c,.slice b m d]] w fun e w'=>e=.returned (.int .i64 (n+m))/\Uq w w':=by
 have hb:Below w.heap.size w (w.alloc (.cells #[.slice a n c,.slice b m d] 66)):=Ur;go_enter func36,ntmps36;go_wp2;go_ret;exact⟨rfl,hb⟩
theorem DG (a b:Option Addr) (c d:Nat) (ss tt:List ByteArray) (w:World) (hr:Ad w w.heap.size a ss) (hq:Ad w w.heap.size b tt) (hl:ss.length<=1048576) (zR:tt.length<=1048576)
 (hs:∀s∈ss,s.size<=1048576) (zT:∀s∈tt,s.size<=1048576):
 Calls prog 18 #[.agg #[.slice a ss.length c,.slice b tt.length d]] w fun e w'=>e=.returned (.bool (Cb ss tt))/\Uq w w':=by
 refine(callsIn_wide (n:=3)).1 ?_;refine callsIn_of_wp_marks func18 rfl trivial ?_ rfl;simp only[ntmps18,List.size_toArray,List.length_cons,List.length_nil,Nat.reduceAdd,Nat.reduceSub,Array.replicate_succ,Array.replicate_zero,List.push_toArray,List.append_toArray,List.nil_append,List.cons_append]
 gi_wp2_with fail
 refine⟨trivial,?_⟩;have zL:Below w.heap.size w ((w.alloc (.cells #[.slice a ss.length c,.slice b tt.length d] 27)).alloc (.cells #[.bool false] 4)):=(Ur).alloc (by simp) _;have zO:Boxed ((w.alloc (.cells #[.slice a ss.length c,.slice b tt.length d] 27)).alloc (.cells #[.bool false] 4)) (w.heap.size+1) 4 (.bool false):=by
  have:=Boxed.new (w.alloc (.cells #[.slice a ss.length c,.slice b tt.length d] 27)) 4 (.bool false);rwa[World.size_alloc] at this
 have zQ:((w.alloc (.cells #[.slice a ss.length c,.slice b tt.length d] 27)).alloc (.cells #[.bool false] 4)).heap.size=w.heap.size+2:=by simp
 refine(callsIn_wide.2 (Eh a b ss.length tt.length c d _)).mono ?_;rintro e w1 ⟨rfl,zB⟩;have zG:=zL.trans (zB.mono (by simp;omega));have zN:Boxed w1 (w.heap.size+1) 4 (.bool false):=(zB.block _ (by simp)).trans zO;have zU:=zB.size;rw[zQ] at zU;clear zB zO zQ zL
 gi_wp2_with fail
 refine⟨trivial,?_⟩;have zM:Below w.heap.size w (w1.alloc (.cells #[.slice a ss.length c,.slice b tt.length d] 66)):=zG.alloc zG.size _;have zP:=zN.alloc (.cells #[.slice a ss.length c,.slice b tt.length d] 66);refine(callsIn_wide.2 (GL a b ss.length tt.length c d _ hl zR)).mono ?_;rintro e w2 ⟨rfl,zC⟩;have zA:=zM.trans (zC.mono (by simp;omega))
 have zF:Boxed w2 (w.heap.size+1) 4 (.bool false):=(zC.block _ (by simp;omega)).trans zP;have zV:=zC.size;simp at zV;have zW:w2.cell? ⟨w1.heap.size,0,none⟩=some (.slice a ss.length c):=by rw[zC.cell (p:=⟨w1.heap.size,0,none⟩) (by simp)];simp
 have zX:w2.cell? ⟨w1.heap.size,1,none⟩=some (.slice b tt.length d):=by rw[zC.cell (p:=⟨w1.heap.size,1,none⟩) (by simp)];simp
 have yA:=zF.cell;have yB:=zF.frozen;clear zC zP zM zN zG;by_cases hlen:ss.length+tt.length<=4000
 ·gi_wp2_with fail
  have zB:w.heap.size+1<w2.heap.size:=zF.lt;refine Fa (gf:=21) (pre:= #[.agg #[.slice a ss.length c,.slice b tt.length d]]) (lb:= #[]) rfl (enters_of func21 (by kernel_rfl) rfl) (xs:=ss++tt) (n0:=w.heap.size)
   (by simpa using Ie a b c d ss tt w.heap.size w2 (hr.below zA) (hq.below zA) zA.size (by unfold maxLen;omega) (by unfold maxLen;omega)) zA.size rfl
   (fun k V=>Uq w V/\Boxed V (w.heap.size+1) 4 (.bool false)/\GK ((ss++tt).take k)=true)
   (fun _ V=>Uq w V/\Boxed V (w.heap.size+1) 4 (.bool false)/\GK (ss++tt)=false)
   ((CF w (Us) zA.size).and ((BS (.cells #[.bool false] 4) zB).and (Hm _)))
   ((CF w (Us) zA.size).and ((BS (.cells #[.bool false] 4) zB).and (Hm _)))
   ⟨zA,zF,by simp[GK]⟩ (fun s=>{tmps:= #[.agg #[.slice a ss.length c,.slice b tt.length d],.pointer (some ⟨w.heap.size,0,none⟩),.pointer (some ⟨w.heap.size+1,0,none⟩),.pointer (some ⟨w1.heap.size,0,none⟩),.string s,
    .agg #[.slice a ss.length c,.slice b tt.length d],.agg #[.slice a ss.length c,.slice b tt.length d],.agg #[.slice a ss.length c,.slice b tt.length d],.int .i64 (ss.length+tt.length),.bool (decide ((4000:Int)<ss.length+tt.length)),
    .agg #[.slice a ss.length c,.slice b tt.length d],.func (.func 21) #[.agg #[.slice a ss.length c,.slice b tt.length d]] #[],.string s,undef,undef,undef],defers:=[]}) ?assign ?body ?done ?stop
  case assign=>
   intro l2 m2 s V K hK
   gi_wp2
   exact hK
  case body=>
   rintro l2 m2 k s V zI ⟨zD,hx,zE⟩ zZ;have hc:=hx.cell;have hf:=hx.frozen;have zS:s.size<=1048576:=by
    rcases List.mem_append.1 (Ux zI) with h|h
    ·exact hs s h
    ·exact zT s h
   by_cases hbig:5000<s.size
   ·gi_wp2
    refine⟨AQ.of_grownBy (grownBy_setCell' V _ _) (fun j e=>by cases e;exact zB),zD.setCell (p:=⟨w.heap.size+1,0,none⟩) (by simp) _,hx.set _,Nk _ k s zI hbig⟩
   ·gi_wp2
    refine⟨AQ.refl _ _,⟨zD,hx,?_⟩,Below.refl _ _⟩;rw[OA _ k s zI,zE];simp;omega
  case done=>
   rintro D V hD ⟨zD,hx,zE⟩ hK;have hc:=hx.cell;have hf:=hx.frozen;rw[Uw (by omega)] at zE;have zY:D≠w.heap.size+1:=by omega
   have zK:(V.setCell ⟨w.heap.size+1,0,none⟩ (.bool true)).heap[D]?=some (.deferred (some [])):=(KeepsOthers.setCell _ _ _).same D _ hK rfl;have zJ:=hx.set (.bool true);have zH:=cell_kept zJ.cell (grownBy_putObj' _ D (.deferred none)) (fun r e=>by cases e;exact⟨_,zK,rfl⟩)
   gi_wp2
   refine⟨by simp,.inl ⟨_,_,rfl,run_takeDeferred zK,?_⟩⟩;refine⟨.bool true,by simp[results,results18,go_sem,zH],?_,?_⟩
   ·simp only[Cb];rw[show(ss++tt).all (fun s=>decide (s.size<=5000))=true from zE];simp[hlen]
   ·exact(zD.setCell (p:=⟨w.heap.size+1,0,none⟩) (by simp) _).trans ⟨rfl,rfl,rfl,by simp,fun i hi=>World.putObj_heap_other (by omega)⟩
  case stop=>
   rintro D k V hD ⟨zD,hx,zE⟩ hK;have zH:=cell_kept hx.cell (grownBy_putObj' _ D (.deferred none)) (fun r e=>by cases e;exact⟨_,hK,rfl⟩)
   gi_wp2
   refine⟨by simp,.inl ⟨_,_,rfl,run_takeDeferred hK,?_⟩⟩;refine⟨.bool false,by simp[results,results18,go_sem,zH],?_,?_⟩
   ·simp only[Cb];rw[show(ss++tt).all (fun s=>decide (s.size<=5000))=false from zE];simp
   ·exact zD.trans ⟨rfl,rfl,rfl,by simp,fun i hi=>World.putObj_heap_other (by omega)⟩
 ·have zJ:=(zF.set (.bool false)).cell
  gi_wp2
  refine⟨.bool false,by simp[results,results18,go_sem,zJ],?_,zA.setCell (p:=⟨w.heap.size+1,0,none⟩) (by simp) _⟩;simp[Cb,hlen]
end
theorem c6 {w:World} {b:Nat} {a0 a1 a2 a3 a4 a5:Value} (h:Aa w b [a0,a1,a2,a3,a4,a5]):(w.cell? ⟨b,0,none⟩=some a0/\w.frozen? ⟨b,0,none⟩=false)/\(w.cell? ⟨b,1,none⟩=some a1/\w.frozen? ⟨b,1,none⟩=false)/\(w.cell? ⟨b,2,none⟩=some a2/\w.frozen? ⟨b,2,none⟩=false)/\(w.cell? ⟨b,3,none⟩=some a3/\w.frozen? ⟨b,3,none⟩=false)/\(w.cell? ⟨b,4,none⟩=some a4/\w.frozen? ⟨b,4,none⟩=false)/\w.cell? ⟨b,5,none⟩=some a5/\w.frozen? ⟨b,5,none⟩=false:=
 ⟨h 0 _ rfl,h 1 _ rfl,h 2 _ rfl,h 3 _ rfl,h 4 _ rfl,h 5 _ rfl⟩
def TD (n:Nat) (w:World) (ta pa la:Option Addr) (ks:List Kd) (ps:List Pd) (ls:List Ld):Prop:=∀V w',(∀b∈V,b<n)->Tn V w w'->BC w' w'.heap.size ta pa la ks ps ls
theorem Bk.rdS {w:World} {base:Nat} {ta pa la:Option Addr} {tc pc lc:Nat} {rs:List Value} {ks:List Kd} {ps:List Pd} {ls:List Ld} (h:Bk w base (.slice ta ks.length tc) (.slice pa ps.length pc) (.slice la ls.length lc) rs ks ps ls):TD base w ta pa la ks ps ls:=fun V w' hV ht=>by
 obtain⟨_,_,_,_,_,_,e1,e2,e3,hr⟩:=(h.turn ht hV).rows;cases e1;cases e2;cases e3;exact hr
theorem Bk.get {w:World} {base:Nat} {ta pa la:Option Addr} {tc pc lc:Nat} {rs:List Value} {ks:List Kd} {ps:List Pd} {ls:List Ld} (h:Bk w base (.slice ta ks.length tc) (.slice pa ps.length pc) (.slice la ls.length lc) rs ks ps ls):BC w w.heap.size ta pa la ks ps ls:=
 h.rdS [] w (by simp) (Tn.of (Below.refl _ _))
structure Tv (x:An):Prop where
 ks:x.ks.length<=600
 refs:∀k∈x.ks,k.refs.length<=30
 ps:x.ps.length<=100
 ls:x.ls.length<=200
theorem Aa.mid {w:World} {B:Nat} (l1 l2 l3:List Value) (h:Aa w B (l1++(l2++l3))):w.rangeAt B l1.length l2:=fun j v hv=>by
 refine(h (l1.length+j) v ?_).1;rw[List.getElem?_append_right (by omega),Nat.add_sub_cancel_left,List.getElem?_append_left (Ut hv).1];exact hv
theorem IT (n:Int) (w:World):
 Calls prog 17 #[.int .i64 n] w fun e w'=>e=.returned (.bool (decide (0<=n/\n<=1000000)))/\w'=w:=by
 by_cases h1:0<=n
 ·by_cases h2:n<=1000000
  ·go_enter func17,ntmps17
   go_wp2;go_ret;exact⟨AH (by simp[h1,h2]),rfl⟩
  ·have zB:decide (n<=1000000)=false:=by simpa using h2
   go_enter func17,ntmps17;go_wp2;go_ret;exact⟨rfl,rfl⟩
 ·have zA:decide (0<=n)=false:=by simpa using h1
  go_enter func17,ntmps17;go_wp2;go_ret;exact⟨rfl,rfl⟩
structure FV (w:World) (lo k d m base:Nat) (O P L:Value) (v:Vd) (a:Va) (r:Rs):Prop where
 box:Aa w k [.int .i32 0,.int .u32 0,.int .i64 v.wd,.int .i64 v.lim,.slice a.sa v.ss.length a.sc,.slice a.ta v.tt.length a.tc,.int .i64 v.sw,.int .i64 v.now,.int .i64 v.given,.int .i64 v.births,.slice a.ka v.ks.length a.kc,.slice a.pa v.ps.length a.pc,.slice a.la v.ls.length a.lc,.int .i64 v.ph,.slice a.qa v.qs.length a.qc,.slice a.ma v.ms.length a.mc,.int .i64 v.top,.int .i64 v.at_,.int .i64 v.ro,.pointer (some ⟨d,0,none⟩)]
 dr:Dr w base d m O P L v.wd r.now r.given r.births r.ks r.ps r.ls
 hlo:lo<=base
 hlk:lo<=k
 lt:∀b∈vB d m O P L,b<k
 far:base+4<=m
 ty:∃cur,w.heap[k]?=some (.cells cur 128)
def SW (w w':World) (v:Vd) (p:Value) (n:Int):Prop:=
 (∃k:Nat,Eg v.wd (v.ss++v.tt) k/\p=.pointer none/\n=k)∨(∃r d m O P L base,Cn v.wd r0 (v.ss++v.tt) r/\p=.pointer (some ⟨d,0,none⟩)/\n=0/\Dr w' base d m O P L v.wd r.now r.given r.births r.ks r.ps r.ls/\(w.heap.size<=base/\base+4<=m))
theorem IU (v:Vd) (a:Va) (w:World) (hr:BV w w.heap.size a v) (hf:DM v) (hE:Env w):
 Calls prog 31 #[.agg #[.int .i64 v.wd,.int .i64 v.lim,.slice a.sa v.ss.length a.sc,.slice a.ta v.tt.length a.tc,.int .i64 v.sw,.int .i64 v.now,.int .i64 v.given,.int .i64 v.births,.slice a.ka v.ks.length a.kc,.slice a.pa v.ps.length a.pc,.slice a.la v.ls.length a.lc,.int .i64 v.ph,.slice a.qa v.qs.length a.qc,.slice a.ma v.ms.length a.mc,.int .i64 v.top,.int .i64 v.at_,.int .i64 v.ro]] w fun e w'=>Uq w w'/\((¬Fo v/\e=.returned (.tuple #[.pointer none,.bool false]))∨(∃r k d m O P L base,Cg v r/\e=.returned (.tuple #[.pointer (some ⟨k,0,none⟩),.bool true])/\FV w' w.heap.size k d m base O P L v a r)):=by
 obtain⟨W,hW⟩:∃W,W=w.alloc (.cells #[.int .i64 v.wd,.int .i64 v.lim,.slice a.sa v.ss.length a.sc,.slice a.ta v.tt.length a.tc,.int .i64 v.sw,.int .i64 v.now,.int .i64 v.given,.int .i64 v.births,.slice a.ka v.ks.length a.kc,.slice a.pa v.ps.length a.pc,.slice a.la v.ls.length a.lc,.int .i64 v.ph,.slice a.qa v.qs.length a.qc,.slice a.ma v.ms.length a.mc,.int .i64 v.top,.int .i64 v.at_,.int .i64 v.ro] 36):=⟨_,rfl⟩
 have bW:=(AC hW).1;have zW:=(AC hW).2.1;have xW:=(AC hW).2.2;have HX:Hid (Aa W _ _):=(AC hW).2.2;have HR:Hid _:=hr;have HW:Hid _:=hW;have zR:Hid _:=It v.wd W;have zU:Hid _:=IT v.lim W;have zX:Hid _:=DG a.sa a.ta a.sc a.tc v.ss v.tt W (hr.s.below' bW) (hr.t.below' bW) hf.s hf.t hf.ss hf.tt;obtain⟨y0,y1,y2,y3,y4,y5,y6,y7,y8,y9,zE,zF,zG,zH,zI,zJ,zK⟩:=OB xW;clear hW xW hr
 by_cases hwd:1<=v.wd/\v.wd<=8
 ·rw[decide_eq_true hwd] at zR
  by_cases hlim:0<=v.lim/\v.lim<=1000000
  ·rw[decide_eq_true hlim] at zU
   cases hlog:Cb v.ss v.tt with
   |true=>
    rw[hlog] at zX;have yU:=FU hlog;have xJ:v.ss.length<=4000:=by rw[List.length_append] at yU;omega
    have xK:v.tt.length<=4000:=by rw[List.length_append] at yU;omega
    have HD:Hid (∀X,Calls prog 20 #[.agg #[.slice a.sa v.ss.length a.sc,.slice a.ta v.tt.length a.tc]] X fun e w'=>e=.returned (.agg #[.slice a.sa v.ss.length a.sc,.slice a.ta v.tt.length a.tc])/\Uq X w'):=fun X=>Eh a.sa a.ta v.ss.length v.tt.length a.sc a.tc X
    have HP:Hid (∀X,Uq w X->Calls prog 19 #[.int .i64 v.wd,.func (.func 21) #[.agg #[.slice a.sa v.ss.length a.sc,.slice a.ta v.tt.length a.tc]] #[]] X fun e w'=>∃p n,e=.returned (.tuple #[p,.int .i64 n])/\Hid (SW X w' v p n)/\Uq X w'):=fun X hX=>by
     refine(IS v.wd 21 #[.agg #[.slice a.sa v.ss.length a.sc,.slice a.ta v.tt.length a.tc]] #[] (v.ss++v.tt) X hwd.1 hwd.2 (by omega) (fun s hs=>by rcases List.mem_append.1 hs with h|h;exact hf.ss s h;exact hf.tt s h) (hE.below hX) (enters_of func21 (by kernel_rfl) rfl) (fun V hV=>by
      have hb:=hX.trans (hV.mono hX.size);have h1:=Ie a.sa a.ta a.sc a.tc v.ss v.tt X.heap.size V ((HR.o.s.below hb).mono hX.size) ((HR.o.t.below hb).mono hX.size) hV.size (by unfold maxLen;omega) (by unfold maxLen;omega);simpa using h1)).mono ?_
     rintro e w' ⟨hb,⟨n,yC,rfl⟩|⟨r,d,m,O,P,L,base,zD,rfl,Bz,zB⟩⟩
     ·exact⟨_,_,rfl,.inl ⟨n,yC,rfl,rfl⟩,hb⟩
     ·exact⟨_,_,rfl,.inr ⟨r,d,m,O,P,L,base,zD,rfl,rfl,Bz,zB⟩,hb⟩
    clear hE;go_enter func31,ntmps31;go_wp2_with fail;rw[←HW.o];refine Calls.mono zR.o ?_;rintro e w1 ⟨rfl,zA⟩;replace zA:=zA.symm;subst zA;go_wp2_with fail;refine Calls.mono zU.o ?_;rintro e w1 ⟨rfl,zA⟩;replace zA:=zA.symm;subst zA;go_wp2_with fail;refine Calls.mono zX.o ?_;rintro e w2 ⟨rfl,zV⟩;have x2:=Aa.below HX.o zV;have z2:w.heap.size+1<=w2.heap.size:=by have:=zV.size;omega
    have yR:Hid _:=x2;have yF:Hid _:=bW.trans (zV.mono bW.size);clear y0 y1 y2 y3 y4 y5 y6 y7 y8 y9 zE zF zG zH zI zJ zK zR zU zX zV HW;obtain⟨y0,y1,y2,y3,_⟩:=OB x2;clear x2;go_upto_region 3 with fail
    generalize (.agg #[.int .i64 v.wd,.int .i64 v.lim,.slice a.sa v.ss.length a.sc,.slice a.ta v.tt.length a.tc,.int .i64 v.sw,.int .i64 v.now,.int .i64 v.given,.int .i64 v.births,.slice a.ka v.ks.length a.kc,.slice a.pa v.ps.length a.pc,.slice a.la v.ls.length a.lc,.int .i64 v.ph,.slice a.qa v.qs.length a.qc,.slice a.ma v.ms.length a.mc,.int .i64 v.top,.int .i64 v.at_,.int .i64 v.ro]:Value)=dv0
    go_cut [4,5] (fun p u wx=>∃n:Int,u=.int .i64 n/\Hid (SW w wx v p n/\Uq w2 wx))
    case first=>
     go_region_with (first
      |(go_at_call 20;refine(HD.o w2.drew).mono ?_;rintro e w3 ⟨rfl,xA⟩;have yG:Below w2.heap.size w2 w3:=(Below.refl w2.heap.size w2).drew.trans xA;obtain⟨u0,u1,u2,u3,_⟩:=OB (Aa.below yR.o yG);have yT:=yF.o.trans (yG.mono yF.o.size))
      |(go_at_call 19;refine(HP.o w3 yT).mono ?_;rintro e w4 ⟨p,n,rfl,yY,xB⟩;have yW:=yG.trans (xB.mono yG.size)))
     all_goals
      go_wp2_with fail;go_meet;refine⟨n,rfl,?_,yW⟩;rcases yY.o with h|⟨r,d,m,O,P,L,base,q1,q2,q3,q4,q5⟩
      ·exact .inl h
      ·exact .inr ⟨r,d,m,O,P,L,base,q1,q2,q3,q4,Uz yT.size q5.1,q5.2⟩
    case rest=>
     clear y0 y1 y2 y3 HD HP;obtain⟨n,rfl,HQ⟩:=hcut;have yS:Hid _:=Aa.below yR.o HQ.o.2;have zL:Hid _:=yF.o.trans (HQ.o.2.mono yF.o.size);rcases HQ.o.1 with⟨k,yC,hp,hn⟩|⟨r,d,m,O,P,L,base,zD,hp,hn,Bz,zB⟩
     ·subst hp hn
      have xL:0<(k:Int):=by obtain⟨j,_,_,rfl,_⟩:=yC;omega
      have yZ:0<k:=by omega
      have xM:=decide_eq_true yZ;have zY:Hid (¬Fo v):=fun⟨r,h⟩=>Eg.not hwd.1 hwd.2 yC h.run;clear yC HQ;go_upto_region 4 with fail
      go_region
      all_goals go_wp2
      all_goals refine bodyPost_ret (v:=.tuple #[.pointer none,.bool false]) (by simp[results,results31,go_sem]) rfl ?_
      all_goals exact⟨zL.o.drew,.inl ⟨zY.o,rfl⟩⟩
     ·subst hp hn
      have zC:=zD.ok (Fm hwd.1 hwd.2);have zS:Hid _:=zD;have yI:Hid (∀X,Uq wc X->Dr X base d m O P L v.wd r.now r.given r.births r.ks r.ps r.ls):=fun X hX=>Bz.below hX;have zM:Hid _:=zB
      have yM:Hid (∀X,Uq wc X->Calls prog 23 #[.pointer (some ⟨d,0,none⟩)] X fun e w'=>∃(ta:Option Addr) (tc:Nat) (pa:Option Addr) (pc:Nat) (la:Option Addr) (lc:Nat),e=.returned (.agg #[.int .i64 v.wd,.int .i64 r.now,.int .i64 r.given,.int .i64 r.births,.slice ta r.ks.length tc,.slice pa r.ps.length pc,.slice la r.ls.length lc])/\BC w' w'.heap.size ta pa la r.ks r.ps r.ls/\Uq X w'):=fun X hX=>by
       refine(Fh base d m O P L v.wd r.now r.given r.births r.ks r.ps r.ls X (Bz.below hX) zC.kso.nd zC.kso.sz zC.kso.len zC.np zC.nl zC.r30).mono ?_;rintro e w' ⟨T,P',L',rs,rfl,hS,hb⟩;obtain⟨ta,tc,pa,pc,la,lc,rfl,rfl,rfl,hg⟩:=hS.rows;exact⟨ta,tc,pa,pc,la,lc,rfl,hg,hb⟩
      have yL:Hid (∀(X:World) (ta pa la:Option Addr) (tc pc lc:Nat),Uq w X->BC X X.heap.size ta pa la r.ks r.ps r.ls->Calls prog 48 #[.agg #[.int .i64 v.wd,.int .i64 r.now,.int .i64 r.given,.int .i64 r.births,.slice ta r.ks.length tc,.slice pa r.ps.length pc,.slice la r.ls.length lc],.agg #[.int .i64 v.sw,.int .i64 v.now,.int .i64 v.given,.int .i64 v.births,.slice a.ka v.ks.length a.kc,.slice a.pa v.ps.length a.pc,.slice a.la v.ls.length a.lc]] X fun e w'=>Ao ((v.wd=v.sw/\r.now=v.now/\r.given=v.given/\r.births=v.births)/\r.ks=v.ks/\r.ps=v.ps/\r.ls=v.ls) X w' e):=fun X ta pa la tc pc lc hX hS=>KB v.wd r.now r.given r.births v.sw v.now v.given v.births ta pa la a.ka a.pa a.la tc pc lc a.kc a.pc a.lc r.ks v.ks r.ps v.ps r.ls v.ls X hS ((HR.o.st.keep hX).mono hX.size) ⟨by have:=zC.kso.len;omega,by have:=zC.np;omega,by have:=zC.nl;omega⟩ ⟨hf.st.k,hf.st.p,hf.st.l⟩ (fun k hk=>by have:=zC.r30 k hk;omega) hf.st.r
      have yQ:Hid (∀X,Uq w X->Calls prog 49 #[.agg #[.int .i64 v.ph,.slice a.qa v.qs.length a.qc,.slice a.ma v.ms.length a.mc,.int .i64 v.top,.int .i64 v.at_,.int .i64 v.ro],.int .i64 v.wd,.int .i64 r.births] X fun e w'=>Ao (BJ v.wd r.births v.ph v.top v.at_ v.ro v.qs v.ms) X w' e):=fun X hX=>Js v.ph v.top v.at_ v.ro v.wd r.births a.qa a.ma a.qc a.mc v.qs v.ms X (HR.o.q.below' hX) (HR.o.m.below' hX) hf.r hwd.2 zC.births1
      clear zD Bz zB zC HQ;obtain⟨y0,y1,y2,y3,y4,y5,y6,y7,y8,y9,zE,zF,zG,zH,zI,zJ,zK⟩:=OB yS.o
      have yH:Hid (∀X,Uq wc X->Aa X w.heap.size [.int .i64 v.wd,.int .i64 v.lim,.slice a.sa v.ss.length a.sc,.slice a.ta v.tt.length a.tc,.int .i64 v.sw,.int .i64 v.now,.int .i64 v.given,.int .i64 v.births,.slice a.ka v.ks.length a.kc,.slice a.pa v.ps.length a.pc,.slice a.la v.ls.length a.lc,.int .i64 v.ph,.slice a.qa v.qs.length a.qc,.slice a.ma v.ms.length a.mc,.int .i64 v.top,.int .i64 v.at_,.int .i64 v.ro]):=fun X hX=>Aa.below yS.o hX
      have zN:Hid (∀X,Uq wc X->X.cell? ⟨w.heap.size,4,none⟩=some (.int .i64 v.sw)/\X.cell? ⟨w.heap.size,5,none⟩=some (.int .i64 v.now)/\X.cell? ⟨w.heap.size,6,none⟩=some (.int .i64 v.given)/\X.cell? ⟨w.heap.size,7,none⟩=some (.int .i64 v.births)/\X.cell? ⟨w.heap.size,8,none⟩=some (.slice a.ka v.ks.length a.kc)/\X.cell? ⟨w.heap.size,9,none⟩=some (.slice a.pa v.ps.length a.pc)/\X.cell? ⟨w.heap.size,10,none⟩=some (.slice a.la v.ls.length a.lc)/\X.cell? ⟨w.heap.size,11,none⟩=some (.int .i64 v.ph)/\X.cell? ⟨w.heap.size,12,none⟩=some (.slice a.qa v.qs.length a.qc)/\X.cell? ⟨w.heap.size,13,none⟩=some (.slice a.ma v.ms.length a.mc)/\X.cell? ⟨w.heap.size,14,none⟩=some (.int .i64 v.top)/\X.cell? ⟨w.heap.size,15,none⟩=some (.int .i64 v.at_)/\X.cell? ⟨w.heap.size,16,none⟩=some (.int .i64 v.ro)/\X.cell? ⟨d,0,none⟩=some (.int .i64 v.wd)/\X.cell? ⟨d,4,none⟩=some (.int .i64 r.births)):=fun X hX=>by
       obtain⟨n0,n1,n2,n3,n4,n5,n6,n7,n8,n9,xC,xD,xE,xF,xG,xH,xI⟩:=OB (yH.o X hX);exact⟨n4,n5,n6,n7,n8,n9,xC,xD,xE,xF,xG,xH,xI,((yI.o X hX).box 0 _ rfl).1,((yI.o X hX).box 4 _ rfl).1⟩
      have HL:Hid (∀X,Uq wc X->Uq w X):=fun X hX=>zL.o.trans (hX.mono zL.o.size);have D0:Below wc.heap.size wc wc.drew:=(Below.refl _ _).drew;by_cases hP:(v.wd=v.sw/\r.now=v.now/\r.given=v.given/\r.births=v.births)/\r.ks=v.ks/\r.ps=v.ps/\r.ls=v.ls
      ·by_cases hQ:BJ v.wd r.births v.ph v.top v.at_ v.ro v.qs v.ms
       ·have yV:Hid (Cg v r):=⟨hwd,hlim,hlog,zS.o,hP,hP.1.2.2.2▸hQ⟩
        have zZ:Hid _:=hP;have yJ:Hid _:=hQ;clear hP hQ;go_upto_region 4 with fail
        generalize (.agg #[.int .i64 v.wd,.int .i64 v.lim,.slice a.sa v.ss.length a.sc,.slice a.ta v.tt.length a.tc,.int .i64 v.sw,.int .i64 v.now,.int .i64 v.given,.int .i64 v.births,.slice a.ka v.ks.length a.kc,.slice a.pa v.ps.length a.pc,.slice a.la v.ls.length a.lc,.int .i64 v.ph,.slice a.qa v.qs.length a.qc,.slice a.ma v.ms.length a.mc,.int .i64 v.top,.int .i64 v.at_,.int .i64 v.ro]:Value)=dv0
        go_cut [56] (fun u wx=>u=.bool false/\Hid (Uq wc wx))
        case first=>
         clear y0 y1 y2 y3 y4 y5 y6 y7 y8 y9 zE zF zG zH zI zJ zK
         go_region_held3 (fun X=>X.cell? ⟨w.heap.size,4,none⟩=some (.int .i64 v.sw)/\X.cell? ⟨w.heap.size,5,none⟩=some (.int .i64 v.now)/\X.cell? ⟨w.heap.size,6,none⟩=some (.int .i64 v.given)/\X.cell? ⟨w.heap.size,7,none⟩=some (.int .i64 v.births)/\X.cell? ⟨w.heap.size,8,none⟩=some (.slice a.ka v.ks.length a.kc)/\X.cell? ⟨w.heap.size,9,none⟩=some (.slice a.pa v.ps.length a.pc)/\X.cell? ⟨w.heap.size,10,none⟩=some (.slice a.la v.ls.length a.lc)/\X.cell? ⟨w.heap.size,11,none⟩=some (.int .i64 v.ph)/\X.cell? ⟨w.heap.size,12,none⟩=some (.slice a.qa v.qs.length a.qc)/\X.cell? ⟨w.heap.size,13,none⟩=some (.slice a.ma v.ms.length a.mc)/\X.cell? ⟨w.heap.size,14,none⟩=some (.int .i64 v.top)/\X.cell? ⟨w.heap.size,15,none⟩=some (.int .i64 v.at_)/\X.cell? ⟨w.heap.size,16,none⟩=some (.int .i64 v.ro)/\X.cell? ⟨d,0,none⟩=some (.int .i64 v.wd)/\X.cell? ⟨d,4,none⟩=some (.int .i64 r.births))
          (first
            |with_reducible exact zN.o _ D0
            |with_reducible exact zN.o _ B5
            |with_reducible exact zN.o _ B6
            |with_reducible exact zN.o _ B7)
          (first
            |(go_at_call 23;refine Calls.mono (yM.o wc.drew D0) ?_;rintro e w5 ⟨ta,tc,pa,pc,la,lc,rfl,zO,yD⟩;have B5:Below wc.heap.size wc w5:=D0.trans yD)
            |(go_at_call 48;refine Calls.mono (yL.o w5 ta pa la tc pc lc (HL.o _ B5) zO) ?_;rintro e w6 ⟨bb,rfl,zP,yE⟩;have B6:=B5.trans (yE.mono B5.size);clear zO;obtain rfl:bb=true:=zP.2 zZ.o;clear zP)
            |(go_at_call 49;refine Calls.mono (yQ.o w6 (HL.o _ B6)) ?_;rintro e w7 ⟨cc,rfl,yA,yO⟩;have B7:=B6.trans (yO.mono B6.size);obtain rfl:cc=true:=yA.2 yJ.o;clear yA))
         all_goals (go_wp2_with fail;go_meet;exact⟨rfl,B7⟩)
        case rest=>
         clear y0 y1 y2 y3 y4 y5 y6 y7 y8 y9 zE zF zG zH zI zJ zK;obtain⟨rfl,zQ⟩:=hcut;have zT:Below w.heap.size w _:=zL.o.trans (zQ.o.mono zL.o.size);have yK:Hid _:=(yH.o _ zQ.o).range;have yP:Hid _:=yI.o _ zQ.o
         go_wp2_with (refine wpList_load_mid rfl 36 _ rfl w.heap.size 0 rfl [.int .i64 v.wd,.int .i64 v.lim,.slice a.sa v.ss.length a.sc,.slice a.ta v.tt.length a.tc,.int .i64 v.sw,.int .i64 v.now,.int .i64 v.given,.int .i64 v.births,.slice a.ka v.ks.length a.kc,.slice a.pa v.ps.length a.pc,.slice a.la v.ls.length a.lc,.int .i64 v.ph,.slice a.qa v.qs.length a.qc,.slice a.ma v.ms.length a.mc,.int .i64 v.top,.int .i64 v.at_,.int .i64 v.ro] _ yK.o underlying36 rfl (by kernel_rfl) ?_)
         refine bodyPost_ret (v:=.tuple #[.pointer (some ⟨wc.heap.size,0,none⟩),.bool true]) (by simp[results,results31,go_sem]) rfl ?_
         refine⟨zT.alloc zT.size _,.inr ⟨r,_,d,m,O,P,L,base,yV.o,rfl,Aa.new _ [.int .i32 0,.int .u32 0,.int .i64 v.wd,.int .i64 v.lim,.slice a.sa v.ss.length a.sc,.slice a.ta v.tt.length a.tc,.int .i64 v.sw,.int .i64 v.now,.int .i64 v.given,.int .i64 v.births,.slice a.ka v.ks.length a.kc,.slice a.pa v.ps.length a.pc,.slice a.la v.ls.length a.lc,.int .i64 v.ph,.slice a.qa v.qs.length a.qc,.slice a.ma v.ms.length a.mc,.int .i64 v.top,.int .i64 v.at_,.int .i64 v.ro,.pointer (some ⟨d,0,none⟩)] 128,(yP.o).below (Ur),zM.o.1,zT.size,fun b hb=>yP.o.lts b hb,zM.o.2,_,heap_alloc_new _ _⟩⟩
       ·have zY:Hid (¬Fo v):=fun⟨r',h⟩=>by
         obtain rfl:=zS.o.det h.run;exact hQ (by rw[hP.1.2.2.2];exact h.round)
        have zZ:Hid _:=hP;have yJ:Hid _:=hQ;clear hP hQ;go_upto_region 4 with fail
        generalize (.agg #[.int .i64 v.wd,.int .i64 v.lim,.slice a.sa v.ss.length a.sc,.slice a.ta v.tt.length a.tc,.int .i64 v.sw,.int .i64 v.now,.int .i64 v.given,.int .i64 v.births,.slice a.ka v.ks.length a.kc,.slice a.pa v.ps.length a.pc,.slice a.la v.ls.length a.lc,.int .i64 v.ph,.slice a.qa v.qs.length a.qc,.slice a.ma v.ms.length a.mc,.int .i64 v.top,.int .i64 v.at_,.int .i64 v.ro]:Value)=dv0
        go_cut [56] (fun u wx=>u=.bool true/\Hid (Uq wc wx))
        case first=>
         clear y0 y1 y2 y3 y4 y5 y6 y7 y8 y9 zE zF zG zH zI zJ zK
         go_region_held3 (fun X=>X.cell? ⟨w.heap.size,4,none⟩=some (.int .i64 v.sw)/\X.cell? ⟨w.heap.size,5,none⟩=some (.int .i64 v.now)/\X.cell? ⟨w.heap.size,6,none⟩=some (.int .i64 v.given)/\X.cell? ⟨w.heap.size,7,none⟩=some (.int .i64 v.births)/\X.cell? ⟨w.heap.size,8,none⟩=some (.slice a.ka v.ks.length a.kc)/\X.cell? ⟨w.heap.size,9,none⟩=some (.slice a.pa v.ps.length a.pc)/\X.cell? ⟨w.heap.size,10,none⟩=some (.slice a.la v.ls.length a.lc)/\X.cell? ⟨w.heap.size,11,none⟩=some (.int .i64 v.ph)/\X.cell? ⟨w.heap.size,12,none⟩=some (.slice a.qa v.qs.length a.qc)/\X.cell? ⟨w.heap.size,13,none⟩=some (.slice a.ma v.ms.length a.mc)/\X.cell? ⟨w.heap.size,14,none⟩=some (.int .i64 v.top)/\X.cell? ⟨w.heap.size,15,none⟩=some (.int .i64 v.at_)/\X.cell? ⟨w.heap.size,16,none⟩=some (.int .i64 v.ro)/\X.cell? ⟨d,0,none⟩=some (.int .i64 v.wd)/\X.cell? ⟨d,4,none⟩=some (.int .i64 r.births))
          (first
            |with_reducible exact zN.o _ D0
            |with_reducible exact zN.o _ B5
            |with_reducible exact zN.o _ B6
            |with_reducible exact zN.o _ B7)
          (first
            |(go_at_call 23;refine Calls.mono (yM.o wc.drew D0) ?_;rintro e w5 ⟨ta,tc,pa,pc,la,lc,rfl,zO,yD⟩;have B5:Below wc.heap.size wc w5:=D0.trans yD)
            |(go_at_call 48;refine Calls.mono (yL.o w5 ta pa la tc pc lc (HL.o _ B5) zO) ?_;rintro e w6 ⟨bb,rfl,zP,yE⟩;have B6:=B5.trans (yE.mono B5.size);clear zO;obtain rfl:bb=true:=zP.2 zZ.o;clear zP)
            |(go_at_call 49;refine Calls.mono (yQ.o w6 (HL.o _ B6)) ?_;rintro e w7 ⟨cc,rfl,yA,yO⟩;have B7:=B6.trans (yO.mono B6.size);obtain rfl:cc=false:=(by cases cc with|false=>rfl|true=>exact absurd (yA.1 rfl) yJ.o);clear yA))
         all_goals (go_wp2_with fail;go_meet;exact⟨rfl,B7⟩)
        case rest=>
         clear y0 y1 y2 y3 y4 y5 y6 y7 y8 y9 zE zF zG zH zI zJ zK;obtain⟨rfl,zQ⟩:=hcut;have zT:Below w.heap.size w _:=zL.o.trans (zQ.o.mono zL.o.size);go_wp2;refine bodyPost_ret (v:=.tuple #[.pointer none,.bool false]) (by simp[results,results31,go_sem]) rfl ?_;exact⟨zT,.inl ⟨zY.o,rfl⟩⟩
      ·have zY:Hid (¬Fo v):=fun⟨r',h⟩=>by
        obtain rfl:=zS.o.det h.run;exact hP h.same
       have zZ:Hid _:=hP;clear hP;go_upto_region 4 with fail
       generalize (.agg #[.int .i64 v.wd,.int .i64 v.lim,.slice a.sa v.ss.length a.sc,.slice a.ta v.tt.length a.tc,.int .i64 v.sw,.int .i64 v.now,.int .i64 v.given,.int .i64 v.births,.slice a.ka v.ks.length a.kc,.slice a.pa v.ps.length a.pc,.slice a.la v.ls.length a.lc,.int .i64 v.ph,.slice a.qa v.qs.length a.qc,.slice a.ma v.ms.length a.mc,.int .i64 v.top,.int .i64 v.at_,.int .i64 v.ro]:Value)=dv0
       go_cut [56] (fun u wx=>u=.bool true/\Hid (Uq wc wx))
       case first=>
        clear y0 y1 y2 y3 y4 y5 y6 y7 y8 y9 zE zF zG zH zI zJ zK
        have yN:Hid (∀X,Uq wc X->X.rangeAt w.heap.size 4 [.int .i64 v.sw,.int .i64 v.now,.int .i64 v.given,.int .i64 v.births,.slice a.ka v.ks.length a.kc,.slice a.pa v.ps.length a.pc,.slice a.la v.ls.length a.lc]):=fun X hX=>Aa.mid [.int .i64 v.wd,.int .i64 v.lim,.slice a.sa v.ss.length a.sc,.slice a.ta v.tt.length a.tc] [.int .i64 v.sw,.int .i64 v.now,.int .i64 v.given,.int .i64 v.births,.slice a.ka v.ks.length a.kc,.slice a.pa v.ps.length a.pc,.slice a.la v.ls.length a.lc] [.int .i64 v.ph,.slice a.qa v.qs.length a.qc,.slice a.ma v.ms.length a.mc,.int .i64 v.top,.int .i64 v.at_,.int .i64 v.ro] (yH.o X hX)
        refine wp_region_held_drew (S:=fun X=>X.rangeAt w.heap.size 4 [.int .i64 v.sw,.int .i64 v.now,.int .i64 v.given,.int .i64 v.births,.slice a.ka v.ks.length a.kc,.slice a.pa v.ps.length a.pc,.slice a.la v.ls.length a.lc]) (by kernel_rfl) (yN.o _ D0) (fun hS=> ?_)
        refine wpAnyH_take (i:=0) (oi:={dst:=some 32,op:=Op.move (Operand.tmp 5),type:=3,pos:= "l7_vault.go:191",after:= #[],guard:=none}) (v:=.int .i64 0) rfl (by kernel_rfl) (by kernel_rfl) (by kernel_rfl) (fun _ _ _ h=>h) (Or.inl ⟨by rfl,fun _ _=>by go_simp⟩) hS ?_;try simp only[Act.put,List.setIfInBounds_toArray,List.set_cons_zero,List.set_cons_succ]
        refine wpAnyH_take (i:=1) (oi:={dst:=some 33,op:=Op.binOp BinOp.gtr 3 (Operand.tmp 32) (Operand.const (Value.int IntKind.i64 0)) 3,type:=4,pos:= "l7_vault.go:191",after:= #[{on:=0,ground:=Ground.data}],guard:=none}) (v:=.bool false) rfl (by kernel_rfl) (by kernel_rfl) (by kernel_rfl) (fun _ _ _ h=>h) (Or.inl ⟨by rfl,fun _ _=>by go_simp⟩) hS ?_
        try simp only[Act.put,List.setIfInBounds_toArray,List.set_cons_zero,List.set_cons_succ]
        refine wpAnyH_take (i:=2) (oi:={dst:=some 34,op:=Op.move (Operand.tmp 33),type:=4,pos:= "l7_vault.go:191",after:= #[{on:=1,ground:=Ground.data}],guard:=none}) (v:=.bool false) rfl (by kernel_rfl) (by kernel_rfl) (by kernel_rfl) (fun _ _ _ h=>h) (Or.inl ⟨by rfl,fun _ _=>by go_simp⟩) hS ?_;try simp only[Act.put,List.setIfInBounds_toArray,List.set_cons_zero,List.set_cons_succ]
        refine wpAnyH_take (i:=3) (oi:={dst:=some 35,op:=Op.move (Operand.tmp 4),type:=59,pos:= "l7_vault.go:191",after:= #[{on:=2,ground:=Ground.guard}],guard:=some (2,false)}) (v:=.pointer (some ⟨d,0,none⟩)) rfl (by kernel_rfl) (by kernel_rfl) (by kernel_rfl) (fun _ _ _ h=>h) (Or.inl ⟨by rfl,fun _ _=>by go_simp⟩) hS ?_
        try simp only[Act.put,List.setIfInBounds_toArray,List.set_cons_zero,List.set_cons_succ]
        refine wpAnyH_take (i:=5) (oi:={dst:=some 37,op:=Op.fieldAddr 36 (Operand.tmp 1) 3,type:=0,pos:= "l7_vault.go:191",after:= #[{on:=2,ground:=Ground.guard}],guard:=some (2,false)}) (v:=.pointer (some ⟨w.heap.size,4,none⟩)) rfl (by kernel_rfl) (by kernel_rfl) (by kernel_rfl) (fun _ _ _ h=>h) (Or.inl ⟨by rfl,fun _ _=>by go_simp⟩) hS ?_
        try simp only[Act.put,List.setIfInBounds_toArray,List.set_cons_zero,List.set_cons_succ]
        refine wpAnyH_take (i:=6) (oi:={dst:=some 38,op:=Op.load 32 (Operand.tmp 37),type:=32,pos:= "l7_vault.go:191",after:= #[{on:=5,ground:=Ground.data},{on:=2,ground:=Ground.guard}],guard:=some (2,false)}) (v:=.agg #[.int .i64 v.sw,.int .i64 v.now,.int .i64 v.given,.int .i64 v.births,.slice a.ka v.ks.length a.kc,.slice a.pa v.ps.length a.pc,.slice a.la v.ls.length a.lc]) rfl (by kernel_rfl) (by kernel_rfl) (by kernel_rfl) (fun _ _ _ h=>h) (yieldsIf_load_mid (by rfl) 32 _ rfl w.heap.size 4 rfl [.int .i64 v.sw,.int .i64 v.now,.int .i64 v.given,.int .i64 v.births,.slice a.ka v.ks.length a.kc,.slice a.pa v.ps.length a.pc,.slice a.la v.ls.length a.lc] _ (fun X h=>h) underlying32 rfl (by kernel_rfl)) hS ?_
        try simp only[Act.put,List.setIfInBounds_toArray,List.set_cons_zero,List.set_cons_succ]
        refine wpAnyH_ready (rs:=[4]) (by kernel_rfl) (by simp) ?_;refine AllReadyH.cons (o:={dst:=some 36,op:=Op.call {callee:=Callee.value (Operand.func 23),args:= #[Operand.tmp 35],argTypes:= #[59]},type:=32,pos:= "l7_vault.go:191",after:= #[{on:=3,ground:=Ground.data},{on:=2,ground:=Ground.chain},{on:=2,ground:=Ground.guard}],guard:=some (2,false)}) rfl (fun K hK=> ?_) AllReadyH.nil
        go_simp;refine Calls.mono (yM.o wc.drew D0) ?_;rintro e w5 ⟨ta,tc,pa,pc,la,lc,rfl,zO,yD⟩;have B5:=D0.trans yD;try go_simp
        refine hK.out _ _ (yN.o w5 B5) (fun hSb=> ?_);clear hK K;refine wpAnyH_ready (rs:=[7]) (by kernel_rfl) (by simp) ?_
        refine AllReadyH.cons (o:={dst:=some 39,op:=Op.call {callee:=Callee.value (Operand.func 48),args:= #[Operand.tmp 36,Operand.tmp 38],argTypes:= #[32,32]},type:=4,pos:= "l7_vault.go:191",after:= #[{on:=4,ground:=Ground.data},{on:=6,ground:=Ground.data},{on:=4,ground:=Ground.chain},{on:=2,ground:=Ground.guard}],guard:=some (2,false)}) rfl (fun K hK=> ?_) AllReadyH.nil;go_simp
        refine Calls.mono (yL.o w5 ta pa la tc pc lc (HL.o _ B5) zO) ?_;rintro e w6 ⟨bb,rfl,zP,yE⟩;have B6:=B5.trans (yE.mono B5.size);obtain rfl:bb=false:=(by cases bb with|false=>rfl|true=>exact absurd (zP.1 rfl) zZ.o);clear zP zO;try go_simp
        refine hK.out _ _ (yN.o w6 B6) (fun hSc=> ?_);clear hK K
        refine wpAnyH_take (i:=8) (oi:={dst:=some 40,op:=Op.unOp UnOp.not 4 (Operand.tmp 39),type:=4,pos:= "l7_vault.go:191",after:= #[{on:=7,ground:=Ground.data},{on:=2,ground:=Ground.guard}],guard:=some (2,false)}) (v:=.bool true) rfl (by kernel_rfl) (by kernel_rfl) (by kernel_rfl) (fun _ _ _ h=>h) (Or.inl ⟨by rfl,fun _ _=>by go_simp⟩) hSc ?_
        try simp only[Act.put,List.setIfInBounds_toArray,List.set_cons_zero,List.set_cons_succ]
        refine wpAnyH_take (i:=9) (oi:={dst:=some 41,op:=Op.pick (Operand.tmp 34) (Operand.const (Value.bool true)) (Operand.tmp 40),type:=4,pos:= "l7_vault.go:191",after:= #[{on:=2,ground:=Ground.data},{on:=8,ground:=Ground.data}],guard:=none}) (v:=.bool true) rfl (by kernel_rfl) (by kernel_rfl) (by kernel_rfl) (fun _ _ _ h=>h) (Or.inl ⟨by rfl,fun _ _=>by go_simp⟩) hSc ?_
        try simp only[Act.put,List.setIfInBounds_toArray,List.set_cons_zero,List.set_cons_succ]
        refine wpAnyH_take (i:=10) (oi:={dst:=some 42,op:=Op.move (Operand.tmp 41),type:=4,pos:= "l7_vault.go:191",after:= #[{on:=9,ground:=Ground.data},{on:=7,ground:=Ground.chain}],guard:=none}) (v:=.bool true) rfl (by kernel_rfl) (by kernel_rfl) (by kernel_rfl) (fun _ _ _ h=>h) (Or.inl ⟨by rfl,fun _ _=>by go_simp⟩) hSc ?_
        try simp only[Act.put,List.setIfInBounds_toArray,List.set_cons_zero,List.set_cons_succ]
        refine wpAnyH_take (i:=11) (oi:={dst:=some 43,op:=Op.fieldAddr 36 (Operand.tmp 1) 4,type:=0,pos:= "l7_vault.go:191",after:= #[{on:=10,ground:=Ground.guard}],guard:=some (10,false)}) (v:=undef) rfl (by kernel_rfl) (by kernel_rfl) (by kernel_rfl) (fun _ _ _ h=>h) (Or.inr ⟨by rfl,rfl⟩) hSc ?_;try simp only[Act.put,List.setIfInBounds_toArray,List.set_cons_zero,List.set_cons_succ]
        refine wpAnyH_take (i:=12) (oi:={dst:=some 44,op:=Op.load 34 (Operand.tmp 43),type:=34,pos:= "l7_vault.go:191",after:= #[{on:=11,ground:=Ground.data},{on:=10,ground:=Ground.guard}],guard:=some (10,false)}) (v:=undef) rfl (by kernel_rfl) (by kernel_rfl) (by kernel_rfl) (fun _ _ _ h=>h) (Or.inr ⟨by rfl,rfl⟩) hSc ?_
        try simp only[Act.put,List.setIfInBounds_toArray,List.set_cons_zero,List.set_cons_succ]
        refine wpAnyH_take (i:=13) (oi:={dst:=some 45,op:=Op.move (Operand.tmp 4),type:=59,pos:= "l7_vault.go:191",after:= #[{on:=10,ground:=Ground.guard}],guard:=some (10,false)}) (v:=undef) rfl (by kernel_rfl) (by kernel_rfl) (by kernel_rfl) (fun _ _ _ h=>h) (Or.inr ⟨by rfl,rfl⟩) hSc ?_;try simp only[Act.put,List.setIfInBounds_toArray,List.set_cons_zero,List.set_cons_succ]
        refine wpAnyH_take (i:=14) (oi:={dst:=some 46,op:=Op.nilCheck (Operand.tmp 45),type:=0,pos:= "l7_vault.go:191",after:= #[{on:=13,ground:=Ground.data},{on:=10,ground:=Ground.guard}],guard:=some (10,false)}) (v:=undef) rfl (by kernel_rfl) (by kernel_rfl) (by kernel_rfl) (fun _ _ _ h=>h) (Or.inr ⟨by rfl,rfl⟩) hSc ?_
        try simp only[Act.put,List.setIfInBounds_toArray,List.set_cons_zero,List.set_cons_succ]
        refine wpAnyH_take (i:=15) (oi:={dst:=some 47,op:=Op.fieldAddr 105 (Operand.tmp 46) 0,type:=0,pos:= "l7_vault.go:191",after:= #[{on:=14,ground:=Ground.data},{on:=10,ground:=Ground.guard}],guard:=some (10,false)}) (v:=undef) rfl (by kernel_rfl) (by kernel_rfl) (by kernel_rfl) (fun _ _ _ h=>h) (Or.inr ⟨by rfl,rfl⟩) hSc ?_
        try simp only[Act.put,List.setIfInBounds_toArray,List.set_cons_zero,List.set_cons_succ]
        refine wpAnyH_take (i:=16) (oi:={dst:=some 48,op:=Op.fieldAddr 102 (Operand.tmp 47) 0,type:=0,pos:= "l7_vault.go:191",after:= #[{on:=15,ground:=Ground.data},{on:=10,ground:=Ground.guard}],guard:=some (10,false)}) (v:=undef) rfl (by kernel_rfl) (by kernel_rfl) (by kernel_rfl) (fun _ _ _ h=>h) (Or.inr ⟨by rfl,rfl⟩) hSc ?_
        try simp only[Act.put,List.setIfInBounds_toArray,List.set_cons_zero,List.set_cons_succ]
        refine wpAnyH_take (i:=17) (oi:={dst:=some 49,op:=Op.load 3 (Operand.tmp 48),type:=3,pos:= "l7_vault.go:191",after:= #[{on:=16,ground:=Ground.data},{on:=10,ground:=Ground.guard}],guard:=some (10,false)}) (v:=undef) rfl (by kernel_rfl) (by kernel_rfl) (by kernel_rfl) (fun _ _ _ h=>h) (Or.inr ⟨by rfl,rfl⟩) hSc ?_
        try simp only[Act.put,List.setIfInBounds_toArray,List.set_cons_zero,List.set_cons_succ]
        refine wpAnyH_take (i:=18) (oi:={dst:=some 50,op:=Op.move (Operand.tmp 4),type:=59,pos:= "l7_vault.go:191",after:= #[{on:=10,ground:=Ground.guard}],guard:=some (10,false)}) (v:=undef) rfl (by kernel_rfl) (by kernel_rfl) (by kernel_rfl) (fun _ _ _ h=>h) (Or.inr ⟨by rfl,rfl⟩) hSc ?_;try simp only[Act.put,List.setIfInBounds_toArray,List.set_cons_zero,List.set_cons_succ]
        refine wpAnyH_take (i:=19) (oi:={dst:=some 51,op:=Op.nilCheck (Operand.tmp 50),type:=0,pos:= "l7_vault.go:191",after:= #[{on:=18,ground:=Ground.data},{on:=10,ground:=Ground.guard}],guard:=some (10,false)}) (v:=undef) rfl (by kernel_rfl) (by kernel_rfl) (by kernel_rfl) (fun _ _ _ h=>h) (Or.inr ⟨by rfl,rfl⟩) hSc ?_
        try simp only[Act.put,List.setIfInBounds_toArray,List.set_cons_zero,List.set_cons_succ]
        refine wpAnyH_take (i:=20) (oi:={dst:=some 52,op:=Op.fieldAddr 105 (Operand.tmp 51) 3,type:=0,pos:= "l7_vault.go:191",after:= #[{on:=19,ground:=Ground.data},{on:=10,ground:=Ground.guard}],guard:=some (10,false)}) (v:=undef) rfl (by kernel_rfl) (by kernel_rfl) (by kernel_rfl) (fun _ _ _ h=>h) (Or.inr ⟨by rfl,rfl⟩) hSc ?_
        try simp only[Act.put,List.setIfInBounds_toArray,List.set_cons_zero,List.set_cons_succ]
        refine wpAnyH_take (i:=21) (oi:={dst:=some 53,op:=Op.load 3 (Operand.tmp 52),type:=3,pos:= "l7_vault.go:191",after:= #[{on:=20,ground:=Ground.data},{on:=10,ground:=Ground.guard}],guard:=some (10,false)}) (v:=undef) rfl (by kernel_rfl) (by kernel_rfl) (by kernel_rfl) (fun _ _ _ h=>h) (Or.inr ⟨by rfl,rfl⟩) hSc ?_
        try simp only[Act.put,List.setIfInBounds_toArray,List.set_cons_zero,List.set_cons_succ]
        refine wpAnyH_take (i:=22) (oi:={dst:=some 54,op:=Op.call {callee:=Callee.value (Operand.func 49),args:= #[Operand.tmp 44,Operand.tmp 49,Operand.tmp 53],argTypes:= #[34,3,3]},type:=4,pos:= "l7_vault.go:191",after:= #[{on:=12,ground:=Ground.data},{on:=17,ground:=Ground.data},{on:=21,ground:=Ground.data},{on:=10,ground:=Ground.chain},{on:=10,ground:=Ground.guard}],guard:=some (10,false)}) (v:=undef) rfl (by kernel_rfl) (by kernel_rfl) (by kernel_rfl) (fun _ _ _ h=>h) (Or.inr ⟨by rfl,rfl⟩) hSc ?_
        try simp only[Act.put,List.setIfInBounds_toArray,List.set_cons_zero,List.set_cons_succ]
        refine wpAnyH_take (i:=23) (oi:={dst:=some 55,op:=Op.unOp UnOp.not 4 (Operand.tmp 54),type:=4,pos:= "l7_vault.go:191",after:= #[{on:=22,ground:=Ground.data},{on:=10,ground:=Ground.guard}],guard:=some (10,false)}) (v:=undef) rfl (by kernel_rfl) (by kernel_rfl) (by kernel_rfl) (fun _ _ _ h=>h) (Or.inr ⟨by rfl,rfl⟩) hSc ?_
        try simp only[Act.put,List.setIfInBounds_toArray,List.set_cons_zero,List.set_cons_succ]
        refine wpAnyH_take (i:=24) (oi:={dst:=some 56,op:=Op.pick (Operand.tmp 42) (Operand.const (Value.bool true)) (Operand.tmp 55),type:=4,pos:= "l7_vault.go:191",after:= #[{on:=10,ground:=Ground.data},{on:=23,ground:=Ground.data}],guard:=none}) (v:=.bool true) rfl (by kernel_rfl) (by kernel_rfl) (by kernel_rfl) (fun _ _ _ h=>h) (Or.inl ⟨by rfl,fun _ _=>by go_simp⟩) hSc ?_
        try simp only[Act.put,List.setIfInBounds_toArray,List.set_cons_zero,List.set_cons_succ]
        refine wpAnyH_done (by kernel_rfl) ?_ _;go_wp2_with fail;go_meet;exact⟨rfl,B6⟩
       case rest=>
        clear y0 y1 y2 y3 y4 y5 y6 y7 y8 y9 zE zF zG zH zI zJ zK;obtain⟨rfl,zQ⟩:=hcut;have zT:Below w.heap.size w _:=zL.o.trans (zQ.o.mono zL.o.size);go_wp2;refine bodyPost_ret (v:=.tuple #[.pointer none,.bool false]) (by simp[results,results31,go_sem]) rfl ?_;exact⟨zT,.inl ⟨zY.o,rfl⟩⟩
   |false=>
    rw[hlog] at zX;have yB:Cb v.ss v.tt=true->False:=fun h=>by rw[hlog] at h;cases h
    go_enter func31,ntmps31;go_wp2_with fail;rw[←HW.o];refine Calls.mono zR.o ?_;rintro e w1 ⟨rfl,zA⟩;replace zA:=zA.symm;subst zA;go_wp2_with fail;refine Calls.mono zU.o ?_;rintro e w1 ⟨rfl,zA⟩;replace zA:=zA.symm;subst zA;go_wp2_with fail;refine Calls.mono zX.o ?_;rintro e w2 ⟨rfl,zV⟩;have yX:=bW.trans (zV.mono bW.size);clear y0 y1 y2 y3 y4 y5 y6 y7 y8 y9 zE zF zG zH zI zJ zK;go_wp2
    refine bodyPost_ret (v:=.tuple #[.pointer none,.bool false]) (by simp[results,results31,go_sem]) rfl ?_;exact⟨yX,.inl ⟨fun⟨r,h⟩=>yB h.log,rfl⟩⟩
  ·rw[decide_eq_false hlim] at zU
   go_enter func31,ntmps31;go_wp2_with fail;rw[←HW.o];refine Calls.mono zR.o ?_;rintro e w1 ⟨rfl,zA⟩;replace zA:=zA.symm;subst zA;go_wp2_with fail;refine Calls.mono zU.o ?_;rintro e w1 ⟨rfl,zA⟩;replace zA:=zA.symm;subst zA;clear y0 y1 y2 y3 y4 y5 y6 y7 y8 y9 zE zF zG zH zI zJ zK;go_wp2;refine bodyPost_ret (v:=.tuple #[.pointer none,.bool false]) (by simp[results,results31,go_sem]) rfl ?_
   exact⟨bW,.inl ⟨fun⟨r,h⟩=>hlim h.lim,rfl⟩⟩
 ·rw[decide_eq_false hwd] at zR
  go_enter func31,ntmps31;go_wp2_with fail;rw[←HW.o];refine Calls.mono zR.o ?_;rintro e w1 ⟨rfl,zA⟩;replace zA:=zA.symm;subst zA;clear y0 y1 y2 y3 y4 y5 y6 y7 y8 y9 zE zF zG zH zI zJ zK;go_wp2;refine bodyPost_ret (v:=.tuple #[.pointer none,.bool false]) (by simp[results,results31,go_sem]) rfl ?_;exact⟨bW,.inl ⟨fun⟨r,h⟩=>hwd h.wd,rfl⟩⟩
end Go.Proofs.YtflhhhnlhlaehaaGreatDoor
