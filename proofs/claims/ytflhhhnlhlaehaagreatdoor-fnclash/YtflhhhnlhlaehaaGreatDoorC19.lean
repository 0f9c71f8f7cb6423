import Derived.Test.YtflhhhnlhlaehaaGreatDoorC18
set_option maxRecDepth 100000
set_option maxHeartbeats 16000000
namespace Go.Proofs.YtflhhhnlhlaehaaGreatDoor
open Go.ChangeShapes Go.WideShapes Go.ChangeAt Go.RowKit _root_.Go.Proofs.Tryz
def Dx (v:Vd) (S U T P L Q M:Value):List Value:=[.int .i64 v.wd,.int .i64 v.lim,S,U,.int .i64 v.sw,.int .i64 v.now,.int .i64 v.given,.int .i64 v.births,T,P,L,.int .i64 v.ph,Q,M,.int .i64 v.top,.int .i64 v.at_,.int .i64 v.ro]
def Qx (v:Vd) (L:Nat) (X:World) (cs:List Value):Prop:=
 ∃a:Va,cs=Dx v (.slice a.sa v.ss.length a.sc) (.slice a.ta v.tt.length a.tc) (.slice a.ka v.ks.length a.kc) (.slice a.pa v.ps.length a.pc) (.slice a.la v.ls.length a.lc) (.slice a.qa v.qs.length a.qc) (.slice a.ma v.ms.length a.mc)/\BV X L a v
def Uh (v u:Vd) (lo N:Nat) (X:World) (cs:List Value):Prop:=
 (N<=X.heap.size/\lo<=X.heap.size)/\∃S U T P L Q M rs,cs=Dx v S U T P L Q M/\AV X lo S U T P L Q M rs u/\∀g∈IP S U T P L Q M rs,g<N
theorem AV.vra {X:World} {base:Nat} {S U T P L Q M:Value} {rs:List Value} {v:Vd} (h:AV X base S U T P L Q M rs v):Qx v X.heap.size X (Dx v S U T P L Q M):=by
 obtain⟨sa,sc,rfl,h1⟩:=h.s.row;obtain⟨ua,uc,rfl,h2⟩:=h.u.row;obtain⟨ta,tc,pa,pc,la,lc,rfl,rfl,rfl,h3⟩:=h.st.rows;obtain⟨qa,qc,rfl,h4⟩:=h.q.row;obtain⟨ma,mc,rfl,h5⟩:=h.m.row;exact⟨⟨sa,sc,ua,uc,ta,tc,pa,pc,la,lc,qa,qc,ma,mc⟩,rfl,⟨h1,h2,h3,h4,h5⟩⟩
theorem Bw.grown {w w':World} {b q:Nat} {ph top at_ ro:Int} {Q M:Value} (h:Bw w b ph Q M top at_ ro) (hg:w.grownBy w' (some q)) (hq:b≠q):Bw w' b ph Q M top at_ ro:=by
 obtain⟨x0,x1,x2,x3,x4,x5,x6⟩:=h;have hz:=hg.size;exact⟨hg.cell x0 (by simp;omega),hg.cell x1 (by simp;omega),hg.cell x2 (by simp;omega),hg.cell x3 (by simp;omega),hg.cell x4 (by simp;omega),hg.cell x5 (by simp;omega),by omega⟩
theorem IQ (ph top at_ ro:Int) (g h ac bc:Nat) (qs ms:List ByteArray) (w:World) (hq:Ad w w.heap.size (some ⟨g,0,none⟩) qs) (hm:Ad w w.heap.size (some ⟨h,0,none⟩) ms) (hf:FT qs ms):
 Calls prog 69 #[.agg #[.int .i64 ph,.slice (some ⟨g,0,none⟩) qs.length ac,.slice (some ⟨h,0,none⟩) ms.length bc,.int .i64 top,.int .i64 at_,.int .i64 ro]] w fun e w'=>∃x cx y cy,e=.returned (.agg #[.int .i64 ph,.slice (some ⟨x,0,none⟩) qs.length cx,.slice (some ⟨y,0,none⟩) ms.length cy,.int .i64 top,.int .i64 at_,.int .i64 ro])/\
  w'.ownsRow w.heap.size 9 1 (.slice (some ⟨x,0,none⟩) qs.length cx) qs.length (qs.map Value.string)/\w'.ownsRow w.heap.size 9 1 (.slice (some ⟨y,0,none⟩) ms.length cy) ms.length (ms.map Value.string)/\x≠y/\Uq w w':=by
 obtain⟨W,hW⟩:∃W,W=(w.alloc (.cells #[.int .i64 ph,.slice (some ⟨g,0,none⟩) qs.length ac,.slice (some ⟨h,0,none⟩) ms.length bc,.int .i64 top,.int .i64 at_,.int .i64 ro] 34)).alloc (.cells #[.int .i64 0,.slice none 0 0,.slice none 0 0,.int .i64 0,.int .i64 0,.int .i64 0] 34):=⟨_,rfl⟩;have zC:Below w.heap.size w W:=by rw[hW];exact(Ur).alloc (by simp) _
 have x1:Bw W (w.heap.size+1) 0 (.slice none 0 0) (.slice none 0 0) 0 0 0:=by
  rw[hW];exact⟨by simp[go_sem],by simp[go_sem],by simp[go_sem],by simp[go_sem],by simp[go_sem],by simp[go_sem],by simp⟩
 have x0:Bw W w.heap.size ph (.slice (some ⟨g,0,none⟩) qs.length ac) (.slice (some ⟨h,0,none⟩) ms.length bc) top at_ ro:=by
  rw[hW];exact⟨by simp[go_sem],by simp[go_sem],by simp[go_sem],by simp[go_sem],by simp[go_sem],by simp[go_sem],by simp<;>omega⟩
 have f0:∀o,W.frozen? ⟨w.heap.size,o,none⟩=false:=fun o=>by rw[hW];simp[go_sem]
 have f1:∀o,W.frozen? ⟨w.heap.size+1,o,none⟩=false:=fun o=>by rw[hW];simp[go_sem]
 have zM:W.heap.size=w.heap.size+2:=by rw[hW];simp
 have HW:Hid _:=hW;have zD:Hid _:=x0;have zH:Hid _:=x1;have HQ:Hid _:=hq;have HM:Hid _:=hm;clear hW x1 hq hm;obtain⟨a0,a1,a2,a3,a4,a5,a6⟩:=x0;go_enter func69,ntmps69;go_upto_region 1 with fail;rw[←HW.o];go_region_with (first
  |(go_at_call 42;refine(JI g ac qs W.drew (Ad.below' (w:=w) HQ.o zC.drew) hf.q).mono ?_;rintro e w1 ⟨x,cx,rfl,zF,zI⟩;have zA:Below W.heap.size W w1:=(Below.refl W.heap.size W).drew.trans zI;obtain⟨b0,b1,b2,b3,b4,b5,b6⟩:=Bw.below zD.o zA;have lx:=zF.lt x rfl)
  |(go_at_call 42;refine(JI h bc ms w1 (Ad.below' (w:=w) HM.o (zC.trans (zA.mono zC.size))) hf.m).mono ?_;rintro e w2 ⟨y,cy,rfl,zG,zE⟩;have ly:=zG.lt y rfl;have zB:Below W.heap.size W w2:=zA.trans (zE.mono zA.size);obtain⟨c0,c1,c2,c3,c4,c5,c6⟩:=Bw.below zD.o zB;obtain⟨d0,d1,d2,d3,d4,d5,d6⟩:=Bw.below zH.o zB;have e0:∀o,w2.frozen? ⟨w.heap.size,o,none⟩=false:=(fun o=>(zB.frozen (p:=⟨w.heap.size,o,none⟩) (by simp;omega)).trans (f0 o));have e1:∀o,w2.frozen? ⟨w.heap.size+1,o,none⟩=false:=(fun o=>(zB.frozen (p:=⟨w.heap.size+1,o,none⟩) (by simp;omega)).trans (f1 o))))
 all_goals
  have zJ:w2.ownsRow (w.heap.size+2) 9 1 (.slice (some ⟨x,0,none⟩) qs.length cx) qs.length (qs.map Value.string):=(Ci zF zE).mono (by simp;omega);have zK:w2.ownsRow (w.heap.size+2) 9 1 (.slice (some ⟨y,0,none⟩) ms.length cy) ms.length (ms.map Value.string):=zG.mono (by have:=zA.size;omega);have zL:x≠y:=by omega
  have HO:Hid _:=And.intro zJ (And.intro zK (And.intro zL (zC.trans (zB.mono zC.size))));clear zJ zK zF zG zI zE zA zB zD zH HQ HM a0 a1 a2 a3 a4 a5 zC HW;go_wp2
  refine bodyPost_ret (v:=.agg #[.int .i64 ph,.slice (some ⟨x,0,none⟩) qs.length cx,.slice (some ⟨y,0,none⟩) ms.length cy,.int .i64 top,.int .i64 at_,.int .i64 ro]) (by simp[results,results69,go_sem,d0,d1,d2,d3,d4,d5]) rfl ⟨x,cx,y,cy,rfl,?_,?_,HO.o.2.2.1,?_⟩
  ·refine World.ownsRow.mono ?_ (show w.heap.size<=w.heap.size+2 by omega)
   iterate 8 (refine ownsRow_setCell_below ?_ (by simp<;>omega) _)
   exact HO.o.1
  ·refine World.ownsRow.mono ?_ (show w.heap.size<=w.heap.size+2 by omega)
   iterate 8 (refine ownsRow_setCell_below ?_ (by simp<;>omega) _)
   exact HO.o.2.1
  ·iterate 8 (refine Below.setCell ?_ (by simp) _)
   exact HO.o.2.2.2
section
theorem OC (a:Option Addr) (cap:Nat) (ss:List ByteArray) (s:ByteArray) (w:World) (B:Nat) (zB:Ad w B a ss) (hl:ss.length<=1048576):
 Calls prog 140 #[.slice a ss.length cap,.string s] w fun e w'=>∃r:Int,e=.returned (.int .i64 r)/\(0<=r↔s∈ss)/\w'=w:=by
 go_enter func140,ntmps140;go_wp2
 go_loop [8] (fun i=>∃k:Nat,k<=ss.length/\i=.int .i64 k/\Hid (∀j x,j<k->ss[j]?=some x->s≠x)) (fun i=>ss.length -(intOf i).toNat)
 case atStart=>exact⟨0,Nat.zero_le _,rfl,fun j x h=>by omega⟩
 case round=>
  obtain⟨k,hk,rfl,zA⟩:=hrel;by_cases hlt:k<ss.length
  ·obtain⟨b',off,ha,hb,zC⟩:=zB.at hlt
   subst ha;have hg:Hid (ss[k]?=some ss[k]):=Uu hlt;have c0:=zC k _ hg;clear zC zB;generalize ss[k]=x at *
   by_cases h:s=x
   ·subst h
    go_wp2;go_ret;exact⟨_,rfl,⟨fun _=>Ux hg.o,fun _=>by omega⟩,rfl⟩
   ·have zD:=Ck h
    have HA:Hid (∀j y,j<k+1->ss[j]?=some y->s≠y):=by
     intro j y hj hy;rcases Nat.lt_or_ge j k with h'|h'
     ·exact zA.o j y h' hy
     ·obtain rfl:j=k:=by omega
      rw[hg.o] at hy;cases hy;exact h
    clear h zA hg;go_wp2;exact⟨⟨k+1,by omega,by go_num,HA⟩,by simp[intOf];omega⟩
  ·go_wp2
   go_ret;refine⟨_,rfl,⟨fun h=>by omega,fun hs=> ?_⟩,rfl⟩;obtain⟨j,hj⟩:=List.getElem?_of_mem hs;exact absurd rfl (zA.o j s (by have:=(Ut hj).1;omega) hj)
open Classical in
theorem LC (a:Option Addr) (cap:Nat) (ss:List ByteArray) (s:ByteArray) (w:World) (B:Nat) (zA:Ad w B a ss) (hl:ss.length<=1048576):
 Calls prog 104 #[.slice a ss.length cap,.string s] w fun e w'=>e=.returned (.bool (decide (s∈ss)))/\w'=w:=by
 go_enter func104,ntmps104;go_wp2_with fail;refine(OC a cap ss s w B zA hl).mono ?_;rintro e w1 ⟨r,rfl,hr,rfl⟩;by_cases h:0<=r
 ·have hd:decide ((0:Int)<=r)=true:=by simpa using h
  go_wp2;go_ret;exact⟨by rw[decide_eq_true (hr.1 h)];rfl,rfl⟩
 ·have hd:decide ((0:Int)<=r)=false:=by simpa using h
  have zB:¬s∈ss:=fun e=>h (hr.2 e);go_wp2;go_ret;exact⟨by rw[decide_eq_false zB];rfl,rfl⟩
end
section
attribute [local go_sem↓] Go.wp_at_zero Go.wp_at_succ
def TS (W:World) (b c:Nat) (wd:Value) (s t r:Value) (w':World):Prop:=
 w'.cell? ⟨b,0,none⟩=some wd/\w'.cell? ⟨c,0,none⟩=some s/\w'.cell? ⟨c,2,none⟩=some t/\w'.cell? ⟨c,3,none⟩=some r/\Uq W w'
end
section
attribute [local go_sem↓] Go.wp_at_zero Go.wp_at_succ
def TY (w:World) (b:Nat) (wd:Int) (m:Nat):Prop:=w.cell? ⟨b,0,none⟩=some (.int .i64 wd)/\w.cell? ⟨b,1,none⟩=some (.map (some m))/\b<w.heap.size
end
section
open Classical in
noncomputable def shQ (ph:Int) (ks:List Kd) (qs ms:List ByteArray) (s:ByteArray):List ByteArray:=if ¬ph=0/\Av ks s/\¬s∈ms/\¬qs.length=23200 then qs++[s] else qs
theorem Ru {ph:Int} {ks:List Kd} {qs ms:List ByteArray} {s:ByteArray} (h1:¬ph=0) (h2:Av ks s) (h3:¬s∈ms) (h4:¬qs.length=23200):shQ ph ks qs ms s=qs++[s]:=if_pos ⟨h1,h2,h3,h4⟩
theorem FG {ph:Int} {ks:List Kd} {qs ms:List ByteArray} {s:ByteArray} (h:ph=0∨¬Av ks s∨s∈ms∨qs.length=23200):shQ ph ks qs ms s=qs:=if_neg (fun⟨h1,h2,h3,h4⟩=>by rcases h with h|h|h|h;exact h1 h;exact h h2;exact h3 h;exact h4 h)
theorem OD (wd:Int) (m:Nat) (ks:List Kd) (s:ByteArray) (ph top at_ ro:Int) (g h ac bc:Nat) (qs ms:List ByteArray) (w:World) (zK:Qp w wd m ks s) (hq:Ad w w.heap.size (some ⟨g,0,none⟩) qs) (hm:Ad w w.heap.size (some ⟨h,0,none⟩) ms) (hf:FT qs ms):
 Calls prog 67 #[.agg #[.int .i64 wd,.map (some m)],.agg #[.int .i64 ph,.slice (some ⟨g,0,none⟩) qs.length ac,.slice (some ⟨h,0,none⟩) ms.length bc,.int .i64 top,.int .i64 at_,.int .i64 ro],.string s] w fun e w'=>∃x cx y cy,e=.returned (.agg #[.int .i64 ph,.slice (some ⟨x,0,none⟩) (shQ ph ks qs ms s).length cx,.slice (some ⟨y,0,none⟩) ms.length cy,.int .i64 top,.int .i64 at_,.int .i64 ro])/\
  w'.ownsRow w.heap.size 9 1 (.slice (some ⟨x,0,none⟩) (shQ ph ks qs ms s).length cx) (shQ ph ks qs ms s).length ((shQ ph ks qs ms s).map Value.string)/\w'.ownsRow w.heap.size 9 1 (.slice (some ⟨y,0,none⟩) ms.length cy) ms.length (ms.map Value.string)/\x≠y/\Uq w w':=by
 obtain⟨i0,hi,yE,yF,yG⟩:=info_parts Cv;have yQ:=hf.q;have yB:=hf.m;obtain⟨W,hW⟩:∃W,W=((w.alloc (.cells #[.int .i64 wd,.map (some m)] 102)).alloc (.cells #[.int .i64 ph,.slice (some ⟨g,0,none⟩) qs.length ac,.slice (some ⟨h,0,none⟩) ms.length bc,.int .i64 top,.int .i64 at_,.int .i64 ro] 34)).alloc (.cells #[.int .i64 0,.slice none 0 0,.slice none 0 0,.int .i64 0,.int .i64 0,.int .i64 0] 34):=⟨_,rfl⟩
 have zJ:Below w.heap.size w W:=by rw[hW];exact((Ur).alloc (by simp) _).alloc (by simp;omega) _
 have x2:Bw W (w.heap.size+1+1) 0 (.slice none 0 0) (.slice none 0 0) 0 0 0:=by
  rw[hW];exact⟨by simp[go_sem],by simp[go_sem],by simp[go_sem],by simp[go_sem],by simp[go_sem],by simp[go_sem],by simp⟩
 have x1:Bw W (w.heap.size+1) ph (.slice (some ⟨g,0,none⟩) qs.length ac) (.slice (some ⟨h,0,none⟩) ms.length bc) top at_ ro:=by
  rw[hW];exact⟨by simp[go_sem],by simp[go_sem],by simp[go_sem],by simp[go_sem],by simp[go_sem],by simp[go_sem],by simp<;>omega⟩
 have s0:W.cell? ⟨w.heap.size,0,none⟩=some (.int .i64 wd):=by rw[hW];simp[go_sem]
 have s1:W.cell? ⟨w.heap.size,1,none⟩=some (.map (some m)):=by rw[hW];simp[go_sem]
 have f2:∀o,W.frozen? ⟨w.heap.size+1+1,o,none⟩=false:=fun o=>by rw[hW];simp[go_sem]
 have yU:W.heap.size=w.heap.size+3:=by rw[hW];simp
 have HW:Hid _:=hW;have HQ:Hid _:=And.intro hq hm;have zI:Hid _:=zK;clear hW hq hm zK;go_enter func67,ntmps67;go_wp2_with fail;rw[←HW.o];refine(IQ ph top at_ ro g h ac bc qs ms W (Ad.below' HQ.o.1 zJ) (Ad.below' HQ.o.2 zJ) hf).mono ?_;rintro e w2 ⟨x,cx,y,cy,rfl,ox,oy,zZ,zE⟩;have zN:=zJ.trans (zE.mono zJ.size);have zS:Hid _:=x1.below zE;have zT:Hid _:=x2.below zE
 have q0:=(zE.cell (p:=⟨w.heap.size,0,none⟩) (by simp;omega)).trans s0;have q1:=(zE.cell (p:=⟨w.heap.size,1,none⟩) (by simp;omega)).trans s1;have fr:∀o,w2.frozen? ⟨w.heap.size+1+1,o,none⟩=false:=fun o=>(zE.frozen (p:=⟨w.heap.size+1+1,o,none⟩) (by simp<;>omega)).trans (f2 o);have lx:=ox.lt x rfl;have ly:=oy.lt y rfl;have yH:=zE.size
 obtain⟨V,hV⟩:∃V,V=w2.alloc (.cells #[.int .i64 ph,.slice (some ⟨x,0,none⟩) qs.length cx,.slice (some ⟨y,0,none⟩) ms.length cy,.int .i64 top,.int .i64 at_,.int .i64 ro] 34):=⟨_,rfl⟩;have zC:Below w2.heap.size w2 V:=by rw[hV];exact Ur
 have zD:Hid (V.ownsRow (w.heap.size+3) 9 1 (.slice (some ⟨x,0,none⟩) qs.length cx) qs.length (qs.map Value.string)/\V.ownsRow (w.heap.size+3) 9 1 (.slice (some ⟨y,0,none⟩) ms.length cy) ms.length (ms.map Value.string)/\x≠y/\Uq w V):=⟨(Ci ox zC).mono (by omega),(Ci oy zC).mono (by omega),zZ,zN.trans (zC.mono zN.size)⟩
 have H7:Hid (Bw V w2.heap.size ph (.slice (some ⟨x,0,none⟩) qs.length cx) (.slice (some ⟨y,0,none⟩) ms.length cy) top at_ ro):=by
  show Bw V w2.heap.size ph (.slice (some ⟨x,0,none⟩) qs.length cx) (.slice (some ⟨y,0,none⟩) ms.length cy) top at_ ro;rw[hV];exact Bw.new _ _ _ _ _ _ _ _
 have zL:Hid _:=Bw.below zS.o zC;have zM:Hid _:=Bw.below zT.o zC;have yK:=(zC.cell (p:=⟨w.heap.size,0,none⟩) (by simp;omega)).trans q0;have yL:=(zC.cell (p:=⟨w.heap.size,1,none⟩) (by simp;omega)).trans q1;have fv:∀o,V.frozen? ⟨w.heap.size+1+1,o,none⟩=false:=fun o=>(zC.frozen (p:=⟨w.heap.size+1+1,o,none⟩) (by simp<;>omega)).trans (fr o)
 have f7:∀o,V.frozen? ⟨w2.heap.size,o,none⟩=false:=fun o=>by rw[hV];simp[go_sem]
 have yT:V.heap.size=w2.heap.size+1:=by rw[hV];simp
 go_upto_region 2 with fail;rw[←hV];clear hV zC ox oy zE x1 x2 s0 s1 f2 HW zS zT q0 q1 fr zN;generalize w2.heap.size=b7 at *
 obtain⟨a0,a1,a2,a3,a4,a5,a6⟩:=zL.o;obtain⟨c0,c1,c2,c3,c4,c5,c6⟩:=H7.o;obtain⟨d0,d1,d2,d3,d4,d5,d6⟩:=zM.o;have yP:w.heap.size+3<=b7:=by omega
 by_cases p0:ph=0
 ·have HN:Hid (shQ ph ks qs ms s=qs):=FG (.inl p0)
  subst p0;have HO:Hid _:=zD.o;go_wp2;refine bodyPost_ret (v:=.agg #[.int .i64 0,.slice (some ⟨x,0,none⟩) qs.length cx,.slice (some ⟨y,0,none⟩) ms.length cy,.int .i64 top,.int .i64 at_,.int .i64 ro]) (by simp[results,results67,go_sem,d0,d1,d2,d3,d4,d5]) rfl ?_;rw[HN.o];refine⟨x,cx,y,cy,rfl,?_,?_,HO.o.2.2.1,?_⟩
  ·refine World.ownsRow.mono ?_ (show w.heap.size<=w.heap.size+3 by omega)
   iterate 6 (refine ownsRow_setCell_below ?_ (by simp) _)
   exact HO.o.1
  ·refine World.ownsRow.mono ?_ (show w.heap.size<=w.heap.size+3 by omega)
   iterate 6 (refine ownsRow_setCell_below ?_ (by simp) _)
   exact HO.o.2.1
  ·iterate 6 (refine Below.setCell ?_ (by simp<;>omega) _)
   exact HO.o.2.2.2
 have yV:(ph==0)=false:=by simpa using p0
 by_cases p1:qs.length=23200
 ·have HN:Hid (shQ ph ks qs ms s=qs):=FG (.inr (.inr (.inr p1)))
  have yJ:((qs.length:Int)==23200)=true:=by simp;omega
  clear p1;have HO:Hid _:=zD.o;go_wp2;refine bodyPost_ret (v:=.agg #[.int .i64 ph,.slice (some ⟨x,0,none⟩) qs.length cx,.slice (some ⟨y,0,none⟩) ms.length cy,.int .i64 top,.int .i64 at_,.int .i64 ro]) (by simp[results,results67,go_sem,d0,d1,d2,d3,d4,d5]) rfl ?_;rw[HN.o];refine⟨x,cx,y,cy,rfl,?_,?_,HO.o.2.2.1,?_⟩
  ·refine World.ownsRow.mono ?_ (show w.heap.size<=w.heap.size+3 by omega)
   iterate 6 (refine ownsRow_setCell_below ?_ (by simp) _)
   exact HO.o.1
  ·refine World.ownsRow.mono ?_ (show w.heap.size<=w.heap.size+3 by omega)
   iterate 6 (refine ownsRow_setCell_below ?_ (by simp) _)
   exact HO.o.2.1
  ·iterate 6 (refine Below.setCell ?_ (by simp<;>omega) _)
   exact HO.o.2.2.2
 have yJ:((qs.length:Int)==23200)=false:=beq_eq_false_iff_ne.2 (by omega);obtain⟨ok,zG,zF⟩:=zI.o;have HC:Hid _:=zF V zD.o.2.2.2;clear zF zI;go_wp2_with fail;refine Calls.mono HC.o ?_;rintro e w3 ⟨rfl,zB⟩;have yS:=zB.size
 have HO:Hid (w3.ownsRow (w.heap.size+3) 9 1 (.slice (some ⟨x,0,none⟩) qs.length cx) qs.length (qs.map Value.string)/\w3.ownsRow (w.heap.size+3) 9 1 (.slice (some ⟨y,0,none⟩) ms.length cy) ms.length (ms.map Value.string)/\x≠y/\Uq w w3):=⟨Ci zD.o.1 zB,Ci zD.o.2.1 zB,zZ,zD.o.2.2.2.trans (zB.mono zD.o.2.2.2.size)⟩;have H8:Hid _:=Bw.below H7.o zB;have H2:Hid _:=Bw.below zM.o zB
 have zU:Hid _:=Bw.below zL.o zB;have fr:∀o,w3.frozen? ⟨w.heap.size+1+1,o,none⟩=false:=fun o=>(zB.frozen (p:=⟨w.heap.size+1+1,o,none⟩) (by simp<;>omega)).trans (fv o);have f8:∀o,w3.frozen? ⟨b7,o,none⟩=false:=fun o=>(zB.frozen (p:=⟨b7,o,none⟩) (by simp<;>omega)).trans (f7 o);have zQ:=Ad.below' (w:=w) HQ.o.2 HO.o.2.2.2
 clear a0 a1 a2 a3 a4 a5 a6 c0 c1 c2 c3 c4 c5 c6 d0 d1 d2 d3 d4 d5 d6 zB H7 zD zM zL HC yK yL fv f7;obtain⟨a0,a1,a2,a3,a4,a5,a6⟩:=zU.o;obtain⟨c0,c1,c2,c3,c4,c5,c6⟩:=H8.o;obtain⟨d0,d1,d2,d3,d4,d5,d6⟩:=H2.o;cases ok with
 |false=>
  have HN:Hid (shQ ph ks qs ms s=qs):=FG (.inr (.inl (fun hh=>by have:=zG.2 hh;cases this)));clear zG zQ;go_wp2;refine bodyPost_ret (v:=.agg #[.int .i64 ph,.slice (some ⟨x,0,none⟩) qs.length cx,.slice (some ⟨y,0,none⟩) ms.length cy,.int .i64 top,.int .i64 at_,.int .i64 ro]) (by simp[results,results67,go_sem,d0,d1,d2,d3,d4,d5]) rfl ?_;rw[HN.o];refine⟨x,cx,y,cy,rfl,?_,?_,HO.o.2.2.1,?_⟩
  ·refine World.ownsRow.mono ?_ (show w.heap.size<=w.heap.size+3 by omega)
   iterate 6 (refine ownsRow_setCell_below ?_ (by simp) _)
   exact HO.o.1
  ·refine World.ownsRow.mono ?_ (show w.heap.size<=w.heap.size+3 by omega)
   iterate 6 (refine ownsRow_setCell_below ?_ (by simp) _)
   exact HO.o.2.1
  ·iterate 6 (refine Below.setCell ?_ (by simp<;>omega) _)
   exact HO.o.2.2.2
 |true=>
  have zR:=zG.1 rfl;clear zG;have HC:Hid _:=LC (some ⟨h,0,none⟩) bc ms s w3 w3.heap.size zQ yB;clear zQ;go_wp2_with fail;refine Calls.mono HC.o ?_;rintro e w9 ⟨rfl,zY⟩;rw[zY];clear zY;by_cases hin:s∈ms
  ·have HN:Hid (shQ ph ks qs ms s=qs):=FG (.inr (.inr (.inl hin)))
   rw[@decide_eq_true _ (Classical.propDecidable _) hin];clear HC zR;go_wp2;refine bodyPost_ret (v:=.agg #[.int .i64 ph,.slice (some ⟨x,0,none⟩) qs.length cx,.slice (some ⟨y,0,none⟩) ms.length cy,.int .i64 top,.int .i64 at_,.int .i64 ro]) (by simp[results,results67,go_sem,d0,d1,d2,d3,d4,d5]) rfl ?_;rw[HN.o];refine⟨x,cx,y,cy,rfl,?_,?_,HO.o.2.2.1,?_⟩
   ·refine World.ownsRow.mono ?_ (show w.heap.size<=w.heap.size+3 by omega)
    iterate 6 (refine ownsRow_setCell_below ?_ (by simp) _)
    exact HO.o.1
   ·refine World.ownsRow.mono ?_ (show w.heap.size<=w.heap.size+3 by omega)
    iterate 6 (refine ownsRow_setCell_below ?_ (by simp) _)
    exact HO.o.2.1
   ·iterate 6 (refine Below.setCell ?_ (by simp<;>omega) _)
    exact HO.o.2.2.2
  ·have HN:Hid (shQ ph ks qs ms s=qs++[s]):=Ru p0 zR hin p1
   rw[@decide_eq_false _ (Classical.propDecidable _) hin];clear HC zR hin zU HQ zJ a0 a1 a2 a3 a4 a5 a6;go_wp2_with (first
    |(at_builtin;refine wpList_append_lies _ rfl _ _ 25 rfl (w.heap.size+3) 9 i0 (.string ⟨#[]⟩) 1 16 underlying25 hi yE yF yG rfl (by decide) _ qs.length (qs.map Value.string) rfl ?d0 ⟨w3.heap.size,0,none⟩ 1 1 [.string s] rfl rfl ?d1 ?d2 (by decide) ?d3 ?d4 ?d5 _ rfl ?_)
    |go_in)
   case d0=>exact HO.o.1.alloc _
   case d1=>exact cell_one_new w3 (.string s) 9
   case d2=>intro u hu;simp at hu;subst hu;rfl
   case d3=>unfold maxLen;omega
   case d4=>omega
   case d5=>simp;omega
   intro k cap w4 zW zP zO yD;have zH:Below w3.heap.size w3 (w3.alloc (.cells #[.string s] 9)):=Ur;have yI:=zP.size;simp[Value.ownBlock] at yI zO;have zA:(w3.alloc (.cells #[.string s] 9)).grownBy w4 (some x):=by simpa [Value.ownBlock] using zP
   have r7:=(Bw.below H8.o zH).grown zA (by omega);have r2:=(Bw.below H2.o zH).grown zA (by omega);have yM:∀o,w4.frozen? ⟨b7,o,none⟩=false:=fun o=>(zA.frozen_far ⟨b7,o,none⟩ (by simp<;>omega) (by simp<;>omega)).trans ((zH.frozen (p:=⟨b7,o,none⟩) (by simp<;>omega)).trans (f8 o))
   have yN:∀o,w4.frozen? ⟨w.heap.size+1+1,o,none⟩=false:=fun o=>(zA.frozen_far ⟨w.heap.size+1+1,o,none⟩ (by simp<;>omega) (by simp<;>omega)).trans ((zH.frozen (p:=⟨w.heap.size+1+1,o,none⟩) (by simp<;>omega)).trans (fr o))
   have zX:w4.ownsRow (w.heap.size+3) 9 1 (.slice (some ⟨y,0,none⟩) ms.length cy) ms.length (ms.map Value.string):=(HO.o.2.1.alloc _).kept zA (.inr (by simp[Value.ownBlock];omega));have zV:Below w.heap.size w w4:=(HO.o.2.2.2.trans (zH.mono HO.o.2.2.2.size)).grown zA (by simp;omega) (fun j hj=>by cases hj;omega);have yC:k≠y:=by omega
   have yR:¬k=b7:=by omega
   have yO:¬b7=w.heap.size+1+1:=by omega
   have yA:¬w.heap.size+1+1=b7:=by omega
   have zG:w4.ownsRow (w.heap.size+3) 9 1 (.slice (some ⟨k,0,none⟩) (qs.length+1) cap) (qs.length+1) ((qs++[s]).map Value.string):=by simpa using zW
   have HP:Hid _:=And.intro zG (And.intro zX (And.intro yC zV));obtain⟨c0,c1,c2,c3,c4,c5,c6⟩:=r7;obtain⟨d0,d1,d2,d3,d4,d5,d6⟩:=r2;clear zW zG zX zP zA zV zH f8 fr H8 H2 HO;go_wp2
   refine bodyPost_ret (v:=.agg #[.int .i64 ph,.slice (some ⟨k,0,none⟩) (qs.length+1) cap,.slice (some ⟨y,0,none⟩) ms.length cy,.int .i64 top,.int .i64 at_,.int .i64 ro]) (by simp[results,results67,go_sem,d0,d1,d2,d3,d4,d5]) rfl ?_;rw[HN.o];refine⟨k,cap,y,cy,by simp,?_,?_,HP.o.2.2.1,?_⟩
   ·rw[show(qs++[s]).length=qs.length+1 by simp]
    refine World.ownsRow.mono ?_ (show w.heap.size<=w.heap.size+3 by omega)
    iterate 6 (refine ownsRow_setCell_below ?_ (by simp) _)
    refine ownsRow_setCell_other ?_ (by simp[Value.ownBlock];omega) _;exact HP.o.1
   ·refine World.ownsRow.mono ?_ (show w.heap.size<=w.heap.size+3 by omega)
    iterate 6 (refine ownsRow_setCell_below ?_ (by simp) _)
    refine ownsRow_setCell_other ?_ (by simp[Value.ownBlock];omega) _;exact HP.o.2.1
   ·iterate 7 (refine Below.setCell ?_ (by simp<;>omega) _)
    exact HP.o.2.2.2
end
section
attribute [local go_sem↓] Go.wp_at_zero Go.wp_at_succ
def seen (ks:List Kd) (k:Nat) (n:Int):Bool:=(ks.take k).any (fun x=>decide (x.born=n))
def flags (ks:List Kd) (k:Nat):List Value:=(List.range 601).map (fun(n:Nat)=>Value.bool (seen ks k n))
def later (ks:List Kd) (k:Nat):List Int:=((ks.take k).map (·.born)).filter (fun b=>decide (600<b))
theorem OE {ks:List Kd} {k:Nat} {x:Kd} (hx:ks[k]?=some x):ks.take (k+1)=ks.take k++[x]:=by
 obtain⟨h,rfl⟩:=Ut hx;exact Uv h
structure Ui (w wr:World) (ks:List Kd) (k:Nat) (v:Value):Prop where
 bel:Below w.heap.size w wr
 fl:wr.ownsRow (w.heap.size+1) 4 1 (.slice (some ⟨w.heap.size+1,0,none⟩) 601 601) 601 (flags ks k)
 la:wr.ownsRow (w.heap.size+2) 3 1 v (later ks k).length ((later ks k).map (Value.int .i64))
def TC (wd births:Int) (ks:List Kd):Prop:=(∀(i:Nat) k,ks[i]?=some k->RU wd ks i k)/\(∀(i:Nat) k,ks[i]?=some k->Oa births ks i k)/\(∀(i:Nat) k,ks[i]?=some k->Qn ks k)
end
section
attribute [local go_sem↓] Go.wp_at_zero Go.wp_at_succ
def TZ (ks:List Kd) (k:Nat) (f:Lit->Option Value):Prop:=∀z:Int,f (.int .i64 z)=if seen ks k z=true then some (.int .i64 1) else none
end
section
def Fp (wd:Int) (k:Kd):Int:=1+k.refs.length *wd+k.text.size
def CT (wd:Int) (ks:List Kd):Int:=(ks.map (Fp wd)).sum
theorem IR {wd:Int} {ks:List Kd} {k:Nat} {x:Kd} (hx:ks[k]?=some x):CT wd (ks.take (k+1))=CT wd (ks.take k)+Fp wd x:=by
 unfold CT;rw[OE hx,List.map_append,List.sum_append];simp
theorem LD {wd:Int} {x:Kd} (h:As x.text x.refs wd=true):1<=Fp wd x/\Fp wd x<=2241/\0<=(x.refs.length:Int) *wd/\(x.refs.length:Int) *wd<=240:=by
 have h:=AY h;have h1:=h.lo;have h2:=h.hi;have h3:=h.refs;have h4:=h.text;have m0:0<=(x.refs.length:Int) *wd:=Int.mul_nonneg (by omega) (by omega);have m1:(x.refs.length:Int) *wd<=30 *8:=Int.mul_le_mul (by omega) h2 (by omega) (by omega);unfold Fp;omega
theorem Ic {wd:Int} {ks:List Kd} (h:∀(i:Nat) k,ks[i]?=some k->As k.text k.refs wd=true):∀k,k<=ks.length->0<=CT wd (ks.take k)/\CT wd (ks.take k)<=2241 *k
 |0,_=>by simp[CT]
 |k+1,hk=>by
  have ih:=Ic h k (by omega);have hx:ks[k]?=some (ks[k]'(by omega)):=Uu (by omega);have:=LD (h k _ hx);rw[IR hx];omega
theorem Mo {x:Kd} {wd:Int} (h:As x.text x.refs wd=true):((Am x.text x.refs wd).size:Int)=Fp wd x:=by
 have hp:=AY h;have hb:=hp.bulk;have h1:=hp.lo;unfold Am;rw[if_pos h];have:(ByteArray.mk (AS x.text x.refs).toArray).size=1+(bulk x.refs+x.text.size):=by
  show(AS x.text x.refs).toArray.size=_;simp only[List.size_toArray,AS,List.length_cons,List.length_append,Cc,Array.length_toList];show _+x.text.size+1=_;omega
 rw[this,hb];unfold Fp;have e:((x.refs.length *wd.toNat:Nat):Int)=(x.refs.length:Int) *wd:=by
  rw[Int.natCast_mul,Int.toNat_of_nonneg (by omega)]
 omega
open Classical in
noncomputable def roomOf (wd now given births:Int) (ks:List Kd) (ps:List Pd) (ls:List Ld):Int:=if QN wd now given births ks ps ls then CT wd ks else 0
theorem OF (wd now given births:Int) (a p l:Option Addr) (ac pc lc:Nat) (ks:List Kd) (ps:List Pd) (ls:List Ld) (w:World) (zD:BP w w.heap.size a ks) (hn:ks.length<=600) (zN:∀(i:Nat) k,ks[i]?=some k->As k.text k.refs wd=true) (zM:∀k∈ks,k.text.size<=maxLen) (zL:∀k∈ks,k.refs.length<=1048576):
 Calls prog 64 #[.agg #[.int .i64 wd,.int .i64 now,.int .i64 given,.int .i64 births,.slice a ks.length ac,.slice p ps.length pc,.slice l ls.length lc]] w fun e w'=>e=.returned (.int .i64 (CT wd ks))/\Uq w w':=by
 have zK:Below w.heap.size w (w.alloc (.cells #[.int .i64 wd,.int .i64 now,.int .i64 given,.int .i64 births,.slice a ks.length ac,.slice p ps.length pc,.slice l ls.length lc] 32)):=Ur;have zO:=By.new w wd now given births (.slice a ks.length ac) (.slice p ps.length pc) (.slice l ls.length lc) 32;have zE:Hid (∀(i:Nat) k,ks[i]?=some k->As k.text k.refs wd=true):=zN;have zQ:Hid _:=zD
 have zI:Hid _:=And.intro zM zL;go_enter func64,ntmps64;have zJ:Hid (By _ w.heap.size wd now given births (.slice a ks.length ac) (.slice p ps.length pc) (.slice l ls.length lc)):=zO;obtain⟨x0,x1,x2,x3,x4,x5,x6,x7⟩:=zO;clear zD zN zM zL;go_wp2
 go_loopw [3,9] (fun n i wr=>∃k:Nat,k<=ks.length/\i=.int .i64 k/\n=.int .i64 (CT wd (ks.take k))/\Uq w wr/\Hid (By wr w.heap.size wd now given births (.slice a ks.length ac) (.slice p ps.length pc) (.slice l ls.length lc))) (fun _ i _=>ks.length -(intOf i).toNat)
 case atStart=>exact⟨0,Nat.zero_le _,rfl,by simp[CT],zK,zJ⟩
 case round=>
  clear x0 x1 x2 x3 x4 x5 x6 x7 zJ zK;obtain⟨k,zT,rfl,rfl,zA,HX⟩:=hrel;obtain⟨x0,x1,x2,x3,x4,x5,x6,x7⟩:=HX.o;by_cases hlt:k<ks.length
  ·obtain⟨b,off,ha,hb,hc⟩:=(BP.below zQ.o zA).at hlt
   subst ha;have HG:Hid (ks[k]?=some ks[k]):=Uu hlt;obtain⟨c0,c1,c2,ra,rc,c3,hr⟩:=hc k _ HG.o;have zB:=List.getElem_mem hlt;have m1:=zI.o.1 _ zB;have m2:=zI.o.2 _ zB;have HL:Hid _:=Mo (zE.o k _ HG.o);obtain⟨b1,b2,_,_⟩:=LD (zE.o k _ HG.o);obtain⟨r1,r2⟩:=Ic zE.o k zT;have zR:Hid _:=IR (wd:=wd) HG.o;have zV:b<wr.heap.size:=by omega
   have hR:CT wd (ks.take k)<=1344600:=by omega
   generalize ks[k]=x at *
   generalize Fp wd x=RX at *
   generalize CT wd (ks.take k)=R at *
   have zF:Below wr.heap.size wr (wr.alloc (Obj.cells #[Value.string x.sum,Value.int IntKind.i64 x.born,Value.string x.text,Value.slice ra x.refs.length rc] 115)):=Ur;have HC:Hid _:=Gj x.text ra rc x.refs wd _ ((hr.mono zA.size).below' zF) m2 m1;have zC:Hid _:=And.intro zA (And.intro zF HX.o);have zG:=zA.size;clear hc hr zB r2 zF zA HX m1 m2;go_wp2_with fail;refine Calls.mono HC.o ?_
   rintro e w2 ⟨rfl,zH⟩;have zU:((Am x.text x.refs wd).size:Int)=RX:=HL.o;have zP:Hid (Uq w w2):=(zC.o.1.trans (zC.o.2.1.mono zG)).trans (zH.mono (by simp;omega));have zS:Hid (By w2 w.heap.size wd now given births (.slice (some ⟨b,off,none⟩) ks.length ac) (.slice p ps.length pc) (.slice l ls.length lc)):=By.below (By.below zC.o.2.2 zC.o.2.1) zH;clear zH zC HC x0 x1 x2 x3 x4 x5 x6 c0 c1 c2 c3
   go_wp2;refine⟨⟨k+1,by omega,by go_num,?_,zP.o,zS⟩,by simp[intOf];omega⟩;rw[zR.o]
  ·clear x0 x1 x2 x3 x4 x5 x6
   go_wp2;go_ret;exact⟨Su (by rw[Uw (by omega)]),zA⟩
end
theorem Ge (a b:Option Addr) (c d:Nat) (ss tt:List ByteArray) (w:World) (hr:Ad w w.heap.size a ss) (hq:Ad w w.heap.size b tt) (hl:ss.length<=1048576) (zM:tt.length<=1048576):
 Calls prog 22 #[.agg #[.slice a ss.length c,.slice b tt.length d]] w fun e w'=>∃x cx y cy,e=.returned (.agg #[.slice x ss.length cx,.slice y tt.length cy])/\
  w'.ownsRow w.heap.size 9 1 (.slice x ss.length cx) ss.length (ss.map Value.string)/\w'.ownsRow w.heap.size 9 1 (.slice y tt.length cy) tt.length (tt.map Value.string)/\(∀g,(Value.slice x ss.length cx).ownBlock=some g->(Value.slice y tt.length cy).ownBlock≠some g)/\Uq w w':=by
 obtain⟨W,hW⟩:∃W,W=(w.alloc (.cells #[.slice a ss.length c,.slice b tt.length d] 27)).alloc (.cells #[.slice none 0 0,.slice none 0 0] 27):=⟨_,rfl⟩;have zB:=(Ba hW).1;have x0:=(Ba hW).2.2.1;have x1:Aa W (w.heap.size+1) [.slice none 0 0,.slice none 0 0]:=by
  have h1:=Aa.new (w.alloc (.cells #[.slice a ss.length c,.slice b tt.length d] 27)) [.slice none 0 0,.slice none 0 0] 27;rw[World.size_alloc] at h1;rw[hW];exact h1
 have zN:=(Ba hW).2.1;have HW:Hid _:=hW;have zH:Hid (Aa W _ _):=(Ba hW).2.2.1;have zD:Hid (Aa W (w.heap.size+1) [.slice none 0 0,.slice none 0 0]):=x1;have HQ:Hid (Ad w w.heap.size a ss):=hr;have HM:Hid (Ad w w.heap.size b tt):=hq;obtain⟨a0,a1⟩:=Aa.c2 x0 0 1;clear hW x0 x1 hr hq;go_enter func22,ntmps22;go_upto_region 1 with fail;rw[←HW.o];clear HW;go_region_with (first
  |(go_at_call 42;refine(Di a c ss W.drew (Ad.below' (w:=w) HQ.o zB.drew) hl).mono ?_;rintro e w1 ⟨x,cx,rfl,zF,zI⟩;have zA:Below W.heap.size W w1:=(Below.refl W.heap.size W).drew.trans zI;obtain⟨b1,_⟩:=Aa.below zH.o zA 1 _ rfl)
  |(go_at_call 42;refine(Di b d tt w1 (Ad.below' (w:=w) HM.o (zB.trans (zA.mono zB.size))) zM).mono ?_;rintro e w2 ⟨y,cy,rfl,zG,zE⟩;have zC:Below W.heap.size W w2:=zA.trans (zE.mono zA.size);obtain⟨d0,e0⟩:=Aa.below zD.o zC 0 _ rfl;obtain⟨d1,e1⟩:=Aa.below zD.o zC 1 _ rfl))
 all_goals
  have zJ:w2.ownsRow (w.heap.size+2) 9 1 (.slice x ss.length cx) ss.length (ss.map Value.string):=(Ci zF zE).mono (by simp;omega);have zK:w2.ownsRow (w.heap.size+2) 9 1 (.slice y tt.length cy) tt.length (tt.map Value.string):=zG.mono (by have:=zA.size;omega)
  have zL:∀g,(Value.slice x ss.length cx).ownBlock=some g->(Value.slice y tt.length cy).ownBlock≠some g:=fun g h1 h2=>by have q1:=(Af zF h1).2;have q2:=(Af zG h2).1;omega
  have HO:Hid _:=And.intro zJ (And.intro zK (And.intro zL (zB.trans (zC.mono zB.size))));clear zJ zK zF zG zI zE zA zC zH zD HQ HM a0 a1 zB zL;go_wp2;refine bodyPost_ret (v:=.agg #[.slice x ss.length cx,.slice y tt.length cy]) (by simp[results,results22,go_sem,d0,d1]) rfl ⟨x,cx,y,cy,rfl,?_,?_,HO.o.2.2.1,?_⟩
  ·refine World.ownsRow.mono ?_ (show w.heap.size<=w.heap.size+2 by omega)
   iterate 2 (refine ownsRow_setCell_below ?_ (by simp<;>omega) _)
   exact HO.o.1
  ·refine World.ownsRow.mono ?_ (show w.heap.size<=w.heap.size+2 by omega)
   iterate 2 (refine ownsRow_setCell_below ?_ (by simp<;>omega) _)
   exact HO.o.2.1
  ·iterate 2 (refine Below.setCell ?_ (by simp) _)
   exact HO.o.2.2.2
theorem Nl (a b:Option Addr) (c d:Nat) (ss tt:List ByteArray) (w:World) (hr:Ad w w.heap.size a ss) (hq:Ad w w.heap.size b tt) (hl:ss.length<=100000) (zQ:tt.length<=1048576):
 Calls prog 105 #[.slice a ss.length c,.slice b tt.length d] w fun e w'=>Ao (ss=tt) w w' e:=by
 have HR:Hid (∀X,Uq w X->Ad X w.heap.size a ss/\Ad X w.heap.size b tt):=fun X hX=>⟨hr.below hX,hq.below hX⟩;clear hr hq;by_cases hlen:ss.length=tt.length
 ·have zK:((ss.length:Int) !=(tt.length:Int))=false:=by simp;omega
  have zB:Hid _:=hlen;clear hlen;go_enter func105,ntmps105;go_wp2
  go_loopw [13] (fun i wr=>∃k:Nat,k<=ss.length/\i=.int .i64 k/\Hid (ss.take k=tt.take k/\Uq w wr)) (fun i _=>ss.length -(intOf i).toNat)
  case atStart=>exact⟨0,Nat.zero_le _,rfl,⟨by simp,Below.refl _ _⟩⟩
  case round=>
   obtain⟨k,hk,rfl,HI⟩:=hrel;by_cases hlt:k<ss.length
   ·have zA:k<tt.length:=by have:=zB.o;omega
    obtain⟨rb,ro,ha,zN,zE⟩:=(HR.o wr HI.o.2).1.at hlt;obtain⟨qb,qo,hb,zM,zD⟩:=(HR.o wr HI.o.2).2.at zA;subst ha hb;have c0:=zE k _ (Uu hlt);have d0:=zD k _ (Uu zA);have hz:=HI.o.2.size;have zS:=Uy zN hz;have zR:=Uy zM hz;have zI:Hid _:=Uv hlt;have zJ:Hid _:=Uv zA;have HN:Hid (∀x y,ss[k]?=some x->tt[k]?=some y->x≠y->ss≠tt):=fun x y h1 h2 hne e=>by
     subst e;rw[h1] at h2;exact hne (Option.some.inj h2)
    have zG:Hid _:=Uu hlt;have zH:Hid _:=Uu zA;have zP:(k:Int)<tt.length:=by omega
    clear zE zD;generalize ss[k]=x at *
    generalize tt[k]=y at *
    have HB:Hid _:=HI.o.2;by_cases hxy:x=y
    ·subst hxy
     have zF:(x.toList !=x.toList)=false:=by simp
     go_wp2
     go_region
     all_goals go_wp2
     all_goals exact⟨⟨k+1,by omega,by go_num,⟨by rw[zI.o,zJ.o,HI.o.1],HB.o.drew⟩⟩,by simp[intOf];omega⟩
    ·have zF:=Ck hxy
     have zO:(x.toList !=y.toList)=true:=by simp[bne,zF]
     go_wp2
     go_region
     all_goals go_wp2
     all_goals go_ret
     all_goals exact Ao.no (fun h=>HN.o x y zG.o zH.o hxy h) HB.o.drew
   ·obtain rfl:k=ss.length:=by omega
    have zC:=HI.o.1;rw[Uw (Us),Uw (by have:=zB.o;omega)] at zC;go_wp2;go_ret;exact Ao.yes zC HI.o.2
 ·have zK:((ss.length:Int)==(tt.length:Int))=false:=by simp;omega
  have zL:((ss.length:Int) !=(tt.length:Int))=true:=by simp;omega
  go_enter func105,ntmps105;go_wp2;go_ret;exact Ao.no (fun h=>hlen (by rw[h])) (Below.refl _ _)
theorem Kd.eq_iff (x y:Kd):x=y↔x.sum=y.sum/\x.born=y.born/\x.text=y.text/\x.refs=y.refs:=by
 cases x;cases y;simp
theorem LF (x y:Kd) (a b:Option Addr) (c d:Nat) (w:World) (hr:Ad w w.heap.size a x.refs) (hq:Ad w w.heap.size b y.refs) (hl:x.refs.length<=100000) (zC:y.refs.length<=1048576):
 Calls prog 71 #[.agg #[.string x.sum,.int .i64 x.born,.string x.text,.slice a x.refs.length c],.agg #[.string y.sum,.int .i64 y.born,.string y.text,.slice b y.refs.length d]] w fun e w'=>Ao (x=y) w w' e:=by
 obtain⟨W,hW⟩:∃W,W=(w.alloc (.cells #[.string x.sum,.int .i64 x.born,.string x.text,.slice a x.refs.length c] 115)).alloc (.cells #[.string y.sum,.int .i64 y.born,.string y.text,.slice b y.refs.length d] 115):=⟨_,rfl⟩;have bW:=(Ba hW).1;have x0:=(Ba hW).2.2.1;have x1:Aa W (w.heap.size+1) [.string y.sum,.int .i64 y.born,.string y.text,.slice b y.refs.length d]:=by
  have h1:=Aa.new (w.alloc (.cells #[.string x.sum,.int .i64 x.born,.string x.text,.slice a x.refs.length c] 115)) [.string y.sum,.int .i64 y.born,.string y.text,.slice b y.refs.length d] 115;rw[World.size_alloc] at h1;rw[hW];exact h1
 have HQ:Hid _:=Nl a b c d x.refs y.refs W (hr.below' bW) (hq.below' bW) hl zC;obtain⟨u0,u1,u2,u3⟩:=Aa.c4 x0 0 1 2 3;obtain⟨v0,v1,v2,v3⟩:=Aa.c4 x1 0 1 2 3;have HW:Hid _:=hW;have HE:Hid _:=Kd.eq_iff x y;clear hW hr hq x0 x1;by_cases h1:x.sum=y.sum
 ·have e1:(x.sum.toList==y.sum.toList)=true:=by rw[h1];simp
  have H1:Hid _:=h1;clear h1;by_cases h2:x.born=y.born
  ·have e2:(x.born==y.born)=true:=by simp[h2]
   have H2:Hid _:=h2;clear h2;by_cases h3:x.text=y.text
   ·have e3:(x.text.toList==y.text.toList)=true:=by rw[h3];simp
    have H3:Hid _:=h3;clear h3;go_enter func71,ntmps71;go_upto_region 1 with fail;rw[←HW.o];clear HW;go_wp2_with fail;refine Calls.mono HQ.o ?_;rintro e w1 ⟨bb,rfl,zB,zA⟩;have hB:=bW.trans (zA.mono bW.size);clear u0 u1 u2 u3 v0 v1 v2 v3;go_wp2;go_ret;exact⟨bb,rfl,by rw[zB,HE.o];exact⟨fun h=>⟨H1.o,H2.o,H3.o,h⟩,fun h=>h.2.2.2⟩,hB⟩
   ·have e3:=Ck h3
    go_enter func71,ntmps71;go_upto_region 1 with fail;rw[←HW.o];go_wp2_with fail
    all_goals (try go_wp2)
    all_goals (try go_ret)
    all_goals exact Ao.no (fun h=>h3 (by rw[h])) bW
  ·have e2:(x.born==y.born)=false:=by simp[h2]
   go_enter func71,ntmps71;go_upto_region 1 with fail;rw[←HW.o];go_wp2_with fail
   all_goals (try go_wp2)
   all_goals (try go_ret)
   all_goals exact Ao.no (fun h=>h2 (by rw[h])) bW
 ·have e1:=Ck h1
  go_enter func71,ntmps71;go_upto_region 1 with fail;rw[←HW.o];go_wp2_with fail
  all_goals (try go_wp2)
  all_goals (try go_ret)
  all_goals exact Ao.no (fun h=>h1 (by rw[h])) bW
theorem KA (a b:Option Addr) (c d:Nat) (ks ls:List Kd) (w:World) (hr:BP w w.heap.size a ks) (hq:BP w w.heap.size b ls) (hl:ks.length<=100000) (zY:ls.length<=1048576) (h1:∀k∈ks,k.refs.length<=100000) (h2:∀k∈ls,k.refs.length<=1048576):
 Calls prog 70 #[.slice a ks.length c,.slice b ls.length d,.func (.func 71) #[] #[]] w fun e w'=>Ao (ks=ls) w w' e:=by
 have HR:Hid (∀X,Uq w X->BP X w.heap.size a ks/\BP X w.heap.size b ls):=fun X hX=>⟨hr.below hX,hq.below hX⟩;clear hr hq;by_cases hlen:ks.length=ls.length
 ·have zR:((ks.length:Int) !=(ls.length:Int))=false:=by simp;omega
  have zB:Hid _:=hlen;clear hlen;go_enter func70,ntmps70;go_wp2
  go_loopw [17] (fun i wr=>∃k:Nat,k<=ks.length/\i=.int .i64 k/\Hid (ks.take k=ls.take k/\Uq w wr)) (fun i _=>ks.length -(intOf i).toNat)
  case atStart=>exact⟨0,Nat.zero_le _,rfl,⟨by simp,Below.refl _ _⟩⟩
  case round=>
   obtain⟨k,hk,rfl,HI⟩:=hrel;by_cases hlt:k<ks.length
   ·have zA:k<ls.length:=by have:=zB.o;omega
    obtain⟨rb,ro,ha,zU,zM⟩:=(HR.o wr HI.o.2).1.at hlt;obtain⟨qb,qo,hb,zT,zK⟩:=(HR.o wr HI.o.2).2.at zA;subst ha hb;obtain⟨c0,c1,c2,ra,rc,c3,zL⟩:=zM k _ (Uu hlt);obtain⟨d0,d1,d2,zE,zF,d3,zD⟩:=zK k _ (Uu zA);have hz:=HI.o.2.size;have yA:=Uy zU hz;have zZ:=Uy zT hz;have zP:Hid _:=Uv hlt;have zQ:Hid _:=Uv zA;have HN:Hid (∀x y,ks[k]?=some x->ls[k]?=some y->x≠y->ks≠ls):=fun x y h1 h2 hne e=>by
     subst e;rw[h1] at h2;exact hne (Option.some.inj h2)
    have zN:Hid _:=Uu hlt;have zO:Hid _:=Uu zA;have zV:=h1 _ (List.getElem_mem hlt);have zW:=h2 _ (List.getElem_mem zA);have zX:(k:Int)<ls.length:=by omega
    clear zM zK;generalize ks[k]=x at *
    generalize ls[k]=y at *
    obtain⟨U,hU⟩:∃U,U=(wr.alloc (.cells #[.string x.sum,.int .i64 x.born,.string x.text,.slice ra x.refs.length rc] 115)).alloc (.cells #[.string y.sum,.int .i64 y.born,.string y.text,.slice zE y.refs.length zF] 115):=⟨_,rfl⟩;have bU:=(Ba hU).1;have HB:Hid _:=HI.o.2.trans (bU.mono hz);have xU:=(Ba hU).2.2.1
    have yU:Aa U (wr.heap.size+1) [.string y.sum,.int .i64 y.born,.string y.text,.slice zE y.refs.length zF]:=by
     have h1:=Aa.new (wr.alloc (.cells #[.string x.sum,.int .i64 x.born,.string x.text,.slice ra x.refs.length rc] 115)) [.string y.sum,.int .i64 y.born,.string y.text,.slice zE y.refs.length zF] 115;rw[World.size_alloc] at h1;rw[hU];exact h1
    have HS:Hid _:=LF x y ra zE rc zF U (Ad.below' (Ad.mono zL hz) bU) (Ad.below' (Ad.mono zD hz) bU) zV zW;obtain⟨m0,m1,m2,m3⟩:=Aa.c4 xU 0 1 2 3;obtain⟨n0,n1,n2,n3⟩:=Aa.c4 yU 0 1 2 3;have HU:Hid _:=hU;clear hU xU yU zL zD bU;go_upto_region 7 with fail;rw[←HU.o];clear HU c0 c1 c2 c3 d0 d1 d2 d3;go_wp2_with fail;refine Calls.mono HS.o ?_;rintro e w1 ⟨bb,rfl,zJ,zI⟩
    have zH:Hid _:=HB.o.trans (zI.mono HB.o.size);clear m0 m1 m2 m3 n0 n1 n2 n3 HS zI;cases bb with
    |true=>
     have zG:=zJ.1 rfl;go_wp2;exact⟨⟨k+1,by omega,by go_num,⟨by rw[zP.o,zQ.o,HI.o.1,zG],zH.o⟩⟩,by simp[intOf];omega⟩
    |false=>
     have zG:x≠y:=fun e=>by have:=zJ.2 e;cases this
     go_wp2;go_ret;exact Ao.no (fun h=>HN.o x y zN.o zO.o zG h) zH.o
   ·obtain rfl:k=ks.length:=by omega
    have zC:=HI.o.1;rw[Uw (Us),Uw (by have:=zB.o;omega)] at zC;go_wp2;go_ret;exact Ao.yes zC HI.o.2
 ·have zR:((ks.length:Int)==(ls.length:Int))=false:=by simp;omega
  have zS:((ks.length:Int) !=(ls.length:Int))=true:=by simp;omega
  go_enter func70,ntmps70;go_wp2;go_ret;exact Ao.no (fun h=>hlen (by rw[h])) (Below.refl _ _)
theorem Nm (a b:Option Addr) (c d:Nat) (ss tt:List Pd) (w:World) (hr:Bo w w.heap.size a ss) (hq:Bo w w.heap.size b tt) (hl:ss.length<=100000) (zP:tt.length<=1048576):
 Calls prog 72 #[.slice a ss.length c,.slice b tt.length d] w fun e w'=>Ao (ss=tt) w w' e:=by
 have HR:Hid (∀X,Uq w X->Bo X w.heap.size a ss/\Bo X w.heap.size b tt):=fun X hX=>⟨hr.below hX,hq.below hX⟩;clear hr hq;by_cases hlen:ss.length=tt.length
 ·have zJ:((ss.length:Int) !=(tt.length:Int))=false:=by simp;omega
  have zB:Hid _:=hlen;clear hlen;go_enter func72,ntmps72;go_wp2
  go_loopw [13] (fun i wr=>∃k:Nat,k<=ss.length/\i=.int .i64 k/\Hid (ss.take k=tt.take k/\Uq w wr)) (fun i _=>ss.length -(intOf i).toNat)
  case atStart=>exact⟨0,Nat.zero_le _,rfl,⟨by simp,Below.refl _ _⟩⟩
  case round=>
   obtain⟨k,hk,rfl,HI⟩:=hrel;by_cases hlt:k<ss.length
   ·have zA:k<tt.length:=by have:=zB.o;omega
    obtain⟨rb,ro,ha,zN,zG⟩:=(HR.o wr HI.o.2).1.at hlt;obtain⟨qb,qo,hb,zM,zF⟩:=(HR.o wr HI.o.2).2.at zA;subst ha hb;obtain⟨c0,c1⟩:=zG k _ (Uu hlt);obtain⟨d0,d1⟩:=zF k _ (Uu zA);have hz:=HI.o.2.size;have zR:=Uy zN hz;have zQ:=Uy zM hz;have zH:Hid _:=Uv hlt;have zI:Hid _:=Uv zA;have HN:Hid (∀x y,ss[k]?=some x->tt[k]?=some y->x≠y->ss≠tt):=fun x y h1 h2 hne e=>by
     subst e;rw[h1] at h2;exact hne (Option.some.inj h2)
    have zD:Hid _:=Uu hlt;have zE:Hid _:=Uu zA;have zO:(k:Int)<tt.length:=by omega
    clear zG zF;generalize ss[k]=x at *
    generalize tt[k]=y at *
    have HB:Hid _:=HI.o.2;by_cases hxy:x=y
    ·subst hxy
     go_wp2
     go_region
     all_goals go_wp2
     all_goals exact⟨⟨k+1,by omega,by go_num,⟨by rw[zH.o,zI.o,HI.o.1],HB.o.drew⟩⟩,by simp[intOf];omega⟩
    ·by_cases hn:x.name=y.name
     ·have hs:¬x.sum.toList=y.sum.toList:=fun e=>hxy (by
       have e2:=Er e;cases x;cases y;simp_all)
      have zL:x.name.toList=y.name.toList:=by rw[hn]
      have HX:Hid _:=hxy;clear hn hxy;go_wp2
      go_region
      all_goals go_wp2
      all_goals go_ret
      all_goals exact Ao.no (fun h=>HN.o x y zD.o zE.o HX.o h) HB.o.drew
     ·have zL:¬x.name.toList=y.name.toList:=fun e=>hn (Er e)
      have HX:Hid _:=hxy;clear hn hxy;go_wp2
      go_region
      all_goals go_wp2
      all_goals go_ret
      all_goals exact Ao.no (fun h=>HN.o x y zD.o zE.o HX.o h) HB.o.drew
   ·obtain rfl:k=ss.length:=by omega
    have zC:=HI.o.1;rw[Uw (Us),Uw (by have:=zB.o;omega)] at zC;go_wp2;go_ret;exact Ao.yes zC HI.o.2
 ·have zJ:((ss.length:Int)==(tt.length:Int))=false:=by simp;omega
  have zK:((ss.length:Int) !=(tt.length:Int))=true:=by simp;omega
  go_enter func72,ntmps72;go_wp2;go_ret;exact Ao.no (fun h=>hlen (by rw[h])) (Below.refl _ _)
theorem Nn (a b:Option Addr) (c d:Nat) (ss tt:List Ld) (w:World) (hr:Bj w w.heap.size a ss) (hq:Bj w w.heap.size b tt) (hl:ss.length<=100000) (zP:tt.length<=1048576):
 Calls prog 73 #[.slice a ss.length c,.slice b tt.length d] w fun e w'=>Ao (ss=tt) w w' e:=by
 have HR:Hid (∀X,Uq w X->Bj X w.heap.size a ss/\Bj X w.heap.size b tt):=fun X hX=>⟨hr.below hX,hq.below hX⟩;clear hr hq;by_cases hlen:ss.length=tt.length
 ·have zJ:((ss.length:Int) !=(tt.length:Int))=false:=by simp;omega
  have zB:Hid _:=hlen;clear hlen;go_enter func73,ntmps73;go_wp2
  go_loopw [13] (fun i wr=>∃k:Nat,k<=ss.length/\i=.int .i64 k/\Hid (ss.take k=tt.take k/\Uq w wr)) (fun i _=>ss.length -(intOf i).toNat)
  case atStart=>exact⟨0,Nat.zero_le _,rfl,⟨by simp,Below.refl _ _⟩⟩
  case round=>
   obtain⟨k,hk,rfl,HI⟩:=hrel;by_cases hlt:k<ss.length
   ·have zA:k<tt.length:=by have:=zB.o;omega
    obtain⟨rb,ro,ha,zM,zG⟩:=(HR.o wr HI.o.2).1.at hlt;obtain⟨qb,qo,hb,zL,zF⟩:=(HR.o wr HI.o.2).2.at zA;subst ha hb;obtain⟨c0,c1,c2⟩:=zG k _ (Uu hlt);obtain⟨d0,d1,d2⟩:=zF k _ (Uu zA);have hz:=HI.o.2.size;have zR:=Uy zM hz;have zQ:=Uy zL hz;have zH:Hid _:=Uv hlt;have zI:Hid _:=Uv zA;have HN:Hid (∀x y,ss[k]?=some x->tt[k]?=some y->x≠y->ss≠tt):=fun x y h1 h2 hne e=>by
     subst e;rw[h1] at h2;exact hne (Option.some.inj h2)
    have zD:Hid _:=Uu hlt;have zE:Hid _:=Uu zA;have zO:(k:Int)<tt.length:=by omega
    clear zG zF;generalize ss[k]=x at *
    generalize tt[k]=y at *
    have HB:Hid _:=HI.o.2;by_cases hxy:x=y
    ·subst hxy
     go_wp2
     go_region
     all_goals go_wp2
     all_goals exact⟨⟨k+1,by omega,by go_num,⟨by rw[zH.o,zI.o,HI.o.1],HB.o.drew⟩⟩,by simp[intOf];omega⟩
    ·have HX:Hid _:=hxy
     by_cases hn:x.num=y.num
     ·by_cases hs:x.sum=y.sum
      ·have ht:¬x.til=y.til:=fun e=>hxy (by
        cases x;cases y;simp_all)
       have zN:x.sum.toList=y.sum.toList:=by rw[hs]
       clear hs hxy;go_wp2
       go_region
       all_goals go_wp2
       all_goals go_ret
       all_goals exact Ao.no (fun h=>HN.o x y zD.o zE.o HX.o h) HB.o.drew
      ·have zN:¬x.sum.toList=y.sum.toList:=fun e=>hs (Er e)
       clear hs hxy;go_wp2
       go_region
       all_goals go_wp2
       all_goals go_ret
       all_goals exact Ao.no (fun h=>HN.o x y zD.o zE.o HX.o h) HB.o.drew
     ·clear hxy
      go_wp2
      go_region
      all_goals go_wp2
      all_goals go_ret
      all_goals exact Ao.no (fun h=>HN.o x y zD.o zE.o HX.o h) HB.o.drew
   ·obtain rfl:k=ss.length:=by omega
    have zC:=HI.o.1;rw[Uw (Us),Uw (by have:=zB.o;omega)] at zC;go_wp2;go_ret;exact Ao.yes zC HI.o.2
 ·have zJ:((ss.length:Int)==(tt.length:Int))=false:=by simp;omega
  have zK:((ss.length:Int) !=(tt.length:Int))=true:=by simp;omega
  go_enter func73,ntmps73;go_wp2;go_ret;exact Ao.no (fun h=>hlen (by rw[h])) (Below.refl _ _)
end Go.Proofs.YtflhhhnlhlaehaaGreatDoor
