import Derived.Test.YtdgblkklkaklhaaGreatDoorX29
set_option maxRecDepth 100000
set_option maxHeartbeats 16000000
namespace Go.Proofs.YtdgblkklkaklhaaGreatDoor
open Go.ChangeShapes Go.WideShapes Go.ChangeAt Go.RowKit _root_.Go.Proofs.Tryz
section
open Classical in
noncomputable def shQ (ph:Int) (ks:List Kd) (qs ms:Zl) (s:Zi):Zl:=if ¬ph=0/\Ax ks s/\¬s∈ms/\¬qs.length=23200 then qs++[s]else qs
theorem WR{d:Int}{b:List Kd}{a c:Zl}{s:Zi}(e:¬d=0)(f:Ax b s)(g:¬s∈c)(h:¬a.length=23200):shQ d b a c s=a++[s]:=if_pos ⟨e,f,g,h⟩
theorem Jr{d:Int}{b:List Kd}{a c:Zl}{s:Zi}(h:d=0∨¬Ax b s∨s∈c∨a.length=23200):shQ d b a c s=a:=if_neg (fun⟨h1,h2,h3,h4⟩=>by rcases h with h|h|h|h;exact h1 h;exact h h2;exact h3 h;exact h4 h)
theorem TI(wd:Int)(m:Nat)(D:List Kd)(s:Zi)(d ag i t:Int)(g h ac O:Nat)(a b:Zl)(w:Zh)(K:VD w wd m D s)(hq:Ad w w.heap.size (some ⟨g,0,none⟩) a)(hm:Ad w w.heap.size (some ⟨h,0,none⟩) b)(hf:Gj a b):
 Calls prog 105 #[.agg #[Zg wd,.map (some m)],.agg (Yk d (some ⟨g,0,none⟩) a.length ac (some ⟨h,0,none⟩) b.length O ag i t),.string s] w fun e w'=>∃x n y f,e=.returned (.agg (Yk d (some ⟨x,0,none⟩) ((shQ d D a b s).length) n (some ⟨y,0,none⟩) b.length f ag i t))/\
  w'.ownsRow w.heap.size 9 1 (Za x (shQ d D a b s).length n) (shQ d D a b s).length ((shQ d D a b s).map Value.string)/\w'.ownsRow w.heap.size 9 1 (Za y b.length f) b.length (b.map Value.string)/\x≠y/\Zz w w':=by
 obtain⟨i0,hi,zN,zO,zP⟩:=info_parts CK;have yC:=hf.q;have zK:=hf.m;obtain⟨W,F⟩:∃W,W=((w.alloc (.cells #[Zg wd,.map (some m)] 154)).alloc (.cells (Yk d (some ⟨g,0,none⟩) a.length ac (some ⟨h,0,none⟩) b.length O ag i t) 41)).alloc (.cells Yj 41):=⟨_,rfl⟩;have I:Below w.heap.size w W:=by rw[F];exact((Zy).alloc (by simp) _).alloc (by simp;omega) _
 have x2:Bt W (w.heap.size+1+1) 0 Zc Zc 0 0 0:=by rw[F];exact⟨by simp[go_sem],by simp[go_sem],by simp[go_sem],by simp[go_sem],by simp[go_sem],by simp[go_sem],by simp⟩
 have x1:Bt W (w.heap.size+1) d (Za g a.length ac) (Za h b.length O) ag i t:=by rw[F];exact⟨by simp[go_sem],by simp[go_sem],by simp[go_sem],by simp[go_sem],by simp[go_sem],by simp[go_sem],by simp<;>omega⟩
 have s0:W.cell? (Ze (w.heap.size) 0)=some (Zg wd):=by rw[F];simp[go_sem]
 have s1:W.cell? (Ze (w.heap.size) 1)=some (.map (some m)):=by rw[F];simp[go_sem]
 have f2:∀o,W.frozen? ⟨w.heap.size+1+1,o,none⟩=false:=fun o=>by rw[F];simp[go_sem]
 have yG:W.heap.size=w.heap.size+3:=by rw[F];simp
 have HW:=Yx F;have HQ:=Yx (Zn hq hm);have J:=Yx K;clear F hq hm K;go_enter func105,ntmps105;go_wp2_with fail;rw[←HW.o];refine(Lh d ag i t g h ac O a b W (Ad.af HQ.o.1 I) (Ad.af HQ.o.2 I) hf).mono ?_;rintro e G ⟨x,n,y,f,rfl,ox,oy,zJ,B⟩;have T:=I.trans (B.mono I.size);have zB:=Yx (x1.below B);have zC:=Yx (x2.below B);have q0:=(B.cell (p:=⟨w.heap.size,0,none⟩) (by simp;omega)).trans s0
 have q1:=(B.cell (p:=⟨w.heap.size,1,none⟩) (by simp;omega)).trans s1;have P:∀o,G.frozen? ⟨w.heap.size+1+1,o,none⟩=false:=fun o=>(B.frozen (p:=⟨w.heap.size+1+1,o,none⟩) (by simp<;>omega)).trans (f2 o);have lx:=ox.lt x rfl;have ly:=oy.lt y rfl;have zX:=B.size;obtain⟨V,M⟩:∃V,V=G.alloc (.cells (Yk d (some ⟨x,0,none⟩) a.length n (some ⟨y,0,none⟩) b.length f ag i t) 41):=⟨_,rfl⟩
 have r:Below G.heap.size G V:=by rw[M];exact Zy
 have A:Hid (V.ownsRow (w.heap.size+3) 9 1 (Za x a.length n) a.length (a.map Value.string)/\V.ownsRow (w.heap.size+3) 9 1 (Za y b.length f) b.length (b.map Value.string)/\x≠y/\Zz w V):=⟨(CW ox r).mono (by omega),(CW oy r).mono (by omega),zJ,T.trans (r.mono T.size)⟩;have H7:Hid (Bt V G.heap.size d (Za x a.length n) (Za y b.length f) ag i t):=by show Bt V G.heap.size d (Za x a.length n) (Za y b.length f) ag i t;rw[M];exact Bt.new _ _ _ _ _ _ _ _
 have Q:=Yx (Bt.below zB.o r);have R:=Yx (Bt.below zC.o r);have zT:=(r.cell (p:=⟨w.heap.size,0,none⟩) (by simp;omega)).trans q0;have zU:=(r.cell (p:=⟨w.heap.size,1,none⟩) (by simp;omega)).trans q1;have fv:∀o,V.frozen? ⟨w.heap.size+1+1,o,none⟩=false:=fun o=>(r.frozen (p:=⟨w.heap.size+1+1,o,none⟩) (by simp<;>omega)).trans (P o)
 have f7:∀o,V.frozen? ⟨G.heap.size,o,none⟩=false:=fun o=>by rw[M];simp[go_sem]
 have yF:V.heap.size=G.heap.size+1:=by rw[M];simp
 go_upto_region 2 with fail;rw[←M];clear M r ox oy B x1 x2 s0 s1 f2 HW zB zC q0 q1 P T;generalize G.heap.size=b7 at *
 obtain⟨a0,a1,a2,a3,a4,a5,a6⟩:=Q.o;obtain⟨c0,c1,c2,c3,c4,c5,c6⟩:=H7.o;obtain⟨d0,d1,d2,d3,d4,d5,d6⟩:=R.o;have yB:w.heap.size+3<=b7:=by omega
 by_cases p0:d=0
 ·have HN:Hid (shQ d D a b s=a):=Jr (.inl p0);subst p0;have c:=Yx A.o;go_wp2;refine bodyPost_ret (v:=.agg (Yk 0 (some ⟨x,0,none⟩) a.length n (some ⟨y,0,none⟩) b.length f ag i t)) (by simp[results,results105,go_sem,d0,d1,d2,d3,d4,d5]) rfl ?_;rw[HN.o];refine⟨x,n,y,f,rfl,?_,?_,c.o.2.2.1,?_⟩
  ·refine World.ownsRow.mono ?_ (show w.heap.size<=w.heap.size+3 by omega)
   iterate 6 (refine ownsRow_setCell_below ?_ (by simp) _)
   exact c.o.1
  ·refine World.ownsRow.mono ?_ (show w.heap.size<=w.heap.size+3 by omega)
   iterate 6 (refine ownsRow_setCell_below ?_ (by simp) _)
   exact c.o.2.1
  ·iterate 6 (refine Below.setCell ?_ (by simp<;>omega) _)
   exact c.o.2.2.2
 have yH:(d==0)=false:=by simpa using p0
 by_cases p1:a.length=23200
 ·have HN:Hid (shQ d D a b s=a):=Jr (.inr (.inr (.inr p1)));have zS:((a.length:Int)==23200)=true:=by simp;omega
  clear p1;have c:=Yx A.o;go_wp2;refine bodyPost_ret (v:=.agg (Yk d (some ⟨x,0,none⟩) a.length n (some ⟨y,0,none⟩) b.length f ag i t)) (by simp[results,results105,go_sem,d0,d1,d2,d3,d4,d5]) rfl ?_;rw[HN.o];refine⟨x,n,y,f,rfl,?_,?_,c.o.2.2.1,?_⟩
  ·refine World.ownsRow.mono ?_ (show w.heap.size<=w.heap.size+3 by omega)
   iterate 6 (refine ownsRow_setCell_below ?_ (by simp) _)
   exact c.o.1
  ·refine World.ownsRow.mono ?_ (show w.heap.size<=w.heap.size+3 by omega)
   iterate 6 (refine ownsRow_setCell_below ?_ (by simp) _)
   exact c.o.2.1
  ·iterate 6 (refine Below.setCell ?_ (by simp<;>omega) _)
   exact c.o.2.2.2
 have zS:((a.length:Int)==23200)=false:=beq_eq_false_iff_ne.2 (by omega);obtain⟨ok,C,E⟩:=J.o;have L:=Yx (E V A.o.2.2.2);clear E J;go_wp2_with fail;refine Calls.mono L.o ?_;rintro e z ⟨rfl,q⟩;have yE:=q.size
 have c:Hid (z.ownsRow (w.heap.size+3) 9 1 (Za x a.length n) a.length (a.map Value.string)/\z.ownsRow (w.heap.size+3) 9 1 (Za y b.length f) b.length (b.map Value.string)/\x≠y/\Zz w z):=⟨CW A.o.1 q,CW A.o.2.1 q,zJ,A.o.2.2.2.trans (q.mono A.o.2.2.2.size)⟩;have H8:=Yx (Bt.below H7.o q);have H2:=Yx (Bt.below R.o q);have zE:=Yx (Bt.below Q.o q)
 have P:∀o,z.frozen? ⟨w.heap.size+1+1,o,none⟩=false:=fun o=>(q.frozen (p:=⟨w.heap.size+1+1,o,none⟩) (by simp<;>omega)).trans (fv o);have f8:∀o,z.frozen? ⟨b7,o,none⟩=false:=fun o=>(q.frozen (p:=⟨b7,o,none⟩) (by simp<;>omega)).trans (f7 o);have X:=Ad.af (w:=w) HQ.o.2 c.o.2.2.2;clear a0 a1 a2 a3 a4 a5 a6 c0 c1 c2 c3 c4 c5 c6 d0 d1 d2 d3 d4 d5 d6 q H7 A R Q L zT zU fv f7
 obtain⟨a0,a1,a2,a3,a4,a5,a6⟩:=zE.o;obtain⟨c0,c1,c2,c3,c4,c5,c6⟩:=H8.o;obtain⟨d0,d1,d2,d3,d4,d5,d6⟩:=H2.o;cases ok with
 |false=>
  have HN:Hid (shQ d D a b s=a):=Jr (.inr (.inl (fun hh=>by have:=C.2 hh;cases this)));clear C X;go_wp2;refine bodyPost_ret (v:=.agg (Yk d (some ⟨x,0,none⟩) a.length n (some ⟨y,0,none⟩) b.length f ag i t)) (by simp[results,results105,go_sem,d0,d1,d2,d3,d4,d5]) rfl ?_;rw[HN.o];refine⟨x,n,y,f,rfl,?_,?_,c.o.2.2.1,?_⟩
  ·refine World.ownsRow.mono ?_ (show w.heap.size<=w.heap.size+3 by omega)
   iterate 6 (refine ownsRow_setCell_below ?_ (by simp) _)
   exact c.o.1
  ·refine World.ownsRow.mono ?_ (show w.heap.size<=w.heap.size+3 by omega)
   iterate 6 (refine ownsRow_setCell_below ?_ (by simp) _)
   exact c.o.2.1
  ·iterate 6 (refine Below.setCell ?_ (by simp<;>omega) _)
   exact c.o.2.2.2
 |true=>
  have Y:=C.1 rfl;clear C;have L:=Yx (Ow (some ⟨h,0,none⟩) O b s z z.heap.size X zK);clear X;go_wp2_with fail;refine Calls.mono L.o ?_;rintro e w9 ⟨rfl,zI⟩;rw[zI];clear zI;by_cases hin:s∈b
  ·have HN:Hid (shQ d D a b s=a):=Jr (.inr (.inr (.inl hin)));rw[@decide_eq_true _ (Classical.propDecidable _) hin];clear L Y;go_wp2;refine bodyPost_ret (v:=.agg (Yk d (some ⟨x,0,none⟩) a.length n (some ⟨y,0,none⟩) b.length f ag i t)) (by simp[results,results105,go_sem,d0,d1,d2,d3,d4,d5]) rfl ?_;rw[HN.o];refine⟨x,n,y,f,rfl,?_,?_,c.o.2.2.1,?_⟩
   ·refine World.ownsRow.mono ?_ (show w.heap.size<=w.heap.size+3 by omega)
    iterate 6 (refine ownsRow_setCell_below ?_ (by simp) _)
    exact c.o.1
   ·refine World.ownsRow.mono ?_ (show w.heap.size<=w.heap.size+3 by omega)
    iterate 6 (refine ownsRow_setCell_below ?_ (by simp) _)
    exact c.o.2.1
   ·iterate 6 (refine Below.setCell ?_ (by simp<;>omega) _)
    exact c.o.2.2.2
  ·have HN:Hid (shQ d D a b s=a++[s]):=WR p0 Y hin p1;rw[@decide_eq_false _ (Classical.propDecidable _) hin];clear L Y hin zE HQ I a0 a1 a2 a3 a4 a5 a6;go_wp2_with (first
    |(at_builtin;refine wpList_append_lies _ rfl _ _ 22 rfl (w.heap.size+3) 9 i0 Zd 1 16 underlying22 hi zN zO zP rfl (by decide) _ a.length (a.map Value.string) rfl ?d0 ⟨z.heap.size,0,none⟩ 1 1 [.string s] rfl rfl ?d1 ?d2 (by decide) ?d3 ?d4 ?d5 _ rfl ?_)
    |go_in)
   case d0=>exact c.o.1.alloc _
   case d1=>exact cell_one_new z (.string s) 9
   case d2=>intro u hu;simp at hu;subst hu;rfl
   case d3=>unfold maxLen;omega
   case d4=>omega
   case d5=>simp;omega
   intro k S N zG U zA zW;have H:Below z.heap.size z (z.alloc (.cells #[.string s] 9)):=Zy;have zR:=U.size;simp[Value.ownBlock]at zR zA;have l:(z.alloc (.cells #[.string s] 9)).grownBy N (some x):=by simpa [Value.ownBlock]using U
   have r7:=(Bt.below H8.o H).grown l (by omega);have r2:=(Bt.below H2.o H).grown l (by omega);have zY:∀o,N.frozen? ⟨b7,o,none⟩=false:=fun o=>(l.frozen_far ⟨b7,o,none⟩ (by simp<;>omega) (by simp<;>omega)).trans ((H.frozen (p:=⟨b7,o,none⟩) (by simp<;>omega)).trans (f8 o))
   have zZ:∀o,N.frozen? ⟨w.heap.size+1+1,o,none⟩=false:=fun o=>(l.frozen_far ⟨w.heap.size+1+1,o,none⟩ (by simp<;>omega) (by simp<;>omega)).trans ((H.frozen (p:=⟨w.heap.size+1+1,o,none⟩) (by simp<;>omega)).trans (P o));have zH:N.ownsRow (w.heap.size+3) 9 1 (Za y b.length f) b.length (b.map Value.string):=(c.o.2.1.alloc _).kept l (.inr (by simp[Value.ownBlock];omega))
   have zF:Below w.heap.size w N:=(c.o.2.2.2.trans (H.mono c.o.2.2.2.size)).grown l (by simp;omega) (fun j hj=>by cases hj;omega);have zM:k≠y:=by omega
   have yD:¬k=b7:=by omega
   have yA:¬b7=w.heap.size+1+1:=by omega
   have zV:¬w.heap.size+1+1=b7:=by omega
   have C:N.ownsRow (w.heap.size+3) 9 1 (Za k (a.length+1) S) (a.length+1) ((a++[s]).map Value.string):=by simpa using zG
   have Z:=Yx (Zn C (Zn zH (Zn zM zF)));obtain⟨c0,c1,c2,c3,c4,c5,c6⟩:=r7;obtain⟨d0,d1,d2,d3,d4,d5,d6⟩:=r2;clear zG C zH U l zF H f8 P H8 H2 c;go_wp2;refine bodyPost_ret (v:=.agg (Yk d (some ⟨k,0,none⟩) (a.length+1) S (some ⟨y,0,none⟩) b.length f ag i t)) (by simp[results,results105,go_sem,d0,d1,d2,d3,d4,d5]) rfl ?_;rw[HN.o];refine⟨k,S,y,f,by simp,?_,?_,Z.o.2.2.1,?_⟩
   ·rw[show(a++[s]).length=a.length+1 by simp];refine World.ownsRow.mono ?_ (show w.heap.size<=w.heap.size+3 by omega)
    iterate 6 (refine ownsRow_setCell_below ?_ (by simp) _)
    refine ownsRow_setCell_other ?_ (by simp[Value.ownBlock];omega) _;exact Z.o.1
   ·refine World.ownsRow.mono ?_ (show w.heap.size<=w.heap.size+3 by omega)
    iterate 6 (refine ownsRow_setCell_below ?_ (by simp) _)
    refine ownsRow_setCell_other ?_ (by simp[Value.ownBlock];omega) _;exact Z.o.2.1
   ·iterate 7 (refine Below.setCell ?_ (by simp<;>omega) _)
    exact Z.o.2.2.2
end
section
attribute [local go_sem↓] Go.wp_at_zero Go.wp_at_succ
def seen(ks:List Kd)(k:Nat)(n:Int):Bool:=(ks.take k).any (fun x=>decide (x.born=n))
def flags(ks:List Kd)(k:Nat):Zj:=(List.range 601).map (fun(n:Nat)=>Value.bool (seen ks k n))
def later(ks:List Kd)(k:Nat):List Int:=((ks.take k).map (·.born)).filter (fun b=>decide (600<b))
structure YB (w wr:Zh) (ks:List Kd) (k:Nat) (v:Value):Prop where
 cf:Below w.heap.size w wr
 fl:wr.ownsRow (w.heap.size+1) 4 1 (.slice (some ⟨w.heap.size+1,0,none⟩) 601 601) 601 (flags ks k)
 la:wr.ownsRow (w.heap.size+2) 3 1 v (later ks k).length ((later ks k).map (Value.int .i64))
theorem YB.aj{w wr a:Zh}{c:List Kd}{k:Nat}{v:Value}(h:YB w wr c k v)(b:Zz wr a):YB w a c k v:=
 ⟨h.cf.trans (b.mono h.cf.size),h.fl.kept (Au none b) (.inr (by simp[Value.ownBlock])),h.la.kept (Au none b) (by cases v.ownBlock<;>simp)⟩
end
section
attribute [local go_sem↓] Go.wp_at_zero Go.wp_at_succ
end
section
def ZK(wd:Int)(k:Kd):Int:=1+k.refs.length *wd+k.text.size
def ZL(wd:Int)(ks:List Kd):Int:=(ks.map (ZK wd)).sum
open Classical in
end
theorem Na(a b:Zk)(c d:Nat)(f h:Zl)(w:Zh)(J:Ad w w.heap.size a f)(I:Ad w w.heap.size b h)(R:f.length<=1048576)(N:h.length<=1048576):
 Calls prog 107 #[.agg #[.slice a f.length c,.slice b h.length d]] w fun e D=>∃x k y l,e=.returned (.agg #[.slice x f.length k,.slice y h.length l])/\
  D.ownsRow w.heap.size 9 1 (.slice x f.length k) f.length (f.map Value.string)/\D.ownsRow w.heap.size 9 1 (.slice y h.length l) h.length (h.map Value.string)/\(∀g,(Value.slice x f.length k).ownBlock=some g->(Value.slice y h.length l).ownBlock≠some g)/\Zz w D:=by
 obtain⟨W,m⟩:∃W,W=(w.alloc (.cells #[.slice a f.length c,.slice b h.length d] 35)).alloc (.cells #[Zc,Zc] 35):=⟨_,rfl⟩;have j:=(AW m).1;have L:=(AW m).2.2.1;have M:Aa W (w.heap.size+1) [Zc,Zc]:=by have t:=Aa.new (w.alloc (.cells #[.slice a f.length c,.slice b h.length d] 35)) [Zc,Zc] 35;rw[World.size_alloc]at t;rw[m];exact t
 have S:=(AW m).2.1;have H:=Yx m;have u:Hid (Aa W _ _):=(AW m).2.2.1;have o:Hid (Aa W (w.heap.size+1) [Zc,Zc]):=M;have G:Hid (Ad w w.heap.size a f):=J;have F:Hid (Ad w w.heap.size b h):=I;obtain⟨O,P⟩:=Aa.c2 L 0 1;clear m L M J I;go_enter func107,ntmps107;go_upto_region 1 with fail;rw[←H.o];clear H;go_region_with (first
  |(go_at_call 134;refine(El a c f W.drew (Ad.af (w:=w) G.o j.drew) R).mono ?_;rintro e K ⟨x,k,rfl,q,z⟩;have i:Below W.heap.size W K:=(Below.refl W.heap.size W).drew.trans z;obtain⟨b1,_⟩:=Aa.below u.o i 1 _ rfl)
  |(go_at_call 134;refine(El b d h K (Ad.af (w:=w) F.o (j.trans (i.mono j.size))) N).mono ?_;rintro e E ⟨y,l,rfl,r,p⟩;have n:Below W.heap.size W E:=i.trans (p.mono i.size);obtain⟨d0,e0⟩:=Aa.below o.o n 0 _ rfl;obtain⟨d1,e1⟩:=Aa.below o.o n 1 _ rfl))
 all_goals
  have A:E.ownsRow (w.heap.size+2) 9 1 (.slice x f.length k) f.length (f.map Value.string):=(CW q p).mono (by simp;omega);have B:E.ownsRow (w.heap.size+2) 9 1 (.slice y h.length l) h.length (h.map Value.string):=r.mono (by have:=i.size;omega);have C:∀g,(Value.slice x f.length k).ownBlock=some g->(Value.slice y h.length l).ownBlock≠some g:=fun g t Q=>by have T:=(Ac q t).2;have U:=(Ac r Q).1;omega
  have s:=Yx (Zn A (Zn B (Zn C (j.trans (n.mono j.size)))));clear A B q r z p i n u o G F O P j C;go_wp2;refine bodyPost_ret (v:=.agg #[.slice x f.length k,.slice y h.length l]) (by simp[results,results107,go_sem,d0,d1]) rfl ⟨x,k,y,l,rfl,?_,?_,s.o.2.2.1,?_⟩
  ·refine World.ownsRow.mono ?_ (show w.heap.size<=w.heap.size+2 by omega)
   iterate 2 (refine ownsRow_setCell_below ?_ (by simp<;>omega) _)
   exact s.o.1
  ·refine World.ownsRow.mono ?_ (show w.heap.size<=w.heap.size+2 by omega)
   iterate 2 (refine ownsRow_setCell_below ?_ (by simp<;>omega) _)
   exact s.o.2.1
  ·iterate 2 (refine Below.setCell ?_ (by simp) _)
   exact s.o.2.2.2
theorem RD(a b:Zk)(c d:Nat)(f g:Zl)(w:Zh)(z:Ad w w.heap.size a f)(v:Ad w w.heap.size b g)(W:f.length<=100000)(Q:g.length<=1048576):
 Calls prog 159 #[.slice a f.length c,.slice b g.length d] w fun e O=>Ar (f=g) w O e:=by
 have s:Hid (∀X,Zz w X->Ad X w.heap.size a f/\Ad X w.heap.size b g):=fun X u=>⟨z.below u,v.below u⟩;clear z v;by_cases hlen:f.length=g.length
 ·have F:((f.length:Int) !=(g.length:Int))=false:=by simp;omega
  have m:=Yx hlen;clear hlen;go_enter func159,ntmps159;go_wp2
  go_loopw [13] (fun i wr=>∃k:Nat,k<=f.length/\i=Zg k/\Hid (f.take k=g.take k/\Zz w wr)) (fun i _=>f.length -(intOf i).toNat)
  case atStart=>exact⟨0,Nat.zero_le _,rfl,⟨by simp,Below.refl _ _⟩⟩
  case round=>
   obtain⟨k,V,rfl,l⟩:=hrel;by_cases hlt:k<f.length
   ·have j:k<g.length:=by have:=m.o;omega
    obtain⟨rb,ro,M,I,p⟩:=(s.o wr l.o.2).1.at hlt;obtain⟨Y,Z,N,H,o⟩:=(s.o wr l.o.2).2.at j;subst M N;have T:=p k _ (Zv hlt);have U:=o k _ (Zv j);have A:=l.o.2.size;have S:=Zr I A;have R:=Zr H A;have D:=Yx (Zu hlt);have E:=Yx (Zu j);have HN:Hid (∀x y,f[k]?=some x->g[k]?=some y->x≠y->f≠g):=fun x y L t G e=>by subst e;rw[L]at t;exact G (Option.some.inj t)
    have B:=Yx (Zv hlt);have C:=Yx (Zv j);have P:(k:Int)<g.length:=by omega
    clear p o;generalize f[k]=x at *
    generalize g[k]=y at *
    have r:=Yx l.o.2;by_cases hxy:x=y
    ·subst hxy;have q:(x.toList !=x.toList)=false:=by simp
     go_wp2
     go_region
     all_goals go_wp2
     all_goals exact⟨⟨k+1,by omega,by go_num,⟨by rw[D.o,E.o,l.o.1],r.o.drew⟩⟩,by simp[intOf];omega⟩
    ·have q:=BP hxy;have K:(x.toList !=y.toList)=true:=by simp[bne,q]
     go_wp2
     go_region
     all_goals go_wp2
     all_goals go_ret
     all_goals exact Ar.no (fun h=>HN.o x y B.o C.o hxy h) r.o.drew
   ·obtain rfl:k=f.length:=by omega
    have n:=l.o.1;rw[Zt (Zx),Zt (by have:=m.o;omega)]at n;go_wp2;go_ret;exact Ar.yes n l.o.2
 ·have F:((f.length:Int)==(g.length:Int))=false:=by simp;omega
  have J:((f.length:Int) !=(g.length:Int))=true:=by simp;omega
  go_enter func159,ntmps159;go_wp2;go_ret;exact Ar.no (fun h=>hlen (by rw[h])) (Below.refl _ _)
theorem Kd.eq_iff(x y:Kd):x=y↔x.sum=y.sum/\x.born=y.born/\x.text=y.text/\x.refs=y.refs:=by cases x;cases y;simp
theorem Oy(x y:Kd)(a b:Zk)(c d:Nat)(w:Zh)(l:Ad w w.heap.size a x.refs)(k:Ad w w.heap.size b y.refs)(E:x.refs.length<=100000)(q:y.refs.length<=1048576):
 Calls prog 129 #[.agg #[.string x.sum,Zg x.born,.string x.text,.slice a x.refs.length c],.agg #[.string y.sum,Zg y.born,.string y.text,.slice b y.refs.length d]] w fun e M=>Ar (x=y) w M e:=by
 obtain⟨W,j⟩:∃W,W=(w.alloc (.cells #[.string x.sum,Zg x.born,.string x.text,.slice a x.refs.length c] 131)).alloc (.cells #[.string y.sum,Zg y.born,.string y.text,.slice b y.refs.length d] 131):=⟨_,rfl⟩;have g:=(AW j).1;have m:=(AW j).2.2.1;have n:Aa W (w.heap.size+1) [.string y.sum,Zg y.born,.string y.text,.slice b y.refs.length d]:=by have f:=Aa.new (w.alloc (.cells #[.string x.sum,Zg x.born,.string x.text,.slice a x.refs.length c] 131)) [.string y.sum,Zg y.born,.string y.text,.slice b y.refs.length d] 131;rw[World.size_alloc]at f;rw[j];exact f
 have v:=Yx (RD a b c d x.refs y.refs W (l.af g) (k.af g) E q);obtain⟨F,G,H,I⟩:=Aa.c4 m 0 1 2 3;obtain⟨v0,J,K,L⟩:=Aa.c4 n 0 1 2 3;have i:=Yx j;have u:=Yx (Kd.eq_iff x y);clear j l k m n;by_cases f:x.sum=y.sum
 ·have A:(x.sum.toList==y.sum.toList)=true:=by rw[f];simp
  have r:=Yx f;clear f;by_cases h2:x.born=y.born
  ·have B:(x.born==y.born)=true:=by simp[h2]
   have s:=Yx h2;clear h2;by_cases h3:x.text=y.text
   ·have C:(x.text.toList==y.text.toList)=true:=by rw[h3];simp
    have t:=Yx h3;clear h3;go_enter func129,ntmps129;go_upto_region 1 with fail;rw[←i.o];clear i;go_wp2_with fail;refine Calls.mono v.o ?_;rintro e N ⟨z,rfl,p,o⟩;have D:=g.trans (o.mono g.size);clear F G H I v0 J K L;go_wp2;go_ret;exact⟨z,rfl,by rw[p,u.o];exact⟨fun h=>⟨r.o,s.o,t.o,h⟩,fun h=>h.2.2.2⟩,D⟩
   ·have C:=BP h3;go_enter func129,ntmps129;go_upto_region 1 with fail;rw[←i.o];go_wp2_with fail
    all_goals (try go_wp2)
    all_goals (try go_ret)
    all_goals exact Ar.no (fun h=>h3 (by rw[h])) g
  ·have B:(x.born==y.born)=false:=by simp[h2]
   go_enter func129,ntmps129;go_upto_region 1 with fail;rw[←i.o];go_wp2_with fail
   all_goals (try go_wp2)
   all_goals (try go_ret)
   all_goals exact Ar.no (fun h=>h2 (by rw[h])) g
 ·have A:=BP f;go_enter func129,ntmps129;go_upto_region 1 with fail;rw[←i.o];go_wp2_with fail
  all_goals (try go_wp2)
  all_goals (try go_ret)
  all_goals exact Ar.no (fun h=>f (by rw[h])) g
theorem Nb(a b:Zk)(c d:Nat)(f g:List Kd)(w:Zh)(N:BH w w.heap.size a f)(M:BH w w.heap.size b g)(hl:f.length<=100000)(zF:g.length<=1048576)(p:∀k∈f,k.refs.length<=100000)(z:∀k∈g,k.refs.length<=1048576):
 Calls prog 128 #[.slice a f.length c,.slice b g.length d,.func (.func 129) #[] #[]] w fun e w'=>Ar (f=g) w w' e:=by
 have J:Hid (∀X,Zz w X->BH X w.heap.size a f/\BH X w.heap.size b g):=fun X L=>⟨N.below L,M.below L⟩;clear N M;by_cases hlen:f.length=g.length
 ·have V:((f.length:Int) !=(g.length:Int))=false:=by simp;omega
  have m:=Yx hlen;clear hlen;go_enter func128,ntmps128;go_wp2
  go_loopw [17] (fun i wr=>∃k:Nat,k<=f.length/\i=Zg k/\Hid (f.take k=g.take k/\Zz w wr)) (fun i _=>f.length -(intOf i).toNat)
  case atStart=>exact⟨0,Nat.zero_le _,rfl,⟨by simp,Below.refl _ _⟩⟩
  case round=>
   obtain⟨k,hk,rfl,l⟩:=hrel;by_cases hlt:k<f.length
   ·have j:k<g.length:=by have:=m.o;omega
    obtain⟨rb,ro,ha,Z,F⟩:=(J.o wr l.o.2).1.at hlt;obtain⟨qb,qo,hb,Y,D⟩:=(J.o wr l.o.2).2.at j;subst ha hb;obtain⟨c0,c1,c2,G,H,c3,E⟩:=F k _ (Zv hlt);obtain⟨d0,d1,d2,q,r,d3,o⟩:=D k _ (Zv j);have t:=l.o.2.size;have zH:=Zr Z t;have zG:=Zr Y t;have S:=Yx (Zu hlt);have T:=Yx (Zu j);have HN:Hid (∀x y,f[k]?=some x->g[k]?=some y->x≠y->f≠g):=fun x y p z W e=>by subst e;rw[p]at z;exact W (Option.some.inj z)
    have Q:=Yx (Zv hlt);have R:=Yx (Zv j);have zA:=p _ (List.getElem_mem hlt);have zB:=z _ (List.getElem_mem j);have zE:(k:Int)<g.length:=by omega
    clear F D;generalize f[k]=x at *
    generalize g[k]=y at *
    obtain⟨U,s⟩:∃U,U=(wr.alloc (.cells #[.string x.sum,Zg x.born,.string x.text,.slice G x.refs.length H] 131)).alloc (.cells #[.string y.sum,Zg y.born,.string y.text,.slice q y.refs.length r] 131):=⟨_,rfl⟩;have v:=(AW s).1;have I:=Yx (l.o.2.trans (v.mono t));have O:=(AW s).2.2.1;have P:Aa U (wr.heap.size+1) [.string y.sum,Zg y.born,.string y.text,.slice q y.refs.length r]:=by have p:=Aa.new (wr.alloc (.cells #[.string x.sum,Zg x.born,.string x.text,.slice G x.refs.length H] 131)) [.string y.sum,Zg y.born,.string y.text,.slice q y.refs.length r] 131;rw[World.size_alloc]at p;rw[s];exact p
    have K:=Yx (Oy x y G q H r U (Ad.af (Ad.mono E t) v) (Ad.af (Ad.mono o t) v) zA zB);obtain⟨m0,m1,m2,m3⟩:=Aa.c4 O 0 1 2 3;obtain⟨n0,n1,n2,n3⟩:=Aa.c4 P 0 1 2 3;have HU:=Yx s;clear s O P E o v;go_upto_region 7 with fail;rw[←HU.o];clear HU c0 c1 c2 c3 d0 d1 d2 d3;go_wp2_with fail;refine Calls.mono K.o ?_;rintro e w1 ⟨bb,rfl,C,B⟩;have A:=Yx (I.o.trans (B.mono I.o.size))
    clear m0 m1 m2 m3 n0 n1 n2 n3 K B;cases bb with
    |true=>have u:=C.1 rfl;go_wp2;exact⟨⟨k+1,by omega,by go_num,⟨by rw[S.o,T.o,l.o.1,u],A.o⟩⟩,by simp[intOf];omega⟩
    |false=>
     have u:x≠y:=fun e=>by have:=C.2 e;cases this
     go_wp2;go_ret;exact Ar.no (fun h=>HN.o x y Q.o R.o u h) A.o
   ·obtain rfl:k=f.length:=by omega
    have n:=l.o.1;rw[Zt (Zx),Zt (by have:=m.o;omega)]at n;go_wp2;go_ret;exact Ar.yes n l.o.2
 ·have V:((f.length:Int)==(g.length:Int))=false:=by simp;omega
  have zC:((f.length:Int) !=(g.length:Int))=true:=by simp;omega
  go_enter func128,ntmps128;go_wp2;go_ret;exact Ar.no (fun h=>hlen (by rw[h])) (Below.refl _ _)
theorem RE(a b:Zk)(c d:Nat)(f g:List Pd)(w:Zh)(B:AS w w.heap.size a f)(A:AS w w.heap.size b g)(hl:f.length<=100000)(Q:g.length<=1048576):
 Calls prog 130 #[.slice a f.length c,.slice b g.length d] w fun e O=>Ar (f=g) w O e:=by
 have u:Hid (∀X,Zz w X->AS X w.heap.size a f/\AS X w.heap.size b g):=fun X z=>⟨B.below z,A.below z⟩;clear B A;by_cases hlen:f.length=g.length
 ·have F:((f.length:Int) !=(g.length:Int))=false:=by simp;omega
  have m:=Yx hlen;clear hlen;go_enter func130,ntmps130;go_wp2
  go_loopw [13] (fun i wr=>∃k:Nat,k<=f.length/\i=Zg k/\Hid (f.take k=g.take k/\Zz w wr)) (fun i _=>f.length -(intOf i).toNat)
  case atStart=>exact⟨0,Nat.zero_le _,rfl,⟨by simp,Below.refl _ _⟩⟩
  case round=>
   obtain⟨k,Z,rfl,l⟩:=hrel;by_cases hlt:k<f.length
   ·have j:k<g.length:=by have:=m.o;omega
    obtain⟨rb,ro,M,J,r⟩:=(u.o wr l.o.2).1.at hlt;obtain⟨qb,qo,N,I,q⟩:=(u.o wr l.o.2).2.at j;subst M N;obtain⟨T,U⟩:=r k _ (Zv hlt);obtain⟨V,W⟩:=q k _ (Zv j);have C:=l.o.2.size;have S:=Zr J C;have R:=Zr I C;have D:=Yx (Zu hlt);have E:=Yx (Zu j);have HN:Hid (∀x y,f[k]?=some x->g[k]?=some y->x≠y->f≠g):=fun x y L v H e=>by subst e;rw[L]at v;exact H (Option.some.inj v)
    have o:=Yx (Zv hlt);have p:=Yx (Zv j);have P:(k:Int)<g.length:=by omega
    clear r q;generalize f[k]=x at *
    generalize g[k]=y at *
    have s:=Yx l.o.2;by_cases hxy:x=y
    ·subst hxy;go_wp2
     go_region
     all_goals go_wp2
     all_goals exact⟨⟨k+1,by omega,by go_num,⟨by rw[D.o,E.o,l.o.1],s.o.drew⟩⟩,by simp[intOf];omega⟩
    ·by_cases hn:x.name=y.name
     ·have hs:¬x.sum.toList=y.sum.toList:=fun e=>hxy (by
       have Y:=FN e;cases x;cases y;simp_all)
      have G:x.name.toList=y.name.toList:=by rw[hn]
      have t:=Yx hxy;clear hn hxy;go_wp2
      go_region
      all_goals go_wp2
      all_goals go_ret
      all_goals exact Ar.no (fun h=>HN.o x y o.o p.o t.o h) s.o.drew
     ·have G:¬x.name.toList=y.name.toList:=fun e=>hn (FN e);have t:=Yx hxy;clear hn hxy;go_wp2
      go_region
      all_goals go_wp2
      all_goals go_ret
      all_goals exact Ar.no (fun h=>HN.o x y o.o p.o t.o h) s.o.drew
   ·obtain rfl:k=f.length:=by omega
    have n:=l.o.1;rw[Zt (Zx),Zt (by have:=m.o;omega)]at n;go_wp2;go_ret;exact Ar.yes n l.o.2
 ·have F:((f.length:Int)==(g.length:Int))=false:=by simp;omega
  have K:((f.length:Int) !=(g.length:Int))=true:=by simp;omega
  go_enter func130,ntmps130;go_wp2;go_ret;exact Ar.no (fun h=>hlen (by rw[h])) (Below.refl _ _)
theorem RF(a b:Zk)(c d:Nat)(f g:List Ld)(w:Zh)(B:AU w w.heap.size a f)(A:AU w w.heap.size b g)(hl:f.length<=100000)(Q:g.length<=1048576):
 Calls prog 131 #[.slice a f.length c,.slice b g.length d] w fun e O=>Ar (f=g) w O e:=by
 have u:Hid (∀X,Zz w X->AU X w.heap.size a f/\AU X w.heap.size b g):=fun X z=>⟨B.below z,A.below z⟩;clear B A;by_cases hlen:f.length=g.length
 ·have F:((f.length:Int) !=(g.length:Int))=false:=by simp;omega
  have m:=Yx hlen;clear hlen;go_enter func131,ntmps131;go_wp2
  go_loopw [13] (fun i wr=>∃k:Nat,k<=f.length/\i=Zg k/\Hid (f.take k=g.take k/\Zz w wr)) (fun i _=>f.length -(intOf i).toNat)
  case atStart=>exact⟨0,Nat.zero_le _,rfl,⟨by simp,Below.refl _ _⟩⟩
  case round=>
   obtain⟨k,Z,rfl,l⟩:=hrel;by_cases hlt:k<f.length
   ·have j:k<g.length:=by have:=m.o;omega
    obtain⟨rb,ro,M,I,s⟩:=(u.o wr l.o.2).1.at hlt;obtain⟨qb,qo,N,H,r⟩:=(u.o wr l.o.2).2.at j;subst M N;obtain⟨T,U,c2⟩:=s k _ (Zv hlt);obtain⟨V,W,Y⟩:=r k _ (Zv j);have C:=l.o.2.size;have S:=Zr I C;have R:=Zr H C;have D:=Yx (Zu hlt);have E:=Yx (Zu j);have HN:Hid (∀x y,f[k]?=some x->g[k]?=some y->x≠y->f≠g):=fun x y L v G e=>by subst e;rw[L]at v;exact G (Option.some.inj v)
    have o:=Yx (Zv hlt);have p:=Yx (Zv j);have P:(k:Int)<g.length:=by omega
    clear s r;generalize f[k]=x at *
    generalize g[k]=y at *
    have q:=Yx l.o.2;by_cases hxy:x=y
    ·subst hxy;go_wp2
     go_region
     all_goals go_wp2
     all_goals exact⟨⟨k+1,by omega,by go_num,⟨by rw[D.o,E.o,l.o.1],q.o.drew⟩⟩,by simp[intOf];omega⟩
    ·have t:=Yx hxy;by_cases hn:x.num=y.num
     ·by_cases hs:x.sum=y.sum
      ·have ht:¬x.bf=y.bf:=fun e=>hxy (by
        cases x;cases y;simp_all)
       have J:x.sum.toList=y.sum.toList:=by rw[hs]
       clear hs hxy;go_wp2
       go_region
       all_goals go_wp2
       all_goals go_ret
       all_goals exact Ar.no (fun h=>HN.o x y o.o p.o t.o h) q.o.drew
      ·have J:¬x.sum.toList=y.sum.toList:=fun e=>hs (FN e);clear hs hxy;go_wp2
       go_region
       all_goals go_wp2
       all_goals go_ret
       all_goals exact Ar.no (fun h=>HN.o x y o.o p.o t.o h) q.o.drew
     ·clear hxy;go_wp2
      go_region
      all_goals go_wp2
      all_goals go_ret
      all_goals exact Ar.no (fun h=>HN.o x y o.o p.o t.o h) q.o.drew
   ·obtain rfl:k=f.length:=by omega
    have n:=l.o.1;rw[Zt (Zx),Zt (by have:=m.o;omega)]at n;go_wp2;go_ret;exact Ar.yes n l.o.2
 ·have F:((f.length:Int)==(g.length:Int))=false:=by simp;omega
  have K:((f.length:Int) !=(g.length:Int))=true:=by simp;omega
  go_enter func131,ntmps131;go_wp2;go_ret;exact Ar.no (fun h=>hlen (by rw[h])) (Below.refl _ _)
theorem Nc(D r given ae q g c b:Int)(a p l E C B:Zk)(H G F A u t:Nat)(x m:List Kd)(s i:List Pd)(y n:List Ld)(w:Zh)(hr:Bv w w.heap.size a p l x s y)(hq:Bv w w.heap.size E C B m i n)(hl:x.length<=100000/\s.length<=100000/\y.length<=100000)(zC:m.length<=1048576/\i.length<=1048576/\n.length<=1048576)(h1:∀k∈x,k.refs.length<=100000)(h2:∀k∈m,k.refs.length<=1048576):
 Calls prog 95 #[.agg (Ys D r given ae a x.length H p s.length G l y.length F),.agg (Ys q g c b E m.length A C i.length u B n.length t)] w fun e Z=>Ar ((D=q/\r=g/\given=c/\ae=b)/\x=m/\s=i/\y=n) w Z e:=by
 obtain⟨W,J⟩:∃W,W=(w.alloc (.cells (Ys D r given ae a x.length H p s.length G l y.length F) 40)).alloc (.cells (Ys q g c b E m.length A C i.length u B n.length t) 40):=⟨_,rfl⟩;have j:=(AW J).1;have d:=(AW J).2.2.1;have f:Aa W (w.heap.size+1) (Yt q g c b E m.length A C i.length u B n.length t):=by have h1:=Aa.new (w.alloc (.cells (Ys D r given ae a x.length H p s.length G l y.length F) 40)) (Yt q g c b E m.length A C i.length u B n.length t) 40;rw[World.size_alloc]at h1;rw[J];exact h1
 have HX:Hid (∀X,Zz W X->Aa X w.heap.size (Yt D r given ae a x.length H p s.length G l y.length F)/\Aa X (w.heap.size+1) (Yt q g c b E m.length A C i.length u B n.length t)/\Zz w X):=fun X z=>⟨Aa.below d z,Aa.below f z,j.trans (z.mono j.size)⟩;have HK:=Yx (Nb a E H A x m W (hr.af j).k (hq.af j).k hl.1 zC.1 h1 h2)
 have HP:Hid (∀X,Zz W X->Calls prog 130 #[.slice p s.length G,.slice C i.length u] X fun e Z=>Ar (s=i) X Z e):=fun X z=>RE p C G u s i X (hr.af (j.trans (z.mono j.size))).p (hq.af (j.trans (z.mono j.size))).p hl.2.1 zC.2.1
 have HL:Hid (∀X,Zz W X->Calls prog 131 #[.slice l y.length F,.slice B n.length t] X fun e Z=>Ar (y=n) X Z e):=fun X z=>RF l B F t y n X (hr.af (j.trans (z.mono j.size))).l (hq.af (j.trans (z.mono j.size))).l hl.2.2 zC.2.2;obtain⟨K,_⟩:=d 0 _ rfl;obtain⟨v0,_⟩:=f 0 _ rfl;obtain⟨L,_⟩:=d 1 _ rfl;obtain⟨R,_⟩:=f 1 _ rfl;obtain⟨M,_⟩:=d 2 _ rfl;obtain⟨S,_⟩:=f 2 _ rfl;obtain⟨N,_⟩:=d 3 _ rfl
 obtain⟨T,_⟩:=f 3 _ rfl;obtain⟨O,_⟩:=d 4 _ rfl;obtain⟨U,_⟩:=f 4 _ rfl;obtain⟨P,_⟩:=d 5 _ rfl;obtain⟨V,_⟩:=f 5 _ rfl;obtain⟨Q,_⟩:=d 6 _ rfl;obtain⟨Y,_⟩:=f 6 _ rfl;have v:=Yx J;clear J hr hq d f;by_cases e1:D=q
 ·have b1:(D==q)=true:=by simp[e1]
  have E1:=Yx e1;clear e1;by_cases e2:r=g
  ·have b2:(r==g)=true:=by simp[e2]
   have E2:=Yx e2;clear e2;by_cases e3:given=c
   ·have b3:(given==c)=true:=by simp[e3]
    have E3:=Yx e3;clear e3;by_cases e4:ae=b
    ·have b4:(ae==b)=true:=by simp[e4]
     have E4:=Yx e4;clear e4;go_enter func95,ntmps95;go_upto_region 1 with fail;rw[←v.o];clear v;go_wp2_with fail;refine Calls.mono HK.o ?_;rintro e w1 ⟨I,rfl,o,zG⟩;obtain⟨d,f,zJ⟩:=HX.o w1 zG;have zA:=Yx zG;clear K v0 L R M S N T O U P V Q Y;obtain⟨K,_⟩:=d 0 _ rfl;obtain⟨v0,_⟩:=f 0 _ rfl;obtain⟨L,_⟩:=d 1 _ rfl;obtain⟨R,_⟩:=f 1 _ rfl;obtain⟨M,_⟩:=d 2 _ rfl;obtain⟨S,_⟩:=f 2 _ rfl
     obtain⟨N,_⟩:=d 3 _ rfl;obtain⟨T,_⟩:=f 3 _ rfl;obtain⟨O,_⟩:=d 4 _ rfl;obtain⟨U,_⟩:=f 4 _ rfl;obtain⟨P,_⟩:=d 5 _ rfl;obtain⟨V,_⟩:=f 5 _ rfl;obtain⟨Q,_⟩:=d 6 _ rfl;obtain⟨Y,_⟩:=f 6 _ rfl;clear d f;cases I with
     |false=>
      have zE:x≠m:=fun e=>by have:=o.2 e;cases this
      go_wp2_with fail
      all_goals (try go_wp2)
      all_goals (try go_ret)
      all_goals exact Ar.no (fun h=>zE h.2.1) zJ
     |true=>
      have zH:=Yx (o.1 rfl);clear o;go_wp2_with fail;refine Calls.mono (HP.o w1 zA.o) ?_;rintro e w2 ⟨I,rfl,o,zM⟩;have zF:=Yx (zA.o.trans (zM.mono zA.o.size));obtain⟨d,f,zB⟩:=HX.o w2 zF.o;clear K v0 L R M S N T O U P V Q Y;obtain⟨K,_⟩:=d 0 _ rfl;obtain⟨v0,_⟩:=f 0 _ rfl;obtain⟨L,_⟩:=d 1 _ rfl;obtain⟨R,_⟩:=f 1 _ rfl;obtain⟨M,_⟩:=d 2 _ rfl;obtain⟨S,_⟩:=f 2 _ rfl;obtain⟨N,_⟩:=d 3 _ rfl
      obtain⟨T,_⟩:=f 3 _ rfl;obtain⟨O,_⟩:=d 4 _ rfl;obtain⟨U,_⟩:=f 4 _ rfl;obtain⟨P,_⟩:=d 5 _ rfl;obtain⟨V,_⟩:=f 5 _ rfl;obtain⟨Q,_⟩:=d 6 _ rfl;obtain⟨Y,_⟩:=f 6 _ rfl;clear d f;cases I with
      |false=>
       have zE:s≠i:=fun e=>by have:=o.2 e;cases this
       go_wp2_with fail
       all_goals (try go_wp2)
       all_goals (try go_ret)
       all_goals exact Ar.no (fun h=>zE h.2.2.1) zB
      |true=>have zI:=Yx (o.1 rfl);clear o;go_wp2_with fail;refine Calls.mono (HL.o w2 zF.o) ?_;rintro e w3 ⟨I,rfl,o,zN⟩;have zK:=zB.trans (zN.mono zB.size);clear K v0 L R M S N T O U P V Q Y;go_wp2;go_ret;exact⟨I,rfl,⟨fun h=>⟨⟨E1.o,E2.o,E3.o,E4.o⟩,zH.o,zI.o,o.1 h⟩,fun h=>o.2 h.2.2.2⟩,zK⟩
    ·have b4:(ae==b)=false:=by simp[e4]
     go_enter func95,ntmps95;go_upto_region 1 with fail;rw[←v.o];clear v;go_wp2_with fail
     all_goals (try go_wp2)
     all_goals (try go_ret)
     all_goals exact Ar.no (by first|exact id|exact fun h=>e4 h.1.2.2.2) j
   ·have b3:(given==c)=false:=by simp[e3]
    go_enter func95,ntmps95;go_upto_region 1 with fail;rw[←v.o];clear v;go_wp2_with fail
    all_goals (try go_wp2)
    all_goals (try go_ret)
    all_goals exact Ar.no (by first|exact id|exact fun h=>e3 h.1.2.2.1) j
  ·have b2:(r==g)=false:=by simp[e2]
   go_enter func95,ntmps95;go_upto_region 1 with fail;rw[←v.o];clear v;go_wp2_with fail
   all_goals (try go_wp2)
   all_goals (try go_ret)
   all_goals exact Ar.no (by first|exact id|exact fun h=>e2 h.1.2.1) j
 ·have b1:(D==q)=false:=by simp[e1]
  go_enter func95,ntmps95;go_upto_region 1 with fail;rw[←v.o];clear v;go_wp2_with fail
  all_goals (try go_wp2)
  all_goals (try go_ret)
  all_goals exact Ar.no (by first|exact id|exact fun h=>e1 h.1.1) j
end Go.Proofs.YtdgblkklkaklhaaGreatDoor
