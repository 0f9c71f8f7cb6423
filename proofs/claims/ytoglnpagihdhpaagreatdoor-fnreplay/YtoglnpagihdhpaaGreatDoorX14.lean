import Derived.Test.YtoglnpagihdhpaaGreatDoorX07
import Derived.Test.YtoglnpagihdhpaaGreatDoorX06
set_option maxRecDepth 100000
set_option maxHeartbeats 16000000
namespace Go.Proofs.YtoglnpagihdhpaaGreatDoor
open ChangeShapes WideShapes ChangeAt RowKit _root_.Go.Proofs.Tryz
variable{d:Int}{b:List Kd}{a c:Zl}{s:Zi}
section
attribute [local go_sem↓] Go.wp_at_zero Go.wp_at_succ
open Classical in
structure TW (wd:Int) (qs ms:Zl):Prop where
 nq:qs.length<=23200
 nm:ms.length<=600
 q:∀s∈qs,(s.size:Int)=wd
 m:∀s∈ms,(s.size:Int)=wd
 nd:ms.Nodup
end
section
attribute [local go_sem↓] Go.wp_at_zero Go.wp_at_succ
def MF(births ph top at_:Int)(qs ms:Zl):Prop:=
 (ph=0/\qs=[]/\ms=[]/\top=0/\at_=0)\/(ph=1/\0<=top/\top<=births/\at_=top+1)\/(ph=2/\0<=top/\top<=births/\1<=at_/\at_<=top+1)
structure BX (wd births L top at_ ro:Int) (qs ms:Zl):Prop where
 js:0<=ro
 ju:ro<=1000000000
 dy:TW wd qs ms
 L:MF births L top at_ qs ms
end
section
open Classical in
noncomputable def shQ (ph:Int) (ks:List Kd) (qs ms:Zl) (s:Zi):Zl:=if ¬ph=0/\Au ks s/\¬s∈ms/\¬qs.length=23200 then qs++[s]else qs
theorem XK(e:¬d=0)(f:Au b s)(g:¬s∈c)(h:¬a.length=23200):shQ d b a c s=a++[s]:=if_pos ⟨e,f,g,h⟩
theorem JR(h:d=0\/¬Au b s\/s∈c\/a.length=23200):shQ d b a c s=a:=if_neg (fun⟨h1,h2,h3,h4⟩=>by rcases h with h|h|h|h;exact h1 h;exact h h2;exact h3 h;exact h4 h)
end
section
attribute [local go_sem↓] Go.wp_at_zero Go.wp_at_succ
theorem KM:a.Nodup↔∀(j:Nat) x,a[j]?=some x->x∉a.take j:=by
 unfold List.Nodup;rw[List.pairwise_iff_getElem];constructor
 .intro h j x b k;obtain⟨g,rfl⟩:=Zw b;obtain⟨i,c,e⟩:=List.getElem_of_mem k;have d:i<j:=by simp at c;omega
  rw[List.getElem_take]at e;exact h i j Yv g d e
 .intro h i j c b l e;refine h j a[j] (Zv b) ?_;rw[<-e];have f:i<(a.take j).length:=Yt
  have:=List.getElem_mem f;rw[List.getElem_take]at this;exact this
theorem Ad.front{w:Zh}{B:Nat}{a:Zk}(h:Ad w B a c)(K:Nat):Ad w B a (c.take K):=by
 rcases h with h|⟨q,d,e,f,g⟩
 .exact .inl (by simp[h])
 .refine .inr ⟨q,d,e,f,fun i s b=>g i s ?_⟩;have j:=(Zw b).1;simp at j;rw[List.getElem?_take_of_lt Yv]at b;exact b
theorem Vt(o now t c q f l r:Int)(T P L:Value)(a b:Zk)(X D:Nat)(m g:Zl)(w:Zh)(hq:Ad w w.heap.size a m)(hm:Ad w w.heap.size b g)(hf:RH m g)(zM:g.length<=D)(zR:c<=1000000000):
 Calls prog 148 #[.agg #[Zg o,Zg now,Zg t,Zg c,T,P,L],.agg (Ye q a m.length X b g.length D f l r)] w fun e w'=>Aq (BX o c q f l r m g) w w' e:=by
 have zT:=hf.q;have zS:=hf.m;obtain⟨W,Y⟩:=Af ((w.alloc (.cells #[Zg o,Zg now,Zg t,Zg c,T,P,L] 30)).alloc (.cells (Ye q a m.length X b g.length D f l r) 49));have d:Below w.heap.size w W:=by rw[Y];exact(Zy).alloc Yu _
 have zH:AN W w.heap.size o now t c T P L:=by rw[Y];exact(AN.new w o now t c T P L 30).below (Zy)
 have zG:BW W (w.heap.size+1) q (.slice a m.length X) (.slice b g.length D) f l r:=by rw[Y];have:=BW.new (w.alloc (.cells #[Zg o,Zg now,Zg t,Zg c,T,P,L] 30)) q f l r (.slice a m.length X) (.slice b g.length D) 49;rw[World.size_alloc]at this;exact this
 have zK:W.heap.size=w.heap.size+2:=by rw[Y];simp
 have HW:=Yw Y;clear Y;have z:=Yw zH;have v:=Yw zG;have HQ:=Yw hq;have HM:=Yw hm;clear zH zG hq hm;by_cases p1:q<0
 .have d1:decide (q<0)=true:=by simpa using p1
  go_enter func148,ntmps148;go_wp2;go_ret;rw[<-HW.o];exact Aq.no (P:=BX o c q f l r m g) (fun h=>by rcases h.L with h|h|h<;>(have:=h.1;omega)) d
 have d1:decide (q<0)=false:=by simpa using p1
 by_cases p2:2<q
 .have d2:decide ((2:Int)<q)=true:=by simpa using p2
  go_enter func148,ntmps148;go_wp2;go_ret;rw[<-HW.o];exact Aq.no (P:=BX o c q f l r m g) (fun h=>by rcases h.L with h|h|h<;>(have:=h.1;omega)) d
 have d2:decide ((2:Int)<q)=false:=by simpa using p2
 go_enter func148,ntmps148;go_wp2_with fail;rw[<-HW.o];refine(Fx r 0 1000000000 W).mono ?_;rintro e w1 ⟨rfl,rfl⟩;obtain⟨I,E,F,J,K,M,S⟩:=v.o;by_cases h1:0<=r/\r<=1000000000
 .rw[decide_eq_true h1];by_cases h2:m.length<=23200
  .have B:decide ((23200:Int)<(m.length:Int))=false:=Yt
   by_cases h3:g.length<=600
   .have G:decide ((600:Int)<(g.length:Int))=false:=Yt
    clear HW;go_wp2
    go_loopw [5] (fun i wr=>∃k:Nat,k<=m.length/\i=Zg k/\Hid (∀j x,j<k->m[j]?=some x->(x.size:Int)=o)/\Hid (AN wr w.heap.size o now t c T P L)/\Hid (BW wr (w.heap.size+1) q (.slice a m.length X) (.slice b g.length D) f l r)/\Zz w wr) (fun i _=>m.length -(intOf i).toNat)
    case atStart=>exact⟨0,Nat.zero_le _,rfl,fun j x h=>by omega,z,v,d⟩
    case round=>
     clear I E F J K M S z v d zK;obtain⟨k,hk,rfl,u,z,v,d⟩:=hrel;obtain⟨I,E,F,J,K,M,S⟩:=v.o;obtain⟨N,_,_,U,_,_,_,y7⟩:=z.o;by_cases hlt:k<m.length
     .obtain⟨b',zC,ha,hb,hc⟩:=(Ad.below HQ.o d).at hlt;subst ha;have R:=Yw (Zv hlt);have Q:=hc k _ R;have O:=Zr hb d.size;clear hc;generalize m[k]=x at *
      have Z:=Aw.cell E S;have q2:=Aw.cell Q O;have q3:=Aw.cell N y7;have zI:=Aw.ne wr;by_cases h:(x.size:Int)=o
      .have hn:((x.size:Int) !=o)=false:=by simp[h]
       have HA:Hid (∀j y,j<k+1->m[j]?=some y->(y.size:Int)=o):=by
        intro j y hj H;rcases Nat.lt_or_ge j k with C|C
        .exact u j y C H
        .obtain rfl:j=k:=Yv
         rw[R.o]at H;cases H;exact h
       go_wp2;refine Ax Yr Yr ?_
       repeat (go_big_quiet_step (fail))
       refine wpQuiet_nil ?_;intro n;have zB:=Yw (AN.ag z.o n.h y7);have zA:=Yw (BW.ag v.o n.h S);have A:=d.trans (n.h.mono d.size);clear Z q2 q3 I E F J K M N U Q;go_wp2;exact⟨⟨k+1,Yv,Yn,HA,zB,zA,A⟩,Ys⟩
      .have hn:((x.size:Int) !=o)=true:=by simp[h]
       go_wp2;refine Ax Yr Yr ?_
       repeat (go_big_quiet_step (fail))
       refine wpQuiet_nil ?_;intro n;have A:=d.trans (n.h.mono d.size);clear Z q2 q3 I E F J K M N U Q;go_wp2;go_ret;exact Aq.no (P:=BX o c q f l r m g) (fun C=>h (C.dy.q x (Zs R.o))) A
     .have zE:Hid (∀s∈m,(s.size:Int)=o):=by intro s hs;obtain⟨j,hj,rfl⟩:=List.getElem_of_mem hs;exact u j _ Yv (Zv hj)
      clear u;go_wp2
      go_loopw [6] (fun i wr=>∃k:Nat,k<=g.length/\i=Zg k/\Hid (∀j x,j<k->g[j]?=some x->(x.size:Int)=o/\x∉g.take j)/\Hid (AN wr w.heap.size o now t c T P L)/\Hid (BW wr (w.heap.size+1) q (.slice a m.length X) (.slice b g.length D) f l r)/\Zz w wr) (fun i _=>g.length -(intOf i).toNat)
      case atStart=>exact⟨0,Nat.zero_le _,rfl,fun j x h=>by omega,z,v,d⟩
      case round=>
       clear I E F J K M S N U y7 z v d;obtain⟨k,hk,rfl,u,z,v,d⟩:=hrel;obtain⟨I,E,F,J,K,M,S⟩:=v.o;obtain⟨N,_,_,U,_,_,_,y7⟩:=z.o;by_cases hlt:k<g.length
       .obtain⟨b',zC,ha,hb,hc⟩:=(Ad.below HM.o d).at hlt;subst ha;have R:=Yw (Zv hlt);have Q:=hc k _ R;have O:=Zr hb d.size;clear hc;generalize g[k]=x at *
        have Z:=Aw.cell F S;have q2:=Aw.cell Q O;have q3:=Aw.cell N y7;have zI:=Aw.ne wr;have zJ:(g.take k).length=k:=Yt
        have hH:∀n:Aw wr,Calls prog 103 #[.slice (some ⟨b',zC,none⟩) k D,.string x] n.w fun e w'=>e=.returned (.bool ((g.take k).any (fun y=>decide (y=x))))/\Below n.w.heap.size n.w w':=fun n=>by have:=Fw (some ⟨b',zC,none⟩) D (g.take k) x n.w w.heap.size (Ad.front (Ad.below HM.o (d.trans (n.h.mono d.size))) k) Yv;rw[zJ]at this;exact this.mono (by rintro e w' ⟨rfl,rfl⟩;exact⟨rfl,Ae⟩)
        have HH:=Yw hH;clear hH;have zU:k<=D:=Yv
        by_cases h:(x.size:Int)=o
        .have hn:((x.size:Int) !=o)=false:=by simp[h]
         cases hin:(g.take k).any (fun y=>decide (y=x))with
         |false=>
          rw[hin]at HH;have V:x∉g.take k:=fun hx=>by have:(g.take k).any (fun y=>decide (y=x))=true:=List.any_eq_true.2 ⟨x,hx,Yu⟩;rw[hin]at this;cases this
          have HA:Hid (∀j y,j<k+1->g[j]?=some y->(y.size:Int)=o/\y∉g.take j):=by
           intro j y hj H;rcases Nat.lt_or_ge j k with C|C
           .exact u j y C H
           .obtain rfl:j=k:=Yv
            rw[R.o]at H;cases H;exact⟨h,V⟩
          clear V u;go_wp2;refine Ax Yr Yr ?_
          repeat (go_big_quiet_step (exact Aw.calls (HH.o _)))
          refine wpQuiet_nil ?_;intro n;have zB:=Yw (AN.ag z.o n.h y7);have zA:=Yw (BW.ag v.o n.h S);have A:=d.trans (n.h.mono d.size);clear Z q2 q3 I E F J K M N U Q;go_wp2;exact⟨⟨k+1,Yv,Yn,HA,zB,zA,A⟩,Ys⟩
         |true=>
          rw[hin]at HH;have HN:Hid (x∈g.take k):=by
           obtain⟨y,H,e⟩:=List.any_eq_true.1 hin;have:y=x:=by simpa using e
           rw[<-this];exact H
          clear u;go_wp2;refine Ax Yr Yr ?_
          repeat (go_big_quiet_step (exact Aw.calls (HH.o _)))
          refine wpQuiet_nil ?_;intro n;have A:=d.trans (n.h.mono d.size);clear Z q2 q3 I E F J K M N U Q;go_wp2;go_ret;exact Aq.no (P:=BX o c q f l r m g) (fun C=>(KM.1 C.dy.nd) k x R.o HN.o) A
        .have hn:((x.size:Int) !=o)=true:=by simp[h]
         go_wp2;refine Ax Yr Yr ?_
         repeat (go_big_quiet_step (fail))
         refine wpQuiet_nil ?_;intro n;have A:=d.trans (n.h.mono d.size);clear Z q2 q3 I E F J K M N U Q;go_wp2;go_ret;exact Aq.no (P:=BX o c q f l r m g) (fun C=>h (C.dy.m x (Zs R.o))) A
       .have HS:Hid (TW o m g):=by refine⟨h2,h3,zE.o,fun s hs=> ?_,KM.2 fun j x hx=>(u j x (by have:=(Zw hx).1;omega) hx).2⟩;obtain⟨j,hj,rfl⟩:=List.getElem_of_mem hs;exact(u j _ Yv (Zv hj)).1
        clear u zE;by_cases p0:q=0
        .subst p0;by_cases e1:m.length=0
         .by_cases B:g.length=0
          .by_cases G:f=0
           .by_cases e4:l=0
            .go_wp2;go_ret;exact Aq.yes (P:=BX o c 0 f l r m g) ⟨h1.1,h1.2,HS.o,.inl ⟨rfl,List.eq_nil_of_length_eq_zero e1,List.eq_nil_of_length_eq_zero B,G,e4⟩⟩ d
            .have zP:(l==0)=false:=by simpa using e4
             go_wp2;go_ret;exact Aq.no (P:=BX o c 0 f l r m g) (fun h=>by have:=h.L;unfold MF at this;simp at this;have h9:=this.2.2.2;omega) d
           .have zF:(f==0)=false:=by simpa using G
            go_wp2;go_ret;exact Aq.no (P:=BX o c 0 f l r m g) (fun h=>by have:=h.L;unfold MF at this;simp at this;have h9:=this.2.2.1;omega) d
          .have zO:=beq_eq_false_iff_ne.2 Yv;go_wp2;go_ret;exact Aq.no (P:=BX o c 0 f l r m g) (fun h=>by have:=h.L;unfold MF at this;simp at this;exact B (by rw[this.2.1];rfl)) d
         .have zN:=beq_eq_false_iff_ne.2 Yv;go_wp2;go_ret;exact Aq.no (P:=BX o c 0 f l r m g) (fun h=>by have:=h.L;unfold MF at this;simp at this;exact e1 (by rw[this.1];rfl)) d
        .have zW:(q==0)=false:=by simpa using p0
         go_wp2_with fail;refine(Fx f 0 c wr).mono ?_;rintro e w1 ⟨rfl,rfl⟩;by_cases e1:0<=f/\f<=c
         .rw[decide_eq_true e1];have zV:=UA Yv Yv;go_wp2_with fail;refine(Fx l 1 (f+1) _).mono ?_;rintro e w1 ⟨rfl,rfl⟩;by_cases B:1<=l/\l<=f+1
          .rw[decide_eq_true B];by_cases p3:q=2
           .subst p3;go_wp2;go_ret;exact Aq.yes (P:=BX o c 2 f l r m g) ⟨h1.1,h1.2,HS.o,.inr (.inr ⟨rfl,e1.1,e1.2,B.1,B.2⟩)⟩ d
           .have zX:(q==2)=false:=by simpa using p3
            obtain rfl:q=1:=Yv
            by_cases G:l=f+1
            .have zF:(l==f+1)=true:=by simpa using G
             go_wp2;go_ret;exact Aq.yes (P:=BX o c 1 f l r m g) ⟨h1.1,h1.2,HS.o,.inr (.inl ⟨rfl,e1.1,e1.2,G⟩)⟩ d
            .have zF:(l==f+1)=false:=by simpa using G
             go_wp2;go_ret;exact Aq.no (P:=BX o c 1 f l r m g) (fun h=>by have:=h.L;unfold MF at this;simp at this;exact G this.2.2) d
          .rw[decide_eq_false B];go_wp2;go_ret;exact Aq.no (P:=BX o c q f l r m g) (fun h=>by rcases h.L with h|h|h;exact p0 h.1;exact B (by have:=h.2.2.2;omega);exact B h.2.2.2) d
         .rw[decide_eq_false e1];go_wp2;go_ret;exact Aq.no (P:=BX o c q f l r m g) (fun h=>by rcases h.L with h|h|h;exact p0 h.1;exact e1 ⟨h.2.1,h.2.2.1⟩;exact e1 ⟨h.2.1,h.2.2.1⟩) d
   .have G:decide ((600:Int)<(g.length:Int))=true:=Yt
    go_wp2;go_ret;exact Aq.no (P:=BX o c q f l r m g) (fun h=>h3 h.dy.nm) d
  .have B:decide ((23200:Int)<(m.length:Int))=true:=Yt
   go_wp2;go_ret;exact Aq.no (P:=BX o c q f l r m g) (fun h=>h2 h.dy.nq) d
 .rw[decide_eq_false h1];go_wp2;go_ret;exact Aq.no (P:=BX o c q f l r m g) (fun h=>h1 ⟨h.js,h.ju⟩) d
end
section
attribute [local go_sem↓] Go.wp_at_zero Go.wp_at_succ
end
section
open Classical in
end
theorem Ql(wd now E r:Int)(a:Zk)(sc:Nat)(P L:Value)(B:List Kd)(s:Zi)(i n m C:Int)(g h T Q:Nat)(b c:Zl)(w:Zh)(zE:Bu w w.heap.size a B)(yC:B.length<=1048576)(hq:Ad w w.heap.size (some ⟨g,0,none⟩) b)(hm:Ad w w.heap.size (some ⟨h,0,none⟩) c)(hf:RH b c)(yT:b.length<=23200):
 Calls prog 146 #[.agg #[Zg wd,Zg now,Zg E,Zg r,.slice a B.length sc,P,L],.agg (Ye i (some ⟨g,0,none⟩) b.length T (some ⟨h,0,none⟩) c.length Q n m C),.string s] w fun e w'=>∃x t y q,e=.returned (.agg (Ye i (some ⟨x,0,none⟩) ((shQ i B b c s).length) t (some ⟨y,0,none⟩) c.length q n m C))/\
  w'.ownsRow w.heap.size 9 1 (Yz x (shQ i B b c s).length t) (shQ i B b c s).length ((shQ i B b c s).map Value.string)/\w'.ownsRow w.heap.size 9 1 (Yz y c.length q) c.length (c.map Value.string)/\x≠y/\Zz w w':=by
 obtain⟨i0,hi,yE,yF,yG⟩:=info_parts Cq;have yR:=hf.q;have yB:=hf.m;obtain⟨W,U⟩:=Af (((w.alloc (.cells #[Zg wd,Zg now,Zg E,Zg r,.slice a B.length sc,P,L] 30)).alloc (.cells (Ye i (some ⟨g,0,none⟩) b.length T (some ⟨h,0,none⟩) c.length Q n m C) 49)).alloc (.cells Yd 49));have zG:Below w.heap.size w W:=by rw[U];exact((Zy).alloc Yu _).alloc Yt _
 have x2:BW W (w.heap.size+1+1) 0 Zb Zb 0 0 0:=by rw[U];exact⟨by simp[go_sem],by simp[go_sem],by simp[go_sem],by simp[go_sem],by simp[go_sem],by simp[go_sem],Yu⟩
 have x1:BW W (w.heap.size+1) i (Yz g b.length T) (Yz h c.length Q) n m C:=by rw[U];exact⟨by simp[go_sem],by simp[go_sem],by simp[go_sem],by simp[go_sem],by simp[go_sem],by simp[go_sem],Ym⟩
 have x0:AN W w.heap.size wd now E r (.slice a B.length sc) P L:=by rw[U];exact⟨by simp[go_sem],by simp[go_sem],by simp[go_sem],by simp[go_sem],by simp[go_sem],by simp[go_sem],by simp[go_sem],Ym⟩
 have D:∀o,W.frozen? ⟨w.heap.size+1+1,o,none⟩=false:=fun o=>by rw[U];simp[go_sem]
 have yV:W.heap.size=w.heap.size+3:=by rw[U];simp
 have HW:=Yw U;have N:=Yw (Zn hq hm);have HK:=Yw zE;have zI:=Yw x1;have K:=Yw x2;have d:=Yw zG;clear U hq hm zE x1 x2;obtain⟨X,Y,Z,a3,a4,a5,a6⟩:=zI.o;obtain⟨y0,y1,y2,y3,y4,y5,y6,y7⟩:=x0;have yA:Below W.heap.size W W:=Below.refl _ _;go_enter func146,ntmps146;go_upto_region 1 with fail;rw[<-HW.o];clear HW;by_cases p0:i=0
 .have HN:Hid (shQ i B b c s=b):=JR (.inl p0);subst p0;clear y0 y1 y2 y3 y4 y5 y6 y7;obtain⟨z,rfl⟩:=Af W;go_wp2_with fail;refine(Fb 0 n m C g h T Q b c z (Ad.N N.o.1 d.o) (Ad.N N.o.2 d.o) hf).mono ?_;rintro e F ⟨x,t,y,q,rfl,H,I,M,f⟩
  have l:=Yw (Zn (H.mono (show w.heap.size+3<=z.heap.size by omega)) (Zn (I.mono (show w.heap.size+3<=z.heap.size by omega)) (Zn M (d.o.trans (f.mono d.o.size)))));obtain⟨d0,d1,d2,d3,d4,d5,d6⟩:=BW.below K.o f;have zK:∀o,F.frozen? ⟨w.heap.size+1+1,o,none⟩=false:=fun o=>(f.frozen (p:=⟨w.heap.size+1+1,o,none⟩) Ym).trans (D o);clear H I f X Y Z a3 a4 a5 D;go_wp2
  refine bodyPost_ret (v:=.agg (Ye 0 (some ⟨x,0,none⟩) b.length t (some ⟨y,0,none⟩) c.length q n m C)) (by simp[results,results146,go_sem,d0,d1,d2,d3,d4,d5]) rfl ?_;rw[HN.o];refine⟨x,t,y,q,rfl,?_,?_,l.o.2.2.1,?_⟩
  .refine World.ownsRow.mono ?_ (show w.heap.size<=w.heap.size+3 by omega)
   iterate 6 (refine ownsRow_setCell_below ?_ Yu _)
   exact l.o.1
  .refine World.ownsRow.mono ?_ (show w.heap.size<=w.heap.size+3 by omega)
   iterate 6 (refine ownsRow_setCell_below ?_ Yu _)
   exact l.o.2.1
  .iterate 6 (refine Below.setCell ?_ Ym _)
   exact l.o.2.2.2
 have yW:(i==0)=false:=by simpa using p0
 go_wp2_with fail;refine(Ey wd now E r a sc P L B s W w.heap.size (Bu.below HK.o zG) zG.size yC).mono ?_;rintro e z ⟨rfl,S⟩;have zA:=Yw (d.o.trans (S.mono d.o.size));have zB:=Yw (BW.below zI.o S);have zC:=Yw (BW.below K.o S);have zJ:∀o,z.frozen? ⟨w.heap.size+1+1,o,none⟩=false:=fun o=>(S.frozen (p:=⟨w.heap.size+1+1,o,none⟩) Ym).trans (D o);have yU:=S.size
 clear X Y Z a3 a4 a5 a6 y0 y1 y2 y3 y4 y5 y6 y7 zI K d D S yA zG;have d:=Yw zA.o;have K:=Yw zC.o;have D:=zJ;clear zA zC zJ;obtain⟨X,Y,Z,a3,a4,a5,a6⟩:=zB.o;rcases Eg B s with⟨zH,zU⟩|⟨fi,fu,zH,zT,zS⟩
 .have HN:Hid (shQ i B b c s=b):=JR (.inr (.inl zU));rw[zH];clear zU;go_wp2_with fail;refine(Fb i n m C g h T Q b c z (Ad.N N.o.1 d.o) (Ad.N N.o.2 d.o) hf).mono ?_;rintro e F ⟨x,t,y,q,rfl,H,I,M,f⟩;have l:=Yw (Zn (H.mono (show w.heap.size+3<=z.heap.size by omega)) (Zn (I.mono (show w.heap.size+3<=z.heap.size by omega)) (Zn M (d.o.trans (f.mono d.o.size)))))
  obtain⟨d0,d1,d2,d3,d4,d5,d6⟩:=BW.below K.o f;have zK:∀o,F.frozen? ⟨w.heap.size+1+1,o,none⟩=false:=fun o=>(f.frozen (p:=⟨w.heap.size+1+1,o,none⟩) Ym).trans (D o);clear H I f X Y Z a3 a4 a5 D;go_wp2;refine bodyPost_ret (v:=.agg (Ye i (some ⟨x,0,none⟩) b.length t (some ⟨y,0,none⟩) c.length q n m C)) (by simp[results,results146,go_sem,d0,d1,d2,d3,d4,d5]) rfl ?_;rw[HN.o]
  refine⟨x,t,y,q,rfl,?_,?_,l.o.2.2.1,?_⟩
  .refine World.ownsRow.mono ?_ (show w.heap.size<=w.heap.size+3 by omega)
   iterate 6 (refine ownsRow_setCell_below ?_ Yu _)
   exact l.o.1
  .refine World.ownsRow.mono ?_ (show w.heap.size<=w.heap.size+3 by omega)
   iterate 6 (refine ownsRow_setCell_below ?_ Yu _)
   exact l.o.2.1
  .iterate 6 (refine Below.setCell ?_ Ym _)
   exact l.o.2.2.2
 have zY:Au B s:=⟨fu,Zs zT,zS⟩;rw[zH];have yM:decide ((fi:Int)<0)=false:=Yu
 clear zH zT zS;have HC:=Yw (Fw (some ⟨h,0,none⟩) Q c s z z.heap.size (Ad.N (w:=w) N.o.2 d.o) yB);go_wp2_with fail;refine HC.Ah ?_;rintro e w9 ⟨rfl,zZ⟩;rw[zZ];clear zZ HC w9;by_cases hin:s∈c
 .have HN:Hid (shQ i B b c s=b):=JR (.inr (.inr (.inl hin)));have J:c.any (fun x=>decide (x=s))=true:=List.any_eq_true.2 ⟨s,hin,Yu⟩;rw[J];clear J hin;go_wp2_with fail;refine(Fb i n m C g h T Q b c z (Ad.N N.o.1 d.o) (Ad.N N.o.2 d.o) hf).mono ?_;rintro e F ⟨x,t,y,q,rfl,H,I,M,f⟩
  have l:=Yw (Zn (H.mono (show w.heap.size+3<=z.heap.size by omega)) (Zn (I.mono (show w.heap.size+3<=z.heap.size by omega)) (Zn M (d.o.trans (f.mono d.o.size)))));obtain⟨d0,d1,d2,d3,d4,d5,d6⟩:=BW.below K.o f;have zK:∀o,F.frozen? ⟨w.heap.size+1+1,o,none⟩=false:=fun o=>(f.frozen (p:=⟨w.heap.size+1+1,o,none⟩) Ym).trans (D o);clear H I f X Y Z a3 a4 a5 D;go_wp2
  refine bodyPost_ret (v:=.agg (Ye i (some ⟨x,0,none⟩) b.length t (some ⟨y,0,none⟩) c.length q n m C)) (by simp[results,results146,go_sem,d0,d1,d2,d3,d4,d5]) rfl ?_;rw[HN.o];refine⟨x,t,y,q,rfl,?_,?_,l.o.2.2.1,?_⟩
  .refine World.ownsRow.mono ?_ (show w.heap.size<=w.heap.size+3 by omega)
   iterate 6 (refine ownsRow_setCell_below ?_ Yu _)
   exact l.o.1
  .refine World.ownsRow.mono ?_ (show w.heap.size<=w.heap.size+3 by omega)
   iterate 6 (refine ownsRow_setCell_below ?_ Yu _)
   exact l.o.2.1
  .iterate 6 (refine Below.setCell ?_ Ym _)
   exact l.o.2.2.2
 have J:c.any (fun x=>decide (x=s))=false:=by rw[List.any_eq_false];intro x hx e;exact hin (by simpa using (of_decide_eq_true e)▸hx)
 rw[J];clear J;by_cases p1:b.length=23200
 .have HN:Hid (shQ i B b c s=b):=JR (.inr (.inr (.inr p1)));have yJ:decide ((23200:Int)<=(b.length:Int))=true:=Yt
  clear p1;go_wp2_with fail;refine(Fb i n m C g h T Q b c z (Ad.N N.o.1 d.o) (Ad.N N.o.2 d.o) hf).mono ?_;rintro e F ⟨x,t,y,q,rfl,H,I,M,f⟩;have l:=Yw (Zn (H.mono (show w.heap.size+3<=z.heap.size by omega)) (Zn (I.mono (show w.heap.size+3<=z.heap.size by omega)) (Zn M (d.o.trans (f.mono d.o.size)))));obtain⟨d0,d1,d2,d3,d4,d5,d6⟩:=BW.below K.o f
  have zK:∀o,F.frozen? ⟨w.heap.size+1+1,o,none⟩=false:=fun o=>(f.frozen (p:=⟨w.heap.size+1+1,o,none⟩) Ym).trans (D o);clear H I f X Y Z a3 a4 a5 D;go_wp2;refine bodyPost_ret (v:=.agg (Ye i (some ⟨x,0,none⟩) b.length t (some ⟨y,0,none⟩) c.length q n m C)) (by simp[results,results146,go_sem,d0,d1,d2,d3,d4,d5]) rfl ?_;rw[HN.o];refine⟨x,t,y,q,rfl,?_,?_,l.o.2.2.1,?_⟩
  .refine World.ownsRow.mono ?_ (show w.heap.size<=w.heap.size+3 by omega)
   iterate 6 (refine ownsRow_setCell_below ?_ Yu _)
   exact l.o.1
  .refine World.ownsRow.mono ?_ (show w.heap.size<=w.heap.size+3 by omega)
   iterate 6 (refine ownsRow_setCell_below ?_ Yu _)
   exact l.o.2.1
  .iterate 6 (refine Below.setCell ?_ Ym _)
   exact l.o.2.2.2
 have yJ:decide ((23200:Int)<=(b.length:Int))=false:=Yt
 have HN:Hid (shQ i B b c s=b++[s]):=XK p0 zY hin p1;clear zY hin;go_wp2_with fail;refine(Fb i n m C g h T Q b c z (Ad.N N.o.1 d.o) (Ad.N N.o.2 d.o) hf).mono ?_;rintro e F ⟨x,t,y,q,rfl,H,I,M,f⟩;have lx:=H.lt x rfl;have ly:=I.lt y rfl;have zO:=f.size;obtain⟨G,hV⟩:=Af (F.alloc (.cells (Ye i (some ⟨x,0,none⟩) b.length t (some ⟨y,0,none⟩) c.length q n m C) 49))
 have zF:Below F.heap.size F G:=by rw[hV];exact Zy
 have O:=f.trans (zF.mono zO);have l:Hid (G.ownsRow (w.heap.size+3) 9 1 (Yz x b.length t) b.length (b.map Value.string)/\G.ownsRow (w.heap.size+3) 9 1 (Yz y c.length q) c.length (c.map Value.string)/\x≠y/\Zz w G):=⟨(Oq H zF).mono Yv,(Oq I zF).mono Yv,M,d.o.trans (O.mono d.o.size)⟩;have H8:Hid (BW G F.heap.size i (Yz x b.length t) (Yz y c.length q) n m C):=by show BW G F.heap.size i (Yz x b.length t) (Yz y c.length q) n m C;rw[hV];exact BW.new _ _ _ _ _ _ _ _
 have H2:=Yw (BW.below K.o O);have zP:∀o,G.frozen? ⟨w.heap.size+1+1,o,none⟩=false:=fun o=>(O.frozen (p:=⟨w.heap.size+1+1,o,none⟩) Ym).trans (D o);have f8:∀o,G.frozen? ⟨F.heap.size,o,none⟩=false:=fun o=>by rw[hV];simp[go_sem]
 have yI:G.heap.size=F.heap.size+1:=by rw[hV];simp
 go_upto_region 4 with fail;rw[<-hV];clear hV zF H I f O D zB K d N HK X Y Z a3 a4 a5 a6;have D:=zP;clear zP;generalize F.heap.size=b7 at *
 have yP:w.heap.size+3<=b7:=Yv
 have yQ:b7<G.heap.size:=Yv
 clear yI;obtain⟨c0,c1,c2,c3,c4,c5,c6⟩:=H8.o;obtain⟨d0,d1,d2,d3,d4,d5,d6⟩:=H2.o;go_wp2_with (first
  |(at_builtin;refine wpList_append_lies _ rfl _ _ 23 rfl (w.heap.size+3) 9 i0 Zc 1 16 underlying23 hi yE yF yG rfl Yq _ b.length (b.map Value.string) rfl ?d0 ⟨G.heap.size,0,none⟩ 1 1 [.string s] rfl rfl ?d1 ?d2 Yq ?d3 ?d4 ?d5 _ rfl ?_)
  |go_in)
 case d0=>exact l.o.1.alloc _
 case d1=>exact cell_one_new G (.string s) 9
 case d2=>intro u hu;simp at hu;subst hu;rfl
 case d3=>unfold maxLen;omega
 case d4=>omega
 case d5=>simp;omega
 intro k cap w4 zV zM zN yL;have R:Below G.heap.size G (G.alloc (.cells #[.string s] 9)):=Zy;have yH:=zM.size;simp[Value.ownBlock]at yH zN;have A:(G.alloc (.cells #[.string s] 9)).grownBy w4 (some x):=by simpa [Value.ownBlock]using zM
 have r7:=(BW.below H8.o R).grown A Yv;have r2:=(BW.below H2.o R).grown A Yv;have yN:∀o,w4.frozen? ⟨b7,o,none⟩=false:=fun o=>(A.frozen_far ⟨b7,o,none⟩ Ym Ym).trans ((R.frozen (p:=⟨b7,o,none⟩) Ym).trans (f8 o))
 have zJ:∀o,w4.frozen? ⟨w.heap.size+1+1,o,none⟩=false:=fun o=>(A.frozen_far ⟨w.heap.size+1+1,o,none⟩ Ym Ym).trans ((R.frozen (p:=⟨w.heap.size+1+1,o,none⟩) Ym).trans (D o));have zX:w4.ownsRow (w.heap.size+3) 9 1 (Yz y c.length q) c.length (c.map Value.string):=(l.o.2.1.alloc _).kept A (.inr (by simp[Value.ownBlock];omega))
 have zR:Below w.heap.size w w4:=(l.o.2.2.2.trans (R.mono l.o.2.2.2.size)).grown A Yt (fun j hj=>by cases hj;omega);have yD:k≠y:=Yv
 have yS:¬k=b7:=Yv
 have yO:¬b7=w.heap.size+1+1:=Yv
 have yK:¬w.heap.size+1+1=b7:=Yv
 have zW:w4.ownsRow (w.heap.size+3) 9 1 (Yz k (b.length+1) cap) (b.length+1) ((b++[s]).map Value.string):=by simpa using zV
 have HP:=Yw (Zn zW (Zn zX (Zn yD zR)));obtain⟨c0,c1,c2,c3,c4,c5,c6⟩:=r7;obtain⟨d0,d1,d2,d3,d4,d5,d6⟩:=r2;clear zV zW zX zM A zR R f8 D H8 H2 l;go_wp2;refine bodyPost_ret (v:=.agg (Ye i (some ⟨k,0,none⟩) (b.length+1) cap (some ⟨y,0,none⟩) c.length q n m C)) (by simp[results,results146,go_sem,d0,d1,d2,d3,d4,d5]) rfl ?_;rw[HN.o];refine⟨k,cap,y,q,Yu,?_,?_,HP.o.2.2.1,?_⟩
 .rw[show(b++[s]).length=b.length+1 by simp];refine World.ownsRow.mono ?_ (show w.heap.size<=w.heap.size+3 by omega)
  iterate 6 (refine ownsRow_setCell_below ?_ Yu _)
  refine ownsRow_setCell_other ?_ (by simp[Value.ownBlock];omega) _;exact HP.o.1
 .refine World.ownsRow.mono ?_ (show w.heap.size<=w.heap.size+3 by omega)
  iterate 6 (refine ownsRow_setCell_below ?_ Yu _)
  refine ownsRow_setCell_other ?_ (by simp[Value.ownBlock];omega) _;exact HP.o.2.1
 .iterate 7 (refine Below.setCell ?_ Ym _)
  exact HP.o.2.2.2
end Go.Proofs.YtoglnpagihdhpaaGreatDoor
