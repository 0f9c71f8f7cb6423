import Derived.Test.YtmjlkgpekcnacaaGreatX09
set_option maxRecDepth 100000
set_option maxHeartbeats 16000000
namespace Go.Proofs.YtmjlkgpekcnacaaGreat
open Go.ChangeShapes Go.WideShapes Go.ChangeAt Go.RowKit _root_.Go.Proofs.Tryz
variable{w:Zh}{d n:Int}{b a:List Kd}{c:Zl}{s:Zi}{k:Nat}{x:Kd}
section
attribute [local go_sem↓] Go.wp_at_zero Go.wp_at_succ
def Di(w:Zh)(b:Nat)(wd:Int)(m:Nat):Prop:=w.cell? (Zd b 0)=some (Zg wd)/\w.cell? (Zd b 1)=some (.map (some m))/\b<w.heap.size
theorem Di.new(w:Zh)(a:Int)(m:Nat)(t:TypeId):Di (w.alloc (.cells #[Zg a,.map (some m)] t)) w.heap.size a m:=⟨Yu,Yu,Yu⟩
theorem Di.af{d:Zh}{b B m:Nat}{e:Int}(h:Di w b e m)(a:Below B w d)(c:b<B):Di d b e m:=
 ⟨(a.cell (p:=⟨b,0,none⟩) c).trans h.1,(a.cell (p:=⟨b,1,none⟩) c).trans h.2.1,Zr h.2.2 a.size⟩
theorem LM(r now g d:Int)(T P L:Value)(a:Zk)(K m:Nat)(I:List Kd)(c:List Pd)(w:Zh)(u:AO w w.heap.size a c)(hm:FP c)(hl:c.length<=1048576)(q:∀s,PF w r m I s)(hX:P=.slice a c.length K):
 Calls prog 32 #[.agg #[Zg r,Zg now,Zg g,Zg d,T,P,L],.agg #[Zg r,.map (some m)]] w fun e w'=>Aq (c.length<=100/\∀(i:Nat) x,c[i]?=some x->FY I c i x) w w' e:=by
 subst hX;have R:∀o1 o2,Zz w ((w.alloc o1).alloc o2):=fun o1 o2=>(Zy).alloc Yu _;by_cases hn:100<c.length
 .go_enter func32,ntmps32;go_wp2;go_ret;exact Aq.no (fun h=>by omega) (R _ _)
 .have Q:=Ah.below (Ah.new w r now g d T (.slice a c.length K) L 27) ((Below.refl _ _).alloc (Zx) (.cells #[Zg r,.map (some m)] 64));have hh:Di ((w.alloc (.cells #[Zg r,Zg now,Zg g,Zg d,T,(.slice a c.length K),L] 27)).alloc (.cells #[Zg r,.map (some m)] 64)) (w.heap.size+1) r m:=⟨by simp[go_sem],by simp[go_sem],Yu⟩;go_enter func32,ntmps32;go_wp2
  go_loopw [14] (fun i wr=>∃k:Nat,k<=c.length/\i=Zg k/\Zz w wr/\Hid (Ah wr w.heap.size r now g d T (.slice a c.length K) L)/\Hid (Di wr (w.heap.size+1) r m)/\Hid (∀(j:Nat) x,j<k->c[j]?=some x->FY I c j x)) (fun i _=>c.length -(intOf i).toNat)
  case atStart=>exact⟨0,Nat.zero_le _,rfl,R _ _,Q,hh,fun j x h=>by omega⟩
  case round=>
   obtain⟨k,Z,rfl,f,Y,W,l⟩:=hrel;obtain⟨x0,x1,x2,x3,x4,x5,x6,x7⟩:=Y.o;obtain⟨g0,g1,g2⟩:=W.o;by_cases hlt:k<c.length
   .obtain⟨b,off,ha,hb,O⟩:=(u.below f).at hlt;subst ha;have z:c[k]?=some c[k]:=Zv hlt;obtain⟨M,N⟩:=O k _ z;have t:=List.getElem_mem hlt;have J:=hm.name _ t;have zA:b<wr.heap.size:=Yv
    match k,Z,hlt,l,z,M,N,J with
    |0,Z,hlt,l,z,M,N,J=>
     have v:=Yw z;clear O u hm t z;simp only[Nat.zero_mul,Nat.add_zero]at M N;generalize c[0]=x at *
     go_wp2;go_quiet (fail);have o:Below w.heap.size w ((wr.alloc (Obj.cells #[Value.string x.name,Value.string x.sum] 58)).drewN nq):=AM (f.alloc f.size _) _;have D:Below wr.heap.size wr ((wr.alloc (Obj.cells #[Value.string x.name,Value.string x.sum] 58)).drewN nq):=AM (Zy) _;obtain⟨ok,F,E⟩:=q x.sum;have V:=Yw (E _ o);clear q E;go_wp2_with fail;refine(Mf x.name _ J).mono ?_
     rintro e w1 ⟨rfl,rfl⟩;cases hnm:BZ x.name with
     |false=>go_wp2;go_ret;refine Aq.no (fun h=> ?_) (o);exact by have:=(h.2 _ _ v.o).name;rw[hnm]at this;cases this
     |true=>
      go_wp2_with fail;refine Calls.mono V.o ?_;rintro e w2 ⟨rfl,B⟩;have A:=o.trans (B.mono o.size);have C:=D.trans (B.mono D.size);cases ok with
      |false=>go_wp2;go_ret;refine Aq.no (fun h=> ?_) (A);exact by have:=F.2 (h.2 _ _ v.o).sum;cases this
      |true=>
       have U:Hid (∀(n:Nat) y,n<0+1->c[n]?=some y->FY I c n y):=by
        intro n y hj G;rcases Nat.lt_or_ge n (0)with H|H
        .exact l.o n y H G
        .obtain rfl:n=0:=Yv
         rw[v.o]at G;cases G;exact⟨hnm,fun j p h=>by omega,F.1 rfl⟩
       go_wp2;exact⟨⟨0+1,Yv,Yo,A,Ah.af Y.o C x7,Di.af W.o C g2,U⟩,by simp[intOf];omega⟩
    |j+1,Z,hlt,l,z,M,N,J=>
     have v:=Yw z;have X:Hid (c[j]?=some c[j]):=Zv Yv;obtain⟨d0,_⟩:=O j _ X.o;clear O u hm t z;generalize c[j+1]=x at *
     generalize c[j]=p at *
     have zE:IntKind.i64.wrap (j:Int)=(j:Int):=wrap_small Yv Yv;have zB:(0:Int)<=(j:Int):=Yv
     have zC:(j:Int)<(c.length:Int):=Yv
     cases hless:Op.bytesLess p.name.toList x.name.toList with
     |false=>go_wp2;go_quiet (fail);go_wp2;go_ret;refine Aq.no (fun h=> ?_) (AM (f.alloc f.size _) _);exact by have:=(h.2 _ _ v.o).up j p rfl X.o;unfold less at this;rw[hless]at this;cases this
     |true=>
      go_wp2;go_quiet (fail);have o:Below w.heap.size w ((wr.alloc (Obj.cells #[Value.string x.name,Value.string x.sum] 58)).drewN nq):=AM (f.alloc f.size _) _;have D:Below wr.heap.size wr ((wr.alloc (Obj.cells #[Value.string x.name,Value.string x.sum] 58)).drewN nq):=AM (Zy) _;obtain⟨ok,F,E⟩:=q x.sum;have V:=Yw (E _ o);clear q E;go_wp2_with fail;refine(Mf x.name _ J).mono ?_
      rintro e w1 ⟨rfl,rfl⟩;cases hnm:BZ x.name with
      |false=>go_wp2;go_ret;refine Aq.no (fun h=> ?_) (o);exact by have:=(h.2 _ _ v.o).name;rw[hnm]at this;cases this
      |true=>
       go_wp2_with fail;refine Calls.mono V.o ?_;rintro e w2 ⟨rfl,B⟩;have A:=o.trans (B.mono o.size);have C:=D.trans (B.mono D.size);cases ok with
       |false=>go_wp2;go_ret;refine Aq.no (fun h=> ?_) (A);exact by have:=F.2 (h.2 _ _ v.o).sum;cases this
       |true=>
        have U:Hid (∀(n:Nat) y,n<(j+1)+1->c[n]?=some y->FY I c n y):=by
         intro n y hj G;rcases Nat.lt_or_ge n ((j+1))with H|H
         .exact l.o n y H G
         .obtain rfl:n=(j+1):=Yv
          rw[v.o]at G;cases G;exact⟨hnm,fun j2 p2 h S=>by cases h;rw[X.o]at S;cases S;exact hless,F.1 rfl⟩
        go_wp2;exact⟨⟨(j+1)+1,Yv,Yo,A,Ah.af Y.o C x7,Di.af W.o C g2,U⟩,by simp[intOf];omega⟩
   .go_wp2;go_ret;exact Aq.yes ⟨Yv,fun i x Q=>l.o i x (by have:=(Zw Q).1;omega) Q⟩ f
theorem KF(C now c g:Int)(T P L:Value)(a:Zk)(ac m:Nat)(ks:List Kd)(d:List Ld)(w:Zh)(G:AR w w.heap.size a d)(hm:Hx d)(hl:d.length<=1048576)(zB:0<=now)(zC:now<=1000000000)(v:∀s,PF w C m ks s)(hX:L=.slice a d.length ac):
 Calls prog 33 #[.agg #[Zg C,Zg now,Zg c,Zg g,T,P,L],.agg #[Zg C,.map (some m)]] w fun e w'=>Aq (d.length<=200/\∀(i:Nat) x,d[i]?=some x->EM now c ks d i x) w w' e:=by
 subst hX;have U:∀o1 o2,Zz w ((w.alloc o1).alloc o2):=fun o1 o2=>(Zy).alloc Yu _;by_cases hn:200<d.length
 .go_enter func33,ntmps33;go_wp2;go_ret;exact Aq.no (fun h=>by omega) (U _ _)
 .have V:=Ah.below (Ah.new w C now c g T P (.slice a d.length ac) 27) ((Below.refl _ _).alloc (Zx) (.cells #[Zg C,.map (some m)] 64));have hh:Di ((w.alloc (.cells #[Zg C,Zg now,Zg c,Zg g,T,P,(.slice a d.length ac)] 27)).alloc (.cells #[Zg C,.map (some m)] 64)) (w.heap.size+1) C m:=⟨by simp[go_sem],by simp[go_sem],Yu⟩;go_enter func33,ntmps33;go_wp2
  go_loopw [14] (fun i wr=>∃k:Nat,k<=d.length/\i=Zg k/\Zz w wr/\Hid (Ah wr w.heap.size C now c g T P (.slice a d.length ac))/\Hid (Di wr (w.heap.size+1) C m)/\Hid (∀(j:Nat) x,j<k->d[j]?=some x->EM now c ks d j x)) (fun i _=>d.length -(intOf i).toNat)
  case atStart=>exact⟨0,Nat.zero_le _,rfl,U _ _,V,hh,fun j x h=>by omega⟩
  case round=>
   obtain⟨k,hk,rfl,f,O,X,n⟩:=hrel;obtain⟨x0,x1,x2,x3,x4,x5,x6,x7⟩:=O.o;obtain⟨g0,g1,g2⟩:=X.o;by_cases hlt:k<d.length
   .obtain⟨b,off,ha,hb,hc⟩:=(G.below f).at hlt;subst ha;have J:d[k]?=some d[k]:=Zv hlt;obtain⟨R,S,c2⟩:=hc k _ J;have F:=List.getElem_mem hlt;have m1:=hm.sum _ F;have zE:b<wr.heap.size:=Yv
    match k,hk,hlt,n,J,R,S,c2,m1 with
    |0,hk,hlt,n,J,R,S,c2,m1=>
     have q:=Yw J;clear hc G hm F J;simp only[Nat.zero_mul,Nat.add_zero]at R S c2;generalize d[0]=x at *
     go_wp2;go_quiet (fail);have l:Below w.heap.size w ((wr.alloc (Obj.cells #[Value.int IntKind.i64 x.H,Value.string x.sum,Value.int IntKind.i64 x.V] 61)).drewN nq):=AM (f.alloc f.size _) _;have A:Below wr.heap.size wr ((wr.alloc (Obj.cells #[Value.int IntKind.i64 x.H,Value.string x.sum,Value.int IntKind.i64 x.V] 61)).drewN nq):=AM (Zy) _
     have Y:((wr.alloc (Obj.cells #[Value.int IntKind.i64 x.H,Value.string x.sum,Value.int IntKind.i64 x.V] 61)).drewN nq).cell? (Zd (wr.heap.size) 2)=some (Zg x.V):=by rw[Ib];simp
     have Z:((wr.alloc (Obj.cells #[Value.int IntKind.i64 x.H,Value.string x.sum,Value.int IntKind.i64 x.V] 61)).drewN nq).heap.size=wr.heap.size+1:=by rw[Ic];simp
     obtain⟨ok,B,M⟩:=v x.sum;have W:=Yw (M _ l);have N:=Yw (Zn Y Z);clear v M Y Z;by_cases hlo:1<=x.H
     .have E:decide (x.H<1)=false:=Yt
      by_cases hhi:x.H<=c
      .have D:decide (c<x.H)=false:=Yt
       go_wp2_with fail;refine Calls.mono W.o ?_;rintro e w2 ⟨rfl,r⟩;have z:=l.trans (r.mono l.size);have t:=A.trans (r.mono A.size);cases ok with
       |false=>go_wp2;go_ret;refine Aq.no (fun h=> ?_) (z);exact by have:=B.2 (h.2 _ _ q.o).sum;cases this
       |true=>
        obtain⟨y0,y1,y2,y3,y4,y5,y6,y7⟩:=Ah.af O.o t x7;have e2:=(r.cell (p:=⟨wr.heap.size,2,none⟩) (by rw[N.o.2];simp)).trans N.o.1;have u:=Yw (Zn z (Zn (Ah.af O.o t x7) (Di.af X.o t g2)));have HO:=Yw (B.1 rfl);clear x0 x1 x2 x3 x4 x5 x6 g0 g1 A r z t O X B W N U V hh f m1 R S c2 l;by_cases ht1:now<x.V
        .have H:decide (x.V<=now)=false:=Yt
         by_cases ht2:x.V<=now+100000
         .have I:decide (now+100000<x.V)=false:=Yt
          have HA:Hid (∀(o:Nat) y,o<0+1->d[o]?=some y->EM now c ks d o y):=by
           intro o y hj Q;rcases Nat.lt_or_ge o (0)with h'|h'
           .exact n.o o y h' Q
           .obtain rfl:o=0:=Yv
            rw[q.o]at Q;cases Q;exact⟨hlo,hhi,fun j p h=>by omega,HO.o,ht1,ht2⟩
          go_wp2;exact⟨⟨0+1,Yv,Yo,u.o.1,u.o.2.1,u.o.2.2,HA⟩,by simp[intOf];omega⟩
         .have I:decide (now+100000<x.V)=true:=Yt
          go_wp2;go_ret;refine Aq.no (fun h=> ?_) (u.o.1);exact by have:=(h.2 _ _ q.o).gh;omega
        .have H:decide (x.V<=now)=true:=Yt
         go_wp2;go_ret;refine Aq.no (fun h=> ?_) (u.o.1);exact by have:=(h.2 _ _ q.o).gg;omega
      .have D:decide (c<x.H)=true:=Yt
       go_wp2;go_ret;refine Aq.no (fun h=> ?_) (l);exact by have:=(h.2 _ _ q.o).hi;omega
     .have E:decide (x.H<1)=true:=Yt
      go_wp2;go_ret;refine Aq.no (fun h=> ?_) (l);exact by have:=(h.2 _ _ q.o).lo;omega
    |j+1,hk,hlt,n,J,R,S,c2,m1=>
     have q:=Yw J;have HP:Hid (d[j]?=some d[j]):=Zv Yv;obtain⟨d0,_,_⟩:=hc j _ HP.o;clear hc G hm F J;generalize d[j+1]=x at *
     generalize d[j]=p at *
     have zH:IntKind.i64.wrap (j:Int)=(j:Int):=wrap_small Yv Yv;have zF:(0:Int)<=(j:Int):=Yv
     have zG:(j:Int)<(d.length:Int):=Yv
     by_cases hless:p.H<x.H
     .have K:decide (x.H<=p.H)=false:=Yt
      go_wp2;go_quiet (fail);have l:Below w.heap.size w ((wr.alloc (Obj.cells #[Value.int IntKind.i64 x.H,Value.string x.sum,Value.int IntKind.i64 x.V] 61)).drewN nq):=AM (f.alloc f.size _) _;have A:Below wr.heap.size wr ((wr.alloc (Obj.cells #[Value.int IntKind.i64 x.H,Value.string x.sum,Value.int IntKind.i64 x.V] 61)).drewN nq):=AM (Zy) _
      have Y:((wr.alloc (Obj.cells #[Value.int IntKind.i64 x.H,Value.string x.sum,Value.int IntKind.i64 x.V] 61)).drewN nq).cell? (Zd (wr.heap.size) 2)=some (Zg x.V):=by rw[Ib];simp
      have Z:((wr.alloc (Obj.cells #[Value.int IntKind.i64 x.H,Value.string x.sum,Value.int IntKind.i64 x.V] 61)).drewN nq).heap.size=wr.heap.size+1:=by rw[Ic];simp
      obtain⟨ok,B,M⟩:=v x.sum;have W:=Yw (M _ l);have N:=Yw (Zn Y Z);clear v M Y Z;by_cases hlo:1<=x.H
      .have E:decide (x.H<1)=false:=Yt
       by_cases hhi:x.H<=c
       .have D:decide (c<x.H)=false:=Yt
        go_wp2_with fail;refine Calls.mono W.o ?_;rintro e w2 ⟨rfl,r⟩;have z:=l.trans (r.mono l.size);have t:=A.trans (r.mono A.size);cases ok with
        |false=>go_wp2;go_ret;refine Aq.no (fun h=> ?_) (z);exact by have:=B.2 (h.2 _ _ q.o).sum;cases this
        |true=>
         obtain⟨y0,y1,y2,y3,y4,y5,y6,y7⟩:=Ah.af O.o t x7;have e2:=(r.cell (p:=⟨wr.heap.size,2,none⟩) (by rw[N.o.2];simp)).trans N.o.1;have u:=Yw (Zn z (Zn (Ah.af O.o t x7) (Di.af X.o t g2)));have HO:=Yw (B.1 rfl);clear x0 x1 x2 x3 x4 x5 x6 g0 g1 A r z t O X B W N U V hh f m1 R S c2 l;by_cases ht1:now<x.V
         .have H:decide (x.V<=now)=false:=Yt
          by_cases ht2:x.V<=now+100000
          .have I:decide (now+100000<x.V)=false:=Yt
           have HA:Hid (∀(o:Nat) y,o<(j+1)+1->d[o]?=some y->EM now c ks d o y):=by
            intro o y hj Q;rcases Nat.lt_or_ge o ((j+1))with h'|h'
            .exact n.o o y h' Q
            .obtain rfl:o=(j+1):=Yv
             rw[q.o]at Q;cases Q;exact⟨hlo,hhi,fun j2 p2 h zA=>by cases h;rw[HP.o]at zA;cases zA;exact hless,HO.o,ht1,ht2⟩
           go_wp2;exact⟨⟨(j+1)+1,Yv,Yo,u.o.1,u.o.2.1,u.o.2.2,HA⟩,by simp[intOf];omega⟩
          .have I:decide (now+100000<x.V)=true:=Yt
           go_wp2;go_ret;refine Aq.no (fun h=> ?_) (u.o.1);exact by have:=(h.2 _ _ q.o).gh;omega
         .have H:decide (x.V<=now)=true:=Yt
          go_wp2;go_ret;refine Aq.no (fun h=> ?_) (u.o.1);exact by have:=(h.2 _ _ q.o).gg;omega
       .have D:decide (c<x.H)=true:=Yt
        go_wp2;go_ret;refine Aq.no (fun h=> ?_) (l);exact by have:=(h.2 _ _ q.o).hi;omega
      .have E:decide (x.H<1)=true:=Yt
       go_wp2;go_ret;refine Aq.no (fun h=> ?_) (l);exact by have:=(h.2 _ _ q.o).lo;omega
     .have K:decide (x.H<=p.H)=true:=Yt
      go_wp2;go_quiet (fail);go_wp2;go_ret;refine Aq.no (fun h=> ?_) (AM (f.alloc f.size _) _);exact by have:=(h.2 _ _ q.o).up j p rfl HP.o;omega
   .go_wp2;go_ret;exact Aq.yes ⟨Yv,fun i x V=>n.o i x (by have:=(Zw V).1;omega) V⟩ f
end
section
open Classical in
noncomputable def shQ (ph:Int) (ks:List Kd) (qs ms:Zl) (s:Zi):Zl:=if ¬ph=0/\Aw ks s/\¬s∈ms/\¬qs.length=23200 then qs++[s]else qs
theorem UN{a:Zl}(e:¬d=0)(f:Aw b s)(g:¬s∈c)(h:¬a.length=23200):shQ d b a c s=a++[s]:=if_pos ⟨e,f,g,h⟩
theorem Jn{a:Zl}(h:d=0\/¬Aw b s\/s∈c\/a.length=23200):shQ d b a c s=a:=if_neg (fun⟨h1,h2,h3,h4⟩=>by rcases h with h|h|h|h;exact h1 h;exact h h2;exact h3 h;exact h4 h)
end
section
attribute [local go_sem↓] Go.wp_at_zero Go.wp_at_succ
def seen(ks:List Kd)(k:Nat)(n:Int):Bool:=(ks.take k).any (fun x=>decide (x.born=n))
def flags(ks:List Kd)(k:Nat):Zj:=(List.range 601).map (fun(n:Nat)=>Value.bool (seen ks k n))
def later(ks:List Kd)(k:Nat):List Int:=((ks.take k).map (·.born)).filter (fun b=>decide (600<b))
theorem Jo(b:a[k]?=some x):a.take (k+1)=a.take k++[x]:=by obtain⟨h,rfl⟩:=Zw b;exact Zu h
theorem GR(b:a[k]?=some x)(n:Int):seen a (k+1) n=(seen a k n||decide (x.born=n)):=by unfold seen;rw[Jo b,List.any_append];simp
theorem DW(a:List Kd)(k:Nat):(flags a k).length=601:=by simp[flags]
theorem DX(a:List Kd)(k n:Nat)(h:n<601):(flags a k)[n]?=some (.bool (seen a k n)):=by simp[flags,h]
theorem Qo(c:List Kd):flags c 0=List.replicate 601 (.bool false):=by unfold flags;rw[List.eq_replicate_iff];refine⟨Yu,fun b a=> ?_⟩;obtain⟨n,_,rfl⟩:=List.mem_map.1 a;simp[seen]
theorem MC(b:a[k]?=some x)(c:0<=x.born)(d:x.born<=600):(flags a k).set x.born.toNat (.bool true)=flags a (k+1):=by
 apply List.ext_getElem?;intro n;by_cases hn:n<601
 .by_cases he:x.born.toNat=n
  .subst he;rw[List.getElem?_set_self (by rw[DW];omega),DX _ _ _ hn,GR b];have:decide (x.born=(x.born.toNat:Int))=true:=Yt
   rw[this];simp
  .rw[List.getElem?_set_ne he,DX _ _ _ hn,DX _ _ _ hn,GR b];have:decide (x.born=(n:Int))=false:=Yt
   rw[this];simp
 .rw[List.getElem?_eq_none (by simp[DW];omega),List.getElem?_eq_none (by simp[DW];omega)]
theorem MD(b:a[k]?=some x)(c:600<x.born):flags a (k+1)=flags a k:=by
 apply List.ext_getElem?;intro n;by_cases hn:n<601
 .rw[DX _ _ _ hn,DX _ _ _ hn,GR b];have:decide (x.born=(n:Int))=false:=Yt
  rw[this];simp
 .rw[List.getElem?_eq_none (by simp[DW];omega),List.getElem?_eq_none (by simp[DW];omega)]
theorem Gf(b:a[k]?=some x):later a (k+1)=later a k++(if 600<x.born then [x.born]else []):=by unfold later;rw[Jo b,List.map_append,List.filter_append];by_cases h:600<x.born<;>simp[h]
theorem Jp(a:List Kd)(k:Nat):(later a k).length<=k:=by unfold later;refine Zm (List.length_filter_le _ _) ?_;simp;omega
theorem Dj{c:List Kd}:seen c k n=true↔∃j p,j<k/\c[j]?=some p/\p.born=n:=by
 unfold seen;rw[List.any_eq_true];constructor
 .rintro⟨p,b,h⟩;obtain⟨j,a⟩:=List.getElem?_of_mem b;have d:=(Zw a).1;simp at d;rw[List.getElem?_take_of_lt Yv]at a;exact⟨j,p,Yv,a,by simpa using h⟩
 .rintro⟨j,p,a,b,h⟩;exact⟨p,Zs (i:=j) (by rw[List.getElem?_take_of_lt a];exact b),by simpa using h⟩
theorem ME(h:600<n):n∈later b k↔seen b k n=true:=by
 unfold later seen;simp only[List.mem_filter,List.mem_map,List.any_eq_true,decide_eq_true_eq];constructor
 .rintro⟨⟨p,a,rfl⟩,_⟩;exact⟨p,a,rfl⟩
 .rintro⟨p,a,rfl⟩;exact⟨⟨p,a,rfl⟩,h⟩
theorem Tl:(prog.info? 4).map (fun i=>(i.zero,i.size,i.bytes))=some (some (.bool false),1,1):=Ys
theorem Pn:(prog.info? 3).map (fun i=>(i.zero,i.size,i.bytes))=some (some Ze,1,8):=Ys
theorem Jq{c:Int}(h:∀(i:Nat) k,a[i]?=some k->DO c a i k):∀(d i:Nat) u v,a[i]?=some u->a[i+d+1]?=some v->less u.sum v.sum=true
 |0,i,u,v,hu,hv=>(h _ _ hv).up i u rfl hu
 |d+1,i,u,v,hu,hv=>by have e:=(Zw hv).1;have b:a[i+d+1]?=some (a[i+d+1]'(by omega)):=Zv Yv;exact Cm (Jq h d i u _ hu b) ((h _ _ hv).up _ _ Yv b)
theorem NK{f:Int}(h:∀(i:Nat) k,b[i]?=some k->DO f b i k){i j:Nat}{u v:Kd}(d:b[i]?=some u)(a:b[j]?=some v)(e:u.sum=v.sum):u=v:=by
 rcases Nat.lt_trichotomy i j with c|c|c
 .have:=Jq h (j -i -1) i u v d (by rw[show i+(j -i -1)+1=j from by omega];exact a);rw[e,BU]at this;cases this
 .subst c;rw[d]at a;cases a;rfl
 .have:=Jq h (i -j -1) j v u a (by rw[show j+(i -j -1)+1=i from by omega];exact d);rw[e,BU]at this;cases this
structure Ka (w wr:Zh) (ks:List Kd) (k:Nat) (v:Value):Prop where
 bt:Below w.heap.size w wr
 fl:wr.ownsRow (w.heap.size+1) 4 1 (.slice (some ⟨w.heap.size+1,0,none⟩) 601 601) 601 (flags ks k)
 J:wr.ownsRow (w.heap.size+2) 3 1 v (later ks k).length ((later ks k).map (Value.int .i64))
theorem Ka.af{wr a:Zh}{ks:List Kd}{v:Value}(h:Ka w wr ks k v)(b:Zz wr a):Ka w a ks k v:=
 ⟨h.bt.trans (b.mono h.bt.size),h.fl.kept (Ae none b) (.inr (by simp[Value.ownBlock])),h.J.kept (Ae none b) (by cases v.ownBlock<;>simp)⟩
def VC(wd births:Int)(ks:List Kd):Prop:=(∀(i:Nat) k,ks[i]?=some k->DO wd ks i k)/\(∀(i:Nat) k,ks[i]?=some k->DH births ks i k)/\(∀(i:Nat) k,ks[i]?=some k->Hv ks k)
theorem OI(o now l d:Int)(a:Zk)(ac:Nat)(P L:Value)(f:List Kd)(w:Zh)(zG:AI w w.heap.size a f)(hm:Fm f)(hl:f.length<=600)(yI:∀k∈f,k.B.length<=1048576)(h1:1<=o)(h8:o<=8):
 Calls prog 24 #[.agg #[.int .i64 o,.int .i64 now,.int .i64 l,.int .i64 d,.slice a f.length ac,P,L]] w fun e O=>∃b,e=.returned (.bool b)/\(b=true↔VC o d f)/\Zz w O:=by
 obtain⟨i0,hi,vC,vD,vE⟩:=info_parts Tl;obtain⟨i1,xC,xJ,xK,xL⟩:=info_parts Pn;have xO:Below w.heap.size w (w.alloc (.cells #[.int .i64 o,.int .i64 now,.int .i64 l,.int .i64 d,.slice a f.length ac,P,L] 27)):=Zy;have hx:=Ah.new w o now l d (.slice a f.length ac) P L 27;go_enter func24,ntmps24
 go_wp2_with (at_make;refine wpList_make_full _ rfl _ _ 91 rfl (w.heap.size+1) 4 i0 (.bool false) 1 underlying91 hi vC vD .i64 .i64 _ _ 601 rfl rfl rfl rfl ?c1 ?c2 ?c3 ?_)
 case c1=>rw[vE];omega
 case c2=>unfold maxLen;omega
 case c3=>simp
 intro w1 zF A;rw[toList_madeCells_one]at zF;have T:Below (w.heap.size+1) (w.alloc (.cells #[.int .i64 o,.int .i64 now,.int .i64 l,.int .i64 d,.slice a f.length ac,P,L] 27)) w1:=(Below.refl _ _).grown A (by simp) (by simp);have xI:=hx.af T (by omega);have H:=xO.trans (T.mono (by omega));have vJ:w.heap.size+1<w1.heap.size:=by have:=(zF.lt _ rfl).2;simpa using this
 clear A T hx;go_wp2
 go_loopw [4,5] (fun v i wr=>∃(k g c:Nat),k<=f.length/\i=.int .i64 k/\v=.slice (some ⟨g,0,none⟩) (later f k).length c/\Hid (Ka w wr f k (.slice (some ⟨g,0,none⟩) (later f k).length c))/\Hid (Ah wr w.heap.size o now l d (.slice a f.length ac) P L)/\Hid (∀(j:Nat) x,j<k->f[j]?=some x->DO o f j x/\DH d f j x)) (fun _ i _=>f.length -(intOf i).toNat)
 case atStart=>
  refine⟨0,w1.heap.size,0,Nat.zero_le _,rfl,rfl,⟨H.alloc H.size _,?_,?_⟩,xI.af (Zy) xI.2.2.2.2.2.2.2,fun j x h=>by omega⟩
  .rw[Qo];exact zF.alloc _
  .exact World.ownsRow_lit w1 #[] 0 (by omega) (by simp[maxLen]) rfl
 case round=>
  obtain⟨k,g,c,hk,rfl,rfl,HL,HX,K⟩:=hrel;obtain⟨x0,x1,x2,x3,x4,x5,x6,x7⟩:=HX.o;by_cases hlt:k<f.length
  .obtain⟨b,off,ha,hb,hc⟩:=(zG.below HL.o.bt).at hlt;subst ha;have hg:f[k]?=some f[k]:=Zv hlt;obtain⟨c0,c1,c2,D,E,c3,hr⟩:=hc k _ hg;have Q:=List.getElem_mem hlt;have m1:=hm.E _ Q;have m2:=yI _ Q;have xP:b<wr.heap.size:=by omega
   have hL:=HL.o;clear HX HL zF
   match k,hk,hlt,K,hg,c0,c1,c2,c3,hr,m1,m2,hL with
   |0,hk,hlt,K,hg,c0,c1,c2,c3,hr,m1,m2,hL=>
    have C:Hid _:=hg;clear hc zG hm yI Q hg;simp only[Nat.zero_mul,Nat.add_zero]at c0 c1 c2 c3;generalize f[0]=x at *
    go_wp2;have T:Below wr.heap.size wr (wr.alloc (Obj.cells #[Value.string x.sum,Value.int IntKind.i64 x.born,Value.string x.E,Value.slice D x.B.length E] 37)):=Zy;have z1:(wr.alloc (Obj.cells #[Value.string x.sum,Value.int IntKind.i64 x.born,Value.string x.E,Value.slice D x.B.length E] 37)).heap.size=wr.heap.size+1:=by simp
    have t1:(wr.alloc (Obj.cells #[Value.string x.sum,Value.int IntKind.i64 x.born,Value.string x.E,Value.slice D x.B.length E] 37)).cell? ⟨wr.heap.size,0,none⟩=some (.string x.sum):=by simp
    have yE:(wr.alloc (Obj.cells #[Value.string x.sum,Value.int IntKind.i64 x.born,Value.string x.E,Value.slice D x.B.length E] 37)).cell? ⟨wr.heap.size,1,none⟩=some (.int .i64 x.born):=by simp
    have t2:(wr.alloc (Obj.cells #[Value.string x.sum,Value.int IntKind.i64 x.born,Value.string x.E,Value.slice D x.B.length E] 37)).cell? ⟨wr.heap.size,2,none⟩=some (.string x.E):=by simp
    have t3:(wr.alloc (Obj.cells #[Value.string x.sum,Value.int IntKind.i64 x.born,Value.string x.E,Value.slice D x.B.length E] 37)).cell? ⟨wr.heap.size,3,none⟩=some (.slice D x.B.length E):=by simp
    have zH:Ah (wr.alloc (Obj.cells #[Value.string x.sum,Value.int IntKind.i64 x.born,Value.string x.E,Value.slice D x.B.length E] 37)) w.heap.size o now l d (.slice (some ⟨b,off,none⟩) f.length ac) P L:=Ah.af ⟨x0,x1,x2,x3,x4,x5,x6,x7⟩ T x7;generalize hW1:wr.alloc (Obj.cells #[Value.string x.sum,Value.int IntKind.i64 x.born,Value.string x.E,Value.slice D x.B.length E] 37)=W1 at *
    have yD:Ab W1 W1.heap.size D x.B:=(hr.mono hL.bt.size).M T;have q0:=Ag.cell zH.1 (by omega);have vF:=Ag.cell zH.2.2.2.1 (by omega);have vG:=Ag.cell zH.2.2.2.2.1 (by omega);have q1:=Ag.cell t1 (by omega);have q2:=Ag.cell t2 (by omega);have q3:=Ag.cell t3 (by omega);have q5:=Ag.cell yE (by omega);have xD:=Ag.ne W1
    have hV:∀n:Ag W1,Calls prog 37 #[.agg #[.string x.E,.slice D x.B.length E],.int .i64 o] n.w fun e O=>e=.returned (.bool (Ay x.E x.B o))/\Below n.w.heap.size n.w O:=fun n=>Cl x.E D E x.B o _ (yD.M n.h) m2 m1
    have hF:∀n:Ag W1,Calls prog 12 #[.agg #[.string x.E,.slice D x.B.length E],.int .i64 o] n.w fun e O=>e=.returned (.string (AB x.E x.B o))/\Below n.w.heap.size n.w O:=fun n=>EL x.E D E x.B o _ (yD.M n.h) m2 m1;have hS:∀n:Ag W1,Calls prog 50 #[.string (AB x.E x.B o),.int .i64 o] n.w fun e O=>e=.returned (.string (sumOf x o))/\Below n.w.heap.size n.w O:=fun n=>Fl _ o _ (Dq _ _ _) h1 h8
    have hR:∀n:Ag W1,Calls prog 23 #[.int .i64 x.born,.int .i64 1,.int .i64 d] n.w fun e O=>e=.returned (.bool (decide (1<=x.born/\x.born<=d)))/\Below n.w.heap.size n.w O:=fun n=>(Cj _ _ _ _).mono (by rintro e O ⟨rfl,rfl⟩;exact⟨rfl,Below.refl _ _⟩);have I:Hid _:=Zn hF hS;have S:Hid _:=hV;have R:Hid _:=hR;clear hF hS hV hR;generalize AB x.E x.B o=fx at *
    generalize hsx:sumOf x o=sx at *
    have H:=hL.bt.trans (T.mono hL.bt.size);cases hok:Ay x.E x.B o with
    |false=>
     rw[hok]at S;refine Aj (by kernel_rfl) (by kernel_rfl) ?_
     repeat (go_big_quiet_step (first|exact Ag.calls (S.o _)|exact Ag.calls (I.o.1 _)|exact Ag.calls (I.o.2 _)|exact Ag.calls (R.o _)))
     refine wpQuiet_nil ?_;intro n;go_wp2;go_ret;refine⟨_,rfl,?_,H.trans (n.h.mono H.size)⟩;simp only[Bool.false_eq_true,false_iff];exact fun h=>by have:=(h.1 _ _ C.o).ok;rw[hok]at this;cases this
    |true=>
     rw[hok]at S;by_cases hs:x.sum=sx
     .have zI:(x.sum.toList !=sx.toList)=false:=by rw[hs];simp
      by_cases hrg:1<=x.born/\x.born<=d
      .rw[decide_eq_true hrg]at R;refine Aj (by kernel_rfl) (by kernel_rfl) ?_
       repeat (go_big_quiet_step (first|exact Ag.calls (S.o _)|exact Ag.calls (I.o.1 _)|exact Ag.calls (I.o.2 _)|exact Ag.calls (R.o _)))
       refine wpQuiet_nil ?_;intro n;have B:Ka w n.w f (0) (.slice (some ⟨g,0,none⟩) (later f (0)).length c):=hL.af (T.trans (n.h.mono (by omega)));have zN:=zH.af n.h (by omega);obtain⟨y0,y1,y2,y3,y4,y5,y6,y7⟩:=zN;have n1:=Ag.cell yE (by omega) n;have nz:=n.size;by_cases hlow:x.born<=600
       .have zP:=B.fl.cellAt x.born.toNat (by omega);rw[DX _ _ _ (by omega),Int.toNat_of_nonneg (by omega)]at zP;have xR:=B.fl.frozenAt x.born.toNat;cases hse:seen f (0) x.born with
        |true=>rw[hse]at zP;have HH:Hid _:=B;clear B hL S I R;go_wp2;go_ret;refine⟨_,rfl,?_,HH.o.bt⟩;simp only[Bool.false_eq_true,false_iff];obtain⟨t,p',zR,zU,zO⟩:=Dj.1 hse;exact fun h=>(h.2.1 _ _ C.o).new t p' zR zU zO
        |false=>
         rw[hse]at zP;have zW:=B.fl.stored x.born.toNat (.bool true);rw[MC C.o (by omega) hlow]at zW;have N:later f (0+1)=later f (0):=by rw[Gf C.o,if_neg (by omega)];simp
         have yA:=B.bt.setCell (p:=⟨w.heap.size+1,x.born.toNat,none⟩) (by simp) (.bool true);have Y:=ownsRow_setCell_below B.J (a:=⟨w.heap.size+1,x.born.toNat,none⟩) (by simp) (.bool true);rw[<-N]at Y;have HN:Hid (Ka w (n.w.setCell ⟨w.heap.size+1,x.born.toNat,none⟩ (.bool true)) f (0+1) (.slice (some ⟨g,0,none⟩) (later f (0)).length c)):=⟨yA,zW.1,by rw[<-N];exact Y⟩
         have HB:Hid (Ah (n.w.setCell ⟨w.heap.size+1,x.born.toNat,none⟩ (.bool true)) w.heap.size o now l d (.slice (some ⟨b,off,none⟩) f.length ac) P L):=by refine⟨?_,?_,?_,?_,?_,?_,?_,by simpa using y7⟩<;>(rw[World.cell?_setCell_other _ _ _ _ (by simp)];assumption)
         have HA:Hid (∀(t:Nat) y,t<0+1->f[t]?=some y->DO o f t y/\DH d f t y):=by
          intro t y hj W;rcases Nat.lt_or_ge t (0)with J|J
          .exact K.o t y J W
          .obtain rfl:t=0:=by omega
           rw[C.o]at W;cases W;refine⟨⟨hok,by rw[hsx];exact hs,fun j p h=>by omega⟩,⟨by omega,by omega,fun j2 p2 zS X he=> ?_⟩⟩;have:=Dj.2 ⟨j2,p2,zS,X,he⟩;rw[hse]at this;cases this
         have zZ:Hid (later f (0+1)=later f (0)):=N;clear B hL S I R zW N Y yA;go_wp2;refine⟨⟨0+1,g,c,by omega,by go_num,by rw[zZ.o],?_,HB,HA⟩,by simp[intOf];omega⟩;rw[zZ.o];exact HN
       .have N:=B.J;have yC:=B.fl;have F:=B.bt;have hlen:=Jp f (0);have zX:Hid (flags f (0+1)=flags f (0)):=MD C.o (by omega);have Z:Hid (later f (0+1)=later f (0)++[x.born]):=by show _=_;rw[Gf C.o,if_pos (by omega)]
        have U:Hid (x.born∈later f (0)↔seen f (0) x.born=true):=ME (by omega);have yM:Hid (Ah n.w w.heap.size o now l d (.slice (some ⟨b,off,none⟩) f.length ac) P L):=⟨y0,y1,y2,y3,y4,y5,y6,y7⟩;have HT:Hid (DO o f (0) x):=⟨hok,by rw[hsx];exact hs,fun j p h=>by omega⟩;have yN:Hid (later f (0)=later f (0)):=rfl;generalize hlv:later f (0)=lv at *
        have HH:Hid _:=Zn N (Zn yC F);clear hL S I R B zI yN N yC;go_wp2
        go_loopw [7] (fun jv wq=>∃q m:Nat,q<=lv.length/\jv=.int .i64 q/\wq=n.w.drewN m/\Hid (∀r z,r<q->lv[r]?=some z->z≠x.born)) (fun jv _=>lv.length -(intOf jv).toNat)
        case atStart=>exact⟨0,0,Nat.zero_le _,rfl,rfl,fun r z h=>by omega⟩
        case round=>
         obtain⟨q,m,hq,rfl,rfl,zT⟩:=hrel;by_cases hqlt:q<lv.length
         .have yB:=HH.o.1.cellAt q (by simpa using hqlt);rw[List.getElem?_map,Zv hqlt]at yB;simp only[Option.map_some]at yB;have HQ:Hid (lv[q]?=some lv[q]):=Zv hqlt;have Q:Hid (lv[q]∈lv):=List.getElem_mem hqlt;have xE:(0:Int)<=(q:Int):=by omega
          have xF:(q:Int)<(lv.length:Int):=by omega
          generalize lv[q]=z at *
          by_cases hz:z=x.born
          .subst hz;go_wp2;go_quiet (fail);go_wp2;go_ret;refine⟨_,rfl,?_,AM (AM F _) _⟩;simp only[Bool.false_eq_true,false_iff];obtain⟨t,p',zR,zU,zO⟩:=Dj.1 (U.o.1 Q.o);exact fun h=>(h.2.1 _ _ C.o).new t p' zR zU zO
          .have vA:(z==x.born)=false:=by simpa using hz
           have HN:Hid (∀r z,r<q+1->lv[r]?=some z->z≠x.born):=by
            intro r z' zB zA;rcases Nat.lt_or_ge r q with J|J
            .exact zT.o r z' J zA
            .obtain rfl:r=q:=by omega
             rw[HQ.o]at zA;cases zA;exact hz
           clear hz;go_wp2;go_quiet (fail);go_wp2;exact⟨⟨q+1,m+nq,by omega,by go_num,rfl,HN⟩,by simp[intOf];omega⟩
         .obtain rfl:q=lv.length:=by omega
          have zY:Hid (seen f (0) x.born=false):=by
           show _=_;cases hse:seen f (0) x.born with
           |false=>rfl
           |true=>obtain⟨r,zB⟩:=List.getElem?_of_mem (U.o.2 hse);exact absurd rfl (zT.o r _ (Zw zB).1 zB)
          have M:(n.w.drewN m).ownsRow (w.heap.size+2) 3 1 (.slice (some ⟨g,0,none⟩) lv.length c) lv.length (lv.map (Value.int .i64)):=HH.o.1;have zE:(n.w.drewN m).ownsRow (w.heap.size+1) 4 1 (.slice (some ⟨w.heap.size+1,0,none⟩) 601 601) 601 (flags f (0)):=HH.o.2.1;have xU:=(M.lt g rfl).1;have HD:Hid _:=Zn M zE;have yR:Below w.heap.size w (n.w.drewN m):=AM F _
          have zV:w.heap.size+2<=(n.w.drewN m).heap.size:=by have:=(M.lt g rfl).2;omega
          clear M zE;go_wp2_with (first
           |(at_builtin;refine wpList_append_own _ rfl _ _ 40 rfl (w.heap.size+2) 3 i1 (.int .i64 0) 1 8 underlying40 xC xJ xK xL rfl (by decide) _ lv.length (lv.map (Value.int .i64)) rfl ?d0 ⟨n.w.heap.size,0,none⟩ 1 1 [.int .i64 x.born] rfl rfl ?d1 ?d2 ?d3 ?d4 ?d5 ?_)
           |go_in)
          case d0=>exact HD.o.1.alloc _
          case d1=>exact cell_one_new _ _ _
          case d2=>intro u hu;simp at hu;subst hu;rfl
          case d3=>unfold maxLen;omega
          case d4=>omega
          case d5=>simp at zV |-;omega
          intro v' w2 G A _;obtain⟨g',c',yU,xS,xT⟩:=G.form (by omega);subst yU;have zM:Below (w.heap.size+2) (n.w.drewN m) w2:=((Below.refl _ _).alloc zV _).grown A (by simp at zV |-;omega) (by intro k hk;simp[Value.ownBlock]at hk;omega);have Di:Hid _:=yM.o.af ((AM (Below.refl _ _) m:Below (w.heap.size+2) n.w (n.w.drewN m)).trans zM) (by omega)
          have zC:=(HD.o.2.alloc (.cells #[.int .i64 x.born] 3)).kept A (.inr (by simp[Value.ownBlock];omega));have HN:Hid (Ka w w2 f (0+1) (.slice (some ⟨g',0,none⟩) (lv.length+1) c')):=⟨yR.trans (zM.mono (by omega)),by rw[zX.o];exact zC,by rw[Z.o];simpa using G⟩;have HA:Hid (∀(t:Nat) y,t<0+1->f[t]?=some y->DO o f t y/\DH d f t y):=by
           intro t y hj W;rcases Nat.lt_or_ge t (0)with J|J
           .exact K.o t y J W
           .obtain rfl:t=0:=by omega
            rw[C.o]at W;cases W;refine⟨HT.o,⟨by omega,by omega,fun j2 p2 zS X he=> ?_⟩⟩;have:=Dj.2 ⟨j2,p2,zS,X,he⟩;rw[zY.o]at this;cases this
          clear G A zC zM;go_wp2;refine⟨⟨0+1,g',c',by omega,by go_num,by rw[Z.o];simp,?_,Di,HA⟩,by simp[intOf];omega⟩;rw[Z.o,List.length_append];exact HN
      .rw[decide_eq_false hrg]at R;refine Aj (by kernel_rfl) (by kernel_rfl) ?_
       repeat (go_big_quiet_step (first|exact Ag.calls (S.o _)|exact Ag.calls (I.o.1 _)|exact Ag.calls (I.o.2 _)|exact Ag.calls (R.o _)))
       refine wpQuiet_nil ?_;intro n;go_wp2;go_ret;refine⟨_,rfl,?_,H.trans (n.h.mono H.size)⟩;simp only[Bool.false_eq_true,false_iff];exact fun h=>hrg ⟨(h.2.1 _ _ C.o).lo,(h.2.1 _ _ C.o).hi⟩
     .have zI:(x.sum.toList !=sx.toList)=true:=by simp[By hs,bne]
      have yW:=By hs;refine Aj (by kernel_rfl) (by kernel_rfl) ?_
      repeat (go_big_quiet_step (first|exact Ag.calls (S.o _)|exact Ag.calls (I.o.1 _)|exact Ag.calls (I.o.2 _)|exact Ag.calls (R.o _)))
      refine wpQuiet_nil ?_;intro n;go_wp2;go_ret;refine⟨_,rfl,?_,H.trans (n.h.mono H.size)⟩;simp only[Bool.false_eq_true,false_iff];exact fun h=>hs (by rw[<-hsx];exact(h.1 _ _ C.o).sum)
   |j+1,hk,hlt,K,hg,c0,c1,c2,c3,hr,m1,m2,hL=>
    have C:Hid _:=hg;have HP:Hid (f[j]?=some f[j]):=Zv (by omega);obtain⟨d0,_,_,_⟩:=hc j _ HP.o;clear hc zG hm yI Q hg;generalize f[j+1]=x at *
    generalize f[j]=p at *
    have vR:IntKind.i64.wrap (j:Int)=(j:Int):=wrap_small (by omega) (by omega);have xW:(0:Int)<=(j:Int):=by omega
    have xX:(j:Int)<(f.length:Int):=by omega
    go_wp2;have T:Below wr.heap.size wr (wr.alloc (Obj.cells #[Value.string x.sum,Value.int IntKind.i64 x.born,Value.string x.E,Value.slice D x.B.length E] 37)):=Zy;have z1:(wr.alloc (Obj.cells #[Value.string x.sum,Value.int IntKind.i64 x.born,Value.string x.E,Value.slice D x.B.length E] 37)).heap.size=wr.heap.size+1:=by simp
    have t1:(wr.alloc (Obj.cells #[Value.string x.sum,Value.int IntKind.i64 x.born,Value.string x.E,Value.slice D x.B.length E] 37)).cell? ⟨wr.heap.size,0,none⟩=some (.string x.sum):=by simp
    have yE:(wr.alloc (Obj.cells #[Value.string x.sum,Value.int IntKind.i64 x.born,Value.string x.E,Value.slice D x.B.length E] 37)).cell? ⟨wr.heap.size,1,none⟩=some (.int .i64 x.born):=by simp
    have t2:(wr.alloc (Obj.cells #[Value.string x.sum,Value.int IntKind.i64 x.born,Value.string x.E,Value.slice D x.B.length E] 37)).cell? ⟨wr.heap.size,2,none⟩=some (.string x.E):=by simp
    have t3:(wr.alloc (Obj.cells #[Value.string x.sum,Value.int IntKind.i64 x.born,Value.string x.E,Value.slice D x.B.length E] 37)).cell? ⟨wr.heap.size,3,none⟩=some (.slice D x.B.length E):=by simp
    have zH:Ah (wr.alloc (Obj.cells #[Value.string x.sum,Value.int IntKind.i64 x.born,Value.string x.E,Value.slice D x.B.length E] 37)) w.heap.size o now l d (.slice (some ⟨b,off,none⟩) f.length ac) P L:=Ah.af ⟨x0,x1,x2,x3,x4,x5,x6,x7⟩ T x7;generalize hW1:wr.alloc (Obj.cells #[Value.string x.sum,Value.int IntKind.i64 x.born,Value.string x.E,Value.slice D x.B.length E] 37)=W1 at *
    have yD:Ab W1 W1.heap.size D x.B:=(hr.mono hL.bt.size).M T;have q0:=Ag.cell zH.1 (by omega);have vF:=Ag.cell zH.2.2.2.1 (by omega);have vG:=Ag.cell zH.2.2.2.2.1 (by omega);have q1:=Ag.cell t1 (by omega);have q2:=Ag.cell t2 (by omega);have q3:=Ag.cell t3 (by omega);have q5:=Ag.cell yE (by omega);have q6:=Ag.cell ((T.cell (p:=⟨b,off+j *4,none⟩) xP).trans d0) (by omega);have xD:=Ag.ne W1
    have hV:∀n:Ag W1,Calls prog 37 #[.agg #[.string x.E,.slice D x.B.length E],.int .i64 o] n.w fun e O=>e=.returned (.bool (Ay x.E x.B o))/\Below n.w.heap.size n.w O:=fun n=>Cl x.E D E x.B o _ (yD.M n.h) m2 m1
    have hF:∀n:Ag W1,Calls prog 12 #[.agg #[.string x.E,.slice D x.B.length E],.int .i64 o] n.w fun e O=>e=.returned (.string (AB x.E x.B o))/\Below n.w.heap.size n.w O:=fun n=>EL x.E D E x.B o _ (yD.M n.h) m2 m1;have hS:∀n:Ag W1,Calls prog 50 #[.string (AB x.E x.B o),.int .i64 o] n.w fun e O=>e=.returned (.string (sumOf x o))/\Below n.w.heap.size n.w O:=fun n=>Fl _ o _ (Dq _ _ _) h1 h8
    have hR:∀n:Ag W1,Calls prog 23 #[.int .i64 x.born,.int .i64 1,.int .i64 d] n.w fun e O=>e=.returned (.bool (decide (1<=x.born/\x.born<=d)))/\Below n.w.heap.size n.w O:=fun n=>(Cj _ _ _ _).mono (by rintro e O ⟨rfl,rfl⟩;exact⟨rfl,Below.refl _ _⟩);have I:Hid _:=Zn hF hS;have S:Hid _:=hV;have R:Hid _:=hR;clear hF hS hV hR;generalize AB x.E x.B o=fx at *
    generalize hsx:sumOf x o=sx at *
    have H:=hL.bt.trans (T.mono hL.bt.size);cases hok:Ay x.E x.B o with
    |false=>
     rw[hok]at S;refine Aj (by kernel_rfl) (by kernel_rfl) ?_
     repeat (go_big_quiet_step (first|exact Ag.calls (S.o _)|exact Ag.calls (I.o.1 _)|exact Ag.calls (I.o.2 _)|exact Ag.calls (R.o _)))
     refine wpQuiet_nil ?_;intro n;go_wp2;go_ret;refine⟨_,rfl,?_,H.trans (n.h.mono H.size)⟩;simp only[Bool.false_eq_true,false_iff];exact fun h=>by have:=(h.1 _ _ C.o).ok;rw[hok]at this;cases this
    |true=>
     rw[hok]at S;by_cases hs:x.sum=sx
     .have zI:(x.sum.toList !=sx.toList)=false:=by rw[hs];simp
      cases hless:Op.bytesLess p.sum.toList sx.toList with
      |false=>
       refine Aj (by kernel_rfl) (by kernel_rfl) ?_
       repeat (go_big_quiet_step (first|exact Ag.calls (S.o _)|exact Ag.calls (I.o.1 _)|exact Ag.calls (I.o.2 _)|exact Ag.calls (R.o _)))
       refine wpQuiet_nil ?_;intro n;go_wp2;go_ret;refine⟨_,rfl,?_,H.trans (n.h.mono H.size)⟩;simp only[Bool.false_eq_true,false_iff];exact fun h=>by have:=(h.1 _ _ C.o).up j p rfl HP.o;unfold less at this;rw[hs,hless]at this;cases this
      |true=>
       by_cases hrg:1<=x.born/\x.born<=d
       .rw[decide_eq_true hrg]at R;refine Aj (by kernel_rfl) (by kernel_rfl) ?_
        repeat (go_big_quiet_step (first|exact Ag.calls (S.o _)|exact Ag.calls (I.o.1 _)|exact Ag.calls (I.o.2 _)|exact Ag.calls (R.o _)))
        refine wpQuiet_nil ?_;intro n;have B:Ka w n.w f ((j+1)) (.slice (some ⟨g,0,none⟩) (later f ((j+1))).length c):=hL.af (T.trans (n.h.mono (by omega)));have zN:=zH.af n.h (by omega);obtain⟨y0,y1,y2,y3,y4,y5,y6,y7⟩:=zN;have n1:=Ag.cell yE (by omega) n;have nz:=n.size;by_cases hlow:x.born<=600
        .have zP:=B.fl.cellAt x.born.toNat (by omega);rw[DX _ _ _ (by omega),Int.toNat_of_nonneg (by omega)]at zP;have xR:=B.fl.frozenAt x.born.toNat;cases hse:seen f ((j+1)) x.born with
         |true=>rw[hse]at zP;have HH:Hid _:=B;clear B hL S I R;go_wp2;go_ret;refine⟨_,rfl,?_,HH.o.bt⟩;simp only[Bool.false_eq_true,false_iff];obtain⟨t,p',zR,zU,zO⟩:=Dj.1 hse;exact fun h=>(h.2.1 _ _ C.o).new t p' zR zU zO
         |false=>
          rw[hse]at zP;have zW:=B.fl.stored x.born.toNat (.bool true);rw[MC C.o (by omega) hlow]at zW;have N:later f ((j+1)+1)=later f ((j+1)):=by rw[Gf C.o,if_neg (by omega)];simp
          have yA:=B.bt.setCell (p:=⟨w.heap.size+1,x.born.toNat,none⟩) (by simp) (.bool true);have Y:=ownsRow_setCell_below B.J (a:=⟨w.heap.size+1,x.born.toNat,none⟩) (by simp) (.bool true);rw[<-N]at Y;have HN:Hid (Ka w (n.w.setCell ⟨w.heap.size+1,x.born.toNat,none⟩ (.bool true)) f ((j+1)+1) (.slice (some ⟨g,0,none⟩) (later f ((j+1))).length c)):=⟨yA,zW.1,by rw[<-N];exact Y⟩
          have HB:Hid (Ah (n.w.setCell ⟨w.heap.size+1,x.born.toNat,none⟩ (.bool true)) w.heap.size o now l d (.slice (some ⟨b,off,none⟩) f.length ac) P L):=by refine⟨?_,?_,?_,?_,?_,?_,?_,by simpa using y7⟩<;>(rw[World.cell?_setCell_other _ _ _ _ (by simp)];assumption)
          have HA:Hid (∀(t:Nat) y,t<(j+1)+1->f[t]?=some y->DO o f t y/\DH d f t y):=by
           intro t y hj W;rcases Nat.lt_or_ge t ((j+1))with J|J
           .exact K.o t y J W
           .obtain rfl:t=(j+1):=by omega
            rw[C.o]at W;cases W;refine⟨⟨hok,by rw[hsx];exact hs,fun j2 p2 h X=>by cases h;rw[HP.o]at X;cases X;unfold less;rw[hs];exact hless⟩,⟨by omega,by omega,fun j2 p2 zS X he=> ?_⟩⟩;have:=Dj.2 ⟨j2,p2,zS,X,he⟩;rw[hse]at this;cases this
          have zZ:Hid (later f ((j+1)+1)=later f ((j+1))):=N;clear B hL S I R zW N Y yA;go_wp2;refine⟨⟨(j+1)+1,g,c,by omega,by go_num,by rw[zZ.o],?_,HB,HA⟩,by simp[intOf];omega⟩;rw[zZ.o];exact HN
        .have N:=B.J;have yC:=B.fl;have F:=B.bt;have hlen:=Jp f ((j+1));have zX:Hid (flags f ((j+1)+1)=flags f ((j+1))):=MD C.o (by omega);have Z:Hid (later f ((j+1)+1)=later f ((j+1))++[x.born]):=by show _=_;rw[Gf C.o,if_pos (by omega)]
         have U:Hid (x.born∈later f ((j+1))↔seen f ((j+1)) x.born=true):=ME (by omega);have yM:Hid (Ah n.w w.heap.size o now l d (.slice (some ⟨b,off,none⟩) f.length ac) P L):=⟨y0,y1,y2,y3,y4,y5,y6,y7⟩;have HT:Hid (DO o f ((j+1)) x):=⟨hok,by rw[hsx];exact hs,fun j2 p2 h X=>by cases h;rw[HP.o]at X;cases X;unfold less;rw[hs];exact hless⟩;have yN:Hid (later f ((j+1))=later f ((j+1))):=rfl
         generalize hlv:later f ((j+1))=lv at *
         have HH:Hid _:=Zn N (Zn yC F);clear hL S I R B zI yN N yC;go_wp2
         go_loopw [7] (fun jv wq=>∃q m:Nat,q<=lv.length/\jv=.int .i64 q/\wq=n.w.drewN m/\Hid (∀r z,r<q->lv[r]?=some z->z≠x.born)) (fun jv _=>lv.length -(intOf jv).toNat)
         case atStart=>exact⟨0,0,Nat.zero_le _,rfl,rfl,fun r z h=>by omega⟩
         case round=>
          obtain⟨q,m,hq,rfl,rfl,zT⟩:=hrel;by_cases hqlt:q<lv.length
          .have yB:=HH.o.1.cellAt q (by simpa using hqlt);rw[List.getElem?_map,Zv hqlt]at yB;simp only[Option.map_some]at yB;have HQ:Hid (lv[q]?=some lv[q]):=Zv hqlt;have Q:Hid (lv[q]∈lv):=List.getElem_mem hqlt;have xE:(0:Int)<=(q:Int):=by omega
           have xF:(q:Int)<(lv.length:Int):=by omega
           generalize lv[q]=z at *
           by_cases hz:z=x.born
           .subst hz;go_wp2;go_quiet (fail);go_wp2;go_ret;refine⟨_,rfl,?_,AM (AM F _) _⟩;simp only[Bool.false_eq_true,false_iff];obtain⟨t,p',zR,zU,zO⟩:=Dj.1 (U.o.1 Q.o);exact fun h=>(h.2.1 _ _ C.o).new t p' zR zU zO
           .have vA:(z==x.born)=false:=by simpa using hz
            have HN:Hid (∀r z,r<q+1->lv[r]?=some z->z≠x.born):=by
             intro r z' zB zA;rcases Nat.lt_or_ge r q with J|J
             .exact zT.o r z' J zA
             .obtain rfl:r=q:=by omega
              rw[HQ.o]at zA;cases zA;exact hz
            clear hz;go_wp2;go_quiet (fail);go_wp2;exact⟨⟨q+1,m+nq,by omega,by go_num,rfl,HN⟩,by simp[intOf];omega⟩
          .obtain rfl:q=lv.length:=by omega
           have zY:Hid (seen f ((j+1)) x.born=false):=by
            show _=_;cases hse:seen f ((j+1)) x.born with
            |false=>rfl
            |true=>obtain⟨r,zB⟩:=List.getElem?_of_mem (U.o.2 hse);exact absurd rfl (zT.o r _ (Zw zB).1 zB)
           have M:(n.w.drewN m).ownsRow (w.heap.size+2) 3 1 (.slice (some ⟨g,0,none⟩) lv.length c) lv.length (lv.map (Value.int .i64)):=HH.o.1;have zE:(n.w.drewN m).ownsRow (w.heap.size+1) 4 1 (.slice (some ⟨w.heap.size+1,0,none⟩) 601 601) 601 (flags f ((j+1))):=HH.o.2.1;have xU:=(M.lt g rfl).1;have HD:Hid _:=Zn M zE;have yR:Below w.heap.size w (n.w.drewN m):=AM F _
           have zV:w.heap.size+2<=(n.w.drewN m).heap.size:=by have:=(M.lt g rfl).2;omega
           clear M zE;go_wp2_with (first
            |(at_builtin;refine wpList_append_own _ rfl _ _ 40 rfl (w.heap.size+2) 3 i1 (.int .i64 0) 1 8 underlying40 xC xJ xK xL rfl (by decide) _ lv.length (lv.map (Value.int .i64)) rfl ?d0 ⟨n.w.heap.size,0,none⟩ 1 1 [.int .i64 x.born] rfl rfl ?d1 ?d2 ?d3 ?d4 ?d5 ?_)
            |go_in)
           case d0=>exact HD.o.1.alloc _
           case d1=>exact cell_one_new _ _ _
           case d2=>intro u hu;simp at hu;subst hu;rfl
           case d3=>unfold maxLen;omega
           case d4=>omega
           case d5=>simp at zV |-;omega
           intro v' w2 G A _;obtain⟨g',c',yU,xS,xT⟩:=G.form (by omega);subst yU;have zM:Below (w.heap.size+2) (n.w.drewN m) w2:=((Below.refl _ _).alloc zV _).grown A (by simp at zV |-;omega) (by intro k hk;simp[Value.ownBlock]at hk;omega);have Di:Hid _:=yM.o.af ((AM (Below.refl _ _) m:Below (w.heap.size+2) n.w (n.w.drewN m)).trans zM) (by omega)
           have zC:=(HD.o.2.alloc (.cells #[.int .i64 x.born] 3)).kept A (.inr (by simp[Value.ownBlock];omega));have HN:Hid (Ka w w2 f ((j+1)+1) (.slice (some ⟨g',0,none⟩) (lv.length+1) c')):=⟨yR.trans (zM.mono (by omega)),by rw[zX.o];exact zC,by rw[Z.o];simpa using G⟩;have HA:Hid (∀(t:Nat) y,t<(j+1)+1->f[t]?=some y->DO o f t y/\DH d f t y):=by
            intro t y hj W;rcases Nat.lt_or_ge t ((j+1))with J|J
            .exact K.o t y J W
            .obtain rfl:t=(j+1):=by omega
             rw[C.o]at W;cases W;refine⟨HT.o,⟨by omega,by omega,fun j2 p2 zS X he=> ?_⟩⟩;have:=Dj.2 ⟨j2,p2,zS,X,he⟩;rw[zY.o]at this;cases this
           clear G A zC zM;go_wp2;refine⟨⟨(j+1)+1,g',c',by omega,by go_num,by rw[Z.o];simp,?_,Di,HA⟩,by simp[intOf];omega⟩;rw[Z.o,List.length_append];exact HN
       .rw[decide_eq_false hrg]at R;refine Aj (by kernel_rfl) (by kernel_rfl) ?_
        repeat (go_big_quiet_step (first|exact Ag.calls (S.o _)|exact Ag.calls (I.o.1 _)|exact Ag.calls (I.o.2 _)|exact Ag.calls (R.o _)))
        refine wpQuiet_nil ?_;intro n;go_wp2;go_ret;refine⟨_,rfl,?_,H.trans (n.h.mono H.size)⟩;simp only[Bool.false_eq_true,false_iff];exact fun h=>hrg ⟨(h.2.1 _ _ C.o).lo,(h.2.1 _ _ C.o).hi⟩
     .have zI:(x.sum.toList !=sx.toList)=true:=by simp[By hs,bne]
      have yW:=By hs;refine Aj (by kernel_rfl) (by kernel_rfl) ?_
      repeat (go_big_quiet_step (first|exact Ag.calls (S.o _)|exact Ag.calls (I.o.1 _)|exact Ag.calls (I.o.2 _)|exact Ag.calls (R.o _)))
      refine wpQuiet_nil ?_;intro n;go_wp2;go_ret;refine⟨_,rfl,?_,H.trans (n.h.mono H.size)⟩;simp only[Bool.false_eq_true,false_iff];exact fun h=>hs (by rw[<-hsx];exact(h.1 _ _ C.o).sum)
  .have yF:Hid (∀(j:Nat) x,f[j]?=some x->DO o f j x/\DH d f j x):=fun j x hx=>K.o j x (by have:=(Zw hx).1;omega) hx;have yK:=HL.o.bt;have xN:=HX;clear zF HL K HX;go_wp2
   go_loopw [8] (fun iv wq=>∃i:Nat,i<=f.length/\iv=.int .i64 i/\Zz w wq/\Hid (Ah wq w.heap.size o now l d (.slice a f.length ac) P L)/\Hid (∀(j:Nat) x,j<i->f[j]?=some x->Hv f x)) (fun iv _=>f.length -(intOf iv).toNat)
   case atStart=>exact⟨0,Nat.zero_le _,rfl,yK,xN,fun j x h=>by omega⟩
   case round=>
    obtain⟨i,vO,rfl,zJ,yZ,yG⟩:=hrel;obtain⟨x0,x1,x2,x3,x4,x5,x6,x7⟩:=yZ.o;by_cases hilt:i<f.length
    .have yL:=zG.below zJ;obtain⟨b,off,ha,hb,hc⟩:=yL.at hilt;subst ha;have C:Hid (f[i]?=some f[i]):=Zv hilt;have HC:Hid _:=hc;generalize f[i]=x at *
     clear hc;have vQ:=yI x (Zs C.o);go_wp2
     go_loopw [9] (fun jv wz=>∃q:Nat,q<=x.B.length/\jv=.int .i64 q/\Zz w wz/\Hid (Ah wz w.heap.size o now l d (.slice (some ⟨b,off,none⟩) f.length ac) P L)/\Hid (∀(r:Nat) s,r<q->x.B[r]?=some s->∃u∈f,u.sum=s/\u.born<x.born)) (fun jv _=>x.B.length -(intOf jv).toNat)
     case atStart=>exact⟨0,Nat.zero_le _,rfl,zJ,yZ,fun r s h=>by omega⟩
     case round=>
      obtain⟨q,hq,rfl,zK,yO,xH⟩:=hrel;have V:=zG.below zK;obtain⟨b',yY,yQ,_,yS⟩:=V.at hilt;cases yQ;obtain⟨_,e1,_,D,E,e3,yT⟩:=yS i _ C.o;obtain⟨y0,y1,y2,y3,y4,y5,y6,y7⟩:=yO.o;clear x0 x1 x2 x3 x4 x5 x6 x7;have vM:(0:Int)<=(i:Int):=by omega
      have vN:(i:Int)<(f.length:Int):=by omega
      have xQ:b<wr.heap.size:=by omega
      by_cases hql:q<x.B.length
      .obtain⟨rb,vK,xY,vP,xG⟩:=yT.at hql;subst xY;have HS:Hid (x.B[q]?=some x.B[q]):=Zv hql;have es:=xG q _ HS.o;have xE:(0:Int)<=(q:Int):=by omega
       have xF:(q:Int)<(x.B.length:Int):=by omega
       have yV:rb<wr.heap.size:=by omega
       generalize x.B[q]=s at *
       have xB:∀n:Ag wr,Calls prog 26 #[.agg #[.int .i64 o,.int .i64 now,.int .i64 l,.int .i64 d,.slice (some ⟨b,off,none⟩) f.length ac,P,L],.string s] n.w fun e O=>e=.returned (.int .i64 (BX f s))/\Below n.w.heap.size n.w O:=fun n=>Cn o now l d _ ac P L f s n.w w.heap.size (V.below (n.h.mono (by omega))) (by have:=n.h.size;omega) (by omega);have xM:Hid _:=xB;have q0:=Ag.cell y0 y7
       have q1:=Ag.cell y1 y7;have q2:=Ag.cell y2 y7;have q3:=Ag.cell y3 y7;have q4:=Ag.cell y4 y7;have q5:=Ag.cell y5 y7;have q6:=Ag.cell y6 y7;have q7:=Ag.cell e3 xQ;have q8:=Ag.cell es yV;have xD:=Ag.ne wr;have HK:Hid _:=V;clear xB yS xG yT V;go_wp2;refine Aj (by kernel_rfl) (by kernel_rfl) ?_
       repeat (go_big_quiet_step (exact Ag.calls (xM.o _)))
       refine wpQuiet_nil ?_;intro n;have zN:Below w.heap.size w n.w:=zK.trans (n.h.mono (by omega));have yP:AI n.w w.heap.size (some ⟨b,off,none⟩) f:=AI.below HK.o (n.h.mono (by omega));have xA:Hid (Ah n.w w.heap.size o now l d (.slice (some ⟨b,off,none⟩) f.length ac) P L):=Ah.af yO.o n.h y7;obtain⟨z0,z1,z2,z3,z4,z5,z6,z7⟩:=xA.o;obtain⟨b',yY,yQ,_,yH⟩:=yP.at hilt;cases yQ
       obtain⟨_,f1,_,_⟩:=yH i _ C.o;rcases BV f s with⟨hf,zT⟩|⟨i2,u,hf,hu,yJ⟩
       .rw[hf];clear yH yP;go_wp2;go_quiet (fail);go_wp2;go_ret;refine⟨_,rfl,?_,AM zN _⟩;simp only[Bool.false_eq_true,false_iff];intro h;obtain⟨u,hu,yJ,_⟩:=h.2.2 _ _ C.o s (Zs HS.o);exact zT ⟨u,hu,yJ⟩
       .rw[hf];obtain⟨_,g1,_,_⟩:=yH i2 _ hu;have vH:=(Zw hu).1;have xW:(0:Int)<=(i2:Int):=by omega
        have xX:(i2:Int)<(f.length:Int):=by omega
        have vI:decide ((i2:Int)<0)=false:=by simp
        have HU:Hid _:=Zn hu yJ;clear yH yP hu yJ;by_cases hlt2:u.born<x.born
        .have hd:decide (x.born<=u.born)=false:=by simp;omega
         have HN:Hid (∀(r:Nat) s,r<q+1->x.B[r]?=some s->∃u∈f,u.sum=s/\u.born<x.born):=by
          intro r s' zB zI;rcases Nat.lt_or_ge r q with J|J
          .exact xH.o r s' J zI
          .obtain rfl:r=q:=by omega
           rw[HS.o]at zI;cases zI;exact⟨u,Zs HU.o.1,HU.o.2,hlt2⟩
         go_wp2;go_quiet (fail);go_wp2;exact⟨⟨q+1,by omega,by go_num,AM zN _,Ah.af xA.o (AM (Below.refl _ _) nq) z7,HN⟩,by simp[intOf];omega⟩
        .have hd:decide (x.born<=u.born)=true:=by simp;omega
         go_wp2;go_quiet (fail);go_wp2;go_ret;refine⟨_,rfl,?_,AM zN _⟩;simp only[Bool.false_eq_true,false_iff];intro h;obtain⟨u',xZ,yX,vL⟩:=h.2.2 _ _ C.o s (Zs HS.o);obtain⟨i3,xV⟩:=List.getElem?_of_mem xZ;have:=NK h.1 HU.o.1 xV (by rw[HU.o.2,yX]);subst this;omega
      .have HN:Hid (∀(j:Nat) y,j<i+1->f[j]?=some y->Hv f y):=by
        intro j y hj W;rcases Nat.lt_or_ge j i with J|J
        .exact yG.o j y J W
        .obtain rfl:j=i:=by omega
         rw[C.o]at W;cases W;intro r zB;obtain⟨p,hp⟩:=List.getElem?_of_mem zB;exact xH.o p r (by have:=(Zw hp).1;omega) hp
       clear yS yT V;go_wp2;exact⟨⟨i+1,by omega,by go_num,zK,yO,HN⟩,by simp[intOf];omega⟩
    .go_wp2;go_ret;refine⟨_,rfl,?_,zJ⟩;simp only[true_iff];exact⟨fun i k h=>(yF.o i k h).1,fun i k h=>(yF.o i k h).2,fun i k h=>yG.o i k (by have:=(Zw h).1;omega) h⟩
end
section
attribute [local go_sem↓] Go.wp_at_zero Go.wp_at_succ
theorem KG:Maps.Keyed prog 3:=Maps.int_keyed underlying3
def VD(ks:List Kd)(k:Nat)(f:Lit->Option Value):Prop:=∀z:Int,f (.int .i64 z)=if seen ks k z=true then some (.int .i64 1)else none
theorem KH(H now A d:Int)(P L:Value)(a:Zk)(ac m:Nat)(g:List Kd)(w:Zh)(R:AI w w.heap.size a g)(hl:g.length<=1048576)(zO:∀k∈g,k.B.length<=1048576)(zK:∀k∈g,(Lit.int .i64 k.born).wf=true)
 (yI:∀(i:Nat) k,g[i]?=some k->DO H g i k) (F:∀s,Vm w H m g s):
 Calls prog 31 #[.agg #[.int .i64 H,.int .i64 now,.int .i64 A,.int .i64 d,.slice a g.length ac,P,L],.agg #[.int .i64 H,.map (some m)]] w fun e w'=>Aq ((∀(i:Nat) k,g[i]?=some k->DH d g i k)/\(∀(i:Nat) k,g[i]?=some k->Hv g k)) w w' e:=by
 have yY:= @run_makeMap prog;go_enter func31,ntmps31;go_wp2;obtain⟨E,B⟩:∃W,W=(((w.alloc (Obj.cells #[Value.int IntKind.i64 H,Value.int IntKind.i64 now,Value.int IntKind.i64 A,Value.int IntKind.i64 d,Value.slice a g.length ac,P,L] 27)).alloc (Obj.cells #[Value.int IntKind.i64 H,Value.map (some m)] 64)).alloc (Obj.map #[] 0)):=⟨_,rfl⟩;have Y:Below w.heap.size w E:=by rw[B];exact(((Zy).alloc (by simp) _).alloc (by simp;omega) _)
 have xO:E.heap.size=w.heap.size+3:=by rw[B];simp
 have zH:AP E 3 (w.heap.size+1+1) 0 (fun _=>none):=by have:=AP.new ((w.alloc (Obj.cells #[Value.int IntKind.i64 H,Value.int IntKind.i64 now,Value.int IntKind.i64 A,Value.int IntKind.i64 d,Value.slice a g.length ac,P,L] 27)).alloc (Obj.cells #[Value.int IntKind.i64 H,Value.map (some m)] 64)) 3;rw[B];simpa using this
 have s3:E.cell? ⟨w.heap.size,3,none⟩=some (.int .i64 d):=by rw[B];simp[go_sem]
 have g0:E.cell? ⟨w.heap.size+1,0,none⟩=some (.int .i64 H):=by rw[B];simp[go_sem]
 have g1:E.cell? ⟨w.heap.size+1,1,none⟩=some (.map (some m)):=by rw[B];simp[go_sem]
 rw[<-B];clear B yY
 go_loopw [16] (fun i wr=>∃(k:Nat) (f:Lit->Option Value),k<=g.length/\i=.int .i64 k/\Hid (AP wr 3 (w.heap.size+1+1) k f)/\Hid (VD g k f)/\Hid (E.grownBy wr (some (w.heap.size+1+1)))/\Hid (∀(j:Nat) x,j<k->g[j]?=some x->DH d g j x/\Hv g x)) (fun i _=>g.length -(intOf i).toNat)
 case atStart=>exact⟨0,_,Nat.zero_le _,rfl,zH,fun z=>by simp[seen],AK _ _,fun j x h=>by omega⟩
 case round=>
  obtain⟨k,f,hk,rfl,HM,HO,zW,K⟩:=hrel;have J:E.grownBy wr (some (w.heap.size+1+1)):=zW.o;have n:Below w.heap.size w wr:=Y.grown J (by omega) (by intro j hj;cases hj;omega);have xP:=J.size;by_cases hlt:k<g.length
  .obtain⟨b,off,ha,hb,hc⟩:=(R.below n).at hlt;subst ha;have S:Hid (g[k]?=some g[k]):=Zv hlt;obtain⟨c0,c1,c2,ra,rc,c3,hr⟩:=hc k _ S.o;have Q:=List.getElem_mem hlt;have xN:=zO _ Q;have yK:=zK _ Q;have xL:b<wr.heap.size:=by omega
   have t3:=J.cell s3 (by simp;omega);have D:keyOf prog 3 (.int .i64 g[k].born)=some (.int .i64 g[k].born):=Maps.keyOf_int_mk underlying3 yK;have HR:Hid _:=hr;generalize g[k]=x at *
   clear hc hr Q;have zJ:Below wr.heap.size wr (wr.alloc (Obj.cells #[Value.string x.sum,Value.int IntKind.i64 x.born,Value.string x.E,Value.slice ra x.B.length rc] 37)):=Zy;have zI:=HM.o.af zJ (by omega);have zM:=zI.look KG underlying93 (EO _) D;rw[HO.o]at zM
   have zS:∃c:Int,(if seen g k x.born=true then some (Value.int .i64 1)else none).getD (.int .i64 0)=.int .i64 c/\(c=if seen g k x.born=true then 1 else 0):=by cases seen g k x.born<;>exact⟨_,rfl,rfl⟩
   obtain⟨c,yA,C⟩:=zS;rw[yA]at zM;have xF:0<=c:=by rw[C];split<;>omega
   have xG:c<=1:=by rw[C];split<;>omega
   obtain⟨o,xD,zN,I⟩:=zI.put KG underlying93 (val:=.int .i64 (c+1)) (by unfold maxLen;omega) D;have O:=zN.look KG underlying93 (EO _) D;rw[CG]at O;simp only[Option.getD_some]at O;have zB:E.grownBy o (some (w.heap.size+1+1)):=Am J (Am (Ae _ zJ) I);have zY:Below w.heap.size w o:=Y.grown zB (by omega) (by intro j hj;cases hj;omega)
   have u1:o.cell? ⟨wr.heap.size,1,none⟩=some (.int .i64 x.born):=I.cell (by simp) (by simp;omega);have u3:o.cell? ⟨wr.heap.size,3,none⟩=some (.slice ra x.B.length rc):=I.cell (by simp) (by simp;omega);have v3:=zB.cell s3 (by simp;omega);have yL:wr.heap.size<o.heap.size:=by have:=I.size;simp at this;omega
   have U:Below w.heap.size wr o:=((Below.refl _ _).alloc n.size _).grown I (by simp;have:=n.size;omega) (by intro j hj;cases hj;omega);have yO:Hid (Ab o w.heap.size ra x.B):=Ab.below HR.o U;have G:Hid _:=Zn zN (Zn zB zY);have HP:Hid _:=Zn J n;have HF:Hid _:=F;have zR:Hid _:=Zn R (Zn zO (Zn zK yI));clear zI zN I zB zY J n U HR R zO zK yI F HM zW D zJ yA yK zH Y s3 t3;by_cases hlo:1<=x.born
   .have zU:decide (x.born<1)=false:=by simp;omega
    by_cases hhi:x.born<=d
    .have zT:decide (d<x.born)=false:=by simp;omega
     cases hse:seen g k x.born with
     |true=>
      have zA:c=1:=by rw[C,hse];rfl
      have hd:decide (1<c+1)=true:=by simp;omega
      have zX:Hid _:=hse;clear C hse zA;go_wp2;go_ret;refine Aq.no (fun h=> ?_) G.o.2.2;obtain⟨j',p',yW,yZ,yT⟩:=Dj.1 zX.o;exact(h.1 _ _ S.o).new j' p' yW yZ yT
     |false=>
      have zA:c=0:=by rw[C,hse];rfl
      have hd:decide (1<c+1)=false:=by simp;omega
      have zX:Hid _:=hse;have HB:Hid (DH d g k x):=⟨hlo,hhi,fun j2 p2 yX xA he=>by
       have:=Dj.2 ⟨j2,p2,yX,xA,he⟩;rw[hse]at this;cases this⟩
      have yN:Hid (VD g (k+1) (upd f (.int .i64 x.born) (.int .i64 (c+1)))):=by
       intro z;rw[GR S.o];by_cases hz:z=x.born
       .subst hz;rw[CG,zA];simp
       .rw[CO _ _ (fun e=>hz (by cases e;rfl)),HO.o];have:decide (x.born=z)=false:=by simp;exact fun e=>hz e.symm
        rw[this];simp
      clear C hse zA HO;go_wp2;clear HP zM xD O;generalize hN:wr.heap.size=N at *
      go_loopw [46] (fun jv wz=>∃q:Nat,q<=x.B.length/\jv=.int .i64 q/\Hid (Zz o wz)/\Hid (∀(r:Nat) s,r<q->x.B[r]?=some s->∃u∈g,u.sum=s/\u.born<x.born)) (fun jv _=>x.B.length -(intOf jv).toNat)
      case atStart=>exact⟨0,Nat.zero_le _,rfl,Below.refl _ _,fun r s h=>by omega⟩
      case round=>
       obtain⟨q,hq,rfl,yM,yG⟩:=hrel;have l:Below o.heap.size o wr:=yM.o;have Z:Below w.heap.size w wr:=G.o.2.2.trans (l.mono G.o.2.2.size);have y1:=(l.cell (p:=⟨N,1,none⟩) yL).trans u1;have p0:=(l.cell (p:=⟨w.heap.size+1,0,none⟩) (by simp;omega)).trans (G.o.2.1.cell g0 (by simp));have p1:=(l.cell (p:=⟨w.heap.size+1,1,none⟩) (by simp;omega)).trans (G.o.2.1.cell g1 (by simp))
       have zZ:N<wr.heap.size:=Zr yL l.size;have xJ:w.heap.size+1<wr.heap.size:=by have:=l.size;omega
       by_cases hql:q<x.B.length
       .have yE:Ab wr w.heap.size ra x.B:=Ab.below yO.o (l.mono (by omega));obtain⟨rb,xI,xB,xM,yF⟩:=yE.at hql;subst xB;have HS:Hid (x.B[q]?=some x.B[q]):=Zv hql;have es:=yF q _ HS.o;have xH:rb<wr.heap.size:=by omega
        generalize x.B[q]=s at *
        obtain⟨u,bo,t,sa,sb,sc,ok,yC,yB⟩:=HF.o s;have HC:Hid _:=yB wr Z;have zF:Hid _:=yC;have V:Hid _:=Zn l Z;clear yB yC yF yE l Z;go_wp2_with fail;refine Calls.mono HC.o ?_;rintro e w4 ⟨rfl,T⟩;have y4:=(T.cell (p:=⟨N,1,none⟩) zZ).trans y1;have xK:N<w4.heap.size:=Zr zZ T.size;have zG:Below w.heap.size w w4:=V.o.2.trans (T.mono V.o.2.size)
        have M:Below o.heap.size o w4:=V.o.1.trans (T.mono V.o.1.size);have zE:Hid _:=Zn zG M;have xC:o.heap.size<=w4.heap.size:=M.size;have yH:w.heap.size<=w4.heap.size:=zG.size;clear T zG M y1 p0 p1 es HC;cases ok with
        |false=>go_wp2;go_ret;refine Aq.no (fun h=> ?_) (zE.o.1.alloc yH _);obtain⟨v,hv,zC,_⟩:=h.2 _ _ S.o s (Zs HS.o);exact zF.o.no rfl ⟨v,hv,zC⟩
        |true=>
         obtain⟨v,hv,zC,yJ⟩:=zF.o.yes rfl;have X:Hid _:=Zn hv (Zn zC yJ);clear hv zC yJ zF;by_cases hlt2:bo<x.born
         .have yS:decide (x.born<=bo)=false:=by simp;omega
          have HN:Hid (∀(r:Nat) s,r<q+1->x.B[r]?=some s->∃u∈g,u.sum=s/\u.born<x.born):=by
           intro r s' yD zP;rcases Nat.lt_or_ge r q with h'|h'
           .exact yG.o r s' h' zP
           .obtain rfl:r=q:=by omega
            rw[HS.o]at zP;cases zP;exact⟨v,X.o.1,X.o.2.1,by rw[X.o.2.2];exact hlt2⟩
          go_wp2;exact⟨⟨q+1,by omega,by go_num,zE.o.2.alloc xC _,HN⟩,by simp[intOf];omega⟩
         .have yS:decide (x.born<=bo)=true:=by simp;omega
          go_wp2;go_ret;refine Aq.no (fun h=> ?_) (zE.o.1.alloc yH _);obtain⟨v',xE,zV,yR⟩:=h.2 _ _ S.o s (Zs HS.o);obtain⟨i2,yU⟩:=List.getElem?_of_mem X.o.1;obtain⟨i3,yV⟩:=List.getElem?_of_mem xE;have:=NK zR.o.2.2.2 yU yV (by rw[X.o.2.1,zV]);subst this;rw[X.o.2.2]at yR;omega
       .have HN:Hid (∀(j:Nat) y,j<k+1->g[j]?=some y->DH d g j y/\Hv g y):=by
         intro j y hj hy;rcases Nat.lt_or_ge j k with h'|h'
         .exact K.o j y h' hy
         .obtain rfl:j=k:=by omega
          rw[S.o]at hy;cases hy;refine⟨HB.o,fun r yD=> ?_⟩;obtain⟨p,hp⟩:=List.getElem?_of_mem yD;exact yG.o p r (by have:=(Zw hp).1;omega) hp
        have yQ:Hid (AP wr 3 (w.heap.size+1+1) (k+1) (upd f (.int .i64 x.born) (.int .i64 (c+1)))):=G.o.1.af l (by omega);have yP:Hid (E.grownBy wr (some (w.heap.size+1+1))):=Am G.o.2.1 (Ae _ l);clear l Z y1 p0 p1;go_wp2;exact⟨⟨k+1,_,by omega,by go_num,yQ,yN,yP,HN⟩,by simp[intOf];omega⟩
    .have zT:decide (d<x.born)=true:=by simp;omega
     clear C;go_wp2;go_ret;refine Aq.no (fun h=> ?_) G.o.2.2;have:=(h.1 _ _ S.o).hi;omega
   .have zU:decide (x.born<1)=true:=by simp;omega
    clear C;go_wp2;go_ret;refine Aq.no (fun h=> ?_) G.o.2.2;have:=(h.1 _ _ S.o).lo;omega
  .clear HM HO zH Y;go_wp2;go_ret;exact Aq.yes ⟨fun i x hx=>(K.o i x (by have:=(Zw hx).1;omega) hx).1,fun i x hx=>(K.o i x (by have:=(Zw hx).1;omega) hx).2⟩ n
end
end Go.Proofs.YtmjlkgpekcnacaaGreat
