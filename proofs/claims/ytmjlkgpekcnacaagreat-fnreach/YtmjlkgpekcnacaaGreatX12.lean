import Derived.Test.YtmjlkgpekcnacaaGreatX11
set_option maxRecDepth 100000
set_option maxHeartbeats 16000000
namespace Go.Proofs.YtmjlkgpekcnacaaGreat
open Go.ChangeShapes Go.WideShapes Go.ChangeAt Go.RowKit _root_.Go.Proofs.Tryz
variable{a x y:Zk}{k d c b n e free B:Nat}{w V:Zh}{g o q now:Int}{i j:Zl}{r:Rs}{f:Region.Mode}{s:Zi}{u v:Value}{A:Addr}{ks:List Kd}{P:Program}
def AG(out:Zl)(s:Zi):Zl:=if out.any (fun x=>decide (x=s))=true then out else out++[s]
theorem OJ(a:Zl)(s:Zi):(AG a s).length<=a.length+1:=by unfold AG;split<;>simp
theorem GS{a:Zl}{x:Zi}(o:Zl)(b:a[k]?=some x):(a.take (k+1)).foldl AG o=AG ((a.take k).foldl AG o) x:=by obtain⟨h,rfl⟩:=Zw b;rw[Zu h,List.foldl_append];rfl
theorem Dk(xs o:Zl):(xs.foldl AG o).length<=o.length+xs.length:=by
 induction xs generalizing o with
 |nil=>simp
 |cons x xs ih=>have a:=ih (AG o x);have b:=OJ o x;simp only[List.foldl_cons,List.length_cons];omega
theorem Ix{b:Zl}(h:w.ownsRow d 9 1 (.slice a b.length c) b.length (b.map Value.string)):Ab w w.heap.size a b:=by
 rcases h.2 with⟨e,f⟩|⟨g,cap,i,e,_⟩
 .exact .inl (List.eq_nil_of_length_eq_zero f)
 .cases e;exact Ab.own h
def Cq(ps:List Pd)(ls:List Ld):Zl:=(ls.map (·.sum)).foldl AG ((ps.map (·.sum)).foldl AG [])
theorem Lg(E now h d:Int)(T:Value)(p l:Zk)(D C:Nat)(a:List Pd)(f:List Ld)(w:Zh)(hp:AO w w.heap.size p a)(hq:AR w w.heap.size l f)(zH:a.length<=100)(zG:f.length<=200):
 Calls prog 36 #[.agg #[Zg E,Zg now,Zg h,Zg d,T,.slice p a.length D,.slice l f.length C]] w fun e w'=>∃g c,e=.returned (Yz g (Cq a f).length c)/\w'.ownsRow (w.heap.size+1) 9 1 (Yz g (Cq a f).length c) (Cq a f).length ((Cq a f).map Value.string)/\Zz w w':=by
 obtain⟨i0,Z,Q,R,S⟩:=info_parts BW;have zB:=Yw hp;have zA:=Yw hq;have Y:=Ah.new w E now h d T (.slice p a.length D) (.slice l f.length C) 27;have P:Below w.heap.size w (w.alloc (.cells #[Zg E,Zg now,Zg h,Zg d,T,.slice p a.length D,.slice l f.length C] 27)):=Zy;clear hp hq;unfold Cq;go_enter func36,ntmps36;go_wp2
 go_loopw [3,4] (fun v i wr=>∃(k g c:Nat),k<=a.length/\i=Zg k/\v=Yz g (((a.map (·.sum)).take (k)).foldl AG []).length c/\Hid (wr.ownsRow (w.heap.size+1) 9 1 (Yz g (((a.map (·.sum)).take (k)).foldl AG []).length c) (((a.map (·.sum)).take (k)).foldl AG []).length ((((a.map (·.sum)).take (k)).foldl AG []).map Value.string))/\Zz w wr/\Hid (Ah wr w.heap.size E now h d T (.slice p a.length D) (.slice l f.length C))) (fun _ i _=>a.length -(intOf i).toNat)
 case atStart=>
  refine⟨0,w.heap.size+1,0,Nat.zero_le _,rfl,Yu,?_,P.alloc P.size _,Y.af (Zy) Y.2.2.2.2.2.2.2⟩;have:=World.ownsRow_lit (e:=9) (w.alloc (.cells #[Zg E,Zg now,Zg h,Zg d,T,.slice p a.length D,.slice l f.length C] 27)) #[] (size:=1) 0 (base:=w.heap.size+1) Yu (by simp[maxLen]) rfl
  rw[show(w.alloc (.cells #[Zg E,Zg now,Zg h,Zg d,T,.slice p a.length D,.slice l f.length C] 27)).heap.size=w.heap.size+1 from by simp]at this;exact this
 case round=>
  clear Y;obtain⟨k,g,c,hk,rfl,rfl,q,n,z⟩:=hrel;obtain⟨x0,x1,x2,x3,x4,x5,x6,x7⟩:=z.o;by_cases hlt:k<a.length
  .obtain⟨b,off,W,hb,I⟩:=(AO.below zB.o n).at hlt;subst W;have H:Hid (a[k]?=some a[k]):=Zv hlt;obtain⟨_,c1⟩:=I k _ H.o;have zC:b<wr.heap.size:=Yv
   have HN:Hid ((a.map (·.sum))[k]?=some a[k].sum):=by show _=_;rw[List.getElem?_map,H.o];rfl
   clear I;generalize a[k]=x at *
   have hlen:(((a.map (·.sum)).take (k)).foldl AG []).length<=0+k:=by
    have:=Dk ((a.map (·.sum)).take k) ([])
    skip
    simp at this;omega
   have G:=Yw (GS ([]) HN.o);generalize hO:((a.map (·.sum)).take (k)).foldl AG []=O at *
   have zE:=(q.o.lt g rfl).1;have zF:=(q.o.lt g rfl).2;have V:Hid (Ab wr wr.heap.size (some ⟨g,0,none⟩) O):=Ix q.o;go_wp2_with fail;refine(DM _ c O x.sum wr _ V.o Yv).mono ?_;rintro e K ⟨rfl,rfl⟩;cases hin:O.any (fun y=>decide (y=x.sum))with
   |true=>
    have r:Hid (((a.map (·.sum)).take (k+1)).foldl AG []=O):=by show _=_;rw[G.o];unfold AG;rw[if_pos hin]
    go_wp2;refine⟨⟨k+1,g,c,Yv,Yo,by rw[r.o],?_,n,z⟩,by simp[intOf];omega⟩;rw[r.o];exact q
   |false=>
    have r:Hid (((a.map (·.sum)).take (k+1)).foldl AG []=O++[x.sum]):=by show _=_;rw[G.o];unfold AG;rw[if_neg (by rw[hin];decide)]
    go_wp2_with (first
     |(at_builtin;refine wpList_append_own _ rfl _ _ 29 rfl (w.heap.size+1) 9 i0 Zc 1 16 underlying29 Z Q R S rfl Yr _ O.length (O.map Value.string) rfl ?d0 ⟨K.heap.size,0,none⟩ 1 1 [.string x.sum] rfl rfl ?d1 ?d2 ?d3 ?d4 ?d5 ?_)
     |go_in)
    case d0=>exact q.o.alloc _
    case d1=>exact cell_one_new _ _ _
    case d2=>intro u J;simp at J;subst J;rfl
    case d3=>unfold maxLen;omega
    case d4=>omega
    case d5=>simp;omega
    intro v' t m o _;obtain⟨B,A,N,_,_⟩:=m.form Yv;subst N;have s:Below (w.heap.size+1) K t:=((Below.refl _ _).alloc Yv _).grown o Yt (by intro j X;simp[Value.ownBlock]at X;omega);have U:Hid (Zz w t):=n.trans (s.mono Yv);have M:=Yw (Ah.af z.o s Yv)
    have L:Hid (t.ownsRow (w.heap.size+1) 9 1 (Yz B (O.length+1) A) (O.length+1) ((O++[x.sum]).map Value.string)):=(by simpa using m:World.ownsRow t (w.heap.size+1) 9 1 (Yz B (O.length+1) A) (O.length+1) ((O++[x.sum]).map Value.string));clear m o s;go_wp2;refine⟨⟨k+1,B,A,Yv,Yo,by rw[r.o];simp,?_,U.o,M⟩,by simp[intOf];omega⟩;rw[r.o,List.length_append];exact L
  .rw[Zt Yt]at q |-;go_wp2
   go_loopw [3,5] (fun v i wr=>∃(k g c:Nat),k<=f.length/\i=Zg k/\v=Yz g (((f.map (·.sum)).take (k)).foldl AG ((a.map (·.sum)).foldl AG [])).length c/\Hid (wr.ownsRow (w.heap.size+1) 9 1 (Yz g (((f.map (·.sum)).take (k)).foldl AG ((a.map (·.sum)).foldl AG [])).length c) (((f.map (·.sum)).take (k)).foldl AG ((a.map (·.sum)).foldl AG [])).length ((((f.map (·.sum)).take (k)).foldl AG ((a.map (·.sum)).foldl AG [])).map Value.string))/\Zz w wr/\Hid (Ah wr w.heap.size E now h d T (.slice p a.length D) (.slice l f.length C))) (fun _ i _=>f.length -(intOf i).toNat)
   case atStart=>exact⟨0,g,c,Nat.zero_le _,rfl,rfl,q,n,z⟩
   case round=>
    clear x0 x1 x2 x3 x4 x5 x6 x7;obtain⟨k,g,c,hk,rfl,rfl,q,n,z⟩:=hrel;obtain⟨x0,x1,x2,x3,x4,x5,x6,x7⟩:=z.o;by_cases hlt:k<f.length
    .obtain⟨b,off,W,hb,I⟩:=(AR.below zA.o n).at hlt;subst W;have H:Hid (f[k]?=some f[k]):=Zv hlt;obtain⟨_,c1,_⟩:=I k _ H.o;have zC:b<wr.heap.size:=Yv
     have HN:Hid ((f.map (·.sum))[k]?=some f[k].sum):=by show _=_;rw[List.getElem?_map,H.o];rfl
     clear I;generalize f[k]=x at *
     have hlen:(((f.map (·.sum)).take (k)).foldl AG ((a.map (·.sum)).foldl AG [])).length<=a.length+k:=by have:=Dk ((f.map (·.sum)).take k) ((a.map (·.sum)).foldl AG []);have F:=Dk (a.map (·.sum)) [];simp at F;simp at this;omega
     have G:=Yw (GS ((a.map (·.sum)).foldl AG []) HN.o);generalize hO:((f.map (·.sum)).take (k)).foldl AG ((a.map (·.sum)).foldl AG [])=O at *
     have zE:=(q.o.lt g rfl).1;have zF:=(q.o.lt g rfl).2;have V:Hid (Ab wr wr.heap.size (some ⟨g,0,none⟩) O):=Ix q.o;go_wp2_with fail;refine(DM _ c O x.sum wr _ V.o Yv).mono ?_;rintro e K ⟨rfl,rfl⟩;cases hin:O.any (fun y=>decide (y=x.sum))with
     |true=>
      have r:Hid (((f.map (·.sum)).take (k+1)).foldl AG ((a.map (·.sum)).foldl AG [])=O):=by show _=_;rw[G.o];unfold AG;rw[if_pos hin]
      go_wp2;refine⟨⟨k+1,g,c,Yv,Yo,by rw[r.o],?_,n,z⟩,by simp[intOf];omega⟩;rw[r.o];exact q
     |false=>
      have r:Hid (((f.map (·.sum)).take (k+1)).foldl AG ((a.map (·.sum)).foldl AG [])=O++[x.sum]):=by show _=_;rw[G.o];unfold AG;rw[if_neg (by rw[hin];decide)]
      go_wp2_with (first
       |(at_builtin;refine wpList_append_own _ rfl _ _ 29 rfl (w.heap.size+1) 9 i0 Zc 1 16 underlying29 Z Q R S rfl Yr _ O.length (O.map Value.string) rfl ?d0 ⟨K.heap.size,0,none⟩ 1 1 [.string x.sum] rfl rfl ?d1 ?d2 ?d3 ?d4 ?d5 ?_)
       |go_in)
      case d0=>exact q.o.alloc _
      case d1=>exact cell_one_new _ _ _
      case d2=>intro u J;simp at J;subst J;rfl
      case d3=>unfold maxLen;omega
      case d4=>omega
      case d5=>simp;omega
      intro v' t m o _;obtain⟨B,A,N,_,_⟩:=m.form Yv;subst N;have s:Below (w.heap.size+1) K t:=((Below.refl _ _).alloc Yv _).grown o Yt (by intro j X;simp[Value.ownBlock]at X;omega);have U:Hid (Zz w t):=n.trans (s.mono Yv);have M:=Yw (Ah.af z.o s Yv)
      have L:Hid (t.ownsRow (w.heap.size+1) 9 1 (Yz B (O.length+1) A) (O.length+1) ((O++[x.sum]).map Value.string)):=(by simpa using m:World.ownsRow t (w.heap.size+1) 9 1 (Yz B (O.length+1) A) (O.length+1) ((O++[x.sum]).map Value.string));clear m o s;go_wp2;refine⟨⟨k+1,B,A,Yv,Yo,by rw[r.o];simp,?_,U.o,M⟩,by simp[intOf];omega⟩;rw[r.o,List.length_append];exact L
    .rw[Zt Yt]at q |-;go_wp2;go_ret;exact⟨_,_,rfl,q.o,n⟩
def Ek:Zj:=[Ze,Ze,Ze,Ze,Ze,Zb,Zb,Zb,Ze,Zb,Zb,Ze,Ze,Ze,Zb]
theorem Ho{g i j k l m n o q r a c d e f:Value}(h:Aa w b [g,i,j,k,l,m,n,o,q,r,a,c,d,e,f]):(w.cell? (Zd b 0)=some g/\w.frozen? ⟨b,0,none⟩=false)/\(w.cell? (Zd b 1)=some i/\w.frozen? ⟨b,1,none⟩=false)/\(w.cell? (Zd b 2)=some j/\w.frozen? ⟨b,2,none⟩=false)/\(w.cell? (Zd b 3)=some k/\w.frozen? ⟨b,3,none⟩=false)/\(w.cell? (Zd b 4)=some l/\w.frozen? ⟨b,4,none⟩=false)/\(w.cell? (Zd b 5)=some m/\w.frozen? ⟨b,5,none⟩=false)/\(w.cell? (Zd b 6)=some n/\w.frozen? ⟨b,6,none⟩=false)/\(w.cell? (Zd b 7)=some o/\w.frozen? ⟨b,7,none⟩=false)/\(w.cell? (Zd b 8)=some q/\w.frozen? ⟨b,8,none⟩=false)/\(w.cell? (Zd b 9)=some r/\w.frozen? ⟨b,9,none⟩=false)/\(w.cell? (Zd b 10)=some a/\w.frozen? ⟨b,10,none⟩=false)/\(w.cell? (Zd b 11)=some c/\w.frozen? ⟨b,11,none⟩=false)/\(w.cell? (Zd b 12)=some d/\w.frozen? ⟨b,12,none⟩=false)/\(w.cell? (Zd b 13)=some e/\w.frozen? ⟨b,13,none⟩=false)/\(w.cell? (Zd b 14)=some f/\w.frozen? ⟨b,14,none⟩=false):=
 ⟨h 0 _ rfl,h 1 _ rfl,h 2 _ rfl,h 3 _ rfl,h 4 _ rfl,h 5 _ rfl,h 6 _ rfl,h 7 _ rfl,h 8 _ rfl,h 9 _ rfl,h 10 _ rfl,h 11 _ rfl,h 12 _ rfl,h 13 _ rfl,h 14 _ rfl⟩
theorem Jr(w:Zh)(R:Nat)(f g h i j k l m n o a b c d e:Value):Tn [R] w (((((((((((((((w.setCell (Zd R 0) f).setCell (Zd R 1) g).setCell (Zd R 2) h).setCell (Zd R 3) i).setCell (Zd R 4) j).setCell (Zd R 5) k).setCell (Zd R 6) l).setCell (Zd R 7) m).setCell (Zd R 8) n).setCell (Zd R 9) o).setCell (Zd R 10) a).setCell (Zd R 11) b).setCell (Zd R 12) c).setCell (Zd R 13) d).setCell (Zd R 14) e):=
 (((((((((((((((Bd w R 0 f).trans (Bd _ R 1 g)).trans (Bd _ R 2 h)).trans (Bd _ R 3 i)).trans (Bd _ R 4 j)).trans (Bd _ R 5 k)).trans (Bd _ R 6 l)).trans (Bd _ R 7 m)).trans (Bd _ R 8 n)).trans (Bd _ R 9 o)).trans (Bd _ R 10 a)).trans (Bd _ R 11 b)).trans (Bd _ R 12 c)).trans (Bd _ R 13 d)).trans (Bd _ R 14 e))
def fresh(ms rs:Zl):Zl:=rs.filter (fun r=> !(ms.any (fun x=>decide (x=r))))
def Lh(ks:List Kd)(s:Zi)(qs ms qs' ms':Zl):Prop:=
 ((¬Aw ks s\/s∈ms)/\qs'=qs/\ms'=ms)\/∃k∈ks,k.sum=s/\s∉ms/\ms'=ms++[s]/\qs'=qs++fresh (ms++[s]) k.B
theorem Qr{ms a:Zl}{k:Nat}{x:Zi}(c:a[k]?=some x):(x∈ms->fresh ms (a.take (k+1))=fresh ms (a.take k))/\(x∉ms->fresh ms (a.take (k+1))=fresh ms (a.take k)++[x]):=by
 obtain⟨h,rfl⟩:=Zw c;unfold fresh;rw[Zu h,List.filter_append];refine⟨fun b=> ?_,fun b=> ?_⟩
 .have:(ms.any (fun x=>decide (x=a[k])))=true:=by simpa using b
  simp[this]
 .have:(ms.any (fun x=>decide (x=a[k])))=false:=by simp;exact fun x c e=>b (e▸c)
  simp[this]
def Li(ks:List Kd)(at_:Int)(u:Kd):Prop:=u∈ks/\u.born<at_/\∀y∈ks,y.born<at_->y.born<=u.born
structure UR where
 ks:List Kd
 K:Int
 R:Int
 S:Int
 ro:Int
 F:Zl
 ms:Zl
 y:Zl
inductive UTo (ks:List Kd) (ps:List Pd) (ls:List Ld) (births ph top at_ ro:Int) (qs ms:Zl):UR->Prop
 |begin (h:ph=0):UTo ks ps ls births ph top at_ ro qs ms ⟨ks,1,births,births+1,ro,Cq ps ls,ms,[]⟩
 |mark (h:ph≠0) (s:Zi) (q0 qs' ms':Zl) (hq:qs=s::q0) (hm:Lh ks s q0 ms qs' ms'):UTo ks ps ls births ph top at_ ro qs ms ⟨ks,ph,top,at_,ro,qs',ms',[]⟩
 |rest (h:ph≠0) (hq:qs=[]) (hn:∀y∈ks,¬y.born<at_):UTo ks ps ls births ph top at_ ro qs ms ⟨ks,0,0,0,ro+1,[],[],[]⟩
 |af (h:ph≠0) (hq:qs=[]) (u:Kd) (hu:Li ks at_ u) (hk:u.sum∈ms\/GI ps ls ks u.sum):UTo ks ps ls births ph top at_ ro qs ms ⟨ks,2,top,u.born,ro,[],ms,[]⟩
 |drop (h:ph≠0) (hq:qs=[]) (u:Kd) (hu:Li ks at_ u) (hm:u.sum∉ms) (hk:¬GI ps ls ks u.sum):UTo ks ps ls births ph top at_ ro qs ms ⟨Eg ks u.sum,2,top,u.born,ro,[],ms,[u.sum]⟩
structure Wy (wd births:Int) (ks:List Kd) (ps:List Pd) (ls:List Ld) (ph ro:Int) (qs ms:Zl):Prop where
 ok:Gs wd ks
 born:∀k∈ks,1<=k.born
 B:∀k∈ks,k.B.length<=30/\∀r∈k.B,(r.size:Int)=wd
 pl:ps.length<=100
 ll:ls.length<=200
 fo:∀p∈ps,(p.sum.size:Int)=wd
 fy:∀l∈ls,(l.sum.size:Int)=wd
 b0:0<=births
 b1:births<=1000000000
 jk:ph=0\/ph=1\/ph=2
 r0:0<=ro
 r1:ro<=1000000000
 jl:∀x∈qs,(x.size:Int)=wd
 ja:∀x∈ms,(x.size:Int)=wd
 ql:qs.length<=1048576
 ml:ms.length<=1048576
theorem UTo.sub{a d c k:Int}{b:List Kd}{i:List Pd}{e:List Ld}{f:Zl}{r:UR}(h:UTo b i e a g d c k j f r):r.ks.Sublist b:=by
 cases h with
 |begin h=>exact List.Sublist.refl _
 |mark h s q0 q1 m1 hq hm=>exact List.Sublist.refl _
 |rest h hq hn=>exact List.Sublist.refl _
 |af h hq u hu hk=>exact List.Sublist.refl _
 |drop h hq u hu hm hk=>exact List.filter_sublist
theorem Lh.co{b:List Kd}{g h d f:Zl}(l:(b.map (·.sum)).Nodup)(m:Lh b s j g h d)(n:Lh b s j g i f):h=i/\d=f:=by
 rcases m with⟨a,rfl,rfl⟩|⟨k,c,e,o,rfl,rfl⟩<;>rcases n with⟨a',rfl,rfl⟩|⟨k',hk',e',hn',rfl,rfl⟩
 .exact⟨rfl,rfl⟩
 .rcases a with a|a
  .exact absurd ⟨k',hk',e'⟩ a
  .exact absurd a hn'
 .rcases a' with a|a
  .exact absurd ⟨k,c,e⟩ a
  .exact absurd a o
 .rw[Gr l c hk' (e.trans e'.symm)];exact⟨rfl,rfl⟩
theorem UTo.co{c j e:Int}{d:List Kd}{k:List Pd}{h:List Ld}{l:Zl}{m n:UR}(r:∀x∈d,∀y∈d,x.born=y.born->x=y)(q:(d.map (·.sum)).Nodup)(b:UTo d k h c j g e o l i m)(a:UTo d k h c j g e o l i n):m=n:=by
 have f:∀{u v:Kd},Li d e u->Li d e v->u=v:=fun {u v} hu hv=>r _ hu.1 _ hv.1 (by have:=hu.2.2 v hv.1 hv.2.1;have:=hv.2.2 u hu.1 hu.2.1;omega);cases b with
 |begin b=>
  cases a with
  |begin a=>rfl
  |mark a s2 q02 qs12 ms12 hq2 hm2=>exact absurd b a
  |rest a hq2 hn2=>exact absurd b a
  |af a hq2 u2 hu2 hk2=>exact absurd b a
  |drop a hq2 u2 hu2 hm2 hk2=>exact absurd b a
 |mark b s1 q01 qs11 ms11 hq1 hm1=>
  cases a with
  |begin a=>exact absurd a b
  |mark a s2 q02 qs12 ms12 hq2 hm2=>rw[hq1]at hq2;cases hq2;obtain⟨rfl,rfl⟩:=hm1.co q hm2;rfl
  |rest a hq2 hn2=>rw[hq1]at hq2;cases hq2
  |af a hq2 u2 hu2 hk2=>rw[hq1]at hq2;cases hq2
  |drop a hq2 u2 hu2 hm2 hk2=>rw[hq1]at hq2;cases hq2
 |rest b hq1 hn1=>
  cases a with
  |begin a=>exact absurd a b
  |mark a s2 q02 qs12 ms12 hq2 hm2=>rw[hq1]at hq2;cases hq2
  |rest a hq2 hn2=>rfl
  |af a hq2 u2 hu2 hk2=>exact absurd hu2.2.1 (hn1 _ hu2.1)
  |drop a hq2 u2 hu2 hm2 hk2=>exact absurd hu2.2.1 (hn1 _ hu2.1)
 |af b hq1 u1 hu1 hk1=>
  cases a with
  |begin a=>exact absurd a b
  |mark a s2 q02 qs12 ms12 hq2 hm2=>rw[hq1]at hq2;cases hq2
  |rest a hq2 hn2=>exact absurd hu1.2.1 (hn2 _ hu1.1)
  |af a hq2 u2 hu2 hk2=>cases f hu1 hu2;rfl
  |drop a hq2 u2 hu2 hm2 hk2=>cases f hu1 hu2;exact(hk1.elim hm2 hk2).elim
 |drop b hq1 u1 hu1 hm1 hk1=>
  cases a with
  |begin a=>exact absurd a b
  |mark a s2 q02 qs12 ms12 hq2 hm2=>rw[hq1]at hq2;cases hq2
  |rest a hq2 hn2=>exact absurd hu1.2.1 (hn2 _ hu1.1)
  |af a hq2 u2 hu2 hk2=>cases f hu1 hu2;exact(hk2.elim hm1 hk1).elim
  |drop a hq2 u2 hu2 hm2 hk2=>cases f hu1 hu2;rfl
structure RX (wd births:Int) (ks:List Kd) (ps:List Pd) (ls:List Ld):Prop where
 b1:∀k∈ks,1<=k.born/\k.born<=births
 un:∀x∈ks,∀y∈ks,x.born=y.born->x=y
 rs:∀k∈ks,∀r∈k.B,(r.size:Int)=wd
 fo:∀p∈ps,(p.sum.size:Int)=wd
 fy:∀l∈ls,(l.sum.size:Int)=wd
theorem Iy{b:Int}{a:List Kd}(h:Gs b a)(c:Aw a s):(s.size:Int)=b:=by obtain⟨u,d,e⟩:=c;rw[<-e];exact h.sz u d
theorem RX.step{j a:Int}{u:List Kd}{A:List Pd}{z:List Ld}{F:Int}{D:Zi}{num:Int}{d:Zi}{c:Zl}(h:RX o a u A z)(t:Gu o now j a u A z)(i:Ep o now j a u A z F s D num d c r):RX o r.C r.ks r.ps r.ls:=by
 have m:∀(x:Ld),(x.sum.size:Int)=o->∀l∈z++[x],(l.sum.size:Int)=o:=fun x n l g=>by
  rcases List.mem_append.1 g with g|g
  .exact h.fy l g
  .rw[List.mem_singleton.1 g];exact n
 rcases i with⟨rfl,q,g,J,G,H,i,rfl⟩|⟨_,q,_,rfl⟩|⟨_,_,rfl⟩|⟨_,q,_,_,rfl⟩|⟨_,_,rfl⟩|⟨_,_,rfl⟩|⟨_,_,_,rfl⟩
 .rcases i with⟨_,_,_,_,rfl,rfl⟩|⟨_,_,_,rfl,rfl⟩
  .exact⟨h.b1,h.un,h.rs,h.fo,m _ (FJ _ _ _ t.w1)⟩
  .have v:∀k∈EH u ⟨Cb d c o,a+1,d,c⟩,k=⟨Cb d c o,a+1,d,c⟩\/k∈u:=fun k f=>List.mem_cons.1 ((Mr u _).mem_iff.1 f);have I:=t.bj;refine⟨fun k f=> ?_,fun x n y i e=> ?_,fun k f r C=> ?_,h.fo,m _ (FJ _ _ _ t.w1)⟩
   .rcases v k f with rfl|f
    .exact⟨by show 1<=a+1;omega,Int.le_refl _⟩
    .have:=h.b1 k f;exact⟨this.1,by show _<=a+1;omega⟩
   .rcases v x n with rfl|n<;>rcases v y i with rfl|i
    .rfl
    .have:=(h.b1 y i).2;have E:a+1=y.born:=e;omega
    .have:=(h.b1 x n).2;have E:x.born=a+1:=e;omega
    .exact h.un x n y i e
   .rcases v k f with rfl|f
    .exact Iy t.cf (q r C)
    .exact h.rs k f r C
 .refine⟨h.b1,h.un,h.rs,fun p B=> ?_,h.fy⟩;have b:p∈BC A D s:=B;unfold BC at b;rcases List.mem_append.1 b with b|b
  .rcases List.mem_append.1 b with b|b
   .exact h.fo p (List.mem_filter.1 b).1
   .rw[List.mem_singleton.1 b];exact Iy t.cf q
  .exact h.fo p (List.mem_filter.1 b).1
 .exact⟨h.b1,h.un,h.rs,fun p B=>h.fo p (List.mem_filter.1 B).1,h.fy⟩
 .exact⟨h.b1,h.un,h.rs,h.fo,m _ (Iy t.cf q)⟩
 .exact⟨h.b1,h.un,h.rs,h.fo,fun l g=>h.fy l (List.mem_filter.1 g).1⟩
 .exact⟨h.b1,h.un,h.rs,h.fo,fun l g=>h.fy l (List.mem_filter.1 g).1⟩
 .exact⟨fun k f=>h.b1 k (List.mem_filter.1 f).1,fun x n y i e=>h.un x (List.mem_filter.1 n).1 y (List.mem_filter.1 i).1 e,fun k f=>h.rs k (List.mem_filter.1 f).1,h.fo,h.fy⟩
theorem CJ.rx{a:Int}:∀{xs:Zl} {r r':Rs},CJ a r xs r'->r.ok a->RX a r.C r.ks r.ps r.ls->RX a r'.C r'.ks r'.ps r'.ls
 |[],r,r',h,_,hx=>by obtain rfl:r'=r:=h;exact hx
 |x::xs,r,r',h,hr,hx=>by obtain⟨d,b,c⟩:=h;exact CJ.rx c (b.ok hr) (hx.step hr b.2)
def UR.and(u r:UR):UR:=⟨r.ks,r.K,r.R,r.S,r.ro,r.F,r.ms,u.y++r.y⟩
def DZ(v:Vd):UR:=⟨v.ks,v.K,v.R,v.S,v.ro,v.F,v.ms,[]⟩
def Lj(ps:List Pd)(ls:List Ld)(births:Int)(u r:UR):Prop:=UTo u.ks ps ls births u.K u.R u.S u.ro u.F u.ms r
structure Hp (wd births:Int) (ps:List Pd) (ls:List Ld) (free:Nat) (u:UR):Prop where
 ok:Wy wd births u.ks ps ls u.K u.ro u.F u.ms
 un:∀x∈u.ks,∀y∈u.ks,x.born=y.born->x=y
 ql:u.F.length<=23200
 ml:u.ms.length<=600
 dl:u.y.length+u.ks.length<=600
 df:u.y.length<=free
theorem Ll{v:Vd}(h:Dw v r):Hp v.wd v.C v.ps v.ls (4000 -(v.ss++v.A).length) (DZ v):=by
 have a:=h.dm;have c:RX v.wd r.C r.ks r.ps r.ls:=h.run.rx (Ff h.wd.1 h.wd.2) ⟨by simp[r0],by simp[r0],by simp[r0],by simp[r0],by simp[r0]⟩;obtain⟨⟨_,_,_,e⟩,f,g,i⟩:=h.same;rw[e,f,g,i]at c;have b:=h.round;have l:=b.dj.nq;have j:=b.dj.nm
 refine⟨⟨a.cf,fun k d=>(c.b1 k d).1,fun k d=>⟨a.cu k d,c.rs k d⟩,a.np,a.nl,c.fo,c.fy,a.bj,a.ak,?_,b.jj,b.jh,b.dj.q,b.dj.m,by show v.F.length<=_;omega,by show v.ms.length<=_;omega⟩,c.un,by show v.F.length<=_;omega,by show v.ms.length<=_;omega,by show 0+v.ks.length<=600;have:=a.cf.len;omega,Nat.zero_le _⟩;rcases b.K with h|h|h
 .exact .inl h.1
 .exact .inr (.inl h.1)
 .exact .inr (.inr h.1)
theorem Qs{e:Int}{j:List Pd}{i:List Ld}(m:∀p∈j,(p.sum.size:Int)=e)(k:∀l∈i,(l.sum.size:Int)=e):∀x∈Cq j i,(x.size:Int)=e:=by
 have b:∀(f c:Zl),(∀x∈f,(x.size:Int)=e)->(∀x∈c,(x.size:Int)=e)->∀x∈f.foldl AG c,(x.size:Int)=e:=by
  intro f;induction f with
  |nil=>intro c _ h x a;exact h x a
  |cons y ys ih=>
   intro c d g;refine ih _ (fun x a=>d x (List.mem_cons_of_mem _ a)) (fun x a=> ?_);unfold AG at a;split at a
   .exact g x a
   .rcases List.mem_append.1 a with a|a
    .exact g x a
    .rw[List.mem_singleton.1 a];exact d y Yu
 unfold Cq;refine b _ _ (fun x a=> ?_) (b _ _ (fun x a=> ?_) Yu)
 .obtain⟨l,d,rfl⟩:=List.mem_map.1 a;exact k l d
 .obtain⟨p,d,rfl⟩:=List.mem_map.1 a;exact m p d
theorem Hp.step{c:Int}{q:List Pd}{o:List Ld}{u r:UR}(h:Hp g c q o free u)(C:Lj q o c u r)(N:u.ro≠1000000000)(G:r.F.length<=23200)(F:r.ms.length<=600)(n:r.y=[]\/u.y.length<free):Hp g c q o free (u.and r):=by
 have a:=UTo.sub C;have f:=h.ok.r1;have d:=h.ok.r0;have hlen:=a.length_le;have D:Gs g r.ks:=by have k:=h.ok.ok;exact⟨k.nd.sublist (a.map _),k.dy.sublist (a.map _),fun x b=>k.sz x (a.subset b),fun x b=>k.B x (a.subset b),Zm hlen k.len,k.w8⟩
 have E:∀x∈r.ks,∀y∈r.ks,x.born=y.born->x=y:=fun x b y I e=>h.un x (a.subset b) y (a.subset I) e;have m:∀k∈r.ks,1<=k.born:=fun k l=>h.ok.born k (a.subset l);have hrefs:∀k∈r.ks,k.B.length<=30/\∀r∈k.B,(r.size:Int)=g:=fun k l=>h.ok.B k (a.subset l)
 have i:∀(v:r.K=0\/r.K=1\/r.K=2) (j:0<=r.ro) (B:r.ro<=1000000000) (A:∀x∈r.F,(x.size:Int)=g) (t:∀x∈r.ms,(x.size:Int)=g),(r.y.length+r.ks.length<=u.ks.length)->r.y.length<=1->Hp g c q o free (u.and r):=fun v j B A t O J=>by
  have L:=h.dl;have K:=h.df;refine⟨⟨D,m,hrefs,h.ok.pl,h.ok.ll,h.ok.fo,h.ok.fy,h.ok.b0,h.ok.b1,v,j,B,A,t,by show r.F.length<=_;omega,by show r.ms.length<=_;omega⟩,E,G,F,?_,?_⟩
  .show(u.y++r.y).length+r.ks.length<=600;rw[List.length_append];omega
  .show(u.y++r.y).length<=free;rw[List.length_append];rcases n with n|n
   .rw[n,List.length_nil];omega
   .omega
 cases C with
 |begin j=>exact i (.inr (.inl rfl)) d f (Qs h.ok.fo h.ok.fy) h.ok.ja Yu Yu
 |mark j s q0 qs' ms' hqq hmm=>
  have z:∀x∈q0,(x.size:Int)=g:=fun x b=>h.ok.jl x (by rw[hqq];exact List.mem_cons_of_mem _ b);have H:(s.size:Int)=g:=h.ok.jl s (by rw[hqq];simp);rcases hmm with⟨_,rfl,rfl⟩|⟨k,l,_,_,rfl,rfl⟩
  .exact i h.ok.jk d f z h.ok.ja Yu Yu
  .refine i h.ok.jk d f (fun x b=> ?_) (fun x b=> ?_) Yu Yu
   .rcases List.mem_append.1 b with b|b
    .exact z x b
    .exact(h.ok.B k l).2 x (List.mem_filter.1 b).1
   .rcases List.mem_append.1 b with b|b
    .exact h.ok.ja x b
    .rw[List.mem_singleton.1 b];exact H
 |rest j hqq hn=>exact i (.inl rfl) (by show 0<=u.ro+1;omega) (by show u.ro+1<=_;omega) Yu Yu Yu Yu
 |af j hqq x b l=>exact i (.inr (.inr rfl)) d f Yu h.ok.ja Yu Yu
 |drop j hqq x b hmm l=>
  refine i (.inr (.inr rfl)) d f Yu h.ok.ja ?_ Yu;have M:(Eg u.ks x.sum).length<u.ks.length:=by unfold Eg;exact List.length_filter_lt_length_iff_exists.2 ⟨x,b.1,Yu⟩
  show 1+(Eg u.ks x.sum).length<=u.ks.length;omega
theorem UTo.some{ps:List Pd}{c:List Ld}{a:Int}{u r:UR}(h:Lj ps c a u r)(b:r.y≠[]):r.F=[]/\r.ms=u.ms/\∃s,r.y=[s]:=by
 cases h with
 |begin h0=>exact absurd rfl b
 |mark h0 s q0 qs' ms' hqq hmm=>exact absurd rfl b
 |rest h0 hqq hn=>exact absurd rfl b
 |af h0 hqq x hx hk=>exact absurd rfl b
 |drop h0 hqq x hx hmm hk=>exact⟨rfl,rfl,_,rfl⟩
inductive ClTo (births:Int) (ps:List Pd) (ls:List Ld) (free units:Nat):Nat->UR->Option (UR×Nat)->Prop
 |fin (n:Nat) (u:UR) (h:units<=n):ClTo births ps ls free units n u (some (u,n))
 |old (n:Nat) (u:UR) (h:n<units) (hr:u.ro=1000000000):ClTo births ps ls free units n u none
 |full (n:Nat) (u r:UR) (h:n<units) (hr:u.ro≠1000000000) (ht:Lj ps ls births u r) (hd:r.y≠[]) (hf:¬u.y.length<free):ClTo births ps ls free units n u (some (u,n))
 |long (n:Nat) (u r:UR) (h:n<units) (hr:u.ro≠1000000000) (ht:Lj ps ls births u r) (hl:23200<r.F.length\/600<r.ms.length):ClTo births ps ls free units n u none
 |step (n:Nat) (u r:UR) (o:Option (UR×Nat)) (h:n<units) (hr:u.ro≠1000000000) (ht:Lj ps ls births u r) (hq:r.F.length<=23200) (hm:r.ms.length<=600) (hf:r.y=[]\/u.y.length<free) (hs:ClTo births ps ls free units (n+1) (u.and r) o):ClTo births ps ls free units n u o
theorem ClTo.co{c:Int}{l:List Pd}{k:List Ld}{f:Nat}{u:UR}{m:Option (UR×Nat)}(s:ClTo c l k free f n u m):∀{j},Hp q c l k free u->ClTo c l k free f n u j->m=j:=by
 have one:∀{u r1 r2:UR},Hp q c l k free u->Lj l k c u r1->Lj l k c u r2->r1=r2:=fun d a b=>UTo.co d.un d.ok.ok.nd a b;induction s with
 |fin n u h=>intro j d g;cases g<;>first|rfl|omega
 |old n u h hr=>intro j d g;cases g<;>first|rfl|omega|contradiction
 |full n u r h hr ht hd i=>
  intro j d g;cases g with
  |fin _ _ h'=>omega
  |old _ _ h' hr'=>exact absurd hr' hr
  |full _ _ r' h' hr' ht' hd' e=>rfl
  |long _ _ r' h' hr' ht' hl'=>cases one d ht ht';have:=UTo.some ht hd;have:=d.ml;simp_all;omega
  |step _ _ r' _ h' hr' ht' hq' hm' e hs'=>
   cases one d ht ht';rcases e with e|e
   .exact absurd e hd
   .exact absurd e i
 |long n u r h hr ht hl=>
  intro j d g;cases g with
  |fin _ _ h'=>omega
  |old _ _ h' hr'=>rfl
  |full _ _ r' h' hr' ht' hd' e=>cases one d ht ht';have:=UTo.some ht hd';have:=d.ml;simp_all;omega
  |long _ _ r' h' hr' ht' hl'=>rfl
  |step _ _ r' _ h' hr' ht' hq' hm' e hs'=>cases one d ht ht';omega
 |step n u r o h hr ht hq hm i hs ih=>
  intro j d g;cases g with
  |fin _ _ h'=>omega
  |old _ _ h' hr'=>exact absurd hr' hr
  |full _ _ r' h' hr' ht' hd' e=>
   cases one d ht ht';rcases i with i|i
   .exact absurd i hd'
   .exact absurd i e
  |long _ _ r' h' hr' ht' hl'=>cases one d ht ht';omega
  |step _ _ r' _ h' hr' ht' hq' hm' e hs'=>cases one d ht ht';exact ih (d.step ht hr hq hm i) hs'
theorem DR.af{c:Zh}(h:DR w A ks)(l:AI w B (some A) ks)(g:Below B w c):DR c A ks:=fun i k a=>by obtain⟨e,m,j⟩:=h i k a;obtain⟨b,off,f,d,_⟩:=l.at (Zw a).1;cases f;exact⟨e,m,(g.cell (p:=⟨b,off+i *4+3,none⟩) d).trans j⟩
theorem KY.af{c:Zh}(h:KY w A ks)(j:AI w B (some A) ks)(f:Below B w c):KY c A ks:=fun i k a l g=>by obtain⟨b,off,e,d,_⟩:=j.at (Zw a).1;cases e;exact h i k a l ((f.cell (p:=⟨b,off+i *4+3,none⟩) d).symm.trans g)
def CU(ks:List Kd)(at_:Int)(r:Int):Prop:=
 (r= -1/\∀y∈ks,¬y.born<at_)\/∃(i:Nat) (k:Kd),r=i/\ks[i]?=some k/\k.born<at_/\∀y∈ks,y.born<at_->y.born<=k.born
theorem CU.snoc{e:List Kd}{d r:Int}{x:Kd}(h:CU e d r):(¬x.born<d->CU (e++[x]) d r)/\(x.born<d->r= -1->CU (e++[x]) d e.length)/\(∀(i:Nat) (k:Kd),x.born<d->r=i->e[i]?=some k->(k.born<x.born->CU (e++[x]) d e.length)/\(¬k.born<x.born->CU (e++[x]) d r)):=by
 refine⟨fun g=> ?_,fun g q=> ?_,fun i k g q n=>⟨fun o=> ?_,fun o=> ?_⟩⟩
 .rcases h with⟨f,c⟩|⟨i,k,f,c,m,l⟩
  .refine .inl ⟨f,fun y a=> ?_⟩;rcases List.mem_append.1 a with a|a
   .exact c y a
   .simp at a;rw[a];exact g
  .refine .inr ⟨i,k,f,?_,m,fun y a b=> ?_⟩
   .rw[List.getElem?_append_left (Zw c).1];exact c
   .rcases List.mem_append.1 a with a|a
    .exact l y a b
    .simp at a;rw[a]at b;exact absurd b g
 .rcases h with⟨_,c⟩|⟨i,k,f,_⟩
  .refine .inr ⟨e.length,x,rfl,Yu,g,fun y a b=> ?_⟩;rcases List.mem_append.1 a with a|a
   .exact absurd b (c y a)
   .simp at a;rw[a];omega
  .omega
 .rcases h with⟨f,_⟩|⟨j,s,f,c,m,l⟩
  .omega
  .obtain rfl:i=j:=Yv
   rw[n]at c;cases c;refine .inr ⟨e.length,x,rfl,Yu,g,fun y a b=> ?_⟩;rcases List.mem_append.1 a with a|a
   .have:=l y a b;omega
   .simp at a;rw[a];omega
 .rcases h with⟨f,_⟩|⟨j,s,f,c,m,l⟩
  .omega
  .obtain rfl:i=j:=Yv
   rw[n]at c;cases c;refine .inr ⟨i,k,f,?_,m,fun y a b=> ?_⟩
   .rw[List.getElem?_append_left (Zw n).1];exact n
   .rcases List.mem_append.1 a with a|a
    .exact l y a b
    .simp at a;rw[a];omega
theorem Qt(I now g d j:Int)(a:Zk)(F:Nat)(P L:Value)(c:List Kd)(w:Zh)(q:AI w w.heap.size a c)(hl:c.length<=1000):
 Calls prog 135 #[.agg #[Zg I,Zg now,Zg g,Zg d,.slice a c.length F,P,L],Zg j] w fun e w'=>∃r:Int,e=.returned (Zg r)/\CU c j r/\Zz w w':=by
 have V:=Yw q;have n:=Ah.new w I now g d (.slice a c.length F) P L 27;have D:Below w.heap.size w (w.alloc (.cells #[Zg I,Zg now,Zg g,Zg d,.slice a c.length F,P,L] 27)):=Zy;obtain⟨W,Q⟩:∃W,W=w.alloc (.cells #[Zg I,Zg now,Zg g,Zg d,.slice a c.length F,P,L] 27):=⟨_,rfl⟩;rw[<-Q]at n D;have T:=Yw Q;have HX:=Yw n;have zA:w.heap.size<W.heap.size:=n.2.2.2.2.2.2.2;clear q Q n;go_enter func135,ntmps135
 go_upto_region 1 with fail;rw[<-T.o];clear T;go_wp2
 go_loopw [5,6] (fun v i wr=>∃(k:Nat) (r:Int),k<=c.length/\i=Zg k/\v=Zg r/\Hid (CU (c.take k) j r/\Zz W wr)) (fun _ i _=>c.length -(intOf i).toNat)
 case atStart=>exact⟨0, -1,Nat.zero_le _,rfl,rfl,.inl ⟨rfl,(fun y o=>by simp at o)⟩,Below.refl _ _⟩
 case round=>
  obtain⟨k,r,hk,rfl,rfl,z⟩:=hrel;have f:=z.o.2;have u:=f.size;have J:Below w.heap.size w wr:=D.trans (f.mono D.size);obtain⟨_,_,_,_,B,_,_,_⟩:=Ah.below HX.o f;by_cases hlt:k<c.length
  .obtain⟨b,off,ha,hb,R⟩:=(AI.below V.o J).at hlt;subst ha;have HG:Hid (c[k]?=some c[k]):=Zv hlt;obtain⟨_,A,_⟩:=R k _ HG.o;have K:b<wr.heap.size:=Yv
   have M:(c.take k).length=k:=by rw[List.length_take];omega
   have E:Hid (c.take (k+1)=c.take k++[c[k]]):=Zu hlt;have H:=Ag.cell B (show w.heap.size<wr.heap.size by omega);have G:=Ag.cell A K;have t:=Ag.ne wr;have S:=Yw R;have HN:=Yw (CU.snoc (x:=c[k]) z.o.1);clear R;generalize c[k]=x at *
   by_cases n:x.born<j
   .have d1:decide (x.born<j)=true:=by simpa using n
    by_cases hr:r<0
    .have d2:decide (r<0)=true:=by simpa using hr
     have Y:r= -1:=by
      rcases z.o.1 with⟨h,_⟩|⟨i,_,h,_⟩
      .exact h
      .omega
     have l:=HN.o.2.1 n Y;rw[M]at l;have s:Hid (CU (c.take k++[x]) j (k:Int)):=l;clear l;clear HN;go_wp2;refine Aj Ys Ys ?_
     repeat (go_big_quiet_step (fail))
     refine wpQuiet_nil ?_;intro m;clear H G t A B;go_wp2;exact⟨⟨k+1,k,Yv,Yo,rfl,⟨by rw[E.o];exact s.o,f.trans (m.h.mono u)⟩⟩,by simp[intOf];omega⟩
    .have d2:decide (r<0)=false:=by simpa using hr
     obtain⟨i,y,rfl,o,_⟩:∃(i:Nat) (y:Kd),r=i/\(c.take k)[i]?=some y/\True:=by
      rcases z.o.1 with⟨h,_⟩|⟨i,y,h1,h2,_⟩
      .omega
      .exact⟨i,y,h1,h2,trivial⟩
     have X:i<k:=by have:=(Zw o).1;omega
     have N:c[i]?=some y:=by rw[List.getElem?_take_of_lt X]at o;exact o
     obtain⟨_,O,_⟩:=S.o i y N;have U:=Ag.cell O K;have l:=HN.o.2.2 i y n rfl o;rw[M]at l;have s:=Yw l;clear l;clear HN o N S;by_cases hg:y.born<x.born
     .have d3:decide (y.born<x.born)=true:=by simpa using hg
      go_wp2;refine Aj Ys Ys ?_
      repeat (go_big_quiet_step (fail))
      refine wpQuiet_nil ?_;intro m;clear H G U t A B O;go_wp2;exact⟨⟨k+1,k,Yv,Yo,rfl,⟨by rw[E.o];exact s.o.1 hg,f.trans (m.h.mono u)⟩⟩,by simp[intOf];omega⟩
     .have d3:decide (y.born<x.born)=false:=by simpa using hg
      go_wp2;refine Aj Ys Ys ?_
      repeat (go_big_quiet_step (fail))
      refine wpQuiet_nil ?_;intro m;clear H G U t A B O;go_wp2;exact⟨⟨k+1,i,Yv,Yo,rfl,⟨by rw[E.o];exact s.o.2 hg,f.trans (m.h.mono u)⟩⟩,by simp[intOf];omega⟩
   .have d1:decide (x.born<j)=false:=by simpa using n
    have s:Hid (CU (c.take k++[x]) j r):=HN.o.1 n;clear HN;go_wp2;refine Aj Ys Ys ?_
    repeat (go_big_quiet_step (fail))
    refine wpQuiet_nil ?_;intro m;clear H G t A B;go_wp2;exact⟨⟨k+1,r,Yv,Yo,rfl,⟨by rw[E.o];exact s.o,f.trans (m.h.mono u)⟩⟩,by simp[intOf];omega⟩
  .have C:=z.o.1;rw[Zt Yv]at C;have Z:Hid (CU c j r):=C;clear C;go_wp2;go_ret;exact⟨r,rfl,Z.o,J⟩
theorem r6{a c d e f g:Value}(h:Aa w b [a,c,d,e,f,g]):(w.cell? (Zd b 0)=some a/\w.frozen? ⟨b,0,none⟩=false)/\(w.cell? (Zd b 1)=some c/\w.frozen? ⟨b,1,none⟩=false)/\(w.cell? (Zd b 2)=some d/\w.frozen? ⟨b,2,none⟩=false)/\(w.cell? (Zd b 3)=some e/\w.frozen? ⟨b,3,none⟩=false)/\(w.cell? (Zd b 4)=some f/\w.frozen? ⟨b,4,none⟩=false)/\(w.cell? (Zd b 5)=some g/\w.frozen? ⟨b,5,none⟩=false):=
 ⟨h 0 _ rfl,h 1 _ rfl,h 2 _ rfl,h 3 _ rfl,h 4 _ rfl,h 5 _ rfl⟩
def EC(a:Zk)(n c:Nat):Prop:=n<=c/\(a=none->n=0/\c=0)
theorem Ao.cap{base:Nat}{ss:Zl}(h:Ao w base (.slice a n c) ss):EC a ss.length c:=by
 rcases h with⟨e,rfl⟩|⟨g,off,cap,e,_,_,h,_⟩
 .cases e;exact⟨Zx,fun _=>⟨rfl,rfl⟩⟩
 .cases e;exact⟨h,fun e=>by cases e⟩
def Lt(w:Zh)(a:Zk):Prop:=∀p,a=some p->p.block<w.heap.size
theorem Lt.mono{b:Zh}(h:Lt w a)(c:w.heap.size<=b.heap.size):Lt b a:=fun p e=>Zr (h p e) c
theorem Lt.no:Lt w none:=fun _ e=>by cases e
theorem Ao.iz{d:Zl}(h:Ao w b (.slice a n c) d):Lt w a:=fun p e=>(h.W (g:=p.block) (by rw[e];rfl)).2
def CV(b:Nat)(x y:Zk)(n:Nat)(a:Zk):Prop:=∀p,a=some p->p.block=b\/(∃q,x=some q/\p.block=q.block)\/(∃q,y=some q/\p.block=q.block)\/n<=p.block
theorem CV.no:CV b x y n none:=fun _ e=>by cases e
theorem CV.new{g o:Nat}(h:n<=g):CV b x y n (some ⟨g,o,none⟩):=fun p e=>by cases e;exact .inr (.inr (.inr h))
theorem CV.own(h:Ao w d (.slice a k c) i)(f:n<=d):CV b x y n a:=by intro p e;subst e;exact .inr (.inr (.inr (Zm f (h.W (g:=p.block) rfl).1)))
structure LU (w w':Zh) (e:Ending) (wd now given births:Int) (P L:Value) (ks:List Kd) (ps:List Pd) (ls:List Ld) (ph top at_ ro:Int) (qs ms:Zl) (b0:Nat) (x0 y0:Zk) (zs0:List (Kd×Value)):Prop where
 o:∃(r:UR) (b c:Nat) (zs:List (Kd×Value)) (qa ma da:Zk) (qc mc dc:Nat),e=.returned (.agg #[Ze,Zg wd,Zg now,Zg given,Zg births,.slice (some ⟨b,0,none⟩) zs.length c,P,L,Zg r.K,.slice qa r.F.length qc,.slice ma r.ms.length mc,Zg r.R,Zg r.S,Zg r.ro,.slice da r.y.length dc])/\UTo ks ps ls births ph top at_ ro qs ms r/\zs.map (·.1)=r.ks/\Bf w' b 0 zs/\b<w'.heap.size/\Ab w' w'.heap.size qa r.F/\Ab w' w'.heap.size ma r.ms/\Ab w' w'.heap.size da r.y/\(CV b0 x0 y0 w.heap.size (some ⟨b,0,none⟩)/\CV b0 x0 y0 w.heap.size qa/\CV b0 x0 y0 w.heap.size ma/\CV b0 x0 y0 w.heap.size da)/\(∀z∈zs,z∈zs0)/\EC qa r.F.length qc/\EC ma r.ms.length mc/\Lt w' qa/\Lt w' ma
 low:Below w.heap.size w w'
theorem LU.from{X c:Zh}{e:Ending}{b a:Int}{P L:Value}{i:List Kd}{m:List Pd}{j:List Ld}{l f d:Int}{n k:Zl}{h:Nat}{r s:Zk}{g:List (Kd×Value)}(V:List Nat)(H:∀c,Tn V X c->LU w c e q now b a P L i m j l f d o n k h r s g)(t:Tn V X c):LU w c e q now b a P L i m j l f d o n k h r s g:=H c t
theorem NO(W:Zh)(a:Zk)(cap:Nat)(b:Zl)(h:Ab W W.heap.size a b)(C:a=none->b.length=0/\cap=0)(G:b.length<=100000000)(n:TypeId):
 ∃x g d,(Builtin.append_ #[29,29] n #[Yz W.heap.size 0 0,.slice a b.length cap]).run prog (W.alloc (.cells #[] 9))=.ok (Yz x b.length g) d/\d.ownsRow W.heap.size 9 1 (Yz x b.length g) b.length (b.map Value.string)/\Zz W d:=by
 obtain⟨q,o,t,v,y⟩:=info_parts BW;have c:(W.alloc (.cells #[] 9)).ownsRow W.heap.size 9 1 (Yz W.heap.size 0 0) 0 (([]:Zl).map Value.string):=World.ownsRow_lit (base:=W.heap.size) (e:=9) (size:=1) W #[] 0 (Zx) Yp rfl;have l:Below W.heap.size W (W.alloc (.cells #[] 9)):=Zy;cases a with
 |none=>obtain⟨z,rfl⟩:=C rfl;have B:=List.eq_nil_of_length_eq_zero z;subst B;exact⟨_,_,_,run_append_owned_none (P:=prog) (W.alloc (.cells #[] 9)) W.heap.size 29 n 9 q 1 underlying29 o _ 0 _ c,c,l⟩
 |some A=>
 obtain⟨H,d,F,m,r,E⟩:=run_append_own (P:=prog) (w:=W.alloc (.cells #[] 9)) W.heap.size 29 n 9 q Zc 1 16 underlying29 o t v y rfl Yr _ 0 _ c A b.length cap (b.map Value.string) Yu (fun j u f=>by
  rw[List.getElem?_map]at f;cases hs:b[j]? with
  |none=>rw[hs]at f;cases f
  |some s=>
   rw[hs]at f;cases f;exact(h.below l).bh A rfl j s hs) (SF b) Yp Yv Yu
 simp only[Nat.zero_add,List.map_nil,List.nil_append]at m;obtain⟨x,g,rfl⟩:=Ko m (fun e=>by have:=E.1 e;cases this.1);have i:(W.alloc (.cells #[] 9)).grownBy d (some W.heap.size):=by simpa [Value.ownBlock]using r
 exact⟨x,g,d,F,m,l.grown i Yu (fun k D=>by cases D;exact Zx)⟩
theorem RL(W:Zh)(a:Zk)(cap:Nat)(b:Zl)(h:Ab W W.heap.size a b)(j:a=none->b.length=0/\cap=0)(k:b.length<=100000000)(e:TypeId):
 ∃x d c,(Builtin.append_ #[29,29] e #[Yz W.heap.size 0 0,.slice a b.length cap]).run prog (W.alloc (.cells #[] 9))=.ok (Yz x b.length d) c/\Ao c W.heap.size (Yz x b.length d) b/\Zz W c:=by
 obtain⟨x,d,c,f,g,i⟩:=NO W a cap b h j k e;exact⟨x,d,c,f,Ao.own g,i⟩
theorem NP(o now f d:Int)(b q:Nat)(P L:Value)(i:List (Kd×Value))(n:List Pd)(m:List Ld)(M K:Zk)(pc Z:Nat)(hP:P=.slice M n.length pc)(hL:L=.slice K m.length Z)(x t r:Int)(A l:Zk)(D s:Nat)(y k:Zl)(w:Zh)(R:Bf w b 0 i)(U:b<w.heap.size)(hp:AO w w.heap.size M n)(hl:AR w w.heap.size K m)(hm:Ab w w.heap.size l k)(zA:EC l k.length s)(zE:Lt w l)(zC:n.length<=100)(zB:m.length<=200)(zN:0<=d)(zO:d<=1000000000):
 Calls prog 117 #[.agg #[Zg o,Zg now,Zg f,Zg d,Yz b i.length q,P,L],.agg (Xy 0 A y.length D l k.length s x t r)] w fun e w'=>LU w w' e o now f d P L (i.map (·.1)) n m 0 x t r y k b A l i:=by
 obtain⟨W,E⟩:∃W,W=((w.alloc (.cells #[Zg o,Zg now,Zg f,Zg d,Yz b i.length q,P,L] 27)).alloc (.cells (Xy 0 A y.length D l k.length s x t r) 78)).alloc (.cells Xw 170):=⟨_,rfl⟩;have Q:Below w.heap.size w W:=by rw[E];exact((Zy).alloc Yu _).alloc Yt _
 have Y:W.heap.size=w.heap.size+3:=by rw[E];simp
 have x2:Aa W (w.heap.size+2) Ek:=by have H:=Aa.new ((w.alloc (.cells #[Zg o,Zg now,Zg f,Zg d,Yz b i.length q,P,L] 27)).alloc (.cells (Xy 0 A y.length D l k.length s x t r) 78)) Ek 170;rw[E];simpa [Ek]using H
 have x1:Aa W (w.heap.size+1) (Xv 0 A y.length D l k.length s x t r):=by have H:=Aa.new (w.alloc (.cells #[Zg o,Zg now,Zg f,Zg d,Yz b i.length q,P,L] 27)) (Xv 0 A y.length D l k.length s x t r) 78;rw[World.size_alloc]at H;rw[E];exact Aa.below H (Zy)
 have x0:Aa W w.heap.size [Zg o,Zg now,Zg f,Zg d,Yz b i.length q,P,L]:=by have H:=Aa.new w [Zg o,Zg now,Zg f,Zg d,Yz b i.length q,P,L] 27;rw[E];exact Aa.below (Aa.below H (Zy)) (Zy)
 have HW:=Yw E;have zM:Hid (W.heap.size=w.heap.size+3):=Y;have zK:w.heap.size+3<=W.heap.size:=Yv
 clear E Y;obtain⟨j,I⟩:∃j,j=((W.setCell (Zd (w.heap.size+1) 0) (Zg 1)).setCell (Zd (w.heap.size+1) 3) (Zg d)).setCell (Zd (w.heap.size+1) 4) (Zg (d+1)):=⟨_,rfl⟩;have C:Tn [w.heap.size+1] W j:=by rw[I];exact((Bd _ _ _ _).trans (Bd _ _ _ _)).trans (Bd _ _ _ _)
 have zP:W.heap.size<=j.heap.size:=C.size;have h:Below w.heap.size w j:=Q.trans (C.below Q.size Yu);have u0:Aa j w.heap.size [Zg o,Zg now,Zg f,Zg d,Yz b i.length q,P,L]:=Aa.same x0 (C.block _ Yv Yu);have u2:Aa j (w.heap.size+2) Ek:=Aa.same x2 (C.block _ Yv Yu)
 have u1:Aa j (w.heap.size+1) (Xv 1 A y.length D l k.length s d (d+1) r):=by rw[I];exact((x1.set 0 _).set 3 _).set 4 _
 have S:=Yw I;have G:=Yw (Za u0 (Za u1 u2));have F:=Yw (Za R (Za hp (Za hl hm)));obtain⟨⟨r0,f0⟩,⟨r1,f1⟩,⟨r2,f2⟩,⟨r3,f3⟩,⟨r4,f4⟩,⟨r5,f5⟩⟩:=r6 x1;obtain⟨s3,_⟩:=x0 3 _ rfl;subst hP hL;clear I u0 u1 u2 R hp hl hm x0 x1 x2 C Q;go_enter func117,ntmps117;go_upto_region 1 with fail;rw[<-HW.o];clear HW;go_upto_region 5 with fail;rw[<-S.o];clear S r0 r1 r2 r3 r4 r5 f0 f1 f2 f3 f4 f5 s3
 obtain⟨t0,t1,t2,t3,t4,t5,t6⟩:=Hg (AS G.o.1);go_wp2_with fail;refine(Lg o now f d _ M K pc Z n m j (AO.mono (AO.below F.o.2.1 h) h.size) (AR.mono (AR.below F.o.2.2.1 h) h.size) zC zB).mono ?_;rintro e N ⟨g,c,rfl,V,u⟩;have k0:=Hg (AS (Aa.below G.o.1 u));have k1:=r6 (Aa.below G.o.2.1 u);have k2:=Ho (Aa.below G.o.2.2 u);obtain⟨i0,i1,i2,i3,i4,i5,i6⟩:=k0
 obtain⟨⟨r0,f0⟩,⟨r1,f1⟩,⟨r2,f2⟩,⟨r3,f3⟩,⟨r4,f4⟩,⟨r5,f5⟩⟩:=k1;obtain⟨⟨y0,q0⟩,⟨y1,q1⟩,⟨y2,q2⟩,⟨y3,q3⟩,⟨y4,q4⟩,⟨y5,q5⟩,⟨y6,q6⟩,⟨y7,q7⟩,⟨y8,q8⟩,⟨y9,q9⟩,⟨zF,zS⟩,⟨zG,zT⟩,⟨zH,zU⟩,⟨zI,zV⟩,zJ,zW⟩:=k2;have T:Below w.heap.size w N:=h.trans (u.mono h.size);have zR:w.heap.size+3<=N.heap.size:=by have:=u.size;omega
 have J:Hid (Ao N (j.heap.size+1) (Yz g (Cq n m).length c) (Cq n m)):=Ao.own V;clear V t0 t1 t2 t3 t4 t5 t6 u;go_wp2;refine bodyPost_ret (v:=.agg #[Ze,Zg o,Zg now,Zg f,Zg d,Yz b i.length q,.slice M n.length pc,.slice K m.length Z,Zg 1,Yz g (Cq n m).length c,.slice l k.length s,Zg d,Zg (d+1),Zg r,Zb]) (by simp[results,results117,go_sem,y0,y1,y2,y3,y4,y5,y6,y7,y8,y9,zF,zG,zH,zI,zJ]) rfl ?_
 have hT:=(Bd N (w.heap.size+1) 1 (Yz g (Cq n m).length c)).mono (V':=[w.heap.size+1,w.heap.size+2]) Yu;refine LU.from (X:=N) [w.heap.size+1,w.heap.size+2] ?_ (hT.trans ((Jr _ (w.heap.size+2) _ _ _ _ _ _ _ _ _ _ _ _ _ _ _).mono Yu));intro wf O;have B:=T.trans (O.below T.size Yu);obtain⟨a,cc,e1,hS⟩:=(J.o.I O (fun g hg e=>by have:=(J.o.W hg).1;simp at e;omega)).row;cases e1
 exact⟨⟨⟨i.map (·.1),1,d,d+1,r,Cq n m,k,[]⟩,b,q,i,_,_,none,_,_,0,rfl,.begin rfl,rfl,F.o.1.below B U,Zr U B.size,hS,F.o.2.2.2.M B,.inl rfl,⟨(fun p e=>by cases e;exact .inl rfl),CV.own J.o Yv,(fun p e=> .inr (.inr (.inl ⟨p,e,rfl⟩))),CV.no⟩,fun z R=>R,J.o.cap,zA,J.o.iz.mono O.size,zE.mono B.size⟩,B⟩
theorem OK(l f d m:Int)(j h:Zk)(k i:Nat)(a c:Zl)(w:Zh)(Q:Ab w w.heap.size j a)(P:Ab w w.heap.size h c)(Y:EC j a.length k)(X:EC h c.length i)(zA:a.length<=100000000)(Z:c.length<=100000000):
 Calls prog 134 #[.agg (Xy l j a.length k h c.length i f d m)] w fun e H=>∃x q y s,e=.returned (.agg (Xy l (some ⟨x,0,none⟩) a.length q (some ⟨y,0,none⟩) c.length s f d m))/\
  H.ownsRow w.heap.size 9 1 (Yz x a.length q) a.length (a.map Value.string)/\H.ownsRow w.heap.size 9 1 (Yz y c.length s) c.length (c.map Value.string)/\x≠y/\Zz w H:=by
 obtain⟨W,r⟩:∃W,W=((w.alloc (.cells (Xy l j a.length k h c.length i f d m) 78)).alloc (.cells Xx 78)).alloc (.cells (Xy l j a.length k h c.length i f d m) 78):=⟨_,rfl⟩;have A:Below w.heap.size w W:=by rw[r];exact((Zy).alloc Yu _).alloc Yt _
 have zC:w.heap.size+3<=W.heap.size:=by rw[r];simp
 have L:Aa W (w.heap.size+1+1) (Xv l j a.length k h c.length i f d m):=by rw[r];simpa using Aa.new ((w.alloc (.cells (Xy l j a.length k h c.length i f d m) 78)).alloc (.cells Xx 78)) (Xv l j a.length k h c.length i f d m) 78
 have R:Aa W (w.heap.size+1) Xu:=by have O:=Aa.new (w.alloc (.cells (Xy l j a.length k h c.length i f d m) 78)) Xu 78;rw[World.size_alloc]at O;rw[r];exact Aa.below O (Zy)
 have K:Aa W w.heap.size (Xv l j a.length k h c.length i f d m):=by rw[r];exact Aa.below (Aa.below (Aa.new w _ _) (Zy)) (Zy)
 obtain⟨x,q,I,G,B,n⟩:=NO W j k a (Q.M A) Y.2 zA 29;have rA:(W.alloc (.cells #[] 9)).cell? (Zd (w.heap.size) 1)=some (.slice j a.length k):=((Aa.below K (Zy)) 1 _ rfl).1;obtain⟨V,E⟩:∃V,V=I.setCell (Zd (w.heap.size+1+1) 1) (Yz x a.length q):=⟨_,rfl⟩;have zE:=n.size;have u:Tn [w.heap.size+1+1] I V:=by rw[E];exact Bd _ _ _ _
 have zG:=u.size;have z:Below w.heap.size w I:=A.trans (n.mono A.size);have t:Below w.heap.size w V:=z.trans (u.below z.size Yt);have S:Aa V w.heap.size (Xv l j a.length k h c.length i f d m):=Aa.same (Aa.below K n) (u.block _ Yv Yt);have T:Aa V (w.heap.size+1) Xu:=Aa.same (Aa.below R n) (u.block _ Yv Yu)
 have U:Aa V (w.heap.size+1+1) (Xv l (some ⟨x,0,none⟩) a.length q h c.length i f d m):=by rw[E];exact(Aa.below L n).set 1 _
 have lx:=Ad B (g:=x) rfl;have F:=NJ B u (fun b hb=>by simp at hb;omega);obtain⟨y,s,J,zB,C,o⟩:=NO V h i c (P.M t) X.2 Z 29;have rB:(V.alloc (.cells #[] 9)).cell? (Zd (w.heap.size) 2)=some (.slice h c.length i):=((Aa.below S (Zy)) 2 _ rfl).1;have ly:=Ad C (g:=y) rfl;obtain⟨⟨k0,g0⟩,⟨k1,g1⟩,⟨k2,g2⟩,⟨k3,g3⟩,⟨k4,g4⟩,⟨k5,g5⟩⟩:=r6 (Aa.below T o)
 obtain⟨⟨n0,m0⟩,⟨n1,m1⟩,⟨n2,m2⟩,⟨n3,m3⟩,⟨n4,m4⟩,⟨n5,m5⟩⟩:=r6 (Aa.below U o);obtain⟨_,⟨p1,q1⟩,_⟩:=r6 (Aa.below L n);have zF:=o.size;have D:Hid (J.ownsRow (w.heap.size+3) 9 1 (Yz x a.length q) a.length (a.map Value.string)/\J.ownsRow (w.heap.size+3) 9 1 (Yz y c.length s) c.length (c.map Value.string)/\x≠y/\Zz w J):=⟨(Ap F o).mono zC,C.mono Yv,Yv,t.trans (o.mono t.size)⟩;have N:=Yw r
 have M:=Yw E;clear r E K R L S T U F B C n o u t z Q P;go_enter func134,ntmps134;go_upto_region 2 with fail;rw[<-N.o];clear N;go_upto_region 3 with(at_builtin;refine wpList_append_run rfl _ _ 29 29 rfl rfl rfl G ?_);rw[<-M.o];clear M rA p1 q1 G;go_wp2_with (first
  |(at_builtin;refine wpList_append_run rfl _ _ 29 29 rfl rfl rfl zB ?_)
  |go_in)
 refine bodyPost_ret (v:=.agg (Xy l (some ⟨x,0,none⟩) a.length q (some ⟨y,0,none⟩) c.length s f d m)) (by simp[results,results134,go_sem,k0,k1,k2,k3,k4,k5]) rfl ⟨x,q,y,s,rfl,?_,?_,D.o.2.2.1,?_⟩
 .refine World.ownsRow.mono ?_ (show w.heap.size<=w.heap.size+3 by omega)
  iterate 7 (refine ownsRow_setCell_below ?_ Yu _)
  exact D.o.1
 .refine World.ownsRow.mono ?_ (show w.heap.size<=w.heap.size+3 by omega)
  iterate 7 (refine ownsRow_setCell_below ?_ Yu _)
  exact D.o.2.1
 .iterate 7 (refine Below.setCell ?_ Yn _)
  exact D.o.2.2.2
theorem Ab.cells{g:Nat}{c:Zl}(h:Ab w B (some ⟨g,0,none⟩) c):∀j s,c[j]?=some s->w.cell? ((⟨g,0,none⟩:Addr).add j)=some (.string s):=by
 intro j s a;rcases h with h|⟨b,off,d,_,e⟩
 .subst h;simp at a
 .cases d;have:=e j s a;rw[Go.WideShapes.add_plain];simpa using this
theorem Ab.take{c:Zl}(h:Ab w B a c)(K:Nat):Ab w B a (c.take K):=by
 rcases h with h|⟨q,off,d,e,f⟩
 .exact .inl (by simp[h])
 .refine .inr ⟨q,off,d,e,fun i s b=>f i s ?_⟩;have g:=(Zw b).1;simp at g;rw[List.getElem?_take_of_lt Yv]at b;exact b
structure Ke (w V:Zh) (u v:Value):Prop where
 b0:V.cell? (Zd (w.heap.size) 0)=some u
 b1:V.cell? (Zd (w.heap.size) 1)=some v
 r0:V.cell? (Zd (w.heap.size+1) 0)=some Zb
 r1:V.cell? (Zd (w.heap.size+1) 1)=some Zb
 f:∀o,V.frozen? ⟨w.heap.size+1,o,none⟩=false
 bt:Below w.heap.size w V
 le:w.heap.size+2<=V.heap.size
theorem Ke.alloc(h:Ke w V u v)(o:Obj):Ke w (V.alloc o) u v:=by
 have a:=(Below.refl V.heap.size V).alloc (Zx) o;have:=h.le;exact⟨(a.cell (p:=⟨w.heap.size,0,none⟩) Yt).trans h.b0,(a.cell (p:=⟨w.heap.size,1,none⟩) Yt).trans h.b1,(a.cell (p:=⟨w.heap.size+1,0,none⟩) Yt).trans h.r0,(a.cell (p:=⟨w.heap.size+1,1,none⟩) Yt).trans h.r1,
  fun o=>(a.frozen (p:=⟨w.heap.size+1,o,none⟩) Yt).trans (h.f o),h.bt.alloc h.bt.size o,Yt⟩
theorem Ke.drew(h:Ke w V u v):Ke w V.drew u v:=⟨h.b0,h.b1,h.r0,h.r1,h.f,h.bt.drew,h.le⟩
theorem Ke.grown{b:Zh}{q:Nat}(h:Ke w V u v)(a:V.grownBy b (some q))(d:w.heap.size+2<=q):Ke w b u v:=by
 have:=h.le;have:=a.size;exact⟨a.cell h.b0 Yt,a.cell h.b1 Yt,a.cell h.r0 Yt,a.cell h.r1 Yt,
  fun o=>(a.frozen_far ⟨w.heap.size+1,o,none⟩ Yt Yt).trans (h.f o),h.bt.grown a h.bt.size (fun k c=>by cases c;omega),Yv⟩
theorem MH(z A:Zk)(c d:Nat)(h i:Zl)(w:Zh)(hr:Ab w w.heap.size z h)(Q:Ab w w.heap.size A i)(Y:z=none->h.length=0/\c=0)(Z:A=none->i.length=0/\d=0)(hl:h.length<=1048576)(zH:i.length<=1048576):
 Calls prog 87 #[.agg #[.slice z h.length c,.slice A i.length d]] w fun e w'=>∃x cx y cy,e=.returned (.agg #[Yz x h.length cx,Yz y i.length cy])/\
  w'.ownsRow w.heap.size 9 1 (Yz x h.length cx) h.length (h.map Value.string)/\w'.ownsRow w.heap.size 9 1 (Yz y i.length cy) i.length (i.map Value.string)/\x≠y/\Zz w w':=by
 obtain⟨R,N,B,C,D⟩:=info_parts BW;have zB:Below w.heap.size w ((w.alloc (.cells #[.slice z h.length c,.slice A i.length d] 76)).alloc (.cells #[Zb,Zb] 76)):=(Zy).alloc Yu _;obtain⟨W,hW⟩:∃W,W=(w.alloc (.cells #[.slice z h.length c,.slice A i.length d] 76)).alloc (.cells #[Zb,Zb] 76):=⟨_,rfl⟩;have P:Ke w W (.slice z h.length c) (.slice A i.length d):=by rw[hW];exact⟨by simp[go_sem],by simp[go_sem],by simp[go_sem],by simp[go_sem],fun o=>by simp[go_sem],zB,Yu⟩
 have HW:=Yw hW;have t:=Yw P;go_enter func87,ntmps87;go_wp2_with fail;rw[<-HW.o];obtain⟨b0,b1,r0,r1,f0,_,zI⟩:=P;obtain⟨a0,a1,_,_,_,_,_⟩:=t.o.alloc (.cells #[] 9);obtain⟨zF,zG,_,_,_,_,_⟩:=(t.o.alloc (.cells #[] 9)).alloc (.cells #[] 9);clear hW zB HW
 have oA:(W.alloc (.cells #[] 9)).drew.ownsRow (w.heap.size+2) 9 1 (Yz W.heap.size 0 0) 0 (([]:Zl).map Value.string):=World.ownsRow_lit W #[] 0 Yv Yp rfl
 have H:((W.alloc (.cells #[] 9)).alloc (.cells #[] 9)).drew.ownsRow (w.heap.size+2) 9 1 (Yz W.heap.size 0 0) 0 (([]:Zl).map Value.string):=World.ownsRow.alloc (World.ownsRow_lit W #[] 0 Yv Yp rfl) _;have I:((W.alloc (.cells #[] 9)).alloc (.cells #[] 9)).drew.ownsRow (w.heap.size+2) 9 1 (Yz (W.heap.size+1) 0 0) 0 (([]:Zl).map Value.string):=by have h1:=World.ownsRow_lit (base:=w.heap.size+2) (e:=9) (size:=1) (W.alloc (.cells #[] 9)) #[] 0 Yt Yp rfl;rw[World.size_alloc]at h1;exact h1
 have zC:=(hr.below (t.o.alloc (.cells #[] 9)).drew.bt).bh;have zE:=(Q.below (t.o.alloc (.cells #[] 9)).drew.bt).bh;have G:=(hr.below ((t.o.alloc (.cells #[] 9)).alloc (.cells #[] 9)).drew.bt).bh;have zA:=(Q.below ((t.o.alloc (.cells #[] 9)).alloc (.cells #[] 9)).drew.bt).bh
 go_region_law (first
  |(guard_target=if Region.wanted _ _=true then Oper.wp _ _ _ (W.alloc (.cells #[] 9)).drew _ _ else _;refine Av (W.alloc (.cells #[] 9)).drew rfl (.tmp 3) (.tmp 5) 29 rfl (w.heap.size+2) 9 R Zc 16 underlying29 N B C D rfl (W.heap.size) 0 0 [] rfl oA z h.length c h rfl rfl Y zC Yp Yv Ym ?_;intro S F K s k l L;simp only[Nat.zero_add,List.nil_append]at s;have J:=k.size;simp at J l;have j:=(t.o.alloc _).drew.grown k Yv;have c0:=j.b0;have c1:=j.b1;have d0:=(j.alloc (.cells #[] 9)).b0;have d1:=(j.alloc (.cells #[] 9)).b1;have T:=J)
  |(guard_target=if Region.wanted _ _=true then Oper.wp _ _ _ ((W.alloc (.cells #[] 9)).alloc (.cells #[] 9)).drew _ _ else _;refine Av ((W.alloc (.cells #[] 9)).alloc (.cells #[] 9)).drew rfl (.tmp 3) (.tmp 5) 29 rfl (w.heap.size+2) 9 R Zc 16 underlying29 N B C D rfl (W.heap.size) 0 0 [] rfl H z h.length c h rfl rfl Y G Yp Yv Ym ?_;intro S F K s k l L;simp only[Nat.zero_add,List.nil_append]at s;have J:=k.size;simp at J l;have j:=((t.o.alloc _).alloc _).drew.grown k Yv;have c0:=j.b0;have c1:=j.b1;have q:=I.kept k (.inr (by simp[Value.ownBlock]));have U:=J)
  |(guard_target=if Region.wanted _ _=true then Oper.wp _ _ _ ((W.alloc (.cells #[] 9)).alloc (.cells #[] 9)).drew _ _ else _;refine Av ((W.alloc (.cells #[] 9)).alloc (.cells #[] 9)).drew rfl (.tmp 3) (.tmp 5) 29 rfl (w.heap.size+2) 9 R Zc 16 underlying29 N B C D rfl (W.heap.size+1) 0 0 [] rfl I z h.length c h rfl rfl Y G Yp Yv Ym ?_;intro S F K s k l L;simp only[Nat.zero_add,List.nil_append]at s;have J:=k.size;simp at J l;have j:=((t.o.alloc _).alloc _).drew.grown k Yv;have c0:=j.b0;have c1:=j.b1;have q:=H.kept k (.inr (by simp[Value.ownBlock]));have V:=J)
  |(have r:=T;refine Av (K.alloc (.cells #[] 9)) rfl (.tmp 7) (.tmp 9) 29 rfl (w.heap.size+2) 9 R Zc 16 underlying29 N B C D rfl (K.heap.size) 0 0 [] rfl (World.ownsRow_lit K #[] 0 Yv Yp rfl) A i.length d i rfl rfl Z (Q.below (j.alloc _).bt).bh Yp Yv Ym ?_;intro E n w9 f b g u;simp only[Nat.zero_add,List.nil_append]at f;have X:=b.size;(try simp at X g);have F6:=(s.alloc _).kept b (.inr (by simp[Value.ownBlock];omega));have M:=f;have O:S≠E:=Yv;have m:=(j.alloc _).grown b Yv;have y0:=m.r0;have y1:=m.r1;have yf:=m.f)
  |(have r:=U;refine Av K rfl (.tmp 7) (.tmp 9) 29 rfl (w.heap.size+2) 9 R Zc 16 underlying29 N B C D rfl (W.heap.size+1) 0 0 [] rfl q A i.length d i rfl rfl Z (Q.below j.bt).bh Yp Yv Ym ?_;intro E n w9 f b g u;simp only[Nat.zero_add,List.nil_append]at f;have X:=b.size;(try simp at X g);have F6:=s.kept b (.inr (by simp[Value.ownBlock];omega));have M:=f;have O:S≠E:=Yv;have m:=j.grown b Yv;have y0:=m.r0;have y1:=m.r1;have yf:=m.f)
  |(have r:=V;refine Av K rfl (.tmp 7) (.tmp 9) 29 rfl (w.heap.size+2) 9 R Zc 16 underlying29 N B C D rfl (W.heap.size) 0 0 [] rfl q A i.length d i rfl rfl Z (Q.below j.bt).bh Yp Yv Ym ?_;intro E n w9 f b g u;simp only[Nat.zero_add,List.nil_append]at f;have X:=b.size;(try simp at X g);have F6:=s.kept b (.inr (by simp[Value.ownBlock];omega));have M:=f;have O:S≠E:=Yv;have m:=j.grown b Yv;have y0:=m.r0;have y1:=m.r1;have yf:=m.f))
 all_goals
  have HF:=Yw (Zn F6 (Zn M (Zn O m)));clear m;clear F6 M O oA H I zC zE G zA hr Q t;go_wp2;refine bodyPost_ret (v:=.agg #[Yz S h.length F,Yz E i.length n]) (by simp[results,results87,go_sem,y0,y1]) rfl ⟨_,_,_,_,rfl,?_,?_,HF.o.2.2.1,?_⟩
  .exact(ownsRow_setCell_below (ownsRow_setCell_below HF.o.1 (a:=⟨w.heap.size+1,0,none⟩) Yu _) (a:=⟨w.heap.size+1,1,none⟩) Yu _).mono Yv
  .exact(ownsRow_setCell_below (ownsRow_setCell_below HF.o.2.1 (a:=⟨w.heap.size+1,0,none⟩) Yu _) (a:=⟨w.heap.size+1,1,none⟩) Yu _).mono Yv
  .exact(HF.o.2.2.2.bt.setCell (p:=⟨w.heap.size+1,0,none⟩) Yu _).setCell (p:=⟨w.heap.size+1,1,none⟩) Yu _
abbrev CW:String:= "l7_vault.go:108"
abbrev Az:String:= "l7_vault.go:163"
abbrev Cx:String:= "l7_vault.go:18"
abbrev Bp:String:= "l7_vault.go:65"
abbrev Bw:String:= "l7_vault.go:78"
abbrev AV:String:= "l7_vault.go:85"
abbrev AN:String:= "l7_vault.go:94"
abbrev Ak(n:Nat):Edge:=⟨n,.phase⟩
abbrev AA(n:Nat):Edge:=⟨n,.data⟩
theorem BJ{d:Array Oper}{Q:Exit->Act->Zh->Prop}{S:Zh->Prop}(i:Nat)(g:Oper)(v:Value){b:Array Bool}{a:Act}(k:S w)(h:wpAnyH P f d Q S e (b.setIfInBounds i true) (a.put g.dst v) w)(m:d[i]?=some g:=by exact rfl)(o:Region.noSelect d=true:=by kernel_rfl)(l:Region.free f d b i=true:=by kernel_rfl)(n:(Region.ready f d b).contains i=true:=by kernel_rfl)(j:∀c a w,Q (.panic c) (a.put g.dst v) w->Q (.panic c) a w:=by exact fun _ _ _ h=>h)(q:YieldsIf P d S g v a:=by exact Or.inl ⟨Yq,fun _ _=>by go_simp⟩):wpAnyH P f d Q S (e+1) b a w:=
 wpAnyH_take m o l n j q k h
theorem Pp{d:Array Oper}{Q:Exit->Act->Zh->Prop}{S:Zh->Prop}(i:Nat)(g:Oper){b:Array Bool}{a:Act}(k:S w)(h:wpAnyH P f d Q S e (b.setIfInBounds i true) (a.put g.dst undef) w)(m:d[i]?=some g:=by exact rfl)(o:Region.noSelect d=true:=by kernel_rfl)(l:Region.free f d b i=true:=by kernel_rfl)(n:(Region.ready f d b).contains i=true:=by kernel_rfl)(j:∀c a w,Q (.panic c) (a.put g.dst undef) w->Q (.panic c) a w:=by exact fun _ _ _ h=>h)(q:YieldsIf P d S g undef a:=by exact Or.inr ⟨Yq,rfl⟩):wpAnyH P f d Q S (e+1) b a w:=
 wpAnyH_take m o l n j q k h
theorem ES{d:Array Oper}{Q:Exit->Act->Zh->Prop}{S:Zh->Prop}(i:Nat)(g:Oper)(v:Value){b:Array Bool}{a:Act}(q:YieldsIf P d S g v a)(k:S w)(h:wpAnyH P f d Q S e (b.setIfInBounds i true) (a.put g.dst v) w)(m:d[i]?=some g:=by exact rfl)(o:Region.noSelect d=true:=by kernel_rfl)(l:Region.free f d b i=true:=by kernel_rfl)(n:(Region.ready f d b).contains i=true:=by kernel_rfl)(j:∀c a w,Q (.panic c) (a.put g.dst v) w->Q (.panic c) a w:=by exact fun _ _ _ h=>h):wpAnyH P f d Q S (e+1) b a w:=
 wpAnyH_take m o l n j q k h
theorem Cu{c:Array Oper}{Q:Exit->Act->Zh->Prop}{S:Zh->Prop}(i:Nat)(o:Oper){b:Array Bool}{a:Act}(h:∀e:Act->Zh->Prop,Shut (∀a w,S w->(S w->wpAnyH P f c Q S d (b.setIfInBounds i true) a w)->e a w)->if Region.wanted o (yielded c a.tmps)=true then Oper.wp P o a w e Q else e (a.put o.dst undef) w)(g:c[i]?=some o:=by exact rfl)(j:Region.ready f c b=[i]:=by kernel_rfl):wpAnyH P f c Q S (d+1) b a w:=
 wpAnyH_ready j Yu (AllReadyH.cons g h AllReadyH.nil)
end Go.Proofs.YtmjlkgpekcnacaaGreat
