import Derived.Test.YtfmeclmjdpbacaaGreatDoorX04
import Derived.WalkLawsBesides
import Derived.Defers
import Derived.Recover
import Derived.Deep.MidRow
import Derived.Laws.ResultCell
set_option maxRecDepth 100000
set_option maxHeartbeats 16000000
open Option renaming some->ai,none->an
open Bool renaming true->ay,false->ba
open Go.RowKit renaming Below->bg
open Decidable renaming decide->bq
open Go.Obj renaming cells->bs
open Go.Value renaming agg->ca,bool->ec,ownBlock->ef
open Or renaming inl->cr,inr->ct
open List renaming length->ed
open Go.World renaming cell?->eh,frozen?->ei,ownsRow->ej,grownBy->ek,setCell->el
namespace Go.Proofs.YtfmeclmjdpbacaaGreatDoor
open ChangeShapes WideShapes ChangeAt RowKit _root_.Go.Proofs.Tryz List World Value
variable{m n k b g d R v B:Nat}{a c l e q f u:Int}{w X:Zh}{V U:List Nat}{p:Prop}{P L:Value}{h i:C5}{j:C6}{s:Zi}{t:C7}
theorem Wc{a b c:Zh}(h:bg m a b)(g:bg n b c)(i:k<=m)(j:k<=n):bg k a c:=(h.ah i).ag (g.ah j)
theorem Wd{a b:Zh}{o:Obj}(h:bg k a b)(i:k<=b.1.size):bg k a (b.alloc o):=h.alloc i o
theorem We{a b:Zh}(h:bg k a b):bg k a b.drew:=h.drew
theorem Acy{l:Zj}(h:Aa w b l)(g:bg k w X)(i:b<k):Aa X b l:=λj v a=>⟨(g.cell (p:=⟨b,j,an⟩) i).ag (h j v a).1,(g.frozen (p:=⟨b,j,an⟩) i).ag (h j v a).2⟩
theorem Acz{l:Zj}(h:Aa w b l)(g:Tn V w X)(i:b<w.1.size)(j:b∉V):Aa X b l:=Aa.same h (g.block _ i j)
theorem Ada{a b c:Zh}(h:Tn V a b)(g:Tn V b c):Tn V a c:=h.ag g
theorem Adb{a b c:Zh}(h:bg k a b)(g:Tn V b c)(i:k<=b.1.size)(j:∀v∈V,k<=v):bg k a c:=h.ag (g.A i j)
theorem gT(h:p:=by simp;omega):p:=h
theorem gA(h:p:=by simp_all):p:=h
theorem gG(h:p:=by grind):p:=h
theorem gB(h:p:=by grind [->Below.size,Wc,Wd,We,Below.refl,Aq]):p:=h
theorem gC(h:p:=by grind [->Below.size,->Tn.size,Wc,Wd,We,Below.refl,Aq,Acy,Acz,Ada,Adb]):p:=h
theorem gH(h:p:=by grind [Hid]):p:=h
theorem gD(h:p:=by grind [Hid,->Below.size,->Tn.size,Wc,Wd,We,Below.refl,Aq,Acy,Acz,Ada,Adb]):p:=h
theorem hO(h:p:=by omega):Hid p:=h
theorem hS(h:p:=by simp):Hid p:=h
theorem hT(h:p:=by simp;omega):Hid p:=h
theorem Dr.dj{O:Dg}{h:Int}{k:C7}(f:Dr w g d m O P L l h e c i k j):∀b∈vB d m O P L,b<w.1.size:=by
 intro b a;unfold vB at a;simp only[Bh,A5,A6]at a;rcases a with rfl|rfl|a|a|a
 .exact f.box.lt
 .exact(f.map.choose_spec.choose_spec.2.1).lt
 .exact(Ab f.ord a).2
 .exact(Ab f.co a).2
 exact(Ab f.di a).2
def bk(c:Int)(a b:Zi):Value:=.iface 194 (ca #[Zg c,.string a,.string b])
theorem NP{c:Nat}{O:Dg}{o b:Int}{j:C7}{i:C6}(g:Dr w c d m O P L q o b a h j i)(f:Dv q h)(A:ed j<=100)(z:ed i<=200)(y:As h s)(r:((∃p∈j,p.sum=s)\/∃l∈i,l.sum=s)\/∃k∈h,s∈k.C):
 D4 183 #[Yy d,C0 s] w λe n=>e=.panicked [{v:=bk 6 ⟨#[]⟩ ⟨#[]⟩,recovered:=ba}]/\Zz w n:=by
 have u:=Yw g;clear g;delta D4;go_in;go_wp2_with fail;refine(EU u f.sz y).ah ?_;rintro e B ⟨rfl,n⟩;have t:=Yw (Dr.A u n);go_wp2_with fail;refine(Jb s t f.nd f.sz f.C f.len A z).ah ?_;rintro e D ⟨C,rfl,g,x⟩;obtain rfl:=g.2 r;clear g t;go_wp2;exact⟨rfl,rfl,n.ag (x.ah n.size)⟩
def z12:Zj:=[Ze,Ze,Ze,Ze,Ze,Zb,Zb,Zb,Zc,Ze,Zc,Zc]
theorem Br(h:Aa w b z12):(eh w (Zd b 0)=ai Ze/\ei w ⟨b,0,an⟩=ba)/\(eh w (Zd b 1)=ai Ze/\ei w ⟨b,1,an⟩=ba)/\(eh w (Zd b 2)=ai Ze/\ei w ⟨b,2,an⟩=ba)/\(eh w (Zd b 3)=ai Ze/\ei w ⟨b,3,an⟩=ba)/\(eh w (Zd b 4)=ai Ze/\ei w ⟨b,4,an⟩=ba)/\(eh w (Zd b 5)=ai Zb/\ei w ⟨b,5,an⟩=ba)/\(eh w (Zd b 6)=ai Zb/\ei w ⟨b,6,an⟩=ba)/\(eh w (Zd b 7)=ai Zb/\ei w ⟨b,7,an⟩=ba)/\(eh w (Zd b 8)=ai Zc/\ei w ⟨b,8,an⟩=ba)/\(eh w (Zd b 9)=ai Ze/\ei w ⟨b,9,an⟩=ba)/\(eh w (Zd b 10)=ai Zc/\ei w ⟨b,10,an⟩=ba)/\(eh w (Zd b 11)=ai Zc/\ei w ⟨b,11,an⟩=ba):=
 ⟨h 0 _ rfl,h 1 _ rfl,h 2 _ rfl,h 3 _ rfl,h 4 _ rfl,h 5 _ rfl,h 6 _ rfl,h 7 _ rfl,h 8 _ rfl,h 9 _ rfl,h 10 _ rfl,h 11 _ rfl⟩
theorem Bw(w:Zh)(R:Nat)(c d e f g i k l m n a b:Dg):Tn [R] w (el (el (el (el (el (el (el (el (el (el (el (el w (Zd R 0) c) (Zd R 1) d) (Zd R 2) e) (Zd R 3) f) (Zd R 4) g) (Zd R 5) i) (Zd R 6) k) (Zd R 7) l) (Zd R 8) m) (Zd R 9) n) (Zd R 10) a) (Zd R 11) b):=
 have h:∀(x:Zh) (j:Nat) (v:Dg),Tn [R] x (el x (Zd R j) v):=λx j v=>Tn.set x R j v Yu
 (((((((((((h w 0 c).ag (h _ 1 d)).ag (h _ 2 e)).ag (h _ 3 f)).ag (h _ 4 g)).ag (h _ 5 i)).ag (h _ 6 k)).ag (h _ 7 l)).ag (h _ 8 m)).ag (h _ 9 n)).ag (h _ 10 a)).ag (h _ 11 b)
theorem Tn.fresh{f e:Zh}(a:Tn V w f)(c:Tn [R] f e)(h:w.1.size<=R):Tn V w e:=
 ⟨c.os.ag a.os,c.tape.ag a.tape,c.output.ag a.output,Zm a.size c.size,λb d g=>(c.block b (Zr d a.size) Yt).ag (a.block b d g)⟩
def ID(s:Zi):Array Value:= #[Zg 7,.string s,Zc,Ze,Zc,Zb]
theorem Ng{c:Nat}{O:Dg}{x z:Int}{o:C5}{u:C7}{t:C6}(j:Dr w c d m O P L x z f a o u t)(M:Dv x o)(Y:ed u<=100)(X:ed t<=200)(N:As o s)(r:¬(((∃p∈u,p.sum=s)\/∃l∈t,l.sum=s)\/∃k∈o,s∈k.C)):
 D4 136 #[Yy d,ca (ID s)] w λe g=>e=C1 (ca z12.toArray)/\∃q,Dr g c d m q P L x z f a (Ch o s) u t/\ef q=ef O/\Tn (vB d m O P L) w g/\YV w g c d m O q P L x a o s:=by
 have⟨W,g⟩:=Ag (((w.alloc (bs #[Zg 7,C0 s,Zc,Ze,Zc,Zb] 117)).alloc (bs Yd 81)).alloc (bs Yd 81));have C:=(Bq g).1;have D:=(Bq g).2.1;have T:eh W (Zd (w.1.size) 0)=ai (Zg 7):=Ff;have V:eh W (Zd (w.1.size) 1)=ai (C0 s):=Ff;have zR:Aa W (w.1.size+1) z12:=by have n:=Aa.new (w.alloc (bs #[Zg 7,C0 s,Zc,Ze,Zc,Zb] 117)) z12 81;rw[Aq]at n;rw[g];exact Aa.A (v:=Ze) n (Zy)
 have F:Aa W (w.1.size+2) z12:=by have n:=Aa.new ((w.alloc (bs #[Zg 7,C0 s,Zc,Ze,Zc,Zb] 117)).alloc (bs z12.toArray 81)) z12 81;rw[Aq,Aq]at n;rw[g];exact n
 have J:=Yw (j.A C);have A:Hid (∀b∈vB d m O P L,b<w.1.size):=by
  intro b i;unfold vB at i;simp only[Bh,A5,A6]at i;rcases i with rfl|rfl|i|i|i
  .exact j.box.lt
  .exact(j.map.choose_spec.choose_spec.2.1).lt
  .exact(Ab j.ord i).2
  .exact(Ab j.co i).2
  exact(Ab j.di i).2
 have S:Hid (W.1[w.1.size+1]?=ai (bs Yd 81)):=by show _=_;rw[g,Below.heap_alloc _ _ _ Yu];have:=heap_alloc_new (w.alloc (bs #[Zg 7,C0 s,Zc,Ze,Zc,Zb] 117)) (bs Yd 81);rw[Aq]at this;exact this
 have I:c<=w.1.size:=by have:=j.bd;have:=j.box.lt;omega
 obtain⟨E,K,y⟩:=Yw g,Yw (Zn zR F),Yw D;clear g j zR F D;unfold ID;delta D4;go_in;go_upto_region 2 with fail;rw[<-E.o];clear E;go_wp2_with fail;refine(PH J M Y X N r).ah ?_;rintro e D ⟨rfl,q,E,hO,j,F⟩;have H:=Aa.same K.1 (j.block _ (C8 y.o) (λh=>C8 (A _ h)));obtain⟨G,⟨Z,q0⟩,⟨k,q1⟩,⟨l,q2⟩,⟨p,q3⟩,⟨y4,q4⟩,⟨y5,q5⟩,⟨y6,q6⟩,⟨y7,q7⟩,⟨y8,q8⟩,⟨y9,q9⟩,⟨Q,zA⟩,R,zB⟩:=Aa.same K.2 (j.block _ (C8 y.o) (λh=>C8 (A _ h))),Br H;have⟨⟨v0,_⟩,⟨v1,_⟩,⟨v2,_⟩,⟨v3,_⟩,⟨v4,_⟩,⟨v5,_⟩,⟨v6,_⟩,⟨v7,_⟩,⟨v8,_⟩,⟨v9,_⟩,⟨zC,_⟩,zE,_⟩:=Br G;have g:=Yw (Zn E (Zn hO (Zn j F)));clear E hO j F H G T V J;go_wp2;have G:w.1.size+1∉vB d m q P L:=λh=>by
  have:w.1.size+1∈vB d m O P L:=by unfold vB at h |-;rw[g.2.1]at h;exact h
  have:=A _ this;omega
 have F:∀j E,D.1[w.1.size+1]?≠ai (bs j 9 E):=λj E e=>by have n:=g.2.2.1.block (w.1.size+1) (C8 y.o) (λh=>C8 (A _ h));rw[e,S.o]at n;simp at n
 refine Co (ca z12.toArray) (by simp[results,results136,go_sem,Z,k,l,p,y4,y5,y6,y7,y8,y9,Q,R,z12]) ⟨rfl,q,Dr.apart g.1 (Bw D _ _ _ _ _ _ _ _ _ _ _ _ _) Yv G F,g.2.1,Tn.fresh ((Tn.of C).ag g.2.2.1) (Bw D _ _ _ _ _ _ _ _ _ _ _ _ _) Yv,λB j E=>(g.2.2.2 B (Zm j C.size) (E.O (U:=[]) (Tn.of C) Yu)).O (Bw D _ _ _ _ _ _ _ _ _ _ _ _ _) Yt⟩
theorem Mu{c:Nat}{O:Dg}{n b:Int}{g:C5}{i:C7}{h:C6}(t:Dr w c d m O P L q n b a g i h)(u:Dv q g)(A:ed i<=100)(z:ed h<=200)(x:As g s)(j:((∃p∈i,p.sum=s)\/∃l∈h,l.sum=s)\/∃k∈g,s∈k.C):
 D4 136 #[Yy d,ca (ID s)] w λe f=>e=.panicked [{v:=bk 6 ⟨#[]⟩ ⟨#[]⟩,recovered:=ba}]/\Zz w f:=by
 have⟨W,f⟩:=Ag (((w.alloc (bs #[Zg 7,C0 s,Zc,Ze,Zc,Zb] 117)).alloc (bs Yd 81)).alloc (bs Yd 81));have o:=(Bq f).1;have B:eh W (Zd (w.1.size) 0)=ai (Zg 7):=I7;have C:eh W (Zd (w.1.size) 1)=ai (C0 s):=I7;have y:=Yw (t.A o);have r:=Yw f;clear f t;unfold ID;delta D4;go_in;go_upto_region 2 with fail;rw[<-r.o];clear r;go_wp2_with fail;refine(NP y u A z x j).ah ?_;rintro e r ⟨rfl,f⟩;exact⟨rfl,rfl,o.ag (f.ah o.size)⟩
theorem Mv(p:Addr)(w:Zh):
 CallsD prog 135 #[.pointer (ai p)] .returning w λe a b=>e=C1 (.tuple #[])/\a=.returning/\b=w:=by
 have a:∀w:Zh,(binOp BinOp.eql 20 .nilIface .nilIface).run prog w=.ok (ec ay) w:=λ_=>Yr;refine callsD_of_wpS func135 rfl λc₀ cs hu=> ?_;apply wpS_seq;apply wpS_region;simp[wpOpsS,go_sem,recoverD,hu,ntmps135,Exit.thenS];refine wpS_of_wp ?_;change Code.wp prog _ _ {tmps:= #[pointer (ai p),undef,undef,undef,nilIface,undef,undef,undef,undef,undef,undef,undef,undef,undef,undef,undef,undef],defers:=[]} w;go_wp2;cases c₀;simp_all [bodyPostS,results,results135]
theorem YW(h:Aa w b z12)(d e f g i j k l m n a c:Dg):Aa (el (el (el (el (el (el (el (el (el (el (el (el w (Zd b 0) d) (Zd b 1) e) (Zd b 2) f) (Zd b 3) g) (Zd b 4) i) (Zd b 5) j) (Zd b 6) k) (Zd b 7) l) (Zd b 8) m) (Zd b 9) n) (Zd b 10) a) (Zd b 11) c) b [d,e,f,g,i,j,k,l,m,n,a,c]:=
 ((((((((((((h.set 0 d).set 1 e).set 2 f).set 3 g).set 4 i).set 5 j).set 6 k).set 7 l).set 8 m).set 9 n).set 10 a).set 11 c)
def Cp(c:Int)(a b:Zi):Zj:=[Zg c,Ze,Ze,Ze,Ze,Zb,Zb,Zb,Zc,Ze,.string a,.string b]
theorem Lm(c:Int)(a b:Zi)(d:Aa w R z12):
 CallsD prog 135 #[Yy R] (.panicking [{v:=bk c a b,recovered:=ba}]) w λe g f=>e=C1 (.tuple #[])/\g=.panicking [{v:=bk c a b,recovered:=ay}]/\Aa f R (Cp c a b)/\Tn [R] w f:=by
 have g:∀w:Zh,(binOp BinOp.eql 20 (.iface 194 (ca #[Zg c,C0 a,C0 b])) .nilIface).run prog w=.ok (ec ba) w:=λ_=>by first|rfl|kernel_rfl
 have j:∀w:Zh,(Instr.typeAssert (.iface 194 (ca #[Zg c,C0 a,C0 b])) 20 194 ay).run prog w=.ok (.tuple #[ca #[Zg c,C0 a,C0 b],ec ay]) w:=λ_=>by first|rfl|kernel_rfl
 have⟨⟨A,o⟩,⟨B,p⟩,⟨C,q⟩,⟨D,r⟩,⟨E,s⟩,⟨F,t⟩,⟨G,u⟩,⟨H,x⟩,⟨I,y⟩,⟨J,z⟩,⟨m,k⟩,n,l⟩:=Br d;have h:=Aa.lt (v:=Ze) d;have i:¬w.1.size=R:=Yv;have f:¬R=w.1.size:=Yv;unfold bk;refine callsD_of_wpS func135 rfl λc₀ cs hu=> ?_;apply wpS_seq;apply wpS_region;simp[wpOpsS,go_sem,recoverD,hu,ntmps135,Exit.thenS];refine wpS_of_wp ?_;change Code.wp prog _ _ {tmps:= #[Yy R,undef,undef,undef,.iface 194 (ca #[Zg c,C0 a,C0 b]),undef,undef,undef,undef,undef,undef,undef,undef,undef,undef,undef,undef],defers:=[]} w;go_wp2;simp[bodyPostS,results,results135];exact⟨Aa.A (v:=Zg c) (YW d _ _ _ _ _ _ _ _ _ _ _ _) (Zy),(Bw w R _ _ _ _ _ _ _ _ _ _ _ _).ag (Tn.of (Zy))⟩
theorem Mw{O:Value}{v:Int}{r:C6}(q:Dr w b d m O P L u v c a i t r)(H:Dv u i)(Z:ed t<=100)(Y:ed r<=200)(I:As i s)(n:¬(((∃p∈t,p.sum=s)\/∃l∈r,l.sum=s)\/∃k∈i,s∈k.C)):
 D4 90 #[Yy d,ca (ID s)] w fun e g=>e=C1 (ca z12.toArray)/\∃j,Dr g b d m j P L u v c a (Ch i s) t r/\ef j=ef O/\Tn (vB d m O P L) w g/\YV w g b d m O j P L u a i s:=by
 have zA:∀(fn:Fn) (first cap:Array Value) (w:Zh),(Instr.makeFunc fn first cap).run prog w=.ok (.func fn first cap) w:=fun _ _ _ _=>rfl;have⟨W,g⟩:=Ag ((w.alloc (bs #[Zg 7,C0 s,Zc,Ze,Zc,Zb] 117)).alloc (bs Yd 81));have x:=(AT g).1;have y:=(AT g).2.1;have Q:eh W (Zd (w.1.size) 0)=ai (Zg 7):=Ff;have R:eh W (Zd (w.1.size) 1)=ai (C0 s):=Ff;have S:eh W (Zd (w.1.size) 2)=ai Zc:=Ff;have T:eh W (Zd (w.1.size) 3)=ai Ze:=Ff;have V:eh W (Zd (w.1.size) 4)=ai Zc:=Ff;have X:eh W (Zd (w.1.size) 5)=ai Zb:=Ff;have M:Hid (W.1[w.1.size+1]?=ai (bs Yd 81)):=by show _=_;have:=heap_alloc_new (w.alloc (bs #[Zg 7,C0 s,Zc,Ze,Zc,Zb] 117)) (bs Yd 81);rw[Aq]at this;rw[g];exact this
 have zR:Aa W (w.1.size+1) z12:=by have o:=Aa.new (w.alloc (bs #[Zg 7,C0 s,Zc,Ze,Zc,Zb] 117)) z12 81;rw[Aq]at o;rw[g];exact o
 have G:=Yw (q.A x);have E:=Yw q.dj;have F:b<=w.1.size:=by have:=q.bd;have:=q.box.lt;omega
 obtain⟨A,N,z⟩:=Yw g,Yw zR,Yw y;clear g q zR y;unfold ID
 go_enter_defers func90,ntmps90
 go_upto_region 1 with fail;rw[<-A.o];clear A;go_wp2_with fail;refine(Ng G H Z Y I n).mono ?_;rintro e y ⟨rfl,j,A,hO,q,C⟩;have D:=Aa.same N (q.block _ (by have:=z.o;omega) (fun h=>by have:=E _ h;omega));have⟨⟨k,q0⟩,⟨l,q1⟩,⟨p,q2⟩,⟨y3,q3⟩,⟨y4,q4⟩,⟨y5,q5⟩,⟨y6,q6⟩,⟨y7,q7⟩,⟨y8,q8⟩,⟨y9,q9⟩,⟨J,zB⟩,K,zC⟩:=Br D;have g:=Yw (Zn A (Zn hO (Zn q C)));clear A hO q C D Q R S T V X G;unfold z12;go_wp2;refine leaves_cons (f:=135) (args:= #[Yy (w.1.size+1)]) Yu F3 ?_;refine(Mv ⟨w.1.size+1,0,an⟩ _).mono ?_;rintro e Q G ⟨rfl,rfl,rfl⟩;have D:w.1.size+1∉vB d m j P L:=fun h=>by
  have:w.1.size+1∈vB d m O P L:=by unfold vB at h |-;rw[g.2.1]at h;exact h
  have:=E _ this;omega
 have C:∀q A,y.1[w.1.size+1]?≠ai (bs q 9 A):=fun q A e=>by have o:=g.2.2.1.block (w.1.size+1) (by have:=z.o;omega) (fun h=>by have:=E _ h;omega);rw[e,M.o]at o;simp at o
 simp[Leaves,settle,results,results90,go_sem,k,l,p,y3,y4,y5,y6,y7,y8,y9,J,K];exact⟨rfl,j,Dr.apart g.1 (Bw y _ _ _ _ _ _ _ _ _ _ _ _ _) Yv D C,g.2.1,Tn.fresh ((Tn.of x).trans g.2.2.1) (Bw y _ _ _ _ _ _ _ _ _ _ _ _ _) Yv,fun B q A=>(g.2.2.2 B (Zm q x.size) (A.O (U:=[]) (Tn.of x) Yu)).O (Bw y _ _ _ _ _ _ _ _ _ _ _ _ _) Yt⟩
theorem LR{O:Value}{t:Int}{n:C7}(z:Dr w g d m O P L t q c a h n j)(B:Dv t h)(M:ed n<=100)(K:ed j<=200)(C:As h s)(o:((∃p∈n,p.sum=s)\/∃l∈j,l.sum=s)\/∃k∈h,s∈k.C):
 D4 90 #[Yy d,ca (ID s)] w fun e b=>e=C1 (ca (Cp 6 ⟨#[]⟩ ⟨#[]⟩).toArray)/\Zz w b:=by
 have V:∀(fn:Fn) (first cap:Array Value) (w:Zh),(Instr.makeFunc fn first cap).run prog w=.ok (.func fn first cap) w:=fun _ _ _ _=>rfl;have⟨W,b⟩:=Ag ((w.alloc (bs #[Zg 7,C0 s,Zc,Ze,Zc,Zb] 117)).alloc (bs Yd 81));have r:=(AT b).1;have i:=(AT b).2.1;have E:eh W (Zd (w.1.size) 0)=ai (Zg 7):=F1;have F:eh W (Zd (w.1.size) 1)=ai (C0 s):=F1;have G:eh W (Zd (w.1.size) 2)=ai Zc:=F1;have H:eh W (Zd (w.1.size) 3)=ai Ze:=F1;have I:eh W (Zd (w.1.size) 4)=ai Zc:=F1;have J:eh W (Zd (w.1.size) 5)=ai Zb:=F1;have zR:Aa W (w.1.size+1) z12:=by have y:=Aa.new (w.alloc (bs #[Zg 7,C0 s,Zc,Ze,Zc,Zb] 117)) z12 81;rw[Aq]at y;rw[b];exact y
 obtain⟨u,x,D,A⟩:=Yw (z.A r),Yw b,Yw zR,Yw i;clear b z zR i;unfold ID
 go_enter_defers func90,ntmps90
 go_upto_region 1 with fail;rw[<-x.o];clear x;go_wp2_with fail;refine(Mu u B M K C o).mono ?_;rintro e N ⟨rfl,i⟩;have z:=Aa.A (v:=Ze) D i;clear E F G H I J u;refine leaves_cons (f:=135) (args:= #[Yy (w.1.size+1)]) Yu F3 ?_;refine(Lm 6 ⟨#[]⟩ ⟨#[]⟩ z).mono ?_;rintro e Y X ⟨rfl,rfl,b,E⟩;have F:=(b 0 _ rfl).1;obtain⟨G,H,I,J,Q,R,S,T,U,u,x⟩:=(b 1 _ rfl).1,(b 2 _ rfl).1,(b 3 _ rfl).1,(b 4 _ rfl).1,(b 5 _ rfl).1,(b 6 _ rfl).1,(b 7 _ rfl).1,(b 8 _ rfl).1,(b 9 _ rfl).1,(b 10 _ rfl).1,(b 11 _ rfl).1;simp[Leaves,settle,results,results90,go_sem,F,G,H,I,J,Q,R,S,T,U,u,x];exact⟨rfl,(r.trans (i.mono r.size)).trans (Tn.A E (by have:=i.size;have:=A.o;omega) Yu)⟩
theorem Holds.low{W:Zh}{b:Int}{a:C5}{f:Lit->Option Value}(h:Holds W B b a f)(i:bg B W w):Holds w B b a f:=by
 intro s j;rcases h s j with h|⟨u,k,l,c,d,e,g⟩
 .exact cr h
 exact ct ⟨u,k,l,c,d,e,Ad.A g i⟩
def HU(w:Zh)(base m:Nat)(wd:Int)(ks:List Kd):Prop:=∃n f,n<=1000000/\AY w 160 m n f/\Holds w base wd ks f/\m<base+4
theorem Bi(w:Zh)(R j:Nat)(v:Dg):Tn [R] w (el w (Zd R j) v):=Tn.set w R j v Yu
theorem CX{c:Zh}{b:Option Nat}(a:ek w c b):Tn b.toList w c:=⟨a.os,a.tape,a.output,a.size,λk d f=>a.block k d (λe=>f (by simp[<-e]))⟩
def HN(w:Zh)(m N:Nat):Prop:=∃n f,n<=N/\AY w 160 m n f
theorem Ko(A z h c:Int)(a p l:Zk)(U S R:Nat)(j:C5)(t:C7)(s:C6)(w:Zh)(o:BV w w.1.size a p l j t s)(hk:ed j<=600)(hp:ed t<=100)(hl:ed s<=200)(zZ:∀k∈j,(k.sum.size:Int)=A)(h8:A<=8):
 D4 88 #[ca (Yg A z h c a (ed j) U p (ed t) S l (ed s) R)] w λe n=>∃d m O P L,e=C1 (Yy d)/\Dr n (w.1.size+1) d m O P L A z h c j t s/\HU n (w.1.size+1) m A j/\(HN n m 600/\m<=w.1.size+3)/\Zz w n:=by
 obtain⟨y,r,u⟩:=BA.new w A z h c (Cw a j U) (Cw p t S) (Cw l s R) 30,Du w (C4 A z h c a j U p t S l s R) 30;have v:=(Av u).1;have zC:=(Av u).2.1;rw[<-u]at y;obtain⟨G,d,zJ,S0⟩:=Yw o,Yw y,Yw u,Uf y;have q:eh r.drew (Zd (w.1.size) 0)=ai (Zg A)/\eh r.drew (Zd (w.1.size) 1)=ai (Zg z)/\eh r.drew (Zd (w.1.size) 2)=ai (Zg h)/\eh r.drew (Zd (w.1.size) 3)=ai (Zg c)/\eh r.drew (Zd (w.1.size) 4)=ai (Cw a j U)/\eh r.drew (Zd (w.1.size) 5)=ai (Cw p t S)/\eh r.drew (Zd (w.1.size) 6)=ai (Cw l s R):=S0;have K0:BH r.drew r.drew.1.size a j:=BH.ah (BH.A o.k v.drew) v.size;have zU:ed j<=1048576:=Yv;have zY:ed t<=1048576:=Yv;have zV:ed s<=1048576:=Yv;clear o y u;delta D4;go_in;go_upto_region 1 with fail;rw[<-zJ.o];go_region_held3 (λn=>eh n (Zd (w.1.size) 0)=ai (Zg A)/\eh n (Zd (w.1.size) 1)=ai (Zg z)/\eh n (Zd (w.1.size) 2)=ai (Zg h)/\eh n (Zd (w.1.size) 3)=ai (Zg c)/\eh n (Zd (w.1.size) 4)=ai (Cw a j U)/\eh n (Zd (w.1.size) 5)=ai (Cw p t S)/\eh n (Zd (w.1.size) 6)=ai (Cw l s R))
  (first|exact S3|exact S2|exact S1|exact q|exact Uf (BA.A i (Zy)))
  (first
  |(go_at_call 131;refine(QT A z h c U (Cw p t S) (Cw l s R) K0 zU zZ h8).ah ?_;rintro e F ⟨m,f,rfl,hm,hM,hH,T⟩;have I:bg r.1.size r F:=(Below.refl r.1.size r).drew.ag T;have S1:=Uf (BA.A d I))
  |(go_at_call 94;refine(Kk S (Bd.ah (Bd.A G.p (v.ag (I.ah v.size))) (v.ag (I.ah v.size)).size) zY).ah ?_;rintro e M ⟨K,D,rfl,Z,E⟩;have Q:bg r.1.size r M:=I.ag (E.ah I.size);have S2:=Uf (BA.A d Q))
  |(go_at_call 95;refine(Jj R (Ba.ah (Ba.A G.l (v.ag (Q.ah v.size))) (v.ag (Q.ah v.size)).size) zV).ah ?_;rintro e o ⟨J,C,rfl,b,n⟩;have B3:bg r.1.size r o:=Q.ag (n.ah Q.size);have i:=Yw (BA.A d B3);have S3:=Uf i))
 have⟨H,u⟩:=Du o #[Zg A,.map (ai m),Zg z,Zg h,Zg c,Zb,Cw K t D,Cw J s C] 124;obtain⟨yK,N,Z4⟩:=(Av u).2.1,(Av u).1,(Av u).2.2;have yB:w.1.size+1<=F.1.size:=gB;have L:=E.size;have yC:=n.size;have zX:m<F.1.size:=hM.lt;have B4:bg w.1.size w H:=gB;have P:Hid (bg r.drew.1.size r.drew H):=((T.ag (E.ah Yt)).ag (n.ah Yt)).ag (N.ah Yt);have zA:=Yw (BA.A i N);have X:Hid (AY H 160 m (ed j) f):=hM.ak (B:=F.1.size) ((E.ag (n.ah L)).ag (N.ah Yv)) zX;have zI:Hid (ej H F.1.size 148 2 (Cw K t D) (ed t) (Af pC t)):=Ai (Ai Z n) N;have zF:Hid (ej H M.1.size 112 3 (Cw J s C) (ed s) (Af lC s)):=Ai b N;have Y:Hid (∀g,ef (Cw K t D)=ai g->F.1.size<=g/\g<M.1.size):=λg y=>Ab Z y;have V:Hid (∀g,ef (Cw J s C)=ai g->M.1.size<=g/\g<o.1.size):=λg y=>Ab b y;have HH:=Yw hH;have zM:=Yw Z4;have zW:w.1.size+1<=m/\m<=w.1.size+3:=by have:=hm;simp at this;omega
 rw[<-u];clear u S0 q S1 S2 S3 i d I Q B3 T E n hM Z b hH Z4 K0 hm;have⟨x0,x1,x2,x3,x4,x5,x6,x7⟩:=zA.o;go_wp2;go_loopw [25] (λi wr=>∃(k:Nat) (O:Dg),k<=ed j/\i=Zg k/\Hid (Aa wr o.1.size [Zg A,.map (ai m),Zg z,Zg h,Zg c,O,Cw K t D,Cw J s C])/\Hid (ej wr (o.1.size+1) 160 8 O (ed ((j.take k).map (·.sum))) (AR ((j.take k).map (·.sum))))/\bg o.1.size H wr) (λi _=>ed j -(intOf i).toNat)
 case atStart=>exact⟨0,_,Aw _,rfl,zM,⟨rfl,cr ⟨rfl,rfl⟩⟩,Ae⟩
 obtain⟨k,O,yH,rfl,HZ,Q,n⟩:=hrel;have⟨x0,x1,x2,x3,x4,x5,x6,x7⟩:=BA.ak zA n Yv;have yM:o.1.size+1<=wr.1.size:=gB;by_cases hlt:k<ed j
 .obtain⟨b,yN,ha,hb,hc⟩:=(BH.A G.k (B4.ag (n.ah Yv))).at hlt;subst ha;have HG:Hid (j[k]?=ai j[k]):=Zv hlt;obtain⟨c0,c1,c2,ra,rc,c3,_⟩:=hc k _ HG;have yG:b<wr.1.size:=Yv;have HN:Hid ((j.take (k+1)).map (·.sum)=(j.take k).map (·.sum)++[j[k].sum]):=by show _=_;rw[Zu hlt,map_append];rfl
  have yI:ed ((j.take k).map (·.sum))<=600:=Yt;generalize j[k]=x at *
  generalize (j.take k).map (·.sum)=Os at *
  have⟨E,u⟩:=Du wr #[C0 x.sum,Zg x.born,C0 x.Q,Cw ra x.C rc] 50;obtain⟨yL,b5,I,zH⟩:=(Av u).2.1,(Av u).1,(Av u).2.2,Yw Q.o;have zG:=Yw (Ai Q b5);have i:=Yw (Aa.A HZ b5);have zE:Hid (bg o.1.size H E):=n.ag (b5.ah Yv);have P5:eh E.drew (Zd (o.1.size) 5)=ai O/\eh E.drew (Zd (wr.1.size) 0)=ai (C0 x.sum):=⟨(i 5 _ rfl).1,(I 0 _ rfl).1⟩;have D5:bg E.1.size E E.drew:=gB;have zK:=Yw u;clear u I Q HZ;go_upto_region 5 with fail;rw[<-zK.o];obtain⟨W,zB⟩:=P5;have d:∀g,ef O=ai g->o.1.size+1<=g/\g<wr.1.size:=λg y=>Ab zH y;have yJ:wr.1.size≠o.1.size:=Yv
  go_region_law (first
   |(go_simp;go_at_call 132;refine(Nc x.sum E.drew).ah ?_;rintro e T ⟨rfl,zT⟩;have I:bg E.1.size E T:=D5.ag zT;have yD:eh T (Zd (o.1.size) 5)=ai O:=(I.cell (p:=⟨o.1.size,5,an⟩) Yt).ag W;have zN:eh T (Zd (wr.1.size) 0)=ai (C0 x.sum):=(I.cell (p:=⟨wr.1.size,0,an⟩) Yt).ag zB;have b7:bg E.1.size E (T.alloc (Hw x.sum)):=I.alloc I.size _;have zO:eh (T.alloc (Hw x.sum)) (Zd (o.1.size) 5)=ai O:=(b7.cell (p:=⟨o.1.size,5,an⟩) Yt).ag W;have zP:eh (T.alloc (Hw x.sum)) (Zd (wr.1.size) 0)=ai (C0 x.sum):=(b7.cell (p:=⟨wr.1.size,0,an⟩) Yt).ag zB;have z6:=I.size;have⟨g8,c8,w8,hr8,ho8,hg8,ha8⟩:=Aev Os (Ai zG I) x.sum Yv Yv 122;have Z6:=Aa.A i I;unfold Hw at hr8 zO zP;go_wp2_with fail)
   |(refine CK Yp (.tmp 33) (.tmp 37) 122 122 Yp Yp Yp hr8 ?_;have yF:eh w8 (Zd (wr.1.size) 0)=ai (C0 x.sum):=hg8.cell zN (λe=>by have:=(d _ e.symm).2;simp at this);have Z8:Aa w8 o.1.size _:=(Aa.same Z6 (hg8.block o.1.size Yv (λe=>C8 (d _ e.symm).1)));have yE:=(Z8 5 _ rfl).1;have F8:=(Z8 5 _ rfl).2))
  all_goals
   have yA:bg o.1.size H w8:=(zE.ag (I.ah Yv)).grown hg8 Yv (λg y=>C8 (d g y).1);have Z:=Yw (Zn Z8 (Zn yA ho8));go_wp2;refine⟨⟨k+1,Yz g8 (ed Os+1) c8,Yv,Yn,?_,?_,?_⟩,Ys⟩
   .exact Aa.set Z.1 5 _
   .rw[HN.o];exact ownsRow_setCell_below Z.2.2 Ym _
   exact Z.2.1.setCell Yu _
 obtain rfl:k=ed j:=Yv;rw[Zt (Zx)]at Q;go_wp2;have zS:(vB o.1.size m O (Cw K t D) (Cw J s C)).Nodup:=by
  have hO:∀g,ef O=ai g->o.1.size+1<=g:=λg y=>(Ab Q y).1;have hP:∀g,ef (Cw K t D)=ai g->F.1.size<=g/\g<M.1.size:=Y.o;have hL:∀g,ef (Cw J s C)=ai g->M.1.size<=g/\g<o.1.size:=V.o;unfold vB;generalize ef (Cw K t D)=bp at *
  generalize ef (Cw J s C)=bl at *
  generalize ef O=bo at *
  cases bo<;>cases bp<;>cases bl<;>simp_all<;>omega
 have hV:∀q∈vB o.1.size m O (Cw K t D) (Cw J s C),w.1.size+1<=q:=by
  intro q u;unfold vB at u;simp only[Bh,A5,A6]at u;rcases u with rfl|rfl|u|u|u
  .omega
  .omega
  .have:=(Ab Q u).1;omega
  .have:=(Y _ u).1;omega
  have:=(V _ u).1;omega
 go_ret;refine⟨_,rfl,m,⟨O,_,_,⟨HZ,⟨ed j,f,Yv,X.ak n Yv,?_⟩,?_,?_,?_,Yv,Yv,zS⟩⟩,⟨ed j,f,Yv,X.ak n Yv,?hu,Yv⟩,⟨⟨ed j,f,hk,X.ak n Yv⟩,zW.2⟩,B4.ag (n.ah Yv)⟩
 .have u:r.drew.1.size=w.1.size+1:=zC;rw[<-u];exact BS.of HH (P.ag (n.ah Yt)) (λq u=>by have:=hV q u;simp;omega) ⟨m,rfl,by rw[u];omega⟩
 .have:=Q.o;rw[A7]at this;exact this.ah Yv
 .refine ownsRow.ah ?_ (show w.1.size+1<=F.1.size by omega);exact Pw zI n (λg y=>C8 (Y g y).2)
 .refine ownsRow.ah ?_ (show w.1.size+1<=M.1.size by omega);exact Pw zF n (λg y=>C8 (V g y).2)
 have u:r.drew.1.size=w.1.size+1:=zC;rw[<-u];exact Holds.low HH (P.ag (n.ah Yt))
def NS(w:Zh)(b:Nat):Prop:=∀cur fz,w.1[b]?≠ai (bs cur 9 fz)
theorem En.move{o:Zh}{c:Nat}{j:List Nat}{a:Zk}{n:Zl}(h:En w c V a n)(l:Tn U w o)(t:∀b∈U,b∈V\/(c<=b/\NS w b))(u:∀b∈j,b∈V\/w.1.size<=b)(y:j[1]?=V[1]?:=by rfl):En o c j a n:=by
 rcases h with h|⟨b,g,v,k,m,d,x⟩
 .exact cr h
 have q:b∉U:=λe=>by
  rcases t b e with e|⟨A,r⟩
  .exact m e
  rcases d with d|⟨_,p,d⟩
  .omega
  exact r p _ d
 have f:=l.block b k q;refine ct ⟨b,g,v,Zr k l.size,λe=> ?_,(by rw[f];unfold VX;rw[y];exact d),λi s z=>(cell?_of_block (a:=⟨b,g+i,an⟩) f).ag (x i s z)⟩;rcases u b e with e|e
 .exact m e
 omega
theorem BS.move{e:Zh}{a:Nat}{c:List Nat}{g:Int}{d:C5}{f:Lit->Option Value}(h:BS w a V g d f)(q:Tn U w e)(m:∀b∈U,b∈V\/(a<=b/\NS w b))(n:∀b∈c,b∈V\/w.1.size<=b)(o:c[1]?=V[1]?:=by rfl):BS e a c g d f:=by
 intro s p;rcases h s p with h|⟨u,r,t,i,j,k,l⟩
 .exact cr h
 exact ct ⟨u,r,t,i,j,k,l.move q m n o⟩
structure DU (w:Zh) (base d m:Nat) (O P L:Value) (wd now given births:Int) (ks:List Kd) (ps:List Pd) (ls:List Ld):Prop where
 R:Dr w base d m O P L wd now given births ks ps ls
theorem DU.lo{O:Dg}{j:Int}{f:C5}{i:C7}{g:C6}(h:DU w b d m O P L j e c a f i g):b<=w.1.size:=by have:=h.R.bd;have:=h.R.box.lt;omega
theorem DU.O{p:Zh}{i:Nat}{O:Dg}{r:C5}{s:C6}(h:DU w i d m O P L u l c a r t s)(q:Tn V w p)(o:∀b∈V,i<=b/\b∉vB d m O P L/\NS w b):DU p i d m O P L u l c a r t s:=by
 have v:=h.R.dj;have k:∀b∈vB d m O P L,p.1[b]?=w.1[b]?:=λb j=>q.block b (v b j) (λe=>(o b e).2.1 j);have⟨n,f,x,y,z⟩:=h.R.map;have h:=h.R;exact⟨⟨Aa.same h.box (k d Ja),⟨n,f,x,AY.same y (k m Ja),z.move q (λb j=> ct ⟨(o b j).1,(o b j).2.2⟩) (λb j=> cr j)⟩,Ar h.ord (λg j=>k g Lg),Ar h.co (λg j=>k g Lg),Ar h.di (λg j=>k g Lg),h.bd,h.bm,h.ap⟩⟩
theorem DU.A{i:Zh}{base:Nat}{O:Dg}{j b:Int}{e:C5}{g:C7}{f:C6}(h:DU w base d m O P L j c b a e g f)(k:Zz w i):DU i base d m O P L j c b a e g f:=
 h.O (V:=[]) (Tn.of k) Yu
theorem Aae{d m n:Nat}{O P L a:Option Nat}(h:(d::m::(O.toList++(P.toList++L.toList))).Nodup)(e:∀b∈d::m::(O.toList++(P.toList++L.toList)),b<n)(c:a=L\/∃g,a=ai g/\n<=g):(d::m::(O.toList++(P.toList++a.toList))).Nodup:=by
 rcases c with rfl|⟨g,rfl,f⟩
 .exact h
 cases O<;>cases P<;>cases L<;>simp_all<;>grind
theorem Aaf{d m n:Nat}{O P L a:Option Nat}(h:(d::m::(O.toList++(P.toList++L.toList))).Nodup)(e:∀b∈d::m::(O.toList++(P.toList++L.toList)),b<n)(c:a=P\/∃g,a=ai g/\n<=g):(d::m::(O.toList++(a.toList++L.toList))).Nodup:=by
 rcases c with rfl|⟨g,rfl,f⟩
 .exact h
 cases O<;>cases P<;>cases L<;>simp_all<;>grind
theorem DI{d m:Nat}{O P L:Option Nat}(h:(d::m::(O.toList++(P.toList++L.toList))).Nodup):d≠m/\(∀g,O=ai g->g≠d/\g≠m/\P≠ai g/\L≠ai g)/\(∀g,P=ai g->g≠d/\g≠m/\L≠ai g)/\(∀g,L=ai g->g≠d/\g≠m):=by cases O<;>cases P<;>cases L<;>simp_all<;>grind
theorem DU.ja{w t:Zh}{k d m:Nat}{O P L:Dg}{v C p a:Int}{z:C5}{B:C7}{I:C6}(h:DU w k d m O P L v C p a z B I)(s:Tn (d::(ef L).toList) w t){o:Dg}{r:C6}{l c:Int}(u:Aa t d [Zg v,.map (ai m),Zg l,Zg c,Zg a,O,P,o])(H:ej t k 112 3 o (ed r) (Af lC r))(i:ef o=ef L\/∃g,ef o=ai g/\w.1.size<=g):DU t k d m O P o v l c a z B r:=by
 obtain⟨⟨D,x,y,E⟩,n,f,J,A,K⟩:=DI h.R.ap,h.R.map;have F:∀b∈d::(ef L).toList,b∈vB d m O P L:=by
  intro b i;unfold vB;rcases Bh.1 i with rfl|i
  .simp
  simp only[Bh,A5];exact gA
 have G:∀b∈vB d m O P o,b∈vB d m O P L\/w.1.size<=b:=by
  intro b q;unfold vB at q |-;simp only[Bh,A5]at q |-;rcases q with e|e|e|e|e
  .omega
  .omega
  .exact gA
  .exact gA
  rcases i with i|⟨g,j,M⟩
  .rw[i]at e;exact gA
  rw[j]at e;simp at e;omega
 refine⟨⟨u,⟨n,f,J,AY.same A (s.block m A.lt (λe=> ?_)),K.move s (λb i=> cr (F b i)) G⟩,Ar h.R.ord (λg j=>s.block g (Ab h.R.ord j).2 (λe=> ?_)),Ar h.R.co (λg j=>s.block g (Ab h.R.co j).2 (λe=> ?_)),H,h.R.bd,h.R.bm,Aae h.R.ap h.R.dj i⟩⟩
 .rcases Bh.1 e with e|e
  .exact D e.symm
  exact(E m gA).2 rfl
 .rcases Bh.1 e with e|e
  .exact(x g j).1 e
  exact(x g j).2.2.2 gA
 rcases Bh.1 e with e|e
 .exact(y g j).1 e
 exact(y g j).2.2 gA
theorem DU.jd{w s:Zh}{k d m:Nat}{O P L:Dg}{u p c a:Int}{y:C5}{I:C7}{z:C6}(h:DU w k d m O P L u p c a y I z)(r:Tn (d::(ef P).toList) w s){l:Dg}{q:C7}(t:Aa s d [Zg u,.map (ai m),Zg p,Zg c,Zg a,O,l,L])(F:ej s k 148 2 l (ed q) (Af pC q))(i:ef l=ef P\/∃g,ef l=ai g/\w.1.size<=g):DU s k d m O l L u p c a y q z:=by
 obtain⟨⟨B,v,x,C⟩,n,f,G,A,H⟩:=DI h.R.ap,h.R.map;have D:∀b∈d::(ef P).toList,b∈vB d m O P L:=by
  intro b i;unfold vB;rcases Bh.1 i with rfl|i
  .simp
  simp only[Bh,A5];exact gA
 have E:∀b∈vB d m O l L,b∈vB d m O P L\/w.1.size<=b:=by
  intro b o;unfold vB at o |-;simp only[Bh,A5]at o |-;rcases o with e|e|e|e|e
  .omega
  .omega
  .exact gA
  .rcases i with i|⟨g,j,J⟩
   .rw[i]at e;exact gA
   rw[j]at e;simp at e;omega
  exact gA
 refine⟨⟨t,⟨n,f,G,AY.same A (r.block m A.lt (λe=> ?_)),H.move r (λb i=> cr (D b i)) E⟩,Ar h.R.ord (λg j=>r.block g (Ab h.R.ord j).2 (λe=> ?_)),F,Ar h.R.di (λg j=>r.block g (Ab h.R.di j).2 (λe=> ?_)),h.R.bd,h.R.bm,Aaf h.R.ap h.R.dj i⟩⟩
 .rcases Bh.1 e with e|e
  .exact B e.symm
  exact(x m gA).2.1 rfl
 .rcases Bh.1 e with e|e
  .exact(v g j).1 e
  exact(v g j).2.2.1 gA
 rcases Bh.1 e with e|e
 .exact(C g j).1 e
 exact(x g gA).2.2 j
theorem Gx{A:Type}(c:A->Zj)(a b:List A):Af c (a++b)=Af c a++Af c b:=by unfold Af;simp
theorem Ib{b:Int}(e:0<=a)(c:a<=1000000000)(f:0<=b)(d:b<=1000000000):IntKind.i64.wrap (a+b)=a+b:=by simp[IntKind.wrap,IntKind.bits,IntKind.signed];omega
theorem Po(w:Zh)(a:Nat)(v:Dg)(b:C6)(y:ej w a 112 3 v (ed b) (Af lC b))(x:Ld)(t:ed b<=1000000)(k:a<=w.1.size)(l:TypeId):
 ∃g c f,(Builtin.append_ #[28,28] l #[v,Yz w.1.size 1 1]).run prog (w.alloc (bs #[Zg x.M,C0 x.sum,Zg x.ci] 112))=.ok (Yz g (ed b+1) c) f/\ej f a 112 3 (Yz g (ed b+1) c) (ed (b++[x])) (Af lC (b++[x]))/\ek w f (ef v)/\(ef v=ai g\/g=w.1.size+1):=by
 have⟨A,s,n,o,p⟩:=info_parts IB;have m:=Ai y (Ae.alloc (Zx) (bs #[Zg x.M,C0 x.sum,Zg x.ci] 112));have r:∀j u,(Af lC [x])[j]?=ai u->eh (w.alloc (bs #[Zg x.M,C0 x.sum,Zg x.ci] 112)) ((⟨w.1.size,0,an⟩:Addr).add j)=ai u:=by intro j u h;rw[A1,Ax];exact(Aa.new w [Zg x.M,C0 x.sum,Zg x.ci] 112 j u (by simpa [Af,lC]using h)).1
 obtain⟨B,f,z,i,q,_,d⟩:=run_append_own_at (P:=prog) (w.alloc (bs #[Zg x.M,C0 x.sum,Zg x.ci] 112)) a 28 l 112 A _ 3 32 underlying28 s n o p rfl Yq v (ed b) (Af lC b) m ⟨w.1.size,0,an⟩ 1 1 (Af lC [x]) (by simp[Af,lC]) r (by intro u h;simp[Af,lC]at h;rcases h with rfl|rfl|rfl<;>rfl) Yo Yv Yt;obtain⟨g,c,rfl,_,_⟩:=Cv i (λe=>by subst e;rcases i.2 with⟨_,t⟩|⟨_,_,_,e,_⟩<;>first|omega|cases e);refine⟨g,c,f,z,?_,(grownBy_alloc w _ _).ag q,?_⟩
 .rw[Gx,Am];exact i
 rcases d with d|d
 .exact cr d.symm
 right;simpa [ownBlock]using d
theorem PI{n d m:Nat}{O P L:Dg}{u j a c:Int}{v:C5}{B:C7}{i:C6}{s:Zi}(f:Int){w:Zh}(h:DU w n d m O P L u j a c v B i)(l:∀k∈v,(k.sum.size:Int)=u)(o:As v s)(hl:ed i<200)(zH:0<=a)(zI:a<1000000000)(zB:0<=j)(zC:j<=1000000000)(zF:0<=f)(zG:f<=1000000000):
 D4 178 #[.pointer (ai ⟨d,0,an⟩),C0 s,Zg f] w λe p=>e=C1 (Zg (a+1))/\∃R,DU p n d m O P R u j (a+1) c v B (i++[⟨a+1,s,j+f⟩])/\Tn (d::(ef L).toList) w p:=by
 have HN:Hid _:=EU h.R l o;have V:Hid (DU w n d m O P L u j a c v B i):=h;have zK:((ed i:Int)==200)=ba:=by simp;omega
 have zJ:(a==1000000000)=ba:=by simp;omega
 clear h l o;delta D4;go_in;go_wp2_with fail;refine HN.Ak ?_;rintro e z ⟨rfl,F⟩;have q:=V.A F;have⟨r,p,k⟩:=AB q.R.di;subst k;obtain⟨⟨S,_⟩,⟨T,f3⟩,⟨U,_⟩,X,G⟩:=q.R.box 2 _ rfl,q.R.box 3 _ rfl,q.R.box 7 _ rfl,D2 z d 3 (Zg (a+1));have A:Tn [d] z X:=by rw[G];exact Bi _ _ _ _
 have x:Aa X d [Zg u,.map (ai m),Zg j,Zg (a+1),Zg c,O,P,Cw r i p]:=by rw[G];exact q.R.box.set 3 _
 have K:∀g,ef (Cw r i p)=ai g->g≠d:=λg D=>((DI q.R.ap).2.2.2 g D).1;have Q:ej X n 112 3 (Cw r i p) (ed i) (Af lC i):=Ar q.R.di (λg D=>A.block g (Ab q.R.di D).2 gA);have zA:d<X.1.size:=x.lt;have H:n<=X.1.size:=Zm q.lo A.size;obtain⟨o,l,t,y,zE,N,b⟩:=Po X.drew n _ i (Ai Q (Ae.drew)) ⟨a+1,s,j+f⟩ Lh H 28;dsimp only at y;replace y:(Builtin.append_ #[28,28] 28 #[Cw r i p,Cx (ai ⟨X.1.size,0,an⟩) 1 1]).run prog (X.alloc (bs #[Zg (a+1),C0 s,Zg (j+f)] 112)).drew=.ok (Cx (ai ⟨o,0,an⟩) (ed i+1) l) t:=y;have zM:IntKind.i64.wrap (j+f)=j+f:=Ib zB zC zF zG;have M:bg X.1.size X (X.drew.alloc (bs #[Zg (a+1),C0 s,Zg (j+f)] 112)):=gB;have J:=x.A M;have W:Hid _:=G;have H1:Hid (DU z n d m O P (Cw r i p) u j a c v B i):=q;have Z:Hid (Zz w z):=F;have E:Aa t d [Zg u,.map (ai m),Zg j,Zg (a+1),Zg c,O,P,Cw r i p]:=Aa.same x (N.block d (by simp;omega) (λe=>K d e.symm rfl));have C:Hid (ej t n 112 3 (Cx (ai ⟨o,0,an⟩) (ed i+1) l) (ed (i++[(⟨a+1,s,j+f⟩:Ld)])) (Af lC (i++[(⟨a+1,s,j+f⟩:Ld)]))/\ek X.drew t (ef (Cw r i p))/\(ef (Cw r i p)=ai o\/o=X.drew.1.size+1)):=gD;have Y:Hid (Aa t d [Zg u,.map (ai m),Zg j,Zg (a+1),Zg c,O,P,Cw r i p]):=E;have I:Hid (Tn [d] z X):=A;have h:Hid (d<X.1.size):=zA;clear G q F HN V A Q zE N b;go_upto_region 5 with fail;rw[<-W.o];clear W S T U f3;obtain⟨S,T,U⟩:=Aa.c3 x 2 3 7;obtain⟨⟨q,A,F⟩,G,N⟩:=Aa.c3 J 2 3 7,E 7 _ rfl;clear x J E M
 go_region_law (first
  |(refine CK (by rfl) (.tmp 36) (.tmp 49) 28 28 (by rfl) (by rfl) (by rfl) y ?_))
 all_goals
  clear y S T U q A F;have q:=Y.set 7 (Cx (ai ⟨o,0,an⟩) (ed i+1) l);have M:=(q 3 _ rfl).1;have z7:X.1.size<=t.1.size:=by have:=C.2.1.size;simpa using this
  have y:Hid (Aa (el t (Zd d 7) (Cx (ai ⟨o,0,an⟩) (ed i+1) l)) d [Zg u,.map (ai m),Zg j,Zg (a+1),Zg c,O,P,Cx (ai ⟨o,0,an⟩) (ed i+1) l]):=q;clear q;have q:∃R,DU (el t (Zd d 7) (Cx (ai ⟨o,0,an⟩) (ed i+1) l)) n d m O P R u j (a+1) c v B (i++[(⟨a+1,s,j+f⟩:Ld)])/\Tn (d::(ef (Cw r i p)).toList) w (el t (Zd d 7) (Cx (ai ⟨o,0,an⟩) (ed i+1) l)):=by
   have x:Tn (d::(ef (Cw r i p)).toList) z (el t (Zd d 7) (Cx (ai ⟨o,0,an⟩) (ed i+1) l)):=
    ((I.ah Kg).ag ((Tn.of (Ae.drew)).ag ((CX C.2.1).ah (λb A=>mem_cons_of_mem _ A)))).ag ((Bi t d 7 _).ah Kg)
   have E:∀g,ef (Cx (ai ⟨o,0,an⟩) (ed i+1) l)=ai g->g≠d:=λg D=>by
    obtain rfl:o=g:=(by simpa [ownBlock]using D);rcases C.2.2 with e|e
    .exact K o e
    have F:o=X.1.size+1:=e;have J:=h.o;omega
   have A:ef (Cx (ai ⟨o,0,an⟩) (ed i+1) l)=ef (Cw r i p)\/∃g,ef (Cx (ai ⟨o,0,an⟩) (ed i+1) l)=ai g/\z.1.size<=g:=by
    rcases C.2.2 with e|e
    .exact cr e.symm
    exact ct ⟨o,rfl,by have F:o=X.1.size+1:=e;have:=I.size;omega⟩
   exact⟨_,H1.ja x y (BU C.1 E 7 _) A,(Tn.of Z).ag x⟩
  have D:Hid _:=q;clear q;go_wp2;go_ret;exact⟨rfl,D⟩
theorem Uq(w:Zh):(zeroValue 112).run prog w=.ok (ca #[Ze,Zc,Ze]) w:=Yr
def Eo(x y:Int):Int:=if x<y then -1 else if y<x then 1 else 0
theorem PJ(x y:Int):Eo x y<0↔x<y:=by unfold Eo;split<;>(try split)<;>omega
theorem NQ(x y:Int):Eo x y=0↔x=y:=by unfold Eo;split<;>(try split)<;>omega
theorem PK(x:Int)(w:Zh):D4 243 #[Zg x] w λe a=>e=C1 (ec ba)/\a=w:=by
 have a:(x !=x)=ba:=Yu;delta D4;go_in;go_wp2;go_ret;exact⟨rfl,rfl⟩
theorem Wf(x y:Int)(w:Zh):D4 220 #[Zg x,Zg y] w λe a=>e=C1 (Zg (Eo x y))/\a=w:=by
 delta D4;go_in;go_wp2_with fail;refine(PK x w).ah ?_;rintro e d ⟨rfl,rfl⟩;go_wp2_with fail;refine(PK y d).ah ?_;rintro e f ⟨rfl,rfl⟩;by_cases h1:x<y
 .have c:bq (x<y)=ay:=Yt;have a:Eo x y= -1:=by unfold Eo;rw[if_pos h1]
  clear h1;go_wp2;go_ret;exact⟨by rw[a];rfl,rfl⟩
 have c:bq (x<y)=ba:=Yt;by_cases h2:y<x
 .have b:bq (y<x)=ay:=Yt;have a:Eo x y=1:=by unfold Eo;rw[if_neg h1,if_pos h2]
  clear h1 h2;go_wp2;go_ret;exact⟨by rw[a];rfl,rfl⟩
 have b:bq (y<x)=ba:=Yt;have a:Eo x y=0:=by unfold Eo;rw[if_neg h1,if_neg h2]
 clear h1 h2;go_wp2;go_ret;exact⟨by rw[a];rfl,rfl⟩
def EN(x y:Zi):Int:=if less x y=ay then -1 else if x=y then 0 else 1
theorem PL(x y:Zi):EN x y<0↔less x y=ay:=by
 unfold EN;by_cases h:less x y=ay
 .rw[if_pos h];exact⟨λ_=>h,λ_=>Yv⟩
 rw[if_neg h];refine⟨λe=> ?_,λe=>absurd e h⟩;split at e<;>omega
theorem Kp(x y:Zi):EN x y=0↔x=y:=by
 unfold EN;by_cases h:less x y=ay
 .rw[if_pos h];refine⟨λe=>Yv,λe=> ?_⟩;rw[e,Cz]at h;cases h
 rw[if_neg h];split
 .rename_i h2;exact⟨λ_=>h2,λ_=>rfl⟩
 rename_i h2;exact⟨λe=>Yv,λe=>absurd e h2⟩
theorem PM(x:Zi)(w:Zh):D4 247 #[C0 x] w λe a=>e=C1 (ec ba)/\a=w:=by
 have a:(x.toList !=x.toList)=ba:=Yu;delta D4;go_in;go_wp2;go_ret;exact⟨rfl,rfl⟩
theorem Wg(x y:Zi)(w:Zh):D4 240 #[C0 x,C0 y] w λe a=>e=C1 (Zg (EN x y))/\a=w:=by
 delta D4;go_in;go_wp2_with fail;refine(PM x w).ah ?_;rintro e c ⟨rfl,rfl⟩;go_wp2_with fail;refine(PM y c).ah ?_;rintro e d ⟨rfl,rfl⟩;cases h1:Op.bytesLess x.toList y.toList with
 |true=>
  have a:Hid (EN x y= -1):=by show _=_;unfold EN less;rw[if_pos h1]
  go_wp2;go_ret;exact⟨by rw[a.o];rfl,rfl⟩
 |false=>
  by_cases h2:x=y
  .have a:=Yw ((Kp x y).2 h2);have b:(x.toList==y.toList)=ay:=gA;clear h2;go_wp2;go_ret;exact⟨by rw[a.o];rfl,rfl⟩
  have a:Hid (EN x y=1):=by show _=_;unfold EN less;rw[if_neg Yt,if_neg h2]
  have b:=BZ h2;clear h2;go_wp2;go_ret;exact⟨by rw[a.o];rfl,rfl⟩
theorem NR(x:Ld)(n:Int)(w:Zh):D4 219 #[ca #[Zg x.M,C0 x.sum,Zg x.ci],Zg n] w λe a=>e=C1 (Zg (Eo x.M n))/\Zz w a:=by have a:∀o,Zz w (w.alloc o):=gB;delta D4;go_in;go_wp2_with fail;refine(Wf x.M n _).ah ?_;rintro e b ⟨rfl,rfl⟩;go_wp2;go_ret;exact⟨rfl,a _⟩
theorem Mx(x:Pd)(n:Zi)(w:Zh):D4 239 #[ca #[C0 x.name,C0 x.sum],C0 n] w λe a=>e=C1 (Zg (EN x.name n))/\Zz w a:=by have a:∀o,Zz w (w.alloc o):=gB;delta D4;go_in;go_wp2_with fail;refine(Wg x.name n _).ah ?_;rintro e b ⟨rfl,rfl⟩;go_wp2;go_ret;exact⟨rfl,a _⟩
structure Kq (ls:List Ld) (n:Int) (i:Nat):Prop where
 le:i<=ed ls
 lo:∀j x,j<i->ls[j]?=ai x->x.M<n
 hi:∀j x,i<=j->ls[j]?=ai x->n<=x.M
theorem IE(g z:Nat){d:C6}(n:Int)(f:ej w v 112 3 (Yz g (ed d) z) (ed d) (Af lC d))(Q:ed d<=600)(c:d.Pairwise (λa b=>a.M<b.M)):
 D4 218 #[Yz g (ed d) z,Zg n,.func (.func 219) #[] #[]] w λe l=>∃i:Nat,e=C1 (.tuple #[Zg i,ec (bq (∃x,d[i]?=ai x/\x.M=n))])/\Kq d n i/\Zz w l:=by
 have N:=(Ab f rfl).2;have G:Hid (∀(X:Zh),Zz w X->∀k x,d[k]?=ai x->eh X (Zd g (k *3))=ai (Zg x.M)/\eh X (Zd g (k *3+1))=ai (C0 x.sum)/\eh X (Zd g (k *3+2))=ai (Zg x.ci)):=λX m k x l=>by have h:=Ai f m;have P:=(Zw l).1;have m:∀j,j<3->eh X (Zd g (k *3+j))=(lC x)[j]?:=λj C=>(h.cellAt (k *3+j) Yv).ag (Cy Em l C);exact⟨by simpa [lC]using m 0 Yq,by simpa [lC]using m 1 Yq,by simpa [lC]using m 2 Yq⟩
 have HS:=Yw c;clear f c;delta D4;go_in;have M:=enters_of func219 Yr rfl;go_wp2;go_loopw [9,10] (λi j wr=>∃c f:Nat,i=Zg c/\j=Zg f/\c<=f/\f<=ed d/\Hid ((∀j x,j<c->d[j]?=ai x->x.M<n)/\(∀j x,f<=j->d[j]?=ai x->n<=x.M))/\Zz w wr) (λi j _=>(intOf j).toNat -(intOf i).toNat)
 case atStart=>exact⟨0,ed d,rfl,rfl,Aw _,Zx,⟨λj x h=>Yv,λj x h l=>C8 (Zw l).1⟩,Ae⟩
 obtain⟨c,f,rfl,rfl,O,A,u,l⟩:=hrel;have B:=l.size;by_cases hlt:c<f
 .have t:(c+f)/2<ed d:=Yv;have o:=Yw (Zv t);generalize d[(c+f)/2]=x at *
  obtain⟨r0,D,E⟩:=G wr l _ _ o;go_wp2_with fail;refine(NR x n wr).ah ?_;rintro e L ⟨rfl,s⟩;have q:=l.ag (s.ah B);clear r0 D E;by_cases m:x.M<n
  .have K:bq (Eo x.M n<0)=ay:=C9 ((PJ _ _).2 m);have r:=Yw m;clear m;generalize Eo x.M n=cv at *
   go_wp2;refine⟨⟨(c+f)/2+1,f,Yn,rfl,Yv,A,⟨?_,u.2⟩,q⟩,Ys⟩;intro j y C p;rcases B0 j ((c+f)/2)with h|h
   .have:=pairwise_iff_getElem.1 HS j ((c+f)/2) Yv t h;obtain⟨_,rfl⟩:=Zw p;have⟨_,e⟩:=Zw o;rw[e]at this;have J:=r.o;omega
   obtain rfl:j=(c+f)/2:=Yv;rw[o.o]at p;cases p;exact r.o
  have K:bq (Eo x.M n<0)=ba:=by simpa using λe=>m ((PJ _ _).1 e)
  have r:=Yw (Int.not_lt.1 m);clear m;generalize Eo x.M n=cv at *
  go_wp2;refine⟨⟨c,(c+f)/2,rfl,Yn,Yv,Yv,⟨u.1,?_⟩,q⟩,Ys⟩;intro j y C p;rcases B0 ((c+f)/2) j with h|h
  .have H:=(Zw p).1;have:=pairwise_iff_getElem.1 HS ((c+f)/2) j t H h;obtain⟨_,rfl⟩:=Zw p;have⟨_,e⟩:=Zw o;rw[e]at this;have J:=r.o;omega
  obtain rfl:j=(c+f)/2:=Yv;rw[o.o]at p;cases p;exact r.o
 obtain rfl:c=f:=Yv;have F:Hid (Kq d n c):=⟨A,u.1,u.2⟩;by_cases hn:c<ed d
 .have o:=Yw (Zv hn);generalize d[c]=x at *
  obtain⟨r0,D,E⟩:=G wr l _ _ o;have I:(c:Int)<ed d:=Yv;go_wp2_with fail;refine(NR x n wr).ah ?_;rintro e L ⟨rfl,s⟩;have q:=l.ag (s.ah B);clear r0 D E;have m:Hid (bq (∃y,d[c]?=ai y/\y.M=n)=(Eo x.M n==0)):=by
   show _=_;rw[o.o];by_cases h:x.M=n
   .rw[(NQ x.M n).2 h];simp[h]
   have D:¬Eo x.M n=0:=λe=>h ((NQ x.M n).1 e);rw[show(Eo x.M n==0)=ba by simpa using D];simp[h]
  generalize Eo x.M n=cv at *
  go_wp2
  go_ret2
  exact⟨c,by rw[m.o];first|rfl|simp[Act.put],F,q⟩
 have m:Hid (bq (∃y,d[c]?=ai y/\y.M=n)=ba):=by show _=_;rw[getElem?_eq_none Yv];simp
 have I:¬((c:Int)<ed d):=Yv;go_wp2
 go_ret2
 exact⟨c,by rw[m.o];first|rfl|simp[Act.put],F,l⟩
structure Ep (ls:List Pd) (n:Zi) (i:Nat):Prop where
 le:i<=ed ls
 lo:∀j x,j<i->ls[j]?=ai x->less x.name n=ay
 hi:∀j x,i<=j->ls[j]?=ai x->less x.name n=ba
theorem JW(g z:Nat){d:C7}(n:Zi)(f:ej w v 148 2 (Yz g (ed d) z) (ed d) (Af pC d))(P:ed d<=600)(c:d.Pairwise (λa b=>less a.name b.name=ay)):
 D4 238 #[Yz g (ed d) z,C0 n,.func (.func 239) #[] #[]] w λe l=>∃i:Nat,e=C1 (.tuple #[Zg i,ec (bq (∃x,d[i]?=ai x/\x.name=n))])/\Ep d n i/\Zz w l:=by
 have M:=(Ab f rfl).2;have F:Hid (∀(X:Zh),Zz w X->∀k x,d[k]?=ai x->eh X (Zd g (k *2))=ai (C0 x.name)/\eh X (Zd g (k *2+1))=ai (C0 x.sum)):=λX m k x l=>by have h:=Ai f m;have O:=(Zw l).1;have m:∀j,j<2->eh X (Zd g (k *2+j))=(pC x)[j]?:=λj C=>(h.cellAt (k *2+j) Yv).ag (Cy ES l C);exact⟨by simpa [pC]using m 0 Yq,by simpa [pC]using m 1 Yq⟩
 have HS:=Yw c;clear f c;delta D4;go_in;have L:=enters_of func239 Yr rfl;go_wp2;go_loopw [9,10] (λi j wr=>∃c f:Nat,i=Zg c/\j=Zg f/\c<=f/\f<=ed d/\Hid ((∀j x,j<c->d[j]?=ai x->less x.name n=ay)/\(∀j x,f<=j->d[j]?=ai x->less x.name n=ba))/\Zz w wr) (λi j _=>(intOf j).toNat -(intOf i).toNat)
 case atStart=>exact⟨0,ed d,rfl,rfl,Aw _,Zx,⟨λj x h=>Yv,λj x h l=>C8 (Zw l).1⟩,Ae⟩
 obtain⟨c,f,rfl,rfl,N,A,u,l⟩:=hrel;have B:=l.size;by_cases hlt:c<f
 .have t:(c+f)/2<ed d:=Yv;have o:=Yw (Zv t);generalize d[(c+f)/2]=x at *
  obtain⟨r0,D⟩:=F wr l _ _ o;go_wp2_with fail;refine(Mx x n wr).ah ?_;rintro e K ⟨rfl,s⟩;have q:=l.ag (s.ah B);clear r0 D;by_cases m:less x.name n=ay
  .have J:bq (EN x.name n<0)=ay:=C9 ((PL _ _).2 m);have r:=Yw m;clear m;generalize EN x.name n=cv at *
   go_wp2;refine⟨⟨(c+f)/2+1,f,Yn,rfl,Yv,A,⟨?_,u.2⟩,q⟩,Ys⟩;intro j y C p;rcases B0 j ((c+f)/2)with h|h
   .have:=pairwise_iff_getElem.1 HS j ((c+f)/2) Yv t h;obtain⟨_,rfl⟩:=Zw p;have⟨_,e⟩:=Zw o;rw[e]at this;exact CE this r
   obtain rfl:j=(c+f)/2:=Yv;rw[o.o]at p;cases p;exact r.o
  have J:bq (EN x.name n<0)=ba:=by simpa using λe=>m ((PL _ _).1 e)
  have r:Hid (less x.name n=ba):=by show _=_;simpa using m
  clear m;generalize EN x.name n=cv at *
  go_wp2;refine⟨⟨c,(c+f)/2,rfl,Yn,Yv,Yv,⟨u.1,?_⟩,q⟩,Ys⟩;intro j y C p;rcases B0 ((c+f)/2) j with h|h
  .have H:=(Zw p).1;have:=pairwise_iff_getElem.1 HS ((c+f)/2) j t H h;obtain⟨_,rfl⟩:=Zw p;have⟨_,e⟩:=Zw o;rw[e]at this;have G:=r.o;cases h':less d[j].name n with
   |false=>rfl
   |true=>rw[CE this h']at G;cases G
  obtain rfl:j=(c+f)/2:=Yv;rw[o.o]at p;cases p;exact r.o
 obtain rfl:c=f:=Yv;have E:Hid (Ep d n c):=⟨A,u.1,u.2⟩;by_cases hn:c<ed d
 .have o:=Yw (Zv hn);generalize d[c]=x at *
  obtain⟨r0,D⟩:=F wr l _ _ o;have I:(c:Int)<ed d:=Yv;go_wp2_with fail;refine(Mx x n wr).ah ?_;rintro e K ⟨rfl,s⟩;have q:=l.ag (s.ah B);clear r0 D;have m:Hid (bq (∃y,d[c]?=ai y/\y.name=n)=(EN x.name n==0)):=by
   show _=_;rw[o.o];by_cases h:x.name=n
   .rw[(Kp x.name n).2 h];simp[h]
   have D:¬EN x.name n=0:=λe=>h ((Kp x.name n).1 e);rw[show(EN x.name n==0)=ba by simpa using D];simp[h]
  generalize EN x.name n=cv at *
  go_wp2
  go_ret2
  exact⟨c,by rw[m.o];first|rfl|simp[Act.put],E,q⟩
 have m:Hid (bq (∃y,d[c]?=ai y/\y.name=n)=ba):=by show _=_;rw[getElem?_eq_none Yv];simp
 have I:¬((c:Int)<ed d):=Yv;go_wp2
 go_ret2
 exact⟨c,by rw[m.o];first|rfl|simp[Act.put],E,l⟩
theorem SG(v n c a:Int)(T:Dg){p l:Zk}(u t:Nat){d:C7}{f:C6}(s:Zi)(r:Bd w w.1.size p d)(q:Ba w w.1.size l f)(P:ed d<=1000)(O:ed f<=1000):
 D4 167 #[ca #[Zg v,Zg n,Zg c,Zg a,T,Cx p (ed d) u,Cx l (ed f) t],C0 s] w λe g=>Au ((∃p∈d,p.sum=s)\/∃l∈f,l.sum=s) w g e:=by
 obtain⟨I,G,F⟩:=Yw r,Yw q,BA.new w v n c a T (Cw p d u) (Cw l f t) 30;have m:bg w.1.size w (w.alloc (bs #[Zg v,Zg n,Zg c,Zg a,T,Cw p d u,Cw l f t] 30)):=gB;have⟨W,g⟩:=Du w #[Zg v,Zg n,Zg c,Zg a,T,Cw p d u,Cw l f t] 30;rw[<-g]at F m;have o:=Yw g;clear r q g;obtain⟨g,q,r,z,A,R,S,U⟩:=F;clear g q r z A;delta D4;go_in;go_upto_region 1 with fail;rw[<-o.o];clear o;go_wp2
 go_loop [5] (λi=>∃k:Nat,k<=ed d/\i=Zg k/\Hid (∀j x,j<k->d[j]?=ai x->¬x.sum=s)) (λi=>ed d -(intOf i).toNat)
 case atStart=>exact⟨0,Aw _,rfl,(λj x h=>Yv)⟩
 obtain⟨k,N,rfl,g⟩:=hrel;by_cases hlt:k<ed d
 .obtain⟨b,J,B,M,q⟩:=(Bd.A I m).at hlt;subst B;have o:Hid (d[k]?=ai d[k]):=gH;obtain⟨K,L⟩:=q k _ o;clear q;generalize d[k]=x at *
  by_cases h:x.sum=s
  .have D:(x.sum.toList==s.toList)=ay:=gA;have A:=Yw h;clear h;go_wp2;refine bodyPost_ret (results_tmp rfl _ _ _) rfl ?_;exact Au.yes (cr ⟨x,Zs o,A⟩) m
  have D:(x.sum.toList==s.toList)=ba:=BZ h;have z:Hid (∀j y,j<k+1->d[j]?=ai y->¬y.sum=s):=gH;clear h;go_wp2;exact⟨⟨k+1,Yv,Yn,z⟩,Ys⟩
 have H:Hid (¬∃p∈d,p.sum=s):=by rintro⟨y,E,r⟩;obtain⟨j,C,rfl⟩:=getElem_of_mem E;exact g j _ Yv (Zv C) r
 clear g;go_wp2
 go_loop [6] (λi=>∃k:Nat,k<=ed f/\i=Zg k/\Hid (∀j x,j<k->f[j]?=ai x->¬x.sum=s)) (λi=>ed f -(intOf i).toNat)
 case atStart=>exact⟨0,Aw _,rfl,(λj x h=>Yv)⟩
 obtain⟨k,N,rfl,g⟩:=hrel;by_cases hlt:k<ed f
 .obtain⟨b,J,B,M,q⟩:=(Ba.A G m).at hlt;subst B;have o:Hid (f[k]?=ai f[k]):=gH;obtain⟨K,L,Q⟩:=q k _ o;clear q;generalize f[k]=x at *
  by_cases h:x.sum=s
  .have D:(x.sum.toList==s.toList)=ay:=gA;have A:=Yw h;clear h;go_wp2;refine bodyPost_ret (results_tmp rfl _ _ _) rfl ?_;exact Au.yes (ct ⟨x,Zs o,A⟩) m
  have D:(x.sum.toList==s.toList)=ba:=BZ h;have z:Hid (∀j y,j<k+1->f[j]?=ai y->¬y.sum=s):=gH;clear h;go_wp2;exact⟨⟨k+1,Yv,Yn,z⟩,Ys⟩
 go_wp2;refine bodyPost_ret (results_tmp rfl _ _ _) rfl ?_;refine Au.no (λe=> ?_) m;rcases e with e|⟨y,E,r⟩
 .exact absurd e H
 obtain⟨j,C,rfl⟩:=getElem_of_mem E;exact absurd r (g j _ Yv (Zv C))
theorem PO:∀{zs:C7} {i:Nat},i<ed zs->∀y:Pd,((Af pC zs).set (i *2) (C0 y.name)).set (i *2+1) (C0 y.sum)=Af pC (zs.set i y)
 |[],i,h,_=>by simp at h
 |z::zs,0,h,y=>by simp[Af,pC]
 |z::zs,i+1,h,y=>by
  have b:=PO (zs:=zs) (i:=i) gA y;have e:Af pC (z::zs)=pC z++Af pC zs:=by simp[Af]
  have a:Af pC ((z::zs).set (i+1) y)=pC z++Af pC (zs.set i y):=by simp[Af]
  rw[e,a,<-b,show(i+1) *2=ed (pC z)+i *2 by rw[ES];omega];rw[set_append_right _ _ Yv,Nat.add_sub_cancel_left,show ed (pC z)+i *2+1=ed (pC z)+(i *2+1) by omega,set_append_right _ _ Yv,Nat.add_sub_cancel_left]
theorem PQ:∀{zs:C6} {i:Nat},i<ed zs->∀y:Ld,(((Af lC zs).set (i *3) (Zg y.M)).set (i *3+1) (C0 y.sum)).set (i *3+2) (Zg y.ci)=Af lC (zs.set i y)
 |[],i,h,_=>by simp at h
 |z::zs,0,h,y=>by simp[Af,lC]
 |z::zs,i+1,h,y=>by
  have b:=PQ (zs:=zs) (i:=i) gA y;have e:Af lC (z::zs)=lC z++Af lC zs:=by simp[Af]
  have a:Af lC ((z::zs).set (i+1) y)=lC z++Af lC (zs.set i y):=by simp[Af]
  rw[e,a,<-b,show(i+1) *3=ed (lC z)+i *3 by rw[Em];omega];rw[set_append_right _ _ Yv,Nat.add_sub_cancel_left,show ed (lC z)+i *3+1=ed (lC z)+(i *3+1) by omega,set_append_right _ _ Yv,Nat.add_sub_cancel_left,show ed (lC z)+i *3+2=ed (lC z)+(i *3+2) by omega,set_append_right _ _ Yv,Nat.add_sub_cancel_left]
theorem Nh{a:Zk}(m:Nat){c:Zl}(s:Zi)(f:Ad w B a c)(v:ed c<=1048576):
 D4 83 #[Cx a (ed c) m,C0 s] w λe d=>e=C1 (ec (c.any (λx=>decide (x=s))))/\d=w:=by
 delta D4;go_in;go_wp2
 go_loop [5] (λi=>∃k:Nat,k<=ed c/\i=Zg k/\Hid (∀j x,j<k->c[j]?=ai x->x≠s)) (λi=>ed c -(intOf i).toNat)
 case atStart=>exact⟨0,Aw _,rfl,λj x h=>Yv⟩
 obtain⟨k,u,rfl,d⟩:=hrel;by_cases hlt:k<ed c
 .obtain⟨b,q,n,t,g⟩:=f.at hlt;subst n;have l:=Yw (Zv hlt);have r:=g k _ l;clear g f;generalize c[k]=x at *
  by_cases he:x=s
  .subst he;have o:Hid (c.any (λy=>decide (y=x))=ay):=gH;go_wp2;go_ret;exact⟨AE o.symm,rfl⟩
  have p:=BZ he;have g:Hid (∀j y,j<k+1->c[j]?=ai y->y≠s):=gH;clear he d l;go_wp2;exact⟨⟨k+1,Yv,Yn,g⟩,Ys⟩
 go_wp2;go_ret;refine⟨AE ?_,rfl⟩
 symm
 rw[any_eq_false];intro x l;have⟨j,f⟩:=A3 l;simpa using d j x (C8 (Zw f).1) f
theorem Gy(t:Zi){k:Zk}(r:Nat){b:Zl}(O:Ad w w.1.size k b)(s:k=an->ed b=0/\r=0)(T:ed b<=1048576):
 D4 68 #[ca #[C0 t,Cx k (ed b) r]] w λe d=>∃g c,e=C1 (ca #[C0 t,Yz g (ed b) c])/\
  ej d w.1.size 9 1 (Yz g (ed b) c) (ed b) (b.map string)/\Zz w d:=by
 obtain⟨⟨P,N,H,I,J⟩,o,d⟩:=info_parts CQ,Du w #[C0 t,Cw k b r] 48;obtain⟨l,A,u,W,q⟩:=(Av d).1,(Av d).2.2,(Av d).2.1,Du o #[Zc,Zb] 48;have m:=(Av q).1;obtain⟨n,C,h⟩:=(Av q).2.2,A.A m,l.ag (m.ah l.size);obtain⟨x,B,D⟩:=n.lt,Ag o.1.size;have z:w.1.size<B:=Yv;rw[<-D]at n x;have i:w.1.size<W.1.size:=Yv;have G:=Yw d;have L:=Yw q;have M:Hid (w.1.size+1=B):=gD;obtain⟨E,F⟩:=Aa.c2 C 0 1;have f:bg W.1.size W (W.alloc (bs #[] 9)):=gB;have Q:ej (W.alloc (bs #[] 9)).drew (B+1) 9 1 (Yz W.1.size 0 0) 0 (([]:Zl).map string):=ownsRow_lit W #[] 0 Yv Yo rfl;have R:=(Ad.A O (h.ag (f.drew.ah h.size))).dg;obtain⟨X,Y,K,y⟩:=(f.cell (p:=⟨w.1.size,0,an⟩) i).ag E,(f.cell (p:=⟨w.1.size,1,an⟩) i).ag F,Yw n,Yw h;clear d q D l m A n C h u;delta D4;go_in;go_upto_region 1 with fail;rw[<-G.o,<-L.o,M.o]
 go_region_law (first
  |(refine Be (W.alloc (bs #[] 9)).drew rfl (.tmp 5) (.tmp 7) 23 rfl (B+1) 9 P Zc 16 underlying23 N H I J rfl W.1.size 0 0 [] rfl Q k (ed b) r b rfl rfl s R Yo Yv Yt ?_;intro D h S l n q u;simp only[Ax,nil_append]at l;have d:bg W.1.size W S:=f.drew.grown n Yu (λj m=>by cases m;exact Zx);have m:=Aa.A K d;obtain⟨y0,f0⟩:=m 0 _ rfl;obtain⟨y1,f1⟩:=m 1 _ rfl;have U:=(d.cell (p:=⟨w.1.size,0,an⟩) i).ag E;have V:=(d.cell (p:=⟨w.1.size,1,an⟩) i).ag F))
 all_goals
  have C:=Yw l;have A:=Yw (y.ag (d.ah y.size));go_wp2;refine Co (ca #[C0 t,C2 D b h]) (by simp[results,results68,go_sem, *]) ?_;refine⟨_,_,rfl,?_,?_⟩
  .exact(ownsRow_setCell_below (ownsRow_setCell_below C (a:=⟨B,0,an⟩) (Nat.lt_succ_self B) _) (a:=⟨B,1,an⟩) (Nat.lt_succ_self B) _).ah Yv
  exact(A.setCell (p:=⟨B,0,an⟩) (Nat.le_of_lt z) _).setCell (p:=⟨B,1,an⟩) (Nat.le_of_lt z) _
theorem SH(w:Zh)(x:Kd)(g c:Nat):∀j u,(kC (x,Yz g (ed x.C) c))[j]?=ai u->eh (w.alloc (bs #[C0 x.sum,Zg x.born,C0 x.Q,Yz g (ed x.C) c] 50)) ((⟨w.1.size,0,an⟩:Addr).add j)=ai u:=by intro j u a;rw[A1,Ax];exact((Aa.new w (kC (x,C2 g x.C c)) 50) j u a).1
theorem Wh(x:Kd)(g c:Nat):∀u∈kC (x,Yz g (ed x.C) c),u.oneCell'=ay:=by intro u a;simp[kC]at a;rcases a with rfl|rfl|rfl|rfl<;>rfl
theorem Ade{a:Nat}{e:TypeId}{size:Nat}{v:Dg}{b:Zj}(h:ej w a e size v n b)(c:0<n):v≠Zb:=by
 intro e;subst e;rcases h.2 with⟨_,d⟩|⟨_,_,_,e,_⟩
 .omega
 cases e
def Jy(w:Zh)(aa:Addr)(ks:List Kd):Prop:=∀(i:Nat) (k:Kd),ks[i]?=ai k->∃ad rc,eh w (Zd (aa.block) (aa.off+i *4+3))=ai (.slice (ai ad) (ed k.C) rc)
theorem BA.same''{g:Zh}{i d:Int}{T:Dg}(h:BA w b i f e d T P L)(r:g.1[b]?=w.1[b]?)(s:b<g.1.size):BA g b i f e d T P L:=by obtain⟨k,l,m,n,o,p,q,t⟩:=h;have c:=λj=>cell?_of_block (a:=⟨b,j,an⟩) r;exact⟨(c 0).ag k,(c 1).ag l,(c 2).ag m,(c 3).ag n,(c 4).ag o,(c 5).ag p,(c 6).ag q,s⟩
def Ic(w:Zh)(aa:Addr)(ks:List Kd):Prop:=∀(i:Nat) (k:Kd),ks[i]?=ai k->∀rc,eh w (Zd (aa.block) (aa.off+i *4+3))=ai (.slice an (ed k.C) rc)->rc=0
theorem Jy.cp{A:Addr}{b:C5}(h:Jy w A b):Ic w A b:=λi k d a a=>by have⟨f,e,c⟩:=h i k d;rw[c]at a;cases a
structure KV (w wr:Zh) (k tg tc:Nat) (rs:Zj) (wd now given births:Int) (A P L:Value) (ks:List Kd):Prop where
 o:Aa wr (w.1.size+1+1) [Zg wd,Zg now,Zg given,Zg births,.slice (ai ⟨tg,0,an⟩) k tc,P,L]
 fy:Aa wr (w.1.size+1) z7
 box:BA wr w.1.size wd now given births A P L
 aw:ej wr (w.1.size+3) 50 4 (.slice (ai ⟨tg,0,an⟩) k tc) k (Af kC ((ks.take k).zip rs))
 len:ed rs=k
 C:∀(i:Nat) (x:Kd) (r:Value),(ks.take k)[i]?=ai x->rs[i]?=ai r->ej wr (w.1.size+3) 9 1 r (ed x.C) (x.C.map Value.string)
 all:∀v∈rs,∃g n c,v=Value.slice (ai ⟨g,0,an⟩) n c
 nd:(tg::rs.filterMap Value.ownBlock).Nodup
 cn:bg w.1.size w wr
theorem KV.step{wr U t C:Zh}{s tc:Nat}{B:Zj}{W S d:Int}{A:Dg}{q:C5}{x:Kd}{u G p D:Nat}(h:KV w wr k s tc B W S l d A P L q)(V:q[k]?=ai x)(bU:Zz wr U)(b3:Zz U t)(N:ej t U.1.size 9 1 (Yz u (ed x.C) G) (ed x.C) (x.C.map Value.string))(o:ek t C (ai s))(zA:ej C (w.1.size+3) 50 4 (Yz p (k+1) D) (k+1) (Af kC ((q.take k).zip B)++kC (x,Yz u (ed x.C) G)))(J:p=s\/t.1.size<=p):KV w (el C (Zd (w.1.size+1+1) 4) (Yz p (k+1) D)) (k+1) p D (B++[Yz u (ed x.C) G]) W S l d A P L q:=by
 have zE:=(Zw V).1;have R:q.take (k+1)=q.take k++[x]:=by obtain⟨_,rfl⟩:=Zw V;exact gA
 obtain⟨zG,l3,zI,zH,zF⟩:=Ab h.aw (g:=s) rfl,Ab N (g:=u) rfl,bU.size,b3.size,h.o.lt;have m:bg wr.1.size wr t:=gB;have Q:∀b,b<t.1.size->b≠s->b≠w.1.size+1+1->(el C (Zd (w.1.size+1+1) 4) (Yz p (k+1) D)).1[b]?=t.1[b]?:=λb E c f=>(Below.heap_setCell _ _ _ _ Yv).ag (o.block b E (λe=>c (A2 e)));have n:∀b,b<wr.1.size->b≠s->b≠w.1.size+1+1->(el C (Zd (w.1.size+1+1) 4) (Yz p (k+1) D)).1[b]?=wr.1[b]?:=λb E c f=>(Q b Yv c f).ag (m.block b E);have K:ed (q.take k)=k:=Yt;have T:∀r∈B,∀g,ef r=ai g->w.1.size+3<=g/\g<wr.1.size:=by
  intro r j g c;obtain⟨i,I⟩:=A3 j;have zC:i<k:=by have:=(Zw I).1;have:=h.len;omega
  exact Ab (h.C i _ r (Zv Yv) I) c
 have Z:∀r∈B,∀g,ef r=ai g->g≠s:=λr j g c e=>(List.nodup_cons.1 h.nd).1 (e▸List.mem_filterMap.2 ⟨r,j,c⟩);refine⟨?_,?_,?_,?_,by simp[h.len],?_,?_,?_,?_⟩
 .have E:Aa C (w.1.size+1+1) _:=Aa.same (Aa.A h.o m) (o.block _ Yv (λe=>C8 (A2 e)));exact Aa.set E 4 _
 .exact Aa.same h.fy (n _ Yv Yv Yv)
 .exact BA.same'' h.box (n _ Yv Yv Yv) (by simp;have:=o.size;omega)
 .rw[R,List.zip_append (by rw[K,h.len]),Cn];exact BU zA (λg c=>by simp[Value.ownBlock]at c;omega) 4 _
 .intro i y r z j;rw[R]at z;have zB:=h.len;rcases B0 i k with I|I
  .rw[List.getElem?_append_left Yv]at z j;have f:=Zs j;exact Ar (h.C i y r z j) (λg c=>n g (T r f g c).2 (Z r f g c) (C8 (T r f g c).1))
  have Y:i=k:=gG;subst Y;rw[List.getElem?_append_right Yv,K,Nat.sub_self]at z;rw[List.getElem?_append_right Yv,zB,Nat.sub_self]at j;simp at z j;subst z;subst j;exact Ar (World.ownsRow.ah N Yv) (λg c=>by simp[Value.ownBlock]at c;subst c;exact Q _ l3.2 Yv Yv)
 .intro v F;rcases A5.1 F with F|F
  .exact h.all v F
  simp at F;exact gA
 .rw[List.filterMap_append];have X:List.filterMap Value.ownBlock [C2 u x.C G]=[u]:=by simp[Value.ownBlock]
  rw[X];have O:∀b∈B.filterMap Value.ownBlock,b<wr.1.size:=gB;have M:=List.nodup_cons.1 h.nd;refine List.nodup_cons.2 ⟨?_,?_⟩
  .intro f;rcases A5.1 f with f|f
   .rcases J with rfl|H
    .exact M.1 f
    have:=O _ f;omega
   simp at f;have:=o.size;rcases J with H|H<;>omega
  refine List.nodup_append.2 ⟨M.2,Yu,λa H b b e=> ?_⟩;simp at b;have:=O a H;omega
 exact(((h.cn.ag (m.ah h.cn.size)).grown o Yv (λg c=>by cases c;omega))).setCell Yt _
theorem GI{P:Program}(w:Zh){B:Array Oper}{rest:List Oper}{o:Oper}{a:Act}{Q:Exit->Act->Zh->Prop}(y:o.guard=an)(s x:Operand)(t:TypeId)(E:o.op=.call {callee:=.builtin .append,args:= #[s,x],argTypes:= #[t,t]})(base:Nat)(e:TypeId)(i:TypeInfo)(z:Dg)(size bytes:Nat)(G:P.underlying t=ai (.slice e))(D:P.info? e=ai i)(O:i.zero=ai z)(k:i.size=size)(J:i.bytes=bytes)(L:z.cells.size=size)(K:0<size)(v:Dg)(n:Nat)(q:Zj)(F:a.eval s=v)(d:ej w base e size v n q)(p:Zk)(m c:Nat)(news:Zj)(H:a.eval x=Cx p m c)(r:p=an->m=0/\c=0)(N:ed news=m *size)(g:∀A,p=ai A->∀j u,news[j]?=ai u->eh w (A.add j)=ai u)(M:∀u∈news,u.oneCell'=ay)(I:n+m<=maxLen)(b:(n+m) *bytes<=140737488355328)(f:base<=w.1.size)(h:∀l C,ej C base e size l (n+m) (q++news)->ek w C (ef v)->(l=Zb↔v=Zb/\m=0)->(ef l=ef v\/ef l=ai w.1.size)->wpList P B Q rest (a.put o.dst l) C):
 wpList P B Q (o::rest) a w:=by
 cases p with
 |some A=>exact wpList_append_own_at w y s x t E base e i z size bytes G D O k J L K v n q F d A m c news H N (g A rfl) M I b f h
 |none=>obtain⟨rfl,rfl⟩:=r rfl;have l:news=[]:=gA;subst l;have C:(Builtin.append_ #[t,t] o.type #[v,Zb]).run P w=.ok v w:=run_append_owned_none (P:=P) w base t o.type e i size G D v n q d;exact wpList_append_run y s x t t E F H C (h v w Yt ⟨rfl,rfl,rfl,Zx,λ_ _ _=>rfl⟩ Yu (cr rfl))
theorem Bd.gl{a:Zk}{d:C7}(h:Bd w B a d){A:Addr}(c:a=ai A):∀j u,(Af pC d)[j]?=ai u->eh w (A.add j)=ai u:=by
 rcases h with h|⟨b,f,e,g,i⟩
 .subst h;intro j u k;simp[Af]at k
 rw[e]at c;cases c;exact Bd.fj (B:=B) (ct ⟨b,f,rfl,g,i⟩)
theorem Ba.gl{a:Zk}{d:C6}(h:Ba w B a d){A:Addr}(c:a=ai A):∀j u,(Af lC d)[j]?=ai u->eh w (A.add j)=ai u:=by
 rcases h with h|⟨b,f,e,g,i⟩
 .subst h;intro j u k;simp[Af]at k
 rw[e]at c;cases c;exact Ba.fj (B:=B) (ct ⟨b,f,rfl,g,i⟩)
theorem Kr(M C d a:Int){sa L H:Zk}(ac Q O:Nat){m:C5}{f:C7}{s:C6}(y:BV w w.1.size sa L H m f s)(l:∀A,sa=ai A->Ic w A m)(xD:L=an->Q=0)(yY:H=an->O=0)(hk:ed m<=600)(hp:ed f<=100)(hl:ed s<=200)(zJ:∀k∈m,ed k.C<=30):
 Calls prog 81 #[ca (Yg M C d a sa (ed m) ac L (ed f) Q H (ed s) O)] w λe B=>∃T z t R,e=C1 (ca #[Zg M,Zg C,Zg d,Zg a,T,z,t])/\Bc B w.1.size T z t R m f s/\(∀v∈T::z::t::R,∃g n c,v=Yz g n c)/\Zz w B:=by
 obtain⟨W,t⟩:=Ag ((((w.alloc (bs (C4 M C d a sa m ac L f Q H s O) 30)).alloc (bs Yi 30)).alloc (bs (Yg M C d a (ai ⟨w.1.size+1+1+1,0,an⟩) 0 0 L (ed f) Q H (ed s) O) 30)).alloc (bs #[] 50));have hB:=(al4 t).1;have D:=(al4 t).2.1;have G:BA W w.1.size M C d a (Cw sa m ac) (Cw L f Q) (Cw H s O):=by rw[t];exact⟨by simp[go_sem],by simp[go_sem],by simp[go_sem],by simp[go_sem],by simp[go_sem],by simp[go_sem],by simp[go_sem],Yt⟩
 have zR:Aa W (w.1.size+1) z7:=by intro j v K;have hj:j<7:=(Zw K).1;rw[t];rcases(show j=0\/j=1\/j=2\/j=3\/j=4\/j=5\/j=6 by omega)with rfl|rfl|rfl|rfl|rfl|rfl|rfl<;>(simp[z7]at K;subst K;simp[go_sem])
 have I:Aa W (w.1.size+1+1) (Yh M C d a (ai ⟨w.1.size+1+1+1,0,an⟩) 0 0 L (ed f) Q H (ed s) O):=by intro j v K;have hj:j<7:=(Zw K).1;rw[t];rcases(show j=0\/j=1\/j=2\/j=3\/j=4\/j=5\/j=6 by omega)with rfl|rfl|rfl|rfl|rfl|rfl|rfl<;>(simp at K;subst K;simp[go_sem])
 have F:ej W (w.1.size+3) 50 4 (Yz (w.1.size+1+1+1) 0 0) 0 (Af kC []):=by have:=World.ownsRow_lit (base:=w.1.size+3) (e:=50) (size:=4) (((w.alloc (bs (C4 M C d a sa m ac L f Q H s O) 30)).alloc (bs Yi 30)).alloc (bs (Yg M C d a (ai ⟨w.1.size+1+1+1,0,an⟩) 0 0 L (ed f) Q H (ed s) O) 30)) #[] 0 Yu Yo rfl;rw[<-t]at this;simpa [Af]using this
 obtain⟨B,E,yP,z⟩:=Yw (Zn y l),Yw t,Yw D,Yw (Zn I (Zn zR (Zn G F)));clear t y l I zR G F D;go_in;go_upto_region 3 with fail;rw[<-E.o];clear E;go_wp2;go_loopw [4] (λi wr=>∃(k S tc:Nat) (R:Zj),k<=ed m/\i=Zg k/\Hid (KV w wr k S tc R M C d a (Cw sa m ac) (Cw L f Q) (Cw H s O) m)) (λi _=>ed m -(intOf i).toNat)
 case atStart=>exact⟨0,w.1.size+1+1+1,0,[],Aw _,rfl,⟨z.o.1,z.o.2.1,z.o.2.2.1,z.o.2.2.2,rfl,(λi x r hx=>by simp at hx),(λv K=>by simp at K),Yu,hB⟩⟩
 clear z;obtain⟨k,S,tc,R,xP,rfl,E⟩:=hrel;have G:=E.o.cn;obtain⟨T,c,u,x2,x3,x4,x5,x6,Z⟩:=G.size,E.o.box;by_cases n:k<ed m
 .obtain⟨ab,ao,ha,hb,t⟩:=(BH.A B.o.1.k G).at n;subst ha;have HG:Hid (m[k]?=ai m[k]):=Zv n;obtain⟨V,X,Y,ra,rc,N,l⟩:=t k _ HG.o;have yH:Hid (ra=an->ed m[k].C=0/\rc=0):=λe=>by
   subst e;refine⟨?_,B.o.2 _ rfl k _ HG.o rc ((G.cell (p:=⟨ab,ao+k *4+3,an⟩) hb).symm.ag N)⟩;rcases l with h|⟨_,_,h,_⟩
   .rw[h];rfl
   cases h
  have xL:=zJ _ (List.getElem_mem n);have xN:ab<wr.1.size:=Yv;have yL:=Yw (Ad.ah l T);clear t l;generalize m[k]=x at *
  obtain⟨U,y⟩:=Du wr #[C0 x.sum,Zg x.born,C0 x.Q,Cw ra x.C rc] 50;obtain⟨t,I,z,⟨i0,hi,xG,xH,xI⟩,l⟩:=(Av y).1,(Av y).2.1,(Av y).2.2,info_parts Jv,yP.o;have J:w.1.size+4<=wr.1.size\/True:=ct trivial;have yZ:w.1.size+1+1<wr.1.size:=E.o.o.lt;obtain⟨zC,HU,D⟩:=Ab E.o.aw (g:=S) rfl,Yw y,Aa.A E.o.o t;have u4:=(D 4 _ rfl).1;obtain⟨k0,k1,k2,k3⟩:=Aa.c4 z 0 1 2 3;have F:=Ai E.o.aw t;obtain⟨HT,HS,zM,yN,yO⟩:=Yw F,Yw D,Yw z,Yw t,Yw I;have yK:Hid (Ad U.drew U.drew.1.size ra x.C):=Ad.ah (Ad.A yL.o t.drew) t.size;have xE:ed x.C<=1048576:=Yv;have zG:¬w.1.size+1+1=wr.1.size:=Yv;clear y F D z t I l J;go_upto_region 7 with fail;rw[<-HU.o];clear HU c u x2 x3 x4 x5 x6 Z V X Y N
  go_region_law (first
   |(go_simp;go_at_call 68;refine(Gy x.Q rc yK.o yH.o xE).ah ?_;rintro e y ⟨V,N,rfl,I,t⟩;have F:bg U.1.size U y:=⟨t.os,t.tape,t.output,t.size,t.block⟩;have z3:=F.size;have J:=Aa.A HS.o F;have n4:=(J 4 _ rfl).1;obtain⟨m0,_⟩:=Aa.A zM.o F 0 _ rfl;obtain⟨m1,_⟩:=Aa.A zM.o F 1 _ rfl;have X:bg y.1.size y (y.alloc (bs #[C0 x.sum,Zg x.born,C0 x.Q,C2 V x.C N] 50)):=Zy;have q:=(Aa.A J X 4 _ rfl).1;have l:=yO.o;obtain⟨v5,w5,hr5,ho5,hg5,_,ha5⟩:=run_append_own_at (P:=prog) (y.alloc (bs #[C0 x.sum,Zg x.born,C0 x.Q,C2 V x.C N] 50)) (w.1.size+3) 26 26 50 i0 _ 4 64 underlying26 hi xG xH xI rfl Yq _ k _ (Ai (Ai HT.o F) X) ⟨y.1.size,0,an⟩ 1 1 (kC (x,C2 V x.C N)) rfl (SH y x V N) (Wh x V N) Yo Yv Yt;obtain⟨g4,c4,rfl,hg4a,hg4b⟩:=Cv ho5 (Ade ho5 Yv);have o:=Ab I (g:=V) rfl;have D:ek y w5 (ai S):=AF (Al _ X) hg5;have z:g4=S\/y.1.size<=g4:=ha5.imp (λe=>by simpa [Value.ownBlock]using e) (λe=>by simp[Value.ownBlock]at e;omega);have Y:w5.1[w.1.size+1+1]?=(y.alloc (bs #[C0 x.sum,Zg x.born,C0 x.Q,C2 V x.C N] 50)).1[w.1.size+1+1]?:=hg5.block _ Yt (by simp[Value.ownBlock];omega);have Z:=Aa.same (Aa.A J X) Y;have y5:=(Z 4 _ rfl).1;have f5:=(Z 4 _ rfl).2;clear l;go_wp2_with fail)
   |(refine CK Yp (.tmp 22) (.tmp 31) 26 26 Yp Yp Yp hr5 ?_))
  all_goals
   have HF:Hid (KV w _ (k+1) g4 c4 (R++[C2 V x.C N]) M C d a (Cw (ai ⟨ab,ao,an⟩) m ac) (Cw L f Q) (Cw H s O) m):=KV.step E.o HG.o yN.o F I D ho5 z;clear I t F z3 J n4 m0 m1 X q hr5 ho5 hg5 ha5 D z hg4a hg4b o Y Z y5 f5 u4 k0 k1 k2 k3;go_wp2;exact⟨⟨k+1,g4,c4,R++[C2 V x.C N],Yv,Yn,HF⟩,Ys⟩
 obtain rfl:k=ed m:=Yv;have t:=E.o;obtain⟨zC,yZ,⟨ip,yU,xA,xB,xC⟩,il,yT,yV,yW,yX⟩:=Ab t.aw (g:=S) rfl,t.o.lt,info_parts Ji,info_parts IB;have bP:bg wr.1.size wr (wr.alloc (bs #[] 148)):=Zy;have D:=(t.o 5 _ rfl);have zG:¬w.1.size+1+1=wr.1.size:=Yv;have z:Bd wr wr.1.size L f:=Bd.ah (Bd.A B.o.1.p G) T;have yM:=Yw z;have yJ:Hid (L=an->ed f=0):=λe=>by
  rcases B.o.1.p with h|⟨q,o,h,_⟩
  .rw[h];rfl
  rw[e]at h;cases h
 have yG:Hid (H=an->ed s=0):=λe=>by
  rcases B.o.1.l with h|⟨q,o,h,_⟩
  .rw[h];rfl
  rw[e]at h;cases h
 clear t c u x2 x3 z D;go_wp2_with (first
  |(at_builtin;refine GI _ rfl _ _ 27 rfl (w.1.size+3) 148 ip _ 2 32 underlying27 yU xA xB xC rfl Yq _ 0 (Af pC []) rfl ?d0 L (ed f) Q (Af pC f) rfl ?dn ?d1 ?d2 ?d3 ?d4 ?d5 ?d6 ?_)
  |go_in)
 case d0=>exact World.ownsRow_lit (base:=w.1.size+3) (e:=148) (size:=2) wr #[] 0 Yv Yo rfl
 case dn=>exact λe=>⟨yJ.o e,xD e⟩
 case d1=>exact CF ES f
 case d2=>exact λA hA=>Bd.gl (Bd.A yM.o bP) hA
 case d3=>exact Su f
 case d4=>unfold maxLen;omega
 case d5=>omega
 case d6=>simp;omega
 intro v1 z Y c zW zE;obtain⟨t,D,rfl,xK,zH⟩:=Cv Y zW;rw[show Af pC []=[]from rfl,List.nil_append]at Y;have Z:bg wr.1.size wr z:=bP.grown c Yu (λq l=>by simp[Value.ownBlock]at l;omega);have z1:=Z.size;have S1:=Aa.A E.o.o Z;obtain⟨⟨s5,f5⟩,_,_,_,_,_,_,z6,_⟩:=S1 5 _ rfl,BA.A E.o.box Z;have yA:wr.1.size<=t:=by
  rcases(Ab Y (g:=t) rfl)with⟨X,h2⟩;have:=c;rcases B0 t wr.1.size with h|h
  .exfalso;have hb:=Z.block t h;rcases Y.2 with⟨e,_⟩|⟨q,cq,xM,e,_,l,_⟩
   .cases e
   cases e;exact absurd h (by rcases zE with hh|hh<;>simp[Value.ownBlock]at hh<;>omega)
  exact h
 have S2:=Aa.set S1 5 (C2 t f D);have yQ:(el z (Zd (w.1.size+1+1) 5) (C2 t f D)).1.size=z.1.size:=Yu;have g:Ba z z.1.size H s:=Ba.ah (Ba.A B.o.1.l (G.ag (Z.ah T))) Yv;have bL:bg z.1.size z z:=Below.refl _ _;have zN:Hid (∀A,H=ai A->∀j u,(Af lC s)[j]?=ai u->eh ((el z (Zd (w.1.size+1+1) 5) (C2 t f D)).alloc (bs #[] 112)) (A.add j)=ai u):=by
  intro A hA j u hu;rcases B.o.1.l with h|⟨lb,lo,e,n,_⟩
  .subst h;simp[Af]at hu
  rw[e]at hA;cases hA;have X:=Ba.gl g e j u hu;rw[A1]at X |-;rw[World.cell?_of_block (Below.heap_alloc _ _ _ Yt),World.cell?_of_block (Below.heap_setCell _ _ _ _ Yt)];exact X
 obtain⟨yI,zP,zK⟩:=Yw Y,Yw S2,Yw Z;have yE:¬w.1.size+1+1=z.1.size:=Yv;have yF:¬w.1.size=w.1.size+1+1:=Yv
 clear Y c zW Z S1 S2 x5 x6 x4 g bL;go_wp2_with (first
  |(at_builtin;refine GI _ rfl _ _ 28 rfl (w.1.size+3) 112 il _ 3 32 underlying28 yT yV yW yX rfl Yq _ 0 (Af lC []) rfl ?e0 H (ed s) O (Af lC s) rfl ?en ?e1 ?e2 ?e3 ?e4 ?e5 ?e6 ?_)
  |go_in)
 case e0=>
  have:=World.ownsRow_lit (base:=w.1.size+3) (e:=112) (size:=3) (el z (Zd (w.1.size+1+1) 5) (C2 t f D)) #[] 0 Yt Yo rfl;rw[yQ]at this;exact this
 case en=>exact λe=>⟨yG.o e,yY e⟩
 case e1=>exact CF Em s
 case e2=>exact zN.o
 case e3=>exact VW s
 case e4=>unfold maxLen;omega
 case e5=>omega
 case e6=>simp;omega
 intro v3 y I zT zX c;obtain⟨Z,zA,rfl,xJ,zF⟩:=Cv I zX;rw[show Af lC []=[]from rfl,List.nil_append]at I;have F:bg z.1.size (el z (Zd (w.1.size+1+1) 5) (C2 t f D)) y:=by have h0:bg z.1.size (el z (Zd (w.1.size+1+1) 5) (C2 t f D)) ((el z (Zd (w.1.size+1+1) 5) (C2 t f D)).alloc (bs #[] 112)):=Ae.alloc Yu _;exact h0.grown zT Yu (λq l=>by simp[Value.ownBlock]at l;omega)
 have z3:z.1.size<=y.1.size:=by have:=F.size;simpa using this
 have zV:z.1.size<=Z:=by rcases c with hh|hh<;>simp[Value.ownBlock]at hh<;>omega
 have zI:t<z.1.size:=zH;have J:Aa y (w.1.size+1+1) _:=Aa.same zP.o (F.block _ Yv);obtain⟨S4,⟨r6,f6⟩,r0,r1,r2,r3,r4,r5⟩:=Aa.set J 6 (C2 Z s zA),J 6 _ rfl,(J 0 _ rfl).1,(J 1 _ rfl).1,(J 2 _ rfl).1,(J 3 _ rfl).1,(J 4 _ rfl).1,(J 5 _ rfl).1;have Y:∀q,q<wr.1.size->q≠w.1.size+1+1->y.1[q]?=wr.1[q]?:=λq X h2=>((F.block q Yv).ag (Below.heap_setCell _ _ _ _ (C9 h2))).ag (zK.o.block q X);have R3:Aa y (w.1.size+1) z7:=Aa.same E.o.fy (Y _ Yv Yv);obtain⟨⟨y0,q0⟩,⟨y1,q1⟩,⟨y2,q2⟩,⟨y3,q3⟩,⟨y4,q4⟩,⟨y5,q5⟩,y6,q6⟩:=SB R3;have yD:¬w.1.size+1+1=w.1.size+1:=Yv;have zZ:∀q,ef (C2 t f D)=ai q->t=q:=λq l=>by simpa [Value.ownBlock]using l
 have g:ej y (w.1.size+3) 148 2 (C2 t f D) (ed f) (Af pC f):=Ar (BU (b:=w.1.size+1+1) yI.o (λq l=>C8 (zZ q l)) 5 (C2 t f D)) (λq l=>(zZ q l)▸F.block t zI);have H3:=Yw (Zn I (Zn g (Zn Y (Zn F (Zn zV (Zn yA z3))))));clear I zT zX c g Y F J S4 R3 z6 s5 f5 zN zP;go_wp2;obtain⟨I,g,Y,F,zV,yA,z3⟩:=H3.o;have hX:∀q,q<y.1.size->q≠w.1.size+1+1->q≠w.1.size+1->((el (el (el (el (el (el (el (el y (Zd (w.1.size+1+1) 6) (C2 Z s zA)) (Zd (w.1.size+1) 0) (Zg M)) (Zd (w.1.size+1) 1) (Zg C)) (Zd (w.1.size+1) 2) (Zg d)) (Zd (w.1.size+1) 3) (Zg a)) (Zd (w.1.size+1) 4) (C2 S m tc)) (Zd (w.1.size+1) 5) (C2 t f D)) (Zd (w.1.size+1) 6) (C2 Z s zA))).1[q]?=y.1[q]?:=λq _ h2 J=>by
  rw[Below.heap_setCell _ _ _ _ (C9 J),Below.heap_setCell _ _ _ _ (C9 J),Below.heap_setCell _ _ _ _ (C9 J),Below.heap_setCell _ _ _ _ (C9 J),Below.heap_setCell _ _ _ _ (C9 J),Below.heap_setCell _ _ _ _ (C9 J),Below.heap_setCell _ _ _ _ (C9 J),Below.heap_setCell _ _ _ _ (C9 h2)]
 have xF:m.take (ed m)=m:=Zt (Zx);obtain⟨zS,c,yS,yR⟩:=E.o.aw,E.o.C,E.o.nd,E.o.len;rw[xF]at zS c;have zB:∀r∈R,∀q,ef r=ai q->w.1.size+3<=q/\q<wr.1.size:=by intro r J q l;obtain⟨i,hi⟩:=A3 J;have xO:=(Zw hi).1;exact Ab (c i m[i] r (Zv Yv) hi) l
 have yC:∀q,q<wr.1.size->w.1.size+3<=q->_:=λq X h2=>(hX q Yv Yv Yv).ag (Y q X Yv);refine Co (ca (C4 M C d a (ai ⟨S,0,an⟩) m tc (ai ⟨t,0,an⟩) f D (ai ⟨Z,0,an⟩) s zA)) (by simp[results,results81,go_sem,y0,y1,y2,y3,y4,y5,y6]) ⟨_,_,_,R,rfl,⟨yR,?_,?_,?_,?_,?_⟩,?_,?_⟩
 .exact(Ar zS (fun q l=>by have e:S=q:=K2
                           rw[<-e];exact yC S zC.2 zC.1)).ah Yv
 .intro i x r hx J;have hm:=Zs J;exact(Ar (c i x r hx J) (λq l=>yC q (zB r hm q l).2 (zB r hm q l).1)).ah Yv
 .exact(Ar g (fun q l=>by have e:t=q:=K2
                          rw[<-e];exact hX t Yv Yv Yv)).ah Yv
 .exact(Ar I (fun q l=>by have e:Z=q:=K2
                          rw[<-e];exact hX Z zF Yv Yv)).ah Yv
 .rw[Ho];unfold BJ;have zY:=List.nodup_cons.1 yS;have yB:∀q∈R.filterMap Value.ownBlock,q<wr.1.size:=λq l=>by obtain⟨r,J,l⟩:=List.mem_filterMap.1 l;exact(zB r J q l).2
  simp only[Value.ownBlock,Option.toList_some,List.cons_append,List.nil_append,List.nodup_cons,Bh,not_or];refine⟨⟨Yv,Yv,zY.1⟩,⟨Yv,λh=>C8 (yB _ h)⟩,λh=>C8 (yB _ h),zY.2⟩
 .intro v K;simp only[Bh]at K;rcases K with rfl|rfl|rfl|K
  .exact⟨_,_,_,rfl⟩
  .exact⟨_,_,_,rfl⟩
  .exact⟨_,_,_,rfl⟩
  exact E.o.all v K
 have X:bg w.1.size w y:=by have h0:=G.ag (zK.o.ah T);exact(h0.setCell Yt _).ag (F.ah Yv)
 exact FX (X.setCell (p:=⟨w.1.size+1+1,6,an⟩) Yt _) Yv _ _ _ _ _ _ _
theorem Jz(x j b a:Int)(l o m:Zk)(y u t:Nat)(d:C5)(i:C7)(h:C6)(w:Zh)(q:BV w w.1.size l o m d i h)(f:∀A,l=ai A->Jy w A d)(D:o=an->u=0)(C:m=an->t=0)(E:ed d<=600)(G:ed i<=100)(F:ed h<=200)(p:∀k∈d,ed k.C<=30):
 D4 81 #[ca (Yg x j b a l (ed d) y o (ed i) u m (ed h) t)] w λe B=>∃T s r z,e=C1 (ca #[Zg x,Zg j,Zg b,Zg a,T,s,r])/\Bc B w.1.size T s r z d i h/\(∀v∈T::s::r::z,∃g n c,v=Yz g n c)/\Zz w B:=
 Kr x j b a y u t q (λA r=>(f A r).cp) D C E G F p
theorem YX{c:Zl}(h:∀(j:Nat) p q,c[j]?=ai p->c[j+1]?=ai q->less p q=ay):c.Pairwise (λa b=>less a b=ay):=by
 have k:∀(d i:Nat) u v,c[i]?=ai u->c[i+d+1]?=ai v->less u v=ay:=by
  intro d;induction d with
  |zero=>intro i u v e f;exact h i u v e f
  |succ d ih=>intro i u v e f;have o:=(Zw f).1;have g:c[i+d+1]?=ai c[i+d+1]:=gA;exact CE (ih i u _ e g) (h _ _ _ g Yv)
 rw[pairwise_iff_getElem];intro i j l m n;exact k (j -i -1) i _ _ (Zv l) (by rw[show i+(j -i -1)+1=j by omega];exact Zv m)
theorem Ln{d:Zl}(h:d.Pairwise (λa b=>less a b=ay)):d.Nodup:=by refine Pairwise.imp ?_ h;intro a b c e;rw[e,Cz]at c;cases c
theorem NT{d:Zl}(h:Ek f d=ay):d.Pairwise (λa b=>less a b=ay):=by refine YX (λj p q e c=> ?_);have g:=(Zw c).1;unfold Ek at h;rw[all_eq_true]at h;have:=h (j+1) Yt;rw[EC c e]at this;simp at this;exact this.2
theorem AM{P:Program}{e:Func}{p:Tmp}{c:TypeId}(h:e.results= #[.cell p c])(tmps:Array Value)(w:Zh)(b:Nat)(a:Zj)(d:TypeDesc)(l:tmps.getD p undef=Yy b)(g:w.rangeAt b 0 a)(k:P.underlying c=ai d)(i:d.isRow=ay)(j:(P.info? c).map (·.size)=ai (ed a)):
 (results e tmps).run P w=.ok (ca a.toArray) w:=by
 have f:tmps[p]?.getD undef=Yy b:=gA;simp[results,h,f,asAddr,run_loadVar_mid w b 0 c a d g k i j]
theorem Dz{P:Program}{e:Func}{p u:Tmp}{c:TypeId}{x:Dg}(h:e.results= #[.cell p c,.tmp u])(tmps:Array Value)(w:Zh)(b:Nat)(a:Zj)(d:TypeDesc)(j:tmps.getD p undef=Yy b)(l:tmps.getD u undef=x)(f:w.rangeAt b 0 a)(k:P.underlying c=ai d)(g:d.isRow=ay)(i:(P.info? c).map (·.size)=ai (ed a)):
 (results e tmps).run P w=.ok (.tuple #[ca a.toArray,x]) w:=by
 rw[results_cell_tmp h,j,l];simp[asAddr,run_loadVar_mid w b 0 c a d f k g i]
