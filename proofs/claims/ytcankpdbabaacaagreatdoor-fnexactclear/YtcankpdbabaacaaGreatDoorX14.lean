import Derived.Test.YtcankpdbabaacaaGreatDoorX01
import Derived.Deep.RegionLaw
import Derived.Test.YtcankpdbabaacaaGreatDoorRows
import Derived.OpenShut
import Derived.ShutString
import Derived.Lib.SmallJoins
import Derived.Lib.LaidTab
import Derived.LaidEql
import Derived.Stop.Asserts
import Derived.RowKitTokens
set_option maxRecDepth 100000
set_option maxHeartbeats 16000000
namespace Go.Proofs.YtcankpdbabaacaaGreatDoor
open Go.ChangeShapes Go.WideShapes Go.ChangeAt Go.RowKit _root_.Go.Proofs.Tryz
variable{s t:Zi}{w W wr:Zh}{e:TypeId}{n a b k:Nat}{v:Value}{c held:Bool}{m:Int}{o:Obj}{d:Zj}{H:Type}{p:List MemPlace}{row:Option Nat}
def DV(k:Nat):Bool:=k==2||k==4||k==7
def Dv(k:Nat):Bool:=k==2||k==3
def CO(k:Nat):Bool:=k==1
def CG(k:Nat):Int:=if k=1\/k=4\/k=6 then 100000 else if k=5 then 1000000000 else 0
def Ek(u:Bool)(s:Zi)(wd:Int):Bool:=if u then decide ((s.size:Int)=wd)else decide (s.size=0)
def EZ(u:Bool)(s:Zi):Bool:=if u then Dg s else decide (s.size=0)
def El(m n:Int):Bool:=if m=0 then decide (n=0)else decide (1<=n/\n<=m)
def IB(u:Bool)(t:Zi)(ss:Zl)(wd:Int):Bool:=if u then AO t ss wd else decide (t.size=0/\ss.length=0)
theorem FN:s.toList.isEmpty=decide (s.size=0):=by
 have:s.toList.length=s.size:=by rw[ByteArray.toList_eq];simp
 rw[<-this];cases s.toList<;>simp
theorem Qi(s:Zi)(a b c:Bool)(m f:Int)(w:Zh):
 Calls prog 204 #[.string s,.agg #[.bool a,.bool b,.bool c,Zg m],Zg f] w fun e h=>e=.returned (.bool (Ek b s f))/\Zz w h:=by
 cases b with
 |true=>go_enter func204,ntmps204;go_wp2;go_ret;exact⟨Ax rfl,Zy⟩
 |false=>have d:=FN (s:=s);have g:=Yx d;clear d;go_enter func204,ntmps204;go_wp2;go_ret;exact⟨Ax g.o,Zy⟩
theorem OW(s:Zi)(a b c:Bool)(m:Int)(w:Zh)(f:s.size<=maxLen):
 Calls prog 205 #[.string s,.agg #[.bool a,.bool b,.bool c,Zg m]] w fun e g=>e=.returned (.bool (EZ a s))/\Zz w g:=by
 cases a with
 |true=>go_enter func205,ntmps205;go_wp2_with fail;refine(Tp s _ f).mono ?_;rintro e h ⟨rfl,rfl⟩;go_wp2;go_ret;exact⟨Ax rfl,Zy⟩
 |false=>have d:=Yx (FN (s:=s));go_enter func205,ntmps205;go_wp2;go_ret;exact⟨Ax d.o,Zy⟩
theorem Qj(n:Int)(a b c:Bool)(m:Int)(w:Zh):
 Calls prog 206 #[Zg n,.agg #[.bool a,.bool b,.bool c,Zg m]] w fun e f=>e=.returned (.bool (El m n))/\Zz w f:=by
 by_cases hm:m=0
 .subst hm;go_enter func206,ntmps206;go_wp2;go_ret;exact⟨Ax (by unfold El;rw[if_pos rfl];rfl),Zy⟩
 .have h:(m==0)=false:=by simpa using hm
  have d:=Yx hm;clear hm;by_cases h1:1<=n
  .go_enter func206,ntmps206;go_wp2;go_ret;exact⟨Ax (by unfold El;rw[if_neg d.o];simp[h1]),Zy⟩
  .have g:decide (1<=n)=false:=by simpa using h1
   go_enter func206,ntmps206;go_wp2;go_ret;exact⟨Ax (by unfold El;rw[if_neg d.o,decide_eq_false Yw]),Zy⟩
theorem NK(t:Zi)(g:Zk)(cap:Nat)(d:Zl)(a b c:Bool)(m k:Int)(w:Zh)(i:Ad w w.heap.size g d)(o:d.length<=1048576)(p:t.size<=maxLen):
 Calls prog 207 #[.agg #[.string t,.slice g d.length cap],.agg #[.bool a,.bool b,.bool c,Zg m],Zg k] w fun e q=>e=.returned (.bool (IB c t d k))/\Zz w q:=by
 have f:Below w.heap.size w ((w.alloc (.cells #[.string t,.slice g d.length cap] 64)).alloc (.cells #[.bool a,.bool b,.bool c,Zg m] 231)):=(Zy).alloc Yv _;cases c with
 |true=>go_enter func207,ntmps207;go_wp2_with fail;refine(Ex t g cap d k _ (i.j f) o p).mono ?_;rintro e r ⟨rfl,rfl⟩;go_wp2;go_ret;exact⟨Ax rfl,f.alloc Yu _⟩
 |false=>
  by_cases h1:t.size=0
  .have n:t.toList.isEmpty=true:=by rw[FN];simpa using h1
   have j:=Yx h1;clear h1;go_enter func207,ntmps207;go_wp2;go_ret;refine⟨Ax ?_,f⟩;unfold IB;rw[if_neg Ys];have l:=j.o;by_cases hs0:d.length=0
   .rw[decide_eq_true ⟨l,hs0⟩];simp[hs0]
   .rw[decide_eq_false (fun h=>hs0 h.2)];simp;intro h;exact hs0 (by rw[h];rfl)
  .have n:t.toList.isEmpty=false:=by rw[FN];simpa using h1
   have j:=Yx h1;clear h1;go_enter func207,ntmps207;go_wp2;go_ret;refine⟨Ax ?_,f⟩;unfold IB;rw[if_neg Ys,decide_eq_false (fun h=>j.o h.1)]
def Jr(w:Zh):Prop:=∀k,1<=k->k<=7->w.cell? (Ze 5 (k *4))=some (.bool (Dv k))/\w.cell? (Ze 5 (k *4+1))=some (.bool (DV k))/\w.cell? (Ze 5 (k *4+2))=some (.bool (CO k))/\w.cell? (Ze 5 (k *4+3))=some (Zg (CG k))
theorem Jr.below{g:Zh}(h:Jr w)(f:Zz w g):Jr g:=by intro k i j;obtain⟨a,b,c,d⟩:=h k i j;have e:=World.block_lt_of_cell? w _ a;exact⟨(f.cell (p:=⟨5,k *4,none⟩) e).trans a,(f.cell (p:=⟨5,k *4+1,none⟩) e).trans b,(f.cell (p:=⟨5,k *4+2,none⟩) e).trans c,(f.cell (p:=⟨5,k *4+3,none⟩) e).trans d⟩
theorem Ku(k:Nat)(w:Zh)(d:Jr w)(b:1<=k)(c:k<=7):
 Calls prog 174 #[Zg k] w fun e f=>e=.returned (.tuple #[.agg #[.bool (Dv k),.bool (DV k),.bool (CO k),Zg (CG k)],.bool true])/\Zz w f:=by
 obtain⟨a,h,c2,c3⟩:=d k b c;have g:=World.block_lt_of_cell? w _ a;have i:decide ((k:Int)<1)=false:=Yu
 have j:decide ((7:Int)<k)=false:=Yu
 have l:(k:Int)<8:=Yw
 go_enter func174,ntmps174;go_wp2;exact bodyPost_ret (v:=.tuple #[.agg #[.bool (Dv k),.bool (DV k),.bool (CO k),Zg (CG k)],.bool true]) (by simp[results,results174,go_sem]) rfl ⟨rfl,Zy⟩
theorem LQ(k:Int)(w:Zh)(h:¬(1<=k/\k<=7)):
 Calls prog 174 #[Zg k] w fun e b=>e=.returned (.tuple #[.agg #[.bool false,.bool false,.bool false,Zf],.bool false])/\Zz w b:=by
 by_cases h1:k<1
 .have a:decide (k<1)=true:=by simpa using h1
  go_enter func174,ntmps174;go_wp2;exact bodyPost_ret (v:=.tuple #[.agg #[.bool false,.bool false,.bool false,Zf],.bool false]) (by simp[results,results174,go_sem]) rfl ⟨rfl,Zy⟩
 .have a:decide (k<1)=false:=by simpa using h1
  have c:decide (7<k)=true:=Yu
  go_enter func174,ntmps174;go_wp2;exact bodyPost_ret (v:=.tuple #[.agg #[.bool false,.bool false,.bool false,Zf],.bool false]) (by simp[results,results174,go_sem]) rfl ⟨rfl,Zy⟩
def CW(k:Nat)(sum name:Zi)(n:Int)(t:Zi)(ss:Zl)(wd:Int):Bool:=
 decide (1<=wd/\wd<=8)&&(Ek (DV k) sum wd&&(EZ (Dv k) name&&(El (CG k) n&&IB (CO k) t ss wd)))
abbrev EF(k:Int)(sum name:Zi)(n:Int)(t:Zi)(ad:Zk)(len cap:Nat):Array Value:= #[Zg k,.string sum,.string name,Zg n,.string t,.slice ad len cap]
theorem Ql(k:Int)(c a:Zi)(n:Int)(t:Zi)(d:Zk)(cap:Nat)(g:Zl)(i:Int)(w:Zh)(f:¬(1<=k/\k<=7)):
 Calls prog 165 #[.agg (EF k c a n t d g.length cap),Zg i] w fun e h=>e=.returned (.bool false)/\Zz w h:=by
 go_enter func165,ntmps165;go_wp2_with fail;refine(LQ k _ f).mono ?_;rintro e j ⟨rfl,b⟩;go_wp2;go_ret;exact⟨rfl,((Zy).trans (b.mono Yv)).alloc (by have:=b.size;simp at this;omega) _⟩
structure EB (W:Zh) (B P:Nat) (sum name:Zi) (n:Int) (t:Zi) (v:Value) (a b c:Bool) (m:Int):Prop where
 x1:W.cell? (Ze B 1)=some (.string sum)
 x2:W.cell? (Ze B 2)=some (.string name)
 x3:W.cell? (Ze B 3)=some (Zg n)
 x4:W.cell? (Ze B 4)=some (.string t)
 x5:W.cell? (Ze B 5)=some v
 y0:W.cell? (Ze P 0)=some (.bool a)
 y1:W.cell? (Ze P 1)=some (.bool b)
 y2:W.cell? (Ze P 2)=some (.bool c)
 y3:W.cell? (Ze P 3)=some (Zg m)
theorem EB.below{j:Zh}{B P:Nat}{i e:Zi}{n:Int}{a b:Bool}(h:EB W B P i e n t v a b c m)(d:Zz W j):EB j B P i e n t v a b c m:=by
 have f:=World.block_lt_of_cell? W _ h.x1;have g:=World.block_lt_of_cell? W _ h.y0;exact⟨(d.cell (p:=⟨B,1,none⟩) f).trans h.x1,(d.cell (p:=⟨B,2,none⟩) f).trans h.x2,(d.cell (p:=⟨B,3,none⟩) f).trans h.x3,(d.cell (p:=⟨B,4,none⟩) f).trans h.x4,(d.cell (p:=⟨B,5,none⟩) f).trans h.x5,
  (d.cell (p:=⟨P,0,none⟩) g).trans h.y0,(d.cell (p:=⟨P,1,none⟩) g).trans h.y1,(d.cell (p:=⟨P,2,none⟩) g).trans h.y2,(d.cell (p:=⟨P,3,none⟩) g).trans h.y3⟩
theorem LR(k:Nat)(f a:Zi)(n:Int)(t:Zi)(u:Zk)(cap:Nat)(i:Zl)(c:Int)(w:Zh)(hT:Jr w)(Y:1<=k)(Z:k<=7)(J:Ad w w.heap.size u i)(hl:i.length<=1048576)(ht:t.size<=maxLen)(hn:a.size<=maxLen):
 Calls prog 165 #[.agg (EF k f a n t u i.length cap),Zg c] w fun e w'=>e=.returned (.bool (CW k f a n t i c))/\Zz w w':=by
 have L:Below w.heap.size w (w.alloc (.cells (EF k f a n t u i.length cap) 66)):=Zy;go_enter func165,ntmps165;go_wp2_with fail;refine(Ku k _ (hT.below L) Y Z).mono ?_;rintro e g ⟨rfl,d⟩;have T:=d.size;simp at T;have b:w.heap.size<g.heap.size:=Yw
 have K:=L.trans (d.mono Yv);obtain⟨R,S⟩:=Ke d;have j:g.cell? (Ze (w.heap.size) 1)=some (.string f):=by rw[d.cell (p:=⟨w.heap.size,1,none⟩) Yv];simp
 have l:g.cell? (Ze (w.heap.size) 2)=some (.string a):=by rw[d.cell (p:=⟨w.heap.size,2,none⟩) Yv];simp
 have m:g.cell? (Ze (w.heap.size) 3)=some (Zg n):=by rw[d.cell (p:=⟨w.heap.size,3,none⟩) Yv];simp
 have o:g.cell? (Ze (w.heap.size) 4)=some (.string t):=by rw[d.cell (p:=⟨w.heap.size,4,none⟩) Yv];simp
 have q:g.cell? (Ze (w.heap.size) 5)=some (.slice u i.length cap):=by rw[d.cell (p:=⟨w.heap.size,5,none⟩) Yv];simp
 clear R S;obtain⟨O,y⟩:∃W,W=g.alloc (.cells #[.bool (Dv k),.bool (DV k),.bool (CO k),Zg (CG k)] 231):=⟨_,rfl⟩;have h:Below g.heap.size g O:=by rw[y];exact Zy
 have P:EB O w.heap.size g.heap.size f a n t (.slice u i.length cap) (Dv k) (DV k) (CO k) (CG k):=by refine⟨(h.cell (p:=⟨w.heap.size,1,none⟩) b).trans j,(h.cell (p:=⟨w.heap.size,2,none⟩) b).trans l,(h.cell (p:=⟨w.heap.size,3,none⟩) b).trans m,(h.cell (p:=⟨w.heap.size,4,none⟩) b).trans o,(h.cell (p:=⟨w.heap.size,5,none⟩) b).trans q,?_,?_,?_,?_⟩<;>(rw[y];simp)
 have v:=K.trans (h.mono K.size);have D:=Yx y;clear y;by_cases hw:1<=c/\c<=8
 .obtain⟨M,N⟩:=hw;have r:decide (1<=c/\c<=8)=true:=by simp[M,N]
  have s:=Yx r;clear r;go_wp2_with (go_at_call 60;go_in);rw[<-D.o];refine(Qi f (Dv k) (DV k) (CO k) (CG k) c O).mono ?_;rintro e w3 ⟨rfl,G⟩;have U:=P.below G;have E:=v.trans (G.mono v.size);clear P G;cases hs:Ek (DV k) f c with
  |false=>go_wp2;go_ret;exact⟨Ax (by unfold CW;rw[hs];simp),E⟩
  |true=>
   have HS:=Yx hs;clear hs;obtain⟨j,l,m,o,q,z,A,B,C⟩:=U;go_wp2_with fail;refine(OW a (Dv k) (DV k) (CO k) (CG k) _ hn).mono ?_;rintro e w4 ⟨rfl,H⟩;have V:=(EB.mk j l m o q z A B C).below H;have F:=E.trans (H.mono E.size);clear j l m o q z A B C H;cases hnm:EZ (Dv k) a with
   |false=>go_wp2;go_ret;exact⟨Ax (by unfold CW;rw[hnm];simp),F⟩
   |true=>
    have HN:=Yx hnm;clear hnm;obtain⟨j,l,m,o,q,z,A,B,C⟩:=V;go_wp2_with fail;refine(Qj n (Dv k) (DV k) (CO k) (CG k) _).mono ?_;rintro e w5 ⟨rfl,I⟩;have X:=(EB.mk j l m o q z A B C).below I;have x:=F.trans (I.mono F.size);clear j l m o q z A B C I;cases hnu:El (CG k) n with
    |false=>go_wp2;go_ret;exact⟨Ax (by unfold CW;rw[hnu];simp),x⟩
    |true=>have HU:=Yx hnu;clear hnu;obtain⟨j,l,m,o,q,z,A,B,C⟩:=X;go_wp2_with fail;refine(NK t u cap i (Dv k) (DV k) (CO k) (CG k) c _ (J.j x) hl ht).mono ?_;rintro e w6 ⟨rfl,Q⟩;go_wp2;go_ret;exact⟨Ax (by unfold CW;rw[s.o,HS.o,HN.o,HU.o];rfl),x.trans (Q.mono x.size)⟩
 .have r:decide (1<=c/\c<=8)=false:=by simpa using hw
  have s:=Yx r;clear r;by_cases M:1<=c
  .have N:decide (c<=8)=false:=Yu
   go_wp2;go_ret;refine⟨Ax (by unfold CW;rw[s.o];rfl),?_⟩;rw[<-D.o];exact v
  .go_wp2;go_ret;refine⟨Ax (by unfold CW;rw[s.o];rfl),?_⟩;rw[<-D.o];exact v
def JN(k:Nat):Int:=if k=1\/k=4\/k=6 then 1 else if k=5 then 2 else 0
theorem VQ(k:Nat)(w:Zh)(a:1<=k)(b:k<=7):
 Calls prog 95 #[Zg k] w fun e c=>e=.returned (.tuple #[.bool (DV k),.bool (Dv k),Zg (JN k),.bool (CO k)])/\c=w:=by
 match k,a,b with
 |1,_,_|2,_,_|3,_,_|4,_,_|5,_,_|6,_,_|7,_,_=>
  go_enter func95,ntmps95;go_wp2;refine bodyPost_ret ?_ rfl ⟨rfl,rfl⟩;simp[results,results95,go_sem,DV,Dv,JN,CO]
theorem VR(k:Nat)(n:Int)(w:Zh):
 Calls prog 96 #[Zg n,Zg (JN k)] w fun e f=>e=.returned (.bool (El (CG k) n))/\f=w:=by
 have d:(JN k=1/\CG k=100000)\/(JN k=2/\CG k=1000000000)\/(JN k=0/\CG k=0):=by
  unfold JN CG;split
  .exact .inl ⟨rfl,rfl⟩
  .split
   .exact .inr (.inl ⟨rfl,rfl⟩)
   .exact .inr (.inr ⟨rfl,rfl⟩)
 rcases d with⟨a,b⟩|⟨a,b⟩|⟨a,b⟩<;>rw[a,b]
 .by_cases hn:1<=n
  .go_enter func96,ntmps96;go_wp2;go_ret;exact⟨Ax (by unfold El;rw[if_neg Ys];simp[hn]),rfl⟩
  .have c:decide (1<=n)=false:=by simpa using hn
   go_enter func96,ntmps96;go_wp2;go_ret;exact⟨Ax (by unfold El;rw[if_neg Ys,decide_eq_false Yw]),rfl⟩
 .by_cases hn:1<=n
  .go_enter func96,ntmps96;go_wp2;go_ret;exact⟨Ax (by unfold El;rw[if_neg Ys];simp[hn]),rfl⟩
  .have c:decide (1<=n)=false:=by simpa using hn
   go_enter func96,ntmps96;go_wp2;go_ret;exact⟨Ax (by unfold El;rw[if_neg Ys,decide_eq_false Yw]),rfl⟩
 .go_enter func96,ntmps96;go_wp2;go_ret;exact⟨Ax (by unfold El;rw[if_pos rfl];rfl),rfl⟩
theorem VS(k:Int)(f b:Zi)(n:Int)(t:Zi)(g:Zk)(cap:Nat)(i:Zl)(a:Int)(w:Zh)(m:¬(1<=k/\k<=7)):
 Calls prog 54 #[.agg (EF k f b n t g i.length cap),Zg a] w fun e j=>e=.returned (.bool false)/\Zz w j:=by
 by_cases hw:1<=a/\a<=8
 .obtain⟨c,d⟩:=hw;by_cases h1:k<1
  .have h:decide (k<1)=true:=by simpa using h1
   go_enter func54,ntmps54;go_wp2;go_ret;exact⟨rfl,Zy⟩
  .have h:decide (k<1)=false:=by simpa using h1
   have l:decide (7<k)=true:=Yu
   go_enter func54,ntmps54;go_wp2;go_ret;exact⟨rfl,Zy⟩
 .by_cases c:1<=a
  .have d:decide (a<=8)=false:=Yu
   go_enter func54,ntmps54;go_wp2;go_ret;exact⟨rfl,Zy⟩
  .go_enter func54,ntmps54;go_wp2;go_ret;exact⟨rfl,Zy⟩
theorem TV(k:Nat)(d b:Zi)(n:Int)(t:Zi)(g:Zk)(cap:Nat)(f:Zl)(a:Int)(w:Zh)(h:¬(1<=a/\a<=8)):
 Calls prog 54 #[.agg (EF k d b n t g f.length cap),Zg a] w fun e i=>e=.returned (.bool (CW k d b n t f a))/\Zz w i:=by
 have c:Hid (decide (1<=a/\a<=8)=false):=by show _=_;simpa using h
 by_cases hw1:1<=a
 .have j:decide (a<=8)=false:=Yu
  go_enter func54,ntmps54;go_wp2;go_ret;exact⟨Ax (by unfold CW;rw[c.o];rfl),Zy⟩
 .go_enter func54,ntmps54;go_wp2;go_ret;exact⟨Ax (by unfold CW;rw[c.o];rfl),Zy⟩
theorem IZ{a:Zl}{c:Int}(b:t.size=0):((a.length:Int)==0)=(true&&(true&&(true&&IB false t a c))):=by
 unfold IB;rw[if_neg Ys];by_cases hs0:a.length=0
 .rw[decide_eq_true ⟨b,hs0⟩];simp[hs0]
 .rw[decide_eq_false (fun h=>hs0 h.2)];simp;intro h;exact hs0 (by rw[h];rfl)
theorem Ja{b:Zl}{c:Int}(a:¬t.size=0):false=(true&&(true&&(true&&IB false t b c))):=by unfold IB;rw[if_neg Ys,decide_eq_false (fun h=>a h.1)];rfl
theorem Ra(k:Nat)(d a:Zi)(n:Int)(t:Zi)(m:Zk)(cap:Nat)(j:Zl)(f:Int)(w:Zh)(C:1<=k)(D:k<=7)(A:1<=f)(B:f<=8)(h:Ad w w.heap.size m j)(q:j.length<=1048576)(r:t.size<=maxLen)(x:a.size<=maxLen):
 Calls prog 54 #[.agg (EF k d a n t m j.length cap),Zg f] w fun e E=>e=.returned (.bool (CW k d a n t j f))/\Zz w E:=by
 have b:Below w.heap.size w (w.alloc (.cells (EF k d a n t m j.length cap) 66)):=Zy;have z:Hid (decide (1<=f/\f<=8)=true):=by show _=_;simp[A,B]
 have H:decide ((k:Int)<1)=false:=Yu
 have I:decide ((7:Int)<k)=false:=Yu
 have HU:=VQ k;have u:=VR k n;unfold CW;rw[z.o,Bool.true_and];generalize JN k=kn at *
 generalize El (CG k) n=nu at *
 generalize hks:DV k=us at *
 generalize hkn:Dv k=un at *
 generalize hkt:CO k=ut at *
 have y:=Yx HU;have s:=Yx u;clear HU u hks hkn hkt;go_enter func54,ntmps54;go_wp2_with (go_at_call 40;go_in);refine(y.o _ C D).mono ?_;rintro e J ⟨rfl,rfl⟩;cases us with
 |true=>
  by_cases hs:(d.size:Int)=f
  .have p:((d.size:Int) !=f)=false:=by simpa using hs
   have HS:Hid (Ek true d f=true):=by show _=_;simpa [Ek]using hs
   clear hs;go_wp2_with fail;refine(s.o _).mono ?_;rintro e F ⟨rfl,rfl⟩;cases nu with
   |false=>go_wp2;go_ret;exact⟨Ax Yv,b⟩
   |true=>
    cases un with
    |true=>
     go_wp2_with fail;refine(MJ a _ x).mono ?_;rintro e G ⟨rfl,rfl⟩;cases hno:Dg a with
     |false=>go_wp2;go_ret;exact⟨Ax (by simp[EZ,hno]),b⟩
     |true=>
      have c:Hid (EZ true a=true):=hno;clear hno;cases ut with
      |true=>go_wp2_with fail;refine(Dn t m cap j f _ (h.j b) q r).mono ?_;rintro e v ⟨rfl,i⟩;go_wp2;go_ret;exact⟨Ax (by rw[HS.o,c.o];rfl),b.trans (i.mono Yv)⟩
      |false=>
       by_cases h0:t.size=0
       .have o:t.toList.isEmpty=true:=by rw[FN];simpa using h0
        have g:=Yx h0;clear h0;go_wp2;go_ret;exact⟨Ax (by rw[HS.o,c.o];exact IZ g.o),b⟩
       .have o:t.toList.isEmpty=false:=by rw[FN];simpa using h0
        have g:=Yx h0;clear h0;go_wp2;go_ret;exact⟨Ax (by rw[HS.o,c.o];exact Ja g.o),b⟩
    |false=>
     by_cases hno:a.size=0
     .have l:a.toList.isEmpty=true:=by rw[FN];simpa using hno
      have c:Hid (EZ false a=true):=by show _=_;simpa [EZ]using hno
      clear hno;cases ut with
      |true=>go_wp2_with fail;refine(Dn t m cap j f _ (h.j b) q r).mono ?_;rintro e v ⟨rfl,i⟩;go_wp2;go_ret;exact⟨Ax (by rw[HS.o,c.o];rfl),b.trans (i.mono Yv)⟩
      |false=>
       by_cases h0:t.size=0
       .have o:t.toList.isEmpty=true:=by rw[FN];simpa using h0
        have g:=Yx h0;clear h0;go_wp2;go_ret;exact⟨Ax (by rw[HS.o,c.o];exact IZ g.o),b⟩
       .have o:t.toList.isEmpty=false:=by rw[FN];simpa using h0
        have g:=Yx h0;clear h0;go_wp2;go_ret;exact⟨Ax (by rw[HS.o,c.o];exact Ja g.o),b⟩
     .have l:a.toList.isEmpty=false:=by rw[FN];simpa using hno
      have c:Hid (EZ false a=false):=by show _=_;simpa [EZ]using hno
      clear hno;go_wp2;go_ret;exact⟨Ax (by rw[c.o];simp),b⟩
  .have p:((d.size:Int) !=f)=true:=by simpa using hs
   have HS:Hid (Ek true d f=false):=by show _=_;simpa [Ek]using hs
   clear hs;go_wp2;go_ret;exact⟨Ax (by rw[HS.o];rfl),b⟩
 |false=>
  by_cases hs:d.size=0
  .have p:d.toList.isEmpty=true:=by rw[FN];simpa using hs
   have HS:Hid (Ek false d f=true):=by show _=_;simpa [Ek]using hs
   clear hs;go_wp2_with fail;refine(s.o _).mono ?_;rintro e F ⟨rfl,rfl⟩;cases nu with
   |false=>go_wp2;go_ret;exact⟨Ax Yv,b⟩
   |true=>
    cases un with
    |true=>
     go_wp2_with fail;refine(MJ a _ x).mono ?_;rintro e G ⟨rfl,rfl⟩;cases hno:Dg a with
     |false=>go_wp2;go_ret;exact⟨Ax (by simp[EZ,hno]),b⟩
     |true=>
      have c:Hid (EZ true a=true):=hno;clear hno;cases ut with
      |true=>go_wp2_with fail;refine(Dn t m cap j f _ (h.j b) q r).mono ?_;rintro e v ⟨rfl,i⟩;go_wp2;go_ret;exact⟨Ax (by rw[HS.o,c.o];rfl),b.trans (i.mono Yv)⟩
      |false=>
       by_cases h0:t.size=0
       .have o:t.toList.isEmpty=true:=by rw[FN];simpa using h0
        have g:=Yx h0;clear h0;go_wp2;go_ret;exact⟨Ax (by rw[HS.o,c.o];exact IZ g.o),b⟩
       .have o:t.toList.isEmpty=false:=by rw[FN];simpa using h0
        have g:=Yx h0;clear h0;go_wp2;go_ret;exact⟨Ax (by rw[HS.o,c.o];exact Ja g.o),b⟩
    |false=>
     by_cases hno:a.size=0
     .have l:a.toList.isEmpty=true:=by rw[FN];simpa using hno
      have c:Hid (EZ false a=true):=by show _=_;simpa [EZ]using hno
      clear hno;cases ut with
      |true=>go_wp2_with fail;refine(Dn t m cap j f _ (h.j b) q r).mono ?_;rintro e v ⟨rfl,i⟩;go_wp2;go_ret;exact⟨Ax (by rw[HS.o,c.o];rfl),b.trans (i.mono Yv)⟩
      |false=>
       by_cases h0:t.size=0
       .have o:t.toList.isEmpty=true:=by rw[FN];simpa using h0
        have g:=Yx h0;clear h0;go_wp2;go_ret;exact⟨Ax (by rw[HS.o,c.o];exact IZ g.o),b⟩
       .have o:t.toList.isEmpty=false:=by rw[FN];simpa using h0
        have g:=Yx h0;clear h0;go_wp2;go_ret;exact⟨Ax (by rw[HS.o,c.o];exact Ja g.o),b⟩
     .have l:a.toList.isEmpty=false:=by rw[FN];simpa using hno
      have c:Hid (EZ false a=false):=by show _=_;simpa [EZ]using hno
      clear hno;go_wp2;go_ret;exact⟨Ax (by rw[c.o];simp),b⟩
  .have p:d.toList.isEmpty=false:=by rw[FN];simpa using hs
   have HS:Hid (Ek false d f=false):=by show _=_;simpa [Ek]using hs
   clear hs;go_wp2;go_ret;exact⟨Ax (by rw[HS.o];rfl),b⟩
def u8(x:Int):UInt8:=UInt8.ofNat x.toNat
theorem EP(x:Int)(a:0<=x)(h:x<256):Value.int .u8 x=.int .u8 ((u8 x).toNat:Int):=by
 have:(u8 x).toNat=x.toNat:=by simp[u8];omega
 rw[this];congr 1;omega
def BZ(k n m:Int):List UInt8:=[u8 k,u8 (n/16777216),u8 (n/65536%256),u8 (n/256%256),u8 (n%256),u8 m]
def Dk(k:Nat)(sum name:Zi)(n:Int)(t:Zi)(ss:Zl):List UInt8:=
 BZ k n name.size++name.data.toList++sum.data.toList++(if k=1 then BE t ss else [])
theorem Ii{P:Program}(w:Zh){l:Array Oper}{o:Oper}{a:Act}{K:Act->Zh->Prop}{Q:Exit->Act->Zh->Prop}{E:Prop}(y:o.guard=none)(p x:Operand)(t u:TypeId)(C:o.op=.call {callee:=.builtin .append,args:= #[p,x],argTypes:= #[t,u]})(b:Nat)(e:TypeId)(i:TypeInfo)(G:P.underlying t=some (.slice e))(hu:P.underlying u=some .string)(B:P.info? e=some i)(J:i.zero=some (.int .u8 0))(f:i.size=1)(r:i.bytes=1)(v:Value)(n:Nat)(m:Zj)(F:a.eval p=v)(k:w.ownsRow b e 1 v n m)(s:Zi)(I:a.eval x=.string s)(q:n+s.size<=maxLen)(c:n+s.size<=140737488355328)(d:b<=w.heap.size)(h:∀j g,g.ownsRow b e 1 j (n+s.size) (m++Lib.strCells s)->w.grownBy g v.ownBlock->K (a.put o.dst j) g):
 if Region.wanted o (yielded l a.tmps)=true then Oper.wp P o a w K Q else E:=by
 have H:Region.wanted o (yielded l a.tmps)=true:=by simp[Region.wanted,y]
 rw[if_pos H];obtain⟨j,g,D,z,A,_⟩:=Lib.run_append_own_string (P:=P) w b t u o.type e i G hu B J f r v n m k s q c d;unfold Oper.wp execOp;simp only[C,resolve,invoke,builtin,Sem.run_bind,Sem.run_pure,Result.andThen_ok,List.map_toArray,List.map_cons,List.map_nil,F,I,D];exact h j g z A
structure WZ (k:Nat) (sum name:Zi) (n:Int) (t:Zi) (ss:Zl) (wd:Int):Prop where
 w1:1<=wd
 w2:wd<=8
 sum:sum.size<=8
 name:name.size<=40
 n0:0<=n
 n1:n<=1000000000
 dv:k=1->AO t ss wd=true
theorem Eu{d a:Zi}{n:Int}{e:Zl}{f:Int}(h:CW k d a n t e f=true):WZ k d a n t e f:=by
 unfold CW at h;simp only[Bool.and_eq_true,decide_eq_true_eq]at h;obtain⟨⟨g,i⟩,c,b,hu,l⟩:=h;refine⟨g,i,?_,?_,?_,?_,?_⟩
 .unfold Ek at c;split at c<;>simp at c
  .omega
  .simp[c]
 .unfold EZ at b;split at b
  .unfold Dg at b;simp at b;omega
  .simp at b;simp[b]
 .unfold El at hu;split at hu<;>simp at hu<;>omega
 .have m:CG k<=1000000000:=by
   unfold CG;split
   .omega
   .split<;>omega
  unfold El at hu;split at hu<;>simp at hu<;>omega
 .intro j;subst j;exact l
theorem TW:(prog.info? 5).map (fun i=>(i.zero,i.size,i.bytes))=some (some (.int .u8 0),1,1):=Yt
theorem TX(k n m:Int)(a:0<=k)(c:k<256)(e:0<=n)(f:n<=1000000000)(b:0<=m)(d:m<256):
 [Value.int .u8 k,.int .u8 (n/16777216),.int .u8 (n/65536%256),.int .u8 (n/256%256),.int .u8 (n%256),.int .u8 m]=Lib.byteCells (BZ k n m):=by
 rw[EP k a c,EP (n/16777216) Yw Yw,EP (n/65536%256) Yw Yw,EP (n/256%256) Yw Yw,EP (n%256) Yw Yw,EP m b d];rfl
theorem Rb(h:w.ownsRow a e 1 v n d)(f:b<a):some b≠v.ownBlock:=by intro c;have:=(h.lt b c.symm).1;omega
theorem TY(k:Nat)(c b:Zi)(n:Int)(t:Zi)(A:Zk)(cap:Nat)(d:Zl)(T:Int)(w:Zh)(h1:1<=k)(h7:k<=7)(u:Ad w w.heap.size A d)(hl:d.length<=1048576)(ht:t.size<=maxLen)(G:CW k c b n t d T=true):
 Calls prog 20 #[.agg (EF k c b n t A d.length cap),Zg T] w fun e w'=>e=.returned (.string ⟨(Dk k c b n t d).toArray⟩)/\Zz w w':=by
 have hp:=Eu G;obtain⟨zP,zR,zV,zE,zK,zM,H⟩:=hp;obtain⟨i0,hi,R,S,v⟩:=info_parts TW;have N:Below w.heap.size w (w.alloc (.cells (EF k c b n t A d.length cap) 66)):=Zy;go_enter func20,ntmps20;go_wp2_with fail;refine(Ra k c b n t A cap d T _ h1 h7 zP zR (u.j N) hl ht Yq).mono ?_;rintro e g ⟨rfl,i⟩;rw[G];have hz:=i.size;simp at hz;have f:w.heap.size<g.heap.size:=Yw
 have L:=N.trans (i.mono Yv);have U:g.cell? (Ze (w.heap.size) 0)=some (Zg k):=by rw[i.cell (p:=⟨w.heap.size,0,none⟩) Yv];simp
 have V:g.cell? (Ze (w.heap.size) 1)=some (.string c):=by rw[i.cell (p:=⟨w.heap.size,1,none⟩) Yv];simp
 have x2:g.cell? (Ze (w.heap.size) 2)=some (.string b):=by rw[i.cell (p:=⟨w.heap.size,2,none⟩) Yv];simp
 have x3:g.cell? (Ze (w.heap.size) 3)=some (Zg n):=by rw[i.cell (p:=⟨w.heap.size,3,none⟩) Yv];simp
 have X:g.cell? (Ze (w.heap.size) 4)=some (.string t):=by rw[i.cell (p:=⟨w.heap.size,4,none⟩) Yv];simp
 have Y:g.cell? (Ze (w.heap.size) 5)=some (.slice A d.length cap):=by rw[i.cell (p:=⟨w.heap.size,5,none⟩) Yv];simp
 have I:=u.below L;have zF:=Yx G;clear G H u i N;obtain⟨z,C⟩:∃W,W=g.alloc (.cells #[.int .u8 k,.int .u8 (n/16777216),.int .u8 (n/65536%256),.int .u8 (n/256%256),.int .u8 (n%256),.int .u8 b.size] 5):=⟨_,rfl⟩;have D:z.ownsRow g.heap.size 5 1 (Za g.heap.size 6 6) 6 (Lib.byteCells (BZ k n b.size)):=by rw[C,<-TX k n b.size Yw Yw zK zM Yw Yw];exact World.ownsRow_lit g _ 6 (Zx) (by simp[maxLen]) rfl
 have l:Below g.heap.size g z:=by rw[C];exact Zy
 have zC:=l.size;have HW:=Yx C;clear C;go_wp2;rw[<-HW.o];have U:z.cell? (Ze (w.heap.size) 0)=some (Zg k):=(l.cell (p:=⟨w.heap.size,0,none⟩) f).trans U;have V:z.cell? (Ze (w.heap.size) 1)=some (.string c):=(l.cell (p:=⟨w.heap.size,1,none⟩) f).trans V;have x2:z.cell? (Ze (w.heap.size) 2)=some (.string b):=(l.cell (p:=⟨w.heap.size,2,none⟩) f).trans x2
 have X:z.cell? (Ze (w.heap.size) 4)=some (.string t):=(l.cell (p:=⟨w.heap.size,4,none⟩) f).trans X;have Y:z.cell? (Ze (w.heap.size) 5)=some (.slice A d.length cap):=(l.cell (p:=⟨w.heap.size,5,none⟩) f).trans Y;have h:=Rb D f
 go_region_law (first
  |(refine Ii _ rfl (.tmp 35) (.tmp 37) 102 9 rfl g.heap.size 5 i0 underlying102 underlying9 hi R S v _ 6 (Lib.byteCells (BZ k n b.size)) rfl (by exact D) b rfl Yq Yw (by exact zC) ?_;intro v3 w3 E m;have y1:=m.cell (a:=⟨w.heap.size,1,none⟩) (by exact V) h)
  |(refine Ii _ rfl (.tmp 38) (.tmp 40) 102 9 rfl g.heap.size 5 i0 underlying102 underlying9 hi R S v _ (6+b.size) (Lib.byteCells (BZ k n b.size)++Lib.strCells b) rfl E c rfl Yq Yw (by have:=m.size;simp at this;omega) ?_;intro v4 w4 s r))
 all_goals
  have o:=Rb E f;have zS:=m.size;have yD:=r.size;simp at zS;have z0:=r.cell (a:=⟨w.heap.size,0,none⟩) (m.cell (a:=⟨w.heap.size,0,none⟩) (by exact U) h) o;have z4:=r.cell (a:=⟨w.heap.size,4,none⟩) (m.cell (a:=⟨w.heap.size,4,none⟩) (by exact X) h) o;have z5:=r.cell (a:=⟨w.heap.size,5,none⟩) (m.cell (a:=⟨w.heap.size,5,none⟩) (by exact Y) h) o
  have Z:Below g.heap.size g w4:=((l.drew).grown m (by exact zC) (fun k B=>(D.lt k B).1)).grown r Yw (fun k B=>(E.lt k B).1);obtain⟨g4,c4,zN,zY,zZ⟩:=s.form Yw;subst zN;have x:Lib.byteCells (BZ k n b.size)++Lib.strCells b++Lib.strCells c=Lib.byteCells (BZ k n b.size++b.data.toList++c.data.toList):=by rw[Lib.strCells_eq,Lib.strCells_eq,<-Lib.byteCells_append,<-Lib.byteCells_append]
  rw[x]at s;have M:=L.trans (Z.mono L.size);have J:=I.below (Z.mono Yw);clear x m r E U V x2 X Y y1 D l h o;by_cases hk1:k=1
  .subst hk1;have H:=(Eu zF.o).dv rfl;have Q:=BL H;have zX:=Q.ba;have yC:=Q.M;have yB:=Q.B;go_wp2_with fail;refine(MD t A cap d T w4 (J.mono Yw) H).mono ?_;rintro e w5 ⟨rfl,q⟩;have O:=s.kept (row:=none) ⟨q.os,q.tape,q.output,q.size,fun k B _=>q.block k B⟩ (.inr (by simp[Value.ownBlock]));have yE:=q.size;have zI:(BE t d).length<=3000:=by have:=DE d;simp[BE,this];omega
   have zB:(ByteArray.mk (BE t d).toArray).size=(BE t d).length:=by simp[ByteArray.size]
   have K:=Yx zB;clear zB;obtain⟨F,hF⟩:∃F,F=ByteArray.mk (BE t d).toArray:=⟨_,rfl⟩;rw[<-hF]at K |-;have zW:F.size<=3000:=by rw[K.o];exact zI
   have HF:=Yx hF;clear hF;go_wp2_with (at_builtin;refine Lib.wpList_append_own_string _ rfl _ _ 102 9 rfl g.heap.size 5 i0 underlying102 underlying9 hi R S v _ _ _ rfl O F rfl ?c3 ?c4 ?c5 ?_)
   case c3=>unfold maxLen;omega
   case c4=>omega
   case c5=>omega
   intro v6 w6 y zJ _;obtain⟨g6,c6,zO,zT,zU⟩:=y.form Yw;subst zO;have zG:=(q.mono M.size).grown zJ Yw (fun k B=>by have:=(O.lt k B).1;omega);have x:Lib.byteCells (BZ 1 n b.size++(b.data.toList++c.data.toList))++Lib.strCells F=Lib.byteCells (Dk 1 c b n t d):=by rw[Lib.strCells_eq,<-Lib.byteCells_append,HF.o];unfold Dk;rw[if_pos rfl];simp[List.append_assoc]
   rw[x]at y;have hlen:6+b.size+c.size+F.size=(Dk 1 c b n t d).length:=by rw[K.o];simp[Dk,BZ];omega
   rw[hlen]at y |-;have zH:=run_convert_bytes_back (P:=prog) w6 102 9 5 ⟨g6,0,none⟩ c6 (Dk 1 c b n t d) underlying102 underlying5 underlying9 (fun j hj=>y.cells rfl j _ (by simp[Lib.byteCells,hj]));clear y O x;go_wp2;go_ret;exact⟨rfl,M.trans zG⟩
  .have yA:((k:Int)==1)=false:=beq_eq_false_iff_ne.2 Yw;have hlen:6+b.size+c.size=(Dk k c b n t d).length:=by unfold Dk;rw[if_neg hk1];simp[BZ];omega
   have zA:BZ k n b.size++b.data.toList++c.data.toList=Dk k c b n t d:=by unfold Dk;rw[if_neg hk1,List.append_nil]
   rw[zA,hlen]at s;rw[hlen];have zH:=run_convert_bytes_back (P:=prog) w4 102 9 5 ⟨g4,0,none⟩ c4 (Dk k c b n t d) underlying102 underlying5 underlying9 (fun j hj=>s.cells rfl j _ (by simp[Lib.byteCells,hj]));clear s zA;go_wp2;go_ret;exact⟨rfl,M⟩
def Cn(k:Int)(sum name:Zi)(n:Int)(t:Zi)(ss:Zl)(wd:Int):Bool:=decide (1<=k/\k<=7)&&CW k.toNat sum name n t ss wd
theorem Aaf(k:Int)(b a:Zi)(n:Int)(t:Zi)(f:Zk)(cap:Nat)(c:Zl)(d:Int)(w:Zh)(g:Ad w w.heap.size f c)(h:c.length<=1048576)(j:t.size<=maxLen)(i:a.size<=maxLen):
 Calls prog 54 #[.agg (EF k b a n t f c.length cap),Zg d] w fun e l=>e=.returned (.bool (Cn k b a n t c d))/\Zz w l:=by
 unfold Cn;by_cases hk:1<=k/\k<=7
 .obtain⟨m,rfl⟩:∃m:Nat,k=m:=⟨k.toNat,Yw⟩;rw[decide_eq_true hk,Bool.true_and,Int.toNat_natCast];by_cases hw:1<=d/\d<=8
  .exact Ra m b a n t f cap c d w Yw Yw hw.1 hw.2 g h j i
  .exact TV m b a n t f cap c d w hw
 .rw[decide_eq_false hk,Bool.false_and];exact VS k b a n t f cap c d w hk
theorem Aag(k:Int)(c a:Zi)(n:Int)(t:Zi)(d:Zk)(cap:Nat)(b:Zl)(f:Int)(w:Zh)(h:Jr w)(g:Ad w w.heap.size d b)(i:b.length<=1048576)(l:t.size<=maxLen)(j:a.size<=maxLen):
 Calls prog 165 #[.agg (EF k c a n t d b.length cap),Zg f] w fun e o=>e=.returned (.bool (Cn k c a n t b f))/\Zz w o:=by
 unfold Cn;by_cases hk:1<=k/\k<=7
 .obtain⟨m,rfl⟩:∃m:Nat,k=m:=⟨k.toNat,Yw⟩;rw[decide_eq_true hk,Bool.true_and,Int.toNat_natCast];exact LR m c a n t d cap b f w h Yw Yw g i l j
 .rw[decide_eq_false hk,Bool.false_and];exact Ql k c a n t d cap b f w hk
def Cr(k:Int)(sum name:Zi)(n:Int)(t:Zi)(ss:Zl)(wd:Int):Zi:=if Cn k sum name n t ss wd=true then ⟨(Dk k.toNat sum name n t ss).toArray⟩else ByteArray.empty
theorem Gg:prog.cellsOf 9=1:=Yt
theorem own:ownKnob prog.godebug=none:=Yt
theorem laidOut:laidOutB prog=true:=Yt
theorem Gy{p:TypeId×Value->H}{l:Nat}{spare:Nat->Bool}{m:Nat}{y:DataW H×List MemPlace}(h:DataW.trod p prog W l spare held m 22 [v]=some y):
 ∃a cap c,v=.slice a (List.length c) cap/\Ad W W.heap.size a c/\c.length<=maxLen/\∀s∈c,ByteArray.size s<=maxLen:=by
 rcases open_strings underlying22 underlying9 Gg h with⟨e,_⟩|⟨a,len,cap,c,e,_,x,z,u,_,d,q⟩
 .simp at e;subst e;exact⟨none,0,[],rfl,.inl rfl,by simp[maxLen],fun s f=>by cases f⟩
 .simp at e;subst e;have hlen:len<=c.length:=by rw[u];split<;>omega
  have n:(c.take len).length=len:=Yu
  refine⟨some a,cap,c.take len,by rw[n],?_,by rw[n];omega,fun s f=>q s (List.mem_of_mem_take f)⟩;by_cases h0:len=0
  .exact .inl (by simp[h0])
  .obtain⟨b,k,spot⟩:=a;have g:spot=none:=by simpa [Addr.add]using World.cell?_spot (d 0 Yw)
   subst g;have o:∀j,j<c.length->W.cell? ⟨b,k+j,none⟩=some (.string (c.getD j ByteArray.empty)):=fun j t=>by rw[<-Go.WideShapes.add_plain];exact d j t
   refine .inr ⟨b,k,rfl,?_,fun i s f=> ?_⟩
   .exact World.block_lt_of_cell? W ⟨b,k+0,none⟩ (o 0 Yw)
   .have r:i<len:=by have:=(Zw f).1;omega
    rw[List.getElem?_take_of_lt r]at f;rw[o i Yw];simp[List.getD,f]
theorem Ht{d:TypeId×Value->H}{spare:Nat->Bool}{y:DataW H×List MemPlace}(h:DataW.trod d prog W a spare held b 9 [v]=some y):∃s,v=.string s/\s.size<=maxLen:=by
 obtain⟨s,c,_,e⟩:=DataW.trod_string underlying9 h;simp at c;exact⟨s,c,e⟩
theorem Adf:prog.cellsOf 3=1:=Yt
theorem XA:prog.globalNamed "loop.example/kilnvault/impl.kindParts" =some 5:=Yt
theorem TZ:(prog.globals[5]?).map (·.type)=some 272:=Yt
theorem Ua:prog.cellsOf 231=4:=Yt
theorem Sf:prog.cellsOf 4=1:=Yt
theorem XB{α:Type}{l:List α}(h:l.length=4):∃a b c d,l=[a,b,c,d]:=by
 match l,h with
 |[a,b,c,d],_=>exact⟨a,b,c,d,rfl⟩
theorem Qm{e:TypeId×Value->H}{d:Nat}{spare:Nat->Bool}{i:Nat}{l:Zj}{a b:Bool}(h:DataW.trod e prog W d spare held i 231 l=some (.agg [.lit (.bool a),.lit (.bool b),.lit (.bool c),.lit (.int .i64 m)],p)):l=[.bool a,.bool b,.bool c,.int .i64 m]:=by
 obtain⟨J,g,_,r,q,hlen,f⟩:=DataW.trod_struct underlying231 h;rw[Ua]at q;obtain⟨v0,x,y,z,rfl⟩:=XB q;obtain⟨A,B,C,D,rfl⟩:=XB hlen;have s:DataW.trod e prog W d spare held g 4 [v0]=some A:=by simpa [Sf]using f 0 _ rfl
 have t:DataW.trod e prog W d spare held g 4 [x]=some B:=by simpa [Sf]using f 1 _ rfl
 have u:DataW.trod e prog W d spare held g 4 [y]=some C:=by simpa [Sf]using f 2 _ rfl
 have v:DataW.trod e prog W d spare held g 3 [z]=some D:=by simpa [Adf]using f 3 _ rfl
 obtain⟨E,j,rfl⟩:=DataW.trod_bool underlying4 s;obtain⟨F,k,rfl⟩:=DataW.trod_bool underlying4 t;obtain⟨G,n,rfl⟩:=DataW.trod_bool underlying4 u;obtain⟨I,o,rfl,_⟩:=DataW.trod_int underlying3 v;simp at j k n o r;obtain⟨⟨rfl,rfl,rfl,rfl⟩,_⟩:=r;rw[j,k,n,o]
theorem OY{f:Array Value}(c:W.var? prog "loop.example/kilnvault/impl.kindParts" =some f)(q:DataW.trod (fun _=>()) prog W 0 (fun _=>true) false b 272 f.toList=some (Rows.laid_loop_example_kilnvault_impl_kindParts,p)):Jr W:=by
 obtain⟨i,v,_,s,u,hlen,g⟩:=DataW.trod_array underlying272 q;rw[Ua]at g;have m:i.map (·.1)=_:=(DataW.agg.inj (Prod.mk.inj s).1).symm;intro k n o;have e:(i.map (·.1))[k]?=some (.agg [.lit (.bool (Dv k)),.lit (.bool (DV k)),.lit (.bool (CO k)),.lit (.int .i64 (CG k))]):=by
  rw[m]
  match k,n,o with
  |1,_,_=>rfl
  |2,_,_=>rfl
  |3,_,_=>rfl
  |4,_,_=>rfl
  |5,_,_=>rfl
  |6,_,_=>rfl
  |7,_,_=>rfl
 rw[List.getElem?_map]at e;obtain⟨⟨x,y⟩,t,d⟩:=Option.map_eq_some_iff.1 e;simp only at d;subst d;have h:=g k Yw;rw[t]at h;have l:=Qm h;have a:∀j,j<4->W.cell? ⟨5,k *4+j,none⟩=([.bool (Dv k),.bool (DV k),.bool (CO k),.int .i64 (CG k)]:Zj)[j]?:=by intro j r;rw[World.var?_cell XA c,<-l,List.getElem?_take_of_lt r,List.getElem?_drop];simp
 exact⟨a 0 Yw,a 1 Yw,a 2 Yw,a 3 Yw⟩
section
open Go.RowKit Go.Extern.Stop Go.Stop Go.Extern
def Ij(w:Zh):Prop:=w.cell? (Ze 4 0)=some (.iface 274 (.agg #[.pointer (some ⟨9,200,none⟩)]))
theorem Ij.below{a:Zh}(h:Ij w)(b:Zz w a):Ij a:=by unfold Ij at h |-;exact(b.cell (p:=⟨4,0,none⟩) (World.block_lt_of_cell? w _ h)).trans h
theorem Aah(t:Value)(w:Zh):
 Calls prog 147 #[.nilIface,t] w fun e a=>e=.returned (.bool false)/\a=w:=by
 go_enter func147,ntmps147;go_wp2;go_ret;exact⟨rfl,rfl⟩
abbrev rt(t:Nat):Value:=.agg #[.pointer (some ⟨9,t,none⟩)]
abbrev rv(t:Nat)(a:Addr)(f:Int):Value:=.agg #[.pointer (some ⟨9,t,none⟩),.pointer (some a),.int .u64 f]
theorem VT(t:Addr)(w:Zh):(ReflectliteValue.unpack (.iface 206 (.pointer (some t)))).run prog w
 =.ok (rv 206 ⟨w.heap.size,0,none⟩ 150) (w.alloc (.cells #[.pointer (some t)] 206)):=Yt
theorem VU(e:Addr)(w:Zh):(ReflectliteValue.unpack (.iface 204 (.pointer (some e)))).run prog w
 =.ok (rv 204 ⟨w.heap.size,0,none⟩ 150) (w.alloc (.cells #[.pointer (some e)] 204)):=Yt
theorem Aai(a:Addr)(w:Zh):(ReflectliteValue.methodAny (ReflectliteValue.valueError "reflectlite.Value.Type" 0) (fun t _ _ _=>ReflectliteType.toType t) #[rv 206 a 150]).run prog w
 =.ok (.iface 274 (rt 206)) w:=Yt
theorem YV(h:Value)(w:Zh):(Go.method 448 274 (.agg #[h]) "Kind").run prog w=.ok (271,h) w:=Yt
theorem YW(h:Value)(w:Zh):(Go.method 448 274 (.agg #[h]) "Elem").run prog w=.ok (283,.agg #[h]) w:=Yt
theorem YX(h:Value)(w:Zh):(Go.method 448 274 (.agg #[h]) "Implements").run prog w=.ok (284,.agg #[h]) w:=Yt
theorem Aaj(h:Value)(w:Zh):(Go.method 448 274 (.agg #[h]) "AssignableTo").run prog w=.ok (281,.agg #[h]) w:=Yt
theorem YY(w:Zh):((ReflectliteType.abiMethod fun t=>(fun a:Nat=>Value.int IntKind.u8 (a:Int))<$>Rtype.kind t) #[Yy 9 206]).run prog w=.ok (.int .u8 22) w:=Yt
theorem YZ(w:Zh):((ReflectliteType.abiMethod fun t=>(fun a:Nat=>Value.int IntKind.u8 (a:Int))<$>Rtype.kind t) #[Yy 9 204]).run prog w=.ok (.int .u8 22) w:=Yt
theorem Aak(w:Zh):(ReflectliteType.method ReflectliteType.elem #[rt 206]).run prog w=.ok (.iface 274 (rt 204)) w:=Yt
theorem Aal(w:Zh):(ReflectliteType.relation "Implements" ReflectliteType.implements_ #[rt 204,.iface 274 (rt 200)]).run prog w=.ok (.bool true) w:=Yt
theorem VV(v:Value)(w:Zh):(ReflectliteType.typeOf #[.iface 204 v]).run prog w=.ok (.iface 274 (rt 204)) w:=Yt
theorem Ace(w:Zh):(ReflectliteType.relation "AssignableTo" ReflectliteType.assignableTo #[rt 204,.iface 274 (rt 204)]).run prog w=.ok (.bool true) w:=Yt
theorem VW(w:Zh):(Rtype.elem? 206).run prog w=.ok (some 204) w:=Yt
theorem Adg(p:Addr)(w:Zh):(ReflectliteValue.mk 204 p ReflectliteValue.flagAddr).run prog w=.ok (rv 204 p 406) w:=Yt
theorem OZ(a:Addr)(w:Zh):(ReflectliteValue.parts (rv 206 a 150)).run prog w=.ok (some (206,a,150)) w:=Yt
theorem VX(a:Addr)(w:Zh):(ReflectliteValue.parts (rv 204 a 406)).run prog w=.ok (some (204,a,406)) w:=Yt
theorem VY(a:Addr)(w:Zh):(ReflectliteValue.parts (rv 204 a 150)).run prog w=.ok (some (204,a,150)) w:=Yt
theorem VZ(w:Zh):(Rtype.directlyAssignable 204 204).run prog w=.ok true w:=Yt
theorem Ub(z:Sem Value)(f:TypeId->Addr->Nat->Nat->Sem Value)(v:Value):
 ReflectliteValue.method z f #[v]=(do match <-ReflectliteValue.parts v with|none=>z|some (t,a,fl)=>f t a fl (fl%32)):=rfl
theorem ZA(a p:Addr)(W:Zh)(b:W.cell? a=some (.pointer (some p))):
 (ReflectliteValue.method (ReflectliteValue.valueError "reflectlite.Value.IsNil" 0) ReflectliteValue.isNil #[rv 206 a 150]).run prog W=.ok (.bool false) W:=by
 rw[Ub];simp only[Sem.run_bind,OZ,Result.andThen];simp[ReflectliteValue.isNil,loadVar,isAgg,underlying,underlying206,b,Result.andThen]
theorem ZB(a p:Addr)(W:Zh)(b:W.cell? a=some (.pointer (some p))):
 (ReflectliteValue.method (ReflectliteValue.valueError "reflectlite.Value.Elem" 0) ReflectliteValue.elem #[rv 206 a 150]).run prog W=.ok (rv 204 p 406) W:=by
 rw[Ub];simp only[Sem.run_bind,OZ,Result.andThen];simp[ReflectliteValue.elem,loadVar,isAgg,underlying,underlying206,b,Result.andThen,VW,Adg]
theorem Aam(v x:Value):ReflectliteValue.set #[v,x]=(do
 let (some (dst,a,fl),some (src,b,_)):=(<-ReflectliteValue.parts v,<-ReflectliteValue.parts x)
  |unsupported (.noEntry "extern/(internal/reflectlite.Value).Set.zeroValue")
 if fl/ReflectliteValue.flagAddr%2==0 then unsupported (.noEntry "extern/(internal/reflectlite.Value).Set.unaddressable")
 let val <-loadVar src b
 if <-Rtype.directlyAssignable dst src then storeVar dst a val
 else if <-Rtype.implements dst src then
  if (<-Rtype.kind src)==20 then
   match val with
   |.nilIface=>unsupported (.noEntry "extern/reflectlite: a nil value of one interface type handed on as a value of another")
   |_=>storeVar dst a val
  else storeVar dst a (.iface src val)
 else panicString ("reflectlite.Set: value of type " ++(<-Rtype.spelt src)++ " is not assignable to type " ++(<-Rtype.spelt dst))
 pure (.tuple #[])):=rfl
theorem Acf(a b e:Addr)(c:Value)(W:Zh)(d:W.cell? b=some (.pointer (some e)))(g:W.cell? a=some c)(f:W.frozen? a=false):
 (ReflectliteValue.set #[rv 204 a 406,rv 204 b 150]).run prog W=.ok (.tuple #[]) (W.setCell a (.pointer (some e))):=by
 rw[Aam];simp only[Sem.run_bind,VX,VY,Result.andThen];simp[ReflectliteValue.flagAddr,loadVar,isAgg,underlying,underlying204,d,Result.andThen,VZ,storeVar,Value.cells,storeCells,Addr.add];rw[run_store prog W a _ _ Yr];simp[g,f]
theorem Aan(e:Addr)(a:Nat)(g:Value)(w:Zh)(j:Ij w)(f:w.cell? (Ze a 0)=some g)(l:w.frozen? ⟨a,0,none⟩=false):
 Calls prog 147 #[.iface 204 (.pointer (some e)),.iface 206 (Yz a)] w fun n o=>n=.returned (.bool true)/\Below a w o:=by
 have z:= @run_callFunc_extern prog 177 _ (fun args=>ReflectliteValue.unpack (args.getD 0 (.tuple #[]))) func177 Yt Yt Yt Yt
 have A:= @run_callFunc_extern prog 178 _ (ReflectliteValue.methodAny (ReflectliteValue.valueError "reflectlite.Value.Type" 0) (fun t _ _ _=>ReflectliteType.toType t)) func178 Yt Yt Yt Yt
 have B:= @run_callFunc_extern prog 179 _ (ReflectliteValue.method (ReflectliteValue.valueError "reflectlite.Value.IsNil" 0) ReflectliteValue.isNil) func179 Yt Yt Yt Yt
 have C:= @run_callFunc_extern prog 271 _ (ReflectliteType.abiMethod fun t=>do pure (.int .u8 (<-Rtype.kind t))) func271 Yt Yt Yt Yt;have D:= @run_callFunc_extern prog 283 _ (ReflectliteType.method ReflectliteType.elem) func283 Yt Yt Yt Yt
 have E:= @run_callFunc_extern prog 284 _ (ReflectliteType.relation "Implements" ReflectliteType.implements_) func284 Yt Yt Yt Yt;have F:= @run_callFunc_extern prog 211 _ ReflectliteType.typeOf func211 Yt Yt Yt Yt
 have G:= @run_callFunc_extern prog 281 _ (ReflectliteType.relation "AssignableTo" ReflectliteType.assignableTo) func281 Yt Yt Yt Yt
 have H:= @run_callFunc_extern prog 212 _ (ReflectliteValue.method (ReflectliteValue.valueError "reflectlite.Value.Elem" 0) ReflectliteValue.elem) func212 Yt Yt Yt Yt;have q:= @run_callFunc_extern prog 213 _ ReflectliteValue.set func213 Yt Yt Yt Yt;have J:=VV;have K:=Aaj;have L:=Ace;have M:=VU
 have N:=VT;have O:=Aai;have P:=YV;have Q:=YW;have R:=YX;have s:=YY;have u:=YZ;have v:=Aak;have x:=Aal;have m:4<w.heap.size:=World.block_lt_of_cell? w _ j;have b:a<w.heap.size:=World.block_lt_of_cell? w ⟨a,0,none⟩ f;have h:Below w.heap.size w (w.alloc (.cells #[Yz a] 206)):=Zy;have c:=h.alloc h.size (.cells #[Yy 9 206,Yz w.heap.size,.int .u64 150] 237)
 have i:=c.alloc c.size (.cells #[Yy 9 206,Yz w.heap.size,.int .u64 150] 237);have d:=i.alloc i.size (.cells #[.pointer (some e)] 204);have I:=ZA ⟨w.heap.size,0,none⟩ ⟨a,0,none⟩ ((w.alloc (.cells #[Yz a] 206)).alloc (.cells #[Yy 9 206,Yz w.heap.size,.int .u64 150] 237)) Yv
 have r:((w.alloc (.cells #[Yz a] 206)).alloc (.cells #[Yy 9 206,Yz w.heap.size,.int .u64 150] 237)).cell? (Ze 4 0)=some (.iface 274 (.agg #[Yy 9 200])):=(c.cell (p:=⟨4,0,none⟩) m).trans j
 have y:=ZB ⟨w.heap.size,0,none⟩ ⟨a,0,none⟩ (((w.alloc (.cells #[Yz a] 206)).alloc (.cells #[Yy 9 206,Yz w.heap.size,.int .u64 150] 237)).alloc (.cells #[Yy 9 206,Yz w.heap.size,.int .u64 150] 237)) (by rw[World.cell?_alloc_lt _ _ ⟨w.heap.size,0,none⟩ Yu];simp)
 have S:=Acf ⟨a,0,none⟩ ⟨w.heap.size+1+1+1,0,none⟩ e g ((((w.alloc (.cells #[Yz a] 206)).alloc (.cells #[Yy 9 206,Yz w.heap.size,.int .u64 150] 237)).alloc (.cells #[Yy 9 206,Yz w.heap.size,.int .u64 150] 237)).alloc (.cells #[.pointer (some e)] 204))
  (by rw[World.cell?_alloc_at _ _ _ _ Yv];rfl)
  ((d.cell (p:=⟨a,0,none⟩) b).trans f)
  ((d.frozen (p:=⟨a,0,none⟩) b).trans l)
 have fin:=(d.mono (Nat.le_of_lt b)).setCell (show a<=(⟨a,0,none⟩:Addr).block from Nat.le_refl a) (.pointer (some e));clear h c i d;have k:=Yx fin;clear fin;go_enter func147,ntmps147;go_wp2;refine wp_loop_rounds 1 ?_;rw[rounds_succ];go_wp2;go_ret;exact⟨rfl,k.o⟩
end
theorem Cg(b:UInt8):wrap64 (b.toNat:Int)=(b.toNat:Int):=by have h:=b.toNat_lt;simp[wrap64];omega
theorem Ez(x:Int)(h: -9223372036854775808<=x)(a:x<9223372036854775808):IntKind.i64.wrap x=x:=by rw[IntKind.wrap_i64];omega
theorem Uc{a:Int}(b:1<=a)(c:k<n):0<=(k:Int) *a/\(k:Int) *a<=(n:Int) *a/\((k:Int)+1) *a=(k:Int) *a+a/\(k:Int) *a+a<=(n:Int) *a:=by refine⟨Int.mul_nonneg Yw Yw,Int.mul_le_mul_of_nonneg_right Yw Yw,by rw[Int.add_mul,Int.one_mul],?_⟩;have:((k:Int)+1) *a<=(n:Int) *a:=Int.mul_le_mul_of_nonneg_right Yw Yw;rw[Int.add_mul,Int.one_mul]at this;exact this
theorem Kk{a:Int}(e:n<256)(b:1<=a)(c:a<=8):0<=(n:Int) *a/\(n:Int) *a<=2040:=by refine⟨Int.mul_nonneg Yw Yw,?_⟩;have d:(n:Int) *a<=255 *a:=Int.mul_le_mul_of_nonneg_right Yw Yw;omega
def DI(s:Zi)(wd:Int)(n:Nat):Zi:=(s.extract 1 s.size).extract ((n:Int) *wd).toNat (s.size -1)
def JO(s:Zi)(wd:Int)(i:Nat):Zi:=(s.extract 1 s.size).extract ((i:Int) *wd).toNat ((i:Int) *wd+wd).toNat
def BG(s:Zi)(wd:Int)(k:Nat):Zl:=(List.range k).map (JO s wd)
theorem Cs(s:Zi)(a:Int)(k:Nat):(BG s a k).length=k:=by simp[BG]
theorem Sg(s:Zi)(a:Int)(k:Nat):(BG s a k).map Value.string++[Value.string (JO s a k)]=(BG s a (k+1)).map Value.string:=by simp[BG,List.range_succ]
theorem Ik{b:Zh}{p:Addr}{x:Value}(e:(wr.alloc o).drew.grownBy b row)(a:wr.cell? p=some x)(d:some p.block≠row):b.cell? p=some x:=by refine e.cell ?_ d;have c:=World.block_lt_of_cell? wr p a;exact(World.cell?_alloc_lt wr o p c).trans a
theorem Kv{a:Zh}{p:Addr}(e:(wr.alloc o).drew.grownBy a row)(b:p.block<wr.heap.size)(c:some p.block≠row):a.frozen? p=wr.frozen? p:=by have d:=World.frozen?_of_block (e.block p.block Yu c);rw[d];exact World.frozen?_alloc_old wr o p (Nat.ne_of_lt b)
theorem Ud(h:w.ownsRow a e 1 v n d)(f:b<a):some b≠v.ownBlock:=by intro c;have:=(h.lt b c.symm).1;omega
theorem Ea{ss:Zl}(h:w.ownsRow b 9 1 v ss.length (ss.map Value.string)):∃a cap,v=.slice a ss.length cap/\Ad w w.heap.size a ss:=by
 rcases h.2 with⟨c,d⟩|⟨g,cap,e,c,_⟩
 .exact⟨none,0,by rw[c,d],.inl (List.eq_nil_of_length_eq_zero d)⟩
 .subst c;exact⟨_,_,rfl,Ad.own h⟩
theorem Nf{d:Int}{a:Zh}{g cap:Nat}{cn:Zi}(m:w.heap.size+1<wr.heap.size)(f:wr.ownsRow (w.heap.size+2) 9 1 v k ((BG s d k).map Value.string))(e:Below (w.heap.size+1) W wr)(c:a.ownsRow (w.heap.size+2) 9 1 (Za g (k+1) cap) (k+1) ((BG s d k).map Value.string++[.string (JO s d k)]))(b:(wr.alloc o).drew.grownBy a v.ownBlock)(h:a.cell? (Ze (w.heap.size+1) 0)=some (.string cn))(i:a.cell? (Ze (w.heap.size+1) 1)=some v)(j:a.frozen? ⟨w.heap.size+1,1,none⟩=false):
 (a.setCell (Ze (w.heap.size+1) 1) (Za g (k+1) cap)).cell? (Ze (w.heap.size+1) 0)=some (.string cn)/\
 (a.setCell (Ze (w.heap.size+1) 1) (Za g (k+1) cap)).cell? (Ze (w.heap.size+1) 1)=some (Za g (k+1) cap)/\
 (a.setCell (Ze (w.heap.size+1) 1) (Za g (k+1) cap)).frozen? ⟨w.heap.size+1,1,none⟩=false/\
 (a.setCell (Ze (w.heap.size+1) 1) (Za g (k+1) cap)).ownsRow (w.heap.size+2) 9 1 (Za g (k+1) cap) (k+1) ((BG s d (k+1)).map Value.string)/\
 Below (w.heap.size+1) W (a.setCell (Ze (w.heap.size+1) 1) (Za g (k+1) cap)):=by
 refine⟨?_,?_,?_,?_,?_⟩
 .rw[<-h];exact World.cell?_setCell_other _ _ _ _ Yv
 .exact World.cell?_setCell_same' _ _ _ (by rw[i];rfl)
 .rw[World.frozen?_setCell];exact j
 .rw[<-Sg];exact ownsRow_setCell_below c Yv _
 .exact(((e.alloc Yw o).drew).grown b Yu (fun k l=>by have:=(f.lt k l).1;omega)).setCell Yv _
theorem Pa(h:0<s.size):s.toList.isEmpty=false:=by
 have:s.toList.length=s.size:=by rw[ByteArray.toList_eq];simp
 cases hl:s.toList with
 |nil=>rw[hl]at this;simp at this;omega
 |cons x r=>rfl
theorem Ue(s:Zi)(c:Int)(n:Nat)(w:Zh)(hs:s.size<=1048576)(G:1<=c)(h2:c<=8)(h0:0<s.size)(z:s[0].toNat=n)(S:(n:Int) *c<=s.size -1):
 Calls prog 210 #[.string s,Zg c] w fun e J=>
  (AO (DI s c n) (BG s c n) c=true->∃v,e=.returned (.tuple #[.agg #[.string (DI s c n),v],.bool true])/\J.ownsRow w.heap.size 9 1 v n ((BG s c n).map Value.string))/\
  (AO (DI s c n) (BG s c n) c=false->e=.returned (.tuple #[.agg #[Zd,Zc],.bool false]))/\Zz w J:=by
 obtain⟨i0,hi,O,P,Q⟩:=info_parts Dw;have x:s.toList.isEmpty=false:=Pa h0;have U:(0:Int)<s.size:=Yw
 have hn:n<256:=by rw[<-z];exact s[0].toNat_lt
 have Z:=Kk hn G h2;have HN:=Yx z;clear z;go_enter func210,ntmps210;go_wp2;go_quiet (fail);simp only[Cg];rw[HN.o];go_wp2_with fail;obtain⟨cn,q⟩:∃cn,cn=DI s c n:=⟨_,rfl⟩;rw[show(s.extract 1 s.size).extract ((n:Int) *c).toNat (s.size -1)=cn from q.symm];have t:=Yx q;clear q
 go_loopw [37] (fun i wr=>∃(k:Nat) (v:Value),k<=n/\i=Zg k/\wr.cell? (Ze (w.heap.size+1) 0)=some (.string cn)/\wr.cell? (Ze (w.heap.size+1) 1)=some v/\wr.frozen? ⟨w.heap.size+1,1,none⟩=false/\
  wr.ownsRow (w.heap.size+2) 9 1 v k ((BG s c k).map Value.string)/\Below (w.heap.size+1) (w.alloc (Obj.cells #[Value.string ⟨#[]⟩,Value.slice none 0 0] 64)) wr) (fun i _=>n -(intOf i).toNat)
 case atStart=>exact⟨0,Zc,Nat.zero_le _,rfl,by simp[go_sem],by simp[go_sem],by simp[go_sem],World.ownsRow_nil _ _ _ _,(Cb (Below.refl _ _) _).alloc Yv _⟩
 case round=>
  obtain⟨k,v,hk,rfl,u,B,D,l,d⟩:=hrel;have M:=d.size;simp at M;by_cases hlt:k<n
  .obtain⟨m1,m2,m3,m4⟩:=Uc G hlt;have Y:(s.extract 1 s.size).size=s.size -1:=Yv
   have T:(k:Int)<n:=Yw
   have e1:=Ez ((k:Int) *c) Yw Yw;have e2:=Ez ((k:Int)+1) Yw Yw;have e3:=Ez ((k:Int) *c+c) Yw Yw;have b2:(k:Int) *c<=(k:Int) *c+c:=Yw
   have b3:(k:Int) *c+c<=((s.size -1:Nat):Int):=Yw
   go_wp2;have x:=Ud l (b:=w.heap.size+1) Yw;have r:w.heap.size+1<wr.heap.size:=World.block_lt_of_cell? wr _ u
   go_region_law (refine step_append_lies _ rfl (.tmp 41) (.tmp 51) 22 rfl (w.heap.size+2) 9 i0 Zd 1 16 underlying22 hi O P Q rfl Ys v k ((BG s c k).map Value.string) rfl (World.ownsRow.alloc l _) ⟨wr.heap.size,0,none⟩ 1 1 [.string (JO s c k)] rfl rfl (cell_one_new wr (.string (JO s c k)) 9) (by simp[Value.oneCell']) Ys Yq Yw Yu (wr.heap.size+1) Yv ?_;intro g cap w1 o f zA V;have C:=Ik f u x;have K:=Ik f B x;have L:=(Kv (p:=⟨w.heap.size+1,1,none⟩) f Yu x).trans D)
   all_goals
    have R:=Nf r l d o f C K L;have y:=Yx R;clear R l d o f C u B D;go_wp2;refine⟨⟨_,_,_,_,_,_,_,_,_,_,_,_,_,_,_,_,_,_,_,⟨k+1,_,Yw,?_,y.o.1,y.o.2.1,y.o.2.2.1,y.o.2.2.2.1,y.o.2.2.2.2⟩,rfl⟩,?_⟩
    .go_num
    .simp[intOf];omega
  .obtain rfl:k=n:=Yw
   have r:w.heap.size+1<wr.heap.size:=World.block_lt_of_cell? wr _ u;obtain⟨a,cap,I,A⟩:=Ea (ss:=BG s c k) (by rw[Cs];exact l);rw[Cs]at I;subst I;have E:(wr.cell? (Ze (w.heap.size) 0))=some Zd:=by rw[d.cell (p:=⟨w.heap.size,0,none⟩) Yv];simp
   have F:(wr.cell? (Ze (w.heap.size) 1))=some Zc:=by rw[d.cell (p:=⟨w.heap.size,1,none⟩) Yv];simp
   have W:wr.frozen? ⟨w.heap.size,0,none⟩=false:=by rw[d.frozen (p:=⟨w.heap.size,0,none⟩) Yv];simp
   have X:wr.frozen? ⟨w.heap.size,1,none⟩=false:=by rw[d.frozen (p:=⟨w.heap.size,1,none⟩) Yv];simp
   have N:cn.size<=maxLen:=by rw[t.o];simp[DI,maxLen];omega
   have j:=Ex cn a cap (BG s c k) c wr A (by rw[Cs];omega) N;rw[Cs]at j;have m:w.heap.size<wr.heap.size:=Yw
   go_wp2_with fail;refine j.mono ?_;rintro e w2 ⟨rfl,rfl⟩;have H:Below w.heap.size w wr:=(Zy).trans (d.mono Yw);cases hok:AO cn (BG s c k) c with
   |true=>
    clear j;go_wp2;refine bodyPost_ret (v:=.tuple #[.agg #[.string cn,.slice a k cap],.bool true]) (by simp[results,results210,go_sem,m,E,F]) rfl ⟨fun _=>⟨.slice a k cap,?_,?_⟩,fun h=> ?_,?_⟩
    .rw[t.o]
    .exact((ownsRow_setCell_below (ownsRow_setCell_below l Yv _) Yv _).alloc _).mono Yw
    .rw[<-t.o,hok]at h;cases h
    .exact((H.setCell Yv _).setCell Yv _).alloc Yu _
   |false=>
    clear j;go_wp2;refine bodyPost_ret (v:=.tuple #[.agg #[Zd,Zc],.bool false]) (by simp[results,results210,go_sem,m,E,F]) rfl ⟨fun h=> ?_,fun _=>rfl,?_⟩
    .rw[<-t.o,hok]at h;cases h
    .exact((H.setCell Yv _).setCell Yv _).alloc Yu _
def Gh(w:Zh)(e:Ending)(w':Zh):Prop:=e=.returned (.tuple #[.agg #[Zd,Zc],.bool false])/\Zz w w'
theorem Uf(s:Zi)(a:Int)(w:Zh)(h:¬(1<=a/\a<=8)):
 Calls prog 210 #[.string s,Zg a] w (Gh w):=by
 by_cases h1:1<=a
 .have b:decide (a<=8)=false:=Yu
  go_enter func210,ntmps210;go_wp2;exact bodyPost_ret (v:=.tuple #[.agg #[Zd,Zc],.bool false]) (by simp[results,results210,go_sem]) rfl ⟨rfl,Zy⟩
 .go_enter func210,ntmps210;go_wp2;exact bodyPost_ret (v:=.tuple #[.agg #[Zd,Zc],.bool false]) (by simp[results,results210,go_sem]) rfl ⟨rfl,Zy⟩
theorem isEmpty(h:s.size=0):s.toList.isEmpty=true:=by
 have:s.toList.length=s.size:=by rw[ByteArray.toList_eq];simp
 rw[List.isEmpty_iff,<-List.length_eq_zero_iff];omega
theorem Ug(s:Zi)(a:Int)(w:Zh)(d:1<=a)(e:a<=8)(b:s.size=0):
 Calls prog 210 #[.string s,Zg a] w (Gh w):=by
 have c:=isEmpty b;go_enter func210,ntmps210;go_wp2;exact bodyPost_ret (v:=.tuple #[.agg #[Zd,Zc],.bool false]) (by simp[results,results210,go_sem]) rfl ⟨rfl,Zy⟩
theorem Uh(s:Zi)(b:Int)(n:Nat)(w:Zh)(k:s.size<=1048576)(g:1<=b)(h:b<=8)(f:0<s.size)(a:s[0].toNat=n)(c:(s.size:Int) -1<(n:Int) *b):
 Calls prog 210 #[.string s,Zg b] w (Gh w):=by
 have j:=Pa f;have d:(0:Int)<s.size:=Yw
 have i:n<256:=by rw[<-a];exact s[0].toNat_lt
 have e:=Kk i g h;have HN:=Yx a;clear a;go_enter func210,ntmps210;go_wp2;go_quiet (fail);simp only[Cg];rw[HN.o];go_wp2;refine bodyPost_ret (v:=.tuple #[.agg #[Zd,Zc],.bool false]) (by simp[results,results210,go_sem]) rfl ⟨rfl,?_⟩;exact(((Cb (Zy) _).setCell Yv _).setCell Yv _)
end Go.Proofs.YtcankpdbabaacaaGreatDoor
