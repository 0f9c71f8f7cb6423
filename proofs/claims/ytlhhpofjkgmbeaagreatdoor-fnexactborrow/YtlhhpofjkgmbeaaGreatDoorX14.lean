import Derived.Test.YtlhhpofjkgmbeaaGreatDoorX01
import Derived.Deep.RegionLaw
import Derived.Test.YtlhhpofjkgmbeaaGreatDoorRows
import Derived.OpenShut
import Derived.ShutString
import Derived.Lib.SmallJoins
import Derived.Lib.LaidTab
import Derived.LaidEql
import Derived.Stop.Asserts
import Derived.RowKitTokens
set_option maxRecDepth 100000
set_option maxHeartbeats 16000000
namespace Go.Proofs.YtlhhpofjkgmbeaaGreatDoor
open Go.ChangeShapes Go.WideShapes Go.ChangeAt Go.RowKit _root_.Go.Proofs.Tryz
def DA(k:Nat):Bool:=k==2||k==4||k==7
def Db(k:Nat):Bool:=k==2||k==3
def CC(k:Nat):Bool:=k==1
def Cu(k:Nat):Int:=if k=1∨k=4∨k=6 then 100000 else if k=5 then 1000000000 else 0
def DN(u:Bool)(s:Zi)(wd:Int):Bool:=if u then decide ((s.size:Int)=wd)else decide (s.size=0)
def EO(u:Bool)(s:Zi):Bool:=if u then CP s else decide (s.size=0)
def DO(m n:Int):Bool:=if m=0 then decide (n=0)else decide (1<=n/\n<=m)
def Ib(u:Bool)(t:Zi)(ss:Zl)(wd:Int):Bool:=if u then AJ t ss wd else decide (t.size=0/\ss.length=0)
theorem Ft{s:Zi}:s.toList.isEmpty=decide (s.size=0):=by
 have:s.toList.length=s.size:=by rw[ByteArray.toList_eq];simp
 rw[←this];cases s.toList<;>simp
theorem Pg(s:Zi)(a b c:Bool)(m f:Int)(w:Zh):
 Calls prog 140 #[.string s,.agg #[.bool a,.bool b,.bool c,Zg m],Zg f] w fun e h=>e=.returned (.bool (DN b s f))/\Zz w h:=by
 cases b with
 |true=>go_enter func140,ntmps140;go_wp2;go_ret;exact⟨Aw rfl,Zy⟩
 |false=>have d:=Ft (s:=s);have g:=Yx d;clear d;go_enter func140,ntmps140;go_wp2;go_ret;exact⟨Aw g.o,Zy⟩
theorem NX(s:Zi)(a b c:Bool)(m:Int)(w:Zh)(f:s.size<=maxLen):
 Calls prog 141 #[.string s,.agg #[.bool a,.bool b,.bool c,Zg m]] w fun e g=>e=.returned (.bool (EO a s))/\Zz w g:=by
 cases a with
 |true=>go_enter func141,ntmps141;go_wp2_with fail;refine(Se s _ f).mono ?_;rintro e h ⟨rfl,rfl⟩;go_wp2;go_ret;exact⟨Aw rfl,Zy⟩
 |false=>have d:=Yx (Ft (s:=s));go_enter func141,ntmps141;go_wp2;go_ret;exact⟨Aw d.o,Zy⟩
theorem Ph(n:Int)(a b c:Bool)(m:Int)(w:Zh):
 Calls prog 142 #[Zg n,.agg #[.bool a,.bool b,.bool c,Zg m]] w fun e f=>e=.returned (.bool (DO m n))/\Zz w f:=by
 by_cases hm:m=0
 ·subst hm;go_enter func142,ntmps142;go_wp2;go_ret;exact⟨Aw (by unfold DO;rw[if_pos rfl];rfl),Zy⟩
 ·have h:(m==0)=false:=by simpa using hm
  have d:=Yx hm;clear hm;by_cases h1:1<=n
  ·go_enter func142,ntmps142;go_wp2;go_ret;exact⟨Aw (by unfold DO;rw[if_neg d.o];simp[h1]),Zy⟩
  ·have g:decide (1<=n)=false:=by simpa using h1
   go_enter func142,ntmps142;go_wp2;go_ret;exact⟨Aw (by unfold DO;rw[if_neg d.o,decide_eq_false (by omega)]),Zy⟩
theorem MS(t:Zi)(i:Zk)(g:Nat)(d:Zl)(a b c:Bool)(m l:Int)(w:Zh)(j:Ad w w.heap.size i d)(p:d.length<=1048576)(q:t.size<=maxLen):
 Calls prog 143 #[.agg #[.string t,.slice i d.length g],.agg #[.bool a,.bool b,.bool c,Zg m],Zg l] w fun e r=>e=.returned (.bool (Ib c t d l))/\Zz w r:=by
 have f:Below w.heap.size w ((w.alloc (.cells #[.string t,.slice i d.length g] 58)).alloc (.cells #[.bool a,.bool b,.bool c,Zg m] 194)):=(Zy).alloc (by simp) _;cases c with
 |true=>go_enter func143,ntmps143;go_wp2_with fail;refine(Ec t i g d l _ (j.af f) p q).mono ?_;rintro e s ⟨rfl,rfl⟩;go_wp2;go_ret;exact⟨Aw rfl,f.alloc (by simp;omega) _⟩
 |false=>
  by_cases h1:t.size=0
  ·have o:t.toList.isEmpty=true:=by rw[Ft];simpa using h1
   have k:=Yx h1;clear h1;go_enter func143,ntmps143;go_wp2;go_ret;refine⟨Aw ?_,f⟩;unfold Ib;rw[if_neg (by decide)];have n:=k.o;by_cases hs0:d.length=0
   ·rw[decide_eq_true ⟨n,hs0⟩];simp[hs0]
   ·rw[decide_eq_false (fun h=>hs0 h.2)];simp;intro h;exact hs0 (by rw[h];rfl)
  ·have o:t.toList.isEmpty=false:=by rw[Ft];simpa using h1
   have k:=Yx h1;clear h1;go_enter func143,ntmps143;go_wp2;go_ret;refine⟨Aw ?_,f⟩;unfold Ib;rw[if_neg (by decide),decide_eq_false (fun h=>k.o h.1)]
def Jk(w:Zh):Prop:=∀k,1<=k->k<=7->w.cell? (Ze 0 (k *4))=some (.bool (Db k))/\w.cell? (Ze 0 (k *4+1))=some (.bool (DA k))/\w.cell? (Ze 0 (k *4+2))=some (.bool (CC k))/\w.cell? (Ze 0 (k *4+3))=some (Zg (Cu k))
theorem Jk.below{w g:Zh}(h:Jk w)(f:Zz w g):Jk g:=by intro k i j;obtain⟨a,b,c,d⟩:=h k i j;have e:=World.block_lt_of_cell? w _ a;exact⟨(f.cell (p:=⟨0,k *4,none⟩) e).trans a,(f.cell (p:=⟨0,k *4+1,none⟩) e).trans b,(f.cell (p:=⟨0,k *4+2,none⟩) e).trans c,(f.cell (p:=⟨0,k *4+3,none⟩) e).trans d⟩
theorem JO(k:Nat)(w:Zh)(d:Jk w)(b:1<=k)(c:k<=7):
 Calls prog 139 #[Zg k] w fun e f=>e=.returned (.tuple #[.agg #[.bool (Db k),.bool (DA k),.bool (CC k),Zg (Cu k)],.bool true])/\Zz w f:=by
 obtain⟨a,h,c2,c3⟩:=d k b c;have g:=World.block_lt_of_cell? w _ a;have i:decide ((k:Int)<1)=false:=by simp;omega
 have j:decide ((7:Int)<k)=false:=by simp;omega
 have l:(k:Int)<8:=by omega
 go_enter func139,ntmps139;go_wp2;exact bodyPost_ret (v:=.tuple #[.agg #[.bool (Db k),.bool (DA k),.bool (CC k),Zg (Cu k)],.bool true]) (by simp[results,results139,go_sem]) rfl ⟨rfl,Zy⟩
theorem KY(k:Int)(w:Zh)(h:¬(1<=k/\k<=7)):
 Calls prog 139 #[Zg k] w fun e b=>e=.returned (.tuple #[.agg #[.bool false,.bool false,.bool false,Zf],.bool false])/\Zz w b:=by
 by_cases h1:k<1
 ·have a:decide (k<1)=true:=by simpa using h1
  go_enter func139,ntmps139;go_wp2;exact bodyPost_ret (v:=.tuple #[.agg #[.bool false,.bool false,.bool false,Zf],.bool false]) (by simp[results,results139,go_sem]) rfl ⟨rfl,Zy⟩
 ·have a:decide (k<1)=false:=by simpa using h1
  have c:decide (7<k)=true:=by simp;omega
  go_enter func139,ntmps139;go_wp2;exact bodyPost_ret (v:=.tuple #[.agg #[.bool false,.bool false,.bool false,Zf],.bool false]) (by simp[results,results139,go_sem]) rfl ⟨rfl,Zy⟩
def CG(k:Nat)(sum name:Zi)(n:Int)(t:Zi)(ss:Zl)(wd:Int):Bool:=
 decide (1<=wd/\wd<=8)&&(DN (DA k) sum wd&&(EO (Db k) name&&(DO (Cu k) n&&Ib (CC k) t ss wd)))
abbrev Ep(k:Int)(sum name:Zi)(n:Int)(t:Zi)(ad:Zk)(len cap:Nat):Array Value:= #[Zg k,.string sum,.string name,Zg n,.string t,.slice ad len cap]
theorem Pj(k:Int)(c name:Zi)(n:Int)(t:Zi)(d:Zk)(b:Nat)(g:Zl)(i:Int)(w:Zh)(f:¬(1<=k/\k<=7)):
 Calls prog 100 #[.agg (Ep k c name n t d g.length b),Zg i] w fun e h=>e=.returned (.bool false)/\Zz w h:=by
 go_enter func100,ntmps100;go_wp2_with fail;refine(KY k _ f).mono ?_;rintro e j ⟨rfl,a⟩;go_wp2;go_ret;exact⟨rfl,((Zy).trans (a.mono (by simp))).alloc (by have:=a.size;simp at this;omega) _⟩
structure EB (W:Zh) (B P:Nat) (sum name:Zi) (n:Int) (t:Zi) (v:Value) (a b c:Bool) (m:Int):Prop where
 x1:W.cell? (Ze B 1)=some (.string sum)
 x2:W.cell? (Ze B 2)=some (.string name)
 x3:W.cell? (Ze B 3)=some (Zg n)
 x4:W.cell? (Ze B 4)=some (.string t)
 x5:W.cell? (Ze B 5)=some v
 y0:W.cell? (Ze P 0)=some (.bool a)
 y1:W.cell? (Ze P 1)=some (.bool b)
 y2:W.cell? (Ze P 2)=some (.bool c)
 y3:W.cell? (Ze P 3)=some (Zg m)
theorem EB.below{W i:Zh}{B P:Nat}{g name:Zi}{n:Int}{t:Zi}{v:Value}{a b c:Bool}{m:Int}(h:EB W B P g name n t v a b c m)(d:Zz W i):EB i B P g name n t v a b c m:=by
 have e:=World.block_lt_of_cell? W _ h.x1;have f:=World.block_lt_of_cell? W _ h.y0;exact⟨(d.cell (p:=⟨B,1,none⟩) e).trans h.x1,(d.cell (p:=⟨B,2,none⟩) e).trans h.x2,(d.cell (p:=⟨B,3,none⟩) e).trans h.x3,(d.cell (p:=⟨B,4,none⟩) e).trans h.x4,(d.cell (p:=⟨B,5,none⟩) e).trans h.x5,
  (d.cell (p:=⟨P,0,none⟩) f).trans h.y0,(d.cell (p:=⟨P,1,none⟩) f).trans h.y1,(d.cell (p:=⟨P,2,none⟩) f).trans h.y2,(d.cell (p:=⟨P,3,none⟩) f).trans h.y3⟩
theorem KZ(k:Nat)(d name:Zi)(n:Int)(t:Zi)(u:Zk)(q:Nat)(h:Zl)(b:Int)(w:Zh)(hT:Jk w)(Z:1<=k)(h7:k<=7)
 (J:Ad w w.heap.size u h) (hl:h.length<=1048576) (ht:t.size<=maxLen) (hn:name.size<=maxLen):
 Calls prog 100 #[.agg (Ep k d name n t u h.length q),Zg b] w fun e w'=>e=.returned (.bool (CG k d name n t h b))/\Zz w w':=by
 have L:Below w.heap.size w (w.alloc (.cells (Ep k d name n t u h.length q) 60)):=Zy;go_enter func100,ntmps100;go_wp2_with fail;refine(JO k _ (hT.below L) Z h7).mono ?_;rintro e f ⟨rfl,c⟩;have T:=c.size;simp at T;have a:w.heap.size<f.heap.size:=by omega
 have K:=L.trans (c.mono (by simp));obtain⟨R,S⟩:=Jz c;have i:f.cell? (Ze (w.heap.size) 1)=some (.string d):=by rw[c.cell (p:=⟨w.heap.size,1,none⟩) (by simp)];simp
 have j:f.cell? (Ze (w.heap.size) 2)=some (.string name):=by rw[c.cell (p:=⟨w.heap.size,2,none⟩) (by simp)];simp
 have l:f.cell? (Ze (w.heap.size) 3)=some (Zg n):=by rw[c.cell (p:=⟨w.heap.size,3,none⟩) (by simp)];simp
 have m:f.cell? (Ze (w.heap.size) 4)=some (.string t):=by rw[c.cell (p:=⟨w.heap.size,4,none⟩) (by simp)];simp
 have o:f.cell? (Ze (w.heap.size) 5)=some (.slice u h.length q):=by rw[c.cell (p:=⟨w.heap.size,5,none⟩) (by simp)];simp
 clear R S;obtain⟨O,y⟩:∃W,W=f.alloc (.cells #[.bool (Db k),.bool (DA k),.bool (CC k),Zg (Cu k)] 194):=⟨_,rfl⟩;have g:Below f.heap.size f O:=by rw[y];exact Zy
 have P:EB O w.heap.size f.heap.size d name n t (.slice u h.length q) (Db k) (DA k) (CC k) (Cu k):=by refine⟨(g.cell (p:=⟨w.heap.size,1,none⟩) a).trans i,(g.cell (p:=⟨w.heap.size,2,none⟩) a).trans j,(g.cell (p:=⟨w.heap.size,3,none⟩) a).trans l,(g.cell (p:=⟨w.heap.size,4,none⟩) a).trans m,(g.cell (p:=⟨w.heap.size,5,none⟩) a).trans o,?_,?_,?_,?_⟩<;>(rw[y];simp)
 have v:=K.trans (g.mono K.size);have D:=Yx y;clear y;by_cases hw:1<=b/\b<=8
 ·obtain⟨M,N⟩:=hw;have r:decide (1<=b/\b<=8)=true:=by simp[M,N]
  have s:=Yx r;clear r;go_wp2_with (go_at_call 89;go_in);rw[←D.o];refine(Pg d (Db k) (DA k) (CC k) (Cu k) b O).mono ?_;rintro e w3 ⟨rfl,G⟩;have U:=P.below G;have E:=v.trans (G.mono v.size);clear P G;cases hs:DN (DA k) d b with
  |false=>go_wp2;go_ret;exact⟨Aw (by unfold CG;rw[hs];simp),E⟩
  |true=>
   have Y:=Yx hs;clear hs;obtain⟨i,j,l,m,o,z,A,B,C⟩:=U;go_wp2_with fail;refine(NX name (Db k) (DA k) (CC k) (Cu k) _ hn).mono ?_;rintro e w4 ⟨rfl,H⟩;have V:=(EB.mk i j l m o z A B C).below H;have F:=E.trans (H.mono E.size);clear i j l m o z A B C H;cases hnm:EO (Db k) name with
   |false=>go_wp2;go_ret;exact⟨Aw (by unfold CG;rw[hnm];simp),F⟩
   |true=>
    have HN:=Yx hnm;clear hnm;obtain⟨i,j,l,m,o,z,A,B,C⟩:=V;go_wp2_with fail;refine(Ph n (Db k) (DA k) (CC k) (Cu k) _).mono ?_;rintro e w5 ⟨rfl,I⟩;have X:=(EB.mk i j l m o z A B C).below I;have x:=F.trans (I.mono F.size);clear i j l m o z A B C I;cases hnu:DO (Cu k) n with
    |false=>go_wp2;go_ret;exact⟨Aw (by unfold CG;rw[hnu];simp),x⟩
    |true=>have HU:=Yx hnu;clear hnu;obtain⟨i,j,l,m,o,z,A,B,C⟩:=X;go_wp2_with fail;refine(MS t u q h (Db k) (DA k) (CC k) (Cu k) b _ (J.af x) hl ht).mono ?_;rintro e w6 ⟨rfl,Q⟩;go_wp2;go_ret;exact⟨Aw (by unfold CG;rw[s.o,Y.o,HN.o,HU.o];rfl),x.trans (Q.mono x.size)⟩
 ·have r:decide (1<=b/\b<=8)=false:=by simpa using hw
  have s:=Yx r;clear r;by_cases M:1<=b
  ·have N:decide (b<=8)=false:=by simp;omega
   go_wp2;go_ret;refine⟨Aw (by unfold CG;rw[s.o];rfl),?_⟩;rw[←D.o];exact v
  ·go_wp2;go_ret;refine⟨Aw (by unfold CG;rw[s.o];rfl),?_⟩;rw[←D.o];exact v
def Jl(k:Nat):Int:=if k=1∨k=4∨k=6 then 1 else if k=5 then 2 else 0
theorem UG(k:Nat)(w:Zh)(a:1<=k)(b:k<=7):
 Calls prog 71 #[Zg k] w fun e c=>e=.returned (.tuple #[.bool (DA k),.bool (Db k),Zg (Jl k),.bool (CC k)])/\c=w:=by
 match k,a,b with
 |1,_,_|2,_,_|3,_,_|4,_,_|5,_,_|6,_,_|7,_,_=>
  go_enter func71,ntmps71;go_wp2;refine bodyPost_ret ?_ rfl ⟨rfl,rfl⟩;simp[results,results71,go_sem,DA,Db,Jl,CC]
theorem UH(k:Nat)(n:Int)(w:Zh):
 Calls prog 72 #[Zg n,Zg (Jl k)] w fun e f=>e=.returned (.bool (DO (Cu k) n))/\f=w:=by
 have d:(Jl k=1/\Cu k=100000)∨(Jl k=2/\Cu k=1000000000)∨(Jl k=0/\Cu k=0):=by
  unfold Jl Cu;split
  ·exact .inl ⟨rfl,rfl⟩
  ·split
   ·exact .inr (.inl ⟨rfl,rfl⟩)
   ·exact .inr (.inr ⟨rfl,rfl⟩)
 rcases d with⟨a,b⟩|⟨a,b⟩|⟨a,b⟩<;>rw[a,b]
 ·by_cases hn:1<=n
  ·go_enter func72,ntmps72;go_wp2;go_ret;exact⟨Aw (by unfold DO;rw[if_neg (by decide)];simp[hn]),rfl⟩
  ·have c:decide (1<=n)=false:=by simpa using hn
   go_enter func72,ntmps72;go_wp2;go_ret;exact⟨Aw (by unfold DO;rw[if_neg (by decide),decide_eq_false (by omega)]),rfl⟩
 ·by_cases hn:1<=n
  ·go_enter func72,ntmps72;go_wp2;go_ret;exact⟨Aw (by unfold DO;rw[if_neg (by decide)];simp[hn]),rfl⟩
  ·have c:decide (1<=n)=false:=by simpa using hn
   go_enter func72,ntmps72;go_wp2;go_ret;exact⟨Aw (by unfold DO;rw[if_neg (by decide),decide_eq_false (by omega)]),rfl⟩
 ·go_enter func72,ntmps72;go_wp2;go_ret;exact⟨Aw (by unfold DO;rw[if_pos rfl];rfl),rfl⟩
theorem UI(k:Int)(f name:Zi)(n:Int)(t:Zi)(g:Zk)(b:Nat)(i:Zl)(a:Int)(w:Zh)(m:¬(1<=k/\k<=7)):
 Calls prog 35 #[.agg (Ep k f name n t g i.length b),Zg a] w fun e j=>e=.returned (.bool false)/\Zz w j:=by
 by_cases hw:1<=a/\a<=8
 ·obtain⟨c,d⟩:=hw;by_cases h1:k<1
  ·have h:decide (k<1)=true:=by simpa using h1
   go_enter func35,ntmps35;go_wp2;go_ret;exact⟨rfl,Zy⟩
  ·have h:decide (k<1)=false:=by simpa using h1
   have l:decide (7<k)=true:=by simp;omega
   go_enter func35,ntmps35;go_wp2;go_ret;exact⟨rfl,Zy⟩
 ·by_cases c:1<=a
  ·have d:decide (a<=8)=false:=by simp;omega
   go_enter func35,ntmps35;go_wp2;go_ret;exact⟨rfl,Zy⟩
  ·go_enter func35,ntmps35;go_wp2;go_ret;exact⟨rfl,Zy⟩
theorem SI(k:Nat)(c name:Zi)(n:Int)(t:Zi)(g:Zk)(f:Nat)(d:Zl)(a:Int)(w:Zh)(h:¬(1<=a/\a<=8)):
 Calls prog 35 #[.agg (Ep k c name n t g d.length f),Zg a] w fun e i=>e=.returned (.bool (CG k c name n t d a))/\Zz w i:=by
 have b:Hid (decide (1<=a/\a<=8)=false):=by show _=_;simpa using h
 by_cases hw1:1<=a
 ·have j:decide (a<=8)=false:=by simp;omega
  go_enter func35,ntmps35;go_wp2;go_ret;exact⟨Aw (by unfold CG;rw[b.o];rfl),Zy⟩
 ·go_enter func35,ntmps35;go_wp2;go_ret;exact⟨Aw (by unfold CG;rw[b.o];rfl),Zy⟩
theorem Iw{t:Zi}{a:Zl}{c:Int}(b:t.size=0):((a.length:Int)==0)=(true&&(true&&(true&&Ib false t a c))):=by
 unfold Ib;rw[if_neg (by decide)];by_cases hs0:a.length=0
 ·rw[decide_eq_true ⟨b,hs0⟩];simp[hs0]
 ·rw[decide_eq_false (fun h=>hs0 h.2)];simp;intro h;exact hs0 (by rw[h];rfl)
theorem Iy{t:Zi}{b:Zl}{c:Int}(a:¬t.size=0):false=(true&&(true&&(true&&Ib false t b c))):=by unfold Ib;rw[if_neg (by decide),decide_eq_false (fun h=>a h.1)];rfl
theorem PY(k:Nat)(c name:Zi)(n:Int)(t:Zi)(o:Zk)(l:Nat)(j:Zl)(f:Int)(w:Zh)(D:1<=k)(E:k<=7)(B:1<=f)(C:f<=8)
 (h:Ad w w.heap.size o j) (r:j.length<=1048576) (s:t.size<=maxLen) (y:name.size<=maxLen):
 Calls prog 35 #[.agg (Ep k c name n t o j.length l),Zg f] w fun e F=>e=.returned (.bool (CG k c name n t j f))/\Zz w F:=by
 have a:Below w.heap.size w (w.alloc (.cells (Ep k c name n t o j.length l) 60)):=Zy;have A:Hid (decide (1<=f/\f<=8)=true):=by show _=_;simp[B,C]
 have I:decide ((k:Int)<1)=false:=by simp;omega
 have J:decide ((7:Int)<k)=false:=by simp;omega
 have HU:=UG k;have v:=UH k n;unfold CG;rw[A.o,Bool.true_and];generalize Jl k=kn at *
 generalize DO (Cu k) n=nu at *
 generalize hks:DA k=us at *
 generalize hkn:Db k=un at *
 generalize hkt:CC k=ut at *
 have z:=Yx HU;have u:=Yx v;clear HU v hks hkn hkt;go_enter func35,ntmps35;go_wp2_with (go_at_call 62;go_in);refine(z.o _ D E).mono ?_;rintro e K ⟨rfl,rfl⟩;cases us with
 |true=>
  by_cases hs:(c.size:Int)=f
  ·have q:((c.size:Int) !=f)=false:=by simpa using hs
   have d:Hid (DN true c f=true):=by show _=_;simpa [DN]using hs
   clear hs;go_wp2_with fail;refine(u.o _).mono ?_;rintro e G ⟨rfl,rfl⟩;cases nu with
   |false=>go_wp2;go_ret;exact⟨Aw (by simp),a⟩
   |true=>
    cases un with
    |true=>
     go_wp2_with fail;refine(LW name _ y).mono ?_;rintro e H ⟨rfl,rfl⟩;cases hno:CP name with
     |false=>go_wp2;go_ret;exact⟨Aw (by simp[EO,hno]),a⟩
     |true=>
      have b:Hid (EO true name=true):=hno;clear hno;cases ut with
      |true=>go_wp2_with fail;refine(CX t o l j f _ (h.af a) r s).mono ?_;rintro e x ⟨rfl,i⟩;go_wp2;go_ret;exact⟨Aw (by rw[d.o,b.o];rfl),a.trans (i.mono (by simp))⟩
      |false=>
       by_cases h0:t.size=0
       ·have p:t.toList.isEmpty=true:=by rw[Ft];simpa using h0
        have g:=Yx h0;clear h0;go_wp2;go_ret;exact⟨Aw (by rw[d.o,b.o];exact Iw g.o),a⟩
       ·have p:t.toList.isEmpty=false:=by rw[Ft];simpa using h0
        have g:=Yx h0;clear h0;go_wp2;go_ret;exact⟨Aw (by rw[d.o,b.o];exact Iy g.o),a⟩
    |false=>
     by_cases hno:name.size=0
     ·have m:name.toList.isEmpty=true:=by rw[Ft];simpa using hno
      have b:Hid (EO false name=true):=by show _=_;simpa [EO]using hno
      clear hno;cases ut with
      |true=>go_wp2_with fail;refine(CX t o l j f _ (h.af a) r s).mono ?_;rintro e x ⟨rfl,i⟩;go_wp2;go_ret;exact⟨Aw (by rw[d.o,b.o];rfl),a.trans (i.mono (by simp))⟩
      |false=>
       by_cases h0:t.size=0
       ·have p:t.toList.isEmpty=true:=by rw[Ft];simpa using h0
        have g:=Yx h0;clear h0;go_wp2;go_ret;exact⟨Aw (by rw[d.o,b.o];exact Iw g.o),a⟩
       ·have p:t.toList.isEmpty=false:=by rw[Ft];simpa using h0
        have g:=Yx h0;clear h0;go_wp2;go_ret;exact⟨Aw (by rw[d.o,b.o];exact Iy g.o),a⟩
     ·have m:name.toList.isEmpty=false:=by rw[Ft];simpa using hno
      have b:Hid (EO false name=false):=by show _=_;simpa [EO]using hno
      clear hno;go_wp2;go_ret;exact⟨Aw (by rw[b.o];simp),a⟩
  ·have q:((c.size:Int) !=f)=true:=by simpa using hs
   have d:Hid (DN true c f=false):=by show _=_;simpa [DN]using hs
   clear hs;go_wp2;go_ret;exact⟨Aw (by rw[d.o];rfl),a⟩
 |false=>
  by_cases hs:c.size=0
  ·have q:c.toList.isEmpty=true:=by rw[Ft];simpa using hs
   have d:Hid (DN false c f=true):=by show _=_;simpa [DN]using hs
   clear hs;go_wp2_with fail;refine(u.o _).mono ?_;rintro e G ⟨rfl,rfl⟩;cases nu with
   |false=>go_wp2;go_ret;exact⟨Aw (by simp),a⟩
   |true=>
    cases un with
    |true=>
     go_wp2_with fail;refine(LW name _ y).mono ?_;rintro e H ⟨rfl,rfl⟩;cases hno:CP name with
     |false=>go_wp2;go_ret;exact⟨Aw (by simp[EO,hno]),a⟩
     |true=>
      have b:Hid (EO true name=true):=hno;clear hno;cases ut with
      |true=>go_wp2_with fail;refine(CX t o l j f _ (h.af a) r s).mono ?_;rintro e x ⟨rfl,i⟩;go_wp2;go_ret;exact⟨Aw (by rw[d.o,b.o];rfl),a.trans (i.mono (by simp))⟩
      |false=>
       by_cases h0:t.size=0
       ·have p:t.toList.isEmpty=true:=by rw[Ft];simpa using h0
        have g:=Yx h0;clear h0;go_wp2;go_ret;exact⟨Aw (by rw[d.o,b.o];exact Iw g.o),a⟩
       ·have p:t.toList.isEmpty=false:=by rw[Ft];simpa using h0
        have g:=Yx h0;clear h0;go_wp2;go_ret;exact⟨Aw (by rw[d.o,b.o];exact Iy g.o),a⟩
    |false=>
     by_cases hno:name.size=0
     ·have m:name.toList.isEmpty=true:=by rw[Ft];simpa using hno
      have b:Hid (EO false name=true):=by show _=_;simpa [EO]using hno
      clear hno;cases ut with
      |true=>go_wp2_with fail;refine(CX t o l j f _ (h.af a) r s).mono ?_;rintro e x ⟨rfl,i⟩;go_wp2;go_ret;exact⟨Aw (by rw[d.o,b.o];rfl),a.trans (i.mono (by simp))⟩
      |false=>
       by_cases h0:t.size=0
       ·have p:t.toList.isEmpty=true:=by rw[Ft];simpa using h0
        have g:=Yx h0;clear h0;go_wp2;go_ret;exact⟨Aw (by rw[d.o,b.o];exact Iw g.o),a⟩
       ·have p:t.toList.isEmpty=false:=by rw[Ft];simpa using h0
        have g:=Yx h0;clear h0;go_wp2;go_ret;exact⟨Aw (by rw[d.o,b.o];exact Iy g.o),a⟩
     ·have m:name.toList.isEmpty=false:=by rw[Ft];simpa using hno
      have b:Hid (EO false name=false):=by show _=_;simpa [EO]using hno
      clear hno;go_wp2;go_ret;exact⟨Aw (by rw[b.o];simp),a⟩
  ·have q:c.toList.isEmpty=false:=by rw[Ft];simpa using hs
   have d:Hid (DN false c f=false):=by show _=_;simpa [DN]using hs
   clear hs;go_wp2;go_ret;exact⟨Aw (by rw[d.o];rfl),a⟩
def u8(x:Int):UInt8:=UInt8.ofNat x.toNat
theorem EG(x:Int)(a:0<=x)(h:x<256):Value.int .u8 x=.int .u8 ((u8 x).toNat:Int):=by
 have:(u8 x).toNat=x.toNat:=by simp[u8];omega
 rw[this];congr 1;omega
def BZ(k n m:Int):List UInt8:=[u8 k,u8 (n/16777216),u8 (n/65536%256),u8 (n/256%256),u8 (n%256),u8 m]
def CR(k:Nat)(sum name:Zi)(n:Int)(t:Zi)(ss:Zl):List UInt8:=
 BZ k n name.size++name.data.toList++sum.data.toList++(if k=1 then BB t ss else [])
theorem Hk{P:Program}(w:Zh){k:Array Oper}{o:Oper}{a:Act}{K:Act->Zh->Prop}{Q:Exit->Act->Zh->Prop}{E:Prop}(r:o.guard=none)(m x:Operand)(t u:TypeId)
 (B:o.op=.call {callee:=.builtin .append,args:= #[m,x],argTypes:= #[t,u]})
 (base:Nat) (e:TypeId) (i:TypeInfo) (F:P.underlying t=some (.slice e)) (G:P.underlying u=some .string) (A:P.info? e=some i) (J:i.zero=some (.int .u8 0))
 (d:i.size=1) (q:i.bytes=1)
 (v:Value) (n:Nat) (l:Zj) (D:a.eval m=v) (j:w.ownsRow base e 1 v n l) (s:Zi) (I:a.eval x=.string s)
 (p:n+s.size<=maxLen) (b:n+s.size<=140737488355328) (c:base<=w.heap.size)
 (h:∀g f,f.ownsRow base e 1 g (n+s.size) (l++Lib.strCells s)->w.grownBy f v.ownBlock->K (a.put o.dst g) f):
 if Region.wanted o (yielded k a.tmps)=true then Oper.wp P o a w K Q else E:=by
 have H:Region.wanted o (yielded k a.tmps)=true:=by simp[Region.wanted,r]
 rw[if_pos H];obtain⟨g,f,C,y,z,_⟩:=Lib.run_append_own_string (P:=P) w base t u o.type e i F G A J d q v n l j s p b c;unfold Oper.wp execOp;simp only[B,resolve,invoke,builtin,Sem.run_bind,Sem.run_pure,Result.andThen_ok,List.map_toArray,List.map_cons,List.map_nil,D,I,C];exact h g f y z
structure VH (k:Nat) (sum name:Zi) (n:Int) (t:Zi) (ss:Zl) (wd:Int):Prop where
 w1:1<=wd
 w2:wd<=8
 sum:sum.size<=8
 name:name.size<=40
 n0:0<=n
 n1:n<=1000000000
 dh:k=1->AJ t ss wd=true
theorem DZ{k:Nat}{d name:Zi}{n:Int}{t:Zi}{e:Zl}{f:Int}(h:CG k d name n t e f=true):VH k d name n t e f:=by
 unfold CG at h;simp only[Bool.and_eq_true,decide_eq_true_eq]at h;obtain⟨⟨g,i⟩,c,a,b,l⟩:=h;refine⟨g,i,?_,?_,?_,?_,?_⟩
 ·unfold DN at c;split at c<;>simp at c
  ·omega
  ·simp[c]
 ·unfold EO at a;split at a
  ·unfold CP at a;simp at a;omega
  ·simp at a;simp[a]
 ·unfold DO at b;split at b<;>simp at b<;>omega
 ·have m:Cu k<=1000000000:=by
   unfold Cu;split
   ·omega
   ·split<;>omega
  unfold DO at b;split at b<;>simp at b<;>omega
 ·intro j;subst j;exact l
theorem SJ:(prog.info? 5).map (fun i=>(i.zero,i.size,i.bytes))=some (some (.int .u8 0),1,1):=by kernel_rfl
theorem SK(k n m:Int)(a:0<=k)(c:k<256)(e:0<=n)(f:n<=1000000000)(b:0<=m)(d:m<256):
 [Value.int .u8 k,.int .u8 (n/16777216),.int .u8 (n/65536%256),.int .u8 (n/256%256),.int .u8 (n%256),.int .u8 m]=Lib.byteCells (BZ k n m):=by
 rw[EG k a c,EG (n/16777216) (by omega) (by omega),EG (n/65536%256) (by omega) (by omega),EG (n/256%256) (by omega) (by omega),EG (n%256) (by omega) (by omega),EG m b d];rfl
theorem PZ{w:Zh}{base:Nat}{e:TypeId}{v:Value}{n:Nat}{c:Zj}(h:w.ownsRow base e 1 v n c){b:Nat}(d:b<base):some b≠v.ownBlock:=by intro a;have:=(h.lt b a.symm).1;omega
theorem SL(k:Nat)(b name:Zi)(n:Int)(t:Zi)(A:Zk)(q:Nat)(c:Zl)(T:Int)(w:Zh)(h1:1<=k)(h7:k<=7)
 (u:Ad w w.heap.size A c) (hl:c.length<=1048576) (ht:t.size<=maxLen) (G:CG k b name n t c T=true):
 Calls prog 39 #[.agg (Ep k b name n t A c.length q),Zg T] w fun e w'=>e=.returned (.string ⟨(CR k b name n t c).toArray⟩)/\Zz w w':=by
 have hp:=DZ G;obtain⟨zP,zR,zV,zE,zK,zM,H⟩:=hp;obtain⟨i0,hi,R,S,v⟩:=info_parts SJ;have N:Below w.heap.size w (w.alloc (.cells (Ep k b name n t A c.length q) 60)):=Zy;go_enter func39,ntmps39;go_wp2_with fail;refine(PY k b name n t A q c T _ h1 h7 zP zR (u.af N) hl ht (by unfold maxLen;omega)).mono ?_;rintro e f ⟨rfl,h⟩;rw[G];have hz:=h.size;simp at hz;have d:w.heap.size<f.heap.size:=by omega
 have L:=N.trans (h.mono (by simp));have U:f.cell? (Ze (w.heap.size) 0)=some (Zg k):=by rw[h.cell (p:=⟨w.heap.size,0,none⟩) (by simp)];simp
 have V:f.cell? (Ze (w.heap.size) 1)=some (.string b):=by rw[h.cell (p:=⟨w.heap.size,1,none⟩) (by simp)];simp
 have x2:f.cell? (Ze (w.heap.size) 2)=some (.string name):=by rw[h.cell (p:=⟨w.heap.size,2,none⟩) (by simp)];simp
 have x3:f.cell? (Ze (w.heap.size) 3)=some (Zg n):=by rw[h.cell (p:=⟨w.heap.size,3,none⟩) (by simp)];simp
 have X:f.cell? (Ze (w.heap.size) 4)=some (.string t):=by rw[h.cell (p:=⟨w.heap.size,4,none⟩) (by simp)];simp
 have Y:f.cell? (Ze (w.heap.size) 5)=some (.slice A c.length q):=by rw[h.cell (p:=⟨w.heap.size,5,none⟩) (by simp)];simp
 have I:=u.below L;have zF:=Yx G;clear G H u h N;obtain⟨z,C⟩:∃W,W=f.alloc (.cells #[.int .u8 k,.int .u8 (n/16777216),.int .u8 (n/65536%256),.int .u8 (n/256%256),.int .u8 (n%256),.int .u8 name.size] 5):=⟨_,rfl⟩;have D:z.ownsRow f.heap.size 5 1 (Za f.heap.size 6 6) 6 (Lib.byteCells (BZ k n name.size)):=by rw[C,←SK k n name.size (by omega) (by omega) zK zM (by omega) (by omega)];exact World.ownsRow_lit f _ 6 (Zx) (by simp[maxLen]) rfl
 have i:Below f.heap.size f z:=by rw[C];exact Zy
 have zC:=i.size;have HW:=Yx C;clear C;go_wp2;rw[←HW.o];have U:z.cell? (Ze (w.heap.size) 0)=some (Zg k):=(i.cell (p:=⟨w.heap.size,0,none⟩) d).trans U;have V:z.cell? (Ze (w.heap.size) 1)=some (.string b):=(i.cell (p:=⟨w.heap.size,1,none⟩) d).trans V;have x2:z.cell? (Ze (w.heap.size) 2)=some (.string name):=(i.cell (p:=⟨w.heap.size,2,none⟩) d).trans x2
 have X:z.cell? (Ze (w.heap.size) 4)=some (.string t):=(i.cell (p:=⟨w.heap.size,4,none⟩) d).trans X;have Y:z.cell? (Ze (w.heap.size) 5)=some (.slice A c.length q):=(i.cell (p:=⟨w.heap.size,5,none⟩) d).trans Y;have g:=PZ D d
 go_region_law (first
  |(refine Hk _ rfl (.tmp 35) (.tmp 37) 133 9 rfl f.heap.size 5 i0 underlying133 underlying9 hi R S v _ 6 (Lib.byteCells (BZ k n name.size)) rfl (by exact D) name rfl (by unfold maxLen;omega) (by omega) (by exact zC) ?_;intro v3 w3 E l;have y1:=l.cell (a:=⟨w.heap.size,1,none⟩) (by exact V) g)
  |(refine Hk _ rfl (.tmp 38) (.tmp 40) 133 9 rfl f.heap.size 5 i0 underlying133 underlying9 hi R S v _ (6+name.size) (Lib.byteCells (BZ k n name.size)++Lib.strCells name) rfl E b rfl (by unfold maxLen;omega) (by omega) (by have:=l.size;simp at this;omega) ?_;intro v4 w4 s r))
 all_goals
  have m:=PZ E d;have zS:=l.size;have yD:=r.size;simp at zS;have z0:=r.cell (a:=⟨w.heap.size,0,none⟩) (l.cell (a:=⟨w.heap.size,0,none⟩) (by exact U) g) m;have z4:=r.cell (a:=⟨w.heap.size,4,none⟩) (l.cell (a:=⟨w.heap.size,4,none⟩) (by exact X) g) m;have z5:=r.cell (a:=⟨w.heap.size,5,none⟩) (l.cell (a:=⟨w.heap.size,5,none⟩) (by exact Y) g) m
  have Z:Below f.heap.size f w4:=((i.drew).grown l (by exact zC) (fun k B=>(D.lt k B).1)).grown r (by omega) (fun k B=>(E.lt k B).1);obtain⟨g4,c4,zN,zY,zZ⟩:=s.form (by omega);subst zN;have x:Lib.byteCells (BZ k n name.size)++Lib.strCells name++Lib.strCells b=Lib.byteCells (BZ k n name.size++name.data.toList++b.data.toList):=by rw[Lib.strCells_eq,Lib.strCells_eq,←Lib.byteCells_append,←Lib.byteCells_append]
  rw[x]at s;have M:=L.trans (Z.mono L.size);have J:=I.below (Z.mono (by omega));clear x l r E U V x2 X Y y1 D i g m;by_cases hk1:k=1
  ·subst hk1;have H:=(DZ zF.o).dh rfl;have Q:=BA H;have zX:=Q.az;have yC:=Q.text;have yB:=Q.refs;go_wp2_with fail;refine(LP t A q c T w4 (J.mono (by omega)) H).mono ?_;rintro e w5 ⟨rfl,o⟩;have O:=s.kept (row:=none) ⟨o.os,o.tape,o.output,o.size,fun k B _=>o.block k B⟩ (.inr (by simp[Value.ownBlock]));have yE:=o.size;have zI:(BB t c).length<=3000:=by have:=Dl c;simp[BB,this];omega
   have zB:(ByteArray.mk (BB t c).toArray).size=(BB t c).length:=by simp[ByteArray.size]
   have K:=Yx zB;clear zB;obtain⟨F,hF⟩:∃F,F=ByteArray.mk (BB t c).toArray:=⟨_,rfl⟩;rw[←hF]at K ⊢;have zW:F.size<=3000:=by rw[K.o];exact zI
   have HF:=Yx hF;clear hF;go_wp2_with (at_builtin;refine Lib.wpList_append_own_string _ rfl _ _ 133 9 rfl f.heap.size 5 i0 underlying133 underlying9 hi R S v _ _ _ rfl O F rfl ?c3 ?c4 ?c5 ?_)
   case c3=>unfold maxLen;omega
   case c4=>omega
   case c5=>omega
   intro v6 w6 y zJ _;obtain⟨g6,c6,zO,zT,zU⟩:=y.form (by omega);subst zO;have zG:=(o.mono M.size).grown zJ (by omega) (fun k B=>by have:=(O.lt k B).1;omega);have x:Lib.byteCells (BZ 1 n name.size++(name.data.toList++b.data.toList))++Lib.strCells F=Lib.byteCells (CR 1 b name n t c):=by rw[Lib.strCells_eq,←Lib.byteCells_append,HF.o];unfold CR;rw[if_pos rfl];simp[List.append_assoc]
   rw[x]at y;have hlen:6+name.size+b.size+F.size=(CR 1 b name n t c).length:=by rw[K.o];simp[CR,BZ];omega
   rw[hlen]at y ⊢;have zH:=run_convert_bytes_back (P:=prog) w6 133 9 5 ⟨g6,0,none⟩ c6 (CR 1 b name n t c) underlying133 underlying5 underlying9 (fun j hj=>y.cells rfl j _ (by simp[Lib.byteCells,hj]));clear y O x;go_wp2;go_ret;exact⟨rfl,M.trans zG⟩
  ·have yA:((k:Int)==1)=false:=beq_eq_false_iff_ne.2 (by omega);have hlen:6+name.size+b.size=(CR k b name n t c).length:=by unfold CR;rw[if_neg hk1];simp[BZ];omega
   have zA:BZ k n name.size++name.data.toList++b.data.toList=CR k b name n t c:=by unfold CR;rw[if_neg hk1,List.append_nil]
   rw[zA,hlen]at s;rw[hlen];have zH:=run_convert_bytes_back (P:=prog) w4 133 9 5 ⟨g4,0,none⟩ c4 (CR k b name n t c) underlying133 underlying5 underlying9 (fun j hj=>s.cells rfl j _ (by simp[Lib.byteCells,hj]));clear s zA;go_wp2;go_ret;exact⟨rfl,M⟩
def Cg(k:Int)(sum name:Zi)(n:Int)(t:Zi)(ss:Zl)(wd:Int):Bool:=decide (1<=k/\k<=7)&&CG k.toNat sum name n t ss wd
theorem UJ(k:Int)(a name:Zi)(n:Int)(t:Zi)(f:Zk)(d:Nat)(b:Zl)(c:Int)(w:Zh)
 (g:Ad w w.heap.size f b) (h:b.length<=1048576) (j:t.size<=maxLen) (i:name.size<=maxLen):
 Calls prog 35 #[.agg (Ep k a name n t f b.length d),Zg c] w fun e l=>e=.returned (.bool (Cg k a name n t b c))/\Zz w l:=by
 unfold Cg;by_cases hk:1<=k/\k<=7
 ·obtain⟨m,rfl⟩:∃m:Nat,k=m:=⟨k.toNat,by omega⟩;rw[decide_eq_true hk,Bool.true_and,Int.toNat_natCast];by_cases hw:1<=c/\c<=8
  ·exact PY m a name n t f d b c w (by omega) (by omega) hw.1 hw.2 g h j i
  ·exact SI m a name n t f d b c w hw
 ·rw[decide_eq_false hk,Bool.false_and];exact UI k a name n t f d b c w hk
theorem UK(k:Int)(b name:Zi)(n:Int)(t:Zi)(d:Zk)(c:Nat)(a:Zl)(f:Int)(w:Zh)(h:Jk w)
 (g:Ad w w.heap.size d a) (i:a.length<=1048576) (l:t.size<=maxLen) (j:name.size<=maxLen):
 Calls prog 100 #[.agg (Ep k b name n t d a.length c),Zg f] w fun e o=>e=.returned (.bool (Cg k b name n t a f))/\Zz w o:=by
 unfold Cg;by_cases hk:1<=k/\k<=7
 ·obtain⟨m,rfl⟩:∃m:Nat,k=m:=⟨k.toNat,by omega⟩;rw[decide_eq_true hk,Bool.true_and,Int.toNat_natCast];exact KZ m b name n t d c a f w h (by omega) (by omega) g i l j
 ·rw[decide_eq_false hk,Bool.false_and];exact Pj k b name n t d c a f w hk
def Cv(k:Int)(sum name:Zi)(n:Int)(t:Zi)(ss:Zl)(wd:Int):Zi:=if Cg k sum name n t ss wd=true then ⟨(CR k.toNat sum name n t ss).toArray⟩else ByteArray.empty
theorem FK:prog.cellsOf 9=1:=by kernel_rfl
theorem own:ownKnob prog.godebug=none:=by kernel_rfl
theorem laidOut:laidOutB prog=true:=by kernel_rfl
theorem Gf{H:Type}{p:TypeId×Value->H}{W:Zh}{base:Nat}{spare:Nat->Bool}{held:Bool}{m:Nat}{v:Value}{y:DataW H×List MemPlace}
 (h:DataW.trod p prog W base spare held m 22 [v]=some y):
 ∃a k c,v=.slice a (List.length c) k/\Ad W W.heap.size a c/\c.length<=maxLen/\∀s∈c,ByteArray.size s<=maxLen:=by
 rcases open_strings underlying22 underlying9 FK h with⟨e,_⟩|⟨a,len,k,c,e,_,w,x,u,_,d,q⟩
 ·simp at e;subst e;exact⟨none,0,[],rfl,.inl rfl,by simp[maxLen],fun s f=>by cases f⟩
 ·simp at e;subst e;have hlen:len<=c.length:=by rw[u];split<;>omega
  have n:(c.take len).length=len:=by simp;omega
  refine⟨some a,k,c.take len,by rw[n],?_,by rw[n];omega,fun s f=>q s (List.mem_of_mem_take f)⟩;by_cases h0:len=0
  ·exact .inl (by simp[h0])
  ·obtain⟨b,l,spot⟩:=a;have g:spot=none:=by simpa [Addr.add]using World.cell?_spot (d 0 (by omega))
   subst g;have o:∀j,j<c.length->W.cell? ⟨b,l+j,none⟩=some (.string (c.getD j ByteArray.empty)):=fun j t=>by rw[←Go.WideShapes.add_plain];exact d j t
   refine .inr ⟨b,l,rfl,?_,fun i s f=> ?_⟩
   ·exact World.block_lt_of_cell? W ⟨b,l+0,none⟩ (o 0 (by omega))
   ·have r:i<len:=by have:=(Zw f).1;omega
    rw[List.getElem?_take_of_lt r]at f;rw[o i (by omega)];simp[List.getD,f]
theorem GU{H:Type}{c:TypeId×Value->H}{W:Zh}{base:Nat}{spare:Nat->Bool}{held:Bool}{a:Nat}{v:Value}{y:DataW H×List MemPlace}
 (h:DataW.trod c prog W base spare held a 9 [v]=some y):∃s,v=.string s/\s.size<=maxLen:=by
 obtain⟨s,b,_,d⟩:=DataW.trod_string underlying9 h;simp at b;exact⟨s,b,d⟩
theorem Aab:prog.cellsOf 3=1:=by kernel_rfl
theorem VI:prog.globalNamed "loop.example/kilnvault/impl.kindParts" =some 0:=by kernel_rfl
theorem SM:(prog.globals[0]?).map (·.type)=some 234:=by kernel_rfl
theorem SN:prog.cellsOf 194=4:=by kernel_rfl
theorem QY:prog.cellsOf 4=1:=by kernel_rfl
theorem VJ{α:Type}{l:List α}(h:l.length=4):∃a b c d,l=[a,b,c,d]:=by
 match l,h with
 |[a,b,c,d],_=>exact⟨a,b,c,d,rfl⟩
theorem Pk{H:Type}{d:TypeId×Value->H}{W:Zh}{base:Nat}{spare:Nat->Bool}{held:Bool}{g:Nat}{l:Zj}{p:List MemPlace}{a b c:Bool}{m:Int}
 (h:DataW.trod d prog W base spare held g 194 l=some (.agg [.lit (.bool a),.lit (.bool b),.lit (.bool c),.lit (.int .i64 m)],p)):l=[.bool a,.bool b,.bool c,.int .i64 m]:=by
 obtain⟨G,f,_,q,o,hlen,e⟩:=DataW.trod_struct underlying194 h;rw[SN]at o;obtain⟨v0,v,w,x,rfl⟩:=VJ o;obtain⟨y,z,A,B,rfl⟩:=VJ hlen;have r:DataW.trod d prog W base spare held f 4 [v0]=some y:=by simpa [QY]using e 0 _ rfl
 have s:DataW.trod d prog W base spare held f 4 [v]=some z:=by simpa [QY]using e 1 _ rfl
 have t:DataW.trod d prog W base spare held f 4 [w]=some A:=by simpa [QY]using e 2 _ rfl
 have u:DataW.trod d prog W base spare held f 3 [x]=some B:=by simpa [Aab]using e 3 _ rfl
 obtain⟨C,i,rfl⟩:=DataW.trod_bool underlying4 r;obtain⟨D,j,rfl⟩:=DataW.trod_bool underlying4 s;obtain⟨E,k,rfl⟩:=DataW.trod_bool underlying4 t;obtain⟨F,n,rfl,_⟩:=DataW.trod_int underlying3 u;simp at i j k n q;obtain⟨⟨rfl,rfl,rfl,rfl⟩,_⟩:=q;rw[i,j,k,n]
theorem NY{W:Zh}{f:Array Value}{b:Nat}{p:List MemPlace}(c:W.var? prog "loop.example/kilnvault/impl.kindParts" =some f)
 (q:DataW.trod (fun _=>()) prog W 0 (fun _=>true) false b 234 f.toList=some (Rows.laid_loop_example_kilnvault_impl_kindParts,p)):Jk W:=by
 obtain⟨i,v,_,s,u,hlen,g⟩:=DataW.trod_array underlying234 q;rw[SN]at g;have m:i.map (·.1)=_:=(DataW.agg.inj (Prod.mk.inj s).1).symm;intro k n o;have e:(i.map (·.1))[k]?=some (.agg [.lit (.bool (Db k)),.lit (.bool (DA k)),.lit (.bool (CC k)),.lit (.int .i64 (Cu k))]):=by
  rw[m]
  match k,n,o with
  |1,_,_=>rfl
  |2,_,_=>rfl
  |3,_,_=>rfl
  |4,_,_=>rfl
  |5,_,_=>rfl
  |6,_,_=>rfl
  |7,_,_=>rfl
 rw[List.getElem?_map]at e;obtain⟨⟨w,x⟩,t,d⟩:=Option.map_eq_some_iff.1 e;simp only at d;subst d;have h:=g k (by omega);rw[t]at h;have l:=Pk h;have a:∀j,j<4->W.cell? ⟨0,k *4+j,none⟩=([.bool (Db k),.bool (DA k),.bool (CC k),.int .i64 (Cu k)]:Zj)[j]?:=by intro j r;rw[World.var?_cell VI c,←l,List.getElem?_take_of_lt r,List.getElem?_drop];simp
 exact⟨a 0 (by omega),a 1 (by omega),a 2 (by omega),a 3 (by omega)⟩
section
open Go.RowKit Go.Extern.Stop Go.Stop Go.Extern
def Hl(w:Zh):Prop:=w.cell? (Ze 5 0)=some (.iface 284 (.agg #[.pointer (some ⟨9,208,none⟩)]))
theorem Hl.below{w a:Zh}(h:Hl w)(b:Zz w a):Hl a:=by unfold Hl at h ⊢;exact(b.cell (p:=⟨5,0,none⟩) (World.block_lt_of_cell? w _ h)).trans h
theorem XM(t:Value)(w:Zh):
 Calls prog 158 #[.nilIface,t] w fun e a=>e=.returned (.bool false)/\a=w:=by
 go_enter func158,ntmps158;go_wp2;go_ret;exact⟨rfl,rfl⟩
abbrev rt(t:Nat):Value:=.agg #[.pointer (some ⟨9,t,none⟩)]
abbrev rv(t:Nat)(a:Addr)(f:Int):Value:=.agg #[.pointer (some ⟨9,t,none⟩),.pointer (some a),.int .u64 f]
theorem UL(t:Addr)(w:Zh):(ReflectliteValue.unpack (.iface 223 (.pointer (some t)))).run prog w
 =.ok (rv 223 ⟨w.heap.size,0,none⟩ 150) (w.alloc (.cells #[.pointer (some t)] 223)):=by kernel_rfl
theorem UM(e:Addr)(w:Zh):(ReflectliteValue.unpack (.iface 221 (.pointer (some e)))).run prog w
 =.ok (rv 221 ⟨w.heap.size,0,none⟩ 150) (w.alloc (.cells #[.pointer (some e)] 221)):=by kernel_rfl
theorem XN(a:Addr)(w:Zh):(ReflectliteValue.methodAny (ReflectliteValue.valueError "reflectlite.Value.Type" 0) (fun t _ _ _=>ReflectliteType.toType t) #[rv 223 a 150]).run prog w
 =.ok (.iface 284 (rt 223)) w:=by kernel_rfl
theorem Wz(h:Value)(w:Zh):(Go.method 454 284 (.agg #[h]) "Kind").run prog w=.ok (269,h) w:=by kernel_rfl
theorem WA(h:Value)(w:Zh):(Go.method 454 284 (.agg #[h]) "Elem").run prog w=.ok (283,.agg #[h]) w:=by kernel_rfl
theorem WB(h:Value)(w:Zh):(Go.method 454 284 (.agg #[h]) "Implements").run prog w=.ok (284,.agg #[h]) w:=by kernel_rfl
theorem XO(h:Value)(w:Zh):(Go.method 454 284 (.agg #[h]) "AssignableTo").run prog w=.ok (281,.agg #[h]) w:=by kernel_rfl
theorem WC(w:Zh):((ReflectliteType.abiMethod fun t=>(fun a:Nat=>Value.int IntKind.u8 (a:Int))<$>Rtype.kind t) #[Yy 9 223]).run prog w=.ok (.int .u8 22) w:=by kernel_rfl
theorem WD(w:Zh):((ReflectliteType.abiMethod fun t=>(fun a:Nat=>Value.int IntKind.u8 (a:Int))<$>Rtype.kind t) #[Yy 9 221]).run prog w=.ok (.int .u8 22) w:=by kernel_rfl
theorem XP(w:Zh):(ReflectliteType.method ReflectliteType.elem #[rt 223]).run prog w=.ok (.iface 284 (rt 221)) w:=by kernel_rfl
theorem XQ(w:Zh):(ReflectliteType.relation "Implements" ReflectliteType.implements_ #[rt 221,.iface 284 (rt 208)]).run prog w=.ok (.bool true) w:=by kernel_rfl
theorem UN(v:Value)(w:Zh):(ReflectliteType.typeOf #[.iface 221 v]).run prog w=.ok (.iface 284 (rt 221)) w:=by kernel_rfl
theorem ZE(w:Zh):(ReflectliteType.relation "AssignableTo" ReflectliteType.assignableTo #[rt 221,.iface 284 (rt 221)]).run prog w=.ok (.bool true) w:=by kernel_rfl
theorem UO(w:Zh):(Rtype.elem? 223).run prog w=.ok (some 221) w:=by kernel_rfl
theorem Aac(p:Addr)(w:Zh):(ReflectliteValue.mk 221 p ReflectliteValue.flagAddr).run prog w=.ok (rv 221 p 406) w:=by kernel_rfl
theorem NZ(a:Addr)(w:Zh):(ReflectliteValue.parts (rv 223 a 150)).run prog w=.ok (some (223,a,150)) w:=by kernel_rfl
theorem UP(a:Addr)(w:Zh):(ReflectliteValue.parts (rv 221 a 406)).run prog w=.ok (some (221,a,406)) w:=by kernel_rfl
theorem UQ(a:Addr)(w:Zh):(ReflectliteValue.parts (rv 221 a 150)).run prog w=.ok (some (221,a,150)) w:=by kernel_rfl
theorem UR(w:Zh):(Rtype.directlyAssignable 221 221).run prog w=.ok true w:=by kernel_rfl
theorem SO(z:Sem Value)(f:TypeId->Addr->Nat->Nat->Sem Value)(v:Value):
 ReflectliteValue.method z f #[v]=(do match ←ReflectliteValue.parts v with|none=>z|some (t,a,fl)=>f t a fl (fl%32)):=rfl
theorem WE(a p:Addr)(W:Zh)(b:W.cell? a=some (.pointer (some p))):
 (ReflectliteValue.method (ReflectliteValue.valueError "reflectlite.Value.IsNil" 0) ReflectliteValue.isNil #[rv 223 a 150]).run prog W=.ok (.bool false) W:=by
 rw[SO];simp only[Sem.run_bind,NZ,Result.andThen];simp[ReflectliteValue.isNil,loadVar,isAgg,underlying,underlying223,b,Result.andThen]
theorem WG(a p:Addr)(W:Zh)(b:W.cell? a=some (.pointer (some p))):
 (ReflectliteValue.method (ReflectliteValue.valueError "reflectlite.Value.Elem" 0) ReflectliteValue.elem #[rv 223 a 150]).run prog W=.ok (rv 221 p 406) W:=by
 rw[SO];simp only[Sem.run_bind,NZ,Result.andThen];simp[ReflectliteValue.elem,loadVar,isAgg,underlying,underlying223,b,Result.andThen,UO,Aac]
theorem XR(v x:Value):ReflectliteValue.set #[v,x]=(do
 let (some (dst,a,fl),some (src,b,_)):=(←ReflectliteValue.parts v,←ReflectliteValue.parts x)
  |unsupported (.noEntry "extern/(internal/reflectlite.Value).Set.zeroValue")
 if fl/ReflectliteValue.flagAddr%2==0 then unsupported (.noEntry "extern/(internal/reflectlite.Value).Set.unaddressable")
 let val ←loadVar src b
 if ←Rtype.directlyAssignable dst src then storeVar dst a val
 else if ←Rtype.implements dst src then
  if (←Rtype.kind src)==20 then
   match val with
   |.nilIface=>unsupported (.noEntry "extern/reflectlite: a nil value of one interface type handed on as a value of another")
   |_=>storeVar dst a val
  else storeVar dst a (.iface src val)
 else panicString ("reflectlite.Set: value of type " ++(←Rtype.spelt src)++ " is not assignable to type " ++(←Rtype.spelt dst))
 pure (.tuple #[])):=rfl
theorem ZF(a b e:Addr)(c:Value)(W:Zh)(d:W.cell? b=some (.pointer (some e)))(g:W.cell? a=some c)(f:W.frozen? a=false):
 (ReflectliteValue.set #[rv 221 a 406,rv 221 b 150]).run prog W=.ok (.tuple #[]) (W.setCell a (.pointer (some e))):=by
 rw[XR];simp only[Sem.run_bind,UP,UQ,Result.andThen];simp[ReflectliteValue.flagAddr,loadVar,isAgg,underlying,underlying221,d,Result.andThen,UR,storeVar,Value.cells,storeCells,Addr.add];rw[run_store prog W a _ _ (by rfl)];simp[g,f]
theorem XS(e:Addr)(a:Nat)(g:Value)(w:Zh)(j:Hl w)(f:w.cell? (Ze a 0)=some g)(l:w.frozen? ⟨a,0,none⟩=false):
 Calls prog 158 #[.iface 221 (.pointer (some e)),.iface 223 (Yz a)] w fun n o=>n=.returned (.bool true)/\Below a w o:=by
 have z:= @run_callFunc_extern prog 188 _ (fun args=>ReflectliteValue.unpack (args.getD 0 (.tuple #[]))) func188 (by kernel_rfl) (by kernel_rfl) (by kernel_rfl) (by kernel_rfl)
 have A:= @run_callFunc_extern prog 189 _ (ReflectliteValue.methodAny (ReflectliteValue.valueError "reflectlite.Value.Type" 0) (fun t _ _ _=>ReflectliteType.toType t)) func189 (by kernel_rfl) (by kernel_rfl) (by kernel_rfl) (by kernel_rfl)
 have B:= @run_callFunc_extern prog 190 _ (ReflectliteValue.method (ReflectliteValue.valueError "reflectlite.Value.IsNil" 0) ReflectliteValue.isNil) func190 (by kernel_rfl) (by kernel_rfl) (by kernel_rfl) (by kernel_rfl)
 have C:= @run_callFunc_extern prog 269 _ (ReflectliteType.abiMethod fun t=>do pure (.int .u8 (←Rtype.kind t))) func269 (by kernel_rfl) (by kernel_rfl) (by kernel_rfl) (by kernel_rfl);have D:= @run_callFunc_extern prog 283 _ (ReflectliteType.method ReflectliteType.elem) func283 (by kernel_rfl) (by kernel_rfl) (by kernel_rfl) (by kernel_rfl)
 have E:= @run_callFunc_extern prog 284 _ (ReflectliteType.relation "Implements" ReflectliteType.implements_) func284 (by kernel_rfl) (by kernel_rfl) (by kernel_rfl) (by kernel_rfl);have F:= @run_callFunc_extern prog 218 _ ReflectliteType.typeOf func218 (by kernel_rfl) (by kernel_rfl) (by kernel_rfl) (by kernel_rfl)
 have G:= @run_callFunc_extern prog 281 _ (ReflectliteType.relation "AssignableTo" ReflectliteType.assignableTo) func281 (by kernel_rfl) (by kernel_rfl) (by kernel_rfl) (by kernel_rfl)
 have H:= @run_callFunc_extern prog 219 _ (ReflectliteValue.method (ReflectliteValue.valueError "reflectlite.Value.Elem" 0) ReflectliteValue.elem) func219 (by kernel_rfl) (by kernel_rfl) (by kernel_rfl) (by kernel_rfl);have q:= @run_callFunc_extern prog 220 _ ReflectliteValue.set func220 (by kernel_rfl) (by kernel_rfl) (by kernel_rfl) (by kernel_rfl);have J:=UN;have K:=XO;have L:=ZE;have M:=UM
 have N:=UL;have O:=XN;have P:=Wz;have Q:=WA;have R:=WB;have s:=WC;have u:=WD;have v:=XP;have x:=XQ;have m:5<w.heap.size:=World.block_lt_of_cell? w _ j;have b:a<w.heap.size:=World.block_lt_of_cell? w ⟨a,0,none⟩ f;have h:Below w.heap.size w (w.alloc (.cells #[Yz a] 223)):=Zy;have c:=h.alloc h.size (.cells #[Yy 9 223,Yz w.heap.size,.int .u64 150] 251)
 have i:=c.alloc c.size (.cells #[Yy 9 223,Yz w.heap.size,.int .u64 150] 251);have d:=i.alloc i.size (.cells #[.pointer (some e)] 221);have I:=WE ⟨w.heap.size,0,none⟩ ⟨a,0,none⟩ ((w.alloc (.cells #[Yz a] 223)).alloc (.cells #[Yy 9 223,Yz w.heap.size,.int .u64 150] 251)) (by simp)
 have r:((w.alloc (.cells #[Yz a] 223)).alloc (.cells #[Yy 9 223,Yz w.heap.size,.int .u64 150] 251)).cell? (Ze 5 0)=some (.iface 284 (.agg #[Yy 9 208])):=(c.cell (p:=⟨5,0,none⟩) m).trans j
 have y:=WG ⟨w.heap.size,0,none⟩ ⟨a,0,none⟩ (((w.alloc (.cells #[Yz a] 223)).alloc (.cells #[Yy 9 223,Yz w.heap.size,.int .u64 150] 251)).alloc (.cells #[Yy 9 223,Yz w.heap.size,.int .u64 150] 251)) (by rw[World.cell?_alloc_lt _ _ ⟨w.heap.size,0,none⟩ (by simp;omega)];simp)
 have S:=ZF ⟨a,0,none⟩ ⟨w.heap.size+1+1+1,0,none⟩ e g ((((w.alloc (.cells #[Yz a] 223)).alloc (.cells #[Yy 9 223,Yz w.heap.size,.int .u64 150] 251)).alloc (.cells #[Yy 9 223,Yz w.heap.size,.int .u64 150] 251)).alloc (.cells #[.pointer (some e)] 221))
  (by rw[World.cell?_alloc_at _ _ _ _ (by simp)];rfl)
  ((d.cell (p:=⟨a,0,none⟩) b).trans f)
  ((d.frozen (p:=⟨a,0,none⟩) b).trans l)
 have fin:=(d.mono (Nat.le_of_lt b)).setCell (show a<=(⟨a,0,none⟩:Addr).block from Nat.le_refl a) (.pointer (some e));clear h c i d;have k:=Yx fin;clear fin;go_enter func158,ntmps158;go_wp2;refine wp_loop_rounds 1 ?_;rw[rounds_succ];go_wp2;go_ret;exact⟨rfl,k.o⟩
end
theorem BY(b:UInt8):wrap64 (b.toNat:Int)=(b.toNat:Int):=by have h:=b.toNat_lt;simp[wrap64];omega
theorem Eh(x:Int)(h: -9223372036854775808<=x)(a:x<9223372036854775808):IntKind.i64.wrap x=x:=by rw[IntKind.wrap_i64];omega
theorem SP{n k:Nat}{a:Int}(b:1<=a)(c:k<n):0<=(k:Int) *a/\(k:Int) *a<=(n:Int) *a/\((k:Int)+1) *a=(k:Int) *a+a/\(k:Int) *a+a<=(n:Int) *a:=by refine⟨Int.mul_nonneg (by omega) (by omega),Int.mul_le_mul_of_nonneg_right (by omega) (by omega),by rw[Int.add_mul,Int.one_mul],?_⟩;have:((k:Int)+1) *a<=(n:Int) *a:=Int.mul_le_mul_of_nonneg_right (by omega) (by omega);rw[Int.add_mul,Int.one_mul]at this;exact this
theorem JF{n:Nat}{a:Int}(e:n<256)(b:1<=a)(c:a<=8):0<=(n:Int) *a/\(n:Int) *a<=2040:=by refine⟨Int.mul_nonneg (by omega) (by omega),?_⟩;have d:(n:Int) *a<=255 *a:=Int.mul_le_mul_of_nonneg_right (by omega) (by omega);omega
def Dn(s:Zi)(wd:Int)(n:Nat):Zi:=(s.extract 1 s.size).extract ((n:Int) *wd).toNat (s.size -1)
def Jm(s:Zi)(wd:Int)(i:Nat):Zi:=(s.extract 1 s.size).extract ((i:Int) *wd).toNat ((i:Int) *wd+wd).toNat
def BE(s:Zi)(wd:Int)(k:Nat):Zl:=(List.range k).map (Jm s wd)
theorem Cj(s:Zi)(a:Int)(k:Nat):(BE s a k).length=k:=by simp[BE]
theorem QZ(s:Zi)(a:Int)(k:Nat):(BE s a k).map Value.string++[Value.string (Jm s a k)]=(BE s a (k+1)).map Value.string:=by simp[BE,List.range_succ]
theorem Hm{wr b:Zh}{o:Obj}{row:Option Nat}{p:Addr}{x:Value}(e:(wr.alloc o).drew.grownBy b row)(a:wr.cell? p=some x)(d:some p.block≠row):b.cell? p=some x:=by refine e.cell ?_ d;have c:=World.block_lt_of_cell? wr p a;exact(World.cell?_alloc_lt wr o p c).trans a
theorem JP{wr a:Zh}{o:Obj}{row:Option Nat}{p:Addr}(e:(wr.alloc o).drew.grownBy a row)(b:p.block<wr.heap.size)(c:some p.block≠row):a.frozen? p=wr.frozen? p:=by have d:=World.frozen?_of_block (e.block p.block (by simp;omega) c);rw[d];exact World.frozen?_alloc_old wr o p (Nat.ne_of_lt b)
theorem SQ{w:Zh}{base:Nat}{e:TypeId}{v:Value}{n:Nat}{c:Zj}(h:w.ownsRow base e 1 v n c){b:Nat}(d:b<base):some b≠v.ownBlock:=by intro a;have:=(h.lt b a.symm).1;omega
theorem DF{w:Zh}{base:Nat}{v:Value}{ss:Zl}(h:w.ownsRow base 9 1 v ss.length (ss.map Value.string)):∃a b,v=.slice a ss.length b/\Ad w w.heap.size a ss:=by
 rcases h.2 with⟨c,d⟩|⟨g,b,e,c,_⟩
 ·exact⟨none,0,by rw[c,d],.inl (List.eq_nil_of_length_eq_zero d)⟩
 ·subst c;exact⟨_,_,rfl,Ad.own h⟩
theorem Mn{s:Zi}{e:Int}{w wr b:Zh}{o:Obj}{v:Value}{k g a:Nat}{bt:Zi}{W:Zh}
 (n:w.heap.size+1<wr.heap.size) (h:wr.ownsRow (w.heap.size+2) 9 1 v k ((BE s e k).map Value.string)) (f:Below (w.heap.size+1) W wr)
 (d:b.ownsRow (w.heap.size+2) 9 1 (Za g (k+1) a) (k+1) ((BE s e k).map Value.string++[.string (Jm s e k)]))
 (c:(wr.alloc o).drew.grownBy b v.ownBlock) (i:b.cell? (Ze (w.heap.size+1) 0)=some (.string bt)) (j:b.cell? (Ze (w.heap.size+1) 1)=some v) (l:b.frozen? ⟨w.heap.size+1,1,none⟩=false):
 (b.setCell (Ze (w.heap.size+1) 1) (Za g (k+1) a)).cell? (Ze (w.heap.size+1) 0)=some (.string bt)/\
 (b.setCell (Ze (w.heap.size+1) 1) (Za g (k+1) a)).cell? (Ze (w.heap.size+1) 1)=some (Za g (k+1) a)/\
 (b.setCell (Ze (w.heap.size+1) 1) (Za g (k+1) a)).frozen? ⟨w.heap.size+1,1,none⟩=false/\
 (b.setCell (Ze (w.heap.size+1) 1) (Za g (k+1) a)).ownsRow (w.heap.size+2) 9 1 (Za g (k+1) a) (k+1) ((BE s e (k+1)).map Value.string)/\
 Below (w.heap.size+1) W (b.setCell (Ze (w.heap.size+1) 1) (Za g (k+1) a)):=by
 refine⟨?_,?_,?_,?_,?_⟩
 ·rw[←i];exact World.cell?_setCell_other _ _ _ _ (by simp)
 ·exact World.cell?_setCell_same' _ _ _ (by rw[j];rfl)
 ·rw[World.frozen?_setCell];exact l
 ·rw[←QZ];exact ownsRow_setCell_below d (by simp) _
 ·exact(((f.alloc (by omega) o).drew).grown c (by simp;omega) (fun k m=>by have:=(h.lt k m).1;omega)).setCell (by simp) _
theorem Oa{s:Zi}(h:0<s.size):s.toList.isEmpty=false:=by
 have:s.toList.length=s.size:=by rw[ByteArray.toList_eq];simp
 cases hl:s.toList with
 |nil=>rw[hl]at this;simp at this;omega
 |cons x r=>rfl
theorem SR(s:Zi)(c:Int)(n:Nat)(w:Zh)(hs:s.size<=1048576)(H:1<=c)(h2:c<=8)(h0:0<s.size)(A:s[0].toNat=n)(T:(n:Int) *c<=s.size -1):
 Calls prog 217 #[.string s,Zg c] w fun e K=>
  (AJ (Dn s c n) (BE s c n) c=true->∃v,e=.returned (.tuple #[.agg #[.string (Dn s c n),v],.bool true])/\K.ownsRow w.heap.size 9 1 v n ((BE s c n).map Value.string))/\
  (AJ (Dn s c n) (BE s c n) c=false->e=.returned (.tuple #[.agg #[Zd,Zc],.bool false]))/\Zz w K:=by
 obtain⟨i0,hi,P,Q,S⟩:=info_parts CK;have y:s.toList.isEmpty=false:=Oa h0;have V:(0:Int)<s.size:=by omega
 have hn:n<256:=by rw[←A];exact s[0].toNat_lt
 have zA:=JF hn H h2;have HN:=Yx A;clear A;go_enter func217,ntmps217;go_wp2;go_quiet (fail);simp only[BY];rw[HN.o];go_wp2_with fail;obtain⟨bt,q⟩:∃bt,bt=Dn s c n:=⟨_,rfl⟩;rw[show(s.extract 1 s.size).extract ((n:Int) *c).toNat (s.size -1)=bt from q.symm];have t:=Yx q;clear q
 go_loopw [37] (fun i wr=>∃(k:Nat) (v:Value),k<=n/\i=Zg k/\wr.cell? (Ze (w.heap.size+1) 0)=some (.string bt)/\wr.cell? (Ze (w.heap.size+1) 1)=some v/\wr.frozen? ⟨w.heap.size+1,1,none⟩=false/\
  wr.ownsRow (w.heap.size+2) 9 1 v k ((BE s c k).map Value.string)/\Below (w.heap.size+1) (w.alloc (Obj.cells #[Value.string ⟨#[]⟩,Value.slice none 0 0] 58)) wr) (fun i _=>n -(intOf i).toNat)
 case atStart=>exact⟨0,Zc,Nat.zero_le _,rfl,by simp[go_sem],by simp[go_sem],by simp[go_sem],World.ownsRow_nil _ _ _ _,(BV (Below.refl _ _) _).alloc (by simp) _⟩
 case round=>
  obtain⟨k,v,hk,rfl,x,C,E,l,d⟩:=hrel;have N:=d.size;simp at N;by_cases hlt:k<n
  ·obtain⟨m1,m2,m3,m4⟩:=SP H hlt;have Z:(s.extract 1 s.size).size=s.size -1:=by simp
   have U:(k:Int)<n:=by omega
   have e1:=Eh ((k:Int) *c) (by omega) (by omega);have e2:=Eh ((k:Int)+1) (by omega) (by omega);have e3:=Eh ((k:Int) *c+c) (by omega) (by omega);have b2:(k:Int) *c<=(k:Int) *c+c:=by omega
   have b3:(k:Int) *c+c<=((s.size -1:Nat):Int):=by omega
   go_wp2;have y:=SQ l (b:=w.heap.size+1) (by omega);have r:w.heap.size+1<wr.heap.size:=World.block_lt_of_cell? wr _ x
   go_region_law (refine step_append_lies _ rfl (.tmp 41) (.tmp 51) 22 rfl (w.heap.size+2) 9 i0 Zd 1 16 underlying22 hi P Q S rfl (by decide) v k ((BE s c k).map Value.string) rfl (World.ownsRow.alloc l _) ⟨wr.heap.size,0,none⟩ 1 1 [.string (Jm s c k)] rfl rfl (cell_one_new wr (.string (Jm s c k)) 9) (by simp[Value.oneCell']) (by decide) (by unfold maxLen;omega) (by omega) (by simp;omega) (wr.heap.size+1) (by simp) ?_;intro g u w1 o f zB W;have D:=Hm f x y;have L:=Hm f C y;have M:=(JP (p:=⟨w.heap.size+1,1,none⟩) f (by simp;omega) y).trans E)
   all_goals
    have R:=Mn r l d o f D L M;have z:=Yx R;clear R l d o f D x C E;go_wp2;refine⟨⟨_,_,_,_,_,_,_,_,_,_,_,_,_,_,_,_,_,_,_,⟨k+1,_,by omega,?_,z.o.1,z.o.2.1,z.o.2.2.1,z.o.2.2.2.1,z.o.2.2.2.2⟩,rfl⟩,?_⟩
    ·go_num
    ·simp[intOf];omega
  ·obtain rfl:k=n:=by omega
   have r:w.heap.size+1<wr.heap.size:=World.block_lt_of_cell? wr _ x;obtain⟨a,u,J,B⟩:=DF (ss:=BE s c k) (by rw[Cj];exact l);rw[Cj]at J;subst J;have F:(wr.cell? (Ze (w.heap.size) 0))=some Zd:=by rw[d.cell (p:=⟨w.heap.size,0,none⟩) (by simp)];simp
   have G:(wr.cell? (Ze (w.heap.size) 1))=some Zc:=by rw[d.cell (p:=⟨w.heap.size,1,none⟩) (by simp)];simp
   have X:wr.frozen? ⟨w.heap.size,0,none⟩=false:=by rw[d.frozen (p:=⟨w.heap.size,0,none⟩) (by simp)];simp
   have Y:wr.frozen? ⟨w.heap.size,1,none⟩=false:=by rw[d.frozen (p:=⟨w.heap.size,1,none⟩) (by simp)];simp
   have O:bt.size<=maxLen:=by rw[t.o];simp[Dn,maxLen];omega
   have j:=Ec bt a u (BE s c k) c wr B (by rw[Cj];omega) O;rw[Cj]at j;have m:w.heap.size<wr.heap.size:=by omega
   go_wp2_with fail;refine j.mono ?_;rintro e w2 ⟨rfl,rfl⟩;have I:Below w.heap.size w wr:=(Zy).trans (d.mono (by omega));cases hok:AJ bt (BE s c k) c with
   |true=>
    clear j;go_wp2;refine bodyPost_ret (v:=.tuple #[.agg #[.string bt,.slice a k u],.bool true]) (by simp[results,results217,go_sem,m,F,G]) rfl ⟨fun _=>⟨.slice a k u,?_,?_⟩,fun h=> ?_,?_⟩
    ·rw[t.o]
    ·exact((ownsRow_setCell_below (ownsRow_setCell_below l (by simp) _) (by simp) _).alloc _).mono (by omega)
    ·rw[←t.o,hok]at h;cases h
    ·exact((I.setCell (by simp) _).setCell (by simp) _).alloc (by simp;omega) _
   |false=>
    clear j;go_wp2;refine bodyPost_ret (v:=.tuple #[.agg #[Zd,Zc],.bool false]) (by simp[results,results217,go_sem,m,F,G]) rfl ⟨fun h=> ?_,fun _=>rfl,?_⟩
    ·rw[←t.o,hok]at h;cases h
    ·exact((I.setCell (by simp) _).setCell (by simp) _).alloc (by simp;omega) _
def FL(w:Zh)(e:Ending)(w':Zh):Prop:=e=.returned (.tuple #[.agg #[Zd,Zc],.bool false])/\Zz w w'
theorem SV(s:Zi)(a:Int)(w:Zh)(h:¬(1<=a/\a<=8)):
 Calls prog 217 #[.string s,Zg a] w (FL w):=by
 by_cases h1:1<=a
 ·have b:decide (a<=8)=false:=by simp;omega
  go_enter func217,ntmps217;go_wp2;exact bodyPost_ret (v:=.tuple #[.agg #[Zd,Zc],.bool false]) (by simp[results,results217,go_sem]) rfl ⟨rfl,Zy⟩
 ·go_enter func217,ntmps217;go_wp2;exact bodyPost_ret (v:=.tuple #[.agg #[Zd,Zc],.bool false]) (by simp[results,results217,go_sem]) rfl ⟨rfl,Zy⟩
theorem isEmpty{s:Zi}(h:s.size=0):s.toList.isEmpty=true:=by
 have:s.toList.length=s.size:=by rw[ByteArray.toList_eq];simp
 rw[List.isEmpty_iff,←List.length_eq_zero_iff];omega
theorem SW(s:Zi)(a:Int)(w:Zh)(d:1<=a)(e:a<=8)(b:s.size=0):
 Calls prog 217 #[.string s,Zg a] w (FL w):=by
 have c:=isEmpty b;go_enter func217,ntmps217;go_wp2;exact bodyPost_ret (v:=.tuple #[.agg #[Zd,Zc],.bool false]) (by simp[results,results217,go_sem]) rfl ⟨rfl,Zy⟩
theorem SX(s:Zi)(b:Int)(n:Nat)(w:Zh)(k:s.size<=1048576)(g:1<=b)(h:b<=8)(f:0<s.size)(a:s[0].toNat=n)(c:(s.size:Int) -1<(n:Int) *b):
 Calls prog 217 #[.string s,Zg b] w (FL w):=by
 have j:=Oa f;have d:(0:Int)<s.size:=by omega
 have i:n<256:=by rw[←a];exact s[0].toNat_lt
 have e:=JF i g h;have HN:=Yx a;clear a;go_enter func217,ntmps217;go_wp2;go_quiet (fail);simp only[BY];rw[HN.o];go_wp2;refine bodyPost_ret (v:=.tuple #[.agg #[Zd,Zc],.bool false]) (by simp[results,results217,go_sem]) rfl ⟨rfl,?_⟩;exact(((BV (Zy) _).setCell (by simp) _).setCell (by simp) _)
end Go.Proofs.YtlhhpofjkgmbeaaGreatDoor
