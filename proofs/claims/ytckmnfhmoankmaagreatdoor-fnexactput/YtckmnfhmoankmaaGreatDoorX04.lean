import Derived.Test.YtckmnfhmoankmaaGreatDoorX01
import Derived.Maps.AppendAt
import Derived.Lib.SmallJoins
import Derived.Deep.RegionLaw
import Derived.Laws.OwnMore
import Derived.LaidEql
import Derived.Stop.Asserts
import Derived.RowKitTokens
import Derived.RangeFuncNested
import Derived.Shelf.Abstract
import Derived.Shelf.RegionOpen
import Derived.RangeFuncBound
import Derived.RangeFuncCalls
import Derived.RangeFuncLeaves
import Derived.OwnWalkIn
import Derived.TacticsInMore
import Derived.LoopNIn
import Derived.LoopIn
import Derived.Lib.OwnKind
import Derived.Laws.Tables
set_option maxRecDepth 100000
set_option maxHeartbeats 16000000
namespace Go.Proofs.YtckmnfhmoankmaaGreatDoor
open Go.ChangeShapes Go.WideShapes Go.ChangeAt Go.RowKit _root_.Go.Proofs.Tryz
theorem Cx{P:Program}(w:Zh){D:Array Oper}{o:Oper}{a:Act}{K:Act->Zh->Prop}{Q:Exit->Act->Zh->Prop}{E:Prop}(N:o.guard=none)(I x:Operand)(t:TypeId)
 (X:o.op=.call {callee:=.builtin .append,args:= #[I,x],argTypes:= #[t,t]})
 (base:Nat) (e:TypeId) (i:TypeInfo) (z:Value) (bytes:Nat) (Z:P.underlying t=some (.slice e)) (V:P.info? e=some i) (hz:i.zero=some z)
 (v:i.size=1) (M:i.bytes=bytes) (O:z.cells.size=1)
 (q n H:Nat) (J:Zl) (A:a.eval I=Za q n H) (C:w.ownsRow base e 1 (Za q n H) n (J.map Value.string))
 (F:Addr) (m c:Nat) (B:Zl) (hx:a.eval x=.slice (some F) m c) (W:B.length=m) (r:∀j s,B[j]?=some s->w.cell? (F.add j)=some (.string s))
 (L:n+m<=maxLen) (d:(n+m) *bytes<=140737488355328) (l:base<=w.heap.size)
 (h:∀g b k,k.ownsRow base e 1 (Za g (n+m) b) (n+m) ((J++B).map Value.string)->w.grownBy k (some q)->(g=q∨g=w.heap.size)->g<k.heap.size->K (a.put o.dst (Za g (n+m) b)) k):
 if Region.wanted o (yielded D a.tmps)=true then Oper.wp P o a w K Q else E:=by
 have hw:Region.wanted o (yielded D a.tmps)=true:=by simp[Region.wanted,N]
 rw[if_pos hw];obtain⟨v',k,Y,G,S,T,y⟩:=run_append_own_at (P:=P) w base t o.type e i z 1 bytes Z V hz v M O (by decide) _ n _ C F m c (B.map Value.string) (by simp[W])
  (fun j u f=>by
    rw[List.getElem?_map]at f;cases A:B[j]? with
    |none=>rw[A]at f;cases f
    |some s=>rw[A]at f;cases f;exact r j s A)
  (fun u f=>by obtain⟨s,_,rfl⟩:=List.mem_map.1 f;rfl) L d l
 have p:∃g b,v'=Za g (n+m) b:=by
  rcases Joins.ownsRow_forms G with⟨R,_⟩|U
  ·have:=(T.1 R).1;cases this
  ·exact U
 obtain⟨g,b,rfl⟩:=p;unfold Oper.wp execOp;simp only[X,resolve,invoke,builtin,Sem.run_bind,Sem.run_pure,Result.andThen_ok,List.map_toArray,List.map_cons,List.map_nil,A,hx,Y];refine h g b k (by rw[List.map_append];exact G) S ?_ (G.lt g rfl).2;rcases y with y|y
 ·left;simpa [Value.ownBlock]using y
 ·right;simpa [Value.ownBlock]using y
theorem Fk{P:Program}(w:Zh){D:Array Oper}{o:Oper}{a:Act}{K:Act->Zh->Prop}{Q:Exit->Act->Zh->Prop}{E:Prop}(C:o.guard=none)(F x:Operand)(t:TypeId)
 (J:o.op=.call {callee:=.builtin .append,args:= #[F,x],argTypes:= #[t,t]})
 (base:Nat) (e:TypeId) (i:TypeInfo) (z:Value) (bytes:Nat) (M:P.underlying t=some (.slice e)) (H:P.info? e=some i) (W:i.zero=some z)
 (l:i.size=1) (R:i.bytes=bytes) (T:z.cells.size=1)
 (q n r:Nat) (G:Zl) (L:a.eval F=Za q n r) (b:w.ownsRow base e 1 (Za q n r) n (G.map Value.string))
 (p:Zk) (m c:Nat) (u:Zl) (N:a.eval x=.slice p m c) (I:u.length=m) (y:p=none->m=0/\c=0) (k:∀A,p=some A->∀j s,u[j]?=some s->w.cell? (A.add j)=some (.string s))
 (O:n+m<=maxLen) (d:(n+m) *bytes<=140737488355328) (f:base<=w.heap.size)
 (h:∀g B v,v.ownsRow base e 1 (Za g (n+m) B) (n+m) ((G++u).map Value.string)->w.grownBy v (some q)->(g=q∨g=w.heap.size)->g<v.heap.size->K (a.put o.dst (Za g (n+m) B)) v):
 if Region.wanted o (yielded D a.tmps)=true then Oper.wp P o a w K Q else E:=by
 cases p with
 |some A=>exact Cx w C F x t J base e i z bytes M H W l R T q n r G L b A m c u N I (k A rfl) O d f h
 |none=>
  obtain⟨rfl,rfl⟩:=y rfl;have S:=List.eq_nil_of_length_eq_zero I;subst S;have V:Region.wanted o (yielded D a.tmps)=true:=by simp[Region.wanted,C]
  rw[if_pos V];have U:=run_append_owned_none (P:=P) w base t o.type e i 1 M H _ n _ b;unfold Oper.wp execOp;simp only[J,resolve,invoke,builtin,Sem.run_bind,Sem.run_pure,Result.andThen_ok,List.map_toArray,List.map_cons,List.map_nil,L,N,U];exact h q r w (by simpa using b) ⟨rfl,rfl,rfl,Zx,fun _ _ _=>rfl⟩ (.inl rfl) (b.lt q rfl).2
theorem Ad.fe{w:Zh}{B:Nat}{a:Zk}{d:Zl}(h:Ad w B a d):∀A,a=some A->∀j s,d[j]?=some s->w.cell? (A.add j)=some (.string s):=by
 rintro A rfl j s c;rcases h with h|⟨b,g,e,_,f⟩
 ·subst h;simp at c
 ·cases e;have:=f j s c;rw[Go.WideShapes.add_plain];exact this
def DG(k:Nat):Bool:=k==2||k==4||k==7
def Dq(k:Nat):Bool:=k==2||k==3
def CO(k:Nat):Bool:=k==1
def CE(k:Nat):Int:=if k=1∨k=4∨k=6 then 100000 else if k=5 then 1000000000 else 0
def DX(u:Bool)(s:Zi)(wd:Int):Bool:=if u then decide ((s.size:Int)=wd)else decide (s.size=0)
def EY(u:Bool)(s:Zi):Bool:=if u then Dl s else decide (s.size=0)
def DZ(m n:Int):Bool:=if m=0 then decide (n=0)else decide (1<=n/\n<=m)
def Ig(u:Bool)(t:Zi)(ss:Zl)(wd:Int):Bool:=if u then AK t ss wd else decide (t.size=0/\ss.length=0)
theorem Fz{s:Zi}:s.toList.isEmpty=decide (s.size=0):=by
 have:s.toList.length=s.size:=by rw[ByteArray.toList_eq];simp
 rw[←this];cases s.toList<;>simp
theorem Pa(s:Zi)(a b c:Bool)(m f:Int)(w:Zh):
 Calls prog 142 #[.string s,.agg #[.bool a,.bool b,.bool c,Zg m],Zg f] w fun e h=>e=.returned (.bool (DX b s f))/\Zz w h:=by
 cases b with
 |true=>go_enter func142,ntmps142;go_wp2;go_ret;exact⟨Av rfl,Zy⟩
 |false=>have d:=Fz (s:=s);have g:=Yx d;clear d;go_enter func142,ntmps142;go_wp2;go_ret;exact⟨Av g.o,Zy⟩
theorem NT(s:Zi)(a b c:Bool)(m:Int)(w:Zh)(f:s.size<=maxLen):
 Calls prog 143 #[.string s,.agg #[.bool a,.bool b,.bool c,Zg m]] w fun e g=>e=.returned (.bool (EY a s))/\Zz w g:=by
 cases a with
 |true=>go_enter func143,ntmps143;go_wp2_with fail;refine(RT s _ f).mono ?_;rintro e h ⟨rfl,rfl⟩;go_wp2;go_ret;exact⟨Av rfl,Zy⟩
 |false=>have d:=Yx (Fz (s:=s));go_enter func143,ntmps143;go_wp2;go_ret;exact⟨Av d.o,Zy⟩
theorem Pb(n:Int)(a b c:Bool)(m:Int)(w:Zh):
 Calls prog 144 #[Zg n,.agg #[.bool a,.bool b,.bool c,Zg m]] w fun e f=>e=.returned (.bool (DZ m n))/\Zz w f:=by
 by_cases hm:m=0
 ·subst hm;go_enter func144,ntmps144;go_wp2;go_ret;exact⟨Av (by unfold DZ;rw[if_pos rfl];rfl),Zy⟩
 ·have h:(m==0)=false:=by simpa using hm
  have d:=Yx hm;clear hm;by_cases h1:1<=n
  ·go_enter func144,ntmps144;go_wp2;go_ret;exact⟨Av (by unfold DZ;rw[if_neg d.o];simp[h1]),Zy⟩
  ·have g:decide (1<=n)=false:=by simpa using h1
   go_enter func144,ntmps144;go_wp2;go_ret;exact⟨Av (by unfold DZ;rw[if_neg d.o,decide_eq_false (by omega)]),Zy⟩
theorem MQ(t:Zi)(i:Zk)(g:Nat)(d:Zl)(a b c:Bool)(m l:Int)(w:Zh)(j:Ad w w.heap.size i d)(p:d.length<=1048576)(q:t.size<=maxLen):
 Calls prog 145 #[.agg #[.string t,.slice i d.length g],.agg #[.bool a,.bool b,.bool c,Zg m],Zg l] w fun e r=>e=.returned (.bool (Ig c t d l))/\Zz w r:=by
 have f:Below w.heap.size w ((w.alloc (.cells #[.string t,.slice i d.length g] 51)).alloc (.cells #[.bool a,.bool b,.bool c,Zg m] 195)):=(Zy).alloc (by simp) _;cases c with
 |true=>go_enter func145,ntmps145;go_wp2_with fail;refine(Ep t i g d l _ (j.af f) p q).mono ?_;rintro e s ⟨rfl,rfl⟩;go_wp2;go_ret;exact⟨Av rfl,f.alloc (by simp;omega) _⟩
 |false=>
  by_cases h1:t.size=0
  ·have o:t.toList.isEmpty=true:=by rw[Fz];simpa using h1
   have k:=Yx h1;clear h1;go_enter func145,ntmps145;go_wp2;go_ret;refine⟨Av ?_,f⟩;unfold Ig;rw[if_neg (by decide)];have n:=k.o;by_cases hs0:d.length=0
   ·rw[decide_eq_true ⟨n,hs0⟩];simp[hs0]
   ·rw[decide_eq_false (fun h=>hs0 h.2)];simp;intro h;exact hs0 (by rw[h];rfl)
  ·have o:t.toList.isEmpty=false:=by rw[Fz];simpa using h1
   have k:=Yx h1;clear h1;go_enter func145,ntmps145;go_wp2;go_ret;refine⟨Av ?_,f⟩;unfold Ig;rw[if_neg (by decide),decide_eq_false (fun h=>k.o h.1)]
def Jh(w:Zh):Prop:=∀k,1<=k->k<=7->w.cell? (Ze 0 (k *4))=some (.bool (Dq k))/\w.cell? (Ze 0 (k *4+1))=some (.bool (DG k))/\w.cell? (Ze 0 (k *4+2))=some (.bool (CO k))/\w.cell? (Ze 0 (k *4+3))=some (Zg (CE k))
theorem Jh.below{w g:Zh}(h:Jh w)(f:Zz w g):Jh g:=by intro k i j;obtain⟨a,b,c,d⟩:=h k i j;have e:=World.block_lt_of_cell? w _ a;exact⟨(f.cell (p:=⟨0,k *4,none⟩) e).trans a,(f.cell (p:=⟨0,k *4+1,none⟩) e).trans b,(f.cell (p:=⟨0,k *4+2,none⟩) e).trans c,(f.cell (p:=⟨0,k *4+3,none⟩) e).trans d⟩
theorem JT(k:Nat)(w:Zh)(d:Jh w)(b:1<=k)(c:k<=7):
 Calls prog 141 #[Zg k] w fun e f=>e=.returned (.tuple #[.agg #[.bool (Dq k),.bool (DG k),.bool (CO k),Zg (CE k)],.bool true])/\Zz w f:=by
 obtain⟨a,h,c2,c3⟩:=d k b c;have g:=World.block_lt_of_cell? w _ a;have i:decide ((k:Int)<1)=false:=by simp;omega
 have j:decide ((7:Int)<k)=false:=by simp;omega
 have l:(k:Int)<8:=by omega
 go_enter func141,ntmps141;go_wp2;exact bodyPost_ret (v:=.tuple #[.agg #[.bool (Dq k),.bool (DG k),.bool (CO k),Zg (CE k)],.bool true]) (by simp[results,results141,go_sem]) rfl ⟨rfl,Zy⟩
theorem KN(k:Int)(w:Zh)(h:¬(1<=k/\k<=7)):
 Calls prog 141 #[Zg k] w fun e b=>e=.returned (.tuple #[.agg #[.bool false,.bool false,.bool false,Zf],.bool false])/\Zz w b:=by
 by_cases h1:k<1
 ·have a:decide (k<1)=true:=by simpa using h1
  go_enter func141,ntmps141;go_wp2;exact bodyPost_ret (v:=.tuple #[.agg #[.bool false,.bool false,.bool false,Zf],.bool false]) (by simp[results,results141,go_sem]) rfl ⟨rfl,Zy⟩
 ·have a:decide (k<1)=false:=by simpa using h1
  have c:decide (7<k)=true:=by simp;omega
  go_enter func141,ntmps141;go_wp2;exact bodyPost_ret (v:=.tuple #[.agg #[.bool false,.bool false,.bool false,Zf],.bool false]) (by simp[results,results141,go_sem]) rfl ⟨rfl,Zy⟩
def CS(k:Nat)(sum name:Zi)(n:Int)(t:Zi)(ss:Zl)(wd:Int):Bool:=
 decide (1<=wd/\wd<=8)&&(DX (DG k) sum wd&&(EY (Dq k) name&&(DZ (CE k) n&&Ig (CO k) t ss wd)))
abbrev Ex(k:Int)(sum name:Zi)(n:Int)(t:Zi)(ad:Zk)(len cap:Nat):Array Value:= #[Zg k,.string sum,.string name,Zg n,.string t,.slice ad len cap]
theorem Pc(k:Int)(c name:Zi)(n:Int)(t:Zi)(d:Zk)(b:Nat)(g:Zl)(i:Int)(w:Zh)(f:¬(1<=k/\k<=7)):
 Calls prog 105 #[.agg (Ex k c name n t d g.length b),Zg i] w fun e h=>e=.returned (.bool false)/\Zz w h:=by
 go_enter func105,ntmps105;go_wp2_with fail;refine(KN k _ f).mono ?_;rintro e j ⟨rfl,a⟩;go_wp2;go_ret;exact⟨rfl,((Zy).trans (a.mono (by simp))).alloc (by have:=a.size;simp at this;omega) _⟩
structure EB (W:Zh) (B P:Nat) (sum name:Zi) (n:Int) (t:Zi) (v:Value) (a b c:Bool) (m:Int):Prop where
 x1:W.cell? (Ze B 1)=some (.string sum)
 x2:W.cell? (Ze B 2)=some (.string name)
 x3:W.cell? (Ze B 3)=some (Zg n)
 x4:W.cell? (Ze B 4)=some (.string t)
 x5:W.cell? (Ze B 5)=some v
 y0:W.cell? (Ze P 0)=some (.bool a)
 y1:W.cell? (Ze P 1)=some (.bool b)
 y2:W.cell? (Ze P 2)=some (.bool c)
 y3:W.cell? (Ze P 3)=some (Zg m)
theorem EB.below{W i:Zh}{B P:Nat}{g name:Zi}{n:Int}{t:Zi}{v:Value}{a b c:Bool}{m:Int}(h:EB W B P g name n t v a b c m)(d:Zz W i):EB i B P g name n t v a b c m:=by
 have e:=World.block_lt_of_cell? W _ h.x1;have f:=World.block_lt_of_cell? W _ h.y0;exact⟨(d.cell (p:=⟨B,1,none⟩) e).trans h.x1,(d.cell (p:=⟨B,2,none⟩) e).trans h.x2,(d.cell (p:=⟨B,3,none⟩) e).trans h.x3,(d.cell (p:=⟨B,4,none⟩) e).trans h.x4,(d.cell (p:=⟨B,5,none⟩) e).trans h.x5,
  (d.cell (p:=⟨P,0,none⟩) f).trans h.y0,(d.cell (p:=⟨P,1,none⟩) f).trans h.y1,(d.cell (p:=⟨P,2,none⟩) f).trans h.y2,(d.cell (p:=⟨P,3,none⟩) f).trans h.y3⟩
theorem KO(k:Nat)(d name:Zi)(n:Int)(t:Zi)(u:Zk)(q:Nat)(h:Zl)(b:Int)(w:Zh)(hT:Jh w)(Z:1<=k)(h7:k<=7)
 (J:Ad w w.heap.size u h) (hl:h.length<=1048576) (ht:t.size<=maxLen) (hn:name.size<=maxLen):
 Calls prog 105 #[.agg (Ex k d name n t u h.length q),Zg b] w fun e w'=>e=.returned (.bool (CS k d name n t h b))/\Zz w w':=by
 have L:Below w.heap.size w (w.alloc (.cells (Ex k d name n t u h.length q) 67)):=Zy;go_enter func105,ntmps105;go_wp2_with fail;refine(JT k _ (hT.below L) Z h7).mono ?_;rintro e f ⟨rfl,c⟩;have T:=c.size;simp at T;have a:w.heap.size<f.heap.size:=by omega
 have K:=L.trans (c.mono (by simp));obtain⟨R,S⟩:=JC c;have i:f.cell? (Ze (w.heap.size) 1)=some (.string d):=by rw[c.cell (p:=⟨w.heap.size,1,none⟩) (by simp)];simp
 have j:f.cell? (Ze (w.heap.size) 2)=some (.string name):=by rw[c.cell (p:=⟨w.heap.size,2,none⟩) (by simp)];simp
 have l:f.cell? (Ze (w.heap.size) 3)=some (Zg n):=by rw[c.cell (p:=⟨w.heap.size,3,none⟩) (by simp)];simp
 have m:f.cell? (Ze (w.heap.size) 4)=some (.string t):=by rw[c.cell (p:=⟨w.heap.size,4,none⟩) (by simp)];simp
 have o:f.cell? (Ze (w.heap.size) 5)=some (.slice u h.length q):=by rw[c.cell (p:=⟨w.heap.size,5,none⟩) (by simp)];simp
 clear R S;obtain⟨O,y⟩:∃W,W=f.alloc (.cells #[.bool (Dq k),.bool (DG k),.bool (CO k),Zg (CE k)] 195):=⟨_,rfl⟩;have g:Below f.heap.size f O:=by rw[y];exact Zy
 have P:EB O w.heap.size f.heap.size d name n t (.slice u h.length q) (Dq k) (DG k) (CO k) (CE k):=by refine⟨(g.cell (p:=⟨w.heap.size,1,none⟩) a).trans i,(g.cell (p:=⟨w.heap.size,2,none⟩) a).trans j,(g.cell (p:=⟨w.heap.size,3,none⟩) a).trans l,(g.cell (p:=⟨w.heap.size,4,none⟩) a).trans m,(g.cell (p:=⟨w.heap.size,5,none⟩) a).trans o,?_,?_,?_,?_⟩<;>(rw[y];simp)
 have v:=K.trans (g.mono K.size);have D:=Yx y;clear y;by_cases hw:1<=b/\b<=8
 ·obtain⟨M,N⟩:=hw;have r:decide (1<=b/\b<=8)=true:=by simp[M,N]
  have s:=Yx r;clear r;go_wp2_with (go_at_call 94;go_in);rw[←D.o];refine(Pa d (Dq k) (DG k) (CO k) (CE k) b O).mono ?_;rintro e w3 ⟨rfl,G⟩;have U:=P.below G;have E:=v.trans (G.mono v.size);clear P G;cases hs:DX (DG k) d b with
  |false=>go_wp2;go_ret;exact⟨Av (by unfold CS;rw[hs];simp),E⟩
  |true=>
   have Y:=Yx hs;clear hs;obtain⟨i,j,l,m,o,z,A,B,C⟩:=U;go_wp2_with fail;refine(NT name (Dq k) (DG k) (CO k) (CE k) _ hn).mono ?_;rintro e w4 ⟨rfl,H⟩;have V:=(EB.mk i j l m o z A B C).below H;have F:=E.trans (H.mono E.size);clear i j l m o z A B C H;cases hnm:EY (Dq k) name with
   |false=>go_wp2;go_ret;exact⟨Av (by unfold CS;rw[hnm];simp),F⟩
   |true=>
    have HN:=Yx hnm;clear hnm;obtain⟨i,j,l,m,o,z,A,B,C⟩:=V;go_wp2_with fail;refine(Pb n (Dq k) (DG k) (CO k) (CE k) _).mono ?_;rintro e w5 ⟨rfl,I⟩;have X:=(EB.mk i j l m o z A B C).below I;have x:=F.trans (I.mono F.size);clear i j l m o z A B C I;cases hnu:DZ (CE k) n with
    |false=>go_wp2;go_ret;exact⟨Av (by unfold CS;rw[hnu];simp),x⟩
    |true=>have HU:=Yx hnu;clear hnu;obtain⟨i,j,l,m,o,z,A,B,C⟩:=X;go_wp2_with fail;refine(MQ t u q h (Dq k) (DG k) (CO k) (CE k) b _ (J.af x) hl ht).mono ?_;rintro e w6 ⟨rfl,Q⟩;go_wp2;go_ret;exact⟨Av (by unfold CS;rw[s.o,Y.o,HN.o,HU.o];rfl),x.trans (Q.mono x.size)⟩
 ·have r:decide (1<=b/\b<=8)=false:=by simpa using hw
  have s:=Yx r;clear r;by_cases M:1<=b
  ·have N:decide (b<=8)=false:=by simp;omega
   go_wp2;go_ret;refine⟨Av (by unfold CS;rw[s.o];rfl),?_⟩;rw[←D.o];exact v
  ·go_wp2;go_ret;refine⟨Av (by unfold CS;rw[s.o];rfl),?_⟩;rw[←D.o];exact v
def Ji(k:Nat):Int:=if k=1∨k=4∨k=6 then 1 else if k=5 then 2 else 0
theorem Ui(k:Nat)(w:Zh)(a:1<=k)(b:k<=7):
 Calls prog 77 #[Zg k] w fun e c=>e=.returned (.tuple #[.bool (DG k),.bool (Dq k),Zg (Ji k),.bool (CO k)])/\c=w:=by
 match k,a,b with
 |1,_,_|2,_,_|3,_,_|4,_,_|5,_,_|6,_,_|7,_,_=>
  go_enter func77,ntmps77;go_wp2;refine bodyPost_ret ?_ rfl ⟨rfl,rfl⟩;simp[results,results77,go_sem,DG,Dq,Ji,CO]
theorem Uj(k:Nat)(n:Int)(w:Zh):
 Calls prog 78 #[Zg n,Zg (Ji k)] w fun e f=>e=.returned (.bool (DZ (CE k) n))/\f=w:=by
 have d:(Ji k=1/\CE k=100000)∨(Ji k=2/\CE k=1000000000)∨(Ji k=0/\CE k=0):=by
  unfold Ji CE;split
  ·exact .inl ⟨rfl,rfl⟩
  ·split
   ·exact .inr (.inl ⟨rfl,rfl⟩)
   ·exact .inr (.inr ⟨rfl,rfl⟩)
 rcases d with⟨a,b⟩|⟨a,b⟩|⟨a,b⟩<;>rw[a,b]
 ·by_cases hn:1<=n
  ·go_enter func78,ntmps78;go_wp2;go_ret;exact⟨Av (by unfold DZ;rw[if_neg (by decide)];simp[hn]),rfl⟩
  ·have c:decide (1<=n)=false:=by simpa using hn
   go_enter func78,ntmps78;go_wp2;go_ret;exact⟨Av (by unfold DZ;rw[if_neg (by decide),decide_eq_false (by omega)]),rfl⟩
 ·by_cases hn:1<=n
  ·go_enter func78,ntmps78;go_wp2;go_ret;exact⟨Av (by unfold DZ;rw[if_neg (by decide)];simp[hn]),rfl⟩
  ·have c:decide (1<=n)=false:=by simpa using hn
   go_enter func78,ntmps78;go_wp2;go_ret;exact⟨Av (by unfold DZ;rw[if_neg (by decide),decide_eq_false (by omega)]),rfl⟩
 ·go_enter func78,ntmps78;go_wp2;go_ret;exact⟨Av (by unfold DZ;rw[if_pos rfl];rfl),rfl⟩
theorem Uk(k:Int)(f name:Zi)(n:Int)(t:Zi)(g:Zk)(b:Nat)(i:Zl)(a:Int)(w:Zh)(m:¬(1<=k/\k<=7)):
 Calls prog 43 #[.agg (Ex k f name n t g i.length b),Zg a] w fun e j=>e=.returned (.bool false)/\Zz w j:=by
 by_cases hw:1<=a/\a<=8
 ·obtain⟨c,d⟩:=hw;by_cases h1:k<1
  ·have h:decide (k<1)=true:=by simpa using h1
   go_enter func43,ntmps43;go_wp2;go_ret;exact⟨rfl,Zy⟩
  ·have h:decide (k<1)=false:=by simpa using h1
   have l:decide (7<k)=true:=by simp;omega
   go_enter func43,ntmps43;go_wp2;go_ret;exact⟨rfl,Zy⟩
 ·by_cases c:1<=a
  ·have d:decide (a<=8)=false:=by simp;omega
   go_enter func43,ntmps43;go_wp2;go_ret;exact⟨rfl,Zy⟩
  ·go_enter func43,ntmps43;go_wp2;go_ret;exact⟨rfl,Zy⟩
theorem Sf(k:Nat)(c name:Zi)(n:Int)(t:Zi)(g:Zk)(f:Nat)(d:Zl)(a:Int)(w:Zh)(h:¬(1<=a/\a<=8)):
 Calls prog 43 #[.agg (Ex k c name n t g d.length f),Zg a] w fun e i=>e=.returned (.bool (CS k c name n t d a))/\Zz w i:=by
 have b:Hid (decide (1<=a/\a<=8)=false):=by show _=_;simpa using h
 by_cases hw1:1<=a
 ·have j:decide (a<=8)=false:=by simp;omega
  go_enter func43,ntmps43;go_wp2;go_ret;exact⟨Av (by unfold CS;rw[b.o];rfl),Zy⟩
 ·go_enter func43,ntmps43;go_wp2;go_ret;exact⟨Av (by unfold CS;rw[b.o];rfl),Zy⟩
theorem Iz{t:Zi}{a:Zl}{c:Int}(b:t.size=0):((a.length:Int)==0)=(true&&(true&&(true&&Ig false t a c))):=by
 unfold Ig;rw[if_neg (by decide)];by_cases hs0:a.length=0
 ·rw[decide_eq_true ⟨b,hs0⟩];simp[hs0]
 ·rw[decide_eq_false (fun h=>hs0 h.2)];simp;intro h;exact hs0 (by rw[h];rfl)
theorem IA{t:Zi}{b:Zl}{c:Int}(a:¬t.size=0):false=(true&&(true&&(true&&Ig false t b c))):=by unfold Ig;rw[if_neg (by decide),decide_eq_false (fun h=>a h.1)];rfl
theorem PW(k:Nat)(c name:Zi)(n:Int)(t:Zi)(o:Zk)(l:Nat)(j:Zl)(f:Int)(w:Zh)(D:1<=k)(E:k<=7)(B:1<=f)(C:f<=8)
 (h:Ad w w.heap.size o j) (r:j.length<=1048576) (s:t.size<=maxLen) (y:name.size<=maxLen):
 Calls prog 43 #[.agg (Ex k c name n t o j.length l),Zg f] w fun e F=>e=.returned (.bool (CS k c name n t j f))/\Zz w F:=by
 have a:Below w.heap.size w (w.alloc (.cells (Ex k c name n t o j.length l) 67)):=Zy;have A:Hid (decide (1<=f/\f<=8)=true):=by show _=_;simp[B,C]
 have I:decide ((k:Int)<1)=false:=by simp;omega
 have J:decide ((7:Int)<k)=false:=by simp;omega
 have HU:=Ui k;have v:=Uj k n;unfold CS;rw[A.o,Bool.true_and];generalize Ji k=kn at *
 generalize DZ (CE k) n=nu at *
 generalize hks:DG k=us at *
 generalize hkn:Dq k=un at *
 generalize hkt:CO k=ut at *
 have z:=Yx HU;have u:=Yx v;clear HU v hks hkn hkt;go_enter func43,ntmps43;go_wp2_with (go_at_call 68;go_in);refine(z.o _ D E).mono ?_;rintro e K ⟨rfl,rfl⟩;cases us with
 |true=>
  by_cases hs:(c.size:Int)=f
  ·have q:((c.size:Int) !=f)=false:=by simpa using hs
   have d:Hid (DX true c f=true):=by show _=_;simpa [DX]using hs
   clear hs;go_wp2_with fail;refine(u.o _).mono ?_;rintro e G ⟨rfl,rfl⟩;cases nu with
   |false=>go_wp2;go_ret;exact⟨Av (by simp),a⟩
   |true=>
    cases un with
    |true=>
     go_wp2_with fail;refine(Mk name _ y).mono ?_;rintro e H ⟨rfl,rfl⟩;cases hno:Dl name with
     |false=>go_wp2;go_ret;exact⟨Av (by simp[EY,hno]),a⟩
     |true=>
      have b:Hid (EY true name=true):=hno;clear hno;cases ut with
      |true=>go_wp2_with fail;refine(Dj t o l j f _ (h.af a) r s).mono ?_;rintro e x ⟨rfl,i⟩;go_wp2;go_ret;exact⟨Av (by rw[d.o,b.o];rfl),a.trans (i.mono (by simp))⟩
      |false=>
       by_cases h0:t.size=0
       ·have p:t.toList.isEmpty=true:=by rw[Fz];simpa using h0
        have g:=Yx h0;clear h0;go_wp2;go_ret;exact⟨Av (by rw[d.o,b.o];exact Iz g.o),a⟩
       ·have p:t.toList.isEmpty=false:=by rw[Fz];simpa using h0
        have g:=Yx h0;clear h0;go_wp2;go_ret;exact⟨Av (by rw[d.o,b.o];exact IA g.o),a⟩
    |false=>
     by_cases hno:name.size=0
     ·have m:name.toList.isEmpty=true:=by rw[Fz];simpa using hno
      have b:Hid (EY false name=true):=by show _=_;simpa [EY]using hno
      clear hno;cases ut with
      |true=>go_wp2_with fail;refine(Dj t o l j f _ (h.af a) r s).mono ?_;rintro e x ⟨rfl,i⟩;go_wp2;go_ret;exact⟨Av (by rw[d.o,b.o];rfl),a.trans (i.mono (by simp))⟩
      |false=>
       by_cases h0:t.size=0
       ·have p:t.toList.isEmpty=true:=by rw[Fz];simpa using h0
        have g:=Yx h0;clear h0;go_wp2;go_ret;exact⟨Av (by rw[d.o,b.o];exact Iz g.o),a⟩
       ·have p:t.toList.isEmpty=false:=by rw[Fz];simpa using h0
        have g:=Yx h0;clear h0;go_wp2;go_ret;exact⟨Av (by rw[d.o,b.o];exact IA g.o),a⟩
     ·have m:name.toList.isEmpty=false:=by rw[Fz];simpa using hno
      have b:Hid (EY false name=false):=by show _=_;simpa [EY]using hno
      clear hno;go_wp2;go_ret;exact⟨Av (by rw[b.o];simp),a⟩
  ·have q:((c.size:Int) !=f)=true:=by simpa using hs
   have d:Hid (DX true c f=false):=by show _=_;simpa [DX]using hs
   clear hs;go_wp2;go_ret;exact⟨Av (by rw[d.o];rfl),a⟩
 |false=>
  by_cases hs:c.size=0
  ·have q:c.toList.isEmpty=true:=by rw[Fz];simpa using hs
   have d:Hid (DX false c f=true):=by show _=_;simpa [DX]using hs
   clear hs;go_wp2_with fail;refine(u.o _).mono ?_;rintro e G ⟨rfl,rfl⟩;cases nu with
   |false=>go_wp2;go_ret;exact⟨Av (by simp),a⟩
   |true=>
    cases un with
    |true=>
     go_wp2_with fail;refine(Mk name _ y).mono ?_;rintro e H ⟨rfl,rfl⟩;cases hno:Dl name with
     |false=>go_wp2;go_ret;exact⟨Av (by simp[EY,hno]),a⟩
     |true=>
      have b:Hid (EY true name=true):=hno;clear hno;cases ut with
      |true=>go_wp2_with fail;refine(Dj t o l j f _ (h.af a) r s).mono ?_;rintro e x ⟨rfl,i⟩;go_wp2;go_ret;exact⟨Av (by rw[d.o,b.o];rfl),a.trans (i.mono (by simp))⟩
      |false=>
       by_cases h0:t.size=0
       ·have p:t.toList.isEmpty=true:=by rw[Fz];simpa using h0
        have g:=Yx h0;clear h0;go_wp2;go_ret;exact⟨Av (by rw[d.o,b.o];exact Iz g.o),a⟩
       ·have p:t.toList.isEmpty=false:=by rw[Fz];simpa using h0
        have g:=Yx h0;clear h0;go_wp2;go_ret;exact⟨Av (by rw[d.o,b.o];exact IA g.o),a⟩
    |false=>
     by_cases hno:name.size=0
     ·have m:name.toList.isEmpty=true:=by rw[Fz];simpa using hno
      have b:Hid (EY false name=true):=by show _=_;simpa [EY]using hno
      clear hno;cases ut with
      |true=>go_wp2_with fail;refine(Dj t o l j f _ (h.af a) r s).mono ?_;rintro e x ⟨rfl,i⟩;go_wp2;go_ret;exact⟨Av (by rw[d.o,b.o];rfl),a.trans (i.mono (by simp))⟩
      |false=>
       by_cases h0:t.size=0
       ·have p:t.toList.isEmpty=true:=by rw[Fz];simpa using h0
        have g:=Yx h0;clear h0;go_wp2;go_ret;exact⟨Av (by rw[d.o,b.o];exact Iz g.o),a⟩
       ·have p:t.toList.isEmpty=false:=by rw[Fz];simpa using h0
        have g:=Yx h0;clear h0;go_wp2;go_ret;exact⟨Av (by rw[d.o,b.o];exact IA g.o),a⟩
     ·have m:name.toList.isEmpty=false:=by rw[Fz];simpa using hno
      have b:Hid (EY false name=false):=by show _=_;simpa [EY]using hno
      clear hno;go_wp2;go_ret;exact⟨Av (by rw[b.o];simp),a⟩
  ·have q:c.toList.isEmpty=false:=by rw[Fz];simpa using hs
   have d:Hid (DX false c f=false):=by show _=_;simpa [DX]using hs
   clear hs;go_wp2;go_ret;exact⟨Av (by rw[d.o];rfl),a⟩
def u8(x:Int):UInt8:=UInt8.ofNat x.toNat
theorem EN(x:Int)(a:0<=x)(h:x<256):Value.int .u8 x=.int .u8 ((u8 x).toNat:Int):=by
 have:(u8 x).toNat=x.toNat:=by simp[u8];omega
 rw[this];congr 1;omega
def Cj(k n m:Int):List UInt8:=[u8 k,u8 (n/16777216),u8 (n/65536%256),u8 (n/256%256),u8 (n%256),u8 m]
def De(k:Nat)(sum name:Zi)(n:Int)(t:Zi)(ss:Zl):List UInt8:=
 Cj k n name.size++name.data.toList++sum.data.toList++(if k=1 then BD t ss else [])
theorem Ht{P:Program}(w:Zh){k:Array Oper}{o:Oper}{a:Act}{K:Act->Zh->Prop}{Q:Exit->Act->Zh->Prop}{E:Prop}(r:o.guard=none)(m x:Operand)(t u:TypeId)
 (B:o.op=.call {callee:=.builtin .append,args:= #[m,x],argTypes:= #[t,u]})
 (base:Nat) (e:TypeId) (i:TypeInfo) (F:P.underlying t=some (.slice e)) (G:P.underlying u=some .string) (A:P.info? e=some i) (J:i.zero=some (.int .u8 0))
 (d:i.size=1) (q:i.bytes=1)
 (v:Value) (n:Nat) (l:Zj) (D:a.eval m=v) (j:w.ownsRow base e 1 v n l) (s:Zi) (I:a.eval x=.string s)
 (p:n+s.size<=maxLen) (b:n+s.size<=140737488355328) (c:base<=w.heap.size)
 (h:∀g f,f.ownsRow base e 1 g (n+s.size) (l++Lib.strCells s)->w.grownBy f v.ownBlock->K (a.put o.dst g) f):
 if Region.wanted o (yielded k a.tmps)=true then Oper.wp P o a w K Q else E:=by
 have H:Region.wanted o (yielded k a.tmps)=true:=by simp[Region.wanted,r]
 rw[if_pos H];obtain⟨g,f,C,y,z,_⟩:=Lib.run_append_own_string (P:=P) w base t u o.type e i F G A J d q v n l j s p b c;unfold Oper.wp execOp;simp only[B,resolve,invoke,builtin,Sem.run_bind,Sem.run_pure,Result.andThen_ok,List.map_toArray,List.map_cons,List.map_nil,D,I,C];exact h g f y z
structure VG (k:Nat) (sum name:Zi) (n:Int) (t:Zi) (ss:Zl) (wd:Int):Prop where
 w1:1<=wd
 w2:wd<=8
 sum:sum.size<=8
 name:name.size<=40
 n0:0<=n
 n1:n<=1000000000
 df:k=1->AK t ss wd=true
theorem Ek{k:Nat}{d name:Zi}{n:Int}{t:Zi}{e:Zl}{f:Int}(h:CS k d name n t e f=true):VG k d name n t e f:=by
 unfold CS at h;simp only[Bool.and_eq_true,decide_eq_true_eq]at h;obtain⟨⟨g,i⟩,c,a,b,l⟩:=h;refine⟨g,i,?_,?_,?_,?_,?_⟩
 ·unfold DX at c;split at c<;>simp at c
  ·omega
  ·simp[c]
 ·unfold EY at a;split at a
  ·unfold Dl at a;simp at a;omega
  ·simp at a;simp[a]
 ·unfold DZ at b;split at b<;>simp at b<;>omega
 ·have m:CE k<=1000000000:=by
   unfold CE;split
   ·omega
   ·split<;>omega
  unfold DZ at b;split at b<;>simp at b<;>omega
 ·intro j;subst j;exact l
theorem Sg:(prog.info? 5).map (fun i=>(i.zero,i.size,i.bytes))=some (some (.int .u8 0),1,1):=by kernel_rfl
theorem Sh(k n m:Int)(a:0<=k)(c:k<256)(e:0<=n)(f:n<=1000000000)(b:0<=m)(d:m<256):
 [Value.int .u8 k,.int .u8 (n/16777216),.int .u8 (n/65536%256),.int .u8 (n/256%256),.int .u8 (n%256),.int .u8 m]=Lib.byteCells (Cj k n m):=by
 rw[EN k a c,EN (n/16777216) (by omega) (by omega),EN (n/65536%256) (by omega) (by omega),EN (n/256%256) (by omega) (by omega),EN (n%256) (by omega) (by omega),EN m b d];rfl
theorem PX{w:Zh}{base:Nat}{e:TypeId}{v:Value}{n:Nat}{c:Zj}(h:w.ownsRow base e 1 v n c){b:Nat}(d:b<base):some b≠v.ownBlock:=by intro a;have:=(h.lt b a.symm).1;omega
theorem Si(k:Nat)(b name:Zi)(n:Int)(t:Zi)(A:Zk)(q:Nat)(c:Zl)(T:Int)(w:Zh)(h1:1<=k)(h7:k<=7)
 (u:Ad w w.heap.size A c) (hl:c.length<=1048576) (ht:t.size<=maxLen) (G:CS k b name n t c T=true):
 Calls prog 47 #[.agg (Ex k b name n t A c.length q),Zg T] w fun e w'=>e=.returned (.string ⟨(De k b name n t c).toArray⟩)/\Zz w w':=by
 have hp:=Ek G;obtain⟨zP,zR,zV,zE,zK,zM,H⟩:=hp;obtain⟨i0,hi,R,S,v⟩:=info_parts Sg;have N:Below w.heap.size w (w.alloc (.cells (Ex k b name n t A c.length q) 67)):=Zy;go_enter func47,ntmps47;go_wp2_with fail;refine(PW k b name n t A q c T _ h1 h7 zP zR (u.af N) hl ht (by unfold maxLen;omega)).mono ?_;rintro e f ⟨rfl,h⟩;rw[G];have hz:=h.size;simp at hz;have d:w.heap.size<f.heap.size:=by omega
 have L:=N.trans (h.mono (by simp));have U:f.cell? (Ze (w.heap.size) 0)=some (Zg k):=by rw[h.cell (p:=⟨w.heap.size,0,none⟩) (by simp)];simp
 have V:f.cell? (Ze (w.heap.size) 1)=some (.string b):=by rw[h.cell (p:=⟨w.heap.size,1,none⟩) (by simp)];simp
 have x2:f.cell? (Ze (w.heap.size) 2)=some (.string name):=by rw[h.cell (p:=⟨w.heap.size,2,none⟩) (by simp)];simp
 have x3:f.cell? (Ze (w.heap.size) 3)=some (Zg n):=by rw[h.cell (p:=⟨w.heap.size,3,none⟩) (by simp)];simp
 have X:f.cell? (Ze (w.heap.size) 4)=some (.string t):=by rw[h.cell (p:=⟨w.heap.size,4,none⟩) (by simp)];simp
 have Y:f.cell? (Ze (w.heap.size) 5)=some (.slice A c.length q):=by rw[h.cell (p:=⟨w.heap.size,5,none⟩) (by simp)];simp
 have I:=u.below L;have zF:=Yx G;clear G H u h N;obtain⟨z,C⟩:∃W,W=f.alloc (.cells #[.int .u8 k,.int .u8 (n/16777216),.int .u8 (n/65536%256),.int .u8 (n/256%256),.int .u8 (n%256),.int .u8 name.size] 5):=⟨_,rfl⟩;have D:z.ownsRow f.heap.size 5 1 (Za f.heap.size 6 6) 6 (Lib.byteCells (Cj k n name.size)):=by rw[C,←Sh k n name.size (by omega) (by omega) zK zM (by omega) (by omega)];exact World.ownsRow_lit f _ 6 (Zx) (by simp[maxLen]) rfl
 have i:Below f.heap.size f z:=by rw[C];exact Zy
 have zC:=i.size;have HW:=Yx C;clear C;go_wp2;rw[←HW.o];have U:z.cell? (Ze (w.heap.size) 0)=some (Zg k):=(i.cell (p:=⟨w.heap.size,0,none⟩) d).trans U;have V:z.cell? (Ze (w.heap.size) 1)=some (.string b):=(i.cell (p:=⟨w.heap.size,1,none⟩) d).trans V;have x2:z.cell? (Ze (w.heap.size) 2)=some (.string name):=(i.cell (p:=⟨w.heap.size,2,none⟩) d).trans x2
 have X:z.cell? (Ze (w.heap.size) 4)=some (.string t):=(i.cell (p:=⟨w.heap.size,4,none⟩) d).trans X;have Y:z.cell? (Ze (w.heap.size) 5)=some (.slice A c.length q):=(i.cell (p:=⟨w.heap.size,5,none⟩) d).trans Y;have g:=PX D d
 go_region_law (first
  |(refine Ht _ rfl (.tmp 35) (.tmp 37) 138 9 rfl f.heap.size 5 i0 underlying138 underlying9 hi R S v _ 6 (Lib.byteCells (Cj k n name.size)) rfl (by exact D) name rfl (by unfold maxLen;omega) (by omega) (by exact zC) ?_;intro v3 w3 E l;have y1:=l.cell (a:=⟨w.heap.size,1,none⟩) (by exact V) g)
  |(refine Ht _ rfl (.tmp 38) (.tmp 40) 138 9 rfl f.heap.size 5 i0 underlying138 underlying9 hi R S v _ (6+name.size) (Lib.byteCells (Cj k n name.size)++Lib.strCells name) rfl E b rfl (by unfold maxLen;omega) (by omega) (by have:=l.size;simp at this;omega) ?_;intro v4 w4 s r))
 all_goals
  have m:=PX E d;have zS:=l.size;have yD:=r.size;simp at zS;have z0:=r.cell (a:=⟨w.heap.size,0,none⟩) (l.cell (a:=⟨w.heap.size,0,none⟩) (by exact U) g) m;have z4:=r.cell (a:=⟨w.heap.size,4,none⟩) (l.cell (a:=⟨w.heap.size,4,none⟩) (by exact X) g) m;have z5:=r.cell (a:=⟨w.heap.size,5,none⟩) (l.cell (a:=⟨w.heap.size,5,none⟩) (by exact Y) g) m
  have Z:Below f.heap.size f w4:=((i.drew).grown l (by exact zC) (fun k B=>(D.lt k B).1)).grown r (by omega) (fun k B=>(E.lt k B).1);obtain⟨g4,c4,zN,zY,zZ⟩:=s.form (by omega);subst zN;have x:Lib.byteCells (Cj k n name.size)++Lib.strCells name++Lib.strCells b=Lib.byteCells (Cj k n name.size++name.data.toList++b.data.toList):=by rw[Lib.strCells_eq,Lib.strCells_eq,←Lib.byteCells_append,←Lib.byteCells_append]
  rw[x]at s;have M:=L.trans (Z.mono L.size);have J:=I.below (Z.mono (by omega));clear x l r E U V x2 X Y y1 D i g m;by_cases hk1:k=1
  ·subst hk1;have H:=(Ek zF.o).df rfl;have Q:=BB H;have zX:=Q.az;have yC:=Q.text;have yB:=Q.refs;go_wp2_with fail;refine(Mg t A q c T w4 (J.mono (by omega)) H).mono ?_;rintro e w5 ⟨rfl,o⟩;have O:=s.kept (row:=none) ⟨o.os,o.tape,o.output,o.size,fun k B _=>o.block k B⟩ (.inr (by simp[Value.ownBlock]));have yE:=o.size;have zI:(BD t c).length<=3000:=by have:=Dg c;simp[BD,this];omega
   have zB:(ByteArray.mk (BD t c).toArray).size=(BD t c).length:=by simp[ByteArray.size]
   have K:=Yx zB;clear zB;obtain⟨F,hF⟩:∃F,F=ByteArray.mk (BD t c).toArray:=⟨_,rfl⟩;rw[←hF]at K ⊢;have zW:F.size<=3000:=by rw[K.o];exact zI
   have HF:=Yx hF;clear hF;go_wp2_with (at_builtin;refine Lib.wpList_append_own_string _ rfl _ _ 138 9 rfl f.heap.size 5 i0 underlying138 underlying9 hi R S v _ _ _ rfl O F rfl ?c3 ?c4 ?c5 ?_)
   case c3=>unfold maxLen;omega
   case c4=>omega
   case c5=>omega
   intro v6 w6 y zJ _;obtain⟨g6,c6,zO,zT,zU⟩:=y.form (by omega);subst zO;have zG:=(o.mono M.size).grown zJ (by omega) (fun k B=>by have:=(O.lt k B).1;omega);have x:Lib.byteCells (Cj 1 n name.size++(name.data.toList++b.data.toList))++Lib.strCells F=Lib.byteCells (De 1 b name n t c):=by rw[Lib.strCells_eq,←Lib.byteCells_append,HF.o];unfold De;rw[if_pos rfl];simp[List.append_assoc]
   rw[x]at y;have hlen:6+name.size+b.size+F.size=(De 1 b name n t c).length:=by rw[K.o];simp[De,Cj];omega
   rw[hlen]at y ⊢;have zH:=run_convert_bytes_back (P:=prog) w6 138 9 5 ⟨g6,0,none⟩ c6 (De 1 b name n t c) underlying138 underlying5 underlying9 (fun j hj=>y.cells rfl j _ (by simp[Lib.byteCells,hj]));clear y O x;go_wp2;go_ret;exact⟨rfl,M.trans zG⟩
  ·have yA:((k:Int)==1)=false:=beq_eq_false_iff_ne.2 (by omega);have hlen:6+name.size+b.size=(De k b name n t c).length:=by unfold De;rw[if_neg hk1];simp[Cj];omega
   have zA:Cj k n name.size++name.data.toList++b.data.toList=De k b name n t c:=by unfold De;rw[if_neg hk1,List.append_nil]
   rw[zA,hlen]at s;rw[hlen];have zH:=run_convert_bytes_back (P:=prog) w4 138 9 5 ⟨g4,0,none⟩ c4 (De k b name n t c) underlying138 underlying5 underlying9 (fun j hj=>s.cells rfl j _ (by simp[Lib.byteCells,hj]));clear s zA;go_wp2;go_ret;exact⟨rfl,M⟩
def Cs(k:Int)(sum name:Zi)(n:Int)(t:Zi)(ss:Zl)(wd:Int):Bool:=decide (1<=k/\k<=7)&&CS k.toNat sum name n t ss wd
theorem Ul(k:Int)(a name:Zi)(n:Int)(t:Zi)(f:Zk)(d:Nat)(b:Zl)(c:Int)(w:Zh)
 (g:Ad w w.heap.size f b) (h:b.length<=1048576) (j:t.size<=maxLen) (i:name.size<=maxLen):
 Calls prog 43 #[.agg (Ex k a name n t f b.length d),Zg c] w fun e l=>e=.returned (.bool (Cs k a name n t b c))/\Zz w l:=by
 unfold Cs;by_cases hk:1<=k/\k<=7
 ·obtain⟨m,rfl⟩:∃m:Nat,k=m:=⟨k.toNat,by omega⟩;rw[decide_eq_true hk,Bool.true_and,Int.toNat_natCast];by_cases hw:1<=c/\c<=8
  ·exact PW m a name n t f d b c w (by omega) (by omega) hw.1 hw.2 g h j i
  ·exact Sf m a name n t f d b c w hw
 ·rw[decide_eq_false hk,Bool.false_and];exact Uk k a name n t f d b c w hk
theorem Um(k:Int)(b name:Zi)(n:Int)(t:Zi)(d:Zk)(c:Nat)(a:Zl)(f:Int)(w:Zh)(h:Jh w)
 (g:Ad w w.heap.size d a) (i:a.length<=1048576) (l:t.size<=maxLen) (j:name.size<=maxLen):
 Calls prog 105 #[.agg (Ex k b name n t d a.length c),Zg f] w fun e o=>e=.returned (.bool (Cs k b name n t a f))/\Zz w o:=by
 unfold Cs;by_cases hk:1<=k/\k<=7
 ·obtain⟨m,rfl⟩:∃m:Nat,k=m:=⟨k.toNat,by omega⟩;rw[decide_eq_true hk,Bool.true_and,Int.toNat_natCast];exact KO m b name n t d c a f w h (by omega) (by omega) g i l j
 ·rw[decide_eq_false hk,Bool.false_and];exact Pc k b name n t d c a f w hk
def CF(k:Int)(sum name:Zi)(n:Int)(t:Zi)(ss:Zl)(wd:Int):Zi:=if Cs k sum name n t ss wd=true then ⟨(De k.toNat sum name n t ss).toArray⟩else ByteArray.empty
section
open Go.RowKit Go.Extern.Stop Go.Stop Go.Extern
def Ny(w:Zh):Prop:=w.cell? (Ze 5 0)=some (.iface 285 (.agg #[.pointer (some ⟨9,209,none⟩)]))
theorem XI(t:Value)(w:Zh):
 Calls prog 159 #[.nilIface,t] w fun e a=>e=.returned (.bool false)/\a=w:=by
 go_enter func159,ntmps159;go_wp2;go_ret;exact⟨rfl,rfl⟩
abbrev rt(t:Nat):Value:=.agg #[.pointer (some ⟨9,t,none⟩)]
abbrev rv(t:Nat)(a:Addr)(f:Int):Value:=.agg #[.pointer (some ⟨9,t,none⟩),.pointer (some a),.int .u64 f]
theorem Un(t:Addr)(w:Zh):(ReflectliteValue.unpack (.iface 224 (.pointer (some t)))).run prog w
 =.ok (rv 224 ⟨w.heap.size,0,none⟩ 150) (w.alloc (.cells #[.pointer (some t)] 224)):=by kernel_rfl
theorem Uo(e:Addr)(w:Zh):(ReflectliteValue.unpack (.iface 222 (.pointer (some e)))).run prog w
 =.ok (rv 222 ⟨w.heap.size,0,none⟩ 150) (w.alloc (.cells #[.pointer (some e)] 222)):=by kernel_rfl
theorem XJ(a:Addr)(w:Zh):(ReflectliteValue.methodAny (ReflectliteValue.valueError "reflectlite.Value.Type" 0) (fun t _ _ _=>ReflectliteType.toType t) #[rv 224 a 150]).run prog w
 =.ok (.iface 285 (rt 224)) w:=by kernel_rfl
theorem Wd(h:Value)(w:Zh):(Go.method 455 285 (.agg #[h]) "Kind").run prog w=.ok (270,h) w:=by kernel_rfl
theorem We(h:Value)(w:Zh):(Go.method 455 285 (.agg #[h]) "Elem").run prog w=.ok (284,.agg #[h]) w:=by kernel_rfl
theorem Wf(h:Value)(w:Zh):(Go.method 455 285 (.agg #[h]) "Implements").run prog w=.ok (285,.agg #[h]) w:=by kernel_rfl
theorem XK(h:Value)(w:Zh):(Go.method 455 285 (.agg #[h]) "AssignableTo").run prog w=.ok (282,.agg #[h]) w:=by kernel_rfl
theorem Wg(w:Zh):((ReflectliteType.abiMethod fun t=>(fun a:Nat=>Value.int IntKind.u8 (a:Int))<$>Rtype.kind t) #[Yy 9 224]).run prog w=.ok (.int .u8 22) w:=by kernel_rfl
theorem Wh(w:Zh):((ReflectliteType.abiMethod fun t=>(fun a:Nat=>Value.int IntKind.u8 (a:Int))<$>Rtype.kind t) #[Yy 9 222]).run prog w=.ok (.int .u8 22) w:=by kernel_rfl
theorem XL(w:Zh):(ReflectliteType.method ReflectliteType.elem #[rt 224]).run prog w=.ok (.iface 285 (rt 222)) w:=by kernel_rfl
theorem XM(w:Zh):(ReflectliteType.relation "Implements" ReflectliteType.implements_ #[rt 222,.iface 285 (rt 209)]).run prog w=.ok (.bool true) w:=by kernel_rfl
theorem Up(v:Value)(w:Zh):(ReflectliteType.typeOf #[.iface 222 v]).run prog w=.ok (.iface 285 (rt 222)) w:=by kernel_rfl
theorem YZ(w:Zh):(ReflectliteType.relation "AssignableTo" ReflectliteType.assignableTo #[rt 222,.iface 285 (rt 222)]).run prog w=.ok (.bool true) w:=by kernel_rfl
theorem Uq(w:Zh):(Rtype.elem? 224).run prog w=.ok (some 222) w:=by kernel_rfl
theorem ZY(p:Addr)(w:Zh):(ReflectliteValue.mk 222 p ReflectliteValue.flagAddr).run prog w=.ok (rv 222 p 406) w:=by kernel_rfl
theorem NU(a:Addr)(w:Zh):(ReflectliteValue.parts (rv 224 a 150)).run prog w=.ok (some (224,a,150)) w:=by kernel_rfl
theorem Ur(a:Addr)(w:Zh):(ReflectliteValue.parts (rv 222 a 406)).run prog w=.ok (some (222,a,406)) w:=by kernel_rfl
theorem Us(a:Addr)(w:Zh):(ReflectliteValue.parts (rv 222 a 150)).run prog w=.ok (some (222,a,150)) w:=by kernel_rfl
theorem Ut(w:Zh):(Rtype.directlyAssignable 222 222).run prog w=.ok true w:=by kernel_rfl
theorem Sj(z:Sem Value)(f:TypeId->Addr->Nat->Nat->Sem Value)(v:Value):
 ReflectliteValue.method z f #[v]=(do match ←ReflectliteValue.parts v with|none=>z|some (t,a,fl)=>f t a fl (fl%32)):=rfl
theorem Wi(a p:Addr)(W:Zh)(b:W.cell? a=some (.pointer (some p))):
 (ReflectliteValue.method (ReflectliteValue.valueError "reflectlite.Value.IsNil" 0) ReflectliteValue.isNil #[rv 224 a 150]).run prog W=.ok (.bool false) W:=by
 rw[Sj];simp only[Sem.run_bind,NU,Result.andThen];simp[ReflectliteValue.isNil,loadVar,isAgg,underlying,underlying224,b,Result.andThen]
theorem Wj(a p:Addr)(W:Zh)(b:W.cell? a=some (.pointer (some p))):
 (ReflectliteValue.method (ReflectliteValue.valueError "reflectlite.Value.Elem" 0) ReflectliteValue.elem #[rv 224 a 150]).run prog W=.ok (rv 222 p 406) W:=by
 rw[Sj];simp only[Sem.run_bind,NU,Result.andThen];simp[ReflectliteValue.elem,loadVar,isAgg,underlying,underlying224,b,Result.andThen,Uq,ZY]
theorem XN(v x:Value):ReflectliteValue.set #[v,x]=(do
 let (some (dst,a,fl),some (src,b,_)):=(←ReflectliteValue.parts v,←ReflectliteValue.parts x)
  |unsupported (.noEntry "extern/(internal/reflectlite.Value).Set.zeroValue")
 if fl/ReflectliteValue.flagAddr%2==0 then unsupported (.noEntry "extern/(internal/reflectlite.Value).Set.unaddressable")
 let val ←loadVar src b
 if ←Rtype.directlyAssignable dst src then storeVar dst a val
 else if ←Rtype.implements dst src then
  if (←Rtype.kind src)==20 then
   match val with
   |.nilIface=>unsupported (.noEntry "extern/reflectlite: a nil value of one interface type handed on as a value of another")
   |_=>storeVar dst a val
  else storeVar dst a (.iface src val)
 else panicString ("reflectlite.Set: value of type " ++(←Rtype.spelt src)++ " is not assignable to type " ++(←Rtype.spelt dst))
 pure (.tuple #[])):=rfl
theorem ZA(a b e:Addr)(c:Value)(W:Zh)(d:W.cell? b=some (.pointer (some e)))(g:W.cell? a=some c)(f:W.frozen? a=false):
 (ReflectliteValue.set #[rv 222 a 406,rv 222 b 150]).run prog W=.ok (.tuple #[]) (W.setCell a (.pointer (some e))):=by
 rw[XN];simp only[Sem.run_bind,Ur,Us,Result.andThen];simp[ReflectliteValue.flagAddr,loadVar,isAgg,underlying,underlying222,d,Result.andThen,Ut,storeVar,Value.cells,storeCells,Addr.add];rw[run_store prog W a _ _ (by rfl)];simp[g,f]
theorem XO(e:Addr)(a:Nat)(g:Value)(w:Zh)(j:Ny w)(f:w.cell? (Ze a 0)=some g)(l:w.frozen? ⟨a,0,none⟩=false):
 Calls prog 159 #[.iface 222 (.pointer (some e)),.iface 224 (Yz a)] w fun n o=>n=.returned (.bool true)/\Below a w o:=by
 have z:= @run_callFunc_extern prog 189 _ (fun args=>ReflectliteValue.unpack (args.getD 0 (.tuple #[]))) func189 (by kernel_rfl) (by kernel_rfl) (by kernel_rfl) (by kernel_rfl)
 have A:= @run_callFunc_extern prog 190 _ (ReflectliteValue.methodAny (ReflectliteValue.valueError "reflectlite.Value.Type" 0) (fun t _ _ _=>ReflectliteType.toType t)) func190 (by kernel_rfl) (by kernel_rfl) (by kernel_rfl) (by kernel_rfl)
 have B:= @run_callFunc_extern prog 191 _ (ReflectliteValue.method (ReflectliteValue.valueError "reflectlite.Value.IsNil" 0) ReflectliteValue.isNil) func191 (by kernel_rfl) (by kernel_rfl) (by kernel_rfl) (by kernel_rfl)
 have C:= @run_callFunc_extern prog 270 _ (ReflectliteType.abiMethod fun t=>do pure (.int .u8 (←Rtype.kind t))) func270 (by kernel_rfl) (by kernel_rfl) (by kernel_rfl) (by kernel_rfl);have D:= @run_callFunc_extern prog 284 _ (ReflectliteType.method ReflectliteType.elem) func284 (by kernel_rfl) (by kernel_rfl) (by kernel_rfl) (by kernel_rfl)
 have E:= @run_callFunc_extern prog 285 _ (ReflectliteType.relation "Implements" ReflectliteType.implements_) func285 (by kernel_rfl) (by kernel_rfl) (by kernel_rfl) (by kernel_rfl);have F:= @run_callFunc_extern prog 219 _ ReflectliteType.typeOf func219 (by kernel_rfl) (by kernel_rfl) (by kernel_rfl) (by kernel_rfl)
 have G:= @run_callFunc_extern prog 282 _ (ReflectliteType.relation "AssignableTo" ReflectliteType.assignableTo) func282 (by kernel_rfl) (by kernel_rfl) (by kernel_rfl) (by kernel_rfl)
 have H:= @run_callFunc_extern prog 220 _ (ReflectliteValue.method (ReflectliteValue.valueError "reflectlite.Value.Elem" 0) ReflectliteValue.elem) func220 (by kernel_rfl) (by kernel_rfl) (by kernel_rfl) (by kernel_rfl);have q:= @run_callFunc_extern prog 221 _ ReflectliteValue.set func221 (by kernel_rfl) (by kernel_rfl) (by kernel_rfl) (by kernel_rfl);have J:=Up;have K:=XK;have L:=YZ;have M:=Uo
 have N:=Un;have O:=XJ;have P:=Wd;have Q:=We;have R:=Wf;have s:=Wg;have u:=Wh;have v:=XL;have x:=XM;have m:5<w.heap.size:=World.block_lt_of_cell? w _ j;have b:a<w.heap.size:=World.block_lt_of_cell? w ⟨a,0,none⟩ f;have h:Below w.heap.size w (w.alloc (.cells #[Yz a] 224)):=Zy;have c:=h.alloc h.size (.cells #[Yy 9 224,Yz w.heap.size,.int .u64 150] 252)
 have i:=c.alloc c.size (.cells #[Yy 9 224,Yz w.heap.size,.int .u64 150] 252);have d:=i.alloc i.size (.cells #[.pointer (some e)] 222);have I:=Wi ⟨w.heap.size,0,none⟩ ⟨a,0,none⟩ ((w.alloc (.cells #[Yz a] 224)).alloc (.cells #[Yy 9 224,Yz w.heap.size,.int .u64 150] 252)) (by simp)
 have r:((w.alloc (.cells #[Yz a] 224)).alloc (.cells #[Yy 9 224,Yz w.heap.size,.int .u64 150] 252)).cell? (Ze 5 0)=some (.iface 285 (.agg #[Yy 9 209])):=(c.cell (p:=⟨5,0,none⟩) m).trans j
 have y:=Wj ⟨w.heap.size,0,none⟩ ⟨a,0,none⟩ (((w.alloc (.cells #[Yz a] 224)).alloc (.cells #[Yy 9 224,Yz w.heap.size,.int .u64 150] 252)).alloc (.cells #[Yy 9 224,Yz w.heap.size,.int .u64 150] 252)) (by rw[World.cell?_alloc_lt _ _ ⟨w.heap.size,0,none⟩ (by simp;omega)];simp)
 have S:=ZA ⟨a,0,none⟩ ⟨w.heap.size+1+1+1,0,none⟩ e g ((((w.alloc (.cells #[Yz a] 224)).alloc (.cells #[Yy 9 224,Yz w.heap.size,.int .u64 150] 252)).alloc (.cells #[Yy 9 224,Yz w.heap.size,.int .u64 150] 252)).alloc (.cells #[.pointer (some e)] 222))
  (by rw[World.cell?_alloc_at _ _ _ _ (by simp)];rfl)
  ((d.cell (p:=⟨a,0,none⟩) b).trans f)
  ((d.frozen (p:=⟨a,0,none⟩) b).trans l)
 have fin:=(d.mono (Nat.le_of_lt b)).setCell (show a<=(⟨a,0,none⟩:Addr).block from Nat.le_refl a) (.pointer (some e));clear h c i d;have k:=Yx fin;clear fin;go_enter func159,ntmps159;go_wp2;refine wp_loop_rounds 1 ?_;rw[rounds_succ];go_wp2;go_ret;exact⟨rfl,k.o⟩
end
theorem Ci(b:UInt8):wrap64 (b.toNat:Int)=(b.toNat:Int):=by have h:=b.toNat_lt;simp[wrap64];omega
theorem Et(x:Int)(h: -9223372036854775808<=x)(a:x<9223372036854775808):IntKind.i64.wrap x=x:=by rw[IntKind.wrap_i64];omega
theorem Sk{n k:Nat}{a:Int}(b:1<=a)(c:k<n):0<=(k:Int) *a/\(k:Int) *a<=(n:Int) *a/\((k:Int)+1) *a=(k:Int) *a+a/\(k:Int) *a+a<=(n:Int) *a:=by refine⟨Int.mul_nonneg (by omega) (by omega),Int.mul_le_mul_of_nonneg_right (by omega) (by omega),by rw[Int.add_mul,Int.one_mul],?_⟩;have:((k:Int)+1) *a<=(n:Int) *a:=Int.mul_le_mul_of_nonneg_right (by omega) (by omega);rw[Int.add_mul,Int.one_mul]at this;exact this
theorem JE{n:Nat}{a:Int}(e:n<256)(b:1<=a)(c:a<=8):0<=(n:Int) *a/\(n:Int) *a<=2040:=by refine⟨Int.mul_nonneg (by omega) (by omega),?_⟩;have d:(n:Int) *a<=255 *a:=Int.mul_le_mul_of_nonneg_right (by omega) (by omega);omega
def Dw(s:Zi)(wd:Int)(n:Nat):Zi:=(s.extract 1 s.size).extract ((n:Int) *wd).toNat (s.size -1)
def Jj(s:Zi)(wd:Int)(i:Nat):Zi:=(s.extract 1 s.size).extract ((i:Int) *wd).toNat ((i:Int) *wd+wd).toNat
def BQ(s:Zi)(wd:Int)(k:Nat):Zl:=(List.range k).map (Jj s wd)
theorem Ct(s:Zi)(a:Int)(k:Nat):(BQ s a k).length=k:=by simp[BQ]
theorem QA(s:Zi)(a:Int)(k:Nat):(BQ s a k).map Value.string++[Value.string (Jj s a k)]=(BQ s a (k+1)).map Value.string:=by simp[BQ,List.range_succ]
theorem Hu{wr b:Zh}{o:Obj}{row:Option Nat}{p:Addr}{x:Value}(e:(wr.alloc o).drew.grownBy b row)(a:wr.cell? p=some x)(d:some p.block≠row):b.cell? p=some x:=by refine e.cell ?_ d;have c:=World.block_lt_of_cell? wr p a;exact(World.cell?_alloc_lt wr o p c).trans a
theorem JU{wr a:Zh}{o:Obj}{row:Option Nat}{p:Addr}(e:(wr.alloc o).drew.grownBy a row)(b:p.block<wr.heap.size)(c:some p.block≠row):a.frozen? p=wr.frozen? p:=by have d:=World.frozen?_of_block (e.block p.block (by simp;omega) c);rw[d];exact World.frozen?_alloc_old wr o p (Nat.ne_of_lt b)
theorem Sl{w:Zh}{base:Nat}{e:TypeId}{v:Value}{n:Nat}{c:Zj}(h:w.ownsRow base e 1 v n c){b:Nat}(d:b<base):some b≠v.ownBlock:=by intro a;have:=(h.lt b a.symm).1;omega
theorem DP{w:Zh}{base:Nat}{v:Value}{ss:Zl}(h:w.ownsRow base 9 1 v ss.length (ss.map Value.string)):∃a b,v=.slice a ss.length b/\Ad w w.heap.size a ss:=by
 rcases h.2 with⟨c,d⟩|⟨g,b,e,c,_⟩
 ·exact⟨none,0,by rw[c,d],.inl (List.eq_nil_of_length_eq_zero d)⟩
 ·subst c;exact⟨_,_,rfl,Ad.own h⟩
theorem Ms{s:Zi}{e:Int}{w wr b:Zh}{o:Obj}{v:Value}{k g a:Nat}{br:Zi}{W:Zh}
 (n:w.heap.size+1<wr.heap.size) (h:wr.ownsRow (w.heap.size+2) 9 1 v k ((BQ s e k).map Value.string)) (f:Below (w.heap.size+1) W wr)
 (d:b.ownsRow (w.heap.size+2) 9 1 (Za g (k+1) a) (k+1) ((BQ s e k).map Value.string++[.string (Jj s e k)]))
 (c:(wr.alloc o).drew.grownBy b v.ownBlock) (i:b.cell? (Ze (w.heap.size+1) 0)=some (.string br)) (j:b.cell? (Ze (w.heap.size+1) 1)=some v) (l:b.frozen? ⟨w.heap.size+1,1,none⟩=false):
 (b.setCell (Ze (w.heap.size+1) 1) (Za g (k+1) a)).cell? (Ze (w.heap.size+1) 0)=some (.string br)/\
 (b.setCell (Ze (w.heap.size+1) 1) (Za g (k+1) a)).cell? (Ze (w.heap.size+1) 1)=some (Za g (k+1) a)/\
 (b.setCell (Ze (w.heap.size+1) 1) (Za g (k+1) a)).frozen? ⟨w.heap.size+1,1,none⟩=false/\
 (b.setCell (Ze (w.heap.size+1) 1) (Za g (k+1) a)).ownsRow (w.heap.size+2) 9 1 (Za g (k+1) a) (k+1) ((BQ s e (k+1)).map Value.string)/\
 Below (w.heap.size+1) W (b.setCell (Ze (w.heap.size+1) 1) (Za g (k+1) a)):=by
 refine⟨?_,?_,?_,?_,?_⟩
 ·rw[←i];exact World.cell?_setCell_other _ _ _ _ (by simp)
 ·exact World.cell?_setCell_same' _ _ _ (by rw[j];rfl)
 ·rw[World.frozen?_setCell];exact l
 ·rw[←QA];exact ownsRow_setCell_below d (by simp) _
 ·exact(((f.alloc (by omega) o).drew).grown c (by simp;omega) (fun k m=>by have:=(h.lt k m).1;omega)).setCell (by simp) _
theorem NV{s:Zi}(h:0<s.size):s.toList.isEmpty=false:=by
 have:s.toList.length=s.size:=by rw[ByteArray.toList_eq];simp
 cases hl:s.toList with
 |nil=>rw[hl]at this;simp at this;omega
 |cons x r=>rfl
theorem Sm(s:Zi)(c:Int)(n:Nat)(w:Zh)(hs:s.size<=1048576)(H:1<=c)(h2:c<=8)(h0:0<s.size)(A:s[0].toNat=n)(T:(n:Int) *c<=s.size -1):
 Calls prog 218 #[.string s,Zg c] w fun e K=>
  (AK (Dw s c n) (BQ s c n) c=true->∃v,e=.returned (.tuple #[.agg #[.string (Dw s c n),v],.bool true])/\K.ownsRow w.heap.size 9 1 v n ((BQ s c n).map Value.string))/\
  (AK (Dw s c n) (BQ s c n) c=false->e=.returned (.tuple #[.agg #[Zd,Zc],.bool false]))/\Zz w K:=by
 obtain⟨i0,hi,P,Q,S⟩:=info_parts CP;have y:s.toList.isEmpty=false:=NV h0;have V:(0:Int)<s.size:=by omega
 have hn:n<256:=by rw[←A];exact s[0].toNat_lt
 have zA:=JE hn H h2;have HN:=Yx A;clear A;go_enter func218,ntmps218;go_wp2;go_quiet (fail);simp only[Ci];rw[HN.o];go_wp2_with fail;obtain⟨br,q⟩:∃br,br=Dw s c n:=⟨_,rfl⟩;rw[show(s.extract 1 s.size).extract ((n:Int) *c).toNat (s.size -1)=br from q.symm];have t:=Yx q;clear q
 go_loopw [37] (fun i wr=>∃(k:Nat) (v:Value),k<=n/\i=Zg k/\wr.cell? (Ze (w.heap.size+1) 0)=some (.string br)/\wr.cell? (Ze (w.heap.size+1) 1)=some v/\wr.frozen? ⟨w.heap.size+1,1,none⟩=false/\
  wr.ownsRow (w.heap.size+2) 9 1 v k ((BQ s c k).map Value.string)/\Below (w.heap.size+1) (w.alloc (Obj.cells #[Value.string ⟨#[]⟩,Value.slice none 0 0] 51)) wr) (fun i _=>n -(intOf i).toNat)
 case atStart=>exact⟨0,Zc,Nat.zero_le _,rfl,by simp[go_sem],by simp[go_sem],by simp[go_sem],World.ownsRow_nil _ _ _ _,(Cf (Below.refl _ _) _).alloc (by simp) _⟩
 case round=>
  obtain⟨k,v,hk,rfl,x,C,E,l,d⟩:=hrel;have N:=d.size;simp at N;by_cases hlt:k<n
  ·obtain⟨m1,m2,m3,m4⟩:=Sk H hlt;have Z:(s.extract 1 s.size).size=s.size -1:=by simp
   have U:(k:Int)<n:=by omega
   have e1:=Et ((k:Int) *c) (by omega) (by omega);have e2:=Et ((k:Int)+1) (by omega) (by omega);have e3:=Et ((k:Int) *c+c) (by omega) (by omega);have b2:(k:Int) *c<=(k:Int) *c+c:=by omega
   have b3:(k:Int) *c+c<=((s.size -1:Nat):Int):=by omega
   go_wp2;have y:=Sl l (b:=w.heap.size+1) (by omega);have r:w.heap.size+1<wr.heap.size:=World.block_lt_of_cell? wr _ x
   go_region_law (refine step_append_lies _ rfl (.tmp 41) (.tmp 51) 22 rfl (w.heap.size+2) 9 i0 Zd 1 16 underlying22 hi P Q S rfl (by decide) v k ((BQ s c k).map Value.string) rfl (World.ownsRow.alloc l _) ⟨wr.heap.size,0,none⟩ 1 1 [.string (Jj s c k)] rfl rfl (cell_one_new wr (.string (Jj s c k)) 9) (by simp[Value.oneCell']) (by decide) (by unfold maxLen;omega) (by omega) (by simp;omega) (wr.heap.size+1) (by simp) ?_;intro g u w1 o f zB W;have D:=Hu f x y;have L:=Hu f C y;have M:=(JU (p:=⟨w.heap.size+1,1,none⟩) f (by simp;omega) y).trans E)
   all_goals
    have R:=Ms r l d o f D L M;have z:=Yx R;clear R l d o f D x C E;go_wp2;refine⟨⟨_,_,_,_,_,_,_,_,_,_,_,_,_,_,_,_,_,_,_,⟨k+1,_,by omega,?_,z.o.1,z.o.2.1,z.o.2.2.1,z.o.2.2.2.1,z.o.2.2.2.2⟩,rfl⟩,?_⟩
    ·go_num
    ·simp[intOf];omega
  ·obtain rfl:k=n:=by omega
   have r:w.heap.size+1<wr.heap.size:=World.block_lt_of_cell? wr _ x;obtain⟨a,u,J,B⟩:=DP (ss:=BQ s c k) (by rw[Ct];exact l);rw[Ct]at J;subst J;have F:(wr.cell? (Ze (w.heap.size) 0))=some Zd:=by rw[d.cell (p:=⟨w.heap.size,0,none⟩) (by simp)];simp
   have G:(wr.cell? (Ze (w.heap.size) 1))=some Zc:=by rw[d.cell (p:=⟨w.heap.size,1,none⟩) (by simp)];simp
   have X:wr.frozen? ⟨w.heap.size,0,none⟩=false:=by rw[d.frozen (p:=⟨w.heap.size,0,none⟩) (by simp)];simp
   have Y:wr.frozen? ⟨w.heap.size,1,none⟩=false:=by rw[d.frozen (p:=⟨w.heap.size,1,none⟩) (by simp)];simp
   have O:br.size<=maxLen:=by rw[t.o];simp[Dw,maxLen];omega
   have j:=Ep br a u (BQ s c k) c wr B (by rw[Ct];omega) O;rw[Ct]at j;have m:w.heap.size<wr.heap.size:=by omega
   go_wp2_with fail;refine j.mono ?_;rintro e w2 ⟨rfl,rfl⟩;have I:Below w.heap.size w wr:=(Zy).trans (d.mono (by omega));cases hok:AK br (BQ s c k) c with
   |true=>
    clear j;go_wp2;refine bodyPost_ret (v:=.tuple #[.agg #[.string br,.slice a k u],.bool true]) (by simp[results,results218,go_sem,m,F,G]) rfl ⟨fun _=>⟨.slice a k u,?_,?_⟩,fun h=> ?_,?_⟩
    ·rw[t.o]
    ·exact((ownsRow_setCell_below (ownsRow_setCell_below l (by simp) _) (by simp) _).alloc _).mono (by omega)
    ·rw[←t.o,hok]at h;cases h
    ·exact((I.setCell (by simp) _).setCell (by simp) _).alloc (by simp;omega) _
   |false=>
    clear j;go_wp2;refine bodyPost_ret (v:=.tuple #[.agg #[Zd,Zc],.bool false]) (by simp[results,results218,go_sem,m,F,G]) rfl ⟨fun h=> ?_,fun _=>rfl,?_⟩
    ·rw[←t.o,hok]at h;cases h
    ·exact((I.setCell (by simp) _).setCell (by simp) _).alloc (by simp;omega) _
def FO(w:Zh)(e:Ending)(w':Zh):Prop:=e=.returned (.tuple #[.agg #[Zd,Zc],.bool false])/\Zz w w'
theorem Sn(s:Zi)(a:Int)(w:Zh)(h:¬(1<=a/\a<=8)):
 Calls prog 218 #[.string s,Zg a] w (FO w):=by
 by_cases h1:1<=a
 ·have b:decide (a<=8)=false:=by simp;omega
  go_enter func218,ntmps218;go_wp2;exact bodyPost_ret (v:=.tuple #[.agg #[Zd,Zc],.bool false]) (by simp[results,results218,go_sem]) rfl ⟨rfl,Zy⟩
 ·go_enter func218,ntmps218;go_wp2;exact bodyPost_ret (v:=.tuple #[.agg #[Zd,Zc],.bool false]) (by simp[results,results218,go_sem]) rfl ⟨rfl,Zy⟩
theorem isEmpty{s:Zi}(h:s.size=0):s.toList.isEmpty=true:=by
 have:s.toList.length=s.size:=by rw[ByteArray.toList_eq];simp
 rw[List.isEmpty_iff,←List.length_eq_zero_iff];omega
theorem Sp(s:Zi)(a:Int)(w:Zh)(d:1<=a)(e:a<=8)(b:s.size=0):
 Calls prog 218 #[.string s,Zg a] w (FO w):=by
 have c:=isEmpty b;go_enter func218,ntmps218;go_wp2;exact bodyPost_ret (v:=.tuple #[.agg #[Zd,Zc],.bool false]) (by simp[results,results218,go_sem]) rfl ⟨rfl,Zy⟩
theorem Sq(s:Zi)(b:Int)(n:Nat)(w:Zh)(k:s.size<=1048576)(g:1<=b)(h:b<=8)(f:0<s.size)(a:s[0].toNat=n)(c:(s.size:Int) -1<(n:Int) *b):
 Calls prog 218 #[.string s,Zg b] w (FO w):=by
 have j:=NV f;have d:(0:Int)<s.size:=by omega
 have i:n<256:=by rw[←a];exact s[0].toNat_lt
 have e:=JE i g h;have HN:=Yx a;clear a;go_enter func218,ntmps218;go_wp2;go_quiet (fail);simp only[Ci];rw[HN.o];go_wp2;refine bodyPost_ret (v:=.tuple #[.agg #[Zd,Zc],.bool false]) (by simp[results,results218,go_sem]) rfl ⟨rfl,?_⟩;exact(((Cf (Zy) _).setCell (by simp) _).setCell (by simp) _)
theorem XP(s:Zi)(a b:Nat)(d:b<=s.size -1)(c:0<s.size):(s.extract 1 s.size).extract a b=s.extract (1+a) (1+b):=by rw[ByteArray.extract_extract];congr 1;omega
theorem Wk{s:Zi}{a:Int}{k:Nat}(b:0<s.size)(d:0<=(k:Int) *a)(c:1<=a)(e:(k:Int) *a+a<=s.size -1):s.extract (1+(k:Int) *a).toNat (1+(k:Int) *a+a).toNat=Jj s a k:=by unfold Jj;rw[XP s _ _ (by omega) b,show(1+(k:Int) *a).toNat=1+((k:Int) *a).toNat from by omega,show(1+(k:Int) *a+a).toNat=1+((k:Int) *a+a).toNat from by omega]
theorem Wl{s:Zi}{a:Int}{n:Nat}(b:0<s.size)(c:0<=(n:Int) *a):s.extract (1+(n:Int) *a).toNat s.size=Dw s a n:=by unfold Dw;rw[XP s _ _ (by omega) b,show(1+(n:Int) *a).toNat=1+((n:Int) *a).toNat from by omega,show 1+(s.size -1)=s.size from by omega]
theorem Sr(s:Zi)(c:Int)(n:Nat)(w:Zh)(hs:s.size<=1048576)(O:1<=c)(h2:c<=8)(P:0<s.size)(N:s[0].toNat=n)(zE:(n:Int) *c<=s.size -1):
 Calls prog 157 #[.string s,Zg c] w fun e U=>
  (AK (Dw s c n) (BQ s c n) c=true->∃v,e=.returned (.tuple #[.agg #[.string (Dw s c n),v],.bool true])/\U.ownsRow w.heap.size 9 1 v n ((BQ s c n).map Value.string))/\
  (AK (Dw s c n) (BQ s c n) c=false->e=.returned (.tuple #[.agg #[Zd,Zc],.bool false]))/\Zz w U:=by
 obtain⟨i0,hi,zA,zB,zC⟩:=info_parts CP;have zG:(0:Int)<s.size:=by omega
 have zI:((s.size:Int)==0)=false:=beq_eq_false_iff_ne.2 (by omega);have hn:n<256:=by rw[←N];exact s[0].toNat_lt
 have J:=JE hn O h2;have Z:=Ci s[0];rw[N]at Z;go_enter func157,ntmps157;go_wp2;obtain⟨br,u⟩:∃br,br=Dw s c n:=⟨_,rfl⟩;rw[Wl P J.1,←u];have z:=Yx u;clear u
 go_loopw [8] (fun i wr=>∃(k:Nat) (v:Value),k<=n/\i=Zg k/\wr.cell? (Ze (w.heap.size+1) 0)=some (.string br)/\wr.cell? (Ze (w.heap.size+1) 1)=some v/\wr.frozen? ⟨w.heap.size+1,1,none⟩=false/\
  wr.ownsRow (w.heap.size+2) 9 1 v k ((BQ s c k).map Value.string)/\Below (w.heap.size+1) (w.alloc (Obj.cells #[Value.string ⟨#[]⟩,Value.slice none 0 0] 51)) wr) (fun i _=>n -(intOf i).toNat)
 case atStart=>exact⟨0,Zc,Nat.zero_le _,rfl,by simp[go_sem],by simp[go_sem],by simp[go_sem],World.ownsRow_nil _ _ _ _,(Below.refl _ _).alloc (by simp) _⟩
 case round=>
  obtain⟨k,v,S,rfl,t,B,M,o,d⟩:=hrel;have X:=d.size;simp at X;by_cases hlt:k<n
  ·obtain⟨m1,m2,m3,m4⟩:=Sk O hlt;have zF:(k:Int)<n:=by omega
   have e1:=Et ((k:Int) *c) (by omega) (by omega);have e2:=Et (1+(k:Int) *c) (by omega) (by omega);have e3:=Et (1+(k:Int) *c+c) (by omega) (by omega);have b1:(0:Int)<=1+(k:Int) *c:=by omega
   have b2:1+(k:Int) *c<=1+(k:Int) *c+c:=by omega
   have b3:1+(k:Int) *c+c<=(s.size:Int):=by omega
   have H:=Yx (Wk P m1 O (by omega:(k:Int) *c+c<=s.size -1));have G:=Sl o (b:=w.heap.size+1) (by omega);have r:=World.block_lt_of_cell? wr _ t;clear m3;go_wp2
   go_region_law (refine step_append_lies _ rfl (.tmp 45) (.tmp 58) 22 rfl (w.heap.size+2) 9 i0 Zd 1 16 underlying22 hi zA zB zC rfl (by decide) v k ((BQ s c k).map Value.string) rfl (World.ownsRow.alloc o _) ⟨wr.heap.size,0,none⟩ 1 1 [.string (s.extract (1+(k:Int) *c).toNat (1+(k:Int) *c+c).toNat)] rfl rfl (cell_one_new wr (.string (s.extract (1+(k:Int) *c).toNat (1+(k:Int) *c+c).toNat)) 9) (by simp[Value.oneCell']) (by decide) (by unfold maxLen;omega) (by omega) (by simp;omega) (wr.heap.size+1) (by simp) ?_;intro g A w1 q f zJ zH;have L:=Hu f t G;have V:=Hu f B G;have W:=(JU (p:=⟨w.heap.size+1,1,none⟩) f (by simp;omega) G).trans M)
   all_goals
    rw[H.o]at q;have R:=Ms r o d q f L V W;have F:=Yx R;clear R o d q f L t B M;go_wp2;refine⟨⟨_,_,_,_,_,_,_,_,_,_,_,_,_,_,_,_,_,_,_,_,_,_,_,⟨k+1,_,by omega,?_,F.o.1,F.o.2.1,F.o.2.2.1,F.o.2.2.2.1,F.o.2.2.2.2⟩,rfl⟩,?_⟩
    ·go_num
    ·simp[intOf];omega
  ·obtain rfl:k=n:=by omega
   have r:=World.block_lt_of_cell? wr _ t;obtain⟨a,A,T,I⟩:=DP (ss:=BQ s c k) (by rw[Ct];exact o);rw[Ct]at T;subst T;have C:(wr.cell? (Ze (w.heap.size) 0))=some Zd:=by rw[d.cell (p:=⟨w.heap.size,0,none⟩) (by simp)];simp
   have D:(wr.cell? (Ze (w.heap.size) 1))=some Zc:=by rw[d.cell (p:=⟨w.heap.size,1,none⟩) (by simp)];simp
   have x:wr.frozen? ⟨w.heap.size,0,none⟩=false:=by rw[d.frozen (p:=⟨w.heap.size,0,none⟩) (by simp)];simp
   have y:wr.frozen? ⟨w.heap.size,1,none⟩=false:=by rw[d.frozen (p:=⟨w.heap.size,1,none⟩) (by simp)];simp
   have Y:br.size<=maxLen:=by rw[z.o];simp[Dw,maxLen];omega
   have m:=Dj br a A (BQ s c k) c wr I (by rw[Ct];omega) Y;rw[Ct]at m;have l:w.heap.size<wr.heap.size:=by omega
   go_wp2_with fail;refine m.mono ?_;rintro e w2 ⟨rfl,j⟩;have Q:=(Zy).trans (d.mono (by omega));have K:=Q.trans (j.mono Q.size);have E:=o.kept (row:=none) ⟨j.os,j.tape,j.output,j.size,fun k S _=>j.block k S⟩ (by cases a<;>simp[Value.ownBlock]);have t:=(j.cell (p:=⟨w.heap.size+1,0,none⟩) r).trans t;have B:=(j.cell (p:=⟨w.heap.size+1,1,none⟩) r).trans B
   have C:=(j.cell (p:=⟨w.heap.size,0,none⟩) l).trans C;have D:=(j.cell (p:=⟨w.heap.size,1,none⟩) l).trans D;have x:=(j.frozen (p:=⟨w.heap.size,0,none⟩) l).trans x;have y:=(j.frozen (p:=⟨w.heap.size,1,none⟩) l).trans y;cases hok:AK br (BQ s c k) c with
   |true=>
    clear m;go_wp2;refine bodyPost_ret (v:=.tuple #[.agg #[.string br,.slice a k A],.bool true]) (by simp[results,results157,go_sem,C,D]) rfl ⟨fun _=>⟨.slice a k A,?_,?_⟩,fun h=> ?_,?_⟩
    ·rw[z.o]
    ·exact(ownsRow_setCell_below (ownsRow_setCell_below E (by simp) _) (by simp) _).mono (by omega)
    ·rw[←z.o,hok]at h;cases h
    ·exact(K.setCell (by simp) _).setCell (by simp) _
   |false=>
    clear m;go_wp2;refine bodyPost_ret (v:=.tuple #[.agg #[Zd,Zc],.bool false]) (by simp[results,results157,go_sem,C,D]) rfl ⟨fun h=> ?_,fun _=>rfl,?_⟩
    ·rw[←z.o,hok]at h;cases h
    ·exact(K.setCell (by simp) _).setCell (by simp) _
theorem Ss(s:Zi)(a:Int)(w:Zh)(h:¬(1<=a/\a<=8)):
 Calls prog 157 #[.string s,Zg a] w (FO w):=by
 by_cases h1:1<=a
 ·have b:decide (a<=8)=false:=by simp;omega
  go_enter func157,ntmps157;go_wp2;exact bodyPost_ret (v:=.tuple #[.agg #[Zd,Zc],.bool false]) (by simp[results,results157,go_sem]) rfl ⟨rfl,Zy⟩
 ·go_enter func157,ntmps157;go_wp2;exact bodyPost_ret (v:=.tuple #[.agg #[Zd,Zc],.bool false]) (by simp[results,results157,go_sem]) rfl ⟨rfl,Zy⟩
theorem St(s:Zi)(a:Int)(w:Zh)(d:1<=a)(e:a<=8)(c:s.size=0):
 Calls prog 157 #[.string s,Zg a] w (FO w):=by
 have b:=beq_iff_eq.2 (by omega);go_enter func157,ntmps157;go_wp2;exact bodyPost_ret (v:=.tuple #[.agg #[Zd,Zc],.bool false]) (by simp[results,results157,go_sem]) rfl ⟨rfl,Zy⟩
theorem Su(s:Zi)(a:Int)(n:Nat)(w:Zh)(l:s.size<=1048576)(h:1<=a)(i:a<=8)(k:0<s.size)(b:s[0].toNat=n)(d:(s.size:Int) -1<(n:Int) *a):
 Calls prog 157 #[.string s,Zg a] w (FO w):=by
 have e:(0:Int)<s.size:=by omega
 have f:((s.size:Int)==0)=false:=beq_eq_false_iff_ne.2 (by omega);have j:n<256:=by rw[←b];exact s[0].toNat_lt
 have g:=JE j h i;have c:=Ci s[0];rw[b]at c;go_enter func157,ntmps157;go_wp2;exact bodyPost_ret (v:=.tuple #[.agg #[Zd,Zc],.bool false]) (by simp[results,results157,go_sem]) rfl ⟨rfl,Zy⟩
def JV(s:Zi)(wd:Int)(n:Nat):Zi×Zl×Bool:=
 if (n:Int) *wd<=s.size -1/\AK (Dw s wd n) (BQ s wd n) wd=true then (Dw s wd n,BQ s wd n,true)else (⟨#[]⟩,[],false)
def rd(s:Zi)(wd:Int):Zi×Zl×Bool:=
 if 1<=wd/\wd<=8 then
  match s.data.toList.head? with
  |none=>(⟨#[]⟩,[],false)
  |some b=>JV s wd b.toNat
 else (⟨#[]⟩,[],false)
def Ey(s:Zi)(wd:Int)(w:Zh)(e:Ending)(w':Zh):Prop:=
 ∃v,e=.returned (.tuple #[.agg #[.string (rd s wd).1,v],.bool (rd s wd).2.2])/\w'.ownsRow w.heap.size 9 1 v (rd s wd).2.1.length ((rd s wd).2.1.map Value.string)/\Zz w w'
theorem PY{s:Zi}(a:0<s.size):s.data.toList.head?=some s[0]:=by rw[List.head?_eq_getElem?,Zv (by simpa using a)];rfl
theorem VH(s:Zi)(a:Int):(rd s a).2.1.length<=255:=by
 unfold rd;split
 ·split
  ·simp
  ·rename_i b _
   unfold JV;have:=b.toNat_lt;split
   ·simp[Ct];omega
   ·simp
 ·simp
theorem EO{s:Zi}{b:Int}{w:Zh}(h:rd s b=(⟨#[]⟩,[],false)):∀e a,FO w e a->Ey s b w e a:=by rintro e a ⟨rfl,c⟩;unfold Ey;rw[h];exact⟨Zc,rfl,World.ownsRow_nil _ _ _ _,c⟩
theorem Sv{s:Zi}{a:Int}{n:Nat}{w:Zh}(j:rd s a=JV s a n)(c:(n:Int) *a<=s.size -1):∀e b,
 ((AK (Dw s a n) (BQ s a n) a=true->∃v,e=.returned (.tuple #[.agg #[.string (Dw s a n),v],.bool true])/\b.ownsRow w.heap.size 9 1 v n ((BQ s a n).map Value.string))/\
   (AK (Dw s a n) (BQ s a n) a=false->e=.returned (.tuple #[.agg #[Zd,Zc],.bool false]))/\Zz w b)->Ey s a w e b:=by
 rintro e b ⟨f,g,d⟩;unfold Ey;rw[j];unfold JV;cases hok:AK (Dw s a n) (BQ s a n) a with
 |true=>rw[if_pos ⟨c,rfl⟩];obtain⟨v,h,i⟩:=f hok;exact⟨v,h,by simpa [Ct]using i,d⟩
 |false=>rw[if_neg (by simp)];exact⟨Zc,g hok,World.ownsRow_nil _ _ _ _,d⟩
theorem Sw(s:Zi)(a:Int)(w:Zh)(c:s.size<=1048576):Calls prog 218 #[.string s,Zg a] w (Ey s a w):=by
 by_cases hw:1<=a/\a<=8
 ·by_cases h0:0<s.size
  ·have b:rd s a=JV s a s[0].toNat:=by unfold rd;rw[if_pos hw,PY h0]
   by_cases hfit:(s[0].toNat:Int) *a<=s.size -1
   ·exact(Sm s a _ w c hw.1 hw.2 h0 rfl hfit).mono (Sv b hfit)
   ·exact(Sq s a _ w c hw.1 hw.2 h0 rfl (by omega)).mono (EO (by rw[b];unfold JV;rw[if_neg (fun h=>hfit h.1)]))
  ·refine(Sp s a w hw.1 hw.2 (by omega)).mono (EO ?_);have d:s.data.toList=[]:=List.eq_nil_of_length_eq_zero (by have e:s.data.toList.length=s.size:=Array.length_toList;omega);unfold rd;rw[if_pos hw,d];rfl
 ·exact(Sn s a w hw).mono (EO (by unfold rd;rw[if_neg hw]))
theorem Sx(s:Zi)(a:Int)(w:Zh)(c:s.size<=1048576):Calls prog 157 #[.string s,Zg a] w (Ey s a w):=by
 by_cases hw:1<=a/\a<=8
 ·by_cases h0:0<s.size
  ·have b:rd s a=JV s a s[0].toNat:=by unfold rd;rw[if_pos hw,PY h0]
   by_cases hfit:(s[0].toNat:Int) *a<=s.size -1
   ·exact(Sr s a _ w c hw.1 hw.2 h0 rfl hfit).mono (Sv b hfit)
   ·exact(Su s a _ w c hw.1 hw.2 h0 rfl (by omega)).mono (EO (by rw[b];unfold JV;rw[if_neg (fun h=>hfit h.1)]))
  ·refine(St s a w hw.1 hw.2 (by omega)).mono (EO ?_);have d:s.data.toList=[]:=List.eq_nil_of_length_eq_zero (by have e:s.data.toList.length=s.size:=Array.length_toList;omega);unfold rd;rw[if_pos hw,d];rfl
 ·exact(Ss s a w hw).mono (EO (by unfold rd;rw[if_neg hw]))
theorem Sy(k:Int)(a name:Zi)(n:Int)(t:Zi)(h:Zk)(g:Nat)(b:Zl)(d:Int)(w:Zh)
 (f:Ad w w.heap.size h b) (j:b.length<=1048576) (l:t.size<=maxLen) (p:name.size<=maxLen):
 Calls prog 47 #[.agg (Ex k a name n t h b.length g),Zg d] w fun e q=>e=.returned (.string (CF k a name n t b d))/\Zz w q:=by
 cases hok:Cs k a name n t b d with
 |true=>rw[show CF k a name n t b d=⟨(De k.toNat a name n t b).toArray⟩from by unfold CF;rw[if_pos hok]];unfold Cs at hok;simp only[Bool.and_eq_true,decide_eq_true_eq]at hok;obtain⟨m,rfl⟩:∃m:Nat,k=m:=⟨k.toNat,by omega⟩;rw[Int.toNat_natCast]at hok ⊢;exact Si m a name n t h g b d w (by omega) (by omega) f j l hok.2
 |false=>rw[show CF k a name n t b d=ByteArray.empty from by unfold CF;rw[if_neg (by rw[hok];decide)]];have i:Below w.heap.size w (w.alloc (.cells (Ex k a name n t h b.length g) 67)):=Zy;have c:=Ul k a name n t h g b d _ (f.af i) j l p;rw[hok]at c;clear hok;go_enter func47,ntmps47;go_wp2_with fail;refine c.mono ?_;rintro e r ⟨rfl,o⟩;go_wp2;go_ret;exact⟨rfl,i.trans (o.mono (by simp))⟩
abbrev AE(l:List UInt8):Zi:=⟨l.toArray⟩
theorem Wm(s:Zi):AE s.data.toList=s:=rfl
theorem GX(l:List UInt8)(a b:Nat):(AE l).extract a b=AE ((l.drop a).take (b -a)):=by apply ByteArray.ext;rw[ByteArray.data_extract];apply Array.ext';simp[List.take_drop]
theorem BR(l:List UInt8):(AE l).size=l.length:=by simp[ByteArray.size]
def IC(T:List UInt8)(wd i:Nat):Zi:=AE ((T.drop (i *wd)).take wd)
theorem Sz(T:List UInt8)(a:Nat):∀k,k *a<=T.length->flat ((List.range k).map (IC T a))=T.take (k *a):=by
 intro k;induction k with
 |zero=>intro _;simp[flat]
 |succ k ih=>
  intro h;have b:k *a<=T.length:=by rw[Nat.succ_mul]at h;omega
  rw[List.range_succ,List.map_append];unfold flat at *
  rw[List.flatMap_append,ih b];simp only[List.map_cons,List.map_nil,List.flatMap_cons,List.flatMap_nil,List.append_nil,IC];rw[Nat.succ_mul,List.take_add]
theorem SA(a:Zl)(t:List UInt8)(b:Nat)(h:∀s∈a,s.size=b):(List.range a.length).map (IC (flat a++t) b)=a:=by
 induction a with
 |nil=>rfl
 |cons s r ih=>
  have c:s.data.toList.length=b:=h s (List.mem_cons_self ..);have e:=ih (fun x f=>h x (by simp[f]));have d:flat (s::r)++t=s.data.toList++(flat r++t):=by simp[flat]
  rw[List.length_cons,List.range_succ_eq_map,List.map_cons,List.map_map,d];congr 1
  ·unfold IC;rw[Nat.zero_mul,List.drop_zero,List.take_left' c]
  ·refine Eq.trans ?_ e;apply List.map_congr_left;intro i _;simp only[Function.comp,IC];congr 2;rw[show Nat.succ i *b=s.data.toList.length+i *b by rw[Nat.succ_mul,c];omega,←List.drop_drop,List.drop_left]
theorem rd_mk(c:UInt8)(T:List UInt8)(a:Int)(e:1<=a)(f:a<=8):
 rd (AE (c::T)) a=if c.toNat *a.toNat<=T.length/\AK (AE (T.drop (c.toNat *a.toNat))) ((List.range c.toNat).map (IC T a.toNat)) a=true then (AE (T.drop (c.toNat *a.toNat)),(List.range c.toNat).map (IC T a.toNat),true)else (⟨#[]⟩,[],false):=by
 obtain⟨W,rfl⟩:∃W:Nat,a=W:=⟨a.toNat,by omega⟩;have b:(AE (c::T)).size=T.length+1:=by rw[BR];rfl
 have d:(AE (c::T)).extract 1 (AE (c::T)).size=AE T:=by rw[b,GX];simp
 have j:Dw (AE (c::T)) W c.toNat=AE (T.drop (c.toNat *W)):=by unfold Dw;rw[d,GX,b];congr 2;rw[show((c.toNat:Int) *(W:Int)).toNat=c.toNat *W by rw[←Int.natCast_mul];rfl];exact Zt (by simp)
 have h:BQ (AE (c::T)) W c.toNat=(List.range c.toNat).map (IC T W):=by unfold BQ;apply List.map_congr_left;intro i _;unfold Jj IC;rw[d,GX];congr 2;rw[show((i:Int) *(W:Int)).toNat=i *W by rw[←Int.natCast_mul];rfl,show((i:Int) *(W:Int)+(W:Int)).toNat=i *W+W by rw[←Int.natCast_mul];omega];congr 1;omega
 have g:((c.toNat:Int) *(W:Int)<=((AE (c::T)).size:Int) -1)↔c.toNat *W<=T.length:=by rw[b,←Int.natCast_mul];omega
 unfold rd;rw[if_pos ⟨e,f⟩];simp only[List.head?_cons];unfold JV;rw[j,h];simp only[g,Int.toNat_natCast]
theorem Uu{l:List UInt8}{a:Int}(h:(rd (AE l) a).2.2=true):AK (rd (AE l) a).1 (rd (AE l) a).2.1 a=true/\BD (rd (AE l) a).1 (rd (AE l) a).2.1=l:=by
 by_cases hw:1<=a/\a<=8
 ·cases l with
  |nil=>unfold rd at h;rw[if_pos hw]at h;simp at h
  |cons c T=>
   rw[rd_mk c T a hw.1 hw.2]at h ⊢;split at h
   case isTrue hc=>
    rw[if_pos hc];refine⟨hc.2,?_⟩;simp only[BD,List.length_map,List.length_range];rw[Sz T a.toNat c.toNat hc.1];simp
   case isFalse hc=>simp at h
 ·unfold rd at h;rw[if_neg hw]at h;simp at h
theorem Pe{t:Zi}{a:Zl}{b:Int}(h:AK t a b=true):rd (AE (BD t a)) b=(t,a,true):=by
 have p:=BB h;have d:∀s∈a,s.size=b.toNat:=fun s j=>by obtain⟨i,f⟩:=List.getElem?_of_mem j;have:=p.size f;omega
 have g:(UInt8.ofNat a.length).toNat=a.length:=by have:=p.refs;simp;omega
 have c:(flat a).length=a.length *b.toNat:=by rw[Dg,p.aq]
 unfold BD;rw[rd_mk _ _ b p.lo p.hi,g,SA a t.data.toList b.toNat d];have e:(flat a++t.data.toList).drop (a.length *b.toNat)=t.data.toList:=by rw[←c,List.drop_left]
 rw[e,Wm,if_pos ⟨by rw[List.length_append,c];omega,h⟩]
theorem SB(a b:Zk)(c d:Nat)(f g:Zl)(left:Int)(w:Zh)(l:Ad w w.heap.size a f)(k:Ad w w.heap.size b g)
 (m:left<=1048576) (j:(f.length:Int)+aq f+g.length+aq g<=left):
 Calls prog 17 #[.agg #[.slice a f.length c,.slice b g.length d],Zg left] w fun e i=>e=.returned (Zg (left -f.length -aq f -g.length -aq g))/\Zz w i:=by
 have h:Below w.heap.size w (w.alloc (.cells #[.slice a f.length c,.slice b g.length d] 24)):=Zy;go_enter func17,ntmps17;go_wp2_with fail;refine(Ik a c f _ _ w.heap.size (l.below h) (by omega) (by omega)).mono ?_;rintro e i ⟨rfl,rfl⟩;go_wp2_with fail;refine(Ik b d g _ _ w.heap.size (k.below h) (by omega) (by omega)).mono ?_;rintro e i ⟨rfl,rfl⟩;go_wp2;go_ret;exact⟨rfl,h⟩
theorem Uv(a b:Zk)(c d:Nat)(f g:Zl)(left:Int)(w:Zh)(j:Ad w w.heap.size a f)(o:Ad w w.heap.size b g)
 (n:f.length<=maxLen) (p:∀s∈f,s.size<=maxLen) (k:g.length<=maxLen) (l:∀s∈g,s.size<=maxLen)
 (q:0<=left) (r:left<=1048576) (m:left<(f.length:Int)+aq f+g.length+aq g):
 Calls prog 17 #[.agg #[.slice a f.length c,.slice b g.length d],Zg left] w fun e i=>e=.returned (Zg (-1))/\Zz w i:=by
 have h:Below w.heap.size w (w.alloc (.cells #[.slice a f.length c,.slice b g.length d] 24)):=Zy;by_cases hn:left<(f.length:Int)+aq f
 ·go_enter func17,ntmps17;go_wp2_with fail;refine(KB a c f _ _ w.heap.size (j.below h) n p (by omega) (by omega) (by omega)).mono ?_;rintro e i ⟨rfl,rfl⟩;go_wp2;go_ret;exact⟨rfl,h⟩
 ·go_enter func17,ntmps17;go_wp2_with fail;refine(Ik a c f _ _ w.heap.size (j.below h) (by omega) (by omega)).mono ?_;rintro e i ⟨rfl,rfl⟩;go_wp2_with fail;refine(KB b d g _ _ w.heap.size (o.below h) k l (by omega) (by omega) (by omega)).mono ?_;rintro e i ⟨rfl,rfl⟩;go_wp2;go_ret;exact⟨rfl,h⟩
theorem SC(a b:Zk)(c d:Nat)(f l:Zl)(w:Zh)(P:Ad w w.heap.size a f)(O:Ad w w.heap.size b l)(N:f.length<=1048576)(K:l.length<=1048576):
 Calls prog 23 #[.agg #[.slice a f.length c,.slice b l.length d]] w fun e D=>∃g k,e=.returned (.agg #[Za g f.length f.length,Za k l.length l.length])/\w.heap.size<=g/\g<k/\
  D.ownsRow w.heap.size 9 1 (Za g f.length f.length) f.length (f.map Value.string)/\
  D.ownsRow w.heap.size 9 1 (Za k l.length l.length) l.length (l.map Value.string)/\Zz w D:=by
 have B:Below w.heap.size w (((w.alloc (.cells #[.slice a f.length c,.slice b l.length d] 24)).alloc (.cells #[Zc,Zc] 38)).alloc (.cells #[Zc,Zc] 38)):=((Zy).alloc (by simp) _).alloc (by simp;omega) _;go_enter func23,ntmps23;go_wp2_with fail;refine(Il a c f _ (P.af B) N).mono ?_;rintro e H ⟨g,rfl,L,n,u⟩;have I:=B.trans (u.mono (by simp;omega));obtain⟨r,C⟩:=JC u;have Q:=u.size;simp at Q L
 go_wp2_with fail;obtain⟨m,j⟩:∃m,m=H.setCell (Ze (w.heap.size+1+1) 0) (Za g f.length f.length):=⟨_,rfl⟩;have z:Below w.heap.size w m:=by rw[j];exact I.setCell (by simp;omega) _
 have T:m.heap.size=H.heap.size:=by rw[j];simp
 have A:m.ownsRow (w.heap.size+1) 9 1 (Za g f.length f.length) f.length (f.map Value.string):=by rw[j];exact(ownsRow_setCell_below n (by simp) _).mono (by simp)
 have x:m.cell? (Ze (w.heap.size+1+1) 0)=some (Za g f.length f.length):=by rw[j];simp[go_sem,r]
 have y:m.cell? (Ze (w.heap.size+1+1) 1)=some Zc:=by rw[j];simp[go_sem,r]
 have s:m.cell? (Ze (w.heap.size+1) 0)=some Zc:=by rw[j];simp[go_sem,r]
 have t:m.cell? (Ze (w.heap.size+1) 1)=some Zc:=by rw[j];simp[go_sem,r]
 have G:∀o,m.frozen? ⟨w.heap.size+1+1,o,none⟩=false:=fun o=>by rw[j];simp[go_sem,C]
 have F:∀o,m.frozen? ⟨w.heap.size+1,o,none⟩=false:=fun o=>by rw[j];simp[go_sem,C]
 rw[←j];clear j n u r C;refine(Il b d l _ (O.af z) K).mono ?_;rintro e E ⟨k,rfl,U,q,h⟩;have S:=h.size;replace x:=(h.cell (p:=⟨w.heap.size+1+1,0,none⟩) (by simp;omega)).trans x;replace y:=(h.cell (p:=⟨w.heap.size+1+1,1,none⟩) (by simp;omega)).trans y;replace s:=(h.cell (p:=⟨w.heap.size+1,0,none⟩) (by simp;omega)).trans s;replace t:=(h.cell (p:=⟨w.heap.size+1,1,none⟩) (by simp;omega)).trans t
 replace G:∀o,E.frozen? ⟨w.heap.size+1+1,o,none⟩=false:=fun o=>(h.frozen (p:=⟨w.heap.size+1+1,o,none⟩) (by simp;omega)).trans (G o);replace F:∀o,E.frozen? ⟨w.heap.size+1,o,none⟩=false:=fun o=>(h.frozen (p:=⟨w.heap.size+1,o,none⟩) (by simp;omega)).trans (F o);have R:=(A.lt g rfl).2
 have J:E.ownsRow (w.heap.size+1) 9 1 (Za g f.length f.length) f.length (f.map Value.string):=A.kept (row:=none) ⟨h.os,h.tape,h.output,h.size,fun i M _=>h.block i M⟩ (.inr (by simp[Value.ownBlock]));go_wp2;refine bodyPost_ret (v:=.agg #[Za g f.length f.length,Za k l.length l.length]) (by simp[results,results23,go_sem,s,t]) rfl ⟨g,k,rfl,by omega,by omega,?_,?_,?_⟩
 ·refine(ownsRow_setCell_other (ownsRow_setCell_other (ownsRow_setCell_other J ?_ _) ?_ _) ?_ _).mono (by omega)<;>(simp[Value.ownBlock];omega)
 ·refine(ownsRow_setCell_other (ownsRow_setCell_other (ownsRow_setCell_other q ?_ _) ?_ _) ?_ _).mono (by omega)<;>(simp[Value.ownBlock];omega)
 ·exact(z.trans (h.mono (by omega))).setCell (by simp;omega) _|>.setCell (by simp) _|>.setCell (by simp) _
def DA(ss tt:Zl):Bool:=decide (ss.length+tt.length<=4000)&&(ss++tt).all (fun s=>decide (s.size<=5000))
def Dx(ss:Zl):Bool:=ss.all (fun s=>decide (s.size<=5000))
theorem Km(a b:Zl):DA a b=(decide (a.length+b.length<=4000)&&(Dx a&&Dx b)):=by simp[DA,Dx]
theorem Jk(a:Zl)(k:Nat)(s:Zi)(h:a[k]?=some s):Dx (a.take (k+1))=(Dx (a.take k)&&decide (s.size<=5000)):=by obtain⟨b,rfl⟩:=Zw h;unfold Dx;rw[Zu b,List.all_append,List.all_cons,List.all_nil,Bool.and_true]
theorem ID(a:Zl)(k:Nat)(s:Zi)(h:a[k]?=some s)(b:5000<s.size):Dx a=false:=by simp only[Dx,List.all_eq_false];exact⟨s,Zs h,by simp;omega⟩
theorem MR(a b:Zk)(c d:Nat)(f g:Zl)(w:Zh)(B:Nat)(G:B<=w.heap.size)(C:Ad w B a f)(A:Ad w B b g)(I:f.length<=1048576)(F:g.length<=1048576)
 (v:∀s∈f,s.size<=1048576) (r:∀s∈g,s.size<=1048576):
 Calls prog 70 #[.agg #[.slice a f.length c,.slice b g.length d]] w fun e D=>e=.returned (.bool (DA f g))/\Zz w D:=by
 have l:Below w.heap.size w (w.alloc (.cells #[.slice a f.length c,.slice b g.length d] 38)):=Zy;go_enter func70,ntmps70;go_wp2
 go_loop [3] (fun i=>∃k:Nat,k<=f.length/\i=Zg k/\Dx (f.take k)=true) (fun i=>f.length -(intOf i).toNat)
 case atStart=>exact⟨0,Nat.zero_le _,rfl,by simp[Dx]⟩
 case round=>
  obtain⟨k,H,rfl,q⟩:=hrel;by_cases hlt:k<f.length
  ·obtain⟨p,t,u,z,m⟩:=C.at hlt;subst u;have x:=(l.cell (p:=⟨p,t+k,none⟩) (by simp;omega)).trans (m k f[k] (Zv hlt));have n:Hid (Dx (f.take (k+1))=(Dx (f.take k)&&decide (f[k].size<=5000))):=Jk f k _ (Zv hlt);have o:Hid (5000<f[k].size->Dx f=false):=ID f k _ (Zv hlt);have y:=v f[k] (List.getElem_mem hlt);clear m v r;generalize f[k]=s at *
   by_cases hbig:5000<s.size
   ·go_wp2;go_ret;exact⟨by rw[Km,o.o hbig];simp,l⟩
   ·go_wp2;refine⟨⟨k+1,by omega,by go_num,?_⟩,by simp[intOf];omega⟩;rw[n.o,q];simp;omega
  ·rw[Zt (by omega)]at q;go_wp2
   go_loop [4] (fun i=>∃k:Nat,k<=g.length/\i=Zg k/\Dx (g.take k)=true) (fun i=>g.length -(intOf i).toNat)
   case atStart=>exact⟨0,Nat.zero_le _,rfl,by simp[Dx]⟩
   case round=>
    obtain⟨h,E,rfl,j⟩:=hrel;by_cases hlt2:h<g.length
    ·obtain⟨p,t,u,z,m⟩:=A.at hlt2;subst u;have x:=(l.cell (p:=⟨p,t+h,none⟩) (by simp;omega)).trans (m h g[h] (Zv hlt2));have n:Hid (Dx (g.take (h+1))=(Dx (g.take h)&&decide (g[h].size<=5000))):=Jk g h _ (Zv hlt2);have o:Hid (5000<g[h].size->Dx g=false):=ID g h _ (Zv hlt2);have y:=r g[h] (List.getElem_mem hlt2);clear m v r;generalize g[h]=s at *
     by_cases hbig:5000<s.size
     ·go_wp2;go_ret;exact⟨by rw[Km,o.o hbig];simp,l⟩
     ·go_wp2;refine⟨⟨h+1,by omega,by go_num,?_⟩,by simp[intOf];omega⟩;rw[n.o,j];simp;omega
    ·rw[Zt (by omega)]at j;go_wp2;go_ret;refine⟨?_,l⟩;rw[Km,q,j];simp;omega
theorem SD(a b h i:Zk)(c d l o:Nat)(f g:Zl)(w:Zh)(v:Ad w w.heap.size a f)(u:Ad w w.heap.size b g)(s:Ad w w.heap.size h f)(r:Ad w w.heap.size i g)
 (t:f.length<=1048576) (q:g.length<=1048576):
 Calls prog 29 #[.agg #[.slice a f.length c,.slice b g.length d],.agg #[.slice h f.length l,.slice i g.length o]] w fun e p=>e=.returned (.bool true)/\Zz w p:=by
 have j:Below w.heap.size w ((w.alloc (.cells #[.slice a f.length c,.slice b g.length d] 38)).alloc (.cells #[.slice h f.length l,.slice i g.length o] 38)):=(Zy).alloc (by simp) _;go_enter func29,ntmps29;go_wp2_with fail;refine(Im a h c l f _ _ _ (v.below j) (s.below j) t).mono ?_;rintro e p ⟨rfl,n,rfl⟩;have k:=Cf j n;go_wp2_with fail;refine(Im b i d o g _ _ _ (u.below k) (r.below k) q).mono ?_
 rintro e p ⟨rfl,m,rfl⟩;go_wp2;go_ret;exact⟨rfl,Cf j (n+m)⟩
theorem Pf(a b:Zk)(n m c d k:Nat)(w:Zh)(r:Ad w w.heap.size a (marks k n))(s:Ad w w.heap.size b (marks (k+n) m))(t:1<=k)(v:k+n+m<=100000000):
 Calls prog 62 #[.agg #[.slice a n c,.slice b m d],Zg k] w fun e u=>e=.returned (Zg (k+n+m))/\Zz w u:=by
 have j:Below w.heap.size w (w.alloc (.cells #[.slice a n c,.slice b m d] 38)):=Zy;have x:¬((k:Int)+n<0):=by omega
 have q:¬((k:Int)+n+m<0):=by omega
 go_enter func62,ntmps62;go_wp2_with fail;refine(Gk a n c k w.heap.size _ (r.below j) (by simp) t (by omega)).mono ?_;rintro e l ⟨rfl,h⟩;have g:=j.trans (h.mono (by simp));have i:l.cell? (Ze (w.heap.size) 1)=some (.slice b m d):=by rw[h.cell (p:=⟨w.heap.size,1,none⟩) (by simp)];simp
 have f:=Gk b m d (k+n) w.heap.size l (s.below g) g.size (by omega) (by omega);rw[show((k+n:Nat):Int)=(k:Int)+n from by omega]at f;go_wp2_with fail;refine f.mono ?_;rintro e y ⟨rfl,o⟩;go_wp2;go_ret;exact⟨rfl,g.trans (o.mono g.size)⟩
section
open Go.RowKit
def Bu:Obj->Bool
 |.cells _ t _=> !(t==9||t==191||t==142||t==144)
 |_=>true
structure BA (B:Nat) (W W':Zh):Prop where
 size:W.heap.size<=W'.heap.size
 same:∀b o,B<=b->W.heap[b]?=some o->Bu o=true->W'.heap[b]?=some o
theorem BA.refl(B:Nat)(W:Zh):BA B W W:=⟨Zx,fun _ _ _ h _=>h⟩
theorem BA.trans{B:Nat}{X Y Z:Zh}(h:BA B X Y)(k:BA B Y Z):BA B X Z:=⟨Zm h.size k.size,fun b o a d c=>k.same b o a (h.same b o a d c) c⟩
theorem BA.mono{B B':Nat}{W a:Zh}(h:BA B W a)(c:B<=B'):BA B' W a:=⟨h.size,fun b o d=>h.same b o (by omega)⟩
def Co(B:Nat)(J:Nat->Zh->Prop):Prop:=
 ∀k W W' row,J k W->W.grownBy W' row->(∀r,row=some r->B<=r/\∃o,W.heap[r]?=some o/\Bu o=true)->J k W'
theorem Co.mono{B B':Nat}{J:Nat->Zh->Prop}(h:Co B J)(c:B<=B'):Co B' J:=
 fun k W b row f d a=>h k W b row f d (fun r e=>⟨Zm c (a r e).1,(a r e).2⟩)
theorem Co.putObj{B:Nat}{J:Nat->Zh->Prop}(h:Co B J){k:Nat}{W:Zh}{l:Nat}{o:Obj}(a:Obj)(c:J k W)(b:B<=l)(d:W.heap[l]?=some o)(f:Bu o=true):J k (W.putObj l a):=
 h k W _ (some l) c (grownBy_putObj' W l a) (fun r e=>by cases e;exact⟨b,o,d,f⟩)
theorem Co.alloc{B:Nat}{J:Nat->Zh->Prop}(h:Co B J){k:Nat}{W:Zh}(o:Obj)(b:J k W):J k (W.alloc o):=
 h k W _ none b ⟨rfl,rfl,rfl,by simp,fun i a _=>Below.heap_alloc W o i a⟩ (fun r e=>by cases e)
def Fe(P:Program)(gf:Nat)(ar:Nat->Array Value)(xs:Zl)(n0:Nat)(w:Zh):Prop:=
 ∀(l:Nat) (J Jx:Nat->Zh->Prop) (W:Zh),Zz w W->Co W.heap.size J->Co W.heap.size Jx->
  (∀k W1 s,xs[k]?=some s->J k W1->W.heap.size<=W1.heap.size->∀m,YieldAt Fence.wide m P l #[.string s] W1 fun e W'=>
    BA W.heap.size W1 W'/\((e=.returned (.bool true)/\J (k+1) W'/\Below n0 W1 W')∨(e=.returned (.bool false)/\Jx (k+1) W')))->
  J 0 W->∀m,CallsIn Fence.wide m P gf (ar l) W fun e W'=>(∃v,e=.returned v)/\(J xs.length W'∨∃k,Jx k W')
def XQ(n0 B:Nat)(I:Nat->Zh->Prop)(Ix:Nat->Zh->Prop)(k:Nat)(W:Zh):Exit->Act->Zh->Prop
 |.normal,_,W'=>BA B W W'/\I (k+1) W'/\Below n0 W W'
 |.ret,_,W'=>BA B W W'/\Ix (k+1) W'
 |_,_,_=>False
theorem GY{P:Program}{n:Nat}{g:Operand}{ps:Array Tmp}{assign body:Code}{Q:Exit->Act->Zh->Prop}{a:Act}{w:Zh}
 {gf:Nat} {pre lb:Array Value} (hg:a.eval g=.func (.func gf) pre lb) (eg:∀args w,(callFunc gf args).run P w=.ok (.enter gf args) w)
 {xs:Zl} {n0:Nat} (zA:Fe P gf (fun l=>pre++ #[.func (.yield l) #[] #[]]++lb) xs n0 w) (zU:n0<=w.heap.size) (zP:ps.size=1)
 (I Y:Nat->Zh->Prop) (G:Co w.heap.size I) (R:Co w.heap.size Y) (h0:I 0 w) (a1:Zi->Act)
 (C:∀(l m:Nat) (s:Zi) (W:Zh) (K:Act->Zh->Prop),K (a1 s) W->
   assign.wpIn (Fence.wide.inRound l) m P (Exit.then K (fun _ _ _=>False)) {tmps:=(ps.zip #[.string s]).foldl (fun t (p,v)=>t.setIfInBounds p v) a.tmps,defers:=[]} W)
 (M:∀(l m k:Nat) (s:Zi) (W:Zh),xs[k]?=some s->I k W->w.heap.size+2<=W.heap.size->body.wpIn (Fence.wide.inRound l) m P (XQ n0 w.heap.size I Y k W) (a1 s) W)
 (N:∀(D:Nat) (W:Zh),w.heap.size<=D->I xs.length W->W.heap[D]?=some (.deferred (some []))->Q .normal {a with defers:={target:=.collected D,args:= #[]}::a.defers} W)
 (O:∀(D k:Nat) (W:Zh),w.heap.size<=D->Y k W->W.heap[D]?=some (.deferred (some []))->Code.ret.wpIn Fence.wide n P Q {a with defers:={target:=.collected D,args:= #[]}::a.defers} W):
 (Code.rangeFunc g ps assign body).wpIn Fence.wide n P Q a w:=by
 refine wpIn_rangeFunc ?_;intro fn zK;obtain⟨c,d⟩:∃c:LoopState->Option Code->Loop,c=fun st pe=>{state:=st,pending:=pe,fn,tmps:=a.tmps,params:=ps,assign,body,defers:=w.heap.size}:=⟨_,rfl⟩;obtain⟨V,H⟩:∃V,V=(w.alloc (.deferred (some []))).alloc (.loop (c .ready none)):=⟨_,rfl⟩;have zT:V.heap.size=w.heap.size+2:=by rw[H];simp
 have zH:V.heap[w.heap.size+1]?=some (.loop (c .ready none)):=by have:=World.alloc_heap_new (w.alloc (.deferred (some []))) (.loop (c .ready none));rw[World.size_alloc]at this;rw[H];exact this
 have zG:V.heap[w.heap.size]?=some (.deferred (some [])):=by rw[H];exact(Below.heap_alloc _ _ _ (by simp)).trans (World.alloc_heap_new w _)
 have zF:Below w.heap.size w V:=by rw[H];exact((Below.refl _ w).alloc (Zx) _).alloc (by simp) _
 have zE:I 0 V:=by rw[H];exact G.alloc _ (G.alloc _ h0)
 refine⟨w.heap.size+1,[{target:=.collected w.heap.size,args:= #[]}],V,{target:=.fn (.func gf) lb,args:=pre++ #[.func (.yield (w.heap.size+1)) #[] #[]]},V,gf,
  pre++ #[.func (.yield (w.heap.size+1)) #[] #[]]++lb,V,?_,?_,fun _ _=>trivial,?_,fun h=>by simp[Fence.wide]at h,?_⟩
 ·rw[H,d];exact run_enterLoop_outer _ _ _ _ _
 ·simp only[resolve,hg];simp[go_sem]
 ·simp[invoke,go_sem,eg]
 ·have zB:∀{A:Zh} {row:Option Nat},(∀r,row=some r->V.heap.size<=r/\∃o:Obj,A.heap[r]?=some o/\Bu o=true)->(∀r,row=some r->w.heap.size<=r/\∃o:Obj,A.heap[r]?=some o/\Bu o=true):=
   fun j r e=>⟨by have:=(j r e).1;omega,(j r e).2⟩
  have f:∀{A B:Zh} {row:Option Nat} {k:Nat} {o:Obj},A.grownBy B row->(∀r,row=some r->V.heap.size<=r/\∃o:Obj,A.heap[r]?=some o/\Bu o=true)->k<V.heap.size->A.heap[k]?=some o->B.heap[k]?=some o:=
   fun {A B row k o} q j J Z=>(q.block k (Array.getElem?_eq_some_iff.1 Z).1 (fun e=>by have:=(j k e.symm).1;omega)).trans Z
  refine(zA (w.heap.size+1)
   (fun k W=>I k W/\W.heap[w.heap.size+1]?=some (.loop (c .ready none))/\W.heap[w.heap.size]?=some (.deferred (some [])))
   (fun k W=>Y k W/\W.heap[w.heap.size+1]?=some (.loop (c .done (some .ret)))/\W.heap[w.heap.size]?=some (.deferred (some [])))
   V zF
   (fun s A B row F q j=>⟨G s A B row F.1 q (zB j),f q j (by omega) F.2.1,f q j (by omega) F.2.2⟩)
   (fun s A B row F q j=>⟨R s A B row F.1 q (zB j),f q j (by omega) F.2.1,f q j (by omega) F.2.2⟩)
   ?_ ⟨zE,zH,zG⟩ _).mono ?_
  ·rintro k W s zR ⟨E,z,J⟩ zS m;have zO:w.heap.size+1<W.heap.size:=(Array.getElem?_eq_some_iff.1 z).1;have hy:=run_yield (P:=P) (args:= #[.string s]) z (by rw[d];exact zP.symm);rw[d]at hy;refine⟨fn,_,assign,body,hy,roundIn_of_wpIn zK (C _ _ s W _ ?_)⟩;clear hy;refine⟨_,run_beginRound z (by rw[d]),?_⟩
   have zN:(W.putObj (w.heap.size+1) (.loop {c .ready none with state:=.busy})).heap[w.heap.size+1]?=some (.loop {c .ready none with state:=.busy}):=World.putObj_heap_same zO;have zM:(W.putObj (w.heap.size+1) (.loop {c .ready none with state:=.busy})).heap[w.heap.size]?=some (.deferred (some [])):=(World.putObj_heap_other (by omega)).trans J
   refine wpIn_mono (M _ _ k s _ zR (G.putObj _ E (by omega) z rfl) (by rw[World.putObj_size];omega)) ?_;have fin:∀(jump:Option Code) (u:Zh),BA w.heap.size (W.putObj (w.heap.size+1) (.loop {c .ready none with state:=.busy})) u->
    (Instr.endRound (w.heap.size+1) jump).run P u=.ok (.bool jump.isNone) (u.putObj (w.heap.size+1) (.loop (c (if jump.isNone then .ready else .done) jump)))/\
    u.heap[w.heap.size+1]?=some (.loop {c .ready none with state:=.busy})/\
    (u.putObj (w.heap.size+1) (.loop (c (if jump.isNone then .ready else .done) jump))).heap[w.heap.size+1]?=some (.loop (c (if jump.isNone then .ready else .done) jump))/\
    (u.putObj (w.heap.size+1) (.loop (c (if jump.isNone then .ready else .done) jump))).heap[w.heap.size]?=some (.deferred (some []))/\
    BA V.heap.size W (u.putObj (w.heap.size+1) (.loop (c (if jump.isNone then .ready else .done) jump))):=fun jump u x=>by
    have y:=x.same _ _ (by omega) zN rfl;have:=run_endRound (P:=P) jump y;have zC:BA V.heap.size W (u.putObj (w.heap.size+1) (.loop (c (if jump.isNone then .ready else .done) jump))):=by refine⟨by have:=x.size;rw[World.putObj_size]at this ⊢;exact this,fun b o hb Z hn=> ?_⟩;rw[World.putObj_heap_other (by omega)];exact x.same b o (by omega) ((World.putObj_heap_other (by omega)).trans Z) hn
    refine⟨?_,y,World.putObj_heap_same (Array.getElem?_eq_some_iff.1 y).1,(World.putObj_heap_other (by omega)).trans (x.same _ _ (Zx) zM rfl),zC⟩;rw[d]at this ⊢;exact this
   rintro e a3 u L;have zI:∀o,Below n0 W (W.putObj (w.heap.size+1) o):=fun o=>⟨rfl,rfl,rfl,by simp,fun i E=>World.putObj_heap_other (by omega)⟩;cases e with
   |normal=>obtain⟨x,S,zJ⟩:=L;obtain⟨j,y,X,T,U⟩:=fin none u x;exact⟨_,_,j,U,.inl ⟨rfl,⟨G.putObj _ S (by omega) y rfl,X,T⟩,((zI _).trans zJ).trans ⟨rfl,rfl,rfl,by simp,fun i E=>World.putObj_heap_other (by omega)⟩⟩⟩
   |ret=>obtain⟨x,S⟩:=L;obtain⟨j,y,X,T,U⟩:=fin (some .ret) u x;exact⟨_,_,j,U,.inr ⟨rfl,R.putObj _ S (by omega) y rfl,X,T⟩⟩
   |exit id=>exact L.elim
   |goto t=>exact L.elim
   |panic ch=>exact L.elim
   |outgrown=>exact L.elim
  ·rintro e W2 ⟨⟨v,rfl⟩,(⟨E,z,J⟩|⟨k,E,z,J⟩)⟩
   ·exact⟨none,_,by have:=run_endLoop (P:=P) z (by rw[d];simp);rw[d]at this;exact this,N _ _ (Zx) (G.putObj _ E (by omega) z rfl) ((World.putObj_heap_other (by omega)).trans J)⟩
   ·exact⟨some .ret,_,by have:=run_endLoop (P:=P) z (by rw[d];simp);rw[d]at this;exact this,O _ k _ (Zx) (R.putObj _ E (by omega) z rfl) ((World.putObj_heap_other (by omega)).trans J)⟩
end
section
open Go.RowKit
attribute [local go_sem] Oper.semAt_some
theorem Mt(a:Zk)(v:Nat)(c:Zl)(g:Nat)(w:Zh)(f:Ad w g a c)(o:g<=w.heap.size)(E:c.length<=maxLen):
 Fe prog 128 (fun l=> #[.agg #[.slice a c.length v],.func (.yield l) #[] #[]]) c g w:=by
 intro l J I W r A F t z m;unfold maxLen at E;have d:=f.below (r.mono o);refine callsIn_of_wp func128 rfl trivial ?_ rfl;simp only[ntmps128,List.size_toArray,List.length_cons,List.length_nil,Nat.reduceAdd,Nat.reduceSub,Array.replicate_succ,Array.replicate_zero,List.push_toArray,List.append_toArray,List.nil_append,List.cons_append]
 gi_wp2
 gi_loopw [9] (fun i wr=>∃k:Nat,k<=c.length/\i=Zg k/\J k wr/\Below g W wr/\W.heap.size<=wr.heap.size)
  (fun i _=>c.length -(intOf i).toNat)
 case atStart=>exact⟨0,Nat.zero_le _,rfl,A.alloc _ z,(Below.refl _ _).alloc (Zm o r.size) _,by simp⟩
 case round=>
  obtain⟨k,N,rfl,n,p,q⟩:=hrel;by_cases hlt:k<c.length
  ·obtain⟨b,H,D,M,u⟩:=(d.below p).at hlt;subst D;have G:=u k c[k] (Zv hlt);obtain⟨L,tmps,assign,body,O,C⟩:=t k wr c[k] (Zv hlt) n q (m -1);clear u f d t;generalize c[k]=s at *
   gi_wp2
   refine⟨fun h=>by simp[Fence.wide]at h,C.mono ?_⟩;rintro e K ⟨B,(⟨rfl,x,y⟩|⟨rfl,j⟩)⟩
   ·gi_wp2
    go_roundw
    case rel=>exact⟨k+1,by omega,by simp,x,p.trans y,Zm q B.size⟩
    case measure=>simp[intOf];omega
   ·gi_wp2
    refine bodyPost_ret (results_none rfl _ _ _) rfl ?_;exact⟨⟨_,rfl⟩,.inr ⟨_,j⟩⟩
  ·obtain rfl:k=c.length:=by omega
   gi_wp2
   go_end0
   exact⟨⟨_,rfl⟩,.inl n⟩
theorem Mu(v:Value)(a:Zk)(x:Nat)(c:Zl)(g:Nat)(w:Zh)(f:Ad w g a c)(o:g<=w.heap.size)(F:c.length<=maxLen):
 Fe prog 129 (fun l=> #[.agg #[v,.slice a c.length x],.func (.yield l) #[] #[]]) c g w:=by
 intro l J K W r B G t A m;unfold maxLen at F;have d:=f.below (r.mono o);refine callsIn_of_wp func129 rfl trivial ?_ rfl;simp only[ntmps129,List.size_toArray,List.length_cons,List.length_nil,Nat.reduceAdd,Nat.reduceSub,Array.replicate_succ,Array.replicate_zero,List.push_toArray,List.append_toArray,List.nil_append,List.cons_append]
 gi_wp2
 gi_loopw [9] (fun i wr=>∃k:Nat,k<=c.length/\i=Zg k/\J k wr/\Below g W wr/\W.heap.size<=wr.heap.size)
  (fun i _=>c.length -(intOf i).toNat)
 case atStart=>exact⟨0,Nat.zero_le _,rfl,B.alloc _ A,(Below.refl _ _).alloc (Zm o r.size) _,by simp⟩
 case round=>
  obtain⟨k,O,rfl,n,p,q⟩:=hrel;by_cases hlt:k<c.length
  ·obtain⟨b,I,E,N,u⟩:=(d.below p).at hlt;subst E;have H:=u k c[k] (Zv hlt);obtain⟨M,tmps,assign,body,P,D⟩:=t k wr c[k] (Zv hlt) n q (m -1);clear u f d t;generalize c[k]=s at *
   gi_wp2
   refine⟨fun h=>by simp[Fence.wide]at h,D.mono ?_⟩;rintro e L ⟨C,(⟨rfl,y,z⟩|⟨rfl,j⟩)⟩
   ·gi_wp2
    go_roundw
    case rel=>exact⟨k+1,by omega,by simp,y,p.trans z,Zm q C.size⟩
    case measure=>simp[intOf];omega
   ·gi_wp2
    refine bodyPost_ret (results_none rfl _ _ _) rfl ?_;exact⟨⟨_,rfl⟩,.inr ⟨_,j⟩⟩
  ·obtain rfl:k=c.length:=by omega
   gi_wp2
   go_end0
   exact⟨⟨_,rfl⟩,.inl n⟩
end
section
open Go.RowKit
attribute [local go_sem] Oper.semAt_some
theorem Co.and{B:Nat}{J K:Nat->Zh->Prop}(h:Co B J)(k:Co B K):Co B (fun n W=>J n W/\K n W):=
 fun n W a row c b d=>⟨h n W a row c.1 b d,k n W a row c.2 b d⟩
theorem DH{B c:Nat}(w:Zh)(i:c<=w.heap.size)(h:c<=B):Co B (fun _ W=>Below c w W):=
 fun _ W g row a b f=>⟨b.os.trans a.os,b.tape.trans a.tape,b.output.trans a.output,Zm a.size b.size,fun k d=>
  (b.block k (by have:=a.size;omega) (fun e=>by have:=(f k e.symm).1;omega)).trans (a.block k d)⟩
theorem CV{B b:Nat}(o:Obj)(g:b<B):Co B (fun _ W=>W.heap[b]?=some o):=
 fun _ W f row a c d=>(c.block b (Array.getElem?_eq_some_iff.1 a).1 (fun e=>by have:=(d b e.symm).1;omega)).trans a
theorem NW(a j:Zk)(c b:Nat)(d g:Zl)(n0:Nat)(w:Zh)(L:Ad w n0 a d)(z:Ad w n0 j g)(H:n0<=w.heap.size)(hl:d.length<=maxLen)(zE:g.length<=maxLen):
 Fe prog 99 (fun l=> #[.agg #[.slice a d.length c,.slice j g.length b],.func (.yield l) #[] #[]]) (d++g) n0 w:=by
 intro l J T W Q v t U h0 m;refine callsIn_of_wp_marks func99 rfl trivial ?_ rfl;simp only[ntmps99,List.size_toArray,List.length_cons,List.length_nil,Nat.reduceAdd,Nat.reduceSub,Array.replicate_succ,Array.replicate_zero,List.push_toArray,List.append_toArray,List.nil_append,List.cons_append]
 gi_wp2
 have zA:=Zm H Q.size;obtain⟨q,p⟩:∃q,q=(W.alloc (.cells #[.slice a d.length c,.slice j g.length b] 153)).alloc (.cells #[.func (.yield l) #[] #[]] 130):=⟨_,rfl⟩;have zN:q.heap.size=W.heap.size+2:=by rw[p];simp
 have zC:q.heap[W.heap.size]?=some (.cells #[.slice a d.length c,.slice j g.length b] 153):=by rw[p];exact(Below.heap_alloc _ _ _ (by simp)).trans (World.alloc_heap_new _ _)
 have zI:q.heap[W.heap.size+1]?=some (.cells #[.func (.yield l) #[] #[]] 130):=by rw[p];have:=World.alloc_heap_new (W.alloc (.cells #[.slice a d.length c,.slice j g.length b] 153)) (.cells #[.func (.yield l) #[] #[]] 130);rwa[World.size_alloc]at this
 have N:Below n0 W q:=by rw[p];exact((Below.refl _ W).alloc zA _).alloc (by simp;omega) _
 have Z:J 0 q:=by rw[p];exact v.alloc _ (v.alloc _ h0)
 rw[←p];clear p;have zF:=(L.below (Q.mono H)).below N;have zG:=(z.below (Q.mono H)).below N;refine GY (gf:=128) (pre:= #[.agg #[.slice a d.length c]]) (lb:= #[]) rfl (enters_of func128 (by kernel_rfl) rfl) (xs:=d) (n0:=n0)
  (by simpa using Mt a c d n0 q zF (by omega) hl) (by omega) rfl
  (fun k V=>J k V/\Below n0 q V/\V.heap[W.heap.size]?=some (.cells #[.slice a d.length c,.slice j g.length b] 153)/\V.heap[W.heap.size+1]?=some (.cells #[.func (.yield l) #[] #[]] 130))
  T ((v.mono (by omega)).and ((DH q (by omega) (by omega)).and ((CV _ (by omega)).and (CV _ (by omega))))) (t.mono (by omega))
  ⟨Z,Below.refl _ _,zC,zI⟩ (fun s=>{tmps:= #[.agg #[.slice a d.length c,.slice j g.length b],.func (.yield l) #[] #[],Yz W.heap.size,Yz (W.heap.size+1),.string s,undef,
   Yz W.heap.size,.agg #[.slice a d.length c],.func (.func 128) #[.agg #[.slice a d.length c]] #[],.string s,undef,undef,undef,undef,undef,undef,undef,undef,undef,undef,undef],defers:=[]}) ?assign ?body ?done ?stop
 case assign=>
  intro A B s V K f
  gi_wp2
  exact f
 case body=>
  rintro A B k s V I ⟨o,E,x,n⟩ zH;obtain⟨fn,tmps,assign,body,hy,P⟩:=U k V s (by rw[List.getElem?_append_left (Zw I).1];exact I) o (by omega) (B -1);have zB:V.cell? (Ze (W.heap.size+1) 0)=some (.func (.yield l) #[] #[]):=by simp[World.cell?,n]
  gi_wp2
  refine⟨fun h=>by simp[Fence.wide]at h,RoundIn.mono (F:=Fence.wide.inRound A) P ?_⟩;rintro e V3 ⟨i,(⟨rfl,C,y⟩|⟨rfl,r⟩)⟩
  ·gi_wp2
   exact⟨i.mono (by omega),⟨C,E.trans y,i.same _ _ (by omega) x rfl,i.same _ _ (by omega) n rfl⟩,y⟩
  ·gi_wp2
   exact⟨i.mono (by omega),r⟩
 case done=>
  rintro D V hD ⟨o,E,x,n⟩ f;have zK:V.cell? (Ze (W.heap.size) 0)=some (.slice a d.length c):=by simp[World.cell?,x]
  have zM:V.cell? (Ze (W.heap.size) 1)=some (.slice j g.length b):=by simp[World.cell?,x]
  gi_wp2
  have M:=(Array.getElem?_eq_some_iff.1 f).1;have zJ:=(Array.getElem?_eq_some_iff.1 n).1;refine GY (gf:=129) (pre:= #[.agg #[.slice a d.length c,.slice j g.length b]]) (lb:= #[]) rfl (enters_of func129 (by kernel_rfl) rfl) (xs:=g) (n0:=n0)
   (by simpa using Mu (.slice a d.length c) j b g n0 V (zG.below E) (by omega) zE) (by omega) rfl
   (fun k X=>J (d.length+k) X/\X.heap[W.heap.size+1]?=some (.cells #[.func (.yield l) #[] #[]] 130)/\X.heap[D]?=some (.deferred (some [])))
   (fun _ X=>(∃k,T k X)/\X.heap[D]?=some (.deferred (some [])))
   (Co.and (fun k X O row o R S=>(v.mono (by omega)) (d.length+k) X O row o R S) ((CV _ zJ).and (CV _ M))) (Co.and (fun _ X O row o R S=>o.elim fun k hk=>⟨k,(t.mono (by omega)) k X O row hk R S⟩) (CV _ M))
   ⟨o,n,f⟩ (fun s=>{tmps:= #[.agg #[.slice a d.length c,.slice j g.length b],.func (.yield l) #[] #[],Yz W.heap.size,Yz (W.heap.size+1),undef,.string s,
    Yz W.heap.size,.agg #[.slice a d.length c],.func (.func 128) #[.agg #[.slice a d.length c]] #[],undef,undef,undef,undef,undef,
    .agg #[.slice a d.length c,.slice j g.length b],.func (.func 129) #[.agg #[.slice a d.length c,.slice j g.length b]] #[],.string s,undef,undef,undef,undef],defers:=[]}) ?assign2 ?body2 ?done2 ?stop2
  case assign2=>
   intro A B s X K f
   gi_wp2
   exact f
  case body2=>
   rintro A B k s X I ⟨o,n,f⟩ zH;obtain⟨fn,tmps,assign,body,hy,P⟩:=U (d.length+k) X s (by rw[List.getElem?_append_right (by omega),Nat.add_sub_cancel_left];exact I) o (by omega) (B -1);have zB:X.cell? (Ze (W.heap.size+1) 0)=some (.func (.yield l) #[] #[]):=by simp[World.cell?,n]
   gi_wp2
   refine⟨fun h=>by simp[Fence.wide]at h,RoundIn.mono (F:=Fence.wide.inRound A) P ?_⟩;rintro e V3 ⟨i,(⟨rfl,C,y⟩|⟨rfl,r⟩)⟩
   ·gi_wp2
    exact⟨i.mono (by omega),⟨C,i.same _ _ (by omega) n rfl,i.same _ _ (by omega) f rfl⟩,y⟩
   ·gi_wp2
    exact⟨i.mono (by omega),⟨_,r⟩,i.same _ _ (by omega) f rfl⟩
  case done2=>
   rintro D2 X Y ⟨o,n,f⟩ u
   gi_wp2
   refine⟨by simp,.inl ⟨_,_,rfl,run_takeDeferred u,by simp,.inl ⟨_,_,rfl,run_takeDeferred ((World.putObj_heap_other (by omega)).trans f),?_⟩⟩⟩;refine⟨_,results_none rfl _ _ _,⟨_,rfl⟩,.inl ?_⟩;rw[List.length_append];exact v.putObj _ (v.putObj _ o (by omega) u rfl) (by omega) ((World.putObj_heap_other (by omega)).trans f) rfl
  case stop2=>
   rintro D2 k X Y ⟨⟨k2,G⟩,f⟩ u
   gi_wp2
   refine⟨by simp,.inl ⟨_,_,rfl,run_takeDeferred u,by simp,.inl ⟨_,_,rfl,run_takeDeferred ((World.putObj_heap_other (by omega)).trans f),?_⟩⟩⟩;refine⟨_,results_none rfl _ _ _,⟨_,rfl⟩,.inr ⟨k2,?_⟩⟩;exact t.putObj _ (t.putObj _ G (by omega) u rfl) (by omega) ((World.putObj_heap_other (by omega)).trans f) rfl
 case stop=>
  rintro D k V hD G f
  gi_wp2
  refine⟨by simp,.inl ⟨_,_,rfl,run_takeDeferred f,?_⟩⟩;exact⟨_,results_none rfl _ _ _,⟨_,rfl⟩,.inr ⟨k,t.putObj _ G (by omega) f rfl⟩⟩
end
section
attribute [local go_sem] Oper.semAt_some
theorem JW{B:Nat}(p:Nat->Prop):Co B (fun k _=>p k):=fun _ _ _ _ h _ _=>h
theorem BA.of_grownBy{B:Nat}{W c:Zh}{row:Option Nat}(d:W.grownBy c row)(a:∀j,row=some j->j<B):BA B W c:=
 ⟨d.size,fun b _ f h _=>(d.block b (Array.getElem?_eq_some_iff.1 h).1 (fun e=>by have:=a b e.symm;omega)).trans h⟩
theorem GF(a b:Zk)(n m c d:Nat)(w:Zh):
 Calls prog 98 #[.agg #[.slice a n c,.slice b m d]] w fun e g=>e=.returned (.agg #[.slice a n c,.slice b m d])/\Zz w g:=by
 have f:Below w.heap.size w ((w.alloc (.cells #[.slice a n c,.slice b m d] 38)).alloc (.cells #[.slice a n c,.slice b m d] 153)):=(Zy).alloc (by simp) _;go_enter func98,ntmps98;go_wp2;refine bodyPost_ret (v:=.agg #[.slice a n c,.slice b m d]) (by simp[results,results98,go_sem]) rfl ⟨rfl,?_⟩;exact f
theorem Jl(a b:Zk)(n m c d:Nat)(w:Zh)(i:n<=1048576)(h:m<=1048576):
 Calls prog 126 #[.agg #[.slice a n c,.slice b m d]] w fun e g=>e=.returned (Zg (n+m))/\Zz w g:=by
 have f:Below w.heap.size w (w.alloc (.cells #[.slice a n c,.slice b m d] 153)):=Zy;go_enter func126,ntmps126;go_wp2;go_ret;exact⟨rfl,f⟩
theorem Gt(a b:Zk)(c d:Nat)(f g:Zl)(w:Zh)(Z:Ad w w.heap.size a f)(Y:Ad w w.heap.size b g)(X:f.length<=1048576)(N:g.length<=1048576)
 (hs:∀s∈f,s.size<=1048576) (O:∀s∈g,s.size<=1048576):
 Calls prog 96 #[.agg #[.slice a f.length c,.slice b g.length d]] w fun e w'=>e=.returned (.bool (DA f g))/\Zz w w':=by
 refine(callsIn_wide (n:=3)).1 ?_;refine callsIn_of_wp_marks func96 rfl trivial ?_ rfl;simp only[ntmps96,List.size_toArray,List.length_cons,List.length_nil,Nat.reduceAdd,Nat.reduceSub,Array.replicate_succ,Array.replicate_zero,List.push_toArray,List.append_toArray,List.nil_append,List.cons_append]
 gi_wp2_with fail
 refine⟨trivial,?_⟩;have G:Below w.heap.size w ((w.alloc (.cells #[.slice a f.length c,.slice b g.length d] 38)).alloc (.cells #[.bool false] 4)):=(Zy).alloc (by simp) _;have J:Boxed ((w.alloc (.cells #[.slice a f.length c,.slice b g.length d] 38)).alloc (.cells #[.bool false] 4)) (w.heap.size+1) 4 (.bool false):=by have:=Boxed.new (w.alloc (.cells #[.slice a f.length c,.slice b g.length d] 38)) 4 (.bool false);rwa[World.size_alloc]at this
 have M:((w.alloc (.cells #[.slice a f.length c,.slice b g.length d] 38)).alloc (.cells #[.bool false] 4)).heap.size=w.heap.size+2:=by simp
 refine(callsIn_wide.2 (GF a b f.length g.length c d _)).mono ?_;rintro e x ⟨rfl,m⟩;have A:=G.trans (m.mono (by simp;omega));have I:Boxed x (w.heap.size+1) 4 (.bool false):=(m.block _ (by simp)).trans J;have P:=m.size;rw[M]at P;clear m J M G
 gi_wp2_with fail
 refine⟨trivial,?_⟩;have H:Below w.heap.size w (x.alloc (.cells #[.slice a f.length c,.slice b g.length d] 153)):=A.alloc A.size _;have L:=I.alloc (.cells #[.slice a f.length c,.slice b g.length d] 153);refine(callsIn_wide.2 (Jl a b f.length g.length c d _ X N)).mono ?_;rintro e z ⟨rfl,q⟩;have l:=H.trans (q.mono (by simp;omega))
 have v:Boxed z (w.heap.size+1) 4 (.bool false):=(q.block _ (by simp;omega)).trans L;have Q:=q.size;simp at Q;have zA:z.cell? (Ze (x.heap.size) 0)=some (.slice a f.length c):=by rw[q.cell (p:=⟨x.heap.size,0,none⟩) (by simp)];simp
 have zB:z.cell? (Ze (x.heap.size) 1)=some (.slice b g.length d):=by rw[q.cell (p:=⟨x.heap.size,1,none⟩) (by simp)];simp
 have zF:=v.cell;have zG:=v.frozen;clear q L H I A;by_cases hlen:f.length+g.length<=4000
 ·gi_wp2_with fail
  have m:w.heap.size+1<z.heap.size:=v.lt;refine GY (gf:=99) (pre:= #[.agg #[.slice a f.length c,.slice b g.length d]]) (lb:= #[]) rfl (enters_of func99 (by kernel_rfl) rfl) (xs:=f++g) (n0:=w.heap.size)
   (by simpa using NW a b c d f g w.heap.size z (Z.below l) (Y.below l) l.size (by unfold maxLen;omega) (by unfold maxLen;omega)) l.size rfl
   (fun k V=>Zz w V/\Boxed V (w.heap.size+1) 4 (.bool false)/\Dx ((f++g).take k)=true)
   (fun _ V=>Zz w V/\Boxed V (w.heap.size+1) 4 (.bool false)/\Dx (f++g)=false)
   ((DH w (Zx) l.size).and ((CV (.cells #[.bool false] 4) m).and (JW _)))
   ((DH w (Zx) l.size).and ((CV (.cells #[.bool false] 4) m).and (JW _)))
   ⟨l,v,by simp[Dx]⟩ (fun s=>{tmps:= #[.agg #[.slice a f.length c,.slice b g.length d],Yz w.heap.size,Yz (w.heap.size+1),Yz x.heap.size,.string s,
    .agg #[.slice a f.length c,.slice b g.length d],.agg #[.slice a f.length c,.slice b g.length d],.agg #[.slice a f.length c,.slice b g.length d],Zg (f.length+g.length),.bool (decide ((4000:Int)<f.length+g.length)),
    .agg #[.slice a f.length c,.slice b g.length d],.func (.func 99) #[.agg #[.slice a f.length c,.slice b g.length d]] #[],.string s,undef,undef,undef],defers:=[]}) ?assign ?body ?done ?stop
  case assign=>
   intro l2 m2 s V K y
   gi_wp2
   exact y
  case body=>
   rintro l2 m2 k s V C ⟨t,o,u⟩ zE;have T:=o.cell;have U:=o.frozen;have R:s.size<=1048576:=by
    rcases List.mem_append.1 (Zs C)with h|h
    ·exact hs s h
    ·exact O s h
   by_cases hbig:5000<s.size
   ·gi_wp2
    refine⟨BA.of_grownBy (grownBy_setCell' V _ _) (fun j e=>by cases e;exact m),t.setCell (p:=⟨w.heap.size+1,0,none⟩) (by simp) _,o.set _,ID _ k s C hbig⟩
   ·gi_wp2
    refine⟨BA.refl _ _,⟨t,o,?_⟩,Below.refl _ _⟩;rw[Jk _ k s C,u];simp;omega
  case done=>
   rintro D V S ⟨t,o,u⟩ y;have T:=o.cell;have U:=o.frozen;rw[Zt (by omega)]at u;have zC:D≠w.heap.size+1:=by omega
   have F:(V.setCell (Ze (w.heap.size+1) 0) (.bool true)).heap[D]?=some (.deferred (some [])):=(KeepsOthers.setCell _ _ _).same D _ y rfl;have E:=o.set (.bool true);have B:=cell_kept E.cell (grownBy_putObj' _ D (.deferred none)) (fun r e=>by cases e;exact⟨_,F,rfl⟩)
   gi_wp2
   refine⟨by simp,.inl ⟨_,_,rfl,run_takeDeferred F,?_⟩⟩;refine⟨.bool true,by simp[results,results96,go_sem,B],?_,?_⟩
   ·simp only[DA];rw[show(f++g).all (fun s=>decide (s.size<=5000))=true from u];simp[hlen]
   ·exact(t.setCell (p:=⟨w.heap.size+1,0,none⟩) (by simp) _).trans ⟨rfl,rfl,rfl,by simp,fun i W=>World.putObj_heap_other (by omega)⟩
  case stop=>
   rintro D k V S ⟨t,o,u⟩ y;have B:=cell_kept o.cell (grownBy_putObj' _ D (.deferred none)) (fun r e=>by cases e;exact⟨_,y,rfl⟩)
   gi_wp2
   refine⟨by simp,.inl ⟨_,_,rfl,run_takeDeferred y,?_⟩⟩;refine⟨.bool false,by simp[results,results96,go_sem,B],?_,?_⟩
   ·simp only[DA];rw[show(f++g).all (fun s=>decide (s.size<=5000))=false from u];simp
   ·exact t.trans ⟨rfl,rfl,rfl,by simp,fun i W=>World.putObj_heap_other (by omega)⟩
 ·have E:=(v.set (.bool false)).cell
  gi_wp2
  refine⟨.bool false,by simp[results,results96,go_sem,E],?_,l.setCell (p:=⟨w.heap.size+1,0,none⟩) (by simp) _⟩;simp[DA,hlen]
end
section
attribute [local go_sem] Oper.semAt_some
theorem Fe.below{P:Program}{gf:Nat}{a:Nat->Array Value}{xs:Zl}{n0:Nat}{w c:Zh}(h:Fe P gf a xs n0 w)(b:Zz w c):Fe P gf a xs n0 c:=
 fun l J d W e=>h l J d W (b.trans (e.mono b.size))
theorem QB(B base b:Nat)(t:TypeId)(k:Nat->Nat)(f:Nat->Zj)(m:b<B):Co B (fun n W=>∃v,Boxed W b t v/\W.ownsRow base 9 1 v (k n) (f n)):=by
 rintro n W p row ⟨v,l,h⟩ d a;refine⟨v,l.kept d (fun e=>by have:=(a b e.symm).1;omega),h.kept d ?_⟩;cases hb:v.ownBlock with
 |none=>exact .inl rfl
 |some r=>refine .inr fun e=> ?_;obtain⟨c,q,i⟩:=Lib.ownsRow_kind h r hb;obtain⟨_,o,g,j⟩:=a r e.symm;rw[i]at g;cases g;simp[Bu]at j
theorem MS(gf:Nat)(recv:Value)(J:∀args w,(callFunc gf args).run prog w=.ok (.enter gf args) w)(xs:Zl)(n0:Nat)(w:Zh)
 (r:Fe prog gf (fun l=> #[recv,.func (.yield l) #[] #[]]) xs n0 w) (C:n0<=w.heap.size) (Z:xs.length<=2097152):
 Calls prog 181 #[Zc,.func (.func gf) #[recv] #[]] w fun e A=>∃v,e=.returned v/\A.ownsRow w.heap.size 9 1 v xs.length (xs.map Value.string)/\Zz w A:=by
 obtain⟨O,z,F,G,H⟩:=info_parts CP;refine(callsIn_wide (n:=3)).1 ?_;refine callsIn_of_wp_marks func181 rfl trivial ?_ rfl;simp only[ntmps181,List.size_toArray,List.length_cons,List.length_nil,Nat.reduceAdd,Nat.reduceSub,Array.replicate_succ,Array.replicate_zero,List.push_toArray,List.append_toArray,List.nil_append,List.cons_append]
 gi_wp2_with fail
 have I:=Boxed.new w 22 Zc;have t:Below w.heap.size w (w.alloc (.cells #[Zc] 22)):=(Below.refl _ w).alloc (Zx) _;refine GY (gf:=gf) (pre:= #[recv]) (lb:= #[]) rfl J (xs:=xs) (n0:=n0) (by simpa using r.below t) (by simp;omega) rfl
  (fun k V=>(∃v,Boxed V w.heap.size 22 v/\V.ownsRow w.heap.size 9 1 v (xs.take k).length ((xs.take k).map Value.string))/\Zz w V)
  (fun _ _=>False)
  ((QB _ _ _ _ (fun k=>(xs.take k).length) (fun k=>(xs.take k).map Value.string) (by simp)).and (DH w (Zx) (by simp)))
  (fun _ _ _ _ h _ _=>h)
  ⟨⟨_,I,World.ownsRow_nil _ _ _ _⟩,t⟩ (fun s=>{tmps:= #[Zc,.func (.func gf) #[recv] #[],Yz w.heap.size,undef,Zc,.string s,.func (.func gf) #[recv] #[],.string s,undef,undef,undef,undef,undef],defers:=[]}) ?assign ?body ?done ?stop
 case assign=>
  intro P Q s V K j
  gi_wp2
  exact j
 case body=>
  rintro P Q k s W g ⟨⟨v,p,b⟩,f⟩ X;have y:=p.cell;have u:(xs.take k).length=k:=by have:=(Zw g).1;simp;omega
  have U:k<xs.length:=(Zw g).1;have E:(xs.take (k+1))=xs.take k++[s]:=by obtain⟨B,rfl⟩:=Zw g;exact Zu B
  gi_wp2_with (gi_at_builtin;refine wpListIn_append_own _ rfl _ _ 22 rfl w.heap.size 9 O Zd 1 16 underlying22 z F G H rfl (by decide) _ _ _ rfl (b.alloc _) ⟨W.heap.size,0,none⟩ 1 1 [.string s] rfl rfl (cell_one_new _ _ _) (by simp[Value.oneCell']) (by unfold maxLen;omega) (by omega) (by have:=f.size;simp;omega) ?_;intro v' R d a _;obtain⟨g',cap',rfl⟩:=ownsRow_succ d;obtain⟨hv1,hv2,hr2,hk2,hb2⟩:=p.appended (by decide) b f.size (Zx) d a;have S:=hv1.cell;have T:=hv1.frozen)
  rw[u]at hv2 hr2 hb2;refine⟨⟨Zm (Zm (by simp) a.size) (by simp),fun q o N m M=> ?_⟩,⟨⟨_,hv2,?_⟩,f.trans hb2⟩,hb2.mono C⟩
  ·simp at N;have x:q<W.heap.size:=(Array.getElem?_eq_some_iff.1 m).1;refine((grownBy_setCell' R w.heap.size _).block q (Zr x (Zm (by simp) a.size)) (fun e=>by cases e;omega)).trans ?_;refine(a.block q (by simp;omega) (fun e=> ?_)).trans ((Below.heap_alloc W _ q x).trans m);obtain⟨c,Y,y⟩:=Lib.ownsRow_kind b q e.symm;rw[y]at m;cases m;simp[Bu]at M
  ·rw[E];simpa [u]using hr2
 case done=>
  rintro D W L ⟨⟨v,p,b⟩,f⟩ j;have y:=p.cell
  gi_wp2
  refine⟨by simp,.inl ⟨_,_,rfl,run_takeDeferred j,?_⟩⟩;rw[Zt (Zx)]at b;exact⟨_,results_tmp rfl _ _ _,v,rfl,ownsRow_putObj b _ j rfl,f.trans ⟨rfl,rfl,rfl,by simp,fun i z=>World.putObj_heap_other (by simp at L;omega)⟩⟩
 case stop=>
  rintro D k W _ h _;exact h.elim
end
theorem JX(a:Nat)(recv:Value)(i:∀args w,(callFunc a args).run prog w=.ok (.enter a args) w)(b:Zl)(f:Nat)(w:Zh)
 (d:Fe prog a (fun l=> #[recv,.func (.yield l) #[] #[]]) b f w) (h:f<=w.heap.size) (k:b.length<=2097152):
 Calls prog 149 #[.func (.func a) #[recv] #[]] w fun e g=>∃v,e=.returned v/\g.ownsRow w.heap.size 9 1 v b.length (b.map Value.string)/\Zz w g:=by
 go_enter func149,ntmps149;go_wp2_with fail;refine(MS a recv i b f w d h k).mono ?_;rintro e m ⟨v,rfl,c,j⟩;go_wp2;go_ret;exact⟨v,rfl,c,j⟩
theorem Gu{P:Program}{c:Array Oper}{rest:List Oper}{b:Oper}{a:Act}{w:Zh}{Q:Exit->Act->Zh->Prop}(f:b.guard=none)(t:TypeId)(parts:Array (Nat×Operand))(g:b.op=.build t parts)(l:List (Nat×Value))(e:(parts.map fun(i,x)=>(i,a.eval x)).toList=l)(cells:Array Value)(d:P.built t l=some cells)(h:wpList P c Q rest (a.put b.dst (.agg cells)) w):wpList P c Q (b::rest) a w:=
 wpList_build f t parts g (by rw[e,d];rfl) (by rw[e,d];exact h)
theorem KP{s:Zj}(h:s.length=17):∃i j k l m n o p q r a b c d e f g,s=[i,j,k,l,m,n,o,p,q,r,a,b,c,d,e,f,g]:=by
 match s,h with
 |[i,j,k,l,m,n,o,p,q,r,a,b,c,d,e,f,g],_=>exact⟨i,j,k,l,m,n,o,p,q,r,a,b,c,d,e,f,g,rfl⟩
theorem Mv{a:Zj}(h:a.length=17)(s:Zi)(n:Int):prog.built 48 [(1,.agg a.toArray),(2,.string s),(3,Zg n)]=some (Zg 0::(a++[.string s,Zg n,Zd,Zd])).toArray:=by
 obtain⟨j,k,l,m,o,p,q,r,t,u,b,c,d,e,f,g,i,rfl⟩:=KP h
 kernel_rfl
theorem QC{a:Zj}(h:a.length=17):prog.built 48 [(1,.agg a.toArray)]=some (Zg 0::(a++[Zd,Zf,Zd,Zd])).toArray:=by
 obtain⟨j,k,l,m,n,o,p,q,r,s,b,c,d,e,f,g,i,rfl⟩:=KP h
 kernel_rfl
theorem MT(t:Zi)(a:Zk)(n b k base:Nat)(f:Zj)(w:Zh)(c:w.ownsRow base 9 1 (.slice a n b) n f)(j:1<=k)(h:k+n<=100000000):
 Calls prog 14 #[.agg #[.string t,.slice a n b],Zg k] w fun e d=>e=.returned (Zg (k+n))/\d.ownsRow base 9 1 (.slice a n b) n ((marks k n).map Value.string)/\w.grownBy d (Value.slice a n b).ownBlock:=by
 go_enter func14,ntmps14;go_wp2_with fail;refine(Md a n b k base f _ (c.alloc _) j h).mono ?_;rintro e l ⟨rfl,i,g⟩;go_wp2;go_ret;exact⟨rfl,i,Aw (AA _ (Zy)) g⟩
theorem SE{T e:TypeId}{B b:Nat}{c:Zj}{w i:Zh}(h:Lib.IsBuilder T e B b c w)(a:Zz w i):Lib.IsBuilder T e B b c i:=by
 have g:∀p,Lib.BuilderAt T e B b p c w->Lib.BuilderAt T e B b p c i:=by rintro p ⟨m,v,f,d,l⟩;have j:b<w.heap.size:=(Array.getElem?_eq_some_iff.1 f).1;exact⟨m,v,(a.block b j).trans f,d.kept (row:=none) ⟨a.os,a.tape,a.output,a.size,fun k n _=>a.block k n⟩ (by cases hv:v.ownBlock<;>simp),l⟩
 rcases h with h|h
 ·exact .inl (g _ h)
 ·exact .inr (g _ h)
theorem Uw(k n m:Int)(b:0<=n)(c:n<=1000000000)(j:Nat)(a:j<4):
 Lib.byteCells ((Cj k n m).take (1+j))++[Value.int .u8 (n/2^(8 *(3 -j))%256)]=Lib.byteCells ((Cj k n m).take (1+(j+1))):=by
 rw[EN (n/2^(8 *(3 -j))%256) (by omega) (by omega)]
 match j,a with
 |0,_=>
  have:n/2^(8 *(3 -0))%256=n/16777216:=by show n/16777216%256=n/16777216;omega
  rw[this];rfl
 |1,_=>rfl
 |2,_=>rfl
 |3,_=>
  have:n/2^(8 *(3 -3))%256=n%256:=by show n/1%256=n%256;omega
  rw[this];rfl
theorem Ux(k n m:Int)(a:0<=m)(b:m<256):Lib.byteCells ((Cj k n m).take (1+4))++[Value.int .u8 m]=Lib.byteCells (Cj k n m):=by rw[EN m a b];rfl
theorem Jm(k n m:Int)(j:Nat):(Lib.byteCells ((Cj k n m).take j)).length<=6:=by rw[Lib.byteCells_length];have:(Cj k n m).length=6:=rfl;simp[this];omega
theorem SF(k:Nat)(f name:Zi)(n:Int)(t:Zi)(A:Zk)(u:Nat)(g:Zl)(P:Int)(w:Zh)(hT:Jh w)(h1:1<=k)(h7:k<=7)
 (y:Ad w w.heap.size A g) (hl:g.length<=1048576) (ht:t.size<=maxLen) (H:CS k f name n t g P=true):
 Calls prog 109 #[.agg (Ex k f name n t A g.length u),Zg P] w fun e w'=>e=.returned (.string ⟨(De k f name n t g).toArray⟩)/\Zz w w':=by
 have hp:=Ek H;obtain⟨zW,zX,zO,zE,zK,zM,I⟩:=hp;have E:Below w.heap.size w (w.alloc (.cells (Ex k f name n t A g.length u) 67)):=Zy;go_enter func109,ntmps109;go_wp2_with fail;refine(KO k f name n t A u g P _ (hT.below E) h1 h7 (y.af E) hl ht (by unfold maxLen;omega)).mono ?_;rintro e a ⟨rfl,o⟩;rw[H];have hz:=o.size;simp at hz;have d:w.heap.size<a.heap.size:=by omega
 have r:=E.trans (o.mono (by simp));have x0:a.cell? (Ze (w.heap.size) 0)=some (Zg k):=by rw[o.cell (p:=⟨w.heap.size,0,none⟩) (by simp)];simp
 have x1:a.cell? (Ze (w.heap.size) 1)=some (.string f):=by rw[o.cell (p:=⟨w.heap.size,1,none⟩) (by simp)];simp
 have x2:a.cell? (Ze (w.heap.size) 2)=some (.string name):=by rw[o.cell (p:=⟨w.heap.size,2,none⟩) (by simp)];simp
 have x3:a.cell? (Ze (w.heap.size) 3)=some (Zg n):=by rw[o.cell (p:=⟨w.heap.size,3,none⟩) (by simp)];simp
 have x4:a.cell? (Ze (w.heap.size) 4)=some (.string t):=by rw[o.cell (p:=⟨w.heap.size,4,none⟩) (by simp)];simp
 have x5:a.cell? (Ze (w.heap.size) 5)=some (.slice A g.length u):=by rw[o.cell (p:=⟨w.heap.size,5,none⟩) (by simp)];simp
 have J:=y.below r;have zG:=Yx H;clear H I y o E;have s:=Lib.fresh_isBuilder 207 5 a;have X:Below a.heap.size a (a.alloc (.cells #[.pointer none,Zc] 207)):=Zy;go_wp2_with fail;refine(Fh a.heap.size a.heap.size [] _ _ s (by simp) (by simp)).mono ?_;rintro e w2 ⟨rfl,v,V⟩;have Y:=X.trans V;have zA:[]++[Value.int .u8 (k:Int)]=Lib.byteCells ((Cj k n name.size).take 1):=by rw[EN k (by omega) (by omega)];rfl
 rw[zA]at v;clear s X V zA;go_wp2
 go_loopw [15] (fun i wr=>∃(j:Nat),j<=4/\i=Zg j/\Lib.IsBuilder 207 5 a.heap.size a.heap.size (Lib.byteCells ((Cj k n name.size).take (1+j))) wr/\Zz a wr) (fun i _=>4 -(intOf i).toNat)
 case atStart=>exact⟨0,Nat.zero_le _,rfl,v,Y⟩
 case round=>
  clear v Y;obtain⟨j,hj,rfl,s,c⟩:=hrel;have zC:=c.size;have y0:wr.cell? (Ze (w.heap.size) 0)=some (Zg k):=(c.cell (p:=⟨w.heap.size,0,none⟩) d).trans x0;have Q:wr.cell? (Ze (w.heap.size) 1)=some (.string f):=(c.cell (p:=⟨w.heap.size,1,none⟩) d).trans x1;have y2:wr.cell? (Ze (w.heap.size) 2)=some (.string name):=(c.cell (p:=⟨w.heap.size,2,none⟩) d).trans x2
  have y3:wr.cell? (Ze (w.heap.size) 3)=some (Zg n):=(c.cell (p:=⟨w.heap.size,3,none⟩) d).trans x3;by_cases hlt:j<4
  ·have zB:=Jm k n name.size (1+j);have zN:=Yx (Uw k n name.size zK zM j hlt);go_wp2_with fail;refine(Fh a.heap.size a.heap.size _ _ _ s (by omega) zC).mono ?_;rintro e w3 ⟨rfl,m,z⟩;rw[zN.o]at m;have F:=c.trans z;clear s c z y0 Q y2 y3;go_wp2;exact⟨⟨j+1,by omega,by go_num,m,F⟩,by simp[intOf];omega⟩
  ·obtain rfl:j=4:=by omega
   have zB:=Jm k n name.size (1+4);go_wp2_with fail;refine(Fh a.heap.size a.heap.size _ _ _ s (by omega) zC).mono ?_;rintro e w3 ⟨rfl,m,z⟩;rw[Ux k n name.size (by omega) (by omega)]at m;have h:=c.trans z;have S:=h.size;have y2:w3.cell? (Ze (w.heap.size) 2)=some (.string name):=(h.cell (p:=⟨w.heap.size,2,none⟩) d).trans x2;clear s c z y0 Q y3 zB
   have G:(Lib.byteCells (Cj k n name.size)).length=6:=rfl;go_wp2_with fail;refine(Du a.heap.size a.heap.size _ name _ m (by omega) S).mono ?_;rintro e w4 ⟨rfl,x,F⟩;rw[←Lib.byteCells_append]at x;have l:=h.trans F;have T:=l.size;have Q:w4.cell? (Ze (w.heap.size) 1)=some (.string f):=(l.cell (p:=⟨w.heap.size,1,none⟩) d).trans x1;clear m h F y2 G
   have G:(Lib.byteCells (Cj k n name.size++name.data.toList)).length=6+name.size:=by rw[Lib.byteCells_length];simp[Cj];omega
   go_wp2_with fail;refine(Du a.heap.size a.heap.size _ f _ x (by omega) T).mono ?_;rintro e O ⟨rfl,q,W⟩;rw[←Lib.byteCells_append]at q;have b:=l.trans W;have D:=b.size;have y0:O.cell? (Ze (w.heap.size) 0)=some (Zg k):=(b.cell (p:=⟨w.heap.size,0,none⟩) d).trans x0;have y4:O.cell? (Ze (w.heap.size) 4)=some (.string t):=(b.cell (p:=⟨w.heap.size,4,none⟩) d).trans x4
   have y5:O.cell? (Ze (w.heap.size) 5)=some (.slice A g.length u):=(b.cell (p:=⟨w.heap.size,5,none⟩) d).trans x5;have K:=J.below (b.mono (by omega));have zP:=r.trans (b.mono r.size);clear x l W Q G;have G:(Lib.byteCells (Cj k n name.size++name.data.toList++f.data.toList)).length=6+name.size+f.size:=by rw[Lib.byteCells_length];simp[Cj];omega
   by_cases hk1:k=1
   ·subst hk1;have I:=(Ek zG.o).df rfl;have N:=BB I;have zR:=N.az;have zV:=N.text;have zU:=N.refs;go_wp2_with fail;refine(Mh t A u g P O (K.mono (by omega)) I).mono ?_;rintro e w6 ⟨rfl,L⟩;have R:=SE q L;have zY:=L.size;have zS:(BD t g).length<=3000:=by have:=Dg g;simp[BD,this];omega
    have Z:(ByteArray.mk (BD t g).toArray).size=(BD t g).length:=by simp[ByteArray.size]
    have zF:=Yx Z;clear Z;go_wp2_with fail;refine(Du a.heap.size a.heap.size _ _ _ R (by rw[zF.o];omega) (by omega)).mono ?_;rintro e w7 ⟨rfl,C,zH⟩;have zI:Lib.byteCells (Cj (1:Nat) n name.size++name.data.toList++f.data.toList)++Lib.byteCells (ByteArray.mk (BD t g).toArray).data.toList=Lib.byteCells (De 1 f name n t g):=by rw[←Lib.byteCells_append];rfl
    rw[zI]at C;have B:=(b.trans (L.mono D)).trans zH;have U:=B.size;go_wp2_with fail;refine(Tryz.Builder_String_any a.heap.size a.heap.size _ _ C U).mono ?_;rintro e w8 ⟨rfl,M⟩;go_wp2;go_ret;exact⟨rfl,r.trans ((B.trans M).mono r.size)⟩
   ·have zT:((k:Int)==1)=false:=beq_eq_false_iff_ne.2 (by omega);have zJ:Cj k n name.size++name.data.toList++f.data.toList=De k f name n t g:=by unfold De;rw[if_neg hk1,List.append_nil]
    rw[zJ]at q;go_wp2_with fail;refine(Tryz.Builder_String_any a.heap.size a.heap.size _ _ q D).mono ?_;rintro e w8 ⟨rfl,M⟩;go_wp2;go_ret;exact⟨rfl,r.trans ((b.trans M).mono r.size)⟩
theorem XR(k:Int)(a name:Zi)(n:Int)(t:Zi)(h:Zk)(g:Nat)(b:Zl)(d:Int)(w:Zh)(j:Jh w)
 (f:Ad w w.heap.size h b) (l:b.length<=1048576) (o:t.size<=maxLen) (q:name.size<=maxLen):
 Calls prog 109 #[.agg (Ex k a name n t h b.length g),Zg d] w fun e r=>e=.returned (.string (CF k a name n t b d))/\Zz w r:=by
 cases hok:Cs k a name n t b d with
 |true=>rw[show CF k a name n t b d=⟨(De k.toNat a name n t b).toArray⟩from by unfold CF;rw[if_pos hok]];unfold Cs at hok;simp only[Bool.and_eq_true,decide_eq_true_eq]at hok;obtain⟨m,rfl⟩:∃m:Nat,k=m:=⟨k.toNat,by omega⟩;rw[Int.toNat_natCast]at hok ⊢;exact SF m a name n t h g b d w j (by omega) (by omega) f l o hok.2
 |false=>rw[show CF k a name n t b d=ByteArray.empty from by unfold CF;rw[if_neg (by rw[hok];decide)]];have i:Below w.heap.size w (w.alloc (.cells (Ex k a name n t h b.length g) 67)):=Zy;have c:=Um k a name n t h g b d _ (j.below i) (f.af i) l o q;rw[hok]at c;clear hok;go_enter func109,ntmps109;go_wp2_with fail;refine c.mono ?_;rintro e s ⟨rfl,p⟩;go_wp2;go_ret;exact⟨rfl,i.trans (p.mono (by simp))⟩
theorem Ad.cells{w:Zh}{B g:Nat}{c:Zl}(h:Ad w B (some ⟨g,0,none⟩) c):∀j s,c[j]?=some s->w.cell? ((⟨g,0,none⟩:Addr).add j)=some (.string s):=by
 intro j s a;rcases h with h|⟨b,f,d,_,e⟩
 ·subst h;simp at a
 ·cases d;have:=e j s a;rw[Go.WideShapes.add_plain];simpa using this
theorem Ad.take{w:Zh}{B:Nat}{a:Zk}{c:Zl}(h:Ad w B a c)(K:Nat):Ad w B a (c.take K):=by
 rcases h with h|⟨q,d,e,f,g⟩
 ·exact .inl (by simp[h])
 ·refine .inr ⟨q,d,e,f,fun i s b=>g i s ?_⟩;have j:=(Zw b).1;simp at j;rw[List.getElem?_take_of_lt (by omega)]at b;exact b
end Go.Proofs.YtckmnfhmoankmaaGreatDoor
