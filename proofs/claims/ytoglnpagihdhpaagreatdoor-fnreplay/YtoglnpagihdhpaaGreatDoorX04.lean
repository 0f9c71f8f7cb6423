import Derived.Test.YtoglnpagihdhpaaGreatDoorX01
import Derived.Maps.AppendAt
import Derived.Deep.RegionLaw
import Derived.Laws.OwnMore
import Derived.LaidEql
import Derived.Stop.Asserts
import Derived.RowKitTokens
import Derived.Laws.Tables
set_option maxRecDepth 100000
set_option maxHeartbeats 16000000
namespace Go.Proofs.YtoglnpagihdhpaaGreatDoor
open ChangeShapes WideShapes ChangeAt RowKit _root_.Go.Proofs.Tryz
variable{P:Program}{F:Array Oper}{o:Oper}{a c:Int}{E:Prop}{w W wr:Zh}{B g n b k:Nat}{d:Zj}{s e t:Zi}{v:Value}{row:Option Nat}{p:Addr}
theorem KW(w:Zh){a:Act}{K:Act->Zh->Prop}{Q:Exit->Act->Zh->Prop}(O:o.guard=none)(J x:Operand)(t:TypeId)(Y:o.op=.call {callee:=.builtin .append,args:= #[J,x],argTypes:= #[t,t]})(b:Nat)(e:TypeId)(i:TypeInfo)(z:Value)(bytes:Nat)(ht:P.underlying t=some (.slice e))(W:P.info? e=some i)(hz:i.zero=some z)(y:i.size=1)(N:i.bytes=bytes)(R:z.cells.size=1)(q n I:Nat)(L:Zl)(B:a.eval J=Yz q n I)(D:w.ownsRow b e 1 (Yz q n I) n (L.map Value.string))(G:Addr)(m c:Nat)(C:Zl)(hx:a.eval x=.slice (some G) m c)(X:C.length=m)(v:∀j s,C[j]?=some s->w.cell? (G.add j)=some (.string s))(M:n+m<=maxLen)(d:(n+m) *bytes<=140737488355328)(l:b<=w.heap.size)(h:∀g cap k,k.ownsRow b e 1 (Yz g (n+m) cap) (n+m) ((L++C).map Value.string)->w.grownBy k (some q)->(g=q\/g=w.heap.size)->g<k.heap.size->K (a.put o.dst (Yz g (n+m) cap)) k):
 if Region.wanted o (yielded F a.tmps)=true then Oper.wp P o a w K Q else E:=by
 have hw:Region.wanted o (yielded F a.tmps)=true:=by simp[Region.wanted,O]
 rw[if_pos hw];obtain⟨v',k,Z,H,T,U,A⟩:=run_append_own_at (P:=P) w b t o.type e i z 1 bytes ht W hz y N R Yq _ n _ D G m c (C.map Value.string) (by simp[X])
  (fun j u f=>by
    rw[List.getElem?_map]at f;cases B:C[j]? with
    |none=>rw[B]at f;cases f
    |some s=>rw[B]at f;cases f;exact v j s B)
  (fun u f=>by obtain⟨s,_,rfl⟩:=List.mem_map.1 f;rfl) M d l
 have r:∃g cap,v'=Yz g (n+m) cap:=by
  rcases Joins.ownsRow_forms H with⟨S,_⟩|V
  .have:=(U.1 S).1;cases this
  .exact V
 obtain⟨g,cap,rfl⟩:=r;unfold Oper.wp execOp;simp only[Y,resolve,invoke,builtin,Sem.run_bind,Sem.run_pure,Result.andThen_ok,List.map_toArray,List.map_cons,List.map_nil,B,hx,Z];refine h g cap k (by rw[List.map_append];exact H) T ?_ (H.lt g rfl).2;rcases A with A|A
 .left;simpa [Value.ownBlock]using A
 .right;simpa [Value.ownBlock]using A
theorem Ay(w:Zh){a:Act}{K:Act->Zh->Prop}{Q:Exit->Act->Zh->Prop}(D:o.guard=none)(G x:Operand)(t:TypeId)(L:o.op=.call {callee:=.builtin .append,args:= #[G,x],argTypes:= #[t,t]})(b:Nat)(e:TypeId)(i:TypeInfo)(z:Value)(bytes:Nat)(N:P.underlying t=some (.slice e))(I:P.info? e=some i)(X:i.zero=some z)(r:i.size=1)(S:i.bytes=bytes)(U:z.cells.size=1)(q n v:Nat)(H:Zl)(M:a.eval G=Yz q n v)(d:w.ownsRow b e 1 (Yz q n v) n (H.map Value.string))(u:Zk)(m c:Nat)(y:Zl)(O:a.eval x=.slice u m c)(J:y.length=m)(C:u=none->m=0/\c=0)(l:∀A,u=some A->∀j s,y[j]?=some s->w.cell? (A.add j)=some (.string s))(R:n+m<=maxLen)(f:(n+m) *bytes<=140737488355328)(k:b<=w.heap.size)(h:∀g cap B,B.ownsRow b e 1 (Yz g (n+m) cap) (n+m) ((H++y).map Value.string)->w.grownBy B (some q)->(g=q\/g=w.heap.size)->g<B.heap.size->K (a.put o.dst (Yz g (n+m) cap)) B):
 if Region.wanted o (yielded F a.tmps)=true then Oper.wp P o a w K Q else E:=by
 cases u with
 |some A=>exact KW w D G x t L b e i z bytes N I X r S U q n v H M d A m c y O J (l A rfl) R f k h
 |none=>
  obtain⟨rfl,rfl⟩:=C rfl;have T:=List.eq_nil_of_length_eq_zero J;subst T;have W:Region.wanted o (yielded F a.tmps)=true:=by simp[Region.wanted,D]
  rw[if_pos W];have V:=run_append_owned_none (P:=P) w b t o.type e i 1 N I _ n _ d;unfold Oper.wp execOp;simp only[L,resolve,invoke,builtin,Sem.run_bind,Sem.run_pure,Result.andThen_ok,List.map_toArray,List.map_cons,List.map_nil,M,O,V];exact h q v w (by simpa using d) ⟨rfl,rfl,rfl,Zx,fun _ _ _=>rfl⟩ (.inl rfl) (d.lt q rfl).2
theorem Ad.ay{a:Zk}{d:Zl}(h:Ad w B a d):∀A,a=some A->∀j s,d[j]?=some s->w.cell? (A.add j)=some (.string s):=by
 rintro A rfl j s c;rcases h with h|⟨b,g,e,_,f⟩
 .subst h;simp at c
 .cases e;have:=f j s c;rw[Go.WideShapes.add_plain];exact this
def DG(k:Nat):Bool:=k==2||k==4||k==7
def CP(k:Nat):Bool:=k==2||k==3
def CD(k:Nat):Bool:=k==1
def Cc(k:Nat):Int:=if k=1\/k=4\/k=6 then 100000 else if k=5 then 1000000000 else 0
def DZ(u:Bool)(s:Zi)(wd:Int):Bool:=if u then decide ((s.size:Int)=wd)else decide (s.size=0)
def Ei(u:Bool)(s:Zi):Bool:=if u then Cr s else decide (s.size=0)
def CX(m n:Int):Bool:=if m=0 then decide (n=0)else decide (1<=n/\n<=m)
def GW(u:Bool)(t:Zi)(ss:Zl)(wd:Int):Bool:=if u then AF t ss wd else decide (t.size=0/\ss.length=0)
theorem FC:s.toList.isEmpty=decide (s.size=0):=by
 have:s.toList.length=s.size:=by rw[ByteArray.toList_eq];simp
 rw[<-this];cases s.toList<;>simp
theorem PX(s:Zi)(a b c:Bool)(m f:Int)(w:Zh):
 Calls prog 71 #[.string s,.agg #[.bool a,.bool b,.bool c,Zg m],Zg f] w fun e h=>e=.returned (.bool (DZ b s f))/\Zz w h:=by
 cases b with
 |true=>go_enter func71,ntmps71;go_wp2;go_ret;exact⟨Az rfl,Zy⟩
 |false=>have d:=FC (s:=s);have g:=Yw d;clear d;go_enter func71,ntmps71;go_wp2;go_ret;exact⟨Az g.o,Zy⟩
theorem OE(s:Zi)(a b c:Bool)(m:Int)(w:Zh)(f:s.size<=maxLen):
 Calls prog 72 #[.string s,.agg #[.bool a,.bool b,.bool c,Zg m]] w fun e g=>e=.returned (.bool (Ei a s))/\Zz w g:=by
 cases a with
 |true=>go_enter func72,ntmps72;go_wp2_with fail;refine(Jq s _ f).mono ?_;rintro e h ⟨rfl,rfl⟩;go_wp2;go_ret;exact⟨Az rfl,Zy⟩
 |false=>have d:=Yw (FC (s:=s));go_enter func72,ntmps72;go_wp2;go_ret;exact⟨Az d.o,Zy⟩
theorem PY(n:Int)(a b c:Bool)(m:Int)(w:Zh):
 Calls prog 73 #[Zg n,.agg #[.bool a,.bool b,.bool c,Zg m]] w fun e f=>e=.returned (.bool (CX m n))/\Zz w f:=by
 by_cases hm:m=0
 .subst hm;go_enter func73,ntmps73;go_wp2;go_ret;exact⟨Az (by unfold CX;rw[if_pos rfl];rfl),Zy⟩
 .have h:(m==0)=false:=by simpa using hm
  have d:=Yw hm;clear hm;by_cases h1:1<=n
  .go_enter func73,ntmps73;go_wp2;go_ret;exact⟨Az (by unfold CX;rw[if_neg d.o];simp[h1]),Zy⟩
  .have g:decide (1<=n)=false:=by simpa using h1
   go_enter func73,ntmps73;go_wp2;go_ret;exact⟨Az (by unfold CX;rw[if_neg d.o,decide_eq_false Yv]),Zy⟩
theorem NM(t:Zi)(g:Zk)(cap:Nat)(d:Zl)(a b c:Bool)(m k:Int)(w:Zh)(i:Ad w w.heap.size g d)(o:d.length<=1048576)(q:t.size<=maxLen):
 Calls prog 74 #[.agg #[.string t,.slice g d.length cap],.agg #[.bool a,.bool b,.bool c,Zg m],Zg k] w fun e r=>e=.returned (.bool (GW c t d k))/\Zz w r:=by
 have f:Below w.heap.size w ((w.alloc (.cells #[.string t,.slice g d.length cap] 36)).alloc (.cells #[.bool a,.bool b,.bool c,Zg m] 124)):=(Zy).alloc Yu _;cases c with
 |true=>go_enter func74,ntmps74;go_wp2_with fail;refine(Dq t g cap d k _ (i.N f) o q).mono ?_;rintro e s ⟨rfl,rfl⟩;go_wp2;go_ret;exact⟨Az rfl,f.alloc Yt _⟩
 |false=>
  by_cases h1:t.size=0
  .have n:t.toList.isEmpty=true:=by rw[FC];simpa using h1
   have j:=Yw h1;clear h1;go_enter func74,ntmps74;go_wp2;go_ret;refine⟨Az ?_,f⟩;unfold GW;rw[if_neg Yq];have l:=j.o;by_cases hs0:d.length=0
   .rw[decide_eq_true ⟨l,hs0⟩];simp[hs0]
   .rw[decide_eq_false (fun h=>hs0 h.2)];simp;intro h;exact hs0 (by rw[h];rfl)
  .have n:t.toList.isEmpty=false:=by rw[FC];simpa using h1
   have j:=Yw h1;clear h1;go_enter func74,ntmps74;go_wp2;go_ret;refine⟨Az ?_,f⟩;unfold GW;rw[if_neg Yq,decide_eq_false (fun h=>j.o h.1)]
def It(w:Zh):Prop:=∀k,1<=k->k<=7->w.cell? (Zd 5 (k *4))=some (.bool (CP k))/\w.cell? (Zd 5 (k *4+1))=some (.bool (DG k))/\w.cell? (Zd 5 (k *4+2))=some (.bool (CD k))/\w.cell? (Zd 5 (k *4+3))=some (Zg (Cc k))
theorem It.below{g:Zh}(h:It w)(f:Zz w g):It g:=by intro k i j;obtain⟨a,b,c,d⟩:=h k i j;have e:=World.block_lt_of_cell? w _ a;exact⟨(f.cell (p:=⟨5,k *4,none⟩) e).trans a,(f.cell (p:=⟨5,k *4+1,none⟩) e).trans b,(f.cell (p:=⟨5,k *4+2,none⟩) e).trans c,(f.cell (p:=⟨5,k *4+3,none⟩) e).trans d⟩
theorem KE(k:Nat)(w:Zh)(d:It w)(b:1<=k)(c:k<=7):
 Calls prog 58 #[Zg k] w fun e f=>e=.returned (.tuple #[.agg #[.bool (CP k),.bool (DG k),.bool (CD k),Zg (Cc k)],.bool true])/\Zz w f:=by
 obtain⟨a,h,c2,c3⟩:=d k b c;have g:=World.block_lt_of_cell? w _ a;have i:decide ((k:Int)<1)=false:=Yt
 have j:decide ((7:Int)<k)=false:=Yt
 have l:(k:Int)<8:=Yv
 go_enter func58,ntmps58;go_wp2;exact bodyPost_ret (v:=.tuple #[.agg #[.bool (CP k),.bool (DG k),.bool (CD k),Zg (Cc k)],.bool true]) (by simp[results,results58,go_sem]) rfl ⟨rfl,Zy⟩
theorem LD(k:Int)(w:Zh)(h:¬(1<=k/\k<=7)):
 Calls prog 58 #[Zg k] w fun e b=>e=.returned (.tuple #[.agg #[.bool false,.bool false,.bool false,Ze],.bool false])/\Zz w b:=by
 by_cases h1:k<1
 .have a:decide (k<1)=true:=by simpa using h1
  go_enter func58,ntmps58;go_wp2;exact bodyPost_ret (v:=.tuple #[.agg #[.bool false,.bool false,.bool false,Ze],.bool false]) (by simp[results,results58,go_sem]) rfl ⟨rfl,Zy⟩
 .have a:decide (k<1)=false:=by simpa using h1
  have c:decide (7<k)=true:=Yt
  go_enter func58,ntmps58;go_wp2;exact bodyPost_ret (v:=.tuple #[.agg #[.bool false,.bool false,.bool false,Ze],.bool false]) (by simp[results,results58,go_sem]) rfl ⟨rfl,Zy⟩
def Cu(k:Nat)(sum name:Zi)(n:Int)(t:Zi)(ss:Zl)(wd:Int):Bool:=
 decide (1<=wd/\wd<=8)&&(DZ (DG k) sum wd&&(Ei (CP k) name&&(CX (Cc k) n&&GW (CD k) t ss wd)))
abbrev Ej(k:Int)(sum name:Zi)(n:Int)(t:Zi)(ad:Zk)(len cap:Nat):Array Value:= #[Zg k,.string sum,.string name,Zg n,.string t,.slice ad len cap]
theorem PZ(k:Int)(c a:Zi)(n:Int)(t:Zi)(d:Zk)(cap:Nat)(g:Zl)(i:Int)(w:Zh)(f:¬(1<=k/\k<=7)):
 Calls prog 28 #[.agg (Ej k c a n t d g.length cap),Zg i] w fun e h=>e=.returned (.bool false)/\Zz w h:=by
 go_enter func28,ntmps28;go_wp2_with fail;refine(LD k _ f).mono ?_;rintro e j ⟨rfl,b⟩;go_wp2;go_ret;exact⟨rfl,((Zy).trans (b.mono Yu)).alloc (by have:=b.size;simp at this;omega) _⟩
structure EB (W:Zh) (B P:Nat) (sum name:Zi) (n:Int) (t:Zi) (v:Value) (a b c:Bool) (m:Int):Prop where
 x1:W.cell? (Zd B 1)=some (.string sum)
 x2:W.cell? (Zd B 2)=some (.string name)
 x3:W.cell? (Zd B 3)=some (Zg n)
 x4:W.cell? (Zd B 4)=some (.string t)
 x5:W.cell? (Zd B 5)=some v
 y0:W.cell? (Zd P 0)=some (.bool a)
 y1:W.cell? (Zd P 1)=some (.bool b)
 y2:W.cell? (Zd P 2)=some (.bool c)
 y3:W.cell? (Zd P 3)=some (Zg m)
theorem EB.below{j:Zh}{P:Nat}{i:Zi}{n:Int}{a b c:Bool}{m:Int}(h:EB W B P i e n t v a b c m)(d:Zz W j):EB j B P i e n t v a b c m:=by
 have f:=World.block_lt_of_cell? W _ h.x1;have g:=World.block_lt_of_cell? W _ h.y0;exact⟨(d.cell (p:=⟨B,1,none⟩) f).trans h.x1,(d.cell (p:=⟨B,2,none⟩) f).trans h.x2,(d.cell (p:=⟨B,3,none⟩) f).trans h.x3,(d.cell (p:=⟨B,4,none⟩) f).trans h.x4,(d.cell (p:=⟨B,5,none⟩) f).trans h.x5,
  (d.cell (p:=⟨P,0,none⟩) g).trans h.y0,(d.cell (p:=⟨P,1,none⟩) g).trans h.y1,(d.cell (p:=⟨P,2,none⟩) g).trans h.y2,(d.cell (p:=⟨P,3,none⟩) g).trans h.y3⟩
theorem LF(k:Nat)(f a:Zi)(n:Int)(t:Zi)(u:Zk)(cap:Nat)(i:Zl)(c:Int)(w:Zh)(hT:It w)(Z:1<=k)(h7:k<=7)(J:Ad w w.heap.size u i)(hl:i.length<=1048576)(ht:t.size<=maxLen)(hn:a.size<=maxLen):
 Calls prog 28 #[.agg (Ej k f a n t u i.length cap),Zg c] w fun e w'=>e=.returned (.bool (Cu k f a n t i c))/\Zz w w':=by
 have L:Below w.heap.size w (w.alloc (.cells (Ej k f a n t u i.length cap) 38)):=Zy;go_enter func28,ntmps28;go_wp2_with fail;refine(KE k _ (hT.below L) Z h7).mono ?_;rintro e g ⟨rfl,d⟩;have T:=d.size;simp at T;have b:w.heap.size<g.heap.size:=Yv
 have K:=L.trans (d.mono Yu);obtain⟨R,S⟩:=Wg d;have j:g.cell? (Zd (w.heap.size) 1)=some (.string f):=by rw[d.cell (p:=⟨w.heap.size,1,none⟩) Yu];simp
 have l:g.cell? (Zd (w.heap.size) 2)=some (.string a):=by rw[d.cell (p:=⟨w.heap.size,2,none⟩) Yu];simp
 have m:g.cell? (Zd (w.heap.size) 3)=some (Zg n):=by rw[d.cell (p:=⟨w.heap.size,3,none⟩) Yu];simp
 have o:g.cell? (Zd (w.heap.size) 4)=some (.string t):=by rw[d.cell (p:=⟨w.heap.size,4,none⟩) Yu];simp
 have q:g.cell? (Zd (w.heap.size) 5)=some (.slice u i.length cap):=by rw[d.cell (p:=⟨w.heap.size,5,none⟩) Yu];simp
 clear R S;obtain⟨O,y⟩:=Af (g.alloc (.cells #[.bool (CP k),.bool (DG k),.bool (CD k),Zg (Cc k)] 124));have h:Below g.heap.size g O:=by rw[y];exact Zy
 have P:EB O w.heap.size g.heap.size f a n t (.slice u i.length cap) (CP k) (DG k) (CD k) (Cc k):=by refine⟨(h.cell (p:=⟨w.heap.size,1,none⟩) b).trans j,(h.cell (p:=⟨w.heap.size,2,none⟩) b).trans l,(h.cell (p:=⟨w.heap.size,3,none⟩) b).trans m,(h.cell (p:=⟨w.heap.size,4,none⟩) b).trans o,(h.cell (p:=⟨w.heap.size,5,none⟩) b).trans q,?_,?_,?_,?_⟩<;>(rw[y];simp)
 have v:=K.trans (h.mono K.size);have D:=Yw y;clear y;by_cases hw:1<=c/\c<=8
 .obtain⟨M,N⟩:=hw;have r:decide (1<=c/\c<=8)=true:=by simp[M,N]
  have s:=Yw r;clear r;go_wp2_with (go_at_call 16;go_in);rw[<-D.o];refine(PX f (CP k) (DG k) (CD k) (Cc k) c O).mono ?_;rintro e w3 ⟨rfl,G⟩;have U:=P.below G;have E:=v.trans (G.mono v.size);clear P G;cases hs:DZ (DG k) f c with
  |false=>go_wp2;go_ret;exact⟨Az (by unfold Cu;rw[hs];simp),E⟩
  |true=>
   have Y:=Yw hs;clear hs;obtain⟨j,l,m,o,q,z,A,B,C⟩:=U;go_wp2_with fail;refine(OE a (CP k) (DG k) (CD k) (Cc k) _ hn).mono ?_;rintro e w4 ⟨rfl,H⟩;have V:=(EB.mk j l m o q z A B C).below H;have F:=E.trans (H.mono E.size);clear j l m o q z A B C H;cases hnm:Ei (CP k) a with
   |false=>go_wp2;go_ret;exact⟨Az (by unfold Cu;rw[hnm];simp),F⟩
   |true=>
    have HN:=Yw hnm;clear hnm;obtain⟨j,l,m,o,q,z,A,B,C⟩:=V;go_wp2_with fail;refine(PY n (CP k) (DG k) (CD k) (Cc k) _).mono ?_;rintro e w5 ⟨rfl,I⟩;have X:=(EB.mk j l m o q z A B C).below I;have x:=F.trans (I.mono F.size);clear j l m o q z A B C I;cases hnu:CX (Cc k) n with
    |false=>go_wp2;go_ret;exact⟨Az (by unfold Cu;rw[hnu];simp),x⟩
    |true=>have HU:=Yw hnu;clear hnu;obtain⟨j,l,m,o,q,z,A,B,C⟩:=X;go_wp2_with fail;refine(NM t u cap i (CP k) (DG k) (CD k) (Cc k) c _ (J.N x) hl ht).mono ?_;rintro e w6 ⟨rfl,Q⟩;go_wp2;go_ret;exact⟨Az (by unfold Cu;rw[s.o,Y.o,HN.o,HU.o];rfl),x.trans (Q.mono x.size)⟩
 .have r:decide (1<=c/\c<=8)=false:=by simpa using hw
  have s:=Yw r;clear r;by_cases M:1<=c
  .have N:decide (c<=8)=false:=Yt
   go_wp2;go_ret;refine⟨Az (by unfold Cu;rw[s.o];rfl),?_⟩;rw[<-D.o];exact v
  .go_wp2;go_ret;refine⟨Az (by unfold Cu;rw[s.o];rfl),?_⟩;rw[<-D.o];exact v
def JA(k:Nat):Int:=if k=1\/k=4\/k=6 then 1 else if k=5 then 2 else 0
theorem UB(k:Nat)(w:Zh)(a:1<=k)(b:k<=7):
 Calls prog 97 #[Zg k] w fun e c=>e=.returned (.tuple #[.bool (DG k),.bool (CP k),Zg (JA k),.bool (CD k)])/\c=w:=by
 match k,a,b with
 |1,_,_|2,_,_|3,_,_|4,_,_|5,_,_|6,_,_|7,_,_=>
  go_enter func97,ntmps97;go_wp2;refine bodyPost_ret ?_ rfl ⟨rfl,rfl⟩;simp[results,results97,go_sem,DG,CP,JA,CD]
theorem UC(k:Nat)(n:Int)(w:Zh):
 Calls prog 98 #[Zg n,Zg (JA k)] w fun e f=>e=.returned (.bool (CX (Cc k) n))/\f=w:=by
 have d:(JA k=1/\Cc k=100000)\/(JA k=2/\Cc k=1000000000)\/(JA k=0/\Cc k=0):=by
  unfold JA Cc;split
  .exact .inl ⟨rfl,rfl⟩
  .split
   .exact .inr (.inl ⟨rfl,rfl⟩)
   .exact .inr (.inr ⟨rfl,rfl⟩)
 rcases d with⟨a,b⟩|⟨a,b⟩|⟨a,b⟩<;>rw[a,b]
 .by_cases hn:1<=n
  .go_enter func98,ntmps98;go_wp2;go_ret;exact⟨Az (by unfold CX;rw[if_neg Yq];simp[hn]),rfl⟩
  .have c:decide (1<=n)=false:=by simpa using hn
   go_enter func98,ntmps98;go_wp2;go_ret;exact⟨Az (by unfold CX;rw[if_neg Yq,decide_eq_false Yv]),rfl⟩
 .by_cases hn:1<=n
  .go_enter func98,ntmps98;go_wp2;go_ret;exact⟨Az (by unfold CX;rw[if_neg Yq];simp[hn]),rfl⟩
  .have c:decide (1<=n)=false:=by simpa using hn
   go_enter func98,ntmps98;go_wp2;go_ret;exact⟨Az (by unfold CX;rw[if_neg Yq,decide_eq_false Yv]),rfl⟩
 .go_enter func98,ntmps98;go_wp2;go_ret;exact⟨Az (by unfold CX;rw[if_pos rfl];rfl),rfl⟩
theorem UD(k:Int)(f b:Zi)(n:Int)(t:Zi)(g:Zk)(cap:Nat)(i:Zl)(a:Int)(w:Zh)(m:¬(1<=k/\k<=7)):
 Calls prog 44 #[.agg (Ej k f b n t g i.length cap),Zg a] w fun e j=>e=.returned (.bool false)/\Zz w j:=by
 by_cases hw:1<=a/\a<=8
 .obtain⟨c,d⟩:=hw;by_cases h1:k<1
  .have h:decide (k<1)=true:=by simpa using h1
   go_enter func44,ntmps44;go_wp2;go_ret;exact⟨rfl,Zy⟩
  .have h:decide (k<1)=false:=by simpa using h1
   have l:decide (7<k)=true:=Yt
   go_enter func44,ntmps44;go_wp2;go_ret;exact⟨rfl,Zy⟩
 .by_cases c:1<=a
  .have d:decide (a<=8)=false:=Yt
   go_enter func44,ntmps44;go_wp2;go_ret;exact⟨rfl,Zy⟩
  .go_enter func44,ntmps44;go_wp2;go_ret;exact⟨rfl,Zy⟩
theorem SP(k:Nat)(d b:Zi)(n:Int)(t:Zi)(g:Zk)(cap:Nat)(f:Zl)(a:Int)(w:Zh)(h:¬(1<=a/\a<=8)):
 Calls prog 44 #[.agg (Ej k d b n t g f.length cap),Zg a] w fun e i=>e=.returned (.bool (Cu k d b n t f a))/\Zz w i:=by
 have c:Hid (decide (1<=a/\a<=8)=false):=by show _=_;simpa using h
 by_cases hw1:1<=a
 .have j:decide (a<=8)=false:=Yt
  go_enter func44,ntmps44;go_wp2;go_ret;exact⟨Az (by unfold Cu;rw[c.o];rfl),Zy⟩
 .go_enter func44,ntmps44;go_wp2;go_ret;exact⟨Az (by unfold Cu;rw[c.o];rfl),Zy⟩
theorem IJ{a:Zl}(b:t.size=0):((a.length:Int)==0)=(true&&(true&&(true&&GW false t a c))):=by
 unfold GW;rw[if_neg Yq];by_cases hs0:a.length=0
 .rw[decide_eq_true ⟨b,hs0⟩];simp[hs0]
 .rw[decide_eq_false (fun h=>hs0 h.2)];simp;intro h;exact hs0 (by rw[h];rfl)
theorem IK{b:Zl}(a:¬t.size=0):false=(true&&(true&&(true&&GW false t b c))):=by unfold GW;rw[if_neg Yq,decide_eq_false (fun h=>a h.1)];rfl
theorem QI(k:Nat)(d a:Zi)(n:Int)(t:Zi)(o:Zk)(cap:Nat)(l:Zl)(g:Int)(w:Zh)(E:1<=k)(F:k<=7)(C:1<=g)(D:g<=8)(i:Ad w w.heap.size o l)(s:l.length<=1048576)(u:t.size<=maxLen)(z:a.size<=maxLen):
 Calls prog 44 #[.agg (Ej k d a n t o l.length cap),Zg g] w fun e G=>e=.returned (.bool (Cu k d a n t l g))/\Zz w G:=by
 have b:Below w.heap.size w (w.alloc (.cells (Ej k d a n t o l.length cap) 38)):=Zy;have B:Hid (decide (1<=g/\g<=8)=true):=by show _=_;simp[C,D]
 have J:decide ((k:Int)<1)=false:=Yt
 have K:decide ((7:Int)<k)=false:=Yt
 have HU:=UB k;have x:=UC k n;unfold Cu;rw[B.o,Bool.true_and];generalize JA k=kn at *
 generalize CX (Cc k) n=nu at *
 generalize hks:DG k=us at *
 generalize hkn:CP k=un at *
 generalize hkt:CD k=ut at *
 have A:=Yw HU;have v:=Yw x;clear HU x hks hkn hkt;go_enter func44,ntmps44;go_wp2_with (go_at_call 20;go_in);refine(A.o _ E F).mono ?_;rintro e L ⟨rfl,rfl⟩;cases us with
 |true=>
  by_cases hs:(d.size:Int)=g
  .have r:((d.size:Int) !=g)=false:=by simpa using hs
   have f:Hid (DZ true d g=true):=by show _=_;simpa [DZ]using hs
   clear hs;go_wp2_with fail;refine(v.o _).mono ?_;rintro e H ⟨rfl,rfl⟩;cases nu with
   |false=>go_wp2;go_ret;exact⟨Az Yu,b⟩
   |true=>
    cases un with
    |true=>
     go_wp2_with fail;refine(Nc a _ z).mono ?_;rintro e I ⟨rfl,rfl⟩;cases hno:Cr a with
     |false=>go_wp2;go_ret;exact⟨Az (by simp[Ei,hno]),b⟩
     |true=>
      have c:Hid (Ei true a=true):=hno;clear hno;cases ut with
      |true=>go_wp2_with fail;refine(De t o cap l g _ (i.N b) s u).mono ?_;rintro e y ⟨rfl,j⟩;go_wp2;go_ret;exact⟨Az (by rw[f.o,c.o];rfl),b.trans (j.mono Yu)⟩
      |false=>
       by_cases h0:t.size=0
       .have q:t.toList.isEmpty=true:=by rw[FC];simpa using h0
        have h:=Yw h0;clear h0;go_wp2;go_ret;exact⟨Az (by rw[f.o,c.o];exact IJ h.o),b⟩
       .have q:t.toList.isEmpty=false:=by rw[FC];simpa using h0
        have h:=Yw h0;clear h0;go_wp2;go_ret;exact⟨Az (by rw[f.o,c.o];exact IK h.o),b⟩
    |false=>
     by_cases hno:a.size=0
     .have m:a.toList.isEmpty=true:=by rw[FC];simpa using hno
      have c:Hid (Ei false a=true):=by show _=_;simpa [Ei]using hno
      clear hno;cases ut with
      |true=>go_wp2_with fail;refine(De t o cap l g _ (i.N b) s u).mono ?_;rintro e y ⟨rfl,j⟩;go_wp2;go_ret;exact⟨Az (by rw[f.o,c.o];rfl),b.trans (j.mono Yu)⟩
      |false=>
       by_cases h0:t.size=0
       .have q:t.toList.isEmpty=true:=by rw[FC];simpa using h0
        have h:=Yw h0;clear h0;go_wp2;go_ret;exact⟨Az (by rw[f.o,c.o];exact IJ h.o),b⟩
       .have q:t.toList.isEmpty=false:=by rw[FC];simpa using h0
        have h:=Yw h0;clear h0;go_wp2;go_ret;exact⟨Az (by rw[f.o,c.o];exact IK h.o),b⟩
     .have m:a.toList.isEmpty=false:=by rw[FC];simpa using hno
      have c:Hid (Ei false a=false):=by show _=_;simpa [Ei]using hno
      clear hno;go_wp2;go_ret;exact⟨Az (by rw[c.o];simp),b⟩
  .have r:((d.size:Int) !=g)=true:=by simpa using hs
   have f:Hid (DZ true d g=false):=by show _=_;simpa [DZ]using hs
   clear hs;go_wp2;go_ret;exact⟨Az (by rw[f.o];rfl),b⟩
 |false=>
  by_cases hs:d.size=0
  .have r:d.toList.isEmpty=true:=by rw[FC];simpa using hs
   have f:Hid (DZ false d g=true):=by show _=_;simpa [DZ]using hs
   clear hs;go_wp2_with fail;refine(v.o _).mono ?_;rintro e H ⟨rfl,rfl⟩;cases nu with
   |false=>go_wp2;go_ret;exact⟨Az Yu,b⟩
   |true=>
    cases un with
    |true=>
     go_wp2_with fail;refine(Nc a _ z).mono ?_;rintro e I ⟨rfl,rfl⟩;cases hno:Cr a with
     |false=>go_wp2;go_ret;exact⟨Az (by simp[Ei,hno]),b⟩
     |true=>
      have c:Hid (Ei true a=true):=hno;clear hno;cases ut with
      |true=>go_wp2_with fail;refine(De t o cap l g _ (i.N b) s u).mono ?_;rintro e y ⟨rfl,j⟩;go_wp2;go_ret;exact⟨Az (by rw[f.o,c.o];rfl),b.trans (j.mono Yu)⟩
      |false=>
       by_cases h0:t.size=0
       .have q:t.toList.isEmpty=true:=by rw[FC];simpa using h0
        have h:=Yw h0;clear h0;go_wp2;go_ret;exact⟨Az (by rw[f.o,c.o];exact IJ h.o),b⟩
       .have q:t.toList.isEmpty=false:=by rw[FC];simpa using h0
        have h:=Yw h0;clear h0;go_wp2;go_ret;exact⟨Az (by rw[f.o,c.o];exact IK h.o),b⟩
    |false=>
     by_cases hno:a.size=0
     .have m:a.toList.isEmpty=true:=by rw[FC];simpa using hno
      have c:Hid (Ei false a=true):=by show _=_;simpa [Ei]using hno
      clear hno;cases ut with
      |true=>go_wp2_with fail;refine(De t o cap l g _ (i.N b) s u).mono ?_;rintro e y ⟨rfl,j⟩;go_wp2;go_ret;exact⟨Az (by rw[f.o,c.o];rfl),b.trans (j.mono Yu)⟩
      |false=>
       by_cases h0:t.size=0
       .have q:t.toList.isEmpty=true:=by rw[FC];simpa using h0
        have h:=Yw h0;clear h0;go_wp2;go_ret;exact⟨Az (by rw[f.o,c.o];exact IJ h.o),b⟩
       .have q:t.toList.isEmpty=false:=by rw[FC];simpa using h0
        have h:=Yw h0;clear h0;go_wp2;go_ret;exact⟨Az (by rw[f.o,c.o];exact IK h.o),b⟩
     .have m:a.toList.isEmpty=false:=by rw[FC];simpa using hno
      have c:Hid (Ei false a=false):=by show _=_;simpa [Ei]using hno
      clear hno;go_wp2;go_ret;exact⟨Az (by rw[c.o];simp),b⟩
  .have r:d.toList.isEmpty=false:=by rw[FC];simpa using hs
   have f:Hid (DZ false d g=false):=by show _=_;simpa [DZ]using hs
   clear hs;go_wp2;go_ret;exact⟨Az (by rw[f.o];rfl),b⟩
def u8(x:Int):UInt8:=UInt8.ofNat x.toNat
theorem EN(x:Int)(a:0<=x)(h:x<256):Value.int .u8 x=.int .u8 ((u8 x).toNat:Int):=by
 have:(u8 x).toNat=x.toNat:=by simp[u8];omega
 rw[this];congr 1;omega
def Ck(k n m:Int):List UInt8:=[u8 k,u8 (n/16777216),u8 (n/65536%256),u8 (n/256%256),u8 (n%256),u8 m]
def CY(k:Nat)(sum name:Zi)(n:Int)(t:Zi)(ss:Zl):List UInt8:=
 Ck k n name.size++name.data.toList++sum.data.toList++(if k=1 then BG t ss else [])
theorem Hq(w:Zh){l:Array Oper}{a:Act}{K:Act->Zh->Prop}{Q:Exit->Act->Zh->Prop}(z:o.guard=none)(q x:Operand)(t u:TypeId)(D:o.op=.call {callee:=.builtin .append,args:= #[q,x],argTypes:= #[t,u]})(b:Nat)(e:TypeId)(i:TypeInfo)(H:P.underlying t=some (.slice e))(I:P.underlying u=some .string)(C:P.info? e=some i)(M:i.zero=some (.int .u8 0))(f:i.size=1)(y:i.bytes=1)(v:Value)(n:Nat)(m:Zj)(G:a.eval q=v)(k:w.ownsRow b e 1 v n m)(s:Zi)(L:a.eval x=.string s)(r:n+s.size<=maxLen)(c:n+s.size<=140737488355328)(d:b<=w.heap.size)(h:∀j g,g.ownsRow b e 1 j (n+s.size) (m++Lib.strCells s)->w.grownBy g v.ownBlock->K (a.put o.dst j) g):
 if Region.wanted o (yielded l a.tmps)=true then Oper.wp P o a w K Q else E:=by
 have J:Region.wanted o (yielded l a.tmps)=true:=by simp[Region.wanted,z]
 rw[if_pos J];obtain⟨j,g,F,A,B,_⟩:=Lib.run_append_own_string (P:=P) w b t u o.type e i H I C M f y v n m k s r c d;unfold Oper.wp execOp;simp only[D,resolve,invoke,builtin,Sem.run_bind,Sem.run_pure,Result.andThen_ok,List.map_toArray,List.map_cons,List.map_nil,G,L,F];exact h j g A B
structure Wi (k:Nat) (sum name:Zi) (n:Int) (t:Zi) (ss:Zl) (wd:Int):Prop where
 w1:1<=wd
 w2:wd<=8
 sum:sum.size<=8
 name:name.size<=40
 n0:0<=n
 n1:n<=1000000000
 dt:k=1->AF t ss wd=true
theorem Eh{a:Zi}{n:Int}{f:Zl}{g:Int}(h:Cu k e a n t f g=true):Wi k e a n t f g:=by
 unfold Cu at h;simp only[Bool.and_eq_true,decide_eq_true_eq]at h;obtain⟨⟨i,j⟩,d,b,c,m⟩:=h;refine⟨i,j,?_,?_,?_,?_,?_⟩
 .unfold DZ at d;split at d<;>simp at d
  .omega
  .simp[d]
 .unfold Ei at b;split at b
  .unfold Cr at b;simp at b;omega
  .simp at b;simp[b]
 .unfold CX at c;split at c<;>simp at c<;>omega
 .have o:Cc k<=1000000000:=by
   unfold Cc;split
   .omega
   .split<;>omega
  unfold CX at c;split at c<;>simp at c<;>omega
 .intro l;subst l;exact m
theorem SQ:(prog.info? 5).map (fun i=>(i.zero,i.size,i.bytes))=some (some (.int .u8 0),1,1):=Yr
theorem SR(k n m:Int)(a:0<=k)(c:k<256)(e:0<=n)(f:n<=1000000000)(b:0<=m)(d:m<256):
 [Value.int .u8 k,.int .u8 (n/16777216),.int .u8 (n/65536%256),.int .u8 (n/256%256),.int .u8 (n%256),.int .u8 m]=Lib.byteCells (Ck k n m):=by
 rw[EN k a c,EN (n/16777216) Yv Yv,EN (n/65536%256) Yv Yv,EN (n/256%256) Yv Yv,EN (n%256) Yv Yv,EN m b d];rfl
theorem QJ{a:Nat}{e:TypeId}(h:w.ownsRow a e 1 v n d)(f:b<a):some b≠v.ownBlock:=by intro c;have:=(h.lt b c.symm).1;omega
theorem SV(k:Nat)(c b:Zi)(n:Int)(t:Zi)(A:Zk)(cap:Nat)(d:Zl)(T:Int)(w:Zh)(h1:1<=k)(h7:k<=7)(u:Ad w w.heap.size A d)(hl:d.length<=1048576)(ht:t.size<=maxLen)(G:Cu k c b n t d T=true):
 Calls prog 45 #[.agg (Ej k c b n t A d.length cap),Zg T] w fun e w'=>e=.returned (.string ⟨(CY k c b n t d).toArray⟩)/\Zz w w':=by
 have hp:=Eh G;obtain⟨zP,zR,zV,zE,zK,zM,H⟩:=hp;obtain⟨i0,hi,R,S,v⟩:=info_parts SQ;have N:Below w.heap.size w (w.alloc (.cells (Ej k c b n t A d.length cap) 38)):=Zy;go_enter func45,ntmps45;go_wp2_with fail;refine(QI k c b n t A cap d T _ h1 h7 zP zR (u.N N) hl ht Yo).mono ?_;rintro e g ⟨rfl,i⟩;rw[G];have hz:=i.size;simp at hz;have f:w.heap.size<g.heap.size:=Yv
 have L:=N.trans (i.mono Yu);have U:g.cell? (Zd (w.heap.size) 0)=some (Zg k):=by rw[i.cell (p:=⟨w.heap.size,0,none⟩) Yu];simp
 have V:g.cell? (Zd (w.heap.size) 1)=some (.string c):=by rw[i.cell (p:=⟨w.heap.size,1,none⟩) Yu];simp
 have x2:g.cell? (Zd (w.heap.size) 2)=some (.string b):=by rw[i.cell (p:=⟨w.heap.size,2,none⟩) Yu];simp
 have x3:g.cell? (Zd (w.heap.size) 3)=some (Zg n):=by rw[i.cell (p:=⟨w.heap.size,3,none⟩) Yu];simp
 have X:g.cell? (Zd (w.heap.size) 4)=some (.string t):=by rw[i.cell (p:=⟨w.heap.size,4,none⟩) Yu];simp
 have Y:g.cell? (Zd (w.heap.size) 5)=some (.slice A d.length cap):=by rw[i.cell (p:=⟨w.heap.size,5,none⟩) Yu];simp
 have I:=u.below L;have zF:=Yw G;clear G H u i N;obtain⟨z,C⟩:=Af (g.alloc (.cells #[.int .u8 k,.int .u8 (n/16777216),.int .u8 (n/65536%256),.int .u8 (n/256%256),.int .u8 (n%256),.int .u8 b.size] 5));have D:z.ownsRow g.heap.size 5 1 (Yz g.heap.size 6 6) 6 (Lib.byteCells (Ck k n b.size)):=by rw[C,<-SR k n b.size Yv Yv zK zM Yv Yv];exact World.ownsRow_lit g _ 6 (Zx) (by simp[maxLen]) rfl
 have l:Below g.heap.size g z:=by rw[C];exact Zy
 have zC:=l.size;have HW:=Yw C;clear C;go_wp2;rw[<-HW.o];have U:z.cell? (Zd (w.heap.size) 0)=some (Zg k):=(l.cell (p:=⟨w.heap.size,0,none⟩) f).trans U;have V:z.cell? (Zd (w.heap.size) 1)=some (.string c):=(l.cell (p:=⟨w.heap.size,1,none⟩) f).trans V;have x2:z.cell? (Zd (w.heap.size) 2)=some (.string b):=(l.cell (p:=⟨w.heap.size,2,none⟩) f).trans x2
 have X:z.cell? (Zd (w.heap.size) 4)=some (.string t):=(l.cell (p:=⟨w.heap.size,4,none⟩) f).trans X;have Y:z.cell? (Zd (w.heap.size) 5)=some (.slice A d.length cap):=(l.cell (p:=⟨w.heap.size,5,none⟩) f).trans Y;have h:=QJ D f
 go_region_law (first
  |(refine Hq _ rfl (.tmp 35) (.tmp 37) 22 9 rfl g.heap.size 5 i0 underlying22 underlying9 hi R S v _ 6 (Lib.byteCells (Ck k n b.size)) rfl (by exact D) b rfl Yo Yv (by exact zC) ?_;intro v3 w3 E m;have y1:=m.cell (a:=⟨w.heap.size,1,none⟩) (by exact V) h)
  |(refine Hq _ rfl (.tmp 38) (.tmp 40) 22 9 rfl g.heap.size 5 i0 underlying22 underlying9 hi R S v _ (6+b.size) (Lib.byteCells (Ck k n b.size)++Lib.strCells b) rfl E c rfl Yo Yv (by have:=m.size;simp at this;omega) ?_;intro v4 w4 s r))
 all_goals
  have o:=QJ E f;have zS:=m.size;have yD:=r.size;simp at zS;have z0:=r.cell (a:=⟨w.heap.size,0,none⟩) (m.cell (a:=⟨w.heap.size,0,none⟩) (by exact U) h) o;have z4:=r.cell (a:=⟨w.heap.size,4,none⟩) (m.cell (a:=⟨w.heap.size,4,none⟩) (by exact X) h) o;have z5:=r.cell (a:=⟨w.heap.size,5,none⟩) (m.cell (a:=⟨w.heap.size,5,none⟩) (by exact Y) h) o
  have Z:Below g.heap.size g w4:=((l.drew).grown m (by exact zC) (fun k B=>(D.lt k B).1)).grown r Yv (fun k B=>(E.lt k B).1);obtain⟨g4,c4,zN,zY,zZ⟩:=s.form Yv;subst zN;have x:Lib.byteCells (Ck k n b.size)++Lib.strCells b++Lib.strCells c=Lib.byteCells (Ck k n b.size++b.data.toList++c.data.toList):=by rw[Lib.strCells_eq,Lib.strCells_eq,<-Lib.byteCells_append,<-Lib.byteCells_append]
  rw[x]at s;have M:=L.trans (Z.mono L.size);have J:=I.below (Z.mono Yv);clear x m r E U V x2 X Y y1 D l h o;by_cases hk1:k=1
  .subst hk1;have H:=(Eh zF.o).dt rfl;have Q:=Be H;have zX:=Q.bk;have yC:=Q.J;have yB:=Q.B;go_wp2_with fail;refine(MW t A cap d T w4 (J.mono Yv) H).mono ?_;rintro e w5 ⟨rfl,q⟩;have O:=s.kept (row:=none) ⟨q.os,q.tape,q.output,q.size,fun k B _=>q.block k B⟩ (.inr (by simp[Value.ownBlock]));have yE:=q.size;have zI:(BG t d).length<=3000:=by have:=Dx d;simp[BG,this];omega
   have zB:(ByteArray.mk (BG t d).toArray).size=(BG t d).length:=by simp[ByteArray.size]
   have K:=Yw zB;clear zB;obtain⟨F,hF⟩:=Af (ByteArray.mk (BG t d).toArray);rw[<-hF]at K |-;have zW:F.size<=3000:=by rw[K.o];exact zI
   have HF:=Yw hF;clear hF;go_wp2_with (at_builtin;refine Lib.wpList_append_own_string _ rfl _ _ 22 9 rfl g.heap.size 5 i0 underlying22 underlying9 hi R S v _ _ _ rfl O F rfl ?c3 ?c4 ?c5 ?_)
   case c3=>unfold maxLen;omega
   case c4=>omega
   case c5=>omega
   intro v6 w6 y zJ _;obtain⟨g6,c6,zO,zT,zU⟩:=y.form Yv;subst zO;have zG:=(q.mono M.size).grown zJ Yv (fun k B=>by have:=(O.lt k B).1;omega);have x:Lib.byteCells (Ck 1 n b.size++(b.data.toList++c.data.toList))++Lib.strCells F=Lib.byteCells (CY 1 c b n t d):=by rw[Lib.strCells_eq,<-Lib.byteCells_append,HF.o];unfold CY;rw[if_pos rfl];simp[List.append_assoc]
   rw[x]at y;have hlen:6+b.size+c.size+F.size=(CY 1 c b n t d).length:=by rw[K.o];simp[CY,Ck];omega
   rw[hlen]at y |-;have zH:=run_convert_bytes_back (P:=prog) w6 22 9 5 ⟨g6,0,none⟩ c6 (CY 1 c b n t d) underlying22 underlying5 underlying9 (fun j hj=>y.cells rfl j _ (by simp[Lib.byteCells,hj]));clear y O x;go_wp2;go_ret;exact⟨rfl,M.trans zG⟩
  .have yA:((k:Int)==1)=false:=beq_eq_false_iff_ne.2 Yv;have hlen:6+b.size+c.size=(CY k c b n t d).length:=by unfold CY;rw[if_neg hk1];simp[Ck];omega
   have zA:Ck k n b.size++b.data.toList++c.data.toList=CY k c b n t d:=by unfold CY;rw[if_neg hk1,List.append_nil]
   rw[zA,hlen]at s;rw[hlen];have zH:=run_convert_bytes_back (P:=prog) w4 22 9 5 ⟨g4,0,none⟩ c4 (CY k c b n t d) underlying22 underlying5 underlying9 (fun j hj=>s.cells rfl j _ (by simp[Lib.byteCells,hj]));clear s zA;go_wp2;go_ret;exact⟨rfl,M⟩
def Bw(k:Int)(sum name:Zi)(n:Int)(t:Zi)(ss:Zl)(wd:Int):Bool:=decide (1<=k/\k<=7)&&Cu k.toNat sum name n t ss wd
theorem UE(k:Int)(b a:Zi)(n:Int)(t:Zi)(f:Zk)(cap:Nat)(c:Zl)(d:Int)(w:Zh)(g:Ad w w.heap.size f c)(h:c.length<=1048576)(j:t.size<=maxLen)(i:a.size<=maxLen):
 Calls prog 44 #[.agg (Ej k b a n t f c.length cap),Zg d] w fun e l=>e=.returned (.bool (Bw k b a n t c d))/\Zz w l:=by
 unfold Bw;by_cases hk:1<=k/\k<=7
 .obtain⟨m,rfl⟩:∃m:Nat,k=m:=⟨k.toNat,Yv⟩;rw[decide_eq_true hk,Bool.true_and,Int.toNat_natCast];by_cases hw:1<=d/\d<=8
  .exact QI m b a n t f cap c d w Yv Yv hw.1 hw.2 g h j i
  .exact SP m b a n t f cap c d w hw
 .rw[decide_eq_false hk,Bool.false_and];exact UD k b a n t f cap c d w hk
theorem UF(k:Int)(c a:Zi)(n:Int)(t:Zi)(d:Zk)(cap:Nat)(b:Zl)(f:Int)(w:Zh)(h:It w)(g:Ad w w.heap.size d b)(i:b.length<=1048576)(l:t.size<=maxLen)(j:a.size<=maxLen):
 Calls prog 28 #[.agg (Ej k c a n t d b.length cap),Zg f] w fun e o=>e=.returned (.bool (Bw k c a n t b f))/\Zz w o:=by
 unfold Bw;by_cases hk:1<=k/\k<=7
 .obtain⟨m,rfl⟩:∃m:Nat,k=m:=⟨k.toNat,Yv⟩;rw[decide_eq_true hk,Bool.true_and,Int.toNat_natCast];exact LF m c a n t d cap b f w h Yv Yv g i l j
 .rw[decide_eq_false hk,Bool.false_and];exact PZ k c a n t d cap b f w hk
def Ch(k:Int)(sum name:Zi)(n:Int)(t:Zi)(ss:Zl)(wd:Int):Zi:=if Bw k sum name n t ss wd=true then ⟨(CY k.toNat sum name n t ss).toArray⟩else ByteArray.empty
section
open Go.RowKit Go.Extern.Stop Go.Stop Go.Extern
def Hs(w:Zh):Prop:=w.cell? (Zd 4 0)=some (.iface 184 (.agg #[.pointer (some ⟨9,73,none⟩)]))
theorem Hs.below{a:Zh}(h:Hs w)(b:Zz w a):Hs a:=by unfold Hs at h |-;exact(b.cell (p:=⟨4,0,none⟩) (World.block_lt_of_cell? w _ h)).trans h
theorem YQ(t:Value)(w:Zh):
 Calls prog 26 #[.nilIface,t] w fun e a=>e=.returned (.bool false)/\a=w:=by
 go_enter func26,ntmps26;go_wp2;go_ret;exact⟨rfl,rfl⟩
abbrev rt(t:Nat):Value:=.agg #[.pointer (some ⟨9,t,none⟩)]
abbrev rv(t:Nat)(a:Addr)(f:Int):Value:=.agg #[.pointer (some ⟨9,t,none⟩),.pointer (some a),.int .u64 f]
theorem UG(t:Addr)(w:Zh):(ReflectliteValue.unpack (.iface 79 (.pointer (some t)))).run prog w
 =.ok (rv 79 ⟨w.heap.size,0,none⟩ 150) (w.alloc (.cells #[.pointer (some t)] 79)):=Yr
theorem UH(e:Addr)(w:Zh):(ReflectliteValue.unpack (.iface 77 (.pointer (some e)))).run prog w
 =.ok (rv 77 ⟨w.heap.size,0,none⟩ 150) (w.alloc (.cells #[.pointer (some e)] 77)):=Yr
theorem YR(a:Addr)(w:Zh):(ReflectliteValue.methodAny (ReflectliteValue.valueError "reflectlite.Value.Type" 0) (fun t _ _ _=>ReflectliteType.toType t) #[rv 79 a 150]).run prog w
 =.ok (.iface 184 (rt 79)) w:=Yr
theorem WI(h:Value)(w:Zh):(Go.method 389 184 (.agg #[h]) "Kind").run prog w=.ok (199,h) w:=Yr
theorem WJ(h:Value)(w:Zh):(Go.method 389 184 (.agg #[h]) "Elem").run prog w=.ok (212,.agg #[h]) w:=Yr
theorem WK(h:Value)(w:Zh):(Go.method 389 184 (.agg #[h]) "Implements").run prog w=.ok (213,.agg #[h]) w:=Yr
theorem YS(h:Value)(w:Zh):(Go.method 389 184 (.agg #[h]) "AssignableTo").run prog w=.ok (210,.agg #[h]) w:=Yr
theorem WL(w:Zh):((ReflectliteType.abiMethod fun t=>(fun a:Nat=>Value.int IntKind.u8 (a:Int))<$>Rtype.kind t) #[Yx 9 79]).run prog w=.ok (.int .u8 22) w:=Yr
theorem WM(w:Zh):((ReflectliteType.abiMethod fun t=>(fun a:Nat=>Value.int IntKind.u8 (a:Int))<$>Rtype.kind t) #[Yx 9 77]).run prog w=.ok (.int .u8 22) w:=Yr
theorem YT(w:Zh):(ReflectliteType.method ReflectliteType.elem #[rt 79]).run prog w=.ok (.iface 184 (rt 77)) w:=Yr
theorem YU(w:Zh):(ReflectliteType.relation "Implements" ReflectliteType.implements_ #[rt 77,.iface 184 (rt 73)]).run prog w=.ok (.bool true) w:=Yr
theorem UI(v:Value)(w:Zh):(ReflectliteType.typeOf #[.iface 77 v]).run prog w=.ok (.iface 184 (rt 77)) w:=Yr
theorem Aan(w:Zh):(ReflectliteType.relation "AssignableTo" ReflectliteType.assignableTo #[rt 77,.iface 184 (rt 77)]).run prog w=.ok (.bool true) w:=Yr
theorem UJ(w:Zh):(Rtype.elem? 79).run prog w=.ok (some 77) w:=Yr
theorem Abm(p:Addr)(w:Zh):(ReflectliteValue.mk 77 p ReflectliteValue.flagAddr).run prog w=.ok (rv 77 p 406) w:=Yr
theorem OF(a:Addr)(w:Zh):(ReflectliteValue.parts (rv 79 a 150)).run prog w=.ok (some (79,a,150)) w:=Yr
theorem UK(a:Addr)(w:Zh):(ReflectliteValue.parts (rv 77 a 406)).run prog w=.ok (some (77,a,406)) w:=Yr
theorem UL(a:Addr)(w:Zh):(ReflectliteValue.parts (rv 77 a 150)).run prog w=.ok (some (77,a,150)) w:=Yr
theorem UM(w:Zh):(Rtype.directlyAssignable 77 77).run prog w=.ok true w:=Yr
theorem SW(z:Sem Value)(f:TypeId->Addr->Nat->Nat->Sem Value)(v:Value):
 ReflectliteValue.method z f #[v]=(do match <-ReflectliteValue.parts v with|none=>z|some (t,a,fl)=>f t a fl (fl%32)):=rfl
theorem WN(a p:Addr)(W:Zh)(b:W.cell? a=some (.pointer (some p))):
 (ReflectliteValue.method (ReflectliteValue.valueError "reflectlite.Value.IsNil" 0) ReflectliteValue.isNil #[rv 79 a 150]).run prog W=.ok (.bool false) W:=by
 rw[SW];simp only[Sem.run_bind,OF,Result.andThen];simp[ReflectliteValue.isNil,loadVar,isAgg,underlying,underlying79,b,Result.andThen]
theorem WO(a p:Addr)(W:Zh)(b:W.cell? a=some (.pointer (some p))):
 (ReflectliteValue.method (ReflectliteValue.valueError "reflectlite.Value.Elem" 0) ReflectliteValue.elem #[rv 79 a 150]).run prog W=.ok (rv 77 p 406) W:=by
 rw[SW];simp only[Sem.run_bind,OF,Result.andThen];simp[ReflectliteValue.elem,loadVar,isAgg,underlying,underlying79,b,Result.andThen,UJ,Abm]
theorem YV(v x:Value):ReflectliteValue.set #[v,x]=(do
 let (some (dst,a,fl),some (src,b,_)):=(<-ReflectliteValue.parts v,<-ReflectliteValue.parts x)
  |unsupported (.noEntry "extern/(internal/reflectlite.Value).Set.zeroValue")
 if fl/ReflectliteValue.flagAddr%2==0 then unsupported (.noEntry "extern/(internal/reflectlite.Value).Set.unaddressable")
 let val <-loadVar src b
 if <-Rtype.directlyAssignable dst src then storeVar dst a val
 else if <-Rtype.implements dst src then
  if (<-Rtype.kind src)==20 then
   match val with
   |.nilIface=>unsupported (.noEntry "extern/reflectlite: a nil value of one interface type handed on as a value of another")
   |_=>storeVar dst a val
  else storeVar dst a (.iface src val)
 else panicString ("reflectlite.Set: value of type " ++(<-Rtype.spelt src)++ " is not assignable to type " ++(<-Rtype.spelt dst))
 pure (.tuple #[])):=rfl
theorem Aao(a b e:Addr)(c:Value)(W:Zh)(d:W.cell? b=some (.pointer (some e)))(g:W.cell? a=some c)(f:W.frozen? a=false):
 (ReflectliteValue.set #[rv 77 a 406,rv 77 b 150]).run prog W=.ok (.tuple #[]) (W.setCell a (.pointer (some e))):=by
 rw[YV];simp only[Sem.run_bind,UK,UL,Result.andThen];simp[ReflectliteValue.flagAddr,loadVar,isAgg,underlying,underlying77,d,Result.andThen,UM,storeVar,Value.cells,storeCells,Addr.add];rw[run_store prog W a _ _ Yp];simp[g,f]
theorem YW(e:Addr)(a:Nat)(g:Value)(w:Zh)(j:Hs w)(f:w.cell? (Zd a 0)=some g)(l:w.frozen? ⟨a,0,none⟩=false):
 Calls prog 26 #[.iface 77 (.pointer (some e)),.iface 79 (Yy a)] w fun n o=>n=.returned (.bool true)/\Below a w o:=by
 have z:= @run_callFunc_extern prog 61 _ (fun args=>ReflectliteValue.unpack (args.getD 0 (.tuple #[]))) func61 Yr Yr Yr Yr
 have A:= @run_callFunc_extern prog 62 _ (ReflectliteValue.methodAny (ReflectliteValue.valueError "reflectlite.Value.Type" 0) (fun t _ _ _=>ReflectliteType.toType t)) func62 Yr Yr Yr Yr
 have B:= @run_callFunc_extern prog 63 _ (ReflectliteValue.method (ReflectliteValue.valueError "reflectlite.Value.IsNil" 0) ReflectliteValue.isNil) func63 Yr Yr Yr Yr
 have C:= @run_callFunc_extern prog 199 _ (ReflectliteType.abiMethod fun t=>do pure (.int .u8 (<-Rtype.kind t))) func199 Yr Yr Yr Yr;have D:= @run_callFunc_extern prog 212 _ (ReflectliteType.method ReflectliteType.elem) func212 Yr Yr Yr Yr
 have E:= @run_callFunc_extern prog 213 _ (ReflectliteType.relation "Implements" ReflectliteType.implements_) func213 Yr Yr Yr Yr;have F:= @run_callFunc_extern prog 105 _ ReflectliteType.typeOf func105 Yr Yr Yr Yr
 have G:= @run_callFunc_extern prog 210 _ (ReflectliteType.relation "AssignableTo" ReflectliteType.assignableTo) func210 Yr Yr Yr Yr
 have H:= @run_callFunc_extern prog 106 _ (ReflectliteValue.method (ReflectliteValue.valueError "reflectlite.Value.Elem" 0) ReflectliteValue.elem) func106 Yr Yr Yr Yr;have q:= @run_callFunc_extern prog 107 _ ReflectliteValue.set func107 Yr Yr Yr Yr;have J:=UI;have K:=YS;have L:=Aan;have M:=UH
 have N:=UG;have O:=YR;have P:=WI;have Q:=WJ;have R:=WK;have s:=WL;have u:=WM;have v:=YT;have x:=YU;have m:4<w.heap.size:=World.block_lt_of_cell? w _ j;have b:a<w.heap.size:=World.block_lt_of_cell? w ⟨a,0,none⟩ f;have h:Below w.heap.size w (w.alloc (.cells #[Yy a] 79)):=Zy;have c:=h.alloc h.size (.cells #[Yx 9 79,Yy w.heap.size,.int .u64 150] 132)
 have i:=c.alloc c.size (.cells #[Yx 9 79,Yy w.heap.size,.int .u64 150] 132);have d:=i.alloc i.size (.cells #[.pointer (some e)] 77);have I:=WN ⟨w.heap.size,0,none⟩ ⟨a,0,none⟩ ((w.alloc (.cells #[Yy a] 79)).alloc (.cells #[Yx 9 79,Yy w.heap.size,.int .u64 150] 132)) Yu
 have r:((w.alloc (.cells #[Yy a] 79)).alloc (.cells #[Yx 9 79,Yy w.heap.size,.int .u64 150] 132)).cell? (Zd 4 0)=some (.iface 184 (.agg #[Yx 9 73])):=(c.cell (p:=⟨4,0,none⟩) m).trans j
 have y:=WO ⟨w.heap.size,0,none⟩ ⟨a,0,none⟩ (((w.alloc (.cells #[Yy a] 79)).alloc (.cells #[Yx 9 79,Yy w.heap.size,.int .u64 150] 132)).alloc (.cells #[Yx 9 79,Yy w.heap.size,.int .u64 150] 132)) (by rw[World.cell?_alloc_lt _ _ ⟨w.heap.size,0,none⟩ Yt];simp)
 have S:=Aao ⟨a,0,none⟩ ⟨w.heap.size+1+1+1,0,none⟩ e g ((((w.alloc (.cells #[Yy a] 79)).alloc (.cells #[Yx 9 79,Yy w.heap.size,.int .u64 150] 132)).alloc (.cells #[Yx 9 79,Yy w.heap.size,.int .u64 150] 132)).alloc (.cells #[.pointer (some e)] 77))
  (by rw[World.cell?_alloc_at _ _ _ _ Yu];rfl)
  ((d.cell (p:=⟨a,0,none⟩) b).trans f)
  ((d.frozen (p:=⟨a,0,none⟩) b).trans l)
 have fin:=(d.mono (Nat.le_of_lt b)).setCell (show a<=(⟨a,0,none⟩:Addr).block from Nat.le_refl a) (.pointer (some e));clear h c i d;have k:=Yw fin;clear fin;go_enter func26,ntmps26;go_wp2;refine wp_loop_rounds 1 ?_;rw[rounds_succ];go_wp2;go_ret;exact⟨rfl,k.o⟩
end
theorem Ca(b:UInt8):wrap64 (b.toNat:Int)=(b.toNat:Int):=by have h:=b.toNat_lt;simp[wrap64];omega
theorem Et(x:Int)(h: -9223372036854775808<=x)(a:x<9223372036854775808):IntKind.i64.wrap x=x:=by rw[IntKind.wrap_i64];omega
theorem SY(b:1<=a)(c:k<n):0<=(k:Int) *a/\(k:Int) *a<=(n:Int) *a/\((k:Int)+1) *a=(k:Int) *a+a/\(k:Int) *a+a<=(n:Int) *a:=by refine⟨Int.mul_nonneg Yv Yv,Int.mul_le_mul_of_nonneg_right Yv Yv,by rw[Int.add_mul,Int.one_mul],?_⟩;have:((k:Int)+1) *a<=(n:Int) *a:=Int.mul_le_mul_of_nonneg_right Yv Yv;rw[Int.add_mul,Int.one_mul]at this;exact this
theorem Kn(e:n<256)(b:1<=a)(c:a<=8):0<=(n:Int) *a/\(n:Int) *a<=2040:=by refine⟨Int.mul_nonneg Yv Yv,?_⟩;have d:(n:Int) *a<=255 *a:=Int.mul_le_mul_of_nonneg_right Yv Yv;omega
def Dy(s:Zi)(wd:Int)(n:Nat):Zi:=(s.extract 1 s.size).extract ((n:Int) *wd).toNat (s.size -1)
def JB(s:Zi)(wd:Int)(i:Nat):Zi:=(s.extract 1 s.size).extract ((i:Int) *wd).toNat ((i:Int) *wd+wd).toNat
def BJ(s:Zi)(wd:Int)(k:Nat):Zl:=(List.range k).map (JB s wd)
theorem Cl(s:Zi)(a:Int)(k:Nat):(BJ s a k).length=k:=by simp[BJ]
theorem Rt(s:Zi)(a:Int)(k:Nat):(BJ s a k).map Value.string++[Value.string (JB s a k)]=(BJ s a (k+1)).map Value.string:=by simp[BJ,List.range_succ]
theorem Ht{b:Zh}{o:Obj}{x:Value}(e:(wr.alloc o).drew.grownBy b row)(a:wr.cell? p=some x)(d:some p.block≠row):b.cell? p=some x:=by refine e.cell ?_ d;have c:=World.block_lt_of_cell? wr p a;exact(World.cell?_alloc_lt wr o p c).trans a
theorem KF{a:Zh}{o:Obj}(e:(wr.alloc o).drew.grownBy a row)(b:p.block<wr.heap.size)(c:some p.block≠row):a.frozen? p=wr.frozen? p:=by have d:=World.frozen?_of_block (e.block p.block Yt c);rw[d];exact World.frozen?_alloc_old wr o p (Nat.ne_of_lt b)
theorem SZ{a:Nat}{e:TypeId}(h:w.ownsRow a e 1 v n d)(f:b<a):some b≠v.ownBlock:=by intro c;have:=(h.lt b c.symm).1;omega
theorem DO{ss:Zl}(h:w.ownsRow b 9 1 v ss.length (ss.map Value.string)):∃a cap,v=.slice a ss.length cap/\Ad w w.heap.size a ss:=by
 rcases h.2 with⟨c,d⟩|⟨g,cap,e,c,_⟩
 .exact⟨none,0,by rw[c,d],.inl (List.eq_nil_of_length_eq_zero d)⟩
 .subst c;exact⟨_,_,rfl,Ad.own h⟩
theorem Nh{d:Int}{a:Zh}{o:Obj}{cap:Nat}{cg:Zi}(m:w.heap.size+1<wr.heap.size)(f:wr.ownsRow (w.heap.size+2) 9 1 v k ((BJ s d k).map Value.string))(e:Below (w.heap.size+1) W wr)(c:a.ownsRow (w.heap.size+2) 9 1 (Yz g (k+1) cap) (k+1) ((BJ s d k).map Value.string++[.string (JB s d k)]))(b:(wr.alloc o).drew.grownBy a v.ownBlock)(h:a.cell? (Zd (w.heap.size+1) 0)=some (.string cg))(i:a.cell? (Zd (w.heap.size+1) 1)=some v)(j:a.frozen? ⟨w.heap.size+1,1,none⟩=false):
 (a.setCell (Zd (w.heap.size+1) 1) (Yz g (k+1) cap)).cell? (Zd (w.heap.size+1) 0)=some (.string cg)/\
 (a.setCell (Zd (w.heap.size+1) 1) (Yz g (k+1) cap)).cell? (Zd (w.heap.size+1) 1)=some (Yz g (k+1) cap)/\
 (a.setCell (Zd (w.heap.size+1) 1) (Yz g (k+1) cap)).frozen? ⟨w.heap.size+1,1,none⟩=false/\
 (a.setCell (Zd (w.heap.size+1) 1) (Yz g (k+1) cap)).ownsRow (w.heap.size+2) 9 1 (Yz g (k+1) cap) (k+1) ((BJ s d (k+1)).map Value.string)/\
 Below (w.heap.size+1) W (a.setCell (Zd (w.heap.size+1) 1) (Yz g (k+1) cap)):=by
 refine⟨?_,?_,?_,?_,?_⟩
 .rw[<-h];exact World.cell?_setCell_other _ _ _ _ Yu
 .exact World.cell?_setCell_same' _ _ _ (by rw[i];rfl)
 .rw[World.frozen?_setCell];exact j
 .rw[<-Rt];exact ownsRow_setCell_below c Yu _
 .exact(((e.alloc Yv o).drew).grown b Yt (fun k l=>by have:=(f.lt k l).1;omega)).setCell Yu _
theorem OG(h:0<s.size):s.toList.isEmpty=false:=by
 have:s.toList.length=s.size:=by rw[ByteArray.toList_eq];simp
 cases hl:s.toList with
 |nil=>rw[hl]at this;simp at this;omega
 |cons x r=>rfl
theorem Ta(s:Zi)(c:Int)(n:Nat)(w:Zh)(hs:s.size<=1048576)(G:1<=c)(h2:c<=8)(h0:0<s.size)(z:s[0].toNat=n)(S:(n:Int) *c<=s.size -1):
 Calls prog 104 #[.string s,Zg c] w fun e J=>
  (AF (Dy s c n) (BJ s c n) c=true->∃v,e=.returned (.tuple #[.agg #[.string (Dy s c n),v],.bool true])/\J.ownsRow w.heap.size 9 1 v n ((BJ s c n).map Value.string))/\
  (AF (Dy s c n) (BJ s c n) c=false->e=.returned (.tuple #[.agg #[Zc,Zb],.bool false]))/\Zz w J:=by
 obtain⟨i0,hi,O,P,Q⟩:=info_parts Cq;have x:s.toList.isEmpty=false:=OG h0;have U:(0:Int)<s.size:=Yv
 have hn:n<256:=by rw[<-z];exact s[0].toNat_lt
 have Z:=Kn hn G h2;have HN:=Yw z;clear z;go_enter func104,ntmps104;go_wp2;go_quiet (fail);simp only[Ca];rw[HN.o];go_wp2_with fail;obtain⟨cg,q⟩:=Af (Dy s c n);rw[show(s.extract 1 s.size).extract ((n:Int) *c).toNat (s.size -1)=cg from q.symm];have t:=Yw q;clear q
 go_loopw [37] (fun i wr=>∃(k:Nat) (v:Value),k<=n/\i=Zg k/\wr.cell? (Zd (w.heap.size+1) 0)=some (.string cg)/\wr.cell? (Zd (w.heap.size+1) 1)=some v/\wr.frozen? ⟨w.heap.size+1,1,none⟩=false/\
  wr.ownsRow (w.heap.size+2) 9 1 v k ((BJ s c k).map Value.string)/\Below (w.heap.size+1) (w.alloc (Obj.cells #[Value.string ⟨#[]⟩,Value.slice none 0 0] 36)) wr) (fun i _=>n -(intOf i).toNat)
 case atStart=>exact⟨0,Zb,Nat.zero_le _,rfl,by simp[go_sem],by simp[go_sem],by simp[go_sem],World.ownsRow_nil _ _ _ _,(AZ Ae _).alloc Yu _⟩
 case round=>
  obtain⟨k,v,hk,rfl,u,B,D,l,d⟩:=hrel;have M:=d.size;simp at M;by_cases hlt:k<n
  .obtain⟨m1,m2,m3,m4⟩:=SY G hlt;have Y:(s.extract 1 s.size).size=s.size -1:=Yu
   have T:(k:Int)<n:=Yv
   have e1:=Et ((k:Int) *c) Yv Yv;have e2:=Et ((k:Int)+1) Yv Yv;have e3:=Et ((k:Int) *c+c) Yv Yv;have b2:(k:Int) *c<=(k:Int) *c+c:=Yv
   have b3:(k:Int) *c+c<=((s.size -1:Nat):Int):=Yv
   go_wp2;have x:=SZ l (b:=w.heap.size+1) Yv;have r:w.heap.size+1<wr.heap.size:=World.block_lt_of_cell? wr _ u
   go_region_law (refine step_append_lies _ rfl (.tmp 41) (.tmp 51) 23 rfl (w.heap.size+2) 9 i0 Zc 1 16 underlying23 hi O P Q rfl Yq v k ((BJ s c k).map Value.string) rfl (World.ownsRow.alloc l _) ⟨wr.heap.size,0,none⟩ 1 1 [.string (JB s c k)] rfl rfl (cell_one_new wr (.string (JB s c k)) 9) (by simp[Value.oneCell']) Yq Yo Yv Yt (wr.heap.size+1) Yu ?_;intro g cap w1 o f zA V;have C:=Ht f u x;have K:=Ht f B x;have L:=(KF (p:=⟨w.heap.size+1,1,none⟩) f Yt x).trans D)
   all_goals
    have R:=Nh r l d o f C K L;have y:=Yw R;clear R l d o f C u B D;go_wp2;refine⟨⟨_,_,_,_,_,_,_,_,_,_,_,_,_,_,_,_,_,_,_,⟨k+1,_,Yv,?_,y.o.1,y.o.2.1,y.o.2.2.1,y.o.2.2.2.1,y.o.2.2.2.2⟩,rfl⟩,?_⟩
    .go_num
    .simp[intOf];omega
  .obtain rfl:k=n:=Yv
   have r:w.heap.size+1<wr.heap.size:=World.block_lt_of_cell? wr _ u;obtain⟨a,cap,I,A⟩:=DO (ss:=BJ s c k) (by rw[Cl];exact l);rw[Cl]at I;subst I;have E:(wr.cell? (Zd (w.heap.size) 0))=some Zc:=by rw[d.cell (p:=⟨w.heap.size,0,none⟩) Yu];simp
   have F:(wr.cell? (Zd (w.heap.size) 1))=some Zb:=by rw[d.cell (p:=⟨w.heap.size,1,none⟩) Yu];simp
   have W:wr.frozen? ⟨w.heap.size,0,none⟩=false:=by rw[d.frozen (p:=⟨w.heap.size,0,none⟩) Yu];simp
   have X:wr.frozen? ⟨w.heap.size,1,none⟩=false:=by rw[d.frozen (p:=⟨w.heap.size,1,none⟩) Yu];simp
   have N:cg.size<=maxLen:=by rw[t.o];simp[Dy,maxLen];omega
   have j:=Dq cg a cap (BJ s c k) c wr A (by rw[Cl];omega) N;rw[Cl]at j;have m:w.heap.size<wr.heap.size:=Yv
   go_wp2_with fail;refine j.mono ?_;rintro e w2 ⟨rfl,rfl⟩;have H:Below w.heap.size w wr:=(Zy).trans (d.mono Yv);cases hok:AF cg (BJ s c k) c with
   |true=>
    clear j;go_wp2;refine bodyPost_ret (v:=.tuple #[.agg #[.string cg,.slice a k cap],.bool true]) (by simp[results,results104,go_sem,m,E,F]) rfl ⟨fun _=>⟨.slice a k cap,?_,?_⟩,fun h=> ?_,?_⟩
    .rw[t.o]
    .exact((ownsRow_setCell_below (ownsRow_setCell_below l Yu _) Yu _).alloc _).mono Yv
    .rw[<-t.o,hok]at h;cases h
    .exact((H.setCell Yu _).setCell Yu _).alloc Yt _
   |false=>
    clear j;go_wp2;refine bodyPost_ret (v:=.tuple #[.agg #[Zc,Zb],.bool false]) (by simp[results,results104,go_sem,m,E,F]) rfl ⟨fun h=> ?_,fun _=>rfl,?_⟩
    .rw[<-t.o,hok]at h;cases h
    .exact((H.setCell Yu _).setCell Yu _).alloc Yt _
def FX(w:Zh)(e:Ending)(w':Zh):Prop:=e=.returned (.tuple #[.agg #[Zc,Zb],.bool false])/\Zz w w'
theorem Tb(s:Zi)(a:Int)(w:Zh)(h:¬(1<=a/\a<=8)):
 Calls prog 104 #[.string s,Zg a] w (FX w):=by
 by_cases h1:1<=a
 .have b:decide (a<=8)=false:=Yt
  go_enter func104,ntmps104;go_wp2;exact bodyPost_ret (v:=.tuple #[.agg #[Zc,Zb],.bool false]) (by simp[results,results104,go_sem]) rfl ⟨rfl,Zy⟩
 .go_enter func104,ntmps104;go_wp2;exact bodyPost_ret (v:=.tuple #[.agg #[Zc,Zb],.bool false]) (by simp[results,results104,go_sem]) rfl ⟨rfl,Zy⟩
theorem isEmpty(h:s.size=0):s.toList.isEmpty=true:=by
 have:s.toList.length=s.size:=by rw[ByteArray.toList_eq];simp
 rw[List.isEmpty_iff,<-List.length_eq_zero_iff];omega
theorem Tc(s:Zi)(a:Int)(w:Zh)(d:1<=a)(e:a<=8)(b:s.size=0):
 Calls prog 104 #[.string s,Zg a] w (FX w):=by
 have c:=isEmpty b;go_enter func104,ntmps104;go_wp2;exact bodyPost_ret (v:=.tuple #[.agg #[Zc,Zb],.bool false]) (by simp[results,results104,go_sem]) rfl ⟨rfl,Zy⟩
theorem Td(s:Zi)(b:Int)(n:Nat)(w:Zh)(k:s.size<=1048576)(g:1<=b)(h:b<=8)(f:0<s.size)(a:s[0].toNat=n)(c:(s.size:Int) -1<(n:Int) *b):
 Calls prog 104 #[.string s,Zg b] w (FX w):=by
 have j:=OG f;have d:(0:Int)<s.size:=Yv
 have i:n<256:=by rw[<-a];exact s[0].toNat_lt
 have e:=Kn i g h;have HN:=Yw a;clear a;go_enter func104,ntmps104;go_wp2;go_quiet (fail);simp only[Ca];rw[HN.o];go_wp2;refine bodyPost_ret (v:=.tuple #[.agg #[Zc,Zb],.bool false]) (by simp[results,results104,go_sem]) rfl ⟨rfl,?_⟩;exact(((AZ (Zy) _).setCell Yu _).setCell Yu _)
theorem YX(s:Zi)(a b:Nat)(d:b<=s.size -1)(c:0<s.size):(s.extract 1 s.size).extract a b=s.extract (1+a) (1+b):=by rw[ByteArray.extract_extract];congr 1;omega
theorem WQ(b:0<s.size)(d:0<=(k:Int) *a)(c:1<=a)(e:(k:Int) *a+a<=s.size -1):s.extract (1+(k:Int) *a).toNat (1+(k:Int) *a+a).toNat=JB s a k:=by unfold JB;rw[YX s _ _ Yv b,show(1+(k:Int) *a).toNat=1+((k:Int) *a).toNat from by omega,show(1+(k:Int) *a+a).toNat=1+((k:Int) *a+a).toNat from by omega]
theorem WR(b:0<s.size)(c:0<=(n:Int) *a):s.extract (1+(n:Int) *a).toNat s.size=Dy s a n:=by unfold Dy;rw[YX s _ _ Yv b,show(1+(n:Int) *a).toNat=1+((n:Int) *a).toNat from by omega,show 1+(s.size -1)=s.size from by omega]
theorem Te(s:Zi)(c:Int)(n:Nat)(w:Zh)(hs:s.size<=1048576)(N:1<=c)(h2:c<=8)(O:0<s.size)(M:s[0].toNat=n)(zC:(n:Int) *c<=s.size -1):
 Calls prog 43 #[.string s,Zg c] w fun e T=>
  (AF (Dy s c n) (BJ s c n) c=true->∃v,e=.returned (.tuple #[.agg #[.string (Dy s c n),v],.bool true])/\T.ownsRow w.heap.size 9 1 v n ((BJ s c n).map Value.string))/\
  (AF (Dy s c n) (BJ s c n) c=false->e=.returned (.tuple #[.agg #[Zc,Zb],.bool false]))/\Zz w T:=by
 obtain⟨i0,hi,Z,zA,zB⟩:=info_parts Cq;have zF:(0:Int)<s.size:=Yv
 have zH:((s.size:Int)==0)=false:=beq_eq_false_iff_ne.2 Yv;have hn:n<256:=by rw[<-M];exact s[0].toNat_lt
 have I:=Kn hn N h2;have Y:=Ca s[0];rw[M]at Y;go_enter func43,ntmps43;go_wp2;obtain⟨cg,u⟩:=Af (Dy s c n);rw[WR O I.1,<-u];have z:=Yw u;clear u
 go_loopw [8] (fun i wr=>∃(k:Nat) (v:Value),k<=n/\i=Zg k/\wr.cell? (Zd (w.heap.size+1) 0)=some (.string cg)/\wr.cell? (Zd (w.heap.size+1) 1)=some v/\wr.frozen? ⟨w.heap.size+1,1,none⟩=false/\
  wr.ownsRow (w.heap.size+2) 9 1 v k ((BJ s c k).map Value.string)/\Below (w.heap.size+1) (w.alloc (Obj.cells #[Value.string ⟨#[]⟩,Value.slice none 0 0] 36)) wr) (fun i _=>n -(intOf i).toNat)
 case atStart=>exact⟨0,Zb,Nat.zero_le _,rfl,by simp[go_sem],by simp[go_sem],by simp[go_sem],World.ownsRow_nil _ _ _ _,Ae.alloc Yu _⟩
 case round=>
  obtain⟨k,v,Q,rfl,t,A,L,o,d⟩:=hrel;have W:=d.size;simp at W;by_cases hlt:k<n
  .obtain⟨m1,m2,m3,m4⟩:=SY N hlt;have zE:(k:Int)<n:=Yv
   have e1:=Et ((k:Int) *c) Yv Yv;have e2:=Et (1+(k:Int) *c) Yv Yv;have e3:=Et (1+(k:Int) *c+c) Yv Yv;have b1:(0:Int)<=1+(k:Int) *c:=Yv
   have b2:1+(k:Int) *c<=1+(k:Int) *c+c:=Yv
   have b3:1+(k:Int) *c+c<=(s.size:Int):=Yv
   have G:=Yw (WQ O m1 N (by omega:(k:Int) *c+c<=s.size -1));have F:=SZ o (b:=w.heap.size+1) Yv;have r:=World.block_lt_of_cell? wr _ t;clear m3;go_wp2
   go_region_law (refine step_append_lies _ rfl (.tmp 45) (.tmp 58) 23 rfl (w.heap.size+2) 9 i0 Zc 1 16 underlying23 hi Z zA zB rfl Yq v k ((BJ s c k).map Value.string) rfl (World.ownsRow.alloc o _) ⟨wr.heap.size,0,none⟩ 1 1 [.string (s.extract (1+(k:Int) *c).toNat (1+(k:Int) *c+c).toNat)] rfl rfl (cell_one_new wr (.string (s.extract (1+(k:Int) *c).toNat (1+(k:Int) *c+c).toNat)) 9) (by simp[Value.oneCell']) Yq Yo Yv Yt (wr.heap.size+1) Yu ?_;intro g cap w1 q f zI zG;have K:=Ht f t F;have U:=Ht f A F;have V:=(KF (p:=⟨w.heap.size+1,1,none⟩) f Yt F).trans L)
   all_goals
    rw[G.o]at q;have R:=Nh r o d q f K U V;have E:=Yw R;clear R o d q f K t A L;go_wp2;refine⟨⟨_,_,_,_,_,_,_,_,_,_,_,_,_,_,_,_,_,_,_,_,_,_,_,⟨k+1,_,Yv,?_,E.o.1,E.o.2.1,E.o.2.2.1,E.o.2.2.2.1,E.o.2.2.2.2⟩,rfl⟩,?_⟩
    .go_num
    .simp[intOf];omega
  .obtain rfl:k=n:=Yv
   have r:=World.block_lt_of_cell? wr _ t;obtain⟨a,cap,S,H⟩:=DO (ss:=BJ s c k) (by rw[Cl];exact o);rw[Cl]at S;subst S;have B:(wr.cell? (Zd (w.heap.size) 0))=some Zc:=by rw[d.cell (p:=⟨w.heap.size,0,none⟩) Yu];simp
   have C:(wr.cell? (Zd (w.heap.size) 1))=some Zb:=by rw[d.cell (p:=⟨w.heap.size,1,none⟩) Yu];simp
   have x:wr.frozen? ⟨w.heap.size,0,none⟩=false:=by rw[d.frozen (p:=⟨w.heap.size,0,none⟩) Yu];simp
   have y:wr.frozen? ⟨w.heap.size,1,none⟩=false:=by rw[d.frozen (p:=⟨w.heap.size,1,none⟩) Yu];simp
   have X:cg.size<=maxLen:=by rw[z.o];simp[Dy,maxLen];omega
   have m:=De cg a cap (BJ s c k) c wr H (by rw[Cl];omega) X;rw[Cl]at m;have l:w.heap.size<wr.heap.size:=Yv
   go_wp2_with fail;refine m.mono ?_;rintro e w2 ⟨rfl,j⟩;have P:=(Zy).trans (d.mono Yv);have J:=P.trans (j.mono P.size);have D:=o.kept (row:=none) ⟨j.os,j.tape,j.output,j.size,fun k Q _=>j.block k Q⟩ (by cases a<;>simp[Value.ownBlock]);have t:=(j.cell (p:=⟨w.heap.size+1,0,none⟩) r).trans t;have A:=(j.cell (p:=⟨w.heap.size+1,1,none⟩) r).trans A
   have B:=(j.cell (p:=⟨w.heap.size,0,none⟩) l).trans B;have C:=(j.cell (p:=⟨w.heap.size,1,none⟩) l).trans C;have x:=(j.frozen (p:=⟨w.heap.size,0,none⟩) l).trans x;have y:=(j.frozen (p:=⟨w.heap.size,1,none⟩) l).trans y;cases hok:AF cg (BJ s c k) c with
   |true=>
    clear m;go_wp2;refine bodyPost_ret (v:=.tuple #[.agg #[.string cg,.slice a k cap],.bool true]) (by simp[results,results43,go_sem,B,C]) rfl ⟨fun _=>⟨.slice a k cap,?_,?_⟩,fun h=> ?_,?_⟩
    .rw[z.o]
    .exact(ownsRow_setCell_below (ownsRow_setCell_below D Yu _) Yu _).mono Yv
    .rw[<-z.o,hok]at h;cases h
    .exact(J.setCell Yu _).setCell Yu _
   |false=>
    clear m;go_wp2;refine bodyPost_ret (v:=.tuple #[.agg #[Zc,Zb],.bool false]) (by simp[results,results43,go_sem,B,C]) rfl ⟨fun h=> ?_,fun _=>rfl,?_⟩
    .rw[<-z.o,hok]at h;cases h
    .exact(J.setCell Yu _).setCell Yu _
theorem Tf(s:Zi)(a:Int)(w:Zh)(h:¬(1<=a/\a<=8)):
 Calls prog 43 #[.string s,Zg a] w (FX w):=by
 by_cases h1:1<=a
 .have b:decide (a<=8)=false:=Yt
  go_enter func43,ntmps43;go_wp2;exact bodyPost_ret (v:=.tuple #[.agg #[Zc,Zb],.bool false]) (by simp[results,results43,go_sem]) rfl ⟨rfl,Zy⟩
 .go_enter func43,ntmps43;go_wp2;exact bodyPost_ret (v:=.tuple #[.agg #[Zc,Zb],.bool false]) (by simp[results,results43,go_sem]) rfl ⟨rfl,Zy⟩
theorem Tg(s:Zi)(a:Int)(w:Zh)(d:1<=a)(e:a<=8)(c:s.size=0):
 Calls prog 43 #[.string s,Zg a] w (FX w):=by
 have b:=beq_iff_eq.2 Yv;go_enter func43,ntmps43;go_wp2;exact bodyPost_ret (v:=.tuple #[.agg #[Zc,Zb],.bool false]) (by simp[results,results43,go_sem]) rfl ⟨rfl,Zy⟩
theorem Th(s:Zi)(a:Int)(n:Nat)(w:Zh)(l:s.size<=1048576)(h:1<=a)(i:a<=8)(k:0<s.size)(b:s[0].toNat=n)(d:(s.size:Int) -1<(n:Int) *a):
 Calls prog 43 #[.string s,Zg a] w (FX w):=by
 have e:(0:Int)<s.size:=Yv
 have f:((s.size:Int)==0)=false:=beq_eq_false_iff_ne.2 Yv;have j:n<256:=by rw[<-b];exact s[0].toNat_lt
 have g:=Kn j h i;have c:=Ca s[0];rw[b]at c;go_enter func43,ntmps43;go_wp2;exact bodyPost_ret (v:=.tuple #[.agg #[Zc,Zb],.bool false]) (by simp[results,results43,go_sem]) rfl ⟨rfl,Zy⟩
def KG(s:Zi)(wd:Int)(n:Nat):Zi×Zl×Bool:=
 if (n:Int) *wd<=s.size -1/\AF (Dy s wd n) (BJ s wd n) wd=true then (Dy s wd n,BJ s wd n,true)else (⟨#[]⟩,[],false)
def rd(s:Zi)(wd:Int):Zi×Zl×Bool:=
 if 1<=wd/\wd<=8 then
  match s.data.toList.head? with
  |none=>(⟨#[]⟩,[],false)
  |some b=>KG s wd b.toNat
 else (⟨#[]⟩,[],false)
def Ez(s:Zi)(wd:Int)(w:Zh)(e:Ending)(w':Zh):Prop:=
 ∃v,e=.returned (.tuple #[.agg #[.string (rd s wd).1,v],.bool (rd s wd).2.2])/\w'.ownsRow w.heap.size 9 1 v (rd s wd).2.1.length ((rd s wd).2.1.map Value.string)/\Zz w w'
theorem QK(a:0<s.size):s.data.toList.head?=some s[0]:=by rw[List.head?_eq_getElem?,Zv (by simpa using a)];rfl
theorem Wj(s:Zi)(a:Int):(rd s a).2.1.length<=255:=by
 unfold rd;split
 .split
  .simp
  .rename_i b _
   unfold KG;have:=b.toNat_lt;split
   .simp[Cl];omega
   .simp
 .simp
theorem EO{b:Int}(h:rd s b=(⟨#[]⟩,[],false)):∀e a,FX w e a->Ez s b w e a:=by rintro e a ⟨rfl,c⟩;unfold Ez;rw[h];exact⟨Zb,rfl,World.ownsRow_nil _ _ _ _,c⟩
theorem Ti(j:rd s a=KG s a n)(c:(n:Int) *a<=s.size -1):∀e b,
 ((AF (Dy s a n) (BJ s a n) a=true->∃v,e=.returned (.tuple #[.agg #[.string (Dy s a n),v],.bool true])/\b.ownsRow w.heap.size 9 1 v n ((BJ s a n).map Value.string))/\
   (AF (Dy s a n) (BJ s a n) a=false->e=.returned (.tuple #[.agg #[Zc,Zb],.bool false]))/\Zz w b)->Ez s a w e b:=by
 rintro e b ⟨f,g,d⟩;unfold Ez;rw[j];unfold KG;cases hok:AF (Dy s a n) (BJ s a n) a with
 |true=>rw[if_pos ⟨c,rfl⟩];obtain⟨v,h,i⟩:=f hok;exact⟨v,h,by simpa [Cl]using i,d⟩
 |false=>rw[if_neg Yu];exact⟨Zb,g hok,World.ownsRow_nil _ _ _ _,d⟩
theorem Tj(s:Zi)(a:Int)(w:Zh)(c:s.size<=1048576):Calls prog 104 #[.string s,Zg a] w (Ez s a w):=by
 by_cases hw:1<=a/\a<=8
 .by_cases h0:0<s.size
  .have b:rd s a=KG s a s[0].toNat:=by unfold rd;rw[if_pos hw,QK h0]
   by_cases hfit:(s[0].toNat:Int) *a<=s.size -1
   .exact(Ta s a _ w c hw.1 hw.2 h0 rfl hfit).mono (Ti b hfit)
   .exact(Td s a _ w c hw.1 hw.2 h0 rfl Yv).mono (EO (by rw[b];unfold KG;rw[if_neg (fun h=>hfit h.1)]))
  .refine(Tc s a w hw.1 hw.2 Yv).mono (EO ?_);have d:s.data.toList=[]:=List.eq_nil_of_length_eq_zero (by have e:s.data.toList.length=s.size:=Array.length_toList;omega);unfold rd;rw[if_pos hw,d];rfl
 .exact(Tb s a w hw).mono (EO (by unfold rd;rw[if_neg hw]))
theorem Tk(s:Zi)(a:Int)(w:Zh)(c:s.size<=1048576):Calls prog 43 #[.string s,Zg a] w (Ez s a w):=by
 by_cases hw:1<=a/\a<=8
 .by_cases h0:0<s.size
  .have b:rd s a=KG s a s[0].toNat:=by unfold rd;rw[if_pos hw,QK h0]
   by_cases hfit:(s[0].toNat:Int) *a<=s.size -1
   .exact(Te s a _ w c hw.1 hw.2 h0 rfl hfit).mono (Ti b hfit)
   .exact(Th s a _ w c hw.1 hw.2 h0 rfl Yv).mono (EO (by rw[b];unfold KG;rw[if_neg (fun h=>hfit h.1)]))
  .refine(Tg s a w hw.1 hw.2 Yv).mono (EO ?_);have d:s.data.toList=[]:=List.eq_nil_of_length_eq_zero (by have e:s.data.toList.length=s.size:=Array.length_toList;omega);unfold rd;rw[if_pos hw,d];rfl
 .exact(Tf s a w hw).mono (EO (by unfold rd;rw[if_neg hw]))
theorem OH(k:Int)(b a:Zi)(n:Int)(t:Zi)(h:Zk)(cap:Nat)(c:Zl)(f:Int)(w:Zh)(g:Ad w w.heap.size h c)(j:c.length<=1048576)(l:t.size<=maxLen)(q:a.size<=maxLen):
 Calls prog 45 #[.agg (Ej k b a n t h c.length cap),Zg f] w fun e r=>e=.returned (.string (Ch k b a n t c f))/\Zz w r:=by
 cases hok:Bw k b a n t c f with
 |true=>rw[show Ch k b a n t c f=⟨(CY k.toNat b a n t c).toArray⟩from by unfold Ch;rw[if_pos hok]];unfold Bw at hok;simp only[Bool.and_eq_true,decide_eq_true_eq]at hok;obtain⟨m,rfl⟩:∃m:Nat,k=m:=⟨k.toNat,Yv⟩;rw[Int.toNat_natCast]at hok |-;exact SV m b a n t h cap c f w Yv Yv g j l hok.2
 |false=>rw[show Ch k b a n t c f=ByteArray.empty from by unfold Ch;rw[if_neg (by rw[hok];decide)]];have i:Below w.heap.size w (w.alloc (.cells (Ej k b a n t h c.length cap) 38)):=Zy;have d:=UE k b a n t h cap c f _ (g.N i) j l q;rw[hok]at d;clear hok;go_enter func45,ntmps45;go_wp2_with fail;refine d.mono ?_;rintro e s ⟨rfl,o⟩;go_wp2;go_ret;exact⟨rfl,i.trans (o.mono Yu)⟩
abbrev AH(l:List UInt8):Zi:=⟨l.toArray⟩
theorem WS(s:Zi):AH s.data.toList=s:=rfl
theorem GX(l:List UInt8)(a b:Nat):(AH l).extract a b=AH ((l.drop a).take (b -a)):=by apply ByteArray.ext;rw[ByteArray.data_extract];apply Array.ext';simp[List.take_drop]
theorem BN(l:List UInt8):(AH l).size=l.length:=by simp[ByteArray.size]
def IL(T:List UInt8)(wd i:Nat):Zi:=AH ((T.drop (i *wd)).take wd)
theorem Tl(T:List UInt8)(a:Nat):∀k,k *a<=T.length->flat ((List.range k).map (IL T a))=T.take (k *a):=by
 intro k;induction k with
 |zero=>intro _;simp[flat]
 |succ k ih=>
  intro h;have b:k *a<=T.length:=by rw[Nat.succ_mul]at h;omega
  rw[List.range_succ,List.map_append];unfold flat at *
  rw[List.flatMap_append,ih b];simp only[List.map_cons,List.map_nil,List.flatMap_cons,List.flatMap_nil,List.append_nil,IL];rw[Nat.succ_mul,List.take_add]
theorem Tm(a:Zl)(t:List UInt8)(b:Nat)(h:∀s∈a,s.size=b):(List.range a.length).map (IL (flat a++t) b)=a:=by
 induction a with
 |nil=>rfl
 |cons s r ih=>
  have c:s.data.toList.length=b:=h s (List.mem_cons_self ..);have e:=ih (fun x f=>h x (by simp[f]));have d:flat (s::r)++t=s.data.toList++(flat r++t):=by simp[flat]
  rw[List.length_cons,List.range_succ_eq_map,List.map_cons,List.map_map,d];congr 1
  .unfold IL;rw[Nat.zero_mul,List.drop_zero,List.take_left' c]
  .refine Eq.trans ?_ e;apply List.map_congr_left;intro i _;simp only[Function.comp,IL];congr 2;rw[show Nat.succ i *b=s.data.toList.length+i *b by rw[Nat.succ_mul,c];omega,<-List.drop_drop,List.drop_left]
theorem rd_mk(c:UInt8)(T:List UInt8)(a:Int)(e:1<=a)(f:a<=8):
 rd (AH (c::T)) a=if c.toNat *a.toNat<=T.length/\AF (AH (T.drop (c.toNat *a.toNat))) ((List.range c.toNat).map (IL T a.toNat)) a=true then (AH (T.drop (c.toNat *a.toNat)),(List.range c.toNat).map (IL T a.toNat),true)else (⟨#[]⟩,[],false):=by
 obtain⟨W,rfl⟩:∃W:Nat,a=W:=⟨a.toNat,Yv⟩;have b:(AH (c::T)).size=T.length+1:=by rw[BN];rfl
 have d:(AH (c::T)).extract 1 (AH (c::T)).size=AH T:=by rw[b,GX];simp
 have j:Dy (AH (c::T)) W c.toNat=AH (T.drop (c.toNat *W)):=by unfold Dy;rw[d,GX,b];congr 2;rw[show((c.toNat:Int) *(W:Int)).toNat=c.toNat *W by rw[<-Int.natCast_mul];rfl];exact Zt Yu
 have h:BJ (AH (c::T)) W c.toNat=(List.range c.toNat).map (IL T W):=by unfold BJ;apply List.map_congr_left;intro i _;unfold JB IL;rw[d,GX];congr 2;rw[show((i:Int) *(W:Int)).toNat=i *W by rw[<-Int.natCast_mul];rfl,show((i:Int) *(W:Int)+(W:Int)).toNat=i *W+W by rw[<-Int.natCast_mul];omega];congr 1;omega
 have g:((c.toNat:Int) *(W:Int)<=((AH (c::T)).size:Int) -1)↔c.toNat *W<=T.length:=by rw[b,<-Int.natCast_mul];omega
 unfold rd;rw[if_pos ⟨e,f⟩];simp only[List.head?_cons];unfold KG;rw[j,h];simp only[g,Int.toNat_natCast]
theorem UN{l:List UInt8}(h:(rd (AH l) a).2.2=true):AF (rd (AH l) a).1 (rd (AH l) a).2.1 a=true/\BG (rd (AH l) a).1 (rd (AH l) a).2.1=l:=by
 by_cases hw:1<=a/\a<=8
 .cases l with
  |nil=>unfold rd at h;rw[if_pos hw]at h;simp at h
  |cons c T=>
   rw[rd_mk c T a hw.1 hw.2]at h |-;split at h
   case isTrue hc=>
    rw[if_pos hc];refine⟨hc.2,?_⟩;simp only[BG,List.length_map,List.length_range];rw[Tl T a.toNat c.toNat hc.1];simp
   case isFalse hc=>simp at h
 .unfold rd at h;rw[if_neg hw]at h;simp at h
theorem Qa{a:Zl}{b:Int}(h:AF t a b=true):rd (AH (BG t a)) b=(t,a,true):=by
 have p:=Be h;have d:∀s∈a,s.size=b.toNat:=fun s j=>by obtain⟨i,f⟩:=List.getElem?_of_mem j;have:=p.size f;omega
 have g:(UInt8.ofNat a.length).toNat=a.length:=by have:=p.B;simp;omega
 have c:(flat a).length=a.length *b.toNat:=by rw[Dx,p.br]
 unfold BG;rw[rd_mk _ _ b p.lo p.hi,g,Tm a t.data.toList b.toNat d];have e:(flat a++t.data.toList).drop (a.length *b.toNat)=t.data.toList:=by rw[<-c,List.drop_left]
 rw[e,WS,if_pos ⟨by rw[List.length_append,c];omega,h⟩]
theorem Gy{c:Array Oper}{rest:List Oper}{b:Oper}{a:Act}{Q:Exit->Act->Zh->Prop}(f:b.guard=none)(t:TypeId)(parts:Array (Nat×Operand))(g:b.op=.build t parts)(l:List (Nat×Value))(e:(parts.map fun(i,x)=>(i,a.eval x)).toList=l)(cells:Array Value)(d:P.built t l=some cells)(h:wpList P c Q rest (a.put b.dst (.agg cells)) w):wpList P c Q (b::rest) a w:=
 wpList_build f t parts g (by rw[e,d];rfl) (by rw[e,d];exact h)
theorem Iu{t:Zj}(h:t.length=17):∃i j k l m n o q r s a b c d e f g,t=[i,j,k,l,m,n,o,q,r,s,a,b,c,d,e,f,g]:=by
 match t,h with
 |[i,j,k,l,m,n,o,q,r,s,a,b,c,d,e,f,g],_=>exact⟨i,j,k,l,m,n,o,q,r,s,a,b,c,d,e,f,g,rfl⟩
theorem Tp{a:Zj}(h:a.length=17)(s:Zi)(n:Int):prog.built 157 [(1,.agg a.toArray),(2,.string s),(3,Zg n)]=some (Zg 0::(a++[.string s,Zg n,Zc,Zc])).toArray:=by
 obtain⟨j,k,l,m,o,q,r,t,u,v,b,c,d,e,f,g,i,rfl⟩:=Iu h
 kernel_rfl
theorem Ru{a:Zj}(h:a.length=17):prog.built 157 [(1,.agg a.toArray)]=some (Zg 0::(a++[Zc,Ze,Zc,Zc])).toArray:=by
 obtain⟨j,k,l,m,n,o,q,r,s,t,b,c,d,e,f,g,i,rfl⟩:=Iu h
 kernel_rfl
theorem BE{α:Type}:(∀(l:List α) (i:Nat) (a:α),l.toArray.setIfInBounds i a=(l.set i a).toArray)/\(∀(a b:α) (l:List α),(b::l).set 0 a=a::l)/\∀(a b:α) (l:List α) (n:Nat),(b::l).set (n+1) a=b::l.set n a:=
 ⟨fun _ _ _=>Zq _ _ _,fun _ _ _=>rfl,fun _ _ _ _=>rfl⟩
theorem Ad.cells{c:Zl}(h:Ad w B (some ⟨g,0,none⟩) c):∀j s,c[j]?=some s->w.cell? ((⟨g,0,none⟩:Addr).add j)=some (.string s):=by
 intro j s a;rcases h with h|⟨b,f,d,_,e⟩
 .subst h;simp at a
 .cases d;have:=e j s a;rw[Go.WideShapes.add_plain];simpa using this
theorem Ad.take{a:Zk}{c:Zl}(h:Ad w B a c)(K:Nat):Ad w B a (c.take K):=by
 rcases h with h|⟨q,d,e,f,g⟩
 .exact .inl (by simp[h])
 .refine .inr ⟨q,d,e,f,fun i s b=>g i s ?_⟩;have j:=(Zw b).1;simp at j;rw[List.getElem?_take_of_lt Yv]at b;exact b
end Go.Proofs.YtoglnpagihdhpaaGreatDoor
