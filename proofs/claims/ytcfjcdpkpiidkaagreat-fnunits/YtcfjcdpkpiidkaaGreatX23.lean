import Derived.Test.YtcfjcdpkpiidkaaGreatX10
import Derived.Test.YtcfjcdpkpiidkaaGreatX20
import Derived.Test.YtcfjcdpkpiidkaaGreatX18
set_option maxRecDepth 100000
set_option maxHeartbeats 16000000
namespace Go.Proofs.YtcfjcdpkpiidkaaGreat
open ChangeShapes WideShapes ChangeAt RowKit _root_.Go.Proofs.Tryz
variable{b n q a c base B size:Nat}{T P L d f S U Q M m u:Value}{e:TypeId}{l g:List Pd}{k:List Ld}{V:List Nat}{v:Vd}{rs i:Zj}{r:Rs}{X Y:Zh}{z:Kd×Value}{ks:List Kd}{A:Type}{p K now:Int}
theorem Bb.co{w:Zh}{e:Zj}{j:List Kd}(h:Bb w b T P L e j l k):∀g∈BS T P L e,g<w.heap.size:=by
 intro g a;unfold BS at a;simp only[List.mem_append,Option.mem_toList,List.mem_filterMap]at a;rcases a with a|a|a|⟨r,f,a⟩
 .exact(Ac h.aj a).2
 .exact(Ac h.pins a).2
 .exact(Ac h.aq a).2
 .obtain⟨i,c⟩:=List.getElem?_of_mem f;have d:=(Zw c).1;rw[h.len]at d;exact(Ac (h.B i _ r (Zv d) c) a).2
theorem Bb.apart{w l:Zh}{d:Nat}{f:Zj}{n:List Kd}{q:List Pd}{o:List Ld}(h:Bb w d T P L f n q o)(u:Tn V w l)(s:∀b∈V,b∉BS T P L f):Bb l d T P L f n q o:=by
 have c:∀g,g∈BS T P L f->g<w.heap.size->l.heap[g]?=w.heap[g]?:=fun g a t=>u.block g t (fun e=>s g e a)
 refine⟨h.len,Aw h.aj (fun g a=>c g (by unfold BS;simp[a]) (Ac h.aj a).2),fun i k r m j=>Aw (h.B i k r m j) (fun g a=>c g (by unfold BS;simp only[List.mem_append,List.mem_filterMap];exact .inr (.inr (.inr ⟨r,Zs j,a⟩))) (Ac (h.B i k r m j) a).2),Aw h.pins (fun g a=>c g (by unfold BS;simp[a]) (Ac h.pins a).2),Aw h.aq (fun g a=>c g (by unfold BS;simp[a]) (Ac h.aq a).2),h.nd⟩
theorem Bb.rows{w:Zh}{a:Zj}{b:List Kd}{v:List Pd}{t:List Ld}(h:Bb w n T P L a b v t):∃m x l u f s,T=.slice m b.length x/\P=.slice l v.length u/\L=.slice f t.length s/\AW w w.heap.size m l f b v t:=by
 obtain⟨m,x,rfl⟩:=As h.aj;obtain⟨l,u,rfl⟩:=As h.pins;obtain⟨f,s,rfl⟩:=As h.aq;refine⟨m,x,l,u,f,s,rfl,rfl,rfl,⟨?_,AM.own h.pins,AN.own h.aq⟩⟩;rcases h.aj.2 with⟨_,r⟩|⟨g,cap,H,e,K,C,_⟩
 .exact .inl (List.length_eq_zero_iff.1 r)
 .cases e;refine .inr ⟨g,0,rfl,(Array.getElem?_eq_some_iff.1 C).1,fun i k q=> ?_⟩;have M:=(Zw q).1;have hlen:=h.len;have y:a[i]?=some a[i]:=Zv Yv;have E:(b.zip a)[i]?=some (k,a[i]):=List.getElem?_zip_eq_some.2 ⟨q,y⟩;have I:(b.zip a).length=b.length:=by rw[List.length_zip];omega
  have c:∀j,j<4->w.cell? (Zd g (i *4+j))=(kC (k,a[i]))[j]?:=fun j D=>(h.aj.cellAt (i *4+j) Yv).trans (BZ Cb E D);have d:=h.B i k _ q y;obtain⟨F,G,o⟩:=As d;rw[Nat.zero_add];refine⟨by simpa [kC]using c 0 Yq,by simpa [kC]using c 1 Yq,by simpa [kC]using c 2 Yq,F,G,?_,?_⟩
  .have:=c 3 Yq;rw[<-o];simpa [kC]using this
  .rw[o]at d;rcases d.2 with⟨_,r⟩|⟨J,z,A,B,_⟩
   .exact .inl (List.eq_nil_of_length_eq_zero r)
   .cases B;exact Ab.own d
theorem Kr{a:List Kd}(h:∀k∈a,k.B.length<=30):Fm a<=30 *a.length:=by
 induction a with
 |nil=>simp[Fm]
 |cons x xs ih=>rw[Qo];have c:=h x Yu;have d:=ih (fun k b=>h k (by simp[b]));simp only[List.length_cons];omega
def Dw(S U T P L Q M:Value)(rs:Zj):List Nat:=((Aj S).toList++(Aj U).toList)++(BS T P L rs++((Aj Q).toList++(Aj M).toList))
structure AG (w:Zh) (base:Nat) (S U T P L Q M:Value) (rs:Zj) (v:Vd):Prop where
 s:Ah w base S v.ss
 u:Ah w base U v.A
 R:Bb w base T P L rs v.ks v.ps v.ls
 q:Ah w base Q v.D
 m:Ah w base M v.ms
 nd:(Dw S U T P L Q M rs).Nodup
theorem AG.y{w:Zh}{c:Zj}(h:AG w b S U T P L Q M c v):∀g∈Dw S U T P L Q M c,b<=g:=by
 intro g a;unfold Dw at a;simp only[List.mem_append,Option.mem_toList]at a;rcases a with(a|a)|a|a|a
 .exact(h.s.V a).1
 .exact(h.u.V a).1
 .exact h.R.y g a
 .exact(h.q.V a).1
 .exact(h.m.V a).1
theorem AG.co{w:Zh}{c:Zj}(h:AG w b S U T P L Q M c v):∀g∈Dw S U T P L Q M c,g<w.heap.size:=by
 intro g a;unfold Dw at a;simp only[List.mem_append,Option.mem_toList]at a;rcases a with(a|a)|a|a|a
 .exact(h.s.V a).2
 .exact(h.u.V a).2
 .exact h.R.co g a
 .exact(h.q.V a).2
 .exact(h.m.V a).2
theorem AG.stays{w w':Zh}{f:Zj}(h:AG w c S U T P L Q M f v)(d:Tn V w w')(j:∀b∈V,b∉Dw S U T P L Q M f):AG w' c S U T P L Q M f v:=by have e:∀b∈Dw S U T P L Q M f,b∉V:=fun b i k=>j b k i;unfold Dw at e;simp only[List.mem_append,Option.mem_toList]at e;exact⟨h.s.J d (fun g a=>e g (.inl (.inl a))),h.u.J d (fun g a=>e g (.inl (.inr a))),h.R.apart d (fun b i l=>e b (.inr (.inl l)) i),h.q.J d (fun g a=>e g (.inr (.inr (.inl a)))),h.m.J d (fun g a=>e g (.inr (.inr (.inr a)))),h.nd⟩
theorem AG.below{w a:Zh}(h:AG w base S U T P L Q M rs v)(b:Zz w a):AG a base S U T P L Q M rs v:=
 h.stays (V:=[]) (Tn.of b) Yu
theorem AG.mono{w:Zh}{base':Nat}(h:AG w base S U T P L Q M rs v)(a:base'<=base):AG w base' S U T P L Q M rs v:=
 ⟨h.s.mono a,h.u.mono a,h.R.mono a,h.q.mono a,h.m.mono a,h.nd⟩
theorem AG.of{w:Zh}{n1 n2:Nat}(A:Ah w c S v.ss)(C:Ah w c U v.A)(n:∀g,Aj S=some g->Aj U≠some g)(t:∀g,Aj S=some g\/Aj U=some g->g<n1)(h:Bb w n1 T P L i v.ks v.ps v.ls)(d:c<=n1)(x:∀g∈BS T P L i,g<n2)(z:Ah w c Q v.D)(y:Ah w c M v.ms)(j:∀g,Aj Q=some g\/Aj M=some g->n2<=g)(E:n1<=n2)(l:∀g,Aj Q=some g->Aj M≠some g):AG w c S U T P L Q M i v:=by
 refine⟨A,C,h.mono d,z,y,?_⟩;have k:=h.nd;rw[EJ]at k;have r:=h.y;unfold Dw;generalize BS T P L i=B at *
 generalize Aj S=s at *
 generalize Aj U=u at *
 generalize Aj Q=q at *
 generalize Aj M=m at *
 have one:∀o:Option Nat,o.toList.Nodup:=fun o=>by cases o<;>simp
 simp only[List.nodup_append,List.mem_append,Option.mem_toList];refine⟨⟨one _,one _,fun a f b d e=>n a f (e▸d)⟩,⟨k,⟨one _,one _,fun a f b d e=>l a f (e▸d)⟩,fun a f b d e=> ?_⟩,fun a f b d e=> ?_⟩
 .have D:=x a f;have F:=j b d;omega
 .have D:=t a f;rcases d with d|d
  .have:=r b d;omega
  .have:=j b d;omega
theorem UD{w:Zh}{e g i j k l n a c:Value}(h:Aa w b [d,e,f,g,i,j,k,l,m,n,a,c]):(w.cell? (Zd b 0)=some d/\w.frozen? ⟨b,0,none⟩=false)/\(w.cell? (Zd b 1)=some e/\w.frozen? ⟨b,1,none⟩=false)/\(w.cell? (Zd b 2)=some f/\w.frozen? ⟨b,2,none⟩=false)/\(w.cell? (Zd b 3)=some g/\w.frozen? ⟨b,3,none⟩=false)/\(w.cell? (Zd b 4)=some i/\w.frozen? ⟨b,4,none⟩=false)/\(w.cell? (Zd b 5)=some j/\w.frozen? ⟨b,5,none⟩=false)/\(w.cell? (Zd b 6)=some k/\w.frozen? ⟨b,6,none⟩=false)/\(w.cell? (Zd b 7)=some l/\w.frozen? ⟨b,7,none⟩=false)/\(w.cell? (Zd b 8)=some m/\w.frozen? ⟨b,8,none⟩=false)/\(w.cell? (Zd b 9)=some n/\w.frozen? ⟨b,9,none⟩=false)/\(w.cell? (Zd b 10)=some a/\w.frozen? ⟨b,10,none⟩=false)/\w.cell? (Zd b 11)=some c/\w.frozen? ⟨b,11,none⟩=false:=
 ⟨h 0 _ rfl,h 1 _ rfl,h 2 _ rfl,h 3 _ rfl,h 4 _ rfl,h 5 _ rfl,h 6 _ rfl,h 7 _ rfl,h 8 _ rfl,h 9 _ rfl,h 10 _ rfl,h 11 _ rfl⟩
theorem c6{w:Zh}{a c e g:Value}(h:Aa w b [a,c,d,e,f,g]):(w.cell? (Zd b 0)=some a/\w.frozen? ⟨b,0,none⟩=false)/\(w.cell? (Zd b 1)=some c/\w.frozen? ⟨b,1,none⟩=false)/\(w.cell? (Zd b 2)=some d/\w.frozen? ⟨b,2,none⟩=false)/\(w.cell? (Zd b 3)=some e/\w.frozen? ⟨b,3,none⟩=false)/\(w.cell? (Zd b 4)=some f/\w.frozen? ⟨b,4,none⟩=false)/\w.cell? (Zd b 5)=some g/\w.frozen? ⟨b,5,none⟩=false:=
 ⟨h 0 _ rfl,h 1 _ rfl,h 2 _ rfl,h 3 _ rfl,h 4 _ rfl,h 5 _ rfl⟩
def XC(n:Nat)(w:Zh)(ta pa la:Zk)(ks:List Kd)(ps:List Pd)(ls:List Ld):Prop:=∀V w',(∀b∈V,b<n)->Tn V w w'->AW w' w'.heap.size ta pa la ks ps ls
theorem Bb.jj{w:Zh}{g f e:Zk}{s o:Nat}{r:Zj}{b:List Kd}{d:List Pd}{c:List Ld}(h:Bb w a (.slice g b.length s) (.slice f d.length q) (.slice e c.length o) r b d c):XC a w g f e b d c:=fun V t l n=>by obtain⟨_,_,_,_,_,_,i,j,k,m⟩:=(h.J n l).rows;cases i;cases j;cases k;exact m
theorem Bb.get{w:Zh}{g f e:Zk}{l j i:Nat}{k:Zj}{b:List Kd}{d:List Pd}{c:List Ld}(h:Bb w a (.slice g b.length l) (.slice f d.length j) (.slice e c.length i) k b d c):AW w w.heap.size g f e b d c:=
 h.jj [] w Yu (Tn.of Ad)
theorem Aa.fh{w:Zh}(a c d:Zj)(h:Aa w B (a++(c++d))):w.rangeAt B a.length c:=fun j v b=>by refine(h (a.length+j) v ?_).1;rw[List.getElem?_append_right Yv,Nat.add_sub_cancel_left,List.getElem?_append_left (Zw b).1];exact b
def v0:Vd:=⟨0,0,[],[],0,0,0,0,[],[],[],0,[],[],0,0,0⟩
def QU(wd lim:Int)(ss tt:Zl)(r:Rs):Vd:=⟨wd,lim,ss,tt,wd,r.E,r.G,r.C,r.ks,r.ps,r.ls,0,[],[],0,0,0⟩
def GR(wd lim:Int)(ss tt:Zl)(c:Int)(v:Vd):Prop:=
 (¬((1<=wd/\wd<=8)/\(0<=lim/\lim<=1000000)/\Dg ss tt=true)/\c=1/\v=v0)\/
 (((1<=wd/\wd<=8)/\(0<=lim/\lim<=1000000)/\Dg ss tt=true)/\(((∃n,Lg wd (ss++tt) n)/\c=2/\v=v0)\/(∃r,Cx wd r0 (ss++tt) r/\c=0/\v=QU wd lim ss tt r)))
theorem AG.nil(w:Zh)(a:Nat):AG w a Zb Zb Zb Zb Zb Zb Zb [] v0:=
 ⟨Ah.nil _ _,Ah.nil _ _,⟨rfl,⟨rfl,.inl ⟨rfl,rfl⟩⟩,(fun i k r h=>by cases i<;>cases h),⟨rfl,.inl ⟨rfl,rfl⟩⟩,⟨rfl,.inl ⟨rfl,rfl⟩⟩,List.nodup_nil⟩,Ah.nil _ _,Ah.nil _ _,List.nodup_nil⟩
def WU(wd lim:Int)(ss tt:Zl)(w:Zh)(e:Ending)(w':Zh):Prop:=
 ∃(c:Int) (v:Vd) (S U T P L Q M:Value) (rs:Zj),GR wd lim ss tt c v/\e=.returned (.tuple #[.agg #[Zg v.wd,Zg v.lim,S,U,Zg v.P,Zg v.E,Zg v.G,Zg v.C,T,P,L,Zg v.H,Q,M,Zg v.O,Zg v.M,Zg v.ro],Zg c])/\AG w' w.heap.size S U T P L Q M rs v/\Zz w w'
def BB:Zj:=[Ze,Ze,Zb,Zb,Ze,Ze,Ze,Ze,Zb,Zb,Zb,Ze,Zb,Zb,Ze,Ze,Ze]
theorem LD(w:Zh)(b:Nat)(v:Value)(f d:List (Kd×Value))(l:w.ownsRow b 65 4 v f.length (Ag kC f))(k:Zk)(c:Nat)(o:k=none->d.length=0/\c=0)(H:∀A,k=some A->∀j u,(Ag kC d)[j]?=some u->w.cell? (A.add j)=some u)(K:∀z∈d,∃a n c,z.2=.slice a n c)(M:f.length<=1000000)(L:d.length<=1000000)(h:b<=w.heap.size)(t:v≠Zb)(q:TypeId):
 ∃g cap i,(Builtin.append_ #[23,23] q #[v,.slice k d.length c]).run prog w=.ok (Yz g (f.length+d.length) cap) i/\i.ownsRow b 65 4 (Yz g (f.length+d.length) cap) (f++d).length (Ag kC (f++d))/\w.grownBy i v.ownBlock:=by
 obtain⟨x,s,y,B,C⟩:=info_parts Gd;cases k with
 |none=>obtain⟨E,rfl⟩:=o rfl;have J:=List.eq_nil_of_length_eq_zero E;subst J;obtain⟨g,cap,rfl,_,_⟩:=Bq l t;exact⟨g,cap,w,run_append_owned_none (P:=prog) w b 23 q 65 x 4 underlying23 s _ _ _ l,by rw[List.append_nil];exact l,⟨rfl,rfl,rfl,Zx,fun _ _ _=>rfl⟩⟩
 |some A=>
  obtain⟨N,i,I,r,F,G,_⟩:=run_append_own_at (P:=prog) w b 23 q 65 x _ 4 64 underlying23 s y B C rfl Yq v f.length (Ag kC f) l A d.length c (Ag kC d) (Dl Cb _) (H A rfl) (fun u m=>by
   obtain⟨z,D,m⟩:=List.mem_flatMap.1 m;obtain⟨a,n,c,e⟩:=K z D;simp[kC,e]at m;rcases m with rfl|rfl|rfl|rfl<;>rfl) Yo Yv h
  obtain⟨g,cap,rfl,_,_⟩:=Bq r (fun e=>t (G.1 e).1);exact⟨g,cap,i,I,by rw[Es,List.length_append];exact r,F⟩
theorem Cr{P:Program}{w:Zh}{o:Oper}{a:Act}{K:Act->Zh->Prop}{Q:Exit->Act->Zh->Prop}(b x:Operand)(t:TypeId)(e:o.op=.call {callee:=.builtin .append,args:= #[b,x],argTypes:= #[t,t]}){v c:Value}{d:Zh}(g:a.eval b=v)(i:a.eval x=u)(f:(Builtin.append_ #[t,t] o.type #[v,u]).run P w=.ok c d)(h:K (a.put o.dst c) d):Oper.wp P o a w K Q:=by unfold Oper.wp execOp;simp only[e,resolve,invoke,builtin,Sem.run_bind,Sem.run_pure,Result.andThen_ok,List.map_toArray,List.map_cons,List.map_nil,g,i,f];exact h
structure Mz (base:Nat) (X:Zh) (n:Nat) (z:Kd×Value):Prop where
 row:X.ownsRow base 9 1 z.2 z.1.B.length (z.1.B.map Value.string)
 sm:z.1.sum.size<=8
 tx:z.1.F.size<=10
 rl:z.1.B.length<=1
 rs:∀s∈z.1.B,s.size<=8
 bo:0<=z.1.born/\z.1.born<=n
structure Mx (w wr:Zh) (n:Nat) (T:Value) (zs:List (Kd×Value)):Prop where
 ia:Aa wr w.heap.size z7
 box:Aa wr (w.heap.size+1) [Zg 8,Ze,Ze,Zg n,T,Zb,Zb]
 ow:wr.ownsRow (w.heap.size+2) 65 4 T zs.length (Ag kC zs)
 zz:∀z∈zs,Mz (w.heap.size+2) wr n z
 bl:Below w.heap.size w wr
theorem Mz.below{w:Zh}(h:Mz base w n z)(a:Zz w X):Mz base X n z:=⟨Al h.row a,h.sm,h.tx,h.rl,h.rs,h.bo⟩
theorem Mx.below{w wr:Zh}{b:List (Kd×Value)}(h:Mx w wr n T b)(a:Zz wr X):Mx w X n T b:=
 ⟨Aa.below h.ia a,Aa.below h.box a,Al h.ow a,fun z c=>(h.zz z c).below a,h.bl.trans (a.mono h.bl.size)⟩
theorem Ho{w:Zh}{a:List (Kd×Value)}(h:w.ownsRow c 65 4 T a.length (Ag kC a)){k:Nat}(n:k<=a.length):T=Zb/\a=[]\/∃g cap,T=Yz g a.length cap/\c<=g/\g<w.heap.size/\a.length<=cap/\cap<=maxLen/\(∀j u,(Ag kC (a.take k))[j]?=some u->w.cell? ((⟨g,0,none⟩:Addr).add j)=some u)/\∃off,(if cap=k then some (⟨g,0,none⟩:Addr)else some ⟨g,k *4,none⟩)=some ⟨g,off,none⟩/\∀j u,(Ag kC (a.drop k))[j]?=some u->w.cell? (Zd g (off+j))=some u:=by
 rcases h.2 with⟨e,f⟩|⟨g,cap,o,e,m,s,i,l,q,r⟩
 .exact .inl ⟨e,List.eq_nil_of_length_eq_zero f⟩
 .subst e;refine .inr ⟨g,cap,rfl,m,(h.lt g rfl).2,i,l,fun j u b=> ?_,?_⟩
  .rw[Go.WideShapes.add_plain,Nat.zero_add];have d:=(Zw b).1;rw[Dl Cb,List.length_take]at d;rw[h.cellAt j Yv];rw[<-List.take_append_drop k a,CS,List.getElem?_append_left (by rw[Dl Cb,List.length_take];omega)];exact b
  .by_cases hc:cap=k
   .refine⟨0,by rw[if_pos hc],fun j u b=> ?_⟩;rw[List.drop_of_length_le Yv]at b;simp[Ag]at b
   .refine⟨k *4,by rw[if_neg hc],fun j u b=> ?_⟩;rw[<-Nb Cb a k n,List.getElem?_drop]at b;have d:=(Zw b).1;rw[Dl Cb]at d;exact(h.cellAt _ Yv).trans b
theorem Od{w:Zh}{f:Nat}{c:Zk}{b:Zl}(h:w.ownsRow a 9 1 (.slice c n f) b.length (b.map Value.string)):Ab w w.heap.size c b:=by
 rcases h.2 with⟨_,d⟩|⟨g,cap,i,e,_⟩
 .exact .inl (List.eq_nil_of_length_eq_zero d)
 .cases e;exact Ab.own h
structure We (w:Zh) (n:Nat) (e:Ending) (w':Zh):Prop where
 ex:∃T zs,e=.returned (.agg #[Zg 8,Ze,Ze,Zg n,T,Zb,Zb])/\w'.ownsRow (w.heap.size+2) 65 4 T zs.length (Ag kC zs)/\(∀z∈zs,Mz (w.heap.size+2) w' n z)/\zs.length<=n/\Zz w w'
theorem Oe(n:Nat)(apart:Bool)(w:Zh)(hn:n<=1000):
 Calls prog 31 #[Zg n,.bool apart] w (We w n):=by
 obtain⟨W,hW⟩:=Af ((w.alloc (.cells Yi 27)).alloc (.cells #[Zg 8,Ze,Ze,Zg n,Zb,Zb,Zb] 27));have hb:Below w.heap.size w W:=by rw[hW];exact(Zy).alloc Yu _
 have F:Hid (Mx w W n Zb []):=by
  refine⟨?_,?_,World.ownsRow_nil _ _ _ _,Yu,hb⟩
  .rw[hW];exact Aa.below (Aa.new w z7 27) (Zy)
  .have B:=Aa.new (w.alloc (.cells Yi 27)) [Zg 8,Ze,Ze,Zg n,Zb,Zb,Zb] 27;rw[World.size_alloc]at B;rw[hW];exact B
 have HW:=Yw hW;clear hW hb;go_enter func31,ntmps31;go_upto_region 2 with fail;rw[<-HW.o];clear HW;go_wp2
 go_loopw [6,7] (fun lv i wr=>∃(k:Nat) (last:Zi) (T:Value) (b:List (Kd×Value)),i=Zg (k:Int)/\lv=.string last/\1<=k/\k<=n+1/\last.size<=8/\b.length<k/\Hid (Mx w wr n T b)) (fun _ i _=>n+1 -(intOf i).toNat)
 case atStart=>exact⟨1,_,_,[],rfl,rfl,Yv,Yv,Yq,Yu,F⟩
 case round=>
  clear F;obtain⟨k,last,T,b,rfl,rfl,xG,xH,yV,xL,F⟩:=hrel;by_cases hk:k<=n
  .have HD:=Yw (Ve 9 k wr Yv (by have:(10:Int)^9=1000000000:=rfl;omega) Yv);go_wp2_with fail;refine HD.Am ?_;clear HD;rintro e w1 ⟨t,rfl,yX,zP⟩;obtain⟨N,zI⟩:=Af (w1.alloc (.cells #[.string t,Zb] 63));have yF:=(AL zI).1;have yR:=(AL zI).2.1;have yH:Aa N w1.heap.size [.string t,Zb]:=(AL (l:=[.string t,Zb]) zI).2.2
   have yG:Below wr.heap.size wr N:=zP.trans (yF.mono zP.size);have zC:Hid (Zz wr N/\Aa N w1.heap.size [.string t,Zb]/\wr.heap.size<=w1.heap.size/\N.heap.size=w1.heap.size+1):=⟨yG,yH,zP.size,yR⟩;have yE:=Yw zI;clear zI yF yR yH yG zP;go_upto_region 7 with fail;rw[<-yE.o];clear yE;go_cut [26] (fun v V=>∃c:Bool,v=.bool c/\V=N)
   case first=>
    cases apart with
    |true=>go_wp2;go_meet;exact⟨_,rfl,rfl⟩
    |false=>go_wp2;go_meet;exact⟨_,rfl,rfl⟩
   revert wc;rintro N ⟨cc,rfl,rfl⟩
   go_upto_if 26 with fail
   go_cut [8,26] (fun v _ V=>∃(o:Nat) (rv:Value) (d:Zl),v=Yy o/\Hid (Aa V o [.string t,rv]/\V.ownsRow (w.heap.size+2) 9 1 rv d.length (d.map Value.string)/\d.length<=1/\(∀s∈d,s.size<=8)/\Zz wr V))
   case first=>
    cases cc with
    |true=>
     obtain⟨Y,hY⟩:=Af (N.setCell (Zd (w1.heap.size) 1) (Yz N.heap.size 1 1));have b2:Below Y.heap.size Y (Y.alloc (.cells #[.string last] 9)):=Zy;have zY:Y.heap.size=N.heap.size:=by rw[hY];simp
     have HS:Hid (Zz wr (Y.alloc (.cells #[.string last] 9))/\Aa (Y.alloc (.cells #[.string last] 9)) w1.heap.size [.string t,Yz N.heap.size 1 1]/\(Y.alloc (.cells #[.string last] 9)).ownsRow (w.heap.size+2) 9 1 (Yz N.heap.size 1 1) 1 [Value.string last]):=by
      obtain⟨B,O,h3,h4⟩:=zC.o;have h5:Below wr.heap.size wr Y:=by rw[hY];exact B.setCell (p:=⟨w1.heap.size,1,none⟩) h3 _
      have h6:Aa Y w1.heap.size [.string t,Yz N.heap.size 1 1]:=by rw[hY];exact O.set 1 _
      refine⟨h5.trans (b2.mono h5.size),Aa.below h6 b2,?_⟩;rw[<-zY];refine World.ownsRow_lit (base:=w.heap.size+2) (e:=9) (size:=1) Y #[.string last] 1 ?_ Yo rfl;have:=F.o.bl.size;have:=F.o.box.lt;omega
     obtain⟨c0,q0⟩:=zC.o.2.1 0 _ rfl;obtain⟨c1,q1⟩:=zC.o.2.1 1 _ rfl;have zG:w1.heap.size<N.heap.size:=zC.o.2.1.lt;subst hY;clear b2 zY;go_wp2;go_meet;exact⟨_,_,[last],rfl,HS.o.2.1,HS.o.2.2,Yu,Yt,HS.o.1⟩
    |false=>go_wp2;go_meet;exact⟨_,_,[],rfl,zC.o.2.1,World.ownsRow_nil _ _ _ _,Yu,Yu,zC.o.1⟩
   case rest=>
    revert wc;intro w2 hcut;obtain⟨o,rv,d,rfl,Z⟩:=hcut;clear zC;obtain⟨U,rc,yW⟩:=As Z.o.2.1;subst yW;have yI:Ab w2 w2.heap.size U d:=Od Z.o.2.1;have HF:=Yw (Ft t U rc d 8 w2 yI (by have:=Z.o.2.2.1;omega) Yo);obtain⟨c0,_⟩:=Z.o.1 0 _ rfl;obtain⟨c1,_⟩:=Z.o.1 1 _ rfl;clear yI;go_wp2_with fail;refine HF.Am ?_;rintro e w3 ⟨rfl,yA⟩
    have yD:=Yw (EY (AD t d 8) 8 w3 (Dm _ _ _) Yv Yv);have xK:(CR (AD t d 8).data.toList (8:Int).toNat).size=8:=IT _ _;generalize AD t d 8=FF at *
    generalize CR FF.data.toList (8:Int).toNat=S at *
    go_wp2_with fail;refine yD.Am ?_;rintro e f ⟨rfl,yJ⟩;have zB:Below w2.heap.size w2 f:=yA.trans (yJ.mono yA.size);have D:Hid (Mx w f n T b):=(F.o.below Z.o.2.2.2.2).below zB;have zT:Hid (Aa f o [.string t,.slice U d.length rc]/\Mz (w.heap.size+2) f n (⟨S,k,t,d⟩,.slice U d.length rc)):=⟨Aa.below Z.o.1 zB,⟨Al Z.o.2.1 zB,by simp only;omega,yX,Z.o.2.2.1,Z.o.2.2.2.1,by simp only;omega⟩⟩
    clear HF yD yA yJ zB Z F c0 c1 yV;obtain⟨ta,tc,C⟩:=As D.o.ow;subst C;go_wp2
    go_loopw [9] (fun j V=>∃m:Nat,m<=b.length/\j=Zg (m:Int)/\V=f) (fun j _=>b.length -(intOf j).toNat)
    case atStart=>exact⟨0,Yv,rfl,rfl⟩
    case round=>
     obtain⟨m,hm,rfl,rfl⟩:=hrel;obtain⟨b4,_⟩:=D.o.box 4 _ rfl;go_upto_region 11 with fail;go_cut [47] (fun v V=>∃c:Bool,v=.bool c/\(c=true->m<b.length)/\V=wr)
     case first=>
      by_cases zG:m<b.length
      .rcases Ho D.o.ow hm with⟨_,e⟩|⟨g,cap,e,_,hg,yL,zR,_⟩
       .rw[e]at zG;simp at zG
       .cases e;have hx:=Zv zG;have c0:=D.o.ow.cellAt (m *4) Yv;have zX:=BZ Cb hx (show 0<4 by decide);rw[Nat.add_zero]at zX;rw[zX]at c0;generalize b[m]=z at *
        have c1:wr.cell? (Zd g (m *4))=some (.string z.1.sum):=c0;clear hx zX c0;go_wp2;go_meet;exact⟨_,rfl,fun _=>zG,rfl⟩
      .go_wp2;go_meet;exact⟨_,rfl,(fun h=>by cases h),rfl⟩
     revert wc;rintro f ⟨cc,rfl,yM,rfl⟩;cases cc with
     |true=>have zG:=yM rfl;go_wp2;exact⟨⟨m+1,Yv,Yn,by first|trivial|rfl⟩,Ys⟩
     |false=>
      clear yM;obtain⟨A,R⟩:=Af (f.alloc (.cells #[] 65));have bA:=(AL (l:=[]) R).1;have zA:=(AL (l:=[]) R).2.1;have oA:A.ownsRow f.heap.size 65 4 (Yz f.heap.size 0 0) ([]:List (Kd×Value)).length (Ag kC []):=by rw[R];exact World.ownsRow_lit (base:=f.heap.size) (e:=65) (size:=4) f #[] 0 (Zx) Yo rfl
      have zU:Hid (Mx w A n (.slice ta b.length tc) b):=D.o.below bA;have HZ:Hid (∀z∈b,∃a n c,z.2=.slice a n c):=fun z J=>by obtain⟨a,c,e⟩:=As (D.o.zz z J).row;exact⟨a,_,c,e⟩
      have zH:f.heap.size<=A.heap.size:=Yv
      obtain⟨yS,_⟩:=zU.o.box 4 _ rfl;have zV:=Yw oA;have zS:Hid (Zz f A):=bA;clear oA bA;go_upto_region 13 with fail;go_cut [10] (fun v V=>∃g c,v=Yz g m c/\Hid (V.ownsRow f.heap.size 65 4 (Yz g m c) (b.take m).length (Ag kC (b.take m))/\Zz f V))
      case first=>
       have hl:(b.take m).length=m:=by rw[List.length_take];omega
       have yO:Yz f.heap.size 0 0≠Zb:=fun e=>by cases e
       rcases Ho zU.o.ow hm with⟨e,e'⟩|⟨g,cap,e,_,hg,yL,zR,zO,_⟩
       .subst e';cases e;obtain rfl:m=0:=by simpa using hm
        obtain⟨g,cap,X,I,P,E⟩:=LD A f.heap.size _ [] [] zV.o none 0 (fun _=>⟨rfl,rfl⟩) (fun _ e=>by cases e) Yu Yu Yu zH yO 23;have HO:Hid (X.ownsRow f.heap.size 65 4 (Yz g 0 cap) 0 []/\Zz f X):=⟨P,zS.o.grown E zH (fun q H=>by simp[Value.ownBlock]at H;omega)⟩;clear P E hl;subst R;go_wp2_with (at_builtin;refine wpList_append_run rfl _ _ 23 23 rfl rfl rfl I ?_);go_wp2
        go_meet;exact⟨g,cap,rfl,HO.o.1,HO.o.2⟩
       .cases e;unfold maxLen at zR;obtain⟨G,zM,X,I,P,E⟩:=LD A f.heap.size _ [] (b.take m) zV.o (some ⟨g,0,none⟩) tc (fun e=>by cases e) (fun A' e=>by cases e;exact zO) (fun z J=>HZ.o z (List.mem_of_mem_take J)) Yu Yv zH yO 23;rw[hl]at I P;simp only[List.length_nil,Nat.zero_add,List.nil_append]at I P
        have HO:Hid (X.ownsRow f.heap.size 65 4 (Yz G m zM) (b.take m).length (Ag kC (b.take m))/\Zz f X):=⟨P,zS.o.grown E zH (fun q H=>by simp[Value.ownBlock]at H;omega)⟩;clear P E hl zO;subst R;go_wp2_with (at_builtin;refine wpList_append_run rfl _ _ 23 23 rfl rfl rfl I ?_);go_wp2;go_meet;exact⟨G,zM,rfl,HO.o.1,HO.o.2⟩
      case rest=>
       clear zV zS zU yS R zA zH b4;revert wc;intro w5 hcut;obtain⟨g,c,rfl,HL⟩:=hcut;have xI:f.heap.size<=w5.heap.size:=HL.o.2.size;have xD:=Ac HL.o.1 (g:=g) rfl
       have HF:Hid (∀X,Below f.heap.size w5 X->Aa X (w.heap.size+1) [Zg 8,Ze,Ze,Zg n,.slice ta b.length tc,Zb,Zb]/\Aa X o [.string t,.slice U d.length rc]/\X.ownsRow (w.heap.size+2) 65 4 (.slice ta b.length tc) b.length (Ag kC b)):=fun X hX=>by have hb:Below f.heap.size f X:=HL.o.2.trans hX;exact⟨Aa.below D.o.box hb,Aa.below zT.o.1 hb,Al D.o.ow hb⟩
       obtain⟨zn,yQ⟩:∃z:Kd×Value,z=(⟨S,k,t,d⟩,.slice U d.length rc):=⟨_,rfl⟩;have zW:=Yw yQ;clear yQ;go_upto_region 14 with fail
       refine BL [56,57,58,59,60,61,62,63,64,65,66,67] 12 rfl _ rfl Yr Yr Yr Yr Yr Yq Yr [(11,5),(11,6)] Yr (fun L X=>Below f.heap.size w5 X/\(L 6=false->X.ownsRow f.heap.size 65 4 (Yz g m c) (b.take m).length (Ag kC (b.take m)))/\w5.heap.size<=X.heap.size) (fun i X v=>match i with
        |0=>v=Yz g m c
        |1=>v=.string S
        |2=>v=Zg k
        |3=>v=.agg #[.string t,.slice U d.length rc]
        |4=>v=.agg #[.string S,Zg k,.string t,.slice U d.length rc]
        |5=>∃q,v=Yz q 1 1/\q≠g/\Aa X q [.string S,Zg k,.string t,.slice U d.length rc]
        |6=>∃G y,v=Yz G (m+1) y/\X.ownsRow f.heap.size 65 4 (Yz G (m+1) y) (b.take m++[zn]).length (Ag kC (b.take m++[zn]))
        |7=>v=Yx (w.heap.size+1) 4
        |8=>v=.slice ta b.length tc
        |9=>v=Zg m
        |10=>∃ad y,v=.slice ad (b.drop m).length y/\(ad=none/\(b.drop m).length=0/\y=0\/∃Q off,ad=some ⟨Q,off,none⟩/\Q<f.heap.size/\∀j u,(Ag kC (b.drop m))[j]?=some u->X.cell? (Zd Q (off+j))=some u)
        |11=>∃G y,v=Yz G (b.length+1) y/\X.ownsRow f.heap.size 65 4 (Yz G (b.length+1) y) (b.take m++[zn]++b.drop m).length (Ag kC (b.take m++[zn]++b.drop m))
        |_=>True) (fun j X Y=>Below f.heap.size X Y/\(j≠11->X.grownBy Y (some g))/\(j≠6->j≠11->Zz X Y)) ?_ ⟨Ad.drew,fun _=>Al HL.o.1 Ad.drew,Zx⟩ ?_ ?_
       .intro j i X Y v yN yP yT hE C;obtain⟨B,O,h3⟩:=hE;rcases i with _|_|_|_|_|_|_|_|_|_|_|_|_
        .exact C
        .exact C
        .exact C
        .exact C
        .exact C
        .obtain⟨q,e,H,hc⟩:=C;exact⟨q,e,H,hc.au (O (fun e=>yP (by rw[e];simp))) H.symm⟩
        .obtain⟨G,y,e,P⟩:=C;exact⟨G,y,e,Al P (h3 (fun e=>yN e) (fun e=>yP (by rw[e];simp)))⟩
        .exact C
        .exact C
        .exact C
        .obtain⟨ad,y,e,hn|⟨Q,off,ea,hb,hc⟩⟩:=C
         .exact⟨ad,y,e,.inl hn⟩
         .exact⟨ad,y,e,.inr ⟨Q,off,ea,hb,fun j u hu=>(B.cell (p:=⟨Q,off+j,none⟩) hb).trans (hc j u hu)⟩⟩
        .obtain⟨G,y,e,P⟩:=C;exact⟨G,y,e,Al P (h3 (fun e=>by subst e;have h9:=yT.symm.trans (by kernel_rfl:_=true);cases h9) (fun e=>yN e))⟩
        .trivial
       .intro i o' L x X hi P hL hD hJ hd K r;have zZ:=hJ.2.2;have I:Below f.heap.size X X/\(i≠11->X.grownBy X (some g))/\(i≠6->i≠11->Zz X X):=⟨Ad,fun _=>⟨rfl,rfl,rfl,Zx,fun _ _ _=>rfl⟩,fun _ _=>Below.refl _ _⟩
        have M:i≠6->∀Y,Zz X Y->Below f.heap.size w5 Y/\(Bp L i 6=false->Y.ownsRow f.heap.size 65 4 (Yz g m c) (b.take m).length (Ag kC (b.take m)))/\w5.heap.size<=Y.heap.size:=fun h6 Y hY=>⟨hJ.1.trans (hY.mono Yv),fun h=>Al (hJ.2.1 (by unfold Bp at h;rw[if_neg (Ne.symm h6)]at h;exact h)) hY,Zm zZ hY.size⟩
        rcases(show i=0\/i=1\/i=2\/i=3\/i=4\/i=5\/i=6\/i=7\/i=8\/i=9\/i=10\/i=11 by omega)with rfl|rfl|rfl|rfl|rfl|rfl|rfl|rfl|rfl|rfl|rfl|rfl<;>cases P<;>simp only[Bc,Act.put,Zq,Zp,Zo]at r |-
        .go_simp;exact r.out _ X rfl I (M Yv X Ad)
        .go_simp;exact r.out _ X rfl I (M Yv X Ad)
        .go_simp;exact r.out _ X rfl I (M Yv X Ad)
        .obtain⟨_,f2,_⟩:=HF.o X hJ.1;obtain⟨c0,_⟩:=f2 0 _ rfl;obtain⟨c1,_⟩:=f2 1 _ rfl;clear f2;go_simp;exact r.out _ X rfl I (M Yv X Ad)
        .have d1:=hd ⟨1,.data⟩ Yu Yp;have d2:=hd ⟨2,.data⟩ Yu Yp;have d3:=hd ⟨3,.data⟩ Yu Yp;rw[show x 1=.string S from d1,show x 2=Zg k from d2,show x 3=.agg #[.string t,.slice U d.length rc]from d3]at r |-;go_simp;exact r.out _ X rfl I (M Yv X Ad)
        .have d4:=hd ⟨4,.data⟩ Yu Yp;rw[show x 4=.agg #[.string S,Zg k,.string t,.slice U d.length rc]from d4]at r |-;have R:Below X.heap.size X (X.alloc (.cells #[.string S,Zg k,.string t,.slice U d.length rc] 65)):=Zy;go_simp;exact r.out _ _ ⟨X.heap.size,rfl,Yv,Aa.new X _ _⟩ ⟨R.mono Yv,fun _=>Ak _ R,fun _ _=>R⟩ (M Yv _ R)
        .have d0:=hd ⟨0,.data⟩ Yu Yp;obtain⟨q,e5,xJ,H⟩:=hd ⟨5,.data⟩ Yu Yp;rw[show x 0=Yz g m c from d0,e5]at r |-
         obtain⟨G,y,X',zK,zJ,E⟩:=LD X f.heap.size _ (b.take m) [zn] (hJ.2.1 hL) (some ⟨q,0,none⟩) 1 (fun e=>by cases e) (fun A e j u hu=>by cases e;rw[Go.WideShapes.add_plain,Nat.zero_add];exact(H j u (by rw[zW.o]at hu;simpa [Ag,kC]using hu)).1) (by rw[zW.o];simp) (by rw[List.length_take];omega) Yu Yv (fun e=>by cases e) 23
         rw[show(b.take m).length=m from by rw[List.length_take];omega]at zK zJ;have zF:Below f.heap.size X X':=Ad.grown E Yv (fun q H=>by simp[Value.ownBlock]at H;omega);refine Cr (.tmp 56) (.tmp 61) 23 rfl rfl rfl zK ?_;exact r.out _ X' ⟨G,y,rfl,zJ⟩ ⟨zF,fun _=>E,fun h=>absurd rfl h⟩ ⟨hJ.1.trans zF,fun h=>by unfold Bp at h;simp at h,Zm zZ E.size⟩
        .go_simp;exact r.out _ X rfl I (M Yv X Ad)
        .have d7:=hd ⟨7,.data⟩ Yu Yp;rw[show x 7=Yx (w.heap.size+1) 4from d7]at r |-;obtain⟨f1,_⟩:=HF.o X hJ.1;obtain⟨c4,_⟩:=f1 4 _ rfl;clear f1;go_simp;exact r.out _ X rfl I (M Yv X Ad)
        .go_simp;exact r.out _ X rfl I (M Yv X Ad)
        .have d8:=hd ⟨8,.data⟩ Yu Yp;have d9:=hd ⟨9,.data⟩ Yu Yp;rw[show x 8=.slice ta b.length tc from d8,show x 9=Zg m from d9]at r |-;have yU:(b.drop m).length=b.length -m:=List.length_drop;rcases Ho (HF.o X hJ.1).2.2 hm with⟨e,e'⟩|⟨Q,cap,e,_,xC,yL,zR,_,off,R,yB⟩
         .subst e';cases e;obtain rfl:m=0:=by simpa using hm
          go_simp;exact r.out _ X ⟨none,0,rfl,.inl ⟨rfl,rfl,rfl⟩⟩ I (M Yv X Ad)
         .cases e;unfold maxLen at zR;have xE:m<=tc:=Yv
          have yC:Q<f.heap.size:=by have:=Ac D.o.ow (g:=Q) rfl;omega
          go_simp;rw[<-yU];exact r.out _ X ⟨_,_,rfl,.inr ⟨Q,off,rfl,yC,yB⟩⟩ I (M Yv X Ad)
        .obtain⟨g6,c6,e6,h6⟩:=hd ⟨6,.data⟩ Yu Yp;obtain⟨ad,c0,e0,yK⟩:=hd ⟨10,.data⟩ Yu Yp;rw[e6,e0]at r |-;obtain⟨G,y,X',zK,zJ,E⟩:=LD X f.heap.size _ (b.take m++[zn]) (b.drop m) h6 ad c0 (fun e=>by rcases yK with h|⟨Q,off,ea,_⟩;exact h.2;rw[ea]at e;cases e) (fun A e j u hu=>by
          rcases yK with h|⟨Q,off,ea,_,h⟩
          .rw[h.1]at e;cases e
          .rw[ea]at e;cases e;rw[Go.WideShapes.add_plain];exact h j u hu) (fun z J=>HZ.o z (List.mem_of_mem_drop J)) Yt Yt Yv (fun e=>by cases e) 23
         rw[show(b.take m++[zn]).length=m+1 from by simp;omega,show m+1+(b.drop m).length=b.length+1 from by simp;omega]at zK;rw[show(b.take m++[zn]).length+(b.drop m).length=b.length+1 from by simp;omega]at zJ;have zN:Below f.heap.size X X':=Ad.grown E Yv (fun q H=>(Ac h6 H).1);refine Cr (.tmp 62) (.tmp 66) 23 rfl rfl rfl zK ?_
         exact r.out _ X' ⟨G,y,rfl,zJ⟩ ⟨zN,fun h=>absurd rfl h,fun _ h=>absurd rfl h⟩ ⟨hJ.1.trans zN,(fun h=>by unfold Bp at h;simp at h;rw[hD ⟨6,.data⟩ Yu Yp]at h;cases h),Zm zZ E.size⟩
       .intro L x X hL hJ C K r;simp only[Bc,Act.put,Zq,Zp,Zo];obtain⟨g1,c1,e1,B⟩:=C 11 Yq (fun j=>by simp);rw[e1];go_simp;refine r.out _ _ ?_;clear r K C;have zF:Below f.heap.size f X:=HL.o.2.trans hJ.1;have O:=D.o.below zF;have yY:=O.bl.size;have xA:=D.o.box.lt;have xB:=Ac B (g:=g1) rfl
        have HN:Hid (Mx w (X.setCell (Zd (w.heap.size+1) 4) (Yz g1 (b.length+1) c1)) n (Yz g1 (b.length+1) c1) (b.take m++[zn]++b.drop m)):=by
         refine⟨Aa.same O.ia ?_,O.box.set 4 _,BW (B.mono Yv) (fun q H=>by simp[Value.ownBlock]at H;omega) 4 _,fun z J=> ?_,O.bl.setCell (p:=⟨w.heap.size+1,4,none⟩) Yu _⟩
         .exact(AS X (w.heap.size+1) 4 _).block _ O.ia.lt Yu
         .have zE:Mz (w.heap.size+2) X n z:=by
           simp only[List.mem_append,List.mem_singleton]at J;rcases J with(J|J)|J
           .exact O.zz z (List.mem_of_mem_take J)
           .rw[J,zW.o];exact zT.o.2.below zF
           .exact O.zz z (List.mem_of_mem_drop J)
          exact⟨BW zE.row (fun q H=>by have:=(Ac zE.row H).1;omega) 4 _,zE.sm,zE.tx,zE.rl,zE.rs,zE.bo⟩
        obtain⟨y4,q4⟩:=O.box 4 _ rfl;have yZ:w.heap.size+1<X.heap.size:=O.box.lt;clear O zF HF HL D zT B;go_wp2;exact⟨⟨k+1,S,_,_,Yn,rfl,Yv,Yv,Yv,Yt,HN⟩,Ys⟩
  .obtain⟨ta,tc,C⟩:=As F.o.ow;subst C;obtain⟨b0,b1,b2,b3,b4,b5,b6⟩:=Aa.c7 F.o.box 0 1 2 3 4 5 6;obtain⟨⟨y0,q0⟩,⟨y1,q1⟩,⟨y2,q2⟩,⟨y3,q3⟩,⟨y4,q4⟩,⟨y5,q5⟩,y6,q6⟩:=Gj F.o.ia;have xF:¬(k:Int)<=n:=Yv
   have HE:Hid (∀X,Tn [w.heap.size] wr X->X.ownsRow (w.heap.size+2) 65 4 (.slice ta b.length tc) b.length (Ag kC b)/\(∀z∈b,Mz (w.heap.size+2) X n z)/\b.length<=n/\Zz w X):=fun X hX=>by refine⟨Aw F.o.ow (fun g hg=>hX.block g (Ac F.o.ow hg).2 (by have:=(Ac F.o.ow hg).1;simp;omega)),fun z J=> ?_,Yv,F.o.bl.trans (hX.below F.o.bl.size Yu)⟩;have B:=F.o.zz z J;exact⟨Aw B.row (fun g hg=>hX.block g (Ac B.row hg).2 (by have:=(Ac B.row hg).1;simp;omega)),B.sm,B.tx,B.rl,B.rs,B.bo⟩
   clear F;go_wp2;refine bodyPost_ret (v:=.agg #[Zg 8,Ze,Ze,Zg n,.slice ta b.length tc,Zb,Zb]) (by simp[results,results31,go_sem,y0,y1,y2,y3,y4,y5,y6]) rfl ⟨_,b,rfl,HE.o _ ?_⟩
   repeat refine Tn.trans ?_ (Tn.set _ _ _ _ Yu)
   exact Tn.of Ad
structure WN (k:Kd):Prop where
 s:k.sum.size<=maxLen
 t:k.F.size<=maxLen
 n:k.B.length<=1048576
 r:∀s∈k.B,s.size<=maxLen
 b:(Lit.int .i64 k.born).wf=true
structure Og (ks:List Kd) (ps:List Pd) (ls:List Ld):Prop where
 k:∀k∈ks,WN k
 kn:ks.length<=1048576
 p:∀p∈ps,p.name.size<=maxLen/\p.sum.size<=maxLen
 pn:ps.length<=1048576
 l:∀l∈ls,l.sum.size<=maxLen
 ln:ls.length<=1048576
theorem Og.km{b:List Kd}{e:List Pd}{d:List Ld}(h:Og b e d):Ez b/\Gc e/\JV d/\EZ b e d/\∀k∈b,(Lit.int .i64 k.born).wf=true:=by
 have f:=h.kn;have g:=h.pn;have i:=h.ln;have m:(1048576:Nat)<=maxLen:=Yo
 exact⟨⟨Yv,fun k a=>(h.k k a).s,fun k a=>(h.k k a).t,fun k a=>Zm (h.k k a).n m,fun k a=>(h.k k a).r⟩,⟨Yv,fun p c=>(h.p p c).1,fun p c=>(h.p p c).2⟩,⟨Yv,h.l⟩,⟨f,fun k a=>(h.k k a).n,g,i⟩,fun k a=>(h.k k a).b⟩
structure UF (X:Zh) (cs:Zj):Prop where
 ex:∃(wd now given births:Int) (ta:Zk) (tc:Nat) (pa:Zk) (pc:Nat) (la:Zk) (lc:Nat) (ks:List Kd) (ps:List Pd) (ls:List Ld),cs=[Zg wd,Zg now,Zg given,Zg births,.slice ta ks.length tc,.slice pa ps.length pc,.slice la ls.length lc]/\AW X X.heap.size ta pa la ks ps ls/\Og ks ps ls
theorem Gm.w{ps:List Pd}{c:List Ld}(h:Gm ks ps c)(d:∀k∈ks,Hj k):Og ks ps c:=by have e:=h.n;exact⟨fun k a=>⟨h.k.sum k a,h.k.F k a,by have:=(d k a).2.1;omega,h.k.ref k a,h.b k a⟩,Yv,fun p b=>⟨h.p.name p b,h.p.sum p b⟩,Yv,h.l.sum,Yv⟩
theorem TT{w:Zh}{f u:Nat}{o:Zk}{d:List (Kd×Value)}(h:w.ownsRow f 65 4 (.slice o n u) d.length (Ag kC d))(t:∀z∈d,∃b l,z.2=.slice b z.1.B.length l/\Ab w w.heap.size b z.1.B):AQ w w.heap.size o (d.map (·.1)):=by
 rcases h.2 with⟨_,q⟩|⟨g,cap,v,e,_⟩
 .exact .inl (by rw[List.eq_nil_of_length_eq_zero q];rfl)
 .cases e;refine .inr ⟨g,0,rfl,(h.lt g rfl).2,fun i k m=> ?_⟩;rw[List.getElem?_map]at m;obtain⟨z,a,rfl⟩:=Option.map_eq_some_iff.1 m;obtain⟨b,l,e,s⟩:=t z (Zs a);have x:=(Zw a).1;have c:∀j,j<4->w.cell? (Zd g (0+i *4+j))=(kC z)[j]?:=fun j r=>by rw[Nat.zero_add,h.cellAt (i *4+j) Yv];exact BZ Cb a r
  exact⟨c 0 Yv,c 1 Yv,c 2 Yv,b,l,(c 3 Yv).trans (by rw[<-e];rfl),s⟩
theorem Vs{b:Int}(a:0<=b)(c:b<=1000):(Lit.int .i64 b).wf=true:=by simp[Lit.wf,IntKind.min,IntKind.max,IntKind.signed,IntKind.bits];omega
def Bn(v:Vd)(S U T P L Q M:Value):Zj:=[Zg v.wd,Zg v.lim,S,U,Zg v.P,Zg v.E,Zg v.G,Zg v.C,T,P,L,Zg v.H,Q,M,Zg v.O,Zg v.M,Zg v.ro]
def XD(v:Vd)(L:Nat)(X:Zh)(cs:Zj):Prop:=
 ∃a:Va,cs=Bn v (.slice a.g v.ss.length a.sc) (.slice a.X v.A.length a.Z) (.slice a.U v.ks.length a.W) (.slice a.N v.ps.length a.T) (.slice a.K v.ls.length a.Q) (.slice a.i v.D.length a.qc) (.slice a.j v.ms.length a.mc)/\CO X L a v
theorem AG.jc{q:Zj}(h:AG X a S U T P L Q M q v):XD v X.heap.size X (Bn v S U T P L Q M):=by obtain⟨r,s,rfl,b⟩:=h.s.row;obtain⟨x,y,rfl,c⟩:=h.u.row;obtain⟨t,u,l,m,g,i,rfl,rfl,rfl,d⟩:=h.R.rows;obtain⟨n,o,rfl,e⟩:=h.q.row;obtain⟨j,k,rfl,f⟩:=h.m.row;exact⟨⟨r,s,x,y,t,u,l,m,g,i,n,o,j,k⟩,rfl,⟨b,c,d,e,f⟩⟩
theorem Wf{w:Zh}{v:Value}{c:Zj}(h:w.ownsRow b e size v n c)(j:∀g,v.ownBlock=some g->a<=g):w.ownsRow a e size v n c:=by
 refine⟨h.1,?_⟩;rcases h.2 with f|⟨g,cap,d,rfl,_,i⟩
 .exact .inl f
 .exact .inr ⟨g,cap,d,rfl,j g rfl,i⟩
structure Ow (X:Zh) (base q:Nat) (e:TypeId) (size:Nat) (v:Value) (n:Nat) (xs:Zj):Prop where
 o:X.ownsRow base e size v n xs
 q:v.ownBlock≠some q
theorem Ow.J{v:Value}(h:Ow X a q e size v n i)(r:Tn V X Y)(o:∀g∈V,g<a\/g=q\/X.heap.size<=g\/∃d f,f≠e/\X.heap[g]?=some (.cells d f)):Ow Y a q e size v n i:=
 ⟨Aw h.o (fun g c=>r.block g (Ac h.o c).2 (fun j=>by
  have s:=Ac h.o c;rcases o g j with b|b|b|⟨d,f,k,b⟩
  .omega
  .exact h.q (b▸c)
  .omega
  .obtain⟨l,m⟩:=Dc h.o c;rw[m]at b;cases b;exact k rfl)),h.q⟩
structure BN (X:Zh) (base q:Nat) (T P L:Value) (zs:List (Kd×Value)) (ps:List Pd) (ls:List Ld):Prop where
 t:Ow X base q 65 4 T zs.length (Ag kC zs)
 r:∀z∈zs,Ow X base q 9 1 z.2 z.1.B.length (z.1.B.map Value.string)
 p:Ow X base q 48 2 P ps.length (Ag pC ps)
 l:Ow X base q 50 3 L ls.length (Ag lC ls)
 w:Og (zs.map (·.1)) ps ls
theorem BN.J{j:List (Kd×Value)}{i:List Pd}{d:List Ld}(h:BN X a q T P L j i d)(b:Tn V X Y)(l:∀g∈V,g<a\/g=q\/X.heap.size<=g):BN Y a q T P L j i d:=
 have f:∀{e:TypeId},∀g∈V,g<a\/g=q\/X.heap.size<=g\/∃k c,c≠e/\X.heap[g]?=some (.cells k c):=fun g m=>by
  rcases l g m with h|h|h
  .exact .inl h
  .exact .inr (.inl h)
  .exact .inr (.inr (.inl h))
 ⟨h.t.J b f,fun z n=>(h.r z n).J b f,h.p.J b f,h.l.J b f,h.w⟩
theorem BN.below{c:List (Kd×Value)}{b:List Pd}{a:List Ld}(h:BN X base q T P L c b a)(d:Zz X Y):BN Y base q T P L c b a:=h.J (V:=[]) (Tn.of d) Yu
theorem BN.sdc{j:List (Kd×Value)}{f:List Ld}(h:BN X c q T P L j g f)(i now b a:Int):UF X [Zg i,Zg now,Zg b,Zg a,T,P,L]:=by obtain⟨t,u,rfl⟩:=As h.t.o;obtain⟨n,o,rfl⟩:=As h.p.o;obtain⟨l,m,rfl⟩:=As h.l.o;refine⟨i,now,b,a,t,u,n,o,l,m,j.map (·.1),g,f,by rw[List.length_map],⟨TT h.t.o (fun z k=> ?_),AM.own h.p.o,AN.own h.l.o⟩,h.w⟩;have d:=(h.r z k).o;obtain⟨r,s,e⟩:=As d;rw[e]at d;exact⟨r,s,e,Od d⟩
theorem Bb.ik{lo:Nat}{c:Zj}{d:List Kd}(h:Bb X lo T P L c d l k)(o:∀g∈BS T P L c,b<=g/\g≠q)(A:Og d l k):BN X b q T P L (d.zip c) l k:=by
 have x:(d.zip c).map (·.1)=d:=List.map_fst_zip (by rw[h.len];exact Zx);have u:(d.zip c).length=d.length:=by rw[List.length_zip,h.len,Nat.min_self]
 have j:∀{e:TypeId} {s:Nat} {v:Value} {n:Nat} {xs:Zj},X.ownsRow lo e s v n xs->(∀g,v.ownBlock=some g->g∈BS T P L c)->Ow X b q e s v n xs:=fun y a=>
  ⟨Wf y (fun g f=>(o g (a g f)).1),fun f=>(o q (a q f)).2 rfl⟩
 have a:∀v∈T::P::L::c,∀g,v.ownBlock=some g->g∈BS T P L c:=fun v a g f=>by rw[<-EJ];exact List.mem_filterMap.2 ⟨v,a,f⟩
 refine⟨by rw[u];exact j h.aj (a T Yu),fun z B=> ?_,j h.pins (a P Yu),j h.aq (a L Yu),by rw[x];exact A⟩;obtain⟨i,r⟩:=List.getElem?_of_mem B;obtain⟨t,m⟩:=List.getElem?_zip_eq_some.1 r;exact j (h.B i z.1 z.2 t m) (a z.2 (by simp[Zs m]))
theorem We.ik{w c:Zh}{e:Ending}(h:We w n e c)(C:n<=1000)(D:q<w.heap.size+2):∃g i d,e=.returned (.agg #[Zg 8,Ze,Ze,Zg n,.slice g d.length i,Zb,Zb])/\BN c (w.heap.size+2) q (.slice g d.length i) Zb Zb d [] []/\Zz w c:=by
 obtain⟨T,d,rfl,b,a,B,o⟩:=h.ex;obtain⟨g,i,rfl⟩:=As b;have f:∀{e:TypeId} {s:Nat} {v:Value} {n:Nat} {xs:Zj},c.ownsRow (w.heap.size+2) e s v n xs->Ow c (w.heap.size+2) q e s v n xs:=fun b=>⟨b,fun r=>by have:=(Ac b r).1;omega⟩
 refine⟨g,i,d,rfl,⟨f b,fun z j=>f (a z j).row,f (World.ownsRow_nil _ _ _ _),f (World.ownsRow_nil _ _ _ _),⟨fun k t=> ?_,by rw[List.length_map];omega,Yu,Nat.zero_le _,Yu,Nat.zero_le _⟩⟩,o⟩;obtain⟨z,l,rfl⟩:=List.mem_map.1 t;have a:=a z l;have x:=a.sm;have y:=a.tx;have A:=a.rl;have m:(1048576:Nat)<=maxLen:=Yo
 exact⟨Yv,Yv,Yv,fun s u=>by have:=a.rs s u;omega,Vs a.bo.1 (by have:=a.bo.2;omega)⟩
theorem Wg{c:A->Zj}{sz bytes:Nat}{lt:TypeId}{h:TypeInfo}(hlen:∀x,(c x).length=sz)(I:prog.underlying lt=some (.slice e))(F:prog.info? e=some h)(s:h.zero=some m)(t:h.size=sz)(y:h.bytes=bytes)(z:m.cells.size=sz)(r:0<sz)(n:bytes<=64)(w:Zh)(a:Nat)(v:Value)(b:List A)(x:A)(G:w.ownsRow a e sz v b.length (Ag c b))(q:Nat)(E:Aa w q (c x))(B:∀u∈c x,u.oneCell'=true)(K:b.length<=1000000)(d:a<=w.heap.size)(l:TypeId):
 ∃g cap i,(Builtin.append_ #[lt,lt] l #[v,Yz q 1 1]).run prog w=.ok (Yz g (b.length+1) cap) i/\i.ownsRow a e sz (Yz g (b.length+1) cap) (b++[x]).length (Ag c (b++[x]))/\w.grownBy i v.ownBlock/\(v.ownBlock=some g\/g=w.heap.size):=by
 have o:Ag c [x]=c x:=by simp[Ag]
 obtain⟨L,i,H,k,C,D,f⟩:=run_append_own_at (P:=prog) w a lt l e h _ sz bytes I F s t y z r v b.length (Ag c b) G ⟨q,0,none⟩ 1 1 (c x) (by rw[hlen];omega) (fun j u J=>by rw[Go.WideShapes.add_plain,Nat.zero_add];exact(E j u J).1) B Yo (Zm (Nat.mul_le_mul_left _ n) Yv) d;obtain⟨g,cap,rfl,_,_⟩:=Bq k (fun e=>by have:=(D.1 e).2;omega)
 refine⟨g,cap,i,H,by rw[Es,o,List.length_append];exact k,C,?_⟩;rcases f with f|f
 .exact .inl f.symm
 .exact .inr (by simpa [Value.ownBlock]using f)
theorem TU(w:Zh)(a:Nat)(v:Value)(b:List Pd)(x:Pd)(n:w.ownsRow a 48 2 v b.length (Ag pC b))(q:Nat)(k:Aa w q [.string x.name,.string x.sum])(m:b.length<=1000000)(d:a<=w.heap.size)(f:TypeId):
 ∃g cap e,(Builtin.append_ #[24,24] f #[v,Yz q 1 1]).run prog w=.ok (Yz g (b.length+1) cap) e/\e.ownsRow a 48 2 (Yz g (b.length+1) cap) (b++[x]).length (Ag pC (b++[x]))/\w.grownBy e v.ownBlock/\(v.ownBlock=some g\/g=w.heap.size):=by
 obtain⟨o,l,h,i,j⟩:=info_parts Jm;exact Wg (c:=pC) Ha underlying24 l h i j rfl Yq Yq w a v b x n q k (by simp[pC,Value.oneCell']) m d f
theorem WV(w:Zh)(a:Nat)(v:Value)(b:List Ld)(x:Ld)(n:w.ownsRow a 50 3 v b.length (Ag lC b))(q:Nat)(k:Aa w q [Zg x.I,.string x.sum,Zg x.Y])(m:b.length<=1000000)(d:a<=w.heap.size)(f:TypeId):
 ∃g cap e,(Builtin.append_ #[25,25] f #[v,Yz q 1 1]).run prog w=.ok (Yz g (b.length+1) cap) e/\e.ownsRow a 50 3 (Yz g (b.length+1) cap) (b++[x]).length (Ag lC (b++[x]))/\w.grownBy e v.ownBlock/\(v.ownBlock=some g\/g=w.heap.size):=by
 obtain⟨o,l,h,i,j⟩:=info_parts Gz;exact Wg (c:=lC) Ge underlying25 l h i j rfl Yq Yq w a v b x n q k (by simp[lC,Value.oneCell']) m d f
theorem Oh:∀{zs:List (Kd×Value)} {i:Nat} {z:Kd×Value},zs[i]?=some z->∀(t:Zi) (ss:Zl) (rv:Value),((Ag kC zs).set (i *4+2) (.string t)).set (i *4+3) rv=Ag kC (zs.set i (⟨z.1.sum,z.1.born,t,ss⟩,rv))
 |[],i,_,h,_,_,_=>by simp at h
 |z::zs,0,x,h,t,ss,rv=>by simp at h;subst h;simp[Ag,kC]
 |z::zs,i+1,x,h,t,ss,rv=>by
  have b:zs[i]?=some x:=by simpa using h
  have c:=Oh b t ss rv;have e:Ag kC (z::zs)=kC z++Ag kC zs:=by simp[Ag]
  have a:Ag kC ((z::zs).set (i+1) (⟨x.1.sum,x.1.born,t,ss⟩,rv))=kC z++Ag kC (zs.set i (⟨x.1.sum,x.1.born,t,ss⟩,rv)):=by simp[Ag]
  rw[e,a,<-c,show(i+1) *4+2=(kC z).length+(i *4+2) by rw[Cb];omega,show(i+1) *4+3=(kC z).length+(i *4+3) by rw[Cb];omega];rw[List.set_append_right _ _ Yv,Nat.add_sub_cancel_left,List.set_append_right _ _ Yv,Nat.add_sub_cancel_left]
theorem Vt{l:List A}{i:Nat}{x y:A}(h:y∈l.set i x):y∈l\/y=x:=by
 rcases List.mem_or_eq_of_mem_set h with h|h
 .exact .inl h
 .exact .inr h
theorem Ow.other{d:TypeId}{v:Value}{t:Nat}{l:Zj}(h:Ow X a q e size v n i)(m:Ow X a q d c f t l)(k:d≠e)(s:Tn f.ownBlock.toList X Y):Ow Y a q e size v n i:=
 h.J s (fun b r=>by
  obtain⟨j,o⟩:=Dc m.o (g:=b) (by simpa using r);exact .inr (.inr (.inr ⟨j,_,k,o⟩)))
theorem BN.aj{T':Value}{i c:List (Kd×Value)}{f:List Ld}(h:BN X a q T P L i g f)(d:Tn T.ownBlock.toList X Y)(j:Ow Y a q 65 4 T' c.length (Ag kC c))(e:∀z∈c,z∈i\/Ow X a q 9 1 z.2 z.1.B.length (z.1.B.map Value.string)/\WN z.1)(m:c.length<=1048576):BN Y a q T' P L c g f:=by
 refine⟨j,fun y b=> ?_,h.p.other h.t Yq d,h.l.other h.t Yq d,⟨fun k l=> ?_,by rw[List.length_map];exact m,h.w.p,h.w.pn,h.w.l,h.w.ln⟩⟩
 .rcases e y b with b|b
  .exact(h.r y b).other h.t Yq d
  .exact b.1.other h.t Yq d
 .obtain⟨y,b,rfl⟩:=List.mem_map.1 l;rcases e y b with b|b
  .exact h.w.k _ (List.mem_map.2 ⟨y,b,rfl⟩)
  .exact b.2
theorem BN.pins{g:List (Kd×Value)}{f b:List Pd}{e:List Ld}(h:BN X a q T P L g f e)(c:Tn P.ownBlock.toList X Y)(i:Ow Y a q 48 2 d b.length (Ag pC b))(m:∀p∈b,p∈f\/p.name.size<=maxLen/\p.sum.size<=maxLen)(j:b.length<=1048576):BN Y a q T d L g b e:=
 ⟨h.t.other h.p Yq c,fun y l=>(h.r y l).other h.p Yq c,i,h.l.other h.p Yq c,⟨h.w.k,h.w.kn,fun p k=>(m p k).elim (h.w.p p) id,j,h.w.l,h.w.ln⟩⟩
theorem BN.aq{e:Value}{i:List (Kd×Value)}{f b:List Ld}(h:BN X a q T P L i g f)(c:Tn L.ownBlock.toList X Y)(j:Ow Y a q 50 3 e b.length (Ag lC b))(m:∀l∈b,l∈f\/l.sum.size<=maxLen)(d:b.length<=1048576):BN Y a q T P e i g b:=
 ⟨h.t.other h.l Yq c,fun y k=>(h.r y k).other h.l Yq c,h.p.other h.l Yq c,j,⟨h.w.k,h.w.kn,h.w.p,h.w.pn,fun l d=>(m l d).elim (h.w.l l) id,d⟩⟩
theorem BN.setT{g:Nat}{f:List (Kd×Value)}{u:List Pd}{r:List Ld}(h:BN X a q (Yz g n c) P L f u r){i:Nat}(k:f[i]?=some z){t:Zi}{b:Zl}{rv:Value}(x:Ow X a q 9 1 rv b.length (b.map Value.string))(B:t.size<=maxLen)(v:b.length<=1048576)(A:∀s∈b,s.size<=maxLen):
 BN ((X.setCell (Zd g (i *4+2)) (.string t)).setCell (Zd g (i *4+3)) rv) a q (Yz g n c) P L (f.set i (⟨z.1.sum,z.1.born,t,b⟩,rv)) u r:=by
 have m:=h.t.o;obtain⟨C,cap,e,_,_⟩:=Bq m (fun e=>by cases e);cases e;have j:=((m.stored (i *4+2) (.string t)).1.stored (i *4+3) rv).1;rw[Oh k t b rv]at j;have o:=h.w.k z.1 (List.mem_map.2 ⟨z,Zs k,rfl⟩);have l:=h.w.kn;rw[List.length_map]at l;refine h.aj (Tn.trans (AS X g _ _) (AS _ g _ _)) ⟨by rw[List.length_set];exact j,h.t.q⟩ (fun y d=> ?_) (by rw[List.length_set];exact l);rcases Vt d with d|d
 .exact .inl d
 .rw[d];exact .inr ⟨x,o.s,B,v,A,o.b⟩
theorem BN.setB{g:Nat}{i:List (Kd×Value)}{o:List Pd}{m:List Ld}(h:BN X a q (Yz g n c) P L (z::i) o m){b:Int}(r:(Lit.int .i64 b).wf=true):
 BN (X.setCell (Zd g 1) (Zg b)) a q (Yz g n c) P L ((⟨z.1.sum,b,z.1.F,z.1.B⟩,z.2)::i) o m:=by
 have l:=h.t.o;obtain⟨s,cap,e,_,_⟩:=Bq l (fun e=>by cases e);cases e;have j:=(l.stored 1 (Zg b)).1;rw[show(Ag kC (z::i)).set 1 (Zg b)=Ag kC ((⟨z.1.sum,b,z.1.F,z.1.B⟩,z.2)::i)from by simp[Ag,kC]]at j;have f:=h.w.k z.1 (List.mem_map.2 ⟨z,Yu,rfl⟩);have k:=h.w.kn;rw[List.length_map]at k;refine h.aj (AS X g _ _) ⟨j,h.t.q⟩ (fun y d=> ?_) k;rcases List.mem_cons.1 d with d|d
 .rw[d];exact .inr ⟨h.r z Yu,f.s,f.t,f.n,f.r,r⟩
 .exact .inl (by simp[d])
theorem BN.iq{g:Nat}{j:List (Kd×Value)}{i:List Pd}{l:Ld}{a:List Ld}(h:BN X b q T P (Yz g n c) j i (l::a))(x:Int):
 BN (X.setCell (Zd g 2) (Zg x)) b q T P (Yz g n c) j i (⟨l.I,l.sum,x⟩::a)/\BN (X.setCell (Zd g 0) (Zg x)) b q T P (Yz g n c) j i (⟨x,l.sum,l.Y⟩::a):=by
 have f:=h.l.o;obtain⟨u,cap,e,_,_⟩:=Bq f (fun e=>by cases e);cases e;have m:=(f.stored 2 (Zg x)).1;have o:=(f.stored 0 (Zg x)).1;rw[show(Ag lC (l::a)).set 2 (Zg x)=Ag lC (⟨l.I,l.sum,x⟩::a)from by simp[Ag,lC]]at m;rw[show(Ag lC (l::a)).set 0 (Zg x)=Ag lC (⟨x,l.sum,l.Y⟩::a)from by simp[Ag,lC]]at o;have s:=h.w.l l Yu;have r:∀y:Ld,y.sum=l.sum->∀k∈y::a,k∈l::a\/k.sum.size<=maxLen:=fun y t k d=>by
  rcases List.mem_cons.1 d with d|d
  .rw[d,t];exact .inr s
  .exact .inl (by simp[d])
 exact⟨h.aq (AS X g _ _) ⟨m,h.l.q⟩ (r _ rfl) h.w.ln,h.aq (AS X g _ _) ⟨o,h.l.q⟩ (r _ rfl) h.w.ln⟩
structure DD (w:Zh) (b:Nat) (a:Zk) (n c:Nat) (p K:Int) (q:Nat) (X:Zh):Prop where
 ex:∃wd now given births T P L zs ps ls,Aa X q [Zg wd,Zg now,Zg given,Zg births,T,P,L]/\BN X (w.heap.size+2) q T P L zs ps ls
 z:Aa X (w.heap.size+1) z7
 rd:∃p',AA X b a n c p'/\p<=p'/\p'<=p+K
 gr:w.grownBy X (some b)
structure SA (w:Zh) (b:Nat) (a:Zk) (n c:Nat) (p K:Int) (e:Ending) (w':Zh):Prop where
 ex:∃cs,e=.returned (.agg cs.toArray)/\∀V Y,(∀g∈V,g<w.heap.size)->Tn V w' Y->UF Y cs
 dr:GD w w' b a n c p K
theorem CK{w:Zh}(h:w.grownBy X (some b))(a:Tn V X Y)(f:∀g∈V,w.heap.size<=g\/g=b):w.grownBy Y (some b):=
 ⟨a.os.trans h.os,a.tape.trans h.tape,a.output.trans h.output,Zm h.size a.size,fun i d c=>(a.block i (Zr d h.size) (fun e=>by rcases f i e with h|h;omega;exact c (by rw[h]))).trans (h.block i d c)⟩
theorem BN.fin{w:Zh}{a:Zk}{e r:Nat}{x f d:Int}{y:List (Kd×Value)}{v:List Pd}{u:List Ld}(m:BN X e q T P L y v u)(t:∃h,AA X b a n c h/\p<=h/\h<=p+K)(i:w.grownBy X (some b))(B:b<w.heap.size)(j:Tn [r] X Y)(z:w.heap.size<=r)(A:r<e):SA w b a n c p K (.returned (.agg #[Zg x,Zg now,Zg f,Zg d,T,P,L])) Y:=by refine⟨⟨_,rfl,fun V Z s o=>((m.J j Yt).J o (fun g i=> .inl (by have:=s g i;omega))).sdc _ _ _ _⟩,?_,CK i j Yt⟩;obtain⟨h,k,l⟩:=t;exact⟨h,k.J j Yt Yt,l⟩
theorem DD.fin{w:Zh}{a:Zk}{l e d:Int}{m:List (Kd×Value)}{k:List Pd}{j:List Ld}(h:DD w b a n c p K q X)(f:BN X (w.heap.size+2) q T P L m k j)(g:b<w.heap.size)(i:Tn [w.heap.size+1] X Y):SA w b a n c p K (.returned (.agg #[Zg l,Zg now,Zg e,Zg d,T,P,L])) Y:=by exact f.fin h.rd h.gr g i Yv Yv
structure Wh (ss A:Zl):Prop where
 s:ss.length<=1048576
 t:A.length<=1048576
 ss:∀s∈ss,s.size<=1048576
 A:∀s∈A,s.size<=1048576
theorem Ah.ie{w:Zh}{a:Zk}{d:Zl}(h:Ah w b (.slice a n c) d):Ab w w.heap.size a d:=by obtain⟨g,i,e,f⟩:=h.row;cases e;exact f
theorem Lh:Gu v0:=⟨by simp[v0],by simp[v0],by simp[v0],by simp[v0],⟨by simp[v0],by simp[v0],by simp[v0],by simp[v0]⟩,⟨by simp[v0],by simp[v0]⟩,by simp[v0,Fm]⟩
theorem Li{a b:Zl}{k:Int}(e:∀s∈a,s.size<=1048576)(f:∀s∈b,s.size<=1048576):(BE a b k).length<=1048576/\∀s∈BE a b k,s.size<=1048576:=by
 unfold BE;split
 .next h=>
  have c:=Eb h;rw[List.length_append]at c;refine⟨?_,fun s d=> ?_⟩
  .rw[List.length_append,List.length_take];omega
  .rcases List.mem_append.1 d with h|h
   .exact e s h
   .exact f s (List.mem_of_mem_take h)
 .exact⟨Yu,Yu⟩
theorem Vu{w:Zh}{l:Zl}(h:w.ownsRow n 9 1 u l.length (l.map Value.string)):∃a c,u=.slice a l.length c/\Ab w w.heap.size a l/\(a=none->l.length=0/\c=0):=by
 obtain⟨a,c,rfl,b⟩:=(Ah.own h).row;refine⟨a,c,rfl,b,fun e=> ?_⟩;subst e;rcases h.2 with⟨e,_⟩|⟨g,cap,d,e,_⟩
 .injection e with _ e2 e3;exact⟨e2,e3⟩
 .injection e with e1;cases e1
theorem GR.fit{m i:Int}{e f:Zl}{c:Int}(h:GR m i e f c v)(a:Wh e f):Gu v:=by
 rcases h with⟨_,_,rfl⟩|⟨g,⟨_,_,rfl⟩|⟨r,l,_,rfl⟩⟩
 .exact Lh
 .exact Lh
 .have b:=l.ok (Fs g.1.1 g.1.2);have n:=b.bt.len;have o:=b.np;have q:=b.nl;have d:=b.di;have s:=Kr d;exact⟨a.s,a.t,a.ss,a.A,⟨by show r.ks.length<=_;omega,fun k j=>by have:=d k j;omega,by show r.ps.length<=_;omega,by show r.ls.length<=_;omega⟩,⟨by simp[QU],by simp[QU]⟩,by show Fm r.ks<=_;omega⟩
structure Ed where
 kd:Int
 s:Zi
 nm:Zi
 I:Int
 tx:Zi
 rf:Zl
def Ed.ok(e:Ed)(wd:Int):Bool:=Ca e.kd e.s e.nm e.I e.tx e.rf wd
def Ed.cn(e:Ed)(wd:Int):Zi:=Cw e.kd e.s e.nm e.I e.tx e.rf wd
def Ed.no(e:Ed)(v:Vd)(c:Int)(a b:Zi):Prop:=Ja v.wd v.E v.G v.C v.ks v.ps v.ls e.kd e.s e.nm e.I e.tx e.rf c a b
def Ed.yes(e:Ed)(v:Vd)(r:Rs):Prop:=Fe v.wd v.E v.G v.C v.ks v.ps v.ls e.kd e.s e.nm e.I e.tx e.rf r
def Ed.dq(e:Ed)(v:Vd)(r:Rs):Bool:=decide (e.kd=1)&&decide (v.lim<Dh v.wd r.ks)
def Ed.iy(e:Ed)(v:Vd)(r:Rs):Prop:=e.dq v r=true
def Ed.held(e:Ed)(r:Rs):Zi:=if e.kd=1 then r.sm else e.s
structure Dd where
 c:Int
 v:Vd
 s:Zi
 n:Int
 a:Zi
 b:Zi
def Ew(c:Int)(v:Vd)(a b:Zi):Dd:=⟨c,v,⟨#[]⟩,0,a,b⟩
noncomputable def doV (v:Vd) (e:Ed) (r:Rs):Vd:={v with A:=v.A++[e.cn v.wd],E:=r.E,G:=r.G,C:=r.C,ks:=r.ks,ps:=r.ps,ls:=r.ls,D:=shQ v.H r.ks v.D v.ms (e.held r)}
noncomputable def dyes (v:Vd) (e:Ed) (r:Rs):Dd:=⟨0,doV v e r,r.sm,r.le,⟨#[]⟩,⟨#[]⟩⟩
def XE(v:Vd)(e:Ed)(c:Int)(a b:Zi):Prop:=
 (e.ok v.wd=false/\c=1/\a=⟨#[]⟩/\b=⟨#[]⟩)\/(e.ok v.wd=true/\(e.no v c a b\/(a=⟨#[]⟩/\b=⟨#[]⟩/\∃r,e.yes v r/\((e.iy v r/\c=8)\/(¬e.iy v r/\v.ss.length+v.A.length=4000/\c=9)))))
def Wi(v:Vd)(e:Ed)(r:Rs):Prop:=e.ok v.wd=true/\e.yes v r/\¬e.iy v r/\¬v.ss.length+v.A.length=4000
def IC(v:Vd)(e:Ed)(d:Dd):Prop:=(¬Cl v/\d=Ew 1 v0 ⟨#[]⟩ ⟨#[]⟩)\/(Cl v/\((∃c a b,XE v e c a b/\d=Ew c v a b)\/∃r,Wi v e r/\d=dyes v e r))
theorem Em.dy(h:Em v r):Gr v.wd v.E v.G v.C v.ks v.ps v.ls:=by have a:Gr v.wd r.E r.G r.C r.ks r.ps r.ls:=h.run.ok (Fs h.wd.1 h.wd.2);obtain⟨⟨_,b,c,d⟩,e,f,g⟩:=h.same;rw[b,c,d,e,f,g]at a;exact a
theorem Ed.fe{e:Ed}{b:Int}(h:e.ok b=true):(e.cn b).size<=5000:=by
 obtain⟨_,_,p⟩:=EK h;unfold Ed.cn Cw;rw[if_pos (show Ca e.kd e.s e.nm e.I e.tx e.rf b=true from h)];show(DG e.kd.toNat e.s e.nm e.I e.tx e.rf).toArray.size<=5000;have d:=p.sum;have f:=p.name;have g:(if e.kd.toNat=1 then BP e.tx e.rf else []).length<=3000:=by
  split
  .next hk=>
   have a:=AV (p.du hk);have c:=a.bn;have i:=a.F;rw[BP,List.length_cons,List.length_append,DN];simp only[Array.length_toList];have j:e.tx.data.size=e.tx.size:=rfl;omega
  .simp
 rw[List.size_toArray];unfold DG CF;simp only[List.length_append,List.length_cons,List.length_nil,Array.length_toList];have a:e.s.data.size=e.s.size:=rfl;have c:e.nm.data.size=e.nm.size:=rfl;omega
theorem IC.fit{e:Ed}{d:Dd}(h:IC v e d)(i:Gu v):Gu d.v:=by
 rcases h with⟨_,rfl⟩|⟨⟨r,l⟩,⟨c,a,b,_,rfl⟩|⟨g,m,rfl⟩⟩
 .exact Lh
 .exact i
 .have j:=l.dy.step m.1 m.2.1;have q:=j.bt.len;have t:=j.np;have u:=j.nl;have x:=Kr j.di;have n:=Eb l.log;rw[List.length_append]at n;have y:=Ed.fe m.1;refine⟨i.s,?_,i.ss,?_,⟨by show g.ks.length<=_;omega,fun k o=>by have:=j.di k o;omega,by show g.ps.length<=_;omega,by show g.ls.length<=_;omega⟩,⟨?_,i.r.m⟩,by show Fm g.ks<=_;omega⟩
  .show(v.A++[e.cn v.wd]).length<=_;rw[List.length_append,List.length_singleton];omega
  .intro s f;rcases List.mem_append.1 f with f|f
   .exact i.A s f
   .rw[List.mem_singleton]at f;subst f;omega
  .show(shQ v.H g.ks v.D v.ms (e.held g)).length<=_;have z:=l.round.bz.nq;unfold shQ;split
   .rw[List.length_append,List.length_singleton];omega
   .omega
theorem LF(m now c b:Int)(a p l:Zk)(k pn j i h:Nat)(d:List Kd)(s:Zi)(w:Zh)(o:AQ w w.heap.size a d)(Z:d.length<=1000)(q:¬Ay d s):
 Calls prog 128 #[.agg (Yg m now c b a d.length k p pn j l i h),.string s] w fun e L=>e=.returned (.agg (BY 2 ⟨#[]⟩ ⟨#[]⟩).toArray)/\Zz w L:=by
 obtain⟨W,f⟩:=Af ((w.alloc (.cells (Yg m now c b a d.length k p pn j l i h) 27)).alloc (.cells Yc 115));have g:=(Bf f).1;have y:=(Bf f).2.2.1;have z:Aa W (w.heap.size+1) z12:=by have u:=Aa.new (w.alloc (.cells (Yg m now c b a d.length k p pn j l i h) 27)) z12 115;rw[World.size_alloc]at u;rw[f];exact u
 have r:=Yw (Ck m now c b a k (.slice p pn j) (.slice l i h) d s W w.heap.size (AQ.below o g) g.size Yv);have Y:=Hk q;have t:=Yw f;have A:=Yw z;obtain⟨v0,E,F,G,H,I,J,K⟩:=AP y;clear f y z o q;go_enter func128,ntmps128;go_upto_region 1 with fail;rw[<-t.o];clear t;go_wp2_with fail;refine r.Am ?_;rintro e M ⟨rfl,n⟩
 obtain⟨⟨N,q0⟩,⟨O,q1⟩,⟨P,q2⟩,⟨Q,q3⟩,⟨R,q4⟩,⟨S,q5⟩,⟨T,q6⟩,⟨U,q7⟩,⟨V,q8⟩,⟨X,q9⟩,⟨B,zA⟩,C,zB⟩:=Bw (Aa.below (v:=Ze) A.o n);have x:=g.trans (n.mono g.size);generalize BQ d s=fi at *
 clear v0 E F G H I J K r;go_wp2;refine bodyPost_ret (v:=.agg (BY 2 ⟨#[]⟩ ⟨#[]⟩).toArray) (by simp[results,results128,go_sem,N,O,P,Q,R,S,T,U,V,X,B,C,BY]) rfl ?_;exact⟨rfl,x.trans (Tn.below (Bv M (w.heap.size+1) _ _ _ _ _ _ _ _ _ _ _ _) x.size (by intro v D;simp at D;omega))⟩
theorem CV(f:Int)(x:Nat)(args:Array Value)(t now c a:Int)(n l i:Zk)(q o pn m k j:Nat)(s u d:Zi)(num:Int)(A:Zk)(C B:Nat)(w:Zh)(V:List Nat)(Q:Zh->Ending->Zh->Prop)(T:Ending->Zh->Prop)(hk:(f=1/\x=122/\args= #[.agg (Yg t now c a n q o l pn m i k j),.agg (Yd f s u num d A C B)])\/(f=2/\x=123/\args= #[.agg (Yg t now c a n q o l pn m i k j),.agg (Yd f s u num d A C B)])\/(f=3/\x=124/\args= #[.agg (Yg t now c a n q o l pn m i k j),.string u])\/(f=5/\x=126/\args= #[.agg (Yg t now c a n q o l pn m i k j),Zg num])\/(f=6/\x=127/\args= #[.agg (Yg t now c a n q o l pn m i k j),Zg num])\/(f=7/\x=128/\args= #[.agg (Yg t now c a n q o l pn m i k j),.string s]))(hV:∀b∈V,b<w.heap.size)(hc:∀X,Zz w X->w.heap.size+3<=X.heap.size->Calls prog x args X (Q X))(hf:∀X e r,Q X e r->Tn V X r/\∃(c0 c1 c2 c3 c4:Int) (M:Zk) (O N:Nat) (I:Zk) (K J:Nat) (E:Zk) (H F:Nat) (L:Zi) (G:Int) (U Y:Zi),e=.returned (.agg #[Zg c0,Zg c1,Zg c2,Zg c3,Zg c4,.slice M O N,.slice I K J,.slice E H F,.string L,Zg G,.string U,.string Y]))(hq:∀X e r g,Zz w X->w.heap.size+3<=X.heap.size->Q X e r->Tn [w.heap.size+2] r g->T e g):
 Calls prog 98 #[.agg (Yg t now c a n q o l pn m i k j),.agg (Yd f s u num d A C B)] w T:=by
 obtain⟨W,z⟩:=Af (((w.alloc (.cells (Yg t now c a n q o l pn m i k j) 27)).alloc (.cells (Yd f s u num d A C B) 118)).alloc (.cells Yc 115));have Z:=(Cv z).1;have zE:=(Cv z).2.1;have x0:=(Cv z).2.2.1;have xe:Aa W (w.heap.size+1) (Xz f s u num d A C B):=by have y:=Aa.new (w.alloc (.cells (Yg t now c a n q o l pn m i k j) 27)) (Xz f s u num d A C B) 118;rw[World.size_alloc]at y;rw[z];exact Aa.below y (Zy)
 have x1:Aa W (w.heap.size+2) z12:=by have y:=Aa.new ((w.alloc (.cells (Yg t now c a n q o l pn m i k j) 27)).alloc (.cells (Yd f s u num d A C B) 118)) z12 115;rw[World.size_alloc,World.size_alloc]at y;rw[z];exact y
 have HC:=Yw (hc W Z Yv);have HQ:Hid (∀e r g,Q W e r->Tn [w.heap.size+2] r g->T e g):=fun e r g y h2=>hq W e r g Z Yv y h2;have HF:=Yw (hf W);have P:Hid (Aa W (w.heap.size+2) z12):=x1;have HV:Hid (∀b∈V,b<w.heap.size):=hV;have HW:=Yw z;obtain⟨v0,v1,v2,v3,v4,v5,v6⟩:=Aa.c7 x0 0 1 2 3 4 5 6;obtain⟨e0,e1,e2,e3,e4,e5⟩:=Aa.c6 xe 0 1 2 3 4 5;clear z x0 xe x1 hc hq hf hV Z
 rcases hk with⟨rfl,rfl,rfl⟩|⟨rfl,rfl,rfl⟩|⟨rfl,rfl,rfl⟩|⟨rfl,rfl,rfl⟩|⟨rfl,rfl,rfl⟩|⟨rfl,rfl,rfl⟩
 all_goals
  go_enter func98,ntmps98;go_upto_region 1 with fail;rw[<-HW.o];clear HW;go_wp2_with fail;refine HC.Am ?_;intro e w1 D;obtain⟨R,c0,c1,c2,c3,c4,M,O,N,I,K,J,E,H,F,L,G,U,Y,rfl⟩:=HF.o e w1 D;have S:Aa w1 (w.heap.size+2) z12:=Aa.same P.o (R.block _ P.o.lt (fun h=>by have:=HV.o _ h;omega))
  obtain⟨⟨y0,q0⟩,⟨y1,q1⟩,⟨y2,q2⟩,⟨y3,q3⟩,⟨y4,q4⟩,⟨y5,q5⟩,⟨y6,q6⟩,⟨y7,q7⟩,⟨y8,q8⟩,⟨y9,q9⟩,⟨zB,zF⟩,zC,zG⟩:=Bw S;have zA:=Yw D;clear D S R v0 v1 v2 v3 v4 v5 v6 e0 e1 e2 e3 e4 e5 HC HF;go_wp2
  refine bodyPost_ret (v:=.agg #[Zg c0,Zg c1,Zg c2,Zg c3,Zg c4,.slice M O N,.slice I K J,.slice E H F,.string L,Zg G,.string U,.string Y]) (by simp[results,results98,go_sem,y0,y1,y2,y3,y4,y5,y6,y7,y8,y9,zB,zC]) rfl ?_;exact HQ.o _ _ _ zA.o (Bv w1 (w.heap.size+2) _ _ _ _ _ _ _ _ _ _ _ _)
theorem MM(h now b a:Int)(o m j:Zk)(r q pn n l k:Nat)(s L d:Zi)(num:Int)(M:Zk)(O N:Nat)(w:Zh)(K:Int)(Q:Zh->Ending->Zh->Prop)(Q':Ending->Zh->Prop)(zO:∀X,Zz w X->Calls prog 18 #[.agg (Yg h now b a o r q m pn n j l k),.string s] X fun e g=>e=.returned (Zg K)/\Zz X g)(zN:0<=K->∀X,Zz w X->w.heap.size+3<=X.heap.size->Calls prog 52 #[.agg (Yg h now b a o r q m pn n j l k)] X fun e g=>(∃F H G C E D z B A,e=.returned (.agg (Yg h now b a F H G C E D z B A))/\∀Y,Zz g Y->Calls prog 125 #[.agg (Yg h now b a F H G C E D z B A),.string s,Zg num] Y (Q X))/\Zz X g)(hf:∀X e g,Zz w X->Q X e g->Zz X g/\∃(c0 c1 c2 c3 c4:Int) (F:Zk) (H G:Nat) (C:Zk) (E D:Nat) (z:Zk) (B A:Nat) (zA:Zi) (Z:Int) (a' b':Zi),e=.returned (.agg #[Zg c0,Zg c1,Zg c2,Zg c3,Zg c4,.slice F H G,.slice C E D,.slice z B A,.string zA,Zg Z,.string a',.string b']))(zR:K<0->∀g,Zz w g->Q' (.returned (.agg (BY 2 ⟨#[]⟩ ⟨#[]⟩).toArray)) g)(hq:0<=K->∀X e g zT,Zz w X->w.heap.size+3<=X.heap.size->Q X e g->Tn [w.heap.size+2] g zT->Q' e zT):
 Calls prog 98 #[.agg (Yg h now b a o r q m pn n j l k),.agg (Yd 4 s L num d M O N)] w Q':=by
 obtain⟨W,I⟩:=Af (((w.alloc (.cells (Yg h now b a o r q m pn n j l k) 27)).alloc (.cells (Yd 4 s L num d M O N) 118)).alloc (.cells Yc 115));have bW:=(Cv I).1;have zZ:=(Cv I).2.1;have i:=(Cv I).2.2.1;have x:Aa W (w.heap.size+1) (Xz 4 s L num d M O N):=by have S:=Aa.new (w.alloc (.cells (Yg h now b a o r q m pn n j l k) 27)) (Xz 4 s L num d M O N) 118;rw[World.size_alloc]at S;rw[I];exact Aa.below S (Zy)
 have P:Aa W (w.heap.size+2) z12:=by have S:=Aa.new ((w.alloc (.cells (Yg h now b a o r q m pn n j l k) 27)).alloc (.cells (Yd 4 s L num d M O N) 118)) z12 115;rw[World.size_alloc,World.size_alloc]at S;rw[I];exact S
 have zH:=Yw (zO W bW);have J:Hid (∀X,Zz W X->Aa X w.heap.size (Yh h now b a o r q m pn n j l k)/\Aa X (w.heap.size+1) (Xz 4 s L num d M O N)/\Aa X (w.heap.size+2) z12/\Zz w X):=fun X u=>⟨Aa.below i u,Aa.below x u,Aa.below (v:=Ze) P u,bW.trans (u.mono bW.size)⟩;have HW:=Yw I;have zG:=Yw zN;have HF:=Yw hf;have zV:=Yw zR;have HQ:=Yw hq;obtain⟨v0,v1,v2,v3,v4,v5,v6⟩:=Aa.c7 i 0 1 2 3 4 5 6
 obtain⟨e0,e1,e2,e3,e4,e5⟩:=Aa.c6 x 0 1 2 3 4 5;clear I i x P zO zN hf zR hq bW;go_enter func98,ntmps98;go_upto_region 1 with fail;rw[<-HW.o];clear HW;go_wp2_with fail;refine zH.Am ?_;rintro e c ⟨rfl,zK⟩;have T:Hid (Zz W c):=zK;clear v0 v1 v2 v3 v4 v5 v6 e0 e1 e2 e3 e4 e5 zH zK;obtain⟨i,x,P,V⟩:=J.o c T.o;by_cases hneg:K<0
 .obtain⟨⟨y0,q0⟩,⟨y1,q1⟩,⟨y2,q2⟩,⟨y3,q3⟩,⟨y4,q4⟩,⟨y5,q5⟩,⟨y6,q6⟩,⟨y7,q7⟩,⟨y8,q8⟩,⟨y9,q9⟩,⟨zB,zX⟩,zC,zY⟩:=Bw P;have zE:=Yw V;clear i x P V J;go_wp2;refine bodyPost_ret (v:=.agg (BY 2 ⟨#[]⟩ ⟨#[]⟩).toArray) (by simp[results,results98,go_sem,y0,y1,y2,y3,y4,y5,y6,y7,y8,y9,zB,zC,BY]) rfl ?_
  exact zV.o hneg _ (zE.o.trans (Tn.below (Bv c (w.heap.size+2) _ _ _ _ _ _ _ _ _ _ _ _) zE.o.size (by intro v hv;simp at hv;omega)))
 .have h0:0<=K:=Yv
  have D1:Below c.heap.size c c.drew:=Ad.drew;have bd:=T.o.trans (D1.mono T.o.size);have t:=(J.o _ bd).2.2.2;have zS:w.heap.size+3<=c.drew.heap.size:=by have:=bd.size;omega
  have zF:=Yw (zG.o h0 c.drew t zS);have y:=Yw bd
  have P1:c.drew.cell? (Zd (w.heap.size) 0)=some (Zg h)/\c.drew.cell? (Zd (w.heap.size) 1)=some (Zg now)/\c.drew.cell? (Zd (w.heap.size) 2)=some (Zg b)/\c.drew.cell? (Zd (w.heap.size) 3)=some (Zg a)/\c.drew.cell? (Zd (w.heap.size) 4)=some (.slice o r q)/\c.drew.cell? (Zd (w.heap.size) 5)=some (.slice m pn n)/\c.drew.cell? (Zd (w.heap.size) 6)=some (.slice j l k)/\c.drew.cell? (Zd (w.heap.size+1) 1)=some (.string s)/\c.drew.cell? (Zd (w.heap.size+1) 3)=some (Zg num):=⟨(i 0 _ rfl).1,(i 1 _ rfl).1,(i 2 _ rfl).1,(i 3 _ rfl).1,(i 4 _ rfl).1,(i 5 _ rfl).1,(i 6 _ rfl).1,(x 1 _ rfl).1,(x 3 _ rfl).1⟩
  have HS:Hid (∀X,Zz W X->X.cell? (Zd (w.heap.size) 0)=some (Zg h)/\X.cell? (Zd (w.heap.size) 1)=some (Zg now)/\X.cell? (Zd (w.heap.size) 2)=some (Zg b)/\X.cell? (Zd (w.heap.size) 3)=some (Zg a)/\X.cell? (Zd (w.heap.size) 4)=some (.slice o r q)/\X.cell? (Zd (w.heap.size) 5)=some (.slice m pn n)/\X.cell? (Zd (w.heap.size) 6)=some (.slice j l k)/\X.cell? (Zd (w.heap.size+1) 1)=some (.string s)/\X.cell? (Zd (w.heap.size+1) 3)=some (Zg num)):=fun X u=>by
   obtain⟨f,R,_⟩:=J.o X u;exact⟨(f 0 _ rfl).1,(f 1 _ rfl).1,(f 2 _ rfl).1,(f 3 _ rfl).1,(f 4 _ rfl).1,(f 5 _ rfl).1,(f 6 _ rfl).1,(R 1 _ rfl).1,(R 3 _ rfl).1⟩
  have zJ:Hid (∀X Y,Zz W X->Tn [w.heap.size+1+1] X Y->Y.cell? (Zd (w.heap.size) 0)=some (Zg h)/\Y.cell? (Zd (w.heap.size) 1)=some (Zg now)/\Y.cell? (Zd (w.heap.size) 2)=some (Zg b)/\Y.cell? (Zd (w.heap.size) 3)=some (Zg a)/\Y.cell? (Zd (w.heap.size) 4)=some (.slice o r q)/\Y.cell? (Zd (w.heap.size) 5)=some (.slice m pn n)/\Y.cell? (Zd (w.heap.size) 6)=some (.slice j l k)/\Y.cell? (Zd (w.heap.size+1) 1)=some (.string s)/\Y.cell? (Zd (w.heap.size+1) 3)=some (Zg num)):=fun X Y u hY=>by
   obtain⟨z0,z1,_⟩:=J.o X u;have f:=Aa.same z0 (hY.block _ z0.lt Yt);have R:=Aa.same z1 (hY.block _ z1.lt Yu);exact⟨(f 0 _ rfl).1,(f 1 _ rfl).1,(f 2 _ rfl).1,(f 3 _ rfl).1,(f 4 _ rfl).1,(f 5 _ rfl).1,(f 6 _ rfl).1,(R 1 _ rfl).1,(R 3 _ rfl).1⟩
  have zU:=hneg;clear i x P V bd P1;go_upto_region 11 with fail
  go_region_held3 (fun X=>X.cell? (Zd (w.heap.size) 0)=some (Zg h)/\X.cell? (Zd (w.heap.size) 1)=some (Zg now)/\X.cell? (Zd (w.heap.size) 2)=some (Zg b)/\X.cell? (Zd (w.heap.size) 3)=some (Zg a)/\X.cell? (Zd (w.heap.size) 4)=some (.slice o r q)/\X.cell? (Zd (w.heap.size) 5)=some (.slice m pn n)/\X.cell? (Zd (w.heap.size) 6)=some (.slice j l k)/\X.cell? (Zd (w.heap.size+1) 1)=some (.string s)/\X.cell? (Zd (w.heap.size+1) 3)=some (Zg num))
   (first|with_reducible exact HS.o _ y.o|with_reducible exact HS.o _ B2|with_reducible exact HS.o _ B3|with_reducible exact zJ.o _ _ B3 (Bv _ _ _ _ _ _ _ _ _ _ _ _ _ _))
   (first
     |(go_at_call 52;refine zF.Am ?_;rintro e w2 ⟨⟨F,H,G,C,E,D,z,B,A,rfl,zP⟩,zM⟩;have B2:Below W.heap.size W w2:=y.o.trans (zM.mono y.o.size);have zI:=Yw (zP w2 Ad);clear zP zM)
     |(go_at_call 125;refine zI.Am ?_;intro e w3 U;obtain⟨hb3,c0,c1,c2,c3,c4,ua',un',uc',va',vn',vc',xa',xn',xc',zA,Z,a',b',rfl⟩:=HF.o c.drew e w3 t U;have B3:Below W.heap.size W w3:=y.o.trans (hb3.mono y.o.size);have zW:=Yw U;obtain⟨_,_,zz1,_⟩:=J.o w3 B3;obtain⟨⟨y0,q0⟩,⟨y1,q1⟩,⟨y2,q2⟩,⟨y3,q3⟩,⟨y4,q4⟩,⟨y5,q5⟩,⟨y6,q6⟩,⟨y7,q7⟩,⟨y8,q8⟩,⟨y9,q9⟩,⟨zB,zX⟩,zC,zY⟩:=Bw zz1;clear U hb3 zz1))
  clear zI zF HS zJ zG HF;go_wp2;refine bodyPost_ret (v:=.agg #[Zg c0,Zg c1,Zg c2,Zg c3,Zg c4,.slice ua' un' uc',.slice va' vn' vc',.slice xa' xn' xc',.string zA,Zg Z,.string a',.string b']) (by simp[results,results98,go_sem,y0,y1,y2,y3,y4,y5,y6,y7,y8,y9,zB,zC]) rfl ?_;exact HQ.o h0 c.drew _ _ _ t zS zW.o (Bv w3 (w.heap.size+2) _ _ _ _ _ _ _ _ _ _ _ _)
def My(wd:Int)(ks:List Kd):Prop:=∀k∈ks,Az k.F k.B wd=true
theorem My.step{g f b:Int}{m:List Kd}{v:List Pd}{u:List Ld}{l:Int}{s n:Zi}{num:Int}{d:Zi}{c:Zl}(h:My g m)(o:Ca l s n num d c g=true)(i:Fe g now f b m v u l s n num d c r):My g r.ks:=by
 obtain⟨D,E,e⟩:=EK o;rcases i with⟨rfl,_,t,q,z,A,i,rfl⟩|⟨_,_,j,rfl⟩|⟨_,_,rfl⟩|⟨_,_,t,q,rfl⟩|⟨_,_,rfl⟩|⟨_,C,rfl⟩|⟨_,_,_,rfl⟩
 .rcases i with⟨_,_,_,_,rfl,rfl⟩|⟨y,x,B,rfl,rfl⟩
  .exact h
  .intro k a;rcases List.mem_append.1 (NO.1 a)with a|a
   .exact h k a
   .rw[List.mem_singleton]at a;subst a;exact e.du rfl
 .exact h
 .exact h
 .exact h
 .exact h
 .exact h
 .exact fun k a=>h k (List.filter_sublist.subset a)
theorem Cx.tok{a:Int}:∀{xs:Zl} {r r':Rs},Cx a r xs r'->My a r.ks->My a r'.ks
 |[],r,r',h,hr=>by obtain rfl:r'=r:=h;exact hr
 |x::xs,r,r',h,hr=>by obtain⟨d,b,c⟩:=h;exact Cx.tok c (hr.step (GK b.1).1 b.2)
theorem Em.tok(h:Em v r):My v.wd v.ks:=by have a:=h.run.tok (by intro k b;cases b);rwa[h.same.2.1]at a
theorem KJ.ah{w c:Zh}{A:Addr}(h:KJ w A ks)(j:AQ w B (some A) ks)(f:Below B w c):KJ c A ks:=fun i k a l g=>by obtain⟨b,off,e,d,_⟩:=j.at (Zw a).1;cases e;exact h i k a l ((f.cell (p:=⟨b,off+i *4+3,none⟩) d).symm.trans g)
end Go.Proofs.YtcfjcdpkpiidkaaGreat
