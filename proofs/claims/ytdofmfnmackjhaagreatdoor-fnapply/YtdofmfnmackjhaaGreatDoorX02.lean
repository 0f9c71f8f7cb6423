import Derived.Test.YtdofmfnmackjhaaGreatDoorX01
import Derived.Laws.IdiomCopy
import Derived.Laws.CopyRow
import Derived.Laws.NewBlocks
import Derived.Laws.AppendOwn
import Derived.Lib.AppendZerosOnto
import Derived.Lib.Overlaps
import Derived.Lib.Walk
import Derived.WalkKit
import Derived.Test.YtdofmfnmackjhaaGreatDoorProg
import Derived.Deep.MidRow
import Derived.Laws.ResultCell
import Derived.Deep.RegionHeld3
set_option maxRecDepth 100000
set_option maxHeartbeats 16000000
namespace Go.Proofs.YtdofmfnmackjhaaGreatDoor
open ChangeShapes WideShapes ChangeAt RowKit _root_.Go.Proofs.Tryz List World Value
variable{P:Program}{w:Zh}{c:TypeId}{g o:Oper}{d n k i e:Nat}{a:Act}{b:Array Bool}{f:Region.Mode}{p:Tmp}
theorem CG(w:Zh)(l y z elem:TypeId)(i:TypeInfo)(k b o c f:Nat)(a:Addr)(d h:Nat)(e:Zj)(x:P.underlying l=some (.slice elem))(s:P.info? elem=some i)(t:i.size=k)(u:e.length=Nat.min d c *k)(g:∀j v,e[j]?=some v->w.cell? (a.add j)=some v)(q:∀j,j<e.length->(w.cell? (Zd b (o+j))).isSome=true)(r:∀j,j<e.length->w.frozen? ⟨b,o+j,none⟩=false)(p:∀v∈e,v.oneCell'=true):
 (Builtin.copy_ #[l,y] z #[C3 (some ⟨b,o,none⟩) c f,C3 (some a) d h]).run P w=.ok (goInt (Nat.min d c)) (w.setCells b o e):=by
 have m:=run_loadCells_list (P:=P) w a e g;have n:=run_storeCells_cells (P:=P) b o e 0 w (D2 q) (D2 r) p;rw[u]at m;subst t;simp[Builtin.copy_,run_underlying x,Builtin.lenOf,Builtin.firstCells,sizeOf,typeInfo,s,m,n]
theorem El(g:Nat)(t:TypeId)(a:Nat×Nat):∀(vs:Zj) (o:Nat) (w:Zh) (cur:Array Value),w.1[g]?=some (.cells cur t a)->o+vs.length<=cur.size->
 (w.setCells g o vs).1[g]?=some (.cells (cur.toList.take o++vs++cur.toList.drop (o+vs.length)).toArray t a)
 |[],o,w,cur,hg,_=>by simpa [setCells]using hg
 |v::r,o,w,cur,hg,hl=>by
  simp only[length_cons]at hl;rw[setCells];have b:(w.setCell (Zd g o) v).1[g]?=some (.cells (cur.setIfInBounds o v) t a):=by rw[setCell_eq_setRow w g o cur t a v hg];exact setRow_heap w g cur _ t _ hg
  rw[El g t a r (o+1) _ _ b Yt];have e:=list_seg_step cur.toList o v r Yt;simp only[Array.toList_setIfInBounds,length_cons];rw[e]
theorem Jk(g:Nat):∀(vs:Zj) (o:Nat) (w:Zh),(w.setCells g o vs).1.size=w.1.size
 |[],_,_=>rfl
 |v::r,o,w=>by rw[setCells,Jk g r];simp[setCell]
theorem Nu{c g:Nat}{e:TypeId}{a j:Zj}(h:w.ownsRow c e k (Yz g n d) n a)(z:i<=n)(l:j.length=k)(p:n+1<=d):
 ((w.setCells g ((i+1) *k) (a.drop (i *k))).setCells g (i *k) j).ownsRow c e k (Yz g (n+1) d) (n+1) (a.take (i *k)++j++a.drop (i *k)):=by
 obtain⟨q,A⟩:=h;rcases A with⟨e,_⟩|⟨E,r,b,e,x,y,F,u,f,v⟩
 .cases e
 .cases e;have G:=Nat.mul_le_mul_right k z;have B:=Nat.mul_le_mul_right k p;rw[Nat.add_mul]at B |-;have hlen:(a.take (i *k)++j++a.drop (i *k)).length=n *k+k:=by rw[Ak,Ak,Ct,length_drop,q,l];omega
  have o:(n+1) *k=n *k+k:=by rw[Nat.add_mul];omega
  have m:(a.drop (i *k)).length=n *k -i *k:=by rw[length_drop,q]
  have s:=El g e (0,0) (a.drop (i *k)) (i *k+1 *k) w b y (by rw[m,f];omega);have t:=El g e (0,0) j (i *k) _ _ s (by simp[m,f,l];omega);refine⟨by rw[hlen,o],.inr ⟨g,d,_,rfl,x,t,p,u,?_,?_⟩⟩
  .simp[m,f,l];omega
  .have C:(b.toList.take (i *k+1 *k)++a.drop (i *k)++b.toList.drop (i *k+1 *k+(a.drop (i *k)).length)).take (i *k)=a.take (i *k):=by rw[append_assoc,take_append_of_le_length (by simp[f];omega),take_take,Nat.min_eq_left Yv,<-v,take_take,Nat.min_eq_left Yv]
   have D:(b.toList.take (i *k+1 *k)++a.drop (i *k)++b.toList.drop (i *k+1 *k+(a.drop (i *k)).length)).drop (i *k+j.length)=a.drop (i *k)++b.toList.drop (i *k+1 *k+(a.drop (i *k)).length):=by rw[append_assoc,drop_append_of_le_length (by simp[f,l];omega),drop_eq_nil_of_le (by simp[f,l];omega),nil_append]
   rw[toList_toArray,toList_toArray,C,D,<-append_assoc,take_append_of_le_length (by rw[hlen,o];exact Zx),Zt (by rw[hlen,o];exact Zx)]
theorem OR{g G:Nat}{e:TypeId}{a b h:Zj}(m:a.length=n *k)(u:i<=n)(f:b.length=k)(s:d<=g)(t:w.1[g]?=some (.cells (a.take (i *k)++h).toArray e (0,0)))(z:i *k+h.length=G *k)(o:n+1<=G)(p:G<=maxLen):
 ((w.setCells g (i *k) b).setCells g ((i+1) *k) (a.drop (i *k))).ownsRow d e k (Yz g (n+1) G) (n+1) (a.take (i *k)++b++a.drop (i *k)):=by
 have A:=Nat.mul_le_mul_right k u;have v:=Nat.mul_le_mul_right k o;rw[Nat.add_mul]at v |-;have hlen:(a.take (i *k)++b++a.drop (i *k)).length=n *k+k:=by rw[Ak,Ak,Ct,length_drop,m,f];omega
 have j:(n+1) *k=n *k+k:=by rw[Nat.add_mul];omega
 have c:(a.take (i *k)).length=i *k:=by rw[Ct,m];omega
 have l:(a.drop (i *k)).length=n *k -i *k:=by rw[length_drop,m]
 have q:=El g e (0,0) b (i *k) w _ t (by simp[c,f];omega);have r:=El g e (0,0) (a.drop (i *k)) (i *k+1 *k) _ _ q (by simp[l,f,c];omega);refine⟨by rw[hlen,j],.inr ⟨g,G,_,rfl,s,r,o,p,?_,?_⟩⟩
 .simp[l,f,c];omega
 .have x:(a.take (i *k)++h).take (i *k)=a.take (i *k):=by rw[take_append_of_le_length Yv,Zt Yv]
  have y:((a.take (i *k)++h).take (i *k)++b++(a.take (i *k)++h).drop (i *k+b.length)).take (i *k+1 *k)=a.take (i *k)++b:=by rw[x,take_append_of_le_length (by simp[f,c]),Zt (by simp[f,c])]
  rw[y,take_append_of_le_length (by rw[hlen,j];exact Zx),Zt (by rw[hlen,j];exact Zx)]
theorem Hv(b:Nat)(a:Zj)(o:Nat)(w:Zh)(h:∀j,j<a.length->(w.cell? (Zd b (o+j))).isSome=true)(k:Nat)(c:(w.cell? (Zd b k)).isSome=true):((w.setCells b o a).cell? (Zd b k)).isSome=true:=by
 by_cases hin:o<=k/\k<o+a.length
 .obtain⟨j,rfl⟩:∃j,k=o+j:=⟨k -o,Yv⟩;rw[cell?_setCells_in b a o w h j Yv];rfl
 .rw[cell?_setCells_out b a o w _ (λ_ _=>by show k<o\/o+a.length<=k;omega)];exact c
theorem Jw(b:Nat):∀(vs:Zj) (o:Nat) (w:Zh),(w.setCells b o vs).drew=w.drew.setCells b o vs
 |[],_,_=>rfl
 |v::r,o,w=>by rw[setCells,setCells,Jw b r];rfl
theorem GF(w:Zh)(a:Addr):w.drew.cell? a=w.cell? a:=rfl
theorem Jy(w:Zh)(a:Addr):w.drew.frozen? a=w.frozen? a:=rfl
theorem KI(w:Zh)(r:Option Nat):w.grownBy w.drew r:=⟨rfl,rfl,rfl,Zx,λ_ _ _=>rfl⟩
theorem DI(w:Zh){b:Array Oper}{rest:List Oper}{Q:Exit->Act->Zh->Prop}(j:o.guard=none)(d s:Operand)(t c:TypeId)(k:o.op=.call {callee:=.builtin .copy,args:= #[d,s],argTypes:= #[t,c]})(v u:D4)(i:a.eval d=v)(m:a.eval s=u){e:D4}{f:Zh}(l:(Builtin.copy_ #[t,c] o.type #[v,u]).run P w=.ok e f)(h:wpList P b Q rest (a.put o.dst e) f):wpList P b Q (o::rest) a w:=by
 refine wpList_plain j λK g=> ?_;unfold Oper.wp;simp[execOp,k,resolve,invoke,builtin,i,m,l,Result.andThen];exact g _ _ h
theorem Ez{f:Array Oper}{K:Act->Zh->Prop}{Q:Exit->Act->Zh->Prop}{E:Prop}(i:o.guard=none)(d s:Operand)(t b:TypeId)(j:o.op=.call {callee:=.builtin .copy,args:= #[d,s],argTypes:= #[t,b]})(v u:D4)(h:a.eval d=v)(l:a.eval s=u){c:D4}{e:Zh}(k:(Builtin.copy_ #[t,b] o.type #[v,u]).run P w=.ok c e)(g:K (a.put o.dst c) e):
 if Region.wanted o (yielded f a.tmps)=true then Oper.wp P o a w K Q else E:=by
 rw[if_pos (by simp[Region.wanted,i])];unfold Oper.wp;simp[execOp,j,resolve,invoke,builtin,h,l,k,Result.andThen];exact g
theorem AY{e:Func}(h:e.results= #[.cell p c])(tmps:Array Value)(w:Zh)(b:Nat)(a:Zj)(d:TypeDesc)(k:tmps.getD p undef=Yy b)(g:w.rangeAt b 0 a)(l:P.underlying c=some d)(i:d.isRow=true)(j:(P.info? c).map (·.size)=some a.length):
 (results e tmps).run P w=.ok (.agg a.toArray) w:=by
 have f:tmps[p]?.getD undef=Yy b:=D2 k
 simp[results,h,f,asAddr,run_loadVar_mid w b 0 c a d g l i j]
theorem Nv{e:Func}{u:Tmp}{x:D4}(h:e.results= #[.cell p c,.tmp u])(tmps:Array Value)(w:Zh)(b:Nat)(a:Zj)(d:TypeDesc)(j:tmps.getD p undef=Yy b)(l:tmps.getD u undef=x)(f:w.rangeAt b 0 a)(k:P.underlying c=some d)(g:d.isRow=true)(i:(P.info? c).map (·.size)=some a.length):
 (results e tmps).run P w=.ok (.tuple #[.agg a.toArray,x]) w:=by
 rw[results_cell_tmp h,j,l];simp[asAddr,run_loadVar_mid w b 0 c a d f k g i]
abbrev Cd:String:= "l7_vault.go:163"
abbrev Gd:String:= "l7_vault.go:78"
abbrev Ge:String:= "l7_vault.go:94"
abbrev CN(n:Nat):Edge:=⟨n,.phase⟩
abbrev DO(n:Nat):Edge:=⟨n,.data⟩
theorem BZ{d:Array Oper}{Q:Exit->Act->Zh->Prop}{S:Zh->Prop}(i:Nat)(v:D4)(h:wpAnyH P f d Q S e (b.setIfInBounds i true) (a.put g.dst v) w)(m:d.toList[i]?=some g:=by exact rfl)(k:S w:=by first|with_reducible assumption|assumption)(o:Region.noSelect d=true:=by kernel_rfl)(l:Region.free f d b i=true:=by kernel_rfl)(n:(Region.ready f d b).contains i=true:=by kernel_rfl)(j:∀c a w,Q (.panic c) (a.put g.dst v) w->Q (.panic c) a w:=by exact λ_ _ _ h=>h)(p:YieldsIf P d S g v a:=by exact Or.inl ⟨Yp,λ_ _=>by go_simp⟩):wpAnyH P f d Q S (e+1) b a w:=
 wpAnyH_take (D2 m) o l n j p k h
theorem Rl{d:Array Oper}{Q:Exit->Act->Zh->Prop}{S:Zh->Prop}(i:Nat)(h:wpAnyH P f d Q S e (b.setIfInBounds i true) (a.put g.dst undef) w)(m:d.toList[i]?=some g:=by exact rfl)(k:S w:=by first|with_reducible assumption|assumption)(o:Region.noSelect d=true:=by kernel_rfl)(l:Region.free f d b i=true:=by kernel_rfl)(n:(Region.ready f d b).contains i=true:=by kernel_rfl)(j:∀c a w,Q (.panic c) (a.put g.dst undef) w->Q (.panic c) a w:=by exact λ_ _ _ h=>h)(p:YieldsIf P d S g undef a:=by exact Or.inr ⟨Yp,rfl⟩):wpAnyH P f d Q S (e+1) b a w:=
 wpAnyH_take (D2 m) o l n j p k h
theorem Fl{d:Array Oper}{Q:Exit->Act->Zh->Prop}{S:Zh->Prop}(i:Nat)(v:D4)(m:d.toList[i]?=some g)(p:YieldsIf P d S g v a)(h:wpAnyH P f d Q S e (b.setIfInBounds i true) (a.put g.dst v) w)(k:S w:=by first|with_reducible assumption|assumption)(o:Region.noSelect d=true:=by kernel_rfl)(l:Region.free f d b i=true:=by kernel_rfl)(n:(Region.ready f d b).contains i=true:=by kernel_rfl)(j:∀c a w,Q (.panic c) (a.put g.dst v) w->Q (.panic c) a w:=by exact λ_ _ _ h=>h):wpAnyH P f d Q S (e+1) b a w:=
 wpAnyH_take (D2 m) o l n j p k h
theorem CL{c:Array Oper}{Q:Exit->Act->Zh->Prop}{S:Zh->Prop}(i:Nat)(h:∀e:Act->Zh->Prop,Shut (∀a w,S w->(S w->wpAnyH P f c Q S d (b.setIfInBounds i true) a w)->e a w)->if Region.wanted o (yielded c a.tmps)=true then Oper.wp P o a w e Q else e (a.put o.dst undef) w)(g:c.toList[i]?=some o:=by exact rfl)(j:Region.ready f c b=[i]:=by kernel_rfl):wpAnyH P f c Q S (d+1) b a w:=
 wpAnyH_ready j Yu (AllReadyH.cons (D2 g) h AllReadyH.nil)
