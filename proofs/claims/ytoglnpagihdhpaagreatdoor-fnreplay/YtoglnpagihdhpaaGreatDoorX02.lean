import Derived.Test.YtoglnpagihdhpaaGreatDoorX01
import Derived.Laws.IdiomCopy
import Derived.Laws.CopyRow
import Derived.Laws.NewBlocks
import Derived.Laws.AppendOwn
import Derived.Lib.AppendZerosOnto
import Derived.Lib.Overlaps
import Derived.Lib.Walk
import Derived.WalkKit
import Derived.Deep.RegionHeld3
import Derived.Deep.MidRow
import Derived.Test.YtoglnpagihdhpaaGreatDoorProg
import Derived.Laws.ResultCell
set_option maxRecDepth 100000
set_option maxHeartbeats 16000000
namespace Go.Proofs.YtoglnpagihdhpaaGreatDoor
open ChangeShapes WideShapes ChangeAt RowKit _root_.Go.Proofs.Tryz
variable{P:Program}{w:Zh}{c:TypeId}{g o:Oper}{n k i e:Nat}{a:Act}{f:Region.Mode}{d:Array Oper}{b:Array Bool}{p:Tmp}
theorem CA(w:Zh)(l z A elem:TypeId)(i:TypeInfo)(k b o c f:Nat)(a:Addr)(d h:Nat)(e:Zj)(y:P.underlying l=some (.slice elem))(t:P.info? elem=some i)(u:i.size=k)(x:e.length=Nat.min d c *k)(g:∀j v,e[j]?=some v->w.cell? (a.add j)=some v)(r:∀j,j<e.length->(w.cell? (Zd b (o+j))).isSome=true)(s:∀j,j<e.length->w.frozen? ⟨b,o+j,none⟩=false)(q:∀v∈e,v.oneCell'=true):
 (Builtin.copy_ #[l,z] A #[.slice (some ⟨b,o,none⟩) c f,.slice (some a) d h]).run P w=.ok (goInt (Nat.min d c)) (w.setCells b o e):=by
 have m:=run_loadCells_list (P:=P) w a e g;have n:=run_storeCells_cells (P:=P) b o e 0 w (by simpa using r) (by simpa using s) q;rw[x]at m;subst u;simp[Builtin.copy_,run_underlying y,Builtin.lenOf,Builtin.firstCells,sizeOf,typeInfo,t,m,n]
theorem Ee(g:Nat)(t:TypeId)(a:Nat×Nat):∀(vs:Zj) (o:Nat) (w:Zh) (cur:Array Value),w.heap[g]?=some (.cells cur t a)->o+vs.length<=cur.size->
 (w.setCells g o vs).heap[g]?=some (.cells (cur.toList.take o++vs++cur.toList.drop (o+vs.length)).toArray t a)
 |[],o,w,cur,hg,_=>by simpa [World.setCells]using hg
 |v::r,o,w,cur,hg,hl=>by
  simp only[List.length_cons]at hl;rw[World.setCells];have b:(w.setCell (Zd g o) v).heap[g]?=some (.cells (cur.setIfInBounds o v) t a):=by rw[setCell_eq_setRow w g o cur t a v hg];exact setRow_heap w g cur _ t _ hg
  rw[Ee g t a r (o+1) _ _ b Yt];have e:=list_seg_step cur.toList o v r Yt;simp only[Array.toList_setIfInBounds,List.length_cons];rw[e]
theorem Jg(g:Nat):∀(vs:Zj) (o:Nat) (w:Zh),(w.setCells g o vs).heap.size=w.heap.size
 |[],_,_=>rfl
 |v::r,o,w=>by rw[World.setCells,Jg g r];simp[World.setCell]
theorem Nf{c g cap:Nat}{e:TypeId}{a f:Zj}(h:w.ownsRow c e k (Yz g n cap) n a)(z:i<=n)(j:f.length=k)(o:n+1<=cap):
 ((w.setCells g ((i+1) *k) (a.drop (i *k))).setCells g (i *k) f).ownsRow c e k (Yz g (n+1) cap) (n+1) (a.take (i *k)++f++a.drop (i *k)):=by
 obtain⟨q,A⟩:=h;rcases A with⟨e,_⟩|⟨E,r,b,e,x,y,F,u,d,v⟩
 .cases e
 .cases e;have G:=Nat.mul_le_mul_right k z;have B:=Nat.mul_le_mul_right k o;rw[Nat.add_mul]at B |-;have hlen:(a.take (i *k)++f++a.drop (i *k)).length=n *k+k:=by rw[List.length_append,List.length_append,List.length_take,List.length_drop,q,j];omega
  have m:(n+1) *k=n *k+k:=by rw[Nat.add_mul];omega
  have l:(a.drop (i *k)).length=n *k -i *k:=by rw[List.length_drop,q]
  have s:=Ee g e (0,0) (a.drop (i *k)) (i *k+1 *k) w b y (by rw[l,d];omega);have t:=Ee g e (0,0) f (i *k) _ _ s (by simp[l,d,j];omega);refine⟨by rw[hlen,m],.inr ⟨g,cap,_,rfl,x,t,o,u,?_,?_⟩⟩
  .simp[l,d,j];omega
  .have C:(b.toList.take (i *k+1 *k)++a.drop (i *k)++b.toList.drop (i *k+1 *k+(a.drop (i *k)).length)).take (i *k)=a.take (i *k):=by rw[List.append_assoc,List.take_append_of_le_length (by simp[d];omega),List.take_take,Nat.min_eq_left Yv,<-v,List.take_take,Nat.min_eq_left Yv]
   have D:(b.toList.take (i *k+1 *k)++a.drop (i *k)++b.toList.drop (i *k+1 *k+(a.drop (i *k)).length)).drop (i *k+f.length)=a.drop (i *k)++b.toList.drop (i *k+1 *k+(a.drop (i *k)).length):=by rw[List.append_assoc,List.drop_append_of_le_length (by simp[d,j];omega),List.drop_eq_nil_of_le (by simp[d,j];omega),List.nil_append]
   rw[List.toList_toArray,List.toList_toArray,C,D,<-List.append_assoc,List.take_append_of_le_length (by rw[hlen,m];exact Zx),Zt (by rw[hlen,m];exact Zx)]
theorem Ov{d g G:Nat}{e:TypeId}{a b h:Zj}(m:a.length=n *k)(v:i<=n)(f:b.length=k)(t:d<=g)(u:w.heap[g]?=some (.cells (a.take (i *k)++h).toArray e (0,0)))(A:i *k+h.length=G *k)(o:n+1<=G)(q:G<=maxLen):
 ((w.setCells g (i *k) b).setCells g ((i+1) *k) (a.drop (i *k))).ownsRow d e k (Yz g (n+1) G) (n+1) (a.take (i *k)++b++a.drop (i *k)):=by
 have B:=Nat.mul_le_mul_right k v;have x:=Nat.mul_le_mul_right k o;rw[Nat.add_mul]at x |-;have hlen:(a.take (i *k)++b++a.drop (i *k)).length=n *k+k:=by rw[List.length_append,List.length_append,List.length_take,List.length_drop,m,f];omega
 have j:(n+1) *k=n *k+k:=by rw[Nat.add_mul];omega
 have c:(a.take (i *k)).length=i *k:=by rw[List.length_take,m];omega
 have l:(a.drop (i *k)).length=n *k -i *k:=by rw[List.length_drop,m]
 have r:=Ee g e (0,0) b (i *k) w _ u (by simp[c,f];omega);have s:=Ee g e (0,0) (a.drop (i *k)) (i *k+1 *k) _ _ r (by simp[l,f,c];omega);refine⟨by rw[hlen,j],.inr ⟨g,G,_,rfl,t,s,o,q,?_,?_⟩⟩
 .simp[l,f,c];omega
 .have y:(a.take (i *k)++h).take (i *k)=a.take (i *k):=by rw[List.take_append_of_le_length Yv,Zt Yv]
  have z:((a.take (i *k)++h).take (i *k)++b++(a.take (i *k)++h).drop (i *k+b.length)).take (i *k+1 *k)=a.take (i *k)++b:=by rw[y,List.take_append_of_le_length (by simp[f,c]),Zt (by simp[f,c])]
  rw[z,List.take_append_of_le_length (by rw[hlen,j];exact Zx),Zt (by rw[hlen,j];exact Zx)]
theorem Hm(b:Nat)(a:Zj)(o:Nat)(w:Zh)(h:∀j,j<a.length->(w.cell? (Zd b (o+j))).isSome=true)(k:Nat)(c:(w.cell? (Zd b k)).isSome=true):((w.setCells b o a).cell? (Zd b k)).isSome=true:=by
 by_cases hin:o<=k/\k<o+a.length
 .obtain⟨j,rfl⟩:∃j,k=o+j:=⟨k -o,Yv⟩;rw[World.cell?_setCells_in b a o w h j Yv];rfl
 .rw[World.cell?_setCells_out b a o w _ (fun _ _=>by show k<o\/o+a.length<=k;omega)];exact c
theorem Jt(b:Nat):∀(vs:Zj) (o:Nat) (w:Zh),(w.setCells b o vs).drew=w.drew.setCells b o vs
 |[],_,_=>rfl
 |v::r,o,w=>by rw[World.setCells,World.setCells,Jt b r];rfl
theorem GF(w:Zh)(a:Addr):w.drew.cell? a=w.cell? a:=rfl
theorem Ju(w:Zh)(a:Addr):w.drew.frozen? a=w.frozen? a:=rfl
theorem KC(w:Zh)(r:Option Nat):w.grownBy w.drew r:=⟨rfl,rfl,rfl,Zx,fun _ _ _=>rfl⟩
theorem Dz(w:Zh){b:Array Oper}{rest:List Oper}{Q:Exit->Act->Zh->Prop}(j:o.guard=none)(d s:Operand)(t c:TypeId)(k:o.op=.call {callee:=.builtin .copy,args:= #[d,s],argTypes:= #[t,c]})(v u:Value)(i:a.eval d=v)(m:a.eval s=u){e:Value}{f:Zh}(l:(Builtin.copy_ #[t,c] o.type #[v,u]).run P w=.ok e f)(h:wpList P b Q rest (a.put o.dst e) f):wpList P b Q (o::rest) a w:=by
 refine wpList_plain j fun K g=> ?_;unfold Oper.wp;simp[execOp,k,resolve,invoke,builtin,i,m,l,Result.andThen];exact g _ _ h
theorem Er{f:Array Oper}{K:Act->Zh->Prop}{Q:Exit->Act->Zh->Prop}{E:Prop}(i:o.guard=none)(d s:Operand)(t b:TypeId)(j:o.op=.call {callee:=.builtin .copy,args:= #[d,s],argTypes:= #[t,b]})(v u:Value)(h:a.eval d=v)(l:a.eval s=u){c:Value}{e:Zh}(k:(Builtin.copy_ #[t,b] o.type #[v,u]).run P w=.ok c e)(g:K (a.put o.dst c) e):
 if Region.wanted o (yielded f a.tmps)=true then Oper.wp P o a w K Q else E:=by
 rw[if_pos (by simp[Region.wanted,i])];unfold Oper.wp;simp[execOp,j,resolve,invoke,builtin,h,l,k,Result.andThen];exact g
abbrev BY:String:= "l7_vault.go:163"
abbrev Gh:String:= "l7_vault.go:78"
abbrev Gi:String:= "l7_vault.go:94"
abbrev CI(n:Nat):Edge:=⟨n,.phase⟩
abbrev DF(n:Nat):Edge:=⟨n,.data⟩
theorem BR{Q:Exit->Act->Zh->Prop}{S:Zh->Prop}(i:Nat)(v:Value)(h:wpAnyH P f d Q S e (b.setIfInBounds i true) (a.put g.dst v) w)(m:d.toList[i]?=some g:=by exact rfl)(k:S w:=by first|with_reducible assumption|assumption)(o:Region.noSelect d=true:=by kernel_rfl)(l:Region.free f d b i=true:=by kernel_rfl)(n:(Region.ready f d b).contains i=true:=by kernel_rfl)(j:∀c a w,Q (.panic c) (a.put g.dst v) w->Q (.panic c) a w:=by exact fun _ _ _ h=>h)(q:YieldsIf P d S g v a:=by exact Or.inl ⟨Yp,fun _ _=>by go_simp⟩):wpAnyH P f d Q S (e+1) b a w:=
 wpAnyH_take (by simpa using m) o l n j q k h
theorem QF{Q:Exit->Act->Zh->Prop}{S:Zh->Prop}(i:Nat)(h:wpAnyH P f d Q S e (b.setIfInBounds i true) (a.put g.dst undef) w)(m:d.toList[i]?=some g:=by exact rfl)(k:S w:=by first|with_reducible assumption|assumption)(o:Region.noSelect d=true:=by kernel_rfl)(l:Region.free f d b i=true:=by kernel_rfl)(n:(Region.ready f d b).contains i=true:=by kernel_rfl)(j:∀c a w,Q (.panic c) (a.put g.dst undef) w->Q (.panic c) a w:=by exact fun _ _ _ h=>h)(q:YieldsIf P d S g undef a:=by exact Or.inr ⟨Yp,rfl⟩):wpAnyH P f d Q S (e+1) b a w:=
 wpAnyH_take (by simpa using m) o l n j q k h
theorem Fu{Q:Exit->Act->Zh->Prop}{S:Zh->Prop}(i:Nat)(v:Value)(m:d.toList[i]?=some g)(q:YieldsIf P d S g v a)(h:wpAnyH P f d Q S e (b.setIfInBounds i true) (a.put g.dst v) w)(k:S w:=by first|with_reducible assumption|assumption)(o:Region.noSelect d=true:=by kernel_rfl)(l:Region.free f d b i=true:=by kernel_rfl)(n:(Region.ready f d b).contains i=true:=by kernel_rfl)(j:∀c a w,Q (.panic c) (a.put g.dst v) w->Q (.panic c) a w:=by exact fun _ _ _ h=>h):wpAnyH P f d Q S (e+1) b a w:=
 wpAnyH_take (by simpa using m) o l n j q k h
theorem CG{c:Array Oper}{Q:Exit->Act->Zh->Prop}{S:Zh->Prop}(i:Nat){d:Nat}(h:∀e:Act->Zh->Prop,Shut (∀a w,S w->(S w->wpAnyH P f c Q S d (b.setIfInBounds i true) a w)->e a w)->if Region.wanted o (yielded c a.tmps)=true then Oper.wp P o a w e Q else e (a.put o.dst undef) w)(g:c.toList[i]?=some o:=by exact rfl)(j:Region.ready f c b=[i]:=by kernel_rfl):wpAnyH P f c Q S (d+1) b a w:=
 wpAnyH_ready j Yu (AllReadyH.cons (by simpa using g) h AllReadyH.nil)
theorem AU{e:Func}(h:e.results= #[.cell p c])(tmps:Array Value)(w:Zh)(b:Nat)(a:Zj)(d:TypeDesc)(k:tmps.getD p undef=Yy b)(g:w.rangeAt b 0 a)(l:P.underlying c=some d)(i:d.isRow=true)(j:(P.info? c).map (·.size)=some a.length):
 (results e tmps).run P w=.ok (.agg a.toArray) w:=by
 have f:tmps[p]?.getD undef=Yy b:=by simpa using k
 simp[results,h,f,asAddr,run_loadVar_mid w b 0 c a d g l i j]
theorem Gm{e:Func}{u:Tmp}{x:Value}(h:e.results= #[.cell p c,.tmp u])(tmps:Array Value)(w:Zh)(b:Nat)(a:Zj)(d:TypeDesc)(j:tmps.getD p undef=Yy b)(l:tmps.getD u undef=x)(f:w.rangeAt b 0 a)(k:P.underlying c=some d)(g:d.isRow=true)(i:(P.info? c).map (·.size)=some a.length):
 (results e tmps).run P w=.ok (.tuple #[.agg a.toArray,x]) w:=by
 rw[results_cell_tmp h,j,l];simp[asAddr,run_loadVar_mid w b 0 c a d f k g i]
end Go.Proofs.YtoglnpagihdhpaaGreatDoor
