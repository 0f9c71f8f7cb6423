import Derived.Test.YtcfjcdpkpiidkaaGreatX01
import Derived.Test.YtcfjcdpkpiidkaaGreatProg
import Derived.Deep.MidRow
import Derived.Laws.ResultCell
import Derived.Deep.RegionHeld3
set_option maxRecDepth 100000
set_option maxHeartbeats 16000000
namespace Go.Proofs.YtcfjcdpkpiidkaaGreat
open ChangeShapes WideShapes ChangeAt RowKit _root_.Go.Proofs.Tryz
variable{P:Program}{e:Nat}{p:Tmp}{c:TypeId}{d:Array Oper}{f:Region.Mode}{g:Oper}{b:Array Bool}{a:Act}{w:Zh}
theorem AU{e:Func}(h:e.results= #[.cell p c])(tmps:Array Value)(w:Zh)(b:Nat)(a:Zj)(d:TypeDesc)(k:tmps.getD p undef=Yy b)(g:w.rangeAt b 0 a)(l:P.underlying c=some d)(i:d.isRow=true)(j:(P.info? c).map (·.size)=some a.length):
 (results e tmps).run P w=.ok (.agg a.toArray) w:=by
 have f:tmps[p]?.getD undef=Yy b:=by simpa using k
 simp[results,h,f,asAddr,run_loadVar_mid w b 0 c a d g l i j]
theorem Fu{e:Func}{u:Tmp}{x:Value}(h:e.results= #[.cell p c,.tmp u])(tmps:Array Value)(w:Zh)(b:Nat)(a:Zj)(d:TypeDesc)(j:tmps.getD p undef=Yy b)(l:tmps.getD u undef=x)(f:w.rangeAt b 0 a)(k:P.underlying c=some d)(g:d.isRow=true)(i:(P.info? c).map (·.size)=some a.length):
 (results e tmps).run P w=.ok (.tuple #[.agg a.toArray,x]) w:=by
 rw[results_cell_tmp h,j,l];simp[asAddr,run_loadVar_mid w b 0 c a d f k g i]
abbrev BK:String:= "l7_vault.go:163"
abbrev Fj:String:= "l7_vault.go:78"
abbrev Fk:String:= "l7_vault.go:94"
abbrev Co(n:Nat):Edge:=⟨n,.phase⟩
abbrev Dk(n:Nat):Edge:=⟨n,.data⟩
theorem BF{Q:Exit->Act->Zh->Prop}{S:Zh->Prop}(i:Nat)(v:Value)(h:wpAnyH P f d Q S e (b.setIfInBounds i true) (a.put g.dst v) w)(m:d.toList[i]?=some g:=by exact rfl)(k:S w:=by first|with_reducible assumption|assumption)(o:Region.noSelect d=true:=by kernel_rfl)(l:Region.free f d b i=true:=by kernel_rfl)(n:(Region.ready f d b).contains i=true:=by kernel_rfl)(j:∀c a w,Q (.panic c) (a.put g.dst v) w->Q (.panic c) a w:=by exact fun _ _ _ h=>h)(q:YieldsIf P d S g v a:=by exact Or.inl ⟨Yp,fun _ _=>by go_simp⟩):wpAnyH P f d Q S (e+1) b a w:=
 wpAnyH_take (by simpa using m) o l n j q k h
theorem Pk{Q:Exit->Act->Zh->Prop}{S:Zh->Prop}(i:Nat)(h:wpAnyH P f d Q S e (b.setIfInBounds i true) (a.put g.dst undef) w)(m:d.toList[i]?=some g:=by exact rfl)(k:S w:=by first|with_reducible assumption|assumption)(o:Region.noSelect d=true:=by kernel_rfl)(l:Region.free f d b i=true:=by kernel_rfl)(n:(Region.ready f d b).contains i=true:=by kernel_rfl)(j:∀c a w,Q (.panic c) (a.put g.dst undef) w->Q (.panic c) a w:=by exact fun _ _ _ h=>h)(q:YieldsIf P d S g undef a:=by exact Or.inr ⟨Yp,rfl⟩):wpAnyH P f d Q S (e+1) b a w:=
 wpAnyH_take (by simpa using m) o l n j q k h
theorem EG{Q:Exit->Act->Zh->Prop}{S:Zh->Prop}(i:Nat)(v:Value)(m:d.toList[i]?=some g)(q:YieldsIf P d S g v a)(h:wpAnyH P f d Q S e (b.setIfInBounds i true) (a.put g.dst v) w)(k:S w:=by first|with_reducible assumption|assumption)(o:Region.noSelect d=true:=by kernel_rfl)(l:Region.free f d b i=true:=by kernel_rfl)(n:(Region.ready f d b).contains i=true:=by kernel_rfl)(j:∀c a w,Q (.panic c) (a.put g.dst v) w->Q (.panic c) a w:=by exact fun _ _ _ h=>h):wpAnyH P f d Q S (e+1) b a w:=
 wpAnyH_take (by simpa using m) o l n j q k h
theorem Cm{c:Array Oper}{Q:Exit->Act->Zh->Prop}{S:Zh->Prop}(i:Nat){o:Oper}{d:Nat}(h:∀e:Act->Zh->Prop,Shut (∀a w,S w->(S w->wpAnyH P f c Q S d (b.setIfInBounds i true) a w)->e a w)->if Region.wanted o (yielded c a.tmps)=true then Oper.wp P o a w e Q else e (a.put o.dst undef) w)(g:c.toList[i]?=some o:=by exact rfl)(j:Region.ready f c b=[i]:=by kernel_rfl):wpAnyH P f c Q S (d+1) b a w:=
 wpAnyH_ready j Yu (AllReadyH.cons (by simpa using g) h AllReadyH.nil)
end Go.Proofs.YtcfjcdpkpiidkaaGreat
