import Derived.Test.YtcfjcdpkpiidkaaGreatX32
set_option maxRecDepth 100000
set_option maxHeartbeats 16000000
namespace Go.Proofs.YtcfjcdpkpiidkaaGreat
open ChangeShapes WideShapes ChangeAt RowKit _root_.Go.Proofs.Tryz
def PJ(w:Zh)(a:Zk)(n:Nat):Prop:=n=0\/∃q off,a=some ⟨q,off,none⟩/\q<w.heap.size/\∀j,j<n->∃x:Int,w.cell? (Zd q (off+j))=some (.int .u8 x)/\0<=x/\x<256
theorem PJ.below{w d:Zh}{a:Zk}{n:Nat}(h:PJ w a n)(b:Zz w d):PJ d a n:=by
 rcases h with h|⟨q,off,g,c,k⟩
 .exact .inl h
 .refine .inr ⟨q,off,g,Zr c b.size,fun j i=> ?_⟩;obtain⟨x,e,f⟩:=k j i;exact⟨x,(b.cell (p:=⟨q,off+j,none⟩) c).trans e,f⟩
theorem Pf{w X Y:Zh}{b:Nat}(h:Zz w X)(a:X.grownBy Y (some b))(d:w.heap.size<=b):Below w.heap.size w Y:=
 h.trans ⟨a.os,a.tape,a.output,a.size,fun i c=>a.block i (Zr c h.size) (fun e=>by injection e with e;omega)⟩
theorem OC(a:Zk)(n c:Nat)(w:Zh)(T:n<=maxLen)(L:PJ w a n)(S:n<=c):
 Calls prog 4 #[.slice a n c] w fun e M=>∃D,e=.returned (.agg D.toArray)/\UF M D/\Zz w M:=by
 obtain⟨W,E⟩:=Af (w.alloc (.cells Yi 27));obtain⟨C,O,c7⟩:=AL (l:=z7) E;have G:=Yw (PY a n c W T (L.below C) S);have h:=Yw (Za c7 (Za C O));have H:=Yw E;clear E C O c7 L;go_enter func4,ntmps4;go_upto_region 1 with fail;rw[<-H.o];clear H;go_wp2_with fail;refine G.Am ?_;clear G;rintro e F ⟨U,Q,rfl,k,i⟩;obtain⟨I,m⟩:=Af W.heap.size;rw[<-m]at k |-
 have zB:w.heap.size<I:=by have:=h.o.2.2;omega
 have g:Hid (Zz w F/\Aa F w.heap.size z7):=⟨h.o.2.1.trans (i.mono h.o.2.1.size),Aa.below (v:=Ze) h.o.1 i⟩;clear i m;go_wp2_with fail;refine(VB I a U Q 0 F k Yv Yv).mono ?_;rintro e N ⟨⟨D,rfl,j⟩,CF⟩;obtain⟨B,f,d,b,z,A,t,u,q,r,o,y,s,R,_,_⟩:=(j [] N Yu (Tn.of Ad)).ex;subst R;have zA:=g.o.2.lt
 have P:Hid (∀Y,Tn [w.heap.size] N Y->UF Y (Yh B f d b z o.length A t y.length u q s.length r)/\Zz w Y):=fun Y K=>by have J:=Pf g.o.1 CF.gr Yv;exact⟨j [w.heap.size] Y Yt K,J.trans (K.below J.size Yu)⟩
 obtain⟨⟨V,f0⟩,⟨X,f1⟩,⟨Z,f2⟩,⟨y3,f3⟩,⟨y4,f4⟩,⟨y5,f5⟩,y6,f6⟩:=Gj (g.o.2.au CF.gr Yv);clear j CF g h k;go_wp2;refine bodyPost_ret (v:=.agg (Yg B f d b z o.length A t y.length u q s.length r)) (by simp[results,results4,go_sem,V,X,Z,y3,y4,y5,y6]) rfl ⟨_,rfl,P.o _ ?_⟩
 repeat refine Tn.trans ?_ (Tn.set _ _ _ _ Yu)
 exact Tn.of Ad
end Go.Proofs.YtcfjcdpkpiidkaaGreat
