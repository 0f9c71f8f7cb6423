import Derived.Test.YtdofmfnmackjhaaGreatDoorX07
import Derived.Test.YtdofmfnmackjhaaGreatDoorX08
import Derived.Test.YtdofmfnmackjhaaGreatDoorX05
set_option maxRecDepth 100000
set_option maxHeartbeats 16000000
namespace Go.Proofs.YtdofmfnmackjhaaGreatDoor
open ChangeShapes WideShapes ChangeAt RowKit _root_.Go.Proofs.Tryz List World Value
theorem On(b:Nat)(a:Zk)(n c:Nat)(p:Int)(w:Zh)(h:AD w b a n c p)(g:0<=p)(i:p<=900000):
 D8 86 #[Yy b] w λe f=>∃d,e=C5 (Zg d)/\(1<=d/\d<=8)/\AD f b a n c (p+1)/\w.grownBy f (some b):=by
 go_enter func86,ntmps86;go_wp2_with fail;refine(AK b a n c p 8 w h g Yv Yv Yv).aj ?_;rintro e k ⟨r,rfl,r0,j,f,d⟩;have H:=Yw (Zn f d);clear f d h;by_cases c1:r<2
 .go_wp2;go_ret;exact⟨1,rfl,Yv,H⟩
 .by_cases c2:r=2
  .subst c2;go_wp2;go_ret;exact⟨2,rfl,Yv,H⟩
  .have d:(r==2)=false:=D2 c2
   go_wp2;go_ret;exact⟨8,rfl,Yv,H⟩
structure Et (w w':Zh) (e:Ending) (b:Nat) (a:Zk) (n c:Nat) (p K:Int) (TX RF:Nat):Prop where
 ex:∃(t:Zi) (ra:Zk) (rc:Nat) (ss:Zl),e=.returned (.agg #[.string t,.slice ra ss.length rc])/\t.size<=TX/\ss.length<=RF/\(∀s∈ss,s.size<=8)/\
  w'.ownsRow w.1.size 9 1 (.slice ra ss.length rc) ss.length (ss.map Value.string)
 I:GJ w w' b a n c p K
theorem JN(l:List UInt8)(k:Nat):(CD l k).size=k:=by unfold CD;rw[ED,Di]
