import Derived.Test.YtfehblndlffcmaaGreatDoorX09
import Derived.Test.YtfehblndlffcmaaGreatDoorX26
import Derived.Test.YtfehblndlffcmaaGreatDoorX27
set_option maxRecDepth 100000
set_option maxHeartbeats 16000000
open Option renaming some->an,none->ba
open Bool renaming true->bg,false->bq
open Go.RowKit renaming Below->bs
open Decidable renaming decide->bx
open Go.Obj renaming cells->ca
open Go.Value renaming slice->cr,agg->ct,bool->ef
open Or renaming inl->dp,inr->eb
open List renaming length->eh
open Go.World renaming cell?->ek,frozen?->el,ownsRow->eo,grownBy->ep,setCell->ev
namespace Go.Proofs.YtfehblndlffcmaaGreatDoor
open ChangeShapes WideShapes ChangeAt RowKit _root_.Go.Proofs.Tryz List World Value
variable{w:Zh}{b n c:Nat}{g p:Int}{i j d f h:Zl}{l a:Zk}
section
attribute [local go_sem↓] Go.wp_at_zero Go.wp_at_succ
theorem Ou(t q d c:Int){p:Zk}(y C A:Nat){k:C9}{m:Db}{s:Da}(v i f x:Int){D B:Zk}(u o:Nat){n:Zl}(r:Bo w w.1.size a p l k m s)(L:OQ k)(N:Sg m)(K:OR k m s)(O:Ab w w.1.size D n)(M:Ab w w.1.size B j)(H:IL n j)(F:eh j<=o):
 D8 100 #[ct (Yg t q d c a (eh k) y p (eh m) C l (eh s) A),ct (Xy v D (eh n) u B (eh j) o i f x)] w λe g=>∃b,e=C5 (ef b)/\(b=bg->(0<=c/\c<=1000000000)/\Ba t c v i f x n j)/\Zz w g:=by
 have J:bs w.1.size w ((w.alloc (ca (C8 t q d c a k y p m C l s A) 30)).alloc (ca (Xy v D (eh n) u B (eh j) o i f x) 32)):=(Zy).alloc Yu _;have G:=(AW.new w t q d c (C2 a k y) (C2 p m C) (C2 l s A) 30).A (Ae.alloc (Zx) (ca (Xy v D (eh n) u B (eh j) o i f x) 32));have E:=Cu.new (w.alloc (ca (C8 t q d c a k y p m C l s A) 30)) v i f x (C2 D n u) (C2 B j o) 32;rw[Ao]at E;delta D8;go_in;go_wp2_with fail;refine(Ot t q d c y C A (r.X J) L N K).ai ?_;rintro e Q ⟨P,rfl,I,z⟩;obtain⟨g,R,S,T,U,V,W,X⟩:=J.ag (z.ai Yt),E.A z
 have⟨Y,Z,b,h,y4,y5,y6,y7⟩:=G.A z;clear z E G J;have G:=Yw I;clear I;cases P with
 |false=>have z:=Yw g;clear R S T U V W X Y Z b h y4 y5 y6 y7 r L N K O M g H;go_wp2;go_ret;exact⟨bq,rfl,(λe=>by cases e),z⟩
 |true=>
  have E:=G rfl;obtain⟨I,J,z,P⟩:=Yw (PW t q d c v i f x (C2 a k y) (C2 p m C) (C2 l s A) u o (O.X g) (M.X g) H F E.2),Yw E,Yw g,g.size;clear r L N K O M E g G;go_wp2_with fail;refine I.Aj ?_;rintro e K ⟨E,rfl,r,g⟩;have G:=Yw (z.ag (g.ai P));have HN:Hid (E=bg->(0<=c/\c<=1000000000)/\Ba t c v i f x n j):=λh=>⟨J,r.1 h⟩;clear r I g;go_wp2;go_ret;exact⟨E,rfl,HN,G⟩
end
theorem Ov(t:Zi)(a:Zl)(c:Int):(AG t a c).size<=2300:=by
 unfold AG;split
 .rename_i h
  have p:=BC h;have b:(ByteArray.mk (BX t a).toArray).size=eh (BX t a):=rfl;have d:=p.bn;have e:=p.i;rw[b];unfold BX;rw[length_cons,Am,DK];have:eh t.data.toList=t.size:=rfl;omega
 exact gA
theorem Vi{b:Zk}(c d:Nat)(r:Ab w w.1.size a h)(q:Ab w w.1.size b f)(B:eh h<=1048576)(z:eh f<=1048576)(t:∀s∈h,s.size<=1048576)(l:∀s∈f,s.size<=1048576)(A:eh f<=d):
 D8 38 #[ct #[C3 a (eh h) c,C3 b (eh f) d]] w λe i=>∃v,e=C5 (ct #[v,Zb])/\
  eo i w.1.size 9 1 v (eh (Ap h f (eh f))) ((Ap h f (eh f)).map string)/\Zz w i:=by
 have j:bs w.1.size w ((w.alloc (ca #[C2 a h c,C2 b f d] 25)).alloc (ca #[Zb,Zb] 25)):=gB;delta D8;go_in;go_wp2_with fail;refine(Mm c d _ (r.X j) (q.X j) B z t l A).ai ?_;rintro e n ⟨v,rfl,m,i⟩;have y:=j.ag (i.ai Yt);have r0:ek n (Zd (w.1.size+1) 0)=an Zb:=by rw[i.cell (p:=⟨w.1.size+1,0,ba⟩) Yu];simp
 have x:ek n (Zd (w.1.size+1) 1)=an Zb:=by rw[i.cell (p:=⟨w.1.size+1,1,ba⟩) Yu];simp
 have C:∀o,el n ⟨w.1.size+1,o,ba⟩=bq:=λo=>by rw[i.frozen (p:=⟨w.1.size+1,o,ba⟩) Yu];simp[go_sem]
 have u:=Joins.ownsRow_forms m;have R:=Ek y (m.ai Yu);have k:=Yw R;clear R m i r q t l;rcases u with⟨rfl,u⟩|⟨g,i,rfl⟩
 .go_wp2;exact C1 (ct #[Zb,Zb]) (by simp[results,results38,go_sem,r0,x]) ⟨_,rfl,k.1,k.2⟩
 go_wp2;exact C1 (ct #[C6 g (Ap h f (eh f)) i,Zb]) (by simp[results,results38,go_sem,r0,x]) ⟨_,rfl,k.1,k.2⟩
