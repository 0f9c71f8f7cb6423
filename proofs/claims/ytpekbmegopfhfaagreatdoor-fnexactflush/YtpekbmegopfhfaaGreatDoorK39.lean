import Derived.Test.YtpekbmegopfhfaaGreatDoorK04
set_option maxRecDepth 100000
set_option maxHeartbeats 16000000
namespace Go.Proofs.YtpekbmegopfhfaaGreatDoor
open Go.ChangeShapes Go.WideShapes Go.ChangeAt Go.RowKit _root_.Go.Proofs.Tryz
theorem Km (t u:ByteArray) (a b:Option Addr) (c d:Nat) (ss tt:List ByteArray) (w:World) (hr:Ae w w.heap.size a ss) (hq:Ae w w.heap.size b tt) (hl:ss.length<=100000) (zX:tt.length<=1048576):
 Calls prog 114 #[.agg #[.string t,.slice a ss.length c],.agg #[.string u,.slice b tt.length d]] w fun e w'=>Ak (t=u/\ss=tt) w w' e:=by
 obtain⟨W,hW⟩:∃W,W=(w.alloc (.cells #[.string t,.slice a ss.length c] 66)).alloc (.cells #[.string u,.slice b tt.length d] 66):=⟨_,rfl⟩;have bW:=(AP hW).1;have x0:=(AP hW).2.2.1;have x1:Aa W (w.heap.size+1) [.string u,.slice b tt.length d]:=by
  have h1:=Aa.new (w.alloc (.cells #[.string t,.slice a ss.length c] 66)) [.string u,.slice b tt.length d] 66;rw[World.size_alloc] at h1;rw[hW];exact h1
 have HX:Hid (∀X,Xz W X->Aa X w.heap.size [.string t,.slice a ss.length c]/\Aa X (w.heap.size+1) [.string u,.slice b tt.length d]/\Ae X w.heap.size a ss/\Ae X w.heap.size b tt/\Xz w X):=fun X hX=>by
  have hb:=bW.trans (hX.mono bW.size);exact⟨Aa.below x0 hX,Aa.below x1 hX,hr.below hb,hq.below hb,hb⟩
 obtain⟨y0,y1⟩:=Aa.c2 x0 0 1;obtain⟨z0,z1⟩:=Aa.c2 x1 0 1;have HW:Hid _:=hW;clear hW hr hq x0 x1;by_cases ht:t=u
 ·subst ht
  have zG:(t.toList !=t.toList)=false:=by simp
  by_cases hlen:ss.length=tt.length
  ·have zM:((ss.length:Int) !=(tt.length:Int))=false:=by simp;omega
   have zE:Hid _:=hlen;clear hlen;go_enter func114,ntmps114;go_upto_region 1 with fail;rw[←HW.o];clear HW;go_wp2
   go_loopw [5] (fun i wr=>∃k:Nat,k<=ss.length/\i=XJ k/\Hid (ss.take k=tt.take k/\Xz W wr)) (fun i _=>ss.length -(intOf i).toNat)
   case atStart=>exact⟨0,Nat.zero_le _,rfl,⟨by simp,Below.refl _ _⟩⟩
   case round=>
    clear y0 y1 z0 z1;obtain⟨k,hk,rfl,HI⟩:=hrel;obtain⟨x0,x1,hr,hq,zB⟩:=HX.o wr HI.o.2;obtain⟨y1,_⟩:=x0 1 _ rfl;obtain⟨z1,_⟩:=x1 1 _ rfl;by_cases hlt:k<ss.length
    ·have zA:k<tt.length:=by have:=zE.o;omega
     obtain⟨rb,ro,ha,zR,zI⟩:=hr.at hlt;obtain⟨qb,qo,hb,zO,zH⟩:=hq.at zA;subst ha hb;have c0:=zI k _ (XD hlt);have d0:=zH k _ (XD zA);have zZ:=XH zR zB.size;have zW:=XH zO zB.size;have zU:Hid _:=XE hlt;have zN:Hid _:=XE zA;have HN:Hid (∀x y,ss[k]?=some x->tt[k]?=some y->x≠y->ss≠tt):=fun x y h1 h2 hne e=>by
      subst e;rw[h1] at h2;exact hne (Option.some.inj h2)
     have zS:Hid _:=XD hlt;have zP:Hid _:=XD zA;have zY:(k:Int)<tt.length:=by omega
     clear zI zH;generalize ss[k]=x at *
     generalize tt[k]=y at *
     have HB:Hid _:=HI.o.2;have zK:Hid _:=zB;clear x0 x1 hr hq zB;by_cases hxy:x=y
     ·subst hxy
      have zF:(x.toList !=x.toList)=false:=by simp
      go_wp2
      go_region
      all_goals go_wp2
      all_goals exact⟨⟨k+1,by omega,by go_num,⟨by rw[zU.o,zN.o,HI.o.1],HB.o.drew⟩⟩,by simp[intOf];omega⟩
     ·have zF:=BJ hxy
      have zT:(x.toList !=y.toList)=true:=by simp[bne,zF]
      go_wp2
      go_region
      all_goals go_wp2
      all_goals go_ret
      all_goals exact Ak.no (fun h=>HN.o x y zS.o zP.o hxy h.2) zK.o.drew
    ·obtain rfl:k=ss.length:=by omega
     have zC:=HI.o.1;rw[XF (XB),XF (by have:=zE.o;omega)] at zC;clear x0 x1 hr hq;go_wp2;go_ret;exact Ak.yes ⟨by trivial,zC⟩ zB
  ·have zM:((ss.length:Int)==(tt.length:Int))=false:=by simp;omega
   have zV:((ss.length:Int) !=(tt.length:Int))=true:=by simp;omega
   go_enter func114,ntmps114;go_upto_region 1 with fail;rw[←HW.o];go_wp2;go_ret;exact Ak.no (fun h=>hlen (by rw[h.2])) bW
 ·have zG:=BJ ht
  have zJ:(t.toList !=u.toList)=true:=by simp[bne,zG]
  go_enter func114,ntmps114;go_upto_region 1 with fail;rw[←HW.o];go_wp2;go_ret;exact Ak.no (fun h=>ht h.1) bW
end Go.Proofs.YtpekbmegopfhfaaGreatDoor
