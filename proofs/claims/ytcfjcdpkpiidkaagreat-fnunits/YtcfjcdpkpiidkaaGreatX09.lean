import Derived.Test.YtcfjcdpkpiidkaaGreatX03
set_option maxRecDepth 100000
set_option maxHeartbeats 16000000
namespace Go.Proofs.YtcfjcdpkpiidkaaGreat
open ChangeShapes WideShapes ChangeAt RowKit _root_.Go.Proofs.Tryz
theorem Px(a:Zk)(c:Nat)(b:Zl)(x:Zi)(w:Zh)(l:Ab w w.heap.size a b)(B:b.length<=1048576)(r:x∈b):
 Calls prog 11 #[.slice a b.length c,.string x] w fun e s=>e=.returned (.bool true)/\Zz w s:=by
 obtain⟨i,g⟩:=List.getElem?_of_mem r;have o:Hid (Ab w w.heap.size a b):=l;clear l;go_enter func11,ntmps11;go_wp2
 go_loopw [5] (fun j wr=>∃k:Nat,k<=i/\j=Zg k/\wr=w) (fun j _=>b.length -(intOf j).toNat)
 case atStart=>exact⟨0,Nat.zero_le _,rfl,rfl⟩
 case round=>
  obtain⟨k,A,rfl,rfl⟩:=hrel;have t:=(Zw g).1;have d:k<b.length:=Yv
  obtain⟨C,D,q,v,f⟩:=o.o.at d;subst q;have z:=f k _ (Zv d);have n:Hid (b[k]?=some b[k]):=Zv d;clear f;generalize b[k]=y at *
  by_cases hxy:y=x
  .subst hxy;have m:(y.toList==y.toList)=true:=Yu
   go_wp2;go_ret;exact⟨rfl,Ad⟩
  .have m:=Bu hxy;have u:k≠i:=fun e=>by have h:=n.o;rw[e,g]at h;exact hxy (Option.some.inj h).symm
   go_wp2;exact⟨⟨k+1,Yv,Yn,trivial⟩,Ys⟩
end Go.Proofs.YtcfjcdpkpiidkaaGreat
