import Derived.Test.YtpekbmegopfhfaaGreatDoorQ12
import Derived.Test.YtpekbmegopfhfaaGreatDoorQ13
import Derived.Test.YtpekbmegopfhfaaGreatDoorQ14
import Derived.Test.YtpekbmegopfhfaaGreatDoorQ17
import Derived.Test.YtpekbmegopfhfaaGreatDoorQ04
import Derived.Test.YtpekbmegopfhfaaGreatDoorQ05
namespace Go.Proofs.YtpekbmegopfhfaaGreatDoor
open Go.ChangeShapes Go.WideShapes Go.ChangeAt Go.RowKit
theorem waitL_snoc {ls:List Ld} {k:Nat} {x:Ld} (n:Int) (hx:ls[k]?=some x):waitL (ls.take (k+1)) n=waitL (ls.take k) n++(if x.til<=n then [] else [x]):=by
 obtain⟨hlt,rfl⟩:=List.getElem?_eq_some_iff.1 hx;unfold waitL;rw[List.take_succ_eq_append_getElem hlt,List.filter_append];by_cases h:ls[k].til<=n<;>simp[h]
def WaitTo (w w':World) (e:Ending) (wd now given births:Int) (T P:Value) (ls:List Ld) (ticks:Int):Prop:=
 Below w.heap.size w w'/\((1000000000<now+ticks/\e=.returned (.agg #[.int .i64 4,.int .i64 0,.int .i64 0,.int .i64 0,.int .i64 0,.slice none 0 0,.slice none 0 0,.slice none 0 0,.string ⟨#[]⟩,.int .i64 0,.string ⟨#[]⟩,.string ⟨#[]⟩]))∨
  (now+ticks<=1000000000/\∃g c,e=.returned (.agg #[.int .i64 0,.int .i64 wd,.int .i64 (now+ticks),.int .i64 given,.int .i64 births,T,P,.slice (some ⟨g,0,none⟩) (waitL ls (now+ticks)).length c,.string ⟨#[]⟩,.int .i64 0,.string ⟨#[]⟩,.string ⟨#[]⟩])/\w'.ownsRow w.heap.size 137 3 (.slice (some ⟨g,0,none⟩) (waitL ls (now+ticks)).length c) (waitL ls (now+ticks)).length (rowC lC (waitL ls (now+ticks)))))
set_option maxRecDepth 20000 in
set_option maxHeartbeats 4000000 in
theorem l4Wait_any (wd now given births:Int) (ta pa la:Option Addr) (tn tc pn pc lc:Nat) (ls:List Ld) (ticks:Int) (w:World) (hrow:LRow w w.heap.size la ls) (hl:ls.length<=1000) (hn0:0<=now) (hn1:now<=1000000000) (ht0:0<=ticks) (ht1:ticks<=1000000000):
 Calls Tryz.prog 90 #[.agg #[.int .i64 wd,.int .i64 now,.int .i64 given,.int .i64 births,.slice ta tn tc,.slice pa pn pc,.slice la ls.length lc],.int .i64 ticks] w fun e w'=>WaitTo w w' e wd now given births (.slice ta tn tc) (.slice pa pn pc) ls ticks:=by
 obtain⟨W,hW⟩:∃W,W=(w.alloc (.cells #[.int .i64 wd,.int .i64 now,.int .i64 given,.int .i64 births,.slice ta tn tc,.slice pa pn pc,.slice la ls.length lc] 28)).alloc (.cells #[.int .i64 0,.int .i64 0,.int .i64 0,.int .i64 0,.int .i64 0,.slice none 0 0,.slice none 0 0,.slice none 0 0,.string ⟨#[]⟩,.int .i64 0,.string ⟨#[]⟩,.string ⟨#[]⟩] 30):=⟨_,rfl⟩
 have bW:Below w.heap.size w W:=by rw[hW];exact((Below.refl _ _).alloc (Nat.le_refl _) _).alloc (by simp) _
 have hzW:W.heap.size=w.heap.size+2:=by rw[hW];simp
 have x0:CellsAt W w.heap.size [.int .i64 wd,.int .i64 now,.int .i64 given,.int .i64 births,.slice ta tn tc,.slice pa pn pc,.slice la ls.length lc]:=by
  have h1:=CellsAt.new w [.int .i64 wd,.int .i64 now,.int .i64 given,.int .i64 births,.slice ta tn tc,.slice pa pn pc,.slice la ls.length lc] 28;rw[hW];exact CellsAt.below h1 ((Below.refl _ _).alloc (Nat.le_refl _) _)
 have x1:CellsAt W (w.heap.size+1) z12:=by
  have h1:=CellsAt.new (w.alloc (.cells #[.int .i64 wd,.int .i64 now,.int .i64 given,.int .i64 births,.slice ta tn tc,.slice pa pn pc,.slice la ls.length lc] 28)) z12 30;rw[World.size_alloc] at h1;rw[hW];exact h1
 have hwr:IntKind.i64.wrap (now+ticks)=now+ticks:=wrap_sum hn0 hn1 ht0 ht1;have HW:Hid _:=hW;by_cases hbig:1000000000<now+ticks
 ·obtain⟨⟨y0,q0⟩,⟨y1,q1⟩,⟨y2,q2⟩,⟨y3,q3⟩,⟨y4,q4⟩,⟨y5,q5⟩,⟨y6,q6⟩,⟨y7,q7⟩,⟨y8,q8⟩,⟨y9,q9⟩,⟨y10,q10⟩,y11,q11⟩:=z12at x1
  obtain⟨c1,_⟩:=x0 1 _ rfl;have HB:Hid (Below w.heap.size w W):=bW;have HBig:Hid (1000000000<now+ticks):=hbig;clear hW x0 x1 hrow bW hzW;go_enter Tryz.func90,Tryz.ntmps90;go_upto_region 1 with fail;rw[←HW.out];clear HW;go_wp2
  refine bodyPost_ret (v:=.agg #[.int .i64 4,.int .i64 0,.int .i64 0,.int .i64 0,.int .i64 0,.slice none 0 0,.slice none 0 0,.slice none 0 0,.string ⟨#[]⟩,.int .i64 0,.string ⟨#[]⟩,.string ⟨#[]⟩]) (by simp[results,Tryz.results90,go_sem,y0,y1,y2,y3,y4,y5,y6,y7,y8,y9,y10,y11]) rfl ?_
  exact⟨HB.out.trans (Tn.below (tn12 W (w.heap.size+1) _ _ _ _ _ _ _ _ _ _ _ _) HB.out.size (by intro v hv;simp at hv;omega)),.inl ⟨HBig.out,rfl⟩⟩
 ·obtain⟨X,hX⟩:∃X,X=W.setCell ⟨w.heap.size,1,none⟩ (.int .i64 (now+ticks)):=⟨_,rfl⟩
  have tX:Tn [w.heap.size] W X:=by rw[hX];exact tn1 _ _ _ _
  have hzX:w.heap.size+2<=X.heap.size:=by have:=tX.size;omega
  have u0:CellsAt X w.heap.size [.int .i64 wd,.int .i64 (now+ticks),.int .i64 given,.int .i64 births,.slice ta tn tc,.slice pa pn pc,.slice la ls.length lc]:=by rw[hX];exact x0.set 1 _
  have u1:CellsAt X (w.heap.size+1) z12:=CellsAt.same x1 (tX.block _ (by omega) (by simp))
  have HX:Hid (∀Y,Below (w.heap.size+2) X Y->CellsAt Y w.heap.size [.int .i64 wd,.int .i64 (now+ticks),.int .i64 given,.int .i64 births,.slice ta tn tc,.slice pa pn pc,.slice la ls.length lc]/\CellsAt Y (w.heap.size+1) z12):=fun Y hY=>⟨CellsAt.same u0 (hY.block _ (by omega)),CellsAt.same u1 (hY.block _ (by omega))⟩;have HXe:Hid _:=hX;have HR:Hid (LRow w w.heap.size la ls):=hrow
  have HBX:Hid (Below w.heap.size w X):=bW.trans (tX.below bW.size (by simp));have HBig:Hid (now+ticks<=1000000000):=Int.not_lt.1 hbig;have bA:Below X.heap.size X (X.alloc (.cells #[] 137)):=(Below.refl _ _).alloc (Nat.le_refl _) _
  have HOA:Hid ((X.alloc (.cells #[] 137)).ownsRow (w.heap.size+2) 137 3 (.slice (some ⟨X.heap.size,0,none⟩) 0 0) 0 []):=World.ownsRow_lit (base:=w.heap.size+2) (e:=137) (size:=3) X #[] 0 hzX (by unfold maxLen;omega) rfl;have HBA:Hid (Below (w.heap.size+2) X (X.alloc (.cells #[] 137))):=bA.mono hzX;obtain⟨c1,f1⟩:=x0 1 _ rfl;clear hW hX hzW x0 x1 u0 u1 hrow bW bA tX
  go_enter Tryz.func90,Tryz.ntmps90;go_upto_region 1 with fail;rw[←HW.out];clear HW;go_upto_region 4 with fail;rw[←HXe.out];clear HXe c1 f1;go_wp2
  go_loopw [5,6] (fun v i wr=>∃(k g c:Nat),k<=ls.length/\i=.int .i64 k/\v=.slice (some ⟨g,0,none⟩) (waitL (ls.take k) (now+ticks)).length c/\Hid (wr.ownsRow (w.heap.size+2) 137 3 (.slice (some ⟨g,0,none⟩) (waitL (ls.take k) (now+ticks)).length c) (waitL (ls.take k) (now+ticks)).length (rowC lC (waitL (ls.take k) (now+ticks)))/\Below (w.heap.size+2) X wr)) (fun _ i _=>ls.length -(intOf i).toNat)
  case atStart=>exact⟨0,X.heap.size,0,Nat.zero_le _,rfl,by simp[waitL],⟨by simpa [waitL,rowC] using HOA.out,HBA.out⟩⟩
  case round=>
   clear HOA HBA;obtain⟨k,g,c,hk,rfl,rfl,HI⟩:=hrel;have hbr:Below w.heap.size w wr:=HBX.out.trans (HI.out.2.mono (by omega));have hzr:w.heap.size+2<=wr.heap.size:=Nat.le_trans hzX HI.out.2.size;obtain⟨v0,v1,v2,v3,v4,v5,v6,v7⟩:=sbox_of (HX.out _ HI.out.2).1;by_cases hlt:k<ls.length
   ·obtain⟨b',off,ha,hb,hc'⟩:=(LRow.below HR.out hbr).at hlt
    subst ha;have HG:Hid (ls[k]?=some ls[k]):=List.getElem?_eq_getElem hlt;obtain⟨c0,c1,c2⟩:=hc' k _ HG.out;have HSn:Hid _:=waitL_snoc (now+ticks) HG.out;have hgl:(waitL (ls.take k) (now+ticks)).length<=1000:=by
     have:=List.length_filter_le (fun x:Ld=> !decide (x.til<=(now+ticks))) (ls.take k);unfold waitL;rw[List.length_take] at this;omega
    have hbl':b'<wr.heap.size:=by have:=hbr.size;omega
    have hkl:(k:Int)<ls.length:=by omega
    clear hc';generalize ls[k]=x at *
    generalize hGk:waitL (ls.take k) (now+ticks)=gk at *
    have HGk:Hid _:=hGk;clear hGk;by_cases hxn:x.til<=(now+ticks)
    ·have hq:decide ((now+ticks)<x.til)=false:=by simp;omega
     have HE:Hid (waitL (ls.take (k+1)) (now+ticks)=gk):=by show _=_;rw[HSn.out,if_pos hxn,List.append_nil]
     clear hxn;have HBd:Hid (wr.drew.ownsRow (w.heap.size+2) 137 3 (.slice (some ⟨g,0,none⟩) gk.length c) gk.length (rowC lC gk)/\Below (w.heap.size+2) X wr.drew):=⟨own_below HI.out.1 ((Below.refl _ _).drew),HI.out.2.drew⟩;clear HI;go_upto_region 8 with fail;go_region_with fail
     all_goals
      go_wp2;exact⟨⟨k+1,g,c,by omega,by go_num,by rw[HE.out],⟨by rw[HE.out];exact HBd.out.1,HBd.out.2⟩⟩,by simp[intOf];omega⟩
    ·have hq:decide ((now+ticks)<x.til)=true:=by simp;omega
     have HE:Hid (waitL (ls.take (k+1)) (now+ticks)=gk++[x]):=by show _=_;rw[HSn.out,if_neg hxn]
     clear hxn;obtain⟨g8,cap8,w8,hr8,ho8,hg8,hk8⟩:=lpush wr.drew (w.heap.size+2) _ gk (own_below HI.out.1 ((Below.refl _ _).drew)) x (by omega) hzr 26;have b8:Below (w.heap.size+2) wr.drew w8:=(Below.refl _ _).grown hg8 hzr (fun q e=>(own_lt HI.out.1 e).1)
     have H8:Hid (w8.ownsRow (w.heap.size+2) 137 3 (.slice (some ⟨g8,0,none⟩) (gk.length+1) cap8) (gk++[x]).length (rowC lC (gk++[x]))/\Below (w.heap.size+2) X w8):=⟨ho8,HI.out.2.drew.trans b8⟩;clear ho8 hg8 hk8 b8 HI;go_upto_region 8 with fail;go_region_with fail
     all_goals
      go_wp2_with (at_builtin;first|(refine wpList_append_run rfl _ _ 26 26 rfl rfl rfl hr8 ?_));go_wp2;exact⟨⟨k+1,g8,cap8,by omega,by go_num,by rw[HE.out,List.length_append];rfl,⟨by rw[HE.out,List.length_append];exact List.length_append▸H8.out.1,H8.out.2⟩⟩,by simp[intOf];omega⟩
   ·obtain rfl:k=ls.length:=by omega
    have hO:=HI.out.1;rw[List.take_of_length_le (Nat.le_refl _)] at hO ⊢;have HO:Hid (wr.ownsRow (w.heap.size+2) 137 3 (.slice (some ⟨g,0,none⟩) (waitL ls (now+ticks)).length c) (waitL ls (now+ticks)).length (rowC lC (waitL ls (now+ticks)))):=hO;have HBr:Hid (Below w.heap.size w wr):=hbr
    obtain⟨⟨y0,q0⟩,⟨y1,q1⟩,⟨y2,q2⟩,⟨y3,q3⟩,⟨y4,q4⟩,⟨y5,q5⟩,⟨y6,q6⟩,⟨y7,q7⟩,⟨y8,q8⟩,⟨y9,q9⟩,⟨y10,q10⟩,y11,q11⟩:=z12at (HX.out _ HI.out.2).2;have f6:=((HX.out _ HI.out.2).1 6 _ rfl).2;clear hO hbr HI;go_wp2
    refine bodyPost_ret (v:=.agg #[.int .i64 0,.int .i64 wd,.int .i64 (now+ticks),.int .i64 given,.int .i64 births,.slice ta tn tc,.slice pa pn pc,.slice (some ⟨g,0,none⟩) (waitL ls (now+ticks)).length c,.string ⟨#[]⟩,.int .i64 0,.string ⟨#[]⟩,.string ⟨#[]⟩]) (by simp[results,Tryz.results90,go_sem,y0,y1,y2,y3,y4,y5,y6,y7,y8,y9,y10,y11]) rfl ?_
    have T':=(Tn.set (V:=[w.heap.size,w.heap.size+1]) wr w.heap.size 6 (.slice (some ⟨g,0,none⟩) (waitL ls (now+ticks)).length c) (by simp)).trans (Tn.mono (tn12 (wr.setCell ⟨w.heap.size,6,none⟩ (.slice (some ⟨g,0,none⟩) (waitL ls (now+ticks)).length c)) (w.heap.size+1) (.int .i64 0) (.int .i64 wd) (.int .i64 (now+ticks)) (.int .i64 given) (.int .i64 births) (.slice ta tn tc) (.slice pa pn pc) (.slice (some ⟨g,0,none⟩) (waitL ls (now+ticks)).length c) (.string ⟨#[]⟩) (.int .i64 0) (.string ⟨#[]⟩) (.string ⟨#[]⟩)) (by simp))
    exact⟨HBr.out.trans (T'.below HBr.out.size (by intro v hv;simp at hv;omega)),.inr ⟨HBig.out,g,c,rfl,(own_same HO.out (fun q hq=>T'.block q (own_lt HO.out hq).2 (by have:=(own_lt HO.out hq).1;simp;omega))).mono (by omega)⟩⟩
end Go.Proofs.YtpekbmegopfhfaaGreatDoor
namespace Go.Proofs.YtpekbmegopfhfaaGreatDoor
open Go.ChangeShapes Go.WideShapes Go.ChangeAt Go.RowKit
set_option maxRecDepth 20000 in
set_option maxHeartbeats 4000000 in
theorem attempt_any (d:Nat) (V:List Nat) (kd:Int) (s nm tx:ByteArray) (num:Int) (ra:Option Addr) (rn rc:Nat) (Rn:Int->ByteArray->ByteArray->Prop) (Ry:ByteArray->Int->World->Prop) (w:World) (hV:∀b∈V,b<w.heap.size)
 (hst:∀sm le X X' R cur,Ry sm le X->X.heap[R]?=some (.cells cur 30)->w.heap.size<=R->Tn [R] X X'->Ry sm le X')
 (h:∀X,Below w.heap.size w X->Calls Tryz.prog 139 #[.pointer (some ⟨d,0,none⟩),.agg #[.int .i64 kd,.string s,.string nm,.int .i64 num,.string tx,.slice ra rn rc]] X fun e w'=>(∃c a b,Rn c a b/\e=.panicked [{v:=refV c a b,recovered:=false}]/\Tn V X w')∨(∃sm le,e=.returned (.agg #[.int .i64 0,.int .i64 0,.int .i64 0,.int .i64 0,.int .i64 0,.slice none 0 0,.slice none 0 0,.slice none 0 0,.string sm,.int .i64 le,.string ⟨#[]⟩,.string ⟨#[]⟩])/\Ry sm le w'/\Tn V X w')):
 Calls Tryz.prog 94 #[.pointer (some ⟨d,0,none⟩),.agg #[.int .i64 kd,.string s,.string nm,.int .i64 num,.string tx,.slice ra rn rc]] w fun e w'=>(∃c a b,Rn c a b/\e=.returned (.agg (refC c a b).toArray)/\Tn V w w')∨(∃sm le,e=.returned (.agg #[.int .i64 0,.int .i64 0,.int .i64 0,.int .i64 0,.int .i64 0,.slice none 0 0,.slice none 0 0,.slice none 0 0,.string sm,.int .i64 le,.string ⟨#[]⟩,.string ⟨#[]⟩])/\Ry sm le w'/\Tn V w w'):=by
 suffices hs:∀Q:Ending->World->Prop,(∀c a b w'',Rn c a b->Tn V w w''->Q (.returned (.agg (refC c a b).toArray)) w'')->(∀sm le w'',Ry sm le w''->Tn V w w''->Q (.returned (.agg #[.int .i64 0,.int .i64 0,.int .i64 0,.int .i64 0,.int .i64 0,.slice none 0 0,.slice none 0 0,.slice none 0 0,.string sm,.int .i64 le,.string ⟨#[]⟩,.string ⟨#[]⟩])) w'')->Calls Tryz.prog 94 #[.pointer (some ⟨d,0,none⟩),.agg #[.int .i64 kd,.string s,.string nm,.int .i64 num,.string tx,.slice ra rn rc]] w Q from
  hs _ (fun c a b w'' h1 h2=> .inl ⟨c,a,b,h1,rfl,h2⟩) (fun sm le w'' h1 h2=> .inr ⟨sm,le,rfl,h1,h2⟩)
 intro Q hQn hQy;have HQn:Hid _:=hQn;have HQy:Hid _:=hQy;clear hQn hQy;have hmf:∀(fn:Fn) (first cap:Array Value) (w:World),(Instr.makeFunc fn first cap).run Tryz.prog w=.ok (.func fn first cap) w:=fun _ _ _ _=>rfl
 obtain⟨W,hW⟩:∃W,W=(w.alloc (.cells #[.int .i64 kd,.string s,.string nm,.int .i64 num,.string tx,.slice ra rn rc] 77)).alloc (.cells #[.int .i64 0,.int .i64 0,.int .i64 0,.int .i64 0,.int .i64 0,.slice none 0 0,.slice none 0 0,.slice none 0 0,.string ⟨#[]⟩,.int .i64 0,.string ⟨#[]⟩,.string ⟨#[]⟩] 30):=⟨_,rfl⟩
 have hB:Below w.heap.size w W:=by rw[hW];exact((Below.refl _ _).alloc (Nat.le_refl _) _).alloc (by simp) _
 have hzW:W.heap.size=w.heap.size+2:=by rw[hW];simp
 have xE:CellsAt W w.heap.size [.int .i64 kd,.string s,.string nm,.int .i64 num,.string tx,.slice ra rn rc]:=by
  have h1:=CellsAt.new w [.int .i64 kd,.string s,.string nm,.int .i64 num,.string tx,.slice ra rn rc] 77;rw[hW];exact CellsAt.below h1 ((Below.refl _ _).alloc (Nat.le_refl _) _)
 have zR:CellsAt W (w.heap.size+1) z12:=by
  have h1:=CellsAt.new (w.alloc (.cells #[.int .i64 kd,.string s,.string nm,.int .i64 num,.string tx,.slice ra rn rc] 77)) z12 30;rw[World.size_alloc] at h1;rw[hW];exact h1
 have hRb:W.heap[w.heap.size+1]?=some (.cells #[.int .i64 0,.int .i64 0,.int .i64 0,.int .i64 0,.int .i64 0,.slice none 0 0,.slice none 0 0,.slice none 0 0,.string ⟨#[]⟩,.int .i64 0,.string ⟨#[]⟩,.string ⟨#[]⟩] 30):=by
  have:=heap_alloc_new (w.alloc (.cells #[.int .i64 kd,.string s,.string nm,.int .i64 num,.string tx,.slice ra rn rc] 77)) (.cells #[.int .i64 0,.int .i64 0,.int .i64 0,.int .i64 0,.int .i64 0,.slice none 0 0,.slice none 0 0,.slice none 0 0,.string ⟨#[]⟩,.int .i64 0,.string ⟨#[]⟩,.string ⟨#[]⟩] 30);rw[World.size_alloc] at this;rw[hW];exact this
 obtain⟨e0,_⟩:=xE 0 _ rfl;obtain⟨e1,_⟩:=xE 1 _ rfl;obtain⟨e2,_⟩:=xE 2 _ rfl;obtain⟨e3,_⟩:=xE 3 _ rfl;obtain⟨e4,_⟩:=xE 4 _ rfl;obtain⟨e5,_⟩:=xE 5 _ rfl;have HC:Hid _:=h W hB;have HW:Hid _:=hW
 have HZ:Hid (CellsAt W (w.heap.size+1) z12/\W.heap[w.heap.size+1]?=some (.cells #[.int .i64 0,.int .i64 0,.int .i64 0,.int .i64 0,.int .i64 0,.slice none 0 0,.slice none 0 0,.slice none 0 0,.string ⟨#[]⟩,.int .i64 0,.string ⟨#[]⟩,.string ⟨#[]⟩] 30)/\Below w.heap.size w W/\W.heap.size=w.heap.size+2):=⟨zR,hRb,hB,hzW⟩;have HV:Hid (∀b∈V,b<w.heap.size):=hV;have HSt:Hid _:=hst
 clear hW zR hzW xE h hRb hB hV hst
 go_enter_defers Tryz.func94,Tryz.ntmps94
 go_upto_region 1 with fail;rw[←HW.out];clear HW;go_wp2_with fail;refine Calls.mono HC.out ?_;intro e w1 hch;have zz:=HZ.out.2.2.2;have hnv:w.heap.size+1∉V:=fun h=>by have:=HV.out _ h;omega
 obtain⟨c,a,b,hno,rfl,ht1⟩|⟨sm,le,rfl,hy,ht1⟩:=hch
 ·have zR1:CellsAt w1 (w.heap.size+1) z12:=CellsAt.same HZ.out.1 (ht1.block _ (by omega) hnv)
  clear e0 e1 e2 e3 e4 e5 HC;refine leaves_cons (f:=138) (args:= #[.pointer (some ⟨w.heap.size+1,0,none⟩)]) (by simp) (by simp[go_sem]) ?_;refine(catch_panic (w.heap.size+1) c a b w1 zR1).mono ?_;rintro e u' w'' ⟨rfl,rfl,hc,ht⟩;have y0:=(hc 0 _ rfl).1;have y1:=(hc 1 _ rfl).1;have y2:=(hc 2 _ rfl).1;have y3:=(hc 3 _ rfl).1;have y4:=(hc 4 _ rfl).1;have y5:=(hc 5 _ rfl).1;have y6:=(hc 6 _ rfl).1
  have y7:=(hc 7 _ rfl).1;have y8:=(hc 8 _ rfl).1;have y9:=(hc 9 _ rfl).1;have y10:=(hc 10 _ rfl).1;have y11:=(hc 11 _ rfl).1;have HF:Hid (Rn c a b/\Tn V w w''):=⟨hno,Tn.fresh ((Tn.of HZ.out.2.2.1).trans ht1) ht (by omega)⟩;clear hc ht hno;simp[Leaves,settle,results,Tryz.results94,go_sem,y0,y1,y2,y3,y4,y5,y6,y7,y8,y9,y10,y11];exact HQn.out c a b _ HF.out.1 HF.out.2
 ·have zR1:CellsAt w1 (w.heap.size+1) z12:=CellsAt.same HZ.out.1 (ht1.block _ (by omega) hnv)
  have hR1:w1.heap[w.heap.size+1]?=some (.cells #[.int .i64 0,.int .i64 0,.int .i64 0,.int .i64 0,.int .i64 0,.slice none 0 0,.slice none 0 0,.slice none 0 0,.string ⟨#[]⟩,.int .i64 0,.string ⟨#[]⟩,.string ⟨#[]⟩] 30):=(ht1.block _ (by omega) hnv).trans HZ.out.2.1;have H1:Hid _:=And.intro hy (And.intro ht1 hR1)
  obtain⟨⟨y0,q0⟩,⟨y1,q1⟩,⟨y2,q2⟩,⟨y3,q3⟩,⟨y4,q4⟩,⟨y5,q5⟩,⟨y6,q6⟩,⟨y7,q7⟩,⟨y8,q8⟩,⟨y9,q9⟩,⟨y10,q10⟩,y11,q11⟩:=z12at zR1;clear hy ht1 zR1 hR1 e0 e1 e2 e3 e4 e5 HC zz hnv;go_wp2;refine leaves_cons (f:=138) (args:= #[.pointer (some ⟨w.heap.size+1,0,none⟩)]) (by simp) (by simp[go_sem]) ?_;refine(catch_idle ⟨w.heap.size+1,0,none⟩ _).mono ?_;rintro e u' w'' ⟨rfl,rfl,rfl⟩
  have HT:Hid _:=tn12 w1 (w.heap.size+1) (.int .i64 0) (.int .i64 0) (.int .i64 0) (.int .i64 0) (.int .i64 0) (.slice none 0 0) (.slice none 0 0) (.slice none 0 0) (.string sm) (.int .i64 le) (.string ⟨#[]⟩) (.string ⟨#[]⟩);have HF:Hid _:=And.intro (HSt.out sm le _ _ _ _ H1.out.1 H1.out.2.2 (by omega) HT.out) (Tn.fresh ((Tn.of HZ.out.2.2.1).trans H1.out.2.1) HT.out (by omega))
  simp[Leaves,settle,results,Tryz.results94,go_sem,y0,y1,y2,y3,y4,y5,y6,y7,y8,y9,y10,y11];exact HQy.out sm le _ HF.out.1 HF.out.2
end Go.Proofs.YtpekbmegopfhfaaGreatDoor
namespace Go.Proofs.YtpekbmegopfhfaaGreatDoor
open Go.ChangeShapes Go.WideShapes Go.ChangeAt Go.RowKit
theorem pin_yes (base d m:Nat) (O P L:Value) (wd now given births:Int) (ks:List Kd) (ps:List Pd) (ls:List Ld) (n s:ByteArray) (w:World) (h:DU w base d m O P L wd now given births ks ps ls) (hsz:∀k∈ks,(k.sum.size:Int)=wd) (hths:There ks s) (hl:ps.length<=100) (hsort:ps.Pairwise (fun a b=>less a.name b.name=true)) (hroom:(∃x∈ps,x.name=n)∨ps.length<100):
 Calls Tryz.prog 170 #[.pointer (some ⟨d,0,none⟩),.string n,.string s] w fun e w'=>e=.returned (.tuple #[])/\∃P',DU w' base d m O P' L wd now given births ks (pinP ps n s) ls/\Tn (d::P.ownBlock.toList) w w':=by
 by_cases hth:∃x∈ps,x.name=n
 ·exact pin_old base d m O P L wd now given births ks ps ls n s w h hsz hths (by omega) hsort hth
 ·exact pin_new base d m O P L wd now given births ks ps ls n s w h hsz hths (by rcases hroom with h|h;exact absurd h hth;exact h) hsort hth
set_option maxRecDepth 20000 in
set_option maxHeartbeats 4000000 in
theorem changePin_yes (base d m:Nat) (O P L:Value) (wd now given births:Int) (ks:List Kd) (ps:List Pd) (ls:List Ld) (s nm tx:ByteArray) (num:Int) (ra:Option Addr) (rn rc:Nat) (w:World) (h:DU w base d m O P L wd now given births ks ps ls) (hsz:∀k∈ks,(k.sum.size:Int)=wd) (hths:There ks s) (hl:ps.length<=100) (hsort:ps.Pairwise (fun a b=>less a.name b.name=true)) (hroom:(∃x∈ps,x.name=nm)∨ps.length<100):
 Calls Tryz.prog 139 #[.pointer (some ⟨d,0,none⟩),.agg #[.int .i64 2,.string s,.string nm,.int .i64 num,.string tx,.slice ra rn rc]] w fun e w'=>e=.returned (.agg z12.toArray)/\∃P',DU w' base d m O P' L wd now given births ks (pinP ps nm s) ls/\Tn (d::P.ownBlock.toList) w w':=by
 obtain⟨W,hW⟩:∃W,W=((w.alloc (.cells #[.int .i64 2,.string s,.string nm,.int .i64 num,.string tx,.slice ra rn rc] 77)).alloc (.cells #[.int .i64 0,.int .i64 0,.int .i64 0,.int .i64 0,.int .i64 0,.slice none 0 0,.slice none 0 0,.slice none 0 0,.string ⟨#[]⟩,.int .i64 0,.string ⟨#[]⟩,.string ⟨#[]⟩] 30)).alloc (.cells #[.int .i64 0,.int .i64 0,.int .i64 0,.int .i64 0,.int .i64 0,.slice none 0 0,.slice none 0 0,.slice none 0 0,.string ⟨#[]⟩,.int .i64 0,.string ⟨#[]⟩,.string ⟨#[]⟩] 30):=⟨_,rfl⟩
 have hB:Below w.heap.size w W:=by rw[hW];exact(((Below.refl _ _).alloc (Nat.le_refl _) _).alloc (by simp) _).alloc (by simp;omega) _
 have hzW:W.heap.size=w.heap.size+3:=by rw[hW];simp
 have xE:CellsAt W w.heap.size [.int .i64 2,.string s,.string nm,.int .i64 num,.string tx,.slice ra rn rc]:=by
  have h1:=CellsAt.new w [.int .i64 2,.string s,.string nm,.int .i64 num,.string tx,.slice ra rn rc] 77;rw[hW];exact CellsAt.below (CellsAt.below h1 ((Below.refl _ _).alloc (Nat.le_refl _) _)) ((Below.refl _ _).alloc (Nat.le_refl _) _)
 have zR:CellsAt W (w.heap.size+1) z12:=by
  have h1:=CellsAt.new (w.alloc (.cells #[.int .i64 2,.string s,.string nm,.int .i64 num,.string tx,.slice ra rn rc] 77)) z12 30;rw[World.size_alloc] at h1;rw[hW];exact CellsAt.below (v:=.int .i64 0) h1 ((Below.refl _ _).alloc (Nat.le_refl _) _)
 have zO:CellsAt W (w.heap.size+2) z12:=by
  have h1:=CellsAt.new ((w.alloc (.cells #[.int .i64 2,.string s,.string nm,.int .i64 num,.string tx,.slice ra rn rc] 77)).alloc (.cells #[.int .i64 0,.int .i64 0,.int .i64 0,.int .i64 0,.int .i64 0,.slice none 0 0,.slice none 0 0,.slice none 0 0,.string ⟨#[]⟩,.int .i64 0,.string ⟨#[]⟩,.string ⟨#[]⟩] 30)) z12 30;rw[World.size_alloc,World.size_alloc] at h1;rw[hW];exact h1
 have hRb:W.heap[w.heap.size+1]?=some (.cells #[.int .i64 0,.int .i64 0,.int .i64 0,.int .i64 0,.int .i64 0,.slice none 0 0,.slice none 0 0,.slice none 0 0,.string ⟨#[]⟩,.int .i64 0,.string ⟨#[]⟩,.string ⟨#[]⟩] 30):=by
  rw[hW,Below.heap_alloc _ _ _ (by simp)];have:=heap_alloc_new (w.alloc (.cells #[.int .i64 2,.string s,.string nm,.int .i64 num,.string tx,.slice ra rn rc] 77)) (.cells #[.int .i64 0,.int .i64 0,.int .i64 0,.int .i64 0,.int .i64 0,.slice none 0 0,.slice none 0 0,.slice none 0 0,.string ⟨#[]⟩,.int .i64 0,.string ⟨#[]⟩,.string ⟨#[]⟩] 30);rw[World.size_alloc] at this;exact this
 have hD:=h.below hB;have hdl:=h.dr.box.lt;have hlt:∀b∈d::P.ownBlock.toList,b<w.heap.size:=fun b hb=>h.dr.lts b (by unfold vB;simp at hb ⊢;rcases hb with rfl|hb<;>simp[*]);have HC:Hid _:=pin_yes base d m O P L wd now given births ks ps ls nm s W hD hsz hths hl hsort hroom;have HW:Hid _:=hW
 have HZ:Hid (CellsAt W (w.heap.size+1) z12/\CellsAt W (w.heap.size+2) z12/\W.heap[w.heap.size+1]?=some (.cells #[.int .i64 0,.int .i64 0,.int .i64 0,.int .i64 0,.int .i64 0,.slice none 0 0,.slice none 0 0,.slice none 0 0,.string ⟨#[]⟩,.int .i64 0,.string ⟨#[]⟩,.string ⟨#[]⟩] 30)/\Below w.heap.size w W/\W.heap.size=w.heap.size+3/\base<=w.heap.size):=⟨zR,zO,hRb,hB,hzW,h.lo⟩
 have HLt:Hid (∀b∈d::P.ownBlock.toList,b<w.heap.size):=hlt;obtain⟨e0,_⟩:=xE 0 _ rfl;obtain⟨e1,_⟩:=xE 1 _ rfl;obtain⟨e2,_⟩:=xE 2 _ rfl;obtain⟨e3,_⟩:=xE 3 _ rfl;clear hW h hD zR zO hRb hB hzW xE hlt;go_enter Tryz.func139,Tryz.ntmps139;go_upto_region 2 with fail;rw[←HW.out];clear HW;go_wp2_with fail;refine Calls.mono HC.out ?_;rintro e w1 ⟨rfl,V,hd1,ht1⟩;have zz:=HZ.out.2.2.2.2.1
 have zR1:CellsAt w1 (w.heap.size+1) z12:=CellsAt.same HZ.out.1 (ht1.block _ (by omega) (fun h=>by have:=HLt.out _ h;omega));have zO1:CellsAt w1 (w.heap.size+2) z12:=CellsAt.same HZ.out.2.1 (ht1.block _ (by omega) (fun h=>by have:=HLt.out _ h;omega))
 have hR1:w1.heap[w.heap.size+1]?=some (.cells #[.int .i64 0,.int .i64 0,.int .i64 0,.int .i64 0,.int .i64 0,.slice none 0 0,.slice none 0 0,.slice none 0 0,.string ⟨#[]⟩,.int .i64 0,.string ⟨#[]⟩,.string ⟨#[]⟩] 30):=(ht1.block _ (by omega) (fun h=>by have:=HLt.out _ h;omega)).trans HZ.out.2.2.1;have HD1:Hid _:=And.intro hd1 (And.intro ht1 (hd1.notin hR1 (by omega)))
 obtain⟨⟨y0,q0⟩,⟨y1,q1⟩,⟨y2,q2⟩,⟨y3,q3⟩,⟨y4,q4⟩,⟨y5,q5⟩,⟨y6,q6⟩,⟨y7,q7⟩,⟨y8,q8⟩,⟨y9,q9⟩,⟨y10,q10⟩,y11,q11⟩:=z12at zR1;obtain⟨⟨v0,_⟩,⟨v1,_⟩,⟨v2,_⟩,⟨v3,_⟩,⟨v4,_⟩,⟨v5,_⟩,⟨v6,_⟩,⟨v7,_⟩,⟨v8,_⟩,⟨v9,_⟩,⟨v10,_⟩,v11,_⟩:=z12at zO1;clear hd1 ht1 zR1 zO1 hR1 e0 e1 e2 e3 HC zz;go_wp2
 refine bodyPost_ret (v:=.agg z12.toArray) (by simp[results,Tryz.results139,go_sem,y0,y1,y2,y3,y4,y5,y6,y7,y8,y9,y10,y11,z12]) rfl ⟨rfl,V,HD1.out.1.turn (tn12 w1 (w.heap.size+1) _ _ _ _ _ _ _ _ _ _ _ _) (by intro b hb;simp at hb;subst hb;exact⟨by have:=HZ.out.2.2.2.2.2;omega,HD1.out.2.2⟩),Tn.fresh ((Tn.of HZ.out.2.2.2.1).trans HD1.out.2.1) (tn12 w1 (w.heap.size+1) _ _ _ _ _ _ _ _ _ _ _ _) (by omega)⟩
set_option maxRecDepth 20000 in
set_option maxHeartbeats 4000000 in
theorem changeDropV_yes (base d m:Nat) (O P L:Value) (wd now given births:Int) (ks:List Kd) (ps:List Pd) (ls:List Ld) (s nm tx:ByteArray) (num:Int) (ra:Option Addr) (rn rc:Nat) (w:World) (hd:Dr w base d m O P L wd now given births ks ps ls) (hok:KsOk wd ks) (hp:ps.length<=100) (hl:ls.length<=200) (hth:There ks s) (hfree:¬(((∃p∈ps,p.sum=s)∨∃l∈ls,l.sum=s)∨∃k∈ks,s∈k.refs)):
 Calls Tryz.prog 139 #[.pointer (some ⟨d,0,none⟩),.agg #[.int .i64 7,.string s,.string nm,.int .i64 num,.string tx,.slice ra rn rc]] w fun e w'=>e=.returned (.agg z12.toArray)/\∃O',Dr w' base d m O' P L wd now given births (dropK ks s) ps ls/\O'.ownBlock=O.ownBlock/\Tn (vB d m O P L) w w':=by
 obtain⟨W,hW⟩:∃W,W=((w.alloc (.cells #[.int .i64 7,.string s,.string nm,.int .i64 num,.string tx,.slice ra rn rc] 77)).alloc (.cells #[.int .i64 0,.int .i64 0,.int .i64 0,.int .i64 0,.int .i64 0,.slice none 0 0,.slice none 0 0,.slice none 0 0,.string ⟨#[]⟩,.int .i64 0,.string ⟨#[]⟩,.string ⟨#[]⟩] 30)).alloc (.cells #[.int .i64 0,.int .i64 0,.int .i64 0,.int .i64 0,.int .i64 0,.slice none 0 0,.slice none 0 0,.slice none 0 0,.string ⟨#[]⟩,.int .i64 0,.string ⟨#[]⟩,.string ⟨#[]⟩] 30):=⟨_,rfl⟩
 have hB:Below w.heap.size w W:=by rw[hW];exact(((Below.refl _ _).alloc (Nat.le_refl _) _).alloc (by simp) _).alloc (by simp;omega) _
 have hzW:W.heap.size=w.heap.size+3:=by rw[hW];simp
 have e0:W.cell? ⟨w.heap.size,0,none⟩=some (.int .i64 7):=by rw[hW];simp[go_sem]
 have e1:W.cell? ⟨w.heap.size,1,none⟩=some (.string s):=by rw[hW];simp[go_sem]
 have zR:CellsAt W (w.heap.size+1) z12:=by
  have h1:=CellsAt.new (w.alloc (.cells #[.int .i64 7,.string s,.string nm,.int .i64 num,.string tx,.slice ra rn rc] 77)) z12 30;rw[World.size_alloc] at h1;rw[hW];exact CellsAt.below (v:=.int .i64 0) h1 ((Below.refl _ _).alloc (Nat.le_refl _) _)
 have zO:CellsAt W (w.heap.size+2) z12:=by
  have h1:=CellsAt.new ((w.alloc (.cells #[.int .i64 7,.string s,.string nm,.int .i64 num,.string tx,.slice ra rn rc] 77)).alloc (.cells z12.toArray 30)) z12 30;rw[World.size_alloc,World.size_alloc] at h1;rw[hW];exact h1
 have HD:Hid _:=hd.below hB;have HV:Hid (∀b∈vB d m O P L,b<w.heap.size):=by
  intro b hb;unfold vB at hb;simp only[List.mem_cons,List.mem_append,Option.mem_toList] at hb;rcases hb with rfl|rfl|hb|hb|hb
  ·exact hd.box.lt
  ·exact(hd.map.choose_spec.choose_spec.2.1).lt
  ·exact(own_lt hd.ord hb).2
  ·exact(own_lt hd.pin hb).2
  ·exact(own_lt hd.lea hb).2
 have HR:Hid (W.heap[w.heap.size+1]?=some (.cells #[.int .i64 0,.int .i64 0,.int .i64 0,.int .i64 0,.int .i64 0,.slice none 0 0,.slice none 0 0,.slice none 0 0,.string ⟨#[]⟩,.int .i64 0,.string ⟨#[]⟩,.string ⟨#[]⟩] 30)):=by
  show _=_;rw[hW,Below.heap_alloc _ _ _ (by simp)];have:=heap_alloc_new (w.alloc (.cells #[.int .i64 7,.string s,.string nm,.int .i64 num,.string tx,.slice ra rn rc] 77)) (.cells #[.int .i64 0,.int .i64 0,.int .i64 0,.int .i64 0,.int .i64 0,.slice none 0 0,.slice none 0 0,.slice none 0 0,.string ⟨#[]⟩,.int .i64 0,.string ⟨#[]⟩,.string ⟨#[]⟩] 30);rw[World.size_alloc] at this;exact this
 have hbase:base<=w.heap.size:=by have:=hd.bd;have:=hd.box.lt;omega
 have HW:Hid _:=hW;have HZ:Hid _:=And.intro zR zO;have HzW:Hid _:=hzW;clear hW hd zR zO hzW;go_enter Tryz.func139,Tryz.ntmps139;go_upto_region 2 with fail;rw[←HW.out];clear HW;go_wp2_with fail;refine(drop_yes base d m O P L wd now given births ks ps ls s W HD.out hok hp hl hth hfree).mono ?_;rintro e w1 ⟨rfl,O',hd1,hO,ht1⟩
 have zR1:CellsAt w1 (w.heap.size+1) z12:=CellsAt.same HZ.out.1 (ht1.block _ (by have:=HzW.out;omega) (fun h=>by have:=HV.out _ h;omega));have zO1:CellsAt w1 (w.heap.size+2) z12:=CellsAt.same HZ.out.2 (ht1.block _ (by have:=HzW.out;omega) (fun h=>by have:=HV.out _ h;omega));obtain⟨⟨y0,q0⟩,⟨y1,q1⟩,⟨y2,q2⟩,⟨y3,q3⟩,⟨y4,q4⟩,⟨y5,q5⟩,⟨y6,q6⟩,⟨y7,q7⟩,⟨y8,q8⟩,⟨y9,q9⟩,⟨y10,q10⟩,y11,q11⟩:=z12at zR1
 obtain⟨⟨v0,_⟩,⟨v1,_⟩,⟨v2,_⟩,⟨v3,_⟩,⟨v4,_⟩,⟨v5,_⟩,⟨v6,_⟩,⟨v7,_⟩,⟨v8,_⟩,⟨v9,_⟩,⟨v10,_⟩,v11,_⟩:=z12at zO1;have H1:Hid _:=And.intro hd1 (And.intro hO ht1);clear hd1 hO ht1 zR1 zO1 e0 e1 HD;go_wp2;have hRv:w.heap.size+1∉vB d m O' P L:=fun h=>by
  have:w.heap.size+1∈vB d m O P L:=by
   unfold vB at h ⊢;rw[H1.out.2.1] at h;exact h
  have:=HV.out _ this;omega
 have hRs:∀cur fz,w1.heap[w.heap.size+1]?≠some (.cells cur 9 fz):=fun cur fz e=>by
  have h1:=H1.out.2.2.block (w.heap.size+1) (by have:=HzW.out;omega) (fun h=>by have:=HV.out _ h;omega);rw[e,HR.out] at h1;simp at h1
 refine bodyPost_ret (v:=.agg z12.toArray) (by simp[results,Tryz.results139,go_sem,y0,y1,y2,y3,y4,y5,y6,y7,y8,y9,y10,y11,z12]) rfl ⟨rfl,O',Dr.apart H1.out.1 (tn12 w1 _ _ _ _ _ _ _ _ _ _ _ _ _) (by omega) hRv hRs,H1.out.2.1,Tn.fresh ((Tn.of hB).trans H1.out.2.2) (tn12 w1 _ _ _ _ _ _ _ _ _ _ _ _ _) (by omega)⟩
set_option maxRecDepth 20000 in
set_option maxHeartbeats 4000000 in
theorem changeDropV_held (base d m:Nat) (O P L:Value) (wd now given births:Int) (ks:List Kd) (ps:List Pd) (ls:List Ld) (s nm tx:ByteArray) (num:Int) (ra:Option Addr) (rn rc:Nat) (w:World) (hd:Dr w base d m O P L wd now given births ks ps ls) (hok:KsOk wd ks) (hp:ps.length<=100) (hl:ls.length<=200) (hth:There ks s) (huse:((∃p∈ps,p.sum=s)∨∃l∈ls,l.sum=s)∨∃k∈ks,s∈k.refs):
 Calls Tryz.prog 139 #[.pointer (some ⟨d,0,none⟩),.agg #[.int .i64 7,.string s,.string nm,.int .i64 num,.string tx,.slice ra rn rc]] w fun e w'=>e=.panicked [{v:=refV 6 ⟨#[]⟩ ⟨#[]⟩,recovered:=false}]/\Below w.heap.size w w':=by
 obtain⟨W,hW⟩:∃W,W=((w.alloc (.cells #[.int .i64 7,.string s,.string nm,.int .i64 num,.string tx,.slice ra rn rc] 77)).alloc (.cells #[.int .i64 0,.int .i64 0,.int .i64 0,.int .i64 0,.int .i64 0,.slice none 0 0,.slice none 0 0,.slice none 0 0,.string ⟨#[]⟩,.int .i64 0,.string ⟨#[]⟩,.string ⟨#[]⟩] 30)).alloc (.cells #[.int .i64 0,.int .i64 0,.int .i64 0,.int .i64 0,.int .i64 0,.slice none 0 0,.slice none 0 0,.slice none 0 0,.string ⟨#[]⟩,.int .i64 0,.string ⟨#[]⟩,.string ⟨#[]⟩] 30):=⟨_,rfl⟩
 have hB:Below w.heap.size w W:=by rw[hW];exact(((Below.refl _ _).alloc (Nat.le_refl _) _).alloc (by simp) _).alloc (by simp;omega) _
 have e0:W.cell? ⟨w.heap.size,0,none⟩=some (.int .i64 7):=by rw[hW];simp[go_sem]
 have e1:W.cell? ⟨w.heap.size,1,none⟩=some (.string s):=by rw[hW];simp[go_sem]
 have HD:Hid _:=hd.below hB;have HW:Hid _:=hW;clear hW hd;go_enter Tryz.func139,Tryz.ntmps139;go_upto_region 2 with fail;rw[←HW.out];clear HW;go_wp2_with fail;refine(drop_held base d m O P L wd now given births ks ps ls s W HD.out hok hp hl hth huse).mono ?_;rintro e w1 ⟨rfl,hb1⟩;exact⟨rfl,rfl,hB.trans (hb1.mono hB.size)⟩
set_option maxHeartbeats 1000000 in
theorem drop_missing (base d m:Nat) (O P L:Value) (wd now given births:Int) (ks:List Kd) (ps:List Pd) (ls:List Ld) (s:ByteArray) (w:World) (hd:Dr w base d m O P L wd now given births ks ps ls) (hsz:∀k∈ks,(k.sum.size:Int)=wd) (hth:¬There ks s):
 Calls Tryz.prog 174 #[.pointer (some ⟨d,0,none⟩),.string s] w fun e w'=>e=.panicked [{v:=refV 2 ⟨#[]⟩ ⟨#[]⟩,recovered:=false}]/\Below w.heap.size w w':=by
 have HN:Hid _:=need_no base d m O P L wd now given births ks ps ls s w hd hsz hth;clear hd hsz hth;go_enter Tryz.func174,Tryz.ntmps174;go_wp2_with fail;refine Calls.mono HN.out ?_;rintro e w1 ⟨rfl,hb1⟩;go_wp2;exact⟨rfl,rfl,hb1⟩
set_option maxRecDepth 20000 in
set_option maxHeartbeats 4000000 in
theorem changeDropV_missing (base d m:Nat) (O P L:Value) (wd now given births:Int) (ks:List Kd) (ps:List Pd) (ls:List Ld) (s nm tx:ByteArray) (num:Int) (ra:Option Addr) (rn rc:Nat) (w:World) (hd:Dr w base d m O P L wd now given births ks ps ls) (hsz:∀k∈ks,(k.sum.size:Int)=wd) (hth:¬There ks s):
 Calls Tryz.prog 139 #[.pointer (some ⟨d,0,none⟩),.agg #[.int .i64 7,.string s,.string nm,.int .i64 num,.string tx,.slice ra rn rc]] w fun e w'=>e=.panicked [{v:=refV 2 ⟨#[]⟩ ⟨#[]⟩,recovered:=false}]/\Below w.heap.size w w':=by
 obtain⟨W,hW⟩:∃W,W=((w.alloc (.cells #[.int .i64 7,.string s,.string nm,.int .i64 num,.string tx,.slice ra rn rc] 77)).alloc (.cells #[.int .i64 0,.int .i64 0,.int .i64 0,.int .i64 0,.int .i64 0,.slice none 0 0,.slice none 0 0,.slice none 0 0,.string ⟨#[]⟩,.int .i64 0,.string ⟨#[]⟩,.string ⟨#[]⟩] 30)).alloc (.cells #[.int .i64 0,.int .i64 0,.int .i64 0,.int .i64 0,.int .i64 0,.slice none 0 0,.slice none 0 0,.slice none 0 0,.string ⟨#[]⟩,.int .i64 0,.string ⟨#[]⟩,.string ⟨#[]⟩] 30):=⟨_,rfl⟩
 have hB:Below w.heap.size w W:=by rw[hW];exact(((Below.refl _ _).alloc (Nat.le_refl _) _).alloc (by simp) _).alloc (by simp;omega) _
 have e0:W.cell? ⟨w.heap.size,0,none⟩=some (.int .i64 7):=by rw[hW];simp[go_sem]
 have e1:W.cell? ⟨w.heap.size,1,none⟩=some (.string s):=by rw[hW];simp[go_sem]
 have HD:Hid _:=hd.below hB;have HW:Hid _:=hW;clear hW hd;go_enter Tryz.func139,Tryz.ntmps139;go_upto_region 2 with fail;rw[←HW.out];clear HW;go_wp2_with fail;refine(drop_missing base d m O P L wd now given births ks ps ls s W HD.out hsz hth).mono ?_;rintro e w1 ⟨rfl,hb1⟩;exact⟨rfl,rfl,hB.trans (hb1.mono hB.size)⟩
end Go.Proofs.YtpekbmegopfhfaaGreatDoor
namespace Go.Proofs.YtpekbmegopfhfaaGreatDoor
open Go.ChangeShapes Go.WideShapes Go.ChangeAt Go.RowKit
theorem rises {xs:List ByteArray} (h:∀(j:Nat) p q,xs[j]?=some p->xs[j+1]?=some q->less p q=true):xs.Pairwise (fun a b=>less a b=true):=by
 have hd:∀(d i:Nat) u v,xs[i]?=some u->xs[i+d+1]?=some v->less u v=true:=by
  intro d;induction d with
  |zero=>intro i u v hu hv;exact h i u v hu hv
  |succ d ih=>
   intro i u v hu hv;have hlt:=(List.getElem?_eq_some_iff.1 hv).1;have hm:xs[i+d+1]?=some xs[i+d+1]:=List.getElem?_eq_getElem (by omega);exact less_trans (ih i u _ hu hm) (h _ _ _ hm (by rw[show i+d+1+1=i+(d+1)+1 by omega];exact hv))
 rw[List.pairwise_iff_getElem];intro i j hi hj hij;exact hd (j -i -1) i _ _ (List.getElem?_eq_getElem hi) (by rw[show i+(j -i -1)+1=j by omega];exact List.getElem?_eq_getElem hj)
theorem rises_nodup {xs:List ByteArray} (h:xs.Pairwise (fun a b=>less a b=true)):xs.Nodup:=by
 refine List.Pairwise.imp ?_ h;intro a b hab e;rw[e,less_irrefl] at hab;cases hab
theorem refs_rise {wd:Int} {ss:List ByteArray} (h:refsOk wd ss=true):ss.Pairwise (fun a b=>less a b=true):=by
 refine rises (fun j p q hp hq=> ?_);have hl:=(List.getElem?_eq_some_iff.1 hq).1;unfold refsOk at h;rw[List.all_eq_true] at h;have:=h (j+1) (by simpa using hl);rw[refAt_succ hq hp] at this;simp at this;exact this.2
end Go.Proofs.YtpekbmegopfhfaaGreatDoor
namespace Go.Proofs.YtpekbmegopfhfaaGreatDoor
open Go.ChangeShapes Go.WideShapes Go.ChangeAt Go.RowKit
structure Rs where
 sm:ByteArray
 le:Int
 now:Int
 given:Int
 births:Int
 ks:List Kd
 ps:List Pd
 ls:List Ld
def AYes (wd now given births:Int) (ks:List Kd) (ps:List Pd) (ls:List Ld) (kd:Int) (s nm:ByteArray) (num:Int) (text:ByteArray) (refs:List ByteArray) (r:Rs):Prop:=
 (kd=1/\(∀r∈refs,There ks r)/\ls.length<200/\given<1000000000/\∃ks1 births1,PutYes wd births ks text refs ks1 births1/\r=⟨sumT text refs wd,given+1,now,given+1,births1,ks1,ps,ls++[⟨given+1,sumT text refs wd,now+num⟩]⟩)∨
 (kd=2/\There ks s/\((∃x∈ps,x.name=nm)∨ps.length<100)/\r=⟨⟨#[]⟩,0,now,given,births,ks,pinP ps nm s,ls⟩)∨
 (kd=3/\(∃x∈ps,x.name=nm)/\r=⟨⟨#[]⟩,0,now,given,births,ks,unpinP ps nm,ls⟩)∨
 (kd=4/\There ks s/\ls.length<200/\given<1000000000/\r=⟨⟨#[]⟩,given+1,now,given+1,births,ks,ps,ls++[⟨given+1,s,now+num⟩]⟩)∨
 (kd=5/\(∃x∈ls,x.num=num)/\r=⟨⟨#[]⟩,0,now,given,births,ks,ps,giveL ls num⟩)∨
 (kd=6/\now+num<=1000000000/\r=⟨⟨#[]⟩,0,now+num,given,births,ks,ps,waitL ls (now+num)⟩)∨
 (kd=7/\There ks s/\¬InUse ps ls ks s/\r=⟨⟨#[]⟩,0,now,given,births,dropK ks s,ps,ls⟩)
def ANo (wd now given births:Int) (ks:List Kd) (ps:List Pd) (ls:List Ld) (kd:Int) (s nm:ByteArray) (num:Int) (text:ByteArray) (refs:List ByteArray) (c:Int) (a b:ByteArray):Prop:=
 (kd=1/\PutNo wd given births ks ls text refs c a b)∨
 (a=⟨#[]⟩/\b=⟨#[]⟩/\(
   (kd=2/\((¬There ks s/\c=2)∨(There ks s/\(¬∃x∈ps,x.name=nm)/\ps.length=100/\c=4)))∨
   (kd=3/\(¬∃x∈ps,x.name=nm)/\c=5)∨
   (kd=4/\((¬There ks s/\c=2)∨(There ks s/\(ls.length=200∨given=1000000000)/\c=4)))∨
   (kd=5/\(¬∃x∈ls,x.num=num)/\c=5)∨
   (kd=6/\1000000000<now+num/\c=4)∨
   (kd=7/\((¬There ks s/\c=2)∨(There ks s/\InUse ps ls ks s/\c=6)))))
structure AOk (wd now given births:Int) (ks:List Kd) (ps:List Pd) (ls:List Ld) (kd num:Int) (text:ByteArray) (refs:List ByteArray):Prop where
 kso:KsOk wd ks
 w1:1<=wd
 np:ps.length<=100
 nl:ls.length<=200
 psort:ps.Pairwise (fun a b=>less a.name b.name=true)
 lsort:ls.Pairwise (fun a b=>a.num<b.num)
 now0:0<=now
 now1:now<=1000000000
 given0:0<=given
 given1:given<=1000000000
 births0:0<=births
 births1:births<=1000000000
 kd1:1<=kd
 kd7:kd<=7
 num0:0<=num
 num1:num<=1000000000
 txt:∀k∈ks,k.text.size<=maxLen
 txl:text.size<=maxLen
 rfn:refs.length<=1000
theorem sumT_size (text:ByteArray) (refs:List ByteArray) (wd:Int) (h:1<=wd):((sumT text refs wd).size:Int)=wd:=sumOf_size ⟨⟨#[]⟩,0,text,refs⟩ wd h
def Drd (base d m:Nat) (wd:Int) (r:Rs) (w:World):Prop:=∃O P L,Dr w base d m O P L wd r.now r.given r.births r.ks r.ps r.ls
theorem change_any (base d m:Nat) (O P L:Value) (wd now given births:Int) (ks:List Kd) (ps:List Pd) (ls:List Ld) (kd:Int) (s nm:ByteArray) (num:Int) (text:ByteArray) (refs:List ByteArray) (ra:Option Addr) (rc:Nat) (w:World) (h:DU w base d m O P L wd now given births ks ps ls) (ha:AOk wd now given births ks ps ls kd num text refs) (hr:RefV w base (vB d m O P L) ra refs):
 Calls Tryz.prog 139 #[.pointer (some ⟨d,0,none⟩),.agg #[.int .i64 kd,.string s,.string nm,.int .i64 num,.string text,.slice ra refs.length rc]] w fun e w'=>(∃c a b,ANo wd now given births ks ps ls kd s nm num text refs c a b/\e=.panicked [{v:=refV c a b,recovered:=false}]/\Tn (vB d m O P L) w w')∨(∃sm le,e=.returned (.agg #[.int .i64 0,.int .i64 0,.int .i64 0,.int .i64 0,.int .i64 0,.slice none 0 0,.slice none 0 0,.slice none 0 0,.string sm,.int .i64 le,.string ⟨#[]⟩,.string ⟨#[]⟩])/\(∃r,AYes wd now given births ks ps ls kd s nm num text refs r/\r.sm=sm/\r.le=le/\Drd base d m wd r w')/\Tn (vB d m O P L) w w'):=by
 have hP:∀b∈d::P.ownBlock.toList,b∈vB d m O P L:=by intro b hb;unfold vB;simp at hb ⊢;rcases hb with rfl|hb<;>simp[*]
 have hL:∀b∈d::L.ownBlock.toList,b∈vB d m O P L:=by intro b hb;unfold vB;simp at hb ⊢;rcases hb with rfl|hb<;>simp[*]
 have hD:∀X,Below w.heap.size w X->DU X base d m O P L wd now given births ks ps ls:=fun X hX=>h.below hX;obtain rfl|rfl|rfl|rfl|rfl|rfl|rfl:kd=1∨kd=2∨kd=3∨kd=4∨kd=5∨kd=6∨kd=7:=by have:=ha.kd1;have:=ha.kd7;omega
 ·refine(changePut_any base d m O P L wd now given births ks ps ls s nm text num refs ra rc w h ha.kso ha.w1 ha.txt (sumT_size _ _ _ ha.w1) ha.txl ha.rfn ha.births0 ha.births1 hr ha.nl ha.given0 ha.given1 ha.now0 ha.now1 ha.num0 ha.num1).mono ?_
  rintro e w' (⟨c,a,b,h1,rfl,ht⟩|⟨ks1,births1,hall,hy,hl,hg,rfl,O',L',hd,ht⟩)
  ·exact .inl ⟨c,a,b,.inl ⟨rfl,h1⟩,rfl,ht⟩
  ·exact .inr ⟨_,_,rfl,⟨_,.inl ⟨rfl,hall,hl,hg,ks1,births1,hy,rfl⟩,rfl,rfl,⟨_,_,_,hd.dr⟩⟩,ht⟩
 ·by_cases hth:There ks s
  ·by_cases hroom:(∃x∈ps,x.name=nm)∨ps.length<100
   ·refine(changePin_yes base d m O P L wd now given births ks ps ls s nm text num ra refs.length rc w h ha.kso.sz hth ha.np ha.psort hroom).mono ?_
    rintro e w' ⟨rfl,P',hd,ht⟩;exact .inr ⟨_,_,rfl,⟨_,.inr (.inl ⟨rfl,hth,hroom,rfl⟩),rfl,rfl,⟨_,_,_,hd.dr⟩⟩,ht.mono hP⟩
   ·have hno:¬∃x∈ps,x.name=nm:=fun e=>hroom (.inl e)
    have hfull:ps.length=100:=by have:=ha.np;have h2:¬ps.length<100:=fun e=>hroom (.inr e);omega
    refine(changePin_no d s nm text num ra refs.length rc 4 ⟨#[]⟩ ⟨#[]⟩ w (fun X hX=>pin_full base d m O P L wd now given births ks ps ls nm s X (hD X hX) ha.kso.sz hth hfull ha.psort hno)).mono ?_;rintro e w' ⟨rfl,hb⟩;exact .inl ⟨4,_,_,.inr ⟨rfl,rfl,.inl ⟨rfl,.inr ⟨hth,hno,hfull,rfl⟩⟩⟩,rfl,Tn.of hb⟩
  ·refine(changePin_no d s nm text num ra refs.length rc 2 ⟨#[]⟩ ⟨#[]⟩ w (fun X hX=>pin_missing base d m O P L wd now given births ks ps ls nm s X (hD X hX) ha.kso.sz hth)).mono ?_
   rintro e w' ⟨rfl,hb⟩;exact .inl ⟨2,_,_,.inr ⟨rfl,rfl,.inl ⟨rfl,.inl ⟨hth,rfl⟩⟩⟩,rfl,Tn.of hb⟩
 ·by_cases hth:∃x∈ps,x.name=nm
  ·refine(changeUnpin_yes base d m O P L wd now given births ks ps ls s nm text num ra refs.length rc w h (by have:=ha.np;omega) ha.psort hth).mono ?_
   rintro e w' ⟨rfl,P',hd,ht⟩;exact .inr ⟨_,_,rfl,⟨_,.inr (.inr (.inl ⟨rfl,hth,rfl⟩)),rfl,rfl,⟨_,_,_,hd.dr⟩⟩,ht.mono hP⟩
  ·refine(changeUnpin_no d s nm text num ra refs.length rc 5 ⟨#[]⟩ ⟨#[]⟩ w (fun X hX=>unpin_no base d m O P L wd now given births ks ps ls nm X (hD X hX) (by have:=ha.np;omega) ha.psort hth)).mono ?_
   rintro e w' ⟨rfl,hb⟩;exact .inl ⟨5,_,_,.inr ⟨rfl,rfl,.inr (.inl ⟨rfl,hth,rfl⟩)⟩,rfl,Tn.of hb⟩
 ·by_cases hth:There ks s
  ·by_cases hfull:ls.length=200∨given=1000000000
   ·refine(changeLease_no d s nm text num ra refs.length rc 4 ⟨#[]⟩ ⟨#[]⟩ w (fun X hX=>lend_full base d m O P L wd now given births ks ps ls s num X (hD X hX) ha.kso.sz hth hfull)).mono ?_
    rintro e w' ⟨rfl,hb⟩;exact .inl ⟨4,_,_,.inr ⟨rfl,rfl,.inr (.inr (.inl ⟨rfl,.inr ⟨hth,hfull,rfl⟩⟩))⟩,rfl,Tn.of hb⟩
   ·have hl:ls.length<200:=by have:=ha.nl;omega
    have hg:given<1000000000:=by have:=ha.given1;omega
    refine(changeLease_yes base d m O P L wd now given births ks ps ls s nm text num ra refs.length rc w h ha.kso.sz hth hl ha.given0 hg ha.now0 ha.now1 ha.num0 ha.num1).mono ?_;rintro e w' ⟨rfl,L',hd,ht⟩;exact .inr ⟨_,_,rfl,⟨_,.inr (.inr (.inr (.inl ⟨rfl,hth,hl,hg,rfl⟩))),rfl,rfl,⟨_,_,_,hd.dr⟩⟩,ht.mono hL⟩
  ·refine(changeLease_no d s nm text num ra refs.length rc 2 ⟨#[]⟩ ⟨#[]⟩ w (fun X hX=>lend_missing base d m O P L wd now given births ks ps ls s num X (hD X hX) ha.kso.sz hth)).mono ?_
   rintro e w' ⟨rfl,hb⟩;exact .inl ⟨2,_,_,.inr ⟨rfl,rfl,.inr (.inr (.inl ⟨rfl,.inl ⟨hth,rfl⟩⟩))⟩,rfl,Tn.of hb⟩
 ·by_cases hth:∃x∈ls,x.num=num
  ·refine(changeGive_yes base d m O P L wd now given births ks ps ls s nm text num ra refs.length rc w h ha.nl ha.lsort hth).mono ?_
   rintro e w' ⟨rfl,L',hd,ht⟩;exact .inr ⟨_,_,rfl,⟨_,.inr (.inr (.inr (.inr (.inl ⟨rfl,hth,rfl⟩)))),rfl,rfl,⟨_,_,_,hd.dr⟩⟩,ht.mono hL⟩
  ·refine(changeGive_no d s nm text num ra refs.length rc 5 ⟨#[]⟩ ⟨#[]⟩ w (fun X hX=>give_no base d m O P L wd now given births ks ps ls num X (hD X hX) ha.nl ha.lsort hth)).mono ?_
   rintro e w' ⟨rfl,hb⟩;exact .inl ⟨5,_,_,.inr ⟨rfl,rfl,.inr (.inr (.inr (.inl ⟨rfl,hth,rfl⟩)))⟩,rfl,Tn.of hb⟩
 ·by_cases hs:now+num<=1000000000
  ·refine(changeWait_yes base d m O P L wd now given births ks ps ls s nm text num ra refs.length rc w h ha.nl ha.now0 ha.num0 hs).mono ?_
   rintro e w' ⟨rfl,L',hd,ht⟩;exact .inr ⟨_,_,rfl,⟨_,.inr (.inr (.inr (.inr (.inr (.inl ⟨rfl,hs,rfl⟩))))),rfl,rfl,⟨_,_,_,hd.dr⟩⟩,ht.mono hL⟩
  ·refine(changeWait_no d s nm text num ra refs.length rc 4 ⟨#[]⟩ ⟨#[]⟩ w (fun X hX=>wait_full base d m O P L wd now given births ks ps ls num X (hD X hX) ha.now0 ha.now1 ha.num0 ha.num1 (by omega))).mono ?_
   rintro e w' ⟨rfl,hb⟩;exact .inl ⟨4,_,_,.inr ⟨rfl,rfl,.inr (.inr (.inr (.inr (.inl ⟨rfl,by omega,rfl⟩))))⟩,rfl,Tn.of hb⟩
 ·by_cases hth:There ks s
  ·by_cases huse:InUse ps ls ks s
   ·refine(changeDropV_held base d m O P L wd now given births ks ps ls s nm text num ra refs.length rc w h.dr ha.kso ha.np ha.nl hth huse).mono ?_
    rintro e w' ⟨rfl,hb⟩;exact .inl ⟨6,_,_,.inr ⟨rfl,rfl,.inr (.inr (.inr (.inr (.inr ⟨rfl,.inr ⟨hth,huse,rfl⟩⟩))))⟩,rfl,Tn.of hb⟩
   ·refine(changeDropV_yes base d m O P L wd now given births ks ps ls s nm text num ra refs.length rc w h.dr ha.kso ha.np ha.nl hth huse).mono ?_
    rintro e w' ⟨rfl,O',hd,_,ht⟩;exact .inr ⟨_,_,rfl,⟨_,.inr (.inr (.inr (.inr (.inr (.inr ⟨rfl,hth,huse,rfl⟩))))),rfl,rfl,⟨_,_,_,hd⟩⟩,ht⟩
  ·refine(changeDropV_missing base d m O P L wd now given births ks ps ls s nm text num ra refs.length rc w h.dr ha.kso.sz hth).mono ?_
   rintro e w' ⟨rfl,hb⟩;exact .inl ⟨2,_,_,.inr ⟨rfl,rfl,.inr (.inr (.inr (.inr (.inr ⟨rfl,.inl ⟨hth,rfl⟩⟩))))⟩,rfl,Tn.of hb⟩
end Go.Proofs.YtpekbmegopfhfaaGreatDoor
