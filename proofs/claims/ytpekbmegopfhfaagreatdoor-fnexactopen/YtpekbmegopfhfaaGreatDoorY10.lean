import Derived.Test.YtpekbmegopfhfaaGreatDoorY09
set_option maxRecDepth 100000
set_option maxHeartbeats 16000000
namespace Go.Proofs.YtpekbmegopfhfaaGreatDoor
open Go.ChangeShapes Go.WideShapes Go.ChangeAt Go.RowKit _root_.Go.Proofs.Tryz
theorem ppush (w:World) (base:Nat) (v:Value) (ls:List Pd) (ho:w.ownsRow base 134 2 v ls.length (rowC pC ls)) (x:Pd) (hn:ls.length<=1000000) (hbase:base<=w.heap.size) (ty:TypeId):
 ∃g cap w',(Builtin.append_ #[25,25] ty #[v,.slice (some ⟨w.heap.size,0,none⟩) 1 1]).run prog (w.alloc (.cells #[.string x.name,.string x.sum] 134))=.ok (.slice (some ⟨g,0,none⟩) (ls.length+1) cap) w'/\w'.ownsRow base 134 2 (.slice (some ⟨g,0,none⟩) (ls.length+1) cap) (ls++[x]).length (rowC pC (ls++[x]))/\w.grownBy w' v.ownBlock/\(v.ownBlock=some g∨g=w.heap.size+1):=by
 obtain⟨i0,hi,hz0,hz1,hz2⟩:=info_parts infoPin;have ho':=own_below ho ((Below.refl _ _).alloc (Nat.le_refl _) (.cells #[.string x.name,.string x.sum] 134));have hc:∀j u,(rowC pC [x])[j]?=some u->(w.alloc (.cells #[.string x.name,.string x.sum] 134)).cell? ((⟨w.heap.size,0,none⟩:Addr).add j)=some u:=by
  intro j u hu;rw[Go.WideShapes.add_plain,Nat.zero_add];exact(CellsAt.new w [.string x.name,.string x.sum] 134 j u (by simpa [rowC,pC] using hu)).1
 obtain⟨v',w',hr,h2,h3,_,h5⟩:=run_append_own_at (P:=prog) (w.alloc (.cells #[.string x.name,.string x.sum] 134)) base 25 ty 134 i0 _ 2 32 underlying25 hi hz0 hz1 hz2 rfl (by decide) v ls.length (rowC pC ls) ho' ⟨w.heap.size,0,none⟩ 1 1 (rowC pC [x]) (by simp[rowC,pC]) hc (by intro u hu;simp[rowC,pC] at hu;rcases hu with rfl|rfl<;>rfl) (by unfold maxLen;omega) (by omega) (by simp;omega)
 obtain⟨g,cap,rfl,_,_⟩:=own_form h2 (fun e=>by subst e;rcases h2.2 with⟨_,hn⟩|⟨_,_,_,e,_⟩<;>first|omega|cases e);refine⟨g,cap,w',hr,?_,(World.grownBy_alloc w _ _).trans h3,?_⟩
 ·rw[rowC_append,List.length_append]
  exact h2
 ·rcases h5 with h5|h5
  ·exact .inl h5.symm
  ·right
   simpa [Value.ownBlock] using h5
theorem unpinP_snoc {ls:List Pd} {k:Nat} {x:Pd} (n:ByteArray) (hx:ls[k]?=some x):unpinP (ls.take (k+1)) n=unpinP (ls.take k) n++(if x.name=n then [] else [x]):=by
 obtain⟨hlt,rfl⟩:=List.getElem?_eq_some_iff.1 hx;unfold unpinP;rw[List.take_succ_eq_append_getElem hlt,List.filter_append];by_cases h:ls[k].name=n<;>simp[h]
theorem unpinP_len (ls:List Pd) (n:ByteArray):(unpinP ls n).length=ls.length↔¬∃x∈ls,x.name=n:=by
 unfold unpinP;rw[List.length_filter_eq_length_iff];simp
def UnpinTo (w w':World) (e:Ending) (wd now given births:Int) (T P:Value) (ls:List Pd) (n:ByteArray):Prop:=
 Below w.heap.size w w'/\(((¬∃x∈ls,x.name=n)/\e=.returned (.agg #[.int .i64 5,.int .i64 0,.int .i64 0,.int .i64 0,.int .i64 0,.slice none 0 0,.slice none 0 0,.slice none 0 0,.string ⟨#[]⟩,.int .i64 0,.string ⟨#[]⟩,.string ⟨#[]⟩]))∨
  ((∃x∈ls,x.name=n)/\∃g c,e=.returned (.agg #[.int .i64 0,.int .i64 wd,.int .i64 now,.int .i64 given,.int .i64 births,T,.slice (some ⟨g,0,none⟩) (unpinP ls n).length c,P,.string ⟨#[]⟩,.int .i64 0,.string ⟨#[]⟩,.string ⟨#[]⟩])/\w'.ownsRow w.heap.size 134 2 (.slice (some ⟨g,0,none⟩) (unpinP ls n).length c) (unpinP ls n).length (rowC pC (unpinP ls n))))
theorem l4Unpin_any (wd now given births:Int) (ta pa la:Option Addr) (tn tc pn pc lc:Nat) (ls:List Pd) (n:ByteArray) (w:World) (hrow:PRow w w.heap.size la ls) (hl:ls.length<=1000):
 Calls prog 87 #[.agg #[.int .i64 wd,.int .i64 now,.int .i64 given,.int .i64 births,.slice ta tn tc,.slice la ls.length lc,.slice pa pn pc],.string n] w fun e w'=>UnpinTo w w' e wd now given births (.slice ta tn tc) (.slice pa pn pc) ls n:=by
 obtain⟨W,hW⟩:∃W,W=(w.alloc (.cells #[.int .i64 wd,.int .i64 now,.int .i64 given,.int .i64 births,.slice ta tn tc,.slice la ls.length lc,.slice pa pn pc] 28)).alloc (.cells #[.int .i64 0,.int .i64 0,.int .i64 0,.int .i64 0,.int .i64 0,.slice none 0 0,.slice none 0 0,.slice none 0 0,.string ⟨#[]⟩,.int .i64 0,.string ⟨#[]⟩,.string ⟨#[]⟩] 30):=⟨_,rfl⟩;have bW:=(al2 hW).1;have hzW:=(al2 hW).2.1
 have x0:=(al2 hW).2.2.1;have x1:CellsAt W (w.heap.size+1) z12:=by
  have h1:=CellsAt.new (w.alloc (.cells #[.int .i64 wd,.int .i64 now,.int .i64 given,.int .i64 births,.slice ta tn tc,.slice la ls.length lc,.slice pa pn pc] 28)) z12 30;rw[World.size_alloc] at h1;rw[hW];exact h1
 have HX:Hid (∀X,Below (w.heap.size+2) W X->CellsAt X w.heap.size [.int .i64 wd,.int .i64 now,.int .i64 given,.int .i64 births,.slice ta tn tc,.slice la ls.length lc,.slice pa pn pc]/\CellsAt X (w.heap.size+1) z12):=fun X hX=>⟨CellsAt.same x0 (hX.block _ (by omega)),CellsAt.same x1 (hX.block _ (by omega))⟩;have HW:Hid _:=hW;have HzW:Hid (W.heap.size=w.heap.size+2):=hzW
 have hzW2:w.heap.size+2<=W.heap.size:=by omega
 have HR:Hid (PRow w w.heap.size la ls):=hrow;have HBW:Hid (Below w.heap.size w W):=bW;have bA:Below W.heap.size W (W.alloc (.cells #[] 134)):=(Below.refl _ _).alloc (Nat.le_refl _) _
 have HOA:Hid ((W.alloc (.cells #[] 134)).ownsRow (w.heap.size+2) 134 2 (.slice (some ⟨W.heap.size,0,none⟩) 0 0) 0 []):=World.ownsRow_lit (base:=w.heap.size+2) (e:=134) (size:=2) W #[] 0 (by omega) (by unfold maxLen;omega) rfl;have HBA:Hid (Below (w.heap.size+2) W (W.alloc (.cells #[] 134))):=bA.mono hzW2;clear hW hzW x0 x1 hrow bW bA;go_enter func87,ntmps87;go_upto_region 1 with fail;rw[←HW.out]
 clear HW;go_wp2
 go_loopw [5,6] (fun v i wr=>∃(k g c:Nat),k<=ls.length/\i=.int .i64 k/\v=.slice (some ⟨g,0,none⟩) (unpinP (ls.take k) n).length c/\Hid (wr.ownsRow (w.heap.size+2) 134 2 (.slice (some ⟨g,0,none⟩) (unpinP (ls.take k) n).length c) (unpinP (ls.take k) n).length (rowC pC (unpinP (ls.take k) n))/\Below (w.heap.size+2) W wr)) (fun _ i _=>ls.length -(intOf i).toNat)
 case atStart=>exact⟨0,W.heap.size,0,Nat.zero_le _,rfl,by simp[unpinP],⟨by simpa [unpinP,rowC] using HOA.out,HBA.out⟩⟩
 case round=>
  clear HOA HBA;obtain⟨k,g,c,hk,rfl,rfl,HI⟩:=hrel;have hbr:Below w.heap.size w wr:=HBW.out.trans (HI.out.2.mono (by omega));have hzr:w.heap.size+2<=wr.heap.size:=Nat.le_trans hzW2 HI.out.2.size;obtain⟨v0,v1,v2,v3,v4,v5,v6,v7⟩:=sbox_of (HX.out _ HI.out.2).1;by_cases hlt:k<ls.length
  ·obtain⟨b',off,ha,hb,hc'⟩:=(PRow.below HR.out hbr).at hlt
   subst ha;have HG:Hid (ls[k]?=some ls[k]):=List.getElem?_eq_getElem hlt;obtain⟨c0,c1⟩:=hc' k _ HG.out;have HSn:Hid _:=unpinP_snoc n HG.out;have hgl:(unpinP (ls.take k) n).length<=1000:=by
    have:=List.length_filter_le (fun x:Pd=> !decide (x.name=n)) (ls.take k);unfold unpinP;rw[List.length_take] at this;omega
   clear hc';generalize ls[k]=x at *
   generalize hGk:unpinP (ls.take k) n=gk at *
   have HGk:Hid _:=hGk;clear hGk;by_cases hxn:x.name=n
   ·have hq:(x.name.toList !=n.toList)=false:=by rw[hxn];simp
    have hq2:(x.name.toList==n.toList)=true:=by rw[hxn];simp
    have HE:Hid (unpinP (ls.take (k+1)) n=gk):=by show _=_;rw[HSn.out,if_pos hxn,List.append_nil]
    clear hxn;go_wp2;exact⟨⟨k+1,g,c,by omega,by go_num,by rw[HE.out],⟨by rw[HE.out];exact HI.out.1,HI.out.2⟩⟩,by simp[intOf];omega⟩
   ·have hq2:(x.name.toList==n.toList)=false:=beq_ne hxn
    have hq:(x.name.toList !=n.toList)=true:=by simp[bne,hq2]
    have HE:Hid (unpinP (ls.take (k+1)) n=gk++[x]):=by show _=_;rw[HSn.out,if_neg hxn]
    clear hxn;obtain⟨g8,cap8,w8,hr8,ho8,hg8,hk8⟩:=ppush wr (w.heap.size+2) _ gk HI.out.1 x (by omega) hzr 25;have b8:Below (w.heap.size+2) wr w8:=(Below.refl _ _).grown hg8 hzr (fun q e=>(own_lt HI.out.1 e).1);have H8:Hid (w8.ownsRow (w.heap.size+2) 134 2 (.slice (some ⟨g8,0,none⟩) (gk.length+1) cap8) (gk++[x]).length (rowC pC (gk++[x]))/\Below (w.heap.size+2) W w8):=⟨ho8,HI.out.2.trans b8⟩
    have hbl':b'<wr.heap.size:=by have:=hbr.size;omega
    clear ho8 hg8 hk8 b8;go_wp2_with (at_builtin;refine wpList_append_run rfl _ _ 25 25 rfl rfl rfl hr8 ?_);clear hr8 c0 c1 v0 v1 v2 v3 v4 v5 v6;go_wp2;exact⟨⟨k+1,g8,cap8,by omega,by go_num,by rw[HE.out,List.length_append];rfl,⟨by rw[HE.out,List.length_append];exact List.length_append▸H8.out.1,H8.out.2⟩⟩,by simp[intOf];omega⟩
  ·obtain rfl:k=ls.length:=by omega
   have hO:=HI.out.1;rw[List.take_of_length_le (Nat.le_refl _)] at hO ⊢;have HO:Hid (wr.ownsRow (w.heap.size+2) 134 2 (.slice (some ⟨g,0,none⟩) (unpinP ls n).length c) (unpinP ls n).length (rowC pC (unpinP ls n))):=hO;have HBr:Hid (Below w.heap.size w wr):=hbr;obtain⟨⟨y0,q0⟩,⟨y1,q1⟩,⟨y2,q2⟩,⟨y3,q3⟩,⟨y4,q4⟩,⟨y5,q5⟩,⟨y6,q6⟩,⟨y7,q7⟩,⟨y8,q8⟩,⟨y9,q9⟩,⟨y10,q10⟩,y11,q11⟩:=z12at (HX.out _ HI.out.2).2
   have f6:=((HX.out _ HI.out.2).1 5 _ rfl).2;by_cases hex:∃x∈ls,x.name=n
   ·have hne:¬(unpinP ls n).length=ls.length:=fun e=>(unpinP_len ls n).1 e hex
    have hq:(((unpinP ls n).length:Int)==(ls.length:Int))=false:=by simp;omega
    have HEx:Hid (∃x∈ls,x.name=n):=hex;clear hne hex hO hbr HI;go_wp2;refine bodyPost_ret (v:=.agg #[.int .i64 0,.int .i64 wd,.int .i64 now,.int .i64 given,.int .i64 births,.slice ta tn tc,.slice (some ⟨g,0,none⟩) (unpinP ls n).length c,.slice pa pn pc,.string ⟨#[]⟩,.int .i64 0,.string ⟨#[]⟩,.string ⟨#[]⟩]) (by simp[results,results87,go_sem,y0,y1,y2,y3,y4,y5,y6,y7,y8,y9,y10,y11]) rfl ?_
    have T':=(Tn.set (V:=[w.heap.size,w.heap.size+1]) wr w.heap.size 5 (.slice (some ⟨g,0,none⟩) (unpinP ls n).length c) (by simp)).trans (Tn.mono (tn12 (wr.setCell ⟨w.heap.size,5,none⟩ (.slice (some ⟨g,0,none⟩) (unpinP ls n).length c)) (w.heap.size+1) (.int .i64 0) (.int .i64 wd) (.int .i64 now) (.int .i64 given) (.int .i64 births) (.slice ta tn tc) (.slice (some ⟨g,0,none⟩) (unpinP ls n).length c) (.slice pa pn pc) (.string ⟨#[]⟩) (.int .i64 0) (.string ⟨#[]⟩) (.string ⟨#[]⟩)) (by simp))
    exact⟨HBr.out.trans (T'.below HBr.out.size (by intro v hv;simp at hv;omega)),.inr ⟨HEx.out,g,c,rfl,(own_same HO.out (fun q hq=>T'.block q (own_lt HO.out hq).2 (by have:=(own_lt HO.out hq).1;simp;omega))).mono (by omega)⟩⟩
   ·have heq:(unpinP ls n).length=ls.length:=(unpinP_len ls n).2 hex
    have hq:(((unpinP ls n).length:Int)==(ls.length:Int))=true:=by simp;omega
    have HEx:Hid (¬∃x∈ls,x.name=n):=hex;clear heq hex hO hbr HI;go_wp2;refine bodyPost_ret (v:=.agg #[.int .i64 5,.int .i64 0,.int .i64 0,.int .i64 0,.int .i64 0,.slice none 0 0,.slice none 0 0,.slice none 0 0,.string ⟨#[]⟩,.int .i64 0,.string ⟨#[]⟩,.string ⟨#[]⟩]) (by simp[results,results87,go_sem,y0,y1,y2,y3,y4,y5,y6,y7,y8,y9,y10,y11]) rfl ?_
    exact⟨HBr.out.trans (Tn.below (tn12 wr (w.heap.size+1) _ _ _ _ _ _ _ _ _ _ _ _) HBr.out.size (by intro v hv;simp at hv;omega)),.inl ⟨HEx.out,rfl⟩⟩
theorem need_no (base d m:Nat) (O P L:Value) (wd now given births:Int) (ks:List Kd) (ps:List Pd) (ls:List Ld) (s:ByteArray) (w:World) (hd:Dr w base d m O P L wd now given births ks ps ls) (hsz:∀k∈ks,(k.sum.size:Int)=wd) (hth:¬There ks s):
 Calls prog 197 #[.pointer (some ⟨d,0,none⟩),.string s] w fun e w'=>e=.panicked [{v:=refV 2 ⟨#[]⟩ ⟨#[]⟩,recovered:=false}]/\Below w.heap.size w w':=by
 obtain⟨n,f,hn,hM,hH⟩:=hd.map;obtain⟨ok,hok,hcl⟩:=shelf_has wd m n f ks w w.heap.size s w hM hH.holds hsz;have hf:ok=false:=by
  cases ok with
  |false=>rfl
  |true=>exact absurd (hok.1 rfl) hth
 subst hf;obtain⟨c0,c1⟩:=CellsAt.c2 hd.box 0 1;have HC:Hid _:=hcl w (Below.refl _ _);clear hd hM hH hok hcl;go_enter func197,ntmps197;go_wp2_with fail;refine Calls.mono HC.out ?_;rintro e w1 ⟨rfl,hb1⟩;go_wp2;exact⟨rfl,rfl,hb1⟩
theorem lend_missing (base d m:Nat) (O P L:Value) (wd now given births:Int) (ks:List Kd) (ps:List Pd) (ls:List Ld) (s:ByteArray) (ticks:Int) (w:World) (h:DU w base d m O P L wd now given births ks ps ls) (hsz:∀k∈ks,(k.sum.size:Int)=wd) (hth:¬There ks s):
 Calls prog 169 #[.pointer (some ⟨d,0,none⟩),.string s,.int .i64 ticks] w fun e w'=>e=.panicked [{v:=refV 2 ⟨#[]⟩ ⟨#[]⟩,recovered:=false}]/\Below w.heap.size w w':=by
 have HN:Hid _:=need_no base d m O P L wd now given births ks ps ls s w h.dr hsz hth;clear h hsz hth;go_enter func169,ntmps169;go_wp2_with fail;refine Calls.mono HN.out ?_;rintro e w1 ⟨rfl,hb1⟩;go_wp2;exact⟨rfl,rfl,hb1⟩
theorem lend_full (base d m:Nat) (O P L:Value) (wd now given births:Int) (ks:List Kd) (ps:List Pd) (ls:List Ld) (s:ByteArray) (ticks:Int) (w:World) (h:DU w base d m O P L wd now given births ks ps ls) (hsz:∀k∈ks,(k.sum.size:Int)=wd) (hth:There ks s) (hfull:ls.length=200∨given=1000000000):
 Calls prog 169 #[.pointer (some ⟨d,0,none⟩),.string s,.int .i64 ticks] w fun e w'=>e=.panicked [{v:=refV 4 ⟨#[]⟩ ⟨#[]⟩,recovered:=false}]/\Below w.heap.size w w':=by
 have HN:Hid _:=need_yes base d m O P L wd now given births ks ps ls s w h.dr hsz hth;obtain⟨la,lcp,hLe⟩:=own_val h.dr.lea;subst hLe;have HD:Hid (DU w base d m O P (.slice la ls.length lcp) wd now given births ks ps ls):=h;clear h hsz hth;by_cases h1:ls.length=200
 ·have hll:((ls.length:Int)==200)=true:=by simp;omega
  clear hfull h1;go_enter func169,ntmps169;go_wp2_with fail;refine Calls.mono HN.out ?_;rintro e w1 ⟨rfl,hb1⟩;have hD1:=HD.out.below hb1;obtain⟨c3,c7⟩:=CellsAt.c2 hD1.dr.box 3 7;clear hD1 HD HN;go_wp2;exact⟨rfl,rfl,hb1⟩
 ·have hll:((ls.length:Int)==200)=false:=by simp;omega
  have hgg:(given==1000000000)=true:=by
   rcases hfull with h|h
   ·exact absurd h h1
   ·rw[h];rfl
  clear hfull h1;go_enter func169,ntmps169;go_wp2_with fail;refine Calls.mono HN.out ?_;rintro e w1 ⟨rfl,hb1⟩;have hD1:=HD.out.below hb1;obtain⟨c3,c7⟩:=CellsAt.c2 hD1.dr.box 3 7;clear hD1 HD HN;go_wp2;exact⟨rfl,rfl,hb1⟩
theorem wait_full (base d m:Nat) (O P L:Value) (wd now given births:Int) (ks:List Kd) (ps:List Pd) (ls:List Ld) (ticks:Int) (w:World) (h:DU w base d m O P L wd now given births ks ps ls) (hn0:0<=now) (hn1:now<=1000000000) (ht0:0<=ticks) (ht1:ticks<=1000000000) (hs:1000000000<now+ticks):
 Calls prog 173 #[.pointer (some ⟨d,0,none⟩),.int .i64 ticks] w fun e w'=>e=.panicked [{v:=refV 4 ⟨#[]⟩ ⟨#[]⟩,recovered:=false}]/\Below w.heap.size w w':=by
 obtain⟨W,hW⟩:∃W,W=w.alloc (.cells #[.pointer (some ⟨d,0,none⟩)] 82):=⟨_,rfl⟩;have bW:=(al1 hW).1;have zW:=(al1 hW).2.2;have hD:=h.below bW;have HW:Hid _:=hW;have hwr:IntKind.i64.wrap (now+ticks)=now+ticks:=wrap_sum hn0 hn1 ht0 ht1;obtain⟨z0,_⟩:=zW 0 _ rfl;obtain⟨c2,_⟩:=hD.dr.box 2 _ rfl;clear h hD hW zW;go_enter func173,ntmps173;go_upto_region 1 with fail;rw[←HW.out];clear HW;go_wp2
 exact⟨rfl,rfl,bW⟩
theorem searchLease_nil (a:Option Addr) (cap:Nat) (n:Int) (w:World):
 Calls prog 204 #[.slice a 0 cap,.int .i64 n,.func (.func 205) #[] #[]] w fun e w'=>e=.returned (.tuple #[.int .i64 0,.bool false])/\Below w.heap.size w w':=by
 go_enter func204,ntmps204;go_wp2
 go_loopw [9,10] (fun i j wr=>i=.int .i64 0/\j=.int .i64 0/\wr=w) (fun _ _ _=>0)
 case atStart=>exact⟨rfl,rfl,rfl⟩
 case round=>
  obtain⟨rfl,rfl,rfl⟩:=hrel;go_wp2
  go_ret2
  exact⟨by first|rfl|simp[Act.put],Below.refl _ _⟩
theorem searchPin_nil (a:Option Addr) (cap:Nat) (n:ByteArray) (w:World):
 Calls prog 230 #[.slice a 0 cap,.string n,.func (.func 231) #[] #[]] w fun e w'=>e=.returned (.tuple #[.int .i64 0,.bool false])/\Below w.heap.size w w':=by
 go_enter func230,ntmps230;go_wp2
 go_loopw [9,10] (fun i j wr=>i=.int .i64 0/\j=.int .i64 0/\wr=w) (fun _ _ _=>0)
 case atStart=>exact⟨rfl,rfl,rfl⟩
 case round=>
  obtain⟨rfl,rfl,rfl⟩:=hrel;go_wp2
  go_ret2
  exact⟨by first|rfl|simp[Act.put],Below.refl _ _⟩
theorem searchL (base:Nat) (L:Value) (ls:List Ld) (n:Int) (w:World) (ho:w.ownsRow base 137 3 L ls.length (rowC lC ls)) (hl:ls.length<=600) (hsort:ls.Pairwise (fun a b=>a.num<b.num)):
 Calls prog 204 #[L,.int .i64 n,.func (.func 205) #[] #[]] w fun e w'=>∃i:Nat,e=.returned (.tuple #[.int .i64 i,.bool (decide (∃x,ls[i]?=some x/\x.num=n))])/\PlaceN ls n i/\Below w.heap.size w w':=by
 rcases ho.2 with⟨rfl,hz⟩|⟨g,cap,cur,rfl,_⟩
 ·have:ls=[]:=List.eq_nil_of_length_eq_zero hz
  subst this;refine(searchLease_nil none 0 n w).mono ?_;rintro e w' ⟨rfl,hb⟩;exact⟨0,by simp,⟨Nat.le_refl _,fun j x h=>by omega,fun j x _ hx=>by simp at hx⟩,hb⟩
 ·exact searchLease_any g cap ls n w base ho hl hsort
theorem searchP (base:Nat) (P:Value) (ps:List Pd) (n:ByteArray) (w:World) (ho:w.ownsRow base 134 2 P ps.length (rowC pC ps)) (hl:ps.length<=600) (hsort:ps.Pairwise (fun a b=>less a.name b.name=true)):
 Calls prog 230 #[P,.string n,.func (.func 231) #[] #[]] w fun e w'=>∃i:Nat,e=.returned (.tuple #[.int .i64 i,.bool (decide (∃x,ps[i]?=some x/\x.name=n))])/\PlaceP ps n i/\Below w.heap.size w w':=by
 rcases ho.2 with⟨rfl,hz⟩|⟨g,cap,cur,rfl,_⟩
 ·have:ps=[]:=List.eq_nil_of_length_eq_zero hz
  subst this;refine(searchPin_nil none 0 n w).mono ?_;rintro e w' ⟨rfl,hb⟩;exact⟨0,by simp,⟨Nat.le_refl _,fun j x h=>by omega,fun j x _ hx=>by simp at hx⟩,hb⟩
 ·exact searchPin_any g cap ps n w base ho hl hsort
theorem give_no (base d m:Nat) (O P L:Value) (wd now given births:Int) (ks:List Kd) (ps:List Pd) (ls:List Ld) (n:Int) (w:World) (h:DU w base d m O P L wd now given births ks ps ls) (hl:ls.length<=200) (hsort:ls.Pairwise (fun a b=>a.num<b.num)) (hth:¬∃x∈ls,x.num=n):
 Calls prog 172 #[.pointer (some ⟨d,0,none⟩),.int .i64 n] w fun e w'=>e=.panicked [{v:=refV 5 ⟨#[]⟩ ⟨#[]⟩,recovered:=false}]/\Below w.heap.size w w':=by
 have HS:Hid _:=searchL base L ls n w h.dr.lea (by omega) hsort;obtain⟨la,lcp,hLe⟩:=own_val h.dr.lea;subst hLe;have HTh:Hid (¬∃x∈ls,x.num=n):=hth;obtain⟨c7,_⟩:=h.dr.box 7 _ rfl;clear h hsort hth;go_enter func172,ntmps172;go_wp2_with fail;refine Calls.mono HS.out ?_;rintro e w1 ⟨i,rfl,_,hb1⟩;have hdec:decide (∃x,ls[i]?=some x/\x.num=n)=false:=by
  rw[decide_eq_false_iff_not];rintro⟨x,hx,hn⟩;exact HTh.out ⟨x,List.mem_of_getElem? hx,hn⟩
 rw[hdec];clear hdec HS HTh c7;go_wp2;exact⟨rfl,rfl,hb1⟩
theorem pinPlaceV (base d m:Nat) (O P L:Value) (wd now given births:Int) (ks:List Kd) (ps:List Pd) (ls:List Ld) (n:ByteArray) (w:World) (h:DU w base d m O P L wd now given births ks ps ls) (hl:ps.length<=200) (hsort:ps.Pairwise (fun a b=>less a.name b.name=true)):
 Calls prog 201 #[.pointer (some ⟨d,0,none⟩),.string n] w fun e w'=>∃i:Nat,e=.returned (.tuple #[.int .i64 i,.bool (decide (∃x,ps[i]?=some x/\x.name=n))])/\PlaceP ps n i/\Below w.heap.size w w':=by
 have HS:Hid _:=searchP base P ps n w h.dr.pin (by omega) hsort;obtain⟨la,lcp,hLe⟩:=own_val h.dr.pin;subst hLe;obtain⟨c6,_⟩:=h.dr.box 6 _ rfl;clear h hsort;go_enter func201,ntmps201;go_wp2_with fail;refine Calls.mono HS.out ?_;rintro e w1 ⟨i,rfl,hp1,hb1⟩;obtain⟨bb,hbb⟩:∃bb,decide (∃x,ps[i]?=some x/\x.name=n)=bb:=⟨_,rfl⟩;have HBB:Hid (decide (∃x,ps[i]?=some x/\x.name=n)=bb):=hbb;rw[hbb];clear hbb
 go_wp2
 go_ret2
 exact⟨i,by rw[HBB.out];rfl,hp1,hb1⟩
theorem unpin_no (base d m:Nat) (O P L:Value) (wd now given births:Int) (ks:List Kd) (ps:List Pd) (ls:List Ld) (n:ByteArray) (w:World) (h:DU w base d m O P L wd now given births ks ps ls) (hl:ps.length<=200) (hsort:ps.Pairwise (fun a b=>less a.name b.name=true)) (hth:¬∃x∈ps,x.name=n):
 Calls prog 171 #[.pointer (some ⟨d,0,none⟩),.string n] w fun e w'=>e=.panicked [{v:=refV 5 ⟨#[]⟩ ⟨#[]⟩,recovered:=false}]/\Below w.heap.size w w':=by
 have HS:Hid _:=pinPlaceV base d m O P L wd now given births ks ps ls n w h hl hsort;have HTh:Hid (¬∃x∈ps,x.name=n):=hth;clear h hsort hth;go_enter func171,ntmps171;go_wp2_with fail;refine Calls.mono HS.out ?_;rintro e w1 ⟨i,rfl,_,hb1⟩;have hdec:decide (∃x,ps[i]?=some x/\x.name=n)=false:=by
  rw[decide_eq_false_iff_not];rintro⟨x,hx,hn⟩;exact HTh.out ⟨x,List.mem_of_getElem? hx,hn⟩
 rw[hdec];clear hdec HS HTh;go_wp2;exact⟨rfl,rfl,hb1⟩
theorem own_type {w:World} {base:Nat} {e:TypeId} {size:Nat} {v:Value} {n:Nat} {xs:List Value} (h:w.ownsRow base e size v n xs) {g:Nat} (hg:v.ownBlock=some g):∃cur,w.heap[g]?=some (.cells cur e):=by
 rcases h.2 with⟨rfl,_⟩|⟨g',cap,cur,rfl,_,hc,_⟩
 ·cases hg
 ·cases hg
  exact⟨cur,hc⟩
theorem DU.notin {w:World} {base d m:Nat} {O P L:Value} {wd now given births:Int} {ks:List Kd} {ps:List Pd} {ls:List Ld} (h:DU w base d m O P L wd now given births ks ps ls) {R:Nat} {cur:Array Value} (hR:w.heap[R]?=some (.cells cur 30)) (hd:R≠d):R∉vB d m O P L/\NS w R:=by
 refine⟨fun hv=> ?_,fun cur fz e=>by rw[hR] at e;cases e⟩;unfold vB at hv;simp only[List.mem_cons,List.mem_append,Option.mem_toList] at hv;rcases hv with hv|hv|hv|hv|hv
 ·exact hd hv
 ·obtain⟨n,f,_,hM,_⟩:=h.dr.map
  obtain⟨D,⟨es,clock,hes,_⟩,_⟩:=hM;rw[←hv,hR] at hes;cases hes
 ·obtain⟨c,hc⟩:=own_type h.dr.ord hv
  rw[hR] at hc;cases hc
 ·obtain⟨c,hc⟩:=own_type h.dr.pin hv
  rw[hR] at hc;cases hc
 ·obtain⟨c,hc⟩:=own_type h.dr.lea hv
  rw[hR] at hc;cases hc
theorem changeGive_yes (base d m:Nat) (O P L:Value) (wd now given births:Int) (ks:List Kd) (ps:List Pd) (ls:List Ld) (s nm tx:ByteArray) (num:Int) (ra:Option Addr) (rn rc:Nat) (w:World) (h:DU w base d m O P L wd now given births ks ps ls) (hl:ls.length<=200) (hsort:ls.Pairwise (fun a b=>a.num<b.num)) (hth:∃x∈ls,x.num=num):
 Calls prog 139 #[.pointer (some ⟨d,0,none⟩),.agg #[.int .i64 5,.string s,.string nm,.int .i64 num,.string tx,.slice ra rn rc]] w fun e w'=>e=.returned (.agg z12.toArray)/\∃L',DU w' base d m O P L' wd now given births ks ps (giveL ls num)/\Tn (d::L.ownBlock.toList) w w':=by
 obtain⟨W,hW⟩:∃W,W=((w.alloc (.cells #[.int .i64 5,.string s,.string nm,.int .i64 num,.string tx,.slice ra rn rc] 77)).alloc (.cells #[.int .i64 0,.int .i64 0,.int .i64 0,.int .i64 0,.int .i64 0,.slice none 0 0,.slice none 0 0,.slice none 0 0,.string ⟨#[]⟩,.int .i64 0,.string ⟨#[]⟩,.string ⟨#[]⟩] 30)).alloc (.cells #[.int .i64 0,.int .i64 0,.int .i64 0,.int .i64 0,.int .i64 0,.slice none 0 0,.slice none 0 0,.slice none 0 0,.string ⟨#[]⟩,.int .i64 0,.string ⟨#[]⟩,.string ⟨#[]⟩] 30):=⟨_,rfl⟩
 have hB:=(al3 hW).1;have hzW:=(al3 hW).2.1;have xE:=(al3 hW).2.2.1;have zR:CellsAt W (w.heap.size+1) z12:=by
  have h1:=CellsAt.new (w.alloc (.cells #[.int .i64 5,.string s,.string nm,.int .i64 num,.string tx,.slice ra rn rc] 77)) z12 30;rw[World.size_alloc] at h1;rw[hW];exact CellsAt.below (v:=.int .i64 0) h1 ((Below.refl _ _).alloc (Nat.le_refl _) _)
 have zO:CellsAt W (w.heap.size+2) z12:=by
  have h1:=CellsAt.new ((w.alloc (.cells #[.int .i64 5,.string s,.string nm,.int .i64 num,.string tx,.slice ra rn rc] 77)).alloc (.cells #[.int .i64 0,.int .i64 0,.int .i64 0,.int .i64 0,.int .i64 0,.slice none 0 0,.slice none 0 0,.slice none 0 0,.string ⟨#[]⟩,.int .i64 0,.string ⟨#[]⟩,.string ⟨#[]⟩] 30)) z12 30;rw[World.size_alloc,World.size_alloc] at h1;rw[hW];exact h1
 have hRb:W.heap[w.heap.size+1]?=some (.cells #[.int .i64 0,.int .i64 0,.int .i64 0,.int .i64 0,.int .i64 0,.slice none 0 0,.slice none 0 0,.slice none 0 0,.string ⟨#[]⟩,.int .i64 0,.string ⟨#[]⟩,.string ⟨#[]⟩] 30):=by
  rw[hW,Below.heap_alloc _ _ _ (by simp)];have:=heap_alloc_new (w.alloc (.cells #[.int .i64 5,.string s,.string nm,.int .i64 num,.string tx,.slice ra rn rc] 77)) (.cells #[.int .i64 0,.int .i64 0,.int .i64 0,.int .i64 0,.int .i64 0,.slice none 0 0,.slice none 0 0,.slice none 0 0,.string ⟨#[]⟩,.int .i64 0,.string ⟨#[]⟩,.string ⟨#[]⟩] 30);rw[World.size_alloc] at this;exact this
 have hD:=h.below hB;have hdl:=h.dr.box.lt;have hlt:∀b∈d::L.ownBlock.toList,b<w.heap.size:=fun b hb=>h.dr.lts b (by unfold vB;simp at hb ⊢;rcases hb with rfl|hb<;>simp[*]);have HC:Hid _:=give_yes base d m O P L wd now given births ks ps ls num W hD hl hsort hth;have HW:Hid _:=hW
 have HZ:Hid (CellsAt W (w.heap.size+1) z12/\CellsAt W (w.heap.size+2) z12/\W.heap[w.heap.size+1]?=some (.cells #[.int .i64 0,.int .i64 0,.int .i64 0,.int .i64 0,.int .i64 0,.slice none 0 0,.slice none 0 0,.slice none 0 0,.string ⟨#[]⟩,.int .i64 0,.string ⟨#[]⟩,.string ⟨#[]⟩] 30)/\Below w.heap.size w W/\W.heap.size=w.heap.size+3/\base<=w.heap.size):=⟨zR,zO,hRb,hB,hzW,h.lo⟩
 have HLt:Hid (∀b∈d::L.ownBlock.toList,b<w.heap.size):=hlt;obtain⟨e0,e1,e2,e3⟩:=CellsAt.c4 xE 0 1 2 3;clear hW h hD zR zO hRb hB hzW xE hlt;go_enter func139,ntmps139;go_upto_region 2 with fail;rw[←HW.out];clear HW;go_wp2_with fail;refine Calls.mono HC.out ?_;rintro e w1 ⟨rfl,V,hd1,ht1⟩;have zz:=HZ.out.2.2.2.2.1
 have zR1:CellsAt w1 (w.heap.size+1) z12:=CellsAt.same HZ.out.1 (ht1.block _ (by omega) (fun h=>by have:=HLt.out _ h;omega));have zO1:CellsAt w1 (w.heap.size+2) z12:=CellsAt.same HZ.out.2.1 (ht1.block _ (by omega) (fun h=>by have:=HLt.out _ h;omega))
 have hR1:w1.heap[w.heap.size+1]?=some (.cells #[.int .i64 0,.int .i64 0,.int .i64 0,.int .i64 0,.int .i64 0,.slice none 0 0,.slice none 0 0,.slice none 0 0,.string ⟨#[]⟩,.int .i64 0,.string ⟨#[]⟩,.string ⟨#[]⟩] 30):=(ht1.block _ (by omega) (fun h=>by have:=HLt.out _ h;omega)).trans HZ.out.2.2.1;have HD1:Hid _:=And.intro hd1 (And.intro ht1 (hd1.notin hR1 (by omega)))
 obtain⟨⟨y0,q0⟩,⟨y1,q1⟩,⟨y2,q2⟩,⟨y3,q3⟩,⟨y4,q4⟩,⟨y5,q5⟩,⟨y6,q6⟩,⟨y7,q7⟩,⟨y8,q8⟩,⟨y9,q9⟩,⟨y10,q10⟩,y11,q11⟩:=z12at zR1;obtain⟨⟨v0,_⟩,⟨v1,_⟩,⟨v2,_⟩,⟨v3,_⟩,⟨v4,_⟩,⟨v5,_⟩,⟨v6,_⟩,⟨v7,_⟩,⟨v8,_⟩,⟨v9,_⟩,⟨v10,_⟩,v11,_⟩:=z12at zO1;clear hd1 ht1 zR1 zO1 hR1 e0 e1 e2 e3 HC zz;go_wp2
 refine bodyPost_ret (v:=.agg z12.toArray) (by simp[results,results139,go_sem,y0,y1,y2,y3,y4,y5,y6,y7,y8,y9,y10,y11,z12]) rfl ⟨rfl,V,HD1.out.1.turn (tn12 w1 (w.heap.size+1) _ _ _ _ _ _ _ _ _ _ _ _) (by intro b hb;simp at hb;subst hb;exact⟨by have:=HZ.out.2.2.2.2.2;omega,HD1.out.2.2⟩),Tn.fresh ((Tn.of HZ.out.2.2.2.1).trans HD1.out.2.1) (tn12 w1 (w.heap.size+1) _ _ _ _ _ _ _ _ _ _ _ _) (by omega)⟩
theorem changeWait_yes (base d m:Nat) (O P L:Value) (wd now given births:Int) (ks:List Kd) (ps:List Pd) (ls:List Ld) (s nm tx:ByteArray) (num:Int) (ra:Option Addr) (rn rc:Nat) (w:World) (h:DU w base d m O P L wd now given births ks ps ls) (hl:ls.length<=200) (hn0:0<=now) (ht0:0<=num) (hs:now+num<=1000000000):
 Calls prog 139 #[.pointer (some ⟨d,0,none⟩),.agg #[.int .i64 6,.string s,.string nm,.int .i64 num,.string tx,.slice ra rn rc]] w fun e w'=>e=.returned (.agg z12.toArray)/\∃L',DU w' base d m O P L' wd (now+num) given births ks ps (waitL ls (now+num))/\Tn (d::L.ownBlock.toList) w w':=by
 obtain⟨W,hW⟩:∃W,W=((w.alloc (.cells #[.int .i64 6,.string s,.string nm,.int .i64 num,.string tx,.slice ra rn rc] 77)).alloc (.cells #[.int .i64 0,.int .i64 0,.int .i64 0,.int .i64 0,.int .i64 0,.slice none 0 0,.slice none 0 0,.slice none 0 0,.string ⟨#[]⟩,.int .i64 0,.string ⟨#[]⟩,.string ⟨#[]⟩] 30)).alloc (.cells #[.int .i64 0,.int .i64 0,.int .i64 0,.int .i64 0,.int .i64 0,.slice none 0 0,.slice none 0 0,.slice none 0 0,.string ⟨#[]⟩,.int .i64 0,.string ⟨#[]⟩,.string ⟨#[]⟩] 30):=⟨_,rfl⟩
 have hB:=(al3 hW).1;have hzW:=(al3 hW).2.1;have xE:=(al3 hW).2.2.1;have zR:CellsAt W (w.heap.size+1) z12:=by
  have h1:=CellsAt.new (w.alloc (.cells #[.int .i64 6,.string s,.string nm,.int .i64 num,.string tx,.slice ra rn rc] 77)) z12 30;rw[World.size_alloc] at h1;rw[hW];exact CellsAt.below (v:=.int .i64 0) h1 ((Below.refl _ _).alloc (Nat.le_refl _) _)
 have zO:CellsAt W (w.heap.size+2) z12:=by
  have h1:=CellsAt.new ((w.alloc (.cells #[.int .i64 6,.string s,.string nm,.int .i64 num,.string tx,.slice ra rn rc] 77)).alloc (.cells #[.int .i64 0,.int .i64 0,.int .i64 0,.int .i64 0,.int .i64 0,.slice none 0 0,.slice none 0 0,.slice none 0 0,.string ⟨#[]⟩,.int .i64 0,.string ⟨#[]⟩,.string ⟨#[]⟩] 30)) z12 30;rw[World.size_alloc,World.size_alloc] at h1;rw[hW];exact h1
 have hRb:W.heap[w.heap.size+1]?=some (.cells #[.int .i64 0,.int .i64 0,.int .i64 0,.int .i64 0,.int .i64 0,.slice none 0 0,.slice none 0 0,.slice none 0 0,.string ⟨#[]⟩,.int .i64 0,.string ⟨#[]⟩,.string ⟨#[]⟩] 30):=by
  rw[hW,Below.heap_alloc _ _ _ (by simp)];have:=heap_alloc_new (w.alloc (.cells #[.int .i64 6,.string s,.string nm,.int .i64 num,.string tx,.slice ra rn rc] 77)) (.cells #[.int .i64 0,.int .i64 0,.int .i64 0,.int .i64 0,.int .i64 0,.slice none 0 0,.slice none 0 0,.slice none 0 0,.string ⟨#[]⟩,.int .i64 0,.string ⟨#[]⟩,.string ⟨#[]⟩] 30);rw[World.size_alloc] at this;exact this
 have hD:=h.below hB;have hdl:=h.dr.box.lt;have hlt:∀b∈d::L.ownBlock.toList,b<w.heap.size:=fun b hb=>h.dr.lts b (by unfold vB;simp at hb ⊢;rcases hb with rfl|hb<;>simp[*]);have HC:Hid _:=wait_yes base d m O P L wd now given births ks ps ls num W hD hl hn0 ht0 hs;have HW:Hid _:=hW
 have HZ:Hid (CellsAt W (w.heap.size+1) z12/\CellsAt W (w.heap.size+2) z12/\W.heap[w.heap.size+1]?=some (.cells #[.int .i64 0,.int .i64 0,.int .i64 0,.int .i64 0,.int .i64 0,.slice none 0 0,.slice none 0 0,.slice none 0 0,.string ⟨#[]⟩,.int .i64 0,.string ⟨#[]⟩,.string ⟨#[]⟩] 30)/\Below w.heap.size w W/\W.heap.size=w.heap.size+3/\base<=w.heap.size):=⟨zR,zO,hRb,hB,hzW,h.lo⟩
 have HLt:Hid (∀b∈d::L.ownBlock.toList,b<w.heap.size):=hlt;obtain⟨e0,e1,e2,e3⟩:=CellsAt.c4 xE 0 1 2 3;clear hW h hD zR zO hRb hB hzW xE hlt;go_enter func139,ntmps139;go_upto_region 2 with fail;rw[←HW.out];clear HW;go_wp2_with fail;refine Calls.mono HC.out ?_;rintro e w1 ⟨rfl,V,hd1,ht1⟩;have zz:=HZ.out.2.2.2.2.1
 have zR1:CellsAt w1 (w.heap.size+1) z12:=CellsAt.same HZ.out.1 (ht1.block _ (by omega) (fun h=>by have:=HLt.out _ h;omega));have zO1:CellsAt w1 (w.heap.size+2) z12:=CellsAt.same HZ.out.2.1 (ht1.block _ (by omega) (fun h=>by have:=HLt.out _ h;omega))
 have hR1:w1.heap[w.heap.size+1]?=some (.cells #[.int .i64 0,.int .i64 0,.int .i64 0,.int .i64 0,.int .i64 0,.slice none 0 0,.slice none 0 0,.slice none 0 0,.string ⟨#[]⟩,.int .i64 0,.string ⟨#[]⟩,.string ⟨#[]⟩] 30):=(ht1.block _ (by omega) (fun h=>by have:=HLt.out _ h;omega)).trans HZ.out.2.2.1;have HD1:Hid _:=And.intro hd1 (And.intro ht1 (hd1.notin hR1 (by omega)))
 obtain⟨⟨y0,q0⟩,⟨y1,q1⟩,⟨y2,q2⟩,⟨y3,q3⟩,⟨y4,q4⟩,⟨y5,q5⟩,⟨y6,q6⟩,⟨y7,q7⟩,⟨y8,q8⟩,⟨y9,q9⟩,⟨y10,q10⟩,y11,q11⟩:=z12at zR1;obtain⟨⟨v0,_⟩,⟨v1,_⟩,⟨v2,_⟩,⟨v3,_⟩,⟨v4,_⟩,⟨v5,_⟩,⟨v6,_⟩,⟨v7,_⟩,⟨v8,_⟩,⟨v9,_⟩,⟨v10,_⟩,v11,_⟩:=z12at zO1;clear hd1 ht1 zR1 zO1 hR1 e0 e1 e2 e3 HC zz;go_wp2
 refine bodyPost_ret (v:=.agg z12.toArray) (by simp[results,results139,go_sem,y0,y1,y2,y3,y4,y5,y6,y7,y8,y9,y10,y11,z12]) rfl ⟨rfl,V,HD1.out.1.turn (tn12 w1 (w.heap.size+1) _ _ _ _ _ _ _ _ _ _ _ _) (by intro b hb;simp at hb;subst hb;exact⟨by have:=HZ.out.2.2.2.2.2;omega,HD1.out.2.2⟩),Tn.fresh ((Tn.of HZ.out.2.2.2.1).trans HD1.out.2.1) (tn12 w1 (w.heap.size+1) _ _ _ _ _ _ _ _ _ _ _ _) (by omega)⟩
theorem changeUnpin_yes (base d m:Nat) (O P L:Value) (wd now given births:Int) (ks:List Kd) (ps:List Pd) (ls:List Ld) (s nm tx:ByteArray) (num:Int) (ra:Option Addr) (rn rc:Nat) (w:World) (h:DU w base d m O P L wd now given births ks ps ls) (hl:ps.length<=200) (hsort:ps.Pairwise (fun a b=>less a.name b.name=true)) (hth:∃x∈ps,x.name=nm):
 Calls prog 139 #[.pointer (some ⟨d,0,none⟩),.agg #[.int .i64 3,.string s,.string nm,.int .i64 num,.string tx,.slice ra rn rc]] w fun e w'=>e=.returned (.agg z12.toArray)/\∃P',DU w' base d m O P' L wd now given births ks (unpinP ps nm) ls/\Tn (d::P.ownBlock.toList) w w':=by
 obtain⟨W,hW⟩:∃W,W=((w.alloc (.cells #[.int .i64 3,.string s,.string nm,.int .i64 num,.string tx,.slice ra rn rc] 77)).alloc (.cells #[.int .i64 0,.int .i64 0,.int .i64 0,.int .i64 0,.int .i64 0,.slice none 0 0,.slice none 0 0,.slice none 0 0,.string ⟨#[]⟩,.int .i64 0,.string ⟨#[]⟩,.string ⟨#[]⟩] 30)).alloc (.cells #[.int .i64 0,.int .i64 0,.int .i64 0,.int .i64 0,.int .i64 0,.slice none 0 0,.slice none 0 0,.slice none 0 0,.string ⟨#[]⟩,.int .i64 0,.string ⟨#[]⟩,.string ⟨#[]⟩] 30):=⟨_,rfl⟩
 have hB:=(al3 hW).1;have hzW:=(al3 hW).2.1;have xE:=(al3 hW).2.2.1;have zR:CellsAt W (w.heap.size+1) z12:=by
  have h1:=CellsAt.new (w.alloc (.cells #[.int .i64 3,.string s,.string nm,.int .i64 num,.string tx,.slice ra rn rc] 77)) z12 30;rw[World.size_alloc] at h1;rw[hW];exact CellsAt.below (v:=.int .i64 0) h1 ((Below.refl _ _).alloc (Nat.le_refl _) _)
 have zO:CellsAt W (w.heap.size+2) z12:=by
  have h1:=CellsAt.new ((w.alloc (.cells #[.int .i64 3,.string s,.string nm,.int .i64 num,.string tx,.slice ra rn rc] 77)).alloc (.cells #[.int .i64 0,.int .i64 0,.int .i64 0,.int .i64 0,.int .i64 0,.slice none 0 0,.slice none 0 0,.slice none 0 0,.string ⟨#[]⟩,.int .i64 0,.string ⟨#[]⟩,.string ⟨#[]⟩] 30)) z12 30;rw[World.size_alloc,World.size_alloc] at h1;rw[hW];exact h1
 have hRb:W.heap[w.heap.size+1]?=some (.cells #[.int .i64 0,.int .i64 0,.int .i64 0,.int .i64 0,.int .i64 0,.slice none 0 0,.slice none 0 0,.slice none 0 0,.string ⟨#[]⟩,.int .i64 0,.string ⟨#[]⟩,.string ⟨#[]⟩] 30):=by
  rw[hW,Below.heap_alloc _ _ _ (by simp)];have:=heap_alloc_new (w.alloc (.cells #[.int .i64 3,.string s,.string nm,.int .i64 num,.string tx,.slice ra rn rc] 77)) (.cells #[.int .i64 0,.int .i64 0,.int .i64 0,.int .i64 0,.int .i64 0,.slice none 0 0,.slice none 0 0,.slice none 0 0,.string ⟨#[]⟩,.int .i64 0,.string ⟨#[]⟩,.string ⟨#[]⟩] 30);rw[World.size_alloc] at this;exact this
 have hD:=h.below hB;have hdl:=h.dr.box.lt;have hlt:∀b∈d::P.ownBlock.toList,b<w.heap.size:=fun b hb=>h.dr.lts b (by unfold vB;simp at hb ⊢;rcases hb with rfl|hb<;>simp[*]);have HC:Hid _:=unpin_yes base d m O P L wd now given births ks ps ls nm W hD hl hsort hth;have HW:Hid _:=hW
 have HZ:Hid (CellsAt W (w.heap.size+1) z12/\CellsAt W (w.heap.size+2) z12/\W.heap[w.heap.size+1]?=some (.cells #[.int .i64 0,.int .i64 0,.int .i64 0,.int .i64 0,.int .i64 0,.slice none 0 0,.slice none 0 0,.slice none 0 0,.string ⟨#[]⟩,.int .i64 0,.string ⟨#[]⟩,.string ⟨#[]⟩] 30)/\Below w.heap.size w W/\W.heap.size=w.heap.size+3/\base<=w.heap.size):=⟨zR,zO,hRb,hB,hzW,h.lo⟩
 have HLt:Hid (∀b∈d::P.ownBlock.toList,b<w.heap.size):=hlt;obtain⟨e0,e1,e2,e3⟩:=CellsAt.c4 xE 0 1 2 3;clear hW h hD zR zO hRb hB hzW xE hlt;go_enter func139,ntmps139;go_upto_region 2 with fail;rw[←HW.out];clear HW;go_wp2_with fail;refine Calls.mono HC.out ?_;rintro e w1 ⟨rfl,V,hd1,ht1⟩;have zz:=HZ.out.2.2.2.2.1
 have zR1:CellsAt w1 (w.heap.size+1) z12:=CellsAt.same HZ.out.1 (ht1.block _ (by omega) (fun h=>by have:=HLt.out _ h;omega));have zO1:CellsAt w1 (w.heap.size+2) z12:=CellsAt.same HZ.out.2.1 (ht1.block _ (by omega) (fun h=>by have:=HLt.out _ h;omega))
 have hR1:w1.heap[w.heap.size+1]?=some (.cells #[.int .i64 0,.int .i64 0,.int .i64 0,.int .i64 0,.int .i64 0,.slice none 0 0,.slice none 0 0,.slice none 0 0,.string ⟨#[]⟩,.int .i64 0,.string ⟨#[]⟩,.string ⟨#[]⟩] 30):=(ht1.block _ (by omega) (fun h=>by have:=HLt.out _ h;omega)).trans HZ.out.2.2.1;have HD1:Hid _:=And.intro hd1 (And.intro ht1 (hd1.notin hR1 (by omega)))
 obtain⟨⟨y0,q0⟩,⟨y1,q1⟩,⟨y2,q2⟩,⟨y3,q3⟩,⟨y4,q4⟩,⟨y5,q5⟩,⟨y6,q6⟩,⟨y7,q7⟩,⟨y8,q8⟩,⟨y9,q9⟩,⟨y10,q10⟩,y11,q11⟩:=z12at zR1;obtain⟨⟨v0,_⟩,⟨v1,_⟩,⟨v2,_⟩,⟨v3,_⟩,⟨v4,_⟩,⟨v5,_⟩,⟨v6,_⟩,⟨v7,_⟩,⟨v8,_⟩,⟨v9,_⟩,⟨v10,_⟩,v11,_⟩:=z12at zO1;clear hd1 ht1 zR1 zO1 hR1 e0 e1 e2 e3 HC zz;go_wp2
 refine bodyPost_ret (v:=.agg z12.toArray) (by simp[results,results139,go_sem,y0,y1,y2,y3,y4,y5,y6,y7,y8,y9,y10,y11,z12]) rfl ⟨rfl,V,HD1.out.1.turn (tn12 w1 (w.heap.size+1) _ _ _ _ _ _ _ _ _ _ _ _) (by intro b hb;simp at hb;subst hb;exact⟨by have:=HZ.out.2.2.2.2.2;omega,HD1.out.2.2⟩),Tn.fresh ((Tn.of HZ.out.2.2.2.1).trans HD1.out.2.1) (tn12 w1 (w.heap.size+1) _ _ _ _ _ _ _ _ _ _ _ _) (by omega)⟩
theorem changeUnpin_no (d:Nat) (s nm tx:ByteArray) (num:Int) (ra:Option Addr) (rn rc:Nat) (c:Int) (a b:ByteArray) (w:World) (h:∀X,Below w.heap.size w X->Calls prog 171 #[.pointer (some ⟨d,0,none⟩),.string nm] X fun e w'=>e=.panicked [{v:=refV c a b,recovered:=false}]/\Below X.heap.size X w'):
 Calls prog 139 #[.pointer (some ⟨d,0,none⟩),.agg #[.int .i64 3,.string s,.string nm,.int .i64 num,.string tx,.slice ra rn rc]] w fun e w'=>e=.panicked [{v:=refV c a b,recovered:=false}]/\Below w.heap.size w w':=by
 obtain⟨W,hW⟩:∃W,W=((w.alloc (.cells #[.int .i64 3,.string s,.string nm,.int .i64 num,.string tx,.slice ra rn rc] 77)).alloc (.cells #[.int .i64 0,.int .i64 0,.int .i64 0,.int .i64 0,.int .i64 0,.slice none 0 0,.slice none 0 0,.slice none 0 0,.string ⟨#[]⟩,.int .i64 0,.string ⟨#[]⟩,.string ⟨#[]⟩] 30)).alloc (.cells #[.int .i64 0,.int .i64 0,.int .i64 0,.int .i64 0,.int .i64 0,.slice none 0 0,.slice none 0 0,.slice none 0 0,.string ⟨#[]⟩,.int .i64 0,.string ⟨#[]⟩,.string ⟨#[]⟩] 30):=⟨_,rfl⟩
 have hB:=(al3 hW).1;have xE:=(al3 hW).2.2.1;have HC:Hid _:=h W hB;have HW:Hid _:=hW;obtain⟨e0,e1,e2,e3⟩:=CellsAt.c4 xE 0 1 2 3;clear hW xE h;go_enter func139,ntmps139;go_upto_region 2 with fail;rw[←HW.out];clear HW;go_wp2_with fail;refine Calls.mono HC.out ?_;rintro e w1 ⟨rfl,hb1⟩;exact⟨rfl,rfl,hB.trans (hb1.mono hB.size)⟩
theorem changeLease_no (d:Nat) (s nm tx:ByteArray) (num:Int) (ra:Option Addr) (rn rc:Nat) (c:Int) (a b:ByteArray) (w:World) (h:∀X,Below w.heap.size w X->Calls prog 169 #[.pointer (some ⟨d,0,none⟩),.string s,.int .i64 num] X fun e w'=>e=.panicked [{v:=refV c a b,recovered:=false}]/\Below X.heap.size X w'):
 Calls prog 139 #[.pointer (some ⟨d,0,none⟩),.agg #[.int .i64 4,.string s,.string nm,.int .i64 num,.string tx,.slice ra rn rc]] w fun e w'=>e=.panicked [{v:=refV c a b,recovered:=false}]/\Below w.heap.size w w':=by
 obtain⟨W,hW⟩:∃W,W=((w.alloc (.cells #[.int .i64 4,.string s,.string nm,.int .i64 num,.string tx,.slice ra rn rc] 77)).alloc (.cells #[.int .i64 0,.int .i64 0,.int .i64 0,.int .i64 0,.int .i64 0,.slice none 0 0,.slice none 0 0,.slice none 0 0,.string ⟨#[]⟩,.int .i64 0,.string ⟨#[]⟩,.string ⟨#[]⟩] 30)).alloc (.cells #[.int .i64 0,.int .i64 0,.int .i64 0,.int .i64 0,.int .i64 0,.slice none 0 0,.slice none 0 0,.slice none 0 0,.string ⟨#[]⟩,.int .i64 0,.string ⟨#[]⟩,.string ⟨#[]⟩] 30):=⟨_,rfl⟩
 have hB:=(al3 hW).1;have xE:=(al3 hW).2.2.1;have HC:Hid _:=h W hB;have HW:Hid _:=hW;obtain⟨e0,e1,e2,e3⟩:=CellsAt.c4 xE 0 1 2 3;clear hW xE h;go_enter func139,ntmps139;go_upto_region 2 with fail;rw[←HW.out];clear HW;go_wp2_with fail;refine Calls.mono HC.out ?_;rintro e w1 ⟨rfl,hb1⟩;exact⟨rfl,rfl,hB.trans (hb1.mono hB.size)⟩
theorem changeGive_no (d:Nat) (s nm tx:ByteArray) (num:Int) (ra:Option Addr) (rn rc:Nat) (c:Int) (a b:ByteArray) (w:World) (h:∀X,Below w.heap.size w X->Calls prog 172 #[.pointer (some ⟨d,0,none⟩),.int .i64 num] X fun e w'=>e=.panicked [{v:=refV c a b,recovered:=false}]/\Below X.heap.size X w'):
 Calls prog 139 #[.pointer (some ⟨d,0,none⟩),.agg #[.int .i64 5,.string s,.string nm,.int .i64 num,.string tx,.slice ra rn rc]] w fun e w'=>e=.panicked [{v:=refV c a b,recovered:=false}]/\Below w.heap.size w w':=by
 obtain⟨W,hW⟩:∃W,W=((w.alloc (.cells #[.int .i64 5,.string s,.string nm,.int .i64 num,.string tx,.slice ra rn rc] 77)).alloc (.cells #[.int .i64 0,.int .i64 0,.int .i64 0,.int .i64 0,.int .i64 0,.slice none 0 0,.slice none 0 0,.slice none 0 0,.string ⟨#[]⟩,.int .i64 0,.string ⟨#[]⟩,.string ⟨#[]⟩] 30)).alloc (.cells #[.int .i64 0,.int .i64 0,.int .i64 0,.int .i64 0,.int .i64 0,.slice none 0 0,.slice none 0 0,.slice none 0 0,.string ⟨#[]⟩,.int .i64 0,.string ⟨#[]⟩,.string ⟨#[]⟩] 30):=⟨_,rfl⟩
 have hB:=(al3 hW).1;have xE:=(al3 hW).2.2.1;have HC:Hid _:=h W hB;have HW:Hid _:=hW;obtain⟨e0,e1,e2,e3⟩:=CellsAt.c4 xE 0 1 2 3;clear hW xE h;go_enter func139,ntmps139;go_upto_region 2 with fail;rw[←HW.out];clear HW;go_wp2_with fail;refine Calls.mono HC.out ?_;rintro e w1 ⟨rfl,hb1⟩;exact⟨rfl,rfl,hB.trans (hb1.mono hB.size)⟩
theorem changeWait_no (d:Nat) (s nm tx:ByteArray) (num:Int) (ra:Option Addr) (rn rc:Nat) (c:Int) (a b:ByteArray) (w:World) (h:∀X,Below w.heap.size w X->Calls prog 173 #[.pointer (some ⟨d,0,none⟩),.int .i64 num] X fun e w'=>e=.panicked [{v:=refV c a b,recovered:=false}]/\Below X.heap.size X w'):
 Calls prog 139 #[.pointer (some ⟨d,0,none⟩),.agg #[.int .i64 6,.string s,.string nm,.int .i64 num,.string tx,.slice ra rn rc]] w fun e w'=>e=.panicked [{v:=refV c a b,recovered:=false}]/\Below w.heap.size w w':=by
 obtain⟨W,hW⟩:∃W,W=((w.alloc (.cells #[.int .i64 6,.string s,.string nm,.int .i64 num,.string tx,.slice ra rn rc] 77)).alloc (.cells #[.int .i64 0,.int .i64 0,.int .i64 0,.int .i64 0,.int .i64 0,.slice none 0 0,.slice none 0 0,.slice none 0 0,.string ⟨#[]⟩,.int .i64 0,.string ⟨#[]⟩,.string ⟨#[]⟩] 30)).alloc (.cells #[.int .i64 0,.int .i64 0,.int .i64 0,.int .i64 0,.int .i64 0,.slice none 0 0,.slice none 0 0,.slice none 0 0,.string ⟨#[]⟩,.int .i64 0,.string ⟨#[]⟩,.string ⟨#[]⟩] 30):=⟨_,rfl⟩
 have hB:=(al3 hW).1;have xE:=(al3 hW).2.2.1;have HC:Hid _:=h W hB;have HW:Hid _:=hW;obtain⟨e0,e1,e2,e3⟩:=CellsAt.c4 xE 0 1 2 3;clear hW xE h;go_enter func139,ntmps139;go_upto_region 2 with fail;rw[←HW.out];clear HW;go_wp2_with fail;refine Calls.mono HC.out ?_;rintro e w1 ⟨rfl,hb1⟩;exact⟨rfl,rfl,hB.trans (hb1.mono hB.size)⟩
theorem changePin_no (d:Nat) (s nm tx:ByteArray) (num:Int) (ra:Option Addr) (rn rc:Nat) (c:Int) (a b:ByteArray) (w:World) (h:∀X,Below w.heap.size w X->Calls prog 170 #[.pointer (some ⟨d,0,none⟩),.string nm,.string s] X fun e w'=>e=.panicked [{v:=refV c a b,recovered:=false}]/\Below X.heap.size X w'):
 Calls prog 139 #[.pointer (some ⟨d,0,none⟩),.agg #[.int .i64 2,.string s,.string nm,.int .i64 num,.string tx,.slice ra rn rc]] w fun e w'=>e=.panicked [{v:=refV c a b,recovered:=false}]/\Below w.heap.size w w':=by
 obtain⟨W,hW⟩:∃W,W=((w.alloc (.cells #[.int .i64 2,.string s,.string nm,.int .i64 num,.string tx,.slice ra rn rc] 77)).alloc (.cells #[.int .i64 0,.int .i64 0,.int .i64 0,.int .i64 0,.int .i64 0,.slice none 0 0,.slice none 0 0,.slice none 0 0,.string ⟨#[]⟩,.int .i64 0,.string ⟨#[]⟩,.string ⟨#[]⟩] 30)).alloc (.cells #[.int .i64 0,.int .i64 0,.int .i64 0,.int .i64 0,.int .i64 0,.slice none 0 0,.slice none 0 0,.slice none 0 0,.string ⟨#[]⟩,.int .i64 0,.string ⟨#[]⟩,.string ⟨#[]⟩] 30):=⟨_,rfl⟩
 have hB:=(al3 hW).1;have xE:=(al3 hW).2.2.1;have HC:Hid _:=h W hB;have HW:Hid _:=hW;obtain⟨e0,e1,e2,e3⟩:=CellsAt.c4 xE 0 1 2 3;clear hW xE h;go_enter func139,ntmps139;go_upto_region 2 with fail;rw[←HW.out];clear HW;go_wp2_with fail;refine Calls.mono HC.out ?_;rintro e w1 ⟨rfl,hb1⟩;exact⟨rfl,rfl,hB.trans (hb1.mono hB.size)⟩
theorem changeLease_yes (base d m:Nat) (O P L:Value) (wd now given births:Int) (ks:List Kd) (ps:List Pd) (ls:List Ld) (s nm tx:ByteArray) (num:Int) (ra:Option Addr) (rn rc:Nat) (w:World) (h:DU w base d m O P L wd now given births ks ps ls) (hsz:∀k∈ks,(k.sum.size:Int)=wd) (hth:There ks s) (hl:ls.length<200) (hg0:0<=given) (hg1:given<1000000000) (hn0:0<=now) (hn1:now<=1000000000) (ht0:0<=num) (ht1:num<=1000000000):
 Calls prog 139 #[.pointer (some ⟨d,0,none⟩),.agg #[.int .i64 4,.string s,.string nm,.int .i64 num,.string tx,.slice ra rn rc]] w fun e w'=>e=.returned (.agg #[.int .i64 0,.int .i64 0,.int .i64 0,.int .i64 0,.int .i64 0,.slice none 0 0,.slice none 0 0,.slice none 0 0,.string ⟨#[]⟩,.int .i64 (given+1),.string ⟨#[]⟩,.string ⟨#[]⟩])/\∃L',DU w' base d m O P L' wd now (given+1) births ks ps (ls++[⟨given+1,s,now+num⟩])/\Tn (d::L.ownBlock.toList) w w':=by
 obtain⟨W,hW⟩:∃W,W=((w.alloc (.cells #[.int .i64 4,.string s,.string nm,.int .i64 num,.string tx,.slice ra rn rc] 77)).alloc (.cells #[.int .i64 0,.int .i64 0,.int .i64 0,.int .i64 0,.int .i64 0,.slice none 0 0,.slice none 0 0,.slice none 0 0,.string ⟨#[]⟩,.int .i64 0,.string ⟨#[]⟩,.string ⟨#[]⟩] 30)).alloc (.cells #[.int .i64 0,.int .i64 0,.int .i64 0,.int .i64 0,.int .i64 0,.slice none 0 0,.slice none 0 0,.slice none 0 0,.string ⟨#[]⟩,.int .i64 0,.string ⟨#[]⟩,.string ⟨#[]⟩] 30):=⟨_,rfl⟩
 have hB:=(al3 hW).1;have hzW:=(al3 hW).2.1;have xE:=(al3 hW).2.2.1;have zR:CellsAt W (w.heap.size+1) z12:=by
  have h1:=CellsAt.new (w.alloc (.cells #[.int .i64 4,.string s,.string nm,.int .i64 num,.string tx,.slice ra rn rc] 77)) z12 30;rw[World.size_alloc] at h1;rw[hW];exact CellsAt.below (v:=.int .i64 0) h1 ((Below.refl _ _).alloc (Nat.le_refl _) _)
 have zO:CellsAt W (w.heap.size+2) z12:=by
  have h1:=CellsAt.new ((w.alloc (.cells #[.int .i64 4,.string s,.string nm,.int .i64 num,.string tx,.slice ra rn rc] 77)).alloc (.cells #[.int .i64 0,.int .i64 0,.int .i64 0,.int .i64 0,.int .i64 0,.slice none 0 0,.slice none 0 0,.slice none 0 0,.string ⟨#[]⟩,.int .i64 0,.string ⟨#[]⟩,.string ⟨#[]⟩] 30)) z12 30;rw[World.size_alloc,World.size_alloc] at h1;rw[hW];exact h1
 have hRb:W.heap[w.heap.size+1]?=some (.cells #[.int .i64 0,.int .i64 0,.int .i64 0,.int .i64 0,.int .i64 0,.slice none 0 0,.slice none 0 0,.slice none 0 0,.string ⟨#[]⟩,.int .i64 0,.string ⟨#[]⟩,.string ⟨#[]⟩] 30):=by
  rw[hW,Below.heap_alloc _ _ _ (by simp)];have:=heap_alloc_new (w.alloc (.cells #[.int .i64 4,.string s,.string nm,.int .i64 num,.string tx,.slice ra rn rc] 77)) (.cells #[.int .i64 0,.int .i64 0,.int .i64 0,.int .i64 0,.int .i64 0,.slice none 0 0,.slice none 0 0,.slice none 0 0,.string ⟨#[]⟩,.int .i64 0,.string ⟨#[]⟩,.string ⟨#[]⟩] 30);rw[World.size_alloc] at this;exact this
 have hOb:W.heap[w.heap.size+2]?=some (.cells #[.int .i64 0,.int .i64 0,.int .i64 0,.int .i64 0,.int .i64 0,.slice none 0 0,.slice none 0 0,.slice none 0 0,.string ⟨#[]⟩,.int .i64 0,.string ⟨#[]⟩,.string ⟨#[]⟩] 30):=by
  have:=heap_alloc_new ((w.alloc (.cells #[.int .i64 4,.string s,.string nm,.int .i64 num,.string tx,.slice ra rn rc] 77)).alloc (.cells #[.int .i64 0,.int .i64 0,.int .i64 0,.int .i64 0,.int .i64 0,.slice none 0 0,.slice none 0 0,.slice none 0 0,.string ⟨#[]⟩,.int .i64 0,.string ⟨#[]⟩,.string ⟨#[]⟩] 30)) (.cells #[.int .i64 0,.int .i64 0,.int .i64 0,.int .i64 0,.int .i64 0,.slice none 0 0,.slice none 0 0,.slice none 0 0,.string ⟨#[]⟩,.int .i64 0,.string ⟨#[]⟩,.string ⟨#[]⟩] 30)
  rw[World.size_alloc,World.size_alloc] at this;rw[hW];exact this
 have hD:=h.below hB;have hdl:=h.dr.box.lt;have hlt:∀b∈d::L.ownBlock.toList,b<w.heap.size:=fun b hb=>h.dr.lts b (by unfold vB;simp at hb ⊢;rcases hb with rfl|hb<;>simp[*]);have HC:Hid _:=lend_yes base d m O P L wd now given births ks ps ls s num W hD hsz hth hl hg0 hg1 hn0 hn1 ht0 ht1;have HW:Hid _:=hW
 have HZ:Hid (CellsAt W (w.heap.size+1) z12/\CellsAt W (w.heap.size+2) z12/\W.heap[w.heap.size+1]?=some (.cells #[.int .i64 0,.int .i64 0,.int .i64 0,.int .i64 0,.int .i64 0,.slice none 0 0,.slice none 0 0,.slice none 0 0,.string ⟨#[]⟩,.int .i64 0,.string ⟨#[]⟩,.string ⟨#[]⟩] 30)/\W.heap[w.heap.size+2]?=some (.cells #[.int .i64 0,.int .i64 0,.int .i64 0,.int .i64 0,.int .i64 0,.slice none 0 0,.slice none 0 0,.slice none 0 0,.string ⟨#[]⟩,.int .i64 0,.string ⟨#[]⟩,.string ⟨#[]⟩] 30)/\Below w.heap.size w W/\W.heap.size=w.heap.size+3/\base<=w.heap.size):=⟨zR,zO,hRb,hOb,hB,hzW,h.lo⟩
 have HLt:Hid (∀b∈d::L.ownBlock.toList,b<w.heap.size):=hlt;obtain⟨e0,e1,e2,e3⟩:=CellsAt.c4 xE 0 1 2 3;clear hW h hD zR zO hRb hOb hB hzW xE hlt;go_enter func139,ntmps139;go_upto_region 2 with fail;rw[←HW.out];clear HW;go_wp2_with fail;refine Calls.mono HC.out ?_;rintro e w1 ⟨rfl,V,hd1,ht1⟩;have zz:=HZ.out.2.2.2.2.2.1
 have zR1:CellsAt w1 (w.heap.size+1) z12:=CellsAt.same HZ.out.1 (ht1.block _ (by omega) (fun h=>by have:=HLt.out _ h;omega));have zO1:CellsAt w1 (w.heap.size+2) z12:=CellsAt.same HZ.out.2.1 (ht1.block _ (by omega) (fun h=>by have:=HLt.out _ h;omega))
 have hR1:w1.heap[w.heap.size+1]?=some (.cells #[.int .i64 0,.int .i64 0,.int .i64 0,.int .i64 0,.int .i64 0,.slice none 0 0,.slice none 0 0,.slice none 0 0,.string ⟨#[]⟩,.int .i64 0,.string ⟨#[]⟩,.string ⟨#[]⟩] 30):=(ht1.block _ (by omega) (fun h=>by have:=HLt.out _ h;omega)).trans HZ.out.2.2.1
 have hO1:w1.heap[w.heap.size+2]?=some (.cells #[.int .i64 0,.int .i64 0,.int .i64 0,.int .i64 0,.int .i64 0,.slice none 0 0,.slice none 0 0,.slice none 0 0,.string ⟨#[]⟩,.int .i64 0,.string ⟨#[]⟩,.string ⟨#[]⟩] 30):=(ht1.block _ (by omega) (fun h=>by have:=HLt.out _ h;omega)).trans HZ.out.2.2.2.1
 have HD1:Hid _:=And.intro hd1 (And.intro ht1 (And.intro (hd1.notin hR1 (by omega)) (hd1.notin hO1 (by omega))));obtain⟨⟨y0,q0⟩,⟨y1,q1⟩,⟨y2,q2⟩,⟨y3,q3⟩,⟨y4,q4⟩,⟨y5,q5⟩,⟨y6,q6⟩,⟨y7,q7⟩,⟨y8,q8⟩,⟨y9,q9⟩,⟨y10,q10⟩,y11,q11⟩:=z12at zR1;obtain⟨⟨v0,p0⟩,⟨v1,p1⟩,⟨v2,p2⟩,⟨v3,p3⟩,⟨v4,p4⟩,⟨v5,p5⟩,⟨v6,p6⟩,⟨v7,p7⟩,⟨v8,p8⟩,⟨v9,p9⟩,⟨v10,p10⟩,v11,p11⟩:=z12at zO1;clear hd1 ht1 zR1 zO1 hR1 hO1 e0 e1 e2 e3 HC zz
 go_wp2;refine bodyPost_ret (v:=.agg #[.int .i64 0,.int .i64 0,.int .i64 0,.int .i64 0,.int .i64 0,.slice none 0 0,.slice none 0 0,.slice none 0 0,.string ⟨#[]⟩,.int .i64 (given+1),.string ⟨#[]⟩,.string ⟨#[]⟩]) (by simp[results,results139,go_sem,y0,y1,y2,y3,y4,y5,y6,y7,y8,y9,y10,y11]) rfl ?_
 have T9:=(Tn.set (V:=[w.heap.size+1,w.heap.size+2]) w1 (w.heap.size+2) 9 (.int .i64 (given+1)) (by simp)).trans (Tn.mono (tn12 (w1.setCell ⟨w.heap.size+2,9,none⟩ (.int .i64 (given+1))) (w.heap.size+1) (.int .i64 0) (.int .i64 0) (.int .i64 0) (.int .i64 0) (.int .i64 0) (.slice none 0 0) (.slice none 0 0) (.slice none 0 0) (.string ⟨#[]⟩) (.int .i64 (given+1)) (.string ⟨#[]⟩) (.string ⟨#[]⟩)) (by simp))
 refine⟨rfl,V,HD1.out.1.turn T9 (by intro b hb;simp at hb;have:=HZ.out.2.2.2.2.2.2;rcases hb with rfl|rfl;exact⟨by omega,HD1.out.2.2.1⟩;exact⟨by omega,HD1.out.2.2.2⟩),?_⟩;have t0:=(Tn.of (V:=d::L.ownBlock.toList) HZ.out.2.2.2.2.1).trans HD1.out.2.1
 exact⟨T9.os.trans t0.os,T9.tape.trans t0.tape,T9.output.trans t0.output,Nat.le_trans t0.size T9.size,fun b hb hv=>(T9.block b (Nat.lt_of_lt_of_le hb t0.size) (by simp;omega)).trans (t0.block b hb hv)⟩
end Go.Proofs.YtpekbmegopfhfaaGreatDoor
