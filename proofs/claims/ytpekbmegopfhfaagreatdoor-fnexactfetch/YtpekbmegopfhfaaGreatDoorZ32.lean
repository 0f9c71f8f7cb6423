import Derived.Test.YtpekbmegopfhfaaGreatDoorZ31
set_option maxRecDepth 100000
set_option maxHeartbeats 16000000
namespace Go.Proofs.YtpekbmegopfhfaaGreatDoor
open Go.ChangeShapes Go.WideShapes Go.ChangeAt Go.RowKit _root_.Go.Proofs.Tryz
section
attribute [local go_sem] Oper.semAt_some
theorem rp_stop {V:World} {z B:Nat} {T U:TypeId} {v:Value} (t4:Boxed V (z+1) T (.pointer none)) (t5:Boxed V (z+1+1) U v) (hB:z+1+1<B) (u:Value):KeepsB B V ((V.setCell ⟨z+1,0,none⟩ (.pointer none)).setCell ⟨z+1+1,0,none⟩ u)/\Below z V ((V.setCell ⟨z+1,0,none⟩ (.pointer none)).setCell ⟨z+1+1,0,none⟩ u)/\Boxed ((V.setCell ⟨z+1,0,none⟩ (.pointer none)).setCell ⟨z+1+1,0,none⟩ u) (z+1) T (.pointer none)/\Boxed ((V.setCell ⟨z+1,0,none⟩ (.pointer none)).setCell ⟨z+1+1,0,none⟩ u) (z+1+1) U u:=by
 have g1:=grownBy_setCell' V (z+1) (.pointer none);have g2:=grownBy_setCell' (V.setCell ⟨z+1,0,none⟩ (.pointer none)) (z+1+1) u;have t4':=t4.set (.pointer none);have t5':Boxed (V.setCell ⟨z+1,0,none⟩ (.pointer none)) (z+1+1) U v:=(g1.block _ (Array.getElem?_eq_some_iff.1 t5).1 (fun e=>by have:=Option.some.inj e;omega)).trans t5
 refine⟨(KeepsB.ofG g1 (fun j e=>by cases e;omega)).trans (KeepsB.ofG g2 (fun j e=>by cases e;omega)),(Below.setCell (Below.setCell (Below.refl _ _) (show z<=z+1 by omega) _) (show z<=z+1+1 by omega) _),(g2.block _ (Array.getElem?_eq_some_iff.1 t4').1 (fun e=>by have:=Option.some.inj e;omega)).trans t4',t5'.set u⟩
theorem replay_any (wd:Int) (gf:Nat) (pre lb:Array Value) (xs:List ByteArray) (w:World) (h1:1<=wd) (h8:wd<=8) (hx:xs.length<=100000) (hs:∀s∈xs,s.size<=1048576) (hE:Env w) (eg:∀args w,(callFunc gf args).run prog w=.ok (.enter gf args) w) (hseq:∀W,Below w.heap.size w W->IterOk prog gf (fun l=>pre++ #[.func (.yield l) #[] #[]]++lb) xs w.heap.size W):
 Calls prog 45 #[.int .i64 wd,.func (.func gf) pre lb] w fun e w'=>Below w.heap.size w w'/\((∃n:Nat,RunNo wd xs n/\e=.returned (.tuple #[.pointer none,.int .i64 n]))∨(∃r d m O P L base,Run wd r0 xs r/\e=.returned (.tuple #[.pointer (some ⟨d,0,none⟩),.int .i64 0])/\Dr w' base d m O P L wd r.now r.given r.births r.ks r.ps r.ls/\(w.heap.size<=base/\base+4<=m))):=by
 refine(callsIn_wide (n:=3)).1 ?_;refine callsIn_of_wp_marks func45 rfl trivial ?_ rfl;simp only[ntmps45,List.size_toArray,List.length_cons,List.length_nil,Nat.reduceAdd,Nat.reduceSub,Array.replicate_succ,Array.replicate_zero,List.push_toArray,List.append_toArray,List.nil_append,List.cons_append]
 obtain⟨W0,hW0⟩:∃W,W=((w.alloc (.cells #[.int .i64 wd] 3)).alloc (.cells #[.pointer none] 82)).alloc (.cells #[.int .i64 0] 3):=⟨_,rfl⟩;have b0:=(al3 hW0).1;have z0:=(al3 hW0).2.1;have HD:Hid _:=draftOfN_any wd 0 0 0 none none none 0 0 0 [] [] [] W0 ⟨.inl rfl,.inl rfl,.inl rfl⟩ (by simp) (by simp) (by simp) (by simp) h8;have HW0:Hid _:=hW0
 gi_wp2_with fail
 refine⟨trivial,?_⟩;rw[←HW0.out];refine(callsIn_wide.2 HD.out).mono ?_;rintro e w1 ⟨d,m,O,P,L,rfl,hDr,_,_,hb1⟩;have hB1:=b0.trans (hb1.mono b0.size);obtain⟨W2,hW2⟩:∃W,W=(w1.alloc (.cells #[.pointer (some ⟨d,0,none⟩)] 82)).alloc (.cells #[.int .i64 0] 3):=⟨_,rfl⟩;have HW2:Hid _:=hW2;have hb2:=(al2 hW2).1;have hB2:Below w.heap.size w W2:=hB1.trans (hb2.mono hB1.size);have z2:=(al2 hW2).2.1
 have hz1:w.heap.size+3<=w1.heap.size:=by have:=hb1.size;omega
 have x2:Boxed W2 w.heap.size 3 (.int .i64 wd):=by
  show W2.heap[w.heap.size]?=_;rw[hb2.block _ (by omega),hb1.block _ (by omega),hW0,Below.heap_alloc _ _ _ (by simp;omega),Below.heap_alloc _ _ _ (by simp)];exact heap_alloc_new w _
 have x4:Boxed W2 (w.heap.size+1) 82 (.pointer none):=by
  show W2.heap[w.heap.size+1]?=_;rw[hb2.block _ (by omega),hb1.block _ (by omega),hW0,Below.heap_alloc _ _ _ (by simp)];have:=heap_alloc_new (w.alloc (.cells #[.int .i64 wd] 3)) (.cells #[.pointer none] 82);rw[World.size_alloc] at this;exact this
 have x5:Boxed W2 (w.heap.size+1+1) 3 (.int .i64 0):=by
  show W2.heap[w.heap.size+1+1]?=_;rw[hb2.block _ (by omega),hb1.block _ (by omega),hW0];have:=heap_alloc_new ((w.alloc (.cells #[.int .i64 wd] 3)).alloc (.cells #[.pointer none] 82)) (.cells #[.int .i64 0] 3);rw[World.size_alloc,World.size_alloc] at this;exact this
 have x6:Boxed W2 w1.heap.size 82 (.pointer (some ⟨d,0,none⟩)):=by
  show W2.heap[w1.heap.size]?=_;rw[hW2,Below.heap_alloc _ _ _ (by simp)];exact heap_alloc_new w1 _
 have x7:Boxed W2 (w1.heap.size+1) 3 (.int .i64 0):=by
  show W2.heap[w1.heap.size+1]?=_;rw[hW2];have:=heap_alloc_new (w1.alloc (.cells #[.pointer (some ⟨d,0,none⟩)] 82)) (.cells #[.int .i64 0] 3);rw[World.size_alloc] at this;exact this
 have hdl:d<w1.heap.size:=hDr.lts d (by simp[vB]);have hml:m<w1.heap.size:=hDr.lts m (by simp[vB]);have hbd:=hDr.bd;have hbm:=hDr.bm;have hD2:Dr W2 w.heap.size d m O P L wd 0 0 0 [] [] []:=(hDr.below hb2).rebase (by omega);have HE:Hid (∀V,Below w.heap.size w V->Env V):=fun V hV=>hE.below hV;clear HD HW0 hW0 hW2 hDr hb1 hb2 hB1 b0 hE
 gi_wp2_with fail
 rw[←HW2.out];clear HW2;have stA:∀(b:Nat) (T:TypeId) (v:Value),b<W2.heap.size->Stable W2.heap.size (fun _ V=>Boxed V b T v):=fun b T v hb=>stable_block (.cells #[v] T) hb;refine wp_range (gf:=gf) (pre:=pre) (lb:=lb) rfl eg (xs:=xs) (n0:=w.heap.size) (hseq W2 hB2) hB2.size rfl
  (fun k V=>Below w.heap.size w V/\Boxed V w.heap.size 3 (.int .i64 wd)/\Boxed V (w.heap.size+1) 82 (.pointer none)/\Boxed V (w.heap.size+1+1) 3 (.int .i64 0)/\Boxed V w1.heap.size 82 (.pointer (some ⟨d,0,none⟩))/\Boxed V (w1.heap.size+1) 3 (.int .i64 k)/\∃r O P L,Run wd r0 (xs.take k) r/\Dr V w.heap.size d m O P L wd r.now r.given r.births r.ks r.ps r.ls)
  (fun _ V=>Below w.heap.size w V/\∃n:Nat,RunNo wd xs n/\Boxed V (w.heap.size+1) 82 (.pointer none)/\Boxed V (w.heap.size+1+1) 3 (.int .i64 n))
  ?stI ?stX ⟨hB2,x2,x4,x5,x6,x7,r0,O,P,L,rfl,hD2⟩
  (fun s=>{tmps:= #[.int .i64 wd,.func (.func gf) pre lb,.pointer (some ⟨w.heap.size,0,none⟩),undef,.pointer (some ⟨w.heap.size+1,0,none⟩),.pointer (some ⟨w.heap.size+1+1,0,none⟩),.pointer (some ⟨w1.heap.size,0,none⟩),.pointer (some ⟨w1.heap.size+1,0,none⟩),.string s,undef,undef,.int .i64 wd,.agg #[.int .i64 wd,.int .i64 0,.int .i64 0,.int .i64 0,.slice none 0 0,.slice none 0 0,.slice none 0 0],.pointer (some ⟨d,0,none⟩),.func (.func gf) pre lb,.string s,undef,undef,undef,undef,undef,undef,undef,undef,undef,undef,undef,undef,undef,undef,undef,undef,undef,undef,undef],defers:=[]}) ?assign ?body ?done ?stop
 case stI=>
  refine fun k V V' row hJ hg hr=> ?_;obtain⟨q1,q2,q3,q4,q5,q6,r,O,P,L,q7,q8⟩:=hJ
  exact⟨stable_below w (Nat.le_refl _) hB2.size k V V' row q1 hg hr,stA _ _ _ (by omega) k V V' row q2 hg hr,stA _ _ _ (by omega) k V V' row q3 hg hr,stA _ _ _ (by omega) k V V' row q4 hg hr,stA _ _ _ (by omega) k V V' row q5 hg hr,stA _ _ _ (by omega) k V V' row q6 hg hr,r,O,P,L,q7,q8.stable (B:=W2.heap.size) (by omega) (by omega) (by omega) hg hr⟩
 case stX=>
  refine fun k V V' row hJ hg hr=> ?_;obtain⟨q1,n,q2,q3,q4⟩:=hJ;exact⟨stable_below w (Nat.le_refl _) hB2.size k V V' row q1 hg hr,n,q2,stA _ _ _ (by omega) k V V' row q3 hg hr,stA _ _ _ (by omega) k V V' row q4 hg hr⟩
 case assign=>
  intro l2 m2 s V K hK
  gi_wp2
  exact hK
 case body=>
  rintro l2 m2 k s V hsk ⟨hbl,y2,y4,y5,y6,y7,r,O,P,L,hrun,hdr⟩ hsz;have hkl:k<xs.length:=(List.getElem?_eq_some_iff.1 hsk).1;obtain⟨V1,hV1⟩:∃V1,V1=V.setCell ⟨w1.heap.size+1,0,none⟩ (.int .i64 ((k:Int)+1)):=⟨_,rfl⟩;have g1:V.grownBy V1 (some (w1.heap.size+1)):=by rw[hV1];exact grownBy_setCell' V _ _
  have zV1:V1.heap.size=V.heap.size:=by rw[hV1];simp
  have bl1:Below w.heap.size w V1:=by rw[hV1];exact hbl.setCell (p:=⟨w1.heap.size+1,0,none⟩) (by show w.heap.size<=w1.heap.size+1;omega) _
  have u7:Boxed V1 (w1.heap.size+1) 3 (.int .i64 ((k:Int)+1)):=by rw[hV1];exact y7.set _
  have ou:∀{b:Nat} {T:TypeId} {v:Value},Boxed V b T v->b≠w1.heap.size+1->Boxed V1 b T v:=fun {b T v} hb hne=>(g1.block b (Array.getElem?_eq_some_iff.1 hb).1 (fun e=>hne (Option.some.inj e))).trans hb;have u2:=ou y2 (by omega);have u4:=ou y4 (by omega);have u5:=ou y5 (by omega);have u6:=ou y6 (by omega)
  have hdr1:=hdr.stable (B:=w1.heap.size) hdl hml (by omega) g1 (fun q e=>by cases e;exact⟨by omega,_,y7,by simp[notRow]⟩);have HR:Hid _:=iReadE_any s wd V1 (hs s (List.mem_of_getElem? hsk)) (HE.out V1 bl1);have c7:=y7.cell;have f7:=y7.frozen;have c2:=y2.cell;have hn2:¬w.heap.size=w1.heap.size+1:=by omega
  have HV1:Hid _:=hV1;clear hV1
  gi_wp2_with fail
  rw[←HV1.out];clear HV1;refine⟨trivial,fun h=>by simp[Fence.wide] at h,?_⟩;refine(callsIn_wide.2 HR.out).mono ?_;rintro e V2 ⟨v,rfl,ho2,hb2⟩;obtain⟨ra,rc,rfl⟩:=own_val ho2;obtain⟨V3,hV3⟩:∃V3,V3=V2.alloc (.cells #[.int .i64 (rdE s wd).k,.string (rdE s wd).sum,.string (rdE s wd).name,.int .i64 (rdE s wd).n,.string (rdE s wd).t,.slice ra (rdE s wd).ss.length rc] 77):=⟨_,rfl⟩;have hb23:=(al1 hV3).1
  have hb3:Below V1.heap.size V1 V3:=hb2.trans (hb23.mono hb2.size);have bl3:Below w.heap.size w V3:=bl1.trans (hb3.mono bl1.size);have o3:∀{b:Nat} {T:TypeId} {v:Value},Boxed V1 b T v->Boxed V3 b T v:=fun {b T v} hb=>(hb3.block b (Array.getElem?_eq_some_iff.1 hb).1).trans hb;have t2:=o3 u2;have t4:=o3 u4;have t5:=o3 u5;have t6:=o3 u6;have t7:=o3 u7;have hdr3:=hdr1.below hb3;have e3:=(al1 hV3).2.2
  have k13:KeepsB W2.heap.size V V3:=(KeepsB.ofG g1 (fun j e=>by cases e;omega)).trans (KeepsB.below hb3);have bn13:Below w.heap.size V V3:=(show Below w.heap.size V V1 from⟨g1.os,g1.tape,g1.output,g1.size,fun b hb=>g1.block b (by have:=hbl.size;omega) (fun e=>by have:=Option.some.inj e;omega)⟩).trans (hb3.mono bl1.size);have HV3:Hid _:=hV3
  have hzz:w.heap.size+3<=V2.heap.size:=by have h1:=hb2.size;have h2:=hsz;omega
  have hz7:w1.heap.size+1<V2.heap.size:=by have h1:=hb2.size;have h2:=hsz;omega
  clear hV3;cases hok:(rdE s wd).ok with
  |false=>
   have hbad:RunNo wd xs (k+1):=⟨k,r,s,rfl,hsk,hrun,.inl hok⟩;have c7':=t7.cell;have f5:=t5.frozen;have f4:=t4.frozen;have d4:=t4.cell;have d5:=t5.cell;clear c7 c2 f7 e3 HR ho2;have HS:Hid _:=rp_stop (B:=W2.heap.size) t4 t5 (by omega) (.int .i64 ((k:Int)+1))
   gi_wp2_with fail
   rw[←HV3.out];refine⟨trivial,?_⟩
   gi_wp2_with fail
   gi_region
   all_goals gi_wp2_with fail
   all_goals exact⟨k13.trans ⟨HS.out.1.size,HS.out.1.same⟩,bl3.trans HS.out.2.1.drew,k+1,hbad,HS.out.2.2.1,HS.out.2.2.2⟩
  |true=>
   have hoe:=(rdE_sound hok).1;have haok:AOk wd r.now r.given r.births r.ks r.ps r.ls (rdE s wd).k (rdE s wd).n (rdE s wd).t (rdE s wd).ss:=ROk.aok (hrun.ok (r0_ok h1 h8)) hoe (by have:=okE_text hoe;unfold maxLen;omega);have ho3:=own_below ho2 hb23;have hlts1:=hdr1.lts;have href:RefV V3 w.heap.size (vB d m O P L) ra (rdE s wd).ss:=by
    rcases ho3.2 with⟨_,h0⟩|⟨g,cap,cur,hv,hbg,hg,_⟩
    ·exact .inl (List.eq_nil_of_length_eq_zero h0)
    ·cases hv
     refine .inr ⟨g,0,rfl,(Array.getElem?_eq_some_iff.1 hg).1,fun hin=>by have:=hlts1 g hin;omega,.inr ⟨by omega,cur,hg⟩,fun i x hx=> ?_⟩;rcases SRow.own ho3 with h|⟨b',off',e',_,hc⟩
     ·rw[h] at hx
      simp at hx
     ·cases e'
      exact hc i x hx
   have HA:Hid _:=attempt_any d (vB d m O P L) (rdE s wd).k (rdE s wd).sum (rdE s wd).name (rdE s wd).t (rdE s wd).n ra (rdE s wd).ss.length rc (fun c a b=>ANo wd r.now r.given r.births r.ks r.ps r.ls (rdE s wd).k (rdE s wd).sum (rdE s wd).name (rdE s wd).n (rdE s wd).t (rdE s wd).ss c a b) (fun sm le X=>∃r',AYes wd r.now r.given r.births r.ks r.ps r.ls (rdE s wd).k (rdE s wd).sum (rdE s wd).name (rdE s wd).n (rdE s wd).t (rdE s wd).ss r'/\r'.sm=sm/\r'.le=le/\Drd w.heap.size d m wd r' X) V3 hdr3.lts (fun sm le X X' R cur q1 q2 q3 q4=>by
    obtain⟨r',g1,g2,g3,g4⟩:=q1;have hz3:=hb3.size;exact⟨r',g1,g2,g3,g4.stays q2 (by omega) (by omega) q4⟩) (fun X hX=>change_any w.heap.size d m O P L wd r.now r.given r.births r.ks r.ps r.ls (rdE s wd).k (rdE s wd).sum (rdE s wd).name (rdE s wd).n (rdE s wd).t (rdE s wd).ss ra rc X (DU.below ⟨hdr3⟩ hX) haok (href.move (U:=[]) (Tn.of hX) (by simp) (fun b hb=> .inl hb)))
   have d6:V2.cell? ⟨w1.heap.size,0,none⟩=some (.pointer (some ⟨d,0,none⟩)):=(hb2.cell (p:=⟨w1.heap.size,0,none⟩) (by show w1.heap.size<_;omega)).trans u6.cell;have hz6:w1.heap.size<V2.heap.size:=by omega
   have HTk:Hid (xs.take (k+1)=xs.take k++[s]):=by
    have hq:=List.take_succ_eq_append_getElem hkl;rw[(List.getElem?_eq_some_iff.1 hsk).2] at hq;exact hq
   clear c7 c2 f7 HR ho2 ho3 href haok hlts1 e3
   gi_wp2_with fail
   rw[←HV3.out];clear HV3;refine⟨trivial,fun h=>by simp[Fence.wide] at h,?_⟩;refine(callsIn_wide.2 HA.out).mono ?_;intro e V4 hat;obtain⟨c,a',b',hno,rfl,ht⟩|⟨sm,le,rfl,⟨r',hy,_,_,⟨O',P',L',hd'⟩⟩,ht⟩:=hat
   ·have hc0:(c !=0)=true:=by have:=hno.code;simp;omega
    have hbad:RunNo wd xs (k+1):=⟨k,r,s,rfl,hsk,hrun,.inr ⟨c,a',b',hno⟩⟩;have hk4:=hdr3.keepsB (B:=w1.heap.size) hdl hml ht;have hl4:Below w.heap.size V3 V4:=ht.below bl3.size (fun b hin=>by
     have:=hdr3;unfold vB at hin;simp only[List.mem_cons,List.mem_append,Option.mem_toList] at hin;rcases hin with h|h|h|h|h
     ·rw[h];exact this.bd
     ·rw[h];exact this.bm
     ·exact(own_lt this.ord h).1
     ·exact(own_lt this.pin h).1
     ·exact(own_lt this.lea h).1)
    have s7:Boxed V4 (w1.heap.size+1) 3 (.int .i64 ((k:Int)+1)):=hk4.same _ _ (by omega) t7 (by simp[notRow]);have s4:Boxed V4 (w.heap.size+1) 82 (.pointer none):=(ht.block _ (Array.getElem?_eq_some_iff.1 t4).1 (hdr3.boxNotin t4 (by simp[notRow]) (by omega) (by omega)).1).trans t4
    have s5:Boxed V4 (w.heap.size+1+1) 3 (.int .i64 0):=(ht.block _ (Array.getElem?_eq_some_iff.1 t5).1 (hdr3.boxNotin t5 (by simp[notRow]) (by omega) (by omega)).1).trans t5;have HS:Hid _:=rp_stop (B:=W2.heap.size) s4 s5 (by omega) (.int .i64 ((k:Int)+1));have c7':=s7.cell;have f5:=s5.frozen;have f4:=s4.frozen;have d4:=s4.cell;have d5:=s5.cell
    have K4:Hid _:=And.intro (hk4.mono (B':=W2.heap.size) (by omega)) hl4;clear hk4 hl4 ht hno d6 HA;have hfl:∀X:World,(Instr.field 30 (.agg #[.int .i64 c,.int .i64 0,.int .i64 0,.int .i64 0,.int .i64 0,.slice none 0 0,.slice none 0 0,.slice none 0 0,.string ⟨#[]⟩,.int .i64 0,.string a',.string b']) 0).run prog X=.ok (.int .i64 c) X:=fun _=>by kernel_rfl
    have hre:(refC c a' b').toArray= #[.int .i64 c,.int .i64 0,.int .i64 0,.int .i64 0,.int .i64 0,.slice none 0 0,.slice none 0 0,.slice none 0 0,.string ⟨#[]⟩,.int .i64 0,.string a',.string b']:=rfl;rw[hre];clear hre
    gi_wp2_with fail
    gi_region
    all_goals gi_wp2_with fail
    all_goals exact⟨(k13.trans K4.out.1).trans ⟨HS.out.1.size,HS.out.1.same⟩,(bl3.trans K4.out.2).trans HS.out.2.1.drew,k+1,hbad,HS.out.2.2.1,HS.out.2.2.2⟩
   ·have hk4:=hdr3.keepsB (B:=w1.heap.size) hdl hml ht
    have hl4:Below w.heap.size V3 V4:=ht.below bl3.size (fun b hin=>by
     have:=hdr3;unfold vB at hin;simp only[List.mem_cons,List.mem_append,Option.mem_toList] at hin;rcases hin with h|h|h|h|h
     ·rw[h];exact this.bd
     ·rw[h];exact this.bm
     ·exact(own_lt this.ord h).1
     ·exact(own_lt this.pin h).1
     ·exact(own_lt this.lea h).1)
    have s7:Boxed V4 (w1.heap.size+1) 3 (.int .i64 ((k:Int)+1)):=hk4.same _ _ (by omega) t7 (by simp[notRow]);have s6:Boxed V4 w1.heap.size 82 (.pointer (some ⟨d,0,none⟩)):=hk4.same _ _ (by omega) t6 (by simp[notRow]);have s2:Boxed V4 w.heap.size 3 (.int .i64 wd):=(ht.block _ (Array.getElem?_eq_some_iff.1 t2).1 (hdr3.boxNotin t2 (by simp[notRow]) (by omega) (by omega)).1).trans t2
    have s4:Boxed V4 (w.heap.size+1) 82 (.pointer none):=(ht.block _ (Array.getElem?_eq_some_iff.1 t4).1 (hdr3.boxNotin t4 (by simp[notRow]) (by omega) (by omega)).1).trans t4;have s5:Boxed V4 (w.heap.size+1+1) 3 (.int .i64 0):=(ht.block _ (Array.getElem?_eq_some_iff.1 t5).1 (hdr3.boxNotin t5 (by simp[notRow]) (by omega) (by omega)).1).trans t5
    have hrun':Run wd r0 (xs.take (k+1)) r':=by rw[HTk.out];exact hrun.snoc ⟨hok,hy⟩
    have K4:Hid _:=And.intro (hk4.mono (B':=W2.heap.size) (by omega)) hl4;have HF:Hid _:=And.intro s7 (And.intro s6 (And.intro s2 (And.intro s4 (And.intro s5 (And.intro hrun' hd')))));clear hk4 hl4 ht d6 HA s7 s6 s2 s4 s5 hrun' hd' hy
    have hfl:∀X:World,(Instr.field 30 (.agg #[.int .i64 0,.int .i64 0,.int .i64 0,.int .i64 0,.int .i64 0,.slice none 0 0,.slice none 0 0,.slice none 0 0,.string sm,.int .i64 le,.string ⟨#[]⟩,.string ⟨#[]⟩]) 0).run prog X=.ok (.int .i64 0) X:=fun _=>by kernel_rfl
    gi_wp2_with fail
    exact⟨k13.trans K4.out.1,⟨bl3.trans K4.out.2,HF.out.2.2.1,HF.out.2.2.2.1,HF.out.2.2.2.2.1,HF.out.2.1,HF.out.1,r',O',P',L',HF.out.2.2.2.2.2.1,HF.out.2.2.2.2.2.2⟩,bn13.trans K4.out.2⟩
 case done=>
  rintro D V hD ⟨hbl,y2,y4,y5,y6,y7,r,O,P,L,hrun,hdr⟩ hK;rw[List.take_of_length_le (Nat.le_refl _)] at hrun;have c6:=y6.cell;have f4:=y4.frozen;have d4:=y4.cell;have f5:=y5.frozen;have d5:=y5.cell;have g1:=grownBy_setCell' V (w.heap.size+1) (.pointer (some ⟨d,0,none⟩));have g2:=grownBy_setCell' (V.setCell ⟨w.heap.size+1,0,none⟩ (.pointer (some ⟨d,0,none⟩))) (w.heap.size+1+1) (.int .i64 0)
  obtain⟨R1,hR1⟩:∃R,R=V.setCell ⟨w.heap.size+1,0,none⟩ (.pointer (some ⟨d,0,none⟩)):=⟨_,rfl⟩;obtain⟨R2,hR2⟩:∃R,R=R1.setCell ⟨w.heap.size+1+1,0,none⟩ (.int .i64 0):=⟨_,rfl⟩;rw[←hR1] at g1 g2;rw[←hR2] at g2;have p4:Boxed R1 (w.heap.size+1) 82 (.pointer (some ⟨d,0,none⟩)):=by rw[hR1];exact y4.set _
  have p5:Boxed R1 (w.heap.size+1+1) 3 (.int .i64 0):=(g1.block _ (Array.getElem?_eq_some_iff.1 y5).1 (fun e=>by have:=Option.some.inj e;omega)).trans y5;have q5:Boxed R2 (w.heap.size+1+1) 3 (.int .i64 0):=by rw[hR2];exact p5.set _
  have q4:Boxed R2 (w.heap.size+1) 82 (.pointer (some ⟨d,0,none⟩)):=(g2.block _ (Array.getElem?_eq_some_iff.1 p4).1 (fun e=>by have:=Option.some.inj e;omega)).trans p4
  have hK2:R2.heap[D]?=some (.deferred (some [])):=(g2.block _ (by have:=g1.size;have:=(Array.getElem?_eq_some_iff.1 hK).1;omega) (fun e=>by have:=Option.some.inj e;omega)).trans ((g1.block _ (Array.getElem?_eq_some_iff.1 hK).1 (fun e=>by have:=Option.some.inj e;omega)).trans hK);have hd1:=DU.turn ⟨hdr⟩ (tn_grown g1) (fun b hb=>by
   obtain rfl:b=w.heap.size+1:=by simpa using hb
   exact⟨by omega,hdr.boxNotin y4 (by simp[notRow]) (by omega) (by omega)⟩)
  have hd2:=DU.turn hd1 (tn_grown g2) (fun b hb=>by
   obtain rfl:b=w.heap.size+1+1:=by simpa using hb
   exact⟨by omega,hd1.dr.boxNotin p5 (by simp[notRow]) (by omega) (by omega)⟩)
  have hd3:=hd2.dr.stable (B:=W2.heap.size) (by omega) (by omega) (by omega) (grownBy_putObj' R2 D (.deferred none)) (fun r e=>by cases e;exact⟨hD,_,hK2,rfl⟩);have e4:=cell_kept q4.cell (grownBy_putObj' _ D (.deferred none)) (fun r e=>by cases e;exact⟨_,hK2,rfl⟩);have e5:=cell_kept q5.cell (grownBy_putObj' _ D (.deferred none)) (fun r e=>by cases e;exact⟨_,hK2,rfl⟩)
  have bR:Below w.heap.size w R2:=by rw[hR2,hR1];exact(hbl.setCell (p:=⟨w.heap.size+1,0,none⟩) (by show _<=_+1;omega) _).setCell (p:=⟨w.heap.size+1+1,0,none⟩) (by show _<=_+1+1;omega) _
  have HR:Hid _:=And.intro hR1 hR2;clear g1 g2 hR1 hR2 p4 p5 q4 q5 hd1 hd2 hdr
  gi_wp2_with fail
  rw[←HR.out.1,←HR.out.2];refine⟨by simp,.inl ⟨_,_,rfl,run_takeDeferred hK2,?_⟩⟩;refine⟨.tuple #[.pointer (some ⟨d,0,none⟩),.int .i64 0],by simp[results,results45,go_sem,e4,e5],?_,.inr ⟨r,d,m,O,P,L,w.heap.size,hrun,rfl,hd3,Nat.le_refl _,by omega⟩⟩;exact bR.trans ⟨rfl,rfl,rfl,by simp,fun i hi=>World.putObj_heap_other (by omega)⟩
 case stop=>
  rintro D k V hD ⟨hbl,n,hno,y4,y5⟩ hK;have d4:=cell_kept y4.cell (grownBy_putObj' _ D (.deferred none)) (fun r e=>by cases e;exact⟨_,hK,rfl⟩);have d5:=cell_kept y5.cell (grownBy_putObj' _ D (.deferred none)) (fun r e=>by cases e;exact⟨_,hK,rfl⟩)
  gi_wp2
  refine⟨by simp,.inl ⟨_,_,rfl,run_takeDeferred hK,?_⟩⟩;refine⟨.tuple #[.pointer none,.int .i64 n],by simp[results,results45,go_sem,d4,d5],?_,.inl ⟨n,hno,rfl⟩⟩;exact hbl.trans ⟨rfl,rfl,rfl,by simp,fun i hi=>World.putObj_heap_other (by omega)⟩
end
def RAns (wd:Int) (xs:List ByteArray) (w:World) (e:Ending) (w':World):Prop:=
 ∃(x:An) (T P L:Value) (rs:List Value),RTo wd xs x/\e=.returned (.agg #[.int .i64 x.code,.int .i64 x.wd,.int .i64 x.now,.int .i64 x.given,.int .i64 x.births,T,P,L,.string x.sm,.int .i64 x.le,.string x.a,.string x.b])/\SAns w' w.heap.size T P L rs x.ks x.ps x.ls/\Below w.heap.size w w'
section
attribute [local go_sem] Oper.semAt_some
theorem stable_pure {B:Nat} (p:Nat->Prop):Stable B (fun k _=>p k):=fun _ _ _ _ h _ _=>h
theorem KeepsB.of_grownBy {B:Nat} {W W':World} {row:Option Nat} (hg:W.grownBy W' row) (hrow:∀j,row=some j->j<B):KeepsB B W W':=
 ⟨hg.size,fun b _ hb h _=>(hg.block b (Array.getElem?_eq_some_iff.1 h).1 (fun e=>by have:=hrow b e.symm;omega)).trans h⟩
theorem diskOf_any (a b:Option Addr) (n m c d:Nat) (w:World):
 Calls prog 58 #[.agg #[.slice a n c,.slice b m d]] w fun e w'=>e=.returned (.agg #[.slice a n c,.slice b m d])/\Below w.heap.size w w':=by
 have hb:Below w.heap.size w ((w.alloc (.cells #[.slice a n c,.slice b m d] 40)).alloc (.cells #[.slice a n c,.slice b m d] 99)):=((Below.refl _ _).alloc (Nat.le_refl _) _).alloc (by simp) _;go_enter func58,ntmps58;go_wp2;refine bodyPost_ret (v:=.agg #[.slice a n c,.slice b m d]) (by simp[results,results58,go_sem]) rfl ⟨rfl,?_⟩;exact hb
theorem count_any (a b:Option Addr) (n m c d:Nat) (w:World) (hn:n<=1048576) (hm:m<=1048576):
 Calls prog 108 #[.agg #[.slice a n c,.slice b m d]] w fun e w'=>e=.returned (.int .i64 (n+m))/\Below w.heap.size w w':=by
 have hb:Below w.heap.size w (w.alloc (.cells #[.slice a n c,.slice b m d] 99)):=(Below.refl _ _).alloc (Nat.le_refl _) _;go_enter func108,ntmps108;go_wp2;go_ret;exact⟨rfl,hb⟩
theorem iValidLog_any (a b:Option Addr) (c d:Nat) (ss tt:List ByteArray) (w:World) (hr:SRow w w.heap.size a ss) (hq:SRow w w.heap.size b tt) (hl:ss.length<=1048576) (hl':tt.length<=1048576)
 (hs:∀s∈ss,s.size<=1048576) (hs':∀s∈tt,s.size<=1048576):
 Calls prog 57 #[.agg #[.slice a ss.length c,.slice b tt.length d]] w fun e w'=>e=.returned (.bool (okLog ss tt))/\Below w.heap.size w w':=by
 refine(callsIn_wide (n:=3)).1 ?_;refine callsIn_of_wp_marks func57 rfl trivial ?_ rfl;simp only[ntmps57,List.size_toArray,List.length_cons,List.length_nil,Nat.reduceAdd,Nat.reduceSub,Array.replicate_succ,Array.replicate_zero,List.push_toArray,List.append_toArray,List.nil_append,List.cons_append]
 gi_wp2_with fail
 refine⟨trivial,?_⟩;have hbA:Below w.heap.size w ((w.alloc (.cells #[.slice a ss.length c,.slice b tt.length d] 40)).alloc (.cells #[.bool false] 4)):=((Below.refl _ _).alloc (Nat.le_refl _) _).alloc (by simp) _;have hxA:Boxed ((w.alloc (.cells #[.slice a ss.length c,.slice b tt.length d] 40)).alloc (.cells #[.bool false] 4)) (w.heap.size+1) 4 (.bool false):=by
  have:=Boxed.new (w.alloc (.cells #[.slice a ss.length c,.slice b tt.length d] 40)) 4 (.bool false);rwa[World.size_alloc] at this
 have hzA:((w.alloc (.cells #[.slice a ss.length c,.slice b tt.length d] 40)).alloc (.cells #[.bool false] 4)).heap.size=w.heap.size+2:=by simp
 refine(callsIn_wide.2 (diskOf_any a b ss.length tt.length c d _)).mono ?_;rintro e w1 ⟨rfl,hb1⟩;have hB1:=hbA.trans (hb1.mono (by simp;omega));have hx1:Boxed w1 (w.heap.size+1) 4 (.bool false):=(hb1.block _ (by simp)).trans hxA;have hz1:=hb1.size;rw[hzA] at hz1;clear hb1 hxA hzA hbA
 gi_wp2_with fail
 refine⟨trivial,?_⟩;have hbB:Below w.heap.size w (w1.alloc (.cells #[.slice a ss.length c,.slice b tt.length d] 99)):=hB1.alloc hB1.size _;have hxB:=hx1.alloc (.cells #[.slice a ss.length c,.slice b tt.length d] 99);refine(callsIn_wide.2 (count_any a b ss.length tt.length c d _ hl hl')).mono ?_;rintro e w2 ⟨rfl,hb2⟩;have hB2:=hbB.trans (hb2.mono (by simp;omega))
 have hx2:Boxed w2 (w.heap.size+1) 4 (.bool false):=(hb2.block _ (by simp;omega)).trans hxB;have hz2:=hb2.size;simp at hz2;have hd0:w2.cell? ⟨w1.heap.size,0,none⟩=some (.slice a ss.length c):=by rw[hb2.cell (p:=⟨w1.heap.size,0,none⟩) (by simp)];simp
 have hd1:w2.cell? ⟨w1.heap.size,1,none⟩=some (.slice b tt.length d):=by rw[hb2.cell (p:=⟨w1.heap.size,1,none⟩) (by simp)];simp
 have hxc:=hx2.cell;have hxf:=hx2.frozen;clear hb2 hxB hbB hx1 hB1;by_cases hlen:ss.length+tt.length<=4000
 ·gi_wp2_with fail
  have hb1:w.heap.size+1<w2.heap.size:=hx2.lt;refine wp_range (gf:=59) (pre:= #[.agg #[.slice a ss.length c,.slice b tt.length d]]) (lb:= #[]) rfl (enters_of func59 (by kernel_rfl) rfl) (xs:=ss++tt) (n0:=w.heap.size)
   (by simpa using all_iter a b c d ss tt w.heap.size w2 (hr.below hB2) (hq.below hB2) hB2.size (by unfold maxLen;omega) (by unfold maxLen;omega)) hB2.size rfl
   (fun k V=>Below w.heap.size w V/\Boxed V (w.heap.size+1) 4 (.bool false)/\okEs ((ss++tt).take k)=true)
   (fun _ V=>Below w.heap.size w V/\Boxed V (w.heap.size+1) 4 (.bool false)/\okEs (ss++tt)=false)
   ((stable_below w (Nat.le_refl _) hB2.size).and ((stable_block (.cells #[.bool false] 4) hb1).and (stable_pure _)))
   ((stable_below w (Nat.le_refl _) hB2.size).and ((stable_block (.cells #[.bool false] 4) hb1).and (stable_pure _)))
   ⟨hB2,hx2,by simp[okEs]⟩ (fun s=>{tmps:= #[.agg #[.slice a ss.length c,.slice b tt.length d],.pointer (some ⟨w.heap.size,0,none⟩),.pointer (some ⟨w.heap.size+1,0,none⟩),.pointer (some ⟨w1.heap.size,0,none⟩),.string s,
    .agg #[.slice a ss.length c,.slice b tt.length d],.agg #[.slice a ss.length c,.slice b tt.length d],.agg #[.slice a ss.length c,.slice b tt.length d],.int .i64 (ss.length+tt.length),.bool (decide ((4000:Int)<ss.length+tt.length)),
    .agg #[.slice a ss.length c,.slice b tt.length d],.func (.func 59) #[.agg #[.slice a ss.length c,.slice b tt.length d]] #[],.string s,undef,undef,undef],defers:=[]}) ?assign ?body ?done ?stop
  case assign=>
   intro l2 m2 s V K hK
   gi_wp2
   exact hK
  case body=>
   rintro l2 m2 k s V hsk ⟨hbl,hx,hok⟩ hsz;have hc:=hx.cell;have hf:=hx.frozen;have hmem:s.size<=1048576:=by
    rcases List.mem_append.1 (List.mem_of_getElem? hsk) with h|h
    ·exact hs s h
    ·exact hs' s h
   by_cases hbig:5000<s.size
   ·gi_wp2
    refine⟨KeepsB.of_grownBy (grownBy_setCell' V _ _) (fun j e=>by cases e;exact hb1),hbl.setCell (p:=⟨w.heap.size+1,0,none⟩) (by simp) _,hx.set _,okEs_false _ k s hsk hbig⟩
   ·gi_wp2
    refine⟨KeepsB.refl _ _,⟨hbl,hx,?_⟩,Below.refl _ _⟩;rw[okEs_take _ k s hsk,hok];simp;omega
  case done=>
   rintro D V hD ⟨hbl,hx,hok⟩ hK;have hc:=hx.cell;have hf:=hx.frozen;rw[List.take_of_length_le (by omega)] at hok;have hne:D≠w.heap.size+1:=by omega
   have hK':(V.setCell ⟨w.heap.size+1,0,none⟩ (.bool true)).heap[D]?=some (.deferred (some [])):=(KeepsOthers.setCell _ _ _).same D _ hK rfl;have hx':=hx.set (.bool true);have hcr:=cell_kept hx'.cell (grownBy_putObj' _ D (.deferred none)) (fun r e=>by cases e;exact⟨_,hK',rfl⟩)
   gi_wp2
   refine⟨by simp,.inl ⟨_,_,rfl,run_takeDeferred hK',?_⟩⟩;refine⟨.bool true,by simp[results,results57,go_sem,hcr],?_,?_⟩
   ·simp only[okLog];rw[show(ss++tt).all (fun s=>decide (s.size<=5000))=true from hok];simp[hlen]
   ·exact(hbl.setCell (p:=⟨w.heap.size+1,0,none⟩) (by simp) _).trans ⟨rfl,rfl,rfl,by simp,fun i hi=>World.putObj_heap_other (by omega)⟩
  case stop=>
   rintro D k V hD ⟨hbl,hx,hok⟩ hK;have hcr:=cell_kept hx.cell (grownBy_putObj' _ D (.deferred none)) (fun r e=>by cases e;exact⟨_,hK,rfl⟩)
   gi_wp2
   refine⟨by simp,.inl ⟨_,_,rfl,run_takeDeferred hK,?_⟩⟩;refine⟨.bool false,by simp[results,results57,go_sem,hcr],?_,?_⟩
   ·simp only[okLog];rw[show(ss++tt).all (fun s=>decide (s.size<=5000))=false from hok];simp
   ·exact hbl.trans ⟨rfl,rfl,rfl,by simp,fun i hi=>World.putObj_heap_other (by omega)⟩
 ·have hx':=(hx2.set (.bool false)).cell
  gi_wp2
  refine⟨.bool false,by simp[results,results57,go_sem,hx'],?_,hB2.setCell (p:=⟨w.heap.size+1,0,none⟩) (by simp) _⟩;simp[okLog,hlen]
end
theorem c12 {w:World} {b:Nat} {a0 a1 a2 a3 a4 a5 a6 a7 a8 a9 a10 a11:Value} (h:CellsAt w b [a0,a1,a2,a3,a4,a5,a6,a7,a8,a9,a10,a11]):(w.cell? ⟨b,0,none⟩=some a0/\w.frozen? ⟨b,0,none⟩=false)/\(w.cell? ⟨b,1,none⟩=some a1/\w.frozen? ⟨b,1,none⟩=false)/\(w.cell? ⟨b,2,none⟩=some a2/\w.frozen? ⟨b,2,none⟩=false)/\(w.cell? ⟨b,3,none⟩=some a3/\w.frozen? ⟨b,3,none⟩=false)/\(w.cell? ⟨b,4,none⟩=some a4/\w.frozen? ⟨b,4,none⟩=false)/\(w.cell? ⟨b,5,none⟩=some a5/\w.frozen? ⟨b,5,none⟩=false)/\(w.cell? ⟨b,6,none⟩=some a6/\w.frozen? ⟨b,6,none⟩=false)/\(w.cell? ⟨b,7,none⟩=some a7/\w.frozen? ⟨b,7,none⟩=false)/\(w.cell? ⟨b,8,none⟩=some a8/\w.frozen? ⟨b,8,none⟩=false)/\(w.cell? ⟨b,9,none⟩=some a9/\w.frozen? ⟨b,9,none⟩=false)/\(w.cell? ⟨b,10,none⟩=some a10/\w.frozen? ⟨b,10,none⟩=false)/\w.cell? ⟨b,11,none⟩=some a11/\w.frozen? ⟨b,11,none⟩=false:=
 ⟨h 0 _ rfl,h 1 _ rfl,h 2 _ rfl,h 3 _ rfl,h 4 _ rfl,h 5 _ rfl,h 6 _ rfl,h 7 _ rfl,h 8 _ rfl,h 9 _ rfl,h 10 _ rfl,h 11 _ rfl⟩
theorem c6 {w:World} {b:Nat} {a0 a1 a2 a3 a4 a5:Value} (h:CellsAt w b [a0,a1,a2,a3,a4,a5]):(w.cell? ⟨b,0,none⟩=some a0/\w.frozen? ⟨b,0,none⟩=false)/\(w.cell? ⟨b,1,none⟩=some a1/\w.frozen? ⟨b,1,none⟩=false)/\(w.cell? ⟨b,2,none⟩=some a2/\w.frozen? ⟨b,2,none⟩=false)/\(w.cell? ⟨b,3,none⟩=some a3/\w.frozen? ⟨b,3,none⟩=false)/\(w.cell? ⟨b,4,none⟩=some a4/\w.frozen? ⟨b,4,none⟩=false)/\w.cell? ⟨b,5,none⟩=some a5/\w.frozen? ⟨b,5,none⟩=false:=
 ⟨h 0 _ rfl,h 1 _ rfl,h 2 _ rfl,h 3 _ rfl,h 4 _ rfl,h 5 _ rfl⟩
def RdS (n:Nat) (w:World) (ta pa la:Option Addr) (ks:List Kd) (ps:List Pd) (ls:List Ld):Prop:=∀V w',(∀b∈V,b<n)->Tn V w w'->SRows w' w'.heap.size ta pa la ks ps ls
theorem SAns.rdS {w:World} {base:Nat} {ta pa la:Option Addr} {tc pc lc:Nat} {rs:List Value} {ks:List Kd} {ps:List Pd} {ls:List Ld} (h:SAns w base (.slice ta ks.length tc) (.slice pa ps.length pc) (.slice la ls.length lc) rs ks ps ls):RdS base w ta pa la ks ps ls:=fun V w' hV ht=>by
 obtain⟨_,_,_,_,_,_,e1,e2,e3,hr⟩:=(h.turn ht hV).rows;cases e1;cases e2;cases e3;exact hr
theorem SAns.get {w:World} {base:Nat} {ta pa la:Option Addr} {tc pc lc:Nat} {rs:List Value} {ks:List Kd} {ps:List Pd} {ls:List Ld} (h:SAns w base (.slice ta ks.length tc) (.slice pa ps.length pc) (.slice la ls.length lc) rs ks ps ls):SRows w w.heap.size ta pa la ks ps ls:=
 h.rdS [] w (by simp) (Tn.of (Below.refl _ _))
structure AnSmall (x:An):Prop where
 ks:x.ks.length<=600
 refs:∀k∈x.ks,k.refs.length<=30
 ps:x.ps.length<=100
 ls:x.ls.length<=200
end Go.Proofs.YtpekbmegopfhfaaGreatDoor
