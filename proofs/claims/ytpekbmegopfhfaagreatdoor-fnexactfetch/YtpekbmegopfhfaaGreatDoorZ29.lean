import Derived.Test.YtpekbmegopfhfaaGreatDoorZ28
set_option maxRecDepth 100000
set_option maxHeartbeats 16000000
namespace Go.Proofs.YtpekbmegopfhfaaGreatDoor
open Go.ChangeShapes Go.WideShapes Go.ChangeAt Go.RowKit _root_.Go.Proofs.Tryz
namespace ExactFetch
theorem walk_gen {D:Type} (To:D->Prop) (S:D->Bool) (RX:Nat->World->List Value->Prop) (OX:Nat->Nat->World->List Value->Prop) (MX:Nat->Nat->World->List Value->Nat->Prop) (RA:D->Nat->World->List Value->Prop) (OA:D->Nat->Nat->World->List Value->Prop) (MA:D->Nat->Nat->World->List Value->Nat->Prop) (Fit:Prop) (A:List Value) (s0:ByteArray) (w:World) (hA:A.length=17)
 (kX:Fit->Knd 17 1000 22 25 RX OX MX) (kA:∀o,To o->Knd 2 1 33 34 (RA o) (OA o) (MA o))
 (hh:∀o,To o->∀(lo N:Nat) (X:World) (cs:List Value) (K:Nat),MA o lo N X cs K->Calls prog 35 #[.agg cs.toArray,.int .i64 1] X fun e X'=>e=.returned (.int .i64 K)/\Below X.heap.size X X')
 (det:∀o o',To o->To o'->o=o')
 (hz:∀X,Below w.heap.size w X->Calls prog 27 #[.agg A.toArray,.int .i64 1048576] X fun e X'=>∃r:Int,e=.returned (.int .i64 r)/\Below X.heap.size X X'/\(0<=r->Fit))
 (ht:Fit->∀X,Below w.heap.size w X->Calls prog 29 #[.agg A.toArray] X fun e X'=>∃cs:List Value,e=.returned (.agg cs.toArray)/\RX X'.heap.size X' cs/\OX X.heap.size X'.heap.size X' cs/\Below X.heap.size X X')
 (hs:Fit->∀X cs,Below w.heap.size w X->RX X.heap.size X cs->Calls prog 31 #[.agg cs.toArray,.string s0] X fun e X'=>∃(o:D) (ds:List Value),e=.returned (.tuple #[.agg ds.toArray,.bool (S o)])/\To o/\RA o X'.heap.size X' ds/\Below X.heap.size X X')
 (hi:Fit->∀X cs,Below w.heap.size w X->RX X.heap.size X cs->Calls prog 32 #[.agg cs.toArray,.string s0] X fun e X'=>∃(o:D) (ds:List Value),e=.returned (.tuple #[.agg ds.toArray,.bool (S o)])/\To o/\OA o X.heap.size X'.heap.size X' ds/\Below X.heap.size X X'):
 Calls prog 6 #[.agg A.toArray,.string s0] w fun e w'=>e=.returned (.bool true)/\Below w.heap.size w w':=by
 obtain⟨W,hW⟩:∃W,W=w.alloc (.cells A.toArray 60):=⟨_,rfl⟩;have bW:Below w.heap.size w W:=by rw[hW];exact(Below.refl _ _).alloc (Nat.le_refl _) _
 have zW:W.heap.size=w.heap.size+1:=by rw[hW];simp
 have xW:CellsAt W w.heap.size A:=by rw[hW];exact CellsAt.new w _ _
 have KX:Hid (Fit->Knd 17 1000 22 25 RX OX MX):=kX;have KA:Hid (∀o,To o->Knd 2 1 33 34 (RA o) (OA o) (MA o)):=kA;have HH:Hid _:=hh;have HD:Hid _:=det;have HLA:Hid (A.length=17):=hA;have HZ:Hid _:=hz;have HT:Hid _:=ht;have HS:Hid _:=hs;have HI:Hid _:=hi
 have HA:Hid (∀X,Below W.heap.size W X->CellsAt X w.heap.size A/\Below w.heap.size w X):=fun X hX=>⟨CellsAt.same xW (hX.block _ (by omega)),bW.trans (hX.mono bW.size)⟩;have HW:Hid _:=hW;clear hW xW kX kA hh det hz ht hs hi hA;by_cases hlong_s0:1048576<s0.size
 ·have hl1:(1048576:Int)<(s0.size:Int):=by omega
  go_enter func6,ntmps6;go_upto_region 1 with fail;rw[←HW.out];go_wp2;go_ret;exact⟨rfl,bW⟩
 have hshort_s0:¬(1048576:Int)<(s0.size:Int):=by omega
 go_enter func6,ntmps6;go_upto_region 1 with fail;rw[←HW.out];clear HW
 as_aux_lemma=>
 go_wp2_with (refine wpList_load_mid rfl 60 _ rfl w.heap.size 0 rfl A _ (HA.out W (Below.refl _ _)).1.range underlying60 rfl (by rw[HLA.out];kernel_rfl) ?_);refine(HZ.out W bW).mono ?_;rintro e w1 ⟨r1,rfl,hb1,hf1⟩;have HB1:Hid (Below W.heap.size W w1):=hb1;clear hb1 HZ bW;try generalize (.agg A.toArray:Value)=dvA
 by_cases n1:r1<0
 ·clear hf1
  go_wp2;go_ret;exact⟨rfl,(HA.out w1 HB1.out).2⟩
 have hf:=hf1 (by omega);replace KX:Hid (Knd 17 1000 22 25 RX OX MX):=KX.out hf;replace HT:Hid _:=HT.out hf;replace HS:Hid _:=HS.out hf;replace HI:Hid _:=HI.out hf;clear hf hf1
 as_aux_lemma=>
 go_wp2_with (refine wpList_load_mid rfl 60 _ rfl w.heap.size 0 rfl A _ (HA.out w1 HB1.out).1.range underlying60 rfl (by rw[HLA.out];kernel_rfl) ?_);refine(HT.out w1 (HA.out w1 HB1.out).2).mono ?_;rintro e w2 ⟨cs2,rfl,hr2,_,hb2⟩;have HB2:Hid (Below W.heap.size W w2):=HB1.out.trans (hb2.mono HB1.out.size);have HR2:Hid _:=hr2;clear hb2 hr2;try generalize (.agg A.toArray:Value)=dvA
 as_aux_lemma=>
 go_wp2_with fail;refine(HS.out w2 cs2 (HA.out w2 HB2.out).2 HR2.out).mono ?_;rintro e w3 ⟨o,sc,rfl,hto,hrs,hb3⟩;have HB3:Hid (Below W.heap.size W w3):=HB2.out.trans (hb3.mono HB2.out.size);have HTo:Hid (To o):=hto;replace KA:Hid (Knd 2 1 33 34 (RA o) (OA o) (MA o)):=KA.out o hto;replace HH:Hid _:=HH.out o hto;have hz3:=HB3.out.size;obtain⟨hlW3,hoW3⟩:=KA.out.lenR _ _ _ hrs
 obtain⟨W3,hW3⟩:∃Y,Y=(w3.alloc (.cells #[.string ⟨#[]⟩,.slice none 0 0] 66)).setCells w3.heap.size 0 sc.toArray.toList:=⟨_,rfl⟩;have hbW3:=boxed (X:=w3) (cs:=sc) (z:=[.string ⟨#[]⟩,.slice none 0 0]) (T:=66) (by rw[hlW3];rfl);have eW3:W3=(w3.alloc (.cells [.string ⟨#[]⟩,.slice none 0 0].toArray 66)).setCells w3.heap.size 0 sc:=hW3;rw[←eW3] at hbW3;obtain⟨xW3,bW3,zW3⟩:=hbW3
 have HInW3:Hid ((w3.alloc (.cells #[.string ⟨#[]⟩,.slice none 0 0] 66)).there w3.heap.size 0 sc.toArray.size/\sc.length=2/\∀u∈sc,u.oneCell'=true):=⟨by rw[show sc.toArray.size=2 from by rw[List.size_toArray];exact hlW3];exact(CellsAt.new w3 [.string ⟨#[]⟩,.slice none 0 0] 66).there,hlW3,hoW3⟩;have HW3:Hid _:=hW3;have HLW3:Hid (sc.length=2):=hlW3;clear hW3 eW3 hlW3 hoW3
 have hB3W:Below W.heap.size W W3:=HB3.out.trans (bW3.mono HB3.out.size);have E1:Hid (L1 (RA o) w W3 A sc w3.heap.size W3.heap.size):=⟨(HA.out W3 hB3W).2,(HA.out W3 hB3W).1,xW3,KA.out.monoR _ _ _ _ (KA.out.keepR _ _ _ _ hrs bW3) bW3.size,by omega,by omega,Nat.le_refl _⟩;have HLe:Hid (w3.heap.size<W3.heap.size):=by show w3.heap.size<W3.heap.size;omega
 obtain⟨L,hL⟩:∃L,L=W3.heap.size:=⟨_,rfl⟩;rw[←hL] at E1;have HLw:Hid (L=W3.heap.size):=hL;clear hL hrs hto hb3 xW3 bW3 hB3W HS HR2 HA hz3 zW3
 as_aux_lemma=>
 go_wp2_with (first|refine wpList_load_mid rfl 60 _ rfl w.heap.size 0 rfl A _ E1.out.bA.range underlying60 rfl (by rw[HLA.out];kernel_rfl) ?_|(refine wpList_store_mid rfl 66 _ _ rfl w3.heap.size 0 sc.toArray rfl rfl HInW3.out.1 (by rw[List.size_toArray,HInW3.out.2.1];kernel_rfl) (all_oneCell_toArray HInW3.out.2.2) ?_;rw[←HW3.out]));clear HW3 HInW3;refine(HT.out W3 E1.out.bel).mono ?_
 rintro e w4 ⟨xc,rfl,hr4,ho4,hb4⟩;replace E1:Hid _:=E1.out.keep KA.out (hb4.mono E1.out.le);obtain⟨hlW4,hoW4⟩:=KX.out.lenR _ _ _ hr4
 obtain⟨W4,hW4⟩:∃Y,Y=(w4.alloc (.cells #[.int .i64 0,.int .i64 0,.slice none 0 0,.slice none 0 0,.int .i64 0,.int .i64 0,.int .i64 0,.int .i64 0,.slice none 0 0,.slice none 0 0,.slice none 0 0,.int .i64 0,.slice none 0 0,.slice none 0 0,.int .i64 0,.int .i64 0,.int .i64 0] 44)).setCells w4.heap.size 0 xc.toArray.toList:=⟨_,rfl⟩
 have hbW4:=boxed (X:=w4) (cs:=xc) (z:=[.int .i64 0,.int .i64 0,.slice none 0 0,.slice none 0 0,.int .i64 0,.int .i64 0,.int .i64 0,.int .i64 0,.slice none 0 0,.slice none 0 0,.slice none 0 0,.int .i64 0,.slice none 0 0,.slice none 0 0,.int .i64 0,.int .i64 0,.int .i64 0]) (T:=44) (by rw[hlW4];rfl)
 have eW4:W4=(w4.alloc (.cells [.int .i64 0,.int .i64 0,.slice none 0 0,.slice none 0 0,.int .i64 0,.int .i64 0,.int .i64 0,.int .i64 0,.slice none 0 0,.slice none 0 0,.slice none 0 0,.int .i64 0,.slice none 0 0,.slice none 0 0,.int .i64 0,.int .i64 0,.int .i64 0].toArray 44)).setCells w4.heap.size 0 xc:=hW4;rw[←eW4] at hbW4;obtain⟨xW4,bW4,zW4⟩:=hbW4
 have HInW4:Hid ((w4.alloc (.cells #[.int .i64 0,.int .i64 0,.slice none 0 0,.slice none 0 0,.int .i64 0,.int .i64 0,.int .i64 0,.int .i64 0,.slice none 0 0,.slice none 0 0,.slice none 0 0,.int .i64 0,.slice none 0 0,.slice none 0 0,.int .i64 0,.int .i64 0,.int .i64 0] 44)).there w4.heap.size 0 xc.toArray.size/\xc.length=17/\∀u∈xc,u.oneCell'=true):=⟨by rw[show xc.toArray.size=17 from by rw[List.size_toArray];exact hlW4];exact(CellsAt.new w4 [.int .i64 0,.int .i64 0,.slice none 0 0,.slice none 0 0,.int .i64 0,.int .i64 0,.int .i64 0,.int .i64 0,.slice none 0 0,.slice none 0 0,.slice none 0 0,.int .i64 0,.slice none 0 0,.slice none 0 0,.int .i64 0,.int .i64 0,.int .i64 0] 44).there,hlW4,hoW4⟩
 have HW4:Hid _:=hW4;have HLW4:Hid (xc.length=17):=hlW4;clear hW4 eW4 hlW4 hoW4;have hoX:OX L w4.heap.size w4 xc:=by rw[HLw.out];exact ho4
 have E2:Hid (L2 OX W4 xc L w4.heap.size w4.heap.size):=⟨xW4,KX.out.keepO _ _ _ _ _ hoX bW4.size (fun q _ h2=>bW4.block q h2),Nat.le_refl _,by omega⟩;replace E1:Hid _:=E1.out.keep KA.out (bW4.mono E1.out.le);have HL4:Hid (L<=w4.heap.size):=by show L<=w4.heap.size;rw[HLw.out];exact hb4.size
 clear hr4 ho4 hb4 xW4 bW4 hoX HLw;try generalize (.agg A.toArray:Value)=dvA
 as_aux_lemma=>
 go_wp2_with (first|refine wpList_load_mid rfl 44 _ rfl w4.heap.size 0 rfl xc _ E2.out.bX.range underlying44 rfl (by rw[HLW4.out];kernel_rfl) ?_|(refine wpList_store_mid rfl 44 _ _ rfl w4.heap.size 0 xc.toArray rfl rfl HInW4.out.1 (by rw[List.size_toArray,HInW4.out.2.1];kernel_rfl) (all_oneCell_toArray HInW4.out.2.2) ?_;rw[←HW4.out]));clear HW4 HInW4
 refine(HI.out W4 xc E1.out.bel (KX.out.ofO _ _ _ _ E2.out.oX).2).mono ?_;rintro e w5 ⟨o5,gc,rfl,hto5,ho5,hb5⟩;obtain rfl:=HD.out o o5 HTo.out hto5;replace E1:Hid _:=E1.out.keep KA.out (hb5.mono E1.out.le);replace E2:Hid _:=E2.out.keep KX.out hb5;have hr5:=(KA.out.ofO _ _ _ _ ho5).2;obtain⟨hlW5,hoW5⟩:=KA.out.lenR _ _ _ hr5
 obtain⟨W5,hW5⟩:∃Y,Y=(w5.alloc (.cells #[.string ⟨#[]⟩,.slice none 0 0] 66)).setCells w5.heap.size 0 gc.toArray.toList:=⟨_,rfl⟩;have hbW5:=boxed (X:=w5) (cs:=gc) (z:=[.string ⟨#[]⟩,.slice none 0 0]) (T:=66) (by rw[hlW5];rfl);have eW5:W5=(w5.alloc (.cells [.string ⟨#[]⟩,.slice none 0 0].toArray 66)).setCells w5.heap.size 0 gc:=hW5;rw[←eW5] at hbW5;obtain⟨xW5,bW5,zW5⟩:=hbW5
 have HInW5:Hid ((w5.alloc (.cells #[.string ⟨#[]⟩,.slice none 0 0] 66)).there w5.heap.size 0 gc.toArray.size/\gc.length=2/\∀u∈gc,u.oneCell'=true):=⟨by rw[show gc.toArray.size=2 from by rw[List.size_toArray];exact hlW5];exact(CellsAt.new w5 [.string ⟨#[]⟩,.slice none 0 0] 66).there,hlW5,hoW5⟩;have HW5:Hid _:=hW5;have HLW5:Hid (gc.length=2):=hlW5;clear hW5 eW5 hlW5 hoW5
 have E3:Hid (L3 (OA o) W5 gc W4.heap.size w5.heap.size w5.heap.size):=⟨xW5,KA.out.keepO _ _ _ _ _ ho5 bW5.size (fun q _ h2=>bW5.block q h2),Nat.le_refl _,by omega⟩;replace E1:Hid _:=E1.out.keep KA.out (bW5.mono E1.out.le);replace E2:Hid _:=E2.out.keep KX.out bW5;have HL5:Hid (w4.heap.size<W4.heap.size/\W4.heap.size<=w5.heap.size):=by refine⟨?_,hb5.size⟩;show w4.heap.size<W4.heap.size;omega
 clear hto5 ho5 hb5 hr5 xW5 bW5 zW4 zW5
 as_aux_lemma=>
 go_wp2_with (first|refine wpList_load_mid rfl 66 _ rfl w5.heap.size 0 rfl gc _ E3.out.bG.range underlying66 rfl (by rw[HLW5.out];kernel_rfl) ?_|refine wpList_load_mid rfl 66 _ rfl w3.heap.size 0 rfl sc _ E1.out.bS.range underlying66 rfl (by rw[HLW3.out];kernel_rfl) ?_|(refine wpList_store_mid rfl 66 _ _ rfl w5.heap.size 0 gc.toArray rfl rfl HInW5.out.1 (by rw[List.size_toArray,HInW5.out.2.1];kernel_rfl) (all_oneCell_toArray HInW5.out.2.2) ?_;rw[←HW5.out]))
 clear HW5 HInW5;refine(KA.out.eq W5 gc sc (KA.out.ofO _ _ _ _ E3.out.oG).2 (KA.out.monoR _ _ _ _ E1.out.rS E1.out.le)).mono ?_;rintro e w6 ⟨rfl,hb6⟩;replace E1:Hid _:=E1.out.keep KA.out (hb6.mono E1.out.le);replace E2:Hid _:=E2.out.keep KX.out hb6;replace E3:Hid _:=E3.out.keep KA.out.keepO hb6;clear hb6
 as_aux_lemma=>
 go_upto_region 12 with fail;go_cut [52] (fun u wx=>u=.bool false/\Hid (Below w6.heap.size w6 wx))
 case first=>
  have HSx:Hid (∀X,Below w6.heap.size w6 X->CellsAt X w4.heap.size xc/\CellsAt X w.heap.size A):=fun X hX=>⟨CellsAt.same E2.out.bX (hX.block _ E2.out.le),CellsAt.same E1.out.bA (hX.block _ (by have:=E1.out.l0;have:=E1.out.le;omega))⟩;refine wp_region_held_drew (S:=fun X=>CellsAt X w4.heap.size xc/\CellsAt X w.heap.size A) (by kernel_rfl) (HSx.out _ (Below.refl _ _).drew) (fun hS=> ?_)
  refine wpAnyH_take (i:=0) (oi:={dst:=some 48,op:=Op.load 44 (Operand.tmp 8),type:=44,pos:= "exact.go:2122",after:= #[],guard:=none}) (v:=.agg xc.toArray) rfl (by kernel_rfl) (by kernel_rfl) (by kernel_rfl) (fun _ _ _ h=>h) (yieldsIf_load_mid (by rfl) 44 _ rfl w4.heap.size 0 rfl xc _ (fun X h=>h.1.range) underlying44 rfl (by rw[HLW4.out];kernel_rfl)) hS ?_
  try simp only[Act.put,List.setIfInBounds_toArray,List.set_cons_zero,List.set_cons_succ]
  refine wpAnyH_take (i:=1) (oi:={dst:=some 49,op:=Op.load 60 (Operand.tmp 2),type:=60,pos:= "exact.go:2122",after:= #[],guard:=none}) (v:=.agg A.toArray) rfl (by kernel_rfl) (by kernel_rfl) (by kernel_rfl) (fun _ _ _ h=>h) (yieldsIf_load_mid (by rfl) 60 _ rfl w.heap.size 0 rfl A _ (fun X h=>h.2.range) underlying60 rfl (by rw[HLA.out];kernel_rfl)) hS ?_
  try simp only[Act.put,List.setIfInBounds_toArray,List.set_cons_zero,List.set_cons_succ]
  refine wpAnyH_ready (rs:=[2]) (by kernel_rfl) (by simp) ?_;refine AllReadyH.cons (o:={dst:=some 50,op:=Op.call {callee:=Callee.value (Operand.func 29),args:= #[Operand.tmp 49],argTypes:= #[60]},type:=44,pos:= "exact.go:2122",after:= #[{on:=1,ground:=Ground.data}],guard:=none}) rfl (fun K hK=> ?_) AllReadyH.nil;go_simp;refine(HT.out w6.drew E1.out.bel.drew).mono ?_;rintro e w7 ⟨yc,rfl,hr7,_,hb7⟩
  have h67:Below w6.heap.size w6 w7:=(Below.refl w6.heap.size w6).drew.trans hb7;try go_simp
  refine hK.out _ _ (HSx.out w7 h67) (fun hS1=> ?_);clear hK K;try simp only[Act.put,List.setIfInBounds_toArray,List.set_cons_zero,List.set_cons_succ]
  refine wpAnyH_ready (rs:=[3]) (by kernel_rfl) (by simp) ?_;refine AllReadyH.cons (o:={dst:=some 51,op:=Op.call {callee:=Callee.value (Operand.func 22),args:= #[Operand.tmp 48,Operand.tmp 50],argTypes:= #[44,44]},type:=4,pos:= "exact.go:2122",after:= #[{on:=0,ground:=Ground.data},{on:=2,ground:=Ground.data},{on:=2,ground:=Ground.chain}],guard:=none}) rfl (fun K hK=> ?_) AllReadyH.nil;go_simp
  refine(KX.out.eq w7 xc yc (KX.out.monoR _ _ _ _ (KX.out.keepR _ _ _ _ (KX.out.ofO _ _ _ _ E2.out.oX).2 h67) h67.size) hr7).mono ?_;rintro e w8 ⟨rfl,hb8⟩;have h68:Below w6.heap.size w6 w8:=h67.trans (hb8.mono h67.size);try go_simp
  refine hK.out _ _ (HSx.out w8 h68) (fun hS2=> ?_);clear hK K;try simp only[Act.put,List.setIfInBounds_toArray,List.set_cons_zero,List.set_cons_succ]
  refine wpAnyH_take (i:=4) (oi:={dst:=some 52,op:=Op.unOp UnOp.not 4 (Operand.tmp 51),type:=4,pos:= "exact.go:2122",after:= #[{on:=3,ground:=Ground.data}],guard:=none}) (v:=.bool false) rfl (by kernel_rfl) (by kernel_rfl) (by kernel_rfl) (fun _ _ _ h=>h) (Or.inl ⟨by rfl,fun _ _=>by go_simp⟩) hS2 ?_;try simp only[Act.put,List.setIfInBounds_toArray,List.set_cons_zero,List.set_cons_succ]
  refine wpAnyH_done (by kernel_rfl) ?_ _;go_wp2_with fail;go_meet;exact⟨rfl,h68⟩
 case rest=>
  obtain⟨rfl,HE⟩:=hcut;revert wc;intro w8 HE;replace E1:Hid _:=E1.out.keep KA.out (HE.out.mono E1.out.le);replace E2:Hid _:=E2.out.keep KX.out HE.out;replace E3:Hid _:=E3.out.keep KA.out.keepO HE.out;clear HE
  as_aux_lemma=>
  go_wp2_with (refine wpList_load_mid rfl 44 _ rfl w4.heap.size 0 rfl xc _ E2.out.bX.range underlying44 rfl (by rw[HLW4.out];kernel_rfl) ?_);refine(KX.out.mark L w4.heap.size w8 xc 1 E2.out.oX (by omega) (by omega)).mono ?_;rintro e w9 ⟨⟨K9,rfl,hK9,_,_⟩,hb9,hs9⟩;have hk9:¬((K9:Int)<0):=by omega
  replace E1:Hid _:=E1.out.keep KA.out hb9;replace E3:Hid _:=E3.out.stays (B:=w4.heap.size) KA.out.keepO (by have:=HL5.out;omega) (by have:=HL5.out;omega) hb9.size hs9;clear hb9 hs9 E2 HLW4 KX
  as_aux_lemma=>
  go_wp2_with (first|refine wpList_load_midG (by rfl) 66 _ rfl w5.heap.size 0 rfl gc _ E3.out.bG.range underlying66 rfl (by rw[HLW5.out];kernel_rfl) ?_|refine wpList_load_midG (by rfl) 66 _ rfl w3.heap.size 0 rfl sc _ E1.out.bS.range underlying66 rfl (by rw[HLW3.out];kernel_rfl) ?_);refine(KA.out.eq w9 gc sc (KA.out.ofO _ _ _ _ E3.out.oG).2 (KA.out.monoR _ _ _ _ E1.out.rS E1.out.le)).mono ?_
  rintro e w10 ⟨rfl,hb10⟩;replace E1:Hid _:=E1.out.keep KA.out (hb10.mono E1.out.le);replace E3:Hid _:=E3.out.keep KA.out.keepO hb10;clear hb10
  as_aux_lemma=>
  go_wp2_with (refine wpList_load_mid rfl 66 _ rfl w5.heap.size 0 rfl gc _ E3.out.bG.range underlying66 rfl (by rw[HLW5.out];kernel_rfl) ?_);refine(KA.out.mark W4.heap.size w5.heap.size w10 gc 1 E3.out.oG (by omega) (by omega)).mono ?_;rintro e w11 ⟨⟨K,rfl,hK,_,hM⟩,hb11,hs11⟩;have hk11:¬((K:Int)<0):=by omega
  replace E1:Hid _:=E1.out.keep KA.out (hb11.mono (by have:=HL4.out;have:=HL5.out;omega));have E4:Hid (L3 (fun lo N X cs=>MA o lo N X cs K) w11 gc W4.heap.size w5.heap.size w5.heap.size):=⟨CellsAt.same E3.out.bG (hs11 _ (Nat.le_refl _) E3.out.le),hM,Nat.le_refl _,Nat.lt_of_lt_of_le E3.out.le hb11.size⟩
  have KM:Hid (∀(lo N:Nat) (X X':World) (cs:List Value),MA o lo N X cs K->X.heap.size<=X'.heap.size->(∀q,lo<=q->q<N->X'.heap[q]?=X.heap[q]?)->MA o lo N X' cs K):=fun lo N X X' cs=>KA.out.keepM lo N X X' cs K;clear hM hb11 hs11 E3 hK9 hk9
  as_aux_lemma=>
  go_wp2_with (refine wpList_load_mid rfl 66 _ rfl w5.heap.size 0 rfl gc _ E4.out.bG.range underlying66 rfl (by rw[HLW5.out];kernel_rfl) ?_);refine(HH.out _ _ w11 gc K E4.out.oG).mono ?_;rintro e w12 ⟨rfl,hb12⟩;replace E1:Hid _:=E1.out.keep KA.out (hb12.mono E1.out.le);replace E4:Hid _:=E4.out.keep KM.out hb12;clear hb12
  as_aux_lemma=>
  go_wp2_with (refine wpList_load_mid rfl 60 _ rfl w.heap.size 0 rfl A _ E1.out.bA.range underlying60 rfl (by rw[HLA.out];kernel_rfl) ?_);refine(HT.out w12 E1.out.bel).mono ?_;rintro e w13 ⟨zc,rfl,hr13,_,hb13⟩;replace E1:Hid _:=E1.out.keep KA.out (hb13.mono E1.out.le);replace E4:Hid _:=E4.out.keep KM.out hb13;have HR13:Hid _:=hr13;clear hb13 hr13;try generalize (.agg A.toArray:Value)=dvA
  as_aux_lemma=>
  go_wp2_with fail;refine(HI.out w13 zc E1.out.bel HR13.out).mono ?_;rintro e w14 ⟨o14,hc,rfl,hto14,ho14,hb14⟩;obtain rfl:=HD.out o o14 HTo.out hto14;replace E1:Hid _:=E1.out.keep KA.out (hb14.mono E1.out.le);replace E4:Hid _:=E4.out.keep KM.out hb14;have hr14:=(KA.out.ofO _ _ _ _ ho14).2;obtain⟨hlW14,hoW14⟩:=KA.out.lenR _ _ _ hr14
  obtain⟨W14,hW14⟩:∃Y,Y=(w14.alloc (.cells #[.string ⟨#[]⟩,.slice none 0 0] 66)).setCells w14.heap.size 0 hc.toArray.toList:=⟨_,rfl⟩;have hbW14:=boxed (X:=w14) (cs:=hc) (z:=[.string ⟨#[]⟩,.slice none 0 0]) (T:=66) (by rw[hlW14];rfl);have eW14:W14=(w14.alloc (.cells [.string ⟨#[]⟩,.slice none 0 0].toArray 66)).setCells w14.heap.size 0 hc:=hW14;rw[←eW14] at hbW14;obtain⟨xW14,bW14,zW14⟩:=hbW14
  have HInW14:Hid ((w14.alloc (.cells #[.string ⟨#[]⟩,.slice none 0 0] 66)).there w14.heap.size 0 hc.toArray.size/\hc.length=2/\∀u∈hc,u.oneCell'=true):=⟨by rw[show hc.toArray.size=2 from by rw[List.size_toArray];exact hlW14];exact(CellsAt.new w14 [.string ⟨#[]⟩,.slice none 0 0] 66).there,hlW14,hoW14⟩;have HW14:Hid _:=hW14;have HLW14:Hid (hc.length=2):=hlW14;clear hW14 eW14 hlW14 hoW14
  have HRh:Hid (RA o W14.heap.size W14 hc):=KA.out.monoR _ _ _ _ (KA.out.keepR _ _ _ _ hr14 bW14) bW14.size;replace E1:Hid _:=E1.out.keep KA.out (bW14.mono E1.out.le);replace E4:Hid _:=E4.out.keep KM.out bW14;have HBh:Hid (CellsAt W14 w14.heap.size hc):=xW14;clear hto14 ho14 hb14 hr14 xW14 bW14 zW14 HR13 HT HI
  as_aux_lemma=>
  go_wp2_with (first|refine wpList_load_mid rfl 66 _ rfl w14.heap.size 0 rfl hc _ HBh.out.range underlying66 rfl (by rw[HLW14.out];kernel_rfl) ?_|refine wpList_load_mid rfl 66 _ rfl w3.heap.size 0 rfl sc _ E1.out.bS.range underlying66 rfl (by rw[HLW3.out];kernel_rfl) ?_|(refine wpList_store_mid rfl 66 _ _ rfl w14.heap.size 0 hc.toArray rfl rfl HInW14.out.1 (by rw[List.size_toArray,HInW14.out.2.1];kernel_rfl) (all_oneCell_toArray HInW14.out.2.2) ?_;rw[←HW14.out]))
  clear HW14 HInW14;refine(KA.out.eq W14 hc sc HRh.out (KA.out.monoR _ _ _ _ E1.out.rS E1.out.le)).mono ?_;rintro e w15 ⟨rfl,hb15⟩;replace E1:Hid _:=E1.out.keep KA.out (hb15.mono E1.out.le);replace E4:Hid _:=E4.out.keep KM.out hb15;clear hb15 HRh HBh
  as_aux_lemma=>
  go_wp2_with (refine wpList_load_mid rfl 66 _ rfl w5.heap.size 0 rfl gc _ E4.out.bG.range underlying66 rfl (by rw[HLW5.out];kernel_rfl) ?_);refine(HH.out _ _ w15 gc K E4.out.oG).mono ?_;rintro e w16 ⟨rfl,hb16⟩;have HB16:Hid (Below w.heap.size w w16):=E1.out.bel.trans (hb16.mono E1.out.bel.size);clear hb16 E1 E4;go_wp2;go_ret;exact⟨rfl,HB16.out⟩
end ExactFetch
end Go.Proofs.YtpekbmegopfhfaaGreatDoor
