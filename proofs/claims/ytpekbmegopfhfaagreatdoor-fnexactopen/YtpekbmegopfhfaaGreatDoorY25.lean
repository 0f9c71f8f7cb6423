import Derived.Test.YtpekbmegopfhfaaGreatDoorY23
import Derived.Test.YtpekbmegopfhfaaGreatDoorY24
import Derived.BigRegion
set_option maxRecDepth 100000
set_option maxHeartbeats 16000000
namespace Go.Proofs.YtpekbmegopfhfaaGreatDoor
open Go.ChangeShapes Go.WideShapes Go.ChangeAt Go.RowKit _root_.Go.Proofs.Tryz
theorem l1WidthE (n:Int) (w:World):
 Calls prog 40 #[.int .i64 n] w fun e w'=>e=.returned (.bool (decide (1<=n/\n<=8)))/\w'=w:=by
 by_cases h1:1<=n
 ·by_cases h2:n<=8
  ·go_enter func40,ntmps40
   go_wp2;go_ret;exact⟨ret_b (by simp[h1,h2]),rfl⟩
  ·have h2':decide (n<=8)=false:=by simpa using h2
   go_enter func40,ntmps40;go_wp2;go_ret;exact⟨rfl,rfl⟩
 ·have h1':decide (1<=n)=false:=by simpa using h1
  go_enter func40,ntmps40;go_wp2;go_ret;exact⟨rfl,rfl⟩
theorem rdE_width {s:ByteArray} {wd:Int} (h:¬(1<=wd/\wd<=8)):rdE s wd=erNo:=by
 unfold rdE;rw[if_pos (b9_width h)]
theorem rdE_short {l:List UInt8} {wd:Int} (h1:1<=wd) (h2:wd<=8) (hl:l.length<6):rdE (mkB l) wd=erNo:=by
 unfold rdE;rw[if_pos]
 match l,hl with
 |[],_=>exact t1_nil h1 h2
 |a::l,hl=>
  by_cases h4:l.length<4
  ·exact t2_short a l h1 h2 h4
  ·cases hk:inK (a.toNat:Int) with
   |false=>exact b9_of_b2 (by rw[b2_cons _ _ h1 h2,hk];rfl)
   |true=>
    match l,hl,h4 with
    |[a1,a2,a3,a4],_,_=>exact t3_short a a1 a2 a3 a4 h1 h2 hk
    |[],_,h4=>simp at h4
    |[_],_,h4=>simp at h4
    |[_,_],_,h4=>simp at h4
    |[_,_,_],_,h4=>simp at h4
theorem rdE_name {a0 a1 a2 a3 a4 a5:UInt8} {T:List UInt8} {wd:Int} (h1:1<=wd) (h2:wd<=8) (hT:T.length<a5.toNat):rdE (mkB (a0::a1::a2::a3::a4::a5::T)) wd=erNo:=by
 unfold rdE;rw[if_pos];cases hk:inK (a0.toNat:Int) with
 |false=>exact b9_of_b2 (by rw[b2_cons _ _ h1 h2,hk];rfl)
 |true=>exact t4_short a0 a1 a2 a3 a4 a5 T h1 h2 hk hT
theorem epost_no {s:ByteArray} {wd:Int} {w w':World} (h:rdE s wd=erNo) (hb:Below w.heap.size w w'):ReadEPost s wd w (.returned (.tuple #[.agg #[.int .i64 0,.string ⟨#[]⟩,.string ⟨#[]⟩,.int .i64 0,.string ⟨#[]⟩,.slice none 0 0],.bool false])) w':=by
 unfold ReadEPost;rw[h];exact⟨.slice none 0 0,rfl,World.ownsRow_nil _ _ _ _,hb⟩
theorem sReadE_no1 (s:ByteArray) (wd:Int) (w:World) (h:¬(1<=wd/\wd<=8)):
 Calls prog 41 #[.string s,.int .i64 wd] w (ReadEPost s wd w):=by
 have hd:decide (1<=wd/\wd<=8)=false:=by simpa using h
 have HN:Hid _:=rdE_width (s:=s) h;clear h;go_enter func41,ntmps41;go_wp2_with (go_at_call 40;refine(l1WidthE wd _).mono ?_;rintro e w' ⟨rfl,hw'⟩;rw[hw'];clear hw' w')
 exact bodyPost_ret (v:=.tuple #[.agg #[.int .i64 0,.string ⟨#[]⟩,.string ⟨#[]⟩,.int .i64 0,.string ⟨#[]⟩,.slice none 0 0],.bool false]) (by simp[results,results41,go_sem]) rfl (epost_no HN.out ((Below.refl _ _).alloc (Nat.le_refl _) _))
theorem sReadE_no2 (s:ByteArray) (wd:Int) (w:World) (h1:1<=wd) (h2:wd<=8) (h6:s.size<6):
 Calls prog 41 #[.string s,.int .i64 wd] w (ReadEPost s wd w):=by
 have hd:decide (1<=wd/\wd<=8)=true:=by simp[h1,h2]
 have hd6:decide ((s.size:Int)<6)=true:=by simp;omega
 have HN:Hid (rdE s wd=erNo):=rdE_short (l:=s.data.toList) h1 h2 h6;go_enter func41,ntmps41;go_wp2_with (go_at_call 40;refine(l1WidthE wd _).mono ?_;rintro e w' ⟨rfl,hw'⟩;rw[hw'];clear hw' w')
 exact bodyPost_ret (v:=.tuple #[.agg #[.int .i64 0,.string ⟨#[]⟩,.string ⟨#[]⟩,.int .i64 0,.string ⟨#[]⟩,.slice none 0 0],.bool false]) (by simp[results,results41,go_sem]) rfl (epost_no HN.out ((Below.refl _ _).alloc (Nat.le_refl _) _))
theorem sReadE_no3 (s:ByteArray) (wd:Int) (w:World) (hs:s.size<=1048576) (h1:1<=wd) (h2:wd<=8) (A5:Nat) (h6:6<=s.size) (g5:s[5].toNat=A5) (hN:rdE s wd=erNo) (hf:s.size<6+A5):
 Calls prog 41 #[.string s,.int .i64 wd] w (ReadEPost s wd w):=by
 have hd:decide (1<=wd/\wd<=8)=true:=by simp[h1,h2]
 have hd6:decide ((s.size:Int)<6)=false:=by simp;omega
 have hlt:(5:Int)<s.size:=by omega
 have hdf:decide ((s.size:Int)<6+(A5:Int))=true:=by simp;omega
 have b5:A5<256:=by rw[←g5];exact s[5].toNat_lt
 have hwb:=wrap64_byte s[5];rw[g5] at hwb;have HN:Hid _:=hN;clear hN;go_enter func41,ntmps41;go_wp2_with (go_at_call 40;refine(l1WidthE wd _).mono ?_;rintro e w' ⟨rfl,hw'⟩;rw[hw'];clear hw' w')
 exact bodyPost_ret (v:=.tuple #[.agg #[.int .i64 0,.string ⟨#[]⟩,.string ⟨#[]⟩,.int .i64 0,.string ⟨#[]⟩,.slice none 0 0],.bool false]) (by simp[results,results41,go_sem]) rfl (epost_no HN.out ((Below.refl _ _).alloc (Nat.le_refl _) _))
theorem sReadE_yes (s:ByteArray) (wd:Int) (A0 A1 A2 A3 A4 A5:Nat) (w:World) (hs:s.size<=1048576) (h1:1<=wd) (h2:wd<=8) (h6:6<=s.size) (g0:s[0].toNat=A0) (g1:s[1].toNat=A1) (g2:s[2].toNat=A2) (g3:s[3].toNat=A3) (g4:s[4].toNat=A4) (g5:s[5].toNat=A5) (hf:6+A5<=s.size)
 (name rs:ByteArray) (hnm:s.extract 6 (6+A5)=name) (hrs:s.extract (6+A5) s.size=rs) (n:Int) (hn:(A1:Int) *16777216+(A2:Int) *65536+(A3:Int) *256+(A4:Int)=n)
 (sm tt:ByteArray) (rr:List ByteArray) (hsm:sm=if (A0:Int)=1 then ⟨#[]⟩ else rs) (htt:tt=if (A0:Int)=1 then (rd rs wd).1 else ⟨#[]⟩) (hrr:rr=if (A0:Int)=1 then (rd rs wd).2.1 else [])
 (hR:rdE s wd=if (okE A0 sm name n tt rr wd&&decide (entTxt A0 sm name n tt rr wd=s))=true then ⟨A0,sm,name,n,tt,rr,true⟩ else erNo):
 Calls prog 41 #[.string s,.int .i64 wd] w (ReadEPost s wd w):=by
 have hd:decide (1<=wd/\wd<=8)=true:=by simp[h1,h2]
 have hd6:decide ((s.size:Int)<6)=false:=by simp;omega
 have l5:(5:Int)<s.size:=by omega
 have hdf:decide ((s.size:Int)<6+(A5:Int))=false:=by simp;omega
 have b0:A0<256:=by rw[←g0];exact s[0].toNat_lt
 have b1:A1<256:=by rw[←g1];exact s[1].toNat_lt
 have b2:A2<256:=by rw[←g2];exact s[2].toNat_lt
 have b3:A3<256:=by rw[←g3];exact s[3].toNat_lt
 have b4:A4<256:=by rw[←g4];exact s[4].toNat_lt
 have b5:A5<256:=by rw[←g5];exact s[5].toNat_lt
 have w0:=wrap64_byte s[0];have w1:=wrap64_byte s[1];have w2:=wrap64_byte s[2];have w3:=wrap64_byte s[3];have w4:=wrap64_byte s[4];have w5:=wrap64_byte s[5];rw[g0] at w0;rw[g1] at w1;rw[g2] at w2;rw[g3] at w3;rw[g4] at w4;rw[g5] at w5;have HBs:Hid _:=And.intro b0 (And.intro b1 (And.intro b2 (And.intro b3 b4)));have HWs:Hid _:=And.intro w0 (And.intro w1 (And.intro w2 (And.intro w3 w4)))
 have HGs:Hid _:=And.intro g0 (And.intro g1 (And.intro g2 (And.intro g3 g4)));have HX:Hid _:=And.intro hs (And.intro h1 h2);have HEQ:Hid _:=And.intro hnm (And.intro hrs (And.intro hn (And.intro hsm (And.intro htt (And.intro hrr hR)))));clear hnm hrs hn hsm htt hrr hR;clear b0 b1 b2 b3 b4 w0 w1 w2 w3 w4 g0 g1 g2 g3 g4
 obtain⟨W,hW⟩:∃W,W=w.alloc (.cells #[.int .i64 0,.string ⟨#[]⟩,.string ⟨#[]⟩,.int .i64 0,.string ⟨#[]⟩,.slice none 0 0] 77):=⟨_,rfl⟩;have hwW:=(al1 hW).1;have hz:w.heap.size<W.heap.size:=by rw[hW];simp
 have R0:Hid (CellsAt W _ _):=(al1 hW).2.2;have HW:Hid _:=hW;clear hW;go_enter func41,ntmps41;go_upto_region 1 with fail;rw[←HW.out];clear HW;go_upto_region 3 with(go_at_call 40;refine(l1WidthE wd _).mono ?_;rintro e w' ⟨rfl,hw'⟩;rw[hw'];clear hw' w')
 go_cut [6] (fun v wx=>v=.pointer (some ⟨W.heap.size,0,none⟩)/\wx=(W.alloc (.cells #[.int .i64 (A0:Int),.string ⟨#[]⟩,.string ⟨#[]⟩,.int .i64 n,.string ⟨#[]⟩,.slice none 0 0] 77)).drew)
 case first=>
  obtain⟨b0,b1,b2,b3,b4⟩:=HBs.out;have m1:=wrapI ((A1:Int) *16777216) (by omega) (by omega);have m2:=wrapI ((A2:Int) *65536) (by omega) (by omega);have m3:=wrapI ((A3:Int) *256) (by omega) (by omega);have p1:=wrapI ((A1:Int) *16777216+(A2:Int) *65536) (by omega) (by omega);have p2:=wrapI ((A1:Int) *16777216+(A2:Int) *65536+(A3:Int) *256) (by omega) (by omega)
  have p3:=wrapI ((A1:Int) *16777216+(A2:Int) *65536+(A3:Int) *256+(A4:Int)) (by omega) (by omega);have l0:(0:Int)<s.size:=by omega
  have l1:(1:Int)<s.size:=by omega
  have l2:(2:Int)<s.size:=by omega
  have l3:(3:Int)<s.size:=by omega
  have l4:(4:Int)<s.size:=by omega
  obtain⟨w0,w1,w2,w3,w4⟩:=HWs.out;obtain⟨g0,g1,g2,g3,g4⟩:=HGs.out;clear b0 b1 b2 b3 b4 b5 hdf hd6 hd;have H5:Hid _:=And.intro g5 (And.intro w5 l5);clear w5 l5
  go_big_region
  go_wp2_with fail;go_meet;exact⟨rfl,by rw[HEQ.out.2.2.1]⟩
 case rest=>
 revert wc;intro W3 hcut;obtain⟨rfl,hW3⟩:=hcut;have hf':=hf;clear b5 hdf hd6 hd HBs HWs HGs HX;have hb3:Below W.heap.size W W3:=by rw[hW3];exact((Below.refl _ _).alloc (Nat.le_refl _) _).drew
 have Z3:CellsAt W3 W.heap.size [.int .i64 (A0:Int),.string ⟨#[]⟩,.string ⟨#[]⟩,.int .i64 n,.string ⟨#[]⟩,.slice none 0 0]:=by rw[hW3];exact CellsAt.new W _ _
 have R3:=R0.out.below hb3;have B3:=hwW.trans (hb3.mono (Nat.le_of_lt hz));obtain⟨B,hB⟩:∃B,B=W.heap.size:=⟨_,rfl⟩;rw[←hB] at Z3;have HB:Hid _:=hB;obtain⟨z2,zf2⟩:=Z3 2 _ rfl;have hzB:w.heap.size<B:=by omega
 obtain⟨W4,hW4⟩:∃W4,W4=W3.setCell ⟨B,2,none⟩ (.string name):=⟨_,rfl⟩;have Z4:Hid (CellsAt W4 B [.int .i64 (A0:Int),.string ⟨#[]⟩,.string name,.int .i64 n,.string ⟨#[]⟩,.slice none 0 0]):=by rw[hW4];exact Z3.set 2 _
 have R4:Hid (CellsAt W4 w.heap.size [.int .i64 0,.string ⟨#[]⟩,.string ⟨#[]⟩,.int .i64 0,.string ⟨#[]⟩,.slice none 0 0]):=by rw[hW4];exact R3.far' (rd_grown _ _ _ _) (by omega)
 have B4:Hid (Below w.heap.size w W4):=by rw[hW4];exact B3.setCell (p:=⟨B,2,none⟩) (Nat.le_of_lt hzB) _
 have HW4:Hid _:=hW4;have Hn:Hid _:=HEQ.out.1;have Hr:Hid _:=HEQ.out.2.1;rw[←hB];clear hW3 hb3 hW4 R3 B3 hB Z3;have e6:((6:Int)+(A5:Int)).toNat=6+A5:=by omega
 have u1:(6:Int)<=6+(A5:Int):=by omega
 have u2:(6:Int)+(A5:Int)<=(s.size:Int):=by omega
 go_upto_region 6 with fail;rw[Hn.out,Hr.out,←HW4.out];have hsr:rs.size<=1048576:=by rw[←Hr.out];simp;omega
 have hsn:name.size<=1048576:=by rw[←Hn.out];simp;omega
 have hNo:W.heap.size=B:=HB.out.symm;clear HW4 Hn Hr z2 zf2 e6 u1 u2 w5 l5 R0 hwW hz hNo HB;clear g5;clear hf hf' h6;have HX:Hid _:=And.intro hs (And.intro h1 h2);clear hs h1 h2;obtain⟨z0,_⟩:=Z4.out 0 _ rfl
 go_upto_if 63 with fail
 go_cut [] (fun wx=>∃(ra:Option Addr) (rc:Nat),Hid (CellsAt wx B [.int .i64 (A0:Int),.string sm,.string name,.int .i64 n,.string tt,.slice ra rr.length rc])/\Hid (CellsAt wx w.heap.size [.int .i64 0,.string ⟨#[]⟩,.string ⟨#[]⟩,.int .i64 0,.string ⟨#[]⟩,.slice none 0 0])/\Hid (wx.ownsRow (w.heap.size+1) 9 1 (.slice ra rr.length rc) rr.length (rr.map Value.string))/\Hid (Below w.heap.size w wx))
 case first=>
  by_cases hk:(A0:Int)=1
  ·have e1:Hid (sm=⟨#[]⟩):=by show _=_;rw[HEQ.out.2.2.2.1,if_pos hk]
   have e2:Hid (tt=(rd rs wd).1):=by show _=_;rw[HEQ.out.2.2.2.2.1,if_pos hk]
   have e3:Hid (rr=(rd rs wd).2.1):=by show _=_;rw[HEQ.out.2.2.2.2.2.1,if_pos hk]
   have hq:((A0:Int)==1)=true:=by simpa using hk
   have HK:Hid _:=hk;clear hk;go_wp2_with fail;have HR:=sRead_any rs wd W4 hsr;unfold ReadPost at HR;refine HR.mono ?_;rintro e w5 ⟨v,rfl,ho,hb5⟩;rw[←e3.out] at ho;rw[←e2.out];obtain⟨ra,rc,hv,_⟩:=own_formS ho;subst hv;have Z5:=CellsAt.below Z4.out hb5;have R5:=CellsAt.below R4.out hb5;have hBl:B<W4.heap.size:=Z4.out.lt;obtain⟨z4,zf4⟩:=Z5 4 _ rfl;obtain⟨z5,zf5⟩:=Z5 5 _ rfl
   have B5:=B4.out.trans (hb5.mono B4.out.size);clear HR hb5 z0 hq;go_wp2_with fail;go_meet;refine⟨ra,rc,?_,?_,?_,?_⟩
   ·rw[e1.out]
    exact(Z5.set 4 _).set 5 _
   ·exact(R5.far' (rd_grown _ B 4 _) (by omega)).far' (rd_grown _ B 5 _) (by omega)
   ·exact(ownsRow_setCell_below (ownsRow_setCell_below ho hBl _) hBl _).mono (by omega)
   ·exact(B5.setCell (p:=⟨B,4,none⟩) (Nat.le_of_lt hzB) _).setCell (p:=⟨B,5,none⟩) (Nat.le_of_lt hzB) _
  ·have e1:Hid (sm=rs):=by show _=_;rw[HEQ.out.2.2.2.1,if_neg hk]
   have e2:Hid (tt=⟨#[]⟩):=by show _=_;rw[HEQ.out.2.2.2.2.1,if_neg hk]
   have e3:Hid (rr=[]):=by show _=_;rw[HEQ.out.2.2.2.2.2.1,if_neg hk]
   have hq:((A0:Int)==1)=false:=by simpa using hk
   obtain⟨z1,zf1⟩:=Z4.out 1 _ rfl;have HK:Hid _:=hk;clear hk;go_wp2_with fail;go_meet;refine⟨none,0,?_,?_,?_,?_⟩
   ·rw[e1.out,e2.out,e3.out]
    exact Z4.out.set 1 _
   ·exact R4.out.far' (rd_grown _ B 1 _) (by omega)
   ·rw[e3.out]
    exact World.ownsRow_nil _ _ _ _
   ·exact B4.out.setCell (p:=⟨B,1,none⟩) (Nat.le_of_lt hzB) _
 case rest=>
 revert wc;intro w6 hcut;obtain⟨ra,rc,Z6,R6,O6,B6⟩:=hcut;clear Z4 R4 B4 z0;obtain⟨z0,z1,z2,z3,z4,z5⟩:=CellsAt.c6 Z6.out 0 1 2 3 4 5;have hrl:rr.length<=255:=by
  rw[HEQ.out.2.2.2.2.2.1];split
  ·exact rd_le _ _
  ·exact Nat.zero_le _
 have htl:tt.size<=maxLen:=by
  rw[HEQ.out.2.2.2.2.1];unfold maxLen;split
  ·have:=rd_size rs wd;omega
  ·exact Nat.zero_le _
 have hnl:name.size<=maxLen:=by unfold maxLen;omega
 have HSR:Hid (SRow w6 w6.heap.size ra rr):=by
  obtain⟨a',c',hv,hr⟩:=own_formS O6.out;cases hv;exact hr
 have HT:Hid _:=And.intro hrl (And.intro htl hnl);clear hrl htl hnl hsr hsn;go_wp2_with fail;refine(sOkE (A0:Int) sm name n tt ra rc rr wd w6 HSR.out (by have:=HT.out.1;omega) HT.out.2.1 HT.out.2.2).mono ?_;rintro e w7 ⟨rfl,hb7⟩;have Z7:Hid (CellsAt w7 B [.int .i64 (A0:Int),.string sm,.string name,.int .i64 n,.string tt,.slice ra rr.length rc]):=Z6.out.below hb7
 have R7:Hid (CellsAt w7 w.heap.size [.int .i64 0,.string ⟨#[]⟩,.string ⟨#[]⟩,.int .i64 0,.string ⟨#[]⟩,.slice none 0 0]):=R6.out.below hb7;have O7:Hid (w7.ownsRow (w.heap.size+1) 9 1 (.slice ra rr.length rc) rr.length (rr.map Value.string)):=O6.out.kept (grown_below none hb7) (Classical.em _);have B7:Hid (Below w.heap.size w w7):=B6.out.trans (hb7.mono B6.out.size)
 have S7:Hid (SRow w7 w7.heap.size ra rr):=SRow.below' HSR.out hb7;clear Z6 R6 O6 B6 HSR hb7 z0 z1 z2 z3 z4 z5;obtain⟨z0,z1,z2,z3,z4,z5⟩:=CellsAt.c6 Z7.out 0 1 2 3 4 5;cases hok:okE (A0:Int) sm name n tt rr wd with
 |false=>
  have hE:Hid (rdE s wd=erNo):=by show _=_;rw[HEQ.out.2.2.2.2.2.2,if_neg (by rw[hok];simp)]
  obtain⟨r0,q0⟩:=R7.out 0 _ rfl;obtain⟨r1,q1⟩:=R7.out 1 _ rfl;obtain⟨r2,q2⟩:=R7.out 2 _ rfl;obtain⟨r3,q3⟩:=R7.out 3 _ rfl;obtain⟨r4,q4⟩:=R7.out 4 _ rfl;obtain⟨r5,q5⟩:=R7.out 5 _ rfl;clear z0 z1 z2 z3 z4 z5 hok;go_wp2;refine bodyPost_ret (v:=.tuple #[.agg #[.int .i64 0,.string ⟨#[]⟩,.string ⟨#[]⟩,.int .i64 0,.string ⟨#[]⟩,.slice none 0 0],.bool false]) (by simp[results,results41,go_sem, *]) rfl ?_
  refine epost_no hE.out ?_
  iterate 6 (refine Below.setCell ?_ (show w.heap.size<=w.heap.size from Nat.le_refl _) _)
  exact B7.out
 |true=>
  have HOK:Hid _:=hok;clear hok;go_wp2_with fail;refine(sFormE (A0:Int) sm name n tt ra rc rr wd w7 S7.out (by have:=HT.out.1;omega) HT.out.2.1 HT.out.2.2).mono ?_;rintro e w8 ⟨rfl,hb8⟩;have Z8:=Z7.out.below hb8;have R8:=R7.out.below hb8;have O8:=O7.out.kept (grown_below none hb8) (Classical.em _);have B8:=B7.out.trans (hb8.mono B7.out.size);clear z0 z1 z2 z3 z4 z5
  obtain⟨z0,z1,z2,z3,z4,z5⟩:=CellsAt.c6 Z8 0 1 2 3 4 5;obtain⟨r0,q0⟩:=R8 0 _ rfl;obtain⟨r1,q1⟩:=R8 1 _ rfl;obtain⟨r2,q2⟩:=R8 2 _ rfl;obtain⟨r3,q3⟩:=R8 3 _ rfl;obtain⟨r4,q4⟩:=R8 4 _ rfl;obtain⟨r5,q5⟩:=R8 5 _ rfl;have HC:Hid _:=And.intro O8 B8;clear Z8 R8 O8 B8 hb8;obtain⟨tx,htx⟩:∃tx,tx=entTxt (A0:Int) sm name n tt rr wd:=⟨_,rfl⟩;rw[←htx];by_cases heq:tx=s
  ·have hE:Hid (rdE s wd=⟨A0,sm,name,n,tt,rr,true⟩):=by show _=_;rw[HEQ.out.2.2.2.2.2.2,if_pos (by rw[HOK.out,←htx,heq];simp)]
   subst heq;clear htx;go_wp2;refine bodyPost_ret (v:=.tuple #[.agg #[.int .i64 (A0:Int),.string sm,.string name,.int .i64 n,.string tt,.slice ra rr.length rc],.bool true]) (by simp[results,results41,go_sem, *]) rfl ?_;unfold ReadEPost;rw[hE.out];have hlt:w.heap.size<w.heap.size+1:=Nat.lt_succ_self _;refine⟨_,rfl,?_,?_⟩
   ·refine World.ownsRow.mono ?_ (Nat.le_of_lt hlt)
    iterate 6 (refine ownsRow_setCell_below ?_ hlt _)
    exact HC.out.1
   ·iterate 6 (refine Below.setCell ?_ (show w.heap.size<=w.heap.size from Nat.le_refl _) _)
    exact HC.out.2
  ·have hE:Hid (rdE s wd=erNo):=by show _=_;rw[HEQ.out.2.2.2.2.2.2,if_neg (by rw[HOK.out,←htx];simpa using heq)]
   have hne:(tx.toList==s.toList)=false:=by
    rw[beq_eq_false_iff_ne];intro h;rw[ByteArray.toList_eq,ByteArray.toList_eq] at h;exact heq (ByteArray.ext (Array.toList_inj.1 h))
   have hne':(tx.toList !=s.toList)=true:=by rw[bne,hne];rfl
   clear htx heq;go_wp2;refine bodyPost_ret (v:=.tuple #[.agg #[.int .i64 0,.string ⟨#[]⟩,.string ⟨#[]⟩,.int .i64 0,.string ⟨#[]⟩,.slice none 0 0],.bool false]) (by simp[results,results41,go_sem, *]) rfl ?_;refine epost_no hE.out ?_
   iterate 6 (refine Below.setCell ?_ (show w.heap.size<=w.heap.size from Nat.le_refl _) _)
   exact HC.out.2
theorem sReadE_any (s:ByteArray) (wd:Int) (w:World) (hs:s.size<=1048576):
 Calls prog 41 #[.string s,.int .i64 wd] w (ReadEPost s wd w):=by
 by_cases hw:1<=wd/\wd<=8
 ·obtain⟨h1,h2⟩:=hw
  by_cases h6:s.size<6
  ·exact sReadE_no2 s wd w h1 h2 h6
  ·obtain⟨l,rfl⟩:∃l,s=mkB l:=⟨s.data.toList,rfl⟩
   rw[mkB_size] at hs h6
   match l,hs,h6 with
   |a0::a1::a2::a3::a4::a5::T,hs,h6=>
    have hsz:(mkB (a0::a1::a2::a3::a4::a5::T)).size=T.length+6:=by rw[mkB_size];rfl
    by_cases hT:a5.toNat<=T.length
    ·refine sReadE_yes _ wd a0.toNat a1.toNat a2.toNat a3.toNat a4.toNat a5.toNat w (by rw[mkB_size];exact hs) h1 h2 (by omega) rfl rfl rfl rfl rfl rfl (by omega) (mkB (T.take a5.toNat)) (mkB (T.drop a5.toNat)) ?_ ?_ (numB [a1,a2,a3,a4]) (numB4 a1 a2 a3 a4).symm _ _ _ rfl rfl rfl ?_
     ·rw[mkB_ex,show 6+a5.toNat -6=a5.toNat by omega]
      rfl
     ·rw[hsz,mkB_ex]
      congr 2;rw[show 6+a5.toNat=a5.toNat+6 by omega];show(T.drop a5.toNat).take _=_;exact List.take_of_length_le (by simp)
     ·exact rdE_shape a0 a1 a2 a3 a4 a5 T h1 h2 hT
    ·exact sReadE_no3 _ wd w (by rw[mkB_size];exact hs) h1 h2 a5.toNat (by omega) rfl (rdE_name h1 h2 (by omega)) (by omega)
   |[],_,h6=>simp at h6
   |[_],_,h6=>simp at h6
   |[_,_],_,h6=>simp at h6
   |[_,_,_],_,h6=>simp at h6
   |[_,_,_,_],_,h6=>simp at h6
   |[_,_,_,_,_],_,h6=>simp at h6
 ·exact sReadE_no1 s wd w hw
theorem rdE_sound {s:ByteArray} {wd:Int} (h:(rdE s wd).ok=true):okE (rdE s wd).k (rdE s wd).sum (rdE s wd).name (rdE s wd).n (rdE s wd).t (rdE s wd).ss wd=true/\entTxt (rdE s wd).k (rdE s wd).sum (rdE s wd).name (rdE s wd).n (rdE s wd).t (rdE s wd).ss wd=s:=by
 by_cases hw:1<=wd/\wd<=8
 ·obtain⟨h1,h2⟩:=hw
  obtain⟨l,rfl⟩:∃l,s=mkB l:=⟨s.data.toList,rfl⟩;by_cases h6:l.length<6
  ·rw[rdE_short h1 h2 h6] at h
   cases h
  ·match l,h6,h with
   |a0::a1::a2::a3::a4::a5::T,h6,h=>
    by_cases hT:a5.toNat<=T.length
    ·rw[rdE_shape a0 a1 a2 a3 a4 a5 T h1 h2 hT] at h ⊢
     split at h
     case isTrue hc=>
      rw[if_pos hc];unfold spOk at hc;rw[Bool.and_eq_true,decide_eq_true_eq] at hc;exact hc
     case isFalse hc=>cases h
    ·rw[rdE_name h1 h2 (by omega)] at h
     cases h
   |[],h6,_=>simp at h6
   |[_],h6,_=>simp at h6
   |[_,_],h6,_=>simp at h6
   |[_,_,_],h6,_=>simp at h6
   |[_,_,_,_],h6,_=>simp at h6
   |[_,_,_,_,_],h6,_=>simp at h6
 ·rw[rdE_width hw] at h
  cases h
section
section
variable {wd now given births:Int} {ks:List Kd} {ps:List Pd} {ls:List Ld} {kd:Int} {s nm:ByteArray} {num:Int} {text:ByteArray} {refs:List ByteArray}
theorem PutYes.det {k1 k2:List Kd} {b1 b2:Int} (h1:PutYes wd births ks text refs k1 b1) (h2:PutYes wd births ks text refs k2 b2):k1=k2/\b1=b2:=by
 rcases h1 with⟨k,hk,hs,_,rfl,rfl⟩|⟨hno,_,_,rfl,rfl⟩<;>rcases h2 with⟨k',hk',hs',_,rfl,rfl⟩|⟨hno',_,_,rfl,rfl⟩
 ·exact⟨rfl,rfl⟩
 ·exact absurd ⟨k,hk,hs⟩ hno'
 ·exact absurd ⟨k',hk',hs'⟩ hno
 ·exact⟨rfl,rfl⟩
theorem PutNo.not (hnd:(ks.map (·.sum)).Nodup) {c:Int} {a b:ByteArray} (h1:PutNo wd given births ks ls text refs c a b) {k1:List Kd} {b1:Int} (h2:PutYes wd births ks text refs k1 b1) (hall:∀r∈refs,There ks r) (hl:ls.length<200) (hg:given<1000000000):False:=by
 rcases h1 with⟨hn,_⟩|⟨_,⟨k,hk,hs,hf,_⟩|⟨hno,hfull,_⟩|⟨_,hfull,_⟩⟩
 ·exact hn hall
 ·rcases h2 with⟨k',hk',hs',hf',_⟩|⟨hno,_⟩
  ·have:=sum_uniq hnd hk hk' (hs.trans hs'.symm)
   subst this;exact hf hf'
  ·exact hno ⟨k,hk,hs⟩
 ·rcases h2 with⟨k',hk',hs',_⟩|⟨_,h3,h4,_⟩
  ·exact hno ⟨k',hk',hs'⟩
  ·omega
 ·omega
theorem AYes.det {r r':Rs} (h1:AYes wd now given births ks ps ls kd s nm num text refs r) (h2:AYes wd now given births ks ps ls kd s nm num text refs r'):r=r':=by
 rcases h1 with⟨k1,_,_,_,ks1,b1,y1,rfl⟩|⟨k1,_,_,rfl⟩|⟨k1,_,rfl⟩|⟨k1,_,_,_,rfl⟩|⟨k1,_,rfl⟩|⟨k1,_,rfl⟩|⟨k1,_,_,rfl⟩<;>rcases h2 with⟨k2,_,_,_,ks2,b2,y2,rfl⟩|⟨k2,_,_,rfl⟩|⟨k2,_,rfl⟩|⟨k2,_,_,_,rfl⟩|⟨k2,_,rfl⟩|⟨k2,_,rfl⟩|⟨k2,_,_,rfl⟩<;>first|rfl|omega|(obtain⟨rfl,rfl⟩:=y1.det y2;rfl)
theorem ANo.not (hnd:(ks.map (·.sum)).Nodup) {c:Int} {a b:ByteArray} {r:Rs} (h1:ANo wd now given births ks ps ls kd s nm num text refs c a b) (h2:AYes wd now given births ks ps ls kd s nm num text refs r):False:=by
 rcases h2 with⟨k2,hall,hl,hg,ks2,b2,y2,_⟩|⟨k2,g1,g2,_⟩|⟨k2,g1,_⟩|⟨k2,g1,g2,g3,_⟩|⟨k2,g1,_⟩|⟨k2,g1,_⟩|⟨k2,g1,g2,_⟩<;>rcases h1 with⟨k1,h1⟩|⟨_,_,⟨k1,⟨h1,_⟩|⟨h1,x1,z1,_⟩⟩|⟨k1,h1,_⟩|⟨k1,⟨h1,_⟩|⟨h1,x1,_⟩⟩|⟨k1,h1,_⟩|⟨k1,h1,_⟩|⟨k1,⟨h1,_⟩|⟨h1,x1,_⟩⟩⟩<;>first|omega|exact absurd g1 h1|exact absurd x1 g2|exact h1.not hnd y2 hall hl hg|(rcases g2 with g2|g2;exact x1 g2;omega)
end
end
section
attribute [local go_sem↓] Go.wp_at_zero Go.wp_at_succ
theorem eqKept_yes (k:Kd) (a a':Option Addr) (cap cap':Nat) (w:World) (hrow:SRow w w.heap.size a k.refs) (hrow':SRow w w.heap.size a' k.refs) (hl:k.refs.length<=1048576):
 Calls prog 140 #[.agg #[.string k.sum,.int .i64 k.born,.string k.text,.slice a k.refs.length cap],.agg #[.string k.sum,.int .i64 k.born,.string k.text,.slice a' k.refs.length cap']] w fun e w'=>e=.returned (.bool true)/\Below w.heap.size w w':=by
 have hb:∀o1 o2,Below w.heap.size w ((w.alloc o1).alloc o2):=fun o1 o2=>((Below.refl _ _).alloc (Nat.le_refl _) _).alloc (by simp) _;go_enter func140,ntmps140;go_wp2_with fail;refine(eqThing_yes k.text a a' cap cap' k.refs _ (hrow.below' (hb _ _)) (hrow'.below' (hb _ _)) hl).mono ?_;rintro e w1 ⟨rfl,hb1⟩;go_wp2;go_ret;exact⟨rfl,(hb _ _).trans (hb1.mono (by simp;omega))⟩
theorem eqPin_yes (p:Pd) (w:World):
 Calls prog 141 #[.agg #[.string p.name,.string p.sum],.agg #[.string p.name,.string p.sum]] w fun e w'=>e=.returned (.bool true)/\Below w.heap.size w w':=by
 go_enter func141,ntmps141;go_wp2;go_ret;exact⟨rfl,((Below.refl _ _).alloc (Nat.le_refl _) _).alloc (by simp) _⟩
theorem eqLease_yes (p:Ld) (w:World):
 Calls prog 142 #[.agg #[.int .i64 p.num,.string p.sum,.int .i64 p.til],.agg #[.int .i64 p.num,.string p.sum,.int .i64 p.til]] w fun e w'=>e=.returned (.bool true)/\Below w.heap.size w w':=by
 go_enter func142,ntmps142;go_wp2;go_ret;exact⟨rfl,((Below.refl _ _).alloc (Nat.le_refl _) _).alloc (by simp) _⟩
theorem eqPinS_yes (a a':Option Addr) (cap cap':Nat) (ps:List Pd) (w:World) (hrow:PRow w w.heap.size a ps) (hrow':PRow w w.heap.size a' ps) (hl:ps.length<=1048576):
 Calls prog 100 #[.slice a ps.length cap,.slice a' ps.length cap'] w fun e w'=>e=.returned (.bool true)/\Below w.heap.size w w':=by
 go_enter func100,ntmps100;go_wp2
 go_loopw [5] (fun i wr=>∃k:Nat,k<=ps.length/\i=.int .i64 k/\Below w.heap.size w wr) (fun i _=>ps.length -(intOf i).toNat)
 case atStart=>exact⟨0,Nat.zero_le _,rfl,Below.refl _ _⟩
 case round=>
  obtain⟨k,hk,rfl,hbel⟩:=hrel;by_cases hlt:k<ps.length
  ·obtain⟨b,off,ha,hb,hc⟩:=(hrow.below hbel).at hlt
   obtain⟨b',off',ha',hb',hc'⟩:=(hrow'.below hbel).at hlt;subst ha ha';obtain⟨c0,c1⟩:=hc k _ (List.getElem?_eq_getElem hlt);obtain⟨d0,d1⟩:=hc' k _ (List.getElem?_eq_getElem hlt);clear hc hc' hrow hrow';generalize ps[k]=x at *
   go_wp2;go_region_with (go_at_call 141;refine(eqPin_yes x _).mono ?_;rintro e w1 ⟨rfl,hb1⟩)
   all_goals
    have hB:=hbel.drew.trans (hb1.mono hbel.size);go_wp2;exact⟨⟨k+1,by omega,by go_num,hB⟩,by simp[intOf];omega⟩
  ·go_wp2
   go_ret;exact⟨rfl,hbel⟩
theorem eqLeaseS_yes (a a':Option Addr) (cap cap':Nat) (ls:List Ld) (w:World) (hrow:LRow w w.heap.size a ls) (hrow':LRow w w.heap.size a' ls) (hl:ls.length<=1048576):
 Calls prog 101 #[.slice a ls.length cap,.slice a' ls.length cap'] w fun e w'=>e=.returned (.bool true)/\Below w.heap.size w w':=by
 go_enter func101,ntmps101;go_wp2
 go_loopw [5] (fun i wr=>∃k:Nat,k<=ls.length/\i=.int .i64 k/\Below w.heap.size w wr) (fun i _=>ls.length -(intOf i).toNat)
 case atStart=>exact⟨0,Nat.zero_le _,rfl,Below.refl _ _⟩
 case round=>
  obtain⟨k,hk,rfl,hbel⟩:=hrel;by_cases hlt:k<ls.length
  ·obtain⟨b,off,ha,hb,hc⟩:=(hrow.below hbel).at hlt
   obtain⟨b',off',ha',hb',hc'⟩:=(hrow'.below hbel).at hlt;subst ha ha';obtain⟨c0,c1,c2⟩:=hc k _ (List.getElem?_eq_getElem hlt);obtain⟨d0,d1,d2⟩:=hc' k _ (List.getElem?_eq_getElem hlt);clear hc hc' hrow hrow';generalize ls[k]=x at *
   go_wp2;go_region_with (go_at_call 142;refine(eqLease_yes x _).mono ?_;rintro e w1 ⟨rfl,hb1⟩)
   all_goals
    have hB:=hbel.drew.trans (hb1.mono hbel.size);go_wp2;exact⟨⟨k+1,by omega,by go_num,hB⟩,by simp[intOf];omega⟩
  ·go_wp2
   go_ret;exact⟨rfl,hbel⟩
theorem eqKeptS_yes (a a':Option Addr) (cap cap':Nat) (ks:List Kd) (w:World) (hrow:KRow w w.heap.size a ks) (hrow':KRow w w.heap.size a' ks) (hl:ks.length<=1048576) (hrl:∀k∈ks,k.refs.length<=1048576):
 Calls prog 99 #[.slice a ks.length cap,.slice a' ks.length cap'] w fun e w'=>e=.returned (.bool true)/\Below w.heap.size w w':=by
 go_enter func99,ntmps99;go_wp2
 go_loopw [5] (fun i wr=>∃k:Nat,k<=ks.length/\i=.int .i64 k/\Below w.heap.size w wr) (fun i _=>ks.length -(intOf i).toNat)
 case atStart=>exact⟨0,Nat.zero_le _,rfl,Below.refl _ _⟩
 case round=>
  obtain⟨k,hk,rfl,hbel⟩:=hrel;by_cases hlt:k<ks.length
  ·obtain⟨b,off,ha,hb,hc⟩:=(hrow.below hbel).at hlt
   obtain⟨b',off',ha',hb',hc'⟩:=(hrow'.below hbel).at hlt;subst ha ha';obtain⟨c0,c1,c2,ra,rc,c3,hr⟩:=hc k _ (List.getElem?_eq_getElem hlt);obtain⟨d0,d1,d2,ra',rc',d3,hr'⟩:=hc' k _ (List.getElem?_eq_getElem hlt);have hrk:=hrl _ (List.getElem_mem hlt);clear hc hc' hrow hrow' hrl;generalize ks[k]=x at *
   have hcon:=eqKept_yes x ra ra' rc rc' wr.drew (hr.mono hbel.size) (hr'.mono hbel.size) hrk;have HC:Hid _:=hcon;clear hcon hr hr';go_wp2;go_region_with (go_at_call 140;refine Calls.mono HC.out ?_;rintro e w1 ⟨rfl,hb1⟩)
   all_goals
    have hB:=hbel.drew.trans (hb1.mono hbel.size);go_wp2;exact⟨⟨k+1,by omega,by go_num,hB⟩,by simp[intOf];omega⟩
  ·go_wp2
   go_ret;exact⟨rfl,hbel⟩
theorem eqState_yes (wd now given births:Int) (a p l a' p' l':Option Addr) (ac pc lc ac' pc' lc':Nat) (ks:List Kd) (ps:List Pd) (ls:List Ld) (w:World) (hrow:SRows w w.heap.size a p l ks ps ls) (hrow':SRows w w.heap.size a' p' l' ks ps ls) (hf:SFit ks ps ls):
 Calls prog 48 #[.agg #[.int .i64 wd,.int .i64 now,.int .i64 given,.int .i64 births,.slice a ks.length ac,.slice p ps.length pc,.slice l ls.length lc],.agg #[.int .i64 wd,.int .i64 now,.int .i64 given,.int .i64 births,.slice a' ks.length ac',.slice p' ps.length pc',.slice l' ls.length lc']] w fun e w'=>e=.returned (.bool true)/\Below w.heap.size w w':=by
 have hb0:∀o1 o2,Below w.heap.size w ((w.alloc o1).alloc o2):=fun o1 o2=>((Below.refl _ _).alloc (Nat.le_refl _) _).alloc (by simp) _
 have hx:=SBox.below (SBox.new w wd now given births (.slice a ks.length ac) (.slice p ps.length pc) (.slice l ls.length lc) 28) ((Below.refl _ _).alloc (Nat.le_refl _) (.cells #[.int .i64 wd,.int .i64 now,.int .i64 given,.int .i64 births,.slice a' ks.length ac',.slice p' ps.length pc',.slice l' ls.length lc'] 28))
 have hy:=SBox.new (w.alloc (.cells #[.int .i64 wd,.int .i64 now,.int .i64 given,.int .i64 births,.slice a ks.length ac,.slice p ps.length pc,.slice l ls.length lc] 28)) wd now given births (.slice a' ks.length ac') (.slice p' ps.length pc') (.slice l' ls.length lc') 28;go_enter func48,ntmps48;go_wp2_with fail
 refine(eqKeptS_yes a a' ac ac' ks _ (hrow.below' (hb0 _ _)).k (hrow'.below' (hb0 _ _)).k hf.k hf.r).mono ?_;rintro e w1 ⟨rfl,hb1⟩;have hB1:=(hb0 _ _).trans (hb1.mono (by simp;omega));obtain⟨_,_,_,_,_,x5,x6,x7⟩:=hx.below hb1;obtain⟨_,_,_,_,_,y5,y6,y7⟩:=hy.below hb1;simp[go_sem] at y5 y6 y7;clear hb1 hx hy;go_wp2_with fail
 refine(eqPinS_yes p p' pc pc' ps _ (hrow.below' hB1).p (hrow'.below' hB1).p hf.p).mono ?_;rintro e w2 ⟨rfl,hb2⟩;have hB2:=hB1.trans (hb2.mono hB1.size);replace x6:=(hb2.cell (p:=⟨w.heap.size,6,none⟩) x7).trans x6;replace y6:=(hb2.cell (p:=⟨w.heap.size+1,6,none⟩) y7).trans y6;have z2:=hb2.size;clear hb2 x5 y5;go_wp2_with fail
 refine(eqLeaseS_yes l l' lc lc' ls _ (hrow.below' hB2).l (hrow'.below' hB2).l hf.l).mono ?_;rintro e w3 ⟨rfl,hb3⟩;go_wp2;go_ret;exact⟨rfl,hB2.trans (hb3.mono hB2.size)⟩
end
theorem SBox.same' {w w':World} {b:Nat} {wd now given births:Int} {T P L:Value} (h:SBox w b wd now given births T P L) (hb:w'.heap[b]?=w.heap[b]?) (hl:b<w'.heap.size):SBox w' b wd now given births T P L:=by
 obtain⟨h0,h1,h2,h3,h4,h5,h6,h7⟩:=h;have c:=fun j=>World.cell?_of_block (a:=⟨b,j,none⟩) hb;exact⟨(c 0).trans h0,(c 1).trans h1,(c 2).trans h2,(c 3).trans h3,(c 4).trans h4,(c 5).trans h5,(c 6).trans h6,hl⟩
theorem markKeptW (base k:Nat) (T:Value) (rs:List Value) (ks:List Kd) (w:World) (h:KAns w base T rs ks) (hk:1<=k) (hkn:k+ks.length *3+refsN ks<=100000000):
 Calls prog 102 #[T,.int .i64 k] w fun e w'=>e=.returned (.int .i64 (k+ks.length *3+refsN ks:Nat))/\KAns w' base T rs (markK k ks)/\Tn (T.ownBlock.toList++rs.filterMap Value.ownBlock) w w':=by
 have h':=h;rcases h.things.2 with⟨rfl,hn⟩|⟨g,cap,cur,rfl,_⟩
 ·obtain rfl:=List.length_eq_zero_iff.1 hn
  refine(markKeptS_zero none 0 k w).mono ?_;rintro e w' ⟨rfl,rfl⟩;exact⟨by simp[refsN],h',Tn.of (Below.refl _ _)⟩
 ·exact markKeptX base g cap k rs ks w h' hk hkn
theorem heldKeptW (base k:Nat) (T:Value) (rs:List Value) (ks:List Kd) (w:World) (h:KAns w base T rs (markK k ks)) (hk:1<=k) (hkn:k+ks.length *3+refsN ks<=100000000):
 Calls prog 105 #[T,.int .i64 k] w fun e w'=>e=.returned (.int .i64 (k+ks.length *3+refsN ks:Nat))/\Below w.heap.size w w':=by
 have h':=h;rcases h.things.2 with⟨rfl,hn⟩|⟨g,cap,cur,rfl,_⟩
 ·rw[markK_length] at hn
  obtain rfl:=List.length_eq_zero_iff.1 hn;refine(heldKeptS_zero none 0 k w).mono ?_;rintro e w' ⟨rfl,rfl⟩;exact⟨by simp[refsN],Below.refl _ _⟩
 ·rw[markK_length] at h' ⊢
  exact heldKeptX base g cap k rs ks w h' hk hkn
theorem markPinW (base k:Nat) (P:Value) (ps:List Pd) (w:World) (h:w.ownsRow base 134 2 P ps.length (rowC pC ps)) (hk:1<=k) (hkn:k+ps.length *2<=100000000):
 Calls prog 103 #[P,.int .i64 k] w fun e w'=>e=.returned (.int .i64 (k+ps.length *2:Nat))/\w'.ownsRow base 134 2 P ps.length (rowC pC (markP k ps))/\Tn P.ownBlock.toList w w':=by
 have h':=h;rcases h.2 with⟨rfl,hn⟩|⟨g,cap,cur,rfl,_⟩
 ·obtain rfl:=List.length_eq_zero_iff.1 hn
  refine(markPinS_zero none 0 k w).mono ?_;rintro e w' ⟨rfl,rfl⟩;exact⟨by simp,h',Tn.of (Below.refl _ _)⟩
 ·refine(markPinX base g cap k ps w h' hk hkn).mono ?_
  rintro e w' ⟨rfl,h1,h2⟩;exact⟨rfl,h1,Tn.grown h2 (by simp[Value.ownBlock])⟩
theorem heldPinW (base k:Nat) (P:Value) (ps:List Pd) (w:World) (h:w.ownsRow base 134 2 P ps.length (rowC pC (markP k ps))) (hk:1<=k) (hkn:k+ps.length *2<=100000000):
 Calls prog 106 #[P,.int .i64 k] w fun e w'=>e=.returned (.int .i64 (k+ps.length *2:Nat))/\Below w.heap.size w w':=by
 have h':=h;rcases h.2 with⟨rfl,hn⟩|⟨g,cap,cur,rfl,_⟩
 ·obtain rfl:=List.length_eq_zero_iff.1 hn
  refine(heldPinS_zero none 0 k w).mono ?_;rintro e w' ⟨rfl,rfl⟩;exact⟨by simp,Below.refl _ _⟩
 ·exact heldPinX base g cap k ps w h' hk hkn
theorem markLeaseW (base k:Nat) (P:Value) (ps:List Ld) (w:World) (h:w.ownsRow base 137 3 P ps.length (rowC lC ps)) (hk:1<=k) (hkn:k+ps.length *3<=100000000):
 Calls prog 104 #[P,.int .i64 k] w fun e w'=>e=.returned (.int .i64 (k+ps.length *3:Nat))/\w'.ownsRow base 137 3 P ps.length (rowC lC (markL k ps))/\Tn P.ownBlock.toList w w':=by
 have h':=h;rcases h.2 with⟨rfl,hn⟩|⟨g,cap,cur,rfl,_⟩
 ·obtain rfl:=List.length_eq_zero_iff.1 hn
  refine(markLeaseS_zero none 0 k w).mono ?_;rintro e w' ⟨rfl,rfl⟩;exact⟨by simp,h',Tn.of (Below.refl _ _)⟩
 ·refine(markLeaseX base g cap k ps w h' hk hkn).mono ?_
  rintro e w' ⟨rfl,h1,h2⟩;exact⟨rfl,h1,Tn.grown h2 (by simp[Value.ownBlock])⟩
theorem heldLeaseW (base k:Nat) (P:Value) (ps:List Ld) (w:World) (h:w.ownsRow base 137 3 P ps.length (rowC lC (markL k ps))) (hk:1<=k) (hkn:k+ps.length *3<=100000000):
 Calls prog 107 #[P,.int .i64 k] w fun e w'=>e=.returned (.int .i64 (k+ps.length *3:Nat))/\Below w.heap.size w w':=by
 have h':=h;rcases h.2 with⟨rfl,hn⟩|⟨g,cap,cur,rfl,_⟩
 ·obtain rfl:=List.length_eq_zero_iff.1 hn
  refine(heldLeaseS_zero none 0 k w).mono ?_;rintro e w' ⟨rfl,rfl⟩;exact⟨by simp,Below.refl _ _⟩
 ·exact heldLeaseX base g cap k ps w h' hk hkn
def cntS (ks:List Kd) (ps:List Pd) (ls:List Ld):Nat:=ks.length *3+refsN ks+ps.length *2+ls.length *3
theorem SAns.kans {w:World} {base:Nat} {T P L:Value} {rs:List Value} {ks:List Kd} {ps:List Pd} {ls:List Ld} (h:SAns w base T P L rs ks ps ls):KAns w base T rs ks:=by
 refine⟨h.len,h.things,h.refs,?_⟩;have:=h.nd;rw[blks_eq] at this;unfold blks at this;generalize T.ownBlock=t at *
 generalize P.ownBlock=p at *
 generalize L.ownBlock=l at *
 cases t<;>cases p<;>cases l<;>simp_all<;>grind
theorem KAns.same {w w':World} {base:Nat} {T:Value} {rs:List Value} {ks:List Kd} (h:KAns w base T rs ks) (hs:∀b,b<w.heap.size->b∈T.ownBlock.toList++rs.filterMap Value.ownBlock->w'.heap[b]?=w.heap[b]?):KAns w' base T rs ks:=
 ⟨h.len,own_same h.things (fun b hb=>hs b (own_lt h.things hb).2 (by simp[hb])),fun i k r hk hr=>own_same (h.refs i k r hk hr) (fun b hb=>hs b (own_lt (h.refs i k r hk hr) hb).2 (List.mem_append_right _ (List.mem_filterMap.2 ⟨r,List.mem_of_getElem? hr,hb⟩))),h.nd⟩
theorem nd3 {T P L:Option Nat} {R:List Nat} (h:(T.toList++(P.toList++(L.toList++R))).Nodup):(∀b∈T.toList++R,b∉P.toList/\b∉L.toList)/\(∀b∈P.toList,b∉T.toList++R/\b∉L.toList)/\(∀b∈L.toList,b∉T.toList++R/\b∉P.toList):=by
 cases T<;>cases P<;>cases L<;>simp_all<;>grind
theorem markStateX (wd now given births:Int) (base k:Nat) (T P L:Value) (rs:List Value) (ks:List Kd) (ps:List Pd) (ls:List Ld) (w:World) (h:SAns w base T P L rs ks ps ls) (hk:1<=k) (hkn:k+cntS ks ps ls<=100000000):
 Calls prog 50 #[.agg #[.int .i64 wd,.int .i64 now,.int .i64 given,.int .i64 births,T,P,L],.int .i64 k] w fun e w'=>e=.returned (.int .i64 (k+cntS ks ps ls:Nat))/\SAns w' base T P L rs (markK k ks) (markP (k+ks.length *3+refsN ks) ps) (markL (k+ks.length *3+refsN ks+ps.length *2) ls)/\Tn (blks T P L rs) w w':=by
 have hnd:=h.nd;rw[blks_eq] at hnd;obtain⟨n1,n2,n3⟩:=nd3 hnd;have hb0:Below w.heap.size w (w.alloc (.cells #[.int .i64 wd,.int .i64 now,.int .i64 given,.int .i64 births,T,P,L] 28)):=(Below.refl _ _).alloc (Nat.le_refl _) _;have hx:=SBox.new w wd now given births T P L 28;obtain⟨W,hW⟩:∃W,W=w.alloc (.cells #[.int .i64 wd,.int .i64 now,.int .i64 given,.int .i64 births,T,P,L] 28):=⟨_,rfl⟩
 rw[←hW] at hb0 hx;have hlt:∀b∈blks T P L rs,b<w.heap.size:=by
  intro b hb;unfold blks at hb;simp only[List.mem_append,Option.mem_toList,List.mem_filterMap] at hb;rcases hb with hb|hb|hb|⟨r,hr,hb⟩
  ·exact(own_lt h.things hb).2
  ·exact(own_lt h.pins hb).2
  ·exact(own_lt h.leases hb).2
  ·obtain⟨i,hi⟩:=List.getElem?_of_mem hr
   have hil:=(List.getElem?_eq_some_iff.1 hi).1;have hl:=h.len;exact(own_lt (h.refs i ks[i] r (List.getElem?_eq_getElem (by omega)) hi) hb).2
 obtain⟨ta,tc,rfl⟩:=own_val h.things;obtain⟨pa,pc,rfl⟩:=own_val h.pins;obtain⟨la,lc,rfl⟩:=own_val h.leases;have HA:Hid _:=h;have HL:Hid _:=And.intro hlt (And.intro n1 (And.intro n2 n3));have HW:Hid _:=hW;have HX:Hid _:=hx;have hzW:w.heap.size<W.heap.size:=hx.2.2.2.2.2.2.2;have hc1:k+ks.length *3+refsN ks<=100000000:=by unfold cntS at hkn;omega
 have hc2:k+ks.length *3+refsN ks+ps.length *2<=100000000:=by unfold cntS at hkn;omega
 have hc3:k+ks.length *3+refsN ks+ps.length *2+ls.length *3<=100000000:=by unfold cntS at hkn;omega
 obtain⟨x0,x1,x2,x3,x4,x5,x6,x7⟩:=hx;clear h hlt n1 n2 n3 hW hnd x0 x1 x2 x3 hkn;go_enter func50,ntmps50;go_upto_region 1 with fail;rw[←HW.out];clear HW;have K0:KAns W base (.slice ta ks.length tc) rs ks:=KAns.same HA.out.kans (fun b hb _=>hb0.block b hb);go_wp2_with fail;refine(markKeptW base k _ rs ks W K0 hk hc1).mono ?_;rintro e w1 ⟨rfl,k1,t1⟩
 have hV1:∀b∈(Value.slice ta ks.length tc).ownBlock.toList++rs.filterMap Value.ownBlock,b∈blks (.slice ta ks.length tc) (.slice pa ps.length pc) (.slice la ls.length lc) rs:=fun b hb=>by
  unfold blks;rcases List.mem_append.1 hb with hb|hb
  ·exact List.mem_append_left _ hb
  ·exact List.mem_append_right _ (List.mem_append_right _ (List.mem_append_right _ hb))
 have hbx:∀{V:List Nat} {X Y:World},Tn V X Y->(∀b∈V,b∈blks (.slice ta ks.length tc) (.slice pa ps.length pc) (.slice la ls.length lc) rs)->W.heap.size<=X.heap.size->SBox X w.heap.size wd now given births (.slice ta ks.length tc) (.slice pa ps.length pc) (.slice la ls.length lc)->SBox Y w.heap.size wd now given births (.slice ta ks.length tc) (.slice pa ps.length pc) (.slice la ls.length lc):=fun ht hV hz hx=>hx.same' (ht.block _ (by omega) (fun e=>by have:=HL.out.1 _ (hV _ e);omega)) (Nat.lt_of_lt_of_le (Nat.lt_of_lt_of_le hzW hz) ht.size)
 have X1:=hbx t1 hV1 (Nat.le_refl _) HX.out;have X1c:=X1;obtain⟨_,_,_,_,_,y5,y6,_⟩:=X1c;have p1:w1.ownsRow base 134 2 (.slice pa ps.length pc) ps.length (rowC pC ps):=own_same (own_below HA.out.pins hb0) (fun b hb=>t1.block b (Nat.lt_of_lt_of_le (own_lt HA.out.pins hb).2 hb0.size) (HL.out.2.2.1 b (by simp[hb])).1);have H1:Hid _:=And.intro k1 (And.intro t1 X1);clear k1 t1 x4 x5 x6 K0 X1
 go_wp2_with fail;refine(markPinW base (k+ks.length *3+refsN ks) _ ps w1 p1 (by omega) hc2).mono ?_;rintro e w2 ⟨rfl,p2,t2⟩;have hV2:∀b∈(Value.slice pa ps.length pc).ownBlock.toList,b∈blks (.slice ta ks.length tc) (.slice pa ps.length pc) (.slice la ls.length lc) rs:=fun b hb=>by
  unfold blks;exact List.mem_append_right _ (List.mem_append_left _ hb)
 have X2:=hbx t2 hV2 H1.out.2.1.size H1.out.2.2;have X2c:=X2;obtain⟨_,_,_,_,_,_,z6,_⟩:=X2c
 have l2:w2.ownsRow base 137 3 (.slice la ls.length lc) ls.length (rowC lC ls):=own_same (own_same (own_below HA.out.leases hb0) (fun b hb=>H1.out.2.1.block b (Nat.lt_of_lt_of_le (own_lt HA.out.leases hb).2 hb0.size) (HL.out.2.2.2 b (by simp[hb])).1)) (fun b hb=>t2.block b (Nat.lt_of_lt_of_le (Nat.lt_of_lt_of_le (own_lt HA.out.leases hb).2 hb0.size) H1.out.2.1.size) (HL.out.2.2.2 b (by simp[hb])).2)
 have H2:Hid _:=And.intro p2 (And.intro t2 X2);clear p2 t2 p1 y5 y6 X2;go_wp2_with fail;refine(markLeaseW base (k+ks.length *3+refsN ks+ps.length *2) _ ls w2 l2 (by omega) hc3).mono ?_;rintro e w3 ⟨rfl,l3,t3⟩;have hV3:∀b∈(Value.slice la ls.length lc).ownBlock.toList,b∈blks (.slice ta ks.length tc) (.slice pa ps.length pc) (.slice la ls.length lc) rs:=fun b hb=>by
  unfold blks;exact List.mem_append_right _ (List.mem_append_right _ (List.mem_append_left _ hb))
 have H3:Hid _:=And.intro l3 t3;clear l3 t3 l2 z6;go_wp2;go_ret;obtain⟨k1,t1,_⟩:=H1.out;obtain⟨p2,t2,_⟩:=H2.out;obtain⟨l3,t3⟩:=H3.out;have hW1:=t1.size;have hW2:=t2.size
 refine⟨by rw[show k+cntS ks ps ls=k+ks.length *3+refsN ks+ps.length *2+ls.length *3 by unfold cntS;omega];rfl,⟨by rw[markK_length];exact HA.out.len,?_,?_,?_,?_,HA.out.nd⟩,(((Tn.of hb0).trans (t1.mono hV1)).trans (t2.mono hV2)).trans (t3.mono hV3)⟩
 ·exact own_same (own_same k1.things (fun b hb=>t2.block b (own_lt k1.things hb).2 (HL.out.2.1 b (by simp[hb])).1)) (fun b hb=>t3.block b (Nat.lt_of_lt_of_le (own_lt k1.things hb).2 hW2) (HL.out.2.1 b (by simp[hb])).2)
 ·intro i x r hx hr
  have ho:=k1.refs i x r hx hr;have hm:∀b,r.ownBlock=some b->b∈(Value.slice ta ks.length tc).ownBlock.toList++rs.filterMap Value.ownBlock:=fun b hb=>List.mem_append_right _ (List.mem_filterMap.2 ⟨r,List.mem_of_getElem? hr,hb⟩)
  exact own_same (own_same ho (fun b hb=>t2.block b (own_lt ho hb).2 (HL.out.2.1 b (hm b hb)).1)) (fun b hb=>t3.block b (Nat.lt_of_lt_of_le (own_lt ho hb).2 hW2) (HL.out.2.1 b (hm b hb)).2)
 ·rw[markP_length]
  exact own_same p2 (fun b hb=>t3.block b (own_lt p2 hb).2 (HL.out.2.2.1 b (by simp[hb])).2)
 ·rw[markL_length]
  exact l3
theorem SAns.below {w w':World} {base:Nat} {T P L:Value} {rs:List Value} {ks:List Kd} {ps:List Pd} {ls:List Ld} (h:SAns w base T P L rs ks ps ls) (hb:Below w.heap.size w w'):SAns w' base T P L rs ks ps ls:=
 ⟨h.len,own_below h.things hb,fun i k r hk hr=>own_below (h.refs i k r hk hr) hb,own_below h.pins hb,own_below h.leases hb,h.nd⟩
theorem heldStateX (wd now given births:Int) (base k:Nat) (T P L:Value) (rs:List Value) (ks:List Kd) (ps:List Pd) (ls:List Ld) (w:World) (h:SAns w base T P L rs (markK k ks) (markP (k+ks.length *3+refsN ks) ps) (markL (k+ks.length *3+refsN ks+ps.length *2) ls)) (hk:1<=k) (hkn:k+cntS ks ps ls<=100000000):
 Calls prog 51 #[.agg #[.int .i64 wd,.int .i64 now,.int .i64 given,.int .i64 births,T,P,L],.int .i64 k] w fun e w'=>e=.returned (.int .i64 (k+cntS ks ps ls:Nat))/\Below w.heap.size w w':=by
 have hb0:Below w.heap.size w (w.alloc (.cells #[.int .i64 wd,.int .i64 now,.int .i64 given,.int .i64 births,T,P,L] 28)):=(Below.refl _ _).alloc (Nat.le_refl _) _;have hx:=SBox.new w wd now given births T P L 28;obtain⟨W,hW⟩:∃W,W=w.alloc (.cells #[.int .i64 wd,.int .i64 now,.int .i64 given,.int .i64 births,T,P,L] 28):=⟨_,rfl⟩;rw[←hW] at hb0 hx;obtain⟨ta,tc,rfl⟩:=own_val h.things
 obtain⟨pa,pc,rfl⟩:=own_val h.pins;obtain⟨la,lc,rfl⟩:=own_val h.leases;have HA:Hid _:=h.below hb0;have HW:Hid _:=hW;have HX:Hid _:=hx;have hc1:k+ks.length *3+refsN ks<=100000000:=by unfold cntS at hkn;omega
 have hc2:k+ks.length *3+refsN ks+ps.length *2<=100000000:=by unfold cntS at hkn;omega
 have hc3:k+ks.length *3+refsN ks+ps.length *2+ls.length *3<=100000000:=by unfold cntS at hkn;omega
 obtain⟨x0,x1,x2,x3,x4,x5,x6,x7⟩:=hx;clear h hW x0 x1 x2 x3 hkn;go_enter func51,ntmps51;go_upto_region 1 with fail;rw[←HW.out];clear HW;go_wp2_with fail;refine(heldKeptW base k _ rs ks W HA.out.kans hk hc1).mono ?_;rintro e w1 ⟨rfl,hb1⟩;have X1:=SBox.below HX.out hb1;obtain⟨_,_,_,_,_,y5,y6,_⟩:=X1;have p1:=own_below HA.out.pins hb1;rw[markP_length] at p1
 have e1:¬(((k+ks.length *3+refsN ks:Nat):Int)<0):=by omega
 clear x4 x5 x6;rw[markP_length] at *
 go_wp2_with fail;refine(heldPinW base (k+ks.length *3+refsN ks) _ ps w1 p1 (by omega) hc2).mono ?_;rintro e w2 ⟨rfl,hb2⟩;have X2:=SBox.below (SBox.below HX.out hb1) hb2;obtain⟨_,_,_,_,_,_,z6,_⟩:=X2;have l2:=own_below (own_below HA.out.leases hb1) hb2;rw[markL_length] at *
 have e2:¬(((k+ks.length *3+refsN ks+ps.length *2:Nat):Int)<0):=by omega
 clear y5 y6 p1;go_wp2_with fail;refine(heldLeaseW base (k+ks.length *3+refsN ks+ps.length *2) _ ls w2 l2 (by omega) hc3).mono ?_;rintro e w3 ⟨rfl,hb3⟩;have e3:¬(((k+ks.length *3+refsN ks+ps.length *2+ls.length *3:Nat):Int)<0):=by omega
 clear z6 l2;go_wp2;go_ret;exact⟨by rw[show k+cntS ks ps ls=k+ks.length *3+refsN ks+ps.length *2+ls.length *3 by unfold cntS;omega];rfl,((hb0.trans (hb1.mono hb0.size)).trans (hb2.mono (Nat.le_trans hb0.size hb1.size))).trans (hb3.mono (Nat.le_trans (Nat.le_trans hb0.size hb1.size) hb2.size))⟩
theorem nilS (w:World) (base:Nat):SAns w base (.slice none 0 0) (.slice none 0 0) (.slice none 0 0) [] [] [] []:=
 ⟨rfl,⟨rfl,.inl ⟨rfl,rfl⟩⟩,fun i k r hk=>(by simp at hk),⟨rfl,.inl ⟨rfl,rfl⟩⟩,⟨rfl,.inl ⟨rfl,rfl⟩⟩,List.nodup_nil⟩
structure An where
 code:Int
 wd:Int
 now:Int
 given:Int
 births:Int
 le:Int
 sm:ByteArray
 a:ByteArray
 b:ByteArray
 ks:List Kd
 ps:List Pd
 ls:List Ld
def r0:Rs:=⟨⟨#[]⟩,0,0,0,0,[],[],[]⟩
def Stp (wd:Int) (r:Rs) (x:ByteArray) (r':Rs):Prop:=(rdE x wd).ok=true/\AYes wd r.now r.given r.births r.ks r.ps r.ls (rdE x wd).k (rdE x wd).sum (rdE x wd).name (rdE x wd).n (rdE x wd).t (rdE x wd).ss r'
def Bad (wd:Int) (r:Rs) (x:ByteArray):Prop:=(rdE x wd).ok=false∨∃c a b,ANo wd r.now r.given r.births r.ks r.ps r.ls (rdE x wd).k (rdE x wd).sum (rdE x wd).name (rdE x wd).n (rdE x wd).t (rdE x wd).ss c a b
def Run (wd:Int):Rs->List ByteArray->Rs->Prop
 |r,[],r'=>r'=r
 |r,x::xs,r'=>∃r1,Stp wd r x r1/\Run wd r1 xs r'
def RunNo (wd:Int) (xs:List ByteArray) (n:Nat):Prop:=∃k r x,n=k+1/\xs[k]?=some x/\Run wd r0 (xs.take k) r/\Bad wd r x
def Rs.ok (wd:Int) (r:Rs):Prop:=ROk wd r.now r.given r.births r.ks r.ps r.ls
theorem Run.snoc {wd:Int} {x:ByteArray} {r1 r2:Rs} (h2:Stp wd r1 x r2):∀{xs:List ByteArray} {r:Rs},Run wd r xs r1->Run wd r (xs++[x]) r2
 |[],r,h=>by
  obtain rfl:r1=r:=h;exact⟨r2,h2,rfl⟩
 |y::ys,r,h=>by
  obtain⟨r3,h3,h4⟩:=h;exact⟨r3,h3,Run.snoc h2 h4⟩
theorem Stp.det {wd:Int} {r a b:Rs} {x:ByteArray} (h:Stp wd r x a) (k:Stp wd r x b):a=b:=h.2.det k.2
theorem Stp.ok {wd:Int} {r r':Rs} {x:ByteArray} (h:Stp wd r x r') (hr:r.ok wd):r'.ok wd:=ROk.step hr (rdE_sound h.1).1 h.2
theorem Stp.not {wd:Int} {r r':Rs} {x:ByteArray} (h:Stp wd r x r') (hr:r.ok wd):¬Bad wd r x:=by
 rintro(e|⟨c,a,b,e⟩)
 ·rw[h.1] at e
  cases e
 ·exact e.not hr.kso.nd h.2
theorem Run.det {wd:Int}:∀{xs:List ByteArray} {r a b:Rs},Run wd r xs a->Run wd r xs b->a=b
 |[],r,a,b,h,k=>by
  have h1:a=r:=h;have h2:b=r:=k;rw[h1,h2]
 |x::xs,r,a,b,h,k=>by
  obtain⟨r1,h1,h2⟩:=h;obtain⟨r2,k1,k2⟩:=k;obtain rfl:=h1.det k1;exact Run.det h2 k2
theorem Run.ok {wd:Int}:∀{xs:List ByteArray} {r r':Rs},Run wd r xs r'->r.ok wd->r'.ok wd
 |[],r,r',h,hr=>by
  obtain rfl:r'=r:=h;exact hr
 |x::xs,r,r',h,hr=>by
  obtain⟨r1,h1,h2⟩:=h;exact Run.ok h2 (h1.ok hr)
theorem Run.at {wd:Int}:∀{xs:List ByteArray} {r r':Rs},Run wd r xs r'->∀{k:Nat} {x:ByteArray},xs[k]?=some x->∃r1 r2,Run wd r (xs.take k) r1/\Stp wd r1 x r2
 |[],r,r',h,k,x,hx=>by simp at hx
 |y::ys,r,r',h,k,x,hx=>by
  obtain⟨r3,h3,h4⟩:=h;cases k with
  |zero=>
   simp at hx;subst hx;exact⟨r,r3,rfl,h3⟩
  |succ k=>
   obtain⟨r1,r2,h5,h6⟩:=Run.at h4 (k:=k) (x:=x) (by simpa using hx);exact⟨r1,r2,⟨r3,h3,h5⟩,h6⟩
theorem r0_ok {wd:Int} (h1:1<=wd) (h8:wd<=8):r0.ok wd:=ROk.zero h1 h8
theorem RunNo.not {wd:Int} {xs:List ByteArray} {n:Nat} {r:Rs} (h1:1<=wd) (h8:wd<=8) (h:RunNo wd xs n):¬Run wd r0 xs r:=fun hr=>by
 obtain⟨k,r1,x,rfl,hx,h2,h3⟩:=h;obtain⟨r2,r3,h4,h5⟩:=hr.at hx;obtain rfl:=h2.det h4;exact h5.not (h2.ok (r0_ok h1 h8)) h3
def RTo (wd:Int) (xs:List ByteArray) (x:An):Prop:=
 (¬((1<=wd/\wd<=8)/\xs.length<=4000)/\x=⟨1,0,0,0,0,0,⟨#[]⟩,⟨#[]⟩,⟨#[]⟩,[],[],[]⟩)∨
 (((1<=wd/\wd<=8)/\xs.length<=4000)/\(
   (∃n:Nat,RunNo wd xs n/\x=⟨7,0,0,0,0,n,⟨#[]⟩,⟨#[]⟩,⟨#[]⟩,[],[],[]⟩)∨
   (∃r,Run wd r0 xs r/\x=⟨0,wd,r.now,r.given,r.births,0,⟨#[]⟩,⟨#[]⟩,⟨#[]⟩,r.ks,r.ps,r.ls⟩)))
def RBox (w:World) (b:Nat) (ph:Int) (Q M:Value) (top at_ ro:Int):Prop:=
 w.cell? ⟨b,0,none⟩=some (.int .i64 ph)/\w.cell? ⟨b,1,none⟩=some Q/\w.cell? ⟨b,2,none⟩=some M/\w.cell? ⟨b,3,none⟩=some (.int .i64 top)/\
  w.cell? ⟨b,4,none⟩=some (.int .i64 at_)/\w.cell? ⟨b,5,none⟩=some (.int .i64 ro)/\b<w.heap.size
structure RFit (qs ms:List ByteArray):Prop where
 q:qs.length<=1048576
 m:ms.length<=1048576
theorem eqRound_yes (ph top at_ ro:Int) (a b a' b':Option Addr) (ac bc ac' bc':Nat) (qs ms:List ByteArray) (w:World) (hq:SRow w w.heap.size a qs) (hm:SRow w w.heap.size b ms) (hq':SRow w w.heap.size a' qs) (hm':SRow w w.heap.size b' ms) (hf:RFit qs ms):
 Calls prog 61 #[.agg #[.int .i64 ph,.slice a qs.length ac,.slice b ms.length bc,.int .i64 top,.int .i64 at_,.int .i64 ro],.agg #[.int .i64 ph,.slice a' qs.length ac',.slice b' ms.length bc',.int .i64 top,.int .i64 at_,.int .i64 ro]] w fun e w'=>e=.returned (.bool true)/\Below w.heap.size w w':=by
 have hb:Below w.heap.size w ((w.alloc (.cells #[.int .i64 ph,.slice a qs.length ac,.slice b ms.length bc,.int .i64 top,.int .i64 at_,.int .i64 ro] 42)).alloc (.cells #[.int .i64 ph,.slice a' qs.length ac',.slice b' ms.length bc',.int .i64 top,.int .i64 at_,.int .i64 ro] 42)):=((Below.refl _ _).alloc (Nat.le_refl _) _).alloc (by simp) _;go_enter func61,ntmps61;go_wp2_with fail
 refine(eqS_yes a a' ac ac' qs _ _ _ (hq.below hb) (hq'.below hb) hf.q).mono ?_;rintro e w' ⟨rfl,n,rfl⟩;have hbn:=belowN hb n;go_wp2_with fail;refine(eqS_yes b b' bc bc' ms _ _ _ (hm.below hbn) (hm'.below hbn) hf.m).mono ?_;rintro e w' ⟨rfl,m,rfl⟩;go_wp2;go_ret;exact⟨rfl,belowN hb (n+m)⟩
section
attribute [local go_sem↓] Go.wp_at_zero Go.wp_at_succ
end
section
attribute [local go_sem↓] Go.wp_at_zero Go.wp_at_succ
open Classical in
structure SumsOk (wd:Int) (qs ms:List ByteArray):Prop where
 nq:qs.length<=23200
 nm:ms.length<=600
 q:∀s∈qs,(s.size:Int)=wd
 m:∀s∈ms,(s.size:Int)=wd
 nd:ms.Nodup
end
theorem range_any (n lo hi:Int) (w:World):
 Calls prog 52 #[.int .i64 n,.int .i64 lo,.int .i64 hi] w fun e w'=>e=.returned (.bool (decide (lo<=n/\n<=hi)))/\w'=w:=by
 by_cases h1:lo<=n
 ·by_cases h2:n<=hi
  ·go_enter func52,ntmps52
   go_wp2;go_ret;exact⟨ret_b (by simp[h1,h2]),rfl⟩
  ·go_enter func52,ntmps52
   go_wp2;go_ret;exact⟨ret_b (by simp[h2]),rfl⟩
 ·have h1':decide (lo<=n)=false:=by simpa using h1
  go_enter func52,ntmps52;go_wp2;go_ret;exact⟨ret_b (by simp),rfl⟩
section
attribute [local go_sem↓] Go.wp_at_zero Go.wp_at_succ
def PhOk (births ph top at_:Int) (qs ms:List ByteArray):Prop:=
 (ph=0/\qs=[]/\ms=[]/\top=0/\at_=0)∨(ph=1/\0<=top/\top<=births/\at_=top+1)∨(ph=2/\0<=top/\top<=births/\1<=at_/\at_<=top+1)
structure RoundOk (wd births ph top at_ ro:Int) (qs ms:List ByteArray):Prop where
 ro1:0<=ro
 ro2:ro<=1000000000
 sums:SumsOk wd qs ms
 ph:PhOk births ph top at_ qs ms
end
end Go.Proofs.YtpekbmegopfhfaaGreatDoor
