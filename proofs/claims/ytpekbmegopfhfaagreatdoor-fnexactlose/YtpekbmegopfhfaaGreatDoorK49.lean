import Derived.Test.YtpekbmegopfhfaaGreatDoorK34
import Derived.Test.YtpekbmegopfhfaaGreatDoorK44
import Derived.Test.YtpekbmegopfhfaaGreatDoorK46
set_option maxRecDepth 100000
set_option maxHeartbeats 16000000
namespace Go.Proofs.YtpekbmegopfhfaaGreatDoor
open Go.ChangeShapes Go.WideShapes Go.ChangeAt Go.RowKit _root_.Go.Proofs.Tryz
theorem Kp:CK v0:=⟨by simp[v0],by simp[v0],by simp[v0],by simp[v0],⟨by simp[v0],by simp[v0],by simp[v0],by simp[v0]⟩,⟨by simp[v0],by simp[v0]⟩,by simp[v0,AC]⟩
theorem FV {ss tt:List ByteArray} {k:Int} (hs:∀s∈ss,s.size<=1048576) (ht:∀s∈tt,s.size<=1048576):(AN ss tt k).length<=1048576/\∀s∈AN ss tt k,s.size<=1048576:=by
 unfold AN;split
 ·next h=>
  have hl:=Fp h;rw[List.length_append] at hl;refine⟨?_,fun s hm=> ?_⟩
  ·rw[List.length_append,List.length_take]
   omega
  ·rcases List.mem_append.1 hm with h|h
   ·exact hs s h
   ·exact ht s (List.mem_of_mem_take h)
 ·exact⟨by simp,by simp⟩
theorem OQ {w:World} {n:Nat} {u:Value} {l:List ByteArray} (h:w.ownsRow n 9 1 u l.length (l.map Value.string)):∃a c,u=.slice a l.length c/\Ae w w.heap.size a l/\(a=none->l.length=0/\c=0):=by
 obtain⟨a,c,rfl,hr⟩:=(Ar.own h).row;refine⟨a,c,rfl,hr,fun e=> ?_⟩;subst e;rcases h.2 with⟨e,_⟩|⟨g,cap,zA,e,_⟩
 ·injection e with _ e2 e3
  exact⟨e2,e3⟩
 ·injection e with e1
  cases e1
theorem El.fit {wd lim:Int} {ss tt:List ByteArray} {c:Int} {v:Vd} (h:El wd lim ss tt c v) (hf:WN ss tt):CK v:=by
 rcases h with⟨_,_,rfl⟩|⟨g,⟨_,_,rfl⟩|⟨r,hr,_,rfl⟩⟩
 ·exact Kp
 ·exact Kp
 ·have ho:=hr.ok (Fy g.1.1 g.1.2)
  have h1:=ho.kso.len;have h2:=ho.np;have h3:=ho.nl;have h4:=ho.r30;have h5:=TG h4;exact⟨hf.s,hf.t,hf.ss,hf.tt,⟨by show r.ks.length<=_;omega,fun k hk=>by have:=h4 k hk;omega,by show r.ps.length<=_;omega,by show r.ls.length<=_;omega⟩,⟨by simp[Ht],by simp[Ht]⟩,by show AC r.ks<=_;omega⟩
structure ID (w V:World) (u v:Value):Prop where
 b0:V.cell? (XL (w.heap.size) 0)=some u
 b1:V.cell? (XL (w.heap.size) 1)=some v
 r0:V.cell? (XL (w.heap.size+1) 0)=some XN
 r1:V.cell? (XL (w.heap.size+1) 1)=some XN
 f:∀o,V.frozen? ⟨w.heap.size+1,o,none⟩=false
 bel:Below w.heap.size w V
 le:w.heap.size+2<=V.heap.size
theorem ID.alloc {w V:World} {u v:Value} (h:ID w V u v) (o:Obj):ID w (V.alloc o) u v:=by
 have hb:=(Below.refl V.heap.size V).alloc (XB) o;have:=h.le;exact⟨(hb.cell (p:=⟨w.heap.size,0,none⟩) (by simp;omega)).trans h.b0,(hb.cell (p:=⟨w.heap.size,1,none⟩) (by simp;omega)).trans h.b1,(hb.cell (p:=⟨w.heap.size+1,0,none⟩) (by simp;omega)).trans h.r0,(hb.cell (p:=⟨w.heap.size+1,1,none⟩) (by simp;omega)).trans h.r1,
  fun o=>(hb.frozen (p:=⟨w.heap.size+1,o,none⟩) (by simp;omega)).trans (h.f o),h.bel.alloc h.bel.size o,by simp;omega⟩
theorem ID.drew {w V:World} {u v:Value} (h:ID w V u v):ID w V.drew u v:=⟨h.b0,h.b1,h.r0,h.r1,h.f,h.bel.drew,h.le⟩
theorem ID.grown {w V V':World} {u v:Value} {q:Nat} (h:ID w V u v) (hg:V.grownBy V' (some q)) (hq:w.heap.size+2<=q):ID w V' u v:=by
 have:=h.le;have:=hg.size;exact⟨hg.cell h.b0 (by simp;omega),hg.cell h.b1 (by simp;omega),hg.cell h.r0 (by simp;omega),hg.cell h.r1 (by simp;omega),
  fun o=>(hg.frozen_far ⟨w.heap.size+1,o,none⟩ (by simp;omega) (by simp;omega)).trans (h.f o),h.bel.grown hg h.bel.size (fun k hk=>by cases hk;omega),by omega⟩
theorem Sm (g h c d:Nat) (ss tt:List ByteArray) (w:World) (hr:Ae w w.heap.size (some ⟨g,0,none⟩) ss) (hq:Ae w w.heap.size (some ⟨h,0,none⟩) tt) (hl:ss.length<=1048576) (yI:tt.length<=1048576):
 Calls prog 55 #[.agg #[.slice (some ⟨g,0,none⟩) ss.length c,.slice (some ⟨h,0,none⟩) tt.length d]] w fun e w'=>∃x cx y cy,e=.returned (.agg #[.slice (some ⟨x,0,none⟩) ss.length cx,.slice (some ⟨y,0,none⟩) tt.length cy])/\
  w'.ownsRow w.heap.size 9 1 (.slice (some ⟨x,0,none⟩) ss.length cx) ss.length (ss.map Value.string)/\w'.ownsRow w.heap.size 9 1 (.slice (some ⟨y,0,none⟩) tt.length cy) tt.length (tt.map Value.string)/\x≠y/\Xz w w':=by
 obtain⟨i0,hi,zT,zR,zU⟩:=info_parts CO;have yC:Below w.heap.size w ((w.alloc (.cells #[.slice (some ⟨g,0,none⟩) ss.length c,.slice (some ⟨h,0,none⟩) tt.length d] 40)).alloc (.cells #[XN,XN] 40)):=(XA).alloc (by simp) _;obtain⟨W,hW⟩:∃W,W=(w.alloc (.cells #[.slice (some ⟨g,0,none⟩) ss.length c,.slice (some ⟨h,0,none⟩) tt.length d] 40)).alloc (.cells #[XN,XN] 40):=⟨_,rfl⟩
 have P:ID w W (.slice (some ⟨g,0,none⟩) ss.length c) (.slice (some ⟨h,0,none⟩) tt.length d):=by
  rw[hW];exact⟨by simp[go_sem],by simp[go_sem],by simp[go_sem],by simp[go_sem],fun o=>by simp[go_sem],yC,by simp⟩
 have HW:Hid _:=hW;have HP:Hid _:=P;go_enter func55,ntmps55;go_wp2_with fail;rw[←HW.o];obtain⟨b0,b1,r0,r1,f0,_,yG⟩:=P;obtain⟨a0,a1,_,_,_,_,_⟩:=HP.o.alloc (.cells #[] 9);obtain⟨yF,yH,_,_,_,_,_⟩:=(HP.o.alloc (.cells #[] 9)).alloc (.cells #[] 9);clear hW yC HW
 have oA:(W.alloc (.cells #[] 9)).drew.ownsRow (w.heap.size+2) 9 1 (.slice (some ⟨W.heap.size,0,none⟩) 0 0) 0 (([]:List ByteArray).map Value.string):=World.ownsRow_lit W #[] 0 (by omega) (by unfold maxLen;omega) rfl
 have zN:((W.alloc (.cells #[] 9)).alloc (.cells #[] 9)).drew.ownsRow (w.heap.size+2) 9 1 (.slice (some ⟨W.heap.size,0,none⟩) 0 0) 0 (([]:List ByteArray).map Value.string):=World.ownsRow.alloc (World.ownsRow_lit W #[] 0 (by omega) (by unfold maxLen;omega) rfl) _
 have zM:((W.alloc (.cells #[] 9)).alloc (.cells #[] 9)).drew.ownsRow (w.heap.size+2) 9 1 (.slice (some ⟨W.heap.size+1,0,none⟩) 0 0) 0 (([]:List ByteArray).map Value.string):=by
  have h1:=World.ownsRow_lit (base:=w.heap.size+2) (e:=9) (size:=1) (W.alloc (.cells #[] 9)) #[] 0 (by simp;omega) (by unfold maxLen;omega) rfl;rw[World.size_alloc] at h1;exact h1
 have yD:=(hr.below (HP.o.alloc (.cells #[] 9)).drew.bel).cells;have yE:=(hq.below (HP.o.alloc (.cells #[] 9)).drew.bel).cells;have zP:=(hr.below ((HP.o.alloc (.cells #[] 9)).alloc (.cells #[] 9)).drew.bel).cells;have yB:=(hq.below ((HP.o.alloc (.cells #[] 9)).alloc (.cells #[] 9)).drew.bel).cells
 go_region_law (first
  |(guard_target=if Region.wanted _ _=true then Oper.wp _ _ _ (W.alloc (.cells #[] 9)).drew _ _ else _;refine Ce (W.alloc (.cells #[] 9)).drew rfl (.tmp 3) (.tmp 5) 22 rfl (w.heap.size+2) 9 i0 XM 16 underlying22 hi zT zR zU rfl (W.heap.size) 0 0 [] rfl oA ⟨g,0,none⟩ ss.length c ss rfl rfl yD (by unfold maxLen;omega) (by omega) (by first|omega|(simp;omega)) ?_;intro k6 zO w6 zK zI zF zV;simp only[Nat.zero_add,List.nil_append] at zK;have z6:=zI.size;simp at z6 zF;have x6:=(HP.o.alloc _).drew.grown zI (by omega);have c0:=x6.b0;have c1:=x6.b1;have d0:=(x6.alloc (.cells #[] 9)).b0;have d1:=(x6.alloc (.cells #[] 9)).b1;have zW:=z6)
  |(guard_target=if Region.wanted _ _=true then Oper.wp _ _ _ ((W.alloc (.cells #[] 9)).alloc (.cells #[] 9)).drew _ _ else _;refine Ce ((W.alloc (.cells #[] 9)).alloc (.cells #[] 9)).drew rfl (.tmp 3) (.tmp 5) 22 rfl (w.heap.size+2) 9 i0 XM 16 underlying22 hi zT zR zU rfl (W.heap.size) 0 0 [] rfl zN ⟨g,0,none⟩ ss.length c ss rfl rfl zP (by unfold maxLen;omega) (by omega) (by first|omega|(simp;omega)) ?_;intro k6 zO w6 zK zI zF zV;simp only[Nat.zero_add,List.nil_append] at zK;have z6:=zI.size;simp at z6 zF;have x6:=((HP.o.alloc _).alloc _).drew.grown zI (by omega);have c0:=x6.b0;have c1:=x6.b1;have zH:=zM.kept zI (.inr (by simp[Value.ownBlock]));have zY:=z6)
  |(guard_target=if Region.wanted _ _=true then Oper.wp _ _ _ ((W.alloc (.cells #[] 9)).alloc (.cells #[] 9)).drew _ _ else _;refine Ce ((W.alloc (.cells #[] 9)).alloc (.cells #[] 9)).drew rfl (.tmp 3) (.tmp 5) 22 rfl (w.heap.size+2) 9 i0 XM 16 underlying22 hi zT zR zU rfl (W.heap.size+1) 0 0 [] rfl zM ⟨g,0,none⟩ ss.length c ss rfl rfl zP (by unfold maxLen;omega) (by omega) (by first|omega|(simp;omega)) ?_;intro k6 zO w6 zK zI zF zV;simp only[Nat.zero_add,List.nil_append] at zK;have z6:=zI.size;simp at z6 zF;have x6:=((HP.o.alloc _).alloc _).drew.grown zI (by omega);have c0:=x6.b0;have c1:=x6.b1;have zH:=zN.kept zI (.inr (by simp[Value.ownBlock]));have zX:=z6)
  |(have zE:=zW;refine Ce (w6.alloc (.cells #[] 9)) rfl (.tmp 7) (.tmp 9) 22 rfl (w.heap.size+2) 9 i0 XM 16 underlying22 hi zT zR zU rfl (w6.heap.size) 0 0 [] rfl (World.ownsRow_lit w6 #[] 0 (by omega) (by unfold maxLen;omega) rfl) ⟨h,0,none⟩ tt.length d tt rfl rfl (hq.below (x6.alloc _).bel).cells (by unfold maxLen;omega) (by omega) (by first|omega|(simp;omega)) ?_;intro zS zG w9 zB zA zC zJ;simp only[Nat.zero_add,List.nil_append] at zB;have z9:=zA.size;(try simp at z9 zC);have F6:=(zK.alloc _).kept zA (.inr (by simp[Value.ownBlock];omega));have yA:=zB;have zZ:k6≠zS:=(by omega);have x9:=(x6.alloc _).grown zA (by omega);have y0:=x9.r0;have y1:=x9.r1;have yf:=x9.f)
  |(have zE:=zY;refine Ce w6 rfl (.tmp 7) (.tmp 9) 22 rfl (w.heap.size+2) 9 i0 XM 16 underlying22 hi zT zR zU rfl (W.heap.size+1) 0 0 [] rfl zH ⟨h,0,none⟩ tt.length d tt rfl rfl (hq.below x6.bel).cells (by unfold maxLen;omega) (by omega) (by first|omega|(simp;omega)) ?_;intro zS zG w9 zB zA zC zJ;simp only[Nat.zero_add,List.nil_append] at zB;have z9:=zA.size;(try simp at z9 zC);have F6:=zK.kept zA (.inr (by simp[Value.ownBlock];omega));have yA:=zB;have zZ:k6≠zS:=(by omega);have x9:=x6.grown zA (by omega);have y0:=x9.r0;have y1:=x9.r1;have yf:=x9.f)
  |(have zE:=zX;refine Ce w6 rfl (.tmp 7) (.tmp 9) 22 rfl (w.heap.size+2) 9 i0 XM 16 underlying22 hi zT zR zU rfl (W.heap.size) 0 0 [] rfl zH ⟨h,0,none⟩ tt.length d tt rfl rfl (hq.below x6.bel).cells (by unfold maxLen;omega) (by omega) (by first|omega|(simp;omega)) ?_;intro zS zG w9 zB zA zC zJ;simp only[Nat.zero_add,List.nil_append] at zB;have z9:=zA.size;(try simp at z9 zC);have F6:=zK.kept zA (.inr (by simp[Value.ownBlock];omega));have yA:=zB;have zZ:k6≠zS:=(by omega);have x9:=x6.grown zA (by omega);have y0:=x9.r0;have y1:=x9.r1;have yf:=x9.f))
 all_goals
  have HF:Hid _:=And.intro F6 (And.intro yA (And.intro zZ x9));clear x9;clear F6 yA zZ oA zN zM yD yE zP yB hr hq HP;go_wp2;refine bodyPost_ret (v:=.agg #[.slice (some ⟨k6,0,none⟩) ss.length zO,.slice (some ⟨zS,0,none⟩) tt.length zG]) (by simp[results,results55,go_sem,y0,y1]) rfl ⟨_,_,_,_,rfl,?_,?_,HF.o.2.2.1,?_⟩
  ·exact(ownsRow_setCell_below (ownsRow_setCell_below HF.o.1 (a:=⟨w.heap.size+1,0,none⟩) (by simp) _) (a:=⟨w.heap.size+1,1,none⟩) (by simp) _).mono (by omega)
  ·exact(ownsRow_setCell_below (ownsRow_setCell_below HF.o.2.1 (a:=⟨w.heap.size+1,0,none⟩) (by simp) _) (a:=⟨w.heap.size+1,1,none⟩) (by simp) _).mono (by omega)
  ·exact(HF.o.2.2.2.bel.setCell (p:=⟨w.heap.size+1,0,none⟩) (by simp) _).setCell (p:=⟨w.heap.size+1,1,none⟩) (by simp) _
end Go.Proofs.YtpekbmegopfhfaaGreatDoor
