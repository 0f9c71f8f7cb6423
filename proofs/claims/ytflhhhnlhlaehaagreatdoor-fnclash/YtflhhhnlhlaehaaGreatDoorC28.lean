import Derived.Test.YtflhhhnlhlaehaaGreatDoorC27
set_option maxRecDepth 100000
set_option maxHeartbeats 16000000
namespace Go.Proofs.YtflhhhnlhlaehaaGreatDoor
open Go.ChangeShapes Go.WideShapes Go.ChangeAt Go.RowKit _root_.Go.Proofs.Tryz
def Kc (a b:ByteArray):Bool:=Op.bytesLess a.toList b.toList
def posS:List ByteArray->ByteArray->Nat
 |[],_=>0
 |y::l,x=>if Kc y x=true then posS l x+1 else 0
theorem Rx (l:List ByteArray) (x:ByteArray):posS l x<=l.length:=by
 induction l with
 |nil=>simp[posS]
 |cons y l ih=>unfold posS;split<;>simp;omega
theorem Jw {l:List ByteArray} {x:ByteArray} {j:Nat} (h:∀i y,i<j->l[i]?=some y->Kc y x=true) (hj:∀y,l[j]?=some y->Kc y x=false) (hl:j<=l.length):posS l x=j:=by
 induction l generalizing j with
 |nil=>simp at hl;simp[posS,hl]
 |cons y l ih=>
  unfold posS;cases j with
  |zero=>rw[if_neg (by rw[hj y rfl];decide)]
  |succ j=>
   rw[if_pos (h 0 y (by omega) rfl),ih (j:=j) (fun i z hi hz=>h (i+1) z (by omega) (by simpa using hz)) (fun z hz=>hj z (by simpa using hz)) (by simpa using hl)]
def EF (l:List ByteArray) (x:ByteArray):List ByteArray:=if l[posS l x]?=some x then l else l.take (posS l x)++[x]++l.drop (posS l x)
def BM (ss:List ByteArray):List ByteArray:=ss.foldl EF []
theorem Ms (l:List ByteArray) (x:ByteArray):(EF l x).length<=l.length+1:=by
 unfold EF;split
 ·omega
 ·have:=Rx l x
  simp;omega
theorem Qd {l:List ByteArray} {x y:ByteArray} (h:y∈EF l x):y∈l∨y=x:=by
 unfold EF at h;split at h
 ·exact .inl h
 ·simp only[List.mem_append,List.mem_singleton] at h
  rcases h with(h|h)|h
  ·exact .inl (List.mem_of_mem_take h)
  ·exact .inr h
  ·exact .inl (List.mem_of_mem_drop h)
theorem MI (ss:List ByteArray):∀zA:List ByteArray,(ss.foldl EF zA).length<=zA.length+ss.length/\∀y∈ss.foldl EF zA,y∈zA∨y∈ss:=by
 induction ss with
 |nil=>intro zA;exact⟨by simp,fun y hy=> .inl hy⟩
 |cons x ss ih=>
  intro zA;obtain⟨h1,h2⟩:=ih (EF zA x);have:=Ms zA x;refine⟨by simp only[List.foldl_cons,List.length_cons];omega,fun y hy=> ?_⟩;rcases h2 y hy with h|h
  ·rcases Qd h with h|h
   ·exact .inl h
   ·exact .inr (by simp[h])
  ·exact .inr (by simp[h])
theorem GP (ss:List ByteArray):(BM ss).length<=ss.length:=by simpa [BM] using (MI ss []).1
theorem OU {ss:List ByteArray} {y:ByteArray} (h:y∈BM ss):y∈ss:=by
 rcases(MI ss []).2 y h with h|h
 ·cases h
 ·exact h
theorem Nw {ss:List ByteArray} {k:Nat} {x:ByteArray} (h:ss[k]?=some x):BM (ss.take (k+1))=EF (BM (ss.take k)) x:=by
 obtain⟨hk,rfl⟩:=Ut h;unfold BM;rw[Uv hk,List.foldl_append];rfl
theorem Nx (a:Option Addr) (cap:Nat) (ss:List ByteArray) (w:World) (hr:Ad w w.heap.size a ss) (hl:ss.length<=100000):
 Calls prog 54 #[.slice a ss.length cap] w fun e w'=>∃g c,e=.returned (.slice (some ⟨g,0,none⟩) (BM ss).length c)/\
  w'.ownsRow w.heap.size 9 1 (.slice (some ⟨g,0,none⟩) (BM ss).length c) (BM ss).length ((BM ss).map Value.string)/\Uq w w':=by
 obtain⟨i0,hi,zU,zV,zW⟩:=info_parts Cv;have xG:Hid _:=hr;clear hr;have xC:Below w.heap.size w (w.alloc (.cells #[] 9)):=Ur;have oA:(w.alloc (.cells #[] 9)).ownsRow w.heap.size 9 1 (.slice (some ⟨w.heap.size,0,none⟩) 0 0) 0 (([]:List ByteArray).map Value.string):=World.ownsRow_lit w #[] 0 (Us) (by unfold maxLen;omega) rfl;have xA:Hid _:=And.intro xC oA;clear xC oA;go_enter func54,ntmps54;go_wp2
 go_loopw [3,4] (fun v i wr=>∃(k g c:Nat),k<=ss.length/\i=.int .i64 k/\v=.slice (some ⟨g,0,none⟩) (BM (ss.take k)).length c/\Hid (wr.ownsRow w.heap.size 9 1 (.slice (some ⟨g,0,none⟩) (BM (ss.take k)).length c) (BM (ss.take k)).length ((BM (ss.take k)).map Value.string))/\Hid (Uq w wr)) (fun _ i _=>ss.length -(intOf i).toNat)
 case atStart=>exact⟨0,w.heap.size,0,Nat.zero_le _,rfl,rfl,xA.o.2,xA.o.1⟩
 case round=>
  obtain⟨k,g,c,hk,rfl,rfl,HO,HB⟩:=hrel;by_cases hlt:k<ss.length
  ·have HG:Hid (ss[k]?=some ss[k]):=Uu hlt
   obtain⟨ba,oa,ha,xO,xD⟩:=(Ad.below xG.o HB.o).at hlt;subst ha;have cx:=xD k _ HG.o;have HS:Hid _:=Nw HG.o;have xL:(BM (ss.take k)).length<=k:=by have:=GP (ss.take k);simp at this;omega
   have xR:=HB.o.size;have yC:ba<wr.heap.size:=by omega
   generalize ss[k]=x at *
   generalize hO:BM (ss.take k)=O at *
   have xE:=(HO.o.lt g rfl).2;have xQ:=(HO.o.lt g rfl).1;have yQ:Hid (∀j y,O[j]?=some y->wr.cell? ⟨g,j,none⟩=some (.string y)):=by
    intro j y hy;have:=Ad.own HO.o;rcases this with h|⟨b',off,e1,_,h3⟩
    ·subst h;simp at hy
    ·cases e1
     simpa using h3 j y hy
   clear xD;go_wp2
   go_loopw [5] (fun v wr'=>∃j:Nat,j<=O.length/\v=.int .i64 j/\(∃nq,wr'=wr.drewN nq)/\Hid (∀i y,i<j->O[i]?=some y->Kc y x=true)) (fun v _=>O.length -(intOf v).toNat)
   case atStart=>exact⟨0,Nat.zero_le _,rfl,⟨0,rfl⟩,fun i y h=>by omega⟩
   case round=>
    obtain⟨j,hj,rfl,⟨nq,rfl⟩,HJ⟩:=hrel;by_cases hjl:j<O.length
    ·have HY:Hid (O[j]?=some O[j]):=Uu hjl
     have cy:=yQ.o j _ HY.o;generalize O[j]=y at *
     have d1:decide ((j:Int)<(O.length:Int))=true:=by simp;omega
     cases hb:Kc y x with
     |true=>
      have xJ:Op.bytesLess y.toList x.toList=true:=hb;have xF:Hid (∀i z,i<j+1->O[i]?=some z->Kc z x=true):=by
       intro i z hi hz;rcases Nat.lt_or_ge i j with h|h
       ·exact HJ.o i z h hz
       ·obtain rfl:i=j:=by omega
        rw[HY.o] at hz;cases hz;exact hb
      clear hb;go_upto_region 6 with fail;go_quiet (fail);go_wp2;exact⟨⟨j+1,by omega,by go_num,⟨_,rfl⟩,xF⟩,by simp[intOf];omega⟩
     |false=>
      have xJ:Op.bytesLess y.toList x.toList=false:=hb;have yK:Hid (∀z,O[j]?=some z->Kc z x=false):=by
       intro z hz;rw[HY.o] at hz;cases hz;exact hb
      clear hb;go_upto_region 6 with fail;go_quiet (fail);by_cases hyx:y=x
      ·have HE:Hid (BM (ss.take (k+1))=O):=by
        show _=_;rw[HS.o];unfold EF;rw[Jw HJ.o yK.o hj,if_pos (by rw[HY.o,hyx])]
       subst hyx;go_upto_region 8 with fail;go_quiet (fail);go_wp2;refine⟨⟨k+1,g,c,by omega,by go_num,by rw[HE.o],?_,?_⟩,by simp[intOf];omega⟩
       ·rw[HE.o]
        exact HO.o.kept (Aj none (BN (Below.refl _ _) _)) (Classical.em _)
       ·exact BN HB.o _
      ·have yN:Hid (¬O[j]?=some x):=by
        show ¬_;rw[HY.o];intro e;cases e;exact hyx rfl
       have e1:(y.toList==x.toList)=false:=by
        rw[beq_eq_false_iff_ne];intro h;rw[ByteArray.toList_eq,ByteArray.toList_eq] at h;exact hyx (ByteArray.ext (Array.toList_inj.1 h))
       clear hyx;go_upto_region 8 with fail;go_quiet (fail);go_upto_region 9 with fail;have HP:Hid (posS O x=j):=Jw HJ.o yK.o hj;have HE:Hid (BM (ss.take (k+1))=O.take j++[x]++O.drop j):=by
        show _=_;rw[HS.o];unfold EF;rw[HP.o,if_neg yN.o]
       generalize hW:(((wr.drewN _).drewN _).drewN _)=W;have zC:Hid (Uq wr W):=by rw[←hW];exact BN (BN (BN (Below.refl _ _) _) _) _
       have zX:Hid (Uq w W):=HB.o.trans (zC.o.mono HB.o.size);have yP:Hid (W.ownsRow w.heap.size 9 1 (.slice (some ⟨g,0,none⟩) O.length c) O.length (O.map Value.string)):=HO.o.kept (Aj none zC.o) (Classical.em _);have xN:wr.heap.size<=W.heap.size:=zC.o.size;have yF:g<W.heap.size:=by omega
       have yT:ba<W.heap.size:=by omega
       have yA:W.cell? ⟨ba,oa+k,none⟩=some (.string x):=(zC.o.cell (p:=⟨ba,oa+k,none⟩) yC).trans cx;have zY:Hid (∀i y,O[i]?=some y->W.cell? ⟨g,i,none⟩=some (.string y)):=fun i y hy=>(zC.o.cell (p:=⟨g,i,none⟩) xE).trans (yQ.o i y hy);have zK:Hid (O.length<=c):=by
        rcases yP.o.2 with⟨hv,_⟩|⟨_,_,_,hv,_,_,zF,_⟩
        ·cases hv
        ·cases hv;exact zF
       have zF:O.length<=c:=zK.o;have xP:¬c=j:=by omega
       clear hW cx;go_wp2_with (first
        |(at_builtin;refine wpList_append_own_at _ rfl _ _ 25 rfl w.heap.size 9 i0 (.string ⟨#[]⟩) 1 16 underlying25 hi zU zV zW rfl (by decide) _ 0 [] rfl ?d0 ⟨g,0,none⟩ j c ((O.take j).map Value.string) rfl ?dl ?d1 ?d2 ?d3 ?d4 ?d5 ?_))
       case d0=>exact World.ownsRow_lit W #[] 0 (by omega) (by unfold maxLen;omega) rfl
       case dl=>first|(simp;done)|(simp;omega)
       case d1=>
        intro i u hu;rw[List.getElem?_map] at hu;cases hs:(O.take j)[i]? with
        |none=>rw[hs] at hu;cases hu
        |some y=>
         rw[hs] at hu;cases hu;have hy:O[i]?=some y:=by
          rw[List.getElem?_take] at hs;split at hs
          ·exact hs
          ·cases hs
         have:=zY.o i y hy;rw[Go.WideShapes.add_plain,Nat.zero_add];exact(((Below.refl W.heap.size W).alloc (Us) _).cell (p:=⟨g,i,none⟩) yF).trans this
       case d2=>intro u hu;obtain⟨s,_,rfl⟩:=List.mem_map.1 hu;rfl
       case d3=>unfold maxLen;omega
       case d4=>omega
       case d5=>simp;omega
       intro v' V zA zB zG yB;obtain⟨g',c',yX⟩:∃g' c',v'=.slice (some ⟨g',0,none⟩) j c':=by
        rcases Joins.ownsRow_forms zA with⟨e1,_⟩|hf
        ·exact(zG e1).elim
        ·exact hf
       subst yX;try simp only[Nat.zero_add,List.nil_append] at zA
       have zE:Below W.heap.size W V:=((Below.refl W.heap.size W).alloc (Us) _).grown zB (by simp) (fun i hi=>by simp[Value.ownBlock] at hi;omega);have xM:W.heap.size<=V.heap.size:=zE.size;have xH:V.cell? ⟨ba,oa+k,none⟩=some (.string x):=(zE.cell (p:=⟨ba,oa+k,none⟩) yT).trans yA
       have xB:Hid (∀i y,O[i]?=some y->V.cell? ⟨g,i,none⟩=some (.string y)):=fun i y hy=>(zE.cell (p:=⟨g,i,none⟩) yF).trans (zY.o i y hy);have yR:Hid _:=zE;have yH:V.ownsRow w.heap.size 9 1 (.slice (some ⟨g',0,none⟩) j c') j ((O.take j).map Value.string):=by
        first|exact zA|(rw[List.map_take];exact zA)|(rw[List.take_length];exact zA)
       have yO:Hid (V.ownsRow w.heap.size 9 1 (.slice (some ⟨g',0,none⟩) j c') j ((O.take j).map Value.string)):=yH;clear yH;have yE:=zA.lt g' rfl;have yL:Hid _:=yB;clear zA zB zG zE yA yB;try simp only[Nat.zero_add]
       go_upto_region 10 with fail;have zJ:Below V.heap.size V (V.alloc (.cells #[.string x] 9)):=Ur;have yJ:(V.alloc (.cells #[.string x] 9)).drew.ownsRow w.heap.size 9 1 (.slice (some ⟨g',0,none⟩) j c') j ((O.take j).map Value.string):=yO.o.kept (Aj none zJ.drew) (Classical.em _)
       have yI:∀A,(some ⟨V.heap.size,0,none⟩:Option Addr)=some A->∀i s,[x][i]?=some s->(V.alloc (.cells #[.string x] 9)).drew.cell? (A.add i)=some (.string s):=by
        intro A e i s hs;injection e with e;subst e;cases i with
        |zero=>simp at hs;subst hs;simp[Addr.add]
        |succ i=>simp at hs
       have yS:(O.drop j).length=O.length -j:=by simp
       have xI:(O.take j).length=j:=by simp<;>omega
       have yY:w.heap.size<=V.heap.size:=by omega
       have zH:w.heap.size<=(V.alloc (.cells #[.string x] 9)).drew.heap.size:=by simp;omega
       have zP:w.heap.size<=g':=yE.1;have xK:g<g':=by
        rcases yL.o with h|h<;>simp[Value.ownBlock] at h<;>omega
       have yU:g'<V.heap.size:=yE.2;have zZ:∀w5:World,(V.alloc (.cells #[.string x] 9)).drew.grownBy w5 (some g')->∀A,(some ⟨g,j,none⟩:Option Addr)=some A->∀i s,(O.drop j)[i]?=some s->w5.cell? (A.add i)=some (.string s):=by
        intro w5 zI A e i s hs;injection e with e;subst e;rw[List.getElem?_drop] at hs;have hc:=xB.o _ _ hs;rw[Go.WideShapes.add_plain];refine(zI.cell_far ⟨g,j+i,none⟩ (by simp;omega) (fun e=>by have:=Option.some.inj e;simp at this;omega)).trans ?_;exact(zJ.drew.cell (p:=⟨g,j+i,none⟩) (by simp;omega)).trans hc
       go_region_law (first
        |(refine BK (V.alloc (.cells #[.string x] 9)).drew rfl (.tmp 51) (.tmp 56) 25 rfl w.heap.size 9 i0 (.string ⟨#[]⟩) 16 underlying25 hi zU zV zW rfl g' j c' (O.take j) rfl yJ (some ⟨V.heap.size,0,none⟩) 1 1 [x] rfl rfl (fun e=>by cases e) yI (by unfold maxLen;omega) (by omega) (by simp;omega) ?_;intro k5 zL w5 zR zI zN zQ;have z5:w.heap.size<=w5.heap.size:=Uz zH zI.size;have zS:=zQ)
        |(have zT:=zS;refine BK w5 rfl (.tmp 57) (.tmp 60) 25 rfl w.heap.size 9 i0 (.string ⟨#[]⟩) 16 underlying25 hi zU zV zW rfl k5 (j+1) zL (O.take j++[x]) rfl zR (some ⟨g,j,none⟩) (O.length -j) (c -j) (O.drop j) rfl yS (fun e=>by cases e) (zZ w5 zI) (by unfold maxLen;omega) (by omega) z5 ?_;intro k6 zD w6 yG yD zO yW))
       all_goals
        have yV:w.heap.size<=k5:=(zR.lt k5 rfl).1;have b5:Below w.heap.size V w5:=(zJ.drew.mono yY).grown zI zH (fun i e=>by cases e;exact zP);have b6:Below w.heap.size V w6:=b5.grown yD z5 (fun i e=>by cases e;exact yV);have HF:Hid (Uq w w6):=(zX.o.trans (yR.o.mono (by have:=zX.o.size;omega))).trans (b6.mono (Us));have zM:(O.take j++[x]++O.drop j).length=j+1+(O.length -j):=by simp<;>omega
        have HN:Hid (w6.ownsRow w.heap.size 9 1 (.slice (some ⟨k6,0,none⟩) (O.take j++[x]++O.drop j).length zD) (O.take j++[x]++O.drop j).length ((O.take j++[x]++O.drop j).map Value.string)):=by rw[zM];exact yG
        have yM:Hid _:=zM;clear yG yD zO zR zI zN zM yJ yI zZ b5 b6 zJ;go_wp2;refine⟨⟨k+1,k6,zD,by omega,by go_num,by rw[HE.o,yM.o],?_,HF.o⟩,by simp[intOf];omega⟩;rw[HE.o];exact HN.o
    ·obtain rfl:j=O.length:=by omega
     have d1:decide ((O.length:Int)<(O.length:Int))=false:=by simp
     have yK:Hid (∀z,O[O.length]?=some z->Kc z x=false):=by
      intro z hz;simp at hz
     have yN:Hid (¬O[O.length]?=some x):=by
      show ¬_;simp
     go_upto_region 6 with fail;go_quiet (fail);go_upto_region 8 with fail;go_quiet (fail);go_upto_region 9 with fail;have HP:Hid (posS O x=O.length):=Jw HJ.o yK.o hj;have HE:Hid (BM (ss.take (k+1))=O.take O.length++[x]++O.drop O.length):=by
      show _=_;rw[HS.o];unfold EF;rw[HP.o,if_neg yN.o]
     generalize hW:(((wr.drewN _).drewN _).drewN _)=W;have zC:Hid (Uq wr W):=by rw[←hW];exact BN (BN (BN (Below.refl _ _) _) _) _
     have zX:Hid (Uq w W):=HB.o.trans (zC.o.mono HB.o.size);have yP:Hid (W.ownsRow w.heap.size 9 1 (.slice (some ⟨g,0,none⟩) O.length c) O.length (O.map Value.string)):=HO.o.kept (Aj none zC.o) (Classical.em _);have xN:wr.heap.size<=W.heap.size:=zC.o.size;have yF:g<W.heap.size:=by omega
     have yT:ba<W.heap.size:=by omega
     have yA:W.cell? ⟨ba,oa+k,none⟩=some (.string x):=(zC.o.cell (p:=⟨ba,oa+k,none⟩) yC).trans cx;have zY:Hid (∀i y,O[i]?=some y->W.cell? ⟨g,i,none⟩=some (.string y)):=fun i y hy=>(zC.o.cell (p:=⟨g,i,none⟩) xE).trans (yQ.o i y hy);have zK:Hid (O.length<=c):=by
      rcases yP.o.2 with⟨hv,_⟩|⟨_,_,_,hv,_,_,zF,_⟩
      ·cases hv
      ·cases hv;exact zF
     have zF:O.length<=c:=zK.o;clear hW cx;go_wp2_with (first
      |(at_builtin;refine wpList_append_own_at _ rfl _ _ 25 rfl w.heap.size 9 i0 (.string ⟨#[]⟩) 1 16 underlying25 hi zU zV zW rfl (by decide) _ 0 [] rfl ?d0 ⟨g,0,none⟩ O.length c ((O.take O.length).map Value.string) rfl ?dl ?d1 ?d2 ?d3 ?d4 ?d5 ?_))
     case d0=>exact World.ownsRow_lit W #[] 0 (by omega) (by unfold maxLen;omega) rfl
     case dl=>first|(simp;done)|(simp;omega)
     case d1=>
      intro i u hu;rw[List.getElem?_map] at hu;cases hs:(O.take O.length)[i]? with
      |none=>rw[hs] at hu;cases hu
      |some y=>
       rw[hs] at hu;cases hu;have hy:O[i]?=some y:=by
        rw[List.getElem?_take] at hs;split at hs
        ·exact hs
        ·cases hs
       have:=zY.o i y hy;rw[Go.WideShapes.add_plain,Nat.zero_add];exact(((Below.refl W.heap.size W).alloc (Us) _).cell (p:=⟨g,i,none⟩) yF).trans this
     case d2=>intro u hu;obtain⟨s,_,rfl⟩:=List.mem_map.1 hu;rfl
     case d3=>unfold maxLen;omega
     case d4=>omega
     case d5=>simp;omega
     intro v' V zA zB zG yB;obtain⟨g',c',yX⟩:∃g' c',v'=.slice (some ⟨g',0,none⟩) O.length c':=by
      rcases Joins.ownsRow_forms zA with⟨e1,_⟩|hf
      ·exact(zG e1).elim
      ·exact hf
     subst yX;try simp only[Nat.zero_add,List.nil_append] at zA
     have zE:Below W.heap.size W V:=((Below.refl W.heap.size W).alloc (Us) _).grown zB (by simp) (fun i hi=>by simp[Value.ownBlock] at hi;omega);have xM:W.heap.size<=V.heap.size:=zE.size;have xH:V.cell? ⟨ba,oa+k,none⟩=some (.string x):=(zE.cell (p:=⟨ba,oa+k,none⟩) yT).trans yA
     have xB:Hid (∀i y,O[i]?=some y->V.cell? ⟨g,i,none⟩=some (.string y)):=fun i y hy=>(zE.cell (p:=⟨g,i,none⟩) yF).trans (zY.o i y hy);have yR:Hid _:=zE;have yH:V.ownsRow w.heap.size 9 1 (.slice (some ⟨g',0,none⟩) O.length c') O.length ((O.take O.length).map Value.string):=by
      first|exact zA|(rw[List.map_take];exact zA)|(rw[List.take_length];exact zA)
     have yO:Hid (V.ownsRow w.heap.size 9 1 (.slice (some ⟨g',0,none⟩) O.length c') O.length ((O.take O.length).map Value.string)):=yH;clear yH;have yE:=zA.lt g' rfl;have yL:Hid _:=yB;clear zA zB zG zE yA yB;try simp only[Nat.zero_add]
     go_upto_region 10 with fail;have zJ:Below V.heap.size V (V.alloc (.cells #[.string x] 9)):=Ur;have yJ:(V.alloc (.cells #[.string x] 9)).drew.ownsRow w.heap.size 9 1 (.slice (some ⟨g',0,none⟩) O.length c') O.length ((O.take O.length).map Value.string):=yO.o.kept (Aj none zJ.drew) (Classical.em _)
     have yI:∀A,(some ⟨V.heap.size,0,none⟩:Option Addr)=some A->∀i s,[x][i]?=some s->(V.alloc (.cells #[.string x] 9)).drew.cell? (A.add i)=some (.string s):=by
      intro A e i s hs;injection e with e;subst e;cases i with
      |zero=>simp at hs;subst hs;simp[Addr.add]
      |succ i=>simp at hs
     have yS:(O.drop O.length).length=0:=by simp
     have yZ:(if c=O.length then some ⟨g,0,none⟩ else some ⟨g,O.length,none⟩:Option Addr)=none->(0:Nat)=0/\c -O.length=0:=by
      intro e;split at e<;>cases e
     have xI:(O.take O.length).length=O.length:=by simp<;>omega
     have yY:w.heap.size<=V.heap.size:=by omega
     have zH:w.heap.size<=(V.alloc (.cells #[.string x] 9)).drew.heap.size:=by simp;omega
     have zP:w.heap.size<=g':=yE.1;have xK:g<g':=by
      rcases yL.o with h|h<;>simp[Value.ownBlock] at h<;>omega
     have yU:g'<V.heap.size:=yE.2;have zZ:∀w5:World,∀A,(if c=O.length then some ⟨g,0,none⟩ else some ⟨g,O.length,none⟩:Option Addr)=some A->∀i s,(O.drop O.length)[i]?=some s->w5.cell? (A.add i)=some (.string s):=by
      intro w5 A _ i s hs;simp at hs
     go_region_law (first
      |(refine BK (V.alloc (.cells #[.string x] 9)).drew rfl (.tmp 51) (.tmp 56) 25 rfl w.heap.size 9 i0 (.string ⟨#[]⟩) 16 underlying25 hi zU zV zW rfl g' O.length c' (O.take O.length) rfl yJ (some ⟨V.heap.size,0,none⟩) 1 1 [x] rfl rfl (fun e=>by cases e) yI (by unfold maxLen;omega) (by omega) (by simp;omega) ?_;intro k5 zL w5 zR zI zN zQ;have z5:w.heap.size<=w5.heap.size:=Uz zH zI.size;have zS:=zQ)
      |(have zT:=zS;refine BK w5 rfl (.tmp 57) (.tmp 60) 25 rfl w.heap.size 9 i0 (.string ⟨#[]⟩) 16 underlying25 hi zU zV zW rfl k5 (O.length+1) zL (O.take O.length++[x]) rfl zR (if c=O.length then some ⟨g,0,none⟩ else some ⟨g,O.length,none⟩) 0 (c -O.length) (O.drop O.length) rfl yS yZ (zZ w5) (by unfold maxLen;omega) (by omega) z5 ?_;intro k6 zD w6 yG yD zO yW))
     all_goals
      have yV:w.heap.size<=k5:=(zR.lt k5 rfl).1;have b5:Below w.heap.size V w5:=(zJ.drew.mono yY).grown zI zH (fun i e=>by cases e;exact zP);have b6:Below w.heap.size V w6:=b5.grown yD z5 (fun i e=>by cases e;exact yV);have HF:Hid (Uq w w6):=(zX.o.trans (yR.o.mono (by have:=zX.o.size;omega))).trans (b6.mono (Us))
      have zM:(O.take O.length++[x]++O.drop O.length).length=O.length+1+0:=by simp<;>omega
      have HN:Hid (w6.ownsRow w.heap.size 9 1 (.slice (some ⟨k6,0,none⟩) (O.take O.length++[x]++O.drop O.length).length zD) (O.take O.length++[x]++O.drop O.length).length ((O.take O.length++[x]++O.drop O.length).map Value.string)):=by rw[zM];exact yG
      have yM:Hid _:=zM;clear yG yD zO zR zI zN zM yJ yI zZ b5 b6 zJ;go_wp2;refine⟨⟨k+1,k6,zD,by omega,by go_num,by rw[HE.o,yM.o],?_,HF.o⟩,by simp[intOf];omega⟩;rw[HE.o];exact HN.o
  ·have he:k=ss.length:=by omega
   subst he;rw[List.take_length] at HO ⊢;go_wp2;go_ret;exact⟨_,_,rfl,HO.o,HB.o⟩
theorem KE (b:Nat) (a:Option Addr) (n c:Nat) (p:Int) (w:World) (h:AR w b a n c p) (hp:0<=p) (zA:p<=900000):
 Calls prog 33 #[.pointer (some ⟨b,0,none⟩)] w fun e w'=>∃wd,e=.returned (.int .i64 wd)/\(1<=wd/\wd<=8)/\AR w' b a n c (p+1)/\w.grownBy w' (some b):=by
 go_enter func33,ntmps33;go_wp2_with fail;refine(Bi b a n c p 8 w h hp (by omega) (by omega) (by omega)).mono ?_;rintro e w1 ⟨r,rfl,r0,r1,h1,g1⟩;have H:Hid _:=And.intro h1 g1;clear h1 g1 h;by_cases c1:r<2
 ·go_wp2
  go_ret;exact⟨1,rfl,by omega,H.o⟩
 ·by_cases c2:r=2
  ·subst c2
   go_wp2;go_ret;exact⟨2,rfl,by omega,H.o⟩
  ·have c3:(r==2)=false:=by simpa using c2
   go_wp2;go_ret;exact⟨8,rfl,by omega,H.o⟩
theorem Qe (n:Int) (w:World):
 Calls prog 26 #[.int .i64 n] w fun e w'=>e=.returned (.bool (decide (1<=n/\n<=8)))/\w'=w:=by
 by_cases h1:1<=n
 ·by_cases h2:n<=8
  ·go_enter func26,ntmps26
   go_wp2;go_ret;exact⟨AH (by simp[h1,h2]),rfl⟩
  ·have zB:decide (n<=8)=false:=by simpa using h2
   go_enter func26,ntmps26;go_wp2;go_ret;exact⟨rfl,rfl⟩
 ·have zA:decide (1<=n)=false:=by simpa using h1
  go_enter func26,ntmps26;go_wp2;go_ret;exact⟨rfl,rfl⟩
structure CX (w w':World) (e:Ending) (b:Nat) (a:Option Addr) (n c:Nat) (p K:Int) (TX RF:Nat):Prop where
 ex:∃(t:ByteArray) (ra:Option Addr) (rc:Nat) (ss:List ByteArray),e=.returned (.agg #[.string t,.slice ra ss.length rc])/\t.size<=TX/\ss.length<=RF/\(∀s∈ss,s.size<=8)/\
  w'.ownsRow w.heap.size 9 1 (.slice ra ss.length rc) ss.length (ss.map Value.string)
 dr:KJ w w' b a n c p K
theorem LK (l:List UInt8) (k:Nat):(BE l k).size=k:=by
 unfold BE;rw[Dq,Ce]
theorem KF (b:Nat) (a:Option Addr) (n c:Nat) (p wd:Int) (w:World) (h:AR w b a n c p) (hp:0<=p) (yK:p<=800000) (h1:1<=wd) (h2:wd<=8):
 Calls prog 34 #[.pointer (some ⟨b,0,none⟩),.int .i64 wd] w fun e w'=>CX w w' e b a n c p 60 16 3:=by
 obtain⟨i0,hi,zZ,yA,yC⟩:=info_parts Cv;have zI:=h.lt;obtain⟨W,hW⟩:∃W,W=w.alloc (.cells #[.string ⟨#[]⟩,.slice none 0 0] 40):=⟨_,rfl⟩;have zJ:Below w.heap.size w W:=by rw[hW];exact Ur
 have R0:Aa W w.heap.size [.string ⟨#[]⟩,.slice none 0 0]:=by rw[hW];exact Aa.new w _ _
 have s0:=h.below zJ;have HW:Hid _:=hW;have yO:decide (1<=wd/\wd<=8)=true:=by simp[h1,h2]
 clear hW h;go_enter func34,ntmps34;go_upto_region 1 with fail;rw[←HW.o];clear HW;go_wp2_with fail;refine(Ja b a n c p W s0 hp (by omega)).mono ?_;rintro e w1 ⟨t,rfl,ht,⟨⟨p1,s1,l1,u1⟩,g1⟩⟩;obtain⟨W2,zH⟩:∃W2,W2=w1.alloc (.cells #[.string t,.slice none 0 0] 40):=⟨_,rfl⟩;have zG:Below w1.heap.size w1 W2:=by rw[zH];exact Ur
 have yQ:w.heap.size<W.heap.size:=R0.lt;have yB:=g1.size;have B2:Aa W2 w1.heap.size [.string t,.slice none 0 0]:=by rw[zH];exact Aa.new w1 _ _
 have R2:=(R0.far g1 zI).below zG;have s2:=s1.below zG;have g2:w.grownBy W2 (some b):=((Aj (some b) zJ).trans g1).trans (Aj (some b) zG);obtain⟨B,hB⟩:∃B,B=w1.heap.size:=⟨_,rfl⟩;have yG:w.heap.size<B:=by omega
 rw[←hB] at B2;have zL:Hid _:=zH;have HB:Hid _:=hB;have HC:Hid _:=And.intro R2 (And.intro B2 (And.intro s2 g2));clear zH hB zG R0 s0 s1 g1 R2 B2 s2 g2 zJ;go_upto_region 2 with fail;rw[←zL.o,←HB.o];clear zL HB;have zC:Below W2.heap.size W2 (W2.alloc (.cells #[] 9)):=Ur;have yE:B<W2.heap.size:=HC.o.2.1.lt
 have HD:Hid _:=And.intro (HC.o.1.below zC) (And.intro (HC.o.2.1.below zC) (And.intro (HC.o.2.2.1.below zC) (HC.o.2.2.2.trans (Aj (some b) zC))));have oA:(W2.alloc (.cells #[] 9)).ownsRow (B+1) 9 1 (.slice (some ⟨W2.heap.size,0,none⟩) 0 0) 0 (([]:List ByteArray).map Value.string):=World.ownsRow_lit W2 #[] 0 (by omega) (by unfold maxLen;omega) rfl
 have zK:Hid ((W2.alloc (.cells #[] 9)).ownsRow (B+1) 9 1 (.slice (some ⟨W2.heap.size,0,none⟩) 0 0) 0 (([]:List ByteArray).map Value.string)):=oA;clear oA zC HC;go_wp2_with (first
  |(go_at_call 26;refine(Qe wd _).mono ?_;rintro e w' ⟨rfl,zQ⟩;rw[zQ];clear zQ w'))
 refine(Bi b a n c p1 4 _ HD.o.2.2.1 (by omega) (by omega) (by omega) (by omega)).mono ?_;rintro e w3 ⟨r,rfl,r0,r1,s3,g3⟩;have yD:=g3.size;simp at yD;have E3:Hid (Aa w3 w.heap.size [.string ⟨#[]⟩,.slice none 0 0]/\Aa w3 B [.string t,.slice none 0 0]/\AR w3 b a n c (p1+1)/\w.grownBy w3 (some b)):=⟨HD.o.1.far g3 zI,HD.o.2.1.far g3 (by omega),s3,HD.o.2.2.2.trans g3⟩
 have O3:Hid (w3.ownsRow (B+1) 9 1 (.slice (some ⟨W2.heap.size,0,none⟩) 0 0) 0 (([]:List ByteArray).map Value.string)):=World.ownsRow.kept zK.o g3 (.inr (by simp[Value.ownBlock];omega));have yF:B<w3.heap.size:=by omega
 obtain⟨m0,rfl⟩:∃m0:Nat,r=m0:=⟨r.toNat,by omega⟩;clear HD zK s3 g3;go_wp2
 go_loopw [6,7] (fun v i wr=>∃(m g' c':Nat) (L:List ByteArray) (p':Int),i=.int .i64 m/\v=.slice (some ⟨g',0,none⟩) L.length c'/\L.length+m<=3/\p<=p'/\p'<=p+11+10 *(3 -(m:Int))/\Hid (∀s∈L,s.size<=8)/\Hid (wr.ownsRow (B+1) 9 1 (.slice (some ⟨g',0,none⟩) L.length c') L.length (L.map Value.string))/\Hid (Aa wr w.heap.size [.string ⟨#[]⟩,.slice none 0 0]/\Aa wr B [.string t,.slice none 0 0]/\AR wr b a n c p'/\w.grownBy wr (some b))) (fun _ i _=>(intOf i).toNat)
 case atStart=>exact⟨m0,W2.heap.size,0,[],p1+1,rfl,rfl,by simp;omega,by omega,by omega,(fun s hs=>by cases hs),O3.o,E3.o⟩
 case round=>
  obtain⟨m,g',c',L,p',rfl,rfl,yH,yL,yM,HS,HO,HE⟩:=hrel;have zU:B<wr.heap.size:=HE.o.2.1.lt;by_cases hm:0<m
  ·have d1:decide ((0:Int)<(m:Int))=true:=by simp;omega
   go_wp2_with fail;refine(Ja b a n c p' wr HE.o.2.2.1 (by omega) (by omega)).mono ?_;rintro e w4 ⟨s4,rfl,yN,⟨⟨p4,s5,l5,u5⟩,g4⟩⟩;go_wp2_with fail;refine(FM s4 wd w4 (by unfold maxLen;omega) h1 h2).mono ?_;rintro e w5 ⟨rfl,zN⟩;have zY:(BE s4.data.toList wd.toNat).size<=8:=by rw[LK];omega
   generalize BE s4.data.toList wd.toNat=x at *
   have g5:wr.grownBy w5 (some b):=g4.trans (Aj (some b) zN);have yI:=(HO.o.lt g' rfl).1;have O5:w5.ownsRow (B+1) 9 1 (.slice (some ⟨g',0,none⟩) L.length c') L.length (L.map Value.string):=HO.o.kept g5 (.inr (by simp[Value.ownBlock];omega));have yP:=g5.size;go_wp2_with (first
    |(at_builtin;refine wpList_append_own_at _ rfl _ _ 25 rfl (B+1) 9 i0 (.string ⟨#[]⟩) 1 16 underlying25 hi zZ yA yC rfl (by decide) _ L.length (L.map Value.string) rfl ?d0 ⟨w5.heap.size,0,none⟩ 1 1 [.string x] rfl rfl ?d1 ?d2 ?d3 ?d4 ?d5 ?_))
   case d0=>exact O5.alloc _
   case d1=>
    intro j u hu;cases j with
    |zero=>simp at hu;subst hu;simp[Addr.add]
    |succ j=>simp at hu
   case d2=>intro u hu;simp at hu;subst hu;rfl
   case d3=>unfold maxLen;omega
   case d4=>omega
   case d5=>simp;omega
   intro v' w6 zB zA zE zV;obtain⟨g6,c6,zX⟩:∃g6 c6,v'=.slice (some ⟨g6,0,none⟩) (L.length+1) c6:=by
    rcases Joins.ownsRow_forms zB with⟨e1,_⟩|hf
    ·exact(zE e1).elim
    ·exact hf
   subst zX;have b6:Below (B+1) w5 w6:=((Below.refl _ _).alloc (by omega) _).grown zA (by simp;omega) (fun i hi=>by simp[Value.ownBlock] at hi;omega);have zF:w5.grownBy w6 (some g'):=⟨b6.os,b6.tape,b6.output,b6.size,fun i hi zO=>by
    have h1:=zA.block i (by simp;omega) (by simpa [Value.ownBlock] using zO);rw[h1];exact(Aj none ((Below.refl w5.heap.size w5).alloc (Us) _)).block i hi (by simp)⟩
   have zW:b<g':=by omega
   have E6:Hid (Aa w6 w.heap.size [.string ⟨#[]⟩,.slice none 0 0]/\Aa w6 B [.string t,.slice none 0 0]/\AR w6 b a n c p4/\w.grownBy w6 (some b)):=⟨(HE.o.1.far g5 zI).far' zF (by omega),(HE.o.2.1.far g5 (by omega)).far' zF (by omega),(s5.below zN).grown zF zW,(HE.o.2.2.2.trans g5).andThen zF (fun i e=>by cases e;exact .inl (by omega))⟩
   have O6:Hid (w6.ownsRow (B+1) 9 1 (.slice (some ⟨g6,0,none⟩) (L++[x]).length c6) (L++[x]).length ((L++[x]).map Value.string)):=by
    have:(L++[x]).length=L.length+1:=by simp
    rw[this,List.map_append];exact zB
   have zT:Hid (∀s∈L++[x],s.size<=8):=by
    intro s hs;rcases List.mem_append.1 hs with hs|hs
    ·exact HS.o s hs
    ·simp at hs;subst hs;exact zY
   clear zB zA zE zV b6 zF O5 HO HE HS;go_wp2;refine⟨⟨m -1,g6,c6,L++[x],p4,?_,by simp,by simp;omega,by omega,?_,zT,O6,E6⟩,?_⟩
   ·congr 1
    omega
   ·have:((m -1:Nat):Int)=(m:Int) -1:=by omega
    omega
   ·simp[intOf]
    omega
  ·obtain rfl:m=0:=by omega
   go_wp2_with fail;refine(Nx (some ⟨g',0,none⟩) c' L wr (Ad.own HO.o) (by omega)).mono ?_;rintro e w4 ⟨g4,c4,rfl,zP,zD⟩;have yJ:=GP L;have zS:Hid (∀s∈BM L,s.size<=8):=fun s hs=>HS.o s (OU hs);generalize BM L=L4 at *
   have R4:=HE.o.1.below zD;have B4:=HE.o.2.1.below zD;have s4:=HE.o.2.2.1.below zD;have zM:=HE.o.2.2.2.trans (Aj (some b) zD);obtain⟨x0,f0⟩:=B4 0 _ rfl;obtain⟨x1,f1⟩:=B4 1 _ rfl;obtain⟨y0,q0⟩:=R4 0 _ rfl;obtain⟨y1,q1⟩:=R4 1 _ rfl;have zO:¬B=w.heap.size:=by omega
   have HF:Hid _:=And.intro s4 (And.intro zM zP);clear R4 B4 s4 zM zP zD HO HE HS;go_wp2;refine bodyPost_ret (v:=.agg #[.string t,.slice (some ⟨g4,0,none⟩) L4.length c4]) (by simp[results,results34,go_sem, *]) rfl ?_;have zR:w.heap.size<wr.heap.size:=by omega
   refine⟨⟨t,_,_,L4,rfl,ht,by omega,zS.o,?_⟩,⟨p',?_,by omega,by omega⟩,?_⟩
   ·exact(ownsRow_setCell_below (ownsRow_setCell_below (ownsRow_setCell_below HF.o.2.2 zU _) zR _) zR _).mono (by omega)
   ·exact((HF.o.1.grown (Ae _ B 1 _) (by omega)).grown (Ae _ w.heap.size 0 _) (by omega)).grown (Ae _ w.heap.size 1 _) (by omega)
   ·exact((HF.o.2.1.andThen (Ae _ B 1 _) (fun i e=>by cases e;exact .inl (by omega))).andThen (Ae _ w.heap.size 0 _) (fun i e=>by cases e;exact .inl (by omega))).andThen (Ae _ w.heap.size 1 _) (fun i e=>by cases e;exact .inl (by omega))
end Go.Proofs.YtflhhhnlhlaehaaGreatDoor
