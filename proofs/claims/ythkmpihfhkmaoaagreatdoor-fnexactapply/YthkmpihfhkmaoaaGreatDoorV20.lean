import Derived.Test.YthkmpihfhkmaoaaGreatDoorV19
import Derived.Test.YthkmpihfhkmaoaaGreatDoorV04
import Derived.Deep.RegionWith
import Derived.Deep.DrawnRows
import Derived.Test.YthkmpihfhkmaoaaGreatDoorV12
namespace Go.Proofs.YthkmpihfhkmaoaaGreatDoor
open Go.ChangeShapes Go.WideShapes Go.ChangeAt Go.RowKit
def okE (k:Int) (sum name:ByteArray) (n:Int) (t:ByteArray) (ss:List ByteArray) (wd:Int):Bool:=decide (1<=k/\k<=7)&&entOk k.toNat sum name n t ss wd
theorem sOkE (k:Int) (sum name:ByteArray) (n:Int) (t:ByteArray) (ad:Option Addr) (cap:Nat) (ss:List ByteArray) (wd:Int) (w:World)
 (hrow:SRow w w.heap.size ad ss) (hl:ss.length<=1048576) (ht:t.size<=maxLen) (hn:name.size<=maxLen):
 Calls Tryz.prog 35 #[.agg (entV k sum name n t ad ss.length cap),.int .i64 wd] w fun e w'=>e=.returned (.bool (okE k sum name n t ss wd))/\Below w.heap.size w w':=by
 unfold okE;by_cases hk:1<=k/\k<=7
 ·obtain⟨m,rfl⟩:∃m:Nat,k=m:=⟨k.toNat,by omega⟩
  rw[decide_eq_true hk,Bool.true_and,Int.toNat_natCast];by_cases hw:1<=wd/\wd<=8
  ·exact sOk_any m sum name n t ad cap ss wd w (by omega) (by omega) hw.1 hw.2 hrow hl ht hn
  ·exact sOk_width m sum name n t ad cap ss wd w hw
 ·rw[decide_eq_false hk,Bool.false_and]
  exact sOk_kind k sum name n t ad cap ss wd w hk
theorem iOkE (k:Int) (sum name:ByteArray) (n:Int) (t:ByteArray) (ad:Option Addr) (cap:Nat) (ss:List ByteArray) (wd:Int) (w:World) (hT:Tab w)
 (hrow:SRow w w.heap.size ad ss) (hl:ss.length<=1048576) (ht:t.size<=maxLen) (hn:name.size<=maxLen):
 Calls Tryz.prog 43 #[.agg (entV k sum name n t ad ss.length cap),.int .i64 wd] w fun e w'=>e=.returned (.bool (okE k sum name n t ss wd))/\Below w.heap.size w w':=by
 unfold okE;by_cases hk:1<=k/\k<=7
 ·obtain⟨m,rfl⟩:∃m:Nat,k=m:=⟨k.toNat,by omega⟩
  rw[decide_eq_true hk,Bool.true_and,Int.toNat_natCast];exact ivalid_any m sum name n t ad cap ss wd w hT (by omega) (by omega) hrow hl ht hn
 ·rw[decide_eq_false hk,Bool.false_and]
  exact ivalid_kind k sum name n t ad cap ss wd w hk
set_option maxHeartbeats 400000 in
theorem szEntry_yes (k:Int) (sum name:ByteArray) (n:Int) (t:ByteArray) (ad:Option Addr) (cap:Nat) (ss:List ByteArray) (w:World) (hrow:SRow w w.heap.size ad ss)
 (hfit:(sum.size:Int)+name.size+t.size+ss.length+bulk ss<=1048576):
 Calls Tryz.prog 7 #[.agg (entV k sum name n t ad ss.length cap),.int .i64 1048576] w fun e w'=>e=.returned (.int .i64 (1048576 -sum.size -name.size -t.size -ss.length -bulk ss))/\Below w.heap.size w w':=by
 have hb:Below w.heap.size w (w.alloc (.cells (entV k sum name n t ad ss.length cap) 31)):=(Below.refl _ _).alloc (Nat.le_refl _) _;go_enter Tryz.func7,Tryz.ntmps7;go_wp2_with fail;refine(szThing_yes t ad cap ss _ _ (hrow.below' hb) (by omega) (by omega)).mono ?_;rintro e w1 ⟨rfl,hb1⟩;go_wp2;go_ret;exact⟨rfl,hb.trans (hb1.mono (by simp))⟩
set_option maxHeartbeats 400000 in
theorem szEntry_no (k:Int) (sum name:ByteArray) (n:Int) (t:ByteArray) (ad:Option Addr) (cap:Nat) (ss:List ByteArray) (w:World) (hrow:SRow w w.heap.size ad ss)
 (hs:sum.size<=maxLen) (hn:name.size<=maxLen) (ht:t.size<=maxLen) (hl:ss.length<=maxLen) (hss:∀s∈ss,s.size<=maxLen)
 (hfit:1048576<(sum.size:Int)+name.size+t.size+ss.length+bulk ss):
 Calls Tryz.prog 7 #[.agg (entV k sum name n t ad ss.length cap),.int .i64 1048576] w fun e w'=>e=.returned (.int .i64 (-1))/\Below w.heap.size w w':=by
 have hb:Below w.heap.size w (w.alloc (.cells (entV k sum name n t ad ss.length cap) 31)):=(Below.refl _ _).alloc (Nat.le_refl _) _;have hs':=hs;have hn':=hn;unfold maxLen at hs' hn';by_cases h1:(1048576:Int)<sum.size
 ·go_enter Tryz.func7,Tryz.ntmps7
  go_wp2;go_ret;exact⟨rfl,hb⟩
 ·by_cases h2:(1048576:Int) -sum.size<name.size
  ·go_enter Tryz.func7,Tryz.ntmps7
   go_wp2;go_ret;exact⟨rfl,hb⟩
  ·go_enter Tryz.func7,Tryz.ntmps7
   go_wp2_with fail;refine(szThing_no t ad cap ss _ _ (hrow.below' hb) ht hl hss (by omega) (by omega) (by omega)).mono ?_;rintro e w1 ⟨rfl,hb1⟩;go_wp2;go_ret;exact⟨rfl,hb.trans (hb1.mono (by simp))⟩
set_option maxHeartbeats 1000000 in
theorem toEntry_any (k:Int) (sum name:ByteArray) (n:Int) (t:ByteArray) (ad:Option Addr) (cap:Nat) (ss:List ByteArray) (w:World) (hrow:SRow w w.heap.size ad ss) (hl:ss.length<=1048576):
 Calls Tryz.prog 10 #[.agg (entV k sum name n t ad ss.length cap)] w fun e w'=>∃g,e=.returned (.agg (entV k sum name n t (some ⟨g,0,none⟩) ss.length ss.length))/\w.heap.size<=g/\
  w'.ownsRow w.heap.size 9 1 (.slice (some ⟨g,0,none⟩) ss.length ss.length) ss.length (ss.map Value.string)/\Below w.heap.size w w':=by
 go_enter Tryz.func10,Tryz.ntmps10;go_wp2_with fail;refine(toThing_any t ad cap ss _ (hrow.below' ((((Below.refl _ _).alloc (Nat.le_refl _) _).alloc (by simp) _).alloc (by simp;omega) _)) hl).mono ?_;rintro e w1 ⟨g,rfl,hg,hown,hb⟩;obtain⟨hc,hf⟩:=bcell hb;have hz:=hb.size;simp at hz hg;go_wp2
 refine bodyPost_ret (v:=.agg (entV k sum name n t (some ⟨g,0,none⟩) ss.length ss.length)) (by simp[results,Tryz.results10,go_sem,hc]) rfl ⟨g,rfl,by omega,?_,?_⟩
 ·have hsm:∀b,b<=w.heap.size+2->b<(((w.alloc (.cells (entV k sum name n t ad ss.length cap) 31)).alloc (.cells #[.int .i64 0,.string ⟨#[]⟩,.string ⟨#[]⟩,.int .i64 0,.string ⟨#[]⟩,.slice none 0 0] 45)).alloc (.cells #[.int .i64 k,.string sum,.string name,.int .i64 n,.string ⟨#[]⟩,.slice none 0 0] 45)).heap.size:=by
   intro b hb';simp;omega
  refine World.ownsRow.mono ?_ (Nat.le_of_lt (hsm w.heap.size (by omega)))
  iterate 6 (refine ownsRow_setCell_below ?_ (hsm (w.heap.size+1) (by omega)) _)
  iterate 2 (refine ownsRow_setCell_below ?_ (hsm (w.heap.size+1+1) (by omega)) _)
  exact hown
 ·iterate 6 (refine Below.setCell ?_ (show w.heap.size<=w.heap.size+1 by omega) _)
  iterate 2 (refine Below.setCell ?_ (show w.heap.size<=w.heap.size+1+1 by omega) _)
  exact((((Below.refl _ _).alloc (Nat.le_refl _) _).alloc (by simp) _).alloc (by simp;omega) _).trans (hb.mono (by simp;omega))
set_option maxHeartbeats 1000000 in
theorem eqEntry_yes (k:Int) (sum name:ByteArray) (n:Int) (t:ByteArray) (a a':Option Addr) (cap cap':Nat) (ss:List ByteArray) (w:World) (hrow:SRow w w.heap.size a ss) (hrow':SRow w w.heap.size a' ss) (hl:ss.length<=1048576):
 Calls Tryz.prog 14 #[.agg (entV k sum name n t a ss.length cap),.agg (entV k sum name n t a' ss.length cap')] w fun e w'=>e=.returned (.bool true)/\Below w.heap.size w w':=by
 have hb:Below w.heap.size w ((w.alloc (.cells (entV k sum name n t a ss.length cap) 45)).alloc (.cells (entV k sum name n t a' ss.length cap') 45)):=((Below.refl _ _).alloc (Nat.le_refl _) _).alloc (by simp) _;go_enter Tryz.func14,Tryz.ntmps14;go_wp2_with fail;refine(eqThing_yes t a a' cap cap' ss _ (hrow.below' hb) (hrow'.below' hb) hl).mono ?_;rintro e w1 ⟨rfl,hb1⟩;go_wp2;go_ret
 exact⟨rfl,hb.trans (hb1.mono (by simp;omega))⟩
end Go.Proofs.YthkmpihfhkmaoaaGreatDoor
namespace Go.Proofs.YthkmpihfhkmaoaaGreatDoor
open Go.ChangeShapes Go.WideShapes Go.ChangeAt Go.RowKit
theorem rises_rel {A:Type} {R:A->A->Prop} (htr:∀a b c,R a b->R b c->R a c) {xs:List A} (h:∀(j:Nat) p q,xs[j]?=some p->xs[j+1]?=some q->R p q):xs.Pairwise R:=by
 have hd:∀(d i:Nat) u v,xs[i]?=some u->xs[i+d+1]?=some v->R u v:=by
  intro d;induction d with
  |zero=>intro i u v hu hv;exact h i u v hu hv
  |succ d ih=>
   intro i u v hu hv;have hlt:=(List.getElem?_eq_some_iff.1 hv).1;have hm:xs[i+d+1]?=some xs[i+d+1]:=List.getElem?_eq_getElem (by omega);exact htr _ _ _ (ih i u _ hu hm) (h _ _ _ hm (by rw[show i+d+1+1=i+(d+1)+1 by omega];exact hv))
 rw[List.pairwise_iff_getElem];intro i j hi hj hij;exact hd (j -i -1) i _ _ (List.getElem?_eq_getElem hi) (by rw[show i+(j -i -1)+1=j by omega];exact List.getElem?_eq_getElem hj)
section
variable {wd now given births:Int} {ks:List Kd} {ps:List Pd} {ls:List Ld}
theorem StateOk.things (h:StateOk wd now given births ks ps ls):∀k∈ks,ThingOk k.text k.refs wd:=fun k hk=>by
 obtain⟨i,hi⟩:=List.getElem?_of_mem hk;exact okThing_parts (h.th i k hi).ok
theorem StateOk.kso (h:StateOk wd now given births ks ps ls):KsOk wd ks:=by
 have sz:∀k∈ks,(k.sum.size:Int)=wd:=fun k hk=>by
  obtain⟨i,hi⟩:=List.getElem?_of_mem hk;rw[(h.th i k hi).sum];exact sumOf_size k wd h.nums.wd1
 have srt:(ks.map (·.sum)).Pairwise (fun a b=>less a b=true):=by
  refine rises (fun j p q hp hq=> ?_);rw[List.getElem?_map] at hp hq;obtain⟨u,hu,rfl⟩:=Option.map_eq_some_iff.1 hp;obtain⟨v,hv,rfl⟩:=Option.map_eq_some_iff.1 hq;exact(h.th (j+1) v hv).up j u rfl hu
 exact⟨rises_nodup srt,srt,sz,fun k hk=>⟨by have:=(h.things k hk).refs;omega,refs_rise (h.things k hk).all⟩,h.nth,h.nums.wd2⟩
theorem okE_parts {kd:Int} {s nm:ByteArray} {num:Int} {text:ByteArray} {refs:List ByteArray} (h:okE kd s nm num text refs wd=true):1<=kd/\kd<=7/\EntOk kd.toNat s nm num text refs wd:=by
 unfold okE at h;simp only[Bool.and_eq_true,decide_eq_true_eq] at h;exact⟨h.1.1,h.1.2,entOk_parts h.2⟩
theorem okE_refs {kd:Int} {s nm:ByteArray} {num:Int} {text:ByteArray} {refs:List ByteArray} (h:okE kd s nm num text refs wd=true):refs.length<=30:=by
 unfold okE at h;simp only[Bool.and_eq_true,decide_eq_true_eq] at h;have h2:=h.2;unfold entOk at h2;simp only[Bool.and_eq_true,decide_eq_true_eq] at h2;have h3:=h2.2.2.2.2;unfold thOk at h3;split at h3
 ·exact(okThing_parts h3).refs
 ·have h4:=(of_decide_eq_true h3).2
  omega
theorem AOk.of (h:StateOk wd now given births ks ps ls) {kd:Int} {s nm:ByteArray} {num:Int} {text:ByteArray} {refs:List ByteArray} (he:okE kd s nm num text refs wd=true) (ht:text.size<=maxLen):AOk wd now given births ks ps ls kd num text refs:=by
 obtain⟨k1,k7,e⟩:=okE_parts he;refine⟨h.kso,h.nums.wd1,h.np,h.nl,?_,?_,h.nums.now1,h.nums.now2,h.nums.given1,h.nums.given2,h.nums.births1,h.nums.births2,k1,k7,e.n0,e.n1,fun k hk=> ?_,ht,by have:=okE_refs he;omega⟩
 ·exact rises_rel (R:=fun(a b:Pd)=>less a.name b.name=true) (fun a b c h1 h2=>less_trans h1 h2) (fun j p q hp hq=>(h.pin (j+1) q hq).up j p rfl hp)
 ·exact rises_rel (R:=fun(a b:Ld)=>a.num<b.num) (fun a b c h1 h2=>by omega) (fun j p q hp hq=>(h.lease (j+1) q hq).up j p rfl hp)
 ·have:=(h.things k hk).text
  unfold maxLen;omega
theorem insK_perm (ks:List Kd) (x:Kd):(insK ks x).Perm (x::ks):=by
 unfold insK;have h1:(ks.filter (fun k=>less k.sum x.sum)++ks.filter (fun k=> !(less k.sum x.sum))).Perm ks:=List.filter_append_perm _ _;rw[List.append_assoc];exact(List.perm_middle (a:=x) (l₁:=ks.filter (fun k=>less k.sum x.sum)) (l₂:=ks.filter (fun k=> !(less k.sum x.sum)))).trans (h1.cons x)
theorem pinP_length (ps:List Pd) (n s:ByteArray):(pinP ps n s).length<=ps.length+1/\((∃x∈ps,x.name=n)->(pinP ps n s).length<=ps.length):=by
 have h:∀(l:List Pd),(l.filter (fun x=>less x.name n)).length+(l.filter (fun x=> !(less x.name n)&& !decide (x.name=n))).length+(l.filter (fun x=>decide (x.name=n))).length=l.length:=by
  intro l;induction l with
  |nil=>rfl
  |cons x l ih=>
   by_cases hn:x.name=n
   ·simp[hn,less_irrefl]
    omega
   ·cases hl:less x.name n<;>simp[hl,hn]<;>omega
 have h1:=h ps;unfold pinP;rw[List.length_append,List.length_append];refine⟨by simp;omega,fun⟨x,hx,hxn⟩=> ?_⟩;have h2:0<(ps.filter (fun x=>decide (x.name=n))).length:=List.length_pos_of_mem (List.mem_filter.2 ⟨hx,by simpa using hxn⟩);simp;omega
structure RFits (wd:Int) (r:Rs):Prop where
 nd:(r.ks.map (·.sum)).Nodup
 sz:∀k∈r.ks,(k.sum.size:Int)=wd
 nk:r.ks.length<=600
 np:r.ps.length<=100
 nl:r.ls.length<=200
 refs:∀k∈r.ks,k.refs.length<=30
theorem AYes.fits (h:StateOk wd now given births ks ps ls) {kd:Int} {s nm:ByteArray} {num:Int} {text:ByteArray} {refs:List ByteArray} (he:okE kd s nm num text refs wd=true) {r:Rs} (hy:AYes wd now given births ks ps ls kd s nm num text refs r):RFits wd r:=by
 have hk:=h.kso;have h30:∀k∈ks,k.refs.length<=30:=fun k hk=>(h.things k hk).refs;rcases hy with⟨rfl,_,hl,_,ks1,b1,hy,rfl⟩|⟨_,_,hroom,rfl⟩|⟨_,_,rfl⟩|⟨_,_,hl,_,rfl⟩|⟨_,_,rfl⟩|⟨_,_,rfl⟩|⟨_,_,_,rfl⟩
 ·have hl':(ls++[(⟨given+1,sumT text refs wd,now+num⟩:Ld)]).length<=200:=by simp;omega
  rcases hy with⟨_,_,_,_,rfl,rfl⟩|⟨hno,hlt,_,rfl,rfl⟩
  ·exact⟨hk.nd,hk.sz,h.nth,h.np,hl',h30⟩
  ·have hp:=insK_perm ks ⟨sumT text refs wd,births+1,text,refs⟩
   refine⟨?_,fun k hkk=> ?_,?_,h.np,hl',fun k hkk=> ?_⟩
   ·rw[(hp.map (·.sum)).nodup_iff,List.map_cons,List.nodup_cons]
    refine⟨fun hin=>hno ?_,hk.nd⟩;obtain⟨u,hu,e⟩:=List.mem_map.1 hin;exact⟨u,hu,e⟩
   ·rcases List.mem_cons.1 (hp.mem_iff.1 hkk) with rfl|hkk
    ·exact sumT_size _ _ _ h.nums.wd1
    ·exact hk.sz k hkk
   ·show(insK _ _).length<=600
    rw[insK_len];omega
   ·rcases List.mem_cons.1 (hp.mem_iff.1 hkk) with rfl|hkk
    ·exact(okThing_parts ((okE_parts he).2.2.thing rfl)).refs
    ·exact h30 k hkk
 ·have:=pinP_length ps nm s
  refine⟨hk.nd,hk.sz,h.nth,?_,h.nl,h30⟩;rcases hroom with hroom|hroom
  ·exact Nat.le_trans (this.2 hroom) h.np
  ·exact Nat.le_trans this.1 (by omega)
 ·exact⟨hk.nd,hk.sz,h.nth,Nat.le_trans (List.length_filter_le _ _) h.np,h.nl,h30⟩
 ·exact⟨hk.nd,hk.sz,h.nth,h.np,by simp;omega,h30⟩
 ·exact⟨hk.nd,hk.sz,h.nth,h.np,Nat.le_trans (List.length_filter_le _ _) h.nl,h30⟩
 ·exact⟨hk.nd,hk.sz,h.nth,h.np,Nat.le_trans (List.length_filter_le _ _) h.nl,h30⟩
 ·exact⟨hk.nd.sublist (List.Sublist.map _ List.filter_sublist),fun k hkk=>hk.sz k (List.mem_filter.1 hkk).1,Nat.le_trans (List.length_filter_le _ _) h.nth,h.np,h.nl,fun k hkk=>h30 k (List.mem_filter.1 hkk).1⟩
end
theorem Dr.notin {w:World} {base d m:Nat} {O P L:Value} {wd now given births:Int} {ks:List Kd} {ps:List Pd} {ls:List Ld} (h:Dr w base d m O P L wd now given births ks ps ls) {R:Nat} {cur:Array Value} (hR:w.heap[R]?=some (.cells cur 40)) (hd:R≠d):R∉vB d m O P L:=by
 unfold vB;simp only[List.mem_cons,List.mem_append,Option.mem_toList,not_or];refine⟨hd,?_,?_,?_,?_⟩
 ·rintro rfl
  obtain⟨n,f,_,hM,_⟩:=h.map;obtain⟨D,⟨es,clock,hes,_⟩,_⟩:=hM;rw[hR] at hes;cases hes
 ·intro e
  obtain⟨c,hc⟩:=own_type h.ord e;rw[hR] at hc;simp at hc
 ·intro e
  obtain⟨c,hc⟩:=own_type h.pin e;rw[hR] at hc;simp at hc
 ·intro e
  obtain⟨c,hc⟩:=own_type h.lea e;rw[hR] at hc;simp at hc
theorem Drd.stays {base d m:Nat} {wd:Int} {r:Rs} {w w':World} {R:Nat} {cur:Array Value} (h:Drd base d m wd r w) (hR:w.heap[R]?=some (.cells cur 40)) (hb:base<=R) (hd:R≠d) (ht:Tn [R] w w'):Drd base d m wd r w':=by
 obtain⟨O,P,L,hD⟩:=h;exact⟨O,P,L,hD.apart ht hb (hD.notin hR hd) (fun c fz e=>by rw[hR] at e;simp at e)⟩
end Go.Proofs.YthkmpihfhkmaoaaGreatDoor
namespace Go.Proofs.YthkmpihfhkmaoaaGreatDoor
open Go.ChangeShapes Go.WideShapes Go.ChangeAt Go.RowKit
section
variable {wd now given births:Int} {ks:List Kd} {ps:List Pd} {ls:List Ld} {kd:Int} {s nm:ByteArray} {num:Int} {text:ByteArray} {refs:List ByteArray}
theorem PutYes.det {k1 k2:List Kd} {b1 b2:Int} (h1:PutYes wd births ks text refs k1 b1) (h2:PutYes wd births ks text refs k2 b2):k1=k2/\b1=b2:=by
 rcases h1 with⟨k,hk,hs,_,rfl,rfl⟩|⟨hno,_,_,rfl,rfl⟩<;>rcases h2 with⟨k',hk',hs',_,rfl,rfl⟩|⟨hno',_,_,rfl,rfl⟩
 ·exact⟨rfl,rfl⟩
 ·exact absurd ⟨k,hk,hs⟩ hno'
 ·exact absurd ⟨k',hk',hs'⟩ hno
 ·exact⟨rfl,rfl⟩
theorem PutNo.det (hnd:(ks.map (·.sum)).Nodup) {c c':Int} {a b a' b':ByteArray} (h1:PutNo wd given births ks ls text refs c a b) (h2:PutNo wd given births ks ls text refs c' a' b'):c=c'/\a=a'/\b=b':=by
 have key:∀k∈ks,k.sum=sumT text refs wd->formTxt k.text k.refs wd≠formTxt text refs wd->∀ks1 b1,¬PutYes wd births ks text refs ks1 b1:=by
  intro k hk hs hf ks1 b1 hy;rcases hy with⟨k',hk',hs',hf',_⟩|⟨hno,_⟩
  ·have:=sum_uniq hnd hk hk' (hs.trans hs'.symm)
   subst this;exact hf hf'
  ·exact hno ⟨k,hk,hs⟩
 rcases h1 with⟨hn,rfl,rfl,rfl⟩|⟨hall,h1⟩<;>rcases h2 with⟨hn',rfl,rfl,rfl⟩|⟨hall',h2⟩
 ·exact⟨rfl,rfl,rfl⟩
 ·exact absurd hall' hn
 ·exact absurd hall hn'
 ·rcases h1 with⟨k,hk,hs,hf,rfl,rfl,rfl⟩|⟨hno,_,rfl,rfl,rfl⟩|⟨⟨ks1,b1,hy⟩,_,rfl,rfl,rfl⟩<;>rcases h2 with⟨k',hk',hs',hf',rfl,rfl,rfl⟩|⟨hno',_,rfl,rfl,rfl⟩|⟨⟨ks2,b2,hy'⟩,_,rfl,rfl,rfl⟩
  ·have:=sum_uniq hnd hk hk' (hs.trans hs'.symm)
   subst this;exact⟨rfl,rfl,rfl⟩
  ·exact absurd ⟨k,hk,hs⟩ hno'
  ·exact absurd hy' (key k hk hs hf _ _)
  ·exact absurd ⟨k',hk',hs'⟩ hno
  ·exact⟨rfl,rfl,rfl⟩
  ·exact⟨rfl,rfl,rfl⟩
  ·exact absurd hy (key k' hk' hs' hf' _ _)
  ·exact⟨rfl,rfl,rfl⟩
  ·exact⟨rfl,rfl,rfl⟩
theorem PutNo.not (hnd:(ks.map (·.sum)).Nodup) {c:Int} {a b:ByteArray} (h1:PutNo wd given births ks ls text refs c a b) {k1:List Kd} {b1:Int} (h2:PutYes wd births ks text refs k1 b1) (hall:∀r∈refs,There ks r) (hl:ls.length<200) (hg:given<1000000000):False:=by
 rcases h1 with⟨hn,_⟩|⟨_,⟨k,hk,hs,hf,_⟩|⟨hno,hfull,_⟩|⟨_,hfull,_⟩⟩
 ·exact hn hall
 ·rcases h2 with⟨k',hk',hs',hf',_⟩|⟨hno,_⟩
  ·have:=sum_uniq hnd hk hk' (hs.trans hs'.symm)
   subst this;exact hf hf'
  ·exact hno ⟨k,hk,hs⟩
 ·rcases h2 with⟨k',hk',hs',_⟩|⟨_,h3,h4,_⟩
  ·exact hno ⟨k',hk',hs'⟩
  ·omega
 ·omega
theorem ANo.det (hnd:(ks.map (·.sum)).Nodup) {c c':Int} {a b a' b':ByteArray} (h1:ANo wd now given births ks ps ls kd s nm num text refs c a b) (h2:ANo wd now given births ks ps ls kd s nm num text refs c' a' b'):c=c'/\a=a'/\b=b':=by
 rcases h1 with⟨hk,h1⟩|⟨rfl,rfl,h1⟩<;>rcases h2 with⟨hk',h2⟩|⟨rfl,rfl,h2⟩
 ·exact h1.det hnd h2
 ·omega
 ·omega
 ·refine⟨?_,rfl,rfl⟩
  rcases h1 with⟨k1,⟨h1,rfl⟩|⟨h1,x1,y1,rfl⟩⟩|⟨k1,h1,rfl⟩|⟨k1,⟨h1,rfl⟩|⟨h1,x1,rfl⟩⟩|⟨k1,h1,rfl⟩|⟨k1,h1,rfl⟩|⟨k1,⟨h1,rfl⟩|⟨h1,x1,rfl⟩⟩<;>rcases h2 with⟨k2,⟨h2,rfl⟩|⟨h2,x2,y2,rfl⟩⟩|⟨k2,h2,rfl⟩|⟨k2,⟨h2,rfl⟩|⟨h2,x2,rfl⟩⟩|⟨k2,h2,rfl⟩|⟨k2,h2,rfl⟩|⟨k2,⟨h2,rfl⟩|⟨h2,x2,rfl⟩⟩<;>first|rfl|omega|exact absurd h2 h1|exact absurd h1 h2
theorem AYes.det {r r':Rs} (h1:AYes wd now given births ks ps ls kd s nm num text refs r) (h2:AYes wd now given births ks ps ls kd s nm num text refs r'):r=r':=by
 rcases h1 with⟨k1,_,_,_,ks1,b1,y1,rfl⟩|⟨k1,_,_,rfl⟩|⟨k1,_,rfl⟩|⟨k1,_,_,_,rfl⟩|⟨k1,_,rfl⟩|⟨k1,_,rfl⟩|⟨k1,_,_,rfl⟩<;>rcases h2 with⟨k2,_,_,_,ks2,b2,y2,rfl⟩|⟨k2,_,_,rfl⟩|⟨k2,_,rfl⟩|⟨k2,_,_,_,rfl⟩|⟨k2,_,rfl⟩|⟨k2,_,rfl⟩|⟨k2,_,_,rfl⟩<;>first|rfl|omega|(obtain⟨rfl,rfl⟩:=y1.det y2;rfl)
theorem ANo.not (hnd:(ks.map (·.sum)).Nodup) {c:Int} {a b:ByteArray} {r:Rs} (h1:ANo wd now given births ks ps ls kd s nm num text refs c a b) (h2:AYes wd now given births ks ps ls kd s nm num text refs r):False:=by
 rcases h2 with⟨k2,hall,hl,hg,ks2,b2,y2,_⟩|⟨k2,g1,g2,_⟩|⟨k2,g1,_⟩|⟨k2,g1,g2,g3,_⟩|⟨k2,g1,_⟩|⟨k2,g1,_⟩|⟨k2,g1,g2,_⟩<;>rcases h1 with⟨k1,h1⟩|⟨_,_,⟨k1,⟨h1,_⟩|⟨h1,x1,z1,_⟩⟩|⟨k1,h1,_⟩|⟨k1,⟨h1,_⟩|⟨h1,x1,_⟩⟩|⟨k1,h1,_⟩|⟨k1,h1,_⟩|⟨k1,⟨h1,_⟩|⟨h1,x1,_⟩⟩⟩<;>first|omega|exact absurd g1 h1|exact absurd x1 g2|exact h1.not hnd y2 hall hl hg|(rcases g2 with g2|g2;exact x1 g2;omega)
end
end Go.Proofs.YthkmpihfhkmaoaaGreatDoor
namespace Go.Proofs.YthkmpihfhkmaoaaGreatDoor
open Go.ChangeShapes Go.WideShapes Go.ChangeAt Go.RowKit
attribute [local go_sem↓] Go.wp_at_zero Go.wp_at_succ
set_option maxHeartbeats 400000 in
theorem eqKept_yes (k:Kd) (a a':Option Addr) (cap cap':Nat) (w:World) (hrow:SRow w w.heap.size a k.refs) (hrow':SRow w w.heap.size a' k.refs) (hl:k.refs.length<=1048576):
 Calls Tryz.prog 114 #[.agg #[.string k.sum,.int .i64 k.born,.string k.text,.slice a k.refs.length cap],.agg #[.string k.sum,.int .i64 k.born,.string k.text,.slice a' k.refs.length cap']] w fun e w'=>e=.returned (.bool true)/\Below w.heap.size w w':=by
 have hb:∀o1 o2,Below w.heap.size w ((w.alloc o1).alloc o2):=fun o1 o2=>((Below.refl _ _).alloc (Nat.le_refl _) _).alloc (by simp) _;go_enter Tryz.func114,Tryz.ntmps114;go_wp2_with fail;refine(eqThing_yes k.text a a' cap cap' k.refs _ (hrow.below' (hb _ _)) (hrow'.below' (hb _ _)) hl).mono ?_;rintro e w1 ⟨rfl,hb1⟩;go_wp2;go_ret;exact⟨rfl,(hb _ _).trans (hb1.mono (by simp;omega))⟩
set_option maxHeartbeats 400000 in
theorem eqPin_yes (p:Pd) (w:World):
 Calls Tryz.prog 115 #[.agg #[.string p.name,.string p.sum],.agg #[.string p.name,.string p.sum]] w fun e w'=>e=.returned (.bool true)/\Below w.heap.size w w':=by
 go_enter Tryz.func115,Tryz.ntmps115;go_wp2;go_ret;exact⟨rfl,((Below.refl _ _).alloc (Nat.le_refl _) _).alloc (by simp) _⟩
set_option maxHeartbeats 400000 in
theorem eqLease_yes (p:Ld) (w:World):
 Calls Tryz.prog 116 #[.agg #[.int .i64 p.num,.string p.sum,.int .i64 p.til],.agg #[.int .i64 p.num,.string p.sum,.int .i64 p.til]] w fun e w'=>e=.returned (.bool true)/\Below w.heap.size w w':=by
 go_enter Tryz.func116,Tryz.ntmps116;go_wp2;go_ret;exact⟨rfl,((Below.refl _ _).alloc (Nat.le_refl _) _).alloc (by simp) _⟩
set_option maxHeartbeats 400000 in
theorem eqPinS_yes (a a':Option Addr) (cap cap':Nat) (ps:List Pd) (w:World) (hrow:PRow w w.heap.size a ps) (hrow':PRow w w.heap.size a' ps) (hl:ps.length<=1048576):
 Calls Tryz.prog 48 #[.slice a ps.length cap,.slice a' ps.length cap'] w fun e w'=>e=.returned (.bool true)/\Below w.heap.size w w':=by
 go_enter Tryz.func48,Tryz.ntmps48;go_wp2
 go_loopw [5] (fun i wr=>∃k:Nat,k<=ps.length/\i=.int .i64 k/\Below w.heap.size w wr) (fun i _=>ps.length -(intOf i).toNat)
 case atStart=>exact⟨0,Nat.zero_le _,rfl,Below.refl _ _⟩
 case round=>
  obtain⟨k,hk,rfl,hbel⟩:=hrel;by_cases hlt:k<ps.length
  ·obtain⟨b,off,ha,hb,hc⟩:=(hrow.below hbel).at hlt
   obtain⟨b',off',ha',hb',hc'⟩:=(hrow'.below hbel).at hlt;subst ha ha';obtain⟨c0,c1⟩:=hc k _ (List.getElem?_eq_getElem hlt);obtain⟨d0,d1⟩:=hc' k _ (List.getElem?_eq_getElem hlt);clear hc hc' hrow hrow';generalize ps[k]=x at *
   go_wp2;go_region_with (go_at_call 115;refine(eqPin_yes x _).mono ?_;rintro e w1 ⟨rfl,hb1⟩)
   all_goals
    have hB:=hbel.drew.trans (hb1.mono hbel.size);go_wp2;exact⟨⟨k+1,by omega,by go_num,hB⟩,by simp[intOf];omega⟩
  ·go_wp2
   go_ret;exact⟨rfl,hbel⟩
set_option maxHeartbeats 400000 in
theorem eqLeaseS_yes (a a':Option Addr) (cap cap':Nat) (ls:List Ld) (w:World) (hrow:LRow w w.heap.size a ls) (hrow':LRow w w.heap.size a' ls) (hl:ls.length<=1048576):
 Calls Tryz.prog 49 #[.slice a ls.length cap,.slice a' ls.length cap'] w fun e w'=>e=.returned (.bool true)/\Below w.heap.size w w':=by
 go_enter Tryz.func49,Tryz.ntmps49;go_wp2
 go_loopw [5] (fun i wr=>∃k:Nat,k<=ls.length/\i=.int .i64 k/\Below w.heap.size w wr) (fun i _=>ls.length -(intOf i).toNat)
 case atStart=>exact⟨0,Nat.zero_le _,rfl,Below.refl _ _⟩
 case round=>
  obtain⟨k,hk,rfl,hbel⟩:=hrel;by_cases hlt:k<ls.length
  ·obtain⟨b,off,ha,hb,hc⟩:=(hrow.below hbel).at hlt
   obtain⟨b',off',ha',hb',hc'⟩:=(hrow'.below hbel).at hlt;subst ha ha';obtain⟨c0,c1,c2⟩:=hc k _ (List.getElem?_eq_getElem hlt);obtain⟨d0,d1,d2⟩:=hc' k _ (List.getElem?_eq_getElem hlt);clear hc hc' hrow hrow';generalize ls[k]=x at *
   go_wp2;go_region_with (go_at_call 116;refine(eqLease_yes x _).mono ?_;rintro e w1 ⟨rfl,hb1⟩)
   all_goals
    have hB:=hbel.drew.trans (hb1.mono hbel.size);go_wp2;exact⟨⟨k+1,by omega,by go_num,hB⟩,by simp[intOf];omega⟩
  ·go_wp2
   go_ret;exact⟨rfl,hbel⟩
set_option maxHeartbeats 1000000 in
theorem eqKeptS_yes (a a':Option Addr) (cap cap':Nat) (ks:List Kd) (w:World) (hrow:KRow w w.heap.size a ks) (hrow':KRow w w.heap.size a' ks) (hl:ks.length<=1048576) (hrl:∀k∈ks,k.refs.length<=1048576):
 Calls Tryz.prog 47 #[.slice a ks.length cap,.slice a' ks.length cap'] w fun e w'=>e=.returned (.bool true)/\Below w.heap.size w w':=by
 go_enter Tryz.func47,Tryz.ntmps47;go_wp2
 go_loopw [5] (fun i wr=>∃k:Nat,k<=ks.length/\i=.int .i64 k/\Below w.heap.size w wr) (fun i _=>ks.length -(intOf i).toNat)
 case atStart=>exact⟨0,Nat.zero_le _,rfl,Below.refl _ _⟩
 case round=>
  obtain⟨k,hk,rfl,hbel⟩:=hrel;by_cases hlt:k<ks.length
  ·obtain⟨b,off,ha,hb,hc⟩:=(hrow.below hbel).at hlt
   obtain⟨b',off',ha',hb',hc'⟩:=(hrow'.below hbel).at hlt;subst ha ha';obtain⟨c0,c1,c2,ra,rc,c3,hr⟩:=hc k _ (List.getElem?_eq_getElem hlt);obtain⟨d0,d1,d2,ra',rc',d3,hr'⟩:=hc' k _ (List.getElem?_eq_getElem hlt);have hrk:=hrl _ (List.getElem_mem hlt);clear hc hc' hrow hrow' hrl;generalize ks[k]=x at *
   have hcon:=eqKept_yes x ra ra' rc rc' wr.drew (hr.mono hbel.size) (hr'.mono hbel.size) hrk;have HC:Hid _:=hcon;clear hcon hr hr';go_wp2;go_region_with (go_at_call 114;refine Calls.mono HC.out ?_;rintro e w1 ⟨rfl,hb1⟩)
   all_goals
    have hB:=hbel.drew.trans (hb1.mono hbel.size);go_wp2;exact⟨⟨k+1,by omega,by go_num,hB⟩,by simp[intOf];omega⟩
  ·go_wp2
   go_ret;exact⟨rfl,hbel⟩
set_option maxHeartbeats 1000000 in
theorem eqState_yes (wd now given births:Int) (a p l a' p' l':Option Addr) (ac pc lc ac' pc' lc':Nat) (ks:List Kd) (ps:List Pd) (ls:List Ld) (w:World) (hrow:SRows w w.heap.size a p l ks ps ls) (hrow':SRows w w.heap.size a' p' l' ks ps ls) (hf:SFit ks ps ls):
 Calls Tryz.prog 13 #[.agg #[.int .i64 wd,.int .i64 now,.int .i64 given,.int .i64 births,.slice a ks.length ac,.slice p ps.length pc,.slice l ls.length lc],.agg #[.int .i64 wd,.int .i64 now,.int .i64 given,.int .i64 births,.slice a' ks.length ac',.slice p' ps.length pc',.slice l' ls.length lc']] w fun e w'=>e=.returned (.bool true)/\Below w.heap.size w w':=by
 have hb0:∀o1 o2,Below w.heap.size w ((w.alloc o1).alloc o2):=fun o1 o2=>((Below.refl _ _).alloc (Nat.le_refl _) _).alloc (by simp) _
 have hx:=SBox.below (SBox.new w wd now given births (.slice a ks.length ac) (.slice p ps.length pc) (.slice l ls.length lc) 38) ((Below.refl _ _).alloc (Nat.le_refl _) (.cells #[.int .i64 wd,.int .i64 now,.int .i64 given,.int .i64 births,.slice a' ks.length ac',.slice p' ps.length pc',.slice l' ls.length lc'] 38))
 have hy:=SBox.new (w.alloc (.cells #[.int .i64 wd,.int .i64 now,.int .i64 given,.int .i64 births,.slice a ks.length ac,.slice p ps.length pc,.slice l ls.length lc] 38)) wd now given births (.slice a' ks.length ac') (.slice p' ps.length pc') (.slice l' ls.length lc') 38;go_enter Tryz.func13,Tryz.ntmps13;go_wp2_with fail
 refine(eqKeptS_yes a a' ac ac' ks _ (hrow.below' (hb0 _ _)).k (hrow'.below' (hb0 _ _)).k hf.k hf.r).mono ?_;rintro e w1 ⟨rfl,hb1⟩;have hB1:=(hb0 _ _).trans (hb1.mono (by simp;omega));obtain⟨_,_,_,_,_,x5,x6,x7⟩:=hx.below hb1;obtain⟨_,_,_,_,_,y5,y6,y7⟩:=hy.below hb1;simp[go_sem] at y5 y6 y7;clear hb1 hx hy;go_wp2_with fail
 refine(eqPinS_yes p p' pc pc' ps _ (hrow.below' hB1).p (hrow'.below' hB1).p hf.p).mono ?_;rintro e w2 ⟨rfl,hb2⟩;have hB2:=hB1.trans (hb2.mono hB1.size);replace x6:=(hb2.cell (p:=⟨w.heap.size,6,none⟩) x7).trans x6;replace y6:=(hb2.cell (p:=⟨w.heap.size+1,6,none⟩) y7).trans y6;have z2:=hb2.size;clear hb2 x5 y5;go_wp2_with fail
 refine(eqLeaseS_yes l l' lc lc' ls _ (hrow.below' hB2).l (hrow'.below' hB2).l hf.l).mono ?_;rintro e w3 ⟨rfl,hb3⟩;go_wp2;go_ret;exact⟨rfl,hB2.trans (hb3.mono hB2.size)⟩
end Go.Proofs.YthkmpihfhkmaoaaGreatDoor
namespace Go.Proofs.YthkmpihfhkmaoaaGreatDoor
open Go.ChangeShapes Go.WideShapes Go.ChangeAt Go.RowKit
set_option maxRecDepth 20000 in
set_option maxHeartbeats 4000000 in
theorem eqChanged_row (code wd now given births le:Int) (sm aa bb:ByteArray) (ta pa la:Option Addr) (tc pc lc:Nat) (ta' pa' la':Option Addr) (tc' pc' lc':Nat) (ks:List Kd) (ps:List Pd) (ls:List Ld) (w:World) (hs:SRows w w.heap.size ta pa la ks ps ls) (hs':SRows w w.heap.size ta' pa' la' ks ps ls) (hf:SFit ks ps ls):
 Calls Tryz.prog 12 #[.agg #[.int .i64 code,.int .i64 wd,.int .i64 now,.int .i64 given,.int .i64 births,.slice ta ks.length tc,.slice pa ps.length pc,.slice la ls.length lc,.string sm,.int .i64 le,.string aa,.string bb],.agg #[.int .i64 code,.int .i64 wd,.int .i64 now,.int .i64 given,.int .i64 births,.slice ta' ks.length tc',.slice pa' ps.length pc',.slice la' ls.length lc',.string sm,.int .i64 le,.string aa,.string bb]] w fun e w'=>e=.returned (.bool true)/\Below w.heap.size w w':=by
 obtain⟨W,hW⟩:∃W,W=(w.alloc (.cells #[.int .i64 code,.int .i64 wd,.int .i64 now,.int .i64 given,.int .i64 births,.slice ta ks.length tc,.slice pa ps.length pc,.slice la ls.length lc,.string sm,.int .i64 le,.string aa,.string bb] 40)).alloc (.cells #[.int .i64 code,.int .i64 wd,.int .i64 now,.int .i64 given,.int .i64 births,.slice ta' ks.length tc',.slice pa' ps.length pc',.slice la' ls.length lc',.string sm,.int .i64 le,.string aa,.string bb] 40):=⟨_,rfl⟩
 have hb:Below w.heap.size w W:=by rw[hW];exact((Below.refl _ _).alloc (Nat.le_refl _) _).alloc (by simp) _
 have hz:CellsAt W w.heap.size [.int .i64 code,.int .i64 wd,.int .i64 now,.int .i64 given,.int .i64 births,.slice ta ks.length tc,.slice pa ps.length pc,.slice la ls.length lc,.string sm,.int .i64 le,.string aa,.string bb]:=by rw[hW];exact CellsAt.below (CellsAt.new w _ _) ((Below.refl _ _).alloc (Nat.le_refl _) _)
 have hy:CellsAt W (w.heap.size+1) [.int .i64 code,.int .i64 wd,.int .i64 now,.int .i64 given,.int .i64 births,.slice ta' ks.length tc',.slice pa' ps.length pc',.slice la' ls.length lc',.string sm,.int .i64 le,.string aa,.string bb]:=by
  have h1:=CellsAt.new (w.alloc (.cells #[.int .i64 code,.int .i64 wd,.int .i64 now,.int .i64 given,.int .i64 births,.slice ta ks.length tc,.slice pa ps.length pc,.slice la ls.length lc,.string sm,.int .i64 le,.string aa,.string bb] 40)) [.int .i64 code,.int .i64 wd,.int .i64 now,.int .i64 given,.int .i64 births,.slice ta' ks.length tc',.slice pa' ps.length pc',.slice la' ls.length lc',.string sm,.int .i64 le,.string aa,.string bb] 40
  rw[World.size_alloc] at h1;rw[hW];exact h1
 have HZ:Hid (CellsAt W w.heap.size [.int .i64 code,.int .i64 wd,.int .i64 now,.int .i64 given,.int .i64 births,.slice ta ks.length tc,.slice pa ps.length pc,.slice la ls.length lc,.string sm,.int .i64 le,.string aa,.string bb]/\CellsAt W (w.heap.size+1) [.int .i64 code,.int .i64 wd,.int .i64 now,.int .i64 given,.int .i64 births,.slice ta' ks.length tc',.slice pa' ps.length pc',.slice la' ls.length lc',.string sm,.int .i64 le,.string aa,.string bb]):=⟨hz,hy⟩
 have HQ:Hid (∀X,Below W.heap.size W X->Calls Tryz.prog 13 #[.agg #[.int .i64 wd,.int .i64 now,.int .i64 given,.int .i64 births,.slice ta ks.length tc,.slice pa ps.length pc,.slice la ls.length lc],.agg #[.int .i64 wd,.int .i64 now,.int .i64 given,.int .i64 births,.slice ta' ks.length tc',.slice pa' ps.length pc',.slice la' ls.length lc']] X fun e w'=>e=.returned (.bool true)/\Below X.heap.size X w'):=fun X hX=>by
  have hbX:=hb.trans (hX.mono hb.size);exact eqState_yes wd now given births ta pa la ta' pa' la' tc pc lc tc' pc' lc' ks ps ls X (hs.below' hbX) (hs'.below' hbX) hf
 have HB:Hid (Below w.heap.size w W):=hb;have HW:Hid _:=hW;obtain⟨c0,_⟩:=hz 0 _ rfl;obtain⟨c1,_⟩:=hz 1 _ rfl;obtain⟨c2,_⟩:=hz 2 _ rfl;obtain⟨c3,_⟩:=hz 3 _ rfl;obtain⟨c4,_⟩:=hz 4 _ rfl;obtain⟨c5,_⟩:=hz 5 _ rfl;obtain⟨c6,_⟩:=hz 6 _ rfl;obtain⟨c7,_⟩:=hz 7 _ rfl;obtain⟨c8,_⟩:=hz 8 _ rfl;obtain⟨c9,_⟩:=hz 9 _ rfl;obtain⟨c10,_⟩:=hz 10 _ rfl;obtain⟨c11,_⟩:=hz 11 _ rfl;obtain⟨e0,_⟩:=hy 0 _ rfl
 obtain⟨e1,_⟩:=hy 1 _ rfl;obtain⟨e2,_⟩:=hy 2 _ rfl;obtain⟨e3,_⟩:=hy 3 _ rfl;obtain⟨e4,_⟩:=hy 4 _ rfl;obtain⟨e5,_⟩:=hy 5 _ rfl;obtain⟨e6,_⟩:=hy 6 _ rfl;obtain⟨e7,_⟩:=hy 7 _ rfl;obtain⟨e8,_⟩:=hy 8 _ rfl;obtain⟨e9,_⟩:=hy 9 _ rfl;obtain⟨e10,_⟩:=hy 10 _ rfl;obtain⟨e11,_⟩:=hy 11 _ rfl;clear hW hz hy hs hs' hb;go_enter Tryz.func12,Tryz.ntmps12;go_upto_region 1 with fail;rw[←HW.out];clear HW
 go_wp2_with fail;refine Calls.mono (HQ.out W (Below.refl _ _)) ?_;rintro e w1 ⟨rfl,hb1⟩;have hB1:Below w.heap.size w w1:=HB.out.trans (hb1.mono HB.out.size);have z1:=CellsAt.below HZ.out.1 hb1;have y1:=CellsAt.below HZ.out.2 hb1;clear c0 c1 c2 c3 c4 c5 c6 c7 c8 c9 c10 c11 e0 e1 e2 e3 e4 e5 e6 e7 e8 e9 e10 e11;obtain⟨c8,_⟩:=z1 8 _ rfl;obtain⟨c9,_⟩:=z1 9 _ rfl;obtain⟨c10,_⟩:=z1 10 _ rfl
 obtain⟨c11,_⟩:=z1 11 _ rfl;obtain⟨e8,_⟩:=y1 8 _ rfl;obtain⟨e9,_⟩:=y1 9 _ rfl;obtain⟨e10,_⟩:=y1 10 _ rfl;obtain⟨e11,_⟩:=y1 11 _ rfl;have HB1:Hid (Below w.heap.size w w1):=hB1;clear z1 y1 HZ HQ hb1 hB1;go_wp2;go_ret;exact⟨rfl,HB1.out⟩
end Go.Proofs.YthkmpihfhkmaoaaGreatDoor
namespace Go.Proofs.YthkmpihfhkmaoaaGreatDoor
open Go.ChangeShapes Go.WideShapes Go.ChangeAt Go.RowKit
theorem SBox.same' {w w':World} {b:Nat} {wd now given births:Int} {T P L:Value} (h:SBox w b wd now given births T P L) (hb:w'.heap[b]?=w.heap[b]?) (hl:b<w'.heap.size):SBox w' b wd now given births T P L:=by
 obtain⟨h0,h1,h2,h3,h4,h5,h6,h7⟩:=h;have c:=fun j=>World.cell?_of_block (a:=⟨b,j,none⟩) hb;exact⟨(c 0).trans h0,(c 1).trans h1,(c 2).trans h2,(c 3).trans h3,(c 4).trans h4,(c 5).trans h5,(c 6).trans h6,hl⟩
theorem markKeptW (base k:Nat) (T:Value) (rs:List Value) (ks:List Kd) (w:World) (h:KAns w base T rs ks) (hk:1<=k) (hkn:k+ks.length *3+refsN ks<=100000000):
 Calls Tryz.prog 50 #[T,.int .i64 k] w fun e w'=>e=.returned (.int .i64 (k+ks.length *3+refsN ks:Nat))/\KAns w' base T rs (markK k ks)/\Tn (T.ownBlock.toList++rs.filterMap Value.ownBlock) w w':=by
 have h':=h;rcases h.things.2 with⟨rfl,hn⟩|⟨g,cap,cur,rfl,_⟩
 ·obtain rfl:=List.length_eq_zero_iff.1 hn
  refine(markKeptS_zero none 0 k w).mono ?_;rintro e w' ⟨rfl,rfl⟩;exact⟨by simp[refsN],h',Tn.of (Below.refl _ _)⟩
 ·exact markKeptX base g cap k rs ks w h' hk hkn
theorem heldKeptW (base k:Nat) (T:Value) (rs:List Value) (ks:List Kd) (w:World) (h:KAns w base T rs (markK k ks)) (hk:1<=k) (hkn:k+ks.length *3+refsN ks<=100000000):
 Calls Tryz.prog 118 #[T,.int .i64 k] w fun e w'=>e=.returned (.int .i64 (k+ks.length *3+refsN ks:Nat))/\Below w.heap.size w w':=by
 have h':=h;rcases h.things.2 with⟨rfl,hn⟩|⟨g,cap,cur,rfl,_⟩
 ·rw[markK_length] at hn
  obtain rfl:=List.length_eq_zero_iff.1 hn;refine(heldKeptS_zero none 0 k w).mono ?_;rintro e w' ⟨rfl,rfl⟩;exact⟨by simp[refsN],Below.refl _ _⟩
 ·rw[markK_length] at h' ⊢
  exact heldKeptX base g cap k rs ks w h' hk hkn
theorem markPinW (base k:Nat) (P:Value) (ps:List Pd) (w:World) (h:w.ownsRow base 130 2 P ps.length (rowC pC ps)) (hk:1<=k) (hkn:k+ps.length *2<=100000000):
 Calls Tryz.prog 51 #[P,.int .i64 k] w fun e w'=>e=.returned (.int .i64 (k+ps.length *2:Nat))/\w'.ownsRow base 130 2 P ps.length (rowC pC (markP k ps))/\Tn P.ownBlock.toList w w':=by
 have h':=h;rcases h.2 with⟨rfl,hn⟩|⟨g,cap,cur,rfl,_⟩
 ·obtain rfl:=List.length_eq_zero_iff.1 hn
  refine(markPinS_zero none 0 k w).mono ?_;rintro e w' ⟨rfl,rfl⟩;exact⟨by simp,h',Tn.of (Below.refl _ _)⟩
 ·refine(markPinX base g cap k ps w h' hk hkn).mono ?_
  rintro e w' ⟨rfl,h1,h2⟩;exact⟨rfl,h1,Tn.grown h2 (by simp[Value.ownBlock])⟩
theorem heldPinW (base k:Nat) (P:Value) (ps:List Pd) (w:World) (h:w.ownsRow base 130 2 P ps.length (rowC pC (markP k ps))) (hk:1<=k) (hkn:k+ps.length *2<=100000000):
 Calls Tryz.prog 119 #[P,.int .i64 k] w fun e w'=>e=.returned (.int .i64 (k+ps.length *2:Nat))/\Below w.heap.size w w':=by
 have h':=h;rcases h.2 with⟨rfl,hn⟩|⟨g,cap,cur,rfl,_⟩
 ·obtain rfl:=List.length_eq_zero_iff.1 hn
  refine(heldPinS_zero none 0 k w).mono ?_;rintro e w' ⟨rfl,rfl⟩;exact⟨by simp,Below.refl _ _⟩
 ·exact heldPinX base g cap k ps w h' hk hkn
theorem markLeaseW (base k:Nat) (P:Value) (ps:List Ld) (w:World) (h:w.ownsRow base 131 3 P ps.length (rowC lC ps)) (hk:1<=k) (hkn:k+ps.length *3<=100000000):
 Calls Tryz.prog 52 #[P,.int .i64 k] w fun e w'=>e=.returned (.int .i64 (k+ps.length *3:Nat))/\w'.ownsRow base 131 3 P ps.length (rowC lC (markL k ps))/\Tn P.ownBlock.toList w w':=by
 have h':=h;rcases h.2 with⟨rfl,hn⟩|⟨g,cap,cur,rfl,_⟩
 ·obtain rfl:=List.length_eq_zero_iff.1 hn
  refine(markLeaseS_zero none 0 k w).mono ?_;rintro e w' ⟨rfl,rfl⟩;exact⟨by simp,h',Tn.of (Below.refl _ _)⟩
 ·refine(markLeaseX base g cap k ps w h' hk hkn).mono ?_
  rintro e w' ⟨rfl,h1,h2⟩;exact⟨rfl,h1,Tn.grown h2 (by simp[Value.ownBlock])⟩
theorem heldLeaseW (base k:Nat) (P:Value) (ps:List Ld) (w:World) (h:w.ownsRow base 131 3 P ps.length (rowC lC (markL k ps))) (hk:1<=k) (hkn:k+ps.length *3<=100000000):
 Calls Tryz.prog 120 #[P,.int .i64 k] w fun e w'=>e=.returned (.int .i64 (k+ps.length *3:Nat))/\Below w.heap.size w w':=by
 have h':=h;rcases h.2 with⟨rfl,hn⟩|⟨g,cap,cur,rfl,_⟩
 ·obtain rfl:=List.length_eq_zero_iff.1 hn
  refine(heldLeaseS_zero none 0 k w).mono ?_;rintro e w' ⟨rfl,rfl⟩;exact⟨by simp,Below.refl _ _⟩
 ·exact heldLeaseX base g cap k ps w h' hk hkn
def cntS (ks:List Kd) (ps:List Pd) (ls:List Ld):Nat:=ks.length *3+refsN ks+ps.length *2+ls.length *3
theorem SAns.kans {w:World} {base:Nat} {T P L:Value} {rs:List Value} {ks:List Kd} {ps:List Pd} {ls:List Ld} (h:SAns w base T P L rs ks ps ls):KAns w base T rs ks:=by
 refine⟨h.len,h.things,h.refs,?_⟩;have:=h.nd;rw[blks_eq] at this;unfold blks at this;generalize T.ownBlock=t at *
 generalize P.ownBlock=p at *
 generalize L.ownBlock=l at *
 cases t<;>cases p<;>cases l<;>simp_all<;>grind
theorem KAns.same {w w':World} {base:Nat} {T:Value} {rs:List Value} {ks:List Kd} (h:KAns w base T rs ks) (hs:∀b,b<w.heap.size->b∈T.ownBlock.toList++rs.filterMap Value.ownBlock->w'.heap[b]?=w.heap[b]?):KAns w' base T rs ks:=
 ⟨h.len,own_same h.things (fun b hb=>hs b (own_lt h.things hb).2 (by simp[hb])),fun i k r hk hr=>own_same (h.refs i k r hk hr) (fun b hb=>hs b (own_lt (h.refs i k r hk hr) hb).2 (List.mem_append_right _ (List.mem_filterMap.2 ⟨r,List.mem_of_getElem? hr,hb⟩))),h.nd⟩
theorem nd3 {T P L:Option Nat} {R:List Nat} (h:(T.toList++(P.toList++(L.toList++R))).Nodup):(∀b∈T.toList++R,b∉P.toList/\b∉L.toList)/\(∀b∈P.toList,b∉T.toList++R/\b∉L.toList)/\(∀b∈L.toList,b∉T.toList++R/\b∉P.toList):=by
 cases T<;>cases P<;>cases L<;>simp_all<;>grind
set_option maxRecDepth 20000 in
set_option maxHeartbeats 2000000 in
theorem markStateX (wd now given births:Int) (base k:Nat) (T P L:Value) (rs:List Value) (ks:List Kd) (ps:List Pd) (ls:List Ld) (w:World) (h:SAns w base T P L rs ks ps ls) (hk:1<=k) (hkn:k+cntS ks ps ls<=100000000):
 Calls Tryz.prog 15 #[.agg #[.int .i64 wd,.int .i64 now,.int .i64 given,.int .i64 births,T,P,L],.int .i64 k] w fun e w'=>e=.returned (.int .i64 (k+cntS ks ps ls:Nat))/\SAns w' base T P L rs (markK k ks) (markP (k+ks.length *3+refsN ks) ps) (markL (k+ks.length *3+refsN ks+ps.length *2) ls)/\Tn (blks T P L rs) w w':=by
 have hnd:=h.nd;rw[blks_eq] at hnd;obtain⟨n1,n2,n3⟩:=nd3 hnd;have hb0:Below w.heap.size w (w.alloc (.cells #[.int .i64 wd,.int .i64 now,.int .i64 given,.int .i64 births,T,P,L] 38)):=(Below.refl _ _).alloc (Nat.le_refl _) _;have hx:=SBox.new w wd now given births T P L 38;obtain⟨W,hW⟩:∃W,W=w.alloc (.cells #[.int .i64 wd,.int .i64 now,.int .i64 given,.int .i64 births,T,P,L] 38):=⟨_,rfl⟩
 rw[←hW] at hb0 hx;have hlt:∀b∈blks T P L rs,b<w.heap.size:=by
  intro b hb;unfold blks at hb;simp only[List.mem_append,Option.mem_toList,List.mem_filterMap] at hb;rcases hb with hb|hb|hb|⟨r,hr,hb⟩
  ·exact(own_lt h.things hb).2
  ·exact(own_lt h.pins hb).2
  ·exact(own_lt h.leases hb).2
  ·obtain⟨i,hi⟩:=List.getElem?_of_mem hr
   have hil:=(List.getElem?_eq_some_iff.1 hi).1;have hl:=h.len;exact(own_lt (h.refs i ks[i] r (List.getElem?_eq_getElem (by omega)) hi) hb).2
 obtain⟨ta,tc,rfl⟩:=own_val h.things;obtain⟨pa,pc,rfl⟩:=own_val h.pins;obtain⟨la,lc,rfl⟩:=own_val h.leases;have HA:Hid _:=h;have HL:Hid _:=And.intro hlt (And.intro n1 (And.intro n2 n3));have HW:Hid _:=hW;have HX:Hid _:=hx;have hzW:w.heap.size<W.heap.size:=hx.2.2.2.2.2.2.2;have hc1:k+ks.length *3+refsN ks<=100000000:=by unfold cntS at hkn;omega
 have hc2:k+ks.length *3+refsN ks+ps.length *2<=100000000:=by unfold cntS at hkn;omega
 have hc3:k+ks.length *3+refsN ks+ps.length *2+ls.length *3<=100000000:=by unfold cntS at hkn;omega
 obtain⟨x0,x1,x2,x3,x4,x5,x6,x7⟩:=hx;clear h hlt n1 n2 n3 hW hnd x0 x1 x2 x3 hkn;go_enter Tryz.func15,Tryz.ntmps15;go_upto_region 1 with fail;rw[←HW.out];clear HW;have K0:KAns W base (.slice ta ks.length tc) rs ks:=KAns.same HA.out.kans (fun b hb _=>hb0.block b hb);go_wp2_with fail;refine(markKeptW base k _ rs ks W K0 hk hc1).mono ?_;rintro e w1 ⟨rfl,k1,t1⟩
 have hV1:∀b∈(Value.slice ta ks.length tc).ownBlock.toList++rs.filterMap Value.ownBlock,b∈blks (.slice ta ks.length tc) (.slice pa ps.length pc) (.slice la ls.length lc) rs:=fun b hb=>by
  unfold blks;rcases List.mem_append.1 hb with hb|hb
  ·exact List.mem_append_left _ hb
  ·exact List.mem_append_right _ (List.mem_append_right _ (List.mem_append_right _ hb))
 have hbx:∀{V:List Nat} {X Y:World},Tn V X Y->(∀b∈V,b∈blks (.slice ta ks.length tc) (.slice pa ps.length pc) (.slice la ls.length lc) rs)->W.heap.size<=X.heap.size->SBox X w.heap.size wd now given births (.slice ta ks.length tc) (.slice pa ps.length pc) (.slice la ls.length lc)->SBox Y w.heap.size wd now given births (.slice ta ks.length tc) (.slice pa ps.length pc) (.slice la ls.length lc):=fun ht hV hz hx=>hx.same' (ht.block _ (by omega) (fun e=>by have:=HL.out.1 _ (hV _ e);omega)) (Nat.lt_of_lt_of_le (Nat.lt_of_lt_of_le hzW hz) ht.size)
 have X1:=hbx t1 hV1 (Nat.le_refl _) HX.out;have X1c:=X1;obtain⟨_,_,_,_,_,y5,y6,_⟩:=X1c;have p1:w1.ownsRow base 130 2 (.slice pa ps.length pc) ps.length (rowC pC ps):=own_same (own_below HA.out.pins hb0) (fun b hb=>t1.block b (Nat.lt_of_lt_of_le (own_lt HA.out.pins hb).2 hb0.size) (HL.out.2.2.1 b (by simp[hb])).1);have H1:Hid _:=And.intro k1 (And.intro t1 X1);clear k1 t1 x4 x5 x6 K0 X1
 go_wp2_with fail;refine(markPinW base (k+ks.length *3+refsN ks) _ ps w1 p1 (by omega) hc2).mono ?_;rintro e w2 ⟨rfl,p2,t2⟩;have hV2:∀b∈(Value.slice pa ps.length pc).ownBlock.toList,b∈blks (.slice ta ks.length tc) (.slice pa ps.length pc) (.slice la ls.length lc) rs:=fun b hb=>by
  unfold blks;exact List.mem_append_right _ (List.mem_append_left _ hb)
 have X2:=hbx t2 hV2 H1.out.2.1.size H1.out.2.2;have X2c:=X2;obtain⟨_,_,_,_,_,_,z6,_⟩:=X2c
 have l2:w2.ownsRow base 131 3 (.slice la ls.length lc) ls.length (rowC lC ls):=own_same (own_same (own_below HA.out.leases hb0) (fun b hb=>H1.out.2.1.block b (Nat.lt_of_lt_of_le (own_lt HA.out.leases hb).2 hb0.size) (HL.out.2.2.2 b (by simp[hb])).1)) (fun b hb=>t2.block b (Nat.lt_of_lt_of_le (Nat.lt_of_lt_of_le (own_lt HA.out.leases hb).2 hb0.size) H1.out.2.1.size) (HL.out.2.2.2 b (by simp[hb])).2)
 have H2:Hid _:=And.intro p2 (And.intro t2 X2);clear p2 t2 p1 y5 y6 X2;go_wp2_with fail;refine(markLeaseW base (k+ks.length *3+refsN ks+ps.length *2) _ ls w2 l2 (by omega) hc3).mono ?_;rintro e w3 ⟨rfl,l3,t3⟩;have hV3:∀b∈(Value.slice la ls.length lc).ownBlock.toList,b∈blks (.slice ta ks.length tc) (.slice pa ps.length pc) (.slice la ls.length lc) rs:=fun b hb=>by
  unfold blks;exact List.mem_append_right _ (List.mem_append_right _ (List.mem_append_left _ hb))
 have H3:Hid _:=And.intro l3 t3;clear l3 t3 l2 z6;go_wp2;go_ret;obtain⟨k1,t1,_⟩:=H1.out;obtain⟨p2,t2,_⟩:=H2.out;obtain⟨l3,t3⟩:=H3.out;have hW1:=t1.size;have hW2:=t2.size
 refine⟨by rw[show k+cntS ks ps ls=k+ks.length *3+refsN ks+ps.length *2+ls.length *3 by unfold cntS;omega];rfl,⟨by rw[markK_length];exact HA.out.len,?_,?_,?_,?_,HA.out.nd⟩,(((Tn.of hb0).trans (t1.mono hV1)).trans (t2.mono hV2)).trans (t3.mono hV3)⟩
 ·exact own_same (own_same k1.things (fun b hb=>t2.block b (own_lt k1.things hb).2 (HL.out.2.1 b (by simp[hb])).1)) (fun b hb=>t3.block b (Nat.lt_of_lt_of_le (own_lt k1.things hb).2 hW2) (HL.out.2.1 b (by simp[hb])).2)
 ·intro i x r hx hr
  have ho:=k1.refs i x r hx hr;have hm:∀b,r.ownBlock=some b->b∈(Value.slice ta ks.length tc).ownBlock.toList++rs.filterMap Value.ownBlock:=fun b hb=>List.mem_append_right _ (List.mem_filterMap.2 ⟨r,List.mem_of_getElem? hr,hb⟩)
  exact own_same (own_same ho (fun b hb=>t2.block b (own_lt ho hb).2 (HL.out.2.1 b (hm b hb)).1)) (fun b hb=>t3.block b (Nat.lt_of_lt_of_le (own_lt ho hb).2 hW2) (HL.out.2.1 b (hm b hb)).2)
 ·rw[markP_length]
  exact own_same p2 (fun b hb=>t3.block b (own_lt p2 hb).2 (HL.out.2.2.1 b (by simp[hb])).2)
 ·rw[markL_length]
  exact l3
theorem SAns.below {w w':World} {base:Nat} {T P L:Value} {rs:List Value} {ks:List Kd} {ps:List Pd} {ls:List Ld} (h:SAns w base T P L rs ks ps ls) (hb:Below w.heap.size w w'):SAns w' base T P L rs ks ps ls:=
 ⟨h.len,own_below h.things hb,fun i k r hk hr=>own_below (h.refs i k r hk hr) hb,own_below h.pins hb,own_below h.leases hb,h.nd⟩
set_option maxRecDepth 20000 in
set_option maxHeartbeats 2000000 in
theorem heldStateX (wd now given births:Int) (base k:Nat) (T P L:Value) (rs:List Value) (ks:List Kd) (ps:List Pd) (ls:List Ld) (w:World) (h:SAns w base T P L rs (markK k ks) (markP (k+ks.length *3+refsN ks) ps) (markL (k+ks.length *3+refsN ks+ps.length *2) ls)) (hk:1<=k) (hkn:k+cntS ks ps ls<=100000000):
 Calls Tryz.prog 53 #[.agg #[.int .i64 wd,.int .i64 now,.int .i64 given,.int .i64 births,T,P,L],.int .i64 k] w fun e w'=>e=.returned (.int .i64 (k+cntS ks ps ls:Nat))/\Below w.heap.size w w':=by
 have hb0:Below w.heap.size w (w.alloc (.cells #[.int .i64 wd,.int .i64 now,.int .i64 given,.int .i64 births,T,P,L] 38)):=(Below.refl _ _).alloc (Nat.le_refl _) _;have hx:=SBox.new w wd now given births T P L 38;obtain⟨W,hW⟩:∃W,W=w.alloc (.cells #[.int .i64 wd,.int .i64 now,.int .i64 given,.int .i64 births,T,P,L] 38):=⟨_,rfl⟩;rw[←hW] at hb0 hx;obtain⟨ta,tc,rfl⟩:=own_val h.things
 obtain⟨pa,pc,rfl⟩:=own_val h.pins;obtain⟨la,lc,rfl⟩:=own_val h.leases;have HA:Hid _:=h.below hb0;have HW:Hid _:=hW;have HX:Hid _:=hx;have hc1:k+ks.length *3+refsN ks<=100000000:=by unfold cntS at hkn;omega
 have hc2:k+ks.length *3+refsN ks+ps.length *2<=100000000:=by unfold cntS at hkn;omega
 have hc3:k+ks.length *3+refsN ks+ps.length *2+ls.length *3<=100000000:=by unfold cntS at hkn;omega
 obtain⟨x0,x1,x2,x3,x4,x5,x6,x7⟩:=hx;clear h hW x0 x1 x2 x3 hkn;go_enter Tryz.func53,Tryz.ntmps53;go_upto_region 1 with fail;rw[←HW.out];clear HW;go_wp2_with fail;refine(heldKeptW base k _ rs ks W HA.out.kans hk hc1).mono ?_;rintro e w1 ⟨rfl,hb1⟩;have X1:=SBox.below HX.out hb1;obtain⟨_,_,_,_,_,y5,y6,_⟩:=X1;have p1:=own_below HA.out.pins hb1;rw[markP_length] at p1
 have e1:¬(((k+ks.length *3+refsN ks:Nat):Int)<0):=by omega
 clear x4 x5 x6;rw[markP_length] at *
 go_wp2_with fail;refine(heldPinW base (k+ks.length *3+refsN ks) _ ps w1 p1 (by omega) hc2).mono ?_;rintro e w2 ⟨rfl,hb2⟩;have X2:=SBox.below (SBox.below HX.out hb1) hb2;obtain⟨_,_,_,_,_,_,z6,_⟩:=X2;have l2:=own_below (own_below HA.out.leases hb1) hb2;rw[markL_length] at *
 have e2:¬(((k+ks.length *3+refsN ks+ps.length *2:Nat):Int)<0):=by omega
 clear y5 y6 p1;go_wp2_with fail;refine(heldLeaseW base (k+ks.length *3+refsN ks+ps.length *2) _ ls w2 l2 (by omega) hc3).mono ?_;rintro e w3 ⟨rfl,hb3⟩;have e3:¬(((k+ks.length *3+refsN ks+ps.length *2+ls.length *3:Nat):Int)<0):=by omega
 clear z6 l2;go_wp2;go_ret;exact⟨by rw[show k+cntS ks ps ls=k+ks.length *3+refsN ks+ps.length *2+ls.length *3 by unfold cntS;omega];rfl,((hb0.trans (hb1.mono hb0.size)).trans (hb2.mono (Nat.le_trans hb0.size hb1.size))).trans (hb3.mono (Nat.le_trans (Nat.le_trans hb0.size hb1.size) hb2.size))⟩
end Go.Proofs.YthkmpihfhkmaoaaGreatDoor
namespace Go.Proofs.YthkmpihfhkmaoaaGreatDoor
open Go.ChangeShapes Go.WideShapes Go.ChangeAt Go.RowKit
set_option maxRecDepth 20000 in
set_option maxHeartbeats 2000000 in
theorem markChangedX (code wd now given births le:Int) (sm aa bb:ByteArray) (base k:Nat) (T P L:Value) (rs:List Value) (ks:List Kd) (ps:List Pd) (ls:List Ld) (w:World) (h:SAns w base T P L rs ks ps ls) (hk:1<=k) (hkn:k+cntS ks ps ls<=100000000):
 Calls Tryz.prog 17 #[.agg #[.int .i64 code,.int .i64 wd,.int .i64 now,.int .i64 given,.int .i64 births,T,P,L,.string sm,.int .i64 le,.string aa,.string bb],.int .i64 k] w fun e w'=>e=.returned (.int .i64 (k+cntS ks ps ls:Nat))/\SAns w' base T P L rs (markK k ks) (markP (k+ks.length *3+refsN ks) ps) (markL (k+ks.length *3+refsN ks+ps.length *2) ls)/\Tn (blks T P L rs) w w':=by
 obtain⟨ta,tc,rfl⟩:=own_val h.things;obtain⟨pa,pc,rfl⟩:=own_val h.pins;obtain⟨la,lc,rfl⟩:=own_val h.leases;obtain⟨W,hW⟩:∃W,W=w.alloc (.cells #[.int .i64 code,.int .i64 wd,.int .i64 now,.int .i64 given,.int .i64 births,.slice ta ks.length tc,.slice pa ps.length pc,.slice la ls.length lc,.string sm,.int .i64 le,.string aa,.string bb] 40):=⟨_,rfl⟩
 have hb:Below w.heap.size w W:=by rw[hW];exact(Below.refl _ _).alloc (Nat.le_refl _) _
 have hz:CellsAt W w.heap.size [.int .i64 code,.int .i64 wd,.int .i64 now,.int .i64 given,.int .i64 births,.slice ta ks.length tc,.slice pa ps.length pc,.slice la ls.length lc,.string sm,.int .i64 le,.string aa,.string bb]:=by rw[hW];exact CellsAt.new w _ _
 have HB:Hid (Below w.heap.size w W):=hb;have HM:Hid _:=markStateX wd now given births base k _ _ _ rs ks ps ls W (h.below hb) hk hkn;obtain⟨c1,_⟩:=hz 1 _ rfl;obtain⟨c2,_⟩:=hz 2 _ rfl;obtain⟨c3,_⟩:=hz 3 _ rfl;obtain⟨c4,_⟩:=hz 4 _ rfl;obtain⟨c5,_⟩:=hz 5 _ rfl;obtain⟨c6,_⟩:=hz 6 _ rfl;obtain⟨c7,_⟩:=hz 7 _ rfl;have HW:Hid _:=hW;clear h hW hz hb;go_enter Tryz.func17,Tryz.ntmps17
 go_upto_region 1 with fail;rw[←HW.out];clear HW;go_wp2_with fail;refine Calls.mono HM.out ?_;rintro e w1 ⟨rfl,h1,h2⟩;have H1:Hid _:=And.intro h1 h2;clear h1 h2 HM c1 c2 c3 c4 c5 c6 c7;go_wp2;go_ret;exact⟨rfl,H1.out.1,(Tn.of HB.out).trans H1.out.2⟩
set_option maxRecDepth 20000 in
set_option maxHeartbeats 2000000 in
theorem heldChangedX (code wd now given births le:Int) (sm aa bb:ByteArray) (base k:Nat) (T P L:Value) (rs:List Value) (ks:List Kd) (ps:List Pd) (ls:List Ld) (w:World) (h:SAns w base T P L rs (markK k ks) (markP (k+ks.length *3+refsN ks) ps) (markL (k+ks.length *3+refsN ks+ps.length *2) ls)) (hk:1<=k) (hkn:k+cntS ks ps ls<=100000000):
 Calls Tryz.prog 18 #[.agg #[.int .i64 code,.int .i64 wd,.int .i64 now,.int .i64 given,.int .i64 births,T,P,L,.string sm,.int .i64 le,.string aa,.string bb],.int .i64 k] w fun e w'=>e=.returned (.int .i64 (k+cntS ks ps ls:Nat))/\Below w.heap.size w w':=by
 obtain⟨ta,tc,rfl⟩:=own_val h.things;obtain⟨pa,pc,rfl⟩:=own_val h.pins;obtain⟨la,lc,rfl⟩:=own_val h.leases;have hst:=h;rw[markK_length,markP_length,markL_length] at hst ⊢
 obtain⟨W,hW⟩:∃W,W=w.alloc (.cells #[.int .i64 code,.int .i64 wd,.int .i64 now,.int .i64 given,.int .i64 births,.slice ta ks.length tc,.slice pa ps.length pc,.slice la ls.length lc,.string sm,.int .i64 le,.string aa,.string bb] 40):=⟨_,rfl⟩;have hb:Below w.heap.size w W:=by rw[hW];exact(Below.refl _ _).alloc (Nat.le_refl _) _
 have hz:CellsAt W w.heap.size [.int .i64 code,.int .i64 wd,.int .i64 now,.int .i64 given,.int .i64 births,.slice ta ks.length tc,.slice pa ps.length pc,.slice la ls.length lc,.string sm,.int .i64 le,.string aa,.string bb]:=by rw[hW];exact CellsAt.new w _ _
 have HB:Hid (Below w.heap.size w W):=hb;have HM:Hid _:=heldStateX wd now given births base k _ _ _ rs ks ps ls W (hst.below hb) hk hkn;obtain⟨c1,_⟩:=hz 1 _ rfl;obtain⟨c2,_⟩:=hz 2 _ rfl;obtain⟨c3,_⟩:=hz 3 _ rfl;obtain⟨c4,_⟩:=hz 4 _ rfl;obtain⟨c5,_⟩:=hz 5 _ rfl;obtain⟨c6,_⟩:=hz 6 _ rfl;obtain⟨c7,_⟩:=hz 7 _ rfl;have HW:Hid _:=hW;have e1:¬(((k+cntS ks ps ls:Nat):Int)<0):=by omega
 clear h hst hW hz hb;go_enter Tryz.func18,Tryz.ntmps18;go_upto_region 1 with fail;rw[←HW.out];clear HW;go_wp2_with fail;refine Calls.mono HM.out ?_;rintro e w1 ⟨rfl,h1⟩;have H1:Hid (Below w.heap.size w w1):=HB.out.trans (h1.mono HB.out.size);clear h1 HM c1 c2 c3 c4 c5 c6 c7;go_wp2;go_ret;exact⟨rfl,H1.out⟩
end Go.Proofs.YthkmpihfhkmaoaaGreatDoor
