import Derived.Test.YtpekbmegopfhfaaGreatDoorK02
import Derived.Deep.Upon
set_option maxRecDepth 100000
set_option maxHeartbeats 16000000
namespace Go.Proofs.YtpekbmegopfhfaaGreatDoor
open Go.ChangeShapes Go.WideShapes Go.ChangeAt Go.RowKit _root_.Go.Proofs.Tryz
def Aj (s:ByteArray):List Value:=(CF s).toList
theorem OZ (s:ByteArray) (j:Nat) (h:j<8):(Aj s)[j]?=some (.int .u8 (kB s j)):=by
 match j,h with
 |0,_|1,_|2,_|3,_|4,_|5,_|6,_|7,_=>rfl
def AM (ss:List ByteArray):List Value:=ss.flatMap Aj
theorem EM (ss:List ByteArray):(AM ss).length=ss.length *8:=by
 induction ss with
 |nil=>rfl
 |cons s ss ih=>
  have:(Aj s).length=8:=rfl;unfold AM at *
  rw[List.flatMap_cons,List.length_append,ih,List.length_cons,this];omega
theorem FN {ss:List ByteArray} {i j:Nat} {s:ByteArray} (h:ss[i]?=some s) (hj:j<8):(AM ss)[i *8+j]?=some (.int .u8 (kB s j)):=by
 induction ss generalizing i with
 |nil=>simp at h
 |cons t ss ih=>
  have h8:(Aj t).length=8:=rfl;unfold AM at *
  rw[List.flatMap_cons];cases i with
  |zero=>
   simp at h;subst h;rw[List.getElem?_append_left (by omega),Nat.zero_mul,Nat.zero_add];exact OZ t j hj
  |succ i=>
   rw[List.getElem?_append_right (by omega),h8,show(i+1) *8+j -8=i *8+j by omega];exact ih (by simpa using h)
theorem JD {ss:List ByteArray} {k:Nat} {u:Value} (h:(AM ss)[k]?=some u):∃s,ss[k/8]?=some s/\u=.int .u8 (kB s (k%8)):=by
 have hk:k<ss.length *8:=by rw[←EM];exact(XC h).1
 have hi:k/8<ss.length:=by omega
 refine⟨ss[k/8],XD hi,?_⟩;have:=FN (j:=k%8) (XD hi) (Nat.mod_lt _ (by decide));rw[show k/8 *8+k%8=k by omega,h] at this;exact Option.some.inj this
theorem Hy (a b:List ByteArray):AM (a++b)=AM a++AM b:=by unfold AM;rw[List.flatMap_append]
theorem Dt (ss:List ByteArray):∀u∈AM ss,u.oneCell'=true:=by
 intro u hu;obtain⟨k,hk⟩:=List.getElem?_of_mem hu;obtain⟨s,_,rfl⟩:=JD hk;rfl
def R8 (w:World) (B:Nat) (v:Value) (ss:List ByteArray):Prop:=
 (v=XN/\ss=[])∨∃g off cap,v=.slice (some ⟨g,off,none⟩) ss.length cap/\g<B/\∀i s,ss[i]?=some s->∀j,j<8->w.cell? (XL g (off+(i *8+j)))=some (.int .u8 (kB s j))
def WA (w:World) (g:Nat):Prop:=∃cur fz,w.heap[g]?=some (.cells cur 139 fz)
def WB (w:World) (base:Nat) (v:Value) (ss:List ByteArray):Prop:=
 (v=XN/\ss=[])∨∃g off cap,v=.slice (some ⟨g,off,none⟩) ss.length cap/\base<=g/\WA w g/\ss.length<=cap/\cap<=maxLen/\
   (∀j,j<cap *8->(w.cell? (XL g (off+j))).isSome=true/\w.frozen? ⟨g,off+j,none⟩=false)/\
   ∀i s,ss[i]?=some s->∀j,j<8->w.cell? (XL g (off+(i *8+j)))=some (.int .u8 (kB s j))
def AD:Value->Option Nat
 |.slice (some a) _ _=>some a.block
 |_=>none
theorem R8.cells {w:World} {g off:Nat} {ss:List ByteArray} (hc:∀i s,ss[i]?=some s->∀j,j<8->w.cell? (XL g (off+(i *8+j)))=some (.int .u8 (kB s j))):∀j u,(AM ss)[j]?=some u->w.cell? ((⟨g,off,none⟩:Addr).add j)=some u:=by
 intro j u hu;obtain⟨s,hs,rfl⟩:=JD hu;have:=hc _ s hs (j%8) (Nat.mod_lt _ (by decide));rw[show j/8 *8+j%8=j by omega] at this;rw[Go.WideShapes.add_plain];exact this
theorem Kt:(prog.info? 139).map (fun i=>(i.zero,i.size,i.bytes))=some (some (.agg #[.int .u8 0,.int .u8 0,.int .u8 0,.int .u8 0,.int .u8 0,.int .u8 0,.int .u8 0,.int .u8 0]),8,8):=by kernel_rfl
theorem KV (b:Nat):∀(vs:List Value) (o:Nat) (w:World),(w.setCells b o vs).heap.size=w.heap.size
 |[],_,_=>rfl
 |_::r,o,w=>by rw[World.setCells,KV b r];simp
theorem wpList_append_run {P:Program} {w:World} {ops:Array Oper} {rest:List Oper} {o:Oper} {a:Act} {Q:Exit->Act->World->Prop} (zA:o.guard=none) (s x:Operand) (t u:TypeId)
 (ho:o.op=.call {callee:=.builtin .append,args:= #[s,x],argTypes:= #[t,u]}) {v xv v':Value} {w':World} (hs:a.eval s=v) (hx:a.eval x=xv)
 (hr:(Builtin.append_ #[t,u] o.type #[v,xv]).run P w=.ok v' w') (h:wpList P ops Q rest (a.put o.dst v') w'):wpList P ops Q (o::rest) a w:=by
 refine wpList_plain zA fun K hK=> ?_;unfold Oper.wp execOp;simp only[ho,resolve,invoke,builtin,Sem.run_bind,Sem.run_pure,Result.andThen_ok,List.map_toArray,List.map_cons,List.map_nil,hs,hx,hr];exact hK _ _ h
theorem BU {P:Program} {w:World} {ops:Array Oper} {o:Oper} {a:Act} {K:Act->World->Prop} {Q:Exit->Act->World->Prop} {E:Prop} (zA:o.guard=none) (s x:Operand) (t u:TypeId)
 (ho:o.op=.call {callee:=.builtin .append,args:= #[s,x],argTypes:= #[t,u]}) {v xv v':Value} {w':World} (hs:a.eval s=v) (hx:a.eval x=xv)
 (hr:(Builtin.append_ #[t,u] o.type #[v,xv]).run P w=.ok v' w') (h:K (a.put o.dst v') w'):
 if Region.wanted o (yielded ops a.tmps)=true then Oper.wp P o a w K Q else E:=by
 have hw:Region.wanted o (yielded ops a.tmps)=true:=by simp[Region.wanted,zA]
 rw[if_pos hw];unfold Oper.wp execOp;simp only[ho,resolve,invoke,builtin,Sem.run_bind,Sem.run_pure,Result.andThen_ok,List.map_toArray,List.map_cons,List.map_nil,hs,hx,hr];exact h
structure Mp (ks:List Kd):Prop where
 len:ks.length<=maxLen
 sum:∀k∈ks,k.sum.size<=maxLen
 text:∀k∈ks,k.text.size<=maxLen
 refs:∀k∈ks,k.refs.length<=maxLen
 ref:∀k∈ks,∀s∈k.refs,s.size<=maxLen
structure Mq (ps:List Pd):Prop where
 len:ps.length<=maxLen
 name:∀p∈ps,p.name.size<=maxLen
 sum:∀p∈ps,p.sum.size<=maxLen
structure Mr (ls:List Ld):Prop where
 len:ls.length<=maxLen
 sum:∀l∈ls,l.sum.size<=maxLen
theorem QD (p:Pd) (left:Int) (w:World) (h0:p.name.size<=maxLen) (ht:p.sum.size<=maxLen) (h1:0<=left) (h2:left<=1048576):
 Calls prog 144 #[.agg #[.string p.name,.string p.sum],XJ left] w fun e w'=>∃r:Int,e=.returned (XJ r)/\Xz w w'/\r<=left:=by
 have hb:Below w.heap.size w (w.alloc (.cells #[.string p.name,.string p.sum] 196)):=XA;unfold maxLen at h0 ht;by_cases hn:left<p.name.size
 ·go_enter func144,ntmps144
  go_wp2;go_ret;exact⟨_,rfl,hb,by omega⟩
 ·by_cases hm:left -p.name.size<p.sum.size
  ·go_enter func144,ntmps144
   go_wp2;go_ret;exact⟨_,rfl,hb,by omega⟩
  ·go_enter func144,ntmps144
   go_wp2;go_ret;exact⟨_,rfl,hb,by omega⟩
theorem Nx (l:Ld) (left:Int) (w:World) (h0:l.sum.size<=maxLen) (h1:0<=left) (h2:left<=1048576):
 Calls prog 145 #[.agg #[XJ l.num,.string l.sum,XJ l.til],XJ left] w fun e w'=>∃r:Int,e=.returned (XJ r)/\Xz w w'/\r<=left:=by
 have hb:Below w.heap.size w (w.alloc (.cells #[XJ l.num,.string l.sum,XJ l.til] 198)):=XA;unfold maxLen at h0;by_cases hn:left<l.sum.size
 ·go_enter func145,ntmps145
  go_wp2;go_ret;exact⟨_,rfl,hb,by omega⟩
 ·go_enter func145,ntmps145
  go_wp2;go_ret;exact⟨_,rfl,hb,by omega⟩
theorem Pa (a:Option Addr) (cap:Nat) (ps:List Pd) (left:Int) (w:World) (zC:AQ w w.heap.size a ps) (hm:Mq ps) (h1:0<=left) (h2:left<=1048576):
 Calls prog 112 #[.slice a ps.length cap,XJ left] w fun e w'=>∃r:Int,e=.returned (XJ r)/\Xz w w'/\r<=left/\(0<=r->ps.length<=1048576):=by
 have zE:=hm.len;unfold maxLen at zE;by_cases hn:left<ps.length
 ·go_enter func112,ntmps112
  go_wp2;go_ret;exact⟨_,rfl,Below.refl _ _,by omega,fun h=>by omega⟩
 ·go_enter func112,ntmps112
  go_wp2
  go_loopw [1,5] (fun l i wr=>∃(k:Nat) (L:Int),k<=ps.length/\i=XJ k/\l=XJ L/\0<=L/\L<=left/\Xz w wr) (fun _ i _=>ps.length -(intOf i).toNat)
  case atStart=>exact⟨0,_,Nat.zero_le _,rfl,rfl,by omega,by omega,Below.refl _ _⟩
  case round=>
   obtain⟨k,L,hk,rfl,rfl,zG,hL,zA⟩:=hrel;by_cases hlt:k<ps.length
   ·obtain⟨b,off,ha,hb,hc⟩:=(zC.below zA).at hlt
    subst ha;have hg:=XD hlt;have zB:=List.getElem_mem hlt;obtain⟨c0,c1⟩:=hc k _ hg;have m0:=hm.name _ zB;have m1:=hm.sum _ zB;clear hc zC hm zB hg;generalize ps[k]=x at *
    go_wp2_with fail;refine(QD x L wr m0 m1 (by omega) (by omega)).mono ?_;rintro e w1 ⟨r,rfl,zF,hr⟩;have hB:=zA.trans (zF.mono zA.size);by_cases h3:r<0
    ·go_wp2
     go_ret;exact⟨_,rfl,hB,by omega,fun h=>by omega⟩
    ·go_wp2
     exact⟨⟨k+1,_,by omega,by go_num,rfl,by omega,by omega,hB⟩,by simp[intOf];omega⟩
   ·go_wp2
    go_ret;exact⟨_,rfl,zA,by omega,fun _=>by omega⟩
theorem Ms (a:Option Addr) (cap:Nat) (ls:List Ld) (left:Int) (w:World) (zC:AR w w.heap.size a ls) (hm:Mr ls) (h1:0<=left) (h2:left<=1048576):
 Calls prog 113 #[.slice a ls.length cap,XJ left] w fun e w'=>∃r:Int,e=.returned (XJ r)/\Xz w w'/\r<=left/\(0<=r->ls.length<=1048576):=by
 have zE:=hm.len;unfold maxLen at zE;by_cases hn:left<ls.length
 ·go_enter func113,ntmps113
  go_wp2;go_ret;exact⟨_,rfl,Below.refl _ _,by omega,fun h=>by omega⟩
 ·go_enter func113,ntmps113
  go_wp2
  go_loopw [1,5] (fun l i wr=>∃(k:Nat) (L:Int),k<=ls.length/\i=XJ k/\l=XJ L/\0<=L/\L<=left/\Xz w wr) (fun _ i _=>ls.length -(intOf i).toNat)
  case atStart=>exact⟨0,_,Nat.zero_le _,rfl,rfl,by omega,by omega,Below.refl _ _⟩
  case round=>
   obtain⟨k,L,hk,rfl,rfl,zG,hL,zA⟩:=hrel;by_cases hlt:k<ls.length
   ·obtain⟨b,off,ha,hb,hc⟩:=(zC.below zA).at hlt
    subst ha;have hg:=XD hlt;have zB:=List.getElem_mem hlt;obtain⟨c0,c1,c2⟩:=hc k _ hg;have m0:=hm.sum _ zB;clear hc zC hm zB hg;generalize ls[k]=x at *
    go_wp2_with fail;refine(Nx x L wr m0 (by omega) (by omega)).mono ?_;rintro e w1 ⟨r,rfl,zF,hr⟩;have hB:=zA.trans (zF.mono zA.size);by_cases h3:r<0
    ·go_wp2
     go_ret;exact⟨_,rfl,hB,by omega,fun h=>by omega⟩
    ·go_wp2
     exact⟨⟨k+1,_,by omega,by go_num,rfl,by omega,by omega,hB⟩,by simp[intOf];omega⟩
   ·go_wp2
    go_ret;exact⟨_,rfl,zA,by omega,fun _=>by omega⟩
def AT (w:World) (b:Nat) (wd now given births:Int) (T P L:Value):Prop:=
 w.cell? (XL b 0)=some (XJ wd)/\w.cell? (XL b 1)=some (XJ now)/\w.cell? (XL b 2)=some (XJ given)/\w.cell? (XL b 3)=some (XJ births)/\
  w.cell? (XL b 4)=some T/\w.cell? (XL b 5)=some P/\w.cell? (XL b 6)=some L/\b<w.heap.size
theorem AT.new (w:World) (wd now given births:Int) (T P L:Value) (t:TypeId):AT (w.alloc (.cells #[XJ wd,XJ now,XJ given,XJ births,T,P,L] t)) w.heap.size wd now given births T P L:=
 ⟨by simp,by simp,by simp,by simp,by simp,by simp,by simp,by simp⟩
theorem AT.keep {w w':World} {b B:Nat} {wd now given births:Int} {T P L:Value} (h:AT w b wd now given births T P L) (hb:Below B w w') (hB:b<B):AT w' b wd now given births T P L:=by
 obtain⟨h0,h1,h2,h3,h4,h5,h6,h7⟩:=h;exact⟨(hb.cell (p:=⟨b,0,none⟩) hB).trans h0,(hb.cell (p:=⟨b,1,none⟩) hB).trans h1,(hb.cell (p:=⟨b,2,none⟩) hB).trans h2,(hb.cell (p:=⟨b,3,none⟩) hB).trans h3,
  (hb.cell (p:=⟨b,4,none⟩) hB).trans h4,(hb.cell (p:=⟨b,5,none⟩) hB).trans h5,(hb.cell (p:=⟨b,6,none⟩) hB).trans h6,XH h7 hb.size⟩
theorem AT.below {w w':World} {b:Nat} {wd now given births:Int} {T P L:Value} (h:AT w b wd now given births T P L) (hb:Xz w w'):AT w' b wd now given births T P L:=h.keep hb h.2.2.2.2.2.2.2
structure Bt (w:World) (B:Nat) (a p l:Option Addr) (ks:List Kd) (ps:List Pd) (ls:List Ld):Prop where
 k:Bx w B a ks
 p:AQ w B p ps
 l:AR w B l ls
theorem Bt.below' {w w':World} {a p l:Option Addr} {ks:List Kd} {ps:List Pd} {ls:List Ld} (h:Bt w w.heap.size a p l ks ps ls) (hb:Xz w w'):Bt w' w'.heap.size a p l ks ps ls:=
 ⟨(h.k.below hb).mono hb.size,(h.p.below hb).mono hb.size,(h.l.below hb).mono hb.size⟩
theorem Bt.keep {w w':World} {B:Nat} {a p l:Option Addr} {ks:List Kd} {ps:List Pd} {ls:List Ld} (h:Bt w B a p l ks ps ls) (hb:Below B w w'):Bt w' B a p l ks ps ls:=
 ⟨h.k.below hb,h.p.below hb,h.l.below hb⟩
theorem Bt.mono {w:World} {B B':Nat} {a p l:Option Addr} {ks:List Kd} {ps:List Pd} {ls:List Ld} (h:Bt w B a p l ks ps ls) (hb:B<=B'):Bt w B' a p l ks ps ls:=
 ⟨h.k.mono hb,h.p.mono hb,h.l.mono hb⟩
structure Pb (ks:List Kd) (ps:List Pd) (ls:List Ld):Prop where
 k:ks.length<=1048576
 r:∀k∈ks,k.refs.length<=1048576
 p:ps.length<=1048576
 l:ls.length<=1048576
def DF (w:World) (lo g c:Nat) (rs:List ByteArray):Prop:=w.ownsRow lo 9 1 (.slice (some ⟨g,0,none⟩) rs.length c) rs.length (rs.map Value.string)
theorem Pc (k:Kd) (a:Option Addr) (cap:Nat) (w:World) (zA:Ae w w.heap.size a k.refs) (hl:k.refs.length<=1048576):
 Calls prog 146 #[.agg #[.string k.sum,XJ k.born,.string k.text,.slice a k.refs.length cap]] w fun e w'=>∃g,e=.returned (.agg #[.string k.sum,XJ k.born,.string k.text,.slice (some ⟨g,0,none⟩) k.refs.length k.refs.length])/\
  DF w' w.heap.size g k.refs.length k.refs/\Xz w w':=by
 go_enter func146,ntmps146;go_wp2_with fail;refine(Nr k.text a cap k.refs _ (zA.below' (((XA).alloc (by simp) _).alloc (by simp;omega) _)) hl).mono ?_;rintro e w1 ⟨g,rfl,hg,zB,hb⟩;obtain⟨hc,hf⟩:=IE hb;have hz:=hb.size;simp at hz hg;go_wp2
 refine bodyPost_ret (v:=.agg #[.string k.sum,XJ k.born,.string k.text,.slice (some ⟨g,0,none⟩) k.refs.length k.refs.length]) (by simp[results,results146,go_sem,hc]) rfl ⟨g,rfl,?_,?_⟩
 ·exact(ownsRow_setCell_below (ownsRow_setCell_below (ownsRow_setCell_below (ownsRow_setCell_below (ownsRow_setCell_below (ownsRow_setCell_below zB (by simp) _) (by simp) _) (by simp) _) (by simp) _) (by simp) _) (by simp) _).mono (by simp;omega)
 ·exact(((((((XA).alloc (by simp) _).alloc (by simp;omega) _).trans (hb.mono (by simp;omega))).setCell (by simp;omega) _|>.setCell (by simp;omega) _|>.setCell (by simp) _|>.setCell (by simp) _|>.setCell (by simp) _|>.setCell (by simp) _)))
def DN (w:World) (lo:Nat) (xs:List Value) (i:Nat) (x:Kd):Prop:=
 xs[i *4]?=some (.string x.sum)/\xs[i *4+1]?=some (XJ x.born)/\xs[i *4+2]?=some (.string x.text)/\
  ∃g,xs[i *4+3]?=some (.slice (some ⟨g,0,none⟩) x.refs.length x.refs.length)/\DF w lo g x.refs.length x.refs
theorem Gc:(prog.info? 114).map (fun i=>(i.zero,i.size,i.bytes))=some (some (.agg #[XM,XK,XM,XN]),4,64):=by kernel_rfl
theorem DF.keep {w w':World} {lo g c:Nat} {rs:List ByteArray} (h:DF w lo g c rs) (hb:Xz w w'):DF w' lo g c rs:=
 World.ownsRow.kept h (row:=none) ⟨hb.os,hb.tape,hb.output,hb.size,fun k hk _=>hb.block k hk⟩ (.inr (by simp[Value.ownBlock]))
theorem DN.keep {w w':World} {lo i:Nat} {xs:List Value} {x:Kd} (h:DN w lo xs i x) (hb:Xz w w'):DN w' lo xs i x:=by
 obtain⟨h0,h1,h2,g,h3,h4⟩:=h;exact⟨h0,h1,h2,g,h3,h4.keep hb⟩
theorem DN.set4 {w w':World} {lo i j:Nat} {xs:List Value} {x:Kd} (h:DN w lo xs i x) (zA:i<j) (u0 u1 u2 u3:Value) (hw:∀g c rs,DF w lo g c rs->DF w' lo g c rs):
 DN w' lo ((((xs.set (j *4) u0).set (j *4+1) u1).set (j *4+2) u2).set (j *4+3) u3) i x:=by
 obtain⟨h0,h1,h2,g,h3,h4⟩:=h;refine⟨?_,?_,?_,g,?_,hw _ _ _ h4⟩
 all_goals
  rw[List.getElem?_set_ne (by omega),List.getElem?_set_ne (by omega),List.getElem?_set_ne (by omega),List.getElem?_set_ne (by omega)];assumption
theorem DN.new4 {w:World} {lo j g:Nat} {xs:List Value} (x:Kd) (hl:j *4+3<xs.length) (ho:DF w lo g x.refs.length x.refs):
 DN w lo ((((xs.set (j *4) (.string x.sum)).set (j *4+1) (XJ x.born)).set (j *4+2) (.string x.text)).set (j *4+3) (.slice (some ⟨g,0,none⟩) x.refs.length x.refs.length)) j x:=by
 refine⟨?_,?_,?_,g,?_,ho⟩
 ·rw[List.getElem?_set_ne (by omega),List.getElem?_set_ne (by omega),List.getElem?_set_ne (by omega),List.getElem?_set_self (by omega)]
 ·rw[List.getElem?_set_ne (by omega),List.getElem?_set_ne (by omega),List.getElem?_set_self (by simp;omega)]
 ·rw[List.getElem?_set_ne (by omega),List.getElem?_set_self (by simp;omega)]
 ·rw[List.getElem?_set_self (by simp;omega)]
def Mt (xs:List Value) (n:Nat):Prop:=∀(i j q q' m c m' c':Nat),i<j->j<n->xs[i *4+3]?=some (.slice (some ⟨q,0,none⟩) m c)->xs[j *4+3]?=some (.slice (some ⟨q',0,none⟩) m' c')->q<q'
theorem Mt.set4 {xs:List Value} {k:Nat} (h:Mt xs k) (hl:k *4+3<xs.length) (u0 u1 u2:Value) (g m c:Nat) (hg:∀i q m c,i<k->xs[i *4+3]?=some (.slice (some ⟨q,0,none⟩) m c)->q<g):
 Mt ((((xs.set (k *4) u0).set (k *4+1) u1).set (k *4+2) u2).set (k *4+3) (.slice (some ⟨g,0,none⟩) m c)) (k+1):=by
 intro i j q q' m1 c1 m2 c2 zA hj h1 h2;rw[List.getElem?_set_ne (by omega),List.getElem?_set_ne (by omega),List.getElem?_set_ne (by omega),List.getElem?_set_ne (by omega)] at h1;rcases Nat.lt_or_ge j k with hk|hk
 ·rw[List.getElem?_set_ne (by omega),List.getElem?_set_ne (by omega),List.getElem?_set_ne (by omega),List.getElem?_set_ne (by omega)] at h2
  exact h i j q q' m1 c1 m2 c2 zA hk h1 h2
 ·obtain rfl:j=k:=by omega
  rw[List.getElem?_set_self (by simp;omega)] at h2;cases h2;exact hg i q m1 c1 zA h1
def Pe (w:World) (lo g:Nat) (ks:List Kd):Prop:=
 ∃xs,w.ownsRow lo 114 4 (.slice (some ⟨g,0,none⟩) ks.length ks.length) ks.length xs/\(∀i x,ks[i]?=some x->DN w (g+1) xs i x)/\Mt xs ks.length
theorem Ny (a:Option Addr) (cap:Nat) (ks:List Kd) (w:World) (zH:Bx w w.heap.size a ks) (hl:ks.length<=1048576) (zK:∀k∈ks,k.refs.length<=1048576):
 Calls prog 116 #[.slice a ks.length cap] w fun e w'=>∃g,e=.returned (.slice (some ⟨g,0,none⟩) ks.length ks.length)/\w.heap.size<=g/\Pe w' w.heap.size g ks/\Xz w w':=by
 obtain⟨i0,hi,zR,zO,zU⟩:=info_parts Gc;go_enter func116,ntmps116;go_wp2_with (at_make;refine wpList_make_full _ rfl _ _ 24 rfl w.heap.size 114 i0 _ 4 underlying24 hi zR zO .i64 .i64 _ _ ks.length rfl rfl rfl rfl ?c1 ?c2 ?c3 ?_)
 case c1=>rw[zU];omega
 case c2=>unfold maxLen;omega
 case c3=>exact XB
 intro w1 zA zC;have zG:Below w.heap.size w w1:=(Below.refl _ _).grown zC (XB) (by simp);have zV:w.heap.size<w1.heap.size:=(zA.lt _ rfl).2;generalize (madeCells _ _).toList=ys at zA;clear zC;go_wp2
 go_loopw [4] (fun i wr=>∃(k:Nat) (xs:List Value),k<=ks.length/\i=XJ k/\wr.ownsRow w.heap.size 114 4 (.slice (some ⟨w.heap.size,0,none⟩) ks.length ks.length) ks.length xs/\Hid (∀i,i<k->∀x,ks[i]?=some x->DN wr (w.heap.size+1) xs i x)/\Hid (Mt xs k)/\Xz w wr) (fun i _=>ks.length -(intOf i).toNat)
 case atStart=>exact⟨0,ys,Nat.zero_le _,rfl,zA,fun i h=>by omega,fun i j q q' m c m' c' h1 h2=>by omega,zG⟩
 case round=>
  obtain⟨k,xs,hk,rfl,zA,zE,zJ,zB⟩:=hrel;by_cases hlt:k<ks.length
  ·obtain⟨b,off,ha,hb,hc⟩:=zH.at hlt
   subst ha;have hg:ks[k]?=some ks[k]:=XD hlt;obtain⟨c0,c1,c2,ra,rc,c3,zN⟩:=(hc k _ hg).below zB hb;have zS:=zK _ (List.getElem_mem hlt);have zW:=(zA.lt _ rfl).2;have HO:Hid _:=zA;have HG:Hid _:=hg;clear hc zH hg zA zK;generalize ks[k]=x at *
   have zI:=Pc x ra rc wr (zN.mono zB.size) zS;have HC:Hid _:=zI;clear zI zN;go_wp2_with fail;refine Calls.mono HC.o ?_;rintro e w1 ⟨g,rfl,zM,zG⟩;have zF:=World.ownsRow.kept HO.o (Ax none zG) (.inr (by simp[Value.ownBlock]));have zX:=zF.1;have e0:w1.cell? (XL (w.heap.size) (k *4))=xs[k *4]?:=zF.cellAt _ (by omega);have e1:w1.cell? (XL (w.heap.size) (k *4+1))=xs[k *4+1]?:=zF.cellAt _ (by omega)
   have e2:w1.cell? (XL (w.heap.size) (k *4+2))=xs[k *4+2]?:=zF.cellAt _ (by omega);have e3:w1.cell? (XL (w.heap.size) (k *4+3))=xs[k *4+3]?:=zF.cellAt _ (by omega);rw[XD (by omega)] at e0 e1 e2 e3;have f:=zF.frozenAt;go_wp2;have zT:=zB.trans (zG.mono zB.size)
   refine⟨⟨k+1,((((xs.set (k *4) (.string x.sum)).set (k *4+1) (XJ x.born)).set (k *4+2) (.string x.text)).set (k *4+3) (.slice (some ⟨g,0,none⟩) x.refs.length x.refs.length)),by omega,by go_num,((((zF.stored (k *4) _).1.stored (k *4+1) _).1.stored (k *4+2) _).1.stored (k *4+3) _).1,?_,zJ.o.set4 (by omega) _ _ _ _ _ _ (fun i q m c hi hx=> ?_),?_⟩,by simp[intOf];omega⟩
   ·have hw:∀q c rs,DF w1 (w.heap.size+1) q c rs->DF ((((w1.setCell (XL (w.heap.size) (k *4)) (Value.string x.sum)).setCell (XL (w.heap.size) (k *4+1)) (Value.int IntKind.i64 x.born)).setCell (XL (w.heap.size) (k *4+2)) (Value.string x.text)).setCell (XL (w.heap.size) (k *4+3)) (Value.slice (some ⟨g,0,none⟩) x.refs.length x.refs.length)) (w.heap.size+1) q c rs:=
     fun q c rs h=>ownsRow_setCell_below (ownsRow_setCell_below (ownsRow_setCell_below (ownsRow_setCell_below h (by simp) _) (by simp) _) (by simp) _) (by simp) _
    intro i hi y hy;rcases Nat.lt_or_ge i k with h'|h'
    ·exact((zE i h' y hy).keep zG).set4 h' _ _ _ _ hw
    ·obtain rfl:i=k:=by omega
     rw[HG.o] at hy;cases hy;exact DN.new4 x (by omega) (hw _ _ _ (World.ownsRow.mono zM (by omega)))
   ·have zP:i<ks.length:=by omega
    obtain⟨_,_,_,q',h3,h4⟩:=zE i hi _ (XD zP);rw[hx] at h3;cases h3;have l1:=(World.ownsRow.lt h4 q rfl).2;have l2:=(World.ownsRow.lt zM g rfl).1;omega
   ·exact(((zT.setCell (by simp) _).setCell (by simp) _).setCell (by simp) _).setCell (by simp) _
  ·go_wp2
   go_ret;exact⟨_,rfl,XB,⟨xs,zA,fun i x hx=>zE i (by have:=(XC hx).1;omega) x hx,by have e:k=ks.length:=(by omega);rw[←e];exact zJ.o⟩,zB⟩
theorem FW:(prog.info? 134).map (fun i=>(i.zero,i.size,i.bytes))=some (some (.agg #[XM,XM]),2,32):=by kernel_rfl
theorem QE (x:Pd) (w:World):
 Calls prog 147 #[.agg #[.string x.name,.string x.sum]] w fun e w'=>e=.returned (.agg #[.string x.name,.string x.sum])/\Xz w w':=by
 go_enter func147,ntmps147;go_wp2;refine bodyPost_ret (v:=.agg #[.string x.name,.string x.sum]) (by simp[results,results147,go_sem]) rfl ⟨rfl,?_⟩;exact(((XA).alloc (by simp) _).alloc (by simp;omega) _)
def Pf (w:World) (lo g:Nat) (ps:List Pd):Prop:=
 ∃xs,w.ownsRow lo 134 2 (.slice (some ⟨g,0,none⟩) ps.length ps.length) ps.length xs/\∀i x,ps[i]?=some x->xs[i *2]?=some (.string x.name)/\xs[i *2+1]?=some (.string x.sum)
theorem Pg (a:Option Addr) (cap:Nat) (ps:List Pd) (w:World) (zG:AQ w w.heap.size a ps) (hl:ps.length<=1048576):
 Calls prog 117 #[.slice a ps.length cap] w fun e w'=>∃g,e=.returned (.slice (some ⟨g,0,none⟩) ps.length ps.length)/\w.heap.size<=g/\Pf w' w.heap.size g ps/\Xz w w':=by
 obtain⟨i0,hi,zJ,zI,zM⟩:=info_parts FW;go_enter func117,ntmps117;go_wp2_with (at_make;refine wpList_make_full _ rfl _ _ 25 rfl w.heap.size 134 i0 _ 2 underlying25 hi zJ zI .i64 .i64 _ _ ps.length rfl rfl rfl rfl ?c1 ?c2 ?c3 ?_)
 case c1=>rw[zM];omega
 case c2=>unfold maxLen;omega
 case c3=>exact XB
 intro w1 zA zC;have zH:=(Below.refl _ _).grown zC (XB) (by simp);have zN:=(zA.lt _ rfl).2;generalize (madeCells _ _).toList=ys at zA;clear zC;go_wp2
 go_loopw [4] (fun i wr=>∃(k:Nat) (xs:List Value),k<=ps.length/\i=XJ k/\wr.ownsRow w.heap.size 134 2 (.slice (some ⟨w.heap.size,0,none⟩) ps.length ps.length) ps.length xs/\Hid (∀i,i<k->∀x,ps[i]?=some x->xs[i *2]?=some (.string x.name)/\xs[i *2+1]?=some (.string x.sum))/\Xz w wr) (fun i _=>ps.length -(intOf i).toNat)
 case atStart=>exact⟨0,ys,Nat.zero_le _,rfl,zA,fun i h=>by omega,zH⟩
 case round=>
  obtain⟨k,xs,hk,rfl,zA,zE,zB⟩:=hrel;by_cases hlt:k<ps.length
  ·obtain⟨b,off,ha,hb,hc⟩:=(zG.below zB).at hlt
   subst ha;have hg:=XD hlt;obtain⟨c0,c1⟩:=hc k _ hg;have zO:=(zA.lt _ rfl).2;have HO:Hid _:=zA;have HG:Hid _:=hg;clear hc zG hg zA;generalize ps[k]=x at *
   go_wp2_with fail;refine(QE x wr).mono ?_;rintro e w1 ⟨rfl,zH⟩;have zF:=World.ownsRow.kept HO.o (Ax none zH) (.inr (by simp[Value.ownBlock]));have zP:=zF.1;have e0:w1.cell? (XL (w.heap.size) (k *2))=xs[k *2]?:=zF.cellAt _ (by omega);have e1:w1.cell? (XL (w.heap.size) (k *2+1))=xs[k *2+1]?:=zF.cellAt _ (by omega);rw[XD (by omega)] at e0 e1;have f:=zF.frozenAt;go_wp2
   have zK:=zB.trans (zH.mono zB.size);refine⟨⟨k+1,((xs.set (k *2) (.string x.name)).set (k *2+1) (.string x.sum)),by omega,by go_num,((zF.stored (k *2) _).1.stored (k *2+1) _).1,?_,((zK.setCell (by simp) _).setCell (by simp) _)⟩,by simp[intOf];omega⟩;intro i hi y hy;rcases Nat.lt_or_ge i k with h'|h'
   ·obtain⟨q0,q1⟩:=zE i h' y hy
    exact⟨(by rw[List.getElem?_set_ne (by omega),List.getElem?_set_ne (by omega)];exact q0),(by rw[List.getElem?_set_ne (by omega),List.getElem?_set_ne (by omega)];exact q1)⟩
   ·obtain rfl:i=k:=by omega
    rw[HG.o] at hy;cases hy;exact⟨(by rw[List.getElem?_set_ne (by omega),List.getElem?_set_self (by first|omega|(simp;omega))]),(by rw[List.getElem?_set_self (by first|omega|(simp;omega))])⟩
  ·go_wp2
   go_ret;exact⟨_,rfl,XB,⟨xs,zA,fun i x hx=>zE i (by have:=(XC hx).1;omega) x hx⟩,zB⟩
theorem FB:(prog.info? 137).map (fun i=>(i.zero,i.size,i.bytes))=some (some (.agg #[XK,XM,XK]),3,32):=by kernel_rfl
theorem Nz (x:Ld) (w:World):
 Calls prog 148 #[.agg #[XJ x.num,.string x.sum,XJ x.til]] w fun e w'=>e=.returned (.agg #[XJ x.num,.string x.sum,XJ x.til])/\Xz w w':=by
 go_enter func148,ntmps148;go_wp2;refine bodyPost_ret (v:=.agg #[XJ x.num,.string x.sum,XJ x.til]) (by simp[results,results148,go_sem]) rfl ⟨rfl,?_⟩;exact(((XA).alloc (by simp) _).alloc (by simp;omega) _)
def Ph (w:World) (lo g:Nat) (ls:List Ld):Prop:=
 ∃xs,w.ownsRow lo 137 3 (.slice (some ⟨g,0,none⟩) ls.length ls.length) ls.length xs/\∀i x,ls[i]?=some x->xs[i *3]?=some (XJ x.num)/\xs[i *3+1]?=some (.string x.sum)/\xs[i *3+2]?=some (XJ x.til)
theorem Mu (a:Option Addr) (cap:Nat) (ls:List Ld) (w:World) (zG:AR w w.heap.size a ls) (hl:ls.length<=1048576):
 Calls prog 118 #[.slice a ls.length cap] w fun e w'=>∃g,e=.returned (.slice (some ⟨g,0,none⟩) ls.length ls.length)/\w.heap.size<=g/\Ph w' w.heap.size g ls/\Xz w w':=by
 obtain⟨i0,hi,zJ,zI,zM⟩:=info_parts FB;go_enter func118,ntmps118;go_wp2_with (at_make;refine wpList_make_full _ rfl _ _ 26 rfl w.heap.size 137 i0 _ 3 underlying26 hi zJ zI .i64 .i64 _ _ ls.length rfl rfl rfl rfl ?c1 ?c2 ?c3 ?_)
 case c1=>rw[zM];omega
 case c2=>unfold maxLen;omega
 case c3=>exact XB
 intro w1 zA zC;have zH:Below w.heap.size w w1:=(Below.refl _ _).grown zC (XB) (by simp);have zN:w.heap.size<w1.heap.size:=(zA.lt _ rfl).2;generalize (madeCells _ _).toList=ys at zA;clear zC;go_wp2
 go_loopw [4] (fun i wr=>∃(k:Nat) (xs:List Value),k<=ls.length/\i=XJ k/\wr.ownsRow w.heap.size 137 3 (.slice (some ⟨w.heap.size,0,none⟩) ls.length ls.length) ls.length xs/\Hid (∀i,i<k->∀x,ls[i]?=some x->xs[i *3]?=some (XJ x.num)/\xs[i *3+1]?=some (.string x.sum)/\xs[i *3+2]?=some (XJ x.til))/\Xz w wr) (fun i _=>ls.length -(intOf i).toNat)
 case atStart=>exact⟨0,ys,Nat.zero_le _,rfl,zA,fun i h=>by omega,zH⟩
 case round=>
  obtain⟨k,xs,hk,rfl,zA,zF,zB⟩:=hrel;by_cases hlt:k<ls.length
  ·obtain⟨b,off,ha,hb,hc⟩:=(zG.below zB).at hlt
   subst ha;have hg:ls[k]?=some ls[k]:=XD hlt;obtain⟨c0,c1,c2⟩:=hc k _ hg;have zO:=(zA.lt _ rfl).2;have HO:Hid _:=zA;have HG:Hid _:=hg;clear hc zG hg zA;generalize ls[k]=x at *
   go_wp2_with fail;refine(Nz x wr).mono ?_;rintro e w1 ⟨rfl,zH⟩;have zE:=World.ownsRow.kept HO.o (Ax none zH) (.inr (by simp[Value.ownBlock]));have zP:=zE.1;have e0:w1.cell? (XL (w.heap.size) (k *3))=xs[k *3]?:=zE.cellAt _ (by omega);have e1:w1.cell? (XL (w.heap.size) (k *3+1))=xs[k *3+1]?:=zE.cellAt _ (by omega);have e2:w1.cell? (XL (w.heap.size) (k *3+2))=xs[k *3+2]?:=zE.cellAt _ (by omega)
   rw[XD (by omega)] at e0 e1 e2;have f:=zE.frozenAt;go_wp2;have zK:=zB.trans (zH.mono zB.size);refine⟨⟨k+1,(((xs.set (k *3) (XJ x.num)).set (k *3+1) (.string x.sum)).set (k *3+2) (XJ x.til)),by omega,by go_num,(((zE.stored (k *3) _).1.stored (k *3+1) _).1.stored (k *3+2) _).1,?_,(((zK.setCell (by simp) _).setCell (by simp) _).setCell (by simp) _)⟩,by simp[intOf];omega⟩;intro i hi y hy
   rcases Nat.lt_or_ge i k with h'|h'
   ·obtain⟨q0,q1,q2⟩:=zF i h' y hy
    exact⟨(by rw[List.getElem?_set_ne (by omega),List.getElem?_set_ne (by omega),List.getElem?_set_ne (by omega)];exact q0),(by rw[List.getElem?_set_ne (by omega),List.getElem?_set_ne (by omega),List.getElem?_set_ne (by omega)];exact q1),(by rw[List.getElem?_set_ne (by omega),List.getElem?_set_ne (by omega),List.getElem?_set_ne (by omega)];exact q2)⟩
   ·obtain rfl:i=k:=by omega
    rw[HG.o] at hy;cases hy;exact⟨(by rw[List.getElem?_set_ne (by omega),List.getElem?_set_ne (by omega),List.getElem?_set_self (by first|omega|(simp;omega))]),(by rw[List.getElem?_set_ne (by omega),List.getElem?_set_self (by first|omega|(simp;omega))]),(by rw[List.getElem?_set_self (by first|omega|(simp;omega))])⟩
  ·go_wp2
   go_ret;exact⟨_,rfl,XB,⟨xs,zA,fun i x hx=>zF i (by have:=(XC hx).1;omega) x hx⟩,zB⟩
structure WC (w:World) (lo g p l:Nat) (ks:List Kd) (ps:List Pd) (ls:List Ld):Prop where
 k:Pe w lo g ks
 p:Pf w lo p ps
 l:Ph w lo l ls
def Ab {A:Type} (c:A->List Value) (xs:List A):List Value:=xs.flatMap c
theorem Bo {A:Type} {c:A->List Value} {n:Nat} (h:∀x,(c x).length=n) (xs:List A):(Ab c xs).length=xs.length *n:=by
 unfold Ab;induction xs with
 |nil=>simp
 |cons x xs ih=>rw[List.flatMap_cons,List.length_append,ih,h,List.length_cons,Nat.add_mul];omega
theorem Bf {A:Type} (c:A->List Value) (xs ys:List A):Ab c (xs++ys)=Ab c xs++Ab c ys:=by unfold Ab;rw[List.flatMap_append]
theorem Bl {A:Type} {c:A->List Value} {n:Nat} (h:∀x,(c x).length=n):∀{xs:List A} {i j:Nat} {x:A},xs[i]?=some x->j<n->(Ab c xs)[i *n+j]?=(c x)[j]?
 |[],_,_,_,hx,_=>by simp at hx
 |y::ys,0,j,x,hx,hj=>by
  simp at hx;subst hx;show(y::ys|>.flatMap c)[_]?=_;rw[List.flatMap_cons,Nat.zero_mul,Nat.zero_add,List.getElem?_append_left (by rw[h];exact hj)]
 |y::ys,i+1,j,x,hx,hj=>by
  have zA:ys[i]?=some x:=by simpa using hx
  show(y::ys|>.flatMap c)[_]?=_;rw[List.flatMap_cons,List.getElem?_append_right (by rw[h,Nat.add_mul];omega),h,show(i+1) *n+j -n=i *n+j by rw[Nat.add_mul];omega];exact Bl h zA hj
theorem Oz {A:Type} {c:A->List Value} {n:Nat} (h:∀x,(c x).length=n) (hn:0<n) {xs:List A} {k:Nat} {u:Value} (hk:(Ab c xs)[k]?=some u):∃x,xs[k/n]?=some x/\(c x)[k%n]?=some u:=by
 have hl:=(XC hk).1;rw[Bo h] at hl;have hd:=Nat.div_lt_of_lt_mul (by rw[Nat.mul_comm];exact hl);refine⟨xs[k/n],XD hd,?_⟩;have:=Bl h (XD hd) (Nat.mod_lt k hn);rw[show k/n *n+k%n=k by rw[Nat.mul_comm];exact Nat.div_add_mod k n] at this;rw[←this];exact hk
theorem EZ {A:Type} {c:A->List Value} {n:Nat} (h:∀x,(c x).length=n) (xs:List A) (i:Nat) (hi:i<=xs.length):(Ab c xs).take (i *n)=Ab c (xs.take i):=by
 have h1:Ab c xs=Ab c (xs.take i)++Ab c (xs.drop i):=by rw[←Bf,List.take_append_drop]
 have h2:(Ab c (xs.take i)).length=i *n:=by rw[Bo h,List.length_take,Nat.min_eq_left hi]
 rw[h1,←h2,List.take_left]
theorem Ex {A:Type} {c:A->List Value} {n:Nat} (h:∀x,(c x).length=n) (xs:List A) (i:Nat) (hi:i<=xs.length):(Ab c xs).drop (i *n)=Ab c (xs.drop i):=by
 have h1:Ab c xs=Ab c (xs.take i)++Ab c (xs.drop i):=by rw[←Bf,List.take_append_drop]
 have h2:(Ab c (xs.take i)).length=i *n:=by rw[Bo h,List.length_take,Nat.min_eq_left hi]
 rw[h1,←h2,List.drop_left]
def pC (p:Pd):List Value:=[.string p.name,.string p.sum]
def lC (l:Ld):List Value:=[XJ l.num,.string l.sum,XJ l.til]
theorem BB (p:Pd):(pC p).length=2:=rfl
theorem Cf (l:Ld):(lC l).length=3:=rfl
theorem DO (s:ByteArray):(Aj s).length=8:=rfl
theorem Ft (ss:List ByteArray):AM ss=Ab Aj ss:=rfl
theorem Ih (ps:List Pd):∀u∈Ab pC ps,u.oneCell'=true:=by
 intro u hu;obtain⟨p,_,hp⟩:=List.mem_flatMap.1 hu;simp[pC] at hp;rcases hp with rfl|rfl<;>rfl
theorem SF (ls:List Ld):∀u∈Ab lC ls,u.oneCell'=true:=by
 intro u hu;obtain⟨p,_,hp⟩:=List.mem_flatMap.1 hu;simp[lC] at hp;rcases hp with rfl|rfl|rfl<;>rfl
theorem BR {w:World} {base:Nat} {e:TypeId} {size:Nat} {v:Value} {n:Nat} {xs:List Value} (h:w.ownsRow base e size v n xs) (hn:v≠XN):∃g cap,v=.slice (some ⟨g,0,none⟩) n cap/\base<=g/\g<w.heap.size:=by
 rcases h.2 with⟨e,_⟩|⟨g,cap,zA,rfl,hb,hg,_⟩
 ·exact absurd e hn
 ·exact⟨g,cap,rfl,hb,(Array.getElem?_eq_some_iff.1 hg).1⟩
theorem AQ.cellsV {w:World} {B b off:Nat} {ps:List Pd} (h:AQ w B (some ⟨b,off,none⟩) ps):∀j u,(Ab pC ps)[j]?=some u->w.cell? ((⟨b,off,none⟩:Addr).add j)=some u:=by
 intro j u hu;obtain⟨p,hp,hv⟩:=Oz BB (by decide) hu;rcases h with h|⟨b',zA,h1,_,h3⟩
 ·subst h;simp at hp
 ·cases h1
  obtain⟨q0,q1⟩:=h3 _ p hp;rw[Go.WideShapes.add_plain];have hm:=Nat.mod_lt j (show 0<2 by decide);rcases(show j%2=0∨j%2=1 by omega) with hr|hr<;>rw[hr] at hv<;>simp[pC] at hv<;>subst hv
  ·rw[show off+j=off+j/2 *2 by omega];exact q0
  ·rw[show off+j=off+j/2 *2+1 by omega];exact q1
theorem AR.cellsV {w:World} {B b off:Nat} {ps:List Ld} (h:AR w B (some ⟨b,off,none⟩) ps):∀j u,(Ab lC ps)[j]?=some u->w.cell? ((⟨b,off,none⟩:Addr).add j)=some u:=by
 intro j u hu;obtain⟨p,hp,hv⟩:=Oz Cf (by decide) hu;rcases h with h|⟨b',zA,h1,_,h3⟩
 ·subst h;simp at hp
 ·cases h1
  obtain⟨q0,q1,q2⟩:=h3 _ p hp;rw[Go.WideShapes.add_plain];have hm:=Nat.mod_lt j (show 0<3 by decide);rcases(show j%3=0∨j%3=1∨j%3=2 by omega) with hr|hr|hr<;>rw[hr] at hv<;>simp[lC] at hv<;>subst hv
  ·rw[show off+j=off+j/3 *3 by omega];exact q0
  ·rw[show off+j=off+j/3 *3+1 by omega];exact q1
  ·rw[show off+j=off+j/3 *3+2 by omega];exact q2
theorem AQ.own {w:World} {base:Nat} {a:Option Addr} {cap:Nat} {ps:List Pd} (h:w.ownsRow base 134 2 (.slice a ps.length cap) ps.length (Ab pC ps)):AQ w w.heap.size a ps:=by
 rcases h.2 with⟨e,hn⟩|⟨g,zA,zB,he,hb,hg,_⟩
 ·exact .inl (List.length_eq_zero_iff.1 hn)
 ·cases he
  refine .inr ⟨g,0,rfl,(h.lt g rfl).2,fun i x hx=> ?_⟩;have hi:=(XC hx).1;have h0:=Bl BB hx (show 0<2 by decide);have h1:=Bl BB hx (show 1<2 by decide);rw[Nat.zero_add];exact⟨(h.cellAt _ (by omega)).trans h0,(h.cellAt _ (by omega)).trans h1⟩
theorem AR.own {w:World} {base:Nat} {a:Option Addr} {cap:Nat} {ps:List Ld} (h:w.ownsRow base 137 3 (.slice a ps.length cap) ps.length (Ab lC ps)):AR w w.heap.size a ps:=by
 rcases h.2 with⟨e,hn⟩|⟨g,zA,zB,he,hb,hg,_⟩
 ·exact .inl (List.length_eq_zero_iff.1 hn)
 ·cases he
  refine .inr ⟨g,0,rfl,(h.lt g rfl).2,fun i x hx=> ?_⟩;have hi:=(XC hx).1;have h0:=Bl Cf hx (show 0<3 by decide);have h1:=Bl Cf hx (show 1<3 by decide);have h2:=Bl Cf hx (show 2<3 by decide);rw[Nat.zero_add];exact⟨(h.cellAt _ (by omega)).trans h0,(h.cellAt _ (by omega)).trans h1,(h.cellAt _ (by omega)).trans h2⟩
theorem AQ.cellsA {w:World} {B:Nat} {ad:Addr} {ps:List Pd} (h:AQ w B (some ad) ps):∀j u,(Ab pC ps)[j]?=some u->w.cell? (ad.add j)=some u:=by
 rcases h with rfl|⟨b,off,h1,h2,h3⟩
 ·intro j u hu;simp[Ab] at hu
 ·cases h1;exact AQ.cellsV (.inr ⟨b,off,rfl,h2,h3⟩)
theorem AR.cellsA {w:World} {B:Nat} {ad:Addr} {ps:List Ld} (h:AR w B (some ad) ps):∀j u,(Ab lC ps)[j]?=some u->w.cell? (ad.add j)=some u:=by
 rcases h with rfl|⟨b,off,h1,h2,h3⟩
 ·intro j u hu;simp[Ab] at hu
 ·cases h1;exact AR.cellsV (.inr ⟨b,off,rfl,h2,h3⟩)
theorem Ae.cellsA {w:World} {B:Nat} {ad:Addr} {ss:List ByteArray} (h:Ae w B (some ad) ss):∀j u,(ss.map Value.string)[j]?=some u->w.cell? (ad.add j)=some u:=by
 rcases h with rfl|⟨b,off,h1,h2,h3⟩
 ·intro j u hu;simp at hu
 ·cases h1
  intro j u hu;rw[List.getElem?_map] at hu;cases hs:ss[j]? with
  |none=>rw[hs] at hu;cases hu
  |some s=>rw[hs] at hu;cases hu;rw[Go.WideShapes.add_plain];exact h3 j s hs
theorem AQ.nil {w:World} {B:Nat} {ps:List Pd} (h:AQ w B none ps):ps=[]:=by
 rcases h with h|⟨_,_,h,_⟩
 ·exact h
 ·cases h
theorem AR.nil {w:World} {B:Nat} {ps:List Ld} (h:AR w B none ps):ps=[]:=by
 rcases h with h|⟨_,_,h,_⟩
 ·exact h
 ·cases h
theorem Ae.nil {w:World} {B:Nat} {ps:List ByteArray} (h:Ae w B none ps):ps=[]:=by
 rcases h with h|⟨_,_,h,_⟩
 ·exact h
 ·cases h
theorem Gd (a:Option Addr) (cap:Nat) (ps:List Pd) (w:World) (hr:AQ w w.heap.size a ps) (hl:ps.length<=1048576):
 Calls prog 96 #[.slice a ps.length cap] w fun e w'=>∃a' c',e=.returned (.slice a' ps.length c')/\
  w'.ownsRow w.heap.size 134 2 (.slice a' ps.length c') ps.length (Ab pC ps)/\Xz w w':=by
 rcases a with _|ad
 ·obtain rfl:=hr.nil
  have zB:∀u:World,(binOp .eql 25 (.slice none 0 cap) XN).run prog u=.ok (.bool true) u:=fun _=>by first|rfl|kernel_rfl
  go_enter func96,ntmps96;go_wp2;go_ret;exact⟨none,0,rfl,⟨rfl,.inl ⟨rfl,rfl⟩⟩,Below.refl _ _⟩
 obtain⟨i0,hi,zG,zF,zH⟩:=info_parts FW;have hA:Below w.heap.size w (w.alloc (.cells #[] 134)):=XA;have zB:∀u:World,(binOp .eql 25 (.slice (some ad) ps.length cap) XN).run prog u=.ok (.bool false) u:=fun _=>by first|rfl|kernel_rfl
 go_enter func96,ntmps96;go_wp2_with (first
  |(at_builtin;refine wpList_append_own _ rfl _ _ 25 rfl w.heap.size 134 i0 _ 2 32 underlying25 hi zG zF zH rfl (by decide) _ 0 (Ab pC []) rfl ?d0 ad ps.length cap (Ab pC ps) rfl ?d1 ?d2 ?d3 ?d4 ?d5 ?d6 ?_)
  |go_in)
 case d0=>exact World.ownsRow_lit (base:=w.heap.size) (e:=134) (size:=2) w #[] 0 (XB) (by unfold maxLen;omega) rfl
 case d1=>exact Bo BB ps
 case d2=>exact(hr.below hA).cellsA
 case d3=>exact Ih ps
 case d4=>unfold maxLen;omega
 case d5=>omega
 case d6=>simp
 intro v1 w1 zA zC zE;obtain⟨x,cx,rfl,zJ,zI⟩:=BR zA zE;rw[←Bf,List.nil_append] at zA;have hB:Below w.heap.size w w1:=hA.grown zC (by simp) (fun k hk=>by simp[Value.ownBlock] at hk;omega);have HO:Hid _:=And.intro zA hB;try simp only[Nat.zero_add] at *
 clear zA zC zE hB hA hr;go_wp2;go_ret;exact⟨_,cx,rfl,HO.o.1,HO.o.2⟩
theorem Fa (a:Option Addr) (cap:Nat) (ps:List Ld) (w:World) (hr:AR w w.heap.size a ps) (hl:ps.length<=1048576):
 Calls prog 97 #[.slice a ps.length cap] w fun e w'=>∃a' c',e=.returned (.slice a' ps.length c')/\
  w'.ownsRow w.heap.size 137 3 (.slice a' ps.length c') ps.length (Ab lC ps)/\Xz w w':=by
 rcases a with _|ad
 ·obtain rfl:=hr.nil
  have zB:∀u:World,(binOp .eql 26 (.slice none 0 cap) XN).run prog u=.ok (.bool true) u:=fun _=>by first|rfl|kernel_rfl
  go_enter func97,ntmps97;go_wp2;go_ret;exact⟨none,0,rfl,⟨rfl,.inl ⟨rfl,rfl⟩⟩,Below.refl _ _⟩
 obtain⟨i0,hi,zG,zF,zH⟩:=info_parts FB;have hA:Below w.heap.size w (w.alloc (.cells #[] 137)):=XA;have zB:∀u:World,(binOp .eql 26 (.slice (some ad) ps.length cap) XN).run prog u=.ok (.bool false) u:=fun _=>by first|rfl|kernel_rfl
 go_enter func97,ntmps97;go_wp2_with (first
  |(at_builtin;refine wpList_append_own _ rfl _ _ 26 rfl w.heap.size 137 i0 _ 3 32 underlying26 hi zG zF zH rfl (by decide) _ 0 (Ab lC []) rfl ?d0 ad ps.length cap (Ab lC ps) rfl ?d1 ?d2 ?d3 ?d4 ?d5 ?d6 ?_)
  |go_in)
 case d0=>exact World.ownsRow_lit (base:=w.heap.size) (e:=137) (size:=3) w #[] 0 (XB) (by unfold maxLen;omega) rfl
 case d1=>exact Bo Cf ps
 case d2=>exact(hr.below hA).cellsA
 case d3=>exact SF ps
 case d4=>unfold maxLen;omega
 case d5=>omega
 case d6=>simp
 intro v1 w1 zA zC zE;obtain⟨x,cx,rfl,zJ,zI⟩:=BR zA zE;rw[←Bf,List.nil_append] at zA;have hB:Below w.heap.size w w1:=hA.grown zC (by simp) (fun k hk=>by simp[Value.ownBlock] at hk;omega);have HO:Hid _:=And.intro zA hB;try simp only[Nat.zero_add] at *
 clear zA zC zE hB hA hr;go_wp2;go_ret;exact⟨_,cx,rfl,HO.o.1,HO.o.2⟩
theorem DP (a:Option Addr) (cap:Nat) (ps:List ByteArray) (w:World) (hr:Ae w w.heap.size a ps) (hl:ps.length<=1048576):
 Calls prog 98 #[.slice a ps.length cap] w fun e w'=>∃a' c',e=.returned (.slice a' ps.length c')/\
  w'.ownsRow w.heap.size 9 1 (.slice a' ps.length c') ps.length (ps.map Value.string)/\Xz w w':=by
 rcases a with _|ad
 ·obtain rfl:=hr.nil
  have zB:∀u:World,(binOp .eql 22 (.slice none 0 cap) XN).run prog u=.ok (.bool true) u:=fun _=>by first|rfl|kernel_rfl
  go_enter func98,ntmps98;go_wp2;go_ret;exact⟨none,0,rfl,⟨rfl,.inl ⟨rfl,rfl⟩⟩,Below.refl _ _⟩
 obtain⟨i0,hi,zG,zF,zH⟩:=info_parts CO;have hA:Below w.heap.size w (w.alloc (.cells #[] 9)):=XA;have zB:∀u:World,(binOp .eql 22 (.slice (some ad) ps.length cap) XN).run prog u=.ok (.bool false) u:=fun _=>by first|rfl|kernel_rfl
 go_enter func98,ntmps98;go_wp2_with (first
  |(at_builtin;refine wpList_append_own _ rfl _ _ 22 rfl w.heap.size 9 i0 XM 1 16 underlying22 hi zG zF zH rfl (by decide) _ 0 (([]:List ByteArray).map Value.string) rfl ?d0 ad ps.length cap (ps.map Value.string) rfl ?d1 ?d2 ?d3 ?d4 ?d5 ?d6 ?_)
  |go_in)
 case d0=>exact World.ownsRow_lit (base:=w.heap.size) (e:=9) (size:=1) w #[] 0 (XB) (by unfold maxLen;omega) rfl
 case d1=>simp
 case d2=>exact(hr.below hA).cellsA
 case d3=>exact OY ps
 case d4=>unfold maxLen;omega
 case d5=>omega
 case d6=>simp
 intro v1 w1 zA zC zE;obtain⟨x,cx,rfl,zJ,zI⟩:=BR zA zE
 skip
 have hB:Below w.heap.size w w1:=hA.grown zC (by simp) (fun k hk=>by simp[Value.ownBlock] at hk;omega);have HO:Hid _:=And.intro zA hB;try simp only[Nat.zero_add] at *
 clear zA zC zE hB hA hr;go_wp2;go_ret;exact⟨_,cx,rfl,HO.o.1,HO.o.2⟩
theorem toList_inj {a b:ByteArray} (h:a.toList=b.toList):a=b:=by
 rw[ByteArray.toList_eq,ByteArray.toList_eq] at h;cases a;cases b;simp only[Array.toList_inj] at h;rw[h]
theorem BJ {a b:ByteArray} (h:¬a=b):(a.toList==b.toList)=false:=by
 rw[beq_eq_false_iff_ne];exact fun e=>h (toList_inj e)
theorem Mv (x:List UInt8):∀y,Op.bytesLess x y=true↔x<y:=by
 induction x with
 |nil=>intro y;cases y<;>simp[Op.bytesLess]
 |cons a x ih=>
  intro y;cases y with
  |nil=>simp[Op.bytesLess]
  |cons b y=>
   have:=ih y;rw[List.cons_lt_cons_iff,←this];simp only[Op.bytesLess];by_cases h1:a<b<;>by_cases h2:a=b<;>simp[h1,h2]
theorem BX (a:ByteArray):less a a=false:=by
 unfold less;cases h:Op.bytesLess a.toList a.toList with
 |false=>rfl
 |true=>exact absurd ((Mv _ _).1 h) (List.lt_irrefl _)
theorem Cl {a b c:ByteArray} (h:less a b=true) (k:less b c=true):less a c=true:=by
 unfold less at *
 rw[Mv] at *
 exact List.lt_trans h k
def Cy (ks:List Kd) (s:ByteArray):Int:=match ks.findIdx? (fun k=>decide (k.sum=s)) with
 |some i=>(i:Int)
 |none=> -1
theorem QF {ks:List Kd} {s:ByteArray} {k:Nat} (hk:k<ks.length) (h:ks[k].sum=s) (zA:∀j x,j<k->ks[j]?=some x->x.sum≠s):Cy ks s=k:=by
 have:ks.findIdx? (fun k=>decide (k.sum=s))=some k:=by
  rw[List.findIdx?_eq_some_iff_getElem];refine⟨hk,by simpa using h,fun j hj=> ?_⟩;simpa using zA j _ hj (XD (by omega))
 simp[Cy,this]
theorem Pj {ks:List Kd} {s:ByteArray} (zA:∀j x,j<ks.length->ks[j]?=some x->x.sum≠s):Cy ks s= -1:=by
 have:ks.findIdx? (fun k=>decide (k.sum=s))=none:=by
  rw[List.findIdx?_eq_none_iff];intro x hx;obtain⟨j,hj,rfl⟩:=List.getElem_of_mem hx;simpa using zA j _ hj (XD hj)
 simp[Cy,this]
theorem Fu (ks:List Kd) (s:ByteArray):(Cy ks s= -1/\¬Au ks s)∨∃i k,Cy ks s=(i:Nat)/\ks[i]?=some k/\k.sum=s:=by
 unfold Cy;cases h:ks.findIdx? (fun k=>decide (k.sum=s)) with
 |none=>
  rw[List.findIdx?_eq_none_iff] at h;exact .inl ⟨rfl,fun⟨u,hu,e⟩=>by simpa [e] using h u hu⟩
 |some i=>
  rw[List.findIdx?_eq_some_iff_getElem] at h;obtain⟨hi,h1,_⟩:=h;exact .inr ⟨i,ks[i],rfl,XD hi,by simpa using h1⟩
theorem Fb (wd now given births:Int) (a:Option Addr) (ac:Nat) (P L:Value) (ks:List Kd) (s:ByteArray) (w:World) (B:Nat) (zB:Bx w B a ks) (hB:B<=w.heap.size) (hl:ks.length<=1048576):
 Calls prog 72 #[.agg #[XJ wd,XJ now,XJ given,XJ births,.slice a ks.length ac,P,L],.string s] w fun e w'=>e=.returned (XJ (Cy ks s))/\Xz w w':=by
 have zC:Below w.heap.size w (w.alloc (.cells #[XJ wd,XJ now,XJ given,XJ births,.slice a ks.length ac,P,L] 28)):=XA;go_enter func72,ntmps72;go_wp2
 go_loop [5] (fun i=>∃k:Nat,k<=ks.length/\i=XJ k/\Hid (∀j x,j<k->ks[j]?=some x->x.sum≠s)) (fun i=>ks.length -(intOf i).toNat)
 case atStart=>exact⟨0,Nat.zero_le _,rfl,fun j x h=>by omega⟩
 case round=>
  obtain⟨k,hk,rfl,zA⟩:=hrel;by_cases hlt:k<ks.length
  ·obtain⟨b,off,ha,hb,hc⟩:=zB.at hlt
   subst ha;have hg:Hid (ks[k]?=some ks[k]):=XD hlt;obtain⟨c0,_,_,_⟩:=hc k _ hg;clear hc zB;have zF:b<w.heap.size:=by omega
   by_cases he:ks[k].sum=s
   ·have HE:Hid _:=he
    have hh:Hid _:=QF hlt he zA.o;have zE:w.cell? (XL b (off+k *4))=some (.string s):=by rw[←he];exact c0
    clear c0 he;go_wp2;go_ret;exact⟨OR hh.o.symm,zC⟩
   ·have zG:=BJ he
    have HA:Hid (∀j x,j<k+1->ks[j]?=some x->x.sum≠s):=by
     intro j x hj hx;rcases Nat.lt_or_ge j k with h'|h'
     ·exact zA.o j x h' hx
     ·obtain rfl:j=k:=by omega
      rw[hg.o] at hx;cases hx;exact he
    clear he zA hg;generalize ks[k]=x at *
    go_wp2;exact⟨⟨k+1,by omega,by go_num,HA⟩,by simp[intOf];omega⟩
  ·go_wp2
   go_ret;exact⟨OR (Pj (fun j x hj=>zA.o j x (by omega))).symm,zC⟩
end Go.Proofs.YtpekbmegopfhfaaGreatDoor
