import Derived.Test.YtfmeclmjdpbacaaGreatDoorX26
import Derived.Test.YtfmeclmjdpbacaaGreatDoorX25
set_option maxRecDepth 100000
set_option maxHeartbeats 16000000
open Option renaming some->ai,none->an
open Bool renaming true->ay,false->ba
open Go.RowKit renaming Below->bg
open Go.Obj renaming cells->bs
open Go.Value renaming slice->bx,agg->ca,bool->ec
open Or renaming inl->cr,inr->ct
open Go.Ground renaming data->dp
open List renaming length->ed,toArray->ee
open Go.World renaming cell?->eh,ownsRow->ej,grownBy->ek
open Go renaming maxLen->eo
namespace Go.Proofs.YtfmeclmjdpbacaaGreatDoor
open ChangeShapes WideShapes ChangeAt RowKit _root_.Go.Proofs.Tryz List World Value
variable{b c K L n q N:Nat}{a:Zk}{g H S:Zj}{u v:Vd}{e:Ed}{E i j k p o l d D:Int}{X Z Y wr:Zh}{f:C5}{Q U:Value}{s:Zi}{r:Rs}{m ms:Zl}{V:List Nat}
inductive Cmd:Nat->Nat->Nat->Zj->Value->Ed->Prop
 |co (nm s:Zi):Cmd 18 28 57 [.string nm,.string s] (ca #[Zc,Zb,.string nm,.string s,Ze]) ⟨2,s,nm,0,⟨#[]⟩,[]⟩
 |unpin (nm:Zi):Cmd 20 29 59 [.string nm] (ca #[Zc,Zb,.string nm,Zc,Ze]) ⟨3,⟨#[]⟩,nm,0,⟨#[]⟩,[]⟩
 |ft (s:Zi) (n:Int):Cmd 21 30 60 [.string s,Zg n] (ca #[Zc,Zb,Zc,.string s,Zg n]) ⟨4,s,⟨#[]⟩,n,⟨#[]⟩,[]⟩
 |give (n:Int):Cmd 22 31 61 [Zg n] (ca #[Zc,Zb,Zc,Zc,Zg n]) ⟨5,⟨#[]⟩,⟨#[]⟩,n,⟨#[]⟩,[]⟩
 |wait (n:Int):Cmd 24 32 62 [Zg n] (ca #[Zc,Zb,Zc,Zc,Zg n]) ⟨6,⟨#[]⟩,⟨#[]⟩,n,⟨#[]⟩,[]⟩
theorem YG{a:Nat}{u:Dg}(d:Cmd b c a g u e)(w:Zh):
 D4 a #[u] w λo f=>o=C1 (ca (Ye e.N e.s e.T e.M e.Y an 0 0))/\Zz w f:=by
 cases d
 all_goals
  first|delta D4;go_in|delta D4;go_in|delta D4;go_in|delta D4;go_in|delta D4;go_in
  go_wp2;refine bodyPost_ret (by simp[results,results57,results59,results60,results61,results62,go_sem]) rfl ⟨rfl,?_⟩;exact(Zy).alloc Yu _
theorem YH{E F:Nat}{u:Dg}(i:Cmd E K F H u e)(v:Vd)(A:Zj)(w:Zh)(g:ed A=17)(h:∀X,Zz w X->D4 54 #[ca (ee A),.func (.func F) #[u] #[]] X (GV v e X)):
 D4 E (ee (ca (ee A)::H)) w (GV v e w):=by
 have O:∀(fn:Fn) (first cap:Array Value) (w:Zh),(Instr.makeFunc fn first cap).run prog w=.ok (.func fn first cap) w:=λ_ _ _ _=>rfl;have⟨W,a⟩:=Ag ((w.alloc (bs (ee A) 34)).alloc (bs Xn 62));have c:=(AT a).1;have m:=(AT a).2.1;have p:Hid (Aa W w.1.size A/\Aa W (w.1.size+1) Cu):=⟨(AT a).2.2.1,(AT (k:=Cu) a).2.2.2⟩;have I:Hid (ed A=17):=g;have B:=Yw (h W c);have j:=Yw (Zn c m);have f:=Yw a;clear a g h c m;cases i
 all_goals
  first|delta D4;go_in|delta D4;go_in|delta D4;go_in|delta D4;go_in|delta D4;go_in
  go_upto_region 1 with fail;rw[<-f.o];clear f;go_wp2_with (refine wpList_load_mid rfl 34 _ rfl w.1.size 0 rfl A _ p.1.range underlying34 rfl (by rw[I.o];kernel_rfl) ?_);refine B.Ak ?_;rintro o z ⟨d,S,U,T,P,L,Q,M,N,n,rfl,l,x⟩;obtain⟨g,D,a⟩:=Jt l,Ag (Ha d S U T P L Q M);rw[<-a]at g;rw[<-a];have C:=Yw a;clear a;have s:=Aa.A (v:=Ze) p.2 x;have⟨q,i⟩:=Ag (z.setCells (w.1.size+1) 0 (ee D).toList);have y:Tn [w.1.size+1] z q:=by rw[i];exact Ap _ _ _ _
  have G:Aa q (w.1.size+1) D:=by rw[i];exact s.ax D (by rw[g.1];rfl)
  have c:Hid (z.there (w.1.size+1) 0 (ee D).size/\ed D=22/\∀u∈D,u.oneCell'=ay):=by refine⟨?_,g⟩;rw[show (ee D).size=22 from by rw[Az];exact g.1];exact s.there
  have r:=j.1.ag (x.ah j.1.size);have m:=j.2;have a:Hid (GV v _ w (.returned (ca (ee D))) q):=⟨d,S,U,T,P,L,Q,M,N,n,by rw[C.o],(l.stays y (λb f J=>by have:=l.lo b J;simp at f;omega)).ah Yv,r.ag (y.A r.size Yu)⟩;have f:=Yw G;have J:=Yw i;clear i y G s g x r m B j p l n C;go_wp2_with (refine wpList_store_mid rfl 62 _ _ rfl (w.1.size+1) 0 (ee D) rfl rfl c.1 (by rw[Az,c.2.1];kernel_rfl) (all_oneCell_toArray c.2.2) ?_);rw[<-J.o]
  first|exact bodyPost_ret (AM results18 _ _ (w.1.size+1) D _ rfl (Aa.range f) underlying62 rfl J1) rfl a.o|exact bodyPost_ret (AM results20 _ _ (w.1.size+1) D _ rfl (Aa.range f) underlying62 rfl J1) rfl a.o|exact bodyPost_ret (AM results21 _ _ (w.1.size+1) D _ rfl (Aa.range f) underlying62 rfl J1) rfl a.o|exact bodyPost_ret (AM results22 _ _ (w.1.size+1) D _ rfl (Aa.range f) underlying62 rfl J1) rfl a.o|exact bodyPost_ret (AM results24 _ _ (w.1.size+1) D _ rfl (Aa.range f) underlying62 rfl J1) rfl a
def VI(v:Vd)(e:Ed)(w:Zh)(o:Ending)(w':Zh):Prop:=∃d vs,Ex v e d/\o=.returned (ca (ee (dL d vs)))/\ed vs=17/\Zz w w'
theorem Gs{b:Zj}(h:GL v L X b):ed b=17/\∀u∈b,u.oneCell'=ay:=by obtain⟨a,rfl,_⟩:=h;exact⟨rfl,by simp[AV,oneCell']⟩
theorem YI{B:Nat}{u:Dg}(g:Cmd K B L H u e)(v:Vd)(A:Zj)(w:Zh)(f:ed A=17)(h:∀X,Zz w X->D4 67 #[ca (ee A),ca (Ye e.N e.s e.T e.M e.Y an 0 0)] X (VE v e X)):
 D4 B (ee (ca (ee A)::H)) w (VI v e w):=by
 have⟨W,a⟩:=Ag ((w.alloc (bs (ee A) 34)).alloc (bs Xn 62));have b:=(AT a).1;have m:=(AT a).2.1;have p:Hid (Aa W w.1.size A/\Aa W (w.1.size+1) Cu):=⟨(AT a).2.2.1,(AT (k:=Cu) a).2.2.2⟩;have I:Hid (ed A=17):=f;obtain⟨y,j,c⟩:=Yw (h W b),Yw (Zn b m),Yw a;clear a f h b m;cases g
 all_goals
  first|delta D4;go_in|delta D4;go_in|delta D4;go_in|delta D4;go_in|delta D4;go_in
  go_upto_region 1 with fail;rw[<-c.o];clear c;go_wp2_with (refine wpList_load_mid rfl 34 _ rfl w.1.size 0 rfl A _ p.1.range underlying34 rfl (by rw[I.o];kernel_rfl) ?_);refine y.Ak ?_;rintro o l ⟨d,F,n,rfl,C,x⟩;have i:=Gs (C [] l Yu (Tn.of Ae));obtain⟨f,D,a⟩:=KO (d:=d) i,Ag (dL d F);rw[<-a]at f;rw[<-a];have z:=Yw a;clear a;obtain⟨s,q,g⟩:=Aa.A (v:=Ze) p.2 x,Ag (l.setCells (w.1.size+1) 0 (ee D).toList);have E:Tn [w.1.size+1] l q:=by rw[g];exact Ap _ _ _ _
  have G:Aa q (w.1.size+1) D:=by rw[g];exact s.ax D (by rw[f.1];rfl)
  have b:Hid (l.there (w.1.size+1) 0 (ee D).size/\ed D=22/\∀u∈D,u.oneCell'=ay):=by refine⟨?_,f⟩;rw[show (ee D).size=22 from by rw[Az];exact f.1];exact s.there
  have r:=j.1.ag (x.ah j.1.size);have m:=j.2;have a:Hid (VI v _ w (.returned (ca (ee D))) q):=⟨d,F,n,by rw[z.o],i.1,r.ag (E.A r.size Yu)⟩;have c:=Yw G;have J:=Yw g;clear g E G s f x r m y j p C n z i;go_wp2_with (refine wpList_store_mid rfl 62 _ _ rfl (w.1.size+1) 0 (ee D) rfl rfl b.1 (by rw[Az,b.2.1];kernel_rfl) (all_oneCell_toArray b.2.2) ?_);rw[<-J.o]
  first|exact bodyPost_ret (AM results28 _ _ (w.1.size+1) D _ rfl (Aa.range c) underlying62 rfl J2) rfl a.o|exact bodyPost_ret (AM results29 _ _ (w.1.size+1) D _ rfl (Aa.range c) underlying62 rfl J2) rfl a.o|exact bodyPost_ret (AM results30 _ _ (w.1.size+1) D _ rfl (Aa.range c) underlying62 rfl J2) rfl a.o|exact bodyPost_ret (AM results31 _ _ (w.1.size+1) D _ rfl (Aa.range c) underlying62 rfl J2) rfl a.o|exact bodyPost_ret (AM results32 _ _ (w.1.size+1) D _ rfl (Aa.range c) underlying62 rfl J2) rfl a
theorem Iw{f i:Nat}{h:Zj}{u:Dg}(d:Cmd f i c h u e){a:Va}{w:Zh}(m:Bg w w.1.size a v)(k:DM v)(j:Env w)(l:e.T.size<=eo):
 D4 f (ee (ca (ee (AV v (Cx a.y (ed v.ss) a.sc) (Cx a.ta (ed v.D) a.d) (Cx a.W (ed v.B) a.j) (Cx a.Z (ed v.ps) a.g) (Cx a.X (ed v.ls) a.e) (Cx a.qa (ed v.F) a.qc) (Cx a.i (ed v.ms) a.mc)))::h)) w (GV v e w):=by
 have b:(∀args X,(callFunc c args).run prog X=.ok (.enter c args) X)/\e.V=[]/\e.Y=⟨#[]⟩:=by
  cases d
  all_goals refine⟨?_,rfl,rfl⟩
  all_goals first|exact enters_of func57 Yr rfl|exact enters_of func59 Yr rfl|exact enters_of func60 Yr rfl|exact enters_of func61 Yr rfl|exact enters_of func62 Yr rfl
 exact YH d v _ w rfl (λX g=>OI e c u an 0 b.1 (m.U g) k (j.A g) (cr b.2.1) (by rw[b.2.1];simp) (by rw[b.2.2];exact Aw _) l (λY _=>by rw[b.2.1];exact YG d Y))
theorem Iy{j k:Nat}{i:Zj}{u:Dg}(f:Cmd j c k i u e){a:Va}{w:Zh}(g:Bg w w.1.size a v)(n:Iu w a v)(l:DM v)(m:e.T.size<=eo):
 D4 c (ee (ca (ee (AV v (Cx a.y (ed v.ss) a.sc) (Cx a.ta (ed v.D) a.d) (Cx a.W (ed v.B) a.j) (Cx a.Z (ed v.ps) a.g) (Cx a.X (ed v.ls) a.e) (Cx a.qa (ed v.F) a.qc) (Cx a.i (ed v.ms) a.mc)))::i)) w (VI v e w):=by
 have b:e.V=[]/\e.Y=⟨#[]⟩:=by cases f<;>exact⟨rfl,rfl⟩
 refine YI f v _ w rfl (λX d=> ?_);have h:=ZL e an 0 (g.U d) (n.A g d) l (cr b.1) (λ_=>by rw[b.1];exact⟨rfl,rfl⟩) (by rw[b.1];simp) (by rw[b.2];exact Aw _) m;rw[b.1]at h;exact h
def zR:Zj:=[Ze,Zb,Zb,Ze,Ze,Ze]
structure Rw (w:Zh) (b:Nat) (a:Zk) (n c:Nat) (p:Int) (q:Nat) (sv:Value) (S:Zj) (ph:Int) (Q M:Value) (top at_ ro:Int) (qs ms:Zl) (X:Zh):Prop where
 box:Aa X q [Zg ph,Q,M,Zg top,Zg at_,Zg ro]
 oq:Ah X (w.1.size+3) Q qs
 om:Ah X (w.1.size+3) M ms
 aq:∀g,Aj Q=ai g->g≠q
 am:∀g,Aj M=ai g->g≠q/\Aj Q≠ai g
 z:Aa X (w.1.size+2) zR
 s:Aa X w.1.size (sv::S)
 rd:AP X b a n c p
 gr:ek w X (ai b)
 hq:w.1.size+3<=q
theorem Rw.fr{w:Zh}{j:Dg}{M:Dg}{s:Int}{r:Zl}(h:Rw w b a n c p q j S o Q M l k s r m X)(t:b<w.1.size)(f:Tn V X Z)(d:∀g∈V,w.1.size+3<=g):Aa Z (w.1.size+2) zR/\Aa Z w.1.size (j::S)/\AP Z b a n c p/\ek w Z (ai b):=
 ⟨Aa.same h.z (f.block _ h.z.lt (λe=>C8 (d _ e))),Aa.same h.s (f.block _ h.s.lt (λe=>C8 (d _ e))),h.rd.O f (λg i=>C8 (d g i)) (λe=>C8 (d _ e)),Me h.gr f (λg i=> cr (C8 (d g i)))⟩
theorem Rw.go{w:Zh}{m:Int}{t:Dg}{M:Dg}{s:Int}{r l:Zl}(h:Rw w b a n c p q t S o Q M j i s r l X)(d:ek X Y (ai b))(v:AP Y b a n c m)(x:b<w.1.size):Rw w b a n c m q t S o Q M j i s r l Y:=by have u:=h.hq;have k:=Tn.grown (V:=[b]) d Yu;exact⟨h.box.az d Yv,h.oq.O k (λg e f=>by have:=(h.oq.S e).1;simp at f;omega),h.om.O k (λg e f=>by have:=(h.om.S e).1;simp at f;omega),h.aq,h.am,h.z.az d Yv,h.s.az d Yv,v,AF h.gr d,u⟩
theorem Rw.A{w:Zh}{l:Dg}{M:Dg}{e:Int}{j g:Zl}(h:Rw w b a n c p q l S i Q M e d k j g X)(f:Zz X Y)(m:b<w.1.size):Rw w b a n c p q l S i Q M e d k j g Y:=
 h.go (Al _ f) (h.rd.A f) m
structure RwE (w:Zh) (b:Nat) (a:Zk) (n c:Nat) (p K:Int) (q:Nat) (X:Zh):Prop where
 ex:∃p' sv S ph Q M top at_ ro qs ms,Rw w b a n c p' q sv S ph Q M top at_ ro qs ms X/\p<=p'/\p'<=p+K/\ed qs<=60000/\ed ms<=60000
theorem Rw.M{w:Zh}{m:Dg}{M:Dg}{k i:Zl}(h:Rw w b a n c p q m S D Q M l d E k i X)(H:b<w.1.size)(j:Nat)(I:j=0\/j=3\/j=4\/j=5)(x:Int){G K:Int}(y:G<=p)(z:p<=G+K)(B:ed k<=60000)(A:ed i<=60000):RwE w b a n c G K q (X.setCell (Zd q j) (Zg x)):=by
 have f:=h.hq;have F:=Bi X q j (Zg x);have⟨o,r,s,t⟩:=h.fr H F Yt;have u:=h.oq.O F (λg e C=>h.aq g e gA);have v:=h.om.O F (λg e C=>(h.am g e).1 gA);have C:=h.box.set j (Zg x);rcases I with rfl|rfl|rfl|rfl
 .exact⟨p,m,S,x,Q,M,l,d,E,k,i,⟨C,u,v,h.aq,h.am,o,r,s,t,f⟩,y,z,B,A⟩
 .exact⟨p,m,S,D,Q,M,x,d,E,k,i,⟨C,u,v,h.aq,h.am,o,r,s,t,f⟩,y,z,B,A⟩
 .exact⟨p,m,S,D,Q,M,l,x,E,k,i,⟨C,u,v,h.aq,h.am,o,r,s,t,f⟩,y,z,B,A⟩
 exact⟨p,m,S,D,Q,M,l,d,x,k,i,⟨C,u,v,h.aq,h.am,o,r,s,t,f⟩,y,z,B,A⟩
structure VDc (X:Zh) (cs:Zj):Prop where
 ex:∃(u:Vd) (a:Va),cs=AV u (bx a.y (ed u.ss) a.sc) (bx a.ta (ed u.D) a.d) (bx a.W (ed u.B) a.j) (bx a.Z (ed u.ps) a.g) (bx a.X (ed u.ls) a.e) (bx a.qa (ed u.F) a.qc) (bx a.i (ed u.ms) a.mc)/\Bg X X.1.size a u/\TM a u/\DM u/\ed u.D<=a.d
def Sl(p:Nat->Prop)(w:Zh)(cs:Zj):Prop:=∀V X,(∀b∈V,p b)->Tn V w X->VDc X cs
theorem Sl.O{p:Nat->Prop}{w d:Zh}{c:Zj}(h:Sl p w c)(g:Tn V w d)(f:∀b∈V,p b):Sl p d c:=λa X e hT=>
 h (V++a) X (λb a=>(A5.1 a).elim (f b) (e b)) ((g.ah (by simp;exact λb a=> cr a)).ag (hT.ah (by simp;exact λb a=> ct a)))
theorem Sl.len{p:Nat->Prop}{w:Zh}{b:Zj}(h:Sl p w b):ed b=17/\∀u∈b,u.oneCell'=ay:=by obtain⟨u,a,rfl,_⟩:=(h [] w Yu (Tn.of Ae)).ex;exact⟨rfl,by simp[AV,oneCell']⟩
structure LaI (w X:Zh) (b:Nat) (a:Zk) (n c:Nat) (p k:Int) (q:Nat) (cs ds:Zj):Prop where
 rd:∃p',AP X b a n c p'/\p<=p'/\p'<=p+k
 gr:ek w X (ai b)
 z:Aa X w.1.size BG
 x:Aa X q cs
 rv:Sl (fun g=>g<=w.1.size\/g=q) X ds
 lt:w.1.size<q
def LaE(w:Zh)(b:Nat)(a:Zk)(n c:Nat)(p k:Int)(q:Nat)(X:Zh):Prop:=∃cs,LaI w X b a n c p k q cs cs
theorem LaI.put{w:Zh}{d f e:Zj}(h:LaI w X b a n c p k q (d++(f++g)) (d++(e++g)))(l:ed e=ed f)(r:b<w.1.size):LaE w b a n c p k q (X.setCells q (ed d) e):=by have m:=h.lt;have t:=Ap q e (ed d) X;have⟨o,i,j⟩:=h.rd;exact⟨_,⟨o,i.O t Yt Yt,j⟩,Me h.gr t Yt,Aa.same h.z (t.block _ h.z.lt Yt),Aa.fe e d f g X h.x l,h.rv.O t Yu,m⟩
section
structure FI (w X:Zh) (b:Nat) (a:Zk) (n c:Nat) (p:Int) (q:Nat) (S:Value) (ss:Zl):Prop where
 box:Aa X q [S,Zb]
 ow:Ah X (w.1.size+1) S ss
 ap:∀g,Aj S=ai g->g≠q
 z:Aa X w.1.size BG
 rd:AP X b a n c p
 gr:ek w X (ai b)
 lt:w.1.size<q
 sz:∀s∈ss,s.size<=5000
theorem FI.go{w:Zh}{f:Int}{S:Dg}{i:Zl}(h:FI w X b a n c p q S i)(d:ek X Y (ai b))(l:AP Y b a n c f)(m:b<w.1.size):FI w Y b a n c f q S i:=by have k:=h.lt;exact⟨h.box.az d Yv,h.ow.O (Tn.grown (V:=[b]) d Yu) (λg e j=>by have:=(h.ow.S e).1;simp at j;omega),h.ap,h.z.az d Yv,l,AF h.gr d,k,h.sz⟩
theorem FI.A{w:Zh}{S:Dg}{e:Zl}(h:FI w X b a n c p q S e)(d:Zz X Y)(f:b<w.1.size):FI w Y b a n c p q S e:=h.go (Al _ d) (h.rd.A d) f
theorem Bg.off{w w':Zh}{a:Va}{o:Nat}(h:Bg w w.1.size a u)(c:OJ w o)(d:Tn [o] w w'):Bg w' w'.1.size a u/\∀A,a.W=ai A->Ic w A u.B->Ic w' A u.B:=
 have f:∀{b:Zk} {ss:Zl},Ad w w.1.size b ss->Ad w' w'.1.size b ss:=λh=>h.off (n:=0) (λ_ _=>Aw _) c d Yu
 ⟨⟨f h.s,f h.t,(h.st.off c d).1,f h.q,f h.m⟩,(h.st.off c d).2⟩
theorem OJ.set{g:Nat}{c a:Zj}(h:OJ X g)(e:Aa X g c)(i:ed a=ed c)(l:∀v∈a,∀s,v≠C0 s):OJ (X.setCells g 0 a) g:=λk s b=>by
 rcases B0 k (ed a) with d|d
 .have:=cell?_setCells_in g a 0 X (λj f=>by rw[Ax,(e j _ (Zv Yv)).1];rfl) k d;rw[Ax]at this;rw[this]at b;exact gA
 rw[cell?_setCells_out g a 0 X _ (λ_ _=> ct Yt)]at b;exact h k s b
structure VSx (u:Vd) (a:Va):Prop where
 fit:DM u
 st:YU u.B u.ps u.ls
 cap:TM a u
 p:a.Z=an->a.g=0
 l:a.X=an->a.e=0
 q:Ir a.qa (ed u.F) a.qc
 m:Ir a.i (ed u.ms) a.mc
 rq:ed u.F<=60000/\ed u.ms<=60000
 D:ed u.D<=a.d
 dz:∀k∈u.B,ed k.C<=30
def VG(p:Nat->Prop)(X:Zh)(cs:Zj):Prop:=∃(u:Vd) (a:Va),cs=AV u (bx a.y (ed u.ss) a.sc) (bx a.ta (ed u.D) a.d) (bx a.W (ed u.B) a.j) (bx a.Z (ed u.ps) a.g) (bx a.X (ed u.ls) a.e) (bx a.qa (ed u.F) a.qc) (bx a.i (ed u.ms) a.mc)/\VSx u a/\∀V Y,(∀g∈V,p g)->Tn V X Y->Bg Y Y.1.size a u/\∀A,a.W=ai A->Ic Y A u.B
theorem VG.O{p:Nat->Prop}{w d:Zh}{c:Zj}(h:VG p w c)(l:Tn V w d)(k:∀b∈V,p b):VG p d c:=by obtain⟨u,a,e,i,j⟩:=h;exact⟨u,a,e,i,λg X f hT=>j (V++g) X (λb g=>(A5.1 g).elim (k b) (f b)) ((l.ah gA).ag (hT.ah gA))⟩
theorem VG.A{p:Nat->Prop}{w b:Zh}{a:Zj}(h:VG p w a)(c:Zz w b):VG p b a:=h.O (V:=[]) (Tn.of c) Yu
theorem VG.add{p:Nat->Prop}{c:Zj}{g:Nat}(h:VG p X c)(v:OJ X g)(z:g<X.1.size):VG (λx=>p x\/x=g) X c:=by
 obtain⟨u,a,e,n,o⟩:=h;refine⟨u,a,e,n,λV Y t hT=> ?_⟩;have A:g<Y.1.size:=gC;have b:({Y with heap:=Y.1.setIfInBounds g X.1[g]}:Zh).1[g]?=X.1[g]?:=gA;have j:∀i,i≠g->({Y with heap:=Y.1.setIfInBounds g X.1[g]}:Zh).1[i]?=Y.1[i]?:=gG;obtain⟨q,y⟩:=o (V.filter (·≠g)) {Y with heap:=Y.1.setIfInBounds g X.1[g]} (λx w=>by
  obtain⟨d,r⟩:=A8.1 w;exact(t x d).resolve_right gA) ⟨hT.os,hT.tape,hT.output,C9 hT.size,λi f m=>by
   by_cases hig:i=g
   .rw[hig];exact b
   exact(j i hig).ag (hT.block i f (λl=>m (A8.2 ⟨l,C9 hig⟩)))⟩
 have m:OJ ({Y with heap:=Y.1.setIfInBounds g X.1[g]}:Zh) g:=λk s l=>v k s ((cell?_of_block (a:=⟨g,k,an⟩) b).symm.ag l);obtain⟨d,r⟩:=q.off m (w':=Y) ⟨rfl,rfl,rfl,Yu,λi _ f=>(j i gA).symm⟩;exact gA
theorem VG.round{p:Nat->Prop}{a:Va}(b:VSx u a)(h:∀V Y,(∀g∈V,p g)->Tn V X Y->Bg Y Y.1.size a u/\∀A,a.W=ai A->Ic Y A u.B){ph top at_ ro:Int}{qa ma:Zk}{qc mc:Nat}{qs:Zl}(i:Ir qa (ed qs) qc)(d:Ir ma (ed ms) mc)(f:ed qs<=60000/\ed ms<=60000)(e:∀V Y,(∀g∈V,p g)->Tn V X Y->Ad Y Y.1.size qa qs/\Ad Y Y.1.size ma ms):
 VG p X ([Zg u.wd,Zg u.J,Cx a.y (ed u.ss) a.sc,Cx a.ta (ed u.D) a.d,Zg u.P,Zg u.G,Zg u.H,Zg u.E,Cx a.W (ed u.B) a.j,Cx a.Z (ed u.ps) a.g,Cx a.X (ed u.ls) a.e]++((Xu ph qa (ed qs) qc ma (ed ms) mc top at_ ro)++[])):=
 ⟨{u with I:=ph,F:=qs,ms:=ms,L:=top,K:=at_,ro:=ro},{a with qa:=qa,qc:=qc,i:=ma,mc:=mc},rfl,⟨⟨b.fit.s,b.fit.t,b.fit.ss,b.fit.D,b.fit.st,⟨by show ed qs<=_;omega,by show ed ms<=_;omega⟩⟩,b.st,⟨b.cap.s,b.cap.t,d.1⟩,b.p,b.l,i,d,f,b.D,b.dz⟩,λV Y c hT=>⟨⟨(h V Y c hT).1.s,(h V Y c hT).1.t,(h V Y c hT).1.st,(e V Y c hT).1,(e V Y c hT).2⟩,(h V Y c hT).2⟩⟩
end
def BI(v:Vd)(a:Va):Zj:=AV v (bx a.y (ed v.ss) a.sc) (bx a.ta (ed v.D) a.d) (bx a.W (ed v.B) a.j) (bx a.Z (ed v.ps) a.g) (bx a.X (ed v.ls) a.e) (bx a.qa (ed v.F) a.qc) (bx a.i (ed v.ms) a.mc)
theorem YJ{a:Va}(k:Int){w:Zh}(g:Bg w w.1.size a v)(d:DM v)(i:ed v.D<=a.d)(h:Env w):
 D4 26 #[ca (ee (BI v a)),Zg k] w (Aeh v (λu=>∃c,Gi v.wd v.J (AX v.ss v.D k) [] c u) w):=by
 obtain⟨l,m⟩:=TN (k:=k) d.ss d.D;refine Afh v _ _ _ k (AX v.ss v.D k) (λu=>∃c,Gi v.wd v.J (AX v.ss v.D k) [] c u) w rfl (λY b=>IT (g.U b) d (h.A b)) (λ_ Y b=>MJ _ _ k (g.U b).s (g.U b).t d.s d.t d.ss d.D i) (λ_ Y u n b f=> ?_);obtain⟨j,c,rfl,p,r⟩:=Abt f;refine(OC v.wd v.J j an c 0 (AX v.ss v.D k) [] p (cr rfl) l Yu m Yu (h.A b)).ah ?_;rintro e s ⟨c,u,S,U,T,P,L,Q,M,q,f,rfl,b,o⟩;exact⟨c,u,S,U,T,P,L,Q,M,q,⟨c,f⟩,rfl,b,o⟩
theorem VJ{a:Va}{w:Zh}(d:Bg w w.1.size a v)(c:DM v)(g:ed v.D<=a.d)(h:Env w):
 D4 25 #[ca (ee (BI v a))] w λe b=>∃(u:Vd) (S U T P L Q M:Dg) (rs:Zj),(¬BY v/\u=v0\/BY v/\u=OH v (AX v.ss v.D (ed v.D)))/\e=C1 (ca (ee (AV u S U T P L Q M)))/\Ay b w.1.size S U T P L Q M rs u/\Zz w b:=by
 refine Aeg v _ _ _ _ _ (AX v.ss v.D (ed v.D)) w rfl (λY b=>IT (d.U b) c (h.A b)) ?_ (λ_ Y b=>Vo _ _ (d.U b).s (d.U b).t c.s c.t c.ss c.D g);rintro⟨r,f⟩ Y b;exact IW (d.U b) c f
theorem Cc.pre{b:Int}:∀{xs ys:Zl} {r r':Rs},Cc b r (xs++ys) r'->∃a,Cc b r xs a
 |[],_,r,_,_=>⟨r,rfl⟩
 |_::_,_,_,_,h=>by obtain⟨a,c,d⟩:=h;have⟨f,e⟩:=Cc.pre d;exact⟨f,a,c,e⟩
theorem Bo.left(h:Bo v r)(k:Int):∃b,Cc v.wd r0 (AX v.ss v.D k) b/\BR (AX v.ss v.D k) []=ay/\Gi v.wd v.J (AX v.ss v.D k) [] 0 (IU v.wd v.J (AX v.ss v.D k) [] b):=by
 have g:=Dn.1 h.log;have e:AX v.ss v.D k=v.ss++v.D.take (min (max k 0) (ed v.D)).toNat:=by simp[AX,h.log]
 have a:=h.run;rw[<-take_append_drop (min (max k 0) (ed v.D)).toNat v.D,<-append_assoc]at a;have⟨b,d⟩:=a.pre;rw[<-e]at d;have c:BR (AX v.ss v.D k) []=ay:=Dn.2 ⟨by rw[e,Am,Cl,length_nil];omega,λs f=>by
  rw[e,append_nil]at f;rcases A5.1 f with h|h
  .exact gA
  exact g.2 s (mem_append_right _ (mem_of_mem_take h))⟩
 exact⟨b,d,c,ct ⟨⟨h.wd,h.J,c⟩,ct ⟨b,by rw[append_nil];exact d,rfl,rfl⟩⟩⟩
theorem Bo.all(h:Bo v r){c:Int}(m:Gi v.wd v.J (AX v.ss v.D (ed v.D)) [] c u):(v.P=u.P/\v.G=u.G/\v.H=u.H/\v.E=u.E)/\v.B=u.B/\v.ps=u.ps/\v.ls=u.ls:=by
 have⟨n,a,_,l⟩:=h.left (ed v.D);have e:AX v.ss v.D (ed v.D)=v.ss++v.D:=by simp[AX,h.log]
 obtain⟨_,rfl⟩:=m.dq l;rw[e]at a;obtain rfl:=a.dq h.run;have⟨⟨b,d,f,g⟩,i,j,k⟩:=h.same;exact⟨⟨b.symm,d.symm,f.symm,g.symm⟩,i.symm,j.symm,k.symm⟩
theorem Bo.gh(h:Bo v r):Bo (OH v (AX v.ss v.D (ed v.D))) r:=by
 have⟨c,b,a,_⟩:=h.left (ed v.D);have e:AX v.ss v.D (ed v.D)=v.ss++v.D:=by simp[AX,h.log]
 refine⟨h.wd,h.J,a,?_,h.same,h.round⟩;show Cc v.wd r0 (AX v.ss v.D (ed v.D)++[]) r;rw[append_nil,e];exact h.run
theorem jc(a:Zh)(c:Zj)(f:ed c=17):∃e d:Zh,e=a.alloc (bs Xp 34)/\d=e.setCells a.1.size 0 (ee c).toList/\e.there a.1.size 0 (ee c).size/\Aa d a.1.size c/\Zz a d/\a.1.size<d.1.size:=by
 refine⟨_,_,rfl,rfl,?_,?_,?_,?_⟩
 all_goals
  obtain⟨x,b,z,t⟩:=(Av (w:=a) (l:=BG) (T:=34) rfl).2.2,(Av (w:=a) (l:=BG) (T:=34) rfl).1,(Av (w:=a) (l:=BG) (T:=34) rfl).2.1,Ap a.1.size c 0 (a.alloc (bs (ee BG) 34))
 .rw[show (ee c).size=17 from by rw[Az];exact f];exact x.there
 .exact x.ax c (by rw[f];rfl)
 .exact b.ag (t.A b.size Yu)
 exact Zr Yv t.size
theorem Acb{w W:Zh}{d:Dd}{a:Zj}(j:Ex v e d)(i:ed a=17/\∀u∈a,u.oneCell'=ay)(f:Zz w W)(k:Aa W (w.1.size+q) Cu)(g:Zz W X):
 (ed (dL d a)=22/\∀u∈dL d a,u.oneCell'=ay)/\X.there (w.1.size+q) 0 (ee (dL d a)).size/\Aa (X.setCells (w.1.size+q) 0 (ee (dL d a)).toList) (w.1.size+q) (dL d a)/\VI v e w (.returned (ca (ee (dL d a)))) (X.setCells (w.1.size+q) 0 (ee (dL d a)).toList):=by
 have c:=KO (d:=d) i;have b:Aa X (w.1.size+q) Cu:=Aa.A k g;have h:=f.ag (g.ah f.size);refine⟨c,?_,b.ax _ (by rw[c.1];rfl),d,a,j,rfl,i.1,h.ag ((Ap _ _ _ _).A h.size Yu)⟩;rw[show(ee (dL d a)).size=22 from by rw[Az];exact c.1];exact b.there
theorem VK{a:Va}(A:Zj)(f:Zi){i:Zk}(j:Nat){b:Zl}(n:Int){w:Zh}(u:A=BI v a)(E:Bg w w.1.size a v)(L:Iu w a v)(I:DM v)(p:Ad w w.1.size i b)(z:i=an->ed b=0/\j=0)(J:ed b<=1048576)(P:f.size<=eo):
 D4 27 #[ca (ee A),ca #[C0 f,Cx i (ed b) j],Zg n] w (VI v ⟨1,⟨#[]⟩,⟨#[]⟩,n,f,b⟩ w):=by
 have H:ed A=17:=by rw[u];rfl
 have q:∀X,Zz w X->D4 68 #[ca #[C0 f,Cw i b j]] X λo k=>∃g c,o=C1 (ca #[C0 f,C2 g b c])/\Ad k k.1.size (ai ⟨g,0,an⟩) b/\Zz X k:=λX l=>(Gy f j (p.U l) z J).ah (λo k ⟨g,c,h,ho,y⟩=>⟨g,c,h,Ad.own ho,y⟩);have r:∀X g c,Zz w X->Ad X X.1.size (ai ⟨g,0,an⟩) b->D4 67 #[ca (ee A),ca (Ye 1 ⟨#[]⟩ ⟨#[]⟩ n f (ai ⟨g,0,an⟩) (ed b) c)] X (VE v ⟨1,⟨#[]⟩,⟨#[]⟩,n,f,b⟩ X):=λX g c l s=>by rw[u];exact ZL ⟨1,⟨#[]⟩,⟨#[]⟩,n,f,b⟩ (ai ⟨g,0,an⟩) c (E.U l) (L.A E l) I s (λe=>by cases e) J P (Aw _)
 have⟨W,l⟩:=Ag (((w.alloc (bs (ee A) 34)).alloc (bs #[C0 f,Cw i b j] 48)).alloc (bs Xn 62));have G:=(Bq l).1;have M:=(Bq l).2.1;have C:Hid (Aa W w.1.size A/\Aa W (w.1.size+1) [C0 f,Cw i b j]/\Aa W (w.1.size+2) Cu):=⟨(Bq l).2.2.1,(Bq l).2.2.2.1,(Bq (m:=Cu) l).2.2.2.2⟩;have s:Hid (ed A=17):=H;have x:=Yw (Zn G M);have F:=Yw l;have N:=Yw q;have O:=Yw r;have B:Hid (∀X k,(Aa X w.1.size A/\Aa X (w.1.size+1) [C0 f,Cw i b j])->Zz X k->Aa k w.1.size A/\Aa k (w.1.size+1) [C0 f,Cw i b j]):=λX k q r=>⟨Aa.same q.1 (r.block _ (q.1.gy s)),Aa.A q.2 r⟩;clear l H q r G M E L I p u;delta D4;go_in;go_upto_region 1 with fail;rw[<-F.o];clear F;refine wp_region_held_drew (S:=λX=>Aa X w.1.size A/\Aa X (w.1.size+1) [C0 f,Cw i b j]) Yr (show _/\_ from⟨C.1,C.2.1⟩) (λhS=> ?_);refine Di 0 (ca (ee A)) rfl (by exact yieldsIf_load_mid Yp 34 _ rfl w.1.size 0 rfl A _ (λX h=>h.1.range) underlying34 rfl (by rw[s.o];kernel_rfl)) ?_;refine AK 1 (Zg n) ?_;refine Di 2 (ca #[C0 f,Cw i b j]) rfl (by exact yieldsIf_load_mid Yp 48 _ rfl (w.1.size+1) 0 rfl [C0 f,Cw i b j] _ (λX h=>h.2.range) underlying48 rfl Yr) ?_;refine Bk 3 (λK k=> ?_);go_simp;refine(N W.drew (x.1.drew)).ah ?_;rintro o G ⟨g,c,rfl,L,r⟩;have q:bg W.1.size W G:=(Below.refl W.1.size W).drew.ag r;try go_simp
 refine k.out _ _ (B _ _ hS r) (λI=> ?_);clear k K;refine AK 4 (ca (Ye 1 ⟨#[]⟩ ⟨#[]⟩ n f (ai ⟨g,0,an⟩) (ed b) c)) ?_;refine Bk 5 (λK k=> ?_);go_simp;refine(O G g c (x.1.ag (q.ah x.1.size)) L).ah ?_;rintro o F ⟨d,M,u,rfl,p,y⟩;have H:bg W.1.size W F:=q.ag (y.ah q.size);have l:=Yw (Acb u (Gs (p [] F Yu (Tn.of Ae))) x.1 C.2.2 H);have⟨D,E⟩:=Ag (dL d M);rw[<-E]at l;rw[<-E];clear E p u;try go_simp
 refine k.out _ _ (B _ _ I y) (λp=> ?_);clear k K;have u:=Ap (w.1.size+2) D 0 F;refine Bk 6 (λK k=> ?_);rw[if_pos Yp];refine wp_store_mid 62 _ _ rfl (w.1.size+2) 0 (ee D) rfl rfl l.2.1 (by rw[Az,l.1.1];kernel_rfl) (all_oneCell_toArray l.1.2) ?_;refine k.out _ _ ⟨Aa.same p.1 (u.block _ (p.1.gy s) Yu),Aa.same p.2 (u.block _ p.2.lt Yu)⟩ (λp=> ?_);clear k K;try simp only[Act.put]
 refine wpAnyH_done Yr ?_ _;go_wp2_with fail;exact bodyPost_ret (AM results27 _ _ (w.1.size+2) D _ rfl (Aa.range l.2.2.1) underlying62 rfl (by rw[l.1.1];kernel_rfl)) rfl l.2.2.2
def Ds(ks:List Kd)(pk sw:Int):Zi:=match ks[pk.toNat%ed ks]? with
 |some k=>k.sum
 |none=>CV [110,111,110,101] sw.toNat
def DN(ls:List Ld)(pk:Int):Int:=match ls[pk.toNat%ed ls]? with
 |some l=>l.M
 |none=>1+pk
def QM(ks:List Kd)(pk:Int)(m:Nat):Zl:=(List.range m).map fun(j:Nat)=>match ks[(pk+5 *(j:Int)).toNat%ed ks]? with
 |some k=>k.sum
 |none=>⟨#[]⟩
def Fu(ks:List Kd)(rf pk:Int):Zl:=Cj (QM ks pk (if ed ks=0 then 0 else min (rf/2).toNat 4))
theorem Sm(a:C5)(c b:Int):ed (Fu a c b)<=4:=by refine Zm (Ij _) ?_;rw[QM,A7,length_range];split<;>omega
theorem JR(u C h D:Int)(E z:Zi)(j m g d:Int)(p l:Zk)(q B A y v:Nat){c:C5}{w:Zh}(H:BH w w.1.size a c)(G:0<=h)(L:ed c<=1048576)(t:1<=j/\j<=8):
 D4 19 #[ca #[Zg u,C0 E,Zg C,C0 z,Zg h,Zg D],ca (Yg j m g d a (ed c) q p B A l y v)] w λe f=>e=C1 (C0 (Ds c h j))/\Zz w f:=by
 have f:bg w.1.size w ((w.alloc (bs #[Zg u,C0 E,Zg C,C0 z,Zg h,Zg D] 42)).alloc (bs (Yg j m g d a (ed c) q p B A l y v) 30)):=gB;delta D4;go_in;by_cases hz:ed c=0
 .have F:((ed c:Int)==0)=ay:=gA;have HS:Hid (Ds c h j=CV [110,111,110,101] j.toNat):=by unfold Ds;rw[length_eq_zero_iff.1 hz];rfl
  clear hz;go_wp2_with fail;refine(LJ _ j _ Yq t.1 t.2).ah ?_;rintro e M ⟨rfl,r⟩;go_wp2;go_ret;exact⟨by rw[HS.o];rfl,f.ag (r.ah f.size)⟩
 have F:((ed c:Int)==0)=ba:=gA;have I:=Mf h (ed c) G;have k:h.toNat%ed c<ed c:=Nat.mod_lt _ Yv;obtain⟨b,J,rfl,r,s⟩:=H.at k;have⟨i,n⟩:∃i,h.toNat%ed c=i:=⟨_,rfl⟩;rw[n]at I k;have o:=Zv k;obtain⟨K,_⟩:=s i _ o;have HS:Hid (Ds c h j=c[i].sum):=by unfold Ds;rw[n,o];rfl
 generalize c[i]=x at *
 clear n o s;go_wp2;go_quiet (fail);go_wp2;go_ret;exact⟨by rw[HS.o];rfl,⟨f.os,f.tape,f.output,f.size,f.block⟩⟩
theorem MV(s z f B:Int)(C u:Zi)(A k g d:Int)(a p:Zk){l:Zk}(q o y v t:Nat){c:C6}{w:Zh}(F:Ba w w.1.size l c)(E:0<=f)(J:f<=1000)(L:ed c<=1048576):
 D4 23 #[ca #[Zg s,C0 C,Zg z,C0 u,Zg f,Zg B],ca (Yg A k g d a q o p y v l (ed c) t)] w λe h=>e=C1 (Zg (DN c f))/\Zz w h:=by
 have h:bg w.1.size w ((w.alloc (bs #[Zg s,C0 C,Zg z,C0 u,Zg f,Zg B] 42)).alloc (bs (Yg A k g d a q o p y v l (ed c) t) 30)):=gB;delta D4;go_in;by_cases hz:ed c=0
 .have D:((ed c:Int)==0)=ay:=gA;have HS:Hid (DN c f=1+f):=by unfold DN;rw[length_eq_zero_iff.1 hz];rfl
  clear hz;go_wp2;go_ret;exact⟨by rw[HS.o];rfl,h⟩
 have D:((ed c:Int)==0)=ba:=gA;have G:=Mf f (ed c) E;have j:f.toNat%ed c<ed c:=Nat.mod_lt _ Yv;clear hz;obtain⟨b,H,rfl,K,r⟩:=F.at j;have⟨i,m⟩:∃i,f.toNat%ed c=i:=⟨_,rfl⟩;rw[m]at G j;have n:=Zv j;obtain⟨I,_⟩:=r i _ n;have HS:Hid (DN c f=c[i].M):=by unfold DN;rw[m,n];rfl
 generalize c[i]=x at *
 clear r n m;go_wp2;go_quiet (fail);go_wp2;go_ret;exact⟨by rw[HS.o];rfl,⟨h.os,h.tape,h.output,h.size,h.block⟩⟩
theorem MW(M o m T:Int)(t P:Zi)(S C q n:Int)(p l:Zk)(L R Q O N:Nat){w:Zh}(F:BH w w.1.size a f)(h0:0<=m)(h1:m<=1000)(zJ:0<=o)(zK:o<=1000)(hl:ed f<=1048576):
 D4 17 #[ca #[Zg M,.string t,Zg o,.string P,Zg m,Zg T],ca (Yg S C q n a (ed f) L p R Q l O N)] w fun e d=>∃g c:Nat,e=.returned (ca #[.string t,Yz g (ed (Fu f o m)) c])/\ej d w.1.size 9 1 (Yz g (ed (Fu f o m)) c) (ed (Fu f o m)) ((Fu f o m).map string)/\Zz w d:=by
 obtain⟨⟨i0,hi,zB,zC,zE⟩,W,r⟩:=info_parts CQ,Ag ((((w.alloc (bs #[Zg M,.string t,Zg o,.string P,Zg m,Zg T] 42)).alloc (bs (Yg S C q n a (ed f) L p R Q l O N) 30)).alloc (bs #[Zc,Zb] 48)).alloc (bs #[.string t,Zb] 48));have⟨bW,y,z,D,B,E⟩:=al4 r;have A:Hid (∀X,Zz W X->Aa X w.1.size [Zg M,.string t,Zg o,.string P,Zg m,Zg T]/\Aa X (w.1.size+1) (Yh S C q n a (ed f) L p R Q l O N)/\Aa X (w.1.size+1+1) [Zc,Zb]/\Aa X (w.1.size+1+1+1) [.string t,Zb]/\Zz w X):=gD;have K:Hid (W.1.size=w.1.size+4):=y;have s:ej (W.alloc (bs #[] 9)) W.1.size 9 1 (Yz W.1.size 0 0) 0 (([]:Zl).map string):=ownsRow_lit W #[] 0 (by omega) (by unfold eo;omega) rfl;have J:=Yw s;have d:=Yw r;clear r z D B E y s;delta D4;go_in;go_upto_region 2 with fail;rw[<-d.o];clear d;obtain⟨X,_⟩:=(A (W.alloc (bs #[] 9)) (Zy)).2.1 4 _ rfl;go_upto_region 3 with fail;by_cases hz:ed f=0
 case' neg=>
  have I:0<ed f:=by omega
  clear hz;go_wp2;go_loopw [6,7] (fun s k wr=>∃(j g c:Nat) (d:Zl),k=Zg j/\((j:Int)<=o/2/\j<=4)/\s=Yz g (ed d) c/\ed d=j/\Hid (ej wr W.1.size 9 1 (Yz g (ed d) c) (ed d) (d.map string)/\Zz W wr/\d=QM f m (ed d))) (fun _ k _=>4 -(intOf k).toNat)
  case atStart=>exact⟨0,W.1.size,0,[],rfl,by omega,rfl,rfl,J,Zy,rfl⟩
  case' round=>
   obtain⟨j,g,c,d,rfl,hj,rfl,rfl,s⟩:=hrel;have r:=(A wr s.2.1);obtain⟨z2,_⟩:=r.1 2 _ rfl;by_cases hc1:(ed d:Int)<o/2
   case' pos=>
    by_cases hc2:ed d<4
    case' pos=>
     have zG:ed d<=3:=(by omega);have zI:¬ed f=0:=(by omega);have zH:((ed f:Int)==0)=ba:=gA;have Y:=Mf (m+5 *(ed d:Int)) (ed f) (by omega);have B:(m+5 *(ed d:Int)).toNat%ed f<ed f:=Nat.mod_lt _ I;have e1:IntKind.i64.wrap (5 *(ed d:Int))=5 *(ed d:Int):=Dq (by omega) (by omega);have e2:IntKind.i64.wrap (m+5 *(ed d:Int))=m+5 *(ed d:Int):=Dq (by omega) (by omega);obtain⟨b,zM,rfl,hb,E⟩:=(BH.A F r.2.2.2.2).at B;have zF:b<wr.1.size:=gB;have⟨i,y⟩:∃i,(m+5 *(ed d:Int)).toNat%ed f=i:=⟨_,rfl⟩;rw[y]at Y B;have D:=Zv B;obtain⟨c0,_⟩:=E i _ D;have U:Hid (QM f m (ed d+1)=d++[f[i].sum]):=(by have h:=s.2.2;unfold QM at h |-;rw[range_succ,map_append,<-h,map_singleton,y,D];rfl);generalize f[i]=x at *
     clear y;obtain⟨⟨X,_⟩,⟨z4,_⟩,y⟩:=r.2.1 4 _ rfl,r.1 4 _ rfl,s.1;have zA:=y.lt g rfl;have z:=Yw s;clear E D r y s F;go_upto_region 7 with fail
     go_region_law (first
      |(refine step_append_lies (wr.drew.alloc (bs #[.string x.sum] 9)) (by rfl) (.tmp 27) (.tmp 42) 23 (by rfl) W.1.size 9 i0 Zc 1 16 underlying23 hi zB zC zE rfl (by decide) (Yz g (ed d) c) (ed d) (d.map string) (by rfl) (by exact z.1.alloc _) ⟨wr.1.size,0,an⟩ 1 1 [.string x.sum] (by rfl) rfl (by exact cell_one_new wr.drew _ 9) (fun u y=>by simp at y;subst y;rfl) (by omega) (by unfold eo;omega) (by omega) (by simp;omega) _ rfl ?_;intro V y Z H G D E))
     all_goals
      have HN:Hid (ej Z W.1.size 9 1 (Yz V (ed (d++[x.sum])) y) (ed (d++[x.sum])) ((d++[x.sum]).map string)/\Zz W Z/\d++[x.sum]=QM f m (ed (d++[x.sum]))):=(by refine⟨by simpa using H,((z.2.1.drew.alloc z.2.1.size _).grown G (by simp;omega) (fun k F=>by cases F;exact zA.1)),?_⟩;rw[Am,length_singleton];exact U.symm);clear H G D E z A K J U c0 X z4 z2 Y e1 e2;go_wp2;exact⟨⟨ed d+1,V,y,d++[x.sum],by go_num,by omega,by simp,by simp,HN⟩,by simp[intOf];omega⟩
   all_goals
    clear r;have r:Hid (Zz W wr/\Cj d=Fu f o m):=⟨s.2.1,by
     unfold Fu;rw[if_neg (by omega),show min (o/2).toNat 4=ed d by omega,<-s.2.2]⟩
    go_wp2_with fail;refine(JE c (Ad.own s.1) (by omega)).mono ?_;clear s
 case' pos=>
  have I:¬0<ed f:=by omega
  have r:Hid (Zz W (W.alloc (bs #[] 9))/\Cj ([]:Zl)=Fu f o m):=⟨Zy,by
   unfold Fu;rw[if_pos hz];rfl⟩
  clear hz;go_wp2_with fail;refine(JE 0 (Ad.own J) (by simp)).mono ?_;generalize ([]:Zl)=d at *
  generalize W.alloc (bs #[] 9)=wr at *
 all_goals
  rintro e Y ⟨E,D,rfl,H,G⟩;have z:=r.1.trans (G.mono r.1.size);have U:=Yw (VF (u1:=Yz E (ed (Cj d)) D) (u2:=.string t) (u3:=Yz E (ed (Cj d)) D) (A Y z).2.2.2.2 H (by have:=K.o;have:=r.1.size;omega));have k:Hid (Cj d=Fu f o m):=r.2;have s:=Yw (A Y z);obtain⟨⟨⟨r0,_⟩,u,_⟩,⟨X,_⟩,t1,_⟩:=Zn (s.2.2.1 0 _ rfl) (s.2.2.1 1 _ rfl),Zn (s.2.2.2.1 0 _ rfl) (s.2.2.2.1 1 _ rfl);clear A K s r z G H;go_wp2;exact Co (ca #[.string t,Yz E (ed (Cj d)) D]) (by simp[results,results17,go_sem,r0,u]) (by rw[<-k.o];exact⟨E,D,rfl,U.1,U.2⟩)
inductive EdA (v:Vd) (x:Ac):Ed->Prop
 |put (h:x.N=1):EdA v x ⟨1,⟨#[]⟩,⟨#[]⟩,x.tk,x.Y,Fu v.B x.V x.pk⟩
 |co (h:x.N=2):EdA v x ⟨2,Ds v.B x.pk v.P,x.T,0,⟨#[]⟩,[]⟩
 |unpin (h:x.N=3):EdA v x ⟨3,⟨#[]⟩,x.T,0,⟨#[]⟩,[]⟩
 |ft (h:x.N=4):EdA v x ⟨4,Ds v.B x.pk v.P,⟨#[]⟩,x.tk,⟨#[]⟩,[]⟩
 |give (h:x.N=5):EdA v x ⟨5,⟨#[]⟩,⟨#[]⟩,DN v.ls x.pk,⟨#[]⟩,[]⟩
 |wait (h:x.N=6):EdA v x ⟨6,⟨#[]⟩,⟨#[]⟩,x.tk,⟨#[]⟩,[]⟩
def Eh(v:Vd)(a:Va):Zj:=[Zg v.P,Zg v.G,Zg v.H,Zg v.E,bx a.W (ed v.B) a.j,bx a.Z (ed v.ps) a.g,bx a.X (ed v.ls) a.e]
theorem Gt(d:Dd)(a:Zj)(b:ed a=17)(X:Zh):(Instr.field 62 (ca (ee (dL d a))) 0).run prog X=.ok (Zg d.c) X:=by
 obtain⟨k,l,m,n,o,p,q,r,s,t,c,e,f,g,h,i,j,rfl⟩:=Jo b
 kernel_rfl
theorem IX{z:Dg}{b:Zi}{a:Zl}(h:∃g c,z=ca #[C0 b,Yz g (ed a) c]/\Ad X X.1.size (ai ⟨g,0,an⟩) a)(f:Zz X Y):∃g c,z=ca #[C0 b,Yz g (ed a) c]/\Ad Y Y.1.size (ai ⟨g,0,an⟩) a:=by obtain⟨g,c,d,e⟩:=h;exact⟨g,c,d,e.U f⟩
theorem VL{a:Va}(x:Ac){w:Zh}(l:Bg w w.1.size a v)(n:Iu w a v)(G:DM v)(q:x.ok)(Q:1<=v.P/\v.P<=8):
 D4 7 #[ca (ee (BI v a)),ca (ee (BW x))] w λe b=>∃c:Int,e=C1 (Zg c)/\((∃e d,EdA v x e/\Ex v e d/\c=d.c)\/(¬(1<=x.N/\x.N<=6)/\c=0))/\Zz w b:=by
 have⟨W,f⟩:=Ag ((w.alloc (bs (ee (BI v a)) 34)).alloc (bs (ee (BW x)) 42));have j:=(AT f).1;have A:Hid (∀X,Zz W X->Aa X w.1.size (BI v a)):=λX b=>Aa.A (AT f).2.2.1 b;have r:Hid (∀X,Zz W X->Aa X (w.1.size+1) (BW x)):=λX b=>Aa.A (AT f).2.2.2 b;have D:Hid (∀X,Zz W X->X.rangeAt w.1.size 4 (Eh v a)):=λX b=>Aa.fx [Zg v.wd,Zg v.J,Cw a.y v.ss a.sc,Cw a.ta v.D a.d] (Eh v a) (Xu v.I a.qa (ed v.F) a.qc a.i (ed v.ms) a.mc v.L v.K v.ro) (A X b);have p:Hid (∀X,Zz W X->Bg X X.1.size a v/\Iu X a v):=λX b=>by have m:=j.ag (b.ah j.size);exact⟨l.U m,n.A l m⟩
 have I:Hid (∀X,Zz W X->BH X X.1.size a.W v.B/\Ba X X.1.size a.X v.ls):=λX b=>⟨(p X b).1.st.k,(p X b).1.st.l⟩;have J:Hid (ed v.B<=1048576/\ed v.ls<=1048576):=⟨G.st.k,G.st.l⟩;have B:Hid (Zz w W/\True):=⟨j,trivial⟩;have C:=Yw q;have b:=Yw f;clear f j l n q;delta D4;go_in;go_upto_region 1 with fail;rw[<-b.o];clear b;obtain⟨y0,_⟩:=r W Ae 0 _ rfl;by_cases q1:x.N=1
 .have R:(x.N==1)=ay:=C9 q1
  go_upto_region 3 with fail;refine DA [9,10,11,12,13,14,15,16,17] 9 rfl _ rfl Yr Yr Yr Yr Yr Yq Yr (λ_ X=>Zz W X) (λi X z=>match i with
   |0=>z=ca (ee (BI v a))
   |1=>z=ca (ee (BW x))
   |2=>z=Yx w.1.size 4
   |3=>z=ca (ee (Eh v a))
   |4=>∃g c,z=ca #[C0 x.Y,C2 g (Fu v.B x.V x.pk) c]/\Ad X X.1.size (ai ⟨g,0,an⟩) (Fu v.B x.V x.pk)
   |5=>z=Yx (w.1.size+1) 5
   |6=>z=Zg x.tk
   |7=>∃d n,z=ca (ee (dL d n))/\Ex v ⟨1,⟨#[]⟩,⟨#[]⟩,x.tk,x.Y,Fu v.B x.V x.pk⟩ d/\ed n=17
   |8=>∃d,z=Zg d.c/\Ex v ⟨1,⟨#[]⟩,⟨#[]⟩,x.tk,x.Y,Fu v.B x.V x.pk⟩ d
   |_=>True) (λX Y=>Zz X Y) ?_ Ae.drew ?_ ?_
  .intro i X Y z E hT;rcases i with _|_|_|_|_|_|_|_|_|_<;>first
    |exact hT
    |exact IX hT E
  .intro i o k y X M F N b l K f;rcases(show i=0\/i=1\/i=2\/i=3\/i=4\/i=5\/i=6\/i=7\/i=8 by omega)with rfl|rfl|rfl|rfl|rfl|rfl|rfl|rfl|rfl<;>cases F<;>simp only[Bt,Act.put,Zq,Zp,Zo]at f |-
   .refine wp_load_mid 34 _ rfl w.1.size 0 rfl (BI v a) _ (A X b).range underlying34 rfl Yr ?_;exact f.out _ X rfl Ae b
   .refine wp_load_mid 42 _ rfl (w.1.size+1) 0 rfl (BW x) _ (r X b).range underlying42 rfl Yr ?_;exact f.out _ X rfl Ae b
   .go_simp;exact f.out _ X rfl Ae b
   .rw[show y 2=Yx w.1.size 4 from l ⟨2,dp⟩ Yu Yp]at f |-;refine wp_load_mid 30 _ rfl w.1.size 4 rfl (Eh v a) _ (D X b) underlying30 rfl Yr ?_;exact f.out _ X rfl Ae b
   .rw[show y 1=ca (ee (BW x)) from l ⟨1,dp⟩ Yu Yp,show y 3=ca (ee (Eh v a)) from l ⟨3,dp⟩ Yu Yp]at f |-;go_simp;refine(MW x.N x.V x.pk x.tk x.Y x.T v.P v.G v.H v.E a.Z a.X a.j (ed v.ps) a.g (ed v.ls) a.e (I X b).1 C.2.2.2.2.1 (C8 C.2.2.2.2.2) C.2.1 (C8 C.2.2.1) J.1).ah ?_;rintro e t ⟨g,c,rfl,F,m⟩;exact f.out _ t ⟨g,c,rfl,Ad.own F⟩ m (b.ag (m.ah b.size))
   .go_simp;exact f.out _ X rfl Ae b
   .rw[show y 5=Yx (w.1.size+1) 5 from l ⟨5,dp⟩ Yu Yp]at f |-;obtain⟨P,_⟩:=r X b 5 _ rfl;go_simp;exact f.out _ X rfl Ae b
   .obtain⟨g,c,Z,hs⟩:=l ⟨4,dp⟩ Yu Yp;rw[show y 0=ca (ee (BI v a)) from l ⟨0,dp⟩ Yu Yp,Z,show y 6=Zg x.tk from l ⟨6,dp⟩ Yu Yp]at f |-;go_simp;refine(VK (BI v a) x.Y c x.tk rfl (p X b).1 (p X b).2 G hs (λh=>by cases h) (C8 (Sm v.B x.V x.pk)) (by have:=C.1;unfold eo;omega)).ah ?_;rintro e t ⟨d,n,j,rfl,q,m⟩;exact f.out _ t ⟨d,n,rfl,j,q⟩ m (b.ag (m.ah b.size))
   obtain⟨d,n,u,j,q⟩:=l ⟨7,dp⟩ Yu Yp;rw[u]at f |-;have H:=Gt d n q X;go_simp;exact f.out _ X ⟨d,rfl,j⟩ Ae b
  intro y X b hT K f;simp only[Bt,Act.put,Zq,Zp,Zo];obtain⟨d,u,j⟩:=hT 8 Yq;rw[u];go_simp;have s:=Yw (Zn j (B.1.ag (b.ah B.1.size)));refine f.out _ _ ?_;clear f K hT;go_wp2;go_ret;exact⟨d.c,rfl,cr ⟨_,d,.put q1,s.1,rfl⟩,s.2⟩
 have R:(x.N==1)=ba:=C9 q1;by_cases q2:x.N=2
 .have S:(x.N==2)=ay:=C9 q2
  go_upto_region 5 with fail;refine DA [20,21,22,23,24,25,26,27,28] 9 rfl _ rfl Yr Yr Yr Yr Yr Yq Yr (λ_ X=>Zz W X) (λi X z=>match i with
   |0=>z=ca (ee (BI v a))
   |1=>z=Yx (w.1.size+1) 3
   |2=>z=C0 x.T
   |3=>z=ca (ee (BW x))
   |4=>z=Yx w.1.size 4
   |5=>z=ca (ee (Eh v a))
   |6=>z=C0 (Ds v.B x.pk v.P)
   |7=>∃d n,z=ca (ee (dL d n))/\Ex v ⟨2,Ds v.B x.pk v.P,x.T,0,⟨#[]⟩,[]⟩ d/\ed n=17
   |8=>∃d,z=Zg d.c/\Ex v ⟨2,Ds v.B x.pk v.P,x.T,0,⟨#[]⟩,[]⟩ d
   |_=>True) (λX Y=>Zz X Y) ?_ Ae.drew ?_ ?_
  .intro i X Y z E hT;rcases i with _|_|_|_|_|_|_|_|_|_<;>first
    |exact hT
    |exact IX hT E
  .intro i o k y X M F N b l K f;rcases(show i=0\/i=1\/i=2\/i=3\/i=4\/i=5\/i=6\/i=7\/i=8 by omega)with rfl|rfl|rfl|rfl|rfl|rfl|rfl|rfl|rfl<;>cases F<;>simp only[Bt,Act.put,Zq,Zp,Zo]at f |-
   .refine wp_load_mid 34 _ rfl w.1.size 0 rfl (BI v a) _ (A X b).range underlying34 rfl Yr ?_;exact f.out _ X rfl Ae b
   .go_simp;exact f.out _ X rfl Ae b
   .rw[show y 1=Yx (w.1.size+1) 3 from l ⟨1,dp⟩ Yu Yp]at f |-;obtain⟨P,_⟩:=r X b 3 _ rfl;go_simp;exact f.out _ X rfl Ae b
   .refine wp_load_mid 42 _ rfl (w.1.size+1) 0 rfl (BW x) _ (r X b).range underlying42 rfl Yr ?_;exact f.out _ X rfl Ae b
   .go_simp;exact f.out _ X rfl Ae b
   .rw[show y 4=Yx w.1.size 4 from l ⟨4,dp⟩ Yu Yp]at f |-;refine wp_load_mid 30 _ rfl w.1.size 4 rfl (Eh v a) _ (D X b) underlying30 rfl Yr ?_;exact f.out _ X rfl Ae b
   .rw[show y 3=ca (ee (BW x)) from l ⟨3,dp⟩ Yu Yp,show y 5=ca (ee (Eh v a)) from l ⟨5,dp⟩ Yu Yp]at f |-;go_simp;refine(JR x.N x.V x.pk x.tk x.Y x.T v.P v.G v.H v.E a.Z a.X a.j (ed v.ps) a.g (ed v.ls) a.e (I X b).1 C.2.2.2.2.1 J.1 Q).ah ?_;rintro e t ⟨rfl,m⟩;exact f.out _ t rfl m (b.ag (m.ah b.size))
   .rw[show y 0=ca (ee (BI v a)) from l ⟨0,dp⟩ Yu Yp,show y 2=C0 x.T from l ⟨2,dp⟩ Yu Yp,show y 6=C0 (Ds v.B x.pk v.P)from l ⟨6,dp⟩ Yu Yp]at f |-;go_simp;refine(Iy (.co x.T (Ds v.B x.pk v.P)) (p X b).1 (p X b).2 G I5).ah ?_;rintro e t ⟨d,n,j,rfl,q,m⟩;exact f.out _ t ⟨d,n,rfl,j,q⟩ m (b.ag (m.ah b.size))
   obtain⟨d,n,u,j,q⟩:=l ⟨7,dp⟩ Yu Yp;rw[u]at f |-;have H:=Gt d n q X;go_simp;exact f.out _ X ⟨d,rfl,j⟩ Ae b
  intro y X b hT K f;simp only[Bt,Act.put,Zq,Zp,Zo];obtain⟨d,u,j⟩:=hT 8 Yq;rw[u];go_simp;have s:=Yw (Zn j (B.1.ag (b.ah B.1.size)));refine f.out _ _ ?_;clear f K hT;go_wp2;go_ret;exact⟨d.c,rfl,cr ⟨_,d,.co q2,s.1,rfl⟩,s.2⟩
 have S:(x.N==2)=ba:=C9 q2;by_cases q3:x.N=3
 .have T:(x.N==3)=ay:=C9 q3;obtain⟨h,_⟩:=r W Ae 3 _ rfl;have L:=Yw (Iy (.unpin x.T) (p W Ae).1 (p W Ae).2 G I5);go_wp2_with (refine wpList_load_mid rfl 34 _ rfl w.1.size 0 rfl (BI v a) _ (A W Ae).range underlying34 rfl Yr ?_);refine L.Ak ?_;rintro o O ⟨d,n,j,rfl,q,m⟩;have H:=Gt d n q O;have s:=Yw (Zn j (B.1.ag (m.ah B.1.size)));clear j m L A D r p I;go_wp2;go_ret;exact⟨d.c,rfl,cr ⟨_,d,.unpin q3,s.1,rfl⟩,s.2⟩
 have T:(x.N==3)=ba:=C9 q3;by_cases q4:x.N=4
 .have U:(x.N==4)=ay:=C9 q4
  go_upto_region 9 with fail;refine DA [38,39,40,41,42,43,44,45,46] 9 rfl _ rfl Yr Yr Yr Yr Yr Yq Yr (λ_ X=>Zz W X) (λi X z=>match i with
   |0=>z=ca (ee (BI v a))
   |1=>z=ca (ee (BW x))
   |2=>z=Yx w.1.size 4
   |3=>z=ca (ee (Eh v a))
   |4=>z=C0 (Ds v.B x.pk v.P)
   |5=>z=Yx (w.1.size+1) 5
   |6=>z=Zg x.tk
   |7=>∃d n,z=ca (ee (dL d n))/\Ex v ⟨4,Ds v.B x.pk v.P,⟨#[]⟩,x.tk,⟨#[]⟩,[]⟩ d/\ed n=17
   |8=>∃d,z=Zg d.c/\Ex v ⟨4,Ds v.B x.pk v.P,⟨#[]⟩,x.tk,⟨#[]⟩,[]⟩ d
   |_=>True) (λX Y=>Zz X Y) ?_ Ae.drew ?_ ?_
  .intro i X Y z E hT;rcases i with _|_|_|_|_|_|_|_|_|_<;>first
    |exact hT
    |exact IX hT E
  .intro i o k y X M F N b l K f;rcases(show i=0\/i=1\/i=2\/i=3\/i=4\/i=5\/i=6\/i=7\/i=8 by omega)with rfl|rfl|rfl|rfl|rfl|rfl|rfl|rfl|rfl<;>cases F<;>simp only[Bt,Act.put,Zq,Zp,Zo]at f |-
   .refine wp_load_mid 34 _ rfl w.1.size 0 rfl (BI v a) _ (A X b).range underlying34 rfl Yr ?_;exact f.out _ X rfl Ae b
   .refine wp_load_mid 42 _ rfl (w.1.size+1) 0 rfl (BW x) _ (r X b).range underlying42 rfl Yr ?_;exact f.out _ X rfl Ae b
   .go_simp;exact f.out _ X rfl Ae b
   .rw[show y 2=Yx w.1.size 4 from l ⟨2,dp⟩ Yu Yp]at f |-;refine wp_load_mid 30 _ rfl w.1.size 4 rfl (Eh v a) _ (D X b) underlying30 rfl Yr ?_;exact f.out _ X rfl Ae b
   .rw[show y 1=ca (ee (BW x)) from l ⟨1,dp⟩ Yu Yp,show y 3=ca (ee (Eh v a)) from l ⟨3,dp⟩ Yu Yp]at f |-;go_simp;refine(JR x.N x.V x.pk x.tk x.Y x.T v.P v.G v.H v.E a.Z a.X a.j (ed v.ps) a.g (ed v.ls) a.e (I X b).1 C.2.2.2.2.1 J.1 Q).ah ?_;rintro e t ⟨rfl,m⟩;exact f.out _ t rfl m (b.ag (m.ah b.size))
   .go_simp;exact f.out _ X rfl Ae b
   .rw[show y 5=Yx (w.1.size+1) 5 from l ⟨5,dp⟩ Yu Yp]at f |-;obtain⟨P,_⟩:=r X b 5 _ rfl;go_simp;exact f.out _ X rfl Ae b
   .rw[show y 0=ca (ee (BI v a)) from l ⟨0,dp⟩ Yu Yp,show y 4=C0 (Ds v.B x.pk v.P)from l ⟨4,dp⟩ Yu Yp,show y 6=Zg x.tk from l ⟨6,dp⟩ Yu Yp]at f |-;go_simp;refine(Iy (.ft (Ds v.B x.pk v.P) x.tk) (p X b).1 (p X b).2 G (Aw _)).ah ?_;rintro e t ⟨d,n,j,rfl,q,m⟩;exact f.out _ t ⟨d,n,rfl,j,q⟩ m (b.ag (m.ah b.size))
   obtain⟨d,n,u,j,q⟩:=l ⟨7,dp⟩ Yu Yp;rw[u]at f |-;have H:=Gt d n q X;go_simp;exact f.out _ X ⟨d,rfl,j⟩ Ae b
  intro y X b hT K f;simp only[Bt,Act.put,Zq,Zp,Zo];obtain⟨d,u,j⟩:=hT 8 Yq;rw[u];go_simp;have s:=Yw (Zn j (B.1.ag (b.ah B.1.size)));refine f.out _ _ ?_;clear f K hT;go_wp2;go_ret;exact⟨d.c,rfl,cr ⟨_,d,.ft q4,s.1,rfl⟩,s.2⟩
 have U:(x.N==4)=ba:=C9 q4;by_cases q5:x.N=5
 .have V:(x.N==5)=ay:=C9 q5
  go_upto_region 11 with fail;refine DA [49,50,51,52,53,54,55] 7 rfl _ rfl Yr Yr Yr Yr Yr Yq Yr (λ_ X=>Zz W X) (λi X z=>match i with
   |0=>z=ca (ee (BI v a))
   |1=>z=ca (ee (BW x))
   |2=>z=Yx w.1.size 4
   |3=>z=ca (ee (Eh v a))
   |4=>z=Zg (DN v.ls x.pk)
   |5=>∃d n,z=ca (ee (dL d n))/\Ex v ⟨5,⟨#[]⟩,⟨#[]⟩,DN v.ls x.pk,⟨#[]⟩,[]⟩ d/\ed n=17
   |6=>∃d,z=Zg d.c/\Ex v ⟨5,⟨#[]⟩,⟨#[]⟩,DN v.ls x.pk,⟨#[]⟩,[]⟩ d
   |_=>True) (λX Y=>Zz X Y) ?_ Ae.drew ?_ ?_
  .intro i X Y z E hT;rcases i with _|_|_|_|_|_|_|_<;>first
    |exact hT
    |exact IX hT E
  .intro i o k y X M F N b l K f;rcases(show i=0\/i=1\/i=2\/i=3\/i=4\/i=5\/i=6 by omega)with rfl|rfl|rfl|rfl|rfl|rfl|rfl<;>cases F<;>simp only[Bt,Act.put,Zq,Zp,Zo]at f |-
   .refine wp_load_mid 34 _ rfl w.1.size 0 rfl (BI v a) _ (A X b).range underlying34 rfl Yr ?_;exact f.out _ X rfl Ae b
   .refine wp_load_mid 42 _ rfl (w.1.size+1) 0 rfl (BW x) _ (r X b).range underlying42 rfl Yr ?_;exact f.out _ X rfl Ae b
   .go_simp;exact f.out _ X rfl Ae b
   .rw[show y 2=Yx w.1.size 4 from l ⟨2,dp⟩ Yu Yp]at f |-;refine wp_load_mid 30 _ rfl w.1.size 4 rfl (Eh v a) _ (D X b) underlying30 rfl Yr ?_;exact f.out _ X rfl Ae b
   .rw[show y 1=ca (ee (BW x)) from l ⟨1,dp⟩ Yu Yp,show y 3=ca (ee (Eh v a)) from l ⟨3,dp⟩ Yu Yp]at f |-;go_simp;refine(MV x.N x.V x.pk x.tk x.Y x.T v.P v.G v.H v.E a.W a.Z (ed v.B) a.j (ed v.ps) a.g a.e (I X b).2 C.2.2.2.2.1 (C8 C.2.2.2.2.2) J.2).ah ?_;rintro e t ⟨rfl,m⟩;exact f.out _ t rfl m (b.ag (m.ah b.size))
   .rw[show y 0=ca (ee (BI v a)) from l ⟨0,dp⟩ Yu Yp,show y 4=Zg (DN v.ls x.pk)from l ⟨4,dp⟩ Yu Yp]at f |-;go_simp;refine(Iy (.give (DN v.ls x.pk)) (p X b).1 (p X b).2 G (Aw _)).ah ?_;rintro e t ⟨d,n,j,rfl,q,m⟩;exact f.out _ t ⟨d,n,rfl,j,q⟩ m (b.ag (m.ah b.size))
   obtain⟨d,n,u,j,q⟩:=l ⟨5,dp⟩ Yu Yp;rw[u]at f |-;have H:=Gt d n q X;go_simp;exact f.out _ X ⟨d,rfl,j⟩ Ae b
  intro y X b hT K f;simp only[Bt,Act.put,Zq,Zp,Zo];obtain⟨d,u,j⟩:=hT 6 Yq;rw[u];go_simp;have s:=Yw (Zn j (B.1.ag (b.ah B.1.size)));refine f.out _ _ ?_;clear f K hT;go_wp2;go_ret;exact⟨d.c,rfl,cr ⟨_,d,.give q5,s.1,rfl⟩,s.2⟩
 have V:(x.N==5)=ba:=C9 q5;by_cases q6:x.N=6
 .have f:(x.N==6)=ay:=C9 q6;obtain⟨K,_⟩:=r W Ae 5 _ rfl;have L:=Yw (Iy (.wait x.tk) (p W Ae).1 (p W Ae).2 G (Aw _));go_wp2_with (refine wpList_load_mid rfl 34 _ rfl w.1.size 0 rfl (BI v a) _ (A W Ae).range underlying34 rfl Yr ?_);refine L.Ak ?_;rintro o O ⟨d,n,j,rfl,q,m⟩;have H:=Gt d n q O;have s:=Yw (Zn j (B.1.ag (m.ah B.1.size)));clear j m L A D r p I;go_wp2;go_ret;exact⟨d.c,rfl,cr ⟨_,d,.wait q6,s.1,rfl⟩,s.2⟩
 have f:(x.N==6)=ba:=C9 q6;clear A D r p I;go_wp2;go_ret;exact⟨0,rfl,ct ⟨Yv,rfl⟩,B.1⟩
def Aem(v:Vd)(units:Int)(o:Option (UR×Nat)):Prop:=
 (¬(BY v/\0<=units/\units<=10000)/\o=an)\/∃r,Bo v r/\(0<=units/\units<=10000)/\ClTo v.E v.ps v.ls (4000 -ed (v.ss++v.D)) units.toNat 0 (Eg v) o
def YK(v:Vd)(units:Int)(w:Zh)(e:Ending)(w':Zh):Prop:=∃o cs,Aem v units o/\e=.returned (ca (ee cs))/\LH v o w.1.size w' cs/\Zz w w'
def MX(ps:List Pd)(ls:List Ld)(s:Zi):Prop:=(∃p∈ps,p.sum=s)\/∃l∈ls,l.sum=s
theorem Db.grow{J a:Int}{m:C5}{g:C7}{i:C6}{C:Zi}{v:Zi}{u:Zl}(A:Db J D j a m g i o s C E v u r)(F:o≠7):
 (∀x,MX r.ps r.ls x->MX g i x\/x=(if o=1 then r.sm else s)/\As r.B x)/\((r.B=m/\r.E=a)\/¬As m r.sm/\(∃t b,r.B=DS m ⟨r.sm,a+1,t,b⟩/\∀x∈b,As m x)/\r.E=a+1/\o=1):=by
 have B:∀(q:Ld->Bool) x,MX g (i.filter q) x->MX g i x:=λq x h=>h.imp_right λ⟨l,d,e⟩=>⟨l,(A8.1 d).1,e⟩;have w:∀(n t:Int) (z x:Zi),MX g (i++[⟨n,z,t⟩]) x->MX g i x\/x=z:=λn t z x h=>by
  rcases h with h|⟨l,d,e⟩
  .exact cr (cr h)
  rcases A5.1 d with d|d
  .exact cr (ct ⟨l,d,e⟩)
  rw[mem_singleton.1 d]at e;exact ct e.symm
 rcases A with⟨rfl,f,d,M,K,L,A,rfl⟩|⟨rfl,f,_,rfl⟩|⟨rfl,_,rfl⟩|⟨rfl,f,_,_,rfl⟩|⟨rfl,_,rfl⟩|⟨rfl,_,rfl⟩|⟨rfl,_⟩
 .rcases A with⟨k,G,I,_,rfl,rfl⟩|⟨H,_,_,rfl,rfl⟩
  .exact⟨λx b=>(w _ _ _ x b).imp_right λe=>⟨e,k,G,I.ag e.symm⟩,cr ⟨rfl,rfl⟩⟩
  exact⟨λx b=>(w _ _ _ x b).imp_right λe=>⟨e,_,Ee.2 (mem_append_right _ (mem_singleton.2 rfl)),e.symm⟩,ct ⟨H,⟨_,_,rfl,f⟩,rfl,rfl⟩⟩
 .refine⟨λx b=> ?_,cr ⟨rfl,rfl⟩⟩;rcases b with⟨p,y,rfl⟩|b
  .have c:p∈Bj g C s:=y;unfold Bj at c;rcases A5.1 c with c|c
   .rcases A5.1 c with c|c
    .exact cr (cr ⟨p,(A8.1 c).1,rfl⟩)
    rw[mem_singleton.1 c];exact ct ⟨rfl,f⟩
   exact cr (cr ⟨p,(A8.1 c).1,rfl⟩)
  exact cr (ct b)
 .exact⟨λx b=> cr (b.imp_left λ⟨p,y,e⟩=>⟨p,(A8.1 y).1,e⟩),cr ⟨rfl,rfl⟩⟩
 .exact⟨λx b=>(w _ _ _ x b).imp_right λe=>⟨e,by rw[e];exact f⟩,cr ⟨rfl,rfl⟩⟩
 .exact⟨λx b=> cr (B _ x b),cr ⟨rfl,rfl⟩⟩
 .exact⟨λx b=> cr (B _ x b),cr ⟨rfl,rfl⟩⟩
 exact absurd rfl F
structure RY (ks:List Kd) (ps:List Pd) (ls:List Ld):Prop where
 ref:∀k∈ks,YR ks k
 ij:∀s,MX ps ls s->As ks s
theorem RY.step{B a:Int}{w:C7}{v:C6}{A:Int}{H:Zi}{n:Zi}(h:RY f w v)(c:RX B a f w v)(z:Db B D i a f w v A s H E n m r):RY r.B r.ps r.ls:=by
 by_cases h7:A=7
 .rcases z with⟨e,_⟩|⟨e,_⟩|⟨e,_⟩|⟨e,_⟩|⟨e,_⟩|⟨e,_⟩|⟨_,_,y,rfl⟩
  all_goals try omega
  have d:∀{x},x≠s->As f x->∃u∈Ch f s,u∈f/\u.sum=x:=λc ⟨u,b,e⟩=>⟨u,A8.2 ⟨b,by simp[e,c]⟩,b,e⟩;refine⟨λk d x c=> ?_,λx c=> ?_⟩
  .have o:k∈f:=(A8.1 d).1;have⟨u,b,e,G⟩:=h.ref k o x c;exact⟨u,A8.2 ⟨b,by simp;exact λl=>y (ct ⟨k,o,by rw[<-l,e];exact c⟩)⟩,e,G⟩
  obtain⟨u,b,_,e⟩:=d (λe=>y (cr (e▸c))) (h.ij x c);exact⟨u,b,e⟩
 obtain⟨l,F⟩:=z.grow h7;rcases F with⟨e,_⟩|⟨_,⟨t,I,e,C⟩,_⟩
 .refine⟨by rw[e];exact h.ref,λx c=> ?_⟩;rcases l x c with g|g
  .rw[e];exact h.ij x g
  exact g.2
 have p:∀{u},u∈f->u∈r.B:=λb=>by rw[e];exact Ee.2 (mem_append_left _ b)
 refine⟨λk d x j=> ?_,λx c=> ?_⟩
 .rw[e]at d;rcases A5.1 (Ee.1 d)with d|d
  .obtain⟨u,b,q⟩:=h.ref k d x j;exact⟨u,p b,q⟩
  rw[mem_singleton.1 d]at j |-;have⟨u,b,q⟩:=C x j;have:=(c.b1 u b).2;exact⟨u,p b,q,by show u.born<a+1;omega⟩
 rcases l x c with g|g
 .obtain⟨u,b,q⟩:=h.ij x g;exact⟨u,p b,q⟩
 exact g.2
theorem Cc.ry{b:Int}:∀{xs:Zl} {r r':Rs},Cc b r xs r'->r.ok b->RX b r.E r.B r.ps r.ls->RY r.B r.ps r.ls->RY r'.B r'.ps r'.ls
 |[],r,r',h,_,_,hx=>by obtain rfl:r'=r:=h;exact hx
 |x::xs,r,r',h,hr,hx,hy=>by obtain⟨d,a,c⟩:=h;exact Cc.ry c (a.ok hr) (hx.step hr a.2) (hy.step hx a.2)
theorem Bo.ry(h:Bo v r):RY v.B v.ps v.ls:=by have a:RY r.B r.ps r.ls:=h.run.ry (Fq h.wd.1 h.wd.2) ⟨by simp[r0],by simp[r0],by simp[r0],by simp[r0],by simp[r0]⟩ ⟨by simp[r0],by simp[r0,MX]⟩;have⟨_,b,c,d⟩:=h.same;rw[b,c,d]at a;exact a
structure Tri (ks:List Kd) (ps:List Pd) (ls:List Ld) (at_:Int) (qs ms:Zl):Prop where
 sub:∀s∈ms,As ks s
 ij:∀s,MX ps ls s->s∈ms\/s∈qs
 ref:∀k∈ks,k.sum∈ms->∀r∈k.C,r∈ms\/r∈qs
 old:∀k∈ks,at_<=k.born->k.sum∈ms\/k.sum∈qs
structure NV (n:Nat) (v:Vd):Prop where
 ok:BY v
 lg:ed v.ss+ed v.D<=n
 ro:v.ro<=n
 q:ed v.F<=300+30 *ed v.ms+n
 jf:v.I≠0->Tri v.B v.ps v.ls v.K v.F v.ms
theorem NV.mono{m:Nat}(h:NV n v)(a:n<=m):NV m v:=
 ⟨h.ok,Zm h.lg a,C8 h.ro,C8 h.q,h.jf⟩
abbrev NV.ah:=@NV.mono
theorem NV.cmd{d:Dd}(h:NV n v)(N:n<=3000)(h7:e.N≠7)(hd:Ex v e d):NV (n+1) d.v:=by
 rcases hd with⟨g,_⟩|⟨⟨r,m⟩,⟨c,a,b,_,rfl⟩|⟨f,hy,rfl⟩⟩
 .exact absurd h.ok g
 .exact h.ah (Nat.le_succ n)
 obtain⟨H,z,M,hl⟩:=hy;obtain⟨⟨O,G⟩,B,zC,R⟩:=Db.grow z h7,m.round,m.jx.1,m.fg.step H z;have zB:=B.dy.T;have hq:=h.q;have F:¬ed v.F=23200:=Yv;have zA:v.E<=f.E:=by rcases G with⟨_,e⟩|⟨_,_,e,_⟩<;>omega
 have y:∀x∈v.F,x∈shQ v.I f.B v.F v.ms (e.held f):=λx l=>by
  unfold shQ;split
  .exact mem_append_left _ l
  exact l
 have p:v.I≠0->As f.B (e.held f)->e.held f∈v.ms\/e.held f∈shQ v.I f.B v.F v.ms (e.held f):=λD E=>by
  by_cases hm:e.held f∈v.ms
  .exact cr hm
  rw[Nx D E hm F];exact ct (mem_append_right _ (mem_singleton.2 rfl))
 have I:MG v.wd (shQ v.I f.B v.F v.ms (e.held f)) v.ms/\ed (shQ v.I f.B v.F v.ms (e.held f))<=ed v.F+1/\(v.I=0->shQ v.I f.B v.F v.ms (e.held f)=v.F):=by
  have i:=B.dy;have g:=i.nq;refine⟨?_,?_,λD=>FE (cr D)⟩
  .unfold shQ;split
   .next J=>
    refine⟨by rw[Am,length_singleton];omega,i.T,λx l=> ?_,i.m,i.nd⟩;rcases A5.1 l with l|l
    .exact i.q x l
    rw[mem_singleton.1 l];exact Hk R.bn J.2.1
   exact i
  unfold shQ;split
  .rw[Am,length_singleton];omega
  omega
 have⟨⟨T,U,V,W⟩,X,Y,Z⟩:=m.same;have S:IS v.wd r (e.cf v.wd) f:=by unfold IS;rw[show AI (e.cf v.wd) v.wd=⟨e.N,e.s,e.T,e.M,e.Y,e.V,ay⟩from KH H];refine⟨rfl,?_⟩;show Db v.wd r.G r.H r.E r.B r.ps r.ls e.N e.s e.T e.M e.Y e.V f;rw[U,V,W,X,Y,Z];exact z
 have K:=Dn.1 m.log;refine⟨⟨f,m.wd,m.J,Dn.2 ⟨?_,λx l=> ?_⟩,?_,⟨⟨T,rfl,rfl,rfl⟩,rfl,rfl,rfl⟩,⟨B.ig,B.jg,I.1,?_⟩⟩,?_,?_,?_,λD=> ?_⟩
 .show (ed v.ss)+ed (v.D++[e.cf v.wd])<=4000;rw[Am,length_singleton];omega
 .have w:x∈v.ss++(v.D++[e.cf v.wd]):=l;rw[<-append_assoc]at w;rcases A5.1 w with w|w
  .exact K.2 x w
  rw[mem_singleton.1 w];exact Ed.dw H
 .show Cc v.wd r0 (v.ss++(v.D++[e.cf v.wd])) f;rw[<-append_assoc];exact Cc.snoc S m.run
 .show Er f.E v.I v.L v.K (shQ v.I f.B v.F v.ms (e.held f)) v.ms;rcases B.I with⟨g,o,A⟩|⟨g,o,A,L⟩|⟨g,o,A,L⟩
  .exact cr ⟨g,by rw[I.2.2 g];exact o,A⟩
  .exact ct (cr ⟨g,o,Yv,L⟩)
  exact ct (ct ⟨g,o,Yv,L⟩)
 .show (ed v.ss)+ed (v.D++[e.cf v.wd])<=n+1;have:=h.lg;rw[Am,length_singleton];omega
 .have:=h.ro;show v.ro<=((n+1:Nat):Int);omega
 .show ed (shQ v.I f.B v.F v.ms (e.held f))<=300+30 *ed v.ms+(n+1);have:=I.2.1;omega
 have E:=h.jf D;have hi:∀x,As v.B x->As f.B x:=λx ⟨u,hu,q⟩=>by
  rcases G with⟨C,_⟩|⟨_,⟨t,rf,C,_⟩,_⟩
  .rw[C];exact⟨u,hu,q⟩
  rw[C];exact⟨u,Ee.2 (mem_append_left _ hu),q⟩
 have J:∀k∈f.B,k∈v.B\/(¬As v.B k.sum/\k.sum=e.held f/\As f.B k.sum):=λk j=>by
  rcases G with⟨C,_⟩|⟨N,⟨t,rf,C,_⟩,_,Q⟩
  .rw[C]at j;exact cr j
  have P:=j;rw[C]at j;rcases A5.1 (Ee.1 j)with j|j
  .exact cr j
  have i:k.sum=f.sm:=by rw[mem_singleton.1 j]
  exact ct ⟨by rw[i];exact N,by rw[i];unfold Ed.held;rw[if_pos Q],k,P,rfl⟩
 refine⟨λs i=>hi s (E.sub s i),λs i=> ?_,λk j i x l=> ?_,λk j M=> ?_⟩
 .rcases O s i with g|⟨g,o⟩
  .exact(E.ij s g).imp_right (y s)
  have A:s=e.held f:=g;rw[A]at o |-;exact p D o
 .rcases J k j with g|⟨g,_⟩
  .exact(E.ref k g i x l).imp_right (y x)
  exact absurd (E.sub _ i) g
 rcases J k j with g|⟨_,o,A⟩
 .exact(E.old k g M).imp_right (y _)
 rw[o]at A |-;exact p D A
theorem Agp{a:Int}(b:1<=a)(c:a<=8)(d:(s.size:Int)=a):Ca 7 s ⟨#[]⟩ 0 ⟨#[]⟩ [] a=ay:=by simp[Ca,CL,DW,Ig,Ej,GN,DR,Dx,CH,CC,b,c,d];rfl
theorem YM{a:Zl}{r:Zi}(b:r∈a):r∈ms\/r∈fresh ms a:=by
 by_cases h:r∈ms
 .exact cr h
 refine ct (A8.2 ⟨b,?_⟩);simp;exact λx c e=>h (e▸c)
theorem NV.unit{r:UR}(h:NV n v)(hn:n<=3000)(i:Ju v.ps v.ls v.E (Eg v) r):NV (n+1) (DD v r)/\(r.I=2->r.K≠v.K->∀k∈r.B,k.born=r.K->k.sum∈r.ms)/\ed r.ms<=600:=by
 have⟨r0,g⟩:=h.ok;obtain⟨hc,S,K,w⟩:=Sk g,g.ry,g.jx.1,g.round;obtain⟨I,o,T,hq,zI,Z⟩:=w.dy,g.fg,Dn.1 g.log,h.q,h.lg,h.ro;obtain⟨C,zA,W⟩:=I.T,o.bi,o.bn.nd;have hlen:∀ms:Zl,ms.Nodup->(∀s∈ms,As v.B s)->ed ms<=600:=λms c B=>by have:=XK (u:=v.B.map (·.sum)) c (λx d=>by have⟨u,E,e⟩:=B x d;exact mem_map.2 ⟨u,E,e⟩);rw[A7]at this;exact Zm this o.bn.len
 have Y:(Eg v).ro≠1000000000:=by show v.ro≠1000000000;omega
 have P:∀{ds},r.ds=ds->ds=[]\/ed (Eg v).ds<4000 -ed (v.ss++v.D):=λ_=> ct (by show 0<_;rw[Am];omega);have R:v.I≠0->0<=v.L/\v.L<=v.E/\v.K<=v.L+1/\(v.I=1/\v.K=v.L+1\/v.I=2/\1<=v.K):=λG=>by rcases w.I with c|c|c<;>omega
 have J:∀{ph top at_ ro:Int} {qs ms:Zl},r=⟨v.B,ph,top,at_,ro,qs,ms,[]⟩->ms.Nodup->ed ms<=600->ed qs<=300+30 *ed ms+(n+1)->0<=ro->ro<=n+1->Er v.E ph top at_ qs ms->(ph≠0->Tri v.B v.ps v.ls at_ qs ms)->NV (n+1) (DD v r):=λ{ph top at_ ro qs ms} e c B h3 h4 h5 h6 h7=>by
  have q:=hc.step i Y (by rw[e];show ed qs<=_;omega) (by rw[e];exact B) (P rfl);subst e;have e0:(DD v ⟨v.B,ph,top,at_,ro,qs,ms,[]⟩)={v with I:=ph,F:=qs,ms:=ms,L:=top,K:=at_,ro:=ro}:=by simp[DD]
  rw[e0];exact⟨⟨r0,g.wd,g.J,g.log,g.run,g.same,⟨h4,by show ro<=_;omega,⟨by show ed qs<=_;omega,B,q.ok.jo,q.ok.iq,c⟩,h6⟩⟩,by show ed v.ss+ed v.D<=n+1;omega,by show ro<=((n+1:Nat):Int);omega,h3,h7⟩
 cases i with
 |begin h0=>
  have zG:v.I=0:=h0;have V:v.ms=[]:=by rcases w.I with c|c|c<;>first|exact c.2.2.1|omega
  have hl:=MN o.np o.nl;refine⟨J rfl I.nd C ?_ w.ig K7 (ct (cr ⟨rfl,zA,Int.le_refl _,rfl⟩)) (λ_=>⟨λs q=> ?_,λs q=> ?_,λk _ q=> ?_,λk f j=> ?_⟩),λB=> ?_,C⟩
  .omega
  .rw[show(Eg v).ms=v.ms from rfl,V]at q;cases q
  .refine ct (Tz.2 ?_);unfold Tx;rcases q with⟨p,G,e⟩|⟨l,hl,e⟩
   .exact mem_append_left _ (mem_map.2 ⟨p,G,e⟩)
   exact mem_append_right _ (mem_map.2 ⟨l,hl,e⟩)
  .rw[show(Eg v).ms=v.ms from rfl,V]at q;cases q
  .have:=(K.b1 k f).2;omega
  exact absurd B (by show ¬(1:Int)=2;omega)
 |mark h0 s q0 qs' ms' hqq D=>
  have G:v.I≠0:=h0;have m:v.F=s::q0:=hqq;have i:=h.jf G;have t:=R G;have zK:ed q0+1=ed v.F:=by rw[m];rfl
  have hP:∀{qs ms:Zl},Er v.E v.I v.L v.K qs ms:=λ{qs ms}=>by
   rcases t.2.2.2 with c|c
   .exact ct (cr ⟨c.1,t.1,t.2.1,c.2⟩)
   exact ct (ct ⟨c.1,t.1,t.2.1,c.2,t.2.2.1⟩)
  rcases D with⟨q,rfl,rfl⟩|⟨k,f,e,zB,rfl,rfl⟩
  .have L:∀x,As v.B x->x∈v.ms\/x∈v.F->x∈v.ms\/x∈qs':=λx d c=>by
    rcases c with c|c
    .exact cr c
    rw[m]at c;rcases Bh.1 c with rfl|c
    .exact cr (q.resolve_left λhn=>hn d)
    exact ct c
   refine⟨J rfl I.nd C (by show ed qs'<=300+30 *ed v.ms+(n+1);omega) w.ig K7 hP (λ_=>⟨i.sub,λx d=>L x (S.ij x d) (i.ij x d),λk f d x A=>L x ?_ (i.ref k f d x A),λk f j=>L _ ⟨k,f,rfl⟩ (i.old k f j)⟩),λ_ B=>absurd rfl B,C⟩;have⟨u,E,e,_⟩:=S.ref k f x A;exact⟨u,E,e⟩
  have L:∀x,x∈v.ms\/x∈v.F->x∈v.ms++[s]\/x∈q0++fresh (v.ms++[s]) k.C:=λx c=>by
   rcases c with c|c
   .exact cr (mem_append_left _ c)
   rw[m]at c;rcases Bh.1 c with rfl|c
   .exact cr Yu
   exact ct (mem_append_left _ c)
  have M:(v.ms++[s]).Nodup:=nodup_append.2 ⟨I.nd,Yu,λa F b j e=>zB (by rw[<-mem_singleton.1 j,<-e];exact F)⟩;have N:∀x∈v.ms++[s],As v.B x:=λx d=>by
   rcases A5.1 d with d|d
   .exact i.sub x d
   rw[mem_singleton.1 d];exact⟨k,f,e⟩
  have U:=hlen _ M N;have zH:ed (fresh (v.ms++[s]) k.C)<=30:=Zm (length_filter_le _ _) (o.dz k f);refine⟨J rfl M U ?_ w.ig K7 hP (λ_=>⟨N,λx d=>L x (i.ij x d),λy H d x A=> ?_,λy H j=>L _ (i.old y H j)⟩),λ_ B=>absurd rfl B,U⟩
  .show ed (q0++fresh (v.ms++[s]) k.C)<=300+30 *ed (v.ms++[s])+(n+1);rw[Am,Am,length_singleton];omega
  rcases A5.1 d with d|d
  .exact L x (i.ref y H d x A)
  have zF:y=k:=ET W H f ((mem_singleton.1 d).ag e.symm);rw[zF]at A;exact(YM (ms:=v.ms++[s]) A).imp_right (mem_append_right _)
 |rest h0 hqq hno=>have:=w.ig;exact⟨J rfl nodup_nil (Aw _) (Aw _) (by show 0<=v.ro+1;omega) (by show v.ro+1<=_;omega) (cr ⟨rfl,rfl,rfl,rfl,rfl⟩) (λc=>absurd rfl c),λB=>absurd B (by show ¬(0:Int)=2;omega),Aw _⟩
 |ak h0 hqq u E f=>
  have G:v.I≠0:=h0;have m:v.F=[]:=hqq;have i:=h.jf G;have t:=R G;have F:u∈v.B:=E.1;have zE:u.born<v.K:=E.2.1;have Q:∀y∈v.B,y.born<v.K->y.born<=u.born:=E.2.2;have D:∀{x},x∈v.ms\/x∈v.F->x∈v.ms:=λd=>by rw[m]at d;exact d.resolve_right Yu
  have j:=K.b1 u F;have O:u.sum∈v.ms:=by
   rcases f with c|c|⟨y,H,Z⟩
   .exact c
   .exact D (i.ij _ c)
   by_cases hys:y.sum∈v.ms
   .exact D (i.ref y H hys _ Z)
   obtain⟨z,hz,e,zJ⟩:=S.ref y H _ Z;obtain rfl:=ET W hz F e;exfalso;by_cases hyb:y.born<v.K
   .have:=Q y H hyb;omega
   exact hys (D (i.old y H Yv))
  have hold:∀k∈v.B,u.born<=k.born->k.sum∈v.ms:=λk f j=>by
   by_cases hkb:k.born<v.K
   .have:=Q k f hkb;rw[K.un k f u F Yv];exact O
   exact D (i.old k f Yv)
  refine⟨J rfl I.nd C (Aw _) w.ig K7 (ct (ct ⟨rfl,t.1,t.2.1,j.1,by show u.born<=v.L+1;omega⟩)) (λ_=>⟨i.sub,λx d=> cr (D (i.ij x d)),λk f d x A=> cr (D (i.ref k f d x A)),λk f j=> cr (hold k f j)⟩),λ_ _ k f j=>hold k f ?_,C⟩;have:k.born=u.born:=j;omega
 |drop h0 hqq u E hmm f=>
  have G:v.I≠0:=h0;have m:v.F=[]:=hqq;have i:=h.jf G;have t:=R G;have F:u∈v.B:=E.1;have zE:u.born<v.K:=E.2.1;have Q:∀y∈v.B,y.born<v.K->y.born<=u.born:=E.2.2;have D:∀{x},x∈v.ms\/x∈v.F->x∈v.ms:=λd=>by rw[m]at d;exact d.resolve_right Yu
  have j:=K.b1 u F;have a:u.sum∉v.ms:=hmm;have O:∀{k},k∈Ch v.B u.sum->k∈v.B/\k.sum≠u.sum:=λf=>by simpa [Ch]using f
  have q:=hc.step (.drop h0 hqq u E hmm f) Y (by show 0<=_;omega) C (P rfl);have X:Ca 7 u.sum ⟨#[]⟩ 0 ⟨#[]⟩ [] v.wd=ay:=Agp g.wd.1 g.wd.2 (o.bn.sz u F);have⟨⟨b,e2,e3,e4⟩,e5,e6,e7⟩:=g.same;have P:IS v.wd r0 (DQ v.wd u.sum) ⟨⟨#[]⟩,0,v.G,v.H,v.E,Ch v.B u.sum,v.ps,v.ls⟩:=by unfold IS DQ;rw[KH X];refine⟨rfl,?_⟩;show Db v.wd r0.G r0.H r0.E r0.B r0.ps r0.ls 7 u.sum _ _ _ _ _;rw[e2,e3,e4,e5,e6,e7];exact ct (ct (ct (ct (ct (ct ⟨rfl,⟨u,F,rfl⟩,f,rfl⟩)))))
  have zC:(DQ v.wd u.sum).size<=5000:=Ed.dw (e:=⟨7,u.sum,⟨#[]⟩,0,⟨#[]⟩,[]⟩) X;have hold:∀k∈Ch v.B u.sum,u.born<=k.born->k.sum∈v.ms:=λk f j=>by
   have⟨c,B⟩:=O f;by_cases hkb:k.born<v.K
   .have:=Q k c hkb;exact absurd (by rw[K.un k c u F Yv]) B
   exact D (i.old k c Yv)
  refine⟨⟨⟨⟨⟨#[]⟩,0,v.G,v.H,v.E,Ch v.B u.sum,v.ps,v.ls⟩,g.wd,g.J,Dn.2 ⟨?_,λx d=> ?_⟩,?_,⟨⟨b,rfl,rfl,rfl⟩,rfl,rfl,rfl⟩,⟨w.ig,w.jg,⟨Aw _,C,(λs q=>by cases q),I.m,I.nd⟩,ct (ct ⟨rfl,t.1,t.2.1,j.1,by show u.born<=v.L+1;omega⟩)⟩⟩,?_,by show v.ro<=((n+1:Nat):Int);omega,Aw _,λ_=>⟨λs q=> ?_,λx d=> cr (D (i.ij x d)),λk f d x A=> cr (D (i.ref k (O f).1 d x A)),λk f j=> cr (hold k f j)⟩⟩,λ_ _ k f j=>hold k f ?_,C⟩
  .show (ed v.ss)+ed (v.D++[DQ v.wd u.sum])<=4000;rw[Am,length_singleton];omega
  .have A:x∈v.ss++(v.D++[DQ v.wd u.sum]):=d;rw[<-append_assoc]at A;rcases A5.1 A with A|A
   .exact T.2 x A
   rw[mem_singleton.1 A];exact zC
  .show Cc v.wd Go.Proofs.YtfmeclmjdpbacaaGreatDoor.r0 (v.ss++(v.D++[DQ v.wd u.sum])) _;rw[<-append_assoc];exact Cc.snoc P g.run
  .show (ed v.ss)+ed (v.D++[DQ v.wd u.sum])<=n+1;rw[Am,length_singleton];omega
  .obtain⟨y,H,e⟩:=i.sub s q;exact⟨y,A8.2 ⟨H,by simp;rintro c;exact a (by rw[<-c,e];exact q)⟩,e⟩
  have:k.born=u.born:=j;omega
theorem NV.clear{free m:Nat}(g:m+N<=3000)(f:3000<free+(ed v.ss+ed v.D)):∀{n:Nat} {u:UR} {o:Option (UR×Nat)},ClTo v.E v.ps v.ls free N n u o->n<=N->NV (m+n) (DD v u)->∃a,o=ai (a,N)/\NV (m+N) (DD v a):=by
 intro n u o h;induction h with
 |fin n u h=>
  intro c a;obtain rfl:n=N:=Yv
  exact⟨u,rfl,a⟩
 |old n u h hr=>intro _ a;have:u.ro<=((m+n:Nat):Int):=a.ro;omega
 |full n u r h hr ht hd hf'=>intro _ a;have b:ed v.ss+ed (v.D++u.ds.map (DQ v.wd))<=m+n:=a.lg;rw[Am,A7]at b;omega
 |long n u r h hr ht hl=>intro _ a;have b:=NV.unit a Yv (v:=DD v u) (r:=r) ht;have d:ed r.F<=300+30 *ed r.ms+(m+n+1):=b.1.q;have:=b.2.2;omega
 |step n u r o h hr ht hq hm' hf' hs ih=>
  intro _ a;have b:=(NV.unit a Yv (v:=DD v u) (r:=r) ht).1;refine ih Yv ?_;have e:DD (DD v u) r=DD v (u.and r):=by simp[DD,UR.and]
  rw[<-e];exact b
theorem NV.ix{o:Option (UR×Nat)}(h:NV n v)(e:n+N<=3000)(f:Aem v N o):∃u,o=ai (u,N)/\NV (n+N) (DD v u)/\(N=1->u.I=2->u.K≠v.K->∀k∈u.B,k.born=u.K->k.sum∈u.ms):=by
 have g:=h.lg;rcases f with⟨a,_⟩|⟨r,i,_,b⟩
 .exact absurd ⟨h.ok,Yv,Yv⟩ a
 rw[Int.toNat_natCast]at b;have c:DD v (Eg v)=v:=by simp[DD,Eg]
 obtain⟨u,rfl,d⟩:=NV.clear (m:=n) e (by rw[Am];omega) b (Aw _) (by rw[c];exact h);refine⟨u,rfl,d,λa=> ?_⟩;subst a;cases b with
 |step _ _ r' _ _ _ ht _ _ _ hs=>
  cases hs with
  |fin _ _ h3=>exact(NV.unit h Yv ht).2.1
  |full _ _ _ h3=>omega
  |step _ _ _ _ h3=>omega
theorem NV.flush(h:NV n v):NV n (OH v (AX v.ss v.D (ed v.D))):=by have⟨r,a⟩:=h.ok;refine⟨⟨r,a.gh⟩,?_,h.ro,h.q,h.jf⟩;have:=h.lg;show ed (AX v.ss v.D (ed v.D))+0<=n;simp[AX,a.log];omega
theorem NV.opened{b c:Int}{a:Zl}(l:ed a<=n)(i:Gi k b a [] c u)(g:c=0):NV n u:=by
 subst g;rcases i with⟨_,h,_⟩|⟨⟨d,e,f⟩,⟨_,h,_⟩|⟨r,j,_,rfl⟩⟩
 .omega
 .omega
 exact⟨⟨r,d,e,f,j,⟨⟨rfl,rfl,rfl,rfl⟩,rfl,rfl,rfl⟩,⟨Int.le_refl _,by show(0:Int)<=1000000000;omega,⟨Aw _,Aw _,by simp[IU],by simp[IU],nodup_nil⟩,cr ⟨rfl,rfl,rfl,rfl,rfl⟩⟩⟩,by show ed a+0<=n;omega,by show(0:Int)<=n;omega,Aw _,λh=>absurd rfl h⟩
theorem NV.lose{c:Int}(h:NV n v)(b:Gi v.wd v.J (AX v.ss v.D k) [] c u):NV n u:=by have⟨r,a⟩:=h.ok;have⟨e,_,_,d⟩:=a.left k;obtain⟨rfl,_⟩:=b.dq d;refine NV.opened ?_ b rfl;have:=h.lg;simp[AX,a.log];omega
structure LB (w wr:Zh) (lb:Nat) (S U:Value) (ss ts:Zl):Prop where
 box:Aa wr lb [S,U]
 rb:Aa wr w.1.size [Zb,Zb]
 s:Ah wr (w.1.size+1) S ss
 u:Ah wr (w.1.size+1) U ts
 ap:∀g,Aj S=ai g->Aj U≠ai g/\g≠lb
 au:∀g,Aj U=ai g->g≠lb
 lo:w.1.size+1<=lb
 cn:bg (w.1.size+1) (w.alloc (bs #[Zb,Zb] 25)) wr
theorem LB.w{w:Zh}{lb:Nat}{S:Dg}{ss a:Zl}(h:LB w wr lb S U ss a):bg w.1.size w wr:=
 (Zy).ag (h.cn.ah Yv)
theorem VM{w:Zh}{a:Nat}{e:TypeId}{size:Nat}{v:Dg}{b:Zj}(h:ej w a e size v n b):Aj v=v.ownBlock:=by rcases h.2 with⟨rfl,_⟩|⟨f,c,d,rfl,_⟩<;>rfl
theorem LB.step{w:Zh}{d:Nat}{S f:Dg}{n p k:Zl}(h:LB w wr d S U n p)(i:Zz wr X)(l:Tn (d::(Aj U).toList) X Z)(o:Ah Z (w.1.size+1) f k)(m:∀g,Aj f=ai g->Aj U=ai g\/X.1.size<=g)(j:Aa Z d [S,f]):LB w Z d S f n k:=by
 obtain⟨q,dm,s⟩:=h.box.lt,h.lo,i.size;have b:∀g,g∈d::(Aj U).toList->w.1.size+1<=g:=λg a=>by
  rcases Bh.1 a with e|e
  .omega
  exact(h.u.S (C9 e)).1
 have r:=h.rb.lt;refine⟨j,Aa.same (Aa.A h.rb i) (l.block _ Yv (λe=>C8 (b _ e))),(h.s.A i).O l (λg a e=> ?_),o,λg a=>⟨λe=> ?_,(h.ap g a).2⟩,λg a=> ?_,h.lo,(h.cn.ag (i.ah Yv)).ag (l.A Yv b)⟩
 .rcases Bh.1 e with e|e
  .exact(h.ap g a).2 e
  exact(h.ap g a).1 (C9 e)
 .rcases m g e with c|c
  .exact(h.ap g a).1 c
  have:=(h.s.S a).2;omega
 rcases m g a with c|c
 .exact h.au g c
 omega
theorem Pk(k:Nat)(d:Int){F G L:Zk}(M N dc:Nat){b c a:Zl}{w:Zh}(B:eh w (Zd k 2)=ai (Zg d))(C:eh w (Zd k 4)=ai (Cx F (ed b) M))(D:eh w (Zd k 5)=ai (Cx G (ed c) N))(E:k<w.1.size)(o:Ad w w.1.size F b)(q:Ad w w.1.size G c)(m:Ad w w.1.size L a)(zA:ed b<=1048576)(zB:ed c<=1048576)(zH:ed a<=1000)(l:∀X s,Zz w X->D4 120 #[ca #[Zg 7,C0 s,Zc,Ze,Zc,Zb],Zg d] X λe f=>e=C1 (C0 (DQ d s))/\Zz X f):
 D4 78 #[Yy k,Cx L (ed a) dc] w λe f=>∃S U,e=C1 (ca #[S,U])/\Ah f w.1.size S b/\Ah f w.1.size U (c++a.map (DQ d))/\(∀g,Aj S=ai g->Aj U≠ai g)/\Zz w f:=by
 have⟨W,h⟩:=Du w #[Zb,Zb] 25;obtain⟨f,u,t⟩:=(Av h).1,(Av h).2.1,(Av h).2.2;have A:eh W (Zd k 4)=ai (Cw F b M):=(f.cell (p:=⟨k,4,an⟩) E).ag C;have I:eh W (Zd k 5)=ai (Cw G c N):=(f.cell (p:=⟨k,5,an⟩) E).ag D;have P:Hid (∀X,Zz w X->Ad X X.1.size L a/\eh X (Zd k 2)=ai (Zg d)):=λX n=>⟨m.U n,(n.cell (p:=⟨k,2,an⟩) E).ag B⟩;obtain⟨r,HF,J⟩:=Yw (GO M N (o.U f) (q.U f) zA zB),Yw l,Yw h;have z:Hid (Aa W w.1.size [Zb,Zb]):=t;have Z:Hid (Zz w W/\W.1.size=w.1.size+1):=⟨f,u⟩;clear B C D o q m l h t f u;delta D4;go_in;go_upto_region 1 with fail;rw[<-J.o];go_wp2_with fail;refine r.Ak ?_;rintro e l ⟨x,m,y,K,rfl,o,t,H,q⟩;clear r A I;have⟨A,f⟩:=Du l #[Cw x b m,Cw y c K] 25;obtain⟨r,R,Q,zK⟩:=(Av f).1,(Av f).2.2,Z.2,q.size;have O:LB w A l.1.size (Cw x b m) (Cw y c K) b c:=by
  have S:Ah A W.1.size (Cw x b m) b:=(Ah.own o).A r;have zC:Ah A W.1.size (Cw y c K) c:=(Ah.own t).A r;refine⟨R,Aa.A (Aa.A z q) r,S.ah Yv,zC.ah Yv,λg h=>⟨λe=> ?_,?_⟩,λg h=> ?_,Yv,?_⟩
  .rw[VM o]at h;rw[VM t]at e;exact H g h e
  .have:=((Ah.own o).S h).2;omega
  .have:=((Ah.own t).S h).2;omega
  rw[<-J.o];exact(q.ah Yv).ag (r.ah Yv)
 have I:=Yw O;have u:=Yw f;clear f r R O o t H q J z Q;have f:l.1.size<A.1.size:=(I.box).lt;go_wp2;rw[<-u.o];clear u;go_loopw [16] (λi wr=>∃(j:Nat) (U:Dg),j<=ed a/\i=Zg j/\Hid (LB w wr l.1.size (Cw x b m) U b (c++(a.take j).map (DQ d)))) (λi _=>ed a -(intOf i).toNat)
 case atStart=>exact⟨0,_,Aw _,rfl,by show LB _ _ _ _ _ _ _;simpa using I.o⟩
 clear I f;obtain⟨j,U,hj,rfl,f⟩:=hrel;have⟨r,t,H,_⟩:=f.u.row;have zJ:ed (c++(a.take j).map (DQ d))<=1100000:=Yt;by_cases hlt:j<ed a
 .obtain⟨db,zF,i,zG,q⟩:=(P wr f.w).1.at hlt;subst i;have HG:Hid (a[j]?=ai a[j]):=Zv hlt;have c0:=q j _ HG;have k2:=(P wr f.w).2;have V:Hid (c++(a.take (j+1)).map (DQ d)=(c++(a.take j).map (DQ d))++[DQ d a[j]]):=by show _=_;rw[Zu hlt,map_append,<-append_assoc];rfl
  clear q;generalize a[j]=s at *
  generalize hts:c++(a.take j).map (DQ d)=ts at *
  subst H;obtain⟨n1,_⟩:=f.box 1 _ rfl;have zE:=f.box.lt;have zI:k<wr.1.size:=Zr E f.w.size;have R:Hid (∀X,Zz wr X->∃u z Y,(Builtin.append_ #[23,23] 23 #[Cw r ts t,Yz X.1.size 1 1]).run prog (X.alloc (bs #[C0 (DQ d s)] 9))=.ok (Cx u (ed ts+1) z) Y/\Aa Y l.1.size [Cw x b m,Cw r ts t]/\LB w (Y.setCell (Zd (l.1.size) 1) (Cx u (ed ts+1) z)) l.1.size (Cw x b m) (Cx u (ed ts+1) z) b (ts++[DQ d s])):=λX n=>by
   have dm:=f.lo;have Q:=n.size;have⟨u,z,Y,h1,B,h3,C,D⟩:=Afj l.1.size 1 (DQ d s) (f.u.A n) (λg h=>f.au g h) Yv Yv Yv;have q:Aa Y l.1.size [Cw x b m,Cw r ts t]:=Aa.same (Aa.A f.box n) B;exact⟨u,z,Y,h1,q,f.step n h3 C D (q.set 1 _)⟩
  have T:=Yw (HF wr.drew s f.w.drew);go_upto_region 5 with fail
  go_region_law (first
   |(go_simp;go_at_call 120;refine T.Ak ?_;rintro e O ⟨rfl,I⟩;have J:bg wr.1.size wr O:=CA I;have zf:=J.size;have⟨u,z,Y,hr,q,hL⟩:=R O J;have o:=Aa.A f.box J;have m1:=(o 1 _ rfl).1;obtain⟨y1,X⟩:=q 1 _ rfl;have a1:eh (O.alloc (bs #[C0 (DQ d s)] 9)) (Zd (l.1.size) 1)=ai (Cw r ts t):=(Aa.A o (Zy) 1 _ rfl).1;have n:=Yw hL;clear o q hL I;go_wp2_with fail)
   |(refine CK Yp (.tmp 21) (.tmp 30) 23 23 Yp Yp Yp hr ?_))
  all_goals
   go_wp2;exact⟨⟨j+1,_,Yv,Yn,by rw[V.o];exact n⟩,Ys⟩
 obtain rfl:j=ed a:=Yv;have o:=f.o;rw[Zt (Zx)]at o;have n:=Yw o;subst H;obtain⟨⟨s,_⟩,⟨l1,_⟩,⟨r0,I⟩,q,X⟩:=o.box 0 _ rfl,o.box 1 _ rfl,o.rb 0 _ rfl,o.rb 1 _ rfl;clear o;generalize hts:ed (c++(a.take (ed a)).map (DQ d))=tn at *
 go_wp2;have hT:Tn [w.1.size] wr ((wr.setCell (Zd (w.1.size) 0) (Cw x b m)).setCell (Zd (w.1.size) 1) (Cx r tn t)):=(Bi _ _ _ _).ag (Bi _ _ _ _);refine Co (ca #[Cw x b m,Cx r tn t]) (by simp[results,results78,go_sem,r0,q]) ⟨_,_,rfl,(n.s.O hT (λg h e=> ?_)).ah Yv,(n.u.O hT (λg h e=> ?_)).ah Yv,λg h=>(n.ap g h).1,n.w.ag (hT.A n.w.size Yu)⟩
 .have:=(n.s.S h).1;simp at e;omega
 have:=(n.u.S h).1;simp at e;omega
theorem Gi.nil{a c:Int}(d:1<=a/\a<=8)(h:Gi a 1000000 [] [] c u):c=0/\u.wd=a/\NV 0 u:=by
 have b:=h;rcases h with⟨h,_⟩|⟨_,⟨⟨n,k,r,x,_,h,_⟩,_⟩|⟨r,e,rfl,rfl⟩⟩
 .exact absurd ⟨d,⟨Yv,Yv⟩,rfl⟩ h
 .simp at h
 exact⟨rfl,rfl,NV.opened (Zx) b rfl⟩
def StA(w:Zh)(e:Ending)(w':Zh):Prop:=∃(u:Vd) (S U T P L Q M:Value) (rs:Zj),e=.returned (.tuple #[ca (ee (AV u S U T P L Q M)),ec ay])/\NV 0 u/\Ay w' w.1.size S U T P L Q M rs u/\Zz w w'
theorem TT(a:Zk)(n c:Nat){w:Zh}(m:Env w)(hn:n<=eo)(H:n=0\/∃q d,a=ai ⟨q,d,an⟩/\q<w.1.size/\∀j,j<n->∃x:Int,eh w (Zd q (d+j))=ai (.int .u8 x)/\0<=x/\x<256)(hc:n<=c):
 D4 4 #[Cx a n c] w (StA w):=by
 have⟨W,f⟩:=Du w Xp 34;have d:=(Av f).1;have V:Hid (Aa W w.1.size BG):=(Av (l:=BG) f).2.2;have g:=Yw (Lj a n c W hn (Sa.A H d) hc);have B:Hid (Zz w W/\Env W):=⟨d,m.A d⟩;have i:=Yw f;clear f H m d;delta D4;go_in;go_upto_region 1 with fail;rw[<-i.o];clear i;go_wp2_with fail;refine g.Ak ?_;rintro e x ⟨⟨T,wd,rfl,hT,_,_⟩,d⟩;have p:Hid (Zz W x):=d;clear d g;go_upto_if 17 with fail;go_cut [6,17] (λt _ d=>∃k:Int,t=Zg k/\(1<=k/\k<=8)/\d=x)
 case first=>
  have hm:((T.size:Int).tmod 3)=((T.size%3:Nat):Int):=by rw[Int.tmod_eq_emod_of_nonneg Yv];simp
  by_cases t:T.size%3=0
  .have zA:(((T.size%3:Nat):Int)==0)=ay:=Yt;go_wp2;go_meet;exact⟨1,rfl,Yv,rfl⟩
  have zA:(((T.size%3:Nat):Int)==0)=ba:=Yt;go_wp2;go_meet;exact⟨8,rfl,Yv,rfl⟩
 obtain⟨k,rfl,hk,d⟩:=hcut;rw[d];clear d wc hT;have d:=Yw (OC k 1000000 an an 0 0 [] [] (cr rfl) (cr rfl) (Aw _) (Aw _) Yu Yu (B.2.A p));go_wp2_with fail;refine d.Ak ?_;clear d;rintro e d ⟨cd,u,S,U,E,P,L,Q,M,rs,ho,rfl,G,N⟩;obtain⟨rfl,R,O⟩:=ho.nil hk;have X:AV u S U E P L Q M=[Zg u.wd,Zg u.J,S,U,Zg u.P,Zg u.G,Zg u.H,Zg u.E,E,P,L,Zg u.I,Q,M,Zg u.L,Zg u.K,Zg u.ro]:=rfl;have⟨D,i⟩:=Ag (AV u S U E P L Q M);rw[<-X,<-i];have o:ed D=17/\∀y∈D,y.oneCell'=ay:=by have⟨a',e',_⟩:=G.io;rw[i,e'];exact⟨rfl,by simp[AV,oneCell']⟩
 have⟨F,m⟩:=Du d Xp 34;have⟨f,r⟩:=Ag (F.setCells d.1.size 0 (ee D).toList);have K:Aa F d.1.size BG:=(Av (l:=BG) m).2.2;have Y:Tn [d.1.size] F f:=by rw[r];exact Ap _ _ _ _
 have Z:bg d.1.size d f:=(Av m).1.ag (Y.A (Av m).1.size Yu);have x6:Aa f d.1.size D:=by rw[r];exact K.ax D (by rw[o.1];rfl)
 have z:bg W.1.size W d:=p.ag (N.ah p.size);have g:Hid (F.there d.1.size 0 (ee D).size/\ed D=17/\∀y∈D,y.oneCell'=ay):=⟨by rw[show (ee D).size=17 from by rw[Az];exact o.1];exact K.there,o⟩;have s:Hid (Aa f.drew d.1.size D/\D[0]?=ai (Zg k)):=⟨λj v A=>x6 j v A,by rw[i,<-R];rfl⟩;have y:w.1.size<d.1.size:=by have:=z.size;have:=V.lt;omega
 have h:bg W.1.size W f.drew:=z.ag ((Z.ag Ae.drew).ah z.size);have j:Aa f.drew w.1.size BG:=Aa.A (v:=Ze) V h;have I:=Ap w.1.size D 0 f.drew;have C:Hid (f.drew.there w.1.size 0 (ee D).size/\Aa (f.drew.setCells w.1.size 0 (ee D).toList) w.1.size D/\Aa (f.drew.setCells w.1.size 0 (ee D).toList) d.1.size D/\StA w (.returned (.tuple #[ca (ee D),ec ay])) (f.drew.setCells w.1.size 0 (ee D).toList)):=by
  refine⟨?_,j.ax D (by rw[o.1];rfl),Aa.same s.1 (I.block _ (s.1.gy o.1) Yt),u,S,U,E,P,L,Q,M,rs,by rw[i],O,?_,?_⟩
  .rw[show (ee D).size=17 from by rw[Az];exact o.1];exact j.there
  .have v:=z.size;have h2:=p.size;exact((G.A (Z.ag Ae.drew)).stays I (λb H A=>by have:=G.lo b A;simp at H;have:=V.lt;omega)).ah (C8 B.1.size)
  have t:=B.1.ag (h.ah B.1.size);exact t.ag (I.A t.size Yu)
 have A:=Yw m;have J:=Yw r;clear m r K Y Z x6 z o X i G N O ho R h j I;go_upto_region 6 with(refine wpList_store_mid rfl 34 _ _ rfl d.1.size 0 (ee D) rfl rfl (by rw[<-A.o];exact g.1) (by rw[Az,g.2.1];kernel_rfl) (all_oneCell_toArray g.2.2) ?_);rw[<-A.o,<-J.o];clear A J;generalize d.1.size=q at *
 refine wp_region_held_drew (S:=λX=>Aa X q D) Yr s.1 (λhS=> ?_);refine Di 0 (ca (ee D)) rfl (yieldsIf_load_mid Yp 34 _ rfl q 0 rfl D _ (λX h=>h.range) underlying34 rfl (by rw[g.2.1];kernel_rfl)) ?_;refine AK 1 Ze ?_;refine AK 2 (ec ay) ?_;refine AK 3 (ec ay) ?_;refine AK 4 (Yy q) ?_;refine Di 5 (Zg k) rfl (Or.inl ⟨Yp,λX h=>by obtain⟨m,_⟩:=h 0 _ s.2;go_simp⟩) ?_;refine AK 6 (Zg k) ?_;simp only[Act.put,Zq,Zp,Zo];refine AK 7 (ec (k==k)) ?_;rw[show(k==k)=ay from by simp];simp only[Act.put,Zq,Zp,Zo];refine AK 8 (ec ay) ?_;simp only[Act.put,Zq,Zp,Zo];refine Bk 9 (λK d=> ?_);rw[if_pos Yp];refine wp_store_mid 34 _ _ rfl w.1.size 0 (ee D) rfl rfl C.1 (by rw[Az,g.2.1];kernel_rfl) (all_oneCell_toArray g.2.2) ?_;refine d.out _ _ C.2.2.1 (λi=> ?_);clear d K s;refine AK 10 (ec ay) ?_;try simp only[Act.put]
 refine wpAnyH_done Yr ?_ _;go_wp2_with fail;exact bodyPost_ret (Dz results4 _ _ w.1.size D _ rfl rfl (Aa.range C.2.1) underlying34 rfl (by rw[g.2.1];kernel_rfl)) rfl C.2.2.2
