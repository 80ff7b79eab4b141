import Derived.Test.YtoanjdndmlffdaaGreatDoorSiteA
set_option maxHeartbeats 8000000
set_option maxRecDepth 100000
namespace Go.Proofs.YtoanjdndmlffdaaGreatDoor
open Go.RowKit
section
open Tryz Go.Maps
def q9d (w:World) (ws:List Wr) (e:Ending) (w':World):Prop:=∃g c,e=.returned (.slice (PT g) ws.length c)/\qr w' (PT g) c ws/\w.heap.size<=g/\Bw w w'
theorem jbz (p:Addr) (n c:Nat) (w:World):(binOp .eql 88 (.slice (some p) n c) (.slice none 0 0)).run prog w=.ok (.bool false) w:=by kernel_rfl
variable {ws:List Wr}
theorem q2l {a:Option Addr} {cap:Nat} (w:World) (t:qr w a cap ws) (f:1<=ws.length) (y:ws.length<=1000):
 Ca 274 #[.slice a ws.length cap] w (q9d w ws):=by
 obtain⟨b,d,rfl,z⟩:∃b d,a=some (AD b d)/\qbo w b d ws:=by
  rcases t.held with e|e
  ·rw[e]at f;simp at f
  exact e
 have O:=t.len;obtain⟨B,hi,C,E,F⟩:=info_parts qmn;have G:=qjq w 100 rfl w.heap.size (jcd _);have i:=boxed (jcc _ w) (.cells #[] 100);have H:=hd1 (qsc (z.later i));have k:=hd2 f y;have P:=jbz;go_enter func274,ntmps274
 go_wp2_with (at_builtin;refine wpList_append_lies _ rfl (.tmp 5) (.tmp 6) 88 rfl w.heap.size 100 B (.agg #[U 0,.string ⟨#[]⟩,.bool false]) 3 32 underlying88 hi C E F rfl (by decide) (.slice (PT w.heap.size) 0 0) 0 [] rfl G (AD b d) ws.length cap (qcf ws) rfl (qdt ws) H.out (qji ws) (by have:=k.out;omega) (by have:=k.out;simp only[maxLen];omega) (by have:=k.out;omega) (by simp) _ rfl ?_;intro g I R x J K T)
 go_ret;rw[Nat.zero_add,jda]at x;obtain⟨a2,V,p,L⟩:=qbg x;injection p with p _ e3;subst p e3
 have M:w.heap.size<=g:=by
  rcases K with h|h
  ·simp[Value.ownBlock]at h;omega
  simp at h;omega
 refine⟨g,I,rfl,L,M,?_⟩;exact i.grown J i.size (λj N=>by simp[Value.ownBlock]at N;omega)
variable {W:World} {b:Nat}
theorem qco {k:Nat} (h:k≠b) (x0 x1 x2 x3 d e f g:Int) (v:Value):(js W b x0 x1 x2 x3 d e f g v).heap[k]?=W.heap[k]?:=
 (jce _ _ _ _ h).trans ((jce _ _ _ _ h).trans ((jce _ _ _ _ h).trans ((jce _ _ _ _ h).trans ((jce _ _ _ _ h).trans ((jce _ _ _ _ h).trans ((jce _ _ _ _ h).trans ((jce _ _ _ _ h).trans (jce _ _ _ _ h))))))))
variable {c:Nat}
theorem qtu {d:List Value} (h:qd W b d) (e:b≠c) (x0 x1 x2 x3 f g i j:Int) (v:Value):qd (js W c x0 x1 x2 x3 f g i j v) b d:=
 h.kept (qco e _ _ _ _ _ _ _ _ _) (by simp[js,World.setCell])
variable {w:World} {r:Option Nat}
theorem qb6 {p:Addr} (h:w.grownBy W r) (f:w.heap.size<=p.block) (v:Value):w.grownBy (W.setCell p v) r:=
 ⟨h.os,h.tape,h.output,by simpa[World.setCell]using h.size,λk d e=>(jce _ _ _ _ (by omega)).trans (h.block k d e)⟩
theorem q7i (h:w.grownBy W r) (d:w.heap.size<=b) (x0 x1 x2 x3 e f g i:Int) (v:Value):w.grownBy (js W b x0 x1 x2 x3 e f g i v) r:=
 qb6 (qb6 (qb6 (qb6 (qb6 (qb6 (qb6 (qb6 (qb6 h d _) d _) d _) d _) d _) d _) d _) d _) d _
def qxf (w:World) (t:TxP) (e:Ending) (w':World):Prop:=∃m,m.t=t/\e=.returned (txV m)/\qr w' m.wa m.wc m.t.ws/\(∀k,m.blk k->w.heap.size<=k)/\Bw w w'
theorem q5m {y:World} {g:Nat} {d f wall h i j t x:Int} {v:Value} (W1:qr y (PT g) c ws) (G:w.heap.size+2<=g) (z:Bw w y):
 qxf w ⟨d,f,wall,h,i,j,t,x,ws⟩ (.returned (txV ⟨⟨d,f,wall,h,i,j,t,x,ws⟩,some (AD g 0),c⟩)) (js (y.setCell (AD w.heap.size 8) v) (w.heap.size+1) d f wall h i j t x v):=by
 have A:=z.setCell (p:=AD w.heap.size 8) (jcd _) v;have B:=qd9 A (Nat.le_succ _) d f wall h i j t x v
 have C:g≠w.heap.size+1:=by omega
 have E:g≠w.heap.size:=by omega
 have F:(js (y.setCell (AD w.heap.size 8) v) (w.heap.size+1) d f wall h i j t x v).heap[g]?=y.heap[g]?:=(qco C d f wall h i j t x v).trans (jce _ _ _ _ E)
 generalize js (y.setCell (AD w.heap.size 8) v) (w.heap.size+1) d f wall h i j t x v=W at*
 refine⟨⟨⟨d,f,wall,h,i,j,t,x,ws⟩,some (AD g 0),c⟩,rfl,rfl,?_,?_,B⟩
 ·refine qr.kept (m:=⟨⟨d,f,wall,h,i,j,t,x,ws⟩,some (AD g 0),c⟩) (w:=y) W1 (λk e=>?_);obtain⟨_,o,e⟩:=e;injection e with e;injection e with e1 e2;rw[<-e1];exact F
 rintro k ⟨_,o,e⟩;injection e with e;injection e with e1 e2;omega
variable {m:TxM}
theorem qta {tmps:Array Value} (h:qd w b (txC m)) (d:tmps[2]?=some (PP b)):
 (results f245 tmps).run prog w=.ok (txV m) w:=by
 obtain⟨e,f,g,i,j,k,p,t,x⟩:=h.c9;simp[results,results245,go_sem,d,e,f,g,i,j,k,p,t,x,txV]
theorem qgq (m:TxM) (w:World) (F:qr w m.wa m.wc m.t.ws) (B:1<=m.t.ws.length) (G:m.t.ws.length<=1000):
 Ca 245 #[txV m] w (qxf w m.t):=by
 obtain⟨⟨d,h,wall,i,j,k,p,x,ws⟩,a,cap⟩:=m;simp only at F B G;show Ca 245 #[.agg (List.toArray (T9 d h wall i j k p x a ws.length cap))] w _;have y:=(qd.new (w:=w) (T:=102) (T9 d h wall i j k p x a ws.length cap) rfl).boxed (.cells ZA 102);have z:=qd.new (w:=w.alloc (.cells (List.toArray (T9 d h wall i j k p x a ws.length cap)) 102)) (T:=102) (n:=w.heap.size+1) ZL (by simp);have C:=boxed (boxed (jcc _ w) (.cells (List.toArray (T9 d h wall i j k p x a ws.length cap)) 102)) (.cells ZA 102);have I:=F.later C;have P:=y.c 8;go_enter func245,ntmps245
 go_wp2_with fail
 refine(q2l _ I B G).mono ?_;rintro e H ⟨g,c,rfl,W1,J,E⟩;replace y:=y.later E;replace z:=z.later E;replace C:=qa C E;have R:=y.f 8;have RS:=y.set 8 (.slice (PT g) ws.length c) (by simp);have K:=z.far (AD w.heap.size 8) (.slice (PT g) ws.length c) (by simp)
 have V:g<H.heap.size:=by
  rcases W1.held with e|⟨X,Y,e,L⟩
  ·rw[e]at B;simp at B
  injection e with e;injection e with e1 e2;subst e1;exact jcr _ _ (L 0 (by omega)).1
 have M:w.heap.size+2<=g:=by simpa using J
 obtain⟨Z,c1,c2,c3,c4,c5,c6,c7,c8⟩:=y.c9;obtain⟨z0,z1,z2,z3,z4,z5,z6,z7,z8⟩:=z.f9;obtain⟨y0,y1,y2,y3,y4,y5,y6,y7,y8⟩:=z.c9;have N:=yz K rfl d h wall i j k p x (.slice (PT g) ws.length c);have O:Hid (qxf w ⟨d,h,wall,i,j,k,p,x,ws⟩ (.returned (txV ⟨⟨d,h,wall,i,j,k,p,x,ws⟩,some (AD g 0),c⟩)) (js (H.setCell (AD w.heap.size 8) (.slice (PT g) ws.length c)) (w.heap.size+1) d h wall i j k p x (.slice (PT g) ws.length c))):=q5m W1 M C
 go_wp2_with fail
 exact bodyPost_ret (qta (m:=⟨⟨d,h,wall,i,j,k,p,x,ws⟩,some (AD g 0),c⟩) N rfl) rfl O.out
variable {w':World} {bm:Nat} {D:DataW Value}
theorem qd5.put {ws:List TxM} (e:∀x∈ws,wfN x) (i:qgu (ws.map (·.t))) (j:w.ownsMap prog 338 qcd bm ws.length D) (k:qo5 D ws) (f:wfN m) (g:∀x∈ws,vv x.t m.t=false)
 (p:w'.ownsMap prog 338 qcd bm (ws.length+1) (D.put (qed m.t.site m.t.seq) (.held (txV m)))):qd5 w' bm (ws++[m]):=by
 refine⟨λx d=>?_,?_,_,by rw[jcl];exact p,q1m (j.tidy qk2) k e f g⟩
 ·rcases jcf.1 d with h|h
  ·exact e x h
  rw[jcj.1 h];exact f
 rw[jdb];refine qgu.snoc i (λx d=>?_);obtain⟨y,z,rfl⟩:=jcz.1 d;exact g y z
theorem qd5.del {ws:List TxM} (d:∀x∈ws,wfN x) (e:qgu (ws.map (·.t))) (h:w.ownsMap prog 338 qcd bm ws.length D) (i:qo5 D ws) (j:m∈ws)
 (k:w'.ownsMap prog 338 qcd bm ws.length (D.del (qed m.t.site m.t.seq))):qd5 w' bm (qgc ws m.t):=by
 have f:=q1j (h.tidy qk2) i d e j;refine⟨λx p=>d x (qh2.1 p).1,by rw[qm0];exact e.drop _,_,?_,f⟩;obtain⟨y,z,B,C,E,g⟩:=k;refine⟨y,z,B,C,?_,g⟩;have:=f.size;rw[g]at this;simp[Maps.size,length_sorted]at this;omega
variable {l:List TxM}
theorem q0o (m:TxM) (w:World) (z:qd5 w bm l) (d:wfN m) (B:∀x∈l,vv x.t m.t=false) (C:l.length<=1000):
 Ca 255 #[.map (some bm),txV m] w λe w'=>e=.returned (.tuple #[])/\qd5 w' bm (l++[m])/\w.grownBy w' (some bm):=by
 obtain⟨E,F,D,y,G⟩:=z;have H:Hid (∀w',_->qd5 w' bm (l++[m])):=λw'=>qd5.put (w':=w') E F y G d B;have I:=hd1 (qqe d.1 d.2);have J:=hd1 C;obtain⟨⟨f,g,wall,h,i,j,k,p,ws⟩,a,cap⟩:=m;have K:=World.grownBy_alloc w (.cells (List.toArray (T9 f g wall h i j k p a ws.length cap)) 102) (some bm);have L:=y.alloc (.cells (List.toArray (T9 f g wall h i j k p a ws.length cap)) 102);show Ca 255 #[.map (some bm),.agg (List.toArray (T9 f g wall h i j k p a ws.length cap))] w _;go_enter func255,ntmps255
 go_wp2_with (at_mapUpdate;refine wpList_mapUpdate_in _ rfl _ _ _ 214 rfl 338 102 qk2 underlying214 qcd bm l.length D rfl L (by have:=J.out;simp only[maxLen];omega) _ _ _ rfl rfl I.out _ _ rfl ?_;intro w2 M N)
 go_end0;exact⟨rfl,H.out w2 M,K.trans N.grown⟩
theorem qmj {v:Value} {d:DataW Value} {ps:List MemPlace} (h:qcd v=some (d,ps)):d=.held v:=by
 unfold qcd at h;injection h with h;injection h with h1 h2;exact h1.symm
variable {o:Oper} {a:Act} {Q:Exit->Act->World->Prop} {n:Nat} {s q:Int} {u:Value} {v:Bool}
theorem qu4 {g:Array Oper} {rest:List Oper} (w:World) (h:o.guard=none) (d f:Operand) (i:o.op=Op.lookup 214 d f true)
 (j:a.eval d=.map (some bm)) (k:w.ownsMap prog 338 qcd bm n D) (p:a.eval f=qtn s q) (t:keyOf prog 338 (qtn s q)=some (qed s q)) (x:Maps.has D (qed s q)=v) (y:D.atKey (qed s q) (.held qyo)=.held u)
 (z:wpList prog g Q rest (a.put o.dst (.tuple #[u,.bool v])) w):wpList prog g Q (o::rest) a w:=by
 refine wpList_lookup_own_ok w h d f 214 i 338 102 qk2 underlying214 qcd (q0m w) (.held qyo) [] rfl bm n D j k (qtn s q) (qed s q) p t ?_;intro C ps B;have e:=qmj B;rw[y]at e;injection e with e;rw[<-e,x];exact z
theorem qsv {d:Array Oper} {rest:List Oper} (w:World) (h:o.guard=none) (f g:Operand) (i:o.op=Op.lookup 214 f g false)
 (j:a.eval f=.map (some bm)) (k:w.ownsMap prog 338 qcd bm n D) (p:a.eval g=qtn s q) (t:keyOf prog 338 (qtn s q)=some (qed s q)) (x:D.atKey (qed s q) (.held qyo)=.held u)
 (y:wpList prog d Q rest (a.put o.dst u) w):wpList prog d Q (o::rest) a w:=by
 refine wpList_plain h λE z=>?_;obtain⟨F,ps,B,C⟩:=k.lookup qk2 underlying214 (q0m w) (zd:=.held qyo) (zp:=[]) rfl t;have e:=qmj C;rw[x]at e;injection e with e;subst e;unfold Oper.wp;simp[execOp,i,j,p,B,Result.andThen];exact z _ _ y
theorem qty {tmps:Array Value} (h:qd w b (txC m)) (d:tmps[6]?=some (PP b)) (e:tmps[7]?=some (.bool v)):
 (results f276 tmps).run prog w=.ok (.tuple #[txV m,.bool v]) w:=by
 obtain⟨f,g,i,j,k,p,t,x,y⟩:=h.c9;simp[results,results276,go_sem,d,e,f,g,i,j,k,p,t,x,y,txV]
def tx0:TxM:=⟨⟨0,0,0,0,0,0,0,0,[]⟩,none,0⟩
structure qpl (l:List TxM) (s q:Int) (m:TxM) (v:Bool):Prop where
 yes:v=true->m∈l/\m.t.site=s/\m.t.seq=q
 no:v=false->m=tx0/\∀x∈l,¬(x.t.site=s/\x.t.seq=q)
theorem q0t (l:List TxM) (s q:Int):∃m v,qpl l s q m v:=by
 by_cases h:∃m∈l,m.t.site=s/\m.t.seq=q
 ·obtain⟨m,d,f,g⟩:=h;exact⟨m,true,λ_=>⟨d,f,g⟩,λe=>by cases e⟩
 exact⟨tx0,false,λe=>(by cases e),λ_=>⟨rfl,λx i e=>h ⟨x,i,e⟩⟩⟩
theorem qvd (p:qpl l s q m v) (t:wfI s) (x:wfI q) (w:World) (z:qd5 w bm l):
 Ca 276 #[.map (some bm),U s,U q] w (Rn (.tuple #[txV m,.bool v]) w):=by
 obtain⟨M,N,D,B,y⟩:=z;have C:=hd1 (qqe t x)
 have E:Maps.has D (qed s q)=v/\D.atKey (qed s q) (.held qyo)=.held (txV m):=by
  cases v with
  |true=>
   obtain⟨p1,p2,p3⟩:=p.yes rfl;have:=y.has m p1;rw[p2,p3]at this;exact⟨this.1,this.2 _⟩
  |false=>
   obtain⟨p1,p2⟩:=p.no rfl;have e:=y.no s q t x p2;exact⟨e,by rw[atKey_of_not_has e,p1];rfl⟩
 obtain⟨F,G⟩:=E;have H:=B.alloc (.cells ZA 102);have O:=boxed (boxed (jcc _ w) (.cells ZA 102)) (.cells ZA 102);have I:=hd1 G;have J:=hd1 F;obtain⟨⟨d,f,wall,g,h,i,j,k,ws⟩,a,cap⟩:=m;have K:=(qd.new (w:=w) (T:=102) (T9 d f wall g h i j k a ws.length cap) rfl).boxed (.cells (List.toArray (T9 d f wall g h i j k a ws.length cap)) 102);have L:=boxed (boxed (jcc _ w) (.cells (List.toArray (T9 d f wall g h i j k a ws.length cap)) 102)) (.cells (List.toArray (T9 d f wall g h i j k a ws.length cap)) 102);go_enter func276,ntmps276
 go_wp2_with (at_lookup;refine qu4 _ rfl _ _ rfl (u:=.agg (List.toArray (T9 d f wall g h i j k a ws.length cap))) rfl H rfl C.out J.out I.out ?_)
 exact bodyPost_ret (qty (m:=⟨⟨d,f,wall,g,h,i,j,k,ws⟩,a,cap⟩) K rfl rfl) rfl ⟨rfl,L⟩
theorem jac (d:qpl l s q m v) (f:wfI s) (g:wfI q) (w:World) (h:qd5 w bm l):
 Ca 253 #[.map (some bm),U s,U q] w (Rn (.bool v) w):=by
 have F:=qvd d f g w h;obtain⟨⟨j,k,wall,p,t,x,y,z,ws⟩,a,cap⟩:=m;go_enter func253,ntmps253
 go_wp2_with fail
 refine F.mono ?_;rintro e B ⟨rfl,i⟩;simp only[txV]
 go_wp2_with fail
 go_ret;exact⟨rfl,boxed i _⟩
theorem qtp {tmps:Array Value} (h:qd w b (txC m)) (d:tmps[6]?=some (PP b)):
 (results f279 tmps).run prog w=.ok (txV m) w:=by
 obtain⟨e,f,g,i,j,k,p,t,x⟩:=h.c9;simp[results,results279,go_sem,d,e,f,g,i,j,k,p,t,x,txV]
theorem q46 (z:m∈l) (w:World) (E:qd5 w bm l):
 Ca 279 #[.map (some bm),U m.t.site,U m.t.seq] w λe w'=>e=.returned (txV m)/\qd5 w' bm (qgc l m.t)/\w.grownBy w' (some bm):=by
 have J:=E.lt;obtain⟨B,K,D,F,G⟩:=E;have H:=hd1 (qqe (B m z).1 (B m z).2);have L:Hid (D.atKey (qed m.t.site m.t.seq) (.held qyo)=.held (txV m)):=(G.has m z).2 _;have M:=hd1 (λw'=>qd5.del (w':=w') B K F G z);have I:=F.alloc (.cells ZA 102);obtain⟨⟨h,i,wall,j,k,p,x,y,ws⟩,a,cap⟩:=m;have N:=I.alloc (.cells (List.toArray (T9 h i wall j k p x y a ws.length cap)) 102);have O:=qd.new (w:=w.alloc (.cells ZA 102)) (T:=102) (n:=w.heap.size+1) (T9 h i wall j k p x y a ws.length cap) (by simp);have P:=(qd.new (w:=w) (T:=102) ZL rfl).boxed (.cells (List.toArray (T9 h i wall j k p x y a ws.length cap)) 102);have R:=(World.grownBy_alloc w (.cells ZA 102) (some bm)).trans (World.grownBy_alloc _ (.cells (List.toArray (T9 h i wall j k p x y a ws.length cap)) 102) (some bm));go_enter func279,ntmps279
 go_wp2_with (first|(at_lookup;refine qsv _ rfl _ _ rfl (u:=.agg (List.toArray (T9 h i wall j k p x y a ws.length cap))) rfl I rfl H.out L.out ?_)|(at_delete;refine wpList_delete_own _ rfl _ _ 214 338 rfl 102 qk2 underlying214 qcd bm l.length D rfl N _ _ rfl H.out ?_;intro V X C;have g:=O.grown C.grown (λe=>by injection e with e;omega);have d:=P.grown C.grown (λe=>by injection e with e;omega);have Y:=g.c 0;have Z:=d.c 0;have z0:=d.f 0;have c1:=g.c 1;have y1:=d.c 1;have z1:=d.f 1;have c2:=g.c 2;have y2:=d.c 2;have z2:=d.f 2;have c3:=g.c 3;have y3:=d.c 3;have z3:=d.f 3;have c4:=g.c 4;have y4:=d.c 4;have z4:=d.f 4;have c5:=g.c 5;have y5:=d.c 5;have z5:=d.f 5;have c6:=g.c 6;have y6:=d.c 6;have z6:=d.f 6;have c7:=g.c 7;have y7:=d.c 7;have z7:=d.f 7;have c8:=g.c 8;have y8:=d.c 8;have z8:=d.f 8))
 exact bodyPost_ret (qtp (m:=⟨⟨h,i,wall,j,k,p,x,y,ws⟩,a,cap⟩) (yz d rfl h i wall j k p x y (.slice a ws.length cap)) rfl) rfl ⟨rfl,(M.out V X).kept (qco (Nat.ne_of_lt J) _ _ _ _ _ _ _ _ _),q7i (R.trans C.grown) (jcd _) _ _ _ _ _ _ _ _ _⟩
variable {lv:Value} {S:qe}
theorem qe0 {F:Nat->Prop} {log waits:List TxM} (d:decide (200<=log.length)=v) (w:World) (h:zf w b lv bm F S log waits):
 Ca 242 #[PP b] w (Rn (.bool v) w):=by
 obtain⟨f,lc,rfl,g⟩:=yx h.rlog;have i:=h.box.c 7
 have e:decide ((200:Int)<=(log.length:Int))=v:=by rw[<-d];exact decide_eq_decide.2 (by omega)
 go_enter func242,ntmps242
 go_wp2_with fail
 go_ret;refine⟨?_,jcc _ _⟩
 first|rfl|(simp[e])
theorem qmz (e:0<=s) (f:s<=3):(qab S lv bm)[1+s.toNat]?=some (U (qp s S.a0 S.a1 S.a2 S.a3)):=by
 have d:s=0\/s=1\/s=2\/s=3:=by omega
 rcases d with rfl|rfl|rfl|rfl<;>rfl
end
theorem qd1 {x:Int} (h:qag x):wrap64 (x+1)=x+1:=by
 obtain⟨a,b⟩:=h;unfold wrap64;omega
theorem qnn {b:Nat} {lv:Value} {bm:Nat} {F:Nat->Prop} {S:qe} {log waits:List TxM} {v:Bool} (m:TxM) (w:World) (h:zf w b lv bm F S log waits) (y:0<=m.t.site) (z:m.t.site<=3) (p:qag (qp m.t.site S.a0 S.a1 S.a2 S.a3)) (e:qz S m.t=v):
 Ca 254 #[PP b,txV m] w (Rn (.bool v) w):=by
 obtain⟨⟨g,d,wall,q,i,j,k,l,ws⟩,a,cap⟩:=m;simp only at y z p e;have r:=boxed (jcc _ w) (.cells (List.toArray (T9 g d wall q i j k l a ws.length cap)) 102);have f:=qd.new (w:=w) (T:=102) (T9 g d wall q i j k l a ws.length cap) rfl;have I:=qb.one;have n:=h.later r;have J:=qb.cell (f.c 0);have K:=qb.cell (f.c 1);have L:=qb.cell (f.c 4);have M:=qb.cell (f.c 5);have N:=qb.cell (f.c 6);have O:=qb.cell (f.c 7);have P:=qb.cell (n.box.c 1);have Q:=qb.cell (n.box.c 2);have R:=qb.cell (n.box.c 3);have V:=qb.cell (n.box.c 4);have C:=qb.cell (n.box.cell _ _ (qmz y z));have s:qz S ⟨g,d,wall,q,i,j,k,l,ws⟩=(decide (d=qp g S.a0 S.a1 S.a2 S.a3+1)&&qa8 S.a0 S.a1 S.a2 S.a3 i j k l):=rfl;obtain⟨D,B⟩:∃D,qp g S.a0 S.a1 S.a2 S.a3=D:=⟨_,rfl⟩;rw[B]at C p s;rw[s]at e;have W:=qd1 p;clear s h n f B;show Ca 254 #[PP b,.agg (List.toArray (T9 g d wall q i j k l a ws.length cap))] w _;by_cases o:d=D+1
 ·have E:(d==D+1)=true:=by simp[o]
  have u:decide (d=D+1)=true:=by simp[o]
  have G:Hid (qa8 S.a0 S.a1 S.a2 S.a3 i j k l=v):=by
   show _=_;rw[u]at e;simpa using e
  clear e p o;go_enter Tryz.func254,Tryz.ntmps254
  go_wp2_with fail
  refine wrl ?_
  repeat (go_big_quiet_step (first|rfl|(go_at_call 205;with_reducible exact qg (qh3 G.out _))))
  refine wpQuiet_nil ?_;rintro w2 ⟨⟨_,x⟩,rfl⟩
  go_wp2_with fail
  go_ret;exact⟨rfl,qa r x⟩
 have E:(d==D+1)=false:=by simp[o]
 have u:decide (d=D+1)=false:=by simp[o]
 have H:Hid (false=v):=by
  show _=_;rw[u]at e;simpa using e
 clear e p o;go_enter Tryz.func254,Tryz.ntmps254
 go_wp2_with fail
 refine wrl ?_
 repeat (go_big_quiet_step (first|rfl|fail))
 refine wpQuiet_nil ?_;rintro w2 ⟨⟨_,x⟩,rfl⟩
 go_wp2_with fail
 go_ret;exact⟨by rw[<-H.out];rfl,qa r x⟩
section
variable {S:qe}
theorem q1q {waits:List TxM} {s:Int} {m:TxM} {v:Bool} (c:qpl waits s (qp s S.a0 S.a1 S.a2 S.a3+1) m v) (d:waits.map (·.t)=S.waits) (f:qgu S.waits):
 (v=false->qbt S s=none)/\(v=true->(qz S m.t=false->qbt S s=none)/\(qz S m.t=true->qbt S s=some m.t)):=by
 refine⟨λe=>qjy (λx g i=>?_),λe=>?_⟩
 ·obtain⟨_,h⟩:=c.no e;rw[<-d]at g;obtain⟨y,n,rfl⟩:=jcz.1 g;have o:=h y n;cases a:qz S y.t with
  |false=>rfl
  |true=>
   have:=(qgo a).1;rw[i]at this;exact absurd ⟨i,this⟩ o
 obtain⟨p,j,q⟩:=c.yes e
 have k:m.t∈S.waits:=by rw[<-d];exact jcz.2 ⟨m,p,rfl⟩
 refine⟨λa=>?_,λa=>by rw[<-j];exact qw3 f k a⟩;cases hp:qbt S s with
 |none=>rfl
 |some y=>
  obtain⟨p1,p2,p3⟩:=qbv hp;have l:=(qgo p3).1;rw[p2]at l;rw[f.uniq p1 k (by rw[p2,j]) (by rw[l,q]),a]at p3;cases p3
structure NxB (A b bm:Nat) (s D:Int) (w:World):Prop where
 c:w.cell? (AD A 0)=some (PP b)
 m:w.cell? (AD b 8)=some (.map (some bm))
 d:w.cell? (AD b (1+s.toNat))=some (U D)
variable {A b bm:Nat} {lv:Value} {F:Nat->Prop}
theorem qyg {log waits:List TxM} (s:Int) (w:World) (K:w.cell? (AD A 0)=some (PP b)) (h:zf w b lv bm F S log waits) (P:waits.map (·.t)=S.waits) (z:j3 S) (Q:0<=s) (R:s<=3):
 Ca 277 #[U s,PP A] w (Rn (.bool (qbt S s).isSome) w):=by
 have B:=z.dep s;have V:=z.nums;have X:wfI (qp s S.a0 S.a1 S.a2 S.a3+1):=⟨by have:=B.1;omega,by have:=B.2;omega⟩;have Y:wfI s:=⟨by omega,by omega⟩;obtain⟨m,v,C⟩:=q0t waits s (qp s S.a0 S.a1 S.a2 S.a3+1);have Z:=q1q C P V
 have L:v=true->0<=m.t.site/\m.t.site<=3:=λe=>by rw[(C.yes e).2.1];exact⟨Q,R⟩
 have E:NxB A b bm s (qp s S.a0 S.a1 S.a2 S.a3) w.drew:=⟨K,h.box.cell 8 _ rfl,h.box.cell _ _ (qmz Q R)⟩;have G:=hd1 (λW M=>qvd C Y X W (h.later M).map);have H:Hid (∀W,Bw w W->v=true->∀r,qz S m.t=r->Ca 254 #[PP b,txV m] W λe w'=>e=.returned (.bool r)/\Bw W w'):=λW M hv r I=>qnn m W (h.later M) (L hv).1 (L hv).2 (z.dep _) I;have g:=hd1 Z;have hw:=qd1 B;obtain⟨⟨k,l,wall,n,o,p,q,u,ws⟩,a,cap⟩:=m;obtain⟨D,hD⟩:∃D,qp s S.a0 S.a1 S.a2 S.a3=D:=⟨_,rfl⟩;rw[hD]at hw E G
 have hw2:IntKind.i64.wrap (D+1)=D+1:=by rw[<-hw];unfold wrap64 IntKind.wrap;simp[IntKind.signed,IntKind.bits];omega
 rw[<-hw2]at G
 have h4:s<4:=by omega
 have hbl:=h.box.lt;have hal:A<w.heap.size:=jcr _ _ K;have x:NxB A b bm s D w:=⟨E.c,E.m,E.d⟩;have Y0:=λ(w':World) (h:Bw w w')=>cell_later h x.c;have Y1:=λ(w':World) (h:Bw w w')=>cell_later h x.m;have Y2:=λ(w':World) (h:Bw w w')=>cell_later h x.d;have hbD:=(jcc w.heap.size w).drew;clear hw2 Z C B V X Y L hD z P h K;go_enter Tryz.func277,Tryz.ntmps277
 go_wp2_with fail
 go_region_held3 (λw'=>Bw w w') (repeat (first|(with_reducible assumption)|(with_reducible exact jcc _ _)|(with_reducible refine boxed ?_ _)|(with_reducible refine jc6 ?_)|(refine jdz ?_ (by first|(with_reducible exact jcd _)|(have:=Below.size (by with_reducible assumption);simpa using this)) _)))
  (first
    |(go_at_call 276;with_reducible refine(G.out (w.alloc (.cells ZA 102)).drew ((boxed (jcc w.heap.size w) (.cells ZA 102)).drew)).mono ?_;rintro e w2 ⟨rfl,j⟩;have y:=qa ((boxed (jcc w.heap.size w) (.cells ZA 102)).drew) j;have f:=((qd.new (w:=w) (T:=102) ZL rfl).drew).later j;have y0:=f.cell 0 _ rfl;have z0:=f.free 0 (by simp);have y1:=f.cell 1 _ rfl;have z1:=f.free 1 (by simp);have y2:=f.cell 2 _ rfl;have z2:=f.free 2 (by simp);have y3:=f.cell 3 _ rfl;have z3:=f.free 3 (by simp);have y4:=f.cell 4 _ rfl;have z4:=f.free 4 (by simp);have y5:=f.cell 5 _ rfl;have z5:=f.free 5 (by simp);have y6:=f.cell 6 _ rfl;have z6:=f.free 6 (by simp);have y7:=f.cell 7 _ rfl;have z7:=f.free 7 (by simp);have y8:=f.cell 8 _ rfl;have z8:=f.free 8 (by simp);simp only[txV])
    |(go_at_call 276;with_reducible refine(G.out _ (by with_reducible assumption)).mono ?_;rintro e w2 ⟨rfl,j⟩;have y:=qa (by with_reducible assumption) j;simp only[txV]))
 have i:=boxed y (.cells (List.toArray (T9 k l wall n o p q u a ws.length cap)) 102);have N:=qd.new (w:=w2) (T:=102) (T9 k l wall n o p q u a ws.length cap) rfl;have b0:=cell_later i x.c;obtain⟨c0,c1,c2,c3,c4,c5,c6,c7,c8⟩:=N.c9;clear Y0 Y1 Y2 y j;cases v
 ·have O:=hd1 (g.out.1 rfl);clear g H
  go_wp2_with fail
  go_ret;exact⟨by rw[O.out];rfl,i⟩
 rotate_left
 have i:=qd9 y (jcd _) k l wall n o p q u (.slice a ws.length cap);have N:=yz f rfl k l wall n o p q u (.slice a ws.length cap);clear f y0 y1 y2 y3 y4 y5 y6 y7 y8 z0 z1 z2 z3 z4 z5 z6 z7 z8;have b0:=cell_later i x.c;obtain⟨c0,c1,c2,c3,c4,c5,c6,c7,c8⟩:=N.c9;clear Y0 Y1 Y2 y j;cases v
 ·have O:=hd1 (g.out.1 rfl);clear g H
  go_wp2_with fail
  go_ret;exact⟨by rw[O.out];rfl,i⟩
 all_goals
  obtain⟨r,I⟩:∃r,qz S ⟨k,l,wall,n,o,p,q,u,ws⟩=r:=⟨_,rfl⟩;have J:=hd1 I;clear I;have RR:=H.out _ i rfl r J.out
  have HP1:Hid ((qbt S s).isSome=r):=by
   show _=_;cases r
   ·rw[((g.out.2 rfl).1 J.out)];rfl
   rw[((g.out.2 rfl).2 J.out)];rfl
  clear g H J;simp only[txV]at RR
  go_wp2_with fail
  refine RR.mono ?_;rintro e w3 ⟨rfl,hb3⟩
  go_wp2_with fail
  go_ret;exact⟨by rw[HP1.out];rfl,qa i hb3⟩
def qks (S:qe):Nat->Option TxP
 |0=>none
 |n+1=>match qks S n with
  |some x=>some x
  |none=>qbt S n
theorem qpp (S:qe):qks S 4=qd7 S:=by
 cases h0:qbt S 0<;>cases h1:qbt S 1<;>cases h2:qbt S 2<;>simp[qks,qd7,h0,h1,h2]
def q76 (S:qe) (e:Ending):Prop:=(∃x,qd7 S=some x/\e=.returned (.tuple #[U x.site,.bool true]))\/(qd7 S=none/\e=.returned (.tuple #[U 0,.bool false]))
theorem q03 {log waits:List TxM} (w:World) (n:w.cell? (AD A 0)=some (PP b)) (h:zf w b lv bm F S log waits) (o:waits.map (·.t)=S.waits) (p:j3 S):
 Ca 278 #[.func (.func 277) #[] #[PP A]] w λe w'=>
  q76 S e/\Bw w w':=by
 have r:=hd1 (λW a s u q=>qyg s W (cell_later a n) (h.later a) o p u q);clear n h o p;go_enter Tryz.func278,Tryz.ntmps278
 go_wp2_with fail
 go_loopw [5] (λiv wr=>∃(k:Nat) (z:Int),k<=4/\z=k/\iv=U z/\Hid (qks S k=none)/\Bw w wr) (λi _=>4-(intOf i).toNat)
 case atStart=>exact⟨0,0,by omega,rfl,rfl,rfl,jcc _ _⟩
 obtain⟨k,z,D,c,rfl,l,a⟩:=hrel;have d:=hd1 c;by_cases E:k<4
 ·have y:z<4:=by omega
  have q:0<=z:=by omega
  have f:=r.out wr a z (by omega) (by omega);cases hp:qbt S z with
  |none=>
   have g:=hd1 hp;rw[hp]at f;clear c hp
   go_wp2_with fail
   refine f.mono ?_;rintro e w2 ⟨rfl,m⟩
   go_wp2_with fail
   go_roundw
   case rel=>
        refine⟨k+1,z+1,by omega,by have:=d.out;omega,by go_num,?_,qa a m⟩;show qks S (k+1)=none;simp only[qks];rw[l.out,<-d.out];exact g.out
   simp[intOf];have:=d.out;omega
  |some x=>
   have g:=hd1 hp;rw[hp]at f;clear c hp
   go_wp2_with fail
   refine f.mono ?_;rintro e w2 ⟨rfl,m⟩
   go_wp2_with fail
   refine bodyPost_ret (v:=.tuple #[U z,.bool true]) (by simp[results,Tryz.results278,go_sem]) rfl ⟨.inl ⟨x,?_,by rw[(qbv g.out).2.1]⟩,qa a m⟩
   have B:qks S (k+1)=some x:=by
        simp only[qks];rw[l.out,<-d.out];exact g.out
   have C:∀j,qks S (k+1+j)=some x:=λj=>by
        induction j with
        |zero=>exact B
        |succ j ih=>rw[<-Nat.add_assoc];simp only[qks];rw[ih]
   have:=C (3-k);rw[show k+1+(3-k)=4 by omega,qpp]at this;exact this
 have y:¬z<4:=by omega
 obtain rfl:k=4:=by omega
 clear c
 go_wp2_with fail
 exact bodyPost_ret (v:=.tuple #[U 0,.bool false]) (by simp[results,Tryz.results278,go_sem]) rfl ⟨.inr ⟨by rw[<-qpp];exact l.out,rfl⟩,a⟩
end
section
theorem qru (a c d i:Int):qdr a c d i<0↔0<qdr d i a c:=by
 rcases qcw a c d i with ⟨h,e⟩|⟨h,e⟩|⟨h,e⟩<;>rcases qcw d i a c with ⟨g,f⟩|⟨g,f⟩|⟨g,f⟩<;>rw[e,f]<;>constructor<;>intro k<;>omega
theorem q4d {lw lc a c x y:Int} (d:(if 0<qdr a c lw lc then a else lw)=x) (f:(if 0<qdr a c lw lc then c else lc)=y) (w:World):
 Ca 273 #[.agg #[U lw,U lc],.agg #[U a,U c]] w (Rn (.agg #[U x,U y]) w):=by
 subst d f;by_cases h:0<qdr a c lw lc
 ·rw[if_pos h,if_pos h];exact q8l lw lc a c w ((qru lw lc a c).2 h)
 rw[if_neg h,if_neg h];exact q78 lw lc a c w (λe=>h ((qru lw lc a c).1 e))
structure qje (w0:World) (b:Nat) (lv:Value) (bm:Nat) (F:Nat->Prop) (S:qe) (log waits:List TxM) (m:TxM) (k:Nat) (F':Nat->Prop) (wr:World):Prop where
 mem:zf wr b lv bm F' {S with l:=qbz m.t (m.t.ws.take k) S.l} log waits
 box:qd wr w0.heap.size (txC m)
 far:¬jn b lv bm F' w0.heap.size
 foot:∀j,jn b lv bm F' j->jn b lv bm F j\/w0.heap.size<=j
 touch:qc (jn b lv bm F) w0 wr
variable {w0 wr w':World} {b bm k:Nat} {lv:Value} {F F':Nat->Prop} {S:qe} {m:TxM}
theorem qje.later {log waits:List TxM} (h:qje w0 b lv bm F S log waits m k F' wr) (a:Bw wr w'):qje w0 b lv bm F S log waits m k F' w':=
 ⟨h.mem.later a,h.box.later a,h.far,h.foot,h.touch.trans (qc.ofBelow a)⟩
theorem qje.put {log waits:List TxM} (h:qje w0 b lv bm F S log waits m k F' wr) (f:k<m.t.ws.length)
 (g:qf8 wr b 25 F' (qa4 (qbz m.t (m.t.ws.take k) S.l) (qa7 m.t.ws k).key (qne m.t (qa7 m.t.ws k))) w'):∃c,qje w0 b lv bm F S log waits m (k+1) c w':=by
 obtain⟨c,i,e,d⟩:=h.mem.store g;refine⟨c,by rw[qpz f];exact i,h.box.kept (d.block _ h.box.lt h.far) d.size,λn=>?_,λj o=>?_,h.touch.more d h.foot⟩
 ·rcases e _ n with a|a
  ·exact h.far a
  have:=h.box.lt;omega
 rcases e j o with a|a
 ·exact h.foot j a
 exact .inr (by have:=h.touch.size;omega)
theorem qje.outside {log waits:List TxM} {c:Nat} {xs:List Value} {e:List Hd} (h:qje w0 b lv bm F S log waits m k F' wr)
 (f:qf8 wr b 25 F' e w') (d:qd wr c xs) (g:¬jn b lv bm F' c):ApB w0.heap.size c (txC m) xs w':=by
 obtain⟨i,j,l,a⟩:=h.mem.store f;exact⟨h.box.kept (a.block _ h.box.lt h.far) a.size,d.kept (a.block _ d.lt g) a.size⟩
structure PaE (w0:World) (b:Nat) (lv:Value) (bm:Nat) (F:Nat->Prop) (S:qe) (log waits:List TxM) (m:TxM) (F':Nat->Prop) (wr:World):Prop where
 mem:zf wr b lv bm F' S log waits
 box:qd wr w0.heap.size (txC m)
 far:¬jn b lv bm F' w0.heap.size
 foot:∀j,jn b lv bm F' j->jn b lv bm F j\/w0.heap.size<=j
 touch:qc (jn b lv bm F) w0 wr
theorem PaE.later {log waits:List TxM} (h:PaE w0 b lv bm F S log waits m F' wr) (a:Bw wr w'):PaE w0 b lv bm F S log waits m F' w':=
 ⟨h.mem.later a,h.box.later a,h.far,h.foot,h.touch.trans (qc.ofBelow a)⟩
theorem PaE.seq {log waits:List TxM} (h:PaE w0 b lv bm F S log waits m F' wr) {s:Int} (x:Int) (a:0<=s) (c:s<=3):
 PaE w0 b lv bm F {S with a0:=qch s x S.a0,a1:=qcl s x S.a1,a2:=qck s x S.a2,a3:=qcj s x S.a3} log waits m F' (wr.setCell (AD b (1+s.toNat)) (U x)):=
 ⟨h.mem.seq x a c,h.box.far _ _ (λe=>h.far (.inl e.symm)),h.far,h.foot,h.touch.trans (qc.setCell wr (AD b (1+s.toNat)) _ (.inl rfl))⟩
theorem PaE.last {log waits:List TxM} (h:PaE w0 b lv bm F S log waits m F' wr) (x y:Int):
 PaE w0 b lv bm F {S with lw:=x,lc:=y} log waits m F' ((wr.setCell (AD b 5) (U x)).setCell (AD b 6) (U y)):=
 ⟨h.mem.last x y,(h.box.far _ _ (λe=>h.far (.inl e.symm))).far _ _ (λe=>h.far (.inl e.symm)),h.far,h.foot,(h.touch.trans (qc.setCell wr (AD b 5) _ (.inl rfl))).trans (qc.setCell _ (AD b 6) _ (.inl rfl))⟩
theorem PaE.append {log waits:List TxM} {c:World} (h:PaE w0 b lv bm F S log waits m F' wr) (a:qr w0 m.wa m.wc m.t.ws/\∀k,m.blk k->¬jn b lv bm F k) {g f:Nat} (n:wr.grownBy c lv.ownBlock)
 (o:c.ownsRow 0 102 9 (.slice (PT g) (log.length+1) f) (log.length+1) (zw log++txC m)) (p:lv.ownBlock=some g\/wr.heap.size<=g):
 ∃i j,zf (c.setCell (AD b 7) (.slice (PT g) (log.length+1) f)) b i bm j S (log++[m]) waits/\(∀k,jn b i bm j k->jn b lv bm F k\/w0.heap.size<=k)/\qc (jn b lv bm F) w0 (c.setCell (AD b 7) (.slice (PT g) (log.length+1) f)):=by
 obtain⟨d,q,r⟩:=h.mem.append m ⟨a.1.kept (λk e=>h.touch.block k (a.1.blk_lt k e) (a.2 k e)),λk e s=>by
  rcases h.foot k s with d|d
  ·exact a.2 k e d
  have:=a.1.blk_lt k e
  omega⟩ n o p
 refine⟨_,_,d,λk u=>?_,h.touch.more r h.foot⟩;rcases q k u with l|l
 ·exact h.foot k l
 exact .inr (by have:=h.touch.size;omega)
theorem qr3 {log waits:List TxM} (m:TxM) (w:World) (h:zf w b lv bm F S log waits) (M:qr w m.wa m.wc m.t.ws/\∀k,m.blk k->¬jn b lv bm F k) (hs0:0<=m.t.site) (hs1:m.t.site<=3) (hl:S.l.length+m.t.ws.length<=1000) (hlog:log.length<=1000):
 Ca 244 #[PP b,.agg (List.toArray (T9 m.t.site m.t.seq m.t.wall m.t.count m.t.d0 m.t.d1 m.t.d2 m.t.d3 m.wa m.t.ws.length m.wc))] w λe w'=>
  e=.returned (.tuple #[])/\∃r F',zf w' b r bm F' (vr S m.t) (log++[m]) waits/\(∀k,jn b r bm F' k->jn b lv bm F k\/w.heap.size<=k)/\qc (jn b lv bm F) w w':=by
 have R:=boxed (jcc _ w) (.cells (List.toArray (T9 m.t.site m.t.seq m.t.wall m.t.count m.t.d0 m.t.d1 m.t.d2 m.t.d3 m.wa m.t.ws.length m.wc)) 102);have V:=qd.new (w:=w) (T:=102) (txC m) rfl;change qd (w.alloc (.cells (List.toArray (T9 m.t.site m.t.seq m.t.wall m.t.count m.t.d0 m.t.d1 m.t.d2 m.t.d3 m.wa m.t.ws.length m.wc)) 102)) w.heap.size (txC m)at V
 have X:qje w b lv bm F S log waits m 0 F (w.alloc (.cells (List.toArray (T9 m.t.site m.t.seq m.t.wall m.t.count m.t.d0 m.t.d1 m.t.d2 m.t.d3 m.wa m.t.ws.length m.wc)) 102)):=
  ⟨by simpa[qbz]using h.later R,V,λe=>Nat.lt_irrefl _ (h.lt _ e),λj hj=>.inl hj,qc.ofBelow R⟩
 have N:=hd1 M;have hc1:=M.1.len;have hc2:=M.1.cap;clear M R V;go_enter Tryz.func244,Tryz.ntmps244
 go_wp2_with fail
 obtain⟨W,hWW⟩:∃W,w.alloc (.cells (List.toArray (T9 m.t.site m.t.seq m.t.wall m.t.count m.t.d0 m.t.d1 m.t.d2 m.t.d3 m.wa m.t.ws.length m.wc)) 102)=W:=⟨_,rfl⟩;rw[hWW]at X ⊢;clear hWW
 go_loopw [9] (λiv wr=>∃(k:Nat) (z:Int) (F':Nat->Prop),k<=m.t.ws.length/\z=k/\iv=U z/\Hid (qje w b lv bm F S log waits m k F' wr)) (λi _=>m.t.ws.length-(intOf i).toNat)
 case atStart=>exact⟨0,0,F,by omega,rfl,rfl,X⟩
 clear X;obtain⟨k,z,F',hk,Y,rfl,B⟩:=hrel;have HZ:=hd1 Y;by_cases C:k<m.t.ws.length
 ·have n:z<(m.t.ws.length:Int):=by omega
  have h2:z.toNat=k:=by omega
  have h3:0<=z:=by omega
  clear Y
  obtain⟨o,s,O,hcc⟩:∃o s,m.wa=some (AD o s)/\qbo w o s m.t.ws:=by
   rcases N.out.1.held with Z|Z
   ·rw[Z]at C;simp at C
   exact Z
  have aa:m.blk o:=⟨λe=>by rw[e]at C;simp at C,s,O⟩;have hwl:=N.out.1.blk_lt o aa;have P:=B.out.touch.block o hwl (N.out.2 o aa);obtain⟨⟨a,c,d⟩,hx⟩:∃x,qa7 m.t.ws k=x:=⟨_,rfl⟩;have G:=hcc k C;rw[hx]at G
  have x0:wr.cell? (AD o (s+k*3))=some (U a):=by rw[jch (w:=w) P];exact G.1
  have x1:wr.cell? (AD o (s+k*3+1))=some (.string c):=by rw[jch (w:=w) P];exact G.2.1
  have x2:wr.cell? (AD o (s+k*3+2))=some (.bool d):=by rw[jch (w:=w) P];exact G.2.2
  have HX:=hd1 hx;have HWA:=hd1 O;rw[O];clear hcc aa P G hx O hwl;have hbx:=boxed (jcc _ wr) (.cells #[U a,.string c,.bool d] 100);have H:=(B.out.later hbx).later (jcc _ (wr.alloc (.cells #[U a,.string c,.bool d] 100))).drew;have Q:=(qd.new (w:=wr) (T:=100) [U a,.string c,.bool d] rfl).drew;change qd (wr.alloc (.cells #[U a,.string c,.bool d] 100)).drew wr.heap.size [U a,.string c,.bool d]at Q;have SB:ApB w.heap.size wr.heap.size (txC m) [U a,.string c,.bool d] (wr.alloc (.cells #[U a,.string c,.bool d] 100)).drew:=⟨H.box,Q⟩
  have hll:(qbz m.t (m.t.ws.take k) S.l).length<=1000:=by
   have:=qf1 m.t (m.t.ws.take k) S.l;rw[jc5]at this;omega
  have PU:Hid (Ca 272 #[.pointer (some (AD b 25)),U a,.agg #[U m.t.wall,U m.t.count,U m.t.site,U m.t.seq,.string c,.bool d]] (wr.alloc (.cells #[U a,.string c,.bool d] 100)).drew λe w'=>e=.returned (jc (qb5 (qbz m.t (m.t.ws.take k) S.l) a ⟨m.t.wall,m.t.count,m.t.site,m.t.seq,c,d⟩))/\ApB w.heap.size wr.heap.size (txC m) [U a,.string c,.bool d] w'/\∃q,Hid (qje w b lv bm F S log waits m (k+1) q w')):=
   (q64 a ⟨m.t.wall,m.t.count,m.t.site,m.t.seq,c,d⟩ _ H.mem.st hll).mono λe w' ⟨he,hp⟩=>⟨he,H.outside hp Q (λhf=>Nat.lt_irrefl _ (B.out.mem.lt _ hf)),H.put C (by rw[HX.out];exact hp)⟩
  have T0:=λ(w':World) (h:ApB w.heap.size wr.heap.size (txC m) [U a,.string c,.bool d] w')=>h.t.cell 0 _ rfl;have T1:=λ(w':World) (h:ApB w.heap.size wr.heap.size (txC m) [U a,.string c,.bool d] w')=>h.t.cell 1 _ rfl;have T2:=λ(w':World) (h:ApB w.heap.size wr.heap.size (txC m) [U a,.string c,.bool d] w')=>h.t.cell 2 _ rfl;have T3:=λ(w':World) (h:ApB w.heap.size wr.heap.size (txC m) [U a,.string c,.bool d] w')=>h.t.cell 3 _ rfl;have X0:=λ(w':World) (h:ApB w.heap.size wr.heap.size (txC m) [U a,.string c,.bool d] w')=>h.x.cell 0 _ rfl;have X1:=λ(w':World) (h:ApB w.heap.size wr.heap.size (txC m) [U a,.string c,.bool d] w')=>h.x.cell 1 _ rfl;have X2:=λ(w':World) (h:ApB w.heap.size wr.heap.size (txC m) [U a,.string c,.bool d] w')=>h.x.cell 2 _ rfl;clear H Q hbx hll B
  go_wp2_with fail
  go_region_held3 (λw'=>ApB w.heap.size wr.heap.size (txC m) [U a,.string c,.bool d] w') (with_reducible assumption)
   (first|(go_at_call 272;with_reducible refine PU.out.mono ?_;rintro e w5 ⟨rfl,SB5,q,AM3⟩))
  all_goals
   go_wp2_with fail
   go_roundw
   case rel=>exact⟨k+1,z+1,q,by omega,by have:=HZ.out;omega,by go_num,AM3⟩
   simp[intOf];have:=HZ.out;omega
 have h4:¬z<(m.t.ws.length:Int):=by omega
 obtain rfl:k=m.t.ws.length:=by omega
 clear Y
 have I:Hid (PaE w b lv bm F {S with l:=qbz m.t m.t.ws S.l} log waits m F' wr):=by
  have J:=B.out;refine⟨?_,J.box,J.far,J.foot,J.touch⟩;have:=J.mem;rw[jc9]at this;exact this
 have BX:=I.out.box;have t0:=BX.cell 0 _ rfl;have t1:=BX.cell 1 _ rfl;have s1:=I.out.mem.box.free (1+m.t.site.toNat) (by simp[qab];omega);obtain⟨ov,s0⟩:∃v,wr.cell? (AD b (1+m.t.site.toNat))=some v:=⟨_,I.out.mem.box.cell (1+m.t.site.toNat) _ (jcg (by simp[qab];omega))⟩
 go_wp2_with fail
 go_region
 have u:Hid (PaE w b lv bm F {S with l:=qbz m.t m.t.ws S.l,a0:=qch m.t.site m.t.seq S.a0,a1:=qcl m.t.site m.t.seq S.a1,a2:=qck m.t.site m.t.seq S.a2,a3:=qcj m.t.site m.t.seq S.a3} log waits m F' (wr.setCell (AD b (1+m.t.site.toNat)) (U m.t.seq)).drew):=(I.out.seq m.t.seq hs0 hs1).later (jcc _ _).drew;obtain⟨W1,hW1⟩:∃W1,(wr.setCell (AD b (1+m.t.site.toNat)) (U m.t.seq)).drew=W1:=⟨_,rfl⟩;rw[hW1]at u ⊢;clear hW1 I B BX t0 t1 s0 s1;have t2:=u.out.box.cell 2 _ rfl;have t3:=u.out.box.cell 3 _ rfl;have l5:=u.out.mem.box.cell 5 _ rfl;have l6:=u.out.mem.box.cell 6 _ rfl;obtain⟨K,hlw⟩:∃x,(if 0<qdr m.t.wall m.t.count S.lw S.lc then m.t.wall else S.lw)=x:=⟨_,rfl⟩;obtain⟨L,hlc⟩:∃x,(if 0<qdr m.t.wall m.t.count S.lw S.lc then m.t.count else S.lc)=x:=⟨_,rfl⟩;have HLW:=hd2 hlw hlc
 have PU:Hid (Ca 273 #[.agg #[U S.lw,U S.lc],.agg #[U m.t.wall,U m.t.count]] W1.drew λe w'=>e=.returned (.agg #[U K,U L])/\Hid (PaE w b lv bm F {S with l:=qbz m.t m.t.ws S.l,a0:=qch m.t.site m.t.seq S.a0,a1:=qcl m.t.site m.t.seq S.a1,a2:=qck m.t.site m.t.seq S.a2,a3:=qcj m.t.site m.t.seq S.a3} log waits m F' w')):=
  (q4d hlw hlc W1.drew).mono λe w' ⟨he,hb'⟩=>⟨he,u.out.later (qa (jcc _ W1).drew hb')⟩
 clear hlw hlc u
 go_wp2_with fail
 go_region_with
  (first|(go_at_call 273;with_reducible refine PU.out.mono ?_;rintro e w5 ⟨rfl,D⟩;have k5:=D.out.mem.box.cell 5 _ rfl;have k6:=D.out.mem.box.cell 6 _ rfl;have q5:=D.out.mem.box.free 5 (by simp[qab]);have q6:=D.out.mem.box.free 6 (by simp[qab])))
 all_goals
  have p:Hid (PaE w b lv bm F {S with l:=qbz m.t m.t.ws S.l,a0:=qch m.t.site m.t.seq S.a0,a1:=qcl m.t.site m.t.seq S.a1,a2:=qck m.t.site m.t.seq S.a2,a3:=qcj m.t.site m.t.seq S.a3,lw:=K,lc:=L} log waits m F' ((w5.setCell (AD b 5) (U K)).setCell (AD b 6) (U L))):=D.out.last K L;obtain⟨f,hw6⟩:∃f,(w5.setCell (AD b 5) (U K)).setCell (AD b 6) (U L)=f:=⟨_,rfl⟩;rw[hw6]at p ⊢;clear hw6 D k5 k6 q5 q6 t2 t3 l5 l6
  have FIN9:∀(S9:qe) (f:World),Hid (PaE w b lv bm F S9 log waits m F' f)->{S9 with log:=S.log++[m.t]}=vr S m.t->∀(g E:Nat) (y:World),(f.drew.alloc (.cells (List.toArray (T9 m.t.site m.t.seq m.t.wall m.t.count m.t.d0 m.t.d1 m.t.d2 m.t.d3 m.wa m.t.ws.length m.wc)) 102)).grownBy y lv.ownBlock->
        y.ownsRow 0 102 9 (.slice (PT g) (log.length+1) E) (log.length+1) (zw log++txC m)->(lv.ownBlock=some g\/g=(f.drew.alloc (.cells (List.toArray (T9 m.t.site m.t.seq m.t.wall m.t.count m.t.d0 m.t.d1 m.t.d2 m.t.d3 m.wa m.t.ws.length m.wc)) 102)).heap.size)->
        Hid (∃r q,zf (y.setCell (AD b 7) (.slice (PT g) (log.length+1) E)) b r bm q (vr S m.t) (log++[m]) waits/\(∀k,jn b r bm q k->jn b lv bm F k\/w.heap.size<=k)/\qc (jn b lv bm F) w (y.setCell (AD b 7) (.slice (PT g) (log.length+1) E))):=λS9 f A e g E y gr ow eg=>by
   have A':=A.out.later (boxed ((jcc _ f).drew) (.cells (List.toArray (T9 m.t.site m.t.seq m.t.wall m.t.count m.t.d0 m.t.d1 m.t.d2 m.t.d3 m.wa m.t.ws.length m.wc)) 102));obtain⟨r,q,n,h2,h3⟩:=A'.append N.out gr ow (eg.imp id (λe=>Nat.le_of_eq e.symm));rw[<-e];exact⟨r,q,⟨n.box,n.st,n.rlog,n.map,n.nl,n.nm,n.lm,n.lf,n.mf,n.hold⟩,h2,h3⟩
  obtain⟨i0,hi,hz0,hz1,hz2⟩:=info_parts qpi;have AP:=FIN9 _ f p (by simp only[vr];obtain⟨e1,e2⟩:=HLW.out;rw[e1,e2]);obtain⟨t0,t1,t2,t3,t4,t5,t6,t7,t8⟩:=p.out.box.c9;have s7:=p.out.mem.box.cell 7 _ rfl;have f7:=p.out.mem.box.free 7 (by simp[qab]);have own6:f.drew.ownsRow 0 102 9 lv log.length (zw log):=p.out.mem.rlog;have hsb:=p.out.mem.box.lt;have nb:some b≠lv.ownBlock:=λe=>p.out.mem.nl e.symm;have bx:qd f b (qab _ lv bm):=p.out.mem.box;clear FIN9
  go_wp2_with fail
  go_region_law (refine step_append_lies _ rfl (.tmp 53) (.tmp 55) 80 rfl 0 102 i0 (.agg ZA) 9 88 Tryz.underlying80 hi hz0 hz1 hz2 rfl (by decide) lv log.length (zw log) (by simp[Act.eval]) (own6.alloc _) (AD f.heap.size 0) 1 1 (txC m) (by simp[Act.eval]) rfl (World.news_of_block (heap_alloc_new f.drew (.cells (List.toArray (T9 m.t.site m.t.seq m.t.wall m.t.count m.t.d0 m.t.d1 m.t.d2 m.t.d3 m.wa m.t.ws.length m.wc)) 102))) (qih m) (by decide) (by simp only[maxLen];omega) (by omega) (by simp) _ rfl ?_
                 intro g E y ownE grE egE ltE;have FIN:=AP g E y grE ownE egE;have BE:=((bx.drew).boxed (.cells (List.toArray (T9 m.t.site m.t.seq m.t.wall m.t.count m.t.d0 m.t.d1 m.t.d2 m.t.d3 m.wa m.t.ws.length m.wc)) 102)).grown grE nb;have s0E:=BE.cell 7 _ rfl
                 have s1E:=BE.free 7 (by simp[qab]))
  all_goals
   go_wp2_with fail
   go_end0;exact⟨rfl,FIN.out⟩
end
section
def PS (w:World) (b:Nat) (G:Nat->Prop) (S:qe):Prop:=
 ∃lv bm F log waits,zf w b lv bm F S log waits/\log.map (·.t)=S.log/\waits.map (·.t)=S.waits/\∀k,G k↔(jn b lv bm F k\/∃m∈log++waits,m.blk k)
variable {w:World} {b:Nat} {G:Nat->Prop} {S:qe}
theorem PS.lt (h:PS w b G S):∀k,G k->k<w.heap.size:=by
 obtain⟨lv,bm,F,log,waits,h,_,_,c⟩:=h;intro k d;rcases(c k).1 d with a|⟨m,e,a⟩
 ·exact h.lt k a
 exact(h.hold m e).1.blk_lt k a
variable {w':World}
theorem PS.kept (h:PS w b G S) (c:∀k,G k->w'.heap[k]?=w.heap[k]?) (d:w.heap.size<=w'.heap.size):PS w' b G S:=by
 obtain⟨lv,bm,F,log,waits,h,f,g,a⟩:=h;exact⟨lv,bm,F,log,waits,h.kept (λk e=>c k ((a k).2 e)) d,f,g,a⟩
theorem PS.later (h:PS w b G S) (a:Bw w w'):PS w' b G S:=h.kept (λk c=>a.block k (h.lt k c)) a.size
def PPo (w:World) (b:Nat) (G:Nat->Prop) (S':qe) (w':World):Prop:=∃G',PS w' b G' S'/\(∀k,G' k->G k\/w.heap.size<=k)/\qc G w w'
variable {w1 w2:World}
theorem PPo.trans {a:Nat->Prop} {S':qe} (c:∀k,a k->G k\/w.heap.size<=k) (d:qc G w w1) (h:PPo w1 b a S' w2):PPo w b G S' w2:=by
 obtain⟨f,g,i,j⟩:=h;refine⟨f,g,λk l=>?_,d.more j c⟩;rcases i k l with e|e
 ·exact c k e
 exact .inr (by have:=d.size;omega)
theorem PPo.same (h:PS w b G S) (a:Bw w w'):PPo w b G S w':=⟨G,h.later a,λ_ c=>.inl c,qc.ofBelow a⟩
variable {m:TxM}
theorem qwt {log waits:List TxM} (a:waits.map (·.t)=S.waits)
 (c:log.map (·.t)=S.log):(log++[m]).map (·.t)=(qj5 S m.t).log/\(qgc waits m.t).map (·.t)=(qj5 S m.t).waits:=by
 constructor
 ·rw[jdb,c];rfl
 rw[qm0,a];rfl
structure GoM (w0:World) (b:Nat) (G:Nat->Prop) (S0 S:qe) (wr:World):Prop where
 mem:∃G',PS wr b G' S/\(∀k,G' k->G k\/w0.heap.size<=k)
 touch:qc G w0 wr
 inv:j3 S
 wn:S.waits.length<=1000
 go:∀X,qfm S X->qfm S0 X
variable {S0:qe} {wr:World}
theorem GoM.later {w0:World} (h:GoM w0 b G S0 S wr) (a:Bw wr w'):GoM w0 b G S0 S w':=by
 obtain⟨c,d,e⟩:=h.mem;exact⟨⟨c,d.later a,e⟩,h.touch.trans (qc.ofBelow a),h.inv,h.wn,h.go⟩
variable {lv:Value} {bm:Nat} {F:Nat->Prop}
theorem qzf {g:Value} {F':Nat->Prop} {log waits:List TxM} {j:Nat->Prop} (c:GoM w b G S0 S wr) (r:log.map (·.t)=S.log) (l:waits.map (·.t)=S.waits)
 (h:∀k,j k↔(jn b lv bm F k\/∃m∈log++waits,m.blk k)) (n:∀k,j k->G k\/w.heap.size<=k) (s:m∈waits) (u:S.log.length<200) (o:qd7 S=some m.t)
 (a:wr.grownBy w1 (some bm)) (z:zf w2 b g bm F' (vr {S with waits:=qdv S.waits m.t} m.t) (log++[m]) (qgc waits m.t)) (A:∀k,jn b g bm F' k->jn b lv bm F k\/w1.heap.size<=k) (f:qc (jn b lv bm F) w1 w2):GoM w b G S0 (qj5 S m.t) w2:=by
 have B:qc j wr w2:=⟨f.os.trans a.os,f.tape.trans a.tape,f.output.trans a.output,jcn a.size f.size,λk i v=>(f.block k (jci i a.size) (λe=>v ((h k).2 (.inl e)))).trans (a.block k i (λe=>v ((h k).2 (.inl (.inr (.inr (.inl (by injection e))))))))⟩
 have y:m.t∈S.waits:=by rw[<-l];exact jcz.2 ⟨m,s,rfl⟩
 refine⟨⟨λk=>jn b g bm F' k\/∃x∈(log++[m])++qgc waits m.t,x.blk k,⟨g,bm,F',log++[m],qgc waits m.t,z,(qwt l r).1,(qwt l r).2,λk=>jdl⟩,λk i=>?_⟩,c.touch.more B n,c.inv.gone y u,?_,λX C=>c.go X (.step u o C)⟩
 ·rcases i with p|⟨x,o,p⟩
  ·rcases A k p with d|d
   ·exact n k ((h k).2 (.inl d))
   exact .inr (by have:=c.touch.size;have:=a.size;omega)
  refine n k ((h k).2 (.inr ⟨x,?_,p⟩));rcases jcf.1 o with d|d
  ·rcases jcf.1 d with q|q
   ·exact jcf.2 (.inl q)
   rw[jcj.1 q];exact jcf.2 (.inr s)
  exact jcf.2 (.inr (qh2.1 d).1)
 have:=qf5 c.inv.nums y;have:=c.wn;show (qdv S.waits m.t).length<=1000;omega
structure NxA (A b bm:Nat) (w:World):Prop where
 c:w.cell? (AD A 0)=some (PP b)
 m:w.cell? (AD b 8)=some (.map (some bm))
def qkk (w:World) (b:Nat):Nat:=match w.cell? (AD b 7)with|some (.slice _ n _)=>200-n|_=>0
theorem PS.left (h:PS w b G S):qkk w b=200-S.log.length:=by
 obtain⟨lv,bm,F,log,waits,h,a,_,_⟩:=h;obtain⟨d,lc,rfl,e⟩:=yx h.rlog;unfold qkk;rw[h.box.c 7,<-a];simp
theorem zf.waits {log waits:List TxM} (h:zf w b lv bm F S log waits) (l:List TxP):zf w b lv bm F {S with waits:=l} log waits:=
 ⟨h.box,h.st,h.rlog,h.map,h.nl,h.nm,h.lm,h.lf,h.mf,h.hold⟩
theorem qqg (w:World) (h:PS w b G S) (hI:j3 S) (z:S.waits.length<=1000):
 Ca 256 #[PP b] w λe w'=>e=.returned (.tuple #[])/\∃S',qfm S S'/\PPo w b G S' w':=by
 have L:=boxed (jcc _ w) (.cells #[PP b] 163);have E:=qd.new (w:=w) (T:=163) [PP b] rfl;have HG:=hd1 h.lt
 have M:(w.alloc (.cells #[PP b] 163)).heap.size=w.heap.size+1:=by simp
 have N:∀S' w',PPo (w.alloc (.cells #[PP b] 163)) b G S' w'->PPo w b G S' w':=λS' w' hp=>PPo.trans (λk O=>.inl O) (qc.ofBelow L) hp;have P:=h.later L;change qd (w.alloc (.cells #[PP b] 163)) w.heap.size [PP b]at E;clear h L;go_enter Tryz.func256,Tryz.ntmps256
 go_wp2_with fail
 obtain⟨W,hWW⟩:∃W,w.alloc (.cells #[PP b] 163)=W:=⟨_,rfl⟩;rw[hWW]at P E M N ⊢;have HFI:=hd1 N;have HWS:=hd1 M;have M0:GoM W b G S S W:=⟨⟨G,P,λk O=>.inl O⟩,⟨rfl,rfl,rfl,jcd _,λ_ _ _=>rfl⟩,hI,z,λX hX=>hX⟩;clear hWW hI z P N M
 go_loopw [3] (λ_ wr=>∃(a:qe),Hid (GoM W b G S a wr)/\Hid (qd wr w.heap.size [PP b])) (λ_ wr=>qkk wr b)
 case atStart=>exact⟨S,M0,E⟩
 clear M0 E;obtain⟨a,i,HR⟩:=hrel;obtain⟨G',PG,Q⟩:=i.out.mem;have LE:=hd1 PG.left;obtain⟨lv,bm,F,log,waits,PM,R,z,V⟩:=PG;have g:=hd5 PM R z V Q
 have hll:log.length=a.log.length:=by rw[<-R];simp
 have nA:¬jn b lv bm F w.heap.size:=λq=>by
  rcases Q _ ((V _).2 (.inl q))with r|r
  ·exact Nat.lt_irrefl _ (HG.out _ r)
  have:=HWS.out;omega
 have Y:=hd1 nA;have a0:=HR.out.c 0;clear PM R z V Q nA;by_cases q:200<=log.length
 ·have Z:=qe0 (decide_eq_true q) wr g.out.1
  have H:Hid (200<=a.log.length):=by show _<=_;omega
  clear q hll
  go_wp2_with fail
  refine Z.mono ?_;rintro e w2 ⟨rfl,s⟩;have B:=hd1 (i.out.later s)
  go_wp2_with fail
  go_end0;refine⟨rfl,a,i.out.go a (.full H.out),HFI.out _ _ ?_⟩;obtain⟨G2,p1,p2⟩:=B.out.mem;exact⟨G2,p1,p2,B.out.touch⟩
 have Z:=qe0 (decide_eq_false q) wr g.out.1
 have H:Hid (a.log.length<200):=by show _<_;omega
 clear q hll
 go_wp2_with fail
 refine Z.mono ?_;rintro e w2 ⟨rfl,s⟩;have B:=hd1 (i.out.later s);have HR2:=hd1 (HR.out.later s);have PM2:=hd1 (g.out.1.later s);have LS:=q03 w2 (HR2.out.c 0) PM2.out g.out.2.2.1 i.out.inv;clear s a0
 go_wp2_with fail
 refine LS.mono ?_;rintro e j ⟨(⟨x,u,rfl⟩|⟨u,rfl⟩),C⟩
 ·have HX:=hd1 u;have I:=hd1 (B.out.later C);have D:=hd1 (HR2.out.later C);have o:=hd1 (PM2.out.later C);obtain⟨J,hxr⟩:=qj8 u;rw[<-g.out.2.2.1]at J;obtain⟨m,hm,rfl⟩:=jcz.1 J;have hmo:=i.out.inv.wt m.t (by rw[<-g.out.2.2.1];exact J);obtain⟨⟨s0,s3⟩,hsq,hw5⟩:=qcg hmo.1;have hd:=i.out.inv.dep m.t.site;have hq:=(qgo hxr).1
  have hw2:IntKind.i64.wrap (qp m.t.site a.a0 a.a1 a.a2 a.a3+1)=m.t.seq:=by rw[hq,<-qd1 hd];unfold wrap64 IntKind.wrap;simp[IntKind.signed,IntKind.bits];omega
  have p:NxB w.heap.size b bm m.t.site (qp m.t.site a.a0 a.a1 a.a2 a.a3) j.drew:=⟨D.out.c 0,o.out.box.c 8,o.out.box.cell _ _ (qmz s0 s3)⟩;have nbm:=o.out.nm
  have TK:Hid (Ca 279 #[.map (some bm),U m.t.site,U (IntKind.i64.wrap (qp m.t.site a.a0 a.a1 a.a2 a.a3+1))] j.drew λe w'=>e=.returned (txV m)/\NxA w.heap.size b bm w'/\Hid (qd5 w' bm (qgc waits m.t)/\j.grownBy w' (some bm))):=by
   rw[hw2];refine(q46 hm j.drew (o.out.map.kept rfl)).mono λe w' ⟨he,r,f⟩=>⟨he,?_,r,⟨f.os,f.tape,f.output,f.size,f.block⟩⟩;have hbb:=f.block b o.out.box.lt (λe=>nbm (by injection e with e;exact e.symm));have haa:=f.block w.heap.size D.out.lt (λe=>Y.out (.inr (.inr (.inl (by injection e)))));exact⟨by rw[jch (w:=j.drew) haa];exact p.c,by rw[jch (w:=j.drew) hbb];exact p.m⟩
  have AP:Hid (∀n,qd5 n bm (qgc waits m.t)->j.grownBy n (some bm)->Ca 244 #[PP b,txV m] n λe w'=>e=.returned (.tuple #[])/\Hid (GoM W b G S (qj5 a m.t) w')/\Hid (qd w' w.heap.size [PP b])/\NxA w.heap.size b bm w'):=λn r f=>by
   have K:=o.out.hold m (jcf.2 (.inr hm));have PM4:zf n b lv bm F {a with waits:=qdv a.waits m.t} log (qgc waits m.t):=(o.out.turn f r (λy hy=>.inl (qh2.1 hy).1)).waits _;have hm4:qr n m.wa m.wc m.t.ws/\∀k,m.blk k->¬jn b lv bm F k:=⟨K.1.kept (λk e=>f.block k (K.1.blk_lt k e) (λe2=>K.2 k e (.inr (.inr (.inl (by injection e2)))))),K.2⟩;have hlen:=i.out.inv.len
   have hl2:log.length=a.log.length:=by rw[<-g.out.2.1];simp
   have hF:=H.out
   refine(qr3 m n PM4 hm4 s0 s3 (by show a.l.length+_<=_;omega) (by omega)).mono λe w' ⟨he,lv',F',p1,p2,p3⟩=>by
        have hRR:=D.out.kept ((p3.block _ (jci D.out.lt f.size) Y.out).trans (f.block _ D.out.lt (λe=>Y.out (.inr (.inr (.inl (by injection e))))))) (jcn f.size p3.size);exact⟨he,qzf I.out g.out.2.1 g.out.2.2.1 g.out.2.2.2.1 g.out.2.2.2.2 hm hF HX.out f p1 p2 p3,hRR,hRR.c 0,p1.box.c 8⟩
  have h4:m.t.site<4:=by omega
  have Y0:=λ(w':World) (h:NxA w.heap.size b bm w')=>h.c;have Y1:=λ(w':World) (h:NxA w.heap.size b bm w')=>h.m;have NA:NxA w.heap.size b bm j.drew:=⟨p.c,p.m⟩;have c3:=p.d;clear u J hxr hmo hsq hw5 hd hq hw2 C s3
  go_wp2_with fail
  have c1:=p.c;have c2:=p.m;clear Y0 Y1
  go_region_law (first
   |(refine je rfl 279 #[.map (some bm),U m.t.site,U (IntKind.i64.wrap (qp m.t.site a.a0 a.a1 a.a2 a.a3+1))] (by go_simp) TK.out ?_
     rintro e n ⟨rfl,N4,T4⟩;refine⟨_,rfl,?_⟩
     have n1:=N4.c)
   |(refine je rfl 244 #[PP b,txV m] (by go_simp) (AP.out _ T4.out.1 T4.out.2) ?_
     rintro e w5 ⟨rfl,HM5,HR5,N5⟩
     refine⟨_,rfl,?_⟩))
  all_goals
   go_wp2_with fail
   go_roundw
   case rel=>exact⟨_,HM5,HR5⟩
   obtain⟨G5,p5,_⟩:=HM5.out.mem;rw[p5.left,LE.out];have:=H.out;simp[qj5,vr];omega
 have HX:=hd1 u;have I:=hd1 (B.out.later C);clear u
 go_wp2_with fail
 refine bodyPost_ret (v:=.tuple #[]) (by simp[results,Tryz.results256,go_sem]) rfl ⟨rfl,a,i.out.go a (.none HX.out),HFI.out _ _ ?_⟩;obtain⟨G2,p1,p2⟩:=I.out.mem;exact⟨G2,p1,p2,I.out.touch⟩
end
section
variable {v:Bool}
theorem qhv {n:Int} (h:inB n 0 3=v) (w:World):
 Ca 202 #[U n] w (Rn (.bool v) w):=by
 subst h;by_cases a:0<=n;by_cases b:n<4
 have e:Hid (inB n 0 3=true):=by show inB n 0 3=true;rw[jk];omega
 rotate_left
 have e:Hid (inB n 0 3=false):=by show inB n 0 3=false;simp[inB];omega
 rotate_left
 have e:Hid (inB n 0 3=false):=by show inB n 0 3=false;simp[inB,a]
 all_goals
  go_enter Tryz.func202,Tryz.ntmps202
  go_wp2
  go_ret;exact⟨by rw[e.out];rfl,jcc _ _⟩
def qnl (data:ByteArray) (gone:Bool):Bool:=if gone then data.toList.isEmpty else decide ((data.size:Int)<=12)
theorem qrr {key:Int} {data:ByteArray} {gone:Bool} (h:qnl data gone=v) (w:World):
 Ca 269 #[.agg #[U key,.string data,.bool gone]] w (Rn (.bool v) w):=by
 subst h;cases gone;by_cases a:(data.size:Int)<=12;have e:Hid (qnl data false=true):=decide_eq_true a
 rotate_left
 have e:Hid (qnl data false=false):=decide_eq_false a
 rotate_left
 cases he:data.toList.isEmpty;have e:Hid (qnl data true=false):=he
 rotate_left
 have e:Hid (qnl data true=true):=he
 all_goals
  go_enter Tryz.func269,Tryz.ntmps269
  go_wp2
  go_ret;exact⟨by rw[e.out];rfl,boxed (jcc _ _) _⟩
def qq6 (l:List Wr) (k:Nat):Int:=if k=0 then-1 else (qa7 l (k-1)).key
theorem qsg {data:ByteArray} (h:data.toList.isEmpty=true):data.size=0:=by
 have a:∀(n i:Nat) (r:List UInt8),data.size-i=n->(ByteArray.toList.loop data i r).length=r.length+n:=by
  intro n
  induction n with
  |zero=>
   intro i r b;unfold ByteArray.toList.loop;rw[if_neg (by omega)];simp
  |succ n ih=>
   intro i r b;unfold ByteArray.toList.loop;rw[if_pos (by omega),ih _ _ (by omega)];simp;omega
 have:=a data.size 0 [] (by omega);have e:=List.isEmpty_iff.1 h;rw[show ByteArray.toList.loop data 0 []=data.toList from rfl,e]at this;simpa using this.symm
variable {l:List Wr} {k:Nat}
theorem q6e {key:Int} {data:ByteArray} {gone:Bool} (a:qa7 l k=⟨key,data,gone⟩) (h:key<=qq6 l k):qdd l k=false:=by
 rw[ql6 a];unfold qq6 at h;split at h
 ·exact qso (by simp[inB];omega)
 exact qvf (by omega) h
theorem q1b {key:Int} {data:ByteArray} {gone:Bool} (a:qa7 l k=⟨key,data,gone⟩) (h:8<=key):qdd l k=false:=by
 rw[ql6 a];exact qso (by simp[inB];omega)
theorem q5b {key:Int} {data:ByteArray} {gone:Bool} (a:qa7 l k=⟨key,data,gone⟩) (h:qnl data gone=false):qdd l k=false:=by
 rw[ql6 a];cases gone
 ·exact qtz (by have:=of_decide_eq_false (show decide ((data.size:Int)<=12)=false from h);omega)
 exact qpo rfl h
theorem q4o {key:Int} {data:ByteArray} {gone:Bool} (c:qa7 l k=⟨key,data,gone⟩) (d:∀j,j<k->qdd l j=true) (b:¬key<=qq6 l k) (e:¬8<=key) (h:qnl data gone=true):qdd l k=true:=by
 rw[ql6 c]
 have a:¬12<(data.size:Int)/\(gone=false\/data.toList.isEmpty=true):=by
  cases gone
  ·exact⟨by have:=of_decide_eq_true (show decide ((data.size:Int)<=12)=true from h);omega,.inl rfl⟩
  have:=qsg h;exact⟨by omega,.inr h⟩
 unfold qq6 at b;split at b
 ·exact qhr (by rw[jk];omega) (.inl (by assumption)) a.1 a.2
 have:=qoy (d (k-1) (by omega));exact qhr (by rw[jk];omega) (.inr b) a.1 a.2
theorem qsm (b h cap:Nat) (l:List Wr) (w:World) (B:qbo w b h l) (D:¬(l.length:Int)<1) (L:¬5<(l.length:Int)):
 Ca 241 #[.slice (some (AD b h)) l.length cap] w (Rn (.bool (qad l)) w):=by
 go_enter Tryz.func241,Tryz.ntmps241
 go_wp2_with fail
 go_loopw [3,16] (λp i wr=>∃(k:Nat) (z:Int),k<=l.length/\z=k/\i=U z/\p=U (qq6 l k)/\(∀j,j<k->qdd l j=true)/\Bw w wr/\qbo wr b h l) (λ_ i _=>l.length-(intOf i).toNat)
 case atStart=>exact⟨0,0,by omega,rfl,rfl,rfl,λj E=>by omega,jcc _ _,B⟩
 obtain⟨k,z,M,F,rfl,rfl,G,o,C⟩:=hrel;have m:=hd1 G;obtain⟨p,q⟩:∃p,qq6 l k=p:=⟨_,rfl⟩;rw[q];have r:=hd1 q;by_cases f:k<l.length
 ·obtain⟨x0,x1,x2⟩:=C k f
  have D:z<(l.length:Int):=by omega
  have N:z.toNat=k:=by omega
  have O:0<=z:=by omega
  have H:=hd1 F;obtain⟨⟨key,data,gone⟩,s⟩:∃x,qa7 l k=x:=⟨_,rfl⟩;rw[s]at x0 x1 x2;have a:=hd1 s;simp only at x0 x1 x2;have g:=boxed o (.cells #[U key,.string data,.bool gone] 100);have I:=C.later (boxed (jcc _ wr) (.cells #[U key,.string data,.bool gone] 100));by_cases t:key<=p
  ·have c:=hd1 (qef f (q6e a.out (by rw[r.out];exact t)))
   go_wp2_with fail
   go_ret;exact⟨by rw[c.out];rfl,g⟩
  by_cases u:8<=key
  ·have c:=hd1 (qef f (q1b a.out u))
   go_wp2_with fail
   go_ret;exact⟨by rw[c.out];rfl,g⟩
  cases h8:qnl data gone
  ·have c:=hd1 (qef f (q5b a.out h8));have n:=hd1 h8
   go_wp2_with (go_at_call 269;refine(qrr n.out _).mono ?_;rintro e J ⟨rfl,d⟩)
   go_ret;exact⟨by rw[c.out];rfl,qa g d⟩
  have K:=hd1 (q4o a.out m.out (by rw[r.out];exact t) u h8);have n:=hd1 h8
  have y:(wr.alloc (.cells #[U key,.string data,.bool gone] 100)).cell? (AD wr.heap.size 0)=some (U key):=by go_simp
  go_wp2_with (go_at_call 269;refine(qrr n.out _).mono ?_;rintro e J ⟨rfl,d⟩;replace y:=cell_later d y)
  go_roundw
  case rel=>exact⟨k+1,z+1,by omega,by have:=H.out;omega,by go_num,by show _=Value.int .i64 (qa7 l (k+1-1)).key;rw[Nat.add_sub_cancel,a.out],qmg m.out K.out,qa g d,I.later d⟩
  simp[intOf];omega
 have e:Hid (qad l=true):=by
  show qad l=true;rw[qvh (λj E=>m.out j (by omega)),jk];omega
 go_wp2
 go_ret;exact⟨by rw[e.out];rfl,o⟩
theorem qog {a:Option Addr} {cap:Nat} {w:World} (h:qr w a cap l):
 Ca 241 #[.slice a l.length cap] w (Rn (.bool (qad l)) w):=by
 by_cases c:(l.length:Int)<1
 ·have e:Hid (qad l=false):=by
   show qad l=false
   have:inB l.length 1 5=false:=by simp[inB];omega
   simp[qad,this]
  go_enter Tryz.func241,Tryz.ntmps241
  go_wp2
  go_ret;exact⟨by rw[e.out];rfl,jcc _ _⟩
 by_cases d:5<(l.length:Int)
 ·have e:Hid (qad l=false):=by
   show qad l=false
   have:inB l.length 1 5=false:=by simp[inB];omega
   simp[qad,this]
  go_enter Tryz.func241,Tryz.ntmps241
  go_wp2
  go_ret;exact⟨by rw[e.out];rfl,jcc _ _⟩
 rcases h.held with rfl|⟨b,f,rfl,g⟩
 ·simp at c
 exact qsm b f cap l w g c d
end
section
open Tryz
theorem qw6 (a0 a1 a2 a3:Int) (w:World):
 Ca 203 #[.agg #[U a0,U a1,U a2,U a3]] w (Rn (.bool (jb a0 a1 a2 a3)) w):=by
 have a:∀w,(Instr.index 77 (.agg #[U a0,U a1,U a2,U a3]) (U 0)).run prog w=.ok (U a0) w:=λ_=>by kernel_rfl
 have b:∀w,(Instr.index 77 (.agg #[U a0,U a1,U a2,U a3]) (U 1)).run prog w=.ok (U a1) w:=λ_=>by kernel_rfl
 have c:∀w,(Instr.index 77 (.agg #[U a0,U a1,U a2,U a3]) (U 2)).run prog w=.ok (U a2) w:=λ_=>by kernel_rfl
 have d:∀w,(Instr.index 77 (.agg #[U a0,U a1,U a2,U a3]) (U 3)).run prog w=.ok (U a3) w:=λ_=>by kernel_rfl
 by_cases f:a0<0
 have e:jb a0 a1 a2 a3=false:=by simp[jb,qi];omega
 rw[e];go_enter func203,ntmps203
 go_wp2
 refine wp_loop_rounds 5 ?_
 rotate_left
 by_cases g:1099511627776<a0
 have e:jb a0 a1 a2 a3=false:=by simp[jb,qi];omega
 rw[e];go_enter func203,ntmps203
 go_wp2
 refine wp_loop_rounds 5 ?_
 rotate_left
 by_cases l1:a1<0
 have e:jb a0 a1 a2 a3=false:=by simp[jb,qi];omega
 rw[e];go_enter func203,ntmps203
 go_wp2
 refine wp_loop_rounds 5 ?_;rw[rounds_succ]
 go_wp2
 rotate_left
 by_cases h:1099511627776<a1
 have e:jb a0 a1 a2 a3=false:=by simp[jb,qi];omega
 rw[e];go_enter func203,ntmps203
 go_wp2
 refine wp_loop_rounds 5 ?_;rw[rounds_succ]
 go_wp2
 rotate_left
 by_cases i:a2<0
 have e:jb a0 a1 a2 a3=false:=by simp[jb,qi];omega
 rw[e];go_enter func203,ntmps203
 go_wp2
 refine wp_loop_rounds 5 ?_;rw[rounds_succ]
 go_wp2
 rw[rounds_succ]
 go_wp2
 rotate_left
 by_cases j:1099511627776<a2
 have e:jb a0 a1 a2 a3=false:=by simp[jb,qi];omega
 rw[e];go_enter func203,ntmps203
 go_wp2
 refine wp_loop_rounds 5 ?_;rw[rounds_succ]
 go_wp2
 rw[rounds_succ]
 go_wp2
 rotate_left
 by_cases k:a3<0
 have e:jb a0 a1 a2 a3=false:=by simp[jb,qi];omega
 rw[e];go_enter func203,ntmps203
 go_wp2
 refine wp_loop_rounds 5 ?_;rw[rounds_succ]
 go_wp2
 rw[rounds_succ]
 go_wp2
 rw[rounds_succ]
 go_wp2
 rotate_left
 by_cases l:1099511627776<a3
 have e:jb a0 a1 a2 a3=false:=by simp[jb,qi];omega
 rw[e];go_enter func203,ntmps203
 go_wp2
 refine wp_loop_rounds 5 ?_;rw[rounds_succ]
 go_wp2
 rw[rounds_succ]
 go_wp2
 rw[rounds_succ]
 go_wp2
 rotate_left
 have e:jb a0 a1 a2 a3=true:=by simp[jb,qi];omega
 rw[e];go_enter func203,ntmps203
 go_wp2
 refine wp_loop_rounds 5 ?_;rw[rounds_succ]
 go_wp2
 rw[rounds_succ]
 go_wp2
 rw[rounds_succ]
 go_wp2
 rw[rounds_succ]
 go_wp2
 all_goals
  rw[rounds_succ]
  go_wp2
  go_ret;exact⟨rfl,by repeat (first|exact jcc _ _|apply jy|apply boxed)⟩
end
def qfp (b:Nat) (S:qe):qfr:=⟨λw G=>PS w b G S,λ_ _ h=>h.lt,λ_ _ _ h=>h.kept⟩
section
open Go.Maps
variable {b:Nat} {G:Nat->Prop} {S:qe}
theorem PS.mem {w:World} (h:PS w b G S):∃lv bm F log waits,zf w b lv bm F S log waits/\log.length=S.log.length/\waits.length=S.waits.length:=by
 obtain⟨lv,bm,F,log,waits,h,a,c,_⟩:=h;exact⟨lv,bm,F,log,waits,h,by rw[<-a];simp,by rw[<-c];simp⟩
theorem j3.many (h:j3 S):S.l.length<=1000:=by
 have:=h.len;have:=h.log;omega
theorem qff (w:World) (h:PS w b G S):
 Ca 143 #[PP b] w (Rn (.agg #[U S.a0,U S.a1,U S.a2,U S.a3]) w):=by
 obtain⟨lv,bm,F,log,waits,a,_,_⟩:=h.mem;have d:=a.box.c 1;have e:=a.box.c 2;have f:=a.box.c 3;have g:=a.box.c 4;have i:=a.box.lt;go_enter Tryz.func143,Tryz.ntmps143
 go_wp2_with fail
 exact bodyPost_ret (v:=.agg #[U S.a0,U S.a1,U S.a2,U S.a3]) (by simp[results,Tryz.results143,go_sem]) rfl ⟨rfl,boxed (jcc _ _) _⟩
end
theorem qa2 {tmps:Array Value} {w:World} {b:Nat} {v:Ver} {ev:Value} (h:qd w b (qh v)) (a:tmps[6]?=some (PP b)) (c:tmps[7]?=some ev):
 (results Tryz.f259 tmps).run Tryz.prog w=.ok (.tuple #[.agg (qh v).toArray,ev]) w:=by
 obtain⟨d,e,f,g,i,j⟩:=h.c6;simp[results,Tryz.results259,go_sem,a,c,d,e,f,g,i,j,qh]
end Go.Proofs.YtoanjdndmlffdaaGreatDoor
