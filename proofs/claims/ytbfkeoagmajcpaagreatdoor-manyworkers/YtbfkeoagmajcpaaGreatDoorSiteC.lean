import Derived.Test.YtbfkeoagmajcpaaGreatDoorSiteB
set_option maxHeartbeats 16000000
set_option maxRecDepth 100000
set_option linter.defProp false
namespace Go.Proofs.YtbfkeoagmajcpaaGreatDoor
variable {A b k:Nat} {F G:Np} {R:List UInt8} {S:qe} {W w w' w1:Wl} {c:UInt8} {l:List Wr} {m:TxM} {n:Int} {t:TxP}
section
open _root_.Go.Proofs.Tryz Go.RowKit
def PS (w:Wl) (b:Nat) (G:Np) (S:qe):Prop:=
 ∃lv bm F log waits,zf w b lv bm F S log waits/\log.map (·.t)=S.log/\waits.map (·.t)=S.waits/\∀k,G k↔(jn b lv bm F k\/∃m∈log++waits,m.blk k)
def PS.lt (h:PS w b G S):∀k,G k->k<w.heap.size:=by
 obtain⟨lv,bm,F,log,waits,h,_,_,c⟩:=h;intro k d;rcases(c k).1 d with a|⟨m,e,a⟩
 .exact h.lt k a
 exact(h.hold m e).1.blk_lt k a
def PS.kept (h:PS w b G S) (c:∀k,G k->w'.heap[k]?=w.heap[k]?) (d:w.heap.size<=w'.heap.size):PS w' b G S:=by
 obtain⟨lv,bm,F,log,waits,h,f,g,a⟩:=h;exact⟨lv,bm,F,log,waits,h.kept (λk e=>c k ((a k).2 e)) d,f,g,a⟩
def PS.later (h:PS w b G S) (a:Bw w w'):PS w' b G S:=h.kept (λk c=>a.block k (h.lt k c)) a.size
def PPo (w:Wl) (b:Nat) (G:Np) (S':qe) (w':Wl):Prop:=∃G',PS w' b G' S'/\(∀k,G' k->G k\/w.heap.size<=k)/\qc G w w'
variable {w2:Wl}
def PPo.trans {a:Np} {o:qe} (c:∀k,a k->G k\/w.heap.size<=k) (d:qc G w w1) (h:PPo w1 b a o w2):PPo w b G o w2:=by
 obtain⟨f,g,i,j⟩:=h;refine⟨f,g,λk l=>?_,d.more j c⟩;obtain e|e:=i k l
 .exact c k e
 exact .inr (by have:=d.size;omega)
def PPo.same (h:PS w b G S) (a:Bw w w'):PPo w b G S w':=⟨G,h.later a,λ_ c=>.inl c,qc.ofBelow a⟩
def qwt {log waits:List TxM} (a:waits.map (·.t)=S.waits)
 (c:log.map (·.t)=S.log):(log++[m]).map (·.t)=(qj5 S m.t).log/\(qgc waits m.t).map (·.t)=(qj5 S m.t).waits:=by
 constructor
 .rw[jdb,c];rfl
 rw[qm0,a];rfl
structure GoM (w0:Wl) (b:Nat) (G:Nat->Prop) (S0 S:qe) (wr:Wl):Prop where
 mem:∃G',PS wr b G' S/\(∀k,G' k->G k\/w0.heap.size<=k)
 touch:qc G w0 wr
 inv:j3 S
 wn:S.waits.length<=1000
 go:∀X,qfm S X->qfm S0 X
variable {S0:qe} {wr:Wl}
def GoM.later {i:Wl} (h:GoM i b G S0 S wr) (a:Bw wr w'):GoM i b G S0 S w':=by
 obtain⟨c,d,e⟩:=h.mem;exact⟨⟨c,d.later a,e⟩,h.touch.trans (qc.ofBelow a),h.inv,h.wn,h.go⟩
variable {lv:Vl} {bm:Nat}
def qzf {g:Vl} {D:Np} {log waits:List TxM} {j:Np} (c:GoM w b G S0 S wr) (r:log.map (·.t)=S.log) (l:waits.map (·.t)=S.waits)
 (h:∀k,j k↔(jn b lv bm F k\/∃m∈log++waits,m.blk k)) (n:∀k,j k->G k\/w.heap.size<=k) (s:m∈waits) (u:S.log.length<200) (o:qd7 S=some m.t)
 (a:wr.grownBy w1 (some bm)) (z:zf w2 b g bm D (vr {S with waits:=qdv S.waits m.t} m.t) (log++[m]) (qgc waits m.t)) (A:∀k,jn b g bm D k->jn b lv bm F k\/w1.heap.size<=k) (f:qc (jn b lv bm F) w1 w2):GoM w b G S0 (qj5 S m.t) w2:=by
 have B:qc j wr w2:=⟨f.os.trans a.os,f.tape.trans a.tape,f.output.trans a.output,jcn a.size f.size,λk i v=>(f.block k (jci i a.size) (λe=>v ((h k).2 (.inl e)))).trans (a.block k i (λe=>v ((h k).2 (.inl (.inr (.inr (.inl (by injection e))))))))⟩;have y:m.t∈S.waits:=by rw[<-l];exact jcz.2 ⟨m,s,rfl⟩
 refine⟨⟨λk=>jn b g bm D k\/∃x∈(log++[m])++qgc waits m.t,x.blk k,⟨g,bm,D,log++[m],qgc waits m.t,z,(qwt l r).1,(qwt l r).2,λk=>jdl⟩,λk i=>?_⟩,c.touch.more B n,c.inv.gone y u,?_,λX C=>c.go X (.step u o C)⟩
 .obtain p|⟨x,o,p⟩:=i
  .obtain d|d:=A k p
   .exact n k ((h k).2 (.inl d))
   exact .inr (by have:=c.touch.size;have:=a.size;omega)
  refine n k ((h k).2 (.inr ⟨x,?_,p⟩));obtain d|d:=jcf.1 o
  .obtain q|q:=jcf.1 d
   .exact jcf.2 (.inl q)
   rw[jcj.1 q];exact jcf.2 (.inr s)
  exact jcf.2 (.inr (qh2.1 d).1)
 have:=qf5 c.inv.nums y;have:=c.wn;show (qdv S.waits m.t).length<=1000;omega
structure NxA (A b bm:Nat) (w:Wl):Prop where
 c:w.cell? (AD A 0)=some (PP b)
 m:w.cell? (AD b 8)=some (.map (some bm))
def qkk (w:Wl) (b:Nat):Nat:=match w.cell? (AD b 7)with|some (.slice _ n _)=>200-n|_=>0
def PS.left (h:PS w b G S):qkk w b=200-S.log.length:=by
 obtain⟨lv,bm,F,log,waits,h,a,_,_⟩:=h;obtain⟨d,lc,rfl,e⟩:=yx h.rlog;unfold qkk;rw[h.box.c 7,<-a];simp
def zf.waits {log waits:List TxM} (h:zf w b lv bm F S log waits) (l:List TxP):zf w b lv bm F {S with waits:=l} log waits:=
 ⟨h.box,h.st,h.rlog,h.map,h.nl,h.nm,h.lm,h.lf,h.mf,h.hold⟩
def qqg (w:Wl) (h:PS w b G S) (hI:j3 S) (z:S.waits.length<=1000):
 Ca 203 #[PP b] w λe w'=>e=.returned (.tuple #[])/\∃A,qfm S A/\PPo w b G A w':=by
 have L:=boxed (jcc _ w) (.cells #[PP b] 141);have E:=qd.new (w:=w) (T:=141) [PP b] rfl;have HG:=hd1 h.lt;have M:(w.alloc (.cells #[PP b] 141)).heap.size=w.heap.size+1:=oi;have N:∀A w',PPo (w.alloc (.cells #[PP b] 141)) b G A w'->PPo w b G A w':=λA w' hp=>PPo.trans (λk O=>.inl O) (qc.ofBelow L) hp;have P:=h.later L;change qd (w.alloc (.cells #[PP b] 141)) w.heap.size [PP b]at E;clear h L;go_enter func203,ntmps203
 go_wp2_with fail
 obtain⟨W,hWW⟩:∃W,w.alloc (.cells #[PP b] 141)=W:=⟨_,rfl⟩;rw[hWW]at P E M N ⊢;have HFI:=hd1 N;have HWS:=hd1 M;have M0:GoM W b G S S W:=⟨⟨G,P,λk O=>.inl O⟩,⟨rfl,rfl,rfl,jcd _,λ_ _ _=>rfl⟩,hI,z,λX hX=>hX⟩;clear hWW hI z P N M;go_loopw [3] (λ_ wr=>∃(a:qe),Hid (GoM W b G S a wr)/\Hid (qd wr w.heap.size [PP b])) (λ_ wr=>qkk wr b)
 case atStart=>exact⟨S,M0,E⟩
 clear M0 E;obtain⟨a,i,HR⟩:=hrel;obtain⟨G',PG,Q⟩:=i.out.mem;have LE:=hd1 PG.left;obtain⟨lv,bm,F,log,waits,PM,R,z,V⟩:=PG;have g:=hd5 PM R z V Q;have hll:log.length=a.log.length:=by rw[<-R];simp
 have nA:¬jn b lv bm F w.heap.size:=λq=>by
  rcases Q _ ((V _).2 (.inl q))with r|r
  .exact mM _ (HG.out _ r)
  have:=HWS.out;omega
 have Y:=hd1 nA;have a0:=HR.out.c 0;clear PM R z V Q nA;by_cases q:200<=log.length
 .have Z:=qe0 (decide_eq_true q) wr g.out.1;have H:Hid (200<=a.log.length):=by show _<=_;omega
  clear q hll;go_wp2_with fail
  refine Z.mono ?_;rintro e w2 ⟨rfl,s⟩;have B:=hd1 (i.out.later s);go_wp2_with fail
  go_end0;refine⟨rfl,a,i.out.go a (.full H.out),HFI.out _ _ ?_⟩;obtain⟨G2,p1,p2⟩:=B.out.mem;exact⟨G2,p1,p2,B.out.touch⟩
 have Z:=qe0 (decide_eq_false q) wr g.out.1;have H:Hid (a.log.length<200):=by show _<_;omega
 clear q hll;go_wp2_with fail
 refine Z.mono ?_;rintro e w2 ⟨rfl,s⟩;have B:=hd1 (i.out.later s);have HR2:=hd1 (HR.out.later s);have PM2:=hd1 (g.out.1.later s);have LS:=q03 w2 (HR2.out.c 0) PM2.out g.out.2.2.1 i.out.inv;clear s a0;go_wp2_with fail
 refine LS.mono ?_;rintro e j ⟨(⟨x,u,rfl⟩|⟨u,rfl⟩),C⟩
 .have HX:=hd1 u;have I:=hd1 (B.out.later C);have D:=hd1 (HR2.out.later C);have o:=hd1 (PM2.out.later C);obtain⟨J,hxr⟩:=qj8 u;rw[<-g.out.2.2.1]at J;obtain⟨m,hm,rfl⟩:=jcz.1 J;have hmo:=i.out.inv.wt m.t (by rw[<-g.out.2.2.1];exact J);obtain⟨⟨s0,s3⟩,hsq,hw5⟩:=qcg hmo.1;have hd:=i.out.inv.dep m.t.site;have hq:=(qgo hxr).1;have hw2:IntKind.i64.wrap (qp m.t.site a.a0 a.a1 a.a2 a.a3+1)=m.t.seq:=by rw[hq,<-qd1 hd];unfold wrap64 IntKind.wrap;simp[IntKind.signed,IntKind.bits];omega
  have p:NxB w.heap.size b bm m.t.site (qp m.t.site a.a0 a.a1 a.a2 a.a3) j.drew:=⟨D.out.c 0,o.out.box.c 8,o.out.box.cell _ _ (qmz s0 s3)⟩;have nbm:=o.out.nm;have TK:Hid (Ca 238 #[.map (some bm),U m.t.site,U (IntKind.i64.wrap (qp m.t.site a.a0 a.a1 a.a2 a.a3+1))] j.drew λe w'=>e=.returned (txV m)/\NxA w.heap.size b bm w'/\Hid (qd5 w' bm (qgc waits m.t)/\j.grownBy w' (some bm))):=by
   rw[hw2];refine(q46 hm j.drew (o.out.map.kept rfl)).mono λe w' ⟨he,r,f⟩=>⟨he,?_,r,⟨f.os,f.tape,f.output,f.size,f.block⟩⟩;have hbb:=f.block b o.out.box.lt (λe=>nbm oP);have haa:=f.block w.heap.size D.out.lt (λe=>Y.out (.inr (.inr (.inl (by injection e)))));exact⟨by rw[jch (w:=j.drew) haa];exact p.c,by rw[jch (w:=j.drew) hbb];exact p.m⟩
  have AP:Hid (∀n,qd5 n bm (qgc waits m.t)->j.grownBy n (some bm)->Ca 191 #[PP b,txV m] n λe w'=>e=.returned (.tuple #[])/\Hid (GoM W b G S (qj5 a m.t) w')/\Hid (qd w' w.heap.size [PP b])/\NxA w.heap.size b bm w'):=λn r f=>by
   have K:=o.out.hold m (jcf.2 (.inr hm));have PM4:zf n b lv bm F {a with waits:=qdv a.waits m.t} log (qgc waits m.t):=(o.out.turn f r (λy hy=>.inl (qh2.1 hy).1)).waits _;have hm4:qr n m.wa m.wc m.t.ws/\∀k,m.blk k->¬jn b lv bm F k:=⟨K.1.kept (λk e=>f.block k (K.1.blk_lt k e) (λe2=>K.2 k e (.inr (.inr (.inl (by injection e2)))))),K.2⟩;have hlen:=i.out.inv.len;have hl2:log.length=a.log.length:=by rw[<-g.out.2.1];simp
   have hF:=H.out
   refine(qr3 m n PM4 hm4 s0 s3 (by show a.l.length+_<=_;omega) (by omega)).mono λe w' ⟨he,lv',F',p1,p2,p3⟩=>by
        have hRR:=D.out.kept ((p3.block _ (jci D.out.lt f.size) Y.out).trans (f.block _ D.out.lt (λe=>Y.out (.inr (.inr (.inl (by injection e))))))) (jcn f.size p3.size);exact⟨he,qzf I.out g.out.2.1 g.out.2.2.1 g.out.2.2.2.1 g.out.2.2.2.2 hm hF HX.out f p1 p2 p3,hRR,hRR.c 0,p1.box.c 8⟩
  have h4:m.t.site<4:=oe;have Y0:=λ(w':Wl) (h:NxA w.heap.size b bm w')=>h.c;have Y1:=λ(w':Wl) (h:NxA w.heap.size b bm w')=>h.m;have NA:NxA w.heap.size b bm j.drew:=⟨p.c,p.m⟩;have c3:=p.d;clear u J hxr hmo hsq hw5 hd hq hw2 C s3
  go_wp2_with fail
  have c1:=p.c;have c2:=p.m;clear Y0 Y1;go_region_law (first
   |(refine je rfl 238 #[.map (some bm),U m.t.site,U (IntKind.i64.wrap (qp m.t.site a.a0 a.a1 a.a2 a.a3+1))] (by go_simp) TK.out ?_
     rintro e n ⟨rfl,N4,T4⟩;refine⟨_,rfl,?_⟩;have n1:=N4.c)
   |(refine je rfl 191 #[PP b,txV m] (by go_simp) (AP.out _ T4.out.1 T4.out.2) ?_
     rintro e w5 ⟨rfl,HM5,HR5,N5⟩;refine⟨_,rfl,?_⟩))
  all_goals
   go_wp2_with fail
   go_roundw
   case rel=>exact⟨_,HM5,HR5⟩
   obtain⟨G5,p5,_⟩:=HM5.out.mem;rw[p5.left,LE.out];have:=H.out;simp[qj5,vr];omega
 have HX:=hd1 u;have I:=hd1 (B.out.later C);clear u;go_wp2_with fail
 refine bodyPost_ret (v:=.tuple #[]) (by simp[results,results203,go_sem]) rfl ⟨rfl,a,i.out.go a (.none HX.out),HFI.out _ _ ?_⟩;obtain⟨G2,p1,p2⟩:=I.out.mem;exact⟨G2,p1,p2,I.out.touch⟩
end
section
open _root_.Go.Proofs.Tryz Go.RowKit Go.Maps
def jf (S:qe) (t:TxP):Int:=
 if okT t=false then 1 else if t.site=S.id then 1 else if t.seq<=qp t.site S.a0 S.a1 S.a2 S.a3 then 9 else if S.waits.any (λx=>vv x t)=true then 9 else if 200<=S.log.length then 12 else if 40<=S.waits.length/\qz S t=false then 12 else 0
def zu (S:qe) (t:TxP) (S':qe):Prop:=(jf S t≠0/\S'=S)\/(jf S t=0/\qfm {S with waits:=S.waits++[t]} S')
def zu.det {A B:qe} (h:zu S t A) (k:zu S t B):A=B:=by
 obtain⟨a,rfl⟩|⟨a,d⟩:=h
 .obtain⟨_,rfl⟩|⟨c,_⟩:=k
  .rfl
  exact absurd c a
 obtain⟨c,_⟩|⟨_,e⟩:=k
 .exact absurd a c
 exact d.det e
def qf6 (h:jf S t=0):okT t=true/\t.site≠S.id/\¬t.seq<=qp t.site S.a0 S.a1 S.a2 S.a3/\(∀x∈S.waits,vv x t=false)/\S.log.length<200:=by
 unfold jf at h;split at h
 .cases h
 rename_i a;split at h
 .cases h
 rename_i c;split at h
 .cases h
 rename_i d;split at h
 .cases h
 rename_i e;split at h
 .cases h
 rename_i g;refine⟨by simpa using a,c,d,λx f=>?_,oe⟩;cases hi:vv x t with
 |false=>rfl
 |true=>exact absurd (List.any_eq_true.2 ⟨x,f,hi⟩) e
def zu.inv {i:qe} (h:zu S t i) (a:j3 S):j3 i:=by
 obtain⟨_,rfl⟩|⟨c,d⟩:=h
 .exact a
 obtain⟨p1,p2,_,e,_⟩:=qf6 c;exact d.inv (a.wait p1 p2 e)
structure TkB (tb b bm:Nat) (ts:Lv) (w:Wl):Prop where
 t:qd w tb ts
 m:w.cell? (AD b 8)=some (.map (some bm))
def q6g {l:List TxM} {L:List TxP} {v:Bool} (c:l.map (·.t)=L) (d:qpl l t.site t.seq m v):L.any (λx=>vv x t)=v:=by
 cases v with
 |true=>
  obtain⟨a,f,g⟩:=d.yes rfl;rw[<-c];exact List.any_eq_true.2 ⟨m.t,jcz.2 ⟨m,a,rfl⟩,qe5.2 ⟨f,g⟩⟩
 |false=>
  obtain⟨_,a⟩:=d.no rfl;rw[<-c,List.any_eq_false];intro x h;obtain⟨y,i,rfl⟩:=jcz.1 h;exact λe=>a y i (qe5.1 e)
def q7h {c g d:Wl} {C:Vl} {B:Nat} {F:Np} {log waits:List TxM} (l:zf c b C B F S log waits) (r:log.map (·.t)=S.log) (s:waits.map (·.t)=S.waits) (f:∀k,G k↔(jn b C B F k\/∃m∈log++waits,m.blk k))
 (n:Bw c g) (u:qr g m.wa m.wc m.t.ws) (o:∀k,m.blk k->c.heap.size<=k) (v:qd5 d B (waits++[m])) (p:g.grownBy d (some B)):
 ∃q,PS d b q {S with waits:=S.waits++[m.t]}/\(∀k,q k->G k\/c.heap.size<=k)/\qc G c d:=by
 have w:=l.later n;have y:zf d b C B F {S with waits:=S.waits++[m.t]} log (waits++[m]):=(w.turn p v (λx h=>by
  obtain a|a:=jcf.1 h
  .exact .inl a
  rw[jcj.1 a];refine .inr ⟨u,λk e z=>?_⟩;have:=o k e;have:=l.lt k z;omega)).waits _
 refine⟨_,⟨C,B,F,log,waits++[m],y,r,by rw[jdb,s];rfl,λk=>jdl⟩,λk A=>?_,?_⟩
 .obtain a|⟨x,h,a⟩:=A
  .exact .inl ((f k).2 (.inl a))
  obtain i|i:=jcf.1 h
  .exact .inl ((f k).2 (.inr ⟨x,jcf.2 (.inl i),a⟩))
  obtain j|j:=jcf.1 i
  .exact .inl ((f k).2 (.inr ⟨x,jcf.2 (.inr j),a⟩))
  rw[jcj.1 j]at a;exact .inr (o k a)
 exact(qc.ofBelow n).trans (qc.grown p (λk e=>(f k).2 (.inl (.inr (.inr (.inl oP))))))
def q0z (m:TxM) (w:Wl) (h:PS w b G S) (hI:j3 S) (hn:S.waits.length<=990) (hW:qr w m.wa m.wc m.t.ws):
 Ca 162 #[PP b,txV m] w λe w'=>e=.returned (jc (jf S m.t))/\∃S',zu S m.t S'/\PPo w b G S' w':=by
 obtain⟨⟨d,f,wall,g,i,j,l,n,ws⟩,a,A⟩:=m;simp only at hW ⊢;have hb:=boxed (jcc _ w) (.cells (List.toArray (T9 d f wall g i j l n a ws.length A)) 122);have H:=qd.new (w:=w) (T:=122) (T9 d f wall g i j l n a ws.length A) rfl;change qd (w.nu (List.toArray (T9 d f wall g i j l n a ws.length A)) 122) w.heap.size (T9 d f wall g i j l n a ws.length A)at H;have hne:=qb.one;have P1:=h.later hb;have W1:=hW.later hb;have nG:¬G w.heap.size:=λe=>mM _ (h.lt _ e)
 have NO:∀p ev,jf S ⟨d,f,wall,g,i,j,l,n,ws⟩=ev->ev≠0->Bw w p->Hid ((.returned (jc ev):Ending)=.returned (jc (jf S ⟨d,f,wall,g,i,j,l,n,ws⟩))/\∃S',zu S ⟨d,f,wall,g,i,j,l,n,ws⟩ S'/\PPo w b G S' p):=λp ev e1 e2 e3=>by
  show _/\_;rw[e1];exact⟨rfl,S,.inl ⟨by rw[e1];exact e2,rfl⟩,PPo.same h e3⟩
 have GO0:Hid (∀p G9 S',(∀k,G9 k->G k\/w.heap.size<=k)->qc G w p->∀w10,PPo p b G9 S' w10->PPo w b G S' w10):=λp G9 S' I N w10 z=>PPo.trans I N z;clear h hW;show Ca 162 #[PP b,.agg (List.toArray (T9 d f wall g i j l n a ws.length A))] w _;obtain⟨lv,bm,F,log,waits,PM,hl,hw,hG⟩:=id P1;have k0:=qb.cell (PM.box.c 0);have t0:=qb.cell (H.c 0);have t1:=qb.cell (H.c 1);have t2:=qb.cell (H.c 2);have t3:=qb.cell (H.c 3);have t4:=qb.cell (H.c 4);have t5:=qb.cell (H.c 5);have t6:=qb.cell (H.c 6);have t7:=qb.cell (H.c 7);have t8:=qb.cell (H.c 8);cases hok:okT ⟨d,f,wall,g,i,j,l,n,ws⟩
 .have HK:Hid (jt d f wall g i j l n ws=false):=hok;have E:jf S ⟨d,f,wall,g,i,j,l,n,ws⟩=1:=by unfold jf;rw[if_pos hok]
  have J:=λp K=>NO p 1 E oj K;clear E NO hok PM hl hw hG P1 hI;go_enter func162,ntmps162
  go_wp2_with fail
  refine wrl ?_;repeat (go_big_quiet_step (first|rfl|(go_at_call 199;with_reducible exact qg (qex (W1.later (qb.below _)) HK.out))))
  refine wpQuiet_nil ?_;rintro w2 ⟨⟨_,O⟩,rfl⟩;go_wp2_with fail
  go_ret;exact(J _ (qa hb O)).out
 have HK:Hid (jt d f wall g i j l n ws=true):=hok;obtain⟨⟨s0,s3⟩,⟨sq1,sq2⟩,sw⟩:=qcg hok;simp only at s0 s3 sq1 sq2 sw;have R:=hd1 hok;clear hok;by_cases V:d=S.id
 .have E:jf S ⟨d,f,wall,g,i,j,l,n,ws⟩=1:=by unfold jf;rw[if_neg (by rw[R.out];decide),if_pos V]
  have J:=λp K=>NO p 1 E oj K
  have i1:(d==S.id)=true:=by simp[V]
  have i2:decide (d=S.id)=true:=by simp[V]
  clear E NO PM hl hw hG P1 hI V;go_enter func162,ntmps162;go_wp2_with fail
  refine wrl ?_;repeat (go_big_quiet_step (first|rfl|(go_at_call 199;with_reducible exact qg (qex (W1.later (qb.below _)) HK.out))))
  refine wpQuiet_nil ?_;rintro w2 ⟨⟨_,O⟩,rfl⟩;go_wp2_with fail
  go_ret;exact(J _ (qa hb O)).out
 have i1:(d==S.id)=false:=by simp[V]
 have i2:decide (d=S.id)=false:=by simp[V]
 have Y:=hd1 V;have q:=hd4 PM hl hw hG;have HI:=hd1 hI;have W:=hd1 NO;clear NO PM hl hw hG P1 hI V;go_enter func162,ntmps162;go_wp2_with fail
 refine wrl ?_;repeat (go_big_quiet_step (first|rfl|(go_at_call 199;with_reducible exact qg (qex (W1.later (qb.below _)) HK.out))))
 refine wpQuiet_nil ?_;rintro w2 ⟨⟨_,O⟩,rfl⟩;clear t0 t1 t2 t3 t4 t5 t6 t7 t8 k0;have PM2:=hd1 (q.out.1.later O);have RB2:=H.later O;have hbw:=qa hb O;have HBA2:Hid (Below (w.nu (List.toArray (T9 d f wall g i j l n a ws.length A)) 122).heap.size (w.nu (List.toArray (T9 d f wall g i j l n a ws.length A)) 122) w2):=O;have HNT:=hd1 nG;clear H hb O nG;have d8:=qb.cell (PM2.out.box.c 8);have t0:=qb.cell (RB2.c 0);have t1:=qb.cell (RB2.c 1);have ks:=qb.cell (PM2.out.box.cell _ _ (qmz s0 s3));have s4:d<4:=oe;obtain⟨D,hD⟩:∃D,qp d S.a0 S.a1 S.a2 S.a3=D:=⟨_,rfl⟩;have HD:=hd1 hD;rw[hD]at ks;clear hD;by_cases hle:f<=D
 .have E:jf S ⟨d,f,wall,g,i,j,l,n,ws⟩=9:=by unfold jf;rw[if_neg (by rw[R.out];decide),if_neg Y.out,if_pos (by rw[HD.out];exact hle)]
  have J:=λp K=>W.out p 9 E oj K;clear E W q HI
  go_wp2_with fail
  refine wrl ?_;repeat (go_big_quiet_step (first|rfl|fail))
  refine wpQuiet_nil ?_;rintro w3 ⟨⟨_,P⟩,rfl⟩;go_wp2_with fail
  go_ret;exact(J _ (qa hbw P)).out
 obtain⟨mx,v,hL⟩:=q0t waits d f;have wfs:wfI d:=⟨oe,oe⟩;have wfq:wfI f:=⟨oe,oe⟩;have HAS:Hid (∀x:qb w2,Ca 200 #[.map (some bm),U d,U f] x.val λe w'=>e=.returned (.bool v)/\Below x.val.heap.size x.val w'):=λx=>jac hL wfs wfq x.val (PM2.out.later x.below).map;have HAN:=hd1 (q6g (t:=⟨d,f,wall,g,i,j,l,n,ws⟩) q.out.2.2.1 hL);have HLE:=hd1 hle;have q1:=decide_eq_false hle;cases v
 rotate_left
 .have E:jf S ⟨d,f,wall,g,i,j,l,n,ws⟩=9:=by unfold jf;rw[if_neg (by rw[R.out];decide),if_neg Y.out,if_neg (by rw[HD.out];have:=HLE.out;simp only;omega),if_pos HAN.out]
  have J:=λp K=>W.out p 9 E oj K;clear E W q HI hL
  go_wp2_with fail
  refine wrl ?_;repeat (go_big_quiet_step (first|rfl|(go_at_call 200;with_reducible exact qg (HAS.out _))))
  refine wpQuiet_nil ?_;rintro w3 ⟨⟨_,P⟩,rfl⟩;go_wp2_with fail
  go_ret;exact(J _ (qa hbw P)).out
 have HNM:Hid (∀x∈waits,vv x.t ⟨d,f,wall,g,i,j,l,n,ws⟩=false):=λx hx=>by
  cases hi:vv x.t ⟨d,f,wall,g,i,j,l,n,ws⟩with
  |false=>rfl
  |true=>exact absurd (qe5.1 hi) ((hL.no rfl).2 x hx)
 clear hL;go_wp2_with fail
 refine wrl ?_;repeat (go_big_quiet_step (first|rfl|(go_at_call 200;with_reducible exact qg (HAS.out _))))
 refine wpQuiet_nil ?_;rintro w3 ⟨⟨_,P⟩,rfl⟩;have PM3:=hd1 (PM2.out.later P);have RB3:=RB2.later P;have hbw3:=qa hbw P;have HBA:=hd1 (qa HBA2.out P);clear RB2 hbw P HAS hle t0 t1 ks d8;have hll:log.length=S.log.length:=by rw[<-q.out.2.1];simp
 have hwl:waits.length=S.waits.length:=by rw[<-q.out.2.2.1];simp
 by_cases hf:200<=log.length
 .have E:jf S ⟨d,f,wall,g,i,j,l,n,ws⟩=12:=by unfold jf;rw[if_neg (by rw[R.out];decide),if_neg Y.out,if_neg (by rw[HD.out];have:=HLE.out;simp only;omega),if_neg (by rw[HAN.out];decide),if_pos oe]
  have J:=λp K=>W.out p 12 E oj K;have IF:=qe0 (decide_eq_true hf) w3 PM3.out;clear E W q HI hf hll hwl
  go_wp2_with fail
  refine IF.mono ?_;rintro e B ⟨rfl,Z⟩;go_wp2_with fail
  go_ret;exact(J _ (qa hbw3 Z)).out
 have IF:=qe0 (decide_eq_false hf) w3 PM3.out;have HF:Hid (S.log.length<200):=by show _<_;omega
 have HWL:=hd2 hwl hn;clear hf hll;go_wp2_with fail
 refine IF.mono ?_;rintro e B ⟨rfl,Z⟩;have X:=hd1 (PM3.out.later Z);have C:=RB3.later Z;have hbw4:=qa hbw3 Z;have HW4:=hd1 (qa HBA.out Z);clear RB3 hbw3 Z;have d8:=X.out.box.c 8;obtain⟨hM1,hM2,DD,hown,hMI⟩:=id X.out.map;have LEN:∀ty,(Builtin.len_ #[181] ty #[.map (some bm)]).run prog B=.ok (U waits.length) B:=λty=>by
  have:=hown.len underlying181 ty;rw[hMI.size]at this;exact this
 clear hM1 hM2 hown hMI;have t0:=(C.c 0);have t1:=(C.c 1);have t2:=(C.c 2);have t3:=(C.c 3);have t4:=(C.c 4);have t5:=(C.c 5);have t6:=(C.c 6);have t7:=(C.c 7);have t8:=(C.c 8);by_cases h40:40<=waits.length;have g40:(40:Int)<=(waits.length:Int):=oe;obtain⟨r,hr⟩:∃r,qz S ⟨d,f,wall,g,i,j,l,n,ws⟩=r:=⟨_,rfl⟩;have RD:=qnn (v:=r) ⟨⟨d,f,wall,g,i,j,l,n,ws⟩,a,A⟩ B X.out s0 s3 (HI.out.dep _) hr;simp only[txV]at RD;have HR:=hd1 hr;clear hr;cases r
 .have E:jf S ⟨d,f,wall,g,i,j,l,n,ws⟩=12:=by unfold jf;rw[if_neg (by rw[R.out];decide),if_neg Y.out,if_neg (by rw[HD.out];have:=HLE.out;simp only;omega),if_neg (by rw[HAN.out];decide),if_neg (by have:=HF.out;omega),if_pos ⟨by have:=HWL.out;omega,HR.out⟩]
  have J:=λp K=>W.out p 12 E oj K;clear E W q HI
  go_wp2_with fail
  refine RD.mono ?_;rintro e M ⟨rfl,aa⟩;go_wp2_with fail
  go_ret;exact(J _ (qa hbw4 aa)).out
 have E0:Hid (jf S ⟨d,f,wall,g,i,j,l,n,ws⟩=0):=by show _=_;unfold jf;rw[if_neg (by rw[R.out];decide),if_neg Y.out,if_neg (by rw[HD.out];have:=HLE.out;simp only;omega),if_neg (by rw[HAN.out];decide),if_neg (by have:=HF.out;omega),if_neg (λe=>by rw[HR.out]at e;cases e.2)]
 go_wp2_with fail
 refine RD.mono ?_;rintro e M ⟨rfl,aa⟩;have PM5:=hd1 (X.out.later aa);have RB5:=C.later aa;have hbw5:=qa hbw4 aa;have HW5:=hd1 (qa HW4.out aa);clear aa;have hbW:=HW5.out;have HTB:Hid (∀w',qd5 w' bm (waits++[⟨⟨d,f,wall,g,i,j,l,n,ws⟩,none,0⟩])->True):=λ_ _=>trivial;have SB:TkB w.heap.size b bm (T9 d f wall g i j l n a ws.length A) M.drew:=⟨RB5.drew,PM5.out.box.c 8⟩
 have CP:Hid (Ca 192 #[.agg (List.toArray (T9 d f wall g i j l n a ws.length A))] M.drew λe w'=>(∃a2 o,e=.returned (.agg (List.toArray (T9 d f wall g i j l n a2 ws.length o)))/\Hid (qr w' a2 o ws/\(∀k,(⟨⟨d,f,wall,g,i,j,l,n,ws⟩,a2,o⟩:TxM).blk k->M.heap.size<=k)))/\TkB w.heap.size b bm (T9 d f wall g i j l n a ws.length A) w'/\Bw M w'):=
  (qgq ⟨⟨d,f,wall,g,i,j,l,n,ws⟩,a,A⟩ M.drew (W1.later (hbW.trans (jcc _ M).drew)) sw.1 (by have:=sw.2;simp only;omega)).mono λe w' ⟨m2,I,N,z,h4,h5⟩=>by
   obtain⟨t2,a2,o⟩:=m2;simp only at I;subst I;have s:=qa (jcc _ M).drew h5;exact⟨⟨a2,o,N,z,h4⟩,⟨RB5.later s,(PM5.out.later s).box.c 8⟩,s⟩
 have PU:Hid (∀a2 o u,(qr u a2 o ws/\(∀k,(⟨⟨d,f,wall,g,i,j,l,n,ws⟩,a2,o⟩:TxM).blk k->M.heap.size<=k))->Bw M u->Ca 202 #[.map (some bm),.agg (List.toArray (T9 d f wall g i j l n a2 ws.length o))] u λe w'=>e=.returned (.tuple #[])/\TkB w.heap.size b bm (T9 d f wall g i j l n a ws.length A) w'/\Hid (∃L,PS w' b L {S with waits:=S.waits++[⟨d,f,wall,g,i,j,l,n,ws⟩]}/\(∀k,L k->G k\/w.heap.size<=k)/\qc G w w')):=λa2 o u hh s=>by
  have Q:=PM5.out.later s;have R6:=RB5.later s;refine(q0o ⟨⟨d,f,wall,g,i,j,l,n,ws⟩,a2,o⟩ u Q.map ⟨⟨oL,oL⟩,⟨oL,oL⟩⟩ HNM.out (by have:=HWL.out;omega)).mono λe w' ⟨I,N,z⟩=>⟨I,⟨R6.grown z (λe=>?_),?_⟩,?_⟩
  .injection e with e;exact HNT.out (by rw[e];exact(q.out.2.2.2 bm).2 (.inl (.inr (.inr (.inl rfl)))))
  .rw[jch (w:=u) (z.block b Q.box.lt (λe=>Q.nm oP))];exact Q.box.c 8
  obtain⟨L,g1,g2,g3⟩:=q7h PM5.out q.out.2.1 q.out.2.2.1 q.out.2.2.2 s hh.1 hh.2 N z;exact⟨L,g1,λk hk=>(g2 k hk).imp id (λe=>by have:=hbw5.size;omega),(qc.ofBelow hbw5).more g3 (λk hk=>.inl hk)⟩
 rotate_left;have g40:¬(40:Int)<=(waits.length:Int):=oe;have E0:Hid (jf S ⟨d,f,wall,g,i,j,l,n,ws⟩=0):=by show _=_;unfold jf;rw[if_neg (by rw[R.out];decide),if_neg Y.out,if_neg (by rw[HD.out];have:=HLE.out;simp only;omega),if_neg (by rw[HAN.out];decide),if_neg (by have:=HF.out;omega),if_neg (λe=>by have:=HWL.out;omega)]
 go_wp2_with fail
 have hbW:=HW4.out;have HTB:Hid (∀w',qd5 w' bm (waits++[⟨⟨d,f,wall,g,i,j,l,n,ws⟩,none,0⟩])->True):=λ_ _=>trivial;have SB:TkB w.heap.size b bm (T9 d f wall g i j l n a ws.length A) B.drew:=⟨C.drew,X.out.box.c 8⟩
 have CP:Hid (Ca 192 #[.agg (List.toArray (T9 d f wall g i j l n a ws.length A))] B.drew λe w'=>(∃a2 o,e=.returned (.agg (List.toArray (T9 d f wall g i j l n a2 ws.length o)))/\Hid (qr w' a2 o ws/\(∀k,(⟨⟨d,f,wall,g,i,j,l,n,ws⟩,a2,o⟩:TxM).blk k->B.heap.size<=k)))/\TkB w.heap.size b bm (T9 d f wall g i j l n a ws.length A) w'/\Bw B w'):=
  (qgq ⟨⟨d,f,wall,g,i,j,l,n,ws⟩,a,A⟩ B.drew (W1.later (hbW.trans (jcc _ B).drew)) sw.1 (by have:=sw.2;simp only;omega)).mono λe w' ⟨m2,I,N,z,h4,h5⟩=>by
   obtain⟨t2,a2,o⟩:=m2;simp only at I;subst I;have s:=qa (jcc _ B).drew h5;exact⟨⟨a2,o,N,z,h4⟩,⟨C.later s,(X.out.later s).box.c 8⟩,s⟩
 have PU:Hid (∀a2 o u,(qr u a2 o ws/\(∀k,(⟨⟨d,f,wall,g,i,j,l,n,ws⟩,a2,o⟩:TxM).blk k->B.heap.size<=k))->Bw B u->Ca 202 #[.map (some bm),.agg (List.toArray (T9 d f wall g i j l n a2 ws.length o))] u λe w'=>e=.returned (.tuple #[])/\TkB w.heap.size b bm (T9 d f wall g i j l n a ws.length A) w'/\Hid (∃L,PS w' b L {S with waits:=S.waits++[⟨d,f,wall,g,i,j,l,n,ws⟩]}/\(∀k,L k->G k\/w.heap.size<=k)/\qc G w w')):=λa2 o u hh s=>by
  have Q:=X.out.later s;have R6:=C.later s;refine(q0o ⟨⟨d,f,wall,g,i,j,l,n,ws⟩,a2,o⟩ u Q.map ⟨⟨oL,oL⟩,⟨oL,oL⟩⟩ HNM.out (by have:=HWL.out;omega)).mono λe w' ⟨I,N,z⟩=>⟨I,⟨R6.grown z (λe=>?_),?_⟩,?_⟩
  .injection e with e;exact HNT.out (by rw[e];exact(q.out.2.2.2 bm).2 (.inl (.inr (.inr (.inl rfl)))))
  .rw[jch (w:=u) (z.block b Q.box.lt (λe=>Q.nm oP))];exact Q.box.c 8
  obtain⟨L,g1,g2,g3⟩:=q7h X.out q.out.2.1 q.out.2.2.1 q.out.2.2.2 s hh.1 hh.2 N z;exact⟨L,g1,λk hk=>(g2 k hk).imp id (λe=>by have:=hbw4.size;omega),(qc.ofBelow hbw4).more g3 (λk hk=>.inl hk)⟩
 all_goals
  have T0:=λ(w':Wl) (h:TkB w.heap.size b bm (T9 d f wall g i j l n a ws.length A) w')=>h.t.c 0;have T1:=λ(w':Wl) (h:TkB w.heap.size b bm (T9 d f wall g i j l n a ws.length A) w')=>h.t.c 1;have T2:=λ(w':Wl) (h:TkB w.heap.size b bm (T9 d f wall g i j l n a ws.length A) w')=>h.t.c 2;have T3:=λ(w':Wl) (h:TkB w.heap.size b bm (T9 d f wall g i j l n a ws.length A) w')=>h.t.c 3;have T4:=λ(w':Wl) (h:TkB w.heap.size b bm (T9 d f wall g i j l n a ws.length A) w')=>h.t.c 4;have T5:=λ(w':Wl) (h:TkB w.heap.size b bm (T9 d f wall g i j l n a ws.length A) w')=>h.t.c 5;have T6:=λ(w':Wl) (h:TkB w.heap.size b bm (T9 d f wall g i j l n a ws.length A) w')=>h.t.c 6;have T7:=λ(w':Wl) (h:TkB w.heap.size b bm (T9 d f wall g i j l n a ws.length A) w')=>h.t.c 7;have T8:=λ(w':Wl) (h:TkB w.heap.size b bm (T9 d f wall g i j l n a ws.length A) w')=>h.t.c 8;have TM:=λ(w':Wl) (h:TkB w.heap.size b bm (T9 d f wall g i j l n a ws.length A) w')=>h.m;clear HTB t0 t1 t2 t3 t4 t5 t6 t7 t8 d8 LEN
  go_wp2_with fail
  go_region_held3 (λw'=>TkB w.heap.size b bm (T9 d f wall g i j l n a ws.length A) w') (with_reducible assumption)
   (first
        |(go_at_call 192;with_reducible refine CP.out.mono ?_;rintro e u ⟨⟨a2,o,rfl,HC6⟩,N6,hb6⟩)
        |(go_at_call 202;with_reducible refine(PU.out a2 o _ HC6.out hb6).mono ?_;rintro e w7 ⟨rfl,N7,HP7⟩))
  all_goals
   clear T0 T1 T2 T3 T4 T5 T6 T7 T8 TM;obtain⟨L,q1,q2,q3⟩:=HP7.out;have AR:=qqg w7 q1 (HI.out.wait R.out Y.out (λx hx=>by rw[<-q.out.2.2.1]at hx;obtain⟨y,hy,rfl⟩:=jcz.1 hx;exact HNM.out y hy)) (by have:=HWL.out;simp;omega);have HGO:=hd1 (λS' w' hp=>GO0.out w7 L S' q2 q3 w' hp);clear q1 q2 q3;go_wp2_with fail
   refine AR.mono ?_;rintro e w8 ⟨rfl,S',hgo,hp⟩;have HF9:Hid (∃S',zu S ⟨d,f,wall,g,i,j,l,n,ws⟩ S'/\PPo w b G S' w8):=⟨S',.inr ⟨E0.out,hgo⟩,HGO.out S' w8 hp⟩;clear hgo hp;go_wp2_with fail
   go_ret;refine⟨?_,HF9.out⟩;rw[E0.out];rfl
end
section
open _root_.Go.Proofs.Tryz Go.RowKit
def q62 {lw lc now x y e:Int} (h:qcp lw lc now=(x,y,e)) (w:Wl):
 Ca 190 #[.agg #[U lw,U lc],U now] w (Rn (.tuple #[.agg #[U x,U y],jc e]) w):=by
 unfold qcp at h;split at h
 .rename_i g;injection h with h1 h2;injection h2 with h2 h3;subst h1 h2 h3;exact qv7 lw lc now w g
 rename_i g;have k:(qi lw&&qi lc)=true:=by simpa using g
 have f:0<=lc/\lc<=1099511627776:=by
  have i:=k;simp[qi]at i;omega
 split at h
 .rename_i c;injection h with h1 h2;injection h2 with h2 h3;subst h1 h2 h3;exact quj lw lc now w k c
 rename_i c;have d:qi now=true:=by simpa using c
 split at h
 .rename_i a;injection h with h1 h2;injection h2 with h2 h3;subst h1 h2 h3;exact q2c lw lc now w k d a
 rename_i a;split at h
 .rename_i j;injection h with h1 h2;injection h2 with h2 h3;subst h1 h2 h3;exact q1l lw lc now w k d a ou
 rename_i j;injection h with h1 h2;injection h2 with h2 h3;subst h1 h2 h3;exact qzl lw lc now w k d a ou f.1 oe
def qfl (S:qe) (now Z d1 d2 d3:Int) (ws:List Wr):Int:=ji S S.log.length now Z d1 d2 d3 ws
def qha (S:qe) (now Z d1 d2 d3:Int) (ws:List Wr):TxP:=if qfl S now Z d1 d2 d3 ws=0 then zv S now Z d1 d2 d3 ws else ⟨0,0,0,0,0,0,0,0,[]⟩
def qf3 (S:qe) (now Z d1 d2 d3:Int) (ws:List Wr):qe:=if qfl S now Z d1 d2 d3 ws=0 then vr S (zv S now Z d1 d2 d3 ws)else S
def qsw (w:Wl) (b:Nat) (G:Np) (S:qe) (now Z d1 d2 d3:Int) (ws:List Wr) (e:Ending) (w':Wl):Prop:=
 ∃(m:TxM) (G':Np),e=.returned (.tuple #[txV m,jc (qfl S now Z d1 d2 d3 ws)])/\m.t=qha S now Z d1 d2 d3 ws/\Hid (qr w' m.wa m.wc m.t.ws/\PS w' b G' (qf3 S now Z d1 d2 d3 ws)/\(∀k,G' k->G k\/w.heap.size<=k)/\qc G w w'/\∀k,m.blk k->w.heap.size<=k/\¬G' k)
def qba {tmps:Av} {m:TxM} {ev:Vl} (h:qd w b (txC m)) (a:tmps[8]?=some (PP b)) (c:tmps[9]?=some ev):
 (results f158 tmps).run prog w=.ok (.tuple #[txV m,ev]) w:=by
 obtain⟨d,e,f,g,i,j,k,l,n⟩:=h.c9;simp[results,results158,go_sem,a,c,d,e,f,g,i,j,k,l,n,txV]
variable {Z d1 d2 d3:Int} {ws:List Wr}
def qpk {now:Int} (a:j3 S) (h:qfl S now Z d1 d2 d3 ws=0):j3 (vr S (zv S now Z d1 d2 d3 ws))/\1<=ws.length/\ws.length<=5/\S.log.length<200:=by
 obtain⟨d,f,g,i,j⟩:=qip h;have c:1<=ws.length/\ws.length<=5:=by
  simp only[qad,jct,jk]at d;omega
 have k:=a.own;have e:=a.dep S.id;refine⟨a.applied ⟨a.id0,a.id3⟩ ⟨?_,?_⟩ c (λ_=>?_) oe,c.1,c.2,oe⟩
 .show 0<=qp S.id _ _ _ _+1;have:=e.1;omega
 .show qp S.id _ _ _ _+1<=_;omega
 show qp S.id _ _ _ _+1<=_;omega
def qbl {p:Addr} (h:qc F w W) (d:w.heap.size<=p.block) (v:Vl):qc F w (W.setCell p v):=
 ⟨h.os,h.tape,h.output,by simpa[World.setCell]using h.size,λk a c=>(jce _ _ _ _ oe).trans (h.block k a c)⟩
def qwv (h:qc F w W) (a:w.heap.size<=b) (i j k m c d e f:Int) (v:Vl):qc F w (js W b i j k m c d e f v):=
 qbl (qbl (qbl (qbl (qbl (qbl (qbl (qbl (qbl h a _) a _) a _) a _) a _) a _) a _) a _) a _
def qzm {s o i:Wl} {lv p:Vl} {bm:Nat} {F' G:Np} {log waits:List TxM} {now:Int} {x0 x1 x2 x3 a c d f:Int} {u wa2:Oa} {v wc2:Nat} (L:PS w b G S) (M:Bw w s) (X:w.heap.size+1<s.heap.size)
 (B:zf o b p bm F' (vr S ⟨x0,x1,x2,x3,a,c,d,f,ws⟩) (log++[⟨⟨x0,x1,x2,x3,a,c,d,f,ws⟩,u,v⟩]) waits) (C:∀k,jn b p bm F' k->jn b lv bm F k\/s.heap.size<=k) (r:qc (jn b lv bm F) s o)
 (D:∀k,(⟨⟨x0,x1,x2,x3,a,c,d,f,ws⟩,u,v⟩:TxM).blk k->w.heap.size+1<k) (E:log.map (·.t)=S.log) (H:waits.map (·.t)=S.waits) (l:∀k,G k↔(jn b lv bm F k\/∃m∈log++waits,m.blk k)) (I:Bw o i)
 (N:qr i wa2 wc2 ws) (x:∀k,(⟨⟨x0,x1,x2,x3,a,c,d,f,ws⟩,wa2,wc2⟩:TxM).blk k->w.heap.size+1<k/\o.heap.size<=k) (J:zv S now Z d1 d2 d3 ws=⟨x0,x1,x2,x3,a,c,d,f,ws⟩) (y:qfl S now Z d1 d2 d3 ws=0):
 Hid (qsw w b G S now Z d1 d2 d3 ws (.returned (.tuple #[txV ⟨⟨x0,x1,x2,x3,a,c,d,f,ws⟩,wa2,wc2⟩,.nilIface])) (js i (w.heap.size+1) x0 x1 x2 x3 a c d f (.slice wa2 ws.length wc2))):=by
 have O:=((qc.ofBelow M).more ⟨r.os,r.tape,r.output,r.size,λk j P=>r.block k j (λe=>P ((l k).2 (.inl e)))⟩ (λk j=>.inl j)).trans (qc.ofBelow I);have K:∀k,k≠w.heap.size+1->(js i (w.heap.size+1) x0 x1 x2 x3 a c d f (.slice wa2 ws.length wc2)).heap[k]?=i.heap[k]?:=λk j=>qco j x0 x1 x2 x3 a c d f _
 have Y:(js i (w.heap.size+1) x0 x1 x2 x3 a c d f (.slice wa2 ws.length wc2)).heap.size=i.heap.size:=by simp only[js,World.setCell,Array.size_modify]
 have Q:qc G w (js i (w.heap.size+1) x0 x1 x2 x3 a c d f (.slice wa2 ws.length wc2)):=qwv O (Nat.le_succ _) _ _ _ _ _ _ _ _ _;generalize js i (w.heap.size+1) x0 x1 x2 x3 a c d f (.slice wa2 ws.length wc2)=W at*;have R:=B.later I;have z:=L.lt;have T:PS W b (λk=>jn b p bm F' k\/∃m∈(log++[⟨⟨x0,x1,x2,x3,a,c,d,f,ws⟩,u,v⟩])++waits,m.blk k) (vr S ⟨x0,x1,x2,x3,a,c,d,f,ws⟩):=by
  refine⟨p,bm,F',_,waits,R.kept (λk j=>K k (λe=>?_)) oe,by rw[jdb,E];rfl,H,λk=>jdl⟩;obtain g|⟨m,A,g⟩:=j
  .obtain h|h:=C k g
   .have:=z k ((l k).2 (.inl h));omega
   omega
  obtain h|h:=jcf.1 A
  .obtain n|n:=jcf.1 h
   .have:=z k ((l k).2 (.inr ⟨m,jcf.2 (.inl n),g⟩));omega
   rw[jcj.1 n]at g;have:=D k g;omega
  have:=z k ((l k).2 (.inr ⟨m,jcf.2 (.inr h),g⟩));omega
 have V:=PS.lt (w:=o) (b:=b) (S:=vr S ⟨x0,x1,x2,x3,a,c,d,f,ws⟩) ⟨p,bm,F',_,waits,B,by rw[jdb,E];rfl,H,λk=>jdl⟩;refine⟨⟨⟨x0,x1,x2,x3,a,c,d,f,ws⟩,wa2,wc2⟩,_,by rw[y];rfl,?_,qr.kept (m:=⟨⟨x0,x1,x2,x3,a,c,d,f,ws⟩,wa2,wc2⟩) (w:=i) N (λk e=>K k (by have:=(x k e).1;omega)),by unfold qf3;rw[if_pos y,J];exact T,λk j=>?_,Q,λk e=>⟨by have:=(x k e).1;omega,λq=>by have:=V k q;have:=(x k e).2;omega⟩⟩
 .unfold qha;rw[if_pos y,J]
 obtain g|⟨m,A,g⟩:=j
 .obtain h|h:=C k g
  .exact .inl ((l k).2 (.inl h))
  exact .inr oe
 obtain h|h:=jcf.1 A
 .obtain n|n:=jcf.1 h
  .exact .inl ((l k).2 (.inr ⟨m,jcf.2 (.inl n),g⟩))
  rw[jcj.1 n]at g;have:=D k g;exact .inr oe
 exact .inl ((l k).2 (.inr ⟨m,jcf.2 (.inr h),g⟩))
end
section
open Go.RowKit
def qoz (S:qe) (s:Int):Int:=qp s S.a0 S.a1 S.a2 S.a3
def qyy {S:qe} (h:qd7 S=none):∀x∈S.waits,0<=x.site->x.site<=3->qz S x=false:=by
 have a:qbt S 0=none/\qbt S 1=none/\qbt S 2=none/\qbt S 3=none:=by
  unfold qd7 at h;split at h
  .cases h
  rename_i p0;split at h
  .cases h
  rename_i p1;split at h
  .cases h
  rename_i p2;exact⟨p0,p1,p2,h⟩
 intro x b d f;have c:x.site=0\/x.site=1\/x.site=2\/x.site=3:=oe;obtain e|e|e|e:=c
 .exact qgg a.1 x b e
 .exact qgg a.2.1 x b e
 .exact qgg a.2.2.1 x b e
 exact qgg a.2.2.2 x b e
def q43 {lw lc now:Int} (h:(qcp lw lc now).2.2=0):qi (qcp lw lc now).1=true/\qi (qcp lw lc now).2.1=true/\qdr lw lc (qcp lw lc now).1 (qcp lw lc now).2.1<0:=by
 unfold qcp at h ⊢;split
 .rename_i g;rw[if_pos g]at h;cases h
 rename_i g;rw[if_neg g]at h;have i:(qi lw&&qi lc)=true:=by simpa using g
 rw[jct,qdz,qdz]at i;split
 .rename_i b;rw[if_pos b]at h;cases h
 rename_i b;rw[if_neg b]at h;have f:qi now=true:=by simpa using b
 split
 .rename_i c;show qi now=true/\qi 0=true/\qdr lw lc now 0<0;refine⟨f,qf7 oj oj,?_⟩;obtain⟨a,e⟩|⟨a,e⟩|⟨a,e⟩:=qcw lw lc now 0<;>simp only[e]<;>omega
 rename_i c;rw[if_neg c]at h;split
 .rename_i d;rw[if_pos d]at h;cases h
 rename_i d;show qi lw=true/\qi (lc+1)=true/\qdr lw lc lw (lc+1)<0;refine⟨qf7 i.1.1 i.1.2,qf7 oe oe,?_⟩;rcases qcw lw lc lw (lc+1)with ⟨a,e⟩|⟨a,e⟩|⟨a,e⟩<;>simp only[e]<;>omega
def q3w (i q a b c d s:Int) (f:0<=s) (g:s<=3):qp s (qch i q a) (qcl i q b) (qck i q c) (qcj i q d)=if s=i then q else qp s a b c d:=by
 have e:s=0\/s=1\/s=2\/s=3:=oe;obtain rfl|rfl|rfl|rfl:=e<;>simp[qp,qch,qcl,qck,qcj,eq_comm]
def qfm.log {S b:qe} (h:qfm S b):(∀x∈S.log,x∈b.log)/\b.waits.length<=S.waits.length:=by
 induction h with
 |full _=>exact⟨λ_ h=>h,jcd _⟩
 |none _=>exact⟨λ_ h=>h,jcd _⟩
 |step _ _ _ ih=>exact⟨λx a=>ih.1 x (jcf.2 (.inl a)),jcn ih.2 (jdo _ _)⟩
def qbq (S:qe) (key a0 a1 a2 a3:Int):Ver×Int:=if qa8 S.a0 S.a1 S.a2 S.a3 a0 a1 a2 a3=true then zz key a0 a1 a2 a3 S.l else (jq,10)
def qn3 {w:Wl} (h:Bw w W) (a:w.heap.size<=b) (e i j k:Int) (c:By) (d:Bool):Bw w ((((((W.setCell (AD b 0) (U e)).setCell (AD b 1) (U i)).setCell (AD b 2) (U j)).setCell (AD b 3) (U k)).setCell (AD b 4) (.string c)).setCell (AD b 5) (.bool d)):=
 (((((h.setCell a _).setCell a _).setCell a _).setCell a _).setCell a _).setCell a _
def qt0 {c:Nat} {a0 a1 a2 a3:Int} (h:qo W b a0 a1 a2 a3) (a:c≠b) (i j k m:Int) (d:By) (e:Bool):qo ((((((W.setCell (AD c 0) (U i)).setCell (AD c 1) (U j)).setCell (AD c 2) (U k)).setCell (AD c 3) (U m)).setCell (AD c 4) (.string d)).setCell (AD c 5) (.bool e)) b a0 a1 a2 a3:=
 (((((h.far (AD c 0) _ a).far (AD c 1) _ a).far (AD c 2) _ a).far (AD c 3) _ a).far (AD c 4) _ a).far (AD c 5) _ a
def qn6 (h:qd W b (qh jq)) (d e i j:Int) (a:By) (c:Bool):qd ((((((W.setCell (AD b 0) (U d)).setCell (AD b 1) (U e)).setCell (AD b 2) (U i)).setCell (AD b 3) (U j)).setCell (AD b 4) (.string a)).setCell (AD b 5) (.bool c)) b (qh ⟨d,e,i,j,a,c⟩):=
 (((((h.set 0 _ oq).set 1 _ oq).set 2 _ oq).set 3 _ oq).set 4 _ oq).set 5 _ oq
structure qy where
 p0:Int
 p1:Int
 p2:Int
 p3:Int
 opn:Bool
 s0:Int
 s1:Int
 s2:Int
 s3:Int
 ws:List Wr
def qez:qy:=⟨0,0,0,0,false,0,0,0,0,[]⟩
def qay (l:List Wr) (key:Int):Option Wr:=l.reverse.find? (λx=>decide (x.key=key))
def qmt (l:List Wr) (x:Wr) (a:Int):qay (l++[x]) a=if x.key=a then some x else qay l a:=by
 unfold qay;rw[List.reverse_append];by_cases h:x.key=a
 .simp[h]
 simp[h]
def q5a {l:List Wr} {d:Int} {x:Wr} (h:qay l d=some x):x.key=d/\x∈l:=by
 unfold qay at h;have a:=List.find?_some h;have b:=List.mem_of_find?_eq_some h;exact⟨by simpa using a,by simpa using b⟩
def jh (l:List Wr):List Wr:=(List.range 8).filterMap (λ(k:Nat)=>qay l (k:Int))
def qak (l:List Wr) (k:Nat):List Wr:=(List.range k).filterMap (λ(k:Nat)=>qay l (k:Int))
def qim (l:List Wr) (k:Nat):qak l (k+1)=qak l k++(match qay l (k:Int)with|some x=>[x]|none=>[]):=by
 unfold qak;rw[List.range_succ,List.filterMap_append];cases h:qay l (k:Int)<;>simp[h]
def qkg (l:List Wr) (k:Nat):(qak l k).length<=k:=by
 unfold qak;have:=List.length_filterMap_le (λ(k:Nat)=>qay l (k:Int)) (List.range k);simpa using this
def qqj (l:List Wr) (x:Wr) (k:Nat) (c:0<=x.key):(qak (l++[x]) k).length=(qak l k).length+if x.key<k/\qay l x.key=none then 1 else 0:=by
 induction k with
 |zero=>simp[qak];omega
 |succ k ih=>
  rw[qim,qim,jcl,jcl,ih,qmt];by_cases h:x.key=(k:Int)
  .rw[if_pos h,h];cases ho:qay l (k:Int)with
   |none=>
    rw[if_neg oe,if_pos ⟨oe,rfl⟩];simp
   |some y=>
    rw[if_neg oe,if_neg oi];simp
  rw[if_neg h];have e:(x.key<(k:Int)/\qay l x.key=none)↔(x.key<((k+1:Nat):Int)/\qay l x.key=none):=by
   constructor
   .rintro ⟨a,b⟩;exact⟨oe,b⟩
   rintro ⟨a,b⟩;exact⟨oe,b⟩
  by_cases g:x.key<(k:Int)/\qay l x.key=none
  .rw[if_pos g,if_pos (e.1 g)];omega
  rw[if_neg g,if_neg (λh=>g (e.2 h))];omega
def qhl (S:qe) (s:qy):Int:=if s.opn=true then 6 else if qa8 S.a0 S.a1 S.a2 S.a3 s.p0 s.p1 s.p2 s.p3=false then 10 else 0
def qhd (S:qe) (s:qy):qy:=if qhl S s=0 then {s with opn:=true,s0:=S.a0,s1:=S.a1,s2:=S.a2,s3:=S.a3,ws:=[]}else s
def vi (S:qe) (s:qy) (key:Int):By×Int:=
 if s.opn=false then (⟨#[]⟩,6)else match qay s.ws key with
    |some x=>if x.gone=true then (⟨#[]⟩,8)else (x.data,0)
    |none=>((qbq S key s.s0 s.s1 s.s2 s.s3).1.data,(qbq S key s.s0 s.s1 s.s2 s.s3).2)
def qaj (s:qy) (x:Wr):Int:=
 if s.opn=false then 6 else if x.key<0\/8<=x.key then 2 else if 12<x.data.size then 4 else if x.gone=true/\x.data.size≠0 then 1 else if qay s.ws x.key=none/\5<=(jh s.ws).length then 12 else 0
def qd2 (s:qy) (x:Wr):qy:=if qaj s x=0 then {s with ws:=s.ws++[x]}else s
def qc3 (s:qy):qy:=⟨jd s.p0 s.s0,jd s.p1 s.s1,jd s.p2 s.s2,jd s.p3 s.s3,false,0,0,0,0,[]⟩
def qi5 (s:qy):Int:=if s.opn=false then 6 else 0
def qhh (s:qy):qy:=if s.opn=false then s else qc3 s
def qeg (S:qe) (s:qy) (now:Int):Int:=if s.opn=false then 6 else if (jh s.ws).length=0 then 0 else qfl S now s.s0 s.s1 s.s2 s.s3 (jh s.ws)
def qce (S:qe) (s:qy) (now:Int):TxP:=if s.opn=false\/(jh s.ws).length=0 then ⟨0,0,0,0,0,0,0,0,[]⟩else qha S now s.s0 s.s1 s.s2 s.s3 (jh s.ws)
def atLeast (site seq:Int) (s:qy):qy:={s with p0:=if site=0 then jd s.p0 seq else s.p0,p1:=if site=1 then jd s.p1 seq else s.p1,p2:=if site=2 then jd s.p2 seq else s.p2,p3:=if site=3 then jd s.p3 seq else s.p3}
def j0 (S:qe) (s:qy) (now:Int):qy:=if qeg S s now≠0 then s else if (jh s.ws).length=0 then qc3 s else atLeast (qce S s now).site (qce S s now).seq (qc3 s)
def qcc (S:qe) (s:qy) (now:Int):qe:=if s.opn=false\/(jh s.ws).length=0 then S else qf3 S now s.s0 s.s1 s.s2 s.s3 (jh s.ws)
def j3.scom {S:qe} {s:qy} {now:Int} (h:j3 S):j3 (qcc S s now):=by
 unfold qcc qf3;split
 .exact h
 split
 .rename_i g;exact(qpk h g).1
 exact h
end
section
open _root_.Go.Proofs.Tryz Go.RowKit
def q8s (w:Wl) (L:List TxM) (v:Vl) (w':Wl):Prop:=∃kept:List TxM,L.map (·.t)=kept.map (·.t)/\(∃B,w.heap.size<=B/\w'.ownsRow B 122 9 v kept.length (zw kept))/\(∀m∈kept,qr w' m.wa m.wc m.t.ws/\∀j,m.blk j->w.heap.size<=j)/\Bw w w'
def qt1 {b:Nat} {lv:Vl} {bm:Nat} {F:Np} {S:qe} {log waits:List TxM} (B a C D:Int) (w:Wl) (h:zf w b lv bm F S log waits) (hs:∀m∈log,(0<=m.t.site/\m.t.site<=3)/\1<=m.t.ws.length/\m.t.ws.length<=5) (hl:log.length<=1000):
 Ca 205 #[PP b,.agg #[U B,U a,U C,U D]] w λe w'=>
  ∃v,e=.returned v/\q8s w (log.filter (qcs B a C D)) v w':=by
 obtain⟨la,lc,rfl,hT⟩:=yx h.rlog;have hc1:=hT.len;have hc2:=hT.cap;have G:=qo.new w 113 B a C D;have E:=boxed (jcc _ w) (.cells #[U B,U a,U C,U D] 113);have s7:=cell_later E (h.box.c 7);have HH:=hd1 h;have HS:=hd1 hs;go_enter func205,ntmps205;go_wp2_with fail
 obtain⟨W,hWW⟩:∃W,w.alloc (.cells #[U B,U a,U C,U D] 113)=W:=⟨_,rfl⟩;rw[hWW]at G E s7 ⊢;go_loopw [5,13] (λsl iv wr=>∃(k:Nat) (z:Int) (n:List TxM) (M:Vl),M=sl/\k<=log.length/\z=k/\iv=U z/\((log.take k).filter (qcs B a C D)).map (·.t)=n.map (·.t)/\wr.ownsRow (w.heap.size+1) 122 9 M n.length (zw n)/\Hid (∀m∈n,qr wr m.wa m.wc m.t.ws/\∀j,m.blk j->M.ownBlock≠some j/\w.heap.size<=j)/\qo wr w.heap.size B a C D/\Bw w wr) (λ_ i _=>log.length-(intOf i).toNat)
 case atStart=>exact⟨0,0,[],_,rfl,oe,rfl,rfl,oi,jcx _ _ _ _,(λm I=>(by cases I)),G,E⟩
 obtain⟨k,z,n,M,hsl,hk,hz,rfl,V,H,N,G,E⟩:=hrel;subst hsl;have HZ:=hd1 hz;by_cases hlt:k<log.length
 .have g1:z<(log.length:Int):=oe;have g2:z.toNat=k:=oe;have g3:0<=z:=oe;have hk6:n.length<=1000:=by
   have a0:=congrArg List.length V;simp only[jdh]at a0;have a1:=jdo (qcs B a C D) (log.take k);have a2:=List.length_take_le k log;omega
  obtain⟨X,Y,hwa,hcc⟩:∃X Y,la=some (AD X Y)/\∀i m r u,log[i]?=some m->(txC m)[r]?=some u->w.cell? (AD X (Y+(i*9+r)))=some u:=by
   obtain e|e:=hT.held
   .rw[e]at hlt;simp at hlt
   exact e
  obtain⟨⟨⟨f,l,wall,o,p,s,x,y,ws⟩,J,K⟩,Z⟩:∃m,log[k]?=some m:=⟨log[k],jcg hlt⟩;obtain⟨⟨hs0,hs1⟩,hn1,hn5⟩:=HS.out _ (jcq Z);simp only at hs0 hs1 hn1 hn5;have HL5:=hd2 hn1 hn5;have HWX:Hid (qr w J K ws):=(HH.out.hold _ (jcf.2 (.inl (jcq Z)))).1;have HX:=hd1 Z;have HKP:=hd1 V;have L:=λr u (hu:(txC ⟨⟨f,l,wall,o,p,s,x,y,ws⟩,J,K⟩)[r]?=some u)=>(show wr.cell? (AD X (Y+k*9+r))=some u by rw[nz];exact cell_later E (hcc k _ r u Z hu));have x0:=L 0 _ rfl;have x1:=L 1 _ rfl;have x2:=L 2 _ rfl;have x3:=L 3 _ rfl;have x4:=L 4 _ rfl;have x5:=L 5 _ rfl;have x6:=L 6 _ rfl;have x7:=L 7 _ rfl;have x8:=L 8 _ rfl;rw[Nat.add_zero]at x0;rw[hwa];replace G:=G.boxed (.cells (List.toArray (T9 f l wall o p s x y J ws.length K)) 122);replace H:=H.alloc (.cells (List.toArray (T9 f l wall o p s x y J ws.length K)) 122);replace E:=boxed E (.cells (List.toArray (T9 f l wall o p s x y J ws.length K)) 122);have P:=qd.new (w:=wr) (T:=122) (T9 f l wall o p s x y J ws.length K) rfl;have y0:=qb.cell (P.c 0);have y1:=qb.cell (P.c 1);have va:=qb.cell (qk9 G hs0 hs1);have KE:Hid (qcs B a C D ⟨⟨f,l,wall,o,p,s,x,y,ws⟩,J,K⟩=decide (qp f B a C D<l)):=rfl
  go_wp2_with fail
  refine wrl ?_;repeat (go_big_quiet_step (first|rfl|fail))
  refine wpQuiet_nil ?_;rintro w5 ⟨⟨_,Q⟩,rfl⟩;replace G:=G.later Q;replace P:=P.later Q;replace H:=qf H (λj d=>Q.block j (H.lt j d).2);replace E:=qa E Q;replace N:Hid (∀m∈n,qr w5 m.wa m.wc m.t.ws/\∀j,m.blk j->M.ownBlock≠some j/\w.heap.size<=j):=λm I=>⟨((N.out m I).1.later (boxed (jcc _ wr) _)).later Q,(N.out m I).2⟩;cases hd:decide (qp f B a C D<l)
  .have KF:Hid (((log.take (k+1)).filter (qcs B a C D)).map (·.t)=n.map (·.t)):=by
        have e:qcs B a C D ⟨⟨f,l,wall,o,p,s,x,y,ws⟩,J,K⟩=false:=by rw[KE.out];exact hd
        show ((log.take (k+1)).filter (qcs B a C D)).map (·.t)=n.map (·.t);rw[jdu,HX.out,jdk,jdb,HKP.out];simp[e]
   go_wp2_with fail
   go_roundw
   case rel=>exact⟨k+1,z+1,n,_,rfl,oe,oK,oI,KF.out,H,N,G,E⟩
   simp[intOf];omega
  have KF:Hid (((log.take (k+1)).filter (qcs B a C D)).map (·.t)=n.map (·.t)++[⟨f,l,wall,o,p,s,x,y,ws⟩]):=by
   have e:qcs B a C D ⟨⟨f,l,wall,o,p,s,x,y,ws⟩,J,K⟩=true:=by rw[KE.out];exact hd
   show ((log.take (k+1)).filter (qcs B a C D)).map (·.t)=_;rw[jdu,HX.out,jdk,jdb,HKP.out];simp[e]
  obtain⟨y0,y1,y2,y3,y4,y5,y6,y7,y8⟩:=P.c9;obtain⟨i0,hi,hz0,hz1,hz2⟩:=info_parts qpi;have hsz5:w.heap.size+1<=w5.heap.size:=by have:=G.lt;omega
  have HOLD:=hd1 (λj d=>(H.lt j d).2);have CP:=qgq ⟨⟨f,l,wall,o,p,s,x,y,ws⟩,J,K⟩ w5 (HWX.out.later E) HL5.out.1 (by have:=HL5.out;simp only;omega);simp only[txV]at CP;go_wp2_with fail
  refine CP.mono ?_;rintro e R ⟨m2,hm2,rfl,W62,hk2,aa⟩;obtain⟨t2,a2,O⟩:=m2;simp only at hm2 W62;subst hm2;simp only[txV];replace G:=G.later aa;replace H:=qf H (λj d=>aa.block j (H.lt j d).2);have HO5:=hd1 (λj d=>by
   have:=(H.lt j d).1;exact HOLD.out j d)
  replace E:=qa E aa;have HW6:Hid (∀m∈n++[⟨⟨f,l,wall,o,p,s,x,y,ws⟩,a2,O⟩],qr R m.wa m.wc m.t.ws/\∀j,m.blk j->M.ownBlock≠some j/\w.heap.size<=j):=λm I=>by
   obtain a|a:=jcf.1 I
   .exact⟨(N.out m a).1.later aa,(N.out m a).2⟩
   rw[jcj.1 a];refine⟨W62,λj d=>⟨λe=>?_,?_⟩⟩
   .have q1:=hk2 j d;have q2:=HO5.out j e;omega
   have q1:=hk2 j d;omega
  have hsz6:w.heap.size+1<=R.heap.size:=by have:=G.lt;omega
  have HS6:=hd1 hsz6;go_wp2_with (at_builtin;refine wpList_append_lies _ rfl (.tmp 24) (.tmp 27) 182 rfl (w.heap.size+1) 122 i0 (.agg ZA) 9 88 underlying182 hi hz0 hz1 hz2 rfl oj M n.length (zw n) rfl (H.alloc _) (AD R.heap.size 0) 1 1 (txC ⟨⟨f,l,wall,o,p,s,x,y,ws⟩,a2,O⟩) rfl rfl (World.news_of_block (heap_alloc_new R (.cells (List.toArray (T9 f l wall o p s x y a2 ws.length O)) 122))) (qih _) oj oN oe ou _ rfl ?_;intro g cap9 wE ownE grE egE ltE)
  have A:=λj d=>(H.lt j d).1;have RAE:=(G.boxed (.cells (List.toArray (T9 f l wall o p s x y a2 ws.length O)) 122)).grown4 grE (λe=>by have:=A _ e.symm;omega);have hbE:=(boxed E (.cells (List.toArray (T9 f l wall o p s x y a2 ws.length O)) 122)).grown grE (by have:=E.size;simp;omega) (λj d=>by have:=A j d;omega)
  have HWE:Hid (∀m∈n++[⟨⟨f,l,wall,o,p,s,x,y,ws⟩,a2,O⟩],qr wE m.wa m.wc m.t.ws/\∀j,m.blk j->(Value.slice (PT g) (n.length+1) cap9).ownBlock≠some j/\w.heap.size<=j):=λm I=>by
   have q:=HW6.out m I;have q1:=q.1.later (boxed (jcc _ R) (.cells (List.toArray (T9 f l wall o p s x y a2 ws.length O)) 122));refine⟨q1.kept (λj d=>grE.block j (q1.blk_lt j d) (λe=>(q.2 j d).1 e.symm)),λj d=>⟨λe=>?_,(q.2 j d).2⟩⟩;have eg:g=j:=by simpa[Value.ownBlock]using e
   obtain a|a:=egE
   .exact(q.2 j d).1 (by rw[a,eg])
   have:=q.1.blk_lt j d;simp at a;omega
  go_roundw
  case rel=>exact⟨k+1,z+1,n++[⟨⟨f,l,wall,o,p,s,x,y,ws⟩,a2,O⟩],_,rfl,oe,oK,oI,by rw[jdb];exact KF.out,by rw[qkf,jcl];exact ownE,HWE,RAE,hbE⟩
  simp[intOf];omega
 have g1:¬z<(log.length:Int):=oe;obtain rfl:k=log.length:=oe;rw[jc9]at V;have HKF:=hd1 V;go_wp2_with fail
 go_ret;exact⟨M,rfl,n,HKF.out,⟨_,Nat.le_succ _,H⟩,λm I=>⟨(N.out m I).1,λj d=>((N.out m I).2 j d).2⟩,E⟩
end
section
open Go.RowKit
def qd6 (S:qe) (h0 h1 h2 h3:Int):List TxP:=S.log.filter (λt=>decide (qp t.site h0 h1 h2 h3<t.seq))
def qrt {log:List TxM} (h:log.map (·.t)=S.log) (a b c d:Int):(log.filter (qcs a b c d)).map (·.t)=qd6 S a b c d:=by
 unfold qd6;rw[<-h,List.filter_map];rfl
def q9i (w:Wl) (L:List TxP) (v:Vl) (w':Wl):Prop:=∃kept:List TxM,kept.map (·.t)=L/\(∃B,w.heap.size<=B/\w'.ownsRow B 122 9 v kept.length (zw kept))/\(∀m∈kept,qr w' m.wa m.wc m.t.ws/\∀j,m.blk j->w.heap.size<=j)/\Bw w w'
def qtx {b:Nat} {G:Np} (a c d f:Int) (w:Wl) (h:PS w b G S) (i:j3 S):
 Ca 205 #[PP b,.agg #[U a,U c,U d,U f]] w λe w'=>∃v,e=.returned v/\q9i w (qd6 S a c d f) v w':=by
 obtain⟨s,x,F,log,waits,h,g,_,_⟩:=h;have r:log.length=S.log.length:=by rw[<-g];simp
 refine(qt1 a c d f w h (λm j=>i.lsite m.t (by rw[<-g];exact jcz.2 ⟨m,j,rfl⟩)) (by have:=i.log;omega)).mono λe w' ⟨v,k,l,n,o,p,q⟩=>⟨v,k,l,?_,o,p,q⟩;rw[<-n];exact qrt g _ _ _ _
end
section
open _root_.Go.Proofs.Tryz Go.RowKit
def qlz (x y:Int) (w:Wl):
 Ca 225 #[U x,U y] w λe w'=>e=.returned (U (jd x y))/\w'=w:=by
 by_cases h:x<y
 .rw[qia h];go_enter func225,ntmps225;go_wp2;go_ret;exact⟨rfl,rfl⟩
 rw[qh1 h];go_enter func225,ntmps225;go_wp2;go_ret;exact⟨rfl,rfl⟩
def q6d (a0 a1 a2 a3 a b c d:Int) (w:Wl):
 Ca 174 #[.agg #[U a0,U a1,U a2,U a3],.agg #[U a,U b,U c,U d],.func (.func 225) #[] #[]] w (Rn (.agg #[U (jd a0 a),U (jd a1 b),U (jd a2 c),U (jd a3 d)]) w):=by
 go_enter func174,ntmps174;go_wp2;refine wp_loop_rounds 5 ?_;rw[rounds_succ];go_wp2;go_region_held3 (λw'=>w'.cell? (AD w.heap.size 0)=some (U a0)/\w'.cell? (AD w.heap.size 1)=some (U a1)/\w'.cell? (AD w.heap.size 2)=some (U a2)/\w'.cell? (AD w.heap.size 3)=some (U a3)/\w'.cell? (AD (w.heap.size+1) 0)=some (U a)/\w'.cell? (AD (w.heap.size+1) 1)=some (U b)/\w'.cell? (AD (w.heap.size+1) 2)=some (U c)/\w'.cell? (AD (w.heap.size+1) 3)=some (U d)) (go_keep) ((go_at_call 225;refine(qlz _ _ _).mono ?_;rintro e wc ⟨rfl,rfl⟩))
 go_wp2;rw[rounds_succ];go_wp2;go_region_held3 (λw'=>w'.cell? (AD w.heap.size 0)=some (U a0)/\w'.cell? (AD w.heap.size 1)=some (U a1)/\w'.cell? (AD w.heap.size 2)=some (U a2)/\w'.cell? (AD w.heap.size 3)=some (U a3)/\w'.cell? (AD (w.heap.size+1) 0)=some (U a)/\w'.cell? (AD (w.heap.size+1) 1)=some (U b)/\w'.cell? (AD (w.heap.size+1) 2)=some (U c)/\w'.cell? (AD (w.heap.size+1) 3)=some (U d)) (go_keep) ((go_at_call 225;refine(qlz _ _ _).mono ?_;rintro e wc ⟨rfl,rfl⟩))
 go_wp2;rw[rounds_succ];go_wp2;go_region_held3 (λw'=>w'.cell? (AD w.heap.size 0)=some (U a0)/\w'.cell? (AD w.heap.size 1)=some (U a1)/\w'.cell? (AD w.heap.size 2)=some (U a2)/\w'.cell? (AD w.heap.size 3)=some (U a3)/\w'.cell? (AD (w.heap.size+1) 0)=some (U a)/\w'.cell? (AD (w.heap.size+1) 1)=some (U b)/\w'.cell? (AD (w.heap.size+1) 2)=some (U c)/\w'.cell? (AD (w.heap.size+1) 3)=some (U d)) (go_keep) ((go_at_call 225;refine(qlz _ _ _).mono ?_;rintro e wc ⟨rfl,rfl⟩))
 go_wp2;rw[rounds_succ];go_wp2;go_region_held3 (λw'=>w'.cell? (AD w.heap.size 0)=some (U a0)/\w'.cell? (AD w.heap.size 1)=some (U a1)/\w'.cell? (AD w.heap.size 2)=some (U a2)/\w'.cell? (AD w.heap.size 3)=some (U a3)/\w'.cell? (AD (w.heap.size+1) 0)=some (U a)/\w'.cell? (AD (w.heap.size+1) 1)=some (U b)/\w'.cell? (AD (w.heap.size+1) 2)=some (U c)/\w'.cell? (AD (w.heap.size+1) 3)=some (U d)) (go_keep) ((go_at_call 225;refine(qlz _ _ _).mono ?_;rintro e wc ⟨rfl,rfl⟩))
 go_wp2;rw[rounds_succ];go_wp2;exact bodyPost_ret (v:=.agg #[U (jd a0 a),U (jd a1 b),U (jd a2 c),U (jd a3 d)]) (by simp[results,results174,go_sem]) rfl ⟨rfl,by repeat (first|exact jcc _ _|apply jc6|apply boxed)⟩
def qzz (a0 a1 a2 a3 a b c d:Int) (w:Wl):
 Ca 185 #[.agg #[U a0,U a1,U a2,U a3],.agg #[U a,U b,U c,U d]] w (Rn (.agg #[U (jd a0 a),U (jd a1 b),U (jd a2 c),U (jd a3 d)]) w):=by
 go_enter func185,ntmps185;go_wp2_with fail
 refine(q6d _ _ _ _ _ _ _ _ _).mono ?_;rintro e g ⟨rfl,f⟩;obtain⟨h,i⟩:=qdb f;have j:w.heap.size+2<g.heap.size:=by have:=f.size;simp at this;omega
 go_wp2;exact bodyPost_ret (v:=.agg #[U (jd a0 a),U (jd a1 b),U (jd a2 c),U (jd a3 d)]) (by simp[results,results185,go_sem,h]) rfl ⟨rfl,((((qs1 f).setCell ou _).setCell ou _).setCell ou _).setCell ou _⟩
def qp2 {n:Int} {v:Bool} (h:(decide (0<=n)&&decide (n<4))=v) (w:Wl):
 Ca 141 #[U n] w λe w'=>e=.returned (.bool v)/\w'=w:=by
 by_cases a:0<=n;by_cases b:n<4;have e:v=true:=by rw[<-h];simp[a,b]
 rotate_left;have e:v=false:=by rw[<-h];simp[b]
 rotate_left;have e:v=false:=by rw[<-h];simp[a]
 all_goals
  subst e;go_enter func141,ntmps141;go_wp2_with fail
  go_ret;exact⟨rfl,rfl⟩
def jau {w:Wl} {id:Int} (b:Lv) (f:b=[U id,U 0,U 0,U 0,U 0,U 0,U 0,.slice none 0 0,.map (some w.heap.size),U 0,U 0,U 0,U 0,U 0,U 0,U 0,U 0,U 0,U 0,U 0,U 0,U 0,U 0,U 0,U 0,.slice none 0 0,.slice none 0 0,.slice none 0 0,.slice none 0 0,.slice none 0 0,.slice none 0 0,.slice none 0 0,.slice none 0 0]) (T:Tp):
 PS ((w.alloc (.map #[] 0)).alloc (.cells b.toArray T)) (w.heap.size+1) (λk=>k=w.heap.size+1\/k=w.heap.size) (qg8 id):=by
 have l:(w.alloc (.map #[] 0)).heap.size=w.heap.size+1:=oi;have R:=qd.new (w:=w.alloc (.map #[] 0)) (T:=T) (n:=w.heap.size+1) b l;generalize o:(w.alloc (.map #[] 0)).alloc (.cells b.toArray T)=W at R;have d:=boxed (jcc _ (w.alloc (.map #[] 0))) (.cells b.toArray T);rw[o]at d;have p:=(qd5.made w).kept (d.block _ (qd5.made w).lt);subst f;refine⟨.slice none 0 0,w.heap.size,λk=>qfu (w.heap.size+1) (λ_=>.slice none 0 0) k,[],[],⟨⟨λj v c=>?_,λj a=>R.free j (by simp[qab]at a ⊢;omega),R.lt⟩,?_,jcx _ _ _ _,p,oS,oe,oS,λk e=>by simp[Value.ownBlock]at e,?_,oi⟩,rfl,rfl,λk=>?_⟩
 .refine R.cell j v ?_;have a:j<25:=by
   have:=(jck.1 c).1;simpa[qab]using this
  rw[<-c];match j,a with
  |0,_=>rfl
  |1,_=>rfl
  |2,_=>rfl
  |3,_=>rfl
  |4,_=>rfl
  |5,_=>rfl
  |6,_=>rfl
  |7,_=>rfl
  |8,_=>rfl
  |9,_=>rfl
  |10,_=>rfl
  |11,_=>rfl
  |12,_=>rfl
  |13,_=>rfl
  |14,_=>rfl
  |15,_=>rfl
  |16,_=>rfl
  |17,_=>rfl
  |18,_=>rfl
  |19,_=>rfl
  |20,_=>rfl
  |21,_=>rfl
  |22,_=>rfl
  |23,_=>rfl
  |24,_=>rfl
 .refine⟨λ_=>.slice none 0 0,λ_=>[],⟨⟨λj v c=>?_,λj a=>R.free (25+j) (by simp at a ⊢;omega),R.lt⟩,λk _=>jcx _ _ _ _,λk _=>?_,λk _=>oS,λi j _ _ _ g e=>by simp[Value.ownBlock]at e⟩,?_,λk=>jdl⟩
  .refine R.cell (25+j) v ?_;rw[<-c]
   have a:j<8:=by
        have:=(jck.1 c).1;simpa using this
   match j,a with
   |0,_=>rfl
   |1,_=>rfl
   |2,_=>rfl
   |3,_=>rfl
   |4,_=>rfl
   |5,_=>rfl
   |6,_=>rfl
   |7,_=>rfl
  .exact List.Pairwise.nil
  exact⟨λk _=>by simp[qd3,qg8],λx q=>by simp[qg8]at q⟩
 .rintro (h|⟨i,s,h⟩)
  .omega
  simp[Value.ownBlock]at h
 constructor
 .rintro (h|h)
  .exact .inl (.inl h)
  exact .inl (.inr (.inr (.inl h)))
 rintro ((h|h|h|h)|⟨m,r,h⟩)
 .exact .inl h
 .simp[Value.ownBlock]at h
 .exact .inr h
 .obtain h|⟨i,s,h⟩:=h
  .exact .inl h
  simp[Value.ownBlock]at h
 simp at r
def q94 (id:Int) (w:Wl) (a:0<=id) (b:id<4):
 Ca 103 #[U id] w λe w'=>(e=.returned (.tuple #[PP (w.heap.size+1),.nilIface]))/\PS w' (w.heap.size+1) (λk=>k=w.heap.size+1\/k=w.heap.size) (qg8 id)/\Bw w w':=by
 have c:=qp2 (n:=id) (v:=true) (by simp[a,b]) w;have d:=@run_makeMap prog;go_enter func103,ntmps103;go_wp2_with fail
 refine c.mono ?_;rintro e h ⟨rfl,rfl⟩;go_wp2_with fail
 exact bodyPost_ret (v:=.tuple #[PP (h.heap.size+1),.nilIface]) (by simp[results,results103,go_sem]) rfl ⟨rfl,jau _ rfl _,boxed (boxed (jcc _ _) _) _⟩
def vp (S:qe) (k:Nat) (x0 x1 x2 x3:Int):qe:={S with oth:=λj=>if j=k*4 then jd (S.oth j) x0 else if j=k*4+1 then jd (S.oth j) x1 else if j=k*4+2 then jd (S.oth j) x2 else if j=k*4+3 then jd (S.oth j) x3 else S.oth j}
end
section
open Go.RowKit
inductive GrB
 |tx (t:TxP)
 |ask (site a0 a1 a2 a3:Int)
structure GrS where
 tj:Nat
 body:GrB
structure WoS where
 n:Nat
 c:Nat
 S:Nat->qe
 wall:Nat->Int
 ses:Nat->qy
 at_:Nat->Nat
 net:List GrS
 lost:Int
def jj {α:Type} (f:Nat->α) (i:Nat) (x:α):Nat->α:=λj=>if j=i then x else f j
variable {α:Type}
def qt (f:Nat->α) (i:Nat) (x:α):jj f i x i=x:=by simp[jj]
def yq (f:Nat->α) {i j:Nat} (x:α) (h:j≠i):jj f i x j=f j:=by simp[jj,h]
def qcb (n c:Nat):WoS:=⟨n,c,λi=>qg8 i,λ_=>0,λ_=>qez,λ_=>0,[],0⟩
def setSite (W:WoS) (i:Nat) (S':qe):WoS:={W with S:=jj W.S i S'}
def vf (W:WoS) (k:Nat) (s':qy):WoS:={W with ses:=jj W.ses k s'}
def zk (W:WoS) (g:GrS):WoS:=if 300<=W.net.length then {W with lost:=wrap64 (W.lost+1)}else {W with net:=W.net++[g]}
def qam (t:TxP):Nat->WoS->WoS
 |0,W=>W
 |k+1,W=>if (k:Int)=t.site then qam t k W else zk (qam t k W) ⟨k,.tx t⟩
def zl (other:Nat):List TxP->WoS->WoS
 |[],W=>W
 |t::l,W=>zl other l (if t.site=(other:Int)then W else zk W ⟨other,.tx t⟩)
def qbc (W:WoS) (k other:Nat) (v0 v1 v2 v3:Int):WoS:=
 zl other (qd6 (W.S k) v0 v1 v2 v3) (setSite W k (vp (W.S k) other v0 v1 v2 v3))
def qme (W:WoS) (k other:Nat):WoS:=zk W ⟨other,.ask k (W.S k).a0 (W.S k).a1 (W.S k).a2 (W.S k).a3⟩
def qeo (W:WoS) (g:GrS) (d:WoS):Prop:=
 match g.body with
 |.tx t=>∃S',zu (W.S g.tj) t S'/\d=setSite W g.tj S'
 |.ask site v0 v1 v2 v3=>if 0<=site/\site<(W.n:Int)then d=qbc W g.tj site.toNat v0 v1 v2 v3 else d=W
def qai (W:WoS) (i:Nat):WoS:={W with net:=W.net.eraseIdx i}
def zy (W:WoS) (i:Nat) (d:WoS):Prop:=∃g,W.net[i]?=some g/\qeo (qai W i) g d
inductive qaf:WoS->WoS->Prop
 |none {W:WoS}:W.net=[]->qaf W W
 |step {W W1 d:WoS}:W.net≠[]->zy W 0 W1->qaf W1 d->qaf W d
inductive qdo (k:Nat):Nat->WoS->WoS->Prop
 |zero {W:WoS}:qdo k 0 W W
 |self {W d:WoS} {m:Nat}:qdo k m W d->m=k->qdo k (m+1) W d
 |ask {W W1 d:WoS} {m:Nat}:qdo k m W W1->m≠k->qaf (qme W1 k m) d->qdo k (m+1) W d
inductive qc1:Nat->WoS->WoS->Prop
 |zero {W:WoS}:qc1 0 W W
 |next {W W1 d:WoS} {m:Nat}:qc1 m W W1->qdo m W1.n W1 d->qc1 (m+1) W d
def qg9 (W d:WoS):Prop:=∃W1,qaf W W1/\qc1 W1.n W1 d
variable {x:GrS}
section
variable {W d:WoS} {g:GrS} {other:Nat}
structure qf9 (W d:WoS):Prop where
 n:d.n=W.n
 c:d.c=W.c
 S:d.S=W.S
 wall:d.wall=W.wall
 ses:d.ses=W.ses
 at_:d.at_=W.at_
def qf9.refl (W:WoS):qf9 W W:=⟨rfl,rfl,rfl,rfl,rfl,rfl⟩
def qf9.trans {A B C:WoS} (h:qf9 A B) (k:qf9 B C):qf9 A C:=⟨k.n.trans h.n,k.c.trans h.c,k.S.trans h.S,k.wall.trans h.wall,k.ses.trans h.ses,k.at_.trans h.at_⟩
def yb (W:WoS) (g:GrS):qf9 W (zk W g):=by
 unfold zk;split<;>exact⟨rfl,rfl,rfl,rfl,rfl,rfl⟩
def q1h (h:W.net.length<300):(zk W g).net=W.net++[g]:=by
 unfold zk;rw[if_neg oe]
def qke (h:x∈(zk W g).net):x∈W.net\/x=g:=by
 unfold zk at h;split at h
 .exact .inl h
 simpa using h
def zx (t:TxP):∀(k:Nat) (W:WoS),qf9 W (qam t k W)
 |0,W=>qf9.refl W
 |k+1,W=>by
  unfold qam;split
  .exact zx t k W
  exact(zx t k W).trans (yb _ _)
def qm3:∀(k:Nat),x∈(qam t k W).net->x∈W.net\/(x.tj<k/\x.body=.tx t)
 |0,h=>.inl h
 |k+1,h=>by
  unfold qam at h;split at h
  .obtain q|⟨q,r⟩:=qm3 k h
   .exact .inl q
   exact .inr ⟨oe,r⟩
  obtain q|q:=qke h
  .obtain q|⟨q,r⟩:=qm3 k q
   .exact .inl q
   exact .inr ⟨oe,r⟩
  rw[q];exact .inr ⟨by show k<k+1;omega,rfl⟩
def qds (other:Nat):∀(l:List TxP) (W:WoS),qf9 W (zl other l W)
 |[],W=>qf9.refl W
 |t::l,W=>by
  unfold zl;refine qf9.trans ?_ (qds other l _);split
  .exact qf9.refl _
  exact yb _ _
def qp9:∀(l:List TxP) (W:WoS),x∈(zl other l W).net->x∈W.net\/(x.tj=other/\∃t∈l,t.site≠(other:Int)/\x.body=.tx t)
 |[],W,h=>.inl h
 |t::l,W,h=>by
  unfold zl at h;obtain q|⟨q,y,a,r⟩:=qp9 l _ h
  .split at q
   .exact .inl q
   rename_i b;obtain q|q:=qke q
   .exact .inl q
   rw[q];exact .inr ⟨rfl,t,List.mem_cons_self,b,rfl⟩
  exact .inr ⟨q,y,jdc _ a,r⟩
end
end
section
open Go.RowKit
structure qfr where
 is:Wl->(Nat->Prop)->Prop
 lt:∀w G,is w G->∀k,G k->k<w.heap.size
 kept:∀w w' G,is w G->(∀k,G k->w'.heap[k]?=w.heap[k]?)->w.heap.size<=w'.heap.size->is w' G
def qbi (p:qfr) (w:Wl) (G:Np) (w':Wl):Prop:=∃G',p.is w' G'/\(∀k,G' k->G k\/w.heap.size<=k)/\qc G w w'
def qfx (p q:qfr) (w:Wl) (G H Y:Np) (w':Wl):Prop:=∃G' H',p.is w' G'/\q.is w' H'/\(∀k,G' k->G k\/w.heap.size<=k)/\(∀k,H' k->H k\/w.heap.size<=k)/\(∀k,G' k->¬H' k)/\(∀k,Y k->w.heap.size<=k/\k<w'.heap.size/\¬G' k)/\qc (λk=>G k\/H k) w w'
def NoY:Np:=λ_=>False
structure zh (w:Wl) (n:Nat) (ps:Nat->qfr) (Gs:Nat->Nat->Prop) (X:Nat->Prop) (o:Nat) (Y:Nat->Prop):Prop where
 is:∀i,i<n->(ps i).is w (Gs i)
 apart:∀i j k,i<n->j<n->i≠j->Gs i k->¬Gs j k
 free:∀k,X k->k<w.heap.size/\∀i,i<n->¬Gs i k
 half:∀k,Y k->k<w.heap.size/\∀i,i<n->i≠o->¬Gs i k
variable {i:Nat} {p:qfr}
section
variable {n o:Nat} {R ps':Nat->qfr} {Q:Nat->Np} {X:Np}
def zh.stepG (h:zh w n R Q X o NoY) (C:i<n) (z:qbi p w (Q i) w') (A:ps' i=p) (B:∀j,j<n->j≠i->ps' j=R j):∃v,zh w' n ps' v X o NoY/\(∀j k,v j k->Q j k\/w.heap.size<=k)/\jg X w w'/\qc (Q i) w w':=by
 obtain⟨x,p1,p2,f⟩:=z;refine⟨λj=>if j=i then x else Q j,⟨λj m=>?_,λa b k t u y c l=>?_,λk c=>⟨jci (h.free k c).1 f.size,λj m r=>?_⟩,λk c=>c.elim⟩,λj k c=>?_,⟨f.os,f.tape,f.output,f.size,λk c=>f.block k (h.free k c).1 (λe=>(h.free k c).2 i C e)⟩,f⟩
 .by_cases d:j=i
  .rw[if_pos d,d,A];exact p1
  rw[if_neg d,B j m d];exact(R j).kept _ _ _ (h.is j m) (λk c=>f.block k ((R j).lt _ _ (h.is j m) k c) (λe=>h.apart j i k m C d c e)) f.size
 .by_cases s:a=i
  .rw[if_pos s]at c;have q:b≠i:=λe=>y (s.trans e.symm);rw[if_neg q]at l;obtain g|g:=p2 k c
   .exact h.apart i b k C u (Ne.symm q) g l
   have:=(R b).lt _ _ (h.is b u) k l;omega
  rw[if_neg s]at c;by_cases q:b=i
  .rw[if_pos q]at l;obtain g|g:=p2 k l
   .exact h.apart a i k t C s c g
   have:=(R a).lt _ _ (h.is a t) k c;omega
  rw[if_neg q]at l;exact h.apart a b k t u y c l
 .by_cases d:j=i
  .rw[if_pos d]at r;obtain g|g:=p2 k r
   .exact(h.free k c).2 i C g
   have:=(h.free k c).1;omega
  rw[if_neg d]at r;exact(h.free k c).2 j m r
 have c:(if j=i then x else Q j) k:=c;by_cases d:j=i
 .rw[if_pos d]at c;rw[d];exact p2 k c
 rw[if_neg d]at c;exact .inl c
def zh.tj {X':Np} (h:zh w n R Q X o NoY) (d:∀j k,j<n->Q j k->w'.heap[k]?=w.heap[k]?) (f:w.heap.size<=w'.heap.size) (b:∀k,X' k->(X k\/w.heap.size<=k)/\k<w'.heap.size):zh w' n R Q X' o NoY:=by
 refine⟨λj a=>(R j).kept _ _ _ (h.is j a) (λk e=>d j k a e) f,h.apart,λk e=>⟨(b k e).2,λj a c=>?_⟩,λk e=>e.elim⟩;rcases(b k e).1 with q|q
 .exact(h.free k q).2 j a c
 have:=(R j).lt _ _ (h.is j a) k c;omega
end
end
section
open Go.RowKit
def qfp (b:Nat) (S:qe):qfr:=⟨λw G=>PS w b G S,λ_ _ h=>h.lt,λ_ _ _ h=>h.kept⟩
end
section
open _root_.Go.Proofs.Tryz Go.RowKit Go.Maps
def wrV (x:Wr):Vl:=.agg #[.int .i64 x.key,.string x.data,.bool x.gone]
def qqt:Vl:=.agg #[.int .i64 0,.string ⟨#[]⟩,.bool false]
def q82 (w:Wl):(zeroValue 127).run prog w=.ok qqt w:=oh
def qtl:Keyed prog 3:=int_keyed underlying3
def q4f {k:Int} (h:wfI k):keyOf prog 3 (.int .i64 k)=some (.int .i64 k):=by
 unfold keyOf;rw[underlying3];simp[mapKey,q8f h,underlying3]
def q0i (k:Int):WideAt.IsKeyLit (.int .i64 k):=trivial
structure qr7 (D:DataW Vl) (l:List Wr):Prop where
 size:Maps.size D=(jh l).length
 has:∀k x,qay l k=some x->Maps.has D (.int .i64 k)=true/\∀z,D.atKey (.int .i64 k) z=.held (wrV x)
 no:∀k,qay l k=none->Maps.has D (.int .i64 k)=false/\∀z,D.atKey (.int .i64 k) z=z
def qes (w:Wl) (s:Nat) (l:List Wr):Prop:=(∀x∈l,0<=x.key/\x.key<8)/\∃D,w.ownsMap prog 3 qcd s (jh l).length D/\qr7 D l
variable {s:Nat}
def qes.lt (h:qes w s l):s<w.heap.size:=by
 obtain⟨_,D,h,_⟩:=h;exact h.lt
def qes.kept (h:qes w s l) (e:w'.heap[s]?=w.heap[s]?):qes w' s l:=by
 obtain⟨a,D,⟨b,c,d,r⟩,f⟩:=h;exact⟨a,D,⟨b,c,by rw[e];exact d,r⟩,f⟩
def qes.made (w:Wl):qes (w.alloc (.map #[] 0)) w.heap.size []:=
 ⟨oi,_,World.ownsMap_made w _ _ _,⟨rfl,λk x h=>by simp[qay]at h,λ_ _=>⟨rfl,λ_=>rfl⟩⟩⟩
def qqu (l:List Wr) (x:Wr) (a:0<=x.key) (b:x.key<8):(jh (l++[x])).length=if qay l x.key=none then (jh l).length+1 else (jh l).length:=by
 have:=qqj l x 8 a;show (qak (l++[x]) 8).length=if qay l x.key=none then (qak l 8).length+1 else (qak l 8).length
 rw[this];by_cases h:qay l x.key=none
 .rw[if_pos ⟨oe,h⟩,if_pos h]
 rw[if_neg (λe=>h e.2),if_neg h];omega
variable {D:DataW Vl} {x:Wr}
def qxh (f:Tidy D) (h:qr7 D l) (g:0<=x.key) (i:x.key<8):qr7 (D.put (.int .i64 x.key) (.held (wrV x))) (l++[x]):=by
 refine⟨?_,λk y a=>?_,λk c=>?_⟩
 .rw[size_put f,qqu l x g i,h.size];cases ho:qay l x.key with
  |none=>rw[(h.no _ ho).1];simp
  |some y=>rw[(h.has _ _ ho).1];simp
 .rw[qmt]at a;by_cases e:x.key=k
  .rw[if_pos e]at a;injection a with a;subst a;subst e;exact⟨has_put_same f.isMap (q0i _) _,λz=>atKey_put_same f.isMap (q0i _) _ z⟩
  rw[if_neg e]at a;have d:(Lit.int .i64 k)≠.int .i64 x.key:=λb=>e (by injection b with _ b;exact b.symm);exact⟨by rw[has_put_other d];exact(h.has k y a).1,λz=>by rw[atKey_put_other d];exact(h.has k y a).2 z⟩
 rw[qmt]at c;by_cases e:x.key=k
 .rw[if_pos e]at c;cases c
 rw[if_neg e]at c;have d:(Lit.int .i64 k)≠.int .i64 x.key:=λb=>e (by injection b with _ b;exact b.symm);exact⟨by rw[has_put_other d];exact(h.no k c).1,λz=>by rw[atKey_put_other d];exact(h.no k c).2 z⟩
def qes.put {n:Nat} (e:∀x∈l,0<=x.key/\x.key<8) (f:w.ownsMap prog 3 qcd s (jh l).length D) (g:qr7 D l) (a:0<=x.key) (b:x.key<8)
 (i:w'.ownsMap prog 3 qcd s n (D.put (.int .i64 x.key) (.held (wrV x)))):qes w' s (l++[x]):=by
 have c:=qxh (f.tidy qtl) g a b;refine⟨λy j=>?_,_,?_,c⟩
 .obtain h|h:=jcf.1 j
  .exact e y h
  rw[jcj.1 h];exact⟨a,b⟩
 obtain⟨k,m,o,p,q,d⟩:=i;refine⟨k,m,o,p,?_,d⟩;have:=c.size;rw[d]at this;simp[Maps.size,length_sorted]at this;omega
end
section
open Go.RowKit
def qav (l:List Wr) (key:Int):Wr:=(qay l key).getD ⟨0,⟨#[]⟩,false⟩
def jr (s:qy) (wv:Vl):Lv:=[U s.p0,U s.p1,U s.p2,U s.p3,U s.s0,U s.s1,U s.s2,U s.s3,.bool s.opn,wv]
end
section
open _root_.Go.Proofs.Tryz Go.RowKit Go.Maps
def PS.mem {w:Wl} (h:PS w b G S):∃d e F log waits,zf w b d e F S log waits/\log.length=S.log.length/\waits.length=S.waits.length:=by
 obtain⟨d,e,F,log,waits,h,a,c,_⟩:=h;exact⟨d,e,F,log,waits,h,by rw[<-a];simp,by rw[<-c];simp⟩
def j3.many (h:j3 S):S.l.length<=1000:=by
 have:=h.len;have:=h.log;omega
def qff (w:Wl) (h:PS w b G S):
 Ca 117 #[PP b] w (Rn (.agg #[U S.a0,U S.a1,U S.a2,U S.a3]) w):=by
 obtain⟨j,k,F,log,waits,a,_,_⟩:=h.mem;have d:=a.box.c 1;have e:=a.box.c 2;have f:=a.box.c 3;have g:=a.box.c 4;have i:=a.box.lt;go_enter func117,ntmps117;go_wp2_with fail
 exact bodyPost_ret (v:=.agg #[U S.a0,U S.a1,U S.a2,U S.a3]) (by simp[results,results117,go_sem]) rfl ⟨rfl,boxed (jcc _ _) _⟩
end
section
open Go.RowKit
def yj (s:qy) (q:Vl):Lv:=[U s.p0,U s.p1,U s.p2,U s.p3,.bool s.opn,U s.s0,U s.s1,U s.s2,U s.s3,q]
def jbu (w:Wl) (b:Nat) (s:qy) (q:Vl) (G:Np):Prop:=
 (s.opn=false/\q=.map none/\s.ws=[]/\∀k,G k↔k=b)\/(s.opn=true/\∃bm,q=.map (some bm)/\bm≠b/\qes w bm s.ws/\∀k,G k↔(k=b\/k=bm))
def PSe (w:Wl) (b:Nat) (G:Np) (s:qy):Prop:=∃q,qd w b (yj s q)/\jbu w b s q G
variable {s:qy}
def PSe.lt (h:PSe w b G s):∀k,G k->k<w.heap.size:=by
 obtain⟨q,d,⟨_,_,_,a⟩|⟨_,i,_,_,f,a⟩⟩:=h
 .intro k c;rw[(a k).1 c];exact d.lt
 intro k c;rcases(a k).1 c with e|e
 .rw[e];exact d.lt
 rw[e];exact f.lt
def PSe.own (h:PSe w b G s):G b:=by
 obtain⟨q,c,⟨_,_,_,a⟩|⟨_,e,_,_,d,a⟩⟩:=h
 .exact(a b).2 rfl
 exact(a b).2 (.inl rfl)
def PSe.kept (h:PSe w b G s) (e:∀k,G k->w'.heap[k]?=w.heap[k]?) (g:w.heap.size<=w'.heap.size):PSe w' b G s:=by
 have i:=h.own;obtain⟨q,j,⟨a,f,c,d⟩|⟨a,o,f,c,l,d⟩⟩:=h
 .exact⟨q,j.kept (e b i) g,.inl ⟨a,f,c,d⟩⟩
 exact⟨q,j.kept (e b i) g,.inr ⟨a,o,f,c,l.kept (e o ((d o).2 (.inr rfl))),d⟩⟩
def PSe.later (h:PSe w b G s) (a:Bw w w'):PSe w' b G s:=h.kept (λk c=>a.block k (h.lt k c)) a.size
def qix (b:Nat) (s:qy):qfr:=⟨λw G=>PSe w b G s,λ_ _ h=>h.lt,λ_ _ _ h=>h.kept⟩
def qc8 (w:Wl) (b:Nat) (G:Np) (s':qy) (w':Wl):Prop:=∃G',PSe w' b G' s'/\(∀k,G' k->G k\/w.heap.size<=k)/\qc G w w'
def qc8.same (h:PSe w b G s) (a:Bw w w'):qc8 w b G s w':=⟨G,h.later a,λ_ c=>.inl c,qc.ofBelow a⟩
variable {r:Wl} {t:Np}
def qc8.trans {a:Wl} {c:qy} (d:∀k,t k->G k\/w.heap.size<=k) (e:qc G w a) (h:qc8 a b t c r):qc8 w b G c r:=by
 obtain⟨g,i,j,l⟩:=h;refine⟨g,i,λk m=>?_,e.more l d⟩;obtain f|f:=j k m
 .exact d k f
 exact .inr (by have:=e.size;omega)
def q9y (T:Tp):PSe (w.alloc (.cells (yj qez (.map none)).toArray T)) w.heap.size (λk=>k=w.heap.size) qez:=
 ⟨.map none,qd.new (w:=w) (T:=T) _ rfl,.inl ⟨rfl,rfl,rfl,λ_=>jdl⟩⟩
variable {q:Vl}
def q8i (a:G b) (c:Bw w r) (B:qd r b (yj s q)) (x y z A:Int):
 qc8 w b G ⟨x,y,z,A,false,0,0,0,0,[]⟩ ((((((((((r.setCell (AD b 0) (U x)).setCell (AD b 1) (U y)).setCell (AD b 2) (U z)).setCell (AD b 3) (U A)).setCell (AD b 4) (.bool false)).setCell (AD b 5) (U 0)).setCell (AD b 6) (U 0)).setCell (AD b 7) (U 0)).setCell (AD b 8) (U 0)).setCell (AD b 9) (.map none)):=by
 have d:=B.set 0 (U x) oH;have e:=d.set 1 (U y) oH;have f:=e.set 2 (U z) oH;have g:=f.set 3 (U A) oH;have h:=g.set 4 (.bool false) oH;have i:=h.set 5 (U 0) oH;have j:=i.set 6 (U 0) oH;have l:=j.set 7 (U 0) oH;have m:=l.set 8 (U 0) oH;have n:=m.set 9 (.map none) oH;refine⟨λk=>k=b,⟨.map none,n,.inl ⟨rfl,rfl,rfl,λ_=>jdl⟩⟩,λk o=>.inl (by rw[o];exact a),?_⟩;have T:=qc.ofBelow (F:=G) c;refine T.trans ?_;exact(((((((((qc.setCell _ _ _ a).trans (qc.setCell _ _ _ a)).trans (qc.setCell _ _ _ a)).trans (qc.setCell _ _ _ a)).trans (qc.setCell _ _ _ a)).trans (qc.setCell _ _ _ a)).trans (qc.setCell _ _ _ a)).trans (qc.setCell _ _ _ a)).trans (qc.setCell _ _ _ a)).trans (qc.setCell _ _ _ a)
def q37 {x:Nat} (a:G b) (d:Bw w r) (B:qd r b (yj s q)) (e:qes r x []) (o:w.heap.size<=x) (p:b<w.heap.size) (a0 a1 a2 a3:Int):
 qc8 w b G {s with opn:=true,s0:=a0,s1:=a1,s2:=a2,s3:=a3,ws:=[]} ((((((r.setCell (AD b 4) (.bool true)).setCell (AD b 5) (U a0)).setCell (AD b 6) (U a1)).setCell (AD b 7) (U a2)).setCell (AD b 8) (U a3)).setCell (AD b 9) (.map (some x))):=by
 have f:=B.set 4 (.bool true) oH;have g:=f.set 5 (U a0) oH;have i:=g.set 6 (U a1) oH;have j:=i.set 7 (U a2) oH;have l:=j.set 8 (U a3) oH;have m:=l.set 9 (.map (some x)) oH;have c:x≠b:=oe;refine⟨λk=>k=b\/k=x,⟨.map (some x),m,.inr ⟨rfl,x,rfl,c,e.kept ?_,λ_=>jdl⟩⟩,λk n=>?_,?_⟩
 .rw[jce _ _ _ _ c,jce _ _ _ _ c,jce _ _ _ _ c,jce _ _ _ _ c,jce _ _ _ _ c,jce _ _ _ _ c]
 .obtain h|h:=n
  .exact .inl (by rw[h];exact a)
  exact .inr oe
 have T:=qc.ofBelow (F:=G) d;refine T.trans ?_;exact(((((qc.setCell _ _ _ a).trans (qc.setCell _ _ _ a)).trans (qc.setCell _ _ _ a)).trans (qc.setCell _ _ _ a)).trans (qc.setCell _ _ _ a)).trans (qc.setCell _ _ _ a)
def q7c (h:PSe r b t s) (d:∀k,t k->G k\/w.heap.size<=k) (e:G b) (f:qc G w r) (n:Nat) (g:n<4) (x:Int):
 qc8 w b G {s with p0:=if n=0 then x else s.p0,p1:=if n=1 then x else s.p1,p2:=if n=2 then x else s.p2,p3:=if n=3 then x else s.p3} (r.setCell (AD b n) (U x)):=by
 obtain⟨q,B,i⟩:=h;have R:=B.set n (U x) (by simp[yj];omega);refine⟨t,⟨q,?_,?_⟩,d,f.trans (qc.setCell _ _ _ e)⟩
 .match n,g with
  |0,_=>exact R
  |1,_=>exact R
  |2,_=>exact R
  |3,_=>exact R
 obtain j|⟨a,y,l,c,m,o⟩:=i
 .exact .inl j
 exact .inr ⟨a,y,l,c,m.kept (jce _ _ _ _ c),o⟩
end
section
def q1e (site a0 a1 a2 a3:Int):By:=(⟨#[97]⟩:By)++qcq 5 site++qcq 5 a0++qcq 5 a1++qcq 5 a2++qcq 5 a3
abbrev qbs (f:Nat) (n:Int):List UInt8:=toL (qcq f n)
variable {f:Nat}
def qn1 (h:n<128):qbs f n=[UInt8.ofNat n.toNat]:=by
 show toL (qcq f n)=_;rw[qtw h];rfl
def q0c (h:¬n<128):qbs (f+1) n=UInt8.ofNat (n%128+128).toNat::qbs f (n/128):=by
 show toL (qcq (f+1) n)=_;rw[qr8 h,qif];rfl
def qb3:Nat->List UInt8->Option (Int×List UInt8)
 |_,[]=>none
 |0,c::r=>if c.toNat<128 then some (c.toNat,r)else none
 |f+1,c::r=>if c.toNat<128 then some (c.toNat,r)else
  match qb3 f r with
  |none=>none
  |some (n,r')=>if n=0 then none else some ((c.toNat:Int)-128+128*n,r')
def q5v (c:0<=n) (d:n<256):((UInt8.ofNat n.toNat).toNat:Int)=n:=by
 rw[UInt8.toNat_ofNat',Nat.mod_eq_of_lt oe,Int.toNat_of_nonneg c]
def qtf:∀(f:Nat) (n:Int) (r:List UInt8),0<=n->n<128^(f+1)->qb3 f (qbs f n++r)=some (n,r)
 |0,n,r,h0,h1=>by
  have c:n<128:=by simpa using h1
  have e:=q5v h0 oe;rw[qn1 c,List.singleton_append];unfold qb3;rw[if_pos oe,e]
 |f+1,n,r,h0,h1=>by
  by_cases h:n<128
  .have e:=q5v h0 oe;rw[qn1 h,List.singleton_append];unfold qb3;rw[if_pos oe,e]
  have d:(128:Int)^(f+1+1)=128^(f+1)*128:=Int.pow_succ 128 (f+1);rw[d]at h1;have e:=q5v (n:=n%128+128) oe oe;rw[q0c h,jdj];unfold qb3;rw[if_neg oe,qtf f (n/128) r oe oe];simp only;rw[if_neg oe,e];congr 2;omega
def qlk:∀(f:Nat) (L:List UInt8) (n:Int) (r:List UInt8),qb3 f L=some (n,r)->(0<=n/\n<128^(f+1))/\L=qbs f n++r
 |0,[],n,r,h=>by simp[qb3]at h
 |f+1,[],n,r,h=>by simp[qb3]at h
 |0,c::l,n,r,h=>by
  unfold qb3 at h;split at h
  .injection h with h;injection h with h1 h2;subst h1 h2;refine⟨⟨oe,ou⟩,?_⟩;rw[qn1 oe];simp
  cases h
 |f+1,c::l,n,r,h=>by
  have d:(128:Int)^(f+1+1)=128^(f+1)*128:=Int.pow_succ 128 (f+1);have k:(1:Int)<=128^(f+1):=Int.pow_pos oj;unfold qb3 at h;split at h
  .injection h with h;injection h with h1 h2;subst h1 h2;refine⟨⟨oe,by rw[d];omega⟩,?_⟩;rw[qn1 oe];simp
  cases e:qb3 f l with
  |none=>rw[e]at h;cases h
  |some y=>
   obtain⟨m,g⟩:=y;rw[e]at h;simp only at h;split at h
   .cases h
   injection h with h;injection h with h1 h2;subst h2;obtain⟨⟨o,p⟩,i⟩:=qlk f l m g e;have s:=c.toNat_lt;have q:n/128=m:=oe;have j:n%128+128=c.toNat:=oe;refine⟨⟨oe,by rw[d];omega⟩,?_⟩;rw[q0c oe,q,j,i];simp
def jar:(128:Int)^(5+1)=4398046511104:=oj
variable {a b:List UInt8}
def za {m:Int} (h:qbs 5 n++a=qbs 5 m++b) (d:0<=n/\n<=1099511627776) (e:0<=m/\m<=1099511627776):n=m/\a=b:=by
 have c:=qtf 5 n a d.1 (by rw[jar];omega);have g:=qtf 5 m b e.1 (by rw[jar];omega);rw[h,g]at c;injection c with c;injection c with e3 e4;exact⟨e3.symm,e4.symm⟩
def wrL (x:Wr):List UInt8:=qbs 5 x.key++(qbs 5 (if x.gone then 1 else 0)++(qbs 5 (x.data.size:Int)++toL x.data))
def qhc (l:List Wr):List UInt8:=l.flatMap wrL
def q5h (g:Bool):toL (qv6 g)=qbs 5 (if g then 1 else 0):=by cases g<;>rfl
def q1g (s:By) (x:Wr):toL (stepS s x)=toL s++wrL x:=by
 simp only[stepS,wrL,qif,q5h,jcy]
def q8a (s:By) (l:List Wr):toL (wrS s l)=toL s++qhc l:=by
 induction l generalizing s with
 |nil=>simp[wrS,qhc]
 |cons x l ih=>
  have e:=ih (stepS s x);rw[q1g]at e;show toL (wrS (stepS s x) l)=_;rw[e];simp[qhc]
def qrk (site seq wall count d0 d1 d2 d3 n:Int) (r:List UInt8):List UInt8:=116::(qbs 5 site++(qbs 5 seq++(qbs 5 wall++(qbs 5 count++(qbs 5 d0++(qbs 5 d1++(qbs 5 d2++(qbs 5 d3++(qbs 5 n++r)))))))))
def qkb (c d wall e g h i j:Int) (l:List Wr):toL (txS c d wall e g h i j l)=qrk c d wall e g h i j l.length (qhc l):=by
 unfold txS;rw[q8a];have z:toL (⟨#[116]⟩:By)=[116]:=rfl;simp only[qnh,qrk,qif,jcy,z,jdj,jda]
def q1a (site a0 a1 a2 a3:Int) (r:List UInt8):List UInt8:=97::(qbs 5 site++(qbs 5 a0++(qbs 5 a1++(qbs 5 a2++(qbs 5 a3++r)))))
def qhy (c a0 a1 a2 a3:Int):toL (q1e c a0 a1 a2 a3)=q1a c a0 a1 a2 a3 []:=by
 have z:toL (⟨#[97]⟩:By)=[97]:=rfl;simp only[q1e,q1a,qif,jcy,z,jdj,jda,jdx]
structure TxV where
 site:Int
 seq:Int
 wall:Int
 count:Int
 d0:Int
 d1:Int
 d2:Int
 d3:Int
 l:List Wr
def TxV.ok (x:TxV):Bool:=jt x.site x.seq x.wall x.count x.d0 x.d1 x.d2 x.d3 x.l
def TxV.bytes (x:TxV):By:=txS x.site x.seq x.wall x.count x.d0 x.d1 x.d2 x.d3 x.l
def ql3 (L:List UInt8) (x:TxV):Prop:=x.ok=true/\toL x.bytes=L
def jav {x y:Wr} (h:wrL x++a=wrL y++b) (j:0<=x.key/\x.key<=7/\x.data.size<=12) (l:0<=y.key/\y.key<=7/\y.data.size<=12):x=y/\a=b:=by
 simp only[wrL,jcy]at h;obtain⟨e,h⟩:=za h ⟨j.1,oe⟩ ⟨l.1,oe⟩;obtain⟨c,h⟩:=za h (by cases x.gone<;>decide) (by cases y.gone<;>decide);obtain⟨p,h⟩:=za h ⟨oe,oe⟩ ⟨oe,oe⟩;obtain⟨i,m⟩:=List.append_inj h (by rw[yh,yh];omega);refine⟨?_,m⟩;obtain⟨k,d,g⟩:=x;obtain⟨q,t,s⟩:=y;simp only at e c i;have o:g=s:=by
  cases g<;>cases s
  .rfl
  .simp at c
  .simp at c
  rfl
 rw[e,qsh i,o]
def qz1:∀(l m:List Wr) (a b:List UInt8),l.length=m.length->qhc l++a=qhc m++b->(∀x∈l,0<=x.key/\x.key<=7/\x.data.size<=12)->(∀x∈m,0<=x.key/\x.key<=7/\x.data.size<=12)->l=m/\a=b
 |[],[],a,b,_,h,_,_=>⟨rfl,h⟩
 |[],_::_,_,_,hl,_,_,_=>by simp at hl
 |_::_,[],_,_,hl,_,_,_=>by simp at hl
 |x::l,y::m,a,b,hl,h,hx,hy=>by
  have d:qhc (x::l)++a=wrL x++(qhc l++a):=by simp[qhc]
  have e:qhc (y::m)++b=wrL y++(qhc m++b):=by simp[qhc]
  rw[d,e]at h;obtain⟨g,i⟩:=jav h (hx x oi) (hy y oi);obtain⟨j,k⟩:=qz1 l m a b (by simpa using hl) i (λz c=>hx z (by simp[c])) (λz c=>hy z (by simp[c]));exact⟨by rw[g,j],k⟩
def qob {l:List Wr} (h:qad l=true):∀x∈l,0<=x.key/\x.key<=7/\x.data.size<=12:=λx g=>by
 obtain⟨i,j,rfl⟩:=jdm.1 g;have e:qa7 l i=l[i]:=by simp[qa7,List.getD,List.getElem?_eq_getElem j]
 have c:=qoy (qkl h i j);have d:=qmq (qkl h i j);rw[e]at c d;exact⟨c.1,c.2,d⟩
variable {x:TxV}
def qlw (h:x.ok=true):(0<=x.site/\x.site<=3)/\(1<=x.seq/\x.seq<=1099511627776)/\(0<=x.wall/\x.wall<=1099511627776)/\(0<=x.count/\x.count<=1099511627776)/\(0<=x.d0/\x.d0<=1099511627776)/\(0<=x.d1/\x.d1<=1099511627776)/\(0<=x.d2/\x.d2<=1099511627776)/\(0<=x.d3/\x.d3<=1099511627776)/\qad x.l=true:=by
 simp only[TxV.ok,jt,jct,jk,jb,qdz]at h;obtain⟨⟨⟨⟨⟨c,d⟩,e,g⟩,⟨⟨i,j⟩,k⟩,m⟩,_⟩,o⟩:=h;exact⟨c,d,e,g,i,j,k,m,o⟩
variable {r:List UInt8}
def q1c {y:TxV} (s:x.ok=true) (t:y.ok=true) (h:toL x.bytes=toL y.bytes++r):x=y/\r=[]:=by
 obtain⟨a1,a2,a3,u,v,w,z,A,c⟩:=qlw s;obtain⟨B,C,D,E,F,G,H,I,d⟩:=qlw t;have M:=qjz c;have J:=qjz d;rw[TxV.bytes,TxV.bytes,qkb,qkb]at h;simp only[qrk,jdj,jcy,List.cons.injEq,true_and]at h;obtain⟨e,h⟩:=za h ⟨a1.1,oe⟩ ⟨B.1,oe⟩;obtain⟨g,h⟩:=za h ⟨oe,a2.2⟩ ⟨oe,C.2⟩;obtain⟨i,h⟩:=za h a3 D;obtain⟨j,h⟩:=za h u E;obtain⟨k,h⟩:=za h v F;obtain⟨m,h⟩:=za h w G;obtain⟨o,h⟩:=za h z H;obtain⟨p,h⟩:=za h A I;obtain⟨K,h⟩:=za h ⟨oe,oe⟩ ⟨oe,oe⟩;obtain⟨q,h⟩:=qz1 x.l y.l [] r oe oM (qob c) (qob d);refine⟨?_,h.symm⟩;obtain⟨_,_,_,_,_,_,_,_,_⟩:=x;obtain⟨_,_,_,_,_,_,_,_,_⟩:=y;simp only at e g i j k m o p q;subst e g i j k m o p q;rfl
variable {L:List UInt8}
def q6h {y:TxV} (c:ql3 L x) (d:ql3 L y):x=y:=(q1c c.1 d.1 (r:=[]) (by rw[c.2,d.2,jdx])).1
structure qho where
 site:Int
 a0:Int
 a1:Int
 a2:Int
 a3:Int
def qho.ok (x:qho):Bool:=inB x.site 0 3&&jb x.a0 x.a1 x.a2 x.a3
def qho.bytes (x:qho):By:=q1e x.site x.a0 x.a1 x.a2 x.a3
def qdj (L:List UInt8) (x:qho):Prop:=x.ok=true/\toL x.bytes=L
def qmo {x:qho} (h:x.ok=true):(0<=x.site/\x.site<=3)/\(0<=x.a0/\x.a0<=1099511627776)/\(0<=x.a1/\x.a1<=1099511627776)/\(0<=x.a2/\x.a2<=1099511627776)/\(0<=x.a3/\x.a3<=1099511627776):=by
 simp only[qho.ok,jct,jk,jb,qdz]at h;obtain⟨c,⟨⟨d,e⟩,g⟩,i⟩:=h;exact⟨c,d,e,g,i⟩
variable {y:qho}
def qyx {x:qho} (j:x.ok=true) (k:y.ok=true) (h:toL x.bytes=toL y.bytes++r):x=y/\r=[]:=by
 obtain⟨a1,a2,a3,l,m⟩:=qmo j;obtain⟨o,p,q,s,t⟩:=qmo k;rw[qho.bytes,qho.bytes,qhy,qhy]at h;simp only[q1a,jdj,jcy,List.cons.injEq,true_and,jda]at h;obtain⟨c,h⟩:=za h ⟨a1.1,oe⟩ ⟨o.1,oe⟩;obtain⟨d,h⟩:=za h a2 p;obtain⟨e,h⟩:=za h a3 q;obtain⟨g,h⟩:=za h l s;obtain⟨i,h⟩:=za h m t;refine⟨?_,h.symm⟩;obtain⟨_,_,_,_,_⟩:=x;obtain⟨_,_,_,_,_⟩:=y;simp only at c d e g i;subst c d e g i;rfl
def qwl {x:qho} (c:qdj L x) (d:qdj L y):x=y:=(qyx c.1 d.1 (r:=[]) (by rw[c.2,d.2,jdx])).1
def qzw (c:ql3 L x) (d:qdj L y):False:=by
 have h:=c.2.trans d.2.symm;rw[TxV.bytes,qho.bytes,qkb,qhy]at h;simp[qrk,q1a]at h
end
section
open _root_.Go.Proofs.Tryz Go.RowKit
def qa5 (w:Wl) (A:Nat) (a:Oa) (R:List UInt8):Prop:=
 R=[]\/∃b o,a=some (AD b o)/\b<A/\∀j u,R[j]?=some u->w.cell? (AD b (o+j))=some (.int .u8 u.toNat)
structure Rd (w:Wl) (A:Nat) (R:List UInt8) (wrong:Bool):Prop where
 rest:∃a c,w.cell? (AD A 0)=some (.slice a R.length c)/\R.length<=c/\qa5 w A a R
 c1:w.cell? (AD A 1)=some (.bool wrong)
 f0:w.frozen? (AD A 0)=false
 f1:w.frozen? (AD A 1)=false
def qzn (k:Nat) (n:Int):Option (Int×List UInt8)->Option (Int×List UInt8)
 |none=>none
 |some (m,r)=>if 0<k/\m=0 then none else some (n+128^k*m,r)
def qoh (k:Nat) (n:Int) (R:List UInt8):Option (Int×List UInt8):=if 6<=k then none else qzn k n (qb3 (5-k) R)
def q3t (R:List UInt8):qoh 0 0 R=qb3 5 R:=by
 show qzn 0 0 (qb3 5 R)=_;cases h:qb3 5 R with
 |none=>rfl
 |some x=>
  obtain⟨m,r⟩:=x;simp[qzn]
def q7b (n:Int) (R:List UInt8):qoh 6 n R=none:=rfl
def q7q (k:Nat) (n:Int):qoh k n []=none:=by
 unfold qoh;split
 .rfl
 cases h:5-k<;>rfl
def q2k (j:k<6) (b:¬c.toNat<128):qoh k n (c::R)=qoh (k+1) (n+((c.toNat:Int)-128)*128^k) R:=by
 unfold qoh;rw[if_neg oe];by_cases d:k=5
 .subst d;show qzn 5 n (if c.toNat<128 then some ((c.toNat:Int),R)else none)=none;rw[if_neg b];rfl
 rw[if_neg oe];obtain⟨f,g⟩:∃f,5-k=f+1:=⟨4-k,oe⟩;have i:5-(k+1)=f:=oe;rw[g,i];show qzn k n (if c.toNat<128 then some ((c.toNat:Int),R)else match qb3 f R with
  |none=>none
  |some (n,r')=>if n=0 then none else some ((c.toNat:Int)-128+128*n,r'))=_
 rw[if_neg b];cases h:qb3 f R with
 |none=>rfl
 |some x=>
  obtain⟨m,r⟩:=x;have l:=(qlk f R m r h).1.1;by_cases a:m=0
  .subst a;simp[qzn]
  have o:128<=c.toNat:=oe;have e:¬((c.toNat:Int)-128+128*m=0):=oe;simp only[qzn,if_neg a];rw[if_neg (λx=>e x.2),if_neg (λx=>a x.2)];congr 2
  have:(128:Int)^(k+1)=128^k*128:=Int.pow_succ 128 k;rw[this];generalize (128:Int)^k=P;rw[Int.mul_add,Int.mul_comm ((c.toNat:Int)-128) P,Int.add_assoc,Int.mul_assoc]
def q1y (b:k<6) (a:c.toNat<128):qoh k n (c::R)=if 0<k/\(c.toNat:Int)=0 then none else some (n+128^k*c.toNat,R):=by
 unfold qoh;rw[if_neg oe]
 have:qb3 (5-k) (c::R)=some ((c.toNat:Int),R):=by
  cases h:5-k<;>(unfold qb3;rw[if_pos a])
 rw[this];rfl
def qan (g o:Nat) (w:Wl) (v:Vl):yu g w (w.setCell (AD g o) v):=⟨rfl,rfl,rfl,oF,λk _ a=>jce w (AD g o) v k (λe=>a (by rw[e]))⟩
def Rd.put {d:List UInt8} {g:Bool} (h:Rd w A R g) (a:Oa) (n c:Nat) (l:n=d.length) (m:d.length<=c) (f:qa5 w A a d):Rd (w.setCell (AD A 0) (.slice a n c)) A d g:=by
 subst l;obtain⟨a0,s,p,_,_⟩:=h.rest;refine⟨⟨a,c,jc8 w _ _ p,m,?_⟩,?_,?_,?_⟩
 .obtain f|⟨b,o,e,i,q⟩:=f
  .exact .inl f
  refine .inr ⟨b,o,e,i,λj u r=>?_⟩;rw[jco (h:=λe=>Nat.ne_of_lt i (by injection e with e1 _ _;exact e1.symm))];exact q j u r
 .rw[jco (h:=λe=>by injection e with _ e2 _;cases e2)];exact h.c1
 .rw[jcm];exact h.f0
 rw[jcm];exact h.f1
def Rd.bad {f:Bool} (h:Rd w A R f):Rd (w.setCell (AD A 1) (.bool true)) A R true:=by
 obtain⟨a0,g,i,l,a⟩:=h.rest;refine⟨⟨a0,g,?_,l,?_⟩,jc8 w _ _ h.c1,?_,?_⟩
 .rw[jco (h:=λe=>by injection e with _ e2 _;cases e2)];exact i
 .obtain a|⟨b,o,e,d,m⟩:=a
  .exact .inl a
  refine .inr ⟨b,o,e,d,λj u p=>?_⟩;rw[jco (h:=λe=>Nat.ne_of_lt d (by injection e with e1 _ _;exact e1.symm))];exact m j u p
 .rw[jcm];exact h.f0
 rw[jcm];exact h.f1
def qa5.drop {b o c:Nat} (d:b<A) (e:∀j u,R[j]?=some u->w.cell? (AD b (o+j))=some (.int .u8 u.toNat)) (f:k<=R.length) (g:R.length<=c):
 qa5 w A (if c=k then some (AD b o)else some (AD b (o+k))) (R.drop k):=by
 by_cases h:c=k
 .exact .inl (jdw oe)
 rw[if_neg h];refine .inr ⟨b,o+k,rfl,d,λj u a=>?_⟩;rw[List.getElem?_drop]at a;rw[nz];exact e _ _ a
def q7y (a:k<6):(128:Int)^k<=34359738368:=by
 have:k=0\/k=1\/k=2\/k=3\/k=4\/k=5:=oe;obtain rfl|rfl|rfl|rfl|rfl|rfl:=this<;>decide
def q44 (k:Nat):(2:Int)^(7*(k:Int)).toNat=128^k:=by
 have e:(7*(k:Int)).toNat=7*k:=oe;rw[e,Int.pow_mul];rfl
def q3v {x P:Int} (b:0<=x) (d:x<=127) (a:0<=P):0<=x*P/\x*P<=127*P:=
 ⟨Int.mul_nonneg b a,Int.mul_le_mul_of_nonneg_right d a⟩
def q1w {m z:Int} (g:k<6) (h:z=k) (j:0<=n) (b:n<128^k):wrap64 (n+wrap64 (m%128*2^(7*z).toNat))=n+m%128*128^k/\0<=n+m%128*128^k/\n+m%128*128^k<128^(k+1):=by
 have i:(128:Int)^(k+1)=128^k*128:=Int.pow_succ 128 k;rw[h,q44,i];have d:=q7y g;have a:(0:Int)<=128^k:=oe;revert d a b;generalize (128:Int)^k=P;intro b d a;obtain⟨e,f⟩:=q3v (x:=m%128) oe oe a;revert e f;generalize m%128*P=Q;intro e f;unfold wrap64;omega
def qbm (most:Int) (R:List UInt8) (wrong:Bool) (v:Int) (R':List UInt8) (wrong':Bool):Prop:=
 R'.length<=R.length/\((qb3 5 R=some (v,R')/\v<=most/\wrong'=wrong)\/((∀n r,qb3 5 R=some (n,r)->¬n<=most)/\v=0/\wrong'=true))
def q8e (most:Int) (R:List UInt8) (wrong:Bool) (A:Nat) (w:Wl) (v:Int) (w':Wl):Prop:=∃R' wrong',qbm most R wrong v R' wrong'/\Rd w' A R' wrong'/\yu A w w'
def ym (A:Nat) (R:List UInt8) (p:Bool) (I:Int) (w:Wl) (hR:Rd w A R p):
 Ca 195 #[PP A,U I] w λe w'=>
  ∃v,e=.returned (U v)/\q8e I R p A w v w':=by
 go_enter func195,ntmps195;go_wp2_with fail
 go_loopw [5,8] (λnv iv wr=>∃(k:Nat) (z n:Int) (g:List UInt8),k<=6/\z=k/\iv=U z/\nv=U n/\0<=n/\n<128^k/\g.length<=R.length/\qb3 5 R=qoh k n g/\Rd wr A g p/\yu A w wr) (λ_ i _=>6-(intOf i).toNat)
 case atStart=>exact⟨0,0,0,R,oe,rfl,rfl,rfl,oe,oj,oe,(q3t R).symm,hR,yu.refl _ _⟩
 obtain⟨k,z,n,g,hk,S,rfl,rfl,n0,T,J,V,d,t⟩:=hrel;have y:=hd1 V;clear V;obtain⟨a,c,W,X,hB⟩:=d.rest;have q1:=d.c1;have g0:=d.f0;have g1:=d.f1;by_cases K:k<6
 .have h1:z<6:=oe;have h3:0<=z:=oe;have B:=hd1 S;clear S;have N1:=hd1 T;clear T;cases g with
  |nil=>
   simp only[List.length_nil]at W;have L:=d.bad;go_wp2_with fail
   go_ret;exact⟨0,rfl,[],true,⟨oi,.inr ⟨λn r h=>(by rw[y.out,q7q]at h;cases h),rfl,rfl⟩⟩,L,t.trans (qan _ _ _ _) (.inl rfl)⟩
  |cons ch R''=>
   obtain⟨b,o,rfl,hne,M⟩:∃b o,a=some (AD b o)/\b<A/\∀j u,(ch::R'')[j]?=some u->wr.cell? (AD b (o+j))=some (.int .u8 u.toNat):=by
        obtain h|h:=hB
        .cases h
        exact h
   have x0:wr.cell? (AD b o)=some (.int .u8 ch.toNat):=M 0 ch rfl;have N:=qa5.drop (k:=1) hne M oi X;obtain⟨q,ha'⟩:∃q,(if c=1 then some ((AD b o):Addr)else some (AD b (o+1)))=q:=⟨_,rfl⟩;rw[ha']at N;have HC:Hid (qa5 wr A q R''):=N;clear N;clear M;have hch:=ch.toNat_lt;obtain⟨m,O⟩:∃m:Int,m=ch.toNat:=⟨_,rfl⟩;rw[<-O]at x0;have C:=hd1 O;have m0:0<=m:=oe;have m1:m<256:=oe;clear O;have hlen3:R''.length+1<=R.length:=J;obtain⟨D,F⟩:∃D:Nat,R''.length=D:=⟨_,rfl⟩;rw[List.length_cons,F]at W X;rw[F]at hlen3;have f:=hd1 F;clear F J;obtain⟨bm,Y,P⟩:=q1w (m:=m) K B.out n0 N1.out;obtain⟨v,G⟩:∃v,v=n+m%128*128^k:=⟨_,rfl⟩;rw[<-G]at bm Y P;have Z:=hd1 G;have B1:=hd1 P;clear G P;have aa:=d.put q D (c-1) f.out.symm (by rw[f.out];omega) HC.out;have s:Hid (yu A w (wr.setCell (AD A 0) (.slice q D (c-1)))):=t.trans (qan _ _ _ _) (.inl rfl);have H:=hd1 aa;clear aa d t;by_cases hm2:128<=m
   .have E:Hid (qb3 5 R=qoh (k+1) v R''):=by
     have e:m%128=(ch.toNat:Int)-128:=by have:=C.out;omega
     show qb3 5 R=_;rw[y.out,q2k K (by have:=C.out;omega),Z.out,e]
    go_wp2_with fail
    go_roundw
    case rel=>exact⟨k+1,z+1,v,R'',oe,by have:=B.out;omega,rfl,by first|rfl|rw[bm],Y,B1.out,by rw[f.out];omega,E.out,H.out,s.out⟩
    simp[intOf];omega
   have E:Hid (qb3 5 R=if 0<k/\m=0 then none else some (v,R'')):=by
        have e:m%128=m:=oe;show qb3 5 R=_;rw[y.out,q1y K (by have:=C.out;omega),Z.out,e,C.out,Int.mul_comm (128^k)]
   have ab:=H.out.bad;have ac:=hd1 ab;clear ab;by_cases G:I<v
   .go_wp2_with fail
    go_ret;refine⟨0,rfl,R'',true,⟨by rw[f.out];omega,.inr ⟨λn r h=>?_,rfl,rfl⟩⟩,ac.out,s.out.trans (qan _ _ _ _) (.inl rfl)⟩;rw[E.out]at h;split at h
    .cases h
    injection h with h;injection h with h1 _;omega
   by_cases l:m=0
   .have e0:(m==0)=true:=by simp[l]
    have Q:=hd1 l;clear l;by_cases hk0:0<z
    .go_wp2_with fail
     go_ret;refine⟨0,rfl,R'',true,⟨by rw[f.out];omega,.inr ⟨λn r h=>?_,rfl,rfl⟩⟩,ac.out,s.out.trans (qan _ _ _ _) (.inl rfl)⟩;rw[E.out,if_pos ⟨by have:=B.out;omega,Q.out⟩]at h;cases h
    go_wp2_with fail
    go_ret;refine⟨v,rfl,R'',p,⟨by rw[f.out];omega,.inl ⟨?_,oe,rfl⟩⟩,H.out,s.out⟩;rw[E.out,if_neg (λx=>by have:=B.out;have:=x.1;omega)]
   have e0:(m==0)=false:=by simp[l]
   have Q:=hd1 l;clear l;go_wp2_with fail
   go_ret;refine⟨v,rfl,R'',p,⟨by rw[f.out];omega,.inl ⟨?_,oe,rfl⟩⟩,H.out,s.out⟩;rw[E.out,if_neg (λx=>Q.out x.2)]
 have e:k=6:=oe;have L:=d.bad;go_wp2_with fail
 go_ret;exact⟨0,rfl,g,true,⟨J,.inr ⟨λn r h=>(by rw[y.out,e,q7b]at h;cases h),rfl,rfl⟩⟩,L,t.trans (qan _ _ _ _) (.inl rfl)⟩
end
section
open Tryz Go.RowKit
def qkz (R:List UInt8) (wrong:Bool) (n:Int) (s:By) (A:List UInt8) (wrong':Bool):Prop:=
 (n<=R.length/\toL s=R.take n.toNat/\A=R.drop n.toNat/\wrong'=wrong)\/((R.length:Int)<n/\s=⟨#[]⟩/\A=R/\wrong'=true)
def q7a (R:List UInt8) (wrong:Bool) (n:Int) (rb:Nat) (w:Wl) (s:By) (w':Wl):Prop:=∃A wrong',qkz R wrong n s A wrong'/\Rd w' rb A wrong'/\yu rb w w'
def jb0 (a:Oa) (c:Nat) (w:Wl):(convert 51 9 (.slice a 0 c)).run prog w=.ok (.string ⟨#[]⟩) w:=by
 rw[run_convert_bytes_string w 51 9 5 a 0 c underlying51 underlying5 underlying9];cases a with
 |none=>simp[Conv.bytesToString];rfl
 |some a=>simp[Conv.bytesToString,loadCells,loadCellsFrom];rfl
def jbb {w:Wl} {b o:Nat} (n c:Nat) (i:n<=R.length) (d:∀j u,R[j]?=some u->w.cell? (AD b (o+j))=some (.int .u8 u.toNat)):
 (convert 51 9 (.slice (some (AD b o)) n c)).run prog w=.ok (.string ⟨(R.take n).toArray⟩) w:=by
 have f:((R.take n).map λb=>(b.toNat:Int)).length=n:=ou
 have:=run_convert_bytes_arg (P:=prog) w 51 5 underlying51 underlying5 b o n c ((R.take n).map λb=>(b.toNat:Int)) f (λj g=>by
  have a:j<R.length:=oe;rw[d j R[j] (jcg a)];simp[List.getD,List.getElem?_eq_getElem a,List.getElem?_take_of_lt g]) 9 underlying9
 have e:((λn:Int=>UInt8.ofNat n.toNat)∘λb:UInt8=>(b.toNat:Int))=id:=by
  funext b;simp
 have h:strOfNums ((R.take n).map λb=>(b.toNat:Int))=⟨(R.take n).toArray⟩:=by
  unfold strOfNums;rw[List.map_map,e,List.map_id]
 rw[this,h]
def qrw (j:Nat) (R:List UInt8) (i:Bool) (n:Int) (w:Wl) (f:Rd w j R i) (I:0<=n) (z:R.length<=1000000):
 Ca 234 #[PP j,U n] w λe w'=>
  ∃s,e=.returned (.string s)/\q7a R i n j w s w':=by
 obtain⟨a,c,B,x,C⟩:=f.rest;have J:=f.c1;have K:=f.f0;have L:=f.f1;obtain⟨g,l⟩:∃g,R.length=g:=⟨_,rfl⟩;rw[l]at B x z;have d:=hd1 l;clear l;by_cases h:(g:Int)<n
 .have D:=f.bad;go_enter func234,ntmps234;go_wp2_with fail
  go_ret;exact⟨_,rfl,R,true,.inr ⟨by rw[d.out];exact h,rfl,rfl,rfl⟩,D,qan _ _ _ _⟩
 obtain p|⟨b,o,rfl,E,q⟩:=C
 .obtain rfl:g=0:=by rw[<-d.out,p];rfl
  obtain rfl:n=0:=oe;have F:=hd1 p;clear p;have y:=jb0;have r:=hd1 (f.put a 0 c rfl oi (.inl rfl));go_enter func234,ntmps234;go_wp2_with fail
  go_ret;exact⟨_,rfl,[],i,.inl ⟨by rw[d.out];decide,rfl,by rw[F.out];rfl,rfl⟩,r.out,qan _ _ _ _⟩
 obtain⟨m,rfl⟩:∃m:Nat,n=m:=⟨n.toNat,oe⟩;have y:=jbb (R:=R) m c (by rw[d.out];omega) q;have t:=qa5.drop (k:=m) E q (by rw[d.out];omega) (by rw[d.out];exact x);obtain⟨u,G⟩:∃u,(if c=m then some ((AD b o):Addr)else some (AD b (o+m)))=u:=⟨_,rfl⟩;rw[G]at t;obtain⟨s,v⟩:∃s:By,s=⟨(R.take m).toArray⟩:=⟨_,rfl⟩;rw[<-v]at y;have H:=hd1 v;clear v q;have r:=hd1 (f.put u (g-m) (c-m) (by rw[jdt,d.out]) (by rw[jdt,d.out];omega) t);clear t;go_enter func234,ntmps234;go_wp2_with fail
 go_ret;exact⟨_,rfl,R.drop m,i,.inl ⟨by rw[d.out];omega,by rw[H.out];rfl,rfl,rfl⟩,r.out,qan _ _ _ _⟩
def q5r (R:List UInt8) (wrong:Bool) (c:UInt8) (rb:Nat) (w w':Wl):Prop:=∃A wrong',((wrong'=false↔wrong=false/\R=c::A)/\A.length<=R.length/\(∀r,R=c::r->A=r))/\Rd w' rb A wrong'/\yu rb w w'
variable {A:List UInt8} {s:By}
def qwk {d f:Bool} (h:qkz R d 1 s A f) (b:toL s=[c]):R=c::A/\f=d:=by
 obtain⟨g,a,i,j⟩|⟨_,a,_,_⟩:=h
 .refine⟨?_,j⟩;cases R with
  |nil=>simp at g
  |cons x R=>
   rw[b]at a;have e:x=c:=by simpa using a.symm
   rw[i,e];rfl
 rw[a]at b;cases b
def qsl {a b:Bool} (h:qkz R a 1 s A b) (d:¬toL s=[c]) (r:List UInt8):¬R=c::r:=by
 intro e;subst e;obtain⟨_,f,_,_⟩|⟨g,_,_,_⟩:=h
 .exact d (by rw[f];rfl)
 simp at g;omega
def take_length {b d:Bool} {n:Int} (h:qkz R b n s A d):A.length<=R.length:=by
 obtain⟨_,_,a,_⟩|⟨_,_,a,_⟩:=h
 .rw[a,jdt];omega
 rw[a];exact jcd _
def qul (d:Nat) (R:List UInt8) (i:Bool) (c:UInt8) (w:Wl) (p:Rd w d R i) (q:R.length<=1000000):
 Ca 194 #[PP d,.string ⟨#[c]⟩] w λe w'=>e=.returned (.tuple #[])/\q5r R i c d w w':=by
 go_enter func194,ntmps194;go_wp2_with fail
 refine(qrw d R i 1 w p oe q).mono ?_;rintro e x ⟨s,rfl,A,t,k,f,l⟩;have y:=f.f1;have z:=f.c1;have g:=hd1 k;clear k;by_cases a:toL s=[c]
 .have u:(s.toList==[c])=true:=by rw[qca,a];simp
  obtain⟨m,n⟩:=qwk g.out a;have b:=hd1 m;have o:=hd1 n;clear m n a;go_wp2_with fail
  go_end0;exact⟨rfl,A,t,⟨⟨λh=>⟨by rw[<-o.out];exact h,b.out⟩,λh=>by rw[o.out];exact h.1⟩,take_length g.out,λr j=>by have:=b.out.symm.trans j;injection this⟩,f,l⟩
 have u:(s.toList==[c])=false:=by rw[qca];exact beq_eq_false_iff_ne.2 a
 have b:=hd1 (qsl g.out a);have v:=f.bad;clear a;go_wp2_with fail
 go_end0;exact⟨rfl,A,true,⟨⟨λh=>(by cases h),λh=>absurd h.2 (b.out _)⟩,take_length g.out,λr j=>absurd j (b.out r)⟩,v,l.trans (qan _ _ _ _) (.inl rfl)⟩
def ql0 (R:List UInt8) (wrong:Bool):Bool:=!wrong&&R.isEmpty
def qpy (f:Nat) (R:List UInt8) (b:Bool) (w:Wl) (g:Rd w f R b):
 Ca 198 #[PP f] w (Rn (.bool (ql0 R b)) w):=by
 obtain⟨a,c,d,i,j⟩:=g.rest;have k:=g.c1;cases b
 .cases R with
  |nil=>
   simp only[List.length_nil]at d;go_enter func198,ntmps198;go_wp2_with fail
   go_ret;exact⟨rfl,jcc _ _⟩
  |cons x R=>
   simp only[List.length_cons]at d;obtain⟨e,h⟩:∃e,R.length=e:=⟨_,rfl⟩;rw[h]at d;have l:((e:Int)+1==0)=false:=beq_eq_false_iff_ne.2 oe;go_enter func198,ntmps198;go_wp2_with fail
   go_ret;exact⟨rfl,jcc _ _⟩
 go_enter func198,ntmps198;go_wp2_with fail
 go_ret;exact⟨rfl,jcc _ _⟩
end
open _root_.Go.Proofs.Tryz Go.RowKit
def qo.only {b:Nat} {a0 a1 a2 a3:Int} (h:qo w b a0 a1 a2 a3) (a:yu A w w') (c:b≠A):qo w' b a0 a1 a2 a3:=by
 have e:=a.block b h.lt (λx=>by injection x with x;exact c x);constructor
 .rw[jch (w:=w) e];exact h.c0
 .rw[jch (w:=w) e];exact h.c1
 .rw[jch (w:=w) e];exact h.c2
 .rw[jch (w:=w) e];exact h.c3
 .rw[jcp (w:=w) e];exact h.f0
 .rw[jcp (w:=w) e];exact h.f1
 .rw[jcp (w:=w) e];exact h.f2
 rw[jcp (w:=w) e];exact h.f3
def Rd.lt {a:Bool} (h:Rd w A R a):A<w.heap.size:=jcr _ _ h.c1
def Rd.kept {f:Bool} (h:Rd w A R f) (i:∀k,k<w.heap.size->w'.heap[k]?=w.heap[k]?):Rd w' A R f:=by
 obtain⟨a,c,m,n,d⟩:=h.rest;have e:=i A h.lt;refine⟨⟨a,c,by rw[jch (w:=w) e];exact m,n,?_⟩,by rw[jch (w:=w) e];exact h.c1,by rw[jcp (w:=w) e];exact h.f0,by rw[jcp (w:=w) e];exact h.f1⟩;obtain d|⟨b,o,p,q,r⟩:=d
 .exact .inl d
 refine .inr ⟨b,o,p,q,λj u s=>?_⟩;have l:=r j u s;rw[jch (w:=w) (i b (jcr _ _ l))];exact l
def Rd.alloc {a:Bool} (h:Rd w A R a) (o:Obj):Rd (w.alloc o) A R a:=h.kept λk b=>jdg w o k b
def Rd.far {f:Bool} (h:Rd w A R f) (p:Addr) (v:Vl) (r:A<p.block):Rd (w.setCell p v) A R f:=by
 obtain⟨a,c,i,k,d⟩:=h.rest;have e:=jce w p v A oe;refine⟨⟨a,c,by rw[jch (w:=w) e];exact i,k,?_⟩,by rw[jch (w:=w) e];exact h.c1,by rw[jcp (w:=w) e];exact h.f0,by rw[jcp (w:=w) e];exact h.f1⟩;obtain d|⟨b,o,l,m,n⟩:=d
 .exact .inl d
 refine .inr ⟨b,o,l,m,λj u q=>?_⟩;rw[jch (w:=w) (jce w p v b oe)];exact n j u q
variable {g:Nat}
def qbf {p:Addr} {v:Vl} (h:yu g w w1) (c:w.heap.size<=p.block):yu g w (w1.setCell p v):=
 ⟨h.os,h.tape,h.output,by simpa[World.setCell]using h.size,λk a b=>(jce w1 p v k oe).trans (h.block k a b)⟩
def qly {o:Obj} (h:yu g w w1):yu g w (w1.alloc o):=h.trans (g':=g) (yu.ofBelow (boxed (jcc _ _) o)) (.inl rfl)
def q98 (R:List UInt8) (wrong:Bool) (A:Nat) (w:Wl) (v0 v1 v2 v3:Int) (w':Wl):Prop:=
 ∃R0 x0 R1 x1 R2 x2 R3 x3,qbm 1099511627776 R wrong v0 R0 x0/\qbm 1099511627776 R0 x0 v1 R1 x1/\qbm 1099511627776 R1 x1 v2 R2 x2/\qbm 1099511627776 R2 x2 v3 R3 x3/\Rd w' A R3 x3/\yu A w w'
def qzy (A:Nat) (R:List UInt8) (u:Bool) (w:Wl) (G:Rd w A R u):
 Ca 196 #[PP A] w λe w'=>
  ∃c d f h,e=.returned (.agg #[U c,U d,U f,U h])/\q98 R u A w c d f h w':=by
 have aa:=G.lt;have j:w.heap.size+1≠A:=oe;have k:w.heap.size≠A:=oe;have a:=(qo.new w 113 0 0 0 0).boxed (.cells #[U 0,U 0,U 0,U 0] 113);have RW:qo ((w.alloc (.cells #[U 0,U 0,U 0,U 0] 113)).alloc (.cells #[U 0,U 0,U 0,U 0] 113)) (w.heap.size+1) 0 0 0 0:=qo.newest oi;have b:yu A w ((w.alloc (.cells #[U 0,U 0,U 0,U 0] 113)).alloc (.cells #[U 0,U 0,U 0,U 0] 113)):=qly (qly (yu.refl _ _));go_enter func196,ntmps196;go_wp2_with fail
 refine wp_loop_rounds 5 ?_;rw[rounds_succ];go_wp2_with fail
 refine(ym A R u 1099511627776 _ ((G.alloc _).alloc _)).mono ?_;rintro e w1 ⟨c,rfl,H,x0,K,x,y⟩;have L:=hd1 K;replace RW:=RW.only y j;replace a:=a.only y k;replace b:=b.trans y (.inl rfl);replace x:=x.far (AD (w.heap.size+1) 0) (U c) (by show A<w.heap.size+1;omega);replace b:=qbf (p:=AD (w.heap.size+1) 0) (v:=U c) b (by show w.heap.size<=w.heap.size+1;omega);have i:=RW.set0 c;replace a:=a.far (AD (w.heap.size+1) 0) (U c) (by show w.heap.size+1≠w.heap.size;omega);have l:=RW.c0;have m:=RW.c1;have n:=RW.c2;have o:=RW.c3;have q:=RW.f0;have f1:=RW.f1;have r:=RW.f2;have s:=RW.f3;go_wp2_with fail
 have RW:=i;rw[rounds_succ];go_wp2_with fail
 refine(ym A H x0 1099511627776 _ x).mono ?_;rintro e w2 ⟨d,rfl,I,x1,M,z,B⟩;have N:=hd1 M;replace RW:=RW.only B j;replace a:=a.only B k;replace b:=b.trans B (.inl rfl);replace z:=z.far (AD (w.heap.size+1) 1) (U d) (by show A<w.heap.size+1;omega);replace b:=qbf (p:=AD (w.heap.size+1) 1) (v:=U d) b (by show w.heap.size<=w.heap.size+1;omega);have i:=RW.set1 d;replace a:=a.far (AD (w.heap.size+1) 1) (U d) (by show w.heap.size+1≠w.heap.size;omega);have l:=RW.c0;have m:=RW.c1;have n:=RW.c2;have o:=RW.c3;have q:=RW.f0;have f1:=RW.f1;have r:=RW.f2;have s:=RW.f3;go_wp2_with fail
 have RW:=i;rw[rounds_succ];go_wp2_with fail
 refine(ym A I x1 1099511627776 _ z).mono ?_;rintro e w3 ⟨f,rfl,J,x2,O,C,D⟩;have P:=hd1 O;replace RW:=RW.only D j;replace a:=a.only D k;replace b:=b.trans D (.inl rfl);replace C:=C.far (AD (w.heap.size+1) 2) (U f) (by show A<w.heap.size+1;omega);replace b:=qbf (p:=AD (w.heap.size+1) 2) (v:=U f) b (by show w.heap.size<=w.heap.size+1;omega);have i:=RW.set2 f;replace a:=a.far (AD (w.heap.size+1) 2) (U f) (by show w.heap.size+1≠w.heap.size;omega);have l:=RW.c0;have m:=RW.c1;have n:=RW.c2;have o:=RW.c3;have q:=RW.f0;have f1:=RW.f1;have r:=RW.f2;have s:=RW.f3;go_wp2_with fail
 have RW:=i;rw[rounds_succ];go_wp2_with fail
 refine(ym A J x2 1099511627776 _ C).mono ?_;rintro e w4 ⟨h,rfl,Q,x3,S,E,F⟩;have T:=hd1 S;replace RW:=RW.only F j;replace a:=a.only F k;replace b:=b.trans F (.inl rfl);replace E:=E.far (AD (w.heap.size+1) 3) (U h) (by show A<w.heap.size+1;omega);replace b:=qbf (p:=AD (w.heap.size+1) 3) (v:=U h) b (by show w.heap.size<=w.heap.size+1;omega);have i:=RW.set3 h;replace a:=a.far (AD (w.heap.size+1) 3) (U h) (by show w.heap.size+1≠w.heap.size;omega);have l:=RW.c0;have m:=RW.c1;have n:=RW.c2;have o:=RW.c3;have q:=RW.f0;have f1:=RW.f1;have r:=RW.f2;have s:=RW.f3;go_wp2_with fail
 have RW:=i;rw[rounds_succ];have V:=(((E.far (AD w.heap.size 0) (U c) (by show A<w.heap.size;omega)).far (AD w.heap.size 1) (U d) (by show A<w.heap.size;omega)).far (AD w.heap.size 2) (U f) (by show A<w.heap.size;omega)).far (AD w.heap.size 3) (U h) (by show A<w.heap.size;omega);replace b:=qbf (p:=AD w.heap.size 3) (v:=U h) (qbf (p:=AD w.heap.size 2) (v:=U f) (qbf (p:=AD w.heap.size 1) (v:=U d) (qbf (p:=AD w.heap.size 0) (v:=U c) b (jcd _)) (jcd _)) (jcd _)) (jcd _);have t:=a.set (x0:=c) (x1:=d) (x2:=f) (x3:=h);have l:=RW.c0;have m:=RW.c1;have n:=RW.c2;have o:=RW.c3;have k0:=a.c0;have k1:=a.c1;have k2:=a.c2;have k3:=a.c3;have q:=a.f0;have f1:=a.f1;have r:=a.f2;have s:=a.f3;go_wp2_with fail
 have W:=t.c0;have X:=t.c1;have Y:=t.c2;have Z:=t.c3;exact bodyPost_ret (v:=.agg #[U c,U d,U f,U h]) (by simp[results,results196,go_sem,W,X,Y,Z]) rfl ⟨c,d,f,h,rfl,H,x0,I,x1,J,x2,Q,x3,L.out,N.out,P.out,T.out,V,b⟩
end Go.Proofs.YtbfkeoagmajcpaaGreatDoor
