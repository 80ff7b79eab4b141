import Derived.Test.YtbfkeoagmajcpaaGreatDoorKWoA
import Derived.Deep.LoopGhost
import Derived.Test.YtbfkeoagmajcpaaGreatDoorKPSesCom
set_option maxHeartbeats 8000000
set_option maxRecDepth 100000
set_option linter.defProp false
namespace Go.Proofs.YtbfkeoagmajcpaaGreatDoor
open Go.RowKit
variable {G:Np} {Gs Z:Nat->Np} {M:WoM} {S:qe} {W W' W1:WoS} {b i k m n o:Nat} {g:GrS} {w w' w1 w2:Wl}
section
variable {u:qe}
def qfm.few (h:qfm S u):u.waits.length<=S.waits.length:=h.log.2
def qfm.keepid (h:qfm S u):u.id=S.id:=by
 induction h with
 |full _=>rfl
 |none _=>rfl
 |step _ _ _ ih=>exact ih
def qfm.lok (h:qfm S u):(∀x∈S.log,okT x=true)->(∀x∈S.waits,okT x=true)->∀x∈u.log,okT x=true:=by
 induction h with
 |full _=>exact λh _=>h
 |none _=>exact λh _=>h
 |@step S u x h1 h2 _ ih=>
  intro c b;refine ih (λy a=>?_) (λy a=>b y (qrh.1 a).1);rcases jcf.1 (show y∈S.log++[x]from a)with e|e
  .exact c y e
  rw[jcj.1 e];exact b x (qj8 h2).1
variable {t:TxP}
def qy7 (b:t∈S.waits) (a:0<=t.site/\t.site<=3) (c:qz S t=true):qd7 S≠none:=λe=>by
 have:=qyy e t b a.1 a.2;rw[c]at this;cases this
def zu.few (h:zu S t u) (d:j3 S) (f:S.waits.length<=40):u.waits.length<=40:=by
 obtain⟨_,rfl⟩|⟨e,b⟩:=h
 .exact f
 obtain⟨p1,p2,p3,c,l⟩:=qf6 e;by_cases m:S.waits.length<40
 .have:=b.few;simp at this;omega
 have a:qz S t=true:=by
  unfold jf at e;rw[if_neg (by rw[p1];decide),if_neg p2,if_neg p3,if_neg (by
   intro q;obtain⟨x,j,s⟩:=List.any_eq_true.1 q;rw[c x j]at s;cases s),if_neg oe]at e
  by_cases q:40<=S.waits.length/\qz S t=false
  .rw[if_pos q]at e;omega
  cases a:qz S t with
  |true=>rfl
  |false=>exact absurd ⟨oe,a⟩ q
 have k:=(qcg p1).1;cases b with
 |full hf=>exact absurd hf (by show ¬200<=S.log.length;omega)
 |none hn=>exact absurd hn (qy7 (S:={S with waits:=S.waits++[t]}) (jcf.2 (.inr (jcj.2 rfl))) k a)
 |@step _ _ x h1 h2 h3=>
  have w:=h3.few;have n:=qf5 (d.nums.snoc c) (qj8 h2).1;have p:(S.waits++[t]).length=S.waits.length+1:=oi;have r:(qj5 {S with waits:=S.waits++[t]} x).waits.length=(qdv (S.waits++[t]) x).length:=rfl;omega
def zu.keepid (h:zu S t u):u.id=S.id:=by
 obtain⟨_,rfl⟩|⟨_,a⟩:=h
 .rfl
 exact a.keepid
def zu.lok (h:zu S t u) (b:j3 S) (a:∀x∈S.log,okT x=true):∀x∈u.log,okT x=true:=by
 obtain⟨_,rfl⟩|⟨e,c⟩:=h
 .exact a
 obtain⟨p1,_⟩:=qf6 e;refine c.lok a (λx d=>?_);rcases jcf.1 (show x∈S.waits++[t]from d)with q|q
 .exact(b.wt x q).1
 rw[jcj.1 q];exact p1
section
variable {v:WoS}
def WfW.setSite (h:WfW W) (b:j3 u) (c:u.id=(i:Int)) (d:u.waits.length<=40) (e:∀x∈u.log,okT x=true):WfW (setSite W i u):=by
 refine⟨h.n1,h.n4,h.c6,h.at_,λj a=>?_,λj a=>?_,h.net,λj a=>?_,λj a=>?_,h.tj⟩<;>show _<;>by_cases q:j=i
 .subst q;show j3 (jj W.S j u j);rw[qt];exact b
 .show j3 (jj W.S i u j);rw[yq _ _ q];exact h.inv j a
 .subst q;show (jj W.S j u j).id=_;rw[qt];exact c
 .show (jj W.S i u j).id=_;rw[yq _ _ q];exact h.id j a
 .subst q;show (jj W.S j u j).waits.length<=40;rw[qt];exact d
 .show (jj W.S i u j).waits.length<=40;rw[yq _ _ q];exact h.wt j a
 .subst q;show ∀x∈(jj W.S j u j).log,_;rw[qt];exact e
 show ∀x∈(jj W.S i u j).log,_;rw[yq _ _ q];exact h.lok j a
def WfW.send (h:WfW W) (a:g.tj<W.n):WfW (zk W g):=by
 have s:=yb W g;refine⟨by rw[s.n];exact h.n1,by rw[s.n];exact h.n4,by rw[s.c];exact h.c6,by rw[s.n,s.c,s.at_];exact h.at_,by rw[s.n,s.S];exact h.inv,by rw[s.n,s.S];exact h.id,?_,by rw[s.n,s.S];exact h.wt,by rw[s.n,s.S];exact h.lok,λx b=>?_⟩
 .unfold zk;split
  .exact h.net
  show (W.net++[g]).length<=300;simp;omega
 rw[s.n];obtain q|q:=qke b
 .exact h.tj x q
 rw[q];exact a
def WfW.sends:∀(l:List TxP) (W:WoS),WfW W->o<W.n->WfW (zl o l W)
 |[],_,h,_=>h
 |t::l,W,h,ho=>by
  unfold zl;split
  .exact WfW.sends l W h ho
  exact WfW.sends l _ (h.send ho) (by rw[(yb W ⟨o,.tx t⟩).n];exact ho)
def WfW.tell:∀(k:Nat) (W:WoS),WfW W->k<=W.n->WfW (qam t k W)
 |0,_,h,_=>h
 |k+1,W,h,hk=>by
  unfold qam;split
  .exact WfW.tell k W h oe
  exact(WfW.tell k W h oe).send (by rw[(zx t k W).n];show k<W.n;omega)
def WfW.answer (h:WfW W) (j:i<W.n) (a:o<W.n) (b c d e:Int):WfW (qbc W i o b c d e):=
 WfW.sends _ _ (h.setSite ((h.inv i j).knows _) (h.id i j) (h.wt i j) (h.lok i j)) a
def WfW.drop (h:WfW W) (i:Nat):WfW (qai W i):=
 ⟨h.n1,h.n4,h.c6,h.at_,h.inv,h.id,jcn (List.eraseIdx_sublist W.net i).length_le h.net,h.wt,h.lok,λx a=>h.tj x (jdn a)⟩
def WfW.come (h:WfW W) (a:g.tj<W.n) (e:qeo W g v):WfW v:=by
 obtain⟨b,f⟩:=g;cases f with
 |tx t=>
  obtain⟨u,c,rfl⟩:=e;exact h.setSite (c.inv (h.inv b a)) (c.keepid.trans (h.id b a)) (c.few (h.inv b a) (h.wt b a)) (c.lok (h.inv b a) (h.lok b a))
 |ask site v0 v1 v2 v3=>
  have d:if 0<=site/\site<(W.n:Int)then v=qbc W b site.toNat v0 v1 v2 v3 else v=W:=e
  by_cases q:0<=site/\site<(W.n:Int)
  .rw[if_pos q]at d;rw[d];exact h.answer a oe v0 v1 v2 v3
  rw[if_neg q]at d;rw[d];exact h
def WfW.deliver (h:WfW W) (a:zy W i v):WfW v:=by
 obtain⟨g,b,c⟩:=a;exact(h.drop i).come (h.tj g (jcq b)) c
def qu6:GrS->Nat
 |⟨_,.tx _⟩=>1
 |⟨_,.ask _ _ _ _ _⟩=>302
def qjh (l:List GrS):Nat:=(l.map qu6).sum
def qf0 (o:Nat):∀(l:List TxP) (W:WoS),W.net.length<=300->qjh (zl o l W).net+W.net.length<=qjh W.net+300
 |[],W,h=>by show qjh W.net+_<=_;omega
 |t::l,W,h=>by
  unfold zl;split
  .exact qf0 o l W h
  by_cases q:300<=W.net.length
  .have e:(zk W ⟨o,.tx t⟩).net=W.net:=by unfold zk;rw[if_pos q]
   have:=qf0 o l (zk W ⟨o,.tx t⟩) (by rw[e];exact h);rw[e]at this;exact this
  have e:=q1h (W:=W) (g:=⟨o,.tx t⟩) oe;have:=qf0 o l (zk W ⟨o,.tx t⟩) (by rw[e];simp;omega);rw[e]at this;simp[qjh,qu6]at this ⊢;omega
def qjk (h:WfW W) (b:zy W 0 v):qjh v.net<qjh W.net:=by
 obtain⟨⟨a,j⟩,c,k⟩:=b;obtain⟨r,d⟩:∃r,W.net=⟨a,j⟩::r:=by
  cases hn:W.net with
  |nil=>rw[hn]at c;simp at c
  |cons x r=>
   rw[hn]at c;simp at c;exact⟨r,by rw[c]⟩
 have b:(qai W 0).net=r:=by show W.net.eraseIdx 0=r;rw[d];rfl
 have l:r.length+1<=300:=by have:=h.net;rw[d]at this;simpa using this
 cases j with
 |tx t=>
  obtain⟨u,_,rfl⟩:=k;show qjh (qai W 0).net<_;rw[b,d];simp[qjh,qu6]
 |ask site v0 v1 v2 v3=>
  have f:if 0<=site/\site<((qai W 0).n:Int)then v=qbc (qai W 0) a site.toNat v0 v1 v2 v3 else v=qai W 0:=k
  by_cases q:0<=site/\site<((qai W 0).n:Int)
  .rw[if_pos q]at f;have:=qf0 site.toNat (qd6 ((qai W 0).S a) v0 v1 v2 v3) (setSite (qai W 0) a (vp ((qai W 0).S a) site.toNat v0 v1 v2 v3)) (by show (qai W 0).net.length<=300;rw[b];omega);rw[f];have e:(setSite (qai W 0) a (vp ((qai W 0).S a) site.toNat v0 v1 v2 v3)).net=r:=b;rw[e]at this;show qjh (zl _ _ _).net<_;rw[d];simp[qjh,qu6]at this ⊢;omega
  rw[if_neg q]at f;rw[f,b,d];simp[qjh,qu6]
end
end
section
def q69 (n:Nat) (g:GrS):Prop:=
 match g.body with
 |.tx t=>okT t=true
 |.ask s _ _ _ _=>0<=s/\s<(n:Int)
def qeq (W:WoS):Prop:=∀g∈W.net,q69 W.n g
variable {A B:WoS}
section
variable {l:WoS}
def qeq.send (h:qeq W) (a:q69 W.n g):qeq (zk W g):=λx b=>by
 rw[(yb W g).n];obtain q|q:=qke b
 .exact h x q
 rw[q];exact a
def qeq.drop (h:qeq W) (i:Nat):qeq (qai W i):=λx a=>h x (jdn a)
def qeq.tell (h:qeq W) {t:TxP} (a:okT t=true) (k:Nat):qeq (qam t k W):=λx b=>by
 rw[(zx t k W).n];obtain q|⟨_,q⟩:=qm3 k b
 .exact h x q
 obtain⟨d,c⟩:=x;have q:c=.tx t:=q;subst q;exact a
def qeq.come (h:qeq W) (d:WfW W) (e:g.tj<W.n) (a:qeo W g l):qeq l:=by
 obtain⟨b,c⟩:=g;cases c with
 |tx t=>
  obtain⟨o,_,rfl⟩:=a;exact h
 |ask s v0 v1 v2 v3=>
  have a:if 0<=s/\s<(W.n:Int)then l=qbc W b s.toNat v0 v1 v2 v3 else l=W:=a
  split at a
  .rw[a];intro x f;show q69 (qbc W b s.toNat v0 v1 v2 v3).n x;rw[show (qbc W b s.toNat v0 v1 v2 v3).n=W.n from(qds _ _ _).n];obtain q|⟨_,t,j,_,q⟩:=qp9 _ _ f
   .exact h x q
   obtain⟨k,c⟩:=x;have q:c=.tx t:=q;subst q;exact d.lok b e t (jdq.1 j).1
  rw[a];exact h
def qeq.deliver (h:qeq W) (a:WfW W) (b:zy W i l):qeq l:=by
 obtain⟨g,c,d⟩:=b;exact(h.drop i).come (a.drop i) (a.tj g (jcq c)) d
def qeo.det (h:qeo W g A) (k:qeo W g B):A=B:=by
 obtain⟨a,b⟩:=g;cases b with
 |tx t=>
  obtain⟨e,c,rfl⟩:=h;obtain⟨f,d,rfl⟩:=k;rw[zu.det c d]
 |ask s v0 v1 v2 v3=>
  have h:if 0<=s/\s<(W.n:Int)then A=qbc W a s.toNat v0 v1 v2 v3 else A=W:=h
  have k:if 0<=s/\s<(W.n:Int)then B=qbc W a s.toNat v0 v1 v2 v3 else B=W:=k
  split at h
  .rename_i q;rw[if_pos q]at k;rw[h,k]
  rename_i q;rw[if_neg q]at k;rw[h,k]
def zy.det (h:zy W i A) (k:zy W i B):A=B:=by
 obtain⟨g,b,c⟩:=h;obtain⟨e,a,d⟩:=k;rw[b]at a;cases a;exact c.det d
end
def qaf.det (h:qaf W A):qaf W B->A=B:=by
 induction h with
 |none h0=>
  intro k;cases k with
  |none _=>rfl
  |step h1 _ _=>exact absurd h0 h1
 |step h1 h2 _ ih=>
  intro k;cases k with
  |none h0=>exact absurd h0 h1
  |step _ k2 k3=>
   rw[h2.det k2]at ih;exact ih k3
def qdo.det {k:Nat} (h:qdo k m W A):∀{B:WoS},qdo k m W B->A=B:=by
 induction h with
 |zero=>
  intro B q;cases q;rfl
 |self _ e ih=>
  intro B q;cases q with
  |self q _=>exact ih q
  |ask _ n _=>exact absurd e n
 |ask _ n h3 ih=>
  intro B q;cases q with
  |self _ e=>exact absurd e n
  |ask q _ q3=>
   have:=ih q;subst this;exact h3.det q3
def qc1.det (h:qc1 m W A):∀{B:WoS},qc1 m W B->A=B:=by
 induction h with
 |zero=>
  intro B q;cases q;rfl
 |next _ h2 ih=>
  intro B q;cases q with
  |next q q2=>
   have:=ih q;subst this;exact h2.det q2
def qg9.det (h:qg9 W A) (k:qg9 W B):A=B:=by
 obtain⟨j,a,b⟩:=h;obtain⟨e,c,d⟩:=k;have:=a.det c;subst this;exact b.det d
end
section
open _root_.Go.Proofs.Tryz
def q2d (l:List GrM) (m:GrM):qap (l++[m])=qap l++qpe m:=by simp[qap]
def qr2 (m:GrM):∀u∈qpe m,u.oneCell'=true:=by
 intro u a;simp[qpe]at a;obtain rfl|rfl:=a<;>rfl
def quo:(prog.info? 169).map (λi=>(i.zero,i.size,i.bytes))=some (some (.agg #[U 0,.slice none 0 0]),2,32):=oh
def qpn (W:Wl) (n:Nat) (c:W.heap.size=n) (a:Lv) (T:Tp):∀j u,a[j]?=some u->(W.alloc (.cells a.toArray T)).cell? (((AD n 0):Addr).add j)=some u:=by
 subst c;exact World.news_of_block (heap_alloc_new W (.cells a.toArray T))
section
variable {wE:Wl} {g cap:Nat} {m:GrM}
def PWo.pushed (h:PWo w b M W Gs) (z:Bw w w2) (E:m.Ok w) (H:(∃x∈M.l,x.blk=m.blk)\/¬qmp b M (W.n+W.c) Gs m.blk)
 (own:wE.ownsRow 0 169 2 (.slice (PT g) (M.l.length+1) cap) (M.l.length+1) (qap M.l++qpe m)) (A:w2.grownBy wE M.nv.ownBlock) (t:M.nv.ownBlock=some g\/w.heap.size<=g) (I:g<wE.heap.size):
 PWo (wE.setCell (AD b 2) (.slice (PT g) (M.l.length+1) cap)) b {M with nv:=.slice (PT g) (M.l.length+1) cap,l:=M.l++[m]} {W with net:=W.net++[m.g]} Gs:=by
 have R:=h.box.lt;have s2:=z.size;have S:=A.size;have u:(Value.slice (PT g) (M.l.length+1) cap).ownBlock=some g:=rfl;have J:=E.own.lt;have F:g≠b:=by
  obtain e|e:=t
  .exact λq=>h.sb.2.2 (by rw[e,q])
  omega
 have K:∀k,k<w.heap.size->M.nv.ownBlock≠some k->wE.heap[k]?=w.heap[k]?:=λk d B=>(A.block k oe (λe=>B e.symm)).trans (z.block k d);have y:∀k,k<w.heap.size->M.nv.ownBlock≠some k->k≠b->(wE.setCell (AD b 2) (.slice (PT g) (M.l.length+1) cap)).heap[k]?=w.heap[k]?:=λk d B L=>(jce _ _ _ _ (λe=>L e)).trans (K k d B)
 have v:(wE.setCell (AD b 2) (.slice (PT g) (M.l.length+1) cap)).heap.size=wE.heap.size:=oF;have C:=h.ltF;have p:m.blk≠b/\M.pv.ownBlock≠some m.blk/\M.cv.ownBlock≠some m.blk/\M.nv.ownBlock≠some m.blk/\(∀i,i<W.n+W.c->¬Gs i m.blk):=by
  obtain⟨x,o,e⟩|e:=H
  .have:=h.sg x o;rw[e]at this;exact⟨this.1,this.2.1,this.2.2.1,this.2.2.2,(h.fam.free m.blk (.inr (.inr (.inr (.inr ⟨x,o,e⟩))))).2⟩
  exact⟨λq=>e (.inl (.inl q)),λq=>e (.inl (.inr (.inl q))),λq=>e (.inl (.inr (.inr (.inl q)))),λq=>e (.inl (.inr (.inr (.inr (.inl q))))),λi T q=>e (.inr ⟨i,T,q⟩)⟩
 have N:m.blk≠g:=by
  obtain e|e:=t
  .exact λq=>p.2.2.2.1 (by rw[e,q])
  omega
 refine⟨?_,?_,?_,?_,?_,λx o=>?_,?_,⟨h.sb.1,h.sb.2.1,λe=>?_⟩,λk=>⟨λe=>⟨(h.sr k).1 e|>.1,λa=>?_⟩,λe a=>?_⟩,λx o=>?_⟩
 .have O:=(h.box.later z).grown A (λe=>h.sb.2.2 e.symm);exact O.set 2 _ oi
 .exact qf h.pr (λk e=>y k (h.pr.lt k e).2 ((h.sr k).1 e).2 (λq=>h.sb.1 (by rw[e,q])))
 .exact qf h.cr (λk e=>y k (h.cr.lt k e).2 ((h.sr k).2 e) (λq=>h.sb.2.1 (by rw[e,q])))
 .show World.ownsRow _ 0 _ 2 _ (M.l++[m]).length (qap (M.l++[m]));rw[q2d,jcl];exact qf own (λk e=>jce _ _ _ _ (λq=>F (by rw[u]at e;injection e with e;exact e.trans q)))
 .show (M.l++[m]).map (·.g)=W.net++[m.g];rw[jdb,h.nl];rfl
 .obtain q|q:=jcf.1 o
  .have:=h.sg x q;exact(h.gr x q).kept (y _ (C _ (.inr (.inr (.inr (.inr ⟨x,q,rfl⟩))))) this.2.2.2 this.1) (by rw[v];omega)
  rw[jcj.1 q];exact E.kept (y _ J p.2.2.2.1 p.1) (by rw[v];omega)
 .have f:=h.fam.tj (X':=qfw b M) (w':=wE.setCell (AD b 2) (.slice (PT g) (M.l.length+1) cap)) (λj k D e=>y k (h.ltG D e) (λq=>(h.fam.free k (.inr (.inr (.inr (.inl q))))).2 j D e) (λq=>(h.fam.free k (.inl q)).2 j D e)) (by rw[v];omega) (λk d=>⟨.inl d,by rw[v];have:=C k d;omega⟩);refine⟨f.is,f.apart,λk d=>?_,f.half⟩
  .obtain e|e|e|e|⟨x,o,e⟩:=d
   .exact f.free k (.inl e)
   .exact f.free k (.inr (.inl e))
   .exact f.free k (.inr (.inr (.inl e)))
   .rw[u]at e;injection e with e;subst e;obtain q|q:=t
    .exact f.free g (.inr (.inr (.inr (.inl q))))
    exact⟨by rw[v];exact I,λi T P=>by have:=h.ltG T P;omega⟩
   obtain q|q:=jcf.1 o
   .exact f.free k (.inr (.inr (.inr (.inr ⟨x,q,e⟩))))
   rw[jcj.1 q]at e;subst e;exact⟨by rw[v];omega,p.2.2.2.2⟩
 .rw[u]at e;injection e with e;exact F e
 .rw[u]at a;injection a with a;subst a;obtain q|q:=t
  .exact((h.sr g).1 e).2 q
  have:=(h.pr.lt g e).2;omega
 .rw[u]at a;injection a with a;subst a;obtain q|q:=t
  .exact(h.sr g).2 e q
  have:=(h.cr.lt g e).2;omega
 have Q:some g≠some x.blk->(Value.slice (PT g) (M.l.length+1) cap).ownBlock≠some x.blk:=λq=>q;obtain q|q:=jcf.1 o
 .have s:=h.sg x q;refine⟨s.1,s.2.1,s.2.2.1,Q (λe=>?_)⟩;injection e with e;obtain r|r:=t
  .exact s.2.2.2 (by rw[r,e])
  have:=C x.blk (.inr (.inr (.inr (.inr ⟨x,q,rfl⟩))));omega
 rw[jcj.1 q];exact⟨p.1,p.2.1,p.2.2.1,λe=>by rw[u]at e;injection e with e;exact N e.symm⟩
def PWo.lostBox (h:PWo w b M W Gs) (d:Bw w w2) (x:Int):PWo (w2.setCell (AD b 3) (U x)) b M {W with lost:=x} Gs:=by
 have s2:=d.size;have a:∀k,k<w.heap.size->k≠b->(w2.setCell (AD b 3) (U x)).heap[k]?=w.heap[k]?:=λk c n=>(jce _ _ _ _ (λe=>n e)).trans (d.block k c)
 have f:(w2.setCell (AD b 3) (U x)).heap.size=w2.heap.size:=oF;exact⟨(h.box.later d).set 3 _ oi,qf h.pr (λk e=>a k (h.pr.lt k e).2 (λq=>h.sb.1 (by rw[e,q]))),qf h.cr (λk e=>a k (h.cr.lt k e).2 (λq=>h.sb.2.1 (by rw[e,q]))),qf h.nr (λk e=>a k (h.nr.lt k e).2 (λq=>h.sb.2.2 (by rw[e,q]))),h.nl,λx i=>(h.gr x i).kept (a _ (h.ltF _ (.inr (.inr (.inr (.inr ⟨x,i,rfl⟩))))) (h.sg x i).1) (by rw[f];exact s2),h.fam.tj (λj k l e=>a k (h.ltG l e) (λq=>(h.fam.free k (.inl q)).2 j l e)) (by rw[f];exact s2) (λk c=>⟨.inl c,by rw[f];have:=h.ltF k c;omega⟩),h.sb,h.sr,h.sg⟩
def qby (w:Wl) (b:Nat) (M:WoM) (Gs:Nat->Np) (Z:Np) (W':WoS) (w':Wl):Prop:=
 ∃nv' l',PWo w' b {M with nv:=nv',l:=l'} W' Gs/\(∀k,nv'.ownBlock=some k->M.nv.ownBlock=some k\/w.heap.size<=k)/\(∀x∈l',x∈M.l\/Z x.blk)/\qc (λk=>k=b\/M.nv.ownBlock=some k) w w'
def qby.post {w':Wl} {z:WoS} {Z:Np} (h:qby w b M Gs Z z w') (a:∀k,G k↔qmp b M (W.n+W.c) Gs k) (j:z.n=W.n) (l:z.c=W.c) (o:∀k,Z k->G k\/w.heap.size<=k):vh w b G z w':=by
 obtain⟨v,y,p,r,s,d⟩:=h;refine⟨_,⟨_,Gs,p,λ_=>jdl⟩,λk f=>?_,⟨d.os,d.tape,d.output,d.size,λk f t=>d.block k f (λe=>t ((a k).2 (.inl (e.elim .inl (λq=>.inr (.inr (.inr (.inl q))))))))⟩⟩;rw[j,l]at f;obtain(e|e|e|e|⟨x,u,e⟩)|⟨i,A,e⟩:=f
 .exact .inl ((a k).2 (.inl (.inl e)))
 .exact .inl ((a k).2 (.inl (.inr (.inl e))))
 .exact .inl ((a k).2 (.inl (.inr (.inr (.inl e)))))
 .obtain q|q:=r k e
  .exact .inl ((a k).2 (.inl (.inr (.inr (.inr (.inl q))))))
  exact .inr q
 .obtain q|q:=s x u
  .exact .inl ((a k).2 (.inl (.inr (.inr (.inr (.inr ⟨x,q,e⟩))))))
  rw[e]at q;exact o k q
 exact .inl ((a k).2 (.inr ⟨i,A,e⟩))
def PWo.later (h:PWo w b M W Gs) (a:Bw w w2):PWo w2 b M W Gs:=
 ⟨h.box.later a,qf h.pr (λk e=>a.block k (h.pr.lt k e).2),qf h.cr (λk e=>a.block k (h.cr.lt k e).2),qf h.nr (λk e=>a.block k (h.nr.lt k e).2),h.nl,λm c=>(h.gr m c).kept (a.block _ (h.gr m c).own.lt) a.size,h.fam.tj (λ_ k d e=>a.block k (h.ltG d e)) a.size (λk e=>⟨.inl e,jci (h.ltF k e) a.size⟩),h.sb,h.sr,h.sg⟩
def qby.none (h:PWo w b M W Gs) (a:Bw w w2) (Z:Np):qby w b M Gs Z W w2:=⟨M.nv,M.l,h.later a,λ_ e=>.inl e,λ_ c=>.inl c,qc.ofBelow a⟩
end
def qou {b:Nat} {M:WoM} {W:WoS} {Gs:Nat->Np} (w:Wl) (h:PWo w b M W Gs) (m:GrM) (p:m.Ok w) (s:(∃x∈M.l,x.blk=m.blk)\/¬qmp b M (W.n+W.c) Gs m.blk):
 Ca 118 #[PP b,.agg #[U m.g.tj,.slice (PT m.blk) m.S.size m.cap]] w λe w'=>e=.returned (.tuple #[])/\qby w b M Gs (λk=>k=m.blk) (zk W m.g) w':=by
 have i:=hd3 h p s;have B:M.l.length=W.net.length:=by rw[<-h.nl];simp
 obtain⟨J,K,j,r⟩:=qq h.nr;have Y:=h.box.lt;have t:=boxed (jcc _ w) (.cells #[U m.g.tj,.slice (PT m.blk) m.S.size m.cap] 169);have a:=h.box.later t;rw[j]at a;have Z:=a.c 2;have c3:=a.c 3;have f2:=a.f 2;have f3:=a.f 3;by_cases o:300<=W.net.length
 .have q:300<=(M.l.length:Int):=oe;have u:Hid (zk W m.g={W with lost:=wrap64 (W.lost+1)}):=if_pos o;clear h p s r B o;go_enter func118,ntmps118;go_wp2_with fail
  refine bodyPost_ret (v:=.tuple #[]) (results_none rfl _ _ _) rfl ⟨rfl,?_⟩;rw[u.out];exact⟨M.nv,M.l,(i.out.1.lostBox (jcc _ w) (wrap64 (W.lost+1))).later (boxed (jcc _ _) _),λ_ e=>.inl e,λ_ y=>.inl y,(qc.setCell _ _ _ (.inl rfl)).trans (qc.ofBelow (boxed (jcc _ _) _))⟩
 have q:¬300<=(M.l.length:Int):=oe;have u:Hid (zk W m.g={W with net:=W.net++[m.g]}):=if_neg o;have C:Hid (M.l.length<300):=by show _<_;omega
 obtain⟨L,A,N,O,P⟩:=info_parts quo;have D:=(boxed t.drew (.cells #[U m.g.tj,.slice (PT m.blk) m.S.size m.cap] 169));have E:=qf h.nr (λk e=>t.drew.block k (h.nr.lt k e).2);rw[j]at E;have d:=hd1 j;have Q:=hd1 h.sb.2.2;clear h p s r B o j;go_enter func118,ntmps118;go_wp2_with fail
 go_region_law (refine step_append_lies _ rfl (.tmp 21) (.tmp 23) 138 rfl 0 169 L (.agg #[U 0,.slice none 0 0]) 2 32 underlying138 A N O P rfl (by decide) (.slice J M.l.length K) M.l.length (qap M.l) (by simp[Act.eval]) (E.alloc _) (AD (w.heap.size+1) 0) 1 1 [U m.g.tj,.slice (PT m.blk) m.S.size m.cap] (by simp[Act.eval]) rfl (qpn _ _ (by simp) [U m.g.tj,.slice (PT m.blk) m.S.size m.cap] 169) (qr2 m) (by decide) (by have:=C.out;simp only[maxLen];omega) (by have:=C.out;omega) (by omega) _ rfl ?_
                intro F R wE T z H V;have I:qd wE b _:=(a.later (boxed (jcc _ _) _).drew).grown z (λe=>Q.out (by rw[d.out];exact e.symm));have e2:=I.c 2;have f2E:=I.f 2)
 all_goals
  go_wp2_with fail
  go_end0;refine⟨rfl,?_⟩;rw[u.out];refine⟨.slice (PT F) (M.l.length+1) R,M.l++[m],i.out.1.pushed D i.out.2.1 i.out.2.2 T (by rw[d.out];exact z) ?_ V,λk e=>?_,λx y=>?_,?_⟩
  .rw[d.out];obtain e|e:=H
   .exact .inl e
   exact .inr (by rw[e];simp;omega)
  .rw[d.out];have X:F=k:=jcu e;subst X;obtain e|e:=H
   .exact .inl e
   exact .inr (by rw[e];simp;omega)
  .obtain q|q:=jcf.1 y
   .exact .inl q
   exact .inr (by rw[jcj.1 q])
  refine((qc.ofBelow D).trans (qc.grown z (λk e=>.inr (by rw[d.out];exact e)))).trans (qc.setCell _ _ _ (.inl rfl))
section
variable {A:Nat->Np} {Z:Np}
def qby.from (a:Bw w w1) (h:qby w1 b M A Z W' w'):qby w b M A Z W' w':=by
 obtain⟨c,d,f,g,i,j⟩:=h;exact⟨c,d,f,λk e=>(g k e).elim .inl (λq=>.inr (jcn a.size q)),i,(qc.ofBelow a).trans j⟩
def qby.weak {a:Np} (h:qby w b M A Z W' w') (c:∀k,Z k->a k):qby w b M A a W' w':=by
 obtain⟨d,e,f,g,i,j⟩:=h;exact⟨d,e,f,g,λx l=>(i x l).elim .inl (λq=>.inr (c _ q)),j⟩
def qby.size (h:qby w b M A Z W' w'):w.heap.size<=w'.heap.size:=by
 obtain⟨_,_,_,_,_,a⟩:=h;exact a.size
def qby.block (h:qby w b M A Z W' w') {k:Nat} (a:k<w.heap.size) (c:k≠b) (d:M.nv.ownBlock≠some k):w'.heap[k]?=w.heap[k]?:=by
 obtain⟨_,_,_,_,_,f⟩:=h;exact f.block k a (λe=>e.elim c d)
def qby.next {i:WoS} (h:qby w b M A Z W' w1) (a:∀f g,PWo w1 b {M with nv:=f,l:=g} W' A->qby w1 b {M with nv:=f,l:=g} A Z i w'):qby w b M A Z i w':=by
 obtain⟨f,g,m,j,n,c⟩:=h;obtain⟨o,p,r,t,u,d⟩:=a f g m;have s:=c.size;refine⟨o,p,r,λk e=>?_,λx v=>?_,?_⟩
 .obtain q|q:=t k e
  .exact j k q
  exact .inr oe
 .obtain q|q:=u x v
  .exact n x q
  exact .inr q
 refine⟨d.os.trans c.os,d.tape.trans c.tape,d.output.trans c.output,jcn s d.size,λk y a=>?_⟩;refine(d.block k oe (λe=>?_)).trans (c.block k y a);obtain e|e:=e
 .exact a (.inl e)
 obtain q|q:=j k e
 .exact a (.inr q)
 omega
end
def qoq {b:Nat} {M:WoM} {W:WoS} {A:Nat->Np} (o:Nat) (c d wall f j l m n:Int) (ws:List Wr) (a:Oa) (H:Nat) (w:Wl) (h:PWo w b M W A) (s:qr w a H ws) (y:jt c d wall f j l m n ws=true):
 Ca 160 #[PP b,U o,.agg (List.toArray (T9 c d wall f j l m n a ws.length H))] w λe w'=>e=.returned (.tuple #[])/\qby w b M A (λk=>w.heap.size<=k) (zk W ⟨o,.tx ⟨c,d,wall,f,j,l,m,n,ws⟩⟩) w':=by
 have p:=hd1 h;have r:=boxed (jcc _ w) (.cells (List.toArray (T9 c d wall f j l m n a ws.length H)) 122);have t:=qw5 (s.later r) y;clear h s;go_enter func160,ntmps160;go_wp2_with fail
 refine t.mono ?_;rintro e w2 ⟨S,g,u,rfl,⟨z,_⟩,B,O,C⟩;have v:=qa r C;have D:=jcn r.size O.base;have x:=p.out.later v;have E:Hid (Ca 118 #[PP b,.agg #[U o,.slice (PT g) S.size u]] w2 λe w'=>e=.returned (.tuple #[])/\qby w2 b M A (λk=>k=g) (zk W ⟨o,.tx ⟨c,d,wall,f,j,l,m,n,ws⟩⟩) w'):=
  qou w2 x ⟨⟨o,.tx ⟨c,d,wall,f,j,l,m,n,ws⟩⟩,g,u,S⟩ ⟨O.mono (jcw _),B,z⟩ (.inr (λe=>by
   obtain q|⟨i,I,q⟩:=e
   .have:g<w.heap.size:=p.out.ltF g q;omega
   have:g<w.heap.size:=p.out.ltG I q;omega))
 clear t x;go_wp2_with fail
 refine E.out.mono ?_;rintro e G ⟨rfl,F⟩;go_wp2_with fail
 go_end0;exact⟨rfl,(F.from v).weak (λk e=>by rw[e];exact D)⟩
def q5o {b:Nat} {M:WoM} {W:WoS} {A:Nat->Np} (d f wall g i j o p:Int) (ws:List Wr) (a:Oa) (cap:Nat) (w:Wl) (h:PWo w b M W A) (P:W.n<=4) (Q:qr w a cap ws) (R:∀k G,ws≠[]->a=some (AD k G)->k≠b/\M.nv.ownBlock≠some k) (S:jt d f wall g i j o p ws=true):
 Ca 125 #[PP b,.agg (List.toArray (T9 d f wall g i j o p a ws.length cap))] w λe w'=>e=.returned (.tuple #[])/\qby w b M A (λk=>w.heap.size<=k) (qam ⟨d,f,wall,g,i,j,o,p,ws⟩ W.n W) w':=by
 have v:=hd4 h Q R S;have E:=boxed (jcc _ w) (.cells (List.toArray (T9 d f wall g i j o p a ws.length cap)) 122);have F:=qd.new (w:=w) (T:=122) (T9 d f wall g i j o p a ws.length cap) rfl;obtain⟨pa,pc,V,r⟩:=qq h.pr;have H:=h.box.later E;rw[V]at H;have X:=H.c 0;have hlt:=h.box.lt;obtain⟨w1,C⟩:∃w1,w.alloc (.cells (List.toArray (T9 d f wall g i j o p a ws.length cap)) 122)=w1:=⟨_,rfl⟩;have t:Hid (Bw w w1/\qd w1 w.heap.size (T9 d f wall g i j o p a ws.length cap)/\w.heap.size<w1.heap.size):=by
  rw[C]at E;have Y:qd w1 w.heap.size (T9 d f wall g i j o p a ws.length cap):=by rw[<-C];exact F
  exact⟨E,Y,Y.lt⟩
 have HN:=hd1 P;rw[C]at X;clear h Q R S F r V E P;go_enter func125,ntmps125;go_wp2_with fail
 try rw[C]
 clear X H C;go_loopw [10] (λiv wr=>∃(k:Nat) (z:Int),k<=W.n/\z=k/\iv=U z/\Hid (qby w1 b M A (λq=>w.heap.size<=q) (qam ⟨d,f,wall,g,i,j,o,p,ws⟩ k W) wr)) (λiv _=>W.n-(intOf iv).toNat)
 case atStart=>exact⟨0,0,oe,rfl,rfl,qby.none (v.out.1.later t.out.1) (jcc _ _) _⟩
 obtain⟨k,z,hk,hz,rfl,y⟩:=hrel;have u:=hd1 hz;by_cases hlt2:k<W.n
 .have g1:z<(W.n:Int):=oe;have g3:0<=z:=oe;have g4:z<4:=by have:=HN.out;omega
  have I:w.heap.size≠b/\M.nv.ownBlock≠some w.heap.size:=⟨oe,λe=>by have:=(v.out.1.nr.lt _ e).2;omega⟩;have F:=t.out.2.1.kept (y.out.block t.out.2.2 I.1 I.2) y.out.size;obtain⟨x0,x1,x2,x3,x4,x5,x6,x7,x8⟩:=F.c9;clear hz I;by_cases hs:z=d
  .have J:Hid (qam ⟨d,f,wall,g,i,j,o,p,ws⟩ (k+1) W=qam ⟨d,f,wall,g,i,j,o,p,ws⟩ k W):=if_pos (u.out.symm.trans hs);go_wp2_with fail
   go_roundw
   case rel=>exact⟨k+1,z+1,oe,by have:=u.out;omega,oI,by show qby _ _ _ _ _ _ _;rw[J.out];exact y.out⟩
   simp[intOf];have:=u.out;omega
  have J:Hid (qam ⟨d,f,wall,g,i,j,o,p,ws⟩ (k+1) W=zk (qam ⟨d,f,wall,g,i,j,o,p,ws⟩ k W) ⟨k,.tx ⟨d,f,wall,g,i,j,o,p,ws⟩⟩):=if_neg (λe=>hs (u.out.trans e));obtain⟨nv',l',h1,K,h3,B⟩:=y.out;have hWr:qr wr a cap ws:=qr.kept (m:=⟨⟨d,f,wall,g,i,j,o,p,ws⟩,a,cap⟩) (v.out.2.1.later t.out.1) (λq e=>by
   have lq:=qr.blk_lt (m:=⟨⟨d,f,wall,g,i,j,o,p,ws⟩,a,cap⟩) v.out.2.1 q e;obtain⟨e1,G,e2⟩:=e;have:=v.out.2.2.1 q G e1 e2;exact y.out.block (jci lq t.out.1.size) this.1 this.2)
  have L:=qoq k d f wall g i j o p ws a cap wr h1 hWr v.out.2.2.2;rw[<-u.out]at L;have HX:Hid (∀nv l,PWo wr b {M with nv:=nv,l:=l} (qam ⟨d,f,wall,g,i,j,o,p,ws⟩ k W) A->True):=λ_ _ _=>trivial
  have SY:Hid (Ca 160 #[PP b,U z,.agg (List.toArray (T9 d f wall g i j o p a ws.length cap))] wr λe w'=>e=.returned (.tuple #[])/\qby w1 b M A (λq=>w.heap.size<=q) (zk (qam ⟨d,f,wall,g,i,j,o,p,ws⟩ k W) ⟨k,.tx ⟨d,f,wall,g,i,j,o,p,ws⟩⟩) w'):=L.mono λe w' ⟨he,N⟩=>⟨he,by
   obtain⟨nv2,l2,g1',g2',g3',D⟩:=N;have s:=B.size;have s1:=t.out.1.size;refine⟨nv2,l2,g1',λq e=>?_,λx hx=>?_,?_⟩
   .obtain r|r:=g2' q e
    .exact K q r
    exact .inr oe
   .obtain r|r:=g3' x hx
    .exact h3 x r
    exact .inr oe
   refine⟨D.os.trans B.os,D.tape.trans B.tape,D.output.trans B.output,jcn s D.size,λq hq O=>?_⟩;refine(D.block q oe (λe=>?_)).trans (B.block q hq O);obtain e|e:=e
   .exact O (.inl e)
   obtain r|r:=K q e
   .exact O (.inr r)
   omega⟩
  clear L HX h1 K h3 B hWr;go_wp2_with fail
  refine SY.out.mono ?_;rintro e w3 ⟨rfl,N⟩;clear SY x0 x1 x2 x3 x4 x5 x6 x7 x8;go_wp2_with fail
  go_roundw
  case rel=>exact⟨k+1,z+1,oe,by have:=u.out;omega,oI,by show qby _ _ _ _ _ _ _;rw[J.out];exact N⟩
  simp[intOf];have:=u.out;omega
 have g1:¬z<(W.n:Int):=oe;have e:k=W.n:=oe;subst e;go_wp2_with fail
 go_end0;exact⟨rfl,y.out.from t.out.1⟩
end
section
section
variable {ps ps':Nat->qfr} {X:Np}
def zh.step2X (h:zh w n ps Z X o NoY) {i j:Nat} (hi:i<n) (C:j<n) {p q:qfr} {Y:Np} (P:qfx p q w (Z i) (Z j) Y w') (Q:∀y,q.is w' y->∀k,Y k->¬y k) (R:ps' i=p) (S:ps' j=q) (T:∀m,m<n->m≠i->m≠j->ps' m=ps m):∃H,zh w' n ps' H X o NoY/\(∀m k,H m k->Z m k\/w.heap.size<=k)/\jg X w w'/\qc (λk=>Z i k\/Z j k) w w'/\∀m k,m<n->Y k->w.heap.size<=k/\k<w'.heap.size/\¬H m k:=by
 obtain⟨D,y,p1,N,p2,I,O,E,u⟩:=P;refine⟨λm=>if m=i then D else if m=j then y else Z m,⟨λm s=>?_,λa b k J K L c r=>?_,λk c=>⟨jci (h.free k c).1 u.size,λm s d=>?_⟩,λk c=>c.elim⟩,λm k c=>?_,⟨u.os,u.tape,u.output,u.size,λk c=>u.block k (h.free k c).1 (λe=>e.elim ((h.free k c).2 i hi) ((h.free k c).2 j C))⟩,u,λm k s c=>⟨(E k c).1,(E k c).2.1,λd=>?_⟩⟩
 .by_cases g:m=i
  .rw[if_pos g,g,R];exact p1
  by_cases l:m=j
  .rw[if_neg g,if_pos l,l,S];exact N
  rw[if_neg g,if_neg l,T m s g l];exact(ps m).kept _ _ _ (h.is m s) (λk c=>u.block k ((ps m).lt _ _ (h.is m s) k c) (λe=>by
   obtain e|e:=e
   .exact h.apart m i k s hi g c e
   exact h.apart m j k s C l c e)) u.size
 .have F:∀m,m<n->m≠i->m≠j->Z m k->¬D k/\¬y k:=λm s g l d=>by
   have V:=(ps m).lt _ _ (h.is m s) k d;constructor
   .intro e;obtain t|t:=p2 k e
    .exact h.apart m i k s hi g d t
    omega
   intro e;obtain t|t:=I k e
   .exact h.apart m j k s C l d t
   omega
  by_cases z:a=i
  .rw[if_pos z]at c;have v:b≠i:=λe=>L (z.trans e.symm);rw[if_neg v]at r;by_cases x:b=j
   .rw[if_pos x]at r;exact O k c r
   rw[if_neg x]at r;exact(F b K v x r).1 c
  rw[if_neg z]at c;by_cases A:a=j
  .rw[if_pos A]at c;have x:b≠j:=λe=>L (A.trans e.symm);by_cases v:b=i
   .rw[if_pos v]at r;exact O k r c
   rw[if_neg v,if_neg x]at r;exact(F b K v x r).2 c
  rw[if_neg A]at c;by_cases v:b=i
  .rw[if_pos v]at r;exact(F a J z A c).1 r
  rw[if_neg v]at r;by_cases x:b=j
  .rw[if_pos x]at r;exact(F a J z A c).2 r
  rw[if_neg x]at r;exact h.apart a b k J K L c r
 .have f:=h.free k c;by_cases g:m=i
  .rw[if_pos g]at d;obtain t|t:=p2 k d
   .exact f.2 i hi t
   have:=f.1;omega
  rw[if_neg g]at d;by_cases l:m=j
  .rw[if_pos l]at d;obtain t|t:=I k d
   .exact f.2 j C t
   have:=f.1;omega
  rw[if_neg l]at d;exact f.2 m s d
 .have c:(if m=i then D else if m=j then y else Z m) k:=c;by_cases g:m=i
  .rw[if_pos g]at c;rw[g];exact p2 k c
  rw[if_neg g]at c;by_cases l:m=j
  .rw[if_pos l]at c;rw[l];exact I k c
  rw[if_neg l]at c;exact .inl c
 have d:(if m=i then D else if m=j then y else Z m) k:=d;by_cases g:m=i
 .rw[if_pos g]at d;exact(E k c).2.2 d
 rw[if_neg g]at d;by_cases l:m=j
 .rw[if_pos l]at d;exact Q y N k c d
 rw[if_neg l]at d;have:=(ps m).lt _ _ (h.is m s) k d;have:=(E k c).1;omega
end
def wcE (W:WoS) (i:Nat):Int:=qeg (W.S (W.at_ i)) (W.ses i) (W.wall (W.at_ i))
def wcT (W:WoS) (i:Nat):TxP:=qce (W.S (W.at_ i)) (W.ses i) (W.wall (W.at_ i))
def qd4 (W:WoS) (i:Nat):WoS:=vf (setSite W (W.at_ i) (qcc (W.S (W.at_ i)) (W.ses i) (W.wall (W.at_ i)))) i (j0 (W.S (W.at_ i)) (W.ses i) (W.wall (W.at_ i)))
def wcW (W:WoS) (i:Nat):WoS:=if 0<(wcT W i).seq then qam (wcT W i) W.n (qd4 W i)else qd4 W i
def q9n (w:Wl) (b:Nat) (G:Np) (W:WoS) (i:Nat) (e:Ending) (w':Wl):Prop:=
 ∃m:TxM,e=.returned (.tuple #[txV m,jc (wcE W i)])/\m.t=wcT W i/\Hid (qr w' m.wa m.wc m.t.ws/\∃G',PW w' b G' (wcW W i)/\(∀k,G' k->G k\/w.heap.size<=k)/\qc G w w'/\∀k,m.blk k->w.heap.size<=k/\¬G' k)
def qvj {S:qe} {s:qy} {now:Int} (h:qeg S s now≠0):qce S s now=tx0.t/\qcc S s now=S/\j0 S s now=s:=by
 cases ho:s.opn with
 |false=>
  have:=qmm (S:=S) (now:=now) ho;exact⟨this.2.1,this.2.2.1,this.2.2.2⟩
 |true=>
  by_cases a:(jh s.ws).length=0
  .exact absurd (qml (S:=S) (now:=now) ho a).1 h
  have y:=qjx (S:=S) (now:=now) ho a;rw[y.1]at h;have b:=qp7 (S:=S) (now:=now) ho a h;exact⟨y.2.1.trans b.2.2,y.2.2.trans b.2.1,b.1⟩
variable {B:Nat}
section
variable {wA wB wC wD:Wl} {Y:Np}
def PWo.com (h:PWo w b M W Z) (F:i<W.c) (u:W.at_ i<W.n) (l:Bw w wA) {E:qe} {a:qy} (v:qfx (qix (M.bs i) a) (qeu (M.bp (W.at_ i)) E Y) wA (Z (W.n+i)) (Z (W.at_ i)) Y wB) (p:Bw wB wC):
 ∃d,PWo wC b M (vf (setSite W (W.at_ i) E) i a) d/\(∀m k,d m k->Z m k\/wA.heap.size<=k)/\qc (λk=>Z (W.n+i) k\/Z (W.at_ i) k) w wC/\∀m k,m<W.n+W.c->Y k->wA.heap.size<=k/\k<wB.heap.size/\¬d m k:=by
 have r:=h.later l;obtain⟨d,f,g,x,y,z⟩:=r.fam.step2X (ps':=λm=>if m=W.at_ i then qeu (M.bp (W.at_ i)) E Y else qci M (vf (setSite W (W.at_ i) E) i a) m) (i:=W.n+i) (j:=W.at_ i) oe oe v (λ_ q=>q.2) (by
  show (if W.n+i=W.at_ i then _ else _)=_;rw[if_neg oe];show (if W.n+i<W.n then _ else _)=_;rw[if_neg oe];show qix (M.bs (W.n+i-W.n)) (jj W.ses i a (W.n+i-W.n))=_;rw[show W.n+i-W.n=i by omega,qt]) (by show (if W.at_ i=W.at_ i then _ else _)=_;rw[if_pos rfl]) (λm s D t=>by
  show (if m=W.at_ i then _ else _)=_;rw[if_neg t];show (if m<W.n then qfp (M.bp m) (jj W.S (W.at_ i) E m)else qix (M.bs (m-W.n)) (jj W.ses i a (m-W.n)))=(if m<W.n then _ else _);by_cases q:m<W.n
  .rw[if_pos q,if_pos q,yq _ _ t]
  rw[if_neg q,if_neg q,yq _ _ oe])
 have A:zh wB (W.n+W.c) (qci M (vf (setSite W (W.at_ i) E) i a)) d (qfw b M) (W.n+W.c) NoY:=by
  refine⟨λm s=>?_,f.apart,f.free,f.half⟩;have:=f.is m s;by_cases q:m=W.at_ i
  .have e:(if m=W.at_ i then qeu (M.bp (W.at_ i)) E Y else qci M (vf (setSite W (W.at_ i) E) i a) m)=qeu (M.bp (W.at_ i)) E Y:=if_pos q;rw[e]at this
   have C:qci M (vf (setSite W (W.at_ i) E) i a) m=qfp (M.bp (W.at_ i)) E:=by
        rw[q];show (if W.at_ i<W.n then qfp (M.bp (W.at_ i)) (jj W.S (W.at_ i) E (W.at_ i))else _)=_;rw[if_pos u,qt]
   rw[C];exact this.1
  have e:(if m=W.at_ i then qeu (M.bp (W.at_ i)) E Y else qci M (vf (setSite W (W.at_ i) E) i a) m)=qci M (vf (setSite W (W.at_ i) E) i a) m:=if_neg q;rw[e]at this;exact this
 exact⟨d,(r.keep x A rfl rfl rfl rfl rfl rfl).later p,g,((qc.ofBelow l).trans y).trans (qc.ofBelow p),z⟩
def PWo.told (h:PWo w b M W Z) (d:∀k,G k↔qmp b M (W.n+W.c) Z k) (O:i<W.c) (K:W.at_ i<W.n) {f:Nat->Np} (z:W1.n=W.n) (A:W1.c=W.c) (L:w.heap.size<=B) (N:B<=wC.heap.size) (g:∀m k,f m k->Z m k\/B<=k) (p:qc (λk=>Z (W.n+i) k\/Z (W.at_ i) k) w wC) (s:∀m k,m<W.n+W.c->Y k->B<=k/\k<wC.heap.size/\¬f m k) (C:qby wC b M f (λk=>wC.heap.size<=k) W1 wD):
 ∃u,PW wD b u W1/\(∀k,u k->G k\/B<=k)/\qc G w wD/\∀k,Y k->B<=k/\¬u k:=by
 obtain⟨D,E,p1,p2,p3,r⟩:=C;have F:=p.size;have y:∀k,qmp b {M with nv:=D,l:=E} (W1.n+W1.c) f k->G k\/wC.heap.size<=k\/(B<=k/\∃m,m<W.n+W.c/\f m k):=λk a=>by
  rw[z,A]at a;obtain(e|e|e|e|⟨x,H,e⟩)|⟨j,t,e⟩:=a
  .exact .inl ((d k).2 (.inl (.inl e)))
  .exact .inl ((d k).2 (.inl (.inr (.inl e))))
  .exact .inl ((d k).2 (.inl (.inr (.inr (.inl e)))))
  .obtain q|q:=p2 k e
   .exact .inl ((d k).2 (.inl (.inr (.inr (.inr (.inl q))))))
   exact .inr (.inl q)
  .obtain q|q:=p3 x H
   .exact .inl ((d k).2 (.inl (.inr (.inr (.inr (.inr ⟨x,q,e⟩))))))
   rw[e]at q;exact .inr (.inl q)
  obtain q|q:=g j k e
  .exact .inl ((d k).2 (.inr ⟨j,t,q⟩))
  exact .inr (.inr ⟨q,j,t,e⟩)
 have I:∀k,G k->k<w.heap.size:=λk a=>by
  rcases(d k).1 a with q|⟨j,t,q⟩
  .exact h.ltF k q
  exact h.ltG t q
 refine⟨_,⟨_,f,p1,λ_=>jdl⟩,λk a=>?_,⟨r.os.trans p.os,r.tape.trans p.tape,r.output.trans p.output,jcn F r.size,λk a v=>?_⟩,λk a=>⟨(s 0 k oe a).1,λe=>?_⟩⟩
 .obtain q|q|q:=y k a
  .exact .inl q
  .exact .inr oe
  exact .inr q.1
 .refine(r.block k oe (λe=>v ((d k).2 (.inl (e.elim .inl (λq=>.inr (.inr (.inr (.inl q))))))))).trans (p.block k a (λe=>?_));obtain e|e:=e
  .exact v ((d k).2 (.inr ⟨W.n+i,oe,e⟩))
  exact v ((d k).2 (.inr ⟨W.at_ i,oe,e⟩))
 obtain q|q|⟨_,m,J,q⟩:=y k e
 .have:=I k q;have:=(s 0 k oe a).1;omega
 .have:=(s 0 k oe a).2.1;omega
 exact(s m k J a).2.2 q
def qxt {m:TxM} (h:qr wD m.wa m.wc m.t.ws/\∃a,PW wD b a W1/\(∀k,a k->G k\/B<=k)/\qc G w wD/\∀k,m.blk k->B<=k/\¬a k) (r:∀k,G k->k<w.heap.size) (z:w.heap.size<B) (C D E F d f g j:Int) (v:Vl):
 Hid (qr (js wD w.heap.size C D E F d f g j v) m.wa m.wc m.t.ws/\∃a,PW (js wD w.heap.size C D E F d f g j v) b a W1/\(∀k,a k->G k\/w.heap.size<=k)/\qc G w (js wD w.heap.size C D E F d f g j v)/\∀k,m.blk k->w.heap.size<=k/\¬a k):=by
 obtain⟨s,a,u,p,x,l⟩:=h;have y:∀k,a k->k≠w.heap.size:=λk c e=>by
  obtain q|q:=p k c
  .have:=r k q;omega
  omega
 have A:(js wD w.heap.size C D E F d f g j v).heap.size=wD.heap.size:=by simp only[js,World.setCell,Array.size_modify]
 refine⟨s.kept (λk c=>qco (λe=>by have:=(l k c).1;omega) _ _ _ _ _ _ _ _ _),a,u.kept (λk c=>qco (y k c) _ _ _ _ _ _ _ _ _) oe,λk c=>?_,qwv x (jcd _) _ _ _ _ _ _ _ _ _,λk c=>⟨by have:=(l k c).1;omega,(l k c).2⟩⟩;obtain q|q:=p k c
 .exact .inl q
 exact .inr oe
end
end
section
open _root_.Go.Proofs.Tryz
section
variable {A:Wl} {W2:WoS}
def vh.get (h:vh w b G W1 w1):∃a,PW w1 b a W1:=by
 obtain⟨a,c,_⟩:=h;exact⟨a,c⟩
def vh.from (a:Bw w w1) (h:vh w1 b G W2 A):vh w b G W2 A:=by
 obtain⟨c,d,f,g⟩:=h;exact⟨c,d,λq j=>(f q j).elim .inl (λe=>.inr (jcn a.size e)),(qc.ofBelow a).trans g⟩
end
def jay (a:WfW W) (h:i<W.n):qho.ok ⟨i,(W.S i).a0,(W.S i).a1,(W.S i).a2,(W.S i).a3⟩=true:=by
 have g:=a.n4;have I:=a.inv i h;have c:=I.a0;have d:=I.a1;have e:=I.a2;have f:=I.a3;unfold qag at c d e f;simp only[qho.ok,jct,jk,jb,qdz];refine⟨oe,⟨⟨oe,oe⟩,oe⟩,oe⟩
def qv9 (w:Wl) (h:PW w b G W) (x:i<W.n):
 Ca 81 #[PP b,U i,U i] w λe w'=>e=.returned (jc 2)/\vh w b G W w':=by
 obtain⟨M,g,h,j⟩:=h;have d:=hd2 h j;obtain⟨m,o,l,p,q,r,s⟩:=h.place x;have f:=yi (k:=i) (v:=true) w l ou;have t:=h.box.lt;go_enter func81,ntmps81;go_wp2_with fail
 refine f.mono ?_;rintro e A ⟨rfl,a⟩;have c:=a.symm;subst c;go_wp2_with fail
 refine f.mono ?_;rintro e A ⟨rfl,a⟩;have c:=a.symm;subst c;go_wp2_with fail
 go_ret;exact⟨rfl,vh.same ⟨M,g,d.out.1,d.out.2⟩ (jcc _ _)⟩
def q7k (w:Wl) (h:PW w b G W) (u:WfW W) {o:Nat} (hi:i<W.n) (T:o<W.n) (V:i≠o):
 Ca 81 #[PP b,U i,U o] w λe w'=>e=.returned (jc 0)/\vh w b G (qme W i o) w':=by
 obtain⟨M,x,h,y⟩:=h;have a:=hd3 h y u;obtain⟨X,Y,m,Z,aa,y0,y1⟩:=h.place hi;have z:=yi (k:=i) (v:=true) w m ou;have B:=yi (k:=o) (v:=true) w m ou;have hlt:=h.box.lt;have q1:(i:Int)<(W.n:Int):=oe;have C:=h.site hi;have q3:¬(i:Int)=(o:Int):=oe;have D:=qff w C;have E:=hd1 hi;go_enter func81,ntmps81;go_wp2_with fail
 refine z.mono ?_;rintro e A ⟨rfl,d⟩;have f:=d.symm;subst f;go_wp2_with fail
 refine B.mono ?_;rintro e A ⟨rfl,d⟩;have f:=d.symm;subst f;go_wp2_with fail
 refine D.mono ?_;rintro e F ⟨rfl,p⟩;have H:=qvb (jay a.out.2.2 E.out) F;go_wp2_with fail
 refine H.mono ?_;rintro e l ⟨S,g,r,rfl,⟨I,_⟩,J,O,K⟩;have s:=qa p K;have L:=jcn p.size O.base;have N:=a.out.1.later s;have P:Hid (Ca 118 #[PP b,.agg #[U o,.slice (PT g) S.size r]] l λe w'=>e=.returned (.tuple #[])/\qby l b M x (λk=>k=g) (qme W i o) w'):=
  qou l N ⟨⟨o,.ask i (W.S i).a0 (W.S i).a1 (W.S i).a2 (W.S i).a3⟩,g,r,S⟩ ⟨O.mono (jcw _),J,I⟩ (.inr (λe=>by
   obtain q|⟨j,Q,q⟩:=e
   .have:g<w.heap.size:=a.out.1.ltF g q;omega
   have:g<w.heap.size:=a.out.1.ltG Q q;omega))
 go_wp2_with fail
 refine P.out.mono ?_;rintro e w5 ⟨rfl,R⟩;go_wp2_with fail
 go_ret;refine⟨rfl,?_⟩;have t:=yb W ⟨o,.ask i (W.S i).a0 (W.S i).a1 (W.S i).a2 (W.S i).a3⟩;exact(R.from s).post (W:=W) a.out.2.1 t.n t.c (λk e=>.inr (by rw[e];exact L))
def q5x (w:Wl) (h:PW w b G W) {g:GrS} (T:W.net[i]?=some g):
 Ca 102 #[PP b,U i] w λe w'=>e=.returned (jc 0)/\vh w b G (zk W g) w':=by
 obtain⟨M,I,h,t⟩:=h;have J:M.l.length=W.net.length:=by rw[<-h.nl];simp
 have x:i<M.l.length:=by have:=(jck.1 T).1;omega
 obtain⟨m,a⟩:∃m,M.l[i]?=some m:=⟨_,jcg x⟩;have y:m.g=g:=by
  have:=T;rw[<-h.nl,jcv,a]at this;exact jcu this
 subst y;have d:=jcq a;obtain⟨z,K,B,r⟩:=qq h.nr;obtain⟨L,rfl,N,o⟩:∃g,z=some (AD g 0)/\g<w.heap.size/\∀j u,(qap M.l)[j]?=some u->w.cell? (AD g j)=some u:=by
  obtain p|p:=r.held
  .omega
  exact p
 have q:=h.box.c 2;rw[B]at q;have V:=o _ _ (qtm a).1;have X:=o _ _ (qtm a).2;have C:=qey (k:=i) (v:=true) w q ou;have D:=qou w h m (h.gr m d) (.inl ⟨m,d,rfl⟩);have f:=hd2 t d;have O:=h.box.lt;have P:(i:Int)<(M.l.length:Int):=oe;have Q:=r.len;go_enter func102,ntmps102;go_wp2_with fail
 refine C.mono ?_;rintro e A ⟨rfl,E⟩;have F:=E.symm;subst F;go_wp2_with fail
 refine D.mono ?_;rintro e R ⟨rfl,H⟩;go_wp2_with fail
 go_ret;have s:=yb W m.g;exact⟨rfl,H.post (W:=W) f.out.1 s.n s.c (λk e=>.inl ((f.out.1 k).2 (.inl (.inr (.inr (.inr (.inr ⟨m,f.out.2,e.symm⟩)))))))⟩
def qjr (a:Nat) (t:TxP):∀(l:List TxP) (W:WoS),zl a (l++[t]) W=if t.site=(a:Int)then zl a l W else zk (zl a l W) ⟨a,.tx t⟩
 |[],W=>rfl
 |x::l,W=>by
  show zl a (l++[t]) _=_;rw[qjr a t l];rfl
def PWo.stepSm {w w':Wl} {M:WoM} {a:Nat->Np} (h:PWo w b M W a) (r:i<W.n) {q:qe} (d:PPo w (M.bp i) (a i) q w'):∃c,PWo w' b M (setSite W i q) c/\(∀j k,c j k->a j k\/w.heap.size<=k)/\qc (a i) w w':=by
 obtain⟨c,f,g,e,l⟩:=h.fam.stepG (ps':=qci M (setSite W i q)) (i:=i) oe (p:=qfp (M.bp i) q) d (by show (if i<W.n then _ else _)=_;rw[if_pos r];show qfp (M.bp i) (jj W.S i q i)=_;rw[qt]) (λj o m=>by
  show (if j<W.n then qfp (M.bp j) (jj W.S i q j)else _)=(if j<W.n then _ else _);rw[yq _ _ m];rfl)
 exact⟨c,h.keep e f rfl rfl rfl rfl rfl rfl,g,l⟩
def q3q {G:Np} (a d f p:Int) (w:Wl) (h:PW w b G W) (hw:WfW W) {o:Nat} (hi:i<W.n) (ho:o<W.n):
 Ca 164 #[PP b,U i,U o,.agg #[U a,U d,U f,U p]] w λe w'=>e=.returned (.tuple #[])/\vh w b G (qbc W i o a d f p) w':=by
 obtain⟨M,Gs,h,hG⟩:=h;have hb1:=boxed (jcc _ w) (.cells #[U a,U d,U f,U p] 113);have RV:=qd.new (w:=w) (T:=113) [U a,U d,U f,U p] rfl;change qd (w.alloc (.cells #[U a,U d,U f,U p] 113)) w.heap.size [U a,U d,U f,U p]at RV;have H1:=h.later hb1;obtain⟨pb,pc,c0,hpc,hpb,y0,y1⟩:=H1.place hi;have hlt:=h.box.lt;have n4:=hw.n4;have KN:=q3d (n:=o) oe oe a d f p _ (H1.site hi);have B:=hd4 h hG hw hi;have q1:(i:Int)<(W.n:Int):=oe;obtain⟨z0,z1,z2,z3⟩:=RV.c4;rw[show ((o:Int)).toNat=o by omega]at KN;have HR:=hd3 RV hb1 H1;clear h hG hw H1 RV;go_enter func164,ntmps164;go_wp2_with fail
 refine KN.mono ?_;rintro e w2 ⟨rfl,hp⟩;rw[show jc 0=.nilIface from rfl];obtain⟨Gs2,K2,hsub,tt2⟩:=HR.out.2.2.stepSm B.out.2.2.2 hp;have RV2:=HR.out.1.kept (tt2.block _ HR.out.1.lt (λe=>by have:=B.out.1.ltG (by have:=B.out.2.2.2;omega) e;omega)) tt2.size;have MS:=qtx a d f p w2 (K2.site (i:=i) B.out.2.2.2) (by show j3 (jj W.S i (vp (W.S i) o a d f p) i);rw[qt];exact(B.out.2.2.1.inv i B.out.2.2.2).knows _);rw[show qd6 ((setSite W i (vp (W.S i) o a d f p)).S i) a d f p=qd6 (W.S i) a d f p by show qd6 (jj W.S i (vp (W.S i) o a d f p) i) a d f p=_;rw[qt];rfl]at MS;have R:=hd3 K2 (show (∀j k,Gs2 j k->Gs j k\/w.heap.size<=k)from λj k e=>(hsub j k e).elim .inl (λq=>.inr (by simp at q;omega))) tt2;clear z0 z1 z2 z3 c0 y0 y1 KN hp K2 hsub tt2;obtain⟨z0,z1,z2,z3⟩:=RV2.c4;go_wp2_with fail
 refine MS.mono ?_;rintro e O ⟨v,rfl,y,k1,⟨B9,hB9,k2⟩,k3,k4⟩;obtain⟨ma,mc,hv,hMx⟩:=yx k2;subst hv;have K3:=R.out.1.later k4;have hkl:y.length<=200:=by
  have e1:=congrArg List.length k1;have e2:(qd6 (W.S i) a d f p).length<=(W.S i).log.length:=jdo _ _;have e3:=(B.out.2.2.1.inv i B.out.2.2.2).log;simp at e1;omega
 have hml:=hMx.len;have hmc:=hMx.cap;have P:=hd6 hMx k1 k3 (show (∀k off,ma=some (AD k off)->y≠[]->w2.heap.size<=k)from λk off e V=>by
  obtain⟨q,h0⟩|⟨g,cap,cur,q,hb9,_⟩:=k2.2
  .exact absurd (jc2 h0) V
  injection q with q1 q2 q3;rw[e]at q1;injection q1 with q1;injection q1 with q1;omega) K3 k4
 clear MS z0 z1 z2 z3 RV2 k1 k2 k3 k4 K3 hMx;go_wp2_with fail
 go_loopw [27] (λiv wr=>∃(k:Nat) (z:Int),k<=y.length/\z=k/\iv=U z/\Hid (qby O b M Gs2 (λq=>O.heap.size<=q) (zl o ((y.map (·.t)).take k) (setSite W i (vp (W.S i) o a d f p))) wr)) (λiv _=>y.length-(intOf iv).toNat)
 case atStart=>exact⟨0,0,oe,rfl,rfl,qby.none P.out.2.2.2.2.1 (jcc _ _) _⟩
 obtain⟨k,z,hk,hz,rfl,HS⟩:=hrel;have HZ:=hd1 hz;by_cases A:k<y.length
 .have g1:z<(y.length:Int):=oe;have g2:z.toNat=k:=oe;have g3:0<=z:=oe;have g4:z<200:=oe;clear hz;obtain⟨L,N,haa,hcc⟩:∃b off,ma=some (AD b off)/\∀i m r u,y[i]?=some m->(txC m)[r]?=some u->O.cell? (AD b (off+(i*9+r)))=some u:=by
   obtain h0|h0:=P.out.1.held
   .rw[h0]at A;simp at A
   exact h0
  have hne:y≠[]:=λe=>by rw[e]at A;simp at A
  have hab:=P.out.2.2.2.1 L N haa hne;subst haa;have ltb:=λq e=>R.out.1.ltF q e;have kp:∀q,w2.heap.size<=q->q<O.heap.size->wr.heap[q]?=O.heap[q]?:=λq hq hq3=>HS.out.block hq3 (λe=>by have:=ltb b (.inl rfl);omega) (λe=>by have:=ltb q (.inr (.inr (.inr (.inl e))));omega);obtain⟨⟨⟨C,E,wall,F,H,I,J,K,D⟩,X,Y⟩,hm⟩:∃m,y[k]?=some m:=⟨_,jcg A⟩;have hab3:L<O.heap.size:=jcr _ _ (hcc k _ 0 _ hm rfl)
  have Q:∀r u,(txC ⟨⟨C,E,wall,F,H,I,J,K,D⟩,X,Y⟩)[r]?=some u->wr.cell? (AD L (N+(k*9+r)))=some u:=λr u hu=>by rw[jch (w:=O) (kp L hab hab3)];exact hcc k _ r u hm hu
  have x0:wr.cell? (AD L (N+k*9))=some (U C):=Q 0 _ rfl;have x1:wr.cell? (AD L (N+k*9+1))=some (U E):=Q 1 _ rfl;have x2:wr.cell? (AD L (N+k*9+2))=some (U wall):=Q 2 _ rfl;have x3:wr.cell? (AD L (N+k*9+3))=some (U F):=Q 3 _ rfl;have x4:wr.cell? (AD L (N+k*9+4))=some (U H):=Q 4 _ rfl;have x5:wr.cell? (AD L (N+k*9+5))=some (U I):=Q 5 _ rfl;have x6:wr.cell? (AD L (N+k*9+6))=some (U J):=Q 6 _ rfl;have x7:wr.cell? (AD L (N+k*9+7))=some (U K):=Q 7 _ rfl;have x8:wr.cell? (AD L (N+k*9+8))=some (.slice X D.length Y):=Q 8 _ rfl;have hmem:=jcq hm;have hWr:Hid (qr wr X Y D):=qr.kept (m:=⟨⟨C,E,wall,F,H,I,J,K,D⟩,X,Y⟩) (P.out.2.2.1 _ hmem).1 (λq e=>kp q ((P.out.2.2.1 _ hmem).2 q e) ((P.out.2.2.1 _ hmem).1.blk_lt q e));have hok:Hid (jt C E wall F H I J K D=true):=B.out.2.2.1.lok i B.out.2.2.2 ⟨C,E,wall,F,H,I,J,K,D⟩ (by
   have:(⟨C,E,wall,F,H,I,J,K,D⟩:TxP)∈qd6 (W.S i) a d f p:=by rw[<-P.out.2.1];exact jcz.2 ⟨_,hmem,rfl⟩
   exact(jdq.1 this).1)
  have HT:Hid (zl o ((y.map (·.t)).take (k+1)) (setSite W i (vp (W.S i) o a d f p))=if C=(o:Int)then zl o ((y.map (·.t)).take k) (setSite W i (vp (W.S i) o a d f p))else zk (zl o ((y.map (·.t)).take k) (setSite W i (vp (W.S i) o a d f p))) ⟨o,.tx ⟨C,E,wall,F,H,I,J,K,D⟩⟩):=by
   show _=_;rw[jdu,jcv,hm];exact qjr o ⟨C,E,wall,F,H,I,J,K,D⟩ _ _
  have bx:=boxed (jcc _ wr) (.cells (List.toArray (T9 C E wall F H I J K X D.length Y)) 122);have RX:=qd.new (w:=wr) (T:=122) (T9 C E wall F H I J K X D.length Y) rfl;change qd (wr.alloc (.cells (List.toArray (T9 C E wall F H I J K X D.length Y)) 122)) wr.heap.size (T9 C E wall F H I J K X D.length Y)at RX;obtain⟨t0,t1,t2,t3,t4,t5,t6,t7,t8⟩:=RX.c9;clear hcc Q kp ltb hm hmem hab hab3 hne;by_cases hs:C=(o:Int)
  .have HT2:=hd1 (HT.out.trans (if_pos hs));go_wp2_with fail
   go_roundw
   case rel=>exact⟨k+1,z+1,oe,oK,oI,by show qby _ _ _ _ _ _ _;rw[HT2.out];exact HS.out.next (λnv l hP=>qby.none hP (boxed (jcc _ wr) _) _)⟩
   simp[intOf];have:=HZ.out;omega
  have HT2:=hd1 (HT.out.trans (if_neg hs));have S2:=hd1 (HS.out.next (λnv l hP=>qby.none hP bx _));obtain⟨nv',l',h1,h2,h3,Z⟩:=S2.out;have SX:=hd1 (qoq o C E wall F H I J K D X Y _ h1 (hWr.out.later bx) hok.out);have HP:=hd4 h1 h2 (show (∀x∈l',x∈M.l\/O.heap.size<=x.blk)from h3) Z;clear h1 h2 h3 Z;go_wp2_with fail
  refine SX.out.mono ?_;rintro e w5 ⟨rfl,hS⟩;have SN:Hid (qby O b M Gs2 (λq=>O.heap.size<=q) (zk (zl o ((y.map (·.t)).take k) (setSite W i (vp (W.S i) o a d f p))) ⟨o,.tx ⟨C,E,wall,F,H,I,J,K,D⟩⟩) w5):=by
   obtain⟨h1,h2,h3,Z⟩:=HP.out;obtain⟨nv2,l2,g1',g2',g3',gt⟩:=hS;have s:=Z.size;refine⟨nv2,l2,g1',λq e=>?_,λx hx=>?_,?_⟩
   .obtain r|r:=g2' q e
    .exact h2 q r
    exact .inr oe
   .obtain r|r:=g3' x hx
    .exact h3 x r
    exact .inr oe
   refine⟨gt.os.trans Z.os,gt.tape.trans Z.tape,gt.output.trans Z.output,jcn s gt.size,λq hq V=>?_⟩;refine(gt.block q oe (λe=>?_)).trans (Z.block q hq V);obtain e|e:=e
   .exact V (.inl e)
   obtain r|r:=h2 q e
   .exact V (.inr r)
   omega
  clear SX HP S2 x0 x1 x2 x3 x4 x5 x6 x7 x8 t0 t1 t2 t3 t4 t5 t6 t7 t8 RX;go_wp2_with fail
  go_roundw
  case rel=>exact⟨k+1,z+1,oe,oK,oI,by show qby _ _ _ _ _ _ _;rw[HT2.out];exact SN.out⟩
  simp[intOf];have:=HZ.out;omega
 have g1:¬z<(y.length:Int):=oe;have e:k=y.length:=oe;go_wp2_with fail
 go_end0;have S9:=HS.out;rw[e,show ((y.map (·.t)).take y.length)=qd6 (W.S i) a d f p by rw[<-P.out.2.1];exact List.take_of_length_le oi]at S9;have sm:=qds o (qd6 (W.S i) a d f p) (setSite W i (vp (W.S i) o a d f p));have P1:vh w2 b (qmp b M (W.n+W.c) Gs2) (qbc W i o a d f p) wr:=(S9.from P.out.2.2.2.2.2).post (W:=W) (λ_=>jdl) sm.n sm.c (λk hk=>.inr (jcn P.out.2.2.2.2.2.size hk));obtain⟨G5,k1,k2,kt⟩:=P1;have s1:=R.out.2.2.size;have s0:(w.alloc (.cells #[U a,U d,U f,U p] 113)).heap.size=w.heap.size+1:=oi;refine⟨rfl,G5,k1,λq hq=>?_,?_⟩
 .obtain(r|⟨j,hj,r⟩)|r:=k2 q hq
  .exact .inl ((B.out.2.1 q).2 (.inl r))
  .obtain r2|r2:=R.out.2.1 j q r
   .exact .inl ((B.out.2.1 q).2 (.inr ⟨j,hj,r2⟩))
   exact .inr r2
  exact .inr oe
 refine⟨kt.os.trans R.out.2.2.os,kt.tape.trans R.out.2.2.tape,kt.output.trans R.out.2.2.output,by have:=kt.size;omega,λq hq V=>?_⟩;refine(kt.block q oe (λr=>?_)).trans ((R.out.2.2.block q oe (λr=>V ((B.out.2.1 q).2 (.inr ⟨i,by have:=B.out.2.2.2;omega,r⟩)))).trans (HR.out.2.1.block q hq));obtain r|⟨j,hj,r⟩:=r
 .exact V ((B.out.2.1 q).2 (.inl r))
 obtain r2|r2:=R.out.2.1 j q r
 .exact V ((B.out.2.1 q).2 (.inr ⟨j,hj,r2⟩))
 omega
def q4r (w:Wl) (b:Nat) (G:Np) (W:WoS) (g:GrS) (e:Ending) (w':Wl):Prop:=e=.returned (.tuple #[])/\∃W',Hid (qeo W g W')/\vh w b G W' w'
def q84 (f i wall j k l m o:Int) (ws:List Wr) (a g A:Nat) (S:By) (w:Wl) (h:PW w b G W) (C:WfW W) (s:Own w 0 g A S) (L:S.size<=1000000) (D:ql3 (toL S) ⟨f,i,wall,j,k,l,m,o,ws⟩) (N:a<W.n):
 Ca 128 #[PP b,.agg #[U a,.slice (PT g) S.size A]] w (q4r w b G W ⟨a,.tx ⟨f,i,wall,j,k,l,m,o,ws⟩⟩):=by
 obtain⟨M,O,h,E⟩:=h;have F:=boxed (jcc _ w) (.cells #[U a,.slice (PT g) S.size A] 169);have q:=qd.new (w:=w) (T:=169) [U a,.slice (PT g) S.size A] rfl;change qd (w.alloc (.cells #[U a,.slice (PT g) S.size A] 169)) w.heap.size [U a,.slice (PT g) S.size A]at q;have H:=qy2 D (PT g) S.size A (yh S) _ (s.later F).all s.room L;have d:=hd5 h E C N q;have P:=q.c 1;clear h E C q s D;go_enter func128,ntmps128;go_wp2_with fail
 refine H.mono ?_;rintro e w2 ⟨a2,p,rfl,I,J⟩;simp only at I ⊢;have t:=boxed (jcc _ w2) (.cells (List.toArray (T9 f i wall j k l m o a2 ws.length p)) 122);have K:=(qa (qa F J) t);have u:=K.drew;have x:=d.out.1.later K;obtain⟨V,X,Y,Z,aa,y0,y1⟩:=x.place d.out.2.2.2.1;have r:=qd.new (w:=w2) (T:=122) (T9 f i wall j k l m o a2 ws.length p) rfl;change qd (w2.alloc (.cells (List.toArray (T9 f i wall j k l m o a2 ws.length p)) 122)) w2.heap.size (T9 f i wall j k l m o a2 ws.length p)at r;have y:=(d.out.2.2.2.2.later J).later t;have Q:Hid (Ca 162 #[PP (M.bp a),.agg (List.toArray (T9 f i wall j k l m o a2 ws.length p))] (w2.alloc (.cells (List.toArray (T9 f i wall j k l m o a2 ws.length p)) 122)).drew λe w'=>∃v,e=.returned v/\∃S',zu (W.S a) ⟨f,i,wall,j,k,l,m,o,ws⟩ S'/\PPo (w2.alloc (.cells (List.toArray (T9 f i wall j k l m o a2 ws.length p)) 122)).drew (M.bp a) (O a) S' w'):=
  (q0z ⟨⟨f,i,wall,j,k,l,m,o,ws⟩,a2,p⟩ _ ((d.out.1.later u).site d.out.2.2.2.1) (d.out.2.2.1.inv a d.out.2.2.2.1) (jcn (d.out.2.2.1.wt a d.out.2.2.2.1) oe) (I.later t.drew)).mono λe w' ⟨R,S',z,B⟩=>⟨_,R,S',z,B⟩
 have q1:(a:Int)<(W.n:Int):=by have:=d.out.2.2.2.1;omega
 have hlt:=x.box.lt;have d0_:=y.c 0;obtain⟨t0,t1,t2,t3,t4,t5,t6,t7,t8⟩:=r.c9;have l1:=y.lt;have l2:=r.lt;clear H x r y P;go_wp2_with fail
 go_region_law (refine je rfl 162 #[PP (M.bp a),.agg (List.toArray (T9 f i wall j k l m o a2 ws.length p))] (by go_simp) Q.out ?_
                rintro e w4 ⟨v4,rfl,S',z,B⟩;refine⟨_,rfl,?_⟩)
 all_goals
  go_wp2_with fail
  refine bodyPost_ret (v:=.tuple #[]) (results_none rfl _ _ _) rfl ?_;exact⟨rfl,_,⟨S',z,rfl⟩,vh.from u ((d.out.1.later u).stepS d.out.2.1 d.out.2.2.2.1 B)⟩
def q7j (a d f i j:Int) (m g A:Nat) (S:By) (w:Wl) (h:PW w b G W) (L:WfW W) (t:Own w 0 g A S) (F:S.size<=1000000) (H:qdj (toL S) ⟨a,d,f,i,j⟩) (ht:m<W.n):
 Ca 128 #[PP b,.agg #[U m,.slice (PT g) S.size A]] w (q4r w b G W ⟨m,.ask a d f i j⟩):=by
 obtain⟨M,N,h,O⟩:=h;have P:=boxed (jcc _ w) (.cells #[U m,.slice (PT g) S.size A] 169);have u:=qd.new (w:=w) (T:=169) [U m,.slice (PT g) S.size A] rfl;change qd (w.alloc (.cells #[U m,.slice (PT g) S.size A] 169)) w.heap.size [U m,.slice (PT g) S.size A]at u;have Q:=q08 (λx hx=>qzw hx H) (PT g) S.size A (yh S) _ (t.later P).all t.room F;have l:=hd8 h O L ht u t F H;have z1:=u.c 1;clear h O L u t H F;go_enter func128,ntmps128;go_wp2_with fail
 refine Q.mono ?_;rintro e w2 ⟨rfl,R⟩;have V:=boxed (jcc _ w2) (.cells ZA 122);have X:=(qa (qa P R) V);have y:=(l.out.2.2.2.2.1.later R).later V;have I:=qws l.out.2.2.2.2.2.2.2 (PT g) S.size A (yh S) _ (l.out.2.2.2.2.2.1.later X).all l.out.2.2.2.2.2.1.room l.out.2.2.2.2.2.2.1;have e1:=y.c 1;have l1:=y.lt;have Y:=hd2 y X;clear Q z1 y;go_wp2_with fail
 refine I.mono ?_;rintro e p ⟨rfl,Z⟩;simp only;have bv:=boxed (jcc _ p) (.cells #[U d,U f,U i,U j] 113);have z:=qa (qa Y.out.2 Z) bv;have B:=(Y.out.1.later Z).later bv;have C:=qd.new (w:=p) (T:=113) [U d,U f,U i,U j] rfl;change qd (p.alloc (.cells #[U d,U f,U i,U j] 113)) p.heap.size [U d,U f,U i,U j]at C;have D:=l.out.1.later z;obtain⟨pb,pc,c0,hpc,hpb,y0,y1⟩:=D.place l.out.2.2.2.1;have hlt:=D.box.lt;by_cases E:0<=a/\a<(W.n:Int)
 .obtain⟨o,ho⟩:∃o:Nat,(o:Int)=a:=⟨a.toNat,oe⟩;subst ho;have hon:o<W.n:=oe;have r:=yi (k:=o) (v:=true) _ c0 ou;have AN:=q3q d f i j _ (PW.later (w':=p.alloc (.cells #[U d,U f,U i,U j] 113)) ⟨M,N,l.out.1,l.out.2.1⟩ z) l.out.2.2.1 l.out.2.2.2.1 hon;have s0:=B.c 0;obtain⟨t0,t1,t2,t3⟩:=C.c4;have J:Hid (∀W',W'=qbc W m o d f i j->qeo W ⟨m,.ask o d f i j⟩ W'):=λW' e=>by
   show (if 0<=(o:Int)/\(o:Int)<(W.n:Int)then W'=qbc W m (o:Int).toNat d f i j else W'=W);rw[if_pos E,show ((o:Int)).toNat=o by omega];exact e
  clear I D C B E;go_wp2_with fail
  refine r.mono ?_;rintro e w6 ⟨rfl,s⟩;have K:=s.symm;clear s r;subst K;go_wp2_with fail
  refine AN.mono ?_;rintro e w7 ⟨rfl,hp⟩;go_wp2_with fail
  go_end0;exact⟨rfl,_,J.out _ rfl,vh.from z hp⟩
 have r:=yi (k:=a) (v:=false) _ c0 (by
  have:¬(0<=a)\/¬(a<(W.n:Int)):=oe;obtain q|q:=this<;>simp[q])
 have J:Hid (qeo W ⟨m,.ask a d f i j⟩ W):=by
  show (if 0<=a/\a<(W.n:Int)then W=qbc W m a.toNat d f i j else W=W);rw[if_neg E]
 have s0:=B.c 0;clear I D C B E;go_wp2_with fail
 refine r.mono ?_;rintro e w6 ⟨rfl,s⟩;have K:=s.symm;clear s r;subst K;go_wp2_with fail
 go_end0;exact⟨rfl,W,J,vh.same ⟨M,N,l.out.1,l.out.2.1⟩ z⟩
def q79 (m:GrM) (w:Wl) (h:PW w b G W) (c:WfW W) (a:m.Ok w) (d:m.g.tj<W.n):
 Ca 128 #[PP b,.agg #[U m.g.tj,.slice (PT m.blk) m.S.size m.cap]] w (q4r w b G W m.g):=by
 obtain⟨⟨e,f⟩,g,i,S⟩:=m;cases f with
 |tx t=>exact q84 t.site t.seq t.wall t.count t.d0 t.d1 t.d2 t.d3 t.ws e g i S w h c a.own a.size a.is d
 |ask site v0 v1 v2 v3=>exact q7j site v0 v1 v2 v3 e g i S w h c a.own a.size a.is d
def qjg (l a:List GrM):qap (l++a)=qap l++qap a:=by simp[qap]
def qwh (l:List GrM):∀u∈qap l,u.oneCell'=true:=by
 intro u a;obtain⟨x,_,b⟩:=List.mem_flatMap.1 a;exact qr2 x u b
def q7t:∀w,(zeroValue 169).run prog w=.ok (.agg #[U 0,.slice none 0 0]) w:=λw=>oh
def qhe:(Builtin.zeroCells (Value.agg #[U 0,.slice none 0 0]).cells 1).toList=[U 0,.slice none 0 0]:=by
 simp only[Builtin.zeroCells,Array.toList_map];have a:(Value.agg #[U 0,.slice none 0 0]).cells=#[U 0,.slice none 0 0]:=rfl;rw[a];have e:(#[Value.int .i64 0,.slice none 0 0]:Av).size=2:=rfl;rw[e];simp[List.range_succ]
def qr9:∀u∈(Builtin.zeroCells (Value.agg #[U 0,.slice none 0 0]).cells 1).toList,u.oneCell'=true:=by
 rw[qhe];intro u a;simp at a;obtain rfl|rfl:=a<;>rfl
def qz2 {g cap i:Nat} {l:List GrM} (w:Wl) (o:w.ownsRow 0 169 2 (.slice (PT g) l.length cap) l.length (qap l)) (hi:i<l.length) (X:l.length<=300):
 Ca 127 #[.slice (PT g) l.length cap,U i,U ((i:Int)+1)] w λe w'=>e=.returned (.slice (PT g) (l.length-1) cap)/\w'.ownsRow 0 169 2 (.slice (PT g) (l.length-1) cap) (l.length-1) (qap (l.eraseIdx i))/\yu g w w':=by
 obtain⟨D,E,hz0,F,hz2⟩:=info_parts quo;obtain⟨cur,k,Y,G,H⟩:∃cur,w.heap[g]?=some (.cells cur 169 (0,0))/\l.length<=cap/\cap<=maxLen/\cur.size=cap*2:=by
  obtain⟨h,_⟩|⟨g2,cap2,cur,e,hb,Z,aa,hm,hs,m⟩:=o.2
  .cases h
  injection e with a e2 e3;injection a with a;injection a with a;subst a e3;exact⟨cur,Z,aa,hm,hs⟩
 have p:∀j u,(qap l)[j]?=some u->w.cell? (AD g j)=some u:=λj u b=>by
  have d:=o.cells (g:=g) rfl j u b;rw[qal]at d;exact d
 have q:∀j,j<cap*2->(w.cell? (AD g j)).isSome=true/\w.frozen? (AD g j)=false:=λj c=>by
  constructor
  .rw[cell_of_row w g j cur _ (0,0) k,jde oe];rfl
  unfold World.frozen?;rw[k];simp
 have I:qap (l.eraseIdx i)=qap (l.take i)++qap (l.drop (i+1)):=by rw[jdf,qjg]
 have r:(qap (l.take i)).length=i*2:=by rw[qgz,jc5];omega
 have lv:(qap (l.drop (i+1))).length=(l.length-(i+1))*2:=by rw[qgz,jdt]
 have J:qap l=qap (l.take (i+1))++qap (l.drop (i+1)):=by rw[<-qjg,jds]
 have s:(qap (l.take (i+1))).length=(i+1)*2:=by rw[qgz,jc5];omega
 obtain⟨W1,v⟩:∃W1,W1=w.drew.setCells g (0+i*2) (qap (l.drop (i+1))):=⟨_,rfl⟩;have x:=qlp (w:=w.drew) (g:=g) (qap (l.take i)) (qap (l.drop (i+1))) [U 0,.slice none 0 0] (λj u b=>by
  refine p j u ?_
  have:qap l=qap (l.take i)++qap (l.drop i):=by rw[<-qjg,jds]
  rw[this,jc3 (jck.1 b).1];exact b) (λj c=>(q j (by rw[r,lv]at c;simp at c;omega)).1)
 rw[r,lv,show i*2+(l.length-(i+1))*2=(l.length-1)*2 by omega]at x;have hd1:w.drew.heap[g]?=some (.cells cur 169 (0,0)):=k;obtain⟨K,y,L⟩:=qat g (qap (l.drop (i+1))) (i*2) w.drew hd1;obtain⟨cur2,M,N⟩:=qat g [U 0,.slice none 0 0] ((l.length-1)*2) _ y;have O:Hid (((w.drew.setCells g (i*2) (qap (l.drop (i+1)))).setCells g ((l.length-1)*2) [U 0,.slice none 0 0]).ownsRow 0 169 2 (.slice (PT g) (l.length-1) cap) (l.length-1) (qap (l.eraseIdx i))):=by
  refine qfz (jcw _) M G (by rw[N,L,H]) oe (by rw[qgz,List.length_eraseIdx,if_pos hi]) (λj u b=>?_);rw[I]at b;exact x j u (by rw[jc3 (jck.1 b).1];exact b)
 have P:Hid (yu g w ((w.drew.setCells g (i*2) (qap (l.drop (i+1)))).setCells g ((l.length-1)*2) [U 0,.slice none 0 0])):=
  yu.trans (yu.trans (yu.ofBelow (jcc _ w).drew) (zg g _ _ _) (.inl rfl)) (zg g _ _ _) (.inl rfl)
 have s3:Hid (∀t,t<(qap (l.drop (i+1))).length->(w.drew.cell? (AD g (0+i*2+t))).isSome=true/\w.drew.frozen? (AD g (0+i*2+t))=false):=λt m=>by
  rw[lv]at m;exact q _ oe
 have hcl:∀z,(Builtin.clear_ #[138] z #[.slice (some (AD g ((l.length-1)*2))) 1 (cap-(l.length-1))]).run prog W1=.ok (.tuple #[]) (W1.setCells g ((l.length-1)*2) [U 0,.slice none 0 0]):=λz=>by
  have Q:∀j,j<cap*2->(W1.cell? (AD g j)).isSome=true/\W1.frozen? (AD g j)=false:=λj c=>by
   have R:W1.heap[g]?=some (.cells K 169 (0,0)):=by rw[v,mF];exact y
   constructor
   .rw[cell_of_row W1 g j K _ (0,0) R,jde oe];rfl
   unfold World.frozen?;rw[R];simp
  have S:(Builtin.zeroCells (Value.agg #[U 0,.slice none 0 0]).cells 1).size=2:=by rw[<-Array.length_toList,qhe];rfl
  have:=qng W1 138 169 z (.agg #[U 0,.slice none 0 0]) underlying138 q7t g ((l.length-1)*2) 1 (cap-(l.length-1)) oe qr9 (λj c=>(Q _ (by rw[S]at c;omega)).1) (λj c=>(Q _ (by rw[S]at c;omega)).2);rw[qhe]at this;exact this
 have n:Hid (W1=w.drew.setCells g (0+i*2) (qap (l.drop (i+1)))):=v;have q0:(i:Int)<(l.length:Int):=oe;have q1:(i:Int)+1<=(l.length:Int):=oe;have q2:(l.length:Int)<=(cap:Int):=oe;have q3:(i:Int)<=(cap:Int):=oe;have q4:(i:Int)+1<=(cap:Int):=oe;have q5:(l.length:Int)<=300:=oe;have q6:i+(l.length-(i+1))=l.length-1:=oe;have q7:¬(i:Int)=(i:Int)+1:=oe;have q8:(i:Int)<=(i:Int)+1:=oe;have q9:0<=(i:Int)+1:=oe;have q10:l.length-(l.length-1)=1:=oe;have f:Hid (i<l.length/\l.length<=cap):=⟨hi,Y⟩;have T:Hid (∀A:Addr,(if cap=i+1 then some ((AD g 0):Addr)else some (AD g ((i+1)*2)))=some A->∀t u,(qap (l.drop (i+1)))[t]?=some u->w.drew.cell? (A.add t)=some u):=λA V t u b=>by
  by_cases d:cap=i+1
  .have:l.length-(i+1)=0:=oe;have m:=(jck.1 b).1;rw[lv,this]at m;omega
  rw[if_neg d]at V;have hA':((AD g ((i+1)*2)):Addr)=A:=jcu V;subst hA';have hadd:((AD g ((i+1)*2)):Addr).add t=(AD g ((i+1)*2+t)):=by unfold Addr.add;split<;>simp_all
  rw[hadd];refine p _ u ?_;rw[J,jc0 (by rw[s];omega),s,show (i+1)*2+t-(i+1)*2=t by omega];exact b
 have s1:Hid ((qap (l.drop (i+1))).length=(l.length-(i+1))*2):=lv;clear o x y M L N hd1 k H q p I r lv J s hi X v G;by_cases d:cap=i+1
 .subst d;have z1:l.length-i=1:=by have:=f.out;omega
  have B:l.length-1=i:=by have:=f.out;omega
  rw[B,show i+1-i=1 by omega]at hcl;have Z2:Hid (l.length-1=i):=B;clear B q10 q6;have C:Hid (∀t u,(qap (l.drop (i+1)))[t]?=some u->w.drew.cell? (((AD g 0):Addr).add t)=some u):=T.out _ (if_pos rfl);go_enter func127,ntmps127;go_wp2_with fail
  go_region_law (refine step_append_room rfl (.tmp 22) (.tmp 25) 138 rfl 169 D 2 underlying138 E F g 0 i (i+1) (by simp[Act.eval,Act.put]) (AD g 0) (l.length-(i+1)) 0 (qap (l.drop (i+1))) (by simp[Act.eval,Act.put];have:=f.out;omega) s1.out C.out (qwh _) (by have:=f.out;omega) s3.out ?_
                 rw[<-n.out])
  all_goals
   go_wp2_with fail
   go_ret;have a:=n.out;rw[mF]at a;subst a;have f1:=O.out;have W:=P.out;rw[Z2.out]at f1 W ⊢;exact⟨rfl,f1,W⟩
 have C:Hid (∀t u,(qap (l.drop (i+1)))[t]?=some u->w.drew.cell? (((AD g ((i+1)*2)):Addr).add t)=some u):=T.out _ (if_neg d);go_enter func127,ntmps127;go_wp2_with fail
 go_region_law (refine step_append_room rfl (.tmp 22) (.tmp 25) 138 rfl 169 D 2 underlying138 E F g 0 i cap (by simp[Act.eval,Act.put]) (AD g ((i+1)*2)) (l.length-(i+1)) (cap-(i+1)) (qap (l.drop (i+1))) (by simp[Act.eval,Act.put]) s1.out C.out (qwh _) (by have:=f.out;omega) s3.out ?_
                rw[<-n.out])
 all_goals
  go_wp2_with fail
  go_ret;have a:=n.out;rw[mF]at a;subst a;exact⟨rfl,O.out,P.out⟩
section
variable {Z:Wl} {g Y:Nat}
def PWo.dropped (h:PWo w b M W Gs) (o:Bw w w1) (A:M.nv=.slice (PT g) M.l.length Y) (F:i<M.l.length)
 (own:Z.ownsRow 0 169 2 (.slice (PT g) (M.l.length-1) Y) (M.l.length-1) (qap (M.l.eraseIdx i))) (p:yu g w1 Z):
 PWo (Z.setCell (AD b 2) (.slice (PT g) (M.l.length-1) Y)) b {M with nv:=.slice (PT g) (M.l.length-1) Y,l:=M.l.eraseIdx i} (qai W i) Gs/\qc (λk=>k=b\/M.nv.ownBlock=some k) w (Z.setCell (AD b 2) (.slice (PT g) (M.l.length-1) Y)):=by
 have s1:=o.size;have s2:=p.size;have c:M.nv.ownBlock=some g:=by rw[A];rfl
 have d:(Value.slice (PT g) (M.l.length-1) Y).ownBlock=some g:=rfl;have t:g≠b:=λq=>h.sb.2.2 (by rw[c,q]);have E:=h.box.lt;have B:∀k,k<w.heap.size->k≠g->Z.heap[k]?=w.heap[k]?:=λk a u=>(p.block k oe (λe=>by injection e with e;exact u e)).trans (o.block k a)
 have v:(Z.setCell (AD b 2) (.slice (PT g) (M.l.length-1) Y)).heap.size=Z.heap.size:=oF;have r:∀k,k<w.heap.size->k≠g->k≠b->(Z.setCell (AD b 2) (.slice (PT g) (M.l.length-1) Y)).heap[k]?=w.heap[k]?:=λk a u C=>(jce _ _ _ _ (λe=>C e)).trans (B k a u);have y:∀k,M.nv.ownBlock≠some k->k≠g:=λk a e=>a (by rw[c,e]);refine⟨⟨?_,?_,?_,?_,?_,λx m=>?_,?_,⟨h.sb.1,h.sb.2.1,λe=>t (by rw[d]at e;injection e)⟩,λk=>⟨λe=>⟨((h.sr k).1 e).1,λn=>((h.sr k).1 e).2 (by rw[c];rw[d]at n;exact n)⟩,λe n=>(h.sr k).2 e (by rw[c];rw[d]at n;exact n)⟩,λx m=>?_⟩,?_⟩
 .have D:qd Z b _:=(h.box.later o).kept (p.block b oe (λe=>by injection e with e;exact t e.symm)) s2;exact D.set 2 _ oi
 .exact qf h.pr (λk e=>r k (h.pr.lt k e).2 (y k ((h.sr k).1 e).2) (λq=>h.sb.1 (by rw[e,q])))
 .exact qf h.cr (λk e=>r k (h.cr.lt k e).2 (y k ((h.sr k).2 e)) (λq=>h.sb.2.1 (by rw[e,q])))
 .show World.ownsRow _ 0 _ 2 _ (M.l.eraseIdx i).length (qap (M.l.eraseIdx i));rw[List.length_eraseIdx,if_pos F];exact qf own (λk e=>jce _ _ _ _ (λq=>t (by rw[d]at e;injection e with e;exact e.trans q)))
 .show (M.l.eraseIdx i).map (·.g)=W.net.eraseIdx i;rw[<-h.nl,jdf,jdf];simp
 .have q:=jdn m;have s:=h.sg x q;exact(h.gr x q).kept (r _ (h.gr x q).own.lt (y _ s.2.2.2) s.1) (by rw[v];omega)
 .have f:=h.fam.tj (X':=qfw b M) (w':=Z.setCell (AD b 2) (.slice (PT g) (M.l.length-1) Y)) (λj k z e=>r k (h.ltG z e) (λq=>(h.fam.free k (.inr (.inr (.inr (.inl (by rw[c,q])))))).2 j z e) (λq=>(h.fam.free k (.inl q)).2 j z e)) (by rw[v];omega) (λk a=>⟨.inl a,by rw[v];have:=h.ltF k a;omega⟩);refine⟨f.is,f.apart,λk a=>?_,f.half⟩;obtain e|e|e|e|⟨x,m,e⟩:=a
  .exact f.free k (.inl e)
  .exact f.free k (.inr (.inl e))
  .exact f.free k (.inr (.inr (.inl e)))
  .exact f.free k (.inr (.inr (.inr (.inl (by rw[c];rw[d]at e;exact e)))))
  exact f.free k (.inr (.inr (.inr (.inr ⟨x,jdn m,e⟩))))
 .have s:=h.sg x (jdn m);exact⟨s.1,s.2.1,s.2.2.1,λe=>s.2.2.2 (by rw[c];rw[d]at e;exact e)⟩
 refine((qc.ofBelow o).trans (qc.grown p (λk e=>.inr (by rw[c];exact e)))).trans (qc.setCell _ _ _ (.inl rfl))
def PWo.under (h:PWo w b M W Gs) {f:GrS} (x:W.net[i]?=some f):∃m a d,M.l[i]?=some m/\m.g=f/\M.nv=.slice (PT a) M.l.length d/\M.l.length=W.net.length/\w.cell? (AD b 2)=some (.slice (PT a) M.l.length d)/\M.l.length<=d/\a<w.heap.size/\w.cell? (AD a (i*2))=some (U m.g.tj)/\w.cell? (AD a (i*2+1))=some (.slice (PT m.blk) m.S.size m.cap):=by
 have o:M.l.length=W.net.length:=by rw[<-h.nl];simp
 have p:i<M.l.length:=by have:=(jck.1 x).1;omega
 obtain⟨m,e⟩:∃m,M.l[i]?=some m:=⟨_,jcg p⟩;have q:m.g=f:=by
  have:=x;rw[<-h.nl,jcv,e]at this;exact jcu this
 obtain⟨t,d,j,r⟩:=qq h.nr;obtain u|⟨a,rfl,s,k⟩:=r.held
 .omega
 have n:=h.box.c 2;rw[j]at n;exact⟨m,a,d,e,q,j,o,n,r.len,s,k _ _ (qtm e).1,k _ _ (qtm e).2⟩
end
def q88 {b:Nat} {G:Np} {W:WoS} (w:Wl) (h:PW w b G W) (n:W.net.length<=300) {i:Nat} {g:GrS} (A:W.net[i]?=some g):
 Ca 95 #[PP b,U i] w λe w'=>e=.returned (jc 0)/\vh w b G (qai W i) w':=by
 obtain⟨M,Gs,h,t⟩:=h;obtain⟨m,O,P,u,F,o,H,I,Q,R,x0,x1⟩:=h.under A;have p:=(jck.1 u).1;have y:=qey (k:=i) (v:=true) w I ou;have z:=qz2 w (by have:=h.nr;rw[o]at this;exact this) p oe;have a:=hd4 h t o p;have S:(i:Int)<(M.l.length:Int):=oe;have T:(i:Int)<300:=oe;have J:=h.box.lt;clear h t o u F A n H p;go_enter func95,ntmps95;go_wp2_with fail
 refine y.mono ?_;rintro e Z ⟨rfl,B⟩;have K:=B.symm;clear B y;subst K;go_wp2_with fail
 refine z.mono ?_;rintro e L ⟨rfl,C,j⟩;obtain⟨D,E⟩:=a.out.1.dropped (jcc _ w) a.out.2.2.1 a.out.2.2.2 C j;have d:=hd2 D E;have r:qd L b _:=a.out.1.box.kept (j.block b J (λe=>by injection e with e;exact a.out.1.sb.2.2 (by rw[a.out.2.2.1,e];rfl))) j.size;have V:=r.c 2;have X:=r.f 2;clear z C j D E r;go_wp2_with fail
 go_ret;refine⟨rfl,_,⟨_,Gs,d.out.1,λ_=>jdl⟩,λk s=>.inl ((a.out.2.1 k).2 ?_),?_⟩
 .obtain(q|q|q|q|⟨x,N,q⟩)|q:=s
  .exact .inl (.inl q)
  .exact .inl (.inr (.inl q))
  .exact .inl (.inr (.inr (.inl q)))
  .exact .inl (.inr (.inr (.inr (.inl (by rw[a.out.2.2.1];exact q)))))
  .exact .inl (.inr (.inr (.inr (.inr ⟨x,jdn N,q⟩))))
  exact .inr q
 exact⟨d.out.2.os,d.out.2.tape,d.out.2.output,d.out.2.size,λk s n=>d.out.2.block k s (λe=>n ((a.out.2.1 k).2 (.inl (e.elim .inl (λq=>.inr (.inr (.inr (.inl q))))))))⟩
def qp6 (w:Wl) (h:PW w b G W) (u:WfW W) {i:Nat} {g:GrS} (hi:W.net[i]?=some g):
 Ca 89 #[PP b,U i] w λe w'=>e=.returned (jc 0)/\∃A,Hid (zy W i A)/\vh w b G A w':=by
 obtain⟨M,L,h,N⟩:=h;obtain⟨m,y,O,z,ac,B,ad,c2,hnc,hnb,x0,x1⟩:=h.under hi;subst ac;have s:=u.net;have C:=(jck.1 z).1;have P:=jcq z;have Q:=qey (k:=i) (v:=true) w c2 ou;have D:=boxed (jcc _ w) (.cells #[U m.g.tj,.slice (PT m.blk) m.S.size m.cap] 169);have R:=qz2 (w.alloc (.cells #[U m.g.tj,.slice (PT m.blk) m.S.size m.cap] 169)) (by have:=qf h.nr (λk e=>D.block k (h.nr.lt k e).2);rw[B]at this;exact this) C oe;have E:=qd.new (w:=w) (T:=169) [U m.g.tj,.slice (PT m.blk) m.S.size m.cap] rfl;change qd (w.alloc (.cells #[U m.g.tj,.slice (PT m.blk) m.S.size m.cap] 169)) w.heap.size [U m.g.tj,.slice (PT m.blk) m.S.size m.cap]at E;have a:=hd8 h N B C u P hi E;have q1:(i:Int)<(M.l.length:Int):=oe;have q2:(i:Int)<300:=oe;have hlt:=h.box.lt;clear h N B z hi s ad C u P E;go_enter func89,ntmps89;go_wp2_with fail
 refine Q.mono ?_;rintro e w2 ⟨rfl,V⟩;have hw3:=V.symm;clear V Q;subst hw3;go_wp2_with fail
 refine R.mono ?_;rintro e F ⟨rfl,X,d⟩;obtain⟨Y,t⟩:=a.out.1.dropped D a.out.2.2.1 a.out.2.2.2.1 X d;have nne:y≠b:=λe=>a.out.1.sb.2.2 (by rw[a.out.2.2.1,<-e];rfl);have nlt:=hnb
 have s3:w.heap.size+1<=F.heap.size:=by have:=d.size;simpa using this
 have H:qd F b _:=(a.out.1.box.later D).kept (d.block b ou (λe=>by injection e with e;exact nne e.symm)) d.size;have Z:qd F w.heap.size _:=a.out.2.2.2.2.2.2.2.kept (d.block w.heap.size oi (λe=>by injection e with e;omega)) d.size;have e2:=H.c 2;have f2:=H.f 2;have I:=Z.far (AD b 2) (.slice (PT y) (M.l.length-1) O) (by show b≠w.heap.size;omega);have r0:=I.c 0;have r1:=I.c 1;have J:=a.out.1.sg m a.out.2.2.2.2.2.1;have K:=a.out.1.gr m a.out.2.2.2.2.2.1;have aa:=K.kept (t.block m.blk K.own.lt (λe=>e.elim J.1 J.2.2.2)) t.size;have CM:=q79 m _ ⟨_,L,Y,λ_=>jdl⟩ (a.out.2.2.2.2.1.drop i) aa (a.out.2.2.2.2.1.tj m.g (jcq a.out.2.2.2.2.2.2.1));have j:=hd1 t;clear R X d Y t H Z I J K aa;go_wp2_with fail
 refine CM.mono ?_;rintro e w5 ⟨rfl,A,hC,G5,k1,k2,o⟩;go_wp2_with fail
 go_ret;have ab:∀q,qmp b {M with nv:=.slice (PT y) (M.l.length-1) O,l:=M.l.eraseIdx i} ((qai W i).n+(qai W i).c) L q->G q:=λq p=>(a.out.2.1 q).2 (by
  obtain(q|q|q|q|⟨x,hx,q⟩)|q:=p
  .exact .inl (.inl q)
  .exact .inl (.inr (.inl q))
  .exact .inl (.inr (.inr (.inl q)))
  .exact .inl (.inr (.inr (.inr (.inl (by rw[a.out.2.2.1];exact q)))))
  .exact .inl (.inr (.inr (.inr (.inr ⟨x,jdn hx,q⟩))))
  exact .inr q)
 have ts:=j.out.size;refine⟨rfl,A,⟨m.g,a.out.2.2.2.2.2.2.1,hC.out⟩,G5,k1,λq p=>?_,⟨o.os.trans j.out.os,o.tape.trans j.out.tape,o.output.trans j.out.output,jcn ts o.size,λq p s=>?_⟩⟩
 .obtain r|r:=k2 q p
  .exact .inl (ab q r)
  exact .inr oe
 exact(o.block q oe (λr=>s (ab q r))).trans (j.out.block q p (λe=>s ((a.out.2.1 q).2 (.inl (e.elim .inl (λr=>.inr (.inr (.inr (.inl r)))))))))
def qvo (w:Wl) (h:PW w b G W) (n:WfW W):
 Ca 120 #[PP b] w λe w'=>e=.returned (.tuple #[])/\∃T,Hid (qaf W T/\WfW T)/\vh w b G T w':=by
 have o:=hd2 h n;clear h n;go_enter func120,ntmps120;go_wp2_with fail
 go_loopg [2] (qjh W.net) (λk _ wr=>∃A:WoS,qjh A.net<=k/\Hid (WfW A/\vh w b G A wr/\∀T,qaf A T->qaf W T))
 case atStart=>exact⟨W,jcd _,o.out.2,vh.same o.out.1 (jcc _ _),λ_ h=>h⟩
 obtain⟨A,K,a⟩:=hrel;obtain⟨z,d⟩:=a.out.2.1.get;obtain⟨M,L,d,B⟩:=d;have p:M.l.length=A.net.length:=by rw[<-d.nl];simp
 obtain⟨N,O,t,r⟩:=qq d.nr;have C:=d.box.c 2;rw[t]at C;have P:=r.cap;have Q:=r.len;clear r t d B;by_cases f:A.net=[]
 .have q:¬0<(M.l.length:Int):=by rw[p,f];simp
  go_wp2_with fail
  go_end0;exact⟨rfl,A,⟨a.out.2.2 A (.none f),a.out.1⟩,a.out.2.1⟩
 obtain⟨g,u⟩:∃g,A.net[0]?=some g:=by
  cases hn:A.net with
  |nil=>exact absurd hn f
  |cons x r=>exact⟨x,rfl⟩
 have q:0<(M.l.length:Int):=by
  have:A.net.length≠0:=λe=>f (jc2 e);omega
 have D:Hid (Ca 89 #[PP b,U 0] wr λe w'=>e=.returned (jc 0)/\∃T,Hid (zy A 0 T)/\vh w b G T w'):=by
  obtain⟨z,d,s1,v⟩:=a.out.2.1;refine(qp6 (i:=0) wr d a.out.1 u).mono λe w' ⟨E,T,j,m⟩=>⟨E,T,j,?_⟩;obtain⟨F,p1,p2,p3⟩:=m;have s:=v.size;refine⟨F,p1,λq H=>?_,v.more p3 s1⟩;obtain e|e:=p2 q H
  .exact s1 q e
  exact .inr oe
 have I:Hid (A.net≠[]):=f;clear p f u;go_wp2_with fail
 refine D.out.mono ?_;rintro e R ⟨rfl,y,j,m⟩;rw[show jc 0=.nilIface from rfl];have S:=qjk a.out.1 j.out;go_wp2_with fail
 go_roundg (qjh y.net)
 case measure=>omega
 exact⟨y,jcd _,a.out.1.deliver j.out,m,λT J=>a.out.2.2 T (.step I.out j.out J)⟩
structure qet (W W':WoS):Prop where
 n:W'.n=W.n
 c:W'.c=W.c
 wall:W'.wall=W.wall
 ses:W'.ses=W.ses
 at_:W'.at_=W.at_
def qet.refl (W:WoS):qet W W:=⟨rfl,rfl,rfl,rfl,rfl⟩
def qet.trans {A B C:WoS} (h:qet A B) (k:qet B C):qet A C:=⟨k.n.trans h.n,k.c.trans h.c,k.wall.trans h.wall,k.ses.trans h.ses,k.at_.trans h.at_⟩
def qf9.keep (h:qf9 W W'):qet W W':=⟨h.n,h.c,h.wall,h.ses,h.at_⟩
def qeo.keep {g:GrS} (h:qeo W g W'):qet W W':=by
 obtain⟨a,e⟩:=g;cases e with
 |tx t=>
  obtain⟨i,_,rfl⟩:=h;exact⟨rfl,rfl,rfl,rfl,rfl⟩
 |ask site v0 v1 v2 v3=>
  have d:if 0<=site/\site<(W.n:Int)then W'=qbc W a site.toNat v0 v1 v2 v3 else W'=W:=h
  split at d
  .rw[d];have s:=qds site.toNat (qd6 (W.S a) v0 v1 v2 v3) (setSite W a (vp (W.S a) site.toNat v0 v1 v2 v3));exact⟨s.n,s.c,s.wall,s.ses,s.at_⟩
  rw[d];exact qet.refl W
def zy.keep {i:Nat} (h:zy W i W'):qet W W':=by
 obtain⟨g,_,h⟩:=h;have k:=h.keep;exact⟨k.n,k.c,k.wall,k.ses,k.at_⟩
def qaf.keep (h:qaf W W'):qet W W':=by
 induction h with
 |none _=>exact qet.refl _
 |step _ h _ ih=>exact h.keep.trans ih
def qdo.keep {k:Nat} (h:qdo k m W W'):qet W W':=by
 induction h with
 |zero=>exact qet.refl _
 |self _ _ ih=>exact ih
 |ask _ _ h ih=>exact(ih.trans (yb _ _).keep).trans h.keep
def qc1.keep (h:qc1 m W W'):qet W W':=by
 induction h with
 |zero=>exact qet.refl _
 |next _ h ih=>exact ih.trans h.keep
def qg9.keep (h:qg9 W W'):qet W W':=by
 obtain⟨d,a,c⟩:=h;exact a.keep.trans c.keep
def PW.len0 {w:Wl} (h:PW w b G W):∃a i,w.cell? (AD b 0)=some (.slice a W.n i):=by
 obtain⟨M,g,h,_⟩:=h;obtain⟨d,e,f,r⟩:=qq h.pr;have c:=h.box.c 0;rw[f]at c;exact⟨d,e,c⟩
def q71 (w:Wl) (h:PW w b G W) (u:WfW W):
 Ca 85 #[PP b] w λe w'=>e=.returned (.tuple #[])/\∃W',Hid (qg9 W W'/\WfW W')/\vh w b G W' w':=by
 have L:=qvo w h u;have M:=hd1 u.n4;clear h u;go_enter func85,ntmps85;go_wp2_with fail
 refine L.mono ?_;rintro e w1 ⟨rfl,A,v,g⟩;have x:=hd1 g;obtain⟨G1,N⟩:=x.out.get;obtain⟨pa,pc,j⟩:=N.len0;have B:=v.out.1.keep.n;rw[B]at j;have O:=hd1 B;clear L g B N;go_wp2_with fail
 clear j;go_loopw [11] (λiv wr=>∃(k:Nat) (z:Int) (f:WoS),k<=W.n/\z=k/\iv=U z/\Hid (WfW f/\f.n=W.n/\qc1 k A f/\vh w b G f wr)) (λiv _=>W.n-(intOf iv).toNat)
 case atStart=>exact⟨0,0,A,oe,rfl,rfl,v.out.2,O.out,.zero,x.out⟩
 clear x;obtain⟨k,z,f,hk,C,rfl,d⟩:=hrel;have l:=hd1 C;by_cases P:k<W.n
 .have g1:z<(W.n:Int):=oe;have g3:0<=z:=oe;have g4:z<4:=by have:=M.out;omega
  obtain⟨G2,Q⟩:=d.out.2.2.2.get;obtain⟨pa2,pc2,j⟩:=Q.len0;rw[d.out.2.1]at j;clear C Q;go_wp2_with fail
  clear j;go_loopw [19] (λD wr=>∃(m:Nat) (y:Int) (c:WoS),m<=W.n/\y=m/\D=U y/\Hid (WfW c/\c.n=W.n/\qdo k m f c/\vh w b G c wr)) (λD _=>W.n-(intOf D).toNat)
  case atStart=>exact⟨0,0,f,oe,rfl,rfl,d.out.1,d.out.2.1,.zero,d.out.2.2.2⟩
  obtain⟨m,y,c,hm,r,rfl,a⟩:=hrel;have p:=hd1 r;by_cases R:m<W.n
  .have f1:y<(W.n:Int):=oe;have f3:0<=y:=oe;have f4:y<4:=by have:=M.out;omega
   by_cases t:m=k
   .have f5:y=z:=by have:=l.out;omega
    clear r;go_wp2_with fail
    go_roundw
    case rel=>exact⟨m+1,y+1,c,oe,by have:=p.out;omega,oI,a.out.1,a.out.2.1,.self a.out.2.2.1 t,a.out.2.2.2⟩
    simp[intOf];have:=p.out;omega
   have f5:¬y=z:=by have:=l.out;omega
   have S:Hid (Ca 81 #[PP b,U z,U y] wr λe w'=>e=.returned (jc 0)/\vh w b G (qme c k m) w'):=by
        obtain⟨G3,P3,s3,T⟩:=a.out.2.2.2;have:=q7k wr P3 a.out.1 (i:=k) (o:=m) (by rw[a.out.2.1];exact P) (by rw[a.out.2.1];exact R) (λe=>t e.symm);rw[<-l.out,<-p.out]at this;refine this.mono λe w' ⟨E,g⟩=>⟨E,?_⟩;obtain⟨F,p1,p2,p3⟩:=g;have s:=T.size;refine⟨F,p1,λq H=>?_,T.more p3 s3⟩;obtain e|e:=p2 q H
        .exact s3 q e
        exact .inr oe
   have V:=hd3 (show m≠k from t) P R;clear r t;go_wp2_with fail
   refine S.out.mono ?_;rintro e X ⟨rfl,hP4⟩;rw[show jc 0=.nilIface from rfl];have Y:WfW (qme c k m):=a.out.1.send (by show m<c.n;rw[a.out.2.1];exact V.out.2.2);obtain⟨G4,Z,I,J⟩:=hP4
   have BR2:Hid (Ca 120 #[PP b] X λe w'=>e=.returned (.tuple #[])/\∃W',Hid (qaf (qme c k m) W'/\WfW W')/\vh w b G W' w'):=(qvo X Z Y).mono λe w' ⟨E,W',hB,g⟩=>⟨E,W',hB,by
        obtain⟨F,p1,p2,p3⟩:=g;have s:=J.size;refine⟨F,p1,λq H=>?_,J.more p3 I⟩;obtain e|e:=p2 q H
        .exact I q e
        exact .inr oe⟩
   clear S Z I J Y;go_wp2_with fail
   refine BR2.out.mono ?_;rintro e w5 ⟨rfl,W5,K,hP5⟩;go_wp2_with fail
   go_roundw
   case rel=>exact⟨m+1,y+1,W5,oe,by have:=p.out;omega,oI,K.out.2,(K.out.1.keep.n.trans (yb _ _).n).trans a.out.2.1,.ask a.out.2.2.1 V.out.1 K.out.1,hP5⟩
   simp[intOf];have:=p.out;omega
  have f1:¬y<(W.n:Int):=oe;have e:m=W.n:=oe;clear r;go_wp2_with fail
  go_roundw
  case rel=>exact⟨k+1,z+1,c,oe,by have:=l.out;omega,oI,a.out.1,a.out.2.1,.next d.out.2.2.1 (by rw[d.out.2.1,<-e];exact a.out.2.2.1),a.out.2.2.2⟩
  simp[intOf];have:=l.out;omega
 have g1:¬z<(W.n:Int):=oe;have e:k=W.n:=oe;clear C;go_wp2_with fail
 go_end0;exact⟨rfl,f,⟨⟨A,v.out.1,by rw[O.out,<-e];exact d.out.2.2.1⟩,d.out.1⟩,d.out.2.2.2⟩
def qnd (bp:Nat->Nat) (x:Nat->Int) (n:Nat):zt bp x (n+1)=zt bp x n++qum (bp n) (x n):=by
 unfold zt;rw[List.range_succ,List.flatMap_append];simp
def qk8 (bp:Nat->Nat) (x:Nat->Int) (y:Int) {i:Nat}:∀n,i<n->(zt bp x n).set (i*2+1) (U y)=zt bp (jj x i y) n
 |0,h=>oe
 |n+1,h=>by
  rw[qnd,qnd];have a:=qkr bp x n;by_cases q:i=n
  .subst q;rw[List.set_append,if_neg (by rw[a];omega),a,qt];have e:zt bp (jj x i y) i=zt bp x i:=by
    unfold zt;rw[List.flatMap_def,List.flatMap_def];congr 1;refine List.map_congr_left (λj c=>?_);have:=mT.1 c;rw[yq _ _ oe]
   rw[e,show i*2+1-i*2=1 by omega];rfl
  rw[List.set_append,if_pos (by rw[a];omega),qk8 bp x y n oe,yq _ _ (λe=>q e.symm)]
section
variable {A cc:Nat}
def PWo.setAt (h:PWo w b M W Gs) (m:M.cv=.slice (PT A) W.c cc) (r:i<W.c) (a:Nat):PWo (w.setCell (AD A (i*2+1)) (U a)) b M {W with at_:=jj W.at_ i a} Gs/\qc (λk=>k=A) w (w.setCell (AD A (i*2+1)) (U a)):=by
 have d:M.cv.ownBlock=some A:=by rw[m];rfl
 have f:∀k,k≠A->(w.setCell (AD A (i*2+1)) (U a)).heap[k]?=w.heap[k]?:=λk g=>jce _ _ _ _ (λe=>g e)
 have l:(w.setCell (AD A (i*2+1)) (U a)).heap.size=w.heap.size:=oF;refine⟨⟨h.box.kept (f b (λe=>h.sb.2.1 (by rw[d,e]))) (by rw[l];exact jcd _),qf h.pr (λk e=>f k (λq=>((h.sr k).1 e).1 (by rw[d,q]))),?_,qf h.nr (λk e=>f k (λq=>(h.sr k).2 (by rw[d,q]) e)),h.nl,λx n=>(h.gr x n).kept (f _ (λq=>(h.sg x n).2.2.1 (by rw[d,q]))) (by rw[l];exact jcd _),h.fam.tj (λj k p e=>f k (λq=>(h.fam.free k (.inr (.inr (.inl (by rw[d,q]))))).2 j p e)) (by rw[l];exact jcd _) (λk g=>⟨.inl g,by rw[l];exact h.ltF k g⟩),h.sb,h.sr,h.sg⟩,qc.setCell _ _ _ rfl⟩;have o:=h.cr;rw[m]at o ⊢;have s:=(o.stored (i*2+1) (U a)).1;rw[qk8 _ _ _ _ r]at s;have e:(λk=>((jj W.at_ i a k:Nat):Int))=jj (λk=>(W.at_ k:Int)) i (a:Int):=by
  funext k;unfold jj;split<;>rfl
 show World.ownsRow _ 0 _ 2 _ W.c (zt M.bs (λk=>((jj W.at_ i a k:Nat):Int)) W.c);rw[e];exact s
def PWo.setWall (h:PWo w b M W Gs) (g:M.pv=.slice (PT A) W.n cc) (r:i<W.n) (x:Int):PWo (w.setCell (AD A (i*2+1)) (U x)) b M {W with wall:=jj W.wall i x} Gs/\qc (λk=>k=A) w (w.setCell (AD A (i*2+1)) (U x)):=by
 have a:M.pv.ownBlock=some A:=by rw[g];rfl
 have c:∀k,k≠A->(w.setCell (AD A (i*2+1)) (U x)).heap[k]?=w.heap[k]?:=λk d=>jce _ _ _ _ (λe=>d e)
 have f:(w.setCell (AD A (i*2+1)) (U x)).heap.size=w.heap.size:=oF;refine⟨⟨h.box.kept (c b (λe=>h.sb.1 (by rw[a,e]))) (by rw[f];exact jcd _),?_,qf h.cr (λk e=>c k (λq=>((h.sr A).1 a).1 (by rw[<-q];exact e))),qf h.nr (λk e=>c k (λq=>((h.sr A).1 a).2 (by rw[<-q];exact e))),h.nl,λx l=>(h.gr x l).kept (c _ (λq=>(h.sg x l).2.1 (by rw[a,q]))) (by rw[f];exact jcd _),h.fam.tj (λj k m e=>c k (λq=>(h.fam.free k (.inr (.inl (by rw[a,q])))).2 j m e)) (by rw[f];exact jcd _) (λk d=>⟨.inl d,by rw[f];exact h.ltF k d⟩),h.sb,h.sr,h.sg⟩,qc.setCell _ _ _ rfl⟩;have o:=h.pr;rw[g]at o ⊢;have s:=(o.stored (i*2+1) (U x)).1;rw[qk8 _ _ _ _ r]at s;exact s
end
def qll (W:WoS) (i:Nat):Int:=if (W.ses i).opn=true then 6 else 0
def qhx (W:WoS) (i tj:Nat):WoS:=if (W.ses i).opn=true then W else {W with at_:=jj W.at_ i tj}
def q8o {b:Nat} {G:Np} {W:WoS} (w:Wl) (h:PW w b G W) {l:Nat} (hi:i<W.c) (N:l<W.n):
 Ca 98 #[PP b,U i,U l] w λe w'=>e=.returned (jc (qll W i))/\vh w b G (qhx W i l) w':=by
 obtain⟨M,Gs,h,C⟩:=h;obtain⟨O,cc,x,r⟩:=qq h.cr;obtain⟨A,rfl,T,y⟩:∃g,O=some (AD g 0)/\g<w.heap.size/\∀j u,(zt M.bs (λk=>(W.at_ k:Int)) W.c)[j]?=some u->w.cell? (AD g j)=some u:=by
  obtain I|I:=r.held
  .omega
  exact I
 have D:=h.box.c 1;rw[x]at D;obtain⟨V,X,P,Y,Z,y0,y1⟩:=h.place N;have x0:=y _ _ (qea hi).1;have x1:=y _ _ (qea hi).2;have z:=yf (k:=i) (v:=true) w D ou;have B:=yi (k:=l) (v:=true) w P ou;have s:=qmk w (h.sess hi);have hlt:=h.box.lt;have f:=hd4 h C x hi;have o:(i:Int)<(W.c:Int):=oe;have hrl:=r.len;cases ho:(W.ses i).opn
 .have t:Hid (jc (qll W i)=.nilIface/\qhx W i l={W with at_:=jj W.at_ i l}):=⟨by unfold qll;rw[ho];rfl,by unfold qhx;rw[ho];rfl⟩;rw[ho]at s;clear h C y r x ho;go_enter func98,ntmps98;go_wp2_with fail
  refine z.mono ?_;rintro e w2 ⟨rfl,a⟩;have m:=a.symm;clear a z;subst m;go_wp2_with fail
  refine B.mono ?_;rintro e w2 ⟨rfl,a⟩;have m:=a.symm;clear a B;subst m;go_wp2_with fail
  refine s.mono ?_;rintro e J ⟨rfl,p⟩;have E:=f.out.1.later p;have F:=E.cr;rw[f.out.2.2.1]at F;have z1:=cell_later p D;have z2:=cell_later p x1;have fz:J.frozen? (AD A (i*2+1))=false:=by
   obtain⟨q,_⟩|⟨g2,cap2,cur,q,_,Q,_⟩:=F.2
   .cases q
   injection q with o q2 q3;injection o with o;injection o with o;subst o;unfold World.frozen?;rw[Q];simp
  obtain⟨K,L⟩:=E.setAt f.out.2.2.1 f.out.2.2.2 l;have d:=hd3 K L p;clear s E K L F;go_wp2_with fail
  go_ret;refine⟨by rw[t.out.1];rfl,?_⟩;rw[t.out.2];have R:M.cv.ownBlock=some A:=by rw[f.out.2.2.1];rfl
  have s3:=d.out.2.2.size;refine⟨_,⟨M,Gs,d.out.1,λ_=>jdl⟩,λk H=>.inl ((f.out.2.1 k).2 H),?_⟩;exact⟨d.out.2.1.os.trans d.out.2.2.os,d.out.2.1.tape.trans d.out.2.2.tape,d.out.2.1.output.trans d.out.2.2.output,jcn s3 d.out.2.1.size,λk H S=>(d.out.2.1.block k oe (λe=>S ((f.out.2.1 k).2 (.inl (.inr (.inr (.inl (by rw[R,e])))))))).trans (d.out.2.2.block k H)⟩
 have t:Hid (jc (qll W i)=.iface 30 (U 6)/\qhx W i l=W):=⟨by unfold qll;rw[ho];rfl,by unfold qhx;rw[ho];rfl⟩;rw[ho]at s;clear h C y r x ho;go_enter func98,ntmps98;go_wp2_with fail
 refine z.mono ?_;rintro e w2 ⟨rfl,a⟩;have m:=a.symm;clear a z;subst m;go_wp2_with fail
 refine B.mono ?_;rintro e w2 ⟨rfl,a⟩;have m:=a.symm;clear a B;subst m;go_wp2_with fail
 refine s.mono ?_;rintro e J ⟨rfl,p⟩;go_wp2_with fail
 go_ret;refine⟨by rw[t.out.1];rfl,?_⟩;rw[t.out.2];exact vh.same ⟨M,Gs,f.out.1,f.out.2.1⟩ p
def qk3 (x:Int):Int:=if x<=1099511627776 then x else 1099511627776
def qm8 (W:WoS) (i:Nat) (by_:Int):WoS:={W with wall:=jj W.wall i (qk3 (W.wall i+by_))}
def q8u {b:Nat} {G:Np} {W:WoS} (w:Wl) (h:PW w b G W) {i:Nat} (A:i<W.n) {y:Int} (Y:0<=y) (Z:y<=1099511627776) (J:0<=W.wall i) (K:W.wall i<=1099511627776):
 Ca 91 #[PP b,U i,U y] w λe w'=>e=.returned (jc 0)/\vh w b G (qm8 W i y) w':=by
 obtain⟨M,L,h,s⟩:=h;obtain⟨N,pc,l,r⟩:=qq h.pr;obtain⟨m,rfl,hpb,x⟩:∃g,N=some (AD g 0)/\g<w.heap.size/\∀j u,(zt M.bp W.wall W.n)[j]?=some u->w.cell? (AD g j)=some u:=by
  obtain z|z:=r.held
  .omega
  exact z
 have B:=h.box.c 0;rw[l]at B;have x1:=x _ _ (qea A).2;have C:=yi (k:=i) (v:=true) w B ou;have hlt:=h.box.lt;have d:=hd4 h s l A;have f:(i:Int)<(W.n:Int):=oe;have hrl:=r.len;have fz:w.frozen? (AD m (i*2+1))=false:=by
  have D:=h.pr;rw[l]at D;obtain⟨q,_⟩|⟨g2,cap2,cur,q,_,O,_⟩:=D.2
  .cases q
  injection q with f q2 q3;injection f with f;injection f with f;subst f;unfold World.frozen?;rw[O];simp
 obtain⟨a,o⟩:∃a,W.wall i=a:=⟨_,rfl⟩;rw[o]at x1 J K;have hwz:wrap64 (a+y)=a+y:=by unfold wrap64;omega
 have P:Hid (qm8 W i y={W with wall:=jj W.wall i (qk3 (a+y))}):=by show _=_;unfold qm8;rw[o]
 have Q:Hid (∀w',w'=w.drew.setCell (AD m (i*2+1)) (U (qk3 (a+y)))->vh w b G {W with wall:=jj W.wall i (qk3 (a+y))} w'):=λw' e=>by
  subst e;obtain⟨R,S⟩:=(d.out.1.later (jcc _ w).drew).setWall d.out.2.2.1 d.out.2.2.2 (qk3 (a+y));have T:M.pv.ownBlock=some m:=by rw[d.out.2.2.1];rfl
  refine⟨_,⟨M,L,R,λ_=>jdl⟩,λk p=>.inl ((d.out.2.1 k).2 p),?_⟩;have t:=(qc.ofBelow (F:=λk=>k=m) (jcc _ w).drew).trans S;exact⟨t.os,t.tape,t.output,t.size,λk p V=>t.block k p (λe=>V ((d.out.2.1 k).2 (.inl (.inr (.inl (by rw[T,e]))))))⟩
 clear h s x r l o;by_cases E:a+y<=1099511627776;have H:Hid (qk3 (a+y)=a+y):=if_pos E;rotate_left;have H:Hid (qk3 (a+y)=1099511627776):=if_neg E;all_goals
  go_enter func91,ntmps91;go_wp2_with fail
  refine C.mono ?_;rintro e w2 ⟨rfl,I⟩;have X:=I.symm;clear I C;subst X;go_wp2_with fail
  go_region
  all_goals
   go_wp2_with fail
   go_ret;refine⟨rfl,?_⟩;rw[P.out];exact Q.out _ (by rw[H.out];rfl)
def qlr {tmps:Av} {a:Nat} {p0 p1 p2 p3:Int} {c d e f:Vl} (g:qd w a [U p0,U p1,U p2,U p3]) (h:tmps[4]?=some (PP a)) (i:tmps[5]?=some c) (j:tmps[6]?=some d) (l:tmps[7]?=some e) (m:tmps[8]?=some f):
 (results f100 tmps).run prog w=.ok (.tuple #[.agg #[U p0,U p1,U p2,U p3],c,d,e,f]) w:=by
 obtain⟨o,p,q,r⟩:=g.c4;simp[results,results100,go_sem,h,i,j,l,m,o,p,q,r]
variable {W:Wl}
def q7m (h:qd W b [U 0,U 0,U 0,U 0]) (a d e i:Int):qd ((((W.setCell (AD b 0) (U a)).setCell (AD b 1) (U d)).setCell (AD b 2) (U e)).setCell (AD b 3) (U i)) b [U a,U d,U e,U i]:=
 (((h.set 0 _ oi).set 1 _ oi).set 2 _ oi).set 3 _ oi
def qx7 (a:k≠b) (d h i j:Int):((((W.setCell (AD b 0) (U d)).setCell (AD b 1) (U h)).setCell (AD b 2) (U i)).setCell (AD b 3) (U j)).heap[k]?=W.heap[k]?:=by
 have e:∀(V:Wl) (p:Addr) (u:Vl),p.block=b->(V.setCell p u).heap[k]?=V.heap[k]?:=λV p u c=>jce _ _ _ _ (λq=>a (q.trans c));rw[e _ _ _ rfl,e _ _ _ rfl,e _ _ _ rfl,e _ _ _ rfl]
def qe8 (h:Below n w W) (a:n<=b) (d e i j:Int):Below n w ((((W.setCell (AD b 0) (U d)).setCell (AD b 1) (U e)).setCell (AD b 2) (U i)).setCell (AD b 3) (U j)):=
 (((h.setCell (p:=AD b 0) a _).setCell (p:=AD b 1) a _).setCell (p:=AD b 2) a _).setCell (p:=AD b 3) a _
def q45 {B a:Nat} {T:Tp} {v:Vl} {m:Lv} (h:w.ownsRow B T k v n m) (c:a<=B):w.ownsRow a T k v n m:=
 ⟨h.1,h.2.imp (λq=>q) (λ⟨g,i,j,e,d,r⟩=>⟨g,i,j,e,jcn c d,r⟩)⟩
def jab {G:Np} {W:WoS} (w:Wl) (h:PW w b G W) (p:WfW W) {i:Nat} (A:i<W.n):
 Ca 100 #[PP b,U i] w λe w'=>∃v,e=.returned (.tuple #[.agg #[U (W.S i).a0,U (W.S i).a1,U (W.S i).a2,U (W.S i).a3],U (W.S i).waits.length,v,U (W.S i).l.length,.nilIface])/\w'.ownsRow w.heap.size 9 1 v 8 (qej (W.S i).a0 (W.S i).a1 (W.S i).a2 (W.S i).a3 (W.S i).l 8)/\Bw w w':=by
 obtain⟨M,V,h,H⟩:=h;have c:=boxed (jcc _ w) (.cells #[U 0,U 0,U 0,U 0] 113);have g:=qd.new (w:=w) (T:=113) [U 0,U 0,U 0,U 0] rfl;change qd (w.alloc (.cells #[U 0,U 0,U 0,U 0] 113)) w.heap.size [U 0,U 0,U 0,U 0]at g;have j:=(h.site A).later c;obtain⟨X,Y,I,Z,aa,y0,y1⟩:=(h.later c).place A;have hlt:=(h.later c).box.lt;have r:=yi (k:=i) (v:=true) _ I ou;have s:=qff _ j;have a:=hd3 j (p.inv i A) g;have q1:(i:Int)<(W.n:Int):=oe;clear h H p j g;go_enter func100,ntmps100;go_wp2_with fail
 refine r.mono ?_;rintro e w2 ⟨rfl,t⟩;have J:=t.symm;clear t r;subst J;go_wp2_with fail
 refine s.mono ?_;rintro e K ⟨rfl,u⟩;have x:=q3f K (a.out.1.later u);clear s;go_wp2_with fail
 refine x.mono ?_;rintro e y ⟨rfl,L⟩;have m:=qa u L;have z:=q6f y (a.out.1.later m) a.out.2.1;clear x;go_wp2_with fail
 refine z.mono ?_;rintro e N ⟨v,rfl,o,O⟩;have B:=qa m O;have C:=q1v N (a.out.1.later B) a.out.2.1;clear z;go_wp2_with fail
 refine C.mono ?_;rintro e w6 ⟨rfl,D⟩;have E:=qa B D;have d:=a.out.2.2.later E;have s4:w.heap.size<y.heap.size:=by have:=m.size;simp at this;omega
 have F:=qf o (λk e=>D.block k (o.lt k e).2);have f:=hd3 F d (qa c E);obtain⟨a0,a1,a2,a3⟩:=d.c4;obtain⟨f0,f1,f2,f3⟩:=d.f4;clear C o F d;go_wp2_with fail
 have P:=q7m f.out.2.1 (W.S i).a0 (W.S i).a1 (W.S i).a2 (W.S i).a3;have Q:=qe8 f.out.2.2 (jcd _) (W.S i).a0 (W.S i).a1 (W.S i).a2 (W.S i).a3;have R:=qf f.out.1 (λk e=>qx7 (b:=w.heap.size) (λq=>by have:=(f.out.1.lt k e).1;omega) (W.S i).a0 (W.S i).a1 (W.S i).a2 (W.S i).a3);refine bodyPost_ret (qlr P rfl rfl rfl rfl rfl) rfl ⟨v,rfl,?_,Q⟩;exact q45 R oe
end
section
open _root_.Go.Proofs.Tryz
def swV (W:WoS) (k:Nat):Nat->V4
 |0=>qj (W.S k) (jw W.n)
 |j+1=>if W.at_ j=k/\(W.ses j).opn=true then ⟨qm (swV W k j).v0 (W.ses j).s0,qm (swV W k j).v1 (W.ses j).s1,qm (swV W k j).v2 (W.ses j).s2,qm (swV W k j).v3 (W.ses j).s3⟩else swV W k j
def v4C (v:V4):Lv:=[U v.v0,U v.v1,U v.v2,U v.v3]
def qo2 (W:WoS) (k:Nat):WoS:=setSite W k {W.S k with l:=qcr (qm (swV W k W.c).v0 (W.S k).a0) (qm (swV W k W.c).v1 (W.S k).a1) (qm (swV W k W.c).v2 (W.S k).a2) (qm (swV W k W.c).v3 (W.S k).a3) (W.S k).l}
def qmu {W:Wl} {a c d e:Int} (h:qd W b [U a,U c,U d,U e]) (i j k m:Int):qd ((((W.setCell (AD b 0) (U i)).setCell (AD b 1) (U j)).setCell (AD b 2) (U k)).setCell (AD b 3) (U m)) b (v4C ⟨i,j,k,m⟩):=
 (((h.set 0 _ oi).set 1 _ oi).set 2 _ oi).set 3 _ oi
def q5f {G:Nat->Prop} {W:WoS} (w:Wl) (h:PW w b G W) (N:WfW W) {i:Nat} (hi:i<W.n):
 Ca 101 #[PP b,U i] w λe w'=>e=.returned (jc 0)/\vh w b G (qo2 W i) w':=by
 obtain⟨M,Gs,h,hG⟩:=h;have a:=hd4 h hG N hi;obtain⟨pb,pc,c0,hpc,hpb,y0,y1⟩:=h.place hi;have hlt:=h.box.lt;have IS:=yi (k:=i) (v:=true) w c0 ou;have ST:=qv5 (W.n:Int) w (h.site hi);have q1:(i:Int)<(W.n:Int):=oe;have HC6:=hd1 N.c6;clear h hG N;go_enter func101,ntmps101;go_wp2_with fail
 refine IS.mono ?_;rintro e w2 ⟨rfl,hw2⟩;have hw3:=hw2.symm;clear hw2 IS;subst hw3;go_wp2_with fail
 refine ST.mono ?_;rintro e p ⟨rfl,O⟩;obtain⟨V,P⟩:∃V,qj (W.S i) (jw W.n)=V:=⟨_,rfl⟩;rw[P];have bz:=boxed (jcc _ p) (.cells #[U V.v0,U V.v1,U V.v2,U V.v3] 113);have C:=qd.new (w:=p) (T:=113) [U V.v0,U V.v1,U V.v2,U V.v3] rfl;change qd (p.alloc (.cells #[U V.v0,U V.v1,U V.v2,U V.v3] 113)) p.heap.size [U V.v0,U V.v1,U V.v2,U V.v3]at C;have D:=qa O bz;obtain⟨ca,cc,hcv,r⟩:=qq a.out.1.cr;have c1:=cell_later D (a.out.1.box.c 1);rw[hcv]at c1;have hlt4:=jci hlt D.size;have hrl:=r.len;have HR:=hd1 r;have HV:=hd1 P;clear ST c0 y0 y1 r hcv P;go_wp2_with fail
 obtain⟨E,hw4⟩:∃E,p.alloc (.cells #[U V.v0,U V.v1,U V.v2,U V.v3] 113)=E:=⟨_,rfl⟩;rw[hw4]at C D ⊢;obtain⟨d,Q⟩:∃d,p.heap.size=d:=⟨_,rfl⟩;have hvw:w.heap.size<=d:=by rw[<-Q];exact O.size
 rw[Q]at C ⊢;have R:=hd3 (show qd E d (v4C (swV W i 0))from by show qd E d (v4C (qj (W.S i) (jw W.n)));rw[HV.out];exact C) D hvw;clear hw4 Q bz C O c1 hlt4 D;go_loopw [34] (λiv wr=>∃(j:Nat) (z:Int),j<=W.c/\z=j/\iv=U z/\Hid (qd wr d (v4C (swV W i j))/\Bw w wr)) (λiv _=>W.c-(intOf iv).toNat)
 case atStart=>exact⟨0,0,oe,rfl,rfl,R.out.1,R.out.2.1⟩
 obtain⟨j,z,hj,X,rfl,l⟩:=hrel;have s:=hd1 X;by_cases F:j<W.c
 .have g1:z<(W.c:Int):=oe;have g2:z.toNat=j:=oe;have g3:0<=z:=oe;have g4:z<6:=by have:=HC6.out;omega
  clear X;obtain⟨cb,hca,hcb,Y⟩:∃g,ca=some (AD g 0)/\g<w.heap.size/\∀j u,(zt M.bs (λk=>(W.at_ k:Int)) W.c)[j]?=some u->w.cell? (AD g j)=some u:=by
   obtain h0|h0:=HR.out.held
   .omega
   exact h0
  subst hca;have x0:=cell_later l.out.2 (Y _ _ (qea F).1);have x1o:=cell_later l.out.2 (Y _ _ (qea F).2);obtain⟨m,Z⟩:∃m:Int,(W.at_ j:Int)=m:=⟨_,rfl⟩;have x1:wr.cell? (AD cb (j*2+1))=some (U m):=by rw[<-Z];exact x1o
  have HAJ:=hd1 Z;clear Z x1o;have bx:=boxed (jcc _ wr) (.cells #[PP (M.bs j),U m] 149);have hbx:=qa l.out.2 bx;have t:=qmk _ ((a.out.1.sess F).later hbx);have RB:=l.out.1.later bx;have o:=hd3 RB hbx (qd.new (w:=wr) (T:=149) [PP (M.bs j),U m] rfl);clear Y RB;by_cases H:m=(i:Int)
  .subst H;have HAI:Hid (W.at_ j=i):=by have:=HAJ.out;show _=_;omega
   cases ho:(W.ses j).opn
   .have x:Hid (swV W i (j+1)=swV W i j):=if_neg (λq=>by rw[ho]at q;cases q.2);rw[ho]at t;clear ho;go_wp2_with fail
    refine t.mono ?_;rintro e I ⟨rfl,y⟩;go_wp2_with fail
    go_roundw
    case rel=>exact⟨j+1,z+1,oe,by have:=s.out;omega,oI,by rw[x.out];exact o.out.1.later y,qa o.out.2.1 y⟩
    simp[intOf];have:=s.out;omega
   have x:Hid (swV W i (j+1)=⟨qm (swV W i j).v0 (W.ses j).s0,qm (swV W i j).v1 (W.ses j).s1,qm (swV W i j).v2 (W.ses j).s2,qm (swV W i j).v3 (W.ses j).s3⟩):=if_pos ⟨HAI.out,ho⟩;rw[ho]at t;clear ho;go_wp2_with fail
   refine t.mono ?_;rintro e I ⟨rfl,y⟩;obtain⟨v,hv⟩:∃v,swV W i j=v:=⟨_,rfl⟩;have J:qd I d [U v.v0,U v.v1,U v.v2,U v.v3]:=by have:=o.out.1.later y;rw[hv]at this;exact this
   have K:=o.out.2.2.later y;have A:=qa o.out.2.1 y;have SN:=hd1 (qrq _ ((a.out.1.sess F).later A.drew));have MI:Hid (∀w',Ca 139 #[.agg #[U v.v0,U v.v1,U v.v2,U v.v3],.agg #[U (W.ses j).s0,U (W.ses j).s1,U (W.ses j).s2,U (W.ses j).s3]] w' λe w''=>e=.returned (.agg #[U (qm v.v0 (W.ses j).s0),U (qm v.v1 (W.ses j).s1),U (qm v.v2 (W.ses j).s2),U (qm v.v3 (W.ses j).s3)])/\Bw w' w''):=λw'=>qn5 _ _ _ _ _ _ _ _ w';rw[hv]at x;have HF:=hd3 J A K;obtain⟨a0,a1,a2,a3⟩:=J.c4;have k0:=K.c 0;have lv:=J.lt;have lc:=K.lt;clear t J K x0 x1 hv bx hbx
   go_wp2_with fail
   go_region_law (first
        |(refine qah rfl 122 rfl #[PP (M.bs j)] (by go_simp) SN.out ?_
          rintro e w6 ⟨rfl,hb6⟩;refine⟨_,rfl,?_⟩;have L:=HF.out.1.later (qa (jcc _ I).drew hb6);have b0:=L.c 0;have b1:=L.c 1;have b2:=L.c 2;have b3:=L.c 3)
        |(refine qah rfl 139 rfl #[.agg #[U v.v0,U v.v1,U v.v2,U v.v3],.agg #[U (W.ses j).s0,U (W.ses j).s1,U (W.ses j).s2,U (W.ses j).s3]] (by go_simp) (MI.out w6) ?_
          rintro e w7 ⟨rfl,hb7⟩;refine⟨_,rfl,?_⟩;have hb57:=qa (qa (jcc _ I).drew hb6) hb7;have B:=HF.out.1.later hb57;obtain⟨d0,d1,d2,d3⟩:=B.c4;have f0:=B.f 0;have f1:=B.f 1;have f2:=B.f 2;have f3:=B.f 3))
   all_goals
        go_wp2_with fail
        go_roundw
        case rel=>exact⟨j+1,z+1,oe,by have:=s.out;omega,oI,by rw[x.out];exact qmu B _ _ _ _,qe8 (qa HF.out.2.1 hb57) R.out.2.2 _ _ _ _⟩
        simp[intOf];have:=s.out;omega
  have x:Hid (swV W i (j+1)=swV W i j):=if_neg (λq=>H (by have:=HAJ.out;have:=q.1;omega));have hq1:(m==(i:Int))=false:=by simp[H]
  have hq2:=decide_eq_false H;clear t;go_wp2_with fail
  go_roundw
  case rel=>exact⟨j+1,z+1,oe,by have:=s.out;omega,oI,by rw[x.out];exact o.out.1,o.out.2.1⟩
  simp[intOf];have:=s.out;omega
 have g1:¬z<(W.c:Int):=oe;have e:j=W.c:=oe;subst e;have R9:=l.out.1;have H9:=a.out.1.later l.out.2;have SW:=qx0 (swV W i W.c).v0 (swV W i W.c).v1 (swV W i W.c).v2 (swV W i W.c).v3 wr (H9.site a.out.2.2.2) (a.out.2.2.1.inv i a.out.2.2.2);obtain⟨z0,z1,z2,z3⟩:=R9.c4;clear X R9;go_wp2_with fail
 refine SW.mono ?_;rintro e w9 ⟨rfl,hp⟩;go_wp2_with fail
 go_ret;exact⟨rfl,vh.from l.out.2 (H9.stepS a.out.2.1 a.out.2.2.2 hp)⟩
end
section
def qis {now c d e f:Int} {ws:List Wr} (a:j3 S) (l:qfl S now c d e f ws=0):okT (zv S now c d e f ws)=true:=by
 obtain⟨m,b,t,u,n⟩:=qip l;obtain⟨o,p,v⟩:=q43 n;have w:=a.own;have x:qoz S S.id<=200:=by have:=a.log;show qp S.id _ _ _ _<=200;omega
 have q:0<=qoz S S.id:=(a.dep S.id).1;have r:jb (qch S.id (qoz S S.id) c) (qcl S.id (qoz S S.id) d) (qck S.id (qoz S S.id) e) (qcj S.id (qoz S S.id) f)=true:=by
  have h:=qf7 q oe;simp only[jb,jct]at b ⊢;refine⟨⟨⟨?_,?_⟩,?_⟩,?_⟩
  .unfold qch;split;exact h;exact b.1.1.1
  .unfold qcl;split;exact h;exact b.1.1.2
  .unfold qck;split;exact h;exact b.1.2
  unfold qcj;split;exact h;exact b.2
 show jt S.id (qoz S S.id+1) (qcp S.lw S.lc now).1 (qcp S.lw S.lc now).2.1 (qch S.id (qoz S S.id) c) (qcl S.id (qoz S S.id) d) (qck S.id (qoz S S.id) e) (qcj S.id (qoz S S.id) f) ws=true;unfold jt;simp only[jct,jk,decide_eq_true_eq];refine⟨⟨⟨⟨⟨⟨a.id0,a.id3⟩,⟨oe,oe⟩⟩,⟨o,p⟩⟩,r⟩,?_⟩,m⟩;rw[q3w _ _ _ _ _ _ S.id a.id0 a.id3,if_pos rfl];omega
variable {s:qy}
def qxy {now:Int} (h:0<(qce S s now).seq):qfl S now s.s0 s.s1 s.s2 s.s3 (jh s.ws)=0/\qce S s now=zv S now s.s0 s.s1 s.s2 s.s3 (jh s.ws):=by
 unfold qce at h ⊢;by_cases q:s.opn=false\/(jh s.ws).length=0
 .rw[if_pos q]at h;exact absurd h oj
 rw[if_neg q]at h ⊢;unfold qha at h ⊢;by_cases e:qfl S now s.s0 s.s1 s.s2 s.s3 (jh s.ws)=0
 .rw[if_pos e];exact⟨e,rfl⟩
 rw[if_neg e]at h;exact absurd h oj
def qju {a b:Int} (h:0<=a):0<=jd a b:=by unfold jd;split<;>omega
def q8n {now:Int} (h:0<=s.p0):0<=(j0 S s now).p0:=by
 unfold j0;split
 .exact h
 split
 .exact qju h
 show 0<=(if _ then jd (jd s.p0 s.s0) _ else jd s.p0 s.s0);split
 .exact qju (qju h)
 exact qju h
def q24 {now:Int} (a:j3 S) (h:∀x∈S.log,okT x=true):(∀x∈(qcc S s now).log,okT x=true)/\(qcc S s now).id=S.id/\(qcc S s now).waits=S.waits:=by
 unfold qcc;split
 .exact⟨h,rfl,rfl⟩
 unfold qf3;split
 .rename_i e;refine⟨λx b=>?_,rfl,rfl⟩;rcases jcf.1 (show x∈S.log++[_]from b)with q|q
  .exact h x q
  rw[jcj.1 q];exact qis a e
 exact⟨h,rfl,rfl⟩
structure PlI (j:Nat) (W:WoS):Prop where
 wf:WfW W
 nt:qeq W
 ps:∀k,k<W.c->0<=(W.ses k).p0
 wl:∀i,i<W.n->0<=W.wall i/\W.wall i<=1099511627776
 ln:∀k,k<W.c->(W.ses k).ws.length<=j
section
variable {z:WoS} {j:Nat}
def PlI.mono (h:PlI j W) {m:Nat} (a:j<=m):PlI m W:=⟨h.wf,h.nt,h.ps,h.wl,λk b=>jcn (h.ln k b) a⟩
def PlI.new {n c:Nat} (b:1<=n) (d:n<=4) (e:c<=6):PlI 0 (qcb n c):=
 ⟨⟨b,d,e,λk _=>(show (0:Nat)<n by omega),λi h=>j3.new (show (0:Int)<=(i:Int) by omega) (show (i:Int)<=3 by have:i<n:=h;omega),λi _=>rfl,(jcw _:0<=300),λi _=>(jcw _:0<=40),λi _ x f=>(by cases f),λg a=>(by cases a)⟩,λg a=>(by cases a),λk _=>(Int.le_refl 0),λi _=>⟨Int.le_refl 0,(by show (0:Int)<=_;decide)⟩,λk _=>jcd 0⟩
def PlI.keep (h:PlI j W) (a:WfW z) (b:qeq z) (k:qet W z):PlI j z:=⟨a,b,by rw[k.c,k.ses];exact h.ps,by rw[k.n,k.wall];exact h.wl,by rw[k.c,k.ses];exact h.ln⟩
def WfW.sessions (h:WfW W) (f:Nat->qy):WfW {W with ses:=f}:=⟨h.n1,h.n4,h.c6,h.at_,h.inv,h.id,h.net,h.wt,h.lok,h.tj⟩
def PlI.ses (h:PlI j W) {a:qy} (b:0<=a.p0) (c:a.ws.length<=j):PlI j (vf W k a):=by
 refine⟨h.wf.sessions _,h.nt,λi d=>?_,h.wl,λi d=>?_⟩<;>show (_:Prop)<;>by_cases q:i=k
 .show 0<=(jj W.ses k a i).p0;rw[q,qt];exact b
 .show 0<=(jj W.ses k a i).p0;rw[yq _ _ q];exact h.ps i d
 .show (jj W.ses k a i).ws.length<=j;rw[q,qt];exact c
 show (jj W.ses k a i).ws.length<=j;rw[yq _ _ q];exact h.ln i d
def PlI.begin (h:PlI j W) (a:k<W.c):PlI j (vf W k (qhd (W.S (W.at_ k)) (W.ses k))):=by
 unfold qhd;split
 .exact h.ses (h.ps k a) (jcw _)
 exact h.ses (h.ps k a) (h.ln k a)
def PlI.write (h:PlI j W) (a:k<W.c) (x:Wr):PlI (j+1) (vf W k (qd2 (W.ses k) x)):=by
 have:=h.ln k a;unfold qd2;split
 .exact(h.mono (Nat.le_succ j)).ses (h.ps k a) ou
 exact(h.mono (Nat.le_succ j)).ses (h.ps k a) oe
def PlI.abort (h:PlI j W) (a:k<W.c):PlI j (vf W k (qhh (W.ses k))):=by
 unfold qhh;split
 .exact h.ses (h.ps k a) (h.ln k a)
 exact h.ses (qju (h.ps k a)) (jcw _)
def q6a {now:Int}:(j0 S s now).ws.length<=s.ws.length:=by
 unfold j0;split
 .exact jcd _
 split
 .exact jcw _
 exact jcw _
def PlI.told (h:PlI j W) (b:k<W.c) (d:0<(wcT W k).seq):okT (wcT W k)=true/\(wcT W k).site=(W.at_ k:Int):=by
 have a:=h.wf.at_ k b;obtain⟨f,l⟩:=qxy d;have e:wcT W k=_:=l;rw[e];exact⟨qis (h.wf.inv _ a) f,h.wf.id _ a⟩
def PlI.commit (h:PlI j W) (b:k<W.c):PlI j (wcW W k):=by
 have a:=h.wf.at_ k b;have d:=q24 (s:=W.ses k) (now:=W.wall (W.at_ k)) (h.wf.inv _ a) (h.wf.lok _ a);have e:=h.wf.setSite (h.wf.inv _ a).scom (d.2.1.trans (h.wf.id _ a)) (by rw[d.2.2];exact h.wf.wt _ a) d.1;have p0:PlI j (setSite W (W.at_ k) (qcc (W.S (W.at_ k)) (W.ses k) (W.wall (W.at_ k)))):=⟨e,h.nt,h.ps,h.wl,h.ln⟩;have p1:PlI j (qd4 W k):=p0.ses (q8n (h.ps k b)) (jcn q6a (h.ln k b));unfold wcW;split
 .rename_i q;exact p1.keep (WfW.tell _ _ p1.wf (jcd _)) (p1.nt.tell (h.told b q).1 _) (zx _ _ _).keep
 exact p1
def PlI.move (h:PlI j W) {a:Nat} (b:a<W.n):PlI j (qhx W k a):=by
 unfold qhx;split
 .exact h
 refine⟨⟨h.wf.n1,h.wf.n4,h.wf.c6,λi d=>?_,h.wf.inv,h.wf.id,h.wf.net,h.wf.wt,h.wf.lok,h.wf.tj⟩,h.nt,h.ps,h.wl,h.ln⟩;show jj W.at_ k a i<W.n;by_cases q:i=k
 .rw[q,qt];exact b
 rw[yq _ _ q];exact h.wf.at_ i d
def PlI.goes (h:PlI j W) {y:Int} (b:0<=y) (d:i<W.n):PlI j (qm8 W i y):=by
 refine⟨⟨h.wf.n1,h.wf.n4,h.wf.c6,h.wf.at_,h.wf.inv,h.wf.id,h.wf.net,h.wf.wt,h.wf.lok,h.wf.tj⟩,h.nt,h.ps,λm a=>?_,h.ln⟩;show 0<=jj W.wall i (qk3 (W.wall i+y)) m/\jj W.wall i (qk3 (W.wall i+y)) m<=_;by_cases q:m=i
 .rw[q,qt];have:=h.wl i d;unfold qk3;split<;>omega
 rw[yq _ _ q];exact h.wl m a
def PlI.send (h:PlI j W) (a:g.tj<W.n) (b:q69 W.n g):PlI j (zk W g):=h.keep (h.wf.send a) (h.nt.send b) (yb _ _).keep
def PlI.deliver (h:PlI j W) (a:zy W i z):PlI j z:=h.keep (h.wf.deliver a) (h.nt.deliver h.wf a) a.keep
def PlI.drop (h:PlI j W) (i:Nat):PlI j (qai W i):=⟨h.wf.drop i,h.nt.drop i,h.ps,h.wl,h.ln⟩
def PlI.sweep (h:PlI j W) (a:i<W.n):PlI j (qo2 W i):=⟨h.wf.setSite ((h.wf.inv i a).swept _ _ _ _) (h.wf.id i a) (h.wf.wt i a) (h.wf.lok i a),h.nt,h.ps,h.wl,h.ln⟩
end
end
section
open _root_.Go.Proofs.Tryz
def qjo {tmps:Av} {w:Wl} {a c:Nat} {p0 p1 p2 p3 s0 s1 s2 s3:Int} {d e f:Vl} (g:qd w a [U p0,U p1,U p2,U p3]) (h:qd w c [U s0,U s1,U s2,U s3]) (i:tmps[4]?=some d) (j:tmps[5]?=some (PP a)) (k:tmps[6]?=some (PP c)) (l:tmps[7]?=some e) (m:tmps[8]?=some f):
 (results f86 tmps).run prog w=.ok (.tuple #[d,.agg #[U p0,U p1,U p2,U p3],.agg #[U s0,U s1,U s2,U s3],e,f]) w:=by
 obtain⟨n,o,p,q⟩:=g.c4;obtain⟨r,s,t,u⟩:=h.c4;simp[results,results86,go_sem,i,j,k,l,m,n,o,p,q,r,s,t,u]
variable {W:Wl} {A:Lv}
def qwb (h:qd W b A) (e:A.length=4) (i j k m:Int):qd ((((W.setCell (AD b 0) (U i)).setCell (AD b 1) (U j)).setCell (AD b 2) (U k)).setCell (AD b 3) (U m)) b [U i,U j,U k,U m]:=by
 obtain⟨a,f,c,d,rfl⟩:∃a b c d,A=[a,b,c,d]:=by
  match A,e with
  |[a,b,c,d],_=>exact⟨a,b,c,d,rfl⟩
 exact(((h.set 0 _ oi).set 1 _ oi).set 2 _ oi).set 3 _ oi
def qpq {q:Nat} (h:qd W b A) (a:q≠b) (d e i j:Int):qd ((((W.setCell (AD q 0) (U d)).setCell (AD q 1) (U e)).setCell (AD q 2) (U i)).setCell (AD q 3) (U j)) b A:=
 (((h.far _ _ a).far _ _ a).far _ _ a).far _ _ a
def q26 {G:Nat->Prop} {W:WoS} (w:Wl) (h:PW w b G W) {i:Nat} (hi:i<W.c):
 Ca 86 #[PP b,U i] w (Rn (.tuple #[U (W.at_ i),.agg #[U (W.ses i).p0,U (W.ses i).p1,U (W.ses i).p2,U (W.ses i).p3],.agg #[U (W.ses i).s0,U (W.ses i).s1,U (W.ses i).s2,U (W.ses i).s3],.bool (W.ses i).opn,.nilIface]) w):=by
 obtain⟨M,S,h,B⟩:=h;have m:=boxed (boxed (jcc _ w) (.cells #[U 0,U 0,U 0,U 0] 113)) (.cells #[U 0,U 0,U 0,U 0] 113);obtain⟨cb,V,C,X,Y,x0,x1⟩:=(h.later m).client hi;have p:=yf (k:=i) (v:=true) _ C ou;have j:=(boxed m (.cells #[PP (M.bs i),U (W.at_ i)] 149)).drew;have D:=hd1 (λw' g=>q00 w' ((h.sess hi).later g));have E:=hd1 (λw' g=>qrq w' ((h.sess hi).later g));have F:=hd1 (λw' g=>qmk w' ((h.sess hi).later g));have r:qd ((w.alloc (.cells #[U 0,U 0,U 0,U 0] 113)).alloc (.cells #[U 0,U 0,U 0,U 0] 113)) w.heap.size [U 0,U 0,U 0,U 0]:=(qd.new (w:=w) (T:=113) [U 0,U 0,U 0,U 0] rfl).boxed _;have s:qd ((w.alloc (.cells #[U 0,U 0,U 0,U 0] 113)).alloc (.cells #[U 0,U 0,U 0,U 0] 113)) (w.heap.size+1) [U 0,U 0,U 0,U 0]:=qd.new (T:=113) [U 0,U 0,U 0,U 0] oi;have Z:(i:Int)<(W.c:Int):=oe;have aa:=(h.later m).box.lt;have t:=hd2 r s;have u:=(boxed (jcc _ ((w.alloc (.cells #[U 0,U 0,U 0,U 0] 113)).alloc (.cells #[U 0,U 0,U 0,U 0] 113))) (.cells #[PP (M.bs i),U (W.at_ i)] 149)).drew;have x:qd (((w.alloc (.cells #[U 0,U 0,U 0,U 0] 113)).alloc (.cells #[U 0,U 0,U 0,U 0] 113)).alloc (.cells #[PP (M.bs i),U (W.at_ i)] 149)).drew (w.heap.size+1+1) [PP (M.bs i),U (W.at_ i)]:=(qd.new (T:=149) [PP (M.bs i),U (W.at_ i)] oi).drew;have H:=x;have Y0:=λ(w':Wl) (h:qd w' (w.heap.size+1+1) [PP (M.bs i),U (W.at_ i)])=>h.c 0;have Y1:=λ(w':Wl) (h:qd w' (w.heap.size+1+1) [PP (M.bs i),U (W.at_ i)])=>h.c 1;clear h B r s x;go_enter func86,ntmps86
 go_wp2_with fail
 refine p.mono ?_;rintro e w2 ⟨rfl,y⟩;have I:=y.symm;clear y p;subst I;go_wp2_with fail
 go_region_held3 (λw'=>qd w' (w.heap.size+1+1) [PP (M.bs i),U (W.at_ i)]) (first|with_reducible assumption|(with_reducible refine qpq ?_ oe _ _ _ _;with_reducible assumption))
  (first
    |(go_at_call 121;(with_reducible refine(D.out _ j).mono ?_);rintro e w3 ⟨rfl,l⟩;have J:=H.later l)
    |(go_at_call 122;(with_reducible refine(E.out _ (qa j l)).mono ?_);rintro e w4 ⟨rfl,n⟩;have K:=J.later n)
    |(go_at_call 123;(with_reducible refine(F.out _ (qa (qa j l) n)).mono ?_);rintro e w5 ⟨rfl,z⟩;have C5:=K.later z;have o:=qa (qa l n) z;have a:=(t.out.1.later u).later o;have d:=(t.out.2.later u).later o;have a0:=a.c 0;have a1:=a.c 1;have a2:=a.c 2;have a3:=a.c 3;have f0:=a.f 0;have f1:=a.f 1;have f2:=a.f 2;have f3:=a.f 3;have d0:=d.c 0;have d1:=d.c 1;have d2:=d.c 2;have d3:=d.c 3;have e0:=d.f 0;have e1:=d.f 1;have e2:=d.f 2;have e3:=d.f 3;have L:=qa j o))
 all_goals
  go_wp2_with fail
  have N:=qwb a rfl (W.ses i).p0 (W.ses i).p1 (W.ses i).p2 (W.ses i).p3;have O:=qpq (q:=w.heap.size) d oe (W.ses i).p0 (W.ses i).p1 (W.ses i).p2 (W.ses i).p3;have P:=qpq (q:=w.heap.size+1) N oe (W.ses i).s0 (W.ses i).s1 (W.ses i).s2 (W.ses i).s3;have Q:=qwb O rfl (W.ses i).s0 (W.ses i).s1 (W.ses i).s2 (W.ses i).s3;have R:=qe8 (b:=w.heap.size+1) (qe8 (b:=w.heap.size) L oe (W.ses i).p0 (W.ses i).p1 (W.ses i).p2 (W.ses i).p3) oe (W.ses i).s0 (W.ses i).s1 (W.ses i).s2 (W.ses i).s3;refine bodyPost_ret (qjo P Q rfl rfl rfl rfl rfl) rfl ⟨rfl,R⟩
end
section
open _root_.Go.Proofs.Tryz
def qdl {tmps:Av} {w:Wl} {x y z A d e f g:Int} {B:Vl} {a:Oa} {n c:Nat} (h:qd w b (T9 x y z A d e f g a n c)) (i:tmps[4]?=some (PP b)) (j:tmps[5]?=some B):
 (results f88 tmps).run prog w=.ok (.tuple #[.agg (List.toArray (T9 x y z A d e f g a n c)),B]) w:=by
 obtain⟨k,l,m,o,p,q,r,s,t⟩:=h.c9;simp[results,results88,go_sem,i,j,k,l,m,o,p,q,r,s,t]
def q04 {G:Np} {W:WoS} (w:Wl) (h:PW w b G W) (hw:WfW W) {i:Nat} (hi:i<W.c) (hok:0<(wcT W i).seq->okT (wcT W i)=true):
 Ca 88 #[PP b,U i] w (q9n w b G W i):=by
 obtain⟨M,L,h,hG⟩:=h;have ha:=hw.at_ i hi;have u:=hd6 h hG hi ha hw.n4 hok;have hb0:=boxed (jcc _ w) (.cells ZA 122);have RT:=qd.new (w:=w) (T:=122) ZL rfl;change qd (w.alloc (.cells ZA 122)) w.heap.size ZL at RT;obtain⟨cb,cc,c1,hcc,hcb,x0,x1⟩:=h.client hi;obtain⟨pb,pc,c0,hpc,hpb,y0,y1⟩:=h.place ha;have hlt:=h.box.lt;have IC:=yf (k:=i) (v:=true) _ (cell_later hb0 c1) ou;have BG:Hid (∀w':Wl,Bw w w'->Ca 124 #[PP (M.bs i),.pointer (some (AD (M.bp (W.at_ i)) 0)),U (W.wall (W.at_ i))] w' λe z=>∃(j d l o p q r s:Int) (a:List Wr) (f:Oa) (g:Nat),e=.returned (.tuple #[.agg (List.toArray (T9 j d l o p q r s f a.length g)),jc (wcE W i)])/\Hid (⟨j,d,l,o,p,q,r,s,a⟩=wcT W i/\qr z f g a/\Bw w w'/\qfx (qix (M.bs i) (j0 (W.S (W.at_ i)) (W.ses i) (W.wall (W.at_ i)))) (qeu (M.bp (W.at_ i)) (qcc (W.S (W.at_ i)) (W.ses i) (W.wall (W.at_ i))) (⟨⟨j,d,l,o,p,q,r,s,a⟩,f,g⟩:TxM).blk) w' (L (W.n+i)) (L (W.at_ i)) (⟨⟨j,d,l,o,p,q,r,s,a⟩,f,g⟩:TxM).blk z)/\(∀k,w.heap.size<=k->k<w'.heap.size->z.heap[k]?=w'.heap[k]?)/\w'.heap.size<=z.heap.size):=λw' hb=>by
  refine(qol (W.wall (W.at_ i)) w' ((h.sess hi).later hb) ((h.site ha).later hb) (hw.inv _ ha) (λk h1 h2=>h.fam.apart _ _ k oe oe oe h1 h2)).mono ?_;rintro e z ⟨⟨⟨j,d,l,o,p,q,r,s,a⟩,f,g⟩,rfl,N,Q⟩;have h2:=Q.out.2;obtain⟨_,_,_,_,_,_,_,_,tt⟩:=h2;exact⟨j,d,l,o,p,q,r,s,a,f,g,rfl,⟨N,Q.out.1,hb,Q.out.2⟩,λk h1 h2=>tt.block k h2 (λe=>by
   obtain e|e:=e
   .have:k<w.heap.size:=h.ltG oe e;omega
   have:k<w.heap.size:=h.ltG oe e;omega),tt.size⟩
 have q1:(i:Int)<(W.c:Int):=oe;have q2:(W.at_ i:Int)<(W.n:Int):=oe;have hbc:=boxed hb0 (.cells #[PP (M.bs i),U (W.at_ i)] 149);have RC:=qd.new (w:=w.alloc (.cells ZA 122)) (T:=149) (n:=w.heap.size+1) [PP (M.bs i),U (W.at_ i)] oi;have RT1:=RT.boxed (.cells #[PP (M.bs i),U (W.at_ i)] 149);obtain⟨D,hw1⟩:∃D,(w.alloc (.cells ZA 122)).alloc (.cells #[PP (M.bs i),U (W.at_ i)] 149)=D:=⟨_,rfl⟩;have sz1:D.heap.size=w.heap.size+2:=by rw[<-hw1];simp
 have RC1:qd D (w.heap.size+1) [PP (M.bs i),U (W.at_ i)]:=by rw[<-hw1];exact RC
 have HR:Hid (qd D w.heap.size ZL/\Bw w D/\D.heap.size=w.heap.size+2):=by
  rw[hw1]at RT1 hbc;exact⟨RT1,hbc,sz1⟩
 have d0:=cell_later HR.out.2.1 c0;have e0:=cell_later HR.out.2.1 y0;have e1:=cell_later HR.out.2.1 y1;have f0:=RC1.c 0;have f1:=RC1.c 1;have hlt1:b<D.heap.size:=oe;have hpb1:pb<D.heap.size:=oe;have hc1:w.heap.size+1<D.heap.size:=oe;clear RT RC RT1 sz1 RC1 hbc;clear h hG hw hok;go_enter func88,ntmps88;go_wp2_with fail
 refine IC.mono ?_;rintro e w2 ⟨rfl,hw2⟩;have hw3:=hw2.symm;clear hw2 IC;subst hw3;go_wp2_with fail
 try rw[hw1]
 clear hw1 c0 c1 x0 x1 y0 y1 hcb hpb hlt hb0;go_region
 have hbp:=(boxed (jcc _ D) (.cells #[.pointer (some (AD (M.bp (W.at_ i)) 0)),U (W.wall (W.at_ i))] 145)).drew;have RP:=(qd.new (w:=D) (T:=145) [.pointer (some (AD (M.bp (W.at_ i)) 0)),U (W.wall (W.at_ i))] rfl).drew;change qd (D.alloc (.cells #[.pointer (some (AD (M.bp (W.at_ i)) 0)),U (W.wall (W.at_ i))] 145)).drew D.heap.size [.pointer (some (AD (M.bp (W.at_ i)) 0)),U (W.wall (W.at_ i))]at RP;have g0:=RP.c 0;have g1:=RP.c 1;have f0:=cell_later hbp f0;have f1:=cell_later hbp f1;have hb2:=qa HR.out.2.1 hbp;have RT2:=HR.out.1.later hbp;have CM:=BG.out _ hb2;clear BG RP;go_wp2_with fail
 refine CM.mono ?_;rintro e z ⟨j,d,l,o,p,q,r,s,a,f,g,rfl,Q,hkB,hsB⟩;have HRB:=hd1 (RT2.kept (hkB _ (jcd _) RT2.lt) hsB);have HM:=hd1 Q.out.1;have HX:Hid (∃w',w.heap.size<w'.heap.size/\qr z f g a/\Bw w w'/\qfx (qix (M.bs i) (j0 (W.S (W.at_ i)) (W.ses i) (W.wall (W.at_ i)))) (qeu (M.bp (W.at_ i)) (qcc (W.S (W.at_ i)) (W.ses i) (W.wall (W.at_ i))) (⟨⟨j,d,l,o,p,q,r,s,a⟩,f,g⟩:TxM).blk) w' (L (W.n+i)) (L (W.at_ i)) (⟨⟨j,d,l,o,p,q,r,s,a⟩,f,g⟩:TxM).blk z):=⟨_,RT2.lt,Q.out.2⟩;clear CM Q hkB hsB RT2 hb2 hbp f0 f1 g0 g1 d0 e0 e1 HR hlt1 hpb1 hc1;obtain⟨ce,hce⟩:∃ce,wcE W i=ce:=⟨_,rfl⟩;rw[hce];have hbC:=boxed (jcc _ z) (.cells (List.toArray (T9 j d l o p q r s f a.length g)) 122);have R:=qd.new (w:=z) (T:=122) (T9 j d l o p q r s f a.length g) rfl;change qd (z.alloc (.cells (List.toArray (T9 j d l o p q r s f a.length g)) 122)) z.heap.size (T9 j d l o p q r s f a.length g)at R;have F:=HRB.out.later hbC;have htl:=HRB.out.lt;obtain⟨x,A⟩:∃x,z.alloc (.cells (List.toArray (T9 j d l o p q r s f a.length g)) 122)=x:=⟨_,rfl⟩;have HWX:Hid (∃B E,w.heap.size<B/\B<=x.heap.size/\PWo x b M (qd4 W i) E/\(∀m k,E m k->L m k\/B<=k)/\qc (λk=>L (W.n+i) k\/L (W.at_ i) k) w x/\(∀m k,m<W.n+W.c->(⟨⟨j,d,l,o,p,q,r,s,a⟩,f,g⟩:TxM).blk k->B<=k/\k<z.heap.size/\¬E m k)/\qr x f g a/\z.heap.size<x.heap.size):=by
  obtain⟨w',hlw,hwi,hbw,hl2⟩:=HX.out;have hl3:=hl2;obtain⟨_,_,_,_,_,_,_,_,tt⟩:=hl3;have ts:=tt.size;have hs4:z.heap.size<x.heap.size:=by rw[<-A];simp
  rw[A]at hbC;obtain⟨E,H,I,J,C⟩:=u.out.1.com u.out.2.2.1 u.out.2.2.2.1 hbw hl2 hbC;exact⟨w'.heap.size,E,hlw,oe,H,I,J,C,hwi.later hbC,hs4⟩
 rw[A]at R F;clear hbC HX HRB;by_cases hE:ce=0
 .subst hE;rw[show jc 0=.nilIface from rfl];obtain⟨x0,x1,x2,x3,x4,x5,x6,x7,x8⟩:=R.c9;by_cases hsq:0<d
  .have HT:Hid (∀E,PWo x b M (qd4 W i) E->(∀k,(⟨⟨j,d,l,o,p,q,r,s,a⟩,f,g⟩:TxM).blk k->w.heap.size<=k)->qr x f g a->Ca 125 #[PP b,.agg (List.toArray (T9 j d l o p q r s f a.length g))] x λe w'=>e=.returned (.tuple #[])/\qby x b M E (λk=>x.heap.size<=k) (qam ⟨j,d,l,o,p,q,r,s,a⟩ W.n (qd4 W i)) w'):=λE h1 h3 h4=>
        q5o j d l o p q r s a f g x h1 u.out.2.2.2.2.1 h4 (λk off e1 e2=>by
         have:=h3 k ⟨e1,off,e2⟩;refine⟨λe=>?_,λe=>?_⟩
         .have:k<w.heap.size:=u.out.1.ltF k (.inl e);omega
         .have:k<w.heap.size:=u.out.1.ltF k (.inr (.inr (.inr (.inl e))));omega) (by
         have:=u.out.2.2.2.2.2;rw[<-HM.out]at this;exact this hsq)
   obtain⟨B,E,rB,rC,H,I,J,C,O,V⟩:=HWX.out;have TL:=HT.out E H (λk y=>by have:=(C (W.at_ i) k oe y).1;omega) O
   have HF:Hid (∀X,qby x b M E (λk=>x.heap.size<=k) (qam ⟨j,d,l,o,p,q,r,s,a⟩ W.n (qd4 W i)) X->∃K,PW X b K (wcW W i)/\(∀k,K k->G k\/B<=k)/\qc G w X/\∀k,(⟨⟨j,d,l,o,p,q,r,s,a⟩,f,g⟩:TxM).blk k->B<=k/\¬K k):=λX hs=>by
        have e:wcW W i=qam ⟨j,d,l,o,p,q,r,s,a⟩ W.n (qd4 W i):=by
         unfold wcW;rw[<-HM.out,if_pos hsq]
        rw[e];have sm:=zx ⟨j,d,l,o,p,q,r,s,a⟩ W.n (qd4 W i);exact u.out.1.told u.out.2.1 u.out.2.2.1 u.out.2.2.2.1 sm.n sm.c oe rC I J (λm k N y=>⟨(C m k N y).1,by have:=(C m k N y).2.1;omega,(C m k N y).2.2⟩) hs
   have Z:=hd3 O (show (∀k,(⟨⟨j,d,l,o,p,q,r,s,a⟩,f,g⟩:TxM).blk k->w.heap.size<=k/\k<z.heap.size)from λk y=>⟨by have:=(C (W.at_ i) k oe y).1;omega,(C (W.at_ i) k oe y).2.1⟩) V;have HNO:Hid (∀k,w.heap.size<=k->k≠b/\M.nv.ownBlock≠some k):=λk y=>⟨λe=>by have:k<w.heap.size:=u.out.1.ltF k (.inl e);omega,λe=>by have:k<w.heap.size:=u.out.1.ltF k (.inr (.inr (.inr (.inl e))));omega⟩;have HBB:=hd2 rB (PW.lt ⟨M,L,u.out.1,u.out.2.1⟩);clear HT H I J C O V HWX rB rC
   go_wp2_with (rw[A])
   refine TL.mono ?_;rintro e X ⟨rfl,hS⟩;have XD:=R.kept (hS.block (by have:=Z.out.2.2;omega) (HNO.out _ oe).1 (HNO.out _ oe).2) hS.size;have TD:=F.kept (hS.block (by have:=Z.out.2.2;omega) (HNO.out _ (jcd _)).1 (HNO.out _ (jcd _)).2) hS.size;have FIN:=HF.out X hS;have WD:qr X f g a:=qr.kept (m:=(⟨⟨j,d,l,o,p,q,r,s,a⟩,f,g⟩:TxM)) Z.out.1 (λk y=>hS.block (by have:=Z.out.2.1 k y;have:=Z.out.2.2;omega) (HNO.out k (Z.out.2.1 k y).1).1 (HNO.out k (Z.out.2.1 k y).1).2);have P:=hd2 WD FIN;clear x0 x1 x2 x3 x4 x5 x6 x7 x8 TL HF hS FIN WD R F;obtain⟨x0,x1,x2,x3,x4,x5,x6,x7,x8⟩:=XD.c9;obtain⟨r0,H,I,J,C,O,V,r7,r8⟩:=TD.c9;obtain⟨p0,p1,p2,p3,p4,p5,p6,p7,p8⟩:=TD.f9;have RZ:=yz TD rfl j d l o p q r s (.slice f a.length g);have END:=qxt (m:=(⟨⟨j,d,l,o,p,q,r,s,a⟩,f,g⟩:TxM)) P.out HBB.out.2 HBB.out.1 j d l o p q r s (.slice f a.length g);clear P XD TD;go_wp2_with fail
   exact bodyPost_ret (qdl RZ rfl rfl) rfl ⟨(⟨⟨j,d,l,o,p,q,r,s,a⟩,f,g⟩:TxM),by rw[hce];rfl,HM.out,END⟩
  have P:Hid (∃B,w.heap.size<B/\(∀k,G k->k<w.heap.size)/\qr x f g a/\∃K,PW x b K (wcW W i)/\(∀k,K k->G k\/B<=k)/\qc G w x/\∀k,(⟨⟨j,d,l,o,p,q,r,s,a⟩,f,g⟩:TxM).blk k->B<=k/\¬K k):=by
   obtain⟨B,E,rB,rC,H,I,J,C,O,V⟩:=HWX.out
   have e:wcW W i=qd4 W i:=by
        unfold wcW;rw[<-HM.out,if_neg hsq]
   rw[e];exact⟨B,rB,PW.lt ⟨M,L,u.out.1,u.out.2.1⟩,O,u.out.1.told (W1:=qd4 W i) u.out.2.1 u.out.2.2.1 u.out.2.2.2.1 rfl rfl oe rC I J (λm k N y=>⟨(C m k N y).1,by have:=(C m k N y).2.1;omega,(C m k N y).2.2⟩) (qby.none H (jcc _ _) _)⟩
  obtain⟨r0,H,I,J,C,O,V,r7,r8⟩:=F.c9;obtain⟨p0,p1,p2,p3,p4,p5,p6,p7,p8⟩:=F.f9;have RZ:=yz F rfl j d l o p q r s (.slice f a.length g);obtain⟨B,hB,hGl,hF⟩:=P.out;have END:=qxt (m:=(⟨⟨j,d,l,o,p,q,r,s,a⟩,f,g⟩:TxM)) hF hGl hB j d l o p q r s (.slice f a.length g);clear P HWX R F hF hGl;go_wp2_with (rw[A])
  exact bodyPost_ret (qdl RZ rfl rfl) rfl ⟨(⟨⟨j,d,l,o,p,q,r,s,a⟩,f,g⟩:TxM),by rw[hce];rfl,HM.out,END⟩
 have P:Hid (∃B,w.heap.size<B/\(∀k,G k->k<w.heap.size)/\wcT W i=tx0.t/\qr x tx0.wa tx0.wc tx0.t.ws/\∃K,PW x b K (wcW W i)/\(∀k,K k->G k\/B<=k)/\qc G w x/\∀k,tx0.blk k->B<=k/\¬K k):=by
  obtain⟨B,E,rB,rC,H,I,J,C,O,V⟩:=HWX.out;have e0:wcT W i=tx0.t:=(qvj (by have:=hce;unfold wcE at this;rw[this];exact hE)).1;have e:wcW W i=qd4 W i:=by
   unfold wcW;rw[e0,if_neg oj]
  rw[e];exact⟨B,rB,PW.lt ⟨M,L,u.out.1,u.out.2.1⟩,e0,qk4 _,u.out.1.told (W1:=qd4 W i) (Y:=tx0.blk) u.out.2.1 u.out.2.2.1 u.out.2.2.2.1 rfl rfl oe rC I J (λm k N y=>absurd y (qfb k)) (qby.none H (jcc _ _) _)⟩
 rw[show jc ce=.iface 30 (U ce) by unfold jc;rw[if_neg hE]];obtain⟨r0,H,I,J,C,O,V,r7,r8⟩:=F.c9;obtain⟨p0,p1,p2,p3,p4,p5,p6,p7,p8⟩:=F.f9;have RZ:=yz F rfl 0 0 0 0 0 0 0 0 (.slice none 0 0);obtain⟨B,hB,hGl,e0,hF⟩:=P.out;have END:=qxt (m:=tx0) hF hGl hB 0 0 0 0 0 0 0 0 (.slice none 0 0);clear P HWX R F hF hGl;go_wp2_with (rw[A])
 exact bodyPost_ret (qdl RZ rfl rfl) rfl ⟨tx0,by rw[hce];unfold jc;rw[if_neg hE];rfl,e0.symm,END⟩
end
section
open Tryz
section
def PW.lens (h:PW w b G W):∃a0 a a1 d a2 e,w.cell? (AD b 0)=some (.slice a0 W.n a)/\w.cell? (AD b 1)=some (.slice a1 W.c d)/\w.cell? (AD b 2)=some (.slice a2 W.net.length e)/\w.cell? (AD b 3)=some (U W.lost)/\b<w.heap.size:=by
 obtain⟨M,q,h,_⟩:=h;obtain⟨a0,a,k,_⟩:=qq h.pr;obtain⟨a1,d,m,_⟩:=qq h.cr;obtain⟨a2,e,o,_⟩:=qq h.nr;have p:M.l.length=W.net.length:=by rw[<-h.nl];simp
 have f:=h.box.c 0;have g:=h.box.c 1;have j:=h.box.c 2;rw[k]at f;rw[m]at g;rw[o,p]at j;exact⟨a0,a,a1,d,a2,e,f,g,j,h.box.c 3,h.box.lt⟩
def qt8 (k:Int) (w:Wl) (h:PW w b G W) (n:¬(0<=k/\k<(W.c:Int))):
 Ca 83 #[PP b,U k] w (Rn (jc 2) w):=by
 obtain⟨a0,o,a1,p,a2,r,g,a,j,l,s⟩:=h.lens;have d:=yf (k:=k) (v:=false) w a (by
  have q:¬(0<=k)\/¬(k<(W.c:Int)):=oe;obtain q|q:=q<;>simp[q])
 clear h g a j l;go_enter func83,ntmps83;go_wp2_with fail
 refine d.mono ?_;rintro e t ⟨rfl,f⟩;have m:=f.symm;clear f d;subst m;go_wp2_with fail
 go_ret;exact⟨rfl,jcc _ _⟩
def qzt (k:Int) (t:Int) (w:Wl) (h:PW w b G W) (n:¬(0<=k/\k<(W.c:Int))):
 Ca 99 #[PP b,U k,U t] w (Rn (.tuple #[.string ⟨#[]⟩,jc 2]) w):=by
 obtain⟨a0,o,a1,p,a2,r,g,a,j,l,s⟩:=h.lens;have d:=yf (k:=k) (v:=false) w a (by
  have q:¬(0<=k)\/¬(k<(W.c:Int)):=oe;obtain q|q:=q<;>simp[q])
 clear h g a j l;go_enter func99,ntmps99;go_wp2_with fail
 refine d.mono ?_;rintro e x ⟨rfl,f⟩;have m:=f.symm;clear f d;subst m;go_wp2_with fail
 go_ret2;exact⟨rfl,jcc _ _⟩
def qm5 (k:Int) (a:Int) (d:By) (f:Bool) (w:Wl) (h:PW w b G W) (s:¬(0<=k/\k<(W.c:Int))):
 Ca 90 #[PP b,U k,.agg #[U a,.string d,.bool f]] w (Rn (jc 2) w):=by
 obtain⟨a0,t,a1,u,a2,x,m,g,n,o,y⟩:=h.lens;have p:=boxed (jcc _ w) (.cells #[U a,.string d,.bool f] 127);have j:=yf (k:=k) (v:=false) (w.nu #[U a,.string d,.bool f] 127) (cell_later p g) (by
  have q:¬(0<=k)\/¬(k<(W.c:Int)):=oe;obtain q|q:=q<;>simp[q])
 clear h m g n o;go_enter func90,ntmps90;go_wp2_with fail
 refine j.mono ?_;rintro e z ⟨rfl,l⟩;have r:=l.symm;clear l j;subst r;go_wp2_with fail
 go_ret;exact⟨rfl,boxed (jcc _ w) _⟩
def qsr (k:Int) (w:Wl) (h:PW w b G W) (t:¬(0<=k/\k<(W.c:Int))):
 Ca 88 #[PP b,U k] w (Rn (.tuple #[.agg ZA,jc 2]) w):=by
 obtain⟨a0,u,a1,x,a2,y,m,d,o,p,z⟩:=h.lens;have g:=boxed (jcc _ w) (.cells ZA 122);have a:=qd.new (w:=w) (T:=122) (n:=w.heap.size) ZL rfl;have B:=a.c 0;have C:=a.f 0;have D:=a.c 1;have V:=a.f 1;have E:=a.c 2;have F:=a.f 2;have H:=a.c 3;have I:=a.f 3;have J:=a.c 4;have K:=a.f 4;have L:=a.c 5;have M:=a.f 5;have N:=a.c 6;have O:=a.f 6;have P:=a.c 7;have Q:=a.f 7;have R:=a.c 8;have S:=a.f 8;have A:=yz a rfl 0 0 0 0 0 0 0 0 (.slice none 0 0);simp only[js]at A;have r:Hid _:=a;clear a A;have j:=yf (k:=k) (v:=false) (w.nu ZA 122) (cell_later g d) (by
  have q:¬(0<=k)\/¬(k<(W.c:Int)):=oe;obtain q|q:=q<;>simp[q])
 clear h m d o p;go_enter func88,ntmps88;go_wp2_with fail
 refine j.mono ?_;rintro e X ⟨rfl,l⟩;have s:=l.symm;clear l j;subst s;go_wp2_with fail
 (try simp only[Exit.inBlock,Exit.then])
 exact bodyPost_ret (qdl r.out rfl rfl) rfl ⟨rfl,g⟩
def qwi (k:Int) (w:Wl) (h:PW w b G W) (n:¬(0<=k/\k<(W.c:Int))):
 Ca 79 #[PP b,U k] w (Rn (jc 2) w):=by
 obtain⟨a0,o,a1,p,a2,r,g,a,j,l,s⟩:=h.lens;have d:=yf (k:=k) (v:=false) w a (by
  have q:¬(0<=k)\/¬(k<(W.c:Int)):=oe;obtain q|q:=q<;>simp[q])
 clear h g a j l;go_enter func79,ntmps79;go_wp2_with fail
 refine d.mono ?_;rintro e t ⟨rfl,f⟩;have m:=f.symm;clear f d;subst m;go_wp2_with fail
 go_ret;exact⟨rfl,jcc _ _⟩
def qo9 (k:Int) (w:Wl) (h:PW w b G W) (m:¬(0<=k/\k<(W.net.length:Int))):
 Ca 89 #[PP b,U k] w (Rn (jc 2) w):=by
 obtain⟨a0,n,a1,o,a2,p,f,g,a,j,r⟩:=h.lens;have c:=qey (k:=k) (v:=false) w a (by
  have q:¬(0<=k)\/¬(k<(W.net.length:Int)):=oe;obtain q|q:=q<;>simp[q])
 clear h f g a j;go_enter func89,ntmps89;go_wp2_with fail
 refine c.mono ?_;rintro e s ⟨rfl,d⟩;have l:=d.symm;clear d c;subst l;go_wp2_with fail
 go_ret;exact⟨rfl,jcc _ _⟩
def qud (k:Int) (w:Wl) (h:PW w b G W) (m:¬(0<=k/\k<(W.net.length:Int))):
 Ca 95 #[PP b,U k] w (Rn (jc 2) w):=by
 obtain⟨a0,n,a1,o,a2,p,f,g,a,j,r⟩:=h.lens;have c:=qey (k:=k) (v:=false) w a (by
  have q:¬(0<=k)\/¬(k<(W.net.length:Int)):=oe;obtain q|q:=q<;>simp[q])
 clear h f g a j;go_enter func95,ntmps95;go_wp2_with fail
 refine c.mono ?_;rintro e s ⟨rfl,d⟩;have l:=d.symm;clear d c;subst l;go_wp2_with fail
 go_ret;exact⟨rfl,jcc _ _⟩
def qss (k:Int) (w:Wl) (h:PW w b G W) (m:¬(0<=k/\k<(W.net.length:Int))):
 Ca 102 #[PP b,U k] w (Rn (jc 2) w):=by
 obtain⟨a0,n,a1,o,a2,p,f,g,a,j,r⟩:=h.lens;have c:=qey (k:=k) (v:=false) w a (by
  have q:¬(0<=k)\/¬(k<(W.net.length:Int)):=oe;obtain q|q:=q<;>simp[q])
 clear h f g a j;go_enter func102,ntmps102;go_wp2_with fail
 refine c.mono ?_;rintro e s ⟨rfl,d⟩;have l:=d.symm;clear d c;subst l;go_wp2_with fail
 go_ret;exact⟨rfl,jcc _ _⟩
def qt6 (k:Int) (w:Wl) (h:PW w b G W) (m:¬(0<=k/\k<(W.n:Int))):
 Ca 101 #[PP b,U k] w (Rn (jc 2) w):=by
 obtain⟨a0,o,a1,p,a2,r,a,f,g,j,s⟩:=h.lens;have c:=yi (k:=k) (v:=false) w a (by
  have q:¬(0<=k)\/¬(k<(W.n:Int)):=oe;obtain q|q:=q<;>simp[q])
 clear h a f g j;go_enter func101,ntmps101;go_wp2_with fail
 refine c.mono ?_;rintro e t ⟨rfl,d⟩;have l:=d.symm;clear d c;subst l;go_wp2_with fail
 go_ret;exact⟨rfl,jcc _ _⟩
def qy6 (k:Int) (y:Int) (w:Wl) (h:PW w b G W) (m:¬(0<=k/\k<(W.n:Int))):
 Ca 91 #[PP b,U k,U y] w (Rn (jc 2) w):=by
 obtain⟨a0,o,a1,p,a2,r,a,f,g,j,s⟩:=h.lens;have c:=yi (k:=k) (v:=false) w a (by
  have q:¬(0<=k)\/¬(k<(W.n:Int)):=oe;obtain q|q:=q<;>simp[q])
 clear h a f g j;go_enter func91,ntmps91;go_wp2_with fail
 refine c.mono ?_;rintro e t ⟨rfl,d⟩;have l:=d.symm;clear d c;subst l;go_wp2_with fail
 go_ret;exact⟨rfl,jcc _ _⟩
def qyb (k:Int) (y:Int) (w:Wl) (h:PW w b G W) (n:¬(0<=k/\k<(W.c:Int))):
 Ca 98 #[PP b,U k,U y] w (Rn (jc 2) w):=by
 obtain⟨a0,o,a1,p,a2,r,g,a,j,l,s⟩:=h.lens;have d:=yf (k:=k) (v:=false) w a (by
  have q:¬(0<=k)\/¬(k<(W.c:Int)):=oe;obtain q|q:=q<;>simp[q])
 clear h g a j l;go_enter func98,ntmps98;go_wp2_with fail
 refine d.mono ?_;rintro e t ⟨rfl,f⟩;have m:=f.symm;clear f d;subst m;go_wp2_with fail
 go_ret;exact⟨rfl,jcc _ _⟩
def qve (y:Int) (w:Wl) (h:PW w b G W) (A:i<W.c) (s:¬(0<=y/\y<(W.n:Int))):
 Ca 98 #[PP b,U i,U y] w (Rn (jc 2) w):=by
 obtain⟨a0,t,a1,u,a2,x,a,d,m,o,z⟩:=h.lens;have f:=yf (k:=i) (v:=true) w d ou;have g:=yi (k:=y) (v:=false) w a (by
  have q:¬(0<=y)\/¬(y<(W.n:Int)):=oe;obtain q|q:=q<;>simp[q])
 clear h a d m o;go_enter func98,ntmps98;go_wp2_with fail
 refine f.mono ?_;rintro e C ⟨rfl,j⟩;have p:=j.symm;clear j f;subst p;go_wp2_with fail
 refine g.mono ?_;rintro e B ⟨rfl,l⟩;have r:=l.symm;clear l g;subst r;go_wp2_with fail
 go_ret;exact⟨rfl,jcc _ _⟩
def qvi (y:Int) (w:Wl) (h:PW w b G W) (x:i<W.n) (m:¬(0<=y/\y<=1099511627776)):
 Ca 91 #[PP b,U i,U y] w (Rn (jc 2) w):=by
 obtain⟨a0,o,a1,p,a2,q,a,f,g,j,r⟩:=h.lens;have c:=yi (k:=i) (v:=true) w a ou;clear h a f g j;by_cases s:y<0;skip;rotate_left;have t:1099511627776<y:=oe;all_goals
  go_enter func91,ntmps91;go_wp2_with fail
  refine c.mono ?_;rintro e z ⟨rfl,d⟩;have l:=d.symm;clear d c;subst l;go_wp2_with fail
  go_ret;exact⟨rfl,jcc _ _⟩
def q2g (k:Int) (y:Int) (w:Wl) (h:PW w b G W) (m:¬(0<=k/\k<(W.n:Int))):
 Ca 81 #[PP b,U k,U y] w (Rn (jc 2) w):=by
 obtain⟨a0,o,a1,p,a2,r,a,f,g,j,s⟩:=h.lens;have c:=yi (k:=k) (v:=false) w a (by
  have q:¬(0<=k)\/¬(k<(W.n:Int)):=oe;obtain q|q:=q<;>simp[q])
 clear h a f g j;go_enter func81,ntmps81;go_wp2_with fail
 refine c.mono ?_;rintro e t ⟨rfl,d⟩;have l:=d.symm;clear d c;subst l;go_wp2_with fail
 go_ret;exact⟨rfl,jcc _ _⟩
def qxx (y:Int) (w:Wl) (h:PW w b G W) (A:i<W.n) (r:¬(0<=y/\y<(W.n:Int))):
 Ca 81 #[PP b,U i,U y] w (Rn (jc 2) w):=by
 obtain⟨a0,s,a1,t,a2,u,a,j,l,m,x⟩:=h.lens;have c:=yi (k:=i) (v:=true) w a ou;have d:=yi (k:=y) (v:=false) w a (by
  have q:¬(0<=y)\/¬(y<(W.n:Int)):=oe;obtain q|q:=q<;>simp[q])
 clear h a j l m;go_enter func81,ntmps81;go_wp2_with fail
 refine c.mono ?_;rintro e B ⟨rfl,f⟩;have o:=f.symm;clear f c;subst o;go_wp2_with fail
 refine d.mono ?_;rintro e z ⟨rfl,g⟩;have p:=g.symm;clear g d;subst p;go_wp2_with fail
 go_ret;exact⟨rfl,jcc _ _⟩
def q7z (w:Wl) (h:PW w b G W):Ca 97 #[PP b] w λe w'=>e=.returned (U W.lost)/\w'=w:=by
 obtain⟨a0,f,a1,g,a2,j,a,c,d,k,l⟩:=h.lens;clear h a c d;go_enter func97,ntmps97;go_wp2_with fail
 go_ret;exact⟨rfl,rfl⟩
def qxw (k:Int) (w:Wl) (h:PW w b G W) (t:¬(0<=k/\k<(W.n:Int))):
 Ca 100 #[PP b,U k] w (Rn (.tuple #[.agg #[U 0,U 0,U 0,U 0],U 0,.slice none 0 0,U 0,jc 2]) w):=by
 obtain⟨a0,u,a1,x,a2,y,d,m,o,p,z⟩:=h.lens;have g:=boxed (jcc _ w) (.cells #[U 0,U 0,U 0,U 0] 113);have a:=qd.new (w:=w) (T:=113) (n:=w.heap.size) [U 0,U 0,U 0,U 0] rfl;have B:=a.c 0;have C:=a.f 0;have D:=a.c 1;have A:=a.f 1;have E:=a.c 2;have F:=a.f 2;have H:=a.c 3;have I:=a.f 3;have r:Hid _:=a;clear a;have j:=yi (k:=k) (v:=false) (w.nu #[U 0,U 0,U 0,U 0] 113) (cell_later g d) (by
  have q:¬(0<=k)\/¬(k<(W.n:Int)):=oe;obtain q|q:=q<;>simp[q])
 clear h d m o p;go_enter func100,ntmps100;go_wp2_with fail
 refine j.mono ?_;rintro e J ⟨rfl,l⟩;have s:=l.symm;clear l j;subst s;go_wp2_with fail
 (try simp only[Exit.inBlock,Exit.then])
 exact bodyPost_ret (qlr r.out rfl rfl rfl rfl rfl) rfl ⟨rfl,g⟩
def qtc (k:Int) (w:Wl) (h:PW w b G W) (u:¬(0<=k/\k<(W.c:Int))):
 Ca 86 #[PP b,U k] w (Rn (.tuple #[U 0,.agg #[U 0,U 0,U 0,U 0],.agg #[U 0,U 0,U 0,U 0],.bool false,jc 2]) w):=by
 obtain⟨a0,x,a1,y,a2,z,p,g,r,s,B⟩:=h.lens;have j:=boxed (boxed (jcc _ w) (.cells #[U 0,U 0,U 0,U 0] 113)) (.cells #[U 0,U 0,U 0,U 0] 113);have a:=(qd.new (w:=w) (T:=113) (n:=w.heap.size) [U 0,U 0,U 0,U 0] rfl).later (boxed (jcc _ _) (.cells #[U 0,U 0,U 0,U 0] 113));have d:=qd.new (w:=w.nu #[U 0,U 0,U 0,U 0] 113) (T:=113) (n:=w.heap.size+1) [U 0,U 0,U 0,U 0] oi;have C:=a.c 0;have D:=a.f 0;have E:=d.c 0;have F:=d.f 0;have H:=a.c 1;have A:=a.f 1;have I:=d.c 1;have J:=d.f 1;have K:=a.c 2;have L:=a.f 2;have M:=d.c 2;have N:=d.f 2;have O:=a.c 3;have P:=a.f 3;have Q:=d.c 3;have R:=d.f 3;have l:Hid _:=And.intro a d;clear a d;have m:=yf (k:=k) (v:=false) ((w.nu #[U 0,U 0,U 0,U 0] 113).nu #[U 0,U 0,U 0,U 0] 113) (cell_later j g) (by
  have q:¬(0<=k)\/¬(k<(W.c:Int)):=oe;obtain q|q:=q<;>simp[q])
 clear h p g r s;go_enter func86,ntmps86;go_wp2_with fail
 refine m.mono ?_;rintro e V ⟨rfl,o⟩;have t:=o.symm;clear o m;subst t;go_wp2_with fail
 (try simp only[Exit.inBlock,Exit.then])
 exact bodyPost_ret (qjo l.out.1 l.out.2 rfl rfl rfl rfl rfl) rfl ⟨rfl,j⟩
def q2a {n c:Int} (a:¬((1<=n/\n<=4)/\(0<=c/\c<=6))) (w:Wl):
 Ca 71 #[U n,U c] w (Rn (.tuple #[.pointer none,jc 2]) w):=by
 by_cases d:n<1;skip;rotate_left;by_cases e:4<n;skip;rotate_left;by_cases f:c<0;skip;rotate_left;have g:6<c:=oe;all_goals
  go_enter func71,ntmps71;go_wp2_with fail
  go_ret2;exact⟨rfl,jcc _ _⟩
end
end
section
variable {Z w3 Y:Wl} {g V p q:Nat}
def zh.snoc {n:Nat} {I H:Nat->qfr} {X J G:Np} {w w':Wl} (h:zh w n I Gs X n NoY) (y:∀j k,j<n->Gs j k->w'.heap[k]?=w.heap[k]?) (z:w.heap.size<=w'.heap.size) (A:(H n).is w' G) (u:∀k,G k->w.heap.size<=k) (B:∀i,i<n->H i=I i) (s:∀k,J k->(X k\/w.heap.size<=k)/\k<w'.heap.size/\¬G k):zh w' (n+1) H (λj=>if j=n then G else Gs j) J (n+1) NoY:=by
 refine⟨λj C=>?_,λa c k E F v l d=>?_,λk e=>⟨(s k e).2.1,λj C m=>?_⟩,λk e=>e.elim⟩
 .by_cases e:j=n
  .rw[if_pos e,e];exact A
  have f:j<n:=oe;rw[if_neg e,B j f];exact(I j).kept _ _ _ (h.is j f) (λk D=>y j k f D) z
 .by_cases t:a=n
  .rw[if_pos t]at l;have o:c≠n:=λe=>v (t.trans e.symm);rw[if_neg o]at d;have:=(I c).lt _ _ (h.is c oe) k d;have:=u k l;omega
  rw[if_neg t]at l;by_cases o:c=n
  .rw[if_pos o]at d;have:=(I a).lt _ _ (h.is a oe) k l;have:=u k d;omega
  rw[if_neg o]at d;exact h.apart a c k oe oe v l d
 by_cases x:j=n
 .rw[if_pos x]at m;exact(s k e).2.2 m
 rw[if_neg x]at m;have f:j<n:=oe;rcases(s k e).1 with r|r
 .exact(h.free k r).2 j f m
 have:=(I j).lt _ _ (h.is j f) k m;omega
def qm6 (bp:Nat->Nat) (x:Nat->Int) (n p:Nat) (y:Int) (a:x n=y):zt (λj=>if j=n then p else bp j) x (n+1)=zt bp x n++[PP p,U y]:=by
 unfold zt;rw[List.range_succ,List.flatMap_append];congr 1
 .rw[List.flatMap_def,List.flatMap_def];congr 1;refine List.map_congr_left (λj c=>?_);have:=mT.1 c;show qum (if j=n then p else bp j) (x j)=_;rw[if_neg oe]
 simp[qum,a]
def PWo.addSite (h:PWo w b M W Gs) (D:W.c=0) (y:PS Z p (λk=>k=p\/k=q) (W.S W.n)) (L:w.heap.size<=p) (N:w.heap.size<=q) (G:W.wall W.n=0) (z:Bw w Z) (m:Bw Z w3)
 (own:Y.ownsRow 0 145 2 (.slice (PT g) (W.n+1) V) (W.n+1) (zt M.bp W.wall W.n++[PP p,U 0])) (o:w3.grownBy Y M.pv.ownBlock) (E:M.pv.ownBlock=some g\/g=w3.heap.size) (O:g<Y.heap.size):
 PWo (Y.setCell (AD b 0) (.slice (PT g) (W.n+1) V)) b {M with pv:=.slice (PT g) (W.n+1) V,bp:=λj=>if j=W.n then p else M.bp j} {W with n:=W.n+1} (λj=>if j=W.n then (λk=>k=p\/k=q)else Gs j):=by
 have s2:=z.size;have s3:=m.size;have P:=o.size;have Q:=y.lt p (.inl rfl);have R:=y.lt q (.inr rfl);have T:=h.box.lt;have f:(Value.slice (PT g) (W.n+1) V).ownBlock=some g:=rfl;have i:(Y.setCell (AD b 0) (.slice (PT g) (W.n+1) V)).heap.size=Y.heap.size:=oF;have F:g≠b:=by
  obtain e|e:=E
  .exact λr=>h.sb.1 (by rw[e,r])
  omega
 have H:∀k,k<w.heap.size->M.pv.ownBlock≠some k->Y.heap[k]?=w.heap[k]?:=λk A B=>(o.block k oe (λe=>B e.symm)).trans ((m.block k oe).trans (z.block k A));have t:∀k,k<w.heap.size->M.pv.ownBlock≠some k->k≠b->(Y.setCell (AD b 0) (.slice (PT g) (W.n+1) V)).heap[k]?=w.heap[k]?:=λk A B I=>(jce _ _ _ _ (λe=>I e)).trans (H k A B);have J:=λk e=>(h.pr.lt k e).2
 have C:∀k,g=k->(M.pv.ownBlock=some k\/Z.heap.size<=k):=λk e=>by
  obtain r|r:=E
  .exact .inl (by rw[r,e])
  exact .inr oe
 have u:=h.fam;rw[D,Nat.add_zero]at u;refine⟨?_,?_,?_,?_,h.nl,λx a=>?_,?_,⟨λe=>F (by rw[f]at e;injection e),h.sb.2⟩,λk=>⟨λe=>?_,(h.sr k).2⟩,λx a=>?_⟩
 .have K:=(((h.box.later z).later m)).grown o (λe=>h.sb.1 e.symm);exact K.set 0 _ oi
 .show World.ownsRow _ 0 _ 2 _ (W.n+1) (zt _ W.wall (W.n+1));rw[qm6 M.bp W.wall W.n p 0 G];exact qf own (λk e=>jce _ _ _ _ (λr=>F (by rw[f]at e;injection e with e;exact e.trans r)))
 .exact qf h.cr (λk e=>t k (h.cr.lt k e).2 (λd=>((h.sr k).1 d).1 e) (λr=>h.sb.2.1 (by rw[e,r])))
 .exact qf h.nr (λk e=>t k (h.nr.lt k e).2 (λd=>((h.sr k).1 d).2 e) (λr=>h.sb.2.2 (by rw[e,r])))
 .have s:=h.sg x a;exact(h.gr x a).kept (t _ (h.gr x a).own.lt s.2.1 s.1) (by rw[i];omega)
 .show zh _ (W.n+1+W.c) _ _ _ (W.n+1+W.c) NoY;rw[D,Nat.add_zero];refine u.snoc (λj k v e=>t k (h.ltG oe e) (λr=>(u.free k (.inr (.inl r))).2 j v e) (λr=>(u.free k (.inl r)).2 j v e)) (by rw[i];omega) ?_ (λk e=>by obtain e|e:=e<;>omega) (λj v=>?_) (λk e=>?_)
  .show (if W.n<W.n+1 then qfp (if W.n=W.n then p else M.bp W.n) (W.S W.n)else _).is _ _;rw[if_pos oe,if_pos rfl];exact y.kept (λk e=>(jce _ _ _ _ (λr=>by obtain e|e:=e<;>(have:k=b:=r;omega))).trans ((o.block k (by obtain e|e:=e<;>omega) (λr=>by have:=J k r.symm;obtain e|e:=e<;>omega)).trans (m.block k (by obtain e|e:=e<;>omega)))) (by rw[i];omega)
  .show (if j<W.n+1 then qfp (if j=W.n then p else M.bp j) (W.S j)else _)=(if j<W.n then _ else _);rw[if_pos oe,if_pos v,if_neg oe]
  have l:qfw b M k->(qfw b M k\/w.heap.size<=k)/\k<(Y.setCell (AD b 0) (.slice (PT g) (W.n+1) V)).heap.size/\¬(k=p\/k=q):=λe=>by
   have:=h.ltF k e;exact⟨.inl e,by rw[i];omega,oe⟩
  obtain e|e|e|e|⟨x,a,e⟩:=e
  .exact l (.inl e)
  .rw[f]at e;injection e with e;obtain r|r:=C k e
   .exact l (.inr (.inl r))
   exact⟨.inr oe,by rw[i];omega,oe⟩
  .exact l (.inr (.inr (.inl e)))
  .exact l (.inr (.inr (.inr (.inl e))))
  exact l (.inr (.inr (.inr (.inr ⟨x,a,e⟩))))
 .rw[f]at e;injection e with e;obtain r|r:=C k e
  .exact(h.sr k).1 r
  exact⟨λd=>by have:=(h.cr.lt k d).2;omega,λd=>by have:=(h.nr.lt k d).2;omega⟩
 have s:=h.sg x a;refine⟨s.1,λe=>?_,s.2.2⟩;rw[f]at e;injection e with e;obtain r|r:=C x.blk e
 .exact s.2.1 r
 have:=(h.gr x a).own.lt;omega
def PWo.addSes (h:PWo w b M W Gs) (C:PSe Z p (λk=>k=p) (W.ses W.c)) (K:w.heap.size<=p) (F:W.at_ W.c=0) (y:Bw w Z) (m:Bw Z w3)
 (own:Y.ownsRow 0 149 2 (.slice (PT g) (W.c+1) V) (W.c+1) (zt M.bs (λk=>(W.at_ k:Int)) W.c++[PP p,U 0])) (o:w3.grownBy Y M.cv.ownBlock) (D:M.cv.ownBlock=some g\/g=w3.heap.size) (L:g<Y.heap.size):
 PWo (Y.setCell (AD b 1) (.slice (PT g) (W.c+1) V)) b {M with cv:=.slice (PT g) (W.c+1) V,bs:=λj=>if j=W.c then p else M.bs j} {W with c:=W.c+1} (λj=>if j=W.n+W.c then (λk=>k=p)else Gs j):=by
 have s2:=y.size;have s3:=m.size;have N:=o.size;have O:=C.lt p rfl;have P:=h.box.lt;have f:(Value.slice (PT g) (W.c+1) V).ownBlock=some g:=rfl;have i:(Y.setCell (AD b 1) (.slice (PT g) (W.c+1) V)).heap.size=Y.heap.size:=oF;have E:g≠b:=by
  obtain e|e:=D
  .exact λr=>h.sb.2.1 (by rw[e,r])
  omega
 have G:∀k,k<w.heap.size->M.cv.ownBlock≠some k->Y.heap[k]?=w.heap[k]?:=λk z A=>(o.block k oe (λe=>A e.symm)).trans ((m.block k oe).trans (y.block k z));have t:∀k,k<w.heap.size->M.cv.ownBlock≠some k->k≠b->(Y.setCell (AD b 1) (.slice (PT g) (W.c+1) V)).heap[k]?=w.heap[k]?:=λk z A H=>(jce _ _ _ _ (λe=>H e)).trans (G k z A);have I:=λk e=>(h.cr.lt k e).2
 have u:∀k,g=k->(M.cv.ownBlock=some k\/Z.heap.size<=k):=λk e=>by
  obtain r|r:=D
  .exact .inl (by rw[r,e])
  exact .inr oe
 have B:=h.fam;refine⟨?_,?_,?_,?_,h.nl,λx a=>?_,?_,⟨h.sb.1,λe=>E (by rw[f]at e;injection e),h.sb.2.2⟩,λk=>⟨λe=>⟨λd=>?_,((h.sr k).1 e).2⟩,λe=>?_⟩,λx a=>?_⟩
 .have J:=(((h.box.later y).later m)).grown o (λe=>h.sb.2.1 e.symm);exact J.set 1 _ oi
 .exact qf h.pr (λk e=>t k (h.pr.lt k e).2 ((h.sr k).1 e).1 (λr=>h.sb.1 (by rw[e,r])))
 .show World.ownsRow _ 0 _ 2 _ (W.c+1) (zt _ (λk=>(W.at_ k:Int)) (W.c+1));rw[qm6 M.bs (λk=>(W.at_ k:Int)) W.c p 0 (by show (W.at_ W.c:Int)=0;rw[F];rfl)];exact qf own (λk e=>jce _ _ _ _ (λr=>E (by rw[f]at e;injection e with e;exact e.trans r)))
 .exact qf h.nr (λk e=>t k (h.nr.lt k e).2 (λd=>(h.sr k).2 d e) (λr=>h.sb.2.2 (by rw[e,r])))
 .have s:=h.sg x a;exact(h.gr x a).kept (t _ (h.gr x a).own.lt s.2.2.1 s.1) (by rw[i];omega)
 .show zh _ (W.n+W.c+1) _ _ _ (W.n+W.c+1) NoY;refine B.snoc (λj k v e=>t k (h.ltG v e) (λr=>(B.free k (.inr (.inr (.inl r)))).2 j v e) (λr=>(B.free k (.inl r)).2 j v e)) (by rw[i];omega) ?_ (λk e=>oe) (λj v=>?_) (λk e=>?_)
  .show (if W.n+W.c<W.n then _ else qix (if W.n+W.c-W.n=W.c then p else M.bs (W.n+W.c-W.n)) (W.ses (W.n+W.c-W.n))).is _ _;rw[if_neg oe,show W.n+W.c-W.n=W.c by omega,if_pos rfl];exact C.kept (λk e=>(jce _ _ _ _ (λr=>by have:k=b:=r;omega)).trans ((o.block k oe (λr=>by have:=I k r.symm;omega)).trans (m.block k oe))) (by rw[i];omega)
  .show (if j<W.n then _ else qix (if j-W.n=W.c then p else M.bs (j-W.n)) (W.ses (j-W.n)))=(if j<W.n then _ else _);by_cases r:j<W.n
   .rw[if_pos r,if_pos r]
   rw[if_neg r,if_neg r,if_neg oe]
  have l:qfw b M k->(qfw b M k\/w.heap.size<=k)/\k<(Y.setCell (AD b 1) (.slice (PT g) (W.c+1) V)).heap.size/\¬(k=p):=λe=>by
   have:=h.ltF k e;exact⟨.inl e,by rw[i];omega,oe⟩
  obtain e|e|e|e|⟨x,a,e⟩:=e
  .exact l (.inl e)
  .exact l (.inr (.inl e))
  .rw[f]at e;injection e with e;obtain r|r:=u k e
   .exact l (.inr (.inr (.inl r)))
   exact⟨.inr oe,by rw[i];omega,oe⟩
  .exact l (.inr (.inr (.inr (.inl e))))
  exact l (.inr (.inr (.inr (.inr ⟨x,a,e⟩))))
 .rw[f]at d;injection d with d;obtain r|r:=u k d
  .exact((h.sr k).1 e).1 r
  have:=(h.pr.lt k e).2;omega
 .rw[f]at e;injection e with e;obtain r|r:=u k e
  .exact(h.sr k).2 r
  exact λd=>by have:=(h.nr.lt k d).2;omega
 have s:=h.sg x a;refine⟨s.1,s.2.1,λe=>?_,s.2.2.2⟩;rw[f]at e;injection e with e;obtain r|r:=u x.blk e
 .exact s.2.2.1 r
 have:=(h.gr x a).own.lt;omega
end
open _root_.Go.Proofs.Tryz
def q3y:(prog.info? 145).map (λi=>(i.zero,i.size,i.bytes))=some (some (.agg #[.pointer none,U 0]),2,16):=oh
def qxk:(prog.info? 149).map (λi=>(i.zero,i.size,i.bytes))=some (some (.agg #[.pointer none,U 0]),2,16):=oh
def q9t:WoM:=⟨.slice none 0 0,.slice none 0 0,.slice none 0 0,λ_=>0,λ_=>0,[]⟩
def q3a (w:Wl) (T:Tp):PWo (w.alloc (.cells #[.slice none 0 0,.slice none 0 0,.slice none 0 0,U 0] T)) w.heap.size q9t (qcb 0 0) (λ_ _=>False):=by
 refine⟨qd.new (w:=w) (T:=T) [.slice none 0 0,.slice none 0 0,.slice none 0 0,U 0] rfl,jcx _ _ _ _,jcx _ _ _ _,jcx _ _ _ _,rfl,λm a=>(by cases a),⟨λi d=>by simp[qcb]at d,λi j k d=>by simp[qcb]at d,λk b=>?_,λk b=>b.elim⟩,⟨λe=>oJ,λe=>oJ,λe=>oJ⟩,λk=>⟨λe=>oJ,λe=>oJ⟩,λm a=>(by cases a)⟩;obtain e|e|e|e|⟨m,a,_⟩:=b
 .exact⟨by rw[e];simp,λi d=>by simp[qcb]at d⟩
 .cases e
 .cases e
 .cases e
 cases a
def jbh (w:Wl):∀k,qfw w.heap.size q9t k->w.heap.size<=k:=λk a=>by
 obtain e|e|e|e|⟨m,b,_⟩:=a
 .omega
 .cases e
 .cases e
 .cases e
 cases b
structure qur (w:Wl) (M:WoM) (W:WoS) (Gs:Nat->Nat->Prop) (wr:Wl):Prop where
 is:PWo wr w.heap.size M W Gs
 gs:∀j k,j<W.n+W.c->Gs j k->w.heap.size<=k
 ft:∀k,qfw w.heap.size M k->w.heap.size<=k
 nl:M.l=[]
 hb:Bw w wr
def jbc {n c:Nat} (V:1<=n) (h4:n<=4) (h6:c<=6) (w:Wl):
 Ca 71 #[U n,U c] w λe w'=>e=.returned (.tuple #[PP w.heap.size,.nilIface])/\∃G,PW w' w.heap.size G (qcb n c)/\(∀k,G k->w.heap.size<=k)/\Bw w w':=by
 obtain⟨i0,hi0,hz0,hz1,hz2⟩:=info_parts q3y;obtain⟨i5,hi5,hy0,hy1,hy2⟩:=info_parts qxk;have q1:¬(n:Int)<1:=oe;have q2:¬4<(n:Int):=oe;have q3:¬(c:Int)<0:=oe;have q4:¬6<(c:Int):=oe;have C:=hd2 h4 h6;have N0:Hid (qur w q9t (qcb 0 0) (λ_ _=>False) (w.alloc (.cells #[.slice none 0 0,.slice none 0 0,.slice none 0 0,U 0] 140))):=⟨q3a w _,λ_ _ _ h=>h.elim,jbh w,rfl,boxed (jcc _ w) _⟩;clear V h4 h6;go_enter func71,ntmps71;go_wp2_with fail
 clear q1 q2 q3 q4;go_loopw [28] (λiv wr=>∃(k:Nat) (z:Int) (M:WoM) (d:Nat->Nat->Prop),k<=n/\z=k/\iv=U z/\Hid (qur w M (qcb k 0) d wr)) (λiv _=>n-(intOf iv).toNat)
 case atStart=>exact⟨0,0,q9t,_,oe,rfl,rfl,N0.out⟩
 clear N0;obtain⟨k,z,M,d,hk,W,rfl,a⟩:=hrel;have R:=hd1 W;by_cases hlt:k<n
 .have S:z<(n:Int):=oe;have g3:0<=z:=oe;have g4:z<4:=by have:=C.out;omega
  have NN:=q94 z wr g3 g4;obtain⟨pa,pc,hpv,r⟩:=qq a.out.is.pr;have hrl:=r.len;have hrc:=r.cap;have o:Hid (M.pv=.slice pa k pc):=hpv;clear W r hpv;go_wp2_with fail
  refine NN.mono ?_;rintro e A ⟨rfl,E,b⟩;rw[R.out]at E;have HP2:=hd2 E b;have s:=boxed (jcc _ A) (.cells #[PP (wr.heap.size+1),U 0] 145);have F:=qf a.out.is.pr (λq e=>b.block q (a.out.is.pr.lt q e).2);have D:=(a.out.is.box.later b).later s;rw[o.out]at F D;have c0:=(a.out.is.box.later b).c 0;rw[o.out]at c0;have hlw:=(a.out.is.box.later b).lt;clear NN E;go_wp2_with (at_builtin;refine wpList_append_lies _ rfl (.tmp 43) (.tmp 46) 136 rfl 0 145 i0 (.agg #[.pointer none,U 0]) 2 16 underlying136 hi0 hz0 hz1 hz2 rfl oj (.slice pa k pc) k (zt M.bp (qcb k 0).wall k) rfl (F.alloc _) (AD A.heap.size 0) 1 1 [PP (wr.heap.size+1),U 0] rfl rfl (World.news_of_block (heap_alloc_new A (.cells #[PP (wr.heap.size+1),U 0] 145))) (by intro u H;simp at H;obtain rfl|rfl:=H<;>rfl) oj (by have:=C.out;simp only[maxLen];omega) (by have:=C.out;omega) (jcw _) _ rfl ?_;intro i l t X v I Y;have J:qd t w.heap.size _:=D.grown v (λe=>a.out.is.sb.1 (by rw[o.out];exact e.symm));have e0:=J.c 0;have f0:=J.f 0)
  have K:=a.out.is.addSite rfl HP2.out.1 oe oe rfl b s X (by rw[o.out];exact v) (by rw[o.out];exact I) Y;have hsz:=a.out.hb.size;have L:∀j q,j<(qcb (k+1) 0).n+(qcb (k+1) 0).c->(λj=>if j=k then (λq=>q=wr.heap.size+1\/q=wr.heap.size)else d j) j q->w.heap.size<=q:=λj q N e=>by
   have g:(if j=k then (λq=>q=wr.heap.size+1\/q=wr.heap.size)else d j) q:=e;by_cases O:j=k
   .rw[if_pos O]at g;obtain g|g:=g<;>omega
   rw[if_neg O]at g;exact a.out.gs j q (by simp[qcb]at N ⊢;omega) g
  have P:∀q,qfw w.heap.size {M with pv:=.slice (PT i) (k+1) l,bp:=λj=>if j=k then wr.heap.size+1 else M.bp j} q->w.heap.size<=q:=λq e=>by
   obtain e|e|e|e|⟨m,hm,e⟩:=e
   .omega
   .have g:i=q:=jcu e;obtain r|r:=I
    .exact a.out.ft q (.inr (.inl (by rw[o.out,<-g];exact r)))
    simp at r;have:=b.size;omega
   .exact a.out.ft q (.inr (.inr (.inl e)))
   .exact a.out.ft q (.inr (.inr (.inr (.inl e))))
   exact a.out.ft q (.inr (.inr (.inr (.inr ⟨m,hm,e⟩))))
  have Q:Bw w (t.setCell (AD w.heap.size 0) (.slice (PT i) (k+1) l)):=((qa (qa a.out.hb b) s).grown v (by have:=b.size;simp;omega) (λq e=>a.out.ft q (.inr (.inl (by rw[o.out];exact e))))).setCell (p:=AD w.heap.size 0) (jcd _) _;have Z:Hid (qur w {M with pv:=.slice (PT i) (k+1) l,bp:=λj=>if j=k then wr.heap.size+1 else M.bp j} (qcb (k+1) 0) (λj=>if j=k then (λq=>q=wr.heap.size+1\/q=wr.heap.size)else d j) (t.setCell (AD w.heap.size 0) (.slice (PT i) (k+1) l))):=⟨K,L,P,a.out.nl,Q⟩;clear K L P Q;go_roundw
  case rel=>exact⟨k+1,z+1,_,_,oe,by have:=R.out;omega,oI,Z.out⟩
  simp[intOf];have:=R.out;omega
 have S:¬z<(n:Int):=oe;have ek:k=n:=oe;subst ek;have H0:=a;clear W hlt R;go_wp2_with fail
 clear S;go_loopw [52] (λiv wr=>∃(m:Nat) (y:Int) (M:WoM) (d:Nat->Nat->Prop),m<=c/\y=m/\iv=U y/\Hid (qur w M (qcb k m) d wr)) (λiv _=>c-(intOf iv).toNat)
 case atStart=>exact⟨0,0,M,d,oe,rfl,rfl,H0.out⟩
 clear H0 a;obtain⟨m,y,M,d,hm,hy,rfl,a⟩:=hrel;have HY:=hd1 hy;by_cases hml:m<c
 .have S:y<(c:Int):=oe;have g3:0<=y:=oe;have g4:y<6:=by have:=C.out;omega
  obtain⟨ca,cc,hcv,r⟩:=qq a.out.is.cr;have hrl:=r.len;have hrc:=r.cap;have B:Hid (M.cv=.slice ca m cc):=hcv;have T:=a.out.is.box;rw[B.out]at T;have c1:=T.c 1;have hlw:=T.lt;have SN:Hid (Ca 104 #[] wr.drew λe w'=>e=.returned (PP wr.heap.size)/\PSe w' wr.heap.size (λk=>k=wr.heap.size) qez/\Bw wr w'):=(q2h wr.drew).mono λe w' ⟨V,h2,h3⟩=>⟨V,h2,qa (jcc _ wr).drew h3⟩;clear hy r hcv
  go_wp2_with fail
  go_region_law (first
   |(refine qah rfl 104 rfl #[] (by go_simp) SN.out ?_
     rintro e A ⟨rfl,E,b⟩;refine⟨_,rfl,?_⟩;have s:=boxed (jcc _ A) (.cells #[PP wr.heap.size,U 0] 149);have F:=qf a.out.is.cr (λq e=>b.block q (a.out.is.cr.lt q e).2);rw[B.out]at F;have D:=T.later b;have k1:=D.c 1;have hl2:=D.lt)
   |(refine step_append_lies _ rfl (.tmp 58) (.tmp 61) 137 rfl 0 149 i5 (.agg #[.pointer none,U 0]) 2 16 underlying137 hi5 hy0 hy1 hy2 rfl (by decide) (.slice ca m cc) m (zt M.bs (λj=>((qcb k m).at_ j:Int)) m) (by simp[Act.eval]) (F.alloc _) (AD A.heap.size 0) 1 1 [PP wr.heap.size,U 0] (by simp[Act.eval]) rfl (World.news_of_block (heap_alloc_new A (.cells #[PP wr.heap.size,U 0] 149))) (by intro u H;simp at H;rcases H with rfl|rfl<;>rfl) (by decide) (by have:=C.out;simp only[maxLen];omega) (by have:=C.out;omega) (jcw _) _ rfl ?_
     intro i l t X v I Y;have J:qd t w.heap.size _:=(D.later s).grown v (λe=>a.out.is.sb.2.1 (by rw[B.out];exact e.symm));have e0:=J.c 1;have f0:=J.f 1))
  all_goals
   have K:=a.out.is.addSes E (jcd _) rfl b s X (by rw[B.out];exact v) (by rw[B.out];exact I) Y;have hsz:=a.out.hb.size;have s2:=b.size
   have L:∀j q,j<(qcb k (m+1)).n+(qcb k (m+1)).c->(λj=>if j=k+m then (λq=>q=wr.heap.size)else d j) j q->w.heap.size<=q:=λj q N e=>by
        have g:(if j=k+m then (λq=>q=wr.heap.size)else d j) q:=e;by_cases O:j=k+m
        .rw[if_pos O]at g;omega
        rw[if_neg O]at g;exact a.out.gs j q (by simp[qcb]at N ⊢;omega) g
   have P:∀q,qfw w.heap.size {M with cv:=.slice (PT i) (m+1) l,bs:=λj=>if j=m then wr.heap.size else M.bs j} q->w.heap.size<=q:=λq e=>by
        obtain e|e|e|e|⟨x,hx,e⟩:=e
        .omega
        .exact a.out.ft q (.inr (.inl e))
        .have g:i=q:=jcu e;obtain r|r:=I
         .exact a.out.ft q (.inr (.inr (.inl (by rw[B.out,<-g];exact r))))
         simp at r;omega
        .exact a.out.ft q (.inr (.inr (.inr (.inl e))))
        exact a.out.ft q (.inr (.inr (.inr (.inr ⟨x,hx,e⟩))))
   have Q:Bw w (t.setCell (AD w.heap.size 1) (.slice (PT i) (m+1) l)):=((qa (qa a.out.hb b) s).grown v ou (λq e=>a.out.ft q (.inr (.inr (.inl (by rw[B.out];exact e)))))).setCell (p:=AD w.heap.size 1) (jcd _) _;have Z:Hid (qur w {M with cv:=.slice (PT i) (m+1) l,bs:=λj=>if j=m then wr.heap.size else M.bs j} (qcb k (m+1)) (λj=>if j=k+m then (λq=>q=wr.heap.size)else d j) (t.setCell (AD w.heap.size 1) (.slice (PT i) (m+1) l))):=⟨K,L,P,a.out.nl,Q⟩;clear K L P Q;go_wp2_with fail
   go_roundw
   case rel=>exact⟨m+1,y+1,_,_,oe,by have:=HY.out;omega,oI,Z.out⟩
   simp[intOf];have:=HY.out;omega
 have S:¬y<(c:Int):=oe;have em:m=c:=oe;subst em;clear hy;go_wp2_with fail
 go_ret2;exact⟨rfl,qmp w.heap.size M (k+m) d,⟨M,d,a.out.is,λ_=>jdl⟩,λq hq=>hq.elim (a.out.ft q) (λ⟨j,N,e⟩=>a.out.gs j q N e),a.out.hb⟩
end Go.Proofs.YtbfkeoagmajcpaaGreatDoor
