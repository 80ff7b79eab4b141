import Derived.Test.YtemiamjnhoeniaaGreatDoorWoA
import Derived.Deep.LoopGhost
set_option maxHeartbeats 8000000
set_option maxRecDepth 100000
namespace Go.Proofs.YtemiamjnhoeniaaGreatDoor
open Go.RowKit
section
variable {S S':qaf}
theorem Goes.few (h:Goes S S'):S'.waits.length<=S.waits.length:=h.log.2
theorem Goes.keepid (h:Goes S S'):S'.id=S.id:=by
 induction h with
 |full _=>rfl
 |none _=>rfl
 |step _ _ _ ih=>exact ih
theorem Goes.lok (h:Goes S S'):(∀x∈S.log,okT x=true)->(∀x∈S.waits,okT x=true)->∀x∈S'.log,okT x=true:=by
 induction h with
 |full _=>exact λh _=>h
 |none _=>exact λh _=>h
 |@step S S' x h1 h2 _ ih=>
  intro c b;refine ih (λy a=>?_) (λy a=>b y (qq2.1 a).1);rcases List.mem_append.1 (show y∈S.log++[x]from a)with e|e
  ·exact c y e
  ·rw[List.mem_singleton.1 e];exact b x (qj9 h2).1
variable {t:TxP}
theorem qvo (b:t∈S.waits) (a:0<=t.site/\t.site<=3) (c:qar S t=true):qgw S≠none:=λe=>by
 have:=quw e t b a.1 a.2;rw[c]at this;cases this
theorem qbu.few (h:qbu S t S') (f:qcr S) (j:S.waits.length<=40):S'.waits.length<=40:=by
 rcases h with ⟨_,rfl⟩|⟨e,b⟩
 ·exact j
 ·obtain⟨p1,p2,p3,c,m⟩:=qew e;by_cases n:S.waits.length<40
  ·have:=b.few;simp at this;omega
  ·have a:qar S t=true:=by
        unfold qa2 at e
        rw[if_neg (by rw[p1];decide),if_neg p2,if_neg p3,if_neg (by
         intro q;obtain⟨x,k,d⟩:=List.any_eq_true.1 q;rw[c x k]at d
         cases d),if_neg (by omega)]at e
        by_cases q:40<=S.waits.length/\qar S t=false
        ·rw[if_pos q]at e;omega
        ·cases a:qar S t with
         |true=>rfl
         |false=>exact absurd ⟨by omega,a⟩ q
   have l:=(qdn p1).1;cases b with
   |full hf=>exact absurd hf (by show ¬200<=S.log.length;omega)
   |none hn=>exact absurd hn (qvo (S:={S with waits:=S.waits++[t]}) (List.mem_append.2 (.inr (List.mem_singleton.2 rfl))) l a)
   |@step _ _ x h1 h2 h3=>
    have p:=h3.few;have r:=qfv (f.nums.snoc c) (qj9 h2).1
    have s:(S.waits++[t]).length=S.waits.length+1:=by simp
    have u:(ql5 {S with waits:=S.waits++[t]} x).waits.length=(qgc (S.waits++[t]) x).length:=rfl;omega
theorem qbu.keepid (h:qbu S t S'):S'.id=S.id:=by
 rcases h with ⟨_,rfl⟩|⟨_,a⟩
 ·rfl
 ·exact a.keepid
theorem qbu.lok (h:qbu S t S') (b:qcr S) (a:∀x∈S.log,okT x=true):∀x∈S'.log,okT x=true:=by
 rcases h with ⟨_,rfl⟩|⟨e,c⟩
 ·exact a
 ·obtain⟨p1,_⟩:=qew e;refine c.lok a (λx d=>?_);rcases List.mem_append.1 (show x∈S.waits++[t]from d)with q|q
  ·exact(b.wt x q).1
  ·rw[List.mem_singleton.1 q];exact p1
variable {i o:Nat}
section
variable {W W':WoS} {g:GrS}
theorem WfW.setSite (h:WfW W) (b:qcr S') (c:S'.id=(i:Int)) (d:S'.waits.length<=40) (e:∀x∈S'.log,okT x=true):WfW (setSite W i S'):=by
 refine⟨h.n1,h.n4,h.c6,h.at_,λj a=>?_,λj a=>?_,h.net,λj a=>?_,λj a=>?_,h.to⟩<;>show _<;>by_cases q:j=i
 ·subst q;show qcr (qb2 W.S j S' j);rw[qal];exact b
 ·show qcr (qb2 W.S i S' j);rw[qbq _ _ q];exact h.inv j a
 ·subst q;show (qb2 W.S j S' j).id=_;rw[qal];exact c
 ·show (qb2 W.S i S' j).id=_;rw[qbq _ _ q];exact h.id j a
 ·subst q;show (qb2 W.S j S' j).waits.length<=40;rw[qal];exact d
 ·show (qb2 W.S i S' j).waits.length<=40;rw[qbq _ _ q];exact h.wt j a
 ·subst q;show ∀x∈(qb2 W.S j S' j).log,_;rw[qal];exact e
 ·show ∀x∈(qb2 W.S i S' j).log,_;rw[qbq _ _ q];exact h.lok j a
theorem WfW.send (h:WfW W) (a:g.to<W.n):WfW (qcq W g):=by
 have s:=qbv W g;refine⟨by rw[s.n];exact h.n1,by rw[s.n];exact h.n4,by rw[s.c];exact h.c6,by rw[s.n,s.c,s.at_];exact h.at_,by rw[s.n,s.S];exact h.inv,by rw[s.n,s.S];exact h.id,?_,by rw[s.n,s.S];exact h.wt,by rw[s.n,s.S];exact h.lok,λx b=>?_⟩
 ·unfold qcq;split
  ·exact h.net
  ·show (W.net++[g]).length<=300;simp;omega
 ·rw[s.n];rcases qke b with q|q
  ·exact h.to x q
  ·rw[q];exact a
theorem WfW.sends:∀(l:List TxP) (W:WoS),WfW W->o<W.n->WfW (qcb o l W)
 |[],_,h,_=>h
 |t::l,W,h,ho=>by
  unfold qcb;split
  ·exact WfW.sends l W h ho
  ·exact WfW.sends l _ (h.send ho) (by rw[(qbv W ⟨o,.tx t⟩).n];exact ho)
theorem WfW.tell:∀(k:Nat) (W:WoS),WfW W->k<=W.n->WfW (qds t k W)
 |0,_,h,_=>h
 |k+1,W,h,hk=>by
  unfold qds;split
  ·exact WfW.tell k W h (by omega)
  ·exact(WfW.tell k W h (by omega)).send (by rw[(qcp t k W).n];show k<W.n;omega)
theorem WfW.answer (h:WfW W) (a:i<W.n) (b:o<W.n) (v0 v1 v2 v3:Int):WfW (qdb W i o v0 v1 v2 v3):=
 WfW.sends _ _ (h.setSite ((h.inv i a).knows _) (h.id i a) (h.wt i a) (h.lok i a)) b
theorem WfW.drop (h:WfW W) (i:Nat):WfW (qb3 W i):=
 ⟨h.n1,h.n4,h.c6,h.at_,h.inv,h.id,Nat.le_trans (List.eraseIdx_sublist W.net i).length_le h.net,h.wt,h.lok,λx a=>h.to x (List.mem_of_mem_eraseIdx a)⟩
theorem WfW.come (h:WfW W) (a:g.to<W.n) (d:qg2 W g W'):WfW W':=by
 obtain⟨to,body⟩:=g;cases body with
 |tx t=>
  obtain⟨S',b,rfl⟩:=d;exact h.setSite (b.inv (h.inv to a)) (b.keepid.trans (h.id to a)) (b.few (h.inv to a) (h.wt to a)) (b.lok (h.inv to a) (h.lok to a))
 |ask site v0 v1 v2 v3=>
  have c:if 0<=site/\site<(W.n:Int)then W'=qdb W to site.toNat v0 v1 v2 v3 else W'=W:=d
  by_cases q:0<=site/\site<(W.n:Int)
  ·rw[if_pos q]at c;rw[c];exact h.answer a (by omega) v0 v1 v2 v3
  ·rw[if_neg q]at c;rw[c];exact h
theorem WfW.deliver (h:WfW W) (a:qcc W i W'):WfW W':=by
 obtain⟨g,b,c⟩:=a;exact(h.drop i).come (h.to g (List.mem_of_getElem? b)) c
def qwx:GrS->Nat
 |⟨_,.tx _⟩=>1
 |⟨_,.ask _ _ _ _ _⟩=>302
def qqq (l:List GrS):Nat:=(l.map qwx).sum
theorem qfx (o:Nat):∀(l:List TxP) (W:WoS),W.net.length<=300->qqq (qcb o l W).net+W.net.length<=qqq W.net+300
 |[],W,h=>by show qqq W.net+_<=_;omega
 |t::l,W,h=>by
  unfold qcb;split
  ·exact qfx o l W h
  ·by_cases q:300<=W.net.length
   ·have e:(qcq W ⟨o,.tx t⟩).net=W.net:=by unfold qcq;rw[if_pos q]
    have:=qfx o l (qcq W ⟨o,.tx t⟩) (by rw[e];exact h);rw[e]at this;exact this
   ·have e:=qx0 (W:=W) (g:=⟨o,.tx t⟩) (by omega);have:=qfx o l (qcq W ⟨o,.tx t⟩) (by rw[e];simp;omega);rw[e]at this;simp[qqq,qwx]at this ⊢;omega
theorem qiz (h:WfW W) (a:qcc W 0 W'):qqq W'.net<qqq W.net:=by
 obtain⟨⟨to,body⟩,b,f⟩:=a
 obtain⟨r,c⟩:∃r,W.net=⟨to,body⟩::r:=by
  cases hn:W.net with
  |nil=>rw[hn]at b;simp at b
  |cons x r=>
   rw[hn]at b;simp at b;exact⟨r,by rw[b]⟩
 have a:(qb3 W 0).net=r:=by show W.net.eraseIdx 0=r;rw[c];rfl
 have j:r.length+1<=300:=by have:=h.net;rw[c]at this;simpa using this
 cases body with
 |tx t=>
  obtain⟨S',_,rfl⟩:=f;show qqq (qb3 W 0).net<_;rw[a,c];simp[qqq,qwx]
 |ask site v0 v1 v2 v3=>
  have d:if 0<=site/\site<((qb3 W 0).n:Int)then W'=qdb (qb3 W 0) to site.toNat v0 v1 v2 v3 else W'=qb3 W 0:=f
  by_cases q:0<=site/\site<((qb3 W 0).n:Int)
  ·rw[if_pos q]at d;have:=qfx site.toNat (qf0 ((qb3 W 0).S to) v0 v1 v2 v3) (setSite (qb3 W 0) to (qbi ((qb3 W 0).S to) site.toNat v0 v1 v2 v3)) (by show (qb3 W 0).net.length<=300;rw[a];omega);rw[d];have e:(setSite (qb3 W 0) to (qbi ((qb3 W 0).S to) site.toNat v0 v1 v2 v3)).net=r:=a;rw[e]at this;show qqq (qcb _ _ _).net<_;rw[c];simp[qqq,qwx]at this ⊢;omega
  ·rw[if_neg q]at d;rw[d,a,c];simp[qqq,qwx]
end
end
section
def q5f (n:Nat) (g:GrS):Prop:=
 match g.body with
 |.tx t=>okT t=true
 |.ask s _ _ _ _=>0<=s/\s<(n:Int)
def qjj (W:WoS):Prop:=∀g∈W.net,q5f W.n g
variable {i:Nat} {A B:WoS}
section
variable {W W':WoS} {g:GrS}
theorem qjj.send (h:qjj W) (a:q5f W.n g):qjj (qcq W g):=λx b=>by
 rw[(qbv W g).n];rcases qke b with q|q
 ·exact h x q
 ·rw[q];exact a
theorem qjj.drop (h:qjj W) (i:Nat):qjj (qb3 W i):=λx a=>h x (List.mem_of_mem_eraseIdx a)
theorem qjj.tell (h:qjj W) {t:TxP} (a:okT t=true) (k:Nat):qjj (qds t k W):=λx b=>by
 rw[(qcp t k W).n];rcases qmw k b with q|⟨_,q⟩
 ·exact h x q
 ·obtain⟨to,body⟩:=x;have q:body=.tx t:=q;subst q;exact a
theorem qjj.come (h:qjj W) (b:WfW W) (c:g.to<W.n) (a:qg2 W g W'):qjj W':=by
 obtain⟨to,body⟩:=g;cases body with
 |tx t=>
  obtain⟨S',_,rfl⟩:=a;exact h
 |ask s v0 v1 v2 v3=>
  have a:if 0<=s/\s<(W.n:Int)then W'=qdb W to s.toNat v0 v1 v2 v3 else W'=W:=a
  split at a
  ·rw[a];intro x d;show q5f (qdb W to s.toNat v0 v1 v2 v3).n x;rw[show (qdb W to s.toNat v0 v1 v2 v3).n=W.n from(qee _ _ _).n];rcases qn3 _ _ d with q|⟨_,t,e,_,q⟩
   ·exact h x q
   ·obtain⟨f,body⟩:=x;have q:body=.tx t:=q;subst q;exact b.lok to c t (List.mem_filter.1 e).1
  ·rw[a];exact h
theorem qjj.deliver (h:qjj W) (a:WfW W) (b:qcc W i W'):qjj W':=by
 obtain⟨g,c,d⟩:=b;exact(h.drop i).come (a.drop i) (a.to g (List.mem_of_getElem? c)) d
theorem qg2.det (h:qg2 W g A) (k:qg2 W g B):A=B:=by
 obtain⟨to,body⟩:=g;cases body with
 |tx t=>
  obtain⟨c,a,rfl⟩:=h;obtain⟨d,b,rfl⟩:=k;rw[qbu.det a b]
 |ask s v0 v1 v2 v3=>
  have h:if 0<=s/\s<(W.n:Int)then A=qdb W to s.toNat v0 v1 v2 v3 else A=W:=h
  have k:if 0<=s/\s<(W.n:Int)then B=qdb W to s.toNat v0 v1 v2 v3 else B=W:=k
  split at h
  ·rename_i q;rw[if_pos q]at k;rw[h,k]
  ·rename_i q;rw[if_neg q]at k;rw[h,k]
theorem qcc.det (h:qcc W i A) (k:qcc W i B):A=B:=by
 obtain⟨g,b,c⟩:=h;obtain⟨g',a,d⟩:=k;rw[b]at a;cases a;exact c.det d
end
variable {W:WoS}
theorem qc3.det (h:qc3 W A):qc3 W B->A=B:=by
 induction h with
 |none h0=>
  intro k;cases k with
  |none _=>rfl
  |step h1 _ _=>exact absurd h0 h1
 |step h1 h2 _ ih=>
  intro k;cases k with
  |none h0=>exact absurd h0 h1
  |step _ k2 k3=>
   rw[h2.det k2]at ih;exact ih k3
variable {m:Nat}
theorem qga.det {k:Nat} (h:qga k m W A):∀{B:WoS},qga k m W B->A=B:=by
 induction h with
 |zero=>
  intro B q;cases q;rfl
 |self _ e ih=>
  intro B q;cases q with
  |self q _=>exact ih q
  |ask _ n _=>exact absurd e n
 |ask _ n h3 ih=>
  intro B q;cases q with
  |self _ e=>exact absurd e n
  |ask q _ q3=>
   have:=ih q;subst this;exact h3.det q3
theorem qfc.det (h:qfc m W A):∀{B:WoS},qfc m W B->A=B:=by
 induction h with
 |zero=>
  intro B q;cases q;rfl
 |next _ h2 ih=>
  intro B q;cases q with
  |next q q2=>
   have:=ih q;subst this;exact h2.det q2
theorem qk3.det (h:qk3 W A) (k:qk3 W B):A=B:=by
 obtain⟨W1,a,b⟩:=h;obtain⟨e,c,d⟩:=k;have:=a.det c;subst this;exact b.det d
end
section
theorem qya (l:List GrM) (m:GrM):qfk (l++[m])=qfk l++qsz m:=by simp[qfk]
theorem qp5 (m:GrM):∀u∈qsz m,u.oneCell'=true:=by
 intro u a;simp[qsz]at a
 rcases a with rfl|rfl<;>rfl
theorem qt4:(Tryz.prog.info? 168).map (λi=>(i.zero,i.size,i.bytes))=some (some (.agg #[.int .i64 0,.slice none 0 0]),2,32):=by kernel_rfl
theorem qn4 (W:World) (n:Nat) (c:W.heap.size=n) (a:List Value) (T:TypeId):∀j u,a[j]?=some u->(W.alloc (.cells a.toArray T)).cell? ((⟨n,0,none⟩:Addr).add j)=some u:=by
 subst c;exact World.news_of_block (heap_alloc_new W (.cells a.toArray T))
section
variable {w w2 wE:World} {b g cap:Nat} {G:Nat->Prop} {M:WoM} {W:WoS} {Gs:Nat->Nat->Prop} {m:GrM}
theorem PWo.pushed (h:PWo w b M W Gs) (hb:Below w.heap.size w w2) (E:m.Ok w) (H:(∃x∈M.l,x.blk=m.blk)\/¬qj4 b M (W.n+W.c) Gs m.blk)
 (own:wE.ownsRow 0 168 2 (.slice (some ⟨g,0,none⟩) (M.l.length+1) cap) (M.l.length+1) (qfk M.l++qsz m)) (gr:w2.grownBy wE M.nv.ownBlock) (u:M.nv.ownBlock=some g\/w.heap.size<=g) (I:g<wE.heap.size):
 PWo (wE.setCell ⟨b,2,none⟩ (.slice (some ⟨g,0,none⟩) (M.l.length+1) cap)) b {M with nv:=.slice (some ⟨g,0,none⟩) (M.l.length+1) cap,l:=M.l++[m]} {W with net:=W.net++[m.g]} Gs:=by
 have R:=h.box.lt;have s2:=hb.size;have S:=gr.size;have v:(Value.slice (some ⟨g,0,none⟩) (M.l.length+1) cap).ownBlock=some g:=rfl;have J:=E.own.lt
 have F:g≠b:=by
  rcases u with e|e
  ·exact λq=>h.sb.2.2 (by rw[e,q])
  ·omega
 have K:∀k,k<w.heap.size->M.nv.ownBlock≠some k->wE.heap[k]?=w.heap[k]?:=λk d A=>(gr.block k (by omega) (λe=>A e.symm)).trans (hb.block k d);have z:∀k,k<w.heap.size->M.nv.ownBlock≠some k->k≠b->(wE.setCell ⟨b,2,none⟩ (.slice (some ⟨g,0,none⟩) (M.l.length+1) cap)).heap[k]?=w.heap[k]?:=λk d A L=>(Below.heap_setCell _ _ _ _ (λe=>L e)).trans (K k d A)
 have y:(wE.setCell ⟨b,2,none⟩ (.slice (some ⟨g,0,none⟩) (M.l.length+1) cap)).heap.size=wE.heap.size:=by simp[World.setCell]
 have B:=h.ltF
 have p:m.blk≠b/\M.pv.ownBlock≠some m.blk/\M.cv.ownBlock≠some m.blk/\M.nv.ownBlock≠some m.blk/\(∀i,i<W.n+W.c->¬Gs i m.blk):=by
  rcases H with ⟨x,o,e⟩|e
  ·have:=h.sg x o;rw[e]at this;exact⟨this.1,this.2.1,this.2.2.1,this.2.2.2,(h.fam.free m.blk (.inr (.inr (.inr (.inr ⟨x,o,e⟩))))).2⟩
  ·exact⟨λq=>e (.inl (.inl q)),λq=>e (.inl (.inr (.inl q))),λq=>e (.inl (.inr (.inr (.inl q)))),λq=>e (.inl (.inr (.inr (.inr (.inl q))))),λi C q=>e (.inr ⟨i,C,q⟩)⟩
 have N:m.blk≠g:=by
  rcases u with e|e
  ·exact λq=>p.2.2.2.1 (by rw[e,q])
  ·omega
 refine⟨?_,?_,?_,?_,?_,λx o=>?_,?_,⟨h.sb.1,h.sb.2.1,λe=>?_⟩,λk=>⟨λe=>⟨(h.sr k).1 e|>.1,λa=>?_⟩,λe a=>?_⟩,λx o=>?_⟩
 ·have O:=(h.box.later hb).grown gr (λe=>h.sb.2.2 e.symm);exact O.set 2 _ (by simp)
 ·exact qad h.pr (λk e=>z k (h.pr.lt k e).2 ((h.sr k).1 e).2 (λq=>h.sb.1 (by rw[e,q])))
 ·exact qad h.cr (λk e=>z k (h.cr.lt k e).2 ((h.sr k).2 e) (λq=>h.sb.2.1 (by rw[e,q])))
 ·show World.ownsRow _ 0 _ 2 _ (M.l++[m]).length (qfk (M.l++[m]));rw[qya,List.length_append];exact qad own (λk e=>Below.heap_setCell _ _ _ _ (λq=>F (by rw[v]at e;injection e with e;exact e.trans q)))
 ·show (M.l++[m]).map (·.g)=W.net++[m.g];rw[List.map_append,h.nl];rfl
 ·rcases List.mem_append.1 o with q|q
  ·have:=h.sg x q;exact(h.gr x q).kept (z _ (B _ (.inr (.inr (.inr (.inr ⟨x,q,rfl⟩))))) this.2.2.2 this.1) (by rw[y];omega)
  ·rw[List.mem_singleton.1 q];exact E.kept (z _ J p.2.2.2.1 p.1) (by rw[y];omega)
 ·have f:=h.fam.to (X':=qg8 b M) (w':=wE.setCell ⟨b,2,none⟩ (.slice (some ⟨g,0,none⟩) (M.l.length+1) cap)) (λj k D e=>z k (h.ltG D e) (λq=>(h.fam.free k (.inr (.inr (.inr (.inl q))))).2 j D e) (λq=>(h.fam.free k (.inl q)).2 j D e)) (by rw[y];omega) (λk d=>⟨.inl d,by rw[y];have:=B k d;omega⟩);refine⟨f.is,f.apart,λk d=>?_,f.half⟩
  ·rcases d with e|e|e|e|⟨x,o,e⟩
   ·exact f.free k (.inl e)
   ·exact f.free k (.inr (.inl e))
   ·exact f.free k (.inr (.inr (.inl e)))
   ·rw[v]at e;injection e with e;subst e;rcases u with q|q
    ·exact f.free g (.inr (.inr (.inr (.inl q))))
    ·exact⟨by rw[y];exact I,λi C P=>by have:=h.ltG C P;omega⟩
   ·rcases List.mem_append.1 o with q|q
    ·exact f.free k (.inr (.inr (.inr (.inr ⟨x,q,e⟩))))
    ·rw[List.mem_singleton.1 q]at e;subst e;exact⟨by rw[y];omega,p.2.2.2.2⟩
 ·rw[v]at e;injection e with e;exact F e
 ·rw[v]at a;injection a with a;subst a;rcases u with q|q
  ·exact((h.sr g).1 e).2 q
  ·have:=(h.pr.lt g e).2;omega
 ·rw[v]at a;injection a with a;subst a;rcases u with q|q
  ·exact(h.sr g).2 e q
  ·have:=(h.cr.lt g e).2;omega
 ·have Q:some g≠some x.blk->(Value.slice (some ⟨g,0,none⟩) (M.l.length+1) cap).ownBlock≠some x.blk:=λq=>q;rcases List.mem_append.1 o with q|q
  ·have s:=h.sg x q;refine⟨s.1,s.2.1,s.2.2.1,Q (λe=>?_)⟩;injection e with e;rcases u with r|r
   ·exact s.2.2.2 (by rw[r,e])
   ·have:=B x.blk (.inr (.inr (.inr (.inr ⟨x,q,rfl⟩))));omega
  ·rw[List.mem_singleton.1 q];exact⟨p.1,p.2.1,p.2.2.1,λe=>by rw[v]at e;injection e with e;exact N e.symm⟩
theorem PWo.lostBox (h:PWo w b M W Gs) (hb:Below w.heap.size w w2) (x:Int):PWo (w2.setCell ⟨b,3,none⟩ (.int .i64 x)) b M {W with lost:=x} Gs:=by
 have s2:=hb.size;have a:∀k,k<w.heap.size->k≠b->(w2.setCell ⟨b,3,none⟩ (.int .i64 x)).heap[k]?=w.heap[k]?:=λk c l=>(Below.heap_setCell _ _ _ _ (λe=>l e)).trans (hb.block k c)
 have d:(w2.setCell ⟨b,3,none⟩ (.int .i64 x)).heap.size=w2.heap.size:=by simp[World.setCell]
 exact⟨(h.box.later hb).set 3 _ (by simp),qad h.pr (λk e=>a k (h.pr.lt k e).2 (λq=>h.sb.1 (by rw[e,q]))),qad h.cr (λk e=>a k (h.cr.lt k e).2 (λq=>h.sb.2.1 (by rw[e,q]))),qad h.nr (λk e=>a k (h.nr.lt k e).2 (λq=>h.sb.2.2 (by rw[e,q]))),h.nl,λx f=>(h.gr x f).kept (a _ (h.ltF _ (.inr (.inr (.inr (.inr ⟨x,f,rfl⟩))))) (h.sg x f).1) (by rw[d];exact s2),h.fam.to (λj k i e=>a k (h.ltG i e) (λq=>(h.fam.free k (.inl q)).2 j i e)) (by rw[d];exact s2) (λk c=>⟨.inl c,by rw[d];have:=h.ltF k c;omega⟩),h.sb,h.sr,h.sg⟩
def qgh (w:World) (b:Nat) (M:WoM) (Gs:Nat->Nat->Prop) (Z:Nat->Prop) (W':WoS) (w':World):Prop:=
 ∃nv' l',PWo w' b {M with nv:=nv',l:=l'} W' Gs/\(∀k,nv'.ownBlock=some k->M.nv.ownBlock=some k\/w.heap.size<=k)/\(∀x∈l',x∈M.l\/Z x.blk)/\qae (λk=>k=b\/M.nv.ownBlock=some k) w w'
theorem qgh.post {w':World} {f:WoS} {Z:Nat->Prop} (h:qgh w b M Gs Z f w') (a:∀k,G k↔qj4 b M (W.n+W.c) Gs k) (l:f.n=W.n) (o:f.c=W.c) (p:∀k,Z k->G k\/w.heap.size<=k):qgq w b G f w':=by
 obtain⟨z,A,r,s,t,d⟩:=h;refine⟨_,⟨_,Gs,r,λ_=>Iff.rfl⟩,λk j=>?_,⟨d.os,d.tape,d.output,d.size,λk j u=>d.block k j (λe=>u ((a k).2 (.inl (e.elim .inl (λq=>.inr (.inr (.inr (.inl q))))))))⟩⟩;rw[l,o]at j;rcases j with (e|e|e|e|⟨x,v,e⟩)|⟨i,y,e⟩
 ·exact .inl ((a k).2 (.inl (.inl e)))
 ·exact .inl ((a k).2 (.inl (.inr (.inl e))))
 ·exact .inl ((a k).2 (.inl (.inr (.inr (.inl e)))))
 ·rcases s k e with q|q
  ·exact .inl ((a k).2 (.inl (.inr (.inr (.inr (.inl q))))))
  ·exact .inr q
 ·rcases t x v with q|q
  ·exact .inl ((a k).2 (.inl (.inr (.inr (.inr (.inr ⟨x,q,e⟩))))))
  ·rw[e]at q;exact p k q
 ·exact .inl ((a k).2 (.inr ⟨i,y,e⟩))
theorem PWo.later (h:PWo w b M W Gs) (hb:Below w.heap.size w w2):PWo w2 b M W Gs:=
 ⟨h.box.later hb,qad h.pr (λk e=>hb.block k (h.pr.lt k e).2),qad h.cr (λk e=>hb.block k (h.cr.lt k e).2),qad h.nr (λk e=>hb.block k (h.nr.lt k e).2),h.nl,λm a=>(h.gr m a).kept (hb.block _ (h.gr m a).own.lt) hb.size,h.fam.to (λ_ k c e=>hb.block k (h.ltG c e)) hb.size (λk e=>⟨.inl e,Nat.lt_of_lt_of_le (h.ltF k e) hb.size⟩),h.sb,h.sr,h.sg⟩
theorem qgh.none (h:PWo w b M W Gs) (hb:Below w.heap.size w w2) (Z:Nat->Prop):qgh w b M Gs Z W w2:=⟨M.nv,M.l,h.later hb,λ_ e=>.inl e,λ_ a=>.inl a,qae.ofBelow hb⟩
end
theorem qpf {b:Nat} {M:WoM} {W:WoS} {Gs:Nat->Nat->Prop} (w:World) (h:PWo w b M W Gs) (m:GrM) (p:m.Ok w) (s:(∃x∈M.l,x.blk=m.blk)\/¬qj4 b M (W.n+W.c) Gs m.blk):
 Calls Tryz.prog 83 #[.pointer (some ⟨b,0,none⟩),.agg #[.int .i64 m.g.to,.slice (some ⟨m.blk,0,none⟩) m.S.size m.cap]] w λe w'=>e=.returned (.tuple #[])/\qgh w b M Gs (λk=>k=m.blk) (qcq W m.g) w':=by
 have i:Hid (PWo w b M W Gs/\m.Ok w/\((∃x∈M.l,x.blk=m.blk)\/¬qj4 b M (W.n+W.c) Gs m.blk)):=⟨h,p,s⟩
 have C:M.l.length=W.net.length:=by rw[<-h.nl];simp
 obtain⟨K,L,j,r⟩:=qan h.nr;have Z:=h.box.lt;have u:=boxed (Below.refl _ w) (.cells #[.int .i64 m.g.to,.slice (some ⟨m.blk,0,none⟩) m.S.size m.cap] 168);have a:=h.box.later u;rw[j]at a;have c2:=a.cell 2 _ rfl;have c3:=a.cell 3 _ rfl;have f2:=a.free 2 (by simp);have f3:=a.free 3 (by simp);by_cases o:300<=W.net.length
 ·have q:300<=(M.l.length:Int):=by omega
  have y:Hid (qcq W m.g={W with lost:=wrap64 (W.lost+1)}):=if_pos o;clear h p s r C o;go_enter Tryz.func83,Tryz.ntmps83
  go_wp2_with fail
  refine bodyPost_ret (v:=.tuple #[]) (results_none rfl _ _ _) rfl ⟨rfl,?_⟩;rw[y.out];exact⟨M.nv,M.l,(i.out.1.lostBox (Below.refl _ w) (wrap64 (W.lost+1))).later (boxed (Below.refl _ _) _),λ_ e=>.inl e,λ_ z=>.inl z,(qae.setCell _ _ _ (.inl rfl)).trans (qae.ofBelow (boxed (Below.refl _ _) _))⟩
 ·have q:¬300<=(M.l.length:Int):=by omega
  have y:Hid (qcq W m.g={W with net:=W.net++[m.g]}):=if_neg o
  have D:Hid (M.l.length<300):=by show _<_;omega
  obtain⟨N,O,P,Q,R⟩:=info_parts qt4;have E:=(boxed u.drew (.cells #[.int .i64 m.g.to,.slice (some ⟨m.blk,0,none⟩) m.S.size m.cap] 168));have F:=qad h.nr (λk e=>u.drew.block k (h.nr.lt k e).2);rw[j]at F;have d:Hid _:=j;have T:Hid _:=h.sb.2.2;clear h p s r C o j;go_enter Tryz.func83,Tryz.ntmps83
  go_wp2_with fail
  go_region_law (refine step_append_lies _ rfl (.tmp 21) (.tmp 23) 92 rfl 0 168 N (.agg #[.int .i64 0,.slice none 0 0]) 2 32 Tryz.underlying92 O P Q R rfl (by decide) (.slice K M.l.length L) M.l.length (qfk M.l) (by simp[Act.eval]) (F.alloc _) ⟨w.heap.size+1,0,none⟩ 1 1 [.int .i64 m.g.to,.slice (some ⟨m.blk,0,none⟩) m.S.size m.cap] (by simp[Act.eval]) rfl (qn4 _ _ (by simp) [.int .i64 m.g.to,.slice (some ⟨m.blk,0,none⟩) m.S.size m.cap] 168) (qp5 m) (by decide) (by have:=D.out;simp only[maxLen];omega) (by have:=D.out;omega) (by omega) _ rfl ?_
                 intro H U wE V B I X;have J:qag wE b _:=(a.later (boxed (Below.refl _ _) _).drew).grown B (λe=>T.out (by rw[d.out];exact e.symm));have e2:=J.cell 2 _ rfl
                 have f2E:=J.free 2 (by simp))
  all_goals
   go_wp2_with fail
   go_end0;refine⟨rfl,?_⟩;rw[y.out];refine⟨.slice (some ⟨H,0,none⟩) (M.l.length+1) U,M.l++[m],i.out.1.pushed E i.out.2.1 i.out.2.2 V (by rw[d.out];exact B) ?_ X,λk e=>?_,λx z=>?_,?_⟩
   ·rw[d.out];rcases I with e|e
    ·exact .inl e
    ·exact .inr (by rw[e];simp;omega)
   ·rw[d.out];have Y:H=k:=Option.some.inj e;subst Y;rcases I with e|e
    ·exact .inl e
    ·exact .inr (by rw[e];simp;omega)
   ·rcases List.mem_append.1 z with q|q
    ·exact .inl q
    ·exact .inr (by rw[List.mem_singleton.1 q])
   ·refine((qae.ofBelow E).trans (qae.grown B (λk e=>.inr (by rw[d.out];exact e)))).trans (qae.setCell _ _ _ (.inl rfl))
end
section
open Go.Value Go.IntKind
section
variable {w w1 w2 w':World} {b:Nat} {M:WoM} {W W':WoS} {Gs:Nat->Nat->Prop} {Z:Nat->Prop}
theorem qgh.from (hb:Below w.heap.size w w1) (h:qgh w1 b M Gs Z W' w'):qgh w b M Gs Z W' w':=by
 obtain⟨a,c,d,f,g,i⟩:=h;exact⟨a,c,d,λk e=>(f k e).elim .inl (λq=>.inr (Nat.le_trans hb.size q)),g,(qae.ofBelow hb).trans i⟩
theorem qgh.weak {a:Nat->Prop} (h:qgh w b M Gs Z W' w') (c:∀k,Z k->a k):qgh w b M Gs a W' w':=by
 obtain⟨d,e,f,g,i,j⟩:=h;exact⟨d,e,f,g,λx l=>(i x l).elim .inl (λq=>.inr (c _ q)),j⟩
theorem qgh.size (h:qgh w b M Gs Z W' w'):w.heap.size<=w'.heap.size:=by
 obtain⟨_,_,_,_,_,a⟩:=h;exact a.size
theorem qgh.block (h:qgh w b M Gs Z W' w') {k:Nat} (a:k<w.heap.size) (c:k≠b) (d:M.nv.ownBlock≠some k):w'.heap[k]?=w.heap[k]?:=by
 obtain⟨_,_,_,_,_,f⟩:=h;exact f.block k a (λe=>e.elim c d)
theorem qgh.next {i:WoS} (h:qgh w b M Gs Z W' w1) (a:∀f g,PWo w1 b {M with nv:=f,l:=g} W' Gs->qgh w1 b {M with nv:=f,l:=g} Gs Z i w'):qgh w b M Gs Z i w':=by
 obtain⟨f,g,m,j,n,c⟩:=h;obtain⟨o,p,r,t,u,d⟩:=a f g m;have s:=c.size;refine⟨o,p,r,λk e=>?_,λx v=>?_,?_⟩
 ·rcases t k e with q|q
  ·exact j k q
  ·exact .inr (by omega)
 ·rcases u x v with q|q
  ·exact n x q
  ·exact .inr q
 ·refine⟨d.os.trans c.os,d.tape.trans c.tape,d.output.trans c.output,Nat.le_trans s d.size,λk y a=>?_⟩;refine(d.block k (by omega) (λe=>?_)).trans (c.block k y a);rcases e with e|e
  ·exact a (.inl e)
  ·rcases j k e with q|q
   ·exact a (.inr q)
   ·omega
end
theorem qnv {b:Nat} {M:WoM} {W:WoS} {Gs:Nat->Nat->Prop} (to:Nat) (site seq wall count d0 d1 d2 d3:Int) (ws:List Wr) (a:Option Addr) (cap:Nat) (w:World) (h:PWo w b M W Gs) (j:qat w a cap ws) (p:qc7 site seq wall count d0 d1 d2 d3 ws=true):
 Calls Tryz.prog 111 #[.pointer (some ⟨b,0,none⟩),int i64 to,.agg #[int i64 site,int i64 seq,int i64 wall,int i64 count,int i64 d0,int i64 d1,int i64 d2,int i64 d3,.slice a ws.length cap]] w λe w'=>e=.returned (.tuple #[])/\qgh w b M Gs (λk=>w.heap.size<=k) (qcq W ⟨to,.tx ⟨site,seq,wall,count,d0,d1,d2,d3,ws⟩⟩) w':=by
 have c:Hid _:=h;have d:=boxed (Below.refl _ w) (.cells #[int i64 site,int i64 seq,int i64 wall,int i64 count,int i64 d0,int i64 d1,int i64 d2,int i64 d3,.slice a ws.length cap] 80);have l:=qvn (j.later d) p;clear h j;go_enter Tryz.func111,Tryz.ntmps111
 go_wp2_with fail
 refine l.mono ?_;rintro e w2 ⟨S,g,m,rfl,⟨r,_⟩,s,O,u⟩;have n:=qac d u;have v:w.heap.size<=g:=Nat.le_trans d.size O.base;have o:=c.out.later n
 have x:Hid (Calls Tryz.prog 83 #[.pointer (some ⟨b,0,none⟩),.agg #[int i64 to,.slice (some ⟨g,0,none⟩) S.size m]] w2 λe w'=>e=.returned (.tuple #[])/\qgh w2 b M Gs (λk=>k=g) (qcq W ⟨to,.tx ⟨site,seq,wall,count,d0,d1,d2,d3,ws⟩⟩) w'):=
  qpf w2 o ⟨⟨to,.tx ⟨site,seq,wall,count,d0,d1,d2,d3,ws⟩⟩,g,m,S⟩ ⟨O.mono (Nat.zero_le _),s,r⟩ (.inr (λe=>by
   rcases e with q|⟨i,y,q⟩
   ·have:g<w.heap.size:=c.out.ltF g q;omega
   ·have:g<w.heap.size:=c.out.ltG y q
    omega))
 clear l o
 go_wp2_with fail
 refine x.out.mono ?_;rintro e B ⟨rfl,z⟩
 go_wp2_with fail
 go_end0;exact⟨rfl,(z.from n).weak (λk e=>by rw[e];exact v)⟩
theorem q00 {b:Nat} {M:WoM} {W:WoS} {Gs:Nat->Nat->Prop} (site seq wall count d0 d1 d2 d3:Int) (ws:List Wr) (a:Option Addr) (cap:Nat) (w:World) (h:PWo w b M W Gs) (H:W.n<=4) (I:qat w a cap ws) (J:∀k o,ws≠[]->a=some ⟨k,o,none⟩->k≠b/\M.nv.ownBlock≠some k) (K:qc7 site seq wall count d0 d1 d2 d3 ws=true):
 Calls Tryz.prog 79 #[.pointer (some ⟨b,0,none⟩),.agg #[int i64 site,int i64 seq,int i64 wall,int i64 count,int i64 d0,int i64 d1,int i64 d2,int i64 d3,.slice a ws.length cap]] w λe w'=>e=.returned (.tuple #[])/\qgh w b M Gs (λk=>w.heap.size<=k) (qds ⟨site,seq,wall,count,d0,d1,d2,d3,ws⟩ W.n W) w':=by
 have g:Hid (PWo w b M W Gs/\qat w a cap ws/\(∀k o,ws≠[]->a=some ⟨k,o,none⟩->k≠b/\M.nv.ownBlock≠some k)/\qc7 site seq wall count d0 d1 d2 d3 ws=true):=⟨h,I,J,K⟩;have v:=boxed (Below.refl _ w) (.cells #[int i64 site,int i64 seq,int i64 wall,int i64 count,int i64 d0,int i64 d1,int i64 d2,int i64 d3,.slice a ws.length cap] 80);have y:=qag.new (w:=w) (T:=80) [int i64 site,int i64 seq,int i64 wall,int i64 count,int i64 d0,int i64 d1,int i64 d2,int i64 d3,.slice a ws.length cap] rfl;obtain⟨pa,pc,L,r⟩:=qan h.pr;have B:=h.box.later v;rw[L]at B;have c0:=B.cell 0 _ rfl;have hlt:=h.box.lt;obtain⟨w1,p⟩:∃w1,w.alloc (.cells #[int i64 site,int i64 seq,int i64 wall,int i64 count,int i64 d0,int i64 d1,int i64 d2,int i64 d3,.slice a ws.length cap] 80)=w1:=⟨_,rfl⟩
 have c:Hid (Below w.heap.size w w1/\qag w1 w.heap.size [int i64 site,int i64 seq,int i64 wall,int i64 count,int i64 d0,int i64 d1,int i64 d2,int i64 d3,.slice a ws.length cap]/\w.heap.size<w1.heap.size):=by
  rw[p]at v
  have N:qag w1 w.heap.size [int i64 site,int i64 seq,int i64 wall,int i64 count,int i64 d0,int i64 d1,int i64 d2,int i64 d3,.slice a ws.length cap]:=by rw[<-p];exact y
  exact⟨v,N,N.lt⟩
 have V:Hid _:=H;rw[p]at c0;clear h I J K y r L v H;go_enter Tryz.func79,Tryz.ntmps79
 go_wp2_with fail
 try rw[p]
 clear c0 B p
 go_loopw [10] (λiv wr=>∃(k:Nat) (z:Int),k<=W.n/\z=k/\iv=int i64 z/\Hid (qgh w1 b M Gs (λq=>w.heap.size<=q) (qds ⟨site,seq,wall,count,d0,d1,d2,d3,ws⟩ k W) wr)) (λiv _=>W.n-(intOf iv).toNat)
 case atStart=>exact⟨0,0,by omega,rfl,rfl,qgh.none (g.out.1.later c.out.1) (Below.refl _ _) _⟩
 case round=>
  obtain⟨k,z,hk,O,rfl,i⟩:=hrel;have d:Hid _:=O;by_cases hlt2:k<W.n
  ·have X:z<(W.n:Int):=by omega
   have g3:0<=z:=by omega
   have g4:z<4:=by have:=V.out;omega
   have nb:w.heap.size≠b/\M.nv.ownBlock≠some w.heap.size:=⟨by omega,λe=>by have:=(g.out.1.nr.lt _ e).2;omega⟩;have y:=c.out.2.1.kept (i.out.block c.out.2.2 nb.1 nb.2) i.out.size;obtain⟨x0,x1,x2,x3,Y,x5,x6,x7,x8⟩:=y.c9;clear O nb;by_cases P:z=site
   ·have C:Hid (qds ⟨site,seq,wall,count,d0,d1,d2,d3,ws⟩ (k+1) W=qds ⟨site,seq,wall,count,d0,d1,d2,d3,ws⟩ k W):=if_pos (d.out.symm.trans P)
    go_wp2_with fail
    go_roundw
    case rel=>exact⟨k+1,z+1,by omega,by have:=d.out;omega,by go_num,by show qgh _ _ _ _ _ _ _;rw[C.out];exact i.out⟩
    case measure=>simp[intOf];have:=d.out;omega
   ·have C:Hid (qds ⟨site,seq,wall,count,d0,d1,d2,d3,ws⟩ (k+1) W=qcq (qds ⟨site,seq,wall,count,d0,d1,d2,d3,ws⟩ k W) ⟨k,.tx ⟨site,seq,wall,count,d0,d1,d2,d3,ws⟩⟩):=if_neg (λe=>P (d.out.trans e));obtain⟨nv',l',Q,D,R,j⟩:=i.out
    have S:qat wr a cap ws:=qat.kept (m:=⟨⟨site,seq,wall,count,d0,d1,d2,d3,ws⟩,a,cap⟩) (g.out.2.1.later c.out.1) (λq e=>by
     have lq:=qat.blk_lt (m:=⟨⟨site,seq,wall,count,d0,d1,d2,d3,ws⟩,a,cap⟩) g.out.2.1 q e;obtain⟨e1,o,e2⟩:=e;have:=g.out.2.2.1 q o e1 e2
     exact i.out.block (Nat.lt_of_lt_of_le lq c.out.1.size) this.1 this.2)
    have E:=qnv k site seq wall count d0 d1 d2 d3 ws a cap wr Q S g.out.2.2.2;rw[<-d.out]at E;have HX:Hid (∀nv l,PWo wr b {M with nv:=nv,l:=l} (qds ⟨site,seq,wall,count,d0,d1,d2,d3,ws⟩ k W) Gs->True):=λ_ _ _=>trivial
    have U:Hid (Calls Tryz.prog 111 #[.pointer (some ⟨b,0,none⟩),int i64 z,.agg #[int i64 site,int i64 seq,int i64 wall,int i64 count,int i64 d0,int i64 d1,int i64 d2,int i64 d3,.slice a ws.length cap]] wr λe w'=>e=.returned (.tuple #[])/\qgh w1 b M Gs (λq=>w.heap.size<=q) (qcq (qds ⟨site,seq,wall,count,d0,d1,d2,d3,ws⟩ k W) ⟨k,.tx ⟨site,seq,wall,count,d0,d1,d2,d3,ws⟩⟩) w'):=E.mono λe w' ⟨he,F⟩=>⟨he,by
     obtain⟨nv2,l2,g1',g2',g3',u⟩:=F;have s:=j.size;have s1:=c.out.1.size;refine⟨nv2,l2,g1',λq e=>?_,λx hx=>?_,?_⟩
     ·rcases g2' q e with r|r
      ·exact D q r
      ·exact .inr (by omega)
     ·rcases g3' x hx with r|r
      ·exact R x r
      ·exact .inr (by omega)
     ·refine⟨u.os.trans j.os,u.tape.trans j.tape,u.output.trans j.output,Nat.le_trans s u.size,λq hq G=>?_⟩;refine(u.block q (by omega) (λe=>?_)).trans (j.block q hq G);rcases e with e|e
      ·exact G (.inl e)
      ·rcases D q e with r|r
       ·exact G (.inr r)
       ·omega⟩
    clear E HX Q D R j S
    go_wp2_with fail
    refine U.out.mono ?_;rintro e w3 ⟨rfl,F⟩;clear U x0 x1 x2 x3 Y x5 x6 x7 x8
    go_wp2_with fail
    go_roundw
    case rel=>exact⟨k+1,z+1,by omega,by have:=d.out;omega,by go_num,by show qgh _ _ _ _ _ _ _;rw[C.out];exact F⟩
    case measure=>simp[intOf];have:=d.out;omega
  ·have X:¬z<(W.n:Int):=by omega
   have e:k=W.n:=by omega
   subst e
   go_wp2_with fail
   go_end0;exact⟨rfl,i.out.from c.out.1⟩
end
section
section
variable {w w':World} {n o:Nat} {ps ps':Nat->qm0} {Gs:Nat->Nat->Prop} {X:Nat->Prop}
theorem qbx.step2X (h:qbx w n ps Gs X o NoY) {i j:Nat} (C:i<n) (D:j<n) {p q:qm0} {Y:Nat->Prop} (P:qin p q w (Gs i) (Gs j) Y w') (Q:∀y,q.is w' y->∀k,Y k->¬y k) (R:ps' i=p) (S:ps' j=q) (T:∀m,m<n->m≠i->m≠j->ps' m=ps m):∃I,qbx w' n ps' I X o NoY/\(∀m k,I m k->Gs m k\/w.heap.size<=k)/\qby X w w'/\qae (λk=>Gs i k\/Gs j k) w w'/\∀m k,m<n->Y k->w.heap.size<=k/\k<w'.heap.size/\¬I m k:=by
 obtain⟨E,y,p1,N,p2,J,O,F,u⟩:=P;refine⟨λm=>if m=i then E else if m=j then y else Gs m,⟨λm s=>?_,λa b k K hb L c r=>?_,λk c=>⟨Nat.lt_of_lt_of_le (h.free k c).1 u.size,λm s d=>?_⟩,λk c=>c.elim⟩,λm k c=>?_,⟨u.os,u.tape,u.output,u.size,λk c=>u.block k (h.free k c).1 (λe=>e.elim ((h.free k c).2 i C) ((h.free k c).2 j D))⟩,u,λm k s c=>⟨(F k c).1,(F k c).2.1,λd=>?_⟩⟩
 ·by_cases g:m=i
  ·rw[if_pos g,g,R];exact p1
  ·by_cases l:m=j
   ·rw[if_neg g,if_pos l,l,S];exact N
   ·rw[if_neg g,if_neg l,T m s g l]
    exact(ps m).kept _ _ _ (h.is m s) (λk c=>u.block k ((ps m).lt _ _ (h.is m s) k c) (λe=>by
     rcases e with e|e
     ·exact h.apart m i k s C g c e
     ·exact h.apart m j k s D l c e)) u.size
 ·have H:∀m,m<n->m≠i->m≠j->Gs m k->¬E k/\¬y k:=λm s g l d=>by
   have lt:=(ps m).lt _ _ (h.is m s) k d
   constructor
   ·intro e;rcases p2 k e with t|t
    ·exact h.apart m i k s C g d t
    ·omega
   ·intro e;rcases J k e with t|t
    ·exact h.apart m j k s D l d t
    ·omega
  by_cases z:a=i
  ·rw[if_pos z]at c;have v:b≠i:=λe=>L (z.trans e.symm);rw[if_neg v]at r;by_cases x:b=j
   ·rw[if_pos x]at r;exact O k c r
   ·rw[if_neg x]at r;exact(H b hb v x r).1 c
  ·rw[if_neg z]at c;by_cases A:a=j
   ·rw[if_pos A]at c;have x:b≠j:=λe=>L (A.trans e.symm);by_cases v:b=i
    ·rw[if_pos v]at r;exact O k r c
    ·rw[if_neg v,if_neg x]at r;exact(H b hb v x r).2 c
   ·rw[if_neg A]at c;by_cases v:b=i
    ·rw[if_pos v]at r;exact(H a K z A c).1 r
    ·rw[if_neg v]at r;by_cases x:b=j
     ·rw[if_pos x]at r;exact(H a K z A c).2 r
     ·rw[if_neg x]at r;exact h.apart a b k K hb L c r
 ·have f:=h.free k c;by_cases g:m=i
  ·rw[if_pos g]at d;rcases p2 k d with t|t
   ·exact f.2 i C t
   ·have:=f.1;omega
  ·rw[if_neg g]at d;by_cases l:m=j
   ·rw[if_pos l]at d;rcases J k d with t|t
    ·exact f.2 j D t
    ·have:=f.1;omega
   ·rw[if_neg l]at d;exact f.2 m s d
 ·have c:(if m=i then E else if m=j then y else Gs m) k:=c;by_cases g:m=i
  ·rw[if_pos g]at c;rw[g];exact p2 k c
  ·rw[if_neg g]at c;by_cases l:m=j
   ·rw[if_pos l]at c;rw[l];exact J k c
   ·rw[if_neg l]at c;exact .inl c
 ·have d:(if m=i then E else if m=j then y else Gs m) k:=d;by_cases g:m=i
  ·rw[if_pos g]at d;exact(F k c).2.2 d
  ·rw[if_neg g]at d;by_cases l:m=j
   ·rw[if_pos l]at d;exact Q y N k c d
   ·rw[if_neg l]at d;have:=(ps m).lt _ _ (h.is m s) k d;have:=(F k c).1;omega
end
def wcE (W:WoS) (i:Nat):Int:=qe9 (W.S (W.at_ i)) (W.ses i) (W.wall (W.at_ i))
def wcT (W:WoS) (i:Nat):TxP:=qem (W.S (W.at_ i)) (W.ses i) (W.wall (W.at_ i))
def qi7 (W:WoS) (i:Nat):WoS:=qb0 (setSite W (W.at_ i) (qd9 (W.S (W.at_ i)) (W.ses i) (W.wall (W.at_ i)))) i (qbf (W.S (W.at_ i)) (W.ses i) (W.wall (W.at_ i)))
def wcW (W:WoS) (i:Nat):WoS:=if 0<(wcT W i).seq then qds (wcT W i) W.n (qi7 W i)else qi7 W i
def q3j (w:World) (b:Nat) (G:Nat->Prop) (W:WoS) (i:Nat) (e:Ending) (w':World):Prop:=
 ∃m:TxM,e=.returned (.tuple #[txV m,qa9 (wcE W i)])/\m.t=wcT W i/\Hid (qat w' m.wa m.wc m.t.ws/\∃G',PW w' b G' (wcW W i)/\(∀k,G' k->G k\/w.heap.size<=k)/\qae G w w'/\∀k,m.blk k->w.heap.size<=k/\¬G' k)
theorem qtx {S:qaf} {s:qbp} {now:Int} (h:qe9 S s now≠0):qem S s now=tx0.t/\qd9 S s now=S/\qbf S s now=s:=by
 cases ho:s.opn with
 |false=>
  have:=qmh (S:=S) (now:=now) ho;exact⟨this.2.1,this.2.2.1,this.2.2.2⟩
 |true=>
  by_cases a:(qbs s.ws).length=0
  ·exact absurd (qmm (S:=S) (now:=now) ho a).1 h
  ·have y:=qjx (S:=S) (now:=now) ho a;rw[y.1]at h;have b:=qox (S:=S) (now:=now) ho a h;exact⟨y.2.1.trans b.2.2,y.2.2.trans b.2.1,b.1⟩
variable {W1:WoS} {B:Nat}
section
variable {w wA wB wC wD:World} {b:Nat} {G Y:Nat->Prop} {M:WoM} {W W':WoS} {Gs:Nat->Nat->Prop} {i:Nat}
theorem PWo.com (h:PWo w b M W Gs) (C:i<W.c) (u:W.at_ i<W.n) (l:Below w.heap.size w wA) {S':qaf} {a:qbp} (v:qin (qpn (M.bs i) a) (qg9 (M.bp (W.at_ i)) S' Y) wA (Gs (W.n+i)) (Gs (W.at_ i)) Y wB) (p:Below wB.heap.size wB wC):
 ∃d,PWo wC b M (qb0 (setSite W (W.at_ i) S') i a) d/\(∀m k,d m k->Gs m k\/wA.heap.size<=k)/\qae (λk=>Gs (W.n+i) k\/Gs (W.at_ i) k) w wC/\∀m k,m<W.n+W.c->Y k->wA.heap.size<=k/\k<wB.heap.size/\¬d m k:=by
 have r:=h.later l
 obtain⟨d,f,g,x,y,z⟩:=r.fam.step2X (ps':=λm=>if m=W.at_ i then qg9 (M.bp (W.at_ i)) S' Y else qd3 M (qb0 (setSite W (W.at_ i) S') i a) m) (i:=W.n+i) (j:=W.at_ i) (by omega) (by omega) v (λ_ q=>q.2) (by
  show (if W.n+i=W.at_ i then _ else _)=_;rw[if_neg (by omega)];show (if W.n+i<W.n then _ else _)=_;rw[if_neg (by omega)];show qpn (M.bs (W.n+i-W.n)) (qb2 W.ses i a (W.n+i-W.n))=_
  rw[show W.n+i-W.n=i by omega,qal]) (by show (if W.at_ i=W.at_ i then _ else _)=_;rw[if_pos rfl]) (λm s D t=>by
  show (if m=W.at_ i then _ else _)=_;rw[if_neg t];show (if m<W.n then qhw (M.bp m) (qb2 W.S (W.at_ i) S' m)else qpn (M.bs (m-W.n)) (qb2 W.ses i a (m-W.n)))=(if m<W.n then _ else _);by_cases q:m<W.n
  ·rw[if_pos q,if_pos q,qbq _ _ t]
  ·rw[if_neg q,if_neg q,qbq _ _ (by omega)])
 have f2:qbx wB (W.n+W.c) (qd3 M (qb0 (setSite W (W.at_ i) S') i a)) d (qg8 b M) (W.n+W.c) NoY:=by
  refine⟨λm s=>?_,f.apart,f.free,f.half⟩;have:=f.is m s;by_cases q:m=W.at_ i
  ·have e:(if m=W.at_ i then qg9 (M.bp (W.at_ i)) S' Y else qd3 M (qb0 (setSite W (W.at_ i) S') i a) m)=qg9 (M.bp (W.at_ i)) S' Y:=if_pos q;rw[e]at this
   have A:qd3 M (qb0 (setSite W (W.at_ i) S') i a) m=qhw (M.bp (W.at_ i)) S':=by
        rw[q];show (if W.at_ i<W.n then qhw (M.bp (W.at_ i)) (qb2 W.S (W.at_ i) S' (W.at_ i))else _)=_;rw[if_pos u,qal]
   rw[A];exact this.1
  ·have e:(if m=W.at_ i then qg9 (M.bp (W.at_ i)) S' Y else qd3 M (qb0 (setSite W (W.at_ i) S') i a) m)=qd3 M (qb0 (setSite W (W.at_ i) S') i a) m:=if_neg q;rw[e]at this;exact this
 exact⟨d,(r.keep x f2 rfl rfl rfl rfl rfl rfl).later p,g,((qae.ofBelow l).trans y).trans (qae.ofBelow p),z⟩
theorem PWo.told (h:PWo w b M W Gs) (d:∀k,G k↔qj4 b M (W.n+W.c) Gs k) (K:i<W.c) (L:W.at_ i<W.n) {f:Nat->Nat->Prop} (z:W1.n=W.n) (A:W1.c=W.c) (N:w.heap.size<=B) (O:B<=wC.heap.size) (g:∀m k,f m k->Gs m k\/B<=k) (p:qae (λk=>Gs (W.n+i) k\/Gs (W.at_ i) k) w wC) (s:∀m k,m<W.n+W.c->Y k->B<=k/\k<wC.heap.size/\¬f m k) (C:qgh wC b M f (λk=>wC.heap.size<=k) W1 wD):
 ∃u,PW wD b u W1/\(∀k,u k->G k\/B<=k)/\qae G w wD/\∀k,Y k->B<=k/\¬u k:=by
 obtain⟨D,E,p1,p2,p3,r⟩:=C;have F:=p.size
 have y:∀k,qj4 b {M with nv:=D,l:=E} (W1.n+W1.c) f k->G k\/wC.heap.size<=k\/(B<=k/\∃m,m<W.n+W.c/\f m k):=λk a=>by
  rw[z,A]at a;rcases a with (e|e|e|e|⟨x,H,e⟩)|⟨j,t,e⟩
  ·exact .inl ((d k).2 (.inl (.inl e)))
  ·exact .inl ((d k).2 (.inl (.inr (.inl e))))
  ·exact .inl ((d k).2 (.inl (.inr (.inr (.inl e)))))
  ·rcases p2 k e with q|q
   ·exact .inl ((d k).2 (.inl (.inr (.inr (.inr (.inl q))))))
   ·exact .inr (.inl q)
  ·rcases p3 x H with q|q
   ·exact .inl ((d k).2 (.inl (.inr (.inr (.inr (.inr ⟨x,q,e⟩))))))
   ·rw[e]at q;exact .inr (.inl q)
  ·rcases g j k e with q|q
   ·exact .inl ((d k).2 (.inr ⟨j,t,q⟩))
   ·exact .inr (.inr ⟨q,j,t,e⟩)
 have I:∀k,G k->k<w.heap.size:=λk a=>by
  rcases(d k).1 a with q|⟨j,t,q⟩
  ·exact h.ltF k q
  ·exact h.ltG t q
 refine⟨_,⟨_,f,p1,λ_=>Iff.rfl⟩,λk a=>?_,⟨r.os.trans p.os,r.tape.trans p.tape,r.output.trans p.output,Nat.le_trans F r.size,λk a v=>?_⟩,λk a=>⟨(s 0 k (by omega) a).1,λe=>?_⟩⟩
 ·rcases y k a with q|q|q
  ·exact .inl q
  ·exact .inr (by omega)
  ·exact .inr q.1
 ·refine(r.block k (by omega) (λe=>v ((d k).2 (.inl (e.elim .inl (λq=>.inr (.inr (.inr (.inl q))))))))).trans (p.block k a (λe=>?_));rcases e with e|e
  ·exact v ((d k).2 (.inr ⟨W.n+i,by omega,e⟩))
  ·exact v ((d k).2 (.inr ⟨W.at_ i,by omega,e⟩))
 ·rcases y k e with q|q|⟨_,m,J,q⟩
  ·have:=I k q;have:=(s 0 k (by omega) a).1;omega
  ·have:=(s 0 k (by omega) a).2.1;omega
  ·exact(s m k J a).2.2 q
theorem qxn {m:TxM} (h:qat wD m.wa m.wc m.t.ws/\∃a,PW wD b a W1/\(∀k,a k->G k\/B<=k)/\qae G w wD/\∀k,m.blk k->B<=k/\¬a k) (r:∀k,G k->k<w.heap.size) (y:w.heap.size<B) (x0 x1 x2 x3 d f g j:Int) (v:Value):
 Hid (qat (qbg wD w.heap.size x0 x1 x2 x3 d f g j v) m.wa m.wc m.t.ws/\∃a,PW (qbg wD w.heap.size x0 x1 x2 x3 d f g j v) b a W1/\(∀k,a k->G k\/w.heap.size<=k)/\qae G w (qbg wD w.heap.size x0 x1 x2 x3 d f g j v)/\∀k,m.blk k->w.heap.size<=k/\¬a k):=by
 obtain⟨s,a,u,p,x,l⟩:=h
 have ne:∀k,a k->k≠w.heap.size:=λk c e=>by
  rcases p k c with q|q
  ·have:=r k q;omega
  ·omega
 have z:(qbg wD w.heap.size x0 x1 x2 x3 d f g j v).heap.size=wD.heap.size:=by simp only[qbg,World.setCell,Array.size_modify]
 refine⟨s.kept (λk c=>qda (λe=>by have:=(l k c).1;omega) _ _ _ _ _ _ _ _ _),a,u.kept (λk c=>qda (ne k c) _ _ _ _ _ _ _ _ _) (by omega),λk c=>?_,qua x (Nat.le_refl _) _ _ _ _ _ _ _ _ _,λk c=>⟨by have:=(l k c).1;omega,(l k c).2⟩⟩;rcases p k c with q|q
 ·exact .inl q
 ·exact .inr (by omega)
end
end
section
section
variable {w w1 w2:World} {b:Nat} {G:Nat->Prop} {W W1 W2:WoS}
theorem qgq.get (h:qgq w b G W1 w1):∃a,PW w1 b a W1:=by
 obtain⟨a,c,_⟩:=h;exact⟨a,c⟩
theorem qgq.from (hb:Below w.heap.size w w1) (h:qgq w1 b G W2 w2):qgq w b G W2 w2:=by
 obtain⟨a,c,d,f⟩:=h;exact⟨a,c,λq g=>(d q g).elim .inl (λe=>.inr (Nat.le_trans hb.size e)),(qae.ofBelow hb).trans f⟩
end
variable {W:WoS} {i:Nat}
theorem q5n (a:WfW W) (c:i<W.n):qnu.ok ⟨i,(W.S i).a0,(W.S i).a1,(W.S i).a2,(W.S i).a3⟩=true:=by
 have n4:=a.n4;have I:=a.inv i c;have d:=I.a0;have e:=I.a1;have f:=I.a2;have g:=I.a3;unfold qj8 at d e f g;simp only[qnu.ok,Bool.and_eq_true,qa5,qau,qej];refine⟨by omega,⟨⟨by omega,by omega⟩,by omega⟩,by omega⟩
variable {b:Nat} {G:Nat->Prop}
theorem qr7 (w:World) (h:PW w b G W) (o:i<W.n):
 Calls Tryz.prog 44 #[.pointer (some ⟨b,0,none⟩),.int .i64 i,.int .i64 i] w λe w'=>e=.returned (qa9 2)/\qgq w b G W w':=by
 obtain⟨M,d,h,l⟩:=h;have m:Hid (PWo w b M W d/\(∀k,G k↔qj4 b M (W.n+W.c) d k)):=⟨h,l⟩;obtain⟨p,q,c0,r,s,t,u⟩:=h.place o;have g:=qbd (k:=i) (v:=true) w c0 (by simp;omega);have x:=h.box.lt;clear h l;go_enter Tryz.func44,Tryz.ntmps44
 go_wp2_with fail
 refine g.mono ?_;rintro e w2 ⟨rfl,a⟩;have j:=a.symm;clear a;subst j
 go_wp2_with fail
 refine g.mono ?_;rintro e w2 ⟨rfl,a⟩;have j:=a.symm;clear a g;subst j
 go_wp2_with fail
 go_ret;exact⟨rfl,qgq.same ⟨M,d,m.out.1,m.out.2⟩ (Below.refl _ _)⟩
theorem q22 (w:World) (h:PW w b G W) (s:WfW W) {o:Nat} (l:i<W.n) (V:o<W.n) (I:i≠o):
 Calls Tryz.prog 44 #[.pointer (some ⟨b,0,none⟩),.int .i64 i,.int .i64 o] w λe w'=>e=.returned (qa9 0)/\qgq w b G (quu W i o) w':=by
 obtain⟨M,m,h,t⟩:=h;have a:Hid (PWo w b M W m/\(∀k,G k↔qj4 b M (W.n+W.c) m k)/\WfW W):=⟨h,t,s⟩;obtain⟨X,Y,c0,Z,aa,y0,y1⟩:=h.place l;have u:=qbd (k:=i) (v:=true) w c0 (by simp;omega);have x:=qbd (k:=o) (v:=true) w c0 (by simp;omega);have hlt:=h.box.lt
 have q1:(i:Int)<(W.n:Int):=by omega
 have y:=h.site l
 have q3:¬(i:Int)=(o:Int):=by omega
 have z:=qfa w y;have J:Hid _:=l;clear h t s y I;go_enter Tryz.func44,Tryz.ntmps44
 go_wp2_with fail
 refine u.mono ?_;rintro e w2 ⟨rfl,d⟩;have p:=d.symm;clear d u;subst p
 go_wp2_with fail
 refine x.mono ?_;rintro e w2 ⟨rfl,d⟩;have p:=d.symm;clear d x;subst p
 go_wp2_with fail
 refine z.mono ?_;rintro e K ⟨rfl,B⟩;have C:=qsc (q5n a.out.2.2 J.out) K;clear z
 go_wp2_with fail
 refine C.mono ?_;rintro e r ⟨S,g,D,rfl,⟨L,_⟩,N,O,P⟩;have E:=qac B P;have Q:w.heap.size<=g:=Nat.le_trans B.size O.base;have F:=a.out.1.later E
 have R:Hid (Calls Tryz.prog 83 #[.pointer (some ⟨b,0,none⟩),.agg #[.int .i64 o,.slice (some ⟨g,0,none⟩) S.size D]] r λe w'=>e=.returned (.tuple #[])/\qgh r b M m (λk=>k=g) (quu W i o) w'):=
  qpf r F ⟨⟨o,.ask i (W.S i).a0 (W.S i).a1 (W.S i).a2 (W.S i).a3⟩,g,D,S⟩ ⟨O.mono (Nat.zero_le _),N,L⟩ (.inr (λe=>by
   rcases e with q|⟨j,T,q⟩
   ·have:g<w.heap.size:=a.out.1.ltF g q;omega
   ·have:g<w.heap.size:=a.out.1.ltG T q
    omega))
 clear C F
 go_wp2_with fail
 refine R.out.mono ?_;rintro e w5 ⟨rfl,U⟩
 go_wp2_with fail
 go_ret;refine⟨rfl,?_⟩;have H:=qbv W ⟨o,.ask i (W.S i).a0 (W.S i).a1 (W.S i).a2 (W.S i).a3⟩;exact(U.from E).post (W:=W) a.out.2.1 H.n H.c (λk e=>.inr (by rw[e];exact Q))
theorem q1a (w:World) (h:PW w b G W) {g:GrS} (o:W.net[i]?=some g):
 Calls Tryz.prog 50 #[.pointer (some ⟨b,0,none⟩),.int .i64 i] w λe w'=>e=.returned (qa9 0)/\qgq w b G (qcq W g) w':=by
 obtain⟨M,C,h,s⟩:=h
 have D:M.l.length=W.net.length:=by rw[<-h.nl];simp
 have E:i<M.l.length:=by have:=(List.getElem?_eq_some_iff.1 o).1;omega
 obtain⟨m,a⟩:∃m,M.l[i]?=some m:=⟨_,List.getElem?_eq_getElem E⟩
 have F:m.g=g:=by
  have:=o;rw[<-h.nl,List.getElem?_map,a]at this;exact Option.some.inj this
 subst F;have d:m∈M.l:=List.mem_of_getElem? a;obtain⟨H,L,t,r⟩:=qan h.nr
 obtain⟨nb,rfl,N,p⟩:∃g,H=some ⟨g,0,none⟩/\g<w.heap.size/\∀j u,(qfk M.l)[j]?=some u->w.cell? ⟨g,j,none⟩=some u:=by
  rcases r.held with x|x
  ·omega
  ·exact x
 have c2:=h.box.cell 2 _ rfl;rw[t]at c2;have x0:=p _ _ (qtv a).1;have x1:=p _ _ (qtv a).2;have y:=qe0 (k:=i) (v:=true) w c2 (by simp;omega);have I:=qpf w h m (h.gr m d) (.inl ⟨m,d,rfl⟩);have q:Hid ((∀k,G k↔qj4 b M (W.n+W.c) C k)/\m∈M.l):=⟨s,d⟩;have O:=h.box.lt
 have P:(i:Int)<(M.l.length:Int):=by omega
 have Q:=r.len;clear h s p r t a d o D;go_enter Tryz.func50,Tryz.ntmps50
 go_wp2_with fail
 refine y.mono ?_;rintro e w2 ⟨rfl,z⟩;have J:=z.symm;clear z y;subst J
 go_wp2_with fail
 refine I.mono ?_;rintro e R ⟨rfl,K⟩
 go_wp2_with fail
 go_ret;have B:=qbv W m.g;exact⟨rfl,K.post (W:=W) q.out.1 B.n B.c (λk e=>.inl ((q.out.1 k).2 (.inl (.inr (.inr (.inr (.inr ⟨m,q.out.2,e.symm⟩)))))))⟩
end
section
open Tryz Go.Value Go.IntKind
theorem qlj (x y:Int) (w:World):
 Calls prog 122 #[int i64 x,int i64 y] w λe w'=>e=.returned (int i64 (qaz x y))/\w'=w:=by
 by_cases h:y<x
 ·rw[qj7 h];go_enter func122,ntmps122
  go_wp2
  go_ret;exact⟨rfl,rfl⟩
 ·rw[qkd h];go_enter func122,ntmps122
  go_wp2
  go_ret;exact⟨rfl,rfl⟩
theorem q1g (a0 a1 a2 a3 a b c d:Int) (w:World):
 Calls prog 121 #[.agg #[int i64 a0,int i64 a1,int i64 a2,int i64 a3],.agg #[int i64 a,int i64 b,int i64 c,int i64 d],.func (.func 122) #[] #[]] w λe w'=>e=.returned (.agg #[int i64 (qaz a0 a),int i64 (qaz a1 b),int i64 (qaz a2 c),int i64 (qaz a3 d)])/\Below w.heap.size w w':=by
 go_enter func121,ntmps121
 go_wp2
 refine wp_loop_rounds 5 ?_;rw[rounds_succ]
 go_wp2
 go_region_held3 (λw'=>w'.cell? ⟨w.heap.size,0,none⟩=some (int i64 a0)/\w'.cell? ⟨w.heap.size,1,none⟩=some (int i64 a1)/\w'.cell? ⟨w.heap.size,2,none⟩=some (int i64 a2)/\w'.cell? ⟨w.heap.size,3,none⟩=some (int i64 a3)/\w'.cell? ⟨w.heap.size+1,0,none⟩=some (int i64 a)/\w'.cell? ⟨w.heap.size+1,1,none⟩=some (int i64 b)/\w'.cell? ⟨w.heap.size+1,2,none⟩=some (int i64 c)/\w'.cell? ⟨w.heap.size+1,3,none⟩=some (int i64 d)) (go_keep) ((go_at_call 122;refine(qlj _ _ _).mono ?_;rintro e wc ⟨rfl,rfl⟩))
 go_wp2
 rw[rounds_succ]
 go_wp2
 go_region_held3 (λw'=>w'.cell? ⟨w.heap.size,0,none⟩=some (int i64 a0)/\w'.cell? ⟨w.heap.size,1,none⟩=some (int i64 a1)/\w'.cell? ⟨w.heap.size,2,none⟩=some (int i64 a2)/\w'.cell? ⟨w.heap.size,3,none⟩=some (int i64 a3)/\w'.cell? ⟨w.heap.size+1,0,none⟩=some (int i64 a)/\w'.cell? ⟨w.heap.size+1,1,none⟩=some (int i64 b)/\w'.cell? ⟨w.heap.size+1,2,none⟩=some (int i64 c)/\w'.cell? ⟨w.heap.size+1,3,none⟩=some (int i64 d)) (go_keep) ((go_at_call 122;refine(qlj _ _ _).mono ?_;rintro e wc ⟨rfl,rfl⟩))
 go_wp2
 rw[rounds_succ]
 go_wp2
 go_region_held3 (λw'=>w'.cell? ⟨w.heap.size,0,none⟩=some (int i64 a0)/\w'.cell? ⟨w.heap.size,1,none⟩=some (int i64 a1)/\w'.cell? ⟨w.heap.size,2,none⟩=some (int i64 a2)/\w'.cell? ⟨w.heap.size,3,none⟩=some (int i64 a3)/\w'.cell? ⟨w.heap.size+1,0,none⟩=some (int i64 a)/\w'.cell? ⟨w.heap.size+1,1,none⟩=some (int i64 b)/\w'.cell? ⟨w.heap.size+1,2,none⟩=some (int i64 c)/\w'.cell? ⟨w.heap.size+1,3,none⟩=some (int i64 d)) (go_keep) ((go_at_call 122;refine(qlj _ _ _).mono ?_;rintro e wc ⟨rfl,rfl⟩))
 go_wp2
 rw[rounds_succ]
 go_wp2
 go_region_held3 (λw'=>w'.cell? ⟨w.heap.size,0,none⟩=some (int i64 a0)/\w'.cell? ⟨w.heap.size,1,none⟩=some (int i64 a1)/\w'.cell? ⟨w.heap.size,2,none⟩=some (int i64 a2)/\w'.cell? ⟨w.heap.size,3,none⟩=some (int i64 a3)/\w'.cell? ⟨w.heap.size+1,0,none⟩=some (int i64 a)/\w'.cell? ⟨w.heap.size+1,1,none⟩=some (int i64 b)/\w'.cell? ⟨w.heap.size+1,2,none⟩=some (int i64 c)/\w'.cell? ⟨w.heap.size+1,3,none⟩=some (int i64 d)) (go_keep) ((go_at_call 122;refine(qlj _ _ _).mono ?_;rintro e wc ⟨rfl,rfl⟩))
 go_wp2
 rw[rounds_succ]
 go_wp2
 exact bodyPost_ret (v:=.agg #[int i64 (qaz a0 a),int i64 (qaz a1 b),int i64 (qaz a2 c),int i64 (qaz a3 d)]) (by simp[results,results121,go_sem]) rfl ⟨rfl,by repeat (first|exact Below.refl _ _|apply Below.drew|apply boxed)⟩
theorem qo2 (a0 a1 a2 a3 a b c d:Int) (w:World):
 Calls prog 93 #[.agg #[int i64 a0,int i64 a1,int i64 a2,int i64 a3],.agg #[int i64 a,int i64 b,int i64 c,int i64 d]] w λe w'=>e=.returned (.agg #[int i64 (qaz a0 a),int i64 (qaz a1 b),int i64 (qaz a2 c),int i64 (qaz a3 d)])/\Below w.heap.size w w':=by
 go_enter func93,ntmps93
 go_wp2_with fail
 refine(q1g _ _ _ _ _ _ _ _ _).mono ?_;rintro e g ⟨rfl,hb⟩;obtain⟨h,i⟩:=qi6 hb
 have j:w.heap.size+2<g.heap.size:=by have:=hb.size;simp at this;omega
 go_wp2
 exact bodyPost_ret (v:=.agg #[int i64 (qaz a0 a),int i64 (qaz a1 b),int i64 (qaz a2 c),int i64 (qaz a3 d)]) (by simp[results,results93,go_sem,h]) rfl ⟨rfl,((((qtr hb).setCell (by simp;omega) _).setCell (by simp;omega) _).setCell (by simp;omega) _).setCell (by simp;omega) _⟩
end
section
open Go.Value Go.IntKind
variable {S:qaf} {lv:Value} {bm:Nat}
theorem qky {k:Nat} (a:k<4):(qb4 S lv bm)[9+k*4]?=some (int i64 (S.oth (k*4)))/\(qb4 S lv bm)[9+k*4+1]?=some (int i64 (S.oth (k*4+1)))/\(qb4 S lv bm)[9+k*4+2]?=some (int i64 (S.oth (k*4+2)))/\(qb4 S lv bm)[9+k*4+3]?=some (int i64 (S.oth (k*4+3))):=by
 match k,a with
 |0,_=>exact⟨rfl,rfl,rfl,rfl⟩
 |1,_=>exact⟨rfl,rfl,rfl,rfl⟩
 |2,_=>exact⟨rfl,rfl,rfl,rfl⟩
 |3,_=>exact⟨rfl,rfl,rfl,rfl⟩
variable {b:Nat} {F:Nat->Prop}
theorem qxp {log waits:List TxM} (a:Int) (w:World) (h:qc9 w b lv bm F S log waits) (h4:4<a):
 Calls Tryz.prog 92 #[.pointer (some ⟨b,0,none⟩),int i64 a] w λe w'=>
  e=.returned (.agg #[int i64 (qak S (qcz a)).v0,int i64 (qak S (qcz a)).v1,int i64 (qak S (qcz a)).v2,int i64 (qak S (qcz a)).v3])/\Below w.heap.size w w':=by
 have D:=(qbe.new w 47 0 0 0 0).boxed (.cells #[int i64 S.a0,int i64 S.a1,int i64 S.a2,int i64 S.a3] 47);have E:=qbe.newest (w:=w.alloc (.cells #[int i64 0,int i64 0,int i64 0,int i64 0] 47)) (T:=47) (n:=w.heap.size+1) (a0:=S.a0) (a1:=S.a1) (a2:=S.a2) (a3:=S.a3) (by simp);have hb:=boxed (boxed (Below.refl _ w) (.cells #[int i64 0,int i64 0,int i64 0,int i64 0] 47)) (.cells #[int i64 S.a0,int i64 S.a1,int i64 S.a2,int i64 S.a3] 47);have N:Hid _:=h;have G:=h.box.lt;have O:=h.box.cell 1 _ rfl;have P:=h.box.cell 2 _ rfl;have Q:=h.box.cell 3 _ rfl;have R:=h.box.cell 4 _ rfl;clear h;go_enter Tryz.func92,Tryz.ntmps92
 go_wp2_with fail
 have o:Hid (StM w S 0 ((w.alloc (.cells #[int i64 0,int i64 0,int i64 0,int i64 0] 47)).alloc (.cells #[int i64 S.a0,int i64 S.a1,int i64 S.a2,int i64 S.a3] 47))):=⟨D,E,hb⟩;obtain⟨W,H⟩:∃W,(w.alloc (.cells #[int i64 0,int i64 0,int i64 0,int i64 0] 47)).alloc (.cells #[int i64 S.a0,int i64 S.a1,int i64 S.a2,int i64 S.a3] 47)=W:=⟨_,rfl⟩;rw[H]at o ⊢;clear H D E hb O P Q R G
 go_loopw [13] (λiv wr=>∃(k:Nat) (z:Int),k<=(qcz a)/\z=k/\iv=int i64 z/\Hid (StM w S k wr)) (λi _=>4-(intOf i).toNat)
 case atStart=>exact⟨0,0,by omega,rfl,rfl,o⟩
 case round=>
  clear o;obtain⟨k,z,hk,l,rfl,c⟩:=hrel;have I:Hid _:=l;have hcut:(qcz a)=min 4 a.toNat:=rfl;by_cases G:k<(qcz a)
  ·have h1:z<a:=by omega
   have U:z<4:=by omega
   have h5:0<=z:=by omega
   have h6:z.toNat=k:=by omega
   have V:k<4:=by omega
   clear hcut;have g:=N.out.later c.out.b;have i0:=g.box.cell 0 _ rfl;by_cases p:z=S.id
   ·have e:Hid (qak S (k+1)=qak S k):=by
     show qak S (k+1)=qak S k
     have:(k:Int)=S.id:=by omega
     simp[qak,this]
    have X:Hid (StM w S (k+1) wr):=⟨c.out.r,by rw[e.out];exact c.out.v,c.out.b⟩
    have Y:(z==S.id)=true:=by simp[p]
    clear l g
    go_wp2_with fail
    go_roundw
    case rel=>exact⟨k+1,z+1,by omega,by have:=I.out;omega,by go_num,X⟩
    case measure=>simp[intOf];omega
   ·have Y:(z==S.id)=false:=by simp[p]
    obtain⟨J,K,L,M⟩:=qky (S:=S) (lv:=lv) (bm:=bm) V;have Z:=g.box.cell _ _ J;have q1:=g.box.cell _ _ K;have q2:=g.box.cell _ _ L;have q3:=g.box.cell _ _ M;obtain⟨⟨v0,v1,v2,v3⟩,q⟩:∃v,qak S k=v:=⟨_,rfl⟩;obtain⟨p0,s⟩:∃x,S.oth (k*4)=x:=⟨_,rfl⟩;obtain⟨p1,u⟩:∃x,S.oth (k*4+1)=x:=⟨_,rfl⟩;obtain⟨p2,y⟩:∃x,S.oth (k*4+2)=x:=⟨_,rfl⟩;obtain⟨p3,B⟩:∃x,S.oth (k*4+3)=x:=⟨_,rfl⟩
    have EQ:Hid (qak S (k+1)=⟨qaz v0 p0,qaz v1 p1,qaz v2 p2,qaz v3 p3⟩):=by
     show qak S (k+1)=_
     have:¬(k:Int)=S.id:=by omega
     simp[qak,this,q,s,u,y,B]
    rw[s]at Z;rw[u]at q1;rw[y]at q2;rw[B]at q3
    have j:qbe wr (w.heap.size+1) v0 v1 v2 v3:=by have:=c.out.v;rw[q]at this;exact this
    have x0:=j.c0;have x1:=j.c1;have x2:=j.c2;have x3:=j.c3
    have PU:Hid (Calls Tryz.prog 93 #[.agg #[int i64 v0,int i64 v1,int i64 v2,int i64 v3],.agg #[int i64 p0,int i64 p1,int i64 p2,int i64 p3]] wr.drew λe w'=>e=.returned (.agg #[int i64 (qaz v0 p0),int i64 (qaz v1 p1),int i64 (qaz v2 p2),int i64 (qaz v3 p3)])/\qbe w' w.heap.size 0 0 0 0/\qbe w' (w.heap.size+1) v0 v1 v2 v3/\Below w.heap.size w w'):=
     (qo2 v0 v1 v2 v3 p0 p1 p2 p3 wr.drew).mono λe w' ⟨he,C⟩=>⟨he,qbe.later C c.out.r.drew,qbe.later C j.drew,qac c.out.b.drew C⟩
    have hB:w.heap.size<=w.heap.size+1:=by omega
    have hBB:=c.out.b.drew;clear l g J K L M q s u y B j c p
    go_wp2_with fail
    go_region_with
     (first|(go_at_call 93;with_reducible refine PU.out.mono ?_;rintro e w5 ⟨rfl,RR5,d,hb5⟩;have y0:=d.c0;have y1:=d.c1;have y2:=d.c2;have y3:=d.c3;have z0:=d.f0;have z1:=d.f1;have z2:=d.f2;have z3:=d.f3))
    all_goals
     have SM:Hid (StM w S (k+1) ((((w5.setCell ⟨w.heap.size+1,0,none⟩ (int i64 (qaz v0 p0))).setCell ⟨w.heap.size+1,1,none⟩ (int i64 (qaz v1 p1))).setCell ⟨w.heap.size+1,2,none⟩ (int i64 (qaz v2 p2))).setCell ⟨w.heap.size+1,3,none⟩ (int i64 (qaz v3 p3)))):=
      ⟨RR5.far4 (by omega),by rw[EQ.out];exact d.set,qkn hb5 hB _ _ _ _⟩
     go_wp2_with fail
     go_roundw
     case rel=>exact⟨k+1,z+1,by omega,by have:=I.out;omega,by go_num,SM⟩
     case measure=>simp[intOf];omega
  ·have hke:k=(qcz a):=by omega
   have U:¬z<4:=by omega
   clear hcut;subst hke;have r0:=c.out.r.c0;have r1:=c.out.r.c1;have r2:=c.out.r.c2;have r3:=c.out.r.c3;have f0:=c.out.r.f0;have f1:=c.out.r.f1;have f2:=c.out.r.f2;have f3:=c.out.r.f3;have x0:=c.out.v.c0;have x1:=c.out.v.c1;have x2:=c.out.v.c2;have x3:=c.out.v.c3;have m:=c.out.r.set (x0:=(qak S (qcz a)).v0) (x1:=(qak S (qcz a)).v1) (x2:=(qak S (qcz a)).v2) (x3:=(qak S (qcz a)).v3);have hbZ:=qkn c.out.b (Nat.le_refl _) (qak S (qcz a)).v0 (qak S (qcz a)).v1 (qak S (qcz a)).v2 (qak S (qcz a)).v3;have g0:=m.c0;have g1:=m.c1;have g2:=m.c2;have g3:=m.c3;clear l
   go_wp2_with fail
   exact bodyPost_ret (v:=.agg #[int i64 (qak S (qcz a)).v0,int i64 (qak S (qcz a)).v1,int i64 (qak S (qcz a)).v2,int i64 (qak S (qcz a)).v3]) (by simp[results,Tryz.results92,go_sem,g0,g1,g2,g3]) rfl ⟨rfl,hbZ⟩
theorem qxo {log waits:List TxM} (a:Int) (w:World) (h:qc9 w b lv bm F S log waits) (h4:¬4<a):
 Calls Tryz.prog 92 #[.pointer (some ⟨b,0,none⟩),int i64 a] w λe w'=>
  e=.returned (.agg #[int i64 (qak S (qcz a)).v0,int i64 (qak S (qcz a)).v1,int i64 (qak S (qcz a)).v2,int i64 (qak S (qcz a)).v3])/\Below w.heap.size w w':=by
 have D:=(qbe.new w 47 0 0 0 0).boxed (.cells #[int i64 S.a0,int i64 S.a1,int i64 S.a2,int i64 S.a3] 47);have E:=qbe.newest (w:=w.alloc (.cells #[int i64 0,int i64 0,int i64 0,int i64 0] 47)) (T:=47) (n:=w.heap.size+1) (a0:=S.a0) (a1:=S.a1) (a2:=S.a2) (a3:=S.a3) (by simp);have hb:=boxed (boxed (Below.refl _ w) (.cells #[int i64 0,int i64 0,int i64 0,int i64 0] 47)) (.cells #[int i64 S.a0,int i64 S.a1,int i64 S.a2,int i64 S.a3] 47);have N:Hid _:=h;have G:=h.box.lt;have O:=h.box.cell 1 _ rfl;have P:=h.box.cell 2 _ rfl;have Q:=h.box.cell 3 _ rfl;have R:=h.box.cell 4 _ rfl;clear h;go_enter Tryz.func92,Tryz.ntmps92
 go_wp2_with fail
 have o:Hid (StM w S 0 ((w.alloc (.cells #[int i64 0,int i64 0,int i64 0,int i64 0] 47)).alloc (.cells #[int i64 S.a0,int i64 S.a1,int i64 S.a2,int i64 S.a3] 47))):=⟨D,E,hb⟩;obtain⟨W,H⟩:∃W,(w.alloc (.cells #[int i64 0,int i64 0,int i64 0,int i64 0] 47)).alloc (.cells #[int i64 S.a0,int i64 S.a1,int i64 S.a2,int i64 S.a3] 47)=W:=⟨_,rfl⟩;rw[H]at o ⊢;clear H D E hb O P Q R G
 go_loopw [13] (λiv wr=>∃(k:Nat) (z:Int),k<=(qcz a)/\z=k/\iv=int i64 z/\Hid (StM w S k wr)) (λi _=>4-(intOf i).toNat)
 case atStart=>exact⟨0,0,by omega,rfl,rfl,o⟩
 case round=>
  clear o;obtain⟨k,z,hk,l,rfl,c⟩:=hrel;have I:Hid _:=l;have hcut:(qcz a)=min 4 a.toNat:=rfl;by_cases G:k<(qcz a)
  ·have U:z<a:=by omega
   have h2:z<4:=by omega
   have h5:0<=z:=by omega
   have h6:z.toNat=k:=by omega
   have V:k<4:=by omega
   clear hcut;have g:=N.out.later c.out.b;have i0:=g.box.cell 0 _ rfl;by_cases p:z=S.id
   ·have e:Hid (qak S (k+1)=qak S k):=by
     show qak S (k+1)=qak S k
     have:(k:Int)=S.id:=by omega
     simp[qak,this]
    have X:Hid (StM w S (k+1) wr):=⟨c.out.r,by rw[e.out];exact c.out.v,c.out.b⟩
    have Y:(z==S.id)=true:=by simp[p]
    clear l g
    go_wp2_with fail
    go_roundw
    case rel=>exact⟨k+1,z+1,by omega,by have:=I.out;omega,by go_num,X⟩
    case measure=>simp[intOf];omega
   ·have Y:(z==S.id)=false:=by simp[p]
    obtain⟨J,K,L,M⟩:=qky (S:=S) (lv:=lv) (bm:=bm) V;have Z:=g.box.cell _ _ J;have q1:=g.box.cell _ _ K;have q2:=g.box.cell _ _ L;have q3:=g.box.cell _ _ M;obtain⟨⟨v0,v1,v2,v3⟩,q⟩:∃v,qak S k=v:=⟨_,rfl⟩;obtain⟨p0,s⟩:∃x,S.oth (k*4)=x:=⟨_,rfl⟩;obtain⟨p1,u⟩:∃x,S.oth (k*4+1)=x:=⟨_,rfl⟩;obtain⟨p2,y⟩:∃x,S.oth (k*4+2)=x:=⟨_,rfl⟩;obtain⟨p3,B⟩:∃x,S.oth (k*4+3)=x:=⟨_,rfl⟩
    have EQ:Hid (qak S (k+1)=⟨qaz v0 p0,qaz v1 p1,qaz v2 p2,qaz v3 p3⟩):=by
     show qak S (k+1)=_
     have:¬(k:Int)=S.id:=by omega
     simp[qak,this,q,s,u,y,B]
    rw[s]at Z;rw[u]at q1;rw[y]at q2;rw[B]at q3
    have j:qbe wr (w.heap.size+1) v0 v1 v2 v3:=by have:=c.out.v;rw[q]at this;exact this
    have x0:=j.c0;have x1:=j.c1;have x2:=j.c2;have x3:=j.c3
    have PU:Hid (Calls Tryz.prog 93 #[.agg #[int i64 v0,int i64 v1,int i64 v2,int i64 v3],.agg #[int i64 p0,int i64 p1,int i64 p2,int i64 p3]] wr.drew λe w'=>e=.returned (.agg #[int i64 (qaz v0 p0),int i64 (qaz v1 p1),int i64 (qaz v2 p2),int i64 (qaz v3 p3)])/\qbe w' w.heap.size 0 0 0 0/\qbe w' (w.heap.size+1) v0 v1 v2 v3/\Below w.heap.size w w'):=
     (qo2 v0 v1 v2 v3 p0 p1 p2 p3 wr.drew).mono λe w' ⟨he,C⟩=>⟨he,qbe.later C c.out.r.drew,qbe.later C j.drew,qac c.out.b.drew C⟩
    have hB:w.heap.size<=w.heap.size+1:=by omega
    have hBB:=c.out.b.drew;clear l g J K L M q s u y B j c p
    go_wp2_with fail
    go_region_with
     (first|(go_at_call 93;with_reducible refine PU.out.mono ?_;rintro e w5 ⟨rfl,RR5,d,hb5⟩;have y0:=d.c0;have y1:=d.c1;have y2:=d.c2;have y3:=d.c3;have z0:=d.f0;have z1:=d.f1;have z2:=d.f2;have z3:=d.f3))
    all_goals
     have SM:Hid (StM w S (k+1) ((((w5.setCell ⟨w.heap.size+1,0,none⟩ (int i64 (qaz v0 p0))).setCell ⟨w.heap.size+1,1,none⟩ (int i64 (qaz v1 p1))).setCell ⟨w.heap.size+1,2,none⟩ (int i64 (qaz v2 p2))).setCell ⟨w.heap.size+1,3,none⟩ (int i64 (qaz v3 p3)))):=
      ⟨RR5.far4 (by omega),by rw[EQ.out];exact d.set,qkn hb5 hB _ _ _ _⟩
     go_wp2_with fail
     go_roundw
     case rel=>exact⟨k+1,z+1,by omega,by have:=I.out;omega,by go_num,SM⟩
     case measure=>simp[intOf];omega
  ·have hke:k=(qcz a):=by omega
   have U:¬z<a:=by omega
   clear hcut;subst hke;have r0:=c.out.r.c0;have r1:=c.out.r.c1;have r2:=c.out.r.c2;have r3:=c.out.r.c3;have f0:=c.out.r.f0;have f1:=c.out.r.f1;have f2:=c.out.r.f2;have f3:=c.out.r.f3;have x0:=c.out.v.c0;have x1:=c.out.v.c1;have x2:=c.out.v.c2;have x3:=c.out.v.c3;have m:=c.out.r.set (x0:=(qak S (qcz a)).v0) (x1:=(qak S (qcz a)).v1) (x2:=(qak S (qcz a)).v2) (x3:=(qak S (qcz a)).v3);have hbZ:=qkn c.out.b (Nat.le_refl _) (qak S (qcz a)).v0 (qak S (qcz a)).v1 (qak S (qcz a)).v2 (qak S (qcz a)).v3;have g0:=m.c0;have g1:=m.c1;have g2:=m.c2;have g3:=m.c3;clear l
   go_wp2_with fail
   exact bodyPost_ret (v:=.agg #[int i64 (qak S (qcz a)).v0,int i64 (qak S (qcz a)).v1,int i64 (qak S (qcz a)).v2,int i64 (qak S (qcz a)).v3]) (by simp[results,Tryz.results92,go_sem,g0,g1,g2,g3]) rfl ⟨rfl,hbZ⟩
theorem qvl {log waits:List TxM} (a:Int) (w:World) (h:qc9 w b lv bm F S log waits):
 Calls Tryz.prog 92 #[.pointer (some ⟨b,0,none⟩),int i64 a] w λe w'=>
  e=.returned (.agg #[int i64 (qak S (qcz a)).v0,int i64 (qak S (qcz a)).v1,int i64 (qak S (qcz a)).v2,int i64 (qak S (qcz a)).v3])/\Below w.heap.size w w':=by
 by_cases c:4<a
 ·exact qxp a w h c
 ·exact qxo a w h c
end
section
open Go.Value Go.IntKind
variable {b:Nat} {S:qaf}
theorem qc9.know {w:World} {lv:Value} {bm:Nat} {F:Nat->Prop} {log waits:List TxM} (h:qc9 w b lv bm F S log waits) {k:Nat} (a:k<4) (x0 x1 x2 x3:Int):
 qc9 ((((w.setCell ⟨b,9+k*4,none⟩ (int i64 (qb1 (S.oth (k*4)) x0))).setCell ⟨b,9+k*4+1,none⟩ (int i64 (qb1 (S.oth (k*4+1)) x1))).setCell ⟨b,9+k*4+2,none⟩ (int i64 (qb1 (S.oth (k*4+2)) x2))).setCell ⟨b,9+k*4+3,none⟩ (int i64 (qb1 (S.oth (k*4+3)) x3))) b lv bm F (qbi S k x0 x1 x2 x3) log waits:=by
 have a1:=h.cell (S':={S with oth:=λj=>if j=k*4 then qb1 (S.oth j) x0 else S.oth j}) (9+k*4) (int i64 (qb1 (S.oth (k*4)) x0)) (by omega) (by match k,a with|0,_=>rfl|1,_=>rfl|2,_=>rfl|3,_=>rfl) rfl;have a2:=a1.cell (S':={S with oth:=λj=>if j=k*4 then qb1 (S.oth j) x0 else if j=k*4+1 then qb1 (S.oth j) x1 else S.oth j}) (9+k*4+1) (int i64 (qb1 (S.oth (k*4+1)) x1)) (by omega) (by match k,a with|0,_=>rfl|1,_=>rfl|2,_=>rfl|3,_=>rfl) rfl;have a3:=a2.cell (S':={S with oth:=λj=>if j=k*4 then qb1 (S.oth j) x0 else if j=k*4+1 then qb1 (S.oth j) x1 else if j=k*4+2 then qb1 (S.oth j) x2 else S.oth j}) (9+k*4+2) (int i64 (qb1 (S.oth (k*4+2)) x2)) (by omega) (by match k,a with|0,_=>rfl|1,_=>rfl|2,_=>rfl|3,_=>rfl) rfl;exact a3.cell (S':=qbi S k x0 x1 x2 x3) (9+k*4+3) (int i64 (qb1 (S.oth (k*4+3)) x3)) (by omega) (by match k,a with|0,_=>rfl|1,_=>rfl|2,_=>rfl|3,_=>rfl) rfl
theorem qwu {G:Nat->Prop} {n:Int} (O:0<=n) (P:n<4) (x0 x1 x2 x3:Int) (w:World) (h:PS w b G S):
 Calls Tryz.prog 153 #[.pointer (some ⟨b,0,none⟩),int i64 n,.agg #[int i64 x0,int i64 x1,int i64 x2,int i64 x3]] w λe w'=>e=.returned (qa9 0)/\PPo w b G (qbi S n.toNat x0 x1 x2 x3) w':=by
 have Q:=qom (n:=n) (v:=true) (by simp[O,P]) (w.alloc (.cells #[int i64 x0,int i64 x1,int i64 x2,int i64 x3] 47));have hb:=boxed (Below.refl _ w) (.cells #[int i64 x0,int i64 x1,int i64 x2,int i64 x3] 47);have H:=qag.new (w:=w) (T:=47) [int i64 x0,int i64 x1,int i64 x2,int i64 x3] rfl;obtain⟨k,R⟩:∃k,n.toNat=k:=⟨_,rfl⟩
 have d:k<4:=by omega
 obtain⟨lv,bm,F,log,waits,u,I,J,y⟩:=h
 have K:Hid (∀W,Below w.heap.size w W->∀g,g=((((W.setCell ⟨b,9+k*4,none⟩ (int i64 (qb1 (S.oth (k*4)) x0))).setCell ⟨b,9+k*4+1,none⟩ (int i64 (qb1 (S.oth (k*4+1)) x1))).setCell ⟨b,9+k*4+2,none⟩ (int i64 (qb1 (S.oth (k*4+2)) x2))).setCell ⟨b,9+k*4+3,none⟩ (int i64 (qb1 (S.oth (k*4+3)) x3)))->PPo w b G (qbi S n.toNat x0 x1 x2 x3) g):=λW i g e=>by
  rw[R];have L:=(u.later i).know d x0 x1 x2 x3;have l:G b:=(y b).2 (.inl (.inl rfl))
  have U:qae G W g:=by
   rw[e];exact(((qae.setCell W ⟨b,9+k*4,none⟩ _ l).trans (qae.setCell _ ⟨b,9+k*4+1,none⟩ _ l)).trans (qae.setCell _ ⟨b,9+k*4+2,none⟩ _ l)).trans (qae.setCell _ ⟨b,9+k*4+3,none⟩ _ l)
  rw[<-e]at L;exact⟨G,⟨lv,bm,F,log,waits,L,I,J,y⟩,λj z=>.inl z,(qae.ofBelow i).more U (λj z=>.inl z)⟩
 obtain⟨m,o,p,q⟩:=qky (S:=S) (lv:=lv) (bm:=bm) d;have M:Hid (∀W,Below w.heap.size w W->qc9 W b lv bm F S log waits):=λW i=>u.later i;obtain⟨p0,B⟩:∃x,S.oth (k*4)=x:=⟨_,rfl⟩;obtain⟨p1,C⟩:∃x,S.oth (k*4+1)=x:=⟨_,rfl⟩;obtain⟨p2,D⟩:∃x,S.oth (k*4+2)=x:=⟨_,rfl⟩;obtain⟨p3,E⟩:∃x,S.oth (k*4+3)=x:=⟨_,rfl⟩;rw[B]at m;rw[C]at o;rw[D]at p;rw[E]at q;rw[B,C,D,E]at K;have V:=hb.drew;have X:Hid (Calls Tryz.prog 133 #[.agg #[int i64 p0,int i64 p1,int i64 p2,int i64 p3],.agg #[int i64 x0,int i64 x1,int i64 x2,int i64 x3]] (w.alloc (.cells #[int i64 x0,int i64 x1,int i64 x2,int i64 x3] 47)).drew λe w'=>e=.returned (.agg #[int i64 (qb1 p0 x0),int i64 (qb1 p1 x1),int i64 (qb1 p2 x2),int i64 (qb1 p3 x3)])/\Below w.heap.size w w'):=(qz7 p0 p1 p2 p3 x0 x1 x2 x3 _).mono λe w' ⟨Y,Z⟩=>⟨Y,qac V Z⟩;have c:=(M.out _ hb).box;have q0:=c.cell _ _ m;have q1:=c.cell _ _ o;have q2:=c.cell _ _ p;have q3:=c.cell _ _ q;obtain⟨r0,r1,r2,r3⟩:=H.c4;have r:Hid ((qb4 S lv bm)[9+k*4]?=some (int i64 p0)/\(qb4 S lv bm)[9+k*4+1]?=some (int i64 p1)/\(qb4 S lv bm)[9+k*4+2]?=some (int i64 p2)/\(qb4 S lv bm)[9+k*4+3]?=some (int i64 p3)):=⟨m,o,p,q⟩;have s:Hid _:=d;clear u I J y B C D E c H m o p q d;go_enter Tryz.func153,Tryz.ntmps153
 go_wp2_with fail
 refine Q.mono ?_;rintro e w2 ⟨rfl,rfl⟩
 go_wp2_with fail
 go_region_law (first
  |(refine qas rfl 133 #[.agg #[int i64 p0,int i64 p1,int i64 p2,int i64 p3],.agg #[int i64 x0,int i64 x1,int i64 x2,int i64 x3]] (by go_simp) X.out ?_
    rintro e w3 ⟨rfl,N⟩;refine⟨_,rfl,?_⟩;have a:=(M.out _ N).box;have s0:=a.cell _ _ r.out.1;have s1:=a.cell _ _ r.out.2.1;have s2:=a.cell _ _ r.out.2.2.1;have s3:=a.cell _ _ r.out.2.2.2;have f0:=a.free (9+k*4) (by have:=s.out;simp[qb4];omega);have f1:=a.free (9+k*4+1) (by have:=s.out;simp[qb4];omega);have f2:=a.free (9+k*4+2) (by have:=s.out;simp[qb4];omega);have f3:=a.free (9+k*4+3) (by have:=s.out;simp[qb4];omega)
    clear a))
 all_goals
  have FIN:=K.out w3 N _ rfl
  go_wp2_with fail
  go_ret;exact⟨rfl,FIN⟩
end
section
open Go.Value Go.IntKind
theorem qjh (a:Nat) (t:TxP):∀(l:List TxP) (W:WoS),qcb a (l++[t]) W=if t.site=(a:Int)then qcb a l W else qcq (qcb a l W) ⟨a,.tx t⟩
 |[],W=>rfl
 |x::l,W=>by
  show qcb a (l++[t]) _=_;rw[qjh a t l];rfl
variable {b i:Nat} {W:WoS}
theorem PWo.stepSm {w w':World} {M:WoM} {a:Nat->Nat->Prop} (h:PWo w b M W a) (d:i<W.n) {S':qaf} (e:PPo w (M.bp i) (a i) S' w'):∃c,PWo w' b M (setSite W i S') c/\(∀j k,c j k->a j k\/w.heap.size<=k)/\qae (a i) w w':=by
 obtain⟨c,f,g,l,m⟩:=h.fam.stepG (ps':=qd3 M (setSite W i S')) (i:=i) (by omega) (p:=qhw (M.bp i) S') e (by show (if i<W.n then _ else _)=_;rw[if_pos d];show qhw (M.bp i) (qb2 W.S i S' i)=_;rw[qal]) (λj q o=>by
  show (if j<W.n then qhw (M.bp j) (qb2 W.S i S' j)else _)=(if j<W.n then _ else _);rw[qbq _ _ o]
  rfl)
 exact⟨c,h.keep l f rfl rfl rfl rfl rfl rfl,g,m⟩
theorem qx1 {G:Nat->Prop} (v0 v1 v2 v3:Int) (w:World) (h:PW w b G W) (hw:WfW W) {o:Nat} (hi:i<W.n) (ho:o<W.n):
 Calls Tryz.prog 120 #[.pointer (some ⟨b,0,none⟩),int i64 i,int i64 o,.agg #[int i64 v0,int i64 v1,int i64 v2,int i64 v3]] w λe w'=>e=.returned (.tuple #[])/\qgq w b G (qdb W i o v0 v1 v2 v3) w':=by
 obtain⟨M,P,h,hG⟩:=h;have hb1:=boxed (Below.refl _ w) (.cells #[int i64 v0,int i64 v1,int i64 v2,int i64 v3] 47);have RV:=qag.new (w:=w) (T:=47) [int i64 v0,int i64 v1,int i64 v2,int i64 v3] rfl;change qag (w.alloc (.cells #[int i64 v0,int i64 v1,int i64 v2,int i64 v3] 47)) w.heap.size [int i64 v0,int i64 v1,int i64 v2,int i64 v3]at RV;have H1:=h.later hb1;obtain⟨pb,pc,c0,hpc,hpb,y0,y1⟩:=H1.place hi;have hlt:=h.box.lt;have n4:=hw.n4;have KN:=qwu (n:=o) (by omega) (by omega) v0 v1 v2 v3 _ (H1.site hi);have d:Hid (PWo w b M W P/\(∀k,G k↔qj4 b M (W.n+W.c) P k)/\WfW W/\i<W.n):=⟨h,hG,hw,hi⟩
 have L:(i:Int)<(W.n:Int):=by omega
 obtain⟨z0,z1,z2,z3⟩:=RV.c4;rw[show ((o:Int)).toNat=o by omega]at KN;have HR:Hid (qag (w.alloc (.cells #[int i64 v0,int i64 v1,int i64 v2,int i64 v3] 47)) w.heap.size [int i64 v0,int i64 v1,int i64 v2,int i64 v3]/\Below w.heap.size w (w.alloc (.cells #[int i64 v0,int i64 v1,int i64 v2,int i64 v3] 47))/\PWo (w.alloc (.cells #[int i64 v0,int i64 v1,int i64 v2,int i64 v3] 47)) b M W P):=⟨RV,hb1,H1⟩;clear h hG hw H1 RV;go_enter Tryz.func120,Tryz.ntmps120
 go_wp2_with fail
 refine KN.mono ?_;rintro e w2 ⟨rfl,hp⟩;rw[show qa9 0=.nilIface from rfl];obtain⟨J,K2,hsub,tt2⟩:=HR.out.2.2.stepSm d.out.2.2.2 hp;have RV2:qag w2 w.heap.size [int i64 v0,int i64 v1,int i64 v2,int i64 v3]:=HR.out.1.kept (tt2.block _ HR.out.1.lt (λe=>by have:=d.out.1.ltG (by have:=d.out.2.2.2;omega) e;omega)) tt2.size;have MS:=qq9 v0 v1 v2 v3 w2 (K2.site (i:=i) d.out.2.2.2) (by show qcr (qb2 W.S i (qbi (W.S i) o v0 v1 v2 v3) i);rw[qal];exact(d.out.2.2.1.inv i d.out.2.2.2).knows _);rw[show qf0 ((setSite W i (qbi (W.S i) o v0 v1 v2 v3)).S i) v0 v1 v2 v3=qf0 (W.S i) v0 v1 v2 v3 by show qf0 (qb2 W.S i (qbi (W.S i) o v0 v1 v2 v3) i) v0 v1 v2 v3=_;rw[qal];rfl]at MS;have H:Hid (PWo w2 b M (setSite W i (qbi (W.S i) o v0 v1 v2 v3)) J/\(∀j k,J j k->P j k\/w.heap.size<=k)/\qae (P i) (w.alloc (.cells #[int i64 v0,int i64 v1,int i64 v2,int i64 v3] 47)) w2):=⟨K2,λj k e=>(hsub j k e).elim .inl (λq=>.inr (by simp at q;omega)),tt2⟩;clear z0 z1 z2 z3 c0 y0 y1 KN hp K2 hsub tt2;obtain⟨z0,z1,z2,z3⟩:=RV2.c4
 go_wp2_with fail
 refine MS.mono ?_;rintro e p ⟨v,rfl,kept,Q,⟨B9,hB9,R⟩,k3,k4⟩;obtain⟨ma,mc,hv,hMx⟩:=qa6 R;subst hv;have K3:=H.out.1.later k4
 have hkl:kept.length<=200:=by
  have e1:=congrArg List.length Q;have e2:(qf0 (W.S i) v0 v1 v2 v3).length<=(W.S i).log.length:=List.length_filter_le _ _;have e3:=(d.out.2.2.1.inv i d.out.2.2.2).log;simp at e1;omega
 have hml:=hMx.len;have hmc:=hMx.cap
 have E:Hid (qec p ma mc kept/\kept.map (·.t)=qf0 (W.S i) v0 v1 v2 v3/\(∀m∈kept,qat p m.wa m.wc m.t.ws/\∀j,m.blk j->w2.heap.size<=j)/\(∀k U,ma=some ⟨k,U,none⟩->kept≠[]->w2.heap.size<=k)/\PWo p b M (setSite W i (qbi (W.S i) o v0 v1 v2 v3)) J/\Below w2.heap.size w2 p):=⟨hMx,Q,k3,λk U e I=>by
  rcases R.2 with ⟨q,V⟩|⟨g,cap,cur,q,hb9,_⟩
  ·exact absurd (List.eq_nil_of_length_eq_zero V) I
  ·injection q with L q2 q3;rw[e]at L;injection L with L;injection L with L
   omega,K3,k4⟩
 clear MS z0 z1 z2 z3 RV2 Q R k3 k4 K3 hMx
 go_wp2_with fail
 go_loopw [27] (λiv wr=>∃(k:Nat) (z:Int),k<=kept.length/\z=k/\iv=int i64 z/\Hid (qgh p b M J (λq=>p.heap.size<=q) (qcb o ((kept.map (·.t)).take k) (setSite W i (qbi (W.S i) o v0 v1 v2 v3))) wr)) (λiv _=>kept.length-(intOf iv).toNat)
 case atStart=>exact⟨0,0,by omega,rfl,rfl,qgh.none E.out.2.2.2.2.1 (Below.refl _ _) _⟩
 case round=>
  obtain⟨k,z,hk,hz,rfl,HS⟩:=hrel;have HZ:Hid _:=hz;by_cases X:k<kept.length
  ·have g1:z<(kept.length:Int):=by omega
   have g2:z.toNat=k:=by omega
   have g3:0<=z:=by omega
   have g4:z<200:=by omega
   clear hz
   obtain⟨C,D,haa,hcc⟩:∃b U,ma=some ⟨b,U,none⟩/\∀i m r u,kept[i]?=some m->(txC m)[r]?=some u->p.cell? ⟨b,U+(i*9+r),none⟩=some u:=by
        rcases E.out.1.held with V|V
        ·rw[V]at X;simp at X
        ·exact V
   have hne:kept≠[]:=λe=>by rw[e]at X;simp at X
   have hab:=E.out.2.2.2.1 C D haa hne;subst haa;have ltb:∀q,qg8 b M q->q<w2.heap.size:=λq e=>H.out.1.ltF q e;have kp:∀q,w2.heap.size<=q->q<p.heap.size->wr.heap[q]?=p.heap[q]?:=λq N hq3=>HS.out.block hq3 (λe=>by have:=ltb b (.inl rfl);omega) (λe=>by have:=ltb q (.inr (.inr (.inr (.inl e))));omega);obtain⟨⟨⟨site,seq,wall,count,d0,d1,d2,d3,a⟩,y,B⟩,Y⟩:∃m,kept[k]?=some m:=⟨_,List.getElem?_eq_getElem X⟩;have hab3:C<p.heap.size:=World.block_lt_of_cell? _ _ (hcc k _ 0 _ Y rfl)
   have F:∀r u,(txC ⟨⟨site,seq,wall,count,d0,d1,d2,d3,a⟩,y,B⟩)[r]?=some u->wr.cell? ⟨C,D+(k*9+r),none⟩=some u:=λr u hu=>by rw[World.cell?_of_block (w:=p) (kp C hab hab3)];exact hcc k _ r u Y hu
   have x0:wr.cell? ⟨C,D+k*9,none⟩=some (int i64 site):=F 0 _ rfl;have x1:wr.cell? ⟨C,D+k*9+1,none⟩=some (int i64 seq):=F 1 _ rfl;have x2:wr.cell? ⟨C,D+k*9+2,none⟩=some (int i64 wall):=F 2 _ rfl;have x3:wr.cell? ⟨C,D+k*9+3,none⟩=some (int i64 count):=F 3 _ rfl;have x4:wr.cell? ⟨C,D+k*9+4,none⟩=some (int i64 d0):=F 4 _ rfl;have x5:wr.cell? ⟨C,D+k*9+5,none⟩=some (int i64 d1):=F 5 _ rfl;have x6:wr.cell? ⟨C,D+k*9+6,none⟩=some (int i64 d2):=F 6 _ rfl;have x7:wr.cell? ⟨C,D+k*9+7,none⟩=some (int i64 d3):=F 7 _ rfl;have x8:wr.cell? ⟨C,D+k*9+8,none⟩=some (.slice y a.length B):=F 8 _ rfl;have Z:=List.mem_of_getElem? Y;have hWr:Hid _:=qat.kept (m:=⟨⟨site,seq,wall,count,d0,d1,d2,d3,a⟩,y,B⟩) (E.out.2.2.1 _ Z).1 (λq e=>kp q ((E.out.2.2.1 _ Z).2 q e) ((E.out.2.2.1 _ Z).1.blk_lt q e))
   have hok:Hid (qc7 site seq wall count d0 d1 d2 d3 a=true):=d.out.2.2.1.lok i d.out.2.2.2 ⟨site,seq,wall,count,d0,d1,d2,d3,a⟩ (by
        have:(⟨site,seq,wall,count,d0,d1,d2,d3,a⟩:TxP)∈qf0 (W.S i) v0 v1 v2 v3:=by rw[<-E.out.2.1];exact List.mem_map.2 ⟨_,Z,rfl⟩
        exact(List.mem_filter.1 this).1)
   have HT:Hid (qcb o ((kept.map (·.t)).take (k+1)) (setSite W i (qbi (W.S i) o v0 v1 v2 v3))=if site=(o:Int)then qcb o ((kept.map (·.t)).take k) (setSite W i (qbi (W.S i) o v0 v1 v2 v3))else qcq (qcb o ((kept.map (·.t)).take k) (setSite W i (qbi (W.S i) o v0 v1 v2 v3))) ⟨o,.tx ⟨site,seq,wall,count,d0,d1,d2,d3,a⟩⟩):=by
        show _=_;rw[List.take_add_one,List.getElem?_map,Y];exact qjh o ⟨site,seq,wall,count,d0,d1,d2,d3,a⟩ _ _
   have bx:=boxed (Below.refl _ wr) (.cells #[int i64 site,int i64 seq,int i64 wall,int i64 count,int i64 d0,int i64 d1,int i64 d2,int i64 d3,.slice y a.length B] 80);have RX:=qag.new (w:=wr) (T:=80) [int i64 site,int i64 seq,int i64 wall,int i64 count,int i64 d0,int i64 d1,int i64 d2,int i64 d3,.slice y a.length B] rfl;change qag (wr.alloc (.cells #[int i64 site,int i64 seq,int i64 wall,int i64 count,int i64 d0,int i64 d1,int i64 d2,int i64 d3,.slice y a.length B] 80)) wr.heap.size [int i64 site,int i64 seq,int i64 wall,int i64 count,int i64 d0,int i64 d1,int i64 d2,int i64 d3,.slice y a.length B]at RX;obtain⟨t0,t1,t2,t3,t4,t5,t6,t7,t8⟩:=RX.c9;clear hcc F kp ltb Y Z hab hab3 hne;by_cases hs:site=(o:Int)
   ·have HT2:Hid _:=HT.out.trans (if_pos hs)
    go_wp2_with fail
    go_roundw
    case rel=>exact⟨k+1,z+1,by omega,by have:=HZ.out;omega,by go_num,by show qgh _ _ _ _ _ _ _;rw[HT2.out];exact HS.out.next (λnv l hP=>qgh.none hP (boxed (Below.refl _ wr) _) _)⟩
    case measure=>simp[intOf];have:=HZ.out;omega
   ·have HT2:Hid _:=HT.out.trans (if_neg hs);have S2:Hid _:=HS.out.next (λnv l hP=>qgh.none hP bx _);obtain⟨nv',l',h1,h2,h3,K⟩:=S2.out;have SX:Hid (Calls Tryz.prog 111 #[.pointer (some ⟨b,0,none⟩),int i64 o,.agg #[int i64 site,int i64 seq,int i64 wall,int i64 count,int i64 d0,int i64 d1,int i64 d2,int i64 d3,.slice y a.length B]] (wr.alloc (.cells #[int i64 site,int i64 seq,int i64 wall,int i64 count,int i64 d0,int i64 d1,int i64 d2,int i64 d3,.slice y a.length B] 80)) λe w'=>e=.returned (.tuple #[])/\qgh (wr.alloc (.cells #[int i64 site,int i64 seq,int i64 wall,int i64 count,int i64 d0,int i64 d1,int i64 d2,int i64 d3,.slice y a.length B] 80)) b {M with nv:=nv',l:=l'} J (λk=>(wr.alloc (.cells #[int i64 site,int i64 seq,int i64 wall,int i64 count,int i64 d0,int i64 d1,int i64 d2,int i64 d3,.slice y a.length B] 80)).heap.size<=k) (qcq (qcb o ((kept.map (·.t)).take k) (setSite W i (qbi (W.S i) o v0 v1 v2 v3))) ⟨o,.tx ⟨site,seq,wall,count,d0,d1,d2,d3,a⟩⟩) w'):=qnv o site seq wall count d0 d1 d2 d3 a y B _ h1 (hWr.out.later bx) hok.out;have HP:Hid (PWo (wr.alloc (.cells #[int i64 site,int i64 seq,int i64 wall,int i64 count,int i64 d0,int i64 d1,int i64 d2,int i64 d3,.slice y a.length B] 80)) b {M with nv:=nv',l:=l'} (qcb o ((kept.map (·.t)).take k) (setSite W i (qbi (W.S i) o v0 v1 v2 v3))) J/\(∀k,nv'.ownBlock=some k->M.nv.ownBlock=some k\/p.heap.size<=k)/\(∀x∈l',x∈M.l\/p.heap.size<=x.blk)/\qae (λk=>k=b\/M.nv.ownBlock=some k) p (wr.alloc (.cells #[int i64 site,int i64 seq,int i64 wall,int i64 count,int i64 d0,int i64 d1,int i64 d2,int i64 d3,.slice y a.length B] 80))):=⟨h1,h2,h3,K⟩;clear h1 h2 h3 K
    go_wp2_with fail
    refine SX.out.mono ?_;rintro e w5 ⟨rfl,hS⟩
    have SN:Hid (qgh p b M J (λq=>p.heap.size<=q) (qcq (qcb o ((kept.map (·.t)).take k) (setSite W i (qbi (W.S i) o v0 v1 v2 v3))) ⟨o,.tx ⟨site,seq,wall,count,d0,d1,d2,d3,a⟩⟩) w5):=by
     obtain⟨h1,h2,h3,K⟩:=HP.out;obtain⟨nv2,l2,g1',g2',g3',gt⟩:=hS;have s:=K.size;refine⟨nv2,l2,g1',λq e=>?_,λx hx=>?_,?_⟩
     ·rcases g2' q e with r|r
      ·exact h2 q r
      ·exact .inr (by omega)
     ·rcases g3' x hx with r|r
      ·exact h3 x r
      ·exact .inr (by omega)
     ·refine⟨gt.os.trans K.os,gt.tape.trans K.tape,gt.output.trans K.output,Nat.le_trans s gt.size,λq N I=>?_⟩;refine(gt.block q (by omega) (λe=>?_)).trans (K.block q N I);rcases e with e|e
      ·exact I (.inl e)
      ·rcases h2 q e with r|r
       ·exact I (.inr r)
       ·omega
    clear SX HP S2 x0 x1 x2 x3 x4 x5 x6 x7 x8 t0 t1 t2 t3 t4 t5 t6 t7 t8 RX
    go_wp2_with fail
    go_roundw
    case rel=>exact⟨k+1,z+1,by omega,by have:=HZ.out;omega,by go_num,by show qgh _ _ _ _ _ _ _;rw[HT2.out];exact SN.out⟩
    case measure=>simp[intOf];have:=HZ.out;omega
  ·have g1:¬z<(kept.length:Int):=by omega
   have e:k=kept.length:=by omega
   go_wp2_with fail
   go_end0;have S9:=HS.out;rw[e,show ((kept.map (·.t)).take kept.length)=qf0 (W.S i) v0 v1 v2 v3 by rw[<-E.out.2.1];exact List.take_of_length_le (by simp)]at S9;have sm:=qee o (qf0 (W.S i) v0 v1 v2 v3) (setSite W i (qbi (W.S i) o v0 v1 v2 v3));have P1:qgq w2 b (qj4 b M (W.n+W.c) J) (qdb W i o v0 v1 v2 v3) wr:=(S9.from E.out.2.2.2.2.2).post (W:=W) (λ_=>Iff.rfl) sm.n sm.c (λk hk=>.inr (Nat.le_trans E.out.2.2.2.2.2.size hk));obtain⟨G5,Q,R,kt⟩:=P1;have s1:=H.out.2.2.size
   have s0:(w.alloc (.cells #[int i64 v0,int i64 v1,int i64 v2,int i64 v3] 47)).heap.size=w.heap.size+1:=by simp
   refine⟨rfl,G5,Q,λq N=>?_,?_⟩
   ·rcases R q N with (r|⟨j,hj,r⟩)|r
    ·exact .inl ((d.out.2.1 q).2 (.inl r))
    ·rcases H.out.2.1 j q r with O|O
     ·exact .inl ((d.out.2.1 q).2 (.inr ⟨j,hj,O⟩))
     ·exact .inr O
    ·exact .inr (by omega)
   ·refine⟨kt.os.trans H.out.2.2.os,kt.tape.trans H.out.2.2.tape,kt.output.trans H.out.2.2.output,by have:=kt.size;omega,λq N I=>?_⟩;refine(kt.block q (by omega) (λr=>?_)).trans ((H.out.2.2.block q (by omega) (λr=>I ((d.out.2.1 q).2 (.inr ⟨i,by have:=d.out.2.2.2;omega,r⟩)))).trans (HR.out.2.1.block q N));rcases r with r|⟨j,hj,r⟩
    ·exact I ((d.out.2.1 q).2 (.inl r))
    ·rcases H.out.2.1 j q r with O|O
     ·exact I ((d.out.2.1 q).2 (.inr ⟨j,hj,O⟩))
     ·omega
end
section
open Go.Value Go.IntKind
def q4c (w:World) (b:Nat) (G:Nat->Prop) (W:WoS) (g:GrS) (e:Ending) (w':World):Prop:=e=.returned (.tuple #[])/\∃W',Hid (qg2 W g W')/\qgq w b G W' w'
variable {b:Nat} {G:Nat->Prop} {W:WoS}
theorem q4j (site seq wall count d0 d1 d2 d3:Int) (ws:List Wr) (to g cap:Nat) (S:ByteArray) (w:World) (h:PW w b G W) (u:WfW W) (j:Own w 0 g cap S) (F:S.size<=1000000) (x:qte (toL S) ⟨site,seq,wall,count,d0,d1,d2,d3,ws⟩) (H:to<W.n):
 Calls Tryz.prog 88 #[.pointer (some ⟨b,0,none⟩),.agg #[int i64 to,.slice (some ⟨g,0,none⟩) S.size cap]] w (q4c w b G W ⟨to,.tx ⟨site,seq,wall,count,d0,d1,d2,d3,ws⟩⟩):=by
 obtain⟨M,l,h,y⟩:=h;have z:=boxed (Below.refl _ w) (.cells #[int i64 to,.slice (some ⟨g,0,none⟩) S.size cap] 168);have d:=qag.new (w:=w) (T:=168) [int i64 to,.slice (some ⟨g,0,none⟩) S.size cap] rfl;change qag (w.alloc (.cells #[int i64 to,.slice (some ⟨g,0,none⟩) S.size cap] 168)) w.heap.size [int i64 to,.slice (some ⟨g,0,none⟩) S.size cap]at d;have B:=qvc x (some ⟨g,0,none⟩) S.size cap (qbb S) _ (j.later z).all j.room F;have a:Hid (PWo w b M W l/\(∀k,G k↔qj4 b M (W.n+W.c) l k)/\WfW W/\to<W.n/\qag (w.alloc (.cells #[int i64 to,.slice (some ⟨g,0,none⟩) S.size cap] 168)) w.heap.size [int i64 to,.slice (some ⟨g,0,none⟩) S.size cap]):=⟨h,y,u,H,d⟩;have I:=d.cell 1 _ rfl;clear h y u d j x;go_enter Tryz.func88,Tryz.ntmps88
 go_wp2_with fail
 refine B.mono ?_;rintro e w2 ⟨a2,c2,rfl,C,D⟩;simp only at C ⊢;have m:=boxed (Below.refl _ w2) (.cells #[int i64 site,int i64 seq,int i64 wall,int i64 count,int i64 d0,int i64 d1,int i64 d2,int i64 d3,.slice a2 ws.length c2] 80);have E:=(qac (qac z D) m);have o:=E.drew;have p:=a.out.1.later E;obtain⟨L,N,c0,O,P,Q,R⟩:=p.place a.out.2.2.2.1;have i:=qag.new (w:=w2) (T:=80) [int i64 site,int i64 seq,int i64 wall,int i64 count,int i64 d0,int i64 d1,int i64 d2,int i64 d3,.slice a2 ws.length c2] rfl;change qag (w2.alloc (.cells #[int i64 site,int i64 seq,int i64 wall,int i64 count,int i64 d0,int i64 d1,int i64 d2,int i64 d3,.slice a2 ws.length c2] 80)) w2.heap.size [int i64 site,int i64 seq,int i64 wall,int i64 count,int i64 d0,int i64 d1,int i64 d2,int i64 d3,.slice a2 ws.length c2]at i;have q:=(a.out.2.2.2.2.later D).later m
 have J:Hid (Calls Tryz.prog 118 #[.pointer (some ⟨M.bp to,0,none⟩),.agg #[int i64 site,int i64 seq,int i64 wall,int i64 count,int i64 d0,int i64 d1,int i64 d2,int i64 d3,.slice a2 ws.length c2]] (w2.alloc (.cells #[int i64 site,int i64 seq,int i64 wall,int i64 count,int i64 d0,int i64 d1,int i64 d2,int i64 d3,.slice a2 ws.length c2] 80)).drew λe w'=>∃v,e=.returned v/\∃S',qbu (W.S to) ⟨site,seq,wall,count,d0,d1,d2,d3,ws⟩ S'/\PPo (w2.alloc (.cells #[int i64 site,int i64 seq,int i64 wall,int i64 count,int i64 d0,int i64 d1,int i64 d2,int i64 d3,.slice a2 ws.length c2] 80)).drew (M.bp to) (l to) S' w'):=
  (qyz ⟨⟨site,seq,wall,count,d0,d1,d2,d3,ws⟩,a2,c2⟩ _ ((a.out.1.later o).site a.out.2.2.2.1) (a.out.2.2.1.inv to a.out.2.2.2.1) (Nat.le_trans (a.out.2.2.1.wt to a.out.2.2.2.1) (by omega)) (C.later m.drew)).mono λe w' ⟨K,S',r,s⟩=>⟨_,K,S',r,s⟩
 have U:(to:Int)<(W.n:Int):=by have:=a.out.2.2.2.1;omega
 have V:=p.box.lt;have X:=q.cell 0 _ rfl;obtain⟨Y,Z,t2,t3,t4,t5,t6,t7,t8⟩:=i.c9;have l1:=q.lt;have l2:=i.lt;clear B p i q I
 go_wp2_with fail
 go_region_law (refine qas rfl 118 #[.pointer (some ⟨M.bp to,0,none⟩),.agg #[int i64 site,int i64 seq,int i64 wall,int i64 count,int i64 d0,int i64 d1,int i64 d2,int i64 d3,.slice a2 ws.length c2]] (by go_simp) J.out ?_
                rintro e w4 ⟨v4,rfl,S',r,s⟩
                refine⟨_,rfl,?_⟩)
 all_goals
  go_wp2_with fail
  refine bodyPost_ret (v:=.tuple #[]) (results_none rfl _ _ _) rfl ?_;exact⟨rfl,_,⟨S',r,rfl⟩,qgq.from o ((a.out.1.later o).stepS a.out.2.1 a.out.2.2.2.1 s)⟩
theorem q0f (site v0 v1 v2 v3:Int) (to g cap:Nat) (S:ByteArray) (w:World) (h:PW w b G W) (J:WfW W) (m:Own w 0 g cap S) (D:S.size<=1000000) (E:qdh (toL S) ⟨site,v0,v1,v2,v3⟩) (X:to<W.n):
 Calls Tryz.prog 88 #[.pointer (some ⟨b,0,none⟩),.agg #[int i64 to,.slice (some ⟨g,0,none⟩) S.size cap]] w (q4c w b G W ⟨to,.ask site v0 v1 v2 v3⟩):=by
 obtain⟨M,p,h,K⟩:=h;have L:=boxed (Below.refl _ w) (.cells #[int i64 to,.slice (some ⟨g,0,none⟩) S.size cap] 168);have r:=qag.new (w:=w) (T:=168) [int i64 to,.slice (some ⟨g,0,none⟩) S.size cap] rfl;change qag (w.alloc (.cells #[int i64 to,.slice (some ⟨g,0,none⟩) S.size cap] 168)) w.heap.size [int i64 to,.slice (some ⟨g,0,none⟩) S.size cap]at r;have N:=qxc (λx Y=>qwe Y E) (some ⟨g,0,none⟩) S.size cap (qbb S) _ (m.later L).all m.room D;have a:Hid (PWo w b M W p/\(∀k,G k↔qj4 b M (W.n+W.c) p k)/\WfW W/\to<W.n/\qag (w.alloc (.cells #[int i64 to,.slice (some ⟨g,0,none⟩) S.size cap] 168)) w.heap.size [int i64 to,.slice (some ⟨g,0,none⟩) S.size cap]/\Own w 0 g cap S/\S.size<=1000000/\qdh (toL S) ⟨site,v0,v1,v2,v3⟩):=⟨h,K,J,X,r,m,D,E⟩;have Z:=r.cell 1 _ rfl;clear h K J r m E D;go_enter Tryz.func88,Tryz.ntmps88
 go_wp2_with fail
 refine N.mono ?_;rintro e w2 ⟨rfl,O⟩;have P:=boxed (Below.refl _ w2) (.cells #[int i64 0,int i64 0,int i64 0,int i64 0,int i64 0,int i64 0,int i64 0,int i64 0,.slice none 0 0] 80);have Q:=(qac (qac L O) P);have s:=(a.out.2.2.2.2.1.later O).later P;have F:=qtl a.out.2.2.2.2.2.2.2 (some ⟨g,0,none⟩) S.size cap (qbb S) _ (a.out.2.2.2.2.2.1.later Q).all a.out.2.2.2.2.2.1.room a.out.2.2.2.2.2.2.1;have e1:=s.cell 1 _ rfl;have l1:=s.lt;have R:Hid (qag (w2.alloc (.cells #[int i64 0,int i64 0,int i64 0,int i64 0,int i64 0,int i64 0,int i64 0,int i64 0,.slice none 0 0] 80)) w.heap.size [int i64 to,.slice (some ⟨g,0,none⟩) S.size cap]/\Below w.heap.size w (w2.alloc (.cells #[int i64 0,int i64 0,int i64 0,int i64 0,int i64 0,int i64 0,int i64 0,int i64 0,.slice none 0 0] 80))):=⟨s,Q⟩;clear N Z s
 go_wp2_with fail
 refine F.mono ?_;rintro e d ⟨rfl,U⟩;simp only;have V:=boxed (Below.refl _ d) (.cells #[int i64 v0,int i64 v1,int i64 v2,int i64 v3] 47);have u:=qac (qac R.out.2 U) V;have y:=(R.out.1.later U).later V;have z:=qag.new (w:=d) (T:=47) [int i64 v0,int i64 v1,int i64 v2,int i64 v3] rfl;change qag (d.alloc (.cells #[int i64 v0,int i64 v1,int i64 v2,int i64 v3] 47)) d.heap.size [int i64 v0,int i64 v1,int i64 v2,int i64 v3]at z;have B:=a.out.1.later u;obtain⟨pb,pc,c0,hpc,hpb,y0,y1⟩:=B.place a.out.2.2.2.1;have hlt:=B.box.lt;by_cases C:0<=site/\site<(W.n:Int)
 ·obtain⟨o,ho⟩:∃o:Nat,(o:Int)=site:=⟨site.toNat,by omega⟩;subst ho
  have hon:o<W.n:=by omega
  have i:=qbd (k:=o) (v:=true) _ c0 (by simp;omega);have AN:=qx1 v0 v1 v2 v3 _ (PW.later (w':=d.alloc (.cells #[int i64 v0,int i64 v1,int i64 v2,int i64 v3] 47)) ⟨M,p,a.out.1,a.out.2.1⟩ u) a.out.2.2.1 a.out.2.2.2.1 hon;have s0:=y.cell 0 _ rfl;obtain⟨t0,t1,t2,t3⟩:=z.c4
  have H:Hid (∀j,j=qdb W to o v0 v1 v2 v3->qg2 W ⟨to,.ask o v0 v1 v2 v3⟩ j):=λj e=>by
   show (if 0<=(o:Int)/\(o:Int)<(W.n:Int)then j=qdb W to (o:Int).toNat v0 v1 v2 v3 else j=W);rw[if_pos C,show ((o:Int)).toNat=o by omega];exact e
  clear F B z y C
  go_wp2_with fail
  refine i.mono ?_;rintro e w6 ⟨rfl,l⟩;have I:=l.symm;clear l i;subst I
  go_wp2_with fail
  refine AN.mono ?_;rintro e w7 ⟨rfl,hp⟩
  go_wp2_with fail
  go_end0;exact⟨rfl,_,H.out _ rfl,qgq.from u hp⟩
 ·have i:=qbd (k:=site) (v:=false) _ c0 (by
   have:¬(0<=site)\/¬(site<(W.n:Int)):=by omega
   rcases this with q|q<;>simp[q])
  have H:Hid (qg2 W ⟨to,.ask site v0 v1 v2 v3⟩ W):=by
   show (if 0<=site/\site<(W.n:Int)then W=qdb W to site.toNat v0 v1 v2 v3 else W=W);rw[if_neg C]
  have s0:=y.cell 0 _ rfl;clear F B z y C
  go_wp2_with fail
  refine i.mono ?_;rintro e w6 ⟨rfl,l⟩;have I:=l.symm;clear l i;subst I
  go_wp2_with fail
  go_end0;exact⟨rfl,W,H,qgq.same ⟨M,p,a.out.1,a.out.2.1⟩ u⟩
theorem q35 (m:GrM) (w:World) (h:PW w b G W) (c:WfW W) (a:m.Ok w) (d:m.g.to<W.n):
 Calls Tryz.prog 88 #[.pointer (some ⟨b,0,none⟩),.agg #[int i64 m.g.to,.slice (some ⟨m.blk,0,none⟩) m.S.size m.cap]] w (q4c w b G W m.g):=by
 obtain⟨⟨to,body⟩,g,cap,S⟩:=m;cases body with
 |tx t=>exact q4j t.site t.seq t.wall t.count t.d0 t.d1 t.d2 t.d3 t.ws to g cap S w h c a.own a.size a.is d
 |ask site v0 v1 v2 v3=>exact q0f site v0 v1 v2 v3 to g cap S w h c a.own a.size a.is d
end
theorem qjd (l a:List GrM):qfk (l++a)=qfk l++qfk a:=by simp[qfk]
theorem qud (l:List GrM):∀u∈qfk l,u.oneCell'=true:=by
 intro u a;obtain⟨x,_,b⟩:=List.mem_flatMap.1 a;exact qp5 x u b
theorem q0j:∀w,(zeroValue 168).run Tryz.prog w=.ok (.agg #[.int .i64 0,.slice none 0 0]) w:=λw=>by kernel_rfl
theorem qg0:(Builtin.zeroCells (Value.agg #[.int .i64 0,.slice none 0 0]).cells 1).toList=[.int .i64 0,.slice none 0 0]:=by
 simp only[Builtin.zeroCells,Array.toList_map];have a:(Value.agg #[.int .i64 0,.slice none 0 0]).cells=#[.int .i64 0,.slice none 0 0]:=rfl;rw[a];have e:(#[Value.int .i64 0,.slice none 0 0]:Array Value).size=2:=rfl;rw[e];simp[List.range_succ]
theorem qre:∀u∈(Builtin.zeroCells (Value.agg #[.int .i64 0,.slice none 0 0]).cells 1).toList,u.oneCell'=true:=by
 rw[qg0];intro u a;simp at a
 rcases a with rfl|rfl<;>rfl
theorem qx3 {g cap i:Nat} {l:List GrM} (w:World) (p:w.ownsRow 0 168 2 (.slice (some ⟨g,0,none⟩) l.length cap) l.length (qfk l)) (q:i<l.length) (Y:l.length<=300):
 Calls Tryz.prog 87 #[.slice (some ⟨g,0,none⟩) l.length cap,.int .i64 i,.int .i64 ((i:Int)+1)] w λe w'=>e=.returned (.slice (some ⟨g,0,none⟩) (l.length-1) cap)/\w'.ownsRow 0 168 2 (.slice (some ⟨g,0,none⟩) (l.length-1) cap) (l.length-1) (qfk (l.eraseIdx i))/\qdc g w w':=by
 obtain⟨F,G,hz0,H,hz2⟩:=info_parts qt4
 obtain⟨cur,m,Z,I,J⟩:∃cur,w.heap[g]?=some (.cells cur 168 (0,0))/\l.length<=cap/\cap<=maxLen/\cur.size=cap*2:=by
  rcases p.2 with ⟨h,_⟩|⟨g2,cap2,cur,e,hb,hg,hnc,hm,hs,n⟩
  ·cases h
  ·injection e with a e2 e3;injection a with a;injection a with a;subst a e3;exact⟨cur,hg,hnc,hm,hs⟩
 have r:∀j u,(qfk l)[j]?=some u->w.cell? ⟨g,j,none⟩=some u:=λj u b=>by
  have d:=p.cells (g:=g) rfl j u b;rw[qb8]at d;exact d
 have s:∀j,j<cap*2->(w.cell? ⟨g,j,none⟩).isSome=true/\w.frozen? ⟨g,j,none⟩=false:=λj c=>by
  constructor
  ·rw[cell_of_row w g j cur _ (0,0) m,Array.getElem?_eq_getElem (by omega)];rfl
  ·unfold World.frozen?;rw[m];simp
 have K:qfk (l.eraseIdx i)=qfk (l.take i)++qfk (l.drop (i+1)):=by rw[List.eraseIdx_eq_take_drop_succ,qjd]
 have v:(qfk (l.take i)).length=i*2:=by rw[qgy,List.length_take];omega
 have lv:(qfk (l.drop (i+1))).length=(l.length-(i+1))*2:=by rw[qgy,List.length_drop]
 have L:qfk l=qfk (l.take (i+1))++qfk (l.drop (i+1)):=by rw[<-qjd,List.take_append_drop]
 have x:(qfk (l.take (i+1))).length=(i+1)*2:=by rw[qgy,List.length_take];omega
 obtain⟨W1,y⟩:∃W1,W1=w.drew.setCells g (0+i*2) (qfk (l.drop (i+1))):=⟨_,rfl⟩
 have z:=qk6 (w:=w.drew) (g:=g) (qfk (l.take i)) (qfk (l.drop (i+1))) [.int .i64 0,.slice none 0 0] (λj u b=>by
  refine r j u ?_
  have:qfk l=qfk (l.take i)++qfk (l.drop i):=by rw[<-qjd,List.take_append_drop]
  rw[this,List.getElem?_append_left (List.getElem?_eq_some_iff.1 b).1]
  exact b) (λj c=>(s j (by rw[v,lv]at c;simp at c;omega)).1)
 rw[v,lv,show i*2+(l.length-(i+1))*2=(l.length-1)*2 by omega]at z;have M:w.drew.heap[g]?=some (.cells cur 168 (0,0)):=m;obtain⟨N,B,O⟩:=qcd g (qfk (l.drop (i+1))) (i*2) w.drew M;obtain⟨cur2,P,Q⟩:=qcd g [.int .i64 0,.slice none 0 0] ((l.length-1)*2) _ B
 have R:Hid (((w.drew.setCells g (i*2) (qfk (l.drop (i+1)))).setCells g ((l.length-1)*2) [.int .i64 0,.slice none 0 0]).ownsRow 0 168 2 (.slice (some ⟨g,0,none⟩) (l.length-1) cap) (l.length-1) (qfk (l.eraseIdx i))):=by
  refine qfq (Nat.zero_le _) P I (by rw[Q,O,J]) (by omega) (by rw[qgy,List.length_eraseIdx,if_pos q]) (λj u b=>?_);rw[K]at b;exact z j u (by rw[List.getElem?_append_left (List.getElem?_eq_some_iff.1 b).1];exact b)
 have S:Hid (qdc g w ((w.drew.setCells g (i*2) (qfk (l.drop (i+1)))).setCells g ((l.length-1)*2) [.int .i64 0,.slice none 0 0])):=
  qdc.trans (qdc.trans (qdc.ofBelow (Below.refl _ w).drew) (qbm g _ _ _) (.inl rfl)) (qbm g _ _ _) (.inl rfl)
 have s3:Hid (∀t,t<(qfk (l.drop (i+1))).length->(w.drew.cell? ⟨g,0+i*2+t,none⟩).isSome=true/\w.drew.frozen? ⟨g,0+i*2+t,none⟩=false):=λt n=>by
  rw[lv]at n;exact s _ (by omega)
 have hcl:∀C,(Builtin.clear_ #[92] C #[.slice (some ⟨g,(l.length-1)*2,none⟩) 1 (cap-(l.length-1))]).run Tryz.prog W1=.ok (.tuple #[]) (W1.setCells g ((l.length-1)*2) [.int .i64 0,.slice none 0 0]):=λC=>by
  have T:∀j,j<cap*2->(W1.cell? ⟨g,j,none⟩).isSome=true/\W1.frozen? ⟨g,j,none⟩=false:=λj c=>by
   have U:W1.heap[g]?=some (.cells N 168 (0,0)):=by rw[y,Nat.zero_add];exact B
   constructor
   ·rw[cell_of_row W1 g j N _ (0,0) U,Array.getElem?_eq_getElem (by omega)];rfl
   ·unfold World.frozen?;rw[U];simp
  have V:(Builtin.zeroCells (Value.agg #[.int .i64 0,.slice none 0 0]).cells 1).size=2:=by rw[<-Array.length_toList,qg0];rfl
  have:=qme W1 92 168 C (.agg #[.int .i64 0,.slice none 0 0]) Tryz.underlying92 q0j g ((l.length-1)*2) 1 (cap-(l.length-1)) (by omega) qre (λj c=>(T _ (by rw[V]at c;omega)).1) (λj c=>(T _ (by rw[V]at c;omega)).2);rw[qg0]at this;exact this
 have o:Hid _:=y
 have q0:(i:Int)<(l.length:Int):=by omega
 have q1:(i:Int)+1<=(l.length:Int):=by omega
 have q2:(l.length:Int)<=(cap:Int):=by omega
 have q3:(i:Int)<=(cap:Int):=by omega
 have q4:(i:Int)+1<=(cap:Int):=by omega
 have q5:(l.length:Int)<=300:=by omega
 have q6:i+(l.length-(i+1))=l.length-1:=by omega
 have q7:¬(i:Int)=(i:Int)+1:=by omega
 have q8:(i:Int)<=(i:Int)+1:=by omega
 have q9:0<=(i:Int)+1:=by omega
 have q10:l.length-(l.length-1)=1:=by omega
 have k:Hid (i<l.length/\l.length<=cap):=⟨q,Z⟩
 have W:Hid (∀A:Addr,(if cap=i+1 then some (⟨g,0,none⟩:Addr)else some ⟨g,(i+1)*2,none⟩)=some A->∀t u,(qfk (l.drop (i+1)))[t]?=some u->w.drew.cell? (A.add t)=some u):=λA X t u b=>by
  by_cases d:cap=i+1
  ·have:l.length-(i+1)=0:=by omega
   have n:=(List.getElem?_eq_some_iff.1 b).1;rw[lv,this]at n;omega
  ·rw[if_neg d]at X;have hA':(⟨g,(i+1)*2,none⟩:Addr)=A:=Option.some.inj X;subst hA'
   have hadd:(⟨g,(i+1)*2,none⟩:Addr).add t=⟨g,(i+1)*2+t,none⟩:=by unfold Addr.add;split<;>simp_all
   rw[hadd];refine r _ u ?_;rw[L,List.getElem?_append_right (by rw[x];omega),x,show (i+1)*2+t-(i+1)*2=t by omega];exact b
 have s1:Hid _:=lv;clear p z B P O Q M m J s r K v lv L x q Y y I;by_cases d:cap=i+1
 ·subst d
  have z1:l.length-i=1:=by have:=k.out;omega
  have D:l.length-1=i:=by have:=k.out;omega
  rw[D,show i+1-i=1 by omega]at hcl;have Z2:Hid _:=D;clear D q10 q6;have E:Hid _:=W.out _ (if_pos rfl);go_enter Tryz.func87,Tryz.ntmps87
  go_wp2_with fail
  go_region_law (refine step_append_room rfl (.tmp 22) (.tmp 25) 92 rfl 168 F 2 Tryz.underlying92 G H g 0 i (i+1) (by simp[Act.eval,Act.put]) ⟨g,0,none⟩ (l.length-(i+1)) 0 (qfk (l.drop (i+1))) (by simp[Act.eval,Act.put];have:=k.out;omega) s1.out E.out (qud _) (by have:=k.out;omega) s3.out ?_
                 rw[<-o.out])
  all_goals
   go_wp2_with fail
   go_ret;have a:=o.out;rw[Nat.zero_add]at a;subst a;have f1:=R.out;have f2:=S.out;rw[Z2.out]at f1 f2 ⊢;exact⟨rfl,f1,f2⟩
 ·have E:Hid _:=W.out _ (if_neg d);go_enter Tryz.func87,Tryz.ntmps87
  go_wp2_with fail
  go_region_law (refine step_append_room rfl (.tmp 22) (.tmp 25) 92 rfl 168 F 2 Tryz.underlying92 G H g 0 i cap (by simp[Act.eval,Act.put]) ⟨g,(i+1)*2,none⟩ (l.length-(i+1)) (cap-(i+1)) (qfk (l.drop (i+1))) (by simp[Act.eval,Act.put]) s1.out E.out (qud _) (by have:=k.out;omega) s3.out ?_
                 rw[<-o.out])
  all_goals
   go_wp2_with fail
   go_ret;have a:=o.out;rw[Nat.zero_add]at a;subst a;exact⟨rfl,R.out,S.out⟩
section
section
variable {w w1 w2:World} {b g cap i:Nat} {M:WoM} {W:WoS} {Gs:Nat->Nat->Prop}
theorem PWo.dropped (h:PWo w b M W Gs) (hb:Below w.heap.size w w1) (z:M.nv=.slice (some ⟨g,0,none⟩) M.l.length cap) (A:i<M.l.length)
 (own:w2.ownsRow 0 168 2 (.slice (some ⟨g,0,none⟩) (M.l.length-1) cap) (M.l.length-1) (qfk (M.l.eraseIdx i))) (o:qdc g w1 w2):
 PWo (w2.setCell ⟨b,2,none⟩ (.slice (some ⟨g,0,none⟩) (M.l.length-1) cap)) b {M with nv:=.slice (some ⟨g,0,none⟩) (M.l.length-1) cap,l:=M.l.eraseIdx i} (qb3 W i) Gs/\qae (λk=>k=b\/M.nv.ownBlock=some k) w (w2.setCell ⟨b,2,none⟩ (.slice (some ⟨g,0,none⟩) (M.l.length-1) cap)):=by
 have s1:=hb.size;have s2:=o.size
 have c:M.nv.ownBlock=some g:=by rw[z];rfl
 have d:(Value.slice (some ⟨g,0,none⟩) (M.l.length-1) cap).ownBlock=some g:=rfl;have r:g≠b:=λq=>h.sb.2.2 (by rw[c,q]);have E:=h.box.lt;have B:∀k,k<w.heap.size->k≠g->w2.heap[k]?=w.heap[k]?:=λk a u=>(o.block k (by omega) (λe=>by injection e with e;exact u e)).trans (hb.block k a)
 have v:(w2.setCell ⟨b,2,none⟩ (.slice (some ⟨g,0,none⟩) (M.l.length-1) cap)).heap.size=w2.heap.size:=by simp[World.setCell]
 have p:∀k,k<w.heap.size->k≠g->k≠b->(w2.setCell ⟨b,2,none⟩ (.slice (some ⟨g,0,none⟩) (M.l.length-1) cap)).heap[k]?=w.heap[k]?:=λk a u C=>(Below.heap_setCell _ _ _ _ (λe=>C e)).trans (B k a u);have ne:∀k,M.nv.ownBlock≠some k->k≠g:=λk a e=>a (by rw[c,e]);refine⟨⟨?_,?_,?_,?_,?_,λx m=>?_,?_,⟨h.sb.1,h.sb.2.1,λe=>r (by rw[d]at e;injection e)⟩,λk=>⟨λe=>⟨((h.sr k).1 e).1,λn=>((h.sr k).1 e).2 (by rw[c];rw[d]at n;exact n)⟩,λe n=>(h.sr k).2 e (by rw[c];rw[d]at n;exact n)⟩,λx m=>?_⟩,?_⟩
 ·have D:qag w2 b _:=(h.box.later hb).kept (o.block b (by omega) (λe=>by injection e with e;exact r e.symm)) s2;exact D.set 2 _ (by simp)
 ·exact qad h.pr (λk e=>p k (h.pr.lt k e).2 (ne k ((h.sr k).1 e).2) (λq=>h.sb.1 (by rw[e,q])))
 ·exact qad h.cr (λk e=>p k (h.cr.lt k e).2 (ne k ((h.sr k).2 e)) (λq=>h.sb.2.1 (by rw[e,q])))
 ·show World.ownsRow _ 0 _ 2 _ (M.l.eraseIdx i).length (qfk (M.l.eraseIdx i));rw[List.length_eraseIdx,if_pos A];exact qad own (λk e=>Below.heap_setCell _ _ _ _ (λq=>r (by rw[d]at e;injection e with e;exact e.trans q)))
 ·show (M.l.eraseIdx i).map (·.g)=W.net.eraseIdx i;rw[<-h.nl,List.eraseIdx_eq_take_drop_succ,List.eraseIdx_eq_take_drop_succ];simp
 ·have q:=List.mem_of_mem_eraseIdx m;have s:=h.sg x q;exact(h.gr x q).kept (p _ (h.gr x q).own.lt (ne _ s.2.2.2) s.1) (by rw[v];omega)
 ·have f:=h.fam.to (X':=qg8 b M) (w':=w2.setCell ⟨b,2,none⟩ (.slice (some ⟨g,0,none⟩) (M.l.length-1) cap)) (λj k y e=>p k (h.ltG y e) (λq=>(h.fam.free k (.inr (.inr (.inr (.inl (by rw[c,q])))))).2 j y e) (λq=>(h.fam.free k (.inl q)).2 j y e)) (by rw[v];omega) (λk a=>⟨.inl a,by rw[v];have:=h.ltF k a;omega⟩);refine⟨f.is,f.apart,λk a=>?_,f.half⟩;rcases a with e|e|e|e|⟨x,m,e⟩
  ·exact f.free k (.inl e)
  ·exact f.free k (.inr (.inl e))
  ·exact f.free k (.inr (.inr (.inl e)))
  ·exact f.free k (.inr (.inr (.inr (.inl (by rw[c];rw[d]at e;exact e)))))
  ·exact f.free k (.inr (.inr (.inr (.inr ⟨x,List.mem_of_mem_eraseIdx m,e⟩))))
 ·have s:=h.sg x (List.mem_of_mem_eraseIdx m);exact⟨s.1,s.2.1,s.2.2.1,λe=>s.2.2.2 (by rw[c];rw[d]at e;exact e)⟩
 ·refine((qae.ofBelow hb).trans (qae.grown o (λk e=>.inr (by rw[c];exact e)))).trans (qae.setCell _ _ _ (.inl rfl))
theorem PWo.under (h:PWo w b M W Gs) {gr:GrS} (d:W.net[i]?=some gr):∃m nb a,M.l[i]?=some m/\m.g=gr/\M.nv=.slice (some ⟨nb,0,none⟩) M.l.length a/\M.l.length=W.net.length/\w.cell? ⟨b,2,none⟩=some (.slice (some ⟨nb,0,none⟩) M.l.length a)/\M.l.length<=a/\nb<w.heap.size/\w.cell? ⟨nb,i*2,none⟩=some (.int .i64 m.g.to)/\w.cell? ⟨nb,i*2+1,none⟩=some (.slice (some ⟨m.blk,0,none⟩) m.S.size m.cap):=by
 have j:M.l.length=W.net.length:=by rw[<-h.nl];simp
 have k:i<M.l.length:=by have:=(List.getElem?_eq_some_iff.1 d).1;omega
 obtain⟨m,c⟩:∃m,M.l[i]?=some m:=⟨_,List.getElem?_eq_getElem k⟩
 have n:m.g=gr:=by
  have:=d;rw[<-h.nl,List.getElem?_map,c]at this;exact Option.some.inj this
 obtain⟨p,a,e,r⟩:=qan h.nr;rcases r.held with q|⟨nb,rfl,o,f⟩
 ·omega
 ·have c2:=h.box.cell 2 _ rfl;rw[e]at c2;exact⟨m,nb,a,c,n,e,j,c2,r.len,o,f _ _ (qtv c).1,f _ _ (qtv c).2⟩
end
theorem q30 {b:Nat} {G:Nat->Prop} {W:WoS} (w:World) (h:PW w b G W) (p:W.net.length<=300) {i:Nat} {g:GrS} (z:W.net[i]?=some g):
 Calls Tryz.prog 48 #[.pointer (some ⟨b,0,none⟩),.int .i64 i] w λe w'=>e=.returned (qa9 0)/\qgq w b G (qb3 W i) w':=by
 obtain⟨M,Gs,h,B⟩:=h;obtain⟨m,nb,j,C,K,r,L,c2,Q,R,x0,x1⟩:=h.under z;have s:i<M.l.length:=(List.getElem?_eq_some_iff.1 C).1;have D:=qe0 (k:=i) (v:=true) w c2 (by simp;omega);have E:=qx3 w (by have:=h.nr;rw[r]at this;exact this) s (by omega);have a:Hid (PWo w b M W Gs/\(∀k,G k↔qj4 b M (W.n+W.c) Gs k)/\M.nv=.slice (some ⟨nb,0,none⟩) M.l.length j/\i<M.l.length):=⟨h,B,r,s⟩
 have S:(i:Int)<(M.l.length:Int):=by omega
 have T:(i:Int)<300:=by omega
 have N:=h.box.lt;clear h B r C K z p L s;go_enter Tryz.func48,Tryz.ntmps48
 go_wp2_with fail
 refine D.mono ?_;rintro e w2 ⟨rfl,F⟩;have O:=F.symm;clear F D;subst O
 go_wp2_with fail
 refine E.mono ?_;rintro e t ⟨rfl,H,o⟩;obtain⟨I,J⟩:=a.out.1.dropped (Below.refl _ w) a.out.2.2.1 a.out.2.2.2 H o;have d:Hid (PWo (t.setCell ⟨b,2,none⟩ (.slice (some ⟨nb,0,none⟩) (M.l.length-1) j)) b {M with nv:=.slice (some ⟨nb,0,none⟩) (M.l.length-1) j,l:=M.l.eraseIdx i} (qb3 W i) Gs/\qae (λk=>k=b\/M.nv.ownBlock=some k) w (t.setCell ⟨b,2,none⟩ (.slice (some ⟨nb,0,none⟩) (M.l.length-1) j))):=⟨I,J⟩;have u:qag t b _:=a.out.1.box.kept (o.block b N (λe=>by injection e with e;exact a.out.1.sb.2.2 (by rw[a.out.2.2.1,e];rfl))) o.size;have U:=u.cell 2 _ rfl;have f2:=u.free 2 (by simp);clear E H o I J u
 go_wp2_with fail
 go_ret;refine⟨rfl,_,⟨_,Gs,d.out.1,λ_=>Iff.rfl⟩,λk y=>.inl ((a.out.2.1 k).2 ?_),?_⟩
 ·rcases y with (q|q|q|q|⟨x,P,q⟩)|q
  ·exact .inl (.inl q)
  ·exact .inl (.inr (.inl q))
  ·exact .inl (.inr (.inr (.inl q)))
  ·exact .inl (.inr (.inr (.inr (.inl (by rw[a.out.2.2.1];exact q)))))
  ·exact .inl (.inr (.inr (.inr (.inr ⟨x,List.mem_of_mem_eraseIdx P,q⟩))))
  ·exact .inr q
 ·exact⟨d.out.2.os,d.out.2.tape,d.out.2.output,d.out.2.size,λk y p=>d.out.2.block k y (λe=>p ((a.out.2.1 k).2 (.inl (e.elim .inl (λq=>.inr (.inr (.inr (.inl q))))))))⟩
end
section
variable {b:Nat} {G:Nat->Prop} {W:WoS}
theorem qog (w:World) (h:PW w b G W) (D:WfW W) {i:Nat} {g:GrS} (E:W.net[i]?=some g):
 Calls Tryz.prog 47 #[.pointer (some ⟨b,0,none⟩),.int .i64 i] w λe w'=>e=.returned (qa9 0)/\∃s,Hid (qcc W i s)/\qgq w b G s w':=by
 obtain⟨M,u,h,P⟩:=h;obtain⟨m,nb,y,F,ac,H,ad,c2,hnc,ae,x0,x1⟩:=h.under E;subst ac;have z:=D.net;have I:i<M.l.length:=(List.getElem?_eq_some_iff.1 F).1;have Q:=List.mem_of_getElem? F;have R:=qe0 (k:=i) (v:=true) w c2 (by simp;omega);have J:=boxed (Below.refl _ w) (.cells #[.int .i64 m.g.to,.slice (some ⟨m.blk,0,none⟩) m.S.size m.cap] 168);have U:=qx3 (w.alloc (.cells #[.int .i64 m.g.to,.slice (some ⟨m.blk,0,none⟩) m.S.size m.cap] 168)) (by have:=qad h.nr (λk e=>J.block k (h.nr.lt k e).2);rw[H]at this;exact this) I (by omega);have K:=qag.new (w:=w) (T:=168) [.int .i64 m.g.to,.slice (some ⟨m.blk,0,none⟩) m.S.size m.cap] rfl;change qag (w.alloc (.cells #[.int .i64 m.g.to,.slice (some ⟨m.blk,0,none⟩) m.S.size m.cap] 168)) w.heap.size [.int .i64 m.g.to,.slice (some ⟨m.blk,0,none⟩) m.S.size m.cap]at K;have a:Hid (PWo w b M W u/\(∀k,G k↔qj4 b M (W.n+W.c) u k)/\M.nv=.slice (some ⟨nb,0,none⟩) M.l.length y/\i<M.l.length/\WfW W/\m∈M.l/\W.net[i]?=some m.g/\qag (w.alloc (.cells #[.int .i64 m.g.to,.slice (some ⟨m.blk,0,none⟩) m.S.size m.cap] 168)) w.heap.size [.int .i64 m.g.to,.slice (some ⟨m.blk,0,none⟩) m.S.size m.cap]):=⟨h,P,H,I,D,Q,E,K⟩
 have q1:(i:Int)<(M.l.length:Int):=by omega
 have q2:(i:Int)<300:=by omega
 have hlt:=h.box.lt;clear h P H F E z ad I D Q K;go_enter Tryz.func47,Tryz.ntmps47
 go_wp2_with fail
 refine R.mono ?_;rintro e w2 ⟨rfl,V⟩;have af:=V.symm;clear V R;subst af
 go_wp2_with fail
 refine U.mono ?_;rintro e B ⟨rfl,X,d⟩;obtain⟨Y,C⟩:=a.out.1.dropped J a.out.2.2.1 a.out.2.2.2.1 X d;have ag:nb≠b:=λe=>a.out.1.sb.2.2 (by rw[a.out.2.2.1,<-e];rfl);have nlt:nb<w.heap.size:=ae
 have s3:w.heap.size+1<=B.heap.size:=by have:=d.size;simpa using this
 have L:qag B b _:=(a.out.1.box.later J).kept (d.block b (by simp;omega) (λe=>by injection e with e;exact ag e.symm)) d.size;have Z:qag B w.heap.size _:=a.out.2.2.2.2.2.2.2.kept (d.block w.heap.size (by simp) (λe=>by injection e with e;omega)) d.size;have e2:=L.cell 2 _ rfl;have f2:=L.free 2 (by simp);have N:=Z.far ⟨b,2,none⟩ (.slice (some ⟨nb,0,none⟩) (M.l.length-1) y) (by show b≠w.heap.size;omega);have r0:=N.cell 0 _ rfl;have r1:=N.cell 1 _ rfl;have sg:=a.out.1.sg m a.out.2.2.2.2.2.1;have O:=a.out.1.gr m a.out.2.2.2.2.2.1;have aa:m.Ok (B.setCell ⟨b,2,none⟩ (.slice (some ⟨nb,0,none⟩) (M.l.length-1) y)):=O.kept (C.block m.blk O.own.lt (λe=>e.elim sg.1 sg.2.2.2)) C.size;have CM:=q35 m _ ⟨_,u,Y,λ_=>Iff.rfl⟩ (a.out.2.2.2.2.1.drop i) aa (a.out.2.2.2.2.1.to m.g (List.mem_of_getElem? a.out.2.2.2.2.2.2.1));have j:Hid _:=C;clear U X d Y C L Z N sg O aa
 go_wp2_with fail
 refine CM.mono ?_;rintro e w5 ⟨rfl,s,hC,G5,k1,k2,o⟩
 go_wp2_with fail
 go_ret
 have ab:∀q,qj4 b {M with nv:=.slice (some ⟨nb,0,none⟩) (M.l.length-1) y,l:=M.l.eraseIdx i} ((qb3 W i).n+(qb3 W i).c) u q->G q:=λq p=>(a.out.2.1 q).2 (by
  rcases p with (q|q|q|q|⟨x,hx,q⟩)|q
  ·exact .inl (.inl q)
  ·exact .inl (.inr (.inl q))
  ·exact .inl (.inr (.inr (.inl q)))
  ·exact .inl (.inr (.inr (.inr (.inl (by rw[a.out.2.2.1];exact q)))))
  ·exact .inl (.inr (.inr (.inr (.inr ⟨x,List.mem_of_mem_eraseIdx hx,q⟩))))
  ·exact .inr q)
 have ts:=j.out.size;refine⟨rfl,s,⟨m.g,a.out.2.2.2.2.2.2.1,hC.out⟩,G5,k1,λq p=>?_,⟨o.os.trans j.out.os,o.tape.trans j.out.tape,o.output.trans j.out.output,Nat.le_trans ts o.size,λq p z=>?_⟩⟩
 ·rcases k2 q p with r|r
  ·exact .inl (ab q r)
  ·exact .inr (by omega)
 ·exact(o.block q (by omega) (λr=>z (ab q r))).trans (j.out.block q p (λe=>z ((a.out.2.1 q).2 (.inl (e.elim .inl (λr=>.inr (.inr (.inr (.inl r)))))))))
theorem qty (w:World) (h:PW w b G W) (o:WfW W):
 Calls Tryz.prog 65 #[.pointer (some ⟨b,0,none⟩)] w λe w'=>e=.returned (.tuple #[])/\∃a,Hid (qc3 W a/\WfW a)/\qgq w b G a w':=by
 have p:Hid (PW w b G W/\WfW W):=⟨h,o⟩;clear h o;go_enter Tryz.func65,Tryz.ntmps65
 go_wp2_with fail
 go_loopg [2] (qqq W.net) (λk _ wr=>∃W1:WoS,qqq W1.net<=k/\Hid (WfW W1/\qgq w b G W1 wr/\∀a,qc3 W1 a->qc3 W a))
 case atStart=>exact⟨W,Nat.le_refl _,p.out.2,qgq.same p.out.1 (Below.refl _ _),λ_ h=>h⟩
 case round=>
  obtain⟨W1,K,c⟩:=hrel;obtain⟨B,d⟩:=c.out.2.1.get;obtain⟨M,L,d,C⟩:=d
  have t:M.l.length=W1.net.length:=by rw[<-d.nl];simp
  obtain⟨N,O,u,r⟩:=qan d.nr;have c2:=d.box.cell 2 _ rfl;rw[u]at c2;have P:=r.cap;have Q:=r.len;clear r u d C;by_cases j:W1.net=[]
  ·have q:¬0<(M.l.length:Int):=by rw[t,j];simp
   go_wp2_with fail
   go_end0;exact⟨rfl,W1,⟨c.out.2.2 W1 (.none j),c.out.1⟩,c.out.2.1⟩
  ·obtain⟨g,v⟩:∃g,W1.net[0]?=some g:=by
        cases hn:W1.net with
        |nil=>exact absurd hn j
        |cons x r=>exact⟨x,rfl⟩
   have q:0<(M.l.length:Int):=by
        have:W1.net.length≠0:=λe=>j (List.eq_nil_of_length_eq_zero e);omega
   have D:Hid (Calls Tryz.prog 47 #[.pointer (some ⟨b,0,none⟩),.int .i64 0] wr λe w'=>e=.returned (qa9 0)/\∃a,Hid (qcc W1 0 a)/\qgq w b G a w'):=by
        obtain⟨B,d,s1,y⟩:=c.out.2.1;refine(qog (i:=0) wr d c.out.1 v).mono λe w' ⟨E,a,m,n⟩=>⟨E,a,m,?_⟩;obtain⟨F,p1,p2,p3⟩:=n;have s:=y.size;refine⟨F,p1,λq H=>?_,y.more p3 s1⟩;rcases p2 q H with e|e
        ·exact s1 q e
        ·exact .inr (by omega)
   have I:Hid _:=j;clear t j v
   go_wp2_with fail
   refine D.out.mono ?_;rintro e R ⟨rfl,z,m,n⟩;rw[show qa9 0=.nilIface from rfl];have wt:=qiz c.out.1 m.out
   go_wp2_with fail
   go_roundg (qqq z.net)
   case measure=>omega
   case rel=>exact⟨z,Nat.le_refl _,c.out.1.deliver m.out,n,λa J=>c.out.2.2 a (.step I.out m.out J)⟩
end
section
structure qg6 (W W':WoS):Prop where
 n:W'.n=W.n
 c:W'.c=W.c
 wall:W'.wall=W.wall
 ses:W'.ses=W.ses
 at_:W'.at_=W.at_
theorem qg6.refl (W:WoS):qg6 W W:=⟨rfl,rfl,rfl,rfl,rfl⟩
theorem qg6.trans {A B C:WoS} (h:qg6 A B) (k:qg6 B C):qg6 A C:=⟨k.n.trans h.n,k.c.trans h.c,k.wall.trans h.wall,k.ses.trans h.ses,k.at_.trans h.at_⟩
variable {W W':WoS}
theorem qi9.keep (h:qi9 W W'):qg6 W W':=⟨h.n,h.c,h.wall,h.ses,h.at_⟩
theorem qg2.keep {g:GrS} (h:qg2 W g W'):qg6 W W':=by
 obtain⟨to,body⟩:=g;cases body with
 |tx t=>
  obtain⟨S',_,rfl⟩:=h;exact⟨rfl,rfl,rfl,rfl,rfl⟩
 |ask site v0 v1 v2 v3=>
  have a:if 0<=site/\site<(W.n:Int)then W'=qdb W to site.toNat v0 v1 v2 v3 else W'=W:=h
  split at a
  ·rw[a];have s:=qee site.toNat (qf0 (W.S to) v0 v1 v2 v3) (setSite W to (qbi (W.S to) site.toNat v0 v1 v2 v3));exact⟨s.n,s.c,s.wall,s.ses,s.at_⟩
  ·rw[a];exact qg6.refl W
theorem qcc.keep {i:Nat} (h:qcc W i W'):qg6 W W':=by
 obtain⟨g,_,h⟩:=h;have k:=h.keep;exact⟨k.n,k.c,k.wall,k.ses,k.at_⟩
theorem qc3.keep (h:qc3 W W'):qg6 W W':=by
 induction h with
 |none _=>exact qg6.refl _
 |step _ h _ ih=>exact h.keep.trans ih
variable {m:Nat}
theorem qga.keep {k:Nat} (h:qga k m W W'):qg6 W W':=by
 induction h with
 |zero=>exact qg6.refl _
 |self _ _ ih=>exact ih
 |ask _ _ h ih=>exact(ih.trans (qbv _ _).keep).trans h.keep
theorem qfc.keep (h:qfc m W W'):qg6 W W':=by
 induction h with
 |zero=>exact qg6.refl _
 |next _ h ih=>exact ih.trans h.keep
theorem qk3.keep (h:qk3 W W'):qg6 W W':=by
 obtain⟨W1,a,c⟩:=h;exact a.keep.trans c.keep
variable {b:Nat} {G:Nat->Prop}
theorem PW.len0 {w:World} (h:PW w b G W):∃a cap,w.cell? ⟨b,0,none⟩=some (.slice a W.n cap):=by
 obtain⟨M,g,h,_⟩:=h;obtain⟨d,e,f,r⟩:=qan h.pr;have c:=h.box.cell 0 _ rfl;rw[f]at c;exact⟨d,e,c⟩
theorem q4d (w:World) (h:PW w b G W) (u:WfW W):
 Calls Tryz.prog 23 #[.pointer (some ⟨b,0,none⟩)] w λe w'=>e=.returned (.tuple #[])/\∃W',Hid (qk3 W W'/\WfW W')/\qgq w b G W' w':=by
 have L:=qty w h u;have M:Hid (W.n<=4):=u.n4;clear h u;go_enter Tryz.func23,Tryz.ntmps23
 go_wp2_with fail
 refine L.mono ?_;rintro e Z ⟨rfl,W1,v,j⟩;have x:Hid (qgq w b G W1 Z):=j;obtain⟨G1,N⟩:=x.out.get;obtain⟨pa,pc,c0⟩:=N.len0;have B:W1.n=W.n:=v.out.1.keep.n;rw[B]at c0;have O:Hid (W1.n=W.n):=B;clear L j B N
 go_wp2_with fail
 clear c0
 go_loopw [11] (λiv wr=>∃(k:Nat) (z:Int) (g:WoS),k<=W.n/\z=k/\iv=.int .i64 z/\Hid (WfW g/\g.n=W.n/\qfc k W1 g/\qgq w b G g wr)) (λiv _=>W.n-(intOf iv).toNat)
 case atStart=>exact⟨0,0,W1,by omega,rfl,rfl,v.out.2,O.out,.zero,x.out⟩
 case round=>
  clear x;obtain⟨k,z,g,hk,C,rfl,d⟩:=hrel;have l:Hid (z=k):=C;by_cases P:k<W.n
  ·have g1:z<(W.n:Int):=by omega
   have g3:0<=z:=by omega
   have g4:z<4:=by have:=M.out;omega
   obtain⟨G2,Q⟩:=d.out.2.2.2.get;obtain⟨pa2,pc2,c0⟩:=Q.len0;rw[d.out.2.1]at c0;clear C Q
   go_wp2_with fail
   clear c0
   go_loopw [19] (λD wr=>∃(m:Nat) (y:Int) (c:WoS),m<=W.n/\y=m/\D=.int .i64 y/\Hid (WfW c/\c.n=W.n/\qga k m g c/\qgq w b G c wr)) (λD _=>W.n-(intOf D).toNat)
   case atStart=>exact⟨0,0,g,by omega,rfl,rfl,d.out.1,d.out.2.1,.zero,d.out.2.2.2⟩
   case round=>
        obtain⟨m,y,c,hm,r,rfl,a⟩:=hrel;have p:Hid (y=m):=r;by_cases R:m<W.n
        ·have f1:y<(W.n:Int):=by omega
         have f3:0<=y:=by omega
         have f4:y<4:=by have:=M.out;omega
         by_cases t:m=k
         ·have f5:y=z:=by have:=l.out;omega
          clear r
          go_wp2_with fail
          go_roundw
          case rel=>exact⟨m+1,y+1,c,by omega,by have:=p.out;omega,by go_num,a.out.1,a.out.2.1,.self a.out.2.2.1 t,a.out.2.2.2⟩
          case measure=>simp[intOf];have:=p.out;omega
         ·have f5:¬y=z:=by have:=l.out;omega
          have S:Hid (Calls Tryz.prog 44 #[.pointer (some ⟨b,0,none⟩),.int .i64 z,.int .i64 y] wr λe w'=>e=.returned (qa9 0)/\qgq w b G (quu c k m) w'):=by
           obtain⟨G3,P3,s3,T⟩:=a.out.2.2.2;have:=q22 wr P3 a.out.1 (i:=k) (o:=m) (by rw[a.out.2.1];exact P) (by rw[a.out.2.1];exact R) (λe=>t e.symm);rw[<-l.out,<-p.out]at this;refine this.mono λe w' ⟨E,j⟩=>⟨E,?_⟩;obtain⟨F,p1,p2,p3⟩:=j;have s:=T.size;refine⟨F,p1,λq H=>?_,T.more p3 s3⟩;rcases p2 q H with e|e
           ·exact s3 q e
           ·exact .inr (by omega)
          have U:Hid (m≠k/\k<W.n/\m<W.n):=⟨t,P,R⟩;clear r t
          go_wp2_with fail
          refine S.out.mono ?_;rintro e V ⟨rfl,hP4⟩;rw[show qa9 0=.nilIface from rfl];have X:WfW (quu c k m):=a.out.1.send (by show m<c.n;rw[a.out.2.1];exact U.out.2.2);obtain⟨G4,Y,I,J⟩:=hP4
          have BR2:Hid (Calls Tryz.prog 65 #[.pointer (some ⟨b,0,none⟩)] V λe w'=>e=.returned (.tuple #[])/\∃W',Hid (qc3 (quu c k m) W'/\WfW W')/\qgq w b G W' w'):=(qty V Y X).mono λe w' ⟨E,W',hB,j⟩=>⟨E,W',hB,by
           obtain⟨F,p1,p2,p3⟩:=j;have s:=J.size;refine⟨F,p1,λq H=>?_,J.more p3 I⟩;rcases p2 q H with e|e
           ·exact I q e
           ·exact .inr (by omega)⟩
          clear S Y I J X
          go_wp2_with fail
          refine BR2.out.mono ?_;rintro e w5 ⟨rfl,W5,K,hP5⟩
          go_wp2_with fail
          go_roundw
          case rel=>exact⟨m+1,y+1,W5,by omega,by have:=p.out;omega,by go_num,K.out.2,(K.out.1.keep.n.trans (qbv _ _).n).trans a.out.2.1,.ask a.out.2.2.1 U.out.1 K.out.1,hP5⟩
          case measure=>simp[intOf];have:=p.out;omega
        ·have f1:¬y<(W.n:Int):=by omega
         have e:m=W.n:=by omega
         clear r
         go_wp2_with fail
         go_roundw
         case rel=>exact⟨k+1,z+1,c,by omega,by have:=l.out;omega,by go_num,a.out.1,a.out.2.1,.next d.out.2.2.1 (by rw[d.out.2.1,<-e];exact a.out.2.2.1),a.out.2.2.2⟩
         case measure=>simp[intOf];have:=l.out;omega
  ·have g1:¬z<(W.n:Int):=by omega
   have e:k=W.n:=by omega
   clear C
   go_wp2_with fail
   go_end0;exact⟨rfl,g,⟨⟨W1,v.out.1,by rw[O.out,<-e];exact d.out.2.2.1⟩,d.out.1⟩,d.out.2.2.2⟩
end
theorem ql9 (bp:Nat->Nat) (x:Nat->Int) (n:Nat):qci bp x (n+1)=qci bp x n++qy4 (bp n) (x n):=by
 unfold qci;rw[List.range_succ,List.flatMap_append];simp
theorem qkm (bp:Nat->Nat) (x:Nat->Int) (y:Int) {i:Nat}:∀n,i<n->(qci bp x n).set (i*2+1) (.int .i64 y)=qci bp (qb2 x i y) n
 |0,h=>by omega
 |n+1,h=>by
  rw[ql9,ql9];have a:=qj2 bp x n;by_cases q:i=n
  ·subst q;rw[List.set_append,if_neg (by rw[a];omega),a,qal]
   have e:qci bp (qb2 x i y) i=qci bp x i:=by
    unfold qci;rw[List.flatMap_def,List.flatMap_def]
    congr 1
    refine List.map_congr_left (λj c=>?_);have:=List.mem_range.1 c;rw[qbq _ _ (by omega)]
   rw[e,show i*2+1-i*2=1 by omega];rfl
  ·rw[List.set_append,if_pos (by rw[a];omega),qkm bp x y n (by omega),qbq _ _ (λe=>q e.symm)]
section
variable {w:World} {b cb cc i:Nat} {M:WoM} {W:WoS} {Gs:Nat->Nat->Prop}
theorem PWo.setAt (h:PWo w b M W Gs) (l:M.cv=.slice (some ⟨cb,0,none⟩) W.c cc) (n:i<W.c) (to:Nat):PWo (w.setCell ⟨cb,i*2+1,none⟩ (.int .i64 to)) b M {W with at_:=qb2 W.at_ i to} Gs/\qae (λk=>k=cb) w (w.setCell ⟨cb,i*2+1,none⟩ (.int .i64 to)):=by
 have a:M.cv.ownBlock=some cb:=by rw[l];rfl
 have d:∀k,k≠cb->(w.setCell ⟨cb,i*2+1,none⟩ (.int .i64 to)).heap[k]?=w.heap[k]?:=λk f=>Below.heap_setCell _ _ _ _ (λe=>f e)
 have g:(w.setCell ⟨cb,i*2+1,none⟩ (.int .i64 to)).heap.size=w.heap.size:=by simp[World.setCell]
 refine⟨⟨h.box.kept (d b (λe=>h.sb.2.1 (by rw[a,e]))) (by rw[g];exact Nat.le_refl _),qad h.pr (λk e=>d k (λq=>((h.sr k).1 e).1 (by rw[a,q]))),?_,qad h.nr (λk e=>d k (λq=>(h.sr k).2 (by rw[a,q]) e)),h.nl,λx m=>(h.gr x m).kept (d _ (λq=>(h.sg x m).2.2.1 (by rw[a,q]))) (by rw[g];exact Nat.le_refl _),h.fam.to (λj k p e=>d k (λq=>(h.fam.free k (.inr (.inr (.inl (by rw[a,q]))))).2 j p e)) (by rw[g];exact Nat.le_refl _) (λk f=>⟨.inl f,by rw[g];exact h.ltF k f⟩),h.sb,h.sr,h.sg⟩,qae.setCell _ _ _ rfl⟩;have o:=h.cr;rw[l]at o ⊢;have s:=(o.stored (i*2+1) (.int .i64 to)).1;rw[qkm _ _ _ _ n]at s
 have e:(λk=>((qb2 W.at_ i to k:Nat):Int))=qb2 (λk=>(W.at_ k:Int)) i (to:Int):=by
  funext k
  unfold qb2
  split<;>rfl
 show World.ownsRow _ 0 _ 2 _ W.c (qci M.bs (λk=>((qb2 W.at_ i to k:Nat):Int)) W.c);rw[e];exact s
theorem PWo.setWall (h:PWo w b M W Gs) (g:M.pv=.slice (some ⟨cb,0,none⟩) W.n cc) (m:i<W.n) (x:Int):PWo (w.setCell ⟨cb,i*2+1,none⟩ (.int .i64 x)) b M {W with wall:=qb2 W.wall i x} Gs/\qae (λk=>k=cb) w (w.setCell ⟨cb,i*2+1,none⟩ (.int .i64 x)):=by
 have a:M.pv.ownBlock=some cb:=by rw[g];rfl
 have c:∀k,k≠cb->(w.setCell ⟨cb,i*2+1,none⟩ (.int .i64 x)).heap[k]?=w.heap[k]?:=λk d=>Below.heap_setCell _ _ _ _ (λe=>d e)
 have f:(w.setCell ⟨cb,i*2+1,none⟩ (.int .i64 x)).heap.size=w.heap.size:=by simp[World.setCell]
 refine⟨⟨h.box.kept (c b (λe=>h.sb.1 (by rw[a,e]))) (by rw[f];exact Nat.le_refl _),?_,qad h.cr (λk e=>c k (λq=>((h.sr cb).1 a).1 (by rw[<-q];exact e))),qad h.nr (λk e=>c k (λq=>((h.sr cb).1 a).2 (by rw[<-q];exact e))),h.nl,λx l=>(h.gr x l).kept (c _ (λq=>(h.sg x l).2.1 (by rw[a,q]))) (by rw[f];exact Nat.le_refl _),h.fam.to (λj k p e=>c k (λq=>(h.fam.free k (.inr (.inl (by rw[a,q])))).2 j p e)) (by rw[f];exact Nat.le_refl _) (λk d=>⟨.inl d,by rw[f];exact h.ltF k d⟩),h.sb,h.sr,h.sg⟩,qae.setCell _ _ _ rfl⟩;have o:=h.pr;rw[g]at o ⊢;have s:=(o.stored (i*2+1) (.int .i64 x)).1;rw[qkm _ _ _ _ m]at s;exact s
end
def qo5 (W:WoS) (i:Nat):Int:=if (W.ses i).opn=true then 6 else 0
def qjz (W:WoS) (i to:Nat):WoS:=if (W.ses i).opn=true then W else {W with at_:=qb2 W.at_ i to}
variable {i:Nat}
theorem qw5 {b:Nat} {G:Nat->Prop} {W:WoS} (w:World) (h:PW w b G W) {to:Nat} (z:i<W.c) (O:to<W.n):
 Calls Tryz.prog 41 #[.pointer (some ⟨b,0,none⟩),.int .i64 i,.int .i64 to] w λe w'=>e=.returned (qa9 (qo5 W i))/\qgq w b G (qjz W i to) w':=by
 obtain⟨M,Gs,h,F⟩:=h;obtain⟨P,cc,B,r⟩:=qan h.cr
 obtain⟨cb,rfl,T,C⟩:∃g,P=some ⟨g,0,none⟩/\g<w.heap.size/\∀j u,(qci M.bs (λk=>(W.at_ k:Int)) W.c)[j]?=some u->w.cell? ⟨g,j,none⟩=some u:=by
  rcases r.held with K|K
  ·omega
  ·exact K
 have c1:=h.box.cell 1 _ rfl;rw[B]at c1;obtain⟨U,V,c0,X,Y,Z,y1⟩:=h.place O;have x0:=C _ _ (qeu z).1;have x1:=C _ _ (qeu z).2;have D:=qa7 (k:=i) (v:=true) w c1 (by simp;omega);have E:=qbd (k:=to) (v:=true) w c0 (by simp;omega);have x:=ql0 w (h.sess z);have hlt:=h.box.lt;have l:Hid (PWo w b M W Gs/\(∀k,G k↔qj4 b M (W.n+W.c) Gs k)/\M.cv=.slice (some ⟨cb,0,none⟩) W.c cc/\i<W.c):=⟨h,F,B,z⟩
 have o:(i:Int)<(W.c:Int):=by omega
 have hrl:=r.len;cases ho:(W.ses i).opn
 ·have y:Hid (qa9 (qo5 W i)=.nilIface/\qjz W i to={W with at_:=qb2 W.at_ i to}):=⟨by unfold qo5;rw[ho];rfl,by unfold qjz;rw[ho];rfl⟩;rw[ho]at x;clear h F C r B ho;go_enter Tryz.func41,Tryz.ntmps41
  go_wp2_with fail
  refine D.mono ?_;rintro e w2 ⟨rfl,a⟩;have m:=a.symm;clear a D;subst m
  go_wp2_with fail
  refine E.mono ?_;rintro e w2 ⟨rfl,a⟩;have m:=a.symm;clear a E;subst m
  go_wp2_with fail
  refine x.mono ?_;rintro e p ⟨rfl,s⟩;have H:=l.out.1.later s;have I:=H.cr;rw[l.out.2.2.1]at I;have z1:=cell_later s c1;have z2:=cell_later s x1
  have fz:p.frozen? ⟨cb,i*2+1,none⟩=false:=by
   rcases I.2 with ⟨q,_⟩|⟨g2,cap2,cur,q,_,Q,_⟩
   ·cases q
   ·injection q with o q2 q3;injection o with o;injection o with o;subst o;unfold World.frozen?;rw[Q];simp
  obtain⟨L,N⟩:=H.setAt l.out.2.2.1 l.out.2.2.2 to;have d:Hid (PWo (p.setCell ⟨cb,i*2+1,none⟩ (.int .i64 to)) b M {W with at_:=qb2 W.at_ i to} Gs/\qae (λk=>k=cb) p (p.setCell ⟨cb,i*2+1,none⟩ (.int .i64 to))/\Below w.heap.size w p):=⟨L,N,s⟩;clear x H L N I
  go_wp2_with fail
  go_ret;refine⟨by rw[y.out.1];rfl,?_⟩;rw[y.out.2]
  have R:M.cv.ownBlock=some cb:=by rw[l.out.2.2.1];rfl
  have s3:=d.out.2.2.size;refine⟨_,⟨M,Gs,d.out.1,λ_=>Iff.rfl⟩,λk J=>.inl ((l.out.2.1 k).2 J),?_⟩;exact⟨d.out.2.1.os.trans d.out.2.2.os,d.out.2.1.tape.trans d.out.2.2.tape,d.out.2.1.output.trans d.out.2.2.output,Nat.le_trans s3 d.out.2.1.size,λk J S=>(d.out.2.1.block k (by omega) (λe=>S ((l.out.2.1 k).2 (.inl (.inr (.inr (.inl (by rw[R,e])))))))).trans (d.out.2.2.block k J)⟩
 ·have y:Hid (qa9 (qo5 W i)=.iface 29 (.int .i64 6)/\qjz W i to=W):=⟨by unfold qo5;rw[ho];rfl,by unfold qjz;rw[ho];rfl⟩;rw[ho]at x;clear h F C r B ho;go_enter Tryz.func41,Tryz.ntmps41
  go_wp2_with fail
  refine D.mono ?_;rintro e w2 ⟨rfl,a⟩;have m:=a.symm;clear a D;subst m
  go_wp2_with fail
  refine E.mono ?_;rintro e w2 ⟨rfl,a⟩;have m:=a.symm;clear a E;subst m
  go_wp2_with fail
  refine x.mono ?_;rintro e p ⟨rfl,s⟩
  go_wp2_with fail
  go_ret;refine⟨by rw[y.out.1];rfl,?_⟩;rw[y.out.2];exact qgq.same ⟨M,Gs,l.out.1,l.out.2.1⟩ s
end Go.Proofs.YtemiamjnhoeniaaGreatDoor
