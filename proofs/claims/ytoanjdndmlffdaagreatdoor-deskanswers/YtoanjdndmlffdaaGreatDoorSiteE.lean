import Derived.Test.YtoanjdndmlffdaaGreatDoorSiteD
set_option maxHeartbeats 8000000
set_option maxRecDepth 100000
namespace Go.Proofs.YtoanjdndmlffdaaGreatDoor
open Go.RowKit
section
open Tryz
structure WfW (W:WoS):Prop where
 n1:1<=W.n
 n4:W.n<=4
 c6:W.c<=6
 at_:∀k,k<W.c->W.at_ k<W.n
 inv:∀i,i<W.n->j3 (W.S i)
 id:∀i,i<W.n->(W.S i).id=(i:Int)
 net:W.net.length<=300
 wt:∀i,i<W.n->(W.S i).waits.length<=40
 lok:∀i,i<W.n->∀x∈(W.S i).log,okT x=true
 tj:∀g∈W.net,g.tj<W.n
variable {i:Nat}
section
variable {w:World} {b:Nat} {G:Nat->Prop} {M:WoM} {W:WoS} {Gs:Nat->Nat->Prop}
theorem PWo.client (h:PWo w b M W Gs) (hi:i<W.c):∃cb d,w.cell? (AD b 1)=some (.slice (PT cb) W.c d)/\W.c<=d/\cb<w.heap.size/\w.cell? (AD cb (i*2))=some (PP (M.bs i))/\w.cell? (AD cb (i*2+1))=some (U (W.at_ i)):=by
 obtain⟨a,cap,e,r⟩:=qq h.cr;rcases r.held with l|⟨g,rfl,j,f⟩
 ·omega
 have k:=h.box.c 1;rw[e]at k;exact⟨g,cap,k,r.len,j,f _ _ (qea hi).1,f _ _ (qea hi).2⟩
theorem PWo.place (h:PWo w b M W Gs) (hi:i<W.n):∃d f,w.cell? (AD b 0)=some (.slice (PT d) W.n f)/\W.n<=f/\d<w.heap.size/\w.cell? (AD d (i*2))=some (PP (M.bp i))/\w.cell? (AD d (i*2+1))=some (U (W.wall i)):=by
 obtain⟨a,cap,e,r⟩:=qq h.pr;rcases r.held with m|⟨g,rfl,l,j⟩
 ·omega
 have k:=h.box.c 0;rw[e]at k;exact⟨g,cap,k,r.len,l,j _ _ (qea hi).1,j _ _ (qea hi).2⟩
end
variable {b n:Nat} {a:Option Addr} {k:Int} {v:Bool}
theorem yi {cap:Nat} (w:World) (c:w.cell? (AD b 0)=some (.slice a n cap)) (h:(decide (0<=k)&&decide (k<(n:Int)))=v):
 Ca 141 #[PP b,U k] w λe w'=>e=.returned (.bool v)/\w'=w:=by
 by_cases d:0<=k;by_cases f:k<(n:Int)
 have e:v=true:=by rw[<-h];simp[d,f]
 rotate_left
 have e:v=false:=by rw[<-h];simp[f]
 rotate_left
 have e:v=false:=by rw[<-h];simp[d]
 all_goals
  subst e;clear h;go_enter func141,ntmps141
  go_wp2_with fail
  go_ret;exact⟨rfl,rfl⟩
theorem yf {cap:Nat} (w:World) (c:w.cell? (AD b 1)=some (.slice a n cap)) (h:(decide (0<=k)&&decide (k<(n:Int)))=v):
 Ca 138 #[PP b,U k] w λe w'=>e=.returned (.bool v)/\w'=w:=by
 by_cases d:0<=k;by_cases f:k<(n:Int)
 have e:v=true:=by rw[<-h];simp[d,f]
 rotate_left
 have e:v=false:=by rw[<-h];simp[f]
 rotate_left
 have e:v=false:=by rw[<-h];simp[d]
 all_goals
  subst e;clear h;go_enter func138,ntmps138
  go_wp2_with fail
  go_ret;exact⟨rfl,rfl⟩
theorem qey {cap:Nat} (w:World) (c:w.cell? (AD b 2)=some (.slice a n cap)) (h:(decide (0<=k)&&decide (k<(n:Int)))=v):
 Ca 152 #[PP b,U k] w λe w'=>e=.returned (.bool v)/\w'=w:=by
 by_cases d:0<=k;by_cases f:k<(n:Int)
 have e:v=true:=by rw[<-h];simp[d,f]
 rotate_left
 have e:v=false:=by rw[<-h];simp[f]
 rotate_left
 have e:v=false:=by rw[<-h];simp[d]
 all_goals
  subst e;clear h;go_enter func152,ntmps152
  go_wp2_with fail
  go_ret;exact⟨rfl,rfl⟩
variable {G:Nat->Prop} {W:WoS}
theorem q4w (w:World) (h:PW w b G W) (d:WfW W) (hi:i<W.c):
 Ca 98 #[PP b,U i] w λe w'=>e=.returned (jc (qhl (W.S (W.at_ i)) (W.ses i)))/\vh w b G (vf W i (qhd (W.S (W.at_ i)) (W.ses i))) w':=by
 obtain⟨M,Gs,h,g⟩:=h;have j:=hd2 h g;obtain⟨cb,t,o,u,x,x0,x1⟩:=h.client hi;obtain⟨y,z,B,C,D,E,F⟩:=h.place (d.at_ i hi);have H:=h.box.lt;have l:=yf (k:=i) (v:=true) w o (by simp;omega);have f:=(boxed (jcc _ w) (.cells #[PP (M.bs i),U (W.at_ i)] 171)).drew;have p:=hd1 (qyu _ ((h.sess hi).later f) ((h.site (d.at_ i hi)).later f))
 have I:(i:Int)<(W.c:Int):=by omega
 have J:(W.at_ i:Int)<(W.n:Int):=by have:=d.at_ i hi;omega
 clear h g d;go_enter func98,ntmps98
 go_wp2_with fail
 refine l.mono ?_;rintro e w2 ⟨rfl,m⟩;have q:=m.symm;clear m l;subst q
 go_wp2_with fail
 go_region_law (refine je rfl 145 #[PP (M.bs i),.pointer (some (AD (M.bp (W.at_ i)) 0))] (by go_simp) p.out ?_
                rintro e K ⟨rfl,r⟩
                refine⟨_,rfl,?_⟩)
 all_goals
  go_wp2_with fail
  go_ret;exact⟨rfl,j.out.1.stepC j.out.2 hi (qc8.trans (λk s=>.inl s) (qc.ofBelow f) r)⟩
theorem q7w (key:Int) (l:(Lit.int .i64 key).wf=true) (w:World) (h:PW w b G W) (d:WfW W) (hi:i<W.c):
 Ca 113 #[PP b,U i,U key] w λe w'=>e=.returned (.tuple #[.string (vi (W.S (W.at_ i)) (W.ses i) key).1,jc (vi (W.S (W.at_ i)) (W.ses i) key).2])/\Bw w w':=by
 obtain⟨M,Gs,h,m⟩:=h;obtain⟨cb,s,o,t,u,x0,x1⟩:=h.client hi;obtain⟨x,y,z,B,C,D,E⟩:=h.place (d.at_ i hi);have F:=h.box.lt;have g:=yf (k:=i) (v:=true) w o (by simp;omega);have f:=(boxed (jcc _ w) (.cells #[PP (M.bs i),U (W.at_ i)] 171)).drew;have p:=hd1 (qxe key l _ ((h.sess hi).later f) ((h.site (d.at_ i hi)).later f) (d.inv _ (d.at_ i hi)))
 have H:(i:Int)<(W.c:Int):=by omega
 have I:(W.at_ i:Int)<(W.n:Int):=by have:=d.at_ i hi;omega
 clear h m d;go_enter func113,ntmps113
 go_wp2_with fail
 refine g.mono ?_;rintro e w2 ⟨rfl,j⟩;have q:=j.symm;clear j g;subst q
 go_wp2_with fail
 go_region_law (refine je rfl 158 #[PP (M.bs i),.pointer (some (AD (M.bp (W.at_ i)) 0)),U key] (by go_simp) p.out ?_
                rintro e J ⟨rfl,r⟩
                refine⟨_,rfl,?_⟩)
 all_goals
  go_wp2_with fail
  go_ret2;exact⟨rfl,qa f r⟩
theorem qv8 (d:Int) (f:ByteArray) (g:Bool) (w:World) (h:PW w b G W) (hi:i<W.c):
 Ca 105 #[PP b,U i,.agg #[U d,.string f,.bool g]] w λe w'=>e=.returned (jc (qaj (W.ses i) ⟨d,f,g⟩))/\vh w b G (vf W i (qd2 (W.ses i) ⟨d,f,g⟩)) w':=by
 obtain⟨M,Gs,h,j⟩:=h;have l:=hd2 h j;obtain⟨cb,y,r,z,B,x0,x1⟩:=h.client hi;have C:=h.box.lt;have m:=boxed (jcc _ w) (.cells #[U d,.string f,.bool g] 100);have o:=yf (k:=i) (v:=true) (w.alloc (.cells #[U d,.string f,.bool g] 100)) (cell_later m r) (by simp;omega);have p:=m.drew;have s:Hid (Ca 155 #[PP (M.bs i),.agg #[U d,.string f,.bool g]] (w.alloc (.cells #[U d,.string f,.bool g] 100)).drew λe w'=>e=.returned (jc (qaj (W.ses i) ⟨d,f,g⟩))/\qc8 (w.alloc (.cells #[U d,.string f,.bool g] 100)).drew (M.bs i) (Gs (W.n+i)) (qd2 (W.ses i) ⟨d,f,g⟩) w'):=qxg ⟨d,f,g⟩ _ ((h.sess hi).later p)
 have D:(i:Int)<(W.c:Int):=by omega
 clear h j;go_enter func105,ntmps105
 go_wp2_with fail
 refine o.mono ?_;rintro e w2 ⟨rfl,q⟩;have t:=q.symm;clear q o;subst t
 go_wp2_with fail
 go_region_law (refine je rfl 155 #[PP (M.bs i),.agg #[U d,.string f,.bool g]] (by go_simp) s.out ?_
                rintro e E ⟨rfl,u⟩
                refine⟨_,rfl,?_⟩)
 all_goals
  go_wp2_with fail
  go_ret;exact⟨rfl,l.out.1.stepC l.out.2 hi (qc8.trans (λk x=>.inl x) (qc.ofBelow p) u)⟩
theorem q36 (w:World) (h:PW w b G W) (hi:i<W.c):
 Ca 94 #[PP b,U i] w λe w'=>e=.returned (jc (qi5 (W.ses i)))/\vh w b G (vf W i (qhh (W.ses i))) w':=by
 obtain⟨M,Gs,h,d⟩:=h;have f:=hd2 h d;obtain⟨cb,q,l,r,s,x0,x1⟩:=h.client hi;have t:=h.box.lt;have g:=yf (k:=i) (v:=true) w l (by simp;omega);have m:=qw7 w (h.sess hi)
 have u:(i:Int)<(W.c:Int):=by omega
 clear h d;go_enter func94,ntmps94
 go_wp2_with fail
 refine g.mono ?_;rintro e w2 ⟨rfl,j⟩;have o:=j.symm;clear j g;subst o
 go_wp2_with fail
 refine m.mono ?_;rintro e x ⟨rfl,p⟩
 go_wp2_with fail
 go_ret;exact⟨rfl,f.out.1.stepC f.out.2 hi p⟩
theorem q81 (w:World) (h:PW w b G W):
 Ca 110 #[PP b] w λe w'=>e=.returned (U W.net.length)/\w'=w:=by
 obtain⟨M,Gs,h,g⟩:=h
 have d:M.l.length=W.net.length:=by rw[<-h.nl];simp
 obtain⟨m,o,f,r⟩:=qq h.nr;have j:=h.box.c 2;rw[f,d]at j;clear h g f r d;go_enter func110,ntmps110
 go_wp2_with fail
 go_ret;exact⟨rfl,rfl⟩
end
section
variable {S S':qe}
theorem qfm.few (h:qfm S S'):S'.waits.length<=S.waits.length:=h.log.2
theorem qfm.keepid (h:qfm S S'):S'.id=S.id:=by
 induction h with
 |full _=>rfl
 |none _=>rfl
 |step _ _ _ ih=>exact ih
theorem qfm.lok (h:qfm S S'):(∀x∈S.log,okT x=true)->(∀x∈S.waits,okT x=true)->∀x∈S'.log,okT x=true:=by
 induction h with
 |full _=>exact λh _=>h
 |none _=>exact λh _=>h
 |@step S S' x h1 h2 _ ih=>
  intro c b;refine ih (λy a=>?_) (λy a=>b y (qrh.1 a).1);rcases jcf.1 (show y∈S.log++[x]from a)with e|e
  ·exact c y e
  rw[jcj.1 e];exact b x (qj8 h2).1
variable {t:TxP}
theorem qy7 (b:t∈S.waits) (a:0<=t.site/\t.site<=3) (c:qz S t=true):qd7 S≠none:=λe=>by
 have:=qyy e t b a.1 a.2;rw[c]at this;cases this
theorem zu.few (h:zu S t S') (d:j3 S) (f:S.waits.length<=40):S'.waits.length<=40:=by
 rcases h with ⟨_,rfl⟩|⟨e,b⟩
 ·exact f
 obtain⟨p1,p2,p3,c,l⟩:=qf6 e;by_cases m:S.waits.length<40
 ·have:=b.few;simp at this;omega
 have a:qz S t=true:=by
  unfold jf at e
  rw[if_neg (by rw[p1];decide),if_neg p2,if_neg p3,if_neg (by
   intro q;obtain⟨x,j,hi⟩:=List.any_eq_true.1 q;rw[c x j]at hi
   cases hi),if_neg (by omega)]at e
  by_cases q:40<=S.waits.length/\qz S t=false
  ·rw[if_pos q]at e;omega
  cases a:qz S t with
  |true=>rfl
  |false=>exact absurd ⟨by omega,a⟩ q
 have k:=(qcg p1).1;cases b with
 |full hf=>exact absurd hf (by show ¬200<=S.log.length;omega)
 |none hn=>exact absurd hn (qy7 (S:={S with waits:=S.waits++[t]}) (jcf.2 (.inr (jcj.2 rfl))) k a)
 |@step _ _ x h1 h2 h3=>
  have l1:=h3.few;have n:=qf5 (d.nums.snoc c) (qj8 h2).1
  have p:(S.waits++[t]).length=S.waits.length+1:=by simp
  have r:(qj5 {S with waits:=S.waits++[t]} x).waits.length=(qdv (S.waits++[t]) x).length:=rfl;omega
theorem zu.keepid (h:zu S t S'):S'.id=S.id:=by
 rcases h with ⟨_,rfl⟩|⟨_,a⟩
 ·rfl
 exact a.keepid
theorem zu.lok (h:zu S t S') (b:j3 S) (a:∀x∈S.log,okT x=true):∀x∈S'.log,okT x=true:=by
 rcases h with ⟨_,rfl⟩|⟨e,c⟩
 ·exact a
 obtain⟨p1,_⟩:=qf6 e;refine c.lok a (λx d=>?_);rcases jcf.1 (show x∈S.waits++[t]from d)with q|q
 ·exact(b.wt x q).1
 rw[jcj.1 q];exact p1
variable {i o:Nat}
section
variable {W W':WoS} {g:GrS}
theorem WfW.setSite (h:WfW W) (b:j3 S') (c:S'.id=(i:Int)) (d:S'.waits.length<=40) (e:∀x∈S'.log,okT x=true):WfW (setSite W i S'):=by
 refine⟨h.n1,h.n4,h.c6,h.at_,λj a=>?_,λj a=>?_,h.net,λj a=>?_,λj a=>?_,h.tj⟩<;>show _<;>by_cases q:j=i
 ·subst q;show j3 (jj W.S j S' j);rw[qt];exact b
 ·show j3 (jj W.S i S' j);rw[yq _ _ q];exact h.inv j a
 ·subst q;show (jj W.S j S' j).id=_;rw[qt];exact c
 ·show (jj W.S i S' j).id=_;rw[yq _ _ q];exact h.id j a
 ·subst q;show (jj W.S j S' j).waits.length<=40;rw[qt];exact d
 ·show (jj W.S i S' j).waits.length<=40;rw[yq _ _ q];exact h.wt j a
 ·subst q;show ∀x∈(jj W.S j S' j).log,_;rw[qt];exact e
 show ∀x∈(jj W.S i S' j).log,_;rw[yq _ _ q];exact h.lok j a
theorem WfW.send (h:WfW W) (a:g.tj<W.n):WfW (zk W g):=by
 have s:=yb W g;refine⟨by rw[s.n];exact h.n1,by rw[s.n];exact h.n4,by rw[s.c];exact h.c6,by rw[s.n,s.c,s.at_];exact h.at_,by rw[s.n,s.S];exact h.inv,by rw[s.n,s.S];exact h.id,?_,by rw[s.n,s.S];exact h.wt,by rw[s.n,s.S];exact h.lok,λx b=>?_⟩
 ·unfold zk;split
  ·exact h.net
  show (W.net++[g]).length<=300;simp;omega
 rw[s.n];rcases qke b with q|q
 ·exact h.tj x q
 rw[q];exact a
theorem WfW.sends:∀(l:List TxP) (W:WoS),WfW W->o<W.n->WfW (zl o l W)
 |[],_,h,_=>h
 |t::l,W,h,ho=>by
  unfold zl;split
  ·exact WfW.sends l W h ho
  exact WfW.sends l _ (h.send ho) (by rw[(yb W ⟨o,.tx t⟩).n];exact ho)
theorem WfW.tell:∀(k:Nat) (W:WoS),WfW W->k<=W.n->WfW (qam t k W)
 |0,_,h,_=>h
 |k+1,W,h,hk=>by
  unfold qam;split
  ·exact WfW.tell k W h (by omega)
  exact(WfW.tell k W h (by omega)).send (by rw[(zx t k W).n];show k<W.n;omega)
theorem WfW.answer (h:WfW W) (hi:i<W.n) (a:o<W.n) (b c d e:Int):WfW (qbc W i o b c d e):=
 WfW.sends _ _ (h.setSite ((h.inv i hi).knows _) (h.id i hi) (h.wt i hi) (h.lok i hi)) a
theorem WfW.drop (h:WfW W) (i:Nat):WfW (qai W i):=
 ⟨h.n1,h.n4,h.c6,h.at_,h.inv,h.id,jcn (List.eraseIdx_sublist W.net i).length_le h.net,h.wt,h.lok,λx a=>h.tj x (jdn a)⟩
theorem WfW.come (h:WfW W) (a:g.tj<W.n) (e:qeo W g W'):WfW W':=by
 obtain⟨b,f⟩:=g;cases f with
 |tx t=>
  obtain⟨S',c,rfl⟩:=e;exact h.setSite (c.inv (h.inv b a)) (c.keepid.trans (h.id b a)) (c.few (h.inv b a) (h.wt b a)) (c.lok (h.inv b a) (h.lok b a))
 |ask site v0 v1 v2 v3=>
  have d:if 0<=site/\site<(W.n:Int)then W'=qbc W b site.toNat v0 v1 v2 v3 else W'=W:=e
  by_cases q:0<=site/\site<(W.n:Int)
  ·rw[if_pos q]at d;rw[d];exact h.answer a (by omega) v0 v1 v2 v3
  rw[if_neg q]at d;rw[d];exact h
theorem WfW.deliver (h:WfW W) (a:zy W i W'):WfW W':=by
 obtain⟨g,b,c⟩:=a;exact(h.drop i).come (h.tj g (jcq b)) c
def qu6:GrS->Nat
 |⟨_,.tx _⟩=>1
 |⟨_,.ask _ _ _ _ _⟩=>302
def qjh (l:List GrS):Nat:=(l.map qu6).sum
theorem qf0 (o:Nat):∀(l:List TxP) (W:WoS),W.net.length<=300->qjh (zl o l W).net+W.net.length<=qjh W.net+300
 |[],W,h=>by show qjh W.net+_<=_;omega
 |t::l,W,h=>by
  unfold zl;split
  ·exact qf0 o l W h
  by_cases q:300<=W.net.length
  ·have e:(zk W ⟨o,.tx t⟩).net=W.net:=by unfold zk;rw[if_pos q]
   have:=qf0 o l (zk W ⟨o,.tx t⟩) (by rw[e];exact h);rw[e]at this;exact this
  have e:=q1h (W:=W) (g:=⟨o,.tx t⟩) (by omega);have:=qf0 o l (zk W ⟨o,.tx t⟩) (by rw[e];simp;omega);rw[e]at this;simp[qjh,qu6]at this ⊢;omega
theorem qjk (h:WfW W) (b:zy W 0 W'):qjh W'.net<qjh W.net:=by
 obtain⟨⟨a,j⟩,c,k⟩:=b
 obtain⟨r,d⟩:∃r,W.net=⟨a,j⟩::r:=by
  cases hn:W.net with
  |nil=>rw[hn]at c;simp at c
  |cons x r=>
   rw[hn]at c;simp at c;exact⟨r,by rw[c]⟩
 have b:(qai W 0).net=r:=by show W.net.eraseIdx 0=r;rw[d];rfl
 have l:r.length+1<=300:=by have:=h.net;rw[d]at this;simpa using this
 cases j with
 |tx t=>
  obtain⟨S',_,rfl⟩:=k;show qjh (qai W 0).net<_;rw[b,d];simp[qjh,qu6]
 |ask site v0 v1 v2 v3=>
  have f:if 0<=site/\site<((qai W 0).n:Int)then W'=qbc (qai W 0) a site.toNat v0 v1 v2 v3 else W'=qai W 0:=k
  by_cases q:0<=site/\site<((qai W 0).n:Int)
  ·rw[if_pos q]at f;have:=qf0 site.toNat (qd6 ((qai W 0).S a) v0 v1 v2 v3) (setSite (qai W 0) a (vp ((qai W 0).S a) site.toNat v0 v1 v2 v3)) (by show (qai W 0).net.length<=300;rw[b];omega);rw[f];have e:(setSite (qai W 0) a (vp ((qai W 0).S a) site.toNat v0 v1 v2 v3)).net=r:=b;rw[e]at this;show qjh (zl _ _ _).net<_;rw[d];simp[qjh,qu6]at this ⊢;omega
  rw[if_neg q]at f;rw[f,b,d];simp[qjh,qu6]
end
end
section
def q69 (n:Nat) (g:GrS):Prop:=
 match g.body with
 |.tx t=>okT t=true
 |.ask s _ _ _ _=>0<=s/\s<(n:Int)
def qeq (W:WoS):Prop:=∀g∈W.net,q69 W.n g
variable {i:Nat} {A B:WoS}
section
variable {W W':WoS} {g:GrS}
theorem qeq.send (h:qeq W) (a:q69 W.n g):qeq (zk W g):=λx b=>by
 rw[(yb W g).n];rcases qke b with q|q
 ·exact h x q
 rw[q];exact a
theorem qeq.drop (h:qeq W) (i:Nat):qeq (qai W i):=λx a=>h x (jdn a)
theorem qeq.tell (h:qeq W) {t:TxP} (a:okT t=true) (k:Nat):qeq (qam t k W):=λx b=>by
 rw[(zx t k W).n];rcases qm3 k b with q|⟨_,q⟩
 ·exact h x q
 obtain⟨d,c⟩:=x;have q:c=.tx t:=q;subst q;exact a
theorem qeq.come (h:qeq W) (d:WfW W) (e:g.tj<W.n) (a:qeo W g W'):qeq W':=by
 obtain⟨b,c⟩:=g;cases c with
 |tx t=>
  obtain⟨S',_,rfl⟩:=a;exact h
 |ask s v0 v1 v2 v3=>
  have a:if 0<=s/\s<(W.n:Int)then W'=qbc W b s.toNat v0 v1 v2 v3 else W'=W:=a
  split at a
  ·rw[a];intro x f;show q69 (qbc W b s.toNat v0 v1 v2 v3).n x;rw[show (qbc W b s.toNat v0 v1 v2 v3).n=W.n from(qds _ _ _).n];rcases qp9 _ _ f with q|⟨_,t,j,_,q⟩
   ·exact h x q
   obtain⟨k,c⟩:=x;have q:c=.tx t:=q;subst q;exact d.lok b e t (jdq.1 j).1
  rw[a];exact h
theorem qeq.deliver (h:qeq W) (a:WfW W) (b:zy W i W'):qeq W':=by
 obtain⟨g,c,d⟩:=b;exact(h.drop i).come (a.drop i) (a.tj g (jcq c)) d
theorem qeo.det (h:qeo W g A) (k:qeo W g B):A=B:=by
 obtain⟨a,b⟩:=g;cases b with
 |tx t=>
  obtain⟨e,c,rfl⟩:=h;obtain⟨f,d,rfl⟩:=k;rw[zu.det c d]
 |ask s v0 v1 v2 v3=>
  have h:if 0<=s/\s<(W.n:Int)then A=qbc W a s.toNat v0 v1 v2 v3 else A=W:=h
  have k:if 0<=s/\s<(W.n:Int)then B=qbc W a s.toNat v0 v1 v2 v3 else B=W:=k
  split at h
  ·rename_i q;rw[if_pos q]at k;rw[h,k]
  rename_i q;rw[if_neg q]at k;rw[h,k]
theorem zy.det (h:zy W i A) (k:zy W i B):A=B:=by
 obtain⟨g,b,c⟩:=h;obtain⟨g',a,d⟩:=k;rw[b]at a;cases a;exact c.det d
end
variable {W:WoS}
theorem qaf.det (h:qaf W A):qaf W B->A=B:=by
 induction h with
 |none h0=>
  intro k;cases k with
  |none _=>rfl
  |step h1 _ _=>exact absurd h0 h1
 |step h1 h2 _ ih=>
  intro k;cases k with
  |none h0=>exact absurd h0 h1
  |step _ k2 k3=>
   rw[h2.det k2]at ih;exact ih k3
variable {m:Nat}
theorem qdo.det {k:Nat} (h:qdo k m W A):∀{B:WoS},qdo k m W B->A=B:=by
 induction h with
 |zero=>
  intro B q;cases q;rfl
 |self _ e ih=>
  intro B q;cases q with
  |self q _=>exact ih q
  |ask _ n _=>exact absurd e n
 |ask _ n h3 ih=>
  intro B q;cases q with
  |self _ e=>exact absurd e n
  |ask q _ q3=>
   have:=ih q;subst this;exact h3.det q3
theorem qc1.det (h:qc1 m W A):∀{B:WoS},qc1 m W B->A=B:=by
 induction h with
 |zero=>
  intro B q;cases q;rfl
 |next _ h2 ih=>
  intro B q;cases q with
  |next q q2=>
   have:=ih q;subst this;exact h2.det q2
theorem qg9.det (h:qg9 W A) (k:qg9 W B):A=B:=by
 obtain⟨W1,a,b⟩:=h;obtain⟨e,c,d⟩:=k;have:=a.det c;subst this;exact b.det d
end
section
theorem q2d (l:List GrM) (m:GrM):qap (l++[m])=qap l++qpe m:=by simp[qap]
theorem qr2 (m:GrM):∀u∈qpe m,u.oneCell'=true:=by
 intro u a;simp[qpe]at a
 rcases a with rfl|rfl<;>rfl
theorem quo:(Tryz.prog.info? 205).map (λi=>(i.zero,i.size,i.bytes))=some (some (.agg #[U 0,.slice none 0 0]),2,32):=by kernel_rfl
theorem qpn (W:World) (n:Nat) (c:W.heap.size=n) (a:List Value) (T:TypeId):∀j u,a[j]?=some u->(W.alloc (.cells a.toArray T)).cell? (((AD n 0):Addr).add j)=some u:=by
 subst c;exact World.news_of_block (heap_alloc_new W (.cells a.toArray T))
section
variable {w w2 wE:World} {b g cap:Nat} {G:Nat->Prop} {M:WoM} {W:WoS} {Gs:Nat->Nat->Prop} {m:GrM}
theorem PWo.pushed (h:PWo w b M W Gs) (z:Bw w w2) (E:m.Ok w) (H:(∃x∈M.l,x.blk=m.blk)\/¬qmp b M (W.n+W.c) Gs m.blk)
 (own:wE.ownsRow 0 205 2 (.slice (PT g) (M.l.length+1) cap) (M.l.length+1) (qap M.l++qpe m)) (A:w2.grownBy wE M.nv.ownBlock) (t:M.nv.ownBlock=some g\/w.heap.size<=g) (I:g<wE.heap.size):
 PWo (wE.setCell (AD b 2) (.slice (PT g) (M.l.length+1) cap)) b {M with nv:=.slice (PT g) (M.l.length+1) cap,l:=M.l++[m]} {W with net:=W.net++[m.g]} Gs:=by
 have R:=h.box.lt;have s2:=z.size;have S:=A.size;have u:(Value.slice (PT g) (M.l.length+1) cap).ownBlock=some g:=rfl;have J:=E.own.lt
 have F:g≠b:=by
  rcases t with e|e
  ·exact λq=>h.sb.2.2 (by rw[e,q])
  omega
 have K:∀k,k<w.heap.size->M.nv.ownBlock≠some k->wE.heap[k]?=w.heap[k]?:=λk d B=>(A.block k (by omega) (λe=>B e.symm)).trans (z.block k d);have y:∀k,k<w.heap.size->M.nv.ownBlock≠some k->k≠b->(wE.setCell (AD b 2) (.slice (PT g) (M.l.length+1) cap)).heap[k]?=w.heap[k]?:=λk d B L=>(jce _ _ _ _ (λe=>L e)).trans (K k d B)
 have v:(wE.setCell (AD b 2) (.slice (PT g) (M.l.length+1) cap)).heap.size=wE.heap.size:=by simp[World.setCell]
 have C:=h.ltF
 have p:m.blk≠b/\M.pv.ownBlock≠some m.blk/\M.cv.ownBlock≠some m.blk/\M.nv.ownBlock≠some m.blk/\(∀i,i<W.n+W.c->¬Gs i m.blk):=by
  rcases H with ⟨x,o,e⟩|e
  ·have:=h.sg x o;rw[e]at this;exact⟨this.1,this.2.1,this.2.2.1,this.2.2.2,(h.fam.free m.blk (.inr (.inr (.inr (.inr ⟨x,o,e⟩))))).2⟩
  exact⟨λq=>e (.inl (.inl q)),λq=>e (.inl (.inr (.inl q))),λq=>e (.inl (.inr (.inr (.inl q)))),λq=>e (.inl (.inr (.inr (.inr (.inl q))))),λi hi q=>e (.inr ⟨i,hi,q⟩)⟩
 have N:m.blk≠g:=by
  rcases t with e|e
  ·exact λq=>p.2.2.2.1 (by rw[e,q])
  omega
 refine⟨?_,?_,?_,?_,?_,λx o=>?_,?_,⟨h.sb.1,h.sb.2.1,λe=>?_⟩,λk=>⟨λe=>⟨(h.sr k).1 e|>.1,λa=>?_⟩,λe a=>?_⟩,λx o=>?_⟩
 ·have O:=(h.box.later z).grown A (λe=>h.sb.2.2 e.symm);exact O.set 2 _ (by simp)
 ·exact qf h.pr (λk e=>y k (h.pr.lt k e).2 ((h.sr k).1 e).2 (λq=>h.sb.1 (by rw[e,q])))
 ·exact qf h.cr (λk e=>y k (h.cr.lt k e).2 ((h.sr k).2 e) (λq=>h.sb.2.1 (by rw[e,q])))
 ·show World.ownsRow _ 0 _ 2 _ (M.l++[m]).length (qap (M.l++[m]));rw[q2d,jcl];exact qf own (λk e=>jce _ _ _ _ (λq=>F (by rw[u]at e;injection e with e;exact e.trans q)))
 ·show (M.l++[m]).map (·.g)=W.net++[m.g];rw[jdb,h.nl];rfl
 ·rcases jcf.1 o with q|q
  ·have:=h.sg x q;exact(h.gr x q).kept (y _ (C _ (.inr (.inr (.inr (.inr ⟨x,q,rfl⟩))))) this.2.2.2 this.1) (by rw[v];omega)
  rw[jcj.1 q];exact E.kept (y _ J p.2.2.2.1 p.1) (by rw[v];omega)
 ·have f:=h.fam.tj (X':=qfw b M) (w':=wE.setCell (AD b 2) (.slice (PT g) (M.l.length+1) cap)) (λj k D e=>y k (h.ltG D e) (λq=>(h.fam.free k (.inr (.inr (.inr (.inl q))))).2 j D e) (λq=>(h.fam.free k (.inl q)).2 j D e)) (by rw[v];omega) (λk d=>⟨.inl d,by rw[v];have:=C k d;omega⟩);refine⟨f.is,f.apart,λk d=>?_,f.half⟩
  ·rcases d with e|e|e|e|⟨x,o,e⟩
   ·exact f.free k (.inl e)
   ·exact f.free k (.inr (.inl e))
   ·exact f.free k (.inr (.inr (.inl e)))
   ·rw[u]at e;injection e with e;subst e;rcases t with q|q
    ·exact f.free g (.inr (.inr (.inr (.inl q))))
    exact⟨by rw[v];exact I,λi hi P=>by have:=h.ltG hi P;omega⟩
   rcases jcf.1 o with q|q
   ·exact f.free k (.inr (.inr (.inr (.inr ⟨x,q,e⟩))))
   rw[jcj.1 q]at e;subst e;exact⟨by rw[v];omega,p.2.2.2.2⟩
 ·rw[u]at e;injection e with e;exact F e
 ·rw[u]at a;injection a with a;subst a;rcases t with q|q
  ·exact((h.sr g).1 e).2 q
  have:=(h.pr.lt g e).2;omega
 ·rw[u]at a;injection a with a;subst a;rcases t with q|q
  ·exact(h.sr g).2 e q
  have:=(h.cr.lt g e).2;omega
 have Q:some g≠some x.blk->(Value.slice (PT g) (M.l.length+1) cap).ownBlock≠some x.blk:=λq=>q;rcases jcf.1 o with q|q
 ·have s:=h.sg x q;refine⟨s.1,s.2.1,s.2.2.1,Q (λe=>?_)⟩;injection e with e;rcases t with r|r
  ·exact s.2.2.2 (by rw[r,e])
  have:=C x.blk (.inr (.inr (.inr (.inr ⟨x,q,rfl⟩))));omega
 rw[jcj.1 q];exact⟨p.1,p.2.1,p.2.2.1,λe=>by rw[u]at e;injection e with e;exact N e.symm⟩
theorem PWo.lostBox (h:PWo w b M W Gs) (d:Bw w w2) (x:Int):PWo (w2.setCell (AD b 3) (U x)) b M {W with lost:=x} Gs:=by
 have s2:=d.size;have a:∀k,k<w.heap.size->k≠b->(w2.setCell (AD b 3) (U x)).heap[k]?=w.heap[k]?:=λk c n=>(jce _ _ _ _ (λe=>n e)).trans (d.block k c)
 have f:(w2.setCell (AD b 3) (U x)).heap.size=w2.heap.size:=by simp[World.setCell]
 exact⟨(h.box.later d).set 3 _ (by simp),qf h.pr (λk e=>a k (h.pr.lt k e).2 (λq=>h.sb.1 (by rw[e,q]))),qf h.cr (λk e=>a k (h.cr.lt k e).2 (λq=>h.sb.2.1 (by rw[e,q]))),qf h.nr (λk e=>a k (h.nr.lt k e).2 (λq=>h.sb.2.2 (by rw[e,q]))),h.nl,λx i=>(h.gr x i).kept (a _ (h.ltF _ (.inr (.inr (.inr (.inr ⟨x,i,rfl⟩))))) (h.sg x i).1) (by rw[f];exact s2),h.fam.tj (λj k l e=>a k (h.ltG l e) (λq=>(h.fam.free k (.inl q)).2 j l e)) (by rw[f];exact s2) (λk c=>⟨.inl c,by rw[f];have:=h.ltF k c;omega⟩),h.sb,h.sr,h.sg⟩
def qby (w:World) (b:Nat) (M:WoM) (Gs:Nat->Nat->Prop) (Z:Nat->Prop) (W':WoS) (w':World):Prop:=
 ∃nv' l',PWo w' b {M with nv:=nv',l:=l'} W' Gs/\(∀k,nv'.ownBlock=some k->M.nv.ownBlock=some k\/w.heap.size<=k)/\(∀x∈l',x∈M.l\/Z x.blk)/\qc (λk=>k=b\/M.nv.ownBlock=some k) w w'
theorem qby.post {w':World} {W':WoS} {Z:Nat->Prop} (h:qby w b M Gs Z W' w') (a:∀k,G k↔qmp b M (W.n+W.c) Gs k) (j:W'.n=W.n) (l:W'.c=W.c) (o:∀k,Z k->G k\/w.heap.size<=k):vh w b G W' w':=by
 obtain⟨v,y,p,r,s,d⟩:=h;refine⟨_,⟨_,Gs,p,λ_=>jdl⟩,λk f=>?_,⟨d.os,d.tape,d.output,d.size,λk f t=>d.block k f (λe=>t ((a k).2 (.inl (e.elim .inl (λq=>.inr (.inr (.inr (.inl q))))))))⟩⟩;rw[j,l]at f;rcases f with (e|e|e|e|⟨x,u,e⟩)|⟨i,hi,e⟩
 ·exact .inl ((a k).2 (.inl (.inl e)))
 ·exact .inl ((a k).2 (.inl (.inr (.inl e))))
 ·exact .inl ((a k).2 (.inl (.inr (.inr (.inl e)))))
 ·rcases r k e with q|q
  ·exact .inl ((a k).2 (.inl (.inr (.inr (.inr (.inl q))))))
  exact .inr q
 ·rcases s x u with q|q
  ·exact .inl ((a k).2 (.inl (.inr (.inr (.inr (.inr ⟨x,q,e⟩))))))
  rw[e]at q;exact o k q
 exact .inl ((a k).2 (.inr ⟨i,hi,e⟩))
theorem PWo.later (h:PWo w b M W Gs) (a:Bw w w2):PWo w2 b M W Gs:=
 ⟨h.box.later a,qf h.pr (λk e=>a.block k (h.pr.lt k e).2),qf h.cr (λk e=>a.block k (h.cr.lt k e).2),qf h.nr (λk e=>a.block k (h.nr.lt k e).2),h.nl,λm c=>(h.gr m c).kept (a.block _ (h.gr m c).own.lt) a.size,h.fam.tj (λ_ k d e=>a.block k (h.ltG d e)) a.size (λk e=>⟨.inl e,jci (h.ltF k e) a.size⟩),h.sb,h.sr,h.sg⟩
theorem qby.none (h:PWo w b M W Gs) (a:Bw w w2) (Z:Nat->Prop):qby w b M Gs Z W w2:=⟨M.nv,M.l,h.later a,λ_ e=>.inl e,λ_ c=>.inl c,qc.ofBelow a⟩
end
theorem qou {b:Nat} {M:WoM} {W:WoS} {Gs:Nat->Nat->Prop} (w:World) (h:PWo w b M W Gs) (m:GrM) (p:m.Ok w) (s:(∃x∈M.l,x.blk=m.blk)\/¬qmp b M (W.n+W.c) Gs m.blk):
 Ca 144 #[PP b,.agg #[U m.g.tj,.slice (PT m.blk) m.S.size m.cap]] w λe w'=>e=.returned (.tuple #[])/\qby w b M Gs (λk=>k=m.blk) (zk W m.g) w':=by
 have i:=hd3 h p s
 have B:M.l.length=W.net.length:=by rw[<-h.nl];simp
 obtain⟨J,K,j,r⟩:=qq h.nr;have Y:=h.box.lt;have t:=boxed (jcc _ w) (.cells #[U m.g.tj,.slice (PT m.blk) m.S.size m.cap] 205);have a:=h.box.later t;rw[j]at a;have Z:=a.c 2;have c3:=a.c 3;have f2:=a.f 2;have f3:=a.f 3;by_cases o:300<=W.net.length
 ·have q:300<=(M.l.length:Int):=by omega
  have u:Hid (zk W m.g={W with lost:=wrap64 (W.lost+1)}):=if_pos o;clear h p s r B o;go_enter Tryz.func144,Tryz.ntmps144
  go_wp2_with fail
  refine bodyPost_ret (v:=.tuple #[]) (results_none rfl _ _ _) rfl ⟨rfl,?_⟩;rw[u.out];exact⟨M.nv,M.l,(i.out.1.lostBox (jcc _ w) (wrap64 (W.lost+1))).later (boxed (jcc _ _) _),λ_ e=>.inl e,λ_ y=>.inl y,(qc.setCell _ _ _ (.inl rfl)).trans (qc.ofBelow (boxed (jcc _ _) _))⟩
 have q:¬300<=(M.l.length:Int):=by omega
 have u:Hid (zk W m.g={W with net:=W.net++[m.g]}):=if_neg o
 have C:Hid (M.l.length<300):=by show _<_;omega
 obtain⟨L,hi,N,O,P⟩:=info_parts quo;have D:=(boxed t.drew (.cells #[U m.g.tj,.slice (PT m.blk) m.S.size m.cap] 205));have E:=qf h.nr (λk e=>t.drew.block k (h.nr.lt k e).2);rw[j]at E;have d:=hd1 j;have Q:=hd1 h.sb.2.2;clear h p s r B o j;go_enter Tryz.func144,Tryz.ntmps144
 go_wp2_with fail
 go_region_law (refine step_append_lies _ rfl (.tmp 21) (.tmp 23) 160 rfl 0 205 L (.agg #[U 0,.slice none 0 0]) 2 32 Tryz.underlying160 hi N O P rfl (by decide) (.slice J M.l.length K) M.l.length (qap M.l) (by simp[Act.eval]) (E.alloc _) (AD (w.heap.size+1) 0) 1 1 [U m.g.tj,.slice (PT m.blk) m.S.size m.cap] (by simp[Act.eval]) rfl (qpn _ _ (by simp) [U m.g.tj,.slice (PT m.blk) m.S.size m.cap] 205) (qr2 m) (by decide) (by have:=C.out;simp only[maxLen];omega) (by have:=C.out;omega) (by omega) _ rfl ?_
                intro F R wE T z H V;have I:qd wE b _:=(a.later (boxed (jcc _ _) _).drew).grown z (λe=>Q.out (by rw[d.out];exact e.symm));have e2:=I.c 2
                have f2E:=I.f 2)
 all_goals
  go_wp2_with fail
  go_end0;refine⟨rfl,?_⟩;rw[u.out];refine⟨.slice (PT F) (M.l.length+1) R,M.l++[m],i.out.1.pushed D i.out.2.1 i.out.2.2 T (by rw[d.out];exact z) ?_ V,λk e=>?_,λx y=>?_,?_⟩
  ·rw[d.out];rcases H with e|e
   ·exact .inl e
   exact .inr (by rw[e];simp;omega)
  ·rw[d.out];have X:F=k:=jcu e;subst X;rcases H with e|e
   ·exact .inl e
   exact .inr (by rw[e];simp;omega)
  ·rcases jcf.1 y with q|q
   ·exact .inl q
   exact .inr (by rw[jcj.1 q])
  refine((qc.ofBelow D).trans (qc.grown z (λk e=>.inr (by rw[d.out];exact e)))).trans (qc.setCell _ _ _ (.inl rfl))
end
section
section
variable {w w1 w2 w':World} {b:Nat} {M:WoM} {W W':WoS} {Gs:Nat->Nat->Prop} {Z:Nat->Prop}
theorem qby.from (a:Bw w w1) (h:qby w1 b M Gs Z W' w'):qby w b M Gs Z W' w':=by
 obtain⟨c,d,f,g,i,j⟩:=h;exact⟨c,d,f,λk e=>(g k e).elim .inl (λq=>.inr (jcn a.size q)),i,(qc.ofBelow a).trans j⟩
theorem qby.weak {a:Nat->Prop} (h:qby w b M Gs Z W' w') (c:∀k,Z k->a k):qby w b M Gs a W' w':=by
 obtain⟨d,e,f,g,i,j⟩:=h;exact⟨d,e,f,g,λx l=>(i x l).elim .inl (λq=>.inr (c _ q)),j⟩
theorem qby.size (h:qby w b M Gs Z W' w'):w.heap.size<=w'.heap.size:=by
 obtain⟨_,_,_,_,_,a⟩:=h;exact a.size
theorem qby.block (h:qby w b M Gs Z W' w') {k:Nat} (a:k<w.heap.size) (c:k≠b) (d:M.nv.ownBlock≠some k):w'.heap[k]?=w.heap[k]?:=by
 obtain⟨_,_,_,_,_,f⟩:=h;exact f.block k a (λe=>e.elim c d)
theorem qby.next {i:WoS} (h:qby w b M Gs Z W' w1) (a:∀f g,PWo w1 b {M with nv:=f,l:=g} W' Gs->qby w1 b {M with nv:=f,l:=g} Gs Z i w'):qby w b M Gs Z i w':=by
 obtain⟨f,g,m,j,n,c⟩:=h;obtain⟨o,p,r,t,u,d⟩:=a f g m;have s:=c.size;refine⟨o,p,r,λk e=>?_,λx v=>?_,?_⟩
 ·rcases t k e with q|q
  ·exact j k q
  exact .inr (by omega)
 ·rcases u x v with q|q
  ·exact n x q
  exact .inr q
 refine⟨d.os.trans c.os,d.tape.trans c.tape,d.output.trans c.output,jcn s d.size,λk y a=>?_⟩;refine(d.block k (by omega) (λe=>?_)).trans (c.block k y a);rcases e with e|e
 ·exact a (.inl e)
 rcases j k e with q|q
 ·exact a (.inr q)
 omega
end
theorem qoq {b:Nat} {M:WoM} {W:WoS} {Gs:Nat->Nat->Prop} (o:Nat) (c d wall f j l m n:Int) (ws:List Wr) (a:Option Addr) (cap:Nat) (w:World) (h:PWo w b M W Gs) (s:qr w a cap ws) (y:jt c d wall f j l m n ws=true):
 Ca 208 #[PP b,U o,.agg (List.toArray (T9 c d wall f j l m n a ws.length cap))] w λe w'=>e=.returned (.tuple #[])/\qby w b M Gs (λk=>w.heap.size<=k) (zk W ⟨o,.tx ⟨c,d,wall,f,j,l,m,n,ws⟩⟩) w':=by
 have p:=hd1 h;have r:=boxed (jcc _ w) (.cells (List.toArray (T9 c d wall f j l m n a ws.length cap)) 102);have t:=qw5 (s.later r) y;clear h s;go_enter Tryz.func208,Tryz.ntmps208
 go_wp2_with fail
 refine t.mono ?_;rintro e w2 ⟨S,g,u,rfl,⟨z,_⟩,B,O,C⟩;have v:=qa r C;have D:=jcn r.size O.base;have x:=p.out.later v
 have E:Hid (Ca 144 #[PP b,.agg #[U o,.slice (PT g) S.size u]] w2 λe w'=>e=.returned (.tuple #[])/\qby w2 b M Gs (λk=>k=g) (zk W ⟨o,.tx ⟨c,d,wall,f,j,l,m,n,ws⟩⟩) w'):=
  qou w2 x ⟨⟨o,.tx ⟨c,d,wall,f,j,l,m,n,ws⟩⟩,g,u,S⟩ ⟨O.mono (jcw _),B,z⟩ (.inr (λe=>by
   rcases e with q|⟨i,hi,q⟩
   ·have:g<w.heap.size:=p.out.ltF g q;omega
   have:g<w.heap.size:=p.out.ltG hi q
   omega))
 clear t x
 go_wp2_with fail
 refine E.out.mono ?_;rintro e G ⟨rfl,F⟩
 go_wp2_with fail
 go_end0;exact⟨rfl,(F.from v).weak (λk e=>by rw[e];exact D)⟩
theorem q5o {b:Nat} {M:WoM} {W:WoS} {Gs:Nat->Nat->Prop} (d f wall g i j o p:Int) (ws:List Wr) (a:Option Addr) (cap:Nat) (w:World) (h:PWo w b M W Gs) (P:W.n<=4) (Q:qr w a cap ws) (R:∀k G,ws≠[]->a=some (AD k G)->k≠b/\M.nv.ownBlock≠some k) (S:jt d f wall g i j o p ws=true):
 Ca 151 #[PP b,.agg (List.toArray (T9 d f wall g i j o p a ws.length cap))] w λe w'=>e=.returned (.tuple #[])/\qby w b M Gs (λk=>w.heap.size<=k) (qam ⟨d,f,wall,g,i,j,o,p,ws⟩ W.n W) w':=by
 have v:=hd4 h Q R S;have E:=boxed (jcc _ w) (.cells (List.toArray (T9 d f wall g i j o p a ws.length cap)) 102);have F:=qd.new (w:=w) (T:=102) (T9 d f wall g i j o p a ws.length cap) rfl;obtain⟨pa,pc,V,r⟩:=qq h.pr;have H:=h.box.later E;rw[V]at H;have X:=H.c 0;have hlt:=h.box.lt;obtain⟨w1,C⟩:∃w1,w.alloc (.cells (List.toArray (T9 d f wall g i j o p a ws.length cap)) 102)=w1:=⟨_,rfl⟩
 have t:Hid (Bw w w1/\qd w1 w.heap.size (T9 d f wall g i j o p a ws.length cap)/\w.heap.size<w1.heap.size):=by
  rw[C]at E
  have Y:qd w1 w.heap.size (T9 d f wall g i j o p a ws.length cap):=by rw[<-C];exact F
  exact⟨E,Y,Y.lt⟩
 have HN:=hd1 P;rw[C]at X;clear h Q R S F r V E P;go_enter Tryz.func151,Tryz.ntmps151
 go_wp2_with fail
 try rw[C]
 clear X H C
 go_loopw [10] (λiv wr=>∃(k:Nat) (z:Int),k<=W.n/\z=k/\iv=U z/\Hid (qby w1 b M Gs (λq=>w.heap.size<=q) (qam ⟨d,f,wall,g,i,j,o,p,ws⟩ k W) wr)) (λiv _=>W.n-(intOf iv).toNat)
 case atStart=>exact⟨0,0,by omega,rfl,rfl,qby.none (v.out.1.later t.out.1) (jcc _ _) _⟩
 obtain⟨k,z,hk,hz,rfl,y⟩:=hrel;have u:=hd1 hz;by_cases hlt2:k<W.n
 ·have g1:z<(W.n:Int):=by omega
  have g3:0<=z:=by omega
  have g4:z<4:=by have:=HN.out;omega
  have I:w.heap.size≠b/\M.nv.ownBlock≠some w.heap.size:=⟨by omega,λe=>by have:=(v.out.1.nr.lt _ e).2;omega⟩;have F:=t.out.2.1.kept (y.out.block t.out.2.2 I.1 I.2) y.out.size;obtain⟨x0,x1,x2,x3,x4,x5,x6,x7,x8⟩:=F.c9;clear hz I;by_cases hs:z=d
  ·have J:Hid (qam ⟨d,f,wall,g,i,j,o,p,ws⟩ (k+1) W=qam ⟨d,f,wall,g,i,j,o,p,ws⟩ k W):=if_pos (u.out.symm.trans hs)
   go_wp2_with fail
   go_roundw
   case rel=>exact⟨k+1,z+1,by omega,by have:=u.out;omega,by go_num,by show qby _ _ _ _ _ _ _;rw[J.out];exact y.out⟩
   simp[intOf];have:=u.out;omega
  have J:Hid (qam ⟨d,f,wall,g,i,j,o,p,ws⟩ (k+1) W=zk (qam ⟨d,f,wall,g,i,j,o,p,ws⟩ k W) ⟨k,.tx ⟨d,f,wall,g,i,j,o,p,ws⟩⟩):=if_neg (λe=>hs (u.out.trans e));obtain⟨nv',l',h1,K,h3,B⟩:=y.out
  have hWr:qr wr a cap ws:=qr.kept (m:=⟨⟨d,f,wall,g,i,j,o,p,ws⟩,a,cap⟩) (v.out.2.1.later t.out.1) (λq e=>by
   have lq:=qr.blk_lt (m:=⟨⟨d,f,wall,g,i,j,o,p,ws⟩,a,cap⟩) v.out.2.1 q e;obtain⟨e1,G,e2⟩:=e;have:=v.out.2.2.1 q G e1 e2
   exact y.out.block (jci lq t.out.1.size) this.1 this.2)
  have L:=qoq k d f wall g i j o p ws a cap wr h1 hWr v.out.2.2.2;rw[<-u.out]at L;have HX:Hid (∀nv l,PWo wr b {M with nv:=nv,l:=l} (qam ⟨d,f,wall,g,i,j,o,p,ws⟩ k W) Gs->True):=λ_ _ _=>trivial
  have SY:Hid (Ca 208 #[PP b,U z,.agg (List.toArray (T9 d f wall g i j o p a ws.length cap))] wr λe w'=>e=.returned (.tuple #[])/\qby w1 b M Gs (λq=>w.heap.size<=q) (zk (qam ⟨d,f,wall,g,i,j,o,p,ws⟩ k W) ⟨k,.tx ⟨d,f,wall,g,i,j,o,p,ws⟩⟩) w'):=L.mono λe w' ⟨he,N⟩=>⟨he,by
   obtain⟨nv2,l2,g1',g2',g3',D⟩:=N;have s:=B.size;have s1:=t.out.1.size;refine⟨nv2,l2,g1',λq e=>?_,λx hx=>?_,?_⟩
   ·rcases g2' q e with r|r
    ·exact K q r
    exact .inr (by omega)
   ·rcases g3' x hx with r|r
    ·exact h3 x r
    exact .inr (by omega)
   refine⟨D.os.trans B.os,D.tape.trans B.tape,D.output.trans B.output,jcn s D.size,λq hq O=>?_⟩;refine(D.block q (by omega) (λe=>?_)).trans (B.block q hq O);rcases e with e|e
   ·exact O (.inl e)
   rcases K q e with r|r
   ·exact O (.inr r)
   omega⟩
  clear L HX h1 K h3 B hWr
  go_wp2_with fail
  refine SY.out.mono ?_;rintro e w3 ⟨rfl,N⟩;clear SY x0 x1 x2 x3 x4 x5 x6 x7 x8
  go_wp2_with fail
  go_roundw
  case rel=>exact⟨k+1,z+1,by omega,by have:=u.out;omega,by go_num,by show qby _ _ _ _ _ _ _;rw[J.out];exact N⟩
  simp[intOf];have:=u.out;omega
 have g1:¬z<(W.n:Int):=by omega
 have e:k=W.n:=by omega
 subst e
 go_wp2_with fail
 go_end0;exact⟨rfl,y.out.from t.out.1⟩
end
section
section
variable {w w':World} {n o:Nat} {ps ps':Nat->qfr} {Gs:Nat->Nat->Prop} {X:Nat->Prop}
theorem zh.step2X (h:zh w n ps Gs X o NoY) {i j:Nat} (hi:i<n) (C:j<n) {p q:qfr} {Y:Nat->Prop} (P:qfx p q w (Gs i) (Gs j) Y w') (Q:∀y,q.is w' y->∀k,Y k->¬y k) (R:ps' i=p) (S:ps' j=q) (T:∀m,m<n->m≠i->m≠j->ps' m=ps m):∃H,zh w' n ps' H X o NoY/\(∀m k,H m k->Gs m k\/w.heap.size<=k)/\jg X w w'/\qc (λk=>Gs i k\/Gs j k) w w'/\∀m k,m<n->Y k->w.heap.size<=k/\k<w'.heap.size/\¬H m k:=by
 obtain⟨D,y,p1,N,p2,I,O,E,u⟩:=P;refine⟨λm=>if m=i then D else if m=j then y else Gs m,⟨λm s=>?_,λa b k J K L c r=>?_,λk c=>⟨jci (h.free k c).1 u.size,λm s d=>?_⟩,λk c=>c.elim⟩,λm k c=>?_,⟨u.os,u.tape,u.output,u.size,λk c=>u.block k (h.free k c).1 (λe=>e.elim ((h.free k c).2 i hi) ((h.free k c).2 j C))⟩,u,λm k s c=>⟨(E k c).1,(E k c).2.1,λd=>?_⟩⟩
 ·by_cases g:m=i
  ·rw[if_pos g,g,R];exact p1
  by_cases l:m=j
  ·rw[if_neg g,if_pos l,l,S];exact N
  rw[if_neg g,if_neg l,T m s g l]
  exact(ps m).kept _ _ _ (h.is m s) (λk c=>u.block k ((ps m).lt _ _ (h.is m s) k c) (λe=>by
   rcases e with e|e
   ·exact h.apart m i k s hi g c e
   exact h.apart m j k s C l c e)) u.size
 ·have F:∀m,m<n->m≠i->m≠j->Gs m k->¬D k/\¬y k:=λm s g l d=>by
   have V:=(ps m).lt _ _ (h.is m s) k d
   constructor
   ·intro e;rcases p2 k e with t|t
    ·exact h.apart m i k s hi g d t
    omega
   intro e;rcases I k e with t|t
   ·exact h.apart m j k s C l d t
   omega
  by_cases z:a=i
  ·rw[if_pos z]at c;have v:b≠i:=λe=>L (z.trans e.symm);rw[if_neg v]at r;by_cases x:b=j
   ·rw[if_pos x]at r;exact O k c r
   rw[if_neg x]at r;exact(F b K v x r).1 c
  rw[if_neg z]at c;by_cases A:a=j
  ·rw[if_pos A]at c;have x:b≠j:=λe=>L (A.trans e.symm);by_cases v:b=i
   ·rw[if_pos v]at r;exact O k r c
   rw[if_neg v,if_neg x]at r;exact(F b K v x r).2 c
  rw[if_neg A]at c;by_cases v:b=i
  ·rw[if_pos v]at r;exact(F a J z A c).1 r
  rw[if_neg v]at r;by_cases x:b=j
  ·rw[if_pos x]at r;exact(F a J z A c).2 r
  rw[if_neg x]at r;exact h.apart a b k J K L c r
 ·have f:=h.free k c;by_cases g:m=i
  ·rw[if_pos g]at d;rcases p2 k d with t|t
   ·exact f.2 i hi t
   have:=f.1;omega
  rw[if_neg g]at d;by_cases l:m=j
  ·rw[if_pos l]at d;rcases I k d with t|t
   ·exact f.2 j C t
   have:=f.1;omega
  rw[if_neg l]at d;exact f.2 m s d
 ·have c:(if m=i then D else if m=j then y else Gs m) k:=c;by_cases g:m=i
  ·rw[if_pos g]at c;rw[g];exact p2 k c
  rw[if_neg g]at c;by_cases l:m=j
  ·rw[if_pos l]at c;rw[l];exact I k c
  rw[if_neg l]at c;exact .inl c
 have d:(if m=i then D else if m=j then y else Gs m) k:=d;by_cases g:m=i
 ·rw[if_pos g]at d;exact(E k c).2.2 d
 rw[if_neg g]at d;by_cases l:m=j
 ·rw[if_pos l]at d;exact Q y N k c d
 rw[if_neg l]at d;have:=(ps m).lt _ _ (h.is m s) k d;have:=(E k c).1;omega
end
def wcE (W:WoS) (i:Nat):Int:=qeg (W.S (W.at_ i)) (W.ses i) (W.wall (W.at_ i))
def wcT (W:WoS) (i:Nat):TxP:=qce (W.S (W.at_ i)) (W.ses i) (W.wall (W.at_ i))
def qd4 (W:WoS) (i:Nat):WoS:=vf (setSite W (W.at_ i) (qcc (W.S (W.at_ i)) (W.ses i) (W.wall (W.at_ i)))) i (j0 (W.S (W.at_ i)) (W.ses i) (W.wall (W.at_ i)))
def wcW (W:WoS) (i:Nat):WoS:=if 0<(wcT W i).seq then qam (wcT W i) W.n (qd4 W i)else qd4 W i
def q9n (w:World) (b:Nat) (G:Nat->Prop) (W:WoS) (i:Nat) (e:Ending) (w':World):Prop:=
 ∃m:TxM,e=.returned (.tuple #[txV m,jc (wcE W i)])/\m.t=wcT W i/\Hid (qr w' m.wa m.wc m.t.ws/\∃G',PW w' b G' (wcW W i)/\(∀k,G' k->G k\/w.heap.size<=k)/\qc G w w'/\∀k,m.blk k->w.heap.size<=k/\¬G' k)
theorem qvj {S:qe} {s:qy} {now:Int} (h:qeg S s now≠0):qce S s now=tx0.t/\qcc S s now=S/\j0 S s now=s:=by
 cases ho:s.opn with
 |false=>
  have:=qmm (S:=S) (now:=now) ho;exact⟨this.2.1,this.2.2.1,this.2.2.2⟩
 |true=>
  by_cases a:(jh s.ws).length=0
  ·exact absurd (qml (S:=S) (now:=now) ho a).1 h
  have y:=qjx (S:=S) (now:=now) ho a;rw[y.1]at h;have b:=qp7 (S:=S) (now:=now) ho a h;exact⟨y.2.1.trans b.2.2,y.2.2.trans b.2.1,b.1⟩
variable {W1:WoS} {B:Nat}
section
variable {w wA wB wC wD:World} {b:Nat} {G Y:Nat->Prop} {M:WoM} {W W':WoS} {Gs:Nat->Nat->Prop} {i:Nat}
theorem PWo.com (h:PWo w b M W Gs) (hi:i<W.c) (u:W.at_ i<W.n) (l:Bw w wA) {S':qe} {a:qy} (v:qfx (qix (M.bs i) a) (qeu (M.bp (W.at_ i)) S' Y) wA (Gs (W.n+i)) (Gs (W.at_ i)) Y wB) (p:Bw wB wC):
 ∃d,PWo wC b M (vf (setSite W (W.at_ i) S') i a) d/\(∀m k,d m k->Gs m k\/wA.heap.size<=k)/\qc (λk=>Gs (W.n+i) k\/Gs (W.at_ i) k) w wC/\∀m k,m<W.n+W.c->Y k->wA.heap.size<=k/\k<wB.heap.size/\¬d m k:=by
 have r:=h.later l
 obtain⟨d,f,g,x,y,z⟩:=r.fam.step2X (ps':=λm=>if m=W.at_ i then qeu (M.bp (W.at_ i)) S' Y else qci M (vf (setSite W (W.at_ i) S') i a) m) (i:=W.n+i) (j:=W.at_ i) (by omega) (by omega) v (λ_ q=>q.2) (by
  show (if W.n+i=W.at_ i then _ else _)=_;rw[if_neg (by omega)];show (if W.n+i<W.n then _ else _)=_;rw[if_neg (by omega)];show qix (M.bs (W.n+i-W.n)) (jj W.ses i a (W.n+i-W.n))=_
  rw[show W.n+i-W.n=i by omega,qt]) (by show (if W.at_ i=W.at_ i then _ else _)=_;rw[if_pos rfl]) (λm s D t=>by
  show (if m=W.at_ i then _ else _)=_;rw[if_neg t];show (if m<W.n then qfp (M.bp m) (jj W.S (W.at_ i) S' m)else qix (M.bs (m-W.n)) (jj W.ses i a (m-W.n)))=(if m<W.n then _ else _);by_cases q:m<W.n
  ·rw[if_pos q,if_pos q,yq _ _ t]
  rw[if_neg q,if_neg q,yq _ _ (by omega)])
 have A:zh wB (W.n+W.c) (qci M (vf (setSite W (W.at_ i) S') i a)) d (qfw b M) (W.n+W.c) NoY:=by
  refine⟨λm s=>?_,f.apart,f.free,f.half⟩;have:=f.is m s;by_cases q:m=W.at_ i
  ·have e:(if m=W.at_ i then qeu (M.bp (W.at_ i)) S' Y else qci M (vf (setSite W (W.at_ i) S') i a) m)=qeu (M.bp (W.at_ i)) S' Y:=if_pos q;rw[e]at this
   have C:qci M (vf (setSite W (W.at_ i) S') i a) m=qfp (M.bp (W.at_ i)) S':=by
        rw[q];show (if W.at_ i<W.n then qfp (M.bp (W.at_ i)) (jj W.S (W.at_ i) S' (W.at_ i))else _)=_;rw[if_pos u,qt]
   rw[C];exact this.1
  have e:(if m=W.at_ i then qeu (M.bp (W.at_ i)) S' Y else qci M (vf (setSite W (W.at_ i) S') i a) m)=qci M (vf (setSite W (W.at_ i) S') i a) m:=if_neg q;rw[e]at this;exact this
 exact⟨d,(r.keep x A rfl rfl rfl rfl rfl rfl).later p,g,((qc.ofBelow l).trans y).trans (qc.ofBelow p),z⟩
theorem PWo.told (h:PWo w b M W Gs) (d:∀k,G k↔qmp b M (W.n+W.c) Gs k) (hi:i<W.c) (K:W.at_ i<W.n) {f:Nat->Nat->Prop} (z:W1.n=W.n) (A:W1.c=W.c) (L:w.heap.size<=B) (N:B<=wC.heap.size) (g:∀m k,f m k->Gs m k\/B<=k) (p:qc (λk=>Gs (W.n+i) k\/Gs (W.at_ i) k) w wC) (s:∀m k,m<W.n+W.c->Y k->B<=k/\k<wC.heap.size/\¬f m k) (C:qby wC b M f (λk=>wC.heap.size<=k) W1 wD):
 ∃u,PW wD b u W1/\(∀k,u k->G k\/B<=k)/\qc G w wD/\∀k,Y k->B<=k/\¬u k:=by
 obtain⟨D,E,p1,p2,p3,r⟩:=C;have F:=p.size
 have y:∀k,qmp b {M with nv:=D,l:=E} (W1.n+W1.c) f k->G k\/wC.heap.size<=k\/(B<=k/\∃m,m<W.n+W.c/\f m k):=λk a=>by
  rw[z,A]at a;rcases a with (e|e|e|e|⟨x,H,e⟩)|⟨j,t,e⟩
  ·exact .inl ((d k).2 (.inl (.inl e)))
  ·exact .inl ((d k).2 (.inl (.inr (.inl e))))
  ·exact .inl ((d k).2 (.inl (.inr (.inr (.inl e)))))
  ·rcases p2 k e with q|q
   ·exact .inl ((d k).2 (.inl (.inr (.inr (.inr (.inl q))))))
   exact .inr (.inl q)
  ·rcases p3 x H with q|q
   ·exact .inl ((d k).2 (.inl (.inr (.inr (.inr (.inr ⟨x,q,e⟩))))))
   rw[e]at q;exact .inr (.inl q)
  rcases g j k e with q|q
  ·exact .inl ((d k).2 (.inr ⟨j,t,q⟩))
  exact .inr (.inr ⟨q,j,t,e⟩)
 have I:∀k,G k->k<w.heap.size:=λk a=>by
  rcases(d k).1 a with q|⟨j,t,q⟩
  ·exact h.ltF k q
  exact h.ltG t q
 refine⟨_,⟨_,f,p1,λ_=>jdl⟩,λk a=>?_,⟨r.os.trans p.os,r.tape.trans p.tape,r.output.trans p.output,jcn F r.size,λk a v=>?_⟩,λk a=>⟨(s 0 k (by omega) a).1,λe=>?_⟩⟩
 ·rcases y k a with q|q|q
  ·exact .inl q
  ·exact .inr (by omega)
  exact .inr q.1
 ·refine(r.block k (by omega) (λe=>v ((d k).2 (.inl (e.elim .inl (λq=>.inr (.inr (.inr (.inl q))))))))).trans (p.block k a (λe=>?_));rcases e with e|e
  ·exact v ((d k).2 (.inr ⟨W.n+i,by omega,e⟩))
  exact v ((d k).2 (.inr ⟨W.at_ i,by omega,e⟩))
 rcases y k e with q|q|⟨_,m,J,q⟩
 ·have:=I k q;have:=(s 0 k (by omega) a).1;omega
 ·have:=(s 0 k (by omega) a).2.1;omega
 exact(s m k J a).2.2 q
theorem qxt {m:TxM} (h:qr wD m.wa m.wc m.t.ws/\∃a,PW wD b a W1/\(∀k,a k->G k\/B<=k)/\qc G w wD/\∀k,m.blk k->B<=k/\¬a k) (r:∀k,G k->k<w.heap.size) (z:w.heap.size<B) (x0 x1 x2 x3 d f g j:Int) (v:Value):
 Hid (qr (js wD w.heap.size x0 x1 x2 x3 d f g j v) m.wa m.wc m.t.ws/\∃a,PW (js wD w.heap.size x0 x1 x2 x3 d f g j v) b a W1/\(∀k,a k->G k\/w.heap.size<=k)/\qc G w (js wD w.heap.size x0 x1 x2 x3 d f g j v)/\∀k,m.blk k->w.heap.size<=k/\¬a k):=by
 obtain⟨s,a,u,p,x,l⟩:=h
 have y:∀k,a k->k≠w.heap.size:=λk c e=>by
  rcases p k c with q|q
  ·have:=r k q;omega
  omega
 have A:(js wD w.heap.size x0 x1 x2 x3 d f g j v).heap.size=wD.heap.size:=by simp only[js,World.setCell,Array.size_modify]
 refine⟨s.kept (λk c=>qco (λe=>by have:=(l k c).1;omega) _ _ _ _ _ _ _ _ _),a,u.kept (λk c=>qco (y k c) _ _ _ _ _ _ _ _ _) (by omega),λk c=>?_,qwv x (jcd _) _ _ _ _ _ _ _ _ _,λk c=>⟨by have:=(l k c).1;omega,(l k c).2⟩⟩;rcases p k c with q|q
 ·exact .inl q
 exact .inr (by omega)
end
end
section
section
variable {w w1 w2:World} {b:Nat} {G:Nat->Prop} {W W1 W2:WoS}
theorem vh.get (h:vh w b G W1 w1):∃a,PW w1 b a W1:=by
 obtain⟨a,c,_⟩:=h;exact⟨a,c⟩
theorem vh.from (a:Bw w w1) (h:vh w1 b G W2 w2):vh w b G W2 w2:=by
 obtain⟨c,d,f,g⟩:=h;exact⟨c,d,λq j=>(f q j).elim .inl (λe=>.inr (jcn a.size e)),(qc.ofBelow a).trans g⟩
end
variable {W:WoS} {i:Nat}
theorem jay (a:WfW W) (hi:i<W.n):qho.ok ⟨i,(W.S i).a0,(W.S i).a1,(W.S i).a2,(W.S i).a3⟩=true:=by
 have g:=a.n4;have I:=a.inv i hi;have c:=I.a0;have d:=I.a1;have e:=I.a2;have f:=I.a3;unfold qag at c d e f;simp only[qho.ok,jct,jk,jb,qdz];refine⟨by omega,⟨⟨by omega,by omega⟩,by omega⟩,by omega⟩
variable {b:Nat} {G:Nat->Prop}
theorem qv9 (w:World) (h:PW w b G W) (hi:i<W.n):
 Ca 96 #[PP b,U i,U i] w λe w'=>e=.returned (jc 2)/\vh w b G W w':=by
 obtain⟨M,g,h,j⟩:=h;have d:=hd2 h j;obtain⟨m,o,l,p,q,r,s⟩:=h.place hi;have f:=yi (k:=i) (v:=true) w l (by simp;omega);have t:=h.box.lt;go_enter Tryz.func96,Tryz.ntmps96
 go_wp2_with fail
 refine f.mono ?_;rintro e w2 ⟨rfl,a⟩;have c:=a.symm;subst c
 go_wp2_with fail
 refine f.mono ?_;rintro e w2 ⟨rfl,a⟩;have c:=a.symm;subst c
 go_wp2_with fail
 go_ret;exact⟨rfl,vh.same ⟨M,g,d.out.1,d.out.2⟩ (jcc _ _)⟩
theorem q7k (w:World) (h:PW w b G W) (u:WfW W) {o:Nat} (hi:i<W.n) (T:o<W.n) (V:i≠o):
 Ca 96 #[PP b,U i,U o] w λe w'=>e=.returned (jc 0)/\vh w b G (qme W i o) w':=by
 obtain⟨M,x,h,y⟩:=h;have a:=hd3 h y u;obtain⟨X,Y,m,Z,aa,y0,y1⟩:=h.place hi;have z:=yi (k:=i) (v:=true) w m (by simp;omega);have B:=yi (k:=o) (v:=true) w m (by simp;omega);have hlt:=h.box.lt
 have q1:(i:Int)<(W.n:Int):=by omega
 have C:=h.site hi
 have q3:¬(i:Int)=(o:Int):=by omega
 have D:=qff w C;have E:=hd1 hi;go_enter Tryz.func96,Tryz.ntmps96
 go_wp2_with fail
 refine z.mono ?_;rintro e w2 ⟨rfl,d⟩;have f:=d.symm;subst f
 go_wp2_with fail
 refine B.mono ?_;rintro e w2 ⟨rfl,d⟩;have f:=d.symm;subst f
 go_wp2_with fail
 refine D.mono ?_;rintro e F ⟨rfl,p⟩;have H:=qvb (jay a.out.2.2 E.out) F
 go_wp2_with fail
 refine H.mono ?_;rintro e l ⟨S,g,r,rfl,⟨I,_⟩,J,O,K⟩;have s:=qa p K;have L:=jcn p.size O.base;have N:=a.out.1.later s
 have P:Hid (Ca 144 #[PP b,.agg #[U o,.slice (PT g) S.size r]] l λe w'=>e=.returned (.tuple #[])/\qby l b M x (λk=>k=g) (qme W i o) w'):=
  qou l N ⟨⟨o,.ask i (W.S i).a0 (W.S i).a1 (W.S i).a2 (W.S i).a3⟩,g,r,S⟩ ⟨O.mono (jcw _),J,I⟩ (.inr (λe=>by
   rcases e with q|⟨j,Q,q⟩
   ·have:g<w.heap.size:=a.out.1.ltF g q;omega
   have:g<w.heap.size:=a.out.1.ltG Q q
   omega))
 go_wp2_with fail
 refine P.out.mono ?_;rintro e w5 ⟨rfl,R⟩
 go_wp2_with fail
 go_ret;refine⟨rfl,?_⟩;have t:=yb W ⟨o,.ask i (W.S i).a0 (W.S i).a1 (W.S i).a2 (W.S i).a3⟩;exact(R.from s).post (W:=W) a.out.2.1 t.n t.c (λk e=>.inr (by rw[e];exact L))
theorem q5x (w:World) (h:PW w b G W) {g:GrS} (hi:W.net[i]?=some g):
 Ca 116 #[PP b,U i] w λe w'=>e=.returned (jc 0)/\vh w b G (zk W g) w':=by
 obtain⟨M,I,h,t⟩:=h
 have J:M.l.length=W.net.length:=by rw[<-h.nl];simp
 have x:i<M.l.length:=by have:=(jck.1 hi).1;omega
 obtain⟨m,a⟩:∃m,M.l[i]?=some m:=⟨_,jcg x⟩
 have y:m.g=g:=by
  have:=hi;rw[<-h.nl,jcv,a]at this;exact jcu this
 subst y;have d:=jcq a;obtain⟨z,K,B,r⟩:=qq h.nr
 obtain⟨L,rfl,N,o⟩:∃g,z=some (AD g 0)/\g<w.heap.size/\∀j u,(qap M.l)[j]?=some u->w.cell? (AD g j)=some u:=by
  rcases r.held with p|p
  ·omega
  exact p
 have q:=h.box.c 2;rw[B]at q;have x0:=o _ _ (qtm a).1;have x1:=o _ _ (qtm a).2;have C:=qey (k:=i) (v:=true) w q (by simp;omega);have D:=qou w h m (h.gr m d) (.inl ⟨m,d,rfl⟩);have f:=hd2 t d;have O:=h.box.lt
 have P:(i:Int)<(M.l.length:Int):=by omega
 have Q:=r.len;go_enter Tryz.func116,Tryz.ntmps116
 go_wp2_with fail
 refine C.mono ?_;rintro e w2 ⟨rfl,E⟩;have F:=E.symm;subst F
 go_wp2_with fail
 refine D.mono ?_;rintro e R ⟨rfl,H⟩
 go_wp2_with fail
 go_ret;have s:=yb W m.g;exact⟨rfl,H.post (W:=W) f.out.1 s.n s.c (λk e=>.inl ((f.out.1 k).2 (.inl (.inr (.inr (.inr (.inr ⟨m,f.out.2,e.symm⟩)))))))⟩
end
theorem qln (x y:Int) (w:World):
 Ca 220 #[U x,U y] w λe w'=>e=.returned (U (qm x y))/\w'=w:=by
 by_cases h:y<x
 ·rw[qj1 h];go_enter Tryz.func220,Tryz.ntmps220
  go_wp2
  go_ret;exact⟨rfl,rfl⟩
 rw[qjp h];go_enter Tryz.func220,Tryz.ntmps220
 go_wp2
 go_ret;exact⟨rfl,rfl⟩
theorem q7f (a0 a1 a2 a3 a b c d:Int) (w:World):
 Ca 219 #[.agg #[U a0,U a1,U a2,U a3],.agg #[U a,U b,U c,U d],.func (.func 220) #[] #[]] w (Rn (.agg #[U (qm a0 a),U (qm a1 b),U (qm a2 c),U (qm a3 d)]) w):=by
 go_enter Tryz.func219,Tryz.ntmps219
 go_wp2
 refine wp_loop_rounds 5 ?_;rw[rounds_succ]
 go_wp2
 go_region_held3 (λw'=>w'.cell? (AD w.heap.size 0)=some (U a0)/\w'.cell? (AD w.heap.size 1)=some (U a1)/\w'.cell? (AD w.heap.size 2)=some (U a2)/\w'.cell? (AD w.heap.size 3)=some (U a3)/\w'.cell? (AD (w.heap.size+1) 0)=some (U a)/\w'.cell? (AD (w.heap.size+1) 1)=some (U b)/\w'.cell? (AD (w.heap.size+1) 2)=some (U c)/\w'.cell? (AD (w.heap.size+1) 3)=some (U d)) (go_keep) ((go_at_call 220;refine(qln _ _ _).mono ?_;rintro e wc ⟨rfl,rfl⟩))
 go_wp2
 rw[rounds_succ]
 go_wp2
 go_region_held3 (λw'=>w'.cell? (AD w.heap.size 0)=some (U a0)/\w'.cell? (AD w.heap.size 1)=some (U a1)/\w'.cell? (AD w.heap.size 2)=some (U a2)/\w'.cell? (AD w.heap.size 3)=some (U a3)/\w'.cell? (AD (w.heap.size+1) 0)=some (U a)/\w'.cell? (AD (w.heap.size+1) 1)=some (U b)/\w'.cell? (AD (w.heap.size+1) 2)=some (U c)/\w'.cell? (AD (w.heap.size+1) 3)=some (U d)) (go_keep) ((go_at_call 220;refine(qln _ _ _).mono ?_;rintro e wc ⟨rfl,rfl⟩))
 go_wp2
 rw[rounds_succ]
 go_wp2
 go_region_held3 (λw'=>w'.cell? (AD w.heap.size 0)=some (U a0)/\w'.cell? (AD w.heap.size 1)=some (U a1)/\w'.cell? (AD w.heap.size 2)=some (U a2)/\w'.cell? (AD w.heap.size 3)=some (U a3)/\w'.cell? (AD (w.heap.size+1) 0)=some (U a)/\w'.cell? (AD (w.heap.size+1) 1)=some (U b)/\w'.cell? (AD (w.heap.size+1) 2)=some (U c)/\w'.cell? (AD (w.heap.size+1) 3)=some (U d)) (go_keep) ((go_at_call 220;refine(qln _ _ _).mono ?_;rintro e wc ⟨rfl,rfl⟩))
 go_wp2
 rw[rounds_succ]
 go_wp2
 go_region_held3 (λw'=>w'.cell? (AD w.heap.size 0)=some (U a0)/\w'.cell? (AD w.heap.size 1)=some (U a1)/\w'.cell? (AD w.heap.size 2)=some (U a2)/\w'.cell? (AD w.heap.size 3)=some (U a3)/\w'.cell? (AD (w.heap.size+1) 0)=some (U a)/\w'.cell? (AD (w.heap.size+1) 1)=some (U b)/\w'.cell? (AD (w.heap.size+1) 2)=some (U c)/\w'.cell? (AD (w.heap.size+1) 3)=some (U d)) (go_keep) ((go_at_call 220;refine(qln _ _ _).mono ?_;rintro e wc ⟨rfl,rfl⟩))
 go_wp2
 rw[rounds_succ]
 go_wp2
 exact bodyPost_ret (v:=.agg #[U (qm a0 a),U (qm a1 b),U (qm a2 c),U (qm a3 d)]) (by simp[results,Tryz.results219,go_sem]) rfl ⟨rfl,by repeat (first|exact jcc _ _|apply jc6|apply boxed)⟩
theorem qn5 (a0 a1 a2 a3 a b c d:Int) (w:World):
 Ca 163 #[.agg #[U a0,U a1,U a2,U a3],.agg #[U a,U b,U c,U d]] w (Rn (.agg #[U (qm a0 a),U (qm a1 b),U (qm a2 c),U (qm a3 d)]) w):=by
 go_enter Tryz.func163,Tryz.ntmps163
 go_wp2_with fail
 refine(q7f _ _ _ _ _ _ _ _ _).mono ?_;rintro e g ⟨rfl,f⟩;obtain⟨h,i⟩:=qdb f
 have j:w.heap.size+2<g.heap.size:=by have:=f.size;simp at this;omega
 go_wp2
 exact bodyPost_ret (v:=.agg #[U (qm a0 a),U (qm a1 b),U (qm a2 c),U (qm a3 d)]) (by simp[results,Tryz.results163,go_sem,h]) rfl ⟨rfl,((((qs1 f).setCell (by simp;omega) _).setCell (by simp;omega) _).setCell (by simp;omega) _).setCell (by simp;omega) _⟩
section
variable {S:qe} {lv:Value} {bm:Nat}
theorem qk1 {k:Nat} (a:k<4):(qab S lv bm)[9+k*4]?=some (U (S.oth (k*4)))/\(qab S lv bm)[9+k*4+1]?=some (U (S.oth (k*4+1)))/\(qab S lv bm)[9+k*4+2]?=some (U (S.oth (k*4+2)))/\(qab S lv bm)[9+k*4+3]?=some (U (S.oth (k*4+3))):=by
 match k,a with
 |0,_=>exact⟨rfl,rfl,rfl,rfl⟩
 |1,_=>exact⟨rfl,rfl,rfl,rfl⟩
 |2,_=>exact⟨rfl,rfl,rfl,rfl⟩
 |3,_=>exact⟨rfl,rfl,rfl,rfl⟩
variable {b:Nat} {F:Nat->Prop}
theorem q3g {log waits:List TxM} (a:Int) (w:World) (h:zf w b lv bm F S log waits) (h4:4<a):
 Ca 162 #[PP b,U a] w λe w'=>
  e=.returned (.agg #[U (qj S (jw a)).v0,U (qj S (jw a)).v1,U (qj S (jw a)).v2,U (qj S (jw a)).v3])/\Bw w w':=by
 have H:=(qo.new w 77 0 0 0 0).boxed (.cells #[U S.a0,U S.a1,U S.a2,U S.a3] 77);have I:=qo.newest (w:=w.alloc (.cells #[U 0,U 0,U 0,U 0] 77)) (T:=77) (n:=w.heap.size+1) (a0:=S.a0) (a1:=S.a1) (a2:=S.a2) (a3:=S.a3) (by simp);have J:=boxed (boxed (jcc _ w) (.cells #[U 0,U 0,U 0,U 0] 77)) (.cells #[U S.a0,U S.a1,U S.a2,U S.a3] 77);have R:=hd1 h;have K:=h.box.lt;have V:=h.box.c 1;have X:=h.box.c 2;have Y:=h.box.c 3;have Z:=h.box.c 4;clear h;go_enter Tryz.func162,Tryz.ntmps162
 go_wp2_with fail
 have t:Hid (StM w S 0 ((w.alloc (.cells #[U 0,U 0,U 0,U 0] 77)).alloc (.cells #[U S.a0,U S.a1,U S.a2,U S.a3] 77))):=⟨H,I,J⟩;obtain⟨W,L⟩:∃W,(w.alloc (.cells #[U 0,U 0,U 0,U 0] 77)).alloc (.cells #[U S.a0,U S.a1,U S.a2,U S.a3] 77)=W:=⟨_,rfl⟩;rw[L]at t ⊢;clear L H I J V X Y Z K
 go_loopw [13] (λiv wr=>∃(k:Nat) (z:Int),k<=(jw a)/\z=k/\iv=U z/\Hid (StM w S k wr)) (λi _=>4-(intOf i).toNat)
 case atStart=>exact⟨0,0,by omega,rfl,rfl,t⟩
 clear t;obtain⟨k,z,hk,q,rfl,d⟩:=hrel;have M:=hd1 q;have hcut:(jw a)=min 4 a.toNat:=rfl;by_cases K:k<(jw a)
 ·have h1:z<a:=by omega
  have h2:z<4:=by omega
  have h5:0<=z:=by omega
  have h6:z.toNat=k:=by omega
  have hk4:k<4:=by omega
  clear hcut;have g:=R.out.later d.out.b;have i0:=g.box.c 0;by_cases u:z=S.id
  ·have e:Hid (qj S (k+1)=qj S k):=by
        show qj S (k+1)=qj S k
        have:(k:Int)=S.id:=by omega
        simp[qj,this]
   have AM2:Hid (StM w S (k+1) wr):=⟨d.out.r,by rw[e.out];exact d.out.v,d.out.b⟩
   have hd:(z==S.id)=true:=by simp[u]
   clear q g
   go_wp2_with fail
   go_roundw
   case rel=>exact⟨k+1,z+1,by omega,by have:=M.out;omega,by go_num,AM2⟩
   simp[intOf];omega
  have hd:(z==S.id)=false:=by simp[u]
  obtain⟨N,O,P,Q⟩:=qk1 (S:=S) (lv:=lv) (bm:=bm) hk4;have q0:=g.box.cell _ _ N;have q1:=g.box.cell _ _ O;have q2:=g.box.cell _ _ P;have q3:=g.box.cell _ _ Q;obtain⟨⟨j,l,m,o⟩,y⟩:∃v,qj S k=v:=⟨_,rfl⟩;obtain⟨p0,B⟩:∃x,S.oth (k*4)=x:=⟨_,rfl⟩;obtain⟨p1,C⟩:∃x,S.oth (k*4+1)=x:=⟨_,rfl⟩;obtain⟨p2,D⟩:∃x,S.oth (k*4+2)=x:=⟨_,rfl⟩;obtain⟨p3,E⟩:∃x,S.oth (k*4+3)=x:=⟨_,rfl⟩
  have EQ:Hid (qj S (k+1)=⟨qm j p0,qm l p1,qm m p2,qm o p3⟩):=by
   show qj S (k+1)=_
   have:¬(k:Int)=S.id:=by omega
   simp[qj,this,y,B,C,D,E]
  rw[B]at q0;rw[C]at q1;rw[D]at q2;rw[E]at q3
  have p:qo wr (w.heap.size+1) j l m o:=by have:=d.out.v;rw[y]at this;exact this
  have x0:=p.c0;have x1:=p.c1;have x2:=p.c2;have x3:=p.c3
  have PU:Hid (Ca 163 #[.agg #[U j,U l,U m,U o],.agg #[U p0,U p1,U p2,U p3]] wr.drew λe w'=>e=.returned (.agg #[U (qm j p0),U (qm l p1),U (qm m p2),U (qm o p3)])/\qo w' w.heap.size 0 0 0 0/\qo w' (w.heap.size+1) j l m o/\Bw w w'):=
   (qn5 j l m o p0 p1 p2 p3 wr.drew).mono λe w' ⟨he,G⟩=>⟨he,qo.later G d.out.r.drew,qo.later G p.drew,qa d.out.b.drew G⟩
  have hB:w.heap.size<=w.heap.size+1:=by omega
  have hBB:=d.out.b.drew;clear q g N O P Q y B C D E p d u
  go_wp2_with fail
  go_region_with
   (first|(go_at_call 163;with_reducible refine PU.out.mono ?_;rintro e w5 ⟨rfl,RR5,f,hb5⟩;have y0:=f.c0;have y1:=f.c1;have y2:=f.c2;have y3:=f.c3;have z0:=f.f0;have z1:=f.f1;have z2:=f.f2;have z3:=f.f3))
  all_goals
   have SM:Hid (StM w S (k+1) ((((w5.setCell (AD (w.heap.size+1) 0) (U (qm j p0))).setCell (AD (w.heap.size+1) 1) (U (qm l p1))).setCell (AD (w.heap.size+1) 2) (U (qm m p2))).setCell (AD (w.heap.size+1) 3) (U (qm o p3)))):=
        ⟨RR5.far4 (by omega),by rw[EQ.out];exact f.set,qj9 hb5 hB _ _ _ _⟩
   go_wp2_with fail
   go_roundw
   case rel=>exact⟨k+1,z+1,by omega,by have:=M.out;omega,by go_num,SM⟩
   simp[intOf];omega
 have hke:k=(jw a):=by omega
 have h2:¬z<4:=by omega
 clear hcut;subst hke;have r0:=d.out.r.c0;have r1:=d.out.r.c1;have r2:=d.out.r.c2;have r3:=d.out.r.c3;have f0:=d.out.r.f0;have f1:=d.out.r.f1;have f2:=d.out.r.f2;have f3:=d.out.r.f3;have x0:=d.out.v.c0;have x1:=d.out.v.c1;have x2:=d.out.v.c2;have x3:=d.out.v.c3;have s:=d.out.r.set (x0:=(qj S (jw a)).v0) (x1:=(qj S (jw a)).v1) (x2:=(qj S (jw a)).v2) (x3:=(qj S (jw a)).v3);have hbZ:=qj9 d.out.b (jcd _) (qj S (jw a)).v0 (qj S (jw a)).v1 (qj S (jw a)).v2 (qj S (jw a)).v3;have g0:=s.c0;have g1:=s.c1;have g2:=s.c2;have g3:=s.c3;clear q
 go_wp2_with fail
 exact bodyPost_ret (v:=.agg #[U (qj S (jw a)).v0,U (qj S (jw a)).v1,U (qj S (jw a)).v2,U (qj S (jw a)).v3]) (by simp[results,Tryz.results162,go_sem,g0,g1,g2,g3]) rfl ⟨rfl,hbZ⟩
theorem q21 {log waits:List TxM} (a:Int) (w:World) (h:zf w b lv bm F S log waits) (h4:¬4<a):
 Ca 162 #[PP b,U a] w λe w'=>
  e=.returned (.agg #[U (qj S (jw a)).v0,U (qj S (jw a)).v1,U (qj S (jw a)).v2,U (qj S (jw a)).v3])/\Bw w w':=by
 have H:=(qo.new w 77 0 0 0 0).boxed (.cells #[U S.a0,U S.a1,U S.a2,U S.a3] 77);have I:=qo.newest (w:=w.alloc (.cells #[U 0,U 0,U 0,U 0] 77)) (T:=77) (n:=w.heap.size+1) (a0:=S.a0) (a1:=S.a1) (a2:=S.a2) (a3:=S.a3) (by simp);have J:=boxed (boxed (jcc _ w) (.cells #[U 0,U 0,U 0,U 0] 77)) (.cells #[U S.a0,U S.a1,U S.a2,U S.a3] 77);have R:=hd1 h;have K:=h.box.lt;have V:=h.box.c 1;have X:=h.box.c 2;have Y:=h.box.c 3;have Z:=h.box.c 4;clear h;go_enter Tryz.func162,Tryz.ntmps162
 go_wp2_with fail
 have t:Hid (StM w S 0 ((w.alloc (.cells #[U 0,U 0,U 0,U 0] 77)).alloc (.cells #[U S.a0,U S.a1,U S.a2,U S.a3] 77))):=⟨H,I,J⟩;obtain⟨W,L⟩:∃W,(w.alloc (.cells #[U 0,U 0,U 0,U 0] 77)).alloc (.cells #[U S.a0,U S.a1,U S.a2,U S.a3] 77)=W:=⟨_,rfl⟩;rw[L]at t ⊢;clear L H I J V X Y Z K
 go_loopw [13] (λiv wr=>∃(k:Nat) (z:Int),k<=(jw a)/\z=k/\iv=U z/\Hid (StM w S k wr)) (λi _=>4-(intOf i).toNat)
 case atStart=>exact⟨0,0,by omega,rfl,rfl,t⟩
 clear t;obtain⟨k,z,hk,q,rfl,d⟩:=hrel;have M:=hd1 q;have hcut:(jw a)=min 4 a.toNat:=rfl;by_cases K:k<(jw a)
 ·have h1:z<a:=by omega
  have h2:z<4:=by omega
  have h5:0<=z:=by omega
  have h6:z.toNat=k:=by omega
  have hk4:k<4:=by omega
  clear hcut;have g:=R.out.later d.out.b;have i0:=g.box.c 0;by_cases u:z=S.id
  ·have e:Hid (qj S (k+1)=qj S k):=by
        show qj S (k+1)=qj S k
        have:(k:Int)=S.id:=by omega
        simp[qj,this]
   have AM2:Hid (StM w S (k+1) wr):=⟨d.out.r,by rw[e.out];exact d.out.v,d.out.b⟩
   have hd:(z==S.id)=true:=by simp[u]
   clear q g
   go_wp2_with fail
   go_roundw
   case rel=>exact⟨k+1,z+1,by omega,by have:=M.out;omega,by go_num,AM2⟩
   simp[intOf];omega
  have hd:(z==S.id)=false:=by simp[u]
  obtain⟨N,O,P,Q⟩:=qk1 (S:=S) (lv:=lv) (bm:=bm) hk4;have q0:=g.box.cell _ _ N;have q1:=g.box.cell _ _ O;have q2:=g.box.cell _ _ P;have q3:=g.box.cell _ _ Q;obtain⟨⟨j,l,m,o⟩,y⟩:∃v,qj S k=v:=⟨_,rfl⟩;obtain⟨p0,B⟩:∃x,S.oth (k*4)=x:=⟨_,rfl⟩;obtain⟨p1,C⟩:∃x,S.oth (k*4+1)=x:=⟨_,rfl⟩;obtain⟨p2,D⟩:∃x,S.oth (k*4+2)=x:=⟨_,rfl⟩;obtain⟨p3,E⟩:∃x,S.oth (k*4+3)=x:=⟨_,rfl⟩
  have EQ:Hid (qj S (k+1)=⟨qm j p0,qm l p1,qm m p2,qm o p3⟩):=by
   show qj S (k+1)=_
   have:¬(k:Int)=S.id:=by omega
   simp[qj,this,y,B,C,D,E]
  rw[B]at q0;rw[C]at q1;rw[D]at q2;rw[E]at q3
  have p:qo wr (w.heap.size+1) j l m o:=by have:=d.out.v;rw[y]at this;exact this
  have x0:=p.c0;have x1:=p.c1;have x2:=p.c2;have x3:=p.c3
  have PU:Hid (Ca 163 #[.agg #[U j,U l,U m,U o],.agg #[U p0,U p1,U p2,U p3]] wr.drew λe w'=>e=.returned (.agg #[U (qm j p0),U (qm l p1),U (qm m p2),U (qm o p3)])/\qo w' w.heap.size 0 0 0 0/\qo w' (w.heap.size+1) j l m o/\Bw w w'):=
   (qn5 j l m o p0 p1 p2 p3 wr.drew).mono λe w' ⟨he,G⟩=>⟨he,qo.later G d.out.r.drew,qo.later G p.drew,qa d.out.b.drew G⟩
  have hB:w.heap.size<=w.heap.size+1:=by omega
  have hBB:=d.out.b.drew;clear q g N O P Q y B C D E p d u
  go_wp2_with fail
  go_region_with
   (first|(go_at_call 163;with_reducible refine PU.out.mono ?_;rintro e w5 ⟨rfl,RR5,f,hb5⟩;have y0:=f.c0;have y1:=f.c1;have y2:=f.c2;have y3:=f.c3;have z0:=f.f0;have z1:=f.f1;have z2:=f.f2;have z3:=f.f3))
  all_goals
   have SM:Hid (StM w S (k+1) ((((w5.setCell (AD (w.heap.size+1) 0) (U (qm j p0))).setCell (AD (w.heap.size+1) 1) (U (qm l p1))).setCell (AD (w.heap.size+1) 2) (U (qm m p2))).setCell (AD (w.heap.size+1) 3) (U (qm o p3)))):=
        ⟨RR5.far4 (by omega),by rw[EQ.out];exact f.set,qj9 hb5 hB _ _ _ _⟩
   go_wp2_with fail
   go_roundw
   case rel=>exact⟨k+1,z+1,by omega,by have:=M.out;omega,by go_num,SM⟩
   simp[intOf];omega
 have hke:k=(jw a):=by omega
 have h1:¬z<a:=by omega
 clear hcut;subst hke;have r0:=d.out.r.c0;have r1:=d.out.r.c1;have r2:=d.out.r.c2;have r3:=d.out.r.c3;have f0:=d.out.r.f0;have f1:=d.out.r.f1;have f2:=d.out.r.f2;have f3:=d.out.r.f3;have x0:=d.out.v.c0;have x1:=d.out.v.c1;have x2:=d.out.v.c2;have x3:=d.out.v.c3;have s:=d.out.r.set (x0:=(qj S (jw a)).v0) (x1:=(qj S (jw a)).v1) (x2:=(qj S (jw a)).v2) (x3:=(qj S (jw a)).v3);have hbZ:=qj9 d.out.b (jcd _) (qj S (jw a)).v0 (qj S (jw a)).v1 (qj S (jw a)).v2 (qj S (jw a)).v3;have g0:=s.c0;have g1:=s.c1;have g2:=s.c2;have g3:=s.c3;clear q
 go_wp2_with fail
 exact bodyPost_ret (v:=.agg #[U (qj S (jw a)).v0,U (qj S (jw a)).v1,U (qj S (jw a)).v2,U (qj S (jw a)).v3]) (by simp[results,Tryz.results162,go_sem,g0,g1,g2,g3]) rfl ⟨rfl,hbZ⟩
theorem qzh {log waits:List TxM} (a:Int) (w:World) (h:zf w b lv bm F S log waits):
 Ca 162 #[PP b,U a] w λe w'=>
  e=.returned (.agg #[U (qj S (jw a)).v0,U (qj S (jw a)).v1,U (qj S (jw a)).v2,U (qj S (jw a)).v3])/\Bw w w':=by
 by_cases c:4<a
 ·exact q3g a w h c
 exact q21 a w h c
end
section
variable {b:Nat} {S:qe}
theorem zf.know {w:World} {lv:Value} {bm:Nat} {F:Nat->Prop} {log waits:List TxM} (h:zf w b lv bm F S log waits) {k:Nat} (a:k<4) (x0 x1 x2 x3:Int):
 zf ((((w.setCell (AD b (9+k*4)) (U (jd (S.oth (k*4)) x0))).setCell (AD b (9+k*4+1)) (U (jd (S.oth (k*4+1)) x1))).setCell (AD b (9+k*4+2)) (U (jd (S.oth (k*4+2)) x2))).setCell (AD b (9+k*4+3)) (U (jd (S.oth (k*4+3)) x3))) b lv bm F (vp S k x0 x1 x2 x3) log waits:=by
 have a1:=h.cell (S':={S with oth:=λj=>if j=k*4 then jd (S.oth j) x0 else S.oth j}) (9+k*4) (U (jd (S.oth (k*4)) x0)) (by omega) (by match k,a with|0,_=>rfl|1,_=>rfl|2,_=>rfl|3,_=>rfl) rfl;have a2:=a1.cell (S':={S with oth:=λj=>if j=k*4 then jd (S.oth j) x0 else if j=k*4+1 then jd (S.oth j) x1 else S.oth j}) (9+k*4+1) (U (jd (S.oth (k*4+1)) x1)) (by omega) (by match k,a with|0,_=>rfl|1,_=>rfl|2,_=>rfl|3,_=>rfl) rfl;have a3:=a2.cell (S':={S with oth:=λj=>if j=k*4 then jd (S.oth j) x0 else if j=k*4+1 then jd (S.oth j) x1 else if j=k*4+2 then jd (S.oth j) x2 else S.oth j}) (9+k*4+2) (U (jd (S.oth (k*4+2)) x2)) (by omega) (by match k,a with|0,_=>rfl|1,_=>rfl|2,_=>rfl|3,_=>rfl) rfl;exact a3.cell (S':=vp S k x0 x1 x2 x3) (9+k*4+3) (U (jd (S.oth (k*4+3)) x3)) (by omega) (by match k,a with|0,_=>rfl|1,_=>rfl|2,_=>rfl|3,_=>rfl) rfl
theorem q3d {G:Nat->Prop} {n:Int} (J:0<=n) (K:n<4) (x0 x1 x2 x3:Int) (w:World) (h:PS w b G S):
 Ca 257 #[PP b,U n,.agg #[U x0,U x1,U x2,U x3]] w λe w'=>e=.returned (jc 0)/\PPo w b G (vp S n.toNat x0 x1 x2 x3) w':=by
 have L:=qp2 (n:=n) (v:=true) (by simp[J,K]) (w.alloc (.cells #[U x0,U x1,U x2,U x3] 77));have s:=boxed (jcc _ w) (.cells #[U x0,U x1,U x2,U x3] 77);have M:=qd.new (w:=w) (T:=77) [U x0,U x1,U x2,U x3] rfl;obtain⟨k,N⟩:∃k,n.toNat=k:=⟨_,rfl⟩
 have l:k<4:=by omega
 obtain⟨lv,bm,F,log,waits,t,O,P,u⟩:=h
 have y:Hid (∀W,Bw w W->∀W',W'=((((W.setCell (AD b (9+k*4)) (U (jd (S.oth (k*4)) x0))).setCell (AD b (9+k*4+1)) (U (jd (S.oth (k*4+1)) x1))).setCell (AD b (9+k*4+2)) (U (jd (S.oth (k*4+2)) x2))).setCell (AD b (9+k*4+3)) (U (jd (S.oth (k*4+3)) x3)))->PPo w b G (vp S n.toNat x0 x1 x2 x3) W'):=λW c W' e=>by
  rw[N];have z:=(t.later c).know l x0 x1 x2 x3;have d:=(u b).2 (.inl (.inl rfl))
  have Q:qc G W W':=by
   rw[e];exact(((qc.setCell W (AD b (9+k*4)) _ d).trans (qc.setCell _ (AD b (9+k*4+1)) _ d)).trans (qc.setCell _ (AD b (9+k*4+2)) _ d)).trans (qc.setCell _ (AD b (9+k*4+3)) _ d)
  rw[<-e]at z;exact⟨G,⟨lv,bm,F,log,waits,z,O,P,u⟩,λj m=>.inl m,(qc.ofBelow c).more Q (λj m=>.inl m)⟩
 obtain⟨o,p,q,r⟩:=qk1 (S:=S) (lv:=lv) (bm:=bm) l;have B:Hid (∀W,Bw w W->zf W b lv bm F S log waits):=λW c=>t.later c;obtain⟨p0,C⟩:∃x,S.oth (k*4)=x:=⟨_,rfl⟩;obtain⟨p1,D⟩:∃x,S.oth (k*4+1)=x:=⟨_,rfl⟩;obtain⟨p2,E⟩:∃x,S.oth (k*4+2)=x:=⟨_,rfl⟩;obtain⟨p3,H⟩:∃x,S.oth (k*4+3)=x:=⟨_,rfl⟩;rw[C]at o;rw[D]at p;rw[E]at q;rw[H]at r;rw[C,D,E,H]at y;have R:=s.drew;have V:Hid (Ca 240 #[.agg #[U p0,U p1,U p2,U p3],.agg #[U x0,U x1,U x2,U x3]] (w.alloc (.cells #[U x0,U x1,U x2,U x3] 77)).drew (Rn (.agg #[U (jd p0 x0),U (jd p1 x1),U (jd p2 x2),U (jd p3 x3)]) w)):=(qzz p0 p1 p2 p3 x0 x1 x2 x3 _).mono λe w' ⟨X,Y⟩=>⟨X,qa R Y⟩;have f:=(B.out _ s).box;have q0:=f.cell _ _ o;have q1:=f.cell _ _ p;have q2:=f.cell _ _ q;have q3:=f.cell _ _ r;obtain⟨r0,r1,r2,r3⟩:=M.c4;have g:=hd4 o p q r;have i:=hd1 l;go_enter Tryz.func257,Tryz.ntmps257
 go_wp2_with fail
 refine L.mono ?_;rintro e w2 ⟨rfl,rfl⟩
 go_wp2_with fail
 go_region_law (first
  |(refine je rfl 240 #[.agg #[U p0,U p1,U p2,U p3],.agg #[U x0,U x1,U x2,U x3]] (by go_simp) V.out ?_
    rintro e Z ⟨rfl,I⟩;refine⟨_,rfl,?_⟩;have a:=(B.out _ I).box;have s0:=a.cell _ _ g.out.1;have s1:=a.cell _ _ g.out.2.1;have s2:=a.cell _ _ g.out.2.2.1;have s3:=a.cell _ _ g.out.2.2.2;have f0:=a.free (9+k*4) (by have:=i.out;simp[qab];omega);have f1:=a.free (9+k*4+1) (by have:=i.out;simp[qab];omega);have f2:=a.free (9+k*4+2) (by have:=i.out;simp[qab];omega);have f3:=a.free (9+k*4+3) (by have:=i.out;simp[qab];omega)
    clear a))
 all_goals
  have aa:=y.out Z I _ rfl
  go_wp2_with fail
  go_ret;exact⟨rfl,aa⟩
end
theorem qjr (a:Nat) (t:TxP):∀(l:List TxP) (W:WoS),zl a (l++[t]) W=if t.site=(a:Int)then zl a l W else zk (zl a l W) ⟨a,.tx t⟩
 |[],W=>rfl
 |x::l,W=>by
  show zl a (l++[t]) _=_;rw[qjr a t l];rfl
variable {b i:Nat} {W:WoS}
theorem PWo.stepSm {w w':World} {M:WoM} {a:Nat->Nat->Prop} (h:PWo w b M W a) (hi:i<W.n) {S':qe} (d:PPo w (M.bp i) (a i) S' w'):∃c,PWo w' b M (setSite W i S') c/\(∀j k,c j k->a j k\/w.heap.size<=k)/\qc (a i) w w':=by
 obtain⟨c,f,g,e,l⟩:=h.fam.stepG (ps':=qci M (setSite W i S')) (i:=i) (by omega) (p:=qfp (M.bp i) S') d (by show (if i<W.n then _ else _)=_;rw[if_pos hi];show qfp (M.bp i) (jj W.S i S' i)=_;rw[qt]) (λj o m=>by
  show (if j<W.n then qfp (M.bp j) (jj W.S i S' j)else _)=(if j<W.n then _ else _);rw[yq _ _ m]
  rfl)
 exact⟨c,h.keep e f rfl rfl rfl rfl rfl rfl,g,l⟩
theorem q3q {G:Nat->Prop} (a d f p:Int) (w:World) (h:PW w b G W) (hw:WfW W) {o:Nat} (hi:i<W.n) (ho:o<W.n):
 Ca 212 #[PP b,U i,U o,.agg #[U a,U d,U f,U p]] w λe w'=>e=.returned (.tuple #[])/\vh w b G (qbc W i o a d f p) w':=by
 obtain⟨M,Gs,h,hG⟩:=h;have hb1:=boxed (jcc _ w) (.cells #[U a,U d,U f,U p] 77);have RV:=qd.new (w:=w) (T:=77) [U a,U d,U f,U p] rfl;change qd (w.alloc (.cells #[U a,U d,U f,U p] 77)) w.heap.size [U a,U d,U f,U p]at RV;have H1:=h.later hb1;obtain⟨pb,pc,c0,hpc,hpb,y0,y1⟩:=H1.place hi;have hlt:=h.box.lt;have n4:=hw.n4;have KN:=q3d (n:=o) (by omega) (by omega) a d f p _ (H1.site hi);have B:=hd4 h hG hw hi
 have q1:(i:Int)<(W.n:Int):=by omega
 obtain⟨z0,z1,z2,z3⟩:=RV.c4;rw[show ((o:Int)).toNat=o by omega]at KN;have HR:=hd3 RV hb1 H1;clear h hG hw H1 RV;go_enter Tryz.func212,Tryz.ntmps212
 go_wp2_with fail
 refine KN.mono ?_;rintro e w2 ⟨rfl,hp⟩;rw[show jc 0=.nilIface from rfl];obtain⟨Gs2,K2,hsub,tt2⟩:=HR.out.2.2.stepSm B.out.2.2.2 hp;have RV2:=HR.out.1.kept (tt2.block _ HR.out.1.lt (λe=>by have:=B.out.1.ltG (by have:=B.out.2.2.2;omega) e;omega)) tt2.size;have MS:=qtx a d f p w2 (K2.site (i:=i) B.out.2.2.2) (by show j3 (jj W.S i (vp (W.S i) o a d f p) i);rw[qt];exact(B.out.2.2.1.inv i B.out.2.2.2).knows _);rw[show qd6 ((setSite W i (vp (W.S i) o a d f p)).S i) a d f p=qd6 (W.S i) a d f p by show qd6 (jj W.S i (vp (W.S i) o a d f p) i) a d f p=_;rw[qt];rfl]at MS;have R:=hd3 K2 (show (∀j k,Gs2 j k->Gs j k\/w.heap.size<=k)from λj k e=>(hsub j k e).elim .inl (λq=>.inr (by simp at q;omega))) tt2;clear z0 z1 z2 z3 c0 y0 y1 KN hp K2 hsub tt2;obtain⟨z0,z1,z2,z3⟩:=RV2.c4
 go_wp2_with fail
 refine MS.mono ?_;rintro e O ⟨v,rfl,y,k1,⟨B9,hB9,k2⟩,k3,k4⟩;obtain⟨ma,mc,hv,hMx⟩:=yx k2;subst hv;have K3:=R.out.1.later k4
 have hkl:y.length<=200:=by
  have e1:=congrArg List.length k1;have e2:(qd6 (W.S i) a d f p).length<=(W.S i).log.length:=jdo _ _;have e3:=(B.out.2.2.1.inv i B.out.2.2.2).log;simp at e1;omega
 have hml:=hMx.len;have hmc:=hMx.cap
 have P:=hd6 hMx k1 k3 (show (∀k off,ma=some (AD k off)->y≠[]->w2.heap.size<=k)from λk off e V=>by
  rcases k2.2 with ⟨q,h0⟩|⟨g,cap,cur,q,hb9,_⟩
  ·exact absurd (jc2 h0) V
  injection q with q1 q2 q3;rw[e]at q1;injection q1 with q1;injection q1 with q1
  omega) K3 k4
 clear MS z0 z1 z2 z3 RV2 k1 k2 k3 k4 K3 hMx
 go_wp2_with fail
 go_loopw [27] (λiv wr=>∃(k:Nat) (z:Int),k<=y.length/\z=k/\iv=U z/\Hid (qby O b M Gs2 (λq=>O.heap.size<=q) (zl o ((y.map (·.t)).take k) (setSite W i (vp (W.S i) o a d f p))) wr)) (λiv _=>y.length-(intOf iv).toNat)
 case atStart=>exact⟨0,0,by omega,rfl,rfl,qby.none P.out.2.2.2.2.1 (jcc _ _) _⟩
 obtain⟨k,z,hk,hz,rfl,HS⟩:=hrel;have HZ:=hd1 hz;by_cases hlt2:k<y.length
 ·have g1:z<(y.length:Int):=by omega
  have g2:z.toNat=k:=by omega
  have g3:0<=z:=by omega
  have g4:z<200:=by omega
  clear hz
  obtain⟨L,N,haa,hcc⟩:∃b off,ma=some (AD b off)/\∀i m r u,y[i]?=some m->(txC m)[r]?=some u->O.cell? (AD b (off+(i*9+r)))=some u:=by
   rcases P.out.1.held with h0|h0
   ·rw[h0]at hlt2;simp at hlt2
   exact h0
  have hne:y≠[]:=λe=>by rw[e]at hlt2;simp at hlt2
  have hab:=P.out.2.2.2.1 L N haa hne;subst haa;have ltb:=λq e=>R.out.1.ltF q e;have kp:∀q,w2.heap.size<=q->q<O.heap.size->wr.heap[q]?=O.heap[q]?:=λq hq hq3=>HS.out.block hq3 (λe=>by have:=ltb b (.inl rfl);omega) (λe=>by have:=ltb q (.inr (.inr (.inr (.inl e))));omega);obtain⟨⟨⟨C,E,wall,F,H,I,J,K,D⟩,X,Y⟩,hm⟩:∃m,y[k]?=some m:=⟨_,jcg hlt2⟩;have hab3:L<O.heap.size:=jcr _ _ (hcc k _ 0 _ hm rfl)
  have Q:∀r u,(txC ⟨⟨C,E,wall,F,H,I,J,K,D⟩,X,Y⟩)[r]?=some u->wr.cell? (AD L (N+(k*9+r)))=some u:=λr u hu=>by rw[jch (w:=O) (kp L hab hab3)];exact hcc k _ r u hm hu
  have x0:wr.cell? (AD L (N+k*9))=some (U C):=Q 0 _ rfl;have x1:wr.cell? (AD L (N+k*9+1))=some (U E):=Q 1 _ rfl;have x2:wr.cell? (AD L (N+k*9+2))=some (U wall):=Q 2 _ rfl;have x3:wr.cell? (AD L (N+k*9+3))=some (U F):=Q 3 _ rfl;have x4:wr.cell? (AD L (N+k*9+4))=some (U H):=Q 4 _ rfl;have x5:wr.cell? (AD L (N+k*9+5))=some (U I):=Q 5 _ rfl;have x6:wr.cell? (AD L (N+k*9+6))=some (U J):=Q 6 _ rfl;have x7:wr.cell? (AD L (N+k*9+7))=some (U K):=Q 7 _ rfl;have x8:wr.cell? (AD L (N+k*9+8))=some (.slice X D.length Y):=Q 8 _ rfl;have hmem:=jcq hm;have hWr:Hid (qr wr X Y D):=qr.kept (m:=⟨⟨C,E,wall,F,H,I,J,K,D⟩,X,Y⟩) (P.out.2.2.1 _ hmem).1 (λq e=>kp q ((P.out.2.2.1 _ hmem).2 q e) ((P.out.2.2.1 _ hmem).1.blk_lt q e))
  have hok:Hid (jt C E wall F H I J K D=true):=B.out.2.2.1.lok i B.out.2.2.2 ⟨C,E,wall,F,H,I,J,K,D⟩ (by
   have:(⟨C,E,wall,F,H,I,J,K,D⟩:TxP)∈qd6 (W.S i) a d f p:=by rw[<-P.out.2.1];exact jcz.2 ⟨_,hmem,rfl⟩
   exact(jdq.1 this).1)
  have HT:Hid (zl o ((y.map (·.t)).take (k+1)) (setSite W i (vp (W.S i) o a d f p))=if C=(o:Int)then zl o ((y.map (·.t)).take k) (setSite W i (vp (W.S i) o a d f p))else zk (zl o ((y.map (·.t)).take k) (setSite W i (vp (W.S i) o a d f p))) ⟨o,.tx ⟨C,E,wall,F,H,I,J,K,D⟩⟩):=by
   show _=_;rw[jdu,jcv,hm];exact qjr o ⟨C,E,wall,F,H,I,J,K,D⟩ _ _
  have bx:=boxed (jcc _ wr) (.cells (List.toArray (T9 C E wall F H I J K X D.length Y)) 102);have RX:=qd.new (w:=wr) (T:=102) (T9 C E wall F H I J K X D.length Y) rfl;change qd (wr.alloc (.cells (List.toArray (T9 C E wall F H I J K X D.length Y)) 102)) wr.heap.size (T9 C E wall F H I J K X D.length Y)at RX;obtain⟨t0,t1,t2,t3,t4,t5,t6,t7,t8⟩:=RX.c9;clear hcc Q kp ltb hm hmem hab hab3 hne;by_cases hs:C=(o:Int)
  ·have HT2:=hd1 (HT.out.trans (if_pos hs))
   go_wp2_with fail
   go_roundw
   case rel=>exact⟨k+1,z+1,by omega,by have:=HZ.out;omega,by go_num,by show qby _ _ _ _ _ _ _;rw[HT2.out];exact HS.out.next (λnv l hP=>qby.none hP (boxed (jcc _ wr) _) _)⟩
   simp[intOf];have:=HZ.out;omega
  have HT2:=hd1 (HT.out.trans (if_neg hs));have S2:=hd1 (HS.out.next (λnv l hP=>qby.none hP bx _));obtain⟨nv',l',h1,h2,h3,Z⟩:=S2.out;have SX:=hd1 (qoq o C E wall F H I J K D X Y _ h1 (hWr.out.later bx) hok.out);have HP:=hd4 h1 h2 (show (∀x∈l',x∈M.l\/O.heap.size<=x.blk)from h3) Z;clear h1 h2 h3 Z
  go_wp2_with fail
  refine SX.out.mono ?_;rintro e w5 ⟨rfl,hS⟩
  have SN:Hid (qby O b M Gs2 (λq=>O.heap.size<=q) (zk (zl o ((y.map (·.t)).take k) (setSite W i (vp (W.S i) o a d f p))) ⟨o,.tx ⟨C,E,wall,F,H,I,J,K,D⟩⟩) w5):=by
   obtain⟨h1,h2,h3,Z⟩:=HP.out;obtain⟨nv2,l2,g1',g2',g3',gt⟩:=hS;have s:=Z.size;refine⟨nv2,l2,g1',λq e=>?_,λx hx=>?_,?_⟩
   ·rcases g2' q e with r|r
    ·exact h2 q r
    exact .inr (by omega)
   ·rcases g3' x hx with r|r
    ·exact h3 x r
    exact .inr (by omega)
   refine⟨gt.os.trans Z.os,gt.tape.trans Z.tape,gt.output.trans Z.output,jcn s gt.size,λq hq V=>?_⟩;refine(gt.block q (by omega) (λe=>?_)).trans (Z.block q hq V);rcases e with e|e
   ·exact V (.inl e)
   rcases h2 q e with r|r
   ·exact V (.inr r)
   omega
  clear SX HP S2 x0 x1 x2 x3 x4 x5 x6 x7 x8 t0 t1 t2 t3 t4 t5 t6 t7 t8 RX
  go_wp2_with fail
  go_roundw
  case rel=>exact⟨k+1,z+1,by omega,by have:=HZ.out;omega,by go_num,by show qby _ _ _ _ _ _ _;rw[HT2.out];exact SN.out⟩
  simp[intOf];have:=HZ.out;omega
 have g1:¬z<(y.length:Int):=by omega
 have e:k=y.length:=by omega
 go_wp2_with fail
 go_end0;have S9:=HS.out;rw[e,show ((y.map (·.t)).take y.length)=qd6 (W.S i) a d f p by rw[<-P.out.2.1];exact List.take_of_length_le (by simp)]at S9;have sm:=qds o (qd6 (W.S i) a d f p) (setSite W i (vp (W.S i) o a d f p));have P1:vh w2 b (qmp b M (W.n+W.c) Gs2) (qbc W i o a d f p) wr:=(S9.from P.out.2.2.2.2.2).post (W:=W) (λ_=>jdl) sm.n sm.c (λk hk=>.inr (jcn P.out.2.2.2.2.2.size hk));obtain⟨G5,k1,k2,kt⟩:=P1;have s1:=R.out.2.2.size
 have s0:(w.alloc (.cells #[U a,U d,U f,U p] 77)).heap.size=w.heap.size+1:=by simp
 refine⟨rfl,G5,k1,λq hq=>?_,?_⟩
 ·rcases k2 q hq with (r|⟨j,hj,r⟩)|r
  ·exact .inl ((B.out.2.1 q).2 (.inl r))
  ·rcases R.out.2.1 j q r with r2|r2
   ·exact .inl ((B.out.2.1 q).2 (.inr ⟨j,hj,r2⟩))
   exact .inr r2
  exact .inr (by omega)
 refine⟨kt.os.trans R.out.2.2.os,kt.tape.trans R.out.2.2.tape,kt.output.trans R.out.2.2.output,by have:=kt.size;omega,λq hq V=>?_⟩;refine(kt.block q (by omega) (λr=>?_)).trans ((R.out.2.2.block q (by omega) (λr=>V ((B.out.2.1 q).2 (.inr ⟨i,by have:=B.out.2.2.2;omega,r⟩)))).trans (HR.out.2.1.block q hq));rcases r with r|⟨j,hj,r⟩
 ·exact V ((B.out.2.1 q).2 (.inl r))
 rcases R.out.2.1 j q r with r2|r2
 ·exact V ((B.out.2.1 q).2 (.inr ⟨j,hj,r2⟩))
 omega
end Go.Proofs.YtoanjdndmlffdaaGreatDoor
