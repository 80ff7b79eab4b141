import Derived.Test.YtbfkeoagmajcpaaGreatDoorKDkM0
import Derived.Test.YtbfkeoagmajcpaaGreatDoorSiteL
import Derived.Test.YtbfkeoagmajcpaaGreatDoorKDkMA
import Derived.Shelf.Strings.BuilderK
set_option maxHeartbeats 8000000
set_option maxRecDepth 100000
set_option linter.defProp false
namespace Go.Proofs.YtbfkeoagmajcpaaGreatDoor
open Go.RowKit
variable {B cb i mb:Nat} {W:WoS} {w:Wl}
section
open _root_.Go.Proofs.Tryz Go.Maps
def qmx (i:Nat):Prop:=∀{w:Wl} {cb mb b j cap:Nat} {Gw G:Np} {W:WoS} {a:Oa} {l:List By},vk w cb mb b Gw G W j a cap l->Ca (q3p i) #[PP cb,.slice a l.length cap] w (jm i W l w cb mb G)
def qvl (d:qmx 9):∀i,i<19->qmx i
 |0,_=>λh=>q4h _ h
 |1,_=>λh=>ja5 _ h
 |2,_=>λh=>q5e _ h
 |3,_=>λh=>q8k _ h
 |4,_=>λh=>q3r _ h
 |5,_=>λh=>q3k _ h
 |6,_=>λh=>qze _ h
 |7,_=>λh=>q8p _ h
 |8,_=>λh=>q92 _ h
 |9,_=>d
 |10,_=>λh=>q8t _ h
 |11,_=>λh=>q9x _ h
 |12,_=>λh=>q8m _ h
 |13,_=>λh=>q8w _ h
 |14,_=>λh=>q9k _ h
 |15,_=>λh=>q59 _ h
 |16,_=>λh=>q6l _ h
 |17,_=>λh=>q4x _ h
 |18,_=>λh=>q6z _ h
 |n+19,h=>absurd h oe
def qr4 (w:Wl):(zeroValue 91).run prog w=.ok .nilFunc w:=oh
variable {s:By}
def zm.held (h:zm w mb cb 19) (b:s.size<=maxLen) (e:i<19) (j:s.data.toList=qn i):(Instr.lookup 80 (.map (some mb)) (.string s) false).run prog w=.ok (doV cb i) w:=by
 obtain⟨D,o,d⟩:=h;obtain⟨v,m,k,a⟩:=o.lookup qhg underlying80 (qr4 w) (zd:=.held .nilFunc) (zp:=[]) rfl (qps b);rw[j,(d.has i e).2]at a
 have:v=doV cb i:=by
  unfold qcd at a;injection a with a;injection a with a;injection a
 rw[k,this]
def zm.lacks (h:zm w mb cb 19) (b:s.size<=maxLen) (e:∀i,i<19->s.data.toList≠qn i):(Instr.lookup 80 (.map (some mb)) (.string s) false).run prog w=.ok .nilFunc w:=by
 obtain⟨D,o,d⟩:=h;obtain⟨v,k,j,a⟩:=o.lookup qhg underlying80 (qr4 w) (zd:=.held .nilFunc) (zp:=[]) rfl (qps b);rw[(d.no _ e).2]at a
 have:v=.nilFunc:=by
  unfold qcd at a;injection a with a;injection a with a;injection a
 rw[j,this]
def qfj.tail {A o a:Nat} {x:By} {l:List By} (h:qfj w (some (AD A o)) a (x::l)):qfj w (some (AD A (o+1))) (a-1) l:=
 ⟨by have:=h.cap;simp at this;omega,λj y d=>by
   obtain⟨b,p,e,k,m⟩:=h.cell (j+1) y (by simpa using d);injection e with e;injection e with e1 e2;subst e1;subst e2;exact⟨A,o+1,rfl,k,by rw[show o+1+j=o+(j+1) by omega];exact m⟩⟩
def qmv {s:List UInt8} (h:qc9.idxOf? s=some i):i<19/\s=qn i:=by
 rw[List.idxOf?_eq_some_iff]at h;obtain⟨a,b,_⟩:=h;refine⟨a,?_⟩;unfold qn;rw[jdp,jcg a];simpa using b.symm
def quh {s:List UInt8} (h:qc9.idxOf? s=none):∀i,i<19->s≠qn i:=λi a e=>by
 rw[List.idxOf?_eq_none_iff]at h;apply h;rw[e];unfold qn;rw[jdp,jcg (show i<qc9.length from a)];exact jdr _
end
section
open Tryz
structure qlo (w:Wl) (cb mb b:Nat) (Gw G:Nat->Prop) (W:WoS) (j:Nat):Prop where
 ck:qe3 w cb mb b Gw W
 g:∀k,G k↔(k=cb\/k=mb\/Gw k)
 gl:Gl w
 gn:∀k,k<7->¬G k
 wi:PlI j W
 di:DkI W
def qig (W:WoS) (line:By) (w:Wl) (cb mb:Nat) (G:Np) (e:Ending) (w':Wl):Prop:=
 ∃told,e=.returned (.string (bya told))/\∃W',qas W line W' told/\qbi (ckP cb mb W') w G w'
variable {v:Vl}
def qlg {tmps:Av} (a:w.cell? (AD B 0)=some v) (c:tmps[4]?=some (PP B)):(results f16 tmps).run prog w=.ok v w:=by
 simp[results,results16,go_sem,a,c]
variable {w1 wt:Wl} {G:Np} {W':WoS}
def qwn {a:Wl} (c:Bw w w1) (h:qbi (ckP cb mb W') w1 G wt) (f:w.heap.size<=B) (r:B<w1.heap.size) (g:∀k,G k->k<w.heap.size) (m:Bw wt a):qbi (ckP cb mb W') w G (a.setCell (AD B 0) v):=by
 obtain⟨d,p1,p2,o⟩:=qe3.after h m;have n:∀k,d k->k≠B:=λk p e=>by
  subst e;obtain q|q:=p2 k p
  .have:=g k q;omega
  omega
 refine⟨d,p1.kept (λk e=>jce _ _ _ _ (n k e)) oF,λk e=>?_,qbl ((qc.ofBelow c).trans o) f v⟩;obtain q|q:=p2 k e
 .exact .inl q
 exact .inr (jcn c.size q)
def qlt {n:Nat} (R:qd w1 B [v]) (h:qbi (ckP cb mb W') w1 G wt) (c:∀k,G k->k<n) (d:n<=B):qd wt B [v]:=by
 obtain⟨e,p1,p2,a⟩:=h;exact R.kept (a.block B R.lt (λq=>by have:=c B q;omega)) a.size
def q72 (g:Gl w1) (h:qbi (ckP cb mb W') w1 G wt) (c:∀k,k<7->¬G k):Gl wt:=by
 obtain⟨e,p1,p2,a⟩:=h;have:=g.sz;exact g.kept (λk d=>a.block k oe (c k d)) a.size
variable {b j:Nat} {Gw:Np}
def qlo.ltG (h:qlo w cb mb b Gw G W j):∀k,G k->k<w.heap.size:=λk a=>by
 rcases(h.g k).1 a with rfl|rfl|e
 .exact h.ck.ltc
 .exact h.ck.map.lt
 exact h.ck.pw.lt k e
def qoj {g:By} {n:Int} {tmps:Av} (h:qlo w cb mb b Gw G W j) (k:Bw w w1) (R:qd w1 w.heap.size [v]) (a:qbi (ckP cb mb W') w1 G wt) (o:wfI n) (p:qas W g W' (qgt n)) (q:tmps[4]?=some (PP w.heap.size)):
 Leaves prog f16 tmps (qig W g w cb mb G) [{target:=.fn (.func 44) #[PP w.heap.size],args:=#[]}] (.panicking [{v:=.iface 30 (U n),recovered:=false}]) wt:=by
 have d:=qlt R a h.ltG (jcd _);refine leaves_cons (f:=44) (args:=#[PP w.heap.size]) oi (by simp[go_sem]) ?_;refine(qny (AD w.heap.size 0) v n o [] wt (q72 (h.gl.later k) a h.gn) (d.c 0) (d.f 0)).mono ?_;rintro e r s ⟨rfl,rfl,t,m,rfl⟩;exact⟨_,qlg (((d.later m).set 0 (.string (bya (qgt n))) oi).c 0) q,qgt n,rfl,W',p,qwn k a (jcd _) R.lt h.ltG m⟩
def q0g {a:By} {told:List UInt8} {tmps:Av} (h:qlo w cb mb b Gw G W j) (g:Bw w w1) (R:qd w1 w.heap.size [v]) (d:qbi (ckP cb mb W') w1 G wt) (k:qas W a W' told) (m:tmps[4]?=some (PP w.heap.size)):
 Leaves prog f16 tmps (qig W a w cb mb G) [{target:=.fn (.func 44) #[PP w.heap.size],args:=#[]}] .returning (wt.setCell (AD w.heap.size 0) (.string (bya told))):=by
 have n:=qlt R d h.ltG (jcd _);refine leaves_cons (f:=44) (args:=#[PP w.heap.size]) oi (by simp[go_sem]) ?_;refine(qo4 (AD w.heap.size 0) _).mono ?_;rintro e o q ⟨rfl,rfl,rfl⟩;exact⟨_,qlg ((n.set 0 (.string (bya told)) oi).c 0) m,told,rfl,W',k,qwn g d (jcd _) R.lt h.ltG (jcc _ _)⟩
def qsp (h:qlo w cb mb b Gw G W j) {a:By} (t:a.size<=20000) (d:qa9 a=[]):
 Ca 16 #[PP cb,.string a] w (qig W a w cb mb G):=by
 have hmf:∀(fn:Fn) (first C:Av) (w:Wl),(Instr.makeFunc fn first C).run prog w=.ok (.func fn first C) w:=λ_ _ _ _=>rfl;have k:=qkj a oe (w.alloc (.cells #[.string ⟨#[]⟩] 9));rw[d]at k;have m:=hd2 h d;have p:=boxed (jcc w.heap.size w) (.cells #[.string ⟨#[]⟩] 9);clear h d
 go_enter_defers func16,ntmps16
 go_wp2_with fail
 refine k.mono ?_;rintro e w1 ⟨A,rfl,u,q,n⟩;have o:=(qd.new (w:=w) (T:=9) [.string ⟨#[]⟩] rfl).later n;have y:=o.c 0;have D:=o.f 0;have r:Hid (qig W a w cb mb G (.returned (.string ⟨#[111,107]⟩)) (w1.setCell (AD w.heap.size 0) (.string ⟨#[111,107]⟩))):=by
  refine⟨[111,107],rfl,W,?_,m.out.1.ck.same m.out.1.g (jdz (qa p n) (jcd _) _)⟩;unfold qas;rw[m.out.2];exact⟨rfl,rfl⟩
 have s:=(o.set 0 (.string ⟨#[111,107]⟩) oi).c 0;clear n p q k;go_wp2;refine leaves_cons (f:=44) (args:=#[PP w.heap.size]) oi (by simp[go_sem]) ?_;refine(qo4 (AD w.heap.size 0) _).mono ?_;rintro e z E ⟨rfl,rfl,rfl⟩;exact⟨_,qlg s rfl,r.out⟩
variable {x:By} {l:List By}
def qt5 (h:qlo w cb mb b Gw G W j) {a:By} (D:a.size<=20000) (n:qa9 a=x::l) (z:x.size<=maxLen) (t:qc9.idxOf? x.data.toList=none):
 Ca 16 #[PP cb,.string a] w (qig W a w cb mb G):=by
 have hmf:∀(fn:Fn) (first O:Av) (w:Wl),(Instr.makeFunc fn first O).run prog w=.ok (.func fn first O) w:=λ_ _ _ _=>rfl;have o:=qkj a oe (w.alloc (.cells #[.string ⟨#[]⟩] 9));rw[n]at o;have d:=hd3 h n t;have u:=boxed (jcc w.heap.size w) (.cells #[.string ⟨#[]⟩] 9);clear h n
 go_enter_defers func16,ntmps16
 go_wp2_with fail
 refine o.mono ?_;rintro e w1 ⟨A,rfl,E,y,p⟩;have k:=(qd.new (w:=w) (T:=9) [.string ⟨#[]⟩] rfl).later p;have F:=k.c 0;have R:=k.f 0;have q:=qa u p;have m:=d.out.1.ck.later q;have H:=m.cell1;obtain⟨I,J,r,K,L⟩:=y.cell 0 x rfl;injection r with r;injection r with e1 e2;subst e1;subst e2;have M:=zm.lacks (w:=w1.drew) (m.map.kept rfl) z (quh t);have s:=hd3 q k (m.same d.out.1.g (jcc _ _).drew);have C:Hid (qas W a W (qgt 3)):=by
  show qas W a W (qgt 3);unfold qas;rw[d.out.2.1];dsimp only;rw[d.out.2.2];exact⟨rfl,rfl⟩
 clear p u y o m q k;dsimp only[List.length_cons]at*;have N:∀w:Wl,(binOp .eql 91 .nilFunc .nilFunc).run prog w=.ok (.bool true) w:=λ_=>oh
 go_wp2;go_region
 all_goals
  go_wp2;exact qoj d.out.1 s.out.1 s.out.2.1 s.out.2.2 ⟨oj,oj⟩ C.out rfl
def qrl:∀i,i<19->∀(args:Av) (w:Wl),(callFunc (q3p i) args).run prog w=.ok (.enter (q3p i) args) w
 |0,_=>λ_ _=>oh
 |1,_=>λ_ _=>oh
 |2,_=>λ_ _=>oh
 |3,_=>λ_ _=>oh
 |4,_=>λ_ _=>oh
 |5,_=>λ_ _=>oh
 |6,_=>λ_ _=>oh
 |7,_=>λ_ _=>oh
 |8,_=>λ_ _=>oh
 |9,_=>λ_ _=>oh
 |10,_=>λ_ _=>oh
 |11,_=>λ_ _=>oh
 |12,_=>λ_ _=>oh
 |13,_=>λ_ _=>oh
 |14,_=>λ_ _=>oh
 |15,_=>λ_ _=>oh
 |16,_=>λ_ _=>oh
 |17,_=>λ_ _=>oh
 |18,_=>λ_ _=>oh
 |n+19,h=>absurd h oe
def qx8 (Q:qmx 9) (h:qlo w cb mb b Gw G W j) {m:By} (hl:m.size<=20000) (s:qa9 m=[x]) (R:x.size<=maxLen) (t:qc9.idxOf? x.data.toList=some i):
 Ca 16 #[PP cb,.string m] w (qig W m w cb mb G):=by
 have hmf:∀(fn:Fn) (first cap:Av) (w:Wl),(Instr.makeFunc fn first cap).run prog w=.ok (.func fn first cap) w:=λ_ _ _ _=>rfl;obtain⟨hi,L⟩:=qmv t;have u:=qkj m oe (w.alloc (.cells #[.string ⟨#[]⟩] 9));rw[s]at u;have k:=hd3 h s t;have M:=boxed (jcc w.heap.size w) (.cells #[.string ⟨#[]⟩] 9);clear h s
 go_enter_defers func16,ntmps16
 go_wp2_with fail
 refine u.mono ?_;rintro e w1 ⟨A,rfl,hA,N,z⟩;have p:=(qd.new (w:=w) (T:=9) [.string ⟨#[]⟩] rfl).later z;have c1:=p.c 0;have f1:=p.f 0;have C:=qa M z;have q:=k.out.1.ck.later C;have cm:=q.cell1;have r:Bw w1 w1.drew:=(jcc _ _).drew;have D:=qa C r;have O:=qvl Q i hi (w:=w1.drew) (cb:=cb) (mb:=mb) (b:=b) (j:=j) (cap:=0) (Gw:=Gw) (G:=G) (W:=W) (a:=some (AD A 0)) (l:=[]) ⟨q.later r,k.out.1.g,k.out.1.gl.later D,k.out.1.gn,k.out.1.wi,k.out.1.di,⟨oi,λj y S=>by simp at S⟩,oi⟩;obtain⟨A',o',E,hlt,cx⟩:=N.cell 0 x rfl;injection E with E;injection E with e1 e2;subst e1;subst e2;have V:(Instr.lookup 80 (.map (some mb)) (.string x) false).run prog w1.drew=.ok (.func (.func (q3p i)) #[PP cb] #[]) w1.drew:=zm.held (w:=w1.drew) (q.map.kept rfl) R hi L;have FE:=qrl i hi;have o:=hd2 D (p.later r);have eqn:∀(w:Wl) (f:Fn) (c d:Av),(binOp .eql 91 (.func f c d) .nilFunc).run prog w=.ok (.bool false) w:=λ_ _ _ _=>oh
 clear z M N u q C p r D t L;dsimp only[List.length_cons,List.length_nil,Nat.reduceAdd]at*;go_wp2;go_region
 all_goals
  go_wp2_with fail
  refine O.mono ?_;rintro e w2 ⟨W',er,told,F,X,H⟩;have P:=hd1 H;have Y:=F.few.wf;have I:Hid (qas W m W' (if er=0 then told else qgt er)):=by
   show qas W m W' (if er=0 then told else qgt er);unfold qas;rw[k.out.2.1];dsimp only;rw[k.out.2.2];exact⟨er,told,F,rfl⟩
  have J:=qlt o.out.2 H k.out.1.ltG (jcd _);have c2:=J.c 0;have f2:=J.f 0;clear H F O J V;obtain⟨K,rfl⟩|⟨K,rfl⟩:=X
  .have n:=I.out;rw[if_pos K]at n;have Z:=hd1 n;clear n I;go_wp2;exact q0g k.out.1 o.out.1 o.out.2 P.out Z.out rfl
  have n:=I.out;rw[if_neg K]at n;exact qoj k.out.1 o.out.1 o.out.2 P.out Y n rfl
def qyh (R:qmx 9) (h:qlo w cb mb b Gw G W j) {m y:By} (hl:m.size<=20000) (s:qa9 m=x::y::l) (S:x.size<=maxLen) (V:∀z∈y::l,z.size<=1000000) (t:qc9.idxOf? x.data.toList=some i):
 Ca 16 #[PP cb,.string m] w (qig W m w cb mb G):=by
 have hmf:∀(fn:Fn) (first cap:Av) (w:Wl),(Instr.makeFunc fn first cap).run prog w=.ok (.func fn first cap) w:=λ_ _ _ _=>rfl;obtain⟨hi,N⟩:=qmv t;have u:=qkj m oe (w.alloc (.cells #[.string ⟨#[]⟩] 9));rw[s]at u;have k:=hd3 h s t;have O:=boxed (jcc w.heap.size w) (.cells #[.string ⟨#[]⟩] 9);clear h s
 go_enter_defers func16,ntmps16
 go_wp2_with fail
 refine u.mono ?_;rintro e w1 ⟨A,rfl,hA,C,D⟩;have q:=(qd.new (w:=w) (T:=9) [.string ⟨#[]⟩] rfl).later D;have c1:=q.c 0;have f1:=q.f 0;have E:=qa O D;have r:=k.out.1.ck.later E;have cm:=r.cell1;have o:Bw w1 w1.drew:=(jcc _ _).drew;have F:=qa E o;have P:=qvl R i hi (w:=w1.drew) (cb:=cb) (mb:=mb) (b:=b) (j:=j) (cap:=l.length+1) (Gw:=Gw) (G:=G) (W:=W) (a:=some (AD A 1)) (l:=y::l) ⟨r.later o,k.out.1.g,k.out.1.gl.later F,k.out.1.gn,k.out.1.wi,k.out.1.di,by
  have:=(C.later o).tail;simpa using this,V⟩
 obtain⟨A',o',H,hlt,cx⟩:=C.cell 0 x rfl;injection H with H;injection H with e1 e2;subst e1;subst e2;have X:(Instr.lookup 80 (.map (some mb)) (.string x) false).run prog w1.drew=.ok (.func (.func (q3p i)) #[PP cb] #[]) w1.drew:=zm.held (w:=w1.drew) (r.map.kept rfl) S hi N;have FE:=qrl i hi;have p:=hd2 F (q.later o);have eqn:∀(w:Wl) (f:Fn) (c d:Av),(binOp .eql 91 (.func f c d) .nilFunc).run prog w=.ok (.bool false) w:=λ_ _ _ _=>oh
 clear D O C u r E q o F t N;dsimp only[List.length_cons]at*;go_wp2;go_region
 all_goals
  go_wp2_with fail
  refine P.mono ?_;rintro e w2 ⟨W',er,told,I,Y,J⟩;have Q:=hd1 J;have Z:=I.few.wf;have K:Hid (qas W m W' (if er=0 then told else qgt er)):=by
   show qas W m W' (if er=0 then told else qgt er);unfold qas;rw[k.out.2.1];dsimp only;rw[k.out.2.2];exact⟨er,told,I,rfl⟩
  have L:=qlt p.out.2 J k.out.1.ltG (jcd _);have c2:=L.c 0;have f2:=L.f 0;clear J I P L X;obtain⟨M,rfl⟩|⟨M,rfl⟩:=Y
  .have n:=K.out;rw[if_pos M]at n;have HA:=hd1 n;clear n K;go_wp2;exact q0g k.out.1 p.out.1 p.out.2 Q.out HA.out rfl
  have n:=K.out;rw[if_neg M]at n;exact qoj k.out.1 p.out.1 p.out.2 Q.out Z n rfl
end
def qx4 (s:By):∀x∈qa9 s,x.size<=s.size:=λx a=>by
 unfold qa9 Lib.goFieldsP at a;obtain⟨p,_,rfl⟩:=jcz.1 a;rw[ByteArray.size_extract];omega
def qy1 (f:qmx 9) {w:Wl} {k m b j:Nat} {o G:Nat->Prop} {W:WoS} (h:qlo w k m b o G W j) {a:By} (c:a.size<=20000):
 Ca 16 #[PP k,.string a] w (qig W a w k m G):=by
 have d:=qx4 a;cases hw:qa9 a with
 |nil=>exact qsp h c hw
 |cons x l=>
  rw[hw]at d;have e:x.size<=maxLen:=by have:=d x oi;simp only[maxLen];omega
  cases hn:qc9.idxOf? x.data.toList with
  |none=>exact qt5 h c hw e hn
  |some i=>
   cases l with
   |nil=>exact qx8 f h c hw e hn
   |cons y l=>exact qyh f h c hw e (λz q=>by have:=d z (by simp only[jdd]at q ⊢;exact .inr q);omega) hn
section
open _root_.Go.Proofs.Tryz
def q9g:qmx 9:=λ{w cb mb b j cap Gw G W a l} h=>by
 show Ca 61 #[PP cb,.slice a l.length cap] w (jm 9 W l w cb mb G);have m:=hd1 h;have s:=qpc h.sm w h.gl h.st;clear h;go_enter func61,ntmps61;go_wp2_with fail
 refine s.mono ?_;rintro e t ⟨f,(⟨n,rfl⟩|⟨n,rfl⟩)⟩
 .have o:=m.out.ck.later f;have X:=o.cell1;obtain⟨D,own,d⟩:=o.map;have u:=callsIn_wide.1 (jef (some mb) t);have z:=callsIn_wide.1 (jd3 mb 19 D qcd t own (by rw[d.size];decide) (by rw[d.size];decide));have B:=hd2 own d;have M:=hd1 f;clear o own d s f;go_wp2_with fail
  refine u.mono ?_;rintro e w2 ⟨rfl,rfl⟩;go_wp2_with fail
  refine z.mono ?_;rintro e i ⟨v,N,rfl,C,k,_,F⟩;have E:=qup B.out.1 B.out.2 C;have O:N.length=19:=by have:=congrArg List.length E;rw[List.length_mergeSort]at this;exact this
  rw[E,O]at k;obtain⟨_,(⟨_,P⟩|⟨g,H,A,rfl,Y,I,Q,Z,R,S⟩)⟩:=id k
  .cases P
  have p:=jd1 g 0 H (qc9.map bya) ⟨#[32]⟩ i (λq y J=>by
   rw[mF];rw[jcv]at J;obtain⟨x,K,rfl⟩:=mL.1 J;have T:q<19:=(jck.1 K).1;rw[k.cellAt q (by rw[Nat.mul_one];exact T),jcv,K];rfl) (jcs.1 I).1 oj Q oj
  replace p:Ca 92 #[.slice (PT g) 19 H,.string ⟨#[32]⟩] i λe w'=>e=.returned (.string (bya (Lib.join qc9 [32])))/\Bw i w':=p;have L:Hid (∀c,Bw i c->jm 9 W l w cb mb G (.returned (.string (bya (Lib.join qc9 [32])))) c):=λc r=>m.out.told oj n.out ⟨rfl,rfl,rfl⟩ (qa (qa (boxed M.out _) F) r) (.inl ⟨rfl,rfl⟩);clear k I S R C E F z u
  go_wp2_with fail
  refine p.mono ?_;rintro e c ⟨rfl,r⟩;have V:=L.out c r;clear L;go_wp2;go_ret;exact V
 exact⟨rfl,m.out.no oj n.out f⟩
end
structure qko (n:Wl) (B l m p:Nat) (X Z:Nat->Prop) (W:WoS) (out:List UInt8) (A:Wl) (G H:Nat->Prop):Prop where
 ck:qvq l m W A G
 bl:qht B p out A H
 ap:∀k,G k->¬H k
 xz:∀k,X k->Z k/\k<n.heap.size
 gx:∀k,k<7->X k
 z:∀k,Z k->¬G k/\¬H k
 gl:Gl A
 kp:jg X n A
section
variable {n A r:Wl} {l m p:Nat} {X Z G H:Np} {t:WoS} {out s:List UInt8}
def qko.later (h:qko n B l m p X Z W out A G H) (a:Bw A r):qko n B l m p X Z W out r G H:=
 ⟨h.ck.kept (λk e=>a.block k (h.ck.lt k e)) a.size,h.bl.kept (λk e=>a.block k (h.bl.lt k e)),h.ap,h.xz,h.gx,h.z,h.gl.later a,h.kp.trans ⟨a.os,a.tape,a.output,a.size,λk e=>a.block k (jci (h.xz k e).2 h.kp.size)⟩⟩
def qko.puts (h:qko n B l m p X Z W out A G H) {q:Nat} (d:Z q) (f:¬X q) (o:Obj):qko n B l m p X Z W out (A.putObj q o) G H:=by
 have b:∀k,k≠q->(A.putObj q o).heap[k]?=A.heap[k]?:=λk g=>World.putObj_heap_other g
 have c:A.heap.size<=(A.putObj q o).heap.size:=oi;exact⟨h.ck.kept (λk e=>b k (λa=>(h.z q d).1 (a▸e))) c,h.bl.kept (λk e=>b k (λa=>(h.z q d).2 (a▸e))),h.ap,h.xz,h.gx,h.z,h.gl.kept (λk e=>b k (λa=>f (a▸h.gx k e))) c,h.kp.trans ⟨rfl,rfl,rfl,c,λk e=>b k (λa=>f (a▸e))⟩⟩
def qko.ans (h:qko n B l m p X Z W out A G H) (f:∀k,Z k->k<A.heap.size) (g:qbi (ckP l m t) A G r):∃c,qko n B l m p X Z t out r c H/\jg Z A r:=by
 obtain⟨c,p1,p2,a⟩:=g;have d:jg Z A r:=⟨a.os,a.tape,a.output,a.size,λk e=>a.block k (f k e) (h.z k e).1⟩;refine⟨c,⟨p1,h.bl.kept (λk e=>a.block k (h.bl.lt k e) (λq=>h.ap k q e)),λk e b=>?_,h.xz,h.gx,λk e=>⟨λb=>?_,(h.z k e).2⟩,h.gl.kept (λk e=>d.block k (h.xz k (h.gx k e)).1) a.size,h.kp.trans ⟨a.os,a.tape,a.output,a.size,λk e=>d.block k (h.xz k e).1⟩⟩,d⟩
 .obtain q|q:=p2 k e
  .exact h.ap k q b
  have:=h.bl.lt k b;omega
 obtain q|q:=p2 k b
 .exact(h.z k e).1 q
 have:=f k e;omega
def qko.wrote (h:qko n B l m p X Z W out A G H) (f:∀k,Z k->k<A.heap.size) (g:qbi (q2z B p s) A H r):∃b,qko n B l m p X Z W s r G b/\jg Z A r:=by
 obtain⟨b,p1,p2,a⟩:=g;have c:jg Z A r:=⟨a.os,a.tape,a.output,a.size,λk e=>a.block k (f k e) (h.z k e).2⟩;refine⟨b,⟨h.ck.kept (λk e=>a.block k (h.ck.lt k e) (h.ap k e)) a.size,p1,λk e d=>?_,h.xz,h.gx,λk e=>⟨(h.z k e).1,λd=>?_⟩,h.gl.kept (λk e=>c.block k (h.xz k (h.gx k e)).1) a.size,h.kp.trans ⟨a.os,a.tape,a.output,a.size,λk e=>c.block k (h.xz k e).1⟩⟩,c⟩
 .obtain q|q:=p2 k d
  .exact h.ap k e q
  have:=h.ck.lt k e;omega
 obtain q|q:=p2 k d
 .exact(h.z k e).2 q
 have:=f k e;omega
def qko.answer (h:qko n B l m p X Z W out A G H) (c:DkI W) {a:By} (d:a.size<=20000):
 Ca 16 #[PP l,.string a] A (qig W a A l m G):=by
 obtain⟨b,o,f,g⟩:=h.ck;obtain⟨j,i⟩:=c.pl;exact qy1 q9g ⟨f,g,h.gl,λk e=>(h.z k (h.xz k (h.gx k e)).1).1,i,c⟩ d
end
def SsI (n:Wl) (B l m p:Nat) (X Z:Np) (pre:List By) (A:Wl):Prop:=∃W out G H,qd8 (qcb 2 2) pre out W/\qko n B l m p X Z W out A G H
open _root_.Go.Proofs.Tryz Go.Shelf
attribute [local go_sem] Oper.semAt_some
def qqq {B b:Nat} {l:List UInt8} {G:Np} (w:Wl) (h:qht B b l w G) (c:B<=w.heap.size):
 Ca 18 #[PP b] w λe w'=>e=.returned (.string (bya l))/\Below B w w'/\∀(k:Nat) D,w.heap[k]?=some (Obj.deferred D)->w'.heap[k]?=some (Obj.deferred D):=
 (Any.Builder_String_any_k je5 jd8 B b l w (Lib.IsBuilderF.of h.is) c).mono λe w' ⟨d,_,f,g⟩=>⟨d,f,λk D a=>g k _ a (λe=>by
  injection e with e;subst e;obtain⟨_,_,_,_,q,_⟩:=h;rw[a]at q;cases q) (λ_ _ e=>oJ)⟩
def jad (s:By) (out:List UInt8):Prop:=∃A,qd8 (qcb 2 2) ((qfq s.data.toList).map bya) out A
def quu (s:By) (S:s.size<=20000) (w:Wl) (g:Gl w):
 Ca 6 #[.string s] w λe w'=>∃d,e=.returned (.string (bya d))/\jad s d/\Bw w w':=by
 refine(callsIn_wide (n:=6)).1 ?_;have V:=qsk w g;have HG:=hd1 g;have hmany:¬20000<(s.size:Int):=oe;have X:=hd1 S;clear g S;refine callsIn_of_wp_marks func6 rfl trivial ?_ rfl;simp only[ntmps6,List.size_toArray,List.length_cons,List.length_nil,Nat.reduceAdd,Nat.reduceSub,Array.replicate_succ,Array.replicate_zero,List.push_toArray,List.append_toArray,jda,jdj];gi_wp2_with (refine⟨trivial,?_⟩;gi_at_call 13;refine(callsIn_wide.2 V).mono ?_;rintro e a ⟨cb,rfl,HN⟩)
 gi_wp2_with (refine⟨trivial,?_⟩;gi_at_call 14;refine(callsIn_wide.2 (q60 s _)).mono ?_;rintro e w' ⟨rfl,rfl⟩)
 obtain⟨mb,G,C,Y,D,Z⟩:=HN;obtain⟨b,i⟩:∃b,((a.alloc (.cells #[PP cb] 48)).alloc (.cells #[.pointer none,.slice none 0 0] 53)).alloc (.cells #[.string s] 9)=b:=⟨_,rfl⟩;have r:Bw a b:=by rw[<-i];exact boxed (boxed (boxed (jcc _ a) _) _) _
 have sz0:b.heap.size=a.heap.size+3:=by rw[<-i];simp
 have RC:qd b a.heap.size [PP cb]:=by rw[<-i];exact((qd.new (w:=a) (T:=48) [PP cb] rfl).boxed _).boxed _
 have RL:qd b (a.heap.size+1+1) [.string s]:=by rw[<-i];exact qd.new (w:=(a.alloc (.cells #[PP cb] 48)).alloc (.cells #[.pointer none,.slice none 0 0] 53)) (T:=9) (n:=a.heap.size+1+1) [.string s] oi
 have hbx:b.heap[a.heap.size+1]?=some (.cells #[.pointer none,.slice none 0 0] 53 (0,0)):=by
  rw[<-i];refine(jdg _ _ _ oi).trans ?_;have:=World.alloc_heap_new (a.alloc (.cells #[PP cb] 48)) (.cells #[.pointer none,.slice none 0 0] 53 (0,0));rwa [jdi]at this
 rw[i];clear i;have ls:=D.size;have E:qko b a.heap.size cb mb (a.heap.size+1) (λk=>k<w.heap.size\/k=a.heap.size) (λk=>k<w.heap.size\/k=a.heap.size\/k=b.heap.size\/k=b.heap.size+1) (qcb 2 2) [] b G (λk=>k=a.heap.size+1):=by
  have F:=C.lt;refine⟨C.kept (λk e=>r.block k (F k e)) r.size,⟨oe,.pointer none,.slice none 0 0,.inl rfl,hbx,⟨rfl,.inl ⟨rfl,rfl⟩⟩,oS,λk=>oS⟩,λk e e2=>?_,λk e=>?_,λk e=>?_,λk e=>?_,Z.later r,jg.refl _ _⟩
  .have:=F k e;omega
  .obtain e|e:=e
   .exact⟨.inl e,oe⟩
   exact⟨.inr (.inl e),oe⟩
  .exact .inl (jci e HG.out.sz)
  refine⟨λq=>?_,?_⟩
  .have:=Y k q;have:=F k q;omega
  omega
 have hd0:DkI (qcb 2 2):=DkI.new oj oj oj;have A:=qu7 s.data.toList;have hsl:s.data.toList.length<=20000:=by rw[<-Lib.size_eq];exact X.out
 have I:=qym 5 oj s X.out (a.heap.size+1+1) b oe (RL.c 0);have HB:=hd2 D r;clear V C Y Z D r hbx RL;refine qli rfl oj (gf:=40) (lb:=#[PP (a.heap.size+1+1)]) rfl trivial (enters_of func40 oh rfl) I (jcc _ _) (λ_=>rfl)
  (SsI b a.heap.size cb mb (a.heap.size+1) (λk=>k<w.heap.size\/k=a.heap.size) (λk=>k<w.heap.size\/k=a.heap.size\/k=b.heap.size\/k=b.heap.size+1))
  (λ_ _ ⟨_,_,_,_,_,h⟩=>h.gl) (λ_ _ _ ⟨j,d,G,H,J,h⟩ hb=>⟨j,d,G,H,J,h.later hb⟩) (λ_ _ o ⟨j,d,G,H,J,h⟩=>⟨j,d,G,H,J,h.puts oi oe o⟩) ⟨_,_,_,_,.nil,E⟩
  (λx=>{tmps:=#[.string s,undef,.string ⟨#[]⟩,PP a.heap.size,PP (a.heap.size+1),.string x,.string s,U s.size,.bool false,undef,undef,PP cb,.string s,.func (.func 40) #[] #[PP (a.heap.size+1+1)],.string x,undef,undef,undef,undef,undef,undef],defers:=[]})
  ?assign ?body ?done
 case assign=>
  intro l x W K u;gi_wp2
  exact u
 case body=>
  rintro l pre x rest W L hsz2 ⟨j,d,G,H,m,f⟩;clear E I;obtain⟨hol,M⟩:=m.len hd0;have hxl:x.size<=20000:=by
   have hm:x∈(qfq s.data.toList).map bya:=by rw[L];simp
   obtain⟨y,hy,rfl⟩:=jcz.1 hm;have:=A.2 y hy;rw[Lib.size_eq];show y.length<=20000;omega
  have hpl:pre.length<=20001:=by
   have:=congrArg List.length L;simp only[jdh,jcl,List.length_cons]at this;omega
  have hz:∀k,(k<w.heap.size\/k=a.heap.size\/k=b.heap.size\/k=b.heap.size+1)->k<W.heap.size:=λk e=>oe
  have c0:=(RC.keeps f.kp (.inr rfl)).c 0;have AN:=f.answer M hxl;have p:=hd4 hol hpl m M;have v:=hd1 f;have HZ:=hd1 hz;clear m f L M hol hpl hz A;gi_wp2_with (refine⟨trivial,?_⟩;gi_at_call 16;refine(CallsIn.inRound l (callsIn_wide.2 AN)).mono ?_;rintro e W3 ⟨told,rfl,Wd',N,hL⟩)
  obtain⟨G3,z,O⟩:=v.out.ans HZ.out hL;have tl:=N.len p.out.2.2.2;have hz3:=λk e=>jci (HZ.out k e) O.size;have WS:=qnq (bya told) W3 z.bl (by rw[Lib.size_eq];show d.length+told.length<=_;have:=p.out.1;have:=p.out.2.1;omega) (by have:=z.kp.size;omega);have H3:=hd2 N O;have HS3:=hd1 z;have HZ3:=hd1 hz3;clear N hL z O hz3 AN
  gi_wp2_with (refine⟨trivial,?_⟩;gi_at_call 15;refine(CallsIn.inRound l (callsIn_wide.2 WS)).mono ?_;rintro e W4 ⟨rfl,hL4⟩)
  obtain⟨H4,B,P⟩:=HS3.out.wrote HZ3.out hL4;have hz4:=λk e=>jci (HZ3.out k e) P.size;have WB:=qql 10 10 rfl W4 B.bl (by rw[jcl];show d.length+told.length+1<=_;have:=p.out.1;have:=p.out.2.1;omega) (by have:=B.kp.size;omega);have Q:=hd3 P B hz4;clear hL4 B P hz4 WS
  gi_wp2_with (refine⟨trivial,?_⟩;gi_at_call 17;refine(CallsIn.inRound l (callsIn_wide.2 WB)).mono ?_;rintro e W5 ⟨rfl,hL5⟩)
  obtain⟨H5,S5,K5⟩:=Q.out.2.1.wrote Q.out.2.2 hL5;have KA:=(H3.out.2.trans Q.out.1).trans K5;exact⟨⟨KA.block _ oi,KA.block _ oi⟩,Wd',_,G3,H5,.snoc p.out.2.2.1 H3.out.1,S5⟩
 rintro W ⟨j,d,G,H,m,f⟩ u;have ST:=qqq W f.bl (by have:=f.kp.size;omega);have v:=hd2 f.kp m;clear E I f m;gi_wp2_with (refine⟨trivial,?_⟩;gi_at_call 18;refine(callsIn_wide.2 ST).mono ?_;rintro e W6 ⟨rfl,hb6,hd6⟩)
 rw[sz0]at u;refine⟨oi,.inl ⟨_,_,rfl,run_takeDeferred (hd6 _ _ u),?_⟩⟩;have t:=((HB.out.1.trans (HB.out.2.mono ls)).trans (v.out.1.below (λk R=>.inl R))).trans (hb6.mono ls);exact⟨_,results_tmp rfl _ _ _,d,rfl,⟨j,v.out.2⟩,t.os,t.tape,t.output,jcn t.size oi,λk R=>(World.putObj_heap_other oe).trans (t.block k R)⟩
end Go.Proofs.YtbfkeoagmajcpaaGreatDoor
