import Derived.Test.YtbfkeoagmajcpaaGreatDoorSiteG
set_option maxHeartbeats 4000000
set_option maxRecDepth 100000
set_option linter.defProp false
namespace Go.Proofs.YtbfkeoagmajcpaaGreatDoor
open Tryz Go.RowKit
structure WfW (W:WoS):Prop where
 n1:1<=W.n
 n4:W.n<=4
 c6:W.c<=6
 at_:∀k,k<W.c->W.at_ k<W.n
 inv:∀i,i<W.n->j3 (W.S i)
 id:∀i,i<W.n->(W.S i).id=(i:Int)
 net:W.net.length<=300
 wt:∀i,i<W.n->(W.S i).waits.length<=40
 lok:∀i,i<W.n->∀x∈(W.S i).log,okT x=true
 tj:∀g∈W.net,g.tj<W.n
variable {i:Nat}
section
variable {w:Wl} {b:Nat} {G:Np} {M:WoM} {W:WoS} {A:Nat->Np}
def PWo.client (h:PWo w b M W A) (q:i<W.c):∃m d,w.cell? (AD b 1)=some (.slice (PT m) W.c d)/\W.c<=d/\m<w.heap.size/\w.cell? (AD m (i*2))=some (PP (M.bs i))/\w.cell? (AD m (i*2+1))=some (U (W.at_ i)):=by
 obtain⟨a,o,e,r⟩:=qq h.cr;obtain l|⟨g,rfl,j,f⟩:=r.held
 .omega
 have k:=h.box.c 1;rw[e]at k;exact⟨g,o,k,r.len,j,f _ _ (qea q).1,f _ _ (qea q).2⟩
def PWo.place (h:PWo w b M W A) (q:i<W.n):∃d f,w.cell? (AD b 0)=some (.slice (PT d) W.n f)/\W.n<=f/\d<w.heap.size/\w.cell? (AD d (i*2))=some (PP (M.bp i))/\w.cell? (AD d (i*2+1))=some (U (W.wall i)):=by
 obtain⟨a,o,e,r⟩:=qq h.pr;obtain m|⟨g,rfl,l,j⟩:=r.held
 .omega
 have k:=h.box.c 0;rw[e]at k;exact⟨g,o,k,r.len,l,j _ _ (qea q).1,j _ _ (qea q).2⟩
end
variable {b n:Nat} {a:Oa} {k:Int} {v:Bool}
def yi {j:Nat} (w:Wl) (c:w.cell? (AD b 0)=some (.slice a n j)) (h:(decide (0<=k)&&decide (k<(n:Int)))=v):
 Ca 115 #[PP b,U k] w λe w'=>e=.returned (.bool v)/\w'=w:=by
 by_cases d:0<=k;by_cases f:k<(n:Int);have e:v=true:=by rw[<-h];simp[d,f]
 rotate_left;have e:v=false:=by rw[<-h];simp[f]
 rotate_left;have e:v=false:=by rw[<-h];simp[d]
 all_goals
  subst e;clear h;go_enter func115,ntmps115;go_wp2_with fail
  go_ret;exact⟨rfl,rfl⟩
def yf {j:Nat} (w:Wl) (c:w.cell? (AD b 1)=some (.slice a n j)) (h:(decide (0<=k)&&decide (k<(n:Int)))=v):
 Ca 112 #[PP b,U k] w λe w'=>e=.returned (.bool v)/\w'=w:=by
 by_cases d:0<=k;by_cases f:k<(n:Int);have e:v=true:=by rw[<-h];simp[d,f]
 rotate_left;have e:v=false:=by rw[<-h];simp[f]
 rotate_left;have e:v=false:=by rw[<-h];simp[d]
 all_goals
  subst e;clear h;go_enter func112,ntmps112;go_wp2_with fail
  go_ret;exact⟨rfl,rfl⟩
def qey {j:Nat} (w:Wl) (c:w.cell? (AD b 2)=some (.slice a n j)) (h:(decide (0<=k)&&decide (k<(n:Int)))=v):
 Ca 126 #[PP b,U k] w λe w'=>e=.returned (.bool v)/\w'=w:=by
 by_cases d:0<=k;by_cases f:k<(n:Int);have e:v=true:=by rw[<-h];simp[d,f]
 rotate_left;have e:v=false:=by rw[<-h];simp[f]
 rotate_left;have e:v=false:=by rw[<-h];simp[d]
 all_goals
  subst e;clear h;go_enter func126,ntmps126;go_wp2_with fail
  go_ret;exact⟨rfl,rfl⟩
variable {G:Np} {W:WoS}
def q4w (w:Wl) (h:PW w b G W) (d:WfW W) (L:i<W.c):
 Ca 83 #[PP b,U i] w λe w'=>e=.returned (jc (qhl (W.S (W.at_ i)) (W.ses i)))/\vh w b G (vf W i (qhd (W.S (W.at_ i)) (W.ses i))) w':=by
 obtain⟨M,A,h,g⟩:=h;have j:=hd2 h g;obtain⟨N,t,o,u,x,O,R⟩:=h.client L;obtain⟨y,z,B,C,D,E,F⟩:=h.place (d.at_ i L);have H:=h.box.lt;have l:=yf (k:=i) (v:=true) w o ou;have f:=(boxed (jcc _ w) (.cells #[PP (M.bs i),U (W.at_ i)] 149)).drew;have p:=hd1 (qyu _ ((h.sess L).later f) ((h.site (d.at_ i L)).later f));have I:(i:Int)<(W.c:Int):=oe;have J:(W.at_ i:Int)<(W.n:Int):=by have:=d.at_ i L;omega
 clear h g d;go_enter func83,ntmps83;go_wp2_with fail
 refine l.mono ?_;rintro e T ⟨rfl,m⟩;have q:=m.symm;clear m l;subst q;go_wp2_with fail
 go_region_law (refine je rfl 119 #[PP (M.bs i),.pointer (some (AD (M.bp (W.at_ i)) 0))] (by go_simp) p.out ?_
                rintro e K ⟨rfl,r⟩;refine⟨_,rfl,?_⟩)
 all_goals
  go_wp2_with fail
  go_ret;exact⟨rfl,j.out.1.stepC j.out.2 L (qc8.trans (λk s=>.inl s) (qc.ofBelow f) r)⟩
def q7w (K:Int) (l:(Lit.int .i64 K).wf=true) (w:Wl) (h:PW w b G W) (d:WfW W) (L:i<W.c):
 Ca 99 #[PP b,U i,U K] w λe w'=>e=.returned (.tuple #[.string (vi (W.S (W.at_ i)) (W.ses i) K).1,jc (vi (W.S (W.at_ i)) (W.ses i) K).2])/\Bw w w':=by
 obtain⟨M,A,h,m⟩:=h;obtain⟨N,s,o,t,u,O,R⟩:=h.client L;obtain⟨x,y,z,B,C,D,E⟩:=h.place (d.at_ i L);have F:=h.box.lt;have g:=yf (k:=i) (v:=true) w o ou;have f:=(boxed (jcc _ w) (.cells #[PP (M.bs i),U (W.at_ i)] 149)).drew;have p:=hd1 (qxe K l _ ((h.sess L).later f) ((h.site (d.at_ i L)).later f) (d.inv _ (d.at_ i L)));have H:(i:Int)<(W.c:Int):=oe;have I:(W.at_ i:Int)<(W.n:Int):=by have:=d.at_ i L;omega
 clear h m d;go_enter func99,ntmps99;go_wp2_with fail
 refine g.mono ?_;rintro e T ⟨rfl,j⟩;have q:=j.symm;clear j g;subst q;go_wp2_with fail
 go_region_law (refine je rfl 134 #[PP (M.bs i),.pointer (some (AD (M.bp (W.at_ i)) 0)),U K] (by go_simp) p.out ?_
                rintro e J ⟨rfl,r⟩;refine⟨_,rfl,?_⟩)
 all_goals
  go_wp2_with fail
  go_ret2;exact⟨rfl,qa f r⟩
def qv8 (d:Int) (f:By) (g:Bool) (w:Wl) (h:PW w b G W) (F:i<W.c):
 Ca 90 #[PP b,U i,.agg #[U d,.string f,.bool g]] w λe w'=>e=.returned (jc (qaj (W.ses i) ⟨d,f,g⟩))/\vh w b G (vf W i (qd2 (W.ses i) ⟨d,f,g⟩)) w':=by
 obtain⟨M,A,h,j⟩:=h;have l:=hd2 h j;obtain⟨H,y,r,z,B,I,J⟩:=h.client F;have C:=h.box.lt;have m:=boxed (jcc _ w) (.cells #[U d,.string f,.bool g] 127);have o:=yf (k:=i) (v:=true) (w.alloc (.cells #[U d,.string f,.bool g] 127)) (cell_later m r) ou;have p:=m.drew;have s:Hid (Ca 129 #[PP (M.bs i),.agg #[U d,.string f,.bool g]] (w.alloc (.cells #[U d,.string f,.bool g] 127)).drew λe w'=>e=.returned (jc (qaj (W.ses i) ⟨d,f,g⟩))/\qc8 (w.alloc (.cells #[U d,.string f,.bool g] 127)).drew (M.bs i) (A (W.n+i)) (qd2 (W.ses i) ⟨d,f,g⟩) w'):=qxg ⟨d,f,g⟩ _ ((h.sess F).later p);have D:(i:Int)<(W.c:Int):=oe;clear h j;go_enter func90,ntmps90;go_wp2_with fail
 refine o.mono ?_;rintro e K ⟨rfl,q⟩;have t:=q.symm;clear q o;subst t;go_wp2_with fail
 go_region_law (refine je rfl 129 #[PP (M.bs i),.agg #[U d,.string f,.bool g]] (by go_simp) s.out ?_
                rintro e E ⟨rfl,u⟩;refine⟨_,rfl,?_⟩)
 all_goals
  go_wp2_with fail
  go_ret;exact⟨rfl,l.out.1.stepC l.out.2 F (qc8.trans (λk x=>.inl x) (qc.ofBelow p) u)⟩
def q36 (w:Wl) (h:PW w b G W) (y:i<W.c):
 Ca 79 #[PP b,U i] w λe w'=>e=.returned (jc (qi5 (W.ses i)))/\vh w b G (vf W i (qhh (W.ses i))) w':=by
 obtain⟨M,A,h,d⟩:=h;have f:=hd2 h d;obtain⟨z,q,l,r,s,B,C⟩:=h.client y;have t:=h.box.lt;have g:=yf (k:=i) (v:=true) w l ou;have m:=qw7 w (h.sess y);have u:(i:Int)<(W.c:Int):=oe;clear h d;go_enter func79,ntmps79;go_wp2_with fail
 refine g.mono ?_;rintro e D ⟨rfl,j⟩;have o:=j.symm;clear j g;subst o;go_wp2_with fail
 refine m.mono ?_;rintro e x ⟨rfl,p⟩;go_wp2_with fail
 go_ret;exact⟨rfl,f.out.1.stepC f.out.2 y p⟩
def q81 (w:Wl) (h:PW w b G W):
 Ca 96 #[PP b] w λe w'=>e=.returned (U W.net.length)/\w'=w:=by
 obtain⟨M,A,h,g⟩:=h;have d:M.l.length=W.net.length:=by rw[<-h.nl];simp
 obtain⟨m,o,f,r⟩:=qq h.nr;have j:=h.box.c 2;rw[f,d]at j;clear h g f r d;go_enter func96,ntmps96;go_wp2_with fail
 go_ret;exact⟨rfl,rfl⟩
end Go.Proofs.YtbfkeoagmajcpaaGreatDoor
