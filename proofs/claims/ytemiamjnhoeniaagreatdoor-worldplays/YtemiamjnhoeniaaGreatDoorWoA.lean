import Derived.Test.YtemiamjnhoeniaaGreatDoorSiteC
set_option maxHeartbeats 4000000
set_option maxRecDepth 100000
namespace Go.Proofs.YtemiamjnhoeniaaGreatDoor
open Tryz Go.Value Go.IntKind Go.RowKit
structure WfW (W:WoS):Prop where
 n1:1<=W.n
 n4:W.n<=4
 c6:W.c<=6
 at_:∀k,k<W.c->W.at_ k<W.n
 inv:∀i,i<W.n->qcr (W.S i)
 id:∀i,i<W.n->(W.S i).id=(i:Int)
 net:W.net.length<=300
 wt:∀i,i<W.n->(W.S i).waits.length<=40
 lok:∀i,i<W.n->∀x∈(W.S i).log,okT x=true
 to:∀g∈W.net,g.to<W.n
variable {i:Nat}
section
variable {w:World} {b:Nat} {G:Nat->Prop} {M:WoM} {W:WoS} {Gs:Nat->Nat->Prop}
theorem PWo.client (h:PWo w b M W Gs) (f:i<W.c):∃d j,w.cell? ⟨b,1,none⟩=some (.slice (some ⟨d,0,none⟩) W.c j)/\W.c<=j/\d<w.heap.size/\w.cell? ⟨d,i*2,none⟩=some (.pointer (some ⟨M.bs i,0,none⟩))/\w.cell? ⟨d,i*2+1,none⟩=some (int i64 (W.at_ i)):=by
 obtain⟨a,cap,e,r⟩:=qan h.cr;rcases r.held with o|⟨g,rfl,m,l⟩
 ·omega
 ·have k:=h.box.cell 1 _ rfl;rw[e]at k;exact⟨g,cap,k,r.len,m,l _ _ (qeu f).1,l _ _ (qeu f).2⟩
theorem PWo.place (h:PWo w b M W Gs) (d:i<W.n):∃c f,w.cell? ⟨b,0,none⟩=some (.slice (some ⟨c,0,none⟩) W.n f)/\W.n<=f/\c<w.heap.size/\w.cell? ⟨c,i*2,none⟩=some (.pointer (some ⟨M.bp i,0,none⟩))/\w.cell? ⟨c,i*2+1,none⟩=some (int i64 (W.wall i)):=by
 obtain⟨a,cap,e,r⟩:=qan h.pr;rcases r.held with m|⟨g,rfl,l,j⟩
 ·omega
 ·have k:=h.box.cell 0 _ rfl;rw[e]at k;exact⟨g,cap,k,r.len,l,j _ _ (qeu d).1,j _ _ (qeu d).2⟩
end
variable {b n:Nat} {a:Option Addr} {k:Int} {v:Bool}
theorem qbd {cap:Nat} (w:World) (c:w.cell? ⟨b,0,none⟩=some (.slice a n cap)) (h:(decide (0<=k)&&decide (k<(n:Int)))=v):
 Calls prog 54 #[.pointer (some ⟨b,0,none⟩),int i64 k] w λe w'=>e=.returned (.bool v)/\w'=w:=by
 by_cases d:0<=k
 ·by_cases g:k<(n:Int)
  ·have e:v=true:=by rw[<-h];simp[d,g]
   subst e;clear h;go_enter func54,ntmps54
   go_wp2_with fail
   go_ret;exact⟨rfl,rfl⟩
  ·have e:v=false:=by rw[<-h];simp[g]
   subst e;clear h;go_enter func54,ntmps54
   go_wp2_with fail
   go_ret;exact⟨rfl,rfl⟩
 ·have e:v=false:=by rw[<-h];simp[d]
  subst e;clear h;go_enter func54,ntmps54
  go_wp2_with fail
  go_ret;exact⟨rfl,rfl⟩
theorem qa7 {cap:Nat} (w:World) (c:w.cell? ⟨b,1,none⟩=some (.slice a n cap)) (h:(decide (0<=k)&&decide (k<(n:Int)))=v):
 Calls prog 60 #[.pointer (some ⟨b,0,none⟩),int i64 k] w λe w'=>e=.returned (.bool v)/\w'=w:=by
 by_cases d:0<=k
 ·by_cases g:k<(n:Int)
  ·have e:v=true:=by rw[<-h];simp[d,g]
   subst e;clear h;go_enter func60,ntmps60
   go_wp2_with fail
   go_ret;exact⟨rfl,rfl⟩
  ·have e:v=false:=by rw[<-h];simp[g]
   subst e;clear h;go_enter func60,ntmps60
   go_wp2_with fail
   go_ret;exact⟨rfl,rfl⟩
 ·have e:v=false:=by rw[<-h];simp[d]
  subst e;clear h;go_enter func60,ntmps60
  go_wp2_with fail
  go_ret;exact⟨rfl,rfl⟩
theorem qe0 {cap:Nat} (w:World) (c:w.cell? ⟨b,2,none⟩=some (.slice a n cap)) (h:(decide (0<=k)&&decide (k<(n:Int)))=v):
 Calls prog 86 #[.pointer (some ⟨b,0,none⟩),int i64 k] w λe w'=>e=.returned (.bool v)/\w'=w:=by
 by_cases d:0<=k
 ·by_cases g:k<(n:Int)
  ·have e:v=true:=by rw[<-h];simp[d,g]
   subst e;clear h;go_enter func86,ntmps86
   go_wp2_with fail
   go_ret;exact⟨rfl,rfl⟩
  ·have e:v=false:=by rw[<-h];simp[g]
   subst e;clear h;go_enter func86,ntmps86
   go_wp2_with fail
   go_ret;exact⟨rfl,rfl⟩
 ·have e:v=false:=by rw[<-h];simp[d]
  subst e;clear h;go_enter func86,ntmps86
  go_wp2_with fail
  go_ret;exact⟨rfl,rfl⟩
variable {G:Nat->Prop} {W:WoS}
theorem q1x (w:World) (h:PW w b G W) (g:WfW W) (d:i<W.c):
 Calls prog 33 #[.pointer (some ⟨b,0,none⟩),int i64 i] w λe w'=>e=.returned (qa9 (qn5 (W.S (W.at_ i)) (W.ses i)))/\qgq w b G (qb0 W i (qne (W.S (W.at_ i)) (W.ses i))) w':=by
 obtain⟨M,Gs,h,l⟩:=h;have m:Hid (PWo w b M W Gs/\∀k,G k↔qj4 b M (W.n+W.c) Gs k):=⟨h,l⟩;obtain⟨x,y,c1,z,B,x0,x1⟩:=h.client d;obtain⟨C,D,c0,E,F,H,I⟩:=h.place (g.at_ i d);have J:=h.box.lt;have o:=qa7 (k:=i) (v:=true) w c1 (by simp;omega);have j:=(boxed (Below.refl _ w) (.cells #[.pointer (some ⟨M.bs i,0,none⟩),int i64 (W.at_ i)] 103)).drew;have q:Hid (Calls prog 71 #[.pointer (some ⟨M.bs i,0,none⟩),.pointer (some ⟨M.bp (W.at_ i),0,none⟩)] (w.alloc (.cells #[.pointer (some ⟨M.bs i,0,none⟩),int i64 (W.at_ i)] 103)).drew λe w'=>e=.returned (qa9 (qn5 (W.S (W.at_ i)) (W.ses i)))/\qh4 (w.alloc (.cells #[.pointer (some ⟨M.bs i,0,none⟩),int i64 (W.at_ i)] 103)).drew (M.bs i) (Gs (W.n+i)) (qne (W.S (W.at_ i)) (W.ses i)) w'):=quq _ ((h.sess d).later j) ((h.site (g.at_ i d)).later j)
 have K:(i:Int)<(W.c:Int):=by omega
 have L:(W.at_ i:Int)<(W.n:Int):=by have:=g.at_ i d;omega
 clear h l g;go_enter func33,ntmps33
 go_wp2_with fail
 refine o.mono ?_;rintro e w2 ⟨rfl,p⟩;have r:=p.symm;clear p o;subst r
 go_wp2_with fail
 go_region_law (refine qas rfl 71 #[.pointer (some ⟨M.bs i,0,none⟩),.pointer (some ⟨M.bp (W.at_ i),0,none⟩)] (by go_simp) q.out ?_
                rintro e N ⟨rfl,s⟩
                refine⟨_,rfl,?_⟩)
 all_goals
  go_wp2_with fail
  go_ret;exact⟨rfl,m.out.1.stepC m.out.2 d (qh4.trans (λk u=>.inl u) (qae.ofBelow j) s)⟩
theorem q3q (key:Int) (o:(Lit.int .i64 key).wf=true) (w:World) (h:PW w b G W) (d:WfW W) (g:i<W.c):
 Calls prog 25 #[.pointer (some ⟨b,0,none⟩),int i64 i,int i64 key] w λe w'=>e=.returned (.tuple #[.string (qc0 (W.S (W.at_ i)) (W.ses i) key).1,qa9 (qc0 (W.S (W.at_ i)) (W.ses i) key).2])/\Below w.heap.size w w':=by
 obtain⟨M,Gs,h,p⟩:=h;obtain⟨u,x,c1,y,z,x0,x1⟩:=h.client g;obtain⟨B,C,c0,D,E,F,H⟩:=h.place (d.at_ i g);have I:=h.box.lt;have l:=qa7 (k:=i) (v:=true) w c1 (by simp;omega);have j:=(boxed (Below.refl _ w) (.cells #[.pointer (some ⟨M.bs i,0,none⟩),int i64 (W.at_ i)] 103)).drew;have q:Hid (Calls prog 67 #[.pointer (some ⟨M.bs i,0,none⟩),.pointer (some ⟨M.bp (W.at_ i),0,none⟩),int i64 key] (w.alloc (.cells #[.pointer (some ⟨M.bs i,0,none⟩),int i64 (W.at_ i)] 103)).drew λe w'=>e=.returned (.tuple #[.string (qc0 (W.S (W.at_ i)) (W.ses i) key).1,qa9 (qc0 (W.S (W.at_ i)) (W.ses i) key).2])/\Below (w.alloc (.cells #[.pointer (some ⟨M.bs i,0,none⟩),int i64 (W.at_ i)] 103)).drew.heap.size (w.alloc (.cells #[.pointer (some ⟨M.bs i,0,none⟩),int i64 (W.at_ i)] 103)).drew w'):=qup key o _ ((h.sess g).later j) ((h.site (d.at_ i g)).later j) (d.inv _ (d.at_ i g))
 have J:(i:Int)<(W.c:Int):=by omega
 have K:(W.at_ i:Int)<(W.n:Int):=by have:=d.at_ i g;omega
 clear h p d;go_enter func25,ntmps25
 go_wp2_with fail
 refine l.mono ?_;rintro e w2 ⟨rfl,m⟩;have r:=m.symm;clear m l;subst r
 go_wp2_with fail
 go_region_law (refine qas rfl 67 #[.pointer (some ⟨M.bs i,0,none⟩),.pointer (some ⟨M.bp (W.at_ i),0,none⟩),int i64 key] (by go_simp) q.out ?_
                rintro e L ⟨rfl,s⟩
                refine⟨_,rfl,?_⟩)
 all_goals
  go_wp2_with fail
  go_ret2;exact⟨rfl,qac j s⟩
theorem q1t (xk:Int) (xd:ByteArray) (xg:Bool) (w:World) (h:PW w b G W) (d:i<W.c):
 Calls prog 36 #[.pointer (some ⟨b,0,none⟩),int i64 i,.agg #[int i64 xk,.string xd,.bool xg]] w λe w'=>e=.returned (qa9 (qfi (W.ses i) ⟨xk,xd,xg⟩))/\qgq w b G (qb0 W i (qk2 (W.ses i) ⟨xk,xd,xg⟩)) w':=by
 obtain⟨M,Gs,h,g⟩:=h;have j:Hid (PWo w b M W Gs/\∀k,G k↔qj4 b M (W.n+W.c) Gs k):=⟨h,g⟩;obtain⟨x,y,c1,z,B,x0,x1⟩:=h.client d;have C:=h.box.lt;have l:=boxed (Below.refl _ w) (.cells #[int i64 xk,.string xd,.bool xg] 34);have m:=qa7 (k:=i) (v:=true) (w.alloc (.cells #[int i64 xk,.string xd,.bool xg] 34)) (cell_later l c1) (by simp;omega);have o:=l.drew;have q:Hid (Calls prog 75 #[.pointer (some ⟨M.bs i,0,none⟩),.agg #[int i64 xk,.string xd,.bool xg]] (w.alloc (.cells #[int i64 xk,.string xd,.bool xg] 34)).drew λe w'=>e=.returned (qa9 (qfi (W.ses i) ⟨xk,xd,xg⟩))/\qh4 (w.alloc (.cells #[int i64 xk,.string xd,.bool xg] 34)).drew (M.bs i) (Gs (W.n+i)) (qk2 (W.ses i) ⟨xk,xd,xg⟩) w'):=quv ⟨xk,xd,xg⟩ _ ((h.sess d).later o)
 have D:(i:Int)<(W.c:Int):=by omega
 clear h g;go_enter func36,ntmps36
 go_wp2_with fail
 refine m.mono ?_;rintro e w2 ⟨rfl,p⟩;have r:=p.symm;clear p m;subst r
 go_wp2_with fail
 go_region_law (refine qas rfl 75 #[.pointer (some ⟨M.bs i,0,none⟩),.agg #[int i64 xk,.string xd,.bool xg]] (by go_simp) q.out ?_
                rintro e E ⟨rfl,s⟩
                refine⟨_,rfl,?_⟩)
 all_goals
  go_wp2_with fail
  go_ret;exact⟨rfl,j.out.1.stepC j.out.2 d (qh4.trans (λk u=>.inl u) (qae.ofBelow o) s)⟩
theorem q0i (w:World) (h:PW w b G W) (d:i<W.c):
 Calls prog 40 #[.pointer (some ⟨b,0,none⟩),int i64 i] w λe w'=>e=.returned (qa9 (qps (W.ses i)))/\qgq w b G (qb0 W i (qnz (W.ses i))) w':=by
 obtain⟨M,Gs,h,g⟩:=h;have j:Hid (PWo w b M W Gs/\∀k,G k↔qj4 b M (W.n+W.c) Gs k):=⟨h,g⟩;obtain⟨r,s,c1,t,u,x0,x1⟩:=h.client d;have x:=h.box.lt;have l:=qa7 (k:=i) (v:=true) w c1 (by simp;omega);have o:=qvi w (h.sess d)
 have y:(i:Int)<(W.c:Int):=by omega
 clear h g;go_enter func40,ntmps40
 go_wp2_with fail
 refine l.mono ?_;rintro e w2 ⟨rfl,m⟩;have p:=m.symm;clear m l;subst p
 go_wp2_with fail
 refine o.mono ?_;rintro e z ⟨rfl,q⟩
 go_wp2_with fail
 go_ret;exact⟨rfl,j.out.1.stepC j.out.2 d q⟩
theorem q3e (w:World) (h:PW w b G W):
 Calls prog 12 #[.pointer (some ⟨b,0,none⟩)] w λe w'=>e=.returned (int i64 W.net.length)/\w'=w:=by
 obtain⟨M,Gs,h,g⟩:=h
 have c:M.l.length=W.net.length:=by rw[<-h.nl];simp
 obtain⟨j,m,d,r⟩:=qan h.nr;have c2:=h.box.cell 2 _ rfl;rw[d,c]at c2;clear h g d r c;go_enter func12,ntmps12
 go_wp2_with fail
 go_ret;exact⟨rfl,rfl⟩
end Go.Proofs.YtemiamjnhoeniaaGreatDoor
