import Derived.Test.YtbfkeoagmajcpaaGreatDoorSiteK
set_option maxHeartbeats 4000000
set_option maxRecDepth 100000
set_option linter.defProp false
namespace Go.Proofs.YtbfkeoagmajcpaaGreatDoor
open Tryz Go.RowKit
variable {f M i:Nat}
section
variable {L N b j A:Nat} {O G:Np} {W:WoS} {a:Oa} {l:List By}
def qka (w:Wl) (h:vk w L N b O G W j a A l) (u:(f,M,i)∈[(52,79,0),(54,83,2),(58,89,6),(62,95,10),(68,102,16),(67,101,15)]) (x:∀(v:Int) d,PW d b O W->Ca M #[PP b,U v] d (qgr i W [v] ⟨#[]⟩ d b O)):Ca f #[PP L,.slice a l.length A] w (jm i W l w L N G):=by
 have g:Hid (vk w L N b O G W j a A l):=h;have m:=λw' y=>qi1 h.sm w' (h.gl.later (w':=w') y) (h.st.later y);replace m:=m w.drew (jcc _ w).drew;have D:=h.ck.cell0;have E:Hid (∀(v:Int) d,PW d b O W->Ca M #[PP b,U v] d (qgr i W [v] ⟨#[]⟩ d b O)):=x;clear h x;simp only[jdd,Prod.mk.injEq,List.not_mem_nil,or_false]at u;obtain⟨rfl,rfl,rfl⟩|⟨rfl,rfl,rfl⟩|⟨rfl,rfl,rfl⟩|⟨rfl,rfl,rfl⟩|⟨rfl,rfl,rfl⟩|⟨rfl,rfl,rfl⟩:=u
 all_goals
  first
   |go_enter func52,ntmps52
   |go_enter func54,ntmps54
   |go_enter func58,ntmps58
   |go_enter func62,ntmps62
   |go_enter func68,ntmps68
   |go_enter func67,ntmps67
  go_wp2;refine wp_region_any oh ?_;change wpAny _ _ _ _ _ _ _ (World.drew _);refine Wf 0 ?_;go_simp;refine Wf 1 ?_;go_simp;refine Wf 2 ?_;go_simp;refine Wf 4 ?_;go_simp;refine wpAny_ready (rs:=[3,5]) oh oi ?_;refine AllReady.cons rfl (λK c=>?_) (AllReady.cons rfl (λK c=>?_) AllReady.nil);go_simp;refine c _ _ ?_;clear c K;refine wpAny_ready (rs:=[5]) oh oi ?_;refine AllReady.cons rfl (λK c=>?_) AllReady.nil;rw[if_pos (by rfl)];refine qbu 80 #[.slice a l.length A] o9 m ?_;rintro e d ⟨n,(⟨v,k,rfl⟩|⟨k,rfl⟩)⟩;rotate_left
  .exact .inr ⟨_,rfl,rfl,g.out.no oj k.out (qa (jcc _ w).drew n)⟩
  rw[if_pos (by rfl)];refine qbu 80 #[.slice a l.length A] o9 m ?_;rintro e d ⟨n,(⟨v,k,rfl⟩|⟨k,rfl⟩)⟩;rotate_left
  .exact .inr ⟨_,rfl,rfl,g.out.no oj k.out (qa (jcc _ w).drew n)⟩
  all_goals
   have o:=qa (jcc _ w).drew n;have F:=(g.out.ck.later o).cell0;have z:=E.out v d (g.out.ck.later o).pw;refine .inl ⟨_,rfl,?_⟩;go_simp;refine c _ _ ?_;clear c K
  rotate_left;refine wpAny_ready (rs:=[3]) oh oi ?_;refine AllReady.cons rfl (λK c=>?_) AllReady.nil;go_simp;refine c _ _ ?_;clear c K;all_goals
   refine wpAny_ready (rs:=[6]) oh oi ?_;refine AllReady.cons rfl (λK c=>?_) AllReady.nil;rw[if_pos (by rfl)];refine qbu _ #[PP b,U v] o9 z ?_;rintro e T ⟨V,R,B,rfl,s⟩;have C:=qda R T (g.out.gl2 o s);have t:Hid (∀e p,Bw T p->qlx R (qn _) e->jm _ W l w L N G e p):=λe p q H=>g.out.yes oj (by exact k.out) o (B.data oj) s q H;clear B s F D z;refine .inl ⟨_,rfl,?_⟩
   go_simp;refine c _ _ ?_;clear c K;refine wpAny_ready (rs:=[7]) oh oi ?_;refine AllReady.cons rfl (λK c=>?_) AllReady.nil;rw[if_pos (by rfl)];refine qbu 72 #[jc R] o9 C ?_;rintro e p ⟨q,(⟨r,rfl⟩|⟨r,rfl⟩)⟩;rotate_left
   .exact .inr ⟨_,rfl,rfl,t.out _ _ q (.inr ⟨r,rfl⟩)⟩
   have I:=t.out _ _ q (.inl ⟨r,rfl⟩);clear r t C;refine .inl ⟨_,rfl,?_⟩;go_simp;refine c _ _ ?_;clear c K;refine wpAny_done oh ?_ _;go_wp2;go_ret;exact I
def q4h (w:Wl) (h:vk w L N b O G W j a A l):Ca 52 #[PP L,.slice a l.length A] w (jm 0 W l w L N G):=qka w h (M:=79) oj λv c d=>q4g v c d
def q5e (w:Wl) (h:vk w L N b O G W j a A l):Ca 54 #[PP L,.slice a l.length A] w (jm 2 W l w L N G):=qka w h (M:=83) oj λv c d=>q5d v c d h.wi
def qze (w:Wl) (h:vk w L N b O G W j a A l):Ca 58 #[PP L,.slice a l.length A] w (jm 6 W l w L N G):=qka w h (M:=89) oj λv c d=>qyp v c d h.wi
def q8t (w:Wl) (h:vk w L N b O G W j a A l):Ca 62 #[PP L,.slice a l.length A] w (jm 10 W l w L N G):=qka w h (M:=95) oj λv c d=>q99 v c d h.wi
def q6l (w:Wl) (h:vk w L N b O G W j a A l):Ca 68 #[PP L,.slice a l.length A] w (jm 16 W l w L N G):=qka w h (M:=102) oj λv c d=>q50 v c d
def q59 (w:Wl) (h:vk w L N b O G W j a A l):Ca 67 #[PP L,.slice a l.length A] w (jm 15 W l w L N G):=qka w h (M:=101) oj λv c d=>q39 v c d h.wi
def qtj (w:Wl) (h:vk w L N b O G W j a A l) (x:(f,M,i)∈[(53,81,1),(60,91,8),(64,98,12)]) (y:∀(u v:Int) d,PW d b O W->Ca M #[PP b,U u,U v] d (qgr i W [u,v] ⟨#[]⟩ d b O)):Ca f #[PP L,.slice a l.length A] w (jm i W l w L N G):=by
 have g:Hid (vk w L N b O G W j a A l):=h;have m:=λw' z=>qls h.sm w' (h.gl.later (w':=w') z) (h.st.later z);replace m:=m w.drew (jcc _ w).drew;have E:=h.ck.cell0;have F:Hid (∀(u v:Int) d,PW d b O W->Ca M #[PP b,U u,U v] d (qgr i W [u,v] ⟨#[]⟩ d b O)):=y;clear h y;simp only[jdd,Prod.mk.injEq,List.not_mem_nil,or_false]at x;obtain⟨rfl,rfl,rfl⟩|⟨rfl,rfl,rfl⟩|⟨rfl,rfl,rfl⟩:=x
 all_goals
  first
   |go_enter func53,ntmps53
   |go_enter func60,ntmps60
   |go_enter func64,ntmps64
  go_wp2;refine wp_region_any oh ?_;change wpAny _ _ _ _ _ _ _ (World.drew _);refine Wf 0 ?_;go_simp;refine Wf 1 ?_;go_simp;refine Wf 2 ?_;go_simp;refine Wf 4 ?_;go_simp;refine wpAny_ready (rs:=[3,5]) oh oi ?_;refine AllReady.cons rfl (λK c=>?_) (AllReady.cons rfl (λK c=>?_) AllReady.nil);go_simp;refine c _ _ ?_;clear c K;refine wpAny_ready (rs:=[5]) oh oi ?_;refine AllReady.cons rfl (λK c=>?_) AllReady.nil;rw[if_pos (by rfl)];refine qbu 82 #[.slice a l.length A] o9 m ?_;rintro e d ⟨n,(⟨u,v,k,rfl⟩|⟨k,rfl⟩)⟩;rotate_left
  .exact .inr ⟨_,rfl,rfl,g.out.no oj k.out (qa (jcc _ w).drew n)⟩
  rw[if_pos (by rfl)];refine qbu 82 #[.slice a l.length A] o9 m ?_;rintro e d ⟨n,(⟨u,v,k,rfl⟩|⟨k,rfl⟩)⟩;rotate_left
  .exact .inr ⟨_,rfl,rfl,g.out.no oj k.out (qa (jcc _ w).drew n)⟩
  all_goals
   have o:=qa (jcc _ w).drew n;have H:=(g.out.ck.later o).cell0;have B:=F.out u v d (g.out.ck.later o).pw;refine .inl ⟨_,rfl,?_⟩;go_simp;refine c _ _ ?_;clear c K;refine Wf 6 ?_;go_simp;refine Wf 7 ?_;go_simp
  rotate_left;refine wpAny_ready (rs:=[3]) oh oi ?_;refine AllReady.cons rfl (λK c=>?_) AllReady.nil;go_simp;refine c _ _ ?_;clear c K;all_goals
   refine wpAny_ready (rs:=[8]) oh oi ?_;refine AllReady.cons rfl (λK c=>?_) AllReady.nil;rw[if_pos (by rfl)];refine qbu _ #[PP b,U u,U v] o9 B ?_;rintro e V ⟨X,T,C,rfl,s⟩;have D:=qda T V (g.out.gl2 o s);have t:Hid (∀e p,Bw V p->qlx T (qn _) e->jm _ W l w L N G e p):=λe p q I=>g.out.yes oj (by exact k.out) o (C.data oj) s q I;clear C s H E B;refine .inl ⟨_,rfl,?_⟩
   go_simp;refine c _ _ ?_;clear c K;refine wpAny_ready (rs:=[9]) oh oi ?_;refine AllReady.cons rfl (λK c=>?_) AllReady.nil;rw[if_pos (by rfl)];refine qbu 72 #[jc T] o9 D ?_;rintro e p ⟨q,(⟨r,rfl⟩|⟨r,rfl⟩)⟩;rotate_left
   .exact .inr ⟨_,rfl,rfl,t.out _ _ q (.inr ⟨r,rfl⟩)⟩
   have J:=t.out _ _ q (.inl ⟨r,rfl⟩);clear r t D;refine .inl ⟨_,rfl,?_⟩;go_simp;refine c _ _ ?_;clear c K;refine wpAny_done oh ?_ _;go_wp2;go_ret;exact J
def ja5 (w:Wl) (h:vk w L N b O G W j a A l):Ca 53 #[PP L,.slice a l.length A] w (jm 1 W l w L N G):=qtj w h (M:=81) oj λu v c d=>ja6 u v c d h.wi
def q92 (w:Wl) (h:vk w L N b O G W j a A l):Ca 60 #[PP L,.slice a l.length A] w (jm 8 W l w L N G):=qtj w h (M:=91) oj λu v c d=>q9o u v c d h.wi
def q8m (w:Wl) (h:vk w L N b O G W j a A l):Ca 64 #[PP L,.slice a l.length A] w (jm 12 W l w L N G):=qtj w h (M:=98) oj λu v c d=>q9j u v c d
end
end Go.Proofs.YtbfkeoagmajcpaaGreatDoor
