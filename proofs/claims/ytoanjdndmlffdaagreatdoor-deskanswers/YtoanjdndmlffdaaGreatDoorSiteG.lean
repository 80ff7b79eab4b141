import Derived.Test.YtoanjdndmlffdaaGreatDoorSiteF
set_option maxHeartbeats 8000000
set_option maxRecDepth 100000
namespace Go.Proofs.YtoanjdndmlffdaaGreatDoor
open Go.RowKit
section
open Tryz
theorem qgf (a b c d:Int) (w:World):
 Ca 182 #[.agg #[U a,U b],.agg #[U c,U d]] w (Rn (U (qdr a b c d)) w):=by
 have i:=qvp;rcases qcw a b c d with ⟨h,e⟩|⟨⟨rfl,rfl⟩,e⟩|⟨h,e⟩
 have f:qhi a b c d=false:=by simp[qhi];omega
 rw[e];rcases h with h|⟨rfl,h⟩
 rotate_left
 rotate_left
 have f:=qxz a b;rw[e]
 rotate_left
 have f:qhi a b c d=false:=by simp[qhi];omega
 rw[e];rcases h with h|⟨rfl,h⟩
 have g:¬a<c:=by omega
 have j:(a==c)=false:=by simp;omega
 rotate_left
 have g:¬b<d:=by omega
 all_goals
  go_enter func182,ntmps182
  go_wp2
  go_ret;exact⟨rfl,boxed (boxed (jcc _ _) _) _⟩
theorem qqb (lw lc now:Int) (w:World) (h:(qi lw&&qi lc)=false):
 Ca 179 #[.agg #[U lw,U lc],U now] w (Rn (.tuple #[.agg #[U 0,U 0],U 2]) w):=by
 go_enter func179,ntmps179
 go_wp2_with fail
 refine(qcz _ _ _).mono ?_;rintro e b ⟨rfl,a⟩;obtain⟨c,d⟩:=qdb a
 have f:w.heap.size+1<b.heap.size:=by have:=a.size;simp at this;omega
 go_wp2_with (go_at_call 28;refine(qbk _ _).mono ?_;rintro e w' ⟨rfl,rfl⟩)
 refine bodyPost_ret (v:=.tuple #[.agg #[U 0,U 0],U 2]) (by simp[results,results179,go_sem,c]) rfl ⟨rfl,?_⟩
 repeat (first|(with_reducible exact qhb a)|(with_reducible refine jdz ?_ (by simp) _))
theorem qof (lw lc now:Int) (w:World) (h:(qi lw&&qi lc)=true) (d:qi now=false):
 Ca 179 #[.agg #[U lw,U lc],U now] w (Rn (.tuple #[.agg #[U 0,U 0],U 2]) w):=by
 go_enter func179,ntmps179
 go_wp2_with fail
 refine(qcz _ _ _).mono ?_;rintro e b ⟨rfl,a⟩;obtain⟨c,f⟩:=qdb a
 have g:w.heap.size+1<b.heap.size:=by have:=a.size;simp at this;omega
 go_wp2_with (go_at_call 28;refine(qbk _ _).mono ?_;rintro e w' ⟨rfl,rfl⟩)
 refine bodyPost_ret (v:=.tuple #[.agg #[U 0,U 0],U 2]) (by simp[results,results179,go_sem,c]) rfl ⟨rfl,?_⟩
 repeat (first|(with_reducible exact qhb a)|(with_reducible refine jdz ?_ (by simp) _))
theorem qsu (lw lc now:Int) (w:World) (h:(qi lw&&qi lc)=true) (d:qi now=true) (f:lw<now):
 Ca 179 #[.agg #[U lw,U lc],U now] w (Rn (.tuple #[.agg #[U now,U 0],U 0]) w):=by
 go_enter func179,ntmps179
 go_wp2_with fail
 refine(qcz _ _ _).mono ?_;rintro e b ⟨rfl,a⟩;obtain⟨c,g⟩:=qdb a
 have i:w.heap.size+1<b.heap.size:=by have:=a.size;simp at this;omega
 go_wp2_with (go_at_call 28;refine(qbk _ _).mono ?_;rintro e w' ⟨rfl,rfl⟩)
 refine bodyPost_ret (v:=.tuple #[.agg #[U now,U 0],U 0]) (by simp[results,results179,go_sem,c]) rfl ⟨rfl,?_⟩
 repeat (first|(with_reducible exact qhb a)|(with_reducible refine jdz ?_ (by simp) _))
theorem qse (lw lc now:Int) (w:World) (h:(qi lw&&qi lc)=true) (f:qi now=true) (g:¬lw<now) (i:0<=lc) (j:lc<=1099511627776) (k:1099511627776<lc+1):
 Ca 179 #[.agg #[U lw,U lc],U now] w (Rn (.tuple #[.agg #[U 0,U 0],U 12]) w):=by
 go_enter func179,ntmps179
 go_wp2_with fail
 refine(qcz _ _ _).mono ?_;rintro e b ⟨rfl,a⟩;obtain⟨⟨l,m,n,f1⟩,⟨c,d,o,p⟩⟩:=jag a
 have q:w.heap.size+1<b.heap.size:=by have:=a.size;simp at this;omega
 go_wp2_with (go_at_call 28;refine(qbk _ _).mono ?_;rintro e w' ⟨rfl,rfl⟩)
 refine bodyPost_ret (v:=.tuple #[.agg #[U 0,U 0],U 12]) (by simp[results,results179,go_sem,c,d]) rfl ⟨rfl,?_⟩
 repeat (first|(with_reducible exact qhb a)|(with_reducible refine jdz ?_ (by simp) _))
theorem qqp (lw lc now:Int) (w:World) (h:(qi lw&&qi lc)=true) (f:qi now=true) (g:¬lw<now) (i:0<=lc) (j:lc<=1099511627776) (k:¬1099511627776<lc+1):
 Ca 179 #[.agg #[U lw,U lc],U now] w (Rn (.tuple #[.agg #[U lw,U (lc+1)],U 0]) w):=by
 go_enter func179,ntmps179
 go_wp2_with fail
 refine(qcz _ _ _).mono ?_;rintro e b ⟨rfl,a⟩;obtain⟨⟨l,m,n,f1⟩,⟨c,d,o,p⟩⟩:=jag a
 have q:w.heap.size+1<b.heap.size:=by have:=a.size;simp at this;omega
 go_wp2_with (go_at_call 28;refine(qbk _ _).mono ?_;rintro e w' ⟨rfl,rfl⟩)
 refine bodyPost_ret (v:=.tuple #[.agg #[U lw,U (lc+1)],U 0]) (by simp[results,results179,go_sem,c,d]) rfl ⟨rfl,?_⟩
 repeat (first|(with_reducible exact qhb a)|(with_reducible refine jdz ?_ (by simp) _))
end
theorem ql7 {a b:Ver} {v:Bool} (h:qw a b=v) (w:World):
 Ca 183 #[.agg #[U a.wall,U a.count,U a.site,U a.seq,.string a.data,.bool a.gone],.agg #[U b.wall,U b.count,U b.site,U b.seq,.string b.data,.bool b.gone]] w (Rn (.bool v) w):=by
 obtain⟨d,f,k,m,o,p⟩:=a;obtain⟨g,i,bs,q,r,s⟩:=b;have t:=(qd.new (w:=w) (T:=130) [U d,U f,U k,U m,.string o,.bool p] rfl).boxed (.cells #[U g,U i,U bs,U q,.string r,.bool s] 130);have u:=qd.new (w:=w.alloc (.cells #[U d,U f,U k,U m,.string o,.bool p] 130)) (T:=130) (n:=w.heap.size+1) [U g,U i,U bs,U q,.string r,.bool s] (by simp);have x:=boxed (boxed (jcc _ w) (.cells #[U d,U f,U k,U m,.string o,.bool p] 130)) (.cells #[U g,U i,U bs,U q,.string r,.bool s] 130);simp only[qw]at h;obtain⟨c,y⟩:∃c,qdr d f g i=c:=⟨_,rfl⟩;rw[y]at h;have z:=hd1 y;by_cases l:c=0
 ·rw[if_pos l]at h;subst l;have H:Hid (decide (k<bs)=v):=h;go_enter Tryz.func183,Tryz.ntmps183
  go_wp2_with fail
  refine(qgf d f g i _).mono ?_;rintro e B ⟨rfl,j⟩;rw[z.out];replace t:=t.later j;replace u:=u.later j;have C:=t.c 2;have D:=u.c 2
  go_wp2_with fail
  go_ret;exact⟨by rw[<-H.out];rfl,qa x j⟩
 rw[if_neg l]at h;have E:=beq_eq_false_iff_ne.2 l;have H:=hd1 h;go_enter Tryz.func183,Tryz.ntmps183
 go_wp2_with fail
 refine(qgf d f g i _).mono ?_;rintro e B ⟨rfl,j⟩;rw[z.out]
 go_wp2_with fail
 go_ret;exact⟨by rw[<-H.out];rfl,qa x j⟩
theorem qte {tmps:Array Value} {w:World} {b:Nat} {v:Ver} {sv:Bool} (h:qd w b (qh v)) (a:tmps[6]?=some (PP b)) (c:tmps[7]?=some (.bool sv)):
 (results Tryz.f130 tmps).run Tryz.prog w=.ok (.tuple #[.agg (qh v).toArray,.bool sv]) w:=by
 obtain⟨d,e,f,g,i,j⟩:=h.c6;simp[results,Tryz.results130,go_sem,a,c,d,e,f,g,i,j,qh]
theorem qf2 {tmps:Array Value} {w:World} {b:Nat} {v:Ver} {ev:Int} (h:qd w b (qh v)) (a:tmps[6]?=some (PP b)) (c:tmps[7]?=some (U ev)):
 (results Tryz.f91 tmps).run Tryz.prog w=.ok (.tuple #[.agg (qh v).toArray,U ev]) w:=by
 obtain⟨d,e,f,g,i,j⟩:=h.c6;simp[results,Tryz.results91,go_sem,a,c,d,e,f,g,i,j,qh]
section
variable {sb so:Nat} {a:Option Addr} {l:List Hd}
theorem qri {cap:Nat} (key a0 a1 a2 a3:Int) (w:World) (hS:w.cell? (AD sb so)=some (.slice a l.length cap)) (hC:q3s w a cap l) (hok:∀h∈l,qau h.v=true) (hl:l.length<=1000000):
 Ca 130 #[.pointer (some (AD sb so)),U key,.agg #[U a0,U a1,U a2,U a3]] w λe w'=>
  e=.returned (.tuple #[.agg (qa6 (zn key a0 a1 a2 a3 l)).toArray,.bool (qga (zn key a0 a1 a2 a3 l))])/\Bw w w':=by
 have hne:=qb.one;have HOK:=hd1 hok;clear hok;have s:=((qo.new w 77 a0 a1 a2 a3).boxed (.cells YA 130)).boxed (.cells YA 130);have f:=(qd.new (w:=w.alloc (.cells #[U a0,U a1,U a2,U a3] 77)) (T:=130) (n:=w.heap.size+1) YL (by simp)).boxed (.cells YA 130);have d:=qd.new (w:=(w.alloc (.cells #[U a0,U a1,U a2,U a3] 77)).alloc (.cells YA 130)) (T:=130) (n:=w.heap.size+1+1) YL (by simp);have m:=boxed (boxed (boxed (jcc _ w) (.cells #[U a0,U a1,U a2,U a3] 77)) (.cells YA 130)) (.cells YA 130);have s0:=cell_later m hS;clear hS;go_enter Tryz.func130,Tryz.ntmps130
 go_wp2_with fail
 obtain⟨W,hWW⟩:∃W,(((w.alloc (.cells #[U a0,U a1,U a2,U a3] 77)).alloc (.cells YA 130)).alloc (.cells YA 130))=W:=⟨_,rfl⟩;have Z:qd (((w.alloc (.cells #[U a0,U a1,U a2,U a3] 77)).alloc (.cells YA 130)).alloc (.cells YA 130)) (w.heap.size+1+1) (qa6 (zn key a0 a1 a2 a3 (l.take 0))):=d;rw[hWW]at s f Z m ⊢;clear hWW d s0
 go_loopw [9,17] (λsv iv wr=>∃(k:Nat) (z:Int),k<=l.length/\z=k/\iv=U z/\sv=.bool (qga (zn key a0 a1 a2 a3 (l.take k)))/\qd wr (w.heap.size+1+1) (qa6 (zn key a0 a1 a2 a3 (l.take k)))/\qd wr (w.heap.size+1) (qh jq)/\qo wr w.heap.size a0 a1 a2 a3/\Bw w wr) (λ_ i _=>l.length-(intOf i).toNat)
 case atStart=>exact⟨0,0,by omega,rfl,rfl,rfl,Z,f,s,m⟩
 clear Z f s m;obtain⟨k,z,hk,hz,rfl,rfl,d,f,s,m⟩:=hrel;by_cases E:k<l.length
 ·have h1:z<(l.length:Int):=by omega
  have h2:z.toNat=k:=by omega
  have h3:0<=z:=by omega
  have V:=hd1 hz;clear hz
  obtain⟨b,J,rfl,hcc⟩:∃b J,a=some (AD b J)/\∀i r u,i<l.length->(hdL (qbd l i))[r]?=some u->w.cell? (AD b (J+(i*7+r)))=some u:=by
   rcases hC.held with h0|h0
   ·rw[h0]at E;simp at E
   exact h0
  have M:=hd1 hcc;clear hcc;obtain⟨F,L⟩:∃F,zn key a0 a1 a2 a3 (l.take k)=F:=⟨_,rfl⟩;rw[L]at d ⊢;have N:=hd1 L;clear L;obtain⟨⟨G,⟨t,y,o,q,B,C⟩⟩,K⟩:∃x,qbd l k=x:=⟨_,rfl⟩;have O:=hd1 K;have x0:wr.cell? (AD b (J+k*7))=some (U G):=cell_later m (M.out k 0 _ E (by rw[K];rfl));have x1:wr.cell? (AD b (J+k*7+1))=some (U t):=cell_later m (M.out k 1 _ E (by rw[K];rfl));have x2:wr.cell? (AD b (J+k*7+2))=some (U y):=cell_later m (M.out k 2 _ E (by rw[K];rfl));have x3:wr.cell? (AD b (J+k*7+3))=some (U o):=cell_later m (M.out k 3 _ E (by rw[K];rfl));have x4:wr.cell? (AD b (J+k*7+4))=some (U q):=cell_later m (M.out k 4 _ E (by rw[K];rfl));have x5:wr.cell? (AD b (J+k*7+5))=some (.string B):=cell_later m (M.out k 5 _ E (by rw[K];rfl));have x6:wr.cell? (AD b (J+k*7+6))=some (.bool C):=cell_later m (M.out k 6 _ E (by rw[K];rfl));clear K;have hsite:=qk5 (HOK.out (qbd l k) (by simp only[qbd,List.getD,jcg E,Option.getD_some];exact jdr E));rw[O.out]at hsite;simp only at hsite;obtain⟨t0,t1⟩:=hsite
  have t2:o<4:=by omega
  have hat:=qb.cell (cell_later (boxed (jcc _ wr) (.cells #[U G,U t,U y,U o,U q,.string B,.bool C] 185)) (qk9 s t0 t1));replace d:=d.boxed (.cells #[U G,U t,U y,U o,U q,.string B,.bool C] 185);replace f:=f.boxed (.cells #[U G,U t,U y,U o,U q,.string B,.bool C] 185);replace s:=s.boxed (.cells #[U G,U t,U y,U o,U q,.string B,.bool C] 185);replace m:=boxed m (.cells #[U G,U t,U y,U o,U q,.string B,.bool C] 185);have H:=qd.new (w:=wr) (T:=185) [U G,U t,U y,U o,U q,.string B,.bool C] rfl;have w0:=qb.cell (H.c 0);have w1:=qb.cell (H.c 1);have w2:=qb.cell (H.c 2);have w3:=qb.cell (H.c 3);have w4:=qb.cell (H.c 4);have Q:=qb.cell (H.c 5);have w6:=qb.cell (H.c 6);by_cases P:G=key
  have ek:(G==key)=true:=by simp[P]
  have X:=hd1 P;clear P;cases hh:qdp a0 a1 a2 a3 ⟨t,y,o,q,B,C⟩;have dh:decide (q<=qp o a0 a1 a2 a3)=false:=hh;have Y:=hd1 hh;clear hh
  go_wp2_with fail
  refine wrl ?_
  repeat (go_big_quiet_step (fail))
  refine wpQuiet_nil ?_;rintro Q ⟨⟨_,g⟩,rfl⟩;replace d:=d.later g;replace f:=f.later g;replace s:=s.later g;replace m:=qa m g;have D:=λj v (h:(hdL ⟨G,⟨t,y,o,q,B,C⟩⟩)[j]?=some v)=>cell_later g (H.cell j v h)
  have I:Hid (zn key a0 a1 a2 a3 (l.take (k+1))=F):=by show zn key a0 a1 a2 a3 (l.take (k+1))=F;rw[qgk E,N.out,O.out];exact qe7 (λx=>by have:=x.2.1;rw[Y.out]at this;cases this)
  rotate_left
  have dh:decide (q<=qp o a0 a1 a2 a3)=true:=hh;have Y:=hd1 hh;clear hh;cases F with
  |none=>
   have sn:qga none=false:=rfl
   go_wp2_with fail
   refine wrl ?_
   repeat (go_big_quiet_step (fail))
   refine wpQuiet_nil ?_;rintro Q ⟨⟨_,g⟩,rfl⟩;replace d:=d.later g;replace f:=f.later g;replace s:=s.later g;replace m:=qa m g;have D:=λj v (h:(hdL ⟨G,⟨t,y,o,q,B,C⟩⟩)[j]?=some v)=>cell_later g (H.cell j v h)
   have I:Hid (zn key a0 a1 a2 a3 (l.take (k+1))=some ⟨t,y,o,q,B,C⟩):=by show zn key a0 a1 a2 a3 (l.take (k+1))=_;rw[qgk E,N.out,O.out];exact qgj ⟨X.out,Y.out,rfl⟩
   have y1:=D 1 _ rfl;have y2:=D 2 _ rfl;have y3:=D 3 _ rfl;have y4:=D 4 _ rfl;have y5:=D 5 _ rfl;have y6:=D 6 _ rfl;have b0:=d.c 0;have p0:=d.free 0 (by simp[qa6,qh]);have b1:=d.c 1;have p1:=d.free 1 (by simp[qa6,qh]);have b2:=d.c 2;have p2:=d.free 2 (by simp[qa6,qh]);have b3:=d.c 3;have p3:=d.free 3 (by simp[qa6,qh]);have b4:=d.c 4;have p4:=d.free 4 (by simp[qa6,qh]);have b5:=d.c 5;have p5:=d.free 5 (by simp[qa6,qh]);have RBZ:=((((((d.set 0 (U t) (by simp[qa6,qh])).set 1 (U y) (by simp[qa6,qh])).set 2 (U o) (by simp[qa6,qh])).set 3 (U q) (by simp[qa6,qh])).set 4 (.string B) (by simp[qa6,qh])).set 5 (.bool C) (by simp[qa6,qh]));have R:=((((((m.setCell (p:=AD (w.heap.size+1+1) 0) (by show w.heap.size<=w.heap.size+1+1;omega) (U t)).setCell (p:=AD (w.heap.size+1+1) 1) (by show w.heap.size<=w.heap.size+1+1;omega) (U y)).setCell (p:=AD (w.heap.size+1+1) 2) (by show w.heap.size<=w.heap.size+1+1;omega) (U o)).setCell (p:=AD (w.heap.size+1+1) 3) (by show w.heap.size<=w.heap.size+1+1;omega) (U q)).setCell (p:=AD (w.heap.size+1+1) 4) (by show w.heap.size<=w.heap.size+1+1;omega) (.string B)).setCell (p:=AD (w.heap.size+1+1) 5) (by show w.heap.size<=w.heap.size+1+1;omega) (.bool C));have RRZ:=((((((f.far (AD (w.heap.size+1+1) 0) (U t) (by show w.heap.size+1+1≠w.heap.size+1;omega)).far (AD (w.heap.size+1+1) 1) (U y) (by show w.heap.size+1+1≠w.heap.size+1;omega)).far (AD (w.heap.size+1+1) 2) (U o) (by show w.heap.size+1+1≠w.heap.size+1;omega)).far (AD (w.heap.size+1+1) 3) (U q) (by show w.heap.size+1+1≠w.heap.size+1;omega)).far (AD (w.heap.size+1+1) 4) (.string B) (by show w.heap.size+1+1≠w.heap.size+1;omega)).far (AD (w.heap.size+1+1) 5) (.bool C) (by show w.heap.size+1+1≠w.heap.size+1;omega));have RAZ:=((((((s.far (AD (w.heap.size+1+1) 0) (U t) (by show w.heap.size+1+1≠w.heap.size;omega)).far (AD (w.heap.size+1+1) 1) (U y) (by show w.heap.size+1+1≠w.heap.size;omega)).far (AD (w.heap.size+1+1) 2) (U o) (by show w.heap.size+1+1≠w.heap.size;omega)).far (AD (w.heap.size+1+1) 3) (U q) (by show w.heap.size+1+1≠w.heap.size;omega)).far (AD (w.heap.size+1+1) 4) (.string B) (by show w.heap.size+1+1≠w.heap.size;omega)).far (AD (w.heap.size+1+1) 5) (.bool C) (by show w.heap.size+1+1≠w.heap.size;omega))
   clear g D m f s d
   go_wp2_with fail
   go_roundw
   case rel=>exact⟨k+1,z+1,by omega,by have:=V.out;omega,by go_num,by rw[I.out];rfl,by rw[I.out];exact RBZ,RRZ,RAZ,R⟩
   simp[intOf];omega
  |some bv=>
   have sn:qga (some bv)=true:=rfl;have v0:=qb.cell (d.c 0);have v1:=qb.cell (d.c 1);have v2:=qb.cell (d.c 2);have v3:=qb.cell (d.c 3);have v4:=qb.cell (d.c 4);have v5:=qb.cell (d.c 5);cases hbf:qw bv ⟨t,y,o,q,B,C⟩
   ·have S:=hd1 hbf;clear hbf
    go_wp2_with fail
    refine wrl ?_
    repeat (go_big_quiet_step ((go_at_call 183;with_reducible exact qg (ql7 S.out _))))
    refine wpQuiet_nil ?_;rintro Q ⟨⟨_,g⟩,rfl⟩;replace d:=d.later g;replace f:=f.later g;replace s:=s.later g;replace m:=qa m g;have D:=λj v (h:(hdL ⟨G,⟨t,y,o,q,B,C⟩⟩)[j]?=some v)=>cell_later g (H.cell j v h)
    have I:Hid (zn key a0 a1 a2 a3 (l.take (k+1))=some bv):=by show zn key a0 a1 a2 a3 (l.take (k+1))=some bv;rw[qgk E,N.out,O.out];exact qe7 (λx=>by have:=x.2.2;simp only[S.out]at this;cases this)
    clear g D
    go_wp2_with fail
    go_roundw
    case rel=>exact⟨k+1,z+1,by omega,by have:=V.out;omega,by go_num,by rw[I.out],by rw[I.out];exact d,f,s,m⟩
    simp[intOf];omega
   have S:=hd1 hbf;clear hbf
   go_wp2_with fail
   refine wrl ?_
   repeat (go_big_quiet_step ((go_at_call 183;with_reducible exact qg (ql7 S.out _))))
   refine wpQuiet_nil ?_;rintro Q ⟨⟨_,g⟩,rfl⟩;replace d:=d.later g;replace f:=f.later g;replace s:=s.later g;replace m:=qa m g;have D:=λj v (h:(hdL ⟨G,⟨t,y,o,q,B,C⟩⟩)[j]?=some v)=>cell_later g (H.cell j v h)
   have I:Hid (zn key a0 a1 a2 a3 (l.take (k+1))=some ⟨t,y,o,q,B,C⟩):=by show zn key a0 a1 a2 a3 (l.take (k+1))=_;rw[qgk E,N.out,O.out];exact qgj ⟨X.out,Y.out,S.out⟩
   have y1:=D 1 _ rfl;have y2:=D 2 _ rfl;have y3:=D 3 _ rfl;have y4:=D 4 _ rfl;have y5:=D 5 _ rfl;have y6:=D 6 _ rfl;have b0:=d.c 0;have p0:=d.free 0 (by simp[qa6,qh]);have b1:=d.c 1;have p1:=d.free 1 (by simp[qa6,qh]);have b2:=d.c 2;have p2:=d.free 2 (by simp[qa6,qh]);have b3:=d.c 3;have p3:=d.free 3 (by simp[qa6,qh]);have b4:=d.c 4;have p4:=d.free 4 (by simp[qa6,qh]);have b5:=d.c 5;have p5:=d.free 5 (by simp[qa6,qh]);have RBZ:=((((((d.set 0 (U t) (by simp[qa6,qh])).set 1 (U y) (by simp[qa6,qh])).set 2 (U o) (by simp[qa6,qh])).set 3 (U q) (by simp[qa6,qh])).set 4 (.string B) (by simp[qa6,qh])).set 5 (.bool C) (by simp[qa6,qh]));have R:=((((((m.setCell (p:=AD (w.heap.size+1+1) 0) (by show w.heap.size<=w.heap.size+1+1;omega) (U t)).setCell (p:=AD (w.heap.size+1+1) 1) (by show w.heap.size<=w.heap.size+1+1;omega) (U y)).setCell (p:=AD (w.heap.size+1+1) 2) (by show w.heap.size<=w.heap.size+1+1;omega) (U o)).setCell (p:=AD (w.heap.size+1+1) 3) (by show w.heap.size<=w.heap.size+1+1;omega) (U q)).setCell (p:=AD (w.heap.size+1+1) 4) (by show w.heap.size<=w.heap.size+1+1;omega) (.string B)).setCell (p:=AD (w.heap.size+1+1) 5) (by show w.heap.size<=w.heap.size+1+1;omega) (.bool C));have RRZ:=((((((f.far (AD (w.heap.size+1+1) 0) (U t) (by show w.heap.size+1+1≠w.heap.size+1;omega)).far (AD (w.heap.size+1+1) 1) (U y) (by show w.heap.size+1+1≠w.heap.size+1;omega)).far (AD (w.heap.size+1+1) 2) (U o) (by show w.heap.size+1+1≠w.heap.size+1;omega)).far (AD (w.heap.size+1+1) 3) (U q) (by show w.heap.size+1+1≠w.heap.size+1;omega)).far (AD (w.heap.size+1+1) 4) (.string B) (by show w.heap.size+1+1≠w.heap.size+1;omega)).far (AD (w.heap.size+1+1) 5) (.bool C) (by show w.heap.size+1+1≠w.heap.size+1;omega));have RAZ:=((((((s.far (AD (w.heap.size+1+1) 0) (U t) (by show w.heap.size+1+1≠w.heap.size;omega)).far (AD (w.heap.size+1+1) 1) (U y) (by show w.heap.size+1+1≠w.heap.size;omega)).far (AD (w.heap.size+1+1) 2) (U o) (by show w.heap.size+1+1≠w.heap.size;omega)).far (AD (w.heap.size+1+1) 3) (U q) (by show w.heap.size+1+1≠w.heap.size;omega)).far (AD (w.heap.size+1+1) 4) (.string B) (by show w.heap.size+1+1≠w.heap.size;omega)).far (AD (w.heap.size+1+1) 5) (.bool C) (by show w.heap.size+1+1≠w.heap.size;omega))
   clear g D m f s d
   go_wp2_with fail
   go_roundw
   case rel=>exact⟨k+1,z+1,by omega,by have:=V.out;omega,by go_num,by rw[I.out];rfl,by rw[I.out];exact RBZ,RRZ,RAZ,R⟩
   simp[intOf];omega
  have ek:=beq_eq_false_iff_ne.2 P;have X:=hd1 P;clear P
  go_wp2_with fail
  refine wrl ?_
  repeat (go_big_quiet_step (fail))
  refine wpQuiet_nil ?_;rintro Q ⟨⟨_,g⟩,rfl⟩;replace d:=d.later g;replace f:=f.later g;replace s:=s.later g;replace m:=qa m g;have D:=λj v (h:(hdL ⟨G,⟨t,y,o,q,B,C⟩⟩)[j]?=some v)=>cell_later g (H.cell j v h)
  have I:Hid (zn key a0 a1 a2 a3 (l.take (k+1))=F):=by show zn key a0 a1 a2 a3 (l.take (k+1))=F;rw[qgk E,N.out,O.out];exact qe7 (λx=>X.out x.1)
  all_goals
   clear g D
   go_wp2_with fail
   go_roundw
   case rel=>exact⟨k+1,z+1,by omega,by have:=V.out;omega,by go_num,by rw[I.out],by rw[I.out];exact d,f,s,m⟩
   simp[intOf];omega
 have e:k=l.length:=by omega
 obtain⟨F,L⟩:∃F,zn key a0 a1 a2 a3 (l.take k)=F:=⟨_,rfl⟩
 have N:Hid (zn key a0 a1 a2 a3 l=F):=by show zn key a0 a1 a2 a3 l=F;rw[<-L,e,jc9]
 rw[L,qjl]at d;rw[L];clear L e;obtain⟨v,hv⟩:∃v,F.getD jq=v:=⟨_,rfl⟩;rw[hv]at d;have HV:=hd1 hv;clear hv;obtain⟨sv,hsv⟩:∃sv,qga F=sv:=⟨_,rfl⟩;rw[hsv];have HSV:=hd1 hsv;clear hsv;have b0:=d.c 0;have r0:=f.c 0;have p0:=f.free 0 (by simp[qh]);have b1:=d.c 1;have r1:=f.c 1;have p1:=f.free 1 (by simp[qh]);have b2:=d.c 2;have r2:=f.c 2;have p2:=f.free 2 (by simp[qh]);have b3:=d.c 3;have r3:=f.c 3;have p3:=f.free 3 (by simp[qh]);have b4:=d.c 4;have r4:=f.c 4;have p4:=f.free 4 (by simp[qh]);have b5:=d.c 5;have r5:=f.c 5;have p5:=f.free 5 (by simp[qh]);have RZ:=((((((f.set 0 (U v.wall) (by simp[qh])).set 1 (U v.count) (by simp[qh])).set 2 (U v.site) (by simp[qh])).set 3 (U v.seq) (by simp[qh])).set 4 (.string v.data) (by simp[qh])).set 5 (.bool v.gone) (by simp[qh]));have R:=((((((m.setCell (p:=AD (w.heap.size+1) 0) (by show w.heap.size<=w.heap.size+1;omega) (U v.wall)).setCell (p:=AD (w.heap.size+1) 1) (by show w.heap.size<=w.heap.size+1;omega) (U v.count)).setCell (p:=AD (w.heap.size+1) 2) (by show w.heap.size<=w.heap.size+1;omega) (U v.site)).setCell (p:=AD (w.heap.size+1) 3) (by show w.heap.size<=w.heap.size+1;omega) (U v.seq)).setCell (p:=AD (w.heap.size+1) 4) (by show w.heap.size<=w.heap.size+1;omega) (.string v.data)).setCell (p:=AD (w.heap.size+1) 5) (by show w.heap.size<=w.heap.size+1;omega) (.bool v.gone));clear d f s m
 go_wp2_with fail
 refine bodyPost_ret (qte (v:=v) RZ rfl rfl) rfl ⟨?_,R⟩;rw[N.out,qjl,HV.out,HSV.out]
theorem qrb {cap:Nat} (key a0 a1 a2 a3:Int) (w:World) (L:w.cell? (AD sb so)=some (.slice a l.length cap)) (M:q3s w a cap l) (N:∀h∈l,qau h.v=true) (P:l.length<=1000000):
 Ca 91 #[.pointer (some (AD sb so)),U key,.agg #[U a0,U a1,U a2,U a3]] w λe w'=>
  e=.returned (.tuple #[.agg (qh (zz key a0 a1 a2 a3 l).1).toArray,U (zz key a0 a1 a2 a3 l).2])/\Bw w w':=by
 have Q:=hd1 N;clear N;have o:=(qo.new w 77 a0 a1 a2 a3).boxed (.cells YA 130);have b:qd ((w.alloc (.cells #[U a0,U a1,U a2,U a3] 77)).alloc (.cells YA 130)) (w.heap.size+1) (qh jq):=qd.new (w:=w.alloc (.cells #[U a0,U a1,U a2,U a3] 77)) (T:=130) (n:=w.heap.size+1) YL (by simp);have d:=boxed (boxed (jcc _ w) (.cells #[U a0,U a1,U a2,U a3] 77)) (.cells YA 130);have s0:=cell_later d L;have x:=M.later d;clear L M;cases hk:inB key 0 7
 ·have q:Hid (zz key a0 a1 a2 a3 l=(jq,2)):=by show zz key a0 a1 a2 a3 l=(jq,2);unfold zz;rw[hk];rfl
  have z:=hd1 hk;clear hk;go_enter Tryz.func91,Tryz.ntmps91
  go_wp2_with fail
  refine(vj z.out _).mono ?_;rintro e R ⟨rfl,f⟩;replace b:=b.later f;replace d:=qa d f;clear f o s0 x;have B:=b.c 0;have p0:=b.free 0 (by simp[qh]);have C:=b.c 1;have p1:=b.free 1 (by simp[qh]);have D:=b.c 2;have p2:=b.free 2 (by simp[qh]);have E:=b.c 3;have p3:=b.free 3 (by simp[qh]);have F:=b.c 4;have G:=b.free 4 (by simp[qh]);have H:=b.c 5;have I:=b.free 5 (by simp[qh]);have r:=((((((b.set 0 (U 0) (by simp[qh])).set 1 (U 0) (by simp[qh])).set 2 (U 0) (by simp[qh])).set 3 (U 0) (by simp[qh])).set 4 (.string ⟨#[]⟩) (by simp[qh])).set 5 (.bool false) (by simp[qh]));have s:=((((((d.setCell (p:=AD (w.heap.size+1) 0) (by show w.heap.size<=w.heap.size+1;omega) (U 0)).setCell (p:=AD (w.heap.size+1) 1) (by show w.heap.size<=w.heap.size+1;omega) (U 0)).setCell (p:=AD (w.heap.size+1) 2) (by show w.heap.size<=w.heap.size+1;omega) (U 0)).setCell (p:=AD (w.heap.size+1) 3) (by show w.heap.size<=w.heap.size+1;omega) (U 0)).setCell (p:=AD (w.heap.size+1) 4) (by show w.heap.size<=w.heap.size+1;omega) (.string ⟨#[]⟩)).setCell (p:=AD (w.heap.size+1) 5) (by show w.heap.size<=w.heap.size+1;omega) (.bool false))
  go_wp2_with fail
  refine bodyPost_ret (qf2 (v:=jq) r rfl rfl) rfl ⟨?_,s⟩;rw[q.out]
 have z:=hd1 hk
 have O:Hid (zz key a0 a1 a2 a3 l=qjj (zn key a0 a1 a2 a3 l)):=by show zz key a0 a1 a2 a3 l=_;unfold zz;rw[hk];rfl
 clear hk;go_enter Tryz.func91,Tryz.ntmps91
 go_wp2_with fail
 refine(vj z.out _).mono ?_;rintro e R ⟨rfl,f⟩;replace b:=b.later f;replace o:=o.later f;replace d:=qa d f;replace s0:=cell_later f s0;replace x:=x.later f;clear f;have S:=o.c0;have V:=o.c1;have W:=o.c2;have X:=o.c3
 go_wp2_with fail
 refine(qri key a0 a1 a2 a3 _ s0 x Q.out P).mono ?_;rintro e w2 ⟨rfl,u⟩;clear S V W X o s0 x;obtain⟨y,J⟩:∃y,zn key a0 a1 a2 a3 l=y:=⟨_,rfl⟩
 have K:Hid (zz key a0 a1 a2 a3 l=qjj y):=by show zz key a0 a1 a2 a3 l=_;rw[O.out,J]
 rw[J,qjl];clear J O;cases y with
 |none=>
  have q:Hid (zz key a0 a1 a2 a3 l=(jq,8)):=K.out;have Y:qga none=false:=rfl;show _;rw[show qh ((none:Option Ver).getD jq)=YL from rfl];replace b:=(b.later u).boxed (.cells YA 130);replace d:=boxed (qa d u) (.cells YA 130);clear u;have B:=b.c 0;have p0:=b.free 0 (by simp[qh]);have C:=b.c 1;have p1:=b.free 1 (by simp[qh]);have D:=b.c 2;have p2:=b.free 2 (by simp[qh]);have E:=b.c 3;have p3:=b.free 3 (by simp[qh]);have F:=b.c 4;have G:=b.free 4 (by simp[qh]);have H:=b.c 5;have I:=b.free 5 (by simp[qh]);have r:=((((((b.set 0 (U 0) (by simp[qh])).set 1 (U 0) (by simp[qh])).set 2 (U 0) (by simp[qh])).set 3 (U 0) (by simp[qh])).set 4 (.string ⟨#[]⟩) (by simp[qh])).set 5 (.bool false) (by simp[qh]));have s:=((((((d.setCell (p:=AD (w.heap.size+1) 0) (by show w.heap.size<=w.heap.size+1;omega) (U 0)).setCell (p:=AD (w.heap.size+1) 1) (by show w.heap.size<=w.heap.size+1;omega) (U 0)).setCell (p:=AD (w.heap.size+1) 2) (by show w.heap.size<=w.heap.size+1;omega) (U 0)).setCell (p:=AD (w.heap.size+1) 3) (by show w.heap.size<=w.heap.size+1;omega) (U 0)).setCell (p:=AD (w.heap.size+1) 4) (by show w.heap.size<=w.heap.size+1;omega) (.string ⟨#[]⟩)).setCell (p:=AD (w.heap.size+1) 5) (by show w.heap.size<=w.heap.size+1;omega) (.bool false))
  go_wp2_with fail
  refine bodyPost_ret (qf2 (v:=jq) r rfl rfl) rfl ⟨?_,s⟩;rw[q.out]
 |some v=>
  obtain⟨g,i,j,k,m,t⟩:=v;have Y:qga (some (⟨g,i,j,k,m,t⟩:Ver))=true:=rfl;rw[show qh ((some (⟨g,i,j,k,m,t⟩:Ver)).getD jq)=[U g,U i,U j,U k,.string m,.bool t]from rfl];replace b:=(b.later u).boxed (.cells #[U g,U i,U j,U k,.string m,.bool t] 130);have Z:=qd.new (w:=w2) (T:=130) [U g,U i,U j,U k,.string m,.bool t] rfl;replace d:=boxed (qa d u) (.cells #[U g,U i,U j,U k,.string m,.bool t] 130);clear u;obtain⟨b0,b1,b2,b3,b4,b5⟩:=Z.c6;cases t
  ·have q:Hid (zz key a0 a1 a2 a3 l=(⟨g,i,j,k,m,false⟩,0)):=K.out;have B:=b.c 0;have p0:=b.free 0 (by simp[qh]);have C:=b.c 1;have p1:=b.free 1 (by simp[qh]);have D:=b.c 2;have p2:=b.free 2 (by simp[qh]);have E:=b.c 3;have p3:=b.free 3 (by simp[qh]);have F:=b.c 4;have G:=b.free 4 (by simp[qh]);have H:=b.c 5;have I:=b.free 5 (by simp[qh]);have r:=((((((b.set 0 (U g) (by simp[qh])).set 1 (U i) (by simp[qh])).set 2 (U j) (by simp[qh])).set 3 (U k) (by simp[qh])).set 4 (.string m) (by simp[qh])).set 5 (.bool false) (by simp[qh]));have s:=((((((d.setCell (p:=AD (w.heap.size+1) 0) (by show w.heap.size<=w.heap.size+1;omega) (U g)).setCell (p:=AD (w.heap.size+1) 1) (by show w.heap.size<=w.heap.size+1;omega) (U i)).setCell (p:=AD (w.heap.size+1) 2) (by show w.heap.size<=w.heap.size+1;omega) (U j)).setCell (p:=AD (w.heap.size+1) 3) (by show w.heap.size<=w.heap.size+1;omega) (U k)).setCell (p:=AD (w.heap.size+1) 4) (by show w.heap.size<=w.heap.size+1;omega) (.string m)).setCell (p:=AD (w.heap.size+1) 5) (by show w.heap.size<=w.heap.size+1;omega) (.bool false))
   go_wp2_with fail
   refine bodyPost_ret (qf2 (v:=⟨g,i,j,k,m,false⟩) r rfl rfl) rfl ⟨?_,s⟩;rw[q.out]
  have q:Hid (zz key a0 a1 a2 a3 l=(jq,8)):=K.out;have B:=b.c 0;have p0:=b.free 0 (by simp[qh]);have C:=b.c 1;have p1:=b.free 1 (by simp[qh]);have D:=b.c 2;have p2:=b.free 2 (by simp[qh]);have E:=b.c 3;have p3:=b.free 3 (by simp[qh]);have F:=b.c 4;have G:=b.free 4 (by simp[qh]);have H:=b.c 5;have I:=b.free 5 (by simp[qh]);have r:=((((((b.set 0 (U 0) (by simp[qh])).set 1 (U 0) (by simp[qh])).set 2 (U 0) (by simp[qh])).set 3 (U 0) (by simp[qh])).set 4 (.string ⟨#[]⟩) (by simp[qh])).set 5 (.bool false) (by simp[qh]));have s:=((((((d.setCell (p:=AD (w.heap.size+1) 0) (by show w.heap.size<=w.heap.size+1;omega) (U 0)).setCell (p:=AD (w.heap.size+1) 1) (by show w.heap.size<=w.heap.size+1;omega) (U 0)).setCell (p:=AD (w.heap.size+1) 2) (by show w.heap.size<=w.heap.size+1;omega) (U 0)).setCell (p:=AD (w.heap.size+1) 3) (by show w.heap.size<=w.heap.size+1;omega) (U 0)).setCell (p:=AD (w.heap.size+1) 4) (by show w.heap.size<=w.heap.size+1;omega) (.string ⟨#[]⟩)).setCell (p:=AD (w.heap.size+1) 5) (by show w.heap.size<=w.heap.size+1;omega) (.bool false))
  go_wp2_with fail
  refine bodyPost_ret (qf2 (v:=jq) r rfl rfl) rfl ⟨?_,s⟩;rw[q.out]
end
theorem qj2:(Tryz.prog.info? 185).map (λi=>(i.zero,i.size,i.bytes))=some (some (.agg #[U 0,U 0,U 0,U 0,U 0,.string ⟨#[]⟩,.bool false]),7,64):=by kernel_rfl
section
structure qfs (w:World) (sb so:Nat) (v:Value) (l:List Hd):Prop where
 box:qel w sb so v
 own:w.ownsRow 0 185 7 v l.length (qjb l)
 apart:v.ownBlock≠some sb
 ok:∀h∈l,qau h.v=true
def qdg (w:World) (sb so:Nat) (v:Value) (l':List Hd) (w':World):Prop:=
 ∃v',qfs w' sb so v' l'/\(∀k,v'.ownBlock=some k->v.ownBlock=some k\/w.heap.size<=k)/\qc (q0q sb v) w w'/\qc6 sb so w w'
variable {w w':World} {sb so:Nat} {v:Value} {l:List Hd}
theorem qfs.later (h:qfs w sb so v l) (a:Bw w w'):qfs w' sb so v l:=⟨h.box.later a,qe1 h.own a,h.apart,h.ok⟩
theorem qdg.same (h:qfs w sb so v l) (a:Bw w w'):qdg w sb so v l w':=
 ⟨v,h.later a,λ_ b=>.inl b,qc.ofBelow a,qc6.ofBlock (a.block sb h.box.lt)⟩
variable {sv:Value}
theorem qzj {key:Int} (h:inB key 0 7=false) (v:Ver) (w:World) (a:qfs w sb so sv l):
 Ca 181 #[.pointer (some (AD sb so)),U key,.agg #[U v.wall,U v.count,U v.site,U v.seq,.string v.data,.bool v.gone]] w λe w'=>e=.returned (U (qb5 l key v))/\qdg w sb so sv (qa4 l key v) w':=by
 have e:qb5 l key v=2:=by unfold qb5;rw[h];rfl
 have b:qa4 l key v=l:=by unfold qa4;rw[e];rfl
 rw[e,b];have H:=hd1 h;go_enter Tryz.func181,Tryz.ntmps181
 go_wp2_with fail
 refine(vj H.out _).mono ?_;rintro e d ⟨rfl,c⟩
 go_wp2_with fail
 go_ret;exact⟨rfl,qdg.same a (qa (boxed (jcc _ _) _) c)⟩
theorem q5t {key:Int} (h:inB key 0 7=true) (v:Ver) (b:qau v=false) (w:World) (d:qfs w sb so sv l):
 Ca 181 #[.pointer (some (AD sb so)),U key,.agg #[U v.wall,U v.count,U v.site,U v.seq,.string v.data,.bool v.gone]] w λe w'=>e=.returned (U (qb5 l key v))/\qdg w sb so sv (qa4 l key v) w':=by
 have e:qb5 l key v=1:=by unfold qb5;rw[h,b];rfl
 have x:qa4 l key v=l:=by unfold qa4;rw[e];rfl
 rw[e,x];have H:=hd1 h;obtain⟨k,m,n,o,f,p⟩:=v;have R:=qd.new (w:=w) (T:=130) [U k,U m,U n,U o,.string f,.bool p] rfl;have a:=boxed (jcc _ w) (.cells #[U k,U m,U n,U o,.string f,.bool p] 130);go_enter Tryz.func181,Tryz.ntmps181
 go_wp2_with fail
 refine(vj H.out _).mono ?_;rintro e B ⟨rfl,t⟩;replace R:=R.later t;replace a:=qa a t;have C:=R.c 0;have D:=R.c 1;cases p1:(qi k&&qi m)
 ·have q:=hd1 p1
  go_wp2_with fail
  refine(qg5 q.out _).mono ?_;rintro e w2 ⟨rfl,g⟩;replace a:=qa a g
  go_wp2_with fail
  go_ret;exact⟨rfl,qdg.same d a⟩
 have q:=hd1 p1
 go_wp2_with fail
 refine(qg5 q.out _).mono ?_;rintro e w2 ⟨rfl,g⟩;replace R:=R.later g;replace a:=qa a g;have E:=R.c 2;cases p2:inB n 0 3
 ·have r:=hd1 p2
  go_wp2_with fail
  refine(vj r.out _).mono ?_;rintro e y ⟨rfl,i⟩;replace a:=qa a i
  go_wp2_with fail
  go_ret;exact⟨rfl,qdg.same d a⟩
 have r:=hd1 p2
 go_wp2_with fail
 refine(vj r.out _).mono ?_;rintro e y ⟨rfl,i⟩;replace R:=R.later i;replace a:=qa a i;have F:=R.c 3;cases p3:inB o 1 1099511627776
 ·have s:=hd1 p3
  go_wp2_with fail
  refine(vj s.out _).mono ?_;rintro e z ⟨rfl,j⟩;replace a:=qa a j
  go_wp2_with fail
  go_ret;exact⟨rfl,qdg.same d a⟩
 have s:=hd1 p3
 go_wp2_with fail
 refine(vj s.out _).mono ?_;rintro e z ⟨rfl,j⟩;replace R:=R.later j;replace a:=qa a j;have G:=R.c 4;have I:=R.c 5;by_cases J:12<(f.size:Int)
 ·clear p1 p2 p3
  go_wp2_with fail
  go_ret;exact⟨rfl,qdg.same d a⟩
 have u:decide ((f.size:Int)<=12)=true:=decide_eq_true (by omega);cases p
 ·simp only[qau,p1,p2,p3,u,Bool.and_self,Bool.false_and,Bool.not_false]at b;cases b
 cases he:f.toList.isEmpty
 ·clear p1 p2 p3
  go_wp2_with fail
  go_ret;exact⟨rfl,qdg.same d a⟩
 simp only[qau,p1,p2,p3,u,he,Bool.and_self,Bool.not_true,Bool.and_false,Bool.not_false]at b;cases b
end
section
variable {sb so:Nat} {sv:Value} {l:List Hd}
theorem q7v {key:Int} (h:inB key 0 7=true) (v:Ver) (hv:qau v=true) (w:World) (E:qfs w sb so sv l) (hl:l.length<=1000):
 Ca 181 #[.pointer (some (AD sb so)),U key,.agg #[U v.wall,U v.count,U v.site,U v.seq,.string v.data,.bool v.gone]] w λe w'=>e=.returned (U (qb5 l key v))/\qdg w sb so sv (qa4 l key v) w':=by
 have he:=qvp;have H:=hd1 h;have HV:=hd1 hv;clear h;obtain⟨d,f,m,o,n,gn⟩:=v;have hp:=hv;simp only[qau,jct]at hp;obtain⟨⟨⟨⟨p1,p2⟩,p3⟩,p4⟩,p5⟩:=hp
 have P1:Hid ((qi d&&qi f)=true):=by show (qi d&&qi f)=true;rw[p1.1,p1.2];rfl
 have P2:=hd1 p2;have P3:=hd1 p3
 have hdt:¬12<(n.size:Int):=by have:=of_decide_eq_true p4;omega
 have P5:=hd1 p5;clear p1 p2 p3 p4 p5 hv;have R:=qd.new (w:=w) (T:=130) [U d,U f,U m,U o,.string n,.bool gn] rfl;have p:=boxed (jcc _ w) (.cells #[U d,U f,U m,U o,.string n,.bool gn] 130);go_enter Tryz.func181,Tryz.ntmps181
 go_wp2_with fail
 refine(vj H.out _).mono ?_;rintro e w1 ⟨rfl,hb1⟩;replace R:=R.later hb1;replace p:=qa p hb1;have c0:=R.c 0;have c1:=R.c 1
 go_wp2_with fail
 refine(qg5 P1.out _).mono ?_;rintro e w2 ⟨rfl,hb2⟩;replace R:=R.later hb2;replace p:=qa p hb2;clear hb1 hb2 c0 c1;have c2:=R.c 2
 go_wp2_with fail
 refine(vj P2.out _).mono ?_;rintro e w3 ⟨rfl,hb3⟩;replace R:=R.later hb3;replace p:=qa p hb3;clear hb3 c2;have c3:=R.c 3
 go_wp2_with fail
 refine(vj P3.out _).mono ?_;rintro e w4 ⟨rfl,hb4⟩;replace R:=R.later hb4;replace p:=qa p hb4;clear hb4 c3;have c4:=R.c 4;have c5:=R.c 5;cases gn
 ·skip;obtain⟨a,cap,rfl,hH⟩:=qhq E.own;have N:=hH.later p;have box4:=E.box.later p;have s0:=box4.cell
  go_wp2_with fail
  clear s0 box4
  go_loopw [48] (λiv wr=>∃(k:Nat) (z:Int),k<=l.length/\z=k/\iv=U z/\(∀j,j<k->qb2 key ⟨d,f,m,o,n,false⟩ (qbd l j)=false)/\qd wr w.heap.size [U d,U f,U m,U o,.string n,.bool false]/\Bw w wr) (λi _=>l.length-(intOf i).toNat)
  case atStart=>exact⟨0,0,by omega,rfl,rfl,λj V=>by omega,R,p⟩
  clear R p N;obtain⟨k,z,O,W,rfl,hnt,R,p⟩:=hrel;have P:=hd1 hnt;clear hnt;have X:=hd1 W;have N:=hH.later p;by_cases s:k<l.length
  ·have h1:z<(l.length:Int):=by omega
   have h2:z.toNat=k:=by omega
   have h3:0<=z:=by omega
   clear W
   obtain⟨b,t,rfl,y⟩:∃b t,a=some (AD b t)/\∀i r u,i<l.length->(hdL (qbd l i))[r]?=some u->wr.cell? (AD b (t+(i*7+r)))=some u:=by
        rcases N.held with Y|Y
        ·rw[Y]at s;simp at s
        exact Y
   obtain⟨⟨F,⟨G,I,J,Z,hd,hg⟩⟩,q⟩:∃x,qbd l k=x:=⟨_,rfl⟩;have x0:wr.cell? (AD b (t+k*7))=some (U F):=y k 0 _ s (by rw[q];rfl);have x1:wr.cell? (AD b (t+k*7+1))=some (U G):=y k 1 _ s (by rw[q];rfl);have x2:wr.cell? (AD b (t+k*7+2))=some (U I):=y k 2 _ s (by rw[q];rfl);have x3:wr.cell? (AD b (t+k*7+3))=some (U J):=y k 3 _ s (by rw[q];rfl);have x4:wr.cell? (AD b (t+k*7+4))=some (U Z):=y k 4 _ s (by rw[q];rfl);have x5:wr.cell? (AD b (t+k*7+5))=some (.string hd):=y k 5 _ s (by rw[q];rfl);have x6:wr.cell? (AD b (t+k*7+6))=some (.bool hg):=y k 6 _ s (by rw[q];rfl);have HX:=hd1 q;clear q y N
   have Q:Hid (qb2 key ⟨d,f,m,o,n,false⟩ (qbd l k)=((F==key)&&qhi G I d f&&(J==m))):=by
        show qb2 key ⟨d,f,m,o,n,false⟩ (qbd l k)=_;rw[HX.out];simp only[qb2,qhi];rw[Bool.eq_iff_iff];simp
   have C:=R.boxed (.cells #[U F,U G,U I,U J,U Z,.string hd,.bool hg] 185);have S:=boxed p (.cells #[U F,U G,U I,U J,U Z,.string hd,.bool hg] 185);have c0:=C.c 0;have c1:=C.c 1;have c2:=C.c 2;cases e1:(F==key)
   ·have K:Hid (∀j,j<k+1->qb2 key ⟨d,f,m,o,n,false⟩ (qbd l j)=false):=λj V=>by
     rcases jc7 j k with g|g
     ·exact P.out j g
     obtain rfl:j=k:=by omega
     rw[Q.out,e1];rfl
    go_wp2_with fail
    go_roundw
    case rel=>exact⟨k+1,z+1,by omega,by have:=X.out;omega,by go_num,K.out,C,S⟩
    simp[intOf];omega
   cases e2:qhi G I d f
   ·have K:Hid (∀j,j<k+1->qb2 key ⟨d,f,m,o,n,false⟩ (qbd l j)=false):=λj V=>by
     rcases jc7 j k with g|g
     ·exact P.out j g
     obtain rfl:j=k:=by omega
     rw[Q.out,e1,e2];rfl
    go_wp2_with fail
    go_roundw
    case rel=>exact⟨k+1,z+1,by omega,by have:=X.out;omega,by go_num,K.out,C,S⟩
    simp[intOf];omega
   cases e3:(J==m)
   ·have K:Hid (∀j,j<k+1->qb2 key ⟨d,f,m,o,n,false⟩ (qbd l j)=false):=λj V=>by
     rcases jc7 j k with g|g
     ·exact P.out j g
     obtain rfl:j=k:=by omega
     rw[Q.out,e1,e2,e3];rfl
    go_wp2_with fail
    go_roundw
    case rel=>exact⟨k+1,z+1,by omega,by have:=X.out;omega,by go_num,K.out,C,S⟩
    simp[intOf];omega
   have L:Hid (qb5 l key ⟨d,f,m,o,n,false⟩=9):=by
        have tt:qb2 key ⟨d,f,m,o,n,false⟩ (qbd l k)=true:=by rw[Q.out,e1,e2,e3];rfl
        have ta:=List.any_eq_true.2 ⟨qbd l k,by simp only[qbd,List.getD,jcg s,Option.getD_some];exact jdr s,tt⟩;show qb5 l key ⟨d,f,m,o,n,false⟩=9;unfold qb5;rw[H.out,HV.out,ta];rfl
   have PL:Hid (qa4 l key ⟨d,f,m,o,n,false⟩=l):=by show qa4 l key ⟨d,f,m,o,n,false⟩=l;unfold qa4;rw[L.out];rfl
   go_wp2_with fail
   go_ret;exact⟨by rw[L.out];rfl,by rw[PL.out];exact qdg.same E S⟩
  have h4:¬z<(l.length:Int):=by omega
  have L:Hid (qb5 l key ⟨d,f,m,o,n,false⟩=0):=by
   have ta:l.any (qb2 key ⟨d,f,m,o,n,false⟩)=false:=by
        rw[List.any_eq_false];intro x q;obtain⟨i,hi,rfl⟩:=jdm.1 q;have e:=P.out i (by omega);simp only[qbd,List.getD,jcg hi,Option.getD_some]at e;simp[e]
   show qb5 l key ⟨d,f,m,o,n,false⟩=0;unfold qb5;rw[H.out,HV.out,ta];rfl
  have PL:Hid (qa4 l key ⟨d,f,m,o,n,false⟩=l++[⟨key,⟨d,f,m,o,n,false⟩⟩]):=by show qa4 l key ⟨d,f,m,o,n,false⟩=_;unfold qa4;rw[L.out];rfl
  clear W;have B:=E.later p;have s0:=B.box.cell;have s1:=B.box.free;have hsb:=B.box.lt;obtain⟨c0,c1,c2,c3,c4,c5⟩:=R.c6;have ownd:wr.drew.ownsRow 0 185 7 (.slice a l.length cap) l.length (qjb l):=B.own;obtain⟨i0,hi,hz0,hz1,hz2⟩:=info_parts qj2
  go_wp2_with fail
  go_region_law (refine step_append_lies _ rfl (.tmp 77) (.tmp 81) 81 rfl 0 185 i0 (.agg #[U 0,U 0,U 0,U 0,U 0,.string ⟨#[]⟩,.bool false]) 7 64 Tryz.underlying81 hi hz0 hz1 hz2 rfl (by decide) (.slice a l.length cap) l.length (qjb l) (by simp[Act.eval]) (ownd.alloc _) (AD wr.heap.size 0) 1 1 (hdL ⟨key,⟨d,f,m,o,n,false⟩⟩) (by simp[Act.eval]) rfl (World.news_of_block (heap_alloc_new wr.drew (.cells #[U key,U d,U f,U m,U o,.string n,.bool false] 185))) (by intro u hu;simp[hdL]at hu;rcases hu with rfl|rfl|rfl|rfl|rfl|rfl|rfl<;>rfl) (by decide) (by simp only[maxLen];omega) (by omega) (by simp) _ rfl ?_
                 intro g M D ownE grE egE ltE;have BE:=((B.box.drew).boxed (.cells #[U key,U d,U f,U m,U o,.string n,.bool false] 185)).grown grE (λe=>B.apart e.symm);have s0E:=BE.cell
                 have s1E:=BE.free)
  all_goals
   have BZ:=BE.set (.slice (PT g) (l.length+1) M)
   have gne:g≠sb:=by
        rcases egE with e|e
        ·intro h;rw[h]at e;exact B.apart e
        simp at e;omega
   have gnew:(Value.slice a l.length cap).ownBlock=some g\/w.heap.size<=g:=by
        rcases egE with e|e
        ·exact .inl e
        right
        have:=p.size;simp at e;omega
   have ownZ:=ownE.kept (row:=some sb) (qhs sb so D (.slice (PT g) (l.length+1) M)) (.inr (λe=>gne (by simpa[Value.ownBlock]using e)))
   have TZ:qc (q0q sb (.slice a l.length cap)) w (D.setCell (AD sb so) (.slice (PT g) (l.length+1) M)):=
        (((qc.ofBelow p).trans (qc.ofBelow (boxed ((jcc _ wr).drew) (.cells #[U key,U d,U f,U m,U o,.string n,.bool false] 185)))).trans (qc.grown grE (λk O=>.inr O))).trans (qc.setCell D (AD sb so) _ (.inl rfl))
   have RZ:qc6 sb so w (D.setCell (AD sb so) (.slice (PT g) (l.length+1) M)):=
        (((qc6.ofBlock (p.block sb E.box.lt)).trans (qc6.ofBlock (w:=wr) (jdg wr.drew _ sb hsb))).trans (qc6.ofBlock (grE.block sb (by simp;omega) (λe=>B.apart e.symm)))).trans (qc6.set sb so D _)
   have FIN:Hid (qdg w sb so (.slice a l.length cap) (l++[⟨key,⟨d,f,m,o,n,false⟩⟩]) (D.setCell (AD sb so) (.slice (PT g) (l.length+1) M))):=
        ⟨_,⟨BZ,by rw[qh8,jcl];exact ownZ,λe=>gne (by simpa[Value.ownBlock]using e),λx q=>by
          rcases jcf.1 q with h|h
          ·exact E.ok x h
          ·obtain rfl:=jcj.1 h
           exact HV.out⟩,λk O=>by
          have e:g=k:=by simpa[Value.ownBlock]using O
          rw[<-e]
          exact gnew,TZ,RZ⟩
   clear BZ ownZ TZ gnew gne
   go_wp2_with fail
   go_ret;exact⟨by rw[L.out];rfl,by rw[PL.out];exact FIN.out⟩
 have em:n.toList.isEmpty=true:=by
  have:=P5.out;cases q:n.toList.isEmpty
  ·rw[q]at this;cases this
  rfl
 obtain⟨a,cap,rfl,hH⟩:=qhq E.own;have N:=hH.later p;have box4:=E.box.later p;have s0:=box4.cell
 go_wp2_with fail
 clear s0 box4
 go_loopw [48] (λiv wr=>∃(k:Nat) (z:Int),k<=l.length/\z=k/\iv=U z/\(∀j,j<k->qb2 key ⟨d,f,m,o,n,true⟩ (qbd l j)=false)/\qd wr w.heap.size [U d,U f,U m,U o,.string n,.bool true]/\Bw w wr) (λi _=>l.length-(intOf i).toNat)
 case atStart=>exact⟨0,0,by omega,rfl,rfl,λj V=>by omega,R,p⟩
 clear R p N;obtain⟨k,z,O,W,rfl,hnt,R,p⟩:=hrel;have P:=hd1 hnt;clear hnt;have X:=hd1 W;have N:=hH.later p;by_cases s:k<l.length
 ·have h1:z<(l.length:Int):=by omega
  have h2:z.toNat=k:=by omega
  have h3:0<=z:=by omega
  clear W
  obtain⟨b,t,rfl,y⟩:∃b t,a=some (AD b t)/\∀i r u,i<l.length->(hdL (qbd l i))[r]?=some u->wr.cell? (AD b (t+(i*7+r)))=some u:=by
   rcases N.held with Y|Y
   ·rw[Y]at s;simp at s
   exact Y
  obtain⟨⟨F,⟨G,I,J,Z,hd,hg⟩⟩,q⟩:∃x,qbd l k=x:=⟨_,rfl⟩;have x0:wr.cell? (AD b (t+k*7))=some (U F):=y k 0 _ s (by rw[q];rfl);have x1:wr.cell? (AD b (t+k*7+1))=some (U G):=y k 1 _ s (by rw[q];rfl);have x2:wr.cell? (AD b (t+k*7+2))=some (U I):=y k 2 _ s (by rw[q];rfl);have x3:wr.cell? (AD b (t+k*7+3))=some (U J):=y k 3 _ s (by rw[q];rfl);have x4:wr.cell? (AD b (t+k*7+4))=some (U Z):=y k 4 _ s (by rw[q];rfl);have x5:wr.cell? (AD b (t+k*7+5))=some (.string hd):=y k 5 _ s (by rw[q];rfl);have x6:wr.cell? (AD b (t+k*7+6))=some (.bool hg):=y k 6 _ s (by rw[q];rfl);have HX:=hd1 q;clear q y N
  have Q:Hid (qb2 key ⟨d,f,m,o,n,true⟩ (qbd l k)=((F==key)&&qhi G I d f&&(J==m))):=by
   show qb2 key ⟨d,f,m,o,n,true⟩ (qbd l k)=_;rw[HX.out];simp only[qb2,qhi];rw[Bool.eq_iff_iff];simp
  have C:=R.boxed (.cells #[U F,U G,U I,U J,U Z,.string hd,.bool hg] 185);have S:=boxed p (.cells #[U F,U G,U I,U J,U Z,.string hd,.bool hg] 185);have c0:=C.c 0;have c1:=C.c 1;have c2:=C.c 2;cases e1:(F==key)
  ·have K:Hid (∀j,j<k+1->qb2 key ⟨d,f,m,o,n,true⟩ (qbd l j)=false):=λj V=>by
        rcases jc7 j k with g|g
        ·exact P.out j g
        obtain rfl:j=k:=by omega
        rw[Q.out,e1];rfl
   go_wp2_with fail
   go_roundw
   case rel=>exact⟨k+1,z+1,by omega,by have:=X.out;omega,by go_num,K.out,C,S⟩
   simp[intOf];omega
  cases e2:qhi G I d f
  ·have K:Hid (∀j,j<k+1->qb2 key ⟨d,f,m,o,n,true⟩ (qbd l j)=false):=λj V=>by
        rcases jc7 j k with g|g
        ·exact P.out j g
        obtain rfl:j=k:=by omega
        rw[Q.out,e1,e2];rfl
   go_wp2_with fail
   go_roundw
   case rel=>exact⟨k+1,z+1,by omega,by have:=X.out;omega,by go_num,K.out,C,S⟩
   simp[intOf];omega
  cases e3:(J==m)
  ·have K:Hid (∀j,j<k+1->qb2 key ⟨d,f,m,o,n,true⟩ (qbd l j)=false):=λj V=>by
        rcases jc7 j k with g|g
        ·exact P.out j g
        obtain rfl:j=k:=by omega
        rw[Q.out,e1,e2,e3];rfl
   go_wp2_with fail
   go_roundw
   case rel=>exact⟨k+1,z+1,by omega,by have:=X.out;omega,by go_num,K.out,C,S⟩
   simp[intOf];omega
  have L:Hid (qb5 l key ⟨d,f,m,o,n,true⟩=9):=by
   have tt:qb2 key ⟨d,f,m,o,n,true⟩ (qbd l k)=true:=by rw[Q.out,e1,e2,e3];rfl
   have ta:=List.any_eq_true.2 ⟨qbd l k,by simp only[qbd,List.getD,jcg s,Option.getD_some];exact jdr s,tt⟩;show qb5 l key ⟨d,f,m,o,n,true⟩=9;unfold qb5;rw[H.out,HV.out,ta];rfl
  have PL:Hid (qa4 l key ⟨d,f,m,o,n,true⟩=l):=by show qa4 l key ⟨d,f,m,o,n,true⟩=l;unfold qa4;rw[L.out];rfl
  go_wp2_with fail
  go_ret;exact⟨by rw[L.out];rfl,by rw[PL.out];exact qdg.same E S⟩
 have h4:¬z<(l.length:Int):=by omega
 have L:Hid (qb5 l key ⟨d,f,m,o,n,true⟩=0):=by
  have ta:l.any (qb2 key ⟨d,f,m,o,n,true⟩)=false:=by
   rw[List.any_eq_false];intro x q;obtain⟨i,hi,rfl⟩:=jdm.1 q;have e:=P.out i (by omega);simp only[qbd,List.getD,jcg hi,Option.getD_some]at e;simp[e]
  show qb5 l key ⟨d,f,m,o,n,true⟩=0;unfold qb5;rw[H.out,HV.out,ta];rfl
 have PL:Hid (qa4 l key ⟨d,f,m,o,n,true⟩=l++[⟨key,⟨d,f,m,o,n,true⟩⟩]):=by show qa4 l key ⟨d,f,m,o,n,true⟩=_;unfold qa4;rw[L.out];rfl
 clear W;have B:=E.later p;have s0:=B.box.cell;have s1:=B.box.free;have hsb:=B.box.lt;obtain⟨c0,c1,c2,c3,c4,c5⟩:=R.c6;have ownd:wr.drew.ownsRow 0 185 7 (.slice a l.length cap) l.length (qjb l):=B.own;obtain⟨i0,hi,hz0,hz1,hz2⟩:=info_parts qj2
 go_wp2_with fail
 go_region_law (refine step_append_lies _ rfl (.tmp 77) (.tmp 81) 81 rfl 0 185 i0 (.agg #[U 0,U 0,U 0,U 0,U 0,.string ⟨#[]⟩,.bool false]) 7 64 Tryz.underlying81 hi hz0 hz1 hz2 rfl (by decide) (.slice a l.length cap) l.length (qjb l) (by simp[Act.eval]) (ownd.alloc _) (AD wr.heap.size 0) 1 1 (hdL ⟨key,⟨d,f,m,o,n,true⟩⟩) (by simp[Act.eval]) rfl (World.news_of_block (heap_alloc_new wr.drew (.cells #[U key,U d,U f,U m,U o,.string n,.bool true] 185))) (by intro u hu;simp[hdL]at hu;rcases hu with rfl|rfl|rfl|rfl|rfl|rfl|rfl<;>rfl) (by decide) (by simp only[maxLen];omega) (by omega) (by simp) _ rfl ?_
                intro g M D ownE grE egE ltE;have BE:=((B.box.drew).boxed (.cells #[U key,U d,U f,U m,U o,.string n,.bool true] 185)).grown grE (λe=>B.apart e.symm);have s0E:=BE.cell
                have s1E:=BE.free)
 all_goals
  have BZ:=BE.set (.slice (PT g) (l.length+1) M)
  have gne:g≠sb:=by
   rcases egE with e|e
   ·intro h;rw[h]at e;exact B.apart e
   simp at e;omega
  have gnew:(Value.slice a l.length cap).ownBlock=some g\/w.heap.size<=g:=by
   rcases egE with e|e
   ·exact .inl e
   right
   have:=p.size;simp at e;omega
  have ownZ:=ownE.kept (row:=some sb) (qhs sb so D (.slice (PT g) (l.length+1) M)) (.inr (λe=>gne (by simpa[Value.ownBlock]using e)))
  have TZ:qc (q0q sb (.slice a l.length cap)) w (D.setCell (AD sb so) (.slice (PT g) (l.length+1) M)):=
   (((qc.ofBelow p).trans (qc.ofBelow (boxed ((jcc _ wr).drew) (.cells #[U key,U d,U f,U m,U o,.string n,.bool true] 185)))).trans (qc.grown grE (λk O=>.inr O))).trans (qc.setCell D (AD sb so) _ (.inl rfl))
  have RZ:qc6 sb so w (D.setCell (AD sb so) (.slice (PT g) (l.length+1) M)):=
   (((qc6.ofBlock (p.block sb E.box.lt)).trans (qc6.ofBlock (w:=wr) (jdg wr.drew _ sb hsb))).trans (qc6.ofBlock (grE.block sb (by simp;omega) (λe=>B.apart e.symm)))).trans (qc6.set sb so D _)
  have FIN:Hid (qdg w sb so (.slice a l.length cap) (l++[⟨key,⟨d,f,m,o,n,true⟩⟩]) (D.setCell (AD sb so) (.slice (PT g) (l.length+1) M))):=
   ⟨_,⟨BZ,by rw[qh8,jcl];exact ownZ,λe=>gne (by simpa[Value.ownBlock]using e),λx q=>by
     rcases jcf.1 q with h|h
     ·exact E.ok x h
     ·obtain rfl:=jcj.1 h
      exact HV.out⟩,λk O=>by
     have e:g=k:=by simpa[Value.ownBlock]using O
     rw[<-e]
     exact gnew,TZ,RZ⟩
  clear BZ ownZ TZ gnew gne
  go_wp2_with fail
  go_ret;exact⟨by rw[L.out];rfl,by rw[PL.out];exact FIN.out⟩
theorem q7r (key:Int) (v:Ver) (w:World) (a:qfs w sb so sv l) (b:l.length<=1000):
 Ca 181 #[.pointer (some (AD sb so)),U key,.agg #[U v.wall,U v.count,U v.site,U v.seq,.string v.data,.bool v.gone]] w λe w'=>e=.returned (U (qb5 l key v))/\qdg w sb so sv (qa4 l key v) w':=by
 cases h:inB key 0 7
 ·exact qzj h v w a
 cases hv:qau v
 ·exact q5t h v hv w a
 exact q7v h v hv w a b
end
section
structure vu (w:World) (b:Nat) (lv wv sv:Value) (S:qe) (log waits:List TxM):Prop where
 box:qd w b (vz S lv wv sv)
 rlog:w.ownsRow 0 102 9 lv log.length (zw log)
 rwait:w.ownsRow 0 102 9 wv waits.length (zw waits)
 own:w.ownsRow 0 185 7 sv S.l.length (qjb S.l)
 ok:∀h∈S.l,qau h.v=true
 nl:lv.ownBlock≠some b
 nw:wv.ownBlock≠some b
 ns:sv.ownBlock≠some b
 lw:∀k,lv.ownBlock=some k->wv.ownBlock≠some k
 ls:∀k,lv.ownBlock=some k->sv.ownBlock≠some k
 ws:∀k,wv.ownBlock=some k->sv.ownBlock≠some k
 hold:∀m∈log++waits,qr w m.wa m.wc m.t.ws/\∀k,m.blk k->¬qu b lv wv sv k
variable {w:World} {b:Nat} {lv wv sv:Value} {S:qe}
theorem vu.lt {log waits:List TxM} (h:vu w b lv wv sv S log waits):∀k,qu b lv wv sv k->k<w.heap.size:=λk a=>by
 rcases a with rfl|a|a|a
 ·exact h.box.lt
 ·exact(h.rlog.lt k a).2
 ·exact(h.rwait.lt k a).2
 exact(h.own.lt k a).2
variable {w':World}
theorem vu.kept {log waits:List TxM} (h:vu w b lv wv sv S log waits) (a:∀k,k<w.heap.size->w'.heap[k]?=w.heap[k]?) (d:w.heap.size<=w'.heap.size):vu w' b lv wv sv S log waits:=
 ⟨h.box.kept (a b h.box.lt) d,qf h.rlog (λk e=>a k (h.rlog.lt k e).2),qf h.rwait (λk e=>a k (h.rwait.lt k e).2),qf h.own (λk e=>a k (h.own.lt k e).2),h.ok,h.nl,h.nw,h.ns,h.lw,h.ls,h.ws,
   λm c=>⟨(h.hold m c).1.kept (λk e=>a k ((h.hold m c).1.blk_lt k e)),(h.hold m c).2⟩⟩
theorem vu.later {log waits:List TxM} (h:vu w b lv wv sv S log waits) (a:Bw w w'):vu w' b lv wv sv S log waits:=h.kept a.block a.size
theorem vu.st {log waits:List TxM} (h:vu w b lv wv sv S log waits):qfs w b 9 sv S.l:=⟨⟨h.box.c 9,h.box.free 9 (by simp[vz]),h.box.lt⟩,h.own,h.ns,h.ok⟩
theorem vu.store {log waits:List TxM} {r:List Hd} (h:vu w b lv wv sv S log waits) (z:qdg w b 9 sv r w'):
 ∃d,vu w' b lv wv d {S with l:=r} log waits/\(∀k,qu b lv wv d k->qu b lv wv sv k\/w.heap.size<=k)/\qc (qu b lv wv sv) w w':=by
 obtain⟨d,f,p,g,s⟩:=z
 have n:∀k,k<w.heap.size->k≠b->sv.ownBlock≠some k->w'.heap[k]?=w.heap[k]?:=λk c a A=>g.block k c (λe=>by
  rcases e with e|e
  ·exact a e
  exact A e)
 have B:=λk e=>n k (h.rlog.lt k e).2 (λx=>h.nl (by rw[<-x];exact e)) (h.ls k e);have C:=λk e=>n k (h.rwait.lt k e).2 (λx=>h.nw (by rw[<-x];exact e)) (h.ws k e)
 have t:∀k,qu b lv wv d k->qu b lv wv sv k\/w.heap.size<=k:=λk c=>by
  rcases c with c|c|c|c
  ·exact .inl (.inl c)
  ·exact .inl (.inr (.inl c))
  ·exact .inl (.inr (.inr (.inl c)))
  rcases p k c with a|a
  ·exact .inl (.inr (.inr (.inr a)))
  exact .inr a
 refine⟨d,⟨⟨λj v u=>?_,λj D=>?_,f.box.lt⟩,qf h.rlog B,qf h.rwait C,f.own,f.ok,h.nl,h.nw,f.apart,h.lw,λk e=>?_,λk e=>?_,λm i=>⟨(h.hold m i).1.kept (λk e=>?_),λk e o=>?_⟩⟩,t,⟨g.os,g.tape,g.output,g.size,λk c o=>n k c (λe=>o (.inl e)) (λe=>o (.inr (.inr (.inr e))))⟩⟩
 ·by_cases e:j=9
  ·subst e
   have E:v=d:=by simpa[vz]using u.symm
   rw[E];exact f.box.cell
  rw[(s j e).1];refine h.box.cell j v ?_;rw[<-u];unfold vz
  match j,e with
  |0,_=>rfl
  |1,_=>rfl
  |2,_=>rfl
  |3,_=>rfl
  |4,_=>rfl
  |5,_=>rfl
  |6,_=>rfl
  |7,_=>rfl
  |8,_=>rfl
  |j+10,_=>rfl
 ·by_cases e:j=9
  ·subst e;exact f.box.free
  rw[(s j e).2];exact h.box.free j D
 ·intro q;rcases p k q with a|a
  ·exact h.ls k e a
  have:=(h.rlog.lt k e).2;omega
 ·intro q;rcases p k q with a|a
  ·exact h.ws k e a
  have:=(h.rwait.lt k e).2;omega
 ·have F:=(h.hold m i).1.blk_lt k e;have y:=(h.hold m i).2 k e;exact n k F (λx=>y (.inl x)) (λx=>y (.inr (.inr (.inr x))))
 rcases t k o with a|a
 ·exact(h.hold m i).2 k e a
 have:=(h.hold m i).1.blk_lt k e;omega
end
section
structure qjv (w0:World) (b:Nat) (lv wv sv:Value) (S:qe) (log waits:List TxM) (m:TxM) (k:Nat) (sv':Value) (wr:World):Prop where
 mem:vu wr b lv wv sv' {S with l:=qbz m.t (m.t.ws.take k) S.l} log waits
 box:qd wr w0.heap.size (txC m)
 far:¬qu b lv wv sv' w0.heap.size
 foot:∀j,qu b lv wv sv' j->qu b lv wv sv j\/w0.heap.size<=j
 touch:qc (qu b lv wv sv) w0 wr
variable {w0 wr w':World} {b k:Nat} {lv wv sv:Value} {S:qe} {m:TxM}
theorem qjv.later {log waits:List TxM} {c:Value} (h:qjv w0 b lv wv sv S log waits m k c wr) (a:Bw wr w'):qjv w0 b lv wv sv S log waits m k c w':=
 ⟨h.mem.later a,h.box.later a,h.far,h.foot,h.touch.trans (qc.ofBelow a)⟩
theorem qjv.put {log waits:List TxM} {e:Value} (h:qjv w0 b lv wv sv S log waits m k e wr) (i:k<m.t.ws.length)
 (n:qdg wr b 9 e (qa4 (qbz m.t (m.t.ws.take k) S.l) (qa7 m.t.ws k).key (qne m.t (qa7 m.t.ws k))) w'):∃c,qjv w0 b lv wv sv S log waits m (k+1) c w':=by
 obtain⟨c,o,f,d⟩:=h.mem.store n;refine⟨c,by rw[qpz i];exact o,h.box.kept (d.block _ h.box.lt h.far) d.size,λp=>?_,λj q=>?_,h.touch.more d h.foot⟩
 ·rcases f _ p with a|a
  ·exact h.far a
  have:=h.box.lt;omega
 rcases f j q with a|a
 ·exact h.foot j a
 exact .inr (by have:=h.touch.size;omega)
theorem qjv.outside {log waits:List TxM} {c:Value} {d:Nat} {xs:List Value} {f:List Hd} (h:qjv w0 b lv wv sv S log waits m k c wr)
 (i:qdg wr b 9 c f w') (e:qd wr d xs) (j:¬qu b lv wv c d):ApB w0.heap.size d (txC m) xs w':=by
 obtain⟨l,n,o,a⟩:=h.mem.store i;exact⟨h.box.kept (a.block _ h.box.lt h.far) a.size,e.kept (a.block _ e.lt j) a.size⟩
variable {w:World}
theorem vu.cells {S':qe} {log waits:List TxM} (h:vu w b lv wv sv S log waits) (a:∀k,k≠b->w'.heap[k]?=w.heap[k]?) (f:qd w' b (vz S' lv wv sv)) (d:S'.l=S.l):vu w' b lv wv sv S' log waits:=
 ⟨f,qf h.rlog (λk e=>a k (λx=>h.nl (by rw[<-x];exact e))),qf h.rwait (λk e=>a k (λx=>h.nw (by rw[<-x];exact e))),by rw[d];exact qf h.own (λk e=>a k (λx=>h.ns (by rw[<-x];exact e))),by rw[d];exact h.ok,h.nl,h.nw,h.ns,h.lw,h.ls,h.ws,
   λm c=>⟨(h.hold m c).1.kept (λk e=>a k (λx=>(h.hold m c).2 k e (.inl x))),(h.hold m c).2⟩⟩
variable {s:Int}
theorem vu.seq {log waits:List TxM} (h:vu w b lv wv sv S log waits) (x:Int) (d:0<=s) (e:s<=3):
 vu (w.setCell (AD b (1+s.toNat)) (U x)) b lv wv sv {S with a0:=qch s x S.a0,a1:=qcl s x S.a1,a2:=qck s x S.a2,a3:=qcj s x S.a3} log waits:=by
 refine h.cells (λk a=>jce _ _ _ _ a) ?_ rfl;have R:=h.box.set (1+s.toNat) (U x) (by simp[vz];omega)
 have c:s=0\/s=1\/s=2\/s=3:=by omega
 rcases c with rfl|rfl|rfl|rfl<;>exact R
theorem vu.last {log waits:List TxM} (h:vu w b lv wv sv S log waits) (x y:Int):
 vu ((w.setCell (AD b 5) (U x)).setCell (AD b 6) (U y)) b lv wv sv {S with lw:=x,lc:=y} log waits:=
 h.cells (λk a=>(jce _ _ _ _ a).trans (jce _ _ _ _ a)) ((h.box.set 5 _ (by simp[vz])).set 6 _ (by simp[vz])) rfl
variable {wE:World} {g:Nat}
theorem vu.append {log waits:List TxM} (h:vu w b lv wv sv S log waits) (m:TxM) (r:qr w m.wa m.wc m.t.ws/\∀k,m.blk k->¬qu b lv wv sv k) {f:Nat} (n:w.grownBy wE lv.ownBlock)
 (u:wE.ownsRow 0 102 9 (.slice (PT g) (log.length+1) f) (log.length+1) (zw log++txC m)) (l:lv.ownBlock=some g\/w.heap.size<=g):
 vu (wE.setCell (AD b 7) (.slice (PT g) (log.length+1) f)) b (.slice (PT g) (log.length+1) f) wv sv S (log++[m]) waits/\(∀k,qu b (.slice (PT g) (log.length+1) f) wv sv k->qu b lv wv sv k\/w.heap.size<=k)/\
  qc (qu b lv wv sv) w (wE.setCell (AD b 7) (.slice (PT g) (log.length+1) f)):=by
 have o:∀k,k<w.heap.size->k≠b->lv.ownBlock≠some k->(wE.setCell (AD b 7) (.slice (PT g) (log.length+1) f)).heap[k]?=w.heap[k]?:=λk c a j=>
  (jce _ _ _ _ a).trans (n.block k c (λe=>j e.symm))
 have p:g≠b:=λe=>by
  rcases l with a|a
  ·exact h.nl (by rw[<-e];exact a)
  have:=h.box.lt;omega
 have gk:∀k,(Value.slice (PT g) (log.length+1) f).ownBlock=some k->g=k:=λk c=>by simpa[Value.ownBlock]using c
 have q:∀k,qu b (.slice (PT g) (log.length+1) f) wv sv k->qu b lv wv sv k\/w.heap.size<=k:=λk c=>by
  rcases c with c|c|c
  ·exact .inl (.inl c)
  ·obtain rfl:=gk k c;rcases l with a|a
   ·exact .inl (.inr (.inl a))
   exact .inr a
  exact .inl (.inr (.inr c))
 have v:∀d:TxM,(qr w d.wa d.wc d.t.ws/\∀k,d.blk k->¬qu b lv wv sv k)->qr (wE.setCell (AD b 7) (.slice (PT g) (log.length+1) f)) d.wa d.wc d.t.ws/\∀k,d.blk k->¬qu b (.slice (PT g) (log.length+1) f) wv sv k:=λd i=>
  ⟨i.1.kept (λk e=>o k (i.1.blk_lt k e) (λx=>i.2 k e (.inl x)) (λx=>i.2 k e (.inr (.inl x)))),λk e y=>by
    rcases q k y with a|a
    ·exact i.2 k e a
    have:=i.1.blk_lt k e
    omega⟩
 refine⟨⟨(h.box.grown n (λe=>h.nl e.symm)).set 7 _ (by simp[vz]),?_,qf h.rwait (λk e=>o k (h.rwait.lt k e).2 (λx=>h.nw (by rw[<-x];exact e)) (λx=>h.lw k x e)),qf h.own (λk e=>o k (h.own.lt k e).2 (λx=>h.ns (by rw[<-x];exact e)) (λx=>h.ls k x e)),h.ok,λe=>p (gk b e),h.nw,h.ns,
  λk e=>?_,λk e=>?_,h.ws,λd i=>v d ?_⟩,q,?_⟩
 ·have:=u.kept (row:=some b) (qhs b 7 wE (.slice (PT g) (log.length+1) f)) (.inr (λe=>p (gk b e)));rw[qkf,jcl];exact this
 ·obtain rfl:=gk k e;rcases l with a|a
  ·exact h.lw _ a
  intro x;have:=(h.rwait.lt _ x).2;omega
 ·obtain rfl:=gk k e;rcases l with a|a
  ·exact h.ls _ a
  intro x;have:=(h.own.lt _ x).2;omega
 ·rcases jcf.1 i with a|a
  ·rcases jcf.1 a with j|j
   ·exact h.hold d (jcf.2 (.inl j))
   obtain rfl:=jcj.1 j;exact r
  exact h.hold d (jcf.2 (.inr a))
 exact(qc.grown n (λk c=>.inr (.inl c))).trans (qc.setCell wE (AD b 7) _ (.inl rfl))
structure ApE (w0:World) (b:Nat) (lv wv sv:Value) (S:qe) (log waits:List TxM) (m:TxM) (sv':Value) (wr:World):Prop where
 mem:vu wr b lv wv sv' S log waits
 box:qd wr w0.heap.size (txC m)
 far:¬qu b lv wv sv' w0.heap.size
 foot:∀j,qu b lv wv sv' j->qu b lv wv sv j\/w0.heap.size<=j
 touch:qc (qu b lv wv sv) w0 wr
theorem ApE.later {log waits:List TxM} {c:Value} (h:ApE w0 b lv wv sv S log waits m c wr) (a:Bw wr w'):ApE w0 b lv wv sv S log waits m c w':=
 ⟨h.mem.later a,h.box.later a,h.far,h.foot,h.touch.trans (qc.ofBelow a)⟩
theorem ApE.seq {log waits:List TxM} {a:Value} (h:ApE w0 b lv wv sv S log waits m a wr) (x:Int) (c:0<=s) (d:s<=3):
 ApE w0 b lv wv sv {S with a0:=qch s x S.a0,a1:=qcl s x S.a1,a2:=qck s x S.a2,a3:=qcj s x S.a3} log waits m a (wr.setCell (AD b (1+s.toNat)) (U x)):=
 ⟨h.mem.seq x c d,h.box.far _ _ (λe=>h.far (.inl e.symm)),h.far,h.foot,h.touch.trans (qc.setCell wr (AD b (1+s.toNat)) _ (.inl rfl))⟩
theorem ApE.last {log waits:List TxM} {a:Value} (h:ApE w0 b lv wv sv S log waits m a wr) (x y:Int):
 ApE w0 b lv wv sv {S with lw:=x,lc:=y} log waits m a ((wr.setCell (AD b 5) (U x)).setCell (AD b 6) (U y)):=
 ⟨h.mem.last x y,(h.box.far _ _ (λe=>h.far (.inl e.symm))).far _ _ (λe=>h.far (.inl e.symm)),h.far,h.foot,(h.touch.trans (qc.setCell wr (AD b 5) _ (.inl rfl))).trans (qc.setCell _ (AD b 6) _ (.inl rfl))⟩
theorem ApE.append {log waits:List TxM} {l:Value} (h:ApE w0 b lv wv sv S log waits m l wr) (a:qr w0 m.wa m.wc m.t.ws/\∀k,m.blk k->¬qu b lv wv sv k) {d:Nat} (n:wr.grownBy wE lv.ownBlock)
 (o:wE.ownsRow 0 102 9 (.slice (PT g) (log.length+1) d) (log.length+1) (zw log++txC m)) (p:lv.ownBlock=some g\/wr.heap.size<=g):
 ∃f i,vu (wE.setCell (AD b 7) (.slice (PT g) (log.length+1) d)) b f wv i S (log++[m]) waits/\(∀k,qu b f wv i k->qu b lv wv sv k\/w0.heap.size<=k)/\qc (qu b lv wv sv) w0 (wE.setCell (AD b 7) (.slice (PT g) (log.length+1) d)):=by
 obtain⟨c,q,r⟩:=h.mem.append m ⟨a.1.kept (λk e=>h.touch.block k (a.1.blk_lt k e) (a.2 k e)),λk e u=>by
  rcases h.foot k u with c|c
  ·exact a.2 k e c
  have:=a.1.blk_lt k e
  omega⟩ n o p
 refine⟨_,_,c,λk v=>?_,h.touch.more r h.foot⟩;rcases q k v with j|j
 ·exact h.foot k j
 exact .inr (by have:=h.touch.size;omega)
end
theorem qj3 {b:Nat} {lv wv sv:Value} {S:qe} {log waits:List TxM} (m:TxM) (w:World) (h:vu w b lv wv sv S log waits) (P:qr w m.wa m.wc m.t.ws/\∀k,m.blk k->¬qu b lv wv sv k) (hs0:0<=m.t.site) (hs1:m.t.site<=3) (hl:S.l.length+m.t.ws.length<=1000) (hlog:log.length<=1000):
 Ca 129 #[PP b,.agg (List.toArray (T9 m.t.site m.t.seq m.t.wall m.t.count m.t.d0 m.t.d1 m.t.d2 m.t.d3 m.wa m.t.ws.length m.wc))] w λe w'=>
  e=.returned (.tuple #[])/\∃D q,vu w' b D wv q (vr S m.t) (log++[m]) waits/\(∀k,qu b D wv q k->qu b lv wv sv k\/w.heap.size<=k)/\qc (qu b lv wv sv) w w':=by
 have hb:=boxed (jcc _ w) (.cells (List.toArray (T9 m.t.site m.t.seq m.t.wall m.t.count m.t.d0 m.t.d1 m.t.d2 m.t.d3 m.wa m.t.ws.length m.wc)) 102);have RT:=qd.new (w:=w) (T:=102) (txC m) rfl;change qd (w.alloc (.cells (List.toArray (T9 m.t.site m.t.seq m.t.wall m.t.count m.t.d0 m.t.d1 m.t.d2 m.t.d3 m.wa m.t.ws.length m.wc)) 102)) w.heap.size (txC m)at RT
 have M0:qjv w b lv wv sv S log waits m 0 sv (w.alloc (.cells (List.toArray (T9 m.t.site m.t.seq m.t.wall m.t.count m.t.d0 m.t.d1 m.t.d2 m.t.d3 m.wa m.t.ws.length m.wc)) 102)):=
  ⟨by simpa[qbz]using h.later hb,RT,λe=>Nat.lt_irrefl _ (h.lt _ e),λj hj=>.inl hj,qc.ofBelow hb⟩
 have K:=hd1 P;have hc1:=P.1.len;have hc2:=P.1.cap;go_enter Tryz.func129,Tryz.ntmps129
 go_wp2_with fail
 obtain⟨W,hWW⟩:∃W,w.alloc (.cells (List.toArray (T9 m.t.site m.t.seq m.t.wall m.t.count m.t.d0 m.t.d1 m.t.d2 m.t.d3 m.wa m.t.ws.length m.wc)) 102)=W:=⟨_,rfl⟩;rw[hWW]at M0 ⊢
 go_loopw [9] (λiv wr=>∃(k:Nat) (z:Int) (q:Value),k<=m.t.ws.length/\z=k/\iv=U z/\Hid (qjv w b lv wv sv S log waits m k q wr)) (λi _=>m.t.ws.length-(intOf i).toNat)
 case atStart=>exact⟨0,0,sv,by omega,rfl,rfl,M0⟩
 obtain⟨k,z,q,hk,hz,rfl,L⟩:=hrel;have HZ:=hd1 hz;by_cases F:k<m.t.ws.length
 ·have o:z<(m.t.ws.length:Int):=by omega
  have h2:z.toNat=k:=by omega
  have h3:0<=z:=by omega
  obtain⟨r,E,Q,hcc⟩:∃r E,m.wa=some (AD r E)/\qbo w r E m.t.ws:=by
   rcases K.out.1.held with R|R
   ·rw[R]at F;simp at F
   exact R
  have hblk:m.blk r:=⟨λe=>by rw[e]at F;simp at F,E,Q⟩;have hwl:=K.out.1.blk_lt r hblk;have V:=L.out.touch.block r hwl (K.out.2 r hblk);obtain⟨⟨a,d,f⟩,hx⟩:∃x,qa7 m.t.ws k=x:=⟨_,rfl⟩;have M:=hcc k F;rw[hx]at M
  have x0:wr.cell? (AD r (E+k*3))=some (U a):=by rw[jch (w:=w) V];exact M.1
  have x1:wr.cell? (AD r (E+k*3+1))=some (.string d):=by rw[jch (w:=w) V];exact M.2.1
  have x2:wr.cell? (AD r (E+k*3+2))=some (.bool f):=by rw[jch (w:=w) V];exact M.2.2
  have HX:=hd1 hx;have HWA:=hd1 Q;rw[Q];have hbx:=boxed (jcc _ wr) (.cells #[U a,.string d,.bool f] 100);have N:=(L.out.later hbx).later (jcc _ (wr.alloc (.cells #[U a,.string d,.bool f] 100))).drew;have X:=(qd.new (w:=wr) (T:=100) [U a,.string d,.bool f] rfl).drew;change qd (wr.alloc (.cells #[U a,.string d,.bool f] 100)).drew wr.heap.size [U a,.string d,.bool f]at X;have SB:ApB w.heap.size wr.heap.size (txC m) [U a,.string d,.bool f] (wr.alloc (.cells #[U a,.string d,.bool f] 100)).drew:=⟨N.box,X⟩
  have hll:(qbz m.t (m.t.ws.take k) S.l).length<=1000:=by
   have:=qf1 m.t (m.t.ws.take k) S.l;rw[jc5]at this;omega
  have PU:Hid (Ca 181 #[.pointer (some (AD b 9)),U a,.agg #[U m.t.wall,U m.t.count,U m.t.site,U m.t.seq,.string d,.bool f]] (wr.alloc (.cells #[U a,.string d,.bool f] 100)).drew λe w'=>e=.returned (U (qb5 (qbz m.t (m.t.ws.take k) S.l) a ⟨m.t.wall,m.t.count,m.t.site,m.t.seq,d,f⟩))/\ApB w.heap.size wr.heap.size (txC m) [U a,.string d,.bool f] w'/\∃y,Hid (qjv w b lv wv sv S log waits m (k+1) y w')):=
   (q7r a ⟨m.t.wall,m.t.count,m.t.site,m.t.seq,d,f⟩ _ N.mem.st hll).mono λe w' ⟨he,hp⟩=>⟨he,N.outside hp X (λhf=>Nat.lt_irrefl _ (L.out.mem.lt _ hf)),N.put F (by rw[HX.out];exact hp)⟩
  have T0:=λ(w':World) (h:ApB w.heap.size wr.heap.size (txC m) [U a,.string d,.bool f] w')=>h.t.c 0;have T1:=λ(w':World) (h:ApB w.heap.size wr.heap.size (txC m) [U a,.string d,.bool f] w')=>h.t.c 1;have T2:=λ(w':World) (h:ApB w.heap.size wr.heap.size (txC m) [U a,.string d,.bool f] w')=>h.t.c 2;have T3:=λ(w':World) (h:ApB w.heap.size wr.heap.size (txC m) [U a,.string d,.bool f] w')=>h.t.c 3;have X0:=λ(w':World) (h:ApB w.heap.size wr.heap.size (txC m) [U a,.string d,.bool f] w')=>h.x.c 0;have X1:=λ(w':World) (h:ApB w.heap.size wr.heap.size (txC m) [U a,.string d,.bool f] w')=>h.x.c 1;have X2:=λ(w':World) (h:ApB w.heap.size wr.heap.size (txC m) [U a,.string d,.bool f] w')=>h.x.c 2
  go_wp2_with fail
  go_region_held3 (λw'=>ApB w.heap.size wr.heap.size (txC m) [U a,.string d,.bool f] w') (with_reducible assumption)
   (first|(go_at_call 181;with_reducible refine PU.out.mono ?_;rintro e B ⟨rfl,SB5,y,AM3⟩))
  all_goals
   go_wp2_with fail
   go_roundw
   case rel=>exact⟨k+1,z+1,y,by omega,by have:=HZ.out;omega,by go_num,AM3⟩
   simp[intOf];have:=HZ.out;omega
 have h4:¬z<(m.t.ws.length:Int):=by omega
 obtain rfl:k=m.t.ws.length:=by omega
 have O:Hid (ApE w b lv wv sv {S with l:=qbz m.t m.t.ws S.l} log waits m q wr):=by
  have H:=L.out;refine⟨?_,H.box,H.far,H.foot,H.touch⟩;have:=H.mem;rw[jc9]at this;exact this
 have BX:=O.out.box;have t0:=BX.c 0;have t1:=BX.c 1;have s1:=O.out.mem.box.free (1+m.t.site.toNat) (by simp[vz];omega);obtain⟨ov,s0⟩:∃v,wr.cell? (AD b (1+m.t.site.toNat))=some v:=⟨_,O.out.mem.box.cell (1+m.t.site.toNat) _ (jcg (by simp[vz];omega))⟩
 go_wp2_with fail
 go_region
 have G:Hid (ApE w b lv wv sv {S with l:=qbz m.t m.t.ws S.l,a0:=qch m.t.site m.t.seq S.a0,a1:=qcl m.t.site m.t.seq S.a1,a2:=qck m.t.site m.t.seq S.a2,a3:=qcj m.t.site m.t.seq S.a3} log waits m q (wr.setCell (AD b (1+m.t.site.toNat)) (U m.t.seq)).drew):=(O.out.seq m.t.seq hs0 hs1).later (jcc _ _).drew;obtain⟨W1,hW1⟩:∃W1,(wr.setCell (AD b (1+m.t.site.toNat)) (U m.t.seq)).drew=W1:=⟨_,rfl⟩;rw[hW1]at G ⊢;have t2:=qb.cell (G.out.box.c 2);have t3:=qb.cell (G.out.box.c 3);have l5:=qb.cell (G.out.mem.box.c 5);have l6:=qb.cell (G.out.mem.box.c 6)
 go_wp2_with fail
 refine wrl ?_
 repeat (go_big_quiet_step (first|rfl|(go_at_call 182;exact qg (qgf _ _ _ _ _))))
 refine wpQuiet_nil ?_;rintro B ⟨⟨_,hb7⟩,rfl⟩;have n:=hd1 (G.out.later hb7)
 have FIN9:∀(Y:qe) (p:World),Hid (ApE w b lv wv sv Y log waits m q p)->{Y with log:=S.log++[m.t]}=vr S m.t->∀(g C:Nat) (s:World),(p.drew.alloc (.cells (List.toArray (T9 m.t.site m.t.seq m.t.wall m.t.count m.t.d0 m.t.d1 m.t.d2 m.t.d3 m.wa m.t.ws.length m.wc)) 102)).grownBy s lv.ownBlock->
  s.ownsRow 0 102 9 (.slice (PT g) (log.length+1) C) (log.length+1) (zw log++txC m)->(lv.ownBlock=some g\/g=(p.drew.alloc (.cells (List.toArray (T9 m.t.site m.t.seq m.t.wall m.t.count m.t.d0 m.t.d1 m.t.d2 m.t.d3 m.wa m.t.ws.length m.wc)) 102)).heap.size)->
  Hid (∃D y,vu (s.setCell (AD b 7) (.slice (PT g) (log.length+1) C)) b D wv y (vr S m.t) (log++[m]) waits/\(∀k,qu b D wv y k->qu b lv wv sv k\/w.heap.size<=k)/\qc (qu b lv wv sv) w (s.setCell (AD b 7) (.slice (PT g) (log.length+1) C))):=λY p A e g C s gr ow eg=>by
  have A':=A.out.later (boxed ((jcc _ p).drew) (.cells (List.toArray (T9 m.t.site m.t.seq m.t.wall m.t.count m.t.d0 m.t.d1 m.t.d2 m.t.d3 m.wa m.t.ws.length m.wc)) 102));obtain⟨D,y,o,h2,h3⟩:=A'.append K.out gr ow (eg.imp id (λe=>Nat.le_of_eq e.symm));rw[<-e];exact⟨D,y,⟨o.box,o.rlog,o.rwait,o.own,o.ok,o.nl,o.nw,o.ns,o.lw,o.ls,o.ws,o.hold⟩,h2,h3⟩
 obtain⟨i0,hi,hz0,hz1,hz2⟩:=info_parts qpi;cases hd:decide (0<qdr m.t.wall m.t.count S.lw S.lc)
 ·have Z:=FIN9 _ B n (by simp only[vr];have:=of_decide_eq_false hd;simp[this]);obtain⟨t0,t1,t2,t3,t4,t5,t6,t7,t8⟩:=n.out.box.c9;have s7:=n.out.mem.box.c 7;have f7:=n.out.mem.box.free 7 (by simp[vz]);have aa:B.drew.ownsRow 0 102 9 lv log.length (zw log):=n.out.mem.rlog;have hsb:=n.out.mem.box.lt;have nb:some b≠lv.ownBlock:=λe=>n.out.mem.nl e.symm;have bx:qd B b (vz _ lv wv q):=n.out.mem.box
  go_wp2_with fail
  go_region_law (refine step_append_lies _ rfl (.tmp 56) (.tmp 58) 80 rfl 0 102 i0 (.agg ZA) 9 88 Tryz.underlying80 hi hz0 hz1 hz2 rfl (by decide) lv log.length (zw log) (by simp[Act.eval]) (aa.alloc _) (AD B.heap.size 0) 1 1 (txC m) (by simp[Act.eval]) rfl (World.news_of_block (heap_alloc_new B.drew (.cells (List.toArray (T9 m.t.site m.t.seq m.t.wall m.t.count m.t.d0 m.t.d1 m.t.d2 m.t.d3 m.wa m.t.ws.length m.wc)) 102))) (qih m) (by decide) (by simp only[maxLen];omega) (by omega) (by simp) _ rfl ?_
                 intro g C s ownE I egE ltE;have FIN:=Z g C s I ownE egE;have J:=((bx.drew).boxed (.cells (List.toArray (T9 m.t.site m.t.seq m.t.wall m.t.count m.t.d0 m.t.d1 m.t.d2 m.t.d3 m.wa m.t.ws.length m.wc)) 102)).grown I nb;have s0E:=J.c 7
                 have s1E:=J.free 7 (by simp[vz]))
  all_goals
   go_wp2_with fail
   go_end0;exact⟨rfl,FIN.out⟩
 have k2:=n.out.box.c 2;have k3:=n.out.box.c 3;have k5:=n.out.mem.box.c 5;have k6:=n.out.mem.box.c 6;have q5:=n.out.mem.box.free 5 (by simp[vz]);have q6:=n.out.mem.box.free 6 (by simp[vz])
 go_wp2_with fail
 have u:Hid (ApE w b lv wv sv {S with l:=qbz m.t m.t.ws S.l,a0:=qch m.t.site m.t.seq S.a0,a1:=qcl m.t.site m.t.seq S.a1,a2:=qck m.t.site m.t.seq S.a2,a3:=qcj m.t.site m.t.seq S.a3,lw:=m.t.wall,lc:=m.t.count} log waits m q ((B.setCell (AD b 5) (U m.t.wall)).setCell (AD b 6) (U m.t.count))):=n.out.last m.t.wall m.t.count;obtain⟨p,hw6⟩:∃p,(B.setCell (AD b 5) (U m.t.wall)).setCell (AD b 6) (U m.t.count)=p:=⟨_,rfl⟩;rw[hw6]at u ⊢;have Z:=FIN9 _ p u (by simp only[vr];have:=of_decide_eq_true hd;simp[this]);obtain⟨t0,t1,t2,t3,t4,t5,t6,t7,t8⟩:=u.out.box.c9;have s7:=u.out.mem.box.c 7;have f7:=u.out.mem.box.free 7 (by simp[vz]);have aa:p.drew.ownsRow 0 102 9 lv log.length (zw log):=u.out.mem.rlog;have hsb:=u.out.mem.box.lt;have nb:some b≠lv.ownBlock:=λe=>u.out.mem.nl e.symm;have bx:qd p b (vz _ lv wv q):=u.out.mem.box
 go_wp2_with fail
 go_region_law (refine step_append_lies _ rfl (.tmp 56) (.tmp 58) 80 rfl 0 102 i0 (.agg ZA) 9 88 Tryz.underlying80 hi hz0 hz1 hz2 rfl (by decide) lv log.length (zw log) (by simp[Act.eval]) (aa.alloc _) (AD p.heap.size 0) 1 1 (txC m) (by simp[Act.eval]) rfl (World.news_of_block (heap_alloc_new p.drew (.cells (List.toArray (T9 m.t.site m.t.seq m.t.wall m.t.count m.t.d0 m.t.d1 m.t.d2 m.t.d3 m.wa m.t.ws.length m.wc)) 102))) (qih m) (by decide) (by simp only[maxLen];omega) (by omega) (by simp) _ rfl ?_
                intro g C s ownE I egE ltE;have FIN:=Z g C s I ownE egE;have J:=((bx.drew).boxed (.cells (List.toArray (T9 m.t.site m.t.seq m.t.wall m.t.count m.t.d0 m.t.d1 m.t.d2 m.t.d3 m.wa m.t.ws.length m.wc)) 102)).grown I nb;have s0E:=J.c 7
                have s1E:=J.free 7 (by simp[vz]))
 all_goals
  go_wp2_with fail
  go_end0;exact⟨rfl,FIN.out⟩
theorem qpt {b:Nat} {lv wv sv:Value} {S:qe} {log waits:List TxM} (a d f l:Int) (w:World) (h:vu w b lv wv sv S log waits) (hs:∀m∈log,0<=m.t.site/\m.t.site<=3) (hl:log.length<=1000):
 Ca 85 #[PP b,.agg #[U a,U d,U f,U l]] w λe w'=>
  ∃v,e=.returned v/\w'.ownsRow (w.heap.size+1) 102 9 v (log.filter (qcs a d f l)).length (zw (log.filter (qcs a d f l)))/\Bw w w':=by
 obtain⟨la,lc,rfl,P⟩:=yx h.rlog;have hc1:=P.len;have hc2:=P.cap;have F:=qo.new w 77 a d f l;have D:=boxed (jcc _ w) (.cells #[U a,U d,U f,U l] 77);have s7:=cell_later D (h.box.c 7);have HH:=hd1 h;have HS:=hd1 hs;go_enter Tryz.func85,Tryz.ntmps85
 go_wp2_with fail
 obtain⟨W,hWW⟩:∃W,w.alloc (.cells #[U a,U d,U f,U l] 77)=W:=⟨_,rfl⟩;rw[hWW]at F D s7 ⊢
 go_loopw [5,13] (λsl iv wr=>∃(k:Nat) (z:Int) (E:List TxM) (I:Value),I=sl/\k<=log.length/\z=k/\iv=U z/\(log.take k).filter (qcs a d f l)=E/\wr.ownsRow (w.heap.size+1) 102 9 I E.length (zw E)/\qo wr w.heap.size a d f l/\Bw w wr) (λ_ i _=>log.length-(intOf i).toNat)
 case atStart=>exact⟨0,0,[],_,rfl,by omega,rfl,rfl,by simp,jcx _ _ _ _,F,D⟩
 obtain⟨k,z,E,I,hsl,hk,hz,rfl,L,G,F,D⟩:=hrel;subst hsl;have Y:=hd1 hz;by_cases Q:k<log.length
 ·have g1:z<(log.length:Int):=by omega
  have g2:z.toNat=k:=by omega
  have g3:0<=z:=by omega
  have hk6:E.length<=1000:=by
   rw[<-L];have a1:=jdo (qcs a d f l) (log.take k);have a2:=List.length_take_le k log;omega
  obtain⟨M,N,hwa,hcc⟩:∃M N,la=some (AD M N)/\∀i m r u,log[i]?=some m->(txC m)[r]?=some u->w.cell? (AD M (N+(i*9+r)))=some u:=by
   rcases P.held with e|e
   ·rw[e]at Q;simp at Q
   exact e
  obtain⟨⟨⟨n,o,wall,p,q,s,x,y,ws⟩,B,C⟩,R⟩:∃m,log[k]?=some m:=⟨log[k],jcg Q⟩;obtain⟨Z,aa⟩:=HS.out _ (jcq R);simp only at Z aa;have HX:=hd1 R;have HKP:=hd1 L;have H:=λr u (hu:(txC ⟨⟨n,o,wall,p,q,s,x,y,ws⟩,B,C⟩)[r]?=some u)=>(show wr.cell? (AD M (N+k*9+r))=some u by rw[Nat.add_assoc];exact cell_later D (hcc k _ r u R hu));have x0:=H 0 _ rfl;have x1:=H 1 _ rfl;have x2:=H 2 _ rfl;have x3:=H 3 _ rfl;have x4:=H 4 _ rfl;have x5:=H 5 _ rfl;have x6:=H 6 _ rfl;have x7:=H 7 _ rfl;have x8:=H 8 _ rfl;rw[Nat.add_zero]at x0;rw[hwa];replace F:=F.boxed (.cells (List.toArray (T9 n o wall p q s x y B ws.length C)) 102);replace G:=G.alloc (.cells (List.toArray (T9 n o wall p q s x y B ws.length C)) 102);replace D:=boxed D (.cells (List.toArray (T9 n o wall p q s x y B ws.length C)) 102);have J:=qd.new (w:=wr) (T:=102) (T9 n o wall p q s x y B ws.length C) rfl;have y0:=qb.cell (J.c 0);have y1:=qb.cell (J.c 1);have va:=qb.cell (qk9 F Z aa);have KE:Hid (qcs a d f l ⟨⟨n,o,wall,p,q,s,x,y,ws⟩,B,C⟩=decide (qp n a d f l<o)):=rfl
  go_wp2_with fail
  refine wrl ?_
  repeat (go_big_quiet_step (first|rfl|fail))
  refine wpQuiet_nil ?_;rintro V ⟨⟨_,O⟩,rfl⟩;replace F:=F.later O;replace J:=J.later O;replace G:=qf G (λj K=>O.block j (G.lt j K).2);replace D:=qa D O;cases hd:decide (qp n a d f l<o)
  ·have X:Hid ((log.take (k+1)).filter (qcs a d f l)=E):=by
        have e:qcs a d f l ⟨⟨n,o,wall,p,q,s,x,y,ws⟩,B,C⟩=false:=by rw[KE.out];exact hd
        show (log.take (k+1)).filter (qcs a d f l)=E;rw[jdu,HX.out,jdk,HKP.out];simp[e]
   go_wp2_with fail
   go_roundw
   case rel=>exact⟨k+1,z+1,E,_,rfl,by omega,by have:=Y.out;omega,by go_num,X.out,G,F,D⟩
   simp[intOf];omega
  have X:Hid ((log.take (k+1)).filter (qcs a d f l)=E++[⟨⟨n,o,wall,p,q,s,x,y,ws⟩,B,C⟩]):=by
   have e:qcs a d f l ⟨⟨n,o,wall,p,q,s,x,y,ws⟩,B,C⟩=true:=by rw[KE.out];exact hd
   show (log.take (k+1)).filter (qcs a d f l)=_;rw[jdu,HX.out,jdk,HKP.out];simp[e]
  obtain⟨y0,y1,y2,y3,y4,y5,y6,y7,y8⟩:=J.c9;obtain⟨i0,hi,hz0,hz1,hz2⟩:=info_parts qpi
  have hsz5:w.heap.size+1<=V.heap.size:=by have:=F.lt;omega
  go_wp2_with (at_builtin;refine wpList_append_lies _ rfl (.tmp 24) (.tmp 26) 80 rfl (w.heap.size+1) 102 i0 (.agg ZA) 9 88 Tryz.underlying80 hi hz0 hz1 hz2 rfl (by decide) I E.length (zw E) rfl (G.alloc _) (AD V.heap.size 0) 1 1 (txC ⟨⟨n,o,wall,p,q,s,x,y,ws⟩,B,C⟩) rfl rfl (World.news_of_block (heap_alloc_new V (.cells (List.toArray (T9 n o wall p q s x y B ws.length C)) 102))) (qih _) (by decide) (by simp only[maxLen];omega) (by omega) (by simp;omega) _ rfl ?_;intro g cap9 wE ownE grE egE ltE)
  have rowsg:=λj K=>(G.lt j K).1;have RAE:=(F.boxed (.cells (List.toArray (T9 n o wall p q s x y B ws.length C)) 102)).grown4 grE (λe=>by have:=rowsg _ e.symm;omega);have hbE:=(boxed D (.cells (List.toArray (T9 n o wall p q s x y B ws.length C)) 102)).grown grE (by have:=D.size;simp;omega) (λj K=>by have:=rowsg j K;omega)
  go_roundw
  case rel=>exact⟨k+1,z+1,E++[⟨⟨n,o,wall,p,q,s,x,y,ws⟩,B,C⟩],_,rfl,by omega,by have:=Y.out;omega,by go_num,X.out,by rw[qkf,jcl];exact ownE,RAE,hbE⟩
  simp[intOf];omega
 have g1:¬z<(log.length:Int):=by omega
 obtain rfl:k=log.length:=by omega
 rw[jc9]at L
 go_wp2_with fail
 go_ret;exact⟨I,rfl,by first|exact G|(rw[L];exact G),D⟩
theorem qkp (a0 a1 a2 a3 a b c d:Int) (w:World):
 Ca 77 #[.agg #[U a0,U a1,U a2,U a3],.agg #[U a,U b,U c,U d]] w (Rn (.bool (qa8 a0 a1 a2 a3 a b c d)) w):=by
 by_cases f:a0<a
 have e:qa8 a0 a1 a2 a3 a b c d=false:=by simp[qa8];omega
 rw[e];go_enter Tryz.func77,Tryz.ntmps77
 go_wp2
 refine wp_loop_rounds 5 ?_;rw[rounds_succ]
 go_wp2
 go_quiet (fail)
 rotate_left
 by_cases g:a1<b
 have e:qa8 a0 a1 a2 a3 a b c d=false:=by simp[qa8];omega
 rw[e];go_enter Tryz.func77,Tryz.ntmps77
 go_wp2
 refine wp_loop_rounds 5 ?_;rw[rounds_succ]
 go_wp2
 go_quiet (fail)
 go_wp2
 rw[rounds_succ]
 go_wp2
 go_quiet (fail)
 rotate_left
 by_cases h:a2<c
 have e:qa8 a0 a1 a2 a3 a b c d=false:=by simp[qa8];omega
 rw[e];go_enter Tryz.func77,Tryz.ntmps77
 go_wp2
 refine wp_loop_rounds 5 ?_;rw[rounds_succ]
 go_wp2
 go_quiet (fail)
 go_wp2
 rw[rounds_succ]
 go_wp2
 go_quiet (fail)
 go_wp2
 rw[rounds_succ]
 go_wp2
 go_quiet (fail)
 rotate_left
 by_cases i:a3<d
 have e:qa8 a0 a1 a2 a3 a b c d=false:=by simp[qa8];omega
 rw[e];go_enter Tryz.func77,Tryz.ntmps77
 go_wp2
 refine wp_loop_rounds 5 ?_;rw[rounds_succ]
 go_wp2
 go_quiet (fail)
 go_wp2
 rw[rounds_succ]
 go_wp2
 go_quiet (fail)
 go_wp2
 rw[rounds_succ]
 go_wp2
 go_quiet (fail)
 go_wp2
 rw[rounds_succ]
 go_wp2
 go_quiet (fail)
 rotate_left
 have e:qa8 a0 a1 a2 a3 a b c d=true:=by simp[qa8];omega
 rw[e];go_enter Tryz.func77,Tryz.ntmps77
 go_wp2
 refine wp_loop_rounds 5 ?_;rw[rounds_succ]
 go_wp2
 go_quiet (fail)
 go_wp2
 rw[rounds_succ]
 go_wp2
 go_quiet (fail)
 go_wp2
 rw[rounds_succ]
 go_wp2
 go_quiet (fail)
 go_wp2
 rw[rounds_succ]
 go_wp2
 go_quiet (fail)
 go_wp2
 rw[rounds_succ]
 all_goals
  go_wp2
  go_ret;exact⟨rfl,by repeat (first|exact jcc _ _|apply jy|apply boxed)⟩
variable {b:Nat}
theorem qhn {tmps:Array Value} {w:World} {v:Ver} {ev:Int} (h:qd w b (qh v)) (a:tmps[6]?=some (PP b)) (c:tmps[7]?=some (U ev)):
 (results Tryz.f79 tmps).run Tryz.prog w=.ok (.tuple #[.agg (qh v).toArray,U ev]) w:=by
 obtain⟨d,e,f,g,i,j⟩:=h.c6;simp[results,Tryz.results79,go_sem,a,c,d,e,f,g,i,j,qh]
theorem qnx {lv wv sv:Value} {S:qe} {log waits:List TxM} (key a0 a1 a2 a3:Int) (w:World) (h:vu w b lv wv sv S log waits) (F:S.l.length<=1000000):
 Ca 79 #[PP b,U key,.agg #[U a0,U a1,U a2,U a3]] w λe w'=>
  e=.returned (.tuple #[.agg (qh (qbq S key a0 a1 a2 a3).1).toArray,U (qbq S key a0 a1 a2 a3).2])/\Bw w w':=by
 have f:=(qo.new w 77 a0 a1 a2 a3).boxed (.cells YA 130);have c:qd ((w.alloc (.cells #[U a0,U a1,U a2,U a3] 77)).alloc (.cells YA 130)) (w.heap.size+1) (qh jq):=qd.new (w:=w.alloc (.cells #[U a0,U a1,U a2,U a3] 77)) (T:=130) (n:=w.heap.size+1) YL (by simp);have i:=boxed (boxed (jcc _ w) (.cells #[U a0,U a1,U a2,U a3] 77)) (.cells YA 130);have g:Hid (vu _ b lv wv sv S log waits):=h.later i;have HH:=hd1 h;clear h;have G:=qb.cell (g.out.box.cell 1 _ rfl);have H:=qb.cell (g.out.box.cell 2 _ rfl);have I:=qb.cell (g.out.box.cell 3 _ rfl);have J:=qb.cell (g.out.box.cell 4 _ rfl);have K:=qb.cell f.c0;have L:=qb.cell f.c1;have M:=qb.cell f.c2;have N:=qb.cell f.c3;go_enter Tryz.func79,Tryz.ntmps79
 go_wp2_with fail
 refine wrl ?_
 repeat (go_big_quiet_step (first|rfl|(go_at_call 77;exact qg (qkp _ _ _ _ _ _ _ _ _))))
 refine wpQuiet_nil ?_;rintro s ⟨⟨_,j⟩,rfl⟩;replace c:=c.later j;replace f:=qo.later j f;replace i:=qa i j;have u:=hd1 (g.out.later j);clear g G H I J K L M N j;cases hc:qa8 S.a0 S.a1 S.a2 S.a3 a0 a1 a2 a3
 ·have y:Hid (qbq S key a0 a1 a2 a3=(jq,10)):=by show qbq S key a0 a1 a2 a3=(jq,10);unfold qbq;rw[hc];rfl
  have O:=c.cell 0 _ rfl;have p0:=c.free 0 (by simp[qh]);have P:=c.cell 1 _ rfl;have p1:=c.free 1 (by simp[qh]);have Q:=c.cell 2 _ rfl;have p2:=c.free 2 (by simp[qh]);have R:=c.cell 3 _ rfl;have p3:=c.free 3 (by simp[qh]);have V:=c.cell 4 _ rfl;have W:=c.free 4 (by simp[qh]);have X:=c.cell 5 _ rfl;have Y:=c.free 5 (by simp[qh]);have z:=qn6 c 0 0 0 0 ⟨#[]⟩ false;have B:=qn3 i (show w.heap.size<=w.heap.size+1 by omega) 0 0 0 0 ⟨#[]⟩ false;clear hc
  go_wp2_with fail
  refine bodyPost_ret (qhn (v:=jq) z rfl rfl) rfl ⟨?_,B⟩;rw[y.out]
 obtain⟨⟨⟨k,m,o,p,q,r⟩,ev⟩,t⟩:∃x,zz key a0 a1 a2 a3 S.l=x:=⟨_,rfl⟩
 have y:Hid (qbq S key a0 a1 a2 a3=(⟨k,m,o,p,q,r⟩,ev)):=by show qbq S key a0 a1 a2 a3=_;unfold qbq;rw[hc,<-t];rfl
 obtain⟨a,cap,D,E⟩:=qhq u.out.own
 have Z:Hid (Ca 91 #[.pointer (some (AD b 9)),U key,.agg #[U a0,U a1,U a2,U a3]] s.drew λe w'=>e=.returned (.tuple #[.agg #[U k,U m,U o,U p,.string q,.bool r],U ev])/\qo w' w.heap.size a0 a1 a2 a3/\qd w' (w.heap.size+1) (qh jq)/\Bw w w'):=by
  have s9:s.cell? (AD b 9)=some (.slice a S.l.length cap):=by rw[<-D];exact u.out.box.cell 9 _ rfl
  refine(qrb key a0 a1 a2 a3 s.drew s9 (E.later (jcc _ s).drew) u.out.ok F).mono ?_;rintro e w' ⟨rfl,C⟩;refine⟨by rw[t];rfl,qo.later C f.drew,c.drew.later C,qa i.drew C⟩
 have HRV:=hd1 t;have T0:=λ(w':World) (h:qo w' w.heap.size a0 a1 a2 a3)=>h.c0;have T1:=λ(w':World) (h:qo w' w.heap.size a0 a1 a2 a3)=>h.c1;have T2:=λ(w':World) (h:qo w' w.heap.size a0 a1 a2 a3)=>h.c2;have T3:=λ(w':World) (h:qo w' w.heap.size a0 a1 a2 a3)=>h.c3;have RA0:=f.drew
 have hne:w.heap.size+1≠w.heap.size:=by omega
 clear hc t E D f c
 go_wp2_with fail
 go_region_held3 (λw'=>qo w' w.heap.size a0 a1 a2 a3) (first|(with_reducible assumption)|(with_reducible exact qt0 (by with_reducible assumption) hne _ _ _ _ _ _))
  (first|(go_at_call 91;with_reducible refine Z.out.mono ?_;rintro e w5 ⟨rfl,RA5,d,hb5⟩;have O:=d.cell 0 _ rfl;have p0:=d.free 0 (by simp[qh]);have P:=d.cell 1 _ rfl;have p1:=d.free 1 (by simp[qh]);have Q:=d.cell 2 _ rfl;have p2:=d.free 2 (by simp[qh]);have R:=d.cell 3 _ rfl;have p3:=d.free 3 (by simp[qh]);have V:=d.cell 4 _ rfl;have W:=d.free 4 (by simp[qh]);have X:=d.cell 5 _ rfl;have Y:=d.free 5 (by simp[qh])))
 all_goals
  have z:=qn6 d k m o p q r;have B:=qn3 hb5 (show w.heap.size<=w.heap.size+1 by omega) k m o p q r
  go_wp2_with fail
  refine bodyPost_ret (qhn (v:=⟨k,m,o,p,q,r⟩) z rfl rfl) rfl ⟨?_,B⟩;rw[y.out]
end Go.Proofs.YtoanjdndmlffdaaGreatDoor
