import Derived.Test.YtoanjdndmlffdaaGreatDoorSiteG
set_option maxHeartbeats 8000000
set_option maxRecDepth 100000
namespace Go.Proofs.YtoanjdndmlffdaaGreatDoor
open Go.RowKit
theorem qnw (b p cap:Nat) (l:List Wr) (w:World) (I:qbo w b p l) (N:l.length<=cap) (O:cap<=9223372036854775807):
 Ca 177 #[.slice (some (AD b p)) l.length cap] w (Rn (.bool (qad l)) w):=by
 have P:=qb.one;go_enter Tryz.func177,Tryz.ntmps177
 go_wp2
 go_loopw [7] (λi wr=>∃(k:Nat) (z:Int),k<=l.length/\z=k/\i=U z/\(∀j,j<k->qdd l j=true)/\Bw w wr/\qbo wr b p l) (λi _=>l.length-(intOf i).toNat)
 case atStart=>exact⟨0,0,by omega,rfl,rfl,λj J=>by omega,jcc _ _,I⟩
 obtain⟨k,z,Q,s,rfl,t,u,C⟩:=hrel;have v:=hd1 t;clear t;by_cases g:k<l.length
 ·obtain⟨x0,x1,x2⟩:=C k g
  have R:z<(l.length:Int):=by omega
  have S:z.toNat=k:=by omega
  have T:0<=z:=by omega
  have q:=hd1 s;clear s;obtain⟨⟨key,data,gone⟩,r⟩:∃x,qa7 l k=x:=⟨_,rfl⟩;rw[r]at x0 x1 x2;have K:=hd1 r;clear r;simp only at x0 x1 x2;have h:=boxed u (.cells #[U key,.string data,.bool gone] 100);have y:=C.later (boxed (jcc _ wr) (.cells #[U key,.string data,.bool gone] 100))
  have B:(wr.alloc (.cells #[U key,.string data,.bool gone] 100)).cell? (AD wr.heap.size 0)=some (U key):=by go_simp
  have D:(wr.alloc (.cells #[U key,.string data,.bool gone] 100)).cell? (AD wr.heap.size 1)=some (.string data):=by go_simp
  have E:(wr.alloc (.cells #[U key,.string data,.bool gone] 100)).cell? (AD wr.heap.size 2)=some (.bool gone):=by go_simp
  have a:=ql6 K.out;replace B:=qb.cell B;replace D:=qb.cell D;replace E:=qb.cell E;cases p1:inB key 0 7
  ·skip
   have d:Hid (qdd l k=false):=by rw[a];exact qso p1
   clear a
   go_wp2_with fail
   clear x0 x1 x2;refine wrl ?_
   repeat (go_big_quiet_step ((go_at_call 28;with_reducible exact qg (vj p1 _))))
   refine wpQuiet_nil ?_;rintro m ⟨⟨_,c⟩,rfl⟩
   go_wp2
   go_ret;exact⟨by rw[qef g d.out];rfl,qa h c⟩
  by_cases F:k=0;have L:decide (0<z)=false:=decide_eq_false (by have:=q.out;omega);have G:=hd1 F;clear F;by_cases f:12<(data.size:Int)
  ·skip
   have d:Hid (qdd l k=false):=by rw[a];exact qtz f
   clear a
   go_wp2_with fail
   clear x0 x1 x2;refine wrl ?_
   repeat (go_big_quiet_step ((go_at_call 28;with_reducible exact qg (vj p1 _))))
   refine wpQuiet_nil ?_;rintro m ⟨⟨_,c⟩,rfl⟩
   go_wp2
   go_ret;exact⟨by rw[qef g d.out];rfl,qa h c⟩
  have M:=decide_eq_false f;cases gone;skip
  have n:Hid (qdd l k=true):=by rw[a];exact qhr p1 (.inl G.out) f (.inl rfl)
  rotate_left
  cases he:data.toList.isEmpty
  ·skip
   have d:Hid (qdd l k=false):=by rw[a];exact qpo rfl he
   clear a
   go_wp2_with fail
   clear x0 x1 x2;refine wrl ?_
   repeat (go_big_quiet_step ((go_at_call 28;with_reducible exact qg (vj p1 _))))
   refine wpQuiet_nil ?_;rintro m ⟨⟨_,c⟩,rfl⟩
   go_wp2
   go_ret;exact⟨by rw[qef g d.out];rfl,qa h c⟩
  skip
  have n:Hid (qdd l k=true):=by rw[a];exact qhr p1 (.inl G.out) f (.inr he)
  rotate_left
  have L:0<z:=by have:=q.out;omega
  obtain⟨H,_,_⟩:=y (k-1) (by omega)
  have V:(z-1).toNat=k-1:=by omega
  have W:0<=z-1:=by omega
  have X:z-1<(l.length:Int):=by omega
  replace H:=qb.cell H;by_cases o:key<=(qa7 l (k-1)).key
  ·skip
   have d:Hid (qdd l k=false):=by rw[a];exact qvf (by omega) o
   clear a
   go_wp2_with fail
   clear x0 x1 x2;refine wrl ?_
   repeat (go_big_quiet_step ((go_at_call 28;with_reducible exact qg (vj p1 _))))
   refine wpQuiet_nil ?_;rintro m ⟨⟨_,c⟩,rfl⟩
   go_wp2
   go_ret;exact⟨by rw[qef g d.out];rfl,qa h c⟩
  have Y:=decide_eq_false o;by_cases f:12<(data.size:Int)
  ·skip
   have d:Hid (qdd l k=false):=by rw[a];exact qtz f
   clear a
   go_wp2_with fail
   clear x0 x1 x2;refine wrl ?_
   repeat (go_big_quiet_step ((go_at_call 28;with_reducible exact qg (vj p1 _))))
   refine wpQuiet_nil ?_;rintro m ⟨⟨_,c⟩,rfl⟩
   go_wp2
   go_ret;exact⟨by rw[qef g d.out];rfl,qa h c⟩
  have M:=decide_eq_false f;cases gone;skip
  have n:Hid (qdd l k=true):=by rw[a];exact qhr p1 (.inr o) f (.inl rfl)
  rotate_left
  cases he:data.toList.isEmpty
  ·skip
   have d:Hid (qdd l k=false):=by rw[a];exact qpo rfl he
   clear a
   go_wp2_with fail
   clear x0 x1 x2;refine wrl ?_
   repeat (go_big_quiet_step ((go_at_call 28;with_reducible exact qg (vj p1 _))))
   refine wpQuiet_nil ?_;rintro m ⟨⟨_,c⟩,rfl⟩
   go_wp2
   go_ret;exact⟨by rw[qef g d.out];rfl,qa h c⟩
  skip
  have n:Hid (qdd l k=true):=by rw[a];exact qhr p1 (.inr o) f (.inr he)
  all_goals
   clear a
   go_wp2_with fail
   clear x0 x1 x2;refine wrl ?_
   repeat (go_big_quiet_step ((go_at_call 28;with_reducible exact qg (vj p1 _))))
   refine wpQuiet_nil ?_;rintro m ⟨⟨_,c⟩,rfl⟩
   go_wp2
   go_roundw
   case rel=>exact⟨k+1,z+1,by omega,by have:=q.out;omega,by go_num,qmg v.out n.out,qa h c,y.later c⟩
   simp[intOf];omega
 go_wp2_with (go_at_call 28;refine(qgy _ _ _ _).mono ?_;rintro e Z ⟨rfl,rfl⟩)
 go_ret;exact⟨by rw[qvh (λj J=>v.out j (by omega))];rfl,u⟩
theorem qpa (a:Option Addr) (cap:Nat) (w:World):
 Ca 177 #[.slice a 0 cap] w (Rn (.bool false) w):=by
 go_enter Tryz.func177,Tryz.ntmps177
 go_wp2
 refine wp_loop_rounds 1 ?_;rw[rounds_succ]
 go_wp2_with (go_at_call 28;refine(qgy _ _ _ _).mono ?_;rintro e b ⟨rfl,rfl⟩)
 go_ret;exact⟨rfl,jcc _ _⟩
theorem qg7 {a:Option Addr} {cap:Nat} {l:List Wr} {w:World} (h:qr w a cap l):
 Ca 177 #[.slice a l.length cap] w (Rn (.bool (qad l)) w):=by
 rcases h.held with rfl|⟨b,c,rfl,d⟩
 ·exact qpa a cap w
 exact qnw b c cap l w d h.len h.cap
section
theorem qm9 (lw lc now:Int) (w:World):
 Ca 179 #[.agg #[U lw,U lc],U now] w (Rn (.tuple #[.agg #[U (qcp lw lc now).1,U (qcp lw lc now).2.1],U (qcp lw lc now).2.2]) w):=by
 unfold qcp;cases h:(qi lw&&qi lc)
 ·rw[if_pos rfl];exact qqb lw lc now w h
 rw[if_neg (by decide)]
 have d:0<=lc/\lc<=1099511627776:=by
  have f:=h;simp[qi]at f;omega
 cases h2:qi now
 ·rw[if_pos rfl];exact qof lw lc now w h h2
 rw[if_neg (by decide)];by_cases c:lw<now
 ·rw[if_pos c];exact qsu lw lc now w h h2 c
 rw[if_neg c];by_cases e:1099511627776<lc+1
 ·rw[if_pos e];exact qse lw lc now w h h2 c d.1 d.2 e
 rw[if_neg e];exact qqp lw lc now w h h2 c d.1 d.2 e
theorem yo {a0 a1 a2 a3 c d e f:Int} {v:Bool} (h:qa8 a0 a1 a2 a3 c d e f=v) (w:World):
 Ca 77 #[.agg #[U a0,U a1,U a2,U a3],.agg #[U c,U d,U e,U f]] w (Rn (.bool v) w):=by
 subst h;exact qkp a0 a1 a2 a3 c d e f w
variable {b:Nat} {a:Option Addr}
theorem qbx {tmps:Array Value} {w:World} {x0 x1 x2 x3 d e f g ev:Int} {n c:Nat} (h:qd w b (T9 x0 x1 x2 x3 d e f g a n c)) (i:tmps[8]?=some (PP b)) (j:tmps[9]?=some (U ev)):
 (results Tryz.f127 tmps).run Tryz.prog w=.ok (.tuple #[.agg (List.toArray (T9 x0 x1 x2 x3 d e f g a n c)),U ev]) w:=by
 obtain⟨k,l,m,o,p,q,r,s,t⟩:=h.c9;simp[results,Tryz.results127,go_sem,i,j,k,l,m,o,p,q,r,s,t]
def qre (w:World) (b:Nat) (lv wv sv:Value) (S:qe) (log waits:List TxM) (now d0 d1 d2 d3:Int) (ws:List Wr) (e:Ending) (w':World):Prop:=
 (ji S log.length now d0 d1 d2 d3 ws≠0/\e=.returned (.tuple #[.agg ZA,U (ji S log.length now d0 d1 d2 d3 ws)])/\Bw w w')\/
 (ji S log.length now d0 d1 d2 d3 ws=0/\∃(wa:Option Addr) (wc:Nat) (lv' sv':Value),e=.returned (.tuple #[.agg (txC ⟨zv S now d0 d1 d2 d3 ws,wa,wc⟩).toArray,U 0])/\
    vu w' b lv' wv sv' (vr S (zv S now d0 d1 d2 d3 ws)) (log++[⟨zv S now d0 d1 d2 d3 ws,wa,wc⟩]) waits/\(∀k,qu b lv' wv sv' k->qu b lv wv sv k\/w.heap.size<=k)/\qc (qu b lv wv sv) w w')
theorem qs2 {lv wv sv:Value} {S:qe} {log waits:List TxM} (now f g i j:Int) {cap:Nat} {ws:List Wr} (w:World) (h:vu w b lv wv sv S log waits) (hW:qr w a cap ws) (hne0:ji S log.length now f g i j ws≠0):
 Ca 127 #[PP b,U now,.agg #[U f,U g,U i,U j],.slice a ws.length cap] w (qre w b lv wv sv S log waits now f g i j ws):=by
 obtain⟨la,lc,rfl,hT⟩:=yx h.rlog;have hc1:=hT.len;have hc2:=hT.cap;have l:=(qo.new w 77 f g i j).boxed (.cells ZA 102);have d:qd ((w.alloc (.cells #[U f,U g,U i,U j] 77)).alloc (.cells ZA 102)) (w.heap.size+1) txZ:=qd.new (w:=w.alloc (.cells #[U f,U g,U i,U j] 77)) (T:=102) (n:=w.heap.size+1) ZL (by simp);have k:=boxed (boxed (jcc _ w) (.cells #[U f,U g,U i,U j] 77)) (.cells ZA 102);have WI:=hW.later k;have HH:=hd1 h;have HW:=hd1 hW
 have s:w.heap.size<=w.heap.size+1:=by omega
 have HNE:=hd1 hne0;go_enter Tryz.func127,Tryz.ntmps127
 go_wp2_with fail
 refine(qg7 WI).mono ?_;rintro e w1 ⟨rfl,X⟩;replace l:=l.later X;replace d:=d.later X;replace k:=qa k X;have t:∀(Y:World) (ev:Int),ji S log.length now f g i j ws=ev->ev≠0->Bw w Y->Hid (qre w b (.slice la log.length lc) wv sv S log waits now f g i j ws (.returned (.tuple #[.agg ZA,U ev])) Y):=λY ev Z h2 h3=>.inl ⟨by rw[Z];exact h2,by rw[Z],h3⟩;cases hok:qad ws
 ·have E:Hid (ji S log.length now f g i j ws=1):=by show ji S log.length now f g i j ws=1;unfold ji;rw[if_pos hok]
  have z:=d.c 0;have p0:=d.free 0 (by simp[txZ]);have B:=d.c 1;have p1:=d.free 1 (by simp[txZ]);have C:=d.c 2;have p2:=d.free 2 (by simp[txZ]);have D:=d.c 3;have p3:=d.free 3 (by simp[txZ]);have F:=d.c 4;have G:=d.free 4 (by simp[txZ]);have H:=d.c 5;have I:=d.free 5 (by simp[txZ]);have J:=d.c 6;have K:=d.free 6 (by simp[txZ]);have L:=d.c 7;have M:=d.free 7 (by simp[txZ]);have N:=d.c 8;have O:=d.free 8 (by simp[txZ]);have o:=yz d rfl 0 0 0 0 0 0 0 0 (.slice none 0 0);have p:=qd9 k s 0 0 0 0 0 0 0 0 (.slice none 0 0);have q:=t _ 1 E.out (by decide) p
  go_wp2_with fail
  exact bodyPost_ret (qbx o rfl rfl) rfl q.out
 have P:=hd1 hok;have u:=hd1 (HH.out.later k);have c0:=qb.cell l.c0;have c1:=qb.cell l.c1;have c2:=qb.cell l.c2;have c3:=qb.cell l.c3;have k1:=qb.cell (u.out.box.c 1);have k2:=qb.cell (u.out.box.c 2);have k3:=qb.cell (u.out.box.c 3);have k4:=qb.cell (u.out.box.c 4);cases hv:jb f g i j
 ·have r:=hd1 hv
  have E:Hid (ji S log.length now f g i j ws=10):=by show ji S log.length now f g i j ws=10;unfold ji;rw[if_neg (by rw[P.out];decide),if_pos hv]
  go_wp2_with fail
  refine wrl ?_
  repeat (go_big_quiet_step (first|rfl|(go_at_call 178;with_reducible exact qg (qcn r.out _))))
  refine wpQuiet_nil ?_;rintro w2 ⟨⟨_,m⟩,rfl⟩;replace d:=d.later m;replace k:=qa k m;have z:=d.c 0;have p0:=d.free 0 (by simp[txZ]);have B:=d.c 1;have p1:=d.free 1 (by simp[txZ]);have C:=d.c 2;have p2:=d.free 2 (by simp[txZ]);have D:=d.c 3;have p3:=d.free 3 (by simp[txZ]);have F:=d.c 4;have G:=d.free 4 (by simp[txZ]);have H:=d.c 5;have I:=d.free 5 (by simp[txZ]);have J:=d.c 6;have K:=d.free 6 (by simp[txZ]);have L:=d.c 7;have M:=d.free 7 (by simp[txZ]);have N:=d.c 8;have O:=d.free 8 (by simp[txZ]);have o:=yz d rfl 0 0 0 0 0 0 0 0 (.slice none 0 0);have p:=qd9 k s 0 0 0 0 0 0 0 0 (.slice none 0 0);have q:=t _ 10 E.out (by decide) p
  go_wp2_with fail
  exact bodyPost_ret (qbx o rfl rfl) rfl q.out
 have r:=hd1 hv;cases hc:qa8 S.a0 S.a1 S.a2 S.a3 f g i j
 ·have v:=hd1 hc
  have E:Hid (ji S log.length now f g i j ws=10):=by show ji S log.length now f g i j ws=10;unfold ji;rw[if_neg (by rw[P.out];decide),if_neg (by rw[r.out];decide),if_pos hc]
  go_wp2_with fail
  refine wrl ?_
  repeat (go_big_quiet_step (first|rfl|(go_at_call 178;with_reducible exact qg (qcn r.out _))|(go_at_call 77;with_reducible exact qg (yo v.out _))))
  refine wpQuiet_nil ?_;rintro w2 ⟨⟨_,m⟩,rfl⟩;replace d:=d.later m;replace k:=qa k m;have z:=d.c 0;have p0:=d.free 0 (by simp[txZ]);have B:=d.c 1;have p1:=d.free 1 (by simp[txZ]);have C:=d.c 2;have p2:=d.free 2 (by simp[txZ]);have D:=d.c 3;have p3:=d.free 3 (by simp[txZ]);have F:=d.c 4;have G:=d.free 4 (by simp[txZ]);have H:=d.c 5;have I:=d.free 5 (by simp[txZ]);have J:=d.c 6;have K:=d.free 6 (by simp[txZ]);have L:=d.c 7;have M:=d.free 7 (by simp[txZ]);have N:=d.c 8;have O:=d.free 8 (by simp[txZ]);have o:=yz d rfl 0 0 0 0 0 0 0 0 (.slice none 0 0);have p:=qd9 k s 0 0 0 0 0 0 0 0 (.slice none 0 0);have q:=t _ 10 E.out (by decide) p
  go_wp2_with fail
  exact bodyPost_ret (qbx o rfl rfl) rfl q.out
 have v:=hd1 hc
 go_wp2_with fail
 refine wrl ?_
 repeat (go_big_quiet_step (first|rfl|(go_at_call 178;with_reducible exact qg (qcn r.out _))|(go_at_call 77;with_reducible exact qg (yo v.out _))))
 refine wpQuiet_nil ?_;rintro w2 ⟨⟨_,m⟩,rfl⟩;replace d:=d.later m;replace l:=l.later m;replace k:=qa k m;have Q:=hd1 (u.out.later m);have s7:=Q.out.box.c 7;by_cases hn:200<=log.length
 ·have E:Hid (ji S log.length now f g i j ws=12):=by show ji S log.length now f g i j ws=12;unfold ji;rw[if_neg (by rw[P.out];decide),if_neg (by rw[r.out];decide),if_neg (by rw[v.out];decide),if_pos hn]
  have h200:(200:Int)<=(log.length:Int):=by omega
  have z:=d.c 0;have p0:=d.free 0 (by simp[txZ]);have B:=d.c 1;have p1:=d.free 1 (by simp[txZ]);have C:=d.c 2;have p2:=d.free 2 (by simp[txZ]);have D:=d.c 3;have p3:=d.free 3 (by simp[txZ]);have F:=d.c 4;have G:=d.free 4 (by simp[txZ]);have H:=d.c 5;have I:=d.free 5 (by simp[txZ]);have J:=d.c 6;have K:=d.free 6 (by simp[txZ]);have L:=d.c 7;have M:=d.free 7 (by simp[txZ]);have N:=d.c 8;have O:=d.free 8 (by simp[txZ]);have o:=yz d rfl 0 0 0 0 0 0 0 0 (.slice none 0 0);have p:=qd9 k s 0 0 0 0 0 0 0 0 (.slice none 0 0);have q:=t _ 12 E.out (by decide) p
  go_wp2_with fail
  exact bodyPost_ret (qbx o rfl rfl) rfl q.out
 have HN:Hid (ji S log.length now f g i j ws=(qcp S.lw S.lc now).2.2):=by show ji S log.length now f g i j ws=_;unfold ji;rw[if_neg (by rw[P.out];decide),if_neg (by rw[r.out];decide),if_neg (by rw[v.out];decide),if_neg hn]
 have h200:¬(200:Int)<=(log.length:Int):=by omega
 have k5:=Q.out.box.c 5;have k6:=Q.out.box.c 6
 go_wp2_with fail
 refine(qm9 S.lw S.lc now _).mono ?_;rintro e w3 ⟨rfl,R⟩;replace d:=d.later R;replace l:=l.later R;replace k:=qa k R;have M3:=hd1 (Q.out.later R);obtain⟨⟨V,W,y⟩,hnx⟩:∃x,qcp S.lw S.lc now=x:=⟨_,rfl⟩;have HNX:=hd1 hnx;rw[hnx];rw[hnx]at HN;replace d:=d.boxed (.cells #[U V,U W] 79);replace l:=l.boxed (.cells #[U V,U W] 79);replace k:=boxed k (.cells #[U V,U W] 79);have RS:=qd.new (w:=w3) (T:=79) [U V,U W] rfl;by_cases hne:y≠0
 ·have Z:(y==0)=false:=by simp[hne]
  have h2:(y !=0)=true:=by simp[hne]
  have z:=d.c 0;have p0:=d.free 0 (by simp[txZ]);have B:=d.c 1;have p1:=d.free 1 (by simp[txZ]);have C:=d.c 2;have p2:=d.free 2 (by simp[txZ]);have D:=d.c 3;have p3:=d.free 3 (by simp[txZ]);have F:=d.c 4;have G:=d.free 4 (by simp[txZ]);have H:=d.c 5;have I:=d.free 5 (by simp[txZ]);have J:=d.c 6;have K:=d.free 6 (by simp[txZ]);have L:=d.c 7;have M:=d.free 7 (by simp[txZ]);have N:=d.c 8;have O:=d.free 8 (by simp[txZ]);have o:=yz d rfl 0 0 0 0 0 0 0 0 (.slice none 0 0);have p:=qd9 k s 0 0 0 0 0 0 0 0 (.slice none 0 0);have q:=t _ y HN.out (by exact hne) p
  go_wp2_with fail
  exact bodyPost_ret (qbx o rfl rfl) rfl q.out
 have he0:y=0:=by omega
 subst he0;exact absurd HN.out HNE.out
end
section
variable {w:World} {b:Nat} {lv wv sv:Value} {S:qe}
theorem vu.keptB {w':World} {log waits:List TxM} (h:vu w b lv wv sv S log waits) (a:∀k,(qu b lv wv sv k\/∃m∈log++waits,m.blk k)->w'.heap[k]?=w.heap[k]?) (d:w.heap.size<=w'.heap.size):vu w' b lv wv sv S log waits:=
 ⟨h.box.kept (a b (.inl (.inl rfl))) d,qf h.rlog (λk e=>a k (.inl (.inr (.inl e)))),qf h.rwait (λk e=>a k (.inl (.inr (.inr (.inl e))))),qf h.own (λk e=>a k (.inl (.inr (.inr (.inr e))))),h.ok,h.nl,h.nw,h.ns,h.lw,h.ls,h.ws,
   λm c=>⟨(h.hold m c).1.kept (λk e=>a k (.inr ⟨m,c,e⟩)),(h.hold m c).2⟩⟩
def qrd (w:World) (b:Nat) (lv wv sv:Value) (S:qe) (log waits:List TxM) (now d0 d1 d2 d3:Int) (ws:List Wr) (e:Ending) (w':World):Prop:=
 ∃(wa:Option Addr) (wc:Nat) (lv' sv':Value),e=.returned (.tuple #[.agg (txC ⟨zv S now d0 d1 d2 d3 ws,wa,wc⟩).toArray,U 0])/\
  vu w' b lv' wv sv' (vr S (zv S now d0 d1 d2 d3 ws)) (log++[⟨zv S now d0 d1 d2 d3 ws,wa,wc⟩]) waits/\(∀k,qu b lv' wv sv' k->qu b lv wv sv k\/w.heap.size<=k)/\qc (qu b lv wv sv) w w'/\∀k,(⟨zv S now d0 d1 d2 d3 ws,wa,wc⟩:TxM).blk k->w.heap.size<=k
variable {ws:List Wr}
theorem qqs {r l:World} {g n:Nat} {s t:Value} {log waits:List TxM} {now x y z A x0 x1 x2 x3 a c d f:Int} (h:vu w b lv wv sv S log waits) (E:Bw w r) (J:w.heap.size+1<r.heap.size)
 (F:vu l b s wv t (vr S ⟨x0,x1,x2,x3,a,c,d,f,ws⟩) (log++[⟨⟨x0,x1,x2,x3,a,c,d,f,ws⟩,some (AD g 0),n⟩]) waits) (B:∀k,qu b s wv t k->qu b lv wv sv k\/r.heap.size<=k) (G:qc (qu b lv wv sv) r l) (K:w.heap.size+1<g)
 (C:zv S now x y z A ws=⟨x0,x1,x2,x3,a,c,d,f,ws⟩):
 Hid (qrd w b lv wv sv S log waits now x y z A ws (.returned (.tuple #[.agg (List.toArray (T9 x0 x1 x2 x3 a c d f (PT g) ws.length n)),U 0])) (js l (w.heap.size+1) x0 x1 x2 x3 a c d f (.slice (PT g) ws.length n))):=by
 have H:∀k,k≠w.heap.size+1->(js l (w.heap.size+1) x0 x1 x2 x3 a c d f (.slice (PT g) ws.length n)).heap[k]?=l.heap[k]?:=λk i=>qiu i x0 x1 x2 x3 a c d f _
 have L:(js l (w.heap.size+1) x0 x1 x2 x3 a c d f (.slice (PT g) ws.length n)).heap.size=l.heap.size:=by simp only[js,World.setCell,Array.size_modify]
 have I:=q2r ((qc.ofBelow E).more G (λk i=>.inl i)) (Nat.le_succ w.heap.size) x0 x1 x2 x3 a c d f (.slice (PT g) ws.length n)
 generalize js l (w.heap.size+1) x0 x1 x2 x3 a c d f (.slice (PT g) ws.length n)=W at*
 refine⟨some (AD g 0),n,s,t,by rw[C];rfl,?_,λk i=>(B k i).imp id (λe=>by omega),I,λk i=>by
  obtain⟨_,o,j⟩:=i;injection j with j;injection j with j e2
  omega⟩
 rw[C];refine F.keptB (λk i=>H k (λe=>?_)) (by omega);rcases i with p|⟨m,u,p⟩
 ·rcases B k p with q|q
  ·have:=h.lt k q;omega
  omega
 have D:∀m∈log++waits,m.blk k->False:=λm u p=>by
  have:=(h.hold m u).1.blk_lt k p;omega
 rcases jcf.1 u with q|q
 ·rcases jcf.1 q with v|v
  ·exact D m (jcf.2 (.inl v)) p
  rw[jcj.1 v]at p;obtain⟨_,o,j⟩:=p;injection j with j;injection j with j e2;omega
 exact D m (jcf.2 (.inr q)) p
theorem qqv {log waits:List TxM} (now I J K L:Int) {a:Option Addr} {cap:Nat} (w:World) (h:vu w b lv wv sv S log waits) (hI:j3 S) (hlog:log.length=S.log.length) (hW:qr w a cap ws) (hX:∀k N,ws≠[]->a=some (AD k N)->¬qu b lv wv sv k) (hE0:ji S log.length now I J K L ws=0):
 Ca 127 #[PP b,U now,.agg #[U I,U J,U K,U L],.slice a ws.length cap] w (qrd w b lv wv sv S log waits now I J K L ws):=by
 obtain⟨la,lc,rfl,hT⟩:=yx h.rlog;have hc1:=hT.len;have hc2:=hT.cap;have C:=(qo.new w 77 I J K L).boxed (.cells ZA 102);have G:qd ((w.alloc (.cells #[U I,U J,U K,U L] 77)).alloc (.cells ZA 102)) (w.heap.size+1) txZ:=qd.new (w:=w.alloc (.cells #[U I,U J,U K,U L] 77)) (T:=102) (n:=w.heap.size+1) ZL (by simp);have F:=boxed (boxed (jcc _ w) (.cells #[U I,U J,U K,U L] 77)) (.cells ZA 102);have WI:=hW.later F;have HH:=hd1 h;have HW:=hd1 hW
 have hB:w.heap.size<=w.heap.size+1:=by omega
 obtain⟨z1,z2,z3,z4,z5⟩:=qip hE0;have HOK:=hd1 z1;have HV:=hd1 z2;have HC:=hd1 z3;have HN5:=hd1 z5;have HE:=hd1 hE0
 have h200:¬(200:Int)<=(log.length:Int):=by omega
 have HI:=hd1 hI;have hi0:=hI.id0;have hi3:=hI.id3;go_enter Tryz.func127,Tryz.ntmps127
 go_wp2_with fail
 refine(qg7 WI).mono ?_;rintro e w1 ⟨rfl,hb1⟩;replace C:=C.later hb1;replace G:=G.later hb1;replace F:=qa F hb1;rw[HOK.out];have M1:=hd1 (HH.out.later F);have c0:=qb.cell C.c0;have c1:=qb.cell C.c1;have c2:=qb.cell C.c2;have c3:=qb.cell C.c3;have k1:=qb.cell (M1.out.box.c 1);have k2:=qb.cell (M1.out.box.c 2);have k3:=qb.cell (M1.out.box.c 3);have k4:=qb.cell (M1.out.box.c 4)
 go_wp2_with fail
 refine wrl ?_
 repeat (go_big_quiet_step (first|rfl|(go_at_call 178;with_reducible exact qg (qcn HV.out _))|(go_at_call 77;with_reducible exact qg (yo HC.out _))))
 refine wpQuiet_nil ?_;rintro w2 ⟨⟨_,hb2⟩,rfl⟩;replace G:=G.later hb2;replace C:=C.later hb2;replace F:=qa F hb2;have M2:=hd1 (M1.out.later hb2);have s7:=M2.out.box.c 7;have k5:=M2.out.box.c 5;have k6:=M2.out.box.c 6
 go_wp2_with fail
 refine(qm9 S.lw S.lc now _).mono ?_;rintro e w3 ⟨rfl,hb3⟩;have M3:=hd1 (M2.out.later hb3);obtain⟨⟨q,r,ne⟩,hnx⟩:∃x,qcp S.lw S.lc now=x:=⟨_,rfl⟩;have HNX:=hd1 hnx
 have hne:ne=0:=by have:=HN5.out;rw[hnx]at this;exact this
 rw[hnx];subst hne;have HSZ:=hd1 ((G.later hb3).lt);replace G:=(G.later hb3).boxed (.cells #[U q,U r] 79);replace C:=(C.later hb3).boxed (.cells #[U q,U r] 79);replace F:=boxed (qa F hb3) (.cells #[U q,U r] 79);have RS:=qd.new (w:=w3) (T:=79) [U q,U r] rfl;have M4:Hid (vu (w3.alloc (.cells #[U q,U r] 79)) b (.slice la log.length lc) wv sv S log waits):=M3.out.later (boxed (jcc _ w3) _);obtain⟨D,hD⟩:∃D,qp S.id S.a0 S.a1 S.a2 S.a3=D:=⟨_,rfl⟩;have hd:=HI.out.dep S.id;rw[hD]at hd;have hwr:=qpd hd.1 hd.2
 have HCT0:zv S now I J K L ws=⟨S.id,D+1,q,r,qch S.id D I,qcl S.id D J,qck S.id D K,qcj S.id D L,ws⟩:=by unfold zv;rw[hD,HNX.out]
 go_wp2_with fail
 obtain⟨W4,hW4⟩:∃W4,w3.alloc (.cells #[U q,U r] 79)=W4:=⟨_,rfl⟩;rw[hW4]at G C F RS M4 ⊢;have k0:=qb.cell (M4.out.box.c 0);have ks:=qb.cell (qkc M4.out.box hi0 hi3);rw[hD]at ks
 have hi4:S.id<4:=by omega
 have HD:=hd1 hD;have HFT:=hd1 HH.out.lt
 have nb:b≠w.heap.size:=by have:=HFT.out b (.inl rfl);omega
 refine wrl ?_
 repeat (go_big_quiet_step (first|rfl|fail))
 refine wpQuiet_nil ?_;rintro W5 ⟨⟨_,hb5⟩,rfl⟩;replace G:=G.later hb5;replace C:=C.later hb5;replace RS:=RS.later hb5;replace F:=qa F hb5;have M5:=hd1 (M4.out.later hb5);have k0:=M5.out.box.c 0;have v1:=qk9 C hi0 hi3;have v2:=qwc C hi0 hi3
 go_wp2_with fail
 have aa:=q0b C hi0 hi3 D;have RT6:=G.far (AD w.heap.size S.id.toNat) (U D) (by simp);have RS6:=RS.far (AD w.heap.size S.id.toNat) (U D) (by have:=HSZ.out;simp only;omega);have hb6:=F.setCell (p:=AD w.heap.size S.id.toNat) (jcd _) (U D);have M6:=hd1 (HH.out.later hb6);have HS6:=hd1 RS6.lt;obtain⟨d,hW6⟩:∃d,W5.setCell (AD w.heap.size S.id.toNat) (U D)=d:=⟨_,rfl⟩;rw[hW6]at aa RT6 RS6 hb6 M6 HS6 ⊢;obtain⟨y,he0⟩:∃x,qch S.id D I=x:=⟨_,rfl⟩;obtain⟨t,he1⟩:∃x,qcl S.id D J=x:=⟨_,rfl⟩;obtain⟨v,he2⟩:∃x,qck S.id D K=x:=⟨_,rfl⟩;obtain⟨z,he3⟩:∃x,qcj S.id D L=x:=⟨_,rfl⟩;rw[he0,he1,he2,he3]at aa HCT0;have HCT:=hd1 HCT0;have Y0:=λ(w':World) (h:Bw d w')=>cell_later h (M6.out.box.c 0);have Y2:=λ(w':World) (h:Bw d w')=>cell_later h (RS6.c 0);have Y3:=λ(w':World) (h:Bw d w')=>cell_later h (RS6.c 1);have Y4:=λ(w':World) (h:Bw d w')=>cell_later h aa.c0;have Y5:=λ(w':World) (h:Bw d w')=>cell_later h aa.c1;have Y6:=λ(w':World) (h:Bw d w')=>cell_later h aa.c2;have Y7:=λ(w':World) (h:Bw d w')=>cell_later h aa.c3;have hb60:=(jcc d.heap.size d).drew
 obtain⟨X,N,haa,hcc⟩:∃X N,a=some (AD X N)/\qbo d X N ws:=by
  rcases(HW.out.later hb6).held with h0|h0
  ·exfalso
   have:=HOK.out;rw[h0]at this;simp[qad,inB]at this
  exact h0
 have M:Hid (1<=ws.length/\ws.length<=5):=by
  have h1:=HOK.out;simp only[qad,jct,jk]at h1;show _/\_;omega
 have HNW:Hid (∀W,Bw d W->∀j u,(qcf ws)[j]?=some u->W.cell? (((AD X N):Addr).add j)=some u):=λW hW=>qsc (hcc.later hW);subst haa
 have hw2:IntKind.i64.wrap (D+1)=D+1:=by rw[<-qpd hd.1 hd.2];unfold wrap64 IntKind.wrap;simp[IntKind.signed,IntKind.bits];omega
 obtain⟨i0,hi,hz0,hz1,hz2⟩:=info_parts qmn
 go_region_held3 (λw'=>Bw d w') (repeat (first|(with_reducible assumption)|(with_reducible exact jcc _ _)|(with_reducible refine boxed ?_ _)|(with_reducible refine jc6 ?_)|(refine jdz ?_ (by first|(with_reducible exact jcd _)|(simp)) _)))
  (first
    |(refine step_append_lies _ rfl (.tmp 74) (.tmp 75) 88 rfl 0 100 i0 (.agg #[U 0,.string ⟨#[]⟩,.bool false]) 3 32 Tryz.underlying88 hi hz0 hz1 hz2 rfl (by decide) (.slice (PT d.heap.size) 0 0) 0 [] (by simp[Act.eval]) (qjq d 100 rfl 0 (jcw _)) (AD X N) ws.length cap (qcf ws) (by simp[Act.eval]) (qdt ws) (HNW.out _ (by repeat (first|(with_reducible assumption)|(with_reducible exact jcc _ _)|(with_reducible refine boxed ?_ _)|(with_reducible refine jc6 ?_)))) (qji ws) (by have:=M.out;omega) (by have:=M.out;simp only[maxLen];omega) (by have:=M.out;omega) (by simp) _ rfl ?_;intro g s E ownE Y egE ltE;have R:=jd0 (by repeat (first|(with_reducible assumption)|(with_reducible exact jcc _ _)|(with_reducible refine boxed ?_ _)|(with_reducible refine jc6 ?_))) Y (by simp<;>omega) (λj hj=>by simp[Value.ownBlock]at hj<;>omega);have Z:=hd2 (show d.heap.size<=g from by rcases egE with h|h<;>simp[Value.ownBlock]at h<;>omega) ltE)
    |(refine step_append_lies _ rfl (.tmp 74) (.tmp 75) 88 rfl 0 100 i0 (.agg #[U 0,.string ⟨#[]⟩,.bool false]) 3 32 Tryz.underlying88 hi hz0 hz1 hz2 rfl (by decide) (.slice (PT (d.heap.size+1)) 0 0) 0 [] (by simp[Act.eval]) (qjq (d.alloc (.cells ZA 102)) (n:=d.heap.size+1) 100 (by simp) 0 (jcw _)) (AD X N) ws.length cap (qcf ws) (by simp[Act.eval]) (qdt ws) (HNW.out _ (by repeat (first|(with_reducible assumption)|(with_reducible exact jcc _ _)|(with_reducible refine boxed ?_ _)|(with_reducible refine jc6 ?_)))) (qji ws) (by have:=M.out;omega) (by have:=M.out;simp only[maxLen];omega) (by have:=M.out;omega) (by simp) _ rfl ?_;intro g s E ownE Y egE ltE;have R:=jd0 (by repeat (first|(with_reducible assumption)|(with_reducible exact jcc _ _)|(with_reducible refine boxed ?_ _)|(with_reducible refine jc6 ?_))) Y (by simp<;>omega) (λj hj=>by simp[Value.ownBlock]at hj<;>omega);have Z:=hd2 (show d.heap.size+1<=g from by rcases egE with h|h<;>simp[Value.ownBlock]at h<;>omega) ltE;have i:=(((qd.new (w:=d) (T:=102) ZL rfl).boxed (.cells #[] 100)).drew).grown Y (λe=>by simp[Value.ownBlock]at e<;>omega);have y0:=i.c 0;have zz0:=i.f 0;have y1:=i.c 1;have zz1:=i.f 1;have y2:=i.c 2;have zz2:=i.f 2;have y3:=i.c 3;have zz3:=i.f 3;have y4:=i.c 4;have zz4:=i.f 4;have y5:=i.c 5;have zz5:=i.f 5;have y6:=i.c 6;have zz6:=i.f 6;have y7:=i.c 7;have zz7:=i.f 7;have y8:=i.c 8;have zz8:=i.f 8)
    |(refine step_append_lies _ rfl (.tmp 74) (.tmp 75) 88 rfl 0 100 i0 (.agg #[U 0,.string ⟨#[]⟩,.bool false]) 3 32 Tryz.underlying88 hi hz0 hz1 hz2 rfl (by decide) (.slice (PT d.heap.size) 0 0) 0 [] (by simp[Act.eval]) ((qjq d 100 rfl 0 (jcw _)).alloc (.cells ZA 102)) (AD X N) ws.length cap (qcf ws) (by simp[Act.eval]) (qdt ws) (HNW.out _ (by repeat (first|(with_reducible assumption)|(with_reducible exact jcc _ _)|(with_reducible refine boxed ?_ _)|(with_reducible refine jc6 ?_)))) (qji ws) (by have:=M.out;omega) (by have:=M.out;simp only[maxLen];omega) (by have:=M.out;omega) (by simp) _ rfl ?_;intro g s E ownE Y egE ltE;have R:=jd0 (by repeat (first|(with_reducible assumption)|(with_reducible exact jcc _ _)|(with_reducible refine boxed ?_ _)|(with_reducible refine jc6 ?_))) Y (by simp<;>omega) (λj hj=>by simp[Value.ownBlock]at hj<;>omega);have Z:=hd2 (show (g=d.heap.size\/d.heap.size+1<g)from by rcases egE with h|h<;>simp[Value.ownBlock]at h<;>omega) ltE;have i:=((qd.new (w:=d.alloc (.cells #[] 100)) (T:=102) (n:=d.heap.size+1) ZL (by simp)).drew).grown Y (λe=>by simp[Value.ownBlock]at e<;>omega);have y0:=i.c 0;have zz0:=i.f 0;have y1:=i.c 1;have zz1:=i.f 1;have y2:=i.c 2;have zz2:=i.f 2;have y3:=i.c 3;have zz3:=i.f 3;have y4:=i.c 4;have zz4:=i.f 4;have y5:=i.c 5;have zz5:=i.f 5;have y6:=i.c 6;have zz6:=i.f 6;have y7:=i.c 7;have zz7:=i.f 7;have y8:=i.c 8;have zz8:=i.f 8))
 focus
  have W0:=qjn ownE;have H:=qd.new (w:=E) (T:=102) (T9 S.id (D+1) q r y t v z (PT g) ws.length s) rfl;have O:=boxed R (.cells (List.toArray (T9 S.id (D+1) q r y t v z (PT g) ws.length s)) 102);have WG:=W0.later (boxed (jcc _ E) (.cells (List.toArray (T9 S.id (D+1) q r y t v z (PT g) ws.length s)) 102));obtain⟨P,Q⟩:∃P,E.alloc (.cells (List.toArray (T9 S.id (D+1) q r y t v z (PT g) ws.length s)) 102)=P:=⟨_,rfl⟩;rw[Q]at H O WG ⊢;obtain⟨xb,V⟩:∃x,E.heap.size=x:=⟨_,rfl⟩;have HQX:Hid (d.heap.size<=g/\d.heap.size<=xb):=⟨by have:=Z.out;omega,by rw[<-V];first|exact R.size|omega⟩;rw[V]at H ⊢
 rotate_left
 focus
  have W0:=qjn ownE;have H:=yz i rfl S.id (D+1) q r y t v z (.slice (PT g) ws.length s);have O:Bw d (js E (d.heap.size+1) S.id (D+1) q r y t v z (.slice (PT g) ws.length s)):=qd9 R (Nat.le_succ _) S.id (D+1) q r y t v z (.slice (PT g) ws.length s);have WG:qr (js E (d.heap.size+1) S.id (D+1) q r y t v z (.slice (PT g) ws.length s)) (PT g) s ws:=qr.kept (m:=⟨⟨S.id,D+1,q,r,y,t,v,z,ws⟩,some (AD g 0),s⟩) (w:=E) W0 (λk e=>qiu (by obtain⟨_,o,e⟩:=e;injection e with e;injection e with e;have:=Z.out;omega) S.id (D+1) q r y t v z (.slice (PT g) ws.length s));obtain⟨P,Q⟩:∃P,js E (d.heap.size+1) S.id (D+1) q r y t v z (.slice (PT g) ws.length s)=P:=⟨_,rfl⟩;rw[Q]at H O WG;simp only[js]at Q;rw[Q];obtain⟨xb,V⟩:∃x,d.heap.size+1=x:=⟨_,rfl⟩;have HQX:Hid (d.heap.size<=g/\d.heap.size<=xb):=⟨by have:=Z.out;omega,by rw[<-V];first|exact R.size|omega⟩;rw[V]at H ⊢
 rotate_left
 focus
  have W0:=qjn ownE;have H:=yz i rfl S.id (D+1) q r y t v z (.slice (PT g) ws.length s);have O:=qd9 R (jcd _) S.id (D+1) q r y t v z (.slice (PT g) ws.length s);have WG:qr (js E d.heap.size S.id (D+1) q r y t v z (.slice (PT g) ws.length s)) (PT g) s ws:=qr.kept (m:=⟨⟨S.id,D+1,q,r,y,t,v,z,ws⟩,some (AD g 0),s⟩) (w:=E) W0 (λk e=>qiu (by obtain⟨_,o,e⟩:=e;injection e with e;injection e with e;have:=Z.out;omega) S.id (D+1) q r y t v z (.slice (PT g) ws.length s));obtain⟨P,Q⟩:∃P,js E d.heap.size S.id (D+1) q r y t v z (.slice (PT g) ws.length s)=P:=⟨_,rfl⟩;rw[Q]at H O WG;simp only[js]at Q;rw[Q];obtain⟨xb,V⟩:∃x,d.heap.size=x:=⟨_,rfl⟩;have HQX:Hid (d.heap.size<=g/\d.heap.size<=xb):=⟨by have:=Z.out;omega,by rw[<-V];first|exact R.size|omega⟩;rw[V]at H ⊢
 rotate_left
 all_goals
  have RTF:=RT6.later O;have MF:=M6.out.later O;have HSF:=hd1 RT6.lt;have HBW:=hd1 (qa hb6 O);have HLG:=hd1 hlog
  have HSL:Hid (S.l.length+ws.length<=1000/\log.length<=1000):=by
   have q1:=HI.out.len;have q2:=M.out;have q3:=HLG.out
   have q4:log.length<200:=by omega
   show _/\_;omega
  have nfx:∀k,w.heap.size<=k->¬qu b (.slice la log.length lc) wv sv k:=λk hk hf=>by
   have:=HFT.out k hf;omega
  have AP:=qj3 ⟨⟨S.id,D+1,q,r,y,t,v,z,ws⟩,some (AD g 0),s⟩ P MF ⟨WG,λk e hf=>by
   obtain⟨_,o,e⟩:=e;injection e with e;injection e with t v;have q1:=HQX.out.1;have q2:=HFT.out k hf;have q3:=HSF.out
   omega⟩ hi0 hi3 HSL.out.1 HSL.out.2
  have HNF:=hd1 nfx;obtain⟨x0,x1,x2,x3,x4,x5,x6,x7,x8⟩:=H.c9
  go_wp2_with fail
  refine AP.mono ?_;rintro e w9 ⟨rfl,lv',sv',M9,nf9,tt9⟩;have RX9:=H.kept (tt9.block _ H.lt (HNF.out _ (by have:=HQX.out.2;have:=HSF.out;omega))) tt9.size;have B:=RTF.kept (tt9.block _ RTF.lt (HNF.out _ (by omega))) tt9.size;have FIN:=qqs HH.out HBW.out (by have:=HSF.out;have:=O.size;omega) M9 nf9 tt9 (by have:=HQX.out.1;have:=HSF.out;omega) HCT.out;obtain⟨x0,x1,x2,x3,x4,x5,x6,x7,x8⟩:=RX9.c9;have r0:=B.c 0;have p0:=B.free 0 (by simp[txZ]);have r1:=B.c 1;have p1:=B.free 1 (by simp[txZ]);have r2:=B.c 2;have p2:=B.free 2 (by simp[txZ]);have r3:=B.c 3;have p3:=B.free 3 (by simp[txZ]);have r4:=B.c 4;have p4:=B.free 4 (by simp[txZ]);have r5:=B.c 5;have p5:=B.free 5 (by simp[txZ]);have r6:=B.c 6;have p6:=B.free 6 (by simp[txZ]);have r7:=B.c 7;have p7:=B.free 7 (by simp[txZ]);have r8:=B.c 8;have p8:=B.free 8 (by simp[txZ]);have RZF:=yz B rfl S.id (D+1) q r y t v z (.slice (PT g) ws.length s)
  go_wp2_with fail
  exact bodyPost_ret (qbx RZF rfl rfl) rfl FIN.out
end
theorem qpf (i b wall j c d f g:Int) (a:Option Addr) (cap:Nat) (l:List Wr) (w:World) (m:qr w a cap l):
 Ca 128 #[.agg (List.toArray (T9 i b wall j c d f g a l.length cap))] w (Rn (.bool (jt i b wall j c d f g l)) w):=by
 have D:=qb.one;have x:=m.later (boxed (jcc _ w) (.cells (List.toArray (T9 i b wall j c d f g a l.length cap)) 102));clear m
 have n:(w.alloc (.cells (List.toArray (T9 i b wall j c d f g a l.length cap)) 102)).cell? (AD w.heap.size 0)=some (U i):=by go_simp
 have o:(w.alloc (.cells (List.toArray (T9 i b wall j c d f g a l.length cap)) 102)).cell? (AD w.heap.size 1)=some (U b):=by go_simp
 have p:(w.alloc (.cells (List.toArray (T9 i b wall j c d f g a l.length cap)) 102)).cell? (AD w.heap.size 2)=some (U wall):=by go_simp
 have q:(w.alloc (.cells (List.toArray (T9 i b wall j c d f g a l.length cap)) 102)).cell? (AD w.heap.size 3)=some (U j):=by go_simp
 have r:(w.alloc (.cells (List.toArray (T9 i b wall j c d f g a l.length cap)) 102)).cell? (AD w.heap.size 4)=some (U c):=by go_simp
 have s:(w.alloc (.cells (List.toArray (T9 i b wall j c d f g a l.length cap)) 102)).cell? (AD w.heap.size 5)=some (U d):=by go_simp
 have t:(w.alloc (.cells (List.toArray (T9 i b wall j c d f g a l.length cap)) 102)).cell? (AD w.heap.size 6)=some (U f):=by go_simp
 have u:(w.alloc (.cells (List.toArray (T9 i b wall j c d f g a l.length cap)) 102)).cell? (AD w.heap.size 7)=some (U g):=by go_simp
 have v:(w.alloc (.cells (List.toArray (T9 i b wall j c d f g a l.length cap)) 102)).cell? (AD w.heap.size 8)=some (.slice a l.length cap):=by go_simp
 replace n:=qb.cell n;replace o:=qb.cell o;replace p:=qb.cell p;replace q:=qb.cell q;replace r:=qb.cell r;replace s:=qb.cell s;replace t:=qb.cell t;replace u:=qb.cell u;replace v:=qb.cell v;cases p1:inB i 0 3;rw[show jt i b wall j c d f g l=false by simp[jt,p1]]
 rotate_left
 cases p2:inB b 1 1099511627776;rw[show jt i b wall j c d f g l=false by simp[jt,p2]]
 rotate_left
 cases p3:(qi wall&&qi j);rw[show jt i b wall j c d f g l=false by simp only[jt,p3,Bool.and_false,Bool.false_and]]
 rotate_left
 cases p4:jb c d f g;rw[show jt i b wall j c d f g l=false by simp only[jt,p4,Bool.and_false,Bool.false_and]]
 rotate_left
 have y:=jk.1 p1;have z:=jk.1 p2
 have e:jt i b wall j c d f g l=(decide (qp i c d f g=b-1)&&qad l):=by simp only[jt,p1,p2,p3,p4,Bool.and_true,Bool.true_and]
 rw[e];clear e
 have B:i=0\/i=1\/i=2\/i=3:=by omega
 obtain⟨E,F⟩:=z;clear y;rcases B with rfl|rfl|rfl|rfl;by_cases h:c=b-1
 have k:(c==b-1)=true:=by simp[h]
 rw[show (decide (qp 0 c d f g=b-1)&&qad l)=qad l by simp[qp,h]];clear h
 rotate_left
 have k:(c==b-1)=false:=by simp[h]
 rw[show (decide (qp 0 c d f g=b-1)&&qad l)=false by simp[qp,h]];clear h
 rotate_left
 by_cases h:d=b-1
 have k:(d==b-1)=true:=by simp[h]
 rw[show (decide (qp 1 c d f g=b-1)&&qad l)=qad l by simp[qp,h]];clear h
 rotate_left
 have k:(d==b-1)=false:=by simp[h]
 rw[show (decide (qp 1 c d f g=b-1)&&qad l)=false by simp[qp,h]];clear h
 rotate_left
 by_cases h:f=b-1
 have k:(f==b-1)=true:=by simp[h]
 rw[show (decide (qp 2 c d f g=b-1)&&qad l)=qad l by simp[qp,h]];clear h
 rotate_left
 have k:(f==b-1)=false:=by simp[h]
 rw[show (decide (qp 2 c d f g=b-1)&&qad l)=false by simp[qp,h]];clear h
 rotate_left
 by_cases h:g=b-1
 have k:(g==b-1)=true:=by simp[h]
 rw[show (decide (qp 3 c d f g=b-1)&&qad l)=qad l by simp[qp,h]];clear h
 rotate_left
 have k:(g==b-1)=false:=by simp[h]
 rw[show (decide (qp 3 c d f g=b-1)&&qad l)=false by simp[qp,h]];clear h
 all_goals
  go_enter Tryz.func128,Tryz.ntmps128
  go_wp2_with fail
  refine wrl ?_
  repeat (go_big_quiet_step (first|(go_at_call 28;with_reducible exact qg (vj p1 _))|(go_at_call 28;with_reducible exact qg (vj p2 _))|(go_at_call 180;with_reducible exact qg (qg5 p3 _))|(go_at_call 178;with_reducible exact qg (qcn p4 _))|(go_at_call 177;exact qg (qg7 (qr.later (qb.below _) x)))))
  refine wpQuiet_nil ?_;rintro G ⟨⟨_,C⟩,rfl⟩
  go_wp2
  go_ret;exact⟨rfl,qa (boxed (jcc _ _) _) C⟩
section
def qdn (w:World) (F:Nat->Option Obj) (log:List TxM):Prop:=∀k o,F k=some o->w.heap[k]?=some o/\∃m∈log,m.blk k
variable {w w':World} {F:Nat->Option Obj}
theorem qdn.tj {log a:List TxM} (h:qdn w F log) (f:∀m∈log,∀k,m.blk k->w'.heap[k]?=w.heap[k]?) (g:∀m∈log,m∈a):qdn w' F a:=λk o e=>by
 obtain⟨i,m,c,d⟩:=h k o e;exact⟨(f m c k d).trans i,m,g m c,d⟩
variable {b:Nat} {lv wv sv:Value} {S:qe}
theorem qdn.touch {log a waits:List TxM} (h:qdn w F log) (c:vu w b lv wv sv S log waits) (d:qc (qu b lv wv sv) w w') (f:∀m∈log,m∈a):qdn w' F a:=
 h.tj (λm g k e=>have q:=c.hold m (jcf.2 (.inl g));d.block k (q.1.blk_lt k e) (q.2 k e)) f
theorem qdn.later {log waits:List TxM} (h:qdn w F log) (a:vu w b lv wv sv S log waits) (c:Bw w w'):qdn w' F log:=h.touch a (qc.ofBelow c) (λ_ d=>d)
def RS (w:World) (b:Nat) (G:Nat->Prop) (F:Nat->Option Obj) (S:qe):Prop:=
 ∃lv wv sv log waits,vu w b lv wv sv S log waits/\log.map (·.t)=S.log/\waits.map (·.t)=S.waits/\(∀k,G k↔(qu b lv wv sv k\/∃m∈log++waits,m.blk k))/\qdn w F log
variable {G:Nat->Prop}
theorem RS.lt (h:RS w b G F S):∀k,G k->k<w.heap.size:=by
 obtain⟨lv,wv,sv,log,waits,h,_,_,c,_⟩:=h;intro k d;rcases(c k).1 d with a|⟨m,e,a⟩
 ·exact h.lt k a
 exact(h.hold m e).1.blk_lt k a
theorem RS.kept (h:RS w b G F S) (d:∀k,G k->w'.heap[k]?=w.heap[k]?) (f:w.heap.size<=w'.heap.size):RS w' b G F S:=by
 obtain⟨lv,wv,sv,log,waits,h,g,i,a,j⟩:=h;exact⟨lv,wv,sv,log,waits,h.keptB (λk e=>d k ((a k).2 e)) f,g,i,a,j.tj (λm c k e=>d k ((a k).2 (.inr ⟨m,jcf.2 (.inl c),e⟩))) (λ_ c=>c)⟩
theorem RS.later (h:RS w b G F S) (a:Bw w w'):RS w' b G F S:=h.kept (λk c=>a.block k (h.lt k c)) a.size
def RPo (w:World) (b:Nat) (G:Nat->Prop) (F:Nat->Option Obj) (S':qe) (w':World):Prop:=∃G',RS w' b G' F S'/\(∀k,G' k->G k\/w.heap.size<=k)/\qc G w w'
variable {S':qe}
theorem RPo.trans {a w2:World} {c:Nat->Prop} (d:∀k,c k->G k\/w.heap.size<=k) (e:qc G w a) (h:RPo a b c F S' w2):RPo w b G F S' w2:=by
 obtain⟨g,i,j,l⟩:=h;refine⟨g,i,λk m=>?_,e.more l d⟩;rcases j k m with f|f
 ·exact d k f
 exact .inr (by have:=e.size;omega)
theorem RPo.same (h:RS w b G F S) (a:Bw w w'):RPo w b G F S w':=⟨G,h.later a,λ_ c=>.inl c,qc.ofBelow a⟩
theorem vu.rewait {c:Value} {log waits g:List TxM} (h:vu w b lv wv sv S log waits) (d:∀k,(qu b lv wv sv k\/∃m∈log++waits,m.blk k)->k≠b->wv.ownBlock≠some k->w'.heap[k]?=w.heap[k]?) (v:qd w' b (vz S' lv c sv)) (r:S'.l=S.l)
 (y:w'.ownsRow 0 102 9 c g.length (zw g)) (i:∀k,c.ownBlock=some k->w.heap.size<=k) (z:∀m∈g,m∈waits\/(qr w' m.wa m.wc m.t.ws/\∀k,m.blk k->¬qu b lv wv sv k/\c.ownBlock≠some k)):vu w' b lv c sv S' log g:=by
 have s:∀k,qu b lv c sv k->qu b lv wv sv k\/c.ownBlock=some k:=λk d=>by
  rcases d with a|a|a|a
  ·exact .inl (.inl a)
  ·exact .inl (.inr (.inl a))
  ·exact .inr a
  exact .inl (.inr (.inr (.inr a)))
 have u:∀m∈log++waits,qr w' m.wa m.wc m.t.ws/\∀k,m.blk k->¬qu b lv c sv k:=λm j=>by
  have q:=h.hold m j;refine⟨q.1.kept (λk e=>d k (.inr ⟨m,j,e⟩) (λx=>q.2 k e (.inl x)) (λx=>q.2 k e (.inr (.inr (.inl x))))),λk e n=>?_⟩;rcases s k n with a|a
  ·exact q.2 k e a
  have:=i k a;have:=q.1.blk_lt k e;omega
 refine⟨v,qf h.rlog (λk e=>d k (.inl (.inr (.inl e))) (λx=>h.nl (by rw[<-x];exact e)) (h.lw k e)),y,by rw[r];exact qf h.own (λk e=>d k (.inl (.inr (.inr (.inr e)))) (λx=>h.ns (by rw[<-x];exact e)) (λx=>h.ws k x e)),by rw[r];exact h.ok,h.nl,λe=>?_,h.ns,λk e o=>?_,h.ls,λk e o=>?_,λm j=>?_⟩
 ·have:=i b e;have:=h.box.lt;omega
 ·have:=i k o;have:=(h.rlog.lt k e).2;omega
 ·have:=i k e;have:=(h.own.lt k o).2;omega
 rcases jcf.1 j with a|a
 ·exact u m (jcf.2 (.inl a))
 rcases z m a with f|f
 ·exact u m (jcf.2 (.inr f))
 refine⟨f.1,λk e n=>?_⟩;rcases s k n with p|p
 ·exact(f.2 k e).1 p
 exact(f.2 k e).2 p
end
theorem qp0 (a0 a1 a2 a3 d e f g:Int) (w:World):
 Ca 83 #[.agg #[U a0,U a1,U a2,U a3],.agg #[U d,U e,U f,U g]] w (Rn (.agg #[U (jd a0 d),U (jd a1 e),U (jd a2 f),U (jd a3 g)]) w):=by
 have t:=qb.one;go_enter Tryz.func83,Tryz.ntmps83
 go_wp2
 go_loopw [6] (λi wr=>∃(k:Nat) (z:Int),k<=4/\z=k/\i=U z/\Bw w wr/\qo wr w.heap.size (if 0<k then jd a0 d else a0) (if 1<k then jd a1 e else a1) (if 2<k then jd a2 f else a2) (if 3<k then jd a3 g else a3)/\qo wr (w.heap.size+1) d e f g/\qo wr (w.heap.size+1+1) 0 0 0 0) (λi _=>4-(intOf i).toNat)
 case atStart=>
  have x:=qo.new w 77 a0 a1 a2 a3;have y:=qo.new (w.alloc (.cells #[U a0,U a1,U a2,U a3] 77)) 77 d e f g;have z:=qo.new ((w.alloc (.cells #[U a0,U a1,U a2,U a3] 77)).alloc (.cells #[U d,U e,U f,U g] 77)) 77 0 0 0 0;simp only[jdi]at y z;exact⟨0,0,by omega,rfl,rfl,boxed (boxed (boxed (jcc _ _) _) _) _,(x.later (boxed (jcc _ _) _)).later (boxed (jcc _ _) _),y.later (boxed (jcc _ _) _),z⟩
 obtain⟨k,z,q,m,rfl,j,A,B,R⟩:=hrel
 have r:k=0\/k=1\/k=2\/k=3\/k=4:=by omega
 clear q;rcases r with rfl|rfl|rfl|rfl|rfl
 all_goals simp only[Nat.lt_irrefl,Nat.not_lt_zero,if_true,if_false,Nat.reduceLT]at A
 ·obtain rfl:z=0:=by omega
  clear m
  go_wp2
  have b:=qb.cell A.c0;have c:=qb.cell B.c0;by_cases h:a0<d
  ·refine wrl ?_
   repeat (go_big_quiet_step (fail))
   refine wpQuiet_nil ?_;rintro l ⟨⟨_,a⟩,rfl⟩;replace A:=A.later a;replace B:=B.later a;replace R:=R.later a;clear b c;have n:=A.c0;have o:=B.c0;have p:=A.f0
   go_wp2
   go_roundw
   case rel=>exact⟨1,1,by omega,rfl,by go_num,(qa j a).setCell (by simp) _,by simpa[qia h]using A.set0 d,B.far _ _ (by simp),R.far _ _ (by simp;omega)⟩
   simp[intOf]
  refine wrl ?_
  repeat (go_big_quiet_step (fail))
  refine wpQuiet_nil ?_;rintro l ⟨⟨_,a⟩,rfl⟩;replace A:=A.later a;replace B:=B.later a;replace R:=R.later a;clear b c
  go_wp2
  go_roundw
  case rel=>exact⟨1,1,by omega,rfl,by go_num,qa j a,by simpa[qh1 h]using A,B,R⟩
  simp[intOf]
 ·obtain rfl:z=1:=by omega
  clear m
  go_wp2
  have b:=qb.cell A.c1;have c:=qb.cell B.c1;by_cases h:a1<e
  ·refine wrl ?_
   repeat (go_big_quiet_step (fail))
   refine wpQuiet_nil ?_;rintro l ⟨⟨_,a⟩,rfl⟩;replace A:=A.later a;replace B:=B.later a;replace R:=R.later a;clear b c;have n:=A.c1;have o:=B.c1;have p:=A.f1
   go_wp2
   go_roundw
   case rel=>exact⟨2,2,by omega,rfl,by go_num,(qa j a).setCell (by simp) _,by simpa[qia h]using A.set1 e,B.far _ _ (by simp),R.far _ _ (by simp;omega)⟩
   simp[intOf]
  refine wrl ?_
  repeat (go_big_quiet_step (fail))
  refine wpQuiet_nil ?_;rintro l ⟨⟨_,a⟩,rfl⟩;replace A:=A.later a;replace B:=B.later a;replace R:=R.later a;clear b c
  go_wp2
  go_roundw
  case rel=>exact⟨2,2,by omega,rfl,by go_num,qa j a,by simpa[qh1 h]using A,B,R⟩
  simp[intOf]
 ·obtain rfl:z=2:=by omega
  clear m
  go_wp2
  have b:=qb.cell A.c2;have c:=qb.cell B.c2;by_cases h:a2<f
  ·refine wrl ?_
   repeat (go_big_quiet_step (fail))
   refine wpQuiet_nil ?_;rintro l ⟨⟨_,a⟩,rfl⟩;replace A:=A.later a;replace B:=B.later a;replace R:=R.later a;clear b c;have n:=A.c2;have o:=B.c2;have p:=A.f2
   go_wp2
   go_roundw
   case rel=>exact⟨3,3,by omega,rfl,by go_num,(qa j a).setCell (by simp) _,by simpa[qia h]using A.set2 f,B.far _ _ (by simp),R.far _ _ (by simp;omega)⟩
   simp[intOf]
  refine wrl ?_
  repeat (go_big_quiet_step (fail))
  refine wpQuiet_nil ?_;rintro l ⟨⟨_,a⟩,rfl⟩;replace A:=A.later a;replace B:=B.later a;replace R:=R.later a;clear b c
  go_wp2
  go_roundw
  case rel=>exact⟨3,3,by omega,rfl,by go_num,qa j a,by simpa[qh1 h]using A,B,R⟩
  simp[intOf]
 ·obtain rfl:z=3:=by omega
  clear m
  go_wp2
  have b:=qb.cell A.c3;have c:=qb.cell B.c3;by_cases h:a3<g
  ·refine wrl ?_
   repeat (go_big_quiet_step (fail))
   refine wpQuiet_nil ?_;rintro l ⟨⟨_,a⟩,rfl⟩;replace A:=A.later a;replace B:=B.later a;replace R:=R.later a;clear b c;have n:=A.c3;have o:=B.c3;have p:=A.f3
   go_wp2
   go_roundw
   case rel=>exact⟨4,4,by omega,rfl,by go_num,(qa j a).setCell (by simp) _,by simpa[qia h]using A.set3 g,B.far _ _ (by simp),R.far _ _ (by simp;omega)⟩
   simp[intOf]
  refine wrl ?_
  repeat (go_big_quiet_step (fail))
  refine wpQuiet_nil ?_;rintro l ⟨⟨_,a⟩,rfl⟩;replace A:=A.later a;replace B:=B.later a;replace R:=R.later a;clear b c
  go_wp2
  go_roundw
  case rel=>exact⟨4,4,by omega,rfl,by go_num,qa j a,by simpa[qh1 h]using A,B,R⟩
  simp[intOf]
 obtain rfl:z=4:=by omega
 clear m;obtain⟨b,c,u,C,D,f1,E,F⟩:=A;obtain⟨n,o,p,s,G,H,I,J⟩:=R
 go_wp2
 exact bodyPost_ret (v:=.agg #[U (jd a0 d),U (jd a1 e),U (jd a2 f),U (jd a3 g)]) (by simp[results,Tryz.results83,go_sem,n,o,p,s]) rfl ⟨rfl,(((j.setCell (by simp;omega) _).setCell (by simp;omega) _).setCell (by simp;omega) _).setCell (by simp;omega) _⟩
theorem qgh (a0 a1 a2 a3 d e f g:Int) (w:World):
 Ca 86 #[.agg #[U a0,U a1,U a2,U a3],.agg #[U d,U e,U f,U g]] w (Rn (.agg #[U (qm a0 d),U (qm a1 e),U (qm a2 f),U (qm a3 g)]) w):=by
 have t:=qb.one;go_enter Tryz.func86,Tryz.ntmps86
 go_wp2
 go_loopw [6] (λi wr=>∃(k:Nat) (z:Int),k<=4/\z=k/\i=U z/\Bw w wr/\qo wr w.heap.size (if 0<k then qm a0 d else a0) (if 1<k then qm a1 e else a1) (if 2<k then qm a2 f else a2) (if 3<k then qm a3 g else a3)/\qo wr (w.heap.size+1) d e f g/\qo wr (w.heap.size+1+1) 0 0 0 0) (λi _=>4-(intOf i).toNat)
 case atStart=>
  have x:=qo.new w 77 a0 a1 a2 a3;have y:=qo.new (w.alloc (.cells #[U a0,U a1,U a2,U a3] 77)) 77 d e f g;have z:=qo.new ((w.alloc (.cells #[U a0,U a1,U a2,U a3] 77)).alloc (.cells #[U d,U e,U f,U g] 77)) 77 0 0 0 0;simp only[jdi]at y z;exact⟨0,0,by omega,rfl,rfl,boxed (boxed (boxed (jcc _ _) _) _) _,(x.later (boxed (jcc _ _) _)).later (boxed (jcc _ _) _),y.later (boxed (jcc _ _) _),z⟩
 obtain⟨k,z,q,m,rfl,j,A,B,R⟩:=hrel
 have r:k=0\/k=1\/k=2\/k=3\/k=4:=by omega
 clear q;rcases r with rfl|rfl|rfl|rfl|rfl
 all_goals simp only[Nat.lt_irrefl,Nat.not_lt_zero,if_true,if_false,Nat.reduceLT]at A
 ·obtain rfl:z=0:=by omega
  clear m
  go_wp2
  have b:=qb.cell A.c0;have c:=qb.cell B.c0;by_cases h:d<a0
  ·refine wrl ?_
   repeat (go_big_quiet_step (fail))
   refine wpQuiet_nil ?_;rintro l ⟨⟨_,a⟩,rfl⟩;replace A:=A.later a;replace B:=B.later a;replace R:=R.later a;clear b c;have n:=A.c0;have o:=B.c0;have p:=A.f0
   go_wp2
   go_roundw
   case rel=>exact⟨1,1,by omega,rfl,by go_num,(qa j a).setCell (by simp) _,by simpa[qj1 h]using A.set0 d,B.far _ _ (by simp),R.far _ _ (by simp;omega)⟩
   simp[intOf]
  refine wrl ?_
  repeat (go_big_quiet_step (fail))
  refine wpQuiet_nil ?_;rintro l ⟨⟨_,a⟩,rfl⟩;replace A:=A.later a;replace B:=B.later a;replace R:=R.later a;clear b c
  go_wp2
  go_roundw
  case rel=>exact⟨1,1,by omega,rfl,by go_num,qa j a,by simpa[qjp h]using A,B,R⟩
  simp[intOf]
 ·obtain rfl:z=1:=by omega
  clear m
  go_wp2
  have b:=qb.cell A.c1;have c:=qb.cell B.c1;by_cases h:e<a1
  ·refine wrl ?_
   repeat (go_big_quiet_step (fail))
   refine wpQuiet_nil ?_;rintro l ⟨⟨_,a⟩,rfl⟩;replace A:=A.later a;replace B:=B.later a;replace R:=R.later a;clear b c;have n:=A.c1;have o:=B.c1;have p:=A.f1
   go_wp2
   go_roundw
   case rel=>exact⟨2,2,by omega,rfl,by go_num,(qa j a).setCell (by simp) _,by simpa[qj1 h]using A.set1 e,B.far _ _ (by simp),R.far _ _ (by simp;omega)⟩
   simp[intOf]
  refine wrl ?_
  repeat (go_big_quiet_step (fail))
  refine wpQuiet_nil ?_;rintro l ⟨⟨_,a⟩,rfl⟩;replace A:=A.later a;replace B:=B.later a;replace R:=R.later a;clear b c
  go_wp2
  go_roundw
  case rel=>exact⟨2,2,by omega,rfl,by go_num,qa j a,by simpa[qjp h]using A,B,R⟩
  simp[intOf]
 ·obtain rfl:z=2:=by omega
  clear m
  go_wp2
  have b:=qb.cell A.c2;have c:=qb.cell B.c2;by_cases h:f<a2
  ·refine wrl ?_
   repeat (go_big_quiet_step (fail))
   refine wpQuiet_nil ?_;rintro l ⟨⟨_,a⟩,rfl⟩;replace A:=A.later a;replace B:=B.later a;replace R:=R.later a;clear b c;have n:=A.c2;have o:=B.c2;have p:=A.f2
   go_wp2
   go_roundw
   case rel=>exact⟨3,3,by omega,rfl,by go_num,(qa j a).setCell (by simp) _,by simpa[qj1 h]using A.set2 f,B.far _ _ (by simp),R.far _ _ (by simp;omega)⟩
   simp[intOf]
  refine wrl ?_
  repeat (go_big_quiet_step (fail))
  refine wpQuiet_nil ?_;rintro l ⟨⟨_,a⟩,rfl⟩;replace A:=A.later a;replace B:=B.later a;replace R:=R.later a;clear b c
  go_wp2
  go_roundw
  case rel=>exact⟨3,3,by omega,rfl,by go_num,qa j a,by simpa[qjp h]using A,B,R⟩
  simp[intOf]
 ·obtain rfl:z=3:=by omega
  clear m
  go_wp2
  have b:=qb.cell A.c3;have c:=qb.cell B.c3;by_cases h:g<a3
  ·refine wrl ?_
   repeat (go_big_quiet_step (fail))
   refine wpQuiet_nil ?_;rintro l ⟨⟨_,a⟩,rfl⟩;replace A:=A.later a;replace B:=B.later a;replace R:=R.later a;clear b c;have n:=A.c3;have o:=B.c3;have p:=A.f3
   go_wp2
   go_roundw
   case rel=>exact⟨4,4,by omega,rfl,by go_num,(qa j a).setCell (by simp) _,by simpa[qj1 h]using A.set3 g,B.far _ _ (by simp),R.far _ _ (by simp;omega)⟩
   simp[intOf]
  refine wrl ?_
  repeat (go_big_quiet_step (fail))
  refine wpQuiet_nil ?_;rintro l ⟨⟨_,a⟩,rfl⟩;replace A:=A.later a;replace B:=B.later a;replace R:=R.later a;clear b c
  go_wp2
  go_roundw
  case rel=>exact⟨4,4,by omega,rfl,by go_num,qa j a,by simpa[qjp h]using A,B,R⟩
  simp[intOf]
 obtain rfl:z=4:=by omega
 clear m;obtain⟨b,c,u,C,D,f1,E,F⟩:=A;obtain⟨n,o,p,s,G,H,I,J⟩:=R
 go_wp2
 exact bodyPost_ret (v:=.agg #[U (qm a0 d),U (qm a1 e),U (qm a2 f),U (qm a3 g)]) (by simp[results,Tryz.results86,go_sem,n,o,p,s]) rfl ⟨rfl,(((j.setCell (by simp;omega) _).setCell (by simp;omega) _).setCell (by simp;omega) _).setCell (by simp;omega) _⟩
theorem qsz {b k:Nat} {wv:Value} {s:qy} {G:Nat->Prop} {F:Nat->Option Obj} {S:qe} (w:World) (h:qgs w b wv s) (o:RS w k G F S) (p:¬G b):
 Ca 31 #[PP b,PP k] w λe w'=>e=.returned (U (qhl S s))/\qep w b wv (qhd S s) w':=by
 obtain⟨lv,x,sv,log,waits,M,_,_,i,_⟩:=o;have y:=qb.one;have z:b≠k:=λe=>p ((i b).2 (.inl (.inl e)));have l:=hd1 h;have q:=hd1 M;have m:=h.box.c 8;cases ho:s.opn
 ·have r:=qb.cell (h.box.c 0);have l1:=qb.cell (h.box.c 1);have t:=qb.cell (h.box.c 2);have u:=qb.cell (h.box.c 3);have x1:=qb.cell (M.box.c 1);have x2:=qb.cell (M.box.c 2);have x3:=qb.cell (M.box.c 3);have v:=qb.cell (M.box.c 4);rw[ho]at m;have n:=hd1 ho;cases hc:qa8 S.a0 S.a1 S.a2 S.a3 s.p0 s.p1 s.p2 s.p3
  ·have f:=hd1 hc
   have d:Hid (qhl S s=10):=by show _=_;unfold qhl;rw[n.out,f.out];rfl
   clear h M ho hc i;go_enter Tryz.func31,Tryz.ntmps31
   go_wp2_with fail
   refine wrl ?_
   repeat (go_big_quiet_step (first|rfl|(go_at_call 77;with_reducible exact qg (yo f.out _))))
   refine wpQuiet_nil ?_;rintro w2 ⟨⟨_,g⟩,rfl⟩
   go_wp2_with fail
   go_ret;refine⟨by rw[d.out];rfl,?_⟩;rw[show qhd S s=s by unfold qhd;rw[if_neg (by rw[d.out];decide)]];exact qep.same l.out g
  have f:=hd1 hc
  have d:Hid (qhl S s=0):=by show _=_;unfold qhl;rw[n.out,f.out];rfl
  clear h M ho hc i;go_enter Tryz.func31,Tryz.ntmps31
  go_wp2_with fail
  refine wrl ?_
  repeat (go_big_quiet_step (first|rfl|(go_at_call 77;with_reducible exact qg (yo f.out _))))
  refine wpQuiet_nil ?_;rintro w2 ⟨⟨_,g⟩,rfl⟩;have a:=l.out.box.later g;have j:=q.out.box.later g;clear m r l1 t u x1 x2 x3 v;have B:=j.c 1;have C:=j.c 2;have D:=j.c 3;have E:=j.c 4;have H:=a.c 4;have I:=a.c 5;have J:=a.c 6;have K:=a.c 7;have L:=a.c 8;have N:=a.c 9;have O:=a.free 4 (by simp[jr]);have P:=a.free 5 (by simp[jr]);have Q:=a.free 6 (by simp[jr]);have R:=a.free 7 (by simp[jr]);have T:=a.free 8 (by simp[jr]);have V:=a.free 9 (by simp[jr])
  go_wp2_with fail
  go_ret;refine⟨by rw[d.out];rfl,?_⟩;rw[show qhd S s={s with opn:=true,s0:=S.a0,s1:=S.a1,s2:=S.a2,s3:=S.a3,ws:=[]} by unfold qhd;rw[if_pos d.out]];exact q9v g a S.a0 S.a1 S.a2 S.a3
 rw[ho]at m
 have d:Hid (qhl S s=6):=by show _=_;unfold qhl;rw[ho];rfl
 clear h M ho i;go_enter Tryz.func31,Tryz.ntmps31
 go_wp2_with fail
 go_ret;refine⟨by rw[d.out];rfl,?_⟩;rw[show qhd S s=s by unfold qhd;rw[if_neg (by rw[d.out];decide)]];exact qep.same l.out (jcc _ _)
section
variable {b:Nat} {G:Nat->Prop} {F:Nat->Option Obj} {S:qe}
theorem q07 (key a0 a1 a2 a3:Int) (w:World) (h:RS w b G F S) (a:j3 S):
 Ca 79 #[PP b,U key,.agg #[U a0,U a1,U a2,U a3]] w λe w'=>
  e=.returned (.tuple #[.agg (qh (qbq S key a0 a1 a2 a3).1).toArray,U (qbq S key a0 a1 a2 a3).2])/\Bw w w':=by
 obtain⟨lv,wv,sv,log,waits,h,_,_,_⟩:=h;exact qnx key a0 a1 a2 a3 w h (by have:=a.len;have:=a.log;omega)
theorem RS.of {w w':World} {lv wv sv g h i:Value} {S':qe} {log waits a:List TxM} (o:a.map (·.t)=S'.log) (p:waits.map (·.t)=S'.waits) (f:∀k,G k↔(qu b lv wv sv k\/∃m∈log++waits,m.blk k)) (M:vu w' b g h i S' a waits) (q:∀k,qu b g h i k->qu b lv wv sv k\/w.heap.size<=k) (c:qc (qu b lv wv sv) w w')
 (r:qdn w' F a) (s:∀m∈a,m∈log\/∀k,m.blk k->w.heap.size<=k):RPo w b G F S' w':=by
 refine⟨_,⟨g,h,i,a,waits,M,o,p,λk=>jdl,r⟩,λk j=>?_,⟨c.os,c.tape,c.output,c.size,λk j u=>c.block k j (λe=>u ((f k).2 (.inl e)))⟩⟩;rcases j with d|⟨m,v,d⟩
 ·exact(q k d).imp (λe=>(f k).2 (.inl e)) id
 rcases jcf.1 v with l|l
 ·rcases s m l with n|n
  ·exact .inl ((f k).2 (.inr ⟨m,jcf.2 (.inl n),d⟩))
  exact .inr (n k d)
 exact .inl ((f k).2 (.inr ⟨m,jcf.2 (.inr l),d⟩))
def jbj (F:Nat->Option Obj) (m:TxM) (F':Nat->Option Obj):Prop:=(∀k o,F k=some o->F' k=some o)/\∀k,m.blk k->∃o,F' k=some o
def q3u (w:World) (b:Nat) (G:Nat->Prop) (F:Nat->Option Obj) (S:qe) (now d0 d1 d2 d3:Int) (ws:List Wr) (e:Ending) (w':World):Prop:=
 ∃m:TxM,e=.returned (.tuple #[txV m,U (qfl S now d0 d1 d2 d3 ws)])/\m.t=qha S now d0 d1 d2 d3 ws/\Hid (qr w' m.wa m.wc m.t.ws/\∃F',jbj F m F'/\RPo w b G F' (qf3 S now d0 d1 d2 d3 ws) w')/\∀k,m.blk k->w.heap.size<=k
theorem qwq (now c d f g:Int) {a:Option Addr} {cap:Nat} {ws:List Wr} (w:World) (h:RS w b G F S) (H:j3 S) (z:qr w a cap ws) (I:∀k q,ws≠[]->a=some (AD k q)->¬G k):
 Ca 127 #[PP b,U now,.agg #[U c,U d,U f,U g],.slice a ws.length cap] w (q3u w b G F S now c d f g ws):=by
 have J:=h;obtain⟨lv,wv,sv,log,waits,n,A,K,B,C⟩:=h
 have D:log.length=S.log.length:=by rw[<-A];simp
 have r:ji S log.length now c d f g ws=qfl S now c d f g ws:=by rw[D];rfl
 by_cases l:ji S log.length now c d f g ws=0
 ·have j:qfl S now c d f g ws=0:=by rw[<-r];exact l
  refine(qqv now c d f g w n H D z (λk q L N O=>I k q L N ((B k).2 (.inl O))) l).mono λe w' s=>?_;obtain⟨p,wc,Y,Z,t,M,P,E,u⟩:=s
  ·refine⟨⟨zv S now c d f g ws,p,wc⟩,by rw[t,j];rfl,by unfold qha;rw[if_pos j],⟨(M.hold _ (jcf.2 (.inl (jcf.2 (.inr (jcj.2 rfl)))))).1,?_⟩,u⟩;have Q:=(M.hold _ (jcf.2 (.inl (jcf.2 (.inr (jcj.2 rfl)))))).1
   have R:∀k o,F k=some o->¬(⟨zv S now c d f g ws,p,wc⟩:TxM).blk k:=λk o e i=>by
        obtain⟨_,m,v,T⟩:=C k o e;have:=(n.hold m (jcf.2 (.inl v))).1.blk_lt k T;have:=u k i;omega
   classical
   refine⟨λk=>if (⟨zv S now c d f g ws,p,wc⟩:TxM).blk k then w'.heap[k]?else F k,⟨λk o e=>by simp only;rw[if_neg (R k o e)];exact e,λk i=>⟨w'.heap[k]'(Q.blk_lt k i),by simp only;rw[if_pos i];exact jde _⟩⟩,?_⟩;unfold qf3;rw[if_pos j];refine RS.of (by rw[jdb,A];rfl) K B M P E (λk o e=>?_) (λm v=>?_)
   ·by_cases i:(⟨zv S now c d f g ws,p,wc⟩:TxM).blk k
    ·rw[if_pos i]at e;exact⟨e,_,jcf.2 (.inr (jcj.2 rfl)),i⟩
    rw[if_neg i]at e;exact C.touch n E (λx V=>jcf.2 (.inl V)) k o e
   rcases jcf.1 v with y|y
   ·exact .inl y
   rw[jcj.1 y];exact .inr u
 have j:qfl S now c d f g ws≠0:=by rw[<-r];exact l
 refine(qs2 now c d f g w n z l).mono λe w' s=>?_;rcases s with ⟨_,t,W⟩|⟨X,_⟩
 ·refine⟨tx0,by rw[t,r];rfl,by unfold qha;rw[if_neg j];rfl,⟨⟨jcd _,by decide,.inl rfl⟩,?_⟩,λk i=>absurd rfl i.1⟩;refine⟨F,⟨λ_ _ e=>e,λk i=>absurd rfl i.1⟩,?_⟩;unfold qf3;rw[if_neg j];exact RPo.same J W
 exact absurd X l
end
section
def qek (b:Nat) (F:Nat->Option Obj) (S:qe):qfr:=⟨λw G=>RS w b G F S,λ_ _ h=>h.lt,λ_ _ _ h=>h.kept⟩
def RSe (w:World) (b:Nat) (G:Nat->Prop) (s:qy):Prop:=∃wv,qgs w b wv s/\∀k,G k↔(k=b\/wv.ownBlock=some k)
variable {w:World} {b:Nat} {G:Nat->Prop} {s:qy}
theorem RSe.lt (h:RSe w b G s):∀k,G k->k<w.heap.size:=by
 obtain⟨wv,h,a⟩:=h;intro k c;rcases(a k).1 c with e|e
 ·rw[e];exact h.box.lt
 exact(h.row.lt k e).2
variable {w':World}
theorem RSe.kept (h:RSe w b G s) (c:∀k,G k->w'.heap[k]?=w.heap[k]?) (d:w.heap.size<=w'.heap.size):RSe w' b G s:=by
 obtain⟨wv,h,a⟩:=h;exact⟨wv,⟨h.box.kept (c b ((a b).2 (.inl rfl))) d,qf h.row (λk e=>c k ((a k).2 (.inr e))),h.nb⟩,a⟩
def qjd (b:Nat) (s:qy):qfr:=⟨λw G=>RSe w b G s,λ_ _ h=>h.lt,λ_ _ _ h=>h.kept⟩
theorem qep.left {wv:Value} {g:qy} (c:∀k,G k↔(k=b\/wv.ownBlock=some k)) (h:qep w b wv g w'):qbi (qjd b g) w G w':=by
 obtain⟨i,j,l,a⟩:=h;refine⟨λk=>k=b\/i.ownBlock=some k,⟨i,j,λ_=>jdl⟩,λk d=>?_,⟨a.os,a.tape,a.output,a.size,λk d m=>a.block k d (λe=>m ((c k).2 e))⟩⟩;rcases d with e|e
 ·exact .inl ((c k).2 (.inl e))
 rcases l k e with f|f
 ·exact .inl ((c k).2 (.inr f))
 exact .inr f
theorem jaa (T:TypeId):RSe (w.alloc (.cells (jr qez (.slice none 0 0)).toArray T)) w.heap.size (λk=>k=w.heap.size) qez:=
 ⟨.slice none 0 0,⟨qd.new (w:=w) (T:=T) _ rfl,jcx _ _ _ _,by simp[Value.ownBlock]⟩,λk=>⟨λh=>.inl h,λh=>by simpa[Value.ownBlock]using h⟩⟩
def q6u (w:World) (b bx:Nat) (G Gx:Nat->Prop) (F:Nat->Option Obj) (S:qe) (s:qy) (now:Int) (e:Ending) (w':World):Prop:=
 ∃m:TxM,e=.returned (.tuple #[txV m,U (qeg S s now)])/\m.t=qce S s now/\Hid (qr w' m.wa m.wc m.t.ws/\∃F',jbj F m F'/\qfx (qjd b (j0 S s now)) (qek bx F' (qcc S s now)) w G Gx m.blk w')
end
section
def qgn (bp:Nat->Nat) (n:Nat):List Value:=(List.range n).map (λi=>.pointer (PT (bp i)))
def qdw (x:Nat->Int) (n:Nat):List Value:=(List.range n).map (λi=>U (x i))
theorem qlj (x:Nat->Int) (n:Nat):(qdw x n).length=n:=by simp[qdw]
variable {n i:Nat}
theorem qn4 {bp:Nat->Nat} (hi:i<n):(qgn bp n)[i]?=some (PP (bp i)):=by
 unfold qgn;rw[jcv,List.getElem?_range hi];rfl
theorem qie {x:Nat->Int} (hi:i<n):(qdw x n)[i]?=some (U (x i)):=by
 unfold qdw;rw[jcv,List.getElem?_range hi];rfl
structure GrR where
 g:GrS
 wa:Option Addr
 wc:Nat
def grT:GrB->TxP
 |.tx t=>t
 |.ask ..=>tx0.t
def grA:GrB->Int×Int×Int×Int×Int
 |.tx _=>(0,0,0,0,0)
 |.ask s a0 a1 a2 a3=>(s,a0,a1,a2,a3)
def GrR.m (x:GrR):TxM:=⟨grT x.g.body,x.wa,x.wc⟩
def qbj (x:GrR):List Value:=U x.g.tj::(txC x.m++[U (grA x.g.body).1,U (grA x.g.body).2.1,U (grA x.g.body).2.2.1,U (grA x.g.body).2.2.2.1,U (grA x.g.body).2.2.2.2])
def qcm (l:List GrR):List Value:=l.flatMap qbj
theorem qdc (x:GrR):(qbj x).length=15:=rfl
theorem quf (l:List GrR):(qcm l).length=l.length*15:=by
 induction l with
 |nil=>rfl
 |cons x l ih=>
  show (qbj x++qcm l).length=_;rw[jcl,ih,qdc];simp;omega
theorem q1k (l:List GrR) (x:GrR):qcm (l++[x])=qcm l++qbj x:=by simp[qcm]
theorem qyc:∀{l:List GrR} {i r:Nat} {x:GrR} {u:Value},l[i]?=some x->(qbj x)[r]?=some u->(qcm l)[i*15+r]?=some u
 |[],i,r,x,u,h,_=>by simp at h
 |y::l,0,r,x,u,h,hu=>by
  have e:y=x:=by simpa using h
  subst e
  have a:r<15:=by have:=(jck.1 hu).1;rw[qdc]at this;exact this
  show (qbj y++qcm l)[_]?=_;rw[Nat.zero_mul,Nat.zero_add,jc3 (by rw[qdc];exact a)];exact hu
 |y::l,i+1,r,x,u,h,hu=>by
  have c:l[i]?=some x:=by simpa using h
  show (qbj y++qcm l)[_]?=_;rw[jc0 (by rw[qdc];omega),qdc,show (i+1)*15+r-15=i*15+r by omega];exact qyc c hu
structure GrR.Ok (w:World) (n:Nat) (F:Nat->Nat->Option Obj) (x:GrR):Prop where
 wi:qr w x.m.wa x.m.wc x.m.t.ws
 fr:∀k,x.m.blk k->∃i o,i<n/\F i k=some o
 none:∀s a0 a1 a2 a3,x.g.body=.ask s a0 a1 a2 a3->x.wa=none/\x.wc=0
structure RoM where
 sv:Value
 wv:Value
 cv:Value
 av:Value
 yv:Value
 bp:Nat->Nat
 bs:Nat->Nat
 F:Nat->Nat->Option Obj
 l:List GrR
def vx (b:Nat) (M:RoM):List (Option Nat):=[some b,M.sv.ownBlock,M.wv.ownBlock,M.cv.ownBlock,M.av.ownBlock,M.yv.ownBlock]
def ql (b:Nat) (M:RoM) (k:Nat):Prop:=some k∈vx b M
def qdm (M:RoM) (W:WoS):Nat->qfr:=λi=>if i<W.n then qek (M.bp i) (M.F i) (W.S i)else qjd (M.bs (i-W.n)) (W.ses (i-W.n))
structure RWo (w:World) (b:Nat) (M:RoM) (W:WoS) (Gs:Nat->Nat->Prop):Prop where
 box:qd w b [M.sv,M.wv,M.cv,M.av,M.yv,U W.lost]
 sr:w.ownsRow 0 75 1 M.sv W.n (qgn M.bp W.n)
 wr:w.ownsRow 0 3 1 M.wv W.n (qdw W.wall W.n)
 cr:w.ownsRow 0 87 1 M.cv W.c (qgn M.bs W.c)
 ar:w.ownsRow 0 3 1 M.av W.c (qdw (λk=>(W.at_ k:Int)) W.c)
 yr:w.ownsRow 0 108 15 M.yv M.l.length (qcm M.l)
 nl:M.l.map (·.g)=W.net
 gr:∀x∈M.l,x.Ok w W.n M.F
 fam:zh w (W.n+W.c) (qdm M W) Gs (ql b M) (W.n+W.c) NoY
 ap:(vx b M).Pairwise (λx y=>∀k,x=some k->y≠some k)
variable {k:Nat} {G:Nat->Prop} {F:Nat->Option Obj} {S:qe} {o:Obj} {F':Nat->Nat->Option Obj} {x:GrR}
section
variable {w w':World} {b:Nat} {M:RoM} {W:WoS} {Gs:Nat->Nat->Prop}
theorem RWo.site (h:RWo w b M W Gs) (hi:i<W.n):RS w (M.bp i) (Gs i) (M.F i) (W.S i):=by
 have:=h.fam.is i (by omega);unfold qdm at this;rw[if_pos hi]at this;exact this
theorem RWo.sess (h:RWo w b M W Gs) (a:k<W.c):RSe w (M.bs k) (Gs (W.n+k)) (W.ses k):=by
 have:=h.fam.is (W.n+k) (by omega);unfold qdm at this;rw[if_neg (by omega),show W.n+k-W.n=k by omega]at this;exact this
theorem RS.frozen (h:RS w b G F S) (e:F k=some o):w.heap[k]?=some o:=by
 obtain⟨_,_,_,_,_,_,_,_,_,a⟩:=h;exact(a k o e).1
theorem RS.frozenG (h:RS w b G F S) (e:F k=some o):G k:=by
 obtain⟨_,_,_,log,_,_,_,_,a,c⟩:=h;obtain⟨_,m,d,f⟩:=c k o e;exact(a k).2 (.inr ⟨m,jcf.2 (.inl d),f⟩)
theorem GrR.Ok.tj {F:Nat->Nat->Option Obj} (h:x.Ok w n F) (c:∀i k o,i<n->F i k=some o->F' i k=some o/\w.heap[k]?=some o/\w'.heap[k]?=some o):x.Ok w' n F':=by
 refine⟨h.wi.kept (m:=x.m) (λk e=>?_),λk e=>?_,h.none⟩
 ·obtain⟨i,o,hi,a⟩:=h.fr k e;have:=c i k o hi a;rw[this.2.1,this.2.2]
 obtain⟨i,o,hi,a⟩:=h.fr k e;exact⟨i,o,hi,(c i k o hi a).1⟩
theorem RWo.keep (h:RWo w b M W Gs) {W':WoS} {l:Nat->Nat->Prop} (a:jg (ql b M) w w') (m:zh w' (W.n+W.c) (qdm {M with F:=F'} W') l (ql b M) (W.n+W.c) NoY) (p:∀i k o,i<W.n->M.F i k=some o->F' i k=some o) (f:W'.n=W.n) (j:W'.c=W.c) (r:W'.wall=W.wall) (s:W'.at_=W.at_) (t:W'.net=W.net) (u:W'.lost=W.lost):RWo w' b {M with F:=F'} W' l:=by
 have d:∀{x:Option Nat},x∈vx b M->∀k,x=some k->ql b M k:=λg k e=>by rw[e]at g;exact g
 refine⟨?_,?_,?_,?_,?_,qf h.yr (λk e=>a.block k (d (x:=M.yv.ownBlock) (by simp[vx]) k e)),by rw[t];exact h.nl,λx g=>?_,by rw[f,j];exact m,h.ap⟩
 ·rw[u];exact h.box.keeps a (d (x:=some b) (by simp[vx]) b rfl)
 ·rw[f];exact qf h.sr (λk e=>a.block k (d (x:=M.sv.ownBlock) (by simp[vx]) k e))
 ·rw[f,r];exact qf h.wr (λk e=>a.block k (d (x:=M.wv.ownBlock) (by simp[vx]) k e))
 ·rw[j];exact qf h.cr (λk e=>a.block k (d (x:=M.cv.ownBlock) (by simp[vx]) k e))
 ·rw[j,s];exact qf h.ar (λk e=>a.block k (d (x:=M.av.ownBlock) (by simp[vx]) k e))
 rw[f];refine(h.gr x g).tj (λi k o hi e=>⟨p i k o hi e,(h.site hi).frozen e,?_⟩);have q:=m.is i (by omega);unfold qdm at q;rw[if_pos (by rw[f];exact hi)]at q;exact RS.frozen q (p i k o hi e)
end
def qg6 (b:Nat) (M:RoM) (N:Nat) (Gs:Nat->Nat->Prop) (k:Nat):Prop:=ql b M k\/∃i,i<N/\Gs i k
def RW (w:World) (b:Nat) (G:Nat->Prop) (W:WoS):Prop:=∃M Gs,RWo w b M W Gs/\∀k,G k↔qg6 b M (W.n+W.c) Gs k
section
variable {w w':World} {b:Nat} {G:Nat->Prop} {M:RoM} {W:WoS} {Gs:Nat->Nat->Prop}
theorem RWo.ltF (h:RWo w b M W Gs):∀k,ql b M k->k<w.heap.size:=λk a=>(h.fam.free k a).1
theorem RWo.ltG (h:RWo w b M W Gs) (hi:i<W.n+W.c) (a:Gs i k):k<w.heap.size:=(qdm M W i).lt _ _ (h.fam.is i hi) k a
theorem RW.lt (h:RW w b G W):∀k,G k->k<w.heap.size:=by
 obtain⟨M,Gs,h,a⟩:=h;intro k c;rcases(a k).1 c with q|⟨i,hi,q⟩
 ·exact h.ltF k q
 exact h.ltG hi q
theorem RW.kept (h:RW w b G W) (f:∀k,G k->w'.heap[k]?=w.heap[k]?) (g:w.heap.size<=w'.heap.size):RW w' b G W:=by
 obtain⟨M,Gs,h,c⟩:=h;have l:=λk q=>f k ((c k).2 (.inl q))
 have a:∀{x:Option Nat},x∈vx b M->∀k,x=some k->w'.heap[k]?=w.heap[k]?:=λd k e=>by rw[e]at d;exact l k d
 refine⟨M,Gs,⟨h.box.kept (l b (by simp[ql,vx])) g,qf h.sr (a (by simp[vx])),qf h.wr (a (by simp[vx])),qf h.cr (a (by simp[vx])),qf h.ar (a (by simp[vx])),qf h.yr (a (by simp[vx])),h.nl,λx d=>(h.gr x d).tj (λi k o hi e=>?_),h.fam.tj (λj k m e=>f k ((c k).2 (.inr ⟨j,m,e⟩))) g (λk e=>⟨.inl e,jci (h.ltF k e) g⟩),h.ap⟩,c⟩;have:=(h.site hi).frozen e;exact⟨e,this,(f k ((c k).2 (.inr ⟨i,by omega,(h.site hi).frozenG e⟩))).trans this⟩
theorem RW.later (h:RW w b G W) (a:Bw w w'):RW w' b G W:=h.kept (λk c=>a.block k (h.lt k c)) a.size
end
def roP (b:Nat) (W:WoS):qfr:=⟨λw G=>RW w b G W,λ_ _ h=>h.lt,λ_ _ _ h=>h.kept⟩
def qae (w:World) (b:Nat) (G:Nat->Prop) (W':WoS) (w':World):Prop:=qbi (roP b W') w G w'
section
variable {w w':World} {b:Nat} {G:Nat->Prop} {M:RoM} {W:WoS} {Gs:Nat->Nat->Prop}
theorem qae.same (h:RW w b G W) (a:Bw w w'):qae w b G W w':=⟨G,h.later a,λ_ c=>.inl c,qc.ofBelow a⟩
theorem RWo.stepS (h:RWo w b M W Gs) (d:∀k,G k↔qg6 b M (W.n+W.c) Gs k) (hi:i<W.n) {S':qe} (t:RPo w (M.bp i) (Gs i) (M.F i) S' w'):qae w b G (setSite W i S') w':=by
 obtain⟨m,f,g,u,a⟩:=h.fam.stepG (ps':=qdm M (setSite W i S')) (i:=i) (by omega) (p:=qek (M.bp i) (M.F i) S') t (by show (if i<W.n then _ else _)=_;rw[if_pos hi];show qek (M.bp i) (M.F i) (jj W.S i S' i)=_;rw[qt]) (λj s v=>by
  show (if j<W.n then qek (M.bp j) (M.F j) (jj W.S i S' j)else _)=(if j<W.n then _ else _);rw[yq _ _ v]
  rfl)
 refine⟨qg6 b M (W.n+W.c) m,⟨M,m,h.keep (F':=M.F) u f (λ_ _ _ _ e=>e) rfl rfl rfl rfl rfl rfl,λ_=>jdl⟩,λk l=>?_,⟨a.os,a.tape,a.output,a.size,λk l y=>a.block k l (λe=>y ((d k).2 (.inr ⟨i,by omega,e⟩)))⟩⟩;rcases l with q|⟨j,s,q⟩
 ·exact .inl ((d k).2 (.inl q))
 rcases g j k q with r|r
 ·exact .inl ((d k).2 (.inr ⟨j,s,r⟩))
 exact .inr r
theorem RWo.stepC (h:RWo w b M W Gs) (l:∀k,G k↔qg6 b M (W.n+W.c) Gs k) (hi:i<W.c) {a:qy} (u:qbi (qjd (M.bs i) a) w (Gs (W.n+i)) w'):qae w b G (vf W i a) w':=by
 obtain⟨s,f,g,v,d⟩:=h.fam.stepG (ps':=qdm M (vf W i a)) (i:=W.n+i) (by omega) (p:=qjd (M.bs i) a) u (by show (if W.n+i<W.n then _ else _)=_;rw[if_neg (by omega)];show qjd (M.bs (W.n+i-W.n)) (jj W.ses i a (W.n+i-W.n))=_;rw[show W.n+i-W.n=i by omega,qt]) (λj t z=>by
  show (if j<W.n then _ else qjd (M.bs (j-W.n)) (jj W.ses i a (j-W.n)))=(if j<W.n then _ else _);by_cases q:j<W.n
  ·rw[if_pos q,if_pos q];rfl
  rw[if_neg q,if_neg q,yq _ _ (by omega)])
 refine⟨qg6 b M (W.n+W.c) s,⟨M,s,h.keep (F':=M.F) v f (λ_ _ _ _ e=>e) rfl rfl rfl rfl rfl rfl,λ_=>jdl⟩,λk m=>?_,⟨d.os,d.tape,d.output,d.size,λk m y=>d.block k m (λe=>y ((l k).2 (.inr ⟨W.n+i,by omega,e⟩)))⟩⟩;rcases m with q|⟨j,t,q⟩
 ·exact .inl ((l k).2 (.inl q))
 rcases g j k q with r|r
 ·exact .inl ((l k).2 (.inr ⟨j,t,r⟩))
 exact .inr r
end
end
section
theorem qqh (x:GrR):∀u∈qbj x,u.oneCell'=true:=by
 intro u a;rcases jdd.1 a with rfl|a
 ·rfl
 rcases jcf.1 a with q|q
 ·exact qih _ u q
 simp at q
 rcases q with rfl|rfl|rfl|rfl|rfl<;>rfl
theorem qra:(Tryz.prog.info? 108).map (λi=>(i.zero,i.size,i.bytes))=some (some (.agg #[U 0,U 0,U 0,U 0,U 0,U 0,U 0,U 0,U 0,.slice none 0 0,U 0,U 0,U 0,U 0,U 0]),15,136):=by kernel_rfl
section
variable {w w':World} {b:Nat} {G:Nat->Prop} {M:RoM} {W:WoS} {Gs:Nat->Nat->Prop}
theorem RWo.apY (h:RWo w b M W Gs):M.yv.ownBlock≠some b:=(jdv.1 h.ap).1 M.yv.ownBlock (by simp) b rfl
theorem RWo.mid (h:RWo w b M W Gs) {x:Option Nat} (a:x∈[M.sv.ownBlock,M.wv.ownBlock,M.cv.ownBlock,M.av.ownBlock]) {k:Nat} (e:x=some k):k<w.heap.size/\k≠b/\M.yv.ownBlock≠some k:=by
 have c:=(jdv.1 h.ap).1 x (List.mem_append_left [M.yv.ownBlock] a);have d:=(List.pairwise_append (l₁:=[M.sv.ownBlock,M.wv.ownBlock,M.cv.ownBlock,M.av.ownBlock]) (l₂:=[M.yv.ownBlock])).1 (jdv.1 h.ap).2;exact⟨h.ltF k (by show some k∈some b::([M.sv.ownBlock,M.wv.ownBlock,M.cv.ownBlock,M.av.ownBlock]++[M.yv.ownBlock]);rw[<-e];exact jdc _ (List.mem_append_left _ a)),λq=>c b rfl (by rw[e,q]),d.2.2 x a _ (by simp) k e⟩
theorem RWo.reway (h:RWo w b M W Gs) {a:Value} {c:List GrR} {p:List GrS} {s:Int} (d:∀k,k<w.heap.size->k≠b->M.yv.ownBlock≠some k->w'.heap[k]?=w.heap[k]?) (t:w.heap.size<=w'.heap.size)
 (C:qd w' b [M.sv,M.wv,M.cv,M.av,a,U s]) (u:w'.ownsRow 0 108 15 a c.length (qcm c)) (v:∀k,a.ownBlock=some k->M.yv.ownBlock=some k\/w.heap.size<=k) (D:c.map (·.g)=p) (f:∀x∈c,x∈M.l\/x.Ok w W.n M.F):
 RWo w' b {M with yv:=a,l:=c} {W with net:=p,lost:=s} Gs:=by
 have J:=h.box.lt;have z:=λj k m e=>d k (h.ltG m e) (λq=>(h.fam.free k (by rw[q];simp[ql,vx])).2 j m e) (λq=>(h.fam.free k (by unfold ql vx;rw[q];simp)).2 j m e);refine⟨C,qf h.sr (λk e=>?_),qf h.wr (λk e=>?_),qf h.cr (λk e=>?_),qf h.ar (λk e=>?_),u,D,λx E=>?_,?_,?_⟩
 ·have:=h.mid (by simp) e;exact d k this.1 this.2.1 this.2.2
 ·have:=h.mid (x:=M.wv.ownBlock) (by simp) e;exact d k this.1 this.2.1 this.2.2
 ·have:=h.mid (x:=M.cv.ownBlock) (by simp) e;exact d k this.1 this.2.1 this.2.2
 ·have:=h.mid (x:=M.av.ownBlock) (by simp) e;exact d k this.1 this.2.1 this.2.2
 ·have H:=(f x E).elim (h.gr x) id;exact H.tj (λi k o hi e=>⟨e,(h.site hi).frozen e,(z i k (by omega) ((h.site hi).frozenG e)).trans ((h.site hi).frozen e)⟩)
 ·refine h.fam.tj (X':=ql b {M with yv:=a,l:=c}) z t (λk e=>?_);have e:some k∈[some b,M.sv.ownBlock,M.wv.ownBlock,M.cv.ownBlock,M.av.ownBlock]++[a.ownBlock]:=e;rcases jcf.1 e with q|q
  ·have:ql b M k:=List.mem_append_left [M.yv.ownBlock] q;exact⟨.inl this,jci (h.ltF k this) t⟩
  have q:=(jcj.1 q).symm;refine⟨?_,(u.lt k q).2⟩;rcases v k q with r|r
  ·exact .inl (by unfold ql vx;rw[r];simp)
  exact .inr r
 have A:=(List.pairwise_append (l₁:=[some b,M.sv.ownBlock,M.wv.ownBlock,M.cv.ownBlock,M.av.ownBlock]) (l₂:=[M.yv.ownBlock])).1 h.ap;refine(List.pairwise_append (l₁:=[some b,M.sv.ownBlock,M.wv.ownBlock,M.cv.ownBlock,M.av.ownBlock]) (l₂:=[a.ownBlock])).2 ⟨A.1,List.pairwise_singleton _ _,λx f y I k e B=>?_⟩;rw[jcj.1 I]at B;rcases v k B with r|r
 ·exact A.2.2 x f _ (jcj.2 rfl) k e r
 have:ql b M k:=by rw[e]at f;exact List.mem_append_left [M.yv.ownBlock] f
 have:=h.ltF k this;omega
theorem RWo.later (h:RWo w b M W Gs) (a:Bw w w'):RWo w' b M W Gs:=
 h.reway (λk c _ _=>a.block k c) a.size (h.box.later a) (qf h.yr (λk e=>a.block k (h.yr.lt k e).2)) (λ_ e=>.inl e) h.nl (λ_ d=>.inl d)
theorem RWo.lostBox (h:RWo w b M W Gs) (a:Bw w w') (x:Int):RWo (w'.setCell (AD b 5) (U x)) b M {W with lost:=x} Gs:=by
 have d:∀k,k<w.heap.size->k≠b->(w'.setCell (AD b 5) (U x)).heap[k]?=w.heap[k]?:=λk c f=>(jce _ _ _ _ (λe=>f e)).trans (a.block k c);exact h.reway (λk c g _=>d k c g) (by have:=a.size;simpa[World.setCell]using this) ((h.box.later a).set 5 _ (by simp)) (qf h.yr (λk e=>d k (h.yr.lt k e).2 (λq=>h.apY (by rw[e,q])))) (λ_ e=>.inl e) h.nl (λ_ i=>.inl i)
def qc5 (w:World) (b:Nat) (M:RoM) (Gs:Nat->Nat->Prop) (W':WoS) (w':World):Prop:=
 ∃yv' l',RWo w' b {M with yv:=yv',l:=l'} W' Gs/\(∀k,yv'.ownBlock=some k->M.yv.ownBlock=some k\/w.heap.size<=k)/\qc (λk=>k=b\/M.yv.ownBlock=some k) w w'
theorem qc5.none (h:RWo w b M W Gs) (a:Bw w w'):qc5 w b M Gs W w':=⟨M.yv,M.l,h.later a,λ_ e=>.inl e,qc.ofBelow a⟩
theorem qc5.post {W':WoS} (h:qc5 w b M Gs W' w') (d:∀k,G k↔qg6 b M (W.n+W.c) Gs k) (j:W'.n=W.n) (l:W'.c=W.c):qae w b G W' w':=by
 obtain⟨m,u,o,p,a⟩:=h
 have s:ql b M b:=by simp[ql,vx]
 have g:∀k,M.yv.ownBlock=some k->ql b M k:=λk e=>by unfold ql vx;rw[e];simp
 refine⟨_,⟨_,Gs,o,λ_=>jdl⟩,λk f=>?_,⟨a.os,a.tape,a.output,a.size,λk f t=>a.block k f (λe=>t ((d k).2 (.inl (e.elim (λq=>by rw[q];exact s) (g k)))))⟩⟩;rw[j,l]at f;rcases f with e|⟨i,hi,e⟩
 ·have e:some k∈[some b,M.sv.ownBlock,M.wv.ownBlock,M.cv.ownBlock,M.av.ownBlock]++[m.ownBlock]:=e;rcases jcf.1 e with q|q
  ·exact .inl ((d k).2 (.inl (List.mem_append_left [M.yv.ownBlock] q)))
  rcases p k (jcj.1 q).symm with r|r
  ·exact .inl ((d k).2 (.inl (g k r)))
  exact .inr r
 exact .inl ((d k).2 (.inr ⟨i,hi,e⟩))
end
end
theorem qlu {b:Nat} {M:RoM} {W:WoS} {Z:Nat->Nat->Prop} (w:World) (h:RWo w b M W Z) (x:GrR) (O:x.Ok w W.n M.F) {i j m o p s t v z B C D E G:Int} {a:Option Addr} {n c:Nat} (K:qbj x=[U i,U j,U m,U o,U p,U s,U t,U v,U z,.slice a n c,U B,U C,U D,U E,U G]):
 Ca 82 #[PP b,.agg #[U i,U j,U m,U o,U p,U s,U t,U v,U z,.slice a n c,U B,U C,U D,U E,U G]] w λe w'=>e=.returned (.tuple #[])/\qc5 w b M Z (zk W x.g) w':=by
 have I:=hd3 h O K
 have aa:M.l.length=W.net.length:=by rw[<-h.nl];simp
 obtain⟨na,nc,L,r⟩:=qq h.yr;have hlt:=h.box.lt;have P:=boxed (jcc _ w) (.cells #[U i,U j,U m,U o,U p,U s,U t,U v,U z,.slice a n c,U B,U C,U D,U E,U G] 108);have J:=h.box.later P;rw[L]at J;have c4:=J.c 4;have c5:=J.c 5;have f4:=J.f 4;have f5:=J.f 5;by_cases N:300<=W.net.length
 ·have q:300<=(M.l.length:Int):=by omega
  have Q:Hid (zk W x.g={W with lost:=wrap64 (W.lost+1)}):=if_pos N;clear h O K r aa N;go_enter Tryz.func82,Tryz.ntmps82
  go_wp2_with fail
  go_end0;refine⟨rfl,?_⟩;rw[Q.out];exact⟨M.yv,M.l,(I.out.1.lostBox (jcc _ w) (wrap64 (W.lost+1))).later (boxed (jcc _ _) _),λ_ e=>.inl e,(qc.setCell _ _ _ (.inl rfl)).trans (qc.ofBelow (boxed (jcc _ _) _))⟩
 have q:¬300<=(M.l.length:Int):=by omega
 have Q:Hid (zk W x.g={W with net:=W.net++[x.g]}):=if_neg N
 have HL:Hid (M.l.length<300):=by show _<_;omega
 obtain⟨i0,hi,hz0,hz1,hz2⟩:=info_parts qra;have hb2:=(boxed P.drew (.cells #[U i,U j,U m,U o,U p,U s,U t,U v,U z,.slice a n c,U B,U C,U D,U E,U G] 108));have own1:=qf h.yr (λk e=>P.drew.block k (h.yr.lt k e).2);rw[L]at own1;have R:=hd1 L;have HSB:=hd1 h.apY
 have one:∀u∈([U i,U j,U m,U o,U p,U s,U t,U v,U z,.slice a n c,U B,U C,U D,U E,U G]:List Value),u.oneCell'=true:=by rw[<-K];exact qqh x
 have d:=qd.new (w:=w) (T:=108) [U i,U j,U m,U o,U p,U s,U t,U v,U z,.slice a n c,U B,U C,U D,U E,U G] rfl;change qd (w.alloc (.cells #[U i,U j,U m,U o,U p,U s,U t,U v,U z,.slice a n c,U B,U C,U D,U E,U G] 108)) w.heap.size [U i,U j,U m,U o,U p,U s,U t,U v,U z,.slice a n c,U B,U C,U D,U E,U G]at d;have g0:=d.c 0;have k0:=d.f 0;have g1:=d.c 1;have k1:=d.f 1;have g2:=d.c 2;have k2:=d.f 2;have g3:=d.c 3;have k3:=d.f 3;have g4:=d.c 4;have k4:=d.f 4;have g5:=d.c 5;have k5:=d.f 5;have g6:=d.c 6;have k6:=d.f 6;have g7:=d.c 7;have k7:=d.f 7;have g8:=d.c 8;have k8:=d.f 8;have H:=d.c 9;have k9:=d.f 9;have g10:=d.c 10;have k10:=d.f 10;have g11:=d.c 11;have k11:=d.f 11;have g12:=d.c 12;have k12:=d.f 12;have g13:=d.c 13;have k13:=d.f 13;have g14:=d.c 14;have k14:=d.f 14;clear h O K r aa N L d;go_enter Tryz.func82,Tryz.ntmps82
 go_wp2_with fail
 go_region_law (refine step_append_lies _ rfl (.tmp 21) (.tmp 23) 72 rfl 0 108 i0 (.agg #[U 0,U 0,U 0,U 0,U 0,U 0,U 0,U 0,U 0,.slice none 0 0,U 0,U 0,U 0,U 0,U 0]) 15 136 Tryz.underlying72 hi hz0 hz1 hz2 rfl (by decide) (.slice na M.l.length nc) M.l.length (qcm M.l) (by simp[Act.eval]) (own1.alloc _) (AD (w.heap.size+1) 0) 1 1 [U i,U j,U m,U o,U p,U s,U t,U v,U z,.slice a n c,U B,U C,U D,U E,U G] (by simp[Act.eval]) rfl (qpn _ _ (by simp) [U i,U j,U m,U o,U p,U s,U t,U v,U z,.slice a n c,U B,U C,U D,U E,U G] 108) one (by decide) (by have:=HL.out;simp only[maxLen];omega) (by have:=HL.out;omega) (by omega) _ rfl ?_
                intro H S wE ownE grE egE ltE;have V:qd wE b _:=(J.later (boxed (jcc _ _) _).drew).grown grE (λe=>HSB.out (by rw[R.out];exact e.symm));have e4:=V.c 4
                have f4E:=V.f 4)
 all_goals
  go_wp2_with fail
  go_end0;refine⟨rfl,?_⟩;rw[Q.out];have X:=((qc.ofBelow hb2).trans (qc.grown (F:=λk=>k=b\/M.yv.ownBlock=some k) grE (λk e=>.inr (by rw[R.out];exact e)))).trans (qc.setCell wE (AD b 4) (.slice (PT H) (M.l.length+1) S) (.inl rfl))
  have Y:∀k,(Value.slice (PT H) (M.l.length+1) S).ownBlock=some k->M.yv.ownBlock=some k\/w.heap.size<=k:=λk e=>by
   rw[R.out];have e':H=k:=jcu e;subst e';rcases egE with e|e
   ·exact .inl e
   exact .inr (by rw[e];simp;omega)
  have gb:H≠b:=λe=>by
   rcases Y H rfl with q|q
   ·exact HSB.out (by rw[q,e])
   have:=I.out.1.box.lt;omega
  refine⟨.slice (PT H) (M.l.length+1) S,M.l++[x],I.out.1.reway (λk hk h1 h2=>X.block k hk (λq=>q.elim h1 h2)) X.size ?_ ?_ Y (by rw[jdb,I.out.1.nl];rfl) (λy hy=>(jcf.1 hy).imp id (λq=>by rw[jcj.1 q];exact I.out.2.1)),Y,X⟩
  ·exact V.set 4 _ (by simp)
  rw[q1k,jcl,I.out.2.2];exact qf ownE (λk e=>jce _ _ _ _ (λq=>gb ((jcu e).trans q)))
section
variable {i:Nat} {G:Nat->Prop}
section
variable {w:World} {b:Nat} {M:RoM} {W:WoS} {Gs:Nat->Nat->Prop}
theorem RWo.sitesAt (h:RWo w b M W Gs) (hi:i<W.n):∃g cap,w.cell? (AD b 0)=some (.slice (PT g) W.n cap)/\W.n<=cap/\g<w.heap.size/\∀j,j<W.n->w.cell? (AD g j)=some (PP (M.bp j)):=by
 obtain⟨a,cap,d,r⟩:=qq h.sr;rcases r.held with l|⟨g,rfl,e,f⟩
 ·omega
 exact⟨g,cap,by have:=h.box.c 0;rw[d]at this;exact this,r.len,e,λj k=>f j _ (qn4 k)⟩
theorem RS.applied {F:Nat->Option Obj} {S:qe} (h:RS w b G F S):w.cell? (AD b 1)=some (U S.a0)/\w.cell? (AD b 2)=some (U S.a1)/\w.cell? (AD b 3)=some (U S.a2)/\w.cell? (AD b 4)=some (U S.a3)/\b<w.heap.size:=by
 obtain⟨_,_,_,_,_,a,_⟩:=h;exact⟨a.box.c 1,a.box.c 2,a.box.c 3,a.box.c 4,a.box.lt⟩
end
variable {b:Nat} {W:WoS}
theorem q5z (w:World) (h:RW w b G W) {o:Nat} (hi:i<W.n):
 Ca 36 #[PP b,U i,U o] w λe w'=>e=.returned (.tuple #[])/\qae w b G (qme W i o) w':=by
 obtain⟨M,Gs,h,d⟩:=h;obtain⟨g,cap,q,r,s,f⟩:=h.sitesAt hi;have t:=f i hi;obtain⟨a0,a1,a2,a3,u⟩:=(h.site hi).applied
 have v:(i:Int)<(W.n:Int):=by omega
 have x:=h.box.lt;have j:=qlu w h ⟨⟨o,.ask i (W.S i).a0 (W.S i).a1 (W.S i).a2 (W.S i).a3⟩,none,0⟩ ⟨⟨jcd _,jcw _,.inl rfl⟩,λk l=>absurd rfl l.1,λ_ _ _ _ _ _=>⟨rfl,rfl⟩⟩ rfl;have m:=hd1 d;go_enter Tryz.func36,Tryz.ntmps36
 go_wp2_with fail
 refine j.mono ?_;rintro e y ⟨rfl,p⟩
 go_wp2_with fail
 go_end0;have a:=yb W ⟨o,.ask i (W.S i).a0 (W.S i).a1 (W.S i).a2 (W.S i).a3⟩;exact⟨rfl,p.post (W:=W) m.out a.n a.c⟩
theorem q4u (w:World) (h:RW w b G W) {g:GrS} (hi:W.net[i]?=some g):
 Ca 39 #[PP b,U i] w λe w'=>e=.returned (.tuple #[])/\qae w b G (zk W g) w':=by
 obtain⟨M,Gs,h,m⟩:=h
 have E:M.l.length=W.net.length:=by rw[<-h.nl];simp
 have o:i<M.l.length:=by have:=(jck.1 hi).1;omega
 obtain⟨x,d⟩:∃x,M.l[i]?=some x:=⟨_,jcg o⟩
 have p:x.g=g:=by
  have:=hi;rw[<-h.nl,jcv,d]at this;exact jcu this
 subst p;have q:=jcq d;obtain⟨s,F,t,r⟩:=qq h.yr
 obtain⟨v,rfl,H,y⟩:∃g,s=some (AD g 0)/\g<w.heap.size/\∀j u,(qcm M.l)[j]?=some u->w.cell? (AD g j)=some u:=by
  rcases r.held with f|f
  ·omega
  exact f
 have z:=h.box.c 4;rw[t]at z;have a:=λr u (hu:(qbj x)[r]?=some u)=>y _ _ (qyc d hu);have x0:w.cell? (AD v (i*15))=some (U x.g.tj):=a 0 _ rfl;have x1:=a 1 _ rfl;have x2:=a 2 _ rfl;have x3:=a 3 _ rfl;have I:=a 4 _ rfl;have J:=a 5 _ rfl;have K:=a 6 _ rfl;have L:=a 7 _ rfl;have N:=a 8 _ rfl;have O:=a 9 _ rfl;have P:=a 10 _ rfl;have Q:=a 11 _ rfl;have R:=a 12 _ rfl;have S:=a 13 _ rfl;have T:=a 14 _ rfl;have B:=qlu w h x (h.gr x q) rfl;have C:=hd1 m;have V:=h.box.lt
 have X:(i:Int)<(M.l.length:Int):=by omega
 have Y:=r.len;go_enter Tryz.func39,Tryz.ntmps39
 go_wp2_with fail
 refine B.mono ?_;rintro e Z ⟨rfl,D⟩
 go_wp2_with fail
 go_end0;have k:=yb W x.g;exact⟨rfl,D.post (W:=W) C.out k.n k.c⟩
end
section
structure qhz (w:World) (a:Option Addr) (cap:Nat) (l:List GrR):Prop where
 len:l.length<=cap
 cap:cap<=9223372036854775807
 held:l=[]\/∃b off,a=some (AD b off)/\∀i m r u,l[i]?=some m->(qbj m)[r]?=some u->w.cell? (AD b (off+(i*15+r)))=some u
variable {w:World} {a:Option Addr} {l:List GrR}
theorem qhz.later {w':World} {cap:Nat} (d:Bw w w') (h:qhz w a cap l):qhz w' a cap l:=
 ⟨h.len,h.cap,h.held.elim .inl λ⟨b,f,e,c⟩=>.inr ⟨b,f,e,λi m r u hi j=>cell_later d (c i m r u hi j)⟩⟩
theorem q1n {B:Nat} {T:TypeId} {v:Value} (h:w.ownsRow B T 15 v l.length (qcm l)):∃a cap,v=.slice a l.length cap/\qhz w a cap l:=by
 rcases h.2 with ⟨rfl,b⟩|⟨g,cap,cur,rfl,k,o,e,f,p,q⟩
 ·exact⟨none,0,by rw[b],⟨by omega,by omega,.inl (jc2 b)⟩⟩
 refine⟨_,cap,rfl,⟨e,by simp only[maxLen]at f;omega,.inr ⟨g,0,rfl,λi m r u hi j=>?_⟩⟩⟩;have d:=h.cells (g:=g) rfl _ _ (qyc hi j);rw[qal]at d;rw[Nat.zero_add];exact d
theorem q5y (l:List GrR):∀u∈qcm l,u.oneCell'=true:=by
 intro u b;obtain⟨x,_,d⟩:=List.mem_flatMap.1 b;exact qqh x u d
theorem qv0:∀(l:List GrR) (j:Nat) (u:Value),(qcm l)[j]?=some u->∃m,l[j/15]?=some m/\(qbj m)[j%15]?=some u
 |[],j,u,h=>by simp[qcm]at h
 |x::l,j,u,h=>by
  have e:qcm (x::l)=qbj x++qcm l:=rfl;rw[e]at h;have b:(qbj x).length=15:=rfl;by_cases d:j<15
  ·rw[jc3 (by rw[b];exact d)]at h;exact⟨x,by rw[Nat.div_eq_of_lt d];rfl,by rw[Nat.mod_eq_of_lt d];exact h⟩
  rw[jc0 (by rw[b];omega),b]at h;obtain⟨m,f,i⟩:=qv0 l (j-15) u h;refine⟨m,?_,?_⟩
  ·rw[show j/15=(j-15)/15+1 by omega];simpa using f
  rw[show j%15=(j-15)%15 by omega];exact i
variable {wb:Nat}
theorem q41 {b:Nat} (h:∀i m r u,l[i]?=some m->(qbj m)[r]?=some u->w.cell? (AD wb (b+(i*15+r)))=some u):∀j u,(qcm l)[j]?=some u->w.cell? (((AD wb b):Addr).add j)=some u:=λj u d=>by
 obtain⟨m,e,f⟩:=qv0 l j u d
 have k:((AD wb b):Addr).add j=(AD wb (b+j)):=by unfold Addr.add;split<;>simp_all
 rw[k];have:=h (j/15) m (j%15) u e f;rw[show j/15*15+j%15=j by omega]at this;exact this
theorem qmr (w:World) (b:TypeId) (g n cap c:Nat) (d:n<=cap):(Builtin.append_ #[72,72] b #[.slice (PT g) n cap,.slice none 0 c]).run Tryz.prog w=.ok (.slice (PT g) n cap) w:=by
 simp[Builtin.append_,go_sem,Builtin.lenOf,Builtin.firstCells,d]
variable {g n c:Nat} {xs:List Value}
theorem qpb (w:World) (f:TypeId) {cap:Nat} (b:w.ownsRow 0 108 15 (.slice (PT g) n cap) n xs) (m:qhz w a c l) (E:n+l.length<=2000):
 ∃g' d w',(Builtin.append_ #[72,72] f #[.slice (PT g) n cap,.slice a l.length c]).run Tryz.prog w=.ok (.slice (PT g') (n+l.length) d) w'/\
  w'.ownsRow 0 108 15 (.slice (PT g') (n+l.length) d) (n+l.length) (xs++qcm l)/\w.grownBy w' (some g)/\(g'=g\/g'=w.heap.size)/\g'<w'.heap.size:=by
 obtain⟨o,hi,p,q,r⟩:=info_parts qra;have s:=(b.lt g (by simp[Value.ownBlock])).2
 have t:n<=cap:=by
  rcases b.2 with ⟨h,_⟩|⟨F,G,cur,e,_,_,i,_⟩
  ·cases h
  injection e with _ _ e3;rw[e3];exact i
 cases a with
 |none=>
  have v:l=[]:=by
   rcases m.held with h|⟨_,_,h,_⟩
   ·exact h
   cases h
  subst v;refine⟨g,cap,w,qmr w f g n cap c t,?_,⟨rfl,rfl,rfl,jcd _,λ_ _ _=>rfl⟩,.inl rfl,s⟩;show w.ownsRow 0 _ 15 _ n (xs++[]);rw[jdx];exact b
 |some ad=>
  have x:∀j u,(qcm l)[j]?=some u->w.cell? (ad.add j)=some u:=by
   rcases m.held with h|⟨wb,H,h,y⟩
   ·subst h;intro j u z;simp[qcm]at z
   injection h with h;subst h;exact q41 y
  obtain⟨v',w',B,k,i,C,D⟩:=run_append_own_at (P:=Tryz.prog) w 0 72 f 108 o (.agg #[U 0,U 0,U 0,U 0,U 0,U 0,U 0,U 0,U 0,.slice none 0 0,U 0,U 0,U 0,U 0,U 0]) 15 136 Tryz.underlying72 hi p q r rfl (by decide) (.slice (PT g) n cap) n xs b ad l.length c (qcm l) (quf l) x (q5y l) (by simp only[maxLen];omega) (by omega) (jcw _);rcases k.2 with ⟨e,_⟩|⟨g',d,cur,rfl,_,_⟩
  ·have:=(C.1 e).1;cases this
  refine⟨g',d,w',B,k,i,?_,(k.lt g' (by simp[Value.ownBlock])).2⟩;rcases D with h|h
  ·exact .inl (by simpa[Value.ownBlock]using h)
  exact .inr (by simpa[Value.ownBlock]using h)
theorem qdk {d:Array Oper} {o:Oper} {a:Act} {K:Act->World->Prop} {Q:Exit->Act->World->Prop} {E:Prop} (w:World) (e:o.guard=none) (s x:Operand) (f:o.op=.call {callee:=.builtin .append,args:=#[s,x],argTypes:=#[72,72]})
 {cap:Nat} (i:a.eval s=.slice (PT g) n cap) (j:w.ownsRow 0 108 15 (.slice (PT g) n cap) n xs) {sa:Option Addr} (k:a.eval x=.slice sa l.length c) (m:qhz w sa c l) (p:n+l.length<=2000)
 (h:∀g' b w',w'.ownsRow 0 108 15 (.slice (PT g') (n+l.length) b) (n+l.length) (xs++qcm l)->w.grownBy w' (some g)->(g'=g\/g'=w.heap.size)->g'<w'.heap.size->K (a.put o.dst (.slice (PT g') (n+l.length) b)) w'):
 if Region.wanted o (yielded d a.tmps)=true then Oper.wp Tryz.prog o a w K Q else E:=by
 have q:Region.wanted o (yielded d a.tmps)=true:=by simp[Region.wanted,e]
 rw[if_pos q];obtain⟨g',b,w',r,t,u,v,y⟩:=qpb w o.type j m p;unfold Oper.wp execOp;simp only[f,resolve,invoke,builtin,Sem.run_bind,Sem.run_pure,Result.andThen_ok,List.map_toArray,List.map_cons,List.map_nil,i,k,r];exact h g' b w' t u v y
theorem qop (w:World) (T:TypeId) (b:w.heap.size=n):(w.alloc (.cells #[] T)).ownsRow 0 T 15 (.slice (PT n) 0 0) 0 []:=by
 subst b;exact⟨rfl,.inr ⟨w.heap.size,0,#[],rfl,jcw _,heap_alloc_new w (.cells #[] T),jcd _,by decide,rfl,rfl⟩⟩
theorem qhz.take {d:Nat} (h:qhz w (some (AD wb d)) c l) (k:Nat) (s:k<=l.length):qhz w (some (AD wb d)) c (l.take k):=by
 refine⟨by rw[jc5];have:=h.len;omega,h.cap,?_⟩;rcases h.held with f|⟨j,o,e,p⟩
 ·exact .inl (by rw[f];simp)
 refine .inr ⟨j,o,e,λi m r u b q=>p i m r u ?_ q⟩;rw[List.getElem?_take]at b;split at b
 ·exact b
 cases b
theorem qhz.drop {b:Nat} (h:qhz w (some (AD wb b)) c l) (k:Nat) (p:k<=l.length):qhz w (some (AD wb (b+k*15))) (c-k) (l.drop k):=by
 refine⟨by rw[jdt];have:=h.len;omega,by have:=h.cap;omega,?_⟩;rcases h.held with f|⟨q,s,e,j⟩
 ·exact .inl (by rw[f];simp)
 injection e with e;injection e with e1 e2;subst e1 e2;refine .inr ⟨_,_,rfl,λi m r u d o=>?_⟩;rw[List.getElem?_drop]at d;have:=j (k+i) m r u d o;rw[show b+k*15+(i*15+r)=b+((k+i)*15+r) by omega];exact this
theorem qwo (l b:List GrR):qcm (l++b)=qcm l++qcm b:=by simp[qcm]
end
section
def qgi (b:Nat):World->Nat->List Value->World
 |W,_,[]=>W
 |W,j,v::l=>qgi b (W.setCell (AD b j) v) (j+1) l
theorem qnb {b:Nat}:∀(l a rest:List Value) (W:World),qd W b (a++rest)->rest.length=l.length->qd (qgi b W a.length l) b (a++l)
 |[],a,rest,W,h,hl=>by
  have:rest=[]:=jc2 hl;subst this;exact h
 |v::l,a,[],W,h,hl=>by simp at hl
 |v::l,a,r::rest,W,h,hl=>by
  have c:=h.set a.length v (by simp)
  have e:(a++r::rest).set a.length v=a++v::rest:=by simp
  rw[e]at c;have:=qnb l (a++[v]) rest (W.setCell (AD b a.length) v) (by simpa using c) (by simpa using hl);simpa[qgi]using this
variable {b:Nat} {W:World}
theorem qyw {xs l:List Value} (h:qd W b xs) (a:xs.length=l.length):qd (qgi b W 0 l) b l:=qnb l [] xs W h a
theorem qf4 {k:Nat} (a:k≠b):∀(l:List Value) (j:Nat) (W:World),(qgi b W j l).heap[k]?=W.heap[k]?
 |[],_,_=>rfl
 |_::l,j,_=>(qf4 a l (j+1) _).trans (jce _ _ _ _ a)
theorem qjm {b:Nat}:∀(l:List Value) (j:Nat) (W:World),(qgi b W j l).os=W.os/\(qgi b W j l).tape=W.tape/\(qgi b W j l).output=W.output/\(qgi b W j l).heap.size=W.heap.size
 |[],_,_=>⟨rfl,rfl,rfl,rfl⟩
 |v::l,j,W=>by
  have h:=qjm (b:=b) l (j+1) (W.setCell (AD b j) v);exact⟨h.1,h.2.1,h.2.2.1,h.2.2.2.trans (by simp[World.setCell])⟩
theorem ql1 {F:Nat->Prop} {w:World} (h:qc F w W) (d:w.heap.size<=b) (l:List Value):qc F w (qgi b W 0 l):=by
 have s:=qjm (b:=b) l 0 W;exact⟨s.1.trans h.os,s.2.1.trans h.tape,s.2.2.1.trans h.output,by rw[s.2.2.2];exact h.size,λk a c=>(qf4 (by omega) l 0 W).trans (h.block k a c)⟩
section
variable {w W9:World} {b:Nat} {M:RoM} {W:WoS} {Gs:Nat->Nat->Prop}
theorem RWo.outed (h:RWo w b M W Gs) {a:Value} {i:Nat} (c:qc (λk=>k=b) w W9) (d:qd W9 b [M.sv,M.wv,M.cv,M.av,a,U W.lost]) (own:W9.ownsRow 0 108 15 a (M.l.eraseIdx i).length (qcm (M.l.eraseIdx i))) (f:∀k,a.ownBlock=some k->w.heap.size<=k):
 RWo W9 b {M with yv:=a,l:=M.l.eraseIdx i} (qai W i) Gs:=
 h.reway (λk g j _=>c.block k g j) c.size d own (λk e=>.inr (f k e)) (by rw[<-h.nl,jdf,jdf,jdb,List.map_take,List.map_drop]) (λx m=>.inl (jdn m))
end
end
section
def qei (S:qe) (waits:List TxM) (k:Nat) (z:Int):Prop:=
 (z= -1/\∀j x,j<k->waits[j]?=some x->qz S x.t=false)\/
 (∃(i:Nat) (x:TxM),z=i/\i<k/\waits[i]?=some x/\qz S x.t=true/\(∀j y,j<k->waits[j]?=some y->qz S y.t=true->x.t.site<=y.t.site)/\∀j y,j<i->waits[j]?=some y->qz S y.t=true->x.t.site<y.t.site)
theorem qyj (S:qe) (waits:List TxM):qei S waits 0 (-1):=.inl ⟨rfl,λj x h=>by omega⟩
variable {S:qe} {k:Nat} {z:Int} {x:TxM}
theorem qz5 {waits:List TxM} (h:qei S waits k z) (l:waits[k]?=some x) (m:qz S x.t=false):qei S waits (k+1) z:=by
 have e:∀j y,j<k+1->waits[j]?=some y->qz S y.t=true->j<k:=λj y c a b=>by
  rcases jc7 j k with d|d
  ·exact d
  have:j=k:=by omega
  subst this;rw[l]at a;injection a with a;subst a;rw[m]at b;cases b
 rcases h with ⟨rfl,h⟩|⟨i,y,rfl,d,n,o,p,q⟩
 ·refine .inl ⟨rfl,λj y c a=>?_⟩;cases b:qz S y.t with
  |false=>rfl
  |true=>rw[<-b];exact h j y (e j y c a b) a
 exact .inr ⟨i,y,rfl,by omega,n,o,λj u c f g=>p j u (e j u c f g) f g,q⟩
theorem qyl {waits:List TxM} (h:qei S waits k (-1)) (c:waits[k]?=some x) (g:qz S x.t=true):qei S waits (k+1) k:=by
 rcases h with ⟨_,h⟩|⟨i,y,e,_⟩
 ·refine .inr ⟨k,x,rfl,by omega,c,g,λj y d a b=>?_,λj y d a b=>?_⟩
  ·rcases jc7 j k with f|f
   ·rw[h j y f a]at b;cases b
   have:j=k:=by omega
   subst this;rw[c]at a;injection a with a;rw[a];exact Int.le_refl _
  rw[h j y d a]at b;cases b
 omega
theorem q90 {waits:List TxM} (h:qei S waits k z) (c:0<=z):∃(i:Nat) (x:TxM),z=i/\i<k/\waits[i]?=some x:=by
 rcases h with ⟨e,_⟩|⟨i,x,e,a,b,_⟩
 ·omega
 exact⟨i,x,e,a,b⟩
variable {i:Nat} {y:TxM}
theorem q1o {waits:List TxM} (h:qei S waits k i) (m:waits[i]?=some y) (d:waits[k]?=some x) (n:qz S x.t=true) (p:x.t.site<y.t.site):qei S waits (k+1) k:=by
 rcases h with ⟨e,_⟩|⟨o,q,e,r,b,s,f,v⟩
 ·omega
 have:o=i:=by omega
 subst this;rw[m]at b;injection b with b;subst b;refine .inr ⟨k,x,rfl,by omega,d,n,λj u g a c=>?_,λj u g a c=>?_⟩
 ·rcases jc7 j k with l|l
  ·have:=f j u l a c;omega
  have:j=k:=by omega
  subst this;rw[d]at a;injection a with a;rw[a];exact Int.le_refl _
 have:=f j u g a c;omega
theorem q2x {waits:List TxM} (h:qei S waits k i) (c:waits[i]?=some y) (g:waits[k]?=some x) (p:¬x.t.site<y.t.site):qei S waits (k+1) i:=by
 rcases h with ⟨e,_⟩|⟨d,q,e,r,b,l,m,n⟩
 ·omega
 have:d=i:=by omega
 subst this;rw[c]at b;injection b with b;subst b;refine .inr ⟨d,y,rfl,by omega,c,l,λj u s a o=>?_,n⟩;rcases jc7 j k with f|f
 ·exact m j u f a o
 have:j=k:=by omega
 subst this;rw[g]at a;injection a with a;rw[<-a];omega
theorem qoo {α:Type} {p:α->Bool}:∀{l:List α} {i:Nat} {x:α},l[i]?=some x->p x=true->(∀j y,j<i->l[j]?=some y->p y=false)->l.find? p=some x
 |[],_,_,h,_,_=>by simp at h
 |a::l,0,x,h,hp,_=>by
  simp at h;subst h;simp[hp]
 |a::l,i+1,x,h,hp,hn=>by
  have b:=hn 0 a (by omega) rfl;rw[List.find?_cons,b];exact qoo (l:=l) (i:=i) (by simpa using h) hp (λj y d c=>hn (j+1) y (by omega) (by simpa using c))
theorem q4j {waits:List TxM} (h:qei S waits waits.length z) (f:waits.map (·.t)=S.waits) (q:∀x∈S.waits,0<=x.site/\x.site<=3):
 (z= -1/\qd7 S=none)\/∃(i:Nat) (x:TxM),z=i/\waits[i]?=some x/\qd7 S=some x.t:=by
 rcases h with ⟨rfl,h⟩|⟨i,x,rfl,B,l,r,u,v⟩
 ·have w:∀s,qbt S s=none:=λs=>qjy (λt b _=>by
   rw[<-f]at b;obtain⟨m,c,rfl⟩:=jcz.1 b;obtain⟨j,a⟩:=List.getElem?_of_mem c
   exact h j m (jck.1 a).1 a)
  exact .inl ⟨rfl,by simp[qd7,w]⟩
 refine .inr ⟨i,x,rfl,l,?_⟩
 have n:S.waits[i]?=some x.t:=by rw[<-f,jcv,l];rfl
 have o:∀j t,S.waits[j]?=some t->∃m,waits[j]?=some m/\m.t=t/\j<waits.length:=λj t a=>by
  rw[<-f,jcv]at a;cases c:waits[j]?with
  |none=>rw[c]at a;cases a
  |some m=>
   rw[c]at a;injection a with a;exact⟨m,rfl,a,(jck.1 c).1⟩
 have d:qbt S x.t.site=some x.t:=by
  refine qoo n (by simp[r]) (λj t a b=>?_);obtain⟨m,g,rfl,p⟩:=o j t b;cases hr:qz S m.t with
  |false=>simp
  |true=>
   have:=v j m a g hr;simp;omega
 have lo:∀s,s<x.t.site->qbt S s=none:=λs C=>qjy (λt b D=>by
  obtain⟨j,a⟩:=List.getElem?_of_mem b;obtain⟨m,g,rfl,p⟩:=o j t a;cases hr:qz S m.t with
  |false=>rfl
  |true=>
   have:=u j m p g hr
   omega)
 obtain⟨E,F⟩:=q x.t (jcq n)
 have A:x.t.site=0\/x.t.site=1\/x.t.site=2\/x.t.site=3:=by omega
 unfold qd7
 rcases A with e|e|e|e<;>rw[e]at d lo
 ·rw[d]
 ·rw[lo 0 (by omega),d]
 ·rw[lo 0 (by omega),lo 1 (by omega),d]
 rw[lo 0 (by omega),lo 1 (by omega),lo 2 (by omega),d]
end
structure qns (w0:World) (b:Nat) (G:Nat->Prop) (F:Nat->Option Obj) (S0 S:qe) (wr:World):Prop where
 mem:∃G',RS wr b G' F S/\(∀k,G' k->G k\/w0.heap.size<=k)
 touch:qc G w0 wr
 inv:j3 S
 wn:S.waits.length<=1000
 go:∀X,qfm S X->qfm S0 X
variable {w0 wr:World} {b:Nat} {G:Nat->Prop} {F:Nat->Option Obj} {S0 S:qe}
theorem qns.later {w':World} (h:qns w0 b G F S0 S wr) (a:Bw wr w'):qns w0 b G F S0 S w':=by
 obtain⟨G',c,d⟩:=h.mem;exact⟨⟨G',c.later a,d⟩,h.touch.trans (qc.ofBelow a),h.inv,h.wn,h.go⟩
variable {w:World}
theorem RS.left (h:RS w b G F S):qkk w b=200-S.log.length:=by
 obtain⟨lv,wv,sv,log,waits,h,a,_,_⟩:=h;obtain⟨d,lc,rfl,e⟩:=yx h.rlog;unfold qkk;rw[h.box.c 7,<-a];simp
theorem qns.done (h:qns w0 b G F S0 S wr):RPo w0 b G F S wr:=by
 obtain⟨G',a,c⟩:=h.mem;exact⟨G',a,c,h.touch⟩
variable {lv wv sv:Value}
theorem vu.reset {f:World} {log waits d:List TxM} (h:vu w b lv wv sv S log waits) (o:Bw w f) {g n c:Nat} (y:w.heap.size<=g)
 (own:f.ownsRow 0 102 9 (.slice (PT g) n c) n (zw d)) (j:d.length=n) (s:∀m∈d,m∈waits\/(qr w m.wa m.wc m.t.ws/\∀k,m.blk k->¬qu b lv wv sv k)) (W:List TxP):
 vu (f.setCell (AD b 8) (.slice (PT g) n c)) b lv (.slice (PT g) n c) sv {S with waits:=W} log d/\qc (qu b lv wv sv) w (f.setCell (AD b 8) (.slice (PT g) n c))/\
  ∀k,qu b lv (.slice (PT g) n c) sv k->qu b lv wv sv k\/w.heap.size<=k:=by
 subst j;have z:=h.box.lt
 have A:g≠b:=by omega
 have p:∀k,k<w.heap.size->k≠b->(f.setCell (AD b 8) (.slice (PT g) d.length c)).heap[k]?=w.heap[k]?:=λk l j=>(jce _ _ _ _ j).trans (o.block k l);have u:qd (f.setCell (AD b 8) (.slice (PT g) d.length c)) b (vz {S with waits:=W} lv (.slice (PT g) d.length c) sv):=(h.box.later o).set 8 _ (by simp[vz]);have v:(f.setCell (AD b 8) (.slice (PT g) d.length c)).ownsRow 0 102 9 (.slice (PT g) d.length c) d.length (zw d):=qf own (λk e=>jce _ _ _ _ (by simp[Value.ownBlock]at e;simp only;omega));refine⟨h.rewait (λk l j _=>p k ?_ j) u rfl v (λk e=>by simp[Value.ownBlock]at e;omega) (λm q=>?_),⟨?_,?_,?_,?_,λk l j=>p k l (λe=>j (.inl e))⟩,λk l=>?_⟩
 ·rcases l with a|⟨m,q,a⟩
  ·exact h.lt k a
  exact(h.hold m q).1.blk_lt k a
 ·rcases s m q with a|⟨a,r⟩
  ·exact .inl a
  refine .inr ⟨a.kept (λk e=>p k (a.blk_lt k e) (λx=>r k e (.inl x))),λk e=>⟨r k e,λx=>?_⟩⟩;have:=a.blk_lt k e;simp[Value.ownBlock]at x;omega
 ·exact o.os
 ·exact o.tape
 ·exact o.output
 ·have:=o.size;simpa[World.setCell]using this
 rcases l with a|a|a|a
 ·exact .inl (.inl a)
 ·exact .inl (.inr (.inl a))
 ·simp[Value.ownBlock]at a;exact .inr (by omega)
 exact .inl (.inr (.inr (.inr a)))
variable {w6:World} {G':Nat->Prop} {i:Nat} {m:TxM}
theorem qwj {o:World} {c j l:Value} {log waits:List TxM} (d:qns w0 b G F S0 S wr) (B:vu wr b lv wv sv S log waits) (C:qdn wr F log) (D:log.map (·.t)=S.log) (p:waits.map (·.t)=S.waits)
 (q:∀k,G' k↔(qu b lv wv sv k\/∃m∈log++waits,m.blk k)) (r:∀k,G' k->G k\/w0.heap.size<=k) (hi:waits[i]?=some m) (u:S.log.length<200) (f:qd7 S=some m.t)
 (v:qc (qu b lv wv sv) wr w6) (y:∀k,qu b lv c sv k->qu b lv wv sv k\/wr.heap.size<=k)
 (E:vu o b j c l (vr {S with waits:=qdv S.waits m.t} m.t) (log++[m]) (waits.take i++waits.drop (i+1))) (H:∀k,qu b j c l k->qu b lv c sv k\/w6.heap.size<=k) (I:qc (qu b lv c sv) w6 o):
 qns w0 b G F S0 (qj5 S m.t) o:=by
 have z:=jcq hi
 have A:m.t∈S.waits:=by rw[<-p];exact jcz.2 ⟨m,z,rfl⟩
 have J:S.waits[i]?=some m.t:=by rw[<-p,jcv,hi];rfl
 have K:∀x∈waits.take i++waits.drop (i+1),x∈waits:=λx f=>by
  rcases jcf.1 f with a|a
  ·exact List.mem_of_mem_take a
  exact List.mem_of_mem_drop a
 have L:∀k,qu b j c l k->qu b lv wv sv k\/wr.heap.size<=k:=λk n=>by
  rcases H k n with a|a
  ·exact y k a
  exact .inr (by have:=v.size;omega)
 have g:=v.more I y;have M:qc G' wr o:=⟨g.os,g.tape,g.output,g.size,λk n N=>g.block k n (λe=>N ((q k).2 (.inl e)))⟩;refine⟨⟨λk=>qu b j c l k\/∃x∈(log++[m])++(waits.take i++waits.drop (i+1)),x.blk k,⟨j,c,l,log++[m],waits.take i++waits.drop (i+1),E,by rw[jdb,D];rfl,?_,λk=>jdl,C.touch B g (λx f=>jcf.2 (.inl f))⟩,λk n=>?_⟩,d.touch.more M r,d.inv.gone A u,?_,λX O=>d.go X (.step u f O)⟩
 ·show _=qdv S.waits m.t;rw[qpm d.inv.nums J,jdb,List.map_take,List.map_drop,p]
 ·rcases n with a|⟨x,f,a⟩
  ·rcases L k a with h|h
   ·exact r k ((q k).2 (.inl h))
   exact .inr (by have:=d.touch.size;omega)
  refine r k ((q k).2 (.inr ⟨x,?_,a⟩));rcases jcf.1 f with h|h
  ·rcases jcf.1 h with s|s
   ·exact jcf.2 (.inl s)
   rw[jcj.1 s];exact jcf.2 (.inr z)
  exact jcf.2 (.inr (K x h))
 have:=qf5 d.inv.nums A;have:=d.wn;show (qdv S.waits m.t).length<=1000;omega
theorem qsa {c:Value} {log waits:List TxM} (d:qns w0 b G F S0 S wr) (f:vu wr b lv wv sv S log waits) (q:qdn wr F log) (g:log.map (·.t)=S.log) (h:waits.map (·.t)=S.waits)
 (r:∀k,G' k↔(qu b lv wv sv k\/∃m∈log++waits,m.blk k)) (s:∀k,G' k->G k\/w0.heap.size<=k) (hi:waits[i]?=some m) (u:S.log.length<200) (v:qd7 S=some m.t)
 (j:qc (qu b lv wv sv) wr w6) (n:∀k,qu b lv c sv k->qu b lv wv sv k\/wr.heap.size<=k) (x:vu w6 b lv c sv {S with waits:=qdv S.waits m.t} log (waits.take i++waits.drop (i+1))):
 Ca 129 #[PP b,.agg (List.toArray (T9 m.t.site m.t.seq m.t.wall m.t.count m.t.d0 m.t.d1 m.t.d2 m.t.d3 m.wa m.t.ws.length m.wc))] w6 λe w'=>
  e=.returned (.tuple #[])/\qns w0 b G F S0 (qj5 S m.t) w'/\qc (qu b lv c sv) w6 w':=by
 have o:=jcq hi;have a:=f.hold m (jcf.2 (.inr o))
 have y:m.t∈S.waits:=by rw[<-h];exact jcz.2 ⟨m,o,rfl⟩
 obtain⟨⟨s0,s3⟩,B,C⟩:=qcg (d.inv.wt m.t y).1;have D:=d.inv.len
 have E:log.length=S.log.length:=by rw[<-g];simp
 refine(qj3 m w6 x ⟨a.1.kept (λk e=>j.block k (a.1.blk_lt k e) (a.2 k e)),λk e z=>?_⟩ s0 s3 (by show S.l.length+_<=_;omega) (by omega)).mono λe w' ⟨A,H,I,p1,p2,p3⟩=>⟨A,qwj d f q g h r s hi u v j n p1 p2 p3,p3⟩;rcases n k z with p|p
 ·exact a.2 k e p
 have:=a.1.blk_lt k e;omega
end Go.Proofs.YtoanjdndmlffdaaGreatDoor
